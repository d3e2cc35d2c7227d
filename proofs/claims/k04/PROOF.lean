import PyProof.Rows.All
import Wide.All
import OpenK.AllK
import Wide.FinOn
import HandS.ForMost
import HandS.IsInst
import HandS.Wide
import HandS.Walk
import HandS.Zip
import HandS.Codes
import HandS.More
import HandS.SetKeys
import HandS.Lambda
import HandS.ExcInit
import HandS.ExcField
import HandS.HotCalls
import KE.KDflt
import KE.KTryMore
import HandS.Deep
import PyProof.StrBlock2
import PyProof.EnumMake
import PyProof.Draws
import KE.GoesMore
import HandS.ClsMeth
import HandS.Defaults
import KE.DatumOrd
import PyProof.P3Eq
import HandS.SlotsOwn
import HandS.TupAny
import HandS.Star
import HandS.TupSets
import HandS.List
import PyProof.Rows.SetFrom
import PyProof.Rows.SortStr
import PyProof.Rows.SortShellAny
import HandS.Dict
import HandS.WrittenGet
import HandS.FStr
import HandS.Text
import HandS.WordsExc
import HandS.EndOwn
import PySem.Challenge.RW_addedgrounds_k04_texts_of_formulas_refus
set_option Elab.async false
set_option maxRecDepth 100000
set_option maxHeartbeats 4000000
set_option linter.unusedVariables false
namespace Ag
open PySem PySem.Spec PyProof.Rows L2

/-! ### heaps: all but the bag is kept -/
def Kp (b : Addr) (H H' : Hp) : Prop := ∀ c o, H c = some o → c ≠ b → H' c = some o
theorem Kp.refl (b : Addr) (H : Hp) : Kp b H H := fun _ _ e _ => e
theorem Kp.trans {b : Addr} {H H1 H2 : Hp} (p : Kp b H H1) (q : Kp b H1 H2) : Kp b H H2 := fun c o e n => q c o (p c o e n) n
theorem Kp.of {b : Addr} {H H' : Hp} (s : Same H H') : Kp b H H' := fun c o e _ => s c o e
theorem Kp.seqL {K : PySem.W.Frag} {b a : Addr} {H H' : Hp} {xs : List V} (p : Kp b H H') (n : a ≠ b) (h : SqL K H a xs) : SqL K H' a xs := by
  rcases h with (h | ⟨o, h⟩) | h
  · exact .inl (.inl (p _ _ h n))
  · exact .inl (.inr ⟨o, p _ _ h n⟩)
  · exact .inr h
theorem Kp.seqT {K : PySem.W.Frag} {b a : Addr} {H H' : Hp} {xs : List V} (p : Kp b H H') (n : a ≠ b) (h : SqT K H a xs) : SqT K H' a xs := by
  rcases h with (h | ⟨o, h⟩) | h
  · exact .inl (.inl (p _ _ h n))
  · exact .inl (.inr ⟨o, p _ _ h n⟩)
  · exact .inr h
theorem sameT {K : PySem.W.Frag} {H H' : Hp} {a : Addr} {xs : List V} (e : Same H H') (h : SqT K H a xs) : SqT K H' a xs := by
  rcases h with (h | ⟨o, h⟩) | h
  · exact .inl (.inl (e _ _ h))
  · exact .inl (.inr ⟨o, e _ _ h⟩)
  · exact .inr h
theorem same_new {H : Hp} {p : Addr} (h : H p = none) (o : HO) : Same H (upd H p o) := fun b u q => by rw [upd_ne (ne_of_none q h)]; exact q

/-! ### the bag that a law draws from -/
def Bag (H : Hp) (b l : Addr) : Prop := ∃ (ns : List Int) (at' : Nat) (big seed cnt : Int), H b = some (.lst [.ref l, .int at', .int big, .int seed, .int cnt]) ∧
  H l = some (.lst (ns.map V.int)) ∧ l ≠ b ∧ ns.length ≤ 63 ∧ 0 ≤ big ∧ 0 ≤ seed ∧ seed < 2147483629
theorem Bag.kp {H H' : Hp} {b l : Addr} (g : Bag H b l) (s : Same H H') : Bag H' b l := by
  obtain ⟨ns, at', big, seed, cnt, h1, h2, r⟩ := g
  exact ⟨ns, at', big, seed, cnt, s _ _ h1, s _ _ h2, r⟩
theorem Bag.new {H : Hp} {b l a : Addr} (g : Bag H b l) (h : H a = none) : a ≠ b ∧ a ≠ l := by
  obtain ⟨ns, at', big, seed, cnt, h1, h2, _⟩ := g
  exact ⟨(ne_of_none h1 h).symm, (ne_of_none h2 h).symm⟩
theorem Bag.upd {H : Hp} {b l a : Addr} {o : HO} (g : Bag H b l) (h1 : a ≠ b) (h2 : a ≠ l) : Bag (upd H a o) b l := by
  obtain ⟨ns, at', big, seed, cnt, g1, g2, r⟩ := g
  exact ⟨ns, at', big, seed, cnt, by rw [upd_ne h1.symm]; exact g1, by rw [upd_ne h2.symm]; exact g2, r⟩
theorem Kp.upd {b a : Addr} {H H' : Hp} {o : HO} (k : Kp b H H') (h : H a = none) : Kp b H (upd H' a o) := fun c u e n => by
  rw [upd_ne (ne_of_none e h)]
  exact k c u e n
theorem Kp.free {b a : Addr} {H H' : Hp} (k : Kp b H H') (n : a ≠ b) (h : H' a = none) : H a = none := by
  cases q : H a with
  | none => rfl
  | some o =>
    rw [k a o q n] at h
    cases h

/-- what may be drawn from: a text's signs, the items of a list or a tuple -/
def Itm (K : PySem.W.Frag) (H : Hp) (b : Addr) (x : V) (vs : List V) : Prop := (∃ z : Str, x = .str z ∧ z.length ≤ sizeLine ∧ vs = z.cps.toList.map fun c => V.str ⟨#[c]⟩) ∨ ∃ a, x = .ref a ∧ a ≠ b ∧ (SqL K H a vs ∨ SqT K H a vs)
/-! ### operators of several kinds at once -/
theorem opOr {X : Cx} {f : Value → Value → Sem Value} {r1 r2 : R2} (h1 : OpR X f r1) (h2 : OpR X f r2) : OpR X f (fun x y H Q => r1 x y H Q ∨ r2 x y H Q) := by
  intro pins s σ H x y v u Q I rx ry h
  rcases h with h | h
  · exact h1 pins s σ H x y v u Q I rx ry h
  · exact h2 pins s σ H x y v u Q I rx ry h

/-! ### data of any depth without dicts -/
theorem Dp_same_all {K : PySem.W.Frag} {H H' : Hp} (s : Same H H') : (∀ (d : PyData) (v : V), Dp K H v d → Dp K H' v d) ∧ True := by
  refine ⟨?_, trivial⟩
  intro d v h
  exact Dp.rec (motive_1 := fun v d _ => Dp K H' v d) (motive_2 := fun vs ds _ => DpAll K H' vs ds) .non .bl .int .str
    (fun q _ ih => .lst (s.seq q) ih) (fun q _ ih => .tup (sameT s q) ih) .nil (fun _ _ a b => .cons a b) h
theorem Dp_same {K : PySem.W.Frag} {H H' : Hp} (s : Same H H') {d : PyData} {v : V} (h : Dp K H v d) : Dp K H' v d := (Dp_same_all s).1 d v h
theorem DpAll_same {K : PySem.W.Frag} {H H' : Hp} (s : Same H H') : ∀ {vs : List V} {ds : List PyData}, DpAll K H vs ds → DpAll K H' vs ds
  | _, _, .nil => .nil
  | _, _, .cons a b => .cons (Dp_same s a) (DpAll_same s b)
theorem dpall_len {K : PySem.W.Frag} {H : Hp} : ∀ {vs : List V} {ds : List PyData}, DpAll K H vs ds → vs.length = ds.length
  | _, _, .nil => rfl
  | _, _, .cons _ b => congrArg (· + 1) (dpall_len b)
theorem dpall_get {K : PySem.W.Frag} {H : Hp} : ∀ {vs : List V} {ds : List PyData} {i : Nat} {v : V}, DpAll K H vs ds → vs[i]? = some v → ∃ d, ds[i]? = some d ∧ Dp K H v d
  | _, _, _, _, .nil, e => by simp at e
  | _, _, 0, _, .cons a _, e => by
    simp at e
    subst e
    exact ⟨_, rfl, a⟩
  | _, _, i + 1, _, .cons _ b, e => by
    obtain ⟨d, h1, h2⟩ := dpall_get (i := i) b (by simpa using e)
    exact ⟨d, by simpa using h1, h2⟩
/-- no dict in it, less than n deep, at most 1000 items in a list -/
def okd : Nat → PyData → Bool
  | 0, _ => false
  | n + 1, .list ds => decide (ds.length ≤ 1000) && ds.all (okd n)
  | n + 1, .tuple ds => decide (ds.length ≤ 1000) && ds.all (okd n)
  | _ + 1, .dict _ => false
  | _ + 1, _ => true
def tyD : PyData → String
  | .none => "NoneType"
  | .bool _ => "bool"
  | .int _ => "int"
  | .str _ => "str"
  | .list _ => "list"
  | .tuple _ => "tuple"
  | .dict _ => "dict"
theorem dp_tyx {K : PySem.W.Frag} {H : Hp} {v : V} {d : PyData} (h : Dp K H v d) : TyX K H v (.type (tyD d)) := by
  cases h with
  | non => exact .base .non
  | bl b => exact .base (.bl b)
  | int i => exact .base (.int i)
  | str x => exact .base (.str x)
  | lst q _ =>
    rcases q with (q | ⟨o, q⟩) | ⟨o, its, n, e, c, _⟩
    · exact .base (.lst q)
    · exact .base (.frz q)
    · exact .kList e c
  | tup q _ =>
    rcases q with (q | ⟨o, q⟩) | ⟨o, its, n, e, c, _⟩
    · exact .base (.tup q)
    · exact .fTuple q
    · exact .kTuple e c
/-- isinstance of such data by a built-in class's name -/
def isD (T : String) (d : PyData) : Bool := (kitB (tyD d) T).getD false
theorem isi_of {K : PySem.W.Frag} {H : Hp} {v : V} {d : PyData} {T : String} {Q : VK} (h : Dp K H v d) (hk : (kitB (tyD d) T).isSome = true) (q : Q (.bl (isD T d)) H) : rIsi K [v, .ty T] H Q := by
  refine ⟨v, .ty T, _, .type T, isD T d, rfl, .ty T, dp_tyx h, ?_, q⟩
  refine kit_ty ?_
  unfold isD
  cases e : kitB (tyD d) T with
  | none => rw [e] at hk; cases hk
  | some b => rfl
theorem kit_some {d : PyData} : (kitB (tyD d) "dict").isSome = true ∧ (kitB (tyD d) "list").isSome = true ∧ (kitB (tyD d) "tuple").isSome = true ∧ (kitB (tyD d) "bool").isSome = true ∧ (kitB (tyD d) "int").isSome = true ∧ (kitB (tyD d) "str").isSome = true := by
  cases d <;> (simp only [tyD]; decide +kernel)
theorem isD_dict {n : Nat} {d : PyData} (h : okd n d = true) : isD "dict" d = false := by
  cases d with
  | dict kvs => cases n <;> simp [okd] at h
  | _ => simp only [isD, tyD]; decide +kernel
theorem iteE {c : Bool} {A B : Prop} (e : c = false) (h : B) : if c = true then A else B := by
  subst e
  exact iteF h
theorem iteU {c : Bool} {A B : Prop} (e : c = true) (h : A) : if c = true then A else B := by
  subst e
  exact iteT h
theorem isiT_of {K : PySem.W.Frag} {H : Hp} {v : V} {d : PyData} {p : Addr} {Q : VK} (h : Dp K H v d) (hp : H p = some (.tup [.ty "list", .ty "tuple"])) (q : Q (.bl (isD "list" d || isD "tuple" d)) H) : rIsiT K [v, .ref p] H Q := by
  refine ⟨v, p, [.ty "list", .ty "tuple"], _, [.type "list", .type "tuple"], _, rfl, hp, .cons (.ty _) (.cons (.ty _) .nil), dp_tyx h, ?_, q⟩
  have h1 : PySem.W.kitOne K (.type (tyD d)) (.type "list") = some (isD "list" d) := kit_ty (by cases d <;> (simp only [isD, tyD]; decide +kernel))
  have h2 : PySem.W.kitOne K (.type (tyD d)) (.type "tuple") = some (isD "tuple" d) := kit_ty (by cases d <;> (simp only [isD, tyD]; decide +kernel))
  refine kitAny_cons h1 (fun e => ?_) (fun e => by rw [e]; rfl)
  rw [e]
  refine kitAny_cons h2 (fun e2 => ?_) (fun e2 => by rw [e2]; rfl)
  rw [e2]
  rfl
theorem walk_zipT {K : PySem.W.Frag} {a b : Addr} {xs ys : List V} {n : Nat} (hn : n = min xs.length ys.length) : Walk (RZ.ItzT K a b) n (fun H => SqT K H a xs ∧ SqT K H b ys) (YPair (fun i => xs[i]?) (fun i => ys[i]?)) := by
  subst hn
  refine ⟨fun i _ hi q => ?_, fun _ q => ⟨xs, ys, q.1, q.2, by omega⟩, fun i H v H' _ q y => ?_⟩
  · have h1 : i < xs.length := by omega
    have h2 : i < ys.length := by omega
    exact ⟨xs, ys, xs[i], ys[i], q.1, q.2, by simp [h1], by simp [h2]⟩
  · obtain ⟨T, x, z, h1, h2, h3, h4, h5⟩ := y
    exact ⟨T, x, z, h1, h2, h3, h4 xs q.1, h5 ys q.2⟩
theorem at_any {α : Type} {xs : List α} {z : Int} {j : Nat} {v : α} (e : z = (j : Int)) (h : xs[j]? = some v) : atI xs z = some v := by
  rw [e]
  exact atI_nat h
theorem isk {K : PySem.W.Frag} {d : PyData} {T : String} (hk : (kitB (tyD d) T).isSome = true) : PySem.W.kitOne K (.type (tyD d)) (.type T) = some (isD T d) := by
  refine kit_ty ?_
  unfold isD
  cases e : kitB (tyD d) T with
  | none => rw [e] at hk; cases hk
  | some b => rfl
theorem iskT {K : PySem.W.Frag} {d : PyData} : PySem.W.kitAny K (.type (tyD d)) [.type "list", .type "tuple"] = some (isD "list" d || isD "tuple" d) := by
  refine kitAny_cons (isk kit_some.2.1) (fun e => ?_) (fun e => by rw [e]; rfl)
  rw [e]
  refine kitAny_cons (isk kit_some.2.2.1) (fun e2 => ?_) (fun e2 => by rw [e2]; rfl)
  rw [e2]
  rfl
theorem isD_leaf {d : PyData} (h2 : ∀ ds, d ≠ .list ds) (h3 : ∀ ds, d ≠ .tuple ds) : (isD "list" d || isD "tuple" d) = false := by
  cases d with
  | list ds => exact absurd rfl (h2 ds)
  | tuple ds => exact absurd rfl (h3 ds)
  | _ => simp only [isD, tyD]; decide +kernel
theorem isD_seq {d : PyData} (h : (∃ ds, d = .list ds) ∨ ∃ ds, d = .tuple ds) : (isD "list" d || isD "tuple" d) = true := by
  rcases h with ⟨ds, rfl⟩ | ⟨ds, rfl⟩ <;> (simp only [isD, tyD]; decide +kernel)
theorem ct2 : Paired ClsV [.ty "list", .ty "tuple"] [.type "list", .type "tuple"] := .cons (.ty _) (.cons (.ty _) .nil)
theorem rep_bl (n : Nat) : List.replicate n (V.bl true) = (List.replicate n true).map V.bl := by rw [List.map_replicate]
theorem rep_all (n : Nat) : (List.replicate n true).all id = true := by
  induction n with
  | zero => rfl
  | succ n ih => rw [List.replicate_succ, List.all_cons, ih]; rfl
theorem small {n : Nat} (h : n ≤ 1000) : n ≤ sizeLine := Nat.le_of_lt (small1000 h)

/-! ### words of small letters -/
def abc : List Nat := (List.range 26).map (· + 97)
theorem abc_str : ("abcdefghijklmnopqrstuvwxyz" : Str) = SX.S abc := by decide +kernel
theorem abc_len : abc.length = 26 := by decide
theorem abc_at {i : Nat} (h : i < 26) : abc[i]? = some (i + 97) := by
  unfold abc
  rw [List.getElem?_map, List.getElem?_range h]
  rfl
theorem abc_mem {c : Nat} : c ∈ abc ↔ 97 ≤ c ∧ c < 123 := by
  unfold abc
  rw [List.mem_map]
  constructor
  · rintro ⟨i, hi, rfl⟩
    rw [List.mem_range] at hi
    omega
  · rintro ⟨h1, h2⟩
    exact ⟨c - 97, by rw [List.mem_range]; omega, by omega⟩
def Low (cs : List Nat) : Prop := ∀ c ∈ cs, 97 ≤ c ∧ c < 123
theorem Low.app {a b : List Nat} (h : Low a) (g : Low b) : Low (a ++ b) := fun c hc => by
  rcases List.mem_append.mp hc with q | q
  · exact h c q
  · exact g c q
theorem Low.take {a : List Nat} (h : Low a) (n : Nat) : Low (a.take n) := fun c hc => h c (List.mem_of_mem_take hc)
theorem Low.drop {a : List Nat} (h : Low a) (n : Nat) : Low (a.drop n) := fun c hc => h c (List.mem_of_mem_drop hc)
theorem Low.one {c : Nat} (h : 97 ≤ c ∧ c < 123) : Low [c] := fun d hd => by
  rw [List.mem_singleton] at hd
  subst hd
  exact h
/-- the k-th of the names that differ in one letter -/
def nm (st : List Nat) (at' fi k : Nat) : List Nat := st.take at' ++ [97 + (fi + 5 * k) % 26] ++ st.drop at'
structure Nms (m : Nat) (ws : List (List Nat)) : Prop where
  ex : ∃ (st : List Nat) (at' fi : Nat), Low st ∧ st.length ≤ 4 ∧ at' ≤ st.length ∧ fi < 26 ∧ ws = (List.range m).map (nm st at' fi)
theorem nm_low {st : List Nat} {at' fi k : Nat} (h : Low st) : Low (nm st at' fi k) := ((h.take at').app (.one (by omega))).app (h.drop at')
theorem nm_len {st : List Nat} {at' fi k : Nat} : (nm st at' fi k).length = st.length + 1 := by
  unfold nm
  rw [List.length_append, List.length_append, List.length_take, List.length_drop, List.length_singleton]
  omega
theorem Nms.len {m : Nat} {ws : List (List Nat)} (h : Nms m ws) : ws.length = m := by
  obtain ⟨st, at', fi, _, _, _, _, rfl⟩ := h.ex
  rw [List.length_map, List.length_range]
theorem Nms.word {m : Nat} {ws : List (List Nat)} (h : Nms m ws) : ∀ w ∈ ws, Low w ∧ 1 ≤ w.length ∧ w.length ≤ 5 := by
  obtain ⟨st, at', fi, h1, h2, _, _, rfl⟩ := h.ex
  intro w hw
  obtain ⟨k, _, rfl⟩ := List.mem_map.mp hw
  rw [nm_len]
  exact ⟨nm_low h1, by omega, by omega⟩
theorem joinL_nil : ∀ cs : List (List Nat), TL.joinL [] cs = cs.flatten
  | [] => rfl
  | [p] => by simp [TL.joinL]
  | p :: q :: r => by
    show p ++ ([] ++ TL.joinL [] (q :: r)) = (p :: q :: r).flatten
    rw [joinL_nil (q :: r)]
    simp
/-- "".join of signs -/
theorem join_signs (cs : List Nat) : Txt.join (Str.ofString "") (cs.map fun c => (⟨#[c]⟩ : Str)) = SX.S cs := by
  have e0 : Str.ofString "" = SX.S [] := by decide +kernel
  have e1 : (cs.map fun c => (⟨#[c]⟩ : Str)) = (cs.map fun c => [c]).map SX.S := by rw [List.map_map]; rfl
  have e2 : (cs.map fun c => [c]).flatten = cs := by
    clear e1
    induction cs with
    | nil => rfl
    | cons c r ih => simp [ih]
  rw [e0, e1, SX.join_S, joinL_nil, e2]
end Ag
namespace Ag
open PySem PySem.Spec PyProof.Rows L2
/-! ### the program's words: letters, names -/
def isLet (cs : List Nat) : Bool := decide (cs.length = 1) && cs.all fun c => decide (97 ≤ c) && decide (c < 123)
def isNm (cs : List Nat) : Bool := decide (1 ≤ cs.length) && decide (cs.length ≤ 6) && cs.all fun c => decide (97 ≤ c) && decide (c < 123)
theorem isNm_low {cs : List Nat} (h : Low cs) (h1 : 1 ≤ cs.length) : isNm cs = decide (cs.length ≤ 6) := by
  unfold isNm
  have e : (cs.all fun c => decide (97 ≤ c) && decide (c < 123)) = true := by
    rw [List.all_eq_true]
    intro c hc
    simp only [Bool.and_eq_true, decide_eq_true_eq]
    exact h c hc
  rw [e, decide_eq_true h1, Bool.true_and, Bool.and_true]
theorem isNm_bad {cs : List Nat} {c : Nat} (h : c ∈ cs) (hc : ¬ (97 ≤ c ∧ c < 123)) : isNm cs = false := by
  unfold isNm
  have e : (cs.all fun c => decide (97 ≤ c) && decide (c < 123)) = false := by
    rw [List.all_eq_false]
    refine ⟨c, h, ?_⟩
    simp only [Bool.and_eq_true, decide_eq_true_eq]
    exact hc
  rw [e, Bool.and_false]
theorem isLet_in (cs : List Nat) (h : cs.length = 1) : (!(Builtin.Str.occurrences (SX.S abc) (SX.S cs) 0 (SX.S abc).length 1).isEmpty) = isLet cs := by
  match cs, h with
  | [c], _ =>
    rw [SX.in_one]
    unfold isLet
    by_cases hc : 97 ≤ c ∧ c < 123
    · rw [decide_eq_true (abc_mem.mpr hc)]
      simp [hc.1, hc.2]
    · rw [decide_eq_false (fun z => hc (abc_mem.mp z))]
      simp
      intro h1
      omega
/-- a value of no text -/
def NoStr (K : PySem.W.Frag) (H : Hp) (x : V) : Prop := ∃ t, TyX K H x t ∧ PySem.W.kitOne K t (.type "str") = some false
/-! ### a call with keywords alone -/
structure KW0 (fd : FuncData) (ps ks : List Str) (g : List Value → List Value) (gV : List V → List V) : Prop where
  to : ∀ (s : Shared) (ws : List Value), ws.length = ks.length → BindsTo s fd ⟨[], ks.zip ws⟩ (ps.zip (g ws))
  rel : ∀ {zs : List V} {ws : List Value}, Vals zs ws → Vals (gV zs) (g ws)
def tCallW (n : Nat) (sp : Sp) (gV : List V → List V) (E : XK) (tk : TA) : TE := fun σ H Q => tk σ H fun zs H2 => zs.length = n ∧ sp (gV zs) H2 Q E
theorem pe_callW {X : Cx} {CX : CXT} {k : Nat} {f : Addr} {fd : FuncData} {ps ks : List Str} {sp : Sp} {E : XK} {x : Str} {p pos : Pos} {kws : List Keyword} {tk : TA} {g : List Value → List Value} {gV : List V → List V}
    (F : FnOk X.prog X.w X.K X.mg X.base CX k f fd ps sp) (hr : Room k X.A) (hg : Gl X x) (hm : X.mg x = some (.ref f)) (hk : PySem.W.keepIn X.K (.ref f) = true) (hb : KW0 fd ps ks g gV) (hx : Passes CX X E) (hkw : PK X kws tk)
    (hall : (backToKw pos (keywordEach kws X.env)).all (·.1.isSome) = true := by rfl) (hks : (backToKw pos (keywordEach kws X.env)).filterMap (·.1) = ks := by rfl) (hdb : (x == ("__debug__" : Str)) = false := by decide)
    (hpl : ((backTo pos (starEach [] X.env)).any (·.1) || (backToKw pos (keywordEach kws X.env)).any (·.1.isNone)) = false := by rfl) : PE X (.Call (.Name x p) [] kws pos) (tCallW ks.length sp gV E tk) := by
  refine ⟨fun pins s σ H Q I h => ?_⟩
  refine wpAny_Call_Name_kw (ld_glob I hg hm ?_ hdb)
  refine PySem.W.callWith_KW0 (h₀ := X.base) I.ok.mod.kin hk hall ?_ hpl
  refine thn (hkw.run pos pins s σ H _ I h) fun ws s2 ⟨zs, H2, I2, rz, l2, q2⟩ => ⟨I2.kIn, ?_⟩
  rw [hks]
  have r2 := hb.rel rz
  refine wpAny_call (codeAny_mono (F.run X.A X.stack s2 H2 ⟨[], ks.zip ws⟩ (g ws) (gV zs) Q E hr I2.env0 (hb.to s2 ws (rz.length.symm.trans l2)) r2 q2) fun r s' hq => ?_)
  cases r with
  | error e => exact hx pins σ H2 s2 e s' I2 hq
  | ok fl =>
    cases fl with
    | ret u => exact I2.after hq
    | next => exact False.elim hq
    | brk => exact False.elim hq
    | cont => exact False.elim hq
end Ag
namespace Ag
open PySem PySem.Spec PyProof.Rows L2
theorem dpall_bools {K : PySem.W.Frag} {H : Hp} : ∀ bs : List Bool, DpAll K H (bs.map V.bl) (bs.map PyData.bool)
  | [] => .nil
  | b :: r => .cons (.bl b) (dpall_bools r)
theorem okd_bools {n : Nat} {bs : List Bool} (h : bs.length ≤ 1000) : okd (n + 2) (.list (bs.map PyData.bool)) = true := by
  simp only [okd, List.length_map, decide_eq_true h, Bool.true_and, List.all_eq_true]
  intro d hd
  obtain ⟨b, _, rfl⟩ := List.mem_map.mp hd
  rfl
theorem sizes_signs (l : List Nat) : ((l.map fun c => (⟨#[c]⟩ : Str)).map (·.length)).sum = l.length := by
  induction l with
  | nil => rfl
  | cons c r ih =>
    rw [List.map_cons, List.map_cons, List.sum_cons, ih, List.length_cons]
    show 1 + r.length = r.length + 1
    omega
theorem itm_abc {K : PySem.W.Frag} {H : Hp} {b : Addr} : Itm K H b (.str "abcdefghijklmnopqrstuvwxyz") (abc.map fun c => V.str ⟨#[c]⟩) := .inl ⟨_, rfl, by rw [abc_str, SX.S_len, abc_len]; decide, by rw [abc_str]⟩
end Ag
namespace Ag
open PySem PySem.Spec PyProof.Rows L2
theorem tyx_kp {K : PySem.W.Frag} {b : Addr} {H H' : Hp} (k : Kp b H H') {x : V} {t : Value} (h : TyX K H x t) (n : x ≠ .ref b) : TyX K H' x t := by
  have nb : ∀ a, V.ref a ≠ .ref b → a ≠ b := fun a z e => z (by rw [e])
  cases h with
  | base h =>
    refine .base ?_
    cases h with
    | non => exact .non
    | bl y => exact .bl y
    | int i => exact .int i
    | str y => exact .str y
    | flt y => exact .flt y
    | lst e => exact .lst (k _ _ e (nb _ n))
    | frz e => exact .frz (k _ _ e (nb _ n))
    | tup e => exact .tup (k _ _ e (nb _ n))
    | dK e => exact .dK (k _ _ e (nb _ n))
    | dT e => exact .dT (k _ _ e (nb _ n))
    | ins e cl ha hn htk hm => exact .ins (k _ _ e (nb _ n)) cl ha hn htk hm
  | byt y => exact .byt y
  | set e => exact .set (k _ _ e (nb _ n))
  | kList e c => exact .kList e c
  | kTuple e c => exact .kTuple e c
  | kDict e c => exact .kDict e c
  | fTuple e => exact .fTuple (k _ _ e (nb _ n))
  | fDict e => exact .fDict (k _ _ e (nb _ n))
theorem tyx_same {K : PySem.W.Frag} {H H' : Hp} (k : Same H H') {x : V} {t : Value} (h : TyX K H x t) : TyX K H' x t := by
  cases h with
  | base h =>
    refine .base ?_
    cases h with
    | non => exact .non
    | bl y => exact .bl y
    | int i => exact .int i
    | str y => exact .str y
    | flt y => exact .flt y
    | lst e => exact .lst (k _ _ e)
    | frz e => exact .frz (k _ _ e)
    | tup e => exact .tup (k _ _ e)
    | dK e => exact .dK (k _ _ e)
    | dT e => exact .dT (k _ _ e)
    | ins e cl ha hn htk hm => exact .ins (k _ _ e) cl ha hn htk hm
  | byt y => exact .byt y
  | set e => exact .set (k _ _ e)
  | kList e c => exact .kList e c
  | kTuple e c => exact .kTuple e c
  | kDict e c => exact .kDict e c
  | fTuple e => exact .fTuple (k _ _ e)
  | fDict e => exact .fDict (k _ _ e)
theorem NoStr.kp {K : PySem.W.Frag} {b : Addr} {H H' : Hp} (k : Kp b H H') {x : V} (h : NoStr K H x) (n : x ≠ .ref b) : NoStr K H' x := by
  obtain ⟨t, h1, h2⟩ := h
  exact ⟨t, tyx_kp k h1 n, h2⟩
theorem NoStr.same {K : PySem.W.Frag} {H H' : Hp} (k : Same H H') {x : V} (h : NoStr K H x) : NoStr K H' x := by
  obtain ⟨t, h1, h2⟩ := h
  exact ⟨t, tyx_same k h1, h2⟩
theorem nostr_non {K : PySem.W.Frag} {H : Hp} : NoStr K H .non := ⟨_, .base .non, kit_ty (by decide +kernel)⟩
theorem nostr_int {K : PySem.W.Frag} {H : Hp} {i : Int} : NoStr K H (.int i) := ⟨_, .base (.int i), kit_ty (by decide +kernel)⟩
theorem nostr_bl {K : PySem.W.Frag} {H : Hp} {c : Bool} : NoStr K H (.bl c) := ⟨_, .base (.bl c), kit_ty (by decide +kernel)⟩
theorem nostr_tup {K : PySem.W.Frag} {H : Hp} {a : Addr} {xs : List V} (h : H a = some (.tup xs)) : NoStr K H (.ref a) := ⟨_, .base (.tup h), kit_ty (by decide +kernel)⟩
theorem nostr_lst {K : PySem.W.Frag} {H : Hp} {a : Addr} {xs : List V} (h : H a = some (.lst xs)) : NoStr K H (.ref a) := ⟨_, .base (.lst h), kit_ty (by decide +kernel)⟩
/-- 'join of drawn signs': the turn's word, and what it is in the end -/
def Sgn (b l D : Addr) (H0 : Hp) (i : Nat) (H' : Hp) : Prop := ∃ cs : List Nat, Low cs ∧ cs.length = i ∧ Kp b H0 H' ∧ Bag H' b l ∧ H' D = some (.lst ((cs.map fun c => (⟨#[c]⟩ : Str)).map V.str))
end Ag
namespace Ag
open PySem PySem.Spec PyProof.Rows L2
/-- whether a value is a letter, a name -/
def LetIs (K : PySem.W.Frag) (H : Hp) (x : V) (ok : Bool) : Prop := (∃ cs : List Nat, x = .str (SX.S cs) ∧ cs.length ≤ 1000 ∧ ok = isLet cs) ∨ (NoStr K H x ∧ ok = false)
def NameIs (K : PySem.W.Frag) (H : Hp) (x : V) (ok : Bool) : Prop := (∃ cs : List Nat, x = .str (SX.S cs) ∧ cs.length ≤ 1000 ∧ ok = isNm cs) ∨ (NoStr K H x ∧ ok = false)
theorem name_is {K : PySem.W.Frag} {H : Hp} {cs : List Nat} (h : cs.length ≤ 1000) : NameIs K H (.str (SX.S cs)) (isNm cs) := .inl ⟨cs, rfl, h, rfl⟩
theorem NameIs.same {K : PySem.W.Frag} {H H' : Hp} (s : Same H H') {x : V} {ok : Bool} (h : NameIs K H x ok) : NameIs K H' x ok := by
  rcases h with h | ⟨h, e⟩
  · exact .inl h
  · exact .inr ⟨h.same s, e⟩
end Ag
namespace Ag
open PySem PySem.Spec PyProof.Rows L2
/-! ### a def of the module, as the top leaves it -/
structure Df (K : PySem.W.Frag) (mg : Str → Option Value) (x : Str) (st : Stmt) (ps : List Str) (f : Addr) (fd : FuncData) : Prop where
  fn : Fun K x x st f fd
  mg : mg x = some (.ref f)
  bi : Binds K fd ps []
theorem Df.cal {P : Program} {w : World} {K : PySem.W.Frag} {mg : Str → Option Value} {base : Heap} {x : Str} {st : Stmt} {ps : List Str} {f : Addr} {fd : FuncData} {k : Nat} {sp : Sp} (D : Df K mg x st ps f fd) (o : FnOk P w K mg base CX0 k f fd ps sp) : C8.Cal P w K mg base k x sp [] :=
  ⟨f, fd, ps, [], o, D.mg, D.fn.kp, D.bi, .nil⟩
theorem df_mk {K : PySem.W.Frag} {h : Heap} {mg : Str → Option Value} {x : Str} {st : Stmt} {ps : List Str} {f : Addr} {od an : Option Addr} {sl : Array (Option Value)} {oc kV dc pm cd ct : Value} (X : K.In h) (G : h.Ns mainGlobals mg)
    (hb : ∀ (kV doc pm : Value) (an : Option Addr) (cdv ct : Value) (us : List Value), us.length = ps.length → bindArgs (PySem.W.fnOf x x (defArgs st) (defBody st) (defScope st) .none kV doc pm an cdv ct) ⟨us, []⟩ = pure (ps.zip us))
    (a : PySem.W.nsIn K mainGlobals x = some (some (.ref f))) (l : K.lookup f = some ⟨oc, od, .func (PySem.W.fnOf x x (defArgs st) (defBody st) (defScope st) .none kV dc pm an cd ct), sl⟩) (c : PySem.W.codeIn K cd x = true) (k : PySem.W.keepIn K (.ref f) = true) :
    Df K mg x st ps f (PySem.W.fnOf x x (defArgs st) (defBody st) (defScope st) .none kV dc pm an cd ct) := by
  have F := fun_mk (st := st) l c k
  exact ⟨F, PySem.W.mg_of X G a, F.binds hb⟩
theorem Df.kw {K : PySem.W.Frag} {mg : Str → Option Value} {x : Str} {st : Stmt} {ps ks : List Str} {f : Addr} {fd : FuncData} {g : List Value → List Value} {gV : List V → List V} (D : Df K mg x st ps f fd)
    (h : ∀ (kV doc pm : Value) (an : Option Addr) (cdv ct : Value) (ws : List Value), ws.length = ks.length → bindArgs (PySem.W.fnOf x x (defArgs st) (defBody st) (defScope st) .none kV doc pm an cdv ct) ⟨[], ks.zip ws⟩ = pure (ps.zip (g ws)))
    (rel : ∀ {zs : List V} {ws : List Value}, Vals zs ws → Vals (gV zs) (g ws)) : KW0 fd ps ks g gV := by
  obtain ⟨oc, od, kV, doc, pm, an, cdv, ct, osl, rfl, lk, hcd⟩ := D.fn.ex
  exact ⟨fun s ws l => .of_eq (h kV doc pm an cdv ct ws l), rel⟩
end Ag
namespace Ag
open PySem PySem.Spec PyProof.Rows L2
theorem tseq {t u : TS} {D : Ends} {σ : L2.St} {H : Hp} (Mid : L2.St → Hp → Prop) (h2 : ∀ σ' H', Mid σ' H' → u D σ' H') (h1 : (∀ σ' H', Mid σ' H' → u D σ' H') → tSeq t u D σ H) : tSeq t u D σ H := h1 h2
theorem kp_upd {b : Addr} {H : Hp} {o : HO} : Kp b H (upd H b o) := fun c u e n => by rw [upd_ne n]; exact e
theorem fm_in (t : Int) {m : Int} (hm : 0 < m) : 0 ≤ t.fmod m ∧ t.fmod m < m := by
  rw [Int.fmod_eq_emod_of_nonneg t (by omega)]
  exact ⟨Int.emod_nonneg t (by omega), Int.emod_lt_of_pos t hm⟩
end Ag
namespace Ag
open PySem PySem.Spec PyProof.Rows L2
structure LikeM (mg : Str → Option Value) : Prop where
  isi : mg "isinstance" = none
  dict : mg "dict" = none
  list : mg "list" = none
  tuple : mg "tuple" = none
  bool : mg "bool" = none
  int : mg "int" = none
  str : mg "str" = none
  len : mg "len" = none
  all : mg "all" = none
  zip : mg "zip" = none
  sorted : mg "sorted" = none
structure NamesM (mg : Str → Option Value) : Prop where
  range : mg "range" = none
  int : mg "int" = none
  len : mg "len" = none
structure NameM (mg : Str → Option Value) : Prop where
  isi : mg "isinstance" = none
  str : mg "str" = none
  len : mg "len" = none
  all : mg "all" = none
  letters : ∃ t, mg "LETTERS" = some (.str "abcdefghijklmnopqrstuvwxyz" t)
  longest : ∃ t, mg "LONGEST_NAME" = some (.int 6 t)
end Ag
namespace Ag
open PySem PySem.Spec PyProof.Rows L2
/-! ### what may be read stays so -/
def RdLe (H H' : Hp) : Prop := ∀ c u, Rd H c u → Rd H' c u
theorem RdLe.of {H H' : Hp} (s : Same H H') : RdLe H H' := fun c u h => by
  rcases h with h | ⟨o, h⟩
  · exact .inl (s _ _ h)
  · exact .inr ⟨o, s _ _ h⟩
theorem RdLe.lock {H : Hp} {a : Addr} {u : HO} (h : H a = some u) (mu : Mut (some u)) (od : Obj) : RdLe H (upd H a (.frz od u)) := fun c v q => by
  by_cases e : c = a
  · subst e
    rcases q with q | ⟨o, q⟩
    · rw [h] at q
      cases q
      exact .inr ⟨od, upd_same⟩
    · rw [h] at q
      cases q
      exact mu.elim
  · rcases q with q | ⟨o, q⟩
    · exact .inl (by rw [upd_ne e]; exact q)
    · exact .inr ⟨o, by rw [upd_ne e]; exact q⟩
theorem RdLe.seqL {K : PySem.W.Frag} {H H' : Hp} {a : Addr} {xs : List V} (s : RdLe H H') (h : SqL K H a xs) : SqL K H' a xs := h.imp (s _ _) id
theorem RdLe.seqT {K : PySem.W.Frag} {H H' : Hp} {a : Addr} {xs : List V} (s : RdLe H H') (h : SqT K H a xs) : SqT K H' a xs := h.imp (s _ _) id
theorem Dp_rd {K : PySem.W.Frag} {H H' : Hp} (s : RdLe H H') {d : PyData} {v : V} (h : Dp K H v d) : Dp K H' v d :=
  Dp.rec (motive_1 := fun v d _ => Dp K H' v d) (motive_2 := fun vs ds _ => DpAll K H' vs ds) .non .bl .int .str
    (fun q _ ih => .lst (s.seqL q) ih) (fun q _ ih => .tup (s.seqT q) ih) .nil (fun _ _ a b => .cons a b) h
/-! ### data with dicts, the order of whose keys means nothing -/
def keyD : Key → PyData
  | .inl i => .int i
  | .inr x => .str x
mutual
inductive Da (K : PySem.W.Frag) (H : Hp) : V → PyData → Prop
  | non : Da K H .non .none
  | bl (b : Bool) : Da K H (.bl b) (.bool b)
  | int (i : Int) : Da K H (.int i) (.int i)
  | str (x : Str) : Da K H (.str x) (.str x)
  | lst {a : Addr} {xs : List V} {ds : List PyData} : SqL K H a xs → DaAll K H xs ds → Da K H (.ref a) (.list ds)
  | tup {a : Addr} {xs : List V} {ds : List PyData} : SqT K H a xs → DaAll K H xs ds → Da K H (.ref a) (.tuple ds)
  | dic {a : Addr} {kvs kvs' : List (Key × V)} {es : List (PyData × PyData)} : H a = some (.dK kvs) → kvs.Perm kvs' → (kvs.map (·.1)).Nodup → Paired (fun kv e => e.1 = keyD kv.1 ∧ Dp K H kv.2 e.2) kvs' es → Da K H (.ref a) (.dict es)
inductive DaAll (K : PySem.W.Frag) (H : Hp) : List V → List PyData → Prop
  | nil : DaAll K H [] []
  | cons {v : V} {vs : List V} {d : PyData} {ds : List PyData} : Da K H v d → DaAll K H vs ds → DaAll K H (v :: vs) (d :: ds)
end
theorem Da_of {K : PySem.W.Frag} {H : Hp} {d : PyData} {v : V} (h : Dp K H v d) : Da K H v d :=
  Dp.rec (motive_1 := fun v d _ => Da K H v d) (motive_2 := fun vs ds _ => DaAll K H vs ds) .non .bl .int .str
    (fun q _ ih => .lst q ih) (fun q _ ih => .tup q ih) .nil (fun _ _ a b => .cons a b) h
theorem paired_imp {α β : Type} {F G : α → β → Prop} (f : ∀ a b, F a b → G a b) : ∀ {l₁ : List α} {l₂ : List β}, Paired F l₁ l₂ → Paired G l₁ l₂
  | _, _, .nil => .nil
  | _, _, .cons r t => .cons (f _ _ r) (paired_imp f t)
theorem Da_same {K : PySem.W.Frag} {H H' : Hp} (s : Same H H') {d : PyData} {v : V} (h : Da K H v d) : Da K H' v d :=
  Da.rec (motive_1 := fun v d _ => Da K H' v d) (motive_2 := fun vs ds _ => DaAll K H' vs ds) .non .bl .int .str
    (fun q _ ih => .lst (s.seq q) ih) (fun q _ ih => .tup (sameT s q) ih) (fun q p n r => .dic (s _ _ q) p n (paired_imp (fun _ _ z => ⟨z.1, Dp_same s z.2⟩) r)) .nil (fun _ _ a b => .cons a b) h
theorem daall_len {K : PySem.W.Frag} {H : Hp} : ∀ {vs : List V} {ds : List PyData}, DaAll K H vs ds → vs.length = ds.length
  | _, _, .nil => rfl
  | _, _, .cons _ b => congrArg (· + 1) (daall_len b)
theorem daall_get {K : PySem.W.Frag} {H : Hp} : ∀ {vs : List V} {ds : List PyData} {i : Nat} {v : V}, DaAll K H vs ds → vs[i]? = some v → ∃ d, ds[i]? = some d ∧ Da K H v d
  | _, _, _, _, .nil, e => by simp at e
  | _, _, 0, _, .cons a _, e => by
    simp at e
    subst e
    exact ⟨_, rfl, a⟩
  | _, _, i + 1, _, .cons _ b, e => by
    obtain ⟨d, h1, h2⟩ := daall_get (i := i) b (by simpa using e)
    exact ⟨d, by simpa using h1, h2⟩
/-- keys that are texts -/
def isStrD : PyData → Bool
  | .str x => x.cps.all (· < 0x110000)
  | _ => false
/-- less than n deep, at most 1000 items in a list, less than 64 texts as keys of a dict -/
def oka : Nat → PyData → Bool
  | 0, _ => false
  | n + 1, .list ds => decide (ds.length ≤ 1000) && ds.all (oka n)
  | n + 1, .tuple ds => decide (ds.length ≤ 1000) && ds.all (oka n)
  | n + 1, .dict es => decide (es.length < 64) && es.all fun e => isStrD e.1 && oka n e.2
  | _ + 1, _ => true
theorem da_tyx {K : PySem.W.Frag} {H : Hp} {v : V} {d : PyData} (h : Da K H v d) : TyX K H v (.type (tyD d)) := by
  cases h with
  | non => exact .base .non
  | bl b => exact .base (.bl b)
  | int i => exact .base (.int i)
  | str x => exact .base (.str x)
  | lst q _ =>
    rcases q with (q | ⟨o, q⟩) | ⟨o, its, n, e, c, _⟩
    · exact .base (.lst q)
    · exact .base (.frz q)
    · exact .kList e c
  | tup q _ =>
    rcases q with (q | ⟨o, q⟩) | ⟨o, its, n, e, c, _⟩
    · exact .base (.tup q)
    · exact .fTuple q
    · exact .kTuple e c
  | dic q _ _ _ => exact .base (.dK q)
theorem isD_nodict {d : PyData} (h : ∀ es, d ≠ .dict es) : isD "dict" d = false := by
  cases d with
  | dict es => exact absurd rfl (h es)
  | _ => simp only [isD, tyD]; decide +kernel
theorem isD_dic {es : List (PyData × PyData)} : isD "dict" (.dict es) = true := by
  simp only [isD, tyD]
  decide +kernel
end Ag
namespace Ag
open PySem PySem.Spec PyProof.Rows L2
/-! ### two sorted lists of the same texts are one -/
theorem lc_anti : ∀ a b : List Nat, ltCps a b = false → ltCps b a = false → a = b
  | [], [], _, _ => rfl
  | [], _ :: _, h, _ => by simp [ltCps] at h
  | _ :: _, [], _, h => by simp [ltCps] at h
  | a :: r, b :: t, h1, h2 => by
    simp only [ltCps, Bool.or_eq_false_iff, decide_eq_false_iff_not, Bool.and_eq_false_iff, beq_eq_false_iff_ne] at h1 h2
    have e : a = b := by omega
    subst e
    have k1 : ltCps r t = false := by rcases h1.2 with z | z; exact absurd rfl z; exact z
    have k2 : ltCps t r = false := by rcases h2.2 with z | z; exact absurd rfl z; exact z
    rw [lc_anti r t k1 k2]
theorem lc_trans : ∀ a b c : List Nat, ltCps b a = false → ltCps c b = false → ltCps c a = false
  | [], _, [], _, _ => rfl
  | [], _, _ :: _, _, _ => rfl
  | _ :: _, [], _, h, _ => by simp [ltCps] at h
  | _ :: _, _ :: _, [], _, h => by simp [ltCps] at h
  | a :: r, b :: t, c :: u, h1, h2 => by
    simp only [ltCps, Bool.or_eq_false_iff, decide_eq_false_iff_not, Bool.and_eq_false_iff, beq_eq_false_iff_ne] at h1 h2 ⊢
    refine ⟨by omega, ?_⟩
    by_cases e : c = a
    · right
      have e1 : b = a := by omega
      have e2 : c = b := by omega
      have k1 : ltCps t r = false := by rcases h1.2 with z | z; exact absurd e1 z; exact z
      have k2 : ltCps u t = false := by rcases h2.2 with z | z; exact absurd e2 z; exact z
      exact lc_trans r t u k1 k2
    · exact .inl e
theorem rising_all : ∀ (l : List Str) (p : Str), risingS p l = true → (∀ x ∈ l, ltCps x.cps.toList p.cps.toList = false) ∧ l.Pairwise (fun a b => ltCps b.cps.toList a.cps.toList = false)
  | [], _, _ => ⟨fun x h => (by cases h), List.Pairwise.nil⟩
  | y :: r, p, h => by
    simp only [risingS, Bool.and_eq_true, Bool.not_eq_true'] at h
    obtain ⟨h1, h2⟩ := rising_all r y h.2
    refine ⟨fun x hx => ?_, .cons h1 h2⟩
    rcases List.mem_cons.mp hx with rfl | hx
    · exact h.1
    · exact lc_trans _ _ _ h.1 (h1 x hx)
theorem sorted_pw {l : List Str} (h : sortedS l = true) : l.Pairwise (fun a b => ltCps b.cps.toList a.cps.toList = false) := by
  cases l with
  | nil => exact .nil
  | cons x r =>
    obtain ⟨h1, h2⟩ := rising_all r x h
    exact .cons h1 h2
theorem perm_one {α : Type} {le : α → α → Prop} (anti : ∀ a b, le a b → le b a → a = b) : ∀ {a b : List α}, a.Perm b → a.Pairwise le → b.Pairwise le → a = b
  | [], [], _, _, _ => rfl
  | [], y :: t, p, _, _ => absurd p.length_eq (by simp)
  | x :: r, [], p, _, _ => absurd p.length_eq (by simp)
  | x :: r, y :: t, p, ha, hb => by
    obtain ⟨a1, a2⟩ := List.pairwise_cons.mp ha
    obtain ⟨b1, b2⟩ := List.pairwise_cons.mp hb
    have e : x = y := by
      have hx : x ∈ y :: t := p.mem_iff.mp (by simp)
      have hy : y ∈ x :: r := p.mem_iff.mpr (by simp)
      rcases List.mem_cons.mp hx with e | hx
      · exact e
      rcases List.mem_cons.mp hy with e | hy
      · exact e.symm
      exact anti _ _ (a1 y hy) (b1 x hx)
    subst e
    rw [perm_one anti p.cons_inv a2 b2]
theorem sorted_one {a b : List Str} (p : a.Perm b) (ha : sortedS a = true) (hb : sortedS b = true) : a = b := by
  refine perm_one (le := fun a b => ltCps b.cps.toList a.cps.toList = false) (fun x y h1 h2 => ?_) p (sorted_pw ha) (sorted_pw hb)
  have e := lc_anti _ _ h2 h1
  exact TL.ext_tl e
theorem dpall_strs {K : PySem.W.Frag} {H : Hp} : ∀ ys : List Str, DpAll K H (ys.map V.str) (ys.map PyData.str)
  | [] => .nil
  | y :: r => .cons (.str y) (dpall_strs r)
end Ag
namespace Ag
open PySem PySem.Spec PyProof.Rows L2
theorem lay_strs : ∀ ys : List Str, (∀ y ∈ ys, (y.cps.all (· < 0x110000)) = true) → PyData.canLayAll0 (ys.map PyData.str) = true
  | [], _ => rfl
  | y :: r, h => by
    show (PyData.canLay0 (.str y) && PyData.canLayAll0 (r.map PyData.str)) = true
    rw [lay_strs r fun z hz => h z (List.mem_cons_of_mem _ hz), Bool.and_true]
    exact h y (by simp)
theorem depth_strs : ∀ ys : List Str, PyData.depthAll (ys.map PyData.str) = 0
  | [] => rfl
  | y :: r => by
    show max 0 (PyData.depthAll (r.map PyData.str)) = 0
    rw [depth_strs r]
    rfl
theorem shaped_strs {ys : List Str} (h : ∀ y ∈ ys, (y.cps.all (· < 0x110000)) = true) : SeqAt.shaped (.list (ys.map PyData.str)) = true := by
  unfold SeqAt.shaped
  rw [Bool.and_eq_true]
  refine ⟨lay_strs ys h, ?_⟩
  show decide (PyData.depthAll (ys.map PyData.str) + 1 ≤ 64) = true
  rw [depth_strs]
  decide
/-- the entries of a dict with text keys, by its data -/
theorem dic_keys {n : Nat} {kvs : List (Key × V)} {es : List (PyData × PyData)} {R : Key × V → PyData × PyData → Prop} (hr : ∀ kv e, R kv e → e.1 = keyD kv.1) (ok : oka (n + 1) (.dict es) = true) (r : Paired R kvs es) :
    ∃ ks : List Str, (kvs.map fun kv => kV kv.1) = ks.map V.str ∧ ks.length = es.length ∧ (∀ y ∈ ks, (y.cps.all (· < 0x110000)) = true) ∧ es.map (·.1) = ks.map PyData.str ∧ kvs.map (·.1) = ks.map Sum.inr := by
  have ok2 : ∀ e ∈ es, isStrD e.1 = true := by
    simp only [oka, Bool.and_eq_true, List.all_eq_true] at ok
    exact fun e he => (ok.2 e he).1
  clear ok
  induction r with
  | nil => exact ⟨[], rfl, rfl, fun y h => (by cases h), rfl, rfl⟩
  | @cons kv e kvs es h t ih =>
    obtain ⟨ks, h1, h2, h3, h4, h5⟩ := ih fun e he => ok2 e (List.mem_cons_of_mem _ he)
    have he := hr _ _ h
    have hs := ok2 e (by simp)
    obtain ⟨k, v⟩ := kv
    cases k with
    | inl i => rw [he] at hs; cases hs
    | inr x =>
      rw [he] at hs
      refine ⟨x :: ks, by rw [List.map_cons, h1]; rfl, by simp [h2], fun y hy => ?_, by rw [List.map_cons, h4, he]; rfl, by rw [List.map_cons, h5]; rfl⟩
      rcases List.mem_cons.mp hy with rfl | hy
      · exact hs
      · exact h3 y hy
theorem valV_of {kvs : List (Key × V)} (nd : (kvs.map (·.1)).Nodup) {k : Key} {v : V} (h : (k, v) ∈ kvs) : valV kvs k = some v := by
  induction kvs with
  | nil => cases h
  | cons p r ih =>
    rw [List.map_cons, List.nodup_cons] at nd
    rcases List.mem_cons.mp h with e | h
    · rw [← e]
      exact valV_pos rfl
    · rw [valV_neg]
      · exact ih nd.2 h
      · intro e
        exact nd.1 (by rw [e]; exact List.mem_map.mpr ⟨_, h, rfl⟩)
theorem paired_mem {α β : Type} {R : α → β → Prop} : ∀ {l : List α} {m : List β}, Paired R l m → ∀ {a : α}, a ∈ l → ∃ b, b ∈ m ∧ R a b
  | _, _, .nil, _, h => by cases h
  | _, _, .cons r t, a, h => by
    rcases List.mem_cons.mp h with rfl | h
    · exact ⟨_, by simp, r⟩
    · obtain ⟨b, h1, h2⟩ := paired_mem t h
      exact ⟨b, by simp [h1], h2⟩
theorem paired_mem2 {α β : Type} {R : α → β → Prop} : ∀ {l : List α} {m : List β}, Paired R l m → ∀ {b : β}, b ∈ m → ∃ a, a ∈ l ∧ R a b
  | _, _, .nil, _, h => by cases h
  | _, _, .cons r t, b, h => by
    rcases List.mem_cons.mp h with rfl | h
    · exact ⟨_, by simp, r⟩
    · obtain ⟨a, h1, h2⟩ := paired_mem2 t h
      exact ⟨a, by simp [h1], h2⟩
end Ag

namespace Ag
open PySem PySem.Spec PyProof.Rows L2
/-! ### objects that are known to the letter for a while -/
def pinO (a : Addr) (o : Obj) : HO := .ext fun h => h.get? a = some o
abbrev Pins := List (Addr × Obj)
def addp (H : Hp) (l : Pins) : Hp := fun b => match l.lookup b with
  | some o => some (pinO b o)
  | none => H b
def remp (H : Hp) (l : Pins) : Hp := fun b => match l.lookup b with
  | some _ => none
  | none => H b
theorem addp_in {H : Hp} {l : Pins} {b : Addr} {o : Obj} (e : l.lookup b = some o) : addp H l b = some (pinO b o) := by unfold addp; rw [e]
theorem addp_out {H : Hp} {l : Pins} {b : Addr} (e : l.lookup b = none) : addp H l b = H b := by unfold addp; rw [e]
theorem remp_in {H : Hp} {l : Pins} {b : Addr} {o : Obj} (e : l.lookup b = some o) : remp H l b = none := by unfold remp; rw [e]
theorem remp_out {H : Hp} {l : Pins} {b : Addr} (e : l.lookup b = none) : remp H l b = H b := by unfold remp; rw [e]
theorem pin_tup {a : Addr} {o : Obj} {xs : List V} : pinO a o ≠ .tup xs := fun z => by
  unfold pinO at z
  cases z
theorem pin_frz {a : Addr} {o ob : Obj} {u : HO} : pinO a o ≠ .frz ob u := fun z => by
  unfold pinO at z
  cases z
theorem pin_own {a x : Addr} {o : Obj} : pinO a o ≠ .own x := fun z => by
  unfold pinO at z
  cases z
theorem pin_tbl {a : Addr} {o : Obj} {ps : Array Value} : pinO a o ≠ .tbl ps := fun z => by
  unfold pinO at z
  cases z
section
variable {P : Program} {w : World} {H H' : Hp} {h h' : Heap} {fs : List Addr} {l : Pins}
theorem pin_ok {a : Addr} {o : Obj} (e : h.get? a = some o) : ObjOk P w H h a (pinO a o) := ⟨e, ⟨o, e⟩, fun _ _ z k => k _ z⟩
theorem pin_at {a : Addr} {o : Obj} (ok : HOk P w H h) (e : H a = some (pinO a o)) : h.get? a = some o := by
  have x : ObjOk P w H h a (.ext fun g => g.get? a = some o) := ok a _ e
  exact x.1
theorem addp_none {b : Addr} (e : addp H l b = none) : l.lookup b = none ∧ H b = none := by
  cases q : l.lookup b with
  | some o =>
    rw [addp_in q] at e
    cases e
  | none =>
    rw [addp_out q] at e
    exact ⟨rfl, e⟩
theorem addp_some {b : Addr} {u : HO} (e : addp H l b = some u) (hu : ∀ o, u ≠ pinO b o) : l.lookup b = none ∧ H b = some u := by
  cases q : l.lookup b with
  | some o =>
    rw [addp_in q] at e
    exact absurd (Option.some.inj e).symm (hu o)
  | none =>
    rw [addp_out q] at e
    exact ⟨rfl, e⟩
theorem hok_add (ok : HOk P w H h) (hl : ∀ b o, l.lookup b = some o → h.get? b = some o ∧ H b = none) : HOk P w (addp H l) h := fun b u e => by
  cases q : l.lookup b with
  | some o =>
    rw [addp_in q] at e
    cases e
    exact pin_ok (hl b o q).1
  | none =>
    rw [addp_out q] at e
    have nl : ∀ {c : Addr} {v : HO}, H c = some v → l.lookup c = none := fun {c v} z => by
      cases q2 : l.lookup c with
      | none => rfl
      | some o =>
        rw [(hl c o q2).2] at z
        cases z
    exact (ok b u e).stay (fun _ _ _ z => z) (fun c z => by rw [addp_out (nl z)]; exact z) fun c xs z => by rw [addp_out (nl z)]; exact z
theorem hok_rem (ok : HOk P w H h) (hl : ∀ b o, l.lookup b = some o → H b = some (pinO b o)) : HOk P w (remp H l) h := fun b u e => by
  cases q : l.lookup b with
  | some o =>
    rw [remp_in q] at e
    cases e
  | none =>
    rw [remp_out q] at e
    have nl : ∀ {c : Addr} {v : HO}, H c = some v → (∀ o, v ≠ pinO c o) → l.lookup c = none := fun {c v} z n => by
      cases q2 : l.lookup c with
      | none => rfl
      | some o =>
        rw [hl c o q2] at z
        exact absurd (Option.some.inj z).symm (n o)
    exact (ok b u e).stay (fun _ _ _ z => z) (fun c z => by rw [remp_out (nl z fun o y => pin_own y.symm)]; exact z) fun c xs z => by rw [remp_out (nl z fun o y => pin_tup y.symm)]; exact z
/-- back from a call that knew of the pins -/
theorem un_rem (u : Un fs [] (addp H l) H' h h') (hl : ∀ b o, l.lookup b = some o → h.get? b = some o ∧ H b = none ∧ b ∉ fs) (ok : HOk P w H' h') (hp : ∀ b o, l.lookup b = some o → H' b = some (pinO b o)) : Un fs [] H (remp H' l) h h' where
  keep := fun b o e n hf hx => by
    cases q : l.lookup b with
    | some ob =>
      have e2 := (hl b ob q).1
      rw [e] at e2
      cases e2
      exact pin_at ok (hp b o q)
    | none => exact u.keep b o e (by rw [addp_out q]; exact n) hf hx
  slot := fun b o e n hf hx => by
    cases q : l.lookup b with
    | some ob => exact absurd hf (hl b ob q).2.2
    | none => exact u.slot b o e (by rw [addp_out q]; exact n) hf hx
  free := fun b o e n hx => by
    cases q : l.lookup b with
    | some ob => exact remp_in q
    | none =>
      rw [remp_out q]
      exact u.free b o e (by rw [addp_out q]; exact n) hx
  there := u.there
  tups := fun b xs e => by
    cases q : l.lookup b with
    | some ob =>
      rw [(hl b ob q).2.1] at e
      cases e
    | none =>
      rw [remp_out q]
      exact u.tups b xs (by rw [addp_out q]; exact e)
  frzs := fun b o v e => by
    cases q : l.lookup b with
    | some ob =>
      rw [(hl b ob q).2.1] at e
      cases e
    | none =>
      rw [remp_out q]
      exact u.frzs b o v (by rw [addp_out q]; exact e)
  tbls := fun b ps e => by
    cases q : l.lookup b with
    | some ob =>
      rw [(hl b ob q).2.1] at e
      cases e
    | none =>
      rw [remp_out q]
      exact u.tbls b ps (by rw [addp_out q]; exact e)
/-- the pins put aside, and taken up again -/
theorem un_add (u : Un fs [] (remp H l) H' h h') (hl : ∀ b o, l.lookup b = some o → H b = some (pinO b o)) : Un fs [] H (addp H' l) h h' := by
  have no : ∀ {b : Addr}, H b = none → l.lookup b = none := fun {b} n => by
    cases q : l.lookup b with
    | none => rfl
    | some o =>
      rw [hl b o q] at n
      cases n
  have no2 : ∀ {b : Addr} {v : HO}, H b = some v → (∀ o, v ≠ pinO b o) → l.lookup b = none := fun {b v} e n => by
    cases q : l.lookup b with
    | none => rfl
    | some o =>
      rw [hl b o q] at e
      exact absurd (Option.some.inj e).symm (n o)
  exact {
    keep := fun b o e n hf hx => u.keep b o e (by rw [remp_out (no n)]; exact n) hf hx
    slot := fun b o e n hf hx => u.slot b o e (by rw [remp_out (no n)]; exact n) hf hx
    free := fun b o e n hx => by rw [addp_out (no n)]; exact u.free b o e (by rw [remp_out (no n)]; exact n) hx
    there := u.there
    tups := fun b xs e => by
      have q := no2 e fun o y => pin_tup y.symm
      rw [addp_out q]
      exact u.tups b xs (by rw [remp_out q]; exact e)
    frzs := fun b o v e => by
      have q := no2 e fun ob y => pin_frz y.symm
      rw [addp_out q]
      exact u.frzs b o v (by rw [remp_out q]; exact e)
    tbls := fun b ps e => by
      have q := no2 e fun o y => pin_tbl y.symm
      obtain ⟨m, z⟩ := u.tbls b ps (by rw [remp_out q]; exact e)
      exact ⟨m, by rw [addp_out q]; exact z⟩ }
theorem un_pins (u : Un fs [] (remp H l) H' h h') (ok : HOk P w H h) (hl : ∀ b o, l.lookup b = some o → H b = some (pinO b o) ∧ b ∉ fs) : ∀ b o, l.lookup b = some o → h'.get? b = some o ∧ H' b = none := fun b o q => by
  have e := pin_at ok (hl b o q).1
  exact ⟨u.keep b o e (remp_in q) (hl b o q).2 (by simp), u.free b o e (remp_in q) (by simp)⟩
end
theorem same_rem {H H1 : Hp} {l : Pins} (s : Same (addp H l) H1) (n : ∀ b o, l.lookup b = some o → H b = none) : Same H (remp H1 l) := fun c o e => by
  have q : l.lookup c = none := by
    cases z : l.lookup c with
    | none => rfl
    | some ob =>
      rw [n c ob z] at e
      cases e
  rw [remp_out q]
  exact s c o (by rw [addp_out q]; exact e)
theorem same_add {H1 H2 : Hp} {l : Pins} (s : Same (remp H1 l) H2) (hp : ∀ b o, l.lookup b = some o → H1 b = some (pinO b o)) : Same H1 (addp H2 l) := fun c o e => by
  cases q : l.lookup c with
  | some ob =>
    rw [addp_in q]
    rw [hp c ob q] at e
    exact e
  | none =>
    rw [addp_out q]
    exact s c o (by rw [remp_out q]; exact e)
theorem add_same {H : Hp} {l : Pins} (n : ∀ b o, l.lookup b = some o → H b = none) : Same H (addp H l) := fun c o e => by
  have q : l.lookup c = none := by
    cases z : l.lookup c with
    | none => rfl
    | some ob =>
      rw [n c ob z] at e
      cases e
  rw [addp_out q]
  exact e
section
variable {P : Program} {w : World} {K : PySem.W.Frag} {mg : Str → Option Value} {base : Heap} {A : Around} {outer : List Env} {s s' : Shared} {H : Hp} {l : Pins}
theorem env0_add (e0 : Env0 P w K mg base A outer s H) (hl : ∀ b o, l.lookup b = some o → s.heap.get? b = some o ∧ H b = none ∧ base.get? b = none ∧ b ∉ frs outer) : Env0 P w K mg base A outer s (addp H l) :=
  ⟨e0.frames, e0.mod, fun b o e => ⟨(e0.bs b o e).1, by
      cases q : l.lookup b with
      | some ob =>
        rw [(hl b ob q).2.2.1] at e
        cases e
      | none =>
        rw [addp_out q]
        exact (e0.bs b o e).2⟩,
    e0.bsz, e0.funs, fun b hb => by
      cases q : l.lookup b with
      | some ob => exact absurd hb (hl b ob q).2.2.2
      | none =>
        rw [addp_out q]
        exact e0.frf b hb,
    hok_add e0.hok (fun b o q => ⟨(hl b o q).1, (hl b o q).2.1⟩), e0.bare⟩
theorem env0_rem (e0 : Env0 P w K mg base A outer s H) (hl : ∀ b o, l.lookup b = some o → H b = some (pinO b o)) : Env0 P w K mg base A outer s (remp H l) := by
  have no : ∀ {b : Addr}, H b = none → remp H l b = none := fun {b} n => by
    cases q : l.lookup b with
    | some o => exact remp_in q
    | none =>
      rw [remp_out q]
      exact n
  exact ⟨e0.frames, e0.mod, fun b o e => ⟨(e0.bs b o e).1, no (e0.bs b o e).2⟩, e0.bsz, e0.funs, fun b hb => no (e0.frf b hb), hok_rem e0.hok hl, e0.bare⟩
theorem ce_rem {Q Q' : VK} {u : Value} (hl : ∀ b o, l.lookup b = some o → s.heap.get? b = some o ∧ H b = none ∧ b ∉ frs outer) (hQ : ∀ v H2, Q' v H2 → (∀ b o, l.lookup b = some o → H2 b = some (pinO b o)) ∧ Q v (remp H2 l)) (c : CE outer P w (addp H l) s Q' u s') : CE outer P w H s Q u s' := by
  obtain ⟨v, H2, os, bare, un, ok, r, q⟩ := c
  obtain ⟨hp, q2⟩ := hQ v H2 q
  exact ⟨v, remp H2 l, os, bare, un_rem un hl ok hp, hok_rem ok hp, r, q2⟩
theorem ce_add {Q : VK} {u : Value} (e0 : Env0 P w K mg base A outer s H) (hl : ∀ b o, l.lookup b = some o → H b = some (pinO b o)) (c : CE outer P w (remp H l) s (fun v H2 => (∀ b o, l.lookup b = some o → H2 b = none) → Q v (addp H2 l)) u s') : CE outer P w H s Q u s' := by
  obtain ⟨v, H2, os, bare, un, ok, r, q⟩ := c
  have hl2 : ∀ b o, l.lookup b = some o → H b = some (pinO b o) ∧ b ∉ frs outer := fun b o z => ⟨hl b o z, fun hb => by
    have y := e0.frf b hb
    rw [hl b o z] at y
    cases y⟩
  have k := un_pins un e0.hok hl2
  exact ⟨v, addp H2 l, os, bare, un_add un hl, hok_add ok k, r, q fun b o z => (k b o z).2⟩
theorem cx_add {E : XK} {u : Value} (e0 : Env0 P w K mg base A outer s H) (hl : ∀ b o, l.lookup b = some o → H b = some (pinO b o)) (c : L2.CX P w outer (remp H l) s (fun cls d H2 => (∀ b o, l.lookup b = some o → H2 b = none) → E cls d (addp H2 l)) u s') : L2.CX P w outer H s E u s' := by
  obtain ⟨a, B, H2, cls, d, eu, fl, ok, ub, na, os, bare, q⟩ := c
  have hl2 : ∀ b o, l.lookup b = some o → s.heap.get? b = some o ∧ b ∉ frs outer := fun b o z => ⟨pin_at e0.hok (hl b o z), fun hb => by
    have y := e0.frf b hb
    rw [hl b o z] at y
    cases y⟩
  have kB : ∀ b o, l.lookup b = some o → B.get? b = some o ∧ H2 b = none := fun b o z => ⟨ub.keep b o (hl2 b o z).1 (remp_in z) (hl2 b o z).2, ub.free b o (hl2 b o z).1 (remp_in z)⟩
  have no : ∀ {b : Addr}, H b = none → l.lookup b = none := fun {b} n => by
    cases q : l.lookup b with
    | none => rfl
    | some o =>
      rw [hl b o q] at n
      cases n
  have no2 : ∀ {b : Addr} {v : HO}, H b = some v → (∀ o, v ≠ pinO b o) → l.lookup b = none := fun {b v} e n => by
    cases q : l.lookup b with
    | none => rfl
    | some o =>
      rw [hl b o q] at e
      exact absurd (Option.some.inj e).symm (n o)
  have nal : l.lookup a = none := by
    cases z : l.lookup a with
    | none => rfl
    | some o =>
      have e := (kB a o z).1
      have e2 := fl.2.1
      rw [e] at e2
      cases e2
  refine ⟨a, B, addp H2 l, cls, d, eu, fl, hok_add ok kB, ?_, by rw [addp_out nal]; exact na, os, bare, q fun b o z => (kB b o z).2⟩
  exact {
    keep := fun b o e n hf => ub.keep b o e (by rw [remp_out (no n)]; exact n) hf
    slot := ub.slot
    free := fun b o e n => by rw [addp_out (no n)]; exact ub.free b o e (by rw [remp_out (no n)]; exact n)
    there := ub.there
    tups := fun b xs e => by
      have z := no2 e fun o y => pin_tup y.symm
      rw [addp_out z]
      exact ub.tups b xs (by rw [remp_out z]; exact e)
    frzs := fun b o v e => by
      have z := no2 e fun ob y => pin_frz y.symm
      rw [addp_out z]
      exact ub.frzs b o v (by rw [remp_out z]; exact e)
    tbls := fun b ps e => by
      have z := no2 e fun o y => pin_tbl y.symm
      obtain ⟨m, y⟩ := ub.tbls b ps (by rw [remp_out z]; exact e)
      exact ⟨m, by rw [addp_out z]; exact y⟩ }
end
end Ag

namespace Ag
open PySem PySem.Spec PyProof.Rows L2
/-! ### a def that raises nothing, called where an exception p is handled -/
abbrev SpP := (Addr × Obj) → Sp
structure FnS (P : Program) (w : World) (K : PySem.W.Frag) (mg : Str → Option Value) (base : Heap) (k : Nat) (f : Addr) (fd : FuncData) (ps : List Str) (sp : SpP) : Prop where
  len : ∀ p vs H Q, sp p vs H Q L2.E0 → vs.length = ps.length
  run : ∀ (A : Around) (outer : List Env) (s : Shared) (H : Hp) (args : Args) (us : List Value) (vs : List V) (Q : VK) (p : Addr × Obj), L2H.RoomH k A → L2H.PinOk outer H s p → Env0 P w K mg base A outer s H → BindsTo s fd args (ps.zip us) → Vals vs us → sp p vs H Q L2.E0 →
    codeAny (model P w) A (.call (.ref f) args) (CR L2.CX0 outer P w H s Q L2.E0) s
section
variable {P : Program} {w : World} {K : PySem.W.Frag} {mg : Str → Option Value} {base : Heap}
theorem okS {x qual : Str} {st : Stmt} {f : Addr} {fd : FuncData} {N ps : List Str} {k : Nat} {sp : SpP} (F : Fun K x qual st f fd) (sc : FnScope N ps (defScope st)) (len : ∀ p vs H Q, sp p vs H Q L2.E0 → vs.length = ps.length)
    (body : ∀ (cdv : Value) (A : Around) (outer : List Env) (s : Shared) (H : Hp) (vs : List V) (Q : VK) (p : Addr × Obj), L2H.RoomH k (A.deeper (envOfC qual (defScope st) s.heap.objs.size f cdv)) → sp p vs H Q L2.E0 →
      ∃ t, PSs (L2H.cxH L2.CX0 P w K mg base N qual (defScope st) f cdv A outer s H L2.E0 p).nox (defBody st) t ∧ t { nx := fun _ H' => Q .non H', rt := Q } (L2.start N vs) H) : FnS P w K mg base (k + 1) f fd ps sp := by
  obtain ⟨oc, od, kV, doc, pm, an, cdv, ct, osl, rfl, look, code⟩ := F.ex
  refine ⟨len, fun A outer s H args us vs Q p room pin e0 bs rv hsp => ?_⟩
  have inK : K.In s.heap := e0.mod.kin.keeps fun c oo z => (e0.bs c oo z).1
  have nolim : s.heap.NoLimit := e0.mod.nolimit.keeps fun c oo z => (e0.bs c oo z).1
  have kinds : ∀ y ∈ ps.zip us, (defScope st).names.lookup y.1 = some .local ∨ ((defScope st).names.lookup y.1 = some .cell ∧ ((cellsFrom (s.heap.objs.size + 1) (defScope st).names []).lookup y.1).isSome = true) := by
    rintro ⟨n, v⟩ hy
    exact (sc.par n (List.of_mem_zip hy).1).imp id fun q => ⟨q, PySem.W.cellsFrom_some _ _ _ (.inl q)⟩
  refine codeAny_call_function room.depth (inK _ _ look) rfl sc.co sc.gen rfl (PySem.W.codeRec_of inK code) (bs _ _ _ _ ?_)
  refine wpAny_newFunctionEnv_cells sc.kind kinds fun env he s1 ic => ?_
  subst he
  refine ⟨nolim.keeps ic.toInCall.keep, codeAny_func ?_⟩
  obtain ⟨t, ht, ht2⟩ := body cdv A outer s H vs Q p (room.deeper _) hsp
  have J := L2H.inv_startH (CX := L2.CX0) (E := L2.E0) sc pin e0 (len _ _ _ _ hsp) rv ic
  refine wpAny_mono (ht.nox.run [] s1 (L2.start N vs) H _ J ht2) (fun fl s' z => ?_) fun _ _ z => z
  cases fl with
  | ret u =>
    obtain ⟨v, σ2, H2, J2, r2, q2⟩ := z
    exact ⟨v, H2, J2.os, J2.bare, J2.base, J2.hok, r2, q2⟩
  | next =>
    obtain ⟨σ2, H2, J2, q2⟩ := z
    exact ⟨.non, H2, J2.os, J2.bare, J2.base, J2.hok, rfl, q2⟩
  | brk => exact z.choose_spec.choose_spec.2.elim
  | cont => exact z.choose_spec.choose_spec.2.elim
end
section
variable {X : Cx}
theorem pe_callP {k : Nat} {f : Addr} {fd : FuncData} {ps : List Str} {sp : SpP} {x : Str} {n pos : Pos} {e : Expr} {es : List Expr} {t : TA} {p : Addr × Obj} (F : FnS X.prog X.w X.K X.mg X.base k f fd ps sp) (room : L2H.RoomH k X.A) (hp : p ∈ X.pn) (hg : Gl X x)
    (hm : X.mg x = some (.ref f)) (kp : PySem.W.keepIn X.K (.ref f) = true) (bi : Binds X.K fd ps []) (ha : PA X (e :: es) t) (hdb : (x == ("__debug__" : Str)) = false := by decide)
    (h1 : starEach (e :: es) X.env = (false, eval e X.env) :: starEach es X.env := by rfl) (h2 : (backTo pos (starEach es X.env)).any (·.1) = false := by rfl) :
    PE X (.Call (.Name x n) (e :: es) [] pos) (fun σ H Q => t σ H fun vs H1 => sp p vs H1 Q L2.E0) := by
  refine ⟨fun pins s σ H Q I h => wpAny_Call_Name_kw (ld_glob I hg hm ?_ hdb)⟩
  refine PySem.W.callWith_K (h₀ := X.base) I.ok.mod.kin kp (thn (ha.run pos pins s σ H _ I h) fun us s1 ⟨vs, H1, J, rv, hsp⟩ => ⟨J.kIn, ?_⟩) h1 h2
  have hl : us.length = ps.length := (Vals.length rv).symm.trans (F.len _ _ _ _ hsp)
  have b := bi s1 us J.kIn (by rw [List.append_nil]; exact hl)
  rw [List.append_nil] at b
  obtain ⟨g1, g2, g3, g4, g5⟩ := J.pin p (List.mem_append_left _ hp)
  have pk : L2H.PinOk X.stack H1 s1 p := ⟨g1, g2, fun hm => by
    rcases List.mem_cons.mp (J.stkSub p.1 hm) with z | z
    · exact g3 z
    · exact g4 z, g5⟩
  refine wpAny_call (codeAny_mono (F.run X.A X.stack s1 H1 ⟨us, []⟩ us vs Q p room pk J.env0 b rv hsp) fun r s2 z => ?_)
  match r, z with
  | .ok (.ret u), z => exact J.after z
/-- a field of the exception whose object is known -/
def tXfE (K : PySem.W.Frag) (a : Addr) (cls : Value) (d : Option Addr) (n : Str) (te : TE) : TE := fun σ H Q => te σ H fun x H1 => x = .ref a ∧ ∃ (C dd : Addr) (fs : List (Str × V)) (v : V), cls = .ref C ∧ XfC K C ∧ PySem.W.findIn K (.ref C) n = some none ∧ d = some dd ∧ H1 dd = some (.xd fs) ∧ fs.lookup n = some v ∧ Q v H1
theorem pe_xfP {a : Addr} {oe : Obj} {cls : Value} {d : Option Addr} {e : Expr} {te : TE} {pos : Pos} {n : Str} (hz : Zc cls d oe) (hf : ∃ vs, oe.data = .fields vs) (hp : (a, oe) ∈ X.pn) (he : PE X e te) (hb : attributeBase e n X.env (eval e X.env) = eval e X.env := by rfl) :
    PE X (.Attribute e n pos) (tXfE X.K a cls d n te) := by
  refine ⟨fun pins s σ H Q I h => attr_of hb (thn (he.run pins s σ H _ I h) ?_)⟩
  rintro u s1 ⟨x, H1, J, rx, rfl, C, dd, fs, v, rfl, T, hno, rfl, hd, hl, q⟩
  obtain rfl : u = Value.ref a := rx
  obtain ⟨vs, hv⟩ := hf
  obtain ⟨mA, hn, hr⟩ : ObjOk X.prog X.w H1 s1.heap dd (.xd fs) := J.hok dd _ hd
  obtain ⟨od, ho, hk⟩ := lookIn_ns hn
  obtain ⟨u, hu, ru⟩ := RelO.some_of (v := v) (o := mA n) (by rw [← hl]; exact hr n)
  have at_ : PySem.W.InstAt s1.heap a oe C (some od) := ⟨(J.pin (a, oe) (List.mem_append_left _ hp)).1, hz.1, by
    unfold PySem.W.notCls
    rw [hv], by rw [hz.2]; exact ho⟩
  exact HandSPX.exc_get J.kIn at_ T.ga T.gg T.exC (PySem.W.findObj_own T.hdC hno rfl (by rw [hk, hu])) (handed_of ru) ⟨v, H1, J.tok _, ru, q⟩
end
/-- an object that is new since the entry is known from now on -/
theorem inv_track {X : Cx} {pins : List (Addr × Obj)} {σ : L2.St} {H : Hp} {s : Shared} {a : Addr} {o : HO} (I : Inv X pins σ H s) (hn : H a = none) (sz : X.s_0.heap.objs.size ≤ a) (nL : a ≠ X.env.locals) (nC : ∀ x c, X.env.cells.lookup x = some c → c ≠ a)
    (nP : ∀ p ∈ X.pn ++ pins, p.1 ≠ a) (new : ObjOk X.prog X.w (upd H a o) s.heap a o) : Inv X pins σ (upd H a o) s := by
  have old : ∀ {b ob}, X.s_0.heap.get? b = some ob → b ≠ a := fun e => Nat.ne_of_lt (Nat.lt_of_lt_of_le (Heap.lt_size e) sz)
  have up : ∀ {b v}, H b = some v → upd H a o b = some v := fun e => by
    rw [upd_ne (ne_of_none e hn)]
    exact e
  exact ⟨I.ok, I.os, I.bare, ⟨I.base.keep, I.base.slot, fun b ob e n hx => by
      rw [upd_ne (old e)]
      exact I.base.free b ob e n hx, I.base.there, fun b xs e => up (I.base.tups b xs e), fun b ob u e => up (I.base.frzs b ob u e), fun b ps e => by
      obtain ⟨m, z⟩ := I.base.tbls b ps e
      exact ⟨m, up z⟩⟩,
    I.loc, I.cell, by
      rw [upd_ne nL.symm]
      exact I.free, fun x c e => by
      rw [upd_ne (nC x c e)]
      exact I.freeC x c e, fun p hp => by
      obtain ⟨e1, e2, e3⟩ := I.pin p hp
      exact ⟨e1, by
        rw [upd_ne (nP p hp)]
        exact e2, e3⟩, fun b u e => by
      by_cases hb : b = a
      · subst hb
        rw [upd_same] at e
        cases e
        exact new
      · rw [upd_ne hb] at e
        exact (I.hok b u e).stay (fun _ _ _ z => z) (fun c z => up z) fun c xs z => up z, I.len⟩
/-! ### an exception in flight stays so where objects are only added -/
theorem fly_keep {B : Heap} {l : List Env} {a : Addr} {Z : Obj → Prop} {h h' : Heap} (k : ∀ b o, h.get? b = some o → h'.get? b = some o) (f : HandSPX.FlyingZ B l a Z h) : HandSPX.FlyingZ B l a Z h' := by
  obtain ⟨f1, f2, f3, oe, vs, T, oT, ts, t1, t2, t3, t4, t5, t6, t7, t8, t9⟩ := f
  exact ⟨fun b o e => k b o (f1 b o e), f2, Heap.FunFrames.of_keeps (fun b o e _ => ⟨o, k b o e, rfl⟩) f3, oe, vs, T, oT, ts, k _ _ t1, t2, t3, t4, t5, t6, k _ _ t7, t8, t9⟩
theorem fly_there {B : Heap} {l : List Env} {a : Addr} {Z : Obj → Prop} {h : Heap} (f : HandSPX.FlyingZ B l a Z h) : ∃ oe vs, h.get? a = some oe ∧ Z oe ∧ oe.data = .fields vs := by
  obtain ⟨_, _, _, oe, vs, T, oT, ts, t1, t2, t3, _⟩ := f
  exact ⟨oe, vs, t1, t2, t3⟩
/-! ### try: body, except (x1, x2, x3) as n: suite; each exception of the body is one of these -/
def wTry3 (K : PySem.W.Frag) (c1 c2 c3 : Addr) (i : Nat) (ts : Addr → Obj → Value → Option Addr → TS) (D : Ends) : WX := fun cls d σ H =>
  PySem.W.exmAny K cls [.ref c1, .ref c2, .ref c3] = some true ∧ ∀ a oe tp, Zc cls d oe → (∃ vs, oe.data = .fields vs) → H a = none → H tp = none → tp ≠ a → ts a oe cls d { nx := fun σ' H' => D.nx (σ'.set i none) H', rt := D.rt, bk := fun σ' H' => D.bk (σ'.set i none) H', ct := fun σ' H' => D.ct (σ'.set i none) H' } (σ.set i (some (.ref a))) (upd H tp (.tup [.ref c1, .ref c2, .ref c3]))
section
variable {X : Cx} {x1 x2 x3 n : Str} {c1 c2 c3 : Addr} {i : Nat} {body suite : List Stmt} {b₀ : Stmt} {p1 p2 p3 pT pos pos' : Pos} {kT} {tb : WX → TS} {ts : Addr → Obj → Value → Option Addr → TS}
theorem tup3_at {a : Addr} {oe : Obj} {pn : List (Addr × Obj)} {σ : L2.St} {H : Hp} {s : Shared} {Q : Value → Shared → Prop} (I : Inv (X.suite a ((a, oe) :: pn)) [] σ H s) (g1 : Gl X x1) (m1 : X.mg x1 = some (.ref c1)) (g2 : Gl X x2) (m2 : X.mg x2 = some (.ref c2)) (g3 : Gl X x3) (m3 : X.mg x3 = some (.ref c3))
    (d1 : (x1 == ("__debug__" : Str)) = false) (d2 : (x2 == ("__debug__" : Str)) = false) (d3 : (x3 == ("__debug__" : Str)) = false)
    (q : ∀ s2 : Shared, s2 = { s with heap := s.heap.push { cls := .type "tuple", data := .seq [Value.ref c1, .ref c2, .ref c3].toArray }, toks := s2.toks } → H s.heap.objs.size = none → Inv (X.suite a ((a, oe) :: pn)) [] σ (upd H s.heap.objs.size (.tup [.ref c1, .ref c2, .ref c3])) s2 → Q (.ref s.heap.objs.size) s2)
    {E : Value → Shared → Prop} : wpAny (model X.prog X.w) (X.A.mark (some (.ref a))) (eval (.Tuple [.Name x1 p1, .Name x2 p2, .Name x3 p3] kT pT) X.env) Q E s := by
  have fresh : H s.heap.objs.size = none := I.hok.fresh (Nat.le_refl _)
  refine wpAny_Tuple_spliced ?_
  refine Calls.spliced_cons (ld_glob (X := X.suite a ((a, oe) :: pn)) I g1 m1 ?_ d1)
  refine Calls.spliced_cons (ld_glob (X := X.suite a ((a, oe) :: pn)) (I.tok _) g2 m2 ?_ d2)
  refine Calls.spliced_cons (ld_glob (X := X.suite a ((a, oe) :: pn)) (I.tok _) g3 m3 ?_ d3)
  refine Calls.spliced_nil ⟨(by show 3 ≤ sizeLine; decide), ?_⟩
  refine q _ rfl fresh ?_
  exact I.laid (t' := s.toks) (fun b u e => Heap.get?_push_of_some _ e) (Nat.le_refl _) ⟨(by show 3 ≤ sizeLine; decide), [.ref c1, .ref c2, .ref c3], .cons rfl (.cons rfl (.cons rfl .nil)), ⟨_, Heap.get?_push_size _ rfl, rfl, _, rfl⟩⟩
theorem ps_try3 (stk : X.stack = X.env :: X.outer) (fr : X.env.frame = some X.env.locals) (nd : X.N.Nodup) (hi : X.N[i]? = some n) (hn : X.env.kindOf n = some .local) (g1 : Gl X x1) (m1 : X.mg x1 = some (.ref c1)) (g2 : Gl X x2) (m2 : X.mg x2 = some (.ref c2)) (g3 : Gl X x3) (m3 : X.mg x3 = some (.ref c3))
    (bd : ∀ (W : WX) (pn : List (Addr × Obj)) (xe : Value → Shared → Prop), Takes (X.tr pn xe) W → PassesOwn (model X.prog X.w) X.A X.env xe → PSs (X.tr pn xe) body (tb W))
    (su : ∀ (a : Addr) (oe : Obj) (cls : Value) (d : Option Addr) (pn : List (Addr × Obj)), Zc cls d oe → (∃ vs, oe.data = .fields vs) → PSs (X.suite a ((a, oe) :: pn)) (b₀ :: suite) (ts a oe cls d))
    (d1 : (x1 == ("__debug__" : Str)) = false := by decide) (d2 : (x2 == ("__debug__" : Str)) = false := by decide) (d3 : (x3 == ("__debug__" : Str)) = false := by decide) :
    PS X (.Try body [.ExceptHandler (some (.Tuple [.Name x1 p1, .Name x2 p2, .Name x3 p3] kT pT)) (some n) (b₀ :: suite) pos'] [] [] pos) (fun D σ H => tb (wTry3 X.K c1 c2 c3 i ts D) D σ H) := by
  refine ⟨fun pins s σ H D I hbody => wpAny_Try_except ?_⟩
  have ok := I.ok
  have af : X.A.frames = some (X.env :: X.outer) := ok.frames.trans (congrArg some stk)
  have catch_ : ∀ (u : Value) (s' : Shared), XE (X.tr (X.pn ++ pins) X.xe) (wTry3 X.K c1 c2 c3 i ts D) u s' → wpAny (model X.prog X.w) X.A (noteFrame u X.env) (fun _ t2 => wpAny (model X.prog X.w) X.A (setFlight u none) (fun _ t3 =>
      wpAny (model X.prog X.w) X.A (handleBy u X.env [.ExceptHandler (some (.Tuple [.Name x1 p1, .Name x2 p2, .Name x3 p3] kT pT)) (some n) (b₀ :: suite) pos']) (SP X pins D) X.xe t3) X.xe t2) X.xe s' := by
    rintro u s' ⟨a, B, sI, pins2, σ2, H2, cls, d, rfl, J0, nb, up, sky, na, os, ag, hx, q⟩
    have J : Inv X pins σ2 H2 sI := J0.ofTry (xe := X.xe) ok
    have sky2 : Sky B (X.env :: X.outer) a (Zc cls d) X.env.locals s'.heap := stk ▸ sky
    refine Sky.land Zc.steady af fr sky2 fun h3 fl3 up3 => ?_
    obtain ⟨oe, vs, ha, hz, hv⟩ := fly_there fl3
    have J3 : Inv X pins σ2 H2 { s' with heap := h3 } := J.landed nb fl3.1 (up.trans up3) os ag
    have off : ∀ {h : Heap} {o : Obj} {us : Array Value}, HandSPX.FlyingZ B (X.env :: X.outer) a (Zc cls d) h → h.get? a = some o → o.data = .fields us → a ≠ X.env.locals ∧ a ∉ X.fs := fun {h o us} f e dd => by
      have no : a ∉ frs (X.env :: X.outer) := fun hm => by
        obtain ⟨_, o2, e2, z⟩ := f.2.2.1.mem hm
        rw [e] at e2
        cases e2
        exact z _ dd
      refine ⟨fun z => no (List.mem_filterMap.mpr ⟨X.env, List.mem_cons_self, by rw [fr, z]⟩), fun hm => ?_⟩
      obtain ⟨e1, he, qq⟩ := List.mem_filterMap.mp hm
      exact no (List.mem_filterMap.mpr ⟨e1, List.mem_cons_of_mem _ he, qq⟩)
    have o3 := off fl3 ha hv
    have S3 := J3.suite ha hv na o3.1 o3.2
    refine wpAny_handleBy_cons (codeAny_handlers_test ?_) (fun z => by cases z)
    refine tup3_at S3 g1 m1 g2 m2 g3 m3 d1 d2 d3 fun s4 e4 fr4 S4 => ?_
    have e4h : s4.heap = h3.push { cls := .type "tuple", data := .seq [Value.ref c1, .ref c2, .ref c3].toArray } := by rw [e4]
    have e4g : s4.gens = s'.gens := by rw [e4]
    have e4o : s4.os = s'.os := by rw [e4]
    have kp : ∀ b o, h3.get? b = some o → s4.heap.get? b = some o := fun b o z => by
      rw [e4h]
      exact Heap.get?_push_of_some _ z
    have fl4 := fly_keep kp fl3
    have ha4 := kp _ _ ha
    have J4 : Inv X pins σ2 (upd H2 h3.objs.size (.tup [.ref c1, .ref c2, .ref c3])) s4 := S4.unsuite ok
    have look : PySem.W.Looks (model X.prog X.w) s4.heap (typeOf (.ref a)) cls := fun A Q E s k z => wpAny_typeOf_ref (k _ _ ha4) (by rw [hz.1]; exact z)
    have tp : s4.heap.get? h3.objs.size = some { cls := .type "tuple", data := .seq [Value.ref c1, .ref c2, .ref c3].toArray } := by
      rw [e4h]
      exact Heap.get?_push_size _ rfl
    refine (PySem.W.exm_tup3 (M := model X.prog X.w) J4.kIn look tp hx).here ?_
    refine codeAny_handlers_suite_as ?_
    refine HandSPX.lands_againZ fl4 fun h5 fl5 up5 => ?_
    obtain ⟨oe5, vs5, ha5, hz5, hv5⟩ := fly_there fl5
    have o5 := off fl5 ha5 hv5
    have nat : a ≠ h3.objs.size := Nat.ne_of_lt (Heap.lt_size ha)
    have na4 : upd H2 h3.objs.size (.tup [.ref c1, .ref c2, .ref c3]) a = none := by
      rw [upd_ne nat]
      exact na
    have J5 : Inv X pins σ2 (upd H2 h3.objs.size (.tup [.ref c1, .ref c2, .ref c3])) { s4 with heap := h5 } := by
      have J' : Inv X pins σ2 H2 { s4 with heap := h5 } := J.landed nb fl5.1 (((up.trans up3).trans fun b o z _ => ⟨o.slots, kp b o z⟩).trans up5) (e4o.trans os) (e4g ▸ ag)
      have sz3 : ∀ {b o}, h3.get? b = some o → b ≠ h3.objs.size := fun z => Nat.ne_of_lt (Heap.lt_size z)
      refine inv_track J' fr4 J3.sz (Nat.ne_of_gt J3.lt) (fun x c z => ?_) (fun p hp => sz3 (J3.pin p hp).1) ?_
      · obtain ⟨v, o, z2, _⟩ := J3.cell x c z
        exact sz3 z2
      · obtain ⟨sl, z⟩ := up5 _ _ tp (by intro vs y; cases y)
        exact ⟨(by show 3 ≤ sizeLine; decide), [.ref c1, .ref c2, .ref c3], .cons rfl (.cons rfl (.cons rfl .nil)), ⟨_, z, rfl, _, rfl⟩⟩
    have S5 := J5.suite ha5 hv5 na4 o5.1 o5.2
    have cl : Loc X.env.scope n := .inl hn
    refine store_ok (X := X.suite a ((a, oe5) :: (X.pn ++ pins))) (v := .ref a) S5 nd hi cl rfl (fun s6 S6 => ?_) (.inr hn)
    have fin : ∀ {σ6 : L2.St} {H6 : Hp} {R : Shared → Prop} {s7 : Shared}, Inv (X.suite a ((a, oe5) :: (X.pn ++ pins))) [] σ6 H6 s7 → (∀ s8, Inv X pins (σ6.set i none) H6 s8 → R s8) →
        wpAny (model X.prog X.w) X.A (do bindName X.env n .none; unbindBehindTheSuite X.env n pos') (fun _ s8 => R s8) X.xe s7 := fun S7 hR => gone_ok (S7.unsuite ok) nd hi hn hR
    refine wpAny_mono ((su a oe5 cls d (X.pn ++ pins) hz5 ⟨_, hv5⟩).run [] s6 _ _ _ S6 (q a oe5 h3.objs.size hz5 ⟨_, hv5⟩ na fr4 nat.symm)) (fun f s7 z => ?_) (fun _ _ z => z.elim)
    cases f with
    | next => exact fin z.choose_spec.choose_spec.1 fun s8 J8 => ⟨_, _, J8, z.choose_spec.choose_spec.2⟩
    | brk => exact fin z.choose_spec.choose_spec.1 fun s8 J8 => ⟨_, _, J8, z.choose_spec.choose_spec.2⟩
    | cont => exact fin z.choose_spec.choose_spec.1 fun s8 J8 => ⟨_, _, J8, z.choose_spec.choose_spec.2⟩
    | ret u =>
      obtain ⟨v7, σ7, H7, S7, r7, q7⟩ := z
      exact fin S7 fun s8 J8 => ⟨_, _, _, J8, r7, q7⟩
  refine wpAny_mono ((bd (wTry3 X.K c1 c2 c3 i ts D) (X.pn ++ pins) _ (fun u s' xx => catch_ u s' ?_) PassesOwn.looking).run [] s σ H D (I.toTry _) hbody) (fun f s1 z => ?_) (fun e s1 z => z)
  · obtain ⟨a, B, sI, pins2, σ2, H2, cls, d, e1, J0, r⟩ := xx
    exact ⟨a, B, sI, [], σ2, H2, cls, d, e1, (J0.ofTry ok).toTry _, r⟩
  · cases f with
    | next =>
      obtain ⟨σ2, H2, J, q⟩ := z
      exact wpAny_execs_nil ⟨σ2, H2, J.ofTry ok, q⟩
    | brk =>
      obtain ⟨σ2, H2, J, q⟩ := z
      exact ⟨σ2, H2, J.ofTry ok, q⟩
    | cont =>
      obtain ⟨σ2, H2, J, q⟩ := z
      exact ⟨σ2, H2, J.ofTry ok, q⟩
    | ret u =>
      obtain ⟨v, σ2, H2, J, r, q⟩ := z
      exact ⟨v, σ2, H2, J.ofTry ok, r, q⟩
end
end Ag

namespace Ag
open PySem PySem.Spec PyProof.Rows L2
/-! ### lambdas as values: without parameters, or with one that has a written default -/
/-- all but lists and tables of code objects stays -/
def Fx (H H' : Hp) : Prop := ∀ c o, H c = some o → (∀ xs, o ≠ .lst xs) → (∀ ps, o ≠ .tbl ps) → H' c = some o
theorem Fx.refl (H : Hp) : Fx H H := fun _ _ e _ _ => e
theorem Fx.trans {H H1 H2 : Hp} (a : Fx H H1) (b : Fx H1 H2) : Fx H H2 := fun c o e n1 n2 => b c o (a c o e n1 n2) n1 n2
theorem Fx.of {H H' : Hp} (s : Same H H') : Fx H H' := fun c o e _ _ => s c o e
theorem Fx.kpL {b : Addr} {xs : List V} {H H' : Hp} (k : Kp b H H') (h : H b = some (.lst xs)) : Fx H H' := fun c o e n1 _ => k c o e fun z => by
  subst z
  rw [h] at e
  exact n1 xs (Option.some.inj e).symm
theorem Fx.kpT {b : Addr} {ps : Array Value} {H H' : Hp} (k : Kp b H H') (h : H b = some (.tbl ps)) : Fx H H' := fun c o e _ n2 => k c o e fun z => by
  subst z
  rw [h] at e
  exact n2 ps (Option.some.inj e).symm
theorem pin_lst {a : Addr} {o : Obj} {xs : List V} : pinO a o ≠ .lst xs := fun z => by
  unfold pinO at z
  cases z
theorem code_lst {c : Addr} {q : Str} {xs : List V} : LamX.CodeO c q ≠ .lst xs := fun z => by
  unfold LamX.CodeO at z
  cases z
structure LamAt (H : Hp) (f : Addr) (q : Str) (params : Arguments) (body : Expr) (scope : Scope) (cl : List (Str × Addr)) (dvs : List V) : Prop where
  ex : ∃ (dV doc pm ctv : Value) (c' : Addr), H f = some (pinO f (PySem.W.kdv_obj "<lambda>" q params (.expr body) scope cl dV doc pm c' ctv)) ∧ H c' = some (LamX.CodeO c' q) ∧ ((dvs = [] ∧ dV = .none) ∨ ∃ t, dvs ≠ [] ∧ dV = .ref t ∧ H t = some (.tup dvs))
theorem LamAt.fx {H H' : Hp} {f : Addr} {q : Str} {params : Arguments} {body : Expr} {scope : Scope} {cl : List (Str × Addr)} {dvs : List V} (L : LamAt H f q params body scope cl dvs) (k : Fx H H') : LamAt H' f q params body scope cl dvs := by
  obtain ⟨dV, doc, pm, ctv, c', h1, h2, h3⟩ := L.ex
  refine ⟨dV, doc, pm, ctv, c', k _ _ h1 (fun _ => pin_lst) (fun _ => pin_tbl), k _ _ h2 (fun _ => code_lst) LamX.codeO_ne, h3.imp id ?_⟩
  rintro ⟨t, e0, e, ht⟩
  exact ⟨t, e0, e, k _ _ ht (fun _ z => by cases z) (fun _ z => by cases z)⟩
theorem tabS_fx {H H' : Hp} {P : Addr} {q : Str} {ps : Array Value} (t : LamX.TabS H P q) (k : Fx H H') (e : ∀ ps, H P = some (.tbl ps) → H' P = some (.tbl ps)) : LamX.TabS H' P q := by
  obtain ⟨ps, h1, h2, h3⟩ := t
  refine ⟨ps, e _ h1, h2, fun pos cv hc => ?_⟩
  obtain ⟨c, e1, e2⟩ := h3 pos cv hc
  exact ⟨c, e1, k _ _ e2 (fun _ => code_lst) LamX.codeO_ne⟩
theorem tabS_kp {H H' : Hp} {b P : Addr} {q : Str} {xs : List V} (t : LamX.TabS H P q) (k : Kp b H H') (h : H b = some (.lst xs)) : LamX.TabS H' P q :=
  tabS_fx (ps := #[]) t (.kpL k h) fun ps e => k _ _ e fun z => by
    subst z
    rw [h] at e
    cases e
section
variable {X : Cx} {pins : List (Addr × Obj)} {σ : L2.St} {H : Hp} {s : Shared} {c P : Addr} {params : Arguments} {body : Expr} {scope : Scope} {pos : Pos} {line : Nat} {dvs : List V} {dV : Value} {Q : Value → Shared → Prop} {E : Value → Shared → Prop} {M : Model} {A : Around}
theorem lam_put (I : Inv X pins σ H s) (TB : LamX.TabB X.base X.mg c P) (hcode : X.env.code = .ref c) (T : LamX.TabS H P (X.env.qual ++ "<lambda>")) (hfree : ∀ y ∈ scope.names, y.2 = .free → ∃ c, X.env.cells.lookup y.1 = some c)
    (hd : (dvs = [] ∧ dV = .none) ∨ ∃ t, dvs ≠ [] ∧ dV = .ref t ∧ H t = some (.tup dvs))
    (h : ∀ (f : Addr) (H1 : Hp) (s' : Shared), Inv X pins σ H1 s' → Kp P H H1 → LamX.TabS H1 P (X.env.qual ++ "<lambda>") → H f = none → LamAt H1 f (X.env.qual ++ "<lambda>") params body scope (cloFrom X.env.cells scope.names []) dvs → Q (.ref f) s') :
    wpAny M A (makeTail "<lambda>" (X.env.qual ++ "<lambda>") params (.expr body) scope X.env dV .none none pos line) Q E s := by
  obtain ⟨ps, hP, tr, am⟩ := T
  have bP : s.heap.BuiltinsAt X.mg P := TB.bm.keeps I.bk
  have oP : s.heap.get? P = some { cls := .none, data := .fields ps } := I.hok P _ hP
  have old : ∀ {f : Addr}, s.heap.objs.size ≤ f → X.s_0.heap.objs.size ≤ f ∧ f ≠ X.env.locals ∧ (∀ x c, X.env.cells.lookup x = some c → c ≠ f) ∧ (∀ p ∈ X.pn ++ pins, p.1 ≠ f) ∧ H f = none := fun {f} hf => by
    have lt : ∀ {b o}, s.heap.get? b = some o → b ≠ f := fun z => Nat.ne_of_lt (Nat.lt_of_lt_of_le (Heap.lt_size z) hf)
    refine ⟨Nat.le_trans I.sz hf, Nat.ne_of_gt (Nat.lt_of_lt_of_le I.lt hf), fun x c z => ?_, fun p hp => lt (I.pin p hp).1, I.hok.fresh hf⟩
    obtain ⟨v, o, z2, _⟩ := I.cell x c z
    exact lt z2
  have nfP : ∀ {f : Addr}, s.heap.objs.size ≤ f → f ≠ P := fun hf z => by
    have := (old hf).2.2.2.2
    rw [z, hP] at this
    cases this
  cases hc : codeAmong pos ps.toList with
  | none =>
    refine PySem.W.kdv_makeTail (mg := X.mg) (c := c) (P := P) (ps := ps) (closure_ok hfree) I.ok.glob (I.mod.glob.keeps I.bk) hcode (TB.code.keeps I.bk) oP tr hc TB.gP bP fun c' ctv doc h' tk hx hge hlt hrec htb => ?_
    obtain ⟨c2, oc, vs, t, e2, hoc, hdd, hv⟩ := hrec
    cases e2
    have sz : s.heap.objs.size ≤ h'.objs.size := Nat.le_trans hge (Nat.le_of_lt hlt)
    have fr := I.hok.fresh hge
    have I1 := LamX.inv_table (t' := tk) (q := X.env.qual ++ "<lambda>") (more := #[rawInt pos.line, rawInt pos.col, .ref c']) (h' := h'.push (PySem.W.kdv_obj "<lambda>" (X.env.qual ++ "<lambda>") params (.expr body) scope (cloFrom X.env.cells scope.names []) dV doc ((X.mg "__name__").getD .none) c' ctv)) I hP
      (fun b o hb e => Heap.get?_push_of_some _ (hx b o hb e)) (Heap.get?_push_of_some _ htb) hge ⟨oc, vs, t, Heap.get?_push_of_some _ hoc, hdd, hv⟩
    obtain ⟨o1, o2, o3, o4, o5⟩ := old sz
    have n1 : h'.objs.size ≠ c' := Nat.ne_of_gt hlt
    have n2 := nfP sz
    have nn : upd (upd H P (.tbl (ps ++ #[rawInt pos.line, rawInt pos.col, .ref c']))) c' (LamX.CodeO c' (X.env.qual ++ "<lambda>")) h'.objs.size = none := by
      rw [upd_ne n1, upd_ne n2]
      exact o5
    have I2 := inv_track I1 nn o1 o2 o3 o4 (pin_ok (Heap.get?_push_size _ rfl))
    have hE : Kp P H (upd (upd (upd H P (.tbl (ps ++ #[rawInt pos.line, rawInt pos.col, .ref c']))) c' (LamX.CodeO c' (X.env.qual ++ "<lambda>"))) h'.objs.size (pinO h'.objs.size (PySem.W.kdv_obj "<lambda>" (X.env.qual ++ "<lambda>") params (.expr body) scope (cloFrom X.env.cells scope.names []) dV doc ((X.mg "__name__").getD .none) c' ctv))) := fun b o e n => by
      rw [upd_ne (ne_of_none e o5), upd_ne (ne_of_none e fr), upd_ne n]
      exact e
    have hcO : upd (upd (upd H P (.tbl (ps ++ #[rawInt pos.line, rawInt pos.col, .ref c']))) c' (LamX.CodeO c' (X.env.qual ++ "<lambda>"))) h'.objs.size (pinO h'.objs.size (PySem.W.kdv_obj "<lambda>" (X.env.qual ++ "<lambda>") params (.expr body) scope (cloFrom X.env.cells scope.names []) dV doc ((X.mg "__name__").getD .none) c' ctv)) c' = some (LamX.CodeO c' (X.env.qual ++ "<lambda>")) := by
      rw [upd_ne n1.symm, upd_same]
    have eL : (ps ++ #[rawInt pos.line, rawInt pos.col, .ref c']).toList = ps.toList ++ [rawInt pos.line, rawInt pos.col, .ref c'] := by simp
    refine h _ _ _ I2 hE ⟨_, by rw [upd_ne n2.symm, upd_ne (ne_of_none hP fr), upd_same], by rw [eL]; exact PySem.TriplesOk_snoc _ _ _ _ tr, fun p' cv hcv => ?_⟩ o5 ⟨dV, doc, _, ctv, c', upd_same, hcO, hd.imp id ?_⟩
    · rw [eL] at hcv
      rcases LamX.among_app _ tr hcv with z | z
      · obtain ⟨c0, e1, e2⟩ := am p' cv z
        refine ⟨c0, e1, hE _ _ e2 fun y => ?_⟩
        rw [y, hP] at e2
        exact LamX.codeO_ne _ (Option.some.inj e2).symm
      · exact ⟨c', z, hcO⟩
    · rintro ⟨t, e0, e, ht⟩
      refine ⟨t, e0, e, hE _ _ ht fun y => ?_⟩
      rw [y, hP] at ht
      cases ht
  | some cv =>
    obtain ⟨c', e, hco⟩ := am pos cv hc
    subst e
    refine PySem.W.kdv_makeTailHit (mg := X.mg) (c := c) (P := P) (ps := ps) (closure_ok hfree) I.ok.glob (I.mod.glob.keeps I.bk) hcode (TB.code.keeps I.bk) oP tr hc bP fun ctv doc h' tk hx sz => ?_
    have I1 : Inv X pins σ H { s with heap := h'.push (PySem.W.kdv_obj "<lambda>" (X.env.qual ++ "<lambda>") params (.expr body) scope (cloFrom X.env.cells scope.names []) dV doc ((X.mg "__name__").getD .none) c' ctv), toks := tk } := I.kept fun b o e => Heap.get?_push_of_some _ (hx b o e)
    obtain ⟨o1, o2, o3, o4, o5⟩ := old sz
    have I2 := inv_track I1 o5 o1 o2 o3 o4 (pin_ok (Heap.get?_push_size _ rfl))
    have sm := same_new o5 (pinO h'.objs.size (PySem.W.kdv_obj "<lambda>" (X.env.qual ++ "<lambda>") params (.expr body) scope (cloFrom X.env.cells scope.names []) dV doc ((X.mg "__name__").getD .none) c' ctv))
    refine h _ _ _ I2 (.of sm) (LamX.TabS.ext ⟨ps, hP, tr, am⟩ sm) o5 ⟨dV, doc, _, ctv, c', upd_same, sm _ _ hco, hd.imp id ?_⟩
    rintro ⟨t, e0, e, ht⟩
    exact ⟨t, e0, e, sm _ _ ht⟩
end
/-- a lambda's expression -/
def tLam (X : Cx) (P : Addr) (params : Arguments) (body : Expr) (scope : Scope) (dvs : List V) : TE := fun σ H Q => LamX.TabS H P (X.env.qual ++ "<lambda>") ∧ ∀ (f : Addr) (H1 : Hp), Kp P H H1 → LamX.TabS H1 P (X.env.qual ++ "<lambda>") → H f = none →
  LamAt H1 f (X.env.qual ++ "<lambda>") params body scope (cloFrom X.env.cells scope.names []) dvs → Q (.ref f) H1
section
variable {X : Cx} {c P : Addr} {params : Arguments} {body : Expr} {scope : Scope} {pos : Pos}
theorem pe_lam0 (TB : LamX.TabB X.base X.mg c P) (hcode : X.env.code = .ref c) (hfree : X.Ok → ∀ y ∈ scope.names, y.2 = .free → ∃ c, X.env.cells.lookup y.1 = some c) (hdef : defaultsOf params X.env = ([], []) := by rfl) :
    PE X (.Lambda params body scope pos) (tLam X P params body scope []) := by
  refine ⟨fun pins s σ H Q I h => PySem.W.kla_eval hdef ?_⟩
  rw [makeFunction_eq]
  simp only [List.zip_nil_right, List.filterMap_nil, List.isEmpty_nil, if_true, pure_bind]
  exact lam_put I TB hcode h.1 (hfree I.ok) (.inl ⟨rfl, rfl⟩) fun f H1 s' J k T n L => ⟨.ref f, H1, J, rfl, h.2 f H1 k T n L⟩
theorem pe_lam1 {kk : Nat} {pp : Pos} {z : Int} (TB : LamX.TabB X.base X.mg c P) (hcode : X.env.code = .ref c) (hfree : X.Ok → ∀ y ∈ scope.names, y.2 = .free → ∃ c, X.env.cells.lookup y.1 = some c)
    (hdef : defaultsOf params X.env = ([eval (.Constant (.int z) kk pp) X.env], []) := by rfl) : PE X (.Lambda params body scope pos) (tLam X P params body scope [.int z]) := by
  refine ⟨fun pins s σ H Q I h => ?_⟩
  rw [arm_eval_Lambda, hdef]
  show wpAny _ _ (do let dv ← evalAll [eval (.Constant (.int z) kk pp) X.env]; let kdv ← holding dv (evalAllOpt []); makeFunction "<lambda>" (X.env.qual ++ "<lambda>") params (.expr body) scope X.env dv kdv [] pos pos.line) _ _ s
  refine wpAny_bind (evalAll_cons ?_)
  refine thn ((pe_int (X := X) (i := z)).run pins s σ H (fun v H1 => v = .int z ∧ H1 = H) I ⟨rfl, rfl⟩) fun u s1 ⟨v, H1, I1, rv, ev, eH⟩ => ?_
  subst ev
  subst eH
  refine evalAll_nil (wpAny_bind (wpAny_holding (wpAny_pure ?_)))
  rw [makeFunction_eq]
  simp only [List.zip_nil_right, List.filterMap_nil, List.isEmpty_nil, if_true, pure_bind, List.isEmpty_cons, Bool.false_eq_true, if_false]
  refine wpAny_bind (wpAny_newTextTuple ?_)
  have fr : H1 s1.heap.objs.size = none := I1.hok.fresh (Nat.le_refl _)
  have I2 : Inv X pins σ (upd H1 s1.heap.objs.size (.tup [.int z])) { s1 with heap := s1.heap.push { cls := .type "tuple", data := .seq [u].toArray } } :=
    I1.laid (t' := s1.toks) (fun b w e => Heap.get?_push_of_some _ e) (Nat.le_refl _) ⟨(by show 1 ≤ sizeLine; decide), [u], .cons rv .nil, ⟨_, Heap.get?_push_size _ rfl, rfl, _, rfl⟩⟩
  have sm := same_new fr (.tup [.int z])
  refine lam_put I2 TB hcode (h.1.ext sm) (hfree I.ok) (.inr ⟨_, (fun z => by cases z), rfl, upd_same⟩) fun f H2 s' J k T n L => ⟨.ref f, H2, J, rfl, h.2 f H2 (fun b o e ne => k b o (sm _ _ e) ne) T ?_ L⟩
  cases q : H1 f with
  | none => rfl
  | some o =>
    rw [sm _ _ q] at n
    cases n
end
/-! ### what a value promises that is called without arguments -/
structure Asks (P : Program) (w : World) (K : PySem.W.Frag) (mg : Str → Option Value) (base : Heap) (k : Nat) (f : Addr) (H : Hp) (Q : VK) (E : XK) : Prop where
  fn : ∀ h, HOk P w H h → PySem.W.FnAt f h
  run : ∀ (A : Around) (outer : List Env) (s : Shared), Room k A → Env0 P w K mg base A outer s H → codeAny (model P w) A (.call (.ref f) ⟨[], []⟩) (CR (L2.CX P w) outer P w H s Q E) s
/-- x(): slot i holds such a value; what it raises is wished for -/
theorem pe_ask {X : Cx} {W : WX} {k i : Nat} {x : Str} {p1 p2 : Pos} (room : Room k X.A) (tk : Takes X W) (hN : X.N[i]? = some x) (hv : Vis X.env.scope x) (hd : (x == ("__debug__" : Str)) = false := by decide) (hcd : (x == ("__classdict__" : Str)) = false := by decide) :
    PE X (.Call (.Name x p1) [] [] p2) (fun σ H Q => ∃ f E, σ[i]? = some (some (.ref f)) ∧ Asks X.prog X.w X.K X.mg X.base k f H Q E ∧ ∀ cls d H', E cls d H' → W cls d σ H') := by
  refine ⟨?_⟩
  rintro pins s σ H Q I ⟨f, E, hs, B, hW⟩
  refine wpAny_Call_Name_kw (thn ((pe_var (pos := p1) (i := i) hN hv hd hcd).run pins s σ H (fun v H1 => v = .ref f ∧ H1 = H) I ⟨.ref f, hs, rfl, rfl⟩) fun u s1 ⟨v, H1, I1, r1, ev, eH⟩ => ?_)
  subst ev
  subst eH
  obtain rfl : u = Value.ref f := r1
  refine PySem.W.callWith_F0 (B.fn _ I1.hok) (wpAny_call (codeAny_mono (B.run X.A X.stack s1 room I1.env0) fun r s2 z => ?_))
  match r, z with
  | .ok (.ret u), z => exact I1.after z
  | .error e, z => exact tk _ _ (XE.of_call I1 (fun cls d H' q => hW cls d H' q) z)
/-! ### a lambda's body -/
/-- the context in which it runs: q its qualified name, cl its cells -/
def lamC (P : Program) (w : World) (K : PySem.W.Frag) (mg : Str → Option Value) (base : Heap) (N : List Str) (q : Str) (scope : Scope) (cl : List (Str × Addr)) (f c' : Addr) (A : Around) (outer : List Env) (s : Shared) (H : Hp) (E : XK) : Cx where
  prog := P
  w := w
  K := K
  mg := mg
  base := base
  A := A.deeper (PySem.W.envX q scope s.heap.objs.size f (.ref c') cl)
  N := N
  s_0 := s
  H_0 := H
  env := PySem.W.envX q scope s.heap.objs.size f (.ref c') cl
  outer := outer
  stack := PySem.W.envX q scope s.heap.objs.size f (.ref c') cl :: outer
  ex := []
  fn := fun _ => false
  calm := true
  pn := []
  xe := fun e s' => wpAny (model P w) (A.deeper (PySem.W.envX q scope s.heap.objs.size f (.ref c') cl)) (leaving (PySem.W.envX q scope s.heap.objs.size f (.ref c') cl) e) (fun _ s'' => L2.CX P w outer H s E e s'') (fun e' s'' => L2.CX P w outer H s E e' s'') s'
/-- its names: captured ones, globals, and as its own the parameters ps (which have defaults) -/
structure LamSc (scope : Scope) (ps : List Str) : Prop where
  kind : scope.kind = .function
  co : scope.isCoroutine = false
  gen : scope.isGenerator = false
  own : ∀ y ∈ scope.names, y.2 ≠ .cell ∧ (y.2 = .local → y.1 ∈ ps)
  par : ∀ x ∈ ps, scope.names.lookup x = some .local
/-- the cells stand, each with the value that a name of the slots has -/
structure CellsIn (N : List Str) (σ : L2.St) (scope : Scope) (cl : List (Str × Addr)) (l : Pins) : Prop where
  inj : ∀ x y c, cl.lookup x = some c → cl.lookup y = some c → x = y
  has : ∀ y ∈ scope.names, y.2 = .free → ∃ c, cl.lookup y.1 = some c
  at_ : ∀ x c, cl.lookup x = some c → ∃ o v, l.lookup c = some o ∧ o.data = .cell v
  val : ∀ (i : Nat) (x : Str) (v : V), N[i]? = some x → σ[i]? = some (some v) → scope.names.lookup x = some .free → ∃ c o u, cl.lookup x = some c ∧ l.lookup c = some o ∧ o.data = .cell (some u) ∧ RelV v u
section
variable {P : Program} {w : World} {K : PySem.W.Frag} {mg : Str → Option Value} {base : Heap}
theorem lamC_start {N ps : List Str} {q : Str} {scope : Scope} {cl : List (Str × Addr)} {f c' : Addr} {A : Around} {outer : List Env} {s : Shared} {H : Hp} {E : XK} {h₁ : Heap} {tk : Nat} {l : Pins} {σ : L2.St} {m : Str → Option Value} (L : LamSc scope ps) (e0 : Env0 P w K mg base A outer s H) (hd : A.handled = none)
    (C : CellsIn N σ scope cl l) (nl : ∀ x ∈ N, scope.names.lookup x ≠ some .local) (hl : ∀ b o, l.lookup b = some o → H b = some (pinO b o)) (hns : h₁.Ns s.heap.objs.size m) (kp : ∀ b o, s.heap.get? b = some o → h₁.get? b = some o) (len : σ.length = N.length) :
    Inv (lamC P w K mg base N q scope cl f c' A outer s (remp H l) E) [] σ (remp H l) { s with heap := h₁, toks := tk } := by
  have e1 := env0_rem e0 hl
  have none_ : ∀ b : Addr, b ∉ (lamC P w K mg base N q scope cl f c' A outer s (remp H l) E).ex := fun b z => absurd (show b ∈ ([] : List Addr) from z) (by simp)
  have cellAt : ∀ {x c}, cl.lookup x = some c → ∃ o v, l.lookup c = some o ∧ o.data = .cell v ∧ h₁.get? c = some o := fun {x c} z => by
    obtain ⟨o, v, z1, z2⟩ := C.at_ x c z
    exact ⟨o, v, z1, z2, kp _ _ (pin_at e0.hok (hl c o z1))⟩
  have okX : (lamC P w K mg base N q scope cl f c' A outer s (remp H l) E).Ok := by
    refine ⟨e1.mod, L.kind, rfl, rfl, Nat.le_refl _, C.inj, fun x hx => ?_, fun x c z => (by cases (show false = true from z)), fun _ => hd, Around.frames_deeper e1.frames, .inr ⟨rfl, rfl⟩, fun b z => absurd z (none_ b), e1.bs, e1.bsz, fun b _ _ => none_ b, fun b z => absurd z (none_ b), e1.funs, e1.frf⟩
    have hx2 : scope.names.lookup x = some .cell ∨ scope.names.lookup x = some .free := hx
    rcases hx2 with z | z
    · exact absurd rfl (L.own _ (PySem.mem_of_lookup z)).1
    · exact C.has _ (PySem.mem_of_lookup z) rfl
  refine ⟨okX, rfl, e1.bare, Un.kept kp, ⟨_, hns, fun i x v z1 z2 z3 => ?_⟩, fun x c z => ?_, e1.hok.fresh (Nat.le_refl _), fun x c z => ?_, fun p hp => absurd (show p ∈ ([] : List (Addr × Obj)) from hp) (by simp), e1.hok.kept kp, len⟩
  · have z3' : scope.names.lookup x = some .local ∨ scope.names.lookup x = some .cell ∨ scope.names.lookup x = some .free := z3
    rcases z3' with z | z | z
    · exact absurd z (nl x (List.mem_of_getElem? z1))
    · exact absurd rfl (L.own _ (PySem.mem_of_lookup z)).1
    · obtain ⟨c, o, u, y1, y2, y3, y4⟩ := C.val i x v z1 z2 z
      exact ⟨u, y4, .inr ⟨.inr z, c, y1, o, kp _ _ (pin_at e0.hok (hl c o y2)), y3⟩⟩
  · obtain ⟨o, v, y1, y2, y3⟩ := cellAt z
    exact ⟨v, o, y3, y2⟩
  · obtain ⟨o, v, y1, _⟩ := C.at_ x c z
    exact remp_in y1
/-- how the lambda's parameters are bound where nothing is handed in -/
def LamBind (q : Str) (params : Arguments) (body : Expr) (scope : Scope) (cl : List (Str × Addr)) (dvs : List V) (ps : List Str) : Prop :=
  (dvs = [] ∧ ps = [] ∧ ∀ doc pm cv ctv : Value, bindArgs (PySem.W.kdv_fn "<lambda>" q params (.expr body) scope cl .none doc pm cv ctv) ⟨[], []⟩ = pure []) ∨
  ∃ (z : V) (x : Str), dvs = [z] ∧ ps = [x] ∧ ∀ (t : Addr) (doc pm cv ctv : Value), ∃ kk : Option (Array Value) → Sem (List (Str × Value)), bindArgs (PySem.W.kdv_fn "<lambda>" q params (.expr body) scope cl (.ref t) doc pm cv ctv) ⟨[], []⟩ = seqItems? (.ref t) >>= kk ∧ ∀ u, kk (some #[u]) = pure [(x, u)]
theorem lam_binds {q : Str} {params : Arguments} {body : Expr} {scope : Scope} {cl : List (Str × Addr)} {dvs : List V} {ps : List Str} {H : Hp} {dV doc pm cv ctv : Value} {s : Shared} (B : LamBind q params body scope cl dvs ps) (ok : HOk P w H s.heap) (hd : (dvs = [] ∧ dV = .none) ∨ ∃ t, dvs ≠ [] ∧ dV = .ref t ∧ H t = some (.tup dvs)) :
    ∃ us : List Value, us.length = ps.length ∧ BindsTo s (PySem.W.kdv_fn "<lambda>" q params (.expr body) scope cl dV doc pm cv ctv) ⟨[], []⟩ (ps.zip us) := by
  rcases B with ⟨rfl, rfl, hb⟩ | ⟨z, x, rfl, rfl, hb⟩
  · rcases hd with ⟨_, rfl⟩ | ⟨t, e0, _, ht⟩
    · exact ⟨[], rfl, .of_eq (hb _ _ _ _)⟩
    · exact absurd rfl e0
  · rcases hd with ⟨e, _⟩ | ⟨t, _, rfl, ht⟩
    · cases e
    · obtain ⟨_, its, rv, o, ho, hc, n, hdt⟩ : ObjOk P w H s.heap t (.tup [z]) := ok t _ ht
      cases rv with
      | @cons _ u _ _ r1 r2 =>
        cases r2
        obtain ⟨kk, e1, e2⟩ := hb t doc pm cv ctv
        refine ⟨[u], rfl, fun M A E Q hq => ?_⟩
        rw [e1]
        refine wpAny_bind (wpAny_seqItems ho hdt ?_)
        rw [show ([u].toArray : Array Value) = #[u] from rfl, e2]
        exact wpAny_pure hq
theorem ask_of {k : Nat} {q : Str} {params : Arguments} {body : Expr} {scope : Scope} {cl : List (Str × Addr)} {dvs : List V} {ps N : List Str} {f : Addr} {H : Hp} {l : Pins} {σ : L2.St} {Q : VK} {E : XK} (L : LamSc scope ps) (A0 : LamAt H f q params body scope cl dvs) (B : LamBind q params body scope cl dvs ps)
    (C : CellsIn N σ scope cl l) (nl : ∀ x ∈ N, scope.names.lookup x ≠ some .local) (hl : ∀ b o, l.lookup b = some o → H b = some (pinO b o)) (len : σ.length = N.length)
    (hbody : ∀ (A : Around) (outer : List Env) (s : Shared) (c' : Addr), Room k (A.deeper (PySem.W.envX q scope s.heap.objs.size f (.ref c') cl)) →
      ∃ t, PE (lamC P w K mg base N q scope cl f c' A outer s (remp H l) (fun cls d H2 => (∀ b o, l.lookup b = some o → H2 b = none) → E cls d (addp H2 l))) body t ∧ t σ (remp H l) (fun v H2 => (∀ b o, l.lookup b = some o → H2 b = none) → Q v (addp H2 l))) : Asks P w K mg base (k + 1) f H Q E := by
  obtain ⟨dV, doc, pm, ctv, c', hf, hco, hdv⟩ := A0.ex
  refine ⟨fun h ok => ⟨_, _, _, _, pin_at ok hf⟩, fun A outer s room e0 => ?_⟩
  obtain ⟨⟨oc, vs, tq, hoc, hdc, hvc⟩, _, _⟩ : ObjOk P w H s.heap c' (LamX.CodeO c' q) := e0.hok c' _ hco
  refine PySem.W.kla_callFunE (fd := PySem.W.kdv_fn "<lambda>" q params (.expr body) scope cl dV doc pm (.ref c') ctv) room.depth (pin_at e0.hok hf) rfl L.co L.gen rfl ⟨c', oc, vs, tq, rfl, hoc, hdc, hvc⟩ ?_
  obtain ⟨us, hus, hb⟩ := lam_binds (dV := dV) (doc := doc) (pm := pm) (cv := .ref c') (ctv := ctv) B e0.hok hdv
  refine hb _ _ _ _ ?_
  have nolim : s.heap.NoLimit := e0.mod.nolimit.keeps fun b o z => (e0.bs b o z).1
  refine wpAny_newFunctionEnv (fun y hy => (L.own y hy).1) (fun y hy => L.par _ (List.of_mem_zip (show (y.1, y.2) ∈ ps.zip us from hy)).1) (fun h₁ hns hsb => ⟨nolim.fresh _ hsb, ?_⟩) L.kind
  show codeAny _ _ (.expr body (PySem.W.envX q scope s.heap.objs.size f (.ref c') cl)) _ _
  have kp : ∀ b o, s.heap.get? b = some o → h₁.get? b = some o := fun b o z => hsb.extBut b o (Nat.ne_of_lt (Heap.lt_size z)) (Heap.get?_push_of_some _ z)
  have J : Inv (lamC P w K mg base N q scope cl f c' A outer s (remp H l) (fun cls d H2 => (∀ b o, l.lookup b = some o → H2 b = none) → E cls d (addp H2 l))) [] σ (remp H l) { s with heap := h₁, toks := s.toks + (ps.zip us).length } := lamC_start L e0 room.hd C nl hl hns kp len
  obtain ⟨t, ht, hq⟩ := hbody A outer s c' (room.deeper _)
  refine PySem.W.kla_codeExpr (wpAny_mono (ht.run [] _ _ _ _ J hq) (fun u s' z => ?_) fun e s' z => ?_)
  · obtain ⟨v, H2, J2, rv, q2⟩ := z
    exact ce_add e0 hl ⟨v, H2, J2.os, J2.bare, J2.base, J2.hok, rv, q2⟩
  · exact wpAny_mono z (fun _ s2 y => cx_add e0 hl y) (fun e2 s2 y => cx_add e0 hl y)
end
end Ag

namespace Ag
open PySem PySem.Spec PyProof.Rows L2
/-! ### formulas and shapes -/
inductive Fm where
  | fls
  | atom (w : List Nat)
  | hole (c : List Nat)
  | bin (k : Fin 3) (a b : Fm)
  deriving DecidableEq
/-- the joints: 0 then, 1 and, otherwise or -/
def kd (k : Fin 3) : Str := match k with
  | 0 => "then"
  | 1 => "and"
  | 2 => "or"
def Fm.dat : Fm → PyData
  | .fls => .tuple [.str "false"]
  | .atom w => .tuple [.str "atom", .str (SX.S w)]
  | .hole c => .tuple [.str "hole", .str (SX.S c)]
  | .bin k a b => .tuple [.str (kd k), a.dat, b.dat]
def Fr (K : PySem.W.Frag) (H : Hp) (v : V) (t : Fm) : Prop := Dp K H v t.dat
section
variable {K : PySem.W.Frag} {H H' : Hp} {v x y : V} {b l : Addr}
theorem dpall2 {xs : List V} {d e : PyData} (h : DpAll K H xs [d, e]) : ∃ x y, xs = [x, y] ∧ Dp K H x d ∧ Dp K H y e := by
  cases h with
  | cons h1 h => cases h with
    | cons h2 h =>
      cases h
      exact ⟨_, _, rfl, h1, h2⟩
theorem dpall3 {xs : List V} {d e g : PyData} (h : DpAll K H xs [d, e, g]) : ∃ x y z, xs = [x, y, z] ∧ Dp K H x d ∧ Dp K H y e ∧ Dp K H z g := by
  cases h with
  | cons h1 h => cases h with
    | cons h2 h => cases h with
      | cons h3 h =>
        cases h
        exact ⟨_, _, _, rfl, h1, h2, h3⟩
theorem fr_fls (h : Fr K H v .fls) : ∃ p, v = .ref p ∧ SqT K H p [.str "false"] := by
  cases h with
  | tup q r =>
    cases r with
    | cons h1 h =>
      cases h
      cases h1
      exact ⟨_, rfl, q⟩
theorem fr_atom {w : List Nat} (h : Fr K H v (.atom w)) : ∃ p, v = .ref p ∧ SqT K H p [.str "atom", .str (SX.S w)] := by
  cases h with
  | tup q r =>
    obtain ⟨x, y, rfl, h1, h2⟩ := dpall2 r
    cases h1
    cases h2
    exact ⟨_, rfl, q⟩
theorem fr_hole {w : List Nat} (h : Fr K H v (.hole w)) : ∃ p, v = .ref p ∧ SqT K H p [.str "hole", .str (SX.S w)] := by
  cases h with
  | tup q r =>
    obtain ⟨x, y, rfl, h1, h2⟩ := dpall2 r
    cases h1
    cases h2
    exact ⟨_, rfl, q⟩
theorem fr_bin {k : Fin 3} {s t : Fm} (h : Fr K H v (.bin k s t)) : ∃ p x y, v = .ref p ∧ SqT K H p [.str (kd k), x, y] ∧ Fr K H x s ∧ Fr K H y t := by
  cases h with
  | tup q r =>
    obtain ⟨x, y, z, rfl, h1, h2, h3⟩ := dpall3 r
    cases h1
    exact ⟨_, _, _, rfl, q, h2, h3⟩
theorem mk_fls {p : Addr} (h : SqT K H p [.str "false"]) : Fr K H (.ref p) .fls := .tup h (.cons (.str _) .nil)
theorem mk_atom {p : Addr} {w : List Nat} (h : SqT K H p [.str "atom", .str (SX.S w)]) : Fr K H (.ref p) (.atom w) := .tup h (.cons (.str _) (.cons (.str _) .nil))
theorem mk_hole {p : Addr} {w : List Nat} (h : SqT K H p [.str "hole", .str (SX.S w)]) : Fr K H (.ref p) (.hole w) := .tup h (.cons (.str _) (.cons (.str _) .nil))
theorem mk_bin {p : Addr} {k : Fin 3} {s t : Fm} (h : SqT K H p [.str (kd k), x, y]) (hs : Fr K H x s) (ht : Fr K H y t) : Fr K H (.ref p) (.bin k s t) := .tup h (.cons (.str _) (.cons hs (.cons ht .nil)))
theorem Fr.same (s : Same H H') {t : Fm} (h : Fr K H v t) : Fr K H' v t := Dp_same s h
theorem Fr.rd (s : RdLe H H') {t : Fm} (h : Fr K H v t) : Fr K H' v t := Dp_rd s h
theorem kp_tup (k : Kp b H H') (g : Bag H b l) {p : Addr} {xs : List V} (h : SqT K H p xs) : SqT K H' p xs := by
  obtain ⟨ns, at', big, seed, cnt, h1, _⟩ := g
  rcases h with (h | ⟨o, h⟩) | h
  · exact .inl (.inl (k _ _ h (ne_of h h1 (by intro z; cases z))))
  · exact .inl (.inr ⟨o, k _ _ h (ne_of h h1 (by intro z; cases z))⟩)
  · exact .inr h
theorem Fr.kp (k : Kp b H H') (g : Bag H b l) : ∀ {t : Fm} {v : V}, Fr K H v t → Fr K H' v t
  | .fls, _, h => by
    obtain ⟨p, rfl, q⟩ := fr_fls h
    exact mk_fls (kp_tup k g q)
  | .atom w, _, h => by
    obtain ⟨p, rfl, q⟩ := fr_atom h
    exact mk_atom (kp_tup k g q)
  | .hole w, _, h => by
    obtain ⟨p, rfl, q⟩ := fr_hole h
    exact mk_hole (kp_tup k g q)
  | .bin j s t, _, h => by
    obtain ⟨p, x, y, rfl, q, hs, ht⟩ := fr_bin h
    exact mk_bin (kp_tup k g q) (Fr.kp k g hs) (Fr.kp k g ht)
end
/-- less than n deep, atoms of ws, holes of hs -/
def okF (ws hs : List (List Nat)) : Nat → Fm → Prop
  | 0, _ => False
  | _ + 1, .fls => True
  | _ + 1, .atom w => w ∈ ws
  | _ + 1, .hole c => c ∈ hs
  | n + 1, .bin _ a b => okF ws hs n a ∧ okF ws hs n b
theorem okF.up {ws hs : List (List Nat)} : ∀ {n : Nat} {t : Fm}, okF ws hs n t → okF ws hs (n + 1) t
  | 0, _, h => h.elim
  | _ + 1, .fls, _ => trivial
  | _ + 1, .atom _, h => h
  | _ + 1, .hole _, h => h
  | _ + 1, .bin _ _ _, h => ⟨okF.up h.1, okF.up h.2⟩
theorem okF.le {ws hs : List (List Nat)} {t : Fm} {n m : Nat} (h : okF ws hs n t) (e : n ≤ m) : okF ws hs m t := by
  induction e with
  | refl => exact h
  | step _ ih => exact ih.up
theorem okF.holes {ws hs hs' : List (List Nat)} (hh : ∀ c ∈ hs, c ∈ hs') : ∀ {n : Nat} {t : Fm}, okF ws hs n t → okF ws hs' n t
  | 0, _, h => h.elim
  | _ + 1, .fls, _ => trivial
  | _ + 1, .atom _, h => h
  | _ + 1, .hole _, h => hh _ h
  | _ + 1, .bin _ _ _, h => ⟨okF.holes hh h.1, okF.holes hh h.2⟩
theorem atI_kd (k : Fin 3) : atI ([.str "then", .str "and", .str "or"] : List V) ((k.val : Nat) : Int) = some (.str (kd k)) := by
  match k with
  | 0 => rfl
  | 1 => rfl
  | 2 => rfl
theorem kd_inj {k j : Fin 3} : kd k = kd j → k = j := by
  revert k j
  decide +kernel
theorem kd_atom {k : Fin 3} : kd k ≠ "atom" := by
  revert k
  decide +kernel
theorem kd_hole {k : Fin 3} : kd k ≠ "hole" := by
  revert k
  decide +kernel
theorem kd_false {k : Fin 3} : kd k ≠ "false" := by
  revert k
  decide +kernel
/-! ### equality of data is equality of formulas -/
theorem beq_S (a b : List Nat) : (SX.S a == SX.S b) = decide (a = b) := SX.S_beq_eq
theorem eqvStr (a b : Str) : PyData.eqv (.str a) (.str b) = decide (a = b) := by
  show (a == b) = decide (a = b)
  rw [← SX.S_tl a, ← SX.S_tl b, beq_S]
  by_cases h : a.cps.toList = b.cps.toList
  · rw [decide_eq_true h, decide_eq_true (by rw [h])]
  · rw [decide_eq_false h, decide_eq_false (fun z => h (SX.S_inj z))]
theorem eqv1 (a b : PyData) : PyData.eqv (.tuple [a]) (.tuple [b]) = PyData.eqv a b := by
  show (PyData.eqv a b && true) = _
  rw [Bool.and_true]
theorem eqv2 (a b c d : PyData) : PyData.eqv (.tuple [a, c]) (.tuple [b, d]) = (PyData.eqv a b && PyData.eqv c d) := by
  show (PyData.eqv a b && (PyData.eqv c d && true)) = _
  rw [Bool.and_true]
theorem eqv3 (a b c d e f : PyData) : PyData.eqv (.tuple [a, c, e]) (.tuple [b, d, f]) = (PyData.eqv a b && (PyData.eqv c d && PyData.eqv e f)) := by
  show (PyData.eqv a b && (PyData.eqv c d && (PyData.eqv e f && true))) = _
  rw [Bool.and_true]
theorem eqv12 (a b c : PyData) : PyData.eqv (.tuple [a]) (.tuple [b, c]) = false := by
  show (PyData.eqv a b && false) = false
  rw [Bool.and_false]
theorem eqv21 (a b c : PyData) : PyData.eqv (.tuple [a, c]) (.tuple [b]) = false := by
  show (PyData.eqv a b && false) = false
  rw [Bool.and_false]
theorem eqv13 (a b c d : PyData) : PyData.eqv (.tuple [a]) (.tuple [b, c, d]) = false := by
  show (PyData.eqv a b && false) = false
  rw [Bool.and_false]
theorem eqv31 (a b c d : PyData) : PyData.eqv (.tuple [a, c, d]) (.tuple [b]) = false := by
  show (PyData.eqv a b && false) = false
  rw [Bool.and_false]
theorem eqv23 (a b c d e : PyData) : PyData.eqv (.tuple [a, b]) (.tuple [c, d, e]) = false := by
  show (PyData.eqv a c && (PyData.eqv b d && false)) = false
  rw [Bool.and_false, Bool.and_false]
theorem eqv32 (a b c d e : PyData) : PyData.eqv (.tuple [c, d, e]) (.tuple [a, b]) = false := by
  show (PyData.eqv c a && (PyData.eqv d b && false)) = false
  rw [Bool.and_false, Bool.and_false]
theorem decS (a b : List Nat) : decide (SX.S a = SX.S b) = decide (a = b) := by
  by_cases h : a = b
  · rw [decide_eq_true h, decide_eq_true (by rw [h])]
  · rw [decide_eq_false h, decide_eq_false (fun z => h (SX.S_inj z))]
theorem eqv_dat : ∀ s t : Fm, PyData.eqv s.dat t.dat = decide (s = t)
  | .fls, .fls => by simp only [Fm.dat, eqv1, eqvStr]
  | .fls, .atom _ => by simp only [Fm.dat, eqv12]; rfl
  | .fls, .hole _ => by simp only [Fm.dat, eqv12]; rfl
  | .fls, .bin _ _ _ => by simp only [Fm.dat, eqv13]; rfl
  | .atom _, .fls => by simp only [Fm.dat, eqv21]; rfl
  | .hole _, .fls => by simp only [Fm.dat, eqv21]; rfl
  | .bin _ _ _, .fls => by simp only [Fm.dat, eqv31]; rfl
  | .atom u, .atom v => by
    simp only [Fm.dat, eqv2, eqvStr, decS, Fm.atom.injEq, decide_true, Bool.true_and]
  | .hole u, .hole v => by
    simp only [Fm.dat, eqv2, eqvStr, decS, Fm.hole.injEq, decide_true, Bool.true_and]
  | .atom u, .hole v => by
    have e : decide (("atom" : Str) = "hole") = false := by decide +kernel
    simp only [Fm.dat, eqv2, eqvStr, e, Bool.false_and]
    rfl
  | .hole u, .atom v => by
    have e : decide (("hole" : Str) = "atom") = false := by decide +kernel
    simp only [Fm.dat, eqv2, eqvStr, e, Bool.false_and]
    rfl
  | .atom _, .bin _ _ _ => by simp only [Fm.dat, eqv23]; rfl
  | .hole _, .bin _ _ _ => by simp only [Fm.dat, eqv23]; rfl
  | .bin _ _ _, .atom _ => by simp only [Fm.dat, eqv32]; rfl
  | .bin _ _ _, .hole _ => by simp only [Fm.dat, eqv32]; rfl
  | .bin k a b, .bin j c d => by
    simp only [Fm.dat, eqv3, eqvStr, eqv_dat a c, eqv_dat b d, Fm.bin.injEq, Bool.decide_and]
    have e : decide (kd k = kd j) = decide (k = j) := by
      by_cases h : k = j
      · rw [decide_eq_true h, decide_eq_true (by rw [h])]
      · rw [decide_eq_false h, decide_eq_false (fun z => h (kd_inj z))]
    rw [e]
/-! ### the form of the data -/
theorem low_lay {w : List Nat} (h : Low w) : ((SX.S w).cps.all (· < 0x110000)) = true := by
  rw [← Array.all_toList, List.all_eq_true]
  intro c hc
  exact decide_eq_true (by have z := h c hc; omega)
theorem kd_lay (k : Fin 3) : ((kd k).cps.all (· < 0x110000)) = true := by
  revert k
  decide +kernel
theorem ok_lay {ws hs : List (List Nat)} (hw : ∀ w ∈ ws, Low w) (hh : ∀ c ∈ hs, Low c) : ∀ {n : Nat} {t : Fm}, okF ws hs n t → PyData.canLay0 t.dat = true ∧ PyData.depth t.dat ≤ n
  | 0, _, h => h.elim
  | n + 1, .fls, _ => ⟨by decide +kernel, by show max 0 0 + 1 ≤ n + 1; omega⟩
  | n + 1, .atom w, h => by
    refine ⟨?_, by show max 0 (max 0 0) + 1 ≤ n + 1; omega⟩
    show (PyData.canLay0 (.str "atom") && (PyData.canLay0 (.str (SX.S w)) && true)) = true
    rw [show PyData.canLay0 (.str (SX.S w)) = true from low_lay (hw w h)]
    decide +kernel
  | n + 1, .hole w, h => by
    refine ⟨?_, by show max 0 (max 0 0) + 1 ≤ n + 1; omega⟩
    show (PyData.canLay0 (.str "hole") && (PyData.canLay0 (.str (SX.S w)) && true)) = true
    rw [show PyData.canLay0 (.str (SX.S w)) = true from low_lay (hh w h)]
    decide +kernel
  | n + 1, .bin k a b, h => by
    obtain ⟨a1, a2⟩ := ok_lay hw hh h.1
    obtain ⟨b1, b2⟩ := ok_lay hw hh h.2
    refine ⟨?_, ?_⟩
    · show (PyData.canLay0 (.str (kd k)) && (PyData.canLay0 a.dat && (PyData.canLay0 b.dat && true))) = true
      rw [a1, b1, show PyData.canLay0 (.str (kd k)) = true from kd_lay k]
      rfl
    · show max 0 (max (PyData.depth a.dat) (max (PyData.depth b.dat) 0)) + 1 ≤ n + 1
      omega
theorem ok_shaped {ws hs : List (List Nat)} (hw : ∀ w ∈ ws, Low w) (hh : ∀ c ∈ hs, Low c) {n : Nat} {t : Fm} (h : okF ws hs n t) (hn : n ≤ 64) : SeqAt.shaped t.dat = true := by
  obtain ⟨h1, h2⟩ := ok_lay hw hh h
  unfold SeqAt.shaped
  rw [h1, decide_eq_true (by omega)]
  rfl
theorem oka_str {n : Nat} {x : Str} : oka (n + 1) (.str x) = true := rfl
theorem ok_oka {ws hs : List (List Nat)} : ∀ {n : Nat} {t : Fm}, okF ws hs n t → oka (n + 1) t.dat = true
  | 0, _, h => h.elim
  | n + 1, .fls, _ => rfl
  | n + 1, .atom w, _ => rfl
  | n + 1, .hole w, _ => rfl
  | n + 1, .bin k a b, h => by
    have a1 := ok_oka h.1
    have b1 := ok_oka h.2
    show (decide (3 ≤ 1000) && (oka (n + 1) (.str (kd k)) && (oka (n + 1) a.dat && (oka (n + 1) b.dat && true)))) = true
    rw [a1, b1]
    rfl
end Ag

namespace Ag
open PySem PySem.Spec PyProof.Rows L2
/-! ### tables of holes -/
abbrev Tab := List (List Nat × Fm)
def tg : Tab → List Nat → Option Fm
  | [], _ => none
  | e :: r, c => if e.1 = c then some e.2 else tg r c
theorem tg_snoc (m : Tab) (c d : List Nat) (t : Fm) : tg (m ++ [(c, t)]) d = match tg m d with | some g => some g | none => if c = d then some t else none := by
  induction m with
  | nil => rfl
  | cons e r ih =>
    show (if e.1 = d then some e.2 else tg (r ++ [(c, t)]) d) = _
    rw [ih]
    show _ = match (if e.1 = d then some e.2 else tg r d) with | some g => some g | none => if c = d then some t else none
    by_cases h : e.1 = d
    · rw [if_pos h, if_pos h]
    · rw [if_neg h, if_neg h]
theorem tg_mem {m : Tab} {c : List Nat} {t : Fm} (h : tg m c = some t) : (c, t) ∈ m := by
  induction m with
  | nil => cases h
  | cons e r ih =>
    have h' : (if e.1 = c then some e.2 else tg r c) = some t := h
    by_cases he : e.1 = c
    · rw [if_pos he] at h'
      cases h'
      subst he
      exact List.mem_cons_self
    · rw [if_neg he] at h'
      exact List.mem_cons_of_mem _ (ih h')
theorem tg_none {m : Tab} {c : List Nat} (h : tg m c = none) : ∀ t, (c, t) ∉ m := by
  induction m with
  | nil => intro t z; cases z
  | cons e r ih =>
    have h' : (if e.1 = c then some e.2 else tg r c) = none := h
    by_cases he : e.1 = c
    · rw [if_pos he] at h'
      cases h'
    · rw [if_neg he] at h'
      intro t z
      rcases List.mem_cons.mp z with z | z
      · exact he (by rw [← z])
      · exact ih h' t z
/-- no key twice -/
def Fn (m : Tab) : Prop := (m.map (·.1)).Nodup
theorem Fn.one {m : Tab} (h : Fn m) {c : List Nat} {s t : Fm} (h1 : (c, s) ∈ m) (h2 : (c, t) ∈ m) : s = t := by
  induction m with
  | nil => cases h1
  | cons e r ih =>
    unfold Fn at h
    rw [List.map_cons, List.nodup_cons] at h
    rcases List.mem_cons.mp h1 with a | a <;> rcases List.mem_cons.mp h2 with b | b
    · rw [← b] at a
      exact (Prod.mk.inj a).2
    · exact absurd (List.mem_map.mpr ⟨_, b, rfl⟩) (by rw [← a] at h; exact h.1)
    · exact absurd (List.mem_map.mpr ⟨_, a, rfl⟩) (by rw [← b] at h; exact h.1)
    · exact ih h.2 a b
theorem Fn.tg {m : Tab} (h : Fn m) {c : List Nat} {t : Fm} (h1 : (c, t) ∈ m) : tg m c = some t := by
  cases e : Ag.tg m c with
  | none => exact absurd h1 (tg_none e t)
  | some s => rw [h.one (tg_mem e) h1]
theorem Fn.snoc {m : Tab} (h : Fn m) {c : List Nat} {t : Fm} (h1 : Ag.tg m c = none) : Fn (m ++ [(c, t)]) := by
  unfold Fn
  rw [List.map_append]
  refine nd_snoc h fun z => ?_
  obtain ⟨e, he, rfl⟩ := List.mem_map.mp z
  exact tg_none h1 e.2 he
theorem Fn.nodup {m : Tab} (h : Fn m) : m.Nodup := by
  induction m with
  | nil => exact List.nodup_nil
  | cons e r ih =>
    unfold Fn at h
    rw [List.map_cons, List.nodup_cons] at h
    exact List.nodup_cons.mpr ⟨fun z => h.1 (List.mem_map.mpr ⟨_, z, rfl⟩), ih h.2⟩
theorem Fn.perm {m n : Tab} (h : Fn m) (g : Fn n) (e : ∀ p, p ∈ m ↔ p ∈ n) : m.Perm n := by
  have nm : m.Nodup := h.nodup
  have nn : n.Nodup := g.nodup
  exact (List.perm_ext_iff_of_nodup nm nn).mpr e
/-! ### what a shape asks of its holes -/
def Cn : Fm → Fm → Tab
  | .hole c, f => [(c, f)]
  | .bin _ a b, .bin _ c d => Cn a c ++ Cn b d
  | _, _ => []
def Sm : Fm → Fm → Prop
  | .hole _, _ => True
  | .bin k a b, .bin j c d => k = j ∧ Sm a c ∧ Sm b d
  | .bin _ _ _, _ => False
  | s, f => s = f
/-- the law's own walk -/
def mt : Fm → Fm → Tab → Option Tab
  | .hole c, f, m => match tg m c with
    | some g => if g = f then some m else none
    | none => some (m ++ [(c, f)])
  | .bin k a b, .bin j c d, m => if k = j then match mt a c m with
      | none => none
      | some m' => mt b d m'
    else none
  | .bin _ _ _, _, _ => none
  | .fls, f, m => if Fm.fls = f then some m else none
  | .atom w, f, m => if Fm.atom w = f then some m else none
theorem mt_some : ∀ {s f : Fm} {m m' : Tab}, mt s f m = some m' → Fn m → Fn m' ∧ Sm s f ∧ ∀ p, p ∈ m' ↔ p ∈ m ∨ p ∈ Cn s f
  | .hole c, f, m, m', h, n => by
    simp only [mt] at h
    cases e : tg m c with
    | some g =>
      rw [e] at h
      try dsimp only at h
      by_cases hg : g = f
      · rw [if_pos hg] at h
        cases h
        subst hg
        refine ⟨n, trivial, fun p => ⟨.inl, fun z => ?_⟩⟩
        rcases z with z | z
        · exact z
        · rw [show p = (c, g) from List.mem_singleton.mp z]
          exact tg_mem e
      · rw [if_neg hg] at h
        cases h
    | none =>
      rw [e] at h
      try dsimp only at h
      cases h
      exact ⟨n.snoc e, trivial, fun p => List.mem_append⟩
  | .bin k a b, .bin j c d, m, m', h, n => by
    simp only [mt] at h
    by_cases hk : k = j
    · rw [if_pos hk] at h
      cases e : mt a c m with
      | none => rw [e] at h; cases h
      | some m1 =>
        rw [e] at h
        try dsimp only at h
        obtain ⟨n1, s1, h1⟩ := mt_some e n
        obtain ⟨n2, s2, h2⟩ := mt_some h n1
        refine ⟨n2, ⟨hk, s1, s2⟩, fun p => ?_⟩
        rw [h2, h1]
        show _ ↔ p ∈ m ∨ p ∈ Cn a c ++ Cn b d
        rw [List.mem_append, or_assoc]
    · rw [if_neg hk] at h
      cases h
  | .bin _ _ _, .fls, m, m', h, n => by cases h
  | .bin _ _ _, .atom _, m, m', h, n => by cases h
  | .bin _ _ _, .hole _, m, m', h, n => by cases h
  | .fls, f, m, m', h, n => by
    simp only [mt] at h
    by_cases e : Fm.fls = f
    · rw [if_pos e] at h
      cases h
      subst e
      exact ⟨n, rfl, fun p => ⟨.inl, fun z => z.elim id fun y => (by cases y)⟩⟩
    · rw [if_neg e] at h
      cases h
  | .atom w, f, m, m', h, n => by
    simp only [mt] at h
    by_cases e : Fm.atom w = f
    · rw [if_pos e] at h
      cases h
      subst e
      exact ⟨n, rfl, fun p => ⟨.inl, fun z => z.elim id fun y => (by cases y)⟩⟩
    · rw [if_neg e] at h
      cases h
theorem mt_none : ∀ {s f : Fm} {m : Tab}, mt s f m = none → Fn m → ∀ M : Tab, Fn M → (∀ p ∈ m, p ∈ M) → (∀ p ∈ Cn s f, p ∈ M) → Sm s f → False
  | .hole c, f, m, h, n, M, nM, hm, hc, _ => by
    simp only [mt] at h
    cases e : tg m c with
    | some g =>
      rw [e] at h
      try dsimp only at h
      by_cases hg : g = f
      · rw [if_pos hg] at h
        cases h
      · exact hg (nM.one (hm _ (tg_mem e)) (hc _ (List.mem_singleton.mpr rfl)))
    | none =>
      rw [e] at h
      try dsimp only at h
      cases h
  | .bin k a b, .bin j c d, m, h, n, M, nM, hm, hc, hs => by
    simp only [mt] at h
    rw [if_pos hs.1] at h
    cases e : mt a c m with
    | none => exact mt_none e n M nM hm (fun p hp => hc p (List.mem_append.mpr (.inl hp))) hs.2.1
    | some m1 =>
      rw [e] at h
      try dsimp only at h
      obtain ⟨n1, _, h1⟩ := mt_some e n
      refine mt_none h n1 M nM (fun p hp => ?_) (fun p hp => hc p (List.mem_append.mpr (.inr hp))) hs.2.2
      rcases (h1 p).mp hp with z | z
      · exact hm p z
      · exact hc p (List.mem_append.mpr (.inl z))
  | .bin _ _ _, .fls, m, _, _, M, _, _, _, hs => hs.elim
  | .bin _ _ _, .atom _, m, _, _, M, _, _, _, hs => hs.elim
  | .bin _ _ _, .hole _, m, _, _, M, _, _, _, hs => hs.elim
  | .fls, f, m, h, _, M, _, _, _, hs => by
    simp only [mt] at h
    rw [if_pos (show Fm.fls = f from hs)] at h
    cases h
  | .atom w, f, m, h, _, M, _, _, _, hs => by
    simp only [mt] at h
    rw [if_pos (show Fm.atom w = f from hs)] at h
    cases h
/-! ### the program's walk: a stack, its top first -/
def sz : Fm → Nat
  | .bin _ a b => 1 + sz a + sz b
  | _ => 1
def tot : List (Fm × Fm) → Nat
  | [] => 0
  | e :: r => sz e.1 + tot r
def ho : Nat → List (Fm × Fm) → Tab → Option Tab
  | _, [], m => some m
  | 0, _ :: _, _ => none
  | n + 1, (.hole c, f) :: r, m => match tg m c with
    | some g => if g = f then ho n r m else none
    | none => ho n r (m ++ [(c, f)])
  | n + 1, (.bin k a b, .bin j c d) :: r, m => if k = j then ho n ((b, d) :: (a, c) :: r) m else none
  | _ + 1, (.bin _ _ _, _) :: _, _ => none
  | n + 1, (.fls, f) :: r, m => if Fm.fls = f then ho n r m else none
  | n + 1, (.atom w, f) :: r, m => if Fm.atom w = f then ho n r m else none
def CnS : List (Fm × Fm) → Tab
  | [] => []
  | e :: r => Cn e.1 e.2 ++ CnS r
def SmS (l : List (Fm × Fm)) : Prop := ∀ e ∈ l, Sm e.1 e.2
theorem ho_some : ∀ {n : Nat} {l : List (Fm × Fm)} {m m' : Tab}, ho n l m = some m' → Fn m → Fn m' ∧ SmS l ∧ ∀ p, p ∈ m' ↔ p ∈ m ∨ p ∈ CnS l
  | n, [], m, m', h, nm => by
    have e : m' = m := by cases n <;> exact (Option.some.inj h).symm
    subst e
    exact ⟨nm, fun e h => (by cases h), fun p => ⟨.inl, fun z => z.elim id fun y => (by cases y)⟩⟩
  | 0, _ :: _, m, m', h, nm => by cases h
  | n + 1, (.hole c, f) :: r, m, m', h, nm => by
    simp only [ho] at h
    cases e : tg m c with
    | some g =>
      rw [e] at h
      try dsimp only at h
      by_cases hg : g = f
      · rw [if_pos hg] at h
        subst hg
        obtain ⟨n1, s1, h1⟩ := ho_some h nm
        refine ⟨n1, fun e he => ?_, fun p => ?_⟩
        · rcases List.mem_cons.mp he with rfl | he
          · trivial
          · exact s1 e he
        · rw [h1]
          show _ ↔ p ∈ m ∨ p ∈ [(c, g)] ++ CnS r
          rw [List.mem_append, List.mem_singleton]
          constructor
          · rintro (z | z)
            · exact .inl z
            · exact .inr (.inr z)
          · rintro (z | rfl | z)
            · exact .inl z
            · exact .inl (tg_mem e)
            · exact .inr z
      · rw [if_neg hg] at h
        cases h
    | none =>
      rw [e] at h
      try dsimp only at h
      obtain ⟨n1, s1, h1⟩ := ho_some h (nm.snoc e)
      refine ⟨n1, fun e he => ?_, fun p => ?_⟩
      · rcases List.mem_cons.mp he with rfl | he
        · trivial
        · exact s1 e he
      · rw [h1, List.mem_append]
        show _ ↔ p ∈ m ∨ p ∈ [(c, f)] ++ CnS r
        rw [List.mem_append, or_assoc]
  | n + 1, (.bin k a b, .bin j c d) :: r, m, m', h, nm => by
    simp only [ho] at h
    by_cases hk : k = j
    · rw [if_pos hk] at h
      obtain ⟨n1, s1, h1⟩ := ho_some h nm
      refine ⟨n1, fun e he => ?_, fun p => ?_⟩
      · rcases List.mem_cons.mp he with rfl | he
        · exact ⟨hk, s1 (a, c) (by simp), s1 (b, d) (by simp)⟩
        · exact s1 e (by simp [he])
      · rw [h1]
        show p ∈ m ∨ p ∈ Cn b d ++ (Cn a c ++ CnS r) ↔ p ∈ m ∨ p ∈ (Cn a c ++ Cn b d) ++ CnS r
        simp only [List.mem_append]
        constructor
        · rintro (z | z | z | z)
          · exact .inl z
          · exact .inr (.inl (.inr z))
          · exact .inr (.inl (.inl z))
          · exact .inr (.inr z)
        · rintro (z | (z | z) | z)
          · exact .inl z
          · exact .inr (.inr (.inl z))
          · exact .inr (.inl z)
          · exact .inr (.inr (.inr z))
    · rw [if_neg hk] at h
      cases h
  | _ + 1, (.bin _ _ _, .fls) :: _, m, m', h, nm => by cases h
  | _ + 1, (.bin _ _ _, .atom _) :: _, m, m', h, nm => by cases h
  | _ + 1, (.bin _ _ _, .hole _) :: _, m, m', h, nm => by cases h
  | n + 1, (.fls, f) :: r, m, m', h, nm => by
    simp only [ho] at h
    by_cases e : Fm.fls = f
    · rw [if_pos e] at h
      subst e
      obtain ⟨n1, s1, h1⟩ := ho_some h nm
      refine ⟨n1, fun e he => ?_, h1⟩
      rcases List.mem_cons.mp he with rfl | he
      · rfl
      · exact s1 e he
    · rw [if_neg e] at h
      cases h
  | n + 1, (.atom w, f) :: r, m, m', h, nm => by
    simp only [ho] at h
    by_cases e : Fm.atom w = f
    · rw [if_pos e] at h
      subst e
      obtain ⟨n1, s1, h1⟩ := ho_some h nm
      refine ⟨n1, fun e he => ?_, h1⟩
      rcases List.mem_cons.mp he with rfl | he
      · rfl
      · exact s1 e he
    · rw [if_neg e] at h
      cases h
theorem ho_none : ∀ {n : Nat} {l : List (Fm × Fm)} {m : Tab}, ho n l m = none → tot l ≤ n → Fn m → ∀ M : Tab, Fn M → (∀ p ∈ m, p ∈ M) → (∀ p ∈ CnS l, p ∈ M) → SmS l → False
  | n, [], m, h, _, _, _, _, _, _, _ => by cases n <;> cases h
  | 0, e :: r, m, _, ht, _, _, _, _, _, _ => by
    have : 1 ≤ sz e.1 := by cases e.1 <;> simp only [sz] <;> omega
    simp only [tot] at ht
    omega
  | n + 1, (.hole c, f) :: r, m, h, ht, nm, M, nM, hm, hc, hs => by
    have ht' : tot r ≤ n := by simp only [tot, sz] at ht; omega
    have hs' : SmS r := fun e he => hs e (List.mem_cons_of_mem _ he)
    simp only [ho] at h
    cases e : tg m c with
    | some g =>
      rw [e] at h
      try dsimp only at h
      by_cases hg : g = f
      · rw [if_pos hg] at h
        exact ho_none h ht' nm M nM hm (fun p hp => hc p (List.mem_append.mpr (.inr hp))) hs'
      · exact hg (nM.one (hm _ (tg_mem e)) (hc _ (List.mem_append.mpr (.inl (List.mem_singleton.mpr rfl)))))
    | none =>
      rw [e] at h
      try dsimp only at h
      refine ho_none h ht' (nm.snoc e) M nM (fun p hp => ?_) (fun p hp => hc p (List.mem_append.mpr (.inr hp))) hs'
      rcases List.mem_append.mp hp with z | z
      · exact hm p z
      · exact hc p (List.mem_append.mpr (.inl z))
  | n + 1, (.bin k a b, .bin j c d) :: r, m, h, ht, nm, M, nM, hm, hc, hs => by
    have h0 := hs (.bin k a b, .bin j c d) (by simp)
    simp only [ho] at h
    rw [if_pos h0.1] at h
    refine ho_none h ?_ nm M nM hm (fun p hp => ?_) fun e he => ?_
    · simp only [tot, sz] at ht ⊢
      omega
    · have hp' : p ∈ Cn b d ++ (Cn a c ++ CnS r) := hp
      refine hc p (show p ∈ (Cn a c ++ Cn b d) ++ CnS r from ?_)
      simp only [List.mem_append] at hp' ⊢
      rcases hp' with z | z | z
      · exact .inl (.inr z)
      · exact .inl (.inl z)
      · exact .inr z
    · rcases List.mem_cons.mp he with rfl | he
      · exact h0.2.2
      rcases List.mem_cons.mp he with rfl | he
      · exact h0.2.1
      · exact hs e (List.mem_cons_of_mem _ he)
  | _ + 1, (.bin k a b, .fls) :: _, m, _, _, _, _, _, _, _, hs => (hs _ List.mem_cons_self).elim
  | _ + 1, (.bin k a b, .atom w) :: _, m, _, _, _, _, _, _, _, hs => (hs _ List.mem_cons_self).elim
  | _ + 1, (.bin k a b, .hole w) :: _, m, _, _, _, _, _, _, _, hs => (hs _ List.mem_cons_self).elim
  | n + 1, (.fls, f) :: r, m, h, ht, nm, M, nM, hm, hc, hs => by
    have ht' : tot r ≤ n := by simp only [tot, sz] at ht; omega
    simp only [ho] at h
    rw [if_pos (show Fm.fls = f from hs _ List.mem_cons_self)] at h
    exact ho_none h ht' nm M nM hm (fun p hp => hc p (List.mem_append.mpr (.inr hp))) fun e he => hs e (List.mem_cons_of_mem _ he)
  | n + 1, (.atom w, f) :: r, m, h, ht, nm, M, nM, hm, hc, hs => by
    have ht' : tot r ≤ n := by simp only [tot, sz] at ht; omega
    simp only [ho] at h
    rw [if_pos (show Fm.atom w = f from hs _ List.mem_cons_self)] at h
    exact ho_none h ht' nm M nM hm (fun p hp => hc p (List.mem_append.mpr (.inr hp))) fun e he => hs e (List.mem_cons_of_mem _ he)
/-- what holes_of answers -/
def hof (s f : Fm) : Option Tab := ho (sz s) [(s, f)] []
theorem hof_some {s f : Fm} {m : Tab} (h : hof s f = some m) : Fn m ∧ Sm s f ∧ ∀ p, p ∈ m ↔ p ∈ Cn s f := by
  obtain ⟨h1, h2, h3⟩ := ho_some h (show Fn [] from List.nodup_nil)
  refine ⟨h1, h2 (s, f) (by simp), fun p => ?_⟩
  rw [h3]
  show p ∈ [] ∨ p ∈ Cn s f ++ [] ↔ _
  simp
theorem hof_none {s f : Fm} (h : hof s f = none) {M : Tab} (nM : Fn M) (hc : ∀ p ∈ Cn s f, p ∈ M) (hs : Sm s f) : False := by
  refine ho_none h (by simp [tot]) (show Fn [] from List.nodup_nil) M nM (fun p hp => (by cases hp)) (fun p hp => ?_) (fun e he => ?_)
  · have hp' : p ∈ Cn s f ++ [] := hp
    rw [List.append_nil] at hp'
    exact hc p hp'
  · rw [List.mem_singleton.mp he]
    exact hs
/-- the two walks agree -/
theorem walks {s f : Fm} : (hof s f = none ∧ mt s f [] = none) ∨ ∃ m1 m2, hof s f = some m1 ∧ mt s f [] = some m2 ∧ m1.Perm m2 ∧ Fn m1 ∧ Fn m2 ∧ Sm s f ∧ ∀ p, p ∈ m2 ↔ p ∈ Cn s f := by
  have n0 : Fn [] := List.nodup_nil
  cases e1 : hof s f with
  | none =>
    cases e2 : mt s f [] with
    | none => exact .inl ⟨rfl, rfl⟩
    | some m2 =>
      obtain ⟨h1, h2, h3⟩ := mt_some e2 n0
      exact (hof_none e1 h1 (fun p hp => (h3 p).mpr (.inr hp)) h2).elim
  | some m1 =>
    obtain ⟨g1, g2, g3⟩ := hof_some e1
    cases e2 : mt s f [] with
    | none => exact (mt_none e2 n0 m1 g1 (fun p hp => (by cases hp)) (fun p hp => (g3 p).mpr hp) g2).elim
    | some m2 =>
      obtain ⟨h1, h2, h3⟩ := mt_some e2 n0
      have h3' : ∀ p, p ∈ m2 ↔ p ∈ Cn s f := fun p => by rw [h3]; simp
      exact .inr ⟨m1, m2, rfl, rfl, g1.perm h1 fun p => by rw [g3, h3'], g1, h1, h2, h3'⟩
/-! ### the holes filled -/
def pt (m : Tab) : Fm → Fm
  | .hole c => (tg m c).getD (.hole c)
  | .bin k a b => .bin k (pt m a) (pt m b)
  | t => t
theorem pt_back {M : Tab} (nM : Fn M) : ∀ {s f : Fm}, (∀ p ∈ Cn s f, p ∈ M) → Sm s f → pt M s = f
  | .hole c, f, h, _ => by
    show (tg M c).getD _ = f
    rw [nM.tg (h _ (List.mem_singleton.mpr rfl))]
    rfl
  | .bin k a b, .bin j c d, h, hs => by
    show Fm.bin k (pt M a) (pt M b) = _
    rw [pt_back nM (fun p hp => h p (List.mem_append.mpr (.inl hp))) hs.2.1, pt_back nM (fun p hp => h p (List.mem_append.mpr (.inr hp))) hs.2.2, hs.1]
  | .bin _ _ _, .fls, _, hs => hs.elim
  | .bin _ _ _, .atom _, _, hs => hs.elim
  | .bin _ _ _, .hole _, _, hs => hs.elim
  | .fls, f, _, hs => hs
  | .atom w, f, _, hs => hs
theorem pt_ok {ws hs : List (List Nat)} {M : Tab} {k : Nat} (hM : ∀ c ∈ hs, ∃ t, tg M c = some t ∧ okF ws [] k t) : ∀ {n : Nat} {s : Fm}, okF ws hs n s → okF ws [] (n + k) (pt M s)
  | 0, _, h => h.elim
  | n + 1, .fls, _ => by rw [Nat.add_right_comm]; exact trivial
  | n + 1, .atom w, h => by rw [Nat.add_right_comm]; exact h
  | n + 1, .hole c, h => by
    obtain ⟨t, h1, h2⟩ := hM c h
    show okF ws [] _ ((tg M c).getD _)
    rw [h1]
    exact h2.le (by omega)
  | n + 1, .bin j a b, h => by
    rw [Nat.add_right_comm]
    exact ⟨pt_ok hM h.1, pt_ok hM h.2⟩
theorem cn_plain {ws : List (List Nat)} : ∀ {n : Nat} {t : Fm}, okF ws [] n t → Cn t t = [] ∧ Sm t t
  | 0, _, h => h.elim
  | _ + 1, .fls, _ => ⟨rfl, rfl⟩
  | _ + 1, .atom _, _ => ⟨rfl, rfl⟩
  | _ + 1, .hole _, h => by cases h
  | _ + 1, .bin _ _ _, h => by
    obtain ⟨a1, a2⟩ := cn_plain h.1
    obtain ⟨b1, b2⟩ := cn_plain h.2
    exact ⟨by show Cn _ _ ++ Cn _ _ = []; rw [a1, b1]; rfl, rfl, a2, b2⟩
theorem hof_plain {ws : List (List Nat)} {n : Nat} {t : Fm} (h : okF ws [] n t) : hof t t = some [] := by
  obtain ⟨h1, h2⟩ := cn_plain h
  cases e : hof t t with
  | none => exact (hof_none e (M := []) List.nodup_nil (fun p hp => by rw [h1] at hp; exact hp) h2).elim
  | some m =>
    obtain ⟨_, _, g3⟩ := hof_some e
    cases m with
    | nil => rfl
    | cons p r =>
      have z := (g3 p).mp (by simp)
      rw [h1] at z
      cases z
theorem cn_ok {ws hs : List (List Nat)} : ∀ {n k : Nat} {s f : Fm}, okF ws hs n s → okF ws [] k f → ∀ p ∈ Cn s f, p.1 ∈ hs ∧ okF ws [] k p.2
  | 0, _, _, _, h, _, _, _ => h.elim
  | n + 1, k, .hole c, f, h, g, p, hp => by
    rw [List.mem_singleton.mp hp]
    exact ⟨h, g⟩
  | n + 1, 0, .bin _ _ _, _, _, g, _, _ => g.elim
  | n + 1, k + 1, .bin j a b, .bin i c d, h, g, p, hp => by
    rcases List.mem_append.mp (show p ∈ Cn a c ++ Cn b d from hp) with z | z
    · have y := cn_ok h.1 g.1 p z
      exact ⟨y.1, y.2.up⟩
    · have y := cn_ok h.2 g.2 p z
      exact ⟨y.1, y.2.up⟩
  | n + 1, k + 1, .bin _ _ _, .fls, _, _, p, hp => by cases hp
  | n + 1, k + 1, .bin _ _ _, .atom _, _, _, p, hp => by cases hp
  | n + 1, k + 1, .bin _ _ _, .hole _, _, _, p, hp => by cases hp
  | n + 1, k, .fls, f, _, _, p, hp => by cases f <;> cases hp
  | n + 1, k, .atom _, f, _, _, p, hp => by cases f <;> cases hp
theorem nodup_le {α : Type} [DecidableEq α] : ∀ {l k : List α}, l.Nodup → (∀ x ∈ l, x ∈ k) → l.length ≤ k.length
  | [], _, _, _ => Nat.zero_le _
  | x :: r, k, h, hs => by
    have h' := List.nodup_cons.mp h
    have hx : x ∈ k := hs x (by simp)
    have z := nodup_le (k := k.erase x) h'.2 fun y hy => (List.mem_erase_of_ne (fun e => h'.1 (by rw [← e]; exact hy))).mpr (hs y (by simp [hy]))
    rw [List.length_erase_of_mem hx] at z
    have : 0 < k.length := List.length_pos_of_mem hx
    simp only [List.length_cons]
    omega
/-! ### tables in the heap -/
def TR (K : PySem.W.Frag) (H : Hp) (kv : Key × V) (e : List Nat × Fm) : Prop := kv.1 = Sum.inr (SX.S e.1) ∧ Fr K H kv.2 e.2
def TabAt (K : PySem.W.Frag) (H : Hp) (T : Addr) (m : Tab) : Prop := ∃ kvs, H T = some (.dK kvs) ∧ Paired (TR K H) kvs m
def TOk (ws hs : List (List Nat)) (N : Nat) (m : Tab) : Prop := Fn m ∧ ∀ p ∈ m, p.1 ∈ hs ∧ okF ws [] N p.2
theorem key_S (a b : List Nat) : (Sum.inr (SX.S a) : Key) = Sum.inr (SX.S b) ↔ a = b := ⟨fun h => SX.S_inj (Sum.inr.inj h), fun h => by rw [h]⟩
theorem tab_some {K : PySem.W.Frag} {H : Hp} : ∀ {kvs : List (Key × V)} {m : Tab}, Paired (TR K H) kvs m → ∀ {c : List Nat} {t : Fm}, tg m c = some t → ∃ v, valV kvs (Sum.inr (SX.S c)) = some v ∧ Fr K H v t
  | _, _, .nil, c, t, h => by cases h
  | _, _, .cons (a := kv) (b := e) r rs, c, t, h => by
    have h' : (if e.1 = c then some e.2 else tg _ c) = some t := h
    by_cases he : e.1 = c
    · rw [if_pos he] at h'
      cases h'
      exact ⟨kv.2, valV_pos (by rw [r.1, he]), r.2⟩
    · rw [if_neg he] at h'
      obtain ⟨v, h1, h2⟩ := tab_some rs h'
      exact ⟨v, by rw [valV_neg (fun z => he ((key_S _ _).mp (r.1.symm.trans z)))]; exact h1, h2⟩
theorem tab_none {K : PySem.W.Frag} {H : Hp} : ∀ {kvs : List (Key × V)} {m : Tab}, Paired (TR K H) kvs m → ∀ {c : List Nat}, tg m c = none → valV kvs (Sum.inr (SX.S c)) = none
  | _, _, .nil, c, _ => rfl
  | _, _, .cons (a := kv) (b := e) r rs, c, h => by
    have h' : (if e.1 = c then some e.2 else tg _ c) = none := h
    by_cases he : e.1 = c
    · rw [if_pos he] at h'
      cases h'
    · rw [if_neg he] at h'
      rw [valV_neg (fun z => he ((key_S _ _).mp (r.1.symm.trans z)))]
      exact tab_none rs h'
theorem tab_same {K : PySem.W.Frag} {H H' : Hp} (s : Same H H') {kvs : List (Key × V)} {m : Tab} (h : Paired (TR K H) kvs m) : Paired (TR K H') kvs m := paired_imp (fun _ _ z => ⟨z.1, z.2.same s⟩) h
theorem TabAt.same {K : PySem.W.Frag} {H H' : Hp} (s : Same H H') {T : Addr} {m : Tab} (h : TabAt K H T m) : TabAt K H' T m := by
  obtain ⟨kvs, h1, h2⟩ := h
  exact ⟨kvs, s _ _ h1, tab_same s h2⟩
theorem paired_snoc {α β : Type} {R : α → β → Prop} : ∀ {l : List α} {m : List β} {a : α} {b : β}, Paired R l m → R a b → Paired R (l ++ [a]) (m ++ [b])
  | _, _, _, _, .nil, h => .cons h .nil
  | _, _, _, _, .cons r t, h => .cons r (paired_snoc t h)
theorem mt_tok {ws hs : List (List Nat)} {n N : Nat} {s f : Fm} {m m' : Tab} (h : mt s f m = some m') (ok : TOk ws hs N m) (hs1 : okF ws hs n s) (hf : okF ws [] N f) : TOk ws hs N m' := by
  obtain ⟨h1, h2, h3⟩ := mt_some h ok.1
  refine ⟨h1, fun p hp => ?_⟩
  rcases (h3 p).mp hp with z | z
  · exact ok.2 p z
  · exact cn_ok hs1 hf p z
/-- the first word of a formula, and the tuple that it is -/
def hd0 : Fm → Str
  | .fls => "false"
  | .atom _ => "atom"
  | .hole _ => "hole"
  | .bin k _ _ => kd k
theorem fr_head {K : PySem.W.Frag} {H : Hp} {v : V} {t : Fm} (h : Fr K H v t) : ∃ p r, v = .ref p ∧ SqT K H p (.str (hd0 t) :: r) := by
  cases t with
  | fls => obtain ⟨p, e, q⟩ := fr_fls h; exact ⟨p, _, e, q⟩
  | atom u => obtain ⟨p, e, q⟩ := fr_atom h; exact ⟨p, _, e, q⟩
  | hole u => obtain ⟨p, e, q⟩ := fr_hole h; exact ⟨p, _, e, q⟩
  | bin k a b => obtain ⟨p, x, y, e, q, _⟩ := fr_bin h; exact ⟨p, _, e, q⟩
theorem in_kd (k : Fin 3) : (!inV (.str (kd k)) [.str "then", .str "and", .str "or"]) = false := by
  revert k
  decide +kernel
theorem at_head {x : V} {r : List V} : atI (x :: r) 0 = some x := at_any (j := 0) rfl rfl
theorem kd_in (k : Fin 3) : inV (.str (kd k)) [.str "then", .str "and", .str "or"] = true := by
  revert k
  decide +kernel
/-! ### the stack of holes_of: its list, the top last -/
def PairAt (K : PySem.W.Frag) (H : Hp) (v : V) (e : Fm × Fm) : Prop := ∃ p x y, v = .ref p ∧ SqT K H p [x, y] ∧ Fr K H x e.1 ∧ Fr K H y e.2
theorem PairAt.same {K : PySem.W.Frag} {H H' : Hp} (s : Same H H') {v : V} {e : Fm × Fm} (h : PairAt K H v e) : PairAt K H' v e := by
  obtain ⟨p, x, y, h1, h2, h3, h4⟩ := h
  exact ⟨p, x, y, h1, sameT s h2, h3.same s, h4.same s⟩
inductive Stk (K : PySem.W.Frag) (H : Hp) : List V → List (Fm × Fm) → Prop
  | nil : Stk K H [] []
  | push {vs : List V} {v : V} {r : List (Fm × Fm)} {e : Fm × Fm} : Stk K H vs r → PairAt K H v e → Stk K H (vs ++ [v]) (e :: r)
theorem Stk.len {K : PySem.W.Frag} {H : Hp} {vs : List V} {l : List (Fm × Fm)} (h : Stk K H vs l) : vs.length = l.length := by
  induction h with
  | nil => rfl
  | push _ _ ih => rw [List.length_append, ih]; rfl
theorem tot_len : ∀ l : List (Fm × Fm), l.length ≤ tot l
  | [] => Nat.le_refl _
  | e :: r => by
    have z := tot_len r
    have : 1 ≤ sz e.1 := by cases e.1 <;> simp only [sz] <;> omega
    simp only [tot, List.length_cons]
    omega
structure Setting (ws hs : List (List Nat)) (N : Nat) : Prop where
  lw : ∀ w ∈ ws, Low w
  lh : ∀ c ∈ hs, Low c
  n : N ≤ 60
  len : hs.length ≤ 900
/-! ### tuples stay, whatever list or dict is changed -/
def Tp (H H' : Hp) : Prop := ∀ p xs, Rd H p (.tup xs) → Rd H' p (.tup xs)
theorem Tp.of {H H' : Hp} (s : Same H H') : Tp H H' := fun p xs h => RdLe.of s p _ h
theorem Tp.trans {H H1 H2 : Hp} (a : Tp H H1) (b : Tp H1 H2) : Tp H H2 := fun p xs h => b p xs (a p xs h)
theorem Tp.upd {H : Hp} {a : Addr} {u o : HO} (h : H a = some u) (mu : Mut (some u)) : Tp H (upd H a o) := fun p xs q => by
  have np : p ≠ a := by
    rintro rfl
    rcases q with q | ⟨o', q⟩ <;> (rw [h] at q; cases q; exact mu)
  rcases q with q | ⟨o', q⟩
  · exact .inl (by rw [upd_ne np]; exact q)
  · exact .inr ⟨o', by rw [upd_ne np]; exact q⟩
section
variable {K : PySem.W.Frag} {H H' : Hp}
theorem Tp.seq (s : Tp H H') {a : Addr} {xs : List V} (h : SqT K H a xs) : SqT K H' a xs := h.imp (s _ _) id
theorem Fr.tp (s : Tp H H') : ∀ {t : Fm} {v : V}, Fr K H v t → Fr K H' v t
  | .fls, _, h => by
    obtain ⟨p, rfl, q⟩ := fr_fls h
    exact mk_fls (s.seq q)
  | .atom w, _, h => by
    obtain ⟨p, rfl, q⟩ := fr_atom h
    exact mk_atom (s.seq q)
  | .hole w, _, h => by
    obtain ⟨p, rfl, q⟩ := fr_hole h
    exact mk_hole (s.seq q)
  | .bin j a b, _, h => by
    obtain ⟨p, x, y, rfl, q, ha, hb⟩ := fr_bin h
    exact mk_bin (s.seq q) (Fr.tp s ha) (Fr.tp s hb)
theorem tab_tp (s : Tp H H') {kvs : List (Key × V)} {m : Tab} (h : Paired (TR K H) kvs m) : Paired (TR K H') kvs m := paired_imp (fun _ _ z => ⟨z.1, z.2.tp s⟩) h
theorem PairAt.tp (s : Tp H H') {v : V} {e : Fm × Fm} (h : PairAt K H v e) : PairAt K H' v e := by
  obtain ⟨p, x, y, h1, h2, h3, h4⟩ := h
  exact ⟨p, x, y, h1, s.seq h2, h3.tp s, h4.tp s⟩
theorem Stk.tp (s : Tp H H') {vs : List V} {l : List (Fm × Fm)} (h : Stk K H vs l) : Stk K H' vs l := by
  induction h with
  | nil => exact .nil
  | push _ hp ih => exact .push ih (hp.tp s)
end
theorem last_at (vs : List V) (v : V) : (vs ++ [v])[(vs ++ [v]).length - 1]? = some v := by simp
/-! ### a table as data -/
def ent (e : List Nat × Fm) : PyData × PyData := (.str (SX.S e.1), e.2.dat)
theorem paired_perm {α β : Type} {R : α → β → Prop} {m n : List β} (p : m.Perm n) : ∀ {l : List α}, Paired R l m → ∃ k, l.Perm k ∧ Paired R k n := by
  induction p with
  | nil => intro l h; exact ⟨l, .refl _, h⟩
  | cons x _ ih =>
    intro l h
    cases h with
    | cons r t =>
      obtain ⟨k, h1, h2⟩ := ih t
      exact ⟨_, h1.cons _, .cons r h2⟩
  | swap x y l' =>
    intro l h
    cases h with
    | cons r t =>
      cases t with
      | cons r2 t2 => exact ⟨_, .swap _ _ _, .cons r2 (.cons r t2)⟩
  | trans _ _ ih1 ih2 =>
    intro l h
    obtain ⟨k, h1, h2⟩ := ih1 h
    obtain ⟨k2, h3, h4⟩ := ih2 h2
    exact ⟨k2, h1.trans h3, h4⟩
theorem paired_map {α β γ : Type} {R : α → β → Prop} {S : α → γ → Prop} (g : β → γ) (f : ∀ a b, R a b → S a (g b)) : ∀ {l : List α} {m : List β}, Paired R l m → Paired S l (m.map g)
  | _, _, .nil => .nil
  | _, _, .cons r t => .cons (f _ _ r) (paired_map g f t)
theorem tab_keys {K : PySem.W.Frag} {H : Hp} : ∀ {kvs : List (Key × V)} {m : Tab}, Paired (TR K H) kvs m → kvs.map (·.1) = m.map fun e => Sum.inr (SX.S e.1)
  | _, _, .nil => rfl
  | _, _, .cons r t => by rw [List.map_cons, List.map_cons, tab_keys t, r.1]
theorem fn_keys {m : Tab} (h : Fn m) : (m.map fun e => (Sum.inr (SX.S e.1) : Key)).Nodup := by
  induction m with
  | nil => exact List.nodup_nil
  | cons e r ih =>
    unfold Fn at h
    rw [List.map_cons, List.nodup_cons] at h
    rw [List.map_cons, List.nodup_cons]
    refine ⟨fun z => ?_, ih h.2⟩
    obtain ⟨e', h1, h2⟩ := List.mem_map.mp z
    exact h.1 (List.mem_map.mpr ⟨e', h1, (key_S _ _).mp h2⟩)
theorem da_tab {K : PySem.W.Frag} {H : Hp} {T : Addr} {m1 m2 : Tab} (h : TabAt K H T m1) (p : m1.Perm m2) (n : Fn m1) : Da K H (.ref T) (.dict (m2.map ent)) := by
  obtain ⟨kvs, h1, h2⟩ := h
  obtain ⟨k, h3, h4⟩ := paired_perm p h2
  exact .dic h1 h3 (by rw [tab_keys h2]; exact fn_keys n) (paired_map ent (fun _ _ z => ⟨by rw [z.1]; rfl, z.2⟩) h4)
theorem oka_tab {ws hs : List (List Nat)} {N n : Nat} {m : Tab} (hw : ∀ c ∈ hs, Low c) (h : TOk ws hs N m) (hl : hs.length < 64) (hn : N + 1 ≤ n) (up : ∀ (t : Fm), okF ws [] N t → oka n t.dat = true) : oka (n + 1) (.dict (m.map ent)) = true := by
  simp only [oka, Bool.and_eq_true, decide_eq_true_eq, List.all_eq_true, List.length_map]
  refine ⟨?_, fun e he => ?_⟩
  · have z := nodup_le (k := hs) h.1 fun x hx => by
      obtain ⟨e, he, rfl⟩ := List.mem_map.mp hx
      exact (h.2 e he).1
    rw [List.length_map] at z
    omega
  · obtain ⟨p, hp, rfl⟩ := List.mem_map.mp he
    exact ⟨low_lay (hw _ (h.2 p hp).1), up _ (h.2 p hp).2⟩
theorem okF_oka {ws hs : List (List Nat)} {N n : Nat} {t : Fm} (h : okF ws hs N t) (hn : N ≤ n) : oka (n + 1) t.dat = true := ok_oka (h.le hn)
theorem sz_pow {ws hs : List (List Nat)} : ∀ {n : Nat} {t : Fm}, okF ws hs n t → sz t + 1 ≤ 2 ^ n
  | 0, _, h => h.elim
  | n + 1, .fls, _ => by have : 1 ≤ 2 ^ n := Nat.one_le_two_pow; simp only [sz, Nat.pow_succ]; omega
  | n + 1, .atom _, _ => by have : 1 ≤ 2 ^ n := Nat.one_le_two_pow; simp only [sz, Nat.pow_succ]; omega
  | n + 1, .hole _, _ => by have : 1 ≤ 2 ^ n := Nat.one_le_two_pow; simp only [sz, Nat.pow_succ]; omega
  | n + 1, .bin _ a b, h => by
    have h1 := sz_pow h.1
    have h2 := sz_pow h.2
    simp only [sz, Nat.pow_succ]
    omega
theorem sz_le {ws hs : List (List Nat)} {n : Nat} {t : Fm} (h : okF ws hs n t) (hn : n ≤ 9 := by decide) : sz t ≤ 900 := by
  have z := sz_pow (h.le hn)
  have : 2 ^ 9 = 512 := by decide
  omega
theorem vals_rev {zs : List V} {ws : List Value} (r : Vals zs ws) : Vals zs.reverse ws.reverse := by
  induction r with
  | nil => exact .nil
  | cons h _ ih =>
    rw [List.reverse_cons, List.reverse_cons]
    exact Vals.append ih (.cons h .nil)
end Ag
namespace Ag
open PySem PySem.Spec PyProof.Rows L2
/-! ### what the program holds for a formula, for a shape -/
def Sml : Fm → Prop
  | .fls => True
  | .atom w => w.length ≤ 1000
  | .hole c => c.length ≤ 1000
  | .bin _ a b => Sml a ∧ Sml b
def isB : Nat → Bool → Fm → Bool
  | 0, _, _ => false
  | _ + 1, _, .fls => true
  | _ + 1, _, .atom w => isNm w
  | _ + 1, h, .hole c => h && isLet c
  | d + 1, h, .bin _ a b => isB d h a && isB d h b
theorem isB_ok {ws hs : List (List Nat)} {h : Bool} (hw : ∀ w ∈ ws, isNm w = true) (hh : ∀ c ∈ hs, (h && isLet c) = true) : ∀ {n : Nat} {t : Fm}, okF ws hs n t → isB n h t = true
  | 0, _, z => z.elim
  | _ + 1, .fls, _ => rfl
  | _ + 1, .atom w, z => hw w z
  | _ + 1, .hole c, z => hh c z
  | n + 1, .bin _ a b, z => by
    show (isB n h a && isB n h b) = true
    rw [isB_ok hw hh z.1, isB_ok hw hh z.2]
    rfl
theorem isB_up {h : Bool} : ∀ {n : Nat} {t : Fm}, isB n h t = true → isB (n + 1) h t = true
  | 0, _, z => by cases z
  | _ + 1, .fls, _ => rfl
  | _ + 1, .atom w, z => z
  | _ + 1, .hole c, z => z
  | n + 1, .bin _ a b, z => by
    have z' : (isB n h a && isB n h b) = true := z
    rw [Bool.and_eq_true] at z'
    show (isB (n + 1) h a && isB (n + 1) h b) = true
    rw [isB_up z'.1, isB_up z'.2]
    rfl
theorem isB_le {h : Bool} {n m : Nat} {t : Fm} (z : isB n h t = true) (e : n ≤ m) : isB m h t = true := by
  induction e with
  | refl => exact z
  | step _ ih => exact isB_up ih
theorem sml_ok {ws hs : List (List Nat)} (hw : ∀ w ∈ ws, w.length ≤ 1000) (hh : ∀ c ∈ hs, c.length ≤ 1000) : ∀ {n : Nat} {t : Fm}, okF ws hs n t → Sml t
  | 0, _, z => z.elim
  | _ + 1, .fls, _ => trivial
  | _ + 1, .atom w, z => hw w z
  | _ + 1, .hole c, z => hh c z
  | n + 1, .bin _ a b, z => ⟨sml_ok hw hh z.1, sml_ok hw hh z.2⟩
theorem shaped_bin {k : Fin 3} {a b : Fm} (h : SeqAt.shaped (Fm.bin k a b).dat = true) : SeqAt.shaped a.dat = true ∧ SeqAt.shaped b.dat = true := by
  unfold SeqAt.shaped at h ⊢
  rw [Bool.and_eq_true, decide_eq_true_eq] at h
  have h1 : (PyData.canLay0 (.str (kd k)) && (PyData.canLay0 a.dat && (PyData.canLay0 b.dat && true))) = true := h.1
  have h2 : max 0 (max (PyData.depth a.dat) (max (PyData.depth b.dat) 0)) + 1 ≤ 64 := h.2
  simp only [Bool.and_eq_true, Bool.and_true] at h1
  rw [h1.2.1, h1.2.2, decide_eq_true (by omega), decide_eq_true (by omega)]
  exact ⟨rfl, rfl⟩
end Ag

namespace Ag
open PySem PySem.Spec PyProof.Rows L2
/-! ### a call that hands over values which read the cells of this def -/
structure PinsOf (X : Cx) (σ : L2.St) (l : Pins) : Prop where
  at_ : ∀ x c, X.env.cells.lookup x = some c → ∃ o v, l.lookup c = some o ∧ o.data = .cell v
  val : ∀ (i : Nat) (x : Str) (v : V), X.N[i]? = some x → σ[i]? = some (some v) → X.env.scope.names.lookup x = some .cell ∨ X.env.scope.names.lookup x = some .free → ∃ c o u, X.env.cells.lookup x = some c ∧ l.lookup c = some o ∧ o.data = .cell (some u) ∧ RelV v u
theorem lookup_mem {α β : Type} [BEq α] [LawfulBEq α] : ∀ {l : List (α × β)} {a : α} {b : β}, l.lookup a = some b → (a, b) ∈ l
  | (k, v) :: r, a, b, h => by
    rw [List.lookup_cons] at h
    cases e : a == k with
    | true =>
      rw [e] at h
      cases h
      rw [eq_of_beq e]
      exact List.mem_cons_self
    | false =>
      rw [e] at h
      exact List.mem_cons_of_mem _ (lookup_mem h)
theorem lookup_has {α β : Type} [BEq α] [LawfulBEq α] : ∀ {l : List (α × β)} {a : α} {b : β}, (a, b) ∈ l → ∃ b', l.lookup a = some b'
  | (k, v) :: r, a, b, h => by
    rw [List.lookup_cons]
    cases e : a == k with
    | true => exact ⟨_, rfl⟩
    | false =>
      rcases List.mem_cons.mp h with z | z
      · cases z
        simp at e
      · exact lookup_has z
/-- the cells' objects -/
def cpins (cells : List (Str × Addr)) (h : Heap) : Pins := cells.filterMap fun p => if cells.lookup p.1 = some p.2 then (h.get? p.2).map fun ob => (p.2, ob) else none
theorem pins_lookup {cells : List (Str × Addr)} {h : Heap} {b : Addr} {o : Obj} (e : (cpins cells h).lookup b = some o) : h.get? b = some o ∧ ∃ x, cells.lookup x = some b := by
  obtain ⟨p, hp, e2⟩ := List.mem_filterMap.mp (lookup_mem e)
  split at e2
  · rename_i q
    obtain ⟨ob, h1, h2⟩ := Option.map_eq_some_iff.mp e2
    cases h2
    exact ⟨h1, p.1, q⟩
  · cases e2
section
variable {X : Cx} {pins : List (Addr × Obj)} {σ : L2.St} {H : Hp} {s : Shared}
theorem cell_pins (I : Inv X pins σ H s) (hfn : ∀ x, X.fn x = true) : ∃ l : Pins, (∀ b o, l.lookup b = some o → s.heap.get? b = some o ∧ H b = none ∧ X.base.get? b = none ∧ b ∉ frs X.stack) ∧ PinsOf X σ l := by
  have lk : ∀ {x c}, X.env.cells.lookup x = some c → ∃ o v, (cpins X.env.cells s.heap).lookup c = some o ∧ o.data = .cell v := fun {x c} z => by
    obtain ⟨v, o, h1, h2⟩ := I.cell x c z
    obtain ⟨o2, h3⟩ := lookup_has (l := cpins X.env.cells s.heap) (a := c) (b := o) (List.mem_filterMap.mpr ⟨(x, c), lookup_mem z, by
      show (if X.env.cells.lookup x = some c then (s.heap.get? c).map fun ob => (c, ob) else none) = some (c, o)
      rw [if_pos z, h1]
      rfl⟩)
    have h4 := (pins_lookup h3).1
    rw [h1] at h4
    cases h4
    exact ⟨o, v, h3, h2⟩
  refine ⟨cpins X.env.cells s.heap, fun b o e => ?_, ⟨fun x c z => lk z, fun i x v h1 h2 h3 => ?_⟩⟩
  · obtain ⟨h1, x, hx⟩ := pins_lookup e
    have ab := I.ok.cab x b (hfn x) hx
    refine ⟨h1, I.freeC x b hx, ?_, fun hm => ?_⟩
    · cases q : X.base.get? b with
      | none => rfl
      | some ob => exact absurd (Heap.lt_size q) (Nat.not_lt.mpr (Nat.le_trans I.ok.bsz ab))
    · rcases List.mem_cons.mp (I.stkSub b hm) with z | z
      · exact I.cne x b hx z
      · obtain ⟨_, ob, ho, _⟩ := I.ok.funs.mem z
        exact absurd (Heap.lt_size ho) (Nat.not_lt.mpr ab)
  · obtain ⟨m, hn, hl⟩ := I.loc
    obtain ⟨u, ru, q⟩ := hl i x v h1 h2 (.inr h3)
    rcases q with ⟨k, _⟩ | ⟨_, c, k, o, h5, h6⟩
    · have k2 : X.env.scope.names.lookup x = some .local := k
      rcases h3 with z | z <;> (rw [z] at k2; cases k2)
    · obtain ⟨o2, v2, h7, h8⟩ := lk k
      have h9 := (pins_lookup h7).1
      rw [h5] at h9
      cases h9
      exact ⟨c, o, u, k, h7, h6, ru⟩
end
/-- from the maker's cells to those of a lambda -/
theorem cells_in {X : Cx} {σ : L2.St} {l : Pins} {scope : Scope} {N : List Str} {τ : L2.St} (ok : X.Ok) (P : PinsOf X σ l) (hf : ∀ y ∈ scope.names, y.2 = .free → X.env.scope.names.lookup y.1 = some .cell ∨ X.env.scope.names.lookup y.1 = some .free)
    (hs : ∀ (i : Nat) (x : Str) (v : V), N[i]? = some x → τ[i]? = some (some v) → ∃ j : Nat, X.N[j]? = some x ∧ σ[j]? = some (some v)) : CellsIn N τ scope (cloFrom X.env.cells scope.names []) l := by
  have has : ∀ y ∈ scope.names, y.2 = .free → ∃ c, X.env.cells.lookup y.1 = some c := fun y hy e => ok.has _ (hf y hy e)
  have down : ∀ {x c}, (cloFrom X.env.cells scope.names []).lookup x = some c → X.env.cells.lookup x = some c := fun {x c} e => by
    rcases cloFrom_mem (PySem.mem_of_lookup e) with z | ⟨z1, z2⟩
    · cases z
    · obtain ⟨c1, hc⟩ := has _ z1 rfl
      have hc2 : X.env.cells.lookup x = some c1 := hc
      rw [z2, hc2]
      rfl
  have up : ∀ {x}, (x, NameKind.free) ∈ scope.names → ∃ c, (cloFrom X.env.cells scope.names []).lookup x = some c := fun {x} hy => mem_lookup (cloFrom_has (cells := X.env.cells) (acc := []) hy)
  refine ⟨fun x y c h1 h2 => ok.inj x y c (down h1) (down h2), fun y hy e => ?_, fun x c e => P.at_ x c (down e), fun i x v h1 h2 h3 => ?_⟩
  · obtain ⟨n, kd⟩ := y
    have e2 : kd = .free := e
    subst e2
    exact up hy
  · obtain ⟨j, g1, g2⟩ := hs i x v h1 h2
    have hm := PySem.mem_of_lookup h3
    obtain ⟨c, o, u, k1, k2, k3, k4⟩ := P.val j x v g1 g2 (hf _ hm rfl)
    obtain ⟨c2, hc2⟩ := up hm
    have := down hc2
    rw [k1] at this
    cases this
    exact ⟨c, o, u, hc2, k2, k3, k4⟩
/-- f(..), while the cells' objects are known to the letter -/
def tCallC (X : Cx) (sp : Sp) (t : TA) : TE := fun σ H Q => t σ H fun vs H1 => ∀ l : Pins, X.Ok → PinsOf X σ l → (∀ b o, l.lookup b = some o → H1 b = none) → sp vs (addp H1 l) (fun v H2 => (∀ b o, l.lookup b = some o → H2 b = some (pinO b o)) ∧ Q v (remp H2 l)) L2.E0
theorem pe_callC {X : Cx} {k : Nat} {f : Addr} {fd : FuncData} {ps : List Str} {sp : Sp} {x : Str} {p pos : Pos} {e : Expr} {es : List Expr} {t : TA} (F : FnOk X.prog X.w X.K X.mg X.base L2.CX0 k f fd ps sp) (room : Room k X.A) (hfn : ∀ x, X.fn x = true) (hg : Gl X x) (hm : X.mg x = some (.ref f)) (hk : PySem.W.keepIn X.K (.ref f) = true)
    (bi : Binds X.K fd ps []) (ha : PA X (e :: es) t) (hdb : (x == ("__debug__" : Str)) = false := by decide)
    (h1 : starEach (e :: es) X.env = (false, eval e X.env) :: starEach es X.env := by rfl) (h2 : (backTo pos (starEach es X.env)).any (·.1) = false := by rfl) :
    PE X (.Call (.Name x p) (e :: es) [] pos) (tCallC X sp t) := by
  refine ⟨fun pins s σ H Q I h => wpAny_Call_Name_kw (ld_glob I hg hm ?_ hdb)⟩
  refine PySem.W.callWith_K (h₀ := X.base) I.ok.mod.kin hk (thn (ha.run pos pins s σ H _ I h) fun us s1 ⟨vs, H1, J, rv, hsp⟩ => ⟨J.kIn, ?_⟩) h1 h2
  obtain ⟨l, hl, hp⟩ := cell_pins J hfn
  have sp1 := hsp l J.ok hp fun b o z => (hl b o z).2.1
  have ln : us.length = ps.length := (Vals.length rv).symm.trans (F.len _ _ _ _ sp1)
  have b := bi s1 us J.kIn (by rw [List.append_nil]; exact ln)
  rw [List.append_nil] at b
  refine wpAny_call (codeAny_mono (F.run X.A X.stack s1 (addp H1 l) ⟨us, []⟩ us vs _ _ room (env0_add J.env0 hl) b rv sp1) fun r s2 z => ?_)
  match r, z with
  | .ok (.ret u), z => exact J.after (ce_rem (fun b o q => ⟨(hl b o q).1, (hl b o q).2.1, (hl b o q).2.2.2⟩) (fun v H2 q => q) z)
end Ag

namespace Ag
open PySem PySem.Spec PyProof.Rows L2
/-! ### a def that hands out what reads its cells: they are known to the letter from then on -/
section
variable {X : Cx} {pins : List (Addr × Obj)} {σ : L2.St} {H : Hp} {s : Shared}
theorem cell_pins2 (I : Inv X pins σ H s) (hfn : ∀ x, X.fn x = true) : ∃ l : Pins, (∀ b o, l.lookup b = some o → s.heap.get? b = some o ∧ H b = none ∧ X.s_0.heap.objs.size ≤ b) ∧ PinsOf X σ l := by
  have lk : ∀ {x c}, X.env.cells.lookup x = some c → ∃ o v, (cpins X.env.cells s.heap).lookup c = some o ∧ o.data = .cell v := fun {x c} z => by
    obtain ⟨v, o, h1, h2⟩ := I.cell x c z
    obtain ⟨o2, h3⟩ := lookup_has (l := cpins X.env.cells s.heap) (a := c) (b := o) (List.mem_filterMap.mpr ⟨(x, c), lookup_mem z, by
      show (if X.env.cells.lookup x = some c then (s.heap.get? c).map fun ob => (c, ob) else none) = some (c, o)
      rw [if_pos z, h1]
      rfl⟩)
    have h4 := (pins_lookup h3).1
    rw [h1] at h4
    cases h4
    exact ⟨o, v, h3, h2⟩
  refine ⟨cpins X.env.cells s.heap, fun b o e => ?_, ⟨fun x c z => lk z, fun i x v h1 h2 h3 => ?_⟩⟩
  · obtain ⟨h1, x, hx⟩ := pins_lookup e
    exact ⟨h1, I.freeC x b hx, I.ok.cab x b (hfn x) hx⟩
  · obtain ⟨m, hn, hl⟩ := I.loc
    obtain ⟨u, ru, q⟩ := hl i x v h1 h2 (.inr h3)
    rcases q with ⟨k, _⟩ | ⟨_, c, k, o, h5, h6⟩
    · have k2 : X.env.scope.names.lookup x = some .local := k
      rcases h3 with z | z <;> (rw [z] at k2; cases k2)
    · obtain ⟨o2, v2, h7, h8⟩ := lk k
      have h9 := (pins_lookup h7).1
      rw [h5] at h9
      cases h9
      exact ⟨c, o, u, k, h7, h6, ru⟩
end
section
variable {fs : List Addr} {H H1 : Hp} {h h1 : Heap} {l : Pins}
theorem un_new (u : Un fs [] H H1 h h1) (hl : ∀ b o, l.lookup b = some o → H1 b = none ∧ h.objs.size ≤ b) : Un fs [] H (addp H1 l) h h1 := by
  have no : ∀ {b : Addr} {v : HO}, H1 b = some v → l.lookup b = none := fun {b v} n => by
    cases q : l.lookup b with
    | none => rfl
    | some o =>
      rw [(hl b o q).1] at n
      cases n
  exact {
    keep := u.keep
    slot := u.slot
    free := fun b o e n hx => by
      have q : l.lookup b = none := by
        cases q : l.lookup b with
        | none => rfl
        | some ob => exact absurd (Heap.lt_size e) (Nat.not_lt.mpr (hl b ob q).2)
      rw [addp_out q]
      exact u.free b o e n hx
    there := u.there
    tups := fun b xs e => by
      have z := u.tups b xs e
      rw [addp_out (no z)]
      exact z
    frzs := fun b o v e => by
      have z := u.frzs b o v e
      rw [addp_out (no z)]
      exact z
    tbls := fun b ps e => by
      obtain ⟨m, z⟩ := u.tbls b ps e
      exact ⟨m, by rw [addp_out (no z)]; exact z⟩ }
end
section
variable {P : Program} {w : World} {K : PySem.W.Frag} {mg : Str → Option Value} {base : Heap}
theorem ok_keep {x qual : Str} {st : Stmt} {f c : Addr} {fd : FuncData} {N ps : List Str} {k : Nat} {sp : Sp} {e : Expr} {pos : Pos} (F : Fun K x qual st f fd) (hc : fd.code = .ref c) (hb : defBody st = [.Return (some e) pos]) (sc : FnScope N ps (defScope st))
    (len : ∀ vs H Q E, sp vs H Q E → vs.length = ps.length)
    (body : ∀ (A : Around) (outer : List Env) (s : Shared) (H : Hp) (vs : List V) (Q : VK) (E : XK), Room k (A.deeper (envOfC qual (defScope st) s.heap.objs.size f (.ref c))) → sp vs H Q E →
      ∃ t, PE (cxOf L2.CX0 P w K mg base N qual (defScope st) f (.ref c) A outer s H E).nox e t ∧
        t (L2.start N vs) H (fun v H' => ∀ l : Pins, (cxOf L2.CX0 P w K mg base N qual (defScope st) f (.ref c) A outer s H E).nox.Ok → PinsOf (cxOf L2.CX0 P w K mg base N qual (defScope st) f (.ref c) A outer s H E).nox (L2.start N vs) l → (∀ b o, l.lookup b = some o → H' b = none) → Q v (addp H' l))) :
    FnOk P w K mg base L2.CX0 (k + 1) f fd ps sp := by
  obtain ⟨oc, od, kV, doc, pm, an, cdv, ct, osl, rfl, look, code⟩ := F.ex
  have ecd : cdv = .ref c := hc
  subst ecd
  refine ⟨len, fun A outer s H args us vs Q E room e0 bs rv hsp => ?_⟩
  have hl := len _ _ _ _ hsp
  have inK : K.In s.heap := e0.mod.kin.keeps fun c oo z => (e0.bs c oo z).1
  have nolim : s.heap.NoLimit := e0.mod.nolimit.keeps fun c oo z => (e0.bs c oo z).1
  have kinds : ∀ y ∈ ps.zip us, (defScope st).names.lookup y.1 = some .local ∨ ((defScope st).names.lookup y.1 = some .cell ∧ ((cellsFrom (s.heap.objs.size + 1) (defScope st).names []).lookup y.1).isSome = true) := by
    rintro ⟨n, v⟩ hy
    exact (sc.par n (List.of_mem_zip hy).1).imp id fun q => ⟨q, PySem.W.cellsFrom_some _ _ _ (.inl q)⟩
  refine codeAny_call_function room.depth (inK _ _ look) rfl sc.co sc.gen rfl (PySem.W.codeRec_of inK code) (bs _ _ _ _ ?_)
  refine wpAny_newFunctionEnv_cells sc.kind kinds fun env he s1 ic => ?_
  subst he
  refine ⟨nolim.keeps ic.toInCall.keep, codeAny_func ?_⟩
  obtain ⟨t, ht, hq⟩ := body A outer s H vs Q E (room.deeper _) hsp
  have I : Inv (cxOf L2.CX0 P w K mg base N qual (defScope st) f (.ref c) A outer s H E) [] (L2.start N vs) H s1 := inv_start sc room.hd e0 hl rv ic
  rw [hb]
  refine wpAny_execs_cons (wpAny_Return_some (wpAny_mono (ht.run [] s1 (L2.start N vs) H _ (I.wish _) hq) (fun u s' z => ?_) fun e s' z => False.elim z))
  obtain ⟨v, H2, J, r2, q2⟩ := z
  obtain ⟨l, hl2, hp⟩ := cell_pins2 J (fun _ => rfl)
  exact ⟨v, addp H2 l, J.os, J.bare, un_new J.base (fun b o z => (hl2 b o z).2), hok_add J.hok (fun b o z => ⟨(hl2 b o z).1, (hl2 b o z).2.1⟩), r2, q2 l J.ok hp (fun b o z => (hl2 b o z).2.1)⟩
end
/-! ### x in a tuple of data; a text times a number -/
section
variable {X : Cx}
def rInDT (K : PySem.W.Frag) : R2 := fun x y H Q => ∃ d ds, Dp K H x d ∧ Dp K H y (.tuple ds) ∧ d.canLay0 = true ∧ PyData.canLayAll0 ds = true ∧ PyData.depthAll ds = 0 ∧ Q (.bl (ds.any fun z => PyData.eqv z d)) H
theorem op_inDT (hu : X.A.units + 64 < cLine) : OpR X (compareOp .In) (rInDT X.K) := by
  intro pins s σ H x y v u Q I rx ry h
  obtain ⟨d, ds, hd, he, sd, se, z, q⟩ := h
  obtain ⟨as, r1⟩ := Dp.reads I d x v hd rx
  obtain ⟨bs, r2⟩ := Dp.reads I (.tuple ds) y u he ry
  exact SeqAt.in_tuple_reads r2 r1 se sd (by rw [z, Nat.zero_min]; omega) ⟨.bl _, H, I, rfl, q⟩
theorem op_mul_str : OpR X (binaryOp .Mult) (fun x y H Q => ∃ z n, x = .str z ∧ y = .int n ∧ MulOk z n ∧ Q (.str (Txt.mul z n)) H) := by
  intro pins s σ H x y v u Q I rx ry h
  obtain ⟨z, n, rfl, rfl, hm, q⟩ := h
  obtain ⟨t, rfl⟩ := rx
  obtain ⟨t2, rfl⟩ := ry
  exact SB.mul hm fun t' k => ⟨.str _, H, I.tok _, ⟨_, rfl⟩, q⟩
end
end Ag

namespace Ag
open PySem PySem.Spec PyProof.Rows L2
open AutoSeq1 (wpAny_loadPart')
/-! ### enumerate over a tuple -/
theorem meets_enumT (l : Addr) (items : Array Value) (n : Nat) (dct : Option Addr) (sl : Array (Option Value)) :
    Meets (Builtin.«enumerate.__new__» ⟨[.type "enumerate", .ref l], []⟩) (fun _ R s => s.heap.get? l = some { cls := .type "tuple", dict := dct, data := .seq items n, slots := sl } ∧
      R (.ok (.ret (.ref (s.heap.push { cls := .type "tuple_iterator", data := .fields #[.ref l, .int 0 0] }).objs.size)))
        { s with heap := (s.heap.push { cls := .type "tuple_iterator", data := .fields #[.ref l, .int 0 0] }).push { cls := .type "enumerate", data := .fields #[.none, .bool false, .ref s.heap.objs.size, rawInt 0, .none, .none] } }) :=
  .of_wp fun prog w A R s h => by
    obtain ⟨hp, g, d, tk, os⟩ := s; obtain ⟨hl, h⟩ := h
    have hsub := sub_enumerate
    have hL : Heap.IsTuple (Shared.heap ⟨hp, g, d, tk, os⟩) l items := ⟨_, hl, rfl, n, rfl⟩
    wp_walk using wpAny_loadPart' hl
    refine wpAny_stack_any fun st => wpAny_pure ?_
    split
    · rename_i c _ _ _ _ _
      cases (c == Value.type "enumerate")
      · wp_walk using wpAny_loadPart' hl, wpAny_pyIter_tuple hL
        exact ⟨_, rfl, h⟩
      · wp_walk using wpAny_loadPart' hl, wpAny_pyIter_tuple hL
        exact ⟨_, rfl, h⟩
    · wp_walk using wpAny_loadPart' hl, wpAny_pyIter_tuple hL
      exact ⟨_, rfl, h⟩
section
variable {prog : Program} {w : World} {A : Around} {E : Value → Shared → Prop} {s : Shared}
theorem call_enumT {l : Addr} {items : Array Value} {Q : Value → Shared → Prop} (hL : IsTup s.heap l items)
    (h : ∀ h', IsEnum h' (s.heap.objs.size + 1) s.heap.objs.size 0 .none → h'.IsTupleIter s.heap.objs.size l 0 → h'.objs.size = s.heap.objs.size + 2 →
      (∀ b o, s.heap.get? b = some o → h'.get? b = some o) → Q (.ref (s.heap.objs.size + 1)) { s with heap := h' }) :
    wpAny (model prog w) A (call (.type "enumerate") [.ref l]) Q E s := by
  obtain ⟨⟨c, dct, dt, sl⟩, hl, hc, n, hd⟩ := hL
  replace hc : c = .type "tuple" := hc
  replace hd : dt = .seq items n := hd
  subst hc hd
  refine callType_new F.called_enumerate (by decide) (F.typeCall_enumerate_1 _) (F.newCall_enumerate_1 _) (fun obj => F.args_object_init_2 obj _) F.entry_enumerate_new
    (meets_enumT l items n dct sl) ⟨hl, ?_⟩
  have hz : (s.heap.push { cls := .type "tuple_iterator", data := .fields #[.ref l, .int 0 0] }).objs.size = s.heap.objs.size + 1 := Heap.size_push ..
  show _ ∧ _
  rw [hz]
  have he : IsEnum ((s.heap.push { cls := .type "tuple_iterator", data := .fields #[.ref l, .int 0 0] }).push
      { cls := .type "enumerate", data := .fields #[.none, .bool false, .ref s.heap.objs.size, rawInt 0, .none, .none] }) (s.heap.objs.size + 1) s.heap.objs.size 0 .none := by
    have := Heap.get?_push_size (s.heap.push { cls := .type "tuple_iterator", data := .fields #[.ref l, .int 0 0] })
      (o := { cls := .type "enumerate", data := .fields #[.none, .bool false, .ref s.heap.objs.size, rawInt 0, .none, .none] }) rfl
    rw [hz] at this; exact this
  refine ⟨⟨_, he, rfl⟩, h _ he ⟨_, Heap.get?_push_of_some _ (Heap.get?_push_size _ rfl), rfl, rfl⟩ (by rw [Heap.size_push, hz]) fun b o x => Heap.get?_push_of_some _ (Heap.get?_push_of_some _ x)⟩
end
section
variable {prog : Program} {w : World} {A : Around} {E : Value → Shared → Prop} {s : Shared}
theorem enumT_end {e it t : Addr} {i : Nat} {c : Int} {items : Array Value} {old : Value} {Q : Option Value → Shared → Prop} (hh : A.handled = none) (he : IsEnum s.heap e it c old) (hit : s.heap.IsTupleIter it t i) (ht : s.heap.IsTuple t items) (hx : items[i]? = none)
    (hQ : ∀ h', Heap.ExtBut it s.heap h' → Q none { s with heap := h' }) : wpAny (model prog w) A (pyNext (.ref e)) Q E s := by
  have hT : s.TypeIs (.ref e) "enumerate" := ⟨_, he, rfl⟩
  unfold pyNext
  refine wpAny_bind (wpAny_attempt (wpAny_callSpecial?_slot (name := Str.ofString "__next__") hT F.slot_enumerate_next (wpAny_call_entry F.slot_enumerate_next hT F.entry_enumerate_next ?_ (F.args_enumerate_next_1 _))))
  show wpAny _ _ (field (.ref e) 2 >>= _) _ _ _
  refine wpAny_bind (wpAny_field he rfl (x := .ref it) rfl ?_)
  refine wpAny_bind (wpAny_nextOf_tuple_end hh hit ht hx fun h' x he' hx' => ?_)
  obtain ⟨o, ho, hc⟩ := hx'
  refine wpAny_bind (wpAny_isInstance (T := "StopIteration") (b := true) ⟨o, ho, hc⟩ isSubtype_stop ?_)
  exact wpAny_pure (hQ _ he')
end
def IteT (K : PySem.W.Frag) (a : Addr) : It :=
  ⟨fun i H => ∃ (xs : List V) (x : V), SqT K H a xs ∧ xs[i]? = some x, fun i H v H' => ∃ T x, v = .ref T ∧ H T = none ∧ H' = upd H T (.tup [.int (i : Nat), x]) ∧ ∀ xs, SqT K H a xs → xs[i]? = some x, fun i H => ∃ xs : List V, SqT K H a xs ∧ xs.length ≤ i⟩
theorem turn_enumT {P : Program} {w : World} {K : PySem.W.Frag} {elts : List Expr} {kk : Nat} {tpos : Pos} (a e it : Addr) (hai : a ≠ it) :
    Turn P w K (.Tuple elts kk tpos) (IteT K a) [e, it] e (fun i h => (∃ old, IsEnum h e it ((i : Nat) : Int) old) ∧ h.IsTupleIter it a i ∧ e ≠ it ∧ e ≠ a) where
  mem := by simp
  obj := fun i h st b hb => by
    obtain ⟨⟨old, he⟩, ⟨o, ho, hc, hd⟩, _⟩ := st
    have e' : b = e ∨ b = it := by simpa using hb
    rcases e' with z | z
    · rw [z]; exact ⟨_, he, fun v q => nomatch q⟩
    · rw [z]; exact ⟨o, ho, fun v q => by rw [hd] at q; cases q⟩
  keep := fun i h h' st k => let ⟨⟨old, he⟩, hi, hne⟩ := st; ⟨⟨old, k e (by simp) _ he⟩, hi.at fun o q => k it (by simp) o q, hne⟩
  item := by
    intro X hP hw hK hc i pins s σ H E I hf st hg
    subst hP hw hK
    obtain ⟨⟨old, he⟩, hit, hne, hea⟩ := st
    obtain ⟨xs, x, hq, hx⟩ := hg
    obtain ⟨its, rv, p, hz⟩ := I.tuple hq
    obtain ⟨u, hu, ru⟩ := rv.get hx
    have hel : e < s.heap.objs.size := Heap.lt_size he
    have hil : it < s.heap.objs.size := by obtain ⟨_, q, _⟩ := hit; exact Heap.lt_size q
    have hlt : i < its.toArray.size := by
      have z := (List.getElem?_eq_some_iff.mp hu).1
      simpa using z
    have D := Draws.tuple (prog := X.prog) (w := X.w) (A := X.A.in1) (I.ok.hd hc) it a hai its.toArray
    refine wpAny_pyNext_enum_itemD D he ⟨hit, p⟩ hlt hne (by simp; exact ⟨hne, hea⟩) fun x' h' tk hx' ho hst' hT hsz hk => ?_
    obtain rfl : x' = u := by
      have z : its.toArray[i]? = some u := by simpa using hu
      rw [z] at hx'
      exact (Option.some.inj hx').symm
    refine ⟨_, rfl, wpAny_letOwnedTupleGo_enum (s := { s with heap := h', toks := tk + 1 }) ho fun h'' he' sb => ?_⟩
    have hT2 : h''.get? s.heap.objs.size = some { cls := .type "tuple", data := .seq #[.int i tk, x'] } := (sb.2 _ (Nat.ne_of_gt hel)).trans hT
    have new : ObjOk X.prog X.w (upd H s.heap.objs.size (.tup [.int (i : Nat), x])) h'' s.heap.objs.size (.tup [.int (i : Nat), x]) :=
      ⟨by show 2 ≤ sizeLine; decide, [.int i tk, x'], .cons ⟨_, rfl⟩ (.cons ru .nil), ⟨_, hT2, rfl, _, rfl⟩⟩
    have I1 : Inv X pins σ (upd H s.heap.objs.size (.tup [.int (i : Nat), x])) { s with heap := h'', toks := tk + 1 } :=
      I.turnedNew (ch := [e, it]) (fun b ob hb q => (sb.2 b (fun z => hb (by simp [z]))).trans (hk b ob (fun z => hb (by simp [z])) (fun z => hb (by simp [z])) q)) hf (Nat.le_refl _) new
    refine ⟨.ref s.heap.objs.size, _, I1, rfl, ⟨_, x, rfl, I.hok.fresh (Nat.le_refl _), rfl, fun ys hy => by rw [I.tuple_inj hy hq]; exact hx⟩, ⟨⟨x', ?_⟩, hst'.1.at fun o q => (sb.2 it (Ne.symm hne)).trans q, hne, hea⟩, fun b hb => ?_⟩
    · have e1 : ((i + 1 : Nat) : Int) = (i : Int) + 1 := by omega
      rw [e1]; exact he'
    · have hb' : b < s.heap.objs.size := by
        have e' : b = e ∨ b = it := by simpa using hb
        rcases e' with z | z
        · rw [z]; exact hel
        · rw [z]; exact hil
      rw [upd_ne (Nat.ne_of_lt hb')]
      exact (hf b hb).1
  done := by
    intro X hP hw hK hc i pins s σ H E I hf st hg
    subst hP hw hK
    obtain ⟨⟨old, he⟩, hit, hne, hea⟩ := st
    obtain ⟨xs, hq, hx⟩ := hg
    obtain ⟨its, rv, p, hz⟩ := I.tuple hq
    obtain ⟨f0, f1, f2, f3, f4, f5⟩ := hf it (by simp)
    have hl := rv.length
    exact enumT_end (I.ok.hd hc) he hit p (by simp; omega) fun h' eb => ⟨rfl, I.turned (t' := s.toks) (fun b o hb q => eb b o hb q) f0 f1 f3 f4 f5⟩
  self := fun A i s Q E st h => let ⟨⟨_, he⟩, _⟩ := st; wpAny_pyIter_enum he h
def iEnumA (K : PySem.W.Frag) (ta : TA) : TI := fun σ H R => ta σ H fun vs H1 => ∃ a xs, vs = [.ref a] ∧ ((SqL K H1 a xs ∧ R (Ite K a) H1) ∨ (SqT K H1 a xs ∧ R (IteT K a) H1))
theorem pi_enumA {X : Cx} {e : Expr} {ta : TA} {p pos tpos : Pos} {elts : List Expr} {kk : Nat} (hg : Gl X "enumerate") (hm : X.mg "enumerate" = none) (ha : PA X [e] ta) (hs : starEach [e] X.env = [(false, eval e X.env)] := by rfl) :
    PI X (.Tuple elts kk tpos) (.Call (.Name "enumerate" p) [e] [] pos) (iEnumA X.K ta) := by
  refine ⟨fun pins s σ H R I h => ?_⟩
  refine Call_ (ld_blt I hg hm boot_enumerate (PyProof.Rows.callWith_type1 (thn (ha.run pos pins s σ H _ I h) fun us s1 ⟨vs, H1, I1, r1, q1⟩ => ?_) hs rfl))
  obtain ⟨a, xs, ex, q⟩ := q1
  subst ex
  cases r1 with
  | cons r rr =>
    cases rr
    cases r
    have fp : ∀ b ∈ [s1.heap.objs.size + 1, s1.heap.objs.size], FpOk X pins H1 b := fun b hb => by
      have e' : b = s1.heap.objs.size + 1 ∨ b = s1.heap.objs.size := by simpa using hb
      have hle : s1.heap.objs.size ≤ b := by
        rcases e' with z | z
        · rw [z]; exact Nat.le_add_right _ _
        · rw [z]; exact Nat.le_refl _
      exact I1.fpOk hle (I1.hok.fresh hle)
    rcases q with ⟨hq, q⟩ | ⟨hq, q⟩
    · obtain ⟨its, rv, p', hz⟩ := I1.list hq
      refine call_enumerate_list p'.isList fun h' he hit hsz hk => wpAny_pyIter_enum he ?_
      have I2 : Inv X pins σ H1 { s1 with heap := h' } := I1.kept (t' := s1.toks) hk
      exact ⟨s1.heap.objs.size + 1, [s1.heap.objs.size + 1, s1.heap.objs.size], _, _, H1, rfl, I2, turn_enum a (s1.heap.objs.size + 1) s1.heap.objs.size, ⟨⟨.none, he⟩, hit, Nat.succ_ne_self _⟩, fp, q⟩
    · obtain ⟨its, rv, p', hz⟩ := I1.tuple hq
      refine call_enumT p' fun h' he hit hsz hk => wpAny_pyIter_enum he ?_
      have I2 : Inv X pins σ H1 { s1 with heap := h' } := I1.kept (t' := s1.toks) hk
      have hal : a < s1.heap.objs.size := by obtain ⟨o, z, _⟩ := p'; exact Heap.lt_size z
      exact ⟨s1.heap.objs.size + 1, [s1.heap.objs.size + 1, s1.heap.objs.size], _, _, H1, rfl, I2, turn_enumT a (s1.heap.objs.size + 1) s1.heap.objs.size (Nat.ne_of_lt hal), ⟨⟨.none, he⟩, hit, Nat.succ_ne_self _, fun z => by rw [← z] at hal; exact absurd hal (Nat.not_lt.mpr (Nat.le_succ _))⟩, fp, q⟩
theorem walk_enumT {K : PySem.W.Frag} {a : Addr} {xs : List V} : Walk (IteT K a) xs.length (fun H => SqT K H a xs) (YPair (fun i => some (.int (i : Nat))) (fun i => xs[i]?)) := by
  refine ⟨fun i _ hi q => ⟨xs, xs[i], q, by simp [hi]⟩, fun _ q => ⟨xs, q, Nat.le_refl _⟩, fun i H v H' _ q y => ?_⟩
  obtain ⟨T, x, h1, h2, h3, h4⟩ := y
  exact ⟨T, .int (i : Nat), x, h1, h2, h3, rfl, h4 xs q⟩
end Ag

namespace Ag
open PySem PySem.Spec PyProof.Rows L2
/-! ### rows and contexts -/
abbrev Row := List Nat × Fm
def rowD (r : Row) : PyData := .tuple [.str (SX.S r.1), r.2.dat]
def RowAt (K : PySem.W.Frag) (H : Hp) (v : V) (r : Row) : Prop := Dp K H v (rowD r)
section
variable {K : PySem.W.Frag} {H H' : Hp} {v : V} {r : Row}
theorem row_at (h : RowAt K H v r) : ∃ p x, v = .ref p ∧ SqT K H p [.str (SX.S r.1), x] ∧ Fr K H x r.2 := by
  cases h with
  | tup hp ha =>
    obtain ⟨x, y, rfl, hx, hy⟩ := dpall2 ha
    cases hx
    exact ⟨_, y, rfl, hp, hy⟩
theorem mk_row {p : Addr} {x : V} (h : SqT K H p [.str (SX.S r.1), x]) (hx : Fr K H x r.2) : RowAt K H (.ref p) r := .tup h (.cons (.str _) (.cons hx .nil))
theorem RowAt.same (s : Same H H') (h : RowAt K H v r) : RowAt K H' v r := Dp_same s h
theorem RowAt.tp (s : Tp H H') (h : RowAt K H v r) : RowAt K H' v r := by
  obtain ⟨p, x, rfl, sp, fx⟩ := row_at h
  exact mk_row (s.seq sp) (fx.tp s)
theorem RowAt.kp {b l : Addr} (k : Kp b H H') (g : Bag H b l) (h : RowAt K H v r) : RowAt K H' v r := by
  obtain ⟨p, x, rfl, sp, fx⟩ := row_at h
  exact mk_row (kp_tup k g sp) (fx.kp k g)
end
def RowsAt (K : PySem.W.Frag) (H : Hp) (vs : List V) (rs : List Row) : Prop := Paired (RowAt K H) vs rs
theorem RowsAt.same {K : PySem.W.Frag} {H H' : Hp} {vs : List V} {rs : List Row} (s : Same H H') (h : RowsAt K H vs rs) : RowsAt K H' vs rs := paired_imp (fun _ _ z => z.same s) h
theorem RowsAt.tp {K : PySem.W.Frag} {H H' : Hp} {vs : List V} {rs : List Row} (s : Tp H H') (h : RowsAt K H vs rs) : RowsAt K H' vs rs := paired_imp (fun _ _ z => z.tp s) h
theorem RowsAt.kp {K : PySem.W.Frag} {H H' : Hp} {vs : List V} {rs : List Row} {b l : Addr} (k : Kp b H H') (g : Bag H b l) (h : RowsAt K H vs rs) : RowsAt K H' vs rs := paired_imp (fun _ _ z => z.kp k g) h
theorem rows_at {K : PySem.W.Frag} {H : Hp} : ∀ {vs : List V} {rs : List Row}, RowsAt K H vs rs → ∀ {i : Nat} {v : V}, vs[i]? = some v → ∃ r, rs[i]? = some r ∧ RowAt K H v r
  | _, _, .nil, i, v, h => by simp at h
  | _, _, .cons z zs, 0, v, h => by
    simp at h
    subst h
    exact ⟨_, rfl, z⟩
  | _, _, .cons z zs, i + 1, v, h => by
    simp at h
    obtain ⟨r, e, q⟩ := rows_at (K := K) (H := H) zs h
    exact ⟨r, by simpa using e, q⟩
theorem rows_at2 {K : PySem.W.Frag} {H : Hp} : ∀ {vs : List V} {rs : List Row}, RowsAt K H vs rs → ∀ {i : Nat} {r : Row}, rs[i]? = some r → ∃ v, vs[i]? = some v ∧ RowAt K H v r
  | _, _, .nil, i, v, h => by simp at h
  | _, _, .cons z zs, 0, v, h => by
    simp at h
    subst h
    exact ⟨_, rfl, z⟩
  | _, _, .cons z zs, i + 1, v, h => by
    simp at h
    obtain ⟨r, e, q⟩ := rows_at2 (K := K) (H := H) zs h
    exact ⟨r, by simpa using e, q⟩
/-- whether the program takes it as a row -/
def isRw (r : Row) : Bool := isNm r.1 && isB 10 false r.2
/-- small enough to be looked at -/
structure Rok (r : Row) : Prop where
  len : r.1.length ≤ 1000
  sml : Sml r.2
  shp : SeqAt.shaped r.2.dat = true
  shr : SeqAt.shaped (rowD r) = true
theorem eqv_row (r s : Row) : PyData.eqv (rowD r) (rowD s) = decide (r = s) := by
  unfold rowD
  rw [eqv2, eqvStr, eqv_dat]
  have e : decide (SX.S r.1 = SX.S s.1) = decide (r.1 = s.1) := decS _ _
  rw [e]
  obtain ⟨a, b⟩ := r
  obtain ⟨c, d⟩ := s
  by_cases h1 : a = c <;> by_cases h2 : b = d <;> simp [h1, h2]
/-- the least places: the first that fits, each time -/
def gr (xs : List Row) : List Row → Nat → Option (List Nat)
  | [], _ => some []
  | r :: rs, at' => match (xs.drop at').findIdx? (fun x => decide (x = r)) with
    | none => none
    | some k => (gr xs rs (at' + k + 1)).map (fun ps => (at' + k) :: ps)
end Ag
namespace Ag
open PySem PySem.Spec PyProof.Rows L2
/-! ### what stands behind an own object -/
theorem insT {K : PySem.W.Frag} {H H' : Hp} {x C dx p : Addr} {fs : List (Str × V)} {ys : List V} (e : H x = some (.ins C dx fs)) (k : Kp x H H') (h : SqT K H p ys) : SqT K H' p ys := by
  rcases h with (h | ⟨o, h⟩) | h
  · exact .inl (.inl (k _ _ h (ne_of h e (by intro z; cases z))))
  · exact .inl (.inr ⟨o, k _ _ h (ne_of h e (by intro z; cases z))⟩)
  · exact .inr h
theorem insTp {H H' : Hp} {x C dx : Addr} {fs : List (Str × V)} (e : H x = some (.ins C dx fs)) (k : Kp x H H') : Tp H H' := fun p xs h => by
  rcases h with h | ⟨o, h⟩
  · exact .inl (k _ _ h (ne_of h e (by intro z; cases z)))
  · exact .inr ⟨o, k _ _ h (ne_of h e (by intro z; cases z))⟩
/-- an own object with the tuple at a as its rows -/
def HeldAt (C : Addr) (H : Hp) (x a : Addr) : Prop := ∃ dx, H x = some (.ins C dx [("held", .ref a)])
theorem HeldAt.same {C : Addr} {H H' : Hp} {x a : Addr} (s : Same H H') (h : HeldAt C H x a) : HeldAt C H' x a := by
  obtain ⟨dx, e⟩ := h
  exact ⟨dx, s _ _ e⟩
def CtxAt (K : PySem.W.Frag) (C : Addr) (H : Hp) (x : Addr) (rs : List Row) : Prop := ∃ a vs, HeldAt C H x a ∧ SqT K H a vs ∧ RowsAt K H vs rs
theorem CtxAt.same {K : PySem.W.Frag} {C : Addr} {H H' : Hp} {x : Addr} {rs : List Row} (s : Same H H') (h : CtxAt K C H x rs) : CtxAt K C H' x rs := by
  obtain ⟨a, vs, h1, h2, h3⟩ := h
  exact ⟨a, vs, h1.same s, sameT s h2, h3.same s⟩
def RowsIn (K : PySem.W.Frag) (H : Hp) (p : Addr) (ys : List V) : Prop := SqL K H p ys ∨ SqT K H p ys
theorem RowsIn.same {K : PySem.W.Frag} {H H' : Hp} {p : Addr} {ys : List V} (s : Same H H') (h : RowsIn K H p ys) : RowsIn K H' p ys := h.elim (fun z => .inl (s.seq z)) fun z => .inr (sameT s z)
theorem lk1 {a : Addr} : ([("held", V.ref a)] : List (Str × V)).lookup ("held" : Str) = some (.ref a) := by
  show (putF "held" (.ref a) []).lookup ("held" : Str) = some (.ref a)
  rw [lookup_putF, if_pos rfl]
/-- what the walks ask of the two classes as the top has made them -/
structure CtxM (K : PySem.W.Frag) (mg : Str → Option Value) (CK CC fK fC : Addr) (mc : Value) : Prop where
  cK : Cls K CK
  cC : Cls K CC
  nK : NoAttr K CK "held"
  nC : NoAttr K CC "held"
  gK : mg "KnownRows" = some (.ref CK)
  gC : mg "Context" = some (.ref CC)
  kK : Mk K CK fK
  kC : Mk K CC fC
  il : PySem.W.kitOne K (.type "list") (.ref CK) = some false
  it : PySem.W.kitOne K (.type "tuple") (.ref CK) = some false
  ik : PySem.W.kitOne K (.ref CK) (.ref CK) = some true
  ha : PySem.W.findIn K (.ref CK) "__class__" = some (some (.builtin "object.__class__"))
  hn : PySem.W.specialIn K (.builtin "object.__class__") "__get__" = some (some (.builtin "getset_descriptor.__get__"))
  tk : PySem.W.takesIn K (.builtin "object.__class__") = some true
  mr : PySem.W.mroIn K CK (.type "object") = some true
  rd : ClX.CRead K CC mc
  mo : ∃ u, ClX.CVal K CC mc "MOST" (.int 40) u
  isi : mg "isinstance" = none
  len : mg "len" = none
  tuple : mg "tuple" = none
  enum : mg "enumerate" = none
end Ag
namespace Ag
open PySem PySem.Spec PyProof.Rows L2
/-! ### the least places -/
/-- the first place from a on at which r stands -/
structure Fit (xs : List Row) (r : Row) (a k : Nat) : Prop where
  le : a ≤ k
  at_ : xs[k]? = some r
  no : ∀ j, a ≤ j → j < k → xs[j]? ≠ some r
inductive Gr (xs : List Row) : List Row → Nat → Option (List Nat) → Prop
  | nil (a : Nat) : Gr xs [] a (some [])
  | none {r : Row} {rs : List Row} {a : Nat} (h : ∀ j, a ≤ j → xs[j]? ≠ some r) : Gr xs (r :: rs) a none
  | some {r : Row} {rs : List Row} {a k : Nat} {o : Option (List Nat)} (h : Fit xs r a k) (t : Gr xs rs (k + 1) o) : Gr xs (r :: rs) a (o.map (k :: ·))
theorem pre_map (o : Option (List Nat)) (ps : List Nat) (k : Nat) : (o.map (k :: ·)).map (ps ++ ·) = o.map ((ps ++ [k]) ++ ·) := by
  cases o with
  | none => rfl
  | some l => simp
end Ag
namespace Ag
open PySem PySem.Spec PyProof.Rows L2
theorem lk0 {m : Str} {a : Addr} (h : ¬ m = "held") : ([("held", V.ref a)] : List (Str × V)).lookup m = none := by
  show (putF "held" (.ref a) []).lookup m = none
  rw [lookup_putF, if_neg h]
  rfl
end Ag

namespace Ag
open PySem PySem.Spec PyProof.Rows L2
/-! ### o.m(k = v, ..), nothing by position -/
def tMethW (C : Addr) (m : Str) (n : Nat) (sp : Sp) (gV : List V → List V → List V) (E : XK) (ta : TE) (tk : TA) : TE := fun σ H Q => ta σ H fun x H1 => ∃ a dx fs, x = .ref a ∧ H1 a = some (.ins C dx fs) ∧ fs.lookup m = none ∧
  tk σ H1 fun zs H2 => zs.length = n ∧ sp (gV [x] zs) H2 Q E
theorem pe_methW {X : Cx} {CX : CXT} {k : Nat} {f C : Addr} {fd : FuncData} {ps ks : List Str} {sp : Sp} {E : XK} {m : Str} {apos pos : Pos} {o : Expr} {kws : List Keyword} {ta : TE} {tk : TA} {g : List Value → List Value → List Value} {gV : List V → List V → List V} {pl : Sem Bool}
    (he : PE X o ta) (c : Cls X.K C) (hm : Meth X.K C m f) (F : FnOk X.prog X.w X.K X.mg X.base CX k f fd ps sp) (hr : Room k X.A) (hb : KBn X.K fd ps 1 ks g gV) (hx : Passes CX X E) (hkw : PK X kws tk)
    (hall : (backToKw pos (keywordEach kws X.env)).all (·.1.isSome) = true := by rfl) (hks : (backToKw pos (keywordEach kws X.env)).filterMap (·.1) = ks := by rfl)
    (hpl : ((backTo pos (starEach [] X.env)).any (·.1) || (backToKw pos (keywordEach kws X.env)).any (·.1.isNone)) = false := by rfl)
    (ht : eval (.Call (.Attribute o m apos) [] kws pos) X.env = (do
      let ov ← eval o X.env
      standAt apos.atName
      let (f, first) ← holding [ov] (getMethod ov m pl)
      callWith pos f first (backTo pos (starEach [] X.env)) (backToKw pos (keywordEach kws X.env))) := by rfl) :
    PE X (.Call (.Attribute o m apos) [] kws pos) (tMethW C m ks.length sp gV E ta tk) := by
  refine ⟨fun pins s σ H Q I h => ?_⟩
  refine PySem.W.methodCall_KW (pl := pl) (thn (he.run pins s σ H _ I h) fun u s1 ⟨x, H1, I1, rx, a, dx, fs, ex, ea, l, q⟩ => ?_) ht
  subst ex
  obtain rfl : u = Value.ref a := rx
  refine getmeth_ok I1 ea c hm l ?_
  refine PySem.W.callWith_KW0 (first := [.ref a]) (h₀ := X.base) I.ok.mod.kin hm.kp hall ?_ hpl
  refine thn (hkw.run pos pins s1 σ H1 _ I1 q) fun ws s2 ⟨zs, H2, I2, rz, l2, q2⟩ => ⟨I2.kIn, ?_⟩
  rw [hks]
  exact run_fnN (us := [.ref a]) (vs := [.ref a]) F hr hb hx I2 (.cons rfl .nil) rz rfl l2 q2
/-! ### min of a list of lists of numbers -/
theorem lay_ints : ∀ b : List Int, PyData.canLayAll0 (b.map PyData.int) = true
  | [] => by simp only [List.map_nil, PyData.canLayAll0]
  | z :: zs => by simp only [List.map_cons, PyData.canLayAll0, PyData.canLay0, lay_ints zs, Bool.and_self]
open PySem.W in
theorem call_minLL {X : Cx} (hh : X.A.handled = none) (hu : X.A.units + 64 < cLine) : CallR X (.builtin "min") (fun xs H Q => ∃ (l : Addr) (vs : List V) (a : List Int) (r : List (List Int)), xs = [.ref l] ∧ SqL X.K H l vs ∧ DpAll X.K H vs ((a :: r).map Datum.toD) ∧
    ∀ v, v ∈ vs → Dp X.K H v (Datum.toD (minOf a r)) → Q v H) := by
  intro pins s σ H xs us Q I rr h
  obtain ⟨l, vs, a, r, rfl, hq, hd, q⟩ := h
  obtain ⟨u, rfl, rx⟩ := vals1 rr
  cases rx
  obtain ⟨its, rv, p, hz⟩ := I.list hq
  obtain ⟨as, ra⟩ := Dp.readsAll I _ vs its hd rv
  refine min_list_data hh p.isList ra (alikeAll_datum (a :: r)) (room_all (depthAll_map (a :: r)) ?_) fun i v h' tk bs hi rd hk => ?_
  · show X.A.units + 1 + Datum.depth (List Int) < cLine
    have e : Datum.depth (List Int) = 1 := rfl
    omega
  · have hi' : its[i]? = some v := by simpa using hi
    have hl := (List.getElem?_eq_some_iff.mp hi').1
    have hl2 : i < vs.length := by rw [rv.length]; exact hl
    obtain ⟨x, ex⟩ : ∃ x, vs[i]? = some x := ⟨_, List.getElem?_eq_getElem hl2⟩
    obtain ⟨u, hu', ru⟩ := rv.get ex
    rw [hi'] at hu'
    cases hu'
    obtain ⟨d, ed, hdx⟩ := dpall_get hd ex
    obtain ⟨as', rs⟩ := Dp.reads I d x v hdx ru
    have lay : d.canLay0 = true := by
      have hm : d ∈ (a :: r).map Datum.toD := List.mem_of_getElem? ed
      obtain ⟨b, _, rfl⟩ := List.mem_map.mp hm
      show PyData.canLay0 (.list (b.map PyData.int)) = true
      simp only [PyData.canLay0]
      exact lay_ints b
    have e1 : d = minD (Datum.toD a) (r.map Datum.toD) := SeqAt.Reads.unique d _ v as' bs lay (reads_keeps hk rs) rd
    rw [minD_map] at e1
    exact ⟨x, H, I.kept (t' := tk) hk, ru, q x (List.mem_of_getElem? ex) (e1 ▸ hdx)⟩
end Ag

namespace Ag
open PySem PySem.Spec PySem.W PyProof.Rows L2
/-! ### all ascending places -/
def Wy (xs : List Row) : List Row → Nat → List Nat → Prop
  | [], _, [] => True
  | r :: rs, a, k :: w => a ≤ k ∧ xs[k]? = some r ∧ Wy xs rs (k + 1) w
  | _, _, _ => False
theorem Wy.mono {xs : List Row} : ∀ {rs : List Row} {a b : Nat} {w : List Nat}, Wy xs rs a w → b ≤ a → Wy xs rs b w
  | [], a, b, [], _, _ => trivial
  | [], a, b, k :: w, h, _ => h.elim
  | r :: rs, a, b, [], h, _ => h.elim
  | r :: rs, a, b, k :: w, h, e => ⟨Nat.le_trans e h.1, h.2.1, h.2.2⟩
def zs_ (w : List Nat) : List Int := w.map fun n : Nat => (n : Int)
theorem zs_inj : ∀ {a b : List Nat}, zs_ a = zs_ b → a = b
  | [], [], _ => rfl
  | [], _ :: _, h => by simp [zs_] at h
  | _ :: _, [], h => by simp [zs_] at h
  | x :: xs, y :: ys, h => by
    simp only [zs_, List.map_cons, List.cons.injEq] at h
    rw [zs_inj (a := xs) (b := ys) h.2]
    have : x = y := by omega
    rw [this]
theorem ltI {a b : Int} : DatumOrd.lt a b = decide (a < b) := rfl
theorem listLt_self : ∀ a : List Int, listLt a a = false
  | [] => rfl
  | x :: xs => by rw [listLt, if_pos rfl]; exact listLt_self xs
theorem listLt_anti : ∀ {a b : List Int}, listLt a b = false → listLt b a = false → a = b
  | [], [], _, _ => rfl
  | [], _ :: _, h, _ => by simp [listLt] at h
  | _ :: _, [], _, h => by simp [listLt] at h
  | x :: xs, y :: ys, h, g => by
    rw [listLt] at h g
    by_cases e : x = y
    · subst e
      rw [if_pos rfl] at h g
      rw [listLt_anti h g]
    · rw [if_neg e, ltI] at h
      rw [if_neg (Ne.symm e), ltI] at g
      have h := of_decide_eq_false h
      have g := of_decide_eq_false g
      omega
theorem gr_ways {xs : List Row} {rs : List Row} {a : Nat} {o : Option (List Nat)} (h : Gr xs rs a o) : (match o with | none => ∀ w, ¬ Wy xs rs a w | some ps => Wy xs rs a ps ∧ ∀ w, Wy xs rs a w → listLt (zs_ w) (zs_ ps) = false) := by
  induction h with
  | nil a =>
    refine ⟨trivial, fun w hw => ?_⟩
    cases w with
    | nil => rfl
    | cons k w => exact hw.elim
  | none h =>
    intro w hw
    cases w with
    | nil => exact hw.elim
    | cons k w => exact h k hw.1 hw.2.1
  | @some r rs a k o h t ih =>
    have first : ∀ k' w, Wy xs (r :: rs) a (k' :: w) → k ≤ k' := fun k' w hw => by
      by_cases e : k ≤ k'
      · exact e
      · exact absurd hw.2.1 (h.no k' hw.1 (by omega))
    cases o with
    | none =>
      show ∀ w, ¬ Wy xs (r :: rs) a w
      intro w hw
      cases w with
      | nil => exact hw.elim
      | cons k' w => exact ih w (hw.2.2.mono (by have := first k' w hw; omega))
    | some ps =>
      refine ⟨⟨h.le, h.at_, ih.1⟩, fun w hw => ?_⟩
      cases w with
      | nil => exact hw.elim
      | cons k' w =>
        have e := first k' w hw
        show listLt ((k' : Int) :: zs_ w) ((k : Int) :: zs_ ps) = false
        rw [listLt]
        by_cases e2 : (k' : Int) = (k : Int)
        · rw [if_pos e2]
          have : k' = k := by omega
          subst this
          exact ih.2 w hw.2.2
        · rw [if_neg e2, ltI]
          exact decide_eq_false (by omega)
theorem min_fold {ps : List Int} : ∀ (l : List (List Int)) (acc : List Int), (acc = ps ∨ ps ∈ l) → (∀ w ∈ acc :: l, listLt w ps = false) → l.foldl (fun a y => if DatumOrd.lt y a = true then y else a) acc = ps
  | [], acc, h, _ => by
    rcases h with h | h
    · exact h
    · cases h
  | y :: l, acc, h, hw => by
    rw [List.foldl_cons]
    have hl : ∀ w ∈ l, listLt w ps = false := fun w z => hw w (by simp [z])
    have hy : listLt y ps = false := hw y (by simp)
    have ha : listLt acc ps = false := hw acc (by simp)
    by_cases e : DatumOrd.lt y acc = true
    · rw [if_pos e]
      refine min_fold l y ?_ (fun w z => ?_)
      · rcases h with rfl | h
        · have : listLt y acc = true := e
          rw [hy] at this
          cases this
        · rcases List.mem_cons.mp h with rfl | h
          · exact .inl rfl
          · exact .inr h
      · rcases List.mem_cons.mp z with rfl | z
        · exact hy
        · exact hl w z
    · rw [if_neg e]
      refine min_fold l acc ?_ (fun w z => ?_)
      · rcases h with rfl | h
        · exact .inl rfl
        · rcases List.mem_cons.mp h with rfl | h
          · exact .inl (listLt_anti ha (Bool.eq_false_iff.mpr e))
          · exact .inr h
      · rcases List.mem_cons.mp z with rfl | z
        · exact ha
        · exact hl w z
theorem min_is {ps a : List Int} {r : List (List Int)} (h : ps ∈ a :: r) (hw : ∀ w ∈ a :: r, listLt w ps = false) : minOf a r = ps :=
  min_fold r a ((List.mem_cons.mp h).imp Eq.symm id) hw
/-- the next place that may be taken -/
def lo (w : List Nat) : Nat := match w.getLast? with | none => 0 | some k => k + 1
theorem lo_snoc (w : List Nat) (k : Nat) : lo (w ++ [k]) = k + 1 := by simp [lo]
def ext (xs : List Row) (r : Row) (w : List Nat) : List (List Nat) := ((List.range' (lo w) (xs.length - lo w)).filter fun k => decide (xs[k]? = some r)).map fun k => w ++ [k]
def ways (xs : List Row) : List Row → List (List Nat) → List (List Nat)
  | [], W => W
  | r :: rs, W => ways xs rs (W.flatMap (ext xs r))
theorem mem_ext {xs : List Row} {r : Row} {w u : List Nat} : u ∈ ext xs r w ↔ ∃ k, lo w ≤ k ∧ xs[k]? = some r ∧ u = w ++ [k] := by
  unfold ext
  rw [List.mem_map]
  constructor
  · rintro ⟨k, hk, rfl⟩
    rw [List.mem_filter, List.mem_range'_1] at hk
    exact ⟨k, hk.1.1, of_decide_eq_true hk.2, rfl⟩
  · rintro ⟨k, h1, h2, rfl⟩
    have h3 := (List.getElem?_eq_some_iff.mp h2).1
    exact ⟨k, by rw [List.mem_filter, List.mem_range'_1]; exact ⟨⟨h1, by omega⟩, decide_eq_true h2⟩, rfl⟩
theorem mem_ways {xs : List Row} : ∀ {rs : List Row} {W : List (List Nat)} {w : List Nat}, w ∈ ways xs rs W ↔ ∃ u ∈ W, ∃ t, w = u ++ t ∧ Wy xs rs (lo u) t
  | [], W, w => by
    constructor
    · intro h
      exact ⟨w, h, [], by simp, trivial⟩
    · rintro ⟨u, hu, t, rfl, ht⟩
      cases t with
      | nil => rw [List.append_nil]; exact hu
      | cons k t => exact ht.elim
  | r :: rs, W, w => by
    show w ∈ ways xs rs (W.flatMap (ext xs r)) ↔ _
    rw [mem_ways]
    constructor
    · rintro ⟨u, hu, t, rfl, ht⟩
      obtain ⟨v, hv, hu⟩ := List.mem_flatMap.mp hu
      obtain ⟨k, h1, h2, rfl⟩ := mem_ext.mp hu
      rw [lo_snoc] at ht
      exact ⟨v, hv, k :: t, by simp, h1, h2, ht⟩
    · rintro ⟨u, hu, t, rfl, ht⟩
      cases t with
      | nil => exact ht.elim
      | cons k t =>
        exact ⟨u ++ [k], List.mem_flatMap.mpr ⟨u, hu, mem_ext.mpr ⟨k, ht.1, ht.2.1, rfl⟩⟩, t, by simp, by rw [lo_snoc]; exact ht.2.2⟩
theorem ext_len (xs : List Row) (r : Row) (w : List Nat) : (ext xs r w).length ≤ xs.length := by
  unfold ext
  rw [List.length_map]
  refine Nat.le_trans (List.length_filter_le _ _) ?_
  rw [List.length_range']
  omega
theorem step_len {xs : List Row} {r : Row} : ∀ W : List (List Nat), (W.flatMap (ext xs r)).length ≤ xs.length * W.length
  | [] => by simp
  | w :: W => by
    rw [List.flatMap_cons, List.length_append, List.length_cons, Nat.mul_succ]
    have := ext_len xs r w
    have := step_len (xs := xs) (r := r) W
    omega
/-- what the law's own search finds is what the program finds -/
theorem gr_min {xs rs : List Row} {o : Option (List Nat)} (h : Gr xs rs 0 o) : match o with | none => ways xs rs [[]] = [] | some ps => ps ∈ ways xs rs [[]] ∧ ∀ w ∈ ways xs rs [[]], listLt (zs_ w) (zs_ ps) = false := by
  have g := gr_ways h
  have iff : ∀ w, w ∈ ways xs rs [[]] ↔ Wy xs rs 0 w := fun w => by
    rw [mem_ways]
    constructor
    · rintro ⟨u, hu, t, rfl, ht⟩
      rw [List.mem_singleton] at hu
      subst hu
      exact ht
    · intro hw
      exact ⟨[], by simp, w, by simp, hw⟩
  cases o with
  | none =>
    show ways xs rs [[]] = []
    cases e : ways xs rs [[]] with
    | nil => rfl
    | cons w W => exact absurd ((iff w).mp (by rw [e]; simp)) (g w)
  | some ps => exact ⟨(iff ps).mpr g.1, fun w hw => g.2 w ((iff w).mp hw)⟩
end Ag
namespace Ag
open PySem PySem.Spec PySem.W PyProof.Rows L2
/-! ### lists of places as data -/
def dW (w : List Nat) : PyData := .list ((zs_ w).map PyData.int)
theorem dW_eq (w : List Nat) : dW w = Datum.toD (zs_ w) := rfl
theorem dI : ∀ b : List Int, PyData.depthAll (b.map PyData.int) = 0
  | [] => rfl
  | z :: zs => by
    show max 0 (PyData.depthAll (zs.map PyData.int)) = 0
    rw [dI zs]
    rfl
theorem shaped_dW (w : List Nat) : SeqAt.shaped (dW w) = true := by
  unfold SeqAt.shaped
  rw [Bool.and_eq_true]
  refine ⟨?_, ?_⟩
  · show PyData.canLayAll0 ((zs_ w).map PyData.int) = true
    exact lay_ints _
  · show decide (PyData.depthAll ((zs_ w).map PyData.int) + 1 ≤ 64) = true
    rw [dI]
    decide
theorem lay_W : ∀ W : List (List Nat), PyData.canLayAll0 (W.map dW) = true ∧ PyData.depthAll (W.map dW) ≤ 1
  | [] => ⟨rfl, Nat.zero_le _⟩
  | w :: W => by
    obtain ⟨h1, h2⟩ := lay_W W
    refine ⟨?_, ?_⟩
    · show (PyData.canLayAll0 ((zs_ w).map PyData.int) && PyData.canLayAll0 (W.map dW)) = true
      rw [lay_ints, h1]
      rfl
    · show max (PyData.depthAll ((zs_ w).map PyData.int) + 1) (PyData.depthAll (W.map dW)) ≤ 1
      rw [dI]
      omega
theorem shaped_W (W : List (List Nat)) : SeqAt.shaped (.list (W.map dW)) = true := by
  unfold SeqAt.shaped
  rw [Bool.and_eq_true]
  refine ⟨(lay_W W).1, ?_⟩
  show decide (PyData.depthAll (W.map dW) + 1 ≤ 64) = true
  exact decide_eq_true (by have := (lay_W W).2; omega)
theorem shaped_nil : SeqAt.shaped (.list []) = true := shaped_W []
theorem eqv_w0 (w : List Nat) : PyData.eqv (dW w) (.list []) = decide (w = []) := by
  cases w with
  | nil => rfl
  | cons k w => simp [dW, zs_, PyData.eqv, PyData.eqvAll]
theorem eqv_W0 (W : List (List Nat)) : PyData.eqv (.list (W.map dW)) (.list []) = decide (W = []) := by
  cases W with
  | nil => rfl
  | cons k w => simp [PyData.eqv, PyData.eqvAll]
def WP (H : Hp) (v : V) (w : List Nat) : Prop := ∃ p, v = .ref p ∧ H p = some (.lst (w.map fun n : Nat => V.int (n : Int)))
theorem WP.same {H H' : Hp} {v : V} {w : List Nat} (s : Same H H') (h : WP H v w) : WP H' v w := by
  obtain ⟨p, h1, h2⟩ := h
  exact ⟨p, h1, s _ _ h2⟩
def WaysAt (H : Hp) (L : Addr) (W : List (List Nat)) : Prop := ∃ vs, H L = some (.lst vs) ∧ Paired (WP H) vs W
theorem WaysAt.same {H H' : Hp} {L : Addr} {W : List (List Nat)} (s : Same H H') (h : WaysAt H L W) : WaysAt H' L W := by
  obtain ⟨vs, h1, h2⟩ := h
  exact ⟨vs, s _ _ h1, paired_imp (fun _ _ z => z.same s) h2⟩
theorem paired_app {α β : Type} {R : α → β → Prop} : ∀ {l l' : List α} {m m' : List β}, Paired R l m → Paired R l' m' → Paired R (l ++ l') (m ++ m')
  | _, _, _, _, .nil, h => h
  | _, _, _, _, .cons z zs, h => .cons z (paired_app zs h)
theorem paired_get {α β : Type} {R : α → β → Prop} : ∀ {l : List α} {m : List β}, Paired R l m → ∀ {i : Nat} {v : α}, l[i]? = some v → ∃ r, m[i]? = some r ∧ R v r
  | _, _, .nil, i, v, h => by simp at h
  | _, _, .cons z zs, 0, v, h => by
    simp at h
    subst h
    exact ⟨_, rfl, z⟩
  | _, _, .cons z zs, i + 1, v, h => by
    simp at h
    obtain ⟨r, e, q⟩ := paired_get zs h
    exact ⟨r, by simpa using e, q⟩
/-- the place taken away -/
def del (H : Hp) (D : Addr) : Hp := fun a => if a = D then none else H a
theorem del_upd (H : Hp) (D : Addr) (o : HO) : del (upd H D o) D = del H D := by
  funext a
  unfold del
  by_cases h : a = D
  · rw [if_pos h, if_pos h]
  · rw [if_neg h, if_neg h, upd_ne h]
theorem del_ne {H : Hp} {D a : Addr} (h : a ≠ D) : del H D a = H a := if_neg h
theorem del_same (H : Hp) (D : Addr) : Same (del H D) H := fun a o e => by
  by_cases h : a = D
  · subst h
    simp [del] at e
  · rw [del_ne h] at e
    exact e
theorem del_mono {H H' : Hp} {D : Addr} (s : Same H H') : Same (del H D) (del H' D) := fun a o e => by
  by_cases h : a = D
  · subst h
    simp [del] at e
  · rw [del_ne h] at e ⊢
    exact s _ _ e
theorem ints_dp {K : PySem.W.Frag} {H : Hp} : ∀ (w : List Nat), DpAll K H (w.map fun n : Nat => V.int (n : Int)) ((zs_ w).map PyData.int)
  | [] => .nil
  | n :: w => .cons (.int _) (ints_dp w)
theorem WP.dp {K : PySem.W.Frag} {H : Hp} {v : V} {w : List Nat} (h : WP H v w) : Dp K H v (dW w) := by
  obtain ⟨p, rfl, h⟩ := h
  exact .lst (SqL.of h) (ints_dp w)
theorem ways_dp {K : PySem.W.Frag} {H : Hp} : ∀ {vs : List V} {W : List (List Nat)}, Paired (WP H) vs W → DpAll K H vs (W.map dW)
  | _, _, .nil => .nil
  | _, _, .cons z zs => .cons z.dp (ways_dp zs)
theorem ways_snoc {xs : List Row} {r : Row} : ∀ {rs : List Row} {W : List (List Nat)}, ways xs (rs ++ [r]) W = (ways xs rs W).flatMap (ext xs r)
  | [], W => rfl
  | s :: rs, W => by
    show ways xs (rs ++ [r]) (W.flatMap (ext xs s)) = (ways xs rs (W.flatMap (ext xs s))).flatMap (ext xs r)
    exact ways_snoc
theorem ways_len {xs rs : List Row} (hx : xs.length ≤ 6) : ∀ (i : Nat), (ways xs (rs.take i) [[]]).length ≤ 6 ^ i := by
  intro i
  induction i with
  | zero => simp [ways]
  | succ i ih =>
    by_cases h : i < rs.length
    · rw [List.take_succ_eq_append_getElem h, ways_snoc]
      have := step_len (xs := xs) (r := rs[i]) (ways xs (rs.take i) [[]])
      calc _ ≤ xs.length * (ways xs (rs.take i) [[]]).length := this
        _ ≤ 6 * 6 ^ i := Nat.mul_le_mul hx ih
        _ = 6 ^ (i + 1) := by rw [Nat.pow_succ]; omega
    · rw [List.take_of_length_le (by omega)]
      rw [List.take_of_length_le (by omega)] at ih
      have : 6 ^ i ≤ 6 ^ (i + 1) := Nat.pow_le_pow_right (by omega) (by omega)
      omega
def extN (xs : List Row) (r : Row) (w : List Nat) (i : Nat) : List (List Nat) := ((List.range' (lo w) i).filter fun k => decide (xs[k]? = some r)).map fun k => w ++ [k]
theorem extN_succ {xs : List Row} {r : Row} {w : List Nat} {i : Nat} : extN xs r w (i + 1) = extN xs r w i ++ if xs[lo w + i]? = some r then [w ++ [lo w + i]] else [] := by
  unfold extN
  rw [List.range'_1_concat, List.filter_append, List.map_append]
  by_cases h : xs[lo w + i]? = some r
  · rw [if_pos h]
    simp [h]
  · rw [if_neg h]
    simp [h]
theorem ext_N (xs : List Row) (r : Row) (w : List Nat) : ext xs r w = extN xs r w (xs.length - lo w) := rfl
theorem extN_len {xs : List Row} {r : Row} {w : List Nat} {i : Nat} : (extN xs r w i).length ≤ i := by
  unfold extN
  rw [List.length_map]
  exact Nat.le_trans (List.length_filter_le _ _) (by rw [List.length_range']; exact Nat.le_refl _)
theorem wy_self {xs : List Row} : ∀ (n a : Nat), a + n = xs.length → Wy xs (xs.drop a) a (List.range' a n)
  | 0, a, h => by
    rw [List.drop_of_length_le (by omega)]
    trivial
  | n + 1, a, h => by
    rw [List.drop_eq_getElem_cons (by omega), List.range'_succ]
    exact ⟨Nat.le_refl _, List.getElem?_eq_getElem (by omega), wy_self n (a + 1) (by omega)⟩
theorem gr_self {xs : List Row} {o : Option (List Nat)} (h : Gr xs xs 0 o) : o.isSome = true := by
  have g := gr_ways h
  cases o with
  | none => exact absurd (wy_self (xs := xs) xs.length 0 (by omega)) (g _)
  | some ps => rfl
theorem gr_nil {xs : List Row} {o : Option (List Nat)} {a : Nat} (h : Gr xs [] a o) : o = some [] := by
  cases h
  rfl
theorem paired_take {α β : Type} {R : α → β → Prop} : ∀ {l : List α} {m : List β} (n : Nat), Paired R l m → Paired R (l.take n) (m.take n)
  | _, _, 0, _ => by simp only [List.take_zero]; exact .nil
  | _, _, n + 1, .nil => .nil
  | _, _, n + 1, .cons z zs => .cons z (paired_take n zs)
theorem paired_drop {α β : Type} {R : α → β → Prop} : ∀ {l : List α} {m : List β} (n : Nat), Paired R l m → Paired R (l.drop n) (m.drop n)
  | _, _, 0, h => h
  | _, _, n + 1, .nil => .nil
  | _, _, n + 1, .cons z zs => paired_drop n zs
end Ag
namespace Ag
open PySem PySem.Spec PySem.W PyProof.Rows L2
theorem wy_lt {xs : List Row} : ∀ {rs : List Row} {a : Nat} {w : List Nat}, Wy xs rs a w → ∀ k ∈ w, k < xs.length
  | [], a, [], _, k, hk => by cases hk
  | [], a, _ :: _, h, k, hk => h.elim
  | r :: rs, a, [], h, k, hk => by cases hk
  | r :: rs, a, k' :: w, h, k, hk => by
    rcases List.mem_cons.mp hk with rfl | hk
    · exact (List.getElem?_eq_some_iff.mp h.2.1).1
    · exact wy_lt h.2.2 k hk
theorem ways_lo {xs rs : List Row} {w : List Nat} (h : w ∈ ways xs rs [[]]) : lo w ≤ xs.length := by
  obtain ⟨u, hu, t, rfl, ht⟩ := mem_ways.mp h
  rw [List.mem_singleton] at hu
  subst hu
  rw [List.nil_append]
  unfold lo
  split
  · omega
  · next k e => exact wy_lt ht k (List.mem_of_getLast? e)
theorem lo_at {w : List Nat} (h : w ≠ []) : ∃ k, w[w.length - 1]? = some k ∧ lo w = k + 1 := by
  unfold lo
  rw [List.getLast?_eq_getElem?]
  cases e : w[w.length - 1]? with
  | none =>
    rw [List.getElem?_eq_none_iff] at e
    have : 0 < w.length := List.length_pos_iff.mpr h
    omega
  | some k => exact ⟨k, rfl, rfl⟩
theorem flat_take {α β : Type} {f : α → List β} {l : List α} {i : Nat} {x : α} (h : l[i]? = some x) : (l.take (i + 1)).flatMap f = (l.take i).flatMap f ++ f x := by
  obtain ⟨hi, e⟩ := List.getElem?_eq_some_iff.mp h
  rw [List.take_succ_eq_append_getElem hi, List.flatMap_append, e]
  simp
end Ag
namespace Ag
open PySem PySem.Spec PySem.W PyProof.Rows L2
theorem wy_len {xs : List Row} : ∀ {rs : List Row} {a : Nat} {w : List Nat}, Wy xs rs a w → w.length = rs.length
  | [], a, [], _ => rfl
  | [], a, _ :: _, h => h.elim
  | r :: rs, a, [], h => h.elim
  | r :: rs, a, k' :: w, h => by
    rw [List.length_cons, List.length_cons, wy_len h.2.2]
theorem ways_wl {xs rs : List Row} {w : List Nat} (h : w ∈ ways xs rs [[]]) : w.length = rs.length := by
  obtain ⟨u, hu, t, rfl, ht⟩ := mem_ways.mp h
  rw [List.mem_singleton] at hu
  subst hu
  rw [List.nil_append]
  exact wy_len ht
end Ag
namespace Ag
open PySem PySem.Spec PySem.W PyProof.Rows L2
theorem gr_fun {xs rs : List Row} {o o' : Option (List Nat)} (h : Gr xs rs 0 o) (h' : Gr xs rs 0 o') : o = o' := by
  have g := gr_min h
  have g' := gr_min h'
  cases o with
  | none =>
    cases o' with
    | none => rfl
    | some ps =>
      have e : ways xs rs [[]] = [] := g
      rw [e] at g'
      cases g'.1
  | some ps =>
    cases o' with
    | none =>
      have e : ways xs rs [[]] = [] := g'
      rw [e] at g
      cases g.1
    | some ps' =>
      have := listLt_anti (g'.2 ps g.1) (g.2 ps' g'.1)
      rw [zs_inj this]
def dd : Option (List Nat) → PyData
  | none => .none
  | some ps => dW ps
theorem dd_some {K : PySem.W.Frag} {H : Hp} {v : V} : ∀ {o : Option (List Nat)}, Dp K H v (dd o) → (!decide (v = .non)) = o.isSome
  | none, h => by
    cases h
    rfl
  | some ps, h => by
    cases h
    rfl
theorem dd_of {K : PySem.W.Frag} {H : Hp} {v : V} : ∀ {o : Option (List Nat)}, (match o with | none => v = .non | some ps => ∃ p, v = .ref p ∧ H p = some (.lst (ps.map fun n : Nat => V.int (n : Int)))) → Dp K H v (dd o)
  | none, h => by
    cases h
    exact .non
  | some ps, h => WP.dp h
theorem oka_dd {xs rs : List Row} {o : Option (List Nat)} (h : Gr xs rs 0 o) (hl : rs.length ≤ 40) : oka 5 (dd o) = true := by
  cases o with
  | none => rfl
  | some ps =>
    have l := ways_wl (gr_min h).1
    show (decide (((zs_ ps).map PyData.int).length ≤ 1000) && ((zs_ ps).map PyData.int).all (oka 4)) = true
    rw [Bool.and_eq_true]
    refine ⟨decide_eq_true (by rw [List.length_map]; unfold zs_; rw [List.length_map]; omega), ?_⟩
    rw [List.all_eq_true]
    intro x hx
    obtain ⟨z, _, rfl⟩ := List.mem_map.mp hx
    rfl
theorem made0 {H : Hp} {x dx C : Addr} (n1 : H x = none) (n2 : H dx = none) : Same H (upd (upd H dx (.own x)) x (.ins C dx [])) := fun c o e => by
  rw [upd_ne (ne_of_none e n1), upd_ne (ne_of_none e n2)]
  exact e
theorem made1 {H H2 : Hp} {x dx C : Addr} (n1 : H x = none) (n2 : H dx = none) (k : Kp x (upd (upd H dx (.own x)) x (.ins C dx [])) H2) : Same H H2 := fun c o e => k c o (made0 n1 n2 c o e) (ne_of_none e n1)
end Ag

namespace Ag
open PySem PySem.Spec PyProof.Rows L2
/-! ### a own operator on two instances of one class -/
theorem op_own {X : Cx} {CX : CXT} {k : Nat} {C g : Addr} {fd : FuncData} {ps : List Str} {sp : Sp} {E : XK} {op : Operator} (c : PySem.W.selfFirst X.K C = true) (hs : PySem.W.findIn X.K (.ref C) (PySem.dunder op.info.2) = some (some (.ref g))) (hf : PySem.W.isFn X.K (.ref g) = true)
    (F : FnOk X.prog X.w X.K X.mg X.base CX k g fd ps sp) (hr : Room k X.A) (hb : Binds X.K fd ps []) (hx : Passes CX X E) :
    OpR X (binaryOp op) (fun x y H Q => ∃ a b dx dy fs gs, x = .ref a ∧ y = .ref b ∧ H a = some (.ins C dx fs) ∧ H b = some (.ins C dy gs) ∧ sp [.ref a, .ref b] H Q E) := by
  rintro pins s σ H x y v u Q I rx ry ⟨a, b, dx, dy, fs, gs, rfl, rfl, ea, eb, q⟩
  cases rx
  cases ry
  obtain ⟨mA, O, _⟩ := ins_get I.hok ea
  obtain ⟨od, J, _⟩ := O.look
  obtain ⟨mB, O', _⟩ := ins_get I.hok eb
  obtain ⟨od', J', _⟩ := O'.look
  obtain ⟨m, hF⟩ := I.fr
  refine PySem.W.binop_K hF I.ok.mod.kin J J'.type c hs hf ?_
  exact thn (run_fn (us := [.ref a, .ref b]) (vs := [.ref a, .ref b]) F hr hb .nil hx I (.cons rfl (.cons rfl .nil)) q) fun v s' ⟨z, H', I', r, q'⟩ => SlX.cmpback r ⟨z, H', I', r, q'⟩
end Ag
namespace Ag
open PySem PySem.Spec PyProof.Rows L2
theorem catA_of {K : PySem.W.Frag} {H : Hp} {a b : Addr} {xs ys : List V} {Q : VK} (ha : SqT K H a xs) (hb : SqT K H b ys) (hz : xs.length + ys.length ≤ sizeLine) (h : ∀ p H', Same H H' → SqT K H' p (xs ++ ys) → Q (.ref p) H') : rCatA K (.ref a) (.ref b) H Q := by
  refine ⟨a, b, xs, ys, rfl, rfl, ha, hb, hz, fun e => ?_, fun e1 e2 => ?_, fun e1 e2 p np => ?_⟩
  · subst e
    exact h b H (.refl H) hb
  · subst e2
    exact h a H (.refl H) (by rw [List.append_nil]; exact ha)
  · exact h p _ (same_new np _) (SqT.of upd_same)
end Ag
namespace Ag
open PySem PySem.Spec PyProof.Rows L2
theorem slA_of {K : PySem.W.Frag} {H : Hp} {a : Addr} {xs zs : List V} {lo hi : Option Int} {Q : VK} (ha : SqT K H a xs) (e : cutV xs lo hi = zs) (h : ∀ p H', Same H H' → SqT K H' p zs → Q (.ref p) H') : rSlA K (.ref a) lo hi H Q := by
  refine ⟨a, xs, rfl, ha, fun w => ?_, fun w p np => ?_⟩
  · refine h a H (.refl H) ?_
    rw [← e]
    unfold cutV
    rw [w.1, w.2, List.drop_zero, Nat.sub_zero, List.take_length]
    exact ha
  · refine h p _ (same_new np _) ?_
    rw [← e]
    exact SqT.of upd_same
theorem cut_to {xs : List V} {n : Nat} (h : n ≤ xs.length) : cutV xs none (some (n : Int)) = xs.take n := by
  unfold cutV
  rw [HT.sIx_none, HT.sIx_nat, List.drop_zero, Nat.sub_zero, Nat.min_eq_left h]
theorem cut_from {xs : List V} {n : Nat} (h : n ≤ xs.length) : cutV xs (some (n : Int)) none = xs.drop n := by
  unfold cutV
  rw [HT.sIx_none, HT.sIx_nat, Nat.min_eq_left h]
  exact List.take_of_length_le (by rw [List.length_drop]; omega)
end Ag
namespace Ag
open PySem PySem.Spec PyProof.Rows L2
/-! ### what is left without some places -/
def keepV (ys : List V) (ps : List Nat) (i : Nat) : List V := ((List.range i).filter fun k => decide (k ∉ ps)).filterMap fun k => ys[k]?
theorem keepV_succ {ys : List V} {ps : List Nat} {i : Nat} {v : V} (h : ys[i]? = some v) : keepV ys ps (i + 1) = keepV ys ps i ++ if i ∈ ps then [] else [v] := by
  unfold keepV
  rw [List.range_succ, List.filter_append, List.filterMap_append]
  by_cases hp : i ∈ ps
  · rw [if_pos hp]
    simp [hp]
  · rw [if_neg hp]
    simp [hp, h]
theorem keepV_len {ys : List V} {ps : List Nat} {i : Nat} : (keepV ys ps i).length ≤ i := by
  unfold keepV
  refine Nat.le_trans (List.length_filterMap_le _ _) ?_
  refine Nat.le_trans (List.length_filter_le _ _) ?_
  rw [List.length_range]
  exact Nat.le_refl _
theorem inV_ints (k : Nat) : ∀ ps : List Nat, inV (.int (k : Int)) (ps.map fun n : Nat => V.int (n : Int)) = decide (k ∈ ps)
  | [] => by simp [inV]
  | p :: ps => by
    have ih := inV_ints k ps
    unfold inV at ih ⊢
    rw [List.map_cons, List.any_cons, ih]
    have e : eqV (.int (p : Int)) (.int (k : Int)) = decide (p = k) := by
      show ((p : Int) == (k : Int)) = decide (p = k)
      rw [Bool.eq_iff_iff, beq_iff_eq, decide_eq_true_eq]
      omega
    rw [e]
    by_cases h : p = k
    · simp [h]
    · simp [h, Ne.symm h]
theorem flat_ints (ps : List Nat) : (ps.map fun n : Nat => V.int (n : Int)).all flatV = true := by
  rw [List.all_eq_true]
  intro x hx
  obtain ⟨n, _, rfl⟩ := List.mem_map.mp hx
  rfl
end Ag
namespace Ag
open PySem PySem.Spec PyProof.Rows L2
/-- a method with *pv behind self -/
theorem fun_star {P : Program} {w : World} {K : PySem.W.Frag} {mg : Str → Option Value} {base : Heap} {x qual pv : Str} {st : Stmt} {f : Addr} {fd : FuncData} {N : List Str} {k : Nat} {sp : Sp} (F : Fun K x qual st f fd) (S : FnScope N ((["self"] : List Str) ++ [pv]) (defScope st))
    (hb : ∀ (kV doc pm : Value) (an : Option Addr) (cdv ct : Value) (us rest : List Value), us.length = (["self"] : List Str).length → bindArgs (PySem.W.fnOf x qual (defArgs st) (defBody st) (defScope st) .none kV doc pm an cdv ct) ⟨us ++ rest, []⟩ = (newTuple rest >>= fun t => pure ((["self"] : List Str).zip us ++ [(pv, t)])))
    (hbody : ∀ (cdv : Value) (A : Around) (outer : List Env) (s : Shared) (H : Hp) (vs : List V) (Q : VK) (E : XK), Room k (A.deeper (envOfC qual (defScope st) s.heap.objs.size f cdv)) → sp vs H Q E →
      ∃ t, PSs (cxOf CX0 P w K mg base N qual (defScope st) f cdv A outer s H E).nox (defBody st) t ∧ t { nx := fun _ H' => Q .non H', rt := Q } (start N vs) H) :
    FnR P w K mg base CX0 (k + 1) f (fun vs H Q E => ∃ ws rest, vs = ws ++ rest ∧ ws.length = 1 ∧ rest.length ≤ sizeLine ∧ ∀ p, H p = Option.none → sp (ws ++ [V.ref p]) (upd H p (.tup rest)) Q E) := by
  obtain ⟨oc, od, kV, doc, pm, an, cdv, ct, osl, rfl, lk, hcd⟩ := F.ex
  refine StX.fn_star (ps := (["self"] : List Str)) (pv := pv) lk hcd S StX.cxUp_none (hb kV doc pm an cdv ct) fun A outer s H vs Q E hr hsp => ?_
  obtain ⟨t, h, q⟩ := hbody cdv A outer s H vs Q E hr hsp
  exact ⟨t, h.nox, q⟩
end Ag
namespace Ag
open PySem PySem.Spec PyProof.Rows L2
theorem HeldAt.kp {C : Addr} {H H' : Hp} {b l x a : Addr} (k : Kp b H H') (g : Bag H b l) (h : HeldAt C H x a) : HeldAt C H' x a := by
  obtain ⟨dx, e⟩ := h
  obtain ⟨ns, at', big, seed, cnt, h1, _⟩ := g
  exact ⟨dx, k _ _ e (ne_of e h1 (by intro z; cases z))⟩
/-- rows as data -/
theorem rows_da {K : PySem.W.Frag} {H : Hp} : ∀ {vs : List V} {rs : List Row}, RowsAt K H vs rs → DaAll K H vs (rs.map rowD)
  | _, _, .nil => .nil
  | _, _, .cons z zs => .cons (Da_of z) (rows_da zs)
theorem rowsL_da {K : PySem.W.Frag} {H : Hp} {p : Addr} {vs : List V} {rs : List Row} (h : SqL K H p vs) (r : RowsAt K H vs rs) : Da K H (.ref p) (.list (rs.map rowD)) := .lst h (rows_da r)
theorem oka_row {ns ws : List (List Nat)} {r : Row} (n : Nat) (h : r.1 ∈ ns ∧ okF ws [] 3 r.2) : oka (n + 6) (rowD r) = true := by
  show (decide (2 ≤ 1000) && (oka (n + 5) (.str (SX.S r.1)) && (oka (n + 5) r.2.dat && true))) = true
  have e := okF_oka (n := n + 4) h.2 (by omega)
  rw [e]
  rfl
theorem oka_rows {ns ws : List (List Nat)} {rs : List Row} (n : Nat) (hl : rs.length ≤ 1000) (h : ∀ r ∈ rs, r.1 ∈ ns ∧ okF ws [] 3 r.2) : oka (n + 7) (.list (rs.map rowD)) = true := by
  show (decide ((rs.map rowD).length ≤ 1000) && (rs.map rowD).all (oka (n + 6))) = true
  rw [Bool.and_eq_true, List.all_eq_true]
  refine ⟨decide_eq_true (by rw [List.length_map]; exact hl), fun x hx => ?_⟩
  obtain ⟨r, hr, rfl⟩ := List.mem_map.mp hx
  exact oka_row n (h r hr)
end Ag

namespace Ag
open PySem PySem.Spec PyProof.Rows L2
/-! ### sets of texts, with what a walk over them asks of their tables -/
structure TabW (w : World) (t : SetTable) : Prop where
  up : Ris t.place.toList
  led : w.params.followText "set-order" = true ∨ t.led = true
def TxtSet (P : Program) (w : World) (h : Heap) (a : Addr) (D : List Str) : Prop :=
  ∃ ob ents ep tab, h.get? a = some ob ∧ ob.ExactSet ∧ ob.data = .set ents ep tab ∧ ElemsOf (strKind P w) ents.toList ∧ (∀ k, k ∈ D ↔ ∃ e ∈ ents.toList, (strKind P w).is k e.2 = true) ∧
    ents.size < scanBound ∧ tab.fits ents.size = true ∧ ents.size = D.length ∧ D.Nodup ∧ TabW w tab
theorem TxtSet.go {P : Program} {w : World} {h h' : Heap} {a : Addr} {D : List Str} (R : TxtSet P w h a D) (k : ∀ o, h.get? a = some o → h'.get? a = some o) : TxtSet P w h' a D := by
  obtain ⟨ob, ents, ep, tab, e, r⟩ := R
  exact ⟨ob, ents, ep, tab, k _ e, r⟩
section
variable {P : Program} {w : World} {A : Around} {E : Value → Shared → Prop} {s : Shared} {a : Addr} {D : List Str}
theorem ts_tail {gv : Bool → Sem Unit} (hgv : ∀ (b : Bool) (z : Shared) (Z : Unit → Shared → Prop), Z () z → wpAny (model P w) A (gv b) Z E z)
    {ob : Obj} {ents : Array (Int × Value)} {ep : Nat} {tab : SetTable} (hob : s.heap.get? a = some ob) (hx : ob.ExactSet) (hdat : ob.data = .set ents ep tab)
    {en : Array (Int × Value)} {tn : SetTable} (el : ElemsOf (strKind P w) en.toList) (mm : ∀ k, k ∈ D ↔ ∃ e ∈ en.toList, (strKind P w).is k e.2 = true) (hlt : en.size < scanBound) (hfit : tn.fits en.size = true) (hsz : en.size = D.length) (nd : D.Nodup) (tw : TabW w tn)
    {dm : Bool} {R : Option Bool → Shared → Prop} (fin : ∀ h', Heap.SameBut a s.heap h' → TxtSet P w h' a D → R (some true) { s with heap := h' }) :
    wpAny (model P w) A (storeSet a en tn >>= fun _ => if (!dm && tn.tooFull) = true then (gv (relayAll tn en (SetTable.grown en.size)).2.2 >>= fun _ => storeSet a (relayAll tn en (SetTable.grown en.size)).1 (relayAll tn en (SetTable.grown en.size)).2.1 >>= fun _ => pure (some true)) else pure (some true)) R E s := by
  have one := store_at (es' := en) (t' := tn) hob hdat
  have sb := Heap.SameBut.update s.heap a (Obj.putSet en tn)
  refine wpAny_bind (wpAny_storeSet_of hob hdat ?_ (fits_of_scanBound hlt))
  by_cases c : (!dm && tn.tooFull) = true
  · rw [if_pos c]
    have perm := relayAll_perm tn en (SetTable.grown en.size)
    have fit2 := relayAll_fits tn en (SetTable.grown en.size)
    have up2 := relayAll_ris tn en (SetTable.grown en.size)
    have led2 := relayAll_led tn en (SetTable.grown en.size)
    generalize relayAll tn en (SetTable.grown en.size) = Z at perm fit2 up2 led2 ⊢
    obtain ⟨en2, tn2, g2⟩ := Z
    dsimp only at perm fit2 up2 led2 ⊢
    have sz2 : en2.size = en.size := by
      have := perm.length_eq
      rwa [Array.length_toList, Array.length_toList] at this
    refine wpAny_bind (hgv _ _ _ (wpAny_bind (wpAny_storeSet_of one rfl (wpAny_pure (fin _ (sb.trans (Heap.SameBut.update _ a _)) ?_)) (fits_of_scanBound (by rw [sz2]; exact hlt)))))
    refine ⟨_, en2, _, tn2, store_at (es' := en2) (t' := tn2) one rfl, hx, rfl, el.perm perm, fun k => (mm k).trans ⟨fun ⟨e, h1, h2⟩ => ⟨e, perm.mem_iff.mpr h1, h2⟩, fun ⟨e, h1, h2⟩ => ⟨e, perm.mem_iff.mp h1, h2⟩⟩, by rw [sz2]; exact hlt, fit2, by rw [sz2]; exact hsz, nd, up2, tw.led.imp id fun z => by rw [led2]; exact z⟩
  · rw [if_neg c]
    exact wpAny_pure (fin _ sb ⟨_, en, _, tn, one, hx, rfl, el, mm, hlt, hfit, hsz, nd, tw⟩)
theorem ts_add {k : Str} {tk : Tok} {Q : Bool → Shared → Prop} (R : TxtSet P w s.heap a D) (room : D.length + 1 < scanBound)
    (fin : ∀ h' D' b, Heap.SameBut a s.heap h' → (∀ x, x ∈ D' ↔ x ∈ D ∨ x = k) → D'.length ≤ D.length + 1 → TxtSet P w h' a D' → Q b { s with heap := h' }) :
    wpAny (model P w) A (setAddHashed a (.str k tk) ((strKind P w).hash k)) Q E s := by
  obtain ⟨ob, ents, ep, tab, hob, hx, hdat, el, mm, hlt, hfit, hsz, nd, tw⟩ := R
  have is : (strKind P w).is k (.str k tk) = true := by show Value.isStrOf k (.str k tk) = true; simp [Value.isStrOf]
  have scn : (Value.str k tk).scannable = true := rfl
  unfold setAddHashed setAddHashedIn
  refine wpAny_holding (wpAny_bind (wpAny_setState_of hob hdat hfit ?_))
  dsimp only
  rw [byScan_of scn hlt el, if_pos rfl]
  unfold setAddByScan
  refine wpAny_bind (wpAny_bind (wpAny_rule (wpAny_bind (wpAny_setScan_of is hob hdat hfit el ?_))))
  cases found : List.findIdx? (fun e => (strKind P w).is k e.2) ents.toList with
  | some j =>
    dsimp only
    obtain ⟨hj, pj, _⟩ := List.findIdx?_eq_some_iff_getElem.mp found
    have hk : k ∈ D := (mm k).2 ⟨_, List.getElem_mem hj, pj⟩
    exact wpAny_pure (wpAny_pure (fin s.heap D _ (Heap.SameBut.refl a _) (fun x => ⟨.inl, fun z => z.elim id fun e => e ▸ hk⟩) (Nat.le_succ _) ⟨ob, ents, ep, tab, hob, hx, hdat, el, mm, hlt, hfit, hsz, nd, tw⟩))
  | none =>
    dsimp only
    have hk : k ∉ D := fun z => by
      obtain ⟨e, he, q⟩ := (mm k).1 z
      have := List.findIdx?_eq_none_iff.mp found e he
      rw [q] at this
      cases this
    have perm := layNew_perm tab ents ((strKind P w).hash k) (.str k tk)
    have fit1 := layNew_fits tab ents ((strKind P w).hash k) (.str k tk)
    have up1 := layNew_ris tab ents ((strKind P w).hash k) (.str k tk) tw.up
    have led1 := layNew_led tab ents ((strKind P w).hash k) (.str k tk)
    generalize layNew tab ents ((strKind P w).hash k) (.str k tk) = Z at perm fit1 up1 led1 ⊢
    obtain ⟨en, tn, dm, gave⟩ := Z
    dsimp only at perm fit1 up1 led1 ⊢
    rw [Array.toList_push] at perm
    have sz1 : en.size = (k :: D).length := by
      have := perm.length_eq
      rw [List.length_append, Array.length_toList, Array.length_toList] at this
      rw [this, hsz]
      rfl
    have mm1 : ∀ x, x ∈ k :: D ↔ ∃ e ∈ en.toList, (strKind P w).is x e.2 = true := fun x => by
      have := mem_push_iff (S := fun y => decide (y ∈ D)) is (fun y => by rw [decide_eq_true_eq]; exact mm y) perm x
      rw [Bool.or_eq_true, decide_eq_true_eq, decide_eq_true_eq] at this
      rw [List.mem_cons, ← this]
      exact Or.comm
    have tw1 : TabW w tn := ⟨up1, tw.led.imp id fun z => by rw [led1]; exact z⟩
    have gv : ∀ (b : Bool) (z : Shared) (Z : Unit → Shared → Prop), Z () z → wpAny (model P w) A (match b with | true => rule "set.scan.the-table-gave-way" | false => pure ()) Z E z :=
      fun b z Z h => by cases b <;> first | exact wpAny_pure h | exact wpAny_rule h
    have ok : ∀ t2 : SetTable, t2.fits en.size = true → TabW w t2 → wpAny (model P w) A (storeSet a en t2 >>= fun _ => if (!dm && t2.tooFull) = true then ((match (relayAll t2 en (SetTable.grown en.size)).2.2 with | true => rule "set.scan.the-table-gave-way" | false => pure ()) >>= fun _ => storeSet a (relayAll t2 en (SetTable.grown en.size)).1 (relayAll t2 en (SetTable.grown en.size)).2.1 >>= fun _ => pure (some true)) else pure (some true)) (fun r z => wpAny (model P w) A (match r with | some added => pure added | none => setAddHashedIn a (.str k tk) ((strKind P w).hash k) 99999) Q E z) E s := fun t2 f2 w2 => by
      refine ts_tail (D := k :: D) (gv := fun b => match b with | true => rule "set.scan.the-table-gave-way" | false => pure ()) gv hob hx hdat ((el.push is scn).perm perm) mm1 (by rw [sz1, List.length_cons]; exact room) f2 sz1 (List.nodup_cons.mpr ⟨hk, nd⟩) w2 fun h' sb r => ?_
      exact wpAny_pure (fin h' (k :: D) true sb (fun x => by rw [List.mem_cons]; exact Or.comm) (Nat.le_refl _) r)
    refine wpAny_bind (gv _ _ _ ?_)
    by_cases pl : tn.plain = true
    · rw [if_pos pl]
      refine wpAny_bind ?_
      rw [hashByValue_scannable 8 scn]
      refine wpAny_pure (ok _ ?_ ?_)
      · show SetTable.fits (if plainKind (.str k tk) = true then tn else _) _ = true
        exact SetTable.fits_plain_off fit1
      · show TabW w (if plainKind (.str k tk) = true then tn else _)
        exact ⟨tw1.up, tw1.led⟩
    · rw [if_neg pl]
      exact wpAny_bind (wpAny_pure (ok tn fit1 tw1))
end
end Ag
namespace Ag
open PySem PySem.Spec PyProof.Rows L2
section
variable {P : Program} {w : World} {A : Around} {E : Value → Shared → Prop} {s : Shared}
/-- a set as it is made -/
abbrev freshS (w : World) : Obj := { cls := .type "set", dict := none, data := .set #[] 0 (.fresh 0 0 (!w.params.followText "set-order")) }
theorem ts_fresh {h : Heap} {a : Addr} (e : h.get? a = some (freshS w)) : TxtSet P w h a [] :=
  ⟨_, #[], 0, _, e, ⟨rfl, rfl, rfl⟩, rfl, fun x hx => by simp at hx, fun k => by simp, by decide, by rfl, rfl, .nil, .nil, by
    show _ ∨ (!w.params.followText "set-order") = true
    cases w.params.followText "set-order" <;> simp⟩
theorem ts_update {I : Addr} {fp wr : List Addr} {G : Array GenState → Array GenState → Prop} {n : Nat} {Pv : Nat → Value → Prop} {St : Nat → Shared → Prop} {R : Result → Shared → Prop}
    (W : WalksS P w A.in1 I fp wr G n Pv St) (T : Addr) (hT : T ∉ fp) (xs : List Str) (hn : n = xs.length) (few : xs.length + 1 < scanBound) (hv : ∀ i v, Pv i v → ∃ k t, xs[i]? = some k ∧ v = .str k t) :
    ∀ (j i : Nat) (z : Shared), n - i = j → i ≤ n → St i z → (∃ D, D.length ≤ i ∧ (∀ x, x ∈ D ↔ x ∈ xs.take i) ∧ TxtSet P w z.heap T D) →
      (∀ z' D, Moved (T :: wr) G z z' → D.length ≤ n → (∀ x, x ∈ D ↔ x ∈ xs) → TxtSet P w z'.heap T D → R (.ok (.ret .none)) z') →
      codeAny (model P w) A (.builtin "set.update.loop" ⟨[.ref T, .ref I], []⟩) R z := by
  have hw : T ∉ wr := fun h => hT (W.sub _ h)
  have wider : ∀ b ∈ wr, b ∈ T :: wr := fun b hb => List.mem_cons_of_mem _ hb
  intro j
  induction j with
  | zero =>
    intro i z hj hi st ⟨D, dl, dm, dS⟩ fin
    obtain rfl : i = n := by omega
    refine codeAny_builtin PyProof.Rows.F.entry_set_update_loop ?_
    rw [Around.under_plainId PyProof.Rows.F.plain_set_update_loop _]
    refine wpAny_bind (m := pyNext (.ref I)) (W.done z _ _ st fun z' mv => wpAny_pure (fin z' D (mv.mono wider) dl (fun x => ?_) (dS.go fun o e => mv.heap T o hw e)))
    rw [dm x, List.take_of_length_le (by omega)]
  | succ j ih =>
    intro i z hj hi st ⟨D, dl, dm, dS⟩ fin
    have lt : i < n := by omega
    refine codeAny_builtin PyProof.Rows.F.entry_set_update_loop ?_
    rw [Around.under_plainId PyProof.Rows.F.plain_set_update_loop _]
    refine wpAny_bind (m := pyNext (.ref I)) (W.item i z _ _ lt st fun v z' hP st' mv => ?_)
    obtain ⟨k, t, hk, rfl⟩ := hv i v hP
    have dS' : TxtSet P w z'.heap T D := dS.go fun o e => mv.heap T o hw e
    refine wpAny_bind (m := holding [Value.str k t] (setAdd T (.str k t))) (wpAny_holding ?_)
    unfold setAdd
    refine wpAny_holding (wpAny_bind ((PySem.strKind P w).pyHash (k := k) (by show Value.isStrOf k (.str k t) = true; simp [Value.isStrOf]) ?_))
    refine ts_add (s := { z' with toks := z'.toks + 1 }) dS' (by omega) fun h' D' b sb d1 d2 d3 => ?_
    refine wpAny_pure ⟨plainId_quiet PyProof.Rows.F.plain_set_update_loop _, ih (i + 1) _ (by omega) lt (W.frame _ z' _ _ st' (Nat.le_succ _) fun c hc o e => ?_) ⟨D', by omega, fun x => ?_, d3⟩ fun z2 D2 m2 e1 e2 e3 => ?_⟩
    · rw [sb.2 c (by rintro rfl; exact hT hc)]
      exact e
    · rw [d1 x, dm x, List.take_add_one, hk, List.mem_append]
      simp
    · refine fin z2 D2 (Moved.trans W.gtrans ((mv.mono wider).then_heap (Nat.le_succ _) fun c o hc e => ?_) m2) e1 e2 e3
      rw [sb.2 c (by rintro rfl; exact hc List.mem_cons_self)]
      exact e
set_option maxRecDepth 100000 in
set_option maxHeartbeats 3200000 in
theorem ts_of_list {l : Addr} {its : Array Value} (xs : List Str) {Q : Value → Shared → Prop} (hh : A.handled = none) (hl : s.heap.IsList l its) (hs : StrsAre its.toList xs) (few : xs.length + 1 < scanBound)
    (fin : ∀ (h' : Heap) (tk : Nat) (D : List Str), TxtSet P w h' s.heap.objs.size D → D.length ≤ xs.length → (∀ x, x ∈ D ↔ x ∈ xs) → (∀ b o, s.heap.get? b = some o → h'.get? b = some o) → Q (.ref s.heap.objs.size) { s with heap := h', toks := tk }) :
    wpAny (model P w) A (call (.type "set") [.ref l]) Q E s := by
  have isz : its.size = xs.length := by rw [← Array.length_toList]; exact StrsAre.length hs
  obtain ⟨_, _, mro⟩ := PySem.F.called_set.mro
  have made := PySem.F.called_set.made
  have sub := PySem.F.called_set.sub
  refine wpAny_call (codeAny_of_tree ?_)
  refine wpAny_pure (M := model P w) ⟨Code.quiet_builtin _ (by decide +kernel), codeAny_builtin PySem.F.entry_type_call ?_⟩
  rw [Around.under_plain (weight_type_call_type "set" [.ref l] []) rfl]
  have nt := PySem.F.called_set.notType
  have cc := PySem.F.called_set.canCreate
  have tc := PySem.F.typeCall_set_1 (.ref l)
  repeat (any_goals (first | assumption | wp_step))
  refine codeAny_mono (code_set_led1 (.ref l) (E := E) (Q₁ := fun obj z => obj = .ref s.heap.objs.size ∧ z = { s with heap := s.heap.push (freshS w) }) ⟨rfl, rfl⟩) fun r z hz => ?_
  cases r with
  | error e => exact hz
  | ok fl =>
    cases fl with
    | ret obj =>
      obtain ⟨rfl, rfl⟩ := hz
      have gS : (s.heap.push (freshS w)).get? s.heap.objs.size = some (freshS w) := Heap.get?_push_size _ rfl
      have tS : Shared.TypeIs { s with heap := s.heap.push (freshS w) } (.ref s.heap.objs.size) "set" := ⟨_, gS, rfl⟩
      have li := PySem.F.called_set.init.lookup
      have bi := PySem.F.called_set.init.bind (.ref s.heap.objs.size)
      repeat (any_goals (first | assumption | wp_step))
      refine codeAny_mono (codeAny_call_builtin (R := wants (fun r z => r = .none ∧ ∃ h' tk D, z = { s with heap := h', toks := tk } ∧ TxtSet P w h' s.heap.objs.size D ∧ D.length ≤ xs.length ∧ (∀ x, x ∈ D ↔ x ∈ xs) ∧
          (∀ b o, s.heap.get? b = some o → h'.get? b = some o)) E) PySem.F.called_set.init.plain PySem.F.entry_set_init (check_set_init_1 tS ?_)) fun r z hz => ?_
      · obtain ⟨⟨oc, od, oda, osl⟩, hol, hcl, nl, hdl⟩ := hl
        simp only at hcl hdl
        subst hcl hdl
        have hol2 : (s.heap.push (freshS w)).get? l = some { cls := .type "list", dict := od, data := .seq its nl, slots := osl } := Heap.get?_push_of_some _ hol
        have q1 := PySem.F.sub_list_set
        have q2 := PySem.F.sub_list_frozenset
        have q3 : (Value.type "list" == Value.type "dict") = false := by decide
        have isl : (s.heap.push (freshS w)).IsList l its := ⟨_, hol2, rfl, nl, rfl⟩
        unfold Builtin.«set.__init__» noKeywords Builtin.Frozenset.updateFrom
        generalize hPI : pyIter = PI
        wp_walk
        subst hPI
        refine wpAny_pyIter_list isl (wpAny_bind (wpAny_runValue ?_))
        have llt : l < s.heap.objs.size := Heap.lt_size hol
        have h3 : A.in1.in1.in1.handled = none := by simp [hh]
        have sz : (s.heap.push (freshS w)).objs.size = s.heap.objs.size + 1 := Heap.size_push ..
        have n1 : l ≠ (s.heap.push (freshS w)).objs.size := by rw [sz]; exact Nat.ne_of_lt (Nat.lt_succ_of_lt llt)
        have n2 : s.heap.objs.size ∉ [(s.heap.push (freshS w)).objs.size, l] := by
          rw [sz]
          simp only [List.mem_cons, List.not_mem_nil, or_false, not_or]
          exact ⟨Nat.ne_of_lt (Nat.lt_succ_self _), Nat.ne_of_gt llt⟩
        have hv : ∀ (i : Nat) (v : Value), its[i]? = some v → ∃ k t, xs[i]? = some k ∧ v = .str k t := fun i v h => by
          rw [← Array.getElem?_toList] at h
          obtain ⟨u, h1, h2⟩ := Vals.get (i := i) (x := .str (xs[i]'(by rw [← isz, ← Array.length_toList]; exact (List.getElem?_eq_some_iff.mp h).1))) (vals_of_strs hs) (by rw [List.getElem?_map, List.getElem?_eq_getElem (by rw [← isz, ← Array.length_toList]; exact (List.getElem?_eq_some_iff.mp h).1)]; rfl)
          rw [h] at h1
          cases h1
          obtain ⟨t, e⟩ := h2
          exact ⟨_, t, List.getElem?_eq_getElem _, e⟩
        refine ts_update ((Walks.list h3 _ l n1 its).toS) s.heap.objs.size n2 xs isz few hv (its.size - 0) 0 _ (by omega) (Nat.zero_le _) ⟨⟨_, Heap.get?_push_size _ rfl, rfl, rfl⟩, isl.push _⟩
          ⟨[], Nat.le_refl _, fun x => by simp, ts_fresh (Heap.get?_push_of_some _ gS)⟩ fun z' D mv dl dm dS => ?_
        obtain ⟨h', g', d', tk', os'⟩ := z'
        obtain rfl : g' = s.gens := mv.gens
        obtain rfl : d' = s.drawn := mv.drawn
        obtain rfl : os' = s.os := mv.os
        refine wpAny_pure (M := model P w) (wpAny_pure (M := model P w) ⟨rfl, h', tk', D, rfl, dS, by rw [← isz]; exact dl, dm, fun b o e => ?_⟩)
        have blt : b < s.heap.objs.size := Heap.lt_size e
        refine mv.heap b o (fun hm => ?_) (Heap.get?_push_of_some _ (Heap.get?_push_of_some _ e))
        rcases List.mem_cons.mp hm with hm | hm
        · exact Nat.ne_of_lt blt hm
        · rw [List.mem_singleton, sz] at hm
          exact Nat.ne_of_lt (Nat.lt_succ_of_lt blt) hm
      · cases r with
        | error e => exact hz
        | ok fl2 =>
          cases fl2 with
          | ret r =>
            obtain ⟨rfl, h', tk, D, rfl, dS, dl, dm, kp⟩ := hz
            repeat (any_goals (first | assumption | wp_step))
            exact fin _ _ _ dS dl dm kp
          | _ => exact hz.elim
    | _ => exact hz.elim
end
end Ag

namespace Ag
open PySem PySem.Spec PyProof.Rows L2
theorem perm_of_sub : ∀ {D l : List Str}, D.Nodup → (∀ x ∈ D, x ∈ l) → l.length = D.length → l.Perm D
  | [], l, _, _, h => by
    rw [List.length_eq_zero_iff.mp h]
  | x :: D, l, nd, hs, h => by
    obtain ⟨n1, n2⟩ := List.nodup_cons.mp nd
    have hx := hs x List.mem_cons_self
    have len := List.length_erase_of_mem hx
    refine (List.perm_cons_erase hx).trans (List.Perm.cons x (perm_of_sub n2 (fun y hy => ?_) ?_))
    · have hne : y ≠ x := fun e => n1 (e ▸ hy)
      exact (List.mem_erase_of_ne hne).2 (hs y (List.mem_cons_of_mem _ hy))
    · rw [len, h]
      rfl
section
variable {P : Program} {w : World} {A : Around} {E : Value → Shared → Prop} {s : Shared} {a : Addr} {D : List Str}
theorem is_txt {k : Str} {v : Value} (h : (PySem.strKind P w).is k v = true) : ∃ t, v = .str k t := Value.isStrOf_shape h
/-- the members, read off the entries -/
theorem ts_texts {l : List (Int × Value)} (el : ElemsOf (PySem.strKind P w) l) (mm : ∀ k, k ∈ D ↔ ∃ e ∈ l, (PySem.strKind P w).is k e.2 = true) (hn : l.length = D.length) (nd : D.Nodup) :
    (∀ e ∈ l, ∃ x t, e.2 = .str x t) ∧ (l.map fun e => strOf e.2).Perm D := by
  have sh : ∀ e ∈ l, ∃ x t, e.2 = .str x t := fun e he => by
    obtain ⟨⟨k, h1, _⟩, _⟩ := el e he
    obtain ⟨t, e1⟩ := is_txt h1
    exact ⟨k, t, e1⟩
  refine ⟨sh, List.Perm.symm ?_⟩
  have sub : ∀ x ∈ D, x ∈ l.map fun e => strOf e.2 := fun x hx => by
    obtain ⟨e, he, h1⟩ := (mm x).1 hx
    obtain ⟨t, e1⟩ := is_txt h1
    exact List.mem_map.mpr ⟨e, he, by rw [e1]; rfl⟩
  exact (perm_of_sub nd sub (by rw [List.length_map, hn])).symm
/-- sorted(a set of texts) -/
theorem ts_sorted {Q : Value → Shared → Prop} (R : TxtSet P w s.heap a D) (hh : A.handled = none)
    (fin : ∀ z p (out : Array Value) (c : Nat) (ys : List Str), (∀ b o, s.heap.get? b = some o → z.heap.get? b = some o) → z.gens = s.gens → z.os = s.os → s.heap.objs.size ≤ p →
      z.heap.get? p = some (seqObj "list" out c) → StrsAre out.toList ys → ys.Perm D → sortedS ys = true → Q (.ref p) z) :
    wpAny (model P w) A (call (.builtin "sorted") [.ref a]) Q E s := by
  obtain ⟨ob, ents, ep, tab, hob, hx, hdat, el, mm, hlt, hfit, hsz, nd, tw⟩ := R
  obtain ⟨sh, pm⟩ := ts_texts el mm (by rw [Array.length_toList]; exact hsz) nd
  refine Calls.call_function_entry kind_sorted plain_sorted entry_sorted (args_sorted1 _) ?_
  unfold Builtin.«sorted»
  refine wpAny_bind (m := checkCount "sorted" 1 1 _) (wpAny_pure (wpAny_bind ?_))
  refine collect_set (A := A.in1) hh ⟨ob, hob, hx.1, hdat⟩ hfit hlt tw.up tw.led fun z vs kp hz gz oz pv => ?_
  have lv : vs.length = ents.size := by rw [pv.length_eq, List.length_map, Array.length_toList]
  have sv : StrsAre vs (vs.map strOf) := strsAre_map vs fun v hv => by
    obtain ⟨e, he, q⟩ := List.mem_map.mp (pv.mem_iff.mp hv)
    rw [← q]
    exact sh e he
  have pD : (vs.map strOf).Perm D := by
    have := pv.map strOf
    rw [List.map_map] at this
    exact this.trans pm
  refine wpAny_bind (wpAny_newList ?_ (by rw [lv]; exact fits_of_scanBound hlt))
  have gL : (z.heap.push (seqObj "list" vs.toArray 0)).get? z.heap.objs.size = some (seqObj "list" vs.toArray 0) := Heap.get?_push_size _ rfl
  refine wpAny_bind (wpAny_holding (wpAny_call_entry slot_list_sort ⟨_, gL, rfl⟩ entry_list_sort (list_sort_treeKAny strKind_oneLt gL sv.keysOf (fun v₁ v₂ rest e => keyKind_strs (by rw [← e]; exact sv)) (by rw [lv]; exact fits_of_scanBound hlt) fun st hp hs => ⟨_, rfl, ?_⟩) (args_list_sort _)))
  obtain ⟨ys, y1, y2, y3⟩ := sorted_out_str sv hp hs
  obtain ⟨c, hc⟩ := sortedHeap_at (vs := vs) (out := (arrOf st).map (·.2)) gL
  refine wpAny_pure ⟨_, rfl, fin _ z.heap.objs.size _ c ys (fun b u e => ?_) gz oz hz hc y1 (y2.trans pD) y3⟩
  have blt := Heap.lt_size (kp b u e)
  show (sortedHeap (z.heap.push (seqObj "list" vs.toArray 0)) z.heap.objs.size vs _).get? b = some u
  rw [sortedHeap_old (Nat.ne_of_lt blt) (by rw [size_push']; exact Nat.lt_succ_of_lt blt)]
  exact Heap.get?_push_of_some _ (kp b u e)
end
/-- a set of texts in the layer's heap -/
def TsO (P : Program) (w : World) (a : Addr) (D : List Str) : HO := .ext fun h => TxtSet P w h a D
theorem tsO_ok {P : Program} {w : World} {H : Hp} {h : Heap} {a : Addr} {D : List Str} (R : TxtSet P w h a D) : ObjOk P w H h a (TsO P w a D) := by
  have ⟨ob, _, _, _, hob, _⟩ := R
  exact ⟨R, ⟨ob, hob⟩, fun h1 h2 p k => TxtSet.go p k⟩
section
variable {X : Cx}
/-- set(xs), xs a list of texts -/
def rSetS (K : PySem.W.Frag) (P : Program) (w : World) : List V → Hp → VK → Prop := fun xs H Q => ∃ (l : Addr) (zs : List Str), xs = [.ref l] ∧ SqL K H l (zs.map V.str) ∧ zs.length + 1 < scanBound ∧
  ∀ a D, H a = none → (∀ x, x ∈ D ↔ x ∈ zs) → Q (.ref a) (upd H a (TsO P w a D))
theorem cr_setS (hc : X.calm = true) : CallR X (.type "set") (rSetS X.K X.prog X.w) := by
  intro pins s σ H xs us Q I r h
  obtain ⟨l, zs, rfl, hl, few, q⟩ := h
  rw [Vals.ref1 r]
  obtain ⟨its, rv, pl, _⟩ := I.list hl
  refine ts_of_list zs (I.ok.hd hc) pl.isList (by simpa using rv.strs) few fun h' tk D R _ dm k => ?_
  exact ⟨V.ref s.heap.objs.size, upd H s.heap.objs.size (TsO X.prog X.w s.heap.objs.size D), I.laid (t' := tk) k (Nat.le_refl _) (tsO_ok R), rfl, q _ D (I.hok.fresh (Nat.le_refl _)) dm⟩
/-- sorted(set) -/
def rSortedTS (P : Program) (w : World) : List V → Hp → VK → Prop := fun xs H Q => ∃ (a : Addr) (D : List Str), xs = [.ref a] ∧ H a = some (TsO P w a D) ∧
  ∀ (p : Addr) (ys : List Str), ys.Nodup → (∀ x, x ∈ ys ↔ x ∈ D) → sortedS ys = true → H p = none → Q (.ref p) (upd H p (.lst (ys.map V.str)))
theorem cr_sortedTS (hc : X.calm = true) : CallR X (.builtin "sorted") (rSortedTS X.prog X.w) := by
  intro pins s σ H xs us Q I r h
  obtain ⟨a, D, rfl, ha, q⟩ := h
  have R : TxtSet X.prog X.w s.heap a D := (I.hok a _ ha).1
  rw [Vals.ref1 r]
  refine ts_sorted R (I.ok.hd hc) fun z p out c ys kp gz oz hp hg hs pm so => ?_
  obtain ⟨ob, ents, ep, tab, hob, hx, hdat, el, mm, hlt, hfit, hsz, nd, tw⟩ := R
  have len : (ys.map V.str).length ≤ sizeLine := by
    rw [List.length_map, pm.length_eq, ← hsz]
    exact fits_of_scanBound hlt
  have np : H p = none := I.hok.fresh hp
  have J : Inv X pins σ (upd H p (.lst (ys.map V.str))) { s with heap := z.heap, gens := z.gens, drawn := z.drawn, toks := z.toks } :=
    I.call (ch := []) (Un.laid kp hp np) (I.hok.laid kp hp ⟨len, out.toList, c, vals_of_strs hs, hg⟩) (by rw [gz]; exact I.bare) (fun _ z => nomatch z)
  have e : z = { s with heap := z.heap, gens := z.gens, drawn := z.drawn, toks := z.toks } := by
    cases z
    cases s
    cases oz
    rfl
  rw [e]
  exact ⟨.ref p, _, J, rfl, q p ys (pm.nodup_iff.mpr nd) (fun x => pm.mem_iff) so np⟩
end
end Ag

namespace Ag
open PySem PySem.Spec PyProof.Rows L2
section
variable {P : Program} {w : World} {A : Around} {E : Value → Shared → Prop} {s : Shared}
/-- xs.extend(t), t a tuple -/
theorem ext_tup {l b : Addr} {xs ys : Array Value} {n m : Nat} {ob : Obj} {Q : PySem.Fin → Shared → Prop} (hl : s.heap.get? l = some { cls := .type "list", data := .seq xs n }) (hb : s.heap.get? b = some ob) (hc : ob.cls = .type "tuple") (hd : ob.data = .seq ys m) (hz : xs.size + ys.size ≤ sizeLine)
    (q : Q (.done (.ret .none)) { s with heap := s.heap.update l (Obj.mapSeq (· ++ ys)) }) : wpAny (model P w) A (Builtin.List.listExtendWith (.ref l) (.ref b) .none) Q E s := by
  unfold Builtin.List.listExtendWith
  refine wpAny_bind (wpAny_typeOf ⟨ob, hb, hc⟩ ?_)
  have h1 : (Builtin.List.listSameRef (.ref l) (.ref b) || Value.type "tuple" == Value.type "list" || Value.type "tuple" == Value.type "tuple") = true := by simp
  simp only [h1, if_true]
  unfold Builtin.List.listItems
  refine wpAny_bind (wpAny_bind (wpAny_seqItems hb hd (wpAny_pure ?_)))
  refine wpAny_bind (wpAny_bind (wpAny_seqItems hl rfl (wpAny_pure ?_)))
  have h2 : (!xs.isEmpty && Builtin.List.listTooLong (xs.size + ys.size)) = false := by
    unfold Builtin.List.listTooLong
    rw [decide_eq_false (by omega), Bool.and_false]
  simp only [h2, Bool.false_eq_true, if_false]
  refine wpAny_bind (m := updateSeq l (· ++ ys)) (wpAny_updateSeq hl rfl (wpAny_pure q))
end
def rExtT (K : PySem.W.Frag) : V → List V → Hp → VK → Prop := fun x vs H Q => ∃ l b xs zs, x = .ref l ∧ vs = [.ref b] ∧ H l = some (.lst xs) ∧ SqT K H b zs ∧ xs.length + zs.length ≤ sizeLine ∧ Q .non (upd H l (.lst (xs ++ zs)))
theorem mt_extT {X : Cx} : MtM X "list.extend" (rExtT X.K) := by
  intro pins s σ H x vs v us Q I rx rv h
  obtain ⟨l, b, xs, zs, rfl, rfl, hH, hB, hz, q⟩ := h
  cases rx
  obtain ⟨u, rfl, ru⟩ := rv.one
  cases ru
  obtain ⟨z, its, n, r, hl, e⟩ := I.lstM hH
  obtain ⟨its2, r2, ⟨ob, e2, hc, m, hd⟩, _⟩ := I.tuple hB
  have l2 := r2.length
  refine wpAny_call_entry PySem.F.slot_list_extend ⟨_, e, rfl⟩ PySem.F.entry_list_extend (ext_tup e e2 hc hd (by rw [List.size_toArray, List.size_toArray]; omega) ⟨_, rfl, ?_⟩) (PySem.F.args_list_extend_2 _ _)
  refine ⟨.non, _, I.lset (its' := its ++ its2) (t' := s.toks) hH e (by simp) (r.append r2) ?_, rfl, q⟩
  rw [List.length_append]
  omega
end Ag

namespace Ag
open PySem PySem.Spec PyProof.Rows L2
/-! ### dicts of the written part: get, in -/
/-- what the written dict at a has at x -/
def KdAt (K : PySem.W.Frag) (w : World) (a : Addr) (x : Str) (o : Option V) : Prop :=
  ∃ es n r, K.lookup a = some ⟨.type "dict", none, .dict es n, #[]⟩ ∧ PySem.W.KeysLit w.params es.toList ∧ (a == sysModules) = false ∧ PySem.W.nsIn K a x = some r ∧ RelO o r
theorem KdAt.dct {K : PySem.W.Frag} {w : World} {a : Addr} {x : Str} {v : V} (h : KdAt K w a x (some v)) : KDct K w a x v := by
  obtain ⟨es, n, r, h1, h2, h3, h4, h5⟩ := h
  cases r with
  | none => exact h5.elim
  | some u => exact ⟨es, n, u, h1, h2, h4, h5⟩
/-- a is a written dict -/
def KdIs (K : PySem.W.Frag) (w : World) (a : Addr) : Prop := ∃ es n, K.lookup a = some ⟨.type "dict", none, .dict es n, #[]⟩ ∧ PySem.W.KeysLit w.params es.toList
theorem KdAt.is {K : PySem.W.Frag} {w : World} {a : Addr} {x : Str} {o : Option V} (h : KdAt K w a x o) : KdIs K w a := by
  obtain ⟨es, n, r, h1, h2, _⟩ := h
  exact ⟨es, n, h1, h2⟩
section
variable {X : Cx} {pins : List (Addr × Obj)} {σ : L2.St} {H : Hp} {s : Shared} {a : Addr} {z : Str} {o : Option V}
theorem kd_map {es : Array DictEntry} {n : Nat} (I : Inv X pins σ H s) (h : X.K.lookup a = some ⟨.type "dict", none, .dict es n, #[]⟩) (k : PySem.W.KeysLit X.w.params es.toList) :
    s.heap.MapOf (PySem.strKind X.prog X.w) a (fun k => findBy Value.isStrOf es k) := PySem.W.mapOf_K (prog := X.prog) (w := X.w) I.kIn h k
def tKGet1 (K : PySem.W.Frag) (w : World) (td ty : TE) : TE := fun σ H Q => td σ H fun x H1 => ∃ a, x = .ref a ∧ KdIs K w a ∧ ty σ H1 fun y H2 => ∃ z o, y = .str z ∧ KdAt K w a z o ∧ Q (o.getD .non) H2
theorem pe_kget1 {e e2 : Expr} {td ty : TE} {apos cpos : Pos} (ho : PE X e td) (he : PE X e2 ty) (m : M1 X e "get" apos e2 cpos) : PE X (.Call (.Attribute e "get" apos) [e2] [] cpos) (tKGet1 X.K X.w td ty) := by
  refine ⟨fun pins s σ H Q I h => ?_⟩
  refine wpAny_Call_method m.base m.few m.line PySem.F.plainAttrs_dict PySem.F.slot_dict_get PySem.F.type_dict_get (thn (ho.run pins s σ H _ I h) fun u s1 ⟨x, H1, I1, rx, a, ex, ⟨es, n, hl, hk⟩, q1⟩ => ?_)
  subst ex
  obtain rfl : u = Value.ref a := rx
  have hm := kd_map I1 hl hk
  refine ⟨hm.typeIs, hm.noDict, ?_⟩
  rw [m.trees]
  refine Calls.callWith_builtin rfl (Calls.evalArgs_plain (Calls.spliced_cons (thn (he.run pins s1 σ H1 _ I1 q1) fun iv s2 ⟨y, H2, I2, ry, z, ov, ey, kd, q2⟩ => Calls.spliced_nil ?_)))
  subst ey
  obtain ⟨t, rfl⟩ := ry
  obtain ⟨es', n', r, hl', hk', low, hn, rr⟩ := kd
  have hm2 := kd_map I2 hl' hk'
  refine call_meetsIn PySem.F.slot_dict_get hm2.typeIs PySem.F.entry_dict_get (PySem.F.args_dict_get_2 _ _) (meets_dict_get (PySem.strKind X.prog X.w) a (strKind_is X.prog X.w z t) low) ⟨_, hm2, _, H2, I2.tok _, ?_, q2⟩
  rw [PySem.W.find_K hl' hn]
  exact rr.getD rfl
def tKGet2 (K : PySem.W.Frag) (w : World) (td ty tx : TE) : TE := fun σ H Q => td σ H fun x H1 => ∃ a, x = .ref a ∧ KdIs K w a ∧ ty σ H1 fun y H2 => tx σ H2 fun d H3 => ∃ z o, y = .str z ∧ KdAt K w a z o ∧ Q (o.getD d) H3
theorem pe_kget2 {e e2 e3 : Expr} {td ty tx : TE} {apos cpos : Pos} (ho : PE X e td) (he : PE X e2 ty) (hf : PE X e3 tx) (m : M2 X e "get" apos e2 e3 cpos) : PE X (.Call (.Attribute e "get" apos) [e2, e3] [] cpos) (tKGet2 X.K X.w td ty tx) := by
  refine ⟨fun pins s σ H Q I h => ?_⟩
  refine wpAny_Call_method m.base m.few m.line PySem.F.plainAttrs_dict PySem.F.slot_dict_get PySem.F.type_dict_get (thn (ho.run pins s σ H _ I h) fun u s1 ⟨x, H1, I1, rx, a, ex, ⟨es, n, hl, hk⟩, q1⟩ => ?_)
  subst ex
  obtain rfl : u = Value.ref a := rx
  have hm := kd_map I1 hl hk
  refine ⟨hm.typeIs, hm.noDict, ?_⟩
  rw [m.trees]
  refine Calls.callWith_builtin rfl (Calls.evalArgs_plain (Calls.spliced_cons (thn (he.run pins s1 σ H1 _ I1 q1) fun iv s2 ⟨y, H2, I2, ry, q2⟩ =>
    Calls.spliced_cons (thn (hf.run pins s2 σ H2 _ I2 q2) fun fv s3 ⟨d, H3, I3, rd, z, ov, ey, kd, q3⟩ => Calls.spliced_nil ?_))))
  subst ey
  obtain ⟨t, rfl⟩ := ry
  obtain ⟨es', n', r, hl', hk', low, hn, rr⟩ := kd
  have hm2 := kd_map I3 hl' hk'
  refine call_meetsIn PySem.F.slot_dict_get hm2.typeIs PySem.F.entry_dict_get (PySem.F.args_dict_get_3 _ _ _) (meets_dict_get_default (PySem.strKind X.prog X.w) a (strKind_is X.prog X.w z t) low fv) ⟨_, hm2, _, H3, I3.tok _, ?_, q3⟩
  rw [PySem.W.find_K hl' hn]
  exact rr.getD rd
/-- k in d, k not in d -/
def rKIn (K : PySem.W.Frag) (w : World) (neg : Bool) : R2 := fun x y H Q => ∃ a z o, x = .str z ∧ y = .ref a ∧ KdAt K w a z o ∧ Q (.bl (if neg then !o.isSome else o.isSome)) H
theorem isO {o : Option V} {r : Option Value} (h : RelO o r) : o.isSome = r.isSome := by
  cases o <;> cases r <;> first | rfl | exact h.elim
theorem op_kin : OpR X (compareOp .In) (rKIn X.K X.w false) := by
  intro pins s σ H x y v u Q I rx ry h
  obtain ⟨a, z, o, rfl, rfl, ⟨es, n, r, hl, hk, low, hn, rr⟩, q⟩ := h
  obtain ⟨t, rfl⟩ := rx
  obtain rfl : u = Value.ref a := ry
  refine wpAny_in_of (strKind_is X.prog X.w z t) low (kd_map I hl hk) ?_
  rw [PySem.W.find_K hl hn, ← isO rr]
  exact ⟨.bl o.isSome, H, I.tok _, rfl, q⟩
theorem op_knin : OpR X (compareOp .NotIn) (rKIn X.K X.w true) := by
  intro pins s σ H x y v u Q I rx ry h
  obtain ⟨a, z, o, rfl, rfl, ⟨es, n, r, hl, hk, low, hn, rr⟩, q⟩ := h
  obtain ⟨t, rfl⟩ := rx
  obtain rfl : u = Value.ref a := ry
  refine wpAny_notIn_of (strKind_is X.prog X.w z t) low (kd_map I hl hk) ?_
  rw [PySem.W.find_K hl hn, ← isO rr]
  exact ⟨.bl (!o.isSome), H, I.tok _, rfl, q⟩
end
end Ag

namespace Ag
open PySem PySem.Spec PyProof.Rows L2
/-! ### a part of a text -/
theorem slice_both (a : List Nat) {i j : Nat} (hij : i ≤ j) : Txt.slice (SX.S a) (some (i : Int)) (some (j : Int)) = SX.S ((a.drop i).take (j - i)) := by
  rw [← C8.cutS_slice]
  unfold cutS
  rw [HT.sIx_nat, HT.sIx_nat, SX.S_len]
  show SX.S ((a.drop (min i a.length)).take (min j a.length - min i a.length)) = _
  by_cases h : i ≤ a.length
  · rw [Nat.min_eq_left h]
    by_cases h2 : j ≤ a.length
    · rw [Nat.min_eq_left h2]
    · rw [Nat.min_eq_right (by omega), List.take_of_length_le (by rw [List.length_drop]; omega), List.take_of_length_le (by rw [List.length_drop]; omega)]
  · rw [Nat.min_eq_right (by omega), Nat.min_eq_right (by omega), List.drop_length, List.drop_eq_nil_of_le (by omega)]
    simp
/-! ### texts of formulas -/
def isl (c : Nat) : Bool := decide (97 ≤ c) && decide (c < 123)
def sgn (k : Fin 3) : Nat := match k with
  | 0 => 62
  | 1 => 38
  | 2 => 124
def txt : Fm → List Nat
  | .fls => [48]
  | .atom w => w
  | .hole c => 63 :: c
  | .bin k a b => 40 :: (txt a ++ ([32, sgn k, 32] ++ (txt b ++ [41])))
def kndOf (cs : List Nat) : Option (Fin 3) := if cs = [32, 62, 32] then some 0 else if cs = [32, 38, 32] then some 1 else if cs = [32, 124, 32] then some 2 else none
theorem kndOf_sgn (k : Fin 3) : kndOf [32, sgn k, 32] = some k := by
  revert k
  decide +kernel
theorem kndOf_some {cs : List Nat} {k : Fin 3} (h : kndOf cs = some k) : cs = [32, sgn k, 32] := by
  unfold kndOf at h
  by_cases h1 : cs = [32, 62, 32]
  · rw [if_pos h1] at h
    cases h
    exact h1
  · rw [if_neg h1] at h
    by_cases h2 : cs = [32, 38, 32]
    · rw [if_pos h2] at h
      cases h
      exact h2
    · rw [if_neg h2] at h
      by_cases h3 : cs = [32, 124, 32]
      · rw [if_pos h3] at h
        cases h
        exact h3
      · rw [if_neg h3] at h
        cases h
/-- a name at the head -/
def prA (cs : List Nat) : Option (Fm × List Nat) := if isNm (cs.takeWhile isl) then some (.atom (cs.takeWhile isl), cs.dropWhile isl) else none
def prH (cs : List Nat) : Option (Fm × List Nat) := if isLet (cs.take 1) then some (.hole (cs.take 1), cs.drop 1) else none
/-- a formula at the head, and what is behind it -/
def prs : Nat → Bool → List Nat → Option (Fm × List Nat)
  | 0, _, _ => none
  | d + 1, h, cs =>
    if cs.take 1 = [40] then match prs d h (cs.drop 1) with
      | none => none
      | some (a, r1) => match kndOf (r1.take 3) with
        | none => none
        | some k => match prs d h (r1.drop 3) with
          | none => none
          | some (b, r2) => if r2.take 1 = [41] then some (.bin k a b, r2.drop 1) else none
    else if cs.take 1 = [48] then some (.fls, cs.drop 1)
    else if cs.take 1 = [63] then (if h = true then prH (cs.drop 1) else none)
    else prA cs
theorem isNm_all {w : List Nat} (h : isNm w = true) : (∀ c ∈ w, isl c = true) ∧ 1 ≤ w.length := by
  unfold isNm at h
  simp only [Bool.and_eq_true, List.all_eq_true, decide_eq_true_eq] at h
  refine ⟨fun c hc => ?_, h.1.1⟩
  unfold isl
  rw [Bool.and_eq_true, decide_eq_true_eq, decide_eq_true_eq]
  exact h.2 c hc
theorem take_while_app : ∀ {w r : List Nat}, (∀ c ∈ w, isl c = true) → (∀ c, r.head? = some c → isl c = false) → (w ++ r).takeWhile isl = w ∧ (w ++ r).dropWhile isl = r
  | [], [], _, _ => ⟨rfl, rfl⟩
  | [], c :: r, _, h => by
    have := h c rfl
    simp [List.takeWhile, List.dropWhile, this]
  | c :: w, r, hw, h => by
    obtain ⟨a, b⟩ := take_while_app (w := w) (r := r) (fun d hd => hw d (List.mem_cons_of_mem _ hd)) h
    have := hw c List.mem_cons_self
    simp [List.takeWhile, List.dropWhile, this, a, b]
theorem while_split : ∀ cs : List Nat, cs = cs.takeWhile isl ++ cs.dropWhile isl
  | [] => rfl
  | c :: r => by
    by_cases h : isl c = true
    · simp only [List.takeWhile, List.dropWhile, h, List.cons_append]
      rw [← while_split r]
    · simp only [Bool.not_eq_true] at h
      simp [List.takeWhile, List.dropWhile, h]
theorem prs_txt : ∀ {d : Nat} {h : Bool} {t : Fm} {r : List Nat}, isB d h t = true → (∀ c, r.head? = some c → isl c = false) → prs d h (txt t ++ r) = some (t, r)
  | 0, h, t, r, hb, _ => by cases t <;> simp [isB] at hb
  | d + 1, h, .fls, r, _, _ => by
    simp [prs, txt]
  | d + 1, h, .atom w, r, hb, hr => by
    have hw : isNm w = true := by simpa [isB] using hb
    obtain ⟨h1, h2⟩ := isNm_all hw
    obtain ⟨e1, e2⟩ := take_while_app h1 hr
    obtain ⟨c, w', rfl⟩ : ∃ c w', w = c :: w' := by
      cases w with
      | nil => simp at h2
      | cons c w' => exact ⟨c, w', rfl⟩
    have hc := h1 c List.mem_cons_self
    unfold isl at hc
    rw [Bool.and_eq_true, decide_eq_true_eq, decide_eq_true_eq] at hc
    have n1 : ¬ c = 40 := by omega
    have n2 : ¬ c = 48 := by omega
    have n3 : ¬ c = 63 := by omega
    have m : ∀ x, ¬ c = x → ¬ (c :: (w' ++ r)).take 1 = [x] := fun x hx e => hx (by simpa using e)
    rw [show txt (Fm.atom (c :: w')) ++ r = c :: (w' ++ r) from rfl]
    unfold prs
    rw [if_neg (m 40 n1), if_neg (m 48 n2), if_neg (m 63 n3)]
    show prA ((c :: w') ++ r) = _
    unfold prA
    rw [e1, e2, if_pos hw]
  | d + 1, h, .hole c, r, hb, _ => by
    simp only [isB, Bool.and_eq_true] at hb
    obtain ⟨h1, h2⟩ := hb
    subst h1
    have hl : c.length = 1 := by
      unfold isLet at h2
      simp only [Bool.and_eq_true, decide_eq_true_eq] at h2
      exact h2.1
    obtain ⟨x, rfl⟩ : ∃ x, c = [x] := List.length_eq_one_iff.mp hl
    show (if (63 :: ([x] ++ r)).take 1 = [40] then _ else _) = _
    rw [if_neg (by show ¬ [63] = [40]; decide), if_neg (by show ¬ [63] = [48]; decide), if_pos (by show [63] = [63]; rfl), if_pos rfl]
    show prH ([x] ++ r) = _
    unfold prH
    simp [h2]
  | d + 1, h, .bin k a b, r, hb, hr => by
    have hb' : isB d h a = true ∧ isB d h b = true := by simpa [isB] using hb
    have e : txt (.bin k a b) ++ r = 40 :: (txt a ++ ([32, sgn k, 32] ++ (txt b ++ (41 :: r)))) := by simp [txt]
    have pa := prs_txt (r := [32, sgn k, 32] ++ (txt b ++ (41 :: r))) hb'.1 (by intro c hc; cases hc; rfl)
    have pb := prs_txt (r := 41 :: r) hb'.2 (by intro c hc; cases hc; rfl)
    rw [e]
    show (if (40 :: (txt a ++ ([32, sgn k, 32] ++ (txt b ++ (41 :: r))))).take 1 = [40] then _ else _) = _
    rw [if_pos (by show [40] = [40]; rfl)]
    show (match prs d h (txt a ++ ([32, sgn k, 32] ++ (txt b ++ (41 :: r)))) with | none => none | some (a, r1) => _) = _
    rw [pa]
    show (match kndOf [32, sgn k, 32] with | none => none | some k' => match prs d h (txt b ++ (41 :: r)) with | none => none | some (b', r2) => if r2.take 1 = [41] then some (Fm.bin k' a b', r2.drop 1) else none) = _
    rw [kndOf_sgn, pb]
    simp
theorem take1 {cs : List Nat} {c : Nat} (h : cs.take 1 = [c]) : cs = c :: cs.drop 1 := by
  cases cs with
  | nil => simp at h
  | cons d r =>
    simp at h
    rw [h]
    rfl
theorem prs_sound : ∀ {d : Nat} {h : Bool} {cs : List Nat} {t : Fm} {r : List Nat}, prs d h cs = some (t, r) → cs = txt t ++ r ∧ isB d h t = true
  | 0, h, cs, t, r, e => by simp [prs] at e
  | d + 1, h, cs, t, r, e => by
    unfold prs at e
    by_cases c1 : cs.take 1 = [40]
    · rw [if_pos c1] at e
      cases p1 : prs d h (cs.drop 1) with
      | none => rw [p1] at e; cases e
      | some x =>
        obtain ⟨a, r1⟩ := x
        rw [p1] at e
        dsimp only at e
        cases p2 : kndOf (r1.take 3) with
        | none => rw [p2] at e; cases e
        | some k =>
          rw [p2] at e
          dsimp only at e
          cases p3 : prs d h (r1.drop 3) with
          | none => rw [p3] at e; cases e
          | some y =>
            obtain ⟨b, r2⟩ := y
            rw [p3] at e
            dsimp only at e
            by_cases c2 : r2.take 1 = [41]
            · rw [if_pos c2] at e
              cases e
              obtain ⟨ea, ia⟩ := prs_sound p1
              obtain ⟨eb, ib⟩ := prs_sound p3
              have e3 := kndOf_some p2
              refine ⟨?_, by simp [isB, ia, ib]⟩
              rw [take1 c1, ea]
              have e4 : r1 = [32, sgn k, 32] ++ r1.drop 3 := by rw [← e3, List.take_append_drop]
              rw [e4, eb, take1 c2]
              simp [txt]
            · rw [if_neg c2] at e
              cases e
    · rw [if_neg c1] at e
      by_cases c2 : cs.take 1 = [48]
      · rw [if_pos c2] at e
        cases e
        exact ⟨take1 c2, rfl⟩
      · rw [if_neg c2] at e
        by_cases c3 : cs.take 1 = [63]
        · rw [if_pos c3] at e
          by_cases c4 : h = true
          · rw [if_pos c4] at e
            unfold prH at e
            by_cases c5 : isLet ((cs.drop 1).take 1) = true
            · rw [if_pos c5] at e
              cases e
              refine ⟨?_, by show (h && isLet ((cs.drop 1).take 1)) = true; rw [c4, c5]; rfl⟩
              show cs = 63 :: ((cs.drop 1).take 1 ++ (cs.drop 1).drop 1)
              rw [List.take_append_drop]
              exact take1 c3
            · rw [if_neg c5] at e
              cases e
          · rw [if_neg c4] at e
            cases e
        · rw [if_neg c3] at e
          unfold prA at e
          by_cases c4 : isNm (cs.takeWhile isl) = true
          · rw [if_pos c4] at e
            cases e
            exact ⟨while_split cs, by simp [isB, c4]⟩
          · rw [if_neg c4] at e
            cases e
/-- the whole text -/
def prW (d : Nat) (h : Bool) (cs : List Nat) : Option Fm := match prs d h cs with
  | some (t, []) => some t
  | _ => none
theorem prW_txt {d : Nat} {h : Bool} {t : Fm} (hb : isB d h t = true) : prW d h (txt t) = some t := by
  have := prs_txt (r := []) hb (fun c hc => by simp at hc)
  rw [List.append_nil] at this
  unfold prW
  rw [this]
theorem prW_sound {d : Nat} {h : Bool} {cs : List Nat} {t : Fm} (e : prW d h cs = some t) : cs = txt t ∧ isB d h t = true := by
  unfold prW at e
  cases p : prs d h cs with
  | none => rw [p] at e; cases e
  | some x =>
    obtain ⟨a, r⟩ := x
    rw [p] at e
    cases r with
    | nil =>
      cases e
      obtain ⟨h1, h2⟩ := prs_sound p
      rw [List.append_nil] at h1
      exact ⟨h1, h2⟩
    | cons _ _ => cases e
end Ag

namespace Ag
open PySem PySem.Spec PyProof.Rows L2
section
variable {X : Cx} {CX : CXT} {k : Nat} {C g : Addr} {fd : FuncData} {ps : List Str} {sp : Sp} {E : XK}
/-! ### len, repr, in, ==, != of an instance that has its own def for it -/
theorem call_lenOwn (hs : PySem.W.findIn X.K (.ref C) "__len__" = some (some (.ref g))) (hf : PySem.W.isFn X.K (.ref g) = true)
    (F : FnOk X.prog X.w X.K X.mg X.base CX k g fd ps sp) (hr : Room (k + 1) X.A) (hb : Binds X.K fd ps []) (hx : Passes CX X E) :
    CallR X (.builtin "len") (fun xs H Q => ∃ a dx fs, xs = [V.ref a] ∧ H a = some (.ins C dx fs) ∧ sp [.ref a] H (fun z H' => ∃ n : Int, z = .int n ∧ 0 ≤ n ∧ n < 2 ^ 63 ∧ Q (.int n) H') E) := by
  intro pins s σ H xs us Q I r h
  obtain ⟨a, dx, fs, rfl, ea, q⟩ := h
  obtain ⟨u, rfl, ru⟩ := r.one
  cases (show u = Value.ref a from ru)
  obtain ⟨mA, O, _⟩ := ins_get I.hok ea
  obtain ⟨od, J, _⟩ := O.look
  obtain ⟨m, hF⟩ := I.fr
  refine PySem.W.len_K hF I.ok.mod.kin J hs hf ?_
  refine wpAny_mono (wpAny_call (SlX.run_at (us := [.ref a]) (ws := [.ref a]) (F.raw hb .nil) hr.in1 I.env0.in1 hx I (.cons rfl .nil) q)) (fun w s' z => ?_) fun _ _ x => x
  obtain ⟨z', H', I', rz, n, en, h0, h1, qz⟩ := z
  subst en
  obtain ⟨t, e⟩ := (show ∃ t, w = Value.int n t from rz)
  cases e
  exact ⟨⟨h0, h1⟩, .int n, H', I'.tok _, ⟨_, rfl⟩, qz⟩
theorem call_reprOwn (hs : PySem.W.findIn X.K (.ref C) "__repr__" = some (some (.ref g))) (hf : PySem.W.isFn X.K (.ref g) = true)
    (F : FnOk X.prog X.w X.K X.mg X.base CX k g fd ps sp) (hr : Room (k + 1) X.A) (hb : Binds X.K fd ps []) (hx : Passes CX X E) :
    CallR X (.builtin "repr") (fun xs H Q => ∃ a dx fs, xs = [V.ref a] ∧ H a = some (.ins C dx fs) ∧ sp [.ref a] H (fun z H' => ∃ x : Str, z = .str x ∧ Q (.str x) H') E) := by
  intro pins s σ H xs us Q I r h
  obtain ⟨a, dx, fs, rfl, ea, q⟩ := h
  obtain ⟨u, rfl, ru⟩ := r.one
  cases (show u = Value.ref a from ru)
  obtain ⟨mA, O, _⟩ := ins_get I.hok ea
  obtain ⟨od, J, _⟩ := O.look
  obtain ⟨m, hF⟩ := I.fr
  refine PySem.W.repr_K (Room.units0 hr.in1) hF I.ok.mod.kin J hs hf ?_
  refine wpAny_mono (wpAny_call (SlX.run_at (us := [.ref a]) (ws := [.ref a]) (F.raw hb .nil) hr.in1 I.env0.in1 hx I (.cons rfl .nil) q)) (fun w s' z => ?_) fun _ _ x => x
  obtain ⟨z', H', I', rz, n, en, qz⟩ := z
  subst en
  obtain ⟨t, e⟩ := (show ∃ t, w = Value.str n t from rz)
  cases e
  exact ⟨.str n, H', I', ⟨_, rfl⟩, qz⟩
/-- x in o, o's class having its own __contains__ that gives a bool -/
theorem op_inOwn (hs : PySem.W.findIn X.K (.ref C) "__contains__" = some (some (.ref g))) (hf : PySem.W.isFn X.K (.ref g) = true)
    (F : FnOk X.prog X.w X.K X.mg X.base CX k g fd ps sp) (hr : Room k X.A) (hb : Binds X.K fd ps []) (hx : Passes CX X E) :
    OpR X (compareOp .In) (fun x y H Q => ∃ b dx fs, y = .ref b ∧ H b = some (.ins C dx fs) ∧ sp [.ref b, x] H (fun z H' => ∃ t : Bool, z = .bl t ∧ Q (.bl t) H') E) := by
  rintro pins s σ H x y v u Q I rx ry ⟨b, dx, fs, rfl, eb, q⟩
  cases ry
  obtain ⟨mA, O, _⟩ := ins_get I.hok eb
  obtain ⟨od, J, _⟩ := O.look
  obtain ⟨m, hF⟩ := I.fr
  refine PySem.W.in_K hF I.ok.mod.kin J hs hf ?_
  refine wpAny_mono (wpAny_call (run_fnR (us := [.ref b, v]) (vs := [.ref b, x]) (F.raw hb .nil) hr hx I (.cons rfl (.cons rx .nil)) q)) (fun w s' z => ?_) fun _ _ x => x
  obtain ⟨z', H', I', rz, t, en, qz⟩ := z
  subst en
  cases (show w = Value.bool t from rz)
  exact wpAny_truthy_bool ⟨.bl t, H', I', rfl, qz⟩
/-- x == y, x's class having its own __eq__, y an instance of the same class -/
theorem op_eqOwn (hn : PySem.W.notFirst X.K C (.ref C) = true) (hs : PySem.W.findIn X.K (.ref C) "__eq__" = some (some (.ref g))) (hf : PySem.W.isFn X.K (.ref g) = true)
    (F : FnOk X.prog X.w X.K X.mg X.base CX k g fd ps sp) (hr : Room k X.A) (hb : Binds X.K fd ps []) (hx : Passes CX X E) :
    OpR X (compareOp .Eq) (fun x y H Q => ∃ a b dx dy fs gs, x = .ref a ∧ y = .ref b ∧ H a = some (.ins C dx fs) ∧ H b = some (.ins C dy gs) ∧ sp [.ref a, .ref b] H Q E) := by
  rintro pins s σ H x y v u Q I rx ry ⟨a, b, dx, dy, fs, gs, rfl, rfl, ea, eb, q⟩
  cases rx
  cases ry
  obtain ⟨mA, O, _⟩ := ins_get I.hok ea
  obtain ⟨od, J, _⟩ := O.look
  obtain ⟨mB, O', _⟩ := ins_get I.hok eb
  obtain ⟨od', J', _⟩ := O'.look
  obtain ⟨m, hF⟩ := I.fr
  show wpAny _ _ (richCompare .Eq _ _) _ _ _
  refine PySem.W.cmp_K (op := .Eq) (tb := .ref C) hr.units0 hF I.ok.mod.kin J J'.type hn hs hf ?_
  refine wpAny_mono (wpAny_call (run_fnR (us := [.ref a, .ref b]) (vs := [.ref a, .ref b]) (F.raw hb .nil) hr hx I (.cons rfl (.cons rfl .nil)) q)) (fun w s' z => ?_) fun _ _ x => x
  obtain ⟨z', H', I', rz, qz⟩ := z
  exact SlX.cmpback rz ⟨z', H', I', rz, qz⟩
/-- x == l, x's class having its own __eq__, l a list -/
theorem op_eqOwnL (hn : PySem.W.notFirst X.K C (.type "list") = true) (hs : PySem.W.findIn X.K (.ref C) "__eq__" = some (some (.ref g))) (hf : PySem.W.isFn X.K (.ref g) = true)
    (F : FnOk X.prog X.w X.K X.mg X.base CX k g fd ps sp) (hr : Room k X.A) (hb : Binds X.K fd ps []) (hx : Passes CX X E) :
    OpR X (compareOp .Eq) (fun x y H Q => ∃ a b dx fs xs, x = .ref a ∧ y = .ref b ∧ H a = some (.ins C dx fs) ∧ SqL X.K H b xs ∧ sp [.ref a, .ref b] H Q E) := by
  rintro pins s σ H x y v u Q I rx ry ⟨a, b, dx, fs, xs, rfl, rfl, ea, eb, q⟩
  cases rx
  cases ry
  obtain ⟨mA, O, _⟩ := ins_get I.hok ea
  obtain ⟨od, J, _⟩ := O.look
  obtain ⟨its, rv, p, hz⟩ := I.list eb
  obtain ⟨oL, hoL, hcL, _⟩ := p.isList
  obtain ⟨m, hF⟩ := I.fr
  show wpAny _ _ (richCompare .Eq _ _) _ _ _
  refine PySem.W.cmp_K (op := .Eq) (tb := .type "list") hr.units0 hF I.ok.mod.kin J (fun A Q E s k q => wpAny_typeOf_ref (k _ _ hoL) (by rw [hcL]; exact q)) hn hs hf ?_
  refine wpAny_mono (wpAny_call (run_fnR (us := [.ref a, .ref b]) (vs := [.ref a, .ref b]) (F.raw hb .nil) hr hx I (.cons rfl (.cons rfl .nil)) q)) (fun w s' z => ?_) fun _ _ x => x
  obtain ⟨z', H', I', rz, qz⟩ := z
  exact SlX.cmpback rz ⟨z', H', I', rz, qz⟩
end
end Ag

namespace Ag
open PySem PySem.Spec PyProof.Rows L2
def top (i : Nat) : Stmt := PySem.Challenge.pw_addedgrounds_k04_texts_of_formulas_refus.main.body.getD i (.Pass ⟨0, 0, 0, 0⟩)
abbrev s_copied : Stmt := top 2
abbrev s_GroundError : Stmt := top 4
abbrev s_Missing : Stmt := top 5
abbrev s_InvalidFormula : Stmt := top 6
abbrev s_InvalidFormula_init : Stmt := inClass (top 6) 0
abbrev s_NothingLeft : Stmt := top 7
abbrev s_NothingLeft_init : Stmt := inClass (top 7) 0
abbrev s_is_letter : Stmt := top 16
abbrev s_is_name : Stmt := top 17
abbrev s_is_formula : Stmt := top 18
abbrev s_is_shape : Stmt := top 19
abbrev s_is_built : Stmt := top 20
abbrev s_is_leaf : Stmt := top 21
abbrev s_formula_text : Stmt := top 22
abbrev s_text_of : Stmt := top 23
abbrev s_read_formula : Stmt := top 24
abbrev s_parsed : Stmt := top 25
abbrev s_parsed_at : Stmt := top 26
abbrev s_parsed_joint : Stmt := top 27
abbrev s_parsed_hole : Stmt := top 28
abbrev s_parsed_atom : Stmt := top 29
abbrev s_law_bag : Stmt := top 31
abbrev s_law_pull : Stmt := top 32
abbrev s_law_any : Stmt := top 33
abbrev s_law_like : Stmt := top 34
abbrev s_law_fields : Stmt := top 35
abbrev s_law_try : Stmt := top 36
abbrev s_law_names : Stmt := top 37
abbrev s_law_form : Stmt := top 38
abbrev s_law_text : Stmt := top 39
abbrev s_law_reader : Stmt := top 40
abbrev s_law : Stmt := top 41
end Ag
namespace Ag
open PySem PySem.Spec PyProof.Rows L2
section
variable {P : Program} {w : World} {K : PySem.W.Frag} {mg : Str → Option Value} {base : Heap}
/-! ### _law_bag -/
def spBag (K : PySem.W.Frag) : Sp := fun vs H Q _ => ∃ (a : Addr) (ns : List Int), vs = [.ref a] ∧ SqL K H a (ns.map V.int) ∧ ns.length ≤ 63 ∧
  ∀ (b l : Addr) (H' : Hp), H b = none → Same H H' → Bag H' b l → Q (.ref b) H'
theorem scBag : FnScope ["_law_script"] ["_law_script"] (defScope s_law_bag) := ⟨rfl, rfl, rfl, by decide +kernel, rfl, by decide +kernel, by decide +kernel⟩
theorem ok_bag {f : Addr} {fd : FuncData} (F : Fun K "_law_bag" "_law_bag" s_law_bag f fd) (ml : mg "list" = none) : FnOk P w K mg base CX0 1 f fd ["_law_script"] (spBag K) := by
  refine F.ok scBag (fun vs H Q E h => ?_) (fun cdv A outer s H vs Q E hr h => ?_)
  · obtain ⟨a, ns, rfl, _⟩ := h
    rfl
  obtain ⟨a, ns, rfl, hS, h63, q⟩ := h
  refine ⟨_, pss_one (ps_ret (pe_lst (pa_cons (pe_callTy call_list_of (by rfl) ml (by decide +kernel) (pa_cons (pe_slice sl_list (pv 0) po_none (po_some pe_int)) pa_nil))
    (pa_cons pe_int (pa_cons pe_int (pa_cons pe_int (pa_cons pe_int pa_nil))))))), ?_⟩
  refine ⟨_, rfl, _, rfl, a, _, rfl, hS, fun p np => ?_⟩
  have ec : cutV (ns.map V.int) none (some 63) = ns.map V.int := by
    unfold cutV
    have e1 : HT.sIx (ns.map V.int).length 0 none = 0 := rfl
    have e2 : HT.sIx (ns.map V.int).length (ns.map V.int).length (some 63) = (ns.map V.int).length := by
      rw [List.length_map]
      unfold HT.sIx
      simp
      omega
    rw [e1, e2, List.drop_zero, List.take_of_length_le (by omega)]
  rw [ec]
  refine ⟨p, _, rfl, .inl (SqL.of upd_same), fun l nl => ?_⟩
  have npl : p ≠ l := ne_of_none upd_same nl
  have nHl : H l = none := (same_new np _).free nl
  refine ⟨(by show 5 ≤ sizeLine; decide), fun b nb => ?_⟩
  have nlb : l ≠ b := ne_of_none upd_same nb
  have s1 := (same_new np (.lst (ns.map V.int))).trans (same_new nl (.lst (ns.map V.int)))
  refine q b l _ (s1.free nb) (s1.trans (same_new nb _)) ⟨ns, 0, 0, 4932, 0, upd_same, ?_, nlb, h63, by decide, by decide, by decide⟩
  rw [upd_ne nlb, upd_same]
end

section
variable {P : Program} {w : World} {K : PySem.W.Frag} {mg : Str → Option Value} {base : Heap}
/-! ### _law_pull -/
def spPull : Sp := fun vs H Q _ => ∃ (b l : Addr) (m : Int), vs = [.ref b, .int m] ∧ Bag H b l ∧ 0 < m ∧ m < 2 ^ 62 ∧
  ∀ (d : Int) (H' : Hp), 0 ≤ d → d < m → Kp b H H' → Bag H' b l → Q (.int d) H'
theorem scPull : FnScope ["_law_bag_here", "_law_many", "_law_cell", "_law_digit", "_law_seed"] ["_law_bag_here", "_law_many"] (defScope s_law_pull) := ⟨rfl, rfl, rfl, by decide +kernel, rfl, by decide +kernel, by decide +kernel⟩
theorem ok_pull {f : Addr} {fd : FuncData} (F : Fun K "_law_pull" "_law_pull" s_law_pull f fd) (ml : mg "len" = none) (mi : mg "int" = none) : FnOk P w K mg base CX0 1 f fd ["_law_bag_here", "_law_many"] spPull := by
  refine F.ok scPull (fun vs H Q E h => ?_) (fun cdv A outer s H vs Q E hr h => ?_)
  · obtain ⟨b, l, m, rfl, _⟩ := h
    rfl
  obtain ⟨b, l, m, rfl, hB, hm, hm', q⟩ := h
  have nd := scPull.nd
  refine ⟨_, pss_cons (ps_if (PW.pt (pw_and (pt_cmpR op_eq (pe_ix ix_list (pv 0) pe_int (fun _ _ => rfl)) pe_int (nomark _)) (pw_and1 (pt_cmpR op_lt (pe_ix ix_list (pv 0) pe_int (fun _ _ => rfl)) (pe_callB call_len_seq (by rfl) ml boot_len (pa_cons (pe_ix ix_list (pv 0) pe_int (fun _ _ => rfl)) pa_nil)) (nomark _)))))
      (pss_cons (ps_set (i := 2) nd rfl (.inl rfl) (pe_ix ix_list (pe_ix ix_list (pv 0) pe_int (fun _ _ => rfl)) (pe_ix ix_list (pv 0) pe_int (fun _ _ => rfl)) (fun _ _ => rfl)))
      (pss_cons (ps_asg (pe_op op_add (pe_ix ix_list (pv 0) pe_int (fun _ _ => rfl)) pe_int) (pg_sub (pv 0) pe_int set_list))
      (pss_one (ps_if (pt_cmpR op_ge (pv 2) (pe_op op_pow pe_int pe_int) (nomark _))
        (pss_one (ps_asg (pv 2) (pg_sub (pv 0) pe_int set_list)))
        (pss_one (ps_asg (pe_op op_modN (pe_callTy call_int1 (by rfl) mi (by decide +kernel) (pa_cons (pe_op op_add (pe_op op_add (pe_op op_mul (pe_ix ix_list (pv 0) pe_int (fun _ _ => rfl)) pe_int) (pe_op op_mul (pe_op op_modN (pe_callTy call_int1 (by rfl) mi (by decide +kernel) (pa_cons (pv 2) pa_nil)) pe_int) pe_int)) pe_int) pa_nil)) pe_int) (pg_sub (pv 0) pe_int set_list))))))) pss_nil)
    (pss_cons (ps_if (pt_cmpR op_gt (pe_ix ix_list (pv 0) pe_int (fun _ _ => rfl)) pe_int (nomark _))
      (pss_cons (ps_set (i := 3) nd rfl (.inl rfl) (pe_op op_modN (pe_callTy call_int1 (by rfl) mi (by decide +kernel) (pa_cons (pe_ix ix_list (pv 0) pe_int (fun _ _ => rfl)) pa_nil)) (pv 1)))
      (pss_cons (ps_asg (pe_op op_fdivW (pe_ix ix_list (pv 0) pe_int (fun _ _ => rfl)) (pv 1)) (pg_sub (pv 0) pe_int set_list))
      (pss_one (ps_ret (pv 3))))) pss_nil)
    (pss_cons (ps_asg (pe_op op_add (pe_ix ix_list (pv 0) pe_int (fun _ _ => rfl)) pe_int) (pg_sub (pv 0) pe_int set_list))
    (pss_cons (ps_set (i := 4) nd rfl (.inl rfl) (pe_ix ix_list (pv 0) pe_int (fun _ _ => rfl)))
    (pss_cons (ps_asg (pe_op op_modN (pe_callTy call_int1 (by rfl) mi (by decide +kernel) (pa_cons (pe_op op_add (pe_op op_add (pe_op op_add (pe_op op_mul (pe_op op_mul (pv 4) (pv 4)) pe_int) (pe_op op_mul (pv 4) pe_int)) (pe_op op_mul (pe_ix ix_list (pv 0) pe_int (fun _ _ => rfl)) pe_int)) pe_int) pa_nil)) pe_int) (pg_sub (pv 0) pe_int set_list))
    (pss_one (ps_ret (pe_op op_modN (pe_callTy call_int1 (by rfl) mi (by decide +kernel) (pa_cons (pe_op op_add (pe_op op_fdivN (pe_ix ix_list (pv 0) pe_int (fun _ _ => rfl)) pe_int) (pe_op op_mul (pe_op op_modN (pe_callTy call_int1 (by rfl) mi (by decide +kernel) (pa_cons (pe_ix ix_list (pv 0) pe_int (fun _ _ => rfl)) pa_nil)) pe_int) pe_int)) pa_nil)) (pv 1)))))))), ?_⟩
  refine tseq (fun σ' H' => ∃ cv : Option V, σ' = [some (.ref b), some (.int m), cv, none, none] ∧ Kp b H H' ∧ Bag H' b l) (fun σ' H1 hM => ?_) (fun tail => ?_)
  · obtain ⟨cv, rfl, k, ns, at', big, seed, cnt, h1, h2, hl, h63, hb, h0, h9⟩ := hM
    refine ⟨_, rfl, b, _, _, _, rfl, rfl, SqL.of h1, rfl, _, _, rfl, rfl, _, rfl, ?_⟩
    refine ite2 (fun c => ?_) (fun c => ?_)
    · refine ⟨_, rfl, b, _, _, _, rfl, rfl, SqL.of h1, rfl, .inl ⟨_, rfl, ?_⟩⟩
      refine ⟨_, rfl, _, _, rfl, rfl, (by omega), ?_⟩
      refine ⟨_, rfl, b, _, _, _, rfl, rfl, SqL.of h1, rfl, _, rfl, _, _, rfl, rfl, wide_div hm (b := 62) (by omega) (by decide) (by decide), ?_⟩
      refine ⟨_, rfl, b, _, _, _, rfl, rfl, h1, rfl, ?_⟩
      refine ⟨_, rfl, ?_⟩
      refine q _ _ (fm_in big hm).1 (fm_in big hm).2 (k.trans kp_upd) ⟨ns, at', big / m, seed, cnt, upd_same, ?_, hl, h63, Int.ediv_nonneg (by omega) (by omega), h0, h9⟩
      rw [upd_ne hl]; exact h2
    · refine ⟨_, rfl, b, _, _, _, rfl, rfl, SqL.of h1, rfl, _, _, rfl, rfl, _, rfl, b, _, _, _, rfl, rfl, h1, rfl, ?_⟩
      refine ⟨_, rfl, b, _, _, _, rfl, rfl, SqL.of upd_same, rfl, ?_⟩
      have cs : CMul seed seed := .inl ⟨by omega, by omega⟩
      have cr : ∀ i j : Int, -(2 ^ 64) < j ∧ j < 2 ^ 64 → CMul i j := fun i j h => .inr h
      refine ⟨_, rfl, _, rfl, _, _, rfl, rfl, cs, _, _, rfl, rfl, cr _ _ (by decide), _, rfl, _, _, rfl, rfl, cr _ _ (by decide), _, _, rfl, rfl,
        _, rfl, b, _, _, _, rfl, rfl, SqL.of upd_same, rfl, _, _, rfl, rfl, cr _ _ (by decide), _, _, rfl, rfl, _, _, rfl, rfl, .inl ⟨_, rfl, _, _, rfl, rfl, (by show (2147483629 : Int) ≠ 0; decide), ?_⟩⟩
      refine ⟨_, rfl, b, _, _, _, rfl, rfl, upd_same, rfl, ?_⟩
      have sd := fm_in (seed * seed * 3 + seed * 27011 + (cnt + 1) * 1299689 + 40507) (m := 2147483629) (by decide)
      refine ⟨_, rfl, b, _, _, _, rfl, rfl, SqL.of upd_same, rfl, _, _, rfl, rfl, ⟨by decide, by decide⟩, _, rfl, b, _, _, _, rfl, rfl, SqL.of upd_same, rfl, .inl ⟨_, rfl, _, _, rfl, rfl, (by show (7901 : Int) ≠ 0; decide), _, _, rfl, rfl, cr _ _ (by decide), _, _, rfl, rfl,
        .inl ⟨_, rfl, _, rfl, _, _, rfl, rfl, by omega, ?_⟩⟩⟩
      refine q _ _ (fm_in _ hm).1 (fm_in _ hm).2 (k.trans (kp_upd.trans kp_upd)) ⟨ns, at', big, _, cnt + 1, upd_same, ?_, hl, h63, hb, sd.1, sd.2⟩
      rw [upd_ne hl, upd_ne hl]; exact h2
  · obtain ⟨ns, at', big, seed, cnt, h1, h2, hl, h63, hb, h0, h9⟩ := hB
    refine ⟨_, rfl, b, _, _, _, rfl, rfl, SqL.of h1, rfl, rfl, _, rfl, ?_⟩
    refine ite2 (fun c => ?_) (fun c => ?_)
    · refine ⟨_, rfl, b, _, _, _, rfl, rfl, SqL.of h1, rfl, _, rfl, b, _, _, _, rfl, rfl, SqL.of h1, rfl, l, _, rfl, .inl (SqL.of h2), _, _, rfl, rfl, _, rfl, ?_⟩
      refine ite2 (fun c1 => ?_) (fun c1 => ?_)
      · have c2 : at' < (ns.map V.int).length := by have z := of_decide_eq_true c1; omega
        have c3 : at' < ns.length := by rw [List.length_map] at c2; exact c2
        have hv : atI (ns.map V.int) (at' : Int) = some (.int ns[at']) := atI_nat (by rw [List.getElem?_map, List.getElem?_eq_getElem c3]; rfl)
        refine ⟨_, rfl, b, _, _, _, rfl, rfl, SqL.of h1, rfl, _, rfl, b, _, _, _, rfl, rfl, SqL.of h1, rfl, l, _, _, _, rfl, rfl, SqL.of h2, hv, ?_⟩
        refine ⟨_, rfl, b, _, _, _, rfl, rfl, SqL.of h1, rfl, _, _, rfl, rfl, _, rfl, b, _, _, _, rfl, rfl, h1, rfl, ?_⟩
        refine ⟨_, rfl, _, _, rfl, rfl, ⟨by decide, by decide, by decide⟩, _, _, rfl, rfl, _, rfl, ?_⟩
        refine ite2 (fun c4 => ?_) (fun c4 => ?_)
        · have c5 : ns[at'] ≥ 10 ^ (18 : Int).toNat := of_decide_eq_true c4
          have c6 : (0 : Int) ≤ ns[at'] := by
            have z : (0 : Int) ≤ 10 ^ (18 : Int).toNat := by decide
            omega
          refine ⟨_, rfl, _, rfl, b, _, _, _, rfl, rfl, upd_same, rfl, ?_⟩
          refine tail _ _ ⟨_, rfl, kp_upd.trans kp_upd, ns, at' + 1, ns[at'], seed, cnt, upd_same, ?_, hl, h63, c6, h0, h9⟩
          rw [upd_ne hl, upd_ne hl]; exact h2
        · refine ⟨_, rfl, b, _, _, _, rfl, rfl, SqL.of upd_same, rfl, _, _, rfl, rfl, .inr ⟨by decide, by decide⟩, _, rfl, .inl ⟨_, rfl, _, _, rfl, rfl, (by show (2147483489 : Int) ≠ 0; decide), _, _, rfl, rfl, .inr ⟨by decide, by decide⟩, _, _, rfl, rfl, _, _, rfl, rfl,
            .inl ⟨_, rfl, _, _, rfl, rfl, (by show (2147483629 : Int) ≠ 0; decide), ?_⟩⟩⟩
          refine ⟨_, rfl, b, _, _, _, rfl, rfl, upd_same, rfl, ?_⟩
          have sd := fm_in (seed * 40009 + ns[at'].fmod 2147483489 * 30011 + 17) (m := 2147483629) (by decide)
          refine tail _ _ ⟨_, rfl, kp_upd.trans kp_upd, ns, at' + 1, big, _, cnt, upd_same, ?_, hl, h63, hb, sd.1, sd.2⟩
          rw [upd_ne hl, upd_ne hl]; exact h2
      · refine tail _ _ ⟨none, rfl, .refl _ _, ns, at', big, seed, cnt, h1, h2, hl, h63, hb, h0, h9⟩
    · exact tail _ _ ⟨none, rfl, .refl _ _, ns, at', big, seed, cnt, h1, h2, hl, h63, hb, h0, h9⟩
end

section
variable {P : Program} {w : World} {K : PySem.W.Frag} {mg : Str → Option Value} {base : Heap}
/-! ### _law_any -/
def spAny (K : PySem.W.Frag) : Sp := fun vs H Q _ => ∃ (b l : Addr) (x : V) (its : List V), vs = [.ref b, x] ∧ Bag H b l ∧ Itm K H b x its ∧ 0 < its.length ∧ its.length < 2 ^ 62 ∧
  ∀ (i : Nat) (v : V) (H' : Hp), its[i]? = some v → Kp b H H' → Bag H' b l → Q v H'
theorem scAny : FnScope ["_law_bag_here", "_law_things"] ["_law_bag_here", "_law_things"] (defScope s_law_any) := ⟨rfl, rfl, rfl, by decide +kernel, rfl, by decide +kernel, by decide +kernel⟩
theorem ok_any {f : Addr} {fd : FuncData} (F : Fun K "_law_any" "_law_any" s_law_any f fd) (cP : C8.Cal P w K mg base 1 "_law_pull" spPull []) (ml : mg "len" = none) :
    FnOk P w K mg base CX0 2 f fd ["_law_bag_here", "_law_things"] (spAny K) := by
  refine F.ok scAny (fun vs H Q E h => ?_) (fun cdv A outer s H vs Q E hr h => ?_)
  · obtain ⟨b, l, x, its, rfl, _⟩ := h
    rfl
  obtain ⟨b, l, x, its, rfl, hB, hI, h0, h1, q⟩ := h
  refine ⟨_, pss_one (ps_ret (pe_ix ix_seq (pv 1) (C8.pe_c cP hr (by decide) (by rfl) (pa_cons (pv 0) (pa_cons (pe_callB call_len (by rfl) ml boot_len (pa_cons (pv 1) pa_nil)) pa_nil))) (fun _ _ => rfl))), ?_⟩
  rcases hI with ⟨z, rfl, hz, rfl⟩ | ⟨a, rfl, hab, hs⟩
  · have el : z.length = z.cps.toList.length := by simp [Str.length]
    rw [List.length_map] at h0 h1
    refine ⟨_, rfl, _, rfl, _, rfl, _, z.length, rfl, ⟨hz, rfl⟩, b, l, _, rfl, hB, by omega, by omega, fun d H' hd0 hd1 k hB' => ?_⟩
    have hd : d.toNat < z.cps.toList.length := by omega
    have hat : atI z.cps.toList d = some z.cps.toList[d.toNat] := at_any (by omega) (List.getElem?_eq_getElem hd)
    refine .inr (.inr ⟨z, d, _, rfl, rfl, hz, hat, ?_⟩)
    refine q d.toNat _ H' ?_ k hB'
    rw [List.getElem?_map, List.getElem?_eq_getElem hd]
    rfl
  · have hl : LenV K (.ref a) H its.length := by
      rcases hs with hs | hs
      · exact .inl ⟨_, hs, rfl⟩
      · exact .inr ⟨_, hs, rfl⟩
    refine ⟨_, rfl, _, rfl, _, rfl, _, its.length, rfl, hl, b, l, _, rfl, hB, by omega, by omega, fun d H' hd0 hd1 k hB' => ?_⟩
    have hd : d.toNat < its.length := by omega
    have hg : its[d.toNat]? = some its[d.toNat] := List.getElem?_eq_getElem hd
    have hat : atI its d = some its[d.toNat] := at_of (by omega) hg
    rcases hs with hs | hs
    · exact .inl ⟨a, _, d, _, rfl, rfl, k.seqL hab hs, hat, q _ _ _ hg k hB'⟩
    · exact .inr (.inl ⟨a, _, d, _, rfl, rfl, k.seqT hab hs, hat, q _ _ _ hg k hB'⟩)

end

section
variable {P : Program} {w : World} {K : PySem.W.Frag} {mg : Str → Option Value} {base : Heap}
/-! ### _law_names -/
def spNames : Sp := fun vs H Q _ => ∃ (b l : Addr) (m : Nat), vs = [.ref b, .int (m : Int)] ∧ Bag H b l ∧ m ≤ 1000 ∧
  ∀ (r : Addr) (ws : List (List Nat)) (H' : Hp), Nms m ws → H r = none → Kp b H H' → Bag H' b l → H' r = some (.lst (ws.map fun w => V.str (SX.S w))) → Q (.ref r) H'
theorem scNames : FnScope ["_law_bag_here", "_law_many", "_law_letters", "_law_k", "_law_stem", "_law_at", "_law_first"] ["_law_bag_here", "_law_many"] (defScope s_law_names) := ⟨rfl, rfl, rfl, by decide +kernel, rfl, by decide +kernel, by decide +kernel⟩
theorem ok_names {f : Addr} {fd : FuncData} (F : Fun K "_law_names" "_law_names" s_law_names f fd) (cP : C8.Cal P w K mg base 1 "_law_pull" spPull []) (cA : C8.Cal P w K mg base 2 "_law_any" (spAny K) []) (M : NamesM mg) : FnOk P w K mg base CX0 3 f fd ["_law_bag_here", "_law_many"] spNames := by
  refine F.ok scNames (fun vs H Q E h => ?_) (fun cdv A outer s H vs Q E hr h => ?_)
  · obtain ⟨b, l, m, rfl, _⟩ := h
    rfl
  obtain ⟨b, l, m, rfl, hB, hm, q⟩ := h
  have nd := scNames.nd
  refine ⟨_, pss_cons (ps_set (i := 2) nd rfl (.inr rfl) pe_str)
    (pss_cons (ps_set (i := 4) nd rfl (.inr rfl) (pe_join pe_str (pe_lc (own := [("_law_k", 3)]) (g := gName 3) (tt := tYes) rfl nd (pi_range1 (by rfl) M.range (pa_cons (C8.pe_c cP hr (by decide) (by rfl) (pa_cons (pv 0) (pa_cons pe_int pa_nil))) pa_nil))
      (blkOk_by (own := [("_law_k", 3)]) (N := ["_law_bag_here", "_law_many", "_law_letters", "_law_k", "_law_stem", "_law_at", "_law_first"]) (sc := defScope s_law_names) (by decide +kernel)) (fun _ _ _ _ _ => pg_name (i := 3) nd rfl (Or.inl rfl)) (fun _ _ _ _ _ => pts_nil)
      (fun _ _ _ _ _ => C8.pe_c cA hr (by decide) (by rfl) (pa_cons (pv 0) (pa_cons (pv 2) pa_nil))))))
    (pss_cons (ps_asg (pe_tup (pa_cons (C8.pe_c cP hr (by decide) (by rfl) (pa_cons (pv 0) (pa_cons (pe_op op_add (pe_callB call_len (by rfl) M.len boot_len (pa_cons (pv 4) pa_nil)) pe_int) pa_nil))) (pa_cons (C8.pe_c cP hr (by decide) (by rfl) (pa_cons (pv 0) (pa_cons pe_int pa_nil))) pa_nil)))
      (pg_tup rfl (pgs_cons (pg_name (i := 5) nd rfl (.inr rfl)) (pgs_cons (pg_name (i := 6) nd rfl (.inr rfl)) pgs_nil))))
    (pss_one (ps_ret (pe_lc (own := [("_law_k", 3)]) (g := gName 3) (tt := tYes) rfl nd (pi_range1 (by rfl) M.range (pa_cons (pv 1) pa_nil))
      (blkOk_by (own := [("_law_k", 3)]) (N := ["_law_bag_here", "_law_many", "_law_letters", "_law_k", "_law_stem", "_law_at", "_law_first"]) (sc := defScope s_law_names) (by decide +kernel)) (fun _ _ _ _ _ => pg_name (i := 3) nd rfl (Or.inl rfl)) (fun _ _ _ _ _ => pts_nil)
      (fun _ _ _ _ _ => pe_op op_add_str (pe_op op_add_str (pe_slice C8.sl_txt (pv 4) po_none (po_some (pv 5))) (pe_ix ix_str (pv 2) (pe_op op_modN (pe_callTy call_int1 (by rfl) M.int (by decide +kernel) (pa_cons (pe_op op_add (pv 6) (pe_op op_mul pe_int (pv 3))) pa_nil)) pe_int) (fun _ _ => rfl))) (pe_slice C8.sl_txt (pv 4) (po_some (pv 5)) po_none))))))), ?_⟩
  -- the stem's length, its signs
  refine ⟨⟨_, rfl⟩, _, rfl, b, l, 5, rfl, hB, by decide, by decide, fun d H1 hd0 hd1 k1 B1 => ?_⟩
  refine ⟨d, rfl, by omega, by omega, fun D nD => ?_⟩
  have nDb := B1.new nD
  refine lc_range (lo := 0) (n := d.toNat) (fun i H' => ∃ cs : List Nat, Low cs ∧ cs.length = i ∧ Kp b H H' ∧ Bag H' b l ∧ H' D = some (.lst ((cs.map fun c => (⟨#[c]⟩ : Str)).map V.str))) ⟨[], fun c hc => (by cases hc), rfl, k1.trans (.of (same_new nD _)), B1.kp (same_new nD _), upd_same⟩ ?_ ?_
  · rintro i H2 hi ⟨cs, hlow, hcl, k2, B2, hD⟩
    refine ⟨rfl, _, rfl, _, rfl, b, l, _, abc.map (fun c => V.str ⟨#[c]⟩), rfl, B2, .inl ⟨_, rfl, (by rw [abc_str, SX.S_len, abc_len]; decide), by rw [abc_str]⟩, by rw [List.length_map, abc_len]; decide, by rw [List.length_map, abc_len]; decide, fun j v H3 hv k3 B3 => ?_⟩
    rw [List.getElem?_map] at hv
    obtain ⟨c, hc, rfl⟩ := Option.map_eq_some_iff.mp hv
    have hcl' : Low [c] := .one (abc_mem.mp (List.mem_of_getElem? hc))
    have hD3 := k3 _ _ hD nDb.1
    refine ⟨_, hD3, (by rw [List.length_map, List.length_map, hcl]; exact small1000 (by omega)), cs ++ [c], hlow.app hcl', by rw [List.length_append, hcl]; rfl, ?_, ?_, ?_⟩
    · exact (k2.trans k3).upd (k1.free nDb.1 nD)
    · exact B3.upd nDb.1 nDb.2
    · rw [upd_same, List.map_append, List.map_append]
      rfl
  · rintro H2 ⟨cs, hlow, hcl, k2, B2, hD⟩
    have sz : ((cs.map fun c => (⟨#[c]⟩ : Str)).map (·.length)).sum + (cs.map fun c => (⟨#[c]⟩ : Str)).length * (Str.ofString "").length ≤ 16777216 := by
      have e1 : ∀ l : List Nat, ((l.map fun c => (⟨#[c]⟩ : Str)).map (·.length)).sum = l.length := fun l => by
        induction l with
        | nil => rfl
        | cons c r ih =>
          rw [List.map_cons, List.map_cons, List.sum_cons, ih, List.length_cons]
          show 1 + r.length = r.length + 1
          omega
      have e2 : (Str.ofString "").length = 0 := rfl
      rw [e1, e2]
      omega
    refine ⟨_, D, _, rfl, rfl, .inl (SqL.of hD), sz, ?_⟩
    rw [join_signs]
    have hz : (SX.S cs).length ≤ sizeLine := by rw [SX.S_len]; exact small (by omega)
    -- at, first
    refine ⟨_, rfl, _, rfl, _, (SX.S cs).length, rfl, ⟨hz, rfl⟩, _, _, rfl, rfl, b, l, _, rfl, B2, by omega, by rw [SX.S_len]; omega, fun at' H3 ha0 ha1 k3 B3 => ?_⟩
    refine ⟨_, rfl, b, l, 26, rfl, B3, by decide, by decide, fun fi H4 hf0 hf1 k4 B4 => ?_⟩
    refine ⟨(by show 2 ≤ sizeLine; decide), fun t nt => ⟨t, _, rfl, SqT.of upd_same, rfl, _, _, rfl, _, _, rfl, rfl, ?_⟩⟩
    rw [SX.S_len] at ha1
    have nt' := B4.new nt
    have B5 := B4.kp (same_new nt (.tup [.int at', .int fi]))
    have k5 : Kp b H (upd H4 t (.tup [.int at', .int fi])) := (k2.trans (k3.trans k4)).trans (.of (same_new nt _))
    -- the names
    refine ⟨_, rfl, (m : Int), rfl, by omega, by omega, fun R nR => ?_⟩
    have nR' := B5.new nR
    have hR0 : H R = none := k5.free nR'.1 nR
    refine lc_range (lo := 0) (n := (m : Int).toNat) (fun i H' => Kp b H H' ∧ Bag H' b l ∧ H' R = some (.lst (((List.range i).map (nm cs at'.toNat fi.toNat)).map fun w => V.str (SX.S w)))) ⟨k5.upd hR0, B5.upd nR'.1 nR'.2, upd_same⟩ ?_ ?_
    · rintro i H6 hi ⟨k6, B6, hR⟩
      refine ⟨rfl, ?_⟩
      have him : i < m := by omega
      have e5 : ((fi + 5 * (0 + (i : Int))).fmod 26) = (((fi.toNat + 5 * i) % 26 : Nat) : Int) := by
        rw [Int.fmod_eq_emod_of_nonneg _ (by decide)]
        omega
      have hat : atI ("abcdefghijklmnopqrstuvwxyz" : Str).cps.toList ((fi + 5 * (0 + (i : Int))).fmod 26) = some (97 + (fi.toNat + 5 * i) % 26) := by
        rw [e5, abc_str]
        refine atI_nat ?_
        show abc[(fi.toNat + 5 * i) % 26]? = _
        rw [abc_at (Nat.mod_lt _ (by decide)), Nat.add_comm]
      have hz26 : ("abcdefghijklmnopqrstuvwxyz" : Str).length ≤ sizeLine := by rw [abc_str, SX.S_len, abc_len]; decide
      refine ⟨_, rfl, _, rfl, at', rfl, SX.S cs, rfl, hz, ?_⟩
      rw [SX.slice_to ha0]
      refine ⟨_, rfl, _, rfl, _, rfl, _, _, rfl, rfl, .inl ⟨by decide, by decide⟩, _, _, rfl, rfl, .inl ⟨_, rfl, _, _, rfl, rfl, (by show (26 : Int) ≠ 0; decide), _, _, _, rfl, rfl, hz26, hat, ?_⟩⟩
      refine ⟨_, _, rfl, rfl, (by rw [SX.S_len, List.length_take]; show min _ _ + 1 ≤ sizeLine; exact small (by omega)), ?_⟩
      have ec1 : SX.S (cs.take at'.toNat) ++ (⟨#[97 + (fi.toNat + 5 * i) % 26]⟩ : Str) = SX.S (cs.take at'.toNat ++ [97 + (fi.toNat + 5 * i) % 26]) := SX.S_cat _ [_]
      rw [ec1]
      refine ⟨_, rfl, _, rfl, at', rfl, SX.S cs, rfl, hz, ?_⟩
      rw [SX.slice_from ha0]
      refine ⟨_, _, rfl, rfl, (by rw [SX.S_len, SX.S_len, List.length_append, List.length_take, List.length_drop, List.length_singleton]; exact small (by omega)), ?_⟩
      rw [SX.S_cat]
      refine ⟨_, hR, (by rw [List.length_map, List.length_map, List.length_range]; exact small1000 (by omega)), k6.upd hR0, B6.upd nR'.1 nR'.2, ?_⟩
      rw [upd_same, List.range_succ, List.map_append, List.map_append]
      rfl
    · rintro H6 ⟨k6, B6, hR⟩
      rw [Int.toNat_natCast] at hR
      exact q R _ H6 ⟨cs, at'.toNat, fi.toNat, hlow, by omega, by omega, by omega, rfl⟩ hR0 k6 B6 hR
end

end Ag

namespace Ag
open PySem PySem.Spec PyProof.Rows L2
section
variable {P : Program} {w : World} {K : PySem.W.Frag} {mg : Str → Option Value} {base : Heap}
/-! ### _law_like: two things that are told by the same data are alike -/
def spLike (K : PySem.W.Frag) (n : Nat) : Sp := fun vs H Q _ => ∃ (x y : V) (d : PyData), vs = [x, y] ∧ Da K H x d ∧ Da K H y d ∧ oka n d = true ∧ ∀ H', Same H H' → Q (.bl true) H'
theorem scLike : FnScope ["_law_found", "_law_due", "_law_key", "_law_one", "_law_other"] ["_law_found", "_law_due"] (defScope s_law_like) := ⟨rfl, rfl, rfl, by decide +kernel, rfl, by decide +kernel, by decide +kernel⟩
theorem ok_like {n : Nat} {f : Addr} {fd : FuncData} (F : Fun K "_law_like" "_law_like" s_law_like f fd) (cG : C8.Cal P w K mg base n "_law_like" (spLike K n) []) (M : LikeM mg) :
    FnOk P w K mg base CX0 (n + 1) f fd ["_law_found", "_law_due"] (spLike K (n + 1)) := by
  refine F.ok scLike (fun vs H Q E h => ?_) (fun cdv A outer s H vs Q E hr h => ?_)
  · obtain ⟨x, y, d, rfl, _⟩ := h
    rfl
  obtain ⟨x, y, d, rfl, hx, hy, hok, q⟩ := h
  have nd := scLike.nd
  refine ⟨_, pss_cons (ps_if (pt_val (pe_callB call_isi (by rfl) M.isi (by decide +kernel) (pa_cons (pv 1) (pa_cons (pe_bltn (v := .ty "dict") (u := .type "dict") (by rfl) M.dict (by decide +kernel) rfl) pa_nil)))) (pss_one (ps_ret (pe_and (pe_callB call_isi (by rfl) M.isi (by decide +kernel) (pa_cons (pv 0) (pa_cons (pe_bltn (v := .ty "dict") (u := .type "dict") (by rfl) M.dict (by decide +kernel) rfl) pa_nil)))
        (pe_and (pe_cmpR (op_eqD hr.units) (pe_callB cr_sortedS (by rfl) M.sorted (by decide +kernel) (pa_cons (pe_callTy (call_listD rfl) (by rfl) M.list (by decide +kernel) (pa_cons (pv 0) pa_nil)) pa_nil))
            (pe_callB cr_sortedS (by rfl) M.sorted (by decide +kernel) (pa_cons (pe_callTy (call_listD rfl) (by rfl) M.list (by decide +kernel) (pa_cons (pv 1) pa_nil)) pa_nil)) (nomark _))
          (pe_one (pe_callB (cr_all rfl) (by rfl) M.all (by decide +kernel) (pa_cons (pe_lock (pe_lc (own := [("_law_key", 2)]) (g := gName 2) (tt := tYes) rfl nd (pi_keys (pv 1)) (blkOk_by (own := [("_law_key", 2)]) (N := ["_law_found", "_law_due", "_law_key", "_law_one", "_law_other"]) (sc := defScope s_law_like) (by decide +kernel))
            (fun _ _ _ _ _ => pg_name (i := 2) nd rfl (Or.inl rfl)) (fun _ _ _ _ _ => pts_nil) (fun _ _ _ _ _ => C8.pe_c cG hr (Nat.le_refl n) (by rfl) (pa_cons (pe_dget (hu_of hr) (pv 0) (pv 2) (fun _ _ => rfl)) (pa_cons (pe_dget (hu_of hr) (pv 1) (pv 2) (fun _ _ => rfl)) pa_nil))))) pa_nil))))))) pss_nil)
    (pss_cons (ps_if (pt_val (pe_callB call_isiT (by rfl) M.isi (by decide +kernel) (pa_cons (pv 1) (pa_cons (pe_tup (pa_cons (pe_bltn (v := .ty "list") (u := .type "list") (by rfl) M.list (by decide +kernel) rfl) (pa_cons (pe_bltn (v := .ty "tuple") (u := .type "tuple") (by rfl) M.tuple (by decide +kernel) rfl) pa_nil))) pa_nil))))
      (pss_cons (ps_if (PW.pt (pw_or (pt_cmpR op_ne (pe_callB call_isi (by rfl) M.isi (by decide +kernel) (pa_cons (pv 0) (pa_cons (pe_bltn (v := .ty "list") (u := .type "list") (by rfl) M.list (by decide +kernel) rfl) pa_nil))) (pe_callB call_isi (by rfl) M.isi (by decide +kernel) (pa_cons (pv 1) (pa_cons (pe_bltn (v := .ty "list") (u := .type "list") (by rfl) M.list (by decide +kernel) rfl) pa_nil))) (nomark _))
          (pw_or1 (pt_cmpR op_ne (pe_callB call_isi (by rfl) M.isi (by decide +kernel) (pa_cons (pv 0) (pa_cons (pe_bltn (v := .ty "tuple") (u := .type "tuple") (by rfl) M.tuple (by decide +kernel) rfl) pa_nil))) (pe_callB call_isi (by rfl) M.isi (by decide +kernel) (pa_cons (pv 1) (pa_cons (pe_bltn (v := .ty "tuple") (u := .type "tuple") (by rfl) M.tuple (by decide +kernel) rfl) pa_nil))) (nomark _))))) (pss_one (ps_ret pe_bl)) pss_nil)
      (pss_one (ps_ret (pe_and (pe_cmpR op_eq (pe_callB call_len (by rfl) M.len boot_len (pa_cons (pv 0) pa_nil)) (pe_callB call_len (by rfl) M.len boot_len (pa_cons (pv 1) pa_nil)) (nomark _))
        (pe_one (pe_callB (cr_all rfl) (by rfl) M.all (by decide +kernel) (pa_cons (pe_lc (own := [("_law_one", 3), ("_law_other", 4)]) (g := gTup K 2 (gCons (gName 3) (gCons (gName 4) gNil))) (tt := tYes) rfl nd (RZ.pi_zipA (by rfl) M.zip (pa_cons (pv 0) (pa_cons (pv 1) pa_nil))) (blkOk_by (own := [("_law_one", 3), ("_law_other", 4)]) (N := ["_law_found", "_law_due", "_law_key", "_law_one", "_law_other"]) (sc := defScope s_law_like) (by decide +kernel))
          (fun _ _ _ _ _ => pg_tup rfl (pgs_cons (pg_name (i := 3) nd rfl (Or.inl rfl)) (pgs_cons (pg_name (i := 4) nd rfl (Or.inl rfl)) pgs_nil))) (fun _ _ _ _ _ => pts_nil) (fun _ _ _ _ _ => C8.pe_c cG hr (Nat.le_refl n) (by rfl) (pa_cons (pv 3) (pa_cons (pv 4) pa_nil)))) pa_nil))))))) pss_nil)
    (pss_cons (ps_if (PW.pt (pw_or (pt_cmp (pc_isN (pv 1)) rfl) (pw_or1 (pt_cmp (pc_isN (pv 0)) rfl)))) (pss_one (ps_ret (pe_and (pe_cmp (pc_isN (pv 1)) rfl) (pe_one (pe_cmp (pc_isN (pv 0)) rfl))))) pss_nil)
    (pss_cons (ps_if (PW.pt (pw_or (pt_cmpR op_ne (pe_callB call_isi (by rfl) M.isi (by decide +kernel) (pa_cons (pv 0) (pa_cons (pe_bltn (v := .ty "bool") (u := .type "bool") (by rfl) M.bool (by decide +kernel) rfl) pa_nil))) (pe_callB call_isi (by rfl) M.isi (by decide +kernel) (pa_cons (pv 1) (pa_cons (pe_bltn (v := .ty "bool") (u := .type "bool") (by rfl) M.bool (by decide +kernel) rfl) pa_nil))) (nomark _))
          (pw_or1 (pt_cmpR op_ne (pe_callB call_isi (by rfl) M.isi (by decide +kernel) (pa_cons (pv 0) (pa_cons (pe_bltn (v := .ty "int") (u := .type "int") (by rfl) M.int (by decide +kernel) rfl) pa_nil))) (pe_callB call_isi (by rfl) M.isi (by decide +kernel) (pa_cons (pv 1) (pa_cons (pe_bltn (v := .ty "int") (u := .type "int") (by rfl) M.int (by decide +kernel) rfl) pa_nil))) (nomark _))))) (pss_one (ps_ret pe_bl)) pss_nil)
    (pss_one (ps_ret (pe_and (pe_cmpR op_eq (pe_callB call_isi (by rfl) M.isi (by decide +kernel) (pa_cons (pv 0) (pa_cons (pe_bltn (v := .ty "str") (u := .type "str") (by rfl) M.str (by decide +kernel) rfl) pa_nil))) (pe_callB call_isi (by rfl) M.isi (by decide +kernel) (pa_cons (pv 1) (pa_cons (pe_bltn (v := .ty "str") (u := .type "str") (by rfl) M.str (by decide +kernel) rfl) pa_nil))) (nomark _))
      (pe_one (pe_cmpR op_eq (pv 0) (pv 1) (nomark _))))))))), ?_⟩
  have kd := kit_some (d := d)
  -- isinstance(due, dict)
  refine ⟨_, rfl, y, .ty "dict", _, .type "dict", _, rfl, .ty _, da_tyx hy, isk kd.1, _, rfl, ?_⟩
  by_cases hdic : ∃ es, d = .dict es
  · obtain ⟨es, rfl⟩ := hdic
    refine iteU isD_dic ?_
    cases hx with
    | @dic a kvs kvs' _ ea p1 n1 r1 =>
    cases hy with
    | @dic c kws kws' _ ec p2 n2 r2 =>
      refine ⟨_, rfl, .ref a, .ty "dict", _, .type "dict", _, rfl, .ty _, .base (.dK ea), isk (d := .dict es) kd.1, _, rfl, iteU isD_dic ?_⟩
      obtain ⟨k1, e1, l1, o1, t1, u1⟩ := dic_keys (fun _ _ z => z.1) hok r1
      obtain ⟨k2, e2, l2, o2, t2, u2⟩ := dic_keys (fun _ _ z => z.1) hok r2
      have e12 : k1 = k2 := by
        have z := t1.symm.trans t2
        have inj : ∀ (a b : List Str), a.map PyData.str = b.map PyData.str → a = b := fun a => by
          induction a with
          | nil => intro b h; cases b with
            | nil => rfl
            | cons _ _ => cases h
          | cons x r ih => intro b h; cases b with
            | nil => cases h
            | cons y t =>
              rw [List.map_cons, List.map_cons] at h
              injection h with h1 h2
              injection h1 with h1
              rw [h1, ih t h2]
        exact inj _ _ z
      subst e12
      have hl64 : es.length < 64 := by
        simp only [oka, Bool.and_eq_true, decide_eq_true_eq] at hok
        exact hok.1
      -- the keys, sorted
      have q1 : (kvs.map fun kv => kV kv.1).Perm (k1.map V.str) := by rw [← e1]; exact p1.map _
      have q2 : (kws.map fun kv => kV kv.1).Perm (k1.map V.str) := by rw [← e2]; exact p2.map _
      have keysof : ∀ {l : List (Key × V)} {m : List (Key × V)}, l.Perm m → ∀ {ks : List Str}, (m.map (·.1)) = ks.map Sum.inr → ∃ ks' : List Str, (l.map fun kv => kV kv.1) = ks'.map V.str ∧ ks'.Perm ks := by
        intro l m pm ks hm
        have pk : (l.map (·.1)).Perm (ks.map Sum.inr) := by rw [← hm]; exact pm.map _
        let un : Key → Str := fun k => match k with | .inl _ => ⟨#[]⟩ | .inr x => x
        have hall : ∀ kv ∈ l, ∃ x, kv.1 = Sum.inr x := fun kv hkv => by
          have z : kv.1 ∈ ks.map (Sum.inr (α := Int)) := pk.mem_iff.mp (List.mem_map.mpr ⟨kv, hkv, rfl⟩)
          obtain ⟨x, _, e⟩ := List.mem_map.mp z
          exact ⟨x, e.symm⟩
        refine ⟨l.map fun kv => un kv.1, ?_, ?_⟩
        · rw [List.map_map]
          refine List.map_congr_left fun kv hkv => ?_
          obtain ⟨x, e⟩ := hall kv hkv
          show kV kv.1 = V.str (un kv.1)
          rw [e]
          rfl
        · have z := pk.map un
          rw [List.map_map, List.map_map] at z
          have z2 : ks.map (un ∘ Sum.inr) = ks := by
            have : (un ∘ Sum.inr : Str → Str) = id := rfl
            rw [this, List.map_id]
          rw [z2] at z
          exact z
      obtain ⟨ka, ea1, pa1⟩ := keysof p1 u1
      obtain ⟨kb, eb1, pb1⟩ := keysof p2 u2
      refine ⟨_, rfl, a, kvs, rfl, .inl ea, fun L1 nL1 => ?_⟩
      rw [ea1]
      refine ⟨L1, ka, rfl, SqL.of upd_same, by rw [pa1.length_eq, l1]; exact hl64, fun s1 S1 ps1 ss1 nS1 => ?_⟩
      have g1 := same_new nL1 (.lst (ka.map V.str))
      have g2 := same_new nS1 (.lst (s1.map V.str))
      refine ⟨_, rfl, c, kws, rfl, .inl ((g1.trans g2) _ _ ec), fun L2 nL2 => ?_⟩
      rw [eb1]
      refine ⟨L2, kb, rfl, SqL.of upd_same, by rw [pb1.length_eq, l1]; exact hl64, fun s2 S2 ps2 ss2 nS2 => ?_⟩
      have g3 := same_new nL2 (.lst (kb.map V.str))
      have g4 := same_new nS2 (.lst (s2.map V.str))
      have es12 : s1 = s2 := sorted_one (ps1.trans (pa1.trans (pb1.symm.trans ps2.symm))) ss1 ss2
      subst es12
      have ok1 : ∀ y ∈ s1, (y.cps.all (· < 0x110000)) = true := fun y hy => o1 y ((ps1.trans pa1).mem_iff.mp hy)
      have hsh := shaped_strs ok1
      have g5 := (g1.trans g2).trans (g3.trans g4)
      refine ⟨.list (s1.map PyData.str), .list (s1.map PyData.str), .lst (SqL.of ((g3.trans g4) _ _ upd_same)) (dpall_strs s1), .lst (SqL.of upd_same) (dpall_strs s1), hsh, hsh, _, rfl, iteU (SeqAt.eqv_refl _ (lay_strs s1 ok1)) ?_⟩
      -- item by item
      have hc5 := g5 _ _ ec
      have ha5 := g5 _ _ ea
      refine ⟨c, .dK kws, hc5, trivial, fun od => ?_⟩
      refine ⟨_, rfl, c, od, rfl, .inl ⟨kws, upd_same, fun D nD => ?_⟩⟩
      have nDc : D ≠ c := (ne_of_none upd_same nD).symm
      have lk := RdLe.lock hc5 (show Mut (some (.dK kws)) from trivial) od
      refine lc_it (walk_keys (d := c) (o := od) (kvs := kws)) (fun i H' => Same (upd _ c (.frz od (.dK kws))) H' ∧ H' D = some (.lst (List.replicate i (.bl true)))) ⟨same_new nD _, upd_same⟩ (fun i H' _ pv => pv.1 _ _ upd_same) ?_ ?_
      · rintro i v H2 _ hi ⟨w1, w2⟩ ⟨rfl, k, v', hk, rfl⟩
        have hm2 : (k, v') ∈ kws := List.mem_of_getElem? hk
        obtain ⟨e, he, hk2, hd2⟩ := paired_mem r2 (p2.mem_iff.mp hm2)
        obtain ⟨kv1, hkv1, hk1, hd1⟩ := paired_mem2 r1 he
        have ek : kv1.1 = k := by
          have z : keyD kv1.1 = keyD k := hk1.symm.trans hk2
          cases h1 : kv1.1 <;> cases h2 : k <;> (rw [h1, h2] at z; simp only [keyD] at z; first | (injection z with z; rw [z]) | cases z)
        have hv1 : valV kvs k = some kv1.2 := valV_of n1 (by rw [← ek]; exact p1.mem_iff.mpr hkv1)
        have hv2 : valV kws k = some v' := valV_of n2 hm2
        have rdl : RdLe H _ := fun b u z => RdLe.of w1 _ _ (lk _ _ (RdLe.of g5 _ _ z))
        refine ⟨rfl, ?_⟩
        refine ⟨_, rfl, _, rfl, a, _, rfl, .inl ⟨kvs, k, rdl _ _ (.inl ea), rfl, hv1.symm⟩, ?_⟩
        refine ⟨_, rfl, _, rfl, c, _, rfl, .inl ⟨kws, k, rdl _ _ (.inl ec), rfl, hv2.symm⟩, ?_⟩
        have hoke : oka n e.2 = true := by
          simp only [oka, Bool.and_eq_true, List.all_eq_true] at hok
          exact (hok.2 e he).2
        refine ⟨_, _, e.2, rfl, Da_of (Dp_rd rdl hd1), Da_of (Dp_rd rdl hd2), hoke, fun H3 g6 => ?_⟩
        have hil : i < kws.length := hi
        have hlen : kws.length < 64 := by
          have z := (p2.map (·.1)).length_eq
          rw [u2, List.length_map, List.length_map, l1] at z
          omega
        refine ⟨_, g6 _ _ w2, (by rw [List.length_replicate]; exact small1000 (by omega)), fun b o hb => ?_, ?_⟩
        · rw [upd_ne (ne_of_none hb nD)]
          exact g6 _ _ (w1 _ _ hb)
        · rw [upd_same, List.replicate_succ']
      · rintro H' ⟨w1, w2⟩
        refine ⟨w1 _ _ upd_same, ?_⟩
        refine ⟨D, List.replicate kws.length true, rfl, SqL.of (by rw [upd_ne nDc, w2, rep_bl]), ?_⟩
        rw [rep_all]
        refine q _ fun b o hb => ?_
        by_cases hbc : b = c
        · subst hbc
          rw [upd_same]
          rw [ec] at hb
          exact hb
        · rw [upd_ne hbc]
          exact w1 _ _ (by rw [upd_ne hbc]; exact g5 _ _ hb)
  refine iteE (isD_nodict fun es e => hdic ⟨es, e⟩) ?_
  -- isinstance(due, (list, tuple))
  refine ⟨_, rfl, (by show 2 ≤ sizeLine; decide), fun p np => ⟨y, p, _, _, _, _, rfl, upd_same, ct2, da_tyx (Da_same (same_new np _) hy), iskT, _, rfl, ?_⟩⟩
  have s1 : Same H (upd H p (.tup [.ty "list", .ty "tuple"])) := same_new np _
  replace hx := Da_same s1 hx
  replace hy := Da_same s1 hy
  have isn : ∀ T, (decide (V.bl (isD T d) = V.bl (isD T d))) = true := fun T => by simp
  by_cases hseq : (∃ ds, d = .list ds) ∨ ∃ ds, d = .tuple ds
  · refine iteU (isD_seq hseq) ?_
    refine ⟨_, rfl, x, .ty "list", _, .type "list", _, rfl, .ty _, da_tyx hx, isk kd.2.1, _, rfl, y, .ty "list", _, .type "list", _, rfl, .ty _, da_tyx hy, isk kd.2.1, rfl, _, rfl, iteNS rfl ?_⟩
    refine ⟨_, rfl, x, .ty "tuple", _, .type "tuple", _, rfl, .ty _, da_tyx hx, isk kd.2.2.1, _, rfl, y, .ty "tuple", _, .type "tuple", _, rfl, .ty _, da_tyx hy, isk kd.2.2.1, rfl, _, rfl, iteNS rfl ?_⟩
    rcases hseq with ⟨ds, rfl⟩ | ⟨ds, rfl⟩
    · simp only [oka, Bool.and_eq_true, decide_eq_true_eq, List.all_eq_true] at hok
      cases hx with
      | @lst a xs _ q1 a1 =>
        cases hy with
        | @lst c ys _ q2 a2 =>
          have l1 := daall_len a1
          have l2 := daall_len a2
          have eln : decide (V.int (xs.length : Nat) = V.int (ys.length : Nat)) = true := by rw [l1, l2]; exact decide_eq_true rfl
          refine ⟨_, rfl, _, xs.length, rfl, .inl ⟨_, q1, rfl⟩, _, rfl, _, ys.length, rfl, .inl ⟨_, q2, rfl⟩, rfl, _, rfl, iteU eln ?_⟩
          refine ⟨_, rfl, _, rfl, a, c, xs, ys, rfl, .inl ⟨q1, q2, fun D nD => ?_⟩⟩
          refine lc_it (walk_zip (n := ds.length) (by omega)) (fun i H' => Same (upd H p (.tup [.ty "list", .ty "tuple"])) H' ∧ H' D = some (.lst (List.replicate i (.bl true)))) ⟨same_new nD _, upd_same⟩
            (fun i H' _ pv => ⟨Same.seq pv.1 q1, Same.seq pv.1 q2⟩) ?_ ?_
          · rintro i v H1 H2 hi ⟨g1, g2⟩ ⟨T, u, v', rfl, nT, rfl, hu, hv⟩
            obtain ⟨e, he, de⟩ := daall_get a1 hu
            obtain ⟨e', he', de'⟩ := daall_get a2 hv
            have ee : e' = e := by rw [he] at he'; exact (Option.some.inj he').symm
            subst ee
            have g3 := same_new nT (.tup [u, v'])
            have g4 := g1.trans g3
            refine ⟨T, [u, v'], rfl, SqT.of upd_same, rfl, u, [v'], rfl, v', [], rfl, rfl, rfl, ?_⟩
            refine ⟨_, rfl, _, rfl, u, v', e', rfl, Da_same g4 de, Da_same g4 de', hok.2 _ (List.mem_of_getElem? he), fun H3 g5 => ?_⟩
            have hD3 := g5 _ _ (g3 _ _ g2)
            have hil : i < sizeLine := small1000 (by omega)
            refine ⟨_, hD3, (by rw [List.length_replicate]; exact hil), fun b o hb => ?_, ?_⟩
            · have nb : b ≠ D := ne_of_none hb nD
              rw [upd_ne nb]
              exact g5 _ _ (g4 _ _ hb)
            · rw [upd_same, List.replicate_succ']
          · rintro H' ⟨g1, g2⟩
            refine ⟨D, List.replicate ds.length true, rfl, SqL.of (by rw [g2, rep_bl]), ?_⟩
            rw [rep_all]
            exact q _ (s1.trans g1)
    · simp only [oka, Bool.and_eq_true, decide_eq_true_eq, List.all_eq_true] at hok
      cases hx with
      | @tup a xs _ q1 a1 =>
        cases hy with
        | @tup c ys _ q2 a2 =>
          have l1 := daall_len a1
          have l2 := daall_len a2
          have eln : decide (V.int (xs.length : Nat) = V.int (ys.length : Nat)) = true := by rw [l1, l2]; exact decide_eq_true rfl
          refine ⟨_, rfl, _, xs.length, rfl, .inr ⟨_, q1, rfl⟩, _, rfl, _, ys.length, rfl, .inr ⟨_, q2, rfl⟩, rfl, _, rfl, iteU eln ?_⟩
          refine ⟨_, rfl, _, rfl, a, c, xs, ys, rfl, .inr ⟨q1, q2, fun D nD => ?_⟩⟩
          refine lc_it (walk_zipT (n := ds.length) (by omega)) (fun i H' => Same (upd H p (.tup [.ty "list", .ty "tuple"])) H' ∧ H' D = some (.lst (List.replicate i (.bl true)))) ⟨same_new nD _, upd_same⟩
            (fun i H' _ pv => ⟨sameT pv.1 q1, sameT pv.1 q2⟩) ?_ ?_
          · rintro i v H1 H2 hi ⟨g1, g2⟩ ⟨T, u, v', rfl, nT, rfl, hu, hv⟩
            obtain ⟨e, he, de⟩ := daall_get a1 hu
            obtain ⟨e', he', de'⟩ := daall_get a2 hv
            have ee : e' = e := by rw [he] at he'; exact (Option.some.inj he').symm
            subst ee
            have g3 := same_new nT (.tup [u, v'])
            have g4 := g1.trans g3
            refine ⟨T, [u, v'], rfl, SqT.of upd_same, rfl, u, [v'], rfl, v', [], rfl, rfl, rfl, ?_⟩
            refine ⟨_, rfl, _, rfl, u, v', e', rfl, Da_same g4 de, Da_same g4 de', hok.2 _ (List.mem_of_getElem? he), fun H3 g5 => ?_⟩
            have hD3 := g5 _ _ (g3 _ _ g2)
            have hil : i < sizeLine := small1000 (by omega)
            refine ⟨_, hD3, (by rw [List.length_replicate]; exact hil), fun b o hb => ?_, ?_⟩
            · have nb : b ≠ D := ne_of_none hb nD
              rw [upd_ne nb]
              exact g5 _ _ (g4 _ _ hb)
            · rw [upd_same, List.replicate_succ']
          · rintro H' ⟨g1, g2⟩
            refine ⟨D, List.replicate ds.length true, rfl, SqL.of (by rw [g2, rep_bl]), ?_⟩
            rw [rep_all]
            exact q _ (s1.trans g1)
  · refine iteE (isD_leaf (fun ds e => hseq (.inl ⟨ds, e⟩)) (fun ds e => hseq (.inr ⟨ds, e⟩))) ?_
    have nl : ∀ ds, d ≠ .list ds := fun ds e => hseq (.inl ⟨ds, e⟩)
    have nt : ∀ ds, d ≠ .tuple ds := fun ds e => hseq (.inr ⟨ds, e⟩)
    have exy : x = y ∧ ((scal x y = true ∧ decide (x = .non) = false) ∨ x = .non) := by
      cases hx with
      | non => cases hy; exact ⟨rfl, .inr rfl⟩
      | bl b => cases hy; exact ⟨rfl, .inl ⟨rfl, rfl⟩⟩
      | int b => cases hy; exact ⟨rfl, .inl ⟨rfl, rfl⟩⟩
      | str b => cases hy; exact ⟨rfl, .inl ⟨rfl, rfl⟩⟩
      | dic _ _ _ _ => exact absurd ⟨_, rfl⟩ hdic
      | lst _ _ => exact absurd rfl (nl _)
      | tup _ _ => exact absurd rfl (nt _)
    obtain ⟨rfl, hsc⟩ := exy
    rcases hsc with ⟨hsc, en⟩ | hn
    · refine ⟨_, rfl, _, rfl, iteE en ⟨_, rfl, _, rfl, iteE en ?_⟩⟩
      refine ⟨_, rfl, x, .ty "bool", _, .type "bool", _, rfl, .ty _, da_tyx hx, isk kd.2.2.2.1, _, rfl, x, .ty "bool", _, .type "bool", _, rfl, .ty _, da_tyx hy, isk kd.2.2.2.1, rfl, _, rfl, iteNS rfl ?_⟩
      refine ⟨_, rfl, x, .ty "int", _, .type "int", _, rfl, .ty _, da_tyx hx, isk kd.2.2.2.2.1, _, rfl, x, .ty "int", _, .type "int", _, rfl, .ty _, da_tyx hy, isk kd.2.2.2.2.1, rfl, _, rfl, iteNS rfl ?_⟩
      refine ⟨_, rfl, x, .ty "str", _, .type "str", _, rfl, .ty _, da_tyx hx, isk kd.2.2.2.2.2, _, rfl, x, .ty "str", _, .type "str", _, rfl, .ty _, da_tyx hy, isk kd.2.2.2.2.2, rfl, _, rfl, iteU (isn _) ?_⟩
      refine ⟨_, rfl, _, rfl, hsc, ?_⟩
      rw [decide_eq_true rfl]
      exact q _ s1
    · subst hn
      refine ⟨_, rfl, _, rfl, iteU rfl ⟨_, rfl, _, rfl, iteU rfl ⟨_, rfl, ?_⟩⟩⟩
      exact q _ s1
theorem no_like0 (vs : List V) (H : Hp) (Q : VK) (E : XK) : ¬ spLike K 0 vs H Q E := by
  rintro ⟨x, y, d, _, _, _, h, _⟩
  cases h
theorem like_cal {f : Addr} {fd : FuncData} (F : Fun K "_law_like" "_law_like" s_law_like f fd) (b : Binds K fd ["_law_found", "_law_due"] []) (m : mg "_law_like" = some (.ref f)) (M : LikeM mg) : ∀ n : Nat, C8.Cal P w K mg base n "_law_like" (spLike K n) []
  | 0 => ⟨f, fd, ["_law_found", "_law_due"], [], ⟨fun vs H Q E h => absurd h (no_like0 vs H Q E), fun A outer s H args us vs Q E _ _ _ _ h => absurd h (no_like0 vs H Q E)⟩, m, F.kp, b, .nil⟩
  | n + 1 => ⟨f, fd, ["_law_found", "_law_due"], [], ok_like F (like_cal F b m M n) M, m, F.kp, b, .nil⟩
end

end Ag

namespace Ag
open PySem PySem.Spec PyProof.Rows L2
section
variable {P : Program} {w : World} {K : PySem.W.Frag} {mg : Str → Option Value} {base : Heap}
/-! ### _law_form -/
def spForm (K : PySem.W.Frag) (n : Nat) : Sp := fun vs H Q _ => ∃ (b l wa : Addr) (ws : List (List Nat)) (dp : Int), vs = [.ref b, .ref wa, .int dp] ∧ Bag H b l ∧ SqL K H wa (ws.map fun w => V.str (SX.S w)) ∧ wa ≠ b ∧ 0 < ws.length ∧ ws.length ≤ 1000 ∧ 1 ≤ dp ∧ dp ≤ n ∧
  ∀ (v : V) (t : Fm) (H' : Hp), okF ws [] dp.toNat t → Fr K H' v t → Kp b H H' → Bag H' b l → Q v H'
abbrev nForm : List Str := ["_law_bag_here", "_law_words", "_law_deep", "_law_way", "_law_one"]
theorem scForm : FnScope nForm ["_law_bag_here", "_law_words", "_law_deep"] (defScope s_law_form) := ⟨rfl, rfl, rfl, by decide +kernel, rfl, by decide +kernel, by decide +kernel⟩
theorem ok_form {n : Nat} {f : Addr} {fd : FuncData} (F : Fun K "_law_form" "_law_form" s_law_form f fd) (cP : C8.Cal P w K mg base 1 "_law_pull" spPull []) (cA : C8.Cal P w K mg base 2 "_law_any" (spAny K) []) (cF : C8.Cal P w K mg base (n + 2) "_law_form" (spForm K n) []) :
    FnOk P w K mg base CX0 (n + 3) f fd ["_law_bag_here", "_law_words", "_law_deep"] (spForm K (n + 1)) := by
  refine F.ok scForm (fun vs H Q E h => ?_) (fun cdv A outer s H vs Q E hr h => ?_)
  · obtain ⟨b, l, wa, ws, dp, rfl, _⟩ := h
    rfl
  obtain ⟨b, l, wa, ws, dp, rfl, hB, hw, nwb, w0, w1, d0, d1, q⟩ := h
  have nd := scForm.nd
  refine ⟨_, pss_cons (ps_set (i := 3) nd rfl (.inl rfl) (C8.pe_c cP hr (by omega) (by rfl) (pa_cons (pv 0) (pa_cons pe_int pa_nil))))
    (pss_cons (ps_if (PW.pt (pw_or (pt_cmpR op_lt (pv 2) pe_int (nomark _)) (pw_or1 (pt_cmpR op_lt (pv 3) pe_int (nomark _)))))
      (pss_one (ps_ret (pe_ifExp (pt_cmpR op_eq (C8.pe_c cP hr (by omega) (by rfl) (pa_cons (pv 0) (pa_cons pe_int pa_nil))) pe_int (nomark _)) (pe_tup (pa_cons pe_str pa_nil)) (pe_tup (pa_cons pe_str (pa_cons (C8.pe_c cA hr (by omega) (by rfl) (pa_cons (pv 0) (pa_cons (pv 1) pa_nil))) pa_nil)))))) pss_nil)
    (pss_cons (ps_set (i := 4) nd rfl (.inl rfl) (C8.pe_c cF hr (Nat.le_refl _) (by rfl) (pa_cons (pv 0) (pa_cons (pv 1) (pa_cons (pe_op op_sub (pv 2) pe_int) pa_nil)))))
    (pss_one (ps_ret (pe_tup (pa_cons (pe_ix ix_tup (pe_tup (pa_cons pe_str (pa_cons pe_str (pa_cons pe_str pa_nil)))) (pe_op op_sub (pv 3) pe_int) (fun _ _ => rfl)) (pa_cons (pv 4) (pa_cons (C8.pe_c cF hr (Nat.le_refl _) (by rfl) (pa_cons (pv 0) (pa_cons (pv 1) (pa_cons (pe_op op_sub (pv 2) pe_int) pa_nil)))) pa_nil)))))))), ?_⟩
  refine ⟨_, rfl, b, l, 5, rfl, hB, by decide, by decide, fun wy H1 y0 y5 k1 B1 => ?_⟩
  have hdp : dp.toNat = (dp.toNat - 1) + 1 := by omega
  have leaf : ∀ t : Fm, (t = .fls ∨ ∃ w, t = .atom w ∧ w ∈ ws) → okF ws [] dp.toNat t := by
    intro t ht
    rw [hdp]
    rcases ht with rfl | ⟨w, rfl, hw⟩
    · trivial
    · exact hw
  refine ⟨_, rfl, _, _, rfl, rfl, _, rfl, ?_⟩
  by_cases hl : dp < 2 ∨ wy < 2
  · by_cases h1 : dp < 2
    all_goals first | refine iteU (decide_eq_true h1) ?_ | refine iteE (decide_eq_false h1) ⟨_, rfl, _, _, rfl, rfl, _, rfl, iteU (decide_eq_true (by omega)) ?_⟩
    all_goals
      refine ⟨_, rfl, b, l, 7, rfl, B1, by decide, by decide, fun d7 H2 _ _ k2 B2 => ⟨rfl, _, rfl, ite2 (fun _ => ?_) (fun _ => ?_)⟩⟩
      · refine ⟨(by show 1 ≤ sizeLine; decide), fun p np => ?_⟩
        exact q _ .fls _ (leaf _ (.inl rfl)) (mk_fls (SqT.of upd_same)) ((k1.trans k2).trans (.of (same_new np _))) (B2.kp (same_new np _))
      · have k12 := k1.trans k2
        refine ⟨_, rfl, _, rfl, b, l, _, _, rfl, B2, .inr ⟨wa, rfl, nwb, .inl (k12.seqL nwb hw)⟩, by rw [List.length_map]; exact w0, by rw [List.length_map]; omega, fun i v H3 hv k3 B3 => ?_⟩
        rw [List.getElem?_map] at hv
        obtain ⟨u, hu, rfl⟩ := Option.map_eq_some_iff.mp hv
        refine ⟨(by show 2 ≤ sizeLine; decide), fun p np => ?_⟩
        exact q _ (.atom u) _ (leaf _ (.inr ⟨u, rfl, List.mem_of_getElem? hu⟩)) (mk_atom (SqT.of upd_same)) ((k12.trans k3).trans (.of (same_new np _))) (B3.kp (same_new np _))
  · have h1 : ¬ dp < 2 := fun z => hl (.inl z)
    have h2 : ¬ wy < 2 := fun z => hl (.inr z)
    refine iteE (decide_eq_false h1) ⟨_, rfl, _, _, rfl, rfl, _, rfl, iteE (decide_eq_false h2) ?_⟩
    refine ⟨_, rfl, _, rfl, _, rfl, _, _, rfl, rfl, b, l, wa, ws, dp - 1, rfl, B1, k1.seqL nwb hw, nwb, w0, w1, by omega, by omega, fun v1 t1 H2 o1 f1 k2 B2 => ?_⟩
    refine ⟨(by show 3 ≤ sizeLine; decide), fun p np => ?_⟩
    have g1 := same_new np (.tup [.str "then", .str "and", .str "or"])
    have B3 := B2.kp g1
    have k12 := k1.trans k2
    have hy3 : (wy - 2).toNat < 3 := by omega
    generalize hj : (⟨(wy - 2).toNat, hy3⟩ : Fin 3) = j
    have hy : wy - 2 = ((j.val : Nat) : Int) := by rw [← hj]; show wy - 2 = (((wy - 2).toNat : Nat) : Int); omega
    refine ⟨_, rfl, _, _, rfl, rfl, p, _, _, _, rfl, rfl, SqT.of upd_same, (by rw [hy]; exact atI_kd j), ?_⟩
    refine ⟨_, rfl, _, rfl, _, rfl, _, rfl, _, _, rfl, rfl, b, l, wa, ws, dp - 1, rfl, B3, g1.seq (k12.seqL nwb hw), nwb, w0, w1, by omega, by omega, fun v2 t2 H4 o2 f2 k4 B4 => ?_⟩
    refine ⟨(by show 3 ≤ sizeLine; decide), fun r nr => ?_⟩
    have g2 := same_new nr (.tup [.str (kd j), v1, v2])
    refine q _ (.bin j t1 t2) _ ?_ (mk_bin (SqT.of upd_same) (((f1.same g1).kp k4 B3).same g2) (f2.same g2)) ((k12.trans (.of g1)).trans (k4.trans (.of g2))) (B4.kp g2)
    rw [hdp]
    have e1 : (dp - 1).toNat = dp.toNat - 1 := by omega
    rw [e1] at o1 o2
    exact ⟨o1, o2⟩
theorem no_form0 (vs : List V) (H : Hp) (Q : VK) (E : XK) : ¬ spForm K 0 vs H Q E := by
  rintro ⟨b, l, wa, ws, dp, _, _, _, _, _, _, h0, h1, _⟩
  omega
theorem form_cal {f : Addr} {fd : FuncData} (F : Fun K "_law_form" "_law_form" s_law_form f fd) (b : Binds K fd ["_law_bag_here", "_law_words", "_law_deep"] []) (m : mg "_law_form" = some (.ref f)) (cP : C8.Cal P w K mg base 1 "_law_pull" spPull []) (cA : C8.Cal P w K mg base 2 "_law_any" (spAny K) []) : ∀ n : Nat, C8.Cal P w K mg base (n + 2) "_law_form" (spForm K n) []
  | 0 => ⟨f, fd, ["_law_bag_here", "_law_words", "_law_deep"], [], ⟨fun vs H Q E h => absurd h (no_form0 vs H Q E), fun A outer s H args us vs Q E _ _ _ _ h => absurd h (no_form0 vs H Q E)⟩, m, F.kp, b, .nil⟩
  | n + 1 => ⟨f, fd, ["_law_bag_here", "_law_words", "_law_deep"], [], ok_form F cP cA (form_cal F b m cP cA n), m, F.kp, b, .nil⟩
end

section
variable {P : Program} {w : World} {K : PySem.W.Frag} {mg : Str → Option Value} {base : Heap}
/-! ### is_letter -/
def spLetter (K : PySem.W.Frag) : Sp := fun vs H Q _ => ∃ x ok, vs = [x] ∧ LetIs K H x ok ∧ Q (.bl ok) H
theorem scLetter : FnScope ["value"] ["value"] (defScope s_is_letter) := ⟨rfl, rfl, rfl, by decide +kernel, rfl, by decide +kernel, by decide +kernel⟩
theorem ok_letter {f : Addr} {fd : FuncData} (F : Fun K "is_letter" "is_letter" s_is_letter f fd) (M : NameM mg) : FnOk P w K mg base CX0 1 f fd ["value"] (spLetter K) := by
  refine F.ok scLetter (fun vs H Q E h => ?_) (fun cdv A outer s H vs Q E hr h => ?_)
  · obtain ⟨x, ok, rfl, _⟩ := h
    rfl
  obtain ⟨x, ok, rfl, h, q⟩ := h
  obtain ⟨tL, mL⟩ := M.letters
  refine ⟨_, pss_one (ps_ret (pe_and (pe_callB call_isi (by rfl) M.isi (by decide +kernel) (pa_cons (pv 0) (pa_cons (pe_bltn (v := .ty "str") (u := .type "str") (by rfl) M.str (by decide +kernel) rfl) pa_nil)))
    (pe_and (pe_cmpR op_eq (pe_callB call_len (by rfl) M.len boot_len (pa_cons (pv 0) pa_nil)) pe_int (nomark _)) (pe_one (pe_cmpR op_in_str (pv 0) (pe_glob (v := .str "abcdefghijklmnopqrstuvwxyz") (by rfl) mL ⟨_, rfl⟩) (by rfl)))))), ?_⟩
  rcases h with ⟨cs, rfl, hl, rfl⟩ | ⟨⟨t, ht, hk⟩, rfl⟩
  · refine ⟨_, rfl, _, .ty "str", _, .type "str", true, rfl, .ty _, .base (.str _), kit_ty (by decide +kernel), _, rfl, iteT ?_⟩
    refine ⟨_, rfl, _, (SX.S cs).length, rfl, ⟨by rw [SX.S_len]; exact small hl, rfl⟩, rfl, _, rfl, ?_⟩
    rw [SX.S_len]
    refine ite2 (fun c => ?_) (fun c => ?_)
    · have c1 : cs.length = 1 := by
        have z := of_decide_eq_true c
        injection z with z
        omega
      refine ⟨_, rfl, _, _, rfl, rfl, ?_⟩
      rw [abc_str, isLet_in cs c1]
      exact q
    · have e : isLet cs = false := by
        unfold isLet
        rw [decide_eq_false, Bool.false_and]
        intro z
        exact c (decide_eq_true (congrArg V.int (by rw [z]; rfl)))
      rw [e] at q
      exact q
  · refine ⟨_, rfl, _, .ty "str", _, .type "str", false, rfl, .ty _, ht, hk, _, rfl, iteF ?_⟩
    exact q
end

section
variable {P : Program} {w : World} {K : PySem.W.Frag} {mg : Str → Option Value} {base : Heap}
/-! ### is_name -/
def spName (K : PySem.W.Frag) : Sp := fun vs H Q _ => ∃ x ok, vs = [x] ∧ NameIs K H x ok ∧ ∀ H', Same H H' → Q (.bl ok) H'
theorem scName : FnScope ["value", "letter"] ["value"] (defScope s_is_name) := ⟨rfl, rfl, rfl, by decide +kernel, rfl, by decide +kernel, by decide +kernel⟩
theorem ok_name {f : Addr} {fd : FuncData} (F : Fun K "is_name" "is_name" s_is_name f fd) (cL : C8.Cal P w K mg base 1 "is_letter" (spLetter K) []) (M : NameM mg) : FnOk P w K mg base CX0 2 f fd ["value"] (spName K) := by
  refine F.ok scName (fun vs H Q E h => ?_) (fun cdv A outer s H vs Q E hr h => ?_)
  · obtain ⟨x, ok, rfl, _⟩ := h
    rfl
  obtain ⟨x, ok, rfl, h, q⟩ := h
  obtain ⟨tL, mL⟩ := M.longest
  have nd := scName.nd
  refine ⟨_, pss_cons (ps_if (PW.pt (pw_or (pt_not (pt_val (pe_callB call_isi (by rfl) M.isi (by decide +kernel) (pa_cons (pv 0) (pa_cons (pe_bltn (v := .ty "str") (u := .type "str") (by rfl) M.str (by decide +kernel) rfl) pa_nil)))))
      (pw_or1 (pt_not (pt_chain op_le op_le pe_int (pe_callB call_len (by rfl) M.len boot_len (pa_cons (pv 0) pa_nil)) (pe_glob (v := .int 6) (by rfl) mL ⟨_, rfl⟩)))))) (pss_one (ps_ret pe_bl)) pss_nil)
    (pss_one (ps_ret (pe_callB (cr_all rfl) (by rfl) M.all (by decide +kernel) (pa_cons (pe_lc (own := [("letter", 1)]) (g := gName 1) (tt := tYes) rfl nd (pi_str (pv 0))
      (blkOk_by (own := [("letter", 1)]) (N := ["value", "letter"]) (sc := defScope s_is_name) (by decide +kernel)) (fun _ _ _ _ _ => pg_name (i := 1) nd rfl (Or.inl rfl)) (fun _ _ _ _ _ => pts_nil)
      (fun _ _ _ _ _ => C8.pe_c cL hr (by decide) (by rfl) (pa_cons (pv 1) pa_nil))) pa_nil)))), ?_⟩
  rcases h with ⟨cs, rfl, hl, rfl⟩ | ⟨⟨t, ht, hk⟩, rfl⟩
  · refine ⟨_, rfl, _, .ty "str", _, .type "str", true, rfl, .ty _, .base (.str _), kit_ty (by decide +kernel), _, rfl, ?_⟩
    refine iteF ?_
    refine ⟨_, rfl, _, (SX.S cs).length, rfl, ⟨by rw [SX.S_len]; exact small hl, rfl⟩, _, _, rfl, rfl, _, rfl, ?_⟩
    rw [SX.S_len]
    have qf : isNm cs = false → Q (.bl false) H := fun e => by
      have z := q H (.refl H)
      rw [e] at z
      exact z
    refine ite2 (fun c1 => ?_) (fun c1 => ?_)
    · refine ⟨_, _, rfl, rfl, _, rfl, ite2 (fun c2 => ?_) (fun c2 => ?_)⟩
      · refine qf ?_
        unfold isNm
        rw [decide_eq_false (p := cs.length ≤ 6), Bool.and_false, Bool.false_and]
        intro z
        simp only [Bool.not_eq_true', decide_eq_false_iff_not] at c2
        omega
      · have c3 : cs.length ≤ 6 := by
          simp only [Bool.not_eq_true', decide_eq_false_iff_not] at c2
          omega
        have c4 : 1 ≤ cs.length := by
          have z := of_decide_eq_true c1
          omega
        have ez : (SX.S cs).cps.size = cs.length := by simp
        refine ⟨_, rfl, SX.S cs, rfl, fun D nD => ?_⟩
        refine lc_it (walk_str (z := SX.S cs)) (fun i H' => Same H H' ∧ H' D = some (.lst (((cs.take i).map fun c => decide (97 ≤ c) && decide (c < 123)).map V.bl))) ⟨same_new nD _, upd_same⟩ (fun _ _ _ _ => trivial) ?_ ?_
        · rintro i v H1 H2 hi ⟨g1, g2⟩ ⟨rfl, c, hc, rfl⟩
          have hc' : cs[i]? = some c := by simpa using hc
          have hil : i < cs.length := (List.getElem?_eq_some_iff.mp hc').1
          refine ⟨rfl, ?_⟩
          refine ⟨_, rfl, _, _, rfl, .inl ⟨[c], rfl, by show 1 ≤ 1000; decide, rfl⟩, ?_⟩
          have e1 : isLet [c] = (decide (97 ≤ c) && decide (c < 123)) := by simp [isLet]
          rw [e1]
          refine ⟨_, g2, (by rw [List.length_map, List.length_map, List.length_take]; exact small1000 (by omega)), fun b o hb => ?_, ?_⟩
          · rw [upd_ne (ne_of_none hb nD)]
            exact g1 _ _ hb
          · rw [upd_same, List.take_add_one, hc', List.map_append, List.map_append]
            rfl
        · rintro H' ⟨g1, g2⟩
          rw [ez, List.take_length] at g2
          refine ⟨D, cs.map fun c => decide (97 ≤ c) && decide (c < 123), rfl, SqL.of g2, ?_⟩
          have e2 : isNm cs = (cs.map fun c => decide (97 ≤ c) && decide (c < 123)).all id := by
            unfold isNm
            rw [decide_eq_true c3, decide_eq_true c4, List.all_map]
            rfl
          rw [← e2]
          exact q H' g1
    · refine ⟨_, rfl, iteT ?_⟩
      refine qf ?_
      unfold isNm
      rw [decide_eq_false (p := 1 ≤ cs.length), Bool.false_and, Bool.false_and]
      intro z
      exact c1 (decide_eq_true (by omega))
  · refine ⟨_, rfl, _, .ty "str", _, .type "str", false, rfl, .ty _, ht, hk, _, rfl, iteT (iteT ?_)⟩
    exact q H (.refl H)
end

end Ag

namespace Ag
open PySem PySem.Spec PyProof.Rows L2
section
variable {P : Program} {w : World} {K : PySem.W.Frag} {mg : Str → Option Value} {base : Heap}
/-! ### is_leaf -/
def spLeaf (K : PySem.W.Frag) : Sp := fun vs H Q _ => ∃ (x : V) (h : Bool) (t : Fm), vs = [x, .bl h] ∧ Fr K H x t ∧ Sml t ∧ ((∃ w, t = .atom w) ∨ ∃ c, t = .hole c) ∧ ∀ H', Same H H' → Q (.bl (isB 1 h t)) H'
theorem scLeaf : FnScope ["value", "holes"] ["value", "holes"] (defScope s_is_leaf) := ⟨rfl, rfl, rfl, by decide +kernel, rfl, by decide +kernel, by decide +kernel⟩
theorem ok_leaf {f : Addr} {fd : FuncData} (F : Fun K "is_leaf" "is_leaf" s_is_leaf f fd) (cN : C8.Cal P w K mg base 2 "is_name" (spName K) []) (cL : C8.Cal P w K mg base 1 "is_letter" (spLetter K) []) : FnOk P w K mg base CX0 3 f fd ["value", "holes"] (spLeaf K) := by
  refine F.ok scLeaf (fun vs H Q E h => ?_) (fun cdv A outer s H vs Q E hr h => ?_)
  · obtain ⟨x, h, t, rfl, _⟩ := h
    rfl
  obtain ⟨x, h, t, rfl, hx, hs, hk, q⟩ := h
  refine ⟨_, pss_cons (ps_if (pt_cmpR op_eq (pe_ix ix_tup (pv 0) pe_int (fun _ _ => rfl)) pe_str (nomark _)) (pss_one (ps_ret (C8.pe_c cN hr (by decide) (by rfl) (pa_cons (pe_ix ix_tup (pv 0) pe_int (fun _ _ => rfl)) pa_nil)))) pss_nil)
    (pss_one (ps_ret (pe_and (pv 1) (pe_and (pe_cmpR op_eq (pe_ix ix_tup (pv 0) pe_int (fun _ _ => rfl)) pe_str (nomark _)) (pe_one (C8.pe_c cL hr (by decide) (by rfl) (pa_cons (pe_ix ix_tup (pv 0) pe_int (fun _ _ => rfl)) pa_nil))))))), ?_⟩
  rcases hk with ⟨u, rfl⟩ | ⟨c, rfl⟩
  · obtain ⟨p, rfl, sp⟩ := fr_atom hx
    refine ⟨_, rfl, p, _, _, _, rfl, rfl, sp, rfl, rfl, _, rfl, iteU (decide_eq_true rfl) ?_⟩
    exact ⟨_, rfl, p, _, _, _, rfl, rfl, sp, rfl, _, _, rfl, name_is hs, q⟩
  · obtain ⟨p, rfl, sp⟩ := fr_hole hx
    refine ⟨_, rfl, p, _, _, _, rfl, rfl, sp, rfl, rfl, _, rfl, iteE (decide_eq_false (by decide)) ?_⟩
    refine ⟨_, rfl, h, rfl, ?_⟩
    cases h with
    | false => exact q H (.refl H)
    | true =>
      refine ⟨_, rfl, p, _, _, _, rfl, rfl, sp, rfl, rfl, _, rfl, iteU (decide_eq_true rfl) ?_⟩
      exact ⟨_, rfl, p, _, _, _, rfl, rfl, sp, rfl, _, _, rfl, .inl ⟨c, rfl, hs, rfl⟩, q H (.refl H)⟩
end

section
variable {P : Program} {w : World} {K : PySem.W.Frag} {mg : Str → Option Value} {base : Heap}
/-! ### is_built -/
structure BuiltM (K : PySem.W.Frag) (mg : Str → Option Value) : Prop where
  isi : mg "isinstance" = none
  tuple : mg "tuple" = none
  len : mg "len" = none
  all : mg "all" = none
  joints : ∃ a, mg "JOINTS" = some (.ref a) ∧ ∀ H, SqT K H a [.str "then", .str "and", .str "or"]
def spBuilt (K : PySem.W.Frag) (n : Nat) : Sp := fun vs H Q _ => ∃ (x : V) (d : Nat) (h : Bool) (t : Fm), vs = [x, .int (d : Int), .bl h] ∧ Fr K H x t ∧ Sml t ∧ d < n ∧ SeqAt.shaped t.dat = true ∧ ∀ H', Same H H' → Q (.bl (isB d h t)) H'
abbrev nBuilt : List Str := ["value", "depth", "holes", "side"]
theorem scBuilt : FnScope nBuilt ["value", "depth", "holes"] (defScope s_is_built) := ⟨rfl, rfl, rfl, by decide +kernel, rfl, by decide +kernel, by decide +kernel⟩
theorem ok_built {n : Nat} {f : Addr} {fd : FuncData} (F : Fun K "is_built" "is_built" s_is_built f fd) (cL : C8.Cal P w K mg base 3 "is_leaf" (spLeaf K) []) (cB : C8.Cal P w K mg base (n + 3) "is_built" (spBuilt K n) []) (M : BuiltM K mg) : FnOk P w K mg base CX0 (n + 4) f fd ["value", "depth", "holes"] (spBuilt K (n + 1)) := by
  refine F.ok scBuilt (fun vs H Q E h => ?_) (fun cdv A outer s H vs Q E hr h => ?_)
  · obtain ⟨x, d, h, t, rfl, _⟩ := h
    rfl
  obtain ⟨x, d, h, t, rfl, hx, hs, hd, hsh, q⟩ := h
  have nd := scBuilt.nd
  obtain ⟨aJ, mJ, hJ⟩ := M.joints
  refine ⟨_, pss_cons (ps_if (PW.pt (pw_or (pt_cmpR op_eq (pv 1) pe_int (nomark _)) (pw_or1 (pt_not (pt_val (pe_callB call_isi (by rfl) M.isi (by decide +kernel) (pa_cons (pv 0) (pa_cons (pe_bltn (v := .ty "tuple") (u := .type "tuple") (by rfl) M.tuple (by decide +kernel) rfl) pa_nil)))))))) (pss_one (ps_ret pe_bl)) pss_nil)
    (pss_cons (ps_if (pt_cmpR op_eq (pe_callB call_len_seq (by rfl) M.len boot_len (pa_cons (pv 0) pa_nil)) pe_int (nomark _))
      (pss_one (ps_ret (pe_and (pe_cmpR op_in_seq (pe_ix ix_tup (pv 0) pe_int (fun _ _ => rfl)) (pe_glob (v := .ref aJ) (by rfl) mJ rfl) (by with_unfolding_all rfl)) (pe_one (pe_callB (cr_all rfl) (by rfl) M.all (by decide +kernel) (pa_cons (pe_lc (own := [("side", 3)]) (g := gName 3) (tt := tYes) rfl nd (pi_tup (pe_slice sl_tup (pv 0) (po_some pe_int) po_none))
        (blkOk_by (own := [("side", 3)]) (N := nBuilt) (sc := defScope s_is_built) (by decide +kernel)) (fun _ _ _ _ _ => pg_name (i := 3) nd rfl (Or.inl rfl)) (fun _ _ _ _ _ => pts_nil) (fun _ _ _ _ _ => C8.pe_c cB hr (Nat.le_refl _) (by rfl) (pa_cons (pv 3) (pa_cons (pe_op op_sub (pv 1) pe_int) (pa_cons (pv 2) pa_nil))))) pa_nil)))))) pss_nil)
    (pss_cons (ps_if (pt_cmpR op_eq (pe_callB call_len_seq (by rfl) M.len boot_len (pa_cons (pv 0) pa_nil)) pe_int (nomark _)) (pss_one (ps_ret (C8.pe_c cL hr (by omega) (by rfl) (pa_cons (pv 0) (pa_cons (pv 2) pa_nil))))) pss_nil)
    (pss_one (ps_ret (pe_cmpR (op_eqD hr.units) (pv 0) (pe_tup (pa_cons pe_str pa_nil)) (nomark _)))))), ?_⟩
  refine ⟨_, rfl, rfl, _, rfl, ?_⟩
  by_cases h0 : d = 0
  · subst h0
    refine iteU (decide_eq_true rfl) (iteT ?_)
    exact q H (.refl H)
  · have hdd : decide (V.int (d : Int) = V.int 0) = false := decide_eq_false (fun z => h0 (by injection z with z; omega))
    refine iteE hdd ?_
    obtain ⟨p, rr, rfl, sp⟩ := fr_head hx
    have tx : TyX K H (.ref p) (.type "tuple") := by
      rcases sp with (z | ⟨o, z⟩) | ⟨o, its, k, e, c, _⟩
      · exact .base (.tup z)
      · exact .fTuple z
      · exact .kTuple e c
    refine ⟨_, rfl, .ref p, .ty "tuple", _, .type "tuple", true, rfl, .ty _, tx, kit_ty (by decide +kernel), _, rfl, iteE rfl ?_⟩
    obtain ⟨d', rfl⟩ : ∃ d', d = d' + 1 := ⟨d - 1, by omega⟩
    cases t with
    | fls =>
      obtain ⟨p', e, sp'⟩ := fr_fls hx
      cases e
      refine ⟨_, rfl, p, _, rfl, .inr sp', rfl, _, rfl, iteE (by decide) ?_⟩
      refine ⟨_, rfl, p, _, rfl, .inr sp', rfl, _, rfl, iteE (by decide) ?_⟩
      refine ⟨_, rfl, (by show 1 ≤ sizeLine; decide), fun u nu => ?_⟩
      have g1 := same_new nu (.tup [.str "false"])
      refine ⟨Fm.fls.dat, Fm.fls.dat, hx.same g1, mk_fls (SqT.of upd_same), by decide +kernel, by decide +kernel, ?_⟩
      rw [eqv_dat, decide_eq_true rfl]
      exact q _ g1
    | atom u =>
      obtain ⟨p', e, sp'⟩ := fr_atom hx
      cases e
      refine ⟨_, rfl, p, _, rfl, .inr sp', rfl, _, rfl, iteE (by show decide (V.int 2 = V.int 3) = false; decide) ?_⟩
      refine ⟨_, rfl, p, _, rfl, .inr sp', rfl, _, rfl, iteU (by show decide (V.int 2 = V.int 2) = true; decide) ?_⟩
      exact ⟨_, rfl, _, rfl, _, h, .atom u, rfl, hx, hs, .inl ⟨u, rfl⟩, q⟩
    | hole u =>
      obtain ⟨p', e, sp'⟩ := fr_hole hx
      cases e
      refine ⟨_, rfl, p, _, rfl, .inr sp', rfl, _, rfl, iteE (by show decide (V.int 2 = V.int 3) = false; decide) ?_⟩
      refine ⟨_, rfl, p, _, rfl, .inr sp', rfl, _, rfl, iteU (by show decide (V.int 2 = V.int 2) = true; decide) ?_⟩
      exact ⟨_, rfl, _, rfl, _, h, .hole u, rfl, hx, hs, .inr ⟨u, rfl⟩, q⟩
    | bin k a b =>
      obtain ⟨p', xa, xb, e, sp', fa, fb⟩ := fr_bin hx
      cases e
      refine ⟨_, rfl, p, _, rfl, .inr sp', rfl, _, rfl, iteU (by show decide (V.int 3 = V.int 3) = true; decide) ?_⟩
      refine ⟨_, rfl, p, _, _, _, rfl, rfl, sp', rfl, aJ, _, rfl, .inr (hJ H), rfl, rfl, _, rfl, iteU (kd_in k) ?_⟩
      refine ⟨_, rfl, 1, rfl, p, _, rfl, sp', (by show ¬ (1 = 0 ∧ _); omega), fun u nu => ?_⟩
      have g1 := same_new nu (.tup (cutV [.str (kd k), xa, xb] (some 1) none))
      have ec : cutV [.str (kd k), xa, xb] (some 1) none = [xa, xb] := rfl
      rw [ec] at g1 ⊢
      refine ⟨u, rfl, ⟨_, SqT.of upd_same⟩, fun D nD => ?_⟩
      have g2 := same_new nD (.lst [])
      have shab := shaped_bin hsh
      refine lc_tup (K := K) (a := u) (xs := [xa, xb]) (fun i H' => Same (upd H u (.tup [xa, xb])) H' ∧ H' D = some (.lst ((([isB d' h a, isB d' h b] : List Bool).take i).map V.bl))) ⟨g2, upd_same⟩ (fun i H' _ pv => SqT.of (pv.1 _ _ upd_same)) ?_ ?_
      · rintro i v H1 hv ⟨s1, hD⟩
        have hvt : ∃ t', Fr K H1 v t' ∧ Sml t' ∧ SeqAt.shaped t'.dat = true ∧ ([isB d' h a, isB d' h b] : List Bool)[i]? = some (isB d' h t') := by
          match i, hv with
          | 0, hv => cases hv; exact ⟨a, fa.same (g1.trans s1), hs.1, shab.1, rfl⟩
          | 1, hv => cases hv; exact ⟨b, fb.same (g1.trans s1), hs.2, shab.2, rfl⟩
          | i + 2, hv => simp at hv
        obtain ⟨t', ft, st, sht, hb⟩ := hvt
        have hi2 : i < 2 := (List.getElem?_eq_some_iff.mp hv).1
        refine ⟨rfl, ?_⟩
        refine ⟨_, rfl, _, rfl, _, _, rfl, rfl, _, rfl, v, d', h, t', ?_, ft, st, by omega, sht, fun H2 s2 => ?_⟩
        · have e : ((d' + 1 : Nat) : Int) - 1 = (d' : Int) := by omega
          show [v, V.int (((d' + 1 : Nat) : Int) - 1), V.bl h] = _
          rw [e]
        · refine ⟨_, s2 _ _ hD, (by rw [List.length_map, List.length_take]; exact small1000 (by omega)), fun c o hc => ?_, ?_⟩
          · rw [upd_ne (ne_of_none hc nD)]
            exact s2 _ _ (s1 _ _ hc)
          · rw [upd_same, List.take_add_one, hb, List.map_append]
            rfl
      · rintro H1 ⟨s1, hD⟩
        refine ⟨D, [isB d' h a, isB d' h b], rfl, SqL.of hD, ?_⟩
        have e : ([isB d' h a, isB d' h b] : List Bool).all id = isB (d' + 1) h (.bin k a b) := by
          show (isB d' h a && (isB d' h b && true)) = (isB d' h a && isB d' h b)
          rw [Bool.and_true]
        rw [e]
        exact q _ (g1.trans s1)
theorem no_built0 (vs : List V) (H : Hp) (Q : VK) (E : XK) : ¬ spBuilt K 0 vs H Q E := by
  rintro ⟨x, d, h, t, _, _, _, h0, _⟩
  omega
theorem built_cal {f : Addr} {fd : FuncData} (D : Df K mg "is_built" s_is_built ["value", "depth", "holes"] f fd) (cL : C8.Cal P w K mg base 3 "is_leaf" (spLeaf K) []) (M : BuiltM K mg) : ∀ n : Nat, C8.Cal P w K mg base (n + 3) "is_built" (spBuilt K n) []
  | 0 => D.cal ⟨fun vs H Q E h => absurd h (no_built0 vs H Q E), fun A outer s H args us vs Q E _ _ _ _ h => absurd h (no_built0 vs H Q E)⟩
  | n + 1 => D.cal (ok_built D.fn cL (built_cal D cL M n) M)
/-! ### is_formula -/
def spFormula (K : PySem.W.Frag) : Sp := fun vs H Q _ => ∃ (x : V) (t : Fm), vs = [x] ∧ Fr K H x t ∧ Sml t ∧ SeqAt.shaped t.dat = true ∧ ∀ H', Same H H' → Q (.bl (isB 10 false t)) H'
theorem scFormula : FnScope ["value"] ["value"] (defScope s_is_formula) := ⟨rfl, rfl, rfl, by decide +kernel, rfl, by decide +kernel, by decide +kernel⟩
theorem ok_formula {f : Addr} {fd : FuncData} (F : Fun K "is_formula" "is_formula" s_is_formula f fd) (cB : C8.Cal P w K mg base 14 "is_built" (spBuilt K 11) []) (mD : ∃ t, mg "FORMULA_DEPTH" = some (.int 10 t)) : FnOk P w K mg base CX0 15 f fd ["value"] (spFormula K) := by
  refine F.ok scFormula (fun vs H Q E h => ?_) (fun cdv A outer s H vs Q E hr h => ?_)
  · obtain ⟨x, t, rfl, _⟩ := h
    rfl
  obtain ⟨x, t, rfl, hx, hs, hsh, q⟩ := h
  obtain ⟨tD, mD⟩ := mD
  refine ⟨_, pss_one (ps_ret (C8.pe_c cB hr (by decide) (by rfl) (pa_cons (pv 0) (pa_cons (pe_glob (v := .int 10) (by rfl) mD ⟨_, rfl⟩) (pa_cons pe_bl pa_nil))))), ?_⟩
  exact ⟨_, rfl, x, 10, false, t, rfl, hx, hs, by decide, hsh, q⟩
end

end Ag

namespace Ag
open PySem PySem.Spec PyProof.Rows L2
/-! ### how deep a formula is -/
def dep : Fm → Nat
  | .bin _ a b => max (dep a) (dep b) + 1
  | _ => 1
theorem big (n : Nat) (h : n ≤ 1000000) : n ≤ sizeLine := by
  rw [sizeLine_eq]
  omega
section
variable {P : Program} {w : World} {K : PySem.W.Frag} {mg : Str → Option Value} {base : Heap}
/-! ### text_of, _law_text -/
def spTxt (K : PySem.W.Frag) (n : Nat) : Sp := fun vs H Q _ => ∃ (x : V) (t : Fm), vs = [x] ∧ Fr K H x t ∧ dep t ≤ n ∧ (txt t).length ≤ 1000000 ∧ ∀ H', Same H H' → Q (.str (SX.S (txt t))) H'
theorem scTo : FnScope ["formula"] ["formula"] (defScope s_text_of) := ⟨rfl, rfl, rfl, by decide +kernel, rfl, by decide +kernel, by decide +kernel⟩
/-- the dict of the signs -/
def SignsM (K : PySem.W.Frag) (w : World) (mg : Str → Option Value) : Prop := ∃ a, mg "SIGNS" = some (.ref a) ∧ ∀ k : Fin 3, KDct K w a (kd k) (.str (SX.S [32, sgn k, 32]))
theorem cat_S (a b : List Nat) : SX.S a ++ SX.S b = SX.S (a ++ b) := SX.S_cat a b
theorem ok_textof {n : Nat} {f : Addr} {fd : FuncData} (F : Fun K "text_of" "text_of" s_text_of f fd) (ml : mg "len" = none) (M : SignsM K w mg) (cU : C8.Cal P w K mg base n "text_of" (spTxt K n) []) : FnOk P w K mg base CX0 (n + 1) f fd ["formula"] (spTxt K (n + 1)) := by
  refine F.ok scTo (fun vs H Q E h => ?_) (fun cdv A outer s H vs Q E hr h => ?_)
  · obtain ⟨x, t, rfl, _⟩ := h
    rfl
  obtain ⟨x, t, rfl, hx, hd, hl, q⟩ := h
  obtain ⟨aS, mS, kS⟩ := M
  refine ⟨_, pss_cons (ps_if (pt_cmpR op_eq (pe_callB call_len_seq (by rfl) ml boot_len (pa_cons (pv 0) pa_nil)) pe_int (nomark _))
      (pss_one (ps_ret (pe_joined (.cons pe_str (.cons (pe_fmt (C8.pe_c cU hr (Nat.le_refl _) (by rfl) (pa_cons (pe_ix ix_tup (pv 0) pe_int (fun _ _ => rfl)) pa_nil))) (.cons (pe_fmt (pe_ix ix_kdict (pe_glob (v := .ref aS) (by rfl) mS rfl) (pe_ix ix_tup (pv 0) pe_int (fun _ _ => rfl)) (fun _ _ => rfl)))
        (.cons (pe_fmt (C8.pe_c cU hr (Nat.le_refl _) (by rfl) (pa_cons (pe_ix ix_tup (pv 0) pe_int (fun _ _ => rfl)) pa_nil))) (.cons pe_str .nil)))))))) pss_nil)
    (pss_cons (ps_if (pt_cmpR op_eq (pe_ix ix_tup (pv 0) pe_int (fun _ _ => rfl)) pe_str (nomark _)) (pss_one (ps_ret (pe_ix ix_tup (pv 0) pe_int (fun _ _ => rfl)))) pss_nil)
    (pss_cons (ps_if (pt_cmpR op_eq (pe_ix ix_tup (pv 0) pe_int (fun _ _ => rfl)) pe_str (nomark _)) (pss_one (ps_ret (pe_joined (.cons pe_str (.cons (pe_fmt (pe_ix ix_tup (pv 0) pe_int (fun _ _ => rfl))) .nil))))) pss_nil)
    (pss_one (ps_ret pe_str)))), ?_⟩
  cases t with
  | fls =>
    obtain ⟨p, rfl, sp⟩ := fr_fls hx
    refine ⟨_, rfl, p, _, rfl, .inr sp, rfl, _, rfl, iteE (decide_eq_false (fun z => by cases z)) ?_⟩
    refine ⟨_, rfl, p, _, _, _, rfl, rfl, sp, rfl, rfl, _, rfl, iteE (decide_eq_false (by decide +kernel)) ?_⟩
    refine ⟨_, rfl, p, _, _, _, rfl, rfl, sp, rfl, rfl, _, rfl, iteE (decide_eq_false (by decide +kernel)) ?_⟩
    exact q _ (.refl _)
  | atom u =>
    obtain ⟨p, rfl, sp⟩ := fr_atom hx
    refine ⟨_, rfl, p, _, rfl, .inr sp, rfl, _, rfl, iteE (decide_eq_false (fun z => by cases z)) ?_⟩
    refine ⟨_, rfl, p, _, _, _, rfl, rfl, sp, rfl, rfl, _, rfl, iteU (decide_eq_true rfl) ?_⟩
    exact ⟨_, rfl, p, _, _, _, rfl, rfl, sp, rfl, q _ (.refl _)⟩
  | hole u =>
    obtain ⟨p, rfl, sp⟩ := fr_hole hx
    have hl' : u.length + 1 ≤ 1000000 := hl
    refine ⟨_, rfl, p, _, rfl, .inr sp, rfl, _, rfl, iteE (decide_eq_false (fun z => by cases z)) ?_⟩
    refine ⟨_, rfl, p, _, _, _, rfl, rfl, sp, rfl, rfl, _, rfl, iteE (decide_eq_false (by decide +kernel)) ?_⟩
    refine ⟨_, rfl, p, _, _, _, rfl, rfl, sp, rfl, rfl, _, rfl, iteU (decide_eq_true rfl) ?_⟩
    refine ⟨_, rfl, (by decide), _, rfl, p, _, _, _, rfl, rfl, sp, rfl, .inl ⟨_, rfl, (by rw [SX.S_len]; exact big _ (by omega)), _, rfl, ?_, ?_⟩⟩
    · show (SX.S [] ++ SX.S [63] ++ SX.S u).length ≤ sizeLine
      rw [cat_S, cat_S, SX.S_len]
      exact big _ (by show u.length + 1 ≤ _; exact hl')
    · show Q (.str (SX.S [] ++ SX.S [63] ++ SX.S u)) H
      rw [cat_S, cat_S]
      exact q _ (.refl _)
  | bin k a b =>
    obtain ⟨p, xa, xb, rfl, sp, fa, fb⟩ := fr_bin hx
    have e : (txt (.bin k a b)).length = (txt a).length + (txt b).length + 5 := by
      show (40 :: (txt a ++ ([32, sgn k, 32] ++ (txt b ++ [41])))).length = _
      simp only [List.length_cons, List.length_append, List.length_nil]
      omega
    rw [e] at hl
    have hd' : max (dep a) (dep b) + 1 ≤ n + 1 := hd
    refine ⟨_, rfl, p, _, rfl, .inr sp, rfl, _, rfl, iteU (decide_eq_true rfl) ?_⟩
    refine ⟨_, rfl, (by decide), _, rfl, p, _, _, _, rfl, rfl, sp, rfl, xa, a, rfl, fa, by omega, by omega, fun H1 s1 => ?_⟩
    refine .inl ⟨_, rfl, (by rw [SX.S_len]; exact big _ (by omega)), _, rfl, ?_, ?_⟩
    · show (SX.S [] ++ SX.S [40] ++ SX.S (txt a)).length ≤ sizeLine
      rw [cat_S, cat_S, SX.S_len]
      exact big _ (by show (txt a).length + 1 ≤ _; omega)
    refine ⟨_, rfl, p, _, _, _, rfl, rfl, sameT s1 sp, rfl, aS, kd k, _, rfl, rfl, kS k, ?_⟩
    refine .inl ⟨_, rfl, (by rw [SX.S_len]; exact big 3 (by omega)), _, rfl, ?_, ?_⟩
    · show (SX.S [] ++ SX.S [40] ++ SX.S (txt a) ++ SX.S [32, sgn k, 32]).length ≤ sizeLine
      rw [cat_S, cat_S, cat_S, SX.S_len]
      exact big _ (by simp only [List.length_append, List.length_cons, List.length_nil]; omega)
    refine ⟨_, rfl, p, _, _, _, rfl, rfl, sameT s1 sp, rfl, xb, b, rfl, fb.same s1, by omega, by omega, fun H2 s2 => ?_⟩
    refine .inl ⟨_, rfl, (by rw [SX.S_len]; exact big _ (by omega)), _, rfl, ?_, _, rfl, ?_, ?_⟩
    · show (SX.S [] ++ SX.S [40] ++ SX.S (txt a) ++ SX.S [32, sgn k, 32] ++ SX.S (txt b)).length ≤ sizeLine
      rw [cat_S, cat_S, cat_S, cat_S, SX.S_len]
      exact big _ (by simp only [List.length_append, List.length_cons, List.length_nil]; omega)
    · show (SX.S [] ++ SX.S [40] ++ SX.S (txt a) ++ SX.S [32, sgn k, 32] ++ SX.S (txt b) ++ SX.S [41]).length ≤ sizeLine
      rw [cat_S, cat_S, cat_S, cat_S, cat_S, SX.S_len]
      exact big _ (by simp only [List.length_append, List.length_cons, List.length_nil]; omega)
    · show Q (.str (SX.S [] ++ SX.S [40] ++ SX.S (txt a) ++ SX.S [32, sgn k, 32] ++ SX.S (txt b) ++ SX.S [41])) H2
      rw [cat_S, cat_S, cat_S, cat_S, cat_S]
      have e2 : [] ++ [40] ++ txt a ++ [32, sgn k, 32] ++ txt b ++ [41] = txt (.bin k a b) := by simp [txt]
      rw [e2]
      exact q _ (s1.trans s2)
theorem dep_pos : ∀ t : Fm, 1 ≤ dep t
  | .fls => Nat.le_refl _
  | .atom _ => Nat.le_refl _
  | .hole _ => Nat.le_refl _
  | .bin _ _ _ => Nat.succ_pos _
theorem no_txt0 (vs : List V) (H : Hp) (Q : VK) (E : XK) : ¬ spTxt K 0 vs H Q E := by
  rintro ⟨x, t, _, _, h, _⟩
  have := dep_pos t
  omega
theorem textof_cal {f : Addr} {fd : FuncData} (F : Fun K "text_of" "text_of" s_text_of f fd) (b : Binds K fd ["formula"] []) (m : mg "text_of" = some (.ref f)) (ml : mg "len" = none) (M : SignsM K w mg) : ∀ n : Nat, C8.Cal P w K mg base n "text_of" (spTxt K n) []
  | 0 => ⟨f, fd, _, [], ⟨fun vs H Q E h => absurd h (no_txt0 vs H Q E), fun A outer s H args us vs Q E _ _ _ _ h => absurd h (no_txt0 vs H Q E)⟩, m, F.kp, b, .nil⟩
  | n + 1 => ⟨f, fd, _, [], ok_textof F ml M (textof_cal F b m ml M n), m, F.kp, b, .nil⟩
abbrev nLtx : List Str := ["_law_term", "_law_word", "_law_sign"]
theorem scLtx : FnScope nLtx ["_law_term"] (defScope s_law_text) := ⟨rfl, rfl, rfl, by decide +kernel, rfl, by decide +kernel, by decide +kernel⟩
theorem sg0 : SX.S [sgn 0] = ">" := by decide +kernel
theorem sg1 : SX.S [sgn 1] = "&" := by decide +kernel
theorem sg2 : SX.S [sgn 2] = "|" := by decide +kernel
theorem sign_if {σ : L2.St} {H : Hp} {Q : VK} : ∀ {k : Fin 3}, σ[1]? = some (some (.str (kd k))) → Q (.str (SX.S [sgn k])) H →
    tIf (tTest (tOp rEq (tVar 1) (tC (.str "then")))) (tC (.str ">")) (tIf (tTest (tOp rEq (tVar 1) (tC (.str "and")))) (tC (.str "&")) (tC (.str "|"))) σ H Q
  | 0, h, q => by
    refine ⟨_, h, rfl, _, rfl, iteU (decide_eq_true rfl) ?_⟩
    rw [sg0] at q
    exact q
  | 1, h, q => by
    refine ⟨_, h, rfl, _, rfl, iteE (decide_eq_false (by decide +kernel)) ⟨_, h, rfl, _, rfl, iteU (decide_eq_true rfl) ?_⟩⟩
    rw [sg1] at q
    exact q
  | 2, h, q => by
    refine ⟨_, h, rfl, _, rfl, iteE (decide_eq_false (by decide +kernel)) ⟨_, h, rfl, _, rfl, iteE (decide_eq_false (by decide +kernel)) ?_⟩⟩
    rw [sg2] at q
    exact q
theorem ok_ltext {n : Nat} {f : Addr} {fd : FuncData} (F : Fun K "_law_text" "_law_text" s_law_text f fd) (cU : C8.Cal P w K mg base n "_law_text" (spTxt K n) []) : FnOk P w K mg base CX0 (n + 1) f fd ["_law_term"] (spTxt K (n + 1)) := by
  refine F.ok scLtx (fun vs H Q E h => ?_) (fun cdv A outer s H vs Q E hr h => ?_)
  · obtain ⟨x, t, rfl, _⟩ := h
    rfl
  obtain ⟨x, t, rfl, hx, hd, hl, q⟩ := h
  have nd := scLtx.nd
  refine ⟨_, pss_cons (ps_set (i := 1) nd rfl (.inl rfl) (pe_ix ix_tup (pv 0) pe_int (fun _ _ => rfl)))
    (pss_cons (ps_if (pt_cmpR op_in_seq (pv 1) (pe_tup (pa_cons pe_str (pa_cons pe_str (pa_cons pe_str pa_nil)))) (by with_unfolding_all rfl))
      (C8.pss_cut (ps_set (i := 2) nd rfl (.inl rfl) (pe_ifExp (pt_cmpR op_eq (pv 1) pe_str (nomark _)) pe_str (pe_ifExp (pt_cmpR op_eq (pv 1) pe_str (nomark _)) pe_str pe_str)))
      (pss_one (ps_ret (pe_op op_add_str (pe_op op_add_str (pe_op op_add_str (pe_op op_add_str (pe_op op_add_str (pe_op op_add_str pe_str (C8.pe_c cU hr (Nat.le_refl _) (by rfl) (pa_cons (pe_ix ix_tup (pv 0) pe_int (fun _ _ => rfl)) pa_nil))) pe_str) (pv 2)) pe_str)
        (C8.pe_c cU hr (Nat.le_refl _) (by rfl) (pa_cons (pe_ix ix_tup (pv 0) pe_int (fun _ _ => rfl)) pa_nil))) pe_str)))) pss_nil)
    (pss_cons (ps_if (pt_cmpR op_eq (pv 1) pe_str (nomark _)) (pss_one (ps_ret pe_str)) pss_nil)
    (pss_one (ps_ret (pe_op op_add_str (pe_ifExp (pt_cmpR op_eq (pv 1) pe_str (nomark _)) pe_str pe_str) (pe_ix ix_tup (pv 0) pe_int (fun _ _ => rfl))))))), ?_⟩
  cases t with
  | fls =>
    obtain ⟨p, rfl, sp⟩ := fr_fls hx
    refine ⟨_, rfl, p, _, _, _, rfl, rfl, sp, rfl, _, rfl, (by show 3 ≤ sizeLine; decide), fun t3 n3 => ?_⟩
    refine ⟨t3, _, rfl, .inr (SqT.of upd_same), rfl, rfl, _, rfl, iteE (by decide +kernel) ?_⟩
    refine ⟨_, rfl, rfl, _, rfl, iteU (decide_eq_true rfl) ?_⟩
    exact q _ (same_new n3 _)
  | atom u =>
    obtain ⟨p, rfl, sp⟩ := fr_atom hx
    have hl' : u.length ≤ 1000000 := hl
    refine ⟨_, rfl, p, _, _, _, rfl, rfl, sp, rfl, _, rfl, (by show 3 ≤ sizeLine; decide), fun t3 n3 => ?_⟩
    have g := same_new n3 (.tup [.str "then", .str "and", .str "or"])
    refine ⟨t3, _, rfl, .inr (SqT.of upd_same), rfl, rfl, _, rfl, iteE (by decide +kernel) ?_⟩
    refine ⟨_, rfl, rfl, _, rfl, iteE (decide_eq_false (by decide +kernel)) ?_⟩
    refine ⟨_, rfl, rfl, _, rfl, iteE (decide_eq_false (by decide +kernel)) ?_⟩
    refine ⟨_, rfl, p, _, _, _, rfl, rfl, sameT g sp, rfl, _, _, rfl, rfl, ?_, ?_⟩
    · show (SX.S []).length + (SX.S u).length ≤ sizeLine
      rw [SX.S_len, SX.S_len]
      exact big _ (by show 0 + u.length ≤ _; omega)
    · show Q (.str (SX.S [] ++ SX.S u)) _
      rw [cat_S]
      exact q _ g
  | hole u =>
    obtain ⟨p, rfl, sp⟩ := fr_hole hx
    have hl' : u.length + 1 ≤ 1000000 := hl
    refine ⟨_, rfl, p, _, _, _, rfl, rfl, sp, rfl, _, rfl, (by show 3 ≤ sizeLine; decide), fun t3 n3 => ?_⟩
    have g := same_new n3 (.tup [.str "then", .str "and", .str "or"])
    refine ⟨t3, _, rfl, .inr (SqT.of upd_same), rfl, rfl, _, rfl, iteE (by decide +kernel) ?_⟩
    refine ⟨_, rfl, rfl, _, rfl, iteE (decide_eq_false (by decide +kernel)) ?_⟩
    refine ⟨_, rfl, rfl, _, rfl, iteU (decide_eq_true rfl) ?_⟩
    refine ⟨_, rfl, p, _, _, _, rfl, rfl, sameT g sp, rfl, _, _, rfl, rfl, ?_, ?_⟩
    · show (SX.S [63]).length + (SX.S u).length ≤ sizeLine
      rw [SX.S_len, SX.S_len]
      exact big _ (by show 1 + u.length ≤ _; omega)
    · show Q (.str (SX.S [63] ++ SX.S u)) _
      rw [cat_S]
      exact q _ g
  | bin k a b =>
    obtain ⟨p, xa, xb, rfl, sp, fa, fb⟩ := fr_bin hx
    have e : (txt (.bin k a b)).length = (txt a).length + (txt b).length + 5 := by
      show (40 :: (txt a ++ ([32, sgn k, 32] ++ (txt b ++ [41])))).length = _
      simp only [List.length_cons, List.length_append, List.length_nil]
      omega
    rw [e] at hl
    have hd' : max (dep a) (dep b) + 1 ≤ n + 1 := hd
    refine ⟨_, rfl, p, _, _, _, rfl, rfl, sp, rfl, _, rfl, (by show 3 ≤ sizeLine; decide), fun t3 n3 => ?_⟩
    have g := same_new n3 (.tup [.str "then", .str "and", .str "or"])
    refine ⟨t3, _, rfl, .inr (SqT.of upd_same), rfl, rfl, _, rfl, iteU (kd_in k) ?_⟩
    refine ⟨fun σ' H' => σ' = [some (.ref p), some (.str (kd k)), some (.str (SX.S [sgn k]))] ∧ Same H H', ?_, ?_⟩
    · exact sign_if (k := k) rfl ⟨rfl, g⟩
    rintro σ H3 ⟨rfl, g3⟩
    refine ⟨_, rfl, p, _, _, _, rfl, rfl, sameT g3 sp, rfl, xa, a, rfl, fa.same g3, by omega, by omega, fun H4 s4 => ?_⟩
    refine ⟨_, _, rfl, rfl, (by show (SX.S [40]).length + (SX.S (txt a)).length ≤ sizeLine; rw [SX.S_len, SX.S_len]; exact big _ (by simp only [List.length_append, List.length_cons, List.length_nil]; omega)), ?_⟩
    refine ⟨_, _, rfl, rfl, (by show (SX.S [40] ++ SX.S (txt a)).length + (SX.S [32]).length ≤ sizeLine; rw [cat_S, SX.S_len, SX.S_len]; exact big _ (by simp only [List.length_append, List.length_cons, List.length_nil]; omega)), ?_⟩
    refine ⟨_, rfl, ?_⟩
    refine ⟨_, _, rfl, rfl, (by show (SX.S [40] ++ SX.S (txt a) ++ SX.S [32]).length + (SX.S [sgn k]).length ≤ sizeLine; rw [cat_S, cat_S, SX.S_len, SX.S_len]; exact big _ (by simp only [List.length_append, List.length_cons, List.length_nil]; omega)), ?_⟩
    refine ⟨_, _, rfl, rfl, (by show (SX.S [40] ++ SX.S (txt a) ++ SX.S [32] ++ SX.S [sgn k]).length + (SX.S [32]).length ≤ sizeLine; rw [cat_S, cat_S, cat_S, SX.S_len, SX.S_len]; exact big _ (by simp only [List.length_append, List.length_cons, List.length_nil]; omega)), ?_⟩
    have g34 := g3.trans s4
    refine ⟨_, rfl, p, _, _, _, rfl, rfl, sameT g34 sp, rfl, xb, b, rfl, fb.same g34, by omega, by omega, fun H5 s5 => ?_⟩
    refine ⟨_, _, rfl, rfl, (by show (SX.S [40] ++ SX.S (txt a) ++ SX.S [32] ++ SX.S [sgn k] ++ SX.S [32]).length + (SX.S (txt b)).length ≤ sizeLine; rw [cat_S, cat_S, cat_S, cat_S, SX.S_len, SX.S_len]; exact big _ (by simp only [List.length_append, List.length_cons, List.length_nil]; omega)), ?_⟩
    refine ⟨_, _, rfl, rfl, (by show (SX.S [40] ++ SX.S (txt a) ++ SX.S [32] ++ SX.S [sgn k] ++ SX.S [32] ++ SX.S (txt b)).length + (SX.S [41]).length ≤ sizeLine; rw [cat_S, cat_S, cat_S, cat_S, cat_S, SX.S_len, SX.S_len]; exact big _ (by simp only [List.length_append, List.length_cons, List.length_nil]; omega)), ?_⟩
    show Q (.str (SX.S [40] ++ SX.S (txt a) ++ SX.S [32] ++ SX.S [sgn k] ++ SX.S [32] ++ SX.S (txt b) ++ SX.S [41])) H5
    rw [cat_S, cat_S, cat_S, cat_S, cat_S, cat_S]
    have e2 : [40] ++ txt a ++ [32] ++ [sgn k] ++ [32] ++ txt b ++ [41] = txt (.bin k a b) := by simp [txt]
    rw [e2]
    exact q _ (g34.trans s5)
theorem ltext_cal {f : Addr} {fd : FuncData} (F : Fun K "_law_text" "_law_text" s_law_text f fd) (b : Binds K fd ["_law_term"] []) (m : mg "_law_text" = some (.ref f)) : ∀ n : Nat, C8.Cal P w K mg base n "_law_text" (spTxt K n) []
  | 0 => ⟨f, fd, _, [], ⟨fun vs H Q E h => absurd h (no_txt0 vs H Q E), fun A outer s H args us vs Q E _ _ _ _ h => absurd h (no_txt0 vs H Q E)⟩, m, F.kp, b, .nil⟩
  | n + 1 => ⟨f, fd, _, [], ok_ltext F (ltext_cal F b m n), m, F.kp, b, .nil⟩
end

end Ag

namespace Ag
open PySem PySem.Spec PyProof.Rows L2
/-! ### reading a formula -/
def PRes (K : PySem.W.Frag) (H : Hp) (r : V) (cs : List Nat) (o : Option (Fm × List Nat)) : Prop := match o with
  | none => r = .non
  | some x => ∃ (p : Addr) (v : V) (e : Nat), r = .ref p ∧ SqT K H p [v, .int (e : Int)] ∧ Fr K H v x.1 ∧ e ≤ cs.length ∧ cs.drop e = x.2
/-- texts whose words are not too long -/
structure TxOk (cs : List Nat) : Prop where
  len : cs.length ≤ 1000000
  run : ∀ n, ((cs.drop n).takeWhile isl).length ≤ 1000
def KindsM (K : PySem.W.Frag) (w : World) (mg : Str → Option Value) : Prop := ∃ a, mg "KINDS" = some (.ref a) ∧ KdIs K w a ∧ ∀ cs, KdAt K w a (SX.S cs) ((kndOf cs).map fun k => V.str (kd k))
theorem let_one {cs : List Nat} : isLet (cs.take 1) = match cs with | [] => false | c :: _ => isl c := by
  cases cs with
  | nil => rfl
  | cons c r =>
    show (decide ([c].length = 1) && [c].all fun c => decide (97 ≤ c) && decide (c < 123)) = isl c
    simp [isl]
theorem drop_take_one {cs : List Nat} {e : Nat} : (cs.drop e).drop 1 = cs.drop (e + 1) := by rw [List.drop_drop]
section
variable {P : Program} {w : World} {K : PySem.W.Frag} {mg : Str → Option Value} {base : Heap}
def spPH (K : PySem.W.Frag) : Sp := fun vs H Q _ => ∃ (cs : List Nat) (at' : Nat), vs = [.str (SX.S cs), .int (at' : Int)] ∧ TxOk cs ∧ ∀ (r : V) (H' : Hp), PRes K H' r cs (prH (cs.drop at')) → Same H H' → Q r H'
def spPA (K : PySem.W.Frag) : Sp := fun vs H Q _ => ∃ (cs : List Nat) (at' : Nat), vs = [.str (SX.S cs), .int (at' : Int)] ∧ TxOk cs ∧ at' ≤ cs.length ∧ ∀ (r : V) (H' : Hp), PRes K H' r cs (prA (cs.drop at')) → Same H H' → Q r H'
abbrev nPH : List Str := ["text", "at", "letter"]
theorem scPH : FnScope nPH ["text", "at"] (defScope s_parsed_hole) := ⟨rfl, rfl, rfl, by decide +kernel, rfl, by decide +kernel, by decide +kernel⟩
theorem cut1 (cs : List Nat) (n : Nat) : Txt.slice (SX.S cs) (some (n : Int)) (some ((n : Int) + 1)) = SX.S ((cs.drop n).take 1) := by
  have := slice_both cs (i := n) (j := n + 1) (Nat.le_succ n)
  rw [Nat.add_sub_cancel_left] at this
  exact this
theorem ok_phole {f : Addr} {fd : FuncData} (F : Fun K "parsed_hole" "parsed_hole" s_parsed_hole f fd) (cL : C8.Cal P w K mg base 1 "is_letter" (spLetter K) []) : FnOk P w K mg base CX0 2 f fd ["text", "at"] (spPH K) := by
  refine F.ok scPH (fun vs H Q E h => ?_) (fun cdv A outer s H vs Q E hr h => ?_)
  · obtain ⟨cs, at', rfl, _⟩ := h
    rfl
  obtain ⟨cs, at', rfl, hc, q⟩ := h
  have nd := scPH.nd
  refine ⟨_, pss_cons (ps_set (i := 2) nd rfl (.inl rfl) (pe_slice C8.sl_txt (pv 0) (po_some (pv 1)) (po_some (pe_op op_add (pv 1) pe_int))))
    (pss_one (ps_ret (pe_ifExp (pt_val (C8.pe_c cL hr (by decide) (by rfl) (pa_cons (pv 2) pa_nil))) (pe_tup (pa_cons (pe_tup (pa_cons pe_str (pa_cons (pv 2) pa_nil))) (pa_cons (pe_op op_add (pv 1) pe_int) pa_nil))) pe_non))), ?_⟩
  refine ⟨_, rfl, _, rfl, _, rfl, _, rfl, _, _, rfl, rfl, _, rfl, SX.S cs, rfl, by rw [SX.S_len]; exact big _ hc.len, ?_⟩
  rw [cut1]
  refine ⟨_, rfl, _, _, rfl, .inl ⟨_, rfl, by rw [List.length_take]; omega, rfl⟩, _, rfl, ?_⟩
  by_cases hl : isLet ((cs.drop at').take 1) = true
  · refine iteU hl ?_
    refine ⟨_, rfl, (by show 2 ≤ sizeLine; decide), fun p1 n1 => ⟨_, rfl, _, _, rfl, rfl, (by show 2 ≤ sizeLine; decide), fun p2 n2 => ?_⟩⟩
    have g1 := same_new n1 (.tup [.str "hole", .str (SX.S ((cs.drop at').take 1))])
    have g2 := same_new n2 (.tup [.ref p1, .int ((at' : Int) + 1)])
    refine q _ _ ?_ (g1.trans g2)
    unfold prH
    rw [if_pos hl]
    refine ⟨p2, .ref p1, at' + 1, rfl, SqT.of upd_same, mk_hole (SqT.of (g2 _ _ upd_same)), ?_, ?_⟩
    · rw [let_one] at hl
      cases e : cs.drop at' with
      | nil => rw [e] at hl; cases hl
      | cons c r =>
        have := congrArg List.length e
        rw [List.length_drop, List.length_cons] at this
        omega
    · rw [drop_take_one]
  · rw [Bool.not_eq_true] at hl
    refine iteE hl ?_
    refine q _ _ ?_ (.refl _)
    unfold prH
    rw [hl, if_neg (by decide)]
    rfl
abbrev nPA : List Str := ["text", "at", "end", "name"]
theorem scPA : FnScope nPA ["text", "at"] (defScope s_parsed_atom) := ⟨rfl, rfl, rfl, by decide +kernel, rfl, by decide +kernel, by decide +kernel⟩
theorem while_cut : ∀ {cs : List Nat} {n : Nat}, (∀ c ∈ cs.take n, isl c = true) → n ≤ cs.length → (∀ c, (cs.drop n).head? = some c → isl c = false) → cs.takeWhile isl = cs.take n ∧ cs.dropWhile isl = cs.drop n := fun {cs n} h1 h2 h3 => by
  have := take_while_app (w := cs.take n) (r := cs.drop n) h1 h3
  rwa [List.take_append_drop] at this
theorem ok_patom {f : Addr} {fd : FuncData} (F : Fun K "parsed_atom" "parsed_atom" s_parsed_atom f fd) (cL : C8.Cal P w K mg base 1 "is_letter" (spLetter K) []) (cN : C8.Cal P w K mg base 2 "is_name" (spName K) []) : FnOk P w K mg base CX0 3 f fd ["text", "at"] (spPA K) := by
  refine F.ok scPA (fun vs H Q E h => ?_) (fun cdv A outer s H vs Q E hr h => ?_)
  · obtain ⟨cs, at', rfl, _⟩ := h
    rfl
  obtain ⟨cs, at', rfl, hc, hat, q⟩ := h
  have nd := scPA.nd
  refine ⟨_, pss_cons (ps_set (i := 2) nd rfl (.inl rfl) (pv 1))
    (pss_cons (ps_while PassesOwn.never (pt_val (C8.pe_c cL hr (by decide) (by rfl) (pa_cons (pe_slice C8.sl_txt (pv 0) (po_some (pv 2)) (po_some (pe_op op_add (pv 2) pe_int))) pa_nil)))
      (pss_one (ps_aug (i := 2) nd rfl (.inl rfl) pe_int ip_add)))
    (pss_cons (ps_set (i := 3) nd rfl (.inl rfl) (pe_slice C8.sl_txt (pv 0) (po_some (pv 1)) (po_some (pv 2))))
    (pss_one (ps_ret (pe_ifExp (pt_val (C8.pe_c cN hr (by decide) (by rfl) (pa_cons (pv 3) pa_nil))) (pe_tup (pa_cons (pe_tup (pa_cons pe_str (pa_cons (pv 3) pa_nil))) (pa_cons (pv 2) pa_nil))) pe_non))))), ?_⟩
  have hz : (SX.S cs).length ≤ sizeLine := by rw [SX.S_len]; exact big _ hc.len
  refine ⟨_, rfl, ?_⟩
  refine ⟨fun k σ H' => ∃ n : Nat, k = cs.length - (at' + n) ∧ σ = [some (.str (SX.S cs)), some (.int (at' : Int)), some (.int ((at' + n : Nat) : Int)), none] ∧ H' = H ∧ at' + n ≤ cs.length ∧ ∀ c ∈ (cs.drop at').take n, isl c = true, ⟨cs.length - at', 0, rfl, rfl, rfl, hat, fun c h => by simp at h⟩, ?_⟩
  rintro k σ H' ⟨n, rfl, rfl, rfl, hn, ha⟩
  refine ⟨_, rfl, _, rfl, _, rfl, _, rfl, _, _, rfl, rfl, _, rfl, SX.S cs, rfl, hz, ?_⟩
  rw [cut1]
  refine ⟨_, _, rfl, .inl ⟨_, rfl, by rw [List.length_take]; omega, rfl⟩, _, rfl, ?_⟩
  have e1 : (cs.drop at').drop n = cs.drop (at' + n) := by rw [List.drop_drop]
  rw [let_one]
  cases e : cs.drop (at' + n) with
  | cons c r =>
    have hl : at' + n < cs.length := by
      have := congrArg List.length e
      rw [List.length_drop, List.length_cons] at this
      omega
    have ec : (cs.drop at')[n]? = some c := by
      rw [List.getElem?_drop]
      have := congrArg (fun l => l[0]?) e
      simpa [List.getElem?_drop] using this
    by_cases hic : isl c = true
    · refine iteU hic ?_
      refine ⟨_, fun _ _ z => z, ?_⟩
      refine ⟨_, rfl, _, _, rfl, rfl, cs.length - (at' + (n + 1)), by omega, n + 1, rfl, rfl, rfl, by omega, fun d hd => ?_⟩
      rw [List.take_add_one, ec] at hd
      rcases List.mem_append.mp hd with z | z
      · exact ha d z
      · simp at z
        rw [z]
        exact hic
    · rw [Bool.not_eq_true] at hic
      refine iteE hic ?_
      obtain ⟨w1, w2⟩ := while_cut (cs := cs.drop at') (n := n) ha (by rw [List.length_drop]; omega) (fun d hd => by rw [e1, e] at hd; cases hd; exact hic)
      have hrun := hc.run at'
      refine ⟨_, rfl, _, rfl, _, rfl, _, rfl, _, rfl, SX.S cs, rfl, hz, ?_⟩
      rw [slice_both cs (i := at') (j := at' + n) (by omega), Nat.add_sub_cancel_left, ← w1]
      refine ⟨_, rfl, _, _, rfl, name_is hrun, fun H1 s1 => ⟨_, rfl, ?_⟩⟩
      by_cases hm : isNm ((cs.drop at').takeWhile isl) = true
      · refine iteU hm ?_
        refine ⟨_, rfl, (by show 2 ≤ sizeLine; decide), fun p1 n1 => ⟨_, rfl, (by show 2 ≤ sizeLine; decide), fun p2 n2 => ?_⟩⟩
        have g1 := same_new n1 (.tup [.str "atom", .str (SX.S ((cs.drop at').takeWhile isl))])
        have g2 := same_new n2 (.tup [.ref p1, .int ((at' + n : Nat) : Int)])
        refine q _ _ ?_ (s1.trans (g1.trans g2))
        unfold prA
        rw [if_pos hm]
        exact ⟨p2, .ref p1, at' + n, rfl, SqT.of upd_same, mk_atom (SqT.of (g2 _ _ upd_same)), hn, by rw [w2, e1]⟩
      · rw [Bool.not_eq_true] at hm
        refine iteE hm ?_
        refine q _ _ ?_ s1
        unfold prA
        rw [hm, if_neg (by decide)]
        rfl
  | nil =>
    refine iteE rfl ?_
    obtain ⟨w1, w2⟩ := while_cut (cs := cs.drop at') (n := n) ha (by rw [List.length_drop]; omega) (fun d hd => by rw [e1, e] at hd; cases hd)
    have hrun := hc.run at'
    refine ⟨_, rfl, _, rfl, _, rfl, _, rfl, _, rfl, SX.S cs, rfl, hz, ?_⟩
    rw [slice_both cs (i := at') (j := at' + n) (by omega), Nat.add_sub_cancel_left, ← w1]
    refine ⟨_, rfl, _, _, rfl, name_is hrun, fun H1 s1 => ⟨_, rfl, ?_⟩⟩
    by_cases hm : isNm ((cs.drop at').takeWhile isl) = true
    · refine iteU hm ?_
      refine ⟨_, rfl, (by show 2 ≤ sizeLine; decide), fun p1 n1 => ⟨_, rfl, (by show 2 ≤ sizeLine; decide), fun p2 n2 => ?_⟩⟩
      have g1 := same_new n1 (.tup [.str "atom", .str (SX.S ((cs.drop at').takeWhile isl))])
      have g2 := same_new n2 (.tup [.ref p1, .int ((at' + n : Nat) : Int)])
      refine q _ _ ?_ (s1.trans (g1.trans g2))
      unfold prA
      rw [if_pos hm]
      exact ⟨p2, .ref p1, at' + n, rfl, SqT.of upd_same, mk_atom (SqT.of (g2 _ _ upd_same)), hn, by rw [w2, e1]⟩
    · rw [Bool.not_eq_true] at hm
      refine iteE hm ?_
      refine q _ _ ?_ s1
      unfold prA
      rw [hm, if_neg (by decide)]
      rfl
end

/-- what is behind an opening sign -/
def jnt (d : Nat) (h : Bool) (cs : List Nat) : Option (Fm × List Nat) := match prs d h cs with
  | none => none
  | some (a, r1) => match kndOf (r1.take 3) with
    | none => none
    | some k => match prs d h (r1.drop 3) with
      | none => none
      | some (b, r2) => if r2.take 1 = [41] then some (.bin k a b, r2.drop 1) else none
theorem prs_eq (d : Nat) (h : Bool) (cs : List Nat) : prs (d + 1) h cs = if cs.take 1 = [40] then jnt d h (cs.drop 1) else if cs.take 1 = [48] then some (.fls, cs.drop 1) else if cs.take 1 = [63] then (if h = true then prH (cs.drop 1) else none) else prA cs := rfl
section
variable {P : Program} {w : World} {K : PySem.W.Frag} {mg : Str → Option Value} {base : Heap}
def spPAt (K : PySem.W.Frag) (n : Nat) : Sp := fun vs H Q _ => ∃ (cs : List Nat) (at' d : Nat) (h : Bool), vs = [.str (SX.S cs), .int (at' : Int), .int (d : Int), .bl h] ∧ TxOk cs ∧ at' ≤ cs.length ∧ d < n ∧ ∀ (r : V) (H' : Hp), PRes K H' r cs (prs d h (cs.drop at')) → Same H H' → Q r H'
def spPJ (K : PySem.W.Frag) (n : Nat) : Sp := fun vs H Q _ => ∃ (cs : List Nat) (at' d : Nat) (h : Bool), vs = [.str (SX.S cs), .int (at' : Int), .int (d : Int), .bl h] ∧ TxOk cs ∧ at' ≤ cs.length ∧ d < n ∧ ∀ (r : V) (H' : Hp), PRes K H' r cs (jnt d h (cs.drop at')) → Same H H' → Q r H'
abbrev nPJ : List Str := ["text", "at", "depth", "holes", "left", "behind", "kind", "right"]
theorem scPJ : FnScope nPJ ["text", "at", "depth", "holes"] (defScope s_parsed_joint) := ⟨rfl, rfl, rfl, by decide +kernel, rfl, by decide +kernel, by decide +kernel⟩
theorem PRes.same {H H' : Hp} {r : V} {cs : List Nat} {o : Option (Fm × List Nat)} (s : Same H H') (h : PRes K H r cs o) : PRes K H' r cs o := by
  cases o with
  | none => exact h
  | some x =>
    obtain ⟨p, v, e, h1, h2, h3, h4⟩ := h
    exact ⟨p, v, e, h1, sameT s h2, h3.same s, h4⟩
theorem ne_non {p : Addr} : decide (V.ref p = V.non) = false := decide_eq_false (fun z => by cases z)
theorem kd_ne {k : Fin 3} : decide (V.str (kd k) = V.non) = false := decide_eq_false (fun z => by cases z)
theorem ok_pjoint {n : Nat} {f : Addr} {fd : FuncData} (F : Fun K "parsed_joint" "parsed_joint" s_parsed_joint f fd) (M : KindsM K w mg) (cA : C8.Cal P w K mg base (2 * n + 4) "parsed_at" (spPAt K n) []) : FnOk P w K mg base CX0 (2 * n + 5) f fd ["text", "at", "depth", "holes"] (spPJ K n) := by
  refine F.ok scPJ (fun vs H Q E h => ?_) (fun cdv A outer s H vs Q E hr h => ?_)
  · obtain ⟨cs, at', d, h, rfl, _⟩ := h
    rfl
  obtain ⟨cs, at', d, h, rfl, hc, hat, hd, q⟩ := h
  have nd := scPJ.nd
  obtain ⟨aK, mK, iK, kK⟩ := M
  refine ⟨_, pss_cons (ps_set (i := 4) nd rfl (.inl rfl) (C8.pe_c cA hr (Nat.le_refl _) (by rfl) (pa_cons (pv 0) (pa_cons (pv 1) (pa_cons (pv 2) (pa_cons (pv 3) pa_nil))))))
    (pss_cons (ps_if (pt_cmp (pc_isN (pv 4)) rfl) (pss_one (ps_ret pe_non)) pss_nil)
    (pss_cons (ps_set (i := 5) nd rfl (.inl rfl) (pe_op op_add (pe_ix ix_tup (pv 4) pe_int (fun _ _ => rfl)) pe_int))
    (pss_cons (ps_set (i := 6) nd rfl (.inl rfl) (pe_kget1 (pe_glob (v := .ref aK) (by rfl) mK rfl) (pe_slice C8.sl_txt (pv 0) (po_some (pe_ix ix_tup (pv 4) pe_int (fun _ _ => rfl))) (po_some (pv 5))) ⟨rfl, rfl, rfl, rfl⟩))
    (pss_cons (ps_if (pt_cmp (pc_isN (pv 6)) rfl) (pss_one (ps_ret pe_non)) pss_nil)
    (pss_cons (ps_set (i := 7) nd rfl (.inl rfl) (C8.pe_c cA hr (Nat.le_refl _) (by rfl) (pa_cons (pv 0) (pa_cons (pv 5) (pa_cons (pv 2) (pa_cons (pv 3) pa_nil))))))
    (pss_cons (ps_if (PW.pt (pw_or (pt_cmp (pc_isN (pv 7)) rfl) (pw_or1 (pt_cmpR op_ne (pe_slice C8.sl_txt (pv 0) (po_some (pe_ix ix_tup (pv 7) pe_int (fun _ _ => rfl))) (po_some (pe_op op_add (pe_ix ix_tup (pv 7) pe_int (fun _ _ => rfl)) pe_int))) pe_str (nomark _))))) (pss_one (ps_ret pe_non)) pss_nil)
    (pss_one (ps_ret (pe_tup (pa_cons (pe_tup (pa_cons (pv 6) (pa_cons (pe_ix ix_tup (pv 4) pe_int (fun _ _ => rfl)) (pa_cons (pe_ix ix_tup (pv 7) pe_int (fun _ _ => rfl)) pa_nil)))) (pa_cons (pe_op op_add (pe_ix ix_tup (pv 7) pe_int (fun _ _ => rfl)) pe_int) pa_nil))))))))))), ?_⟩
  have hz : (SX.S cs).length ≤ sizeLine := by rw [SX.S_len]; exact big _ hc.len
  refine ⟨_, rfl, _, rfl, _, rfl, _, rfl, cs, at', d, h, rfl, hc, hat, hd, fun l1 H1 r1 s1 => ?_⟩
  cases e1 : prs d h (cs.drop at') with
  | none =>
    rw [e1] at r1
    obtain rfl : l1 = .non := r1
    refine ⟨_, rfl, _, rfl, iteU rfl ?_⟩
    refine q _ _ ?_ s1
    unfold jnt
    rw [e1]
    rfl
  | some x1 =>
    obtain ⟨a, t1⟩ := x1
    rw [e1] at r1
    obtain ⟨p1, va, n1, rfl, sp1, fa, ln1, ed1⟩ := r1
    have ed1' : cs.drop n1 = t1 := ed1
    refine ⟨_, rfl, _, rfl, iteE ne_non ?_⟩
    refine ⟨_, rfl, p1, _, _, _, rfl, rfl, sp1, rfl, _, _, rfl, rfl, ?_⟩
    refine ⟨aK, rfl, iK, _, rfl, _, rfl, p1, _, _, _, rfl, rfl, sp1, rfl, (n1 : Int), rfl, _, rfl, (n1 : Int) + 3, rfl, SX.S cs, rfl, hz, ?_⟩
    have c3 : Txt.slice (SX.S cs) (some (n1 : Int)) (some ((n1 : Int) + 3)) = SX.S (t1.take 3) := by
      have := slice_both cs (i := n1) (j := n1 + 3) (by omega)
      rw [Nat.add_sub_cancel_left, ed1'] at this
      exact this
    rw [c3]
    refine ⟨_, _, rfl, kK _, ?_⟩
    cases e2 : kndOf (t1.take 3) with
    | none =>
      refine ⟨_, rfl, _, rfl, iteU rfl ?_⟩
      refine q _ _ ?_ s1
      unfold jnt
      rw [e1]
      show PRes K H1 _ cs (match kndOf (t1.take 3) with | none => none | some k => _)
      rw [e2]
      rfl
    | some k =>
      refine ⟨_, rfl, _, rfl, iteE kd_ne ?_⟩
      have l3 : n1 + 3 ≤ cs.length := by
        have := congrArg List.length (kndOf_some e2)
        rw [List.length_take, ← ed1', List.length_drop] at this
        simp only [List.length_cons, List.length_nil] at this
        omega
      have ed3 : t1.drop 3 = cs.drop (n1 + 3) := by rw [← ed1', List.drop_drop]
      refine ⟨_, rfl, _, rfl, _, rfl, _, rfl, cs, n1 + 3, d, h, rfl, hc, l3, hd, fun r2 H2 pr2 s2 => ?_⟩
      have s12 := s1.trans s2
      cases e3 : prs d h (cs.drop (n1 + 3)) with
      | none =>
        rw [e3] at pr2
        obtain rfl : r2 = .non := pr2
        refine ⟨_, rfl, _, rfl, iteU rfl (iteU rfl ?_)⟩
        refine q _ _ ?_ s12
        unfold jnt
        rw [e1]
        show PRes K H2 _ cs (match kndOf (t1.take 3) with | none => none | some k => match prs d h (t1.drop 3) with | none => none | some (b, r2) => if r2.take 1 = [41] then some (Fm.bin k a b, r2.drop 1) else none)
        rw [e2, ed3, e3]
        rfl
      | some x2 =>
        obtain ⟨b, t2⟩ := x2
        rw [e3] at pr2
        obtain ⟨p2, vb, n2, rfl, sp2, fb, ln2, ed2⟩ := pr2
        have ed2' : cs.drop n2 = t2 := ed2
        have full : jnt d h (cs.drop at') = if t2.take 1 = [41] then some (Fm.bin k a b, t2.drop 1) else none := by
          unfold jnt
          rw [e1]
          show (match kndOf (t1.take 3) with | none => none | some k => match prs d h (t1.drop 3) with | none => none | some (b, r2) => if r2.take 1 = [41] then some (Fm.bin k a b, r2.drop 1) else none) = _
          rw [e2, ed3, e3]
        refine ⟨_, rfl, _, rfl, iteE ne_non ?_⟩
        refine ⟨_, rfl, _, rfl, p2, _, _, _, rfl, rfl, sp2, rfl, (n2 : Int), rfl, _, rfl, p2, _, _, _, rfl, rfl, sp2, rfl, _, _, rfl, rfl, (n2 : Int) + 1, rfl, SX.S cs, rfl, hz, ?_⟩
        rw [cut1, ed2']
        refine ⟨rfl, _, rfl, ?_⟩
        have ec : decide (V.str (SX.S (t2.take 1)) = V.str ")") = decide (t2.take 1 = [41]) := by
          have e0 : (")" : Str) = SX.S [41] := by decide +kernel
          rw [e0]
          by_cases z : t2.take 1 = [41]
          · rw [z]
            simp
          · rw [decide_eq_false z, decide_eq_false (fun y => z (SX.S_inj (V.str.inj y)))]
        by_cases z : t2.take 1 = [41]
        · refine iteE (by rw [ec, decide_eq_true z]; rfl) ?_
          rw [full, if_pos z] at q
          refine ⟨_, rfl, _, rfl, p1, _, _, _, rfl, rfl, sameT s2 sp1, rfl, _, rfl, p2, _, _, _, rfl, rfl, sp2, rfl, (by show 3 ≤ sizeLine; decide), fun p3 n3 => ?_⟩
          have g3 := same_new n3 (.tup [.str (kd k), va, vb])
          refine ⟨_, rfl, p2, _, _, _, rfl, rfl, sameT g3 sp2, rfl, _, _, rfl, rfl, (by show 2 ≤ sizeLine; decide), fun p4 n4 => ?_⟩
          have g4 := same_new n4 (.tup [.ref p3, .int ((n2 : Int) + 1)])
          refine q _ _ ⟨p4, .ref p3, n2 + 1, rfl, SqT.of upd_same, mk_bin (SqT.of (g4 _ _ upd_same)) (fa.same (s2.trans (g3.trans g4))) (fb.same (g3.trans g4)), ?_, ?_⟩ (s12.trans (g3.trans g4))
          · have := congrArg List.length z
            rw [List.length_take, ← ed2', List.length_drop] at this
            simp only [List.length_cons, List.length_nil] at this
            omega
          · show cs.drop (n2 + 1) = t2.drop 1
            rw [← ed2', drop_take_one]
        · refine iteU (by rw [ec, decide_eq_false z]; rfl) ?_
          rw [full, if_neg z] at q
          exact q _ _ rfl s12
abbrev nPAt : List Str := ["text", "at", "depth", "holes", "sign"]
theorem scPAt : FnScope nPAt ["text", "at", "depth", "holes"] (defScope s_parsed_at) := ⟨rfl, rfl, rfl, by decide +kernel, rfl, by decide +kernel, by decide +kernel⟩
theorem sg_eq {x : List Nat} {c : Nat} {z : Str} (e0 : z = SX.S [c]) : decide (V.str (SX.S x) = V.str z) = decide (x = [c]) := by
  rw [e0]
  by_cases h : x = [c]
  · rw [h]
    simp
  · rw [decide_eq_false h, decide_eq_false (fun y => h (SX.S_inj (V.str.inj y)))]
theorem ok_pat {n : Nat} {f : Addr} {fd : FuncData} (F : Fun K "parsed_at" "parsed_at" s_parsed_at f fd) (cJ : C8.Cal P w K mg base (2 * n + 5) "parsed_joint" (spPJ K n) []) (cH : C8.Cal P w K mg base 2 "parsed_hole" (spPH K) []) (cM : C8.Cal P w K mg base 3 "parsed_atom" (spPA K) []) : FnOk P w K mg base CX0 (2 * n + 6) f fd ["text", "at", "depth", "holes"] (spPAt K (n + 1)) := by
  refine F.ok scPAt (fun vs H Q E h => ?_) (fun cdv A outer s H vs Q E hr h => ?_)
  · obtain ⟨cs, at', d, h, rfl, _⟩ := h
    rfl
  obtain ⟨cs, at', d, h, rfl, hc, hat, hd, q⟩ := h
  have nd := scPAt.nd
  refine ⟨_, pss_cons (ps_if (pt_cmpR op_eq (pv 2) pe_int (nomark _)) (pss_one (ps_ret pe_non)) pss_nil)
    (pss_cons (ps_set (i := 4) nd rfl (.inl rfl) (pe_slice C8.sl_txt (pv 0) (po_some (pv 1)) (po_some (pe_op op_add (pv 1) pe_int))))
    (pss_cons (ps_if (pt_cmpR op_eq (pv 4) pe_str (nomark _)) (pss_one (ps_ret (C8.pe_c cJ hr (Nat.le_refl _) (by rfl) (pa_cons (pv 0) (pa_cons (pe_op op_add (pv 1) pe_int) (pa_cons (pe_op op_sub (pv 2) pe_int) (pa_cons (pv 3) pa_nil))))))) pss_nil)
    (pss_cons (ps_if (pt_cmpR op_eq (pv 4) pe_str (nomark _)) (pss_one (ps_ret (pe_tup (pa_cons (pe_tup (pa_cons pe_str pa_nil)) (pa_cons (pe_op op_add (pv 1) pe_int) pa_nil))))) pss_nil)
    (pss_cons (ps_if (pt_cmpR op_eq (pv 4) pe_str (nomark _)) (pss_one (ps_ret (pe_ifExp (pt_truth (pv 3) (by intro _; rfl)) (C8.pe_c cH hr (by omega) (by rfl) (pa_cons (pv 0) (pa_cons (pe_op op_add (pv 1) pe_int) pa_nil))) pe_non))) pss_nil)
    (pss_one (ps_ret (C8.pe_c cM hr (by omega) (by rfl) (pa_cons (pv 0) (pa_cons (pv 1) pa_nil))))))))), ?_⟩
  have hz : (SX.S cs).length ≤ sizeLine := by rw [SX.S_len]; exact big _ hc.len
  refine ⟨_, rfl, rfl, _, rfl, ?_⟩
  cases d with
  | zero =>
    refine iteU (decide_eq_true rfl) ?_
    exact q _ _ rfl (.refl _)
  | succ d =>
    refine iteE (decide_eq_false (fun y => by have := V.int.inj y; omega)) ?_
    refine ⟨_, rfl, _, rfl, _, rfl, _, rfl, _, _, rfl, rfl, _, rfl, SX.S cs, rfl, hz, ?_⟩
    rw [cut1]
    rw [prs_eq] at q
    have l1 : ∀ c, (cs.drop at').take 1 = [c] → at' + 1 ≤ cs.length := fun c e => by
      have := congrArg List.length e
      rw [List.length_take, List.length_drop] at this
      simp only [List.length_cons, List.length_nil] at this
      omega
    refine ⟨_, rfl, rfl, _, rfl, ?_⟩
    by_cases z1 : (cs.drop at').take 1 = [40]
    · refine iteU (by rw [sg_eq (c := 40) (by decide +kernel)]; exact decide_eq_true z1) ?_
      rw [if_pos z1, drop_take_one] at q
      refine ⟨_, rfl, _, rfl, _, _, rfl, rfl, _, rfl, _, _, rfl, rfl, _, rfl, cs, at' + 1, d, h, ?_, hc, l1 _ z1, by omega, q⟩
      have e5 : ((d + 1 : Nat) : Int) - 1 = (d : Int) := by omega
      show [V.str (SX.S cs), V.int ((at' : Int) + 1), V.int (((d + 1 : Nat) : Int) - 1), V.bl h] = _
      rw [e5]
      rfl
    refine iteE (by rw [sg_eq (c := 40) (by decide +kernel)]; exact decide_eq_false z1) ?_
    rw [if_neg z1] at q
    refine ⟨_, rfl, rfl, _, rfl, ?_⟩
    by_cases z2 : (cs.drop at').take 1 = [48]
    · refine iteU (by rw [sg_eq (c := 48) (by decide +kernel)]; exact decide_eq_true z2) ?_
      rw [if_pos z2, drop_take_one] at q
      refine ⟨(by show 1 ≤ sizeLine; decide), fun p1 n1 => ⟨_, rfl, _, _, rfl, rfl, (by show 2 ≤ sizeLine; decide), fun p2 n2 => ?_⟩⟩
      have g1 := same_new n1 (.tup [.str "false"])
      have g2 := same_new n2 (.tup [.ref p1, .int ((at' : Int) + 1)])
      exact q _ _ ⟨p2, .ref p1, at' + 1, rfl, SqT.of upd_same, mk_fls (SqT.of (g2 _ _ upd_same)), l1 _ z2, rfl⟩ (g1.trans g2)
    refine iteE (by rw [sg_eq (c := 48) (by decide +kernel)]; exact decide_eq_false z2) ?_
    rw [if_neg z2] at q
    refine ⟨_, rfl, rfl, _, rfl, ?_⟩
    by_cases z3 : (cs.drop at').take 1 = [63]
    · refine iteU (by rw [sg_eq (c := 63) (by decide +kernel)]; exact decide_eq_true z3) ?_
      rw [if_pos z3, drop_take_one] at q
      refine ⟨_, rfl, h, rfl, ?_⟩
      cases h with
      | true =>
        refine iteU rfl ?_
        rw [if_pos rfl] at q
        exact ⟨_, rfl, _, rfl, _, _, rfl, rfl, cs, at' + 1, rfl, hc, q⟩
      | false =>
        refine iteE rfl ?_
        rw [if_neg (by decide)] at q
        exact q _ _ rfl (.refl _)
    refine iteE (by rw [sg_eq (c := 63) (by decide +kernel)]; exact decide_eq_false z3) ?_
    rw [if_neg z3] at q
    exact ⟨_, rfl, _, rfl, cs, at', rfl, hc, hat, q⟩
theorem no_pat0 (vs : List V) (H : Hp) (Q : VK) (E : XK) : ¬ spPAt K 0 vs H Q E := by
  rintro ⟨cs, at', d, h, _, _, _, h, _⟩
  omega
theorem pat_cal {fA fJ : Addr} {fdA fdJ : FuncData} (FA : Fun K "parsed_at" "parsed_at" s_parsed_at fA fdA) (bA : Binds K fdA ["text", "at", "depth", "holes"] []) (mA : mg "parsed_at" = some (.ref fA)) (FJ : Fun K "parsed_joint" "parsed_joint" s_parsed_joint fJ fdJ) (bJ : Binds K fdJ ["text", "at", "depth", "holes"] []) (mJ : mg "parsed_joint" = some (.ref fJ))
    (M : KindsM K w mg) (cH : C8.Cal P w K mg base 2 "parsed_hole" (spPH K) []) (cM : C8.Cal P w K mg base 3 "parsed_atom" (spPA K) []) : ∀ n : Nat, C8.Cal P w K mg base (2 * n + 4) "parsed_at" (spPAt K n) []
  | 0 => ⟨fA, fdA, _, [], ⟨fun vs H Q E h => absurd h (no_pat0 vs H Q E), fun A outer s H args us vs Q E _ _ _ _ h => absurd h (no_pat0 vs H Q E)⟩, mA, FA.kp, bA, .nil⟩
  | n + 1 => ⟨fA, fdA, _, [], ok_pat FA ⟨fJ, fdJ, _, [], ok_pjoint FJ M (pat_cal FA bA mA FJ bJ mJ M cH cM n), mJ, FJ.kp, bJ, .nil⟩ cH cM, mA, FA.kp, bA, .nil⟩
/-! ### parsed -/
def spParsed (K : PySem.W.Frag) : Sp := fun vs H Q _ => ∃ (cs : List Nat) (d : Nat) (h : Bool), vs = [.str (SX.S cs), .int (d : Int), .bl h] ∧ TxOk cs ∧ d ≤ 12 ∧ ∀ (r : V) (H' : Hp), (match prW d h cs with | none => r = .non | some t => Fr K H' r t) → Same H H' → Q r H'
abbrev nPd : List Str := ["text", "depth", "holes", "found"]
theorem scPd : FnScope nPd ["text", "depth", "holes"] (defScope s_parsed) := ⟨rfl, rfl, rfl, by decide +kernel, rfl, by decide +kernel, by decide +kernel⟩
/-- of a value that may be no text -/
def spParsedD (K : PySem.W.Frag) : Sp := fun vs H Q _ => ∃ (x : V) (d : Nat) (h : Bool), vs = [x, .int (d : Int), .bl h] ∧
  ((∃ cs : List Nat, x = .str (SX.S cs) ∧ TxOk cs ∧ d ≤ 12 ∧ ∀ (r : V) (H' : Hp), (match prW d h cs with | none => r = .non | some t => Fr K H' r t) → Same H H' → Q r H') ∨ (NoStr K H x ∧ Q .non H))
theorem ok_parsedD {f : Addr} {fd : FuncData} (F : Fun K "parsed" "parsed" s_parsed f fd) (cA : C8.Cal P w K mg base 30 "parsed_at" (spPAt K 13) []) (mI : mg "isinstance" = none) (mS : mg "str" = none) (ml : mg "len" = none) : FnOk P w K mg base CX0 31 f fd ["text", "depth", "holes"] (spParsedD K) := by
  refine F.ok scPd (fun vs H Q E h => ?_) (fun cdv A outer s H vs Q E hr h => ?_)
  · obtain ⟨x, d, h, rfl, _⟩ := h
    rfl
  obtain ⟨x, d, h, rfl, hk⟩ := h
  have nd := scPd.nd
  refine ⟨_, pss_cons (ps_if (pt_not (pt_val (pe_callB call_isi (by rfl) mI (by decide +kernel) (pa_cons (pv 0) (pa_cons (pe_bltn (v := .ty "str") (u := .type "str") (by rfl) mS (by decide +kernel) rfl) pa_nil))))) (pss_one (ps_ret pe_non)) pss_nil)
    (pss_cons (ps_set (i := 3) nd rfl (.inl rfl) (C8.pe_c cA hr (by decide) (by rfl) (pa_cons (pv 0) (pa_cons pe_int (pa_cons (pv 1) (pa_cons (pv 2) pa_nil))))))
    (pss_cons (ps_if (PW.pt (pw_or (pt_cmp (pc_isN (pv 3)) rfl) (pw_or1 (pt_cmpR op_ne (pe_ix ix_tup (pv 3) pe_int (fun _ _ => rfl)) (pe_callB call_len (by rfl) ml boot_len (pa_cons (pv 0) pa_nil)) (nomark _))))) (pss_one (ps_ret pe_non)) pss_nil)
    (pss_one (ps_ret (pe_ix ix_tup (pv 3) pe_int (fun _ _ => rfl)))))), ?_⟩
  rcases hk with ⟨cs, rfl, hc, hd, q⟩ | ⟨⟨ty, ht, hty⟩, q⟩
  case inr => exact ⟨_, rfl, x, .ty "str", _, .type "str", false, rfl, .ty _, ht, hty, _, rfl, iteU rfl q⟩
  have hz : (SX.S cs).length ≤ sizeLine := by rw [SX.S_len]; exact big _ hc.len
  refine ⟨_, rfl, .str (SX.S cs), .ty "str", _, .type "str", true, rfl, .ty _, .base (.str _), kit_ty (by decide +kernel), _, rfl, iteE rfl ?_⟩
  refine ⟨_, rfl, _, rfl, _, rfl, cs, 0, d, h, rfl, hc, Nat.zero_le _, by omega, fun r H1 pr s1 => ?_⟩
  rw [List.drop_zero] at pr
  cases e : prs d h cs with
  | none =>
    rw [e] at pr
    obtain rfl : r = .non := pr
    refine ⟨_, rfl, _, rfl, iteU rfl (iteU rfl ?_)⟩
    refine q _ _ ?_ s1
    unfold prW
    rw [e]
  | some x =>
    obtain ⟨t, rest⟩ := x
    rw [e] at pr
    obtain ⟨p, v, n, rfl, sp, fv, ln, ed⟩ := pr
    have ed' : cs.drop n = rest := ed
    refine ⟨_, rfl, _, rfl, iteE ne_non ?_⟩
    refine ⟨_, rfl, p, _, _, _, rfl, rfl, sp, rfl, _, rfl, _, (SX.S cs).length, rfl, ⟨hz, rfl⟩, rfl, _, rfl, ?_⟩
    rw [SX.S_len]
    by_cases hn : n = cs.length
    · refine iteE (by rw [hn]; simp) ?_
      refine ⟨_, rfl, p, _, _, _, rfl, rfl, sp, rfl, ?_⟩
      refine q _ _ ?_ s1
      have hr0 : rest = [] := by rw [← ed', hn, List.drop_length]
      unfold prW
      rw [e, hr0]
      exact fv
    · refine iteU (by rw [decide_eq_false (fun y => hn (by have := V.int.inj y; omega))]; rfl) ?_
      refine q _ _ ?_ s1
      have hr0 : rest ≠ [] := fun z => by
        have := congrArg List.length ed'
        rw [z, List.length_drop] at this
        simp at this
        omega
      unfold prW
      rw [e]
      cases rest with
      | nil => exact absurd rfl hr0
      | cons _ _ => rfl
theorem ok_parsed {f : Addr} {fd : FuncData} (F : Fun K "parsed" "parsed" s_parsed f fd) (cA : C8.Cal P w K mg base 30 "parsed_at" (spPAt K 13) []) (mI : mg "isinstance" = none) (mS : mg "str" = none) (ml : mg "len" = none) : FnOk P w K mg base CX0 31 f fd ["text", "depth", "holes"] (spParsed K) :=
  (ok_parsedD F cA mI mS ml).imp fun vs H Q E ⟨cs, d, h, e, hc, hd, q⟩ => ⟨.str (SX.S cs), d, h, e, .inl ⟨cs, rfl, hc, hd, q⟩⟩
end

end Ag

namespace Ag
open PySem PySem.Spec PyProof.Rows L2
/-! ### the kinds of errors: code, fields -/
inductive Ek
  | name | number | formula | shape | unknown | row | deed | text | page | many | large | full | command | circular | inuse | refused | nothing
def Ek.code : Ek → Str
  | .name => "InvalidName"
  | .number => "InvalidNumber"
  | .formula => "InvalidFormula"
  | .shape => "InvalidShape"
  | .unknown => "UnknownName"
  | .row => "InvalidRow"
  | .deed => "InvalidDeed"
  | .text => "InvalidText"
  | .page => "InvalidPage"
  | .many => "TooMany"
  | .large => "TooLarge"
  | .full => "Full"
  | .command => "InvalidCommand"
  | .circular => "Circular"
  | .inuse => "NameInUse"
  | .refused => "Refused"
  | .nothing => "NothingLeft"
def Ek.attrs : Ek → List Str
  | .name => ["value"]
  | .number => ["value"]
  | .formula => ["value"]
  | .shape => ["value"]
  | .unknown => ["value"]
  | .row => ["at"]
  | .deed => ["at"]
  | .text => ["line"]
  | .page => ["line"]
  | .many => ["most"]
  | .large => ["most"]
  | .full => ["most"]
  | .command => ["path"]
  | .circular => ["name"]
  | .inuse => ["user"]
  | .refused => ["path", "reason"]
  | .nothing => []
/-- what the written part says of an error's class -/
structure ErrC (K : PySem.W.Frag) (C : Addr) : Prop where
  xf : XfC K C
  nf : ∀ n ∈ (["code", "value", "at", "line", "most", "path", "name", "user", "reason"] : List Str), PySem.W.findIn K (.ref C) n = some none
section
variable {P : Program} {w : World} {K : PySem.W.Frag} {mg : Str → Option Value} {base : Heap}
/-- the error of the class at C with the fields fs is of the kind e, its fields' values ws -/
structure ErrIs (K : PySem.W.Frag) (C : Addr) (fs : List (Str × V)) (e : Ek) (ws : List V) : Prop where
  cls : ErrC K C
  code : fs.lookup ("code" : Str) = some (.str e.code)
  vals : Paired (fun n v => fs.lookup n = some v) e.attrs ws
def spFlds (K : PySem.W.Frag) : SpP := fun p vs H Q _ => ∃ (a C D : Addr) (oe : Obj) (fs : List (Str × V)) (e : Ek) (ws : List V), p = (a, oe) ∧ vs = [.ref a] ∧ Zc (.ref C) (some D) oe ∧ (∃ vs, oe.data = .fields vs) ∧ ErrIs K C fs e ws ∧ H D = some (.xd fs) ∧
  ∀ t H', Same H H' → H t = none → H' t = some (.tup ws) → Q (.ref t) H'
abbrev nFl : List Str := ["_law_e", "_law_code"]
theorem scFl : FnScope nFl ["_law_e"] (defScope s_law_fields) := ⟨rfl, rfl, rfl, by decide +kernel, rfl, by decide +kernel, by decide +kernel⟩
theorem upd_free {H : Hp} {a b : Addr} {o : HO} (h : upd H a o b = none) : H b = none := by
  by_cases e : b = a
  · subst e
    rw [upd_same] at h
    cases h
  · rw [upd_ne e] at h
    exact h
def Gro (H H' : Hp) : Prop := Same H H' ∧ ∀ a, H' a = none → H a = none
theorem Gro.refl (H : Hp) : Gro H H := ⟨.refl _, fun _ h => h⟩
theorem Gro.new {H H' : Hp} (g : Gro H H') {t : Addr} (n : H' t = none) (o : HO) : Gro H (upd H' t o) := ⟨g.1.trans (same_new n o), fun a h => g.2 a (upd_free h)⟩
section
variable {σ : L2.St} {H0 H : Hp} {D : Ends} {A rest : TS} {z : Str} {vs : List V} {ta : TA}
theorem st_inF (g : Gro H0 H) (h : σ[1]? = some (some (.str z))) (ha : ∀ R : List V → Hp → Prop, R vs H → ta σ H R) (hl : vs.length ≤ sizeLine) (fl : vs.all flatV = true) (hb : inV (.str z) vs = false) (q : ∀ H', Gro H0 H' → rest D σ H') :
    tSeq (tIfS (tTest (tOp (rIn K false) (tVar 1) (tTup ta))) A tNext) rest D σ H := by
  refine ⟨_, h, ha _ ⟨hl, fun t n => ⟨t, _, rfl, .inr (SqT.of upd_same), rfl, fl, _, rfl, iteE ?_ (q _ (g.new n _))⟩⟩⟩
  rw [if_neg (by decide), hb]
theorem st_inT (g : Gro H0 H) (h : σ[1]? = some (some (.str z))) (ha : ∀ R : List V → Hp → Prop, R vs H → ta σ H R) (hl : vs.length ≤ sizeLine) (fl : vs.all flatV = true) (hb : inV (.str z) vs = true) (q : ∀ H' D', Gro H0 H' → D'.rt = D.rt → A D' σ H') :
    tSeq (tIfS (tTest (tOp (rIn K false) (tVar 1) (tTup ta))) A tNext) rest D σ H := by
  refine ⟨_, h, ha _ ⟨hl, fun t n => ⟨t, _, rfl, .inr (SqT.of upd_same), rfl, fl, _, rfl, iteU ?_ (q _ _ (g.new n _) rfl)⟩⟩⟩
  rw [if_neg (by decide), hb]
theorem st_eqF {y : Str} (g : Gro H0 H) (h : σ[1]? = some (some (.str z))) (hb : decide (V.str z = .str y) = false) (q : rest D σ H) :
    tSeq (tIfS (tTest (tOp rEq (tVar 1) (tC (.str y)))) A tNext) rest D σ H := ⟨_, h, rfl, _, rfl, iteE hb q⟩
theorem st_eqT {y : Str} (g : Gro H0 H) (h : σ[1]? = some (some (.str z))) (hb : decide (V.str z = .str y) = true) (q : ∀ D', D'.rt = D.rt → A D' σ H) :
    tSeq (tIfS (tTest (tOp rEq (tVar 1) (tC (.str y)))) A tNext) rest D σ H := ⟨_, h, rfl, _, rfl, iteU hb (q _ rfl)⟩
end
/-- return (e.f,) -/
theorem st_fld {σ : L2.St} {H0 H : Hp} {a C DD : Addr} {fs : List (Str × V)} {e : Ek} {ws : List V} {n : Str} {D : Ends} {Q : VK} (hr : D.rt = Q) (g : Gro H0 H) (h0 : σ[0]? = some (some (.ref a))) (E : ErrIs K C fs e ws) (ea : e.attrs = [n]) (hn : n ∈ (["code", "value", "at", "line", "most", "path", "name", "user", "reason"] : List Str)) (hD : H0 DD = some (.xd fs))
    (q : ∀ t H', Same H0 H' → H0 t = none → H' t = some (.tup ws) → Q (.ref t) H') : tRet (tTup (tCons (tXfE K a (.ref C) (some DD) n (tVar 0)) tNil)) D σ H := by
  have v := E.vals
  rw [ea] at v
  cases v with
  | cons r1 r2 =>
    cases r2
    refine ⟨_, h0, rfl, C, DD, fs, _, rfl, E.cls.xf, E.cls.nf _ hn, rfl, g.1 _ _ hD, r1, (by show 1 ≤ sizeLine; decide), fun t nt => ?_⟩
    rw [hr]
    exact q t _ (g.new nt _).1 (g.2 t nt) upd_same
theorem ok_fields {f : Addr} {fd : FuncData} (F : Fun K "_law_fields" "_law_fields" s_law_fields f fd) : FnS P w K mg base 2 f fd ["_law_e"] (spFlds K) := by
  refine okS F scFl (fun p vs H Q h => ?_) (fun cdv A outer s H vs Q p hr h => ?_)
  · obtain ⟨a, C, D, oe, fs, e, ws, _, rfl, _⟩ := h
    rfl
  obtain ⟨a, C, D, oe, fs, e, ws, rfl, rfl, hz, hf, E, hD, q⟩ := h
  have nd := scFl.nd
  refine ⟨_, pss_cons (ps_set (i := 1) nd rfl (.inl rfl) (pe_xfP hz hf List.mem_cons_self (pv 0)))
    (pss_cons (ps_if (pt_cmpR op_in_seq (pv 1) (pe_tup (pa_cons pe_str (pa_cons pe_str (pa_cons pe_str (pa_cons pe_str (pa_cons pe_str pa_nil)))))) (by with_unfolding_all rfl)) (pss_one (ps_ret (pe_tup (pa_cons (pe_xfP hz hf List.mem_cons_self (pv 0)) pa_nil)))) pss_nil)
    (pss_cons (ps_if (pt_cmpR op_in_seq (pv 1) (pe_tup (pa_cons pe_str (pa_cons pe_str pa_nil))) (by with_unfolding_all rfl)) (pss_one (ps_ret (pe_tup (pa_cons (pe_xfP hz hf List.mem_cons_self (pv 0)) pa_nil)))) pss_nil)
    (pss_cons (ps_if (pt_cmpR op_in_seq (pv 1) (pe_tup (pa_cons pe_str (pa_cons pe_str pa_nil))) (by with_unfolding_all rfl)) (pss_one (ps_ret (pe_tup (pa_cons (pe_xfP hz hf List.mem_cons_self (pv 0)) pa_nil)))) pss_nil)
    (pss_cons (ps_if (pt_cmpR op_in_seq (pv 1) (pe_tup (pa_cons pe_str (pa_cons pe_str (pa_cons pe_str pa_nil)))) (by with_unfolding_all rfl)) (pss_one (ps_ret (pe_tup (pa_cons (pe_xfP hz hf List.mem_cons_self (pv 0)) pa_nil)))) pss_nil)
    (pss_cons (ps_if (pt_cmpR op_eq (pv 1) pe_str (nomark _)) (pss_one (ps_ret (pe_tup (pa_cons (pe_xfP hz hf List.mem_cons_self (pv 0)) pa_nil)))) pss_nil)
    (pss_cons (ps_if (pt_cmpR op_eq (pv 1) pe_str (nomark _)) (pss_one (ps_ret (pe_tup (pa_cons (pe_xfP hz hf List.mem_cons_self (pv 0)) pa_nil)))) pss_nil)
    (pss_cons (ps_if (pt_cmpR op_eq (pv 1) pe_str (nomark _)) (pss_one (ps_ret (pe_tup (pa_cons (pe_xfP hz hf List.mem_cons_self (pv 0)) pa_nil)))) pss_nil)
    (pss_one (ps_ret (pe_ifExp (pt_cmpR op_eq (pv 1) pe_str (nomark _)) (pe_tup (pa_cons (pe_xfP hz hf List.mem_cons_self (pv 0)) (pa_cons (pe_xfP hz hf List.mem_cons_self (pv 0)) pa_nil))) (pe_tup pa_nil))))))))))), ?_⟩
  refine ⟨_, rfl, rfl, C, D, fs, _, rfl, E.cls.xf, E.cls.nf _ (by decide), rfl, hD, E.code, ?_⟩
  have g0 := Gro.refl H
  cases e
  all_goals
    repeat (first
      | exact st_inT (by assumption) rfl (fun R q => q) (by show _ ≤ sizeLine; decide) rfl (by decide +kernel) (fun H' D' g' er => st_fld (er.trans rfl) (by assumption) rfl E rfl (by decide) hD q)
      | exact st_eqT (by assumption) rfl (by decide +kernel) (fun D' er => st_fld (er.trans rfl) (by assumption) rfl E rfl (by decide) hD q)
      | refine st_inF (by assumption) rfl (fun R q => q) (by show _ ≤ sizeLine; decide) rfl (by decide +kernel) (fun H' g' => ?_)
      | refine st_eqF (by assumption) rfl (by decide +kernel) ?_)
  · obtain ⟨g1, g2⟩ := g'
    have v := E.vals
    cases v with
    | cons r1 r2 =>
      cases r2 with
      | cons r3 r4 =>
        cases r4
        refine ⟨_, rfl, rfl, _, rfl, iteU (decide_eq_true rfl) ?_⟩
        refine ⟨_, rfl, rfl, C, D, fs, _, rfl, E.cls.xf, E.cls.nf _ (by decide), rfl, g1 _ _ hD, r1, ?_⟩
        refine ⟨_, rfl, rfl, C, D, fs, _, rfl, E.cls.xf, E.cls.nf _ (by decide), rfl, g1 _ _ hD, r3, (by show 2 ≤ sizeLine; decide), fun t nt => ?_⟩
        exact q t _ (g1.trans (same_new nt _)) (g2 t nt) upd_same
  · obtain ⟨g1, g2⟩ := g'
    have v := E.vals
    cases v
    refine ⟨_, rfl, rfl, _, rfl, iteE (by decide +kernel) ⟨(by show 0 ≤ sizeLine; decide), fun t nt => ?_⟩⟩
    exact q t _ (g1.trans (same_new nt _)) (g2 t nt) upd_same
/-! ### _law_try, _law_tries -/
theorem Asks.imp {k : Nat} {f : Addr} {H : Hp} {Q Q' : VK} {E E' : XK} (B : Asks P w K mg base k f H Q E) (hQ : ∀ v H, Q v H → Q' v H) (hE : ∀ c d H, E c d H → E' c d H) : Asks P w K mg base k f H Q' E' :=
  ⟨B.fn, fun A outer s room e0 => codeAny_mono (B.run A outer s room e0) fun r s' z => by
    match r, z with
    | .ok (.ret u), z =>
      obtain ⟨v, H', z1, z2, z3, z4, z5, z6⟩ := z
      exact ⟨v, H', z1, z2, z3, z4, z5, hQ _ _ z6⟩
    | .error e, z =>
      obtain ⟨a, B, H', cls, d, z1, z2, z3, z4, z5, z6, z7, z8⟩ := z
      exact ⟨a, B, H', cls, d, z1, z2, z3, z4, z5, z6, z7, hE _ _ _ z8⟩⟩
/-- the classes that the clause names -/
structure TryM (K : PySem.W.Frag) (mg : Str → Option Value) (cG cM cN : Addr) : Prop where
  g : mg "GroundError" = some (.ref cG)
  m : mg "Missing" = some (.ref cM)
  n : mg "NothingLeft" = some (.ref cN)
/-- what the call of the value at f comes to, told as a pair: '' and what it gives, or an error's code and its fields -/
def Told (P : Program) (w : World) (K : PySem.W.Frag) (mg : Str → Option Value) (base : Heap) (cG cM cN : Addr) (k : Nat) (f : Addr) (H : Hp) (W : VK) : Prop :=
  Asks P w K mg base k f H (fun v H1 => ∀ t H2, Same H1 H2 → H1 t = none → H2 t = some (.tup [.str "", v]) → W (.ref t) H2)
    (fun cls d H1 => ∃ (C D : Addr) (fs : List (Str × V)) (e : Ek) (ws : List V), cls = .ref C ∧ d = some D ∧ ErrIs K C fs e ws ∧ PySem.W.exmAny K (.ref C) [.ref cG, .ref cM, .ref cN] = some true ∧ H1 D = some (.xd fs) ∧
      ∀ t u H2, Same H1 H2 → H1 t = none → H2 u = some (.tup ws) → H2 t = some (.tup [.str e.code, .ref u]) → W (.ref t) H2)
def spTry (P : Program) (w : World) (K : PySem.W.Frag) (mg : Str → Option Value) (base : Heap) (cG cM cN : Addr) (k : Nat) : Sp := fun vs H Q _ => ∃ f, vs = [.ref f] ∧ Told P w K mg base cG cM cN k f H Q
abbrev nTry : List Str := ["_law_ask", "_law_e"]
theorem scTry : FnScope nTry ["_law_ask"] (defScope s_law_try) := ⟨rfl, rfl, rfl, by decide +kernel, rfl, by decide +kernel, by decide +kernel⟩
theorem ok_try {cG cM cN : Addr} {k : Nat} {f fF : Addr} {fd fdF : FuncData} (F : Fun K "_law_try" "_law_try" s_law_try f fd) (T : TryM K mg cG cM cN) (FF : FnS P w K mg base 2 fF fdF ["_law_e"] (spFlds K)) (mF : mg "_law_fields" = some (.ref fF)) (kF : PySem.W.keepIn K (.ref fF) = true) (bF : Binds K fdF ["_law_e"] []) (hk : 2 ≤ k) :
    FnOk P w K mg base L2.CX0 (k + 1) f fd ["_law_ask"] (spTry P w K mg base cG cM cN k) := by
  refine F.ok scTry (fun vs H Q E h => ?_) (fun cdv A outer s H vs Q E hr h => ?_)
  · obtain ⟨f, rfl, _⟩ := h
    rfl
  obtain ⟨q, rfl, B⟩ := h
  have nd := scTry.nd
  refine ⟨_, pss_one (ps_try3 (i := 1) (tb := fun W => tRet (tTup (tCons (tC (.str "")) (tCons (fun σ H Q => ∃ f E, σ[0]? = some (some (.ref f)) ∧ Asks P w K mg base k f H Q E ∧ ∀ cls d H', E cls d H' → W cls d σ H') tNil)))) (ts := fun a oe cls d => tRet (tTup (tCons (tXfE K a cls d "code" (tVar 1)) (tCons (fun σ H Q => (tCons (tVar 1) tNil : TA) σ H fun vs H1 => spFlds K (a, oe) vs H1 Q L2.E0) tNil)))) rfl rfl nd rfl rfl (by rfl) T.g (by rfl) T.m (by rfl) T.n
    (fun W pn xe tk _ => pss_one (ps_ret (pe_tup (pa_cons pe_str (pa_cons (pe_ask (i := 0) hr tk rfl (.inl rfl)) pa_nil)))))
    (fun a oe cls d pn hz hf => pss_one (ps_ret (pe_tup (pa_cons (pe_xfP (X := (cxOf L2.CX0 P w K mg base nTry "_law_try" (defScope s_law_try) f cdv A outer s H E).nox.suite a ((a, oe) :: pn)) hz hf List.mem_cons_self (pv 1)) (pa_cons (pe_callP (X := (cxOf L2.CX0 P w K mg base nTry "_law_try" (defScope s_law_try) f cdv A outer s H E).nox.suite a ((a, oe) :: pn)) (p := (a, oe)) FF ⟨(hr.mono hk).dp, (hr.mono hk).un⟩ List.mem_cons_self (by rfl) mF kF bF (pa_cons (pv 1) pa_nil)) pa_nil)))))), ?_⟩
  refine ⟨q, _, rfl, B.imp (fun v H1 h1 => ⟨(by show 2 ≤ sizeLine; decide), fun p np => ?_⟩) (fun c d H1 h1 => h1), fun cls d H1 h1 => ?_⟩
  · exact h1 p _ (same_new np _) np upd_same
  · obtain ⟨C, D, fs, e, ws, rfl, rfl, Er, hx, hD, fin⟩ := h1
    refine ⟨hx, fun a oe tp hz hf na nt ne => ?_⟩
    have g1 := same_new nt (.tup [.ref cG, .ref cM, .ref cN])
    refine ⟨_, rfl, rfl, C, D, fs, _, rfl, Er.cls.xf, Er.cls.nf _ (by decide), rfl, g1 _ _ hD, Er.code, ?_⟩
    refine ⟨_, rfl, a, C, D, oe, fs, e, ws, rfl, rfl, hz, hf, Er, g1 _ _ hD, fun u H2 g2 nu hu => ⟨(by show 2 ≤ sizeLine; decide), fun t n3 => ?_⟩⟩
    have g3 := same_new n3 (.tup [.str e.code, .ref u])
    refine fin t u _ (g1.trans (g2.trans g3)) ?_ (g3 _ _ hu) upd_same
    cases z : H1 t with
    | none => rfl
    | some o =>
      rw [g2 _ _ (g1 _ _ z)] at n3
      cases n3
def spTries (P : Program) (w : World) (K : PySem.W.Frag) (mg : Str → Option Value) (base : Heap) (cG cM cN : Addr) (k : Nat) : Sp := fun vs H Q _ => ∃ (a : Addr) (fs : List Addr) (R : Nat → V → Hp → Prop), vs = [.ref a] ∧ SqL K H a (fs.map V.ref) ∧ fs.length ≤ 100 ∧ (∀ i v H1 H2, R i v H1 → Fx H1 H2 → R i v H2) ∧
  (∀ i f, fs[i]? = some f → ∀ H1, Same H H1 → Told P w K mg base cG cM cN k f H1 (fun v H2 => Same H1 H2 ∧ R i v H2)) ∧ ∀ p rs H', Same H H' → H p = none → H' p = some (.lst rs) → rs.length = fs.length → (∀ i v, rs[i]? = some v → R i v H') → Q (.ref p) H'
theorem same_wo {H H' : Hp} {D : Addr} (k : Kp D H H') (n : H D = none) : Same H H' := fun b o e => k b o e (ne_of_none e n)
end

end Ag

namespace Ag
open PySem PySem.Spec PyProof.Rows L2
/-! ### data made of tuples alone -/
def tupd : Nat → PyData → Bool
  | 0, _ => false
  | n + 1, .tuple ds => decide (ds.length ≤ 1000) && ds.all (tupd n)
  | _ + 1, .list _ => false
  | _ + 1, .dict _ => false
  | _ + 1, _ => true
section
variable {K : PySem.W.Frag} {H H' : Hp}
theorem tupd_tp (s : Tp H H') : ∀ {n : Nat} {d : PyData} {v : V}, tupd n d = true → Dp K H v d → Dp K H' v d
  | 0, _, _, e, _ => by cases e
  | _ + 1, _, _, _, .non => .non
  | _ + 1, _, _, _, .bl b => .bl b
  | _ + 1, _, _, _, .int i => .int i
  | _ + 1, _, _, _, .str x => .str x
  | _ + 1, _, _, e, .lst _ _ => by cases e
  | n + 1, .tuple ds, _, e, .tup q r => by
    simp only [tupd, Bool.and_eq_true, List.all_eq_true] at e
    have all : ∀ {xs : List V} {es : List PyData}, (∀ d ∈ es, tupd n d = true) → DpAll K H xs es → DpAll K H' xs es := by
      intro xs es he ha
      induction es generalizing xs with
      | nil =>
        cases ha
        exact .nil
      | cons d r ih =>
        cases ha with
        | cons h1 h2 => exact .cons (tupd_tp s (he d (by simp)) h1) (ih (fun d hd => he d (by simp [hd])) h2)
    exact .tup (s.seq q) (all e.2 r)
theorem tupds_tp (s : Tp H H') {n : Nat} : ∀ {es : List PyData} {xs : List V}, (∀ d ∈ es, tupd n d = true) → DpAll K H xs es → DpAll K H' xs es
  | [], _, _, .nil => .nil
  | d :: r, _, he, .cons h1 h2 => .cons (tupd_tp s (he d (by simp)) h1) (tupds_tp s (fun d hd => he d (by simp [hd])) h2)
theorem tupd_up : ∀ {n m : Nat} {d : PyData}, n ≤ m → tupd n d = true → tupd m d = true := by
  intro n
  induction n with
  | zero =>
    intro m d _ e
    cases e
  | succ n ih =>
    intro m d h e
    obtain ⟨m', rfl⟩ : ∃ m', m = m' + 1 := ⟨m - 1, by omega⟩
    cases d with
    | tuple ds =>
      simp only [tupd, Bool.and_eq_true, List.all_eq_true] at e ⊢
      exact ⟨e.1, fun d hd => ih (by omega) (e.2 d hd)⟩
    | list _ => cases e
    | dict _ => cases e
    | _ => rfl
theorem tupd_oka : ∀ {n : Nat} {d : PyData}, tupd n d = true → oka n d = true
  | 0, _, e => by cases e
  | n + 1, .tuple ds, e => by
    simp only [tupd, Bool.and_eq_true, List.all_eq_true] at e
    simp only [oka, Bool.and_eq_true, List.all_eq_true]
    exact ⟨e.1, fun d hd => tupd_oka (e.2 d hd)⟩
  | _ + 1, .list _, e => by cases e
  | _ + 1, .dict _, e => by cases e
  | _ + 1, .none, _ => rfl
  | _ + 1, .bool _, _ => rfl
  | _ + 1, .int _, _ => rfl
  | _ + 1, .str _, _ => rfl
theorem tupd_fm : ∀ t : Fm, tupd (dep t + 1) t.dat = true
  | .fls => rfl
  | .atom _ => rfl
  | .hole _ => rfl
  | .bin k a b => by
    have up : ∀ {n m : Nat} {d : PyData}, n ≤ m → tupd n d = true → tupd m d = true := by
      intro n
      induction n with
      | zero =>
        intro m d _ e
        cases e
      | succ n ih =>
        intro m d h e
        obtain ⟨m', rfl⟩ : ∃ m', m = m' + 1 := ⟨m - 1, by omega⟩
        cases d with
        | tuple ds =>
          simp only [tupd, Bool.and_eq_true, List.all_eq_true] at e ⊢
          exact ⟨e.1, fun d hd => ih (by omega) (e.2 d hd)⟩
        | list _ => cases e
        | dict _ => cases e
        | _ => rfl
    show (decide (3 ≤ 1000) && [PyData.str (kd k), a.dat, b.dat].all (tupd (max (dep a) (dep b) + 1))) = true
    simp only [List.all_cons, List.all_nil, Bool.and_true, Bool.and_eq_true]
    exact ⟨decide_eq_true (by omega), rfl, up (by omega) (tupd_fm a), up (by omega) (tupd_fm b)⟩
end
section
variable {P : Program} {w : World} {K : PySem.W.Frag} {mg : Str → Option Value} {base : Heap}
theorem dpall_app {H : Hp} : ∀ {xs ys : List V} {ds es : List PyData}, DpAll K H xs ds → DpAll K H ys es → DpAll K H (xs ++ ys) (ds ++ es)
  | _, _, _, _, .nil, h => h
  | _, _, _, _, .cons a b, h => .cons a (dpall_app b h)
/-! ### copied -/
structure CopM (mg : Str → Option Value) : Prop where
  isi : mg "isinstance" = none
  list : mg "list" = none
  tuple : mg "tuple" = none
  dict : mg "dict" = none
abbrev CopD (K : PySem.W.Frag) (f : Addr) (fd : FuncData) : Prop := FunD K "copied" "copied" (defArgs s_copied) (defBody s_copied) (defScope s_copied) [.int 12] [] f fd
def spCp (K : PySem.W.Frag) (n : Nat) : Sp := fun vs H Q _ => ∃ (x : V) (d m : Nat) (t : PyData), vs = [x, .int (d : Int)] ∧ d < n ∧ Dp K H x t ∧ tupd m t = true ∧ ∀ v H', Same H H' → Dp K H' v t → Q v H'
abbrev nCp : List Str := ["value", "depth", "item"]
theorem scCp : FnScope nCp ["value", "depth"] (defScope s_copied) := ⟨rfl, rfl, rfl, by decide +kernel, rfl, by decide +kernel, by decide +kernel⟩
theorem ok_copied {n : Nat} {f : Addr} {fd : FuncData} (F : CopD K f fd) (M : CopM mg) (cU : C8.Cal P w K mg base n "copied" (spCp K n) []) : FnOk P w K mg base CX0 (n + 1) f fd ["value", "depth"] (spCp K (n + 1)) := by
  refine F.ok scCp (fun vs H Q E h => ?_) (fun cdv A outer s H vs Q E hr h => ?_)
  · obtain ⟨x, d, m, t, rfl, _⟩ := h
    rfl
  obtain ⟨x, d, m, t, rfl, hd, hx, hm, q⟩ := h
  have nd := scCp.nd
  refine ⟨_, pss_cons (ps_if (pt_cmpR op_eq (pv 1) pe_int (nomark _)) (pss_one (ps_ret (pv 0))) pss_nil)
    (pss_cons (ps_if (pt_val (pe_callB call_isi (by rfl) M.isi (by decide +kernel) (pa_cons (pv 0) (pa_cons (pe_bltn (v := .ty "list") (u := .type "list") (by rfl) M.list (by decide +kernel) rfl) pa_nil)))) (pss_one ps_never) pss_nil)
    (pss_cons (ps_if (pt_val (pe_callB call_isi (by rfl) M.isi (by decide +kernel) (pa_cons (pv 0) (pa_cons (pe_bltn (v := .ty "tuple") (u := .type "tuple") (by rfl) M.tuple (by decide +kernel) rfl) pa_nil))))
      (pss_one (ps_ret (pe_callTy call_tuple_of (by rfl) M.tuple (by decide +kernel) (pa_cons (pe_lc (own := [("item", 2)]) (g := gName 2) (tt := tYes) (te := tCall (spCp K n) [] C8.E0 (tCons (tVar 2) (tCons (tSub (tVar 1) (tC (.int 1))) tNil))) rfl nd (pi_tup (pv 0))
        (blkOk_by (own := [("item", 2)]) (N := nCp) (sc := defScope s_copied) (by decide +kernel)) (fun _ _ _ _ _ => pg_name (i := 2) nd rfl (Or.inl rfl)) (fun _ _ _ _ _ => pts_nil) (fun _ _ _ _ _ => C8.pe_c cU hr (Nat.le_refl _) (by rfl) (pa_cons (pv 2) (pa_cons (pe_sub (pv 1) pe_int) pa_nil)))) pa_nil)))) pss_nil)
    (pss_cons (ps_if (pt_val (pe_callB call_isi (by rfl) M.isi (by decide +kernel) (pa_cons (pv 0) (pa_cons (pe_bltn (v := .ty "dict") (u := .type "dict") (by rfl) M.dict (by decide +kernel) rfl) pa_nil)))) (pss_one ps_never) pss_nil)
    (pss_one (ps_ret (pv 0)))))), ?_⟩
  refine ⟨_, rfl, rfl, _, rfl, ?_⟩
  by_cases h0 : d = 0
  · subst h0
    exact iteU (decide_eq_true rfl) ⟨_, rfl, q x H (.refl H) hx⟩
  refine iteE (decide_eq_false (fun z => h0 (by injection z with z; omega))) ?_
  refine ⟨_, rfl, x, .ty "list", _, .type "list", isD "list" t, rfl, .ty _, dp_tyx hx, isk kit_some.2.1, _, rfl, ?_⟩
  match m, t, hm, hx with
  | m + 1, .list _, hm, _ => cases hm
  | m + 1, .dict _, hm, _ => cases hm
  | m + 1, .none, hm, hx => exact iteE (by simp only [isD, tyD]; decide +kernel) ⟨_, rfl, _, .ty "tuple", _, .type "tuple", isD "tuple" _, rfl, .ty _, dp_tyx hx, isk kit_some.2.2.1, _, rfl, iteE (by simp only [isD, tyD]; decide +kernel) ⟨_, rfl, _, .ty "dict", _, .type "dict", isD "dict" _, rfl, .ty _, dp_tyx hx, isk kit_some.1, _, rfl, iteE (by simp only [isD, tyD]; decide +kernel) ⟨_, rfl, q x H (.refl H) hx⟩⟩⟩
  | m + 1, .bool _, hm, hx => exact iteE (by simp only [isD, tyD]; decide +kernel) ⟨_, rfl, _, .ty "tuple", _, .type "tuple", isD "tuple" _, rfl, .ty _, dp_tyx hx, isk kit_some.2.2.1, _, rfl, iteE (by simp only [isD, tyD]; decide +kernel) ⟨_, rfl, _, .ty "dict", _, .type "dict", isD "dict" _, rfl, .ty _, dp_tyx hx, isk kit_some.1, _, rfl, iteE (by simp only [isD, tyD]; decide +kernel) ⟨_, rfl, q x H (.refl H) hx⟩⟩⟩
  | m + 1, .int _, hm, hx => exact iteE (by simp only [isD, tyD]; decide +kernel) ⟨_, rfl, _, .ty "tuple", _, .type "tuple", isD "tuple" _, rfl, .ty _, dp_tyx hx, isk kit_some.2.2.1, _, rfl, iteE (by simp only [isD, tyD]; decide +kernel) ⟨_, rfl, _, .ty "dict", _, .type "dict", isD "dict" _, rfl, .ty _, dp_tyx hx, isk kit_some.1, _, rfl, iteE (by simp only [isD, tyD]; decide +kernel) ⟨_, rfl, q x H (.refl H) hx⟩⟩⟩
  | m + 1, .str _, hm, hx => exact iteE (by simp only [isD, tyD]; decide +kernel) ⟨_, rfl, _, .ty "tuple", _, .type "tuple", isD "tuple" _, rfl, .ty _, dp_tyx hx, isk kit_some.2.2.1, _, rfl, iteE (by simp only [isD, tyD]; decide +kernel) ⟨_, rfl, _, .ty "dict", _, .type "dict", isD "dict" _, rfl, .ty _, dp_tyx hx, isk kit_some.1, _, rfl, iteE (by simp only [isD, tyD]; decide +kernel) ⟨_, rfl, q x H (.refl H) hx⟩⟩⟩
  | m + 1, .tuple ds, hm, hx =>
    refine iteE (by simp only [isD, tyD]; decide +kernel) ⟨_, rfl, _, .ty "tuple", _, .type "tuple", isD "tuple" _, rfl, .ty _, dp_tyx hx, isk kit_some.2.2.1, _, rfl, iteU (by simp only [isD, tyD]; decide +kernel) ?_⟩
    simp only [tupd, Bool.and_eq_true, List.all_eq_true, decide_eq_true_eq] at hm
    obtain ⟨hl, hds⟩ := hm
    cases hx with
    | @tup a xs _ hs hall =>
      have lx := dpall_len hall
      refine ⟨_, rfl, a, rfl, ⟨_, hs⟩, fun D nD => ?_⟩
      refine lc_tup (xs := xs) (fun i H' => ∃ zs : List V, Same H H' ∧ H' D = some (.lst zs) ∧ DpAll K H' zs (ds.take i)) ⟨[], same_new nD _, upd_same, .nil⟩ (fun i H' _ ⟨_, s1, _⟩ => sameT s1 hs) ?_ ?_
      · rintro i v H1 hi ⟨zs, s1, hD, hz⟩
        obtain ⟨di, e1, hv⟩ := dpall_get hall hi
        have hil := (List.getElem?_eq_some_iff.mp e1).1
        refine ⟨rfl, _, rfl, _, rfl, _, _, rfl, rfl, v, d - 1, m, di, ?_, by omega, Dp_same s1 hv, hds di (List.mem_of_getElem? e1), fun u H2 s2 hu => ?_⟩
        · have : ((d : Int) - 1) = ((d - 1 : Nat) : Int) := by omega
          rw [this]
          rfl
        · have tp : Tp H2 (upd H2 D (.lst (zs ++ [u]))) := Tp.upd (s2 _ _ hD) trivial
          have lz := dpall_len hz
          refine ⟨zs, s2 _ _ hD, small1000 (by rw [lz, List.length_take]; omega), zs ++ [u], fun c o hc => ?_, upd_same, ?_⟩
          · rw [upd_ne (ne_of_none hc nD)]
            exact s2 _ _ (s1 _ _ hc)
          · rw [List.take_add_one, e1]
            refine dpall_app ?_ (.cons (tupd_tp tp (hds di (List.mem_of_getElem? e1)) hu) .nil)
            exact tupds_tp tp (fun d hd => hds d (List.mem_of_mem_take hd)) (DpAll_same s2 hz)
      · rintro H1 ⟨zs, s1, hD, hz⟩
        rw [lx, List.take_length] at hz
        refine ⟨D, zs, rfl, .inl ⟨SqL.of hD, fun l nl => ?_⟩⟩
        have g := same_new nl (.tup zs)
        exact q _ _ (s1.trans g) (.tup (SqT.of upd_same) (DpAll_same g hz))
theorem no_cp0 (vs : List V) (H : Hp) (Q : VK) (E : XK) : ¬ spCp K 0 vs H Q E := by
  rintro ⟨x, d, m, t, _, h, _⟩
  omega
theorem copied_cal {f : Addr} {fd : FuncData} (F : CopD K f fd) (b : Binds K fd ["value", "depth"] []) (m : mg "copied" = some (.ref f)) (M : CopM mg) : ∀ n : Nat, C8.Cal P w K mg base n "copied" (spCp K n) []
  | 0 => ⟨f, fd, _, [], ⟨fun vs H Q E h => absurd h (no_cp0 vs H Q E), fun A outer s H args us vs Q E _ _ _ _ h => absurd h (no_cp0 vs H Q E)⟩, m, F.kp, b, .nil⟩
  | n + 1 => ⟨f, fd, _, [], ok_copied F M (copied_cal F b m M n), m, F.kp, b, .nil⟩
end

end Ag

namespace Ag
open PySem PySem.Spec PyProof.Rows L2
/-! ### errors of one field: made, raised -/
section
variable {P : Program} {w : World} {K : PySem.W.Frag} {mg : Str → Option Value} {base : Heap}
/-- what the top leaves of such a class -/
structure ErrK (K : PySem.W.Frag) (mg : Str → Option Value) (x : Str) (C fI cG cM cN : Addr) : Prop where
  o : OexC K C
  e : ErrC K C
  iC : PySem.W.findIn K (.ref C) "__init__" = some (some (.ref fI))
  tI : PySem.W.typeIn K (.ref fI) = some (.type "function")
  m : mg x = some (.ref C)
  hx : PySem.W.exmAny K (.ref C) [.ref cG, .ref cM, .ref cN] = some true
/-- __init__(self, value) -/
def spErr (K : PySem.W.Frag) (C : Addr) (n : Str) (e : Ek) : Sp := fun vs H Q _ => ∃ (a : Addr) (x : V) (m : Nat) (t : PyData), vs = [.ref a, x] ∧ H a = some (exo a C none) ∧ Dp K H x t ∧ tupd m t = true ∧
  ∀ v dx H', Dp K H' v t → H' a = some (exo a C (some dx)) → H' dx = some (exd dx [("code", .str e.code), (n, v)]) → H dx = none → (∀ c o, H c = some o → c ≠ a → H' c = some o) → Q .non H'
/-- such an error of the field t is wished for -/
def RaisE (K : PySem.W.Frag) (C : Addr) (e : Ek) (t : PyData) (H : Hp) (E : XK) : Prop := ∀ D fs v H', Same H H' → H' D = some (.xd fs) → ErrIs K C fs e [v] → Dp K H' v t → E (.ref C) (some D) H'
theorem rais_same {C : Addr} {e : Ek} {t : PyData} {H H1 : Hp} {E : XK} (s : Same H H1) (r : RaisE K C e t H E) : RaisE K C e t H1 E := fun D fs v H' s2 => r D fs v H' (s.trans s2)
/-- the reading of raise C(e) -/
theorem rais_mk {x : Str} {C fI cG cM cN : Addr} {n : Str} {e : Ek} {H : Hp} {W : XK} {y : V} {m : Nat} {t : PyData} (M : ErrK K mg x C fI cG cM cN) (ea : e.attrs = [n]) (hn : n ∈ (["code", "value", "at", "line", "most", "path", "name", "user", "reason"] : List Str)) (nc : n ≠ "code") (hy : Dp K H y t) (ht : tupd m t = true) (q : RaisE K C e t H W) :
    [y].length ≤ 1000 ∧ ∀ a, H a = none → spErr K C n e (.ref a :: ([y] ++ [])) (upd H a (exo a C none))
      (fun v H2 => v = .non ∧ ∃ (d : Addr) (fs : List (Str × V)), H2 a = some (exo a C (some d)) ∧ H2 d = some (exd d fs) ∧ H d = none ∧ W (.ref C) (some d) (upd (L2.del H2 a) d (.xd fs))) (fun _ _ _ => False) := by
  refine ⟨(by show 1 ≤ 1000; decide), fun a na => ?_⟩
  have sm := same_new na (exo a C none)
  refine ⟨a, y, m, t, rfl, upd_same, Dp_same sm hy, ht, fun v dx H' hv ha hd nd keep => ⟨rfl, dx, _, ha, hd, upd_free nd, ?_⟩⟩
  have nda : dx ≠ a := fun z => by
    rw [z, upd_same] at nd
    cases nd
  have old : ∀ {c o}, H c = some o → c ≠ a ∧ c ≠ dx := fun {c o} z => ⟨ne_of_none z na, ne_of_none z (upd_free nd)⟩
  have g : Same H (upd (L2.del H' a) dx (.xd [("code", .str e.code), (n, v)])) := fun c o z => by
    obtain ⟨z1, z2⟩ := old z
    rw [upd_ne z2, L2.del_ne z1]
    exact keep c o (sm _ _ z) z1
  have tp : Tp H' (upd (L2.del H' a) dx (.xd [("code", .str e.code), (n, v)])) := fun p xs z => by
    have n1 : p ≠ a := fun e => by
      subst e
      rcases z with z | ⟨o, z⟩
      · exact at_ne ha z exo_tup rfl
      · exact at_ne ha z exo_frz rfl
    have n2 : p ≠ dx := fun e => by
      subst e
      rcases z with z | ⟨o, z⟩
      · exact at_ne hd z exd_tup rfl
      · rw [hd] at z
        have z2 := Option.some.inj z
        unfold exd at z2
        cases z2
    rcases z with z | ⟨o, z⟩
    · exact .inl (by rw [upd_ne n2, L2.del_ne n1]; exact z)
    · exact .inr ⟨o, by rw [upd_ne n2, L2.del_ne n1]; exact z⟩
  refine q dx _ v _ g upd_same ⟨M.e, rfl, ?_⟩ (tupd_tp tp ht hv)
  rw [ea]
  refine .cons ?_ .nil
  show ((("code" : Str), V.str e.code) :: [(n, v)]).lookup n = some v
  rw [L2.lookup_put, if_neg nc, L2.lookup_put, if_pos rfl]
end

section
variable {P : Program} {w : World} {K : PySem.W.Frag} {mg : Str → Option Value} {base : Heap}
theorem scInvalidFormula : FnScope ["self", "value"] ["self", "value"] (defScope s_InvalidFormula_init) := ⟨rfl, rfl, rfl, by decide +kernel, rfl, by decide +kernel, by decide +kernel⟩
theorem ok_InvalidFormula {C f cG cM cN : Addr} {fd : FuncData} (F : Fun K "__init__" "InvalidFormula.__init__" s_InvalidFormula_init f fd) (M : ErrK K mg "InvalidFormula" C f cG cM cN) (cC : C8.Cal P w K mg base 13 "copied" (spCp K 13) [.int 12]) : FnOk P w K mg base CX0 14 f fd ["self", "value"] (spErr K C "value" .formula) := by
  refine F.ok scInvalidFormula (fun vs H Q E h => ?_) (fun cdv A outer s H vs Q E hr h => ?_)
  · obtain ⟨a, x, m, t, rfl, _⟩ := h
    rfl
  obtain ⟨a, x, m, t, rfl, ha, hx, ht, q⟩ := h
  refine ⟨_, pss_cons (ps_ost (pv 0) (C8.pe_c cC hr (by decide) (by rfl) (pa_cons (pv 1) pa_nil))) (pss_one (ps_ost (pv 0) pe_str)), ?_⟩
  refine ⟨_, rfl, x, 12, m, t, rfl, by decide, hx, ht, fun v H1 s1 hv => ⟨_, rfl, a, C, rfl, M.o, M.e.nf _ (by decide), .inl ⟨s1 _ _ ha, fun dx nd ne => ?_⟩⟩⟩
  have nH : H dx = none := by
    cases z : H dx with
    | none => rfl
    | some o =>
      rw [s1 _ _ z] at nd
      cases nd
  refine ⟨_, rfl, a, C, rfl, M.o, M.e.nf _ (by decide), .inr ⟨dx, [("value", v)], upd_same, by rw [upd_ne ne, upd_same], (by show 1 ≤ 900; decide), ?_⟩⟩
  refine q v dx _ ?_ (by rw [upd_ne ne.symm, upd_same]) upd_same nH (fun c o hc nca => ?_)
  · refine tupd_tp (fun p xs z => ?_) ht hv
    have n1 : p ≠ a := fun e => by
      subst e
      rcases z with z | ⟨o, z⟩
      · exact at_ne (s1 _ _ ha) z exo_tup rfl
      · exact at_ne (s1 _ _ ha) z exo_frz rfl
    have n2 : p ≠ dx := fun e => by
      subst e
      rcases z with z | ⟨o, z⟩ <;> (rw [nd] at z; cases z)
    rcases z with z | ⟨o, z⟩
    · exact .inl (by rw [upd_ne n2, upd_ne n1, upd_ne n2]; exact z)
    · exact .inr ⟨o, by rw [upd_ne n2, upd_ne n1, upd_ne n2]; exact z⟩
  · have n2 : c ≠ dx := ne_of_none hc nH
    rw [upd_ne n2, upd_ne nca, upd_ne n2]
    exact s1 _ _ hc
end

end Ag

namespace Ag
open PySem PySem.Spec PyProof.Rows L2
theorem fr_ne {K : PySem.W.Frag} {H : Hp} {v : V} {t : Fm} (h : Fr K H v t) : decide (v = V.non) = false := by
  cases t with
  | fls =>
    obtain ⟨p, rfl, _⟩ := fr_fls h
    exact ne_non
  | atom u =>
    obtain ⟨p, rfl, _⟩ := fr_atom h
    exact ne_non
  | hole u =>
    obtain ⟨p, rfl, _⟩ := fr_hole h
    exact ne_non
  | bin k a b =>
    obtain ⟨p, _, _, rfl, _⟩ := fr_bin h
    exact ne_non
section
variable {P : Program} {w : World} {K : PySem.W.Frag} {mg : Str → Option Value} {base : Heap} {C fI cG cM cN : Addr} {fdI : FuncData}
/-! ### is_shape, formula_text, read_formula -/
def spShp (K : PySem.W.Frag) : Sp := fun vs H Q _ => ∃ (x : V) (t : Fm), vs = [x] ∧ Fr K H x t ∧ Sml t ∧ SeqAt.shaped t.dat = true ∧ ∀ H', Same H H' → Q (.bl (isB 5 true t)) H'
theorem scShp : FnScope ["value"] ["value"] (defScope s_is_shape) := ⟨rfl, rfl, rfl, by decide +kernel, rfl, by decide +kernel, by decide +kernel⟩
theorem ok_is_shape {f : Addr} {fd : FuncData} (F : Fun K "is_shape" "is_shape" s_is_shape f fd) (cB : C8.Cal P w K mg base 14 "is_built" (spBuilt K 11) []) (mD : ∃ t, mg "SHAPE_DEPTH" = some (.int 5 t)) : FnOk P w K mg base CX0 15 f fd ["value"] (spShp K) := by
  refine F.ok scShp (fun vs H Q E h => ?_) (fun cdv A outer s H vs Q E hr h => ?_)
  · obtain ⟨x, t, rfl, _⟩ := h
    rfl
  obtain ⟨x, t, rfl, hx, hs, hsh, q⟩ := h
  obtain ⟨tD, mD⟩ := mD
  refine ⟨_, pss_one (ps_ret (C8.pe_c cB hr (by decide) (by rfl) (pa_cons (pv 0) (pa_cons (pe_glob (v := .int 5) (by rfl) mD ⟨_, rfl⟩) (pa_cons pe_bl pa_nil))))), ?_⟩
  exact ⟨_, rfl, x, 5, true, t, rfl, hx, hs, by decide, hsh, q⟩
def spFT (K : PySem.W.Frag) (C : Addr) : Sp := fun vs H Q E => ∃ (x : V) (t : Fm), vs = [x] ∧ Fr K H x t ∧ Sml t ∧ SeqAt.shaped t.dat = true ∧ dep t ≤ 14 ∧ (txt t).length ≤ 1000000 ∧
  if (isB 10 false t || isB 5 true t) = true then ∀ H', Same H H' → Q (.str (SX.S (txt t))) H' else RaisE K C .formula t.dat H E
theorem scFT : FnScope ["formula"] ["formula"] (defScope s_formula_text) := ⟨rfl, rfl, rfl, by decide +kernel, rfl, by decide +kernel, by decide +kernel⟩
theorem ok_ft {f : Addr} {fd : FuncData} (F : Fun K "formula_text" "formula_text" s_formula_text f fd) (cF : C8.Cal P w K mg base 15 "is_formula" (spFormula K) []) (cS : C8.Cal P w K mg base 15 "is_shape" (spShp K) []) (cT : C8.Cal P w K mg base 14 "text_of" (spTxt K 14) [])
    (M : ErrK K mg "InvalidFormula" C fI cG cM cN) (GI : FnOk P w K mg base CX0 14 fI fdI ["self", "value"] (spErr K C "value" .formula)) (bI : Binds K fdI ["self", "value"] []) : FnOk P w K mg base (L2.CX P w) 16 f fd ["formula"] (spFT K C) := by
  refine F.okX scFT (fun vs H Q E h => ?_) (fun cdv A outer s H vs Q E hr h => ?_)
  · obtain ⟨x, t, rfl, _⟩ := h
    rfl
  obtain ⟨x, t, rfl, hx, hs, hsh, hd, hl, q⟩ := h
  refine ⟨_, pss_cons (ps_if (PW.pt (pw_and (pt_not (pt_val (C8.pe_c cF hr (by decide) (by rfl) (pa_cons (pv 0) pa_nil)))) (pw_and1 (pt_not (pt_val (C8.pe_c cS hr (by decide) (by rfl) (pa_cons (pv 0) pa_nil)))))))
      (pss_one (ps_raise rfl (L2.takes_of rfl rfl rfl rfl) (pmk_oex M.o M.iC M.tI GI (hr.mono (by decide)) bI .nil pass0 (by rfl) M.m (pa_cons (pv 0) pa_nil)))) pss_nil)
    (pss_one (ps_ret (C8.pe_c cT hr (by decide) (by rfl) (pa_cons (pv 0) pa_nil)))), ?_⟩
  refine ⟨_, rfl, x, t, rfl, hx, hs, hsh, fun H1 s1 => ⟨_, rfl, ?_⟩⟩
  by_cases e1 : isB 10 false t = true
  · rw [e1, Bool.true_or, if_pos rfl] at q
    rw [e1]
    exact iteE rfl (iteE rfl ⟨_, rfl, x, t, rfl, hx.same s1, hd, hl, fun H' s' => q H' (s1.trans s')⟩)
  · have e1' : isB 10 false t = false := by simpa using e1
    rw [e1', Bool.false_or] at q
    rw [e1']
    refine iteU rfl ⟨_, rfl, x, t, rfl, hx.same s1, hs, hsh, fun H2 s2 => ⟨_, rfl, ?_⟩⟩
    by_cases e2 : isB 5 true t = true
    · rw [if_pos e2] at q
      rw [e2]
      exact iteE rfl ⟨_, rfl, x, t, rfl, (hx.same s1).same s2, hd, hl, fun H' s' => q H' (s1.trans (s2.trans s'))⟩
    · have e2' : isB 5 true t = false := by simpa using e2
      rw [if_neg e2] at q
      rw [e2']
      exact iteU rfl ⟨_, rfl, rais_mk (m := dep t + 1) M rfl (by decide) (by decide) ((hx.same s1).same s2) (tupd_fm t) (rais_same s2 (rais_same s1 q))⟩
end
end Ag

namespace Ag
open PySem PySem.Spec PyProof.Rows L2
/-! ### is_leaf, is_built of data of any kind -/
def odk : Nat → PyData → Bool
  | 0, _ => false
  | n + 1, .tuple ds => decide (ds.length ≤ 1000) && ds.all (odk n)
  | n + 1, .list ds => decide (ds.length ≤ 1000) && ds.all (odk n)
  | _ + 1, .str s => decide (s.cps.toList.length ≤ 1000)
  | _ + 1, .dict _ => false
  | _ + 1, _ => true
def nmB : PyData → Bool
  | .str s => isNm s.cps.toList
  | _ => false
def ltB : PyData → Bool
  | .str s => isLet s.cps.toList
  | _ => false
def vOf : PyData → Option V
  | .none => some .non
  | .bool b => some (.bl b)
  | .int i => some (.int i)
  | .str s => some (.str s)
  | _ => none
def leafB (h : Bool) (a b : PyData) : Bool := if PyData.eqv a (.str "atom") = true then nmB b else h && (PyData.eqv a (.str "hole") && ltB b)
def jnV (x : V) : Bool := inV x [.str "then", .str "and", .str "or"]
def bD : Nat → Bool → PyData → Option Bool
  | 0, _, _ => some false
  | n + 1, h, .tuple [a, b, c] => match vOf a with
    | none => none
    | some x => if jnV x = true then (match bD n h b, bD n h c with
      | some y, some z => some (y && z)
      | _, _ => none) else some false
  | _ + 1, h, .tuple [a, b] => some (leafB h a b)
  | _ + 1, _, .tuple ds => some (PyData.eqv (.tuple ds) (.tuple [.str "false"]))
  | _ + 1, _, _ => some false
section
variable {K : PySem.W.Frag} {H : Hp}
theorem S_of (s : Str) : SX.S s.cps.toList = s := TL.ext_tl rfl
theorem nm_of {n : Nat} {v : V} {d : PyData} (hd : Dp K H v d) (ok : odk n d = true) : NameIs K H v (nmB d) := by
  cases n with
  | zero => cases ok
  | succ n =>
    cases d with
    | str s =>
      cases hd
      exact .inl ⟨s.cps.toList, by rw [S_of], of_decide_eq_true ok, rfl⟩
    | dict _ => cases ok
    | _ => exact .inr ⟨⟨_, dp_tyx hd, kit_ty (by simp only [tyD]; decide +kernel)⟩, rfl⟩
theorem let_of {n : Nat} {v : V} {d : PyData} (hd : Dp K H v d) (ok : odk n d = true) : LetIs K H v (ltB d) := by
  cases n with
  | zero => cases ok
  | succ n =>
    cases d with
    | str s =>
      cases hd
      exact .inl ⟨s.cps.toList, by rw [S_of], of_decide_eq_true ok, rfl⟩
    | dict _ => cases ok
    | _ => exact .inr ⟨⟨_, dp_tyx hd, kit_ty (by simp only [tyD]; decide +kernel)⟩, rfl⟩
theorem v_of {v x : V} {d : PyData} (hd : Dp K H v d) (e : vOf d = some x) : v = x ∧ flatV x = true := by
  cases hd <;> (first | (cases e; exact ⟨rfl, rfl⟩) | cases e)
theorem shp_tup {ds : List PyData} (h : SeqAt.shaped (.tuple ds) = true) : ∀ d ∈ ds, SeqAt.shaped d = true := by
  unfold SeqAt.shaped at h ⊢
  rw [Bool.and_eq_true] at h
  obtain ⟨h1, h2⟩ := h
  have h1' : PyData.canLayAll0 ds = true := h1
  have h2' : PyData.depthAll ds + 1 ≤ 64 := of_decide_eq_true h2
  clear h1 h2
  intro d hd
  have key : PyData.canLay0 d = true ∧ PyData.depth d ≤ PyData.depthAll ds := by
    clear h2'
    induction ds with
    | nil => cases hd
    | cons a r ih =>
      have q : (PyData.canLay0 a && PyData.canLayAll0 r) = true := h1'
      rw [Bool.and_eq_true] at q
      have m : PyData.depthAll (a :: r) = max (PyData.depth a) (PyData.depthAll r) := rfl
      rcases List.mem_cons.mp hd with rfl | hd
      · exact ⟨q.1, by omega⟩
      · obtain ⟨i1, i2⟩ := ih q.2 hd
        exact ⟨i1, by omega⟩
  rw [key.1, Bool.true_and]
  exact decide_eq_true (by omega)
end
section
variable {P : Program} {w : World} {K : PySem.W.Frag} {mg : Str → Option Value} {base : Heap}
theorem dp_two {H : Hp} {v : V} {a b : PyData} (h : Dp K H v (.tuple [a, b])) : ∃ p x y, v = .ref p ∧ SqT K H p [x, y] ∧ Dp K H x a ∧ Dp K H y b := by
  cases h with
  | tup q r =>
    cases r with
    | cons r1 r2 =>
      cases r2 with
      | cons r3 r4 =>
        cases r4
        exact ⟨_, _, _, rfl, q, r1, r3⟩
theorem dp_three {H : Hp} {v : V} {a b c : PyData} (h : Dp K H v (.tuple [a, b, c])) : ∃ p x y z, v = .ref p ∧ SqT K H p [x, y, z] ∧ Dp K H x a ∧ Dp K H y b ∧ Dp K H z c := by
  cases h with
  | tup q r =>
    cases r with
    | cons r1 r2 =>
      cases r2 with
      | cons r3 r4 =>
        cases r4 with
        | cons r5 r6 =>
          cases r6
          exact ⟨_, _, _, _, rfl, q, r1, r3, r5⟩
def spLeafD (K : PySem.W.Frag) : Sp := fun vs H Q _ => ∃ (x : V) (h : Bool) (a b : PyData) (n : Nat), vs = [x, .bl h] ∧ Dp K H x (.tuple [a, b]) ∧ odk n (.tuple [a, b]) = true ∧ SeqAt.shaped (.tuple [a, b]) = true ∧ ∀ H', Same H H' → Q (.bl (leafB h a b)) H'
theorem ok_leafD {f : Addr} {fd : FuncData} (F : Fun K "is_leaf" "is_leaf" s_is_leaf f fd) (cN : C8.Cal P w K mg base 2 "is_name" (spName K) []) (cL : C8.Cal P w K mg base 1 "is_letter" (spLetter K) []) : FnOk P w K mg base CX0 3 f fd ["value", "holes"] (spLeafD K) := by
  refine F.ok scLeaf (fun vs H Q E h => ?_) (fun cdv A outer s H vs Q E hr h => ?_)
  · obtain ⟨x, h, a, b, n, rfl, _⟩ := h
    rfl
  obtain ⟨x, h, a, b, n, rfl, hx, ho, hsh, q⟩ := h
  have hu : (Around.units (A.deeper (envOfC ("is_leaf" : Str) (defScope s_is_leaf) s.heap.objs.size f cdv))) + 64 < cLine := hr.units
  refine ⟨_, pss_cons (ps_if (pt_cmpR (op_eqD hr.units) (pe_ix ix_tup (pv 0) pe_int (fun _ _ => rfl)) pe_str (nomark _)) (pss_one (ps_ret (C8.pe_c cN hr (by decide) (by rfl) (pa_cons (pe_ix ix_tup (pv 0) pe_int (fun _ _ => rfl)) pa_nil)))) pss_nil)
    (pss_one (ps_ret (pe_and (pv 1) (pe_and (pe_cmpR (op_eqD hr.units) (pe_ix ix_tup (pv 0) pe_int (fun _ _ => rfl)) pe_str (nomark _)) (pe_one (C8.pe_c cL hr (by decide) (by rfl) (pa_cons (pe_ix ix_tup (pv 0) pe_int (fun _ _ => rfl)) pa_nil))))))), ?_⟩
  obtain ⟨p, x0, x1, rfl, sp, h0, h1⟩ := dp_two hx
  have sh := shp_tup hsh
  obtain ⟨n, rfl⟩ : ∃ m, n = m + 1 := by
    cases n with
    | zero => cases ho
    | succ m => exact ⟨m, rfl⟩
  have ob : odk n b = true := by
    simp only [odk, Bool.and_eq_true, List.all_eq_true] at ho
    exact ho.2 b (by simp)
  refine ⟨_, rfl, p, _, _, _, rfl, rfl, sp, rfl, a, .str "atom", h0, .str _, sh a (by simp), by decide +kernel, _, rfl, ?_⟩
  by_cases e : PyData.eqv a (.str "atom") = true
  · refine iteU e ?_
    refine ⟨_, rfl, p, _, _, _, rfl, rfl, sp, rfl, x1, nmB b, rfl, nm_of h1 ob, fun H' s' => ?_⟩
    have := q H' s'
    unfold leafB at this
    rw [if_pos e] at this
    exact this
  · have e' : PyData.eqv a (.str "atom") = false := by simpa using e
    have q' := q H (.refl H)
    unfold leafB at q'
    rw [if_neg e] at q'
    refine iteE e' ⟨_, rfl, h, rfl, ?_⟩
    cases h with
    | false => exact q'
    | true =>
      rw [Bool.true_and] at q'
      refine ⟨_, rfl, p, _, _, _, rfl, rfl, sp, rfl, a, .str "hole", h0, .str _, sh a (by simp), by decide +kernel, _, rfl, ?_⟩
      by_cases e2 : PyData.eqv a (.str "hole") = true
      · rw [e2, Bool.true_and] at q'
        exact iteU e2 ⟨_, rfl, p, _, _, _, rfl, rfl, sp, rfl, x1, ltB b, rfl, let_of h1 ob, q'⟩
      · have e3 : PyData.eqv a (.str "hole") = false := by simpa using e2
        rw [e3, Bool.false_and] at q'
        exact iteE e3 q'
def spBuiltD (K : PySem.W.Frag) (n : Nat) : Sp := fun vs H Q _ => ∃ (x : V) (d m : Nat) (h r : Bool) (t : PyData), vs = [x, .int (d : Int), .bl h] ∧ Dp K H x t ∧ odk m t = true ∧ SeqAt.shaped t = true ∧ d < n ∧ bD d h t = some r ∧ ∀ H', Same H H' → Q (.bl r) H'
theorem ok_builtD {n : Nat} {f : Addr} {fd : FuncData} (F : Fun K "is_built" "is_built" s_is_built f fd) (cL : C8.Cal P w K mg base 3 "is_leaf" (spLeafD K) []) (cB : C8.Cal P w K mg base (n + 3) "is_built" (spBuiltD K n) []) (M : BuiltM K mg) : FnOk P w K mg base CX0 (n + 4) f fd ["value", "depth", "holes"] (spBuiltD K (n + 1)) := by
  refine F.ok scBuilt (fun vs H Q E h => ?_) (fun cdv A outer s H vs Q E hr h => ?_)
  · obtain ⟨x, d, m, h, r, t, rfl, _⟩ := h
    rfl
  obtain ⟨x, d, m, h, r, t, rfl, hx, ho, hsh, hd, hb, q⟩ := h
  have nd := scBuilt.nd
  obtain ⟨aJ, mJ, hJ⟩ := M.joints
  refine ⟨_, pss_cons (ps_if (PW.pt (pw_or (pt_cmpR op_eq (pv 1) pe_int (nomark _)) (pw_or1 (pt_not (pt_val (pe_callB call_isi (by rfl) M.isi (by decide +kernel) (pa_cons (pv 0) (pa_cons (pe_bltn (v := .ty "tuple") (u := .type "tuple") (by rfl) M.tuple (by decide +kernel) rfl) pa_nil)))))))) (pss_one (ps_ret pe_bl)) pss_nil)
    (pss_cons (ps_if (pt_cmpR op_eq (pe_callB call_len_seq (by rfl) M.len boot_len (pa_cons (pv 0) pa_nil)) pe_int (nomark _))
      (pss_one (ps_ret (pe_and (pe_cmpR op_in_seq (pe_ix ix_tup (pv 0) pe_int (fun _ _ => rfl)) (pe_glob (v := .ref aJ) (by rfl) mJ rfl) (by with_unfolding_all rfl)) (pe_one (pe_callB (cr_all rfl) (by rfl) M.all (by decide +kernel) (pa_cons (pe_lc (own := [("side", 3)]) (g := gName 3) (tt := tYes) rfl nd (pi_tup (pe_slice sl_tup (pv 0) (po_some pe_int) po_none))
        (blkOk_by (own := [("side", 3)]) (N := nBuilt) (sc := defScope s_is_built) (by decide +kernel)) (fun _ _ _ _ _ => pg_name (i := 3) nd rfl (Or.inl rfl)) (fun _ _ _ _ _ => pts_nil) (fun _ _ _ _ _ => C8.pe_c cB hr (Nat.le_refl _) (by rfl) (pa_cons (pv 3) (pa_cons (pe_op op_sub (pv 1) pe_int) (pa_cons (pv 2) pa_nil))))) pa_nil)))))) pss_nil)
    (pss_cons (ps_if (pt_cmpR op_eq (pe_callB call_len_seq (by rfl) M.len boot_len (pa_cons (pv 0) pa_nil)) pe_int (nomark _)) (pss_one (ps_ret (C8.pe_c cL hr (by omega) (by rfl) (pa_cons (pv 0) (pa_cons (pv 2) pa_nil))))) pss_nil)
    (pss_one (ps_ret (pe_cmpR (op_eqD hr.units) (pv 0) (pe_tup (pa_cons pe_str pa_nil)) (nomark _)))))), ?_⟩
  refine ⟨_, rfl, rfl, _, rfl, ?_⟩
  cases d with
  | zero =>
    have e : some false = some r := hb
    cases e
    exact iteU (decide_eq_true rfl) (iteT (q H (.refl H)))
  | succ d' =>
    have hdd : decide (V.int ((d' + 1 : Nat) : Int) = V.int 0) = false := decide_eq_false (fun z => by injection z with z; omega)
    refine iteE hdd ?_
    refine ⟨_, rfl, x, .ty "tuple", _, .type "tuple", isD "tuple" t, rfl, .ty _, dp_tyx hx, isk kit_some.2.2.1, _, rfl, ?_⟩
    cases m with
    | zero => cases ho
    | succ m =>
    cases t with
    | dict _ => cases ho
    | tuple ds =>
      have eT : isD "tuple" (.tuple ds) = true := by simp only [isD, tyD]; decide +kernel
      rw [eT]
      refine iteE rfl ?_
      have ods : ∀ d ∈ ds, odk m d = true := by
        simp only [odk, Bool.and_eq_true, List.all_eq_true] at ho
        exact ho.2
      have sds := shp_tup hsh
      have l1000 : ds.length ≤ 1000 := by
        simp only [odk, Bool.and_eq_true, decide_eq_true_eq] at ho
        exact ho.1
      cases hx with
      | @tup p xs _ hs hall =>
      have lx := dpall_len hall
      refine ⟨_, rfl, p, _, rfl, .inr hs, rfl, _, rfl, ?_⟩
      by_cases h3 : ds.length = 3
      · obtain ⟨a, b, c, rfl⟩ : ∃ a b c, ds = [a, b, c] := by
          match ds, h3 with
          | [a, b, c], _ => exact ⟨a, b, c, rfl⟩
        obtain ⟨p', x0, x1, x2, e, hs', h0, h1, h2⟩ := dp_three (.tup hs hall)
        cases e
        refine iteU (by rw [lx]; rfl) ?_
        cases ev : vOf a with
        | none =>
          unfold bD at hb
          rw [ev] at hb
          cases hb
        | some y =>
          obtain ⟨rfl, fl⟩ := v_of h0 ev
          refine ⟨_, rfl, p, _, _, _, rfl, rfl, hs', rfl, aJ, _, rfl, .inr (hJ H), fl, rfl, _, rfl, ?_⟩
          have hb2 : (if jnV x0 = true then (match bD d' h b, bD d' h c with
            | some y, some z => some (y && z)
            | _, _ => none) else some false) = some r := by
            have hb1 := hb
            unfold bD at hb1
            rw [ev] at hb1
            exact hb1
          by_cases ej : jnV x0 = true
          · rw [if_pos ej] at hb2
            refine iteU ej ?_
            cases eb : bD d' h b with
            | none => rw [eb] at hb2; cases hb2
            | some rb =>
              cases ec : bD d' h c with
              | none => rw [eb, ec] at hb2; cases hb2
              | some rc =>
                rw [eb, ec] at hb2
                have er : (rb && rc) = r := Option.some.inj hb2
                refine ⟨_, rfl, 1, rfl, p, _, rfl, hs', (by show ¬ (1 = 0 ∧ _); omega), fun u nu => ?_⟩
                have g1 := same_new nu (.tup (cutV [x0, x1, x2] (some 1) none))
                have ecut : cutV [x0, x1, x2] (some 1) none = [x1, x2] := rfl
                rw [ecut] at g1 ⊢
                refine ⟨u, rfl, ⟨_, SqT.of upd_same⟩, fun D nD => ?_⟩
                have g2 := same_new nD (.lst [])
                refine lc_tup (K := K) (a := u) (xs := [x1, x2]) (fun i H' => Same (upd H u (.tup [x1, x2])) H' ∧ H' D = some (.lst ((([rb, rc] : List Bool).take i).map V.bl))) ⟨g2, upd_same⟩ (fun i H' _ pv => SqT.of (pv.1 _ _ upd_same)) ?_ ?_
                · rintro i v H1 hv ⟨s1, hD⟩
                  obtain ⟨t', rr, ft, ot, st, et, hbi⟩ : ∃ t' rr, Dp K H1 v t' ∧ odk m t' = true ∧ SeqAt.shaped t' = true ∧ bD d' h t' = some rr ∧ ([rb, rc] : List Bool)[i]? = some rr := by
                    match i, hv with
                    | 0, hv => cases hv; exact ⟨b, rb, Dp_same (g1.trans s1) h1, ods b (by simp), sds b (by simp), eb, rfl⟩
                    | 1, hv => cases hv; exact ⟨c, rc, Dp_same (g1.trans s1) h2, ods c (by simp), sds c (by simp), ec, rfl⟩
                    | i + 2, hv => simp at hv
                  have hi2 : i < 2 := (List.getElem?_eq_some_iff.mp hv).1
                  refine ⟨rfl, ?_⟩
                  refine ⟨_, rfl, _, rfl, _, _, rfl, rfl, _, rfl, v, d', m, h, rr, t', ?_, ft, ot, st, by omega, et, fun H2 s2 => ?_⟩
                  · have e : ((d' + 1 : Nat) : Int) - 1 = (d' : Int) := by omega
                    show [v, V.int (((d' + 1 : Nat) : Int) - 1), V.bl h] = _
                    rw [e]
                  · refine ⟨_, s2 _ _ hD, (by rw [List.length_map, List.length_take]; exact small1000 (by omega)), fun c o hc => ?_, ?_⟩
                    · rw [upd_ne (ne_of_none hc nD)]
                      exact s2 _ _ (s1 _ _ hc)
                    · rw [upd_same, List.take_add_one, hbi, List.map_append]
                      rfl
                · rintro H1 ⟨s1, hD⟩
                  refine ⟨D, [rb, rc], rfl, SqL.of hD, ?_⟩
                  have e : ([rb, rc] : List Bool).all id = r := by
                    rw [← er]
                    show (rb && (rc && true)) = (rb && rc)
                    rw [Bool.and_true]
                  rw [e]
                  exact q _ (g1.trans s1)
          · rw [if_neg ej] at hb2
            have er : false = r := Option.some.inj hb2
            have ej' : jnV x0 = false := by simpa using ej
            refine iteE ej' ?_
            rw [er]
            exact q H (.refl H)
      · refine iteE (decide_eq_false (fun z => by injection z with z; omega)) ⟨_, rfl, p, _, rfl, .inr hs, rfl, _, rfl, ?_⟩
        by_cases h2 : ds.length = 2
        · obtain ⟨a, b, rfl⟩ : ∃ a b, ds = [a, b] := by
            match ds, h2 with
            | [a, b], _ => exact ⟨a, b, rfl⟩
          have er : some (leafB h a b) = some r := hb
          refine iteU (by rw [lx]; rfl) ⟨_, rfl, _, rfl, _, h, a, b, m + 1, rfl, .tup hs hall, ho, hsh, ?_⟩
          rw [Option.some.inj er]
          exact q
        · have er : r = PyData.eqv (.tuple ds) (.tuple [.str "false"]) := by
            match ds, h3, h2, hb with
            | [], _, _, hb => exact (Option.some.inj hb).symm
            | [_], _, _, hb => exact (Option.some.inj hb).symm
            | [_, _], _, h, _ => exact absurd rfl h
            | [_, _, _], h, _, _ => exact absurd rfl h
            | _ :: _ :: _ :: _ :: _, _, _, hb => exact (Option.some.inj hb).symm
          refine iteE (decide_eq_false (fun z => by injection z with z; omega)) ⟨_, rfl, (by show 1 ≤ sizeLine; decide), fun u nu => ?_⟩
          have g1 := same_new nu (.tup [.str "false"])
          refine ⟨.tuple ds, .tuple [.str "false"], Dp_same g1 (.tup hs hall), .tup (SqT.of upd_same) (.cons (.str _) .nil), hsh, by decide +kernel, ?_⟩
          rw [← er]
          exact q _ g1
    | none =>
      have e : some false = some r := hb
      cases e
      exact iteU (by simp only [isD, tyD]; decide +kernel) (q H (.refl H))
    | bool _ =>
      have e : some false = some r := hb
      cases e
      exact iteU (by simp only [isD, tyD]; decide +kernel) (q H (.refl H))
    | int _ =>
      have e : some false = some r := hb
      cases e
      exact iteU (by simp only [isD, tyD]; decide +kernel) (q H (.refl H))
    | str _ =>
      have e : some false = some r := hb
      cases e
      exact iteU (by simp only [isD, tyD]; decide +kernel) (q H (.refl H))
    | list _ =>
      have e : some false = some r := hb
      cases e
      exact iteU (by simp only [isD, tyD]; decide +kernel) (q H (.refl H))
theorem no_builtD0 (vs : List V) (H : Hp) (Q : VK) (E : XK) : ¬ spBuiltD K 0 vs H Q E := by
  rintro ⟨x, d, m, h, r, t, _, _, _, _, h0, _⟩
  omega
theorem builtD_cal {f : Addr} {fd : FuncData} (D : Df K mg "is_built" s_is_built ["value", "depth", "holes"] f fd) (cL : C8.Cal P w K mg base 3 "is_leaf" (spLeafD K) []) (M : BuiltM K mg) : ∀ n : Nat, C8.Cal P w K mg base (n + 3) "is_built" (spBuiltD K n) []
  | 0 => D.cal ⟨fun vs H Q E h => absurd h (no_builtD0 vs H Q E), fun A outer s H args us vs Q E _ _ _ _ h => absurd h (no_builtD0 vs H Q E)⟩
  | n + 1 => D.cal (ok_builtD D.fn cL (builtD_cal D cL M n) M)
end

/-! ### is_built and is_formula of data of any kind, whose heads are of any kind, too -/
def jts : List PyData := [.str "then", .str "and", .str "or"]
def jnD (a : PyData) : Bool := jts.any fun z => PyData.eqv z a
def bE : Nat → Bool → PyData → Bool
  | 0, _, _ => false
  | n + 1, h, .tuple [a, b, c] => jnD a && (bE n h b && bE n h c)
  | _ + 1, h, .tuple [a, b] => leafB h a b
  | _ + 1, _, .tuple ds => PyData.eqv (.tuple ds) (.tuple [.str "false"])
  | _ + 1, _, _ => false
section
variable {P : Program} {w : World} {K : PySem.W.Frag} {mg : Str → Option Value} {base : Heap}
def spBuiltE (K : PySem.W.Frag) (n : Nat) : Sp := fun vs H Q _ => ∃ (x : V) (d m : Nat) (h : Bool) (t : PyData), vs = [x, .int (d : Int), .bl h] ∧ Dp K H x t ∧ odk m t = true ∧ SeqAt.shaped t = true ∧ d < n ∧ ∀ H', Same H H' → Q (.bl (bE d h t)) H'
theorem ok_builtE {n : Nat} {f : Addr} {fd : FuncData} (F : Fun K "is_built" "is_built" s_is_built f fd) (cL : C8.Cal P w K mg base 3 "is_leaf" (spLeafD K) []) (cB : C8.Cal P w K mg base (n + 3) "is_built" (spBuiltE K n) []) (M : BuiltM K mg) : FnOk P w K mg base CX0 (n + 4) f fd ["value", "depth", "holes"] (spBuiltE K (n + 1)) := by
  refine F.ok scBuilt (fun vs H Q E h => ?_) (fun cdv A outer s H vs Q E hr h => ?_)
  · obtain ⟨x, d, m, h, t, rfl, _⟩ := h
    rfl
  obtain ⟨x, d, m, h, t, rfl, hx, ho, hsh, hd, q⟩ := h
  obtain ⟨r, hb⟩ : ∃ r, bE d h t = r := ⟨_, rfl⟩
  rw [hb] at q
  have nd := scBuilt.nd
  obtain ⟨aJ, mJ, hJ⟩ := M.joints
  refine ⟨_, pss_cons (ps_if (PW.pt (pw_or (pt_cmpR op_eq (pv 1) pe_int (nomark _)) (pw_or1 (pt_not (pt_val (pe_callB call_isi (by rfl) M.isi (by decide +kernel) (pa_cons (pv 0) (pa_cons (pe_bltn (v := .ty "tuple") (u := .type "tuple") (by rfl) M.tuple (by decide +kernel) rfl) pa_nil)))))))) (pss_one (ps_ret pe_bl)) pss_nil)
    (pss_cons (ps_if (pt_cmpR op_eq (pe_callB call_len_seq (by rfl) M.len boot_len (pa_cons (pv 0) pa_nil)) pe_int (nomark _))
      (pss_one (ps_ret (pe_and (pe_cmpR (op_inDT hr.units) (pe_ix ix_tup (pv 0) pe_int (fun _ _ => rfl)) (pe_glob (v := .ref aJ) (by rfl) mJ rfl) (by with_unfolding_all rfl)) (pe_one (pe_callB (cr_all rfl) (by rfl) M.all (by decide +kernel) (pa_cons (pe_lc (own := [("side", 3)]) (g := gName 3) (tt := tYes) rfl nd (pi_tup (pe_slice sl_tup (pv 0) (po_some pe_int) po_none))
        (blkOk_by (own := [("side", 3)]) (N := nBuilt) (sc := defScope s_is_built) (by decide +kernel)) (fun _ _ _ _ _ => pg_name (i := 3) nd rfl (Or.inl rfl)) (fun _ _ _ _ _ => pts_nil) (fun _ _ _ _ _ => C8.pe_c cB hr (Nat.le_refl _) (by rfl) (pa_cons (pv 3) (pa_cons (pe_op op_sub (pv 1) pe_int) (pa_cons (pv 2) pa_nil))))) pa_nil)))))) pss_nil)
    (pss_cons (ps_if (pt_cmpR op_eq (pe_callB call_len_seq (by rfl) M.len boot_len (pa_cons (pv 0) pa_nil)) pe_int (nomark _)) (pss_one (ps_ret (C8.pe_c cL hr (by omega) (by rfl) (pa_cons (pv 0) (pa_cons (pv 2) pa_nil))))) pss_nil)
    (pss_one (ps_ret (pe_cmpR (op_eqD hr.units) (pv 0) (pe_tup (pa_cons pe_str pa_nil)) (nomark _)))))), ?_⟩
  refine ⟨_, rfl, rfl, _, rfl, ?_⟩
  cases d with
  | zero =>
    have e : false = r := by rw [← hb]; unfold bE; rfl
    cases e
    exact iteU (decide_eq_true rfl) (iteT (q H (.refl H)))
  | succ d' =>
    have hdd : decide (V.int ((d' + 1 : Nat) : Int) = V.int 0) = false := decide_eq_false (fun z => by injection z with z; omega)
    refine iteE hdd ?_
    refine ⟨_, rfl, x, .ty "tuple", _, .type "tuple", isD "tuple" t, rfl, .ty _, dp_tyx hx, isk kit_some.2.2.1, _, rfl, ?_⟩
    cases m with
    | zero => cases ho
    | succ m =>
    cases t with
    | dict _ => cases ho
    | tuple ds =>
      have eT : isD "tuple" (.tuple ds) = true := by simp only [isD, tyD]; decide +kernel
      rw [eT]
      refine iteE rfl ?_
      have ods : ∀ d ∈ ds, odk m d = true := by
        simp only [odk, Bool.and_eq_true, List.all_eq_true] at ho
        exact ho.2
      have sds := shp_tup hsh
      have l1000 : ds.length ≤ 1000 := by
        simp only [odk, Bool.and_eq_true, decide_eq_true_eq] at ho
        exact ho.1
      cases hx with
      | @tup p xs _ hs hall =>
      have lx := dpall_len hall
      refine ⟨_, rfl, p, _, rfl, .inr hs, rfl, _, rfl, ?_⟩
      by_cases h3 : ds.length = 3
      · obtain ⟨a, b, c, rfl⟩ : ∃ a b c, ds = [a, b, c] := by
          match ds, h3 with
          | [a, b, c], _ => exact ⟨a, b, c, rfl⟩
        obtain ⟨p', x0, x1, x2, e, hs', h0, h1, h2⟩ := dp_three (.tup hs hall)
        cases e
        refine iteU (by rw [lx]; rfl) ?_
        refine ⟨_, rfl, p, _, _, _, rfl, rfl, hs', rfl, a, jts, h0, .tup (hJ H) (.cons (.str _) (.cons (.str _) (.cons (.str _) .nil))), SeqAt.canLay_of_shaped (sds a (by simp)), by decide +kernel, by decide +kernel, _, rfl, ?_⟩
        have hb2 : (jnD a && (bE d' h b && bE d' h c)) = r := hb
        by_cases ej : jnD a = true
        · rw [ej, Bool.true_and] at hb2
          refine iteU ej ?_
          obtain ⟨rb, eb⟩ : ∃ rb, bE d' h b = rb := ⟨_, rfl⟩
          obtain ⟨rc, ec⟩ : ∃ rc, bE d' h c = rc := ⟨_, rfl⟩
          rw [eb, ec] at hb2
          refine ⟨_, rfl, 1, rfl, p, _, rfl, hs', (by show ¬ (1 = 0 ∧ _); omega), fun u nu => ?_⟩
          have g1 := same_new nu (.tup (cutV [x0, x1, x2] (some 1) none))
          have ecut : cutV [x0, x1, x2] (some 1) none = [x1, x2] := rfl
          rw [ecut] at g1 ⊢
          refine ⟨u, rfl, ⟨_, SqT.of upd_same⟩, fun D nD => ?_⟩
          have g2 := same_new nD (.lst [])
          refine lc_tup (K := K) (a := u) (xs := [x1, x2]) (fun i H' => Same (upd H u (.tup [x1, x2])) H' ∧ H' D = some (.lst ((([rb, rc] : List Bool).take i).map V.bl))) ⟨g2, upd_same⟩ (fun i H' _ pv => SqT.of (pv.1 _ _ upd_same)) ?_ ?_
          · rintro i v H1 hv ⟨s1, hD⟩
            obtain ⟨t', rr, ft, ot, st, et, hbi⟩ : ∃ t' rr, Dp K H1 v t' ∧ odk m t' = true ∧ SeqAt.shaped t' = true ∧ bE d' h t' = rr ∧ ([rb, rc] : List Bool)[i]? = some rr := by
              match i, hv with
              | 0, hv => cases hv; exact ⟨b, rb, Dp_same (g1.trans s1) h1, ods b (by simp), sds b (by simp), eb, rfl⟩
              | 1, hv => cases hv; exact ⟨c, rc, Dp_same (g1.trans s1) h2, ods c (by simp), sds c (by simp), ec, rfl⟩
              | i + 2, hv => simp at hv
            have hi2 : i < 2 := (List.getElem?_eq_some_iff.mp hv).1
            refine ⟨rfl, ?_⟩
            refine ⟨_, rfl, _, rfl, _, _, rfl, rfl, _, rfl, v, d', m, h, t', ?_, ft, ot, st, by omega, fun H2 s2 => ?_⟩
            · have e : ((d' + 1 : Nat) : Int) - 1 = (d' : Int) := by omega
              show [v, V.int (((d' + 1 : Nat) : Int) - 1), V.bl h] = _
              rw [e]
            · rw [et]
              refine ⟨_, s2 _ _ hD, (by rw [List.length_map, List.length_take]; exact small1000 (by omega)), fun c o hc => ?_, ?_⟩
              · rw [upd_ne (ne_of_none hc nD)]
                exact s2 _ _ (s1 _ _ hc)
              · rw [upd_same, List.take_add_one, hbi, List.map_append]
                rfl
          · rintro H1 ⟨s1, hD⟩
            refine ⟨D, [rb, rc], rfl, SqL.of hD, ?_⟩
            have e : ([rb, rc] : List Bool).all id = r := by
              rw [← hb2]
              show (rb && (rc && true)) = (rb && rc)
              rw [Bool.and_true]
            rw [e]
            exact q _ (g1.trans s1)
        · have ej' : jnD a = false := by simpa using ej
          rw [ej', Bool.false_and] at hb2
          refine iteE ej' ?_
          rw [← hb2] at q
          exact q H (.refl H)
      · refine iteE (decide_eq_false (fun z => by injection z with z; omega)) ⟨_, rfl, p, _, rfl, .inr hs, rfl, _, rfl, ?_⟩
        by_cases h2 : ds.length = 2
        · obtain ⟨a, b, rfl⟩ : ∃ a b, ds = [a, b] := by
            match ds, h2 with
            | [a, b], _ => exact ⟨a, b, rfl⟩
          have er : leafB h a b = r := hb
          refine iteU (by rw [lx]; rfl) ⟨_, rfl, _, rfl, _, h, a, b, m + 1, rfl, .tup hs hall, ho, hsh, ?_⟩
          rw [er]
          exact q
        · have er : r = PyData.eqv (.tuple ds) (.tuple [.str "false"]) := by
            match ds, h3, h2, hb with
            | [], _, _, hb => exact hb.symm
            | [_], _, _, hb => exact hb.symm
            | [_, _], _, h, _ => exact absurd rfl h
            | [_, _, _], h, _, _ => exact absurd rfl h
            | _ :: _ :: _ :: _ :: _, _, _, hb => exact hb.symm
          refine iteE (decide_eq_false (fun z => by injection z with z; omega)) ⟨_, rfl, (by show 1 ≤ sizeLine; decide), fun u nu => ?_⟩
          have g1 := same_new nu (.tup [.str "false"])
          refine ⟨.tuple ds, .tuple [.str "false"], Dp_same g1 (.tup hs hall), .tup (SqT.of upd_same) (.cons (.str _) .nil), hsh, by decide +kernel, ?_⟩
          rw [← er]
          exact q _ g1
    | none =>
      have e : false = r := hb
      cases e
      exact iteU (by simp only [isD, tyD]; decide +kernel) (q H (.refl H))
    | bool _ =>
      have e : false = r := hb
      cases e
      exact iteU (by simp only [isD, tyD]; decide +kernel) (q H (.refl H))
    | int _ =>
      have e : false = r := hb
      cases e
      exact iteU (by simp only [isD, tyD]; decide +kernel) (q H (.refl H))
    | str _ =>
      have e : false = r := hb
      cases e
      exact iteU (by simp only [isD, tyD]; decide +kernel) (q H (.refl H))
    | list _ =>
      have e : false = r := hb
      cases e
      exact iteU (by simp only [isD, tyD]; decide +kernel) (q H (.refl H))
theorem no_builtE0 (vs : List V) (H : Hp) (Q : VK) (E : XK) : ¬ spBuiltE K 0 vs H Q E := by
  rintro ⟨x, d, m, h, t, _, _, _, _, h0, _⟩
  omega
theorem builtE_cal {f : Addr} {fd : FuncData} (D : Df K mg "is_built" s_is_built ["value", "depth", "holes"] f fd) (cL : C8.Cal P w K mg base 3 "is_leaf" (spLeafD K) []) (M : BuiltM K mg) : ∀ n : Nat, C8.Cal P w K mg base (n + 3) "is_built" (spBuiltE K n) []
  | 0 => D.cal ⟨fun vs H Q E h => absurd h (no_builtE0 vs H Q E), fun A outer s H args us vs Q E _ _ _ _ h => absurd h (no_builtE0 vs H Q E)⟩
  | n + 1 => D.cal (ok_builtE D.fn cL (builtE_cal D cL M n) M)
/-- is_formula of data of any kind -/
def spFormE (K : PySem.W.Frag) : Sp := fun vs H Q _ => ∃ (x : V) (m : Nat) (t : PyData), vs = [x] ∧ Dp K H x t ∧ odk m t = true ∧ SeqAt.shaped t = true ∧ ∀ H', Same H H' → Q (.bl (bE 10 false t)) H'
theorem ok_formE {f : Addr} {fd : FuncData} (F : Fun K "is_formula" "is_formula" s_is_formula f fd) (cB : C8.Cal P w K mg base 14 "is_built" (spBuiltE K 11) []) (mD : ∃ t, mg "FORMULA_DEPTH" = some (.int 10 t)) : FnOk P w K mg base CX0 15 f fd ["value"] (spFormE K) := by
  refine F.ok scFormula (fun vs H Q E h => ?_) (fun cdv A outer s H vs Q E hr h => ?_)
  · obtain ⟨x, m, t, rfl, _⟩ := h
    rfl
  obtain ⟨x, m, t, rfl, hx, ho, hsh, q⟩ := h
  obtain ⟨tD, mD⟩ := mD
  refine ⟨_, pss_one (ps_ret (C8.pe_c cB hr (by decide) (by rfl) (pa_cons (pv 0) (pa_cons (pe_glob (v := .int 10) (by rfl) mD ⟨_, rfl⟩) (pa_cons pe_bl pa_nil))))), ?_⟩
  exact ⟨_, rfl, x, 10, m, false, t, rfl, hx, ho, hsh, by decide, q⟩
end

end Ag

namespace Ag
open PySem PySem.Spec PyProof.Rows L2
/-! ### lambdas of the law and what they come to -/
def lamScB (scope : Scope) (ps : List Str) : Bool := decide (scope.kind = .function) && !scope.isCoroutine && !scope.isGenerator && scope.names.all (fun y => !decide (y.2 = .cell) && (!decide (y.2 = .local) || ps.contains y.1)) && ps.all fun x => decide (scope.names.lookup x = some .local)
theorem lamSc_by {scope : Scope} {ps : List Str} (h : lamScB scope ps = true) : LamSc scope ps := by
  unfold lamScB at h
  simp only [Bool.and_eq_true, Bool.or_eq_true, Bool.not_eq_true', decide_eq_true_eq, decide_eq_false_iff_not, List.all_eq_true] at h
  obtain ⟨⟨⟨⟨h1, h2⟩, h3⟩, h4⟩, h5⟩ := h
  refine ⟨h1, h2, h3, fun y hy => ⟨(h4 y hy).1, fun e => ?_⟩, h5⟩
  rcases (h4 y hy).2 with z | z
  · exact absurd e z
  · exact List.contains_iff_mem.mp z
def freeB (sc scope : Scope) : Bool := scope.names.all fun y => !decide (y.2 = .free) || (decide (sc.names.lookup y.1 = some .cell) || decide (sc.names.lookup y.1 = some .free))
theorem free_by {sc scope : Scope} (h : freeB sc scope = true) : ∀ y ∈ scope.names, y.2 = .free → sc.names.lookup y.1 = some .cell ∨ sc.names.lookup y.1 = some .free := fun y hy e => by
  unfold freeB at h
  simp only [Bool.or_eq_true, Bool.not_eq_true', decide_eq_true_eq, decide_eq_false_iff_not, List.all_eq_true] at h
  rcases h y hy with z | z
  · exact absurd e z
  · exact z
theorem pe_lamA {X : Cx} {c P : Addr} {params : Arguments} {body : Expr} {scope : Scope} {pos : Pos} (TB : LamX.TabB X.base X.mg c P) (hcode : X.env.code = .ref c) (hf : freeB X.env.scope scope = true) (hdef : defaultsOf params X.env = ([], []) := by rfl) :
    PE X (.Lambda params body scope pos) (tLam X P params body scope []) := pe_lam0 TB hcode (fun ok y hy e => ok.has _ (free_by hf y hy e)) hdef
theorem pe_lamB {X : Cx} {c P : Addr} {params : Arguments} {body : Expr} {scope : Scope} {pos pp : Pos} {kk : Nat} {z : Int} (TB : LamX.TabB X.base X.mg c P) (hcode : X.env.code = .ref c) (hf : freeB X.env.scope scope = true)
    (hdef : defaultsOf params X.env = ([eval (.Constant (.int z) kk pp) X.env], []) := by rfl) : PE X (.Lambda params body scope pos) (tLam X P params body scope [.int z]) := pe_lam1 TB hcode (fun ok y hy e => ok.has _ (free_by hf y hy e)) hdef
theorem fx_tp {H H' : Hp} (k : Fx H H') : Tp H H' := fun p xs h => by
  rcases h with h | ⟨o, h⟩
  · exact .inl (k _ _ h (fun _ z => by cases z) (fun _ z => by cases z))
  · exact .inr ⟨o, k _ _ h (fun _ z => by cases z) (fun _ z => by cases z)⟩
section
variable {P : Program} {w : World} {K : PySem.W.Frag} {mg : Str → Option Value} {base : Heap} {cG cM cN : Addr}
/-- the law's def, whose code object is at c -/
theorem okc {x qual : Str} {st : Stmt} {f c : Addr} {fd : FuncData} {N ps : List Str} {k : Nat} {sp : Sp} (F : Fun K x qual st f fd) (hc : fd.code = .ref c) (sc : FnScope N ps (defScope st)) (len : ∀ vs H Q E, sp vs H Q E → vs.length = ps.length)
    (body : ∀ (A : Around) (outer : List Env) (s : Shared) (H : Hp) (vs : List V) (Q : VK) (E : XK), Room k (A.deeper (envOfC qual (defScope st) s.heap.objs.size f (.ref c))) → sp vs H Q E →
      ∃ t, PSs (cxOf L2.CX0 P w K mg base N qual (defScope st) f (.ref c) A outer s H E).nox (defBody st) t ∧ t { nx := fun _ H' => Q .non H', rt := Q } (L2.start N vs) H) : FnOk P w K mg base L2.CX0 (k + 1) f fd ps sp := by
  obtain ⟨oc, od, kV, doc, pm, an, cdv, ct, osl, rfl, look, code⟩ := F.ex
  have e : cdv = .ref c := hc
  subst e
  refine fn_of look code sc len fun A outer s H vs Q E room h => ?_
  obtain ⟨t, ht, q⟩ := body A outer s H vs Q E room h
  exact ⟨t, ht.nox, q⟩
theorem dpall_ix {H : Hp} : ∀ {rs : List V} {ds : List PyData}, rs.length = ds.length → (∀ (i : Nat) (v : V) (d : PyData), rs[i]? = some v → ds[i]? = some d → Dp K H v d) → DpAll K H rs ds
  | [], [], _, _ => .nil
  | v :: r, d :: t, e, h => .cons (h 0 v d rfl rfl) (dpall_ix (by simpa using e) fun i v d h1 h2 => h (i + 1) v d (by simpa using h1) (by simpa using h2))
  | [], _ :: _, e, _ => by cases e
  | _ :: _, [], e, _ => by cases e
theorem tries_read {a : Addr} {fs : List Addr} {ds : List PyData} {k n : Nat} {l : Pins} {H1 : Hp} {Q : VK} (nl : ∀ b o, l.lookup b = some o → H1 b = none) (ha : SqL K H1 a (fs.map V.ref)) (hl : fs.length ≤ 100) (ld : ds.length = fs.length) (td : ∀ d ∈ ds, tupd n d = true)
    (told : ∀ (i : Nat) (f : Addr) (d : PyData), fs[i]? = some f → ds[i]? = some d → ∀ H2, Same (addp H1 l) H2 → Told P w K mg base cG cM cN k f H2 (fun v H3 => Same H2 H3 ∧ Dp K H3 v d))
    (q : ∀ p rs H2, Same H1 H2 → H1 p = none → H2 p = some (.lst rs) → DpAll K H2 rs ds → Q (.ref p) H2) :
    spTries P w K mg base cG cM cN k [.ref a] (addp H1 l) (fun v H2 => (∀ b o, l.lookup b = some o → H2 b = some (pinO b o)) ∧ Q v (remp H2 l)) L2.E0 := by
  refine ⟨a, fs, fun i v H => ∀ d, ds[i]? = some d → Dp K H v d, rfl, (add_same nl).seq ha, hl, fun i v H2 H3 h1 fx d hd => tupd_tp (fx_tp fx) (td d (List.mem_of_getElem? hd)) (h1 d hd), fun i f hf H2 s2 => ?_, fun p rs H2 s2 np hp lr hr => ?_⟩
  · have hi := (List.getElem?_eq_some_iff.mp hf).1
    have hd : ds[i]? = some (ds[i]'(by omega)) := List.getElem?_eq_getElem (by omega)
    refine (told i f _ hf hd H2 s2).imp (fun v H3 h t H4 s4 n4 h4 => ?_) (fun c d H3 ⟨C, D, fs2, e, ws, e1, e2, e3, e4, e5, e6⟩ => ⟨C, D, fs2, e, ws, e1, e2, e3, e4, e5, fun t u H4 s4 n4 h4 h5 => ?_⟩)
    · obtain ⟨y1, y2⟩ := h t H4 s4 n4 h4
      exact ⟨y1, fun d' hd' => by rw [hd] at hd'; cases hd'; exact y2⟩
    · obtain ⟨y1, y2⟩ := e6 t u H4 s4 n4 h4 h5
      exact ⟨y1, fun d' hd' => by rw [hd] at hd'; cases hd'; exact y2⟩
  · have pin : ∀ b o, l.lookup b = some o → H2 b = some (pinO b o) := fun b o z => s2 _ _ (addp_in z)
    have np2 := addp_none np
    refine ⟨pin, q p rs _ (same_rem s2 nl) np2.2 (by rw [remp_out np2.1]; exact hp) (dpall_ix (by rw [lr, ld]) fun i v d h1 h2 => ?_)⟩
    refine tupd_tp (fun p2 xs z => ?_) (td d (List.mem_of_getElem? h2)) (hr i v h1 d h2)
    have out : l.lookup p2 = none := by
      cases y : l.lookup p2 with
      | none => rfl
      | some o =>
        rcases z with z | ⟨o2, z⟩
        · rw [pin p2 o y] at z
          exact absurd (Option.some.inj z) pin_tup
        · rw [pin p2 o y] at z
          exact absurd (Option.some.inj z) pin_frz
    rcases z with z | ⟨o2, z⟩
    · exact .inl (by rw [remp_out out]; exact z)
    · exact .inr ⟨o2, by rw [remp_out out]; exact z⟩
theorem tries_read2 {a : Addr} {fs : List Addr} {ds : List PyData} {k n : Nat} {l : Pins} {H1 : Hp} {Q : VK} (nl : ∀ b o, l.lookup b = some o → H1 b = none) (ha : SqL K H1 a (fs.map V.ref)) (hl : fs.length ≤ 100) (ld : ds.length = fs.length) (td : ∀ d ∈ ds, tupd n d = true)
    (told : ∀ (i : Nat) (f : Addr) (d : PyData), fs[i]? = some f → ds[i]? = some d → ∀ H2, Same (addp H1 l) H2 → Told P w K mg base cG cM cN k f H2 (fun v H3 => Same H2 H3 ∧ Dp K H3 v d))
    (q : ∀ p rs H2 H3, H3 = remp H2 l → (∀ b o, l.lookup b = some o → H2 b = some (pinO b o)) → Same H1 H3 → H1 p = none → H3 p = some (.lst rs) → DpAll K H3 rs ds → Q (.ref p) H2) :
    spTries P w K mg base cG cM cN k [.ref a] (addp H1 l) Q L2.E0 := by
  obtain ⟨a', fs', R, e, h1, h2, h3, h4, h5⟩ := tries_read (Q := fun v H3 => ∃ p rs, v = .ref p ∧ Same H1 H3 ∧ H1 p = none ∧ H3 p = some (.lst rs) ∧ DpAll K H3 rs ds) nl ha hl ld td told (fun p rs H2 s2 np hp hr => ⟨p, rs, rfl, s2, np, hp, hr⟩)
  refine ⟨a', fs', R, e, h1, h2, h3, h4, fun p rs H' y1 y2 y3 y4 y5 => ?_⟩
  obtain ⟨pin, p', rs', e2, z1, z2, z3, z4⟩ := h5 p rs H' y1 y2 y3 y4 y5
  cases e2
  exact q p rs' H' _ rfl pin z1 z2 z3 z4
theorem try_read2 {f : Addr} {d : PyData} {k n : Nat} {l : Pins} {H1 : Hp} {Q : VK} (nl : ∀ b o, l.lookup b = some o → H1 b = none) (td : tupd n d = true) (told : ∀ H2, Same (addp H1 l) H2 → Told P w K mg base cG cM cN k f H2 (fun v H3 => Same H2 H3 ∧ Dp K H3 v d))
    (q : ∀ v H2 H3, H3 = remp H2 l → (∀ b o, l.lookup b = some o → H2 b = some (pinO b o)) → Same H1 H3 → Dp K H3 v d → Q v H2) : spTry P w K mg base cG cM cN k [.ref f] (addp H1 l) Q L2.E0 := by
  have fin : ∀ v H3, Same (addp H1 l) H3 ∧ Dp K H3 v d → Q v H3 := fun v H3 ⟨s, hv⟩ => by
    have pin : ∀ b o, l.lookup b = some o → H3 b = some (pinO b o) := fun b o z => s _ _ (addp_in z)
    refine q v H3 _ rfl pin (same_rem s nl) (tupd_tp (fun p2 xs z => ?_) td hv)
    have out : l.lookup p2 = none := by
      cases y : l.lookup p2 with
      | none => rfl
      | some o =>
        rcases z with z | ⟨o2, z⟩
        · rw [pin p2 o y] at z
          exact absurd (Option.some.inj z) pin_tup
        · rw [pin p2 o y] at z
          exact absurd (Option.some.inj z) pin_frz
    rcases z with z | ⟨o2, z⟩
    · exact .inl (by rw [remp_out out]; exact z)
    · exact .inr ⟨o2, by rw [remp_out out]; exact z⟩
  exact ⟨f, rfl, (told _ (.refl _)).imp (fun v H3 h t H4 s4 n4 h4 => fin _ _ (h t H4 s4 n4 h4)) (fun c dd H3 ⟨C, D, fs2, e, ws, e1, e2, e3, e4, e5, e6⟩ => ⟨C, D, fs2, e, ws, e1, e2, e3, e4, e5, fun t u H4 s4 n4 h4 h5 => fin _ _ (e6 t u H4 s4 n4 h4 h5)⟩)⟩
/-- the heap of a lambda's body -/
theorem rem_of {H1 H2 : Hp} {l : Pins} (nl : ∀ b o, l.lookup b = some o → H1 b = none) (s : Same (addp H1 l) H2) : (∀ b o, l.lookup b = some o → H2 b = some (pinO b o)) ∧ Same H1 (remp H2 l) := ⟨fun b o z => s _ _ (addp_in z), same_rem s nl⟩
theorem told_val {H2 H3 H4 : Hp} {l : Pins} {t : Addr} {v : V} {dv : PyData} (hp : ∀ b o, l.lookup b = some o → H2 b = some (pinO b o)) (s : Same (remp H2 l) H3) (hv : Dp K H3 v dv) (n3 : ∀ b o, l.lookup b = some o → H3 b = none) (s4 : Same (addp H3 l) H4) (ht : H4 t = some (.tup [.str "", v])) :
    Same H2 H4 ∧ Dp K H4 (.ref t) (.tuple [.str "", dv]) := ⟨(same_add s hp).trans s4, .tup (SqT.of ht) (.cons (.str _) (.cons (Dp_same ((add_same n3).trans s4) hv) .nil))⟩
theorem told_err {H2 : Hp} {l : Pins} {x : Str} {C fI : Addr} {e : Ek} {t : PyData} (M : ErrK K mg x C fI cG cM cN) (hp : ∀ b o, l.lookup b = some o → H2 b = some (pinO b o)) :
    RaisE K C e t (remp H2 l) (fun cls d H3 => (∀ b o, l.lookup b = some o → H3 b = none) → ∃ (C' D : Addr) (fs : List (Str × V)) (e' : Ek) (ws : List V), cls = .ref C' ∧ d = some D ∧ ErrIs K C' fs e' ws ∧ PySem.W.exmAny K (.ref C') [.ref cG, .ref cM, .ref cN] = some true ∧ (addp H3 l) D = some (.xd fs) ∧
      ∀ t' u H4, Same (addp H3 l) H4 → (addp H3 l) t' = none → H4 u = some (.tup ws) → H4 t' = some (.tup [.str e'.code, .ref u]) → Same H2 H4 ∧ Dp K H4 (.ref t') (.tuple [.str e.code, .tuple [t]])) := fun D fs v H3 s hD E hv n3 =>
  ⟨C, D, fs, e, [v], rfl, rfl, E, M.hx, add_same n3 _ _ hD, fun t' u H4 s4 _ hu ht => ⟨(same_add s hp).trans s4, .tup (SqT.of ht) (.cons (.str _) (.cons (.tup (SqT.of hu) (.cons (Dp_same ((add_same n3).trans s4) hv) .nil)) .nil))⟩⟩
end

/-! ### data whose lists stand at addresses of a kind -/
mutual
inductive DpN (K : PySem.W.Frag) (N : Addr → Prop) (H : Hp) : V → PyData → Prop
  | non : DpN K N H .non .none
  | bl (b : Bool) : DpN K N H (.bl b) (.bool b)
  | int (i : Int) : DpN K N H (.int i) (.int i)
  | str (s : Str) : DpN K N H (.str s) (.str s)
  | lst {a : Addr} {xs : List V} {ds : List PyData} : H a = some (.lst xs) → N a → DpNs K N H xs ds → DpN K N H (.ref a) (.list ds)
  | tup {a : Addr} {xs : List V} {ds : List PyData} : SqT K H a xs → DpNs K N H xs ds → DpN K N H (.ref a) (.tuple ds)
inductive DpNs (K : PySem.W.Frag) (N : Addr → Prop) (H : Hp) : List V → List PyData → Prop
  | nil : DpNs K N H [] []
  | cons {v : V} {d : PyData} {vs : List V} {ds : List PyData} : DpN K N H v d → DpNs K N H vs ds → DpNs K N H (v :: vs) (d :: ds)
end
section
variable {K : PySem.W.Frag} {N N' : Addr → Prop} {H H' : Hp}
theorem dpn_go (hL : ∀ a xs, N a → H a = some (.lst xs) → N' a ∧ H' a = some (.lst xs)) (hT : ∀ a xs, SqT K H a xs → SqT K H' a xs) {v : V} {d : PyData} (h : DpN K N H v d) : DpN K N' H' v d :=
  DpN.rec (motive_1 := fun v d _ => DpN K N' H' v d) (motive_2 := fun vs ds _ => DpNs K N' H' vs ds) .non .bl .int .str (fun q n _ ih => .lst (hL _ _ n q).2 (hL _ _ n q).1 ih) (fun q _ ih => .tup (hT _ _ q) ih) .nil (fun _ _ a b => .cons a b) h
theorem dpns_go (hL : ∀ a xs, N a → H a = some (.lst xs) → N' a ∧ H' a = some (.lst xs)) (hT : ∀ a xs, SqT K H a xs → SqT K H' a xs) {vs : List V} {ds : List PyData} (h : DpNs K N H vs ds) : DpNs K N' H' vs ds :=
  DpNs.rec (motive_1 := fun v d _ => DpN K N' H' v d) (motive_2 := fun vs ds _ => DpNs K N' H' vs ds) .non .bl .int .str (fun q n _ ih => .lst (hL _ _ n q).2 (hL _ _ n q).1 ih) (fun q _ ih => .tup (hT _ _ q) ih) .nil (fun _ _ a b => .cons a b) h
theorem dpn_dp {v : V} {d : PyData} (h : DpN K N H v d) : Dp K H v d :=
  DpN.rec (motive_1 := fun v d _ => Dp K H v d) (motive_2 := fun vs ds _ => DpAll K H vs ds) .non .bl .int .str (fun q _ _ ih => .lst (SqL.of q) ih) (fun q _ ih => .tup q ih) .nil (fun _ _ a b => .cons a b) h
theorem dpns_dp {vs : List V} {ds : List PyData} (h : DpNs K N H vs ds) : DpAll K H vs ds :=
  DpNs.rec (motive_1 := fun v d _ => Dp K H v d) (motive_2 := fun vs ds _ => DpAll K H vs ds) .non .bl .int .str (fun q _ _ ih => .lst (SqL.of q) ih) (fun q _ ih => .tup q ih) .nil (fun _ _ a b => .cons a b) h
theorem dpn_same (s : Same H H') {v : V} {d : PyData} (h : DpN K N H v d) : DpN K N H' v d := dpn_go (fun _ _ n q => ⟨n, s _ _ q⟩) (fun _ _ q => sameT s q) h
theorem dpns_same (s : Same H H') {vs : List V} {ds : List PyData} (h : DpNs K N H vs ds) : DpNs K N H' vs ds := dpns_go (fun _ _ n q => ⟨n, s _ _ q⟩) (fun _ _ q => sameT s q) h
theorem dpn_mono (m : ∀ a, N a → N' a) {v : V} {d : PyData} (h : DpN K N H v d) : DpN K N' H v d := dpn_go (fun _ _ n q => ⟨m _ n, q⟩) (fun _ _ q => q) h
theorem dpns_mono (m : ∀ a, N a → N' a) {vs : List V} {ds : List PyData} (h : DpNs K N H vs ds) : DpNs K N' H vs ds := dpns_go (fun _ _ n q => ⟨m _ n, q⟩) (fun _ _ q => q) h
theorem dpn_kp {c : Addr} {xs : List V} (k : Kp c H H') (hc : H c = some (.lst xs)) (m : ∀ a, N a → a ≠ c) {v : V} {d : PyData} (h : DpN K N H v d) : DpN K N H' v d := dpn_go (fun _ _ n q => ⟨n, k _ _ q (m _ n)⟩) (fun _ _ q => (fx_tp (.kpL k hc)).seq q) h
theorem dpns_kp {c : Addr} {xs : List V} (k : Kp c H H') (hc : H c = some (.lst xs)) (m : ∀ a, N a → a ≠ c) {vs : List V} {ds : List PyData} (h : DpNs K N H vs ds) : DpNs K N H' vs ds := dpns_go (fun _ _ n q => ⟨n, k _ _ q (m _ n)⟩) (fun _ _ q => (fx_tp (.kpL k hc)).seq q) h
theorem dpns_app : ∀ {xs ys : List V} {ds es : List PyData}, DpNs K N H xs ds → DpNs K N H ys es → DpNs K N H (xs ++ ys) (ds ++ es)
  | _, _, _, _, .nil, h => h
  | _, _, _, _, .cons a b, h => .cons a (dpns_app b h)
theorem dpns_len : ∀ {xs : List V} {ds : List PyData}, DpNs K N H xs ds → xs.length = ds.length
  | _, _, .nil => rfl
  | _, _, .cons _ b => by rw [List.length_cons, List.length_cons, dpns_len b]
end
/-- data without dicts, nested at most so deep -/
def lstd : Nat → PyData → Bool
  | 0, _ => false
  | n + 1, .tuple ds => decide (ds.length ≤ 1000) && ds.all (lstd n)
  | n + 1, .list ds => decide (ds.length ≤ 1000) && ds.all (lstd n)
  | _ + 1, .dict _ => false
  | _ + 1, _ => true
section
variable {P : Program} {w : World} {K : PySem.W.Frag} {mg : Str → Option Value} {base : Heap}
/-- a copy: its lists are new ones -/
def spCpL (K : PySem.W.Frag) (n : Nat) : Sp := fun vs H Q _ => ∃ (x : V) (d m : Nat) (t : PyData), vs = [x, .int (d : Int)] ∧ d < n ∧ m ≤ d ∧ Dp K H x t ∧ lstd m t = true ∧ ∀ v H', Same H H' → DpN K (fun a => H a = none) H' v t → Q v H'
theorem leaf_dpn {N : Addr → Prop} {H : Hp} {x : V} {t : PyData} (h : Dp K H x t) (h1 : ∀ ds, t ≠ .list ds) (h2 : ∀ ds, t ≠ .tuple ds) : DpN K N H x t := by
  cases h with
  | non => exact .non
  | bl b => exact .bl b
  | int i => exact .int i
  | str s => exact .str s
  | lst _ _ => exact absurd rfl (h1 _)
  | tup _ _ => exact absurd rfl (h2 _)
theorem ok_copiedL {n : Nat} {f : Addr} {fd : FuncData} (F : CopD K f fd) (M : CopM mg) (cU : C8.Cal P w K mg base n "copied" (spCpL K n) []) : FnOk P w K mg base CX0 (n + 1) f fd ["value", "depth"] (spCpL K (n + 1)) := by
  refine F.ok scCp (fun vs H Q E h => ?_) (fun cdv A outer s H vs Q E hr h => ?_)
  · obtain ⟨x, d, m, t, rfl, _⟩ := h
    rfl
  obtain ⟨x, d, m, t, rfl, hd, hmd, hx, hm, q⟩ := h
  have nd := scCp.nd
  refine ⟨_, pss_cons (ps_if (pt_cmpR op_eq (pv 1) pe_int (nomark _)) (pss_one (ps_ret (pv 0))) pss_nil)
    (pss_cons (ps_if (pt_val (pe_callB call_isi (by rfl) M.isi (by decide +kernel) (pa_cons (pv 0) (pa_cons (pe_bltn (v := .ty "list") (u := .type "list") (by rfl) M.list (by decide +kernel) rfl) pa_nil))))
      (pss_one (ps_ret (pe_lc (own := [("item", 2)]) (g := gName 2) (tt := tYes) (te := tCall (spCpL K n) [] C8.E0 (tCons (tVar 2) (tCons (tSub (tVar 1) (tC (.int 1))) tNil))) rfl nd (pi_list (pv 0))
        (blkOk_by (own := [("item", 2)]) (N := nCp) (sc := defScope s_copied) (by decide +kernel)) (fun _ _ _ _ _ => pg_name (i := 2) nd rfl (Or.inl rfl)) (fun _ _ _ _ _ => pts_nil) (fun _ _ _ _ _ => C8.pe_c cU hr (Nat.le_refl _) (by rfl) (pa_cons (pv 2) (pa_cons (pe_sub (pv 1) pe_int) pa_nil)))))) pss_nil)
    (pss_cons (ps_if (pt_val (pe_callB call_isi (by rfl) M.isi (by decide +kernel) (pa_cons (pv 0) (pa_cons (pe_bltn (v := .ty "tuple") (u := .type "tuple") (by rfl) M.tuple (by decide +kernel) rfl) pa_nil))))
      (pss_one (ps_ret (pe_callTy call_tuple_of (by rfl) M.tuple (by decide +kernel) (pa_cons (pe_lc (own := [("item", 2)]) (g := gName 2) (tt := tYes) (te := tCall (spCpL K n) [] C8.E0 (tCons (tVar 2) (tCons (tSub (tVar 1) (tC (.int 1))) tNil))) rfl nd (pi_tup (pv 0))
        (blkOk_by (own := [("item", 2)]) (N := nCp) (sc := defScope s_copied) (by decide +kernel)) (fun _ _ _ _ _ => pg_name (i := 2) nd rfl (Or.inl rfl)) (fun _ _ _ _ _ => pts_nil) (fun _ _ _ _ _ => C8.pe_c cU hr (Nat.le_refl _) (by rfl) (pa_cons (pv 2) (pa_cons (pe_sub (pv 1) pe_int) pa_nil)))) pa_nil)))) pss_nil)
    (pss_cons (ps_if (pt_val (pe_callB call_isi (by rfl) M.isi (by decide +kernel) (pa_cons (pv 0) (pa_cons (pe_bltn (v := .ty "dict") (u := .type "dict") (by rfl) M.dict (by decide +kernel) rfl) pa_nil)))) (pss_one ps_never) pss_nil)
    (pss_one (ps_ret (pv 0)))))), ?_⟩
  have m0 : m ≠ 0 := fun e => by
    subst e
    cases hm
  have h0 : d ≠ 0 := by omega
  refine ⟨_, rfl, rfl, _, rfl, ?_⟩
  refine iteE (decide_eq_false (fun z => h0 (by injection z with z; omega))) ?_
  refine ⟨_, rfl, x, .ty "list", _, .type "list", isD "list" t, rfl, .ty _, dp_tyx hx, isk kit_some.2.1, _, rfl, ?_⟩
  -- one item
  have item : ∀ {H1 : Hp} {D : Addr} {m' i : Nat} {xs zs : List V} {ds : List PyData} {v : V} {Q2 : V → Hp → Prop}, m ≤ m' + 1 → Same H H1 → H D = none → H1 D = some (.lst zs) → DpNs K (fun a => H a = none ∧ a ≠ D) H1 zs (ds.take i) → DpAll K H xs ds → (∀ e ∈ ds, lstd m' e = true) → m' + 1 ≤ d → ds.length ≤ 1000 → xs[i]? = some v →
      (∀ u H2 zs', Same H1 H2 → H2 D = some (.lst zs) → zs' = zs ++ [u] → zs.length ≤ 1000 → DpNs K (fun a => H a = none ∧ a ≠ D) (upd H2 D (.lst zs')) zs' (ds.take (i + 1)) → Q2 u H2) → spCpL K n [v, .int ((d : Int) - 1)] H1 Q2 C8.E0 := by
    intro H1 D m' i xs zs ds v Q2 hm' s1 nD hD hz hall hds hd' hl hi fin
    obtain ⟨di, e1, hv⟩ := dpall_get hall hi
    have hil := (List.getElem?_eq_some_iff.mp e1).1
    refine ⟨v, d - 1, m', di, ?_, by omega, by omega, Dp_same s1 hv, hds di (List.mem_of_getElem? e1), fun u H2 s2 hu => ?_⟩
    · have : ((d : Int) - 1) = ((d - 1 : Nat) : Int) := by omega
      rw [this]
    have lz := dpns_len hz
    refine fin u H2 _ s2 (s2 _ _ hD) rfl (by rw [lz, List.length_take]; omega) ?_
    have k : Kp D H2 (upd H2 D (.lst (zs ++ [u]))) := kp_upd
    rw [List.take_add_one, e1]
    refine dpns_app (dpns_kp k (s2 _ _ hD) (fun a n => n.2) (dpns_same s2 hz)) (.cons (dpn_kp k (s2 _ _ hD) (fun a n => n.2) (dpn_mono (fun a n => ⟨?_, fun e => ?_⟩) hu)) .nil)
    · cases z : H a with
      | none => rfl
      | some o =>
        rw [s1 _ _ z] at n
        cases n
    · subst e
      rw [hD] at n
      cases n
  match m, t, hm, hx with
  | m + 1, .dict _, hm, _ => cases hm
  | m + 1, .none, hm, hx => exact iteE (by simp only [isD, tyD]; decide +kernel) ⟨_, rfl, _, .ty "tuple", _, .type "tuple", isD "tuple" _, rfl, .ty _, dp_tyx hx, isk kit_some.2.2.1, _, rfl, iteE (by simp only [isD, tyD]; decide +kernel) ⟨_, rfl, _, .ty "dict", _, .type "dict", isD "dict" _, rfl, .ty _, dp_tyx hx, isk kit_some.1, _, rfl, iteE (by simp only [isD, tyD]; decide +kernel) ⟨_, rfl, q x H (.refl H) (leaf_dpn hx (fun _ e => by cases e) (fun _ e => by cases e))⟩⟩⟩
  | m + 1, .bool _, hm, hx => exact iteE (by simp only [isD, tyD]; decide +kernel) ⟨_, rfl, _, .ty "tuple", _, .type "tuple", isD "tuple" _, rfl, .ty _, dp_tyx hx, isk kit_some.2.2.1, _, rfl, iteE (by simp only [isD, tyD]; decide +kernel) ⟨_, rfl, _, .ty "dict", _, .type "dict", isD "dict" _, rfl, .ty _, dp_tyx hx, isk kit_some.1, _, rfl, iteE (by simp only [isD, tyD]; decide +kernel) ⟨_, rfl, q x H (.refl H) (leaf_dpn hx (fun _ e => by cases e) (fun _ e => by cases e))⟩⟩⟩
  | m + 1, .int _, hm, hx => exact iteE (by simp only [isD, tyD]; decide +kernel) ⟨_, rfl, _, .ty "tuple", _, .type "tuple", isD "tuple" _, rfl, .ty _, dp_tyx hx, isk kit_some.2.2.1, _, rfl, iteE (by simp only [isD, tyD]; decide +kernel) ⟨_, rfl, _, .ty "dict", _, .type "dict", isD "dict" _, rfl, .ty _, dp_tyx hx, isk kit_some.1, _, rfl, iteE (by simp only [isD, tyD]; decide +kernel) ⟨_, rfl, q x H (.refl H) (leaf_dpn hx (fun _ e => by cases e) (fun _ e => by cases e))⟩⟩⟩
  | m + 1, .str _, hm, hx => exact iteE (by simp only [isD, tyD]; decide +kernel) ⟨_, rfl, _, .ty "tuple", _, .type "tuple", isD "tuple" _, rfl, .ty _, dp_tyx hx, isk kit_some.2.2.1, _, rfl, iteE (by simp only [isD, tyD]; decide +kernel) ⟨_, rfl, _, .ty "dict", _, .type "dict", isD "dict" _, rfl, .ty _, dp_tyx hx, isk kit_some.1, _, rfl, iteE (by simp only [isD, tyD]; decide +kernel) ⟨_, rfl, q x H (.refl H) (leaf_dpn hx (fun _ e => by cases e) (fun _ e => by cases e))⟩⟩⟩
  | m + 1, .list ds, hm, hx =>
    refine iteU (by simp only [isD, tyD]; decide +kernel) ?_
    simp only [lstd, Bool.and_eq_true, List.all_eq_true, decide_eq_true_eq] at hm
    obtain ⟨hl, hds⟩ := hm
    cases hx with
    | @lst a xs _ hs hall =>
      have lx := dpall_len hall
      refine ⟨_, rfl, a, rfl, ⟨_, hs⟩, fun D nD => ?_⟩
      refine lc_list (xs := xs) (fun i H' => ∃ zs : List V, Same H H' ∧ H' D = some (.lst zs) ∧ DpNs K (fun a => H a = none ∧ a ≠ D) H' zs (ds.take i)) ⟨[], same_new nD _, upd_same, .nil⟩ (fun i H' _ ⟨_, s1, _⟩ => s1.seq hs) ?_ ?_
      · rintro i v H1 hi ⟨zs, s1, hD, hz⟩
        refine ⟨rfl, _, rfl, _, rfl, _, _, rfl, rfl, item (Nat.le_refl _) s1 nD hD hz hall hds hmd hl hi fun u H2 zs' s2 hD2 ez lz hz2 => ⟨zs, hD2, small1000 (by omega), zs', fun c o hc => ?_, ?_, ?_⟩⟩
        · subst ez
          rw [upd_ne (ne_of_none hc nD)]
          exact s2 _ _ (s1 _ _ hc)
        · subst ez
          exact upd_same
        · subst ez
          exact hz2
      · rintro H1 ⟨zs, s1, hD, hz⟩
        rw [lx, List.take_length] at hz
        exact q _ _ s1 (.lst hD nD (dpns_mono (fun a n => n.1) hz))
  | m + 1, .tuple ds, hm, hx =>
    refine iteE (by simp only [isD, tyD]; decide +kernel) ⟨_, rfl, _, .ty "tuple", _, .type "tuple", isD "tuple" _, rfl, .ty _, dp_tyx hx, isk kit_some.2.2.1, _, rfl, iteU (by simp only [isD, tyD]; decide +kernel) ?_⟩
    simp only [lstd, Bool.and_eq_true, List.all_eq_true, decide_eq_true_eq] at hm
    obtain ⟨hl, hds⟩ := hm
    cases hx with
    | @tup a xs _ hs hall =>
      have lx := dpall_len hall
      refine ⟨_, rfl, a, rfl, ⟨_, hs⟩, fun D nD => ?_⟩
      refine lc_tup (xs := xs) (fun i H' => ∃ zs : List V, Same H H' ∧ H' D = some (.lst zs) ∧ DpNs K (fun a => H a = none ∧ a ≠ D) H' zs (ds.take i)) ⟨[], same_new nD _, upd_same, .nil⟩ (fun i H' _ ⟨_, s1, _⟩ => sameT s1 hs) ?_ ?_
      · rintro i v H1 hi ⟨zs, s1, hD, hz⟩
        refine ⟨rfl, _, rfl, _, rfl, _, _, rfl, rfl, item (Nat.le_refl _) s1 nD hD hz hall hds hmd hl hi fun u H2 zs' s2 hD2 ez lz hz2 => ⟨zs, hD2, small1000 (by omega), zs', fun c o hc => ?_, ?_, ?_⟩⟩
        · subst ez
          rw [upd_ne (ne_of_none hc nD)]
          exact s2 _ _ (s1 _ _ hc)
        · subst ez
          exact upd_same
        · subst ez
          exact hz2
      · rintro H1 ⟨zs, s1, hD, hz⟩
        rw [lx, List.take_length] at hz
        refine ⟨D, zs, rfl, .inl ⟨SqL.of hD, fun l nl => ?_⟩⟩
        have g := same_new nl (.tup zs)
        exact q _ _ (s1.trans g) (.tup (SqT.of upd_same) (dpns_same g (dpns_mono (fun a n => n.1) hz)))
theorem no_cpL0 (vs : List V) (H : Hp) (Q : VK) (E : XK) : ¬ spCpL K 0 vs H Q E := by
  rintro ⟨x, d, m, t, _, h, _⟩
  omega
theorem copiedL_cal {f : Addr} {fd : FuncData} (F : CopD K f fd) (b : Binds K fd ["value", "depth"] []) (m : mg "copied" = some (.ref f)) (M : CopM mg) : ∀ n : Nat, C8.Cal P w K mg base n "copied" (spCpL K n) []
  | 0 => ⟨f, fd, _, [], ⟨fun vs H Q E h => absurd h (no_cpL0 vs H Q E), fun A outer s H args us vs Q E _ _ _ _ h => absurd h (no_cpL0 vs H Q E)⟩, m, F.kp, b, .nil⟩
  | n + 1 => ⟨f, fd, _, [], ok_copiedL F M (copiedL_cal F b m M n), m, F.kp, b, .nil⟩
end

end Ag

namespace Ag
open PySem PySem.Spec PyProof.Rows L2
/-! ### errors whose field may have lists -/
section
variable {P : Program} {w : World} {K : PySem.W.Frag} {mg : Str → Option Value} {base : Heap}
def spErrL (K : PySem.W.Frag) (C : Addr) (n : Str) (e : Ek) : Sp := fun vs H Q _ => ∃ (a : Addr) (x : V) (m : Nat) (t : PyData), vs = [.ref a, x] ∧ H a = some (exo a C none) ∧ Dp K H x t ∧ m ≤ 12 ∧ lstd m t = true ∧
  ∀ v dx H', DpN K (fun b => H b = none) H' v t → H' a = some (exo a C (some dx)) → H' dx = some (exd dx [("code", .str e.code), (n, v)]) → H dx = none → (∀ c o, H c = some o → c ≠ a → H' c = some o) → Q .non H'
def RaisL (K : PySem.W.Frag) (C : Addr) (e : Ek) (t : PyData) (H : Hp) (E : XK) : Prop := ∀ D fs v H', Same H H' → H' D = some (.xd fs) → ErrIs K C fs e [v] → DpN K (fun b => H b = none) H' v t → E (.ref C) (some D) H'
theorem raisL_same {C : Addr} {e : Ek} {t : PyData} {H H1 : Hp} {E : XK} (s : Same H H1) (r : RaisL K C e t H E) : RaisL K C e t H1 E := fun D fs v H' s2 h1 h2 h3 => r D fs v H' (s.trans s2) h1 h2 (dpn_mono (fun b n => by
  cases z : H b with
  | none => rfl
  | some o =>
    rw [s _ _ z] at n
    cases n) h3)
theorem lst_exo {a b C : Addr} {d : Option Addr} {xs : List V} : HO.lst xs ≠ exo a C d := fun z => by
  unfold exo at z
  cases z
theorem ok_InvalidFormulaL {C f cG cM cN : Addr} {fd : FuncData} (F : Fun K "__init__" "InvalidFormula.__init__" s_InvalidFormula_init f fd) (M : ErrK K mg "InvalidFormula" C f cG cM cN) (cC : C8.Cal P w K mg base 13 "copied" (spCpL K 13) [.int 12]) : FnOk P w K mg base CX0 14 f fd ["self", "value"] (spErrL K C "value" .formula) := by
  refine F.ok scInvalidFormula (fun vs H Q E h => ?_) (fun cdv A outer s H vs Q E hr h => ?_)
  · obtain ⟨a, x, m, t, rfl, _⟩ := h
    rfl
  obtain ⟨a, x, m, t, rfl, ha, hx, hm, ht, q⟩ := h
  refine ⟨_, pss_cons (ps_ost (pv 0) (C8.pe_c cC hr (by decide) (by rfl) (pa_cons (pv 1) pa_nil))) (pss_one (ps_ost (pv 0) pe_str)), ?_⟩
  refine ⟨_, rfl, x, 12, m, t, rfl, by decide, hm, hx, ht, fun v H1 s1 hv => ⟨_, rfl, a, C, rfl, M.o, M.e.nf _ (by decide), .inl ⟨s1 _ _ ha, fun dx nd ne => ?_⟩⟩⟩
  have nH : H dx = none := by
    cases z : H dx with
    | none => rfl
    | some o =>
      rw [s1 _ _ z] at nd
      cases nd
  refine ⟨_, rfl, a, C, rfl, M.o, M.e.nf _ (by decide), .inr ⟨dx, [("value", v)], upd_same, by rw [upd_ne ne, upd_same], (by show 1 ≤ 900; decide), ?_⟩⟩
  refine q v dx _ ?_ (by rw [upd_ne ne.symm, upd_same]) upd_same nH (fun c o hc nca => ?_)
  · refine dpn_go (fun b xs n hb => ⟨n, ?_⟩) (fun p xs z => ?_) hv
    · have n1 : b ≠ a := fun e => by
        subst e
        rw [ha] at n
        cases n
      have n2 : b ≠ dx := ne_of_none hb nd
      rw [upd_ne n2, upd_ne n1, upd_ne n2]
      exact hb
    · rcases z with z | z
      · have n1 : p ≠ a := fun e => by
          subst e
          rcases z with z | ⟨o, z⟩
          · exact at_ne (s1 _ _ ha) z exo_tup rfl
          · exact at_ne (s1 _ _ ha) z exo_frz rfl
        have n2 : p ≠ dx := fun e => by
          subst e
          rcases z with z | ⟨o, z⟩ <;> (rw [nd] at z; cases z)
        rcases z with z | ⟨o, z⟩
        · exact .inl (.inl (by rw [upd_ne n2, upd_ne n1, upd_ne n2]; exact z))
        · exact .inl (.inr ⟨o, by rw [upd_ne n2, upd_ne n1, upd_ne n2]; exact z⟩)
      · exact .inr z
  · have n2 : c ≠ dx := ne_of_none hc nH
    rw [upd_ne n2, upd_ne nca, upd_ne n2]
    exact s1 _ _ hc
theorem rais_mkL {x : Str} {C fI cG cM cN : Addr} {n : Str} {e : Ek} {H : Hp} {W : XK} {y : V} {m : Nat} {t : PyData} (M : ErrK K mg x C fI cG cM cN) (ea : e.attrs = [n]) (hn : n ∈ (["code", "value", "at", "line", "most", "path", "name", "user", "reason"] : List Str)) (nc : n ≠ "code") (hy : Dp K H y t) (hm : m ≤ 12) (ht : lstd m t = true) (q : RaisL K C e t H W) :
    [y].length ≤ 1000 ∧ ∀ a, H a = none → spErrL K C n e (.ref a :: ([y] ++ [])) (upd H a (exo a C none))
      (fun v H2 => v = .non ∧ ∃ (d : Addr) (fs : List (Str × V)), H2 a = some (exo a C (some d)) ∧ H2 d = some (exd d fs) ∧ H d = none ∧ W (.ref C) (some d) (upd (L2.del H2 a) d (.xd fs))) (fun _ _ _ => False) := by
  refine ⟨(by show 1 ≤ 1000; decide), fun a na => ?_⟩
  have sm := same_new na (exo a C none)
  refine ⟨a, y, m, t, rfl, upd_same, Dp_same sm hy, hm, ht, fun v dx H' hv ha hd nd keep => ⟨rfl, dx, _, ha, hd, upd_free nd, ?_⟩⟩
  have old : ∀ {c o}, H c = some o → c ≠ a ∧ c ≠ dx := fun {c o} z => ⟨ne_of_none z na, ne_of_none z (upd_free nd)⟩
  have g : Same H (upd (L2.del H' a) dx (.xd [("code", .str e.code), (n, v)])) := fun c o z => by
    obtain ⟨z1, z2⟩ := old z
    rw [upd_ne z2, L2.del_ne z1]
    exact keep c o (sm _ _ z) z1
  refine q dx _ v _ g upd_same ⟨M.e, rfl, ?_⟩ (dpn_go (fun b xs nb z => ⟨upd_free nb, ?_⟩) (fun p xs z => ?_) hv)
  · rw [ea]
    refine .cons ?_ .nil
    show ((("code" : Str), V.str e.code) :: [(n, v)]).lookup n = some v
    rw [L2.lookup_put, if_neg nc, L2.lookup_put, if_pos rfl]
  · have n1 : b ≠ a := fun e => by
      subst e
      rw [upd_same] at nb
      cases nb
    have n2 : b ≠ dx := fun e => by
      subst e
      rw [hd] at z
      have z2 := Option.some.inj z
      unfold exd at z2
      cases z2
    rw [upd_ne n2, L2.del_ne n1]
    exact z
  · rcases z with z | z
    · have n1 : p ≠ a := fun e => by
        subst e
        rcases z with z | ⟨o, z⟩
        · exact at_ne ha z exo_tup rfl
        · exact at_ne ha z exo_frz rfl
      have n2 : p ≠ dx := fun e => by
        subst e
        rcases z with z | ⟨o, z⟩
        · exact at_ne hd z exd_tup rfl
        · rw [hd] at z
          have z2 := Option.some.inj z
          unfold exd at z2
          cases z2
      rcases z with z | ⟨o, z⟩
      · exact .inl (.inl (by rw [upd_ne n2, L2.del_ne n1]; exact z))
      · exact .inl (.inr ⟨o, by rw [upd_ne n2, L2.del_ne n1]; exact z⟩)
    · exact .inr z
end

theorem txok {cs : List Nat} (h : cs.length ≤ 1000) : TxOk cs := ⟨by omega, fun n => by
  have h1 : ((cs.drop n).takeWhile isl).length ≤ (cs.drop n).length := (List.takeWhile_sublist _).length_le
  rw [List.length_drop] at h1
  omega⟩
section
variable {P : Program} {w : World} {K : PySem.W.Frag} {mg : Str → Option Value} {base : Heap} {C fI cG cM cN : Addr} {fdI : FuncData}
/-! ### read_formula of data of any kind -/
theorem raisL_of {C : Addr} {e : Ek} {t : PyData} {H : Hp} {E : XK} (r : RaisE K C e t H E) : RaisL K C e t H E := fun D fs v H' s h1 h2 h3 => r D fs v H' s h1 h2 (dpn_dp h3)
/-- what is read from a value of any kind -/
def rfD (t : PyData) : Option Fm := match t with
  | .str s => prW 10 false s.cps.toList
  | _ => none
def txD (t : PyData) : Prop := match t with
  | .str s => TxOk s.cps.toList
  | _ => True
def spRFD (K : PySem.W.Frag) (C : Addr) : Sp := fun vs H Q E => ∃ (x : V) (m : Nat) (t : PyData), vs = [x] ∧ Dp K H x t ∧ m ≤ 12 ∧ lstd m t = true ∧ txD t ∧ match rfD t with
  | none => RaisL K C .formula t H E
  | some u => ∀ v H', Fr K H' v u → Same H H' → Q v H'
theorem scRF : FnScope ["text", "formula"] ["text"] (defScope s_read_formula) := ⟨rfl, rfl, rfl, by decide +kernel, rfl, by decide +kernel, by decide +kernel⟩
theorem ok_rfD {f : Addr} {fd : FuncData} (F : Fun K "read_formula" "read_formula" s_read_formula f fd) (cP : C8.Cal P w K mg base 31 "parsed" (spParsedD K) []) (vF : ∃ t, mg "FORMULA_DEPTH" = some (.int 10 t))
    (M : ErrK K mg "InvalidFormula" C fI cG cM cN) (GI : FnOk P w K mg base CX0 14 fI fdI ["self", "value"] (spErrL K C "value" .formula)) (bI : Binds K fdI ["self", "value"] []) : FnOk P w K mg base (L2.CX P w) 32 f fd ["text"] (spRFD K C) := by
  refine F.okX scRF (fun vs H Q E h => ?_) (fun cdv A outer s H vs Q E hr h => ?_)
  · obtain ⟨x, m, t, rfl, _⟩ := h
    rfl
  obtain ⟨x, m, t, rfl, hx, hm12, hm, hc, q⟩ := h
  obtain ⟨tF, mF⟩ := vF
  have nd := scRF.nd
  refine ⟨_, pss_cons (ps_set (i := 1) nd rfl (.inl rfl) (C8.pe_c cP hr (by decide) (by rfl) (pa_cons (pv 0) (pa_cons (pe_glob (v := .int 10) (by rfl) mF ⟨_, rfl⟩) (pa_cons pe_bl pa_nil)))))
    (pss_cons (ps_if (pt_cmp (pc_isN (pv 1)) rfl) (pss_one (ps_raise rfl (L2.takes_of rfl rfl rfl rfl) (pmk_oex M.o M.iC M.tI GI (hr.mono (by decide)) bI .nil pass0 (by rfl) M.m (pa_cons (pv 0) pa_nil)))) pss_nil)
    (pss_one (ps_ret (pv 1)))), ?_⟩
  have bad : ∀ H1, Same H H1 → rfD t = none → tSeq (tIfS (tB (tIsN (tVar 1))) (fun (_ : Ends) σ H => (tMkO C (spErrL K C "value" .formula) [] (tCons (tVar 0) tNil)) σ H fun cls d H' => E cls d H') tNext) (tRet (tVar 1)) { nx := fun _ H' => Q .non H', rt := Q } [some x, some .non] H1 := fun H1 s1 e => by
    rw [e] at q
    refine ⟨_, rfl, _, rfl, iteU (decide_eq_true rfl) ⟨_, rfl, ?_⟩⟩
    exact rais_mkL (m := m) M rfl (by decide) (by decide) (Dp_same s1 hx) hm12 hm (raisL_same s1 q)
  refine ⟨_, rfl, x, 10, false, rfl, ?_⟩
  cases t with
  | str s =>
    cases hx
    refine .inl ⟨s.cps.toList, by rw [show SX.S s.cps.toList = s from TL.ext_tl rfl], hc, by decide, fun r H1 pr s1 => ?_⟩
    cases e : prW 10 false s.cps.toList with
    | none =>
      rw [e] at pr
      have pr2 : r = .non := pr
      subst pr2
      exact bad H1 s1 e
    | some u =>
      rw [e] at pr
      have q2 : ∀ v H', Fr K H' v u → Same H H' → Q v H' := by
        have q1 := q
        unfold rfD at q1
        simp only [] at q1
        rw [e] at q1
        exact q1
      exact ⟨_, rfl, _, rfl, iteE (fr_ne pr) ⟨_, rfl, q2 r H1 pr s1⟩⟩
  | none => exact .inr ⟨⟨_, dp_tyx hx, kit_ty (by simp only [tyD]; decide +kernel)⟩, bad H (.refl H) rfl⟩
  | bool _ => exact .inr ⟨⟨_, dp_tyx hx, kit_ty (by simp only [tyD]; decide +kernel)⟩, bad H (.refl H) rfl⟩
  | int _ => exact .inr ⟨⟨_, dp_tyx hx, kit_ty (by simp only [tyD]; decide +kernel)⟩, bad H (.refl H) rfl⟩
  | list _ => exact .inr ⟨⟨_, dp_tyx hx, kit_ty (by simp only [tyD]; decide +kernel)⟩, bad H (.refl H) rfl⟩
  | tuple _ => exact .inr ⟨⟨_, dp_tyx hx, kit_ty (by simp only [tyD]; decide +kernel)⟩, bad H (.refl H) rfl⟩
  | dict _ => exact .inr ⟨⟨_, dp_tyx hx, kit_ty (by simp only [tyD]; decide +kernel)⟩, bad H (.refl H) rfl⟩
end

end Ag

namespace Ag
open PySem PySem.Spec PyProof.Rows L2
theorem tp_rem {l : Pins} {H : Hp} (pin : ∀ b o, l.lookup b = some o → H b = some (pinO b o)) : Tp H (remp H l) := fun p2 xs z => by
  have out : l.lookup p2 = none := by
    cases y : l.lookup p2 with
    | none => rfl
    | some o =>
      rcases z with z | ⟨o2, z⟩
      · rw [pin p2 o y] at z
        exact absurd (Option.some.inj z) pin_tup
      · rw [pin p2 o y] at z
        exact absurd (Option.some.inj z) pin_frz
  rcases z with z | ⟨o2, z⟩
  · exact .inl (by rw [remp_out out]; exact z)
  · exact .inr ⟨o2, by rw [remp_out out]; exact z⟩
/-! ### _law_tries, where the answers may have lists -/
section
variable {P : Program} {w : World} {K : PySem.W.Frag} {mg : Str → Option Value} {base : Heap} {CC cG cM cN : Addr}
def spTriesL (P : Program) (w : World) (K : PySem.W.Frag) (mg : Str → Option Value) (base : Heap) (cG cM cN : Addr) (k : Nat) : Sp := fun vs H Q _ => ∃ (a : Addr) (fs : List Addr) (R : Addr → Nat → V → Hp → Prop), vs = [.ref a] ∧ SqL K H a (fs.map V.ref) ∧ fs.length ≤ 100 ∧
  (∀ c i v H1 H2, R c i v H1 → Same H1 H2 → R c i v H2) ∧ (∀ c i v xs H1 H2, R c i v H1 → H1 c = some (.lst xs) → Kp c H1 H2 → R c i v H2) ∧
  (∀ i f, fs[i]? = some f → ∀ H1, Same H H1 → Told P w K mg base cG cM cN k f H1 (fun v H2 => Same H1 H2 ∧ ∀ c xs, H1 c = some (.lst xs) → R c i v H2)) ∧ ∀ p rs H', Same H H' → H p = none → H' p = some (.lst rs) → rs.length = fs.length → (∀ i v, rs[i]? = some v → R p i v H') → Q (.ref p) H'
/-- the i-th answer is the i-th of ds, and its lists are not the one at c -/
def R11 (K : PySem.W.Frag) (ds : List PyData) (c : Addr) (i : Nat) (v : V) (H : Hp) : Prop := ∀ d, ds[i]? = some d → DpN K (fun a => a ≠ c) H v d
theorem tries_readL {a : Addr} {fs : List Addr} {ds : List PyData} {k : Nat} {l : Pins} {H1 : Hp} {Q : VK} (nl : ∀ b o, l.lookup b = some o → H1 b = none) (ha : SqL K H1 a (fs.map V.ref)) (hl : fs.length ≤ 100) (ld : ds.length = fs.length)
    (told : ∀ (i : Nat) (f : Addr), fs[i]? = some f → ∀ H2, Same (addp H1 l) H2 → Told P w K mg base cG cM cN k f H2 (fun v H3 => Same H2 H3 ∧ ∀ c xs, H2 c = some (.lst xs) → R11 K ds c i v H3))
    (q : ∀ p rs H2 H3, H3 = remp H2 l → (∀ b o, l.lookup b = some o → H2 b = some (pinO b o)) → Same H1 H3 → H1 p = none → H3 p = some (.lst rs) → DpNs K (fun a => a ≠ p) H3 rs ds → Q (.ref p) H2) :
    spTriesL P w K mg base cG cM cN k [.ref a] (addp H1 l) Q L2.E0 := by
  refine ⟨a, fs, R11 K ds, rfl, (add_same nl).seq ha, hl, fun c i v H2 H3 r s d hd => dpn_same s (r d hd), fun c i v xs H2 H3 r hc kp d hd => dpn_kp kp hc (fun _ n => n) (r d hd), told, fun p rs H2 s2 np hp lr hr => ?_⟩
  have pin : ∀ b o, l.lookup b = some o → H2 b = some (pinO b o) := fun b o z => s2 _ _ (addp_in z)
  have np2 := addp_none np
  have mv : ∀ {v d}, DpN K (fun a => a ≠ p) H2 v d → DpN K (fun a => a ≠ p) (remp H2 l) v d := fun h => dpn_go (fun b xs n hb => ⟨n, by
    have out : l.lookup b = none := by
      cases y : l.lookup b with
      | none => rfl
      | some o =>
        rw [pin b o y] at hb
        exact absurd (Option.some.inj hb) pin_lst
    rw [remp_out out]
    exact hb⟩) (fun b xs z => (tp_rem pin).seq z) h
  have ix : ∀ {rs : List V} {ds : List PyData}, rs.length = ds.length → (∀ (i : Nat) (v : V) (d : PyData), rs[i]? = some v → ds[i]? = some d → DpN K (fun a => a ≠ p) (remp H2 l) v d) → DpNs K (fun a => a ≠ p) (remp H2 l) rs ds := by
    intro rs
    induction rs with
    | nil =>
      intro ds e h
      cases ds with
      | nil => exact .nil
      | cons _ _ => cases e
    | cons v r ih =>
      intro ds e h
      cases ds with
      | nil => cases e
      | cons d t => exact .cons (h 0 v d rfl rfl) (ih (by simpa using e) fun i v d h1 h2 => h (i + 1) v d (by simpa using h1) (by simpa using h2))
  exact q p rs H2 _ rfl pin (same_rem s2 nl) np2.2 (by rw [remp_out np2.1]; exact hp) (ix (by rw [lr, ld]) fun i v d h1 h2 => mv (hr i v h1 d h2))
theorem told_errL {H2 : Hp} {l : Pins} {x : Str} {C fI : Addr} {e : Ek} {t : PyData} {ds : List PyData} {i : Nat} (M : ErrK K mg x C fI cG cM cN) (hp : ∀ b o, l.lookup b = some o → H2 b = some (pinO b o)) (hi : ds[i]? = some (.tuple [.str e.code, .tuple [t]])) :
    RaisL K C e t (remp H2 l) (fun cls d H3 => (∀ b o, l.lookup b = some o → H3 b = none) → ∃ (C' D : Addr) (fs : List (Str × V)) (e' : Ek) (ws : List V), cls = .ref C' ∧ d = some D ∧ ErrIs K C' fs e' ws ∧ PySem.W.exmAny K (.ref C') [.ref cG, .ref cM, .ref cN] = some true ∧ (addp H3 l) D = some (.xd fs) ∧
      ∀ t' u H4, Same (addp H3 l) H4 → (addp H3 l) t' = none → H4 u = some (.tup ws) → H4 t' = some (.tup [.str e'.code, .ref u]) → Same H2 H4 ∧ ∀ c xs, H2 c = some (.lst xs) → R11 K ds c i (.ref t') H4) := fun D fs v H3 s hD E hv n3 => by
  refine ⟨C, D, fs, e, [v], rfl, rfl, E, M.hx, add_same n3 _ _ hD, fun t' u H4 s4 _ hu ht => ⟨(same_add s hp).trans s4, fun c xs hc d hd => ?_⟩⟩
  rw [hi] at hd
  cases hd
  have out : l.lookup c = none := by
    cases y : l.lookup c with
    | none => rfl
    | some o =>
      rw [hp c o y] at hc
      exact absurd (Option.some.inj hc) pin_lst
  have h4 := dpn_same ((add_same n3).trans s4) (dpn_mono (N' := fun a => a ≠ c) (fun b n e => by
    subst e
    rw [remp_out out, hc] at n
    cases n) hv)
  exact .tup (SqT.of ht) (.cons (.str _) (.cons (.tup (SqT.of hu) (.cons h4 .nil)) .nil))
/-- data without lists has none at any address -/
theorem dpn_tup {N : Addr → Prop} {H : Hp} : ∀ {n : Nat} {d : PyData} {v : V}, tupd n d = true → Dp K H v d → DpN K N H v d
  | 0, _, _, e, _ => by cases e
  | _ + 1, _, _, _, .non => .non
  | _ + 1, _, _, _, .bl b => .bl b
  | _ + 1, _, _, _, .int i => .int i
  | _ + 1, _, _, _, .str x => .str x
  | _ + 1, _, _, e, .lst _ _ => by cases e
  | n + 1, .tuple ds, _, e, .tup q r => by
    simp only [tupd, Bool.and_eq_true, List.all_eq_true] at e
    have all : ∀ {xs : List V} {es : List PyData}, (∀ d ∈ es, tupd n d = true) → DpAll K H xs es → DpNs K N H xs es := by
      intro xs es he ha
      induction es generalizing xs with
      | nil =>
        cases ha
        exact .nil
      | cons d r ih =>
        cases ha with
        | cons h1 h2 => exact .cons (dpn_tup (he d (by simp)) h1) (ih (fun d hd => he d (by simp [hd])) h2)
    exact .tup q (all e.2 r)
/-- from an error of data without lists -/
theorem told_errT {H2 : Hp} {l : Pins} {x : Str} {C fI : Addr} {e : Ek} {t : PyData} {ds : List PyData} {i n : Nat} (M : ErrK K mg x C fI cG cM cN) (hp : ∀ b o, l.lookup b = some o → H2 b = some (pinO b o)) (hi : ds[i]? = some (.tuple [.str e.code, .tuple [t]])) (ht : tupd n t = true) :
    RaisE K C e t (remp H2 l) (fun cls d H3 => (∀ b o, l.lookup b = some o → H3 b = none) → ∃ (C' D : Addr) (fs : List (Str × V)) (e' : Ek) (ws : List V), cls = .ref C' ∧ d = some D ∧ ErrIs K C' fs e' ws ∧ PySem.W.exmAny K (.ref C') [.ref cG, .ref cM, .ref cN] = some true ∧ (addp H3 l) D = some (.xd fs) ∧
      ∀ t' u H4, Same (addp H3 l) H4 → (addp H3 l) t' = none → H4 u = some (.tup ws) → H4 t' = some (.tup [.str e'.code, .ref u]) → Same H2 H4 ∧ ∀ c xs, H2 c = some (.lst xs) → R11 K ds c i (.ref t') H4) := fun D fs v H3 s hD E hv n3 =>
  told_errL M hp hi D fs v H3 s hD E (dpn_tup ht hv) n3
theorem told_valT {H2 H3 H4 : Hp} {l : Pins} {t : Addr} {v : V} {dv : PyData} {ds : List PyData} {i n : Nat} (hi : ds[i]? = some (.tuple [.str "", dv])) (hn : tupd n dv = true) (hp : ∀ b o, l.lookup b = some o → H2 b = some (pinO b o)) (s : Same (remp H2 l) H3) (hv : Dp K H3 v dv) (n3 : ∀ b o, l.lookup b = some o → H3 b = none)
    (s4 : Same (addp H3 l) H4) (ht : H4 t = some (.tup [.str "", v])) : Same H2 H4 ∧ ∀ c xs, H2 c = some (.lst xs) → R11 K ds c i (.ref t) H4 := by
  refine ⟨(same_add s hp).trans s4, fun c xs hc d hd => ?_⟩
  rw [hi] at hd
  cases hd
  exact .tup (SqT.of ht) (.cons (.str _) (.cons (dpn_tup hn (Dp_same ((add_same n3).trans s4) hv)) .nil))
end

/-! ### the def that hands out a lambda -/
structure Dn (mg : Str → Option Value) (K : PySem.W.Frag) (x : Str) (f : Addr) : Prop where
  m : mg x = some (.ref f)
  k : PySem.W.keepIn K (.ref f) = true
theorem rem_add {H : Hp} {l : Pins} (nl : ∀ b o, l.lookup b = some o → H b = none) : remp (addp H l) l = H := funext fun b => by
  cases z : l.lookup b with
  | some o => rw [remp_in z, nl b o z]
  | none => rw [remp_out z, addp_out z]
section
variable {P : Program} {w : World} {K : PySem.W.Frag} {mg : Str → Option Value} {base : Heap} {C : Addr}
abbrev qRd : Str := (("_law_reader" : Str) ++ ".<locals>.") ++ "<lambda>"
def spRd (P : Program) (w : World) (K : PySem.W.Frag) (mg : Str → Option Value) (base : Heap) (C T2 : Addr) : Sp := fun vs H Q _ => ∃ (x : V), vs = [x] ∧ LamX.TabS H T2 qRd ∧
  ∀ (f : Addr) (l : Pins) (H' : Hp), (∀ b o, l.lookup b = some o → H' b = some (pinO b o)) → Kp T2 H H' → Kp T2 H (remp H' l) → LamX.TabS H' T2 qRd → H f = none →
    (∀ (Qf : VK) (Ef : XK), spRFD K C [x] (remp H' l) (fun v H2 => (∀ b o, l.lookup b = some o → H2 b = none) → Qf v (addp H2 l)) (fun cls d H2 => (∀ b o, l.lookup b = some o → H2 b = none) → Ef cls d (addp H2 l)) → Asks P w K mg base 33 f H' Qf Ef) → Q (.ref f) H'
theorem scReader : FnScope ["_law_text_z"] ["_law_text_z"] (defScope s_law_reader) := ⟨rfl, rfl, rfl, by decide +kernel, rfl, by decide +kernel, by decide +kernel⟩
theorem ok_reader {f c T2 fR : Addr} {fd fdR : FuncData} (F : Fun K "_law_reader" "_law_reader" s_law_reader f fd) (hc : fd.code = .ref c) (TB : LamX.TabB base mg c T2)
    (GR : FnOk P w K mg base (L2.CX P w) 32 fR fdR ["text"] (spRFD K C)) (dR : Dn mg K "read_formula" fR) (bR : Binds K fdR ["text"] []) : FnOk P w K mg base L2.CX0 1 f fd ["_law_text_z"] (spRd P w K mg base C T2) := by
  refine ok_keep (N := ["_law_text_z"]) F hc rfl scReader (fun vs H Q E h => ?_) (fun A outer s H vs Q E hr h => ?_)
  · obtain ⟨x, rfl, _⟩ := h
    rfl
  obtain ⟨x, rfl, hT, q⟩ := h
  refine ⟨_, pe_lamA TB rfl (by show freeB (defScope s_law_reader) _ = true; decide +kernel), ?_⟩
  refine ⟨hT, fun f0 H1 k1 T1 n0 La l okX PP nl => ?_⟩
  have s1 := add_same nl
  refine q f0 l _ (fun b o z => addp_in z) (k1.trans (.of s1)) (by rw [rem_add nl]; exact k1) (T1.ext s1) n0 (fun Qf Ef hq => ?_)
  refine ask_of (k := 32) (N := ["_law_text_z"]) (σ := [some x]) (ps := []) (lamSc_by (by decide +kernel)) (La.fx (.of s1)) (.inl ⟨rfl, rfl, fun _ _ _ _ => rfl⟩)
    (cells_in okX PP (free_by (by show freeB (defScope s_law_reader) _ = true; decide +kernel)) (fun i y v h1 h2 => ⟨i, h1, h2⟩)) (by decide +kernel) (fun b o z => addp_in z) rfl
    (fun A outer s c' room => ⟨_, pe_call GR (room.mono (by decide)) (by rfl) dR.m dR.k bR .nil (L2.passes_call (L2.takes_of rfl rfl rfl rfl) (fun _ _ _ _ h => h)) (pa_cons (pv 0) pa_nil), ?_⟩)
  exact ⟨_, rfl, hq⟩
end

end Ag

namespace Ag
open PySem PySem.Spec PyProof.Rows L2
theorem txt_le {ws hs : List (List Nat)} (hw : ∀ w ∈ ws, w.length ≤ 6) (hh : ∀ c ∈ hs, c.length ≤ 6) : ∀ {n : Nat} {t : Fm}, okF ws hs n t → (txt t).length + 5 ≤ 16 * 2 ^ n ∧ dep t ≤ n
  | 0, _, h => h.elim
  | n + 1, .fls, _ => by
    refine ⟨?_, by show 1 ≤ n + 1; omega⟩
    show 1 + 5 ≤ 16 * 2 ^ (n + 1)
    have := Nat.one_le_two_pow (n := n + 1)
    omega
  | n + 1, .atom w, h => by
    refine ⟨?_, by show 1 ≤ n + 1; omega⟩
    show w.length + 5 ≤ 16 * 2 ^ (n + 1)
    have := Nat.one_le_two_pow (n := n + 1)
    have := hw w h
    omega
  | n + 1, .hole c, h => by
    refine ⟨?_, by show 1 ≤ n + 1; omega⟩
    show (63 :: c).length + 5 ≤ 16 * 2 ^ (n + 1)
    have := Nat.one_le_two_pow (n := n + 1)
    have := hh c h
    rw [List.length_cons]
    omega
  | n + 1, .bin k a b, h => by
    obtain ⟨a1, a2⟩ := txt_le hw hh h.1
    obtain ⟨b1, b2⟩ := txt_le hw hh h.2
    refine ⟨?_, by show max (dep a) (dep b) + 1 ≤ n + 1; omega⟩
    rw [Nat.pow_succ]
    simp only [txt, List.length_cons, List.length_append, List.length_nil]
    omega
theorem nm_chars {w : List Nat} (h : isNm w = true) : 1 ≤ w.length ∧ w.length ≤ 6 ∧ ∀ c ∈ w, 97 ≤ c ∧ c < 123 := by
  unfold isNm at h
  rw [Bool.and_eq_true, Bool.and_eq_true, decide_eq_true_eq, decide_eq_true_eq, List.all_eq_true] at h
  refine ⟨h.1.1, h.1.2, fun c hc => ?_⟩
  have := h.2 c hc
  rw [Bool.and_eq_true, decide_eq_true_eq, decide_eq_true_eq] at this
  exact this
theorem isB_lay : ∀ {d : Nat} {h : Bool} {t : Fm}, isB d h t = true → PyData.canLay0 t.dat = true ∧ PyData.depth t.dat ≤ d
  | 0, _, _, e => by cases e
  | n + 1, _, .fls, _ => ⟨by decide +kernel, by show max 0 0 + 1 ≤ n + 1; omega⟩
  | n + 1, _, .atom w, e => by
    refine ⟨?_, by show max 0 (max 0 0) + 1 ≤ n + 1; omega⟩
    show (PyData.canLay0 (.str "atom") && (PyData.canLay0 (.str (SX.S w)) && true)) = true
    have lw : Low w := fun c hc => (nm_chars (w := w) e).2.2 c hc
    rw [show PyData.canLay0 (.str (SX.S w)) = true from low_lay lw]
    decide +kernel
  | n + 1, h, .hole c, e => by
    refine ⟨?_, by show max 0 (max 0 0) + 1 ≤ n + 1; omega⟩
    show (PyData.canLay0 (.str "hole") && (PyData.canLay0 (.str (SX.S c)) && true)) = true
    have lw : Low c := fun x hx => by
      unfold isB at e
      rw [Bool.and_eq_true] at e
      have e2 := e.2
      unfold isLet at e2
      rw [Bool.and_eq_true, List.all_eq_true] at e2
      have := e2.2 x hx
      rw [Bool.and_eq_true, decide_eq_true_eq, decide_eq_true_eq] at this
      exact this
    rw [show PyData.canLay0 (.str (SX.S c)) = true from low_lay lw]
    decide +kernel
  | n + 1, h, .bin k a b, e => by
    unfold isB at e
    rw [Bool.and_eq_true] at e
    obtain ⟨a1, a2⟩ := isB_lay e.1
    obtain ⟨b1, b2⟩ := isB_lay e.2
    refine ⟨?_, ?_⟩
    · show (PyData.canLay0 (.str (kd k)) && (PyData.canLay0 a.dat && (PyData.canLay0 b.dat && true))) = true
      rw [a1, b1, show PyData.canLay0 (.str (kd k)) = true from kd_lay k]
      rfl
    · show max 0 (max (PyData.depth a.dat) (max (PyData.depth b.dat) 0)) + 1 ≤ n + 1
      omega
theorem dpAll_kpT {K : PySem.W.Frag} {H H' : Hp} {T : Addr} {ps : Array Value} {xs : List V} {ds : List PyData} (h : DpAll K H xs ds) (k : Kp T H H') (hT : H T = some (.tbl ps)) : DpAll K H' xs ds := by
  have rd : ∀ a ys, SqL K H a ys → SqL K H' a ys := fun a ys z => by
    rcases z with (z | ⟨o, z⟩) | z
    · exact .inl (.inl (k _ _ z (ne_of z hT (fun e => by cases e))))
    · exact .inl (.inr ⟨o, k _ _ z (ne_of z hT (fun e => by cases e))⟩)
    · exact .inr z
  have rt : ∀ a ys, SqT K H a ys → SqT K H' a ys := fun a ys z => by
    rcases z with (z | ⟨o, z⟩) | z
    · exact .inl (.inl (k _ _ z (ne_of z hT (fun e => by cases e))))
    · exact .inl (.inr ⟨o, k _ _ z (ne_of z hT (fun e => by cases e))⟩)
    · exact .inr z
  exact DpAll.rec (motive_1 := fun v d _ => Dp K H' v d) (motive_2 := fun vs ds _ => DpAll K H' vs ds) .non .bl .int .str (fun q _ ih => .lst (rd _ _ q) ih) (fun q _ ih => .tup (rt _ _ q) ih) .nil (fun _ _ a b => .cons a b) h
theorem bag_kpT {H H' : Hp} {b l T : Addr} {ps : Array Value} (B : Bag H b l) (k : Kp T H H') (hT : H T = some (.tbl ps)) : Bag H' b l := by
  obtain ⟨ns, at', big, seed, cnt, h1, h2, r⟩ := B
  exact ⟨ns, at', big, seed, cnt, k _ _ h1 (ne_of h1 hT (fun z => by cases z)), k _ _ h2 (ne_of h2 hT (fun z => by cases z)), r⟩
theorem tabS_bag {H H' : Hp} {b l T : Addr} {q : Str} (t : LamX.TabS H T q) (k : Kp b H H') (B : Bag H b l) : LamX.TabS H' T q := by
  obtain ⟨_, _, _, _, _, z, _⟩ := B
  exact tabS_kp t k z
theorem bag_tp {H H' : Hp} {b l : Addr} (B : Bag H b l) (k : Kp b H H') : Tp H H' := by
  obtain ⟨_, _, _, _, _, z, _⟩ := B
  exact fx_tp (.kpL k z)
theorem odk_up : ∀ {n m : Nat} {d : PyData}, n ≤ m → odk n d = true → odk m d = true := by
  intro n
  induction n with
  | zero =>
    intro m d _ e
    cases e
  | succ n ih =>
    intro m d h e
    obtain ⟨m', rfl⟩ : ∃ m', m = m' + 1 := ⟨m - 1, by omega⟩
    cases d with
    | tuple ds =>
      simp only [odk, Bool.and_eq_true, List.all_eq_true] at e ⊢
      exact ⟨e.1, fun d hd => ih (by omega) (e.2 d hd)⟩
    | list ds =>
      simp only [odk, Bool.and_eq_true, List.all_eq_true] at e ⊢
      exact ⟨e.1, fun d hd => ih (by omega) (e.2 d hd)⟩
    | dict _ => cases e
    | str _ => exact e
    | none => rfl
    | bool _ => rfl
    | int _ => rfl
theorem odk_S {n : Nat} {w : List Nat} (h : w.length ≤ 1000) : odk (n + 1) (.str (SX.S w)) = true := decide_eq_true h
theorem odk_kd (n : Nat) (k : Fin 3) : odk (n + 1) (.str (kd k)) = true := by
  show decide ((kd k).cps.toList.length ≤ 1000) = true
  revert k
  decide +kernel
theorem odk_ok {ws hs : List (List Nat)} (hw : ∀ w ∈ ws, w.length ≤ 1000) (hh : ∀ c ∈ hs, c.length ≤ 1000) : ∀ {n : Nat} {t : Fm}, okF ws hs n t → odk (n + 1) t.dat = true
  | 0, _, h => h.elim
  | n + 1, .fls, _ => by
    show (decide (1 ≤ 1000) && (odk (n + 1) (.str "false") && true)) = true
    have : odk (n + 1) (.str "false") = true := by
      show decide (_ ≤ 1000) = true
      decide +kernel
    rw [this]
    rfl
  | n + 1, .atom w, h => by
    show (decide (2 ≤ 1000) && (odk (n + 1) (.str "atom") && (odk (n + 1) (.str (SX.S w)) && true))) = true
    have : odk (n + 1) (.str "atom") = true := by
      show decide (_ ≤ 1000) = true
      decide +kernel
    rw [this, odk_S (hw w h)]
    rfl
  | n + 1, .hole w, h => by
    show (decide (2 ≤ 1000) && (odk (n + 1) (.str "hole") && (odk (n + 1) (.str (SX.S w)) && true))) = true
    have : odk (n + 1) (.str "hole") = true := by
      show decide (_ ≤ 1000) = true
      decide +kernel
    rw [this, odk_S (hh w h)]
    rfl
  | n + 1, .bin k a b, h => by
    show (decide (3 ≤ 1000) && (odk (n + 1) (.str (kd k)) && (odk (n + 1) a.dat && (odk (n + 1) b.dat && true)))) = true
    rw [odk_kd n k, odk_ok hw hh h.1, odk_ok hw hh h.2]
    rfl
section
variable {P : Program} {w : World} {K : PySem.W.Frag} {mg : Str → Option Value} {base : Heap}
abbrev nLaw : List Str := ["_law_script", "_law_bag_here", "_law_words", "_law_form_here", "_law_text_here", "_law_turn", "_law_at", "_law_sign", "_law_told", "_law_wrong", "_law_odd", "_law_bent", "_law_one"]
theorem scLaw : FnScope nLaw ["_law_script"] (defScope s_law) := ⟨rfl, rfl, rfl, by decide +kernel, rfl, by decide +kernel, by decide +kernel⟩
def spLawT (K : PySem.W.Frag) (T T2 : Addr) : Sp := fun vs H Q _ => ∃ (a : Addr) (ns : List Int), vs = [.ref a] ∧ SqL K H a (ns.map V.int) ∧ ns.length ≤ 63 ∧ H T = some (.tbl #[]) ∧ H T2 = some (.tbl #[]) ∧ ∀ H', Q (.bl true) H'
structure Cals (P : Program) (w : World) (K : PySem.W.Frag) (mg : Str → Option Value) (base : Heap) : Prop where
  bag : C8.Cal P w K mg base 1 "_law_bag" (spBag K) []
  pull : C8.Cal P w K mg base 1 "_law_pull" spPull []
  any : C8.Cal P w K mg base 2 "_law_any" (spAny K) []
  names : C8.Cal P w K mg base 3 "_law_names" spNames []
  form : C8.Cal P w K mg base 6 "_law_form" (spForm K 4) []
  like : ∀ n, C8.Cal P w K mg base n "_law_like" (spLike K n) []
  text : C8.Cal P w K mg base 14 "_law_text" (spTxt K 14) []
  isf : C8.Cal P w K mg base 15 "is_formula" (spFormE K) []
structure LawM (mg : Str → Option Value) : Prop where
  range : mg "range" = none
  len : mg "len" = none
abbrev qLam : Str := (("law" : Str) ++ ".<locals>.") ++ "<lambda>"
end
/-! ### formulas that were read -/
theorem isB_dep1 : ∀ {d : Nat} {h : Bool} {t : Fm}, isB d h t = true → dep t ≤ d
  | 0, _, _, e => by cases e
  | n + 1, _, .fls, _ => Nat.succ_le_succ (Nat.zero_le n)
  | n + 1, _, .atom _, _ => Nat.succ_le_succ (Nat.zero_le n)
  | n + 1, _, .hole _, _ => Nat.succ_le_succ (Nat.zero_le n)
  | n + 1, h, .bin k a b, e => by
    unfold isB at e
    rw [Bool.and_eq_true] at e
    have h1 := isB_dep1 e.1
    have h2 := isB_dep1 e.2
    show max (dep a) (dep b) + 1 ≤ n + 1
    omega
theorem isB_sml : ∀ {d : Nat} {t : Fm}, isB d false t = true → Sml t
  | 0, _, e => by cases e
  | n + 1, .fls, _ => trivial
  | n + 1, .atom w, e => by
    have := (nm_chars (w := w) e).2.1
    show w.length ≤ 1000
    omega
  | n + 1, .hole _, e => by cases e
  | n + 1, .bin k a b, e => by
    unfold isB at e
    rw [Bool.and_eq_true] at e
    exact ⟨isB_sml e.1, isB_sml e.2⟩
theorem isB_shp {d : Nat} {h : Bool} {t : Fm} (e : isB d h t = true) (hd : d ≤ 64) : SeqAt.shaped t.dat = true := by
  obtain ⟨h1, h2⟩ := isB_lay e
  unfold SeqAt.shaped
  rw [h1, decide_eq_true (by omega)]
  rfl
/-! ### the drawn formula -/
structure Dk (d : PyData) : Prop where
  o : odk 10 d = true
  l : PyData.canLay0 d = true
  p : PyData.depth d ≤ 20
def OddOk (d : PyData) : Prop := odk 11 d = true ∧ SeqAt.shaped d = true ∧ bE 10 false d = false
theorem dk3 {a b c : PyData} (ha : Dk a) (hb : Dk b) (hc : Dk c) : odk 11 (.tuple [a, b, c]) = true ∧ SeqAt.shaped (.tuple [a, b, c]) = true := by
  refine ⟨?_, ?_⟩
  · show (decide (3 ≤ 1000) && (odk 10 a && (odk 10 b && (odk 10 c && true)))) = true
    rw [ha.o, hb.o, hc.o]
    rfl
  · unfold SeqAt.shaped
    rw [Bool.and_eq_true]
    refine ⟨?_, decide_eq_true ?_⟩
    · show (PyData.canLay0 a && (PyData.canLay0 b && (PyData.canLay0 c && true))) = true
      rw [ha.l, hb.l, hc.l]
      rfl
    · show max (PyData.depth a) (max (PyData.depth b) (max (PyData.depth c) 0)) + 1 ≤ 64
      have := ha.p
      have := hb.p
      have := hc.p
      omega
theorem dk2 {a b : PyData} (ha : Dk a) (hb : Dk b) : odk 11 (.tuple [a, b]) = true ∧ SeqAt.shaped (.tuple [a, b]) = true := by
  refine ⟨?_, ?_⟩
  · show (decide (2 ≤ 1000) && (odk 10 a && (odk 10 b && true))) = true
    rw [ha.o, hb.o]
    rfl
  · unfold SeqAt.shaped
    rw [Bool.and_eq_true]
    refine ⟨?_, decide_eq_true ?_⟩
    · show (PyData.canLay0 a && (PyData.canLay0 b && true)) = true
      rw [ha.l, hb.l]
      rfl
    · show max (PyData.depth a) (max (PyData.depth b) 0) + 1 ≤ 64
      have := ha.p
      have := hb.p
      omega
theorem bE_head {a b c : PyData} (h : jnD a = false) : bE 10 false (.tuple [a, b, c]) = false := by
  show (jnD a && _) = false
  rw [h]
  rfl
theorem bE_right {a b c : PyData} (h : bE 9 false c = false) : bE 10 false (.tuple [a, b, c]) = false := by
  show (jnD a && (bE 9 false b && bE 9 false c)) = false
  rw [h, Bool.and_false, Bool.and_false]
def odd1 (w : Str) (t : PyData) : List PyData := [.none, .int 3, .str "p", .tuple [], .tuple [.str "atom"], .tuple [.str "atom", .str "P"], .tuple [.str "atom", .str w, .int 1], .tuple [.str "false", .int 0], .tuple [.str "then", t], .list [.str "atom", .str "p"]]
def odd2 (t : PyData) : List PyData := [.tuple [.str "then", t, .none], .tuple [.str "not", t, t], .tuple [.str "or", t, .list [.str "false"]], .tuple [.tuple [.str "and"], t, t], .tuple [.str "part", .int 0]]
def odd3 (t : PyData) : List PyData := [.tuple [.str "and", t, .tuple [.str "hole", .str "a"]], .tuple [.none, t, t], .tuple [.str "atom", .bool true], .tuple [.int 3, t, t]]
def odd4 (t : PyData) : List PyData := [.tuple [.str "", .int 0], .tuple [.str "", .int 7], .tuple [.str "then", t, .tuple [.str "", .int 1]], .tuple [.str "", .str "a"]]
theorem odd1_ok {w : Str} {t : PyData} (hw : Dk (.str w)) (ht : Dk t) : ∀ d ∈ odd1 w t, OddOk d := by
  intro d hd
  simp only [odd1, List.mem_cons, List.not_mem_nil, or_false] at hd
  rcases hd with rfl | rfl | rfl | rfl | rfl | rfl | rfl | rfl | rfl | rfl
  · exact ⟨by decide +kernel, by decide +kernel, by decide +kernel⟩
  · exact ⟨by decide +kernel, by decide +kernel, by decide +kernel⟩
  · exact ⟨by decide +kernel, by decide +kernel, by decide +kernel⟩
  · exact ⟨by decide +kernel, by decide +kernel, by decide +kernel⟩
  · exact ⟨by decide +kernel, by decide +kernel, by decide +kernel⟩
  · exact ⟨by decide +kernel, by decide +kernel, by decide +kernel⟩
  · have q := dk3 (a := .str "atom") (c := .int 1) ⟨by decide +kernel, by decide +kernel, by decide +kernel⟩ hw ⟨by decide +kernel, by decide +kernel, by decide +kernel⟩
    exact ⟨q.1, q.2, bE_head (by decide +kernel)⟩
  · exact ⟨by decide +kernel, by decide +kernel, by decide +kernel⟩
  · have q := dk2 (a := .str "then") ⟨by decide +kernel, by decide +kernel, by decide +kernel⟩ ht
    refine ⟨q.1, q.2, ?_⟩
    show leafB false (.str "then") t = false
    unfold leafB
    rw [if_neg (by decide +kernel)]
    rfl
  · exact ⟨by decide +kernel, by decide +kernel, by decide +kernel⟩
theorem odd2_ok {t : PyData} (ht : Dk t) : ∀ d ∈ odd2 t, OddOk d := by
  intro d hd
  simp only [odd2, List.mem_cons, List.not_mem_nil, or_false] at hd
  rcases hd with rfl | rfl | rfl | rfl | rfl
  · have q := dk3 (a := .str "then") (c := .none) ⟨by decide +kernel, by decide +kernel, by decide +kernel⟩ ht ⟨by decide +kernel, by decide +kernel, by decide +kernel⟩
    exact ⟨q.1, q.2, bE_right (by decide +kernel)⟩
  · have q := dk3 (a := .str "not") ⟨by decide +kernel, by decide +kernel, by decide +kernel⟩ ht ht
    exact ⟨q.1, q.2, bE_head (by decide +kernel)⟩
  · have q := dk3 (a := .str "or") (c := .list [.str "false"]) ⟨by decide +kernel, by decide +kernel, by decide +kernel⟩ ht ⟨by decide +kernel, by decide +kernel, by decide +kernel⟩
    exact ⟨q.1, q.2, bE_right (by decide +kernel)⟩
  · have q := dk3 (a := .tuple [.str "and"]) ⟨by decide +kernel, by decide +kernel, by decide +kernel⟩ ht ht
    exact ⟨q.1, q.2, bE_head (by decide +kernel)⟩
  · exact ⟨by decide +kernel, by decide +kernel, by decide +kernel⟩
theorem odd3_ok {t : PyData} (ht : Dk t) : ∀ d ∈ odd3 t, OddOk d := by
  intro d hd
  simp only [odd3, List.mem_cons, List.not_mem_nil, or_false] at hd
  rcases hd with rfl | rfl | rfl | rfl
  · have q := dk3 (a := .str "and") (c := .tuple [.str "hole", .str "a"]) ⟨by decide +kernel, by decide +kernel, by decide +kernel⟩ ht ⟨by decide +kernel, by decide +kernel, by decide +kernel⟩
    exact ⟨q.1, q.2, bE_right (by decide +kernel)⟩
  · have q := dk3 (a := .none) ⟨by decide +kernel, by decide +kernel, by decide +kernel⟩ ht ht
    exact ⟨q.1, q.2, bE_head (by decide +kernel)⟩
  · exact ⟨by decide +kernel, by decide +kernel, by decide +kernel⟩
  · have q := dk3 (a := .int 3) ⟨by decide +kernel, by decide +kernel, by decide +kernel⟩ ht ht
    exact ⟨q.1, q.2, bE_head (by decide +kernel)⟩
theorem odd4_ok {t : PyData} (ht : Dk t) : ∀ d ∈ odd4 t, OddOk d := by
  intro d hd
  simp only [odd4, List.mem_cons, List.not_mem_nil, or_false] at hd
  rcases hd with rfl | rfl | rfl | rfl
  · exact ⟨by decide +kernel, by decide +kernel, by decide +kernel⟩
  · exact ⟨by decide +kernel, by decide +kernel, by decide +kernel⟩
  · have q := dk3 (a := .str "then") (c := .tuple [.str "", .int 1]) ⟨by decide +kernel, by decide +kernel, by decide +kernel⟩ ht ⟨by decide +kernel, by decide +kernel, by decide +kernel⟩
    exact ⟨q.1, q.2, bE_right (by decide +kernel)⟩
  · exact ⟨by decide +kernel, by decide +kernel, by decide +kernel⟩
/-! ### the wrong ones -/
abbrev zLong : Str := Txt.mul "(" 1200 ++ "p"
theorem fold_rep (c : Nat) : ∀ (n : Nat) (acc : Array Nat), ((List.replicate n #[c]).foldl (· ++ ·) acc).toList = acc.toList ++ List.replicate n c
  | 0, acc => by simp
  | n + 1, acc => by
    rw [List.replicate_succ, List.foldl_cons, fold_rep c n]
    simp [List.replicate_succ]
theorem mul_is : (Txt.mul "(" 1200 : Str) = SX.S (List.replicate 1200 40) := by
  refine TL.ext_tl ?_
  show (Txt.mul "(" 1200 : Str).cps.toList = List.replicate 1200 40
  unfold Txt.mul
  rw [if_neg (by decide), if_neg (by decide +kernel)]
  show ((List.replicate 1200 #[40]).foldl (· ++ ·) #[]).toList = _
  rw [fold_rep]
  rfl
theorem long_is : zLong = SX.S (List.replicate 1200 40 ++ [112]) := by
  unfold zLong
  rw [mul_is, show ("p" : Str) = SX.S [112] by decide +kernel]
  exact SX.S_cat _ _
theorem long_sz : (Txt.mul "(" 1200 : Str).length + ("p" : Str).length ≤ sizeLine := by
  have e : (Txt.mul "(" 1200 : Str) = SX.S (List.replicate 1200 40) := mul_is
  rw [e, SX.S_len, List.length_replicate]
  exact big _ (by decide +kernel)
theorem run_rep : ∀ (m n : Nat), (((List.replicate m 40 ++ [112]).drop n).takeWhile isl).length ≤ 1
  | 0, n => by
    have h1 := (List.takeWhile_sublist isl (l := (List.replicate 0 40 ++ [112]).drop n)).length_le
    rw [List.length_drop] at h1
    have h2 : (List.replicate 0 40 ++ [112]).length = 1 := rfl
    omega
  | m + 1, 0 => by
    rw [List.replicate_succ, List.cons_append, List.drop_zero, List.takeWhile_cons_of_neg (by decide)]
    exact Nat.zero_le 1
  | m + 1, n + 1 => by
    rw [List.replicate_succ, List.cons_append, List.drop_succ_cons]
    exact run_rep m n
theorem long_tx : TxOk (List.replicate 1200 40 ++ [112]) := ⟨by rw [List.length_append, List.length_replicate]; decide, fun n => Nat.le_trans (run_rep 1200 n) (by decide)⟩
theorem long_no : prW 10 false (List.replicate 1200 40 ++ [112]) = none := rfl
def wrong1 : List PyData := [.str "", .str " ", .str "A", .str "(p)", .str "(p > q", .str "p > q", .str "(p > q))", .str "(p  > q)", .str "(p >q)", .str "( p > q)", .str "(p > q )", .str "(p = q)"]
def wrong2 : List PyData := [.str "abcdefg", .str "?a", .str "00", .str "(p > )", .str "( > q)", .str "(p > q > r)", .str "()", .str "((p > q))", .str "1", .str "(p >> q)", .none, .int 3]
def wrong3 : List PyData := [.tuple [.str "atom", .str "p"], .list [.str "0"], .bool true, .str "(p > ?a)", .str zLong, .str "(p & q) ", .str " 0", .str "0\n"]
def WrOk (d : PyData) : Prop := lstd 3 d = true ∧ txD d ∧ rfD d = none ∧ oka 27 d = true
theorem wrong1_ok : ∀ d ∈ wrong1, WrOk d := by
  intro d hd
  simp only [wrong1, List.mem_cons, List.not_mem_nil, or_false] at hd
  rcases hd with rfl | rfl | rfl | rfl | rfl | rfl | rfl | rfl | rfl | rfl | rfl | rfl <;> exact ⟨rfl, txok (by decide +kernel), by first | rfl | decide +kernel, rfl⟩
theorem wrong2_ok : ∀ d ∈ wrong2, WrOk d := by
  intro d hd
  simp only [wrong2, List.mem_cons, List.not_mem_nil, or_false] at hd
  rcases hd with rfl | rfl | rfl | rfl | rfl | rfl | rfl | rfl | rfl | rfl | rfl | rfl <;> first | exact ⟨rfl, trivial, rfl, rfl⟩ | exact ⟨rfl, txok (by decide +kernel), by first | rfl | decide +kernel, rfl⟩
theorem wrong3_ok : ∀ d ∈ wrong3, WrOk d := by
  intro d hd
  simp only [wrong3, List.mem_cons, List.not_mem_nil, or_false] at hd
  rcases hd with rfl | rfl | rfl | rfl | rfl | rfl | rfl | rfl
  · exact ⟨by decide +kernel, trivial, rfl, by decide +kernel⟩
  · exact ⟨by decide +kernel, trivial, rfl, by decide +kernel⟩
  · exact ⟨rfl, trivial, rfl, rfl⟩
  · exact ⟨rfl, txok (by decide +kernel), by first | rfl | decide +kernel, rfl⟩
  · refine ⟨rfl, ?_, ?_, rfl⟩
    · rw [long_is]
      exact long_tx
    · rw [long_is]
      exact long_no
  · exact ⟨rfl, txok (by decide +kernel), by first | rfl | decide +kernel, rfl⟩
  · exact ⟨rfl, txok (by decide +kernel), by first | rfl | decide +kernel, rfl⟩
  · exact ⟨rfl, txok (by decide +kernel), by first | rfl | decide +kernel, rfl⟩
def wrongD : List PyData := wrong1 ++ wrong2 ++ wrong3
theorem wrong_ok : ∀ d ∈ wrongD, WrOk d := by
  intro d hd
  rcases List.mem_append.mp hd with hd | hd
  · rcases List.mem_append.mp hd with hd | hd
    · exact wrong1_ok d hd
    · exact wrong2_ok d hd
  · exact wrong3_ok d hd
theorem wrong_len : wrongD.length = 32 := rfl
def dueOf (d : PyData) : PyData := .tuple [.str "InvalidFormula", .tuple [d]]
theorem due_oka : oka 30 (.list (wrongD.map dueOf)) = true := by
  show (decide ((wrongD.map dueOf).length ≤ 1000) && (wrongD.map dueOf).all (oka 29)) = true
  rw [Bool.and_eq_true, List.all_eq_true]
  refine ⟨by rw [List.length_map, wrong_len]; rfl, fun d hd => ?_⟩
  obtain ⟨e, he, rfl⟩ := List.mem_map.mp hd
  have h := (wrong_ok e he).2.2.2
  show (decide (2 ≤ 1000) && (true && ((decide (1 ≤ 1000) && (oka 27 e && true)) && true))) = true
  rw [h]
  rfl
/-! ### data, where only a table grows -/
section
variable {K : PySem.W.Frag} {N : Addr → Prop} {H H' : Hp} {T : Addr} {ps : Array Value}
theorem seqT_kpT (k : Kp T H H') (hT : H T = some (.tbl ps)) {a : Addr} {ys : List V} (z : SqT K H a ys) : SqT K H' a ys := by
  rcases z with (z | ⟨o, z⟩) | z
  · exact .inl (.inl (k _ _ z (ne_of z hT (fun e => by cases e))))
  · exact .inl (.inr ⟨o, k _ _ z (ne_of z hT (fun e => by cases e))⟩)
  · exact .inr z
theorem dpns_kpT (k : Kp T H H') (hT : H T = some (.tbl ps)) {vs : List V} {ds : List PyData} (h : DpNs K N H vs ds) : DpNs K N H' vs ds := dpns_go (fun a xs n e => ⟨n, k _ _ e (ne_of e hT (fun z => by cases z))⟩) (fun a xs e => seqT_kpT k hT e) h
theorem dp_kpT {v : V} {d : PyData} (h : Dp K H v d) (k : Kp T H H') (hT : H T = some (.tbl ps)) : Dp K H' v d := by
  cases dpAll_kpT (.cons h .nil) k hT with
  | cons h1 _ => exact h1
theorem dpns_get : ∀ {vs : List V} {ds : List PyData} {i : Nat} {v : V}, DpNs K N H vs ds → vs[i]? = some v → ∃ d, ds[i]? = some d ∧ DpN K N H v d
  | _, _, _, _, .nil, e => by simp at e
  | _, _, 0, _, .cons a _, e => by
    have e : some _ = some _ := e
    cases e
    exact ⟨_, rfl, a⟩
  | _, _, i + 1, _, .cons _ b, e => by
    obtain ⟨d, h1, h2⟩ := dpns_get (i := i) b (by simpa using e)
    exact ⟨d, by simpa using h1, h2⟩
/-- two tables -/
theorem tabS_two {P2 : Addr} {q : Str} (t : LamX.TabS H P2 q) (k : Kp T H H') (hT : H T = some (.tbl ps)) (n : P2 ≠ T) : LamX.TabS H' P2 q := tabS_fx (ps := #[]) t (.kpT k hT) fun _ e => k _ _ e n
end
def sgs : List Str := ["", " ", "(", ")", ">", "&", "A", "0", "?", "|", "  ", "\n", "-"]
theorem sgs_len : ∀ s ∈ sgs, s.length ≤ 2 := by decide +kernel

section
variable {K : PySem.W.Frag}
theorem wr_all {h : Hp} {N : Addr → Prop} {p l : Addr} (hp : h p = some (.tup [.str "atom", .str "p"])) (hl : h l = some (.lst [.str "0"])) (hn : N l) : DpNs K N h (([.str "", .str " ", .str "A", .str "(p)", .str "(p > q", .str "p > q", .str "(p > q))", .str "(p  > q)", .str "(p >q)", .str "( p > q)", .str "(p > q )", .str "(p = q)"] ++ [.str "abcdefg", .str "?a", .str "00", .str "(p > )", .str "( > q)", .str "(p > q > r)", .str "()", .str "((p > q))", .str "1", .str "(p >> q)", .non, .int 3]) ++ [.ref p, .ref l, .bl true, .str "(p > ?a)", .str zLong, .str "(p & q) ", .str " 0", .str "0\n"]) wrongD :=
  dpns_app (dpns_app (ds := wrong1) (es := wrong2) (.cons (.str _) (.cons (.str _) (.cons (.str _) (.cons (.str _) (.cons (.str _) (.cons (.str _) (.cons (.str _) (.cons (.str _) (.cons (.str _) (.cons (.str _) (.cons (.str _) (.cons (.str _) .nil)))))))))))) (.cons (.str _) (.cons (.str _) (.cons (.str _) (.cons (.str _) (.cons (.str _) (.cons (.str _) (.cons (.str _) (.cons (.str _) (.cons (.str _) (.cons (.str _) (.cons .non (.cons (.int 3) .nil))))))))))))) (es := wrong3) (.cons (.tup (SqT.of hp) (.cons (.str _) (.cons (.str _) .nil))) (.cons (.lst hl hn (.cons (.str _) .nil)) (.cons (.bl true) (.cons (.str _) (.cons (.str _) (.cons (.str _) (.cons (.str _) (.cons (.str _) .nil))))))))
end

end Ag

namespace Ag
open PySem PySem.Spec PyProof.Rows L2
section
variable {P : Program} {w : World} {K : PySem.W.Frag} {mg : Str → Option Value} {base : Heap}
theorem law_c {f c : Addr} (cs : Cals P w K mg base) (M : LawM mg) {A : Around} {outer : List Env} {s : Shared} {H0 : Hp} {E : XK} (hr : Room 39 (A.deeper (envOfC "law" (defScope s_law) s.heap.objs.size f (.ref c)))) :
    ∃ u, PSs (cxOf CX0 P w K mg base nLaw "law" (defScope s_law) f (.ref c) A outer s H0 E).nox ((defBody s_law).drop 9) u ∧
      ∀ (D : Ends) (H : Hp) (v0 v1 v4 v5 v6 v7 v8 v9 v11 : Option V) (wa : Addr) (x : V) (t : PyData) (w0 w1 w2 : Str), (∀ H', D.rt (.bl true) H') → H wa = some (.lst [.str w0, .str w1, .str w2]) → Dp K H x t → Dk (.str w0) → Dk t →
        u D [v0, v1, some (.ref wa), some x, v4, v5, v6, v7, v8, v9, none, v11, none] H := by
  have nd := scLaw.nd
  refine ⟨_, (pss_cons (ps_set (i := 10) nd rfl (.inl rfl) (pe_lst (pa_cons pe_non (pa_cons pe_int (pa_cons pe_str (pa_cons (pe_tup pa_nil) (pa_cons (pe_tup (pa_cons pe_str pa_nil)) (pa_cons (pe_tup (pa_cons pe_str (pa_cons pe_str pa_nil))) (pa_cons (pe_tup (pa_cons pe_str (pa_cons (pe_ix ix_list (pv 2) pe_int (fun _ _ => rfl)) (pa_cons pe_int pa_nil)))) (pa_cons (pe_tup (pa_cons pe_str (pa_cons pe_int pa_nil))) (pa_cons (pe_tup (pa_cons pe_str (pa_cons (pv 3) pa_nil))) (pa_cons (pe_lst (pa_cons pe_str (pa_cons pe_str pa_nil))) pa_nil))))))))))))
    (pss_cons (ps_set (i := 10) nd rfl (.inl rfl) (pe_op op_cat (pv 10) (pe_lst (pa_cons (pe_tup (pa_cons pe_str (pa_cons (pv 3) (pa_cons pe_non pa_nil)))) (pa_cons (pe_tup (pa_cons pe_str (pa_cons (pv 3) (pa_cons (pv 3) pa_nil)))) (pa_cons (pe_tup (pa_cons pe_str (pa_cons (pv 3) (pa_cons (pe_lst (pa_cons pe_str pa_nil)) pa_nil)))) (pa_cons (pe_tup (pa_cons (pe_tup (pa_cons pe_str pa_nil)) (pa_cons (pv 3) (pa_cons (pv 3) pa_nil)))) (pa_cons (pe_tup (pa_cons pe_str (pa_cons pe_int pa_nil))) pa_nil))))))))
    (pss_cons (ps_set (i := 10) nd rfl (.inl rfl) (pe_op op_cat (pv 10) (pe_lst (pa_cons (pe_tup (pa_cons pe_str (pa_cons (pv 3) (pa_cons (pe_tup (pa_cons pe_str (pa_cons pe_str pa_nil))) pa_nil)))) (pa_cons (pe_tup (pa_cons pe_non (pa_cons (pv 3) (pa_cons (pv 3) pa_nil)))) (pa_cons (pe_tup (pa_cons pe_str (pa_cons pe_bl pa_nil))) (pa_cons (pe_tup (pa_cons pe_int (pa_cons (pv 3) (pa_cons (pv 3) pa_nil)))) pa_nil)))))))
    (pss_cons (ps_set (i := 10) nd rfl (.inl rfl) (pe_op op_cat (pv 10) (pe_lst (pa_cons (pe_tup (pa_cons pe_str (pa_cons pe_int pa_nil))) (pa_cons (pe_tup (pa_cons pe_str (pa_cons pe_int pa_nil))) (pa_cons (pe_tup (pa_cons pe_str (pa_cons (pv 3) (pa_cons (pe_tup (pa_cons pe_str (pa_cons pe_int pa_nil))) pa_nil)))) (pa_cons (pe_tup (pa_cons pe_str (pa_cons pe_str pa_nil))) pa_nil)))))))
    (pss_one (ps_ret (pe_cmpR (op_eqD hr.units) (pe_lc (own := [("_law_one", 12)]) (g := gName 12) (tt := tYes) (te := tCall (spFormE K) [] C8.E0 (tCons (tVar 12) tNil)) rfl nd (pi_list (pv 10)) (blkOk_by (own := [("_law_one", 12)]) (N := nLaw) (sc := defScope s_law) (by decide +kernel)) (fun _ _ _ _ _ => pg_name (i := 12) nd rfl (Or.inl rfl)) (fun _ _ _ _ _ => pts_nil) (fun _ _ _ _ _ => (C8.pe_c cs.isf hr (by decide) (by rfl) (pa_cons (pv 12) pa_nil)))) (pe_op op_rep (pe_lst (pa_cons pe_bl pa_nil)) (pe_callB call_len_seq (by rfl) M.len boot_len (pa_cons (pv 10) pa_nil))) (nomark _)))))))), ?_⟩
  rintro D H v0 v1 v4 v5 v6 v7 v8 v9 v11 wa x t w0 w1 w2 hD hwa hx hw0 ht
  refine ⟨(by show 0 ≤ sizeLine; decide), fun q1 mq1 => ⟨(by show 1 ≤ sizeLine; decide), fun q2 mq2 => ⟨(by show 2 ≤ sizeLine; decide), fun q3 mq3 => ?_⟩⟩⟩
  have y1 := same_new mq1 (.tup [])
  have c1 := y1
  have y2 := same_new mq2 (.tup [.str "atom"])
  have c2 := c1.trans y2
  have y3 := same_new mq3 (.tup [.str "atom", .str "P"])
  have c3 := c2.trans y3
  refine ⟨_, rfl, wa, _, 0, _, rfl, rfl, SqL.of (c3 _ _ hwa), rfl, (by show 3 ≤ sizeLine; decide), fun q4 mq4 => ⟨(by show 2 ≤ sizeLine; decide), fun q5 mq5 => ⟨_, rfl, (by show 2 ≤ sizeLine; decide), fun q6 mq6 => ⟨(by show 2 ≤ sizeLine; decide), fun q7 mq7 => ⟨(by show 10 ≤ sizeLine; decide), fun q8 mq8 => ?_⟩⟩⟩⟩⟩
  have y4 := same_new mq4 (.tup [.str "atom", .str w0, .int 1])
  have c4 := c3.trans y4
  have y5 := same_new mq5 (.tup [.str "false", .int 0])
  have c5 := c4.trans y5
  have y6 := same_new mq6 (.tup [.str "then", x])
  have c6 := c5.trans y6
  have y7 := same_new mq7 (.lst [.str "atom", .str "p"])
  have c7 := c6.trans y7
  have y8 := same_new mq8 (.lst [.non, .int 3, .str "p", .ref q1, .ref q2, .ref q3, .ref q4, .ref q5, .ref q6, .ref q7])
  have c8 := c7.trans y8
  refine ⟨_, rfl, _, rfl, (by show 3 ≤ sizeLine; decide), fun q9 mq9 => ⟨_, rfl, _, rfl, (by show 3 ≤ sizeLine; decide), fun q10 mq10 => ⟨_, rfl, (by show 1 ≤ sizeLine; decide), fun q11 mq11 => ⟨(by show 3 ≤ sizeLine; decide), fun q12 mq12 => ⟨(by show 1 ≤ sizeLine; decide), fun q13 mq13 => ⟨_, rfl, _, rfl, (by show 3 ≤ sizeLine; decide), fun q14 mq14 => ⟨(by show 2 ≤ sizeLine; decide), fun q15 mq15 => ⟨(by show 5 ≤ sizeLine; decide), fun q16 mq16 => ?_⟩⟩⟩⟩⟩⟩⟩⟩
  have y9 := same_new mq9 (.tup [.str "then", x, .non])
  have c9 := c8.trans y9
  have y10 := same_new mq10 (.tup [.str "not", x, x])
  have c10 := c9.trans y10
  have y11 := same_new mq11 (.lst [.str "false"])
  have c11 := c10.trans y11
  have y12 := same_new mq12 (.tup [.str "or", x, .ref q11])
  have c12 := c11.trans y12
  have y13 := same_new mq13 (.tup [.str "and"])
  have c13 := c12.trans y13
  have y14 := same_new mq14 (.tup [.ref q13, x, x])
  have c14 := c13.trans y14
  have y15 := same_new mq15 (.tup [.str "part", .int 0])
  have c15 := c14.trans y15
  have y16 := same_new mq16 (.lst [.ref q9, .ref q10, .ref q12, .ref q14, .ref q15])
  have c16 := c15.trans y16
  refine ⟨_, _, _, _, rfl, rfl, (((((((y9.trans y10).trans y11).trans y12).trans y13).trans y14).trans y15).trans y16) _ _ upd_same, upd_same, (by show 15 ≤ sizeLine; decide), fun q17 mq17 => ?_⟩
  have y17 := same_new mq17 (.lst ([.non, .int 3, .str "p", .ref q1, .ref q2, .ref q3, .ref q4, .ref q5, .ref q6, .ref q7] ++ [.ref q9, .ref q10, .ref q12, .ref q14, .ref q15]))
  have c17 := c16.trans y17
  refine ⟨_, rfl, _, rfl, (by show 2 ≤ sizeLine; decide), fun q18 mq18 => ⟨(by show 3 ≤ sizeLine; decide), fun q19 mq19 => ⟨_, rfl, _, rfl, (by show 3 ≤ sizeLine; decide), fun q20 mq20 => ⟨(by show 2 ≤ sizeLine; decide), fun q21 mq21 => ⟨_, rfl, _, rfl, (by show 3 ≤ sizeLine; decide), fun q22 mq22 => ⟨(by show 4 ≤ sizeLine; decide), fun q23 mq23 => ?_⟩⟩⟩⟩⟩⟩
  have y18 := same_new mq18 (.tup [.str "hole", .str "a"])
  have c18 := c17.trans y18
  have y19 := same_new mq19 (.tup [.str "and", x, .ref q18])
  have c19 := c18.trans y19
  have y20 := same_new mq20 (.tup [.non, x, x])
  have c20 := c19.trans y20
  have y21 := same_new mq21 (.tup [.str "atom", .bl true])
  have c21 := c20.trans y21
  have y22 := same_new mq22 (.tup [.int 3, x, x])
  have c22 := c21.trans y22
  have y23 := same_new mq23 (.lst [.ref q19, .ref q20, .ref q21, .ref q22])
  have c23 := c22.trans y23
  refine ⟨_, _, _, _, rfl, rfl, (((((y18.trans y19).trans y20).trans y21).trans y22).trans y23) _ _ upd_same, upd_same, (by show 19 ≤ sizeLine; decide), fun q24 mq24 => ?_⟩
  have y24 := same_new mq24 (.lst (([.non, .int 3, .str "p", .ref q1, .ref q2, .ref q3, .ref q4, .ref q5, .ref q6, .ref q7] ++ [.ref q9, .ref q10, .ref q12, .ref q14, .ref q15]) ++ [.ref q19, .ref q20, .ref q21, .ref q22]))
  have c24 := c23.trans y24
  refine ⟨_, rfl, (by show 2 ≤ sizeLine; decide), fun q25 mq25 => ⟨(by show 2 ≤ sizeLine; decide), fun q26 mq26 => ⟨_, rfl, (by show 2 ≤ sizeLine; decide), fun q27 mq27 => ⟨(by show 3 ≤ sizeLine; decide), fun q28 mq28 => ⟨(by show 2 ≤ sizeLine; decide), fun q29 mq29 => ⟨(by show 4 ≤ sizeLine; decide), fun q30 mq30 => ?_⟩⟩⟩⟩⟩⟩
  have y25 := same_new mq25 (.tup [.str "", .int 0])
  have c25 := c24.trans y25
  have y26 := same_new mq26 (.tup [.str "", .int 7])
  have c26 := c25.trans y26
  have y27 := same_new mq27 (.tup [.str "", .int 1])
  have c27 := c26.trans y27
  have y28 := same_new mq28 (.tup [.str "then", x, .ref q27])
  have c28 := c27.trans y28
  have y29 := same_new mq29 (.tup [.str "", .str "a"])
  have c29 := c28.trans y29
  have y30 := same_new mq30 (.lst [.ref q25, .ref q26, .ref q28, .ref q29])
  have c30 := c29.trans y30
  refine ⟨_, _, _, _, rfl, rfl, (((((y25.trans y26).trans y27).trans y28).trans y29).trans y30) _ _ upd_same, upd_same, (by show 23 ≤ sizeLine; decide), fun q31 mq31 => ?_⟩
  have y31 := same_new mq31 (.lst ((([.non, .int 3, .str "p", .ref q1, .ref q2, .ref q3, .ref q4, .ref q5, .ref q6, .ref q7] ++ [.ref q9, .ref q10, .ref q12, .ref q14, .ref q15]) ++ [.ref q19, .ref q20, .ref q21, .ref q22]) ++ [.ref q25, .ref q26, .ref q28, .ref q29]))
  have c31 := c30.trans y31
  have e30 := y31
  have e29 := y30.trans e30
  have e28 := y29.trans e29
  have e27 := y28.trans e28
  have e26 := y27.trans e27
  have e25 := y26.trans e26
  have e24 := y25.trans e25
  have e23 := y24.trans e24
  have e22 := y23.trans e23
  have e21 := y22.trans e22
  have e20 := y21.trans e21
  have e19 := y20.trans e20
  have e18 := y19.trans e19
  have e17 := y18.trans e18
  have e16 := y17.trans e17
  have e15 := y16.trans e16
  have e14 := y15.trans e15
  have e13 := y14.trans e14
  have e12 := y13.trans e13
  have e11 := y12.trans e12
  have e10 := y11.trans e11
  have e9 := y10.trans e10
  have e8 := y9.trans e9
  have e7 := y8.trans e8
  have e6 := y7.trans e7
  have e5 := y6.trans e6
  have e4 := y5.trans e5
  have e3 := y4.trans e4
  have e2 := y3.trans e3
  have e1 := y2.trans e2
  have e0 := y1.trans e1
  have D1 : DpAll K _ [.non, .int 3, .str "p", .ref q1, .ref q2, .ref q3, .ref q4, .ref q5, .ref q6, .ref q7] (odd1 w0 t) := (.cons .non (.cons (.int 3) (.cons (.str _) (.cons (.tup (SqT.of (e1 _ _ upd_same)) .nil) (.cons (.tup (SqT.of (e2 _ _ upd_same)) (.cons (.str _) .nil)) (.cons (.tup (SqT.of (e3 _ _ upd_same)) (.cons (.str _) (.cons (.str _) .nil))) (.cons (.tup (SqT.of (e4 _ _ upd_same)) (.cons (.str _) (.cons (.str _) (.cons (.int 1) .nil)))) (.cons (.tup (SqT.of (e5 _ _ upd_same)) (.cons (.str _) (.cons (.int 0) .nil))) (.cons (.tup (SqT.of (e6 _ _ upd_same)) (.cons (.str _) (.cons (Dp_same e0 hx) .nil))) (.cons (.lst (SqL.of (e7 _ _ upd_same)) (.cons (.str _) (.cons (.str _) .nil))) .nil))))))))))
  have D2 : DpAll K _ [.ref q9, .ref q10, .ref q12, .ref q14, .ref q15] (odd2 t) := (.cons (.tup (SqT.of (e9 _ _ upd_same)) (.cons (.str _) (.cons (Dp_same e0 hx) (.cons .non .nil)))) (.cons (.tup (SqT.of (e10 _ _ upd_same)) (.cons (.str _) (.cons (Dp_same e0 hx) (.cons (Dp_same e0 hx) .nil)))) (.cons (.tup (SqT.of (e12 _ _ upd_same)) (.cons (.str _) (.cons (Dp_same e0 hx) (.cons (.lst (SqL.of (e11 _ _ upd_same)) (.cons (.str _) .nil)) .nil)))) (.cons (.tup (SqT.of (e14 _ _ upd_same)) (.cons (.tup (SqT.of (e13 _ _ upd_same)) (.cons (.str _) .nil)) (.cons (Dp_same e0 hx) (.cons (Dp_same e0 hx) .nil)))) (.cons (.tup (SqT.of (e15 _ _ upd_same)) (.cons (.str _) (.cons (.int 0) .nil))) .nil)))))
  have D3 : DpAll K _ [.ref q19, .ref q20, .ref q21, .ref q22] (odd3 t) := (.cons (.tup (SqT.of (e19 _ _ upd_same)) (.cons (.str _) (.cons (Dp_same e0 hx) (.cons (.tup (SqT.of (e18 _ _ upd_same)) (.cons (.str _) (.cons (.str _) .nil))) .nil)))) (.cons (.tup (SqT.of (e20 _ _ upd_same)) (.cons .non (.cons (Dp_same e0 hx) (.cons (Dp_same e0 hx) .nil)))) (.cons (.tup (SqT.of (e21 _ _ upd_same)) (.cons (.str _) (.cons (.bl true) .nil))) (.cons (.tup (SqT.of (e22 _ _ upd_same)) (.cons (.int 3) (.cons (Dp_same e0 hx) (.cons (Dp_same e0 hx) .nil)))) .nil))))
  have D4 : DpAll K _ [.ref q25, .ref q26, .ref q28, .ref q29] (odd4 t) := (.cons (.tup (SqT.of (e25 _ _ upd_same)) (.cons (.str _) (.cons (.int 0) .nil))) (.cons (.tup (SqT.of (e26 _ _ upd_same)) (.cons (.str _) (.cons (.int 7) .nil))) (.cons (.tup (SqT.of (e28 _ _ upd_same)) (.cons (.str _) (.cons (Dp_same e0 hx) (.cons (.tup (SqT.of (e27 _ _ upd_same)) (.cons (.str _) (.cons (.int 1) .nil))) .nil)))) (.cons (.tup (SqT.of (e29 _ _ upd_same)) (.cons (.str _) (.cons (.str _) .nil))) .nil))))
  have DA := dpall_app (dpall_app (dpall_app D1 D2) D3) D4
  have hp : ∀ {h : Hp} {o : HO}, (upd h q31 o) q31 = some o := upd_same
  have OK : ∀ d ∈ odd1 w0 t ++ odd2 t ++ odd3 t ++ odd4 t, OddOk d := fun d hd => by
    rcases List.mem_append.mp hd with hd | hd
    · rcases List.mem_append.mp hd with hd | hd
      · rcases List.mem_append.mp hd with hd | hd
        · exact odd1_ok hw0 ht d hd
        · exact odd2_ok ht d hd
      · exact odd3_ok ht d hd
    · exact odd4_ok ht d hd
  refine ⟨_, rfl, q31, rfl, ⟨_, SqL.of upd_same⟩, fun R nR => ?_⟩
  refine lc_list (xs := ((([.non, .int 3, .str "p", .ref q1, .ref q2, .ref q3, .ref q4, .ref q5, .ref q6, .ref q7] ++ [.ref q9, .ref q10, .ref q12, .ref q14, .ref q15]) ++ [.ref q19, .ref q20, .ref q21, .ref q22]) ++ [.ref q25, .ref q26, .ref q28, .ref q29])) (fun i H' => Same _ H' ∧ H' R = some (.lst (List.replicate i (V.bl false)))) ⟨same_new nR _, upd_same⟩ (fun i H' _ ⟨z, _⟩ => z.seq (SqL.of hp)) ?_ ?_
  · rintro i v2 H16 hi16 ⟨z, hR⟩
    obtain ⟨d, hd, hv2⟩ := dpall_get DA hi16
    obtain ⟨o1, o2, o3⟩ := OK d (List.mem_of_getElem? hd)
    have hi8 : i < 23 := (List.getElem?_eq_some_iff.mp hi16).1
    refine ⟨rfl, _, rfl, v2, 11, d, rfl, Dp_same z hv2, o1, o2, fun H17 s17 => ?_⟩
    rw [o3]
    refine ⟨_, s17 _ _ hR, small1000 (by rw [List.length_replicate]; omega), fun c o hc => ?_, ?_⟩
    · rw [upd_ne (ne_of_none hc nR)]
      exact s17 _ _ (z _ _ hc)
    · rw [upd_same, List.replicate_succ']
  · rintro H16 ⟨z, hR⟩
    refine ⟨(by show 1 ≤ sizeLine; decide), fun z1 nz1 => ?_⟩
    have x1 := same_new nz1 (.lst [.bl false])
    refine ⟨_, rfl, q31, _, rfl, .inl (SqL.of (x1 _ _ (z _ _ hp))), ?_⟩
    refine ⟨_, _, _, rfl, rfl, upd_same, (by show -(2 ^ 63) ≤ (23 : Int); decide), (by show (23 : Int) < 2 ^ 63; decide), (by show 1 * 23 ≤ sizeLine; decide), fun z2 nz2 => ?_⟩
    have x2 := same_new nz2 (.lst (List.replicate 23 [V.bl false]).flatten)
    have d23 : ∀ {h : Hp}, DpAll K h (List.replicate 23 (V.bl false)) (List.replicate 23 (PyData.bool false)) := .cons (.bl _) (.cons (.bl _) (.cons (.bl _) (.cons (.bl _) (.cons (.bl _) (.cons (.bl _) (.cons (.bl _) (.cons (.bl _) (.cons (.bl _) (.cons (.bl _) (.cons (.bl _) (.cons (.bl _) (.cons (.bl _) (.cons (.bl _) (.cons (.bl _) (.cons (.bl _) (.cons (.bl _) (.cons (.bl _) (.cons (.bl _) (.cons (.bl _) (.cons (.bl _) (.cons (.bl _) (.cons (.bl _) .nil))))))))))))))))))))))
    refine ⟨.list (List.replicate 23 (.bool false)), .list (List.replicate 23 (.bool false)), .lst (SqL.of (x2 _ _ (x1 _ _ hR))) d23, .lst (SqL.of upd_same) d23, by decide +kernel, by decide +kernel, ?_⟩
    rw [show PyData.eqv (.list (List.replicate 23 (.bool false))) (.list (List.replicate 23 (.bool false))) = true by decide +kernel]
    exact hD _
end

end Ag

namespace Ag
open PySem PySem.Spec PyProof.Rows L2
section
variable {P : Program} {w : World} {K : PySem.W.Frag} {mg : Str → Option Value} {base : Heap}
theorem law_d {f c : Addr} {cG cM cN C fI T2 fY fRd : Addr} {fdY fdRd : FuncData} (cs : Cals P w K mg base) (M : LawM mg) (GY : FnOk P w K mg base L2.CX0 34 fY fdY ["_law_ask"] (spTry P w K mg base cG cM cN 33)) (dY : Dn mg K "_law_try" fY) (bY : Binds K fdY ["_law_ask"] []) (GRd : FnOk P w K mg base L2.CX0 1 fRd fdRd ["_law_text_z"] (spRd P w K mg base C T2)) (dRd : Dn mg K "_law_reader" fRd) (bRd : Binds K fdRd ["_law_text_z"] []) (EF : ErrK K mg "InvalidFormula" C fI cG cM cN) {A : Around} {outer : List Env} {s : Shared} {H0 : Hp} {E : XK} (hr : Room 39 (A.deeper (envOfC "law" (defScope s_law) s.heap.objs.size f (.ref c)))) :
    ∃ u, PSs (cxOf CX0 P w K mg base nLaw "law" (defScope s_law) f (.ref c) A outer s H0 E).nox ((defBody s_law).drop 8) u ∧
      ∀ (D : Ends) (H : Hp) (v0 v1 v4 v5 v6 v7 v8 v11 : Option V) (wa pw : Addr) (xs : List V) (x : V) (t : PyData) (w0 w1 w2 : Str), (∀ H', D.rt (.bl true) H') → H wa = some (.lst [.str w0, .str w1, .str w2]) → Dp K H x t → Dk (.str w0) → Dk t → LamX.TabS H T2 qRd →
        H pw = some (.lst xs) → DpNs K (fun a => ∃ o, H a = some o) H xs wrongD → u D [v0, v1, some (.ref wa), some x, v4, v5, v6, v7, v8, some (.ref pw), none, v11, none] H := by
  have nd := scLaw.nd
  obtain ⟨u, hu, hq⟩ := law_c (f := f) (c := c) (A := A) (outer := outer) (s := s) (H0 := H0) (E := E) cs M hr
  refine ⟨_, (pss_cons (ps_if (pt_not (pt_val (C8.pe_c (cs.like 30) hr (by decide) (by rfl) (pa_cons (pe_lc (own := [("_law_one", 12)]) (g := gName 12) (tt := tYes) (te := tCall (spTry P w K mg base cG cM cN 33) [] C8.E0 (tCons (tCall (spRd P w K mg base C T2) [] C8.E0 (tCons (tVar 12) tNil)) tNil)) rfl nd (pi_list (pv 9)) (blkOk_by (own := [("_law_one", 12)]) (N := nLaw) (sc := defScope s_law) (by decide +kernel)) (fun _ _ _ _ _ => pg_name (i := 12) nd rfl (Or.inl rfl)) (fun _ _ _ _ _ => pts_nil) (fun _ _ _ _ _ => (pe_call GY (hr.mono (by decide)) (by rfl) dY.m dY.k bY .nil pass0 (pa_cons (pe_call GRd (hr.mono (by decide)) (by rfl) dRd.m dRd.k bRd .nil pass0 (pa_cons (pv 12) pa_nil)) pa_nil)))) (pa_cons (pe_lc (own := [("_law_one", 12)]) (g := gName 12) (tt := tYes) rfl nd (pi_list (pv 9)) (blkOk_by (own := [("_law_one", 12)]) (N := nLaw) (sc := defScope s_law) (by decide +kernel)) (fun _ _ _ _ _ => pg_name (i := 12) nd rfl (Or.inl rfl)) (fun _ _ _ _ _ => pts_nil) (fun _ _ _ _ _ => (pe_tup (pa_cons pe_str (pa_cons (pe_tup (pa_cons (pv 12) pa_nil)) pa_nil))))) pa_nil))))) (pss_one (ps_ret pe_bl)) pss_nil)
    hu), ?_⟩
  rintro D H v0 v1 v4 v5 v6 v7 v8 v11 wa pw xs x t w0 w1 w2 hD hwa hx hw0 ht hT hpw hW
  obtain ⟨ps, hT2, _⟩ := id hT
  have hDW := dpns_dp hW
  have lx : xs.length = 32 := by rw [dpns_len hW, wrong_len]
  have ld : (wrongD.map dueOf).length = 32 := by rw [List.length_map, wrong_len]
  have npw : pw ≠ T2 := ne_of hpw hT2 (fun z => by cases z)
  refine ⟨_, rfl, pw, rfl, ⟨_, SqL.of hpw⟩, fun R nR => ?_⟩
  have nRT : R ≠ T2 := fun e => by
    subst e
    rw [hT2] at nR
    cases nR
  refine lc_list (xs := xs) (fun i H' => ∃ rs, H' R = some (.lst rs) ∧ DpNs K (fun a => a ≠ R) H' rs ((wrongD.map dueOf).take i) ∧ Kp T2 H H' ∧ LamX.TabS H' T2 qRd) ⟨[], upd_same, .nil, .of (same_new nR _), hT.ext (same_new nR _)⟩ (fun i H' _ ⟨_, _, _, k, _⟩ => SqL.of (k _ _ hpw npw)) ?_ ?_
  · rintro i v H1 hi ⟨rs, hR, hz, k1, T1⟩
    obtain ⟨d, hd, hv0⟩ := dpall_get hDW hi
    obtain ⟨o1, o2, o3, _⟩ := wrong_ok d (List.mem_of_getElem? hd)
    have hdue : (wrongD.map dueOf)[i]? = some (dueOf d) := by
      rw [List.getElem?_map, hd]
      rfl
    refine ⟨rfl, _, rfl, v, rfl, T1, fun f0 l H2 pin k2 k2r T2' nf mk => ⟨f0, rfl, ?_⟩⟩
    obtain ⟨ps1, hT1, _⟩ := id T1
    have T : Told P w K mg base cG cM cN 33 f0 H2 (fun v H3 => Same H2 H3 ∧ ∀ c xs, H2 c = some (.lst xs) → R11 K (wrongD.map dueOf) c i v H3) :=
      mk _ _ ⟨v, 3, d, rfl, dp_kpT hv0 (k1.trans k2r) hT2, by decide, o1, o2, by rw [o3]; exact told_errL EF pin hdue⟩
    have hR2 := k2 _ _ hR nRT
    have hz2 := dpns_kpT k2 hT1 hz
    have fin : ∀ u H3, (Same H2 H3 ∧ ∀ c xs, H2 c = some (.lst xs) → R11 K (wrongD.map dueOf) c i u H3) → ∃ acc, H3 R = some (.lst acc) ∧ acc.length < sizeLine ∧ ∃ rs', upd H3 R (.lst (acc ++ [u])) R = some (.lst rs') ∧
        DpNs K (fun a => a ≠ R) (upd H3 R (.lst (acc ++ [u]))) rs' ((wrongD.map dueOf).take (i + 1)) ∧ Kp T2 H (upd H3 R (.lst (acc ++ [u]))) ∧ LamX.TabS (upd H3 R (.lst (acc ++ [u]))) T2 qRd := by
      rintro u H3 ⟨s3, hr⟩
      have hR3 := s3 _ _ hR2
      have kp : Kp R H3 (upd H3 R (.lst (rs ++ [u]))) := kp_upd
      have hu := hr R rs hR2 _ hdue
      have lz : rs.length ≤ 32 := by
        rw [dpns_len hz, List.length_take, ld]
        exact Nat.min_le_right _ _
      refine ⟨rs, hR3, small1000 (by omega), rs ++ [u], upd_same, ?_, ?_, ?_⟩
      · rw [List.take_add_one, hdue]
        exact dpns_app (dpns_kp kp hR3 (fun _ n => n) (dpns_same s3 hz2)) (.cons (dpn_kp kp hR3 (fun _ n => n) hu) .nil)
      · exact ((k1.trans k2).trans (.of s3)).upd nR
      · exact tabS_kp (T2'.ext s3) kp hR3
    exact T.imp (fun v H3 h t H4 s4 n4 h4 => fin _ _ (h t H4 s4 n4 h4)) (fun c dd H3 ⟨C', D', fs2, e, ws, e1, e2, e3, e4, e5, e6⟩ => ⟨C', D', fs2, e, ws, e1, e2, e3, e4, e5, fun t u H4 s4 n4 h4 h5 => fin _ _ (e6 t u H4 s4 n4 h4 h5)⟩)
  · rintro H1 ⟨rs, hR, hz, k1, T1⟩
    rw [List.take_of_length_le (by rw [ld, lx]; exact Nat.le_refl _)] at hz
    have hpw1 := k1 _ _ hpw npw
    refine ⟨_, rfl, pw, rfl, ⟨_, SqL.of hpw1⟩, fun R2 nR2 => ?_⟩
    have hW1 : DpNs K (fun a => a ≠ R2) H1 xs wrongD := dpns_go (fun a ys _ e => by
      have e1 := k1 _ _ e (ne_of e hT2 (fun z => by cases z))
      refine ⟨fun z => ?_, e1⟩
      subst z
      rw [e1] at nR2
      cases nR2) (fun a ys e => seqT_kpT k1 hT2 e) hW
    refine lc_list (xs := xs) (fun i H' => ∃ rs2, H' R2 = some (.lst rs2) ∧ DpNs K (fun a => a ≠ R2) H' rs2 ((wrongD.map dueOf).take i) ∧ Same H1 H') ⟨[], upd_same, .nil, same_new nR2 _⟩ (fun i H' _ ⟨_, _, _, s⟩ => SqL.of (s _ _ hpw1)) ?_ ?_
    · rintro i v H2 hi ⟨rs2, hR2, hz2, s2⟩
      obtain ⟨d, hd, hv0⟩ := dpns_get hW1 hi
      have hdue : (wrongD.map dueOf)[i]? = some (dueOf d) := by
        rw [List.getElem?_map, hd]
        rfl
      refine ⟨rfl, _, rfl, (by show 1 ≤ sizeLine; decide), fun u1 n1 => ⟨(by show 2 ≤ sizeLine; decide), fun u2 n2 => ?_⟩⟩
      have y1 := same_new n1 (.tup [v])
      have y2 := same_new n2 (.tup [.str "InvalidFormula", .ref u1])
      have y12 := y1.trans y2
      have hR3 := y12 _ _ hR2
      have lz : rs2.length ≤ 32 := by
        rw [dpns_len hz2, List.length_take, ld]
        exact Nat.min_le_right _ _
      refine ⟨rs2, hR3, small1000 (by omega), rs2 ++ [.ref u2], upd_same, ?_, fun c o hc => ?_⟩
      · rw [List.take_add_one, hdue]
        exact dpns_app (dpns_kp kp_upd hR3 (fun _ n => n) (dpns_same y12 hz2)) (.cons (dpn_kp kp_upd hR3 (fun _ n => n) (.tup (SqT.of upd_same) (.cons (.str _) (.cons (.tup (SqT.of (y2 _ _ upd_same)) (.cons (dpn_same (s2.trans y12) hv0) .nil)) .nil)))) .nil)
      · rw [upd_ne (ne_of_none hc nR2)]
        exact y12 _ _ (s2 _ _ hc)
    · rintro H2 ⟨rs2, hR2, hz2, s2⟩
      rw [List.take_of_length_le (by rw [ld, lx]; exact Nat.le_refl _)] at hz2
      refine ⟨_, _, .list (wrongD.map dueOf), rfl, Da_of (.lst (SqL.of (s2 _ _ hR)) (dpns_dp (dpns_same s2 hz))), Da_of (.lst (SqL.of hR2) (dpns_dp hz2)), due_oka, fun H3 s3 => ⟨_, rfl, iteE rfl ?_⟩⟩
      have k3 : Kp T2 H H3 := k1.trans (.of (s2.trans s3))
      exact hq D H3 v0 v1 v4 v5 v6 v7 v8 _ v11 wa x t w0 w1 w2 hD (k3 _ _ hwa (ne_of hwa hT2 (fun z => by cases z))) (dp_kpT hx k3 hT2) hw0 ht
end

end Ag

namespace Ag
open PySem PySem.Spec PyProof.Rows L2
section
variable {P : Program} {w : World} {K : PySem.W.Frag} {mg : Str → Option Value} {base : Heap}
theorem law_b {f c : Addr} {cG cM cN C fI T2 fY fRd : Addr} {fdY fdRd : FuncData} (cs : Cals P w K mg base) (M : LawM mg) (GY : FnOk P w K mg base L2.CX0 34 fY fdY ["_law_ask"] (spTry P w K mg base cG cM cN 33)) (dY : Dn mg K "_law_try" fY) (bY : Binds K fdY ["_law_ask"] []) (GRd : FnOk P w K mg base L2.CX0 1 fRd fdRd ["_law_text_z"] (spRd P w K mg base C T2)) (dRd : Dn mg K "_law_reader" fRd) (bRd : Binds K fdRd ["_law_text_z"] []) (EF : ErrK K mg "InvalidFormula" C fI cG cM cN) {A : Around} {outer : List Env} {s : Shared} {H0 : Hp} {E : XK} (hr : Room 39 (A.deeper (envOfC "law" (defScope s_law) s.heap.objs.size f (.ref c)))) :
    ∃ u, PSs (cxOf CX0 P w K mg base nLaw "law" (defScope s_law) f (.ref c) A outer s H0 E).nox ((defBody s_law).drop 5) u ∧
      ∀ (D : Ends) (H : Hp) (v0 v1 v4 v5 v6 v7 v8 v11 : Option V) (wa : Addr) (x : V) (t : PyData) (w0 w1 w2 : Str), (∀ H', D.rt (.bl true) H') → H wa = some (.lst [.str w0, .str w1, .str w2]) → Dp K H x t → Dk (.str w0) → Dk t → LamX.TabS H T2 qRd →
        u D [v0, v1, some (.ref wa), some x, v4, v5, v6, v7, v8, none, none, v11, none] H := by
  have nd := scLaw.nd
  obtain ⟨u, hu, hq⟩ := law_d (f := f) (c := c) (A := A) (outer := outer) (s := s) (H0 := H0) (E := E) cs M GY dY bY GRd dRd bRd EF hr
  refine ⟨_, (pss_cons (ps_set (i := 9) nd rfl (.inl rfl) (pe_lst (pa_cons pe_str (pa_cons pe_str (pa_cons pe_str (pa_cons pe_str (pa_cons pe_str (pa_cons pe_str (pa_cons pe_str (pa_cons pe_str (pa_cons pe_str (pa_cons pe_str (pa_cons pe_str (pa_cons pe_str pa_nil))))))))))))))
    (pss_cons (ps_set (i := 9) nd rfl (.inl rfl) (pe_op op_cat (pv 9) (pe_lst (pa_cons pe_str (pa_cons pe_str (pa_cons pe_str (pa_cons pe_str (pa_cons pe_str (pa_cons pe_str (pa_cons pe_str (pa_cons pe_str (pa_cons pe_str (pa_cons pe_str (pa_cons pe_non (pa_cons pe_int pa_nil)))))))))))))))
    (pss_cons (ps_set (i := 9) nd rfl (.inl rfl) (pe_op op_cat (pv 9) (pe_lst (pa_cons (pe_tup (pa_cons pe_str (pa_cons pe_str pa_nil))) (pa_cons (pe_lst (pa_cons pe_str pa_nil)) (pa_cons pe_bl (pa_cons pe_str (pa_cons (pe_op op_add_str (pe_op op_mul_str pe_str pe_int) pe_str) (pa_cons pe_str (pa_cons pe_str (pa_cons pe_str pa_nil)))))))))))
    hu))), ?_⟩
  rintro D H v0 v1 v4 v5 v6 v7 v8 v11 wa x t w0 w1 w2 hD hwa hx hw0 ht hT
  refine ⟨(by show 12 ≤ sizeLine; decide), fun q1 mq1 => ?_⟩
  have y1 := same_new mq1 (.lst [.str "", .str " ", .str "A", .str "(p)", .str "(p > q", .str "p > q", .str "(p > q))", .str "(p  > q)", .str "(p >q)", .str "( p > q)", .str "(p > q )", .str "(p = q)"])
  have c1 := y1
  refine ⟨_, rfl, (by show 12 ≤ sizeLine; decide), fun q2 mq2 => ?_⟩
  have y2 := same_new mq2 (.lst [.str "abcdefg", .str "?a", .str "00", .str "(p > )", .str "( > q)", .str "(p > q > r)", .str "()", .str "((p > q))", .str "1", .str "(p >> q)", .non, .int 3])
  have c2 := c1.trans y2
  refine ⟨_, _, _, _, rfl, rfl, (y2) _ _ upd_same, upd_same, (by show 24 ≤ sizeLine; decide), fun q3 mq3 => ?_⟩
  have y3 := same_new mq3 (.lst ([.str "", .str " ", .str "A", .str "(p)", .str "(p > q", .str "p > q", .str "(p > q))", .str "(p  > q)", .str "(p >q)", .str "( p > q)", .str "(p > q )", .str "(p = q)"] ++ [.str "abcdefg", .str "?a", .str "00", .str "(p > )", .str "( > q)", .str "(p > q > r)", .str "()", .str "((p > q))", .str "1", .str "(p >> q)", .non, .int 3]))
  have c3 := c2.trans y3
  refine ⟨_, rfl, (by show 2 ≤ sizeLine; decide), fun q4 mq4 => ⟨(by show 1 ≤ sizeLine; decide), fun q5 mq5 => ⟨_, _, rfl, rfl, ⟨by decide, fun _ _ => by decide +kernel, fun _ _ => by decide +kernel⟩, _, _, rfl, rfl, long_sz, (by show 8 ≤ sizeLine; decide), fun q6 mq6 => ?_⟩⟩⟩
  have y4 := same_new mq4 (.tup [.str "atom", .str "p"])
  have c4 := c3.trans y4
  have y5 := same_new mq5 (.lst [.str "0"])
  have c5 := c4.trans y5
  have y6 := same_new mq6 (.lst [.ref q4, .ref q5, .bl true, .str "(p > ?a)", .str zLong, .str "(p & q) ", .str " 0", .str "0\n"])
  have c6 := c5.trans y6
  refine ⟨_, _, _, _, rfl, rfl, (((y4).trans y5).trans y6) _ _ upd_same, upd_same, (by show 32 ≤ sizeLine; decide), fun q7 mq7 => ?_⟩
  have y7 := same_new mq7 (.lst (([.str "", .str " ", .str "A", .str "(p)", .str "(p > q", .str "p > q", .str "(p > q))", .str "(p  > q)", .str "(p >q)", .str "( p > q)", .str "(p > q )", .str "(p = q)"] ++ [.str "abcdefg", .str "?a", .str "00", .str "(p > )", .str "( > q)", .str "(p > q > r)", .str "()", .str "((p > q))", .str "1", .str "(p >> q)", .non, .int 3]) ++ [.ref q4, .ref q5, .bl true, .str "(p > ?a)", .str zLong, .str "(p & q) ", .str " 0", .str "0\n"]))
  have c7 := c6.trans y7
  have e6 := y7
  have e5 := y6.trans e6
  have e4 := y5.trans e5
  have e3 := y4.trans e4
  have e2 := y3.trans e3
  have e1 := y2.trans e2
  have e0 := y1.trans e1
  exact hq D _ v0 v1 v4 v5 v6 v7 v8 v11 wa q7 _ x t w0 w1 w2 hD (c7 _ _ hwa) (Dp_same c7 hx) hw0 ht (hT.ext c7) upd_same (wr_all (p := q4) (l := q5) (e4 _ _ upd_same) (e5 _ _ upd_same) ⟨_, e5 _ _ upd_same⟩)
end

end Ag

namespace Ag
open PySem PySem.Spec PyProof.Rows L2
section
variable {P : Program} {w : World} {K : PySem.W.Frag} {mg : Str → Option Value} {base : Heap}
theorem ok_law {f c T fF : Addr} {fd fdF : FuncData} {cG cM cN C fI T2 fY fRd : Addr} {fdY fdRd : FuncData} (F : Fun K "law" "law" s_law f fd) (hc : fd.code = .ref c) (TB : LamX.TabB base mg c T) (nT : T2 ≠ T) (cs : Cals P w K mg base) (M : LawM mg) (GY : FnOk P w K mg base L2.CX0 34 fY fdY ["_law_ask"] (spTry P w K mg base cG cM cN 33)) (dY : Dn mg K "_law_try" fY) (bY : Binds K fdY ["_law_ask"] []) (GRd : FnOk P w K mg base L2.CX0 1 fRd fdRd ["_law_text_z"] (spRd P w K mg base C T2)) (dRd : Dn mg K "_law_reader" fRd) (bRd : Binds K fdRd ["_law_text_z"] []) (EF : ErrK K mg "InvalidFormula" C fI cG cM cN)
    (GF : FnOk P w K mg base (L2.CX P w) 16 fF fdF ["formula"] (spFT K C)) (dF : Dn mg K "formula_text" fF) (bF : Binds K fdF ["formula"] []) {fR : Addr} {fdR : FuncData} (GR : FnOk P w K mg base (L2.CX P w) 32 fR fdR ["text"] (spRFD K C)) (dR : Dn mg K "read_formula" fR) (bR : Binds K fdR ["text"] []) :
    FnOk P w K mg base L2.CX0 40 f fd ["_law_script"] (spLawT K T T2) := by
  refine okc F hc scLaw (fun vs H Q E h => ?_) (fun A outer s H vs Q E hr h => ?_)
  · obtain ⟨a, ns, rfl, _⟩ := h
    rfl
  obtain ⟨a, ns, rfl, hS, h63, hT, hT2, q⟩ := h
  have nd := scLaw.nd
  obtain ⟨u, hu, hq⟩ := law_b (f := f) (c := c) (A := A) (outer := outer) (s := s) (H0 := H) (E := E) cs M GY dY bY GRd dRd bRd EF hr
  refine ⟨_, (pss_cons (ps_set (i := 1) nd rfl (.inl rfl) (C8.pe_c cs.bag hr (by decide) (by rfl) (pa_cons (pv 0) pa_nil)))
    (pss_cons (ps_set (i := 2) nd rfl (.inl rfl) (C8.pe_c cs.names hr (by decide) (by rfl) (pa_cons (pv 1) (pa_cons pe_int pa_nil))))
    (pss_cons (ps_set (i := 3) nd rfl (.inl rfl) (pe_tup (pa_cons pe_str (pa_cons (pe_tup (pa_cons pe_str (pa_cons (pe_ix ix_list (pv 2) pe_int (fun _ _ => rfl)) pa_nil))) (pa_cons (C8.pe_c cs.form hr (by decide) (by rfl) (pa_cons (pv 1) (pa_cons (pv 2) (pa_cons pe_int pa_nil)))) pa_nil)))))
    (pss_cons (ps_set (i := 4) nd rfl (.inl rfl) (C8.pe_c cs.text hr (by decide) (by rfl) (pa_cons (pv 3) pa_nil)))
    (pss_cons (ps_for PassesOwn.never rfl (pi_range1 (by rfl) M.range (pa_cons pe_int pa_nil)) (pg_name (i := 5) nd rfl (.inl rfl))
      (pss_cons (ps_set (i := 6) nd rfl (.inl rfl) (C8.pe_c cs.pull hr (by decide) (by rfl) (pa_cons (pv 1) (pa_cons (pe_op op_add (pe_callB call_len_str (by rfl) M.len boot_len (pa_cons (pv 4) pa_nil)) pe_int) pa_nil))))
    (pss_cons (ps_set (i := 7) nd rfl (.inl rfl) (C8.pe_c cs.any hr (by decide) (by rfl) (pa_cons (pv 1) (pa_cons (pe_lst (pa_cons pe_str (pa_cons pe_str (pa_cons pe_str (pa_cons pe_str (pa_cons pe_str (pa_cons pe_str (pa_cons pe_str (pa_cons pe_str (pa_cons pe_str (pa_cons pe_str (pa_cons pe_str (pa_cons pe_str (pa_cons pe_str pa_nil)))))))))))))) pa_nil))))
    (pss_cons (ps_set (i := 11) nd rfl (.inr rfl) (pe_op op_add_str (pe_op op_add_str (pe_slice sl_str (pv 4) po_none (po_some (pv 6))) (pv 7)) (pe_slice sl_str (pv 4) (po_some (pe_op op_add (pv 6) (C8.pe_c cs.pull hr (by decide) (by rfl) (pa_cons (pv 1) (pa_cons pe_int pa_nil))))) po_none)))
    (pss_cons (ps_set (i := 8) nd rfl (.inl rfl) (pe_callC GY (hr.mono (by decide)) (fun _ => rfl) (by rfl) dY.m dY.k bY (pa_cons (pe_lamA TB rfl (by show freeB (defScope s_law) _ = true; decide +kernel)) pa_nil)))
    (pss_cons (ps_if (PW.pt (pw_and (pt_cmpR op_eq (pe_ix ix_tup (pv 8) pe_int (fun _ _ => rfl)) pe_str (nomark _)) (pw_and1 (pt_cmpR op_ne (pe_call GF (hr.mono (by decide)) (by rfl) dF.m dF.k bF .nil L2.passL (pa_cons (pe_ix ix_tup (pv 8) pe_int (fun _ _ => rfl)) pa_nil)) (pv 11) (nomark _))))) (pss_one (ps_ret pe_bl)) pss_nil)
    (pss_one (ps_if (PW.pt (pw_and (pt_cmpR op_ne (pe_ix ix_tup (pv 8) pe_int (fun _ _ => rfl)) pe_str (nomark _)) (pw_and1 (PW.pt (pw_or (pt_not (pt_val (C8.pe_c (cs.like 30) hr (by decide) (by rfl) (pa_cons (pv 8) (pa_cons (pe_tup (pa_cons pe_str (pa_cons (pe_tup (pa_cons (pv 11) pa_nil)) pa_nil))) pa_nil))))) (pw_or1 (pt_cmpR op_eq (pv 11) (pv 4) (nomark _)))))))) (pss_one (ps_ret pe_bl)) pss_nil))))))))
    hu))))), ?_⟩
  refine ⟨_, rfl, a, ns, rfl, hS, h63, fun b l H1 nb s1 B1 => ?_⟩
  obtain ⟨xs1, hb1⟩ : ∃ xs, H1 b = some (.lst xs) := by
    obtain ⟨_, _, _, _, _, z, _⟩ := B1
    exact ⟨_, z⟩
  have T1 : LamX.TabS H1 T qLam := (LamX.TabS.nil hT).ext s1
  have U1 : LamX.TabS H1 T2 qRd := (LamX.TabS.nil hT2).ext s1
  refine ⟨_, rfl, b, l, 3, rfl, B1, by decide, fun wa ws H2 hN nwa k2 B2 hwa => ?_⟩
  have nwb := (B1.new nwa).1
  have T2' := tabS_kp T1 k2 hb1
  have U2 := tabS_kp U1 k2 hb1
  have hlw : ∀ w ∈ ws, Low w := fun w hw => (hN.word w hw).1
  have hl5 : ∀ w ∈ ws, w.length ≤ 5 := fun w hw => (hN.word w hw).2.2
  have hlen := hN.len
  have hnm : ∀ w ∈ ws, isNm w = true := fun w hw => by
    rw [isNm_low (hlw w hw) (hN.word w hw).2.1]
    exact decide_eq_true (Nat.le_trans (hl5 w hw) (by decide))
  obtain ⟨c0, c1, c2, rfl⟩ : ∃ c0 c1 c2, ws = [c0, c1, c2] := by
    match ws, hlen with
    | [a, b, c], _ => exact ⟨a, b, c, rfl⟩
  refine ⟨_, rfl, wa, _, 0, _, rfl, rfl, SqL.of hwa, rfl, (by show 2 ≤ sizeLine; decide), fun p1 n1 => ?_⟩
  have y1 := same_new n1 (.tup [.str "atom", .str (SX.S c0)])
  refine ⟨_, rfl, _, rfl, b, l, wa, [c0, c1, c2], 4, rfl, B2.kp y1, SqL.of (y1 _ _ hwa), nwb, by show 0 < 3; decide, by show 3 ≤ 1000; decide, by decide, by decide, fun x0 t0 H4 ot0 fx0 k4 B4 => ⟨(by show 3 ≤ sizeLine; decide), fun p2 n2 => ?_⟩⟩
  have y2 := same_new n2 (.tup [.str "and", .ref p1, x0])
  have fp1 : Fr K (upd H2 p1 (.tup [.str "atom", .str (SX.S c0)])) (.ref p1) (.atom c0) := mk_atom (SqT.of upd_same)
  obtain ⟨F, eF⟩ : ∃ F : Fm, F = .bin 1 (.atom c0) t0 := ⟨_, rfl⟩
  have fx : Fr K (upd H4 p2 (.tup [.str "and", .ref p1, x0])) (.ref p2) F := by
    rw [eF]
    exact mk_bin (k := 1) (SqT.of upd_same) ((fp1.kp k4 (B2.kp y1)).same y2) (fx0.same y2)
  have oF : okF [c0, c1, c2] [] 5 F := by
    rw [eF]
    exact ⟨List.mem_cons_self, ot0⟩
  have B5 := B4.kp y2
  have hw5 := y2 _ _ (k4 _ _ (y1 _ _ hwa) nwb)
  have T5 := (tabS_bag (T2'.ext y1) k4 (B2.kp y1)).ext y2
  have U5 := (tabS_bag (U2.ext y1) k4 (B2.kp y1)).ext y2
  have bF := txt_le (ws := [c0, c1, c2]) (hs := []) (fun w hw => Nat.le_trans (hl5 w hw) (by decide)) (fun c h => by cases h) oF
  have e32 : 16 * 2 ^ 5 = 512 := by decide
  have lF : (txt F).length ≤ 261 := by
    have b4 := txt_le (ws := [c0, c1, c2]) (hs := []) (fun w hw => Nat.le_trans (hl5 w hw) (by decide)) (fun c h => by cases h) ot0
    have e16 : 16 * 2 ^ (4 : Int).toNat = 256 := by decide
    have h5 := hl5 c0 List.mem_cons_self
    rw [eF]
    show (40 :: (c0 ++ ([32, sgn 1, 32] ++ (txt t0 ++ [41])))).length ≤ 261
    simp only [List.length_cons, List.length_append, List.length_nil]
    omega
  have iF : isB 10 false F = true := isB_le (isB_ok (h := false) hnm (fun c h => by cases h) oF) (by decide)
  have pF : prW 10 false (txt F) = some F := prW_txt iF
  have dkF : Dk F.dat := by
    obtain ⟨h1, h2⟩ := ok_lay hlw (fun c h => by cases h) oF
    exact ⟨odk_up (n := 6) (by decide) (odk_ok (fun w hw => Nat.le_trans (hl5 w hw) (by decide)) (fun c h => by cases h) oF), h1, by omega⟩
  have dk0 : Dk (.str (SX.S c0)) := by
    have := hl5 c0 List.mem_cons_self
    exact ⟨odk_S (by omega), low_lay (hlw c0 List.mem_cons_self), Nat.zero_le _⟩
  refine ⟨_, rfl, .ref p2, F, rfl, fx, by omega, by omega, fun H6 s6 => ?_⟩
  refine ⟨4, rfl, by decide, by decide, for_range (lo := 0) (n := (4 : Int).toNat) (fun i σ H' => ∃ v5 v6 v7 v8 v11 : Option V, σ = [some (.ref a), some (.ref b), some (.ref wa), some (.ref p2), some (.str (SX.S (txt F))), v5, v6, v7, v8, none, none, v11, none] ∧ Bag H' b l ∧
      H' wa = some (.lst [.str (SX.S c0), .str (SX.S c1), .str (SX.S c2)]) ∧ Fr K H' (.ref p2) F ∧ LamX.TabS H' T qLam ∧ LamX.TabS H' T2 qRd)
    ⟨none, none, none, none, none, rfl, B5.kp s6, s6 _ _ hw5, fx.same s6, T5.ext s6, U5.ext s6⟩ ?_ ?_⟩
  · rintro i σ H7 hi ⟨v5, v6, v7, v8, v11, rfl, B7, hw7, fx7, T7, U7⟩
    have hzt : (SX.S (txt F)).length ≤ sizeLine := by
      rw [SX.S_len]
      exact small (by omega)
    refine ⟨_, rfl, _, rfl, _, rfl, hzt, _, _, rfl, rfl, b, l, _, rfl, B7, by omega, by rw [SX.S_len]; omega, fun at' H8 ha0 ha1 k8 B8 => ?_⟩
    refine ⟨_, rfl, (by show 13 ≤ sizeLine; decide), fun lp nlp => ?_⟩
    have g8 := same_new nlp (.lst (sgs.map V.str))
    refine ⟨b, l, .ref lp, sgs.map V.str, rfl, B8.kp g8, .inr ⟨lp, rfl, (B8.new nlp).1, .inl (SqL.of upd_same)⟩, by decide, by decide, fun r v H9 hr9 k9 B9 => ?_⟩
    obtain ⟨sg, hsg, rfl⟩ : ∃ sg : Str, sg ∈ sgs ∧ v = .str sg := by
      rw [List.getElem?_map] at hr9
      obtain ⟨c, h1, h2⟩ := Option.map_eq_some_iff.mp hr9
      exact ⟨c, List.mem_of_getElem? h1, h2.symm⟩
    have lsg := sgs_len sg hsg
    have T9 := tabS_bag ((tabS_bag T7 k8 B7).ext g8) k9 (B8.kp g8)
    have U9 := tabS_bag ((tabS_bag U7 k8 B7).ext g8) k9 (B8.kp g8)
    have fx9 := ((fx7.kp k8 B7).same g8).kp k9 (B8.kp g8)
    have hw9 := k9 _ _ (g8 _ _ (k8 _ _ hw7 nwb)) nwb
    have cl : ∀ lo hi, (L2.cutS (SX.S (txt F)) lo hi).length ≤ 261 := fun lo hi => Nat.le_trans (cutS_length _ lo hi) (by rw [SX.S_len]; exact lF)
    refine ⟨_, rfl, _, rfl, at', rfl, _, rfl, hzt, _, rfl, _, _, rfl, rfl, small (by have := cl none (some at'); omega), ?_⟩
    refine ⟨_, rfl, _, rfl, _, rfl, b, l, 3, rfl, B9, by decide, by decide, fun m H10 m0 m3 k10 B10 => ⟨_, _, rfl, rfl, _, rfl, _, rfl, hzt, _, _, rfl, rfl, ?_, ?_⟩⟩
    · have h1 := cl none (some at')
      have h2 := cl (some (at' + m)) none
      rw [strLen_append]
      exact small (by omega)
    obtain ⟨zb, ezb⟩ : ∃ zb : Str, zb = L2.cutS (SX.S (txt F)) none (some at') ++ sg ++ L2.cutS (SX.S (txt F)) (some (at' + m)) none := ⟨_, rfl⟩
    have lzb : zb.cps.toList.length ≤ 1000 := by
      have h1 := cl none (some at')
      have h2 := cl (some (at' + m)) none
      have h3 : zb.length ≤ 1000 - 1 + 1 := by
        rw [ezb, strLen_append, strLen_append]
        omega
      rw [Array.length_toList]
      exact h3
    rw [← ezb]
    have T10 := tabS_bag T9 k10 B9
    have U10 := tabS_bag U9 k10 B9
    have fx10 := fx9.kp k10 B9
    have hw10 := k10 _ _ hw9 nwb
    refine ⟨T10, fun f0 H12 k12 T12 n12 La => ?_⟩
    intro lpins okX PP nl
    obtain ⟨psT, hTT, _⟩ := id T10
    have fx12 : Fx H10 H12 := .kpT k12 hTT
    obtain ⟨D, eD⟩ : ∃ D : PyData, D = (match prW 10 false zb.cps.toList with
      | some u => .tuple [.str "", u.dat]
      | none => .tuple [.str "InvalidFormula", .tuple [.str zb]]) := ⟨_, rfl⟩
    refine try_read2 (n := 20) (d := D) nl ?_ (fun H13 s13 => ?_) (fun v2 H140 H14 e14 pin14 s14 hv14 => ⟨pin14, ?_⟩)
    · cases e : prW 10 false zb.cps.toList with
      | none =>
        rw [e] at eD
        rw [eD]
        rfl
      | some u =>
        rw [e] at eD
        rw [eD]
        have hu := isB_dep1 (prW_sound e).2
        show (decide (2 ≤ 1000) && (true && (tupd 19 u.dat && true))) = true
        rw [tupd_up (by omega) (tupd_fm u)]
        rfl
    · obtain ⟨pin2, sr⟩ := rem_of nl s13
      refine ask_of (k := 32) (N := ["_law_bent"]) (σ := [some (.str zb)]) (ps := []) (lamSc_by (by decide +kernel)) (La.fx ((Fx.of (add_same nl)).trans (.of s13))) (.inl ⟨rfl, rfl, fun _ _ _ _ => rfl⟩)
        (cells_in okX PP (free_by (by show freeB (defScope s_law) _ = true; decide +kernel)) (fun i y v h1 h2 => ?_)) (by decide +kernel) pin2 rfl
        (fun A outer s c' room => ⟨_, pe_call GR (room.mono (by decide)) (by rfl) dR.m dR.k bR .nil (L2.passes_call (L2.takes_of rfl rfl rfl rfl) (fun _ _ _ _ h => h)) (pa_cons (pv 0) pa_nil), ?_⟩)
      · match i, h1, h2 with
        | 0, h1, h2 =>
          cases h1
          cases h2
          exact ⟨11, rfl, rfl⟩
        | i + 1, h1, _ => simp at h1
      · refine ⟨_, rfl, .str zb, 1, .str zb, rfl, .str _, by decide, rfl, txok lzb, ?_⟩
        cases e : prW 10 false zb.cps.toList with
        | none =>
          rw [show rfD (.str zb) = none from e]
          rw [e] at eD
          rw [eD]
          exact raisL_of (told_err EF pin2)
        | some u =>
          rw [show rfD (.str zb) = some u from e]
          rw [e] at eD
          rw [eD]
          exact fun v H3 hv s3 n3 t' H4 s4 _ h4 => told_val pin2 s3 hv n3 s4 h4
    rw [← e14]
    have B12 := (bag_kpT B10 k12 hTT).kp s14
    have hw12 := s14 _ _ (k12 _ _ hw10 (ne_of hw10 hTT (fun z => by cases z)))
    have T14 := T12.ext s14
    have U14 := (tabS_two U10 k12 hTT nT).ext s14
    have fx14 := (fx10.tp (fx_tp fx12)).same s14
    cases e : prW 10 false zb.cps.toList with
    | none =>
      rw [e] at eD
      rw [eD] at hv14
      obtain ⟨p, x, y, rfl, sp, hx0, hy0⟩ := dp_two hv14
      cases hx0
      refine ⟨_, rfl, p, _, _, _, rfl, rfl, sp, rfl, rfl, _, rfl, iteE (by decide +kernel) (iteE rfl ?_)⟩
      refine ⟨_, rfl, p, _, _, _, rfl, rfl, sp, rfl, rfl, _, rfl, iteU (by decide +kernel) ?_⟩
      refine ⟨_, rfl, _, rfl, (by show 1 ≤ sizeLine; decide), fun u1 z1 => ⟨(by show 2 ≤ sizeLine; decide), fun u2 z2 => ?_⟩⟩
      have w1 := same_new z1 (.tup [.str zb])
      have w2 := same_new z2 (.tup [.str "InvalidFormula", .ref u1])
      refine ⟨_, _, .tuple [.str "InvalidFormula", .tuple [.str zb]], rfl, Da_of (Dp_same (w1.trans w2) hv14), Da_of (.tup (SqT.of upd_same) (.cons (.str _) (.cons (.tup (SqT.of (w2 _ _ upd_same)) (.cons (.str _) .nil)) .nil))), rfl, fun H15 s15 => ⟨_, rfl, iteE rfl ?_⟩⟩
      refine ⟨_, rfl, _, rfl, rfl, _, rfl, iteE (decide_eq_false fun z => ?_) ?_⟩
      · injection z with z
        rw [z] at e
        have e2 : prW 10 false (txt F) = none := e
        rw [pF] at e2
        cases e2
      · have sE := w1.trans (w2.trans s15)
        exact ⟨_, _, _, _, _, rfl, B12.kp sE, sE _ _ hw12, fx14.same sE, T14.ext sE, U14.ext sE⟩
    | some u =>
      rw [e] at eD
      rw [eD] at hv14
      obtain ⟨p, x, y, rfl, sp, hx0, hy0⟩ := dp_two hv14
      cases hx0
      refine ⟨_, rfl, p, _, _, _, rfl, rfl, sp, rfl, rfl, _, rfl, iteU (by decide +kernel) ?_⟩
      obtain ⟨u1, u2⟩ := prW_sound e
      have ub := isB_dep1 u2
      have lu : (txt u).length ≤ 1000 := by
        rw [← u1]
        exact lzb
      refine ⟨_, rfl, p, _, _, _, rfl, rfl, sp, rfl, y, u, rfl, hy0, isB_sml u2, isB_shp u2 (by decide), by omega, by omega, ?_⟩
      rw [u2, Bool.true_or, if_pos rfl]
      refine fun H15 s15 => ⟨_, rfl, rfl, _, rfl, ?_⟩
      have hne : (!decide (V.str (SX.S (txt u)) = V.str zb)) = false := by
        rw [← u1, S_of, decide_eq_true rfl]
        rfl
      refine iteE hne ?_
      refine ⟨_, rfl, p, _, _, _, rfl, rfl, sameT s15 sp, rfl, rfl, _, rfl, iteE (by decide +kernel) (iteE rfl ?_)⟩
      exact ⟨_, _, _, _, _, rfl, B12.kp s15, s15 _ _ hw12, fx14.same s15, T14.ext s15, U14.ext s15⟩
  · rintro σ H7 ⟨v5, v6, v7, v8, v11, rfl, B7, hw7, fx7, T7, U7⟩
    exact hq _ H7 _ _ _ _ _ _ _ _ wa (.ref p2) F.dat _ _ _ q hw7 fx7 dk0 dkF U7
end

end Ag

namespace Ag
open PySem PySem.Spec PyProof.Rows L2
/-! ### what the top leaves of the errors' classes, of copied, of the law's own table -/
section
variable {P : Program} {w : World} {K : PySem.W.Frag} {mg : Str → Option Value} {base : Heap} {h : Heap}
theorem exm_of {C D : Addr} {b : Bool} (h1 : PySem.W.subIn K (.ref D) (.type "BaseException") = some true) (h2 : PySem.W.isClsIn K D = true) (h3 : PySem.W.typeIn K (.ref D) = some (.type "type")) (h4 : PySem.W.subIn K (.ref C) (.ref D) = some b) : PySem.W.exmOne K (.ref C) (.ref D) = some b := by
  have z : (PySem.W.clsIn K D).isSome = true := h2
  have e1 : (PySem.W.subIn K (.ref D) (.type "BaseException") == some true) = true := by
    rw [h1]
    rfl
  have e3 : (PySem.W.typeIn K (.ref D) == some (.type "type")) = true := by
    rw [h3]
    exact beq_self_eq_true _
  have e2 : ((PySem.W.clsIn K D).isSome && PySem.W.typeIn K (.ref D) == some (.type "type")) = true := by
    rw [z, e3]
    rfl
  exact (if_pos e1).trans ((if_pos e2).trans h4)
/-- the classes of the clause, as classes -/
structure TryC (K : PySem.W.Frag) (c : Addr) : Prop where
  ex : PySem.W.subIn K (.ref c) (.type "BaseException") = some true
  cl : PySem.W.isClsIn K c = true
  ty : PySem.W.typeIn K (.ref c) = some (.type "type")
theorem exm3 {C cG cM cN : Addr} {b1 b2 b3 : Bool} (G : TryC K cG) (M : TryC K cM) (N : TryC K cN) (h1 : PySem.W.subIn K (.ref C) (.ref cG) = some b1) (h2 : PySem.W.subIn K (.ref C) (.ref cM) = some b2) (h3 : PySem.W.subIn K (.ref C) (.ref cN) = some b3) (e : (b1 || (b2 || (b3 || false))) = true) :
    PySem.W.exmAny K (.ref C) [.ref cG, .ref cM, .ref cN] = some true := by
  unfold PySem.W.exmAny
  rw [exm_of G.ex G.cl G.ty h1]
  unfold PySem.W.exmAny
  rw [exm_of M.ex M.cl M.ty h2]
  unfold PySem.W.exmAny
  rw [exm_of N.ex N.cl N.ty h3]
  unfold PySem.W.exmAny
  show some (b1 || (b2 || (b3 || false))) = some true
  rw [e]
theorem tryc_mk {x : Str} {c : Addr} (X : K.In h) (G : h.Ns mainGlobals mg) (a : PySem.W.nsIn K mainGlobals x = some (some (.ref c))) (ex : PySem.W.subIn K (.ref c) (.type "BaseException") = some true) (cl : PySem.W.isClsIn K c = true) (ty : PySem.W.typeIn K (.ref c) = some (.type "type")) :
    mg x = some (.ref c) ∧ TryC K c := ⟨PySem.W.mg_of X G a, ex, cl, ty⟩
theorem errk_mk {x : Str} {C fI cG cM cN : Addr} {nm q : Str} {N : Addr} {bs : List Value} {sn : List Str} {sub : List Value} {ab : Bool} {col : Option Bool} {dd : Option Addr} {m0 m1 m2 m3 m5 : Option Value} {b1 b2 b3 : Bool} (X : K.In h) (G : h.Ns mainGlobals mg)
    (TG : TryC K cG) (TM : TryC K cM) (TN : TryC K cN) (a : PySem.W.nsIn K mainGlobals x = some (some (.ref C)))
    (l : K.lookup C = some (excClassObj nm q C N bs [.ref cG, .type "ValueError", .type "Exception", .type "BaseException", .type "object"] true sn sub ab col dd m0 m1 m2 m3 m5 "ValueError.__new__"))
    (sa : PySem.W.findIn K (.ref C) "__setattr__" = some (some (.builtin "object.__setattr__"))) (ga : PySem.W.findIn K (.ref C) "__getattribute__" = some (some (.builtin "BaseException.__getattribute__"))) (gg : PySem.W.findIn K (.ref C) "__getattr__" = some none)
    (n1 : PySem.W.findIn K (.ref C) "code" = some none) (n2 : PySem.W.findIn K (.ref C) "value" = some none) (n3 : PySem.W.findIn K (.ref C) "at" = some none) (n4 : PySem.W.findIn K (.ref C) "line" = some none) (n5 : PySem.W.findIn K (.ref C) "most" = some none) (n6 : PySem.W.findIn K (.ref C) "path" = some none) (n7 : PySem.W.findIn K (.ref C) "name" = some none) (n8 : PySem.W.findIn K (.ref C) "user" = some none) (n9 : PySem.W.findIn K (.ref C) "reason" = some none)
    (iC : PySem.W.findIn K (.ref C) "__init__" = some (some (.ref fI))) (tI : PySem.W.typeIn K (.ref fI) = some (.type "function")) (kC : PySem.W.keepIn K (.ref C) = true) (eC : PySem.W.subIn K (.ref C) (.type "BaseException") = some true) (tC : PySem.W.typeIn K (.ref C) = some (.type "type")) (hC : PySem.W.hasDictIn K C = true)
    (s1 : PySem.W.subIn K (.ref C) (.ref cG) = some b1) (s2 : PySem.W.subIn K (.ref C) (.ref cM) = some b2) (s3 : PySem.W.subIn K (.ref C) (.ref cN) = some b3) (hb : (b1 || (b2 || (b3 || false))) = true) : ErrK K mg x C fI cG cM cN := by
  refine ⟨⟨⟨nm, q, N, bs, _, sn, sub, ab, col, dd, m0, m1, m2, m3, m5, l, rfl⟩, sa, eC, tC, kC⟩, ⟨⟨ga, gg, eC, hC⟩, fun n hn => ?_⟩, iC, tI, PySem.W.mg_of X G a, exm3 TG TM TN s1 s2 s3 hb⟩
  simp only [List.mem_cons, List.not_mem_nil, or_false] at hn
  rcases hn with rfl | rfl | rfl | rfl | rfl | rfl | rfl | rfl | rfl
  · exact n1
  · exact n2
  · exact n3
  · exact n4
  · exact n5
  · exact n6
  · exact n7
  · exact n8
  · exact n9
theorem einit_mk {x q : Str} {st : Stmt} {n : Str} {C f cG cM cN : Addr} {od an : Option Addr} {sl : Array (Option Value)} {oc kV dc pm cd ct : Value} (E : ErrK K mg x C f cG cM cN) (l : K.lookup f = some ⟨oc, od, .func (PySem.W.fnOf "__init__" q (defArgs st) (defBody st) (defScope st) .none kV dc pm an cd ct), sl⟩) (c : PySem.W.codeIn K cd q = true) (k : PySem.W.keepIn K (.ref f) = true)
    (hb : ∀ (kV doc pm : Value) (an : Option Addr) (cdv ct : Value) (us : List Value), us.length = 2 → bindArgs (PySem.W.fnOf "__init__" q (defArgs st) (defBody st) (defScope st) .none kV doc pm an cdv ct) ⟨us, []⟩ = pure ((["self", n] : List Str).zip us)) :
    Fun K "__init__" q st f (PySem.W.fnOf "__init__" q (defArgs st) (defBody st) (defScope st) .none kV dc pm an cd ct) ∧ Binds K (PySem.W.fnOf "__init__" q (defArgs st) (defBody st) (defScope st) .none kV dc pm an cd ct) ["self", n] [] :=
  ⟨fun_mk (st := st) l c k, (fun_mk (st := st) l c k).binds hb⟩
theorem copd_mk {f D : Addr} {od an odD : Option Addr} {sl slD : Array (Option Value)} {oc kV dc pm cd ct ocD : Value} {nD : Nat} {t : Tok} (X : K.In h) (G : h.Ns mainGlobals mg) (a : PySem.W.nsIn K mainGlobals "copied" = some (some (.ref f)))
    (l : K.lookup f = some ⟨oc, od, .func (PySem.W.fnOf "copied" "copied" (defArgs s_copied) (defBody s_copied) (defScope s_copied) (.ref D) kV dc pm an cd ct), sl⟩)
    (lD : K.lookup D = some ⟨ocD, odD, .seq #[.int 12 t] nD, slD⟩) (c : PySem.W.codeIn K cd "copied" = true) (k : PySem.W.keepIn K (.ref f) = true) :
    mg "copied" = some (.ref f) ∧ CopD K f (PySem.W.fnOf "copied" "copied" (defArgs s_copied) (defBody s_copied) (defScope s_copied) (.ref D) kV dc pm an cd ct) :=
  ⟨PySem.W.mg_of X G a, ⟨⟨oc, od, .ref D, kV, dc, pm, an, cd, ct, sl, rfl, l, c, .inr ⟨by simp, D, _, [.int 12 t], nD, rfl, lD, rfl, .cons ⟨t, rfl⟩ .nil⟩, .inl rfl⟩, k⟩⟩
theorem copied_both {f : Addr} {fd : FuncData} (F : CopD K f fd) (m : mg "copied" = some (.ref f)) (M : CopM mg) : C8.Cal P w K mg base 13 "copied" (spCp K 13) [.int 12] := by
  obtain ⟨d0, r0, b0⟩ := F.binds1 (ps := ["value", "depth"]) 2 1 (by simp) rfl (fun T kV doc pm an cdv ct us its l1 l2 => match us, its, l1, l2 with | [_, _], [_], _, _ => ⟨_, rfl, rfl⟩)
  cases r0
  obtain ⟨d1, r1, b1⟩ := F.binds1 (ps := ["value", "depth"]) 1 0 (by simp) rfl (fun T kV doc pm an cdv ct us its l1 l2 => match us, its, l1, l2 with | [_], [_], _, _ => ⟨_, rfl, rfl⟩)
  exact ⟨f, fd, _, d1, ok_copied F M (copied_cal F b0 m M 12), m, F.kp, b1, r1⟩
end

section
variable {P : Program} {w : World} {K : PySem.W.Frag} {mg : Str → Option Value} {base : Heap}
theorem conI_mk {h : Heap} {x : Str} {n : Int} {t : Tok} (X : K.In h) (G : h.Ns mainGlobals mg) (e : PySem.W.nsIn K mainGlobals x = some (some (.int n t))) : ∃ t, mg x = some (.int n t) := ⟨t, PySem.W.mg_of X G e⟩
theorem conS_mk {h : Heap} {x : Str} {n : Str} {t : Tok} (X : K.In h) (G : h.Ns mainGlobals mg) (e : PySem.W.nsIn K mainGlobals x = some (some (.str n t))) : ∃ t, mg x = some (.str n t) := ⟨t, PySem.W.mg_of X G e⟩
theorem joints_mk {h : Heap} {a : Addr} {od : Option Addr} {sl : Array (Option Value)} {n : Nat} {t1 t2 t3 : Tok} (X : K.In h) (G : h.Ns mainGlobals mg) (aJ : PySem.W.nsIn K mainGlobals "JOINTS" = some (some (.ref a)))
    (lJ : K.lookup a = some ⟨.type "tuple", od, .seq #[.str "then" t1, .str "and" t2, .str "or" t3] n, sl⟩) : ∃ a, mg "JOINTS" = some (.ref a) ∧ ∀ H, SqT K H a [.str "then", .str "and", .str "or"] :=
  ⟨a, PySem.W.mg_of X G aJ, fun H => .inr ⟨_, _, n, lJ, rfl, rfl, by show 3 ≤ sizeLine; decide, .cons ⟨_, rfl⟩ (.cons ⟨_, rfl⟩ (.cons ⟨_, rfl⟩ .nil))⟩⟩
theorem kd3 {a : Addr} {n : Nat} {k1 k2 k3 x1 x2 x3 : Str} {t1 t2 t3 u1 u2 u3 : Tok} (low : (a == sysModules) = false)
    (l : K.lookup a = some ⟨.type "dict", none, .dict #[⟨PyData.keyHash w.params k1, .str k1 t1, .str x1 u1⟩, ⟨PyData.keyHash w.params k2, .str k2 t2, .str x2 u2⟩, ⟨PyData.keyHash w.params k3, .str k3 t3, .str x3 u3⟩] n, #[]⟩) :
    KdIs K w a ∧ ∀ z, KdAt K w a z (if z = k1 then some (.str x1) else if z = k2 then some (.str x2) else if z = k3 then some (.str x3) else none) := by
  have kl : PySem.W.KeysLit w.params (#[⟨PyData.keyHash w.params k1, .str k1 t1, .str x1 u1⟩, ⟨PyData.keyHash w.params k2, .str k2 t2, .str x2 u2⟩, ⟨PyData.keyHash w.params k3, .str k3 t3, .str x3 u3⟩] : Array DictEntry).toList :=
    ⟨⟨k1, t1, rfl, rfl⟩, ⟨k2, t2, rfl, rfl⟩, ⟨k3, t3, rfl, rfl⟩, True.intro⟩
  refine ⟨⟨_, _, l, kl⟩, fun z => ?_⟩
  have e1 : ∀ (k : Str) (t : Tok), (Value.str k t).isStr z = decide (z = k) := fun k t => by
    have : (Value.str k t).isStr z = (k == z) := rfl
    rw [this]
    by_cases h : z = k
    · rw [decide_eq_true h, h]
      exact beq_self_eq_true _
    · rw [decide_eq_false h]
      exact beq_eq_false_iff_ne.mpr (fun e => h e.symm)
  refine ⟨_, _, if z = k1 then some (.str x1 u1) else if z = k2 then some (.str x2 u2) else if z = k3 then some (.str x3 u3) else none, l, kl, low, ?_, ?_⟩
  · unfold PySem.W.nsIn
    rw [l]
    simp only [List.find?_cons, List.find?_nil, e1]
    by_cases h1 : z = k1
    · simp [h1]
    · by_cases h2 : z = k2
      · rw [decide_eq_false h1, decide_eq_true h2, if_neg h1, if_pos h2]
      · by_cases h3 : z = k3
        · rw [decide_eq_false h1, decide_eq_false h2, decide_eq_true h3, if_neg h1, if_neg h2, if_pos h3]
        · rw [decide_eq_false h1, decide_eq_false h2, decide_eq_false h3, if_neg h1, if_neg h2, if_neg h3]
          rfl
  · by_cases h1 : z = k1
    · rw [if_pos h1, if_pos h1]
      exact ⟨_, rfl⟩
    · rw [if_neg h1, if_neg h1]
      by_cases h2 : z = k2
      · rw [if_pos h2, if_pos h2]
        exact ⟨_, rfl⟩
      · rw [if_neg h2, if_neg h2]
        by_cases h3 : z = k3
        · rw [if_pos h3, if_pos h3]
          exact ⟨_, rfl⟩
        · rw [if_neg h3, if_neg h3]
          exact True.intro
theorem signs_mk {h : Heap} {a : Addr} {n : Nat} {t1 t2 t3 u1 u2 u3 : Tok} (X : K.In h) (G : h.Ns mainGlobals mg) (aJ : PySem.W.nsIn K mainGlobals "SIGNS" = some (some (.ref a))) (low : (a == sysModules) = false)
    (l : K.lookup a = some ⟨.type "dict", none, .dict #[⟨PyData.keyHash w.params "then", .str "then" t1, .str " > " u1⟩, ⟨PyData.keyHash w.params "and", .str "and" t2, .str " & " u2⟩, ⟨PyData.keyHash w.params "or", .str "or" t3, .str " | " u3⟩] n, #[]⟩) : SignsM K w mg := by
  obtain ⟨_, h2⟩ := kd3 low l
  refine ⟨a, PySem.W.mg_of X G aJ, fun k => ?_⟩
  have d0 : (SX.S [32, 62, 32]) = (" > " : Str) := by decide +kernel
  have d1 : (SX.S [32, 38, 32]) = (" & " : Str) := by decide +kernel
  have d2 : (SX.S [32, 124, 32]) = (" | " : Str) := by decide +kernel
  match k with
  | 0 =>
    show KDct K w a "then" (.str (SX.S [32, 62, 32]))
    rw [d0]
    exact (h2 "then").dct
  | 1 =>
    show KDct K w a "and" (.str (SX.S [32, 38, 32]))
    rw [d1]
    exact (h2 "and").dct
  | 2 =>
    show KDct K w a "or" (.str (SX.S [32, 124, 32]))
    rw [d2]
    exact (h2 "or").dct
theorem kinds_mk {h : Heap} {a : Addr} {n : Nat} {t1 t2 t3 u1 u2 u3 : Tok} (X : K.In h) (G : h.Ns mainGlobals mg) (aJ : PySem.W.nsIn K mainGlobals "KINDS" = some (some (.ref a))) (low : (a == sysModules) = false)
    (l : K.lookup a = some ⟨.type "dict", none, .dict #[⟨PyData.keyHash w.params " > ", .str " > " t1, .str "then" u1⟩, ⟨PyData.keyHash w.params " & ", .str " & " t2, .str "and" u2⟩, ⟨PyData.keyHash w.params " | ", .str " | " t3, .str "or" u3⟩] n, #[]⟩) : KindsM K w mg := by
  obtain ⟨h1, h2⟩ := kd3 low l
  refine ⟨a, PySem.W.mg_of X G aJ, h1, fun cs => ?_⟩
  have d0 : (" > " : Str) = SX.S [32, 62, 32] := by decide +kernel
  have d1 : (" & " : Str) = SX.S [32, 38, 32] := by decide +kernel
  have d2 : (" | " : Str) = SX.S [32, 124, 32] := by decide +kernel
  have h3 := h2 (SX.S cs)
  rw [d0, d1, d2] at h3
  unfold kndOf
  by_cases e0 : cs = [32, 62, 32]
  · rw [if_pos (by rw [e0])] at h3
    rw [if_pos e0]
    exact h3
  · rw [if_neg (fun z => e0 (SX.S_inj z))] at h3
    rw [if_neg e0]
    by_cases e1 : cs = [32, 38, 32]
    · rw [if_pos (by rw [e1])] at h3
      rw [if_pos e1]
      exact h3
    · rw [if_neg (fun z => e1 (SX.S_inj z))] at h3
      rw [if_neg e1]
      by_cases e2 : cs = [32, 124, 32]
      · rw [if_pos (by rw [e2])] at h3
        rw [if_pos e2]
        exact h3
      · rw [if_neg (fun z => e2 (SX.S_inj z))] at h3
        rw [if_neg e2]
        exact h3
theorem copiedL_both {f : Addr} {fd : FuncData} (F : CopD K f fd) (m : mg "copied" = some (.ref f)) (M : CopM mg) : C8.Cal P w K mg base 13 "copied" (spCpL K 13) [.int 12] := by
  obtain ⟨d0, r0, b0⟩ := F.binds1 (ps := ["value", "depth"]) 2 1 (by simp) rfl (fun T kV doc pm an cdv ct us its l1 l2 => match us, its, l1, l2 with | [_, _], [_], _, _ => ⟨_, rfl, rfl⟩)
  cases r0
  obtain ⟨d1, r1, b1⟩ := F.binds1 (ps := ["value", "depth"]) 1 0 (by simp) rfl (fun T kV doc pm an cdv ct us its l1 l2 => match us, its, l1, l2 with | [_], [_], _, _ => ⟨_, rfl, rfl⟩)
  exact ⟨f, fd, _, d1, ok_copiedL F M (copiedL_cal F b0 m M 12), m, F.kp, b1, r1⟩
end
end Ag

namespace Ag
open PySem PySem.Spec PyProof.Rows L2
section
variable {P : Program} {w : World} {K : PySem.W.Frag} {mg : Str → Option Value} {base : Heap}
theorem law_main {f c T g c2 T2 : Addr} {kV dc pm ct kV2 dc2 pm2 ct2 : Value} {an an2 : Option Addr} (FL : Fun K "law" "law" s_law f (PySem.W.fnOf "law" "law" (defArgs s_law) (defBody s_law) (defScope s_law) .none kV dc pm an (.ref c) ct)) (TB : LamX.TabB base mg c T) (DG : Df K mg "_law_reader" s_law_reader ["_law_text_z"] g (PySem.W.fnOf "_law_reader" "_law_reader" (defArgs s_law_reader) (defBody s_law_reader) (defScope s_law_reader) .none kV2 dc2 pm2 an2 (.ref c2) ct2)) (TB2 : LamX.TabB base mg c2 T2) (nT : T2 ≠ T) {f_is_letter : Addr} {fd_is_letter : FuncData} (D_is_letter : Df K mg "is_letter" s_is_letter ["value"] f_is_letter fd_is_letter) {f_is_name : Addr} {fd_is_name : FuncData} (D_is_name : Df K mg "is_name" s_is_name ["value"] f_is_name fd_is_name) {f_is_formula : Addr} {fd_is_formula : FuncData} (D_is_formula : Df K mg "is_formula" s_is_formula ["value"] f_is_formula fd_is_formula) {f_is_shape : Addr} {fd_is_shape : FuncData} (D_is_shape : Df K mg "is_shape" s_is_shape ["value"] f_is_shape fd_is_shape) {f_is_built : Addr} {fd_is_built : FuncData} (D_is_built : Df K mg "is_built" s_is_built ["value", "depth", "holes"] f_is_built fd_is_built) {f_is_leaf : Addr} {fd_is_leaf : FuncData} (D_is_leaf : Df K mg "is_leaf" s_is_leaf ["value", "holes"] f_is_leaf fd_is_leaf) {f_formula_text : Addr} {fd_formula_text : FuncData} (D_formula_text : Df K mg "formula_text" s_formula_text ["formula"] f_formula_text fd_formula_text) {f_text_of : Addr} {fd_text_of : FuncData} (D_text_of : Df K mg "text_of" s_text_of ["formula"] f_text_of fd_text_of) {f_read_formula : Addr} {fd_read_formula : FuncData} (D_read_formula : Df K mg "read_formula" s_read_formula ["text"] f_read_formula fd_read_formula) {f_parsed : Addr} {fd_parsed : FuncData} (D_parsed : Df K mg "parsed" s_parsed ["text", "depth", "holes"] f_parsed fd_parsed) {f_parsed_at : Addr} {fd_parsed_at : FuncData} (D_parsed_at : Df K mg "parsed_at" s_parsed_at ["text", "at", "depth", "holes"] f_parsed_at fd_parsed_at) {f_parsed_joint : Addr} {fd_parsed_joint : FuncData} (D_parsed_joint : Df K mg "parsed_joint" s_parsed_joint ["text", "at", "depth", "holes"] f_parsed_joint fd_parsed_joint) {f_parsed_hole : Addr} {fd_parsed_hole : FuncData} (D_parsed_hole : Df K mg "parsed_hole" s_parsed_hole ["text", "at"] f_parsed_hole fd_parsed_hole) {f_parsed_atom : Addr} {fd_parsed_atom : FuncData} (D_parsed_atom : Df K mg "parsed_atom" s_parsed_atom ["text", "at"] f_parsed_atom fd_parsed_atom) {f_law_bag : Addr} {fd_law_bag : FuncData} (D_law_bag : Df K mg "_law_bag" s_law_bag ["_law_script"] f_law_bag fd_law_bag) {f_law_pull : Addr} {fd_law_pull : FuncData} (D_law_pull : Df K mg "_law_pull" s_law_pull ["_law_bag_here", "_law_many"] f_law_pull fd_law_pull) {f_law_any : Addr} {fd_law_any : FuncData} (D_law_any : Df K mg "_law_any" s_law_any ["_law_bag_here", "_law_things"] f_law_any fd_law_any) {f_law_like : Addr} {fd_law_like : FuncData} (D_law_like : Df K mg "_law_like" s_law_like ["_law_found", "_law_due"] f_law_like fd_law_like) {f_law_fields : Addr} {fd_law_fields : FuncData} (D_law_fields : Df K mg "_law_fields" s_law_fields ["_law_e"] f_law_fields fd_law_fields) {f_law_try : Addr} {fd_law_try : FuncData} (D_law_try : Df K mg "_law_try" s_law_try ["_law_ask"] f_law_try fd_law_try) {f_law_names : Addr} {fd_law_names : FuncData} (D_law_names : Df K mg "_law_names" s_law_names ["_law_bag_here", "_law_many"] f_law_names fd_law_names) {f_law_form : Addr} {fd_law_form : FuncData} (D_law_form : Df K mg "_law_form" s_law_form ["_law_bag_here", "_law_words", "_law_deep"] f_law_form fd_law_form) {f_law_text : Addr} {fd_law_text : FuncData} (D_law_text : Df K mg "_law_text" s_law_text ["_law_term"] f_law_text fd_law_text) (z_len : mg "len" = none) (z_int : mg "int" = none) (z_list : mg "list" = none) (z_isinstance : mg "isinstance" = none) (z_dict : mg "dict" = none) (z_tuple : mg "tuple" = none) (z_bool : mg "bool" = none) (z_str : mg "str" = none) (z_all : mg "all" = none) (z_zip : mg "zip" = none) (z_sorted : mg "sorted" = none) (z_range : mg "range" = none) (v_LETTERS : ∃ t, mg "LETTERS" = some (.str "abcdefghijklmnopqrstuvwxyz" t)) (v_LONGEST_NAME : ∃ t, mg "LONGEST_NAME" = some (.int 6 t)) (v_FORMULA_DEPTH : ∃ t, mg "FORMULA_DEPTH" = some (.int 10 t)) (v_SHAPE_DEPTH : ∃ t, mg "SHAPE_DEPTH" = some (.int 5 t)) (JT : ∃ a, mg "JOINTS" = some (.ref a) ∧ ∀ H, SqT K H a [.str "then", .str "and", .str "or"]) (SG : SignsM K w mg) (KN : KindsM K w mg) {fC : Addr} {fdC : FuncData} (CP : mg "copied" = some (.ref fC) ∧ CopD K fC fdC) {cG cM cN C fI : Addr} {fdI : FuncData} (mG : mg "GroundError" = some (.ref cG)) (mM : mg "Missing" = some (.ref cM)) (mN : mg "NothingLeft" = some (.ref cN))
    (EF : ErrK K mg "InvalidFormula" C fI cG cM cN) (IF : Fun K "__init__" "InvalidFormula.__init__" s_InvalidFormula_init fI fdI ∧ Binds K fdI ["self", "value"] []) : FnOk P w K mg base CX0 40 f (PySem.W.fnOf "law" "law" (defArgs s_law) (defBody s_law) (defScope s_law) .none kV dc pm an (.ref c) ct) ["_law_script"] (spLawT K T T2) := by
  have LM : LikeM mg := ⟨z_isinstance, z_dict, z_list, z_tuple, z_bool, z_int, z_str, z_len, z_all, z_zip, z_sorted⟩
  have NM : NamesM mg := ⟨z_range, z_int, z_len⟩
  have NA : NameM mg := ⟨z_isinstance, z_str, z_len, z_all, v_LETTERS, v_LONGEST_NAME⟩
  have cP : C8.Cal P w K mg base 1 "_law_pull" spPull [] := D_law_pull.cal (ok_pull D_law_pull.fn z_len z_int)
  have cA : C8.Cal P w K mg base 2 "_law_any" (spAny K) [] := D_law_any.cal (ok_any D_law_any.fn cP z_len)
  have cF := form_cal D_law_form.fn D_law_form.bi D_law_form.mg cP cA
  have cLe : C8.Cal P w K mg base 1 "is_letter" (spLetter K) [] := D_is_letter.cal (ok_letter D_is_letter.fn NA)
  have cNa : C8.Cal P w K mg base 2 "is_name" (spName K) [] := D_is_name.cal (ok_name D_is_name.fn cLe NA)
  have cLf : C8.Cal P w K mg base 3 "is_leaf" (spLeaf K) [] := D_is_leaf.cal (ok_leaf D_is_leaf.fn cNa cLe)
  have cLfD : C8.Cal P w K mg base 3 "is_leaf" (spLeafD K) [] := D_is_leaf.cal (ok_leafD D_is_leaf.fn cNa cLe)
  have BM : BuiltM K mg := ⟨z_isinstance, z_tuple, z_len, z_all, JT⟩
  have cBu := built_cal D_is_built cLf BM
  have cBuE := builtE_cal D_is_built cLfD BM
  have cFo : C8.Cal P w K mg base 15 "is_formula" (spFormula K) [] := D_is_formula.cal (ok_formula D_is_formula.fn (cBu 11) v_FORMULA_DEPTH)
  have cFoE : C8.Cal P w K mg base 15 "is_formula" (spFormE K) [] := D_is_formula.cal (ok_formE D_is_formula.fn (cBuE 11) v_FORMULA_DEPTH)
  have GS := ok_is_shape (P := P) (w := w) (base := base) D_is_shape.fn (cBu 11) v_SHAPE_DEPTH
  have cSh : C8.Cal P w K mg base 15 "is_shape" (spShp K) [] := D_is_shape.cal GS
  have cTx := textof_cal (P := P) (w := w) (base := base) D_text_of.fn D_text_of.bi D_text_of.mg z_len SG
  have cLx := ltext_cal (P := P) (w := w) (base := base) D_law_text.fn D_law_text.bi D_law_text.mg
  have cH : C8.Cal P w K mg base 2 "parsed_hole" (spPH K) [] := D_parsed_hole.cal (ok_phole D_parsed_hole.fn cLe)
  have cPm : C8.Cal P w K mg base 3 "parsed_atom" (spPA K) [] := D_parsed_atom.cal (ok_patom D_parsed_atom.fn cLe cNa)
  have cPA := pat_cal (P := P) (w := w) (base := base) D_parsed_at.fn D_parsed_at.bi D_parsed_at.mg D_parsed_joint.fn D_parsed_joint.bi D_parsed_joint.mg KN cH cPm
  have cPd : C8.Cal P w K mg base 31 "parsed" (spParsedD K) [] := D_parsed.cal (ok_parsedD D_parsed.fn (cPA 13) z_isinstance z_str z_len)
  have cCp : C8.Cal P w K mg base 13 "copied" (spCp K 13) [.int 12] := copied_both CP.2 CP.1 ⟨z_isinstance, z_list, z_tuple, z_dict⟩
  have cCpL : C8.Cal P w K mg base 13 "copied" (spCpL K 13) [.int 12] := copiedL_both CP.2 CP.1 ⟨z_isinstance, z_list, z_tuple, z_dict⟩
  have GI := ok_InvalidFormula (P := P) (w := w) (base := base) IF.1 EF cCp
  have GIL := ok_InvalidFormulaL (P := P) (w := w) (base := base) IF.1 EF cCpL
  have GR := ok_rfD (P := P) (w := w) (base := base) D_read_formula.fn cPd v_FORMULA_DEPTH EF GIL IF.2
  have GF := ok_ft (P := P) (w := w) (base := base) D_formula_text.fn cFo cSh (cTx 14) EF GI IF.2
  have GFl := ok_fields (P := P) (w := w) (mg := mg) (base := base) D_law_fields.fn
  have GY := ok_try (P := P) (w := w) (base := base) (k := 33) D_law_try.fn ⟨mG, mM, mN⟩ GFl D_law_fields.mg D_law_fields.fn.kp D_law_fields.bi (by decide)
  have dR : Dn mg K "read_formula" f_read_formula := ⟨D_read_formula.mg, D_read_formula.fn.kp⟩
  have GRd := ok_reader (P := P) (w := w) (base := base) DG.fn rfl TB2 GR dR D_read_formula.bi
  exact ok_law FL rfl TB nT ⟨D_law_bag.cal (ok_bag D_law_bag.fn z_list), cP, cA, D_law_names.cal (ok_names D_law_names.fn cP cA NM), cF 4, like_cal D_law_like.fn D_law_like.bi D_law_like.mg LM, cLx 14, cFoE⟩ ⟨z_range, z_len⟩ GY ⟨D_law_try.mg, D_law_try.fn.kp⟩ D_law_try.bi
    GRd ⟨DG.mg, DG.fn.kp⟩ DG.bi EF GF ⟨D_formula_text.mg, D_formula_text.fn.kp⟩ D_formula_text.bi GR dR D_read_formula.bi
end
end Ag

namespace Ag
open PySem PyProof.Rows L2
theorem walkT2 {l : PySem.W.OpenLaw} {q : Program} {loose : List Str} {XP : (Str → Option Value) → Heap → Prop} {YP : World → Heap → Prop} {d : DefRec} {K : Params → PySem.W.Frag} (hn : l.most = some 63) (hdf : d.params.defaults = []) (hrec : ((recsOf q).any fun e => e.name == d.name) = true) (hrec2 : ((recsOf q).any fun e => e.name == "_law_reader") = true)
    (hY : ∀ (w : World) (h : Heap), YP w h → (K w.params).In h)
    (F : ∀ (w : World) (mg : Str → Option Value) (fa : Addr) (h : Heap), (K w.params).In h → h.Ns mainGlobals mg → mg d.name = some (.ref fa) → LamX.OwnTab (K w.params) fa h → (∀ fb, mg "_law_reader" = some (.ref fb) → LamX.OwnTab (K w.params) fb h) → LamX.LawAtS l w (K w.params) CX0 40 63 "_law_script" mg fa h) :
    PySem.W.WalkO q loose XP YP l.row.toRowW d [] (fun f vs => PySem.call f vs) := by
  refine Att.attach_callB hn hdf fun w s₀ s₁ mg mb fa o pm cd doc a vs ns G Y ho hd hcd hmg hobj hints hlen hbits hg => ?_
  have KX := hY w _ Y
  have own : ∀ (nm : Str) (fx : Addr), ((recsOf q).any fun e => e.name == nm) = true → mg nm = some (.ref fx) → LamX.OwnTab (K w.params) fx s₁.heap := fun nm fx hr hm2 c P o1 fd1 e dd vs1 sl k1 k2 k3 k4 k5 => by
    obtain ⟨dL, hm, hn1⟩ := List.any_eq_true.mp hr
    have hn2 : dL.name = nm := beq_iff_eq.mp hn1
    obtain ⟨a', o', fd', c', P', h1, h2, h3, h4, h5, h6⟩ := G.T.tab dL hm
    rw [hn2, hm2] at h1
    cases h1
    have g1 := KX _ _ k1
    rw [g1] at h2
    cases h2
    rw [k2] at h3
    cases h3
    rw [k3] at h4
    cases h4
    obtain ⟨⟨oc, vc, e1, _, e3, e4⟩, hP⟩ := h6
    have g2 := KX _ _ k4
    rw [g2] at e1
    cases e1
    cases e3
    rw [k5] at e4
    cases e4
    exact hP
  obtain ⟨fd, cs, sp, hT, nT, C, hb, hsp, hF⟩ := F w mg fa _ KX G.T.g hmg (own _ fa hrec hmg) (fun fb hb => own _ fb hrec2 hb)
  exact LamX.law_callTs KX G.T.g G.T.b G.T.builtins G.T.nolimit hg hT nT C G.T.bmain hobj hints (Nat.le_trans hlen (by decide)) ⟨rfl, by decide, by decide⟩ hF hb (fun H hH hS => hsp H a ns hlen hbits hH hS) fun H e s' z => z
theorem law_allT2 {l : PySem.W.OpenLaw} {w : World} {K : PySem.W.Frag} {h : Heap} {mg : Str → Option Value} {fa f c T g c2 T2 : Addr} (X : K.In h) (G : h.Ns mainGlobals mg) (hfa : mg "law" = some (.ref fa)) (own : LamX.OwnTab K fa h) (own2 : ∀ fb, mg "_law_reader" = some (.ref fb) → LamX.OwnTab K fb h)
    {od an dd : Option Addr} {sl sl2 : Array (Option Value)} {oc kV dc pm ct e : Value} {vs : Array Value} {od' an' dd' : Option Addr} {sl' sl2' : Array (Option Value)} {oc' kV' dc' pm' ct' e' : Value} {vs' : Array Value}
    (a : PySem.W.nsIn K mainGlobals "law" = some (some (.ref f))) (lk : K.lookup f = some ⟨oc, od, .func (PySem.W.fnOf "law" "law" (defArgs s_law) (defBody s_law) (defScope s_law) .none kV dc pm an (.ref c) ct), sl⟩) (cI : PySem.W.codeIn K (.ref c) "law" = true) (k : PySem.W.keepIn K (.ref f) = true)
    (lc : K.lookup c = some ⟨e, dd, .fields vs, sl2⟩) (lv : vs[11]? = some (.ref T)) (lT : K.lookup T = none) (ch : PySem.W.codeHdIn K c T = true)
    (a2 : PySem.W.nsIn K mainGlobals "_law_reader" = some (some (.ref g))) (lk2 : K.lookup g = some ⟨oc', od', .func (PySem.W.fnOf "_law_reader" "_law_reader" (defArgs s_law_reader) (defBody s_law_reader) (defScope s_law_reader) .none kV' dc' pm' an' (.ref c2) ct'), sl'⟩) (cI2 : PySem.W.codeIn K (.ref c2) "_law_reader" = true) (k2 : PySem.W.keepIn K (.ref g) = true)
    (lc2 : K.lookup c2 = some ⟨e', dd', .fields vs', sl2'⟩) (lv2 : vs'[11]? = some (.ref T2)) (lT2 : K.lookup T2 = none) (ch2 : PySem.W.codeHdIn K c2 T2 = true) (hb2 : ∀ (kV doc pm : Value) (an : Option Addr) (cdv ct : Value) (us : List Value), us.length = (["_law_text_z"] : List Str).length → bindArgs (PySem.W.fnOf "_law_reader" "_law_reader" (defArgs s_law_reader) (defBody s_law_reader) (defScope s_law_reader) .none kV doc pm an cdv ct) ⟨us, []⟩ = pure ((["_law_text_z"] : List Str).zip us))
    (H : ∀ base : Heap, K.In base → base.Ns mainGlobals mg → LamX.TabB base mg c T → LamX.TabB base mg c2 T2 → Fun K "law" "law" s_law f (PySem.W.fnOf "law" "law" (defArgs s_law) (defBody s_law) (defScope s_law) .none kV dc pm an (.ref c) ct) →
      Df K mg "_law_reader" s_law_reader ["_law_text_z"] g (PySem.W.fnOf "_law_reader" "_law_reader" (defArgs s_law_reader) (defBody s_law_reader) (defScope s_law_reader) .none kV' dc' pm' an' (.ref c2) ct') → FnOk l.prog w K mg base CX0 40 f (PySem.W.fnOf "law" "law" (defArgs s_law) (defBody s_law) (defScope s_law) .none kV dc pm an (.ref c) ct) ["_law_script"] (spLawT K T T2)) :
    LamX.LawAtS l w K CX0 40 63 "_law_script" mg fa h := by
  have ef := hfa.symm.trans (PySem.W.mg_of X G a)
  cases ef
  have eg : mg "_law_reader" = some (.ref g) := PySem.W.mg_of X G a2
  refine ⟨_, [(c, T), (c2, T2)], spLawT K T T2, fun p hp => ?_, fun p hp => ?_, fun p hp => ?_, fun s v => .of_eq rfl, fun H0 x ns hl _ hT hS => ⟨x, ns, rfl, hS, hl, hT (c, T) List.mem_cons_self, hT (c2, T2) (List.mem_cons_of_mem _ List.mem_cons_self), fun _ => rfl⟩, fun base b1 b2 tb => H base b1 b2 (tb (c, T) List.mem_cons_self) (tb (c2, T2) (List.mem_cons_of_mem _ List.mem_cons_self)) (fun_mk (st := s_law) lk cI k) ⟨fun_mk (st := s_law_reader) lk2 cI2 k2, eg, (fun_mk (st := s_law_reader) lk2 cI2 k2).binds hb2⟩⟩
  · rcases List.mem_cons.mp hp with z | z
    · rw [z]
      exact own c T _ _ e dd vs sl2 lk rfl rfl lc lv
    · rw [List.mem_singleton.mp z]
      exact own2 g eg c2 T2 _ _ e' dd' vs' sl2' lk2 rfl rfl lc2 lv2
  · rcases List.mem_cons.mp hp with z | z
    · rw [z]
      exact lT
    · rw [List.mem_singleton.mp z]
      exact lT2
  · rcases List.mem_cons.mp hp with z | z
    · rw [z]
      exact PySem.W.codeHd_of_K X ch
    · rw [List.mem_singleton.mp z]
      exact PySem.W.codeHd_of_K X ch2
end Ag
open PySem PySem.W PyProof.Rows L2
set_option maxRecDepth 100000 in
set_option maxHeartbeats 0 in
theorem PySem.Challenge.cw_addedgrounds_k04_texts_of_formulas_refus_holds : PySem.Challenge.rw_addedgrounds_k04_texts_of_formulas_refus.Holds := by
  w_on; o_law; k_head; (case hw => w_witness2)
  k_fill
  refine Ag.walkT2 (l := PySem.Challenge.rw_addedgrounds_k04_texts_of_formulas_refus) rfl rfl (by decide +kernel) (by decide +kernel) (fun w h Y => PySem.W.km_in_of Y) ?F
  case F =>
    intro w mg fa h KX G hmg own own2
    have D_is_letter := by
      refine' Ag.df_mk (x := "is_letter") (st := Ag.s_is_letter) (ps := ["value"]) KX G (fun _ _ _ _ _ _ us hl => match us, hl with | [_], _ => rfl) ?a ?l ?c ?k
      (case a => k_is); (case l => k_is); (case c => k_is); (case k => k_is)
    have D_is_name := by
      refine' Ag.df_mk (x := "is_name") (st := Ag.s_is_name) (ps := ["value"]) KX G (fun _ _ _ _ _ _ us hl => match us, hl with | [_], _ => rfl) ?a ?l ?c ?k
      (case a => k_is); (case l => k_is); (case c => k_is); (case k => k_is)
    have D_is_formula := by
      refine' Ag.df_mk (x := "is_formula") (st := Ag.s_is_formula) (ps := ["value"]) KX G (fun _ _ _ _ _ _ us hl => match us, hl with | [_], _ => rfl) ?a ?l ?c ?k
      (case a => k_is); (case l => k_is); (case c => k_is); (case k => k_is)
    have D_is_shape := by
      refine' Ag.df_mk (x := "is_shape") (st := Ag.s_is_shape) (ps := ["value"]) KX G (fun _ _ _ _ _ _ us hl => match us, hl with | [_], _ => rfl) ?a ?l ?c ?k
      (case a => k_is); (case l => k_is); (case c => k_is); (case k => k_is)
    have D_is_built := by
      refine' Ag.df_mk (x := "is_built") (st := Ag.s_is_built) (ps := ["value", "depth", "holes"]) KX G (fun _ _ _ _ _ _ us hl => match us, hl with | [_, _, _], _ => rfl) ?a ?l ?c ?k
      (case a => k_is); (case l => k_is); (case c => k_is); (case k => k_is)
    have D_is_leaf := by
      refine' Ag.df_mk (x := "is_leaf") (st := Ag.s_is_leaf) (ps := ["value", "holes"]) KX G (fun _ _ _ _ _ _ us hl => match us, hl with | [_, _], _ => rfl) ?a ?l ?c ?k
      (case a => k_is); (case l => k_is); (case c => k_is); (case k => k_is)
    have D_formula_text := by
      refine' Ag.df_mk (x := "formula_text") (st := Ag.s_formula_text) (ps := ["formula"]) KX G (fun _ _ _ _ _ _ us hl => match us, hl with | [_], _ => rfl) ?a ?l ?c ?k
      (case a => k_is); (case l => k_is); (case c => k_is); (case k => k_is)
    have D_text_of := by
      refine' Ag.df_mk (x := "text_of") (st := Ag.s_text_of) (ps := ["formula"]) KX G (fun _ _ _ _ _ _ us hl => match us, hl with | [_], _ => rfl) ?a ?l ?c ?k
      (case a => k_is); (case l => k_is); (case c => k_is); (case k => k_is)
    have D_read_formula := by
      refine' Ag.df_mk (x := "read_formula") (st := Ag.s_read_formula) (ps := ["text"]) KX G (fun _ _ _ _ _ _ us hl => match us, hl with | [_], _ => rfl) ?a ?l ?c ?k
      (case a => k_is); (case l => k_is); (case c => k_is); (case k => k_is)
    have D_parsed := by
      refine' Ag.df_mk (x := "parsed") (st := Ag.s_parsed) (ps := ["text", "depth", "holes"]) KX G (fun _ _ _ _ _ _ us hl => match us, hl with | [_, _, _], _ => rfl) ?a ?l ?c ?k
      (case a => k_is); (case l => k_is); (case c => k_is); (case k => k_is)
    have D_parsed_at := by
      refine' Ag.df_mk (x := "parsed_at") (st := Ag.s_parsed_at) (ps := ["text", "at", "depth", "holes"]) KX G (fun _ _ _ _ _ _ us hl => match us, hl with | [_, _, _, _], _ => rfl) ?a ?l ?c ?k
      (case a => k_is); (case l => k_is); (case c => k_is); (case k => k_is)
    have D_parsed_joint := by
      refine' Ag.df_mk (x := "parsed_joint") (st := Ag.s_parsed_joint) (ps := ["text", "at", "depth", "holes"]) KX G (fun _ _ _ _ _ _ us hl => match us, hl with | [_, _, _, _], _ => rfl) ?a ?l ?c ?k
      (case a => k_is); (case l => k_is); (case c => k_is); (case k => k_is)
    have D_parsed_hole := by
      refine' Ag.df_mk (x := "parsed_hole") (st := Ag.s_parsed_hole) (ps := ["text", "at"]) KX G (fun _ _ _ _ _ _ us hl => match us, hl with | [_, _], _ => rfl) ?a ?l ?c ?k
      (case a => k_is); (case l => k_is); (case c => k_is); (case k => k_is)
    have D_parsed_atom := by
      refine' Ag.df_mk (x := "parsed_atom") (st := Ag.s_parsed_atom) (ps := ["text", "at"]) KX G (fun _ _ _ _ _ _ us hl => match us, hl with | [_, _], _ => rfl) ?a ?l ?c ?k
      (case a => k_is); (case l => k_is); (case c => k_is); (case k => k_is)
    have D_law_bag := by
      refine' Ag.df_mk (x := "_law_bag") (st := Ag.s_law_bag) (ps := ["_law_script"]) KX G (fun _ _ _ _ _ _ us hl => match us, hl with | [_], _ => rfl) ?a ?l ?c ?k
      (case a => k_is); (case l => k_is); (case c => k_is); (case k => k_is)
    have D_law_pull := by
      refine' Ag.df_mk (x := "_law_pull") (st := Ag.s_law_pull) (ps := ["_law_bag_here", "_law_many"]) KX G (fun _ _ _ _ _ _ us hl => match us, hl with | [_, _], _ => rfl) ?a ?l ?c ?k
      (case a => k_is); (case l => k_is); (case c => k_is); (case k => k_is)
    have D_law_any := by
      refine' Ag.df_mk (x := "_law_any") (st := Ag.s_law_any) (ps := ["_law_bag_here", "_law_things"]) KX G (fun _ _ _ _ _ _ us hl => match us, hl with | [_, _], _ => rfl) ?a ?l ?c ?k
      (case a => k_is); (case l => k_is); (case c => k_is); (case k => k_is)
    have D_law_like := by
      refine' Ag.df_mk (x := "_law_like") (st := Ag.s_law_like) (ps := ["_law_found", "_law_due"]) KX G (fun _ _ _ _ _ _ us hl => match us, hl with | [_, _], _ => rfl) ?a ?l ?c ?k
      (case a => k_is); (case l => k_is); (case c => k_is); (case k => k_is)
    have D_law_fields := by
      refine' Ag.df_mk (x := "_law_fields") (st := Ag.s_law_fields) (ps := ["_law_e"]) KX G (fun _ _ _ _ _ _ us hl => match us, hl with | [_], _ => rfl) ?a ?l ?c ?k
      (case a => k_is); (case l => k_is); (case c => k_is); (case k => k_is)
    have D_law_try := by
      refine' Ag.df_mk (x := "_law_try") (st := Ag.s_law_try) (ps := ["_law_ask"]) KX G (fun _ _ _ _ _ _ us hl => match us, hl with | [_], _ => rfl) ?a ?l ?c ?k
      (case a => k_is); (case l => k_is); (case c => k_is); (case k => k_is)
    have D_law_names := by
      refine' Ag.df_mk (x := "_law_names") (st := Ag.s_law_names) (ps := ["_law_bag_here", "_law_many"]) KX G (fun _ _ _ _ _ _ us hl => match us, hl with | [_, _], _ => rfl) ?a ?l ?c ?k
      (case a => k_is); (case l => k_is); (case c => k_is); (case k => k_is)
    have D_law_form := by
      refine' Ag.df_mk (x := "_law_form") (st := Ag.s_law_form) (ps := ["_law_bag_here", "_law_words", "_law_deep"]) KX G (fun _ _ _ _ _ _ us hl => match us, hl with | [_, _, _], _ => rfl) ?a ?l ?c ?k
      (case a => k_is); (case l => k_is); (case c => k_is); (case k => k_is)
    have D_law_text := by
      refine' Ag.df_mk (x := "_law_text") (st := Ag.s_law_text) (ps := ["_law_term"]) KX G (fun _ _ _ _ _ _ us hl => match us, hl with | [_], _ => rfl) ?a ?l ?c ?k
      (case a => k_is); (case l => k_is); (case c => k_is); (case k => k_is)
    have z_len : mg "len" = none := by
      refine' PySem.W.mg_none_of KX G ?z
      (case z => k_is)
    have z_int : mg "int" = none := by
      refine' PySem.W.mg_none_of KX G ?z
      (case z => k_is)
    have z_list : mg "list" = none := by
      refine' PySem.W.mg_none_of KX G ?z
      (case z => k_is)
    have z_isinstance : mg "isinstance" = none := by
      refine' PySem.W.mg_none_of KX G ?z
      (case z => k_is)
    have z_dict : mg "dict" = none := by
      refine' PySem.W.mg_none_of KX G ?z
      (case z => k_is)
    have z_tuple : mg "tuple" = none := by
      refine' PySem.W.mg_none_of KX G ?z
      (case z => k_is)
    have z_bool : mg "bool" = none := by
      refine' PySem.W.mg_none_of KX G ?z
      (case z => k_is)
    have z_str : mg "str" = none := by
      refine' PySem.W.mg_none_of KX G ?z
      (case z => k_is)
    have z_all : mg "all" = none := by
      refine' PySem.W.mg_none_of KX G ?z
      (case z => k_is)
    have z_zip : mg "zip" = none := by
      refine' PySem.W.mg_none_of KX G ?z
      (case z => k_is)
    have z_sorted : mg "sorted" = none := by
      refine' PySem.W.mg_none_of KX G ?z
      (case z => k_is)
    have z_range : mg "range" = none := by
      refine' PySem.W.mg_none_of KX G ?z
      (case z => k_is)
    have v_LETTERS : ∃ t, mg "LETTERS" = some (.str "abcdefghijklmnopqrstuvwxyz" t) := by
      refine' Ag.conS_mk KX G ?z
      (case z => k_is)
    have v_LONGEST_NAME : ∃ t, mg "LONGEST_NAME" = some (.int 6 t) := by
      refine' Ag.conI_mk KX G ?z
      (case z => k_is)
    have v_FORMULA_DEPTH : ∃ t, mg "FORMULA_DEPTH" = some (.int 10 t) := by
      refine' Ag.conI_mk KX G ?z
      (case z => k_is)
    have v_SHAPE_DEPTH : ∃ t, mg "SHAPE_DEPTH" = some (.int 5 t) := by
      refine' Ag.conI_mk KX G ?z
      (case z => k_is)
    have JT := by
      refine' Ag.joints_mk KX G ?a ?l
      (case a => k_is); (case l => k_is)
    have SG := by
      refine' Ag.signs_mk (w := w) KX G ?a ?low ?l
      (case a => k_is); (case l => k_is); (case low => first | rfl | decide | k_is)
    have KN := by
      refine' Ag.kinds_mk (w := w) KX G ?a ?low ?l
      (case a => k_is); (case l => k_is); (case low => first | rfl | decide | k_is)
    have CP := by
      refine' Ag.copd_mk KX G ?a ?l ?lD ?c ?k
      (case a => k_is); (case l => k_is); (case lD => k_is); (case c => k_is); (case k => k_is)
    have YG := by
      refine' Ag.tryc_mk (x := "GroundError") KX G ?a ?e ?c ?t
      (case a => k_is); (case e => k_is); (case c => k_is); (case t => k_is)
    have YM := by
      refine' Ag.tryc_mk (x := "Missing") KX G ?a ?e ?c ?t
      (case a => k_is); (case e => k_is); (case c => k_is); (case t => k_is)
    have YN := by
      refine' Ag.tryc_mk (x := "NothingLeft") KX G ?a ?e ?c ?t
      (case a => k_is); (case e => k_is); (case c => k_is); (case t => k_is)
    have E_InvalidFormula := by
      refine' Ag.errk_mk (x := "InvalidFormula") KX G YG.2 YM.2 YN.2 ?a ?l ?sa ?ga ?gg ?n1 ?n2 ?n3 ?n4 ?n5 ?n6 ?n7 ?n8 ?n9 ?ic ?ti ?kc ?ec ?tc ?hasd ?s1 ?s2 ?s3 ?hb
      (case a => k_is); (case l => k_is); (case sa => k_is); (case ga => k_is); (case gg => k_is); (case n1 => k_is); (case n2 => k_is); (case n3 => k_is); (case n4 => k_is); (case n5 => k_is); (case n6 => k_is); (case n7 => k_is); (case n8 => k_is); (case n9 => k_is); (case ic => k_is); (case ti => k_is); (case kc => k_is); (case ec => k_is); (case tc => k_is); (case hasd => k_is); (case s1 => k_is); (case s2 => k_is); (case s3 => k_is); (case hb => rfl)
    have I_InvalidFormula := by
      refine' Ag.einit_mk (q := "InvalidFormula.__init__") (st := Ag.s_InvalidFormula_init) (n := "value") E_InvalidFormula ?l ?c ?k (fun _ _ _ _ _ _ us hl => match us, hl with | [_, _], _ => rfl)
      (case l => k_is); (case c => k_is); (case k => k_is)
    refine' Ag.law_allT2 KX G hmg own own2 ?a ?l ?c ?k ?lc ?lv ?lT ?ch ?a2 ?l2 ?c2 ?k2 ?lc2 ?lv2 ?lT2 ?ch2 (fun _ _ _ _ _ _ us hl => match us, hl with | [_], _ => rfl) ?H
    (case a => k_is); (case l => k_is); (case c => k_is); (case k => k_is); (case lc => k_is); (case lv => rfl); (case lT => first | kernel_rfl | rfl); (case ch => first | kernel_rfl | rfl)
    (case a2 => k_is); (case l2 => k_is); (case c2 => k_is); (case k2 => k_is); (case lc2 => k_is); (case lv2 => rfl); (case lT2 => first | kernel_rfl | rfl); (case ch2 => first | kernel_rfl | rfl)
    case H =>
      intro base _ _ TB TB2 FL DG
      exact Ag.law_main FL TB DG TB2 (by decide) D_is_letter D_is_name D_is_formula D_is_shape D_is_built D_is_leaf D_formula_text D_text_of D_read_formula D_parsed D_parsed_at D_parsed_joint D_parsed_hole D_parsed_atom D_law_bag D_law_pull D_law_any D_law_like D_law_fields D_law_try D_law_names D_law_form D_law_text z_len z_int z_list z_isinstance z_dict z_tuple z_bool z_str z_all z_zip z_sorted z_range v_LETTERS v_LONGEST_NAME v_FORMULA_DEPTH v_SHAPE_DEPTH JT SG KN CP YG.1 YM.1 YN.1 E_InvalidFormula I_InvalidFormula
