import PyProof.Rows.All
import Wide.All
import OpenK.AllK
import Wide.FinOn
import HandS.ForMost
import HandS.IsInst
import HandS.Wide
import HandS.Walk
import HandS.Zip
import HandS.Codes
import HandS.More
import HandS.SetKeys
import HandS.Lambda
import HandS.ExcInit
import HandS.ExcField
import HandS.HotCalls
import KE.KDflt
import KE.KTryMore
import PyProof.EnumMake
import PyProof.Draws
import KE.GoesMore
import HandS.ClsMeth
import HandS.Defaults
import KE.DatumOrd
import PyProof.P3Eq
import HandS.SlotsOwn
import HandS.TupAny
import HandS.Star
import HandS.TupSets
import HandS.List
import PyProof.Rows.SetFrom
import PyProof.Rows.SortStr
import PyProof.Rows.SortShellAny
import HandS.Dict
import HandS.WrittenGet
import HandS.FStr
import HandS.Text
import HandS.Deep
import HandS.WordsExc
import HandS.Style
import HandS.EndOwn
import PySem.Challenge.RW_addedgrounds_k11_contexts_refused
set_option Elab.async false
set_option maxRecDepth 100000
set_option maxHeartbeats 4000000
set_option linter.unusedVariables false
namespace Ag
open PySem PySem.Spec PyProof.Rows L2

/-! ### heaps: all but the bag is kept -/
def Kp (b : Addr) (H H' : Hp) : Prop := ∀ c o, H c = some o → c ≠ b → H' c = some o
theorem Kp.refl (b : Addr) (H : Hp) : Kp b H H := fun _ _ e _ => e
theorem Kp.trans {b : Addr} {H H1 H2 : Hp} (p : Kp b H H1) (q : Kp b H1 H2) : Kp b H H2 := fun c o e n => q c o (p c o e n) n
theorem Kp.of {b : Addr} {H H' : Hp} (s : Same H H') : Kp b H H' := fun c o e _ => s c o e
theorem Kp.seqL {K : PySem.W.Frag} {b a : Addr} {H H' : Hp} {xs : List V} (p : Kp b H H') (n : a ≠ b) (h : SqL K H a xs) : SqL K H' a xs := by
  rcases h with (h | ⟨o, h⟩) | h
  · exact .inl (.inl (p _ _ h n))
  · exact .inl (.inr ⟨o, p _ _ h n⟩)
  · exact .inr h
theorem Kp.seqT {K : PySem.W.Frag} {b a : Addr} {H H' : Hp} {xs : List V} (p : Kp b H H') (n : a ≠ b) (h : SqT K H a xs) : SqT K H' a xs := by
  rcases h with (h | ⟨o, h⟩) | h
  · exact .inl (.inl (p _ _ h n))
  · exact .inl (.inr ⟨o, p _ _ h n⟩)
  · exact .inr h
theorem sameT {K : PySem.W.Frag} {H H' : Hp} {a : Addr} {xs : List V} (e : Same H H') (h : SqT K H a xs) : SqT K H' a xs := by
  rcases h with (h | ⟨o, h⟩) | h
  · exact .inl (.inl (e _ _ h))
  · exact .inl (.inr ⟨o, e _ _ h⟩)
  · exact .inr h
theorem same_new {H : Hp} {p : Addr} (h : H p = none) (o : HO) : Same H (upd H p o) := fun b u q => by rw [upd_ne (ne_of_none q h)]; exact q

/-! ### the bag that a law draws from -/
def Bag (H : Hp) (b l : Addr) : Prop := ∃ (ns : List Int) (at' : Nat) (big seed cnt : Int), H b = some (.lst [.ref l, .int at', .int big, .int seed, .int cnt]) ∧
  H l = some (.lst (ns.map V.int)) ∧ l ≠ b ∧ ns.length ≤ 63 ∧ 0 ≤ big ∧ 0 ≤ seed ∧ seed < 2147483629
theorem Bag.kp {H H' : Hp} {b l : Addr} (g : Bag H b l) (s : Same H H') : Bag H' b l := by
  obtain ⟨ns, at', big, seed, cnt, h1, h2, r⟩ := g
  exact ⟨ns, at', big, seed, cnt, s _ _ h1, s _ _ h2, r⟩
theorem Bag.new {H : Hp} {b l a : Addr} (g : Bag H b l) (h : H a = none) : a ≠ b ∧ a ≠ l := by
  obtain ⟨ns, at', big, seed, cnt, h1, h2, _⟩ := g
  exact ⟨(ne_of_none h1 h).symm, (ne_of_none h2 h).symm⟩
theorem Bag.upd {H : Hp} {b l a : Addr} {o : HO} (g : Bag H b l) (h1 : a ≠ b) (h2 : a ≠ l) : Bag (upd H a o) b l := by
  obtain ⟨ns, at', big, seed, cnt, g1, g2, r⟩ := g
  exact ⟨ns, at', big, seed, cnt, by rw [upd_ne h1.symm]; exact g1, by rw [upd_ne h2.symm]; exact g2, r⟩
theorem Kp.upd {b a : Addr} {H H' : Hp} {o : HO} (k : Kp b H H') (h : H a = none) : Kp b H (upd H' a o) := fun c u e n => by
  rw [upd_ne (ne_of_none e h)]
  exact k c u e n
theorem Kp.free {b a : Addr} {H H' : Hp} (k : Kp b H H') (n : a ≠ b) (h : H' a = none) : H a = none := by
  cases q : H a with
  | none => rfl
  | some o =>
    rw [k a o q n] at h
    cases h

/-- what may be drawn from: a text's signs, the items of a list or a tuple -/
def Itm (K : PySem.W.Frag) (H : Hp) (b : Addr) (x : V) (vs : List V) : Prop := (∃ z : Str, x = .str z ∧ z.length ≤ sizeLine ∧ vs = z.cps.toList.map fun c => V.str ⟨#[c]⟩) ∨ ∃ a, x = .ref a ∧ a ≠ b ∧ (SqL K H a vs ∨ SqT K H a vs)
/-! ### operators of several kinds at once -/
theorem opOr {X : Cx} {f : Value → Value → Sem Value} {r1 r2 : R2} (h1 : OpR X f r1) (h2 : OpR X f r2) : OpR X f (fun x y H Q => r1 x y H Q ∨ r2 x y H Q) := by
  intro pins s σ H x y v u Q I rx ry h
  rcases h with h | h
  · exact h1 pins s σ H x y v u Q I rx ry h
  · exact h2 pins s σ H x y v u Q I rx ry h

/-! ### data of any depth without dicts -/
theorem Dp_same_all {K : PySem.W.Frag} {H H' : Hp} (s : Same H H') : (∀ (d : PyData) (v : V), Dp K H v d → Dp K H' v d) ∧ True := by
  refine ⟨?_, trivial⟩
  intro d v h
  exact Dp.rec (motive_1 := fun v d _ => Dp K H' v d) (motive_2 := fun vs ds _ => DpAll K H' vs ds) .non .bl .int .str
    (fun q _ ih => .lst (s.seq q) ih) (fun q _ ih => .tup (sameT s q) ih) .nil (fun _ _ a b => .cons a b) h
theorem Dp_same {K : PySem.W.Frag} {H H' : Hp} (s : Same H H') {d : PyData} {v : V} (h : Dp K H v d) : Dp K H' v d := (Dp_same_all s).1 d v h
theorem DpAll_same {K : PySem.W.Frag} {H H' : Hp} (s : Same H H') : ∀ {vs : List V} {ds : List PyData}, DpAll K H vs ds → DpAll K H' vs ds
  | _, _, .nil => .nil
  | _, _, .cons a b => .cons (Dp_same s a) (DpAll_same s b)
theorem dpall_len {K : PySem.W.Frag} {H : Hp} : ∀ {vs : List V} {ds : List PyData}, DpAll K H vs ds → vs.length = ds.length
  | _, _, .nil => rfl
  | _, _, .cons _ b => congrArg (· + 1) (dpall_len b)
theorem dpall_get {K : PySem.W.Frag} {H : Hp} : ∀ {vs : List V} {ds : List PyData} {i : Nat} {v : V}, DpAll K H vs ds → vs[i]? = some v → ∃ d, ds[i]? = some d ∧ Dp K H v d
  | _, _, _, _, .nil, e => by simp at e
  | _, _, 0, _, .cons a _, e => by
    simp at e
    subst e
    exact ⟨_, rfl, a⟩
  | _, _, i + 1, _, .cons _ b, e => by
    obtain ⟨d, h1, h2⟩ := dpall_get (i := i) b (by simpa using e)
    exact ⟨d, by simpa using h1, h2⟩
/-- no dict in it, less than n deep, at most 1000 items in a list -/
def okd : Nat → PyData → Bool
  | 0, _ => false
  | n + 1, .list ds => decide (ds.length ≤ 1000) && ds.all (okd n)
  | n + 1, .tuple ds => decide (ds.length ≤ 1000) && ds.all (okd n)
  | _ + 1, .dict _ => false
  | _ + 1, _ => true
def tyD : PyData → String
  | .none => "NoneType"
  | .bool _ => "bool"
  | .int _ => "int"
  | .str _ => "str"
  | .list _ => "list"
  | .tuple _ => "tuple"
  | .dict _ => "dict"
theorem dp_tyx {K : PySem.W.Frag} {H : Hp} {v : V} {d : PyData} (h : Dp K H v d) : TyX K H v (.type (tyD d)) := by
  cases h with
  | non => exact .base .non
  | bl b => exact .base (.bl b)
  | int i => exact .base (.int i)
  | str x => exact .base (.str x)
  | lst q _ =>
    rcases q with (q | ⟨o, q⟩) | ⟨o, its, n, e, c, _⟩
    · exact .base (.lst q)
    · exact .base (.frz q)
    · exact .kList e c
  | tup q _ =>
    rcases q with (q | ⟨o, q⟩) | ⟨o, its, n, e, c, _⟩
    · exact .base (.tup q)
    · exact .fTuple q
    · exact .kTuple e c
/-- isinstance of such data by a built-in class's name -/
def isD (T : String) (d : PyData) : Bool := (kitB (tyD d) T).getD false
theorem isi_of {K : PySem.W.Frag} {H : Hp} {v : V} {d : PyData} {T : String} {Q : VK} (h : Dp K H v d) (hk : (kitB (tyD d) T).isSome = true) (q : Q (.bl (isD T d)) H) : rIsi K [v, .ty T] H Q := by
  refine ⟨v, .ty T, _, .type T, isD T d, rfl, .ty T, dp_tyx h, ?_, q⟩
  refine kit_ty ?_
  unfold isD
  cases e : kitB (tyD d) T with
  | none => rw [e] at hk; cases hk
  | some b => rfl
theorem kit_some {d : PyData} : (kitB (tyD d) "dict").isSome = true ∧ (kitB (tyD d) "list").isSome = true ∧ (kitB (tyD d) "tuple").isSome = true ∧ (kitB (tyD d) "bool").isSome = true ∧ (kitB (tyD d) "int").isSome = true ∧ (kitB (tyD d) "str").isSome = true := by
  cases d <;> (simp only [tyD]; decide +kernel)
theorem isD_dict {n : Nat} {d : PyData} (h : okd n d = true) : isD "dict" d = false := by
  cases d with
  | dict kvs => cases n <;> simp [okd] at h
  | _ => simp only [isD, tyD]; decide +kernel
theorem iteE {c : Bool} {A B : Prop} (e : c = false) (h : B) : if c = true then A else B := by
  subst e
  exact iteF h
theorem iteU {c : Bool} {A B : Prop} (e : c = true) (h : A) : if c = true then A else B := by
  subst e
  exact iteT h
theorem isiT_of {K : PySem.W.Frag} {H : Hp} {v : V} {d : PyData} {p : Addr} {Q : VK} (h : Dp K H v d) (hp : H p = some (.tup [.ty "list", .ty "tuple"])) (q : Q (.bl (isD "list" d || isD "tuple" d)) H) : rIsiT K [v, .ref p] H Q := by
  refine ⟨v, p, [.ty "list", .ty "tuple"], _, [.type "list", .type "tuple"], _, rfl, hp, .cons (.ty _) (.cons (.ty _) .nil), dp_tyx h, ?_, q⟩
  have h1 : PySem.W.kitOne K (.type (tyD d)) (.type "list") = some (isD "list" d) := kit_ty (by cases d <;> (simp only [isD, tyD]; decide +kernel))
  have h2 : PySem.W.kitOne K (.type (tyD d)) (.type "tuple") = some (isD "tuple" d) := kit_ty (by cases d <;> (simp only [isD, tyD]; decide +kernel))
  refine kitAny_cons h1 (fun e => ?_) (fun e => by rw [e]; rfl)
  rw [e]
  refine kitAny_cons h2 (fun e2 => ?_) (fun e2 => by rw [e2]; rfl)
  rw [e2]
  rfl
theorem walk_zipT {K : PySem.W.Frag} {a b : Addr} {xs ys : List V} {n : Nat} (hn : n = min xs.length ys.length) : Walk (RZ.ItzT K a b) n (fun H => SqT K H a xs ∧ SqT K H b ys) (YPair (fun i => xs[i]?) (fun i => ys[i]?)) := by
  subst hn
  refine ⟨fun i _ hi q => ?_, fun _ q => ⟨xs, ys, q.1, q.2, by omega⟩, fun i H v H' _ q y => ?_⟩
  · have h1 : i < xs.length := by omega
    have h2 : i < ys.length := by omega
    exact ⟨xs, ys, xs[i], ys[i], q.1, q.2, by simp [h1], by simp [h2]⟩
  · obtain ⟨T, x, z, h1, h2, h3, h4, h5⟩ := y
    exact ⟨T, x, z, h1, h2, h3, h4 xs q.1, h5 ys q.2⟩
theorem at_any {α : Type} {xs : List α} {z : Int} {j : Nat} {v : α} (e : z = (j : Int)) (h : xs[j]? = some v) : atI xs z = some v := by
  rw [e]
  exact atI_nat h
theorem isk {K : PySem.W.Frag} {d : PyData} {T : String} (hk : (kitB (tyD d) T).isSome = true) : PySem.W.kitOne K (.type (tyD d)) (.type T) = some (isD T d) := by
  refine kit_ty ?_
  unfold isD
  cases e : kitB (tyD d) T with
  | none => rw [e] at hk; cases hk
  | some b => rfl
theorem iskT {K : PySem.W.Frag} {d : PyData} : PySem.W.kitAny K (.type (tyD d)) [.type "list", .type "tuple"] = some (isD "list" d || isD "tuple" d) := by
  refine kitAny_cons (isk kit_some.2.1) (fun e => ?_) (fun e => by rw [e]; rfl)
  rw [e]
  refine kitAny_cons (isk kit_some.2.2.1) (fun e2 => ?_) (fun e2 => by rw [e2]; rfl)
  rw [e2]
  rfl
theorem isD_leaf {d : PyData} (h2 : ∀ ds, d ≠ .list ds) (h3 : ∀ ds, d ≠ .tuple ds) : (isD "list" d || isD "tuple" d) = false := by
  cases d with
  | list ds => exact absurd rfl (h2 ds)
  | tuple ds => exact absurd rfl (h3 ds)
  | _ => simp only [isD, tyD]; decide +kernel
theorem isD_seq {d : PyData} (h : (∃ ds, d = .list ds) ∨ ∃ ds, d = .tuple ds) : (isD "list" d || isD "tuple" d) = true := by
  rcases h with ⟨ds, rfl⟩ | ⟨ds, rfl⟩ <;> (simp only [isD, tyD]; decide +kernel)
theorem ct2 : Paired ClsV [.ty "list", .ty "tuple"] [.type "list", .type "tuple"] := .cons (.ty _) (.cons (.ty _) .nil)
theorem rep_bl (n : Nat) : List.replicate n (V.bl true) = (List.replicate n true).map V.bl := by rw [List.map_replicate]
theorem rep_all (n : Nat) : (List.replicate n true).all id = true := by
  induction n with
  | zero => rfl
  | succ n ih => rw [List.replicate_succ, List.all_cons, ih]; rfl
theorem small {n : Nat} (h : n ≤ 1000) : n ≤ sizeLine := Nat.le_of_lt (small1000 h)

/-! ### words of small letters -/
def abc : List Nat := (List.range 26).map (· + 97)
theorem abc_str : ("abcdefghijklmnopqrstuvwxyz" : Str) = SX.S abc := by decide +kernel
theorem abc_len : abc.length = 26 := by decide
theorem abc_at {i : Nat} (h : i < 26) : abc[i]? = some (i + 97) := by
  unfold abc
  rw [List.getElem?_map, List.getElem?_range h]
  rfl
theorem abc_mem {c : Nat} : c ∈ abc ↔ 97 ≤ c ∧ c < 123 := by
  unfold abc
  rw [List.mem_map]
  constructor
  · rintro ⟨i, hi, rfl⟩
    rw [List.mem_range] at hi
    omega
  · rintro ⟨h1, h2⟩
    exact ⟨c - 97, by rw [List.mem_range]; omega, by omega⟩
def Low (cs : List Nat) : Prop := ∀ c ∈ cs, 97 ≤ c ∧ c < 123
theorem Low.app {a b : List Nat} (h : Low a) (g : Low b) : Low (a ++ b) := fun c hc => by
  rcases List.mem_append.mp hc with q | q
  · exact h c q
  · exact g c q
theorem Low.take {a : List Nat} (h : Low a) (n : Nat) : Low (a.take n) := fun c hc => h c (List.mem_of_mem_take hc)
theorem Low.drop {a : List Nat} (h : Low a) (n : Nat) : Low (a.drop n) := fun c hc => h c (List.mem_of_mem_drop hc)
theorem Low.one {c : Nat} (h : 97 ≤ c ∧ c < 123) : Low [c] := fun d hd => by
  rw [List.mem_singleton] at hd
  subst hd
  exact h
/-- the k-th of the names that differ in one letter -/
def nm (st : List Nat) (at' fi k : Nat) : List Nat := st.take at' ++ [97 + (fi + 5 * k) % 26] ++ st.drop at'
structure Nms (m : Nat) (ws : List (List Nat)) : Prop where
  ex : ∃ (st : List Nat) (at' fi : Nat), Low st ∧ st.length ≤ 4 ∧ at' ≤ st.length ∧ fi < 26 ∧ ws = (List.range m).map (nm st at' fi)
theorem nm_low {st : List Nat} {at' fi k : Nat} (h : Low st) : Low (nm st at' fi k) := ((h.take at').app (.one (by omega))).app (h.drop at')
theorem nm_len {st : List Nat} {at' fi k : Nat} : (nm st at' fi k).length = st.length + 1 := by
  unfold nm
  rw [List.length_append, List.length_append, List.length_take, List.length_drop, List.length_singleton]
  omega
theorem Nms.len {m : Nat} {ws : List (List Nat)} (h : Nms m ws) : ws.length = m := by
  obtain ⟨st, at', fi, _, _, _, _, rfl⟩ := h.ex
  rw [List.length_map, List.length_range]
theorem Nms.word {m : Nat} {ws : List (List Nat)} (h : Nms m ws) : ∀ w ∈ ws, Low w ∧ 1 ≤ w.length ∧ w.length ≤ 5 := by
  obtain ⟨st, at', fi, h1, h2, _, _, rfl⟩ := h.ex
  intro w hw
  obtain ⟨k, _, rfl⟩ := List.mem_map.mp hw
  rw [nm_len]
  exact ⟨nm_low h1, by omega, by omega⟩
theorem joinL_nil : ∀ cs : List (List Nat), TL.joinL [] cs = cs.flatten
  | [] => rfl
  | [p] => by simp [TL.joinL]
  | p :: q :: r => by
    show p ++ ([] ++ TL.joinL [] (q :: r)) = (p :: q :: r).flatten
    rw [joinL_nil (q :: r)]
    simp
/-- "".join of signs -/
theorem join_signs (cs : List Nat) : Txt.join (Str.ofString "") (cs.map fun c => (⟨#[c]⟩ : Str)) = SX.S cs := by
  have e0 : Str.ofString "" = SX.S [] := by decide +kernel
  have e1 : (cs.map fun c => (⟨#[c]⟩ : Str)) = (cs.map fun c => [c]).map SX.S := by rw [List.map_map]; rfl
  have e2 : (cs.map fun c => [c]).flatten = cs := by
    clear e1
    induction cs with
    | nil => rfl
    | cons c r ih => simp [ih]
  rw [e0, e1, SX.join_S, joinL_nil, e2]
end Ag
namespace Ag
open PySem PySem.Spec PyProof.Rows L2
/-! ### the program's words: letters, names -/
def isLet (cs : List Nat) : Bool := decide (cs.length = 1) && cs.all fun c => decide (97 ≤ c) && decide (c < 123)
def isNm (cs : List Nat) : Bool := decide (1 ≤ cs.length) && decide (cs.length ≤ 6) && cs.all fun c => decide (97 ≤ c) && decide (c < 123)
theorem isNm_low {cs : List Nat} (h : Low cs) (h1 : 1 ≤ cs.length) : isNm cs = decide (cs.length ≤ 6) := by
  unfold isNm
  have e : (cs.all fun c => decide (97 ≤ c) && decide (c < 123)) = true := by
    rw [List.all_eq_true]
    intro c hc
    simp only [Bool.and_eq_true, decide_eq_true_eq]
    exact h c hc
  rw [e, decide_eq_true h1, Bool.true_and, Bool.and_true]
theorem isNm_bad {cs : List Nat} {c : Nat} (h : c ∈ cs) (hc : ¬ (97 ≤ c ∧ c < 123)) : isNm cs = false := by
  unfold isNm
  have e : (cs.all fun c => decide (97 ≤ c) && decide (c < 123)) = false := by
    rw [List.all_eq_false]
    refine ⟨c, h, ?_⟩
    simp only [Bool.and_eq_true, decide_eq_true_eq]
    exact hc
  rw [e, Bool.and_false]
theorem isLet_in (cs : List Nat) (h : cs.length = 1) : (!(Builtin.Str.occurrences (SX.S abc) (SX.S cs) 0 (SX.S abc).length 1).isEmpty) = isLet cs := by
  match cs, h with
  | [c], _ =>
    rw [SX.in_one]
    unfold isLet
    by_cases hc : 97 ≤ c ∧ c < 123
    · rw [decide_eq_true (abc_mem.mpr hc)]
      simp [hc.1, hc.2]
    · rw [decide_eq_false (fun z => hc (abc_mem.mp z))]
      simp
      intro h1
      omega
/-- a value of no text -/
def NoStr (K : PySem.W.Frag) (H : Hp) (x : V) : Prop := ∃ t, TyX K H x t ∧ PySem.W.kitOne K t (.type "str") = some false
/-! ### a call with keywords alone -/
structure KW0 (fd : FuncData) (ps ks : List Str) (g : List Value → List Value) (gV : List V → List V) : Prop where
  to : ∀ (s : Shared) (ws : List Value), ws.length = ks.length → BindsTo s fd ⟨[], ks.zip ws⟩ (ps.zip (g ws))
  rel : ∀ {zs : List V} {ws : List Value}, Vals zs ws → Vals (gV zs) (g ws)
def tCallW (n : Nat) (sp : Sp) (gV : List V → List V) (E : XK) (tk : TA) : TE := fun σ H Q => tk σ H fun zs H2 => zs.length = n ∧ sp (gV zs) H2 Q E
theorem pe_callW {X : Cx} {CX : CXT} {k : Nat} {f : Addr} {fd : FuncData} {ps ks : List Str} {sp : Sp} {E : XK} {x : Str} {p pos : Pos} {kws : List Keyword} {tk : TA} {g : List Value → List Value} {gV : List V → List V}
    (F : FnOk X.prog X.w X.K X.mg X.base CX k f fd ps sp) (hr : Room k X.A) (hg : Gl X x) (hm : X.mg x = some (.ref f)) (hk : PySem.W.keepIn X.K (.ref f) = true) (hb : KW0 fd ps ks g gV) (hx : Passes CX X E) (hkw : PK X kws tk)
    (hall : (backToKw pos (keywordEach kws X.env)).all (·.1.isSome) = true := by rfl) (hks : (backToKw pos (keywordEach kws X.env)).filterMap (·.1) = ks := by rfl) (hdb : (x == ("__debug__" : Str)) = false := by decide)
    (hpl : ((backTo pos (starEach [] X.env)).any (·.1) || (backToKw pos (keywordEach kws X.env)).any (·.1.isNone)) = false := by rfl) : PE X (.Call (.Name x p) [] kws pos) (tCallW ks.length sp gV E tk) := by
  refine ⟨fun pins s σ H Q I h => ?_⟩
  refine wpAny_Call_Name_kw (ld_glob I hg hm ?_ hdb)
  refine PySem.W.callWith_KW0 (h₀ := X.base) I.ok.mod.kin hk hall ?_ hpl
  refine thn (hkw.run pos pins s σ H _ I h) fun ws s2 ⟨zs, H2, I2, rz, l2, q2⟩ => ⟨I2.kIn, ?_⟩
  rw [hks]
  have r2 := hb.rel rz
  refine wpAny_call (codeAny_mono (F.run X.A X.stack s2 H2 ⟨[], ks.zip ws⟩ (g ws) (gV zs) Q E hr I2.env0 (hb.to s2 ws (rz.length.symm.trans l2)) r2 q2) fun r s' hq => ?_)
  cases r with
  | error e => exact hx pins σ H2 s2 e s' I2 hq
  | ok fl =>
    cases fl with
    | ret u => exact I2.after hq
    | next => exact False.elim hq
    | brk => exact False.elim hq
    | cont => exact False.elim hq
end Ag
namespace Ag
open PySem PySem.Spec PyProof.Rows L2
theorem dpall_bools {K : PySem.W.Frag} {H : Hp} : ∀ bs : List Bool, DpAll K H (bs.map V.bl) (bs.map PyData.bool)
  | [] => .nil
  | b :: r => .cons (.bl b) (dpall_bools r)
theorem okd_bools {n : Nat} {bs : List Bool} (h : bs.length ≤ 1000) : okd (n + 2) (.list (bs.map PyData.bool)) = true := by
  simp only [okd, List.length_map, decide_eq_true h, Bool.true_and, List.all_eq_true]
  intro d hd
  obtain ⟨b, _, rfl⟩ := List.mem_map.mp hd
  rfl
theorem sizes_signs (l : List Nat) : ((l.map fun c => (⟨#[c]⟩ : Str)).map (·.length)).sum = l.length := by
  induction l with
  | nil => rfl
  | cons c r ih =>
    rw [List.map_cons, List.map_cons, List.sum_cons, ih, List.length_cons]
    show 1 + r.length = r.length + 1
    omega
theorem itm_abc {K : PySem.W.Frag} {H : Hp} {b : Addr} : Itm K H b (.str "abcdefghijklmnopqrstuvwxyz") (abc.map fun c => V.str ⟨#[c]⟩) := .inl ⟨_, rfl, by rw [abc_str, SX.S_len, abc_len]; decide, by rw [abc_str]⟩
end Ag
namespace Ag
open PySem PySem.Spec PyProof.Rows L2
theorem tyx_kp {K : PySem.W.Frag} {b : Addr} {H H' : Hp} (k : Kp b H H') {x : V} {t : Value} (h : TyX K H x t) (n : x ≠ .ref b) : TyX K H' x t := by
  have nb : ∀ a, V.ref a ≠ .ref b → a ≠ b := fun a z e => z (by rw [e])
  cases h with
  | base h =>
    refine .base ?_
    cases h with
    | non => exact .non
    | bl y => exact .bl y
    | int i => exact .int i
    | str y => exact .str y
    | flt y => exact .flt y
    | lst e => exact .lst (k _ _ e (nb _ n))
    | frz e => exact .frz (k _ _ e (nb _ n))
    | tup e => exact .tup (k _ _ e (nb _ n))
    | dK e => exact .dK (k _ _ e (nb _ n))
    | dT e => exact .dT (k _ _ e (nb _ n))
    | ins e cl ha hn htk hm => exact .ins (k _ _ e (nb _ n)) cl ha hn htk hm
  | byt y => exact .byt y
  | set e => exact .set (k _ _ e (nb _ n))
  | kList e c => exact .kList e c
  | kTuple e c => exact .kTuple e c
  | kDict e c => exact .kDict e c
  | fTuple e => exact .fTuple (k _ _ e (nb _ n))
  | fDict e => exact .fDict (k _ _ e (nb _ n))
theorem tyx_same {K : PySem.W.Frag} {H H' : Hp} (k : Same H H') {x : V} {t : Value} (h : TyX K H x t) : TyX K H' x t := by
  cases h with
  | base h =>
    refine .base ?_
    cases h with
    | non => exact .non
    | bl y => exact .bl y
    | int i => exact .int i
    | str y => exact .str y
    | flt y => exact .flt y
    | lst e => exact .lst (k _ _ e)
    | frz e => exact .frz (k _ _ e)
    | tup e => exact .tup (k _ _ e)
    | dK e => exact .dK (k _ _ e)
    | dT e => exact .dT (k _ _ e)
    | ins e cl ha hn htk hm => exact .ins (k _ _ e) cl ha hn htk hm
  | byt y => exact .byt y
  | set e => exact .set (k _ _ e)
  | kList e c => exact .kList e c
  | kTuple e c => exact .kTuple e c
  | kDict e c => exact .kDict e c
  | fTuple e => exact .fTuple (k _ _ e)
  | fDict e => exact .fDict (k _ _ e)
theorem NoStr.kp {K : PySem.W.Frag} {b : Addr} {H H' : Hp} (k : Kp b H H') {x : V} (h : NoStr K H x) (n : x ≠ .ref b) : NoStr K H' x := by
  obtain ⟨t, h1, h2⟩ := h
  exact ⟨t, tyx_kp k h1 n, h2⟩
theorem NoStr.same {K : PySem.W.Frag} {H H' : Hp} (k : Same H H') {x : V} (h : NoStr K H x) : NoStr K H' x := by
  obtain ⟨t, h1, h2⟩ := h
  exact ⟨t, tyx_same k h1, h2⟩
theorem nostr_non {K : PySem.W.Frag} {H : Hp} : NoStr K H .non := ⟨_, .base .non, kit_ty (by decide +kernel)⟩
theorem nostr_int {K : PySem.W.Frag} {H : Hp} {i : Int} : NoStr K H (.int i) := ⟨_, .base (.int i), kit_ty (by decide +kernel)⟩
theorem nostr_bl {K : PySem.W.Frag} {H : Hp} {c : Bool} : NoStr K H (.bl c) := ⟨_, .base (.bl c), kit_ty (by decide +kernel)⟩
theorem nostr_tup {K : PySem.W.Frag} {H : Hp} {a : Addr} {xs : List V} (h : H a = some (.tup xs)) : NoStr K H (.ref a) := ⟨_, .base (.tup h), kit_ty (by decide +kernel)⟩
theorem nostr_lst {K : PySem.W.Frag} {H : Hp} {a : Addr} {xs : List V} (h : H a = some (.lst xs)) : NoStr K H (.ref a) := ⟨_, .base (.lst h), kit_ty (by decide +kernel)⟩
/-- 'join of drawn signs': the turn's word, and what it is in the end -/
def Sgn (b l D : Addr) (H0 : Hp) (i : Nat) (H' : Hp) : Prop := ∃ cs : List Nat, Low cs ∧ cs.length = i ∧ Kp b H0 H' ∧ Bag H' b l ∧ H' D = some (.lst ((cs.map fun c => (⟨#[c]⟩ : Str)).map V.str))
end Ag
namespace Ag
open PySem PySem.Spec PyProof.Rows L2
/-- whether a value is a letter, a name -/
def LetIs (K : PySem.W.Frag) (H : Hp) (x : V) (ok : Bool) : Prop := (∃ cs : List Nat, x = .str (SX.S cs) ∧ cs.length ≤ 1000 ∧ ok = isLet cs) ∨ (NoStr K H x ∧ ok = false)
def NameIs (K : PySem.W.Frag) (H : Hp) (x : V) (ok : Bool) : Prop := (∃ cs : List Nat, x = .str (SX.S cs) ∧ cs.length ≤ 1000 ∧ ok = isNm cs) ∨ (NoStr K H x ∧ ok = false)
theorem name_is {K : PySem.W.Frag} {H : Hp} {cs : List Nat} (h : cs.length ≤ 1000) : NameIs K H (.str (SX.S cs)) (isNm cs) := .inl ⟨cs, rfl, h, rfl⟩
theorem NameIs.same {K : PySem.W.Frag} {H H' : Hp} (s : Same H H') {x : V} {ok : Bool} (h : NameIs K H x ok) : NameIs K H' x ok := by
  rcases h with h | ⟨h, e⟩
  · exact .inl h
  · exact .inr ⟨h.same s, e⟩
end Ag
namespace Ag
open PySem PySem.Spec PyProof.Rows L2
/-! ### a def of the module, as the top leaves it -/
structure Df (K : PySem.W.Frag) (mg : Str → Option Value) (x : Str) (st : Stmt) (ps : List Str) (f : Addr) (fd : FuncData) : Prop where
  fn : Fun K x x st f fd
  mg : mg x = some (.ref f)
  bi : Binds K fd ps []
theorem Df.cal {P : Program} {w : World} {K : PySem.W.Frag} {mg : Str → Option Value} {base : Heap} {x : Str} {st : Stmt} {ps : List Str} {f : Addr} {fd : FuncData} {k : Nat} {sp : Sp} (D : Df K mg x st ps f fd) (o : FnOk P w K mg base CX0 k f fd ps sp) : C8.Cal P w K mg base k x sp [] :=
  ⟨f, fd, ps, [], o, D.mg, D.fn.kp, D.bi, .nil⟩
theorem df_mk {K : PySem.W.Frag} {h : Heap} {mg : Str → Option Value} {x : Str} {st : Stmt} {ps : List Str} {f : Addr} {od an : Option Addr} {sl : Array (Option Value)} {oc kV dc pm cd ct : Value} (X : K.In h) (G : h.Ns mainGlobals mg)
    (hb : ∀ (kV doc pm : Value) (an : Option Addr) (cdv ct : Value) (us : List Value), us.length = ps.length → bindArgs (PySem.W.fnOf x x (defArgs st) (defBody st) (defScope st) .none kV doc pm an cdv ct) ⟨us, []⟩ = pure (ps.zip us))
    (a : PySem.W.nsIn K mainGlobals x = some (some (.ref f))) (l : K.lookup f = some ⟨oc, od, .func (PySem.W.fnOf x x (defArgs st) (defBody st) (defScope st) .none kV dc pm an cd ct), sl⟩) (c : PySem.W.codeIn K cd x = true) (k : PySem.W.keepIn K (.ref f) = true) :
    Df K mg x st ps f (PySem.W.fnOf x x (defArgs st) (defBody st) (defScope st) .none kV dc pm an cd ct) := by
  have F := fun_mk (st := st) l c k
  exact ⟨F, PySem.W.mg_of X G a, F.binds hb⟩
theorem Df.kw {K : PySem.W.Frag} {mg : Str → Option Value} {x : Str} {st : Stmt} {ps ks : List Str} {f : Addr} {fd : FuncData} {g : List Value → List Value} {gV : List V → List V} (D : Df K mg x st ps f fd)
    (h : ∀ (kV doc pm : Value) (an : Option Addr) (cdv ct : Value) (ws : List Value), ws.length = ks.length → bindArgs (PySem.W.fnOf x x (defArgs st) (defBody st) (defScope st) .none kV doc pm an cdv ct) ⟨[], ks.zip ws⟩ = pure (ps.zip (g ws)))
    (rel : ∀ {zs : List V} {ws : List Value}, Vals zs ws → Vals (gV zs) (g ws)) : KW0 fd ps ks g gV := by
  obtain ⟨oc, od, kV, doc, pm, an, cdv, ct, osl, rfl, lk, hcd⟩ := D.fn.ex
  exact ⟨fun s ws l => .of_eq (h kV doc pm an cdv ct ws l), rel⟩
end Ag
namespace Ag
open PySem PySem.Spec PyProof.Rows L2
theorem tseq {t u : TS} {D : Ends} {σ : L2.St} {H : Hp} (Mid : L2.St → Hp → Prop) (h2 : ∀ σ' H', Mid σ' H' → u D σ' H') (h1 : (∀ σ' H', Mid σ' H' → u D σ' H') → tSeq t u D σ H) : tSeq t u D σ H := h1 h2
theorem kp_upd {b : Addr} {H : Hp} {o : HO} : Kp b H (upd H b o) := fun c u e n => by rw [upd_ne n]; exact e
theorem fm_in (t : Int) {m : Int} (hm : 0 < m) : 0 ≤ t.fmod m ∧ t.fmod m < m := by
  rw [Int.fmod_eq_emod_of_nonneg t (by omega)]
  exact ⟨Int.emod_nonneg t (by omega), Int.emod_lt_of_pos t hm⟩
end Ag
namespace Ag
open PySem PySem.Spec PyProof.Rows L2
structure LikeM (mg : Str → Option Value) : Prop where
  isi : mg "isinstance" = none
  dict : mg "dict" = none
  list : mg "list" = none
  tuple : mg "tuple" = none
  bool : mg "bool" = none
  int : mg "int" = none
  str : mg "str" = none
  len : mg "len" = none
  all : mg "all" = none
  zip : mg "zip" = none
  sorted : mg "sorted" = none
structure NamesM (mg : Str → Option Value) : Prop where
  range : mg "range" = none
  int : mg "int" = none
  len : mg "len" = none
structure NameM (mg : Str → Option Value) : Prop where
  isi : mg "isinstance" = none
  str : mg "str" = none
  len : mg "len" = none
  all : mg "all" = none
  letters : ∃ t, mg "LETTERS" = some (.str "abcdefghijklmnopqrstuvwxyz" t)
  longest : ∃ t, mg "LONGEST_NAME" = some (.int 6 t)
end Ag
namespace Ag
open PySem PySem.Spec PyProof.Rows L2
/-! ### what may be read stays so -/
def RdLe (H H' : Hp) : Prop := ∀ c u, Rd H c u → Rd H' c u
theorem RdLe.of {H H' : Hp} (s : Same H H') : RdLe H H' := fun c u h => by
  rcases h with h | ⟨o, h⟩
  · exact .inl (s _ _ h)
  · exact .inr ⟨o, s _ _ h⟩
theorem RdLe.lock {H : Hp} {a : Addr} {u : HO} (h : H a = some u) (mu : Mut (some u)) (od : Obj) : RdLe H (upd H a (.frz od u)) := fun c v q => by
  by_cases e : c = a
  · subst e
    rcases q with q | ⟨o, q⟩
    · rw [h] at q
      cases q
      exact .inr ⟨od, upd_same⟩
    · rw [h] at q
      cases q
      exact mu.elim
  · rcases q with q | ⟨o, q⟩
    · exact .inl (by rw [upd_ne e]; exact q)
    · exact .inr ⟨o, by rw [upd_ne e]; exact q⟩
theorem RdLe.seqL {K : PySem.W.Frag} {H H' : Hp} {a : Addr} {xs : List V} (s : RdLe H H') (h : SqL K H a xs) : SqL K H' a xs := h.imp (s _ _) id
theorem RdLe.seqT {K : PySem.W.Frag} {H H' : Hp} {a : Addr} {xs : List V} (s : RdLe H H') (h : SqT K H a xs) : SqT K H' a xs := h.imp (s _ _) id
theorem Dp_rd {K : PySem.W.Frag} {H H' : Hp} (s : RdLe H H') {d : PyData} {v : V} (h : Dp K H v d) : Dp K H' v d :=
  Dp.rec (motive_1 := fun v d _ => Dp K H' v d) (motive_2 := fun vs ds _ => DpAll K H' vs ds) .non .bl .int .str
    (fun q _ ih => .lst (s.seqL q) ih) (fun q _ ih => .tup (s.seqT q) ih) .nil (fun _ _ a b => .cons a b) h
/-! ### data with dicts, the order of whose keys means nothing -/
def keyD : Key → PyData
  | .inl i => .int i
  | .inr x => .str x
mutual
inductive Da (K : PySem.W.Frag) (H : Hp) : V → PyData → Prop
  | non : Da K H .non .none
  | bl (b : Bool) : Da K H (.bl b) (.bool b)
  | int (i : Int) : Da K H (.int i) (.int i)
  | str (x : Str) : Da K H (.str x) (.str x)
  | lst {a : Addr} {xs : List V} {ds : List PyData} : SqL K H a xs → DaAll K H xs ds → Da K H (.ref a) (.list ds)
  | tup {a : Addr} {xs : List V} {ds : List PyData} : SqT K H a xs → DaAll K H xs ds → Da K H (.ref a) (.tuple ds)
  | dic {a : Addr} {kvs kvs' : List (Key × V)} {es : List (PyData × PyData)} : H a = some (.dK kvs) → kvs.Perm kvs' → (kvs.map (·.1)).Nodup → Paired (fun kv e => e.1 = keyD kv.1 ∧ Dp K H kv.2 e.2) kvs' es → Da K H (.ref a) (.dict es)
inductive DaAll (K : PySem.W.Frag) (H : Hp) : List V → List PyData → Prop
  | nil : DaAll K H [] []
  | cons {v : V} {vs : List V} {d : PyData} {ds : List PyData} : Da K H v d → DaAll K H vs ds → DaAll K H (v :: vs) (d :: ds)
end
theorem Da_of {K : PySem.W.Frag} {H : Hp} {d : PyData} {v : V} (h : Dp K H v d) : Da K H v d :=
  Dp.rec (motive_1 := fun v d _ => Da K H v d) (motive_2 := fun vs ds _ => DaAll K H vs ds) .non .bl .int .str
    (fun q _ ih => .lst q ih) (fun q _ ih => .tup q ih) .nil (fun _ _ a b => .cons a b) h
theorem paired_imp {α β : Type} {F G : α → β → Prop} (f : ∀ a b, F a b → G a b) : ∀ {l₁ : List α} {l₂ : List β}, Paired F l₁ l₂ → Paired G l₁ l₂
  | _, _, .nil => .nil
  | _, _, .cons r t => .cons (f _ _ r) (paired_imp f t)
theorem Da_same {K : PySem.W.Frag} {H H' : Hp} (s : Same H H') {d : PyData} {v : V} (h : Da K H v d) : Da K H' v d :=
  Da.rec (motive_1 := fun v d _ => Da K H' v d) (motive_2 := fun vs ds _ => DaAll K H' vs ds) .non .bl .int .str
    (fun q _ ih => .lst (s.seq q) ih) (fun q _ ih => .tup (sameT s q) ih) (fun q p n r => .dic (s _ _ q) p n (paired_imp (fun _ _ z => ⟨z.1, Dp_same s z.2⟩) r)) .nil (fun _ _ a b => .cons a b) h
theorem daall_len {K : PySem.W.Frag} {H : Hp} : ∀ {vs : List V} {ds : List PyData}, DaAll K H vs ds → vs.length = ds.length
  | _, _, .nil => rfl
  | _, _, .cons _ b => congrArg (· + 1) (daall_len b)
theorem daall_get {K : PySem.W.Frag} {H : Hp} : ∀ {vs : List V} {ds : List PyData} {i : Nat} {v : V}, DaAll K H vs ds → vs[i]? = some v → ∃ d, ds[i]? = some d ∧ Da K H v d
  | _, _, _, _, .nil, e => by simp at e
  | _, _, 0, _, .cons a _, e => by
    simp at e
    subst e
    exact ⟨_, rfl, a⟩
  | _, _, i + 1, _, .cons _ b, e => by
    obtain ⟨d, h1, h2⟩ := daall_get (i := i) b (by simpa using e)
    exact ⟨d, by simpa using h1, h2⟩
/-- keys that are texts -/
def isStrD : PyData → Bool
  | .str x => x.cps.all (· < 0x110000)
  | _ => false
/-- less than n deep, at most 1000 items in a list, less than 64 texts as keys of a dict -/
def oka : Nat → PyData → Bool
  | 0, _ => false
  | n + 1, .list ds => decide (ds.length ≤ 1000) && ds.all (oka n)
  | n + 1, .tuple ds => decide (ds.length ≤ 1000) && ds.all (oka n)
  | n + 1, .dict es => decide (es.length < 64) && es.all fun e => isStrD e.1 && oka n e.2
  | _ + 1, _ => true
theorem da_tyx {K : PySem.W.Frag} {H : Hp} {v : V} {d : PyData} (h : Da K H v d) : TyX K H v (.type (tyD d)) := by
  cases h with
  | non => exact .base .non
  | bl b => exact .base (.bl b)
  | int i => exact .base (.int i)
  | str x => exact .base (.str x)
  | lst q _ =>
    rcases q with (q | ⟨o, q⟩) | ⟨o, its, n, e, c, _⟩
    · exact .base (.lst q)
    · exact .base (.frz q)
    · exact .kList e c
  | tup q _ =>
    rcases q with (q | ⟨o, q⟩) | ⟨o, its, n, e, c, _⟩
    · exact .base (.tup q)
    · exact .fTuple q
    · exact .kTuple e c
  | dic q _ _ _ => exact .base (.dK q)
theorem isD_nodict {d : PyData} (h : ∀ es, d ≠ .dict es) : isD "dict" d = false := by
  cases d with
  | dict es => exact absurd rfl (h es)
  | _ => simp only [isD, tyD]; decide +kernel
theorem isD_dic {es : List (PyData × PyData)} : isD "dict" (.dict es) = true := by
  simp only [isD, tyD]
  decide +kernel
end Ag
namespace Ag
open PySem PySem.Spec PyProof.Rows L2
/-! ### two sorted lists of the same texts are one -/
theorem lc_anti : ∀ a b : List Nat, ltCps a b = false → ltCps b a = false → a = b
  | [], [], _, _ => rfl
  | [], _ :: _, h, _ => by simp [ltCps] at h
  | _ :: _, [], _, h => by simp [ltCps] at h
  | a :: r, b :: t, h1, h2 => by
    simp only [ltCps, Bool.or_eq_false_iff, decide_eq_false_iff_not, Bool.and_eq_false_iff, beq_eq_false_iff_ne] at h1 h2
    have e : a = b := by omega
    subst e
    have k1 : ltCps r t = false := by rcases h1.2 with z | z; exact absurd rfl z; exact z
    have k2 : ltCps t r = false := by rcases h2.2 with z | z; exact absurd rfl z; exact z
    rw [lc_anti r t k1 k2]
theorem lc_trans : ∀ a b c : List Nat, ltCps b a = false → ltCps c b = false → ltCps c a = false
  | [], _, [], _, _ => rfl
  | [], _, _ :: _, _, _ => rfl
  | _ :: _, [], _, h, _ => by simp [ltCps] at h
  | _ :: _, _ :: _, [], _, h => by simp [ltCps] at h
  | a :: r, b :: t, c :: u, h1, h2 => by
    simp only [ltCps, Bool.or_eq_false_iff, decide_eq_false_iff_not, Bool.and_eq_false_iff, beq_eq_false_iff_ne] at h1 h2 ⊢
    refine ⟨by omega, ?_⟩
    by_cases e : c = a
    · right
      have e1 : b = a := by omega
      have e2 : c = b := by omega
      have k1 : ltCps t r = false := by rcases h1.2 with z | z; exact absurd e1 z; exact z
      have k2 : ltCps u t = false := by rcases h2.2 with z | z; exact absurd e2 z; exact z
      exact lc_trans r t u k1 k2
    · exact .inl e
theorem rising_all : ∀ (l : List Str) (p : Str), risingS p l = true → (∀ x ∈ l, ltCps x.cps.toList p.cps.toList = false) ∧ l.Pairwise (fun a b => ltCps b.cps.toList a.cps.toList = false)
  | [], _, _ => ⟨fun x h => (by cases h), List.Pairwise.nil⟩
  | y :: r, p, h => by
    simp only [risingS, Bool.and_eq_true, Bool.not_eq_true'] at h
    obtain ⟨h1, h2⟩ := rising_all r y h.2
    refine ⟨fun x hx => ?_, .cons h1 h2⟩
    rcases List.mem_cons.mp hx with rfl | hx
    · exact h.1
    · exact lc_trans _ _ _ h.1 (h1 x hx)
theorem sorted_pw {l : List Str} (h : sortedS l = true) : l.Pairwise (fun a b => ltCps b.cps.toList a.cps.toList = false) := by
  cases l with
  | nil => exact .nil
  | cons x r =>
    obtain ⟨h1, h2⟩ := rising_all r x h
    exact .cons h1 h2
theorem perm_one {α : Type} {le : α → α → Prop} (anti : ∀ a b, le a b → le b a → a = b) : ∀ {a b : List α}, a.Perm b → a.Pairwise le → b.Pairwise le → a = b
  | [], [], _, _, _ => rfl
  | [], y :: t, p, _, _ => absurd p.length_eq (by simp)
  | x :: r, [], p, _, _ => absurd p.length_eq (by simp)
  | x :: r, y :: t, p, ha, hb => by
    obtain ⟨a1, a2⟩ := List.pairwise_cons.mp ha
    obtain ⟨b1, b2⟩ := List.pairwise_cons.mp hb
    have e : x = y := by
      have hx : x ∈ y :: t := p.mem_iff.mp (by simp)
      have hy : y ∈ x :: r := p.mem_iff.mpr (by simp)
      rcases List.mem_cons.mp hx with e | hx
      · exact e
      rcases List.mem_cons.mp hy with e | hy
      · exact e.symm
      exact anti _ _ (a1 y hy) (b1 x hx)
    subst e
    rw [perm_one anti p.cons_inv a2 b2]
theorem sorted_one {a b : List Str} (p : a.Perm b) (ha : sortedS a = true) (hb : sortedS b = true) : a = b := by
  refine perm_one (le := fun a b => ltCps b.cps.toList a.cps.toList = false) (fun x y h1 h2 => ?_) p (sorted_pw ha) (sorted_pw hb)
  have e := lc_anti _ _ h2 h1
  exact TL.ext_tl e
theorem dpall_strs {K : PySem.W.Frag} {H : Hp} : ∀ ys : List Str, DpAll K H (ys.map V.str) (ys.map PyData.str)
  | [] => .nil
  | y :: r => .cons (.str y) (dpall_strs r)
end Ag
namespace Ag
open PySem PySem.Spec PyProof.Rows L2
theorem lay_strs : ∀ ys : List Str, (∀ y ∈ ys, (y.cps.all (· < 0x110000)) = true) → PyData.canLayAll0 (ys.map PyData.str) = true
  | [], _ => rfl
  | y :: r, h => by
    show (PyData.canLay0 (.str y) && PyData.canLayAll0 (r.map PyData.str)) = true
    rw [lay_strs r fun z hz => h z (List.mem_cons_of_mem _ hz), Bool.and_true]
    exact h y (by simp)
theorem depth_strs : ∀ ys : List Str, PyData.depthAll (ys.map PyData.str) = 0
  | [] => rfl
  | y :: r => by
    show max 0 (PyData.depthAll (r.map PyData.str)) = 0
    rw [depth_strs r]
    rfl
theorem shaped_strs {ys : List Str} (h : ∀ y ∈ ys, (y.cps.all (· < 0x110000)) = true) : SeqAt.shaped (.list (ys.map PyData.str)) = true := by
  unfold SeqAt.shaped
  rw [Bool.and_eq_true]
  refine ⟨lay_strs ys h, ?_⟩
  show decide (PyData.depthAll (ys.map PyData.str) + 1 ≤ 64) = true
  rw [depth_strs]
  decide
/-- the entries of a dict with text keys, by its data -/
theorem dic_keys {n : Nat} {kvs : List (Key × V)} {es : List (PyData × PyData)} {R : Key × V → PyData × PyData → Prop} (hr : ∀ kv e, R kv e → e.1 = keyD kv.1) (ok : oka (n + 1) (.dict es) = true) (r : Paired R kvs es) :
    ∃ ks : List Str, (kvs.map fun kv => kV kv.1) = ks.map V.str ∧ ks.length = es.length ∧ (∀ y ∈ ks, (y.cps.all (· < 0x110000)) = true) ∧ es.map (·.1) = ks.map PyData.str ∧ kvs.map (·.1) = ks.map Sum.inr := by
  have ok2 : ∀ e ∈ es, isStrD e.1 = true := by
    simp only [oka, Bool.and_eq_true, List.all_eq_true] at ok
    exact fun e he => (ok.2 e he).1
  clear ok
  induction r with
  | nil => exact ⟨[], rfl, rfl, fun y h => (by cases h), rfl, rfl⟩
  | @cons kv e kvs es h t ih =>
    obtain ⟨ks, h1, h2, h3, h4, h5⟩ := ih fun e he => ok2 e (List.mem_cons_of_mem _ he)
    have he := hr _ _ h
    have hs := ok2 e (by simp)
    obtain ⟨k, v⟩ := kv
    cases k with
    | inl i => rw [he] at hs; cases hs
    | inr x =>
      rw [he] at hs
      refine ⟨x :: ks, by rw [List.map_cons, h1]; rfl, by simp [h2], fun y hy => ?_, by rw [List.map_cons, h4, he]; rfl, by rw [List.map_cons, h5]; rfl⟩
      rcases List.mem_cons.mp hy with rfl | hy
      · exact hs
      · exact h3 y hy
theorem valV_of {kvs : List (Key × V)} (nd : (kvs.map (·.1)).Nodup) {k : Key} {v : V} (h : (k, v) ∈ kvs) : valV kvs k = some v := by
  induction kvs with
  | nil => cases h
  | cons p r ih =>
    rw [List.map_cons, List.nodup_cons] at nd
    rcases List.mem_cons.mp h with e | h
    · rw [← e]
      exact valV_pos rfl
    · rw [valV_neg]
      · exact ih nd.2 h
      · intro e
        exact nd.1 (by rw [e]; exact List.mem_map.mpr ⟨_, h, rfl⟩)
theorem paired_mem {α β : Type} {R : α → β → Prop} : ∀ {l : List α} {m : List β}, Paired R l m → ∀ {a : α}, a ∈ l → ∃ b, b ∈ m ∧ R a b
  | _, _, .nil, _, h => by cases h
  | _, _, .cons r t, a, h => by
    rcases List.mem_cons.mp h with rfl | h
    · exact ⟨_, by simp, r⟩
    · obtain ⟨b, h1, h2⟩ := paired_mem t h
      exact ⟨b, by simp [h1], h2⟩
theorem paired_mem2 {α β : Type} {R : α → β → Prop} : ∀ {l : List α} {m : List β}, Paired R l m → ∀ {b : β}, b ∈ m → ∃ a, a ∈ l ∧ R a b
  | _, _, .nil, _, h => by cases h
  | _, _, .cons r t, b, h => by
    rcases List.mem_cons.mp h with rfl | h
    · exact ⟨_, by simp, r⟩
    · obtain ⟨a, h1, h2⟩ := paired_mem2 t h
      exact ⟨a, by simp [h1], h2⟩
end Ag

namespace Ag
open PySem PySem.Spec PyProof.Rows L2
/-! ### objects that are known to the letter for a while -/
def pinO (a : Addr) (o : Obj) : HO := .ext fun h => h.get? a = some o
abbrev Pins := List (Addr × Obj)
def addp (H : Hp) (l : Pins) : Hp := fun b => match l.lookup b with
  | some o => some (pinO b o)
  | none => H b
def remp (H : Hp) (l : Pins) : Hp := fun b => match l.lookup b with
  | some _ => none
  | none => H b
theorem addp_in {H : Hp} {l : Pins} {b : Addr} {o : Obj} (e : l.lookup b = some o) : addp H l b = some (pinO b o) := by unfold addp; rw [e]
theorem addp_out {H : Hp} {l : Pins} {b : Addr} (e : l.lookup b = none) : addp H l b = H b := by unfold addp; rw [e]
theorem remp_in {H : Hp} {l : Pins} {b : Addr} {o : Obj} (e : l.lookup b = some o) : remp H l b = none := by unfold remp; rw [e]
theorem remp_out {H : Hp} {l : Pins} {b : Addr} (e : l.lookup b = none) : remp H l b = H b := by unfold remp; rw [e]
theorem pin_tup {a : Addr} {o : Obj} {xs : List V} : pinO a o ≠ .tup xs := fun z => by
  unfold pinO at z
  cases z
theorem pin_frz {a : Addr} {o ob : Obj} {u : HO} : pinO a o ≠ .frz ob u := fun z => by
  unfold pinO at z
  cases z
theorem pin_own {a x : Addr} {o : Obj} : pinO a o ≠ .own x := fun z => by
  unfold pinO at z
  cases z
theorem pin_tbl {a : Addr} {o : Obj} {ps : Array Value} : pinO a o ≠ .tbl ps := fun z => by
  unfold pinO at z
  cases z
section
variable {P : Program} {w : World} {H H' : Hp} {h h' : Heap} {fs : List Addr} {l : Pins}
theorem pin_ok {a : Addr} {o : Obj} (e : h.get? a = some o) : ObjOk P w H h a (pinO a o) := ⟨e, ⟨o, e⟩, fun _ _ z k => k _ z⟩
theorem pin_at {a : Addr} {o : Obj} (ok : HOk P w H h) (e : H a = some (pinO a o)) : h.get? a = some o := by
  have x : ObjOk P w H h a (.ext fun g => g.get? a = some o) := ok a _ e
  exact x.1
theorem addp_none {b : Addr} (e : addp H l b = none) : l.lookup b = none ∧ H b = none := by
  cases q : l.lookup b with
  | some o =>
    rw [addp_in q] at e
    cases e
  | none =>
    rw [addp_out q] at e
    exact ⟨rfl, e⟩
theorem addp_some {b : Addr} {u : HO} (e : addp H l b = some u) (hu : ∀ o, u ≠ pinO b o) : l.lookup b = none ∧ H b = some u := by
  cases q : l.lookup b with
  | some o =>
    rw [addp_in q] at e
    exact absurd (Option.some.inj e).symm (hu o)
  | none =>
    rw [addp_out q] at e
    exact ⟨rfl, e⟩
theorem hok_add (ok : HOk P w H h) (hl : ∀ b o, l.lookup b = some o → h.get? b = some o ∧ H b = none) : HOk P w (addp H l) h := fun b u e => by
  cases q : l.lookup b with
  | some o =>
    rw [addp_in q] at e
    cases e
    exact pin_ok (hl b o q).1
  | none =>
    rw [addp_out q] at e
    have nl : ∀ {c : Addr} {v : HO}, H c = some v → l.lookup c = none := fun {c v} z => by
      cases q2 : l.lookup c with
      | none => rfl
      | some o =>
        rw [(hl c o q2).2] at z
        cases z
    exact (ok b u e).stay (fun _ _ _ z => z) (fun c z => by rw [addp_out (nl z)]; exact z) fun c xs z => by rw [addp_out (nl z)]; exact z
theorem hok_rem (ok : HOk P w H h) (hl : ∀ b o, l.lookup b = some o → H b = some (pinO b o)) : HOk P w (remp H l) h := fun b u e => by
  cases q : l.lookup b with
  | some o =>
    rw [remp_in q] at e
    cases e
  | none =>
    rw [remp_out q] at e
    have nl : ∀ {c : Addr} {v : HO}, H c = some v → (∀ o, v ≠ pinO c o) → l.lookup c = none := fun {c v} z n => by
      cases q2 : l.lookup c with
      | none => rfl
      | some o =>
        rw [hl c o q2] at z
        exact absurd (Option.some.inj z).symm (n o)
    exact (ok b u e).stay (fun _ _ _ z => z) (fun c z => by rw [remp_out (nl z fun o y => pin_own y.symm)]; exact z) fun c xs z => by rw [remp_out (nl z fun o y => pin_tup y.symm)]; exact z
/-- back from a call that knew of the pins -/
theorem un_rem (u : Un fs [] (addp H l) H' h h') (hl : ∀ b o, l.lookup b = some o → h.get? b = some o ∧ H b = none ∧ b ∉ fs) (ok : HOk P w H' h') (hp : ∀ b o, l.lookup b = some o → H' b = some (pinO b o)) : Un fs [] H (remp H' l) h h' where
  keep := fun b o e n hf hx => by
    cases q : l.lookup b with
    | some ob =>
      have e2 := (hl b ob q).1
      rw [e] at e2
      cases e2
      exact pin_at ok (hp b o q)
    | none => exact u.keep b o e (by rw [addp_out q]; exact n) hf hx
  slot := fun b o e n hf hx => by
    cases q : l.lookup b with
    | some ob => exact absurd hf (hl b ob q).2.2
    | none => exact u.slot b o e (by rw [addp_out q]; exact n) hf hx
  free := fun b o e n hx => by
    cases q : l.lookup b with
    | some ob => exact remp_in q
    | none =>
      rw [remp_out q]
      exact u.free b o e (by rw [addp_out q]; exact n) hx
  there := u.there
  tups := fun b xs e => by
    cases q : l.lookup b with
    | some ob =>
      rw [(hl b ob q).2.1] at e
      cases e
    | none =>
      rw [remp_out q]
      exact u.tups b xs (by rw [addp_out q]; exact e)
  frzs := fun b o v e => by
    cases q : l.lookup b with
    | some ob =>
      rw [(hl b ob q).2.1] at e
      cases e
    | none =>
      rw [remp_out q]
      exact u.frzs b o v (by rw [addp_out q]; exact e)
  tbls := fun b ps e => by
    cases q : l.lookup b with
    | some ob =>
      rw [(hl b ob q).2.1] at e
      cases e
    | none =>
      rw [remp_out q]
      exact u.tbls b ps (by rw [addp_out q]; exact e)
/-- the pins put aside, and taken up again -/
theorem un_add (u : Un fs [] (remp H l) H' h h') (hl : ∀ b o, l.lookup b = some o → H b = some (pinO b o)) : Un fs [] H (addp H' l) h h' := by
  have no : ∀ {b : Addr}, H b = none → l.lookup b = none := fun {b} n => by
    cases q : l.lookup b with
    | none => rfl
    | some o =>
      rw [hl b o q] at n
      cases n
  have no2 : ∀ {b : Addr} {v : HO}, H b = some v → (∀ o, v ≠ pinO b o) → l.lookup b = none := fun {b v} e n => by
    cases q : l.lookup b with
    | none => rfl
    | some o =>
      rw [hl b o q] at e
      exact absurd (Option.some.inj e).symm (n o)
  exact {
    keep := fun b o e n hf hx => u.keep b o e (by rw [remp_out (no n)]; exact n) hf hx
    slot := fun b o e n hf hx => u.slot b o e (by rw [remp_out (no n)]; exact n) hf hx
    free := fun b o e n hx => by rw [addp_out (no n)]; exact u.free b o e (by rw [remp_out (no n)]; exact n) hx
    there := u.there
    tups := fun b xs e => by
      have q := no2 e fun o y => pin_tup y.symm
      rw [addp_out q]
      exact u.tups b xs (by rw [remp_out q]; exact e)
    frzs := fun b o v e => by
      have q := no2 e fun ob y => pin_frz y.symm
      rw [addp_out q]
      exact u.frzs b o v (by rw [remp_out q]; exact e)
    tbls := fun b ps e => by
      have q := no2 e fun o y => pin_tbl y.symm
      obtain ⟨m, z⟩ := u.tbls b ps (by rw [remp_out q]; exact e)
      exact ⟨m, by rw [addp_out q]; exact z⟩ }
theorem un_pins (u : Un fs [] (remp H l) H' h h') (ok : HOk P w H h) (hl : ∀ b o, l.lookup b = some o → H b = some (pinO b o) ∧ b ∉ fs) : ∀ b o, l.lookup b = some o → h'.get? b = some o ∧ H' b = none := fun b o q => by
  have e := pin_at ok (hl b o q).1
  exact ⟨u.keep b o e (remp_in q) (hl b o q).2 (by simp), u.free b o e (remp_in q) (by simp)⟩
end
theorem same_rem {H H1 : Hp} {l : Pins} (s : Same (addp H l) H1) (n : ∀ b o, l.lookup b = some o → H b = none) : Same H (remp H1 l) := fun c o e => by
  have q : l.lookup c = none := by
    cases z : l.lookup c with
    | none => rfl
    | some ob =>
      rw [n c ob z] at e
      cases e
  rw [remp_out q]
  exact s c o (by rw [addp_out q]; exact e)
theorem same_add {H1 H2 : Hp} {l : Pins} (s : Same (remp H1 l) H2) (hp : ∀ b o, l.lookup b = some o → H1 b = some (pinO b o)) : Same H1 (addp H2 l) := fun c o e => by
  cases q : l.lookup c with
  | some ob =>
    rw [addp_in q]
    rw [hp c ob q] at e
    exact e
  | none =>
    rw [addp_out q]
    exact s c o (by rw [remp_out q]; exact e)
theorem add_same {H : Hp} {l : Pins} (n : ∀ b o, l.lookup b = some o → H b = none) : Same H (addp H l) := fun c o e => by
  have q : l.lookup c = none := by
    cases z : l.lookup c with
    | none => rfl
    | some ob =>
      rw [n c ob z] at e
      cases e
  rw [addp_out q]
  exact e
section
variable {P : Program} {w : World} {K : PySem.W.Frag} {mg : Str → Option Value} {base : Heap} {A : Around} {outer : List Env} {s s' : Shared} {H : Hp} {l : Pins}
theorem env0_add (e0 : Env0 P w K mg base A outer s H) (hl : ∀ b o, l.lookup b = some o → s.heap.get? b = some o ∧ H b = none ∧ base.get? b = none ∧ b ∉ frs outer) : Env0 P w K mg base A outer s (addp H l) :=
  ⟨e0.frames, e0.mod, fun b o e => ⟨(e0.bs b o e).1, by
      cases q : l.lookup b with
      | some ob =>
        rw [(hl b ob q).2.2.1] at e
        cases e
      | none =>
        rw [addp_out q]
        exact (e0.bs b o e).2⟩,
    e0.bsz, e0.funs, fun b hb => by
      cases q : l.lookup b with
      | some ob => exact absurd hb (hl b ob q).2.2.2
      | none =>
        rw [addp_out q]
        exact e0.frf b hb,
    hok_add e0.hok (fun b o q => ⟨(hl b o q).1, (hl b o q).2.1⟩), e0.bare⟩
theorem env0_rem (e0 : Env0 P w K mg base A outer s H) (hl : ∀ b o, l.lookup b = some o → H b = some (pinO b o)) : Env0 P w K mg base A outer s (remp H l) := by
  have no : ∀ {b : Addr}, H b = none → remp H l b = none := fun {b} n => by
    cases q : l.lookup b with
    | some o => exact remp_in q
    | none =>
      rw [remp_out q]
      exact n
  exact ⟨e0.frames, e0.mod, fun b o e => ⟨(e0.bs b o e).1, no (e0.bs b o e).2⟩, e0.bsz, e0.funs, fun b hb => no (e0.frf b hb), hok_rem e0.hok hl, e0.bare⟩
theorem ce_rem {Q Q' : VK} {u : Value} (hl : ∀ b o, l.lookup b = some o → s.heap.get? b = some o ∧ H b = none ∧ b ∉ frs outer) (hQ : ∀ v H2, Q' v H2 → (∀ b o, l.lookup b = some o → H2 b = some (pinO b o)) ∧ Q v (remp H2 l)) (c : CE outer P w (addp H l) s Q' u s') : CE outer P w H s Q u s' := by
  obtain ⟨v, H2, os, bare, un, ok, r, q⟩ := c
  obtain ⟨hp, q2⟩ := hQ v H2 q
  exact ⟨v, remp H2 l, os, bare, un_rem un hl ok hp, hok_rem ok hp, r, q2⟩
theorem ce_add {Q : VK} {u : Value} (e0 : Env0 P w K mg base A outer s H) (hl : ∀ b o, l.lookup b = some o → H b = some (pinO b o)) (c : CE outer P w (remp H l) s (fun v H2 => (∀ b o, l.lookup b = some o → H2 b = none) → Q v (addp H2 l)) u s') : CE outer P w H s Q u s' := by
  obtain ⟨v, H2, os, bare, un, ok, r, q⟩ := c
  have hl2 : ∀ b o, l.lookup b = some o → H b = some (pinO b o) ∧ b ∉ frs outer := fun b o z => ⟨hl b o z, fun hb => by
    have y := e0.frf b hb
    rw [hl b o z] at y
    cases y⟩
  have k := un_pins un e0.hok hl2
  exact ⟨v, addp H2 l, os, bare, un_add un hl, hok_add ok k, r, q fun b o z => (k b o z).2⟩
theorem cx_add {E : XK} {u : Value} (e0 : Env0 P w K mg base A outer s H) (hl : ∀ b o, l.lookup b = some o → H b = some (pinO b o)) (c : L2.CX P w outer (remp H l) s (fun cls d H2 => (∀ b o, l.lookup b = some o → H2 b = none) → E cls d (addp H2 l)) u s') : L2.CX P w outer H s E u s' := by
  obtain ⟨a, B, H2, cls, d, eu, fl, ok, ub, na, os, bare, q⟩ := c
  have hl2 : ∀ b o, l.lookup b = some o → s.heap.get? b = some o ∧ b ∉ frs outer := fun b o z => ⟨pin_at e0.hok (hl b o z), fun hb => by
    have y := e0.frf b hb
    rw [hl b o z] at y
    cases y⟩
  have kB : ∀ b o, l.lookup b = some o → B.get? b = some o ∧ H2 b = none := fun b o z => ⟨ub.keep b o (hl2 b o z).1 (remp_in z) (hl2 b o z).2, ub.free b o (hl2 b o z).1 (remp_in z)⟩
  have no : ∀ {b : Addr}, H b = none → l.lookup b = none := fun {b} n => by
    cases q : l.lookup b with
    | none => rfl
    | some o =>
      rw [hl b o q] at n
      cases n
  have no2 : ∀ {b : Addr} {v : HO}, H b = some v → (∀ o, v ≠ pinO b o) → l.lookup b = none := fun {b v} e n => by
    cases q : l.lookup b with
    | none => rfl
    | some o =>
      rw [hl b o q] at e
      exact absurd (Option.some.inj e).symm (n o)
  have nal : l.lookup a = none := by
    cases z : l.lookup a with
    | none => rfl
    | some o =>
      have e := (kB a o z).1
      have e2 := fl.2.1
      rw [e] at e2
      cases e2
  refine ⟨a, B, addp H2 l, cls, d, eu, fl, hok_add ok kB, ?_, by rw [addp_out nal]; exact na, os, bare, q fun b o z => (kB b o z).2⟩
  exact {
    keep := fun b o e n hf => ub.keep b o e (by rw [remp_out (no n)]; exact n) hf
    slot := ub.slot
    free := fun b o e n => by rw [addp_out (no n)]; exact ub.free b o e (by rw [remp_out (no n)]; exact n)
    there := ub.there
    tups := fun b xs e => by
      have z := no2 e fun o y => pin_tup y.symm
      rw [addp_out z]
      exact ub.tups b xs (by rw [remp_out z]; exact e)
    frzs := fun b o v e => by
      have z := no2 e fun ob y => pin_frz y.symm
      rw [addp_out z]
      exact ub.frzs b o v (by rw [remp_out z]; exact e)
    tbls := fun b ps e => by
      have z := no2 e fun o y => pin_tbl y.symm
      obtain ⟨m, y⟩ := ub.tbls b ps (by rw [remp_out z]; exact e)
      exact ⟨m, by rw [addp_out z]; exact y⟩ }
end
end Ag

namespace Ag
open PySem PySem.Spec PyProof.Rows L2
/-! ### a def that raises nothing, called where an exception p is handled -/
abbrev SpP := (Addr × Obj) → Sp
structure FnS (P : Program) (w : World) (K : PySem.W.Frag) (mg : Str → Option Value) (base : Heap) (k : Nat) (f : Addr) (fd : FuncData) (ps : List Str) (sp : SpP) : Prop where
  len : ∀ p vs H Q, sp p vs H Q L2.E0 → vs.length = ps.length
  run : ∀ (A : Around) (outer : List Env) (s : Shared) (H : Hp) (args : Args) (us : List Value) (vs : List V) (Q : VK) (p : Addr × Obj), L2H.RoomH k A → L2H.PinOk outer H s p → Env0 P w K mg base A outer s H → BindsTo s fd args (ps.zip us) → Vals vs us → sp p vs H Q L2.E0 →
    codeAny (model P w) A (.call (.ref f) args) (CR L2.CX0 outer P w H s Q L2.E0) s
section
variable {P : Program} {w : World} {K : PySem.W.Frag} {mg : Str → Option Value} {base : Heap}
theorem okS {x qual : Str} {st : Stmt} {f : Addr} {fd : FuncData} {N ps : List Str} {k : Nat} {sp : SpP} (F : Fun K x qual st f fd) (sc : FnScope N ps (defScope st)) (len : ∀ p vs H Q, sp p vs H Q L2.E0 → vs.length = ps.length)
    (body : ∀ (cdv : Value) (A : Around) (outer : List Env) (s : Shared) (H : Hp) (vs : List V) (Q : VK) (p : Addr × Obj), L2H.RoomH k (A.deeper (envOfC qual (defScope st) s.heap.objs.size f cdv)) → sp p vs H Q L2.E0 →
      ∃ t, PSs (L2H.cxH L2.CX0 P w K mg base N qual (defScope st) f cdv A outer s H L2.E0 p).nox (defBody st) t ∧ t { nx := fun _ H' => Q .non H', rt := Q } (L2.start N vs) H) : FnS P w K mg base (k + 1) f fd ps sp := by
  obtain ⟨oc, od, kV, doc, pm, an, cdv, ct, osl, rfl, look, code⟩ := F.ex
  refine ⟨len, fun A outer s H args us vs Q p room pin e0 bs rv hsp => ?_⟩
  have inK : K.In s.heap := e0.mod.kin.keeps fun c oo z => (e0.bs c oo z).1
  have nolim : s.heap.NoLimit := e0.mod.nolimit.keeps fun c oo z => (e0.bs c oo z).1
  have kinds : ∀ y ∈ ps.zip us, (defScope st).names.lookup y.1 = some .local ∨ ((defScope st).names.lookup y.1 = some .cell ∧ ((cellsFrom (s.heap.objs.size + 1) (defScope st).names []).lookup y.1).isSome = true) := by
    rintro ⟨n, v⟩ hy
    exact (sc.par n (List.of_mem_zip hy).1).imp id fun q => ⟨q, PySem.W.cellsFrom_some _ _ _ (.inl q)⟩
  refine codeAny_call_function room.depth (inK _ _ look) rfl sc.co sc.gen rfl (PySem.W.codeRec_of inK code) (bs _ _ _ _ ?_)
  refine wpAny_newFunctionEnv_cells sc.kind kinds fun env he s1 ic => ?_
  subst he
  refine ⟨nolim.keeps ic.toInCall.keep, codeAny_func ?_⟩
  obtain ⟨t, ht, ht2⟩ := body cdv A outer s H vs Q p (room.deeper _) hsp
  have J := L2H.inv_startH (CX := L2.CX0) (E := L2.E0) sc pin e0 (len _ _ _ _ hsp) rv ic
  refine wpAny_mono (ht.nox.run [] s1 (L2.start N vs) H _ J ht2) (fun fl s' z => ?_) fun _ _ z => z
  cases fl with
  | ret u =>
    obtain ⟨v, σ2, H2, J2, r2, q2⟩ := z
    exact ⟨v, H2, J2.os, J2.bare, J2.base, J2.hok, r2, q2⟩
  | next =>
    obtain ⟨σ2, H2, J2, q2⟩ := z
    exact ⟨.non, H2, J2.os, J2.bare, J2.base, J2.hok, rfl, q2⟩
  | brk => exact z.choose_spec.choose_spec.2.elim
  | cont => exact z.choose_spec.choose_spec.2.elim
end
section
variable {X : Cx}
theorem pe_callP {k : Nat} {f : Addr} {fd : FuncData} {ps : List Str} {sp : SpP} {x : Str} {n pos : Pos} {e : Expr} {es : List Expr} {t : TA} {p : Addr × Obj} (F : FnS X.prog X.w X.K X.mg X.base k f fd ps sp) (room : L2H.RoomH k X.A) (hp : p ∈ X.pn) (hg : Gl X x)
    (hm : X.mg x = some (.ref f)) (kp : PySem.W.keepIn X.K (.ref f) = true) (bi : Binds X.K fd ps []) (ha : PA X (e :: es) t) (hdb : (x == ("__debug__" : Str)) = false := by decide)
    (h1 : starEach (e :: es) X.env = (false, eval e X.env) :: starEach es X.env := by rfl) (h2 : (backTo pos (starEach es X.env)).any (·.1) = false := by rfl) :
    PE X (.Call (.Name x n) (e :: es) [] pos) (fun σ H Q => t σ H fun vs H1 => sp p vs H1 Q L2.E0) := by
  refine ⟨fun pins s σ H Q I h => wpAny_Call_Name_kw (ld_glob I hg hm ?_ hdb)⟩
  refine PySem.W.callWith_K (h₀ := X.base) I.ok.mod.kin kp (thn (ha.run pos pins s σ H _ I h) fun us s1 ⟨vs, H1, J, rv, hsp⟩ => ⟨J.kIn, ?_⟩) h1 h2
  have hl : us.length = ps.length := (Vals.length rv).symm.trans (F.len _ _ _ _ hsp)
  have b := bi s1 us J.kIn (by rw [List.append_nil]; exact hl)
  rw [List.append_nil] at b
  obtain ⟨g1, g2, g3, g4, g5⟩ := J.pin p (List.mem_append_left _ hp)
  have pk : L2H.PinOk X.stack H1 s1 p := ⟨g1, g2, fun hm => by
    rcases List.mem_cons.mp (J.stkSub p.1 hm) with z | z
    · exact g3 z
    · exact g4 z, g5⟩
  refine wpAny_call (codeAny_mono (F.run X.A X.stack s1 H1 ⟨us, []⟩ us vs Q p room pk J.env0 b rv hsp) fun r s2 z => ?_)
  match r, z with
  | .ok (.ret u), z => exact J.after z
/-- a field of the exception whose object is known -/
def tXfE (K : PySem.W.Frag) (a : Addr) (cls : Value) (d : Option Addr) (n : Str) (te : TE) : TE := fun σ H Q => te σ H fun x H1 => x = .ref a ∧ ∃ (C dd : Addr) (fs : List (Str × V)) (v : V), cls = .ref C ∧ XfC K C ∧ PySem.W.findIn K (.ref C) n = some none ∧ d = some dd ∧ H1 dd = some (.xd fs) ∧ fs.lookup n = some v ∧ Q v H1
theorem pe_xfP {a : Addr} {oe : Obj} {cls : Value} {d : Option Addr} {e : Expr} {te : TE} {pos : Pos} {n : Str} (hz : Zc cls d oe) (hf : ∃ vs, oe.data = .fields vs) (hp : (a, oe) ∈ X.pn) (he : PE X e te) (hb : attributeBase e n X.env (eval e X.env) = eval e X.env := by rfl) :
    PE X (.Attribute e n pos) (tXfE X.K a cls d n te) := by
  refine ⟨fun pins s σ H Q I h => attr_of hb (thn (he.run pins s σ H _ I h) ?_)⟩
  rintro u s1 ⟨x, H1, J, rx, rfl, C, dd, fs, v, rfl, T, hno, rfl, hd, hl, q⟩
  obtain rfl : u = Value.ref a := rx
  obtain ⟨vs, hv⟩ := hf
  obtain ⟨mA, hn, hr⟩ : ObjOk X.prog X.w H1 s1.heap dd (.xd fs) := J.hok dd _ hd
  obtain ⟨od, ho, hk⟩ := lookIn_ns hn
  obtain ⟨u, hu, ru⟩ := RelO.some_of (v := v) (o := mA n) (by rw [← hl]; exact hr n)
  have at_ : PySem.W.InstAt s1.heap a oe C (some od) := ⟨(J.pin (a, oe) (List.mem_append_left _ hp)).1, hz.1, by
    unfold PySem.W.notCls
    rw [hv], by rw [hz.2]; exact ho⟩
  exact HandSPX.exc_get J.kIn at_ T.ga T.gg T.exC (PySem.W.findObj_own T.hdC hno rfl (by rw [hk, hu])) (handed_of ru) ⟨v, H1, J.tok _, ru, q⟩
end
/-- an object that is new since the entry is known from now on -/
theorem inv_track {X : Cx} {pins : List (Addr × Obj)} {σ : L2.St} {H : Hp} {s : Shared} {a : Addr} {o : HO} (I : Inv X pins σ H s) (hn : H a = none) (sz : X.s_0.heap.objs.size ≤ a) (nL : a ≠ X.env.locals) (nC : ∀ x c, X.env.cells.lookup x = some c → c ≠ a)
    (nP : ∀ p ∈ X.pn ++ pins, p.1 ≠ a) (new : ObjOk X.prog X.w (upd H a o) s.heap a o) : Inv X pins σ (upd H a o) s := by
  have old : ∀ {b ob}, X.s_0.heap.get? b = some ob → b ≠ a := fun e => Nat.ne_of_lt (Nat.lt_of_lt_of_le (Heap.lt_size e) sz)
  have up : ∀ {b v}, H b = some v → upd H a o b = some v := fun e => by
    rw [upd_ne (ne_of_none e hn)]
    exact e
  exact ⟨I.ok, I.os, I.bare, ⟨I.base.keep, I.base.slot, fun b ob e n hx => by
      rw [upd_ne (old e)]
      exact I.base.free b ob e n hx, I.base.there, fun b xs e => up (I.base.tups b xs e), fun b ob u e => up (I.base.frzs b ob u e), fun b ps e => by
      obtain ⟨m, z⟩ := I.base.tbls b ps e
      exact ⟨m, up z⟩⟩,
    I.loc, I.cell, by
      rw [upd_ne nL.symm]
      exact I.free, fun x c e => by
      rw [upd_ne (nC x c e)]
      exact I.freeC x c e, fun p hp => by
      obtain ⟨e1, e2, e3⟩ := I.pin p hp
      exact ⟨e1, by
        rw [upd_ne (nP p hp)]
        exact e2, e3⟩, fun b u e => by
      by_cases hb : b = a
      · subst hb
        rw [upd_same] at e
        cases e
        exact new
      · rw [upd_ne hb] at e
        exact (I.hok b u e).stay (fun _ _ _ z => z) (fun c z => up z) fun c xs z => up z, I.len⟩
/-! ### an exception in flight stays so where objects are only added -/
theorem fly_keep {B : Heap} {l : List Env} {a : Addr} {Z : Obj → Prop} {h h' : Heap} (k : ∀ b o, h.get? b = some o → h'.get? b = some o) (f : HandSPX.FlyingZ B l a Z h) : HandSPX.FlyingZ B l a Z h' := by
  obtain ⟨f1, f2, f3, oe, vs, T, oT, ts, t1, t2, t3, t4, t5, t6, t7, t8, t9⟩ := f
  exact ⟨fun b o e => k b o (f1 b o e), f2, Heap.FunFrames.of_keeps (fun b o e _ => ⟨o, k b o e, rfl⟩) f3, oe, vs, T, oT, ts, k _ _ t1, t2, t3, t4, t5, t6, k _ _ t7, t8, t9⟩
theorem fly_there {B : Heap} {l : List Env} {a : Addr} {Z : Obj → Prop} {h : Heap} (f : HandSPX.FlyingZ B l a Z h) : ∃ oe vs, h.get? a = some oe ∧ Z oe ∧ oe.data = .fields vs := by
  obtain ⟨_, _, _, oe, vs, T, oT, ts, t1, t2, t3, _⟩ := f
  exact ⟨oe, vs, t1, t2, t3⟩
/-! ### try: body, except (x1, x2, x3) as n: suite; each exception of the body is one of these -/
def wTry3 (K : PySem.W.Frag) (c1 c2 c3 : Addr) (i : Nat) (ts : Addr → Obj → Value → Option Addr → TS) (D : Ends) : WX := fun cls d σ H =>
  PySem.W.exmAny K cls [.ref c1, .ref c2, .ref c3] = some true ∧ ∀ a oe tp, Zc cls d oe → (∃ vs, oe.data = .fields vs) → H a = none → H tp = none → tp ≠ a → ts a oe cls d { nx := fun σ' H' => D.nx (σ'.set i none) H', rt := D.rt, bk := fun σ' H' => D.bk (σ'.set i none) H', ct := fun σ' H' => D.ct (σ'.set i none) H' } (σ.set i (some (.ref a))) (upd H tp (.tup [.ref c1, .ref c2, .ref c3]))
section
variable {X : Cx} {x1 x2 x3 n : Str} {c1 c2 c3 : Addr} {i : Nat} {body suite : List Stmt} {b₀ : Stmt} {p1 p2 p3 pT pos pos' : Pos} {kT} {tb : WX → TS} {ts : Addr → Obj → Value → Option Addr → TS}
theorem tup3_at {a : Addr} {oe : Obj} {pn : List (Addr × Obj)} {σ : L2.St} {H : Hp} {s : Shared} {Q : Value → Shared → Prop} (I : Inv (X.suite a ((a, oe) :: pn)) [] σ H s) (g1 : Gl X x1) (m1 : X.mg x1 = some (.ref c1)) (g2 : Gl X x2) (m2 : X.mg x2 = some (.ref c2)) (g3 : Gl X x3) (m3 : X.mg x3 = some (.ref c3))
    (d1 : (x1 == ("__debug__" : Str)) = false) (d2 : (x2 == ("__debug__" : Str)) = false) (d3 : (x3 == ("__debug__" : Str)) = false)
    (q : ∀ s2 : Shared, s2 = { s with heap := s.heap.push { cls := .type "tuple", data := .seq [Value.ref c1, .ref c2, .ref c3].toArray }, toks := s2.toks } → H s.heap.objs.size = none → Inv (X.suite a ((a, oe) :: pn)) [] σ (upd H s.heap.objs.size (.tup [.ref c1, .ref c2, .ref c3])) s2 → Q (.ref s.heap.objs.size) s2)
    {E : Value → Shared → Prop} : wpAny (model X.prog X.w) (X.A.mark (some (.ref a))) (eval (.Tuple [.Name x1 p1, .Name x2 p2, .Name x3 p3] kT pT) X.env) Q E s := by
  have fresh : H s.heap.objs.size = none := I.hok.fresh (Nat.le_refl _)
  refine wpAny_Tuple_spliced ?_
  refine Calls.spliced_cons (ld_glob (X := X.suite a ((a, oe) :: pn)) I g1 m1 ?_ d1)
  refine Calls.spliced_cons (ld_glob (X := X.suite a ((a, oe) :: pn)) (I.tok _) g2 m2 ?_ d2)
  refine Calls.spliced_cons (ld_glob (X := X.suite a ((a, oe) :: pn)) (I.tok _) g3 m3 ?_ d3)
  refine Calls.spliced_nil ⟨(by show 3 ≤ sizeLine; decide), ?_⟩
  refine q _ rfl fresh ?_
  exact I.laid (t' := s.toks) (fun b u e => Heap.get?_push_of_some _ e) (Nat.le_refl _) ⟨(by show 3 ≤ sizeLine; decide), [.ref c1, .ref c2, .ref c3], .cons rfl (.cons rfl (.cons rfl .nil)), ⟨_, Heap.get?_push_size _ rfl, rfl, _, rfl⟩⟩
theorem ps_try3 (stk : X.stack = X.env :: X.outer) (fr : X.env.frame = some X.env.locals) (nd : X.N.Nodup) (hi : X.N[i]? = some n) (hn : X.env.kindOf n = some .local) (g1 : Gl X x1) (m1 : X.mg x1 = some (.ref c1)) (g2 : Gl X x2) (m2 : X.mg x2 = some (.ref c2)) (g3 : Gl X x3) (m3 : X.mg x3 = some (.ref c3))
    (bd : ∀ (W : WX) (pn : List (Addr × Obj)) (xe : Value → Shared → Prop), Takes (X.tr pn xe) W → PassesOwn (model X.prog X.w) X.A X.env xe → PSs (X.tr pn xe) body (tb W))
    (su : ∀ (a : Addr) (oe : Obj) (cls : Value) (d : Option Addr) (pn : List (Addr × Obj)), Zc cls d oe → (∃ vs, oe.data = .fields vs) → PSs (X.suite a ((a, oe) :: pn)) (b₀ :: suite) (ts a oe cls d))
    (d1 : (x1 == ("__debug__" : Str)) = false := by decide) (d2 : (x2 == ("__debug__" : Str)) = false := by decide) (d3 : (x3 == ("__debug__" : Str)) = false := by decide) :
    PS X (.Try body [.ExceptHandler (some (.Tuple [.Name x1 p1, .Name x2 p2, .Name x3 p3] kT pT)) (some n) (b₀ :: suite) pos'] [] [] pos) (fun D σ H => tb (wTry3 X.K c1 c2 c3 i ts D) D σ H) := by
  refine ⟨fun pins s σ H D I hbody => wpAny_Try_except ?_⟩
  have ok := I.ok
  have af : X.A.frames = some (X.env :: X.outer) := ok.frames.trans (congrArg some stk)
  have catch_ : ∀ (u : Value) (s' : Shared), XE (X.tr (X.pn ++ pins) X.xe) (wTry3 X.K c1 c2 c3 i ts D) u s' → wpAny (model X.prog X.w) X.A (noteFrame u X.env) (fun _ t2 => wpAny (model X.prog X.w) X.A (setFlight u none) (fun _ t3 =>
      wpAny (model X.prog X.w) X.A (handleBy u X.env [.ExceptHandler (some (.Tuple [.Name x1 p1, .Name x2 p2, .Name x3 p3] kT pT)) (some n) (b₀ :: suite) pos']) (SP X pins D) X.xe t3) X.xe t2) X.xe s' := by
    rintro u s' ⟨a, B, sI, pins2, σ2, H2, cls, d, rfl, J0, nb, up, sky, na, os, ag, hx, q⟩
    have J : Inv X pins σ2 H2 sI := J0.ofTry (xe := X.xe) ok
    have sky2 : Sky B (X.env :: X.outer) a (Zc cls d) X.env.locals s'.heap := stk ▸ sky
    refine Sky.land Zc.steady af fr sky2 fun h3 fl3 up3 => ?_
    obtain ⟨oe, vs, ha, hz, hv⟩ := fly_there fl3
    have J3 : Inv X pins σ2 H2 { s' with heap := h3 } := J.landed nb fl3.1 (up.trans up3) os ag
    have off : ∀ {h : Heap} {o : Obj} {us : Array Value}, HandSPX.FlyingZ B (X.env :: X.outer) a (Zc cls d) h → h.get? a = some o → o.data = .fields us → a ≠ X.env.locals ∧ a ∉ X.fs := fun {h o us} f e dd => by
      have no : a ∉ frs (X.env :: X.outer) := fun hm => by
        obtain ⟨_, o2, e2, z⟩ := f.2.2.1.mem hm
        rw [e] at e2
        cases e2
        exact z _ dd
      refine ⟨fun z => no (List.mem_filterMap.mpr ⟨X.env, List.mem_cons_self, by rw [fr, z]⟩), fun hm => ?_⟩
      obtain ⟨e1, he, qq⟩ := List.mem_filterMap.mp hm
      exact no (List.mem_filterMap.mpr ⟨e1, List.mem_cons_of_mem _ he, qq⟩)
    have o3 := off fl3 ha hv
    have S3 := J3.suite ha hv na o3.1 o3.2
    refine wpAny_handleBy_cons (codeAny_handlers_test ?_) (fun z => by cases z)
    refine tup3_at S3 g1 m1 g2 m2 g3 m3 d1 d2 d3 fun s4 e4 fr4 S4 => ?_
    have e4h : s4.heap = h3.push { cls := .type "tuple", data := .seq [Value.ref c1, .ref c2, .ref c3].toArray } := by rw [e4]
    have e4g : s4.gens = s'.gens := by rw [e4]
    have e4o : s4.os = s'.os := by rw [e4]
    have kp : ∀ b o, h3.get? b = some o → s4.heap.get? b = some o := fun b o z => by
      rw [e4h]
      exact Heap.get?_push_of_some _ z
    have fl4 := fly_keep kp fl3
    have ha4 := kp _ _ ha
    have J4 : Inv X pins σ2 (upd H2 h3.objs.size (.tup [.ref c1, .ref c2, .ref c3])) s4 := S4.unsuite ok
    have look : PySem.W.Looks (model X.prog X.w) s4.heap (typeOf (.ref a)) cls := fun A Q E s k z => wpAny_typeOf_ref (k _ _ ha4) (by rw [hz.1]; exact z)
    have tp : s4.heap.get? h3.objs.size = some { cls := .type "tuple", data := .seq [Value.ref c1, .ref c2, .ref c3].toArray } := by
      rw [e4h]
      exact Heap.get?_push_size _ rfl
    refine (PySem.W.exm_tup3 (M := model X.prog X.w) J4.kIn look tp hx).here ?_
    refine codeAny_handlers_suite_as ?_
    refine HandSPX.lands_againZ fl4 fun h5 fl5 up5 => ?_
    obtain ⟨oe5, vs5, ha5, hz5, hv5⟩ := fly_there fl5
    have o5 := off fl5 ha5 hv5
    have nat : a ≠ h3.objs.size := Nat.ne_of_lt (Heap.lt_size ha)
    have na4 : upd H2 h3.objs.size (.tup [.ref c1, .ref c2, .ref c3]) a = none := by
      rw [upd_ne nat]
      exact na
    have J5 : Inv X pins σ2 (upd H2 h3.objs.size (.tup [.ref c1, .ref c2, .ref c3])) { s4 with heap := h5 } := by
      have J' : Inv X pins σ2 H2 { s4 with heap := h5 } := J.landed nb fl5.1 (((up.trans up3).trans fun b o z _ => ⟨o.slots, kp b o z⟩).trans up5) (e4o.trans os) (e4g ▸ ag)
      have sz3 : ∀ {b o}, h3.get? b = some o → b ≠ h3.objs.size := fun z => Nat.ne_of_lt (Heap.lt_size z)
      refine inv_track J' fr4 J3.sz (Nat.ne_of_gt J3.lt) (fun x c z => ?_) (fun p hp => sz3 (J3.pin p hp).1) ?_
      · obtain ⟨v, o, z2, _⟩ := J3.cell x c z
        exact sz3 z2
      · obtain ⟨sl, z⟩ := up5 _ _ tp (by intro vs y; cases y)
        exact ⟨(by show 3 ≤ sizeLine; decide), [.ref c1, .ref c2, .ref c3], .cons rfl (.cons rfl (.cons rfl .nil)), ⟨_, z, rfl, _, rfl⟩⟩
    have S5 := J5.suite ha5 hv5 na4 o5.1 o5.2
    have cl : Loc X.env.scope n := .inl hn
    refine store_ok (X := X.suite a ((a, oe5) :: (X.pn ++ pins))) (v := .ref a) S5 nd hi cl rfl (fun s6 S6 => ?_) (.inr hn)
    have fin : ∀ {σ6 : L2.St} {H6 : Hp} {R : Shared → Prop} {s7 : Shared}, Inv (X.suite a ((a, oe5) :: (X.pn ++ pins))) [] σ6 H6 s7 → (∀ s8, Inv X pins (σ6.set i none) H6 s8 → R s8) →
        wpAny (model X.prog X.w) X.A (do bindName X.env n .none; unbindBehindTheSuite X.env n pos') (fun _ s8 => R s8) X.xe s7 := fun S7 hR => gone_ok (S7.unsuite ok) nd hi hn hR
    refine wpAny_mono ((su a oe5 cls d (X.pn ++ pins) hz5 ⟨_, hv5⟩).run [] s6 _ _ _ S6 (q a oe5 h3.objs.size hz5 ⟨_, hv5⟩ na fr4 nat.symm)) (fun f s7 z => ?_) (fun _ _ z => z.elim)
    cases f with
    | next => exact fin z.choose_spec.choose_spec.1 fun s8 J8 => ⟨_, _, J8, z.choose_spec.choose_spec.2⟩
    | brk => exact fin z.choose_spec.choose_spec.1 fun s8 J8 => ⟨_, _, J8, z.choose_spec.choose_spec.2⟩
    | cont => exact fin z.choose_spec.choose_spec.1 fun s8 J8 => ⟨_, _, J8, z.choose_spec.choose_spec.2⟩
    | ret u =>
      obtain ⟨v7, σ7, H7, S7, r7, q7⟩ := z
      exact fin S7 fun s8 J8 => ⟨_, _, _, J8, r7, q7⟩
  refine wpAny_mono ((bd (wTry3 X.K c1 c2 c3 i ts D) (X.pn ++ pins) _ (fun u s' xx => catch_ u s' ?_) PassesOwn.looking).run [] s σ H D (I.toTry _) hbody) (fun f s1 z => ?_) (fun e s1 z => z)
  · obtain ⟨a, B, sI, pins2, σ2, H2, cls, d, e1, J0, r⟩ := xx
    exact ⟨a, B, sI, [], σ2, H2, cls, d, e1, (J0.ofTry ok).toTry _, r⟩
  · cases f with
    | next =>
      obtain ⟨σ2, H2, J, q⟩ := z
      exact wpAny_execs_nil ⟨σ2, H2, J.ofTry ok, q⟩
    | brk =>
      obtain ⟨σ2, H2, J, q⟩ := z
      exact ⟨σ2, H2, J.ofTry ok, q⟩
    | cont =>
      obtain ⟨σ2, H2, J, q⟩ := z
      exact ⟨σ2, H2, J.ofTry ok, q⟩
    | ret u =>
      obtain ⟨v, σ2, H2, J, r, q⟩ := z
      exact ⟨v, σ2, H2, J.ofTry ok, r, q⟩
end
end Ag

namespace Ag
open PySem PySem.Spec PyProof.Rows L2
/-! ### lambdas as values: without parameters, or with one that has a written default -/
/-- all but lists and tables of code objects stays -/
def Fx (H H' : Hp) : Prop := ∀ c o, H c = some o → (∀ xs, o ≠ .lst xs) → (∀ ps, o ≠ .tbl ps) → H' c = some o
theorem Fx.refl (H : Hp) : Fx H H := fun _ _ e _ _ => e
theorem Fx.trans {H H1 H2 : Hp} (a : Fx H H1) (b : Fx H1 H2) : Fx H H2 := fun c o e n1 n2 => b c o (a c o e n1 n2) n1 n2
theorem Fx.of {H H' : Hp} (s : Same H H') : Fx H H' := fun c o e _ _ => s c o e
theorem Fx.kpL {b : Addr} {xs : List V} {H H' : Hp} (k : Kp b H H') (h : H b = some (.lst xs)) : Fx H H' := fun c o e n1 _ => k c o e fun z => by
  subst z
  rw [h] at e
  exact n1 xs (Option.some.inj e).symm
theorem Fx.kpT {b : Addr} {ps : Array Value} {H H' : Hp} (k : Kp b H H') (h : H b = some (.tbl ps)) : Fx H H' := fun c o e _ n2 => k c o e fun z => by
  subst z
  rw [h] at e
  exact n2 ps (Option.some.inj e).symm
theorem pin_lst {a : Addr} {o : Obj} {xs : List V} : pinO a o ≠ .lst xs := fun z => by
  unfold pinO at z
  cases z
theorem code_lst {c : Addr} {q : Str} {xs : List V} : LamX.CodeO c q ≠ .lst xs := fun z => by
  unfold LamX.CodeO at z
  cases z
structure LamAt (H : Hp) (f : Addr) (q : Str) (params : Arguments) (body : Expr) (scope : Scope) (cl : List (Str × Addr)) (dvs : List V) : Prop where
  ex : ∃ (dV doc pm ctv : Value) (c' : Addr), H f = some (pinO f (PySem.W.kdv_obj "<lambda>" q params (.expr body) scope cl dV doc pm c' ctv)) ∧ H c' = some (LamX.CodeO c' q) ∧ ((dvs = [] ∧ dV = .none) ∨ ∃ t, dvs ≠ [] ∧ dV = .ref t ∧ H t = some (.tup dvs))
theorem LamAt.fx {H H' : Hp} {f : Addr} {q : Str} {params : Arguments} {body : Expr} {scope : Scope} {cl : List (Str × Addr)} {dvs : List V} (L : LamAt H f q params body scope cl dvs) (k : Fx H H') : LamAt H' f q params body scope cl dvs := by
  obtain ⟨dV, doc, pm, ctv, c', h1, h2, h3⟩ := L.ex
  refine ⟨dV, doc, pm, ctv, c', k _ _ h1 (fun _ => pin_lst) (fun _ => pin_tbl), k _ _ h2 (fun _ => code_lst) LamX.codeO_ne, h3.imp id ?_⟩
  rintro ⟨t, e0, e, ht⟩
  exact ⟨t, e0, e, k _ _ ht (fun _ z => by cases z) (fun _ z => by cases z)⟩
theorem tabS_fx {H H' : Hp} {P : Addr} {q : Str} {ps : Array Value} (t : LamX.TabS H P q) (k : Fx H H') (e : ∀ ps, H P = some (.tbl ps) → H' P = some (.tbl ps)) : LamX.TabS H' P q := by
  obtain ⟨ps, h1, h2, h3⟩ := t
  refine ⟨ps, e _ h1, h2, fun pos cv hc => ?_⟩
  obtain ⟨c, e1, e2⟩ := h3 pos cv hc
  exact ⟨c, e1, k _ _ e2 (fun _ => code_lst) LamX.codeO_ne⟩
theorem tabS_kp {H H' : Hp} {b P : Addr} {q : Str} {xs : List V} (t : LamX.TabS H P q) (k : Kp b H H') (h : H b = some (.lst xs)) : LamX.TabS H' P q :=
  tabS_fx (ps := #[]) t (.kpL k h) fun ps e => k _ _ e fun z => by
    subst z
    rw [h] at e
    cases e
section
variable {X : Cx} {pins : List (Addr × Obj)} {σ : L2.St} {H : Hp} {s : Shared} {c P : Addr} {params : Arguments} {body : Expr} {scope : Scope} {pos : Pos} {line : Nat} {dvs : List V} {dV : Value} {Q : Value → Shared → Prop} {E : Value → Shared → Prop} {M : Model} {A : Around}
theorem lam_put (I : Inv X pins σ H s) (TB : LamX.TabB X.base X.mg c P) (hcode : X.env.code = .ref c) (T : LamX.TabS H P (X.env.qual ++ "<lambda>")) (hfree : ∀ y ∈ scope.names, y.2 = .free → ∃ c, X.env.cells.lookup y.1 = some c)
    (hd : (dvs = [] ∧ dV = .none) ∨ ∃ t, dvs ≠ [] ∧ dV = .ref t ∧ H t = some (.tup dvs))
    (h : ∀ (f : Addr) (H1 : Hp) (s' : Shared), Inv X pins σ H1 s' → Kp P H H1 → LamX.TabS H1 P (X.env.qual ++ "<lambda>") → H f = none → LamAt H1 f (X.env.qual ++ "<lambda>") params body scope (cloFrom X.env.cells scope.names []) dvs → Q (.ref f) s') :
    wpAny M A (makeTail "<lambda>" (X.env.qual ++ "<lambda>") params (.expr body) scope X.env dV .none none pos line) Q E s := by
  obtain ⟨ps, hP, tr, am⟩ := T
  have bP : s.heap.BuiltinsAt X.mg P := TB.bm.keeps I.bk
  have oP : s.heap.get? P = some { cls := .none, data := .fields ps } := I.hok P _ hP
  have old : ∀ {f : Addr}, s.heap.objs.size ≤ f → X.s_0.heap.objs.size ≤ f ∧ f ≠ X.env.locals ∧ (∀ x c, X.env.cells.lookup x = some c → c ≠ f) ∧ (∀ p ∈ X.pn ++ pins, p.1 ≠ f) ∧ H f = none := fun {f} hf => by
    have lt : ∀ {b o}, s.heap.get? b = some o → b ≠ f := fun z => Nat.ne_of_lt (Nat.lt_of_lt_of_le (Heap.lt_size z) hf)
    refine ⟨Nat.le_trans I.sz hf, Nat.ne_of_gt (Nat.lt_of_lt_of_le I.lt hf), fun x c z => ?_, fun p hp => lt (I.pin p hp).1, I.hok.fresh hf⟩
    obtain ⟨v, o, z2, _⟩ := I.cell x c z
    exact lt z2
  have nfP : ∀ {f : Addr}, s.heap.objs.size ≤ f → f ≠ P := fun hf z => by
    have := (old hf).2.2.2.2
    rw [z, hP] at this
    cases this
  cases hc : codeAmong pos ps.toList with
  | none =>
    refine PySem.W.kdv_makeTail (mg := X.mg) (c := c) (P := P) (ps := ps) (closure_ok hfree) I.ok.glob (I.mod.glob.keeps I.bk) hcode (TB.code.keeps I.bk) oP tr hc TB.gP bP fun c' ctv doc h' tk hx hge hlt hrec htb => ?_
    obtain ⟨c2, oc, vs, t, e2, hoc, hdd, hv⟩ := hrec
    cases e2
    have sz : s.heap.objs.size ≤ h'.objs.size := Nat.le_trans hge (Nat.le_of_lt hlt)
    have fr := I.hok.fresh hge
    have I1 := LamX.inv_table (t' := tk) (q := X.env.qual ++ "<lambda>") (more := #[rawInt pos.line, rawInt pos.col, .ref c']) (h' := h'.push (PySem.W.kdv_obj "<lambda>" (X.env.qual ++ "<lambda>") params (.expr body) scope (cloFrom X.env.cells scope.names []) dV doc ((X.mg "__name__").getD .none) c' ctv)) I hP
      (fun b o hb e => Heap.get?_push_of_some _ (hx b o hb e)) (Heap.get?_push_of_some _ htb) hge ⟨oc, vs, t, Heap.get?_push_of_some _ hoc, hdd, hv⟩
    obtain ⟨o1, o2, o3, o4, o5⟩ := old sz
    have n1 : h'.objs.size ≠ c' := Nat.ne_of_gt hlt
    have n2 := nfP sz
    have nn : upd (upd H P (.tbl (ps ++ #[rawInt pos.line, rawInt pos.col, .ref c']))) c' (LamX.CodeO c' (X.env.qual ++ "<lambda>")) h'.objs.size = none := by
      rw [upd_ne n1, upd_ne n2]
      exact o5
    have I2 := inv_track I1 nn o1 o2 o3 o4 (pin_ok (Heap.get?_push_size _ rfl))
    have hE : Kp P H (upd (upd (upd H P (.tbl (ps ++ #[rawInt pos.line, rawInt pos.col, .ref c']))) c' (LamX.CodeO c' (X.env.qual ++ "<lambda>"))) h'.objs.size (pinO h'.objs.size (PySem.W.kdv_obj "<lambda>" (X.env.qual ++ "<lambda>") params (.expr body) scope (cloFrom X.env.cells scope.names []) dV doc ((X.mg "__name__").getD .none) c' ctv))) := fun b o e n => by
      rw [upd_ne (ne_of_none e o5), upd_ne (ne_of_none e fr), upd_ne n]
      exact e
    have hcO : upd (upd (upd H P (.tbl (ps ++ #[rawInt pos.line, rawInt pos.col, .ref c']))) c' (LamX.CodeO c' (X.env.qual ++ "<lambda>"))) h'.objs.size (pinO h'.objs.size (PySem.W.kdv_obj "<lambda>" (X.env.qual ++ "<lambda>") params (.expr body) scope (cloFrom X.env.cells scope.names []) dV doc ((X.mg "__name__").getD .none) c' ctv)) c' = some (LamX.CodeO c' (X.env.qual ++ "<lambda>")) := by
      rw [upd_ne n1.symm, upd_same]
    have eL : (ps ++ #[rawInt pos.line, rawInt pos.col, .ref c']).toList = ps.toList ++ [rawInt pos.line, rawInt pos.col, .ref c'] := by simp
    refine h _ _ _ I2 hE ⟨_, by rw [upd_ne n2.symm, upd_ne (ne_of_none hP fr), upd_same], by rw [eL]; exact PySem.TriplesOk_snoc _ _ _ _ tr, fun p' cv hcv => ?_⟩ o5 ⟨dV, doc, _, ctv, c', upd_same, hcO, hd.imp id ?_⟩
    · rw [eL] at hcv
      rcases LamX.among_app _ tr hcv with z | z
      · obtain ⟨c0, e1, e2⟩ := am p' cv z
        refine ⟨c0, e1, hE _ _ e2 fun y => ?_⟩
        rw [y, hP] at e2
        exact LamX.codeO_ne _ (Option.some.inj e2).symm
      · exact ⟨c', z, hcO⟩
    · rintro ⟨t, e0, e, ht⟩
      refine ⟨t, e0, e, hE _ _ ht fun y => ?_⟩
      rw [y, hP] at ht
      cases ht
  | some cv =>
    obtain ⟨c', e, hco⟩ := am pos cv hc
    subst e
    refine PySem.W.kdv_makeTailHit (mg := X.mg) (c := c) (P := P) (ps := ps) (closure_ok hfree) I.ok.glob (I.mod.glob.keeps I.bk) hcode (TB.code.keeps I.bk) oP tr hc bP fun ctv doc h' tk hx sz => ?_
    have I1 : Inv X pins σ H { s with heap := h'.push (PySem.W.kdv_obj "<lambda>" (X.env.qual ++ "<lambda>") params (.expr body) scope (cloFrom X.env.cells scope.names []) dV doc ((X.mg "__name__").getD .none) c' ctv), toks := tk } := I.kept fun b o e => Heap.get?_push_of_some _ (hx b o e)
    obtain ⟨o1, o2, o3, o4, o5⟩ := old sz
    have I2 := inv_track I1 o5 o1 o2 o3 o4 (pin_ok (Heap.get?_push_size _ rfl))
    have sm := same_new o5 (pinO h'.objs.size (PySem.W.kdv_obj "<lambda>" (X.env.qual ++ "<lambda>") params (.expr body) scope (cloFrom X.env.cells scope.names []) dV doc ((X.mg "__name__").getD .none) c' ctv))
    refine h _ _ _ I2 (.of sm) (LamX.TabS.ext ⟨ps, hP, tr, am⟩ sm) o5 ⟨dV, doc, _, ctv, c', upd_same, sm _ _ hco, hd.imp id ?_⟩
    rintro ⟨t, e0, e, ht⟩
    exact ⟨t, e0, e, sm _ _ ht⟩
end
/-- a lambda's expression -/
def tLam (X : Cx) (P : Addr) (params : Arguments) (body : Expr) (scope : Scope) (dvs : List V) : TE := fun σ H Q => LamX.TabS H P (X.env.qual ++ "<lambda>") ∧ ∀ (f : Addr) (H1 : Hp), Kp P H H1 → LamX.TabS H1 P (X.env.qual ++ "<lambda>") → H f = none →
  LamAt H1 f (X.env.qual ++ "<lambda>") params body scope (cloFrom X.env.cells scope.names []) dvs → Q (.ref f) H1
section
variable {X : Cx} {c P : Addr} {params : Arguments} {body : Expr} {scope : Scope} {pos : Pos}
theorem pe_lam0 (TB : LamX.TabB X.base X.mg c P) (hcode : X.env.code = .ref c) (hfree : X.Ok → ∀ y ∈ scope.names, y.2 = .free → ∃ c, X.env.cells.lookup y.1 = some c) (hdef : defaultsOf params X.env = ([], []) := by rfl) :
    PE X (.Lambda params body scope pos) (tLam X P params body scope []) := by
  refine ⟨fun pins s σ H Q I h => PySem.W.kla_eval hdef ?_⟩
  rw [makeFunction_eq]
  simp only [List.zip_nil_right, List.filterMap_nil, List.isEmpty_nil, if_true, pure_bind]
  exact lam_put I TB hcode h.1 (hfree I.ok) (.inl ⟨rfl, rfl⟩) fun f H1 s' J k T n L => ⟨.ref f, H1, J, rfl, h.2 f H1 k T n L⟩
theorem pe_lam1 {kk : Nat} {pp : Pos} {z : Int} (TB : LamX.TabB X.base X.mg c P) (hcode : X.env.code = .ref c) (hfree : X.Ok → ∀ y ∈ scope.names, y.2 = .free → ∃ c, X.env.cells.lookup y.1 = some c)
    (hdef : defaultsOf params X.env = ([eval (.Constant (.int z) kk pp) X.env], []) := by rfl) : PE X (.Lambda params body scope pos) (tLam X P params body scope [.int z]) := by
  refine ⟨fun pins s σ H Q I h => ?_⟩
  rw [arm_eval_Lambda, hdef]
  show wpAny _ _ (do let dv ← evalAll [eval (.Constant (.int z) kk pp) X.env]; let kdv ← holding dv (evalAllOpt []); makeFunction "<lambda>" (X.env.qual ++ "<lambda>") params (.expr body) scope X.env dv kdv [] pos pos.line) _ _ s
  refine wpAny_bind (evalAll_cons ?_)
  refine thn ((pe_int (X := X) (i := z)).run pins s σ H (fun v H1 => v = .int z ∧ H1 = H) I ⟨rfl, rfl⟩) fun u s1 ⟨v, H1, I1, rv, ev, eH⟩ => ?_
  subst ev
  subst eH
  refine evalAll_nil (wpAny_bind (wpAny_holding (wpAny_pure ?_)))
  rw [makeFunction_eq]
  simp only [List.zip_nil_right, List.filterMap_nil, List.isEmpty_nil, if_true, pure_bind, List.isEmpty_cons, Bool.false_eq_true, if_false]
  refine wpAny_bind (wpAny_newTextTuple ?_)
  have fr : H1 s1.heap.objs.size = none := I1.hok.fresh (Nat.le_refl _)
  have I2 : Inv X pins σ (upd H1 s1.heap.objs.size (.tup [.int z])) { s1 with heap := s1.heap.push { cls := .type "tuple", data := .seq [u].toArray } } :=
    I1.laid (t' := s1.toks) (fun b w e => Heap.get?_push_of_some _ e) (Nat.le_refl _) ⟨(by show 1 ≤ sizeLine; decide), [u], .cons rv .nil, ⟨_, Heap.get?_push_size _ rfl, rfl, _, rfl⟩⟩
  have sm := same_new fr (.tup [.int z])
  refine lam_put I2 TB hcode (h.1.ext sm) (hfree I.ok) (.inr ⟨_, (fun z => by cases z), rfl, upd_same⟩) fun f H2 s' J k T n L => ⟨.ref f, H2, J, rfl, h.2 f H2 (fun b o e ne => k b o (sm _ _ e) ne) T ?_ L⟩
  cases q : H1 f with
  | none => rfl
  | some o =>
    rw [sm _ _ q] at n
    cases n
end
/-! ### what a value promises that is called without arguments -/
structure Asks (P : Program) (w : World) (K : PySem.W.Frag) (mg : Str → Option Value) (base : Heap) (k : Nat) (f : Addr) (H : Hp) (Q : VK) (E : XK) : Prop where
  fn : ∀ h, HOk P w H h → PySem.W.FnAt f h
  run : ∀ (A : Around) (outer : List Env) (s : Shared), Room k A → Env0 P w K mg base A outer s H → codeAny (model P w) A (.call (.ref f) ⟨[], []⟩) (CR (L2.CX P w) outer P w H s Q E) s
/-- x(): slot i holds such a value; what it raises is wished for -/
theorem pe_ask {X : Cx} {W : WX} {k i : Nat} {x : Str} {p1 p2 : Pos} (room : Room k X.A) (tk : Takes X W) (hN : X.N[i]? = some x) (hv : Vis X.env.scope x) (hd : (x == ("__debug__" : Str)) = false := by decide) (hcd : (x == ("__classdict__" : Str)) = false := by decide) :
    PE X (.Call (.Name x p1) [] [] p2) (fun σ H Q => ∃ f E, σ[i]? = some (some (.ref f)) ∧ Asks X.prog X.w X.K X.mg X.base k f H Q E ∧ ∀ cls d H', E cls d H' → W cls d σ H') := by
  refine ⟨?_⟩
  rintro pins s σ H Q I ⟨f, E, hs, B, hW⟩
  refine wpAny_Call_Name_kw (thn ((pe_var (pos := p1) (i := i) hN hv hd hcd).run pins s σ H (fun v H1 => v = .ref f ∧ H1 = H) I ⟨.ref f, hs, rfl, rfl⟩) fun u s1 ⟨v, H1, I1, r1, ev, eH⟩ => ?_)
  subst ev
  subst eH
  obtain rfl : u = Value.ref f := r1
  refine PySem.W.callWith_F0 (B.fn _ I1.hok) (wpAny_call (codeAny_mono (B.run X.A X.stack s1 room I1.env0) fun r s2 z => ?_))
  match r, z with
  | .ok (.ret u), z => exact I1.after z
  | .error e, z => exact tk _ _ (XE.of_call I1 (fun cls d H' q => hW cls d H' q) z)
/-! ### a lambda's body -/
/-- the context in which it runs: q its qualified name, cl its cells -/
def lamC (P : Program) (w : World) (K : PySem.W.Frag) (mg : Str → Option Value) (base : Heap) (N : List Str) (q : Str) (scope : Scope) (cl : List (Str × Addr)) (f c' : Addr) (A : Around) (outer : List Env) (s : Shared) (H : Hp) (E : XK) : Cx where
  prog := P
  w := w
  K := K
  mg := mg
  base := base
  A := A.deeper (PySem.W.envX q scope s.heap.objs.size f (.ref c') cl)
  N := N
  s_0 := s
  H_0 := H
  env := PySem.W.envX q scope s.heap.objs.size f (.ref c') cl
  outer := outer
  stack := PySem.W.envX q scope s.heap.objs.size f (.ref c') cl :: outer
  ex := []
  fn := fun _ => false
  calm := true
  pn := []
  xe := fun e s' => wpAny (model P w) (A.deeper (PySem.W.envX q scope s.heap.objs.size f (.ref c') cl)) (leaving (PySem.W.envX q scope s.heap.objs.size f (.ref c') cl) e) (fun _ s'' => L2.CX P w outer H s E e s'') (fun e' s'' => L2.CX P w outer H s E e' s'') s'
/-- its names: captured ones, globals, and as its own the parameters ps (which have defaults) -/
structure LamSc (scope : Scope) (ps : List Str) : Prop where
  kind : scope.kind = .function
  co : scope.isCoroutine = false
  gen : scope.isGenerator = false
  own : ∀ y ∈ scope.names, y.2 ≠ .cell ∧ (y.2 = .local → y.1 ∈ ps)
  par : ∀ x ∈ ps, scope.names.lookup x = some .local
/-- the cells stand, each with the value that a name of the slots has -/
structure CellsIn (N : List Str) (σ : L2.St) (scope : Scope) (cl : List (Str × Addr)) (l : Pins) : Prop where
  inj : ∀ x y c, cl.lookup x = some c → cl.lookup y = some c → x = y
  has : ∀ y ∈ scope.names, y.2 = .free → ∃ c, cl.lookup y.1 = some c
  at_ : ∀ x c, cl.lookup x = some c → ∃ o v, l.lookup c = some o ∧ o.data = .cell v
  val : ∀ (i : Nat) (x : Str) (v : V), N[i]? = some x → σ[i]? = some (some v) → scope.names.lookup x = some .free → ∃ c o u, cl.lookup x = some c ∧ l.lookup c = some o ∧ o.data = .cell (some u) ∧ RelV v u
section
variable {P : Program} {w : World} {K : PySem.W.Frag} {mg : Str → Option Value} {base : Heap}
theorem lamC_start {N ps : List Str} {q : Str} {scope : Scope} {cl : List (Str × Addr)} {f c' : Addr} {A : Around} {outer : List Env} {s : Shared} {H : Hp} {E : XK} {h₁ : Heap} {tk : Nat} {l : Pins} {σ : L2.St} {m : Str → Option Value} (L : LamSc scope ps) (e0 : Env0 P w K mg base A outer s H) (hd : A.handled = none)
    (C : CellsIn N σ scope cl l) (nl : ∀ x ∈ N, scope.names.lookup x ≠ some .local) (hl : ∀ b o, l.lookup b = some o → H b = some (pinO b o)) (hns : h₁.Ns s.heap.objs.size m) (kp : ∀ b o, s.heap.get? b = some o → h₁.get? b = some o) (len : σ.length = N.length) :
    Inv (lamC P w K mg base N q scope cl f c' A outer s (remp H l) E) [] σ (remp H l) { s with heap := h₁, toks := tk } := by
  have e1 := env0_rem e0 hl
  have none_ : ∀ b : Addr, b ∉ (lamC P w K mg base N q scope cl f c' A outer s (remp H l) E).ex := fun b z => absurd (show b ∈ ([] : List Addr) from z) (by simp)
  have cellAt : ∀ {x c}, cl.lookup x = some c → ∃ o v, l.lookup c = some o ∧ o.data = .cell v ∧ h₁.get? c = some o := fun {x c} z => by
    obtain ⟨o, v, z1, z2⟩ := C.at_ x c z
    exact ⟨o, v, z1, z2, kp _ _ (pin_at e0.hok (hl c o z1))⟩
  have okX : (lamC P w K mg base N q scope cl f c' A outer s (remp H l) E).Ok := by
    refine ⟨e1.mod, L.kind, rfl, rfl, Nat.le_refl _, C.inj, fun x hx => ?_, fun x c z => (by cases (show false = true from z)), fun _ => hd, Around.frames_deeper e1.frames, .inr ⟨rfl, rfl⟩, fun b z => absurd z (none_ b), e1.bs, e1.bsz, fun b _ _ => none_ b, fun b z => absurd z (none_ b), e1.funs, e1.frf⟩
    have hx2 : scope.names.lookup x = some .cell ∨ scope.names.lookup x = some .free := hx
    rcases hx2 with z | z
    · exact absurd rfl (L.own _ (PySem.mem_of_lookup z)).1
    · exact C.has _ (PySem.mem_of_lookup z) rfl
  refine ⟨okX, rfl, e1.bare, Un.kept kp, ⟨_, hns, fun i x v z1 z2 z3 => ?_⟩, fun x c z => ?_, e1.hok.fresh (Nat.le_refl _), fun x c z => ?_, fun p hp => absurd (show p ∈ ([] : List (Addr × Obj)) from hp) (by simp), e1.hok.kept kp, len⟩
  · have z3' : scope.names.lookup x = some .local ∨ scope.names.lookup x = some .cell ∨ scope.names.lookup x = some .free := z3
    rcases z3' with z | z | z
    · exact absurd z (nl x (List.mem_of_getElem? z1))
    · exact absurd rfl (L.own _ (PySem.mem_of_lookup z)).1
    · obtain ⟨c, o, u, y1, y2, y3, y4⟩ := C.val i x v z1 z2 z
      exact ⟨u, y4, .inr ⟨.inr z, c, y1, o, kp _ _ (pin_at e0.hok (hl c o y2)), y3⟩⟩
  · obtain ⟨o, v, y1, y2, y3⟩ := cellAt z
    exact ⟨v, o, y3, y2⟩
  · obtain ⟨o, v, y1, _⟩ := C.at_ x c z
    exact remp_in y1
/-- how the lambda's parameters are bound where nothing is handed in -/
def LamBind (q : Str) (params : Arguments) (body : Expr) (scope : Scope) (cl : List (Str × Addr)) (dvs : List V) (ps : List Str) : Prop :=
  (dvs = [] ∧ ps = [] ∧ ∀ doc pm cv ctv : Value, bindArgs (PySem.W.kdv_fn "<lambda>" q params (.expr body) scope cl .none doc pm cv ctv) ⟨[], []⟩ = pure []) ∨
  ∃ (z : V) (x : Str), dvs = [z] ∧ ps = [x] ∧ ∀ (t : Addr) (doc pm cv ctv : Value), ∃ kk : Option (Array Value) → Sem (List (Str × Value)), bindArgs (PySem.W.kdv_fn "<lambda>" q params (.expr body) scope cl (.ref t) doc pm cv ctv) ⟨[], []⟩ = seqItems? (.ref t) >>= kk ∧ ∀ u, kk (some #[u]) = pure [(x, u)]
theorem lam_binds {q : Str} {params : Arguments} {body : Expr} {scope : Scope} {cl : List (Str × Addr)} {dvs : List V} {ps : List Str} {H : Hp} {dV doc pm cv ctv : Value} {s : Shared} (B : LamBind q params body scope cl dvs ps) (ok : HOk P w H s.heap) (hd : (dvs = [] ∧ dV = .none) ∨ ∃ t, dvs ≠ [] ∧ dV = .ref t ∧ H t = some (.tup dvs)) :
    ∃ us : List Value, us.length = ps.length ∧ BindsTo s (PySem.W.kdv_fn "<lambda>" q params (.expr body) scope cl dV doc pm cv ctv) ⟨[], []⟩ (ps.zip us) := by
  rcases B with ⟨rfl, rfl, hb⟩ | ⟨z, x, rfl, rfl, hb⟩
  · rcases hd with ⟨_, rfl⟩ | ⟨t, e0, _, ht⟩
    · exact ⟨[], rfl, .of_eq (hb _ _ _ _)⟩
    · exact absurd rfl e0
  · rcases hd with ⟨e, _⟩ | ⟨t, _, rfl, ht⟩
    · cases e
    · obtain ⟨_, its, rv, o, ho, hc, n, hdt⟩ : ObjOk P w H s.heap t (.tup [z]) := ok t _ ht
      cases rv with
      | @cons _ u _ _ r1 r2 =>
        cases r2
        obtain ⟨kk, e1, e2⟩ := hb t doc pm cv ctv
        refine ⟨[u], rfl, fun M A E Q hq => ?_⟩
        rw [e1]
        refine wpAny_bind (wpAny_seqItems ho hdt ?_)
        rw [show ([u].toArray : Array Value) = #[u] from rfl, e2]
        exact wpAny_pure hq
theorem ask_of {k : Nat} {q : Str} {params : Arguments} {body : Expr} {scope : Scope} {cl : List (Str × Addr)} {dvs : List V} {ps N : List Str} {f : Addr} {H : Hp} {l : Pins} {σ : L2.St} {Q : VK} {E : XK} (L : LamSc scope ps) (A0 : LamAt H f q params body scope cl dvs) (B : LamBind q params body scope cl dvs ps)
    (C : CellsIn N σ scope cl l) (nl : ∀ x ∈ N, scope.names.lookup x ≠ some .local) (hl : ∀ b o, l.lookup b = some o → H b = some (pinO b o)) (len : σ.length = N.length)
    (hbody : ∀ (A : Around) (outer : List Env) (s : Shared) (c' : Addr), Room k (A.deeper (PySem.W.envX q scope s.heap.objs.size f (.ref c') cl)) →
      ∃ t, PE (lamC P w K mg base N q scope cl f c' A outer s (remp H l) (fun cls d H2 => (∀ b o, l.lookup b = some o → H2 b = none) → E cls d (addp H2 l))) body t ∧ t σ (remp H l) (fun v H2 => (∀ b o, l.lookup b = some o → H2 b = none) → Q v (addp H2 l))) : Asks P w K mg base (k + 1) f H Q E := by
  obtain ⟨dV, doc, pm, ctv, c', hf, hco, hdv⟩ := A0.ex
  refine ⟨fun h ok => ⟨_, _, _, _, pin_at ok hf⟩, fun A outer s room e0 => ?_⟩
  obtain ⟨⟨oc, vs, tq, hoc, hdc, hvc⟩, _, _⟩ : ObjOk P w H s.heap c' (LamX.CodeO c' q) := e0.hok c' _ hco
  refine PySem.W.kla_callFunE (fd := PySem.W.kdv_fn "<lambda>" q params (.expr body) scope cl dV doc pm (.ref c') ctv) room.depth (pin_at e0.hok hf) rfl L.co L.gen rfl ⟨c', oc, vs, tq, rfl, hoc, hdc, hvc⟩ ?_
  obtain ⟨us, hus, hb⟩ := lam_binds (dV := dV) (doc := doc) (pm := pm) (cv := .ref c') (ctv := ctv) B e0.hok hdv
  refine hb _ _ _ _ ?_
  have nolim : s.heap.NoLimit := e0.mod.nolimit.keeps fun b o z => (e0.bs b o z).1
  refine wpAny_newFunctionEnv (fun y hy => (L.own y hy).1) (fun y hy => L.par _ (List.of_mem_zip (show (y.1, y.2) ∈ ps.zip us from hy)).1) (fun h₁ hns hsb => ⟨nolim.fresh _ hsb, ?_⟩) L.kind
  show codeAny _ _ (.expr body (PySem.W.envX q scope s.heap.objs.size f (.ref c') cl)) _ _
  have kp : ∀ b o, s.heap.get? b = some o → h₁.get? b = some o := fun b o z => hsb.extBut b o (Nat.ne_of_lt (Heap.lt_size z)) (Heap.get?_push_of_some _ z)
  have J : Inv (lamC P w K mg base N q scope cl f c' A outer s (remp H l) (fun cls d H2 => (∀ b o, l.lookup b = some o → H2 b = none) → E cls d (addp H2 l))) [] σ (remp H l) { s with heap := h₁, toks := s.toks + (ps.zip us).length } := lamC_start L e0 room.hd C nl hl hns kp len
  obtain ⟨t, ht, hq⟩ := hbody A outer s c' (room.deeper _)
  refine PySem.W.kla_codeExpr (wpAny_mono (ht.run [] _ _ _ _ J hq) (fun u s' z => ?_) fun e s' z => ?_)
  · obtain ⟨v, H2, J2, rv, q2⟩ := z
    exact ce_add e0 hl ⟨v, H2, J2.os, J2.bare, J2.base, J2.hok, rv, q2⟩
  · exact wpAny_mono z (fun _ s2 y => cx_add e0 hl y) (fun e2 s2 y => cx_add e0 hl y)
end
end Ag

namespace Ag
open PySem PySem.Spec PyProof.Rows L2
/-! ### formulas and shapes -/
inductive Fm where
  | fls
  | atom (w : List Nat)
  | hole (c : List Nat)
  | bin (k : Fin 3) (a b : Fm)
  deriving DecidableEq
/-- the joints: 0 then, 1 and, otherwise or -/
def kd (k : Fin 3) : Str := match k with
  | 0 => "then"
  | 1 => "and"
  | 2 => "or"
def Fm.dat : Fm → PyData
  | .fls => .tuple [.str "false"]
  | .atom w => .tuple [.str "atom", .str (SX.S w)]
  | .hole c => .tuple [.str "hole", .str (SX.S c)]
  | .bin k a b => .tuple [.str (kd k), a.dat, b.dat]
def Fr (K : PySem.W.Frag) (H : Hp) (v : V) (t : Fm) : Prop := Dp K H v t.dat
section
variable {K : PySem.W.Frag} {H H' : Hp} {v x y : V} {b l : Addr}
theorem dpall2 {xs : List V} {d e : PyData} (h : DpAll K H xs [d, e]) : ∃ x y, xs = [x, y] ∧ Dp K H x d ∧ Dp K H y e := by
  cases h with
  | cons h1 h => cases h with
    | cons h2 h =>
      cases h
      exact ⟨_, _, rfl, h1, h2⟩
theorem dpall3 {xs : List V} {d e g : PyData} (h : DpAll K H xs [d, e, g]) : ∃ x y z, xs = [x, y, z] ∧ Dp K H x d ∧ Dp K H y e ∧ Dp K H z g := by
  cases h with
  | cons h1 h => cases h with
    | cons h2 h => cases h with
      | cons h3 h =>
        cases h
        exact ⟨_, _, _, rfl, h1, h2, h3⟩
theorem fr_fls (h : Fr K H v .fls) : ∃ p, v = .ref p ∧ SqT K H p [.str "false"] := by
  cases h with
  | tup q r =>
    cases r with
    | cons h1 h =>
      cases h
      cases h1
      exact ⟨_, rfl, q⟩
theorem fr_atom {w : List Nat} (h : Fr K H v (.atom w)) : ∃ p, v = .ref p ∧ SqT K H p [.str "atom", .str (SX.S w)] := by
  cases h with
  | tup q r =>
    obtain ⟨x, y, rfl, h1, h2⟩ := dpall2 r
    cases h1
    cases h2
    exact ⟨_, rfl, q⟩
theorem fr_hole {w : List Nat} (h : Fr K H v (.hole w)) : ∃ p, v = .ref p ∧ SqT K H p [.str "hole", .str (SX.S w)] := by
  cases h with
  | tup q r =>
    obtain ⟨x, y, rfl, h1, h2⟩ := dpall2 r
    cases h1
    cases h2
    exact ⟨_, rfl, q⟩
theorem fr_bin {k : Fin 3} {s t : Fm} (h : Fr K H v (.bin k s t)) : ∃ p x y, v = .ref p ∧ SqT K H p [.str (kd k), x, y] ∧ Fr K H x s ∧ Fr K H y t := by
  cases h with
  | tup q r =>
    obtain ⟨x, y, z, rfl, h1, h2, h3⟩ := dpall3 r
    cases h1
    exact ⟨_, _, _, rfl, q, h2, h3⟩
theorem mk_fls {p : Addr} (h : SqT K H p [.str "false"]) : Fr K H (.ref p) .fls := .tup h (.cons (.str _) .nil)
theorem mk_atom {p : Addr} {w : List Nat} (h : SqT K H p [.str "atom", .str (SX.S w)]) : Fr K H (.ref p) (.atom w) := .tup h (.cons (.str _) (.cons (.str _) .nil))
theorem mk_hole {p : Addr} {w : List Nat} (h : SqT K H p [.str "hole", .str (SX.S w)]) : Fr K H (.ref p) (.hole w) := .tup h (.cons (.str _) (.cons (.str _) .nil))
theorem mk_bin {p : Addr} {k : Fin 3} {s t : Fm} (h : SqT K H p [.str (kd k), x, y]) (hs : Fr K H x s) (ht : Fr K H y t) : Fr K H (.ref p) (.bin k s t) := .tup h (.cons (.str _) (.cons hs (.cons ht .nil)))
theorem Fr.same (s : Same H H') {t : Fm} (h : Fr K H v t) : Fr K H' v t := Dp_same s h
theorem Fr.rd (s : RdLe H H') {t : Fm} (h : Fr K H v t) : Fr K H' v t := Dp_rd s h
theorem kp_tup (k : Kp b H H') (g : Bag H b l) {p : Addr} {xs : List V} (h : SqT K H p xs) : SqT K H' p xs := by
  obtain ⟨ns, at', big, seed, cnt, h1, _⟩ := g
  rcases h with (h | ⟨o, h⟩) | h
  · exact .inl (.inl (k _ _ h (ne_of h h1 (by intro z; cases z))))
  · exact .inl (.inr ⟨o, k _ _ h (ne_of h h1 (by intro z; cases z))⟩)
  · exact .inr h
theorem Fr.kp (k : Kp b H H') (g : Bag H b l) : ∀ {t : Fm} {v : V}, Fr K H v t → Fr K H' v t
  | .fls, _, h => by
    obtain ⟨p, rfl, q⟩ := fr_fls h
    exact mk_fls (kp_tup k g q)
  | .atom w, _, h => by
    obtain ⟨p, rfl, q⟩ := fr_atom h
    exact mk_atom (kp_tup k g q)
  | .hole w, _, h => by
    obtain ⟨p, rfl, q⟩ := fr_hole h
    exact mk_hole (kp_tup k g q)
  | .bin j s t, _, h => by
    obtain ⟨p, x, y, rfl, q, hs, ht⟩ := fr_bin h
    exact mk_bin (kp_tup k g q) (Fr.kp k g hs) (Fr.kp k g ht)
end
/-- less than n deep, atoms of ws, holes of hs -/
def okF (ws hs : List (List Nat)) : Nat → Fm → Prop
  | 0, _ => False
  | _ + 1, .fls => True
  | _ + 1, .atom w => w ∈ ws
  | _ + 1, .hole c => c ∈ hs
  | n + 1, .bin _ a b => okF ws hs n a ∧ okF ws hs n b
theorem okF.up {ws hs : List (List Nat)} : ∀ {n : Nat} {t : Fm}, okF ws hs n t → okF ws hs (n + 1) t
  | 0, _, h => h.elim
  | _ + 1, .fls, _ => trivial
  | _ + 1, .atom _, h => h
  | _ + 1, .hole _, h => h
  | _ + 1, .bin _ _ _, h => ⟨okF.up h.1, okF.up h.2⟩
theorem okF.le {ws hs : List (List Nat)} {t : Fm} {n m : Nat} (h : okF ws hs n t) (e : n ≤ m) : okF ws hs m t := by
  induction e with
  | refl => exact h
  | step _ ih => exact ih.up
theorem okF.holes {ws hs hs' : List (List Nat)} (hh : ∀ c ∈ hs, c ∈ hs') : ∀ {n : Nat} {t : Fm}, okF ws hs n t → okF ws hs' n t
  | 0, _, h => h.elim
  | _ + 1, .fls, _ => trivial
  | _ + 1, .atom _, h => h
  | _ + 1, .hole _, h => hh _ h
  | _ + 1, .bin _ _ _, h => ⟨okF.holes hh h.1, okF.holes hh h.2⟩
theorem atI_kd (k : Fin 3) : atI ([.str "then", .str "and", .str "or"] : List V) ((k.val : Nat) : Int) = some (.str (kd k)) := by
  match k with
  | 0 => rfl
  | 1 => rfl
  | 2 => rfl
theorem kd_inj {k j : Fin 3} : kd k = kd j → k = j := by
  revert k j
  decide +kernel
theorem kd_atom {k : Fin 3} : kd k ≠ "atom" := by
  revert k
  decide +kernel
theorem kd_hole {k : Fin 3} : kd k ≠ "hole" := by
  revert k
  decide +kernel
theorem kd_false {k : Fin 3} : kd k ≠ "false" := by
  revert k
  decide +kernel
/-! ### equality of data is equality of formulas -/
theorem beq_S (a b : List Nat) : (SX.S a == SX.S b) = decide (a = b) := SX.S_beq_eq
theorem eqvStr (a b : Str) : PyData.eqv (.str a) (.str b) = decide (a = b) := by
  show (a == b) = decide (a = b)
  rw [← SX.S_tl a, ← SX.S_tl b, beq_S]
  by_cases h : a.cps.toList = b.cps.toList
  · rw [decide_eq_true h, decide_eq_true (by rw [h])]
  · rw [decide_eq_false h, decide_eq_false (fun z => h (SX.S_inj z))]
theorem eqv1 (a b : PyData) : PyData.eqv (.tuple [a]) (.tuple [b]) = PyData.eqv a b := by
  show (PyData.eqv a b && true) = _
  rw [Bool.and_true]
theorem eqv2 (a b c d : PyData) : PyData.eqv (.tuple [a, c]) (.tuple [b, d]) = (PyData.eqv a b && PyData.eqv c d) := by
  show (PyData.eqv a b && (PyData.eqv c d && true)) = _
  rw [Bool.and_true]
theorem eqv3 (a b c d e f : PyData) : PyData.eqv (.tuple [a, c, e]) (.tuple [b, d, f]) = (PyData.eqv a b && (PyData.eqv c d && PyData.eqv e f)) := by
  show (PyData.eqv a b && (PyData.eqv c d && (PyData.eqv e f && true))) = _
  rw [Bool.and_true]
theorem eqv12 (a b c : PyData) : PyData.eqv (.tuple [a]) (.tuple [b, c]) = false := by
  show (PyData.eqv a b && false) = false
  rw [Bool.and_false]
theorem eqv21 (a b c : PyData) : PyData.eqv (.tuple [a, c]) (.tuple [b]) = false := by
  show (PyData.eqv a b && false) = false
  rw [Bool.and_false]
theorem eqv13 (a b c d : PyData) : PyData.eqv (.tuple [a]) (.tuple [b, c, d]) = false := by
  show (PyData.eqv a b && false) = false
  rw [Bool.and_false]
theorem eqv31 (a b c d : PyData) : PyData.eqv (.tuple [a, c, d]) (.tuple [b]) = false := by
  show (PyData.eqv a b && false) = false
  rw [Bool.and_false]
theorem eqv23 (a b c d e : PyData) : PyData.eqv (.tuple [a, b]) (.tuple [c, d, e]) = false := by
  show (PyData.eqv a c && (PyData.eqv b d && false)) = false
  rw [Bool.and_false, Bool.and_false]
theorem eqv32 (a b c d e : PyData) : PyData.eqv (.tuple [c, d, e]) (.tuple [a, b]) = false := by
  show (PyData.eqv c a && (PyData.eqv d b && false)) = false
  rw [Bool.and_false, Bool.and_false]
theorem decS (a b : List Nat) : decide (SX.S a = SX.S b) = decide (a = b) := by
  by_cases h : a = b
  · rw [decide_eq_true h, decide_eq_true (by rw [h])]
  · rw [decide_eq_false h, decide_eq_false (fun z => h (SX.S_inj z))]
theorem eqv_dat : ∀ s t : Fm, PyData.eqv s.dat t.dat = decide (s = t)
  | .fls, .fls => by simp only [Fm.dat, eqv1, eqvStr]
  | .fls, .atom _ => by simp only [Fm.dat, eqv12]; rfl
  | .fls, .hole _ => by simp only [Fm.dat, eqv12]; rfl
  | .fls, .bin _ _ _ => by simp only [Fm.dat, eqv13]; rfl
  | .atom _, .fls => by simp only [Fm.dat, eqv21]; rfl
  | .hole _, .fls => by simp only [Fm.dat, eqv21]; rfl
  | .bin _ _ _, .fls => by simp only [Fm.dat, eqv31]; rfl
  | .atom u, .atom v => by
    simp only [Fm.dat, eqv2, eqvStr, decS, Fm.atom.injEq, decide_true, Bool.true_and]
  | .hole u, .hole v => by
    simp only [Fm.dat, eqv2, eqvStr, decS, Fm.hole.injEq, decide_true, Bool.true_and]
  | .atom u, .hole v => by
    have e : decide (("atom" : Str) = "hole") = false := by decide +kernel
    simp only [Fm.dat, eqv2, eqvStr, e, Bool.false_and]
    rfl
  | .hole u, .atom v => by
    have e : decide (("hole" : Str) = "atom") = false := by decide +kernel
    simp only [Fm.dat, eqv2, eqvStr, e, Bool.false_and]
    rfl
  | .atom _, .bin _ _ _ => by simp only [Fm.dat, eqv23]; rfl
  | .hole _, .bin _ _ _ => by simp only [Fm.dat, eqv23]; rfl
  | .bin _ _ _, .atom _ => by simp only [Fm.dat, eqv32]; rfl
  | .bin _ _ _, .hole _ => by simp only [Fm.dat, eqv32]; rfl
  | .bin k a b, .bin j c d => by
    simp only [Fm.dat, eqv3, eqvStr, eqv_dat a c, eqv_dat b d, Fm.bin.injEq, Bool.decide_and]
    have e : decide (kd k = kd j) = decide (k = j) := by
      by_cases h : k = j
      · rw [decide_eq_true h, decide_eq_true (by rw [h])]
      · rw [decide_eq_false h, decide_eq_false (fun z => h (kd_inj z))]
    rw [e]
/-! ### the form of the data -/
theorem low_lay {w : List Nat} (h : Low w) : ((SX.S w).cps.all (· < 0x110000)) = true := by
  rw [← Array.all_toList, List.all_eq_true]
  intro c hc
  exact decide_eq_true (by have z := h c hc; omega)
theorem kd_lay (k : Fin 3) : ((kd k).cps.all (· < 0x110000)) = true := by
  revert k
  decide +kernel
theorem ok_lay {ws hs : List (List Nat)} (hw : ∀ w ∈ ws, Low w) (hh : ∀ c ∈ hs, Low c) : ∀ {n : Nat} {t : Fm}, okF ws hs n t → PyData.canLay0 t.dat = true ∧ PyData.depth t.dat ≤ n
  | 0, _, h => h.elim
  | n + 1, .fls, _ => ⟨by decide +kernel, by show max 0 0 + 1 ≤ n + 1; omega⟩
  | n + 1, .atom w, h => by
    refine ⟨?_, by show max 0 (max 0 0) + 1 ≤ n + 1; omega⟩
    show (PyData.canLay0 (.str "atom") && (PyData.canLay0 (.str (SX.S w)) && true)) = true
    rw [show PyData.canLay0 (.str (SX.S w)) = true from low_lay (hw w h)]
    decide +kernel
  | n + 1, .hole w, h => by
    refine ⟨?_, by show max 0 (max 0 0) + 1 ≤ n + 1; omega⟩
    show (PyData.canLay0 (.str "hole") && (PyData.canLay0 (.str (SX.S w)) && true)) = true
    rw [show PyData.canLay0 (.str (SX.S w)) = true from low_lay (hh w h)]
    decide +kernel
  | n + 1, .bin k a b, h => by
    obtain ⟨a1, a2⟩ := ok_lay hw hh h.1
    obtain ⟨b1, b2⟩ := ok_lay hw hh h.2
    refine ⟨?_, ?_⟩
    · show (PyData.canLay0 (.str (kd k)) && (PyData.canLay0 a.dat && (PyData.canLay0 b.dat && true))) = true
      rw [a1, b1, show PyData.canLay0 (.str (kd k)) = true from kd_lay k]
      rfl
    · show max 0 (max (PyData.depth a.dat) (max (PyData.depth b.dat) 0)) + 1 ≤ n + 1
      omega
theorem ok_shaped {ws hs : List (List Nat)} (hw : ∀ w ∈ ws, Low w) (hh : ∀ c ∈ hs, Low c) {n : Nat} {t : Fm} (h : okF ws hs n t) (hn : n ≤ 64) : SeqAt.shaped t.dat = true := by
  obtain ⟨h1, h2⟩ := ok_lay hw hh h
  unfold SeqAt.shaped
  rw [h1, decide_eq_true (by omega)]
  rfl
theorem oka_str {n : Nat} {x : Str} : oka (n + 1) (.str x) = true := rfl
theorem ok_oka {ws hs : List (List Nat)} : ∀ {n : Nat} {t : Fm}, okF ws hs n t → oka (n + 1) t.dat = true
  | 0, _, h => h.elim
  | n + 1, .fls, _ => rfl
  | n + 1, .atom w, _ => rfl
  | n + 1, .hole w, _ => rfl
  | n + 1, .bin k a b, h => by
    have a1 := ok_oka h.1
    have b1 := ok_oka h.2
    show (decide (3 ≤ 1000) && (oka (n + 1) (.str (kd k)) && (oka (n + 1) a.dat && (oka (n + 1) b.dat && true)))) = true
    rw [a1, b1]
    rfl
end Ag

namespace Ag
open PySem PySem.Spec PyProof.Rows L2
/-! ### tables of holes -/
abbrev Tab := List (List Nat × Fm)
def tg : Tab → List Nat → Option Fm
  | [], _ => none
  | e :: r, c => if e.1 = c then some e.2 else tg r c
theorem tg_snoc (m : Tab) (c d : List Nat) (t : Fm) : tg (m ++ [(c, t)]) d = match tg m d with | some g => some g | none => if c = d then some t else none := by
  induction m with
  | nil => rfl
  | cons e r ih =>
    show (if e.1 = d then some e.2 else tg (r ++ [(c, t)]) d) = _
    rw [ih]
    show _ = match (if e.1 = d then some e.2 else tg r d) with | some g => some g | none => if c = d then some t else none
    by_cases h : e.1 = d
    · rw [if_pos h, if_pos h]
    · rw [if_neg h, if_neg h]
theorem tg_mem {m : Tab} {c : List Nat} {t : Fm} (h : tg m c = some t) : (c, t) ∈ m := by
  induction m with
  | nil => cases h
  | cons e r ih =>
    have h' : (if e.1 = c then some e.2 else tg r c) = some t := h
    by_cases he : e.1 = c
    · rw [if_pos he] at h'
      cases h'
      subst he
      exact List.mem_cons_self
    · rw [if_neg he] at h'
      exact List.mem_cons_of_mem _ (ih h')
theorem tg_none {m : Tab} {c : List Nat} (h : tg m c = none) : ∀ t, (c, t) ∉ m := by
  induction m with
  | nil => intro t z; cases z
  | cons e r ih =>
    have h' : (if e.1 = c then some e.2 else tg r c) = none := h
    by_cases he : e.1 = c
    · rw [if_pos he] at h'
      cases h'
    · rw [if_neg he] at h'
      intro t z
      rcases List.mem_cons.mp z with z | z
      · exact he (by rw [← z])
      · exact ih h' t z
/-- no key twice -/
def Fn (m : Tab) : Prop := (m.map (·.1)).Nodup
theorem Fn.one {m : Tab} (h : Fn m) {c : List Nat} {s t : Fm} (h1 : (c, s) ∈ m) (h2 : (c, t) ∈ m) : s = t := by
  induction m with
  | nil => cases h1
  | cons e r ih =>
    unfold Fn at h
    rw [List.map_cons, List.nodup_cons] at h
    rcases List.mem_cons.mp h1 with a | a <;> rcases List.mem_cons.mp h2 with b | b
    · rw [← b] at a
      exact (Prod.mk.inj a).2
    · exact absurd (List.mem_map.mpr ⟨_, b, rfl⟩) (by rw [← a] at h; exact h.1)
    · exact absurd (List.mem_map.mpr ⟨_, a, rfl⟩) (by rw [← b] at h; exact h.1)
    · exact ih h.2 a b
theorem Fn.tg {m : Tab} (h : Fn m) {c : List Nat} {t : Fm} (h1 : (c, t) ∈ m) : tg m c = some t := by
  cases e : Ag.tg m c with
  | none => exact absurd h1 (tg_none e t)
  | some s => rw [h.one (tg_mem e) h1]
theorem Fn.snoc {m : Tab} (h : Fn m) {c : List Nat} {t : Fm} (h1 : Ag.tg m c = none) : Fn (m ++ [(c, t)]) := by
  unfold Fn
  rw [List.map_append]
  refine nd_snoc h fun z => ?_
  obtain ⟨e, he, rfl⟩ := List.mem_map.mp z
  exact tg_none h1 e.2 he
theorem Fn.nodup {m : Tab} (h : Fn m) : m.Nodup := by
  induction m with
  | nil => exact List.nodup_nil
  | cons e r ih =>
    unfold Fn at h
    rw [List.map_cons, List.nodup_cons] at h
    exact List.nodup_cons.mpr ⟨fun z => h.1 (List.mem_map.mpr ⟨_, z, rfl⟩), ih h.2⟩
theorem Fn.perm {m n : Tab} (h : Fn m) (g : Fn n) (e : ∀ p, p ∈ m ↔ p ∈ n) : m.Perm n := by
  have nm : m.Nodup := h.nodup
  have nn : n.Nodup := g.nodup
  exact (List.perm_ext_iff_of_nodup nm nn).mpr e
/-! ### what a shape asks of its holes -/
def Cn : Fm → Fm → Tab
  | .hole c, f => [(c, f)]
  | .bin _ a b, .bin _ c d => Cn a c ++ Cn b d
  | _, _ => []
def Sm : Fm → Fm → Prop
  | .hole _, _ => True
  | .bin k a b, .bin j c d => k = j ∧ Sm a c ∧ Sm b d
  | .bin _ _ _, _ => False
  | s, f => s = f
/-- the law's own walk -/
def mt : Fm → Fm → Tab → Option Tab
  | .hole c, f, m => match tg m c with
    | some g => if g = f then some m else none
    | none => some (m ++ [(c, f)])
  | .bin k a b, .bin j c d, m => if k = j then match mt a c m with
      | none => none
      | some m' => mt b d m'
    else none
  | .bin _ _ _, _, _ => none
  | .fls, f, m => if Fm.fls = f then some m else none
  | .atom w, f, m => if Fm.atom w = f then some m else none
theorem mt_some : ∀ {s f : Fm} {m m' : Tab}, mt s f m = some m' → Fn m → Fn m' ∧ Sm s f ∧ ∀ p, p ∈ m' ↔ p ∈ m ∨ p ∈ Cn s f
  | .hole c, f, m, m', h, n => by
    simp only [mt] at h
    cases e : tg m c with
    | some g =>
      rw [e] at h
      try dsimp only at h
      by_cases hg : g = f
      · rw [if_pos hg] at h
        cases h
        subst hg
        refine ⟨n, trivial, fun p => ⟨.inl, fun z => ?_⟩⟩
        rcases z with z | z
        · exact z
        · rw [show p = (c, g) from List.mem_singleton.mp z]
          exact tg_mem e
      · rw [if_neg hg] at h
        cases h
    | none =>
      rw [e] at h
      try dsimp only at h
      cases h
      exact ⟨n.snoc e, trivial, fun p => List.mem_append⟩
  | .bin k a b, .bin j c d, m, m', h, n => by
    simp only [mt] at h
    by_cases hk : k = j
    · rw [if_pos hk] at h
      cases e : mt a c m with
      | none => rw [e] at h; cases h
      | some m1 =>
        rw [e] at h
        try dsimp only at h
        obtain ⟨n1, s1, h1⟩ := mt_some e n
        obtain ⟨n2, s2, h2⟩ := mt_some h n1
        refine ⟨n2, ⟨hk, s1, s2⟩, fun p => ?_⟩
        rw [h2, h1]
        show _ ↔ p ∈ m ∨ p ∈ Cn a c ++ Cn b d
        rw [List.mem_append, or_assoc]
    · rw [if_neg hk] at h
      cases h
  | .bin _ _ _, .fls, m, m', h, n => by cases h
  | .bin _ _ _, .atom _, m, m', h, n => by cases h
  | .bin _ _ _, .hole _, m, m', h, n => by cases h
  | .fls, f, m, m', h, n => by
    simp only [mt] at h
    by_cases e : Fm.fls = f
    · rw [if_pos e] at h
      cases h
      subst e
      exact ⟨n, rfl, fun p => ⟨.inl, fun z => z.elim id fun y => (by cases y)⟩⟩
    · rw [if_neg e] at h
      cases h
  | .atom w, f, m, m', h, n => by
    simp only [mt] at h
    by_cases e : Fm.atom w = f
    · rw [if_pos e] at h
      cases h
      subst e
      exact ⟨n, rfl, fun p => ⟨.inl, fun z => z.elim id fun y => (by cases y)⟩⟩
    · rw [if_neg e] at h
      cases h
theorem mt_none : ∀ {s f : Fm} {m : Tab}, mt s f m = none → Fn m → ∀ M : Tab, Fn M → (∀ p ∈ m, p ∈ M) → (∀ p ∈ Cn s f, p ∈ M) → Sm s f → False
  | .hole c, f, m, h, n, M, nM, hm, hc, _ => by
    simp only [mt] at h
    cases e : tg m c with
    | some g =>
      rw [e] at h
      try dsimp only at h
      by_cases hg : g = f
      · rw [if_pos hg] at h
        cases h
      · exact hg (nM.one (hm _ (tg_mem e)) (hc _ (List.mem_singleton.mpr rfl)))
    | none =>
      rw [e] at h
      try dsimp only at h
      cases h
  | .bin k a b, .bin j c d, m, h, n, M, nM, hm, hc, hs => by
    simp only [mt] at h
    rw [if_pos hs.1] at h
    cases e : mt a c m with
    | none => exact mt_none e n M nM hm (fun p hp => hc p (List.mem_append.mpr (.inl hp))) hs.2.1
    | some m1 =>
      rw [e] at h
      try dsimp only at h
      obtain ⟨n1, _, h1⟩ := mt_some e n
      refine mt_none h n1 M nM (fun p hp => ?_) (fun p hp => hc p (List.mem_append.mpr (.inr hp))) hs.2.2
      rcases (h1 p).mp hp with z | z
      · exact hm p z
      · exact hc p (List.mem_append.mpr (.inl z))
  | .bin _ _ _, .fls, m, _, _, M, _, _, _, hs => hs.elim
  | .bin _ _ _, .atom _, m, _, _, M, _, _, _, hs => hs.elim
  | .bin _ _ _, .hole _, m, _, _, M, _, _, _, hs => hs.elim
  | .fls, f, m, h, _, M, _, _, _, hs => by
    simp only [mt] at h
    rw [if_pos (show Fm.fls = f from hs)] at h
    cases h
  | .atom w, f, m, h, _, M, _, _, _, hs => by
    simp only [mt] at h
    rw [if_pos (show Fm.atom w = f from hs)] at h
    cases h
/-! ### the program's walk: a stack, its top first -/
def sz : Fm → Nat
  | .bin _ a b => 1 + sz a + sz b
  | _ => 1
def tot : List (Fm × Fm) → Nat
  | [] => 0
  | e :: r => sz e.1 + tot r
def ho : Nat → List (Fm × Fm) → Tab → Option Tab
  | _, [], m => some m
  | 0, _ :: _, _ => none
  | n + 1, (.hole c, f) :: r, m => match tg m c with
    | some g => if g = f then ho n r m else none
    | none => ho n r (m ++ [(c, f)])
  | n + 1, (.bin k a b, .bin j c d) :: r, m => if k = j then ho n ((b, d) :: (a, c) :: r) m else none
  | _ + 1, (.bin _ _ _, _) :: _, _ => none
  | n + 1, (.fls, f) :: r, m => if Fm.fls = f then ho n r m else none
  | n + 1, (.atom w, f) :: r, m => if Fm.atom w = f then ho n r m else none
def CnS : List (Fm × Fm) → Tab
  | [] => []
  | e :: r => Cn e.1 e.2 ++ CnS r
def SmS (l : List (Fm × Fm)) : Prop := ∀ e ∈ l, Sm e.1 e.2
theorem ho_some : ∀ {n : Nat} {l : List (Fm × Fm)} {m m' : Tab}, ho n l m = some m' → Fn m → Fn m' ∧ SmS l ∧ ∀ p, p ∈ m' ↔ p ∈ m ∨ p ∈ CnS l
  | n, [], m, m', h, nm => by
    have e : m' = m := by cases n <;> exact (Option.some.inj h).symm
    subst e
    exact ⟨nm, fun e h => (by cases h), fun p => ⟨.inl, fun z => z.elim id fun y => (by cases y)⟩⟩
  | 0, _ :: _, m, m', h, nm => by cases h
  | n + 1, (.hole c, f) :: r, m, m', h, nm => by
    simp only [ho] at h
    cases e : tg m c with
    | some g =>
      rw [e] at h
      try dsimp only at h
      by_cases hg : g = f
      · rw [if_pos hg] at h
        subst hg
        obtain ⟨n1, s1, h1⟩ := ho_some h nm
        refine ⟨n1, fun e he => ?_, fun p => ?_⟩
        · rcases List.mem_cons.mp he with rfl | he
          · trivial
          · exact s1 e he
        · rw [h1]
          show _ ↔ p ∈ m ∨ p ∈ [(c, g)] ++ CnS r
          rw [List.mem_append, List.mem_singleton]
          constructor
          · rintro (z | z)
            · exact .inl z
            · exact .inr (.inr z)
          · rintro (z | rfl | z)
            · exact .inl z
            · exact .inl (tg_mem e)
            · exact .inr z
      · rw [if_neg hg] at h
        cases h
    | none =>
      rw [e] at h
      try dsimp only at h
      obtain ⟨n1, s1, h1⟩ := ho_some h (nm.snoc e)
      refine ⟨n1, fun e he => ?_, fun p => ?_⟩
      · rcases List.mem_cons.mp he with rfl | he
        · trivial
        · exact s1 e he
      · rw [h1, List.mem_append]
        show _ ↔ p ∈ m ∨ p ∈ [(c, f)] ++ CnS r
        rw [List.mem_append, or_assoc]
  | n + 1, (.bin k a b, .bin j c d) :: r, m, m', h, nm => by
    simp only [ho] at h
    by_cases hk : k = j
    · rw [if_pos hk] at h
      obtain ⟨n1, s1, h1⟩ := ho_some h nm
      refine ⟨n1, fun e he => ?_, fun p => ?_⟩
      · rcases List.mem_cons.mp he with rfl | he
        · exact ⟨hk, s1 (a, c) (by simp), s1 (b, d) (by simp)⟩
        · exact s1 e (by simp [he])
      · rw [h1]
        show p ∈ m ∨ p ∈ Cn b d ++ (Cn a c ++ CnS r) ↔ p ∈ m ∨ p ∈ (Cn a c ++ Cn b d) ++ CnS r
        simp only [List.mem_append]
        constructor
        · rintro (z | z | z | z)
          · exact .inl z
          · exact .inr (.inl (.inr z))
          · exact .inr (.inl (.inl z))
          · exact .inr (.inr z)
        · rintro (z | (z | z) | z)
          · exact .inl z
          · exact .inr (.inr (.inl z))
          · exact .inr (.inl z)
          · exact .inr (.inr (.inr z))
    · rw [if_neg hk] at h
      cases h
  | _ + 1, (.bin _ _ _, .fls) :: _, m, m', h, nm => by cases h
  | _ + 1, (.bin _ _ _, .atom _) :: _, m, m', h, nm => by cases h
  | _ + 1, (.bin _ _ _, .hole _) :: _, m, m', h, nm => by cases h
  | n + 1, (.fls, f) :: r, m, m', h, nm => by
    simp only [ho] at h
    by_cases e : Fm.fls = f
    · rw [if_pos e] at h
      subst e
      obtain ⟨n1, s1, h1⟩ := ho_some h nm
      refine ⟨n1, fun e he => ?_, h1⟩
      rcases List.mem_cons.mp he with rfl | he
      · rfl
      · exact s1 e he
    · rw [if_neg e] at h
      cases h
  | n + 1, (.atom w, f) :: r, m, m', h, nm => by
    simp only [ho] at h
    by_cases e : Fm.atom w = f
    · rw [if_pos e] at h
      subst e
      obtain ⟨n1, s1, h1⟩ := ho_some h nm
      refine ⟨n1, fun e he => ?_, h1⟩
      rcases List.mem_cons.mp he with rfl | he
      · rfl
      · exact s1 e he
    · rw [if_neg e] at h
      cases h
theorem ho_none : ∀ {n : Nat} {l : List (Fm × Fm)} {m : Tab}, ho n l m = none → tot l ≤ n → Fn m → ∀ M : Tab, Fn M → (∀ p ∈ m, p ∈ M) → (∀ p ∈ CnS l, p ∈ M) → SmS l → False
  | n, [], m, h, _, _, _, _, _, _, _ => by cases n <;> cases h
  | 0, e :: r, m, _, ht, _, _, _, _, _, _ => by
    have : 1 ≤ sz e.1 := by cases e.1 <;> simp only [sz] <;> omega
    simp only [tot] at ht
    omega
  | n + 1, (.hole c, f) :: r, m, h, ht, nm, M, nM, hm, hc, hs => by
    have ht' : tot r ≤ n := by simp only [tot, sz] at ht; omega
    have hs' : SmS r := fun e he => hs e (List.mem_cons_of_mem _ he)
    simp only [ho] at h
    cases e : tg m c with
    | some g =>
      rw [e] at h
      try dsimp only at h
      by_cases hg : g = f
      · rw [if_pos hg] at h
        exact ho_none h ht' nm M nM hm (fun p hp => hc p (List.mem_append.mpr (.inr hp))) hs'
      · exact hg (nM.one (hm _ (tg_mem e)) (hc _ (List.mem_append.mpr (.inl (List.mem_singleton.mpr rfl)))))
    | none =>
      rw [e] at h
      try dsimp only at h
      refine ho_none h ht' (nm.snoc e) M nM (fun p hp => ?_) (fun p hp => hc p (List.mem_append.mpr (.inr hp))) hs'
      rcases List.mem_append.mp hp with z | z
      · exact hm p z
      · exact hc p (List.mem_append.mpr (.inl z))
  | n + 1, (.bin k a b, .bin j c d) :: r, m, h, ht, nm, M, nM, hm, hc, hs => by
    have h0 := hs (.bin k a b, .bin j c d) (by simp)
    simp only [ho] at h
    rw [if_pos h0.1] at h
    refine ho_none h ?_ nm M nM hm (fun p hp => ?_) fun e he => ?_
    · simp only [tot, sz] at ht ⊢
      omega
    · have hp' : p ∈ Cn b d ++ (Cn a c ++ CnS r) := hp
      refine hc p (show p ∈ (Cn a c ++ Cn b d) ++ CnS r from ?_)
      simp only [List.mem_append] at hp' ⊢
      rcases hp' with z | z | z
      · exact .inl (.inr z)
      · exact .inl (.inl z)
      · exact .inr z
    · rcases List.mem_cons.mp he with rfl | he
      · exact h0.2.2
      rcases List.mem_cons.mp he with rfl | he
      · exact h0.2.1
      · exact hs e (List.mem_cons_of_mem _ he)
  | _ + 1, (.bin k a b, .fls) :: _, m, _, _, _, _, _, _, _, hs => (hs _ List.mem_cons_self).elim
  | _ + 1, (.bin k a b, .atom w) :: _, m, _, _, _, _, _, _, _, hs => (hs _ List.mem_cons_self).elim
  | _ + 1, (.bin k a b, .hole w) :: _, m, _, _, _, _, _, _, _, hs => (hs _ List.mem_cons_self).elim
  | n + 1, (.fls, f) :: r, m, h, ht, nm, M, nM, hm, hc, hs => by
    have ht' : tot r ≤ n := by simp only [tot, sz] at ht; omega
    simp only [ho] at h
    rw [if_pos (show Fm.fls = f from hs _ List.mem_cons_self)] at h
    exact ho_none h ht' nm M nM hm (fun p hp => hc p (List.mem_append.mpr (.inr hp))) fun e he => hs e (List.mem_cons_of_mem _ he)
  | n + 1, (.atom w, f) :: r, m, h, ht, nm, M, nM, hm, hc, hs => by
    have ht' : tot r ≤ n := by simp only [tot, sz] at ht; omega
    simp only [ho] at h
    rw [if_pos (show Fm.atom w = f from hs _ List.mem_cons_self)] at h
    exact ho_none h ht' nm M nM hm (fun p hp => hc p (List.mem_append.mpr (.inr hp))) fun e he => hs e (List.mem_cons_of_mem _ he)
/-- what holes_of answers -/
def hof (s f : Fm) : Option Tab := ho (sz s) [(s, f)] []
theorem hof_some {s f : Fm} {m : Tab} (h : hof s f = some m) : Fn m ∧ Sm s f ∧ ∀ p, p ∈ m ↔ p ∈ Cn s f := by
  obtain ⟨h1, h2, h3⟩ := ho_some h (show Fn [] from List.nodup_nil)
  refine ⟨h1, h2 (s, f) (by simp), fun p => ?_⟩
  rw [h3]
  show p ∈ [] ∨ p ∈ Cn s f ++ [] ↔ _
  simp
theorem hof_none {s f : Fm} (h : hof s f = none) {M : Tab} (nM : Fn M) (hc : ∀ p ∈ Cn s f, p ∈ M) (hs : Sm s f) : False := by
  refine ho_none h (by simp [tot]) (show Fn [] from List.nodup_nil) M nM (fun p hp => (by cases hp)) (fun p hp => ?_) (fun e he => ?_)
  · have hp' : p ∈ Cn s f ++ [] := hp
    rw [List.append_nil] at hp'
    exact hc p hp'
  · rw [List.mem_singleton.mp he]
    exact hs
/-- the two walks agree -/
theorem walks {s f : Fm} : (hof s f = none ∧ mt s f [] = none) ∨ ∃ m1 m2, hof s f = some m1 ∧ mt s f [] = some m2 ∧ m1.Perm m2 ∧ Fn m1 ∧ Fn m2 ∧ Sm s f ∧ ∀ p, p ∈ m2 ↔ p ∈ Cn s f := by
  have n0 : Fn [] := List.nodup_nil
  cases e1 : hof s f with
  | none =>
    cases e2 : mt s f [] with
    | none => exact .inl ⟨rfl, rfl⟩
    | some m2 =>
      obtain ⟨h1, h2, h3⟩ := mt_some e2 n0
      exact (hof_none e1 h1 (fun p hp => (h3 p).mpr (.inr hp)) h2).elim
  | some m1 =>
    obtain ⟨g1, g2, g3⟩ := hof_some e1
    cases e2 : mt s f [] with
    | none => exact (mt_none e2 n0 m1 g1 (fun p hp => (by cases hp)) (fun p hp => (g3 p).mpr hp) g2).elim
    | some m2 =>
      obtain ⟨h1, h2, h3⟩ := mt_some e2 n0
      have h3' : ∀ p, p ∈ m2 ↔ p ∈ Cn s f := fun p => by rw [h3]; simp
      exact .inr ⟨m1, m2, rfl, rfl, g1.perm h1 fun p => by rw [g3, h3'], g1, h1, h2, h3'⟩
/-! ### the holes filled -/
def pt (m : Tab) : Fm → Fm
  | .hole c => (tg m c).getD (.hole c)
  | .bin k a b => .bin k (pt m a) (pt m b)
  | t => t
theorem pt_back {M : Tab} (nM : Fn M) : ∀ {s f : Fm}, (∀ p ∈ Cn s f, p ∈ M) → Sm s f → pt M s = f
  | .hole c, f, h, _ => by
    show (tg M c).getD _ = f
    rw [nM.tg (h _ (List.mem_singleton.mpr rfl))]
    rfl
  | .bin k a b, .bin j c d, h, hs => by
    show Fm.bin k (pt M a) (pt M b) = _
    rw [pt_back nM (fun p hp => h p (List.mem_append.mpr (.inl hp))) hs.2.1, pt_back nM (fun p hp => h p (List.mem_append.mpr (.inr hp))) hs.2.2, hs.1]
  | .bin _ _ _, .fls, _, hs => hs.elim
  | .bin _ _ _, .atom _, _, hs => hs.elim
  | .bin _ _ _, .hole _, _, hs => hs.elim
  | .fls, f, _, hs => hs
  | .atom w, f, _, hs => hs
theorem pt_ok {ws hs : List (List Nat)} {M : Tab} {k : Nat} (hM : ∀ c ∈ hs, ∃ t, tg M c = some t ∧ okF ws [] k t) : ∀ {n : Nat} {s : Fm}, okF ws hs n s → okF ws [] (n + k) (pt M s)
  | 0, _, h => h.elim
  | n + 1, .fls, _ => by rw [Nat.add_right_comm]; exact trivial
  | n + 1, .atom w, h => by rw [Nat.add_right_comm]; exact h
  | n + 1, .hole c, h => by
    obtain ⟨t, h1, h2⟩ := hM c h
    show okF ws [] _ ((tg M c).getD _)
    rw [h1]
    exact h2.le (by omega)
  | n + 1, .bin j a b, h => by
    rw [Nat.add_right_comm]
    exact ⟨pt_ok hM h.1, pt_ok hM h.2⟩
theorem cn_plain {ws : List (List Nat)} : ∀ {n : Nat} {t : Fm}, okF ws [] n t → Cn t t = [] ∧ Sm t t
  | 0, _, h => h.elim
  | _ + 1, .fls, _ => ⟨rfl, rfl⟩
  | _ + 1, .atom _, _ => ⟨rfl, rfl⟩
  | _ + 1, .hole _, h => by cases h
  | _ + 1, .bin _ _ _, h => by
    obtain ⟨a1, a2⟩ := cn_plain h.1
    obtain ⟨b1, b2⟩ := cn_plain h.2
    exact ⟨by show Cn _ _ ++ Cn _ _ = []; rw [a1, b1]; rfl, rfl, a2, b2⟩
theorem hof_plain {ws : List (List Nat)} {n : Nat} {t : Fm} (h : okF ws [] n t) : hof t t = some [] := by
  obtain ⟨h1, h2⟩ := cn_plain h
  cases e : hof t t with
  | none => exact (hof_none e (M := []) List.nodup_nil (fun p hp => by rw [h1] at hp; exact hp) h2).elim
  | some m =>
    obtain ⟨_, _, g3⟩ := hof_some e
    cases m with
    | nil => rfl
    | cons p r =>
      have z := (g3 p).mp (by simp)
      rw [h1] at z
      cases z
theorem cn_ok {ws hs : List (List Nat)} : ∀ {n k : Nat} {s f : Fm}, okF ws hs n s → okF ws [] k f → ∀ p ∈ Cn s f, p.1 ∈ hs ∧ okF ws [] k p.2
  | 0, _, _, _, h, _, _, _ => h.elim
  | n + 1, k, .hole c, f, h, g, p, hp => by
    rw [List.mem_singleton.mp hp]
    exact ⟨h, g⟩
  | n + 1, 0, .bin _ _ _, _, _, g, _, _ => g.elim
  | n + 1, k + 1, .bin j a b, .bin i c d, h, g, p, hp => by
    rcases List.mem_append.mp (show p ∈ Cn a c ++ Cn b d from hp) with z | z
    · have y := cn_ok h.1 g.1 p z
      exact ⟨y.1, y.2.up⟩
    · have y := cn_ok h.2 g.2 p z
      exact ⟨y.1, y.2.up⟩
  | n + 1, k + 1, .bin _ _ _, .fls, _, _, p, hp => by cases hp
  | n + 1, k + 1, .bin _ _ _, .atom _, _, _, p, hp => by cases hp
  | n + 1, k + 1, .bin _ _ _, .hole _, _, _, p, hp => by cases hp
  | n + 1, k, .fls, f, _, _, p, hp => by cases f <;> cases hp
  | n + 1, k, .atom _, f, _, _, p, hp => by cases f <;> cases hp
theorem nodup_le {α : Type} [DecidableEq α] : ∀ {l k : List α}, l.Nodup → (∀ x ∈ l, x ∈ k) → l.length ≤ k.length
  | [], _, _, _ => Nat.zero_le _
  | x :: r, k, h, hs => by
    have h' := List.nodup_cons.mp h
    have hx : x ∈ k := hs x (by simp)
    have z := nodup_le (k := k.erase x) h'.2 fun y hy => (List.mem_erase_of_ne (fun e => h'.1 (by rw [← e]; exact hy))).mpr (hs y (by simp [hy]))
    rw [List.length_erase_of_mem hx] at z
    have : 0 < k.length := List.length_pos_of_mem hx
    simp only [List.length_cons]
    omega
/-! ### tables in the heap -/
def TR (K : PySem.W.Frag) (H : Hp) (kv : Key × V) (e : List Nat × Fm) : Prop := kv.1 = Sum.inr (SX.S e.1) ∧ Fr K H kv.2 e.2
def TabAt (K : PySem.W.Frag) (H : Hp) (T : Addr) (m : Tab) : Prop := ∃ kvs, H T = some (.dK kvs) ∧ Paired (TR K H) kvs m
def TOk (ws hs : List (List Nat)) (N : Nat) (m : Tab) : Prop := Fn m ∧ ∀ p ∈ m, p.1 ∈ hs ∧ okF ws [] N p.2
theorem key_S (a b : List Nat) : (Sum.inr (SX.S a) : Key) = Sum.inr (SX.S b) ↔ a = b := ⟨fun h => SX.S_inj (Sum.inr.inj h), fun h => by rw [h]⟩
theorem tab_some {K : PySem.W.Frag} {H : Hp} : ∀ {kvs : List (Key × V)} {m : Tab}, Paired (TR K H) kvs m → ∀ {c : List Nat} {t : Fm}, tg m c = some t → ∃ v, valV kvs (Sum.inr (SX.S c)) = some v ∧ Fr K H v t
  | _, _, .nil, c, t, h => by cases h
  | _, _, .cons (a := kv) (b := e) r rs, c, t, h => by
    have h' : (if e.1 = c then some e.2 else tg _ c) = some t := h
    by_cases he : e.1 = c
    · rw [if_pos he] at h'
      cases h'
      exact ⟨kv.2, valV_pos (by rw [r.1, he]), r.2⟩
    · rw [if_neg he] at h'
      obtain ⟨v, h1, h2⟩ := tab_some rs h'
      exact ⟨v, by rw [valV_neg (fun z => he ((key_S _ _).mp (r.1.symm.trans z)))]; exact h1, h2⟩
theorem tab_none {K : PySem.W.Frag} {H : Hp} : ∀ {kvs : List (Key × V)} {m : Tab}, Paired (TR K H) kvs m → ∀ {c : List Nat}, tg m c = none → valV kvs (Sum.inr (SX.S c)) = none
  | _, _, .nil, c, _ => rfl
  | _, _, .cons (a := kv) (b := e) r rs, c, h => by
    have h' : (if e.1 = c then some e.2 else tg _ c) = none := h
    by_cases he : e.1 = c
    · rw [if_pos he] at h'
      cases h'
    · rw [if_neg he] at h'
      rw [valV_neg (fun z => he ((key_S _ _).mp (r.1.symm.trans z)))]
      exact tab_none rs h'
theorem tab_same {K : PySem.W.Frag} {H H' : Hp} (s : Same H H') {kvs : List (Key × V)} {m : Tab} (h : Paired (TR K H) kvs m) : Paired (TR K H') kvs m := paired_imp (fun _ _ z => ⟨z.1, z.2.same s⟩) h
theorem TabAt.same {K : PySem.W.Frag} {H H' : Hp} (s : Same H H') {T : Addr} {m : Tab} (h : TabAt K H T m) : TabAt K H' T m := by
  obtain ⟨kvs, h1, h2⟩ := h
  exact ⟨kvs, s _ _ h1, tab_same s h2⟩
theorem paired_snoc {α β : Type} {R : α → β → Prop} : ∀ {l : List α} {m : List β} {a : α} {b : β}, Paired R l m → R a b → Paired R (l ++ [a]) (m ++ [b])
  | _, _, _, _, .nil, h => .cons h .nil
  | _, _, _, _, .cons r t, h => .cons r (paired_snoc t h)
theorem mt_tok {ws hs : List (List Nat)} {n N : Nat} {s f : Fm} {m m' : Tab} (h : mt s f m = some m') (ok : TOk ws hs N m) (hs1 : okF ws hs n s) (hf : okF ws [] N f) : TOk ws hs N m' := by
  obtain ⟨h1, h2, h3⟩ := mt_some h ok.1
  refine ⟨h1, fun p hp => ?_⟩
  rcases (h3 p).mp hp with z | z
  · exact ok.2 p z
  · exact cn_ok hs1 hf p z
/-- the first word of a formula, and the tuple that it is -/
def hd0 : Fm → Str
  | .fls => "false"
  | .atom _ => "atom"
  | .hole _ => "hole"
  | .bin k _ _ => kd k
theorem fr_head {K : PySem.W.Frag} {H : Hp} {v : V} {t : Fm} (h : Fr K H v t) : ∃ p r, v = .ref p ∧ SqT K H p (.str (hd0 t) :: r) := by
  cases t with
  | fls => obtain ⟨p, e, q⟩ := fr_fls h; exact ⟨p, _, e, q⟩
  | atom u => obtain ⟨p, e, q⟩ := fr_atom h; exact ⟨p, _, e, q⟩
  | hole u => obtain ⟨p, e, q⟩ := fr_hole h; exact ⟨p, _, e, q⟩
  | bin k a b => obtain ⟨p, x, y, e, q, _⟩ := fr_bin h; exact ⟨p, _, e, q⟩
theorem in_kd (k : Fin 3) : (!inV (.str (kd k)) [.str "then", .str "and", .str "or"]) = false := by
  revert k
  decide +kernel
theorem at_head {x : V} {r : List V} : atI (x :: r) 0 = some x := at_any (j := 0) rfl rfl
theorem kd_in (k : Fin 3) : inV (.str (kd k)) [.str "then", .str "and", .str "or"] = true := by
  revert k
  decide +kernel
/-! ### the stack of holes_of: its list, the top last -/
def PairAt (K : PySem.W.Frag) (H : Hp) (v : V) (e : Fm × Fm) : Prop := ∃ p x y, v = .ref p ∧ SqT K H p [x, y] ∧ Fr K H x e.1 ∧ Fr K H y e.2
theorem PairAt.same {K : PySem.W.Frag} {H H' : Hp} (s : Same H H') {v : V} {e : Fm × Fm} (h : PairAt K H v e) : PairAt K H' v e := by
  obtain ⟨p, x, y, h1, h2, h3, h4⟩ := h
  exact ⟨p, x, y, h1, sameT s h2, h3.same s, h4.same s⟩
inductive Stk (K : PySem.W.Frag) (H : Hp) : List V → List (Fm × Fm) → Prop
  | nil : Stk K H [] []
  | push {vs : List V} {v : V} {r : List (Fm × Fm)} {e : Fm × Fm} : Stk K H vs r → PairAt K H v e → Stk K H (vs ++ [v]) (e :: r)
theorem Stk.len {K : PySem.W.Frag} {H : Hp} {vs : List V} {l : List (Fm × Fm)} (h : Stk K H vs l) : vs.length = l.length := by
  induction h with
  | nil => rfl
  | push _ _ ih => rw [List.length_append, ih]; rfl
theorem tot_len : ∀ l : List (Fm × Fm), l.length ≤ tot l
  | [] => Nat.le_refl _
  | e :: r => by
    have z := tot_len r
    have : 1 ≤ sz e.1 := by cases e.1 <;> simp only [sz] <;> omega
    simp only [tot, List.length_cons]
    omega
structure Setting (ws hs : List (List Nat)) (N : Nat) : Prop where
  lw : ∀ w ∈ ws, Low w
  lh : ∀ c ∈ hs, Low c
  n : N ≤ 60
  len : hs.length ≤ 900
/-! ### tuples stay, whatever list or dict is changed -/
def Tp (H H' : Hp) : Prop := ∀ p xs, Rd H p (.tup xs) → Rd H' p (.tup xs)
theorem Tp.of {H H' : Hp} (s : Same H H') : Tp H H' := fun p xs h => RdLe.of s p _ h
theorem Tp.trans {H H1 H2 : Hp} (a : Tp H H1) (b : Tp H1 H2) : Tp H H2 := fun p xs h => b p xs (a p xs h)
theorem Tp.upd {H : Hp} {a : Addr} {u o : HO} (h : H a = some u) (mu : Mut (some u)) : Tp H (upd H a o) := fun p xs q => by
  have np : p ≠ a := by
    rintro rfl
    rcases q with q | ⟨o', q⟩ <;> (rw [h] at q; cases q; exact mu)
  rcases q with q | ⟨o', q⟩
  · exact .inl (by rw [upd_ne np]; exact q)
  · exact .inr ⟨o', by rw [upd_ne np]; exact q⟩
section
variable {K : PySem.W.Frag} {H H' : Hp}
theorem Tp.seq (s : Tp H H') {a : Addr} {xs : List V} (h : SqT K H a xs) : SqT K H' a xs := h.imp (s _ _) id
theorem Fr.tp (s : Tp H H') : ∀ {t : Fm} {v : V}, Fr K H v t → Fr K H' v t
  | .fls, _, h => by
    obtain ⟨p, rfl, q⟩ := fr_fls h
    exact mk_fls (s.seq q)
  | .atom w, _, h => by
    obtain ⟨p, rfl, q⟩ := fr_atom h
    exact mk_atom (s.seq q)
  | .hole w, _, h => by
    obtain ⟨p, rfl, q⟩ := fr_hole h
    exact mk_hole (s.seq q)
  | .bin j a b, _, h => by
    obtain ⟨p, x, y, rfl, q, ha, hb⟩ := fr_bin h
    exact mk_bin (s.seq q) (Fr.tp s ha) (Fr.tp s hb)
theorem tab_tp (s : Tp H H') {kvs : List (Key × V)} {m : Tab} (h : Paired (TR K H) kvs m) : Paired (TR K H') kvs m := paired_imp (fun _ _ z => ⟨z.1, z.2.tp s⟩) h
theorem PairAt.tp (s : Tp H H') {v : V} {e : Fm × Fm} (h : PairAt K H v e) : PairAt K H' v e := by
  obtain ⟨p, x, y, h1, h2, h3, h4⟩ := h
  exact ⟨p, x, y, h1, s.seq h2, h3.tp s, h4.tp s⟩
theorem Stk.tp (s : Tp H H') {vs : List V} {l : List (Fm × Fm)} (h : Stk K H vs l) : Stk K H' vs l := by
  induction h with
  | nil => exact .nil
  | push _ hp ih => exact .push ih (hp.tp s)
end
theorem last_at (vs : List V) (v : V) : (vs ++ [v])[(vs ++ [v]).length - 1]? = some v := by simp
/-! ### a table as data -/
def ent (e : List Nat × Fm) : PyData × PyData := (.str (SX.S e.1), e.2.dat)
theorem paired_perm {α β : Type} {R : α → β → Prop} {m n : List β} (p : m.Perm n) : ∀ {l : List α}, Paired R l m → ∃ k, l.Perm k ∧ Paired R k n := by
  induction p with
  | nil => intro l h; exact ⟨l, .refl _, h⟩
  | cons x _ ih =>
    intro l h
    cases h with
    | cons r t =>
      obtain ⟨k, h1, h2⟩ := ih t
      exact ⟨_, h1.cons _, .cons r h2⟩
  | swap x y l' =>
    intro l h
    cases h with
    | cons r t =>
      cases t with
      | cons r2 t2 => exact ⟨_, .swap _ _ _, .cons r2 (.cons r t2)⟩
  | trans _ _ ih1 ih2 =>
    intro l h
    obtain ⟨k, h1, h2⟩ := ih1 h
    obtain ⟨k2, h3, h4⟩ := ih2 h2
    exact ⟨k2, h1.trans h3, h4⟩
theorem paired_map {α β γ : Type} {R : α → β → Prop} {S : α → γ → Prop} (g : β → γ) (f : ∀ a b, R a b → S a (g b)) : ∀ {l : List α} {m : List β}, Paired R l m → Paired S l (m.map g)
  | _, _, .nil => .nil
  | _, _, .cons r t => .cons (f _ _ r) (paired_map g f t)
theorem tab_keys {K : PySem.W.Frag} {H : Hp} : ∀ {kvs : List (Key × V)} {m : Tab}, Paired (TR K H) kvs m → kvs.map (·.1) = m.map fun e => Sum.inr (SX.S e.1)
  | _, _, .nil => rfl
  | _, _, .cons r t => by rw [List.map_cons, List.map_cons, tab_keys t, r.1]
theorem fn_keys {m : Tab} (h : Fn m) : (m.map fun e => (Sum.inr (SX.S e.1) : Key)).Nodup := by
  induction m with
  | nil => exact List.nodup_nil
  | cons e r ih =>
    unfold Fn at h
    rw [List.map_cons, List.nodup_cons] at h
    rw [List.map_cons, List.nodup_cons]
    refine ⟨fun z => ?_, ih h.2⟩
    obtain ⟨e', h1, h2⟩ := List.mem_map.mp z
    exact h.1 (List.mem_map.mpr ⟨e', h1, (key_S _ _).mp h2⟩)
theorem da_tab {K : PySem.W.Frag} {H : Hp} {T : Addr} {m1 m2 : Tab} (h : TabAt K H T m1) (p : m1.Perm m2) (n : Fn m1) : Da K H (.ref T) (.dict (m2.map ent)) := by
  obtain ⟨kvs, h1, h2⟩ := h
  obtain ⟨k, h3, h4⟩ := paired_perm p h2
  exact .dic h1 h3 (by rw [tab_keys h2]; exact fn_keys n) (paired_map ent (fun _ _ z => ⟨by rw [z.1]; rfl, z.2⟩) h4)
theorem oka_tab {ws hs : List (List Nat)} {N n : Nat} {m : Tab} (hw : ∀ c ∈ hs, Low c) (h : TOk ws hs N m) (hl : hs.length < 64) (hn : N + 1 ≤ n) (up : ∀ (t : Fm), okF ws [] N t → oka n t.dat = true) : oka (n + 1) (.dict (m.map ent)) = true := by
  simp only [oka, Bool.and_eq_true, decide_eq_true_eq, List.all_eq_true, List.length_map]
  refine ⟨?_, fun e he => ?_⟩
  · have z := nodup_le (k := hs) h.1 fun x hx => by
      obtain ⟨e, he, rfl⟩ := List.mem_map.mp hx
      exact (h.2 e he).1
    rw [List.length_map] at z
    omega
  · obtain ⟨p, hp, rfl⟩ := List.mem_map.mp he
    exact ⟨low_lay (hw _ (h.2 p hp).1), up _ (h.2 p hp).2⟩
theorem okF_oka {ws hs : List (List Nat)} {N n : Nat} {t : Fm} (h : okF ws hs N t) (hn : N ≤ n) : oka (n + 1) t.dat = true := ok_oka (h.le hn)
theorem sz_pow {ws hs : List (List Nat)} : ∀ {n : Nat} {t : Fm}, okF ws hs n t → sz t + 1 ≤ 2 ^ n
  | 0, _, h => h.elim
  | n + 1, .fls, _ => by have : 1 ≤ 2 ^ n := Nat.one_le_two_pow; simp only [sz, Nat.pow_succ]; omega
  | n + 1, .atom _, _ => by have : 1 ≤ 2 ^ n := Nat.one_le_two_pow; simp only [sz, Nat.pow_succ]; omega
  | n + 1, .hole _, _ => by have : 1 ≤ 2 ^ n := Nat.one_le_two_pow; simp only [sz, Nat.pow_succ]; omega
  | n + 1, .bin _ a b, h => by
    have h1 := sz_pow h.1
    have h2 := sz_pow h.2
    simp only [sz, Nat.pow_succ]
    omega
theorem sz_le {ws hs : List (List Nat)} {n : Nat} {t : Fm} (h : okF ws hs n t) (hn : n ≤ 9 := by decide) : sz t ≤ 900 := by
  have z := sz_pow (h.le hn)
  have : 2 ^ 9 = 512 := by decide
  omega
theorem vals_rev {zs : List V} {ws : List Value} (r : Vals zs ws) : Vals zs.reverse ws.reverse := by
  induction r with
  | nil => exact .nil
  | cons h _ ih =>
    rw [List.reverse_cons, List.reverse_cons]
    exact Vals.append ih (.cons h .nil)
end Ag
namespace Ag
open PySem PySem.Spec PyProof.Rows L2
/-! ### what the program holds for a formula, for a shape -/
def Sml : Fm → Prop
  | .fls => True
  | .atom w => w.length ≤ 1000
  | .hole c => c.length ≤ 1000
  | .bin _ a b => Sml a ∧ Sml b
def isB : Nat → Bool → Fm → Bool
  | 0, _, _ => false
  | _ + 1, _, .fls => true
  | _ + 1, _, .atom w => isNm w
  | _ + 1, h, .hole c => h && isLet c
  | d + 1, h, .bin _ a b => isB d h a && isB d h b
theorem isB_ok {ws hs : List (List Nat)} {h : Bool} (hw : ∀ w ∈ ws, isNm w = true) (hh : ∀ c ∈ hs, (h && isLet c) = true) : ∀ {n : Nat} {t : Fm}, okF ws hs n t → isB n h t = true
  | 0, _, z => z.elim
  | _ + 1, .fls, _ => rfl
  | _ + 1, .atom w, z => hw w z
  | _ + 1, .hole c, z => hh c z
  | n + 1, .bin _ a b, z => by
    show (isB n h a && isB n h b) = true
    rw [isB_ok hw hh z.1, isB_ok hw hh z.2]
    rfl
theorem isB_up {h : Bool} : ∀ {n : Nat} {t : Fm}, isB n h t = true → isB (n + 1) h t = true
  | 0, _, z => by cases z
  | _ + 1, .fls, _ => rfl
  | _ + 1, .atom w, z => z
  | _ + 1, .hole c, z => z
  | n + 1, .bin _ a b, z => by
    have z' : (isB n h a && isB n h b) = true := z
    rw [Bool.and_eq_true] at z'
    show (isB (n + 1) h a && isB (n + 1) h b) = true
    rw [isB_up z'.1, isB_up z'.2]
    rfl
theorem isB_le {h : Bool} {n m : Nat} {t : Fm} (z : isB n h t = true) (e : n ≤ m) : isB m h t = true := by
  induction e with
  | refl => exact z
  | step _ ih => exact isB_up ih
theorem sml_ok {ws hs : List (List Nat)} (hw : ∀ w ∈ ws, w.length ≤ 1000) (hh : ∀ c ∈ hs, c.length ≤ 1000) : ∀ {n : Nat} {t : Fm}, okF ws hs n t → Sml t
  | 0, _, z => z.elim
  | _ + 1, .fls, _ => trivial
  | _ + 1, .atom w, z => hw w z
  | _ + 1, .hole c, z => hh c z
  | n + 1, .bin _ a b, z => ⟨sml_ok hw hh z.1, sml_ok hw hh z.2⟩
theorem shaped_bin {k : Fin 3} {a b : Fm} (h : SeqAt.shaped (Fm.bin k a b).dat = true) : SeqAt.shaped a.dat = true ∧ SeqAt.shaped b.dat = true := by
  unfold SeqAt.shaped at h ⊢
  rw [Bool.and_eq_true, decide_eq_true_eq] at h
  have h1 : (PyData.canLay0 (.str (kd k)) && (PyData.canLay0 a.dat && (PyData.canLay0 b.dat && true))) = true := h.1
  have h2 : max 0 (max (PyData.depth a.dat) (max (PyData.depth b.dat) 0)) + 1 ≤ 64 := h.2
  simp only [Bool.and_eq_true, Bool.and_true] at h1
  rw [h1.2.1, h1.2.2, decide_eq_true (by omega), decide_eq_true (by omega)]
  exact ⟨rfl, rfl⟩
end Ag

namespace Ag
open PySem PySem.Spec PyProof.Rows L2
/-! ### a call that hands over values which read the cells of this def -/
structure PinsOf (X : Cx) (σ : L2.St) (l : Pins) : Prop where
  at_ : ∀ x c, X.env.cells.lookup x = some c → ∃ o v, l.lookup c = some o ∧ o.data = .cell v
  val : ∀ (i : Nat) (x : Str) (v : V), X.N[i]? = some x → σ[i]? = some (some v) → X.env.scope.names.lookup x = some .cell ∨ X.env.scope.names.lookup x = some .free → ∃ c o u, X.env.cells.lookup x = some c ∧ l.lookup c = some o ∧ o.data = .cell (some u) ∧ RelV v u
theorem lookup_mem {α β : Type} [BEq α] [LawfulBEq α] : ∀ {l : List (α × β)} {a : α} {b : β}, l.lookup a = some b → (a, b) ∈ l
  | (k, v) :: r, a, b, h => by
    rw [List.lookup_cons] at h
    cases e : a == k with
    | true =>
      rw [e] at h
      cases h
      rw [eq_of_beq e]
      exact List.mem_cons_self
    | false =>
      rw [e] at h
      exact List.mem_cons_of_mem _ (lookup_mem h)
theorem lookup_has {α β : Type} [BEq α] [LawfulBEq α] : ∀ {l : List (α × β)} {a : α} {b : β}, (a, b) ∈ l → ∃ b', l.lookup a = some b'
  | (k, v) :: r, a, b, h => by
    rw [List.lookup_cons]
    cases e : a == k with
    | true => exact ⟨_, rfl⟩
    | false =>
      rcases List.mem_cons.mp h with z | z
      · cases z
        simp at e
      · exact lookup_has z
/-- the cells' objects -/
def cpins (cells : List (Str × Addr)) (h : Heap) : Pins := cells.filterMap fun p => if cells.lookup p.1 = some p.2 then (h.get? p.2).map fun ob => (p.2, ob) else none
theorem pins_lookup {cells : List (Str × Addr)} {h : Heap} {b : Addr} {o : Obj} (e : (cpins cells h).lookup b = some o) : h.get? b = some o ∧ ∃ x, cells.lookup x = some b := by
  obtain ⟨p, hp, e2⟩ := List.mem_filterMap.mp (lookup_mem e)
  split at e2
  · rename_i q
    obtain ⟨ob, h1, h2⟩ := Option.map_eq_some_iff.mp e2
    cases h2
    exact ⟨h1, p.1, q⟩
  · cases e2
section
variable {X : Cx} {pins : List (Addr × Obj)} {σ : L2.St} {H : Hp} {s : Shared}
theorem cell_pins (I : Inv X pins σ H s) (hfn : ∀ x, X.fn x = true) : ∃ l : Pins, (∀ b o, l.lookup b = some o → s.heap.get? b = some o ∧ H b = none ∧ X.base.get? b = none ∧ b ∉ frs X.stack) ∧ PinsOf X σ l := by
  have lk : ∀ {x c}, X.env.cells.lookup x = some c → ∃ o v, (cpins X.env.cells s.heap).lookup c = some o ∧ o.data = .cell v := fun {x c} z => by
    obtain ⟨v, o, h1, h2⟩ := I.cell x c z
    obtain ⟨o2, h3⟩ := lookup_has (l := cpins X.env.cells s.heap) (a := c) (b := o) (List.mem_filterMap.mpr ⟨(x, c), lookup_mem z, by
      show (if X.env.cells.lookup x = some c then (s.heap.get? c).map fun ob => (c, ob) else none) = some (c, o)
      rw [if_pos z, h1]
      rfl⟩)
    have h4 := (pins_lookup h3).1
    rw [h1] at h4
    cases h4
    exact ⟨o, v, h3, h2⟩
  refine ⟨cpins X.env.cells s.heap, fun b o e => ?_, ⟨fun x c z => lk z, fun i x v h1 h2 h3 => ?_⟩⟩
  · obtain ⟨h1, x, hx⟩ := pins_lookup e
    have ab := I.ok.cab x b (hfn x) hx
    refine ⟨h1, I.freeC x b hx, ?_, fun hm => ?_⟩
    · cases q : X.base.get? b with
      | none => rfl
      | some ob => exact absurd (Heap.lt_size q) (Nat.not_lt.mpr (Nat.le_trans I.ok.bsz ab))
    · rcases List.mem_cons.mp (I.stkSub b hm) with z | z
      · exact I.cne x b hx z
      · obtain ⟨_, ob, ho, _⟩ := I.ok.funs.mem z
        exact absurd (Heap.lt_size ho) (Nat.not_lt.mpr ab)
  · obtain ⟨m, hn, hl⟩ := I.loc
    obtain ⟨u, ru, q⟩ := hl i x v h1 h2 (.inr h3)
    rcases q with ⟨k, _⟩ | ⟨_, c, k, o, h5, h6⟩
    · have k2 : X.env.scope.names.lookup x = some .local := k
      rcases h3 with z | z <;> (rw [z] at k2; cases k2)
    · obtain ⟨o2, v2, h7, h8⟩ := lk k
      have h9 := (pins_lookup h7).1
      rw [h5] at h9
      cases h9
      exact ⟨c, o, u, k, h7, h6, ru⟩
end
/-- from the maker's cells to those of a lambda -/
theorem cells_in {X : Cx} {σ : L2.St} {l : Pins} {scope : Scope} {N : List Str} {τ : L2.St} (ok : X.Ok) (P : PinsOf X σ l) (hf : ∀ y ∈ scope.names, y.2 = .free → X.env.scope.names.lookup y.1 = some .cell ∨ X.env.scope.names.lookup y.1 = some .free)
    (hs : ∀ (i : Nat) (x : Str) (v : V), N[i]? = some x → τ[i]? = some (some v) → ∃ j : Nat, X.N[j]? = some x ∧ σ[j]? = some (some v)) : CellsIn N τ scope (cloFrom X.env.cells scope.names []) l := by
  have has : ∀ y ∈ scope.names, y.2 = .free → ∃ c, X.env.cells.lookup y.1 = some c := fun y hy e => ok.has _ (hf y hy e)
  have down : ∀ {x c}, (cloFrom X.env.cells scope.names []).lookup x = some c → X.env.cells.lookup x = some c := fun {x c} e => by
    rcases cloFrom_mem (PySem.mem_of_lookup e) with z | ⟨z1, z2⟩
    · cases z
    · obtain ⟨c1, hc⟩ := has _ z1 rfl
      have hc2 : X.env.cells.lookup x = some c1 := hc
      rw [z2, hc2]
      rfl
  have up : ∀ {x}, (x, NameKind.free) ∈ scope.names → ∃ c, (cloFrom X.env.cells scope.names []).lookup x = some c := fun {x} hy => mem_lookup (cloFrom_has (cells := X.env.cells) (acc := []) hy)
  refine ⟨fun x y c h1 h2 => ok.inj x y c (down h1) (down h2), fun y hy e => ?_, fun x c e => P.at_ x c (down e), fun i x v h1 h2 h3 => ?_⟩
  · obtain ⟨n, kd⟩ := y
    have e2 : kd = .free := e
    subst e2
    exact up hy
  · obtain ⟨j, g1, g2⟩ := hs i x v h1 h2
    have hm := PySem.mem_of_lookup h3
    obtain ⟨c, o, u, k1, k2, k3, k4⟩ := P.val j x v g1 g2 (hf _ hm rfl)
    obtain ⟨c2, hc2⟩ := up hm
    have := down hc2
    rw [k1] at this
    cases this
    exact ⟨c, o, u, hc2, k2, k3, k4⟩
/-- f(..), while the cells' objects are known to the letter -/
def tCallC (X : Cx) (sp : Sp) (t : TA) : TE := fun σ H Q => t σ H fun vs H1 => ∀ l : Pins, X.Ok → PinsOf X σ l → (∀ b o, l.lookup b = some o → H1 b = none) → sp vs (addp H1 l) (fun v H2 => (∀ b o, l.lookup b = some o → H2 b = some (pinO b o)) ∧ Q v (remp H2 l)) L2.E0
theorem pe_callC {X : Cx} {k : Nat} {f : Addr} {fd : FuncData} {ps : List Str} {sp : Sp} {x : Str} {p pos : Pos} {e : Expr} {es : List Expr} {t : TA} (F : FnOk X.prog X.w X.K X.mg X.base L2.CX0 k f fd ps sp) (room : Room k X.A) (hfn : ∀ x, X.fn x = true) (hg : Gl X x) (hm : X.mg x = some (.ref f)) (hk : PySem.W.keepIn X.K (.ref f) = true)
    (bi : Binds X.K fd ps []) (ha : PA X (e :: es) t) (hdb : (x == ("__debug__" : Str)) = false := by decide)
    (h1 : starEach (e :: es) X.env = (false, eval e X.env) :: starEach es X.env := by rfl) (h2 : (backTo pos (starEach es X.env)).any (·.1) = false := by rfl) :
    PE X (.Call (.Name x p) (e :: es) [] pos) (tCallC X sp t) := by
  refine ⟨fun pins s σ H Q I h => wpAny_Call_Name_kw (ld_glob I hg hm ?_ hdb)⟩
  refine PySem.W.callWith_K (h₀ := X.base) I.ok.mod.kin hk (thn (ha.run pos pins s σ H _ I h) fun us s1 ⟨vs, H1, J, rv, hsp⟩ => ⟨J.kIn, ?_⟩) h1 h2
  obtain ⟨l, hl, hp⟩ := cell_pins J hfn
  have sp1 := hsp l J.ok hp fun b o z => (hl b o z).2.1
  have ln : us.length = ps.length := (Vals.length rv).symm.trans (F.len _ _ _ _ sp1)
  have b := bi s1 us J.kIn (by rw [List.append_nil]; exact ln)
  rw [List.append_nil] at b
  refine wpAny_call (codeAny_mono (F.run X.A X.stack s1 (addp H1 l) ⟨us, []⟩ us vs _ _ room (env0_add J.env0 hl) b rv sp1) fun r s2 z => ?_)
  match r, z with
  | .ok (.ret u), z => exact J.after (ce_rem (fun b o q => ⟨(hl b o q).1, (hl b o q).2.1, (hl b o q).2.2.2⟩) (fun v H2 q => q) z)
end Ag

namespace Ag
open PySem PySem.Spec PyProof.Rows L2
open AutoSeq1 (wpAny_loadPart')
/-! ### enumerate over a tuple -/
theorem meets_enumT (l : Addr) (items : Array Value) (n : Nat) (dct : Option Addr) (sl : Array (Option Value)) :
    Meets (Builtin.«enumerate.__new__» ⟨[.type "enumerate", .ref l], []⟩) (fun _ R s => s.heap.get? l = some { cls := .type "tuple", dict := dct, data := .seq items n, slots := sl } ∧
      R (.ok (.ret (.ref (s.heap.push { cls := .type "tuple_iterator", data := .fields #[.ref l, .int 0 0] }).objs.size)))
        { s with heap := (s.heap.push { cls := .type "tuple_iterator", data := .fields #[.ref l, .int 0 0] }).push { cls := .type "enumerate", data := .fields #[.none, .bool false, .ref s.heap.objs.size, rawInt 0, .none, .none] } }) :=
  .of_wp fun prog w A R s h => by
    obtain ⟨hp, g, d, tk, os⟩ := s; obtain ⟨hl, h⟩ := h
    have hsub := sub_enumerate
    have hL : Heap.IsTuple (Shared.heap ⟨hp, g, d, tk, os⟩) l items := ⟨_, hl, rfl, n, rfl⟩
    wp_walk using wpAny_loadPart' hl
    refine wpAny_stack_any fun st => wpAny_pure ?_
    split
    · rename_i c _ _ _ _ _
      cases (c == Value.type "enumerate")
      · wp_walk using wpAny_loadPart' hl, wpAny_pyIter_tuple hL
        exact ⟨_, rfl, h⟩
      · wp_walk using wpAny_loadPart' hl, wpAny_pyIter_tuple hL
        exact ⟨_, rfl, h⟩
    · wp_walk using wpAny_loadPart' hl, wpAny_pyIter_tuple hL
      exact ⟨_, rfl, h⟩
section
variable {prog : Program} {w : World} {A : Around} {E : Value → Shared → Prop} {s : Shared}
theorem call_enumT {l : Addr} {items : Array Value} {Q : Value → Shared → Prop} (hL : IsTup s.heap l items)
    (h : ∀ h', IsEnum h' (s.heap.objs.size + 1) s.heap.objs.size 0 .none → h'.IsTupleIter s.heap.objs.size l 0 → h'.objs.size = s.heap.objs.size + 2 →
      (∀ b o, s.heap.get? b = some o → h'.get? b = some o) → Q (.ref (s.heap.objs.size + 1)) { s with heap := h' }) :
    wpAny (model prog w) A (call (.type "enumerate") [.ref l]) Q E s := by
  obtain ⟨⟨c, dct, dt, sl⟩, hl, hc, n, hd⟩ := hL
  replace hc : c = .type "tuple" := hc
  replace hd : dt = .seq items n := hd
  subst hc hd
  refine callType_new F.called_enumerate (by decide) (F.typeCall_enumerate_1 _) (F.newCall_enumerate_1 _) (fun obj => F.args_object_init_2 obj _) F.entry_enumerate_new
    (meets_enumT l items n dct sl) ⟨hl, ?_⟩
  have hz : (s.heap.push { cls := .type "tuple_iterator", data := .fields #[.ref l, .int 0 0] }).objs.size = s.heap.objs.size + 1 := Heap.size_push ..
  show _ ∧ _
  rw [hz]
  have he : IsEnum ((s.heap.push { cls := .type "tuple_iterator", data := .fields #[.ref l, .int 0 0] }).push
      { cls := .type "enumerate", data := .fields #[.none, .bool false, .ref s.heap.objs.size, rawInt 0, .none, .none] }) (s.heap.objs.size + 1) s.heap.objs.size 0 .none := by
    have := Heap.get?_push_size (s.heap.push { cls := .type "tuple_iterator", data := .fields #[.ref l, .int 0 0] })
      (o := { cls := .type "enumerate", data := .fields #[.none, .bool false, .ref s.heap.objs.size, rawInt 0, .none, .none] }) rfl
    rw [hz] at this; exact this
  refine ⟨⟨_, he, rfl⟩, h _ he ⟨_, Heap.get?_push_of_some _ (Heap.get?_push_size _ rfl), rfl, rfl⟩ (by rw [Heap.size_push, hz]) fun b o x => Heap.get?_push_of_some _ (Heap.get?_push_of_some _ x)⟩
end
section
variable {prog : Program} {w : World} {A : Around} {E : Value → Shared → Prop} {s : Shared}
theorem enumT_end {e it t : Addr} {i : Nat} {c : Int} {items : Array Value} {old : Value} {Q : Option Value → Shared → Prop} (hh : A.handled = none) (he : IsEnum s.heap e it c old) (hit : s.heap.IsTupleIter it t i) (ht : s.heap.IsTuple t items) (hx : items[i]? = none)
    (hQ : ∀ h', Heap.ExtBut it s.heap h' → Q none { s with heap := h' }) : wpAny (model prog w) A (pyNext (.ref e)) Q E s := by
  have hT : s.TypeIs (.ref e) "enumerate" := ⟨_, he, rfl⟩
  unfold pyNext
  refine wpAny_bind (wpAny_attempt (wpAny_callSpecial?_slot (name := Str.ofString "__next__") hT F.slot_enumerate_next (wpAny_call_entry F.slot_enumerate_next hT F.entry_enumerate_next ?_ (F.args_enumerate_next_1 _))))
  show wpAny _ _ (field (.ref e) 2 >>= _) _ _ _
  refine wpAny_bind (wpAny_field he rfl (x := .ref it) rfl ?_)
  refine wpAny_bind (wpAny_nextOf_tuple_end hh hit ht hx fun h' x he' hx' => ?_)
  obtain ⟨o, ho, hc⟩ := hx'
  refine wpAny_bind (wpAny_isInstance (T := "StopIteration") (b := true) ⟨o, ho, hc⟩ isSubtype_stop ?_)
  exact wpAny_pure (hQ _ he')
end
def IteT (K : PySem.W.Frag) (a : Addr) : It :=
  ⟨fun i H => ∃ (xs : List V) (x : V), SqT K H a xs ∧ xs[i]? = some x, fun i H v H' => ∃ T x, v = .ref T ∧ H T = none ∧ H' = upd H T (.tup [.int (i : Nat), x]) ∧ ∀ xs, SqT K H a xs → xs[i]? = some x, fun i H => ∃ xs : List V, SqT K H a xs ∧ xs.length ≤ i⟩
theorem turn_enumT {P : Program} {w : World} {K : PySem.W.Frag} {elts : List Expr} {kk : Nat} {tpos : Pos} (a e it : Addr) (hai : a ≠ it) :
    Turn P w K (.Tuple elts kk tpos) (IteT K a) [e, it] e (fun i h => (∃ old, IsEnum h e it ((i : Nat) : Int) old) ∧ h.IsTupleIter it a i ∧ e ≠ it ∧ e ≠ a) where
  mem := by simp
  obj := fun i h st b hb => by
    obtain ⟨⟨old, he⟩, ⟨o, ho, hc, hd⟩, _⟩ := st
    have e' : b = e ∨ b = it := by simpa using hb
    rcases e' with z | z
    · rw [z]; exact ⟨_, he, fun v q => nomatch q⟩
    · rw [z]; exact ⟨o, ho, fun v q => by rw [hd] at q; cases q⟩
  keep := fun i h h' st k => let ⟨⟨old, he⟩, hi, hne⟩ := st; ⟨⟨old, k e (by simp) _ he⟩, hi.at fun o q => k it (by simp) o q, hne⟩
  item := by
    intro X hP hw hK hc i pins s σ H E I hf st hg
    subst hP hw hK
    obtain ⟨⟨old, he⟩, hit, hne, hea⟩ := st
    obtain ⟨xs, x, hq, hx⟩ := hg
    obtain ⟨its, rv, p, hz⟩ := I.tuple hq
    obtain ⟨u, hu, ru⟩ := rv.get hx
    have hel : e < s.heap.objs.size := Heap.lt_size he
    have hil : it < s.heap.objs.size := by obtain ⟨_, q, _⟩ := hit; exact Heap.lt_size q
    have hlt : i < its.toArray.size := by
      have z := (List.getElem?_eq_some_iff.mp hu).1
      simpa using z
    have D := Draws.tuple (prog := X.prog) (w := X.w) (A := X.A.in1) (I.ok.hd hc) it a hai its.toArray
    refine wpAny_pyNext_enum_itemD D he ⟨hit, p⟩ hlt hne (by simp; exact ⟨hne, hea⟩) fun x' h' tk hx' ho hst' hT hsz hk => ?_
    obtain rfl : x' = u := by
      have z : its.toArray[i]? = some u := by simpa using hu
      rw [z] at hx'
      exact (Option.some.inj hx').symm
    refine ⟨_, rfl, wpAny_letOwnedTupleGo_enum (s := { s with heap := h', toks := tk + 1 }) ho fun h'' he' sb => ?_⟩
    have hT2 : h''.get? s.heap.objs.size = some { cls := .type "tuple", data := .seq #[.int i tk, x'] } := (sb.2 _ (Nat.ne_of_gt hel)).trans hT
    have new : ObjOk X.prog X.w (upd H s.heap.objs.size (.tup [.int (i : Nat), x])) h'' s.heap.objs.size (.tup [.int (i : Nat), x]) :=
      ⟨by show 2 ≤ sizeLine; decide, [.int i tk, x'], .cons ⟨_, rfl⟩ (.cons ru .nil), ⟨_, hT2, rfl, _, rfl⟩⟩
    have I1 : Inv X pins σ (upd H s.heap.objs.size (.tup [.int (i : Nat), x])) { s with heap := h'', toks := tk + 1 } :=
      I.turnedNew (ch := [e, it]) (fun b ob hb q => (sb.2 b (fun z => hb (by simp [z]))).trans (hk b ob (fun z => hb (by simp [z])) (fun z => hb (by simp [z])) q)) hf (Nat.le_refl _) new
    refine ⟨.ref s.heap.objs.size, _, I1, rfl, ⟨_, x, rfl, I.hok.fresh (Nat.le_refl _), rfl, fun ys hy => by rw [I.tuple_inj hy hq]; exact hx⟩, ⟨⟨x', ?_⟩, hst'.1.at fun o q => (sb.2 it (Ne.symm hne)).trans q, hne, hea⟩, fun b hb => ?_⟩
    · have e1 : ((i + 1 : Nat) : Int) = (i : Int) + 1 := by omega
      rw [e1]; exact he'
    · have hb' : b < s.heap.objs.size := by
        have e' : b = e ∨ b = it := by simpa using hb
        rcases e' with z | z
        · rw [z]; exact hel
        · rw [z]; exact hil
      rw [upd_ne (Nat.ne_of_lt hb')]
      exact (hf b hb).1
  done := by
    intro X hP hw hK hc i pins s σ H E I hf st hg
    subst hP hw hK
    obtain ⟨⟨old, he⟩, hit, hne, hea⟩ := st
    obtain ⟨xs, hq, hx⟩ := hg
    obtain ⟨its, rv, p, hz⟩ := I.tuple hq
    obtain ⟨f0, f1, f2, f3, f4, f5⟩ := hf it (by simp)
    have hl := rv.length
    exact enumT_end (I.ok.hd hc) he hit p (by simp; omega) fun h' eb => ⟨rfl, I.turned (t' := s.toks) (fun b o hb q => eb b o hb q) f0 f1 f3 f4 f5⟩
  self := fun A i s Q E st h => let ⟨⟨_, he⟩, _⟩ := st; wpAny_pyIter_enum he h
def iEnumA (K : PySem.W.Frag) (ta : TA) : TI := fun σ H R => ta σ H fun vs H1 => ∃ a xs, vs = [.ref a] ∧ ((SqL K H1 a xs ∧ R (Ite K a) H1) ∨ (SqT K H1 a xs ∧ R (IteT K a) H1))
theorem pi_enumA {X : Cx} {e : Expr} {ta : TA} {p pos tpos : Pos} {elts : List Expr} {kk : Nat} (hg : Gl X "enumerate") (hm : X.mg "enumerate" = none) (ha : PA X [e] ta) (hs : starEach [e] X.env = [(false, eval e X.env)] := by rfl) :
    PI X (.Tuple elts kk tpos) (.Call (.Name "enumerate" p) [e] [] pos) (iEnumA X.K ta) := by
  refine ⟨fun pins s σ H R I h => ?_⟩
  refine Call_ (ld_blt I hg hm boot_enumerate (PyProof.Rows.callWith_type1 (thn (ha.run pos pins s σ H _ I h) fun us s1 ⟨vs, H1, I1, r1, q1⟩ => ?_) hs rfl))
  obtain ⟨a, xs, ex, q⟩ := q1
  subst ex
  cases r1 with
  | cons r rr =>
    cases rr
    cases r
    have fp : ∀ b ∈ [s1.heap.objs.size + 1, s1.heap.objs.size], FpOk X pins H1 b := fun b hb => by
      have e' : b = s1.heap.objs.size + 1 ∨ b = s1.heap.objs.size := by simpa using hb
      have hle : s1.heap.objs.size ≤ b := by
        rcases e' with z | z
        · rw [z]; exact Nat.le_add_right _ _
        · rw [z]; exact Nat.le_refl _
      exact I1.fpOk hle (I1.hok.fresh hle)
    rcases q with ⟨hq, q⟩ | ⟨hq, q⟩
    · obtain ⟨its, rv, p', hz⟩ := I1.list hq
      refine call_enumerate_list p'.isList fun h' he hit hsz hk => wpAny_pyIter_enum he ?_
      have I2 : Inv X pins σ H1 { s1 with heap := h' } := I1.kept (t' := s1.toks) hk
      exact ⟨s1.heap.objs.size + 1, [s1.heap.objs.size + 1, s1.heap.objs.size], _, _, H1, rfl, I2, turn_enum a (s1.heap.objs.size + 1) s1.heap.objs.size, ⟨⟨.none, he⟩, hit, Nat.succ_ne_self _⟩, fp, q⟩
    · obtain ⟨its, rv, p', hz⟩ := I1.tuple hq
      refine call_enumT p' fun h' he hit hsz hk => wpAny_pyIter_enum he ?_
      have I2 : Inv X pins σ H1 { s1 with heap := h' } := I1.kept (t' := s1.toks) hk
      have hal : a < s1.heap.objs.size := by obtain ⟨o, z, _⟩ := p'; exact Heap.lt_size z
      exact ⟨s1.heap.objs.size + 1, [s1.heap.objs.size + 1, s1.heap.objs.size], _, _, H1, rfl, I2, turn_enumT a (s1.heap.objs.size + 1) s1.heap.objs.size (Nat.ne_of_lt hal), ⟨⟨.none, he⟩, hit, Nat.succ_ne_self _, fun z => by rw [← z] at hal; exact absurd hal (Nat.not_lt.mpr (Nat.le_succ _))⟩, fp, q⟩
theorem walk_enumT {K : PySem.W.Frag} {a : Addr} {xs : List V} : Walk (IteT K a) xs.length (fun H => SqT K H a xs) (YPair (fun i => some (.int (i : Nat))) (fun i => xs[i]?)) := by
  refine ⟨fun i _ hi q => ⟨xs, xs[i], q, by simp [hi]⟩, fun _ q => ⟨xs, q, Nat.le_refl _⟩, fun i H v H' _ q y => ?_⟩
  obtain ⟨T, x, h1, h2, h3, h4⟩ := y
  exact ⟨T, .int (i : Nat), x, h1, h2, h3, rfl, h4 xs q⟩
end Ag

namespace Ag
open PySem PySem.Spec PyProof.Rows L2
/-! ### rows and contexts -/
abbrev Row := List Nat × Fm
def rowD (r : Row) : PyData := .tuple [.str (SX.S r.1), r.2.dat]
def RowAt (K : PySem.W.Frag) (H : Hp) (v : V) (r : Row) : Prop := Dp K H v (rowD r)
section
variable {K : PySem.W.Frag} {H H' : Hp} {v : V} {r : Row}
theorem row_at (h : RowAt K H v r) : ∃ p x, v = .ref p ∧ SqT K H p [.str (SX.S r.1), x] ∧ Fr K H x r.2 := by
  cases h with
  | tup hp ha =>
    obtain ⟨x, y, rfl, hx, hy⟩ := dpall2 ha
    cases hx
    exact ⟨_, y, rfl, hp, hy⟩
theorem mk_row {p : Addr} {x : V} (h : SqT K H p [.str (SX.S r.1), x]) (hx : Fr K H x r.2) : RowAt K H (.ref p) r := .tup h (.cons (.str _) (.cons hx .nil))
theorem RowAt.same (s : Same H H') (h : RowAt K H v r) : RowAt K H' v r := Dp_same s h
theorem RowAt.tp (s : Tp H H') (h : RowAt K H v r) : RowAt K H' v r := by
  obtain ⟨p, x, rfl, sp, fx⟩ := row_at h
  exact mk_row (s.seq sp) (fx.tp s)
theorem RowAt.kp {b l : Addr} (k : Kp b H H') (g : Bag H b l) (h : RowAt K H v r) : RowAt K H' v r := by
  obtain ⟨p, x, rfl, sp, fx⟩ := row_at h
  exact mk_row (kp_tup k g sp) (fx.kp k g)
end
def RowsAt (K : PySem.W.Frag) (H : Hp) (vs : List V) (rs : List Row) : Prop := Paired (RowAt K H) vs rs
theorem RowsAt.same {K : PySem.W.Frag} {H H' : Hp} {vs : List V} {rs : List Row} (s : Same H H') (h : RowsAt K H vs rs) : RowsAt K H' vs rs := paired_imp (fun _ _ z => z.same s) h
theorem RowsAt.tp {K : PySem.W.Frag} {H H' : Hp} {vs : List V} {rs : List Row} (s : Tp H H') (h : RowsAt K H vs rs) : RowsAt K H' vs rs := paired_imp (fun _ _ z => z.tp s) h
theorem RowsAt.kp {K : PySem.W.Frag} {H H' : Hp} {vs : List V} {rs : List Row} {b l : Addr} (k : Kp b H H') (g : Bag H b l) (h : RowsAt K H vs rs) : RowsAt K H' vs rs := paired_imp (fun _ _ z => z.kp k g) h
theorem rows_at {K : PySem.W.Frag} {H : Hp} : ∀ {vs : List V} {rs : List Row}, RowsAt K H vs rs → ∀ {i : Nat} {v : V}, vs[i]? = some v → ∃ r, rs[i]? = some r ∧ RowAt K H v r
  | _, _, .nil, i, v, h => by simp at h
  | _, _, .cons z zs, 0, v, h => by
    simp at h
    subst h
    exact ⟨_, rfl, z⟩
  | _, _, .cons z zs, i + 1, v, h => by
    simp at h
    obtain ⟨r, e, q⟩ := rows_at (K := K) (H := H) zs h
    exact ⟨r, by simpa using e, q⟩
theorem rows_at2 {K : PySem.W.Frag} {H : Hp} : ∀ {vs : List V} {rs : List Row}, RowsAt K H vs rs → ∀ {i : Nat} {r : Row}, rs[i]? = some r → ∃ v, vs[i]? = some v ∧ RowAt K H v r
  | _, _, .nil, i, v, h => by simp at h
  | _, _, .cons z zs, 0, v, h => by
    simp at h
    subst h
    exact ⟨_, rfl, z⟩
  | _, _, .cons z zs, i + 1, v, h => by
    simp at h
    obtain ⟨r, e, q⟩ := rows_at2 (K := K) (H := H) zs h
    exact ⟨r, by simpa using e, q⟩
/-- whether the program takes it as a row -/
def isRw (r : Row) : Bool := isNm r.1 && isB 10 false r.2
/-- small enough to be looked at -/
structure Rok (r : Row) : Prop where
  len : r.1.length ≤ 1000
  sml : Sml r.2
  shp : SeqAt.shaped r.2.dat = true
  shr : SeqAt.shaped (rowD r) = true
theorem eqv_row (r s : Row) : PyData.eqv (rowD r) (rowD s) = decide (r = s) := by
  unfold rowD
  rw [eqv2, eqvStr, eqv_dat]
  have e : decide (SX.S r.1 = SX.S s.1) = decide (r.1 = s.1) := decS _ _
  rw [e]
  obtain ⟨a, b⟩ := r
  obtain ⟨c, d⟩ := s
  by_cases h1 : a = c <;> by_cases h2 : b = d <;> simp [h1, h2]
/-- the least places: the first that fits, each time -/
def gr (xs : List Row) : List Row → Nat → Option (List Nat)
  | [], _ => some []
  | r :: rs, at' => match (xs.drop at').findIdx? (fun x => decide (x = r)) with
    | none => none
    | some k => (gr xs rs (at' + k + 1)).map (fun ps => (at' + k) :: ps)
end Ag
namespace Ag
open PySem PySem.Spec PyProof.Rows L2
/-! ### what stands behind an own object -/
theorem insT {K : PySem.W.Frag} {H H' : Hp} {x C dx p : Addr} {fs : List (Str × V)} {ys : List V} (e : H x = some (.ins C dx fs)) (k : Kp x H H') (h : SqT K H p ys) : SqT K H' p ys := by
  rcases h with (h | ⟨o, h⟩) | h
  · exact .inl (.inl (k _ _ h (ne_of h e (by intro z; cases z))))
  · exact .inl (.inr ⟨o, k _ _ h (ne_of h e (by intro z; cases z))⟩)
  · exact .inr h
theorem insTp {H H' : Hp} {x C dx : Addr} {fs : List (Str × V)} (e : H x = some (.ins C dx fs)) (k : Kp x H H') : Tp H H' := fun p xs h => by
  rcases h with h | ⟨o, h⟩
  · exact .inl (k _ _ h (ne_of h e (by intro z; cases z)))
  · exact .inr ⟨o, k _ _ h (ne_of h e (by intro z; cases z))⟩
/-- an own object with the tuple at a as its rows -/
def HeldAt (C : Addr) (H : Hp) (x a : Addr) : Prop := ∃ dx, H x = some (.ins C dx [("held", .ref a)])
theorem HeldAt.same {C : Addr} {H H' : Hp} {x a : Addr} (s : Same H H') (h : HeldAt C H x a) : HeldAt C H' x a := by
  obtain ⟨dx, e⟩ := h
  exact ⟨dx, s _ _ e⟩
def CtxAt (K : PySem.W.Frag) (C : Addr) (H : Hp) (x : Addr) (rs : List Row) : Prop := ∃ a vs, HeldAt C H x a ∧ SqT K H a vs ∧ RowsAt K H vs rs
theorem CtxAt.same {K : PySem.W.Frag} {C : Addr} {H H' : Hp} {x : Addr} {rs : List Row} (s : Same H H') (h : CtxAt K C H x rs) : CtxAt K C H' x rs := by
  obtain ⟨a, vs, h1, h2, h3⟩ := h
  exact ⟨a, vs, h1.same s, sameT s h2, h3.same s⟩
def RowsIn (K : PySem.W.Frag) (H : Hp) (p : Addr) (ys : List V) : Prop := SqL K H p ys ∨ SqT K H p ys
theorem RowsIn.same {K : PySem.W.Frag} {H H' : Hp} {p : Addr} {ys : List V} (s : Same H H') (h : RowsIn K H p ys) : RowsIn K H' p ys := h.elim (fun z => .inl (s.seq z)) fun z => .inr (sameT s z)
theorem lk1 {a : Addr} : ([("held", V.ref a)] : List (Str × V)).lookup ("held" : Str) = some (.ref a) := by
  show (putF "held" (.ref a) []).lookup ("held" : Str) = some (.ref a)
  rw [lookup_putF, if_pos rfl]
/-- what the walks ask of the two classes as the top has made them -/
structure CtxM (K : PySem.W.Frag) (mg : Str → Option Value) (CK CC fK fC : Addr) (mc : Value) : Prop where
  cK : Cls K CK
  cC : Cls K CC
  nK : NoAttr K CK "held"
  nC : NoAttr K CC "held"
  gK : mg "KnownRows" = some (.ref CK)
  gC : mg "Context" = some (.ref CC)
  kK : Mk K CK fK
  kC : Mk K CC fC
  il : PySem.W.kitOne K (.type "list") (.ref CK) = some false
  it : PySem.W.kitOne K (.type "tuple") (.ref CK) = some false
  ik : PySem.W.kitOne K (.ref CK) (.ref CK) = some true
  ha : PySem.W.findIn K (.ref CK) "__class__" = some (some (.builtin "object.__class__"))
  hn : PySem.W.specialIn K (.builtin "object.__class__") "__get__" = some (some (.builtin "getset_descriptor.__get__"))
  tk : PySem.W.takesIn K (.builtin "object.__class__") = some true
  mr : PySem.W.mroIn K CK (.type "object") = some true
  rd : ClX.CRead K CC mc
  mo : ∃ u, ClX.CVal K CC mc "MOST" (.int 40) u
  isi : mg "isinstance" = none
  len : mg "len" = none
  tuple : mg "tuple" = none
  enum : mg "enumerate" = none
end Ag
namespace Ag
open PySem PySem.Spec PyProof.Rows L2
/-! ### the least places -/
/-- the first place from a on at which r stands -/
structure Fit (xs : List Row) (r : Row) (a k : Nat) : Prop where
  le : a ≤ k
  at_ : xs[k]? = some r
  no : ∀ j, a ≤ j → j < k → xs[j]? ≠ some r
inductive Gr (xs : List Row) : List Row → Nat → Option (List Nat) → Prop
  | nil (a : Nat) : Gr xs [] a (some [])
  | none {r : Row} {rs : List Row} {a : Nat} (h : ∀ j, a ≤ j → xs[j]? ≠ some r) : Gr xs (r :: rs) a none
  | some {r : Row} {rs : List Row} {a k : Nat} {o : Option (List Nat)} (h : Fit xs r a k) (t : Gr xs rs (k + 1) o) : Gr xs (r :: rs) a (o.map (k :: ·))
theorem pre_map (o : Option (List Nat)) (ps : List Nat) (k : Nat) : (o.map (k :: ·)).map (ps ++ ·) = o.map ((ps ++ [k]) ++ ·) := by
  cases o with
  | none => rfl
  | some l => simp
end Ag
namespace Ag
open PySem PySem.Spec PyProof.Rows L2
theorem lk0 {m : Str} {a : Addr} (h : ¬ m = "held") : ([("held", V.ref a)] : List (Str × V)).lookup m = none := by
  show (putF "held" (.ref a) []).lookup m = none
  rw [lookup_putF, if_neg h]
  rfl
end Ag

namespace Ag
open PySem PySem.Spec PyProof.Rows L2
/-! ### o.m(k = v, ..), nothing by position -/
def tMethW (C : Addr) (m : Str) (n : Nat) (sp : Sp) (gV : List V → List V → List V) (E : XK) (ta : TE) (tk : TA) : TE := fun σ H Q => ta σ H fun x H1 => ∃ a dx fs, x = .ref a ∧ H1 a = some (.ins C dx fs) ∧ fs.lookup m = none ∧
  tk σ H1 fun zs H2 => zs.length = n ∧ sp (gV [x] zs) H2 Q E
theorem pe_methW {X : Cx} {CX : CXT} {k : Nat} {f C : Addr} {fd : FuncData} {ps ks : List Str} {sp : Sp} {E : XK} {m : Str} {apos pos : Pos} {o : Expr} {kws : List Keyword} {ta : TE} {tk : TA} {g : List Value → List Value → List Value} {gV : List V → List V → List V} {pl : Sem Bool}
    (he : PE X o ta) (c : Cls X.K C) (hm : Meth X.K C m f) (F : FnOk X.prog X.w X.K X.mg X.base CX k f fd ps sp) (hr : Room k X.A) (hb : KBn X.K fd ps 1 ks g gV) (hx : Passes CX X E) (hkw : PK X kws tk)
    (hall : (backToKw pos (keywordEach kws X.env)).all (·.1.isSome) = true := by rfl) (hks : (backToKw pos (keywordEach kws X.env)).filterMap (·.1) = ks := by rfl)
    (hpl : ((backTo pos (starEach [] X.env)).any (·.1) || (backToKw pos (keywordEach kws X.env)).any (·.1.isNone)) = false := by rfl)
    (ht : eval (.Call (.Attribute o m apos) [] kws pos) X.env = (do
      let ov ← eval o X.env
      standAt apos.atName
      let (f, first) ← holding [ov] (getMethod ov m pl)
      callWith pos f first (backTo pos (starEach [] X.env)) (backToKw pos (keywordEach kws X.env))) := by rfl) :
    PE X (.Call (.Attribute o m apos) [] kws pos) (tMethW C m ks.length sp gV E ta tk) := by
  refine ⟨fun pins s σ H Q I h => ?_⟩
  refine PySem.W.methodCall_KW (pl := pl) (thn (he.run pins s σ H _ I h) fun u s1 ⟨x, H1, I1, rx, a, dx, fs, ex, ea, l, q⟩ => ?_) ht
  subst ex
  obtain rfl : u = Value.ref a := rx
  refine getmeth_ok I1 ea c hm l ?_
  refine PySem.W.callWith_KW0 (first := [.ref a]) (h₀ := X.base) I.ok.mod.kin hm.kp hall ?_ hpl
  refine thn (hkw.run pos pins s1 σ H1 _ I1 q) fun ws s2 ⟨zs, H2, I2, rz, l2, q2⟩ => ⟨I2.kIn, ?_⟩
  rw [hks]
  exact run_fnN (us := [.ref a]) (vs := [.ref a]) F hr hb hx I2 (.cons rfl .nil) rz rfl l2 q2
/-! ### min of a list of lists of numbers -/
theorem lay_ints : ∀ b : List Int, PyData.canLayAll0 (b.map PyData.int) = true
  | [] => by simp only [List.map_nil, PyData.canLayAll0]
  | z :: zs => by simp only [List.map_cons, PyData.canLayAll0, PyData.canLay0, lay_ints zs, Bool.and_self]
open PySem.W in
theorem call_minLL {X : Cx} (hh : X.A.handled = none) (hu : X.A.units + 64 < cLine) : CallR X (.builtin "min") (fun xs H Q => ∃ (l : Addr) (vs : List V) (a : List Int) (r : List (List Int)), xs = [.ref l] ∧ SqL X.K H l vs ∧ DpAll X.K H vs ((a :: r).map Datum.toD) ∧
    ∀ v, v ∈ vs → Dp X.K H v (Datum.toD (minOf a r)) → Q v H) := by
  intro pins s σ H xs us Q I rr h
  obtain ⟨l, vs, a, r, rfl, hq, hd, q⟩ := h
  obtain ⟨u, rfl, rx⟩ := vals1 rr
  cases rx
  obtain ⟨its, rv, p, hz⟩ := I.list hq
  obtain ⟨as, ra⟩ := Dp.readsAll I _ vs its hd rv
  refine min_list_data hh p.isList ra (alikeAll_datum (a :: r)) (room_all (depthAll_map (a :: r)) ?_) fun i v h' tk bs hi rd hk => ?_
  · show X.A.units + 1 + Datum.depth (List Int) < cLine
    have e : Datum.depth (List Int) = 1 := rfl
    omega
  · have hi' : its[i]? = some v := by simpa using hi
    have hl := (List.getElem?_eq_some_iff.mp hi').1
    have hl2 : i < vs.length := by rw [rv.length]; exact hl
    obtain ⟨x, ex⟩ : ∃ x, vs[i]? = some x := ⟨_, List.getElem?_eq_getElem hl2⟩
    obtain ⟨u, hu', ru⟩ := rv.get ex
    rw [hi'] at hu'
    cases hu'
    obtain ⟨d, ed, hdx⟩ := dpall_get hd ex
    obtain ⟨as', rs⟩ := Dp.reads I d x v hdx ru
    have lay : d.canLay0 = true := by
      have hm : d ∈ (a :: r).map Datum.toD := List.mem_of_getElem? ed
      obtain ⟨b, _, rfl⟩ := List.mem_map.mp hm
      show PyData.canLay0 (.list (b.map PyData.int)) = true
      simp only [PyData.canLay0]
      exact lay_ints b
    have e1 : d = minD (Datum.toD a) (r.map Datum.toD) := SeqAt.Reads.unique d _ v as' bs lay (reads_keeps hk rs) rd
    rw [minD_map] at e1
    exact ⟨x, H, I.kept (t' := tk) hk, ru, q x (List.mem_of_getElem? ex) (e1 ▸ hdx)⟩
end Ag

namespace Ag
open PySem PySem.Spec PySem.W PyProof.Rows L2
/-! ### all ascending places -/
def Wy (xs : List Row) : List Row → Nat → List Nat → Prop
  | [], _, [] => True
  | r :: rs, a, k :: w => a ≤ k ∧ xs[k]? = some r ∧ Wy xs rs (k + 1) w
  | _, _, _ => False
theorem Wy.mono {xs : List Row} : ∀ {rs : List Row} {a b : Nat} {w : List Nat}, Wy xs rs a w → b ≤ a → Wy xs rs b w
  | [], a, b, [], _, _ => trivial
  | [], a, b, k :: w, h, _ => h.elim
  | r :: rs, a, b, [], h, _ => h.elim
  | r :: rs, a, b, k :: w, h, e => ⟨Nat.le_trans e h.1, h.2.1, h.2.2⟩
def zs_ (w : List Nat) : List Int := w.map fun n : Nat => (n : Int)
theorem zs_inj : ∀ {a b : List Nat}, zs_ a = zs_ b → a = b
  | [], [], _ => rfl
  | [], _ :: _, h => by simp [zs_] at h
  | _ :: _, [], h => by simp [zs_] at h
  | x :: xs, y :: ys, h => by
    simp only [zs_, List.map_cons, List.cons.injEq] at h
    rw [zs_inj (a := xs) (b := ys) h.2]
    have : x = y := by omega
    rw [this]
theorem ltI {a b : Int} : DatumOrd.lt a b = decide (a < b) := rfl
theorem listLt_self : ∀ a : List Int, listLt a a = false
  | [] => rfl
  | x :: xs => by rw [listLt, if_pos rfl]; exact listLt_self xs
theorem listLt_anti : ∀ {a b : List Int}, listLt a b = false → listLt b a = false → a = b
  | [], [], _, _ => rfl
  | [], _ :: _, h, _ => by simp [listLt] at h
  | _ :: _, [], _, h => by simp [listLt] at h
  | x :: xs, y :: ys, h, g => by
    rw [listLt] at h g
    by_cases e : x = y
    · subst e
      rw [if_pos rfl] at h g
      rw [listLt_anti h g]
    · rw [if_neg e, ltI] at h
      rw [if_neg (Ne.symm e), ltI] at g
      have h := of_decide_eq_false h
      have g := of_decide_eq_false g
      omega
theorem gr_ways {xs : List Row} {rs : List Row} {a : Nat} {o : Option (List Nat)} (h : Gr xs rs a o) : (match o with | none => ∀ w, ¬ Wy xs rs a w | some ps => Wy xs rs a ps ∧ ∀ w, Wy xs rs a w → listLt (zs_ w) (zs_ ps) = false) := by
  induction h with
  | nil a =>
    refine ⟨trivial, fun w hw => ?_⟩
    cases w with
    | nil => rfl
    | cons k w => exact hw.elim
  | none h =>
    intro w hw
    cases w with
    | nil => exact hw.elim
    | cons k w => exact h k hw.1 hw.2.1
  | @some r rs a k o h t ih =>
    have first : ∀ k' w, Wy xs (r :: rs) a (k' :: w) → k ≤ k' := fun k' w hw => by
      by_cases e : k ≤ k'
      · exact e
      · exact absurd hw.2.1 (h.no k' hw.1 (by omega))
    cases o with
    | none =>
      show ∀ w, ¬ Wy xs (r :: rs) a w
      intro w hw
      cases w with
      | nil => exact hw.elim
      | cons k' w => exact ih w (hw.2.2.mono (by have := first k' w hw; omega))
    | some ps =>
      refine ⟨⟨h.le, h.at_, ih.1⟩, fun w hw => ?_⟩
      cases w with
      | nil => exact hw.elim
      | cons k' w =>
        have e := first k' w hw
        show listLt ((k' : Int) :: zs_ w) ((k : Int) :: zs_ ps) = false
        rw [listLt]
        by_cases e2 : (k' : Int) = (k : Int)
        · rw [if_pos e2]
          have : k' = k := by omega
          subst this
          exact ih.2 w hw.2.2
        · rw [if_neg e2, ltI]
          exact decide_eq_false (by omega)
theorem min_fold {ps : List Int} : ∀ (l : List (List Int)) (acc : List Int), (acc = ps ∨ ps ∈ l) → (∀ w ∈ acc :: l, listLt w ps = false) → l.foldl (fun a y => if DatumOrd.lt y a = true then y else a) acc = ps
  | [], acc, h, _ => by
    rcases h with h | h
    · exact h
    · cases h
  | y :: l, acc, h, hw => by
    rw [List.foldl_cons]
    have hl : ∀ w ∈ l, listLt w ps = false := fun w z => hw w (by simp [z])
    have hy : listLt y ps = false := hw y (by simp)
    have ha : listLt acc ps = false := hw acc (by simp)
    by_cases e : DatumOrd.lt y acc = true
    · rw [if_pos e]
      refine min_fold l y ?_ (fun w z => ?_)
      · rcases h with rfl | h
        · have : listLt y acc = true := e
          rw [hy] at this
          cases this
        · rcases List.mem_cons.mp h with rfl | h
          · exact .inl rfl
          · exact .inr h
      · rcases List.mem_cons.mp z with rfl | z
        · exact hy
        · exact hl w z
    · rw [if_neg e]
      refine min_fold l acc ?_ (fun w z => ?_)
      · rcases h with rfl | h
        · exact .inl rfl
        · rcases List.mem_cons.mp h with rfl | h
          · exact .inl (listLt_anti ha (Bool.eq_false_iff.mpr e))
          · exact .inr h
      · rcases List.mem_cons.mp z with rfl | z
        · exact ha
        · exact hl w z
theorem min_is {ps a : List Int} {r : List (List Int)} (h : ps ∈ a :: r) (hw : ∀ w ∈ a :: r, listLt w ps = false) : minOf a r = ps :=
  min_fold r a ((List.mem_cons.mp h).imp Eq.symm id) hw
/-- the next place that may be taken -/
def lo (w : List Nat) : Nat := match w.getLast? with | none => 0 | some k => k + 1
theorem lo_snoc (w : List Nat) (k : Nat) : lo (w ++ [k]) = k + 1 := by simp [lo]
def ext (xs : List Row) (r : Row) (w : List Nat) : List (List Nat) := ((List.range' (lo w) (xs.length - lo w)).filter fun k => decide (xs[k]? = some r)).map fun k => w ++ [k]
def ways (xs : List Row) : List Row → List (List Nat) → List (List Nat)
  | [], W => W
  | r :: rs, W => ways xs rs (W.flatMap (ext xs r))
theorem mem_ext {xs : List Row} {r : Row} {w u : List Nat} : u ∈ ext xs r w ↔ ∃ k, lo w ≤ k ∧ xs[k]? = some r ∧ u = w ++ [k] := by
  unfold ext
  rw [List.mem_map]
  constructor
  · rintro ⟨k, hk, rfl⟩
    rw [List.mem_filter, List.mem_range'_1] at hk
    exact ⟨k, hk.1.1, of_decide_eq_true hk.2, rfl⟩
  · rintro ⟨k, h1, h2, rfl⟩
    have h3 := (List.getElem?_eq_some_iff.mp h2).1
    exact ⟨k, by rw [List.mem_filter, List.mem_range'_1]; exact ⟨⟨h1, by omega⟩, decide_eq_true h2⟩, rfl⟩
theorem mem_ways {xs : List Row} : ∀ {rs : List Row} {W : List (List Nat)} {w : List Nat}, w ∈ ways xs rs W ↔ ∃ u ∈ W, ∃ t, w = u ++ t ∧ Wy xs rs (lo u) t
  | [], W, w => by
    constructor
    · intro h
      exact ⟨w, h, [], by simp, trivial⟩
    · rintro ⟨u, hu, t, rfl, ht⟩
      cases t with
      | nil => rw [List.append_nil]; exact hu
      | cons k t => exact ht.elim
  | r :: rs, W, w => by
    show w ∈ ways xs rs (W.flatMap (ext xs r)) ↔ _
    rw [mem_ways]
    constructor
    · rintro ⟨u, hu, t, rfl, ht⟩
      obtain ⟨v, hv, hu⟩ := List.mem_flatMap.mp hu
      obtain ⟨k, h1, h2, rfl⟩ := mem_ext.mp hu
      rw [lo_snoc] at ht
      exact ⟨v, hv, k :: t, by simp, h1, h2, ht⟩
    · rintro ⟨u, hu, t, rfl, ht⟩
      cases t with
      | nil => exact ht.elim
      | cons k t =>
        exact ⟨u ++ [k], List.mem_flatMap.mpr ⟨u, hu, mem_ext.mpr ⟨k, ht.1, ht.2.1, rfl⟩⟩, t, by simp, by rw [lo_snoc]; exact ht.2.2⟩
theorem ext_len (xs : List Row) (r : Row) (w : List Nat) : (ext xs r w).length ≤ xs.length := by
  unfold ext
  rw [List.length_map]
  refine Nat.le_trans (List.length_filter_le _ _) ?_
  rw [List.length_range']
  omega
theorem step_len {xs : List Row} {r : Row} : ∀ W : List (List Nat), (W.flatMap (ext xs r)).length ≤ xs.length * W.length
  | [] => by simp
  | w :: W => by
    rw [List.flatMap_cons, List.length_append, List.length_cons, Nat.mul_succ]
    have := ext_len xs r w
    have := step_len (xs := xs) (r := r) W
    omega
/-- what the law's own search finds is what the program finds -/
theorem gr_min {xs rs : List Row} {o : Option (List Nat)} (h : Gr xs rs 0 o) : match o with | none => ways xs rs [[]] = [] | some ps => ps ∈ ways xs rs [[]] ∧ ∀ w ∈ ways xs rs [[]], listLt (zs_ w) (zs_ ps) = false := by
  have g := gr_ways h
  have iff : ∀ w, w ∈ ways xs rs [[]] ↔ Wy xs rs 0 w := fun w => by
    rw [mem_ways]
    constructor
    · rintro ⟨u, hu, t, rfl, ht⟩
      rw [List.mem_singleton] at hu
      subst hu
      exact ht
    · intro hw
      exact ⟨[], by simp, w, by simp, hw⟩
  cases o with
  | none =>
    show ways xs rs [[]] = []
    cases e : ways xs rs [[]] with
    | nil => rfl
    | cons w W => exact absurd ((iff w).mp (by rw [e]; simp)) (g w)
  | some ps => exact ⟨(iff ps).mpr g.1, fun w hw => g.2 w ((iff w).mp hw)⟩
end Ag
namespace Ag
open PySem PySem.Spec PySem.W PyProof.Rows L2
/-! ### lists of places as data -/
def dW (w : List Nat) : PyData := .list ((zs_ w).map PyData.int)
theorem dW_eq (w : List Nat) : dW w = Datum.toD (zs_ w) := rfl
theorem dI : ∀ b : List Int, PyData.depthAll (b.map PyData.int) = 0
  | [] => rfl
  | z :: zs => by
    show max 0 (PyData.depthAll (zs.map PyData.int)) = 0
    rw [dI zs]
    rfl
theorem shaped_dW (w : List Nat) : SeqAt.shaped (dW w) = true := by
  unfold SeqAt.shaped
  rw [Bool.and_eq_true]
  refine ⟨?_, ?_⟩
  · show PyData.canLayAll0 ((zs_ w).map PyData.int) = true
    exact lay_ints _
  · show decide (PyData.depthAll ((zs_ w).map PyData.int) + 1 ≤ 64) = true
    rw [dI]
    decide
theorem lay_W : ∀ W : List (List Nat), PyData.canLayAll0 (W.map dW) = true ∧ PyData.depthAll (W.map dW) ≤ 1
  | [] => ⟨rfl, Nat.zero_le _⟩
  | w :: W => by
    obtain ⟨h1, h2⟩ := lay_W W
    refine ⟨?_, ?_⟩
    · show (PyData.canLayAll0 ((zs_ w).map PyData.int) && PyData.canLayAll0 (W.map dW)) = true
      rw [lay_ints, h1]
      rfl
    · show max (PyData.depthAll ((zs_ w).map PyData.int) + 1) (PyData.depthAll (W.map dW)) ≤ 1
      rw [dI]
      omega
theorem shaped_W (W : List (List Nat)) : SeqAt.shaped (.list (W.map dW)) = true := by
  unfold SeqAt.shaped
  rw [Bool.and_eq_true]
  refine ⟨(lay_W W).1, ?_⟩
  show decide (PyData.depthAll (W.map dW) + 1 ≤ 64) = true
  exact decide_eq_true (by have := (lay_W W).2; omega)
theorem shaped_nil : SeqAt.shaped (.list []) = true := shaped_W []
theorem eqv_w0 (w : List Nat) : PyData.eqv (dW w) (.list []) = decide (w = []) := by
  cases w with
  | nil => rfl
  | cons k w => simp [dW, zs_, PyData.eqv, PyData.eqvAll]
theorem eqv_W0 (W : List (List Nat)) : PyData.eqv (.list (W.map dW)) (.list []) = decide (W = []) := by
  cases W with
  | nil => rfl
  | cons k w => simp [PyData.eqv, PyData.eqvAll]
def WP (H : Hp) (v : V) (w : List Nat) : Prop := ∃ p, v = .ref p ∧ H p = some (.lst (w.map fun n : Nat => V.int (n : Int)))
theorem WP.same {H H' : Hp} {v : V} {w : List Nat} (s : Same H H') (h : WP H v w) : WP H' v w := by
  obtain ⟨p, h1, h2⟩ := h
  exact ⟨p, h1, s _ _ h2⟩
def WaysAt (H : Hp) (L : Addr) (W : List (List Nat)) : Prop := ∃ vs, H L = some (.lst vs) ∧ Paired (WP H) vs W
theorem WaysAt.same {H H' : Hp} {L : Addr} {W : List (List Nat)} (s : Same H H') (h : WaysAt H L W) : WaysAt H' L W := by
  obtain ⟨vs, h1, h2⟩ := h
  exact ⟨vs, s _ _ h1, paired_imp (fun _ _ z => z.same s) h2⟩
theorem paired_app {α β : Type} {R : α → β → Prop} : ∀ {l l' : List α} {m m' : List β}, Paired R l m → Paired R l' m' → Paired R (l ++ l') (m ++ m')
  | _, _, _, _, .nil, h => h
  | _, _, _, _, .cons z zs, h => .cons z (paired_app zs h)
theorem paired_get {α β : Type} {R : α → β → Prop} : ∀ {l : List α} {m : List β}, Paired R l m → ∀ {i : Nat} {v : α}, l[i]? = some v → ∃ r, m[i]? = some r ∧ R v r
  | _, _, .nil, i, v, h => by simp at h
  | _, _, .cons z zs, 0, v, h => by
    simp at h
    subst h
    exact ⟨_, rfl, z⟩
  | _, _, .cons z zs, i + 1, v, h => by
    simp at h
    obtain ⟨r, e, q⟩ := paired_get zs h
    exact ⟨r, by simpa using e, q⟩
/-- the place taken away -/
def del (H : Hp) (D : Addr) : Hp := fun a => if a = D then none else H a
theorem del_upd (H : Hp) (D : Addr) (o : HO) : del (upd H D o) D = del H D := by
  funext a
  unfold del
  by_cases h : a = D
  · rw [if_pos h, if_pos h]
  · rw [if_neg h, if_neg h, upd_ne h]
theorem del_ne {H : Hp} {D a : Addr} (h : a ≠ D) : del H D a = H a := if_neg h
theorem del_same (H : Hp) (D : Addr) : Same (del H D) H := fun a o e => by
  by_cases h : a = D
  · subst h
    simp [del] at e
  · rw [del_ne h] at e
    exact e
theorem del_mono {H H' : Hp} {D : Addr} (s : Same H H') : Same (del H D) (del H' D) := fun a o e => by
  by_cases h : a = D
  · subst h
    simp [del] at e
  · rw [del_ne h] at e ⊢
    exact s _ _ e
theorem ints_dp {K : PySem.W.Frag} {H : Hp} : ∀ (w : List Nat), DpAll K H (w.map fun n : Nat => V.int (n : Int)) ((zs_ w).map PyData.int)
  | [] => .nil
  | n :: w => .cons (.int _) (ints_dp w)
theorem WP.dp {K : PySem.W.Frag} {H : Hp} {v : V} {w : List Nat} (h : WP H v w) : Dp K H v (dW w) := by
  obtain ⟨p, rfl, h⟩ := h
  exact .lst (SqL.of h) (ints_dp w)
theorem ways_dp {K : PySem.W.Frag} {H : Hp} : ∀ {vs : List V} {W : List (List Nat)}, Paired (WP H) vs W → DpAll K H vs (W.map dW)
  | _, _, .nil => .nil
  | _, _, .cons z zs => .cons z.dp (ways_dp zs)
theorem ways_snoc {xs : List Row} {r : Row} : ∀ {rs : List Row} {W : List (List Nat)}, ways xs (rs ++ [r]) W = (ways xs rs W).flatMap (ext xs r)
  | [], W => rfl
  | s :: rs, W => by
    show ways xs (rs ++ [r]) (W.flatMap (ext xs s)) = (ways xs rs (W.flatMap (ext xs s))).flatMap (ext xs r)
    exact ways_snoc
theorem ways_len {xs rs : List Row} (hx : xs.length ≤ 6) : ∀ (i : Nat), (ways xs (rs.take i) [[]]).length ≤ 6 ^ i := by
  intro i
  induction i with
  | zero => simp [ways]
  | succ i ih =>
    by_cases h : i < rs.length
    · rw [List.take_succ_eq_append_getElem h, ways_snoc]
      have := step_len (xs := xs) (r := rs[i]) (ways xs (rs.take i) [[]])
      calc _ ≤ xs.length * (ways xs (rs.take i) [[]]).length := this
        _ ≤ 6 * 6 ^ i := Nat.mul_le_mul hx ih
        _ = 6 ^ (i + 1) := by rw [Nat.pow_succ]; omega
    · rw [List.take_of_length_le (by omega)]
      rw [List.take_of_length_le (by omega)] at ih
      have : 6 ^ i ≤ 6 ^ (i + 1) := Nat.pow_le_pow_right (by omega) (by omega)
      omega
def extN (xs : List Row) (r : Row) (w : List Nat) (i : Nat) : List (List Nat) := ((List.range' (lo w) i).filter fun k => decide (xs[k]? = some r)).map fun k => w ++ [k]
theorem extN_succ {xs : List Row} {r : Row} {w : List Nat} {i : Nat} : extN xs r w (i + 1) = extN xs r w i ++ if xs[lo w + i]? = some r then [w ++ [lo w + i]] else [] := by
  unfold extN
  rw [List.range'_1_concat, List.filter_append, List.map_append]
  by_cases h : xs[lo w + i]? = some r
  · rw [if_pos h]
    simp [h]
  · rw [if_neg h]
    simp [h]
theorem ext_N (xs : List Row) (r : Row) (w : List Nat) : ext xs r w = extN xs r w (xs.length - lo w) := rfl
theorem extN_len {xs : List Row} {r : Row} {w : List Nat} {i : Nat} : (extN xs r w i).length ≤ i := by
  unfold extN
  rw [List.length_map]
  exact Nat.le_trans (List.length_filter_le _ _) (by rw [List.length_range']; exact Nat.le_refl _)
theorem wy_self {xs : List Row} : ∀ (n a : Nat), a + n = xs.length → Wy xs (xs.drop a) a (List.range' a n)
  | 0, a, h => by
    rw [List.drop_of_length_le (by omega)]
    trivial
  | n + 1, a, h => by
    rw [List.drop_eq_getElem_cons (by omega), List.range'_succ]
    exact ⟨Nat.le_refl _, List.getElem?_eq_getElem (by omega), wy_self n (a + 1) (by omega)⟩
theorem gr_self {xs : List Row} {o : Option (List Nat)} (h : Gr xs xs 0 o) : o.isSome = true := by
  have g := gr_ways h
  cases o with
  | none => exact absurd (wy_self (xs := xs) xs.length 0 (by omega)) (g _)
  | some ps => rfl
theorem gr_nil {xs : List Row} {o : Option (List Nat)} {a : Nat} (h : Gr xs [] a o) : o = some [] := by
  cases h
  rfl
theorem paired_take {α β : Type} {R : α → β → Prop} : ∀ {l : List α} {m : List β} (n : Nat), Paired R l m → Paired R (l.take n) (m.take n)
  | _, _, 0, _ => by simp only [List.take_zero]; exact .nil
  | _, _, n + 1, .nil => .nil
  | _, _, n + 1, .cons z zs => .cons z (paired_take n zs)
theorem paired_drop {α β : Type} {R : α → β → Prop} : ∀ {l : List α} {m : List β} (n : Nat), Paired R l m → Paired R (l.drop n) (m.drop n)
  | _, _, 0, h => h
  | _, _, n + 1, .nil => .nil
  | _, _, n + 1, .cons z zs => paired_drop n zs
end Ag
namespace Ag
open PySem PySem.Spec PySem.W PyProof.Rows L2
theorem wy_lt {xs : List Row} : ∀ {rs : List Row} {a : Nat} {w : List Nat}, Wy xs rs a w → ∀ k ∈ w, k < xs.length
  | [], a, [], _, k, hk => by cases hk
  | [], a, _ :: _, h, k, hk => h.elim
  | r :: rs, a, [], h, k, hk => by cases hk
  | r :: rs, a, k' :: w, h, k, hk => by
    rcases List.mem_cons.mp hk with rfl | hk
    · exact (List.getElem?_eq_some_iff.mp h.2.1).1
    · exact wy_lt h.2.2 k hk
theorem ways_lo {xs rs : List Row} {w : List Nat} (h : w ∈ ways xs rs [[]]) : lo w ≤ xs.length := by
  obtain ⟨u, hu, t, rfl, ht⟩ := mem_ways.mp h
  rw [List.mem_singleton] at hu
  subst hu
  rw [List.nil_append]
  unfold lo
  split
  · omega
  · next k e => exact wy_lt ht k (List.mem_of_getLast? e)
theorem lo_at {w : List Nat} (h : w ≠ []) : ∃ k, w[w.length - 1]? = some k ∧ lo w = k + 1 := by
  unfold lo
  rw [List.getLast?_eq_getElem?]
  cases e : w[w.length - 1]? with
  | none =>
    rw [List.getElem?_eq_none_iff] at e
    have : 0 < w.length := List.length_pos_iff.mpr h
    omega
  | some k => exact ⟨k, rfl, rfl⟩
theorem flat_take {α β : Type} {f : α → List β} {l : List α} {i : Nat} {x : α} (h : l[i]? = some x) : (l.take (i + 1)).flatMap f = (l.take i).flatMap f ++ f x := by
  obtain ⟨hi, e⟩ := List.getElem?_eq_some_iff.mp h
  rw [List.take_succ_eq_append_getElem hi, List.flatMap_append, e]
  simp
end Ag
namespace Ag
open PySem PySem.Spec PySem.W PyProof.Rows L2
theorem wy_len {xs : List Row} : ∀ {rs : List Row} {a : Nat} {w : List Nat}, Wy xs rs a w → w.length = rs.length
  | [], a, [], _ => rfl
  | [], a, _ :: _, h => h.elim
  | r :: rs, a, [], h => h.elim
  | r :: rs, a, k' :: w, h => by
    rw [List.length_cons, List.length_cons, wy_len h.2.2]
theorem ways_wl {xs rs : List Row} {w : List Nat} (h : w ∈ ways xs rs [[]]) : w.length = rs.length := by
  obtain ⟨u, hu, t, rfl, ht⟩ := mem_ways.mp h
  rw [List.mem_singleton] at hu
  subst hu
  rw [List.nil_append]
  exact wy_len ht
end Ag
namespace Ag
open PySem PySem.Spec PySem.W PyProof.Rows L2
theorem gr_fun {xs rs : List Row} {o o' : Option (List Nat)} (h : Gr xs rs 0 o) (h' : Gr xs rs 0 o') : o = o' := by
  have g := gr_min h
  have g' := gr_min h'
  cases o with
  | none =>
    cases o' with
    | none => rfl
    | some ps =>
      have e : ways xs rs [[]] = [] := g
      rw [e] at g'
      cases g'.1
  | some ps =>
    cases o' with
    | none =>
      have e : ways xs rs [[]] = [] := g'
      rw [e] at g
      cases g.1
    | some ps' =>
      have := listLt_anti (g'.2 ps g.1) (g.2 ps' g'.1)
      rw [zs_inj this]
def dd : Option (List Nat) → PyData
  | none => .none
  | some ps => dW ps
theorem dd_some {K : PySem.W.Frag} {H : Hp} {v : V} : ∀ {o : Option (List Nat)}, Dp K H v (dd o) → (!decide (v = .non)) = o.isSome
  | none, h => by
    cases h
    rfl
  | some ps, h => by
    cases h
    rfl
theorem dd_of {K : PySem.W.Frag} {H : Hp} {v : V} : ∀ {o : Option (List Nat)}, (match o with | none => v = .non | some ps => ∃ p, v = .ref p ∧ H p = some (.lst (ps.map fun n : Nat => V.int (n : Int)))) → Dp K H v (dd o)
  | none, h => by
    cases h
    exact .non
  | some ps, h => WP.dp h
theorem oka_dd {xs rs : List Row} {o : Option (List Nat)} (h : Gr xs rs 0 o) (hl : rs.length ≤ 40) : oka 5 (dd o) = true := by
  cases o with
  | none => rfl
  | some ps =>
    have l := ways_wl (gr_min h).1
    show (decide (((zs_ ps).map PyData.int).length ≤ 1000) && ((zs_ ps).map PyData.int).all (oka 4)) = true
    rw [Bool.and_eq_true]
    refine ⟨decide_eq_true (by rw [List.length_map]; unfold zs_; rw [List.length_map]; omega), ?_⟩
    rw [List.all_eq_true]
    intro x hx
    obtain ⟨z, _, rfl⟩ := List.mem_map.mp hx
    rfl
theorem made0 {H : Hp} {x dx C : Addr} (n1 : H x = none) (n2 : H dx = none) : Same H (upd (upd H dx (.own x)) x (.ins C dx [])) := fun c o e => by
  rw [upd_ne (ne_of_none e n1), upd_ne (ne_of_none e n2)]
  exact e
theorem made1 {H H2 : Hp} {x dx C : Addr} (n1 : H x = none) (n2 : H dx = none) (k : Kp x (upd (upd H dx (.own x)) x (.ins C dx [])) H2) : Same H H2 := fun c o e => k c o (made0 n1 n2 c o e) (ne_of_none e n1)
end Ag

namespace Ag
open PySem PySem.Spec PyProof.Rows L2
/-! ### a own operator on two instances of one class -/
theorem op_own {X : Cx} {CX : CXT} {k : Nat} {C g : Addr} {fd : FuncData} {ps : List Str} {sp : Sp} {E : XK} {op : Operator} (c : PySem.W.selfFirst X.K C = true) (hs : PySem.W.findIn X.K (.ref C) (PySem.dunder op.info.2) = some (some (.ref g))) (hf : PySem.W.isFn X.K (.ref g) = true)
    (F : FnOk X.prog X.w X.K X.mg X.base CX k g fd ps sp) (hr : Room k X.A) (hb : Binds X.K fd ps []) (hx : Passes CX X E) :
    OpR X (binaryOp op) (fun x y H Q => ∃ a b dx dy fs gs, x = .ref a ∧ y = .ref b ∧ H a = some (.ins C dx fs) ∧ H b = some (.ins C dy gs) ∧ sp [.ref a, .ref b] H Q E) := by
  rintro pins s σ H x y v u Q I rx ry ⟨a, b, dx, dy, fs, gs, rfl, rfl, ea, eb, q⟩
  cases rx
  cases ry
  obtain ⟨mA, O, _⟩ := ins_get I.hok ea
  obtain ⟨od, J, _⟩ := O.look
  obtain ⟨mB, O', _⟩ := ins_get I.hok eb
  obtain ⟨od', J', _⟩ := O'.look
  obtain ⟨m, hF⟩ := I.fr
  refine PySem.W.binop_K hF I.ok.mod.kin J J'.type c hs hf ?_
  exact thn (run_fn (us := [.ref a, .ref b]) (vs := [.ref a, .ref b]) F hr hb .nil hx I (.cons rfl (.cons rfl .nil)) q) fun v s' ⟨z, H', I', r, q'⟩ => SlX.cmpback r ⟨z, H', I', r, q'⟩
end Ag
namespace Ag
open PySem PySem.Spec PyProof.Rows L2
theorem catA_of {K : PySem.W.Frag} {H : Hp} {a b : Addr} {xs ys : List V} {Q : VK} (ha : SqT K H a xs) (hb : SqT K H b ys) (hz : xs.length + ys.length ≤ sizeLine) (h : ∀ p H', Same H H' → SqT K H' p (xs ++ ys) → Q (.ref p) H') : rCatA K (.ref a) (.ref b) H Q := by
  refine ⟨a, b, xs, ys, rfl, rfl, ha, hb, hz, fun e => ?_, fun e1 e2 => ?_, fun e1 e2 p np => ?_⟩
  · subst e
    exact h b H (.refl H) hb
  · subst e2
    exact h a H (.refl H) (by rw [List.append_nil]; exact ha)
  · exact h p _ (same_new np _) (SqT.of upd_same)
end Ag
namespace Ag
open PySem PySem.Spec PyProof.Rows L2
theorem slA_of {K : PySem.W.Frag} {H : Hp} {a : Addr} {xs zs : List V} {lo hi : Option Int} {Q : VK} (ha : SqT K H a xs) (e : cutV xs lo hi = zs) (h : ∀ p H', Same H H' → SqT K H' p zs → Q (.ref p) H') : rSlA K (.ref a) lo hi H Q := by
  refine ⟨a, xs, rfl, ha, fun w => ?_, fun w p np => ?_⟩
  · refine h a H (.refl H) ?_
    rw [← e]
    unfold cutV
    rw [w.1, w.2, List.drop_zero, Nat.sub_zero, List.take_length]
    exact ha
  · refine h p _ (same_new np _) ?_
    rw [← e]
    exact SqT.of upd_same
theorem cut_to {xs : List V} {n : Nat} (h : n ≤ xs.length) : cutV xs none (some (n : Int)) = xs.take n := by
  unfold cutV
  rw [HT.sIx_none, HT.sIx_nat, List.drop_zero, Nat.sub_zero, Nat.min_eq_left h]
theorem cut_from {xs : List V} {n : Nat} (h : n ≤ xs.length) : cutV xs (some (n : Int)) none = xs.drop n := by
  unfold cutV
  rw [HT.sIx_none, HT.sIx_nat, Nat.min_eq_left h]
  exact List.take_of_length_le (by rw [List.length_drop]; omega)
end Ag
namespace Ag
open PySem PySem.Spec PyProof.Rows L2
/-! ### what is left without some places -/
def keepV (ys : List V) (ps : List Nat) (i : Nat) : List V := ((List.range i).filter fun k => decide (k ∉ ps)).filterMap fun k => ys[k]?
theorem keepV_succ {ys : List V} {ps : List Nat} {i : Nat} {v : V} (h : ys[i]? = some v) : keepV ys ps (i + 1) = keepV ys ps i ++ if i ∈ ps then [] else [v] := by
  unfold keepV
  rw [List.range_succ, List.filter_append, List.filterMap_append]
  by_cases hp : i ∈ ps
  · rw [if_pos hp]
    simp [hp]
  · rw [if_neg hp]
    simp [hp, h]
theorem keepV_len {ys : List V} {ps : List Nat} {i : Nat} : (keepV ys ps i).length ≤ i := by
  unfold keepV
  refine Nat.le_trans (List.length_filterMap_le _ _) ?_
  refine Nat.le_trans (List.length_filter_le _ _) ?_
  rw [List.length_range]
  exact Nat.le_refl _
theorem inV_ints (k : Nat) : ∀ ps : List Nat, inV (.int (k : Int)) (ps.map fun n : Nat => V.int (n : Int)) = decide (k ∈ ps)
  | [] => by simp [inV]
  | p :: ps => by
    have ih := inV_ints k ps
    unfold inV at ih ⊢
    rw [List.map_cons, List.any_cons, ih]
    have e : eqV (.int (p : Int)) (.int (k : Int)) = decide (p = k) := by
      show ((p : Int) == (k : Int)) = decide (p = k)
      rw [Bool.eq_iff_iff, beq_iff_eq, decide_eq_true_eq]
      omega
    rw [e]
    by_cases h : p = k
    · simp [h]
    · simp [h, Ne.symm h]
theorem flat_ints (ps : List Nat) : (ps.map fun n : Nat => V.int (n : Int)).all flatV = true := by
  rw [List.all_eq_true]
  intro x hx
  obtain ⟨n, _, rfl⟩ := List.mem_map.mp hx
  rfl
end Ag
namespace Ag
open PySem PySem.Spec PyProof.Rows L2
/-- a method with *pv behind self -/
theorem fun_star {P : Program} {w : World} {K : PySem.W.Frag} {mg : Str → Option Value} {base : Heap} {x qual pv : Str} {st : Stmt} {f : Addr} {fd : FuncData} {N : List Str} {k : Nat} {sp : Sp} (F : Fun K x qual st f fd) (S : FnScope N ((["self"] : List Str) ++ [pv]) (defScope st))
    (hb : ∀ (kV doc pm : Value) (an : Option Addr) (cdv ct : Value) (us rest : List Value), us.length = (["self"] : List Str).length → bindArgs (PySem.W.fnOf x qual (defArgs st) (defBody st) (defScope st) .none kV doc pm an cdv ct) ⟨us ++ rest, []⟩ = (newTuple rest >>= fun t => pure ((["self"] : List Str).zip us ++ [(pv, t)])))
    (hbody : ∀ (cdv : Value) (A : Around) (outer : List Env) (s : Shared) (H : Hp) (vs : List V) (Q : VK) (E : XK), Room k (A.deeper (envOfC qual (defScope st) s.heap.objs.size f cdv)) → sp vs H Q E →
      ∃ t, PSs (cxOf CX0 P w K mg base N qual (defScope st) f cdv A outer s H E).nox (defBody st) t ∧ t { nx := fun _ H' => Q .non H', rt := Q } (start N vs) H) :
    FnR P w K mg base CX0 (k + 1) f (fun vs H Q E => ∃ ws rest, vs = ws ++ rest ∧ ws.length = 1 ∧ rest.length ≤ sizeLine ∧ ∀ p, H p = Option.none → sp (ws ++ [V.ref p]) (upd H p (.tup rest)) Q E) := by
  obtain ⟨oc, od, kV, doc, pm, an, cdv, ct, osl, rfl, lk, hcd⟩ := F.ex
  refine StX.fn_star (ps := (["self"] : List Str)) (pv := pv) lk hcd S StX.cxUp_none (hb kV doc pm an cdv ct) fun A outer s H vs Q E hr hsp => ?_
  obtain ⟨t, h, q⟩ := hbody cdv A outer s H vs Q E hr hsp
  exact ⟨t, h.nox, q⟩
end Ag
namespace Ag
open PySem PySem.Spec PyProof.Rows L2
theorem HeldAt.kp {C : Addr} {H H' : Hp} {b l x a : Addr} (k : Kp b H H') (g : Bag H b l) (h : HeldAt C H x a) : HeldAt C H' x a := by
  obtain ⟨dx, e⟩ := h
  obtain ⟨ns, at', big, seed, cnt, h1, _⟩ := g
  exact ⟨dx, k _ _ e (ne_of e h1 (by intro z; cases z))⟩
/-- rows as data -/
theorem rows_da {K : PySem.W.Frag} {H : Hp} : ∀ {vs : List V} {rs : List Row}, RowsAt K H vs rs → DaAll K H vs (rs.map rowD)
  | _, _, .nil => .nil
  | _, _, .cons z zs => .cons (Da_of z) (rows_da zs)
theorem rowsL_da {K : PySem.W.Frag} {H : Hp} {p : Addr} {vs : List V} {rs : List Row} (h : SqL K H p vs) (r : RowsAt K H vs rs) : Da K H (.ref p) (.list (rs.map rowD)) := .lst h (rows_da r)
theorem oka_row {ns ws : List (List Nat)} {r : Row} (n : Nat) (h : r.1 ∈ ns ∧ okF ws [] 3 r.2) : oka (n + 6) (rowD r) = true := by
  show (decide (2 ≤ 1000) && (oka (n + 5) (.str (SX.S r.1)) && (oka (n + 5) r.2.dat && true))) = true
  have e := okF_oka (n := n + 4) h.2 (by omega)
  rw [e]
  rfl
theorem oka_rows {ns ws : List (List Nat)} {rs : List Row} (n : Nat) (hl : rs.length ≤ 1000) (h : ∀ r ∈ rs, r.1 ∈ ns ∧ okF ws [] 3 r.2) : oka (n + 7) (.list (rs.map rowD)) = true := by
  show (decide ((rs.map rowD).length ≤ 1000) && (rs.map rowD).all (oka (n + 6))) = true
  rw [Bool.and_eq_true, List.all_eq_true]
  refine ⟨decide_eq_true (by rw [List.length_map]; exact hl), fun x hx => ?_⟩
  obtain ⟨r, hr, rfl⟩ := List.mem_map.mp hx
  exact oka_row n (h r hr)
end Ag

namespace Ag
open PySem PySem.Spec PyProof.Rows L2
/-! ### sets of texts, with what a walk over them asks of their tables -/
structure TabW (w : World) (t : SetTable) : Prop where
  up : Ris t.place.toList
  led : w.params.followText "set-order" = true ∨ t.led = true
def TxtSet (P : Program) (w : World) (h : Heap) (a : Addr) (D : List Str) : Prop :=
  ∃ ob ents ep tab, h.get? a = some ob ∧ ob.ExactSet ∧ ob.data = .set ents ep tab ∧ ElemsOf (strKind P w) ents.toList ∧ (∀ k, k ∈ D ↔ ∃ e ∈ ents.toList, (strKind P w).is k e.2 = true) ∧
    ents.size < scanBound ∧ tab.fits ents.size = true ∧ ents.size = D.length ∧ D.Nodup ∧ TabW w tab
theorem TxtSet.go {P : Program} {w : World} {h h' : Heap} {a : Addr} {D : List Str} (R : TxtSet P w h a D) (k : ∀ o, h.get? a = some o → h'.get? a = some o) : TxtSet P w h' a D := by
  obtain ⟨ob, ents, ep, tab, e, r⟩ := R
  exact ⟨ob, ents, ep, tab, k _ e, r⟩
section
variable {P : Program} {w : World} {A : Around} {E : Value → Shared → Prop} {s : Shared} {a : Addr} {D : List Str}
theorem ts_tail {gv : Bool → Sem Unit} (hgv : ∀ (b : Bool) (z : Shared) (Z : Unit → Shared → Prop), Z () z → wpAny (model P w) A (gv b) Z E z)
    {ob : Obj} {ents : Array (Int × Value)} {ep : Nat} {tab : SetTable} (hob : s.heap.get? a = some ob) (hx : ob.ExactSet) (hdat : ob.data = .set ents ep tab)
    {en : Array (Int × Value)} {tn : SetTable} (el : ElemsOf (strKind P w) en.toList) (mm : ∀ k, k ∈ D ↔ ∃ e ∈ en.toList, (strKind P w).is k e.2 = true) (hlt : en.size < scanBound) (hfit : tn.fits en.size = true) (hsz : en.size = D.length) (nd : D.Nodup) (tw : TabW w tn)
    {dm : Bool} {R : Option Bool → Shared → Prop} (fin : ∀ h', Heap.SameBut a s.heap h' → TxtSet P w h' a D → R (some true) { s with heap := h' }) :
    wpAny (model P w) A (storeSet a en tn >>= fun _ => if (!dm && tn.tooFull) = true then (gv (relayAll tn en (SetTable.grown en.size)).2.2 >>= fun _ => storeSet a (relayAll tn en (SetTable.grown en.size)).1 (relayAll tn en (SetTable.grown en.size)).2.1 >>= fun _ => pure (some true)) else pure (some true)) R E s := by
  have one := store_at (es' := en) (t' := tn) hob hdat
  have sb := Heap.SameBut.update s.heap a (Obj.putSet en tn)
  refine wpAny_bind (wpAny_storeSet_of hob hdat ?_ (fits_of_scanBound hlt))
  by_cases c : (!dm && tn.tooFull) = true
  · rw [if_pos c]
    have perm := relayAll_perm tn en (SetTable.grown en.size)
    have fit2 := relayAll_fits tn en (SetTable.grown en.size)
    have up2 := relayAll_ris tn en (SetTable.grown en.size)
    have led2 := relayAll_led tn en (SetTable.grown en.size)
    generalize relayAll tn en (SetTable.grown en.size) = Z at perm fit2 up2 led2 ⊢
    obtain ⟨en2, tn2, g2⟩ := Z
    dsimp only at perm fit2 up2 led2 ⊢
    have sz2 : en2.size = en.size := by
      have := perm.length_eq
      rwa [Array.length_toList, Array.length_toList] at this
    refine wpAny_bind (hgv _ _ _ (wpAny_bind (wpAny_storeSet_of one rfl (wpAny_pure (fin _ (sb.trans (Heap.SameBut.update _ a _)) ?_)) (fits_of_scanBound (by rw [sz2]; exact hlt)))))
    refine ⟨_, en2, _, tn2, store_at (es' := en2) (t' := tn2) one rfl, hx, rfl, el.perm perm, fun k => (mm k).trans ⟨fun ⟨e, h1, h2⟩ => ⟨e, perm.mem_iff.mpr h1, h2⟩, fun ⟨e, h1, h2⟩ => ⟨e, perm.mem_iff.mp h1, h2⟩⟩, by rw [sz2]; exact hlt, fit2, by rw [sz2]; exact hsz, nd, up2, tw.led.imp id fun z => by rw [led2]; exact z⟩
  · rw [if_neg c]
    exact wpAny_pure (fin _ sb ⟨_, en, _, tn, one, hx, rfl, el, mm, hlt, hfit, hsz, nd, tw⟩)
theorem ts_add {k : Str} {tk : Tok} {Q : Bool → Shared → Prop} (R : TxtSet P w s.heap a D) (room : D.length + 1 < scanBound)
    (fin : ∀ h' D' b, Heap.SameBut a s.heap h' → (∀ x, x ∈ D' ↔ x ∈ D ∨ x = k) → D'.length ≤ D.length + 1 → TxtSet P w h' a D' → Q b { s with heap := h' }) :
    wpAny (model P w) A (setAddHashed a (.str k tk) ((strKind P w).hash k)) Q E s := by
  obtain ⟨ob, ents, ep, tab, hob, hx, hdat, el, mm, hlt, hfit, hsz, nd, tw⟩ := R
  have is : (strKind P w).is k (.str k tk) = true := by show Value.isStrOf k (.str k tk) = true; simp [Value.isStrOf]
  have scn : (Value.str k tk).scannable = true := rfl
  unfold setAddHashed setAddHashedIn
  refine wpAny_holding (wpAny_bind (wpAny_setState_of hob hdat hfit ?_))
  dsimp only
  rw [byScan_of scn hlt el, if_pos rfl]
  unfold setAddByScan
  refine wpAny_bind (wpAny_bind (wpAny_rule (wpAny_bind (wpAny_setScan_of is hob hdat hfit el ?_))))
  cases found : List.findIdx? (fun e => (strKind P w).is k e.2) ents.toList with
  | some j =>
    dsimp only
    obtain ⟨hj, pj, _⟩ := List.findIdx?_eq_some_iff_getElem.mp found
    have hk : k ∈ D := (mm k).2 ⟨_, List.getElem_mem hj, pj⟩
    exact wpAny_pure (wpAny_pure (fin s.heap D _ (Heap.SameBut.refl a _) (fun x => ⟨.inl, fun z => z.elim id fun e => e ▸ hk⟩) (Nat.le_succ _) ⟨ob, ents, ep, tab, hob, hx, hdat, el, mm, hlt, hfit, hsz, nd, tw⟩))
  | none =>
    dsimp only
    have hk : k ∉ D := fun z => by
      obtain ⟨e, he, q⟩ := (mm k).1 z
      have := List.findIdx?_eq_none_iff.mp found e he
      rw [q] at this
      cases this
    have perm := layNew_perm tab ents ((strKind P w).hash k) (.str k tk)
    have fit1 := layNew_fits tab ents ((strKind P w).hash k) (.str k tk)
    have up1 := layNew_ris tab ents ((strKind P w).hash k) (.str k tk) tw.up
    have led1 := layNew_led tab ents ((strKind P w).hash k) (.str k tk)
    generalize layNew tab ents ((strKind P w).hash k) (.str k tk) = Z at perm fit1 up1 led1 ⊢
    obtain ⟨en, tn, dm, gave⟩ := Z
    dsimp only at perm fit1 up1 led1 ⊢
    rw [Array.toList_push] at perm
    have sz1 : en.size = (k :: D).length := by
      have := perm.length_eq
      rw [List.length_append, Array.length_toList, Array.length_toList] at this
      rw [this, hsz]
      rfl
    have mm1 : ∀ x, x ∈ k :: D ↔ ∃ e ∈ en.toList, (strKind P w).is x e.2 = true := fun x => by
      have := mem_push_iff (S := fun y => decide (y ∈ D)) is (fun y => by rw [decide_eq_true_eq]; exact mm y) perm x
      rw [Bool.or_eq_true, decide_eq_true_eq, decide_eq_true_eq] at this
      rw [List.mem_cons, ← this]
      exact Or.comm
    have tw1 : TabW w tn := ⟨up1, tw.led.imp id fun z => by rw [led1]; exact z⟩
    have gv : ∀ (b : Bool) (z : Shared) (Z : Unit → Shared → Prop), Z () z → wpAny (model P w) A (match b with | true => rule "set.scan.the-table-gave-way" | false => pure ()) Z E z :=
      fun b z Z h => by cases b <;> first | exact wpAny_pure h | exact wpAny_rule h
    have ok : ∀ t2 : SetTable, t2.fits en.size = true → TabW w t2 → wpAny (model P w) A (storeSet a en t2 >>= fun _ => if (!dm && t2.tooFull) = true then ((match (relayAll t2 en (SetTable.grown en.size)).2.2 with | true => rule "set.scan.the-table-gave-way" | false => pure ()) >>= fun _ => storeSet a (relayAll t2 en (SetTable.grown en.size)).1 (relayAll t2 en (SetTable.grown en.size)).2.1 >>= fun _ => pure (some true)) else pure (some true)) (fun r z => wpAny (model P w) A (match r with | some added => pure added | none => setAddHashedIn a (.str k tk) ((strKind P w).hash k) 99999) Q E z) E s := fun t2 f2 w2 => by
      refine ts_tail (D := k :: D) (gv := fun b => match b with | true => rule "set.scan.the-table-gave-way" | false => pure ()) gv hob hx hdat ((el.push is scn).perm perm) mm1 (by rw [sz1, List.length_cons]; exact room) f2 sz1 (List.nodup_cons.mpr ⟨hk, nd⟩) w2 fun h' sb r => ?_
      exact wpAny_pure (fin h' (k :: D) true sb (fun x => by rw [List.mem_cons]; exact Or.comm) (Nat.le_refl _) r)
    refine wpAny_bind (gv _ _ _ ?_)
    by_cases pl : tn.plain = true
    · rw [if_pos pl]
      refine wpAny_bind ?_
      rw [hashByValue_scannable 8 scn]
      refine wpAny_pure (ok _ ?_ ?_)
      · show SetTable.fits (if plainKind (.str k tk) = true then tn else _) _ = true
        exact SetTable.fits_plain_off fit1
      · show TabW w (if plainKind (.str k tk) = true then tn else _)
        exact ⟨tw1.up, tw1.led⟩
    · rw [if_neg pl]
      exact wpAny_bind (wpAny_pure (ok tn fit1 tw1))
end
end Ag
namespace Ag
open PySem PySem.Spec PyProof.Rows L2
section
variable {P : Program} {w : World} {A : Around} {E : Value → Shared → Prop} {s : Shared}
/-- a set as it is made -/
abbrev freshS (w : World) : Obj := { cls := .type "set", dict := none, data := .set #[] 0 (.fresh 0 0 (!w.params.followText "set-order")) }
theorem ts_fresh {h : Heap} {a : Addr} (e : h.get? a = some (freshS w)) : TxtSet P w h a [] :=
  ⟨_, #[], 0, _, e, ⟨rfl, rfl, rfl⟩, rfl, fun x hx => by simp at hx, fun k => by simp, by decide, by rfl, rfl, .nil, .nil, by
    show _ ∨ (!w.params.followText "set-order") = true
    cases w.params.followText "set-order" <;> simp⟩
theorem ts_update {I : Addr} {fp wr : List Addr} {G : Array GenState → Array GenState → Prop} {n : Nat} {Pv : Nat → Value → Prop} {St : Nat → Shared → Prop} {R : Result → Shared → Prop}
    (W : WalksS P w A.in1 I fp wr G n Pv St) (T : Addr) (hT : T ∉ fp) (xs : List Str) (hn : n = xs.length) (few : xs.length + 1 < scanBound) (hv : ∀ i v, Pv i v → ∃ k t, xs[i]? = some k ∧ v = .str k t) :
    ∀ (j i : Nat) (z : Shared), n - i = j → i ≤ n → St i z → (∃ D, D.length ≤ i ∧ (∀ x, x ∈ D ↔ x ∈ xs.take i) ∧ TxtSet P w z.heap T D) →
      (∀ z' D, Moved (T :: wr) G z z' → D.length ≤ n → (∀ x, x ∈ D ↔ x ∈ xs) → TxtSet P w z'.heap T D → R (.ok (.ret .none)) z') →
      codeAny (model P w) A (.builtin "set.update.loop" ⟨[.ref T, .ref I], []⟩) R z := by
  have hw : T ∉ wr := fun h => hT (W.sub _ h)
  have wider : ∀ b ∈ wr, b ∈ T :: wr := fun b hb => List.mem_cons_of_mem _ hb
  intro j
  induction j with
  | zero =>
    intro i z hj hi st ⟨D, dl, dm, dS⟩ fin
    obtain rfl : i = n := by omega
    refine codeAny_builtin PyProof.Rows.F.entry_set_update_loop ?_
    rw [Around.under_plainId PyProof.Rows.F.plain_set_update_loop _]
    refine wpAny_bind (m := pyNext (.ref I)) (W.done z _ _ st fun z' mv => wpAny_pure (fin z' D (mv.mono wider) dl (fun x => ?_) (dS.go fun o e => mv.heap T o hw e)))
    rw [dm x, List.take_of_length_le (by omega)]
  | succ j ih =>
    intro i z hj hi st ⟨D, dl, dm, dS⟩ fin
    have lt : i < n := by omega
    refine codeAny_builtin PyProof.Rows.F.entry_set_update_loop ?_
    rw [Around.under_plainId PyProof.Rows.F.plain_set_update_loop _]
    refine wpAny_bind (m := pyNext (.ref I)) (W.item i z _ _ lt st fun v z' hP st' mv => ?_)
    obtain ⟨k, t, hk, rfl⟩ := hv i v hP
    have dS' : TxtSet P w z'.heap T D := dS.go fun o e => mv.heap T o hw e
    refine wpAny_bind (m := holding [Value.str k t] (setAdd T (.str k t))) (wpAny_holding ?_)
    unfold setAdd
    refine wpAny_holding (wpAny_bind ((PySem.strKind P w).pyHash (k := k) (by show Value.isStrOf k (.str k t) = true; simp [Value.isStrOf]) ?_))
    refine ts_add (s := { z' with toks := z'.toks + 1 }) dS' (by omega) fun h' D' b sb d1 d2 d3 => ?_
    refine wpAny_pure ⟨plainId_quiet PyProof.Rows.F.plain_set_update_loop _, ih (i + 1) _ (by omega) lt (W.frame _ z' _ _ st' (Nat.le_succ _) fun c hc o e => ?_) ⟨D', by omega, fun x => ?_, d3⟩ fun z2 D2 m2 e1 e2 e3 => ?_⟩
    · rw [sb.2 c (by rintro rfl; exact hT hc)]
      exact e
    · rw [d1 x, dm x, List.take_add_one, hk, List.mem_append]
      simp
    · refine fin z2 D2 (Moved.trans W.gtrans ((mv.mono wider).then_heap (Nat.le_succ _) fun c o hc e => ?_) m2) e1 e2 e3
      rw [sb.2 c (by rintro rfl; exact hc List.mem_cons_self)]
      exact e
set_option maxRecDepth 100000 in
set_option maxHeartbeats 3200000 in
theorem ts_of_list {l : Addr} {its : Array Value} (xs : List Str) {Q : Value → Shared → Prop} (hh : A.handled = none) (hl : s.heap.IsList l its) (hs : StrsAre its.toList xs) (few : xs.length + 1 < scanBound)
    (fin : ∀ (h' : Heap) (tk : Nat) (D : List Str), TxtSet P w h' s.heap.objs.size D → D.length ≤ xs.length → (∀ x, x ∈ D ↔ x ∈ xs) → (∀ b o, s.heap.get? b = some o → h'.get? b = some o) → Q (.ref s.heap.objs.size) { s with heap := h', toks := tk }) :
    wpAny (model P w) A (call (.type "set") [.ref l]) Q E s := by
  have isz : its.size = xs.length := by rw [← Array.length_toList]; exact StrsAre.length hs
  obtain ⟨_, _, mro⟩ := PySem.F.called_set.mro
  have made := PySem.F.called_set.made
  have sub := PySem.F.called_set.sub
  refine wpAny_call (codeAny_of_tree ?_)
  refine wpAny_pure (M := model P w) ⟨Code.quiet_builtin _ (by decide +kernel), codeAny_builtin PySem.F.entry_type_call ?_⟩
  rw [Around.under_plain (weight_type_call_type "set" [.ref l] []) rfl]
  have nt := PySem.F.called_set.notType
  have cc := PySem.F.called_set.canCreate
  have tc := PySem.F.typeCall_set_1 (.ref l)
  repeat (any_goals (first | assumption | wp_step))
  refine codeAny_mono (code_set_led1 (.ref l) (E := E) (Q₁ := fun obj z => obj = .ref s.heap.objs.size ∧ z = { s with heap := s.heap.push (freshS w) }) ⟨rfl, rfl⟩) fun r z hz => ?_
  cases r with
  | error e => exact hz
  | ok fl =>
    cases fl with
    | ret obj =>
      obtain ⟨rfl, rfl⟩ := hz
      have gS : (s.heap.push (freshS w)).get? s.heap.objs.size = some (freshS w) := Heap.get?_push_size _ rfl
      have tS : Shared.TypeIs { s with heap := s.heap.push (freshS w) } (.ref s.heap.objs.size) "set" := ⟨_, gS, rfl⟩
      have li := PySem.F.called_set.init.lookup
      have bi := PySem.F.called_set.init.bind (.ref s.heap.objs.size)
      repeat (any_goals (first | assumption | wp_step))
      refine codeAny_mono (codeAny_call_builtin (R := wants (fun r z => r = .none ∧ ∃ h' tk D, z = { s with heap := h', toks := tk } ∧ TxtSet P w h' s.heap.objs.size D ∧ D.length ≤ xs.length ∧ (∀ x, x ∈ D ↔ x ∈ xs) ∧
          (∀ b o, s.heap.get? b = some o → h'.get? b = some o)) E) PySem.F.called_set.init.plain PySem.F.entry_set_init (check_set_init_1 tS ?_)) fun r z hz => ?_
      · obtain ⟨⟨oc, od, oda, osl⟩, hol, hcl, nl, hdl⟩ := hl
        simp only at hcl hdl
        subst hcl hdl
        have hol2 : (s.heap.push (freshS w)).get? l = some { cls := .type "list", dict := od, data := .seq its nl, slots := osl } := Heap.get?_push_of_some _ hol
        have q1 := PySem.F.sub_list_set
        have q2 := PySem.F.sub_list_frozenset
        have q3 : (Value.type "list" == Value.type "dict") = false := by decide
        have isl : (s.heap.push (freshS w)).IsList l its := ⟨_, hol2, rfl, nl, rfl⟩
        unfold Builtin.«set.__init__» noKeywords Builtin.Frozenset.updateFrom
        generalize hPI : pyIter = PI
        wp_walk
        subst hPI
        refine wpAny_pyIter_list isl (wpAny_bind (wpAny_runValue ?_))
        have llt : l < s.heap.objs.size := Heap.lt_size hol
        have h3 : A.in1.in1.in1.handled = none := by simp [hh]
        have sz : (s.heap.push (freshS w)).objs.size = s.heap.objs.size + 1 := Heap.size_push ..
        have n1 : l ≠ (s.heap.push (freshS w)).objs.size := by rw [sz]; exact Nat.ne_of_lt (Nat.lt_succ_of_lt llt)
        have n2 : s.heap.objs.size ∉ [(s.heap.push (freshS w)).objs.size, l] := by
          rw [sz]
          simp only [List.mem_cons, List.not_mem_nil, or_false, not_or]
          exact ⟨Nat.ne_of_lt (Nat.lt_succ_self _), Nat.ne_of_gt llt⟩
        have hv : ∀ (i : Nat) (v : Value), its[i]? = some v → ∃ k t, xs[i]? = some k ∧ v = .str k t := fun i v h => by
          rw [← Array.getElem?_toList] at h
          obtain ⟨u, h1, h2⟩ := Vals.get (i := i) (x := .str (xs[i]'(by rw [← isz, ← Array.length_toList]; exact (List.getElem?_eq_some_iff.mp h).1))) (vals_of_strs hs) (by rw [List.getElem?_map, List.getElem?_eq_getElem (by rw [← isz, ← Array.length_toList]; exact (List.getElem?_eq_some_iff.mp h).1)]; rfl)
          rw [h] at h1
          cases h1
          obtain ⟨t, e⟩ := h2
          exact ⟨_, t, List.getElem?_eq_getElem _, e⟩
        refine ts_update ((Walks.list h3 _ l n1 its).toS) s.heap.objs.size n2 xs isz few hv (its.size - 0) 0 _ (by omega) (Nat.zero_le _) ⟨⟨_, Heap.get?_push_size _ rfl, rfl, rfl⟩, isl.push _⟩
          ⟨[], Nat.le_refl _, fun x => by simp, ts_fresh (Heap.get?_push_of_some _ gS)⟩ fun z' D mv dl dm dS => ?_
        obtain ⟨h', g', d', tk', os'⟩ := z'
        obtain rfl : g' = s.gens := mv.gens
        obtain rfl : d' = s.drawn := mv.drawn
        obtain rfl : os' = s.os := mv.os
        refine wpAny_pure (M := model P w) (wpAny_pure (M := model P w) ⟨rfl, h', tk', D, rfl, dS, by rw [← isz]; exact dl, dm, fun b o e => ?_⟩)
        have blt : b < s.heap.objs.size := Heap.lt_size e
        refine mv.heap b o (fun hm => ?_) (Heap.get?_push_of_some _ (Heap.get?_push_of_some _ e))
        rcases List.mem_cons.mp hm with hm | hm
        · exact Nat.ne_of_lt blt hm
        · rw [List.mem_singleton, sz] at hm
          exact Nat.ne_of_lt (Nat.lt_succ_of_lt blt) hm
      · cases r with
        | error e => exact hz
        | ok fl2 =>
          cases fl2 with
          | ret r =>
            obtain ⟨rfl, h', tk, D, rfl, dS, dl, dm, kp⟩ := hz
            repeat (any_goals (first | assumption | wp_step))
            exact fin _ _ _ dS dl dm kp
          | _ => exact hz.elim
    | _ => exact hz.elim
end
end Ag

namespace Ag
open PySem PySem.Spec PyProof.Rows L2
theorem perm_of_sub : ∀ {D l : List Str}, D.Nodup → (∀ x ∈ D, x ∈ l) → l.length = D.length → l.Perm D
  | [], l, _, _, h => by
    rw [List.length_eq_zero_iff.mp h]
  | x :: D, l, nd, hs, h => by
    obtain ⟨n1, n2⟩ := List.nodup_cons.mp nd
    have hx := hs x List.mem_cons_self
    have len := List.length_erase_of_mem hx
    refine (List.perm_cons_erase hx).trans (List.Perm.cons x (perm_of_sub n2 (fun y hy => ?_) ?_))
    · have hne : y ≠ x := fun e => n1 (e ▸ hy)
      exact (List.mem_erase_of_ne hne).2 (hs y (List.mem_cons_of_mem _ hy))
    · rw [len, h]
      rfl
section
variable {P : Program} {w : World} {A : Around} {E : Value → Shared → Prop} {s : Shared} {a : Addr} {D : List Str}
theorem is_txt {k : Str} {v : Value} (h : (PySem.strKind P w).is k v = true) : ∃ t, v = .str k t := Value.isStrOf_shape h
/-- the members, read off the entries -/
theorem ts_texts {l : List (Int × Value)} (el : ElemsOf (PySem.strKind P w) l) (mm : ∀ k, k ∈ D ↔ ∃ e ∈ l, (PySem.strKind P w).is k e.2 = true) (hn : l.length = D.length) (nd : D.Nodup) :
    (∀ e ∈ l, ∃ x t, e.2 = .str x t) ∧ (l.map fun e => strOf e.2).Perm D := by
  have sh : ∀ e ∈ l, ∃ x t, e.2 = .str x t := fun e he => by
    obtain ⟨⟨k, h1, _⟩, _⟩ := el e he
    obtain ⟨t, e1⟩ := is_txt h1
    exact ⟨k, t, e1⟩
  refine ⟨sh, List.Perm.symm ?_⟩
  have sub : ∀ x ∈ D, x ∈ l.map fun e => strOf e.2 := fun x hx => by
    obtain ⟨e, he, h1⟩ := (mm x).1 hx
    obtain ⟨t, e1⟩ := is_txt h1
    exact List.mem_map.mpr ⟨e, he, by rw [e1]; rfl⟩
  exact (perm_of_sub nd sub (by rw [List.length_map, hn])).symm
/-- sorted(a set of texts) -/
theorem ts_sorted {Q : Value → Shared → Prop} (R : TxtSet P w s.heap a D) (hh : A.handled = none)
    (fin : ∀ z p (out : Array Value) (c : Nat) (ys : List Str), (∀ b o, s.heap.get? b = some o → z.heap.get? b = some o) → z.gens = s.gens → z.os = s.os → s.heap.objs.size ≤ p →
      z.heap.get? p = some (seqObj "list" out c) → StrsAre out.toList ys → ys.Perm D → sortedS ys = true → Q (.ref p) z) :
    wpAny (model P w) A (call (.builtin "sorted") [.ref a]) Q E s := by
  obtain ⟨ob, ents, ep, tab, hob, hx, hdat, el, mm, hlt, hfit, hsz, nd, tw⟩ := R
  obtain ⟨sh, pm⟩ := ts_texts el mm (by rw [Array.length_toList]; exact hsz) nd
  refine Calls.call_function_entry kind_sorted plain_sorted entry_sorted (args_sorted1 _) ?_
  unfold Builtin.«sorted»
  refine wpAny_bind (m := checkCount "sorted" 1 1 _) (wpAny_pure (wpAny_bind ?_))
  refine collect_set (A := A.in1) hh ⟨ob, hob, hx.1, hdat⟩ hfit hlt tw.up tw.led fun z vs kp hz gz oz pv => ?_
  have lv : vs.length = ents.size := by rw [pv.length_eq, List.length_map, Array.length_toList]
  have sv : StrsAre vs (vs.map strOf) := strsAre_map vs fun v hv => by
    obtain ⟨e, he, q⟩ := List.mem_map.mp (pv.mem_iff.mp hv)
    rw [← q]
    exact sh e he
  have pD : (vs.map strOf).Perm D := by
    have := pv.map strOf
    rw [List.map_map] at this
    exact this.trans pm
  refine wpAny_bind (wpAny_newList ?_ (by rw [lv]; exact fits_of_scanBound hlt))
  have gL : (z.heap.push (seqObj "list" vs.toArray 0)).get? z.heap.objs.size = some (seqObj "list" vs.toArray 0) := Heap.get?_push_size _ rfl
  refine wpAny_bind (wpAny_holding (wpAny_call_entry slot_list_sort ⟨_, gL, rfl⟩ entry_list_sort (list_sort_treeKAny strKind_oneLt gL sv.keysOf (fun v₁ v₂ rest e => keyKind_strs (by rw [← e]; exact sv)) (by rw [lv]; exact fits_of_scanBound hlt) fun st hp hs => ⟨_, rfl, ?_⟩) (args_list_sort _)))
  obtain ⟨ys, y1, y2, y3⟩ := sorted_out_str sv hp hs
  obtain ⟨c, hc⟩ := sortedHeap_at (vs := vs) (out := (arrOf st).map (·.2)) gL
  refine wpAny_pure ⟨_, rfl, fin _ z.heap.objs.size _ c ys (fun b u e => ?_) gz oz hz hc y1 (y2.trans pD) y3⟩
  have blt := Heap.lt_size (kp b u e)
  show (sortedHeap (z.heap.push (seqObj "list" vs.toArray 0)) z.heap.objs.size vs _).get? b = some u
  rw [sortedHeap_old (Nat.ne_of_lt blt) (by rw [size_push']; exact Nat.lt_succ_of_lt blt)]
  exact Heap.get?_push_of_some _ (kp b u e)
end
/-- a set of texts in the layer's heap -/
def TsO (P : Program) (w : World) (a : Addr) (D : List Str) : HO := .ext fun h => TxtSet P w h a D
theorem tsO_ok {P : Program} {w : World} {H : Hp} {h : Heap} {a : Addr} {D : List Str} (R : TxtSet P w h a D) : ObjOk P w H h a (TsO P w a D) := by
  have ⟨ob, _, _, _, hob, _⟩ := R
  exact ⟨R, ⟨ob, hob⟩, fun h1 h2 p k => TxtSet.go p k⟩
section
variable {X : Cx}
/-- set(xs), xs a list of texts -/
def rSetS (K : PySem.W.Frag) (P : Program) (w : World) : List V → Hp → VK → Prop := fun xs H Q => ∃ (l : Addr) (zs : List Str), xs = [.ref l] ∧ SqL K H l (zs.map V.str) ∧ zs.length + 1 < scanBound ∧
  ∀ a D, H a = none → (∀ x, x ∈ D ↔ x ∈ zs) → Q (.ref a) (upd H a (TsO P w a D))
theorem cr_setS (hc : X.calm = true) : CallR X (.type "set") (rSetS X.K X.prog X.w) := by
  intro pins s σ H xs us Q I r h
  obtain ⟨l, zs, rfl, hl, few, q⟩ := h
  rw [Vals.ref1 r]
  obtain ⟨its, rv, pl, _⟩ := I.list hl
  refine ts_of_list zs (I.ok.hd hc) pl.isList (by simpa using rv.strs) few fun h' tk D R _ dm k => ?_
  exact ⟨V.ref s.heap.objs.size, upd H s.heap.objs.size (TsO X.prog X.w s.heap.objs.size D), I.laid (t' := tk) k (Nat.le_refl _) (tsO_ok R), rfl, q _ D (I.hok.fresh (Nat.le_refl _)) dm⟩
/-- sorted(set) -/
def rSortedTS (P : Program) (w : World) : List V → Hp → VK → Prop := fun xs H Q => ∃ (a : Addr) (D : List Str), xs = [.ref a] ∧ H a = some (TsO P w a D) ∧
  ∀ (p : Addr) (ys : List Str), ys.Nodup → (∀ x, x ∈ ys ↔ x ∈ D) → sortedS ys = true → H p = none → Q (.ref p) (upd H p (.lst (ys.map V.str)))
theorem cr_sortedTS (hc : X.calm = true) : CallR X (.builtin "sorted") (rSortedTS X.prog X.w) := by
  intro pins s σ H xs us Q I r h
  obtain ⟨a, D, rfl, ha, q⟩ := h
  have R : TxtSet X.prog X.w s.heap a D := (I.hok a _ ha).1
  rw [Vals.ref1 r]
  refine ts_sorted R (I.ok.hd hc) fun z p out c ys kp gz oz hp hg hs pm so => ?_
  obtain ⟨ob, ents, ep, tab, hob, hx, hdat, el, mm, hlt, hfit, hsz, nd, tw⟩ := R
  have len : (ys.map V.str).length ≤ sizeLine := by
    rw [List.length_map, pm.length_eq, ← hsz]
    exact fits_of_scanBound hlt
  have np : H p = none := I.hok.fresh hp
  have J : Inv X pins σ (upd H p (.lst (ys.map V.str))) { s with heap := z.heap, gens := z.gens, drawn := z.drawn, toks := z.toks } :=
    I.call (ch := []) (Un.laid kp hp np) (I.hok.laid kp hp ⟨len, out.toList, c, vals_of_strs hs, hg⟩) (by rw [gz]; exact I.bare) (fun _ z => nomatch z)
  have e : z = { s with heap := z.heap, gens := z.gens, drawn := z.drawn, toks := z.toks } := by
    cases z
    cases s
    cases oz
    rfl
  rw [e]
  exact ⟨.ref p, _, J, rfl, q p ys (pm.nodup_iff.mpr nd) (fun x => pm.mem_iff) so np⟩
end
end Ag

namespace Ag
open PySem PySem.Spec PyProof.Rows L2
section
variable {P : Program} {w : World} {A : Around} {E : Value → Shared → Prop} {s : Shared}
/-- xs.extend(t), t a tuple -/
theorem ext_tup {l b : Addr} {xs ys : Array Value} {n m : Nat} {ob : Obj} {Q : PySem.Fin → Shared → Prop} (hl : s.heap.get? l = some { cls := .type "list", data := .seq xs n }) (hb : s.heap.get? b = some ob) (hc : ob.cls = .type "tuple") (hd : ob.data = .seq ys m) (hz : xs.size + ys.size ≤ sizeLine)
    (q : Q (.done (.ret .none)) { s with heap := s.heap.update l (Obj.mapSeq (· ++ ys)) }) : wpAny (model P w) A (Builtin.List.listExtendWith (.ref l) (.ref b) .none) Q E s := by
  unfold Builtin.List.listExtendWith
  refine wpAny_bind (wpAny_typeOf ⟨ob, hb, hc⟩ ?_)
  have h1 : (Builtin.List.listSameRef (.ref l) (.ref b) || Value.type "tuple" == Value.type "list" || Value.type "tuple" == Value.type "tuple") = true := by simp
  simp only [h1, if_true]
  unfold Builtin.List.listItems
  refine wpAny_bind (wpAny_bind (wpAny_seqItems hb hd (wpAny_pure ?_)))
  refine wpAny_bind (wpAny_bind (wpAny_seqItems hl rfl (wpAny_pure ?_)))
  have h2 : (!xs.isEmpty && Builtin.List.listTooLong (xs.size + ys.size)) = false := by
    unfold Builtin.List.listTooLong
    rw [decide_eq_false (by omega), Bool.and_false]
  simp only [h2, Bool.false_eq_true, if_false]
  refine wpAny_bind (m := updateSeq l (· ++ ys)) (wpAny_updateSeq hl rfl (wpAny_pure q))
end
def rExtT (K : PySem.W.Frag) : V → List V → Hp → VK → Prop := fun x vs H Q => ∃ l b xs zs, x = .ref l ∧ vs = [.ref b] ∧ H l = some (.lst xs) ∧ SqT K H b zs ∧ xs.length + zs.length ≤ sizeLine ∧ Q .non (upd H l (.lst (xs ++ zs)))
theorem mt_extT {X : Cx} : MtM X "list.extend" (rExtT X.K) := by
  intro pins s σ H x vs v us Q I rx rv h
  obtain ⟨l, b, xs, zs, rfl, rfl, hH, hB, hz, q⟩ := h
  cases rx
  obtain ⟨u, rfl, ru⟩ := rv.one
  cases ru
  obtain ⟨z, its, n, r, hl, e⟩ := I.lstM hH
  obtain ⟨its2, r2, ⟨ob, e2, hc, m, hd⟩, _⟩ := I.tuple hB
  have l2 := r2.length
  refine wpAny_call_entry PySem.F.slot_list_extend ⟨_, e, rfl⟩ PySem.F.entry_list_extend (ext_tup e e2 hc hd (by rw [List.size_toArray, List.size_toArray]; omega) ⟨_, rfl, ?_⟩) (PySem.F.args_list_extend_2 _ _)
  refine ⟨.non, _, I.lset (its' := its ++ its2) (t' := s.toks) hH e (by simp) (r.append r2) ?_, rfl, q⟩
  rw [List.length_append]
  omega
end Ag

namespace Ag
open PySem PySem.Spec PyProof.Rows L2
/-! ### dicts of the written part: get, in -/
/-- what the written dict at a has at x -/
def KdAt (K : PySem.W.Frag) (w : World) (a : Addr) (x : Str) (o : Option V) : Prop :=
  ∃ es n r, K.lookup a = some ⟨.type "dict", none, .dict es n, #[]⟩ ∧ PySem.W.KeysLit w.params es.toList ∧ (a == sysModules) = false ∧ PySem.W.nsIn K a x = some r ∧ RelO o r
theorem KdAt.dct {K : PySem.W.Frag} {w : World} {a : Addr} {x : Str} {v : V} (h : KdAt K w a x (some v)) : KDct K w a x v := by
  obtain ⟨es, n, r, h1, h2, h3, h4, h5⟩ := h
  cases r with
  | none => exact h5.elim
  | some u => exact ⟨es, n, u, h1, h2, h4, h5⟩
/-- a is a written dict -/
def KdIs (K : PySem.W.Frag) (w : World) (a : Addr) : Prop := ∃ es n, K.lookup a = some ⟨.type "dict", none, .dict es n, #[]⟩ ∧ PySem.W.KeysLit w.params es.toList
theorem KdAt.is {K : PySem.W.Frag} {w : World} {a : Addr} {x : Str} {o : Option V} (h : KdAt K w a x o) : KdIs K w a := by
  obtain ⟨es, n, r, h1, h2, _⟩ := h
  exact ⟨es, n, h1, h2⟩
section
variable {X : Cx} {pins : List (Addr × Obj)} {σ : L2.St} {H : Hp} {s : Shared} {a : Addr} {z : Str} {o : Option V}
theorem kd_map {es : Array DictEntry} {n : Nat} (I : Inv X pins σ H s) (h : X.K.lookup a = some ⟨.type "dict", none, .dict es n, #[]⟩) (k : PySem.W.KeysLit X.w.params es.toList) :
    s.heap.MapOf (PySem.strKind X.prog X.w) a (fun k => findBy Value.isStrOf es k) := PySem.W.mapOf_K (prog := X.prog) (w := X.w) I.kIn h k
def tKGet1 (K : PySem.W.Frag) (w : World) (td ty : TE) : TE := fun σ H Q => td σ H fun x H1 => ∃ a, x = .ref a ∧ KdIs K w a ∧ ty σ H1 fun y H2 => ∃ z o, y = .str z ∧ KdAt K w a z o ∧ Q (o.getD .non) H2
theorem pe_kget1 {e e2 : Expr} {td ty : TE} {apos cpos : Pos} (ho : PE X e td) (he : PE X e2 ty) (m : M1 X e "get" apos e2 cpos) : PE X (.Call (.Attribute e "get" apos) [e2] [] cpos) (tKGet1 X.K X.w td ty) := by
  refine ⟨fun pins s σ H Q I h => ?_⟩
  refine wpAny_Call_method m.base m.few m.line PySem.F.plainAttrs_dict PySem.F.slot_dict_get PySem.F.type_dict_get (thn (ho.run pins s σ H _ I h) fun u s1 ⟨x, H1, I1, rx, a, ex, ⟨es, n, hl, hk⟩, q1⟩ => ?_)
  subst ex
  obtain rfl : u = Value.ref a := rx
  have hm := kd_map I1 hl hk
  refine ⟨hm.typeIs, hm.noDict, ?_⟩
  rw [m.trees]
  refine Calls.callWith_builtin rfl (Calls.evalArgs_plain (Calls.spliced_cons (thn (he.run pins s1 σ H1 _ I1 q1) fun iv s2 ⟨y, H2, I2, ry, z, ov, ey, kd, q2⟩ => Calls.spliced_nil ?_)))
  subst ey
  obtain ⟨t, rfl⟩ := ry
  obtain ⟨es', n', r, hl', hk', low, hn, rr⟩ := kd
  have hm2 := kd_map I2 hl' hk'
  refine call_meetsIn PySem.F.slot_dict_get hm2.typeIs PySem.F.entry_dict_get (PySem.F.args_dict_get_2 _ _) (meets_dict_get (PySem.strKind X.prog X.w) a (strKind_is X.prog X.w z t) low) ⟨_, hm2, _, H2, I2.tok _, ?_, q2⟩
  rw [PySem.W.find_K hl' hn]
  exact rr.getD rfl
def tKGet2 (K : PySem.W.Frag) (w : World) (td ty tx : TE) : TE := fun σ H Q => td σ H fun x H1 => ∃ a, x = .ref a ∧ KdIs K w a ∧ ty σ H1 fun y H2 => tx σ H2 fun d H3 => ∃ z o, y = .str z ∧ KdAt K w a z o ∧ Q (o.getD d) H3
theorem pe_kget2 {e e2 e3 : Expr} {td ty tx : TE} {apos cpos : Pos} (ho : PE X e td) (he : PE X e2 ty) (hf : PE X e3 tx) (m : M2 X e "get" apos e2 e3 cpos) : PE X (.Call (.Attribute e "get" apos) [e2, e3] [] cpos) (tKGet2 X.K X.w td ty tx) := by
  refine ⟨fun pins s σ H Q I h => ?_⟩
  refine wpAny_Call_method m.base m.few m.line PySem.F.plainAttrs_dict PySem.F.slot_dict_get PySem.F.type_dict_get (thn (ho.run pins s σ H _ I h) fun u s1 ⟨x, H1, I1, rx, a, ex, ⟨es, n, hl, hk⟩, q1⟩ => ?_)
  subst ex
  obtain rfl : u = Value.ref a := rx
  have hm := kd_map I1 hl hk
  refine ⟨hm.typeIs, hm.noDict, ?_⟩
  rw [m.trees]
  refine Calls.callWith_builtin rfl (Calls.evalArgs_plain (Calls.spliced_cons (thn (he.run pins s1 σ H1 _ I1 q1) fun iv s2 ⟨y, H2, I2, ry, q2⟩ =>
    Calls.spliced_cons (thn (hf.run pins s2 σ H2 _ I2 q2) fun fv s3 ⟨d, H3, I3, rd, z, ov, ey, kd, q3⟩ => Calls.spliced_nil ?_))))
  subst ey
  obtain ⟨t, rfl⟩ := ry
  obtain ⟨es', n', r, hl', hk', low, hn, rr⟩ := kd
  have hm2 := kd_map I3 hl' hk'
  refine call_meetsIn PySem.F.slot_dict_get hm2.typeIs PySem.F.entry_dict_get (PySem.F.args_dict_get_3 _ _ _) (meets_dict_get_default (PySem.strKind X.prog X.w) a (strKind_is X.prog X.w z t) low fv) ⟨_, hm2, _, H3, I3.tok _, ?_, q3⟩
  rw [PySem.W.find_K hl' hn]
  exact rr.getD rd
/-- k in d, k not in d -/
def rKIn (K : PySem.W.Frag) (w : World) (neg : Bool) : R2 := fun x y H Q => ∃ a z o, x = .str z ∧ y = .ref a ∧ KdAt K w a z o ∧ Q (.bl (if neg then !o.isSome else o.isSome)) H
theorem isO {o : Option V} {r : Option Value} (h : RelO o r) : o.isSome = r.isSome := by
  cases o <;> cases r <;> first | rfl | exact h.elim
theorem op_kin : OpR X (compareOp .In) (rKIn X.K X.w false) := by
  intro pins s σ H x y v u Q I rx ry h
  obtain ⟨a, z, o, rfl, rfl, ⟨es, n, r, hl, hk, low, hn, rr⟩, q⟩ := h
  obtain ⟨t, rfl⟩ := rx
  obtain rfl : u = Value.ref a := ry
  refine wpAny_in_of (strKind_is X.prog X.w z t) low (kd_map I hl hk) ?_
  rw [PySem.W.find_K hl hn, ← isO rr]
  exact ⟨.bl o.isSome, H, I.tok _, rfl, q⟩
theorem op_knin : OpR X (compareOp .NotIn) (rKIn X.K X.w true) := by
  intro pins s σ H x y v u Q I rx ry h
  obtain ⟨a, z, o, rfl, rfl, ⟨es, n, r, hl, hk, low, hn, rr⟩, q⟩ := h
  obtain ⟨t, rfl⟩ := rx
  obtain rfl : u = Value.ref a := ry
  refine wpAny_notIn_of (strKind_is X.prog X.w z t) low (kd_map I hl hk) ?_
  rw [PySem.W.find_K hl hn, ← isO rr]
  exact ⟨.bl (!o.isSome), H, I.tok _, rfl, q⟩
end
end Ag

namespace Ag
open PySem PySem.Spec PyProof.Rows L2
/-! ### a part of a text -/
theorem slice_both (a : List Nat) {i j : Nat} (hij : i ≤ j) : Txt.slice (SX.S a) (some (i : Int)) (some (j : Int)) = SX.S ((a.drop i).take (j - i)) := by
  rw [← C8.cutS_slice]
  unfold cutS
  rw [HT.sIx_nat, HT.sIx_nat, SX.S_len]
  show SX.S ((a.drop (min i a.length)).take (min j a.length - min i a.length)) = _
  by_cases h : i ≤ a.length
  · rw [Nat.min_eq_left h]
    by_cases h2 : j ≤ a.length
    · rw [Nat.min_eq_left h2]
    · rw [Nat.min_eq_right (by omega), List.take_of_length_le (by rw [List.length_drop]; omega), List.take_of_length_le (by rw [List.length_drop]; omega)]
  · rw [Nat.min_eq_right (by omega), Nat.min_eq_right (by omega), List.drop_length, List.drop_eq_nil_of_le (by omega)]
    simp
/-! ### texts of formulas -/
def isl (c : Nat) : Bool := decide (97 ≤ c) && decide (c < 123)
def sgn (k : Fin 3) : Nat := match k with
  | 0 => 62
  | 1 => 38
  | 2 => 124
def txt : Fm → List Nat
  | .fls => [48]
  | .atom w => w
  | .hole c => 63 :: c
  | .bin k a b => 40 :: (txt a ++ ([32, sgn k, 32] ++ (txt b ++ [41])))
def kndOf (cs : List Nat) : Option (Fin 3) := if cs = [32, 62, 32] then some 0 else if cs = [32, 38, 32] then some 1 else if cs = [32, 124, 32] then some 2 else none
theorem kndOf_sgn (k : Fin 3) : kndOf [32, sgn k, 32] = some k := by
  revert k
  decide +kernel
theorem kndOf_some {cs : List Nat} {k : Fin 3} (h : kndOf cs = some k) : cs = [32, sgn k, 32] := by
  unfold kndOf at h
  by_cases h1 : cs = [32, 62, 32]
  · rw [if_pos h1] at h
    cases h
    exact h1
  · rw [if_neg h1] at h
    by_cases h2 : cs = [32, 38, 32]
    · rw [if_pos h2] at h
      cases h
      exact h2
    · rw [if_neg h2] at h
      by_cases h3 : cs = [32, 124, 32]
      · rw [if_pos h3] at h
        cases h
        exact h3
      · rw [if_neg h3] at h
        cases h
/-- a name at the head -/
def prA (cs : List Nat) : Option (Fm × List Nat) := if isNm (cs.takeWhile isl) then some (.atom (cs.takeWhile isl), cs.dropWhile isl) else none
def prH (cs : List Nat) : Option (Fm × List Nat) := if isLet (cs.take 1) then some (.hole (cs.take 1), cs.drop 1) else none
/-- a formula at the head, and what is behind it -/
def prs : Nat → Bool → List Nat → Option (Fm × List Nat)
  | 0, _, _ => none
  | d + 1, h, cs =>
    if cs.take 1 = [40] then match prs d h (cs.drop 1) with
      | none => none
      | some (a, r1) => match kndOf (r1.take 3) with
        | none => none
        | some k => match prs d h (r1.drop 3) with
          | none => none
          | some (b, r2) => if r2.take 1 = [41] then some (.bin k a b, r2.drop 1) else none
    else if cs.take 1 = [48] then some (.fls, cs.drop 1)
    else if cs.take 1 = [63] then (if h = true then prH (cs.drop 1) else none)
    else prA cs
theorem isNm_all {w : List Nat} (h : isNm w = true) : (∀ c ∈ w, isl c = true) ∧ 1 ≤ w.length := by
  unfold isNm at h
  simp only [Bool.and_eq_true, List.all_eq_true, decide_eq_true_eq] at h
  refine ⟨fun c hc => ?_, h.1.1⟩
  unfold isl
  rw [Bool.and_eq_true, decide_eq_true_eq, decide_eq_true_eq]
  exact h.2 c hc
theorem take_while_app : ∀ {w r : List Nat}, (∀ c ∈ w, isl c = true) → (∀ c, r.head? = some c → isl c = false) → (w ++ r).takeWhile isl = w ∧ (w ++ r).dropWhile isl = r
  | [], [], _, _ => ⟨rfl, rfl⟩
  | [], c :: r, _, h => by
    have := h c rfl
    simp [List.takeWhile, List.dropWhile, this]
  | c :: w, r, hw, h => by
    obtain ⟨a, b⟩ := take_while_app (w := w) (r := r) (fun d hd => hw d (List.mem_cons_of_mem _ hd)) h
    have := hw c List.mem_cons_self
    simp [List.takeWhile, List.dropWhile, this, a, b]
theorem while_split : ∀ cs : List Nat, cs = cs.takeWhile isl ++ cs.dropWhile isl
  | [] => rfl
  | c :: r => by
    by_cases h : isl c = true
    · simp only [List.takeWhile, List.dropWhile, h, List.cons_append]
      rw [← while_split r]
    · simp only [Bool.not_eq_true] at h
      simp [List.takeWhile, List.dropWhile, h]
theorem prs_txt : ∀ {d : Nat} {h : Bool} {t : Fm} {r : List Nat}, isB d h t = true → (∀ c, r.head? = some c → isl c = false) → prs d h (txt t ++ r) = some (t, r)
  | 0, h, t, r, hb, _ => by cases t <;> simp [isB] at hb
  | d + 1, h, .fls, r, _, _ => by
    simp [prs, txt]
  | d + 1, h, .atom w, r, hb, hr => by
    have hw : isNm w = true := by simpa [isB] using hb
    obtain ⟨h1, h2⟩ := isNm_all hw
    obtain ⟨e1, e2⟩ := take_while_app h1 hr
    obtain ⟨c, w', rfl⟩ : ∃ c w', w = c :: w' := by
      cases w with
      | nil => simp at h2
      | cons c w' => exact ⟨c, w', rfl⟩
    have hc := h1 c List.mem_cons_self
    unfold isl at hc
    rw [Bool.and_eq_true, decide_eq_true_eq, decide_eq_true_eq] at hc
    have n1 : ¬ c = 40 := by omega
    have n2 : ¬ c = 48 := by omega
    have n3 : ¬ c = 63 := by omega
    have m : ∀ x, ¬ c = x → ¬ (c :: (w' ++ r)).take 1 = [x] := fun x hx e => hx (by simpa using e)
    rw [show txt (Fm.atom (c :: w')) ++ r = c :: (w' ++ r) from rfl]
    unfold prs
    rw [if_neg (m 40 n1), if_neg (m 48 n2), if_neg (m 63 n3)]
    show prA ((c :: w') ++ r) = _
    unfold prA
    rw [e1, e2, if_pos hw]
  | d + 1, h, .hole c, r, hb, _ => by
    simp only [isB, Bool.and_eq_true] at hb
    obtain ⟨h1, h2⟩ := hb
    subst h1
    have hl : c.length = 1 := by
      unfold isLet at h2
      simp only [Bool.and_eq_true, decide_eq_true_eq] at h2
      exact h2.1
    obtain ⟨x, rfl⟩ : ∃ x, c = [x] := List.length_eq_one_iff.mp hl
    show (if (63 :: ([x] ++ r)).take 1 = [40] then _ else _) = _
    rw [if_neg (by show ¬ [63] = [40]; decide), if_neg (by show ¬ [63] = [48]; decide), if_pos (by show [63] = [63]; rfl), if_pos rfl]
    show prH ([x] ++ r) = _
    unfold prH
    simp [h2]
  | d + 1, h, .bin k a b, r, hb, hr => by
    have hb' : isB d h a = true ∧ isB d h b = true := by simpa [isB] using hb
    have e : txt (.bin k a b) ++ r = 40 :: (txt a ++ ([32, sgn k, 32] ++ (txt b ++ (41 :: r)))) := by simp [txt]
    have pa := prs_txt (r := [32, sgn k, 32] ++ (txt b ++ (41 :: r))) hb'.1 (by intro c hc; cases hc; rfl)
    have pb := prs_txt (r := 41 :: r) hb'.2 (by intro c hc; cases hc; rfl)
    rw [e]
    show (if (40 :: (txt a ++ ([32, sgn k, 32] ++ (txt b ++ (41 :: r))))).take 1 = [40] then _ else _) = _
    rw [if_pos (by show [40] = [40]; rfl)]
    show (match prs d h (txt a ++ ([32, sgn k, 32] ++ (txt b ++ (41 :: r)))) with | none => none | some (a, r1) => _) = _
    rw [pa]
    show (match kndOf [32, sgn k, 32] with | none => none | some k' => match prs d h (txt b ++ (41 :: r)) with | none => none | some (b', r2) => if r2.take 1 = [41] then some (Fm.bin k' a b', r2.drop 1) else none) = _
    rw [kndOf_sgn, pb]
    simp
theorem take1 {cs : List Nat} {c : Nat} (h : cs.take 1 = [c]) : cs = c :: cs.drop 1 := by
  cases cs with
  | nil => simp at h
  | cons d r =>
    simp at h
    rw [h]
    rfl
theorem prs_sound : ∀ {d : Nat} {h : Bool} {cs : List Nat} {t : Fm} {r : List Nat}, prs d h cs = some (t, r) → cs = txt t ++ r ∧ isB d h t = true
  | 0, h, cs, t, r, e => by simp [prs] at e
  | d + 1, h, cs, t, r, e => by
    unfold prs at e
    by_cases c1 : cs.take 1 = [40]
    · rw [if_pos c1] at e
      cases p1 : prs d h (cs.drop 1) with
      | none => rw [p1] at e; cases e
      | some x =>
        obtain ⟨a, r1⟩ := x
        rw [p1] at e
        dsimp only at e
        cases p2 : kndOf (r1.take 3) with
        | none => rw [p2] at e; cases e
        | some k =>
          rw [p2] at e
          dsimp only at e
          cases p3 : prs d h (r1.drop 3) with
          | none => rw [p3] at e; cases e
          | some y =>
            obtain ⟨b, r2⟩ := y
            rw [p3] at e
            dsimp only at e
            by_cases c2 : r2.take 1 = [41]
            · rw [if_pos c2] at e
              cases e
              obtain ⟨ea, ia⟩ := prs_sound p1
              obtain ⟨eb, ib⟩ := prs_sound p3
              have e3 := kndOf_some p2
              refine ⟨?_, by simp [isB, ia, ib]⟩
              rw [take1 c1, ea]
              have e4 : r1 = [32, sgn k, 32] ++ r1.drop 3 := by rw [← e3, List.take_append_drop]
              rw [e4, eb, take1 c2]
              simp [txt]
            · rw [if_neg c2] at e
              cases e
    · rw [if_neg c1] at e
      by_cases c2 : cs.take 1 = [48]
      · rw [if_pos c2] at e
        cases e
        exact ⟨take1 c2, rfl⟩
      · rw [if_neg c2] at e
        by_cases c3 : cs.take 1 = [63]
        · rw [if_pos c3] at e
          by_cases c4 : h = true
          · rw [if_pos c4] at e
            unfold prH at e
            by_cases c5 : isLet ((cs.drop 1).take 1) = true
            · rw [if_pos c5] at e
              cases e
              refine ⟨?_, by show (h && isLet ((cs.drop 1).take 1)) = true; rw [c4, c5]; rfl⟩
              show cs = 63 :: ((cs.drop 1).take 1 ++ (cs.drop 1).drop 1)
              rw [List.take_append_drop]
              exact take1 c3
            · rw [if_neg c5] at e
              cases e
          · rw [if_neg c4] at e
            cases e
        · rw [if_neg c3] at e
          unfold prA at e
          by_cases c4 : isNm (cs.takeWhile isl) = true
          · rw [if_pos c4] at e
            cases e
            exact ⟨while_split cs, by simp [isB, c4]⟩
          · rw [if_neg c4] at e
            cases e
/-- the whole text -/
def prW (d : Nat) (h : Bool) (cs : List Nat) : Option Fm := match prs d h cs with
  | some (t, []) => some t
  | _ => none
theorem prW_txt {d : Nat} {h : Bool} {t : Fm} (hb : isB d h t = true) : prW d h (txt t) = some t := by
  have := prs_txt (r := []) hb (fun c hc => by simp at hc)
  rw [List.append_nil] at this
  unfold prW
  rw [this]
theorem prW_sound {d : Nat} {h : Bool} {cs : List Nat} {t : Fm} (e : prW d h cs = some t) : cs = txt t ∧ isB d h t = true := by
  unfold prW at e
  cases p : prs d h cs with
  | none => rw [p] at e; cases e
  | some x =>
    obtain ⟨a, r⟩ := x
    rw [p] at e
    cases r with
    | nil =>
      cases e
      obtain ⟨h1, h2⟩ := prs_sound p
      rw [List.append_nil] at h1
      exact ⟨h1, h2⟩
    | cons _ _ => cases e
end Ag

namespace Ag
open PySem PySem.Spec PyProof.Rows L2
section
variable {X : Cx} {CX : CXT} {k : Nat} {C g : Addr} {fd : FuncData} {ps : List Str} {sp : Sp} {E : XK}
/-! ### len, repr, in, ==, != of an instance that has its own def for it -/
theorem call_lenOwn (hs : PySem.W.findIn X.K (.ref C) "__len__" = some (some (.ref g))) (hf : PySem.W.isFn X.K (.ref g) = true)
    (F : FnOk X.prog X.w X.K X.mg X.base CX k g fd ps sp) (hr : Room (k + 1) X.A) (hb : Binds X.K fd ps []) (hx : Passes CX X E) :
    CallR X (.builtin "len") (fun xs H Q => ∃ a dx fs, xs = [V.ref a] ∧ H a = some (.ins C dx fs) ∧ sp [.ref a] H (fun z H' => ∃ n : Int, z = .int n ∧ 0 ≤ n ∧ n < 2 ^ 63 ∧ Q (.int n) H') E) := by
  intro pins s σ H xs us Q I r h
  obtain ⟨a, dx, fs, rfl, ea, q⟩ := h
  obtain ⟨u, rfl, ru⟩ := r.one
  cases (show u = Value.ref a from ru)
  obtain ⟨mA, O, _⟩ := ins_get I.hok ea
  obtain ⟨od, J, _⟩ := O.look
  obtain ⟨m, hF⟩ := I.fr
  refine PySem.W.len_K hF I.ok.mod.kin J hs hf ?_
  refine wpAny_mono (wpAny_call (SlX.run_at (us := [.ref a]) (ws := [.ref a]) (F.raw hb .nil) hr.in1 I.env0.in1 hx I (.cons rfl .nil) q)) (fun w s' z => ?_) fun _ _ x => x
  obtain ⟨z', H', I', rz, n, en, h0, h1, qz⟩ := z
  subst en
  obtain ⟨t, e⟩ := (show ∃ t, w = Value.int n t from rz)
  cases e
  exact ⟨⟨h0, h1⟩, .int n, H', I'.tok _, ⟨_, rfl⟩, qz⟩
theorem call_reprOwn (hs : PySem.W.findIn X.K (.ref C) "__repr__" = some (some (.ref g))) (hf : PySem.W.isFn X.K (.ref g) = true)
    (F : FnOk X.prog X.w X.K X.mg X.base CX k g fd ps sp) (hr : Room (k + 1) X.A) (hb : Binds X.K fd ps []) (hx : Passes CX X E) :
    CallR X (.builtin "repr") (fun xs H Q => ∃ a dx fs, xs = [V.ref a] ∧ H a = some (.ins C dx fs) ∧ sp [.ref a] H (fun z H' => ∃ x : Str, z = .str x ∧ Q (.str x) H') E) := by
  intro pins s σ H xs us Q I r h
  obtain ⟨a, dx, fs, rfl, ea, q⟩ := h
  obtain ⟨u, rfl, ru⟩ := r.one
  cases (show u = Value.ref a from ru)
  obtain ⟨mA, O, _⟩ := ins_get I.hok ea
  obtain ⟨od, J, _⟩ := O.look
  obtain ⟨m, hF⟩ := I.fr
  refine PySem.W.repr_K (Room.units0 hr.in1) hF I.ok.mod.kin J hs hf ?_
  refine wpAny_mono (wpAny_call (SlX.run_at (us := [.ref a]) (ws := [.ref a]) (F.raw hb .nil) hr.in1 I.env0.in1 hx I (.cons rfl .nil) q)) (fun w s' z => ?_) fun _ _ x => x
  obtain ⟨z', H', I', rz, n, en, qz⟩ := z
  subst en
  obtain ⟨t, e⟩ := (show ∃ t, w = Value.str n t from rz)
  cases e
  exact ⟨.str n, H', I', ⟨_, rfl⟩, qz⟩
/-- x in o, o's class having its own __contains__ that gives a bool -/
theorem op_inOwn (hs : PySem.W.findIn X.K (.ref C) "__contains__" = some (some (.ref g))) (hf : PySem.W.isFn X.K (.ref g) = true)
    (F : FnOk X.prog X.w X.K X.mg X.base CX k g fd ps sp) (hr : Room k X.A) (hb : Binds X.K fd ps []) (hx : Passes CX X E) :
    OpR X (compareOp .In) (fun x y H Q => ∃ b dx fs, y = .ref b ∧ H b = some (.ins C dx fs) ∧ sp [.ref b, x] H (fun z H' => ∃ t : Bool, z = .bl t ∧ Q (.bl t) H') E) := by
  rintro pins s σ H x y v u Q I rx ry ⟨b, dx, fs, rfl, eb, q⟩
  cases ry
  obtain ⟨mA, O, _⟩ := ins_get I.hok eb
  obtain ⟨od, J, _⟩ := O.look
  obtain ⟨m, hF⟩ := I.fr
  refine PySem.W.in_K hF I.ok.mod.kin J hs hf ?_
  refine wpAny_mono (wpAny_call (run_fnR (us := [.ref b, v]) (vs := [.ref b, x]) (F.raw hb .nil) hr hx I (.cons rfl (.cons rx .nil)) q)) (fun w s' z => ?_) fun _ _ x => x
  obtain ⟨z', H', I', rz, t, en, qz⟩ := z
  subst en
  cases (show w = Value.bool t from rz)
  exact wpAny_truthy_bool ⟨.bl t, H', I', rfl, qz⟩
/-- x == y, x's class having its own __eq__, y an instance of the same class -/
theorem op_eqOwn (hn : PySem.W.notFirst X.K C (.ref C) = true) (hs : PySem.W.findIn X.K (.ref C) "__eq__" = some (some (.ref g))) (hf : PySem.W.isFn X.K (.ref g) = true)
    (F : FnOk X.prog X.w X.K X.mg X.base CX k g fd ps sp) (hr : Room k X.A) (hb : Binds X.K fd ps []) (hx : Passes CX X E) :
    OpR X (compareOp .Eq) (fun x y H Q => ∃ a b dx dy fs gs, x = .ref a ∧ y = .ref b ∧ H a = some (.ins C dx fs) ∧ H b = some (.ins C dy gs) ∧ sp [.ref a, .ref b] H Q E) := by
  rintro pins s σ H x y v u Q I rx ry ⟨a, b, dx, dy, fs, gs, rfl, rfl, ea, eb, q⟩
  cases rx
  cases ry
  obtain ⟨mA, O, _⟩ := ins_get I.hok ea
  obtain ⟨od, J, _⟩ := O.look
  obtain ⟨mB, O', _⟩ := ins_get I.hok eb
  obtain ⟨od', J', _⟩ := O'.look
  obtain ⟨m, hF⟩ := I.fr
  show wpAny _ _ (richCompare .Eq _ _) _ _ _
  refine PySem.W.cmp_K (op := .Eq) (tb := .ref C) hr.units0 hF I.ok.mod.kin J J'.type hn hs hf ?_
  refine wpAny_mono (wpAny_call (run_fnR (us := [.ref a, .ref b]) (vs := [.ref a, .ref b]) (F.raw hb .nil) hr hx I (.cons rfl (.cons rfl .nil)) q)) (fun w s' z => ?_) fun _ _ x => x
  obtain ⟨z', H', I', rz, qz⟩ := z
  exact SlX.cmpback rz ⟨z', H', I', rz, qz⟩
/-- x == l, x's class having its own __eq__, l a list -/
theorem op_eqOwnL (hn : PySem.W.notFirst X.K C (.type "list") = true) (hs : PySem.W.findIn X.K (.ref C) "__eq__" = some (some (.ref g))) (hf : PySem.W.isFn X.K (.ref g) = true)
    (F : FnOk X.prog X.w X.K X.mg X.base CX k g fd ps sp) (hr : Room k X.A) (hb : Binds X.K fd ps []) (hx : Passes CX X E) :
    OpR X (compareOp .Eq) (fun x y H Q => ∃ a b dx fs xs, x = .ref a ∧ y = .ref b ∧ H a = some (.ins C dx fs) ∧ SqL X.K H b xs ∧ sp [.ref a, .ref b] H Q E) := by
  rintro pins s σ H x y v u Q I rx ry ⟨a, b, dx, fs, xs, rfl, rfl, ea, eb, q⟩
  cases rx
  cases ry
  obtain ⟨mA, O, _⟩ := ins_get I.hok ea
  obtain ⟨od, J, _⟩ := O.look
  obtain ⟨its, rv, p, hz⟩ := I.list eb
  obtain ⟨oL, hoL, hcL, _⟩ := p.isList
  obtain ⟨m, hF⟩ := I.fr
  show wpAny _ _ (richCompare .Eq _ _) _ _ _
  refine PySem.W.cmp_K (op := .Eq) (tb := .type "list") hr.units0 hF I.ok.mod.kin J (fun A Q E s k q => wpAny_typeOf_ref (k _ _ hoL) (by rw [hcL]; exact q)) hn hs hf ?_
  refine wpAny_mono (wpAny_call (run_fnR (us := [.ref a, .ref b]) (vs := [.ref a, .ref b]) (F.raw hb .nil) hr hx I (.cons rfl (.cons rfl .nil)) q)) (fun w s' z => ?_) fun _ _ x => x
  obtain ⟨z', H', I', rz, qz⟩ := z
  exact SlX.cmpback rz ⟨z', H', I', rz, qz⟩
end
end Ag

namespace Ag
open PySem PySem.Spec PyProof.Rows L2 Builtin
/-! ### C.m(..), m a staticmethod -/
structure SMet (K : PySem.W.Frag) (C : Addr) (mc : Value) (m : Str) (p g : Addr) : Prop where
  rd : PySem.W.readsIn K C mc = true
  ga : PySem.W.specialIn K (.ref C) "__getattribute__" = some (some (.builtin "type.__getattribute__"))
  at_ : PySem.W.findCls K (.ref C) mc m = some (.get (.builtin "staticmethod.__get__") (.ref p) .none (.ref C))
  rc : ∃ rest, PySem.W.recIn K p "staticmethod" = some (.ref g :: rest)
  kp : PySem.W.keepIn K (.ref g) = true
def tSMeth (C : Addr) (sp : Sp) (E : XK) (ta : TE) (t : TA) : TE := fun σ H Q => ta σ H fun x H1 => x = .ref C ∧ t σ H1 fun vs H2 => sp vs H2 Q E
section
variable {X : Cx} {CX : CXT} {k : Nat} {C g p : Addr} {mc : Value} {m : Str} {sp : Sp} {E : XK} {o e : Expr} {es : List Expr} {apos pos : Pos} {ta : TE} {t : TA} {pl : Sem Bool}
theorem getsm_ok {pins : List (Addr × Obj)} {σ : L2.St} {H : Hp} {s : Shared} {A : Around} {F : Value → Shared → Prop} {Q : Value × List Value → Shared → Prop} (I : Inv X pins σ H s) (c : SMet X.K C mc m p g)
    (h : ∀ s', Inv X pins σ H s' → Q (.ref g, []) s') : wpAny (model X.prog X.w) A (getMethod (.ref C) m pl) Q F s := by
  obtain ⟨rest, hp⟩ := c.rc
  refine PySem.W.method_cls I.kIn c.ga ?_
  refine PySem.W.cls_bind I.kIn c.rd c.at_ (wpAny_call (PySem.W.sm_get (s := { s with toks := s.toks + 1 }) I.kIn hp (PySem.W.handed_on rfl ?_)))
  exact h _ (I.tok _)
theorem pe_smeth (he : PE X o ta) (c : SMet X.K C mc m p g) (F : FnR X.prog X.w X.K X.mg X.base CX k g sp) (hr : Room k X.A) (hx : Passes CX X E) (ha : PA X (e :: es) t)
    (hst : starEach (e :: es) X.env = (false, eval e X.env) :: starEach es X.env := by rfl) (hpl : (backTo pos (starEach es X.env)).any (·.1) = false := by rfl)
    (ht : eval (.Call (.Attribute o m apos) (e :: es) [] pos) X.env = (do
      let ov ← eval o X.env
      standAt apos.atName
      let (f, first) ← holding [ov] (getMethod ov m pl)
      callWith pos f first (backTo pos (starEach (e :: es) X.env)) (backToKw pos (keywordEach [] X.env))) := by rfl) :
    PE X (.Call (.Attribute o m apos) (e :: es) [] pos) (tSMeth C sp E ta t) := by
  refine ⟨fun pins s σ H Q I h => ?_⟩
  refine PySem.W.methodCall_KW (pl := pl) (thn (he.run pins s σ H _ I h) fun u s1 ⟨x, H1, I1, rx, ex, q⟩ => ?_) ht
  subst ex
  obtain rfl : u = Value.ref C := rx
  refine getsm_ok I1 c fun s2 I2 => ?_
  refine PySem.W.callWith_K (h₀ := X.base) I2.ok.mod.kin c.kp (thn (ha.run pos pins s2 σ H1 _ I2 q) fun us s3 ⟨vs, H2, I3, rv, q2⟩ => ⟨I3.kIn, ?_⟩) hst hpl
  exact wpAny_call (run_fnR F hr hx I3 rv q2)
theorem pe_smeth0 (he : PE X o ta) (c : SMet X.K C mc m p g) (F : FnR X.prog X.w X.K X.mg X.base CX k g sp) (hr : Room k X.A) (hx : Passes CX X E)
    (ht : eval (.Call (.Attribute o m apos) [] [] pos) X.env = (do
      let ov ← eval o X.env
      standAt apos.atName
      let (f, first) ← holding [ov] (getMethod ov m pl)
      callWith pos f first (backTo pos (starEach [] X.env)) (backToKw pos (keywordEach [] X.env))) := by rfl) :
    PE X (.Call (.Attribute o m apos) [] [] pos) (fun σ H Q => ta σ H fun x H1 => x = .ref C ∧ sp [] H1 Q E) := by
  refine ⟨fun pins s σ H Q I h => ?_⟩
  refine PySem.W.methodCall_KW (pl := pl) (thn (he.run pins s σ H _ I h) fun u s1 ⟨x, H1, I1, rx, ex, q⟩ => ?_) ht
  subst ex
  obtain rfl : u = Value.ref C := rx
  refine getsm_ok I1 c fun s2 I2 => ?_
  exact PySem.W.callWith_K0 I2.kIn c.kp (wpAny_call (run_fnR (us := []) F hr hx I2 .nil q))
end
/-! ### x != y, by object.__ne__ and the class's own __eq__ -/
theorem on_bind (self : Value) : bindSpecial (.builtin "object.__ne__") self = pure (.builtin "object.__ne__", [self]) := PySem.F.cmp_object.ne.bind self
section
variable {prog : Program} {w : World} {A : Around} {E : Value → Shared → Prop} {s : Shared} {K : PySem.W.Frag} {x y C f : Addr} {ox : Obj} {od : Option Obj}
open PySem.W in
theorem ifBound_ne {M : Model} {args : List Value} {Q : Option Value → Shared → Prop} (X : K.In s.heap) (I : InstAt s.heap x ox C od) (hs : findIn K (.ref C) "__ne__" = some (some (.builtin "object.__ne__")))
    (h : wpAny M A (call (.builtin "object.__ne__") (.ref x :: args)) (fun v => Q (some v)) E s) : wpAny M A (callSpecialIfBound? (.ref x) "__ne__" args) Q E s := by
  simp only [callSpecialIfBound?, bindSpecialIfBound?]
  refine wpAny_holding (wpAny_bind (wpAny_bind (wpAny_bind (I.type.here ((looks_findIn X hs).here ?_)))))
  refine wpAny_bind (wpAny_askSetting (wpAny_ite ?_))
  have fin : wpAny M A (call (.builtin "object.__ne__") ([.ref x] ++ args) >>= fun v => pure (some v)) Q E s := wpAny_bind (wpAny_mono h (fun v s' h' => wpAny_pure h') fun _ _ h' => h')
  rw [on_bind]
  split
  · exact wpAny_bind (wpAny_pure (wpAny_pure (by exact fin)))
  · exact wpAny_tryCatch (wpAny_bind (wpAny_pure (wpAny_pure (by exact fin))))
open PySem.W in
theorem ne_K {Q : Value → Shared → Prop} (hu : A.units + 2 < cLine) (X : K.In s.heap) (I : InstAt s.heap x ox C od) (hb : Looks (model prog w) s.heap (typeOf (.ref y)) (.ref C)) (cm : mroIn K C (.type "object") = some true)
    (hne : findIn K (.ref C) "__ne__" = some (some (.builtin "object.__ne__"))) (hs : findIn K (.ref C) "__eq__" = some (some (.ref f))) (hf : isFn K (.ref f) = true)
    (h : wpAny (model prog w) A.in1 (call (.ref f) [.ref x, .ref y]) (fun v s' => ∃ b, v = .bool b ∧ Q (.bool (!b)) s') E s) : wpAny (model prog w) A (richCompare .NotEq (.ref x) (.ref y)) Q E s := by
  have sub : Looks (model prog w) s.heap (isInstance (.ref x) (.type "object")) true := I.type.andThen (looks_mroIn X cm)
  have one : wpAny (model prog w) A (tryCompare (.ref x) "__ne__" (.ref y)) (fun r s' => ∃ v, r = some v ∧ Q v s') E s := by
    unfold tryCompare
    refine wpAny_bind (ifBound_ne X I hne (wpAny_call (codeAny_call_builtin PySem.F.cmp_object.ne.plain PySem.F.cmpEntry_ne (check_slot PySem.F.cmpKind_ne PySem.F.cmpSplit_ne sub (PySem.F.cmpArgs_ne _ _) ?_))))
    unfold Builtin.«object.__ne__»
    repeat (first
      | with_reducible refine wpAny_cRoomFor (by show A.units + 1 < cLine; omega) ?_
      | (refine wpAny_bind (m := callSpecialIfBound? (.ref x) (Str.ofString "__eq__") [.ref y]) (ifBound_K X I hs hf (wpAny_mono h (fun r s' hr => by
          obtain ⟨b, rfl, hq⟩ := hr
          repeat (first | exact wpAny_pure ⟨_, rfl, hq⟩ | exact ⟨_, rfl, hq⟩ | exact ⟨rfl, hq⟩ | (refine wpAny_bind (m := truthy (.bool _)) (wpAny_truthy_bool ?_)) | wp_step)) fun _ _ e => e)))
      | wp_step)
  unfold richCompare
  simp only [oneThing_ref]
  refine wpAny_holding (wpAny_bind (wpAny_cRoomFor (by omega) ?_))
  refine wpAny_bind (I.type.here (wpAny_bind (hb.here ?_)))
  rw [show (Value.ref C != Value.ref C) = false from by simp]
  simp only [Bool.false_eq_true, if_false]
  refine wpAny_bind (wpAny_pure ?_)
  simp only [Bool.false_eq_true, if_false]
  refine wpAny_bind (wpAny_mono one (fun r s' z => ?_) fun _ _ e => e)
  obtain ⟨v, rfl, hq⟩ := z
  exact wpAny_pure hq
end
theorem op_neOwn {X : Cx} {CX : CXT} {k : Nat} {C g : Addr} {fd : FuncData} {ps : List Str} {sp : Sp} {E : XK} (cm : PySem.W.mroIn X.K C (.type "object") = some true) (hne : PySem.W.findIn X.K (.ref C) "__ne__" = some (some (.builtin "object.__ne__")))
    (hs : PySem.W.findIn X.K (.ref C) "__eq__" = some (some (.ref g))) (hf : PySem.W.isFn X.K (.ref g) = true)
    (F : FnOk X.prog X.w X.K X.mg X.base CX k g fd ps sp) (hr : Room (k + 1) X.A) (hb : Binds X.K fd ps []) (hx : Passes CX X E) :
    OpR X (compareOp .NotEq) (fun x y H Q => ∃ a b dx dy fs gs, x = .ref a ∧ y = .ref b ∧ H a = some (.ins C dx fs) ∧ H b = some (.ins C dy gs) ∧ sp [.ref a, .ref b] H (fun z H' => ∃ t : Bool, z = .bl t ∧ Q (.bl (!t)) H') E) := by
  rintro pins s σ H x y v u Q I rx ry ⟨a, b, dx, dy, fs, gs, rfl, rfl, ea, eb, q⟩
  cases rx
  cases ry
  obtain ⟨mA, O, _⟩ := ins_get I.hok ea
  obtain ⟨od, J, _⟩ := O.look
  obtain ⟨mB, O', _⟩ := ins_get I.hok eb
  obtain ⟨od', J', _⟩ := O'.look
  show wpAny _ _ (richCompare .NotEq _ _) _ _ _
  refine ne_K (by have := hr.units; omega) I.kIn J J'.type cm hne hs hf ?_
  refine wpAny_mono (wpAny_call (SlX.run_at (us := [.ref a, .ref b]) (ws := [.ref a, .ref b]) (F.raw hb .nil) hr.in1 I.env0.in1 hx I (.cons rfl (.cons rfl .nil)) q)) (fun w s' z => ?_) fun _ _ x => x
  obtain ⟨z', H', I', rz, t, en, qz⟩ := z
  subst en
  cases (show w = Value.bool t from rz)
  exact ⟨t, rfl, .bl (!t), H', I', rfl, qz⟩
end Ag

namespace Ag
open PySem PySem.Spec PyProof.Rows L2
def top (i : Nat) : Stmt := PySem.Challenge.pw_addedgrounds_k11_contexts_refused.main.body.getD i (.Pass ⟨0, 0, 0, 0⟩)
abbrev s_wall : Stmt := top 0
abbrev s_is_number : Stmt := top 3
abbrev s_copied : Stmt := top 4
abbrev s_GroundError : Stmt := top 6
abbrev s_Missing : Stmt := top 7
abbrev s_InvalidNumber : Stmt := top 8
abbrev s_InvalidNumber_init : Stmt := inClass (top 8) 0
abbrev s_InvalidRow : Stmt := top 9
abbrev s_InvalidRow_init : Stmt := inClass (top 9) 0
abbrev s_InvalidText : Stmt := top 10
abbrev s_InvalidText_init : Stmt := inClass (top 10) 0
abbrev s_TooMany : Stmt := top 11
abbrev s_TooMany_init : Stmt := inClass (top 11) 0
abbrev s_NothingLeft : Stmt := top 12
abbrev s_NothingLeft_init : Stmt := inClass (top 12) 0
abbrev s_is_letter : Stmt := top 20
abbrev s_is_name : Stmt := top 21
abbrev s_is_formula : Stmt := top 22
abbrev s_is_built : Stmt := top 23
abbrev s_is_leaf : Stmt := top 24
abbrev s_text_of : Stmt := top 25
abbrev s_parsed : Stmt := top 26
abbrev s_parsed_at : Stmt := top 27
abbrev s_parsed_joint : Stmt := top 28
abbrev s_parsed_hole : Stmt := top 29
abbrev s_parsed_atom : Stmt := top 30
abbrev s_KnownRows : Stmt := top 32
abbrev s_KnownRows_init : Stmt := inClass (top 32) 0
abbrev s_Context : Stmt := top 33
abbrev s_Context_init : Stmt := inClass (top 33) 1
abbrev s_Context_of : Stmt := inClass (top 33) 2
abbrev s_Context_read : Stmt := inClass (top 33) 3
abbrev s_Context_rows : Stmt := inClass (top 33) 4
abbrev s_Context_names : Stmt := inClass (top 33) 5
abbrev s_Context_words : Stmt := inClass (top 33) 6
abbrev s_Context_text : Stmt := inClass (top 33) 7
abbrev s_Context_with_row : Stmt := inClass (top 33) 8
abbrev s_Context_without : Stmt := inClass (top 33) 9
abbrev s_Context_places_of : Stmt := inClass (top 33) 10
abbrev s_Context_is_wider : Stmt := inClass (top 33) 11
abbrev s_Context_add : Stmt := inClass (top 33) 12
abbrev s_Context_contains : Stmt := inClass (top 33) 13
abbrev s_Context_len : Stmt := inClass (top 33) 14
abbrev s_Context_eq : Stmt := inClass (top 33) 15
abbrev s_Context_repr : Stmt := inClass (top 33) 16
abbrev s_is_row : Stmt := top 34
abbrev s_tested_rows : Stmt := top 35
abbrev s_is_place : Stmt := top 36
abbrev s_row_text : Stmt := top 37
abbrev s_read_rows : Stmt := top 38
abbrev s_read_row : Stmt := top 39
abbrev s_law_bag : Stmt := top 41
abbrev s_law_pull : Stmt := top 42
abbrev s_law_any : Stmt := top 43
abbrev s_law_like : Stmt := top 44
abbrev s_law_fields : Stmt := top 45
abbrev s_law_try : Stmt := top 46
abbrev s_law_tries : Stmt := top 47
abbrev s_law_names : Stmt := top 48
abbrev s_law_form : Stmt := top 49
abbrev s_law_rows : Stmt := top 50
abbrev s_law : Stmt := top 51
end Ag
namespace Ag
open PySem PySem.Spec PyProof.Rows L2
section
variable {P : Program} {w : World} {K : PySem.W.Frag} {mg : Str → Option Value} {base : Heap}
/-! ### _law_bag -/
def spBag (K : PySem.W.Frag) : Sp := fun vs H Q _ => ∃ (a : Addr) (ns : List Int), vs = [.ref a] ∧ SqL K H a (ns.map V.int) ∧ ns.length ≤ 63 ∧
  ∀ (b l : Addr) (H' : Hp), H b = none → Same H H' → Bag H' b l → Q (.ref b) H'
theorem scBag : FnScope ["_law_script"] ["_law_script"] (defScope s_law_bag) := ⟨rfl, rfl, rfl, by decide +kernel, rfl, by decide +kernel, by decide +kernel⟩
theorem ok_bag {f : Addr} {fd : FuncData} (F : Fun K "_law_bag" "_law_bag" s_law_bag f fd) (ml : mg "list" = none) : FnOk P w K mg base CX0 1 f fd ["_law_script"] (spBag K) := by
  refine F.ok scBag (fun vs H Q E h => ?_) (fun cdv A outer s H vs Q E hr h => ?_)
  · obtain ⟨a, ns, rfl, _⟩ := h
    rfl
  obtain ⟨a, ns, rfl, hS, h63, q⟩ := h
  refine ⟨_, pss_one (ps_ret (pe_lst (pa_cons (pe_callTy call_list_of (by rfl) ml (by decide +kernel) (pa_cons (pe_slice sl_list (pv 0) po_none (po_some pe_int)) pa_nil))
    (pa_cons pe_int (pa_cons pe_int (pa_cons pe_int (pa_cons pe_int pa_nil))))))), ?_⟩
  refine ⟨_, rfl, _, rfl, a, _, rfl, hS, fun p np => ?_⟩
  have ec : cutV (ns.map V.int) none (some 63) = ns.map V.int := by
    unfold cutV
    have e1 : HT.sIx (ns.map V.int).length 0 none = 0 := rfl
    have e2 : HT.sIx (ns.map V.int).length (ns.map V.int).length (some 63) = (ns.map V.int).length := by
      rw [List.length_map]
      unfold HT.sIx
      simp
      omega
    rw [e1, e2, List.drop_zero, List.take_of_length_le (by omega)]
  rw [ec]
  refine ⟨p, _, rfl, .inl (SqL.of upd_same), fun l nl => ?_⟩
  have npl : p ≠ l := ne_of_none upd_same nl
  have nHl : H l = none := (same_new np _).free nl
  refine ⟨(by show 5 ≤ sizeLine; decide), fun b nb => ?_⟩
  have nlb : l ≠ b := ne_of_none upd_same nb
  have s1 := (same_new np (.lst (ns.map V.int))).trans (same_new nl (.lst (ns.map V.int)))
  refine q b l _ (s1.free nb) (s1.trans (same_new nb _)) ⟨ns, 0, 0, 4932, 0, upd_same, ?_, nlb, h63, by decide, by decide, by decide⟩
  rw [upd_ne nlb, upd_same]
end

section
variable {P : Program} {w : World} {K : PySem.W.Frag} {mg : Str → Option Value} {base : Heap}
/-! ### _law_pull -/
def spPull : Sp := fun vs H Q _ => ∃ (b l : Addr) (m : Int), vs = [.ref b, .int m] ∧ Bag H b l ∧ 0 < m ∧ m < 2 ^ 62 ∧
  ∀ (d : Int) (H' : Hp), 0 ≤ d → d < m → Kp b H H' → Bag H' b l → Q (.int d) H'
theorem scPull : FnScope ["_law_bag_here", "_law_many", "_law_cell", "_law_digit", "_law_seed"] ["_law_bag_here", "_law_many"] (defScope s_law_pull) := ⟨rfl, rfl, rfl, by decide +kernel, rfl, by decide +kernel, by decide +kernel⟩
theorem ok_pull {f : Addr} {fd : FuncData} (F : Fun K "_law_pull" "_law_pull" s_law_pull f fd) (ml : mg "len" = none) (mi : mg "int" = none) : FnOk P w K mg base CX0 1 f fd ["_law_bag_here", "_law_many"] spPull := by
  refine F.ok scPull (fun vs H Q E h => ?_) (fun cdv A outer s H vs Q E hr h => ?_)
  · obtain ⟨b, l, m, rfl, _⟩ := h
    rfl
  obtain ⟨b, l, m, rfl, hB, hm, hm', q⟩ := h
  have nd := scPull.nd
  refine ⟨_, pss_cons (ps_if (PW.pt (pw_and (pt_cmpR op_eq (pe_ix ix_list (pv 0) pe_int (fun _ _ => rfl)) pe_int (nomark _)) (pw_and1 (pt_cmpR op_lt (pe_ix ix_list (pv 0) pe_int (fun _ _ => rfl)) (pe_callB call_len_seq (by rfl) ml boot_len (pa_cons (pe_ix ix_list (pv 0) pe_int (fun _ _ => rfl)) pa_nil)) (nomark _)))))
      (pss_cons (ps_set (i := 2) nd rfl (.inl rfl) (pe_ix ix_list (pe_ix ix_list (pv 0) pe_int (fun _ _ => rfl)) (pe_ix ix_list (pv 0) pe_int (fun _ _ => rfl)) (fun _ _ => rfl)))
      (pss_cons (ps_asg (pe_op op_add (pe_ix ix_list (pv 0) pe_int (fun _ _ => rfl)) pe_int) (pg_sub (pv 0) pe_int set_list))
      (pss_one (ps_if (pt_cmpR op_ge (pv 2) (pe_op op_pow pe_int pe_int) (nomark _))
        (pss_one (ps_asg (pv 2) (pg_sub (pv 0) pe_int set_list)))
        (pss_one (ps_asg (pe_op op_modN (pe_callTy call_int1 (by rfl) mi (by decide +kernel) (pa_cons (pe_op op_add (pe_op op_add (pe_op op_mul (pe_ix ix_list (pv 0) pe_int (fun _ _ => rfl)) pe_int) (pe_op op_mul (pe_op op_modN (pe_callTy call_int1 (by rfl) mi (by decide +kernel) (pa_cons (pv 2) pa_nil)) pe_int) pe_int)) pe_int) pa_nil)) pe_int) (pg_sub (pv 0) pe_int set_list))))))) pss_nil)
    (pss_cons (ps_if (pt_cmpR op_gt (pe_ix ix_list (pv 0) pe_int (fun _ _ => rfl)) pe_int (nomark _))
      (pss_cons (ps_set (i := 3) nd rfl (.inl rfl) (pe_op op_modN (pe_callTy call_int1 (by rfl) mi (by decide +kernel) (pa_cons (pe_ix ix_list (pv 0) pe_int (fun _ _ => rfl)) pa_nil)) (pv 1)))
      (pss_cons (ps_asg (pe_op op_fdivW (pe_ix ix_list (pv 0) pe_int (fun _ _ => rfl)) (pv 1)) (pg_sub (pv 0) pe_int set_list))
      (pss_one (ps_ret (pv 3))))) pss_nil)
    (pss_cons (ps_asg (pe_op op_add (pe_ix ix_list (pv 0) pe_int (fun _ _ => rfl)) pe_int) (pg_sub (pv 0) pe_int set_list))
    (pss_cons (ps_set (i := 4) nd rfl (.inl rfl) (pe_ix ix_list (pv 0) pe_int (fun _ _ => rfl)))
    (pss_cons (ps_asg (pe_op op_modN (pe_callTy call_int1 (by rfl) mi (by decide +kernel) (pa_cons (pe_op op_add (pe_op op_add (pe_op op_add (pe_op op_mul (pe_op op_mul (pv 4) (pv 4)) pe_int) (pe_op op_mul (pv 4) pe_int)) (pe_op op_mul (pe_ix ix_list (pv 0) pe_int (fun _ _ => rfl)) pe_int)) pe_int) pa_nil)) pe_int) (pg_sub (pv 0) pe_int set_list))
    (pss_one (ps_ret (pe_op op_modN (pe_callTy call_int1 (by rfl) mi (by decide +kernel) (pa_cons (pe_op op_add (pe_op op_fdivN (pe_ix ix_list (pv 0) pe_int (fun _ _ => rfl)) pe_int) (pe_op op_mul (pe_op op_modN (pe_callTy call_int1 (by rfl) mi (by decide +kernel) (pa_cons (pe_ix ix_list (pv 0) pe_int (fun _ _ => rfl)) pa_nil)) pe_int) pe_int)) pa_nil)) (pv 1)))))))), ?_⟩
  refine tseq (fun σ' H' => ∃ cv : Option V, σ' = [some (.ref b), some (.int m), cv, none, none] ∧ Kp b H H' ∧ Bag H' b l) (fun σ' H1 hM => ?_) (fun tail => ?_)
  · obtain ⟨cv, rfl, k, ns, at', big, seed, cnt, h1, h2, hl, h63, hb, h0, h9⟩ := hM
    refine ⟨_, rfl, b, _, _, _, rfl, rfl, SqL.of h1, rfl, _, _, rfl, rfl, _, rfl, ?_⟩
    refine ite2 (fun c => ?_) (fun c => ?_)
    · refine ⟨_, rfl, b, _, _, _, rfl, rfl, SqL.of h1, rfl, .inl ⟨_, rfl, ?_⟩⟩
      refine ⟨_, rfl, _, _, rfl, rfl, (by omega), ?_⟩
      refine ⟨_, rfl, b, _, _, _, rfl, rfl, SqL.of h1, rfl, _, rfl, _, _, rfl, rfl, wide_div hm (b := 62) (by omega) (by decide) (by decide), ?_⟩
      refine ⟨_, rfl, b, _, _, _, rfl, rfl, h1, rfl, ?_⟩
      refine ⟨_, rfl, ?_⟩
      refine q _ _ (fm_in big hm).1 (fm_in big hm).2 (k.trans kp_upd) ⟨ns, at', big / m, seed, cnt, upd_same, ?_, hl, h63, Int.ediv_nonneg (by omega) (by omega), h0, h9⟩
      rw [upd_ne hl]; exact h2
    · refine ⟨_, rfl, b, _, _, _, rfl, rfl, SqL.of h1, rfl, _, _, rfl, rfl, _, rfl, b, _, _, _, rfl, rfl, h1, rfl, ?_⟩
      refine ⟨_, rfl, b, _, _, _, rfl, rfl, SqL.of upd_same, rfl, ?_⟩
      have cs : CMul seed seed := .inl ⟨by omega, by omega⟩
      have cr : ∀ i j : Int, -(2 ^ 64) < j ∧ j < 2 ^ 64 → CMul i j := fun i j h => .inr h
      refine ⟨_, rfl, _, rfl, _, _, rfl, rfl, cs, _, _, rfl, rfl, cr _ _ (by decide), _, rfl, _, _, rfl, rfl, cr _ _ (by decide), _, _, rfl, rfl,
        _, rfl, b, _, _, _, rfl, rfl, SqL.of upd_same, rfl, _, _, rfl, rfl, cr _ _ (by decide), _, _, rfl, rfl, _, _, rfl, rfl, .inl ⟨_, rfl, _, _, rfl, rfl, (by show (2147483629 : Int) ≠ 0; decide), ?_⟩⟩
      refine ⟨_, rfl, b, _, _, _, rfl, rfl, upd_same, rfl, ?_⟩
      have sd := fm_in (seed * seed * 3 + seed * 27011 + (cnt + 1) * 1299689 + 40507) (m := 2147483629) (by decide)
      refine ⟨_, rfl, b, _, _, _, rfl, rfl, SqL.of upd_same, rfl, _, _, rfl, rfl, ⟨by decide, by decide⟩, _, rfl, b, _, _, _, rfl, rfl, SqL.of upd_same, rfl, .inl ⟨_, rfl, _, _, rfl, rfl, (by show (7901 : Int) ≠ 0; decide), _, _, rfl, rfl, cr _ _ (by decide), _, _, rfl, rfl,
        .inl ⟨_, rfl, _, rfl, _, _, rfl, rfl, by omega, ?_⟩⟩⟩
      refine q _ _ (fm_in _ hm).1 (fm_in _ hm).2 (k.trans (kp_upd.trans kp_upd)) ⟨ns, at', big, _, cnt + 1, upd_same, ?_, hl, h63, hb, sd.1, sd.2⟩
      rw [upd_ne hl, upd_ne hl]; exact h2
  · obtain ⟨ns, at', big, seed, cnt, h1, h2, hl, h63, hb, h0, h9⟩ := hB
    refine ⟨_, rfl, b, _, _, _, rfl, rfl, SqL.of h1, rfl, rfl, _, rfl, ?_⟩
    refine ite2 (fun c => ?_) (fun c => ?_)
    · refine ⟨_, rfl, b, _, _, _, rfl, rfl, SqL.of h1, rfl, _, rfl, b, _, _, _, rfl, rfl, SqL.of h1, rfl, l, _, rfl, .inl (SqL.of h2), _, _, rfl, rfl, _, rfl, ?_⟩
      refine ite2 (fun c1 => ?_) (fun c1 => ?_)
      · have c2 : at' < (ns.map V.int).length := by have z := of_decide_eq_true c1; omega
        have c3 : at' < ns.length := by rw [List.length_map] at c2; exact c2
        have hv : atI (ns.map V.int) (at' : Int) = some (.int ns[at']) := atI_nat (by rw [List.getElem?_map, List.getElem?_eq_getElem c3]; rfl)
        refine ⟨_, rfl, b, _, _, _, rfl, rfl, SqL.of h1, rfl, _, rfl, b, _, _, _, rfl, rfl, SqL.of h1, rfl, l, _, _, _, rfl, rfl, SqL.of h2, hv, ?_⟩
        refine ⟨_, rfl, b, _, _, _, rfl, rfl, SqL.of h1, rfl, _, _, rfl, rfl, _, rfl, b, _, _, _, rfl, rfl, h1, rfl, ?_⟩
        refine ⟨_, rfl, _, _, rfl, rfl, ⟨by decide, by decide, by decide⟩, _, _, rfl, rfl, _, rfl, ?_⟩
        refine ite2 (fun c4 => ?_) (fun c4 => ?_)
        · have c5 : ns[at'] ≥ 10 ^ (18 : Int).toNat := of_decide_eq_true c4
          have c6 : (0 : Int) ≤ ns[at'] := by
            have z : (0 : Int) ≤ 10 ^ (18 : Int).toNat := by decide
            omega
          refine ⟨_, rfl, _, rfl, b, _, _, _, rfl, rfl, upd_same, rfl, ?_⟩
          refine tail _ _ ⟨_, rfl, kp_upd.trans kp_upd, ns, at' + 1, ns[at'], seed, cnt, upd_same, ?_, hl, h63, c6, h0, h9⟩
          rw [upd_ne hl, upd_ne hl]; exact h2
        · refine ⟨_, rfl, b, _, _, _, rfl, rfl, SqL.of upd_same, rfl, _, _, rfl, rfl, .inr ⟨by decide, by decide⟩, _, rfl, .inl ⟨_, rfl, _, _, rfl, rfl, (by show (2147483489 : Int) ≠ 0; decide), _, _, rfl, rfl, .inr ⟨by decide, by decide⟩, _, _, rfl, rfl, _, _, rfl, rfl,
            .inl ⟨_, rfl, _, _, rfl, rfl, (by show (2147483629 : Int) ≠ 0; decide), ?_⟩⟩⟩
          refine ⟨_, rfl, b, _, _, _, rfl, rfl, upd_same, rfl, ?_⟩
          have sd := fm_in (seed * 40009 + ns[at'].fmod 2147483489 * 30011 + 17) (m := 2147483629) (by decide)
          refine tail _ _ ⟨_, rfl, kp_upd.trans kp_upd, ns, at' + 1, big, _, cnt, upd_same, ?_, hl, h63, hb, sd.1, sd.2⟩
          rw [upd_ne hl, upd_ne hl]; exact h2
      · refine tail _ _ ⟨none, rfl, .refl _ _, ns, at', big, seed, cnt, h1, h2, hl, h63, hb, h0, h9⟩
    · exact tail _ _ ⟨none, rfl, .refl _ _, ns, at', big, seed, cnt, h1, h2, hl, h63, hb, h0, h9⟩
end

section
variable {P : Program} {w : World} {K : PySem.W.Frag} {mg : Str → Option Value} {base : Heap}
/-! ### _law_any -/
def spAny (K : PySem.W.Frag) : Sp := fun vs H Q _ => ∃ (b l : Addr) (x : V) (its : List V), vs = [.ref b, x] ∧ Bag H b l ∧ Itm K H b x its ∧ 0 < its.length ∧ its.length < 2 ^ 62 ∧
  ∀ (i : Nat) (v : V) (H' : Hp), its[i]? = some v → Kp b H H' → Bag H' b l → Q v H'
theorem scAny : FnScope ["_law_bag_here", "_law_things"] ["_law_bag_here", "_law_things"] (defScope s_law_any) := ⟨rfl, rfl, rfl, by decide +kernel, rfl, by decide +kernel, by decide +kernel⟩
theorem ok_any {f : Addr} {fd : FuncData} (F : Fun K "_law_any" "_law_any" s_law_any f fd) (cP : C8.Cal P w K mg base 1 "_law_pull" spPull []) (ml : mg "len" = none) :
    FnOk P w K mg base CX0 2 f fd ["_law_bag_here", "_law_things"] (spAny K) := by
  refine F.ok scAny (fun vs H Q E h => ?_) (fun cdv A outer s H vs Q E hr h => ?_)
  · obtain ⟨b, l, x, its, rfl, _⟩ := h
    rfl
  obtain ⟨b, l, x, its, rfl, hB, hI, h0, h1, q⟩ := h
  refine ⟨_, pss_one (ps_ret (pe_ix ix_seq (pv 1) (C8.pe_c cP hr (by decide) (by rfl) (pa_cons (pv 0) (pa_cons (pe_callB call_len (by rfl) ml boot_len (pa_cons (pv 1) pa_nil)) pa_nil))) (fun _ _ => rfl))), ?_⟩
  rcases hI with ⟨z, rfl, hz, rfl⟩ | ⟨a, rfl, hab, hs⟩
  · have el : z.length = z.cps.toList.length := by simp [Str.length]
    rw [List.length_map] at h0 h1
    refine ⟨_, rfl, _, rfl, _, rfl, _, z.length, rfl, ⟨hz, rfl⟩, b, l, _, rfl, hB, by omega, by omega, fun d H' hd0 hd1 k hB' => ?_⟩
    have hd : d.toNat < z.cps.toList.length := by omega
    have hat : atI z.cps.toList d = some z.cps.toList[d.toNat] := at_any (by omega) (List.getElem?_eq_getElem hd)
    refine .inr (.inr ⟨z, d, _, rfl, rfl, hz, hat, ?_⟩)
    refine q d.toNat _ H' ?_ k hB'
    rw [List.getElem?_map, List.getElem?_eq_getElem hd]
    rfl
  · have hl : LenV K (.ref a) H its.length := by
      rcases hs with hs | hs
      · exact .inl ⟨_, hs, rfl⟩
      · exact .inr ⟨_, hs, rfl⟩
    refine ⟨_, rfl, _, rfl, _, rfl, _, its.length, rfl, hl, b, l, _, rfl, hB, by omega, by omega, fun d H' hd0 hd1 k hB' => ?_⟩
    have hd : d.toNat < its.length := by omega
    have hg : its[d.toNat]? = some its[d.toNat] := List.getElem?_eq_getElem hd
    have hat : atI its d = some its[d.toNat] := at_of (by omega) hg
    rcases hs with hs | hs
    · exact .inl ⟨a, _, d, _, rfl, rfl, k.seqL hab hs, hat, q _ _ _ hg k hB'⟩
    · exact .inr (.inl ⟨a, _, d, _, rfl, rfl, k.seqT hab hs, hat, q _ _ _ hg k hB'⟩)

end

section
variable {P : Program} {w : World} {K : PySem.W.Frag} {mg : Str → Option Value} {base : Heap}
/-! ### _law_names -/
def spNames : Sp := fun vs H Q _ => ∃ (b l : Addr) (m : Nat), vs = [.ref b, .int (m : Int)] ∧ Bag H b l ∧ m ≤ 1000 ∧
  ∀ (r : Addr) (ws : List (List Nat)) (H' : Hp), Nms m ws → H r = none → Kp b H H' → Bag H' b l → H' r = some (.lst (ws.map fun w => V.str (SX.S w))) → Q (.ref r) H'
theorem scNames : FnScope ["_law_bag_here", "_law_many", "_law_letters", "_law_k", "_law_stem", "_law_at", "_law_first"] ["_law_bag_here", "_law_many"] (defScope s_law_names) := ⟨rfl, rfl, rfl, by decide +kernel, rfl, by decide +kernel, by decide +kernel⟩
theorem ok_names {f : Addr} {fd : FuncData} (F : Fun K "_law_names" "_law_names" s_law_names f fd) (cP : C8.Cal P w K mg base 1 "_law_pull" spPull []) (cA : C8.Cal P w K mg base 2 "_law_any" (spAny K) []) (M : NamesM mg) : FnOk P w K mg base CX0 3 f fd ["_law_bag_here", "_law_many"] spNames := by
  refine F.ok scNames (fun vs H Q E h => ?_) (fun cdv A outer s H vs Q E hr h => ?_)
  · obtain ⟨b, l, m, rfl, _⟩ := h
    rfl
  obtain ⟨b, l, m, rfl, hB, hm, q⟩ := h
  have nd := scNames.nd
  refine ⟨_, pss_cons (ps_set (i := 2) nd rfl (.inr rfl) pe_str)
    (pss_cons (ps_set (i := 4) nd rfl (.inr rfl) (pe_join pe_str (pe_lc (own := [("_law_k", 3)]) (g := gName 3) (tt := tYes) rfl nd (pi_range1 (by rfl) M.range (pa_cons (C8.pe_c cP hr (by decide) (by rfl) (pa_cons (pv 0) (pa_cons pe_int pa_nil))) pa_nil))
      (blkOk_by (own := [("_law_k", 3)]) (N := ["_law_bag_here", "_law_many", "_law_letters", "_law_k", "_law_stem", "_law_at", "_law_first"]) (sc := defScope s_law_names) (by decide +kernel)) (fun _ _ _ _ _ => pg_name (i := 3) nd rfl (Or.inl rfl)) (fun _ _ _ _ _ => pts_nil)
      (fun _ _ _ _ _ => C8.pe_c cA hr (by decide) (by rfl) (pa_cons (pv 0) (pa_cons (pv 2) pa_nil))))))
    (pss_cons (ps_asg (pe_tup (pa_cons (C8.pe_c cP hr (by decide) (by rfl) (pa_cons (pv 0) (pa_cons (pe_op op_add (pe_callB call_len (by rfl) M.len boot_len (pa_cons (pv 4) pa_nil)) pe_int) pa_nil))) (pa_cons (C8.pe_c cP hr (by decide) (by rfl) (pa_cons (pv 0) (pa_cons pe_int pa_nil))) pa_nil)))
      (pg_tup rfl (pgs_cons (pg_name (i := 5) nd rfl (.inr rfl)) (pgs_cons (pg_name (i := 6) nd rfl (.inr rfl)) pgs_nil))))
    (pss_one (ps_ret (pe_lc (own := [("_law_k", 3)]) (g := gName 3) (tt := tYes) rfl nd (pi_range1 (by rfl) M.range (pa_cons (pv 1) pa_nil))
      (blkOk_by (own := [("_law_k", 3)]) (N := ["_law_bag_here", "_law_many", "_law_letters", "_law_k", "_law_stem", "_law_at", "_law_first"]) (sc := defScope s_law_names) (by decide +kernel)) (fun _ _ _ _ _ => pg_name (i := 3) nd rfl (Or.inl rfl)) (fun _ _ _ _ _ => pts_nil)
      (fun _ _ _ _ _ => pe_op op_add_str (pe_op op_add_str (pe_slice C8.sl_txt (pv 4) po_none (po_some (pv 5))) (pe_ix ix_str (pv 2) (pe_op op_modN (pe_callTy call_int1 (by rfl) M.int (by decide +kernel) (pa_cons (pe_op op_add (pv 6) (pe_op op_mul pe_int (pv 3))) pa_nil)) pe_int) (fun _ _ => rfl))) (pe_slice C8.sl_txt (pv 4) (po_some (pv 5)) po_none))))))), ?_⟩
  -- the stem's length, its signs
  refine ⟨⟨_, rfl⟩, _, rfl, b, l, 5, rfl, hB, by decide, by decide, fun d H1 hd0 hd1 k1 B1 => ?_⟩
  refine ⟨d, rfl, by omega, by omega, fun D nD => ?_⟩
  have nDb := B1.new nD
  refine lc_range (lo := 0) (n := d.toNat) (fun i H' => ∃ cs : List Nat, Low cs ∧ cs.length = i ∧ Kp b H H' ∧ Bag H' b l ∧ H' D = some (.lst ((cs.map fun c => (⟨#[c]⟩ : Str)).map V.str))) ⟨[], fun c hc => (by cases hc), rfl, k1.trans (.of (same_new nD _)), B1.kp (same_new nD _), upd_same⟩ ?_ ?_
  · rintro i H2 hi ⟨cs, hlow, hcl, k2, B2, hD⟩
    refine ⟨rfl, _, rfl, _, rfl, b, l, _, abc.map (fun c => V.str ⟨#[c]⟩), rfl, B2, .inl ⟨_, rfl, (by rw [abc_str, SX.S_len, abc_len]; decide), by rw [abc_str]⟩, by rw [List.length_map, abc_len]; decide, by rw [List.length_map, abc_len]; decide, fun j v H3 hv k3 B3 => ?_⟩
    rw [List.getElem?_map] at hv
    obtain ⟨c, hc, rfl⟩ := Option.map_eq_some_iff.mp hv
    have hcl' : Low [c] := .one (abc_mem.mp (List.mem_of_getElem? hc))
    have hD3 := k3 _ _ hD nDb.1
    refine ⟨_, hD3, (by rw [List.length_map, List.length_map, hcl]; exact small1000 (by omega)), cs ++ [c], hlow.app hcl', by rw [List.length_append, hcl]; rfl, ?_, ?_, ?_⟩
    · exact (k2.trans k3).upd (k1.free nDb.1 nD)
    · exact B3.upd nDb.1 nDb.2
    · rw [upd_same, List.map_append, List.map_append]
      rfl
  · rintro H2 ⟨cs, hlow, hcl, k2, B2, hD⟩
    have sz : ((cs.map fun c => (⟨#[c]⟩ : Str)).map (·.length)).sum + (cs.map fun c => (⟨#[c]⟩ : Str)).length * (Str.ofString "").length ≤ 16777216 := by
      have e1 : ∀ l : List Nat, ((l.map fun c => (⟨#[c]⟩ : Str)).map (·.length)).sum = l.length := fun l => by
        induction l with
        | nil => rfl
        | cons c r ih =>
          rw [List.map_cons, List.map_cons, List.sum_cons, ih, List.length_cons]
          show 1 + r.length = r.length + 1
          omega
      have e2 : (Str.ofString "").length = 0 := rfl
      rw [e1, e2]
      omega
    refine ⟨_, D, _, rfl, rfl, .inl (SqL.of hD), sz, ?_⟩
    rw [join_signs]
    have hz : (SX.S cs).length ≤ sizeLine := by rw [SX.S_len]; exact small (by omega)
    -- at, first
    refine ⟨_, rfl, _, rfl, _, (SX.S cs).length, rfl, ⟨hz, rfl⟩, _, _, rfl, rfl, b, l, _, rfl, B2, by omega, by rw [SX.S_len]; omega, fun at' H3 ha0 ha1 k3 B3 => ?_⟩
    refine ⟨_, rfl, b, l, 26, rfl, B3, by decide, by decide, fun fi H4 hf0 hf1 k4 B4 => ?_⟩
    refine ⟨(by show 2 ≤ sizeLine; decide), fun t nt => ⟨t, _, rfl, SqT.of upd_same, rfl, _, _, rfl, _, _, rfl, rfl, ?_⟩⟩
    rw [SX.S_len] at ha1
    have nt' := B4.new nt
    have B5 := B4.kp (same_new nt (.tup [.int at', .int fi]))
    have k5 : Kp b H (upd H4 t (.tup [.int at', .int fi])) := (k2.trans (k3.trans k4)).trans (.of (same_new nt _))
    -- the names
    refine ⟨_, rfl, (m : Int), rfl, by omega, by omega, fun R nR => ?_⟩
    have nR' := B5.new nR
    have hR0 : H R = none := k5.free nR'.1 nR
    refine lc_range (lo := 0) (n := (m : Int).toNat) (fun i H' => Kp b H H' ∧ Bag H' b l ∧ H' R = some (.lst (((List.range i).map (nm cs at'.toNat fi.toNat)).map fun w => V.str (SX.S w)))) ⟨k5.upd hR0, B5.upd nR'.1 nR'.2, upd_same⟩ ?_ ?_
    · rintro i H6 hi ⟨k6, B6, hR⟩
      refine ⟨rfl, ?_⟩
      have him : i < m := by omega
      have e5 : ((fi + 5 * (0 + (i : Int))).fmod 26) = (((fi.toNat + 5 * i) % 26 : Nat) : Int) := by
        rw [Int.fmod_eq_emod_of_nonneg _ (by decide)]
        omega
      have hat : atI ("abcdefghijklmnopqrstuvwxyz" : Str).cps.toList ((fi + 5 * (0 + (i : Int))).fmod 26) = some (97 + (fi.toNat + 5 * i) % 26) := by
        rw [e5, abc_str]
        refine atI_nat ?_
        show abc[(fi.toNat + 5 * i) % 26]? = _
        rw [abc_at (Nat.mod_lt _ (by decide)), Nat.add_comm]
      have hz26 : ("abcdefghijklmnopqrstuvwxyz" : Str).length ≤ sizeLine := by rw [abc_str, SX.S_len, abc_len]; decide
      refine ⟨_, rfl, _, rfl, at', rfl, SX.S cs, rfl, hz, ?_⟩
      rw [SX.slice_to ha0]
      refine ⟨_, rfl, _, rfl, _, rfl, _, _, rfl, rfl, .inl ⟨by decide, by decide⟩, _, _, rfl, rfl, .inl ⟨_, rfl, _, _, rfl, rfl, (by show (26 : Int) ≠ 0; decide), _, _, _, rfl, rfl, hz26, hat, ?_⟩⟩
      refine ⟨_, _, rfl, rfl, (by rw [SX.S_len, List.length_take]; show min _ _ + 1 ≤ sizeLine; exact small (by omega)), ?_⟩
      have ec1 : SX.S (cs.take at'.toNat) ++ (⟨#[97 + (fi.toNat + 5 * i) % 26]⟩ : Str) = SX.S (cs.take at'.toNat ++ [97 + (fi.toNat + 5 * i) % 26]) := SX.S_cat _ [_]
      rw [ec1]
      refine ⟨_, rfl, _, rfl, at', rfl, SX.S cs, rfl, hz, ?_⟩
      rw [SX.slice_from ha0]
      refine ⟨_, _, rfl, rfl, (by rw [SX.S_len, SX.S_len, List.length_append, List.length_take, List.length_drop, List.length_singleton]; exact small (by omega)), ?_⟩
      rw [SX.S_cat]
      refine ⟨_, hR, (by rw [List.length_map, List.length_map, List.length_range]; exact small1000 (by omega)), k6.upd hR0, B6.upd nR'.1 nR'.2, ?_⟩
      rw [upd_same, List.range_succ, List.map_append, List.map_append]
      rfl
    · rintro H6 ⟨k6, B6, hR⟩
      rw [Int.toNat_natCast] at hR
      exact q R _ H6 ⟨cs, at'.toNat, fi.toNat, hlow, by omega, by omega, by omega, rfl⟩ hR0 k6 B6 hR
end

end Ag

namespace Ag
open PySem PySem.Spec PyProof.Rows L2
section
variable {P : Program} {w : World} {K : PySem.W.Frag} {mg : Str → Option Value} {base : Heap}
/-! ### _law_like: two things that are told by the same data are alike -/
def spLike (K : PySem.W.Frag) (n : Nat) : Sp := fun vs H Q _ => ∃ (x y : V) (d : PyData), vs = [x, y] ∧ Da K H x d ∧ Da K H y d ∧ oka n d = true ∧ ∀ H', Same H H' → Q (.bl true) H'
theorem scLike : FnScope ["_law_found", "_law_due", "_law_key", "_law_one", "_law_other"] ["_law_found", "_law_due"] (defScope s_law_like) := ⟨rfl, rfl, rfl, by decide +kernel, rfl, by decide +kernel, by decide +kernel⟩
theorem ok_like {n : Nat} {f : Addr} {fd : FuncData} (F : Fun K "_law_like" "_law_like" s_law_like f fd) (cG : C8.Cal P w K mg base n "_law_like" (spLike K n) []) (M : LikeM mg) :
    FnOk P w K mg base CX0 (n + 1) f fd ["_law_found", "_law_due"] (spLike K (n + 1)) := by
  refine F.ok scLike (fun vs H Q E h => ?_) (fun cdv A outer s H vs Q E hr h => ?_)
  · obtain ⟨x, y, d, rfl, _⟩ := h
    rfl
  obtain ⟨x, y, d, rfl, hx, hy, hok, q⟩ := h
  have nd := scLike.nd
  refine ⟨_, pss_cons (ps_if (pt_val (pe_callB call_isi (by rfl) M.isi (by decide +kernel) (pa_cons (pv 1) (pa_cons (pe_bltn (v := .ty "dict") (u := .type "dict") (by rfl) M.dict (by decide +kernel) rfl) pa_nil)))) (pss_one (ps_ret (pe_and (pe_callB call_isi (by rfl) M.isi (by decide +kernel) (pa_cons (pv 0) (pa_cons (pe_bltn (v := .ty "dict") (u := .type "dict") (by rfl) M.dict (by decide +kernel) rfl) pa_nil)))
        (pe_and (pe_cmpR (op_eqD hr.units) (pe_callB cr_sortedS (by rfl) M.sorted (by decide +kernel) (pa_cons (pe_callTy (call_listD rfl) (by rfl) M.list (by decide +kernel) (pa_cons (pv 0) pa_nil)) pa_nil))
            (pe_callB cr_sortedS (by rfl) M.sorted (by decide +kernel) (pa_cons (pe_callTy (call_listD rfl) (by rfl) M.list (by decide +kernel) (pa_cons (pv 1) pa_nil)) pa_nil)) (nomark _))
          (pe_one (pe_callB (cr_all rfl) (by rfl) M.all (by decide +kernel) (pa_cons (pe_lock (pe_lc (own := [("_law_key", 2)]) (g := gName 2) (tt := tYes) rfl nd (pi_keys (pv 1)) (blkOk_by (own := [("_law_key", 2)]) (N := ["_law_found", "_law_due", "_law_key", "_law_one", "_law_other"]) (sc := defScope s_law_like) (by decide +kernel))
            (fun _ _ _ _ _ => pg_name (i := 2) nd rfl (Or.inl rfl)) (fun _ _ _ _ _ => pts_nil) (fun _ _ _ _ _ => C8.pe_c cG hr (Nat.le_refl n) (by rfl) (pa_cons (pe_dget (hu_of hr) (pv 0) (pv 2) (fun _ _ => rfl)) (pa_cons (pe_dget (hu_of hr) (pv 1) (pv 2) (fun _ _ => rfl)) pa_nil))))) pa_nil))))))) pss_nil)
    (pss_cons (ps_if (pt_val (pe_callB call_isiT (by rfl) M.isi (by decide +kernel) (pa_cons (pv 1) (pa_cons (pe_tup (pa_cons (pe_bltn (v := .ty "list") (u := .type "list") (by rfl) M.list (by decide +kernel) rfl) (pa_cons (pe_bltn (v := .ty "tuple") (u := .type "tuple") (by rfl) M.tuple (by decide +kernel) rfl) pa_nil))) pa_nil))))
      (pss_cons (ps_if (PW.pt (pw_or (pt_cmpR op_ne (pe_callB call_isi (by rfl) M.isi (by decide +kernel) (pa_cons (pv 0) (pa_cons (pe_bltn (v := .ty "list") (u := .type "list") (by rfl) M.list (by decide +kernel) rfl) pa_nil))) (pe_callB call_isi (by rfl) M.isi (by decide +kernel) (pa_cons (pv 1) (pa_cons (pe_bltn (v := .ty "list") (u := .type "list") (by rfl) M.list (by decide +kernel) rfl) pa_nil))) (nomark _))
          (pw_or1 (pt_cmpR op_ne (pe_callB call_isi (by rfl) M.isi (by decide +kernel) (pa_cons (pv 0) (pa_cons (pe_bltn (v := .ty "tuple") (u := .type "tuple") (by rfl) M.tuple (by decide +kernel) rfl) pa_nil))) (pe_callB call_isi (by rfl) M.isi (by decide +kernel) (pa_cons (pv 1) (pa_cons (pe_bltn (v := .ty "tuple") (u := .type "tuple") (by rfl) M.tuple (by decide +kernel) rfl) pa_nil))) (nomark _))))) (pss_one (ps_ret pe_bl)) pss_nil)
      (pss_one (ps_ret (pe_and (pe_cmpR op_eq (pe_callB call_len (by rfl) M.len boot_len (pa_cons (pv 0) pa_nil)) (pe_callB call_len (by rfl) M.len boot_len (pa_cons (pv 1) pa_nil)) (nomark _))
        (pe_one (pe_callB (cr_all rfl) (by rfl) M.all (by decide +kernel) (pa_cons (pe_lc (own := [("_law_one", 3), ("_law_other", 4)]) (g := gTup K 2 (gCons (gName 3) (gCons (gName 4) gNil))) (tt := tYes) rfl nd (RZ.pi_zipA (by rfl) M.zip (pa_cons (pv 0) (pa_cons (pv 1) pa_nil))) (blkOk_by (own := [("_law_one", 3), ("_law_other", 4)]) (N := ["_law_found", "_law_due", "_law_key", "_law_one", "_law_other"]) (sc := defScope s_law_like) (by decide +kernel))
          (fun _ _ _ _ _ => pg_tup rfl (pgs_cons (pg_name (i := 3) nd rfl (Or.inl rfl)) (pgs_cons (pg_name (i := 4) nd rfl (Or.inl rfl)) pgs_nil))) (fun _ _ _ _ _ => pts_nil) (fun _ _ _ _ _ => C8.pe_c cG hr (Nat.le_refl n) (by rfl) (pa_cons (pv 3) (pa_cons (pv 4) pa_nil)))) pa_nil))))))) pss_nil)
    (pss_cons (ps_if (PW.pt (pw_or (pt_cmp (pc_isN (pv 1)) rfl) (pw_or1 (pt_cmp (pc_isN (pv 0)) rfl)))) (pss_one (ps_ret (pe_and (pe_cmp (pc_isN (pv 1)) rfl) (pe_one (pe_cmp (pc_isN (pv 0)) rfl))))) pss_nil)
    (pss_cons (ps_if (PW.pt (pw_or (pt_cmpR op_ne (pe_callB call_isi (by rfl) M.isi (by decide +kernel) (pa_cons (pv 0) (pa_cons (pe_bltn (v := .ty "bool") (u := .type "bool") (by rfl) M.bool (by decide +kernel) rfl) pa_nil))) (pe_callB call_isi (by rfl) M.isi (by decide +kernel) (pa_cons (pv 1) (pa_cons (pe_bltn (v := .ty "bool") (u := .type "bool") (by rfl) M.bool (by decide +kernel) rfl) pa_nil))) (nomark _))
          (pw_or1 (pt_cmpR op_ne (pe_callB call_isi (by rfl) M.isi (by decide +kernel) (pa_cons (pv 0) (pa_cons (pe_bltn (v := .ty "int") (u := .type "int") (by rfl) M.int (by decide +kernel) rfl) pa_nil))) (pe_callB call_isi (by rfl) M.isi (by decide +kernel) (pa_cons (pv 1) (pa_cons (pe_bltn (v := .ty "int") (u := .type "int") (by rfl) M.int (by decide +kernel) rfl) pa_nil))) (nomark _))))) (pss_one (ps_ret pe_bl)) pss_nil)
    (pss_one (ps_ret (pe_and (pe_cmpR op_eq (pe_callB call_isi (by rfl) M.isi (by decide +kernel) (pa_cons (pv 0) (pa_cons (pe_bltn (v := .ty "str") (u := .type "str") (by rfl) M.str (by decide +kernel) rfl) pa_nil))) (pe_callB call_isi (by rfl) M.isi (by decide +kernel) (pa_cons (pv 1) (pa_cons (pe_bltn (v := .ty "str") (u := .type "str") (by rfl) M.str (by decide +kernel) rfl) pa_nil))) (nomark _))
      (pe_one (pe_cmpR op_eq (pv 0) (pv 1) (nomark _))))))))), ?_⟩
  have kd := kit_some (d := d)
  -- isinstance(due, dict)
  refine ⟨_, rfl, y, .ty "dict", _, .type "dict", _, rfl, .ty _, da_tyx hy, isk kd.1, _, rfl, ?_⟩
  by_cases hdic : ∃ es, d = .dict es
  · obtain ⟨es, rfl⟩ := hdic
    refine iteU isD_dic ?_
    cases hx with
    | @dic a kvs kvs' _ ea p1 n1 r1 =>
    cases hy with
    | @dic c kws kws' _ ec p2 n2 r2 =>
      refine ⟨_, rfl, .ref a, .ty "dict", _, .type "dict", _, rfl, .ty _, .base (.dK ea), isk (d := .dict es) kd.1, _, rfl, iteU isD_dic ?_⟩
      obtain ⟨k1, e1, l1, o1, t1, u1⟩ := dic_keys (fun _ _ z => z.1) hok r1
      obtain ⟨k2, e2, l2, o2, t2, u2⟩ := dic_keys (fun _ _ z => z.1) hok r2
      have e12 : k1 = k2 := by
        have z := t1.symm.trans t2
        have inj : ∀ (a b : List Str), a.map PyData.str = b.map PyData.str → a = b := fun a => by
          induction a with
          | nil => intro b h; cases b with
            | nil => rfl
            | cons _ _ => cases h
          | cons x r ih => intro b h; cases b with
            | nil => cases h
            | cons y t =>
              rw [List.map_cons, List.map_cons] at h
              injection h with h1 h2
              injection h1 with h1
              rw [h1, ih t h2]
        exact inj _ _ z
      subst e12
      have hl64 : es.length < 64 := by
        simp only [oka, Bool.and_eq_true, decide_eq_true_eq] at hok
        exact hok.1
      -- the keys, sorted
      have q1 : (kvs.map fun kv => kV kv.1).Perm (k1.map V.str) := by rw [← e1]; exact p1.map _
      have q2 : (kws.map fun kv => kV kv.1).Perm (k1.map V.str) := by rw [← e2]; exact p2.map _
      have keysof : ∀ {l : List (Key × V)} {m : List (Key × V)}, l.Perm m → ∀ {ks : List Str}, (m.map (·.1)) = ks.map Sum.inr → ∃ ks' : List Str, (l.map fun kv => kV kv.1) = ks'.map V.str ∧ ks'.Perm ks := by
        intro l m pm ks hm
        have pk : (l.map (·.1)).Perm (ks.map Sum.inr) := by rw [← hm]; exact pm.map _
        let un : Key → Str := fun k => match k with | .inl _ => ⟨#[]⟩ | .inr x => x
        have hall : ∀ kv ∈ l, ∃ x, kv.1 = Sum.inr x := fun kv hkv => by
          have z : kv.1 ∈ ks.map (Sum.inr (α := Int)) := pk.mem_iff.mp (List.mem_map.mpr ⟨kv, hkv, rfl⟩)
          obtain ⟨x, _, e⟩ := List.mem_map.mp z
          exact ⟨x, e.symm⟩
        refine ⟨l.map fun kv => un kv.1, ?_, ?_⟩
        · rw [List.map_map]
          refine List.map_congr_left fun kv hkv => ?_
          obtain ⟨x, e⟩ := hall kv hkv
          show kV kv.1 = V.str (un kv.1)
          rw [e]
          rfl
        · have z := pk.map un
          rw [List.map_map, List.map_map] at z
          have z2 : ks.map (un ∘ Sum.inr) = ks := by
            have : (un ∘ Sum.inr : Str → Str) = id := rfl
            rw [this, List.map_id]
          rw [z2] at z
          exact z
      obtain ⟨ka, ea1, pa1⟩ := keysof p1 u1
      obtain ⟨kb, eb1, pb1⟩ := keysof p2 u2
      refine ⟨_, rfl, a, kvs, rfl, .inl ea, fun L1 nL1 => ?_⟩
      rw [ea1]
      refine ⟨L1, ka, rfl, SqL.of upd_same, by rw [pa1.length_eq, l1]; exact hl64, fun s1 S1 ps1 ss1 nS1 => ?_⟩
      have g1 := same_new nL1 (.lst (ka.map V.str))
      have g2 := same_new nS1 (.lst (s1.map V.str))
      refine ⟨_, rfl, c, kws, rfl, .inl ((g1.trans g2) _ _ ec), fun L2 nL2 => ?_⟩
      rw [eb1]
      refine ⟨L2, kb, rfl, SqL.of upd_same, by rw [pb1.length_eq, l1]; exact hl64, fun s2 S2 ps2 ss2 nS2 => ?_⟩
      have g3 := same_new nL2 (.lst (kb.map V.str))
      have g4 := same_new nS2 (.lst (s2.map V.str))
      have es12 : s1 = s2 := sorted_one (ps1.trans (pa1.trans (pb1.symm.trans ps2.symm))) ss1 ss2
      subst es12
      have ok1 : ∀ y ∈ s1, (y.cps.all (· < 0x110000)) = true := fun y hy => o1 y ((ps1.trans pa1).mem_iff.mp hy)
      have hsh := shaped_strs ok1
      have g5 := (g1.trans g2).trans (g3.trans g4)
      refine ⟨.list (s1.map PyData.str), .list (s1.map PyData.str), .lst (SqL.of ((g3.trans g4) _ _ upd_same)) (dpall_strs s1), .lst (SqL.of upd_same) (dpall_strs s1), hsh, hsh, _, rfl, iteU (SeqAt.eqv_refl _ (lay_strs s1 ok1)) ?_⟩
      -- item by item
      have hc5 := g5 _ _ ec
      have ha5 := g5 _ _ ea
      refine ⟨c, .dK kws, hc5, trivial, fun od => ?_⟩
      refine ⟨_, rfl, c, od, rfl, .inl ⟨kws, upd_same, fun D nD => ?_⟩⟩
      have nDc : D ≠ c := (ne_of_none upd_same nD).symm
      have lk := RdLe.lock hc5 (show Mut (some (.dK kws)) from trivial) od
      refine lc_it (walk_keys (d := c) (o := od) (kvs := kws)) (fun i H' => Same (upd _ c (.frz od (.dK kws))) H' ∧ H' D = some (.lst (List.replicate i (.bl true)))) ⟨same_new nD _, upd_same⟩ (fun i H' _ pv => pv.1 _ _ upd_same) ?_ ?_
      · rintro i v H2 _ hi ⟨w1, w2⟩ ⟨rfl, k, v', hk, rfl⟩
        have hm2 : (k, v') ∈ kws := List.mem_of_getElem? hk
        obtain ⟨e, he, hk2, hd2⟩ := paired_mem r2 (p2.mem_iff.mp hm2)
        obtain ⟨kv1, hkv1, hk1, hd1⟩ := paired_mem2 r1 he
        have ek : kv1.1 = k := by
          have z : keyD kv1.1 = keyD k := hk1.symm.trans hk2
          cases h1 : kv1.1 <;> cases h2 : k <;> (rw [h1, h2] at z; simp only [keyD] at z; first | (injection z with z; rw [z]) | cases z)
        have hv1 : valV kvs k = some kv1.2 := valV_of n1 (by rw [← ek]; exact p1.mem_iff.mpr hkv1)
        have hv2 : valV kws k = some v' := valV_of n2 hm2
        have rdl : RdLe H _ := fun b u z => RdLe.of w1 _ _ (lk _ _ (RdLe.of g5 _ _ z))
        refine ⟨rfl, ?_⟩
        refine ⟨_, rfl, _, rfl, a, _, rfl, .inl ⟨kvs, k, rdl _ _ (.inl ea), rfl, hv1.symm⟩, ?_⟩
        refine ⟨_, rfl, _, rfl, c, _, rfl, .inl ⟨kws, k, rdl _ _ (.inl ec), rfl, hv2.symm⟩, ?_⟩
        have hoke : oka n e.2 = true := by
          simp only [oka, Bool.and_eq_true, List.all_eq_true] at hok
          exact (hok.2 e he).2
        refine ⟨_, _, e.2, rfl, Da_of (Dp_rd rdl hd1), Da_of (Dp_rd rdl hd2), hoke, fun H3 g6 => ?_⟩
        have hil : i < kws.length := hi
        have hlen : kws.length < 64 := by
          have z := (p2.map (·.1)).length_eq
          rw [u2, List.length_map, List.length_map, l1] at z
          omega
        refine ⟨_, g6 _ _ w2, (by rw [List.length_replicate]; exact small1000 (by omega)), fun b o hb => ?_, ?_⟩
        · rw [upd_ne (ne_of_none hb nD)]
          exact g6 _ _ (w1 _ _ hb)
        · rw [upd_same, List.replicate_succ']
      · rintro H' ⟨w1, w2⟩
        refine ⟨w1 _ _ upd_same, ?_⟩
        refine ⟨D, List.replicate kws.length true, rfl, SqL.of (by rw [upd_ne nDc, w2, rep_bl]), ?_⟩
        rw [rep_all]
        refine q _ fun b o hb => ?_
        by_cases hbc : b = c
        · subst hbc
          rw [upd_same]
          rw [ec] at hb
          exact hb
        · rw [upd_ne hbc]
          exact w1 _ _ (by rw [upd_ne hbc]; exact g5 _ _ hb)
  refine iteE (isD_nodict fun es e => hdic ⟨es, e⟩) ?_
  -- isinstance(due, (list, tuple))
  refine ⟨_, rfl, (by show 2 ≤ sizeLine; decide), fun p np => ⟨y, p, _, _, _, _, rfl, upd_same, ct2, da_tyx (Da_same (same_new np _) hy), iskT, _, rfl, ?_⟩⟩
  have s1 : Same H (upd H p (.tup [.ty "list", .ty "tuple"])) := same_new np _
  replace hx := Da_same s1 hx
  replace hy := Da_same s1 hy
  have isn : ∀ T, (decide (V.bl (isD T d) = V.bl (isD T d))) = true := fun T => by simp
  by_cases hseq : (∃ ds, d = .list ds) ∨ ∃ ds, d = .tuple ds
  · refine iteU (isD_seq hseq) ?_
    refine ⟨_, rfl, x, .ty "list", _, .type "list", _, rfl, .ty _, da_tyx hx, isk kd.2.1, _, rfl, y, .ty "list", _, .type "list", _, rfl, .ty _, da_tyx hy, isk kd.2.1, rfl, _, rfl, iteNS rfl ?_⟩
    refine ⟨_, rfl, x, .ty "tuple", _, .type "tuple", _, rfl, .ty _, da_tyx hx, isk kd.2.2.1, _, rfl, y, .ty "tuple", _, .type "tuple", _, rfl, .ty _, da_tyx hy, isk kd.2.2.1, rfl, _, rfl, iteNS rfl ?_⟩
    rcases hseq with ⟨ds, rfl⟩ | ⟨ds, rfl⟩
    · simp only [oka, Bool.and_eq_true, decide_eq_true_eq, List.all_eq_true] at hok
      cases hx with
      | @lst a xs _ q1 a1 =>
        cases hy with
        | @lst c ys _ q2 a2 =>
          have l1 := daall_len a1
          have l2 := daall_len a2
          have eln : decide (V.int (xs.length : Nat) = V.int (ys.length : Nat)) = true := by rw [l1, l2]; exact decide_eq_true rfl
          refine ⟨_, rfl, _, xs.length, rfl, .inl ⟨_, q1, rfl⟩, _, rfl, _, ys.length, rfl, .inl ⟨_, q2, rfl⟩, rfl, _, rfl, iteU eln ?_⟩
          refine ⟨_, rfl, _, rfl, a, c, xs, ys, rfl, .inl ⟨q1, q2, fun D nD => ?_⟩⟩
          refine lc_it (walk_zip (n := ds.length) (by omega)) (fun i H' => Same (upd H p (.tup [.ty "list", .ty "tuple"])) H' ∧ H' D = some (.lst (List.replicate i (.bl true)))) ⟨same_new nD _, upd_same⟩
            (fun i H' _ pv => ⟨Same.seq pv.1 q1, Same.seq pv.1 q2⟩) ?_ ?_
          · rintro i v H1 H2 hi ⟨g1, g2⟩ ⟨T, u, v', rfl, nT, rfl, hu, hv⟩
            obtain ⟨e, he, de⟩ := daall_get a1 hu
            obtain ⟨e', he', de'⟩ := daall_get a2 hv
            have ee : e' = e := by rw [he] at he'; exact (Option.some.inj he').symm
            subst ee
            have g3 := same_new nT (.tup [u, v'])
            have g4 := g1.trans g3
            refine ⟨T, [u, v'], rfl, SqT.of upd_same, rfl, u, [v'], rfl, v', [], rfl, rfl, rfl, ?_⟩
            refine ⟨_, rfl, _, rfl, u, v', e', rfl, Da_same g4 de, Da_same g4 de', hok.2 _ (List.mem_of_getElem? he), fun H3 g5 => ?_⟩
            have hD3 := g5 _ _ (g3 _ _ g2)
            have hil : i < sizeLine := small1000 (by omega)
            refine ⟨_, hD3, (by rw [List.length_replicate]; exact hil), fun b o hb => ?_, ?_⟩
            · have nb : b ≠ D := ne_of_none hb nD
              rw [upd_ne nb]
              exact g5 _ _ (g4 _ _ hb)
            · rw [upd_same, List.replicate_succ']
          · rintro H' ⟨g1, g2⟩
            refine ⟨D, List.replicate ds.length true, rfl, SqL.of (by rw [g2, rep_bl]), ?_⟩
            rw [rep_all]
            exact q _ (s1.trans g1)
    · simp only [oka, Bool.and_eq_true, decide_eq_true_eq, List.all_eq_true] at hok
      cases hx with
      | @tup a xs _ q1 a1 =>
        cases hy with
        | @tup c ys _ q2 a2 =>
          have l1 := daall_len a1
          have l2 := daall_len a2
          have eln : decide (V.int (xs.length : Nat) = V.int (ys.length : Nat)) = true := by rw [l1, l2]; exact decide_eq_true rfl
          refine ⟨_, rfl, _, xs.length, rfl, .inr ⟨_, q1, rfl⟩, _, rfl, _, ys.length, rfl, .inr ⟨_, q2, rfl⟩, rfl, _, rfl, iteU eln ?_⟩
          refine ⟨_, rfl, _, rfl, a, c, xs, ys, rfl, .inr ⟨q1, q2, fun D nD => ?_⟩⟩
          refine lc_it (walk_zipT (n := ds.length) (by omega)) (fun i H' => Same (upd H p (.tup [.ty "list", .ty "tuple"])) H' ∧ H' D = some (.lst (List.replicate i (.bl true)))) ⟨same_new nD _, upd_same⟩
            (fun i H' _ pv => ⟨sameT pv.1 q1, sameT pv.1 q2⟩) ?_ ?_
          · rintro i v H1 H2 hi ⟨g1, g2⟩ ⟨T, u, v', rfl, nT, rfl, hu, hv⟩
            obtain ⟨e, he, de⟩ := daall_get a1 hu
            obtain ⟨e', he', de'⟩ := daall_get a2 hv
            have ee : e' = e := by rw [he] at he'; exact (Option.some.inj he').symm
            subst ee
            have g3 := same_new nT (.tup [u, v'])
            have g4 := g1.trans g3
            refine ⟨T, [u, v'], rfl, SqT.of upd_same, rfl, u, [v'], rfl, v', [], rfl, rfl, rfl, ?_⟩
            refine ⟨_, rfl, _, rfl, u, v', e', rfl, Da_same g4 de, Da_same g4 de', hok.2 _ (List.mem_of_getElem? he), fun H3 g5 => ?_⟩
            have hD3 := g5 _ _ (g3 _ _ g2)
            have hil : i < sizeLine := small1000 (by omega)
            refine ⟨_, hD3, (by rw [List.length_replicate]; exact hil), fun b o hb => ?_, ?_⟩
            · have nb : b ≠ D := ne_of_none hb nD
              rw [upd_ne nb]
              exact g5 _ _ (g4 _ _ hb)
            · rw [upd_same, List.replicate_succ']
          · rintro H' ⟨g1, g2⟩
            refine ⟨D, List.replicate ds.length true, rfl, SqL.of (by rw [g2, rep_bl]), ?_⟩
            rw [rep_all]
            exact q _ (s1.trans g1)
  · refine iteE (isD_leaf (fun ds e => hseq (.inl ⟨ds, e⟩)) (fun ds e => hseq (.inr ⟨ds, e⟩))) ?_
    have nl : ∀ ds, d ≠ .list ds := fun ds e => hseq (.inl ⟨ds, e⟩)
    have nt : ∀ ds, d ≠ .tuple ds := fun ds e => hseq (.inr ⟨ds, e⟩)
    have exy : x = y ∧ ((scal x y = true ∧ decide (x = .non) = false) ∨ x = .non) := by
      cases hx with
      | non => cases hy; exact ⟨rfl, .inr rfl⟩
      | bl b => cases hy; exact ⟨rfl, .inl ⟨rfl, rfl⟩⟩
      | int b => cases hy; exact ⟨rfl, .inl ⟨rfl, rfl⟩⟩
      | str b => cases hy; exact ⟨rfl, .inl ⟨rfl, rfl⟩⟩
      | dic _ _ _ _ => exact absurd ⟨_, rfl⟩ hdic
      | lst _ _ => exact absurd rfl (nl _)
      | tup _ _ => exact absurd rfl (nt _)
    obtain ⟨rfl, hsc⟩ := exy
    rcases hsc with ⟨hsc, en⟩ | hn
    · refine ⟨_, rfl, _, rfl, iteE en ⟨_, rfl, _, rfl, iteE en ?_⟩⟩
      refine ⟨_, rfl, x, .ty "bool", _, .type "bool", _, rfl, .ty _, da_tyx hx, isk kd.2.2.2.1, _, rfl, x, .ty "bool", _, .type "bool", _, rfl, .ty _, da_tyx hy, isk kd.2.2.2.1, rfl, _, rfl, iteNS rfl ?_⟩
      refine ⟨_, rfl, x, .ty "int", _, .type "int", _, rfl, .ty _, da_tyx hx, isk kd.2.2.2.2.1, _, rfl, x, .ty "int", _, .type "int", _, rfl, .ty _, da_tyx hy, isk kd.2.2.2.2.1, rfl, _, rfl, iteNS rfl ?_⟩
      refine ⟨_, rfl, x, .ty "str", _, .type "str", _, rfl, .ty _, da_tyx hx, isk kd.2.2.2.2.2, _, rfl, x, .ty "str", _, .type "str", _, rfl, .ty _, da_tyx hy, isk kd.2.2.2.2.2, rfl, _, rfl, iteU (isn _) ?_⟩
      refine ⟨_, rfl, _, rfl, hsc, ?_⟩
      rw [decide_eq_true rfl]
      exact q _ s1
    · subst hn
      refine ⟨_, rfl, _, rfl, iteU rfl ⟨_, rfl, _, rfl, iteU rfl ⟨_, rfl, ?_⟩⟩⟩
      exact q _ s1
theorem no_like0 (vs : List V) (H : Hp) (Q : VK) (E : XK) : ¬ spLike K 0 vs H Q E := by
  rintro ⟨x, y, d, _, _, _, h, _⟩
  cases h
theorem like_cal {f : Addr} {fd : FuncData} (F : Fun K "_law_like" "_law_like" s_law_like f fd) (b : Binds K fd ["_law_found", "_law_due"] []) (m : mg "_law_like" = some (.ref f)) (M : LikeM mg) : ∀ n : Nat, C8.Cal P w K mg base n "_law_like" (spLike K n) []
  | 0 => ⟨f, fd, ["_law_found", "_law_due"], [], ⟨fun vs H Q E h => absurd h (no_like0 vs H Q E), fun A outer s H args us vs Q E _ _ _ _ h => absurd h (no_like0 vs H Q E)⟩, m, F.kp, b, .nil⟩
  | n + 1 => ⟨f, fd, ["_law_found", "_law_due"], [], ok_like F (like_cal F b m M n) M, m, F.kp, b, .nil⟩
end

end Ag

namespace Ag
open PySem PySem.Spec PyProof.Rows L2
section
variable {P : Program} {w : World} {K : PySem.W.Frag} {mg : Str → Option Value} {base : Heap}
/-! ### _law_form -/
def spForm (K : PySem.W.Frag) (n : Nat) : Sp := fun vs H Q _ => ∃ (b l wa : Addr) (ws : List (List Nat)) (dp : Int), vs = [.ref b, .ref wa, .int dp] ∧ Bag H b l ∧ SqL K H wa (ws.map fun w => V.str (SX.S w)) ∧ wa ≠ b ∧ 0 < ws.length ∧ ws.length ≤ 1000 ∧ 1 ≤ dp ∧ dp ≤ n ∧
  ∀ (v : V) (t : Fm) (H' : Hp), okF ws [] dp.toNat t → Fr K H' v t → Kp b H H' → Bag H' b l → Q v H'
abbrev nForm : List Str := ["_law_bag_here", "_law_words", "_law_deep", "_law_way", "_law_one"]
theorem scForm : FnScope nForm ["_law_bag_here", "_law_words", "_law_deep"] (defScope s_law_form) := ⟨rfl, rfl, rfl, by decide +kernel, rfl, by decide +kernel, by decide +kernel⟩
theorem ok_form {n : Nat} {f : Addr} {fd : FuncData} (F : Fun K "_law_form" "_law_form" s_law_form f fd) (cP : C8.Cal P w K mg base 1 "_law_pull" spPull []) (cA : C8.Cal P w K mg base 2 "_law_any" (spAny K) []) (cF : C8.Cal P w K mg base (n + 2) "_law_form" (spForm K n) []) :
    FnOk P w K mg base CX0 (n + 3) f fd ["_law_bag_here", "_law_words", "_law_deep"] (spForm K (n + 1)) := by
  refine F.ok scForm (fun vs H Q E h => ?_) (fun cdv A outer s H vs Q E hr h => ?_)
  · obtain ⟨b, l, wa, ws, dp, rfl, _⟩ := h
    rfl
  obtain ⟨b, l, wa, ws, dp, rfl, hB, hw, nwb, w0, w1, d0, d1, q⟩ := h
  have nd := scForm.nd
  refine ⟨_, pss_cons (ps_set (i := 3) nd rfl (.inl rfl) (C8.pe_c cP hr (by omega) (by rfl) (pa_cons (pv 0) (pa_cons pe_int pa_nil))))
    (pss_cons (ps_if (PW.pt (pw_or (pt_cmpR op_lt (pv 2) pe_int (nomark _)) (pw_or1 (pt_cmpR op_lt (pv 3) pe_int (nomark _)))))
      (pss_one (ps_ret (pe_ifExp (pt_cmpR op_eq (C8.pe_c cP hr (by omega) (by rfl) (pa_cons (pv 0) (pa_cons pe_int pa_nil))) pe_int (nomark _)) (pe_tup (pa_cons pe_str pa_nil)) (pe_tup (pa_cons pe_str (pa_cons (C8.pe_c cA hr (by omega) (by rfl) (pa_cons (pv 0) (pa_cons (pv 1) pa_nil))) pa_nil)))))) pss_nil)
    (pss_cons (ps_set (i := 4) nd rfl (.inl rfl) (C8.pe_c cF hr (Nat.le_refl _) (by rfl) (pa_cons (pv 0) (pa_cons (pv 1) (pa_cons (pe_op op_sub (pv 2) pe_int) pa_nil)))))
    (pss_one (ps_ret (pe_tup (pa_cons (pe_ix ix_tup (pe_tup (pa_cons pe_str (pa_cons pe_str (pa_cons pe_str pa_nil)))) (pe_op op_sub (pv 3) pe_int) (fun _ _ => rfl)) (pa_cons (pv 4) (pa_cons (C8.pe_c cF hr (Nat.le_refl _) (by rfl) (pa_cons (pv 0) (pa_cons (pv 1) (pa_cons (pe_op op_sub (pv 2) pe_int) pa_nil)))) pa_nil)))))))), ?_⟩
  refine ⟨_, rfl, b, l, 5, rfl, hB, by decide, by decide, fun wy H1 y0 y5 k1 B1 => ?_⟩
  have hdp : dp.toNat = (dp.toNat - 1) + 1 := by omega
  have leaf : ∀ t : Fm, (t = .fls ∨ ∃ w, t = .atom w ∧ w ∈ ws) → okF ws [] dp.toNat t := by
    intro t ht
    rw [hdp]
    rcases ht with rfl | ⟨w, rfl, hw⟩
    · trivial
    · exact hw
  refine ⟨_, rfl, _, _, rfl, rfl, _, rfl, ?_⟩
  by_cases hl : dp < 2 ∨ wy < 2
  · by_cases h1 : dp < 2
    all_goals first | refine iteU (decide_eq_true h1) ?_ | refine iteE (decide_eq_false h1) ⟨_, rfl, _, _, rfl, rfl, _, rfl, iteU (decide_eq_true (by omega)) ?_⟩
    all_goals
      refine ⟨_, rfl, b, l, 7, rfl, B1, by decide, by decide, fun d7 H2 _ _ k2 B2 => ⟨rfl, _, rfl, ite2 (fun _ => ?_) (fun _ => ?_)⟩⟩
      · refine ⟨(by show 1 ≤ sizeLine; decide), fun p np => ?_⟩
        exact q _ .fls _ (leaf _ (.inl rfl)) (mk_fls (SqT.of upd_same)) ((k1.trans k2).trans (.of (same_new np _))) (B2.kp (same_new np _))
      · have k12 := k1.trans k2
        refine ⟨_, rfl, _, rfl, b, l, _, _, rfl, B2, .inr ⟨wa, rfl, nwb, .inl (k12.seqL nwb hw)⟩, by rw [List.length_map]; exact w0, by rw [List.length_map]; omega, fun i v H3 hv k3 B3 => ?_⟩
        rw [List.getElem?_map] at hv
        obtain ⟨u, hu, rfl⟩ := Option.map_eq_some_iff.mp hv
        refine ⟨(by show 2 ≤ sizeLine; decide), fun p np => ?_⟩
        exact q _ (.atom u) _ (leaf _ (.inr ⟨u, rfl, List.mem_of_getElem? hu⟩)) (mk_atom (SqT.of upd_same)) ((k12.trans k3).trans (.of (same_new np _))) (B3.kp (same_new np _))
  · have h1 : ¬ dp < 2 := fun z => hl (.inl z)
    have h2 : ¬ wy < 2 := fun z => hl (.inr z)
    refine iteE (decide_eq_false h1) ⟨_, rfl, _, _, rfl, rfl, _, rfl, iteE (decide_eq_false h2) ?_⟩
    refine ⟨_, rfl, _, rfl, _, rfl, _, _, rfl, rfl, b, l, wa, ws, dp - 1, rfl, B1, k1.seqL nwb hw, nwb, w0, w1, by omega, by omega, fun v1 t1 H2 o1 f1 k2 B2 => ?_⟩
    refine ⟨(by show 3 ≤ sizeLine; decide), fun p np => ?_⟩
    have g1 := same_new np (.tup [.str "then", .str "and", .str "or"])
    have B3 := B2.kp g1
    have k12 := k1.trans k2
    have hy3 : (wy - 2).toNat < 3 := by omega
    generalize hj : (⟨(wy - 2).toNat, hy3⟩ : Fin 3) = j
    have hy : wy - 2 = ((j.val : Nat) : Int) := by rw [← hj]; show wy - 2 = (((wy - 2).toNat : Nat) : Int); omega
    refine ⟨_, rfl, _, _, rfl, rfl, p, _, _, _, rfl, rfl, SqT.of upd_same, (by rw [hy]; exact atI_kd j), ?_⟩
    refine ⟨_, rfl, _, rfl, _, rfl, _, rfl, _, _, rfl, rfl, b, l, wa, ws, dp - 1, rfl, B3, g1.seq (k12.seqL nwb hw), nwb, w0, w1, by omega, by omega, fun v2 t2 H4 o2 f2 k4 B4 => ?_⟩
    refine ⟨(by show 3 ≤ sizeLine; decide), fun r nr => ?_⟩
    have g2 := same_new nr (.tup [.str (kd j), v1, v2])
    refine q _ (.bin j t1 t2) _ ?_ (mk_bin (SqT.of upd_same) (((f1.same g1).kp k4 B3).same g2) (f2.same g2)) ((k12.trans (.of g1)).trans (k4.trans (.of g2))) (B4.kp g2)
    rw [hdp]
    have e1 : (dp - 1).toNat = dp.toNat - 1 := by omega
    rw [e1] at o1 o2
    exact ⟨o1, o2⟩
theorem no_form0 (vs : List V) (H : Hp) (Q : VK) (E : XK) : ¬ spForm K 0 vs H Q E := by
  rintro ⟨b, l, wa, ws, dp, _, _, _, _, _, _, h0, h1, _⟩
  omega
theorem form_cal {f : Addr} {fd : FuncData} (F : Fun K "_law_form" "_law_form" s_law_form f fd) (b : Binds K fd ["_law_bag_here", "_law_words", "_law_deep"] []) (m : mg "_law_form" = some (.ref f)) (cP : C8.Cal P w K mg base 1 "_law_pull" spPull []) (cA : C8.Cal P w K mg base 2 "_law_any" (spAny K) []) : ∀ n : Nat, C8.Cal P w K mg base (n + 2) "_law_form" (spForm K n) []
  | 0 => ⟨f, fd, ["_law_bag_here", "_law_words", "_law_deep"], [], ⟨fun vs H Q E h => absurd h (no_form0 vs H Q E), fun A outer s H args us vs Q E _ _ _ _ h => absurd h (no_form0 vs H Q E)⟩, m, F.kp, b, .nil⟩
  | n + 1 => ⟨f, fd, ["_law_bag_here", "_law_words", "_law_deep"], [], ok_form F cP cA (form_cal F b m cP cA n), m, F.kp, b, .nil⟩
end

section
variable {P : Program} {w : World} {K : PySem.W.Frag} {mg : Str → Option Value} {base : Heap}
/-! ### is_letter -/
def spLetter (K : PySem.W.Frag) : Sp := fun vs H Q _ => ∃ x ok, vs = [x] ∧ LetIs K H x ok ∧ Q (.bl ok) H
theorem scLetter : FnScope ["value"] ["value"] (defScope s_is_letter) := ⟨rfl, rfl, rfl, by decide +kernel, rfl, by decide +kernel, by decide +kernel⟩
theorem ok_letter {f : Addr} {fd : FuncData} (F : Fun K "is_letter" "is_letter" s_is_letter f fd) (M : NameM mg) : FnOk P w K mg base CX0 1 f fd ["value"] (spLetter K) := by
  refine F.ok scLetter (fun vs H Q E h => ?_) (fun cdv A outer s H vs Q E hr h => ?_)
  · obtain ⟨x, ok, rfl, _⟩ := h
    rfl
  obtain ⟨x, ok, rfl, h, q⟩ := h
  obtain ⟨tL, mL⟩ := M.letters
  refine ⟨_, pss_one (ps_ret (pe_and (pe_callB call_isi (by rfl) M.isi (by decide +kernel) (pa_cons (pv 0) (pa_cons (pe_bltn (v := .ty "str") (u := .type "str") (by rfl) M.str (by decide +kernel) rfl) pa_nil)))
    (pe_and (pe_cmpR op_eq (pe_callB call_len (by rfl) M.len boot_len (pa_cons (pv 0) pa_nil)) pe_int (nomark _)) (pe_one (pe_cmpR op_in_str (pv 0) (pe_glob (v := .str "abcdefghijklmnopqrstuvwxyz") (by rfl) mL ⟨_, rfl⟩) (by rfl)))))), ?_⟩
  rcases h with ⟨cs, rfl, hl, rfl⟩ | ⟨⟨t, ht, hk⟩, rfl⟩
  · refine ⟨_, rfl, _, .ty "str", _, .type "str", true, rfl, .ty _, .base (.str _), kit_ty (by decide +kernel), _, rfl, iteT ?_⟩
    refine ⟨_, rfl, _, (SX.S cs).length, rfl, ⟨by rw [SX.S_len]; exact small hl, rfl⟩, rfl, _, rfl, ?_⟩
    rw [SX.S_len]
    refine ite2 (fun c => ?_) (fun c => ?_)
    · have c1 : cs.length = 1 := by
        have z := of_decide_eq_true c
        injection z with z
        omega
      refine ⟨_, rfl, _, _, rfl, rfl, ?_⟩
      rw [abc_str, isLet_in cs c1]
      exact q
    · have e : isLet cs = false := by
        unfold isLet
        rw [decide_eq_false, Bool.false_and]
        intro z
        exact c (decide_eq_true (congrArg V.int (by rw [z]; rfl)))
      rw [e] at q
      exact q
  · refine ⟨_, rfl, _, .ty "str", _, .type "str", false, rfl, .ty _, ht, hk, _, rfl, iteF ?_⟩
    exact q
end

section
variable {P : Program} {w : World} {K : PySem.W.Frag} {mg : Str → Option Value} {base : Heap}
/-! ### is_name -/
def spName (K : PySem.W.Frag) : Sp := fun vs H Q _ => ∃ x ok, vs = [x] ∧ NameIs K H x ok ∧ ∀ H', Same H H' → Q (.bl ok) H'
theorem scName : FnScope ["value", "letter"] ["value"] (defScope s_is_name) := ⟨rfl, rfl, rfl, by decide +kernel, rfl, by decide +kernel, by decide +kernel⟩
theorem ok_name {f : Addr} {fd : FuncData} (F : Fun K "is_name" "is_name" s_is_name f fd) (cL : C8.Cal P w K mg base 1 "is_letter" (spLetter K) []) (M : NameM mg) : FnOk P w K mg base CX0 2 f fd ["value"] (spName K) := by
  refine F.ok scName (fun vs H Q E h => ?_) (fun cdv A outer s H vs Q E hr h => ?_)
  · obtain ⟨x, ok, rfl, _⟩ := h
    rfl
  obtain ⟨x, ok, rfl, h, q⟩ := h
  obtain ⟨tL, mL⟩ := M.longest
  have nd := scName.nd
  refine ⟨_, pss_cons (ps_if (PW.pt (pw_or (pt_not (pt_val (pe_callB call_isi (by rfl) M.isi (by decide +kernel) (pa_cons (pv 0) (pa_cons (pe_bltn (v := .ty "str") (u := .type "str") (by rfl) M.str (by decide +kernel) rfl) pa_nil)))))
      (pw_or1 (pt_not (pt_chain op_le op_le pe_int (pe_callB call_len (by rfl) M.len boot_len (pa_cons (pv 0) pa_nil)) (pe_glob (v := .int 6) (by rfl) mL ⟨_, rfl⟩)))))) (pss_one (ps_ret pe_bl)) pss_nil)
    (pss_one (ps_ret (pe_callB (cr_all rfl) (by rfl) M.all (by decide +kernel) (pa_cons (pe_lc (own := [("letter", 1)]) (g := gName 1) (tt := tYes) rfl nd (pi_str (pv 0))
      (blkOk_by (own := [("letter", 1)]) (N := ["value", "letter"]) (sc := defScope s_is_name) (by decide +kernel)) (fun _ _ _ _ _ => pg_name (i := 1) nd rfl (Or.inl rfl)) (fun _ _ _ _ _ => pts_nil)
      (fun _ _ _ _ _ => C8.pe_c cL hr (by decide) (by rfl) (pa_cons (pv 1) pa_nil))) pa_nil)))), ?_⟩
  rcases h with ⟨cs, rfl, hl, rfl⟩ | ⟨⟨t, ht, hk⟩, rfl⟩
  · refine ⟨_, rfl, _, .ty "str", _, .type "str", true, rfl, .ty _, .base (.str _), kit_ty (by decide +kernel), _, rfl, ?_⟩
    refine iteF ?_
    refine ⟨_, rfl, _, (SX.S cs).length, rfl, ⟨by rw [SX.S_len]; exact small hl, rfl⟩, _, _, rfl, rfl, _, rfl, ?_⟩
    rw [SX.S_len]
    have qf : isNm cs = false → Q (.bl false) H := fun e => by
      have z := q H (.refl H)
      rw [e] at z
      exact z
    refine ite2 (fun c1 => ?_) (fun c1 => ?_)
    · refine ⟨_, _, rfl, rfl, _, rfl, ite2 (fun c2 => ?_) (fun c2 => ?_)⟩
      · refine qf ?_
        unfold isNm
        rw [decide_eq_false (p := cs.length ≤ 6), Bool.and_false, Bool.false_and]
        intro z
        simp only [Bool.not_eq_true', decide_eq_false_iff_not] at c2
        omega
      · have c3 : cs.length ≤ 6 := by
          simp only [Bool.not_eq_true', decide_eq_false_iff_not] at c2
          omega
        have c4 : 1 ≤ cs.length := by
          have z := of_decide_eq_true c1
          omega
        have ez : (SX.S cs).cps.size = cs.length := by simp
        refine ⟨_, rfl, SX.S cs, rfl, fun D nD => ?_⟩
        refine lc_it (walk_str (z := SX.S cs)) (fun i H' => Same H H' ∧ H' D = some (.lst (((cs.take i).map fun c => decide (97 ≤ c) && decide (c < 123)).map V.bl))) ⟨same_new nD _, upd_same⟩ (fun _ _ _ _ => trivial) ?_ ?_
        · rintro i v H1 H2 hi ⟨g1, g2⟩ ⟨rfl, c, hc, rfl⟩
          have hc' : cs[i]? = some c := by simpa using hc
          have hil : i < cs.length := (List.getElem?_eq_some_iff.mp hc').1
          refine ⟨rfl, ?_⟩
          refine ⟨_, rfl, _, _, rfl, .inl ⟨[c], rfl, by show 1 ≤ 1000; decide, rfl⟩, ?_⟩
          have e1 : isLet [c] = (decide (97 ≤ c) && decide (c < 123)) := by simp [isLet]
          rw [e1]
          refine ⟨_, g2, (by rw [List.length_map, List.length_map, List.length_take]; exact small1000 (by omega)), fun b o hb => ?_, ?_⟩
          · rw [upd_ne (ne_of_none hb nD)]
            exact g1 _ _ hb
          · rw [upd_same, List.take_add_one, hc', List.map_append, List.map_append]
            rfl
        · rintro H' ⟨g1, g2⟩
          rw [ez, List.take_length] at g2
          refine ⟨D, cs.map fun c => decide (97 ≤ c) && decide (c < 123), rfl, SqL.of g2, ?_⟩
          have e2 : isNm cs = (cs.map fun c => decide (97 ≤ c) && decide (c < 123)).all id := by
            unfold isNm
            rw [decide_eq_true c3, decide_eq_true c4, List.all_map]
            rfl
          rw [← e2]
          exact q H' g1
    · refine ⟨_, rfl, iteT ?_⟩
      refine qf ?_
      unfold isNm
      rw [decide_eq_false (p := 1 ≤ cs.length), Bool.false_and, Bool.false_and]
      intro z
      exact c1 (decide_eq_true (by omega))
  · refine ⟨_, rfl, _, .ty "str", _, .type "str", false, rfl, .ty _, ht, hk, _, rfl, iteT (iteT ?_)⟩
    exact q H (.refl H)
end

end Ag

namespace Ag
open PySem PySem.Spec PyProof.Rows L2
section
variable {P : Program} {w : World} {K : PySem.W.Frag} {mg : Str → Option Value} {base : Heap}
/-! ### is_leaf -/
def spLeaf (K : PySem.W.Frag) : Sp := fun vs H Q _ => ∃ (x : V) (h : Bool) (t : Fm), vs = [x, .bl h] ∧ Fr K H x t ∧ Sml t ∧ ((∃ w, t = .atom w) ∨ ∃ c, t = .hole c) ∧ ∀ H', Same H H' → Q (.bl (isB 1 h t)) H'
theorem scLeaf : FnScope ["value", "holes"] ["value", "holes"] (defScope s_is_leaf) := ⟨rfl, rfl, rfl, by decide +kernel, rfl, by decide +kernel, by decide +kernel⟩
theorem ok_leaf {f : Addr} {fd : FuncData} (F : Fun K "is_leaf" "is_leaf" s_is_leaf f fd) (cN : C8.Cal P w K mg base 2 "is_name" (spName K) []) (cL : C8.Cal P w K mg base 1 "is_letter" (spLetter K) []) : FnOk P w K mg base CX0 3 f fd ["value", "holes"] (spLeaf K) := by
  refine F.ok scLeaf (fun vs H Q E h => ?_) (fun cdv A outer s H vs Q E hr h => ?_)
  · obtain ⟨x, h, t, rfl, _⟩ := h
    rfl
  obtain ⟨x, h, t, rfl, hx, hs, hk, q⟩ := h
  refine ⟨_, pss_cons (ps_if (pt_cmpR op_eq (pe_ix ix_tup (pv 0) pe_int (fun _ _ => rfl)) pe_str (nomark _)) (pss_one (ps_ret (C8.pe_c cN hr (by decide) (by rfl) (pa_cons (pe_ix ix_tup (pv 0) pe_int (fun _ _ => rfl)) pa_nil)))) pss_nil)
    (pss_one (ps_ret (pe_and (pv 1) (pe_and (pe_cmpR op_eq (pe_ix ix_tup (pv 0) pe_int (fun _ _ => rfl)) pe_str (nomark _)) (pe_one (C8.pe_c cL hr (by decide) (by rfl) (pa_cons (pe_ix ix_tup (pv 0) pe_int (fun _ _ => rfl)) pa_nil))))))), ?_⟩
  rcases hk with ⟨u, rfl⟩ | ⟨c, rfl⟩
  · obtain ⟨p, rfl, sp⟩ := fr_atom hx
    refine ⟨_, rfl, p, _, _, _, rfl, rfl, sp, rfl, rfl, _, rfl, iteU (decide_eq_true rfl) ?_⟩
    exact ⟨_, rfl, p, _, _, _, rfl, rfl, sp, rfl, _, _, rfl, name_is hs, q⟩
  · obtain ⟨p, rfl, sp⟩ := fr_hole hx
    refine ⟨_, rfl, p, _, _, _, rfl, rfl, sp, rfl, rfl, _, rfl, iteE (decide_eq_false (by decide)) ?_⟩
    refine ⟨_, rfl, h, rfl, ?_⟩
    cases h with
    | false => exact q H (.refl H)
    | true =>
      refine ⟨_, rfl, p, _, _, _, rfl, rfl, sp, rfl, rfl, _, rfl, iteU (decide_eq_true rfl) ?_⟩
      exact ⟨_, rfl, p, _, _, _, rfl, rfl, sp, rfl, _, _, rfl, .inl ⟨c, rfl, hs, rfl⟩, q H (.refl H)⟩
end

section
variable {P : Program} {w : World} {K : PySem.W.Frag} {mg : Str → Option Value} {base : Heap}
/-! ### is_built -/
structure BuiltM (K : PySem.W.Frag) (mg : Str → Option Value) : Prop where
  isi : mg "isinstance" = none
  tuple : mg "tuple" = none
  len : mg "len" = none
  all : mg "all" = none
  joints : ∃ a, mg "JOINTS" = some (.ref a) ∧ ∀ H, SqT K H a [.str "then", .str "and", .str "or"]
def spBuilt (K : PySem.W.Frag) (n : Nat) : Sp := fun vs H Q _ => ∃ (x : V) (d : Nat) (h : Bool) (t : Fm), vs = [x, .int (d : Int), .bl h] ∧ Fr K H x t ∧ Sml t ∧ d < n ∧ SeqAt.shaped t.dat = true ∧ ∀ H', Same H H' → Q (.bl (isB d h t)) H'
abbrev nBuilt : List Str := ["value", "depth", "holes", "side"]
theorem scBuilt : FnScope nBuilt ["value", "depth", "holes"] (defScope s_is_built) := ⟨rfl, rfl, rfl, by decide +kernel, rfl, by decide +kernel, by decide +kernel⟩
theorem ok_built {n : Nat} {f : Addr} {fd : FuncData} (F : Fun K "is_built" "is_built" s_is_built f fd) (cL : C8.Cal P w K mg base 3 "is_leaf" (spLeaf K) []) (cB : C8.Cal P w K mg base (n + 3) "is_built" (spBuilt K n) []) (M : BuiltM K mg) : FnOk P w K mg base CX0 (n + 4) f fd ["value", "depth", "holes"] (spBuilt K (n + 1)) := by
  refine F.ok scBuilt (fun vs H Q E h => ?_) (fun cdv A outer s H vs Q E hr h => ?_)
  · obtain ⟨x, d, h, t, rfl, _⟩ := h
    rfl
  obtain ⟨x, d, h, t, rfl, hx, hs, hd, hsh, q⟩ := h
  have nd := scBuilt.nd
  obtain ⟨aJ, mJ, hJ⟩ := M.joints
  refine ⟨_, pss_cons (ps_if (PW.pt (pw_or (pt_cmpR op_eq (pv 1) pe_int (nomark _)) (pw_or1 (pt_not (pt_val (pe_callB call_isi (by rfl) M.isi (by decide +kernel) (pa_cons (pv 0) (pa_cons (pe_bltn (v := .ty "tuple") (u := .type "tuple") (by rfl) M.tuple (by decide +kernel) rfl) pa_nil)))))))) (pss_one (ps_ret pe_bl)) pss_nil)
    (pss_cons (ps_if (pt_cmpR op_eq (pe_callB call_len_seq (by rfl) M.len boot_len (pa_cons (pv 0) pa_nil)) pe_int (nomark _))
      (pss_one (ps_ret (pe_and (pe_cmpR op_in_seq (pe_ix ix_tup (pv 0) pe_int (fun _ _ => rfl)) (pe_glob (v := .ref aJ) (by rfl) mJ rfl) (by with_unfolding_all rfl)) (pe_one (pe_callB (cr_all rfl) (by rfl) M.all (by decide +kernel) (pa_cons (pe_lc (own := [("side", 3)]) (g := gName 3) (tt := tYes) rfl nd (pi_tup (pe_slice sl_tup (pv 0) (po_some pe_int) po_none))
        (blkOk_by (own := [("side", 3)]) (N := nBuilt) (sc := defScope s_is_built) (by decide +kernel)) (fun _ _ _ _ _ => pg_name (i := 3) nd rfl (Or.inl rfl)) (fun _ _ _ _ _ => pts_nil) (fun _ _ _ _ _ => C8.pe_c cB hr (Nat.le_refl _) (by rfl) (pa_cons (pv 3) (pa_cons (pe_op op_sub (pv 1) pe_int) (pa_cons (pv 2) pa_nil))))) pa_nil)))))) pss_nil)
    (pss_cons (ps_if (pt_cmpR op_eq (pe_callB call_len_seq (by rfl) M.len boot_len (pa_cons (pv 0) pa_nil)) pe_int (nomark _)) (pss_one (ps_ret (C8.pe_c cL hr (by omega) (by rfl) (pa_cons (pv 0) (pa_cons (pv 2) pa_nil))))) pss_nil)
    (pss_one (ps_ret (pe_cmpR (op_eqD hr.units) (pv 0) (pe_tup (pa_cons pe_str pa_nil)) (nomark _)))))), ?_⟩
  refine ⟨_, rfl, rfl, _, rfl, ?_⟩
  by_cases h0 : d = 0
  · subst h0
    refine iteU (decide_eq_true rfl) (iteT ?_)
    exact q H (.refl H)
  · have hdd : decide (V.int (d : Int) = V.int 0) = false := decide_eq_false (fun z => h0 (by injection z with z; omega))
    refine iteE hdd ?_
    obtain ⟨p, rr, rfl, sp⟩ := fr_head hx
    have tx : TyX K H (.ref p) (.type "tuple") := by
      rcases sp with (z | ⟨o, z⟩) | ⟨o, its, k, e, c, _⟩
      · exact .base (.tup z)
      · exact .fTuple z
      · exact .kTuple e c
    refine ⟨_, rfl, .ref p, .ty "tuple", _, .type "tuple", true, rfl, .ty _, tx, kit_ty (by decide +kernel), _, rfl, iteE rfl ?_⟩
    obtain ⟨d', rfl⟩ : ∃ d', d = d' + 1 := ⟨d - 1, by omega⟩
    cases t with
    | fls =>
      obtain ⟨p', e, sp'⟩ := fr_fls hx
      cases e
      refine ⟨_, rfl, p, _, rfl, .inr sp', rfl, _, rfl, iteE (by decide) ?_⟩
      refine ⟨_, rfl, p, _, rfl, .inr sp', rfl, _, rfl, iteE (by decide) ?_⟩
      refine ⟨_, rfl, (by show 1 ≤ sizeLine; decide), fun u nu => ?_⟩
      have g1 := same_new nu (.tup [.str "false"])
      refine ⟨Fm.fls.dat, Fm.fls.dat, hx.same g1, mk_fls (SqT.of upd_same), by decide +kernel, by decide +kernel, ?_⟩
      rw [eqv_dat, decide_eq_true rfl]
      exact q _ g1
    | atom u =>
      obtain ⟨p', e, sp'⟩ := fr_atom hx
      cases e
      refine ⟨_, rfl, p, _, rfl, .inr sp', rfl, _, rfl, iteE (by show decide (V.int 2 = V.int 3) = false; decide) ?_⟩
      refine ⟨_, rfl, p, _, rfl, .inr sp', rfl, _, rfl, iteU (by show decide (V.int 2 = V.int 2) = true; decide) ?_⟩
      exact ⟨_, rfl, _, rfl, _, h, .atom u, rfl, hx, hs, .inl ⟨u, rfl⟩, q⟩
    | hole u =>
      obtain ⟨p', e, sp'⟩ := fr_hole hx
      cases e
      refine ⟨_, rfl, p, _, rfl, .inr sp', rfl, _, rfl, iteE (by show decide (V.int 2 = V.int 3) = false; decide) ?_⟩
      refine ⟨_, rfl, p, _, rfl, .inr sp', rfl, _, rfl, iteU (by show decide (V.int 2 = V.int 2) = true; decide) ?_⟩
      exact ⟨_, rfl, _, rfl, _, h, .hole u, rfl, hx, hs, .inr ⟨u, rfl⟩, q⟩
    | bin k a b =>
      obtain ⟨p', xa, xb, e, sp', fa, fb⟩ := fr_bin hx
      cases e
      refine ⟨_, rfl, p, _, rfl, .inr sp', rfl, _, rfl, iteU (by show decide (V.int 3 = V.int 3) = true; decide) ?_⟩
      refine ⟨_, rfl, p, _, _, _, rfl, rfl, sp', rfl, aJ, _, rfl, .inr (hJ H), rfl, rfl, _, rfl, iteU (kd_in k) ?_⟩
      refine ⟨_, rfl, 1, rfl, p, _, rfl, sp', (by show ¬ (1 = 0 ∧ _); omega), fun u nu => ?_⟩
      have g1 := same_new nu (.tup (cutV [.str (kd k), xa, xb] (some 1) none))
      have ec : cutV [.str (kd k), xa, xb] (some 1) none = [xa, xb] := rfl
      rw [ec] at g1 ⊢
      refine ⟨u, rfl, ⟨_, SqT.of upd_same⟩, fun D nD => ?_⟩
      have g2 := same_new nD (.lst [])
      have shab := shaped_bin hsh
      refine lc_tup (K := K) (a := u) (xs := [xa, xb]) (fun i H' => Same (upd H u (.tup [xa, xb])) H' ∧ H' D = some (.lst ((([isB d' h a, isB d' h b] : List Bool).take i).map V.bl))) ⟨g2, upd_same⟩ (fun i H' _ pv => SqT.of (pv.1 _ _ upd_same)) ?_ ?_
      · rintro i v H1 hv ⟨s1, hD⟩
        have hvt : ∃ t', Fr K H1 v t' ∧ Sml t' ∧ SeqAt.shaped t'.dat = true ∧ ([isB d' h a, isB d' h b] : List Bool)[i]? = some (isB d' h t') := by
          match i, hv with
          | 0, hv => cases hv; exact ⟨a, fa.same (g1.trans s1), hs.1, shab.1, rfl⟩
          | 1, hv => cases hv; exact ⟨b, fb.same (g1.trans s1), hs.2, shab.2, rfl⟩
          | i + 2, hv => simp at hv
        obtain ⟨t', ft, st, sht, hb⟩ := hvt
        have hi2 : i < 2 := (List.getElem?_eq_some_iff.mp hv).1
        refine ⟨rfl, ?_⟩
        refine ⟨_, rfl, _, rfl, _, _, rfl, rfl, _, rfl, v, d', h, t', ?_, ft, st, by omega, sht, fun H2 s2 => ?_⟩
        · have e : ((d' + 1 : Nat) : Int) - 1 = (d' : Int) := by omega
          show [v, V.int (((d' + 1 : Nat) : Int) - 1), V.bl h] = _
          rw [e]
        · refine ⟨_, s2 _ _ hD, (by rw [List.length_map, List.length_take]; exact small1000 (by omega)), fun c o hc => ?_, ?_⟩
          · rw [upd_ne (ne_of_none hc nD)]
            exact s2 _ _ (s1 _ _ hc)
          · rw [upd_same, List.take_add_one, hb, List.map_append]
            rfl
      · rintro H1 ⟨s1, hD⟩
        refine ⟨D, [isB d' h a, isB d' h b], rfl, SqL.of hD, ?_⟩
        have e : ([isB d' h a, isB d' h b] : List Bool).all id = isB (d' + 1) h (.bin k a b) := by
          show (isB d' h a && (isB d' h b && true)) = (isB d' h a && isB d' h b)
          rw [Bool.and_true]
        rw [e]
        exact q _ (g1.trans s1)
theorem no_built0 (vs : List V) (H : Hp) (Q : VK) (E : XK) : ¬ spBuilt K 0 vs H Q E := by
  rintro ⟨x, d, h, t, _, _, _, h0, _⟩
  omega
theorem built_cal {f : Addr} {fd : FuncData} (D : Df K mg "is_built" s_is_built ["value", "depth", "holes"] f fd) (cL : C8.Cal P w K mg base 3 "is_leaf" (spLeaf K) []) (M : BuiltM K mg) : ∀ n : Nat, C8.Cal P w K mg base (n + 3) "is_built" (spBuilt K n) []
  | 0 => D.cal ⟨fun vs H Q E h => absurd h (no_built0 vs H Q E), fun A outer s H args us vs Q E _ _ _ _ h => absurd h (no_built0 vs H Q E)⟩
  | n + 1 => D.cal (ok_built D.fn cL (built_cal D cL M n) M)
/-! ### is_formula -/
def spFormula (K : PySem.W.Frag) : Sp := fun vs H Q _ => ∃ (x : V) (t : Fm), vs = [x] ∧ Fr K H x t ∧ Sml t ∧ SeqAt.shaped t.dat = true ∧ ∀ H', Same H H' → Q (.bl (isB 10 false t)) H'
theorem scFormula : FnScope ["value"] ["value"] (defScope s_is_formula) := ⟨rfl, rfl, rfl, by decide +kernel, rfl, by decide +kernel, by decide +kernel⟩
theorem ok_formula {f : Addr} {fd : FuncData} (F : Fun K "is_formula" "is_formula" s_is_formula f fd) (cB : C8.Cal P w K mg base 14 "is_built" (spBuilt K 11) []) (mD : ∃ t, mg "FORMULA_DEPTH" = some (.int 10 t)) : FnOk P w K mg base CX0 15 f fd ["value"] (spFormula K) := by
  refine F.ok scFormula (fun vs H Q E h => ?_) (fun cdv A outer s H vs Q E hr h => ?_)
  · obtain ⟨x, t, rfl, _⟩ := h
    rfl
  obtain ⟨x, t, rfl, hx, hs, hsh, q⟩ := h
  obtain ⟨tD, mD⟩ := mD
  refine ⟨_, pss_one (ps_ret (C8.pe_c cB hr (by decide) (by rfl) (pa_cons (pv 0) (pa_cons (pe_glob (v := .int 10) (by rfl) mD ⟨_, rfl⟩) (pa_cons pe_bl pa_nil))))), ?_⟩
  exact ⟨_, rfl, x, 10, false, t, rfl, hx, hs, by decide, hsh, q⟩
end

end Ag

namespace Ag
open PySem PySem.Spec PyProof.Rows L2
section
variable {P : Program} {w : World} {K : PySem.W.Frag} {mg : Str → Option Value} {base : Heap}
/-! ### is_row -/
def spRow (K : PySem.W.Frag) : Sp := fun vs H Q _ => ∃ (x : V) (r : Row), vs = [x] ∧ RowAt K H x r ∧ Rok r ∧ ∀ H', Same H H' → Q (.bl (isRw r)) H'
theorem scRow : FnScope ["value"] ["value"] (defScope s_is_row) := ⟨rfl, rfl, rfl, by decide +kernel, rfl, by decide +kernel, by decide +kernel⟩
theorem ok_row {f : Addr} {fd : FuncData} (F : Fun K "is_row" "is_row" s_is_row f fd) (cN : C8.Cal P w K mg base 2 "is_name" (spName K) []) (cF : C8.Cal P w K mg base 15 "is_formula" (spFormula K) []) (mI : mg "isinstance" = none) (mT : mg "tuple" = none) (mL : mg "len" = none) : FnOk P w K mg base CX0 16 f fd ["value"] (spRow K) := by
  refine F.ok scRow (fun vs H Q E h => ?_) (fun cdv A outer s H vs Q E hr h => ?_)
  · obtain ⟨x, r, rfl, _⟩ := h
    rfl
  obtain ⟨x, r, rfl, hx, ok, q⟩ := h
  refine ⟨_, pss_cons (ps_if (PW.pt (pw_or (pt_not (pt_val (pe_callB call_isi (by rfl) mI (by decide +kernel) (pa_cons (pv 0) (pa_cons (pe_bltn (v := .ty "tuple") (u := .type "tuple") (by rfl) mT (by decide +kernel) rfl) pa_nil))))) (pw_or1 (pt_cmpR op_ne (pe_callB call_len_seq (by rfl) mL boot_len (pa_cons (pv 0) pa_nil)) pe_int (nomark _))))) (pss_one (ps_ret pe_bl)) pss_nil)
    (pss_one (ps_ret (pe_and (C8.pe_c cN hr (by decide) (by rfl) (pa_cons (pe_ix ix_tup (pv 0) pe_int (fun _ _ => rfl)) pa_nil)) (pe_one (C8.pe_c cF hr (by decide) (by rfl) (pa_cons (pe_ix ix_tup (pv 0) pe_int (fun _ _ => rfl)) pa_nil)))))), ?_⟩
  obtain ⟨p, y, rfl, sp, fy⟩ := row_at hx
  have tx : TyX K H (.ref p) (.type "tuple") := dp_tyx hx
  refine ⟨_, rfl, .ref p, .ty "tuple", _, .type "tuple", true, rfl, .ty _, tx, kit_ty (by decide +kernel), _, rfl, iteE rfl ?_⟩
  refine ⟨_, rfl, p, _, rfl, .inr sp, rfl, _, rfl, iteE (by show (!decide (V.int 2 = V.int 2)) = false; decide) ?_⟩
  refine ⟨_, rfl, p, _, _, _, rfl, rfl, sp, rfl, _, _, rfl, name_is ok.len, fun H1 s1 => ?_⟩
  refine ⟨_, rfl, ?_⟩
  unfold isRw at q
  cases e : isNm r.1 with
  | false =>
    rw [e] at q
    exact q H1 s1
  | true =>
    rw [e] at q
    exact ⟨_, rfl, p, _, _, _, rfl, rfl, sameT s1 sp, rfl, _, _, rfl, fy.same s1, ok.sml, ok.shp, fun H2 s2 => q H2 (s1.trans s2)⟩
end

end Ag

namespace Ag
open PySem PySem.Spec PyProof.Rows L2
section
variable {P : Program} {w : World} {K : PySem.W.Frag} {mg : Str → Option Value} {base : Heap} {CK CC fK fC : Addr} {mc : Value}
/-! ### KnownRows(..) -/
def spKn (K : PySem.W.Frag) (CK : Addr) : Sp := fun vs H Q _ => ∃ (x p dx : Addr) (ys : List V), vs = [.ref x, .ref p] ∧ H x = some (.ins CK dx []) ∧ RowsIn K H p ys ∧
  ∀ (a : Addr) (H' : Hp), HeldAt CK H' x a → SqT K H' a ys → Kp x H H' → Q .non H'
theorem scKn : FnScope ["self", "rows"] ["self", "rows"] (defScope s_KnownRows_init) := ⟨rfl, rfl, rfl, by decide +kernel, rfl, by decide +kernel, by decide +kernel⟩
theorem ok_kn {f : Addr} {fd : FuncData} (F : Fun K "__init__" "KnownRows.__init__" s_KnownRows_init f fd) (M : CtxM K mg CK CC fK fC mc) : FnOk P w K mg base CX0 1 f fd ["self", "rows"] (spKn K CK) := by
  refine F.ok scKn (fun vs H Q E h => ?_) (fun cdv A outer s H vs Q E hr h => ?_)
  · obtain ⟨x, p, dx, ys, rfl, _⟩ := h
    rfl
  obtain ⟨x, p, dx, ys, rfl, hx, hp, q⟩ := h
  refine ⟨_, pss_one (ps_fld (pv 0) (pe_callTy call_tuple_of (by rfl) M.tuple boot_tuple (pa_cons (pv 1) pa_nil)) rfl), ?_⟩
  refine ⟨_, rfl, p, ys, rfl, ?_⟩
  rcases hp with hp | hp
  · refine .inl ⟨hp, fun a na => ?_⟩
    have nax : a ≠ x := (ne_of_none hx na).symm
    refine ⟨_, rfl, x, CK, dx, [], rfl, (by rw [upd_ne nax.symm]; exact hx), M.cK, M.nK, (by show 0 < 1000; decide), ?_⟩
    refine q a _ ⟨dx, upd_same⟩ (SqT.of (by rw [upd_ne nax, upd_same])) fun c o hc hn => ?_
    rw [upd_ne hn, upd_ne (ne_of_none hc na)]
    exact hc
  · refine .inr ⟨hp, ?_⟩
    refine ⟨_, rfl, x, CK, dx, [], rfl, hx, M.cK, M.nK, (by show 0 < 1000; decide), ?_⟩
    have k : Kp x H (upd H x (.ins CK dx (putF "held" (.ref p) []))) := kp_upd
    exact q p _ ⟨dx, upd_same⟩ (insT hx k hp) k
/-! ### tested_rows -/
def spTested (K : PySem.W.Frag) (CK : Addr) : Sp := fun vs H Q _ => ∃ (p : Addr) (ys : List V) (rs : List Row), vs = [.ref p] ∧ RowsIn K H p ys ∧ RowsAt K H ys rs ∧ (∀ r ∈ rs, Rok r ∧ isRw r = true) ∧
  ∀ (x a : Addr) (H' : Hp), HeldAt CK H' x a → SqT K H' a ys → Same H H' → Q (.ref x) H'
theorem scTested : FnScope ["rows", "at", "row"] ["rows"] (defScope s_tested_rows) := ⟨rfl, rfl, rfl, by decide +kernel, rfl, by decide +kernel, by decide +kernel⟩
theorem ok_tested {f : Addr} {fd fdK : FuncData} (F : Fun K "tested_rows" "tested_rows" s_tested_rows f fd) (cR : C8.Cal P w K mg base 16 "is_row" (spRow K) []) (GK : FnOk P w K mg base CX0 1 fK fdK ["self", "rows"] (spKn K CK)) (bK : Binds K fdK ["self", "rows"] []) (M : CtxM K mg CK CC fK fC mc) : FnOk P w K mg base CX0 17 f fd ["rows"] (spTested K CK) := by
  refine F.ok scTested (fun vs H Q E h => ?_) (fun cdv A outer s H vs Q E hr h => ?_)
  · obtain ⟨p, ys, rs, rfl, _⟩ := h
    rfl
  obtain ⟨p, ys, rs, rfl, hp, hy, hok, q⟩ := h
  have nd := scTested.nd
  refine ⟨_, pss_cons (ps_for PassesOwn.never rfl (pi_enumA (by rfl) M.enum (pa_cons (pv 0) pa_nil)) (pg_tup rfl (pgs_cons (pg_name (i := 1) nd rfl (.inl rfl)) (pgs_cons (pg_name (i := 2) nd rfl (.inl rfl)) pgs_nil)))
      (pss_one (ps_if (pt_not (pt_val (C8.pe_c cR hr (by decide) (by rfl) (pa_cons (pv 2) pa_nil)))) (pss_one ps_never) pss_nil)))
    (pss_one (ps_ret (pe_make M.kK GK (hr.mono (by decide)) (by rfl) M.gK bK .nil pass0 (pa_cons (pv 0) pa_nil)))), ?_⟩
  have turn : ∀ (i : Nat) (v : V) (H' : Hp), ys[i]? = some v → Same H H' → ∃ r, RowAt K H' v r ∧ Rok r ∧ isRw r = true := fun i v H' hi s1 => by
    obtain ⟨r, hr1, hr2⟩ := rows_at hy hi
    obtain ⟨o1, o2⟩ := hok r (List.mem_of_getElem? hr1)
    exact ⟨r, hr2.same s1, o1, o2⟩
  have fin : ∀ H1 : Hp, Same H H1 → ∀ x dx, H1 x = none → H1 dx = none → dx ≠ x → spKn K CK [.ref x, .ref p] (upd (upd H1 dx (.own x)) x (.ins CK dx [])) (fun v H2 => v = .non ∧ Q (.ref x) H2) E := fun H1 s1 x dx n1 n2 n3 => by
    have s2 : Same H1 (upd (upd H1 dx (.own x)) x (.ins CK dx [])) := fun b o e => by
      rw [upd_ne (ne_of_none e n1), upd_ne (ne_of_none e n2)]
      exact e
    refine ⟨x, p, dx, ys, rfl, upd_same, hp.same (s1.trans s2), fun a H2 h1 h2 k => ⟨rfl, q x a H2 h1 h2 fun c o e => ?_⟩⟩
    exact k c o ((s1.trans s2) c o e) (ne_of_none (s1 c o e) n1)
  rcases hp with hp | hp
  · refine ⟨_, rfl, p, ys, rfl, .inl ⟨hp, for_it walk_enum (fun i σ H' => ∃ v1 v2, σ = [some (.ref p), v1, v2] ∧ Same H H') ⟨none, none, rfl, .refl H⟩ (fun i σ H' _ ⟨_, _, _, s1⟩ => s1.seq hp) ?_ ?_⟩⟩
    · rintro i y σ H1 H2 hi ⟨v1, v2, rfl, s1⟩ ⟨T, a, x, rfl, nT, rfl, ea, ex⟩
      cases ea
      have s2 := s1.trans (same_new nT (.tup [.int i, x]))
      obtain ⟨r, h1, h2, h3⟩ := turn i x _ ex s2
      refine ⟨T, _, rfl, SqT.of upd_same, rfl, _, _, rfl, _, _, rfl, rfl, ?_⟩
      refine ⟨_, rfl, x, r, rfl, h1, h2, fun H3 s3 => ?_⟩
      rw [h3]
      exact ⟨_, rfl, iteE rfl ⟨_, _, rfl, s2.trans s3⟩⟩
    · rintro σ H1 ⟨v1, v2, rfl, s1⟩
      exact ⟨_, rfl, fin H1 s1⟩
  · refine ⟨_, rfl, p, ys, rfl, .inr ⟨hp, for_it walk_enumT (fun i σ H' => ∃ v1 v2, σ = [some (.ref p), v1, v2] ∧ Same H H') ⟨none, none, rfl, .refl H⟩ (fun i σ H' _ ⟨_, _, _, s1⟩ => sameT s1 hp) ?_ ?_⟩⟩
    · rintro i y σ H1 H2 hi ⟨v1, v2, rfl, s1⟩ ⟨T, a, x, rfl, nT, rfl, ea, ex⟩
      cases ea
      have s2 := s1.trans (same_new nT (.tup [.int i, x]))
      obtain ⟨r, h1, h2, h3⟩ := turn i x _ ex s2
      refine ⟨T, _, rfl, SqT.of upd_same, rfl, _, _, rfl, _, _, rfl, rfl, ?_⟩
      refine ⟨_, rfl, x, r, rfl, h1, h2, fun H3 s3 => ?_⟩
      rw [h3]
      exact ⟨_, rfl, iteE rfl ⟨_, _, rfl, s2.trans s3⟩⟩
    · rintro σ H1 ⟨v1, v2, rfl, s1⟩
      exact ⟨_, rfl, fin H1 s1⟩
/-! ### Context(..) -/
def spCtx (K : PySem.W.Frag) (CC : Addr) : Sp := fun vs H Q _ => ∃ (x p dx : Addr) (ys : List V) (rs : List Row), vs = [.ref x, .ref p] ∧ H x = some (.ins CC dx []) ∧ RowsIn K H p ys ∧ RowsAt K H ys rs ∧ (∀ r ∈ rs, Rok r ∧ isRw r = true) ∧ rs.length ≤ 40 ∧
  (∃ t, TyX K H (.ref p) (.type t) ∧ (t = "list" ∨ t = "tuple")) ∧ ∀ (H' : Hp), CtxAt K CC H' x rs → Kp x H H' → Q .non H'
abbrev nCtx : List Str := ["self", "rows", "known"]
theorem scCtx : FnScope nCtx ["self", "rows"] (defScope s_Context_init) := ⟨rfl, rfl, rfl, by decide +kernel, rfl, by decide +kernel, by decide +kernel⟩
theorem ok_ctx {f : Addr} {fd : FuncData} {dv : List V} (F : FunD K "__init__" "Context.__init__" (defArgs s_Context_init) (defBody s_Context_init) (defScope s_Context_init) dv [] f fd) (cT : C8.Cal P w K mg base 17 "tested_rows" (spTested K CK) []) (M : CtxM K mg CK CC fK fC mc) : FnOk P w K mg base CX0 18 f fd ["self", "rows"] (spCtx K CC) := by
  refine F.ok scCtx (fun vs H Q E h => ?_) (fun cdv A outer s H vs Q E hr h => ?_)
  · obtain ⟨x, p, dx, ys, rs, rfl, _⟩ := h
    rfl
  obtain ⟨x, p, dx, ys, rs, rfl, hx, hp, hy, hok, h40, ⟨t, tx, ht⟩, q⟩ := h
  have nd := scCtx.nd
  obtain ⟨uM, mM⟩ := M.mo
  refine ⟨_, pss_cons (ps_set (i := 2) nd rfl (.inl rfl) (pe_ifExp (pt_val (pe_callB call_isi (by rfl) M.isi (by decide +kernel) (pa_cons (pv 1) (pa_cons (pe_glob (v := .ref CK) (by rfl) M.gK rfl) pa_nil)))) (pv 1) (C8.pe_c cT hr (by decide) (by rfl) (pa_cons (pv 1) pa_nil))))
    (pss_cons (ps_if (pt_cmpR op_gt (pe_callB call_len_seq (by rfl) M.len boot_len (pa_cons (pe_fld (pv 2) rfl) pa_nil)) (ClX.pe_cval (pe_glob (v := .ref CC) (by rfl) M.gC rfl)) (nomark _)) (pss_one ps_never) pss_nil)
    (pss_one (ps_fld (pv 0) (pe_fld (pv 2) rfl) rfl))), ?_⟩
  have kt : PySem.W.kitOne K (.type t) (.ref CK) = some false := by
    rcases ht with rfl | rfl
    · exact M.il
    · exact M.it
  refine ⟨_, rfl, .ref p, .ref CK, _, .ref CK, false, rfl, .own _, tx, kt, _, rfl, iteE rfl ?_⟩
  refine ⟨_, rfl, p, ys, rs, rfl, hp, hy, hok, fun k a H1 hk ha s1 => ?_⟩
  obtain ⟨dk, ek⟩ := hk
  refine ⟨_, rfl, k, CK, dk, _, _, rfl, ek, M.cK, M.nK, lk1, ?_⟩
  refine ⟨a, ys, rfl, .inr ha, CC, mc, .int 40, uM, rfl, M.rd, mM, _, _, rfl, rfl, _, rfl, iteE ?_ ?_⟩
  · have e : ys.length = rs.length := Paired.length hy
    show decide ((40 : Int) < (ys.length : Int)) = false
    exact decide_eq_false (by omega)
  · refine ⟨_, rfl, k, CK, dk, _, _, rfl, ek, M.cK, M.nK, lk1, ?_⟩
    have ex := s1 _ _ hx
    refine ⟨_, rfl, x, CC, dx, [], rfl, ex, M.cC, M.nC, (by show 0 < 1000; decide), ?_⟩
    have kk : Kp x H1 (upd H1 x (.ins CC dx (putF "held" (.ref a) []))) := kp_upd
    exact q _ ⟨a, ys, ⟨dx, upd_same⟩, insT ex kk ha, (hy.same s1).tp (insTp ex kk)⟩ fun c o e hn => kk c o (s1 c o e) hn
end

end Ag

namespace Ag
open PySem PySem.Spec PyProof.Rows L2
section
variable {P : Program} {w : World} {K : PySem.W.Frag} {mg : Str → Option Value} {base : Heap} {CK CC fK fC : Addr} {mc : Value}
/-! ### Context(KnownRows(..)) -/
def spCtxK (K : PySem.W.Frag) (CK CC : Addr) : Sp := fun vs H Q _ => ∃ (x k a dx : Addr) (ys : List V), vs = [.ref x, .ref k] ∧ H x = some (.ins CC dx []) ∧ HeldAt CK H k a ∧ SqT K H a ys ∧ ys.length ≤ 40 ∧
  ∀ (H' : Hp), HeldAt CC H' x a → SqT K H' a ys → Kp x H H' → Q .non H'
theorem ok_ctxK {f : Addr} {fd : FuncData} {dv : List V} (F : FunD K "__init__" "Context.__init__" (defArgs s_Context_init) (defBody s_Context_init) (defScope s_Context_init) dv [] f fd) (cT : C8.Cal P w K mg base 17 "tested_rows" (spTested K CK) []) (M : CtxM K mg CK CC fK fC mc) : FnOk P w K mg base CX0 18 f fd ["self", "rows"] (spCtxK K CK CC) := by
  refine F.ok scCtx (fun vs H Q E h => ?_) (fun cdv A outer s H vs Q E hr h => ?_)
  · obtain ⟨x, k, a, dx, ys, rfl, _⟩ := h
    rfl
  obtain ⟨x, k, a, dx, ys, rfl, hx, hk, ha, h40, q⟩ := h
  have nd := scCtx.nd
  obtain ⟨uM, mM⟩ := M.mo
  refine ⟨_, pss_cons (ps_set (i := 2) nd rfl (.inl rfl) (pe_ifExp (pt_val (pe_callB call_isi (by rfl) M.isi (by decide +kernel) (pa_cons (pv 1) (pa_cons (pe_glob (v := .ref CK) (by rfl) M.gK rfl) pa_nil)))) (pv 1) (C8.pe_c cT hr (by decide) (by rfl) (pa_cons (pv 1) pa_nil))))
    (pss_cons (ps_if (pt_cmpR op_gt (pe_callB call_len_seq (by rfl) M.len boot_len (pa_cons (pe_fld (pv 2) rfl) pa_nil)) (ClX.pe_cval (pe_glob (v := .ref CC) (by rfl) M.gC rfl)) (nomark _)) (pss_one ps_never) pss_nil)
    (pss_one (ps_fld (pv 0) (pe_fld (pv 2) rfl) rfl))), ?_⟩
  obtain ⟨dk, ek⟩ := hk
  refine ⟨_, rfl, .ref k, .ref CK, _, .ref CK, true, rfl, .own _, .base (TyOf.ins ek M.cK M.ha M.hn M.tk M.mr), M.ik, _, rfl, iteU rfl ?_⟩
  refine ⟨_, rfl, ?_⟩
  refine ⟨_, rfl, k, CK, dk, _, _, rfl, ek, M.cK, M.nK, lk1, ?_⟩
  refine ⟨a, ys, rfl, .inr ha, CC, mc, .int 40, uM, rfl, M.rd, mM, _, _, rfl, rfl, _, rfl, iteE (decide_eq_false (by omega)) ?_⟩
  refine ⟨_, rfl, k, CK, dk, _, _, rfl, ek, M.cK, M.nK, lk1, ?_⟩
  refine ⟨_, rfl, x, CC, dx, [], rfl, hx, M.cC, M.nC, (by show 0 < 1000; decide), ?_⟩
  have kk : Kp x H (upd H x (.ins CC dx (putF "held" (.ref a) []))) := kp_upd
  exact q _ ⟨dx, upd_same⟩ (insT hx kk ha) kk
/-! ### rows -/
def spRws (K : PySem.W.Frag) (CC : Addr) : Sp := fun vs H Q _ => ∃ (x a : Addr) (ys : List V), vs = [.ref x] ∧ HeldAt CC H x a ∧ SqT K H a ys ∧ ∀ p, H p = none → Q (.ref p) (upd H p (.lst ys))
theorem scRws : FnScope ["self"] ["self"] (defScope s_Context_rows) := ⟨rfl, rfl, rfl, by decide +kernel, rfl, by decide +kernel, by decide +kernel⟩
theorem ok_rws {f : Addr} {fd : FuncData} (F : Fun K "rows" "Context.rows" s_Context_rows f fd) (M : CtxM K mg CK CC fK fC mc) (ml : mg "list" = none) : FnOk P w K mg base CX0 1 f fd ["self"] (spRws K CC) := by
  refine F.ok scRws (fun vs H Q E h => ?_) (fun cdv A outer s H vs Q E hr h => ?_)
  · obtain ⟨x, a, ys, rfl, _⟩ := h
    rfl
  obtain ⟨x, a, ys, rfl, ⟨dx, ex⟩, ha, q⟩ := h
  refine ⟨_, pss_one (ps_ret (pe_callTy call_list_of (by rfl) ml (by decide +kernel) (pa_cons (pe_fld (pv 0) rfl) pa_nil))), ?_⟩
  exact ⟨_, rfl, x, CC, dx, _, _, rfl, ex, M.cC, M.nC, lk1, a, ys, rfl, .inr ha, q⟩
/-! ### + -/
def spAdd (K : PySem.W.Frag) (CC : Addr) : Sp := fun vs H Q _ => ∃ (x y a b : Addr) (xs ys : List V), vs = [.ref x, .ref y] ∧ HeldAt CC H x a ∧ SqT K H a xs ∧ HeldAt CC H y b ∧ SqT K H b ys ∧ xs.length + ys.length ≤ 40 ∧
  ∀ (z p : Addr) (H' : Hp), HeldAt CC H' z p → SqT K H' p (xs ++ ys) → Same H H' → Q (.ref z) H'
theorem scAdd : FnScope ["self", "other"] ["self", "other"] (defScope s_Context_add) := ⟨rfl, rfl, rfl, by decide +kernel, rfl, by decide +kernel, by decide +kernel⟩
/-- what isinstance asks of Context -/
structure CtxI (K : PySem.W.Frag) (CC : Addr) : Prop where
  ha : PySem.W.findIn K (.ref CC) "__class__" = some (some (.builtin "object.__class__"))
  mr : PySem.W.mroIn K CC (.type "object") = some true
theorem ok_add {f : Addr} {fd fdC fdK : FuncData} (F : Fun K "__add__" "Context.__add__" s_Context_add f fd) (GC : FnOk P w K mg base CX0 18 fC fdC ["self", "rows"] (spCtxK K CK CC)) (bC : Binds K fdC ["self", "rows"] [])
    (GK : FnOk P w K mg base CX0 1 fK fdK ["self", "rows"] (spKn K CK)) (bK : Binds K fdK ["self", "rows"] []) (M : CtxM K mg CK CC fK fC mc) (I : CtxI K CC) : FnOk P w K mg base CX0 20 f fd ["self", "other"] (spAdd K CC) := by
  refine F.ok scAdd (fun vs H Q E h => ?_) (fun cdv A outer s H vs Q E hr h => ?_)
  · obtain ⟨x, y, a, b, xs, ys, rfl, _⟩ := h
    rfl
  obtain ⟨x, y, a, b, xs, ys, rfl, ⟨dx, ex⟩, ha, ⟨dy, ey⟩, hb, h40, q⟩ := h
  refine ⟨_, pss_cons (ps_if (pt_not (pt_val (pe_callB call_isi (by rfl) M.isi (by decide +kernel) (pa_cons (pv 1) (pa_cons (pe_glob (v := .ref CC) (by rfl) M.gC rfl) pa_nil))))) (pss_one ps_never) pss_nil)
    (pss_one (ps_ret (pe_make M.kC GC (hr.mono (by decide)) (by rfl) M.gC bC .nil pass0 (pa_cons (pe_make M.kK GK (hr.mono (by decide)) (by rfl) M.gK bK .nil pass0 (pa_cons (pe_op op_catA (pe_fld (pv 0) rfl) (pe_fld (pv 1) rfl)) pa_nil)) pa_nil)))), ?_⟩
  refine ⟨_, rfl, .ref y, .ref CC, _, .ref CC, true, rfl, .own _, .base (TyOf.ins ey M.cC I.ha M.hn M.tk I.mr), (if_pos (beq_self_eq_true _)), _, rfl, iteE rfl ?_⟩
  refine ⟨_, rfl, x, CC, dx, _, _, rfl, ex, M.cC, M.nC, lk1, _, rfl, y, CC, dy, _, _, rfl, ey, M.cC, M.nC, lk1, ?_⟩
  refine catA_of ha hb (small (by omega)) fun p H1 s1 hp => ?_
  intro k dk nk ndk nek
  have t1 := made0 (C := CK) nk ndk
  refine ⟨k, p, dk, xs ++ ys, rfl, upd_same, .inr (sameT t1 hp), fun a2 H2 hk ha2 kk => ⟨rfl, ?_⟩⟩
  have s2 := made1 nk ndk kk
  intro z dz nz ndz nez
  have t3 := made0 (C := CC) nz ndz
  refine ⟨z, k, a2, dz, xs ++ ys, rfl, upd_same, hk.same t3, sameT t3 ha2, by rw [List.length_append]; exact h40, fun H3 hz ha3 k3 => ⟨rfl, ?_⟩⟩
  exact q z a2 H3 hz ha3 (s1.trans (s2.trans (made1 nz ndz k3)))
/-! ### is_number, is_place -/
def spNumber : Sp := fun vs H Q _ => ∃ n : Int, vs = [.int n] ∧ Q (.bl true) H
theorem scNumber : FnScope ["value"] ["value"] (defScope s_is_number) := ⟨rfl, rfl, rfl, by decide +kernel, rfl, by decide +kernel, by decide +kernel⟩
theorem ok_number {f : Addr} {fd : FuncData} (F : Fun K "is_number" "is_number" s_is_number f fd) (mI : mg "isinstance" = none) (mi : mg "int" = none) (mb : mg "bool" = none) : FnOk P w K mg base CX0 1 f fd ["value"] spNumber := by
  refine F.ok scNumber (fun vs H Q E h => ?_) (fun cdv A outer s H vs Q E hr h => ?_)
  · obtain ⟨n, rfl, _⟩ := h
    rfl
  obtain ⟨n, rfl, q⟩ := h
  refine ⟨_, pss_one (ps_ret (pe_and (pe_callB call_isi (by rfl) mI (by decide +kernel) (pa_cons (pv 0) (pa_cons (pe_bltn (v := .ty "int") (u := .type "int") (by rfl) mi (by decide +kernel) rfl) pa_nil))) (pe_one (pe_not (pe_callB call_isi (by rfl) mI (by decide +kernel) (pa_cons (pv 0) (pa_cons (pe_bltn (v := .ty "bool") (u := .type "bool") (by rfl) mb (by decide +kernel) rfl) pa_nil))))))), ?_⟩
  refine ⟨_, rfl, .int n, .ty "int", _, .type "int", true, rfl, .ty _, .base (.int n), kit_ty (by decide +kernel), _, rfl, ?_⟩
  exact ⟨_, rfl, .int n, .ty "bool", _, .type "bool", false, rfl, .ty _, .base (.int n), kit_ty (by decide +kernel), _, rfl, q⟩
def spPlace : Sp := fun vs H Q _ => ∃ n m : Int, vs = [.int n, .int m] ∧ 0 ≤ n ∧ n < m ∧ Q (.bl true) H
theorem scPlace : FnScope ["value", "many"] ["value", "many"] (defScope s_is_place) := ⟨rfl, rfl, rfl, by decide +kernel, rfl, by decide +kernel, by decide +kernel⟩
theorem ok_place {f : Addr} {fd : FuncData} (F : Fun K "is_place" "is_place" s_is_place f fd) (cN : C8.Cal P w K mg base 1 "is_number" spNumber []) : FnOk P w K mg base CX0 2 f fd ["value", "many"] spPlace := by
  refine F.ok scPlace (fun vs H Q E h => ?_) (fun cdv A outer s H vs Q E hr h => ?_)
  · obtain ⟨n, m, rfl, _⟩ := h
    rfl
  obtain ⟨n, m, rfl, h0, hm, q⟩ := h
  refine ⟨_, pss_one (ps_ret (pe_and (C8.pe_c cN hr (by decide) (by rfl) (pa_cons (pv 0) pa_nil)) (pe_one (pe_chain op_le op_lt pe_int (pv 0) (pv 1))))), ?_⟩
  refine ⟨_, rfl, n, rfl, _, rfl, ?_⟩
  refine ⟨_, rfl, _, _, rfl, rfl, _, rfl, iteU (decide_eq_true h0) ?_⟩
  refine ⟨_, rfl, _, _, rfl, rfl, ?_⟩
  show Q (V.bl (decide (n < m))) H
  rw [decide_eq_true hm]
  exact q
/-! ### with_row -/
def spWith (K : PySem.W.Frag) (CC : Addr) : Sp := fun vs H Q _ => ∃ (x a : Addr) (at' : Nat) (ys : List V) (r : Row) (fv : V), vs = [.ref x, .int (at' : Int), .str (SX.S r.1), fv] ∧ HeldAt CC H x a ∧ SqT K H a ys ∧ at' ≤ ys.length ∧ ys.length + 1 ≤ 40 ∧ Fr K H fv r.2 ∧ Rok r ∧ isRw r = true ∧
  ∀ (z p : Addr) (rv : V) (H' : Hp), HeldAt CC H' z p → SqT K H' p (ys.take at' ++ [rv] ++ ys.drop at') → RowAt K H' rv r → Same H H' → Q (.ref z) H'
abbrev nWith : List Str := ["self", "at", "name", "formula", "row"]
theorem scWith : FnScope nWith ["self", "at", "name", "formula"] (defScope s_Context_with_row) := ⟨rfl, rfl, rfl, by decide +kernel, rfl, by decide +kernel, by decide +kernel⟩
theorem ok_with {f : Addr} {fd fdC fdK : FuncData} (F : Fun K "with_row" "Context.with_row" s_Context_with_row f fd) (cP : C8.Cal P w K mg base 2 "is_place" spPlace []) (cR : C8.Cal P w K mg base 16 "is_row" (spRow K) []) (GC : FnOk P w K mg base CX0 18 fC fdC ["self", "rows"] (spCtxK K CK CC)) (bC : Binds K fdC ["self", "rows"] [])
    (GK : FnOk P w K mg base CX0 1 fK fdK ["self", "rows"] (spKn K CK)) (bK : Binds K fdK ["self", "rows"] []) (M : CtxM K mg CK CC fK fC mc) : FnOk P w K mg base CX0 20 f fd ["self", "at", "name", "formula"] (spWith K CC) := by
  refine F.ok scWith (fun vs H Q E h => ?_) (fun cdv A outer s H vs Q E hr h => ?_)
  · obtain ⟨x, a, at', ys, r, fv, rfl, _⟩ := h
    rfl
  obtain ⟨x, a, at', ys, r, fv, rfl, ⟨dx, ex⟩, ha, hat, h40, fr, ok, rw1, q⟩ := h
  have nd := scWith.nd
  refine ⟨_, pss_cons (ps_if (pt_not (pt_val (C8.pe_c cP hr (by decide) (by rfl) (pa_cons (pv 1) (pa_cons (pe_op op_add (pe_callB call_len_seq (by rfl) M.len boot_len (pa_cons (pe_fld (pv 0) rfl) pa_nil)) pe_int) pa_nil))))) (pss_one ps_never) pss_nil)
    (pss_cons (ps_set (i := 4) nd rfl (.inl rfl) (pe_tup (pa_cons (pv 2) (pa_cons (pv 3) pa_nil))))
    (pss_cons (ps_if (pt_not (pt_val (C8.pe_c cR hr (by decide) (by rfl) (pa_cons (pv 4) pa_nil)))) (pss_one ps_never) pss_nil)
    (pss_one (ps_ret (pe_make M.kC GC (hr.mono (by decide)) (by rfl) M.gC bC .nil pass0 (pa_cons (pe_make M.kK GK (hr.mono (by decide)) (by rfl) M.gK bK .nil pass0 (pa_cons
      (pe_op op_catA (pe_op op_catA (pe_slice sl_tupA (pe_fld (pv 0) rfl) po_none (po_some (pv 1))) (pe_tup (pa_cons (pv 4) pa_nil))) (pe_slice sl_tupA (pe_fld (pv 0) rfl) (po_some (pv 1)) po_none)) pa_nil)) pa_nil)))))), ?_⟩
  refine ⟨_, rfl, _, rfl, x, CC, dx, _, _, rfl, ex, M.cC, M.nC, lk1, a, ys, rfl, .inr ha, _, _, rfl, rfl, _, _, rfl, by omega, by omega, _, rfl, iteE rfl ?_⟩
  refine ⟨_, rfl, _, rfl, (by show 2 ≤ sizeLine; decide), fun t nt => ?_⟩
  have g1 := same_new nt (.tup [.str (SX.S r.1), fv])
  have hrow : RowAt K _ (.ref t) r := mk_row (SqT.of upd_same) (fr.same g1)
  refine ⟨_, rfl, _, r, rfl, hrow, ok, fun H2 s2 => ?_⟩
  rw [rw1]
  refine ⟨_, rfl, iteE rfl ?_⟩
  have s02 := g1.trans s2
  have ex2 := s02 _ _ ex
  have ha2 := sameT s02 ha
  refine ⟨_, rfl, x, CC, dx, _, _, rfl, ex2, M.cC, M.nC, lk1, ?_⟩
  refine ⟨_, rfl, (at' : Int), rfl, slA_of ha2 (cut_to hat) fun p3 H3 s3 hp3 => ?_⟩
  refine ⟨_, rfl, (by show 1 ≤ sizeLine; decide), fun t4 nt4 => ?_⟩
  have g4 := same_new nt4 (.tup [.ref t])
  refine catA_of (sameT g4 hp3) (SqT.of upd_same) (by rw [List.length_take]; show min at' ys.length + 1 ≤ sizeLine; exact small (by omega)) fun p5 H5 s5 hp5 => ?_
  have s25 := s3.trans (g4.trans s5)
  refine ⟨_, rfl, x, CC, dx, _, _, rfl, s25 _ _ ex2, M.cC, M.nC, lk1, ?_⟩
  refine ⟨_, rfl, (at' : Int), rfl, ?_⟩
  unfold tNoPart
  refine slA_of (sameT s25 ha2) (cut_from hat) fun p6 H6 s6 hp6 => ?_
  refine catA_of (sameT s6 hp5) hp6 (by rw [List.length_append, List.length_take, List.length_drop]; show min at' ys.length + 1 + (ys.length - at') ≤ sizeLine; exact small (by omega)) fun p H7 s7 hp => ?_
  intro k dk nk ndk nek
  have t1 := made0 (C := CK) nk ndk
  refine ⟨k, p, dk, _, rfl, upd_same, .inr (sameT t1 hp), fun a2 H8 hk ha8 kk => ⟨rfl, ?_⟩⟩
  have s8 := made1 nk ndk kk
  intro z dz nz ndz nez
  have t3 := made0 (C := CC) nz ndz
  refine ⟨z, k, a2, dz, _, rfl, upd_same, hk.same t3, sameT t3 ha8, ?_, fun H9 hz ha9 k9 => ⟨rfl, ?_⟩⟩
  · rw [List.length_append, List.length_append, List.length_take, List.length_drop]
    show min at' ys.length + 1 + (ys.length - at') ≤ 40
    omega
  · have sE := (s25.trans (s6.trans s7)).trans (s8.trans (made1 nz ndz k9))
    exact q z a2 (.ref t) H9 hz ha9 (hrow.same (s2.trans sE)) (s02.trans sE)
/-! ### without -/
def spWo (K : PySem.W.Frag) (CC : Addr) : Sp := fun vs H Q _ => ∃ (x tp a : Addr) (ys : List V) (ps : List Nat), vs = [.ref x, .ref tp] ∧ HeldAt CC H x a ∧ SqT K H a ys ∧ SqT K H tp (ps.map fun n : Nat => V.int (n : Int)) ∧ (∀ k ∈ ps, k < ys.length) ∧ ys.length ≤ 40 ∧
  ∀ (z p : Addr) (H' : Hp), HeldAt CC H' z p → SqT K H' p (keepV ys ps ys.length) → Same H H' → Q (.ref z) H'
abbrev nWo : List Str := ["self", "places", "place", "rows", "at", "row"]
theorem scWo : FnScope nWo ((["self"] : List Str) ++ (["places"] : List Str)) (defScope s_Context_without) := ⟨rfl, rfl, rfl, by decide +kernel, rfl, by decide +kernel, by decide +kernel⟩
def spWithout (K : PySem.W.Frag) (CC : Addr) : Sp := fun vs H Q E => ∃ ws rest, vs = ws ++ rest ∧ ws.length = 1 ∧ rest.length ≤ sizeLine ∧ ∀ p, H p = Option.none → spWo K CC (ws ++ [V.ref p]) (upd H p (.tup rest)) Q E
theorem ok_without {f : Addr} {fd fdC fdK : FuncData} (F : Fun K "without" "Context.without" s_Context_without f fd) (cP : C8.Cal P w K mg base 2 "is_place" spPlace []) (GC : FnOk P w K mg base CX0 18 fC fdC ["self", "rows"] (spCtxK K CK CC)) (bC : Binds K fdC ["self", "rows"] [])
    (GK : FnOk P w K mg base CX0 1 fK fdK ["self", "rows"] (spKn K CK)) (bK : Binds K fdK ["self", "rows"] []) (M : CtxM K mg CK CC fK fC mc) : FnR P w K mg base CX0 20 f (spWithout K CC) := by
  refine fun_star F scWo (pv := "places") (fun kV doc pm an cdv ct us rest hl => match us, rest, hl with | [a], [], _ => rfl | [a], r :: rs, _ => rfl) (fun cdv A outer s H vs Q E hr h => ?_)
  obtain ⟨x, tp, a, ys, ps, rfl, ⟨dx, ex⟩, ha, hp, hlt, h40, q⟩ := h
  have nd := scWo.nd
  refine ⟨_, pss_cons (ps_for PassesOwn.never rfl (pi_tup (pv 1)) (pg_name (i := 2) nd rfl (.inl rfl))
      (pss_one (ps_if (pt_not (pt_val (C8.pe_c cP hr (by decide) (by rfl) (pa_cons (pv 2) (pa_cons (pe_callB call_len_seq (by rfl) M.len boot_len (pa_cons (pe_fld (pv 0) rfl) pa_nil)) pa_nil))))) (pss_one ps_never) pss_nil)))
    (pss_cons (ps_setLc (i := 3) (own := [("at", 4), ("row", 5)]) (g := gTup K 2 (gCons (gName 4) (gCons (gName 5) gNil))) (tt := tTest (tOp (rIn K true) (tVar 4) (tVar 1))) (by rfl) nd rfl rfl (sw_true rfl rfl rfl (by decide +kernel)) (pi_enumA (by rfl) M.enum (pa_cons (pe_fld (pv 0) rfl) pa_nil))
        (blkOk_by (own := [("at", 4), ("row", 5)]) (N := nWo) (sc := defScope s_Context_without) (by decide +kernel)) (fun _ _ _ _ _ => pg_tup rfl (pgs_cons (pg_name (i := 4) nd rfl (Or.inl rfl)) (pgs_cons (pg_name (i := 5) nd rfl (Or.inl rfl)) pgs_nil))) (fun _ _ _ _ _ => pts_one (pt_cmpR op_notIn_seq (pv 4) (pv 1) (by with_unfolding_all rfl)))
        (fun _ _ _ _ _ => pv 5))
    (pss_one (ps_ret (pe_make M.kC GC (hr.mono (by decide)) (by rfl) M.gC bC .nil pass0 (pa_cons (pe_make M.kK GK (hr.mono (by decide)) (by rfl) M.gK bK .nil pass0 (pa_cons (pv 3) pa_nil)) pa_nil))))), ?_⟩
  refine ⟨_, rfl, tp, rfl, ⟨_, hp⟩, for_tup (K := K) (a := tp) (xs := ps.map fun n : Nat => V.int (n : Int)) (fun i σ H' => ∃ v2, σ = [some (.ref x), some (.ref tp), v2, none, none, none] ∧ H' = H) ⟨none, rfl, rfl⟩ (fun i σ H' _ ⟨_, _, e⟩ => by rw [e]; exact hp) ?_ ?_⟩
  · rintro i v σ H' hi ⟨v2, rfl, rfl⟩
    rw [List.getElem?_map] at hi
    obtain ⟨n, hn, rfl⟩ := Option.map_eq_some_iff.mp hi
    have hn2 := hlt n (List.mem_of_getElem? hn)
    exact ⟨_, rfl, _, rfl, x, CC, dx, _, _, rfl, ex, M.cC, M.nC, lk1, a, ys, rfl, .inr ha, _, _, rfl, by omega, by omega, _, rfl, iteE rfl ⟨_, rfl, rfl⟩⟩
  · rintro σ H' ⟨v2, rfl, rfl⟩
    refine ⟨_, rfl, x, CC, dx, _, _, rfl, ex, M.cC, M.nC, lk1, a, ys, rfl, .inr ⟨ha, fun R nR => ?_⟩⟩
    refine lc_it walk_enumT (fun i H1 => Same H' H1 ∧ H1 R = some (.lst (keepV ys ps i))) ⟨same_new nR _, upd_same⟩ (fun i H1 _ ⟨s1, _⟩ => sameT s1 ha) ?_ ?_
    · rintro i v H1 H2 hi ⟨s1, hR⟩ ⟨T, y, z, rfl, nT, rfl, ey, ez⟩
      cases ey
      have g := same_new nT (.tup [.int (i : Nat), z])
      refine ⟨T, _, rfl, SqT.of upd_same, rfl, _, _, rfl, _, _, rfl, rfl, rfl, ?_⟩
      refine ⟨_, rfl, _, rfl, tp, _, rfl, .inr (sameT (s1.trans g) hp), rfl, flat_ints ps, _, rfl, ?_⟩
      rw [inV_ints]
      by_cases hm : i ∈ ps
      · refine iteE (by rw [decide_eq_true hm]; rfl) ?_
        refine ⟨s1.trans g, ?_⟩
        rw [keepV_succ ez, if_pos hm, List.append_nil]
        exact g _ _ hR
      · refine iteU (by rw [decide_eq_false hm]; rfl) ?_
        have lk := keepV_len (ys := ys) (ps := ps) (i := i)
        refine ⟨_, rfl, _, g _ _ hR, small1000 (by omega), fun c o hc => ?_, ?_⟩
        · rw [upd_ne (ne_of_none hc nR)]
          exact (s1.trans g) _ _ hc
        · rw [upd_same, keepV_succ ez, if_neg hm]
    · rintro H1 ⟨s1, hR⟩
      refine ⟨_, rfl, ?_⟩
      intro k dk nk ndk nek
      have t1 := made0 (C := CK) nk ndk
      refine ⟨k, R, dk, _, rfl, upd_same, .inl (SqL.of (t1 _ _ hR)), fun a2 H8 hk ha8 kk => ⟨rfl, ?_⟩⟩
      have s8 := made1 nk ndk kk
      intro z dz nz ndz nez
      have t3 := made0 (C := CC) nz ndz
      refine ⟨z, k, a2, dz, _, rfl, upd_same, hk.same t3, sameT t3 ha8, Nat.le_trans keepV_len h40, fun H9 hz ha9 k9 => ⟨rfl, ?_⟩⟩
      exact q z a2 H9 hz ha9 (s1.trans (s8.trans (made1 nz ndz k9)))
end

end Ag

namespace Ag
open PySem PySem.Spec PyProof.Rows L2
section
variable {P : Program} {w : World} {K : PySem.W.Frag} {mg : Str → Option Value} {base : Heap}
/-! ### _law_rows -/
def okR (ns ws : List (List Nat)) (r : Row) : Prop := r.1 ∈ ns ∧ okF ws [] 3 r.2
def spLRows (K : PySem.W.Frag) : Sp := fun vs H Q _ => ∃ (b l na wa : Addr) (ns ws : List (List Nat)) (m : Nat), vs = [.ref b, .ref na, .ref wa, .int (m : Int)] ∧ Bag H b l ∧ SqL K H na (ns.map fun w => V.str (SX.S w)) ∧ na ≠ b ∧ 0 < ns.length ∧ ns.length ≤ 1000 ∧
  SqL K H wa (ws.map fun w => V.str (SX.S w)) ∧ wa ≠ b ∧ 0 < ws.length ∧ ws.length ≤ 1000 ∧ m ≤ 100 ∧
  ∀ (p : Addr) (vs : List V) (rs : List Row) (H' : Hp), rs.length = m → (∀ r ∈ rs, okR ns ws r) → H' p = some (.lst vs) → RowsAt K H' vs rs → H p = none → Kp b H H' → Bag H' b l → Q (.ref p) H'
abbrev nLRows : List Str := ["_law_bag_here", "_law_names_here", "_law_words", "_law_many", "_law_k"]
theorem scLRows : FnScope nLRows ["_law_bag_here", "_law_names_here", "_law_words", "_law_many"] (defScope s_law_rows) := ⟨rfl, rfl, rfl, by decide +kernel, rfl, by decide +kernel, by decide +kernel⟩
theorem ok_lrows {f : Addr} {fd : FuncData} (F : Fun K "_law_rows" "_law_rows" s_law_rows f fd) (cA : C8.Cal P w K mg base 2 "_law_any" (spAny K) []) (cF : C8.Cal P w K mg base 5 "_law_form" (spForm K 3) []) (M : NamesM mg) : FnOk P w K mg base CX0 6 f fd ["_law_bag_here", "_law_names_here", "_law_words", "_law_many"] (spLRows K) := by
  refine F.ok scLRows (fun vs H Q E h => ?_) (fun cdv A outer s H vs Q E hr h => ?_)
  · obtain ⟨b, l, na, wa, ns, ws, m, rfl, _⟩ := h
    rfl
  obtain ⟨b, l, na, wa, ns, ws, m, rfl, hB, hn, nnb, n0, n1, hw, nwb, w0, w1, hm, q⟩ := h
  have nd := scLRows.nd
  refine ⟨_, pss_one (ps_ret (pe_lc (own := [("_law_k", 4)]) (g := gName 4) (tt := tYes) rfl nd (pi_range1 (by rfl) M.range (pa_cons (pv 3) pa_nil))
      (blkOk_by (own := [("_law_k", 4)]) (N := nLRows) (sc := defScope s_law_rows) (by decide +kernel)) (fun _ _ _ _ _ => pg_name (i := 4) nd rfl (Or.inl rfl)) (fun _ _ _ _ _ => pts_nil)
      (fun _ _ _ _ _ => pe_tup (pa_cons (C8.pe_c cA hr (by decide) (by rfl) (pa_cons (pv 0) (pa_cons (pv 1) pa_nil))) (pa_cons (C8.pe_c cF hr (by decide) (by rfl) (pa_cons (pv 0) (pa_cons (pv 2) (pa_cons pe_int pa_nil)))) pa_nil))))), ?_⟩
  refine ⟨_, rfl, (m : Int), rfl, by omega, by omega, fun R nR => ?_⟩
  have nR' := hB.new nR
  refine lc_range (lo := 0) (n := (m : Int).toNat) (fun i H' => ∃ (vs : List V) (rs : List Row), rs.length = i ∧ (∀ r ∈ rs, okR ns ws r) ∧ H' R = some (.lst vs) ∧ RowsAt K H' vs rs ∧ Kp b H H' ∧ Bag H' b l) ⟨[], [], rfl, fun r h => (by cases h), upd_same, .nil, .of (same_new nR _), hB.kp (same_new nR _)⟩ ?_ ?_
  · rintro i H2 hi ⟨vs, rs, hl, hrs, hR, hv, k2, B2⟩
    refine ⟨rfl, _, rfl, _, rfl, b, l, _, _, rfl, B2, .inr ⟨na, rfl, nnb, .inl (k2.seqL nnb hn)⟩, by rw [List.length_map]; exact n0, by rw [List.length_map]; omega, fun j v H3 hj k3 B3 => ?_⟩
    rw [List.getElem?_map] at hj
    obtain ⟨u, hu, rfl⟩ := Option.map_eq_some_iff.mp hj
    have k23 := k2.trans k3
    refine ⟨_, rfl, _, rfl, b, l, wa, ws, 3, rfl, B3, k23.seqL nwb hw, nwb, w0, w1, by decide, by decide, fun fv t H4 ot ft k4 B4 => ?_⟩
    refine ⟨(by show 2 ≤ sizeLine; decide), fun p np => ?_⟩
    have g5 := same_new np (.tup [.str (SX.S u), fv])
    have k5 := (k23.trans k4).trans (.of g5)
    have B5 := B4.kp g5
    have hR3 := k3 _ _ hR nR'.1
    have hR5 := g5 _ _ (k4 _ _ hR3 nR'.1)
    have hv5 : RowsAt K _ vs rs := ((hv.kp k3 B2).kp k4 B3).same g5
    have tpR : Tp _ (upd _ R (.lst (vs ++ [.ref p]))) := Tp.upd hR5 trivial
    have lv : vs.length = rs.length := Paired.length hv
    refine ⟨_, hR5, small1000 (by omega), vs ++ [.ref p], rs ++ [(u, t)], by rw [List.length_append, hl]; rfl, fun r hr' => ?_, upd_same, paired_snoc (hv5.tp tpR) (mk_row (r := (u, t)) (tpR.seq (SqT.of upd_same)) ((ft.same g5).tp tpR)), k5.upd nR, B5.upd nR'.1 nR'.2⟩
    rcases List.mem_append.mp hr' with z | z
    · exact hrs r z
    · rw [List.mem_singleton.mp z]
      exact ⟨List.mem_of_getElem? hu, ot⟩
  · rintro H2 ⟨vs, rs, hl, hrs, hR, hv, k2, B2⟩
    exact q R vs rs H2 (by omega) hrs hR hv nR k2 B2
end

end Ag

namespace Ag
open PySem PySem.Spec PyProof.Rows L2
/-! ### the kinds of errors: code, fields -/
inductive Ek
  | name | number | formula | shape | unknown | row | deed | text | page | many | large | full | command | circular | inuse | refused | nothing
def Ek.code : Ek → Str
  | .name => "InvalidName"
  | .number => "InvalidNumber"
  | .formula => "InvalidFormula"
  | .shape => "InvalidShape"
  | .unknown => "UnknownName"
  | .row => "InvalidRow"
  | .deed => "InvalidDeed"
  | .text => "InvalidText"
  | .page => "InvalidPage"
  | .many => "TooMany"
  | .large => "TooLarge"
  | .full => "Full"
  | .command => "InvalidCommand"
  | .circular => "Circular"
  | .inuse => "NameInUse"
  | .refused => "Refused"
  | .nothing => "NothingLeft"
def Ek.attrs : Ek → List Str
  | .name => ["value"]
  | .number => ["value"]
  | .formula => ["value"]
  | .shape => ["value"]
  | .unknown => ["value"]
  | .row => ["at"]
  | .deed => ["at"]
  | .text => ["line"]
  | .page => ["line"]
  | .many => ["most"]
  | .large => ["most"]
  | .full => ["most"]
  | .command => ["path"]
  | .circular => ["name"]
  | .inuse => ["user"]
  | .refused => ["path", "reason"]
  | .nothing => []
/-- what the written part says of an error's class -/
structure ErrC (K : PySem.W.Frag) (C : Addr) : Prop where
  xf : XfC K C
  nf : ∀ n ∈ (["code", "value", "at", "line", "most", "path", "name", "user", "reason"] : List Str), PySem.W.findIn K (.ref C) n = some none
section
variable {P : Program} {w : World} {K : PySem.W.Frag} {mg : Str → Option Value} {base : Heap}
/-- the error of the class at C with the fields fs is of the kind e, its fields' values ws -/
structure ErrIs (K : PySem.W.Frag) (C : Addr) (fs : List (Str × V)) (e : Ek) (ws : List V) : Prop where
  cls : ErrC K C
  code : fs.lookup ("code" : Str) = some (.str e.code)
  vals : Paired (fun n v => fs.lookup n = some v) e.attrs ws
def spFlds (K : PySem.W.Frag) : SpP := fun p vs H Q _ => ∃ (a C D : Addr) (oe : Obj) (fs : List (Str × V)) (e : Ek) (ws : List V), p = (a, oe) ∧ vs = [.ref a] ∧ Zc (.ref C) (some D) oe ∧ (∃ vs, oe.data = .fields vs) ∧ ErrIs K C fs e ws ∧ H D = some (.xd fs) ∧
  ∀ t H', Same H H' → H t = none → H' t = some (.tup ws) → Q (.ref t) H'
abbrev nFl : List Str := ["_law_e", "_law_code"]
theorem scFl : FnScope nFl ["_law_e"] (defScope s_law_fields) := ⟨rfl, rfl, rfl, by decide +kernel, rfl, by decide +kernel, by decide +kernel⟩
theorem upd_free {H : Hp} {a b : Addr} {o : HO} (h : upd H a o b = none) : H b = none := by
  by_cases e : b = a
  · subst e
    rw [upd_same] at h
    cases h
  · rw [upd_ne e] at h
    exact h
def Gro (H H' : Hp) : Prop := Same H H' ∧ ∀ a, H' a = none → H a = none
theorem Gro.refl (H : Hp) : Gro H H := ⟨.refl _, fun _ h => h⟩
theorem Gro.new {H H' : Hp} (g : Gro H H') {t : Addr} (n : H' t = none) (o : HO) : Gro H (upd H' t o) := ⟨g.1.trans (same_new n o), fun a h => g.2 a (upd_free h)⟩
section
variable {σ : L2.St} {H0 H : Hp} {D : Ends} {A rest : TS} {z : Str} {vs : List V} {ta : TA}
theorem st_inF (g : Gro H0 H) (h : σ[1]? = some (some (.str z))) (ha : ∀ R : List V → Hp → Prop, R vs H → ta σ H R) (hl : vs.length ≤ sizeLine) (fl : vs.all flatV = true) (hb : inV (.str z) vs = false) (q : ∀ H', Gro H0 H' → rest D σ H') :
    tSeq (tIfS (tTest (tOp (rIn K false) (tVar 1) (tTup ta))) A tNext) rest D σ H := by
  refine ⟨_, h, ha _ ⟨hl, fun t n => ⟨t, _, rfl, .inr (SqT.of upd_same), rfl, fl, _, rfl, iteE ?_ (q _ (g.new n _))⟩⟩⟩
  rw [if_neg (by decide), hb]
theorem st_inT (g : Gro H0 H) (h : σ[1]? = some (some (.str z))) (ha : ∀ R : List V → Hp → Prop, R vs H → ta σ H R) (hl : vs.length ≤ sizeLine) (fl : vs.all flatV = true) (hb : inV (.str z) vs = true) (q : ∀ H' D', Gro H0 H' → D'.rt = D.rt → A D' σ H') :
    tSeq (tIfS (tTest (tOp (rIn K false) (tVar 1) (tTup ta))) A tNext) rest D σ H := by
  refine ⟨_, h, ha _ ⟨hl, fun t n => ⟨t, _, rfl, .inr (SqT.of upd_same), rfl, fl, _, rfl, iteU ?_ (q _ _ (g.new n _) rfl)⟩⟩⟩
  rw [if_neg (by decide), hb]
theorem st_eqF {y : Str} (g : Gro H0 H) (h : σ[1]? = some (some (.str z))) (hb : decide (V.str z = .str y) = false) (q : rest D σ H) :
    tSeq (tIfS (tTest (tOp rEq (tVar 1) (tC (.str y)))) A tNext) rest D σ H := ⟨_, h, rfl, _, rfl, iteE hb q⟩
theorem st_eqT {y : Str} (g : Gro H0 H) (h : σ[1]? = some (some (.str z))) (hb : decide (V.str z = .str y) = true) (q : ∀ D', D'.rt = D.rt → A D' σ H) :
    tSeq (tIfS (tTest (tOp rEq (tVar 1) (tC (.str y)))) A tNext) rest D σ H := ⟨_, h, rfl, _, rfl, iteU hb (q _ rfl)⟩
end
/-- return (e.f,) -/
theorem st_fld {σ : L2.St} {H0 H : Hp} {a C DD : Addr} {fs : List (Str × V)} {e : Ek} {ws : List V} {n : Str} {D : Ends} {Q : VK} (hr : D.rt = Q) (g : Gro H0 H) (h0 : σ[0]? = some (some (.ref a))) (E : ErrIs K C fs e ws) (ea : e.attrs = [n]) (hn : n ∈ (["code", "value", "at", "line", "most", "path", "name", "user", "reason"] : List Str)) (hD : H0 DD = some (.xd fs))
    (q : ∀ t H', Same H0 H' → H0 t = none → H' t = some (.tup ws) → Q (.ref t) H') : tRet (tTup (tCons (tXfE K a (.ref C) (some DD) n (tVar 0)) tNil)) D σ H := by
  have v := E.vals
  rw [ea] at v
  cases v with
  | cons r1 r2 =>
    cases r2
    refine ⟨_, h0, rfl, C, DD, fs, _, rfl, E.cls.xf, E.cls.nf _ hn, rfl, g.1 _ _ hD, r1, (by show 1 ≤ sizeLine; decide), fun t nt => ?_⟩
    rw [hr]
    exact q t _ (g.new nt _).1 (g.2 t nt) upd_same
theorem ok_fields {f : Addr} {fd : FuncData} (F : Fun K "_law_fields" "_law_fields" s_law_fields f fd) : FnS P w K mg base 2 f fd ["_law_e"] (spFlds K) := by
  refine okS F scFl (fun p vs H Q h => ?_) (fun cdv A outer s H vs Q p hr h => ?_)
  · obtain ⟨a, C, D, oe, fs, e, ws, _, rfl, _⟩ := h
    rfl
  obtain ⟨a, C, D, oe, fs, e, ws, rfl, rfl, hz, hf, E, hD, q⟩ := h
  have nd := scFl.nd
  refine ⟨_, pss_cons (ps_set (i := 1) nd rfl (.inl rfl) (pe_xfP hz hf List.mem_cons_self (pv 0)))
    (pss_cons (ps_if (pt_cmpR op_in_seq (pv 1) (pe_tup (pa_cons pe_str (pa_cons pe_str (pa_cons pe_str (pa_cons pe_str (pa_cons pe_str pa_nil)))))) (by with_unfolding_all rfl)) (pss_one (ps_ret (pe_tup (pa_cons (pe_xfP hz hf List.mem_cons_self (pv 0)) pa_nil)))) pss_nil)
    (pss_cons (ps_if (pt_cmpR op_in_seq (pv 1) (pe_tup (pa_cons pe_str (pa_cons pe_str pa_nil))) (by with_unfolding_all rfl)) (pss_one (ps_ret (pe_tup (pa_cons (pe_xfP hz hf List.mem_cons_self (pv 0)) pa_nil)))) pss_nil)
    (pss_cons (ps_if (pt_cmpR op_in_seq (pv 1) (pe_tup (pa_cons pe_str (pa_cons pe_str pa_nil))) (by with_unfolding_all rfl)) (pss_one (ps_ret (pe_tup (pa_cons (pe_xfP hz hf List.mem_cons_self (pv 0)) pa_nil)))) pss_nil)
    (pss_cons (ps_if (pt_cmpR op_in_seq (pv 1) (pe_tup (pa_cons pe_str (pa_cons pe_str (pa_cons pe_str pa_nil)))) (by with_unfolding_all rfl)) (pss_one (ps_ret (pe_tup (pa_cons (pe_xfP hz hf List.mem_cons_self (pv 0)) pa_nil)))) pss_nil)
    (pss_cons (ps_if (pt_cmpR op_eq (pv 1) pe_str (nomark _)) (pss_one (ps_ret (pe_tup (pa_cons (pe_xfP hz hf List.mem_cons_self (pv 0)) pa_nil)))) pss_nil)
    (pss_cons (ps_if (pt_cmpR op_eq (pv 1) pe_str (nomark _)) (pss_one (ps_ret (pe_tup (pa_cons (pe_xfP hz hf List.mem_cons_self (pv 0)) pa_nil)))) pss_nil)
    (pss_cons (ps_if (pt_cmpR op_eq (pv 1) pe_str (nomark _)) (pss_one (ps_ret (pe_tup (pa_cons (pe_xfP hz hf List.mem_cons_self (pv 0)) pa_nil)))) pss_nil)
    (pss_one (ps_ret (pe_ifExp (pt_cmpR op_eq (pv 1) pe_str (nomark _)) (pe_tup (pa_cons (pe_xfP hz hf List.mem_cons_self (pv 0)) (pa_cons (pe_xfP hz hf List.mem_cons_self (pv 0)) pa_nil))) (pe_tup pa_nil))))))))))), ?_⟩
  refine ⟨_, rfl, rfl, C, D, fs, _, rfl, E.cls.xf, E.cls.nf _ (by decide), rfl, hD, E.code, ?_⟩
  have g0 := Gro.refl H
  cases e
  all_goals
    repeat (first
      | exact st_inT (by assumption) rfl (fun R q => q) (by show _ ≤ sizeLine; decide) rfl (by decide +kernel) (fun H' D' g' er => st_fld (er.trans rfl) (by assumption) rfl E rfl (by decide) hD q)
      | exact st_eqT (by assumption) rfl (by decide +kernel) (fun D' er => st_fld (er.trans rfl) (by assumption) rfl E rfl (by decide) hD q)
      | refine st_inF (by assumption) rfl (fun R q => q) (by show _ ≤ sizeLine; decide) rfl (by decide +kernel) (fun H' g' => ?_)
      | refine st_eqF (by assumption) rfl (by decide +kernel) ?_)
  · obtain ⟨g1, g2⟩ := g'
    have v := E.vals
    cases v with
    | cons r1 r2 =>
      cases r2 with
      | cons r3 r4 =>
        cases r4
        refine ⟨_, rfl, rfl, _, rfl, iteU (decide_eq_true rfl) ?_⟩
        refine ⟨_, rfl, rfl, C, D, fs, _, rfl, E.cls.xf, E.cls.nf _ (by decide), rfl, g1 _ _ hD, r1, ?_⟩
        refine ⟨_, rfl, rfl, C, D, fs, _, rfl, E.cls.xf, E.cls.nf _ (by decide), rfl, g1 _ _ hD, r3, (by show 2 ≤ sizeLine; decide), fun t nt => ?_⟩
        exact q t _ (g1.trans (same_new nt _)) (g2 t nt) upd_same
  · obtain ⟨g1, g2⟩ := g'
    have v := E.vals
    cases v
    refine ⟨_, rfl, rfl, _, rfl, iteE (by decide +kernel) ⟨(by show 0 ≤ sizeLine; decide), fun t nt => ?_⟩⟩
    exact q t _ (g1.trans (same_new nt _)) (g2 t nt) upd_same
/-! ### _law_try, _law_tries -/
theorem Asks.imp {k : Nat} {f : Addr} {H : Hp} {Q Q' : VK} {E E' : XK} (B : Asks P w K mg base k f H Q E) (hQ : ∀ v H, Q v H → Q' v H) (hE : ∀ c d H, E c d H → E' c d H) : Asks P w K mg base k f H Q' E' :=
  ⟨B.fn, fun A outer s room e0 => codeAny_mono (B.run A outer s room e0) fun r s' z => by
    match r, z with
    | .ok (.ret u), z =>
      obtain ⟨v, H', z1, z2, z3, z4, z5, z6⟩ := z
      exact ⟨v, H', z1, z2, z3, z4, z5, hQ _ _ z6⟩
    | .error e, z =>
      obtain ⟨a, B, H', cls, d, z1, z2, z3, z4, z5, z6, z7, z8⟩ := z
      exact ⟨a, B, H', cls, d, z1, z2, z3, z4, z5, z6, z7, hE _ _ _ z8⟩⟩
/-- the classes that the clause names -/
structure TryM (K : PySem.W.Frag) (mg : Str → Option Value) (cG cM cN : Addr) : Prop where
  g : mg "GroundError" = some (.ref cG)
  m : mg "Missing" = some (.ref cM)
  n : mg "NothingLeft" = some (.ref cN)
/-- what the call of the value at f comes to, told as a pair: '' and what it gives, or an error's code and its fields -/
def Told (P : Program) (w : World) (K : PySem.W.Frag) (mg : Str → Option Value) (base : Heap) (cG cM cN : Addr) (k : Nat) (f : Addr) (H : Hp) (W : VK) : Prop :=
  Asks P w K mg base k f H (fun v H1 => ∀ t H2, Same H1 H2 → H1 t = none → H2 t = some (.tup [.str "", v]) → W (.ref t) H2)
    (fun cls d H1 => ∃ (C D : Addr) (fs : List (Str × V)) (e : Ek) (ws : List V), cls = .ref C ∧ d = some D ∧ ErrIs K C fs e ws ∧ PySem.W.exmAny K (.ref C) [.ref cG, .ref cM, .ref cN] = some true ∧ H1 D = some (.xd fs) ∧
      ∀ t u H2, Same H1 H2 → H1 t = none → H2 u = some (.tup ws) → H2 t = some (.tup [.str e.code, .ref u]) → W (.ref t) H2)
def spTry (P : Program) (w : World) (K : PySem.W.Frag) (mg : Str → Option Value) (base : Heap) (cG cM cN : Addr) (k : Nat) : Sp := fun vs H Q _ => ∃ f, vs = [.ref f] ∧ Told P w K mg base cG cM cN k f H Q
abbrev nTry : List Str := ["_law_ask", "_law_e"]
theorem scTry : FnScope nTry ["_law_ask"] (defScope s_law_try) := ⟨rfl, rfl, rfl, by decide +kernel, rfl, by decide +kernel, by decide +kernel⟩
theorem ok_try {cG cM cN : Addr} {k : Nat} {f fF : Addr} {fd fdF : FuncData} (F : Fun K "_law_try" "_law_try" s_law_try f fd) (T : TryM K mg cG cM cN) (FF : FnS P w K mg base 2 fF fdF ["_law_e"] (spFlds K)) (mF : mg "_law_fields" = some (.ref fF)) (kF : PySem.W.keepIn K (.ref fF) = true) (bF : Binds K fdF ["_law_e"] []) (hk : 2 ≤ k) :
    FnOk P w K mg base L2.CX0 (k + 1) f fd ["_law_ask"] (spTry P w K mg base cG cM cN k) := by
  refine F.ok scTry (fun vs H Q E h => ?_) (fun cdv A outer s H vs Q E hr h => ?_)
  · obtain ⟨f, rfl, _⟩ := h
    rfl
  obtain ⟨q, rfl, B⟩ := h
  have nd := scTry.nd
  refine ⟨_, pss_one (ps_try3 (i := 1) (tb := fun W => tRet (tTup (tCons (tC (.str "")) (tCons (fun σ H Q => ∃ f E, σ[0]? = some (some (.ref f)) ∧ Asks P w K mg base k f H Q E ∧ ∀ cls d H', E cls d H' → W cls d σ H') tNil)))) (ts := fun a oe cls d => tRet (tTup (tCons (tXfE K a cls d "code" (tVar 1)) (tCons (fun σ H Q => (tCons (tVar 1) tNil : TA) σ H fun vs H1 => spFlds K (a, oe) vs H1 Q L2.E0) tNil)))) rfl rfl nd rfl rfl (by rfl) T.g (by rfl) T.m (by rfl) T.n
    (fun W pn xe tk _ => pss_one (ps_ret (pe_tup (pa_cons pe_str (pa_cons (pe_ask (i := 0) hr tk rfl (.inl rfl)) pa_nil)))))
    (fun a oe cls d pn hz hf => pss_one (ps_ret (pe_tup (pa_cons (pe_xfP (X := (cxOf L2.CX0 P w K mg base nTry "_law_try" (defScope s_law_try) f cdv A outer s H E).nox.suite a ((a, oe) :: pn)) hz hf List.mem_cons_self (pv 1)) (pa_cons (pe_callP (X := (cxOf L2.CX0 P w K mg base nTry "_law_try" (defScope s_law_try) f cdv A outer s H E).nox.suite a ((a, oe) :: pn)) (p := (a, oe)) FF ⟨(hr.mono hk).dp, (hr.mono hk).un⟩ List.mem_cons_self (by rfl) mF kF bF (pa_cons (pv 1) pa_nil)) pa_nil)))))), ?_⟩
  refine ⟨q, _, rfl, B.imp (fun v H1 h1 => ⟨(by show 2 ≤ sizeLine; decide), fun p np => ?_⟩) (fun c d H1 h1 => h1), fun cls d H1 h1 => ?_⟩
  · exact h1 p _ (same_new np _) np upd_same
  · obtain ⟨C, D, fs, e, ws, rfl, rfl, Er, hx, hD, fin⟩ := h1
    refine ⟨hx, fun a oe tp hz hf na nt ne => ?_⟩
    have g1 := same_new nt (.tup [.ref cG, .ref cM, .ref cN])
    refine ⟨_, rfl, rfl, C, D, fs, _, rfl, Er.cls.xf, Er.cls.nf _ (by decide), rfl, g1 _ _ hD, Er.code, ?_⟩
    refine ⟨_, rfl, a, C, D, oe, fs, e, ws, rfl, rfl, hz, hf, Er, g1 _ _ hD, fun u H2 g2 nu hu => ⟨(by show 2 ≤ sizeLine; decide), fun t n3 => ?_⟩⟩
    have g3 := same_new n3 (.tup [.str e.code, .ref u])
    refine fin t u _ (g1.trans (g2.trans g3)) ?_ (g3 _ _ hu) upd_same
    cases z : H1 t with
    | none => rfl
    | some o =>
      rw [g2 _ _ (g1 _ _ z)] at n3
      cases n3
def spTries (P : Program) (w : World) (K : PySem.W.Frag) (mg : Str → Option Value) (base : Heap) (cG cM cN : Addr) (k : Nat) : Sp := fun vs H Q _ => ∃ (a : Addr) (fs : List Addr) (R : Nat → V → Hp → Prop), vs = [.ref a] ∧ SqL K H a (fs.map V.ref) ∧ fs.length ≤ 100 ∧ (∀ i v H1 H2, R i v H1 → Fx H1 H2 → R i v H2) ∧
  (∀ i f, fs[i]? = some f → ∀ H1, Same H H1 → Told P w K mg base cG cM cN k f H1 (fun v H2 => Same H1 H2 ∧ R i v H2)) ∧ ∀ p rs H', Same H H' → H p = none → H' p = some (.lst rs) → rs.length = fs.length → (∀ i v, rs[i]? = some v → R i v H') → Q (.ref p) H'
abbrev nTries : List Str := ["_law_asks", "_law_ask"]
theorem scTries : FnScope nTries ["_law_asks"] (defScope s_law_tries) := ⟨rfl, rfl, rfl, by decide +kernel, rfl, by decide +kernel, by decide +kernel⟩
theorem same_wo {H H' : Hp} {D : Addr} (k : Kp D H H') (n : H D = none) : Same H H' := fun b o e => k b o e (ne_of_none e n)
theorem ok_tries {cG cM cN : Addr} {k : Nat} {f : Addr} {fd : FuncData} (F : Fun K "_law_tries" "_law_tries" s_law_tries f fd) (cT : C8.Cal P w K mg base (k + 1) "_law_try" (spTry P w K mg base cG cM cN k) []) : FnOk P w K mg base L2.CX0 (k + 2) f fd ["_law_asks"] (spTries P w K mg base cG cM cN k) := by
  refine F.ok scTries (fun vs H Q E h => ?_) (fun cdv A outer s H vs Q E hr h => ?_)
  · obtain ⟨a, fs, R, rfl, _⟩ := h
    rfl
  obtain ⟨a, fs, R, rfl, ha, hl, st, told, q⟩ := h
  have nd := scTries.nd
  refine ⟨_, pss_one (ps_ret (pe_lc (own := [("_law_ask", 1)]) (g := gName 1) (te := tCall (spTry P w K mg base cG cM cN k) [] C8.E0 (tCons (tVar 1) tNil)) (tt := tYes) rfl nd (pi_list (pv 0))
      (blkOk_by (own := [("_law_ask", 1)]) (N := nTries) (sc := defScope s_law_tries) (by decide +kernel)) (fun _ _ _ _ _ => pg_name (i := 1) nd rfl (Or.inl rfl)) (fun _ _ _ _ _ => pts_nil) (fun _ _ _ _ _ => C8.pe_c cT hr (Nat.le_refl _) (by rfl) (pa_cons (pv 1) pa_nil)))), ?_⟩
  refine ⟨_, rfl, a, rfl, ⟨_, ha⟩, fun D nD => ?_⟩
  refine lc_list (xs := fs.map V.ref) (fun i H' => ∃ zs : List V, zs.length = i ∧ H' D = some (.lst zs) ∧ Same H H' ∧ ∀ j v, zs[j]? = some v → R j v H') ⟨[], rfl, upd_same, same_new nD _, fun j v e => by simp at e⟩ (fun i H' _ ⟨_, _, _, s1, _⟩ => s1.seq ha) ?_ ?_
  · rintro i v H1 hi ⟨zs, lz, hD, s1, hR⟩
    rw [List.getElem?_map] at hi
    obtain ⟨q1, hq, rfl⟩ := Option.map_eq_some_iff.mp hi
    have hil := (List.getElem?_eq_some_iff.mp hq).1
    refine ⟨rfl, _, rfl, q1, rfl, ?_⟩
    have T := told i q1 hq H1 s1
    have fin : ∀ v H2, Same H1 H2 ∧ R i v H2 → ∃ acc, H2 D = some (.lst acc) ∧ acc.length < sizeLine ∧ ∃ zs : List V, zs.length = i + 1 ∧ upd H2 D (.lst (acc ++ [v])) D = some (.lst zs) ∧ Same H (upd H2 D (.lst (acc ++ [v]))) ∧ ∀ j u, zs[j]? = some u → R j u (upd H2 D (.lst (acc ++ [v]))) := by
      rintro v H2 ⟨s2, hv⟩
      have fx : Fx H2 (upd H2 D (.lst (zs ++ [v]))) := .kpL kp_upd (s2 _ _ hD)
      refine ⟨zs, s2 _ _ hD, small1000 (by omega), zs ++ [v], by rw [List.length_append, lz]; rfl, upd_same, fun b o e => ?_, fun j u e => ?_⟩
      · rw [upd_ne (ne_of_none e nD)]
        exact s2 _ _ (s1 _ _ e)
      · by_cases hj : j < zs.length
        · rw [List.getElem?_append_left hj] at e
          exact st j u _ _ (hR j u e) ((Fx.of s2).trans fx)
        · rw [List.getElem?_append_right (Nat.le_of_not_lt hj)] at e
          have e0 : j - zs.length = 0 := by
            cases z : j - zs.length with
            | zero => rfl
            | succ n =>
              rw [z] at e
              simp at e
          rw [e0] at e
          have e1 : v = u := by simpa using e
          have e2 : j = i := by omega
          subst e1
          subst e2
          exact st _ _ _ _ hv fx
    exact T.imp (fun v H2 h2 t H3 s3 n3 h3 => fin _ _ (h2 t H3 s3 n3 h3)) (fun c d H2 ⟨C, DD, fs2, e, ws, e1, e2, e3, e4, e5, e6⟩ => ⟨C, DD, fs2, e, ws, e1, e2, e3, e4, e5, fun t u H3 s3 n3 h3 h4 => fin _ _ (e6 t u H3 s3 n3 h3 h4)⟩)
  · rintro H1 ⟨zs, lz, hD, s1, hR⟩
    exact q D zs H1 s1 nD hD (by rw [lz, List.length_map]) hR
end

end Ag

namespace Ag
open PySem PySem.Spec PyProof.Rows L2
def dep : Fm → Nat
  | .bin _ a b => max (dep a) (dep b) + 1
  | _ => 1
theorem dep_pos : ∀ t : Fm, 1 ≤ dep t
  | .fls => Nat.le_refl _
  | .atom _ => Nat.le_refl _
  | .hole _ => Nat.le_refl _
  | .bin _ _ _ => Nat.succ_pos _
end Ag

namespace Ag
open PySem PySem.Spec PyProof.Rows L2
/-! ### data made of tuples alone -/
def tupd : Nat → PyData → Bool
  | 0, _ => false
  | n + 1, .tuple ds => decide (ds.length ≤ 1000) && ds.all (tupd n)
  | _ + 1, .list _ => false
  | _ + 1, .dict _ => false
  | _ + 1, _ => true
section
variable {K : PySem.W.Frag} {H H' : Hp}
theorem tupd_tp (s : Tp H H') : ∀ {n : Nat} {d : PyData} {v : V}, tupd n d = true → Dp K H v d → Dp K H' v d
  | 0, _, _, e, _ => by cases e
  | _ + 1, _, _, _, .non => .non
  | _ + 1, _, _, _, .bl b => .bl b
  | _ + 1, _, _, _, .int i => .int i
  | _ + 1, _, _, _, .str x => .str x
  | _ + 1, _, _, e, .lst _ _ => by cases e
  | n + 1, .tuple ds, _, e, .tup q r => by
    simp only [tupd, Bool.and_eq_true, List.all_eq_true] at e
    have all : ∀ {xs : List V} {es : List PyData}, (∀ d ∈ es, tupd n d = true) → DpAll K H xs es → DpAll K H' xs es := by
      intro xs es he ha
      induction es generalizing xs with
      | nil =>
        cases ha
        exact .nil
      | cons d r ih =>
        cases ha with
        | cons h1 h2 => exact .cons (tupd_tp s (he d (by simp)) h1) (ih (fun d hd => he d (by simp [hd])) h2)
    exact .tup (s.seq q) (all e.2 r)
theorem tupds_tp (s : Tp H H') {n : Nat} : ∀ {es : List PyData} {xs : List V}, (∀ d ∈ es, tupd n d = true) → DpAll K H xs es → DpAll K H' xs es
  | [], _, _, .nil => .nil
  | d :: r, _, he, .cons h1 h2 => .cons (tupd_tp s (he d (by simp)) h1) (tupds_tp s (fun d hd => he d (by simp [hd])) h2)
theorem tupd_up : ∀ {n m : Nat} {d : PyData}, n ≤ m → tupd n d = true → tupd m d = true := by
  intro n
  induction n with
  | zero =>
    intro m d _ e
    cases e
  | succ n ih =>
    intro m d h e
    obtain ⟨m', rfl⟩ : ∃ m', m = m' + 1 := ⟨m - 1, by omega⟩
    cases d with
    | tuple ds =>
      simp only [tupd, Bool.and_eq_true, List.all_eq_true] at e ⊢
      exact ⟨e.1, fun d hd => ih (by omega) (e.2 d hd)⟩
    | list _ => cases e
    | dict _ => cases e
    | _ => rfl
theorem tupd_oka : ∀ {n : Nat} {d : PyData}, tupd n d = true → oka n d = true
  | 0, _, e => by cases e
  | n + 1, .tuple ds, e => by
    simp only [tupd, Bool.and_eq_true, List.all_eq_true] at e
    simp only [oka, Bool.and_eq_true, List.all_eq_true]
    exact ⟨e.1, fun d hd => tupd_oka (e.2 d hd)⟩
  | _ + 1, .list _, e => by cases e
  | _ + 1, .dict _, e => by cases e
  | _ + 1, .none, _ => rfl
  | _ + 1, .bool _, _ => rfl
  | _ + 1, .int _, _ => rfl
  | _ + 1, .str _, _ => rfl
theorem tupd_fm : ∀ t : Fm, tupd (dep t + 1) t.dat = true
  | .fls => rfl
  | .atom _ => rfl
  | .hole _ => rfl
  | .bin k a b => by
    have up : ∀ {n m : Nat} {d : PyData}, n ≤ m → tupd n d = true → tupd m d = true := by
      intro n
      induction n with
      | zero =>
        intro m d _ e
        cases e
      | succ n ih =>
        intro m d h e
        obtain ⟨m', rfl⟩ : ∃ m', m = m' + 1 := ⟨m - 1, by omega⟩
        cases d with
        | tuple ds =>
          simp only [tupd, Bool.and_eq_true, List.all_eq_true] at e ⊢
          exact ⟨e.1, fun d hd => ih (by omega) (e.2 d hd)⟩
        | list _ => cases e
        | dict _ => cases e
        | _ => rfl
    show (decide (3 ≤ 1000) && [PyData.str (kd k), a.dat, b.dat].all (tupd (max (dep a) (dep b) + 1))) = true
    simp only [List.all_cons, List.all_nil, Bool.and_true, Bool.and_eq_true]
    exact ⟨decide_eq_true (by omega), rfl, up (by omega) (tupd_fm a), up (by omega) (tupd_fm b)⟩
end
section
variable {P : Program} {w : World} {K : PySem.W.Frag} {mg : Str → Option Value} {base : Heap}
theorem dpall_app {H : Hp} : ∀ {xs ys : List V} {ds es : List PyData}, DpAll K H xs ds → DpAll K H ys es → DpAll K H (xs ++ ys) (ds ++ es)
  | _, _, _, _, .nil, h => h
  | _, _, _, _, .cons a b, h => .cons a (dpall_app b h)
/-! ### copied -/
structure CopM (mg : Str → Option Value) : Prop where
  isi : mg "isinstance" = none
  list : mg "list" = none
  tuple : mg "tuple" = none
  dict : mg "dict" = none
abbrev CopD (K : PySem.W.Frag) (f : Addr) (fd : FuncData) : Prop := FunD K "copied" "copied" (defArgs s_copied) (defBody s_copied) (defScope s_copied) [.int 12] [] f fd
def spCp (K : PySem.W.Frag) (n : Nat) : Sp := fun vs H Q _ => ∃ (x : V) (d m : Nat) (t : PyData), vs = [x, .int (d : Int)] ∧ d < n ∧ Dp K H x t ∧ tupd m t = true ∧ ∀ v H', Same H H' → Dp K H' v t → Q v H'
abbrev nCp : List Str := ["value", "depth", "item"]
theorem scCp : FnScope nCp ["value", "depth"] (defScope s_copied) := ⟨rfl, rfl, rfl, by decide +kernel, rfl, by decide +kernel, by decide +kernel⟩
theorem ok_copied {n : Nat} {f : Addr} {fd : FuncData} (F : CopD K f fd) (M : CopM mg) (cU : C8.Cal P w K mg base n "copied" (spCp K n) []) : FnOk P w K mg base CX0 (n + 1) f fd ["value", "depth"] (spCp K (n + 1)) := by
  refine F.ok scCp (fun vs H Q E h => ?_) (fun cdv A outer s H vs Q E hr h => ?_)
  · obtain ⟨x, d, m, t, rfl, _⟩ := h
    rfl
  obtain ⟨x, d, m, t, rfl, hd, hx, hm, q⟩ := h
  have nd := scCp.nd
  refine ⟨_, pss_cons (ps_if (pt_cmpR op_eq (pv 1) pe_int (nomark _)) (pss_one (ps_ret (pv 0))) pss_nil)
    (pss_cons (ps_if (pt_val (pe_callB call_isi (by rfl) M.isi (by decide +kernel) (pa_cons (pv 0) (pa_cons (pe_bltn (v := .ty "list") (u := .type "list") (by rfl) M.list (by decide +kernel) rfl) pa_nil)))) (pss_one ps_never) pss_nil)
    (pss_cons (ps_if (pt_val (pe_callB call_isi (by rfl) M.isi (by decide +kernel) (pa_cons (pv 0) (pa_cons (pe_bltn (v := .ty "tuple") (u := .type "tuple") (by rfl) M.tuple (by decide +kernel) rfl) pa_nil))))
      (pss_one (ps_ret (pe_callTy call_tuple_of (by rfl) M.tuple (by decide +kernel) (pa_cons (pe_lc (own := [("item", 2)]) (g := gName 2) (tt := tYes) (te := tCall (spCp K n) [] C8.E0 (tCons (tVar 2) (tCons (tSub (tVar 1) (tC (.int 1))) tNil))) rfl nd (pi_tup (pv 0))
        (blkOk_by (own := [("item", 2)]) (N := nCp) (sc := defScope s_copied) (by decide +kernel)) (fun _ _ _ _ _ => pg_name (i := 2) nd rfl (Or.inl rfl)) (fun _ _ _ _ _ => pts_nil) (fun _ _ _ _ _ => C8.pe_c cU hr (Nat.le_refl _) (by rfl) (pa_cons (pv 2) (pa_cons (pe_sub (pv 1) pe_int) pa_nil)))) pa_nil)))) pss_nil)
    (pss_cons (ps_if (pt_val (pe_callB call_isi (by rfl) M.isi (by decide +kernel) (pa_cons (pv 0) (pa_cons (pe_bltn (v := .ty "dict") (u := .type "dict") (by rfl) M.dict (by decide +kernel) rfl) pa_nil)))) (pss_one ps_never) pss_nil)
    (pss_one (ps_ret (pv 0)))))), ?_⟩
  refine ⟨_, rfl, rfl, _, rfl, ?_⟩
  by_cases h0 : d = 0
  · subst h0
    exact iteU (decide_eq_true rfl) ⟨_, rfl, q x H (.refl H) hx⟩
  refine iteE (decide_eq_false (fun z => h0 (by injection z with z; omega))) ?_
  refine ⟨_, rfl, x, .ty "list", _, .type "list", isD "list" t, rfl, .ty _, dp_tyx hx, isk kit_some.2.1, _, rfl, ?_⟩
  match m, t, hm, hx with
  | m + 1, .list _, hm, _ => cases hm
  | m + 1, .dict _, hm, _ => cases hm
  | m + 1, .none, hm, hx => exact iteE (by simp only [isD, tyD]; decide +kernel) ⟨_, rfl, _, .ty "tuple", _, .type "tuple", isD "tuple" _, rfl, .ty _, dp_tyx hx, isk kit_some.2.2.1, _, rfl, iteE (by simp only [isD, tyD]; decide +kernel) ⟨_, rfl, _, .ty "dict", _, .type "dict", isD "dict" _, rfl, .ty _, dp_tyx hx, isk kit_some.1, _, rfl, iteE (by simp only [isD, tyD]; decide +kernel) ⟨_, rfl, q x H (.refl H) hx⟩⟩⟩
  | m + 1, .bool _, hm, hx => exact iteE (by simp only [isD, tyD]; decide +kernel) ⟨_, rfl, _, .ty "tuple", _, .type "tuple", isD "tuple" _, rfl, .ty _, dp_tyx hx, isk kit_some.2.2.1, _, rfl, iteE (by simp only [isD, tyD]; decide +kernel) ⟨_, rfl, _, .ty "dict", _, .type "dict", isD "dict" _, rfl, .ty _, dp_tyx hx, isk kit_some.1, _, rfl, iteE (by simp only [isD, tyD]; decide +kernel) ⟨_, rfl, q x H (.refl H) hx⟩⟩⟩
  | m + 1, .int _, hm, hx => exact iteE (by simp only [isD, tyD]; decide +kernel) ⟨_, rfl, _, .ty "tuple", _, .type "tuple", isD "tuple" _, rfl, .ty _, dp_tyx hx, isk kit_some.2.2.1, _, rfl, iteE (by simp only [isD, tyD]; decide +kernel) ⟨_, rfl, _, .ty "dict", _, .type "dict", isD "dict" _, rfl, .ty _, dp_tyx hx, isk kit_some.1, _, rfl, iteE (by simp only [isD, tyD]; decide +kernel) ⟨_, rfl, q x H (.refl H) hx⟩⟩⟩
  | m + 1, .str _, hm, hx => exact iteE (by simp only [isD, tyD]; decide +kernel) ⟨_, rfl, _, .ty "tuple", _, .type "tuple", isD "tuple" _, rfl, .ty _, dp_tyx hx, isk kit_some.2.2.1, _, rfl, iteE (by simp only [isD, tyD]; decide +kernel) ⟨_, rfl, _, .ty "dict", _, .type "dict", isD "dict" _, rfl, .ty _, dp_tyx hx, isk kit_some.1, _, rfl, iteE (by simp only [isD, tyD]; decide +kernel) ⟨_, rfl, q x H (.refl H) hx⟩⟩⟩
  | m + 1, .tuple ds, hm, hx =>
    refine iteE (by simp only [isD, tyD]; decide +kernel) ⟨_, rfl, _, .ty "tuple", _, .type "tuple", isD "tuple" _, rfl, .ty _, dp_tyx hx, isk kit_some.2.2.1, _, rfl, iteU (by simp only [isD, tyD]; decide +kernel) ?_⟩
    simp only [tupd, Bool.and_eq_true, List.all_eq_true, decide_eq_true_eq] at hm
    obtain ⟨hl, hds⟩ := hm
    cases hx with
    | @tup a xs _ hs hall =>
      have lx := dpall_len hall
      refine ⟨_, rfl, a, rfl, ⟨_, hs⟩, fun D nD => ?_⟩
      refine lc_tup (xs := xs) (fun i H' => ∃ zs : List V, Same H H' ∧ H' D = some (.lst zs) ∧ DpAll K H' zs (ds.take i)) ⟨[], same_new nD _, upd_same, .nil⟩ (fun i H' _ ⟨_, s1, _⟩ => sameT s1 hs) ?_ ?_
      · rintro i v H1 hi ⟨zs, s1, hD, hz⟩
        obtain ⟨di, e1, hv⟩ := dpall_get hall hi
        have hil := (List.getElem?_eq_some_iff.mp e1).1
        refine ⟨rfl, _, rfl, _, rfl, _, _, rfl, rfl, v, d - 1, m, di, ?_, by omega, Dp_same s1 hv, hds di (List.mem_of_getElem? e1), fun u H2 s2 hu => ?_⟩
        · have : ((d : Int) - 1) = ((d - 1 : Nat) : Int) := by omega
          rw [this]
          rfl
        · have tp : Tp H2 (upd H2 D (.lst (zs ++ [u]))) := Tp.upd (s2 _ _ hD) trivial
          have lz := dpall_len hz
          refine ⟨zs, s2 _ _ hD, small1000 (by rw [lz, List.length_take]; omega), zs ++ [u], fun c o hc => ?_, upd_same, ?_⟩
          · rw [upd_ne (ne_of_none hc nD)]
            exact s2 _ _ (s1 _ _ hc)
          · rw [List.take_add_one, e1]
            refine dpall_app ?_ (.cons (tupd_tp tp (hds di (List.mem_of_getElem? e1)) hu) .nil)
            exact tupds_tp tp (fun d hd => hds d (List.mem_of_mem_take hd)) (DpAll_same s2 hz)
      · rintro H1 ⟨zs, s1, hD, hz⟩
        rw [lx, List.take_length] at hz
        refine ⟨D, zs, rfl, .inl ⟨SqL.of hD, fun l nl => ?_⟩⟩
        have g := same_new nl (.tup zs)
        exact q _ _ (s1.trans g) (.tup (SqT.of upd_same) (DpAll_same g hz))
theorem no_cp0 (vs : List V) (H : Hp) (Q : VK) (E : XK) : ¬ spCp K 0 vs H Q E := by
  rintro ⟨x, d, m, t, _, h, _⟩
  omega
theorem copied_cal {f : Addr} {fd : FuncData} (F : CopD K f fd) (b : Binds K fd ["value", "depth"] []) (m : mg "copied" = some (.ref f)) (M : CopM mg) : ∀ n : Nat, C8.Cal P w K mg base n "copied" (spCp K n) []
  | 0 => ⟨f, fd, _, [], ⟨fun vs H Q E h => absurd h (no_cp0 vs H Q E), fun A outer s H args us vs Q E _ _ _ _ h => absurd h (no_cp0 vs H Q E)⟩, m, F.kp, b, .nil⟩
  | n + 1 => ⟨f, fd, _, [], ok_copied F M (copied_cal F b m M n), m, F.kp, b, .nil⟩
end

/-! ### errors of one field: made, raised -/
section
variable {P : Program} {w : World} {K : PySem.W.Frag} {mg : Str → Option Value} {base : Heap}
/-- what the top leaves of such a class -/
structure ErrK (K : PySem.W.Frag) (mg : Str → Option Value) (x : Str) (C fI cG cM cN : Addr) : Prop where
  o : OexC K C
  e : ErrC K C
  iC : PySem.W.findIn K (.ref C) "__init__" = some (some (.ref fI))
  tI : PySem.W.typeIn K (.ref fI) = some (.type "function")
  m : mg x = some (.ref C)
  hx : PySem.W.exmAny K (.ref C) [.ref cG, .ref cM, .ref cN] = some true
/-- __init__(self, value) -/
def spErr (K : PySem.W.Frag) (C : Addr) (n : Str) (e : Ek) : Sp := fun vs H Q _ => ∃ (a : Addr) (x : V) (m : Nat) (t : PyData), vs = [.ref a, x] ∧ H a = some (exo a C none) ∧ Dp K H x t ∧ tupd m t = true ∧
  ∀ v dx H', Dp K H' v t → H' a = some (exo a C (some dx)) → H' dx = some (exd dx [("code", .str e.code), (n, v)]) → H dx = none → (∀ c o, H c = some o → c ≠ a → H' c = some o) → Q .non H'
/-- such an error of the field t is wished for -/
def RaisE (K : PySem.W.Frag) (C : Addr) (e : Ek) (t : PyData) (H : Hp) (E : XK) : Prop := ∀ D fs v H', Same H H' → H' D = some (.xd fs) → ErrIs K C fs e [v] → Dp K H' v t → E (.ref C) (some D) H'
theorem rais_same {C : Addr} {e : Ek} {t : PyData} {H H1 : Hp} {E : XK} (s : Same H H1) (r : RaisE K C e t H E) : RaisE K C e t H1 E := fun D fs v H' s2 => r D fs v H' (s.trans s2)
/-- the reading of raise C(e) -/
theorem rais_mk {x : Str} {C fI cG cM cN : Addr} {n : Str} {e : Ek} {H : Hp} {W : XK} {y : V} {m : Nat} {t : PyData} (M : ErrK K mg x C fI cG cM cN) (ea : e.attrs = [n]) (hn : n ∈ (["code", "value", "at", "line", "most", "path", "name", "user", "reason"] : List Str)) (nc : n ≠ "code") (hy : Dp K H y t) (ht : tupd m t = true) (q : RaisE K C e t H W) :
    [y].length ≤ 1000 ∧ ∀ a, H a = none → spErr K C n e (.ref a :: ([y] ++ [])) (upd H a (exo a C none))
      (fun v H2 => v = .non ∧ ∃ (d : Addr) (fs : List (Str × V)), H2 a = some (exo a C (some d)) ∧ H2 d = some (exd d fs) ∧ H d = none ∧ W (.ref C) (some d) (upd (L2.del H2 a) d (.xd fs))) (fun _ _ _ => False) := by
  refine ⟨(by show 1 ≤ 1000; decide), fun a na => ?_⟩
  have sm := same_new na (exo a C none)
  refine ⟨a, y, m, t, rfl, upd_same, Dp_same sm hy, ht, fun v dx H' hv ha hd nd keep => ⟨rfl, dx, _, ha, hd, upd_free nd, ?_⟩⟩
  have nda : dx ≠ a := fun z => by
    rw [z, upd_same] at nd
    cases nd
  have old : ∀ {c o}, H c = some o → c ≠ a ∧ c ≠ dx := fun {c o} z => ⟨ne_of_none z na, ne_of_none z (upd_free nd)⟩
  have g : Same H (upd (L2.del H' a) dx (.xd [("code", .str e.code), (n, v)])) := fun c o z => by
    obtain ⟨z1, z2⟩ := old z
    rw [upd_ne z2, L2.del_ne z1]
    exact keep c o (sm _ _ z) z1
  have tp : Tp H' (upd (L2.del H' a) dx (.xd [("code", .str e.code), (n, v)])) := fun p xs z => by
    have n1 : p ≠ a := fun e => by
      subst e
      rcases z with z | ⟨o, z⟩
      · exact at_ne ha z exo_tup rfl
      · exact at_ne ha z exo_frz rfl
    have n2 : p ≠ dx := fun e => by
      subst e
      rcases z with z | ⟨o, z⟩
      · exact at_ne hd z exd_tup rfl
      · rw [hd] at z
        have z2 := Option.some.inj z
        unfold exd at z2
        cases z2
    rcases z with z | ⟨o, z⟩
    · exact .inl (by rw [upd_ne n2, L2.del_ne n1]; exact z)
    · exact .inr ⟨o, by rw [upd_ne n2, L2.del_ne n1]; exact z⟩
  refine q dx _ v _ g upd_same ⟨M.e, rfl, ?_⟩ (tupd_tp tp ht hv)
  rw [ea]
  refine .cons ?_ .nil
  show ((("code" : Str), V.str e.code) :: [(n, v)]).lookup n = some v
  rw [L2.lookup_put, if_neg nc, L2.lookup_put, if_pos rfl]
end

section
variable {P : Program} {w : World} {K : PySem.W.Frag} {mg : Str → Option Value} {base : Heap}
theorem scInvalidRow : FnScope ["self", "at"] ["self", "at"] (defScope s_InvalidRow_init) := ⟨rfl, rfl, rfl, by decide +kernel, rfl, by decide +kernel, by decide +kernel⟩
theorem ok_InvalidRow {C f cG cM cN : Addr} {fd : FuncData} (F : Fun K "__init__" "InvalidRow.__init__" s_InvalidRow_init f fd) (M : ErrK K mg "InvalidRow" C f cG cM cN) (cC : C8.Cal P w K mg base 13 "copied" (spCp K 13) [.int 12]) : FnOk P w K mg base CX0 14 f fd ["self", "at"] (spErr K C "at" .row) := by
  refine F.ok scInvalidRow (fun vs H Q E h => ?_) (fun cdv A outer s H vs Q E hr h => ?_)
  · obtain ⟨a, x, m, t, rfl, _⟩ := h
    rfl
  obtain ⟨a, x, m, t, rfl, ha, hx, ht, q⟩ := h
  refine ⟨_, pss_cons (ps_ost (pv 0) (C8.pe_c cC hr (by decide) (by rfl) (pa_cons (pv 1) pa_nil))) (pss_one (ps_ost (pv 0) pe_str)), ?_⟩
  refine ⟨_, rfl, x, 12, m, t, rfl, by decide, hx, ht, fun v H1 s1 hv => ⟨_, rfl, a, C, rfl, M.o, M.e.nf _ (by decide), .inl ⟨s1 _ _ ha, fun dx nd ne => ?_⟩⟩⟩
  have nH : H dx = none := by
    cases z : H dx with
    | none => rfl
    | some o =>
      rw [s1 _ _ z] at nd
      cases nd
  refine ⟨_, rfl, a, C, rfl, M.o, M.e.nf _ (by decide), .inr ⟨dx, [("at", v)], upd_same, by rw [upd_ne ne, upd_same], (by show 1 ≤ 900; decide), ?_⟩⟩
  refine q v dx _ ?_ (by rw [upd_ne ne.symm, upd_same]) upd_same nH (fun c o hc nca => ?_)
  · refine tupd_tp (fun p xs z => ?_) ht hv
    have n1 : p ≠ a := fun e => by
      subst e
      rcases z with z | ⟨o, z⟩
      · exact at_ne (s1 _ _ ha) z exo_tup rfl
      · exact at_ne (s1 _ _ ha) z exo_frz rfl
    have n2 : p ≠ dx := fun e => by
      subst e
      rcases z with z | ⟨o, z⟩ <;> (rw [nd] at z; cases z)
    rcases z with z | ⟨o, z⟩
    · exact .inl (by rw [upd_ne n2, upd_ne n1, upd_ne n2]; exact z)
    · exact .inr ⟨o, by rw [upd_ne n2, upd_ne n1, upd_ne n2]; exact z⟩
  · have n2 : c ≠ dx := ne_of_none hc nH
    rw [upd_ne n2, upd_ne nca, upd_ne n2]
    exact s1 _ _ hc
end

section
variable {P : Program} {w : World} {K : PySem.W.Frag} {mg : Str → Option Value} {base : Heap}
theorem scTooMany : FnScope ["self", "most"] ["self", "most"] (defScope s_TooMany_init) := ⟨rfl, rfl, rfl, by decide +kernel, rfl, by decide +kernel, by decide +kernel⟩
theorem ok_TooMany {C f cG cM cN : Addr} {fd : FuncData} (F : Fun K "__init__" "TooMany.__init__" s_TooMany_init f fd) (M : ErrK K mg "TooMany" C f cG cM cN) (cC : C8.Cal P w K mg base 13 "copied" (spCp K 13) [.int 12]) : FnOk P w K mg base CX0 14 f fd ["self", "most"] (spErr K C "most" .many) := by
  refine F.ok scTooMany (fun vs H Q E h => ?_) (fun cdv A outer s H vs Q E hr h => ?_)
  · obtain ⟨a, x, m, t, rfl, _⟩ := h
    rfl
  obtain ⟨a, x, m, t, rfl, ha, hx, ht, q⟩ := h
  refine ⟨_, pss_cons (ps_ost (pv 0) (C8.pe_c cC hr (by decide) (by rfl) (pa_cons (pv 1) pa_nil))) (pss_one (ps_ost (pv 0) pe_str)), ?_⟩
  refine ⟨_, rfl, x, 12, m, t, rfl, by decide, hx, ht, fun v H1 s1 hv => ⟨_, rfl, a, C, rfl, M.o, M.e.nf _ (by decide), .inl ⟨s1 _ _ ha, fun dx nd ne => ?_⟩⟩⟩
  have nH : H dx = none := by
    cases z : H dx with
    | none => rfl
    | some o =>
      rw [s1 _ _ z] at nd
      cases nd
  refine ⟨_, rfl, a, C, rfl, M.o, M.e.nf _ (by decide), .inr ⟨dx, [("most", v)], upd_same, by rw [upd_ne ne, upd_same], (by show 1 ≤ 900; decide), ?_⟩⟩
  refine q v dx _ ?_ (by rw [upd_ne ne.symm, upd_same]) upd_same nH (fun c o hc nca => ?_)
  · refine tupd_tp (fun p xs z => ?_) ht hv
    have n1 : p ≠ a := fun e => by
      subst e
      rcases z with z | ⟨o, z⟩
      · exact at_ne (s1 _ _ ha) z exo_tup rfl
      · exact at_ne (s1 _ _ ha) z exo_frz rfl
    have n2 : p ≠ dx := fun e => by
      subst e
      rcases z with z | ⟨o, z⟩ <;> (rw [nd] at z; cases z)
    rcases z with z | ⟨o, z⟩
    · exact .inl (by rw [upd_ne n2, upd_ne n1, upd_ne n2]; exact z)
    · exact .inr ⟨o, by rw [upd_ne n2, upd_ne n1, upd_ne n2]; exact z⟩
  · have n2 : c ≠ dx := ne_of_none hc nH
    rw [upd_ne n2, upd_ne nca, upd_ne n2]
    exact s1 _ _ hc
end

section
variable {P : Program} {w : World} {K : PySem.W.Frag} {mg : Str → Option Value} {base : Heap}
theorem scInvalidNumber : FnScope ["self", "value"] ["self", "value"] (defScope s_InvalidNumber_init) := ⟨rfl, rfl, rfl, by decide +kernel, rfl, by decide +kernel, by decide +kernel⟩
theorem ok_InvalidNumber {C f cG cM cN : Addr} {fd : FuncData} (F : Fun K "__init__" "InvalidNumber.__init__" s_InvalidNumber_init f fd) (M : ErrK K mg "InvalidNumber" C f cG cM cN) (cC : C8.Cal P w K mg base 13 "copied" (spCp K 13) [.int 12]) : FnOk P w K mg base CX0 14 f fd ["self", "value"] (spErr K C "value" .number) := by
  refine F.ok scInvalidNumber (fun vs H Q E h => ?_) (fun cdv A outer s H vs Q E hr h => ?_)
  · obtain ⟨a, x, m, t, rfl, _⟩ := h
    rfl
  obtain ⟨a, x, m, t, rfl, ha, hx, ht, q⟩ := h
  refine ⟨_, pss_cons (ps_ost (pv 0) (C8.pe_c cC hr (by decide) (by rfl) (pa_cons (pv 1) pa_nil))) (pss_one (ps_ost (pv 0) pe_str)), ?_⟩
  refine ⟨_, rfl, x, 12, m, t, rfl, by decide, hx, ht, fun v H1 s1 hv => ⟨_, rfl, a, C, rfl, M.o, M.e.nf _ (by decide), .inl ⟨s1 _ _ ha, fun dx nd ne => ?_⟩⟩⟩
  have nH : H dx = none := by
    cases z : H dx with
    | none => rfl
    | some o =>
      rw [s1 _ _ z] at nd
      cases nd
  refine ⟨_, rfl, a, C, rfl, M.o, M.e.nf _ (by decide), .inr ⟨dx, [("value", v)], upd_same, by rw [upd_ne ne, upd_same], (by show 1 ≤ 900; decide), ?_⟩⟩
  refine q v dx _ ?_ (by rw [upd_ne ne.symm, upd_same]) upd_same nH (fun c o hc nca => ?_)
  · refine tupd_tp (fun p xs z => ?_) ht hv
    have n1 : p ≠ a := fun e => by
      subst e
      rcases z with z | ⟨o, z⟩
      · exact at_ne (s1 _ _ ha) z exo_tup rfl
      · exact at_ne (s1 _ _ ha) z exo_frz rfl
    have n2 : p ≠ dx := fun e => by
      subst e
      rcases z with z | ⟨o, z⟩ <;> (rw [nd] at z; cases z)
    rcases z with z | ⟨o, z⟩
    · exact .inl (by rw [upd_ne n2, upd_ne n1, upd_ne n2]; exact z)
    · exact .inr ⟨o, by rw [upd_ne n2, upd_ne n1, upd_ne n2]; exact z⟩
  · have n2 : c ≠ dx := ne_of_none hc nH
    rw [upd_ne n2, upd_ne nca, upd_ne n2]
    exact s1 _ _ hc
end

end Ag

namespace Ag
open PySem PySem.Spec PyProof.Rows L2
/-! ### lambdas of the law and what they come to -/
def lamScB (scope : Scope) (ps : List Str) : Bool := decide (scope.kind = .function) && !scope.isCoroutine && !scope.isGenerator && scope.names.all (fun y => !decide (y.2 = .cell) && (!decide (y.2 = .local) || ps.contains y.1)) && ps.all fun x => decide (scope.names.lookup x = some .local)
theorem lamSc_by {scope : Scope} {ps : List Str} (h : lamScB scope ps = true) : LamSc scope ps := by
  unfold lamScB at h
  simp only [Bool.and_eq_true, Bool.or_eq_true, Bool.not_eq_true', decide_eq_true_eq, decide_eq_false_iff_not, List.all_eq_true] at h
  obtain ⟨⟨⟨⟨h1, h2⟩, h3⟩, h4⟩, h5⟩ := h
  refine ⟨h1, h2, h3, fun y hy => ⟨(h4 y hy).1, fun e => ?_⟩, h5⟩
  rcases (h4 y hy).2 with z | z
  · exact absurd e z
  · exact List.contains_iff_mem.mp z
def freeB (sc scope : Scope) : Bool := scope.names.all fun y => !decide (y.2 = .free) || (decide (sc.names.lookup y.1 = some .cell) || decide (sc.names.lookup y.1 = some .free))
theorem free_by {sc scope : Scope} (h : freeB sc scope = true) : ∀ y ∈ scope.names, y.2 = .free → sc.names.lookup y.1 = some .cell ∨ sc.names.lookup y.1 = some .free := fun y hy e => by
  unfold freeB at h
  simp only [Bool.or_eq_true, Bool.not_eq_true', decide_eq_true_eq, decide_eq_false_iff_not, List.all_eq_true] at h
  rcases h y hy with z | z
  · exact absurd e z
  · exact z
theorem pe_lamA {X : Cx} {c P : Addr} {params : Arguments} {body : Expr} {scope : Scope} {pos : Pos} (TB : LamX.TabB X.base X.mg c P) (hcode : X.env.code = .ref c) (hf : freeB X.env.scope scope = true) (hdef : defaultsOf params X.env = ([], []) := by rfl) :
    PE X (.Lambda params body scope pos) (tLam X P params body scope []) := pe_lam0 TB hcode (fun ok y hy e => ok.has _ (free_by hf y hy e)) hdef
theorem pe_lamB {X : Cx} {c P : Addr} {params : Arguments} {body : Expr} {scope : Scope} {pos pp : Pos} {kk : Nat} {z : Int} (TB : LamX.TabB X.base X.mg c P) (hcode : X.env.code = .ref c) (hf : freeB X.env.scope scope = true)
    (hdef : defaultsOf params X.env = ([eval (.Constant (.int z) kk pp) X.env], []) := by rfl) : PE X (.Lambda params body scope pos) (tLam X P params body scope [.int z]) := pe_lam1 TB hcode (fun ok y hy e => ok.has _ (free_by hf y hy e)) hdef
theorem fx_tp {H H' : Hp} (k : Fx H H') : Tp H H' := fun p xs h => by
  rcases h with h | ⟨o, h⟩
  · exact .inl (k _ _ h (fun _ z => by cases z) (fun _ z => by cases z))
  · exact .inr ⟨o, k _ _ h (fun _ z => by cases z) (fun _ z => by cases z)⟩
section
variable {P : Program} {w : World} {K : PySem.W.Frag} {mg : Str → Option Value} {base : Heap} {cG cM cN : Addr}
/-- the law's def, whose code object is at c -/
theorem okc {x qual : Str} {st : Stmt} {f c : Addr} {fd : FuncData} {N ps : List Str} {k : Nat} {sp : Sp} (F : Fun K x qual st f fd) (hc : fd.code = .ref c) (sc : FnScope N ps (defScope st)) (len : ∀ vs H Q E, sp vs H Q E → vs.length = ps.length)
    (body : ∀ (A : Around) (outer : List Env) (s : Shared) (H : Hp) (vs : List V) (Q : VK) (E : XK), Room k (A.deeper (envOfC qual (defScope st) s.heap.objs.size f (.ref c))) → sp vs H Q E →
      ∃ t, PSs (cxOf L2.CX0 P w K mg base N qual (defScope st) f (.ref c) A outer s H E).nox (defBody st) t ∧ t { nx := fun _ H' => Q .non H', rt := Q } (L2.start N vs) H) : FnOk P w K mg base L2.CX0 (k + 1) f fd ps sp := by
  obtain ⟨oc, od, kV, doc, pm, an, cdv, ct, osl, rfl, look, code⟩ := F.ex
  have e : cdv = .ref c := hc
  subst e
  refine fn_of look code sc len fun A outer s H vs Q E room h => ?_
  obtain ⟨t, ht, q⟩ := body A outer s H vs Q E room h
  exact ⟨t, ht.nox, q⟩
theorem dpall_ix {H : Hp} : ∀ {rs : List V} {ds : List PyData}, rs.length = ds.length → (∀ (i : Nat) (v : V) (d : PyData), rs[i]? = some v → ds[i]? = some d → Dp K H v d) → DpAll K H rs ds
  | [], [], _, _ => .nil
  | v :: r, d :: t, e, h => .cons (h 0 v d rfl rfl) (dpall_ix (by simpa using e) fun i v d h1 h2 => h (i + 1) v d (by simpa using h1) (by simpa using h2))
  | [], _ :: _, e, _ => by cases e
  | _ :: _, [], e, _ => by cases e
theorem tries_read {a : Addr} {fs : List Addr} {ds : List PyData} {k n : Nat} {l : Pins} {H1 : Hp} {Q : VK} (nl : ∀ b o, l.lookup b = some o → H1 b = none) (ha : SqL K H1 a (fs.map V.ref)) (hl : fs.length ≤ 100) (ld : ds.length = fs.length) (td : ∀ d ∈ ds, tupd n d = true)
    (told : ∀ (i : Nat) (f : Addr) (d : PyData), fs[i]? = some f → ds[i]? = some d → ∀ H2, Same (addp H1 l) H2 → Told P w K mg base cG cM cN k f H2 (fun v H3 => Same H2 H3 ∧ Dp K H3 v d))
    (q : ∀ p rs H2, Same H1 H2 → H1 p = none → H2 p = some (.lst rs) → DpAll K H2 rs ds → Q (.ref p) H2) :
    spTries P w K mg base cG cM cN k [.ref a] (addp H1 l) (fun v H2 => (∀ b o, l.lookup b = some o → H2 b = some (pinO b o)) ∧ Q v (remp H2 l)) L2.E0 := by
  refine ⟨a, fs, fun i v H => ∀ d, ds[i]? = some d → Dp K H v d, rfl, (add_same nl).seq ha, hl, fun i v H2 H3 h1 fx d hd => tupd_tp (fx_tp fx) (td d (List.mem_of_getElem? hd)) (h1 d hd), fun i f hf H2 s2 => ?_, fun p rs H2 s2 np hp lr hr => ?_⟩
  · have hi := (List.getElem?_eq_some_iff.mp hf).1
    have hd : ds[i]? = some (ds[i]'(by omega)) := List.getElem?_eq_getElem (by omega)
    refine (told i f _ hf hd H2 s2).imp (fun v H3 h t H4 s4 n4 h4 => ?_) (fun c d H3 ⟨C, D, fs2, e, ws, e1, e2, e3, e4, e5, e6⟩ => ⟨C, D, fs2, e, ws, e1, e2, e3, e4, e5, fun t u H4 s4 n4 h4 h5 => ?_⟩)
    · obtain ⟨y1, y2⟩ := h t H4 s4 n4 h4
      exact ⟨y1, fun d' hd' => by rw [hd] at hd'; cases hd'; exact y2⟩
    · obtain ⟨y1, y2⟩ := e6 t u H4 s4 n4 h4 h5
      exact ⟨y1, fun d' hd' => by rw [hd] at hd'; cases hd'; exact y2⟩
  · have pin : ∀ b o, l.lookup b = some o → H2 b = some (pinO b o) := fun b o z => s2 _ _ (addp_in z)
    have np2 := addp_none np
    refine ⟨pin, q p rs _ (same_rem s2 nl) np2.2 (by rw [remp_out np2.1]; exact hp) (dpall_ix (by rw [lr, ld]) fun i v d h1 h2 => ?_)⟩
    refine tupd_tp (fun p2 xs z => ?_) (td d (List.mem_of_getElem? h2)) (hr i v h1 d h2)
    have out : l.lookup p2 = none := by
      cases y : l.lookup p2 with
      | none => rfl
      | some o =>
        rcases z with z | ⟨o2, z⟩
        · rw [pin p2 o y] at z
          exact absurd (Option.some.inj z) pin_tup
        · rw [pin p2 o y] at z
          exact absurd (Option.some.inj z) pin_frz
    rcases z with z | ⟨o2, z⟩
    · exact .inl (by rw [remp_out out]; exact z)
    · exact .inr ⟨o2, by rw [remp_out out]; exact z⟩
theorem tries_read2 {a : Addr} {fs : List Addr} {ds : List PyData} {k n : Nat} {l : Pins} {H1 : Hp} {Q : VK} (nl : ∀ b o, l.lookup b = some o → H1 b = none) (ha : SqL K H1 a (fs.map V.ref)) (hl : fs.length ≤ 100) (ld : ds.length = fs.length) (td : ∀ d ∈ ds, tupd n d = true)
    (told : ∀ (i : Nat) (f : Addr) (d : PyData), fs[i]? = some f → ds[i]? = some d → ∀ H2, Same (addp H1 l) H2 → Told P w K mg base cG cM cN k f H2 (fun v H3 => Same H2 H3 ∧ Dp K H3 v d))
    (q : ∀ p rs H2 H3, H3 = remp H2 l → (∀ b o, l.lookup b = some o → H2 b = some (pinO b o)) → Same H1 H3 → H1 p = none → H3 p = some (.lst rs) → DpAll K H3 rs ds → Q (.ref p) H2) :
    spTries P w K mg base cG cM cN k [.ref a] (addp H1 l) Q L2.E0 := by
  obtain ⟨a', fs', R, e, h1, h2, h3, h4, h5⟩ := tries_read (Q := fun v H3 => ∃ p rs, v = .ref p ∧ Same H1 H3 ∧ H1 p = none ∧ H3 p = some (.lst rs) ∧ DpAll K H3 rs ds) nl ha hl ld td told (fun p rs H2 s2 np hp hr => ⟨p, rs, rfl, s2, np, hp, hr⟩)
  refine ⟨a', fs', R, e, h1, h2, h3, h4, fun p rs H' y1 y2 y3 y4 y5 => ?_⟩
  obtain ⟨pin, p', rs', e2, z1, z2, z3, z4⟩ := h5 p rs H' y1 y2 y3 y4 y5
  cases e2
  exact q p rs' H' _ rfl pin z1 z2 z3 z4
theorem try_read2 {f : Addr} {d : PyData} {k n : Nat} {l : Pins} {H1 : Hp} {Q : VK} (nl : ∀ b o, l.lookup b = some o → H1 b = none) (td : tupd n d = true) (told : ∀ H2, Same (addp H1 l) H2 → Told P w K mg base cG cM cN k f H2 (fun v H3 => Same H2 H3 ∧ Dp K H3 v d))
    (q : ∀ v H2 H3, H3 = remp H2 l → (∀ b o, l.lookup b = some o → H2 b = some (pinO b o)) → Same H1 H3 → Dp K H3 v d → Q v H2) : spTry P w K mg base cG cM cN k [.ref f] (addp H1 l) Q L2.E0 := by
  have fin : ∀ v H3, Same (addp H1 l) H3 ∧ Dp K H3 v d → Q v H3 := fun v H3 ⟨s, hv⟩ => by
    have pin : ∀ b o, l.lookup b = some o → H3 b = some (pinO b o) := fun b o z => s _ _ (addp_in z)
    refine q v H3 _ rfl pin (same_rem s nl) (tupd_tp (fun p2 xs z => ?_) td hv)
    have out : l.lookup p2 = none := by
      cases y : l.lookup p2 with
      | none => rfl
      | some o =>
        rcases z with z | ⟨o2, z⟩
        · rw [pin p2 o y] at z
          exact absurd (Option.some.inj z) pin_tup
        · rw [pin p2 o y] at z
          exact absurd (Option.some.inj z) pin_frz
    rcases z with z | ⟨o2, z⟩
    · exact .inl (by rw [remp_out out]; exact z)
    · exact .inr ⟨o2, by rw [remp_out out]; exact z⟩
  exact ⟨f, rfl, (told _ (.refl _)).imp (fun v H3 h t H4 s4 n4 h4 => fin _ _ (h t H4 s4 n4 h4)) (fun c dd H3 ⟨C, D, fs2, e, ws, e1, e2, e3, e4, e5, e6⟩ => ⟨C, D, fs2, e, ws, e1, e2, e3, e4, e5, fun t u H4 s4 n4 h4 h5 => fin _ _ (e6 t u H4 s4 n4 h4 h5)⟩)⟩
/-- the heap of a lambda's body -/
theorem rem_of {H1 H2 : Hp} {l : Pins} (nl : ∀ b o, l.lookup b = some o → H1 b = none) (s : Same (addp H1 l) H2) : (∀ b o, l.lookup b = some o → H2 b = some (pinO b o)) ∧ Same H1 (remp H2 l) := ⟨fun b o z => s _ _ (addp_in z), same_rem s nl⟩
theorem told_val {H2 H3 H4 : Hp} {l : Pins} {t : Addr} {v : V} {dv : PyData} (hp : ∀ b o, l.lookup b = some o → H2 b = some (pinO b o)) (s : Same (remp H2 l) H3) (hv : Dp K H3 v dv) (n3 : ∀ b o, l.lookup b = some o → H3 b = none) (s4 : Same (addp H3 l) H4) (ht : H4 t = some (.tup [.str "", v])) :
    Same H2 H4 ∧ Dp K H4 (.ref t) (.tuple [.str "", dv]) := ⟨(same_add s hp).trans s4, .tup (SqT.of ht) (.cons (.str _) (.cons (Dp_same ((add_same n3).trans s4) hv) .nil))⟩
theorem told_err {H2 : Hp} {l : Pins} {x : Str} {C fI : Addr} {e : Ek} {t : PyData} (M : ErrK K mg x C fI cG cM cN) (hp : ∀ b o, l.lookup b = some o → H2 b = some (pinO b o)) :
    RaisE K C e t (remp H2 l) (fun cls d H3 => (∀ b o, l.lookup b = some o → H3 b = none) → ∃ (C' D : Addr) (fs : List (Str × V)) (e' : Ek) (ws : List V), cls = .ref C' ∧ d = some D ∧ ErrIs K C' fs e' ws ∧ PySem.W.exmAny K (.ref C') [.ref cG, .ref cM, .ref cN] = some true ∧ (addp H3 l) D = some (.xd fs) ∧
      ∀ t' u H4, Same (addp H3 l) H4 → (addp H3 l) t' = none → H4 u = some (.tup ws) → H4 t' = some (.tup [.str e'.code, .ref u]) → Same H2 H4 ∧ Dp K H4 (.ref t') (.tuple [.str e.code, .tuple [t]])) := fun D fs v H3 s hD E hv n3 =>
  ⟨C, D, fs, e, [v], rfl, rfl, E, M.hx, add_same n3 _ _ hD, fun t' u H4 s4 _ hu ht => ⟨(same_add s hp).trans s4, .tup (SqT.of ht) (.cons (.str _) (.cons (.tup (SqT.of hu) (.cons (Dp_same ((add_same n3).trans s4) hv) .nil)) .nil))⟩⟩
end

/-! ### is_leaf, is_built of data of any kind -/
def odk : Nat → PyData → Bool
  | 0, _ => false
  | n + 1, .tuple ds => decide (ds.length ≤ 1000) && ds.all (odk n)
  | n + 1, .list ds => decide (ds.length ≤ 1000) && ds.all (odk n)
  | _ + 1, .str s => decide (s.cps.toList.length ≤ 1000)
  | _ + 1, .dict _ => false
  | _ + 1, _ => true
def nmB : PyData → Bool
  | .str s => isNm s.cps.toList
  | _ => false
def ltB : PyData → Bool
  | .str s => isLet s.cps.toList
  | _ => false
def vOf : PyData → Option V
  | .none => some .non
  | .bool b => some (.bl b)
  | .int i => some (.int i)
  | .str s => some (.str s)
  | _ => none
def leafB (h : Bool) (a b : PyData) : Bool := if PyData.eqv a (.str "atom") = true then nmB b else h && (PyData.eqv a (.str "hole") && ltB b)
def jnV (x : V) : Bool := inV x [.str "then", .str "and", .str "or"]
def bD : Nat → Bool → PyData → Option Bool
  | 0, _, _ => some false
  | n + 1, h, .tuple [a, b, c] => match vOf a with
    | none => none
    | some x => if jnV x = true then (match bD n h b, bD n h c with
      | some y, some z => some (y && z)
      | _, _ => none) else some false
  | _ + 1, h, .tuple [a, b] => some (leafB h a b)
  | _ + 1, _, .tuple ds => some (PyData.eqv (.tuple ds) (.tuple [.str "false"]))
  | _ + 1, _, _ => some false
section
variable {K : PySem.W.Frag} {H : Hp}
theorem S_of (s : Str) : SX.S s.cps.toList = s := TL.ext_tl rfl
theorem nm_of {n : Nat} {v : V} {d : PyData} (hd : Dp K H v d) (ok : odk n d = true) : NameIs K H v (nmB d) := by
  cases n with
  | zero => cases ok
  | succ n =>
    cases d with
    | str s =>
      cases hd
      exact .inl ⟨s.cps.toList, by rw [S_of], of_decide_eq_true ok, rfl⟩
    | dict _ => cases ok
    | _ => exact .inr ⟨⟨_, dp_tyx hd, kit_ty (by simp only [tyD]; decide +kernel)⟩, rfl⟩
theorem let_of {n : Nat} {v : V} {d : PyData} (hd : Dp K H v d) (ok : odk n d = true) : LetIs K H v (ltB d) := by
  cases n with
  | zero => cases ok
  | succ n =>
    cases d with
    | str s =>
      cases hd
      exact .inl ⟨s.cps.toList, by rw [S_of], of_decide_eq_true ok, rfl⟩
    | dict _ => cases ok
    | _ => exact .inr ⟨⟨_, dp_tyx hd, kit_ty (by simp only [tyD]; decide +kernel)⟩, rfl⟩
theorem v_of {v x : V} {d : PyData} (hd : Dp K H v d) (e : vOf d = some x) : v = x ∧ flatV x = true := by
  cases hd <;> (first | (cases e; exact ⟨rfl, rfl⟩) | cases e)
theorem shp_tup {ds : List PyData} (h : SeqAt.shaped (.tuple ds) = true) : ∀ d ∈ ds, SeqAt.shaped d = true := by
  unfold SeqAt.shaped at h ⊢
  rw [Bool.and_eq_true] at h
  obtain ⟨h1, h2⟩ := h
  have h1' : PyData.canLayAll0 ds = true := h1
  have h2' : PyData.depthAll ds + 1 ≤ 64 := of_decide_eq_true h2
  clear h1 h2
  intro d hd
  have key : PyData.canLay0 d = true ∧ PyData.depth d ≤ PyData.depthAll ds := by
    clear h2'
    induction ds with
    | nil => cases hd
    | cons a r ih =>
      have q : (PyData.canLay0 a && PyData.canLayAll0 r) = true := h1'
      rw [Bool.and_eq_true] at q
      have m : PyData.depthAll (a :: r) = max (PyData.depth a) (PyData.depthAll r) := rfl
      rcases List.mem_cons.mp hd with rfl | hd
      · exact ⟨q.1, by omega⟩
      · obtain ⟨i1, i2⟩ := ih q.2 hd
        exact ⟨i1, by omega⟩
  rw [key.1, Bool.true_and]
  exact decide_eq_true (by omega)
end
section
variable {P : Program} {w : World} {K : PySem.W.Frag} {mg : Str → Option Value} {base : Heap}
theorem dp_two {H : Hp} {v : V} {a b : PyData} (h : Dp K H v (.tuple [a, b])) : ∃ p x y, v = .ref p ∧ SqT K H p [x, y] ∧ Dp K H x a ∧ Dp K H y b := by
  cases h with
  | tup q r =>
    cases r with
    | cons r1 r2 =>
      cases r2 with
      | cons r3 r4 =>
        cases r4
        exact ⟨_, _, _, rfl, q, r1, r3⟩
theorem dp_three {H : Hp} {v : V} {a b c : PyData} (h : Dp K H v (.tuple [a, b, c])) : ∃ p x y z, v = .ref p ∧ SqT K H p [x, y, z] ∧ Dp K H x a ∧ Dp K H y b ∧ Dp K H z c := by
  cases h with
  | tup q r =>
    cases r with
    | cons r1 r2 =>
      cases r2 with
      | cons r3 r4 =>
        cases r4 with
        | cons r5 r6 =>
          cases r6
          exact ⟨_, _, _, _, rfl, q, r1, r3, r5⟩
def spLeafD (K : PySem.W.Frag) : Sp := fun vs H Q _ => ∃ (x : V) (h : Bool) (a b : PyData) (n : Nat), vs = [x, .bl h] ∧ Dp K H x (.tuple [a, b]) ∧ odk n (.tuple [a, b]) = true ∧ SeqAt.shaped (.tuple [a, b]) = true ∧ ∀ H', Same H H' → Q (.bl (leafB h a b)) H'
theorem ok_leafD {f : Addr} {fd : FuncData} (F : Fun K "is_leaf" "is_leaf" s_is_leaf f fd) (cN : C8.Cal P w K mg base 2 "is_name" (spName K) []) (cL : C8.Cal P w K mg base 1 "is_letter" (spLetter K) []) : FnOk P w K mg base CX0 3 f fd ["value", "holes"] (spLeafD K) := by
  refine F.ok scLeaf (fun vs H Q E h => ?_) (fun cdv A outer s H vs Q E hr h => ?_)
  · obtain ⟨x, h, a, b, n, rfl, _⟩ := h
    rfl
  obtain ⟨x, h, a, b, n, rfl, hx, ho, hsh, q⟩ := h
  have hu : (Around.units (A.deeper (envOfC ("is_leaf" : Str) (defScope s_is_leaf) s.heap.objs.size f cdv))) + 64 < cLine := hr.units
  refine ⟨_, pss_cons (ps_if (pt_cmpR (op_eqD hr.units) (pe_ix ix_tup (pv 0) pe_int (fun _ _ => rfl)) pe_str (nomark _)) (pss_one (ps_ret (C8.pe_c cN hr (by decide) (by rfl) (pa_cons (pe_ix ix_tup (pv 0) pe_int (fun _ _ => rfl)) pa_nil)))) pss_nil)
    (pss_one (ps_ret (pe_and (pv 1) (pe_and (pe_cmpR (op_eqD hr.units) (pe_ix ix_tup (pv 0) pe_int (fun _ _ => rfl)) pe_str (nomark _)) (pe_one (C8.pe_c cL hr (by decide) (by rfl) (pa_cons (pe_ix ix_tup (pv 0) pe_int (fun _ _ => rfl)) pa_nil))))))), ?_⟩
  obtain ⟨p, x0, x1, rfl, sp, h0, h1⟩ := dp_two hx
  have sh := shp_tup hsh
  obtain ⟨n, rfl⟩ : ∃ m, n = m + 1 := by
    cases n with
    | zero => cases ho
    | succ m => exact ⟨m, rfl⟩
  have ob : odk n b = true := by
    simp only [odk, Bool.and_eq_true, List.all_eq_true] at ho
    exact ho.2 b (by simp)
  refine ⟨_, rfl, p, _, _, _, rfl, rfl, sp, rfl, a, .str "atom", h0, .str _, sh a (by simp), by decide +kernel, _, rfl, ?_⟩
  by_cases e : PyData.eqv a (.str "atom") = true
  · refine iteU e ?_
    refine ⟨_, rfl, p, _, _, _, rfl, rfl, sp, rfl, x1, nmB b, rfl, nm_of h1 ob, fun H' s' => ?_⟩
    have := q H' s'
    unfold leafB at this
    rw [if_pos e] at this
    exact this
  · have e' : PyData.eqv a (.str "atom") = false := by simpa using e
    have q' := q H (.refl H)
    unfold leafB at q'
    rw [if_neg e] at q'
    refine iteE e' ⟨_, rfl, h, rfl, ?_⟩
    cases h with
    | false => exact q'
    | true =>
      rw [Bool.true_and] at q'
      refine ⟨_, rfl, p, _, _, _, rfl, rfl, sp, rfl, a, .str "hole", h0, .str _, sh a (by simp), by decide +kernel, _, rfl, ?_⟩
      by_cases e2 : PyData.eqv a (.str "hole") = true
      · rw [e2, Bool.true_and] at q'
        exact iteU e2 ⟨_, rfl, p, _, _, _, rfl, rfl, sp, rfl, x1, ltB b, rfl, let_of h1 ob, q'⟩
      · have e3 : PyData.eqv a (.str "hole") = false := by simpa using e2
        rw [e3, Bool.false_and] at q'
        exact iteE e3 q'
def spBuiltD (K : PySem.W.Frag) (n : Nat) : Sp := fun vs H Q _ => ∃ (x : V) (d m : Nat) (h r : Bool) (t : PyData), vs = [x, .int (d : Int), .bl h] ∧ Dp K H x t ∧ odk m t = true ∧ SeqAt.shaped t = true ∧ d < n ∧ bD d h t = some r ∧ ∀ H', Same H H' → Q (.bl r) H'
theorem ok_builtD {n : Nat} {f : Addr} {fd : FuncData} (F : Fun K "is_built" "is_built" s_is_built f fd) (cL : C8.Cal P w K mg base 3 "is_leaf" (spLeafD K) []) (cB : C8.Cal P w K mg base (n + 3) "is_built" (spBuiltD K n) []) (M : BuiltM K mg) : FnOk P w K mg base CX0 (n + 4) f fd ["value", "depth", "holes"] (spBuiltD K (n + 1)) := by
  refine F.ok scBuilt (fun vs H Q E h => ?_) (fun cdv A outer s H vs Q E hr h => ?_)
  · obtain ⟨x, d, m, h, r, t, rfl, _⟩ := h
    rfl
  obtain ⟨x, d, m, h, r, t, rfl, hx, ho, hsh, hd, hb, q⟩ := h
  have nd := scBuilt.nd
  obtain ⟨aJ, mJ, hJ⟩ := M.joints
  refine ⟨_, pss_cons (ps_if (PW.pt (pw_or (pt_cmpR op_eq (pv 1) pe_int (nomark _)) (pw_or1 (pt_not (pt_val (pe_callB call_isi (by rfl) M.isi (by decide +kernel) (pa_cons (pv 0) (pa_cons (pe_bltn (v := .ty "tuple") (u := .type "tuple") (by rfl) M.tuple (by decide +kernel) rfl) pa_nil)))))))) (pss_one (ps_ret pe_bl)) pss_nil)
    (pss_cons (ps_if (pt_cmpR op_eq (pe_callB call_len_seq (by rfl) M.len boot_len (pa_cons (pv 0) pa_nil)) pe_int (nomark _))
      (pss_one (ps_ret (pe_and (pe_cmpR op_in_seq (pe_ix ix_tup (pv 0) pe_int (fun _ _ => rfl)) (pe_glob (v := .ref aJ) (by rfl) mJ rfl) (by with_unfolding_all rfl)) (pe_one (pe_callB (cr_all rfl) (by rfl) M.all (by decide +kernel) (pa_cons (pe_lc (own := [("side", 3)]) (g := gName 3) (tt := tYes) rfl nd (pi_tup (pe_slice sl_tup (pv 0) (po_some pe_int) po_none))
        (blkOk_by (own := [("side", 3)]) (N := nBuilt) (sc := defScope s_is_built) (by decide +kernel)) (fun _ _ _ _ _ => pg_name (i := 3) nd rfl (Or.inl rfl)) (fun _ _ _ _ _ => pts_nil) (fun _ _ _ _ _ => C8.pe_c cB hr (Nat.le_refl _) (by rfl) (pa_cons (pv 3) (pa_cons (pe_op op_sub (pv 1) pe_int) (pa_cons (pv 2) pa_nil))))) pa_nil)))))) pss_nil)
    (pss_cons (ps_if (pt_cmpR op_eq (pe_callB call_len_seq (by rfl) M.len boot_len (pa_cons (pv 0) pa_nil)) pe_int (nomark _)) (pss_one (ps_ret (C8.pe_c cL hr (by omega) (by rfl) (pa_cons (pv 0) (pa_cons (pv 2) pa_nil))))) pss_nil)
    (pss_one (ps_ret (pe_cmpR (op_eqD hr.units) (pv 0) (pe_tup (pa_cons pe_str pa_nil)) (nomark _)))))), ?_⟩
  refine ⟨_, rfl, rfl, _, rfl, ?_⟩
  cases d with
  | zero =>
    have e : some false = some r := hb
    cases e
    exact iteU (decide_eq_true rfl) (iteT (q H (.refl H)))
  | succ d' =>
    have hdd : decide (V.int ((d' + 1 : Nat) : Int) = V.int 0) = false := decide_eq_false (fun z => by injection z with z; omega)
    refine iteE hdd ?_
    refine ⟨_, rfl, x, .ty "tuple", _, .type "tuple", isD "tuple" t, rfl, .ty _, dp_tyx hx, isk kit_some.2.2.1, _, rfl, ?_⟩
    cases m with
    | zero => cases ho
    | succ m =>
    cases t with
    | dict _ => cases ho
    | tuple ds =>
      have eT : isD "tuple" (.tuple ds) = true := by simp only [isD, tyD]; decide +kernel
      rw [eT]
      refine iteE rfl ?_
      have ods : ∀ d ∈ ds, odk m d = true := by
        simp only [odk, Bool.and_eq_true, List.all_eq_true] at ho
        exact ho.2
      have sds := shp_tup hsh
      have l1000 : ds.length ≤ 1000 := by
        simp only [odk, Bool.and_eq_true, decide_eq_true_eq] at ho
        exact ho.1
      cases hx with
      | @tup p xs _ hs hall =>
      have lx := dpall_len hall
      refine ⟨_, rfl, p, _, rfl, .inr hs, rfl, _, rfl, ?_⟩
      by_cases h3 : ds.length = 3
      · obtain ⟨a, b, c, rfl⟩ : ∃ a b c, ds = [a, b, c] := by
          match ds, h3 with
          | [a, b, c], _ => exact ⟨a, b, c, rfl⟩
        obtain ⟨p', x0, x1, x2, e, hs', h0, h1, h2⟩ := dp_three (.tup hs hall)
        cases e
        refine iteU (by rw [lx]; rfl) ?_
        cases ev : vOf a with
        | none =>
          unfold bD at hb
          rw [ev] at hb
          cases hb
        | some y =>
          obtain ⟨rfl, fl⟩ := v_of h0 ev
          refine ⟨_, rfl, p, _, _, _, rfl, rfl, hs', rfl, aJ, _, rfl, .inr (hJ H), fl, rfl, _, rfl, ?_⟩
          have hb2 : (if jnV x0 = true then (match bD d' h b, bD d' h c with
            | some y, some z => some (y && z)
            | _, _ => none) else some false) = some r := by
            have hb1 := hb
            unfold bD at hb1
            rw [ev] at hb1
            exact hb1
          by_cases ej : jnV x0 = true
          · rw [if_pos ej] at hb2
            refine iteU ej ?_
            cases eb : bD d' h b with
            | none => rw [eb] at hb2; cases hb2
            | some rb =>
              cases ec : bD d' h c with
              | none => rw [eb, ec] at hb2; cases hb2
              | some rc =>
                rw [eb, ec] at hb2
                have er : (rb && rc) = r := Option.some.inj hb2
                refine ⟨_, rfl, 1, rfl, p, _, rfl, hs', (by show ¬ (1 = 0 ∧ _); omega), fun u nu => ?_⟩
                have g1 := same_new nu (.tup (cutV [x0, x1, x2] (some 1) none))
                have ecut : cutV [x0, x1, x2] (some 1) none = [x1, x2] := rfl
                rw [ecut] at g1 ⊢
                refine ⟨u, rfl, ⟨_, SqT.of upd_same⟩, fun D nD => ?_⟩
                have g2 := same_new nD (.lst [])
                refine lc_tup (K := K) (a := u) (xs := [x1, x2]) (fun i H' => Same (upd H u (.tup [x1, x2])) H' ∧ H' D = some (.lst ((([rb, rc] : List Bool).take i).map V.bl))) ⟨g2, upd_same⟩ (fun i H' _ pv => SqT.of (pv.1 _ _ upd_same)) ?_ ?_
                · rintro i v H1 hv ⟨s1, hD⟩
                  obtain ⟨t', rr, ft, ot, st, et, hbi⟩ : ∃ t' rr, Dp K H1 v t' ∧ odk m t' = true ∧ SeqAt.shaped t' = true ∧ bD d' h t' = some rr ∧ ([rb, rc] : List Bool)[i]? = some rr := by
                    match i, hv with
                    | 0, hv => cases hv; exact ⟨b, rb, Dp_same (g1.trans s1) h1, ods b (by simp), sds b (by simp), eb, rfl⟩
                    | 1, hv => cases hv; exact ⟨c, rc, Dp_same (g1.trans s1) h2, ods c (by simp), sds c (by simp), ec, rfl⟩
                    | i + 2, hv => simp at hv
                  have hi2 : i < 2 := (List.getElem?_eq_some_iff.mp hv).1
                  refine ⟨rfl, ?_⟩
                  refine ⟨_, rfl, _, rfl, _, _, rfl, rfl, _, rfl, v, d', m, h, rr, t', ?_, ft, ot, st, by omega, et, fun H2 s2 => ?_⟩
                  · have e : ((d' + 1 : Nat) : Int) - 1 = (d' : Int) := by omega
                    show [v, V.int (((d' + 1 : Nat) : Int) - 1), V.bl h] = _
                    rw [e]
                  · refine ⟨_, s2 _ _ hD, (by rw [List.length_map, List.length_take]; exact small1000 (by omega)), fun c o hc => ?_, ?_⟩
                    · rw [upd_ne (ne_of_none hc nD)]
                      exact s2 _ _ (s1 _ _ hc)
                    · rw [upd_same, List.take_add_one, hbi, List.map_append]
                      rfl
                · rintro H1 ⟨s1, hD⟩
                  refine ⟨D, [rb, rc], rfl, SqL.of hD, ?_⟩
                  have e : ([rb, rc] : List Bool).all id = r := by
                    rw [← er]
                    show (rb && (rc && true)) = (rb && rc)
                    rw [Bool.and_true]
                  rw [e]
                  exact q _ (g1.trans s1)
          · rw [if_neg ej] at hb2
            have er : false = r := Option.some.inj hb2
            have ej' : jnV x0 = false := by simpa using ej
            refine iteE ej' ?_
            rw [er]
            exact q H (.refl H)
      · refine iteE (decide_eq_false (fun z => by injection z with z; omega)) ⟨_, rfl, p, _, rfl, .inr hs, rfl, _, rfl, ?_⟩
        by_cases h2 : ds.length = 2
        · obtain ⟨a, b, rfl⟩ : ∃ a b, ds = [a, b] := by
            match ds, h2 with
            | [a, b], _ => exact ⟨a, b, rfl⟩
          have er : some (leafB h a b) = some r := hb
          refine iteU (by rw [lx]; rfl) ⟨_, rfl, _, rfl, _, h, a, b, m + 1, rfl, .tup hs hall, ho, hsh, ?_⟩
          rw [Option.some.inj er]
          exact q
        · have er : r = PyData.eqv (.tuple ds) (.tuple [.str "false"]) := by
            match ds, h3, h2, hb with
            | [], _, _, hb => exact (Option.some.inj hb).symm
            | [_], _, _, hb => exact (Option.some.inj hb).symm
            | [_, _], _, h, _ => exact absurd rfl h
            | [_, _, _], h, _, _ => exact absurd rfl h
            | _ :: _ :: _ :: _ :: _, _, _, hb => exact (Option.some.inj hb).symm
          refine iteE (decide_eq_false (fun z => by injection z with z; omega)) ⟨_, rfl, (by show 1 ≤ sizeLine; decide), fun u nu => ?_⟩
          have g1 := same_new nu (.tup [.str "false"])
          refine ⟨.tuple ds, .tuple [.str "false"], Dp_same g1 (.tup hs hall), .tup (SqT.of upd_same) (.cons (.str _) .nil), hsh, by decide +kernel, ?_⟩
          rw [← er]
          exact q _ g1
    | none =>
      have e : some false = some r := hb
      cases e
      exact iteU (by simp only [isD, tyD]; decide +kernel) (q H (.refl H))
    | bool _ =>
      have e : some false = some r := hb
      cases e
      exact iteU (by simp only [isD, tyD]; decide +kernel) (q H (.refl H))
    | int _ =>
      have e : some false = some r := hb
      cases e
      exact iteU (by simp only [isD, tyD]; decide +kernel) (q H (.refl H))
    | str _ =>
      have e : some false = some r := hb
      cases e
      exact iteU (by simp only [isD, tyD]; decide +kernel) (q H (.refl H))
    | list _ =>
      have e : some false = some r := hb
      cases e
      exact iteU (by simp only [isD, tyD]; decide +kernel) (q H (.refl H))
theorem no_builtD0 (vs : List V) (H : Hp) (Q : VK) (E : XK) : ¬ spBuiltD K 0 vs H Q E := by
  rintro ⟨x, d, m, h, r, t, _, _, _, _, h0, _⟩
  omega
theorem builtD_cal {f : Addr} {fd : FuncData} (D : Df K mg "is_built" s_is_built ["value", "depth", "holes"] f fd) (cL : C8.Cal P w K mg base 3 "is_leaf" (spLeafD K) []) (M : BuiltM K mg) : ∀ n : Nat, C8.Cal P w K mg base (n + 3) "is_built" (spBuiltD K n) []
  | 0 => D.cal ⟨fun vs H Q E h => absurd h (no_builtD0 vs H Q E), fun A outer s H args us vs Q E _ _ _ _ h => absurd h (no_builtD0 vs H Q E)⟩
  | n + 1 => D.cal (ok_builtD D.fn cL (builtD_cal D cL M n) M)
end

end Ag

namespace Ag
open PySem PySem.Spec PyProof.Rows L2
/-! ### data whose lists stand at addresses of a kind -/
mutual
inductive DpN (K : PySem.W.Frag) (N : Addr → Prop) (H : Hp) : V → PyData → Prop
  | non : DpN K N H .non .none
  | bl (b : Bool) : DpN K N H (.bl b) (.bool b)
  | int (i : Int) : DpN K N H (.int i) (.int i)
  | str (s : Str) : DpN K N H (.str s) (.str s)
  | lst {a : Addr} {xs : List V} {ds : List PyData} : H a = some (.lst xs) → N a → DpNs K N H xs ds → DpN K N H (.ref a) (.list ds)
  | tup {a : Addr} {xs : List V} {ds : List PyData} : SqT K H a xs → DpNs K N H xs ds → DpN K N H (.ref a) (.tuple ds)
inductive DpNs (K : PySem.W.Frag) (N : Addr → Prop) (H : Hp) : List V → List PyData → Prop
  | nil : DpNs K N H [] []
  | cons {v : V} {d : PyData} {vs : List V} {ds : List PyData} : DpN K N H v d → DpNs K N H vs ds → DpNs K N H (v :: vs) (d :: ds)
end
section
variable {K : PySem.W.Frag} {N N' : Addr → Prop} {H H' : Hp}
theorem dpn_go (hL : ∀ a xs, N a → H a = some (.lst xs) → N' a ∧ H' a = some (.lst xs)) (hT : ∀ a xs, SqT K H a xs → SqT K H' a xs) {v : V} {d : PyData} (h : DpN K N H v d) : DpN K N' H' v d :=
  DpN.rec (motive_1 := fun v d _ => DpN K N' H' v d) (motive_2 := fun vs ds _ => DpNs K N' H' vs ds) .non .bl .int .str (fun q n _ ih => .lst (hL _ _ n q).2 (hL _ _ n q).1 ih) (fun q _ ih => .tup (hT _ _ q) ih) .nil (fun _ _ a b => .cons a b) h
theorem dpns_go (hL : ∀ a xs, N a → H a = some (.lst xs) → N' a ∧ H' a = some (.lst xs)) (hT : ∀ a xs, SqT K H a xs → SqT K H' a xs) {vs : List V} {ds : List PyData} (h : DpNs K N H vs ds) : DpNs K N' H' vs ds :=
  DpNs.rec (motive_1 := fun v d _ => DpN K N' H' v d) (motive_2 := fun vs ds _ => DpNs K N' H' vs ds) .non .bl .int .str (fun q n _ ih => .lst (hL _ _ n q).2 (hL _ _ n q).1 ih) (fun q _ ih => .tup (hT _ _ q) ih) .nil (fun _ _ a b => .cons a b) h
theorem dpn_dp {v : V} {d : PyData} (h : DpN K N H v d) : Dp K H v d :=
  DpN.rec (motive_1 := fun v d _ => Dp K H v d) (motive_2 := fun vs ds _ => DpAll K H vs ds) .non .bl .int .str (fun q _ _ ih => .lst (SqL.of q) ih) (fun q _ ih => .tup q ih) .nil (fun _ _ a b => .cons a b) h
theorem dpns_dp {vs : List V} {ds : List PyData} (h : DpNs K N H vs ds) : DpAll K H vs ds :=
  DpNs.rec (motive_1 := fun v d _ => Dp K H v d) (motive_2 := fun vs ds _ => DpAll K H vs ds) .non .bl .int .str (fun q _ _ ih => .lst (SqL.of q) ih) (fun q _ ih => .tup q ih) .nil (fun _ _ a b => .cons a b) h
theorem dpn_same (s : Same H H') {v : V} {d : PyData} (h : DpN K N H v d) : DpN K N H' v d := dpn_go (fun _ _ n q => ⟨n, s _ _ q⟩) (fun _ _ q => sameT s q) h
theorem dpns_same (s : Same H H') {vs : List V} {ds : List PyData} (h : DpNs K N H vs ds) : DpNs K N H' vs ds := dpns_go (fun _ _ n q => ⟨n, s _ _ q⟩) (fun _ _ q => sameT s q) h
theorem dpn_mono (m : ∀ a, N a → N' a) {v : V} {d : PyData} (h : DpN K N H v d) : DpN K N' H v d := dpn_go (fun _ _ n q => ⟨m _ n, q⟩) (fun _ _ q => q) h
theorem dpns_mono (m : ∀ a, N a → N' a) {vs : List V} {ds : List PyData} (h : DpNs K N H vs ds) : DpNs K N' H vs ds := dpns_go (fun _ _ n q => ⟨m _ n, q⟩) (fun _ _ q => q) h
theorem dpn_kp {c : Addr} {xs : List V} (k : Kp c H H') (hc : H c = some (.lst xs)) (m : ∀ a, N a → a ≠ c) {v : V} {d : PyData} (h : DpN K N H v d) : DpN K N H' v d := dpn_go (fun _ _ n q => ⟨n, k _ _ q (m _ n)⟩) (fun _ _ q => (fx_tp (.kpL k hc)).seq q) h
theorem dpns_kp {c : Addr} {xs : List V} (k : Kp c H H') (hc : H c = some (.lst xs)) (m : ∀ a, N a → a ≠ c) {vs : List V} {ds : List PyData} (h : DpNs K N H vs ds) : DpNs K N H' vs ds := dpns_go (fun _ _ n q => ⟨n, k _ _ q (m _ n)⟩) (fun _ _ q => (fx_tp (.kpL k hc)).seq q) h
theorem dpns_app : ∀ {xs ys : List V} {ds es : List PyData}, DpNs K N H xs ds → DpNs K N H ys es → DpNs K N H (xs ++ ys) (ds ++ es)
  | _, _, _, _, .nil, h => h
  | _, _, _, _, .cons a b, h => .cons a (dpns_app b h)
theorem dpns_len : ∀ {xs : List V} {ds : List PyData}, DpNs K N H xs ds → xs.length = ds.length
  | _, _, .nil => rfl
  | _, _, .cons _ b => by rw [List.length_cons, List.length_cons, dpns_len b]
end
/-- data without dicts, nested at most so deep -/
def lstd : Nat → PyData → Bool
  | 0, _ => false
  | n + 1, .tuple ds => decide (ds.length ≤ 1000) && ds.all (lstd n)
  | n + 1, .list ds => decide (ds.length ≤ 1000) && ds.all (lstd n)
  | _ + 1, .dict _ => false
  | _ + 1, _ => true
section
variable {P : Program} {w : World} {K : PySem.W.Frag} {mg : Str → Option Value} {base : Heap}
/-- a copy: its lists are new ones -/
def spCpL (K : PySem.W.Frag) (n : Nat) : Sp := fun vs H Q _ => ∃ (x : V) (d m : Nat) (t : PyData), vs = [x, .int (d : Int)] ∧ d < n ∧ m ≤ d ∧ Dp K H x t ∧ lstd m t = true ∧ ∀ v H', Same H H' → DpN K (fun a => H a = none) H' v t → Q v H'
theorem leaf_dpn {N : Addr → Prop} {H : Hp} {x : V} {t : PyData} (h : Dp K H x t) (h1 : ∀ ds, t ≠ .list ds) (h2 : ∀ ds, t ≠ .tuple ds) : DpN K N H x t := by
  cases h with
  | non => exact .non
  | bl b => exact .bl b
  | int i => exact .int i
  | str s => exact .str s
  | lst _ _ => exact absurd rfl (h1 _)
  | tup _ _ => exact absurd rfl (h2 _)
theorem ok_copiedL {n : Nat} {f : Addr} {fd : FuncData} (F : CopD K f fd) (M : CopM mg) (cU : C8.Cal P w K mg base n "copied" (spCpL K n) []) : FnOk P w K mg base CX0 (n + 1) f fd ["value", "depth"] (spCpL K (n + 1)) := by
  refine F.ok scCp (fun vs H Q E h => ?_) (fun cdv A outer s H vs Q E hr h => ?_)
  · obtain ⟨x, d, m, t, rfl, _⟩ := h
    rfl
  obtain ⟨x, d, m, t, rfl, hd, hmd, hx, hm, q⟩ := h
  have nd := scCp.nd
  refine ⟨_, pss_cons (ps_if (pt_cmpR op_eq (pv 1) pe_int (nomark _)) (pss_one (ps_ret (pv 0))) pss_nil)
    (pss_cons (ps_if (pt_val (pe_callB call_isi (by rfl) M.isi (by decide +kernel) (pa_cons (pv 0) (pa_cons (pe_bltn (v := .ty "list") (u := .type "list") (by rfl) M.list (by decide +kernel) rfl) pa_nil))))
      (pss_one (ps_ret (pe_lc (own := [("item", 2)]) (g := gName 2) (tt := tYes) (te := tCall (spCpL K n) [] C8.E0 (tCons (tVar 2) (tCons (tSub (tVar 1) (tC (.int 1))) tNil))) rfl nd (pi_list (pv 0))
        (blkOk_by (own := [("item", 2)]) (N := nCp) (sc := defScope s_copied) (by decide +kernel)) (fun _ _ _ _ _ => pg_name (i := 2) nd rfl (Or.inl rfl)) (fun _ _ _ _ _ => pts_nil) (fun _ _ _ _ _ => C8.pe_c cU hr (Nat.le_refl _) (by rfl) (pa_cons (pv 2) (pa_cons (pe_sub (pv 1) pe_int) pa_nil)))))) pss_nil)
    (pss_cons (ps_if (pt_val (pe_callB call_isi (by rfl) M.isi (by decide +kernel) (pa_cons (pv 0) (pa_cons (pe_bltn (v := .ty "tuple") (u := .type "tuple") (by rfl) M.tuple (by decide +kernel) rfl) pa_nil))))
      (pss_one (ps_ret (pe_callTy call_tuple_of (by rfl) M.tuple (by decide +kernel) (pa_cons (pe_lc (own := [("item", 2)]) (g := gName 2) (tt := tYes) (te := tCall (spCpL K n) [] C8.E0 (tCons (tVar 2) (tCons (tSub (tVar 1) (tC (.int 1))) tNil))) rfl nd (pi_tup (pv 0))
        (blkOk_by (own := [("item", 2)]) (N := nCp) (sc := defScope s_copied) (by decide +kernel)) (fun _ _ _ _ _ => pg_name (i := 2) nd rfl (Or.inl rfl)) (fun _ _ _ _ _ => pts_nil) (fun _ _ _ _ _ => C8.pe_c cU hr (Nat.le_refl _) (by rfl) (pa_cons (pv 2) (pa_cons (pe_sub (pv 1) pe_int) pa_nil)))) pa_nil)))) pss_nil)
    (pss_cons (ps_if (pt_val (pe_callB call_isi (by rfl) M.isi (by decide +kernel) (pa_cons (pv 0) (pa_cons (pe_bltn (v := .ty "dict") (u := .type "dict") (by rfl) M.dict (by decide +kernel) rfl) pa_nil)))) (pss_one ps_never) pss_nil)
    (pss_one (ps_ret (pv 0)))))), ?_⟩
  have m0 : m ≠ 0 := fun e => by
    subst e
    cases hm
  have h0 : d ≠ 0 := by omega
  refine ⟨_, rfl, rfl, _, rfl, ?_⟩
  refine iteE (decide_eq_false (fun z => h0 (by injection z with z; omega))) ?_
  refine ⟨_, rfl, x, .ty "list", _, .type "list", isD "list" t, rfl, .ty _, dp_tyx hx, isk kit_some.2.1, _, rfl, ?_⟩
  -- one item
  have item : ∀ {H1 : Hp} {D : Addr} {m' i : Nat} {xs zs : List V} {ds : List PyData} {v : V} {Q2 : V → Hp → Prop}, m ≤ m' + 1 → Same H H1 → H D = none → H1 D = some (.lst zs) → DpNs K (fun a => H a = none ∧ a ≠ D) H1 zs (ds.take i) → DpAll K H xs ds → (∀ e ∈ ds, lstd m' e = true) → m' + 1 ≤ d → ds.length ≤ 1000 → xs[i]? = some v →
      (∀ u H2 zs', Same H1 H2 → H2 D = some (.lst zs) → zs' = zs ++ [u] → zs.length ≤ 1000 → DpNs K (fun a => H a = none ∧ a ≠ D) (upd H2 D (.lst zs')) zs' (ds.take (i + 1)) → Q2 u H2) → spCpL K n [v, .int ((d : Int) - 1)] H1 Q2 C8.E0 := by
    intro H1 D m' i xs zs ds v Q2 hm' s1 nD hD hz hall hds hd' hl hi fin
    obtain ⟨di, e1, hv⟩ := dpall_get hall hi
    have hil := (List.getElem?_eq_some_iff.mp e1).1
    refine ⟨v, d - 1, m', di, ?_, by omega, by omega, Dp_same s1 hv, hds di (List.mem_of_getElem? e1), fun u H2 s2 hu => ?_⟩
    · have : ((d : Int) - 1) = ((d - 1 : Nat) : Int) := by omega
      rw [this]
    have lz := dpns_len hz
    refine fin u H2 _ s2 (s2 _ _ hD) rfl (by rw [lz, List.length_take]; omega) ?_
    have k : Kp D H2 (upd H2 D (.lst (zs ++ [u]))) := kp_upd
    rw [List.take_add_one, e1]
    refine dpns_app (dpns_kp k (s2 _ _ hD) (fun a n => n.2) (dpns_same s2 hz)) (.cons (dpn_kp k (s2 _ _ hD) (fun a n => n.2) (dpn_mono (fun a n => ⟨?_, fun e => ?_⟩) hu)) .nil)
    · cases z : H a with
      | none => rfl
      | some o =>
        rw [s1 _ _ z] at n
        cases n
    · subst e
      rw [hD] at n
      cases n
  match m, t, hm, hx with
  | m + 1, .dict _, hm, _ => cases hm
  | m + 1, .none, hm, hx => exact iteE (by simp only [isD, tyD]; decide +kernel) ⟨_, rfl, _, .ty "tuple", _, .type "tuple", isD "tuple" _, rfl, .ty _, dp_tyx hx, isk kit_some.2.2.1, _, rfl, iteE (by simp only [isD, tyD]; decide +kernel) ⟨_, rfl, _, .ty "dict", _, .type "dict", isD "dict" _, rfl, .ty _, dp_tyx hx, isk kit_some.1, _, rfl, iteE (by simp only [isD, tyD]; decide +kernel) ⟨_, rfl, q x H (.refl H) (leaf_dpn hx (fun _ e => by cases e) (fun _ e => by cases e))⟩⟩⟩
  | m + 1, .bool _, hm, hx => exact iteE (by simp only [isD, tyD]; decide +kernel) ⟨_, rfl, _, .ty "tuple", _, .type "tuple", isD "tuple" _, rfl, .ty _, dp_tyx hx, isk kit_some.2.2.1, _, rfl, iteE (by simp only [isD, tyD]; decide +kernel) ⟨_, rfl, _, .ty "dict", _, .type "dict", isD "dict" _, rfl, .ty _, dp_tyx hx, isk kit_some.1, _, rfl, iteE (by simp only [isD, tyD]; decide +kernel) ⟨_, rfl, q x H (.refl H) (leaf_dpn hx (fun _ e => by cases e) (fun _ e => by cases e))⟩⟩⟩
  | m + 1, .int _, hm, hx => exact iteE (by simp only [isD, tyD]; decide +kernel) ⟨_, rfl, _, .ty "tuple", _, .type "tuple", isD "tuple" _, rfl, .ty _, dp_tyx hx, isk kit_some.2.2.1, _, rfl, iteE (by simp only [isD, tyD]; decide +kernel) ⟨_, rfl, _, .ty "dict", _, .type "dict", isD "dict" _, rfl, .ty _, dp_tyx hx, isk kit_some.1, _, rfl, iteE (by simp only [isD, tyD]; decide +kernel) ⟨_, rfl, q x H (.refl H) (leaf_dpn hx (fun _ e => by cases e) (fun _ e => by cases e))⟩⟩⟩
  | m + 1, .str _, hm, hx => exact iteE (by simp only [isD, tyD]; decide +kernel) ⟨_, rfl, _, .ty "tuple", _, .type "tuple", isD "tuple" _, rfl, .ty _, dp_tyx hx, isk kit_some.2.2.1, _, rfl, iteE (by simp only [isD, tyD]; decide +kernel) ⟨_, rfl, _, .ty "dict", _, .type "dict", isD "dict" _, rfl, .ty _, dp_tyx hx, isk kit_some.1, _, rfl, iteE (by simp only [isD, tyD]; decide +kernel) ⟨_, rfl, q x H (.refl H) (leaf_dpn hx (fun _ e => by cases e) (fun _ e => by cases e))⟩⟩⟩
  | m + 1, .list ds, hm, hx =>
    refine iteU (by simp only [isD, tyD]; decide +kernel) ?_
    simp only [lstd, Bool.and_eq_true, List.all_eq_true, decide_eq_true_eq] at hm
    obtain ⟨hl, hds⟩ := hm
    cases hx with
    | @lst a xs _ hs hall =>
      have lx := dpall_len hall
      refine ⟨_, rfl, a, rfl, ⟨_, hs⟩, fun D nD => ?_⟩
      refine lc_list (xs := xs) (fun i H' => ∃ zs : List V, Same H H' ∧ H' D = some (.lst zs) ∧ DpNs K (fun a => H a = none ∧ a ≠ D) H' zs (ds.take i)) ⟨[], same_new nD _, upd_same, .nil⟩ (fun i H' _ ⟨_, s1, _⟩ => s1.seq hs) ?_ ?_
      · rintro i v H1 hi ⟨zs, s1, hD, hz⟩
        refine ⟨rfl, _, rfl, _, rfl, _, _, rfl, rfl, item (Nat.le_refl _) s1 nD hD hz hall hds hmd hl hi fun u H2 zs' s2 hD2 ez lz hz2 => ⟨zs, hD2, small1000 (by omega), zs', fun c o hc => ?_, ?_, ?_⟩⟩
        · subst ez
          rw [upd_ne (ne_of_none hc nD)]
          exact s2 _ _ (s1 _ _ hc)
        · subst ez
          exact upd_same
        · subst ez
          exact hz2
      · rintro H1 ⟨zs, s1, hD, hz⟩
        rw [lx, List.take_length] at hz
        exact q _ _ s1 (.lst hD nD (dpns_mono (fun a n => n.1) hz))
  | m + 1, .tuple ds, hm, hx =>
    refine iteE (by simp only [isD, tyD]; decide +kernel) ⟨_, rfl, _, .ty "tuple", _, .type "tuple", isD "tuple" _, rfl, .ty _, dp_tyx hx, isk kit_some.2.2.1, _, rfl, iteU (by simp only [isD, tyD]; decide +kernel) ?_⟩
    simp only [lstd, Bool.and_eq_true, List.all_eq_true, decide_eq_true_eq] at hm
    obtain ⟨hl, hds⟩ := hm
    cases hx with
    | @tup a xs _ hs hall =>
      have lx := dpall_len hall
      refine ⟨_, rfl, a, rfl, ⟨_, hs⟩, fun D nD => ?_⟩
      refine lc_tup (xs := xs) (fun i H' => ∃ zs : List V, Same H H' ∧ H' D = some (.lst zs) ∧ DpNs K (fun a => H a = none ∧ a ≠ D) H' zs (ds.take i)) ⟨[], same_new nD _, upd_same, .nil⟩ (fun i H' _ ⟨_, s1, _⟩ => sameT s1 hs) ?_ ?_
      · rintro i v H1 hi ⟨zs, s1, hD, hz⟩
        refine ⟨rfl, _, rfl, _, rfl, _, _, rfl, rfl, item (Nat.le_refl _) s1 nD hD hz hall hds hmd hl hi fun u H2 zs' s2 hD2 ez lz hz2 => ⟨zs, hD2, small1000 (by omega), zs', fun c o hc => ?_, ?_, ?_⟩⟩
        · subst ez
          rw [upd_ne (ne_of_none hc nD)]
          exact s2 _ _ (s1 _ _ hc)
        · subst ez
          exact upd_same
        · subst ez
          exact hz2
      · rintro H1 ⟨zs, s1, hD, hz⟩
        rw [lx, List.take_length] at hz
        refine ⟨D, zs, rfl, .inl ⟨SqL.of hD, fun l nl => ?_⟩⟩
        have g := same_new nl (.tup zs)
        exact q _ _ (s1.trans g) (.tup (SqT.of upd_same) (dpns_same g (dpns_mono (fun a n => n.1) hz)))
theorem no_cpL0 (vs : List V) (H : Hp) (Q : VK) (E : XK) : ¬ spCpL K 0 vs H Q E := by
  rintro ⟨x, d, m, t, _, h, _⟩
  omega
theorem copiedL_cal {f : Addr} {fd : FuncData} (F : CopD K f fd) (b : Binds K fd ["value", "depth"] []) (m : mg "copied" = some (.ref f)) (M : CopM mg) : ∀ n : Nat, C8.Cal P w K mg base n "copied" (spCpL K n) []
  | 0 => ⟨f, fd, _, [], ⟨fun vs H Q E h => absurd h (no_cpL0 vs H Q E), fun A outer s H args us vs Q E _ _ _ _ h => absurd h (no_cpL0 vs H Q E)⟩, m, F.kp, b, .nil⟩
  | n + 1 => ⟨f, fd, _, [], ok_copiedL F M (copiedL_cal F b m M n), m, F.kp, b, .nil⟩
end

end Ag

namespace Ag
open PySem PySem.Spec PyProof.Rows L2
/-! ### rows of data of any kind -/
/-- whether data is a row -/
def rowB : PyData → Option Bool
  | .tuple [a, b] => if nmB a = true then bD 10 false b else some false
  | _ => some false
theorem rowB_other {ds : List PyData} (h : ds.length ≠ 2) : rowB (.tuple ds) = some false := by
  match ds, h with
  | [], _ => rfl
  | [_], _ => rfl
  | [_, _], h => exact absurd rfl h
  | _ :: _ :: _ :: _, _ => rfl
/-- the place of the first that is no row -/
def fstBad : List PyData → Option Nat
  | [] => none
  | d :: r => if rowB d = some true then (fstBad r).map (· + 1) else some 0
theorem fstBad_some : ∀ {ds : List PyData} {i : Nat}, fstBad ds = some i → (∃ d, ds[i]? = some d ∧ rowB d ≠ some true) ∧ ∀ m, m < i → ∃ d, ds[m]? = some d ∧ rowB d = some true
  | [], i, h => by cases h
  | d :: r, i, h => by
    unfold fstBad at h
    by_cases e : rowB d = some true
    · rw [if_pos e] at h
      obtain ⟨j, hj, rfl⟩ := Option.map_eq_some_iff.mp h
      obtain ⟨h1, h2⟩ := fstBad_some hj
      refine ⟨by simpa using h1, fun m hm => ?_⟩
      match m, hm with
      | 0, _ => exact ⟨d, rfl, e⟩
      | m + 1, hm => simpa using h2 m (by omega)
    · rw [if_neg e] at h
      cases h
      exact ⟨⟨d, rfl, e⟩, fun m hm => by omega⟩
theorem fstBad_none : ∀ {ds : List PyData}, fstBad ds = none → ∀ d ∈ ds, rowB d = some true
  | [], _, d, hd => by cases hd
  | x :: r, h, d, hd => by
    unfold fstBad at h
    by_cases e : rowB x = some true
    · rw [if_pos e] at h
      have h1 : fstBad r = none := by
        cases q : fstBad r with
        | none => rfl
        | some j =>
          rw [q] at h
          cases h
      rcases List.mem_cons.mp hd with z | z
      · rw [z]
        exact e
      · exact fstBad_none h1 d z
    · rw [if_neg e] at h
      cases h
theorem fstBad_app {d : PyData} {t : List PyData} (hd : rowB d ≠ some true) : ∀ {l : List PyData}, (∀ x ∈ l, rowB x = some true) → fstBad (l ++ d :: t) = some l.length
  | [], _ => by
    show fstBad (d :: t) = some 0
    unfold fstBad
    rw [if_neg hd]
  | x :: l, h => by
    rw [List.cons_append]
    unfold fstBad
    rw [if_pos (h x (by simp)), fstBad_app hd fun y hy => h y (by simp [hy])]
    rfl
theorem fstBad_good : ∀ {l : List PyData}, (∀ x ∈ l, rowB x = some true) → fstBad l = none
  | [], _ => rfl
  | x :: l, h => by
    unfold fstBad
    rw [if_pos (h x (by simp)), fstBad_good fun y hy => h y (by simp [hy])]
    rfl
/-- data that is_row may be asked about -/
structure RwD (m : Nat) (d : PyData) : Prop where
  ok : odk m d = true
  shp : SeqAt.shaped d = true
  val : ∃ r, rowB d = some r
section
variable {P : Program} {w : World} {K : PySem.W.Frag} {mg : Str → Option Value} {base : Heap} {CK CC fK fC : Addr} {mc : Value} {C1 f1 C2 f2 C3 f3 cG cM cN : Addr} {d1 d2 d3 : FuncData}
def spFormulaD (K : PySem.W.Frag) : Sp := fun vs H Q _ => ∃ (x : V) (m : Nat) (r : Bool) (t : PyData), vs = [x] ∧ Dp K H x t ∧ odk m t = true ∧ SeqAt.shaped t = true ∧ bD 10 false t = some r ∧ ∀ H', Same H H' → Q (.bl r) H'
theorem ok_formulaD {f : Addr} {fd : FuncData} (F : Fun K "is_formula" "is_formula" s_is_formula f fd) (cB : C8.Cal P w K mg base 14 "is_built" (spBuiltD K 11) []) (mD : ∃ t, mg "FORMULA_DEPTH" = some (.int 10 t)) : FnOk P w K mg base CX0 15 f fd ["value"] (spFormulaD K) := by
  refine F.ok scFormula (fun vs H Q E h => ?_) (fun cdv A outer s H vs Q E hr h => ?_)
  · obtain ⟨x, m, r, t, rfl, _⟩ := h
    rfl
  obtain ⟨x, m, r, t, rfl, hx, ho, hsh, hb, q⟩ := h
  obtain ⟨tD, mD⟩ := mD
  refine ⟨_, pss_one (ps_ret (C8.pe_c cB hr (by decide) (by rfl) (pa_cons (pv 0) (pa_cons (pe_glob (v := .int 10) (by rfl) mD ⟨_, rfl⟩) (pa_cons pe_bl pa_nil))))), ?_⟩
  exact ⟨_, rfl, x, 10, m, false, r, t, rfl, hx, ho, hsh, by decide, hb, q⟩
def spRowD (K : PySem.W.Frag) : Sp := fun vs H Q _ => ∃ (x : V) (m : Nat) (r : Bool) (t : PyData), vs = [x] ∧ Dp K H x t ∧ odk m t = true ∧ SeqAt.shaped t = true ∧ rowB t = some r ∧ ∀ H', Same H H' → Q (.bl r) H'
theorem ok_rowD {f : Addr} {fd : FuncData} (F : Fun K "is_row" "is_row" s_is_row f fd) (cN : C8.Cal P w K mg base 2 "is_name" (spName K) []) (cF : C8.Cal P w K mg base 15 "is_formula" (spFormulaD K) []) (mI : mg "isinstance" = none) (mT : mg "tuple" = none) (mL : mg "len" = none) : FnOk P w K mg base CX0 16 f fd ["value"] (spRowD K) := by
  refine F.ok scRow (fun vs H Q E h => ?_) (fun cdv A outer s H vs Q E hr h => ?_)
  · obtain ⟨x, m, r, t, rfl, _⟩ := h
    rfl
  obtain ⟨x, m, r, t, rfl, hx, ho, hsh, hb, q⟩ := h
  refine ⟨_, pss_cons (ps_if (PW.pt (pw_or (pt_not (pt_val (pe_callB call_isi (by rfl) mI (by decide +kernel) (pa_cons (pv 0) (pa_cons (pe_bltn (v := .ty "tuple") (u := .type "tuple") (by rfl) mT (by decide +kernel) rfl) pa_nil))))) (pw_or1 (pt_cmpR op_ne (pe_callB call_len_seq (by rfl) mL boot_len (pa_cons (pv 0) pa_nil)) pe_int (nomark _))))) (pss_one (ps_ret pe_bl)) pss_nil)
    (pss_one (ps_ret (pe_and (C8.pe_c cN hr (by decide) (by rfl) (pa_cons (pe_ix ix_tup (pv 0) pe_int (fun _ _ => rfl)) pa_nil)) (pe_one (C8.pe_c cF hr (by decide) (by rfl) (pa_cons (pe_ix ix_tup (pv 0) pe_int (fun _ _ => rfl)) pa_nil)))))), ?_⟩
  refine ⟨_, rfl, x, .ty "tuple", _, .type "tuple", isD "tuple" t, rfl, .ty _, dp_tyx hx, isk kit_some.2.2.1, _, rfl, ?_⟩
  cases m with
  | zero => cases ho
  | succ m =>
  cases t with
  | dict _ => cases ho
  | tuple ds =>
    have eT : isD "tuple" (.tuple ds) = true := by simp only [isD, tyD]; decide +kernel
    rw [eT]
    refine iteE rfl ?_
    have ods : ∀ d ∈ ds, odk m d = true := by
      simp only [odk, Bool.and_eq_true, List.all_eq_true] at ho
      exact ho.2
    have sds := shp_tup hsh
    cases hx with
    | @tup p xs _ hs hall =>
    have lx := dpall_len hall
    refine ⟨_, rfl, p, _, rfl, .inr hs, rfl, _, rfl, ?_⟩
    by_cases h2 : ds.length = 2
    · obtain ⟨a, b, rfl⟩ : ∃ a b, ds = [a, b] := by
        match ds, h2 with
        | [a, b], _ => exact ⟨a, b, rfl⟩
      cases hall with
      | @cons va _ _ _ ha t1 =>
      cases t1 with
      | @cons vb _ _ _ hb' t2 =>
      cases t2
      refine iteE (by show (!decide (V.int 2 = V.int 2)) = false; decide) ?_
      refine ⟨_, rfl, p, _, _, _, rfl, rfl, hs, rfl, _, _, rfl, nm_of ha (ods a (by simp)), fun H1 s1 => ⟨_, rfl, ?_⟩⟩
      have hb : (if nmB a = true then bD 10 false b else some false) = some r := hb
      cases e : nmB a with
      | false =>
        rw [e] at hb
        cases hb
        exact q H1 s1
      | true =>
        rw [e, if_pos rfl] at hb
        exact ⟨_, rfl, p, _, _, _, rfl, rfl, sameT s1 hs, rfl, vb, m, r, b, rfl, Dp_same s1 hb', ods b (by simp), sds b (by simp), hb, fun H2 s2 => q H2 (s1.trans s2)⟩
    · rw [rowB_other h2] at hb
      cases hb
      refine iteU ?_ (q H (.refl H))
      rw [lx]
      show (!decide (V.int (ds.length : Int) = V.int 2)) = true
      rw [decide_eq_false (fun z => h2 (by injection z with z; omega))]
      rfl
  | none => cases hb; exact iteU (by simp only [isD, tyD]; decide +kernel) (iteU rfl (q H (.refl H)))
  | bool _ => cases hb; exact iteU (by simp only [isD, tyD]; decide +kernel) (iteU rfl (q H (.refl H)))
  | int _ => cases hb; exact iteU (by simp only [isD, tyD]; decide +kernel) (iteU rfl (q H (.refl H)))
  | str _ => cases hb; exact iteU (by simp only [isD, tyD]; decide +kernel) (iteU rfl (q H (.refl H)))
  | list _ => cases hb; exact iteU (by simp only [isD, tyD]; decide +kernel) (iteU rfl (q H (.refl H)))
/-! ### tested_rows, Context(..), Context.of of data of any kind -/
def spTestedG (K : PySem.W.Frag) (CK C3 : Addr) : Sp := fun vs H Q E => ∃ (p : Addr) (ys : List V) (ds : List PyData) (m : Nat), vs = [.ref p] ∧ RowsIn K H p ys ∧ DpAll K H ys ds ∧ (∀ d ∈ ds, RwD m d) ∧ ds.length ≤ 1000 ∧ match fstBad ds with
  | some i => RaisE K C3 .row (.int i) H E
  | none => ∀ (x a : Addr) (H' : Hp), HeldAt CK H' x a → SqT K H' a ys → Same H H' → Q (.ref x) H'
theorem ok_testedG {f : Addr} {fd fdK : FuncData} (F : Fun K "tested_rows" "tested_rows" s_tested_rows f fd) (cR : C8.Cal P w K mg base 16 "is_row" (spRowD K) []) (GK : FnOk P w K mg base CX0 1 fK fdK ["self", "rows"] (spKn K CK)) (bK : Binds K fdK ["self", "rows"] []) (M : CtxM K mg CK CC fK fC mc)
    (ME : ErrK K mg "InvalidRow" C3 f3 cG cM cN) (GI : FnOk P w K mg base CX0 14 f3 d3 ["self", "at"] (spErr K C3 "at" .row)) (bI : Binds K d3 ["self", "at"] []) : FnOk P w K mg base (L2.CX P w) 17 f fd ["rows"] (spTestedG K CK C3) := by
  refine F.okX scTested (fun vs H Q E h => ?_) (fun cdv A outer s H vs Q E hr h => ?_)
  · obtain ⟨p, ys, ds, m, rfl, _⟩ := h
    rfl
  obtain ⟨p, ys, ds, m, rfl, hp, hy, hok, h1000, q⟩ := h
  have nd := scTested.nd
  refine ⟨_, pss_cons (ps_for (L2.passes_of rfl) rfl (pi_enumA (by rfl) M.enum (pa_cons (pv 0) pa_nil)) (pg_tup rfl (pgs_cons (pg_name (i := 1) nd rfl (.inl rfl)) (pgs_cons (pg_name (i := 2) nd rfl (.inl rfl)) pgs_nil)))
      (pss_one (ps_if (pt_not (pt_val (C8.pe_c cR hr (by decide) (by rfl) (pa_cons (pv 2) pa_nil)))) (pss_one (ps_raise rfl (L2.takes_of rfl rfl rfl rfl) (pmk_oex ME.o ME.iC ME.tI GI (hr.mono (by decide)) bI .nil pass0 (by rfl) ME.m (pa_cons (pv 1) pa_nil)))) pss_nil)))
    (pss_one (ps_ret (pe_make M.kK GK (hr.mono (by decide)) (by rfl) M.gK bK .nil pass0 (pa_cons (pv 0) pa_nil)))), ?_⟩
  have ly := dpall_len hy
  have turn : ∀ (i : Nat) (v : V) (H' : Hp), ys[i]? = some v → Same H H' → ∃ d r, ds[i]? = some d ∧ Dp K H' v d ∧ RwD m d ∧ rowB d = some r := fun i v H' hi s1 => by
    obtain ⟨d, hd1, hd2⟩ := dpall_get hy hi
    have o := hok d (List.mem_of_getElem? hd1)
    obtain ⟨r, hr'⟩ := o.val
    exact ⟨d, r, hd1, Dp_same s1 hd2, o, hr'⟩
  have fin : ∀ H1 : Hp, Same H H1 → fstBad ds = none → ∀ x dx, H1 x = none → H1 dx = none → dx ≠ x → spKn K CK [.ref x, .ref p] (upd (upd H1 dx (.own x)) x (.ins CK dx [])) (fun v H2 => v = .non ∧ Q (.ref x) H2) (fun _ _ _ => False) := fun H1 s1 e x dx n1 n2 n3 => by
    rw [e] at q
    have s2 : Same H1 (upd (upd H1 dx (.own x)) x (.ins CK dx [])) := fun b o e => by
      rw [upd_ne (ne_of_none e n1), upd_ne (ne_of_none e n2)]
      exact e
    refine ⟨x, p, dx, ys, rfl, upd_same, hp.same (s1.trans s2), fun a H2 h1 h2 k => ⟨rfl, q x a H2 h1 h2 fun c o e => ?_⟩⟩
    exact k c o ((s1.trans s2) c o e) (ne_of_none (s1 c o e) n1)
  -- a wrong one
  have bad : ∀ (i : Nat) (d : PyData) (H3 : Hp), ds[i]? = some d → rowB d ≠ some true → (∀ k, k < i → ∃ d, ds[k]? = some d ∧ rowB d = some true) → Same H H3 → RaisE K C3 .row (.int (i : Int)) H3 E := fun i d H3 hd hb bef s3 => by
    have ef : fstBad ds = some i := by
      have e1 : ds = ds.take i ++ d :: ds.drop (i + 1) := by
        have hlt := (List.getElem?_eq_some_iff.mp hd)
        obtain ⟨h1, h2⟩ := hlt
        rw [← h2, List.getElem_cons_drop, List.take_append_drop]
      have li : (ds.take i).length = i := by
        rw [List.length_take]
        have := (List.getElem?_eq_some_iff.mp hd).1
        omega
      rw [e1, fstBad_app hb fun x hx => ?_, li]
      obtain ⟨k, hk⟩ := List.getElem?_of_mem hx
      have hk2 := (List.getElem?_eq_some_iff.mp hk).1
      rw [li] at hk2
      obtain ⟨d', h1, h2⟩ := bef k hk2
      rw [List.getElem?_take, if_pos hk2] at hk
      rw [hk] at h1
      cases h1
      exact h2
    rw [ef] at q
    exact rais_same s3 q
  have endd : ∀ H1 : Hp, (∀ k, k < ds.length → ∃ d, ds[k]? = some d ∧ rowB d = some true) → fstBad ds = none := fun H1 h => fstBad_good fun x hx => by
    obtain ⟨k, hk⟩ := List.getElem?_of_mem hx
    obtain ⟨d', h1, h2⟩ := h k (List.getElem?_eq_some_iff.mp hk).1
    rw [hk] at h1
    cases h1
    exact h2
  rcases hp with hp | hp
  · refine ⟨_, rfl, p, ys, rfl, .inl ⟨hp, for_it walk_enum (fun i σ H' => ∃ v1 v2, σ = [some (.ref p), v1, v2] ∧ Same H H' ∧ ∀ k, k < i → ∃ d, ds[k]? = some d ∧ rowB d = some true) ⟨none, none, rfl, .refl H, fun k hk => by omega⟩ (fun i σ H' _ ⟨_, _, _, s1, _⟩ => s1.seq hp) ?_ ?_⟩⟩
    · rintro i y σ H1 H2 hi ⟨v1, v2, rfl, s1, bef⟩ ⟨T, a, x, rfl, nT, rfl, ea, ex⟩
      cases ea
      have s2 := s1.trans (same_new nT (.tup [.int i, x]))
      obtain ⟨d, r, h0, h1, h2, h3⟩ := turn i x _ ex s2
      refine ⟨T, _, rfl, SqT.of upd_same, rfl, _, _, rfl, _, _, rfl, rfl, ?_⟩
      refine ⟨_, rfl, x, m, r, d, rfl, h1, h2.ok, h2.shp, h3, fun H3 s3 => ⟨_, rfl, ?_⟩⟩
      cases r with
      | true =>
        refine iteE rfl ⟨_, _, rfl, s2.trans s3, fun k hk => ?_⟩
        by_cases e : k = i
        · subst e
          exact ⟨d, h0, h3⟩
        · exact bef k (by omega)
      | false => exact iteU rfl ⟨_, rfl, rais_mk (m := 1) ME rfl (by decide) (by decide) (.int _) rfl (bad i d H3 h0 (by rw [h3]; decide) bef (s2.trans s3))⟩
    · rintro σ H1 ⟨v1, v2, rfl, s1, bef⟩
      exact ⟨_, rfl, fin H1 s1 (endd H1 (by rw [← ly]; exact bef))⟩
  · refine ⟨_, rfl, p, ys, rfl, .inr ⟨hp, for_it walk_enumT (fun i σ H' => ∃ v1 v2, σ = [some (.ref p), v1, v2] ∧ Same H H' ∧ ∀ k, k < i → ∃ d, ds[k]? = some d ∧ rowB d = some true) ⟨none, none, rfl, .refl H, fun k hk => by omega⟩ (fun i σ H' _ ⟨_, _, _, s1, _⟩ => sameT s1 hp) ?_ ?_⟩⟩
    · rintro i y σ H1 H2 hi ⟨v1, v2, rfl, s1, bef⟩ ⟨T, a, x, rfl, nT, rfl, ea, ex⟩
      cases ea
      have s2 := s1.trans (same_new nT (.tup [.int i, x]))
      obtain ⟨d, r, h0, h1, h2, h3⟩ := turn i x _ ex s2
      refine ⟨T, _, rfl, SqT.of upd_same, rfl, _, _, rfl, _, _, rfl, rfl, ?_⟩
      refine ⟨_, rfl, x, m, r, d, rfl, h1, h2.ok, h2.shp, h3, fun H3 s3 => ⟨_, rfl, ?_⟩⟩
      cases r with
      | true =>
        refine iteE rfl ⟨_, _, rfl, s2.trans s3, fun k hk => ?_⟩
        by_cases e : k = i
        · subst e
          exact ⟨d, h0, h3⟩
        · exact bef k (by omega)
      | false => exact iteU rfl ⟨_, rfl, rais_mk (m := 1) ME rfl (by decide) (by decide) (.int _) rfl (bad i d H3 h0 (by rw [h3]; decide) bef (s2.trans s3))⟩
    · rintro σ H1 ⟨v1, v2, rfl, s1, bef⟩
      exact ⟨_, rfl, fin H1 s1 (endd H1 (by rw [← ly]; exact bef))⟩
end

end Ag

namespace Ag
open PySem PySem.Spec PyProof.Rows L2
/-! ### errors whose field may have lists -/
section
variable {P : Program} {w : World} {K : PySem.W.Frag} {mg : Str → Option Value} {base : Heap}
def spErrL (K : PySem.W.Frag) (C : Addr) (n : Str) (e : Ek) : Sp := fun vs H Q _ => ∃ (a : Addr) (x : V) (m : Nat) (t : PyData), vs = [.ref a, x] ∧ H a = some (exo a C none) ∧ Dp K H x t ∧ m ≤ 12 ∧ lstd m t = true ∧
  ∀ v dx H', DpN K (fun b => H b = none) H' v t → H' a = some (exo a C (some dx)) → H' dx = some (exd dx [("code", .str e.code), (n, v)]) → H dx = none → (∀ c o, H c = some o → c ≠ a → H' c = some o) → Q .non H'
def RaisL (K : PySem.W.Frag) (C : Addr) (e : Ek) (t : PyData) (H : Hp) (E : XK) : Prop := ∀ D fs v H', Same H H' → H' D = some (.xd fs) → ErrIs K C fs e [v] → DpN K (fun b => H b = none) H' v t → E (.ref C) (some D) H'
theorem raisL_same {C : Addr} {e : Ek} {t : PyData} {H H1 : Hp} {E : XK} (s : Same H H1) (r : RaisL K C e t H E) : RaisL K C e t H1 E := fun D fs v H' s2 h1 h2 h3 => r D fs v H' (s.trans s2) h1 h2 (dpn_mono (fun b n => by
  cases z : H b with
  | none => rfl
  | some o =>
    rw [s _ _ z] at n
    cases n) h3)
theorem lst_exo {a b C : Addr} {d : Option Addr} {xs : List V} : HO.lst xs ≠ exo a C d := fun z => by
  unfold exo at z
  cases z
theorem ok_InvalidNumberL {C f cG cM cN : Addr} {fd : FuncData} (F : Fun K "__init__" "InvalidNumber.__init__" s_InvalidNumber_init f fd) (M : ErrK K mg "InvalidNumber" C f cG cM cN) (cC : C8.Cal P w K mg base 13 "copied" (spCpL K 13) [.int 12]) : FnOk P w K mg base CX0 14 f fd ["self", "value"] (spErrL K C "value" .number) := by
  refine F.ok scInvalidNumber (fun vs H Q E h => ?_) (fun cdv A outer s H vs Q E hr h => ?_)
  · obtain ⟨a, x, m, t, rfl, _⟩ := h
    rfl
  obtain ⟨a, x, m, t, rfl, ha, hx, hm, ht, q⟩ := h
  refine ⟨_, pss_cons (ps_ost (pv 0) (C8.pe_c cC hr (by decide) (by rfl) (pa_cons (pv 1) pa_nil))) (pss_one (ps_ost (pv 0) pe_str)), ?_⟩
  refine ⟨_, rfl, x, 12, m, t, rfl, by decide, hm, hx, ht, fun v H1 s1 hv => ⟨_, rfl, a, C, rfl, M.o, M.e.nf _ (by decide), .inl ⟨s1 _ _ ha, fun dx nd ne => ?_⟩⟩⟩
  have nH : H dx = none := by
    cases z : H dx with
    | none => rfl
    | some o =>
      rw [s1 _ _ z] at nd
      cases nd
  refine ⟨_, rfl, a, C, rfl, M.o, M.e.nf _ (by decide), .inr ⟨dx, [("value", v)], upd_same, by rw [upd_ne ne, upd_same], (by show 1 ≤ 900; decide), ?_⟩⟩
  refine q v dx _ ?_ (by rw [upd_ne ne.symm, upd_same]) upd_same nH (fun c o hc nca => ?_)
  · refine dpn_go (fun b xs n hb => ⟨n, ?_⟩) (fun p xs z => ?_) hv
    · have n1 : b ≠ a := fun e => by
        subst e
        rw [ha] at n
        cases n
      have n2 : b ≠ dx := ne_of_none hb nd
      rw [upd_ne n2, upd_ne n1, upd_ne n2]
      exact hb
    · rcases z with z | z
      · have n1 : p ≠ a := fun e => by
          subst e
          rcases z with z | ⟨o, z⟩
          · exact at_ne (s1 _ _ ha) z exo_tup rfl
          · exact at_ne (s1 _ _ ha) z exo_frz rfl
        have n2 : p ≠ dx := fun e => by
          subst e
          rcases z with z | ⟨o, z⟩ <;> (rw [nd] at z; cases z)
        rcases z with z | ⟨o, z⟩
        · exact .inl (.inl (by rw [upd_ne n2, upd_ne n1, upd_ne n2]; exact z))
        · exact .inl (.inr ⟨o, by rw [upd_ne n2, upd_ne n1, upd_ne n2]; exact z⟩)
      · exact .inr z
  · have n2 : c ≠ dx := ne_of_none hc nH
    rw [upd_ne n2, upd_ne nca, upd_ne n2]
    exact s1 _ _ hc
theorem rais_mkL {x : Str} {C fI cG cM cN : Addr} {n : Str} {e : Ek} {H : Hp} {W : XK} {y : V} {m : Nat} {t : PyData} (M : ErrK K mg x C fI cG cM cN) (ea : e.attrs = [n]) (hn : n ∈ (["code", "value", "at", "line", "most", "path", "name", "user", "reason"] : List Str)) (nc : n ≠ "code") (hy : Dp K H y t) (hm : m ≤ 12) (ht : lstd m t = true) (q : RaisL K C e t H W) :
    [y].length ≤ 1000 ∧ ∀ a, H a = none → spErrL K C n e (.ref a :: ([y] ++ [])) (upd H a (exo a C none))
      (fun v H2 => v = .non ∧ ∃ (d : Addr) (fs : List (Str × V)), H2 a = some (exo a C (some d)) ∧ H2 d = some (exd d fs) ∧ H d = none ∧ W (.ref C) (some d) (upd (L2.del H2 a) d (.xd fs))) (fun _ _ _ => False) := by
  refine ⟨(by show 1 ≤ 1000; decide), fun a na => ?_⟩
  have sm := same_new na (exo a C none)
  refine ⟨a, y, m, t, rfl, upd_same, Dp_same sm hy, hm, ht, fun v dx H' hv ha hd nd keep => ⟨rfl, dx, _, ha, hd, upd_free nd, ?_⟩⟩
  have old : ∀ {c o}, H c = some o → c ≠ a ∧ c ≠ dx := fun {c o} z => ⟨ne_of_none z na, ne_of_none z (upd_free nd)⟩
  have g : Same H (upd (L2.del H' a) dx (.xd [("code", .str e.code), (n, v)])) := fun c o z => by
    obtain ⟨z1, z2⟩ := old z
    rw [upd_ne z2, L2.del_ne z1]
    exact keep c o (sm _ _ z) z1
  refine q dx _ v _ g upd_same ⟨M.e, rfl, ?_⟩ (dpn_go (fun b xs nb z => ⟨upd_free nb, ?_⟩) (fun p xs z => ?_) hv)
  · rw [ea]
    refine .cons ?_ .nil
    show ((("code" : Str), V.str e.code) :: [(n, v)]).lookup n = some v
    rw [L2.lookup_put, if_neg nc, L2.lookup_put, if_pos rfl]
  · have n1 : b ≠ a := fun e => by
      subst e
      rw [upd_same] at nb
      cases nb
    have n2 : b ≠ dx := fun e => by
      subst e
      rw [hd] at z
      have z2 := Option.some.inj z
      unfold exd at z2
      cases z2
    rw [upd_ne n2, L2.del_ne n1]
    exact z
  · rcases z with z | z
    · have n1 : p ≠ a := fun e => by
        subst e
        rcases z with z | ⟨o, z⟩
        · exact at_ne ha z exo_tup rfl
        · exact at_ne ha z exo_frz rfl
      have n2 : p ≠ dx := fun e => by
        subst e
        rcases z with z | ⟨o, z⟩
        · exact at_ne hd z exd_tup rfl
        · rw [hd] at z
          have z2 := Option.some.inj z
          unfold exd at z2
          cases z2
      rcases z with z | ⟨o, z⟩
      · exact .inl (.inl (by rw [upd_ne n2, L2.del_ne n1]; exact z))
      · exact .inl (.inr ⟨o, by rw [upd_ne n2, L2.del_ne n1]; exact z⟩)
    · exact .inr z
end

end Ag

namespace Ag
open PySem PySem.Spec PyProof.Rows L2
theorem tp_rem {l : Pins} {H : Hp} (pin : ∀ b o, l.lookup b = some o → H b = some (pinO b o)) : Tp H (remp H l) := fun p2 xs z => by
  have out : l.lookup p2 = none := by
    cases y : l.lookup p2 with
    | none => rfl
    | some o =>
      rcases z with z | ⟨o2, z⟩
      · rw [pin p2 o y] at z
        exact absurd (Option.some.inj z) pin_tup
      · rw [pin p2 o y] at z
        exact absurd (Option.some.inj z) pin_frz
  rcases z with z | ⟨o2, z⟩
  · exact .inl (by rw [remp_out out]; exact z)
  · exact .inr ⟨o2, by rw [remp_out out]; exact z⟩
/-! ### _law_tries, where the answers may have lists -/
section
variable {P : Program} {w : World} {K : PySem.W.Frag} {mg : Str → Option Value} {base : Heap} {CC cG cM cN : Addr}
def spTriesL (P : Program) (w : World) (K : PySem.W.Frag) (mg : Str → Option Value) (base : Heap) (cG cM cN : Addr) (k : Nat) : Sp := fun vs H Q _ => ∃ (a : Addr) (fs : List Addr) (R : Addr → Nat → V → Hp → Prop), vs = [.ref a] ∧ SqL K H a (fs.map V.ref) ∧ fs.length ≤ 100 ∧
  (∀ c i v H1 H2, R c i v H1 → Same H1 H2 → R c i v H2) ∧ (∀ c i v xs H1 H2, R c i v H1 → H1 c = some (.lst xs) → Kp c H1 H2 → R c i v H2) ∧
  (∀ i f, fs[i]? = some f → ∀ H1, Same H H1 → Told P w K mg base cG cM cN k f H1 (fun v H2 => Same H1 H2 ∧ ∀ c xs, H1 c = some (.lst xs) → R c i v H2)) ∧ ∀ p rs H', Same H H' → H p = none → H' p = some (.lst rs) → rs.length = fs.length → (∀ i v, rs[i]? = some v → R p i v H') → Q (.ref p) H'
theorem ok_triesL {k : Nat} {f : Addr} {fd : FuncData} (F : Fun K "_law_tries" "_law_tries" s_law_tries f fd) (cT : C8.Cal P w K mg base (k + 1) "_law_try" (spTry P w K mg base cG cM cN k) []) : FnOk P w K mg base L2.CX0 (k + 2) f fd ["_law_asks"] (spTriesL P w K mg base cG cM cN k) := by
  refine F.ok scTries (fun vs H Q E h => ?_) (fun cdv A outer s H vs Q E hr h => ?_)
  · obtain ⟨a, fs, R, rfl, _⟩ := h
    rfl
  obtain ⟨a, fs, R, rfl, ha, hl, stS, stK, told, q⟩ := h
  have nd := scTries.nd
  refine ⟨_, pss_one (ps_ret (pe_lc (own := [("_law_ask", 1)]) (g := gName 1) (te := tCall (spTry P w K mg base cG cM cN k) [] C8.E0 (tCons (tVar 1) tNil)) (tt := tYes) rfl nd (pi_list (pv 0))
      (blkOk_by (own := [("_law_ask", 1)]) (N := nTries) (sc := defScope s_law_tries) (by decide +kernel)) (fun _ _ _ _ _ => pg_name (i := 1) nd rfl (Or.inl rfl)) (fun _ _ _ _ _ => pts_nil) (fun _ _ _ _ _ => C8.pe_c cT hr (Nat.le_refl _) (by rfl) (pa_cons (pv 1) pa_nil)))), ?_⟩
  refine ⟨_, rfl, a, rfl, ⟨_, ha⟩, fun D nD => ?_⟩
  refine lc_list (xs := fs.map V.ref) (fun i H' => ∃ zs : List V, zs.length = i ∧ H' D = some (.lst zs) ∧ Same H H' ∧ ∀ j v, zs[j]? = some v → R D j v H') ⟨[], rfl, upd_same, same_new nD _, fun j v e => by simp at e⟩ (fun i H' _ ⟨_, _, _, s1, _⟩ => s1.seq ha) ?_ ?_
  · rintro i v H1 hi ⟨zs, lz, hD, s1, hR⟩
    rw [List.getElem?_map] at hi
    obtain ⟨q1, hq, rfl⟩ := Option.map_eq_some_iff.mp hi
    have hil := (List.getElem?_eq_some_iff.mp hq).1
    refine ⟨rfl, _, rfl, q1, rfl, ?_⟩
    have T := told i q1 hq H1 s1
    have fin : ∀ v H2, (Same H1 H2 ∧ ∀ c xs, H1 c = some (.lst xs) → R c i v H2) → ∃ acc, H2 D = some (.lst acc) ∧ acc.length < sizeLine ∧ ∃ zs : List V, zs.length = i + 1 ∧ upd H2 D (.lst (acc ++ [v])) D = some (.lst zs) ∧ Same H (upd H2 D (.lst (acc ++ [v]))) ∧ ∀ j u, zs[j]? = some u → R D j u (upd H2 D (.lst (acc ++ [v]))) := by
      rintro v H2 ⟨s2, hv⟩
      have hD2 := s2 _ _ hD
      have kp : Kp D H2 (upd H2 D (.lst (zs ++ [v]))) := kp_upd
      refine ⟨zs, hD2, small1000 (by omega), zs ++ [v], by rw [List.length_append, lz]; rfl, upd_same, fun b o e => ?_, fun j u e => ?_⟩
      · rw [upd_ne (ne_of_none e nD)]
        exact s2 _ _ (s1 _ _ e)
      · by_cases hj : j < zs.length
        · rw [List.getElem?_append_left hj] at e
          exact stK D j u zs _ _ (stS D j u _ _ (hR j u e) s2) hD2 kp
        · rw [List.getElem?_append_right (Nat.le_of_not_lt hj)] at e
          have e0 : j - zs.length = 0 := by
            cases z : j - zs.length with
            | zero => rfl
            | succ n =>
              rw [z] at e
              simp at e
          rw [e0] at e
          have e1 : v = u := by simpa using e
          have e2 : j = i := by omega
          subst e1
          subst e2
          exact stK D _ _ zs _ _ (hv D zs hD) hD2 kp
    exact T.imp (fun v H2 h2 t H3 s3 n3 h3 => fin _ _ (h2 t H3 s3 n3 h3)) (fun c d H2 ⟨C, DD, fs2, e, ws, e1, e2, e3, e4, e5, e6⟩ => ⟨C, DD, fs2, e, ws, e1, e2, e3, e4, e5, fun t u H3 s3 n3 h3 h4 => fin _ _ (e6 t u H3 s3 n3 h3 h4)⟩)
  · rintro H1 ⟨zs, lz, hD, s1, hR⟩
    exact q D zs H1 s1 nD hD (by rw [lz, List.length_map]) hR
/-- the i-th answer is the i-th of ds, and its lists are not the one at c -/
def R11 (K : PySem.W.Frag) (ds : List PyData) (c : Addr) (i : Nat) (v : V) (H : Hp) : Prop := ∀ d, ds[i]? = some d → DpN K (fun a => a ≠ c) H v d
theorem tries_readL {a : Addr} {fs : List Addr} {ds : List PyData} {k : Nat} {l : Pins} {H1 : Hp} {Q : VK} (nl : ∀ b o, l.lookup b = some o → H1 b = none) (ha : SqL K H1 a (fs.map V.ref)) (hl : fs.length ≤ 100) (ld : ds.length = fs.length)
    (told : ∀ (i : Nat) (f : Addr), fs[i]? = some f → ∀ H2, Same (addp H1 l) H2 → Told P w K mg base cG cM cN k f H2 (fun v H3 => Same H2 H3 ∧ ∀ c xs, H2 c = some (.lst xs) → R11 K ds c i v H3))
    (q : ∀ p rs H2 H3, H3 = remp H2 l → (∀ b o, l.lookup b = some o → H2 b = some (pinO b o)) → Same H1 H3 → H1 p = none → H3 p = some (.lst rs) → DpNs K (fun a => a ≠ p) H3 rs ds → Q (.ref p) H2) :
    spTriesL P w K mg base cG cM cN k [.ref a] (addp H1 l) Q L2.E0 := by
  refine ⟨a, fs, R11 K ds, rfl, (add_same nl).seq ha, hl, fun c i v H2 H3 r s d hd => dpn_same s (r d hd), fun c i v xs H2 H3 r hc kp d hd => dpn_kp kp hc (fun _ n => n) (r d hd), told, fun p rs H2 s2 np hp lr hr => ?_⟩
  have pin : ∀ b o, l.lookup b = some o → H2 b = some (pinO b o) := fun b o z => s2 _ _ (addp_in z)
  have np2 := addp_none np
  have mv : ∀ {v d}, DpN K (fun a => a ≠ p) H2 v d → DpN K (fun a => a ≠ p) (remp H2 l) v d := fun h => dpn_go (fun b xs n hb => ⟨n, by
    have out : l.lookup b = none := by
      cases y : l.lookup b with
      | none => rfl
      | some o =>
        rw [pin b o y] at hb
        exact absurd (Option.some.inj hb) pin_lst
    rw [remp_out out]
    exact hb⟩) (fun b xs z => (tp_rem pin).seq z) h
  have ix : ∀ {rs : List V} {ds : List PyData}, rs.length = ds.length → (∀ (i : Nat) (v : V) (d : PyData), rs[i]? = some v → ds[i]? = some d → DpN K (fun a => a ≠ p) (remp H2 l) v d) → DpNs K (fun a => a ≠ p) (remp H2 l) rs ds := by
    intro rs
    induction rs with
    | nil =>
      intro ds e h
      cases ds with
      | nil => exact .nil
      | cons _ _ => cases e
    | cons v r ih =>
      intro ds e h
      cases ds with
      | nil => cases e
      | cons d t => exact .cons (h 0 v d rfl rfl) (ih (by simpa using e) fun i v d h1 h2 => h (i + 1) v d (by simpa using h1) (by simpa using h2))
  exact q p rs H2 _ rfl pin (same_rem s2 nl) np2.2 (by rw [remp_out np2.1]; exact hp) (ix (by rw [lr, ld]) fun i v d h1 h2 => mv (hr i v h1 d h2))
theorem told_errL {H2 : Hp} {l : Pins} {x : Str} {C fI : Addr} {e : Ek} {t : PyData} {ds : List PyData} {i : Nat} (M : ErrK K mg x C fI cG cM cN) (hp : ∀ b o, l.lookup b = some o → H2 b = some (pinO b o)) (hi : ds[i]? = some (.tuple [.str e.code, .tuple [t]])) :
    RaisL K C e t (remp H2 l) (fun cls d H3 => (∀ b o, l.lookup b = some o → H3 b = none) → ∃ (C' D : Addr) (fs : List (Str × V)) (e' : Ek) (ws : List V), cls = .ref C' ∧ d = some D ∧ ErrIs K C' fs e' ws ∧ PySem.W.exmAny K (.ref C') [.ref cG, .ref cM, .ref cN] = some true ∧ (addp H3 l) D = some (.xd fs) ∧
      ∀ t' u H4, Same (addp H3 l) H4 → (addp H3 l) t' = none → H4 u = some (.tup ws) → H4 t' = some (.tup [.str e'.code, .ref u]) → Same H2 H4 ∧ ∀ c xs, H2 c = some (.lst xs) → R11 K ds c i (.ref t') H4) := fun D fs v H3 s hD E hv n3 => by
  refine ⟨C, D, fs, e, [v], rfl, rfl, E, M.hx, add_same n3 _ _ hD, fun t' u H4 s4 _ hu ht => ⟨(same_add s hp).trans s4, fun c xs hc d hd => ?_⟩⟩
  rw [hi] at hd
  cases hd
  have out : l.lookup c = none := by
    cases y : l.lookup c with
    | none => rfl
    | some o =>
      rw [hp c o y] at hc
      exact absurd (Option.some.inj hc) pin_lst
  have h4 := dpn_same ((add_same n3).trans s4) (dpn_mono (N' := fun a => a ≠ c) (fun b n e => by
    subst e
    rw [remp_out out, hc] at n
    cases n) hv)
  exact .tup (SqT.of ht) (.cons (.str _) (.cons (.tup (SqT.of hu) (.cons h4 .nil)) .nil))
/-- data without lists has none at any address -/
theorem dpn_tup {N : Addr → Prop} {H : Hp} : ∀ {n : Nat} {d : PyData} {v : V}, tupd n d = true → Dp K H v d → DpN K N H v d
  | 0, _, _, e, _ => by cases e
  | _ + 1, _, _, _, .non => .non
  | _ + 1, _, _, _, .bl b => .bl b
  | _ + 1, _, _, _, .int i => .int i
  | _ + 1, _, _, _, .str x => .str x
  | _ + 1, _, _, e, .lst _ _ => by cases e
  | n + 1, .tuple ds, _, e, .tup q r => by
    simp only [tupd, Bool.and_eq_true, List.all_eq_true] at e
    have all : ∀ {xs : List V} {es : List PyData}, (∀ d ∈ es, tupd n d = true) → DpAll K H xs es → DpNs K N H xs es := by
      intro xs es he ha
      induction es generalizing xs with
      | nil =>
        cases ha
        exact .nil
      | cons d r ih =>
        cases ha with
        | cons h1 h2 => exact .cons (dpn_tup (he d (by simp)) h1) (ih (fun d hd => he d (by simp [hd])) h2)
    exact .tup q (all e.2 r)
/-- from an error of data without lists -/
theorem told_errT {H2 : Hp} {l : Pins} {x : Str} {C fI : Addr} {e : Ek} {t : PyData} {ds : List PyData} {i n : Nat} (M : ErrK K mg x C fI cG cM cN) (hp : ∀ b o, l.lookup b = some o → H2 b = some (pinO b o)) (hi : ds[i]? = some (.tuple [.str e.code, .tuple [t]])) (ht : tupd n t = true) :
    RaisE K C e t (remp H2 l) (fun cls d H3 => (∀ b o, l.lookup b = some o → H3 b = none) → ∃ (C' D : Addr) (fs : List (Str × V)) (e' : Ek) (ws : List V), cls = .ref C' ∧ d = some D ∧ ErrIs K C' fs e' ws ∧ PySem.W.exmAny K (.ref C') [.ref cG, .ref cM, .ref cN] = some true ∧ (addp H3 l) D = some (.xd fs) ∧
      ∀ t' u H4, Same (addp H3 l) H4 → (addp H3 l) t' = none → H4 u = some (.tup ws) → H4 t' = some (.tup [.str e'.code, .ref u]) → Same H2 H4 ∧ ∀ c xs, H2 c = some (.lst xs) → R11 K ds c i (.ref t') H4) := fun D fs v H3 s hD E hv n3 =>
  told_errL M hp hi D fs v H3 s hD E (dpn_tup ht hv) n3
theorem told_valT {H2 H3 H4 : Hp} {l : Pins} {t : Addr} {v : V} {dv : PyData} {ds : List PyData} {i n : Nat} (hi : ds[i]? = some (.tuple [.str "", dv])) (hn : tupd n dv = true) (hp : ∀ b o, l.lookup b = some o → H2 b = some (pinO b o)) (s : Same (remp H2 l) H3) (hv : Dp K H3 v dv) (n3 : ∀ b o, l.lookup b = some o → H3 b = none)
    (s4 : Same (addp H3 l) H4) (ht : H4 t = some (.tup [.str "", v])) : Same H2 H4 ∧ ∀ c xs, H2 c = some (.lst xs) → R11 K ds c i (.ref t) H4 := by
  refine ⟨(same_add s hp).trans s4, fun c xs hc d hd => ?_⟩
  rw [hi] at hd
  cases hd
  exact .tup (SqT.of ht) (.cons (.str _) (.cons (dpn_tup hn (Dp_same ((add_same n3).trans s4) hv)) .nil))
end

end Ag

namespace Ag
open PySem PySem.Spec PyProof.Rows L2
/-! ### Context(..), Context.of, with_row, without, + where they refuse -/
def numB : PyData → Bool
  | .int _ => true
  | _ => false
def plB (d : PyData) (m : Int) : Bool := match d with
  | .int n => decide (0 ≤ n) && decide (n < m)
  | _ => false
section
variable {P : Program} {w : World} {K : PySem.W.Frag} {mg : Str → Option Value} {base : Heap} {CK CC fK fC : Addr} {mc : Value} {C1 f1 C2 f2 C3 f3 cG cM cN : Addr} {d1 d2 d3 : FuncData}
def spCtx3 (K : PySem.W.Frag) (CC C2 C3 : Addr) : Sp := fun vs H Q E => ∃ (x p dx : Addr) (ys : List V) (ds : List PyData) (m : Nat), vs = [.ref x, .ref p] ∧ H x = some (.ins CC dx []) ∧ RowsIn K H p ys ∧ DpAll K H ys ds ∧ (∀ d ∈ ds, RwD m d) ∧ ds.length ≤ 1000 ∧ (∃ t, TyX K H (.ref p) (.type t) ∧ (t = "list" ∨ t = "tuple")) ∧
  match fstBad ds with
  | some i => RaisE K C3 .row (.int i) H E
  | none => if ds.length ≤ 40 then ∀ (a : Addr) (H' : Hp), HeldAt CC H' x a → SqT K H' a ys → Kp x H H' → Q .non H' else RaisE K C2 .many (.int 40) H E
theorem ok_ctx3 {f fT : Addr} {fd fdT : FuncData} {dv : List V} (F : FunD K "__init__" "Context.__init__" (defArgs s_Context_init) (defBody s_Context_init) (defScope s_Context_init) dv [] f fd) (GT : FnOk P w K mg base (L2.CX P w) 17 fT fdT ["rows"] (spTestedG K CK C3)) (mT : mg "tested_rows" = some (.ref fT)) (kT : PySem.W.keepIn K (.ref fT) = true) (bT : Binds K fdT ["rows"] []) (M : CtxM K mg CK CC fK fC mc)
    (ME : ErrK K mg "TooMany" C2 f2 cG cM cN) (GI : FnOk P w K mg base CX0 14 f2 d2 ["self", "most"] (spErr K C2 "most" .many)) (bI : Binds K d2 ["self", "most"] []) : FnOk P w K mg base (L2.CX P w) 18 f fd ["self", "rows"] (spCtx3 K CC C2 C3) := by
  refine F.ok scCtx (fun vs H Q E h => ?_) (fun cdv A outer s H vs Q E hr h => ?_)
  · obtain ⟨x, p, dx, ys, ds, m, rfl, _⟩ := h
    rfl
  obtain ⟨x, p, dx, ys, ds, m, rfl, hx, hp, hy, hok, h1000, ⟨t, tx, ht⟩, q⟩ := h
  have nd := scCtx.nd
  obtain ⟨uM, mM⟩ := M.mo
  refine ⟨_, pss_cons (ps_set (i := 2) nd rfl (.inl rfl) (pe_ifExp (pt_val (pe_callB call_isi (by rfl) M.isi (by decide +kernel) (pa_cons (pv 1) (pa_cons (pe_glob (v := .ref CK) (by rfl) M.gK rfl) pa_nil)))) (pv 1) (pe_call GT (hr.mono (by decide)) (by rfl) mT kT bT .nil (L2.passes_call (L2.takes_of rfl rfl rfl rfl) (fun _ _ _ _ h => h)) (pa_cons (pv 1) pa_nil))))
    (pss_cons (ps_if (pt_cmpR op_gt (pe_callB call_len_seq (by rfl) M.len boot_len (pa_cons (pe_fld (pv 2) rfl) pa_nil)) (ClX.pe_cval (pe_glob (v := .ref CC) (by rfl) M.gC rfl)) (nomark _)) (pss_one (ps_raise rfl (L2.takes_of rfl rfl rfl rfl) (pmk_oex ME.o ME.iC ME.tI GI (hr.mono (by decide)) bI .nil pass0 (by rfl) ME.m (pa_cons (ClX.pe_cval (pe_glob (v := .ref CC) (by rfl) M.gC rfl)) pa_nil)))) pss_nil)
    (pss_one (ps_fld (pv 0) (pe_fld (pv 2) rfl) rfl))), ?_⟩
  have kt : PySem.W.kitOne K (.type t) (.ref CK) = some false := by
    rcases ht with rfl | rfl
    · exact M.il
    · exact M.it
  refine ⟨_, rfl, .ref p, .ref CK, _, .ref CK, false, rfl, .own _, tx, kt, _, rfl, iteE rfl ?_⟩
  refine ⟨_, rfl, p, ys, ds, m, rfl, hp, hy, hok, h1000, ?_⟩
  have ly := dpall_len hy
  cases e : fstBad ds with
  | some i =>
    rw [e] at q
    exact q
  | none =>
    rw [e] at q
    simp only [] at q ⊢
    intro k a H1 hk ha s1
    obtain ⟨dk, ek⟩ := hk
    refine ⟨_, rfl, k, CK, dk, _, _, rfl, ek, M.cK, M.nK, lk1, ?_⟩
    refine ⟨a, ys, rfl, .inr ha, CC, mc, .int 40, uM, rfl, M.rd, mM, _, _, rfl, rfl, _, rfl, ?_⟩
    by_cases e4 : ds.length ≤ 40
    · rw [if_pos e4] at q
      refine iteE ?_ ?_
      · show decide ((40 : Int) < (ys.length : Int)) = false
        exact decide_eq_false (by omega)
      · refine ⟨_, rfl, k, CK, dk, _, _, rfl, ek, M.cK, M.nK, lk1, ?_⟩
        have ex := s1 _ _ hx
        refine ⟨_, rfl, x, CC, dx, [], rfl, ex, M.cC, M.nC, (by show 0 < 1000; decide), ?_⟩
        have kk : Kp x H1 (upd H1 x (.ins CC dx (putF "held" (.ref a) []))) := kp_upd
        exact q a _ ⟨dx, upd_same⟩ (insT ex kk ha) fun c o e hn => kk c o (s1 c o e) hn
    · rw [if_neg e4] at q
      refine iteU ?_ ?_
      · show decide ((40 : Int) < (ys.length : Int)) = true
        exact decide_eq_true (by omega)
      · refine ⟨CC, mc, .int 40, uM, rfl, M.rd, mM, ?_⟩
        exact rais_mk (m := 1) ME rfl (by decide) (by decide) (.int 40) rfl (rais_same s1 q)
/-- Context.of(..), where it refuses a row -/
def spCOf3 (K : PySem.W.Frag) (C3 : Addr) : Sp := fun vs H Q E => ∃ (p : Addr) (ys : List V) (ds : List PyData) (m i : Nat), vs = [.ref p] ∧ H p = some (.tup ys) ∧ DpAll K H ys ds ∧ (∀ d ∈ ds, RwD m d) ∧ ds.length ≤ 1000 ∧ fstBad ds = some i ∧ RaisE K C3 .row (.int i) H E
def spCOfs3 (K : PySem.W.Frag) (C3 : Addr) : Sp := fun vs H Q E => ∃ ws rest, vs = ws ++ rest ∧ ws.length = 0 ∧ rest.length ≤ sizeLine ∧ ∀ p, H p = Option.none → spCOf3 K C3 (ws ++ [V.ref p]) (upd H p (.tup rest)) Q E
theorem scCOf : FnScope ["rows"] (([] : List Str) ++ (["rows"] : List Str)) (defScope s_Context_of) := ⟨rfl, rfl, rfl, by decide +kernel, rfl, by decide +kernel, by decide +kernel⟩
theorem ok_cof3 {f : Addr} {fd fdC : FuncData} (F : Fun K "of" "Context.of" s_Context_of f fd) (GC : FnOk P w K mg base (L2.CX P w) 18 fC fdC ["self", "rows"] (spCtx3 K CC C2 C3)) (bC : Binds K fdC ["self", "rows"] []) (M : CtxM K mg CK CC fK fC mc) : FnR P w K mg base (L2.CX P w) 20 f (spCOfs3 K C3) := by
  obtain ⟨oc, od, kV, doc, pm, an, cdv, ct, osl, rfl, lk, hcd⟩ := F.ex
  refine StX.fn_star (ps := ([] : List Str)) (pv := "rows") lk hcd scCOf StX.cxUp (fun us rest hl => match us, rest, hl with | [], [], _ => rfl | [], r :: rs, _ => rfl) fun A outer s H vs Q E hr h => ?_
  obtain ⟨p, ys, ds, m, i, rfl, hp, hy, hok, h1000, hi, q⟩ := h
  refine ⟨_, pss_one (ps_ret (pe_make M.kC GC (hr.mono (by decide)) (by rfl) M.gC bC .nil (L2.passes_call (L2.takes_of rfl rfl rfl rfl) (fun _ _ _ _ h => h)) (pa_cons (pv 0) pa_nil))), ?_⟩
  refine ⟨_, rfl, ?_⟩
  intro z dz nz ndz nez
  have t3 := made0 (C := CC) nz ndz
  refine ⟨z, p, dz, ys, ds, m, rfl, upd_same, .inr (SqT.of (t3 _ _ hp)), DpAll_same t3 hy, hok, h1000, ⟨"tuple", .base (.tup (t3 _ _ hp)), .inr rfl⟩, ?_⟩
  rw [hi]
  exact rais_same t3 q
/-! ### is_number, is_place of data of any kind -/
def spNumberD (K : PySem.W.Frag) : Sp := fun vs H Q _ => ∃ (x : V) (d : PyData), vs = [x] ∧ Dp K H x d ∧ Q (.bl (numB d)) H
theorem ok_numberD {f : Addr} {fd : FuncData} (F : Fun K "is_number" "is_number" s_is_number f fd) (mI : mg "isinstance" = none) (mi : mg "int" = none) (mb : mg "bool" = none) : FnOk P w K mg base CX0 1 f fd ["value"] (spNumberD K) := by
  refine F.ok scNumber (fun vs H Q E h => ?_) (fun cdv A outer s H vs Q E hr h => ?_)
  · obtain ⟨x, d, rfl, _⟩ := h
    rfl
  obtain ⟨x, d, rfl, hx, q⟩ := h
  refine ⟨_, pss_one (ps_ret (pe_and (pe_callB call_isi (by rfl) mI (by decide +kernel) (pa_cons (pv 0) (pa_cons (pe_bltn (v := .ty "int") (u := .type "int") (by rfl) mi (by decide +kernel) rfl) pa_nil))) (pe_one (pe_not (pe_callB call_isi (by rfl) mI (by decide +kernel) (pa_cons (pv 0) (pa_cons (pe_bltn (v := .ty "bool") (u := .type "bool") (by rfl) mb (by decide +kernel) rfl) pa_nil))))))), ?_⟩
  refine ⟨_, rfl, x, .ty "int", _, .type "int", isD "int" d, rfl, .ty _, dp_tyx hx, isk (by cases d <;> (simp only [tyD]; decide +kernel)), _, rfl, ?_⟩
  cases d with
  | int n => exact iteU (by simp only [isD, tyD]; decide +kernel) ⟨_, rfl, _, .ty "bool", _, .type "bool", isD "bool" _, rfl, .ty _, dp_tyx hx, isk (by simp only [tyD]; decide +kernel), _, rfl, (by
      have e : isD "bool" (.int n) = false := by simp only [isD, tyD]; decide +kernel
      rw [e]
      exact q)⟩
  | bool b => exact iteU (by simp only [isD, tyD]; decide +kernel) ⟨_, rfl, _, .ty "bool", _, .type "bool", isD "bool" _, rfl, .ty _, dp_tyx hx, isk (by simp only [tyD]; decide +kernel), _, rfl, (by
      have e : isD "bool" (.bool b) = true := by simp only [isD, tyD]; decide +kernel
      rw [e]
      exact q)⟩
  | none =>
    have e : isD "int" .none = false := by simp only [isD, tyD]; decide +kernel
    rw [e]
    exact q
  | str s =>
    have e : isD "int" (.str s) = false := by simp only [isD, tyD]; decide +kernel
    rw [e]
    exact q
  | list s =>
    have e : isD "int" (.list s) = false := by simp only [isD, tyD]; decide +kernel
    rw [e]
    exact q
  | tuple s =>
    have e : isD "int" (.tuple s) = false := by simp only [isD, tyD]; decide +kernel
    rw [e]
    exact q
  | dict s =>
    have e : isD "int" (.dict s) = false := by simp only [isD, tyD]; decide +kernel
    rw [e]
    exact q
def spPlaceD (K : PySem.W.Frag) : Sp := fun vs H Q _ => ∃ (x : V) (d : PyData) (m : Int), vs = [x, .int m] ∧ Dp K H x d ∧ Q (.bl (plB d m)) H
theorem ok_placeD {f : Addr} {fd : FuncData} (F : Fun K "is_place" "is_place" s_is_place f fd) (cN : C8.Cal P w K mg base 1 "is_number" (spNumberD K) []) : FnOk P w K mg base CX0 2 f fd ["value", "many"] (spPlaceD K) := by
  refine F.ok scPlace (fun vs H Q E h => ?_) (fun cdv A outer s H vs Q E hr h => ?_)
  · obtain ⟨x, d, m, rfl, _⟩ := h
    rfl
  obtain ⟨x, d, m, rfl, hx, q⟩ := h
  refine ⟨_, pss_one (ps_ret (pe_and (C8.pe_c cN hr (by decide) (by rfl) (pa_cons (pv 0) pa_nil)) (pe_one (pe_chain op_le op_lt pe_int (pv 0) (pv 1))))), ?_⟩
  refine ⟨_, rfl, x, d, rfl, hx, _, rfl, ?_⟩
  cases d with
  | int n =>
    cases hx
    refine iteU rfl ⟨_, rfl, _, _, rfl, rfl, _, rfl, ?_⟩
    unfold plB at q
    by_cases h0 : (0 : Int) ≤ n
    · refine iteU (decide_eq_true h0) ⟨_, rfl, _, _, rfl, rfl, ?_⟩
      show Q (V.bl (decide (n < m))) H
      have e : (decide (0 ≤ n) && decide (n < m)) = decide (n < m) := by rw [decide_eq_true h0, Bool.true_and]
      rw [← e]
      exact q
    · have e : (decide (0 ≤ n) && decide (n < m)) = false := by rw [decide_eq_false h0, Bool.false_and]
      refine iteE (decide_eq_false h0) ?_
      have q2 : Q (.bl (decide (0 ≤ n) && decide (n < m))) H := q
      rw [e] at q2
      exact q2
  | none => exact iteE rfl q
  | bool b => exact iteE rfl q
  | str s => exact iteE rfl q
  | list s => exact iteE rfl q
  | tuple s => exact iteE rfl q
  | dict s => exact iteE rfl q
end

end Ag

namespace Ag
open PySem PySem.Spec PyProof.Rows L2
section
variable {P : Program} {w : World} {K : PySem.W.Frag} {mg : Str → Option Value} {base : Heap} {CK CC fK fC : Addr} {mc : Value} {C1 f1 C2 f2 cG cM cN : Addr} {d1 d2 : FuncData}
def spCtxG (K : PySem.W.Frag) (CK CC C2 : Addr) : Sp := fun vs H Q E => ∃ (x k a dx : Addr) (ys : List V), vs = [.ref x, .ref k] ∧ H x = some (.ins CC dx []) ∧ HeldAt CK H k a ∧ SqT K H a ys ∧ if ys.length ≤ 40 then
  ∀ (H' : Hp), HeldAt CC H' x a → SqT K H' a ys → Kp x H H' → Q .non H' else RaisE K C2 .many (.int 40) H E
theorem ok_ctxG {f : Addr} {fd : FuncData} {dv : List V} (F : FunD K "__init__" "Context.__init__" (defArgs s_Context_init) (defBody s_Context_init) (defScope s_Context_init) dv [] f fd) (cT : C8.Cal P w K mg base 17 "tested_rows" (spTested K CK) []) (M : CtxM K mg CK CC fK fC mc)
    (ME : ErrK K mg "TooMany" C2 f2 cG cM cN) (GI : FnOk P w K mg base CX0 14 f2 d2 ["self", "most"] (spErr K C2 "most" .many)) (bI : Binds K d2 ["self", "most"] []) : FnOk P w K mg base (L2.CX P w) 18 f fd ["self", "rows"] (spCtxG K CK CC C2) := by
  refine F.ok scCtx (fun vs H Q E h => ?_) (fun cdv A outer s H vs Q E hr h => ?_)
  · obtain ⟨x, k, a, dx, ys, rfl, _⟩ := h
    rfl
  obtain ⟨x, k, a, dx, ys, rfl, hx, hk, ha, q⟩ := h
  have nd := scCtx.nd
  obtain ⟨uM, mM⟩ := M.mo
  refine ⟨_, pss_cons (ps_set (i := 2) nd rfl (.inl rfl) (pe_ifExp (pt_val (pe_callB call_isi (by rfl) M.isi (by decide +kernel) (pa_cons (pv 1) (pa_cons (pe_glob (v := .ref CK) (by rfl) M.gK rfl) pa_nil)))) (pv 1) (C8.pe_c cT hr (by decide) (by rfl) (pa_cons (pv 1) pa_nil))))
    (pss_cons (ps_if (pt_cmpR op_gt (pe_callB call_len_seq (by rfl) M.len boot_len (pa_cons (pe_fld (pv 2) rfl) pa_nil)) (ClX.pe_cval (pe_glob (v := .ref CC) (by rfl) M.gC rfl)) (nomark _)) (pss_one (ps_raise rfl (L2.takes_of rfl rfl rfl rfl) (pmk_oex ME.o ME.iC ME.tI GI (hr.mono (by decide)) bI .nil pass0 (by rfl) ME.m (pa_cons (ClX.pe_cval (pe_glob (v := .ref CC) (by rfl) M.gC rfl)) pa_nil)))) pss_nil)
    (pss_one (ps_fld (pv 0) (pe_fld (pv 2) rfl) rfl))), ?_⟩
  obtain ⟨dk, ek⟩ := hk
  refine ⟨_, rfl, .ref k, .ref CK, _, .ref CK, true, rfl, .own _, .base (TyOf.ins ek M.cK M.ha M.hn M.tk M.mr), M.ik, _, rfl, iteU rfl ?_⟩
  refine ⟨_, rfl, ?_⟩
  refine ⟨_, rfl, k, CK, dk, _, _, rfl, ek, M.cK, M.nK, lk1, ?_⟩
  refine ⟨a, ys, rfl, .inr ha, CC, mc, .int 40, uM, rfl, M.rd, mM, _, _, rfl, rfl, _, rfl, ?_⟩
  by_cases e : ys.length ≤ 40
  · rw [if_pos e] at q
    refine iteE ?_ ?_
    · show decide ((40 : Int) < (ys.length : Int)) = false
      exact decide_eq_false (by omega)
    · refine ⟨_, rfl, k, CK, dk, _, _, rfl, ek, M.cK, M.nK, lk1, ?_⟩
      refine ⟨_, rfl, x, CC, dx, [], rfl, hx, M.cC, M.nC, (by show 0 < 1000; decide), ?_⟩
      have kk : Kp x H (upd H x (.ins CC dx (putF "held" (.ref a) []))) := kp_upd
      exact q _ ⟨dx, upd_same⟩ (insT hx kk ha) kk
  · rw [if_neg e] at q
    refine iteU ?_ ?_
    · show decide ((40 : Int) < (ys.length : Int)) = true
      exact decide_eq_true (by omega)
    · refine ⟨CC, mc, .int 40, uM, rfl, M.rd, mM, ?_⟩
      exact rais_mk (m := 1) ME rfl (by decide) (by decide) (.int 40) rfl q
end
section
variable {P : Program} {w : World} {K : PySem.W.Frag} {mg : Str → Option Value} {base : Heap} {CK CC fK fC : Addr} {mc : Value} {C1 f1 C2 f2 C3 f3 C4 f4 cG cM cN : Addr} {d1 d2 d3 d4 : FuncData}
/-! ### + of too many -/
def spAddR (K : PySem.W.Frag) (CC C2 : Addr) : Sp := fun vs H Q E => ∃ (x y a b : Addr) (xs ys : List V), vs = [.ref x, .ref y] ∧ HeldAt CC H x a ∧ SqT K H a xs ∧ HeldAt CC H y b ∧ SqT K H b ys ∧ 40 < xs.length + ys.length ∧ xs.length + ys.length ≤ 100 ∧ RaisE K C2 .many (.int 40) H E
theorem ok_addR {f : Addr} {fd fdC fdK : FuncData} (F : Fun K "__add__" "Context.__add__" s_Context_add f fd) (GC : FnOk P w K mg base (L2.CX P w) 18 fC fdC ["self", "rows"] (spCtxG K CK CC C2)) (bC : Binds K fdC ["self", "rows"] [])
    (GK : FnOk P w K mg base CX0 1 fK fdK ["self", "rows"] (spKn K CK)) (bK : Binds K fdK ["self", "rows"] []) (M : CtxM K mg CK CC fK fC mc) (I : CtxI K CC) : FnOk P w K mg base (L2.CX P w) 20 f fd ["self", "other"] (spAddR K CC C2) := by
  refine F.okX scAdd (fun vs H Q E h => ?_) (fun cdv A outer s H vs Q E hr h => ?_)
  · obtain ⟨x, y, a, b, xs, ys, rfl, _⟩ := h
    rfl
  obtain ⟨x, y, a, b, xs, ys, rfl, ⟨dx, ex⟩, ha, ⟨dy, ey⟩, hb, h40, h100, q⟩ := h
  refine ⟨_, pss_cons (ps_if (pt_not (pt_val (pe_callB call_isi (by rfl) M.isi (by decide +kernel) (pa_cons (pv 1) (pa_cons (pe_glob (v := .ref CC) (by rfl) M.gC rfl) pa_nil))))) (pss_one ps_never) pss_nil)
    (pss_one (ps_ret (pe_make M.kC GC (hr.mono (by decide)) (by rfl) M.gC bC .nil (L2.passes_call (L2.takes_of rfl rfl rfl rfl) (fun _ _ _ _ h => h)) (pa_cons (pe_make M.kK GK (hr.mono (by decide)) (by rfl) M.gK bK .nil pass0 (pa_cons (pe_op op_catA (pe_fld (pv 0) rfl) (pe_fld (pv 1) rfl)) pa_nil)) pa_nil)))), ?_⟩
  refine ⟨_, rfl, .ref y, .ref CC, _, .ref CC, true, rfl, .own _, .base (TyOf.ins ey M.cC I.ha M.hn M.tk I.mr), (if_pos (beq_self_eq_true _)), _, rfl, iteE rfl ?_⟩
  refine ⟨_, rfl, x, CC, dx, _, _, rfl, ex, M.cC, M.nC, lk1, _, rfl, y, CC, dy, _, _, rfl, ey, M.cC, M.nC, lk1, ?_⟩
  refine catA_of ha hb (small (by omega)) fun p H1 s1 hp => ?_
  intro k dk nk ndk nek
  have t1 := made0 (C := CK) nk ndk
  refine ⟨k, p, dk, xs ++ ys, rfl, upd_same, .inr (sameT t1 hp), fun a2 H2 hk ha2 kk => ⟨rfl, ?_⟩⟩
  have s2 := made1 nk ndk kk
  intro z dz nz ndz nez
  have t3 := made0 (C := CC) nz ndz
  refine ⟨z, k, a2, dz, xs ++ ys, rfl, upd_same, hk.same t3, sameT t3 ha2, ?_⟩
  rw [if_neg (by rw [List.length_append]; omega)]
  exact rais_same (s1.trans (s2.trans t3)) q
/-! ### without, where a place is wrong: without(0, v, None) -/
def spWoR (K : PySem.W.Frag) (CC C4 : Addr) : Sp := fun vs H Q E => ∃ (x tp a : Addr) (ys : List V) (v : V) (d : PyData) (m : Nat), vs = [.ref x, .ref tp] ∧ HeldAt CC H x a ∧ SqT K H a ys ∧ H tp = some (.tup [.int 0, v, .non]) ∧ 1 ≤ ys.length ∧ ys.length ≤ 40 ∧ Dp K H v d ∧ m ≤ 12 ∧ lstd m d = true ∧ plB d ys.length = false ∧ RaisL K C4 .number d H E
def spWithoutR (K : PySem.W.Frag) (CC C4 : Addr) : Sp := fun vs H Q E => ∃ ws rest, vs = ws ++ rest ∧ ws.length = 1 ∧ rest.length ≤ sizeLine ∧ ∀ p, H p = Option.none → spWoR K CC C4 (ws ++ [V.ref p]) (upd H p (.tup rest)) Q E
theorem ok_withoutR {f : Addr} {fd fdC fdK : FuncData} (F : Fun K "without" "Context.without" s_Context_without f fd) (cP : C8.Cal P w K mg base 2 "is_place" (spPlaceD K) []) (GC : FnOk P w K mg base (L2.CX P w) 18 fC fdC ["self", "rows"] (spCtxG K CK CC C2)) (bC : Binds K fdC ["self", "rows"] [])
    (GK : FnOk P w K mg base CX0 1 fK fdK ["self", "rows"] (spKn K CK)) (bK : Binds K fdK ["self", "rows"] []) (M : CtxM K mg CK CC fK fC mc) (ME : ErrK K mg "InvalidNumber" C4 f4 cG cM cN) (GI : FnOk P w K mg base CX0 14 f4 d4 ["self", "value"] (spErrL K C4 "value" .number)) (bI : Binds K d4 ["self", "value"] []) : FnR P w K mg base (L2.CX P w) 20 f (spWithoutR K CC C4) := by
  obtain ⟨oc, od, kV, doc, pm, an, cdv, ct, osl, rfl, lk, hcd⟩ := F.ex
  refine StX.fn_star (ps := (["self"] : List Str)) (pv := "places") lk hcd scWo StX.cxUp (fun us rest hl => match us, rest, hl with | [a], [], _ => rfl | [a], r :: rs, _ => rfl) fun A outer s H vs Q E hr h => ?_
  obtain ⟨x, tp, a, ys, v, d, m, rfl, ⟨dx, ex⟩, ha, hp, h1, h40, hv, hm, hd, hpl, q⟩ := h
  have nd := scWo.nd
  refine ⟨_, pss_cons (ps_for (L2.passes_of rfl) rfl (pi_tup (pv 1)) (pg_name (i := 2) nd rfl (.inl rfl))
      (pss_one (ps_if (pt_not (pt_val (C8.pe_c cP hr (by decide) (by rfl) (pa_cons (pv 2) (pa_cons (pe_callB call_len_seq (by rfl) M.len boot_len (pa_cons (pe_fld (pv 0) rfl) pa_nil)) pa_nil))))) (pss_one (ps_raise rfl (L2.takes_of rfl rfl rfl rfl) (pmk_oex ME.o ME.iC ME.tI GI (hr.mono (by decide)) bI .nil pass0 (by rfl) ME.m (pa_cons (pv 2) pa_nil)))) pss_nil)))
    (pss_cons (ps_setLc (i := 3) (own := [("at", 4), ("row", 5)]) (g := gTup K 2 (gCons (gName 4) (gCons (gName 5) gNil))) (tt := tTest (tOp (rIn K true) (tVar 4) (tVar 1))) (by rfl) nd rfl rfl (sw_true rfl rfl rfl (by decide +kernel)) (pi_enumA (by rfl) M.enum (pa_cons (pe_fld (pv 0) rfl) pa_nil))
        (blkOk_by (own := [("at", 4), ("row", 5)]) (N := nWo) (sc := defScope s_Context_without) (by decide +kernel)) (fun _ _ _ _ _ => pg_tup rfl (pgs_cons (pg_name (i := 4) nd rfl (Or.inl rfl)) (pgs_cons (pg_name (i := 5) nd rfl (Or.inl rfl)) pgs_nil))) (fun _ _ _ _ _ => pts_one (pt_cmpR op_notIn_seq (pv 4) (pv 1) (by with_unfolding_all rfl)))
        (fun _ _ _ _ _ => pv 5))
    (pss_one (ps_ret (pe_make M.kC GC (hr.mono (by decide)) (by rfl) M.gC bC .nil (L2.passes_call (L2.takes_of rfl rfl rfl rfl) (fun _ _ _ _ h => h)) (pa_cons (pe_make M.kK GK (hr.mono (by decide)) (by rfl) M.gK bK .nil pass0 (pa_cons (pv 3) pa_nil)) pa_nil))))), ?_⟩
  refine ⟨_, rfl, tp, rfl, ⟨_, SqT.of hp⟩, for_tup (K := K) (a := tp) (xs := [.int 0, v, .non]) (fun i σ H' => i ≤ 1 ∧ ∃ v2, σ = [some (.ref x), some (.ref tp), v2, none, none, none] ∧ H' = H) ⟨Nat.zero_le _, none, rfl, rfl⟩ (fun i σ H' _ ⟨_, _, _, e⟩ => by rw [e]; exact SqT.of hp) ?_ ?_⟩
  · rintro i u σ H' hi ⟨hi1, v2, rfl, rfl⟩
    match i, hi1, hi with
    | 0, _, hi =>
      cases hi
      refine ⟨_, rfl, _, rfl, x, CC, dx, _, _, rfl, ex, M.cC, M.nC, lk1, a, ys, rfl, .inr ha, _, .int 0, _, rfl, .int 0, _, rfl, iteE ?_ ⟨Nat.le_refl _, _, rfl, rfl⟩⟩
      show (!(decide ((0 : Int) ≤ 0) && decide ((0 : Int) < (ys.length : Int)))) = false
      rw [decide_eq_true (show (0 : Int) < (ys.length : Int) by omega)]
      rfl
    | 1, _, hi =>
      cases hi
      refine ⟨_, rfl, _, rfl, x, CC, dx, _, _, rfl, ex, M.cC, M.nC, lk1, a, ys, rfl, .inr ha, _, d, _, rfl, hv, _, rfl, iteU (by rw [hpl]; rfl) ?_⟩
      exact ⟨_, rfl, rais_mkL ME rfl (by decide) (by decide) hv hm hd q⟩
  · rintro σ H' ⟨hi1, _⟩
    exact absurd hi1 (by show ¬ 3 ≤ 1; decide)
/-! ### with_row, where it refuses -/
def spWithR (K : PySem.W.Frag) (CC C2 C3 C4 : Addr) : Sp := fun vs H Q E => ∃ (x a : Addr) (ys : List V) (av nv fv : V) (da dn df : PyData) (m : Nat), vs = [.ref x, av, nv, fv] ∧ HeldAt CC H x a ∧ SqT K H a ys ∧ ys.length ≤ 40 ∧ Dp K H av da ∧ Dp K H nv dn ∧ Dp K H fv df ∧ m ≤ 12 ∧ tupd m da = true ∧
  if plB da (ys.length + 1) = true then RwD 12 (.tuple [dn, df]) ∧ (if rowB (.tuple [dn, df]) = some true then ys.length = 40 ∧ RaisE K C2 .many (.int 40) H E else RaisE K C3 .row da H E) else RaisE K C4 .number da H E
theorem tupd_lstd : ∀ {n : Nat} {d : PyData}, tupd n d = true → lstd n d = true
  | 0, _, e => by cases e
  | n + 1, .tuple ds, e => by
    simp only [tupd, Bool.and_eq_true, List.all_eq_true] at e
    simp only [lstd, Bool.and_eq_true, List.all_eq_true]
    exact ⟨e.1, fun d hd => tupd_lstd (e.2 d hd)⟩
  | _ + 1, .list _, e => by cases e
  | _ + 1, .dict _, e => by cases e
  | _ + 1, .none, _ => rfl
  | _ + 1, .bool _, _ => rfl
  | _ + 1, .int _, _ => rfl
  | _ + 1, .str _, _ => rfl
theorem raisL_of {C : Addr} {e : Ek} {t : PyData} {H : Hp} {E : XK} (r : RaisE K C e t H E) : RaisL K C e t H E := fun D fs v H' s h1 h2 h3 => r D fs v H' s h1 h2 (dpn_dp h3)
theorem ok_withR {f : Addr} {fd fdC fdK : FuncData} (F : Fun K "with_row" "Context.with_row" s_Context_with_row f fd) (cP : C8.Cal P w K mg base 2 "is_place" (spPlaceD K) []) (cR : C8.Cal P w K mg base 16 "is_row" (spRowD K) []) (GC : FnOk P w K mg base (L2.CX P w) 18 fC fdC ["self", "rows"] (spCtxG K CK CC C2)) (bC : Binds K fdC ["self", "rows"] [])
    (GK : FnOk P w K mg base CX0 1 fK fdK ["self", "rows"] (spKn K CK)) (bK : Binds K fdK ["self", "rows"] []) (M : CtxM K mg CK CC fK fC mc) (ME : ErrK K mg "InvalidNumber" C4 f4 cG cM cN) (GI : FnOk P w K mg base CX0 14 f4 d4 ["self", "value"] (spErrL K C4 "value" .number)) (bI : Binds K d4 ["self", "value"] [])
    (MR : ErrK K mg "InvalidRow" C3 f3 cG cM cN) (GR : FnOk P w K mg base CX0 14 f3 d3 ["self", "at"] (spErr K C3 "at" .row)) (bR : Binds K d3 ["self", "at"] []) : FnOk P w K mg base (L2.CX P w) 20 f fd ["self", "at", "name", "formula"] (spWithR K CC C2 C3 C4) := by
  refine F.okX scWith (fun vs H Q E h => ?_) (fun cdv A outer s H vs Q E hr h => ?_)
  · obtain ⟨x, a, ys, av, nv, fv, da, dn, df, m, rfl, _⟩ := h
    rfl
  obtain ⟨x, a, ys, av, nv, fv, da, dn, df, m, rfl, ⟨dx, ex⟩, ha, h40, hA, hN, hF, hm, ht, q⟩ := h
  have nd := scWith.nd
  refine ⟨_, pss_cons (ps_if (pt_not (pt_val (C8.pe_c cP hr (by decide) (by rfl) (pa_cons (pv 1) (pa_cons (pe_op op_add (pe_callB call_len_seq (by rfl) M.len boot_len (pa_cons (pe_fld (pv 0) rfl) pa_nil)) pe_int) pa_nil))))) (pss_one (ps_raise rfl (L2.takes_of rfl rfl rfl rfl) (pmk_oex ME.o ME.iC ME.tI GI (hr.mono (by decide)) bI .nil pass0 (by rfl) ME.m (pa_cons (pv 1) pa_nil)))) pss_nil)
    (pss_cons (ps_set (i := 4) nd rfl (.inl rfl) (pe_tup (pa_cons (pv 2) (pa_cons (pv 3) pa_nil))))
    (pss_cons (ps_if (pt_not (pt_val (C8.pe_c cR hr (by decide) (by rfl) (pa_cons (pv 4) pa_nil)))) (pss_one (ps_raise rfl (L2.takes_of rfl rfl rfl rfl) (pmk_oex MR.o MR.iC MR.tI GR (hr.mono (by decide)) bR .nil pass0 (by rfl) MR.m (pa_cons (pv 1) pa_nil)))) pss_nil)
    (pss_one (ps_ret (pe_make M.kC GC (hr.mono (by decide)) (by rfl) M.gC bC .nil (L2.passes_call (L2.takes_of rfl rfl rfl rfl) (fun _ _ _ _ h => h)) (pa_cons (pe_make M.kK GK (hr.mono (by decide)) (by rfl) M.gK bK .nil pass0 (pa_cons
      (pe_op op_catA (pe_op op_catA (pe_slice sl_tupA (pe_fld (pv 0) rfl) po_none (po_some (pv 1))) (pe_tup (pa_cons (pv 4) pa_nil))) (pe_slice sl_tupA (pe_fld (pv 0) rfl) (po_some (pv 1)) po_none)) pa_nil)) pa_nil)))))), ?_⟩
  refine ⟨_, rfl, _, rfl, x, CC, dx, _, _, rfl, ex, M.cC, M.nC, lk1, a, ys, rfl, .inr ha, _, _, rfl, rfl, _, da, _, rfl, hA, _, rfl, ?_⟩
  by_cases e1 : plB da (ys.length + 1) = true
  · rw [if_pos e1] at q
    obtain ⟨rw1, q⟩ := q
    refine iteE (by rw [e1]; rfl) ⟨_, rfl, _, rfl, (by show 2 ≤ sizeLine; decide), fun r nr => ?_⟩
    have g := same_new nr (.tup [nv, fv])
    obtain ⟨b, hb⟩ := rw1.val
    refine ⟨_, rfl, .ref r, 12, b, .tuple [dn, df], rfl, .tup (SqT.of upd_same) (.cons (Dp_same g hN) (.cons (Dp_same g hF) .nil)), rw1.ok, rw1.shp, hb, fun H3 s3 => ⟨_, rfl, ?_⟩⟩
    have g3 := g.trans s3
    cases b with
    | false =>
      rw [hb, if_neg (by decide)] at q
      exact iteU rfl ⟨_, rfl, rais_mk MR rfl (by decide) (by decide) (Dp_same g3 hA) ht (rais_same g3 q)⟩
    | true =>
      rw [hb, if_pos rfl] at q
      obtain ⟨e40, q⟩ := q
      refine iteE rfl ?_
      -- a place
      obtain ⟨n, rfl, hn⟩ : ∃ n : Nat, da = .int (n : Int) ∧ n ≤ ys.length := by
        cases da with
        | int z =>
          have e2 : (decide (0 ≤ z) && decide (z < ((ys.length : Int) + 1))) = true := e1
          rw [Bool.and_eq_true, decide_eq_true_eq, decide_eq_true_eq] at e2
          exact ⟨z.toNat, by rw [Int.toNat_of_nonneg e2.1], by omega⟩
        | _ => cases e1
      cases hA
      have ex2 := g3 _ _ ex
      have ha2 := sameT g3 ha
      refine ⟨_, rfl, x, CC, dx, _, _, rfl, ex2, M.cC, M.nC, lk1, ?_⟩
      refine ⟨_, rfl, (n : Int), rfl, slA_of ha2 (cut_to hn) fun p3 H4 s4 hp3 => ?_⟩
      refine ⟨_, rfl, (by show 1 ≤ sizeLine; decide), fun t4 nt4 => ?_⟩
      have g4 := same_new nt4 (.tup [.ref r])
      refine catA_of (sameT g4 hp3) (SqT.of upd_same) (by rw [List.length_take]; show min n ys.length + 1 ≤ sizeLine; exact small (by omega)) fun p5 H5 s5 hp5 => ?_
      have s25 := s4.trans (g4.trans s5)
      refine ⟨_, rfl, x, CC, dx, _, _, rfl, s25 _ _ ex2, M.cC, M.nC, lk1, ?_⟩
      refine ⟨_, rfl, (n : Int), rfl, ?_⟩
      unfold tNoPart
      refine slA_of (sameT s25 ha2) (cut_from hn) fun p6 H6 s6 hp6 => ?_
      refine catA_of (sameT s6 hp5) hp6 (by rw [List.length_append, List.length_take, List.length_drop]; show min n ys.length + 1 + (ys.length - n) ≤ sizeLine; exact small (by omega)) fun p H7 s7 hp => ?_
      intro k dk nk ndk nek
      have t1 := made0 (C := CK) nk ndk
      refine ⟨k, p, dk, _, rfl, upd_same, .inr (sameT t1 hp), fun a2 H8 hk ha8 kk => ⟨rfl, ?_⟩⟩
      have s8 := made1 nk ndk kk
      intro z dz nz ndz nez
      have t3 := made0 (C := CC) nz ndz
      refine ⟨z, k, a2, dz, _, rfl, upd_same, hk.same t3, sameT t3 ha8, ?_⟩
      rw [if_neg (by rw [List.length_append, List.length_append, List.length_take, List.length_drop]; show ¬ min n ys.length + 1 + (ys.length - n) ≤ 40; omega)]
      exact rais_same (g3.trans (s25.trans (s6.trans (s7.trans (s8.trans t3))))) q
  · rw [if_neg e1] at q
    have e2 : plB da (ys.length + 1) = false := by simpa using e1
    refine iteU (by rw [e2]; rfl) ⟨_, rfl, rais_mkL ME rfl (by decide) (by decide) hA hm (tupd_lstd ht) (raisL_of q)⟩
end

end Ag

namespace Ag
open PySem PySem.Spec PyProof.Rows L2
theorem okR_ok {ns ws : List (List Nat)} {n m : Nat} (hN : Nms n ns) (hW : Nms m ws) {r : Row} (h : okR ns ws r) : Rok r ∧ isRw r = true := by
  obtain ⟨h1, h2⟩ := h
  obtain ⟨l1, l2, l3⟩ := hN.word _ h1
  have lw : ∀ w ∈ ws, Low w := fun w hw => (hW.word w hw).1
  have lh : ∀ c ∈ ([] : List (List Nat)), Low c := fun c h => (by cases h)
  have nmw : ∀ w ∈ ws, isNm w = true := fun w hw => by
    obtain ⟨a1, a2, a3⟩ := hW.word w hw
    rw [isNm_low a1 a2]
    exact decide_eq_true (by omega)
  have s1 := ok_shaped lw lh h2 (by decide)
  have ly := ok_lay lw lh h2
  refine ⟨⟨by omega, sml_ok (fun w hw => by have := (hW.word w hw).2.2; omega) (fun c h => (by cases h)) h2, s1, ?_⟩, ?_⟩
  · unfold SeqAt.shaped rowD
    rw [Bool.and_eq_true]
    refine ⟨?_, ?_⟩
    · show (PyData.canLay0 (.str (SX.S r.1)) && (PyData.canLay0 r.2.dat && true)) = true
      rw [ly.1]
      have : PyData.canLay0 (.str (SX.S r.1)) = true := low_lay l1
      rw [this]
      rfl
    · show decide (max 0 (max (PyData.depth r.2.dat) 0) + 1 ≤ 64) = true
      exact decide_eq_true (by have := ly.2; omega)
  · unfold isRw
    rw [isNm_low l1 l2, decide_eq_true (by omega), Bool.true_and]
    exact isB_le (isB_ok nmw (fun c h => (by cases h)) h2) (by decide)

theorem bD_fm : ∀ {d : Nat} {h : Bool} {t : Fm}, bD d h t.dat = some (isB d h t)
  | 0, _, _ => rfl
  | _ + 1, _, .fls => rfl
  | _ + 1, h, .atom w => rfl
  | _ + 1, h, .hole c => by
    show some (leafB h (.str "hole") (.str (SX.S c))) = _
    unfold leafB
    rw [if_neg (by decide +kernel)]
    rfl
  | d + 1, h, .bin k a b => by
    have j : jnV (.str (kd k)) = true := by
      revert k
      decide +kernel
    show (match vOf (.str (kd k)) with | none => none | some x => if jnV x = true then (match bD d h a.dat, bD d h b.dat with | some y, some z => some (y && z) | _, _ => none) else some false) = _
    rw [bD_fm, bD_fm]
    show (if jnV (.str (kd k)) = true then some (isB d h a && isB d h b) else some false) = _
    rw [if_pos j]
    rfl
theorem odk_up : ∀ {n m : Nat} {d : PyData}, n ≤ m → odk n d = true → odk m d = true := by
  intro n
  induction n with
  | zero =>
    intro m d _ e
    cases e
  | succ n ih =>
    intro m d h e
    obtain ⟨m', rfl⟩ : ∃ m', m = m' + 1 := ⟨m - 1, by omega⟩
    cases d with
    | tuple ds =>
      simp only [odk, Bool.and_eq_true, List.all_eq_true] at e ⊢
      exact ⟨e.1, fun d hd => ih (by omega) (e.2 d hd)⟩
    | list ds =>
      simp only [odk, Bool.and_eq_true, List.all_eq_true] at e ⊢
      exact ⟨e.1, fun d hd => ih (by omega) (e.2 d hd)⟩
    | dict _ => cases e
    | str _ => exact e
    | none => rfl
    | bool _ => rfl
    | int _ => rfl
theorem odk_S {n : Nat} {w : List Nat} (h : w.length ≤ 1000) : odk (n + 1) (.str (SX.S w)) = true := decide_eq_true h
theorem odk_kd (n : Nat) (k : Fin 3) : odk (n + 1) (.str (kd k)) = true := by
  show decide ((kd k).cps.toList.length ≤ 1000) = true
  revert k
  decide +kernel
theorem odk_ok {ws hs : List (List Nat)} (hw : ∀ w ∈ ws, w.length ≤ 1000) (hh : ∀ c ∈ hs, c.length ≤ 1000) : ∀ {n : Nat} {t : Fm}, okF ws hs n t → odk (n + 1) t.dat = true
  | 0, _, h => h.elim
  | n + 1, .fls, _ => by
    show (decide (1 ≤ 1000) && (odk (n + 1) (.str "false") && true)) = true
    have : odk (n + 1) (.str "false") = true := by
      show decide (_ ≤ 1000) = true
      decide +kernel
    rw [this]
    rfl
  | n + 1, .atom w, h => by
    show (decide (2 ≤ 1000) && (odk (n + 1) (.str "atom") && (odk (n + 1) (.str (SX.S w)) && true))) = true
    have : odk (n + 1) (.str "atom") = true := by
      show decide (_ ≤ 1000) = true
      decide +kernel
    rw [this, odk_S (hw w h)]
    rfl
  | n + 1, .hole w, h => by
    show (decide (2 ≤ 1000) && (odk (n + 1) (.str "hole") && (odk (n + 1) (.str (SX.S w)) && true))) = true
    have : odk (n + 1) (.str "hole") = true := by
      show decide (_ ≤ 1000) = true
      decide +kernel
    rw [this, odk_S (hh w h)]
    rfl
  | n + 1, .bin k a b, h => by
    show (decide (3 ≤ 1000) && (odk (n + 1) (.str (kd k)) && (odk (n + 1) a.dat && (odk (n + 1) b.dat && true)))) = true
    rw [odk_kd n k, odk_ok hw hh h.1, odk_ok hw hh h.2]
    rfl
theorem rowB_row (r : Row) : rowB (rowD r) = some (isRw r) := by
  show (if nmB (.str (SX.S r.1)) = true then bD 10 false r.2.dat else some false) = _
  rw [bD_fm]
  unfold isRw
  show (if isNm r.1 = true then some (isB 10 false r.2) else some false) = _
  cases isNm r.1 <;> rfl
/-- a drawn row, as data that is_row may be asked about -/
theorem rwD_ok {ns ws : List (List Nat)} {n m : Nat} (hN : Nms n ns) (hW : Nms m ws) {r : Row} (h : okR ns ws r) : RwD 12 (rowD r) ∧ rowB (rowD r) = some true := by
  obtain ⟨o1, o2⟩ := okR_ok hN hW h
  have e := rowB_row r
  rw [o2] at e
  obtain ⟨h1, h2⟩ := h
  refine ⟨⟨?_, o1.shr, _, e⟩, e⟩
  show (decide (2 ≤ 1000) && (odk 11 (.str (SX.S r.1)) && (odk 11 r.2.dat && true))) = true
  have l := (hN.word _ h1).2.2
  rw [odk_S (by omega), odk_up (n := 4) (by decide) (odk_ok (fun w hw => by have := (hW.word w hw).2.2; omega) (fun c h => (by cases h)) h2)]
  rfl
/-- (a name, ('false',)) -/
theorem rowF_ok {ns : List (List Nat)} {n : Nat} (hN : Nms n ns) {u : List Nat} (hu : u ∈ ns) : RwD 12 (rowD (u, .fls)) ∧ rowB (rowD (u, .fls)) = some true := by
  obtain ⟨l1, l2, l3⟩ := hN.word _ hu
  have e := rowB_row (u, .fls)
  have nm : isRw (u, .fls) = true := by
    unfold isRw
    rw [isNm_low l1 l2, decide_eq_true (by omega)]
    rfl
  rw [nm] at e
  refine ⟨⟨?_, ?_, _, e⟩, e⟩
  · show (decide (2 ≤ 1000) && (odk 11 (.str (SX.S u)) && (odk 11 (Fm.dat .fls) && true))) = true
    have e2 : odk 11 (Fm.dat .fls) = true := by decide +kernel
    rw [odk_S (by omega), e2]
    rfl
  · unfold SeqAt.shaped rowD
    rw [Bool.and_eq_true]
    refine ⟨?_, rfl⟩
    show (PyData.canLay0 (.str (SX.S u)) && (PyData.canLay0 (Fm.dat .fls) && true)) = true
    have : PyData.canLay0 (.str (SX.S u)) = true := low_lay l1
    rw [this]
    decide +kernel

/-! ### x in a tuple of data -/
theorem op_inDT {X : Cx} (hu : X.A.units + 65 < cLine) : OpR X (compareOp .In) (fun x y H Q => ∃ d ds, Dp X.K H x d ∧ Dp X.K H y (.tuple ds) ∧ SeqAt.shaped d = true ∧ SeqAt.shaped (.tuple ds) = true ∧ Q (.bl (ds.any fun z => PyData.eqv z d)) H) := by
  intro pins s σ H x y v u Q I rx ry h
  obtain ⟨d, ds, hd, he, sd, se, q⟩ := h
  obtain ⟨as, r1⟩ := Dp.reads I d x v hd rx
  obtain ⟨bs, r2⟩ := Dp.reads I (.tuple ds) y u he ry
  exact SeqAt.in_tuple_reads r2 r1 (SeqAt.canLay_of_shaped se) (SeqAt.canLay_of_shaped sd) (room_in_shaped sd hu) ⟨.bl _, H, I, rfl, q⟩
theorem room65 {A : Around} {k : Nat} (hr : Room k A) : A.units + 65 < cLine := by have := hr.un; omega
theorem room64 {A : Around} {k : Nat} (hr : Room k A) : A.units + 64 < cLine := by have := hr.un; omega
def rowsT (rs : List Row) : PyData := .tuple (rs.map rowD)
section
variable {P : Program} {w : World} {K : PySem.W.Frag} {mg : Str → Option Value} {base : Heap} {CK CC fK fC : Addr} {mc : Value}
theorem rows_dp {H : Hp} {a : Addr} : ∀ {ys : List V} {rs : List Row}, RowsAt K H ys rs → DpAll K H ys (rs.map rowD)
  | _, _, .nil => .nil
  | _, _, .cons r t => .cons r (rows_dp (a := a) t)
theorem held_dp {H : Hp} {a : Addr} {ys : List V} {rs : List Row} (h : SqT K H a ys) (r : RowsAt K H ys rs) : Dp K H (.ref a) (rowsT rs) := .tup h (rows_dp (a := a) r)
/-! ### len -/
def spCLen (K : PySem.W.Frag) (CC : Addr) : Sp := fun vs H Q _ => ∃ (x a : Addr) (ys : List V), vs = [.ref x] ∧ HeldAt CC H x a ∧ SqT K H a ys ∧ Q (.int ys.length) H
theorem scCLen : FnScope ["self"] ["self"] (defScope s_Context_len) := ⟨rfl, rfl, rfl, by decide +kernel, rfl, by decide +kernel, by decide +kernel⟩
theorem ok_clen {f : Addr} {fd : FuncData} (F : Fun K "__len__" "Context.__len__" s_Context_len f fd) (M : CtxM K mg CK CC fK fC mc) : FnOk P w K mg base CX0 1 f fd ["self"] (spCLen K CC) := by
  refine F.ok scCLen (fun vs H Q E h => ?_) (fun cdv A outer s H vs Q E hr h => ?_)
  · obtain ⟨x, a, ys, rfl, _⟩ := h
    rfl
  obtain ⟨x, a, ys, rfl, ⟨dx, ex⟩, ha, q⟩ := h
  refine ⟨_, pss_one (ps_ret (pe_callB call_len_seq (by rfl) M.len boot_len (pa_cons (pe_fld (pv 0) rfl) pa_nil))), ?_⟩
  exact ⟨_, rfl, x, CC, dx, _, _, rfl, ex, M.cC, M.nC, lk1, a, ys, rfl, .inr ha, q⟩
end
section
variable {P : Program} {w : World} {K : PySem.W.Frag} {mg : Str → Option Value} {base : Heap} {CK CC fK fC : Addr} {mc : Value} {cG cM cN C2 f2 C3 f3 C4 f4 : Addr}
abbrev nLaw : List Str := ["_law_script", "_law_bag_here", "_law_names_here", "_law_words", "_law_rows_here", "_law_bad", "_law_at", "_law_many", "_law_made", "_law_row", "_law_asks", "_law_due", "_law_odd", "_law_far"]
theorem scLaw : FnScope nLaw ["_law_script"] (defScope s_law) := ⟨rfl, rfl, rfl, by decide +kernel, rfl, by decide +kernel, by decide +kernel⟩
def spLawT (K : PySem.W.Frag) (T : Addr) : Sp := fun vs H Q _ => ∃ (a : Addr) (ns : List Int), vs = [.ref a] ∧ SqL K H a (ns.map V.int) ∧ ns.length ≤ 63 ∧ H T = some (.tbl #[]) ∧ ∀ H', Q (.bl true) H'
structure Cals (P : Program) (w : World) (K : PySem.W.Frag) (mg : Str → Option Value) (base : Heap) : Prop where
  bag : C8.Cal P w K mg base 1 "_law_bag" (spBag K) []
  pull : C8.Cal P w K mg base 1 "_law_pull" spPull []
  any : C8.Cal P w K mg base 2 "_law_any" (spAny K) []
  names : C8.Cal P w K mg base 3 "_law_names" spNames []
  like : ∀ n, C8.Cal P w K mg base n "_law_like" (spLike K n) []
  rows : C8.Cal P w K mg base 6 "_law_rows" (spLRows K) []
structure Adr where
  fR : Addr
  fL : Addr
  fO : Addr
  pO : Addr
  fW : Addr
  fX : Addr
  fA : Addr
  dC : FuncData
  dR : FuncData
  dL : FuncData
  dW : FuncData
  dA : FuncData
structure Mths (P : Program) (w : World) (K : PySem.W.Frag) (mg : Str → Option Value) (base : Heap) (CC fC C2 C3 C4 : Addr) (mc : Value) (α : Adr) : Prop where
  gC : FnOk P w K mg base CX0 18 fC α.dC ["self", "rows"] (spCtx K CC)
  gC3 : FnOk P w K mg base (L2.CX P w) 18 fC α.dC ["self", "rows"] (spCtx3 K CC C2 C3)
  bC : Binds K α.dC ["self", "rows"] []
  gR : FnOk P w K mg base CX0 1 α.fR α.dR ["self"] (spRws K CC)
  bR : Binds K α.dR ["self"] []
  mR : Meth K CC "rows" α.fR
  gL : FnOk P w K mg base CX0 1 α.fL α.dL ["self"] (spCLen K CC)
  bL : Binds K α.dL ["self"] []
  hL : PySem.W.findIn K (.ref CC) "__len__" = some (some (.ref α.fL))
  iL : PySem.W.isFn K (.ref α.fL) = true
  sO : SMet K CC mc "of" α.pO α.fO
  gO : FnR P w K mg base (L2.CX P w) 20 α.fO (spCOfs3 K C3)
  gW : FnOk P w K mg base (L2.CX P w) 20 α.fW α.dW ["self", "at", "name", "formula"] (spWithR K CC C2 C3 C4)
  bW : Binds K α.dW ["self", "at", "name", "formula"] []
  mW : Meth K CC "with_row" α.fW
  gX : FnR P w K mg base (L2.CX P w) 20 α.fX (spWithoutR K CC C4)
  mX : Meth K CC "without" α.fX
  gA : FnOk P w K mg base (L2.CX P w) 20 α.fA α.dA ["self", "other"] (spAddR K CC C2)
  bA : Binds K α.dA ["self", "other"] []
  hA : PySem.W.findIn K (.ref CC) "__add__" = some (some (.ref α.fA))
  iA : PySem.W.isFn K (.ref α.fA) = true
  sf : PySem.W.selfFirst K CC = true
structure LawM (mg : Str → Option Value) : Prop where
  range : mg "range" = none
  len : mg "len" = none
  list : mg "list" = none
structure Dn (mg : Str → Option Value) (K : PySem.W.Frag) (x : Str) (f : Addr) : Prop where
  m : mg x = some (.ref f)
  k : PySem.W.keepIn K (.ref f) = true
abbrev qLam : Str := (("law" : Str) ++ ".<locals>.") ++ "<lambda>"
end

end Ag

namespace Ag
open PySem PySem.Spec PyProof.Rows L2
theorem tabS_bag {H H' : Hp} {b l T : Addr} {q : Str} (t : LamX.TabS H T q) (k : Kp b H H') (B : Bag H b l) : LamX.TabS H' T q := by
  obtain ⟨_, _, _, _, _, z, _⟩ := B
  exact tabS_kp t k z
theorem bag_tp {H H' : Hp} {b l : Addr} (B : Bag H b l) (k : Kp b H H') : Tp H H' := by
  obtain ⟨_, _, _, _, _, z, _⟩ := B
  exact fx_tp (.kpL k z)
theorem bag_kpT {H H' : Hp} {b l T : Addr} {ps : Array Value} (B : Bag H b l) (k : Kp T H H') (hT : H T = some (.tbl ps)) : Bag H' b l := by
  obtain ⟨ns, at', big, seed, cnt, h1, h2, r⟩ := B
  exact ⟨ns, at', big, seed, cnt, k _ _ h1 (ne_of h1 hT (fun z => by cases z)), k _ _ h2 (ne_of h2 hT (fun z => by cases z)), r⟩
section
variable {P : Program} {w : World} {K : PySem.W.Frag} {mg : Str → Option Value} {base : Heap} {CC : Addr}
theorem ctx_fx {H H' : Hp} {x : Addr} {rs : List Row} (k : Fx H H') (h : CtxAt K CC H x rs) : CtxAt K CC H' x rs := by
  obtain ⟨a, vs, ⟨dx, h1⟩, h2, h3⟩ := h
  exact ⟨a, vs, ⟨dx, k _ _ h1 (fun _ z => by cases z) (fun _ z => by cases z)⟩, (fx_tp k).seq h2, h3.tp (fx_tp k)⟩
end
theorem eqv_rows : ∀ rs ss : List Row, PyData.eqvAll (rs.map rowD) (ss.map rowD) = decide (rs = ss)
  | [], [] => rfl
  | [], _ :: _ => rfl
  | _ :: _, [] => rfl
  | r :: rs, s :: ss => by
    show (PyData.eqv (rowD r) (rowD s) && PyData.eqvAll (rs.map rowD) (ss.map rowD)) = _
    rw [eqv_rows rs ss, eqv_row]
    by_cases h1 : r = s <;> by_cases h2 : rs = ss <;> simp [h1, h2]
theorem rows_shp11 {ns ws : List (List Nat)} {n m : Nat} (hN : Nms n ns) (hW : Nms m ws) {rs : List Row} (h : ∀ r ∈ rs, okR ns ws r) : SeqAt.shaped (.list (rs.map rowD)) = true := by
  have go : ∀ {l : List Row}, (∀ r ∈ l, okR ns ws r) → PyData.canLayAll0 (l.map rowD) = true ∧ PyData.depthAll (l.map rowD) ≤ 10 := by
    intro l
    induction l with
    | nil => exact fun _ => ⟨rfl, Nat.zero_le _⟩
    | cons r l ih =>
      intro h
      obtain ⟨i1, i2⟩ := ih fun r' hr' => h r' (.tail _ hr')
      obtain ⟨h1, h2⟩ := h r (.head _)
      have ly := ok_lay (fun w hw => (hW.word w hw).1) (fun c h => (by cases h)) h2
      have l1 : PyData.canLay0 (.str (SX.S r.1)) = true := low_lay (hN.word _ h1).1
      refine ⟨?_, ?_⟩
      · show ((PyData.canLay0 (.str (SX.S r.1)) && (PyData.canLay0 r.2.dat && true)) && PyData.canLayAll0 (l.map rowD)) = true
        rw [l1, ly.1, i1]
        rfl
      · show max (max 0 (max (PyData.depth r.2.dat) 0) + 1) (PyData.depthAll (l.map rowD)) ≤ 10
        have := ly.2
        omega
  obtain ⟨k1, k2⟩ := go h
  unfold SeqAt.shaped
  rw [Bool.and_eq_true]
  exact ⟨k1, decide_eq_true (by show PyData.depthAll (rs.map rowD) + 1 ≤ 64; omega)⟩
theorem plB_in {n m : Int} (h0 : 0 ≤ n) (h : n < m) : plB (.int n) m = true := by
  show (decide (0 ≤ n) && decide (n < m)) = true
  rw [decide_eq_true h0, decide_eq_true h]
  rfl
theorem flat_rep (v : V) : ∀ k : Nat, (List.replicate k [v]).flatten = List.replicate k v
  | 0 => rfl
  | k + 1 => by
    rw [List.replicate_succ, List.flatten_cons, flat_rep v k, List.replicate_succ]
    rfl
theorem rows_rep {K : PySem.W.Frag} {H : Hp} {v : V} {r : Row} (h : RowAt K H v r) : ∀ {k : Nat}, RowsAt K H (List.replicate k v) (List.replicate k r)
  | 0 => .nil
  | k + 1 => by
    rw [List.replicate_succ, List.replicate_succ]
    exact .cons h (rows_rep h)
theorem plB_out {n m : Int} (h : n < 0 ∨ m ≤ n) : plB (.int n) m = false := by
  show (decide (0 ≤ n) && decide (n < m)) = false
  rcases h with h | h
  · rw [decide_eq_false (by omega), Bool.false_and]
  · rw [decide_eq_false (by omega : ¬ n < m), Bool.and_false]
/-- a place that is wrong: data without lists, or [0] -/
def FarAt (K : PySem.W.Frag) (H : Hp) (v : V) (d : PyData) : Prop := (tupd 2 d = true ∧ Dp K H v d) ∨ ∃ a, v = .ref a ∧ d = .list [.int 0] ∧ H a = some (.lst [.int 0])
theorem far_same {K : PySem.W.Frag} {H H' : Hp} {v : V} {d : PyData} (h : FarAt K H v d) (s : Same H H') : FarAt K H' v d := by
  rcases h with ⟨h1, h2⟩ | ⟨a, h1, h2, h3⟩
  · exact .inl ⟨h1, Dp_same s h2⟩
  · exact .inr ⟨a, h1, h2, s _ _ h3⟩
theorem far_kpT {K : PySem.W.Frag} {H H' : Hp} {v : V} {d : PyData} {T : Addr} {ps : Array Value} (h : FarAt K H v d) (k : Kp T H H') (hT : H T = some (.tbl ps)) : FarAt K H' v d := by
  rcases h with ⟨h1, h2⟩ | ⟨a, h1, h2, h3⟩
  · exact .inl ⟨h1, tupd_tp (fx_tp (.kpT k hT)) h1 h2⟩
  · exact .inr ⟨a, h1, h2, k _ _ h3 (ne_of h3 hT (fun e => by cases e))⟩
theorem far_dp {K : PySem.W.Frag} {H : Hp} {v : V} {d : PyData} (h : FarAt K H v d) : Dp K H v d ∧ lstd 3 d = true := by
  rcases h with ⟨h1, h2⟩ | ⟨a, h1, h2, h3⟩
  · exact ⟨h2, tupd_lstd (tupd_up (by decide) h1)⟩
  · subst h1
    subst h2
    exact ⟨.lst (SqL.of h3) (.cons (.int 0) .nil), rfl⟩
theorem far_oka {K : PySem.W.Frag} {H : Hp} {v : V} {d : PyData} (h : FarAt K H v d) : oka 3 d = true := by
  rcases h with ⟨h1, h2⟩ | ⟨a, h1, h2, h3⟩
  · exact tupd_oka (tupd_up (by decide) h1)
  · subst h2
    rfl
section
variable {P : Program} {w : World} {K : PySem.W.Frag} {mg : Str → Option Value} {base : Heap} {CK CC fK fC : Addr} {mc : Value} {cG cM cN C2 f2 C3 f3 C4 f4 : Addr} {α : Adr}
theorem law_c {f c T fT : Addr} {fdT : FuncData} (TB : LamX.TabB base mg c T) (cs : Cals P w K mg base) (M : CtxM K mg CK CC fK fC mc) (W : Mths P w K mg base CC fC C2 C3 C4 mc α) (L : LawM mg)
    (GT : FnOk P w K mg base L2.CX0 24 fT fdT ["_law_asks"] (spTriesL P w K mg base cG cM cN 22)) (dT : Dn mg K "_law_tries" fT) (bT : Binds K fdT ["_law_asks"] [])
    (E2 : ErrK K mg "TooMany" C2 f2 cG cM cN) (E3 : ErrK K mg "InvalidRow" C3 f3 cG cM cN) (E4 : ErrK K mg "InvalidNumber" C4 f4 cG cM cN) {A : Around} {outer : List Env} {s : Shared} {H0 : Hp} {E : XK}
    (hr : Room 39 (A.deeper (envOfC "law" (defScope s_law) s.heap.objs.size f (.ref c)))) :
    ∃ u, PSs (cxOf CX0 P w K mg base nLaw "law" (defScope s_law) f (.ref c) A outer s H0 E).nox ((defBody s_law).drop 10) u ∧
      ∀ (D : Ends) (H : Hp) (v0 v3 v5 v7 v10 v11 : Option V) (b l na Z x rf : Addr) (ys : List V) (rs : List Row) (nss ws : List (List Nat)) (n : Nat) (u0 : List Nat), (∀ H', D.rt (.bl true) H') → Bag H b l → H na = some (.lst (nss.map fun w => V.str (SX.S w))) → nss[0]? = some u0 → na ≠ b ∧ na ≠ l → H Z = some (.lst ys) → Z ≠ b ∧ Z ≠ l → RowsAt K H ys rs → Nms 3 nss → Nms 2 ws → (∀ r ∈ rs, okR nss ws r) → 1 ≤ rs.length → rs.length ≤ 4 → CtxAt K CC H x rs → RowAt K H (.ref rf) (u0, .fls) →
        n ≤ rs.length → LamX.TabS H T qLam →
        u D [v0, some (.ref b), some (.ref na), v3, some (.ref Z), v5, some (.int n), v7, some (.ref x), some (.ref rf), v10, v11, none, none] H := by
  have nd := scLaw.nd
  refine ⟨_, pss_cons (ps_set (i := 12) nd rfl (.inr rfl) (C8.pe_c cs.any hr (by decide) (by rfl) (pa_cons (pv 1) (pa_cons (pe_lst (pa_cons pe_non (pa_cons pe_bl (pa_cons (pe_un un_neg pe_int) (pa_cons (pe_op op_add (pe_callB call_len_seq (by rfl) M.len boot_len (pa_cons (pv 4) pa_nil)) pe_int) (pa_cons pe_str (pa_cons (pe_tup (pa_cons pe_int pa_nil)) (pa_cons (pe_op op_pow pe_int pe_int) pa_nil)))))))) pa_nil))))
    (pss_cons (ps_set (i := 13) nd rfl (.inr rfl) (C8.pe_c cs.any hr (by decide) (by rfl) (pa_cons (pv 1) (pa_cons (pe_lst (pa_cons pe_non (pa_cons pe_bl (pa_cons (pe_un un_neg pe_int) (pa_cons (pe_callB call_len_seq (by rfl) M.len boot_len (pa_cons (pv 4) pa_nil)) (pa_cons pe_str (pa_cons (pe_lst (pa_cons pe_int pa_nil)) pa_nil))))))) pa_nil))))
    (pss_cons (ps_set (i := 10) nd rfl (.inl rfl) (pe_lst (pa_cons (pe_lamA TB rfl (by show freeB (defScope s_law) _ = true; decide +kernel)) (pa_cons (pe_lamB TB rfl (by show freeB (defScope s_law) _ = true; decide +kernel)) pa_nil))))
    (pss_cons (ps_set (i := 10) nd rfl (.inl rfl) (pe_op op_cat (pv 10) (pe_lst (pa_cons (pe_lamB TB rfl (by show freeB (defScope s_law) _ = true; decide +kernel)) (pa_cons (pe_lamB TB rfl (by show freeB (defScope s_law) _ = true; decide +kernel)) pa_nil)))))
    (pss_cons (ps_set (i := 10) nd rfl (.inl rfl) (pe_op op_cat (pv 10) (pe_lst (pa_cons (pe_lamB TB rfl (by show freeB (defScope s_law) _ = true; decide +kernel)) (pa_cons (pe_lamB TB rfl (by show freeB (defScope s_law) _ = true; decide +kernel)) pa_nil)))))
    (pss_cons (ps_set (i := 11) nd rfl (.inl rfl) (pe_lst (pa_cons (pe_tup (pa_cons pe_str (pa_cons (pe_tup (pa_cons (pv 12) pa_nil)) pa_nil))) (pa_cons (pe_tup (pa_cons pe_str (pa_cons (pe_tup (pa_cons (pv 6) pa_nil)) pa_nil))) (pa_cons (pe_tup (pa_cons pe_str (pa_cons (pe_tup (pa_cons (pv 6) pa_nil)) pa_nil))) (pa_cons (pe_tup (pa_cons pe_str (pa_cons (pe_tup (pa_cons (pv 13) pa_nil)) pa_nil))) pa_nil))))))
    (pss_one (ps_ret (pe_and (C8.pe_c (cs.like 12) hr (by decide) (by rfl) (pa_cons (pe_callC GT (hr.mono (by decide)) (fun _ => rfl) (by rfl) dT.m dT.k bT (pa_cons (pv 10) pa_nil)) (pa_cons (pe_op op_cat (pv 11) (pe_op op_rep (pe_lst (pa_cons (pe_tup (pa_cons pe_str (pa_cons (pe_tup (pa_cons pe_int pa_nil)) pa_nil))) pa_nil)) pe_int)) pa_nil)))
      (pe_one (pe_cmpR (op_eqD hr.units) (pe_meth0 (pv 8) M.cC W.mR W.gR (hr.mono (by decide)) W.bR .nil pass0) (pv 4) (nomark _))))))))))), ?_⟩
  intro D H v0 v3 v5 v7 v10 v11 b l na Z x rf ys rs nss ws n u0 q hB hna hu0 nnb hZ nzb hrs hN hW hok h1 h4 hcx hrf hn hT
  have lys : ys.length = rs.length := Paired.length hrs
  -- odd
  refine ⟨_, rfl, _, rfl, _, rfl, Z, ys, rfl, .inl (SqL.of hZ), _, _, rfl, rfl, (by show 1 ≤ sizeLine; decide), fun t1 m1 => ⟨_, _, rfl, rfl, ?_, (by show 7 ≤ sizeLine; decide), fun lo nlo => ?_⟩⟩
  · exact ⟨by decide, by decide, by decide⟩
  have y1 := same_new m1 (.tup [.int 0])
  have y2 := same_new nlo (.lst [.non, .bl true, .int (-1), .int ((ys.length : Int) + 1), .str "0", .ref t1, .int (10 ^ (11 : Int).toNat)])
  have B2 := hB.kp (y1.trans y2)
  refine ⟨b, l, .ref lo, _, rfl, B2, .inr ⟨lo, rfl, ((hB.kp y1).new nlo).1, .inl (SqL.of upd_same)⟩, (by show 0 < 7; decide), (by show 7 < 2 ^ 62; decide), fun r1 od H3 hr3 k3 B3 => ?_⟩
  have T3 := tabS_bag (hT.ext (y1.trans y2)) k3 B2
  have tp3 := bag_tp B2 k3
  obtain ⟨dO, hO, tO, pO⟩ : ∃ dO, Dp K H3 od dO ∧ tupd 2 dO = true ∧ plB dO (ys.length + 1) = false := by
    have h1 : Dp K H3 (.ref t1) (.tuple [.int 0]) := tupd_tp (n := 2) tp3 rfl (.tup (SqT.of (y2 _ _ upd_same)) (.cons (.int 0) .nil))
    match r1, hr3 with
    | 0, e => cases e; exact ⟨_, .non, rfl, rfl⟩
    | 1, e => cases e; exact ⟨_, .bl true, rfl, rfl⟩
    | 2, e => cases e; exact ⟨_, .int (-1), rfl, plB_out (.inl (by decide))⟩
    | 3, e => cases e; exact ⟨_, .int _, rfl, plB_out (.inr (Int.le_refl _))⟩
    | 4, e => cases e; exact ⟨_, .str "0", rfl, rfl⟩
    | 5, e => cases e; exact ⟨_, h1, rfl, rfl⟩
    | 6, e => cases e; exact ⟨_, .int _, rfl, plB_out (.inr (by
        have : ((10 : Int) ^ (11 : Int).toNat) = 100000000000 := by decide +kernel
        rw [this]
        omega))⟩
    | r1 + 7, e => simp at e
  have hZ3 := k3 _ _ ((y1.trans y2) _ _ hZ) nzb.1
  have hna3 := k3 _ _ ((y1.trans y2) _ _ hna) nnb.1
  have hrs3 := (hrs.same (y1.trans y2)).kp k3 B2
  have hrf3 := (hrf.same (y1.trans y2)).kp k3 B2
  have hcx3 := ctx_fx (CC := CC) (by
    obtain ⟨_, _, _, _, _, z, _⟩ := B2
    exact Fx.kpL k3 z) (hcx.same (y1.trans y2))
  -- far
  refine ⟨_, rfl, _, rfl, _, rfl, Z, ys, rfl, .inl (SqL.of hZ3), (by show 1 ≤ sizeLine; decide), fun a1 n1 => ⟨(by show 6 ≤ sizeLine; decide), fun lf nlf => ?_⟩⟩
  have z1 := same_new n1 (.lst [.int 0])
  have z2 := same_new nlf (.lst [.non, .bl false, .int (-1), .int (ys.length : Int), .str "0", .ref a1])
  have z12 := z1.trans z2
  have B4 := B3.kp z12
  refine ⟨b, l, .ref lf, _, rfl, B4, .inr ⟨lf, rfl, ((B3.kp z1).new nlf).1, .inl (SqL.of upd_same)⟩, (by show 0 < 6; decide), (by show 6 < 2 ^ 62; decide), fun r2 fa H5 hr5 k5 B5 => ?_⟩
  have T5 := tabS_bag (T3.ext z12) k5 B4
  have hZ5 := k5 _ _ (z12 _ _ hZ3) nzb.1
  have hna5 := k5 _ _ (z12 _ _ hna3) nnb.1
  have hrs5 := (hrs3.same z12).kp k5 B4
  have hrf5 := (hrf3.same z12).kp k5 B4
  have hcx5 := ctx_fx (CC := CC) (by
    obtain ⟨_, _, _, _, _, z, _⟩ := B4
    exact Fx.kpL k5 z) (hcx3.same z12)
  have hO5 : Dp K H5 od dO := tupd_tp (bag_tp B4 k5) tO (Dp_same z12 hO)
  obtain ⟨dF, hF, pF⟩ : ∃ dF, FarAt K H5 fa dF ∧ plB dF ys.length = false := by
    have h1 := k5 _ _ (z2 _ _ (upd_same (a := a1) (o := .lst [.int 0]))) (B3.new n1).1
    match r2, hr5 with
    | 0, e => cases e; exact ⟨_, .inl ⟨rfl, .non⟩, rfl⟩
    | 1, e => cases e; exact ⟨_, .inl ⟨rfl, .bl false⟩, rfl⟩
    | 2, e => cases e; exact ⟨_, .inl ⟨rfl, .int (-1)⟩, plB_out (.inl (by decide))⟩
    | 3, e => cases e; exact ⟨_, .inl ⟨rfl, .int _⟩, plB_out (.inr (Int.le_refl _))⟩
    | 4, e => cases e; exact ⟨_, .inl ⟨rfl, .str "0"⟩, rfl⟩
    | 5, e => cases e; exact ⟨_, .inr ⟨a1, rfl, rfl, h1⟩, rfl⟩
    | r2 + 6, e => simp at e
  -- the asks
  refine ⟨T5, fun f0 H6 k6 T6 n0 La0 => ⟨T6, fun f1 H7 k7 T7 nf1 La1 => ⟨(by show 2 ≤ sizeLine; decide), fun l1 nl1 => ?_⟩⟩⟩
  have g1 := same_new nl1 (.lst [.ref f0, .ref f1])
  refine ⟨_, rfl, T7.ext g1, fun f2 H8 k8 T8 nf2 La2 => ⟨T8, fun f3 H9 k9 T9 nf3 La3 => ⟨(by show 2 ≤ sizeLine; decide), fun l2 nl2 => ?_⟩⟩⟩
  have g2 := same_new nl2 (.lst [.ref f2, .ref f3])
  obtain ⟨ps5, hT5, _⟩ := id T5
  obtain ⟨ps6, hT6, _⟩ := id T6
  obtain ⟨ps7, hT7, _⟩ := id (T7.ext g1)
  obtain ⟨ps8, hT8, _⟩ := id T8
  have nl1T : l1 ≠ T := ne_of upd_same hT7 (fun z => by cases z)
  refine ⟨l1, l2, _, _, rfl, rfl, g2 _ _ (k9 _ _ (k8 _ _ upd_same nl1T) nl1T), upd_same, (by show 2 + 2 ≤ sizeLine; decide), fun l3 nl3 => ?_⟩
  have g3 := same_new nl3 (.lst ([.ref f0, .ref f1] ++ [.ref f2, .ref f3]))
  have T10 := (T9.ext g2).ext g3
  refine ⟨_, rfl, T10, fun f4 HA kA TA nf4 La4 => ⟨TA, fun f5 HB kB TB' nf5 La5 => ⟨(by show 2 ≤ sizeLine; decide), fun l4 nl4 => ?_⟩⟩⟩
  have g4 := same_new nl4 (.lst [.ref f4, .ref f5])
  obtain ⟨psA, hTA, _⟩ := id T10
  obtain ⟨psB, hTB, _⟩ := id TA
  have nl3T : l3 ≠ T := ne_of upd_same hTA (fun z => by cases z)
  refine ⟨l3, l4, _, _, rfl, rfl, g4 _ _ (kB _ _ (kA _ _ upd_same nl3T) nl3T), upd_same, (by show 4 + 2 ≤ sizeLine; decide), fun ap nap => ?_⟩
  have g5 := same_new nap (.lst ([.ref f0, .ref f1] ++ [.ref f2, .ref f3] ++ [.ref f4, .ref f5]))
  have nl3b : l3 ≠ T := nl3T
  have fa1 : Fx H5 H6 := .kpT k6 hT5
  have fa2 : Fx H6 H7 := .kpT k7 hT6
  have fa3 := Fx.kpT k8 hT7
  have fa4 : Fx H8 H9 := .kpT k9 hT8
  have fa5 := Fx.kpT kA hTA
  have fa6 : Fx HA HB := .kpT kB hTB
  have fz6 := (Fx.of g4).trans (Fx.of g5)
  have fz5 := fa6.trans fz6
  have fz4 := (Fx.of g2).trans ((Fx.of g3).trans (fa5.trans fz5))
  have fz3 := fa4.trans fz4
  have fz2 := (Fx.of g1).trans (fa3.trans fz3)
  have fz1 := fa2.trans fz2
  have fz0 := fa1.trans fz1
  have Lb0 := La0.fx fz1
  have Lb1 := La1.fx fz2
  have Lb2 := La2.fx fz3
  have Lb3 := La3.fx fz4
  have Lb4 := La4.fx fz5
  have Lb5 := La5.fx fz6
  have lst : ∀ {c xs}, H5 c = some (.lst xs) → (upd (upd HB l4 (.lst [.ref f4, .ref f5])) ap (.lst ([.ref f0, .ref f1] ++ [.ref f2, .ref f3] ++ [.ref f4, .ref f5]))) c = some (.lst xs) := fun {c xs} h => by
    have ne : c ≠ T := ne_of h hT5 (fun z => by cases z)
    exact g5 _ _ (g4 _ _ (kB _ _ (kA _ _ (g3 _ _ (g2 _ _ (k9 _ _ (k8 _ _ (g1 _ _ (k7 _ _ (k6 _ _ h ne) ne)) ne) ne))) ne) ne))
  have hZ6 := lst hZ5
  have hna6 := lst hna5
  have hrs6 := hrs5.tp (fx_tp fz0)
  have hrf6 := hrf5.tp (fx_tp fz0)
  have hcx6 := ctx_fx fz0 hcx5
  have hO6 := tupd_tp (fx_tp fz0) tO hO5
  have hF6 : FarAt K (upd (upd HB l4 (.lst [.ref f4, .ref f5])) ap (.lst ([.ref f0, .ref f1] ++ [.ref f2, .ref f3] ++ [.ref f4, .ref f5]))) fa dF := by
    rcases hF with ⟨e1, e2⟩ | ⟨a, e1, e2, e3⟩
    · exact .inl ⟨e1, tupd_tp (fx_tp fz0) e1 e2⟩
    · exact .inr ⟨a, e1, e2, lst e3⟩
  have hap := upd_same (H := upd HB l4 (.lst [.ref f4, .ref f5])) (a := ap) (o := .lst ([.ref f0, .ref f1] ++ [.ref f2, .ref f3] ++ [.ref f4, .ref f5]))
  generalize (upd (upd HB l4 (.lst [.ref f4, .ref f5])) ap (.lst ([.ref f0, .ref f1] ++ [.ref f2, .ref f3] ++ [.ref f4, .ref f5]))) = HC at *
  -- the due
  refine ⟨_, rfl, (by show 1 ≤ sizeLine; decide), fun u1 m1' => ⟨(by show 2 ≤ sizeLine; decide), fun p1 n1' => ⟨_, rfl, (by show 1 ≤ sizeLine; decide), fun u2 m2' => ⟨(by show 2 ≤ sizeLine; decide), fun p2 n2' => ⟨_, rfl, (by show 1 ≤ sizeLine; decide), fun u3 m3' => ⟨(by show 2 ≤ sizeLine; decide), fun p3 n3' => ⟨_, rfl, (by show 1 ≤ sizeLine; decide), fun u4 m4' => ⟨(by show 2 ≤ sizeLine; decide), fun p4 n4' => ⟨(by show 4 ≤ sizeLine; decide), fun qd nqd => ?_⟩⟩⟩⟩⟩⟩⟩⟩⟩
  have b1 := same_new m1' (.tup [od])
  have b2 := same_new n1' (.tup [.str "InvalidNumber", .ref u1])
  have b3 := same_new m2' (.tup [.int (n : Int)])
  have b4 := same_new n2' (.tup [.str "InvalidRow", .ref u2])
  have b5 := same_new m3' (.tup [.int (n : Int)])
  have b6 := same_new n3' (.tup [.str "InvalidRow", .ref u3])
  have b7 := same_new m4' (.tup [fa])
  have b8 := same_new n4' (.tup [.str "InvalidNumber", .ref u4])
  have b9 := same_new nqd (.lst [.ref p1, .ref p2, .ref p3, .ref p4])
  have b89 := b8.trans b9
  have b79 := b7.trans b89
  have b69 := b6.trans b79
  have b59 := b5.trans b69
  have b49 := b4.trans b59
  have b39 := b3.trans b49
  have b29 := b2.trans b39
  have b19 := b1.trans b29
  have dd1 : Dp K _ (.ref p1) (.tuple [.str "InvalidNumber", .tuple [dO]]) := Dp_same b39 (.tup (SqT.of upd_same) (.cons (.str _) (.cons (.tup (SqT.of (b2 _ _ upd_same)) (.cons (Dp_same (b1.trans b2) hO6) .nil)) .nil)))
  have dd2 : Dp K _ (.ref p2) (.tuple [.str "InvalidRow", .tuple [.int n]]) := Dp_same b59 (.tup (SqT.of upd_same) (.cons (.str _) (.cons (.tup (SqT.of (b4 _ _ upd_same)) (.cons (.int _) .nil)) .nil)))
  have dd3 : Dp K _ (.ref p3) (.tuple [.str "InvalidRow", .tuple [.int n]]) := Dp_same b79 (.tup (SqT.of upd_same) (.cons (.str _) (.cons (.tup (SqT.of (b6 _ _ upd_same)) (.cons (.int _) .nil)) .nil)))
  have dd4 : Dp K _ (.ref p4) (.tuple [.str "InvalidNumber", .tuple [dF]]) := Dp_same b9 (.tup (SqT.of upd_same) (.cons (.str _) (.cons (.tup (SqT.of (b8 _ _ upd_same)) (.cons (Dp_same (b1.trans (b2.trans (b3.trans (b4.trans (b5.trans (b6.trans (b7.trans b8))))))) (far_dp hF6).1) .nil)) .nil)))
  have hqd := upd_same (a := qd) (o := .lst [.ref p1, .ref p2, .ref p3, .ref p4]) (H := upd (upd (upd (upd (upd (upd (upd (upd HC u1 (.tup [od])) p1 (.tup [.str "InvalidNumber", .ref u1])) u2 (.tup [.int (n : Int)])) p2 (.tup [.str "InvalidRow", .ref u2])) u3 (.tup [.int (n : Int)])) p3 (.tup [.str "InvalidRow", .ref u3])) u4 (.tup [fa])) p4 (.tup [.str "InvalidNumber", .ref u4]))
  generalize upd (upd (upd (upd (upd (upd (upd (upd (upd HC u1 (.tup [od])) p1 (.tup [.str "InvalidNumber", .ref u1])) u2 (.tup [.int (n : Int)])) p2 (.tup [.str "InvalidRow", .ref u2])) u3 (.tup [.int (n : Int)])) p3 (.tup [.str "InvalidRow", .ref u3])) u4 (.tup [fa])) p4 (.tup [.str "InvalidNumber", .ref u4])) qd (.lst [.ref p1, .ref p2, .ref p3, .ref p4]) = HD at *
  obtain ⟨mem0, low0, len0⟩ : u0 ∈ nss ∧ Low u0 ∧ u0.length ≤ 1000 := by
    have hm := List.mem_of_getElem? hu0
    obtain ⟨w1, w2, w3⟩ := hN.word _ hm
    exact ⟨hm, w1, by omega⟩
  have at0 : atI (nss.map fun w => V.str (SX.S w)) 0 = some (.str (SX.S u0)) := by
    exact atI_nat (j := 0) (by rw [List.getElem?_map, hu0]; rfl)
  have okrep : ∀ {k : Nat}, ∀ r ∈ List.replicate k ((u0, .fls) : Row), Rok r ∧ isRw r = true := fun r hr' => by
    rw [List.eq_of_mem_replicate hr']
    exact okR_ok hN hW ⟨mem0, trivial⟩
  refine ⟨_, rfl, ?_⟩
  intro lpins okX PP nl
  refine tries_readL (ds := [.tuple [.str "InvalidNumber", .tuple [dO]], .tuple [.str "InvalidRow", .tuple [.int n]], .tuple [.str "InvalidRow", .tuple [.int n]], .tuple [.str "InvalidNumber", .tuple [dF]], .tuple [.str "TooMany", .tuple [.int 40]], .tuple [.str "TooMany", .tuple [.int 40]]]) (fs := [f0, f1, f2, f3, f4, f5]) nl (b19.seq (SqL.of hap)) (by show 6 ≤ 100; decide) rfl (fun i fq hf Hq s2 => ?_) (fun p rs' Hp Hr eHr pin16 s16 np16 hp16 hR => ⟨pin16, ?_⟩)
  · obtain ⟨pin2, sr⟩ := rem_of nl s2
    have sq := b19.trans sr
    have fxL : Fx HC Hq := (Fx.of b19).trans ((Fx.of (add_same nl)).trans (.of s2))
    obtain ⟨aq, vq, ⟨dxq, exq⟩, haq, rq⟩ := hcx6.same sq
    have lvq : vq.length = rs.length := Paired.length rq
    have hOq := Dp_same sq hO6
    have hFq := far_same hF6 sq
    have hnaq := sq _ _ hna6
    have hrfq := hrf6.same sq
    clear hcx6 hO6 hF6
    (match i, hf with
      | 0, hf =>
        cases hf
        refine ask_of (k := 21) (N := ["_law_made", "_law_odd"]) (σ := [some (.ref x), some od]) (ps := []) (lamSc_by (by decide +kernel)) (Lb0.fx fxL) (.inl ⟨rfl, rfl, fun _ _ _ _ => rfl⟩)
          (cells_in okX PP (free_by (by show freeB (defScope s_law) _ = true; decide +kernel)) (fun i y v h1 h2 => ?_)) (by decide +kernel) pin2 rfl
          (fun A outer s c' room => ⟨_, pe_meth (pv 0) M.cC W.mW W.gW (room.mono (by decide)) W.bW .nil (L2.passes_call (L2.takes_of rfl rfl rfl rfl) (fun _ _ _ _ h => h)) (pa_cons (pv 1) (pa_cons pe_str (pa_cons pe_non pa_nil))), ?_⟩)
        · match i, h1, h2 with
          | 0, h1, h2 =>
            cases h1
            cases h2
            exact ⟨8, rfl, rfl⟩
          | 1, h1, h2 =>
            cases h1
            cases h2
            exact ⟨12, rfl, rfl⟩
          | i + 2, h1, _ => simp at h1
        · refine ⟨_, rfl, x, dxq, _, rfl, exq, lk0 (by decide +kernel), _, rfl, x, aq, vq, od, .str "Ab", .non, dO, .str "Ab", .none, 2, rfl, ⟨dxq, exq⟩, haq, by omega, hOq, .str _, .non, by decide, tO, ?_⟩
          rw [lvq, if_neg (by rw [← lys, pO]; decide)]
          exact told_errT E4 pin2 rfl tO
      | 1, hf =>
        cases hf
        refine ask_of (k := 21) (N := ["_law_made", "_law_at"]) (σ := [some (.ref x), some (.int (n : Int))]) (ps := ["_law_a"]) (lamSc_by (by decide +kernel)) (Lb1.fx fxL) (.inr ⟨_, _, rfl, rfl, fun _ _ _ _ _ => ⟨_, rfl, fun _ => rfl⟩⟩)
          (cells_in okX PP (free_by (by show freeB (defScope s_law) _ = true; decide +kernel)) (fun i y v h1 h2 => ?_)) (by decide +kernel) pin2 rfl
          (fun A outer s c' room => ⟨_, pe_meth (pv 0) M.cC W.mW W.gW (room.mono (by decide)) W.bW .nil (L2.passes_call (L2.takes_of rfl rfl rfl rfl) (fun _ _ _ _ h => h)) (pa_cons (pv 1) (pa_cons pe_str (pa_cons (pe_tup (pa_cons pe_str pa_nil)) pa_nil))), ?_⟩)
        · match i, h1, h2 with
          | 0, h1, h2 =>
            cases h1
            cases h2
            exact ⟨8, rfl, rfl⟩
          | 1, h1, h2 =>
            cases h1
            cases h2
            exact ⟨6, rfl, rfl⟩
          | i + 2, h1, _ => simp at h1
        · refine ⟨_, rfl, x, dxq, _, rfl, exq, lk0 (by decide +kernel), _, rfl, (by show 1 ≤ sizeLine; decide), fun p1 n1 => ?_⟩
          have b1 := same_new n1 (.tup [.str "false"])
          refine ⟨x, aq, vq, .int (n : Int), .str "Ab", .ref p1, .int (n : Int), .str "Ab", .tuple [.str "false"], 1, rfl, ⟨dxq, b1 _ _ exq⟩, sameT b1 haq, by omega, .int _, .str _, .tup (SqT.of upd_same) (.cons (.str _) .nil), by decide, rfl, ?_⟩
          rw [lvq, if_pos (plB_in (by omega) (by omega))]
          refine ⟨⟨by decide +kernel, by decide +kernel, _, (by decide +kernel : rowB (.tuple [.str "Ab", .tuple [.str "false"]]) = some false)⟩, ?_⟩
          rw [if_neg (by decide +kernel)]
          exact rais_same b1 (told_errT (n := 1) E3 pin2 rfl rfl)
      | 2, hf =>
        cases hf
        refine ask_of (k := 21) (N := ["_law_made", "_law_at", "_law_names_here"]) (σ := [some (.ref x), some (.int (n : Int)), some (.ref na)]) (ps := ["_law_b"]) (lamSc_by (by decide +kernel)) (Lb2.fx fxL) (.inr ⟨_, _, rfl, rfl, fun _ _ _ _ _ => ⟨_, rfl, fun _ => rfl⟩⟩)
          (cells_in okX PP (free_by (by show freeB (defScope s_law) _ = true; decide +kernel)) (fun i y v h1 h2 => ?_)) (by decide +kernel) pin2 rfl
          (fun A outer s c' room => ⟨_, pe_meth (pv 0) M.cC W.mW W.gW (room.mono (by decide)) W.bW .nil (L2.passes_call (L2.takes_of rfl rfl rfl rfl) (fun _ _ _ _ h => h)) (pa_cons (pv 1) (pa_cons (pe_ix ix_list (pv 2) pe_int (fun _ _ => rfl)) (pa_cons pe_str pa_nil))), ?_⟩)
        · match i, h1, h2 with
          | 0, h1, h2 =>
            cases h1
            cases h2
            exact ⟨8, rfl, rfl⟩
          | 1, h1, h2 =>
            cases h1
            cases h2
            exact ⟨6, rfl, rfl⟩
          | 2, h1, h2 =>
            cases h1
            cases h2
            exact ⟨2, rfl, rfl⟩
          | i + 3, h1, _ => simp at h1
        · refine ⟨_, rfl, x, dxq, _, rfl, exq, lk0 (by decide +kernel), _, rfl, _, rfl, na, _, _, _, rfl, rfl, SqL.of hnaq, at0, ?_⟩
          refine ⟨x, aq, vq, .int (n : Int), .str (SX.S u0), .str "p", .int (n : Int), .str (SX.S u0), .str "p", 1, rfl, ⟨dxq, exq⟩, haq, by omega, .int _, .str _, .str _, by decide, rfl, ?_⟩
          rw [lvq, if_pos (plB_in (by omega) (by omega))]
          have rb : rowB (.tuple [.str (SX.S u0), .str "p"]) = some false := by
            show (if nmB (.str (SX.S u0)) = true then bD 10 false (.str "p") else some false) = some false
            split <;> rfl
          refine ⟨⟨?_, ?_, _, rb⟩, ?_⟩
          · show (decide (2 ≤ 1000) && (odk 11 (.str (SX.S u0)) && (odk 11 (.str "p") && true))) = true
            have e2 : odk 11 (.str "p") = true := by decide +kernel
            rw [odk_S (by omega), e2]
            rfl
          · unfold SeqAt.shaped
            rw [Bool.and_eq_true]
            refine ⟨?_, rfl⟩
            show (PyData.canLay0 (.str (SX.S u0)) && (PyData.canLay0 (.str "p") && true)) = true
            have e2 : PyData.canLay0 (.str (SX.S u0)) = true := low_lay low0
            rw [e2]
            decide +kernel
          rw [rb, if_neg (by decide)]
          exact told_errT (n := 1) E3 pin2 rfl rfl
      | 3, hf =>
        cases hf
        refine ask_of (k := 21) (N := ["_law_made", "_law_far"]) (σ := [some (.ref x), some fa]) (ps := ["_law_c"]) (lamSc_by (by decide +kernel)) (Lb3.fx fxL) (.inr ⟨_, _, rfl, rfl, fun _ _ _ _ _ => ⟨_, rfl, fun _ => rfl⟩⟩)
          (cells_in okX PP (free_by (by show freeB (defScope s_law) _ = true; decide +kernel)) (fun i y v h1 h2 => ?_)) (by decide +kernel) pin2 rfl
          (fun A outer s c' room => ⟨_, pe_methR (pv 0) M.cC W.mX W.gX (room.mono (by decide)) (L2.passes_call (L2.takes_of rfl rfl rfl rfl) (fun _ _ _ _ h => h)) (pa_cons pe_int (pa_cons (pv 1) (pa_cons pe_non pa_nil))), ?_⟩)
        · match i, h1, h2 with
          | 0, h1, h2 =>
            cases h1
            cases h2
            exact ⟨8, rfl, rfl⟩
          | 1, h1, h2 =>
            cases h1
            cases h2
            exact ⟨13, rfl, rfl⟩
          | i + 2, h1, _ => simp at h1
        · refine ⟨_, rfl, x, dxq, _, rfl, exq, lk0 (by decide +kernel), _, rfl, [.ref x], [.int 0, fa, .non], rfl, rfl, (by show 3 ≤ sizeLine; decide), fun p1 n1 => ?_⟩
          have b1 := same_new n1 (.tup [.int 0, fa, .non])
          refine ⟨x, p1, aq, vq, fa, dF, 3, rfl, ⟨dxq, b1 _ _ exq⟩, sameT b1 haq, upd_same, by omega, by omega, Dp_same b1 (far_dp hFq).1, by decide, (far_dp hFq).2, by rw [lvq, ← lys]; exact pF, ?_⟩
          exact raisL_same b1 (told_errL E4 pin2 rfl)
      | 4, hf =>
        cases hf
        refine ask_of (k := 21) (N := ["_law_row", "_law_names_here"]) (σ := [some (.ref rf), some (.ref na)]) (ps := ["_law_d"]) (lamSc_by (by decide +kernel)) (Lb4.fx fxL) (.inr ⟨_, _, rfl, rfl, fun _ _ _ _ _ => ⟨_, rfl, fun _ => rfl⟩⟩)
          (cells_in okX PP (free_by (by show freeB (defScope s_law) _ = true; decide +kernel)) (fun i y v h1 h2 => ?_)) (by decide +kernel) pin2 rfl
          (fun A outer s c' room => ⟨_, pe_meth (pe_make M.kC W.gC (room.mono (by decide)) (by rfl) M.gC W.bC .nil pass0 (pa_cons (pe_op op_rep (pe_lst (pa_cons (pv 0) pa_nil)) pe_int) pa_nil)) M.cC W.mW W.gW (room.mono (by decide)) W.bW .nil (L2.passes_call (L2.takes_of rfl rfl rfl rfl) (fun _ _ _ _ h => h)) (pa_cons pe_int (pa_cons (pe_ix ix_list (pv 1) pe_int (fun _ _ => rfl)) (pa_cons (pe_tup (pa_cons pe_str pa_nil)) pa_nil))), ?_⟩)
        · match i, h1, h2 with
          | 0, h1, h2 =>
            cases h1
            cases h2
            exact ⟨9, rfl, rfl⟩
          | 1, h1, h2 =>
            cases h1
            cases h2
            exact ⟨2, rfl, rfl⟩
          | i + 2, h1, _ => simp at h1
        · refine ⟨_, rfl, (by show 1 ≤ sizeLine; decide), fun le ne => ⟨_, _, _, rfl, rfl, upd_same, by decide, by decide, (by show 1 * 40 ≤ sizeLine; decide), fun me oe => ?_⟩⟩
          have we := (same_new ne (.lst [.ref rf])).trans (same_new oe (.lst (List.replicate (Int.toNat 40) [V.ref rf]).flatten))
          intro xe dxe nxe ndxe nexe
          have te := made0 (C := CC) nxe ndxe
          have hme := te _ _ (upd_same (a := me) (o := .lst (List.replicate (Int.toNat 40) [V.ref rf]).flatten))
          rw [flat_rep] at hme
          refine ⟨xe, me, dxe, List.replicate 40 (.ref rf), List.replicate 40 (u0, .fls), rfl, upd_same, .inl (SqL.of hme), rows_rep (hrfq.same (we.trans te)), okrep, by rw [List.length_replicate]; decide, ⟨"list", .base (.lst hme), .inl rfl⟩, fun He ce ke => ⟨rfl, ?_⟩⟩
          have ve := we.trans (made1 nxe ndxe ke)
          obtain ⟨ae, vse, ⟨de, ee⟩, he, re⟩ := id ce
          have lene : vse.length = 40 := by
            have := Paired.length re
            rw [List.length_replicate] at this
            exact this
          refine ⟨xe, de, _, rfl, ee, lk0 (by decide +kernel), _, rfl, na, _, _, _, rfl, rfl, SqL.of (ve _ _ hnaq), at0, (by show 1 ≤ sizeLine; decide), fun p1 n1 => ?_⟩
          have b1 := same_new n1 (.tup [.str "false"])
          refine ⟨xe, ae, vse, .int 3, .str (SX.S u0), .ref p1, .int 3, .str (SX.S u0), .tuple [.str "false"], 1, rfl, ⟨de, b1 _ _ ee⟩, sameT b1 he, by omega, .int _, .str _, .tup (SqT.of upd_same) (.cons (.str _) .nil), by decide, rfl, ?_⟩
          rw [lene, if_pos (by decide)]
          refine ⟨(rowF_ok hN mem0).1, ?_⟩
          have rb : rowB (.tuple [.str (SX.S u0), .tuple [.str "false"]]) = some true := (rowF_ok hN mem0).2
          rw [rb, if_pos rfl]
          exact ⟨rfl, rais_same (ve.trans b1) (told_errT (n := 1) E2 pin2 rfl rfl)⟩
      | 5, hf =>
        cases hf
        refine ask_of (k := 21) (N := ["_law_row"]) (σ := [some (.ref rf)]) (ps := ["_law_e"]) (lamSc_by (by decide +kernel)) (Lb5.fx fxL) (.inr ⟨_, _, rfl, rfl, fun _ _ _ _ _ => ⟨_, rfl, fun _ => rfl⟩⟩)
          (cells_in okX PP (free_by (by show freeB (defScope s_law) _ = true; decide +kernel)) (fun i y v h1 h2 => ?_)) (by decide +kernel) pin2 rfl
          (fun A outer s c' room => ⟨_, pe_op (op_own (op := .Add) W.sf W.hA W.iA W.gA (room.mono (by decide)) W.bA (L2.passes_call (L2.takes_of rfl rfl rfl rfl) (fun _ _ _ _ h => h))) (pe_make M.kC W.gC (room.mono (by decide)) (by rfl) M.gC W.bC .nil pass0 (pa_cons (pe_op op_rep (pe_lst (pa_cons (pv 0) pa_nil)) pe_int) pa_nil)) (pe_make M.kC W.gC (room.mono (by decide)) (by rfl) M.gC W.bC .nil pass0 (pa_cons (pe_op op_rep (pe_lst (pa_cons (pv 0) pa_nil)) pe_int) pa_nil)), ?_⟩)
        · match i, h1, h2 with
          | 0, h1, h2 =>
            cases h1
            cases h2
            exact ⟨9, rfl, rfl⟩
          | i + 1, h1, _ => simp at h1
        · refine ⟨_, rfl, (by show 1 ≤ sizeLine; decide), fun le ne => ⟨_, _, _, rfl, rfl, upd_same, by decide, by decide, (by show 1 * 38 ≤ sizeLine; decide), fun me oe => ?_⟩⟩
          have we := (same_new ne (.lst [.ref rf])).trans (same_new oe (.lst (List.replicate (Int.toNat 38) [V.ref rf]).flatten))
          intro xe dxe nxe ndxe nexe
          have te := made0 (C := CC) nxe ndxe
          have hme := te _ _ (upd_same (a := me) (o := .lst (List.replicate (Int.toNat 38) [V.ref rf]).flatten))
          rw [flat_rep] at hme
          refine ⟨xe, me, dxe, List.replicate 38 (.ref rf), List.replicate 38 (u0, .fls), rfl, upd_same, .inl (SqL.of hme), rows_rep (hrfq.same (we.trans te)), okrep, by rw [List.length_replicate]; decide, ⟨"list", .base (.lst hme), .inl rfl⟩, fun He ce ke => ⟨rfl, ?_⟩⟩
          have ve := we.trans (made1 nxe ndxe ke)
          obtain ⟨ae, vse, ⟨de, ee⟩, he, re⟩ := id ce
          have lene : vse.length = 38 := by
            have := Paired.length re
            rw [List.length_replicate] at this
            exact this
          refine ⟨_, rfl, (by show 1 ≤ sizeLine; decide), fun lg ng => ⟨_, _, _, rfl, rfl, upd_same, by decide, by decide, (by show 1 * 3 ≤ sizeLine; decide), fun mg og => ?_⟩⟩
          have wg := (same_new ng (.lst [.ref rf])).trans (same_new og (.lst (List.replicate (Int.toNat 3) [V.ref rf]).flatten))
          intro xg dxg nxg ndxg nexg
          have tg := made0 (C := CC) nxg ndxg
          have hmg := tg _ _ (upd_same (a := mg) (o := .lst (List.replicate (Int.toNat 3) [V.ref rf]).flatten))
          rw [flat_rep] at hmg
          refine ⟨xg, mg, dxg, List.replicate 3 (.ref rf), List.replicate 3 (u0, .fls), rfl, upd_same, .inl (SqL.of hmg), rows_rep ((hrfq.same ve).same (wg.trans tg)), okrep, by rw [List.length_replicate]; decide, ⟨"list", .base (.lst hmg), .inl rfl⟩, fun Hg cg kg => ⟨rfl, ?_⟩⟩
          have vg := wg.trans (made1 nxg ndxg kg)
          obtain ⟨ag, vsg, ⟨dg, eg⟩, hg, rg⟩ := id cg
          have leng : vsg.length = 3 := by
            have := Paired.length rg
            rw [List.length_replicate] at this
            exact this
          refine ⟨xe, xg, de, dg, _, _, rfl, rfl, (vg _ _ ee), eg, xe, xg, ae, ag, vse, vsg, rfl, ⟨de, vg _ _ ee⟩, sameT vg he, ⟨dg, eg⟩, hg, by omega, by omega, ?_⟩
          exact rais_same (ve.trans vg) (told_errT (n := 1) E2 pin2 rfl rfl)
      | i + 6, hf => simp at hf)
  · rw [← eHr]
    refine ⟨_, rfl, (by show 1 ≤ sizeLine; decide), fun w1 o1 => ⟨(by show 2 ≤ sizeLine; decide), fun w2 o2 => ⟨(by show 1 ≤ sizeLine; decide), fun w3 o3 => ?_⟩⟩⟩
    have e1 := same_new o1 (.tup [.int 40])
    have e2 := same_new o2 (.tup [.str "TooMany", .ref w1])
    have e3 := same_new o3 (.lst [.ref w2])
    refine ⟨_, _, _, rfl, rfl, upd_same, by decide, by decide, (by show 1 * 2 ≤ sizeLine; decide), fun w4 o4 => ?_⟩
    have e4 := same_new o4 (.lst (List.replicate (Int.toNat 2) [V.ref w2]).flatten)
    have e14 := e1.trans (e2.trans (e3.trans e4))
    refine ⟨_, _, _, _, rfl, rfl, e14 _ _ (s16 _ _ hqd), upd_same, (by show 4 + 2 ≤ sizeLine; decide), fun w5 o5 => ?_⟩
    have e5 := same_new o5 (.lst ([.ref p1, .ref p2, .ref p3, .ref p4] ++ (List.replicate (Int.toNat 2) [V.ref w2]).flatten))
    have e15 := e14.trans e5
    have sD := s16.trans e15
    have tm : Dp K _ (.ref w2) (.tuple [.str "TooMany", .tuple [.int 40]]) := Dp_same (e3.trans (e4.trans e5)) (.tup (SqT.of upd_same) (.cons (.str _) (.cons (.tup (SqT.of (e2 _ _ upd_same)) (.cons (.int 40) .nil)) .nil)))
    refine ⟨.ref p, .ref w5, .list [.tuple [.str "InvalidNumber", .tuple [dO]], .tuple [.str "InvalidRow", .tuple [.int n]], .tuple [.str "InvalidRow", .tuple [.int n]], .tuple [.str "InvalidNumber", .tuple [dF]], .tuple [.str "TooMany", .tuple [.int 40]], .tuple [.str "TooMany", .tuple [.int 40]]], rfl,
      Da_of (.lst (SqL.of (e15 _ _ hp16)) (DpAll_same e15 (dpns_dp hR))), Da_of (.lst (SqL.of upd_same) (.cons (Dp_same sD dd1) (.cons (Dp_same sD dd2) (.cons (Dp_same sD dd3) (.cons (Dp_same sD dd4) (.cons tm (.cons tm .nil))))))), ?_, fun Ht st => ⟨_, rfl, iteU rfl ?_⟩⟩
    · have o1 : oka 9 dO = true := tupd_oka (tupd_up (by decide) tO)
      have o2 : oka 9 dF = true := by
        rcases hF6 with ⟨z1, z2⟩ | ⟨a, z1, z2, z3⟩
        · exact tupd_oka (tupd_up (by decide) z1)
        · subst z2
          rfl
      show (decide (6 ≤ 1000) && ((decide (2 ≤ 1000) && (true && ((decide (1 ≤ 1000) && (oka 9 dO && true)) && true))) && (true && (true && ((decide (2 ≤ 1000) && (true && ((decide (1 ≤ 1000) && (oka 9 dF && true)) && true))) && (true && (true && true))))))) = true
      rw [o1, o2]
      rfl
    have sE := b19.trans (sD.trans st)
    obtain ⟨aq, vq, ⟨dxq, exq⟩, haq, rq⟩ := hcx6.same sE
    refine ⟨_, rfl, x, dxq, _, rfl, exq, lk0 (by decide +kernel), x, aq, _, rfl, ⟨dxq, exq⟩, haq, fun p7 n7 => ⟨_, rfl, ?_⟩⟩
    have e7 := same_new n7 (.lst vq)
    refine ⟨.list (rs.map rowD), .list (rs.map rowD), .lst (SqL.of upd_same) (rows_dp (a := p7) (rq.same e7)), .lst (SqL.of (e7 _ _ (sE _ _ hZ6))) (rows_dp (a := Z) ((hrs6.same sE).same e7)), rows_shp11 hN hW hok, rows_shp11 hN hW hok, ?_⟩
    have ee : PyData.eqv (.list (rs.map rowD)) (.list (rs.map rowD)) = true := by
      have := eqv_rows rs rs
      show PyData.eqvAll (rs.map rowD) (rs.map rowD) = _
      rw [this]
      exact decide_eq_true rfl
    rw [ee]
    exact q _
end

end Ag

namespace Ag
open PySem PySem.Spec PyProof.Rows L2
theorem dpall_take {K : PySem.W.Frag} {H : Hp} : ∀ (n : Nat) {xs : List V} {ds : List PyData}, DpAll K H xs ds → DpAll K H (xs.take n) (ds.take n)
  | 0, _, _, _ => .nil
  | _ + 1, _, _, .nil => .nil
  | n + 1, _, _, .cons a b => .cons a (dpall_take n b)
theorem dpall_drop {K : PySem.W.Frag} {H : Hp} : ∀ (n : Nat) {xs : List V} {ds : List PyData}, DpAll K H xs ds → DpAll K H (xs.drop n) (ds.drop n)
  | 0, _, _, h => h
  | _ + 1, _, _, .nil => .nil
  | n + 1, _, _, .cons a b => dpall_drop n b
theorem dpall_rep {K : PySem.W.Frag} {H : Hp} {v : V} {d : PyData} (h : Dp K H v d) : ∀ k : Nat, DpAll K H (List.replicate k v) (List.replicate k d)
  | 0 => .nil
  | k + 1 => by
    rw [List.replicate_succ, List.replicate_succ]
    exact .cons h (dpall_rep h k)
theorem bad_list {K : PySem.W.Frag} {H : Hp} {ys : List V} {es : List PyData} {bv : V} {dB : PyData} {n : Nat} (h : DpAll K H ys es) (hb : Dp K H bv dB) : DpAll K H (ys.take n ++ [bv] ++ ys.drop n ++ [.non]) (es.take n ++ dB :: (es.drop n ++ [.none])) := by
  rw [show ys.take n ++ [bv] ++ ys.drop n ++ [.non] = ys.take n ++ (bv :: (ys.drop n ++ [.non])) by simp]
  exact dpall_app (dpall_take n h) (.cons hb (dpall_app (dpall_drop n h) (.cons .non .nil)))
/-- the wrong row: data without lists, or one list of such -/
def BadAt (K : PySem.W.Frag) (H : Hp) (v : V) (d : PyData) : Prop := (tupd 9 d = true ∧ Dp K H v d) ∨ ∃ a xs ds, v = .ref a ∧ d = .list ds ∧ H a = some (.lst xs) ∧ (∀ e ∈ ds, tupd 9 e = true) ∧ DpAll K H xs ds
theorem bad_same {K : PySem.W.Frag} {H H' : Hp} {v : V} {d : PyData} (h : BadAt K H v d) (s : Same H H') : BadAt K H' v d := by
  rcases h with ⟨h1, h2⟩ | ⟨a, xs, ds, h1, h2, h3, h4, h5⟩
  · exact .inl ⟨h1, Dp_same s h2⟩
  · exact .inr ⟨a, xs, ds, h1, h2, s _ _ h3, h4, DpAll_same s h5⟩
theorem bad_dp {K : PySem.W.Frag} {H : Hp} {v : V} {d : PyData} (h : BadAt K H v d) : Dp K H v d := by
  rcases h with ⟨h1, h2⟩ | ⟨a, xs, ds, h1, h2, h3, h4, h5⟩
  · exact h2
  · subst h1
    subst h2
    exact .lst (SqL.of h3) h5
section
variable {P : Program} {w : World} {K : PySem.W.Frag} {mg : Str → Option Value} {base : Heap} {CK CC fK fC : Addr} {mc : Value} {cG cM cN C2 f2 C3 f3 C4 f4 : Addr} {α : Adr}
theorem law_b {f c T fT : Addr} {fdT : FuncData} (TB : LamX.TabB base mg c T) (cs : Cals P w K mg base) (M : CtxM K mg CK CC fK fC mc) (W : Mths P w K mg base CC fC C2 C3 C4 mc α) (L : LawM mg)
    (GT : FnOk P w K mg base L2.CX0 24 fT fdT ["_law_asks"] (spTriesL P w K mg base cG cM cN 22)) (dT : Dn mg K "_law_tries" fT) (bT : Binds K fdT ["_law_asks"] [])
    (E2 : ErrK K mg "TooMany" C2 f2 cG cM cN) (E3 : ErrK K mg "InvalidRow" C3 f3 cG cM cN) (E4 : ErrK K mg "InvalidNumber" C4 f4 cG cM cN) {A : Around} {outer : List Env} {s : Shared} {H0 : Hp} {E : XK}
    (hr : Room 39 (A.deeper (envOfC "law" (defScope s_law) s.heap.objs.size f (.ref c)))) :
    ∃ u, PSs (cxOf CX0 P w K mg base nLaw "law" (defScope s_law) f (.ref c) A outer s H0 E).nox ((defBody s_law).drop 6) u ∧
      ∀ (D : Ends) (H : Hp) (v0 v3 : Option V) (bv : V) (dB : PyData) (b l na Z x rf : Addr) (ys : List V) (rs : List Row) (nss ws : List (List Nat)) (n m : Nat) (u0 : List Nat), (∀ H', D.rt (.bl true) H') → Bag H b l → H na = some (.lst (nss.map fun w => V.str (SX.S w))) → nss[0]? = some u0 → na ≠ b ∧ na ≠ l → H Z = some (.lst ys) → Z ≠ b ∧ Z ≠ l → RowsAt K H ys rs → Nms 3 nss → Nms 2 ws → (∀ r ∈ rs, okR nss ws r) → 1 ≤ rs.length → rs.length ≤ 4 → CtxAt K CC H x rs → RowAt K H (.ref rf) (u0, .fls) →
        n ≤ rs.length → 39 ≤ m → m ≤ 42 → BadAt K H bv dB → RwD 12 dB → rowB dB = some false → LamX.TabS H T qLam →
        u D [v0, some (.ref b), some (.ref na), v3, some (.ref Z), some bv, some (.int n), some (.int (m : Int)), some (.ref x), some (.ref rf), none, none, none, none] H := by
  have nd := scLaw.nd
  obtain ⟨u, hu, hq⟩ := law_c TB cs M W L GT dT bT E2 E3 E4 (f := f) (A := A) (outer := outer) (s := s) (H0 := H0) (E := E) hr
  refine ⟨_, pss_cons (ps_set (i := 10) nd rfl (.inl rfl) (pe_lst (pa_cons (pe_lamA TB rfl (by show freeB (defScope s_law) _ = true; decide +kernel)) (pa_cons (pe_lamB TB rfl (by show freeB (defScope s_law) _ = true; decide +kernel)) pa_nil))))
    (pss_cons (ps_set (i := 10) nd rfl (.inl rfl) (pe_op op_cat (pv 10) (pe_lst (pa_cons (pe_lamB TB rfl (by show freeB (defScope s_law) _ = true; decide +kernel)) (pa_cons (pe_lamB TB rfl (by show freeB (defScope s_law) _ = true; decide +kernel)) pa_nil)))))
    (C8.pss_cut (ps_set (i := 11) nd rfl (.inl rfl) (pe_lst (pa_cons (pe_tup (pa_cons pe_str (pa_cons (pe_tup (pa_cons (pv 6) pa_nil)) pa_nil))) (pa_cons (pe_tup (pa_cons pe_str (pa_cons (pe_tup (pa_cons pe_int pa_nil)) pa_nil))) (pa_cons (pe_ifExp (pt_cmpR op_lt (pv 7) pe_int (nomark _)) (pe_tup (pa_cons pe_str (pa_cons (pv 7) pa_nil))) (pe_tup (pa_cons pe_str (pa_cons (pe_tup (pa_cons pe_int pa_nil)) pa_nil)))) (pa_cons (pe_tup (pa_cons pe_str (pa_cons (pe_tup (pa_cons pe_int pa_nil)) pa_nil))) pa_nil))))))
    (pss_cons (ps_if (pt_not (pt_val (C8.pe_c (cs.like 12) hr (by decide) (by rfl) (pa_cons (pe_callC GT (hr.mono (by decide)) (fun _ => rfl) (by rfl) dT.m dT.k bT (pa_cons (pv 10) pa_nil)) (pa_cons (pv 11) pa_nil))))) (pss_one (ps_ret pe_bl)) pss_nil)
    hu))), ?_⟩
  intro D H v0 v3 bv dB b l na Z x rf ys rs nss ws n m u0 q hB hna hu0 nnb hZ nzb hrs hN hW hok h1 h4 hcx hrf hn hm0 hm1 hbad rwB rbB hT
  have lys : ys.length = rs.length := Paired.length hrs
  refine ⟨hT, fun f0 H6 k6 T6 n0 La0 => ⟨T6, fun f1 H7 k7 T7 nf1 La1 => ⟨(by show 2 ≤ sizeLine; decide), fun l1 nl1 => ?_⟩⟩⟩
  have g1 := same_new nl1 (.lst [.ref f0, .ref f1])
  refine ⟨_, rfl, T7.ext g1, fun f2 H8 k8 T8 nf2 La2 => ⟨T8, fun f3 H9 k9 T9 nf3 La3 => ⟨(by show 2 ≤ sizeLine; decide), fun l2 nl2 => ?_⟩⟩⟩
  have g2 := same_new nl2 (.lst [.ref f2, .ref f3])
  obtain ⟨ps5, hT5, _⟩ := id hT
  obtain ⟨ps6, hT6, _⟩ := id T6
  obtain ⟨ps7, hT7, _⟩ := id (T7.ext g1)
  obtain ⟨ps8, hT8, _⟩ := id T8
  have nl1T : l1 ≠ T := ne_of upd_same hT7 (fun z => by cases z)
  refine ⟨l1, l2, _, _, rfl, rfl, g2 _ _ (k9 _ _ (k8 _ _ upd_same nl1T) nl1T), upd_same, (by show 2 + 2 ≤ sizeLine; decide), fun ap nap => ?_⟩
  have g3 := same_new nap (.lst ([.ref f0, .ref f1] ++ [.ref f2, .ref f3]))
  have TC := (T9.ext g2).ext g3
  have fa1 : Fx H H6 := .kpT k6 hT5
  have fa2 : Fx H6 H7 := .kpT k7 hT6
  have fa3 := Fx.kpT k8 hT7
  have fa4 : Fx H8 H9 := .kpT k9 hT8
  have fz4 := (Fx.of g2).trans (Fx.of g3)
  have fz3 := fa4.trans fz4
  have fz2 := (Fx.of g1).trans (fa3.trans fz3)
  have fz1 := fa2.trans fz2
  have fz0 := fa1.trans fz1
  have Lb0 := La0.fx fz1
  have Lb1 := La1.fx fz2
  have Lb2 := La2.fx fz3
  have Lb3 := La3.fx fz4
  have lst : ∀ {c xs}, H c = some (.lst xs) → (upd (upd H9 l2 (.lst [.ref f2, .ref f3])) ap (.lst ([.ref f0, .ref f1] ++ [.ref f2, .ref f3]))) c = some (.lst xs) := fun {c xs} h => by
    have ne : c ≠ T := ne_of h hT5 (fun z => by cases z)
    exact g3 _ _ (g2 _ _ (k9 _ _ (k8 _ _ (g1 _ _ (k7 _ _ (k6 _ _ h ne) ne)) ne) ne))
  have BC := ((bag_kpT (bag_kpT ((bag_kpT (bag_kpT hB k6 hT5) k7 hT6).kp g1) k8 hT7) k9 hT8).kp g2).kp g3
  have hZ6 := lst hZ
  have hna6 := lst hna
  have hrs6 := hrs.tp (fx_tp fz0)
  have hrf6 := hrf.tp (fx_tp fz0)
  have hcx6 := ctx_fx fz0 hcx
  have hbad6 : BadAt K (upd (upd H9 l2 (.lst [.ref f2, .ref f3])) ap (.lst ([.ref f0, .ref f1] ++ [.ref f2, .ref f3]))) bv dB := by
    rcases hbad with ⟨e1, e2⟩ | ⟨a, xs, ds, e1, e2, e3, e4, e5⟩
    · exact .inl ⟨e1, tupd_tp (fx_tp fz0) e1 e2⟩
    · exact .inr ⟨a, xs, ds, e1, e2, lst e3, e4, tupds_tp (fx_tp fz0) e4 e5⟩
  have hap := upd_same (H := upd H9 l2 (.lst [.ref f2, .ref f3])) (a := ap) (o := .lst ([.ref f0, .ref f1] ++ [.ref f2, .ref f3]))
  generalize (upd (upd H9 l2 (.lst [.ref f2, .ref f3])) ap (.lst ([.ref f0, .ref f1] ++ [.ref f2, .ref f3]))) = HC at *
  obtain ⟨D2, eD2⟩ : ∃ D2 : PyData, D2 = (if m < 41 then .tuple [.str "", .int (m : Int)] else .tuple [.str "TooMany", .tuple [.int 40]]) := ⟨_, rfl⟩
  refine ⟨fun σ' H' => ∃ qd : Addr, σ' = [v0, some (.ref b), some (.ref na), v3, some (.ref Z), some bv, some (.int n), some (.int (m : Int)), some (.ref x), some (.ref rf), some (.ref ap), some (.ref qd), none, none] ∧ Same HC H' ∧ Dp K H' (.ref qd) (.list [.tuple [.str "InvalidRow", .tuple [.int n]], .tuple [.str "InvalidRow", .tuple [.int 41]], D2, .tuple [.str "InvalidRow", .tuple [.int 1]]]), ?_, ?_⟩
  · refine ⟨_, rfl, (by show 1 ≤ sizeLine; decide), fun u1 m1 => ⟨(by show 2 ≤ sizeLine; decide), fun p1 n1 => ⟨(by show 1 ≤ sizeLine; decide), fun u2 m2 => ⟨(by show 2 ≤ sizeLine; decide), fun p2 n2 => ?_⟩⟩⟩⟩
    have a1 := same_new m1 (.tup [.int n])
    have a2 := same_new n1 (.tup [.str "InvalidRow", .ref u1])
    have a3 := same_new m2 (.tup [.int 41])
    have a4 := same_new n2 (.tup [.str "InvalidRow", .ref u2])
    refine ⟨_, rfl, _, _, rfl, rfl, _, rfl, ?_⟩
    by_cases e : m < 41
    · rw [if_pos e] at eD2
      subst eD2
      refine iteU (decide_eq_true (by omega)) ⟨_, rfl, (by show 2 ≤ sizeLine; decide), fun p3 n3 => ⟨(by show 1 ≤ sizeLine; decide), fun u4 m4 => ⟨(by show 2 ≤ sizeLine; decide), fun p4 n4 => ⟨(by show 4 ≤ sizeLine; decide), fun q nq => ?_⟩⟩⟩⟩
      have a5 := same_new n3 (.tup [.str "", .int (m : Int)])
      have a6 := same_new m4 (.tup [.int 1])
      have a7 := same_new n4 (.tup [.str "InvalidRow", .ref u4])
      have a8 := same_new nq (.lst [.ref p1, .ref p2, .ref p3, .ref p4])
      have a58 := a5.trans (a6.trans (a7.trans a8))
      refine ⟨q, rfl, a1.trans (a2.trans (a3.trans (a4.trans a58))), .lst (SqL.of upd_same) (.cons ?_ (.cons ?_ (.cons ?_ (.cons ?_ .nil))))⟩
      · exact Dp_same (a3.trans (a4.trans a58)) (.tup (SqT.of upd_same) (.cons (.str _) (.cons (Dp_same a2 (.tup (SqT.of upd_same) (.cons (.int _) .nil))) .nil)))
      · exact Dp_same a58 (.tup (SqT.of upd_same) (.cons (.str _) (.cons (Dp_same a4 (.tup (SqT.of upd_same) (.cons (.int _) .nil))) .nil)))
      · exact Dp_same (a6.trans (a7.trans a8)) (.tup (SqT.of upd_same) (.cons (.str _) (.cons (.int _) .nil)))
      · exact Dp_same a8 (.tup (SqT.of upd_same) (.cons (.str _) (.cons (Dp_same a7 (.tup (SqT.of upd_same) (.cons (.int _) .nil))) .nil)))
    · rw [if_neg e] at eD2
      subst eD2
      refine iteE (decide_eq_false (by omega)) ⟨(by show 1 ≤ sizeLine; decide), fun u3 m3 => ⟨(by show 2 ≤ sizeLine; decide), fun p3 n3 => ⟨(by show 1 ≤ sizeLine; decide), fun u4 m4 => ⟨(by show 2 ≤ sizeLine; decide), fun p4 n4 => ⟨(by show 4 ≤ sizeLine; decide), fun q nq => ?_⟩⟩⟩⟩⟩
      have b5 := same_new m3 (.tup [.int 40])
      have a5 := same_new n3 (.tup [.str "TooMany", .ref u3])
      have a6 := same_new m4 (.tup [.int 1])
      have a7 := same_new n4 (.tup [.str "InvalidRow", .ref u4])
      have a8 := same_new nq (.lst [.ref p1, .ref p2, .ref p3, .ref p4])
      have a58 := b5.trans (a5.trans (a6.trans (a7.trans a8)))
      refine ⟨q, rfl, a1.trans (a2.trans (a3.trans (a4.trans a58))), .lst (SqL.of upd_same) (.cons ?_ (.cons ?_ (.cons ?_ (.cons ?_ .nil))))⟩
      · exact Dp_same (a3.trans (a4.trans a58)) (.tup (SqT.of upd_same) (.cons (.str _) (.cons (Dp_same a2 (.tup (SqT.of upd_same) (.cons (.int _) .nil))) .nil)))
      · exact Dp_same a58 (.tup (SqT.of upd_same) (.cons (.str _) (.cons (Dp_same a4 (.tup (SqT.of upd_same) (.cons (.int _) .nil))) .nil)))
      · exact Dp_same (a6.trans (a7.trans a8)) (.tup (SqT.of upd_same) (.cons (.str _) (.cons (Dp_same a5 (.tup (SqT.of upd_same) (.cons (.int _) .nil))) .nil)))
      · exact Dp_same a8 (.tup (SqT.of upd_same) (.cons (.str _) (.cons (Dp_same a7 (.tup (SqT.of upd_same) (.cons (.int _) .nil))) .nil)))
  rintro σ' HD ⟨qd, rfl, b19, hqd⟩
  obtain ⟨mem0, low0, len0⟩ : u0 ∈ nss ∧ Low u0 ∧ u0.length ≤ 1000 := by
    have hm := List.mem_of_getElem? hu0
    obtain ⟨w1, w2, w3⟩ := hN.word _ hm
    exact ⟨hm, w1, by omega⟩
  have rwF := rowF_ok hN mem0
  have rwA : ∀ d ∈ rs.map rowD, RwD 12 d := fun d hd => by
    obtain ⟨r, hr', rfl⟩ := List.mem_map.mp hd
    exact (rwD_ok hN hW (hok r hr')).1
  have rbA : ∀ d ∈ rs.map rowD, rowB d = some true := fun d hd => by
    obtain ⟨r, hr', rfl⟩ := List.mem_map.mp hd
    exact (rwD_ok hN hW (hok r hr')).2
  refine ⟨_, rfl, ?_⟩
  intro lpins okX PP nl
  refine tries_readL (ds := [.tuple [.str "InvalidRow", .tuple [.int n]], .tuple [.str "InvalidRow", .tuple [.int 41]], D2, .tuple [.str "InvalidRow", .tuple [.int 1]]]) (fs := [f0, f1, f2, f3]) nl (b19.seq (SqL.of hap)) (by show 4 ≤ 100; decide) rfl (fun i fq hf Hq s2 => ?_) (fun p rs' Hp Hr eHr pin16 s16 np16 hp16 hR => ⟨pin16, ?_⟩)
  · obtain ⟨pin2, sr⟩ := rem_of nl s2
    have sq := b19.trans sr
    have fxL : Fx HC Hq := (Fx.of b19).trans ((Fx.of (add_same nl)).trans (.of s2))
    have hBq := bad_dp (bad_same hbad6 sq)
    have hZq := sq _ _ hZ6
    have hrsq := hrs6.same sq
    have hrfq := hrf6.same sq
    (match i, hf with
      | 0, hf =>
        cases hf
        refine ask_of (k := 21) (N := ["_law_rows_here", "_law_at", "_law_bad"]) (σ := [some (.ref Z), some (.int (n : Int)), some bv]) (ps := []) (lamSc_by (by decide +kernel)) (Lb0.fx fxL) (.inl ⟨rfl, rfl, fun _ _ _ _ => rfl⟩)
          (cells_in okX PP (free_by (by show freeB (defScope s_law) _ = true; decide +kernel)) (fun i y v h1 h2 => ?_)) (by decide +kernel) pin2 rfl
          (fun A outer s c' room => ⟨_, pe_make M.kC W.gC3 (room.mono (by decide)) (by rfl) M.gC W.bC .nil (L2.passes_call (L2.takes_of rfl rfl rfl rfl) (fun _ _ _ _ h => h)) (pa_cons (pe_op op_cat (pe_op op_cat (pe_op op_cat (pe_slice sl_list (pv 0) po_none (po_some (pv 1))) (pe_lst (pa_cons (pv 2) pa_nil))) (pe_slice sl_list (pv 0) (po_some (pv 1)) po_none)) (pe_lst (pa_cons pe_non pa_nil))) pa_nil), ?_⟩)
        · match i, h1, h2 with
          | 0, h1, h2 =>
            cases h1
            cases h2
            exact ⟨4, rfl, rfl⟩
          | 1, h1, h2 =>
            cases h1
            cases h2
            exact ⟨6, rfl, rfl⟩
          | 2, h1, h2 =>
            cases h1
            cases h2
            exact ⟨5, rfl, rfl⟩
          | i + 3, h1, _ => simp at h1
        · refine ⟨_, rfl, _, rfl, (n : Int), rfl, Z, _, rfl, SqL.of hZq, fun p1 n1 => ?_⟩
          rw [cut_to (by omega)]
          have g1 := same_new n1 (.lst (ys.take n))
          have lt1 : (ys.take n).length ≤ 8 := by rw [List.length_take]; omega
          have lt2 : (ys.drop n).length ≤ 8 := by rw [List.length_drop]; omega
          refine ⟨_, rfl, (by show 1 ≤ sizeLine; decide), fun p2 n2 => ⟨p1, p2, _, _, rfl, rfl, (same_new n2 _) _ _ upd_same, upd_same, (by show _ + 1 ≤ sizeLine; exact small (by omega)), fun p3 n3 => ?_⟩⟩
          have g2 := same_new n2 (.lst [bv])
          have g3 := same_new n3 (.lst (ys.take n ++ [bv]))
          have g13 := g1.trans (g2.trans g3)
          refine ⟨_, rfl, _, rfl, (n : Int), rfl, Z, _, rfl, SqL.of (g13 _ _ hZq), fun p4 n4 => ?_⟩
          rw [cut_from (by omega)]
          have g4 := same_new n4 (.lst (ys.drop n))
          refine ⟨p3, p4, _, _, rfl, rfl, g4 _ _ upd_same, upd_same, (by rw [List.length_append]; show _ + 1 + _ ≤ sizeLine; exact small (by omega)), fun p5 n5 => ?_⟩
          have g5 := same_new n5 (.lst (ys.take n ++ [bv] ++ ys.drop n))
          refine ⟨(by show 1 ≤ sizeLine; decide), fun p6 n6 => ?_⟩
          have g6 := same_new n6 (.lst [.non])
          refine ⟨p5, p6, _, _, rfl, rfl, g6 _ _ upd_same, upd_same, (by rw [List.length_append, List.length_append]; show _ + 1 + _ + 1 ≤ sizeLine; exact small (by omega)), fun p7 n7 => ?_⟩
          have g7 := same_new n7 (.lst (ys.take n ++ [bv] ++ ys.drop n ++ [.non]))
          have g17 := g13.trans (g4.trans (g5.trans (g6.trans g7)))
          intro x2 dx2 nx2 ndx2 nex2
          have t2 := made0 (C := CC) nx2 ndx2
          have hm := t2 _ _ (upd_same (a := p7) (o := .lst (ys.take n ++ [bv] ++ ys.drop n ++ [.non])))
          have gA := g17.trans t2
          have hd : DpAll K _ ys (rs.map rowD) := DpAll_same gA (rows_dp (a := Z) hrsq)
          have hb := Dp_same gA hBq
          refine ⟨x2, p7, dx2, _, (rs.map rowD).take n ++ dB :: ((rs.map rowD).drop n ++ [.none]), 12, rfl, upd_same, .inl (SqL.of hm), ?_, ?_, ?_, ⟨"list", .base (.lst hm), .inl rfl⟩, ?_⟩
          · exact bad_list hd hb
          · intro d hd
            rcases List.mem_append.mp hd with z | z
            · exact rwA d (List.mem_of_mem_take z)
            · rcases List.mem_cons.mp z with z | z
              · rw [z]
                exact rwB
              · rcases List.mem_append.mp z with z | z
                · exact rwA d (List.mem_of_mem_drop z)
                · rw [List.mem_singleton.mp z]
                  exact ⟨rfl, by decide, _, (rfl : rowB .none = some false)⟩
          · simp only [List.length_append, List.length_cons, List.length_take, List.length_drop, List.length_map, List.length_nil]
            omega
          · rw [fstBad_app (by rw [rbB]; decide) fun d hd => rbA d (List.mem_of_mem_take hd), List.length_take, List.length_map, Nat.min_eq_left hn]
            exact rais_same gA (told_errT (n := 1) E3 pin2 rfl rfl)
      | 1, hf =>
        cases hf
        refine ask_of (k := 21) (N := ["_law_row", "_law_bad"]) (σ := [some (.ref rf), some bv]) (ps := ["_law_a"]) (lamSc_by (by decide +kernel)) (Lb1.fx fxL) (.inr ⟨_, _, rfl, rfl, fun _ _ _ _ _ => ⟨_, rfl, fun _ => rfl⟩⟩)
          (cells_in okX PP (free_by (by show freeB (defScope s_law) _ = true; decide +kernel)) (fun i y v h1 h2 => ?_)) (by decide +kernel) pin2 rfl
          (fun A outer s c' room => ⟨_, pe_make M.kC W.gC3 (room.mono (by decide)) (by rfl) M.gC W.bC .nil (L2.passes_call (L2.takes_of rfl rfl rfl rfl) (fun _ _ _ _ h => h)) (pa_cons (pe_op op_cat (pe_op op_rep (pe_lst (pa_cons (pv 0) pa_nil)) pe_int) (pe_lst (pa_cons (pv 1) pa_nil))) pa_nil), ?_⟩)
        · match i, h1, h2 with
          | 0, h1, h2 =>
            cases h1
            cases h2
            exact ⟨9, rfl, rfl⟩
          | 1, h1, h2 =>
            cases h1
            cases h2
            exact ⟨5, rfl, rfl⟩
          | i + 2, h1, _ => simp at h1
        · refine ⟨_, rfl, (by show 1 ≤ sizeLine; decide), fun p1 n1 => ⟨_, _, _, rfl, rfl, upd_same, by decide, by decide, (by show 1 * 41 ≤ sizeLine; decide), fun p2 n2 => ?_⟩⟩
          rw [flat_rep]
          have g1 := same_new n1 (.lst [.ref rf])
          have g2 := same_new n2 (.lst (List.replicate (Int.toNat 41) (.ref rf)))
          refine ⟨_, rfl, (by show 1 ≤ sizeLine; decide), fun p3 n3 => ⟨p2, p3, _, _, rfl, rfl, (same_new n3 _) _ _ upd_same, upd_same, (by show 41 + 1 ≤ sizeLine; decide), fun p7 n7 => ?_⟩⟩
          have g3 := same_new n3 (.lst [bv])
          have g7 := same_new n7 (.lst (List.replicate (Int.toNat 41) (.ref rf) ++ [bv]))
          have g17 := g1.trans (g2.trans (g3.trans g7))
          intro x2 dx2 nx2 ndx2 nex2
          have t2 := made0 (C := CC) nx2 ndx2
          have hm := t2 _ _ (upd_same (a := p7) (o := .lst (List.replicate (Int.toNat 41) (.ref rf) ++ [bv])))
          have gA := g17.trans t2
          refine ⟨x2, p7, dx2, _, List.replicate 41 (rowD (u0, .fls)) ++ dB :: [], 12, rfl, upd_same, .inl (SqL.of hm), dpall_app (dpall_rep (hrfq.same gA) 41) (.cons (Dp_same gA hBq) .nil), ?_, by rw [List.length_append, List.length_replicate]; show 41 + 1 ≤ 1000; decide, ⟨"list", .base (.lst hm), .inl rfl⟩, ?_⟩
          · intro d hd
            rcases List.mem_append.mp hd with z | z
            · rw [List.eq_of_mem_replicate z]
              exact rwF.1
            · rw [List.mem_singleton.mp z]
              exact rwB
          · rw [fstBad_app (by rw [rbB]; decide) fun d hd => by rw [List.eq_of_mem_replicate hd]; exact rwF.2, List.length_replicate]
            exact rais_same gA (told_errT (n := 1) E3 pin2 rfl rfl)
      | 2, hf =>
        cases hf
        refine ask_of (k := 21) (N := ["_law_row", "_law_many"]) (σ := [some (.ref rf), some (.int (m : Int))]) (ps := ["_law_b"]) (lamSc_by (by decide +kernel)) (Lb2.fx fxL) (.inr ⟨_, _, rfl, rfl, fun _ _ _ _ _ => ⟨_, rfl, fun _ => rfl⟩⟩)
          (cells_in okX PP (free_by (by show freeB (defScope s_law) _ = true; decide +kernel)) (fun i y v h1 h2 => ?_)) (by decide +kernel) pin2 rfl
          (fun A outer s c' room => ⟨_, pe_callB (call_lenOwn W.hL W.iL W.gL (room.mono (by decide)) W.bL pass0) (by rfl) L.len boot_len (pa_cons (pe_make M.kC W.gC3 (room.mono (by decide)) (by rfl) M.gC W.bC .nil (L2.passes_call (L2.takes_of rfl rfl rfl rfl) (fun _ _ _ _ h => h)) (pa_cons (pe_op op_rep (pe_lst (pa_cons (pv 0) pa_nil)) (pv 1)) pa_nil)) pa_nil), ?_⟩)
        · match i, h1, h2 with
          | 0, h1, h2 =>
            cases h1
            cases h2
            exact ⟨9, rfl, rfl⟩
          | 1, h1, h2 =>
            cases h1
            cases h2
            exact ⟨7, rfl, rfl⟩
          | i + 2, h1, _ => simp at h1
        · refine ⟨_, rfl, (by show 1 ≤ sizeLine; decide), fun p1 n1 => ⟨_, rfl, _, _, _, rfl, rfl, upd_same, by omega, by omega, (by show 1 * m ≤ sizeLine; exact small (by omega)), fun p7 n7 => ?_⟩⟩
          rw [flat_rep]
          have g1 := same_new n1 (.lst [.ref rf])
          have g7 := same_new n7 (.lst (List.replicate (Int.toNat (m : Int)) (.ref rf)))
          have g17 := g1.trans g7
          intro x2 dx2 nx2 ndx2 nex2
          have t2 := made0 (C := CC) nx2 ndx2
          have hm := t2 _ _ (upd_same (a := p7) (o := .lst (List.replicate (Int.toNat (m : Int)) (.ref rf))))
          have gA := g17.trans t2
          refine ⟨x2, p7, dx2, _, List.replicate m (rowD (u0, .fls)), 12, rfl, upd_same, .inl (SqL.of hm), dpall_rep (hrfq.same gA) m, fun d hd => by rw [List.eq_of_mem_replicate hd]; exact rwF.1, by rw [List.length_replicate]; omega, ⟨"list", .base (.lst hm), .inl rfl⟩, ?_⟩
          rw [fstBad_good fun d hd => by rw [List.eq_of_mem_replicate hd]; exact rwF.2]
          show if (List.replicate m (rowD (u0, .fls))).length ≤ 40 then _ else _
          rw [List.length_replicate]
          by_cases e : m ≤ 40
          · rw [if_pos (by omega)] at eD2
            rw [if_pos e]
            intro a9 H9 h9 s9 k9'
            refine ⟨rfl, ?_⟩
            obtain ⟨d9, e9⟩ := id h9
            refine ⟨x2, d9, _, rfl, e9, x2, a9, _, rfl, h9, s9, m, by rw [List.length_replicate]; rfl, by omega, by omega, ?_⟩
            intro nn9 t' H10 s10 _ h10
            exact told_valT (n := 1) (by rw [eD2]; rfl) rfl pin2 (g17.trans (made1 nx2 ndx2 k9')) (.int _) nn9 s10 h10
          · rw [if_neg (by omega)] at eD2
            rw [if_neg e]
            exact rais_same gA (told_errT (n := 1) E2 pin2 (by rw [eD2]; rfl) rfl)
      | 3, hf =>
        cases hf
        refine ask_of (k := 21) (N := ["_law_row", "_law_bad"]) (σ := [some (.ref rf), some bv]) (ps := ["_law_c"]) (lamSc_by (by decide +kernel)) (Lb3.fx fxL) (.inr ⟨_, _, rfl, rfl, fun _ _ _ _ _ => ⟨_, rfl, fun _ => rfl⟩⟩)
          (cells_in okX PP (free_by (by show freeB (defScope s_law) _ = true; decide +kernel)) (fun i y v h1 h2 => ?_)) (by decide +kernel) pin2 rfl
          (fun A outer s c' room => ⟨_, pe_smeth (pe_glob (v := .ref CC) (by rfl) M.gC rfl) W.sO W.gO (room.mono (by decide)) (L2.passes_call (L2.takes_of rfl rfl rfl rfl) (fun _ _ _ _ h => h)) (pa_cons (pv 0) (pa_cons (pv 1) (pa_cons pe_non pa_nil))), ?_⟩)
        · match i, h1, h2 with
          | 0, h1, h2 =>
            cases h1
            cases h2
            exact ⟨9, rfl, rfl⟩
          | 1, h1, h2 =>
            cases h1
            cases h2
            exact ⟨5, rfl, rfl⟩
          | i + 2, h1, _ => simp at h1
        · refine ⟨rfl, _, rfl, _, rfl, [], [.ref rf, bv, .non], rfl, rfl, (by show 3 ≤ sizeLine; decide), fun p1 n1 => ?_⟩
          have b1 := same_new n1 (.tup [.ref rf, bv, .non])
          refine ⟨p1, _, [rowD (u0, .fls), dB, .none], 12, 1, rfl, upd_same, .cons (hrfq.same b1) (.cons (Dp_same b1 hBq) (.cons .non .nil)), ?_, by show 3 ≤ 1000; decide, ?_, rais_same b1 (told_errT (n := 1) E3 pin2 rfl rfl)⟩
          · intro d hd
            simp only [List.mem_cons, List.not_mem_nil, or_false] at hd
            rcases hd with rfl | rfl | rfl
            · exact rwF.1
            · exact rwB
            · exact ⟨rfl, by decide, _, (rfl : rowB .none = some false)⟩
          · exact fstBad_app (l := [rowD (u0, .fls)]) (t := [.none]) (by rw [rbB]; decide) fun d hd => by rw [List.mem_singleton.mp hd]; exact rwF.2
      | i + 4, hf => simp at hf)
  · rw [← eHr]
    have hq2 := Dp_same s16 hqd
    refine ⟨_, rfl, .ref p, .ref qd, .list [.tuple [.str "InvalidRow", .tuple [.int n]], .tuple [.str "InvalidRow", .tuple [.int 41]], D2, .tuple [.str "InvalidRow", .tuple [.int 1]]], rfl, Da_of (.lst (SqL.of hp16) (dpns_dp hR)), Da_of hq2, ?_, fun Ht st => ⟨_, rfl, iteE rfl ?_⟩⟩
    · rw [eD2]
      split <;> rfl
    have sE := b19.trans (s16.trans st)
    exact hq D Ht _ _ _ _ _ _ b l na Z x rf ys rs nss ws n u0 q (BC.kp sE) (sE _ _ hna6) hu0 nnb (sE _ _ hZ6) nzb (hrs6.same sE) hN hW hok h1 h4 (hcx6.same sE) (hrf6.same sE) hn (TC.ext sE)
end

end Ag

namespace Ag
open PySem PySem.Spec PyProof.Rows L2
theorem dep_okF {ws hs : List (List Nat)} : ∀ {n : Nat} {t : Fm}, okF ws hs n t → dep t ≤ n
  | 0, _, h => h.elim
  | n + 1, .fls, _ => by show 1 ≤ n + 1; omega
  | n + 1, .atom w, _ => by show 1 ≤ n + 1; omega
  | n + 1, .hole c, _ => by show 1 ≤ n + 1; omega
  | n + 1, .bin k a b, h => by
    have h1 := dep_okF h.1
    have h2 := dep_okF h.2
    show max (dep a) (dep b) + 1 ≤ n + 1
    omega
theorem shp2 {u : List Nat} (l : Low u) {d : PyData} (h1 : PyData.canLay0 d = true) (h2 : PyData.depth d ≤ 20) : SeqAt.shaped (.tuple [.str (SX.S u), d]) = true := by
  unfold SeqAt.shaped
  rw [Bool.and_eq_true]
  refine ⟨?_, decide_eq_true (by show max 0 (max (PyData.depth d) 0) + 1 ≤ 64; omega)⟩
  show (PyData.canLay0 (.str (SX.S u)) && (PyData.canLay0 d && true)) = true
  rw [h1, show PyData.canLay0 (.str (SX.S u)) = true from low_lay l]
  rfl
theorem odk2 {u : List Nat} (l : u.length ≤ 1000) {d : PyData} (h : odk 11 d = true) : odk 12 (.tuple [.str (SX.S u), d]) = true := by
  show (decide (2 ≤ 1000) && (odk 11 (.str (SX.S u)) && (odk 11 d && true))) = true
  rw [odk_S l, h]
  rfl
theorem rwB2 {u : List Nat} (l : Low u) (len : u.length ≤ 1000) {d : PyData} (h0 : odk 11 d = true) (h1 : PyData.canLay0 d = true) (h2 : PyData.depth d ≤ 20) (h : bD 10 false d = some false) : RwD 12 (.tuple [.str (SX.S u), d]) ∧ rowB (.tuple [.str (SX.S u), d]) = some false := by
  have rb : rowB (.tuple [.str (SX.S u), d]) = some false := by
    show (if nmB (.str (SX.S u)) = true then bD 10 false d else some false) = some false
    rw [h]
    split <;> rfl
  exact ⟨⟨odk2 len h0, shp2 l h1 h2, _, rb⟩, rb⟩
section
variable {P : Program} {w : World} {K : PySem.W.Frag} {mg : Str → Option Value} {base : Heap} {CK CC fK fC : Addr} {mc : Value} {cG cM cN C2 f2 C3 f3 C4 f4 : Addr} {α : Adr}
theorem ok_law {f c T fT : Addr} {fd fdT : FuncData} (F : Fun K "law" "law" s_law f fd) (hc : fd.code = .ref c) (TB : LamX.TabB base mg c T) (cs : Cals P w K mg base) (M : CtxM K mg CK CC fK fC mc) (W : Mths P w K mg base CC fC C2 C3 C4 mc α) (L : LawM mg)
    (GT : FnOk P w K mg base L2.CX0 24 fT fdT ["_law_asks"] (spTriesL P w K mg base cG cM cN 22)) (dT : Dn mg K "_law_tries" fT) (bT : Binds K fdT ["_law_asks"] [])
    (E2 : ErrK K mg "TooMany" C2 f2 cG cM cN) (E3 : ErrK K mg "InvalidRow" C3 f3 cG cM cN) (E4 : ErrK K mg "InvalidNumber" C4 f4 cG cM cN) : FnOk P w K mg base L2.CX0 40 f fd ["_law_script"] (spLawT K T) := by
  refine okc F hc scLaw (fun vs H Q E h => ?_) (fun A outer s H vs Q E hr h => ?_)
  · obtain ⟨a, ns, rfl, _⟩ := h
    rfl
  obtain ⟨a, ns, rfl, hS, h63, hT, q⟩ := h
  have nd := scLaw.nd
  obtain ⟨u, hu, hq⟩ := law_b TB cs M W L GT dT bT E2 E3 E4 (f := f) (A := A) (outer := outer) (s := s) (H0 := H) (E := E) hr
  refine ⟨_, pss_cons (ps_set (i := 1) nd rfl (.inl rfl) (C8.pe_c cs.bag hr (by decide) (by rfl) (pa_cons (pv 0) pa_nil)))
    (pss_cons (ps_asg (pe_tup (pa_cons (C8.pe_c cs.names hr (by decide) (by rfl) (pa_cons (pv 1) (pa_cons pe_int pa_nil))) (pa_cons (C8.pe_c cs.names hr (by decide) (by rfl) (pa_cons (pv 1) (pa_cons pe_int pa_nil))) pa_nil))) (pg_tup rfl (pgs_cons (pg_name (i := 2) nd rfl (.inr rfl)) (pgs_cons (pg_name (i := 3) nd rfl (.inl rfl)) pgs_nil))))
    (pss_cons (ps_set (i := 4) nd rfl (.inr rfl) (C8.pe_c cs.rows hr (by decide) (by rfl) (pa_cons (pv 1) (pa_cons (pv 2) (pa_cons (pv 3) (pa_cons (pe_op op_add pe_int (C8.pe_c cs.pull hr (by decide) (by rfl) (pa_cons (pv 1) (pa_cons pe_int pa_nil)))) pa_nil))))))
    (pss_cons (ps_set (i := 5) nd rfl (.inr rfl) (C8.pe_c cs.any hr (by decide) (by rfl) (pa_cons (pv 1) (pa_cons (pe_lst (pa_cons pe_non (pa_cons pe_int (pa_cons (pe_tup pa_nil) (pa_cons pe_str (pa_cons (pe_tup (pa_cons (pe_ix ix_list (pv 2) pe_int (fun _ _ => rfl)) pa_nil))
        (pa_cons (pe_callTy call_list_of (by rfl) L.list (by decide +kernel) (pa_cons (pe_ix ix_list (pv 4) pe_int (fun _ _ => rfl)) pa_nil)) (pa_cons (pe_tup (pa_cons pe_str (pa_cons (pe_tup (pa_cons pe_str pa_nil)) pa_nil))) (pa_cons (pe_tup (pa_cons pe_non (pa_cons (pe_tup (pa_cons pe_str pa_nil)) pa_nil)))
        (pa_cons (pe_tup (pa_cons (pe_ix ix_list (pv 2) pe_int (fun _ _ => rfl)) (pa_cons pe_str pa_nil))) (pa_cons (pe_tup (pa_cons (pe_ix ix_list (pv 2) pe_int (fun _ _ => rfl)) (pa_cons pe_non pa_nil))) (pa_cons (pe_op op_catA (pe_ix ix_list (pv 4) pe_int (fun _ _ => rfl)) (pe_tup (pa_cons pe_int pa_nil)))
        (pa_cons (pe_tup (pa_cons pe_str (pa_cons (pe_tup (pa_cons pe_str pa_nil)) pa_nil))) (pa_cons (pe_tup (pa_cons (pe_ix ix_list (pv 2) pe_int (fun _ _ => rfl)) (pa_cons (pe_tup (pa_cons pe_str (pa_cons pe_str pa_nil))) pa_nil))) pa_nil)))))))))))))) pa_nil))))
    (pss_cons (ps_asg (pe_tup (pa_cons (C8.pe_c cs.pull hr (by decide) (by rfl) (pa_cons (pv 1) (pa_cons (pe_op op_add (pe_callB call_len_seq (by rfl) M.len boot_len (pa_cons (pv 4) pa_nil)) pe_int) pa_nil))) (pa_cons (pe_op op_add pe_int (C8.pe_c cs.pull hr (by decide) (by rfl) (pa_cons (pv 1) (pa_cons pe_int pa_nil)))) pa_nil))) (pg_tup rfl (pgs_cons (pg_name (i := 6) nd rfl (.inr rfl)) (pgs_cons (pg_name (i := 7) nd rfl (.inr rfl)) pgs_nil))))
    (pss_cons (ps_asg (pe_tup (pa_cons (pe_make M.kC W.gC (hr.mono (by decide)) (by rfl) M.gC W.bC .nil pass0 (pa_cons (pv 4) pa_nil)) (pa_cons (pe_tup (pa_cons (pe_ix ix_list (pv 2) pe_int (fun _ _ => rfl)) (pa_cons (pe_tup (pa_cons pe_str pa_nil)) pa_nil))) pa_nil))) (pg_tup rfl (pgs_cons (pg_name (i := 8) nd rfl (.inr rfl)) (pgs_cons (pg_name (i := 9) nd rfl (.inr rfl)) pgs_nil))))
    hu))))), ?_⟩
  refine ⟨_, rfl, a, ns, rfl, hS, h63, fun b l H1 nb s1 B1 => ?_⟩
  have T1 : LamX.TabS H1 T qLam := (LamX.TabS.nil hT).ext s1
  refine ⟨_, rfl, b, l, 3, rfl, B1, by decide, fun na nss H2 hN nna k2 B2 hna => ?_⟩
  have T2 := tabS_bag T1 k2 B1
  refine ⟨_, rfl, b, l, 2, rfl, B2, by decide, fun wa ws H3 hW nwa k3 B3 hwa => ?_⟩
  have T3 := tabS_bag T2 k3 B2
  have nnb := B1.new nna
  have nwb := B2.new nwa
  have ln := hN.len
  have lws := hW.len
  have hna3 := k3 _ _ hna nnb.1
  refine ⟨(by show 2 ≤ sizeLine; decide), fun pt npt => ?_⟩
  have y0 := same_new npt (.tup [.ref na, .ref wa])
  refine ⟨pt, _, rfl, SqT.of upd_same, rfl, _, _, rfl, _, _, rfl, rfl, ?_⟩
  have B3 := B3.kp y0
  have T3 := T3.ext y0
  have hna3 := y0 _ _ hna3
  have hwa3 := y0 _ _ hwa
  refine ⟨_, rfl, _, rfl, _, rfl, _, rfl, b, l, 4, rfl, B3, by decide, by decide, fun d1 H4 h10 h11 k4 B4 => ⟨_, _, rfl, rfl, ?_⟩⟩
  have T4 := tabS_bag T3 k4 B3
  obtain ⟨m1, em1⟩ : ∃ m : Nat, 1 + d1 = (m : Int) := ⟨(1 + d1).toNat, by omega⟩
  refine ⟨b, l, na, wa, nss, ws, m1, by show [V.ref b, V.ref na, V.ref wa, V.int (1 + d1)] = _; rw [em1], B4, SqL.of (k4 _ _ hna3 nnb.1), nnb.1, by omega, by omega, SqL.of (k4 _ _ hwa3 nwb.1), nwb.1, by omega, by omega, by omega, fun Z ys rs H5 hrl hok hZ hrs nZ k5 B5 => ?_⟩
  have T5 := tabS_bag T4 k5 B4
  have nzb := B4.new nZ
  have lys : ys.length = rs.length := Paired.length hrs
  have hna5 := k5 _ _ (k4 _ _ hna3 nnb.1) nnb.1
  obtain ⟨u0, hu0⟩ : ∃ u0, nss[0]? = some u0 := ⟨nss[0]'(by omega), List.getElem?_eq_getElem (by omega)⟩
  obtain ⟨mem0, low0, len0⟩ : u0 ∈ nss ∧ Low u0 ∧ u0.length ≤ 1000 := by
    have hm := List.mem_of_getElem? hu0
    obtain ⟨w1, w2, w3⟩ := hN.word _ hm
    exact ⟨hm, w1, by omega⟩
  have at0 : atI (nss.map fun w => V.str (SX.S w)) 0 = some (.str (SX.S u0)) := atI_nat (j := 0) (by rw [List.getElem?_map, hu0]; rfl)
  obtain ⟨r0, hr0⟩ : ∃ r0, rs[0]? = some r0 := ⟨rs[0]'(by omega), List.getElem?_eq_getElem (by omega)⟩
  obtain ⟨v0, hv0, hrow0⟩ := rows_at2 hrs hr0
  obtain ⟨p0, fx0, rfl, sp0, ff0⟩ := row_at hrow0
  have atR : atI ys 0 = some (.ref p0) := atI_nat (j := 0) hv0
  refine ⟨_, rfl, (by show 0 ≤ sizeLine; decide), fun t3 n3 => ?_⟩
  have y3 := same_new n3 (.tup [])
  refine ⟨_, rfl, na, _, _, _, rfl, rfl, SqL.of ((y3) _ _ hna5), at0, (by show 1 ≤ sizeLine; decide), fun t5 n5 => ?_⟩
  have y5 := same_new n5 (.tup [.str (SX.S u0)])
  refine ⟨_, rfl, Z, _, _, _, rfl, rfl, SqL.of ((y3.trans (y5)) _ _ hZ), atR, p0, _, rfl, .inr (sameT (y3.trans (y5)) sp0), fun l6 n6 => ?_⟩
  have y6 := same_new n6 (.lst [.str (SX.S r0.1), fx0])
  refine ⟨(by show 1 ≤ sizeLine; decide), fun f7 n7 => ⟨(by show 2 ≤ sizeLine; decide), fun t7 m7 => ⟨(by show 1 ≤ sizeLine; decide), fun f8 n8 => ⟨(by show 2 ≤ sizeLine; decide), fun t8 m8 => ?_⟩⟩⟩⟩
  have y7 := same_new n7 (.tup [.str "false"])
  have z7 := same_new m7 (.tup [.str "Ab", .ref f7])
  have y8 := same_new n8 (.tup [.str "false"])
  have z8 := same_new m8 (.tup [.non, .ref f8])
  refine ⟨_, rfl, na, _, _, _, rfl, rfl, SqL.of ((y3.trans (y5.trans (y6.trans (y7.trans (z7.trans (y8.trans (z8))))))) _ _ hna5), at0, (by show 2 ≤ sizeLine; decide), fun t9 n9 => ?_⟩
  have y9 := same_new n9 (.tup [.str (SX.S u0), .str "p"])
  refine ⟨_, rfl, na, _, _, _, rfl, rfl, SqL.of ((y3.trans (y5.trans (y6.trans (y7.trans (z7.trans (y8.trans (z8.trans (y9)))))))) _ _ hna5), at0, (by show 2 ≤ sizeLine; decide), fun ta na' => ?_⟩
  have ya := same_new na' (.tup [.str (SX.S u0), .non])
  refine ⟨_, rfl, Z, _, _, _, rfl, rfl, SqL.of ((y3.trans (y5.trans (y6.trans (y7.trans (z7.trans (y8.trans (z8.trans (y9.trans (ya))))))))) _ _ hZ), atR, (by show 1 ≤ sizeLine; decide), fun ob nob => ?_⟩
  have yb := same_new nob (.tup [.int 1])
  refine catA_of (sameT (y3.trans (y5.trans (y6.trans (y7.trans (z7.trans (y8.trans (z8.trans (y9.trans (ya.trans (yb)))))))))) sp0) (SqT.of upd_same) (by show 2 + 1 ≤ sizeLine; decide) fun cb Hb sb hcb => ?_
  refine ⟨(by show 1 ≤ sizeLine; decide), fun fc nfc => ⟨(by show 2 ≤ sizeLine; decide), fun tc ntc => ?_⟩⟩
  have yc := same_new nfc (.tup [.str "false"])
  have zc := same_new ntc (.tup [.str "", .ref fc])
  refine ⟨_, rfl, na, _, _, _, rfl, rfl, SqL.of ((y3.trans (y5.trans (y6.trans (y7.trans (z7.trans (y8.trans (z8.trans (y9.trans (ya.trans (yb.trans (sb.trans (yc.trans (zc))))))))))))) _ _ hna5), at0, (by show 2 ≤ sizeLine; decide), fun hd nhd => ⟨(by show 2 ≤ sizeLine; decide), fun td ntd => ⟨(by show 13 ≤ sizeLine; decide), fun lo nlo => ?_⟩⟩⟩
  have yd := same_new nhd (.tup [.str "hole", .str "a"])
  have zd := same_new ntd (.tup [.str (SX.S u0), .ref hd])
  have ye := same_new nlo (.lst [.non, .int 3, .ref t3, .str "row", .ref t5, .ref l6, .ref t7, .ref t8, .ref t9, .ref ta, .ref cb, .ref tc, .ref td])
  have w_ye := ye
  have w_zd := zd.trans w_ye
  have w_yd := yd.trans w_zd
  have w_zc := zc.trans w_yd
  have w_yc := yc.trans w_zc
  have w_sb := sb.trans w_yc
  have w_yb := yb.trans w_sb
  have w_ya := ya.trans w_yb
  have w_y9 := y9.trans w_ya
  have w_z8 := z8.trans w_y9
  have w_y8 := y8.trans w_z8
  have w_z7 := z7.trans w_y8
  have w_y7 := y7.trans w_z7
  have w_y6 := y6.trans w_y7
  have w_y5 := y5.trans w_y6
  have w_y3 := y3.trans w_y5
  have sA := w_y3
  have B6 := B5.kp sA
  have nl6 : l6 ≠ b := ((B5.kp (y3.trans y5)).new n6).1
  refine ⟨b, l, .ref lo, _, rfl, B6, .inr ⟨lo, rfl, ?_, .inl (SqL.of upd_same)⟩, (by show 0 < 13; decide), (by show 13 < 2 ^ 62; decide), fun r1 bv H6 hr6 k6 B6' => ?_⟩
  · exact ((B5.kp (y3.trans (y5.trans (y6.trans (y7.trans (z7.trans (y8.trans (z8.trans (y9.trans (ya.trans (yb.trans (sb.trans (yc.trans (zc.trans (yd.trans (zd)))))))))))))))).new nlo).1
  have T6 := tabS_bag (T5.ext sA) k6 B6
  have tp6 := bag_tp B6 k6
  have okr0 := hok r0 (List.mem_of_getElem? hr0)
  obtain ⟨o1, o2⟩ := okR_ok hN hW okr0
  have rwr := (rwD_ok hN hW okr0).1
  have lowr := (hN.word _ okr0.1).1
  have lenr : r0.1.length ≤ 1000 := o1.len
  have tdr : tupd 8 r0.2.dat = true := tupd_up (by have := dep_okF (hok r0 (List.mem_of_getElem? hr0)).2; omega) (tupd_fm r0.2)
  have layr := ok_lay (fun w hw => (hW.word w hw).1) (fun c h => (by cases h)) okr0.2
  have odkr := odk_up (m := 10) (by decide) (odk_ok (fun w hw => by have := (hW.word w hw).2.2; omega) (fun c h => (by cases h)) okr0.2)
  obtain ⟨dB, hbad, rwB, rbB⟩ : ∃ dB, (∀ H' : Hp, Kp b H6 H' → BadAt K H' bv dB) ∧ RwD 12 dB ∧ rowB dB = some false := by
    have tup : ∀ {v : V} {d : PyData}, tupd 9 d = true → Dp K _ v d → ∀ H' : Hp, Kp b H6 H' → BadAt K H' v d := fun h1 h2 H' k => .inl ⟨h1, tupd_tp (bag_tp B6' k) h1 (tupd_tp tp6 h1 h2)⟩
    match r1, hr6 with
    | 0, e => cases e; exact ⟨.none, tup rfl .non, ⟨rfl, by decide, _, rfl⟩, rfl⟩
    | 1, e => cases e; exact ⟨.int 3, tup rfl (.int 3), ⟨rfl, by decide, _, rfl⟩, rfl⟩
    | 2, e => cases e; exact ⟨.tuple [], tup rfl (.tup (SqT.of (w_y5 _ _ upd_same)) .nil), ⟨rfl, by decide, _, rfl⟩, rfl⟩
    | 3, e => cases e; exact ⟨.str "row", tup rfl (.str "row"), ⟨by decide +kernel, by decide +kernel, _, rfl⟩, rfl⟩
    | 4, e =>
      cases e
      refine ⟨.tuple [.str (SX.S u0)], tup rfl (.tup (SqT.of (w_y6 _ _ upd_same)) (.cons (.str _) .nil)), ⟨?_, ?_, _, rfl⟩, rfl⟩
      · show (decide (1 ≤ 1000) && (odk 11 (.str (SX.S u0)) && true)) = true
        rw [odk_S len0]
        rfl
      · unfold SeqAt.shaped
        rw [Bool.and_eq_true]
        refine ⟨?_, rfl⟩
        show (PyData.canLay0 (.str (SX.S u0)) && true) = true
        rw [show PyData.canLay0 (.str (SX.S u0)) = true from low_lay low0]
        rfl
    | 5, e =>
      cases e
      have hl6 := k6 _ _ (w_y7 _ _ upd_same) nl6
      have inr6 : ∀ e ∈ ([.str (SX.S r0.1), r0.2.dat] : List PyData), tupd 9 e = true := by
        intro e he
        simp only [List.mem_cons, List.not_mem_nil, or_false] at he
        rcases he with rfl | rfl
        · rfl
        · exact tupd_up (by decide) tdr
      refine ⟨.list [.str (SX.S r0.1), r0.2.dat], fun H' k => .inr ⟨l6, _, _, rfl, rfl, k _ _ hl6 nl6, inr6, .cons (.str _) (.cons (tupd_tp (bag_tp B6' k) tdr (tupd_tp tp6 tdr (Dp_same sA ff0))) .nil)⟩, ⟨?_, ?_, _, rfl⟩, rfl⟩
      · show (decide (2 ≤ 1000) && (odk 11 (.str (SX.S r0.1)) && (odk 11 r0.2.dat && true))) = true
        rw [odk_S lenr, odk_up (by decide) odkr]
        rfl
      · unfold SeqAt.shaped
        rw [Bool.and_eq_true]
        refine ⟨?_, decide_eq_true (by show max 0 (max (PyData.depth r0.2.dat) 0) + 1 ≤ 64; have := layr.2; omega)⟩
        show (PyData.canLay0 (.str (SX.S r0.1)) && (PyData.canLay0 r0.2.dat && true)) = true
        rw [layr.1, show PyData.canLay0 (.str (SX.S r0.1)) = true from low_lay lowr]
        rfl
    | 6, e => cases e; exact ⟨.tuple [.str "Ab", .tuple [.str "false"]], tup rfl (.tup (SqT.of (w_y8 _ _ upd_same)) (.cons (.str _) (.cons (.tup (SqT.of (w_z7 _ _ upd_same)) (.cons (.str _) .nil)) .nil))), ⟨by decide +kernel, by decide +kernel, _, (by decide +kernel : rowB (.tuple [.str "Ab", .tuple [.str "false"]]) = some false)⟩, by decide +kernel⟩
    | 7, e => cases e; exact ⟨.tuple [.none, .tuple [.str "false"]], tup rfl (.tup (SqT.of (w_y9 _ _ upd_same)) (.cons .non (.cons (.tup (SqT.of (w_z8 _ _ upd_same)) (.cons (.str _) .nil)) .nil))), ⟨by decide +kernel, by decide +kernel, _, (by decide +kernel : rowB (.tuple [.none, .tuple [.str "false"]]) = some false)⟩, by decide +kernel⟩
    | 8, e =>
      cases e
      obtain ⟨h1, h2⟩ := rwB2 low0 len0 (d := .str "p") (by decide +kernel) (by decide +kernel) (by decide) rfl
      exact ⟨_, tup rfl (.tup (SqT.of (w_ya _ _ upd_same)) (.cons (.str _) (.cons (.str _) .nil))), h1, h2⟩
    | 9, e =>
      cases e
      obtain ⟨h1, h2⟩ := rwB2 low0 len0 (d := .none) rfl rfl (by decide) rfl
      exact ⟨_, tup rfl (.tup (SqT.of (w_yb _ _ upd_same)) (.cons (.str _) (.cons .non .nil))), h1, h2⟩
    | 10, e =>
      cases e
      refine ⟨.tuple [.str (SX.S r0.1), r0.2.dat, .int 1], tup ?_ (.tup (sameT w_yc hcb) (.cons (.str _) (.cons (Dp_same sA ff0) (.cons (.int 1) .nil)))), ⟨?_, ?_, _, rfl⟩, rfl⟩
      · show (decide (3 ≤ 1000) && (true && (tupd 8 r0.2.dat && (true && true)))) = true
        rw [tdr]
        rfl
      · show (decide (3 ≤ 1000) && (odk 11 (.str (SX.S r0.1)) && (odk 11 r0.2.dat && (true && true)))) = true
        rw [odk_S lenr, odk_up (by decide) odkr]
        rfl
      · unfold SeqAt.shaped
        rw [Bool.and_eq_true]
        refine ⟨?_, decide_eq_true (by show max 0 (max (PyData.depth r0.2.dat) (max 0 0)) + 1 ≤ 64; have := layr.2; omega)⟩
        show (PyData.canLay0 (.str (SX.S r0.1)) && (PyData.canLay0 r0.2.dat && (true && true))) = true
        rw [layr.1, show PyData.canLay0 (.str (SX.S r0.1)) = true from low_lay lowr]
        rfl
    | 11, e => cases e; exact ⟨.tuple [.str "", .tuple [.str "false"]], tup rfl (.tup (SqT.of (w_yd _ _ upd_same)) (.cons (.str _) (.cons (.tup (SqT.of (w_zc _ _ upd_same)) (.cons (.str _) .nil)) .nil))), ⟨by decide +kernel, by decide +kernel, _, (by decide +kernel : rowB (.tuple [.str "", .tuple [.str "false"]]) = some false)⟩, by decide +kernel⟩
    | 12, e =>
      cases e
      obtain ⟨h1, h2⟩ := rwB2 low0 len0 (d := .tuple [.str "hole", .str "a"]) (by decide +kernel) (by decide +kernel) (by decide) (by decide +kernel)
      exact ⟨_, tup rfl (.tup (SqT.of (w_ye _ _ upd_same)) (.cons (.str _) (.cons (.tup (SqT.of (w_zd _ _ upd_same)) (.cons (.str _) (.cons (.str _) .nil))) .nil))), h1, h2⟩
    | r1 + 13, e => simp at e
  have hZ6 := k6 _ _ (sA _ _ hZ) nzb.1
  have hna6 := k6 _ _ (sA _ _ hna5) nnb.1
  have hrs6 := (hrs.same sA).kp k6 B6
  -- at, many
  refine ⟨_, rfl, _, rfl, Z, ys, rfl, .inl (SqL.of hZ6), _, _, rfl, rfl, b, l, _, rfl, B6', by omega, by omega, fun dd H7 hd0 hd1 k7 B7 => ?_⟩
  have T7 := tabS_bag T6 k7 B6'
  refine ⟨_, rfl, b, l, 4, rfl, B7, by decide, by decide, fun d2 H8 hd20 hd21 k8 B8 => ⟨_, _, rfl, rfl, (by show 2 ≤ sizeLine; decide), fun pp npp => ?_⟩⟩
  have T8 := tabS_bag T7 k8 B7
  obtain ⟨n, rfl⟩ : ∃ n : Nat, dd = (n : Int) := ⟨dd.toNat, by omega⟩
  obtain ⟨m, em⟩ : ∃ m : Nat, 39 + d2 = (m : Int) := ⟨(39 + d2).toNat, by omega⟩
  have k78 := k7.trans k8
  have yp := same_new npp (.tup [.int (n : Int), .int (39 + d2)])
  refine ⟨pp, _, rfl, SqT.of upd_same, rfl, _, _, rfl, _, _, rfl, rfl, ?_⟩
  have hbad8 := bad_same (hbad H8 k78) yp
  have hZ8 := yp _ _ (k78 _ _ hZ6 nzb.1)
  have hna8 := yp _ _ (k78 _ _ hna6 nnb.1)
  have hrs8 := (hrs6.kp k78 B6').same yp
  have B9 := B8.kp yp
  have T9 := T8.ext yp
  generalize hH9 : upd H8 pp (.tup [.int (n : Int), .int (39 + d2)]) = H9 at *
  -- made, row
  refine ⟨_, rfl, fun x dx nx ndx nd1 => ?_⟩
  have t1 := made0 (C := CC) nx ndx
  have hZ9 := t1 _ _ hZ8
  refine ⟨x, Z, dx, ys, rs, rfl, upd_same, .inl (SqL.of hZ9), hrs8.same t1, fun r hr' => okR_ok hN hW (hok r hr'), by omega, ⟨"list", .base (.lst hZ9), .inl rfl⟩, fun HA cA kA => ⟨rfl, ?_⟩⟩
  have sA' := made1 nx ndx kA
  refine ⟨_, rfl, na, _, _, _, rfl, rfl, SqL.of (sA' _ _ hna8), at0, (by show 1 ≤ sizeLine; decide), fun ff nff => ⟨(by show 2 ≤ sizeLine; decide), fun rf nrf => ⟨(by show 2 ≤ sizeLine; decide), fun p2 np2 => ⟨p2, _, rfl, SqT.of upd_same, rfl, _, _, rfl, _, _, rfl, rfl, ?_⟩⟩⟩⟩
  have q1 := same_new nff (.tup [.str "false"])
  have q2 := same_new nrf (.tup [.str (SX.S u0), .ref ff])
  have q3 := same_new np2 (.tup [.ref x, .ref rf])
  have q13 := q1.trans (q2.trans q3)
  have sZ := sA'.trans q13
  have hrf : RowAt K _ (.ref rf) (u0, .fls) := mk_row (r := (u0, .fls)) (SqT.of (q3 _ _ upd_same)) ((mk_fls (K := K) (SqT.of upd_same)).same (q2.trans q3))
  have em2 : (39 + d2 : Int) = (m : Int) := em
  show u _ [_, _, _, _, _, _, _, some (V.int (39 + d2)), _, _, _, _, _, _] _
  rw [em2]
  exact hq _ _ _ _ bv dB b l na Z x rf ys rs nss ws n m u0 (fun H' => q H') (B9.kp sZ) (sZ _ _ hna8) hu0 nnb (sZ _ _ hZ8) nzb (hrs8.same sZ) hN hW hok (by omega) (by omega) (cA.same q13) hrf (by omega) (by omega) (by omega) (bad_same hbad8 sZ) rwB rbB (T9.ext sZ)
end

end Ag

namespace Ag
open PySem PySem.Spec PyProof.Rows L2
/-! ### what the top leaves of the errors' classes, of copied, of the law's own table -/
section
variable {P : Program} {w : World} {K : PySem.W.Frag} {mg : Str → Option Value} {base : Heap} {h : Heap}
theorem exm_of {C D : Addr} {b : Bool} (h1 : PySem.W.subIn K (.ref D) (.type "BaseException") = some true) (h2 : PySem.W.isClsIn K D = true) (h3 : PySem.W.typeIn K (.ref D) = some (.type "type")) (h4 : PySem.W.subIn K (.ref C) (.ref D) = some b) : PySem.W.exmOne K (.ref C) (.ref D) = some b := by
  have z : (PySem.W.clsIn K D).isSome = true := h2
  have e1 : (PySem.W.subIn K (.ref D) (.type "BaseException") == some true) = true := by
    rw [h1]
    rfl
  have e3 : (PySem.W.typeIn K (.ref D) == some (.type "type")) = true := by
    rw [h3]
    exact beq_self_eq_true _
  have e2 : ((PySem.W.clsIn K D).isSome && PySem.W.typeIn K (.ref D) == some (.type "type")) = true := by
    rw [z, e3]
    rfl
  exact (if_pos e1).trans ((if_pos e2).trans h4)
/-- the classes of the clause, as classes -/
structure TryC (K : PySem.W.Frag) (c : Addr) : Prop where
  ex : PySem.W.subIn K (.ref c) (.type "BaseException") = some true
  cl : PySem.W.isClsIn K c = true
  ty : PySem.W.typeIn K (.ref c) = some (.type "type")
theorem exm3 {C cG cM cN : Addr} {b1 b2 b3 : Bool} (G : TryC K cG) (M : TryC K cM) (N : TryC K cN) (h1 : PySem.W.subIn K (.ref C) (.ref cG) = some b1) (h2 : PySem.W.subIn K (.ref C) (.ref cM) = some b2) (h3 : PySem.W.subIn K (.ref C) (.ref cN) = some b3) (e : (b1 || (b2 || (b3 || false))) = true) :
    PySem.W.exmAny K (.ref C) [.ref cG, .ref cM, .ref cN] = some true := by
  unfold PySem.W.exmAny
  rw [exm_of G.ex G.cl G.ty h1]
  unfold PySem.W.exmAny
  rw [exm_of M.ex M.cl M.ty h2]
  unfold PySem.W.exmAny
  rw [exm_of N.ex N.cl N.ty h3]
  unfold PySem.W.exmAny
  show some (b1 || (b2 || (b3 || false))) = some true
  rw [e]
theorem tryc_mk {x : Str} {c : Addr} (X : K.In h) (G : h.Ns mainGlobals mg) (a : PySem.W.nsIn K mainGlobals x = some (some (.ref c))) (ex : PySem.W.subIn K (.ref c) (.type "BaseException") = some true) (cl : PySem.W.isClsIn K c = true) (ty : PySem.W.typeIn K (.ref c) = some (.type "type")) :
    mg x = some (.ref c) ∧ TryC K c := ⟨PySem.W.mg_of X G a, ex, cl, ty⟩
theorem errk_mk {x : Str} {C fI cG cM cN : Addr} {nm q : Str} {N : Addr} {bs : List Value} {sn : List Str} {sub : List Value} {ab : Bool} {col : Option Bool} {dd : Option Addr} {m0 m1 m2 m3 m5 : Option Value} {b1 b2 b3 : Bool} (X : K.In h) (G : h.Ns mainGlobals mg)
    (TG : TryC K cG) (TM : TryC K cM) (TN : TryC K cN) (a : PySem.W.nsIn K mainGlobals x = some (some (.ref C)))
    (l : K.lookup C = some (excClassObj nm q C N bs [.ref cG, .type "ValueError", .type "Exception", .type "BaseException", .type "object"] true sn sub ab col dd m0 m1 m2 m3 m5 "ValueError.__new__"))
    (sa : PySem.W.findIn K (.ref C) "__setattr__" = some (some (.builtin "object.__setattr__"))) (ga : PySem.W.findIn K (.ref C) "__getattribute__" = some (some (.builtin "BaseException.__getattribute__"))) (gg : PySem.W.findIn K (.ref C) "__getattr__" = some none)
    (n1 : PySem.W.findIn K (.ref C) "code" = some none) (n2 : PySem.W.findIn K (.ref C) "value" = some none) (n3 : PySem.W.findIn K (.ref C) "at" = some none) (n4 : PySem.W.findIn K (.ref C) "line" = some none) (n5 : PySem.W.findIn K (.ref C) "most" = some none) (n6 : PySem.W.findIn K (.ref C) "path" = some none) (n7 : PySem.W.findIn K (.ref C) "name" = some none) (n8 : PySem.W.findIn K (.ref C) "user" = some none) (n9 : PySem.W.findIn K (.ref C) "reason" = some none)
    (iC : PySem.W.findIn K (.ref C) "__init__" = some (some (.ref fI))) (tI : PySem.W.typeIn K (.ref fI) = some (.type "function")) (kC : PySem.W.keepIn K (.ref C) = true) (eC : PySem.W.subIn K (.ref C) (.type "BaseException") = some true) (tC : PySem.W.typeIn K (.ref C) = some (.type "type")) (hC : PySem.W.hasDictIn K C = true)
    (s1 : PySem.W.subIn K (.ref C) (.ref cG) = some b1) (s2 : PySem.W.subIn K (.ref C) (.ref cM) = some b2) (s3 : PySem.W.subIn K (.ref C) (.ref cN) = some b3) (hb : (b1 || (b2 || (b3 || false))) = true) : ErrK K mg x C fI cG cM cN := by
  refine ⟨⟨⟨nm, q, N, bs, _, sn, sub, ab, col, dd, m0, m1, m2, m3, m5, l, rfl⟩, sa, eC, tC, kC⟩, ⟨⟨ga, gg, eC, hC⟩, fun n hn => ?_⟩, iC, tI, PySem.W.mg_of X G a, exm3 TG TM TN s1 s2 s3 hb⟩
  simp only [List.mem_cons, List.not_mem_nil, or_false] at hn
  rcases hn with rfl | rfl | rfl | rfl | rfl | rfl | rfl | rfl | rfl
  · exact n1
  · exact n2
  · exact n3
  · exact n4
  · exact n5
  · exact n6
  · exact n7
  · exact n8
  · exact n9
theorem einit_mk {x q : Str} {st : Stmt} {n : Str} {C f cG cM cN : Addr} {od an : Option Addr} {sl : Array (Option Value)} {oc kV dc pm cd ct : Value} (E : ErrK K mg x C f cG cM cN) (l : K.lookup f = some ⟨oc, od, .func (PySem.W.fnOf "__init__" q (defArgs st) (defBody st) (defScope st) .none kV dc pm an cd ct), sl⟩) (c : PySem.W.codeIn K cd q = true) (k : PySem.W.keepIn K (.ref f) = true)
    (hb : ∀ (kV doc pm : Value) (an : Option Addr) (cdv ct : Value) (us : List Value), us.length = 2 → bindArgs (PySem.W.fnOf "__init__" q (defArgs st) (defBody st) (defScope st) .none kV doc pm an cdv ct) ⟨us, []⟩ = pure ((["self", n] : List Str).zip us)) :
    Fun K "__init__" q st f (PySem.W.fnOf "__init__" q (defArgs st) (defBody st) (defScope st) .none kV dc pm an cd ct) ∧ Binds K (PySem.W.fnOf "__init__" q (defArgs st) (defBody st) (defScope st) .none kV dc pm an cd ct) ["self", n] [] :=
  ⟨fun_mk (st := st) l c k, (fun_mk (st := st) l c k).binds hb⟩
theorem copd_mk {f D : Addr} {od an odD : Option Addr} {sl slD : Array (Option Value)} {oc kV dc pm cd ct ocD : Value} {nD : Nat} {t : Tok} (X : K.In h) (G : h.Ns mainGlobals mg) (a : PySem.W.nsIn K mainGlobals "copied" = some (some (.ref f)))
    (l : K.lookup f = some ⟨oc, od, .func (PySem.W.fnOf "copied" "copied" (defArgs s_copied) (defBody s_copied) (defScope s_copied) (.ref D) kV dc pm an cd ct), sl⟩)
    (lD : K.lookup D = some ⟨ocD, odD, .seq #[.int 12 t] nD, slD⟩) (c : PySem.W.codeIn K cd "copied" = true) (k : PySem.W.keepIn K (.ref f) = true) :
    mg "copied" = some (.ref f) ∧ CopD K f (PySem.W.fnOf "copied" "copied" (defArgs s_copied) (defBody s_copied) (defScope s_copied) (.ref D) kV dc pm an cd ct) :=
  ⟨PySem.W.mg_of X G a, ⟨⟨oc, od, .ref D, kV, dc, pm, an, cd, ct, sl, rfl, l, c, .inr ⟨by simp, D, _, [.int 12 t], nD, rfl, lD, rfl, .cons ⟨t, rfl⟩ .nil⟩, .inl rfl⟩, k⟩⟩
theorem copied_both {f : Addr} {fd : FuncData} (F : CopD K f fd) (m : mg "copied" = some (.ref f)) (M : CopM mg) : C8.Cal P w K mg base 13 "copied" (spCp K 13) [.int 12] := by
  obtain ⟨d0, r0, b0⟩ := F.binds1 (ps := ["value", "depth"]) 2 1 (by simp) rfl (fun T kV doc pm an cdv ct us its l1 l2 => match us, its, l1, l2 with | [_, _], [_], _, _ => ⟨_, rfl, rfl⟩)
  cases r0
  obtain ⟨d1, r1, b1⟩ := F.binds1 (ps := ["value", "depth"]) 1 0 (by simp) rfl (fun T kV doc pm an cdv ct us its l1 l2 => match us, its, l1, l2 with | [_], [_], _, _ => ⟨_, rfl, rfl⟩)
  exact ⟨f, fd, _, d1, ok_copied F M (copied_cal F b0 m M 12), m, F.kp, b1, r1⟩
end

section
variable {P : Program} {w : World} {K : PySem.W.Frag} {mg : Str → Option Value} {base : Heap}
theorem copiedL_both {f : Addr} {fd : FuncData} (F : CopD K f fd) (m : mg "copied" = some (.ref f)) (M : CopM mg) : C8.Cal P w K mg base 13 "copied" (spCpL K 13) [.int 12] := by
  obtain ⟨d0, r0, b0⟩ := F.binds1 (ps := ["value", "depth"]) 2 1 (by simp) rfl (fun T kV doc pm an cdv ct us its l1 l2 => match us, its, l1, l2 with | [_, _], [_], _, _ => ⟨_, rfl, rfl⟩)
  cases r0
  obtain ⟨d1, r1, b1⟩ := F.binds1 (ps := ["value", "depth"]) 1 0 (by simp) rfl (fun T kV doc pm an cdv ct us its l1 l2 => match us, its, l1, l2 with | [_], [_], _, _ => ⟨_, rfl, rfl⟩)
  exact ⟨f, fd, _, d1, ok_copiedL F M (copiedL_cal F b0 m M 12), m, F.kp, b1, r1⟩
end

/-! ### what the top leaves of the classes -/
section
variable {P : Program} {w : World} {K : PySem.W.Frag} {mg : Str → Option Value} {base : Heap}
theorem conI_mk {h : Heap} {x : Str} {n : Int} {t : Tok} (X : K.In h) (G : h.Ns mainGlobals mg) (e : PySem.W.nsIn K mainGlobals x = some (some (.int n t))) : ∃ t, mg x = some (.int n t) := ⟨t, PySem.W.mg_of X G e⟩
theorem conS_mk {h : Heap} {x : Str} {n : Str} {t : Tok} (X : K.In h) (G : h.Ns mainGlobals mg) (e : PySem.W.nsIn K mainGlobals x = some (some (.str n t))) : ∃ t, mg x = some (.str n t) := ⟨t, PySem.W.mg_of X G e⟩
theorem kitc {t : Value} {C : Addr} {b : Bool} (ne : (t == Value.ref C) = false) (h1 : PySem.W.isClsIn K C = true) (h2 : PySem.W.typeIn K (.ref C) = some (.type "type")) (h3 : PySem.W.subIn K t (.ref C) = some b) : PySem.W.kitOne K t (.ref C) = some b := by
  unfold PySem.W.kitOne
  rw [ne, if_neg (by decide)]
  show (if ((PySem.W.clsIn K C).isSome && PySem.W.typeIn K (.ref C) == some (.type "type")) = true then PySem.W.subIn K t (.ref C) else none) = some b
  have e1 : (PySem.W.clsIn K C).isSome = true := h1
  rw [e1, h2, if_pos (by decide +kernel), h3]
theorem kits {C : Addr} : PySem.W.kitOne K (.ref C) (.ref C) = some true := if_pos (beq_self_eq_true _)
/-- a plain method, as the top leaves it -/
structure Mf (K : PySem.W.Frag) (C : Addr) (m q : Str) (st : Stmt) (ps : List Str) (f : Addr) (fd : FuncData) : Prop where
  fn : Fun K m q st f fd
  me : Meth K C m f
  bi : Binds K fd ps []
theorem mf_mk {C : Addr} {m q : Str} {st : Stmt} {ps : List Str} {f : Addr} {od an : Option Addr} {sl : Array (Option Value)} {oc kV dc pm cd ct : Value}
    (hb : ∀ (kV doc pm : Value) (an : Option Addr) (cdv ct : Value) (us : List Value), us.length = ps.length → bindArgs (PySem.W.fnOf m q (defArgs st) (defBody st) (defScope st) .none kV doc pm an cdv ct) ⟨us, []⟩ = pure (ps.zip us))
    (a : PySem.W.findIn K (.ref C) m = some (some (.ref f))) (i : PySem.W.isFn K (.ref f) = true) (l : K.lookup f = some ⟨oc, od, .func (PySem.W.fnOf m q (defArgs st) (defBody st) (defScope st) .none kV dc pm an cd ct), sl⟩) (c : PySem.W.codeIn K cd q = true) (k : PySem.W.keepIn K (.ref f) = true) :
    Mf K C m q st ps f (PySem.W.fnOf m q (defArgs st) (defBody st) (defScope st) .none kV dc pm an cd ct) :=
  have F := fun_mk (st := st) l c k
  ⟨F, ⟨a, i, k⟩, F.binds hb⟩
theorem mf_kw {C : Addr} {m q : Str} {st : Stmt} {ps ks : List Str} {f : Addr} {fd : FuncData} (D : Mf K C m q st ps f fd)
    (h : ∀ (kV doc pm : Value) (an : Option Addr) (cdv ct : Value) (us ws : List Value), us.length = 1 → ws.length = ks.length → bindArgs (PySem.W.fnOf m q (defArgs st) (defBody st) (defScope st) .none kV doc pm an cdv ct) ⟨us, ks.zip ws⟩ = pure (ps.zip (us ++ ws))) : KBn K fd ps 1 ks (· ++ ·) (· ++ ·) := by
  obtain ⟨oc, od, kV, doc, pm, an, cdv, ct, osl, rfl, lk, hcd⟩ := D.fn.ex
  exact ⟨fun s us ws _ l1 l2 => .of_eq (h kV doc pm an cdv ct us ws l1 l2), fun r1 r2 => r1.append r2⟩
/-- Context.__init__: its default is the empty tuple at T -/
structure Cf (K : PySem.W.Frag) (C f T : Addr) (fd : FuncData) : Prop where
  fn : FunD K "__init__" "Context.__init__" (defArgs s_Context_init) (defBody s_Context_init) (defScope s_Context_init) [.ref T] [] f fd
  t0 : ∀ H : Hp, SqT K H T [] ∧ TyX K H (.ref T) (.type "tuple")
theorem cf_mk {C f T D : Addr} {od an odD odT : Option Addr} {sl slD slT : Array (Option Value)} {oc kV dc pm cd ct ocD : Value} {nD nT : Nat}
    (l : K.lookup f = some ⟨oc, od, .func (PySem.W.fnOf "__init__" "Context.__init__" (defArgs s_Context_init) (defBody s_Context_init) (defScope s_Context_init) (.ref D) kV dc pm an cd ct), sl⟩)
    (lD : K.lookup D = some ⟨ocD, odD, .seq #[.ref T] nD, slD⟩) (lT : K.lookup T = some ⟨.type "tuple", odT, .seq #[] nT, slT⟩) (c : PySem.W.codeIn K cd "Context.__init__" = true) (k : PySem.W.keepIn K (.ref f) = true) :
    Cf K C f T (PySem.W.fnOf "__init__" "Context.__init__" (defArgs s_Context_init) (defBody s_Context_init) (defScope s_Context_init) (.ref D) kV dc pm an cd ct) := by
  refine ⟨⟨⟨oc, od, .ref D, kV, dc, pm, an, cd, ct, sl, rfl, l, c, .inr ⟨by simp, D, _, [.ref T], nD, rfl, lD, rfl, .cons rfl .nil⟩, .inl rfl⟩, k⟩, fun H => ⟨.inr ⟨_, #[], nT, lT, rfl, rfl, by decide, .nil⟩, .kTuple lT rfl⟩⟩
theorem cf_binds {C f T : Addr} {fd : FuncData} (D : Cf K C f T fd) : Binds K fd ["self", "rows"] [] ∧ Binds K fd ["self", "rows"] [.ref T] := by
  refine ⟨?_, ?_⟩
  · obtain ⟨ds, r, b⟩ := D.fn.binds1 (ps := ["self", "rows"]) 2 1 (by simp) rfl (fun T kV doc pm an cdv ct us its l1 l2 => match us, its, l1, l2 with | [_, _], [_], _, _ => ⟨_, rfl, rfl⟩)
    cases r
    exact b
  · obtain ⟨ds, r, b⟩ := D.fn.binds1 (ps := ["self", "rows"]) 1 0 (by simp) rfl (fun T kV doc pm an cdv ct us its l1 l2 => match us, its, l1, l2 with | [_], [_], _, _ => ⟨_, rfl, rfl⟩)
    cases r with
    | cons r1 r2 =>
      cases r1
      cases r2
      exact b
theorem joints_mk {h : Heap} {a : Addr} {od : Option Addr} {sl : Array (Option Value)} {n : Nat} {t1 t2 t3 : Tok} (X : K.In h) (G : h.Ns mainGlobals mg) (aJ : PySem.W.nsIn K mainGlobals "JOINTS" = some (some (.ref a)))
    (lJ : K.lookup a = some ⟨.type "tuple", od, .seq #[.str "then" t1, .str "and" t2, .str "or" t3] n, sl⟩) : ∃ a, mg "JOINTS" = some (.ref a) ∧ ∀ H, SqT K H a [.str "then", .str "and", .str "or"] :=
  ⟨a, PySem.W.mg_of X G aJ, fun H => .inr ⟨_, _, n, lJ, rfl, rfl, by show 3 ≤ sizeLine; decide, .cons ⟨_, rfl⟩ (.cons ⟨_, rfl⟩ (.cons ⟨_, rfl⟩ .nil))⟩⟩
theorem ctxm_mk {h : Heap} {CK CC fK fC : Addr} {t : Tok} (X : K.In h) (G : h.Ns mainGlobals mg)
    (a1 : PySem.W.nsIn K mainGlobals "KnownRows" = some (some (.ref CK))) (a2 : PySem.W.nsIn K mainGlobals "Context" = some (some (.ref CC)))
    (p1 : PySem.W.plainGet K CK Str.empty = true) (p2 : PySem.W.hasDictIn K CK = true) (p3 : PySem.W.plainOver K CK = true) (p4 : PySem.W.findIn K (.ref CK) "__setattr__" = some (some (.builtin "object.__setattr__"))) (p5 : PySem.W.findIn K (.ref CK) "held" = some none)
    (p6 : PySem.W.makesIn K CK = true) (p7 : PySem.W.findIn K (.ref CK) "__init__" = some (some (.ref fK))) (p8 : PySem.W.isFn K (.ref fK) = true) (p9 : PySem.W.keepIn K (.ref CK) = true)
    (r1 : PySem.W.plainGet K CC Str.empty = true) (r2 : PySem.W.hasDictIn K CC = true) (r3 : PySem.W.plainOver K CC = true) (r4 : PySem.W.findIn K (.ref CC) "__setattr__" = some (some (.builtin "object.__setattr__"))) (r5 : PySem.W.findIn K (.ref CC) "held" = some none)
    (r6 : PySem.W.makesIn K CC = true) (r7 : PySem.W.findIn K (.ref CC) "__init__" = some (some (.ref fC))) (r8 : PySem.W.isFn K (.ref fC) = true) (r9 : PySem.W.keepIn K (.ref CC) = true)
    (i1 : PySem.W.isClsIn K CK = true) (i2 : PySem.W.typeIn K (.ref CK) = some (.type "type")) (i3 : PySem.W.subIn K (.type "list") (.ref CK) = some false) (i4 : PySem.W.subIn K (.type "tuple") (.ref CK) = some false)
    (ha : PySem.W.findIn K (.ref CK) "__class__" = some (some (.builtin "object.__class__"))) (hn : PySem.W.specialIn K (.builtin "object.__class__") "__get__" = some (some (.builtin "getset_descriptor.__get__"))) (tk : PySem.W.takesIn K (.builtin "object.__class__") = some true) (mr : PySem.W.mroIn K CK (.type "object") = some true)
    (c1 : PySem.W.readsIn K CC (.type "type") = true) (c2 : PySem.W.specialIn K (.ref CC) "__getattribute__" = some (some (.builtin "type.__getattribute__"))) (c3 : PySem.W.findCls K (.ref CC) (.type "type") "MOST" = some (.val (.int 40 t)))
    (z1 : mg "isinstance" = none) (z2 : mg "len" = none) (z3 : mg "tuple" = none) (z4 : mg "enumerate" = none) : CtxM K mg CK CC fK fC (.type "type") :=
  ⟨⟨p1, p2, p3, p4⟩, ⟨r1, r2, r3, r4⟩, p5, r5, PySem.W.mg_of X G a1, PySem.W.mg_of X G a2, ⟨p6, p7, p8, p9⟩, ⟨r6, r7, r8, r9⟩, kitc rfl i1 i2 i3, kitc rfl i1 i2 i4, kits, ha, hn, tk, mr, ⟨c1, c2⟩, ⟨_, c3, ⟨_, rfl⟩⟩, z1, z2, z3, z4⟩
end

section
variable {P : Program} {w : World} {K : PySem.W.Frag} {mg : Str → Option Value} {base : Heap}
structure Sf (K : PySem.W.Frag) (C : Addr) (m q : Str) (st : Stmt) (p f : Addr) (fd : FuncData) : Prop where
  fn : Fun K m q st f fd
  sm : SMet K C (.type "type") m p f
theorem sf_mk {C : Addr} {m q : Str} {st : Stmt} {p f : Addr} {rest : List Value} {od an : Option Addr} {sl : Array (Option Value)} {oc kV dc pm cd ct : Value}
    (rd : PySem.W.readsIn K C (.type "type") = true) (ga : PySem.W.specialIn K (.ref C) "__getattribute__" = some (some (.builtin "type.__getattribute__")))
    (a : PySem.W.findCls K (.ref C) (.type "type") m = some (.get (.builtin "staticmethod.__get__") (.ref p) .none (.ref C))) (rc : PySem.W.recIn K p "staticmethod" = some (.ref f :: rest))
    (l : K.lookup f = some ⟨oc, od, .func (PySem.W.fnOf m q (defArgs st) (defBody st) (defScope st) .none kV dc pm an cd ct), sl⟩) (c : PySem.W.codeIn K cd q = true) (k : PySem.W.keepIn K (.ref f) = true) :
    Sf K C m q st p f (PySem.W.fnOf m q (defArgs st) (defBody st) (defScope st) .none kV dc pm an cd ct) := ⟨fun_mk (st := st) l c k, ⟨rd, ga, a, ⟨rest, rc⟩, k⟩⟩
structure Mg (K : PySem.W.Frag) (C : Addr) (m q : Str) (st : Stmt) (f : Addr) (fd : FuncData) : Prop where
  fn : Fun K m q st f fd
  me : Meth K C m f
theorem mg_mk {C : Addr} {m q : Str} {st : Stmt} {f : Addr} {od an : Option Addr} {sl : Array (Option Value)} {oc kV dc pm cd ct : Value}
    (a : PySem.W.findIn K (.ref C) m = some (some (.ref f))) (i : PySem.W.isFn K (.ref f) = true) (l : K.lookup f = some ⟨oc, od, .func (PySem.W.fnOf m q (defArgs st) (defBody st) (defScope st) .none kV dc pm an cd ct), sl⟩) (c : PySem.W.codeIn K cd q = true) (k : PySem.W.keepIn K (.ref f) = true) :
    Mg K C m q st f (PySem.W.fnOf m q (defArgs st) (defBody st) (defScope st) .none kV dc pm an cd ct) := ⟨fun_mk (st := st) l c k, ⟨a, i, k⟩⟩
end
end Ag

namespace Ag
open PySem PySem.Spec PyProof.Rows L2
section
variable {P : Program} {w : World} {K : PySem.W.Frag} {mg : Str → Option Value} {base : Heap}
theorem law_main {f c T : Addr} {kV dc pm ct : Value} {an : Option Addr} (FL : Fun K "law" "law" s_law f (PySem.W.fnOf "law" "law" (defArgs s_law) (defBody s_law) (defScope s_law) .none kV dc pm an (.ref c) ct)) (TB : LamX.TabB base mg c T) {f_law_bag : Addr} {fd_law_bag : FuncData} (D_law_bag : Df K mg "_law_bag" s_law_bag ["_law_script"] f_law_bag fd_law_bag) {f_law_pull : Addr} {fd_law_pull : FuncData} (D_law_pull : Df K mg "_law_pull" s_law_pull ["_law_bag_here", "_law_many"] f_law_pull fd_law_pull) {f_law_any : Addr} {fd_law_any : FuncData} (D_law_any : Df K mg "_law_any" s_law_any ["_law_bag_here", "_law_things"] f_law_any fd_law_any) {f_law_like : Addr} {fd_law_like : FuncData} (D_law_like : Df K mg "_law_like" s_law_like ["_law_found", "_law_due"] f_law_like fd_law_like) {f_law_fields : Addr} {fd_law_fields : FuncData} (D_law_fields : Df K mg "_law_fields" s_law_fields ["_law_e"] f_law_fields fd_law_fields) {f_law_try : Addr} {fd_law_try : FuncData} (D_law_try : Df K mg "_law_try" s_law_try ["_law_ask"] f_law_try fd_law_try) {f_law_tries : Addr} {fd_law_tries : FuncData} (D_law_tries : Df K mg "_law_tries" s_law_tries ["_law_asks"] f_law_tries fd_law_tries) {f_law_names : Addr} {fd_law_names : FuncData} (D_law_names : Df K mg "_law_names" s_law_names ["_law_bag_here", "_law_many"] f_law_names fd_law_names) {f_law_form : Addr} {fd_law_form : FuncData} (D_law_form : Df K mg "_law_form" s_law_form ["_law_bag_here", "_law_words", "_law_deep"] f_law_form fd_law_form) {f_law_rows : Addr} {fd_law_rows : FuncData} (D_law_rows : Df K mg "_law_rows" s_law_rows ["_law_bag_here", "_law_names_here", "_law_words", "_law_many"] f_law_rows fd_law_rows) {f_is_letter : Addr} {fd_is_letter : FuncData} (D_is_letter : Df K mg "is_letter" s_is_letter ["value"] f_is_letter fd_is_letter) {f_is_name : Addr} {fd_is_name : FuncData} (D_is_name : Df K mg "is_name" s_is_name ["value"] f_is_name fd_is_name) {f_is_leaf : Addr} {fd_is_leaf : FuncData} (D_is_leaf : Df K mg "is_leaf" s_is_leaf ["value", "holes"] f_is_leaf fd_is_leaf) {f_is_built : Addr} {fd_is_built : FuncData} (D_is_built : Df K mg "is_built" s_is_built ["value", "depth", "holes"] f_is_built fd_is_built) {f_is_formula : Addr} {fd_is_formula : FuncData} (D_is_formula : Df K mg "is_formula" s_is_formula ["value"] f_is_formula fd_is_formula) {f_is_row : Addr} {fd_is_row : FuncData} (D_is_row : Df K mg "is_row" s_is_row ["value"] f_is_row fd_is_row) {f_tested_rows : Addr} {fd_tested_rows : FuncData} (D_tested_rows : Df K mg "tested_rows" s_tested_rows ["rows"] f_tested_rows fd_tested_rows) {f_is_number : Addr} {fd_is_number : FuncData} (D_is_number : Df K mg "is_number" s_is_number ["value"] f_is_number fd_is_number) {f_is_place : Addr} {fd_is_place : FuncData} (D_is_place : Df K mg "is_place" s_is_place ["value", "many"] f_is_place fd_is_place) (z_len : mg "len" = none) (z_int : mg "int" = none) (z_list : mg "list" = none) (z_isinstance : mg "isinstance" = none) (z_dict : mg "dict" = none) (z_tuple : mg "tuple" = none) (z_bool : mg "bool" = none) (z_str : mg "str" = none) (z_all : mg "all" = none) (z_zip : mg "zip" = none) (z_sorted : mg "sorted" = none) (z_range : mg "range" = none) (z_enumerate : mg "enumerate" = none) (v_LETTERS : ∃ t, mg "LETTERS" = some (.str "abcdefghijklmnopqrstuvwxyz" t)) (v_LONGEST_NAME : ∃ t, mg "LONGEST_NAME" = some (.int 6 t)) (v_FORMULA_DEPTH : ∃ t, mg "FORMULA_DEPTH" = some (.int 10 t)) (JT : ∃ a, mg "JOINTS" = some (.ref a) ∧ ∀ H, SqT K H a [.str "then", .str "and", .str "or"]) {fCp : Addr} {fdCp : FuncData} (CP : mg "copied" = some (.ref fCp) ∧ CopD K fCp fdCp) {cG cM cN C2 f2 C3 f3 C4 f4 : Addr} {d2 d3 d4 : FuncData} (mG : mg "GroundError" = some (.ref cG)) (mM : mg "Missing" = some (.ref cM)) (mN : mg "NothingLeft" = some (.ref cN))
    (E2 : ErrK K mg "TooMany" C2 f2 cG cM cN) (I2 : Fun K "__init__" "TooMany.__init__" s_TooMany_init f2 d2 ∧ Binds K d2 ["self", "most"] []) (E3 : ErrK K mg "InvalidRow" C3 f3 cG cM cN) (I3 : Fun K "__init__" "InvalidRow.__init__" s_InvalidRow_init f3 d3 ∧ Binds K d3 ["self", "at"] []) (E4 : ErrK K mg "InvalidNumber" C4 f4 cG cM cN) (I4 : Fun K "__init__" "InvalidNumber.__init__" s_InvalidNumber_init f4 d4 ∧ Binds K d4 ["self", "value"] [])
    {CK CC fK fC fR fL fO pO fW fX fA T0 : Addr} {fdK fdC fdR fdL fdO fdW fdX fdA : FuncData} (M : CtxM K mg CK CC fK fC (.type "type")) (DK : Mf K CK "__init__" "KnownRows.__init__" s_KnownRows_init ["self", "rows"] fK fdK) (DC : Cf K CC fC T0 fdC)
    (DR : Mf K CC "rows" "Context.rows" s_Context_rows ["self"] fR fdR) (DL : Mf K CC "__len__" "Context.__len__" s_Context_len ["self"] fL fdL) (DW : Mf K CC "with_row" "Context.with_row" s_Context_with_row ["self", "at", "name", "formula"] fW fdW) (DX : Mg K CC "without" "Context.without" s_Context_without fX fdX) (DA : Mf K CC "__add__" "Context.__add__" s_Context_add ["self", "other"] fA fdA)
    (DO : Sf K CC "of" "Context.of" s_Context_of pO fO fdO)
    (J1 : PySem.W.findIn K (.ref CC) "__class__" = some (some (.builtin "object.__class__"))) (J2 : PySem.W.mroIn K CC (.type "object") = some true) (sf : PySem.W.selfFirst K CC = true) : FnOk P w K mg base CX0 40 f (PySem.W.fnOf "law" "law" (defArgs s_law) (defBody s_law) (defScope s_law) .none kV dc pm an (.ref c) ct) ["_law_script"] (spLawT K T) := by
  have LM : LikeM mg := ⟨z_isinstance, z_dict, z_list, z_tuple, z_bool, z_int, z_str, z_len, z_all, z_zip, z_sorted⟩
  have NM : NamesM mg := ⟨z_range, z_int, z_len⟩
  have NA : NameM mg := ⟨z_isinstance, z_str, z_len, z_all, v_LETTERS, v_LONGEST_NAME⟩
  have cP : C8.Cal P w K mg base 1 "_law_pull" spPull [] := D_law_pull.cal (ok_pull D_law_pull.fn z_len z_int)
  have cA : C8.Cal P w K mg base 2 "_law_any" (spAny K) [] := D_law_any.cal (ok_any D_law_any.fn cP z_len)
  have cF := form_cal D_law_form.fn D_law_form.bi D_law_form.mg cP cA
  have cLe : C8.Cal P w K mg base 1 "is_letter" (spLetter K) [] := D_is_letter.cal (ok_letter D_is_letter.fn NA)
  have cNa : C8.Cal P w K mg base 2 "is_name" (spName K) [] := D_is_name.cal (ok_name D_is_name.fn cLe NA)
  have cLf : C8.Cal P w K mg base 3 "is_leaf" (spLeaf K) [] := D_is_leaf.cal (ok_leaf D_is_leaf.fn cNa cLe)
  have cLfD : C8.Cal P w K mg base 3 "is_leaf" (spLeafD K) [] := D_is_leaf.cal (ok_leafD D_is_leaf.fn cNa cLe)
  have BM : BuiltM K mg := ⟨z_isinstance, z_tuple, z_len, z_all, JT⟩
  have cBu := built_cal D_is_built cLf BM
  have cBuD := builtD_cal D_is_built cLfD BM
  have cFo : C8.Cal P w K mg base 15 "is_formula" (spFormula K) [] := D_is_formula.cal (ok_formula D_is_formula.fn (cBu 11) v_FORMULA_DEPTH)
  have cFoD : C8.Cal P w K mg base 15 "is_formula" (spFormulaD K) [] := D_is_formula.cal (ok_formulaD D_is_formula.fn (cBuD 11) v_FORMULA_DEPTH)
  have cRo : C8.Cal P w K mg base 16 "is_row" (spRow K) [] := D_is_row.cal (ok_row D_is_row.fn cNa cFo z_isinstance z_tuple z_len)
  have cRoD : C8.Cal P w K mg base 16 "is_row" (spRowD K) [] := D_is_row.cal (ok_rowD D_is_row.fn cNa cFoD z_isinstance z_tuple z_len)
  have cNu : C8.Cal P w K mg base 1 "is_number" (spNumberD K) [] := D_is_number.cal (ok_numberD D_is_number.fn z_isinstance z_int z_bool)
  have cPl : C8.Cal P w K mg base 2 "is_place" (spPlaceD K) [] := D_is_place.cal (ok_placeD D_is_place.fn cNu)
  have GK := ok_kn (P := P) (w := w) (base := base) DK.fn M
  have cTe : C8.Cal P w K mg base 17 "tested_rows" (spTested K CK) [] := D_tested_rows.cal (ok_tested D_tested_rows.fn cRo GK DK.bi M)
  have cCp : C8.Cal P w K mg base 13 "copied" (spCp K 13) [.int 12] := copied_both CP.2 CP.1 ⟨z_isinstance, z_list, z_tuple, z_dict⟩
  have cCpL : C8.Cal P w K mg base 13 "copied" (spCpL K 13) [.int 12] := copiedL_both CP.2 CP.1 ⟨z_isinstance, z_list, z_tuple, z_dict⟩
  have GI2 := ok_TooMany (P := P) (w := w) (base := base) I2.1 E2 cCp
  have GI3 := ok_InvalidRow (P := P) (w := w) (base := base) I3.1 E3 cCp
  have GI4 := ok_InvalidNumberL (P := P) (w := w) (base := base) I4.1 E4 cCpL
  have GTe := ok_testedG (P := P) (w := w) (base := base) D_tested_rows.fn cRoD GK DK.bi M E3 GI3 I3.2
  have GC := ok_ctx (P := P) (w := w) (base := base) DC.fn cTe M
  have hb := cf_binds DC
  have GC3 := ok_ctx3 (P := P) (w := w) (base := base) DC.fn GTe D_tested_rows.mg D_tested_rows.fn.kp D_tested_rows.bi M E2 GI2 I2.2
  have GCg := ok_ctxG (P := P) (w := w) (base := base) DC.fn cTe M E2 GI2 I2.2
  have GFl := ok_fields (P := P) (w := w) (mg := mg) (base := base) D_law_fields.fn
  have GY := ok_try (P := P) (w := w) (base := base) (k := 22) D_law_try.fn ⟨mG, mM, mN⟩ GFl D_law_fields.mg D_law_fields.fn.kp D_law_fields.bi (by decide)
  have cTy : C8.Cal P w K mg base 23 "_law_try" (spTry P w K mg base cG cM cN 22) [] := D_law_try.cal GY
  have GT := ok_triesL (P := P) (w := w) (base := base) D_law_tries.fn cTy
  exact ok_law (α := ⟨fR, fL, fO, pO, fW, fX, fA, fdC, fdR, fdL, fdW, fdA⟩) FL rfl TB ⟨D_law_bag.cal (ok_bag D_law_bag.fn z_list), cP, cA, D_law_names.cal (ok_names D_law_names.fn cP cA NM), like_cal D_law_like.fn D_law_like.bi D_law_like.mg LM, D_law_rows.cal (ok_lrows D_law_rows.fn cA (cF 3) NM)⟩ M
    { gC := GC, gC3 := GC3, bC := hb.1, gR := ok_rws DR.fn M z_list, bR := DR.bi, mR := DR.me, gL := ok_clen DL.fn M, bL := DL.bi, hL := DL.me.at_, iL := DL.me.fn, sO := DO.sm, gO := ok_cof3 DO.fn GC3 hb.1 M,
      gW := ok_withR DW.fn cPl cRoD GCg hb.1 GK DK.bi M E4 GI4 I4.2 E3 GI3 I3.2, bW := DW.bi, mW := DW.me, gX := ok_withoutR DX.fn cPl GCg hb.1 GK DK.bi M E4 GI4 I4.2, mX := DX.me, gA := ok_addR DA.fn GCg hb.1 GK DK.bi M ⟨J1, J2⟩, bA := DA.bi, hA := DA.me.at_, iA := DA.me.fn, sf := sf }
    ⟨z_range, z_len, z_list⟩ GT ⟨D_law_tries.mg, D_law_tries.fn.kp⟩ D_law_tries.bi E2 E3 E4
end
end Ag

namespace Ag
open PySem PyProof.Rows L2
theorem walkT {l : PySem.W.OpenLaw} {q : Program} {loose : List Str} {XP : (Str → Option Value) → Heap → Prop} {YP : World → Heap → Prop} {d : DefRec} {K : Params → PySem.W.Frag} (hn : l.most = some 63) (hdf : d.params.defaults = []) (hrec : ((recsOf q).any fun e => e.name == d.name) = true)
    (hY : ∀ (w : World) (h : Heap), YP w h → (K w.params).In h)
    (F : ∀ (w : World) (mg : Str → Option Value) (fa : Addr) (h : Heap), (K w.params).In h → h.Ns mainGlobals mg → mg d.name = some (.ref fa) → LamX.OwnTab (K w.params) fa h → LamX.LawAtS l w (K w.params) CX0 40 63 "_law_script" mg fa h) :
    PySem.W.WalkO q loose XP YP l.row.toRowW d [] (fun f vs => PySem.call f vs) :=
  LamX.walk_ofOwn (n := 63) (k := 40) (x := "_law_script") (CX := fun _ => CX0) hn (by decide) hdf ⟨rfl, by decide, by decide⟩ hrec hY (fun w mg fa h _ KX G hm own => F w mg fa h KX G hm own) fun _ _ _ _ _ z => z
theorem law_allT {l : PySem.W.OpenLaw} {w : World} {K : PySem.W.Frag} {h : Heap} {mg : Str → Option Value} {fa f c T : Addr} (X : K.In h) (G : h.Ns mainGlobals mg) (hfa : mg "law" = some (.ref fa)) (own : LamX.OwnTab K fa h) {od an dd : Option Addr} {sl sl2 : Array (Option Value)} {oc kV dc pm ct e : Value} {vs : Array Value}
    (a : PySem.W.nsIn K mainGlobals "law" = some (some (.ref f))) (lk : K.lookup f = some ⟨oc, od, .func (PySem.W.fnOf "law" "law" (defArgs s_law) (defBody s_law) (defScope s_law) .none kV dc pm an (.ref c) ct), sl⟩) (cI : PySem.W.codeIn K (.ref c) "law" = true) (k : PySem.W.keepIn K (.ref f) = true)
    (lc : K.lookup c = some ⟨e, dd, .fields vs, sl2⟩) (lv : vs[11]? = some (.ref T)) (lT : K.lookup T = none) (ch : PySem.W.codeHdIn K c T = true)
    (H : ∀ base : Heap, K.In base → base.Ns mainGlobals mg → LamX.TabB base mg c T → Fun K "law" "law" s_law f (PySem.W.fnOf "law" "law" (defArgs s_law) (defBody s_law) (defScope s_law) .none kV dc pm an (.ref c) ct) → FnOk l.prog w K mg base CX0 40 f (PySem.W.fnOf "law" "law" (defArgs s_law) (defBody s_law) (defScope s_law) .none kV dc pm an (.ref c) ct) ["_law_script"] (spLawT K T)) :
    LamX.LawAtS l w K CX0 40 63 "_law_script" mg fa h := by
  have ef := hfa.symm.trans (PySem.W.mg_of X G a)
  cases ef
  refine ⟨_, [(c, T)], spLawT K T, fun p hp => ?_, fun p hp => ?_, fun p hp => ?_, fun s v => .of_eq rfl, fun H0 x ns hl _ hT hS => ⟨x, ns, rfl, hS, hl, hT (c, T) List.mem_cons_self, fun _ => rfl⟩, fun base b1 b2 tb => H base b1 b2 (tb (c, T) List.mem_cons_self) (fun_mk (st := s_law) lk cI k)⟩
  · rw [List.mem_singleton.mp hp]
    exact own c T _ _ e dd vs sl2 lk rfl rfl lc lv
  · rw [List.mem_singleton.mp hp]
    exact lT
  · rw [List.mem_singleton.mp hp]
    exact PySem.W.codeHd_of_K X ch
end Ag
open PySem PySem.W PyProof.Rows L2
set_option maxRecDepth 100000 in
set_option maxHeartbeats 0 in
theorem PySem.Challenge.cw_addedgrounds_k11_contexts_refused_holds : PySem.Challenge.rw_addedgrounds_k11_contexts_refused.Holds := by
  w_on; o_law; k_head; (case hw => w_witness2)
  k_fill
  refine Ag.walkT (l := PySem.Challenge.rw_addedgrounds_k11_contexts_refused) rfl rfl (by decide +kernel) (fun w h Y => PySem.W.km_in_of Y) ?F
  case F =>
    intro w mg fa h KX G hmg own
    have D_law_bag := by
      refine' Ag.df_mk (x := "_law_bag") (st := Ag.s_law_bag) (ps := ["_law_script"]) KX G (fun _ _ _ _ _ _ us hl => match us, hl with | [_], _ => rfl) ?a ?l ?c ?k
      (case a => k_is); (case l => k_is); (case c => k_is); (case k => k_is)
    have D_law_pull := by
      refine' Ag.df_mk (x := "_law_pull") (st := Ag.s_law_pull) (ps := ["_law_bag_here", "_law_many"]) KX G (fun _ _ _ _ _ _ us hl => match us, hl with | [_, _], _ => rfl) ?a ?l ?c ?k
      (case a => k_is); (case l => k_is); (case c => k_is); (case k => k_is)
    have D_law_any := by
      refine' Ag.df_mk (x := "_law_any") (st := Ag.s_law_any) (ps := ["_law_bag_here", "_law_things"]) KX G (fun _ _ _ _ _ _ us hl => match us, hl with | [_, _], _ => rfl) ?a ?l ?c ?k
      (case a => k_is); (case l => k_is); (case c => k_is); (case k => k_is)
    have D_law_like := by
      refine' Ag.df_mk (x := "_law_like") (st := Ag.s_law_like) (ps := ["_law_found", "_law_due"]) KX G (fun _ _ _ _ _ _ us hl => match us, hl with | [_, _], _ => rfl) ?a ?l ?c ?k
      (case a => k_is); (case l => k_is); (case c => k_is); (case k => k_is)
    have D_law_fields := by
      refine' Ag.df_mk (x := "_law_fields") (st := Ag.s_law_fields) (ps := ["_law_e"]) KX G (fun _ _ _ _ _ _ us hl => match us, hl with | [_], _ => rfl) ?a ?l ?c ?k
      (case a => k_is); (case l => k_is); (case c => k_is); (case k => k_is)
    have D_law_try := by
      refine' Ag.df_mk (x := "_law_try") (st := Ag.s_law_try) (ps := ["_law_ask"]) KX G (fun _ _ _ _ _ _ us hl => match us, hl with | [_], _ => rfl) ?a ?l ?c ?k
      (case a => k_is); (case l => k_is); (case c => k_is); (case k => k_is)
    have D_law_tries := by
      refine' Ag.df_mk (x := "_law_tries") (st := Ag.s_law_tries) (ps := ["_law_asks"]) KX G (fun _ _ _ _ _ _ us hl => match us, hl with | [_], _ => rfl) ?a ?l ?c ?k
      (case a => k_is); (case l => k_is); (case c => k_is); (case k => k_is)
    have D_law_names := by
      refine' Ag.df_mk (x := "_law_names") (st := Ag.s_law_names) (ps := ["_law_bag_here", "_law_many"]) KX G (fun _ _ _ _ _ _ us hl => match us, hl with | [_, _], _ => rfl) ?a ?l ?c ?k
      (case a => k_is); (case l => k_is); (case c => k_is); (case k => k_is)
    have D_law_form := by
      refine' Ag.df_mk (x := "_law_form") (st := Ag.s_law_form) (ps := ["_law_bag_here", "_law_words", "_law_deep"]) KX G (fun _ _ _ _ _ _ us hl => match us, hl with | [_, _, _], _ => rfl) ?a ?l ?c ?k
      (case a => k_is); (case l => k_is); (case c => k_is); (case k => k_is)
    have D_law_rows := by
      refine' Ag.df_mk (x := "_law_rows") (st := Ag.s_law_rows) (ps := ["_law_bag_here", "_law_names_here", "_law_words", "_law_many"]) KX G (fun _ _ _ _ _ _ us hl => match us, hl with | [_, _, _, _], _ => rfl) ?a ?l ?c ?k
      (case a => k_is); (case l => k_is); (case c => k_is); (case k => k_is)
    have D_is_letter := by
      refine' Ag.df_mk (x := "is_letter") (st := Ag.s_is_letter) (ps := ["value"]) KX G (fun _ _ _ _ _ _ us hl => match us, hl with | [_], _ => rfl) ?a ?l ?c ?k
      (case a => k_is); (case l => k_is); (case c => k_is); (case k => k_is)
    have D_is_name := by
      refine' Ag.df_mk (x := "is_name") (st := Ag.s_is_name) (ps := ["value"]) KX G (fun _ _ _ _ _ _ us hl => match us, hl with | [_], _ => rfl) ?a ?l ?c ?k
      (case a => k_is); (case l => k_is); (case c => k_is); (case k => k_is)
    have D_is_leaf := by
      refine' Ag.df_mk (x := "is_leaf") (st := Ag.s_is_leaf) (ps := ["value", "holes"]) KX G (fun _ _ _ _ _ _ us hl => match us, hl with | [_, _], _ => rfl) ?a ?l ?c ?k
      (case a => k_is); (case l => k_is); (case c => k_is); (case k => k_is)
    have D_is_built := by
      refine' Ag.df_mk (x := "is_built") (st := Ag.s_is_built) (ps := ["value", "depth", "holes"]) KX G (fun _ _ _ _ _ _ us hl => match us, hl with | [_, _, _], _ => rfl) ?a ?l ?c ?k
      (case a => k_is); (case l => k_is); (case c => k_is); (case k => k_is)
    have D_is_formula := by
      refine' Ag.df_mk (x := "is_formula") (st := Ag.s_is_formula) (ps := ["value"]) KX G (fun _ _ _ _ _ _ us hl => match us, hl with | [_], _ => rfl) ?a ?l ?c ?k
      (case a => k_is); (case l => k_is); (case c => k_is); (case k => k_is)
    have D_is_row := by
      refine' Ag.df_mk (x := "is_row") (st := Ag.s_is_row) (ps := ["value"]) KX G (fun _ _ _ _ _ _ us hl => match us, hl with | [_], _ => rfl) ?a ?l ?c ?k
      (case a => k_is); (case l => k_is); (case c => k_is); (case k => k_is)
    have D_tested_rows := by
      refine' Ag.df_mk (x := "tested_rows") (st := Ag.s_tested_rows) (ps := ["rows"]) KX G (fun _ _ _ _ _ _ us hl => match us, hl with | [_], _ => rfl) ?a ?l ?c ?k
      (case a => k_is); (case l => k_is); (case c => k_is); (case k => k_is)
    have D_is_number := by
      refine' Ag.df_mk (x := "is_number") (st := Ag.s_is_number) (ps := ["value"]) KX G (fun _ _ _ _ _ _ us hl => match us, hl with | [_], _ => rfl) ?a ?l ?c ?k
      (case a => k_is); (case l => k_is); (case c => k_is); (case k => k_is)
    have D_is_place := by
      refine' Ag.df_mk (x := "is_place") (st := Ag.s_is_place) (ps := ["value", "many"]) KX G (fun _ _ _ _ _ _ us hl => match us, hl with | [_, _], _ => rfl) ?a ?l ?c ?k
      (case a => k_is); (case l => k_is); (case c => k_is); (case k => k_is)
    have z_len : mg "len" = none := by
      refine' PySem.W.mg_none_of KX G ?z
      (case z => k_is)
    have z_int : mg "int" = none := by
      refine' PySem.W.mg_none_of KX G ?z
      (case z => k_is)
    have z_list : mg "list" = none := by
      refine' PySem.W.mg_none_of KX G ?z
      (case z => k_is)
    have z_isinstance : mg "isinstance" = none := by
      refine' PySem.W.mg_none_of KX G ?z
      (case z => k_is)
    have z_dict : mg "dict" = none := by
      refine' PySem.W.mg_none_of KX G ?z
      (case z => k_is)
    have z_tuple : mg "tuple" = none := by
      refine' PySem.W.mg_none_of KX G ?z
      (case z => k_is)
    have z_bool : mg "bool" = none := by
      refine' PySem.W.mg_none_of KX G ?z
      (case z => k_is)
    have z_str : mg "str" = none := by
      refine' PySem.W.mg_none_of KX G ?z
      (case z => k_is)
    have z_all : mg "all" = none := by
      refine' PySem.W.mg_none_of KX G ?z
      (case z => k_is)
    have z_zip : mg "zip" = none := by
      refine' PySem.W.mg_none_of KX G ?z
      (case z => k_is)
    have z_sorted : mg "sorted" = none := by
      refine' PySem.W.mg_none_of KX G ?z
      (case z => k_is)
    have z_range : mg "range" = none := by
      refine' PySem.W.mg_none_of KX G ?z
      (case z => k_is)
    have z_enumerate : mg "enumerate" = none := by
      refine' PySem.W.mg_none_of KX G ?z
      (case z => k_is)
    have v_LETTERS : ∃ t, mg "LETTERS" = some (.str "abcdefghijklmnopqrstuvwxyz" t) := by
      refine' Ag.conS_mk KX G ?z
      (case z => k_is)
    have v_LONGEST_NAME : ∃ t, mg "LONGEST_NAME" = some (.int 6 t) := by
      refine' Ag.conI_mk KX G ?z
      (case z => k_is)
    have v_FORMULA_DEPTH : ∃ t, mg "FORMULA_DEPTH" = some (.int 10 t) := by
      refine' Ag.conI_mk KX G ?z
      (case z => k_is)
    have JT := by
      refine' Ag.joints_mk KX G ?a ?l
      (case a => k_is); (case l => k_is)
    have CP := by
      refine' Ag.copd_mk KX G ?a ?l ?lD ?c ?k
      (case a => k_is); (case l => k_is); (case lD => k_is); (case c => k_is); (case k => k_is)
    have M0 := by
      refine' Ag.ctxm_mk KX G ?a1 ?a2 ?p1 ?p2 ?p3 ?p4 ?p5 ?p6 ?p7 ?p8 ?p9 ?r1 ?r2 ?r3 ?r4 ?r5 ?r6 ?r7 ?r8 ?r9 ?i1 ?i2 ?i3 ?i4 ?ha ?hn ?tk ?mr ?c1 ?c2 ?c3 z_isinstance z_len z_tuple z_enumerate
      (case a1 => k_is); (case a2 => k_is); (case p1 => k_is); (case p2 => k_is); (case p3 => k_is); (case p4 => k_is); (case p5 => k_is); (case p6 => k_is); (case p7 => k_is); (case p8 => k_is); (case p9 => k_is); (case r1 => k_is); (case r2 => k_is); (case r3 => k_is); (case r4 => k_is); (case r5 => k_is); (case r6 => k_is); (case r7 => k_is); (case r8 => k_is); (case r9 => k_is); (case i1 => k_is); (case i2 => k_is); (case i3 => k_is); (case i4 => k_is); (case ha => k_is); (case hn => k_is); (case tk => k_is); (case mr => k_is); (case c1 => k_is); (case c2 => k_is); (case c3 => k_is)
    have YG := by
      refine' Ag.tryc_mk (x := "GroundError") KX G ?a ?e ?c ?t
      (case a => k_is); (case e => k_is); (case c => k_is); (case t => k_is)
    have YM := by
      refine' Ag.tryc_mk (x := "Missing") KX G ?a ?e ?c ?t
      (case a => k_is); (case e => k_is); (case c => k_is); (case t => k_is)
    have YN := by
      refine' Ag.tryc_mk (x := "NothingLeft") KX G ?a ?e ?c ?t
      (case a => k_is); (case e => k_is); (case c => k_is); (case t => k_is)
    have E_TooMany := by
      refine' Ag.errk_mk (x := "TooMany") KX G YG.2 YM.2 YN.2 ?a ?l ?sa ?ga ?gg ?n1 ?n2 ?n3 ?n4 ?n5 ?n6 ?n7 ?n8 ?n9 ?ic ?ti ?kc ?ec ?tc ?hasd ?s1 ?s2 ?s3 ?hb
      (case a => k_is); (case l => k_is); (case sa => k_is); (case ga => k_is); (case gg => k_is); (case n1 => k_is); (case n2 => k_is); (case n3 => k_is); (case n4 => k_is); (case n5 => k_is); (case n6 => k_is); (case n7 => k_is); (case n8 => k_is); (case n9 => k_is); (case ic => k_is); (case ti => k_is); (case kc => k_is); (case ec => k_is); (case tc => k_is); (case hasd => k_is); (case s1 => k_is); (case s2 => k_is); (case s3 => k_is); (case hb => rfl)
    have I_TooMany := by
      refine' Ag.einit_mk (q := "TooMany.__init__") (st := Ag.s_TooMany_init) (n := "most") E_TooMany ?l ?c ?k (fun _ _ _ _ _ _ us hl => match us, hl with | [_, _], _ => rfl)
      (case l => k_is); (case c => k_is); (case k => k_is)
    have E_InvalidRow := by
      refine' Ag.errk_mk (x := "InvalidRow") KX G YG.2 YM.2 YN.2 ?a ?l ?sa ?ga ?gg ?n1 ?n2 ?n3 ?n4 ?n5 ?n6 ?n7 ?n8 ?n9 ?ic ?ti ?kc ?ec ?tc ?hasd ?s1 ?s2 ?s3 ?hb
      (case a => k_is); (case l => k_is); (case sa => k_is); (case ga => k_is); (case gg => k_is); (case n1 => k_is); (case n2 => k_is); (case n3 => k_is); (case n4 => k_is); (case n5 => k_is); (case n6 => k_is); (case n7 => k_is); (case n8 => k_is); (case n9 => k_is); (case ic => k_is); (case ti => k_is); (case kc => k_is); (case ec => k_is); (case tc => k_is); (case hasd => k_is); (case s1 => k_is); (case s2 => k_is); (case s3 => k_is); (case hb => rfl)
    have I_InvalidRow := by
      refine' Ag.einit_mk (q := "InvalidRow.__init__") (st := Ag.s_InvalidRow_init) (n := "at") E_InvalidRow ?l ?c ?k (fun _ _ _ _ _ _ us hl => match us, hl with | [_, _], _ => rfl)
      (case l => k_is); (case c => k_is); (case k => k_is)
    have E_InvalidNumber := by
      refine' Ag.errk_mk (x := "InvalidNumber") KX G YG.2 YM.2 YN.2 ?a ?l ?sa ?ga ?gg ?n1 ?n2 ?n3 ?n4 ?n5 ?n6 ?n7 ?n8 ?n9 ?ic ?ti ?kc ?ec ?tc ?hasd ?s1 ?s2 ?s3 ?hb
      (case a => k_is); (case l => k_is); (case sa => k_is); (case ga => k_is); (case gg => k_is); (case n1 => k_is); (case n2 => k_is); (case n3 => k_is); (case n4 => k_is); (case n5 => k_is); (case n6 => k_is); (case n7 => k_is); (case n8 => k_is); (case n9 => k_is); (case ic => k_is); (case ti => k_is); (case kc => k_is); (case ec => k_is); (case tc => k_is); (case hasd => k_is); (case s1 => k_is); (case s2 => k_is); (case s3 => k_is); (case hb => rfl)
    have I_InvalidNumber := by
      refine' Ag.einit_mk (q := "InvalidNumber.__init__") (st := Ag.s_InvalidNumber_init) (n := "value") E_InvalidNumber ?l ?c ?k (fun _ _ _ _ _ _ us hl => match us, hl with | [_, _], _ => rfl)
      (case l => k_is); (case c => k_is); (case k => k_is)
    refine' Ag.law_allT KX G hmg own ?a ?l ?c ?k ?lc ?lv ?lT ?ch ?H
    (case a => k_is); (case l => k_is); (case c => k_is); (case k => k_is); (case lc => k_is); (case lv => rfl); (case lT => first | kernel_rfl | rfl); (case ch => first | kernel_rfl | rfl)
    case H =>
      intro base _ _ TB FL
      refine' Ag.law_main FL TB D_law_bag D_law_pull D_law_any D_law_like D_law_fields D_law_try D_law_tries D_law_names D_law_form D_law_rows D_is_letter D_is_name D_is_leaf D_is_built D_is_formula D_is_row D_tested_rows D_is_number D_is_place z_len z_int z_list z_isinstance z_dict z_tuple z_bool z_str z_all z_zip z_sorted z_range z_enumerate v_LETTERS v_LONGEST_NAME v_FORMULA_DEPTH JT CP YG.1 YM.1 YN.1 E_TooMany I_TooMany E_InvalidRow I_InvalidRow E_InvalidNumber I_InvalidNumber M0 (Ag.mf_mk (fun _ _ _ _ _ _ us hl => match us, hl with | [_, _], _ => rfl) ?ya ?yi ?yl ?yc ?yk) (Ag.cf_mk ?cfl ?cD ?cT ?cfc ?cfk) (Ag.mf_mk (fun _ _ _ _ _ _ us hl => match us, hl with | [_], _ => rfl) ?ra ?ri ?rl ?rc ?rk) (Ag.mf_mk (fun _ _ _ _ _ _ us hl => match us, hl with | [_], _ => rfl) ?ea ?ei ?el ?ec ?ek) (Ag.mf_mk (fun _ _ _ _ _ _ us hl => match us, hl with | [_, _, _, _], _ => rfl) ?wa ?wi ?wl ?wc ?wk) (Ag.mg_mk ?xa ?xi ?xl ?xc ?xk) (Ag.mf_mk (fun _ _ _ _ _ _ us hl => match us, hl with | [_, _], _ => rfl) ?pa ?pi ?pl ?pc ?pk) (Ag.sf_mk ?dd ?dg ?da ?dr ?dl ?dc ?dk) ?I1 ?I2 ?sf
      (case ya => k_is); (case yi => k_is); (case yl => k_is); (case yc => k_is); (case yk => k_is); (case cfl => k_is); (case cD => k_is); (case cT => k_is); (case cfc => k_is); (case cfk => k_is); (case ra => k_is); (case ri => k_is); (case rl => k_is); (case rc => k_is); (case rk => k_is); (case ea => k_is); (case ei => k_is); (case el => k_is); (case ec => k_is); (case ek => k_is); (case wa => k_is); (case wi => k_is); (case wl => k_is); (case wc => k_is); (case wk => k_is); (case xa => k_is); (case xi => k_is); (case xl => k_is); (case xc => k_is); (case xk => k_is); (case pa => k_is); (case pi => k_is); (case pl => k_is); (case pc => k_is); (case pk => k_is); (case dd => k_is); (case dg => k_is); (case da => k_is); (case dr => k_is); (case dl => k_is); (case dc => k_is); (case dk => k_is); (case I1 => k_is); (case I2 => k_is); (case sf => k_is)
