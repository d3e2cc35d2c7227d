import PyProof.Rows.All
import Wide.All
import OpenK.AllK
import Wide.FinOn
import HandS.ForMost
import HandS.IsInst
import HandS.Wide
import HandS.Walk
import HandS.Zip
import HandS.Codes
import HandS.More
import HandS.SetKeys
import HandS.Lambda
import HandS.ExcInit
import HandS.ExcField
import HandS.HotCalls
import KE.KDflt
import KE.KTryMore
import HandS.Deep
import PyProof.StrBlock2
import KE.KExcInit
import KE.KExcIs
import HandS.Defaults
import HandS.EndOwn
import HandS.EndBits
import PySem.Challenge.RW_addedgrounds_k01_errors_by_themselves
set_option Elab.async false
set_option maxRecDepth 100000
set_option maxHeartbeats 4000000
set_option linter.unusedVariables false
namespace Ag
open PySem PySem.Spec PyProof.Rows L2

/-! ### heaps: all but the bag is kept -/
def Kp (b : Addr) (H H' : Hp) : Prop := ∀ c o, H c = some o → c ≠ b → H' c = some o
theorem Kp.refl (b : Addr) (H : Hp) : Kp b H H := fun _ _ e _ => e
theorem Kp.trans {b : Addr} {H H1 H2 : Hp} (p : Kp b H H1) (q : Kp b H1 H2) : Kp b H H2 := fun c o e n => q c o (p c o e n) n
theorem Kp.of {b : Addr} {H H' : Hp} (s : Same H H') : Kp b H H' := fun c o e _ => s c o e
theorem Kp.seqL {K : PySem.W.Frag} {b a : Addr} {H H' : Hp} {xs : List V} (p : Kp b H H') (n : a ≠ b) (h : SqL K H a xs) : SqL K H' a xs := by
  rcases h with (h | ⟨o, h⟩) | h
  · exact .inl (.inl (p _ _ h n))
  · exact .inl (.inr ⟨o, p _ _ h n⟩)
  · exact .inr h
theorem Kp.seqT {K : PySem.W.Frag} {b a : Addr} {H H' : Hp} {xs : List V} (p : Kp b H H') (n : a ≠ b) (h : SqT K H a xs) : SqT K H' a xs := by
  rcases h with (h | ⟨o, h⟩) | h
  · exact .inl (.inl (p _ _ h n))
  · exact .inl (.inr ⟨o, p _ _ h n⟩)
  · exact .inr h
theorem sameT {K : PySem.W.Frag} {H H' : Hp} {a : Addr} {xs : List V} (e : Same H H') (h : SqT K H a xs) : SqT K H' a xs := by
  rcases h with (h | ⟨o, h⟩) | h
  · exact .inl (.inl (e _ _ h))
  · exact .inl (.inr ⟨o, e _ _ h⟩)
  · exact .inr h
theorem same_new {H : Hp} {p : Addr} (h : H p = none) (o : HO) : Same H (upd H p o) := fun b u q => by rw [upd_ne (ne_of_none q h)]; exact q

/-! ### the bag that a law draws from -/
def Bag (H : Hp) (b l : Addr) : Prop := ∃ (ns : List Int) (at' : Nat) (big seed cnt : Int), H b = some (.lst [.ref l, .int at', .int big, .int seed, .int cnt]) ∧
  H l = some (.lst (ns.map V.int)) ∧ l ≠ b ∧ ns.length ≤ 63 ∧ 0 ≤ big ∧ 0 ≤ seed ∧ seed < 2147483629
theorem Bag.kp {H H' : Hp} {b l : Addr} (g : Bag H b l) (s : Same H H') : Bag H' b l := by
  obtain ⟨ns, at', big, seed, cnt, h1, h2, r⟩ := g
  exact ⟨ns, at', big, seed, cnt, s _ _ h1, s _ _ h2, r⟩
theorem Bag.new {H : Hp} {b l a : Addr} (g : Bag H b l) (h : H a = none) : a ≠ b ∧ a ≠ l := by
  obtain ⟨ns, at', big, seed, cnt, h1, h2, _⟩ := g
  exact ⟨(ne_of_none h1 h).symm, (ne_of_none h2 h).symm⟩
theorem Bag.upd {H : Hp} {b l a : Addr} {o : HO} (g : Bag H b l) (h1 : a ≠ b) (h2 : a ≠ l) : Bag (upd H a o) b l := by
  obtain ⟨ns, at', big, seed, cnt, g1, g2, r⟩ := g
  exact ⟨ns, at', big, seed, cnt, by rw [upd_ne h1.symm]; exact g1, by rw [upd_ne h2.symm]; exact g2, r⟩
theorem Kp.upd {b a : Addr} {H H' : Hp} {o : HO} (k : Kp b H H') (h : H a = none) : Kp b H (upd H' a o) := fun c u e n => by
  rw [upd_ne (ne_of_none e h)]
  exact k c u e n
theorem Kp.free {b a : Addr} {H H' : Hp} (k : Kp b H H') (n : a ≠ b) (h : H' a = none) : H a = none := by
  cases q : H a with
  | none => rfl
  | some o =>
    rw [k a o q n] at h
    cases h

/-- what may be drawn from: a text's signs, the items of a list or a tuple -/
def Itm (K : PySem.W.Frag) (H : Hp) (b : Addr) (x : V) (vs : List V) : Prop := (∃ z : Str, x = .str z ∧ z.length ≤ sizeLine ∧ vs = z.cps.toList.map fun c => V.str ⟨#[c]⟩) ∨ ∃ a, x = .ref a ∧ a ≠ b ∧ (SqL K H a vs ∨ SqT K H a vs)
/-! ### operators of several kinds at once -/
theorem opOr {X : Cx} {f : Value → Value → Sem Value} {r1 r2 : R2} (h1 : OpR X f r1) (h2 : OpR X f r2) : OpR X f (fun x y H Q => r1 x y H Q ∨ r2 x y H Q) := by
  intro pins s σ H x y v u Q I rx ry h
  rcases h with h | h
  · exact h1 pins s σ H x y v u Q I rx ry h
  · exact h2 pins s σ H x y v u Q I rx ry h

/-! ### data of any depth without dicts -/
theorem Dp_same_all {K : PySem.W.Frag} {H H' : Hp} (s : Same H H') : (∀ (d : PyData) (v : V), Dp K H v d → Dp K H' v d) ∧ True := by
  refine ⟨?_, trivial⟩
  intro d v h
  exact Dp.rec (motive_1 := fun v d _ => Dp K H' v d) (motive_2 := fun vs ds _ => DpAll K H' vs ds) .non .bl .int .str
    (fun q _ ih => .lst (s.seq q) ih) (fun q _ ih => .tup (sameT s q) ih) .nil (fun _ _ a b => .cons a b) h
theorem Dp_same {K : PySem.W.Frag} {H H' : Hp} (s : Same H H') {d : PyData} {v : V} (h : Dp K H v d) : Dp K H' v d := (Dp_same_all s).1 d v h
theorem DpAll_same {K : PySem.W.Frag} {H H' : Hp} (s : Same H H') : ∀ {vs : List V} {ds : List PyData}, DpAll K H vs ds → DpAll K H' vs ds
  | _, _, .nil => .nil
  | _, _, .cons a b => .cons (Dp_same s a) (DpAll_same s b)
theorem dpall_len {K : PySem.W.Frag} {H : Hp} : ∀ {vs : List V} {ds : List PyData}, DpAll K H vs ds → vs.length = ds.length
  | _, _, .nil => rfl
  | _, _, .cons _ b => congrArg (· + 1) (dpall_len b)
theorem dpall_get {K : PySem.W.Frag} {H : Hp} : ∀ {vs : List V} {ds : List PyData} {i : Nat} {v : V}, DpAll K H vs ds → vs[i]? = some v → ∃ d, ds[i]? = some d ∧ Dp K H v d
  | _, _, _, _, .nil, e => by simp at e
  | _, _, 0, _, .cons a _, e => by
    simp at e
    subst e
    exact ⟨_, rfl, a⟩
  | _, _, i + 1, _, .cons _ b, e => by
    obtain ⟨d, h1, h2⟩ := dpall_get (i := i) b (by simpa using e)
    exact ⟨d, by simpa using h1, h2⟩
/-- no dict in it, less than n deep, at most 1000 items in a list -/
def okd : Nat → PyData → Bool
  | 0, _ => false
  | n + 1, .list ds => decide (ds.length ≤ 1000) && ds.all (okd n)
  | n + 1, .tuple ds => decide (ds.length ≤ 1000) && ds.all (okd n)
  | _ + 1, .dict _ => false
  | _ + 1, _ => true
def tyD : PyData → String
  | .none => "NoneType"
  | .bool _ => "bool"
  | .int _ => "int"
  | .str _ => "str"
  | .list _ => "list"
  | .tuple _ => "tuple"
  | .dict _ => "dict"
theorem dp_tyx {K : PySem.W.Frag} {H : Hp} {v : V} {d : PyData} (h : Dp K H v d) : TyX K H v (.type (tyD d)) := by
  cases h with
  | non => exact .base .non
  | bl b => exact .base (.bl b)
  | int i => exact .base (.int i)
  | str x => exact .base (.str x)
  | lst q _ =>
    rcases q with (q | ⟨o, q⟩) | ⟨o, its, n, e, c, _⟩
    · exact .base (.lst q)
    · exact .base (.frz q)
    · exact .kList e c
  | tup q _ =>
    rcases q with (q | ⟨o, q⟩) | ⟨o, its, n, e, c, _⟩
    · exact .base (.tup q)
    · exact .fTuple q
    · exact .kTuple e c
/-- isinstance of such data by a built-in class's name -/
def isD (T : String) (d : PyData) : Bool := (kitB (tyD d) T).getD false
theorem isi_of {K : PySem.W.Frag} {H : Hp} {v : V} {d : PyData} {T : String} {Q : VK} (h : Dp K H v d) (hk : (kitB (tyD d) T).isSome = true) (q : Q (.bl (isD T d)) H) : rIsi K [v, .ty T] H Q := by
  refine ⟨v, .ty T, _, .type T, isD T d, rfl, .ty T, dp_tyx h, ?_, q⟩
  refine kit_ty ?_
  unfold isD
  cases e : kitB (tyD d) T with
  | none => rw [e] at hk; cases hk
  | some b => rfl
theorem kit_some {d : PyData} : (kitB (tyD d) "dict").isSome = true ∧ (kitB (tyD d) "list").isSome = true ∧ (kitB (tyD d) "tuple").isSome = true ∧ (kitB (tyD d) "bool").isSome = true ∧ (kitB (tyD d) "int").isSome = true ∧ (kitB (tyD d) "str").isSome = true := by
  cases d <;> (simp only [tyD]; decide +kernel)
theorem isD_dict {n : Nat} {d : PyData} (h : okd n d = true) : isD "dict" d = false := by
  cases d with
  | dict kvs => cases n <;> simp [okd] at h
  | _ => simp only [isD, tyD]; decide +kernel
theorem iteE {c : Bool} {A B : Prop} (e : c = false) (h : B) : if c = true then A else B := by
  subst e
  exact iteF h
theorem iteU {c : Bool} {A B : Prop} (e : c = true) (h : A) : if c = true then A else B := by
  subst e
  exact iteT h
theorem isiT_of {K : PySem.W.Frag} {H : Hp} {v : V} {d : PyData} {p : Addr} {Q : VK} (h : Dp K H v d) (hp : H p = some (.tup [.ty "list", .ty "tuple"])) (q : Q (.bl (isD "list" d || isD "tuple" d)) H) : rIsiT K [v, .ref p] H Q := by
  refine ⟨v, p, [.ty "list", .ty "tuple"], _, [.type "list", .type "tuple"], _, rfl, hp, .cons (.ty _) (.cons (.ty _) .nil), dp_tyx h, ?_, q⟩
  have h1 : PySem.W.kitOne K (.type (tyD d)) (.type "list") = some (isD "list" d) := kit_ty (by cases d <;> (simp only [isD, tyD]; decide +kernel))
  have h2 : PySem.W.kitOne K (.type (tyD d)) (.type "tuple") = some (isD "tuple" d) := kit_ty (by cases d <;> (simp only [isD, tyD]; decide +kernel))
  refine kitAny_cons h1 (fun e => ?_) (fun e => by rw [e]; rfl)
  rw [e]
  refine kitAny_cons h2 (fun e2 => ?_) (fun e2 => by rw [e2]; rfl)
  rw [e2]
  rfl
theorem walk_zipT {K : PySem.W.Frag} {a b : Addr} {xs ys : List V} {n : Nat} (hn : n = min xs.length ys.length) : Walk (RZ.ItzT K a b) n (fun H => SqT K H a xs ∧ SqT K H b ys) (YPair (fun i => xs[i]?) (fun i => ys[i]?)) := by
  subst hn
  refine ⟨fun i _ hi q => ?_, fun _ q => ⟨xs, ys, q.1, q.2, by omega⟩, fun i H v H' _ q y => ?_⟩
  · have h1 : i < xs.length := by omega
    have h2 : i < ys.length := by omega
    exact ⟨xs, ys, xs[i], ys[i], q.1, q.2, by simp [h1], by simp [h2]⟩
  · obtain ⟨T, x, z, h1, h2, h3, h4, h5⟩ := y
    exact ⟨T, x, z, h1, h2, h3, h4 xs q.1, h5 ys q.2⟩
theorem at_any {α : Type} {xs : List α} {z : Int} {j : Nat} {v : α} (e : z = (j : Int)) (h : xs[j]? = some v) : atI xs z = some v := by
  rw [e]
  exact atI_nat h
theorem isk {K : PySem.W.Frag} {d : PyData} {T : String} (hk : (kitB (tyD d) T).isSome = true) : PySem.W.kitOne K (.type (tyD d)) (.type T) = some (isD T d) := by
  refine kit_ty ?_
  unfold isD
  cases e : kitB (tyD d) T with
  | none => rw [e] at hk; cases hk
  | some b => rfl
theorem iskT {K : PySem.W.Frag} {d : PyData} : PySem.W.kitAny K (.type (tyD d)) [.type "list", .type "tuple"] = some (isD "list" d || isD "tuple" d) := by
  refine kitAny_cons (isk kit_some.2.1) (fun e => ?_) (fun e => by rw [e]; rfl)
  rw [e]
  refine kitAny_cons (isk kit_some.2.2.1) (fun e2 => ?_) (fun e2 => by rw [e2]; rfl)
  rw [e2]
  rfl
theorem isD_leaf {d : PyData} (h2 : ∀ ds, d ≠ .list ds) (h3 : ∀ ds, d ≠ .tuple ds) : (isD "list" d || isD "tuple" d) = false := by
  cases d with
  | list ds => exact absurd rfl (h2 ds)
  | tuple ds => exact absurd rfl (h3 ds)
  | _ => simp only [isD, tyD]; decide +kernel
theorem isD_seq {d : PyData} (h : (∃ ds, d = .list ds) ∨ ∃ ds, d = .tuple ds) : (isD "list" d || isD "tuple" d) = true := by
  rcases h with ⟨ds, rfl⟩ | ⟨ds, rfl⟩ <;> (simp only [isD, tyD]; decide +kernel)
theorem ct2 : Paired ClsV [.ty "list", .ty "tuple"] [.type "list", .type "tuple"] := .cons (.ty _) (.cons (.ty _) .nil)
theorem rep_bl (n : Nat) : List.replicate n (V.bl true) = (List.replicate n true).map V.bl := by rw [List.map_replicate]
theorem rep_all (n : Nat) : (List.replicate n true).all id = true := by
  induction n with
  | zero => rfl
  | succ n ih => rw [List.replicate_succ, List.all_cons, ih]; rfl
theorem small {n : Nat} (h : n ≤ 1000) : n ≤ sizeLine := Nat.le_of_lt (small1000 h)

/-! ### words of small letters -/
def abc : List Nat := (List.range 26).map (· + 97)
theorem abc_str : ("abcdefghijklmnopqrstuvwxyz" : Str) = SX.S abc := by decide +kernel
theorem abc_len : abc.length = 26 := by decide
theorem abc_at {i : Nat} (h : i < 26) : abc[i]? = some (i + 97) := by
  unfold abc
  rw [List.getElem?_map, List.getElem?_range h]
  rfl
theorem abc_mem {c : Nat} : c ∈ abc ↔ 97 ≤ c ∧ c < 123 := by
  unfold abc
  rw [List.mem_map]
  constructor
  · rintro ⟨i, hi, rfl⟩
    rw [List.mem_range] at hi
    omega
  · rintro ⟨h1, h2⟩
    exact ⟨c - 97, by rw [List.mem_range]; omega, by omega⟩
def Low (cs : List Nat) : Prop := ∀ c ∈ cs, 97 ≤ c ∧ c < 123
theorem Low.app {a b : List Nat} (h : Low a) (g : Low b) : Low (a ++ b) := fun c hc => by
  rcases List.mem_append.mp hc with q | q
  · exact h c q
  · exact g c q
theorem Low.take {a : List Nat} (h : Low a) (n : Nat) : Low (a.take n) := fun c hc => h c (List.mem_of_mem_take hc)
theorem Low.drop {a : List Nat} (h : Low a) (n : Nat) : Low (a.drop n) := fun c hc => h c (List.mem_of_mem_drop hc)
theorem Low.one {c : Nat} (h : 97 ≤ c ∧ c < 123) : Low [c] := fun d hd => by
  rw [List.mem_singleton] at hd
  subst hd
  exact h
/-- the k-th of the names that differ in one letter -/
def nm (st : List Nat) (at' fi k : Nat) : List Nat := st.take at' ++ [97 + (fi + 5 * k) % 26] ++ st.drop at'
structure Nms (m : Nat) (ws : List (List Nat)) : Prop where
  ex : ∃ (st : List Nat) (at' fi : Nat), Low st ∧ st.length ≤ 4 ∧ at' ≤ st.length ∧ fi < 26 ∧ ws = (List.range m).map (nm st at' fi)
theorem nm_low {st : List Nat} {at' fi k : Nat} (h : Low st) : Low (nm st at' fi k) := ((h.take at').app (.one (by omega))).app (h.drop at')
theorem nm_len {st : List Nat} {at' fi k : Nat} : (nm st at' fi k).length = st.length + 1 := by
  unfold nm
  rw [List.length_append, List.length_append, List.length_take, List.length_drop, List.length_singleton]
  omega
theorem Nms.len {m : Nat} {ws : List (List Nat)} (h : Nms m ws) : ws.length = m := by
  obtain ⟨st, at', fi, _, _, _, _, rfl⟩ := h.ex
  rw [List.length_map, List.length_range]
theorem Nms.word {m : Nat} {ws : List (List Nat)} (h : Nms m ws) : ∀ w ∈ ws, Low w ∧ 1 ≤ w.length ∧ w.length ≤ 5 := by
  obtain ⟨st, at', fi, h1, h2, _, _, rfl⟩ := h.ex
  intro w hw
  obtain ⟨k, _, rfl⟩ := List.mem_map.mp hw
  rw [nm_len]
  exact ⟨nm_low h1, by omega, by omega⟩
theorem joinL_nil : ∀ cs : List (List Nat), TL.joinL [] cs = cs.flatten
  | [] => rfl
  | [p] => by simp [TL.joinL]
  | p :: q :: r => by
    show p ++ ([] ++ TL.joinL [] (q :: r)) = (p :: q :: r).flatten
    rw [joinL_nil (q :: r)]
    simp
/-- "".join of signs -/
theorem join_signs (cs : List Nat) : Txt.join (Str.ofString "") (cs.map fun c => (⟨#[c]⟩ : Str)) = SX.S cs := by
  have e0 : Str.ofString "" = SX.S [] := by decide +kernel
  have e1 : (cs.map fun c => (⟨#[c]⟩ : Str)) = (cs.map fun c => [c]).map SX.S := by rw [List.map_map]; rfl
  have e2 : (cs.map fun c => [c]).flatten = cs := by
    clear e1
    induction cs with
    | nil => rfl
    | cons c r ih => simp [ih]
  rw [e0, e1, SX.join_S, joinL_nil, e2]
end Ag
namespace Ag
open PySem PySem.Spec PyProof.Rows L2
/-! ### the program's words: letters, names -/
def isLet (cs : List Nat) : Bool := decide (cs.length = 1) && cs.all fun c => decide (97 ≤ c) && decide (c < 123)
def isNm (cs : List Nat) : Bool := decide (1 ≤ cs.length) && decide (cs.length ≤ 6) && cs.all fun c => decide (97 ≤ c) && decide (c < 123)
theorem isNm_low {cs : List Nat} (h : Low cs) (h1 : 1 ≤ cs.length) : isNm cs = decide (cs.length ≤ 6) := by
  unfold isNm
  have e : (cs.all fun c => decide (97 ≤ c) && decide (c < 123)) = true := by
    rw [List.all_eq_true]
    intro c hc
    simp only [Bool.and_eq_true, decide_eq_true_eq]
    exact h c hc
  rw [e, decide_eq_true h1, Bool.true_and, Bool.and_true]
theorem isNm_bad {cs : List Nat} {c : Nat} (h : c ∈ cs) (hc : ¬ (97 ≤ c ∧ c < 123)) : isNm cs = false := by
  unfold isNm
  have e : (cs.all fun c => decide (97 ≤ c) && decide (c < 123)) = false := by
    rw [List.all_eq_false]
    refine ⟨c, h, ?_⟩
    simp only [Bool.and_eq_true, decide_eq_true_eq]
    exact hc
  rw [e, Bool.and_false]
theorem isLet_in (cs : List Nat) (h : cs.length = 1) : (!(Builtin.Str.occurrences (SX.S abc) (SX.S cs) 0 (SX.S abc).length 1).isEmpty) = isLet cs := by
  match cs, h with
  | [c], _ =>
    rw [SX.in_one]
    unfold isLet
    by_cases hc : 97 ≤ c ∧ c < 123
    · rw [decide_eq_true (abc_mem.mpr hc)]
      simp [hc.1, hc.2]
    · rw [decide_eq_false (fun z => hc (abc_mem.mp z))]
      simp
      intro h1
      omega
/-- a value of no text -/
def NoStr (K : PySem.W.Frag) (H : Hp) (x : V) : Prop := ∃ t, TyX K H x t ∧ PySem.W.kitOne K t (.type "str") = some false
/-! ### a call with keywords alone -/
structure KW0 (fd : FuncData) (ps ks : List Str) (g : List Value → List Value) (gV : List V → List V) : Prop where
  to : ∀ (s : Shared) (ws : List Value), ws.length = ks.length → BindsTo s fd ⟨[], ks.zip ws⟩ (ps.zip (g ws))
  rel : ∀ {zs : List V} {ws : List Value}, Vals zs ws → Vals (gV zs) (g ws)
def tCallW (n : Nat) (sp : Sp) (gV : List V → List V) (E : XK) (tk : TA) : TE := fun σ H Q => tk σ H fun zs H2 => zs.length = n ∧ sp (gV zs) H2 Q E
theorem pe_callW {X : Cx} {CX : CXT} {k : Nat} {f : Addr} {fd : FuncData} {ps ks : List Str} {sp : Sp} {E : XK} {x : Str} {p pos : Pos} {kws : List Keyword} {tk : TA} {g : List Value → List Value} {gV : List V → List V}
    (F : FnOk X.prog X.w X.K X.mg X.base CX k f fd ps sp) (hr : Room k X.A) (hg : Gl X x) (hm : X.mg x = some (.ref f)) (hk : PySem.W.keepIn X.K (.ref f) = true) (hb : KW0 fd ps ks g gV) (hx : Passes CX X E) (hkw : PK X kws tk)
    (hall : (backToKw pos (keywordEach kws X.env)).all (·.1.isSome) = true := by rfl) (hks : (backToKw pos (keywordEach kws X.env)).filterMap (·.1) = ks := by rfl) (hdb : (x == ("__debug__" : Str)) = false := by decide)
    (hpl : ((backTo pos (starEach [] X.env)).any (·.1) || (backToKw pos (keywordEach kws X.env)).any (·.1.isNone)) = false := by rfl) : PE X (.Call (.Name x p) [] kws pos) (tCallW ks.length sp gV E tk) := by
  refine ⟨fun pins s σ H Q I h => ?_⟩
  refine wpAny_Call_Name_kw (ld_glob I hg hm ?_ hdb)
  refine PySem.W.callWith_KW0 (h₀ := X.base) I.ok.mod.kin hk hall ?_ hpl
  refine thn (hkw.run pos pins s σ H _ I h) fun ws s2 ⟨zs, H2, I2, rz, l2, q2⟩ => ⟨I2.kIn, ?_⟩
  rw [hks]
  have r2 := hb.rel rz
  refine wpAny_call (codeAny_mono (F.run X.A X.stack s2 H2 ⟨[], ks.zip ws⟩ (g ws) (gV zs) Q E hr I2.env0 (hb.to s2 ws (rz.length.symm.trans l2)) r2 q2) fun r s' hq => ?_)
  cases r with
  | error e => exact hx pins σ H2 s2 e s' I2 hq
  | ok fl =>
    cases fl with
    | ret u => exact I2.after hq
    | next => exact False.elim hq
    | brk => exact False.elim hq
    | cont => exact False.elim hq
end Ag
namespace Ag
open PySem PySem.Spec PyProof.Rows L2
theorem dpall_bools {K : PySem.W.Frag} {H : Hp} : ∀ bs : List Bool, DpAll K H (bs.map V.bl) (bs.map PyData.bool)
  | [] => .nil
  | b :: r => .cons (.bl b) (dpall_bools r)
theorem okd_bools {n : Nat} {bs : List Bool} (h : bs.length ≤ 1000) : okd (n + 2) (.list (bs.map PyData.bool)) = true := by
  simp only [okd, List.length_map, decide_eq_true h, Bool.true_and, List.all_eq_true]
  intro d hd
  obtain ⟨b, _, rfl⟩ := List.mem_map.mp hd
  rfl
theorem sizes_signs (l : List Nat) : ((l.map fun c => (⟨#[c]⟩ : Str)).map (·.length)).sum = l.length := by
  induction l with
  | nil => rfl
  | cons c r ih =>
    rw [List.map_cons, List.map_cons, List.sum_cons, ih, List.length_cons]
    show 1 + r.length = r.length + 1
    omega
theorem itm_abc {K : PySem.W.Frag} {H : Hp} {b : Addr} : Itm K H b (.str "abcdefghijklmnopqrstuvwxyz") (abc.map fun c => V.str ⟨#[c]⟩) := .inl ⟨_, rfl, by rw [abc_str, SX.S_len, abc_len]; decide, by rw [abc_str]⟩
end Ag
namespace Ag
open PySem PySem.Spec PyProof.Rows L2
theorem tyx_kp {K : PySem.W.Frag} {b : Addr} {H H' : Hp} (k : Kp b H H') {x : V} {t : Value} (h : TyX K H x t) (n : x ≠ .ref b) : TyX K H' x t := by
  have nb : ∀ a, V.ref a ≠ .ref b → a ≠ b := fun a z e => z (by rw [e])
  cases h with
  | base h =>
    refine .base ?_
    cases h with
    | non => exact .non
    | bl y => exact .bl y
    | int i => exact .int i
    | str y => exact .str y
    | flt y => exact .flt y
    | lst e => exact .lst (k _ _ e (nb _ n))
    | frz e => exact .frz (k _ _ e (nb _ n))
    | tup e => exact .tup (k _ _ e (nb _ n))
    | dK e => exact .dK (k _ _ e (nb _ n))
    | dT e => exact .dT (k _ _ e (nb _ n))
    | ins e cl ha hn htk hm => exact .ins (k _ _ e (nb _ n)) cl ha hn htk hm
  | byt y => exact .byt y
  | set e => exact .set (k _ _ e (nb _ n))
  | kList e c => exact .kList e c
  | kTuple e c => exact .kTuple e c
  | kDict e c => exact .kDict e c
  | fTuple e => exact .fTuple (k _ _ e (nb _ n))
  | fDict e => exact .fDict (k _ _ e (nb _ n))
theorem tyx_same {K : PySem.W.Frag} {H H' : Hp} (k : Same H H') {x : V} {t : Value} (h : TyX K H x t) : TyX K H' x t := by
  cases h with
  | base h =>
    refine .base ?_
    cases h with
    | non => exact .non
    | bl y => exact .bl y
    | int i => exact .int i
    | str y => exact .str y
    | flt y => exact .flt y
    | lst e => exact .lst (k _ _ e)
    | frz e => exact .frz (k _ _ e)
    | tup e => exact .tup (k _ _ e)
    | dK e => exact .dK (k _ _ e)
    | dT e => exact .dT (k _ _ e)
    | ins e cl ha hn htk hm => exact .ins (k _ _ e) cl ha hn htk hm
  | byt y => exact .byt y
  | set e => exact .set (k _ _ e)
  | kList e c => exact .kList e c
  | kTuple e c => exact .kTuple e c
  | kDict e c => exact .kDict e c
  | fTuple e => exact .fTuple (k _ _ e)
  | fDict e => exact .fDict (k _ _ e)
theorem NoStr.kp {K : PySem.W.Frag} {b : Addr} {H H' : Hp} (k : Kp b H H') {x : V} (h : NoStr K H x) (n : x ≠ .ref b) : NoStr K H' x := by
  obtain ⟨t, h1, h2⟩ := h
  exact ⟨t, tyx_kp k h1 n, h2⟩
theorem NoStr.same {K : PySem.W.Frag} {H H' : Hp} (k : Same H H') {x : V} (h : NoStr K H x) : NoStr K H' x := by
  obtain ⟨t, h1, h2⟩ := h
  exact ⟨t, tyx_same k h1, h2⟩
theorem nostr_non {K : PySem.W.Frag} {H : Hp} : NoStr K H .non := ⟨_, .base .non, kit_ty (by decide +kernel)⟩
theorem nostr_int {K : PySem.W.Frag} {H : Hp} {i : Int} : NoStr K H (.int i) := ⟨_, .base (.int i), kit_ty (by decide +kernel)⟩
theorem nostr_bl {K : PySem.W.Frag} {H : Hp} {c : Bool} : NoStr K H (.bl c) := ⟨_, .base (.bl c), kit_ty (by decide +kernel)⟩
theorem nostr_tup {K : PySem.W.Frag} {H : Hp} {a : Addr} {xs : List V} (h : H a = some (.tup xs)) : NoStr K H (.ref a) := ⟨_, .base (.tup h), kit_ty (by decide +kernel)⟩
theorem nostr_lst {K : PySem.W.Frag} {H : Hp} {a : Addr} {xs : List V} (h : H a = some (.lst xs)) : NoStr K H (.ref a) := ⟨_, .base (.lst h), kit_ty (by decide +kernel)⟩
/-- 'join of drawn signs': the turn's word, and what it is in the end -/
def Sgn (b l D : Addr) (H0 : Hp) (i : Nat) (H' : Hp) : Prop := ∃ cs : List Nat, Low cs ∧ cs.length = i ∧ Kp b H0 H' ∧ Bag H' b l ∧ H' D = some (.lst ((cs.map fun c => (⟨#[c]⟩ : Str)).map V.str))
end Ag
namespace Ag
open PySem PySem.Spec PyProof.Rows L2
/-- whether a value is a letter, a name -/
def LetIs (K : PySem.W.Frag) (H : Hp) (x : V) (ok : Bool) : Prop := (∃ cs : List Nat, x = .str (SX.S cs) ∧ cs.length ≤ 1000 ∧ ok = isLet cs) ∨ (NoStr K H x ∧ ok = false)
def NameIs (K : PySem.W.Frag) (H : Hp) (x : V) (ok : Bool) : Prop := (∃ cs : List Nat, x = .str (SX.S cs) ∧ cs.length ≤ 1000 ∧ ok = isNm cs) ∨ (NoStr K H x ∧ ok = false)
theorem name_is {K : PySem.W.Frag} {H : Hp} {cs : List Nat} (h : cs.length ≤ 1000) : NameIs K H (.str (SX.S cs)) (isNm cs) := .inl ⟨cs, rfl, h, rfl⟩
theorem NameIs.same {K : PySem.W.Frag} {H H' : Hp} (s : Same H H') {x : V} {ok : Bool} (h : NameIs K H x ok) : NameIs K H' x ok := by
  rcases h with h | ⟨h, e⟩
  · exact .inl h
  · exact .inr ⟨h.same s, e⟩
end Ag
namespace Ag
open PySem PySem.Spec PyProof.Rows L2
/-! ### a def of the module, as the top leaves it -/
structure Df (K : PySem.W.Frag) (mg : Str → Option Value) (x : Str) (st : Stmt) (ps : List Str) (f : Addr) (fd : FuncData) : Prop where
  fn : Fun K x x st f fd
  mg : mg x = some (.ref f)
  bi : Binds K fd ps []
theorem Df.cal {P : Program} {w : World} {K : PySem.W.Frag} {mg : Str → Option Value} {base : Heap} {x : Str} {st : Stmt} {ps : List Str} {f : Addr} {fd : FuncData} {k : Nat} {sp : Sp} (D : Df K mg x st ps f fd) (o : FnOk P w K mg base CX0 k f fd ps sp) : C8.Cal P w K mg base k x sp [] :=
  ⟨f, fd, ps, [], o, D.mg, D.fn.kp, D.bi, .nil⟩
theorem df_mk {K : PySem.W.Frag} {h : Heap} {mg : Str → Option Value} {x : Str} {st : Stmt} {ps : List Str} {f : Addr} {od an : Option Addr} {sl : Array (Option Value)} {oc kV dc pm cd ct : Value} (X : K.In h) (G : h.Ns mainGlobals mg)
    (hb : ∀ (kV doc pm : Value) (an : Option Addr) (cdv ct : Value) (us : List Value), us.length = ps.length → bindArgs (PySem.W.fnOf x x (defArgs st) (defBody st) (defScope st) .none kV doc pm an cdv ct) ⟨us, []⟩ = pure (ps.zip us))
    (a : PySem.W.nsIn K mainGlobals x = some (some (.ref f))) (l : K.lookup f = some ⟨oc, od, .func (PySem.W.fnOf x x (defArgs st) (defBody st) (defScope st) .none kV dc pm an cd ct), sl⟩) (c : PySem.W.codeIn K cd x = true) (k : PySem.W.keepIn K (.ref f) = true) :
    Df K mg x st ps f (PySem.W.fnOf x x (defArgs st) (defBody st) (defScope st) .none kV dc pm an cd ct) := by
  have F := fun_mk (st := st) l c k
  exact ⟨F, PySem.W.mg_of X G a, F.binds hb⟩
theorem Df.kw {K : PySem.W.Frag} {mg : Str → Option Value} {x : Str} {st : Stmt} {ps ks : List Str} {f : Addr} {fd : FuncData} {g : List Value → List Value} {gV : List V → List V} (D : Df K mg x st ps f fd)
    (h : ∀ (kV doc pm : Value) (an : Option Addr) (cdv ct : Value) (ws : List Value), ws.length = ks.length → bindArgs (PySem.W.fnOf x x (defArgs st) (defBody st) (defScope st) .none kV doc pm an cdv ct) ⟨[], ks.zip ws⟩ = pure (ps.zip (g ws)))
    (rel : ∀ {zs : List V} {ws : List Value}, Vals zs ws → Vals (gV zs) (g ws)) : KW0 fd ps ks g gV := by
  obtain ⟨oc, od, kV, doc, pm, an, cdv, ct, osl, rfl, lk, hcd⟩ := D.fn.ex
  exact ⟨fun s ws l => .of_eq (h kV doc pm an cdv ct ws l), rel⟩
end Ag
namespace Ag
open PySem PySem.Spec PyProof.Rows L2
theorem tseq {t u : TS} {D : Ends} {σ : L2.St} {H : Hp} (Mid : L2.St → Hp → Prop) (h2 : ∀ σ' H', Mid σ' H' → u D σ' H') (h1 : (∀ σ' H', Mid σ' H' → u D σ' H') → tSeq t u D σ H) : tSeq t u D σ H := h1 h2
theorem kp_upd {b : Addr} {H : Hp} {o : HO} : Kp b H (upd H b o) := fun c u e n => by rw [upd_ne n]; exact e
theorem fm_in (t : Int) {m : Int} (hm : 0 < m) : 0 ≤ t.fmod m ∧ t.fmod m < m := by
  rw [Int.fmod_eq_emod_of_nonneg t (by omega)]
  exact ⟨Int.emod_nonneg t (by omega), Int.emod_lt_of_pos t hm⟩
end Ag
namespace Ag
open PySem PySem.Spec PyProof.Rows L2
structure LikeM (mg : Str → Option Value) : Prop where
  isi : mg "isinstance" = none
  dict : mg "dict" = none
  list : mg "list" = none
  tuple : mg "tuple" = none
  bool : mg "bool" = none
  int : mg "int" = none
  str : mg "str" = none
  len : mg "len" = none
  all : mg "all" = none
  zip : mg "zip" = none
  sorted : mg "sorted" = none
structure NamesM (mg : Str → Option Value) : Prop where
  range : mg "range" = none
  int : mg "int" = none
  len : mg "len" = none
structure NameM (mg : Str → Option Value) : Prop where
  isi : mg "isinstance" = none
  str : mg "str" = none
  len : mg "len" = none
  all : mg "all" = none
  letters : ∃ t, mg "LETTERS" = some (.str "abcdefghijklmnopqrstuvwxyz" t)
  longest : ∃ t, mg "LONGEST_NAME" = some (.int 6 t)
end Ag
namespace Ag
open PySem PySem.Spec PyProof.Rows L2
/-! ### what may be read stays so -/
def RdLe (H H' : Hp) : Prop := ∀ c u, Rd H c u → Rd H' c u
theorem RdLe.of {H H' : Hp} (s : Same H H') : RdLe H H' := fun c u h => by
  rcases h with h | ⟨o, h⟩
  · exact .inl (s _ _ h)
  · exact .inr ⟨o, s _ _ h⟩
theorem RdLe.lock {H : Hp} {a : Addr} {u : HO} (h : H a = some u) (mu : Mut (some u)) (od : Obj) : RdLe H (upd H a (.frz od u)) := fun c v q => by
  by_cases e : c = a
  · subst e
    rcases q with q | ⟨o, q⟩
    · rw [h] at q
      cases q
      exact .inr ⟨od, upd_same⟩
    · rw [h] at q
      cases q
      exact mu.elim
  · rcases q with q | ⟨o, q⟩
    · exact .inl (by rw [upd_ne e]; exact q)
    · exact .inr ⟨o, by rw [upd_ne e]; exact q⟩
theorem RdLe.seqL {K : PySem.W.Frag} {H H' : Hp} {a : Addr} {xs : List V} (s : RdLe H H') (h : SqL K H a xs) : SqL K H' a xs := h.imp (s _ _) id
theorem RdLe.seqT {K : PySem.W.Frag} {H H' : Hp} {a : Addr} {xs : List V} (s : RdLe H H') (h : SqT K H a xs) : SqT K H' a xs := h.imp (s _ _) id
theorem Dp_rd {K : PySem.W.Frag} {H H' : Hp} (s : RdLe H H') {d : PyData} {v : V} (h : Dp K H v d) : Dp K H' v d :=
  Dp.rec (motive_1 := fun v d _ => Dp K H' v d) (motive_2 := fun vs ds _ => DpAll K H' vs ds) .non .bl .int .str
    (fun q _ ih => .lst (s.seqL q) ih) (fun q _ ih => .tup (s.seqT q) ih) .nil (fun _ _ a b => .cons a b) h
/-! ### data with dicts, the order of whose keys means nothing -/
def keyD : Key → PyData
  | .inl i => .int i
  | .inr x => .str x
mutual
inductive Da (K : PySem.W.Frag) (H : Hp) : V → PyData → Prop
  | non : Da K H .non .none
  | bl (b : Bool) : Da K H (.bl b) (.bool b)
  | int (i : Int) : Da K H (.int i) (.int i)
  | str (x : Str) : Da K H (.str x) (.str x)
  | lst {a : Addr} {xs : List V} {ds : List PyData} : SqL K H a xs → DaAll K H xs ds → Da K H (.ref a) (.list ds)
  | tup {a : Addr} {xs : List V} {ds : List PyData} : SqT K H a xs → DaAll K H xs ds → Da K H (.ref a) (.tuple ds)
  | dic {a : Addr} {kvs kvs' : List (Key × V)} {es : List (PyData × PyData)} : H a = some (.dK kvs) → kvs.Perm kvs' → (kvs.map (·.1)).Nodup → Paired (fun kv e => e.1 = keyD kv.1 ∧ Dp K H kv.2 e.2) kvs' es → Da K H (.ref a) (.dict es)
inductive DaAll (K : PySem.W.Frag) (H : Hp) : List V → List PyData → Prop
  | nil : DaAll K H [] []
  | cons {v : V} {vs : List V} {d : PyData} {ds : List PyData} : Da K H v d → DaAll K H vs ds → DaAll K H (v :: vs) (d :: ds)
end
theorem Da_of {K : PySem.W.Frag} {H : Hp} {d : PyData} {v : V} (h : Dp K H v d) : Da K H v d :=
  Dp.rec (motive_1 := fun v d _ => Da K H v d) (motive_2 := fun vs ds _ => DaAll K H vs ds) .non .bl .int .str
    (fun q _ ih => .lst q ih) (fun q _ ih => .tup q ih) .nil (fun _ _ a b => .cons a b) h
theorem paired_imp {α β : Type} {F G : α → β → Prop} (f : ∀ a b, F a b → G a b) : ∀ {l₁ : List α} {l₂ : List β}, Paired F l₁ l₂ → Paired G l₁ l₂
  | _, _, .nil => .nil
  | _, _, .cons r t => .cons (f _ _ r) (paired_imp f t)
theorem Da_same {K : PySem.W.Frag} {H H' : Hp} (s : Same H H') {d : PyData} {v : V} (h : Da K H v d) : Da K H' v d :=
  Da.rec (motive_1 := fun v d _ => Da K H' v d) (motive_2 := fun vs ds _ => DaAll K H' vs ds) .non .bl .int .str
    (fun q _ ih => .lst (s.seq q) ih) (fun q _ ih => .tup (sameT s q) ih) (fun q p n r => .dic (s _ _ q) p n (paired_imp (fun _ _ z => ⟨z.1, Dp_same s z.2⟩) r)) .nil (fun _ _ a b => .cons a b) h
theorem daall_len {K : PySem.W.Frag} {H : Hp} : ∀ {vs : List V} {ds : List PyData}, DaAll K H vs ds → vs.length = ds.length
  | _, _, .nil => rfl
  | _, _, .cons _ b => congrArg (· + 1) (daall_len b)
theorem daall_get {K : PySem.W.Frag} {H : Hp} : ∀ {vs : List V} {ds : List PyData} {i : Nat} {v : V}, DaAll K H vs ds → vs[i]? = some v → ∃ d, ds[i]? = some d ∧ Da K H v d
  | _, _, _, _, .nil, e => by simp at e
  | _, _, 0, _, .cons a _, e => by
    simp at e
    subst e
    exact ⟨_, rfl, a⟩
  | _, _, i + 1, _, .cons _ b, e => by
    obtain ⟨d, h1, h2⟩ := daall_get (i := i) b (by simpa using e)
    exact ⟨d, by simpa using h1, h2⟩
/-- keys that are texts -/
def isStrD : PyData → Bool
  | .str x => x.cps.all (· < 0x110000)
  | _ => false
/-- less than n deep, at most 1000 items in a list, less than 64 texts as keys of a dict -/
def oka : Nat → PyData → Bool
  | 0, _ => false
  | n + 1, .list ds => decide (ds.length ≤ 1000) && ds.all (oka n)
  | n + 1, .tuple ds => decide (ds.length ≤ 1000) && ds.all (oka n)
  | n + 1, .dict es => decide (es.length < 64) && es.all fun e => isStrD e.1 && oka n e.2
  | _ + 1, _ => true
theorem da_tyx {K : PySem.W.Frag} {H : Hp} {v : V} {d : PyData} (h : Da K H v d) : TyX K H v (.type (tyD d)) := by
  cases h with
  | non => exact .base .non
  | bl b => exact .base (.bl b)
  | int i => exact .base (.int i)
  | str x => exact .base (.str x)
  | lst q _ =>
    rcases q with (q | ⟨o, q⟩) | ⟨o, its, n, e, c, _⟩
    · exact .base (.lst q)
    · exact .base (.frz q)
    · exact .kList e c
  | tup q _ =>
    rcases q with (q | ⟨o, q⟩) | ⟨o, its, n, e, c, _⟩
    · exact .base (.tup q)
    · exact .fTuple q
    · exact .kTuple e c
  | dic q _ _ _ => exact .base (.dK q)
theorem isD_nodict {d : PyData} (h : ∀ es, d ≠ .dict es) : isD "dict" d = false := by
  cases d with
  | dict es => exact absurd rfl (h es)
  | _ => simp only [isD, tyD]; decide +kernel
theorem isD_dic {es : List (PyData × PyData)} : isD "dict" (.dict es) = true := by
  simp only [isD, tyD]
  decide +kernel
end Ag
namespace Ag
open PySem PySem.Spec PyProof.Rows L2
/-! ### two sorted lists of the same texts are one -/
theorem lc_anti : ∀ a b : List Nat, ltCps a b = false → ltCps b a = false → a = b
  | [], [], _, _ => rfl
  | [], _ :: _, h, _ => by simp [ltCps] at h
  | _ :: _, [], _, h => by simp [ltCps] at h
  | a :: r, b :: t, h1, h2 => by
    simp only [ltCps, Bool.or_eq_false_iff, decide_eq_false_iff_not, Bool.and_eq_false_iff, beq_eq_false_iff_ne] at h1 h2
    have e : a = b := by omega
    subst e
    have k1 : ltCps r t = false := by rcases h1.2 with z | z; exact absurd rfl z; exact z
    have k2 : ltCps t r = false := by rcases h2.2 with z | z; exact absurd rfl z; exact z
    rw [lc_anti r t k1 k2]
theorem lc_trans : ∀ a b c : List Nat, ltCps b a = false → ltCps c b = false → ltCps c a = false
  | [], _, [], _, _ => rfl
  | [], _, _ :: _, _, _ => rfl
  | _ :: _, [], _, h, _ => by simp [ltCps] at h
  | _ :: _, _ :: _, [], _, h => by simp [ltCps] at h
  | a :: r, b :: t, c :: u, h1, h2 => by
    simp only [ltCps, Bool.or_eq_false_iff, decide_eq_false_iff_not, Bool.and_eq_false_iff, beq_eq_false_iff_ne] at h1 h2 ⊢
    refine ⟨by omega, ?_⟩
    by_cases e : c = a
    · right
      have e1 : b = a := by omega
      have e2 : c = b := by omega
      have k1 : ltCps t r = false := by rcases h1.2 with z | z; exact absurd e1 z; exact z
      have k2 : ltCps u t = false := by rcases h2.2 with z | z; exact absurd e2 z; exact z
      exact lc_trans r t u k1 k2
    · exact .inl e
theorem rising_all : ∀ (l : List Str) (p : Str), risingS p l = true → (∀ x ∈ l, ltCps x.cps.toList p.cps.toList = false) ∧ l.Pairwise (fun a b => ltCps b.cps.toList a.cps.toList = false)
  | [], _, _ => ⟨fun x h => (by cases h), List.Pairwise.nil⟩
  | y :: r, p, h => by
    simp only [risingS, Bool.and_eq_true, Bool.not_eq_true'] at h
    obtain ⟨h1, h2⟩ := rising_all r y h.2
    refine ⟨fun x hx => ?_, .cons h1 h2⟩
    rcases List.mem_cons.mp hx with rfl | hx
    · exact h.1
    · exact lc_trans _ _ _ h.1 (h1 x hx)
theorem sorted_pw {l : List Str} (h : sortedS l = true) : l.Pairwise (fun a b => ltCps b.cps.toList a.cps.toList = false) := by
  cases l with
  | nil => exact .nil
  | cons x r =>
    obtain ⟨h1, h2⟩ := rising_all r x h
    exact .cons h1 h2
theorem perm_one {α : Type} {le : α → α → Prop} (anti : ∀ a b, le a b → le b a → a = b) : ∀ {a b : List α}, a.Perm b → a.Pairwise le → b.Pairwise le → a = b
  | [], [], _, _, _ => rfl
  | [], y :: t, p, _, _ => absurd p.length_eq (by simp)
  | x :: r, [], p, _, _ => absurd p.length_eq (by simp)
  | x :: r, y :: t, p, ha, hb => by
    obtain ⟨a1, a2⟩ := List.pairwise_cons.mp ha
    obtain ⟨b1, b2⟩ := List.pairwise_cons.mp hb
    have e : x = y := by
      have hx : x ∈ y :: t := p.mem_iff.mp (by simp)
      have hy : y ∈ x :: r := p.mem_iff.mpr (by simp)
      rcases List.mem_cons.mp hx with e | hx
      · exact e
      rcases List.mem_cons.mp hy with e | hy
      · exact e.symm
      exact anti _ _ (a1 y hy) (b1 x hx)
    subst e
    rw [perm_one anti p.cons_inv a2 b2]
theorem sorted_one {a b : List Str} (p : a.Perm b) (ha : sortedS a = true) (hb : sortedS b = true) : a = b := by
  refine perm_one (le := fun a b => ltCps b.cps.toList a.cps.toList = false) (fun x y h1 h2 => ?_) p (sorted_pw ha) (sorted_pw hb)
  have e := lc_anti _ _ h2 h1
  exact TL.ext_tl e
theorem dpall_strs {K : PySem.W.Frag} {H : Hp} : ∀ ys : List Str, DpAll K H (ys.map V.str) (ys.map PyData.str)
  | [] => .nil
  | y :: r => .cons (.str y) (dpall_strs r)
end Ag
namespace Ag
open PySem PySem.Spec PyProof.Rows L2
theorem lay_strs : ∀ ys : List Str, (∀ y ∈ ys, (y.cps.all (· < 0x110000)) = true) → PyData.canLayAll0 (ys.map PyData.str) = true
  | [], _ => rfl
  | y :: r, h => by
    show (PyData.canLay0 (.str y) && PyData.canLayAll0 (r.map PyData.str)) = true
    rw [lay_strs r fun z hz => h z (List.mem_cons_of_mem _ hz), Bool.and_true]
    exact h y (by simp)
theorem depth_strs : ∀ ys : List Str, PyData.depthAll (ys.map PyData.str) = 0
  | [] => rfl
  | y :: r => by
    show max 0 (PyData.depthAll (r.map PyData.str)) = 0
    rw [depth_strs r]
    rfl
theorem shaped_strs {ys : List Str} (h : ∀ y ∈ ys, (y.cps.all (· < 0x110000)) = true) : SeqAt.shaped (.list (ys.map PyData.str)) = true := by
  unfold SeqAt.shaped
  rw [Bool.and_eq_true]
  refine ⟨lay_strs ys h, ?_⟩
  show decide (PyData.depthAll (ys.map PyData.str) + 1 ≤ 64) = true
  rw [depth_strs]
  decide
/-- the entries of a dict with text keys, by its data -/
theorem dic_keys {n : Nat} {kvs : List (Key × V)} {es : List (PyData × PyData)} {R : Key × V → PyData × PyData → Prop} (hr : ∀ kv e, R kv e → e.1 = keyD kv.1) (ok : oka (n + 1) (.dict es) = true) (r : Paired R kvs es) :
    ∃ ks : List Str, (kvs.map fun kv => kV kv.1) = ks.map V.str ∧ ks.length = es.length ∧ (∀ y ∈ ks, (y.cps.all (· < 0x110000)) = true) ∧ es.map (·.1) = ks.map PyData.str ∧ kvs.map (·.1) = ks.map Sum.inr := by
  have ok2 : ∀ e ∈ es, isStrD e.1 = true := by
    simp only [oka, Bool.and_eq_true, List.all_eq_true] at ok
    exact fun e he => (ok.2 e he).1
  clear ok
  induction r with
  | nil => exact ⟨[], rfl, rfl, fun y h => (by cases h), rfl, rfl⟩
  | @cons kv e kvs es h t ih =>
    obtain ⟨ks, h1, h2, h3, h4, h5⟩ := ih fun e he => ok2 e (List.mem_cons_of_mem _ he)
    have he := hr _ _ h
    have hs := ok2 e (by simp)
    obtain ⟨k, v⟩ := kv
    cases k with
    | inl i => rw [he] at hs; cases hs
    | inr x =>
      rw [he] at hs
      refine ⟨x :: ks, by rw [List.map_cons, h1]; rfl, by simp [h2], fun y hy => ?_, by rw [List.map_cons, h4, he]; rfl, by rw [List.map_cons, h5]; rfl⟩
      rcases List.mem_cons.mp hy with rfl | hy
      · exact hs
      · exact h3 y hy
theorem valV_of {kvs : List (Key × V)} (nd : (kvs.map (·.1)).Nodup) {k : Key} {v : V} (h : (k, v) ∈ kvs) : valV kvs k = some v := by
  induction kvs with
  | nil => cases h
  | cons p r ih =>
    rw [List.map_cons, List.nodup_cons] at nd
    rcases List.mem_cons.mp h with e | h
    · rw [← e]
      exact valV_pos rfl
    · rw [valV_neg]
      · exact ih nd.2 h
      · intro e
        exact nd.1 (by rw [e]; exact List.mem_map.mpr ⟨_, h, rfl⟩)
theorem paired_mem {α β : Type} {R : α → β → Prop} : ∀ {l : List α} {m : List β}, Paired R l m → ∀ {a : α}, a ∈ l → ∃ b, b ∈ m ∧ R a b
  | _, _, .nil, _, h => by cases h
  | _, _, .cons r t, a, h => by
    rcases List.mem_cons.mp h with rfl | h
    · exact ⟨_, by simp, r⟩
    · obtain ⟨b, h1, h2⟩ := paired_mem t h
      exact ⟨b, by simp [h1], h2⟩
theorem paired_mem2 {α β : Type} {R : α → β → Prop} : ∀ {l : List α} {m : List β}, Paired R l m → ∀ {b : β}, b ∈ m → ∃ a, a ∈ l ∧ R a b
  | _, _, .nil, _, h => by cases h
  | _, _, .cons r t, b, h => by
    rcases List.mem_cons.mp h with rfl | h
    · exact ⟨_, by simp, r⟩
    · obtain ⟨a, h1, h2⟩ := paired_mem2 t h
      exact ⟨a, by simp [h1], h2⟩
end Ag

namespace Ag
open PySem PySem.Spec PyProof.Rows L2
/-! ### objects that are known to the letter for a while -/
def pinO (a : Addr) (o : Obj) : HO := .ext fun h => h.get? a = some o
abbrev Pins := List (Addr × Obj)
def addp (H : Hp) (l : Pins) : Hp := fun b => match l.lookup b with
  | some o => some (pinO b o)
  | none => H b
def remp (H : Hp) (l : Pins) : Hp := fun b => match l.lookup b with
  | some _ => none
  | none => H b
theorem addp_in {H : Hp} {l : Pins} {b : Addr} {o : Obj} (e : l.lookup b = some o) : addp H l b = some (pinO b o) := by unfold addp; rw [e]
theorem addp_out {H : Hp} {l : Pins} {b : Addr} (e : l.lookup b = none) : addp H l b = H b := by unfold addp; rw [e]
theorem remp_in {H : Hp} {l : Pins} {b : Addr} {o : Obj} (e : l.lookup b = some o) : remp H l b = none := by unfold remp; rw [e]
theorem remp_out {H : Hp} {l : Pins} {b : Addr} (e : l.lookup b = none) : remp H l b = H b := by unfold remp; rw [e]
theorem pin_tup {a : Addr} {o : Obj} {xs : List V} : pinO a o ≠ .tup xs := fun z => by
  unfold pinO at z
  cases z
theorem pin_frz {a : Addr} {o ob : Obj} {u : HO} : pinO a o ≠ .frz ob u := fun z => by
  unfold pinO at z
  cases z
theorem pin_own {a x : Addr} {o : Obj} : pinO a o ≠ .own x := fun z => by
  unfold pinO at z
  cases z
theorem pin_tbl {a : Addr} {o : Obj} {ps : Array Value} : pinO a o ≠ .tbl ps := fun z => by
  unfold pinO at z
  cases z
section
variable {P : Program} {w : World} {H H' : Hp} {h h' : Heap} {fs : List Addr} {l : Pins}
theorem pin_ok {a : Addr} {o : Obj} (e : h.get? a = some o) : ObjOk P w H h a (pinO a o) := ⟨e, ⟨o, e⟩, fun _ _ z k => k _ z⟩
theorem pin_at {a : Addr} {o : Obj} (ok : HOk P w H h) (e : H a = some (pinO a o)) : h.get? a = some o := by
  have x : ObjOk P w H h a (.ext fun g => g.get? a = some o) := ok a _ e
  exact x.1
theorem addp_none {b : Addr} (e : addp H l b = none) : l.lookup b = none ∧ H b = none := by
  cases q : l.lookup b with
  | some o =>
    rw [addp_in q] at e
    cases e
  | none =>
    rw [addp_out q] at e
    exact ⟨rfl, e⟩
theorem addp_some {b : Addr} {u : HO} (e : addp H l b = some u) (hu : ∀ o, u ≠ pinO b o) : l.lookup b = none ∧ H b = some u := by
  cases q : l.lookup b with
  | some o =>
    rw [addp_in q] at e
    exact absurd (Option.some.inj e).symm (hu o)
  | none =>
    rw [addp_out q] at e
    exact ⟨rfl, e⟩
theorem hok_add (ok : HOk P w H h) (hl : ∀ b o, l.lookup b = some o → h.get? b = some o ∧ H b = none) : HOk P w (addp H l) h := fun b u e => by
  cases q : l.lookup b with
  | some o =>
    rw [addp_in q] at e
    cases e
    exact pin_ok (hl b o q).1
  | none =>
    rw [addp_out q] at e
    have nl : ∀ {c : Addr} {v : HO}, H c = some v → l.lookup c = none := fun {c v} z => by
      cases q2 : l.lookup c with
      | none => rfl
      | some o =>
        rw [(hl c o q2).2] at z
        cases z
    exact (ok b u e).stay (fun _ _ _ z => z) (fun c z => by rw [addp_out (nl z)]; exact z) fun c xs z => by rw [addp_out (nl z)]; exact z
theorem hok_rem (ok : HOk P w H h) (hl : ∀ b o, l.lookup b = some o → H b = some (pinO b o)) : HOk P w (remp H l) h := fun b u e => by
  cases q : l.lookup b with
  | some o =>
    rw [remp_in q] at e
    cases e
  | none =>
    rw [remp_out q] at e
    have nl : ∀ {c : Addr} {v : HO}, H c = some v → (∀ o, v ≠ pinO c o) → l.lookup c = none := fun {c v} z n => by
      cases q2 : l.lookup c with
      | none => rfl
      | some o =>
        rw [hl c o q2] at z
        exact absurd (Option.some.inj z).symm (n o)
    exact (ok b u e).stay (fun _ _ _ z => z) (fun c z => by rw [remp_out (nl z fun o y => pin_own y.symm)]; exact z) fun c xs z => by rw [remp_out (nl z fun o y => pin_tup y.symm)]; exact z
/-- back from a call that knew of the pins -/
theorem un_rem (u : Un fs [] (addp H l) H' h h') (hl : ∀ b o, l.lookup b = some o → h.get? b = some o ∧ H b = none ∧ b ∉ fs) (ok : HOk P w H' h') (hp : ∀ b o, l.lookup b = some o → H' b = some (pinO b o)) : Un fs [] H (remp H' l) h h' where
  keep := fun b o e n hf hx => by
    cases q : l.lookup b with
    | some ob =>
      have e2 := (hl b ob q).1
      rw [e] at e2
      cases e2
      exact pin_at ok (hp b o q)
    | none => exact u.keep b o e (by rw [addp_out q]; exact n) hf hx
  slot := fun b o e n hf hx => by
    cases q : l.lookup b with
    | some ob => exact absurd hf (hl b ob q).2.2
    | none => exact u.slot b o e (by rw [addp_out q]; exact n) hf hx
  free := fun b o e n hx => by
    cases q : l.lookup b with
    | some ob => exact remp_in q
    | none =>
      rw [remp_out q]
      exact u.free b o e (by rw [addp_out q]; exact n) hx
  there := u.there
  tups := fun b xs e => by
    cases q : l.lookup b with
    | some ob =>
      rw [(hl b ob q).2.1] at e
      cases e
    | none =>
      rw [remp_out q]
      exact u.tups b xs (by rw [addp_out q]; exact e)
  frzs := fun b o v e => by
    cases q : l.lookup b with
    | some ob =>
      rw [(hl b ob q).2.1] at e
      cases e
    | none =>
      rw [remp_out q]
      exact u.frzs b o v (by rw [addp_out q]; exact e)
  tbls := fun b ps e => by
    cases q : l.lookup b with
    | some ob =>
      rw [(hl b ob q).2.1] at e
      cases e
    | none =>
      rw [remp_out q]
      exact u.tbls b ps (by rw [addp_out q]; exact e)
/-- the pins put aside, and taken up again -/
theorem un_add (u : Un fs [] (remp H l) H' h h') (hl : ∀ b o, l.lookup b = some o → H b = some (pinO b o)) : Un fs [] H (addp H' l) h h' := by
  have no : ∀ {b : Addr}, H b = none → l.lookup b = none := fun {b} n => by
    cases q : l.lookup b with
    | none => rfl
    | some o =>
      rw [hl b o q] at n
      cases n
  have no2 : ∀ {b : Addr} {v : HO}, H b = some v → (∀ o, v ≠ pinO b o) → l.lookup b = none := fun {b v} e n => by
    cases q : l.lookup b with
    | none => rfl
    | some o =>
      rw [hl b o q] at e
      exact absurd (Option.some.inj e).symm (n o)
  exact {
    keep := fun b o e n hf hx => u.keep b o e (by rw [remp_out (no n)]; exact n) hf hx
    slot := fun b o e n hf hx => u.slot b o e (by rw [remp_out (no n)]; exact n) hf hx
    free := fun b o e n hx => by rw [addp_out (no n)]; exact u.free b o e (by rw [remp_out (no n)]; exact n) hx
    there := u.there
    tups := fun b xs e => by
      have q := no2 e fun o y => pin_tup y.symm
      rw [addp_out q]
      exact u.tups b xs (by rw [remp_out q]; exact e)
    frzs := fun b o v e => by
      have q := no2 e fun ob y => pin_frz y.symm
      rw [addp_out q]
      exact u.frzs b o v (by rw [remp_out q]; exact e)
    tbls := fun b ps e => by
      have q := no2 e fun o y => pin_tbl y.symm
      obtain ⟨m, z⟩ := u.tbls b ps (by rw [remp_out q]; exact e)
      exact ⟨m, by rw [addp_out q]; exact z⟩ }
theorem un_pins (u : Un fs [] (remp H l) H' h h') (ok : HOk P w H h) (hl : ∀ b o, l.lookup b = some o → H b = some (pinO b o) ∧ b ∉ fs) : ∀ b o, l.lookup b = some o → h'.get? b = some o ∧ H' b = none := fun b o q => by
  have e := pin_at ok (hl b o q).1
  exact ⟨u.keep b o e (remp_in q) (hl b o q).2 (by simp), u.free b o e (remp_in q) (by simp)⟩
end
theorem same_rem {H H1 : Hp} {l : Pins} (s : Same (addp H l) H1) (n : ∀ b o, l.lookup b = some o → H b = none) : Same H (remp H1 l) := fun c o e => by
  have q : l.lookup c = none := by
    cases z : l.lookup c with
    | none => rfl
    | some ob =>
      rw [n c ob z] at e
      cases e
  rw [remp_out q]
  exact s c o (by rw [addp_out q]; exact e)
theorem same_add {H1 H2 : Hp} {l : Pins} (s : Same (remp H1 l) H2) (hp : ∀ b o, l.lookup b = some o → H1 b = some (pinO b o)) : Same H1 (addp H2 l) := fun c o e => by
  cases q : l.lookup c with
  | some ob =>
    rw [addp_in q]
    rw [hp c ob q] at e
    exact e
  | none =>
    rw [addp_out q]
    exact s c o (by rw [remp_out q]; exact e)
theorem add_same {H : Hp} {l : Pins} (n : ∀ b o, l.lookup b = some o → H b = none) : Same H (addp H l) := fun c o e => by
  have q : l.lookup c = none := by
    cases z : l.lookup c with
    | none => rfl
    | some ob =>
      rw [n c ob z] at e
      cases e
  rw [addp_out q]
  exact e
section
variable {P : Program} {w : World} {K : PySem.W.Frag} {mg : Str → Option Value} {base : Heap} {A : Around} {outer : List Env} {s s' : Shared} {H : Hp} {l : Pins}
theorem env0_add (e0 : Env0 P w K mg base A outer s H) (hl : ∀ b o, l.lookup b = some o → s.heap.get? b = some o ∧ H b = none ∧ base.get? b = none ∧ b ∉ frs outer) : Env0 P w K mg base A outer s (addp H l) :=
  ⟨e0.frames, e0.mod, fun b o e => ⟨(e0.bs b o e).1, by
      cases q : l.lookup b with
      | some ob =>
        rw [(hl b ob q).2.2.1] at e
        cases e
      | none =>
        rw [addp_out q]
        exact (e0.bs b o e).2⟩,
    e0.bsz, e0.funs, fun b hb => by
      cases q : l.lookup b with
      | some ob => exact absurd hb (hl b ob q).2.2.2
      | none =>
        rw [addp_out q]
        exact e0.frf b hb,
    hok_add e0.hok (fun b o q => ⟨(hl b o q).1, (hl b o q).2.1⟩), e0.bare⟩
theorem env0_rem (e0 : Env0 P w K mg base A outer s H) (hl : ∀ b o, l.lookup b = some o → H b = some (pinO b o)) : Env0 P w K mg base A outer s (remp H l) := by
  have no : ∀ {b : Addr}, H b = none → remp H l b = none := fun {b} n => by
    cases q : l.lookup b with
    | some o => exact remp_in q
    | none =>
      rw [remp_out q]
      exact n
  exact ⟨e0.frames, e0.mod, fun b o e => ⟨(e0.bs b o e).1, no (e0.bs b o e).2⟩, e0.bsz, e0.funs, fun b hb => no (e0.frf b hb), hok_rem e0.hok hl, e0.bare⟩
theorem ce_rem {Q Q' : VK} {u : Value} (hl : ∀ b o, l.lookup b = some o → s.heap.get? b = some o ∧ H b = none ∧ b ∉ frs outer) (hQ : ∀ v H2, Q' v H2 → (∀ b o, l.lookup b = some o → H2 b = some (pinO b o)) ∧ Q v (remp H2 l)) (c : CE outer P w (addp H l) s Q' u s') : CE outer P w H s Q u s' := by
  obtain ⟨v, H2, os, bare, un, ok, r, q⟩ := c
  obtain ⟨hp, q2⟩ := hQ v H2 q
  exact ⟨v, remp H2 l, os, bare, un_rem un hl ok hp, hok_rem ok hp, r, q2⟩
theorem ce_add {Q : VK} {u : Value} (e0 : Env0 P w K mg base A outer s H) (hl : ∀ b o, l.lookup b = some o → H b = some (pinO b o)) (c : CE outer P w (remp H l) s (fun v H2 => (∀ b o, l.lookup b = some o → H2 b = none) → Q v (addp H2 l)) u s') : CE outer P w H s Q u s' := by
  obtain ⟨v, H2, os, bare, un, ok, r, q⟩ := c
  have hl2 : ∀ b o, l.lookup b = some o → H b = some (pinO b o) ∧ b ∉ frs outer := fun b o z => ⟨hl b o z, fun hb => by
    have y := e0.frf b hb
    rw [hl b o z] at y
    cases y⟩
  have k := un_pins un e0.hok hl2
  exact ⟨v, addp H2 l, os, bare, un_add un hl, hok_add ok k, r, q fun b o z => (k b o z).2⟩
theorem cx_add {E : XK} {u : Value} (e0 : Env0 P w K mg base A outer s H) (hl : ∀ b o, l.lookup b = some o → H b = some (pinO b o)) (c : L2.CX P w outer (remp H l) s (fun cls d H2 => (∀ b o, l.lookup b = some o → H2 b = none) → E cls d (addp H2 l)) u s') : L2.CX P w outer H s E u s' := by
  obtain ⟨a, B, H2, cls, d, eu, fl, ok, ub, na, os, bare, q⟩ := c
  have hl2 : ∀ b o, l.lookup b = some o → s.heap.get? b = some o ∧ b ∉ frs outer := fun b o z => ⟨pin_at e0.hok (hl b o z), fun hb => by
    have y := e0.frf b hb
    rw [hl b o z] at y
    cases y⟩
  have kB : ∀ b o, l.lookup b = some o → B.get? b = some o ∧ H2 b = none := fun b o z => ⟨ub.keep b o (hl2 b o z).1 (remp_in z) (hl2 b o z).2, ub.free b o (hl2 b o z).1 (remp_in z)⟩
  have no : ∀ {b : Addr}, H b = none → l.lookup b = none := fun {b} n => by
    cases q : l.lookup b with
    | none => rfl
    | some o =>
      rw [hl b o q] at n
      cases n
  have no2 : ∀ {b : Addr} {v : HO}, H b = some v → (∀ o, v ≠ pinO b o) → l.lookup b = none := fun {b v} e n => by
    cases q : l.lookup b with
    | none => rfl
    | some o =>
      rw [hl b o q] at e
      exact absurd (Option.some.inj e).symm (n o)
  have nal : l.lookup a = none := by
    cases z : l.lookup a with
    | none => rfl
    | some o =>
      have e := (kB a o z).1
      have e2 := fl.2.1
      rw [e] at e2
      cases e2
  refine ⟨a, B, addp H2 l, cls, d, eu, fl, hok_add ok kB, ?_, by rw [addp_out nal]; exact na, os, bare, q fun b o z => (kB b o z).2⟩
  exact {
    keep := fun b o e n hf => ub.keep b o e (by rw [remp_out (no n)]; exact n) hf
    slot := ub.slot
    free := fun b o e n => by rw [addp_out (no n)]; exact ub.free b o e (by rw [remp_out (no n)]; exact n)
    there := ub.there
    tups := fun b xs e => by
      have z := no2 e fun o y => pin_tup y.symm
      rw [addp_out z]
      exact ub.tups b xs (by rw [remp_out z]; exact e)
    frzs := fun b o v e => by
      have z := no2 e fun ob y => pin_frz y.symm
      rw [addp_out z]
      exact ub.frzs b o v (by rw [remp_out z]; exact e)
    tbls := fun b ps e => by
      have z := no2 e fun o y => pin_tbl y.symm
      obtain ⟨m, y⟩ := ub.tbls b ps (by rw [remp_out z]; exact e)
      exact ⟨m, by rw [addp_out z]; exact y⟩ }
end
end Ag

namespace Ag
open PySem PySem.Spec PyProof.Rows L2
/-! ### a def that raises nothing, called where an exception p is handled -/
abbrev SpP := (Addr × Obj) → Sp
structure FnS (P : Program) (w : World) (K : PySem.W.Frag) (mg : Str → Option Value) (base : Heap) (k : Nat) (f : Addr) (fd : FuncData) (ps : List Str) (sp : SpP) : Prop where
  len : ∀ p vs H Q, sp p vs H Q L2.E0 → vs.length = ps.length
  run : ∀ (A : Around) (outer : List Env) (s : Shared) (H : Hp) (args : Args) (us : List Value) (vs : List V) (Q : VK) (p : Addr × Obj), L2H.RoomH k A → L2H.PinOk outer H s p → Env0 P w K mg base A outer s H → BindsTo s fd args (ps.zip us) → Vals vs us → sp p vs H Q L2.E0 →
    codeAny (model P w) A (.call (.ref f) args) (CR L2.CX0 outer P w H s Q L2.E0) s
section
variable {P : Program} {w : World} {K : PySem.W.Frag} {mg : Str → Option Value} {base : Heap}
theorem okS {x qual : Str} {st : Stmt} {f : Addr} {fd : FuncData} {N ps : List Str} {k : Nat} {sp : SpP} (F : Fun K x qual st f fd) (sc : FnScope N ps (defScope st)) (len : ∀ p vs H Q, sp p vs H Q L2.E0 → vs.length = ps.length)
    (body : ∀ (cdv : Value) (A : Around) (outer : List Env) (s : Shared) (H : Hp) (vs : List V) (Q : VK) (p : Addr × Obj), L2H.RoomH k (A.deeper (envOfC qual (defScope st) s.heap.objs.size f cdv)) → sp p vs H Q L2.E0 →
      ∃ t, PSs (L2H.cxH L2.CX0 P w K mg base N qual (defScope st) f cdv A outer s H L2.E0 p).nox (defBody st) t ∧ t { nx := fun _ H' => Q .non H', rt := Q } (L2.start N vs) H) : FnS P w K mg base (k + 1) f fd ps sp := by
  obtain ⟨oc, od, kV, doc, pm, an, cdv, ct, osl, rfl, look, code⟩ := F.ex
  refine ⟨len, fun A outer s H args us vs Q p room pin e0 bs rv hsp => ?_⟩
  have inK : K.In s.heap := e0.mod.kin.keeps fun c oo z => (e0.bs c oo z).1
  have nolim : s.heap.NoLimit := e0.mod.nolimit.keeps fun c oo z => (e0.bs c oo z).1
  have kinds : ∀ y ∈ ps.zip us, (defScope st).names.lookup y.1 = some .local ∨ ((defScope st).names.lookup y.1 = some .cell ∧ ((cellsFrom (s.heap.objs.size + 1) (defScope st).names []).lookup y.1).isSome = true) := by
    rintro ⟨n, v⟩ hy
    exact (sc.par n (List.of_mem_zip hy).1).imp id fun q => ⟨q, PySem.W.cellsFrom_some _ _ _ (.inl q)⟩
  refine codeAny_call_function room.depth (inK _ _ look) rfl sc.co sc.gen rfl (PySem.W.codeRec_of inK code) (bs _ _ _ _ ?_)
  refine wpAny_newFunctionEnv_cells sc.kind kinds fun env he s1 ic => ?_
  subst he
  refine ⟨nolim.keeps ic.toInCall.keep, codeAny_func ?_⟩
  obtain ⟨t, ht, ht2⟩ := body cdv A outer s H vs Q p (room.deeper _) hsp
  have J := L2H.inv_startH (CX := L2.CX0) (E := L2.E0) sc pin e0 (len _ _ _ _ hsp) rv ic
  refine wpAny_mono (ht.nox.run [] s1 (L2.start N vs) H _ J ht2) (fun fl s' z => ?_) fun _ _ z => z
  cases fl with
  | ret u =>
    obtain ⟨v, σ2, H2, J2, r2, q2⟩ := z
    exact ⟨v, H2, J2.os, J2.bare, J2.base, J2.hok, r2, q2⟩
  | next =>
    obtain ⟨σ2, H2, J2, q2⟩ := z
    exact ⟨.non, H2, J2.os, J2.bare, J2.base, J2.hok, rfl, q2⟩
  | brk => exact z.choose_spec.choose_spec.2.elim
  | cont => exact z.choose_spec.choose_spec.2.elim
end
section
variable {X : Cx}
theorem pe_callP {k : Nat} {f : Addr} {fd : FuncData} {ps : List Str} {sp : SpP} {x : Str} {n pos : Pos} {e : Expr} {es : List Expr} {t : TA} {p : Addr × Obj} (F : FnS X.prog X.w X.K X.mg X.base k f fd ps sp) (room : L2H.RoomH k X.A) (hp : p ∈ X.pn) (hg : Gl X x)
    (hm : X.mg x = some (.ref f)) (kp : PySem.W.keepIn X.K (.ref f) = true) (bi : Binds X.K fd ps []) (ha : PA X (e :: es) t) (hdb : (x == ("__debug__" : Str)) = false := by decide)
    (h1 : starEach (e :: es) X.env = (false, eval e X.env) :: starEach es X.env := by rfl) (h2 : (backTo pos (starEach es X.env)).any (·.1) = false := by rfl) :
    PE X (.Call (.Name x n) (e :: es) [] pos) (fun σ H Q => t σ H fun vs H1 => sp p vs H1 Q L2.E0) := by
  refine ⟨fun pins s σ H Q I h => wpAny_Call_Name_kw (ld_glob I hg hm ?_ hdb)⟩
  refine PySem.W.callWith_K (h₀ := X.base) I.ok.mod.kin kp (thn (ha.run pos pins s σ H _ I h) fun us s1 ⟨vs, H1, J, rv, hsp⟩ => ⟨J.kIn, ?_⟩) h1 h2
  have hl : us.length = ps.length := (Vals.length rv).symm.trans (F.len _ _ _ _ hsp)
  have b := bi s1 us J.kIn (by rw [List.append_nil]; exact hl)
  rw [List.append_nil] at b
  obtain ⟨g1, g2, g3, g4, g5⟩ := J.pin p (List.mem_append_left _ hp)
  have pk : L2H.PinOk X.stack H1 s1 p := ⟨g1, g2, fun hm => by
    rcases List.mem_cons.mp (J.stkSub p.1 hm) with z | z
    · exact g3 z
    · exact g4 z, g5⟩
  refine wpAny_call (codeAny_mono (F.run X.A X.stack s1 H1 ⟨us, []⟩ us vs Q p room pk J.env0 b rv hsp) fun r s2 z => ?_)
  match r, z with
  | .ok (.ret u), z => exact J.after z
/-- a field of the exception whose object is known -/
def tXfE (K : PySem.W.Frag) (a : Addr) (cls : Value) (d : Option Addr) (n : Str) (te : TE) : TE := fun σ H Q => te σ H fun x H1 => x = .ref a ∧ ∃ (C dd : Addr) (fs : List (Str × V)) (v : V), cls = .ref C ∧ XfC K C ∧ PySem.W.findIn K (.ref C) n = some none ∧ d = some dd ∧ H1 dd = some (.xd fs) ∧ fs.lookup n = some v ∧ Q v H1
theorem pe_xfP {a : Addr} {oe : Obj} {cls : Value} {d : Option Addr} {e : Expr} {te : TE} {pos : Pos} {n : Str} (hz : Zc cls d oe) (hf : ∃ vs, oe.data = .fields vs) (hp : (a, oe) ∈ X.pn) (he : PE X e te) (hb : attributeBase e n X.env (eval e X.env) = eval e X.env := by rfl) :
    PE X (.Attribute e n pos) (tXfE X.K a cls d n te) := by
  refine ⟨fun pins s σ H Q I h => attr_of hb (thn (he.run pins s σ H _ I h) ?_)⟩
  rintro u s1 ⟨x, H1, J, rx, rfl, C, dd, fs, v, rfl, T, hno, rfl, hd, hl, q⟩
  obtain rfl : u = Value.ref a := rx
  obtain ⟨vs, hv⟩ := hf
  obtain ⟨mA, hn, hr⟩ : ObjOk X.prog X.w H1 s1.heap dd (.xd fs) := J.hok dd _ hd
  obtain ⟨od, ho, hk⟩ := lookIn_ns hn
  obtain ⟨u, hu, ru⟩ := RelO.some_of (v := v) (o := mA n) (by rw [← hl]; exact hr n)
  have at_ : PySem.W.InstAt s1.heap a oe C (some od) := ⟨(J.pin (a, oe) (List.mem_append_left _ hp)).1, hz.1, by
    unfold PySem.W.notCls
    rw [hv], by rw [hz.2]; exact ho⟩
  exact HandSPX.exc_get J.kIn at_ T.ga T.gg T.exC (PySem.W.findObj_own T.hdC hno rfl (by rw [hk, hu])) (handed_of ru) ⟨v, H1, J.tok _, ru, q⟩
end
/-- an object that is new since the entry is known from now on -/
theorem inv_track {X : Cx} {pins : List (Addr × Obj)} {σ : L2.St} {H : Hp} {s : Shared} {a : Addr} {o : HO} (I : Inv X pins σ H s) (hn : H a = none) (sz : X.s_0.heap.objs.size ≤ a) (nL : a ≠ X.env.locals) (nC : ∀ x c, X.env.cells.lookup x = some c → c ≠ a)
    (nP : ∀ p ∈ X.pn ++ pins, p.1 ≠ a) (new : ObjOk X.prog X.w (upd H a o) s.heap a o) : Inv X pins σ (upd H a o) s := by
  have old : ∀ {b ob}, X.s_0.heap.get? b = some ob → b ≠ a := fun e => Nat.ne_of_lt (Nat.lt_of_lt_of_le (Heap.lt_size e) sz)
  have up : ∀ {b v}, H b = some v → upd H a o b = some v := fun e => by
    rw [upd_ne (ne_of_none e hn)]
    exact e
  exact ⟨I.ok, I.os, I.bare, ⟨I.base.keep, I.base.slot, fun b ob e n hx => by
      rw [upd_ne (old e)]
      exact I.base.free b ob e n hx, I.base.there, fun b xs e => up (I.base.tups b xs e), fun b ob u e => up (I.base.frzs b ob u e), fun b ps e => by
      obtain ⟨m, z⟩ := I.base.tbls b ps e
      exact ⟨m, up z⟩⟩,
    I.loc, I.cell, by
      rw [upd_ne nL.symm]
      exact I.free, fun x c e => by
      rw [upd_ne (nC x c e)]
      exact I.freeC x c e, fun p hp => by
      obtain ⟨e1, e2, e3⟩ := I.pin p hp
      exact ⟨e1, by
        rw [upd_ne (nP p hp)]
        exact e2, e3⟩, fun b u e => by
      by_cases hb : b = a
      · subst hb
        rw [upd_same] at e
        cases e
        exact new
      · rw [upd_ne hb] at e
        exact (I.hok b u e).stay (fun _ _ _ z => z) (fun c z => up z) fun c xs z => up z, I.len⟩
/-! ### an exception in flight stays so where objects are only added -/
theorem fly_keep {B : Heap} {l : List Env} {a : Addr} {Z : Obj → Prop} {h h' : Heap} (k : ∀ b o, h.get? b = some o → h'.get? b = some o) (f : HandSPX.FlyingZ B l a Z h) : HandSPX.FlyingZ B l a Z h' := by
  obtain ⟨f1, f2, f3, oe, vs, T, oT, ts, t1, t2, t3, t4, t5, t6, t7, t8, t9⟩ := f
  exact ⟨fun b o e => k b o (f1 b o e), f2, Heap.FunFrames.of_keeps (fun b o e _ => ⟨o, k b o e, rfl⟩) f3, oe, vs, T, oT, ts, k _ _ t1, t2, t3, t4, t5, t6, k _ _ t7, t8, t9⟩
theorem fly_there {B : Heap} {l : List Env} {a : Addr} {Z : Obj → Prop} {h : Heap} (f : HandSPX.FlyingZ B l a Z h) : ∃ oe vs, h.get? a = some oe ∧ Z oe ∧ oe.data = .fields vs := by
  obtain ⟨_, _, _, oe, vs, T, oT, ts, t1, t2, t3, _⟩ := f
  exact ⟨oe, vs, t1, t2, t3⟩
/-! ### try: body, except (x1, x2, x3) as n: suite; each exception of the body is one of these -/
def wTry3 (K : PySem.W.Frag) (c1 c2 c3 : Addr) (i : Nat) (ts : Addr → Obj → Value → Option Addr → TS) (D : Ends) : WX := fun cls d σ H =>
  PySem.W.exmAny K cls [.ref c1, .ref c2, .ref c3] = some true ∧ ∀ a oe tp, Zc cls d oe → (∃ vs, oe.data = .fields vs) → H a = none → H tp = none → tp ≠ a → ts a oe cls d { nx := fun σ' H' => D.nx (σ'.set i none) H', rt := D.rt, bk := fun σ' H' => D.bk (σ'.set i none) H', ct := fun σ' H' => D.ct (σ'.set i none) H' } (σ.set i (some (.ref a))) (upd H tp (.tup [.ref c1, .ref c2, .ref c3]))
section
variable {X : Cx} {x1 x2 x3 n : Str} {c1 c2 c3 : Addr} {i : Nat} {body suite : List Stmt} {b₀ : Stmt} {p1 p2 p3 pT pos pos' : Pos} {kT} {tb : WX → TS} {ts : Addr → Obj → Value → Option Addr → TS}
theorem tup3_at {a : Addr} {oe : Obj} {pn : List (Addr × Obj)} {σ : L2.St} {H : Hp} {s : Shared} {Q : Value → Shared → Prop} (I : Inv (X.suite a ((a, oe) :: pn)) [] σ H s) (g1 : Gl X x1) (m1 : X.mg x1 = some (.ref c1)) (g2 : Gl X x2) (m2 : X.mg x2 = some (.ref c2)) (g3 : Gl X x3) (m3 : X.mg x3 = some (.ref c3))
    (d1 : (x1 == ("__debug__" : Str)) = false) (d2 : (x2 == ("__debug__" : Str)) = false) (d3 : (x3 == ("__debug__" : Str)) = false)
    (q : ∀ s2 : Shared, s2 = { s with heap := s.heap.push { cls := .type "tuple", data := .seq [Value.ref c1, .ref c2, .ref c3].toArray }, toks := s2.toks } → H s.heap.objs.size = none → Inv (X.suite a ((a, oe) :: pn)) [] σ (upd H s.heap.objs.size (.tup [.ref c1, .ref c2, .ref c3])) s2 → Q (.ref s.heap.objs.size) s2)
    {E : Value → Shared → Prop} : wpAny (model X.prog X.w) (X.A.mark (some (.ref a))) (eval (.Tuple [.Name x1 p1, .Name x2 p2, .Name x3 p3] kT pT) X.env) Q E s := by
  have fresh : H s.heap.objs.size = none := I.hok.fresh (Nat.le_refl _)
  refine wpAny_Tuple_spliced ?_
  refine Calls.spliced_cons (ld_glob (X := X.suite a ((a, oe) :: pn)) I g1 m1 ?_ d1)
  refine Calls.spliced_cons (ld_glob (X := X.suite a ((a, oe) :: pn)) (I.tok _) g2 m2 ?_ d2)
  refine Calls.spliced_cons (ld_glob (X := X.suite a ((a, oe) :: pn)) (I.tok _) g3 m3 ?_ d3)
  refine Calls.spliced_nil ⟨(by show 3 ≤ sizeLine; decide), ?_⟩
  refine q _ rfl fresh ?_
  exact I.laid (t' := s.toks) (fun b u e => Heap.get?_push_of_some _ e) (Nat.le_refl _) ⟨(by show 3 ≤ sizeLine; decide), [.ref c1, .ref c2, .ref c3], .cons rfl (.cons rfl (.cons rfl .nil)), ⟨_, Heap.get?_push_size _ rfl, rfl, _, rfl⟩⟩
theorem ps_try3 (stk : X.stack = X.env :: X.outer) (fr : X.env.frame = some X.env.locals) (nd : X.N.Nodup) (hi : X.N[i]? = some n) (hn : X.env.kindOf n = some .local) (g1 : Gl X x1) (m1 : X.mg x1 = some (.ref c1)) (g2 : Gl X x2) (m2 : X.mg x2 = some (.ref c2)) (g3 : Gl X x3) (m3 : X.mg x3 = some (.ref c3))
    (bd : ∀ (W : WX) (pn : List (Addr × Obj)) (xe : Value → Shared → Prop), Takes (X.tr pn xe) W → PassesOwn (model X.prog X.w) X.A X.env xe → PSs (X.tr pn xe) body (tb W))
    (su : ∀ (a : Addr) (oe : Obj) (cls : Value) (d : Option Addr) (pn : List (Addr × Obj)), Zc cls d oe → (∃ vs, oe.data = .fields vs) → PSs (X.suite a ((a, oe) :: pn)) (b₀ :: suite) (ts a oe cls d))
    (d1 : (x1 == ("__debug__" : Str)) = false := by decide) (d2 : (x2 == ("__debug__" : Str)) = false := by decide) (d3 : (x3 == ("__debug__" : Str)) = false := by decide) :
    PS X (.Try body [.ExceptHandler (some (.Tuple [.Name x1 p1, .Name x2 p2, .Name x3 p3] kT pT)) (some n) (b₀ :: suite) pos'] [] [] pos) (fun D σ H => tb (wTry3 X.K c1 c2 c3 i ts D) D σ H) := by
  refine ⟨fun pins s σ H D I hbody => wpAny_Try_except ?_⟩
  have ok := I.ok
  have af : X.A.frames = some (X.env :: X.outer) := ok.frames.trans (congrArg some stk)
  have catch_ : ∀ (u : Value) (s' : Shared), XE (X.tr (X.pn ++ pins) X.xe) (wTry3 X.K c1 c2 c3 i ts D) u s' → wpAny (model X.prog X.w) X.A (noteFrame u X.env) (fun _ t2 => wpAny (model X.prog X.w) X.A (setFlight u none) (fun _ t3 =>
      wpAny (model X.prog X.w) X.A (handleBy u X.env [.ExceptHandler (some (.Tuple [.Name x1 p1, .Name x2 p2, .Name x3 p3] kT pT)) (some n) (b₀ :: suite) pos']) (SP X pins D) X.xe t3) X.xe t2) X.xe s' := by
    rintro u s' ⟨a, B, sI, pins2, σ2, H2, cls, d, rfl, J0, nb, up, sky, na, os, ag, hx, q⟩
    have J : Inv X pins σ2 H2 sI := J0.ofTry (xe := X.xe) ok
    have sky2 : Sky B (X.env :: X.outer) a (Zc cls d) X.env.locals s'.heap := stk ▸ sky
    refine Sky.land Zc.steady af fr sky2 fun h3 fl3 up3 => ?_
    obtain ⟨oe, vs, ha, hz, hv⟩ := fly_there fl3
    have J3 : Inv X pins σ2 H2 { s' with heap := h3 } := J.landed nb fl3.1 (up.trans up3) os ag
    have off : ∀ {h : Heap} {o : Obj} {us : Array Value}, HandSPX.FlyingZ B (X.env :: X.outer) a (Zc cls d) h → h.get? a = some o → o.data = .fields us → a ≠ X.env.locals ∧ a ∉ X.fs := fun {h o us} f e dd => by
      have no : a ∉ frs (X.env :: X.outer) := fun hm => by
        obtain ⟨_, o2, e2, z⟩ := f.2.2.1.mem hm
        rw [e] at e2
        cases e2
        exact z _ dd
      refine ⟨fun z => no (List.mem_filterMap.mpr ⟨X.env, List.mem_cons_self, by rw [fr, z]⟩), fun hm => ?_⟩
      obtain ⟨e1, he, qq⟩ := List.mem_filterMap.mp hm
      exact no (List.mem_filterMap.mpr ⟨e1, List.mem_cons_of_mem _ he, qq⟩)
    have o3 := off fl3 ha hv
    have S3 := J3.suite ha hv na o3.1 o3.2
    refine wpAny_handleBy_cons (codeAny_handlers_test ?_) (fun z => by cases z)
    refine tup3_at S3 g1 m1 g2 m2 g3 m3 d1 d2 d3 fun s4 e4 fr4 S4 => ?_
    have e4h : s4.heap = h3.push { cls := .type "tuple", data := .seq [Value.ref c1, .ref c2, .ref c3].toArray } := by rw [e4]
    have e4g : s4.gens = s'.gens := by rw [e4]
    have e4o : s4.os = s'.os := by rw [e4]
    have kp : ∀ b o, h3.get? b = some o → s4.heap.get? b = some o := fun b o z => by
      rw [e4h]
      exact Heap.get?_push_of_some _ z
    have fl4 := fly_keep kp fl3
    have ha4 := kp _ _ ha
    have J4 : Inv X pins σ2 (upd H2 h3.objs.size (.tup [.ref c1, .ref c2, .ref c3])) s4 := S4.unsuite ok
    have look : PySem.W.Looks (model X.prog X.w) s4.heap (typeOf (.ref a)) cls := fun A Q E s k z => wpAny_typeOf_ref (k _ _ ha4) (by rw [hz.1]; exact z)
    have tp : s4.heap.get? h3.objs.size = some { cls := .type "tuple", data := .seq [Value.ref c1, .ref c2, .ref c3].toArray } := by
      rw [e4h]
      exact Heap.get?_push_size _ rfl
    refine (PySem.W.exm_tup3 (M := model X.prog X.w) J4.kIn look tp hx).here ?_
    refine codeAny_handlers_suite_as ?_
    refine HandSPX.lands_againZ fl4 fun h5 fl5 up5 => ?_
    obtain ⟨oe5, vs5, ha5, hz5, hv5⟩ := fly_there fl5
    have o5 := off fl5 ha5 hv5
    have nat : a ≠ h3.objs.size := Nat.ne_of_lt (Heap.lt_size ha)
    have na4 : upd H2 h3.objs.size (.tup [.ref c1, .ref c2, .ref c3]) a = none := by
      rw [upd_ne nat]
      exact na
    have J5 : Inv X pins σ2 (upd H2 h3.objs.size (.tup [.ref c1, .ref c2, .ref c3])) { s4 with heap := h5 } := by
      have J' : Inv X pins σ2 H2 { s4 with heap := h5 } := J.landed nb fl5.1 (((up.trans up3).trans fun b o z _ => ⟨o.slots, kp b o z⟩).trans up5) (e4o.trans os) (e4g ▸ ag)
      have sz3 : ∀ {b o}, h3.get? b = some o → b ≠ h3.objs.size := fun z => Nat.ne_of_lt (Heap.lt_size z)
      refine inv_track J' fr4 J3.sz (Nat.ne_of_gt J3.lt) (fun x c z => ?_) (fun p hp => sz3 (J3.pin p hp).1) ?_
      · obtain ⟨v, o, z2, _⟩ := J3.cell x c z
        exact sz3 z2
      · obtain ⟨sl, z⟩ := up5 _ _ tp (by intro vs y; cases y)
        exact ⟨(by show 3 ≤ sizeLine; decide), [.ref c1, .ref c2, .ref c3], .cons rfl (.cons rfl (.cons rfl .nil)), ⟨_, z, rfl, _, rfl⟩⟩
    have S5 := J5.suite ha5 hv5 na4 o5.1 o5.2
    have cl : Loc X.env.scope n := .inl hn
    refine store_ok (X := X.suite a ((a, oe5) :: (X.pn ++ pins))) (v := .ref a) S5 nd hi cl rfl (fun s6 S6 => ?_) (.inr hn)
    have fin : ∀ {σ6 : L2.St} {H6 : Hp} {R : Shared → Prop} {s7 : Shared}, Inv (X.suite a ((a, oe5) :: (X.pn ++ pins))) [] σ6 H6 s7 → (∀ s8, Inv X pins (σ6.set i none) H6 s8 → R s8) →
        wpAny (model X.prog X.w) X.A (do bindName X.env n .none; unbindBehindTheSuite X.env n pos') (fun _ s8 => R s8) X.xe s7 := fun S7 hR => gone_ok (S7.unsuite ok) nd hi hn hR
    refine wpAny_mono ((su a oe5 cls d (X.pn ++ pins) hz5 ⟨_, hv5⟩).run [] s6 _ _ _ S6 (q a oe5 h3.objs.size hz5 ⟨_, hv5⟩ na fr4 nat.symm)) (fun f s7 z => ?_) (fun _ _ z => z.elim)
    cases f with
    | next => exact fin z.choose_spec.choose_spec.1 fun s8 J8 => ⟨_, _, J8, z.choose_spec.choose_spec.2⟩
    | brk => exact fin z.choose_spec.choose_spec.1 fun s8 J8 => ⟨_, _, J8, z.choose_spec.choose_spec.2⟩
    | cont => exact fin z.choose_spec.choose_spec.1 fun s8 J8 => ⟨_, _, J8, z.choose_spec.choose_spec.2⟩
    | ret u =>
      obtain ⟨v7, σ7, H7, S7, r7, q7⟩ := z
      exact fin S7 fun s8 J8 => ⟨_, _, _, J8, r7, q7⟩
  refine wpAny_mono ((bd (wTry3 X.K c1 c2 c3 i ts D) (X.pn ++ pins) _ (fun u s' xx => catch_ u s' ?_) PassesOwn.looking).run [] s σ H D (I.toTry _) hbody) (fun f s1 z => ?_) (fun e s1 z => z)
  · obtain ⟨a, B, sI, pins2, σ2, H2, cls, d, e1, J0, r⟩ := xx
    exact ⟨a, B, sI, [], σ2, H2, cls, d, e1, (J0.ofTry ok).toTry _, r⟩
  · cases f with
    | next =>
      obtain ⟨σ2, H2, J, q⟩ := z
      exact wpAny_execs_nil ⟨σ2, H2, J.ofTry ok, q⟩
    | brk =>
      obtain ⟨σ2, H2, J, q⟩ := z
      exact ⟨σ2, H2, J.ofTry ok, q⟩
    | cont =>
      obtain ⟨σ2, H2, J, q⟩ := z
      exact ⟨σ2, H2, J.ofTry ok, q⟩
    | ret u =>
      obtain ⟨v, σ2, H2, J, r, q⟩ := z
      exact ⟨v, σ2, H2, J.ofTry ok, r, q⟩
end
end Ag

namespace Ag
open PySem PySem.Spec PyProof.Rows L2
/-! ### lambdas as values: without parameters, or with one that has a written default -/
/-- all but lists and tables of code objects stays -/
def Fx (H H' : Hp) : Prop := ∀ c o, H c = some o → (∀ xs, o ≠ .lst xs) → (∀ ps, o ≠ .tbl ps) → H' c = some o
theorem Fx.refl (H : Hp) : Fx H H := fun _ _ e _ _ => e
theorem Fx.trans {H H1 H2 : Hp} (a : Fx H H1) (b : Fx H1 H2) : Fx H H2 := fun c o e n1 n2 => b c o (a c o e n1 n2) n1 n2
theorem Fx.of {H H' : Hp} (s : Same H H') : Fx H H' := fun c o e _ _ => s c o e
theorem Fx.kpL {b : Addr} {xs : List V} {H H' : Hp} (k : Kp b H H') (h : H b = some (.lst xs)) : Fx H H' := fun c o e n1 _ => k c o e fun z => by
  subst z
  rw [h] at e
  exact n1 xs (Option.some.inj e).symm
theorem Fx.kpT {b : Addr} {ps : Array Value} {H H' : Hp} (k : Kp b H H') (h : H b = some (.tbl ps)) : Fx H H' := fun c o e _ n2 => k c o e fun z => by
  subst z
  rw [h] at e
  exact n2 ps (Option.some.inj e).symm
theorem pin_lst {a : Addr} {o : Obj} {xs : List V} : pinO a o ≠ .lst xs := fun z => by
  unfold pinO at z
  cases z
theorem code_lst {c : Addr} {q : Str} {xs : List V} : LamX.CodeO c q ≠ .lst xs := fun z => by
  unfold LamX.CodeO at z
  cases z
structure LamAt (H : Hp) (f : Addr) (q : Str) (params : Arguments) (body : Expr) (scope : Scope) (cl : List (Str × Addr)) (dvs : List V) : Prop where
  ex : ∃ (dV doc pm ctv : Value) (c' : Addr), H f = some (pinO f (PySem.W.kdv_obj "<lambda>" q params (.expr body) scope cl dV doc pm c' ctv)) ∧ H c' = some (LamX.CodeO c' q) ∧ ((dvs = [] ∧ dV = .none) ∨ ∃ t, dvs ≠ [] ∧ dV = .ref t ∧ H t = some (.tup dvs))
theorem LamAt.fx {H H' : Hp} {f : Addr} {q : Str} {params : Arguments} {body : Expr} {scope : Scope} {cl : List (Str × Addr)} {dvs : List V} (L : LamAt H f q params body scope cl dvs) (k : Fx H H') : LamAt H' f q params body scope cl dvs := by
  obtain ⟨dV, doc, pm, ctv, c', h1, h2, h3⟩ := L.ex
  refine ⟨dV, doc, pm, ctv, c', k _ _ h1 (fun _ => pin_lst) (fun _ => pin_tbl), k _ _ h2 (fun _ => code_lst) LamX.codeO_ne, h3.imp id ?_⟩
  rintro ⟨t, e0, e, ht⟩
  exact ⟨t, e0, e, k _ _ ht (fun _ z => by cases z) (fun _ z => by cases z)⟩
theorem tabS_fx {H H' : Hp} {P : Addr} {q : Str} {ps : Array Value} (t : LamX.TabS H P q) (k : Fx H H') (e : ∀ ps, H P = some (.tbl ps) → H' P = some (.tbl ps)) : LamX.TabS H' P q := by
  obtain ⟨ps, h1, h2, h3⟩ := t
  refine ⟨ps, e _ h1, h2, fun pos cv hc => ?_⟩
  obtain ⟨c, e1, e2⟩ := h3 pos cv hc
  exact ⟨c, e1, k _ _ e2 (fun _ => code_lst) LamX.codeO_ne⟩
theorem tabS_kp {H H' : Hp} {b P : Addr} {q : Str} {xs : List V} (t : LamX.TabS H P q) (k : Kp b H H') (h : H b = some (.lst xs)) : LamX.TabS H' P q :=
  tabS_fx (ps := #[]) t (.kpL k h) fun ps e => k _ _ e fun z => by
    subst z
    rw [h] at e
    cases e
section
variable {X : Cx} {pins : List (Addr × Obj)} {σ : L2.St} {H : Hp} {s : Shared} {c P : Addr} {params : Arguments} {body : Expr} {scope : Scope} {pos : Pos} {line : Nat} {dvs : List V} {dV : Value} {Q : Value → Shared → Prop} {E : Value → Shared → Prop} {M : Model} {A : Around}
theorem lam_put (I : Inv X pins σ H s) (TB : LamX.TabB X.base X.mg c P) (hcode : X.env.code = .ref c) (T : LamX.TabS H P (X.env.qual ++ "<lambda>")) (hfree : ∀ y ∈ scope.names, y.2 = .free → ∃ c, X.env.cells.lookup y.1 = some c)
    (hd : (dvs = [] ∧ dV = .none) ∨ ∃ t, dvs ≠ [] ∧ dV = .ref t ∧ H t = some (.tup dvs))
    (h : ∀ (f : Addr) (H1 : Hp) (s' : Shared), Inv X pins σ H1 s' → Kp P H H1 → LamX.TabS H1 P (X.env.qual ++ "<lambda>") → H f = none → LamAt H1 f (X.env.qual ++ "<lambda>") params body scope (cloFrom X.env.cells scope.names []) dvs → Q (.ref f) s') :
    wpAny M A (makeTail "<lambda>" (X.env.qual ++ "<lambda>") params (.expr body) scope X.env dV .none none pos line) Q E s := by
  obtain ⟨ps, hP, tr, am⟩ := T
  have bP : s.heap.BuiltinsAt X.mg P := TB.bm.keeps I.bk
  have oP : s.heap.get? P = some { cls := .none, data := .fields ps } := I.hok P _ hP
  have old : ∀ {f : Addr}, s.heap.objs.size ≤ f → X.s_0.heap.objs.size ≤ f ∧ f ≠ X.env.locals ∧ (∀ x c, X.env.cells.lookup x = some c → c ≠ f) ∧ (∀ p ∈ X.pn ++ pins, p.1 ≠ f) ∧ H f = none := fun {f} hf => by
    have lt : ∀ {b o}, s.heap.get? b = some o → b ≠ f := fun z => Nat.ne_of_lt (Nat.lt_of_lt_of_le (Heap.lt_size z) hf)
    refine ⟨Nat.le_trans I.sz hf, Nat.ne_of_gt (Nat.lt_of_lt_of_le I.lt hf), fun x c z => ?_, fun p hp => lt (I.pin p hp).1, I.hok.fresh hf⟩
    obtain ⟨v, o, z2, _⟩ := I.cell x c z
    exact lt z2
  have nfP : ∀ {f : Addr}, s.heap.objs.size ≤ f → f ≠ P := fun hf z => by
    have := (old hf).2.2.2.2
    rw [z, hP] at this
    cases this
  cases hc : codeAmong pos ps.toList with
  | none =>
    refine PySem.W.kdv_makeTail (mg := X.mg) (c := c) (P := P) (ps := ps) (closure_ok hfree) I.ok.glob (I.mod.glob.keeps I.bk) hcode (TB.code.keeps I.bk) oP tr hc TB.gP bP fun c' ctv doc h' tk hx hge hlt hrec htb => ?_
    obtain ⟨c2, oc, vs, t, e2, hoc, hdd, hv⟩ := hrec
    cases e2
    have sz : s.heap.objs.size ≤ h'.objs.size := Nat.le_trans hge (Nat.le_of_lt hlt)
    have fr := I.hok.fresh hge
    have I1 := LamX.inv_table (t' := tk) (q := X.env.qual ++ "<lambda>") (more := #[rawInt pos.line, rawInt pos.col, .ref c']) (h' := h'.push (PySem.W.kdv_obj "<lambda>" (X.env.qual ++ "<lambda>") params (.expr body) scope (cloFrom X.env.cells scope.names []) dV doc ((X.mg "__name__").getD .none) c' ctv)) I hP
      (fun b o hb e => Heap.get?_push_of_some _ (hx b o hb e)) (Heap.get?_push_of_some _ htb) hge ⟨oc, vs, t, Heap.get?_push_of_some _ hoc, hdd, hv⟩
    obtain ⟨o1, o2, o3, o4, o5⟩ := old sz
    have n1 : h'.objs.size ≠ c' := Nat.ne_of_gt hlt
    have n2 := nfP sz
    have nn : upd (upd H P (.tbl (ps ++ #[rawInt pos.line, rawInt pos.col, .ref c']))) c' (LamX.CodeO c' (X.env.qual ++ "<lambda>")) h'.objs.size = none := by
      rw [upd_ne n1, upd_ne n2]
      exact o5
    have I2 := inv_track I1 nn o1 o2 o3 o4 (pin_ok (Heap.get?_push_size _ rfl))
    have hE : Kp P H (upd (upd (upd H P (.tbl (ps ++ #[rawInt pos.line, rawInt pos.col, .ref c']))) c' (LamX.CodeO c' (X.env.qual ++ "<lambda>"))) h'.objs.size (pinO h'.objs.size (PySem.W.kdv_obj "<lambda>" (X.env.qual ++ "<lambda>") params (.expr body) scope (cloFrom X.env.cells scope.names []) dV doc ((X.mg "__name__").getD .none) c' ctv))) := fun b o e n => by
      rw [upd_ne (ne_of_none e o5), upd_ne (ne_of_none e fr), upd_ne n]
      exact e
    have hcO : upd (upd (upd H P (.tbl (ps ++ #[rawInt pos.line, rawInt pos.col, .ref c']))) c' (LamX.CodeO c' (X.env.qual ++ "<lambda>"))) h'.objs.size (pinO h'.objs.size (PySem.W.kdv_obj "<lambda>" (X.env.qual ++ "<lambda>") params (.expr body) scope (cloFrom X.env.cells scope.names []) dV doc ((X.mg "__name__").getD .none) c' ctv)) c' = some (LamX.CodeO c' (X.env.qual ++ "<lambda>")) := by
      rw [upd_ne n1.symm, upd_same]
    have eL : (ps ++ #[rawInt pos.line, rawInt pos.col, .ref c']).toList = ps.toList ++ [rawInt pos.line, rawInt pos.col, .ref c'] := by simp
    refine h _ _ _ I2 hE ⟨_, by rw [upd_ne n2.symm, upd_ne (ne_of_none hP fr), upd_same], by rw [eL]; exact PySem.TriplesOk_snoc _ _ _ _ tr, fun p' cv hcv => ?_⟩ o5 ⟨dV, doc, _, ctv, c', upd_same, hcO, hd.imp id ?_⟩
    · rw [eL] at hcv
      rcases LamX.among_app _ tr hcv with z | z
      · obtain ⟨c0, e1, e2⟩ := am p' cv z
        refine ⟨c0, e1, hE _ _ e2 fun y => ?_⟩
        rw [y, hP] at e2
        exact LamX.codeO_ne _ (Option.some.inj e2).symm
      · exact ⟨c', z, hcO⟩
    · rintro ⟨t, e0, e, ht⟩
      refine ⟨t, e0, e, hE _ _ ht fun y => ?_⟩
      rw [y, hP] at ht
      cases ht
  | some cv =>
    obtain ⟨c', e, hco⟩ := am pos cv hc
    subst e
    refine PySem.W.kdv_makeTailHit (mg := X.mg) (c := c) (P := P) (ps := ps) (closure_ok hfree) I.ok.glob (I.mod.glob.keeps I.bk) hcode (TB.code.keeps I.bk) oP tr hc bP fun ctv doc h' tk hx sz => ?_
    have I1 : Inv X pins σ H { s with heap := h'.push (PySem.W.kdv_obj "<lambda>" (X.env.qual ++ "<lambda>") params (.expr body) scope (cloFrom X.env.cells scope.names []) dV doc ((X.mg "__name__").getD .none) c' ctv), toks := tk } := I.kept fun b o e => Heap.get?_push_of_some _ (hx b o e)
    obtain ⟨o1, o2, o3, o4, o5⟩ := old sz
    have I2 := inv_track I1 o5 o1 o2 o3 o4 (pin_ok (Heap.get?_push_size _ rfl))
    have sm := same_new o5 (pinO h'.objs.size (PySem.W.kdv_obj "<lambda>" (X.env.qual ++ "<lambda>") params (.expr body) scope (cloFrom X.env.cells scope.names []) dV doc ((X.mg "__name__").getD .none) c' ctv))
    refine h _ _ _ I2 (.of sm) (LamX.TabS.ext ⟨ps, hP, tr, am⟩ sm) o5 ⟨dV, doc, _, ctv, c', upd_same, sm _ _ hco, hd.imp id ?_⟩
    rintro ⟨t, e0, e, ht⟩
    exact ⟨t, e0, e, sm _ _ ht⟩
end
/-- a lambda's expression -/
def tLam (X : Cx) (P : Addr) (params : Arguments) (body : Expr) (scope : Scope) (dvs : List V) : TE := fun σ H Q => LamX.TabS H P (X.env.qual ++ "<lambda>") ∧ ∀ (f : Addr) (H1 : Hp), Kp P H H1 → LamX.TabS H1 P (X.env.qual ++ "<lambda>") → H f = none →
  LamAt H1 f (X.env.qual ++ "<lambda>") params body scope (cloFrom X.env.cells scope.names []) dvs → Q (.ref f) H1
section
variable {X : Cx} {c P : Addr} {params : Arguments} {body : Expr} {scope : Scope} {pos : Pos}
theorem pe_lam0 (TB : LamX.TabB X.base X.mg c P) (hcode : X.env.code = .ref c) (hfree : X.Ok → ∀ y ∈ scope.names, y.2 = .free → ∃ c, X.env.cells.lookup y.1 = some c) (hdef : defaultsOf params X.env = ([], []) := by rfl) :
    PE X (.Lambda params body scope pos) (tLam X P params body scope []) := by
  refine ⟨fun pins s σ H Q I h => PySem.W.kla_eval hdef ?_⟩
  rw [makeFunction_eq]
  simp only [List.zip_nil_right, List.filterMap_nil, List.isEmpty_nil, if_true, pure_bind]
  exact lam_put I TB hcode h.1 (hfree I.ok) (.inl ⟨rfl, rfl⟩) fun f H1 s' J k T n L => ⟨.ref f, H1, J, rfl, h.2 f H1 k T n L⟩
theorem pe_lam1 {kk : Nat} {pp : Pos} {z : Int} (TB : LamX.TabB X.base X.mg c P) (hcode : X.env.code = .ref c) (hfree : X.Ok → ∀ y ∈ scope.names, y.2 = .free → ∃ c, X.env.cells.lookup y.1 = some c)
    (hdef : defaultsOf params X.env = ([eval (.Constant (.int z) kk pp) X.env], []) := by rfl) : PE X (.Lambda params body scope pos) (tLam X P params body scope [.int z]) := by
  refine ⟨fun pins s σ H Q I h => ?_⟩
  rw [arm_eval_Lambda, hdef]
  show wpAny _ _ (do let dv ← evalAll [eval (.Constant (.int z) kk pp) X.env]; let kdv ← holding dv (evalAllOpt []); makeFunction "<lambda>" (X.env.qual ++ "<lambda>") params (.expr body) scope X.env dv kdv [] pos pos.line) _ _ s
  refine wpAny_bind (evalAll_cons ?_)
  refine thn ((pe_int (X := X) (i := z)).run pins s σ H (fun v H1 => v = .int z ∧ H1 = H) I ⟨rfl, rfl⟩) fun u s1 ⟨v, H1, I1, rv, ev, eH⟩ => ?_
  subst ev
  subst eH
  refine evalAll_nil (wpAny_bind (wpAny_holding (wpAny_pure ?_)))
  rw [makeFunction_eq]
  simp only [List.zip_nil_right, List.filterMap_nil, List.isEmpty_nil, if_true, pure_bind, List.isEmpty_cons, Bool.false_eq_true, if_false]
  refine wpAny_bind (wpAny_newTextTuple ?_)
  have fr : H1 s1.heap.objs.size = none := I1.hok.fresh (Nat.le_refl _)
  have I2 : Inv X pins σ (upd H1 s1.heap.objs.size (.tup [.int z])) { s1 with heap := s1.heap.push { cls := .type "tuple", data := .seq [u].toArray } } :=
    I1.laid (t' := s1.toks) (fun b w e => Heap.get?_push_of_some _ e) (Nat.le_refl _) ⟨(by show 1 ≤ sizeLine; decide), [u], .cons rv .nil, ⟨_, Heap.get?_push_size _ rfl, rfl, _, rfl⟩⟩
  have sm := same_new fr (.tup [.int z])
  refine lam_put I2 TB hcode (h.1.ext sm) (hfree I.ok) (.inr ⟨_, (fun z => by cases z), rfl, upd_same⟩) fun f H2 s' J k T n L => ⟨.ref f, H2, J, rfl, h.2 f H2 (fun b o e ne => k b o (sm _ _ e) ne) T ?_ L⟩
  cases q : H1 f with
  | none => rfl
  | some o =>
    rw [sm _ _ q] at n
    cases n
end
/-! ### what a value promises that is called without arguments -/
structure Asks (P : Program) (w : World) (K : PySem.W.Frag) (mg : Str → Option Value) (base : Heap) (k : Nat) (f : Addr) (H : Hp) (Q : VK) (E : XK) : Prop where
  fn : ∀ h, HOk P w H h → PySem.W.FnAt f h
  run : ∀ (A : Around) (outer : List Env) (s : Shared), Room k A → Env0 P w K mg base A outer s H → codeAny (model P w) A (.call (.ref f) ⟨[], []⟩) (CR (L2.CX P w) outer P w H s Q E) s
/-- x(): slot i holds such a value; what it raises is wished for -/
theorem pe_ask {X : Cx} {W : WX} {k i : Nat} {x : Str} {p1 p2 : Pos} (room : Room k X.A) (tk : Takes X W) (hN : X.N[i]? = some x) (hv : Vis X.env.scope x) (hd : (x == ("__debug__" : Str)) = false := by decide) (hcd : (x == ("__classdict__" : Str)) = false := by decide) :
    PE X (.Call (.Name x p1) [] [] p2) (fun σ H Q => ∃ f E, σ[i]? = some (some (.ref f)) ∧ Asks X.prog X.w X.K X.mg X.base k f H Q E ∧ ∀ cls d H', E cls d H' → W cls d σ H') := by
  refine ⟨?_⟩
  rintro pins s σ H Q I ⟨f, E, hs, B, hW⟩
  refine wpAny_Call_Name_kw (thn ((pe_var (pos := p1) (i := i) hN hv hd hcd).run pins s σ H (fun v H1 => v = .ref f ∧ H1 = H) I ⟨.ref f, hs, rfl, rfl⟩) fun u s1 ⟨v, H1, I1, r1, ev, eH⟩ => ?_)
  subst ev
  subst eH
  obtain rfl : u = Value.ref f := r1
  refine PySem.W.callWith_F0 (B.fn _ I1.hok) (wpAny_call (codeAny_mono (B.run X.A X.stack s1 room I1.env0) fun r s2 z => ?_))
  match r, z with
  | .ok (.ret u), z => exact I1.after z
  | .error e, z => exact tk _ _ (XE.of_call I1 (fun cls d H' q => hW cls d H' q) z)
/-! ### a lambda's body -/
/-- the context in which it runs: q its qualified name, cl its cells -/
def lamC (P : Program) (w : World) (K : PySem.W.Frag) (mg : Str → Option Value) (base : Heap) (N : List Str) (q : Str) (scope : Scope) (cl : List (Str × Addr)) (f c' : Addr) (A : Around) (outer : List Env) (s : Shared) (H : Hp) (E : XK) : Cx where
  prog := P
  w := w
  K := K
  mg := mg
  base := base
  A := A.deeper (PySem.W.envX q scope s.heap.objs.size f (.ref c') cl)
  N := N
  s_0 := s
  H_0 := H
  env := PySem.W.envX q scope s.heap.objs.size f (.ref c') cl
  outer := outer
  stack := PySem.W.envX q scope s.heap.objs.size f (.ref c') cl :: outer
  ex := []
  fn := fun _ => false
  calm := true
  pn := []
  xe := fun e s' => wpAny (model P w) (A.deeper (PySem.W.envX q scope s.heap.objs.size f (.ref c') cl)) (leaving (PySem.W.envX q scope s.heap.objs.size f (.ref c') cl) e) (fun _ s'' => L2.CX P w outer H s E e s'') (fun e' s'' => L2.CX P w outer H s E e' s'') s'
/-- its names: captured ones, globals, and as its own the parameters ps (which have defaults) -/
structure LamSc (scope : Scope) (ps : List Str) : Prop where
  kind : scope.kind = .function
  co : scope.isCoroutine = false
  gen : scope.isGenerator = false
  own : ∀ y ∈ scope.names, y.2 ≠ .cell ∧ (y.2 = .local → y.1 ∈ ps)
  par : ∀ x ∈ ps, scope.names.lookup x = some .local
/-- the cells stand, each with the value that a name of the slots has -/
structure CellsIn (N : List Str) (σ : L2.St) (scope : Scope) (cl : List (Str × Addr)) (l : Pins) : Prop where
  inj : ∀ x y c, cl.lookup x = some c → cl.lookup y = some c → x = y
  has : ∀ y ∈ scope.names, y.2 = .free → ∃ c, cl.lookup y.1 = some c
  at_ : ∀ x c, cl.lookup x = some c → ∃ o v, l.lookup c = some o ∧ o.data = .cell v
  val : ∀ (i : Nat) (x : Str) (v : V), N[i]? = some x → σ[i]? = some (some v) → scope.names.lookup x = some .free → ∃ c o u, cl.lookup x = some c ∧ l.lookup c = some o ∧ o.data = .cell (some u) ∧ RelV v u
section
variable {P : Program} {w : World} {K : PySem.W.Frag} {mg : Str → Option Value} {base : Heap}
theorem lamC_start {N ps : List Str} {q : Str} {scope : Scope} {cl : List (Str × Addr)} {f c' : Addr} {A : Around} {outer : List Env} {s : Shared} {H : Hp} {E : XK} {h₁ : Heap} {tk : Nat} {l : Pins} {σ : L2.St} {m : Str → Option Value} (L : LamSc scope ps) (e0 : Env0 P w K mg base A outer s H) (hd : A.handled = none)
    (C : CellsIn N σ scope cl l) (nl : ∀ x ∈ N, scope.names.lookup x ≠ some .local) (hl : ∀ b o, l.lookup b = some o → H b = some (pinO b o)) (hns : h₁.Ns s.heap.objs.size m) (kp : ∀ b o, s.heap.get? b = some o → h₁.get? b = some o) (len : σ.length = N.length) :
    Inv (lamC P w K mg base N q scope cl f c' A outer s (remp H l) E) [] σ (remp H l) { s with heap := h₁, toks := tk } := by
  have e1 := env0_rem e0 hl
  have none_ : ∀ b : Addr, b ∉ (lamC P w K mg base N q scope cl f c' A outer s (remp H l) E).ex := fun b z => absurd (show b ∈ ([] : List Addr) from z) (by simp)
  have cellAt : ∀ {x c}, cl.lookup x = some c → ∃ o v, l.lookup c = some o ∧ o.data = .cell v ∧ h₁.get? c = some o := fun {x c} z => by
    obtain ⟨o, v, z1, z2⟩ := C.at_ x c z
    exact ⟨o, v, z1, z2, kp _ _ (pin_at e0.hok (hl c o z1))⟩
  have okX : (lamC P w K mg base N q scope cl f c' A outer s (remp H l) E).Ok := by
    refine ⟨e1.mod, L.kind, rfl, rfl, Nat.le_refl _, C.inj, fun x hx => ?_, fun x c z => (by cases (show false = true from z)), fun _ => hd, Around.frames_deeper e1.frames, .inr ⟨rfl, rfl⟩, fun b z => absurd z (none_ b), e1.bs, e1.bsz, fun b _ _ => none_ b, fun b z => absurd z (none_ b), e1.funs, e1.frf⟩
    have hx2 : scope.names.lookup x = some .cell ∨ scope.names.lookup x = some .free := hx
    rcases hx2 with z | z
    · exact absurd rfl (L.own _ (PySem.mem_of_lookup z)).1
    · exact C.has _ (PySem.mem_of_lookup z) rfl
  refine ⟨okX, rfl, e1.bare, Un.kept kp, ⟨_, hns, fun i x v z1 z2 z3 => ?_⟩, fun x c z => ?_, e1.hok.fresh (Nat.le_refl _), fun x c z => ?_, fun p hp => absurd (show p ∈ ([] : List (Addr × Obj)) from hp) (by simp), e1.hok.kept kp, len⟩
  · have z3' : scope.names.lookup x = some .local ∨ scope.names.lookup x = some .cell ∨ scope.names.lookup x = some .free := z3
    rcases z3' with z | z | z
    · exact absurd z (nl x (List.mem_of_getElem? z1))
    · exact absurd rfl (L.own _ (PySem.mem_of_lookup z)).1
    · obtain ⟨c, o, u, y1, y2, y3, y4⟩ := C.val i x v z1 z2 z
      exact ⟨u, y4, .inr ⟨.inr z, c, y1, o, kp _ _ (pin_at e0.hok (hl c o y2)), y3⟩⟩
  · obtain ⟨o, v, y1, y2, y3⟩ := cellAt z
    exact ⟨v, o, y3, y2⟩
  · obtain ⟨o, v, y1, _⟩ := C.at_ x c z
    exact remp_in y1
/-- how the lambda's parameters are bound where nothing is handed in -/
def LamBind (q : Str) (params : Arguments) (body : Expr) (scope : Scope) (cl : List (Str × Addr)) (dvs : List V) (ps : List Str) : Prop :=
  (dvs = [] ∧ ps = [] ∧ ∀ doc pm cv ctv : Value, bindArgs (PySem.W.kdv_fn "<lambda>" q params (.expr body) scope cl .none doc pm cv ctv) ⟨[], []⟩ = pure []) ∨
  ∃ (z : V) (x : Str), dvs = [z] ∧ ps = [x] ∧ ∀ (t : Addr) (doc pm cv ctv : Value), ∃ kk : Option (Array Value) → Sem (List (Str × Value)), bindArgs (PySem.W.kdv_fn "<lambda>" q params (.expr body) scope cl (.ref t) doc pm cv ctv) ⟨[], []⟩ = seqItems? (.ref t) >>= kk ∧ ∀ u, kk (some #[u]) = pure [(x, u)]
theorem lam_binds {q : Str} {params : Arguments} {body : Expr} {scope : Scope} {cl : List (Str × Addr)} {dvs : List V} {ps : List Str} {H : Hp} {dV doc pm cv ctv : Value} {s : Shared} (B : LamBind q params body scope cl dvs ps) (ok : HOk P w H s.heap) (hd : (dvs = [] ∧ dV = .none) ∨ ∃ t, dvs ≠ [] ∧ dV = .ref t ∧ H t = some (.tup dvs)) :
    ∃ us : List Value, us.length = ps.length ∧ BindsTo s (PySem.W.kdv_fn "<lambda>" q params (.expr body) scope cl dV doc pm cv ctv) ⟨[], []⟩ (ps.zip us) := by
  rcases B with ⟨rfl, rfl, hb⟩ | ⟨z, x, rfl, rfl, hb⟩
  · rcases hd with ⟨_, rfl⟩ | ⟨t, e0, _, ht⟩
    · exact ⟨[], rfl, .of_eq (hb _ _ _ _)⟩
    · exact absurd rfl e0
  · rcases hd with ⟨e, _⟩ | ⟨t, _, rfl, ht⟩
    · cases e
    · obtain ⟨_, its, rv, o, ho, hc, n, hdt⟩ : ObjOk P w H s.heap t (.tup [z]) := ok t _ ht
      cases rv with
      | @cons _ u _ _ r1 r2 =>
        cases r2
        obtain ⟨kk, e1, e2⟩ := hb t doc pm cv ctv
        refine ⟨[u], rfl, fun M A E Q hq => ?_⟩
        rw [e1]
        refine wpAny_bind (wpAny_seqItems ho hdt ?_)
        rw [show ([u].toArray : Array Value) = #[u] from rfl, e2]
        exact wpAny_pure hq
theorem ask_of {k : Nat} {q : Str} {params : Arguments} {body : Expr} {scope : Scope} {cl : List (Str × Addr)} {dvs : List V} {ps N : List Str} {f : Addr} {H : Hp} {l : Pins} {σ : L2.St} {Q : VK} {E : XK} (L : LamSc scope ps) (A0 : LamAt H f q params body scope cl dvs) (B : LamBind q params body scope cl dvs ps)
    (C : CellsIn N σ scope cl l) (nl : ∀ x ∈ N, scope.names.lookup x ≠ some .local) (hl : ∀ b o, l.lookup b = some o → H b = some (pinO b o)) (len : σ.length = N.length)
    (hbody : ∀ (A : Around) (outer : List Env) (s : Shared) (c' : Addr), Room k (A.deeper (PySem.W.envX q scope s.heap.objs.size f (.ref c') cl)) →
      ∃ t, PE (lamC P w K mg base N q scope cl f c' A outer s (remp H l) (fun cls d H2 => (∀ b o, l.lookup b = some o → H2 b = none) → E cls d (addp H2 l))) body t ∧ t σ (remp H l) (fun v H2 => (∀ b o, l.lookup b = some o → H2 b = none) → Q v (addp H2 l))) : Asks P w K mg base (k + 1) f H Q E := by
  obtain ⟨dV, doc, pm, ctv, c', hf, hco, hdv⟩ := A0.ex
  refine ⟨fun h ok => ⟨_, _, _, _, pin_at ok hf⟩, fun A outer s room e0 => ?_⟩
  obtain ⟨⟨oc, vs, tq, hoc, hdc, hvc⟩, _, _⟩ : ObjOk P w H s.heap c' (LamX.CodeO c' q) := e0.hok c' _ hco
  refine PySem.W.kla_callFunE (fd := PySem.W.kdv_fn "<lambda>" q params (.expr body) scope cl dV doc pm (.ref c') ctv) room.depth (pin_at e0.hok hf) rfl L.co L.gen rfl ⟨c', oc, vs, tq, rfl, hoc, hdc, hvc⟩ ?_
  obtain ⟨us, hus, hb⟩ := lam_binds (dV := dV) (doc := doc) (pm := pm) (cv := .ref c') (ctv := ctv) B e0.hok hdv
  refine hb _ _ _ _ ?_
  have nolim : s.heap.NoLimit := e0.mod.nolimit.keeps fun b o z => (e0.bs b o z).1
  refine wpAny_newFunctionEnv (fun y hy => (L.own y hy).1) (fun y hy => L.par _ (List.of_mem_zip (show (y.1, y.2) ∈ ps.zip us from hy)).1) (fun h₁ hns hsb => ⟨nolim.fresh _ hsb, ?_⟩) L.kind
  show codeAny _ _ (.expr body (PySem.W.envX q scope s.heap.objs.size f (.ref c') cl)) _ _
  have kp : ∀ b o, s.heap.get? b = some o → h₁.get? b = some o := fun b o z => hsb.extBut b o (Nat.ne_of_lt (Heap.lt_size z)) (Heap.get?_push_of_some _ z)
  have J : Inv (lamC P w K mg base N q scope cl f c' A outer s (remp H l) (fun cls d H2 => (∀ b o, l.lookup b = some o → H2 b = none) → E cls d (addp H2 l))) [] σ (remp H l) { s with heap := h₁, toks := s.toks + (ps.zip us).length } := lamC_start L e0 room.hd C nl hl hns kp len
  obtain ⟨t, ht, hq⟩ := hbody A outer s c' (room.deeper _)
  refine PySem.W.kla_codeExpr (wpAny_mono (ht.run [] _ _ _ _ J hq) (fun u s' z => ?_) fun e s' z => ?_)
  · obtain ⟨v, H2, J2, rv, q2⟩ := z
    exact ce_add e0 hl ⟨v, H2, J2.os, J2.bare, J2.base, J2.hok, rv, q2⟩
  · exact wpAny_mono z (fun _ s2 y => cx_add e0 hl y) (fun e2 s2 y => cx_add e0 hl y)
end
end Ag

namespace Ag
open PySem PySem.Spec PyProof.Rows L2
/-! ### formulas and shapes -/
inductive Fm where
  | fls
  | atom (w : List Nat)
  | hole (c : List Nat)
  | bin (k : Fin 3) (a b : Fm)
  deriving DecidableEq
/-- the joints: 0 then, 1 and, otherwise or -/
def kd (k : Fin 3) : Str := match k with
  | 0 => "then"
  | 1 => "and"
  | 2 => "or"
def Fm.dat : Fm → PyData
  | .fls => .tuple [.str "false"]
  | .atom w => .tuple [.str "atom", .str (SX.S w)]
  | .hole c => .tuple [.str "hole", .str (SX.S c)]
  | .bin k a b => .tuple [.str (kd k), a.dat, b.dat]
def Fr (K : PySem.W.Frag) (H : Hp) (v : V) (t : Fm) : Prop := Dp K H v t.dat
section
variable {K : PySem.W.Frag} {H H' : Hp} {v x y : V} {b l : Addr}
theorem dpall2 {xs : List V} {d e : PyData} (h : DpAll K H xs [d, e]) : ∃ x y, xs = [x, y] ∧ Dp K H x d ∧ Dp K H y e := by
  cases h with
  | cons h1 h => cases h with
    | cons h2 h =>
      cases h
      exact ⟨_, _, rfl, h1, h2⟩
theorem dpall3 {xs : List V} {d e g : PyData} (h : DpAll K H xs [d, e, g]) : ∃ x y z, xs = [x, y, z] ∧ Dp K H x d ∧ Dp K H y e ∧ Dp K H z g := by
  cases h with
  | cons h1 h => cases h with
    | cons h2 h => cases h with
      | cons h3 h =>
        cases h
        exact ⟨_, _, _, rfl, h1, h2, h3⟩
theorem fr_fls (h : Fr K H v .fls) : ∃ p, v = .ref p ∧ SqT K H p [.str "false"] := by
  cases h with
  | tup q r =>
    cases r with
    | cons h1 h =>
      cases h
      cases h1
      exact ⟨_, rfl, q⟩
theorem fr_atom {w : List Nat} (h : Fr K H v (.atom w)) : ∃ p, v = .ref p ∧ SqT K H p [.str "atom", .str (SX.S w)] := by
  cases h with
  | tup q r =>
    obtain ⟨x, y, rfl, h1, h2⟩ := dpall2 r
    cases h1
    cases h2
    exact ⟨_, rfl, q⟩
theorem fr_hole {w : List Nat} (h : Fr K H v (.hole w)) : ∃ p, v = .ref p ∧ SqT K H p [.str "hole", .str (SX.S w)] := by
  cases h with
  | tup q r =>
    obtain ⟨x, y, rfl, h1, h2⟩ := dpall2 r
    cases h1
    cases h2
    exact ⟨_, rfl, q⟩
theorem fr_bin {k : Fin 3} {s t : Fm} (h : Fr K H v (.bin k s t)) : ∃ p x y, v = .ref p ∧ SqT K H p [.str (kd k), x, y] ∧ Fr K H x s ∧ Fr K H y t := by
  cases h with
  | tup q r =>
    obtain ⟨x, y, z, rfl, h1, h2, h3⟩ := dpall3 r
    cases h1
    exact ⟨_, _, _, rfl, q, h2, h3⟩
theorem mk_fls {p : Addr} (h : SqT K H p [.str "false"]) : Fr K H (.ref p) .fls := .tup h (.cons (.str _) .nil)
theorem mk_atom {p : Addr} {w : List Nat} (h : SqT K H p [.str "atom", .str (SX.S w)]) : Fr K H (.ref p) (.atom w) := .tup h (.cons (.str _) (.cons (.str _) .nil))
theorem mk_hole {p : Addr} {w : List Nat} (h : SqT K H p [.str "hole", .str (SX.S w)]) : Fr K H (.ref p) (.hole w) := .tup h (.cons (.str _) (.cons (.str _) .nil))
theorem mk_bin {p : Addr} {k : Fin 3} {s t : Fm} (h : SqT K H p [.str (kd k), x, y]) (hs : Fr K H x s) (ht : Fr K H y t) : Fr K H (.ref p) (.bin k s t) := .tup h (.cons (.str _) (.cons hs (.cons ht .nil)))
theorem Fr.same (s : Same H H') {t : Fm} (h : Fr K H v t) : Fr K H' v t := Dp_same s h
theorem Fr.rd (s : RdLe H H') {t : Fm} (h : Fr K H v t) : Fr K H' v t := Dp_rd s h
theorem kp_tup (k : Kp b H H') (g : Bag H b l) {p : Addr} {xs : List V} (h : SqT K H p xs) : SqT K H' p xs := by
  obtain ⟨ns, at', big, seed, cnt, h1, _⟩ := g
  rcases h with (h | ⟨o, h⟩) | h
  · exact .inl (.inl (k _ _ h (ne_of h h1 (by intro z; cases z))))
  · exact .inl (.inr ⟨o, k _ _ h (ne_of h h1 (by intro z; cases z))⟩)
  · exact .inr h
theorem Fr.kp (k : Kp b H H') (g : Bag H b l) : ∀ {t : Fm} {v : V}, Fr K H v t → Fr K H' v t
  | .fls, _, h => by
    obtain ⟨p, rfl, q⟩ := fr_fls h
    exact mk_fls (kp_tup k g q)
  | .atom w, _, h => by
    obtain ⟨p, rfl, q⟩ := fr_atom h
    exact mk_atom (kp_tup k g q)
  | .hole w, _, h => by
    obtain ⟨p, rfl, q⟩ := fr_hole h
    exact mk_hole (kp_tup k g q)
  | .bin j s t, _, h => by
    obtain ⟨p, x, y, rfl, q, hs, ht⟩ := fr_bin h
    exact mk_bin (kp_tup k g q) (Fr.kp k g hs) (Fr.kp k g ht)
end
/-- less than n deep, atoms of ws, holes of hs -/
def okF (ws hs : List (List Nat)) : Nat → Fm → Prop
  | 0, _ => False
  | _ + 1, .fls => True
  | _ + 1, .atom w => w ∈ ws
  | _ + 1, .hole c => c ∈ hs
  | n + 1, .bin _ a b => okF ws hs n a ∧ okF ws hs n b
theorem okF.up {ws hs : List (List Nat)} : ∀ {n : Nat} {t : Fm}, okF ws hs n t → okF ws hs (n + 1) t
  | 0, _, h => h.elim
  | _ + 1, .fls, _ => trivial
  | _ + 1, .atom _, h => h
  | _ + 1, .hole _, h => h
  | _ + 1, .bin _ _ _, h => ⟨okF.up h.1, okF.up h.2⟩
theorem okF.le {ws hs : List (List Nat)} {t : Fm} {n m : Nat} (h : okF ws hs n t) (e : n ≤ m) : okF ws hs m t := by
  induction e with
  | refl => exact h
  | step _ ih => exact ih.up
theorem okF.holes {ws hs hs' : List (List Nat)} (hh : ∀ c ∈ hs, c ∈ hs') : ∀ {n : Nat} {t : Fm}, okF ws hs n t → okF ws hs' n t
  | 0, _, h => h.elim
  | _ + 1, .fls, _ => trivial
  | _ + 1, .atom _, h => h
  | _ + 1, .hole _, h => hh _ h
  | _ + 1, .bin _ _ _, h => ⟨okF.holes hh h.1, okF.holes hh h.2⟩
theorem atI_kd (k : Fin 3) : atI ([.str "then", .str "and", .str "or"] : List V) ((k.val : Nat) : Int) = some (.str (kd k)) := by
  match k with
  | 0 => rfl
  | 1 => rfl
  | 2 => rfl
theorem kd_inj {k j : Fin 3} : kd k = kd j → k = j := by
  revert k j
  decide +kernel
theorem kd_atom {k : Fin 3} : kd k ≠ "atom" := by
  revert k
  decide +kernel
theorem kd_hole {k : Fin 3} : kd k ≠ "hole" := by
  revert k
  decide +kernel
theorem kd_false {k : Fin 3} : kd k ≠ "false" := by
  revert k
  decide +kernel
/-! ### equality of data is equality of formulas -/
theorem beq_S (a b : List Nat) : (SX.S a == SX.S b) = decide (a = b) := SX.S_beq_eq
theorem eqvStr (a b : Str) : PyData.eqv (.str a) (.str b) = decide (a = b) := by
  show (a == b) = decide (a = b)
  rw [← SX.S_tl a, ← SX.S_tl b, beq_S]
  by_cases h : a.cps.toList = b.cps.toList
  · rw [decide_eq_true h, decide_eq_true (by rw [h])]
  · rw [decide_eq_false h, decide_eq_false (fun z => h (SX.S_inj z))]
theorem eqv1 (a b : PyData) : PyData.eqv (.tuple [a]) (.tuple [b]) = PyData.eqv a b := by
  show (PyData.eqv a b && true) = _
  rw [Bool.and_true]
theorem eqv2 (a b c d : PyData) : PyData.eqv (.tuple [a, c]) (.tuple [b, d]) = (PyData.eqv a b && PyData.eqv c d) := by
  show (PyData.eqv a b && (PyData.eqv c d && true)) = _
  rw [Bool.and_true]
theorem eqv3 (a b c d e f : PyData) : PyData.eqv (.tuple [a, c, e]) (.tuple [b, d, f]) = (PyData.eqv a b && (PyData.eqv c d && PyData.eqv e f)) := by
  show (PyData.eqv a b && (PyData.eqv c d && (PyData.eqv e f && true))) = _
  rw [Bool.and_true]
theorem eqv12 (a b c : PyData) : PyData.eqv (.tuple [a]) (.tuple [b, c]) = false := by
  show (PyData.eqv a b && false) = false
  rw [Bool.and_false]
theorem eqv21 (a b c : PyData) : PyData.eqv (.tuple [a, c]) (.tuple [b]) = false := by
  show (PyData.eqv a b && false) = false
  rw [Bool.and_false]
theorem eqv13 (a b c d : PyData) : PyData.eqv (.tuple [a]) (.tuple [b, c, d]) = false := by
  show (PyData.eqv a b && false) = false
  rw [Bool.and_false]
theorem eqv31 (a b c d : PyData) : PyData.eqv (.tuple [a, c, d]) (.tuple [b]) = false := by
  show (PyData.eqv a b && false) = false
  rw [Bool.and_false]
theorem eqv23 (a b c d e : PyData) : PyData.eqv (.tuple [a, b]) (.tuple [c, d, e]) = false := by
  show (PyData.eqv a c && (PyData.eqv b d && false)) = false
  rw [Bool.and_false, Bool.and_false]
theorem eqv32 (a b c d e : PyData) : PyData.eqv (.tuple [c, d, e]) (.tuple [a, b]) = false := by
  show (PyData.eqv c a && (PyData.eqv d b && false)) = false
  rw [Bool.and_false, Bool.and_false]
theorem decS (a b : List Nat) : decide (SX.S a = SX.S b) = decide (a = b) := by
  by_cases h : a = b
  · rw [decide_eq_true h, decide_eq_true (by rw [h])]
  · rw [decide_eq_false h, decide_eq_false (fun z => h (SX.S_inj z))]
theorem eqv_dat : ∀ s t : Fm, PyData.eqv s.dat t.dat = decide (s = t)
  | .fls, .fls => by simp only [Fm.dat, eqv1, eqvStr]
  | .fls, .atom _ => by simp only [Fm.dat, eqv12]; rfl
  | .fls, .hole _ => by simp only [Fm.dat, eqv12]; rfl
  | .fls, .bin _ _ _ => by simp only [Fm.dat, eqv13]; rfl
  | .atom _, .fls => by simp only [Fm.dat, eqv21]; rfl
  | .hole _, .fls => by simp only [Fm.dat, eqv21]; rfl
  | .bin _ _ _, .fls => by simp only [Fm.dat, eqv31]; rfl
  | .atom u, .atom v => by
    simp only [Fm.dat, eqv2, eqvStr, decS, Fm.atom.injEq, decide_true, Bool.true_and]
  | .hole u, .hole v => by
    simp only [Fm.dat, eqv2, eqvStr, decS, Fm.hole.injEq, decide_true, Bool.true_and]
  | .atom u, .hole v => by
    have e : decide (("atom" : Str) = "hole") = false := by decide +kernel
    simp only [Fm.dat, eqv2, eqvStr, e, Bool.false_and]
    rfl
  | .hole u, .atom v => by
    have e : decide (("hole" : Str) = "atom") = false := by decide +kernel
    simp only [Fm.dat, eqv2, eqvStr, e, Bool.false_and]
    rfl
  | .atom _, .bin _ _ _ => by simp only [Fm.dat, eqv23]; rfl
  | .hole _, .bin _ _ _ => by simp only [Fm.dat, eqv23]; rfl
  | .bin _ _ _, .atom _ => by simp only [Fm.dat, eqv32]; rfl
  | .bin _ _ _, .hole _ => by simp only [Fm.dat, eqv32]; rfl
  | .bin k a b, .bin j c d => by
    simp only [Fm.dat, eqv3, eqvStr, eqv_dat a c, eqv_dat b d, Fm.bin.injEq, Bool.decide_and]
    have e : decide (kd k = kd j) = decide (k = j) := by
      by_cases h : k = j
      · rw [decide_eq_true h, decide_eq_true (by rw [h])]
      · rw [decide_eq_false h, decide_eq_false (fun z => h (kd_inj z))]
    rw [e]
/-! ### the form of the data -/
theorem low_lay {w : List Nat} (h : Low w) : ((SX.S w).cps.all (· < 0x110000)) = true := by
  rw [← Array.all_toList, List.all_eq_true]
  intro c hc
  exact decide_eq_true (by have z := h c hc; omega)
theorem kd_lay (k : Fin 3) : ((kd k).cps.all (· < 0x110000)) = true := by
  revert k
  decide +kernel
theorem ok_lay {ws hs : List (List Nat)} (hw : ∀ w ∈ ws, Low w) (hh : ∀ c ∈ hs, Low c) : ∀ {n : Nat} {t : Fm}, okF ws hs n t → PyData.canLay0 t.dat = true ∧ PyData.depth t.dat ≤ n
  | 0, _, h => h.elim
  | n + 1, .fls, _ => ⟨by decide +kernel, by show max 0 0 + 1 ≤ n + 1; omega⟩
  | n + 1, .atom w, h => by
    refine ⟨?_, by show max 0 (max 0 0) + 1 ≤ n + 1; omega⟩
    show (PyData.canLay0 (.str "atom") && (PyData.canLay0 (.str (SX.S w)) && true)) = true
    rw [show PyData.canLay0 (.str (SX.S w)) = true from low_lay (hw w h)]
    decide +kernel
  | n + 1, .hole w, h => by
    refine ⟨?_, by show max 0 (max 0 0) + 1 ≤ n + 1; omega⟩
    show (PyData.canLay0 (.str "hole") && (PyData.canLay0 (.str (SX.S w)) && true)) = true
    rw [show PyData.canLay0 (.str (SX.S w)) = true from low_lay (hh w h)]
    decide +kernel
  | n + 1, .bin k a b, h => by
    obtain ⟨a1, a2⟩ := ok_lay hw hh h.1
    obtain ⟨b1, b2⟩ := ok_lay hw hh h.2
    refine ⟨?_, ?_⟩
    · show (PyData.canLay0 (.str (kd k)) && (PyData.canLay0 a.dat && (PyData.canLay0 b.dat && true))) = true
      rw [a1, b1, show PyData.canLay0 (.str (kd k)) = true from kd_lay k]
      rfl
    · show max 0 (max (PyData.depth a.dat) (max (PyData.depth b.dat) 0)) + 1 ≤ n + 1
      omega
theorem ok_shaped {ws hs : List (List Nat)} (hw : ∀ w ∈ ws, Low w) (hh : ∀ c ∈ hs, Low c) {n : Nat} {t : Fm} (h : okF ws hs n t) (hn : n ≤ 64) : SeqAt.shaped t.dat = true := by
  obtain ⟨h1, h2⟩ := ok_lay hw hh h
  unfold SeqAt.shaped
  rw [h1, decide_eq_true (by omega)]
  rfl
theorem oka_str {n : Nat} {x : Str} : oka (n + 1) (.str x) = true := rfl
theorem ok_oka {ws hs : List (List Nat)} : ∀ {n : Nat} {t : Fm}, okF ws hs n t → oka (n + 1) t.dat = true
  | 0, _, h => h.elim
  | n + 1, .fls, _ => rfl
  | n + 1, .atom w, _ => rfl
  | n + 1, .hole w, _ => rfl
  | n + 1, .bin k a b, h => by
    have a1 := ok_oka h.1
    have b1 := ok_oka h.2
    show (decide (3 ≤ 1000) && (oka (n + 1) (.str (kd k)) && (oka (n + 1) a.dat && (oka (n + 1) b.dat && true)))) = true
    rw [a1, b1]
    rfl
end Ag

namespace Ag
open PySem PySem.Spec PyProof.Rows L2
/-! ### tables of holes -/
abbrev Tab := List (List Nat × Fm)
def tg : Tab → List Nat → Option Fm
  | [], _ => none
  | e :: r, c => if e.1 = c then some e.2 else tg r c
theorem tg_snoc (m : Tab) (c d : List Nat) (t : Fm) : tg (m ++ [(c, t)]) d = match tg m d with | some g => some g | none => if c = d then some t else none := by
  induction m with
  | nil => rfl
  | cons e r ih =>
    show (if e.1 = d then some e.2 else tg (r ++ [(c, t)]) d) = _
    rw [ih]
    show _ = match (if e.1 = d then some e.2 else tg r d) with | some g => some g | none => if c = d then some t else none
    by_cases h : e.1 = d
    · rw [if_pos h, if_pos h]
    · rw [if_neg h, if_neg h]
theorem tg_mem {m : Tab} {c : List Nat} {t : Fm} (h : tg m c = some t) : (c, t) ∈ m := by
  induction m with
  | nil => cases h
  | cons e r ih =>
    have h' : (if e.1 = c then some e.2 else tg r c) = some t := h
    by_cases he : e.1 = c
    · rw [if_pos he] at h'
      cases h'
      subst he
      exact List.mem_cons_self
    · rw [if_neg he] at h'
      exact List.mem_cons_of_mem _ (ih h')
theorem tg_none {m : Tab} {c : List Nat} (h : tg m c = none) : ∀ t, (c, t) ∉ m := by
  induction m with
  | nil => intro t z; cases z
  | cons e r ih =>
    have h' : (if e.1 = c then some e.2 else tg r c) = none := h
    by_cases he : e.1 = c
    · rw [if_pos he] at h'
      cases h'
    · rw [if_neg he] at h'
      intro t z
      rcases List.mem_cons.mp z with z | z
      · exact he (by rw [← z])
      · exact ih h' t z
/-- no key twice -/
def Fn (m : Tab) : Prop := (m.map (·.1)).Nodup
theorem Fn.one {m : Tab} (h : Fn m) {c : List Nat} {s t : Fm} (h1 : (c, s) ∈ m) (h2 : (c, t) ∈ m) : s = t := by
  induction m with
  | nil => cases h1
  | cons e r ih =>
    unfold Fn at h
    rw [List.map_cons, List.nodup_cons] at h
    rcases List.mem_cons.mp h1 with a | a <;> rcases List.mem_cons.mp h2 with b | b
    · rw [← b] at a
      exact (Prod.mk.inj a).2
    · exact absurd (List.mem_map.mpr ⟨_, b, rfl⟩) (by rw [← a] at h; exact h.1)
    · exact absurd (List.mem_map.mpr ⟨_, a, rfl⟩) (by rw [← b] at h; exact h.1)
    · exact ih h.2 a b
theorem Fn.tg {m : Tab} (h : Fn m) {c : List Nat} {t : Fm} (h1 : (c, t) ∈ m) : tg m c = some t := by
  cases e : Ag.tg m c with
  | none => exact absurd h1 (tg_none e t)
  | some s => rw [h.one (tg_mem e) h1]
theorem Fn.snoc {m : Tab} (h : Fn m) {c : List Nat} {t : Fm} (h1 : Ag.tg m c = none) : Fn (m ++ [(c, t)]) := by
  unfold Fn
  rw [List.map_append]
  refine nd_snoc h fun z => ?_
  obtain ⟨e, he, rfl⟩ := List.mem_map.mp z
  exact tg_none h1 e.2 he
theorem Fn.nodup {m : Tab} (h : Fn m) : m.Nodup := by
  induction m with
  | nil => exact List.nodup_nil
  | cons e r ih =>
    unfold Fn at h
    rw [List.map_cons, List.nodup_cons] at h
    exact List.nodup_cons.mpr ⟨fun z => h.1 (List.mem_map.mpr ⟨_, z, rfl⟩), ih h.2⟩
theorem Fn.perm {m n : Tab} (h : Fn m) (g : Fn n) (e : ∀ p, p ∈ m ↔ p ∈ n) : m.Perm n := by
  have nm : m.Nodup := h.nodup
  have nn : n.Nodup := g.nodup
  exact (List.perm_ext_iff_of_nodup nm nn).mpr e
/-! ### what a shape asks of its holes -/
def Cn : Fm → Fm → Tab
  | .hole c, f => [(c, f)]
  | .bin _ a b, .bin _ c d => Cn a c ++ Cn b d
  | _, _ => []
def Sm : Fm → Fm → Prop
  | .hole _, _ => True
  | .bin k a b, .bin j c d => k = j ∧ Sm a c ∧ Sm b d
  | .bin _ _ _, _ => False
  | s, f => s = f
/-- the law's own walk -/
def mt : Fm → Fm → Tab → Option Tab
  | .hole c, f, m => match tg m c with
    | some g => if g = f then some m else none
    | none => some (m ++ [(c, f)])
  | .bin k a b, .bin j c d, m => if k = j then match mt a c m with
      | none => none
      | some m' => mt b d m'
    else none
  | .bin _ _ _, _, _ => none
  | .fls, f, m => if Fm.fls = f then some m else none
  | .atom w, f, m => if Fm.atom w = f then some m else none
theorem mt_some : ∀ {s f : Fm} {m m' : Tab}, mt s f m = some m' → Fn m → Fn m' ∧ Sm s f ∧ ∀ p, p ∈ m' ↔ p ∈ m ∨ p ∈ Cn s f
  | .hole c, f, m, m', h, n => by
    simp only [mt] at h
    cases e : tg m c with
    | some g =>
      rw [e] at h
      try dsimp only at h
      by_cases hg : g = f
      · rw [if_pos hg] at h
        cases h
        subst hg
        refine ⟨n, trivial, fun p => ⟨.inl, fun z => ?_⟩⟩
        rcases z with z | z
        · exact z
        · rw [show p = (c, g) from List.mem_singleton.mp z]
          exact tg_mem e
      · rw [if_neg hg] at h
        cases h
    | none =>
      rw [e] at h
      try dsimp only at h
      cases h
      exact ⟨n.snoc e, trivial, fun p => List.mem_append⟩
  | .bin k a b, .bin j c d, m, m', h, n => by
    simp only [mt] at h
    by_cases hk : k = j
    · rw [if_pos hk] at h
      cases e : mt a c m with
      | none => rw [e] at h; cases h
      | some m1 =>
        rw [e] at h
        try dsimp only at h
        obtain ⟨n1, s1, h1⟩ := mt_some e n
        obtain ⟨n2, s2, h2⟩ := mt_some h n1
        refine ⟨n2, ⟨hk, s1, s2⟩, fun p => ?_⟩
        rw [h2, h1]
        show _ ↔ p ∈ m ∨ p ∈ Cn a c ++ Cn b d
        rw [List.mem_append, or_assoc]
    · rw [if_neg hk] at h
      cases h
  | .bin _ _ _, .fls, m, m', h, n => by cases h
  | .bin _ _ _, .atom _, m, m', h, n => by cases h
  | .bin _ _ _, .hole _, m, m', h, n => by cases h
  | .fls, f, m, m', h, n => by
    simp only [mt] at h
    by_cases e : Fm.fls = f
    · rw [if_pos e] at h
      cases h
      subst e
      exact ⟨n, rfl, fun p => ⟨.inl, fun z => z.elim id fun y => (by cases y)⟩⟩
    · rw [if_neg e] at h
      cases h
  | .atom w, f, m, m', h, n => by
    simp only [mt] at h
    by_cases e : Fm.atom w = f
    · rw [if_pos e] at h
      cases h
      subst e
      exact ⟨n, rfl, fun p => ⟨.inl, fun z => z.elim id fun y => (by cases y)⟩⟩
    · rw [if_neg e] at h
      cases h
theorem mt_none : ∀ {s f : Fm} {m : Tab}, mt s f m = none → Fn m → ∀ M : Tab, Fn M → (∀ p ∈ m, p ∈ M) → (∀ p ∈ Cn s f, p ∈ M) → Sm s f → False
  | .hole c, f, m, h, n, M, nM, hm, hc, _ => by
    simp only [mt] at h
    cases e : tg m c with
    | some g =>
      rw [e] at h
      try dsimp only at h
      by_cases hg : g = f
      · rw [if_pos hg] at h
        cases h
      · exact hg (nM.one (hm _ (tg_mem e)) (hc _ (List.mem_singleton.mpr rfl)))
    | none =>
      rw [e] at h
      try dsimp only at h
      cases h
  | .bin k a b, .bin j c d, m, h, n, M, nM, hm, hc, hs => by
    simp only [mt] at h
    rw [if_pos hs.1] at h
    cases e : mt a c m with
    | none => exact mt_none e n M nM hm (fun p hp => hc p (List.mem_append.mpr (.inl hp))) hs.2.1
    | some m1 =>
      rw [e] at h
      try dsimp only at h
      obtain ⟨n1, _, h1⟩ := mt_some e n
      refine mt_none h n1 M nM (fun p hp => ?_) (fun p hp => hc p (List.mem_append.mpr (.inr hp))) hs.2.2
      rcases (h1 p).mp hp with z | z
      · exact hm p z
      · exact hc p (List.mem_append.mpr (.inl z))
  | .bin _ _ _, .fls, m, _, _, M, _, _, _, hs => hs.elim
  | .bin _ _ _, .atom _, m, _, _, M, _, _, _, hs => hs.elim
  | .bin _ _ _, .hole _, m, _, _, M, _, _, _, hs => hs.elim
  | .fls, f, m, h, _, M, _, _, _, hs => by
    simp only [mt] at h
    rw [if_pos (show Fm.fls = f from hs)] at h
    cases h
  | .atom w, f, m, h, _, M, _, _, _, hs => by
    simp only [mt] at h
    rw [if_pos (show Fm.atom w = f from hs)] at h
    cases h
/-! ### the program's walk: a stack, its top first -/
def sz : Fm → Nat
  | .bin _ a b => 1 + sz a + sz b
  | _ => 1
def tot : List (Fm × Fm) → Nat
  | [] => 0
  | e :: r => sz e.1 + tot r
def ho : Nat → List (Fm × Fm) → Tab → Option Tab
  | _, [], m => some m
  | 0, _ :: _, _ => none
  | n + 1, (.hole c, f) :: r, m => match tg m c with
    | some g => if g = f then ho n r m else none
    | none => ho n r (m ++ [(c, f)])
  | n + 1, (.bin k a b, .bin j c d) :: r, m => if k = j then ho n ((b, d) :: (a, c) :: r) m else none
  | _ + 1, (.bin _ _ _, _) :: _, _ => none
  | n + 1, (.fls, f) :: r, m => if Fm.fls = f then ho n r m else none
  | n + 1, (.atom w, f) :: r, m => if Fm.atom w = f then ho n r m else none
def CnS : List (Fm × Fm) → Tab
  | [] => []
  | e :: r => Cn e.1 e.2 ++ CnS r
def SmS (l : List (Fm × Fm)) : Prop := ∀ e ∈ l, Sm e.1 e.2
theorem ho_some : ∀ {n : Nat} {l : List (Fm × Fm)} {m m' : Tab}, ho n l m = some m' → Fn m → Fn m' ∧ SmS l ∧ ∀ p, p ∈ m' ↔ p ∈ m ∨ p ∈ CnS l
  | n, [], m, m', h, nm => by
    have e : m' = m := by cases n <;> exact (Option.some.inj h).symm
    subst e
    exact ⟨nm, fun e h => (by cases h), fun p => ⟨.inl, fun z => z.elim id fun y => (by cases y)⟩⟩
  | 0, _ :: _, m, m', h, nm => by cases h
  | n + 1, (.hole c, f) :: r, m, m', h, nm => by
    simp only [ho] at h
    cases e : tg m c with
    | some g =>
      rw [e] at h
      try dsimp only at h
      by_cases hg : g = f
      · rw [if_pos hg] at h
        subst hg
        obtain ⟨n1, s1, h1⟩ := ho_some h nm
        refine ⟨n1, fun e he => ?_, fun p => ?_⟩
        · rcases List.mem_cons.mp he with rfl | he
          · trivial
          · exact s1 e he
        · rw [h1]
          show _ ↔ p ∈ m ∨ p ∈ [(c, g)] ++ CnS r
          rw [List.mem_append, List.mem_singleton]
          constructor
          · rintro (z | z)
            · exact .inl z
            · exact .inr (.inr z)
          · rintro (z | rfl | z)
            · exact .inl z
            · exact .inl (tg_mem e)
            · exact .inr z
      · rw [if_neg hg] at h
        cases h
    | none =>
      rw [e] at h
      try dsimp only at h
      obtain ⟨n1, s1, h1⟩ := ho_some h (nm.snoc e)
      refine ⟨n1, fun e he => ?_, fun p => ?_⟩
      · rcases List.mem_cons.mp he with rfl | he
        · trivial
        · exact s1 e he
      · rw [h1, List.mem_append]
        show _ ↔ p ∈ m ∨ p ∈ [(c, f)] ++ CnS r
        rw [List.mem_append, or_assoc]
  | n + 1, (.bin k a b, .bin j c d) :: r, m, m', h, nm => by
    simp only [ho] at h
    by_cases hk : k = j
    · rw [if_pos hk] at h
      obtain ⟨n1, s1, h1⟩ := ho_some h nm
      refine ⟨n1, fun e he => ?_, fun p => ?_⟩
      · rcases List.mem_cons.mp he with rfl | he
        · exact ⟨hk, s1 (a, c) (by simp), s1 (b, d) (by simp)⟩
        · exact s1 e (by simp [he])
      · rw [h1]
        show p ∈ m ∨ p ∈ Cn b d ++ (Cn a c ++ CnS r) ↔ p ∈ m ∨ p ∈ (Cn a c ++ Cn b d) ++ CnS r
        simp only [List.mem_append]
        constructor
        · rintro (z | z | z | z)
          · exact .inl z
          · exact .inr (.inl (.inr z))
          · exact .inr (.inl (.inl z))
          · exact .inr (.inr z)
        · rintro (z | (z | z) | z)
          · exact .inl z
          · exact .inr (.inr (.inl z))
          · exact .inr (.inl z)
          · exact .inr (.inr (.inr z))
    · rw [if_neg hk] at h
      cases h
  | _ + 1, (.bin _ _ _, .fls) :: _, m, m', h, nm => by cases h
  | _ + 1, (.bin _ _ _, .atom _) :: _, m, m', h, nm => by cases h
  | _ + 1, (.bin _ _ _, .hole _) :: _, m, m', h, nm => by cases h
  | n + 1, (.fls, f) :: r, m, m', h, nm => by
    simp only [ho] at h
    by_cases e : Fm.fls = f
    · rw [if_pos e] at h
      subst e
      obtain ⟨n1, s1, h1⟩ := ho_some h nm
      refine ⟨n1, fun e he => ?_, h1⟩
      rcases List.mem_cons.mp he with rfl | he
      · rfl
      · exact s1 e he
    · rw [if_neg e] at h
      cases h
  | n + 1, (.atom w, f) :: r, m, m', h, nm => by
    simp only [ho] at h
    by_cases e : Fm.atom w = f
    · rw [if_pos e] at h
      subst e
      obtain ⟨n1, s1, h1⟩ := ho_some h nm
      refine ⟨n1, fun e he => ?_, h1⟩
      rcases List.mem_cons.mp he with rfl | he
      · rfl
      · exact s1 e he
    · rw [if_neg e] at h
      cases h
theorem ho_none : ∀ {n : Nat} {l : List (Fm × Fm)} {m : Tab}, ho n l m = none → tot l ≤ n → Fn m → ∀ M : Tab, Fn M → (∀ p ∈ m, p ∈ M) → (∀ p ∈ CnS l, p ∈ M) → SmS l → False
  | n, [], m, h, _, _, _, _, _, _, _ => by cases n <;> cases h
  | 0, e :: r, m, _, ht, _, _, _, _, _, _ => by
    have : 1 ≤ sz e.1 := by cases e.1 <;> simp only [sz] <;> omega
    simp only [tot] at ht
    omega
  | n + 1, (.hole c, f) :: r, m, h, ht, nm, M, nM, hm, hc, hs => by
    have ht' : tot r ≤ n := by simp only [tot, sz] at ht; omega
    have hs' : SmS r := fun e he => hs e (List.mem_cons_of_mem _ he)
    simp only [ho] at h
    cases e : tg m c with
    | some g =>
      rw [e] at h
      try dsimp only at h
      by_cases hg : g = f
      · rw [if_pos hg] at h
        exact ho_none h ht' nm M nM hm (fun p hp => hc p (List.mem_append.mpr (.inr hp))) hs'
      · exact hg (nM.one (hm _ (tg_mem e)) (hc _ (List.mem_append.mpr (.inl (List.mem_singleton.mpr rfl)))))
    | none =>
      rw [e] at h
      try dsimp only at h
      refine ho_none h ht' (nm.snoc e) M nM (fun p hp => ?_) (fun p hp => hc p (List.mem_append.mpr (.inr hp))) hs'
      rcases List.mem_append.mp hp with z | z
      · exact hm p z
      · exact hc p (List.mem_append.mpr (.inl z))
  | n + 1, (.bin k a b, .bin j c d) :: r, m, h, ht, nm, M, nM, hm, hc, hs => by
    have h0 := hs (.bin k a b, .bin j c d) (by simp)
    simp only [ho] at h
    rw [if_pos h0.1] at h
    refine ho_none h ?_ nm M nM hm (fun p hp => ?_) fun e he => ?_
    · simp only [tot, sz] at ht ⊢
      omega
    · have hp' : p ∈ Cn b d ++ (Cn a c ++ CnS r) := hp
      refine hc p (show p ∈ (Cn a c ++ Cn b d) ++ CnS r from ?_)
      simp only [List.mem_append] at hp' ⊢
      rcases hp' with z | z | z
      · exact .inl (.inr z)
      · exact .inl (.inl z)
      · exact .inr z
    · rcases List.mem_cons.mp he with rfl | he
      · exact h0.2.2
      rcases List.mem_cons.mp he with rfl | he
      · exact h0.2.1
      · exact hs e (List.mem_cons_of_mem _ he)
  | _ + 1, (.bin k a b, .fls) :: _, m, _, _, _, _, _, _, _, hs => (hs _ List.mem_cons_self).elim
  | _ + 1, (.bin k a b, .atom w) :: _, m, _, _, _, _, _, _, _, hs => (hs _ List.mem_cons_self).elim
  | _ + 1, (.bin k a b, .hole w) :: _, m, _, _, _, _, _, _, _, hs => (hs _ List.mem_cons_self).elim
  | n + 1, (.fls, f) :: r, m, h, ht, nm, M, nM, hm, hc, hs => by
    have ht' : tot r ≤ n := by simp only [tot, sz] at ht; omega
    simp only [ho] at h
    rw [if_pos (show Fm.fls = f from hs _ List.mem_cons_self)] at h
    exact ho_none h ht' nm M nM hm (fun p hp => hc p (List.mem_append.mpr (.inr hp))) fun e he => hs e (List.mem_cons_of_mem _ he)
  | n + 1, (.atom w, f) :: r, m, h, ht, nm, M, nM, hm, hc, hs => by
    have ht' : tot r ≤ n := by simp only [tot, sz] at ht; omega
    simp only [ho] at h
    rw [if_pos (show Fm.atom w = f from hs _ List.mem_cons_self)] at h
    exact ho_none h ht' nm M nM hm (fun p hp => hc p (List.mem_append.mpr (.inr hp))) fun e he => hs e (List.mem_cons_of_mem _ he)
/-- what holes_of answers -/
def hof (s f : Fm) : Option Tab := ho (sz s) [(s, f)] []
theorem hof_some {s f : Fm} {m : Tab} (h : hof s f = some m) : Fn m ∧ Sm s f ∧ ∀ p, p ∈ m ↔ p ∈ Cn s f := by
  obtain ⟨h1, h2, h3⟩ := ho_some h (show Fn [] from List.nodup_nil)
  refine ⟨h1, h2 (s, f) (by simp), fun p => ?_⟩
  rw [h3]
  show p ∈ [] ∨ p ∈ Cn s f ++ [] ↔ _
  simp
theorem hof_none {s f : Fm} (h : hof s f = none) {M : Tab} (nM : Fn M) (hc : ∀ p ∈ Cn s f, p ∈ M) (hs : Sm s f) : False := by
  refine ho_none h (by simp [tot]) (show Fn [] from List.nodup_nil) M nM (fun p hp => (by cases hp)) (fun p hp => ?_) (fun e he => ?_)
  · have hp' : p ∈ Cn s f ++ [] := hp
    rw [List.append_nil] at hp'
    exact hc p hp'
  · rw [List.mem_singleton.mp he]
    exact hs
/-- the two walks agree -/
theorem walks {s f : Fm} : (hof s f = none ∧ mt s f [] = none) ∨ ∃ m1 m2, hof s f = some m1 ∧ mt s f [] = some m2 ∧ m1.Perm m2 ∧ Fn m1 ∧ Fn m2 ∧ Sm s f ∧ ∀ p, p ∈ m2 ↔ p ∈ Cn s f := by
  have n0 : Fn [] := List.nodup_nil
  cases e1 : hof s f with
  | none =>
    cases e2 : mt s f [] with
    | none => exact .inl ⟨rfl, rfl⟩
    | some m2 =>
      obtain ⟨h1, h2, h3⟩ := mt_some e2 n0
      exact (hof_none e1 h1 (fun p hp => (h3 p).mpr (.inr hp)) h2).elim
  | some m1 =>
    obtain ⟨g1, g2, g3⟩ := hof_some e1
    cases e2 : mt s f [] with
    | none => exact (mt_none e2 n0 m1 g1 (fun p hp => (by cases hp)) (fun p hp => (g3 p).mpr hp) g2).elim
    | some m2 =>
      obtain ⟨h1, h2, h3⟩ := mt_some e2 n0
      have h3' : ∀ p, p ∈ m2 ↔ p ∈ Cn s f := fun p => by rw [h3]; simp
      exact .inr ⟨m1, m2, rfl, rfl, g1.perm h1 fun p => by rw [g3, h3'], g1, h1, h2, h3'⟩
/-! ### the holes filled -/
def pt (m : Tab) : Fm → Fm
  | .hole c => (tg m c).getD (.hole c)
  | .bin k a b => .bin k (pt m a) (pt m b)
  | t => t
theorem pt_back {M : Tab} (nM : Fn M) : ∀ {s f : Fm}, (∀ p ∈ Cn s f, p ∈ M) → Sm s f → pt M s = f
  | .hole c, f, h, _ => by
    show (tg M c).getD _ = f
    rw [nM.tg (h _ (List.mem_singleton.mpr rfl))]
    rfl
  | .bin k a b, .bin j c d, h, hs => by
    show Fm.bin k (pt M a) (pt M b) = _
    rw [pt_back nM (fun p hp => h p (List.mem_append.mpr (.inl hp))) hs.2.1, pt_back nM (fun p hp => h p (List.mem_append.mpr (.inr hp))) hs.2.2, hs.1]
  | .bin _ _ _, .fls, _, hs => hs.elim
  | .bin _ _ _, .atom _, _, hs => hs.elim
  | .bin _ _ _, .hole _, _, hs => hs.elim
  | .fls, f, _, hs => hs
  | .atom w, f, _, hs => hs
theorem pt_ok {ws hs : List (List Nat)} {M : Tab} {k : Nat} (hM : ∀ c ∈ hs, ∃ t, tg M c = some t ∧ okF ws [] k t) : ∀ {n : Nat} {s : Fm}, okF ws hs n s → okF ws [] (n + k) (pt M s)
  | 0, _, h => h.elim
  | n + 1, .fls, _ => by rw [Nat.add_right_comm]; exact trivial
  | n + 1, .atom w, h => by rw [Nat.add_right_comm]; exact h
  | n + 1, .hole c, h => by
    obtain ⟨t, h1, h2⟩ := hM c h
    show okF ws [] _ ((tg M c).getD _)
    rw [h1]
    exact h2.le (by omega)
  | n + 1, .bin j a b, h => by
    rw [Nat.add_right_comm]
    exact ⟨pt_ok hM h.1, pt_ok hM h.2⟩
theorem cn_plain {ws : List (List Nat)} : ∀ {n : Nat} {t : Fm}, okF ws [] n t → Cn t t = [] ∧ Sm t t
  | 0, _, h => h.elim
  | _ + 1, .fls, _ => ⟨rfl, rfl⟩
  | _ + 1, .atom _, _ => ⟨rfl, rfl⟩
  | _ + 1, .hole _, h => by cases h
  | _ + 1, .bin _ _ _, h => by
    obtain ⟨a1, a2⟩ := cn_plain h.1
    obtain ⟨b1, b2⟩ := cn_plain h.2
    exact ⟨by show Cn _ _ ++ Cn _ _ = []; rw [a1, b1]; rfl, rfl, a2, b2⟩
theorem hof_plain {ws : List (List Nat)} {n : Nat} {t : Fm} (h : okF ws [] n t) : hof t t = some [] := by
  obtain ⟨h1, h2⟩ := cn_plain h
  cases e : hof t t with
  | none => exact (hof_none e (M := []) List.nodup_nil (fun p hp => by rw [h1] at hp; exact hp) h2).elim
  | some m =>
    obtain ⟨_, _, g3⟩ := hof_some e
    cases m with
    | nil => rfl
    | cons p r =>
      have z := (g3 p).mp (by simp)
      rw [h1] at z
      cases z
theorem cn_ok {ws hs : List (List Nat)} : ∀ {n k : Nat} {s f : Fm}, okF ws hs n s → okF ws [] k f → ∀ p ∈ Cn s f, p.1 ∈ hs ∧ okF ws [] k p.2
  | 0, _, _, _, h, _, _, _ => h.elim
  | n + 1, k, .hole c, f, h, g, p, hp => by
    rw [List.mem_singleton.mp hp]
    exact ⟨h, g⟩
  | n + 1, 0, .bin _ _ _, _, _, g, _, _ => g.elim
  | n + 1, k + 1, .bin j a b, .bin i c d, h, g, p, hp => by
    rcases List.mem_append.mp (show p ∈ Cn a c ++ Cn b d from hp) with z | z
    · have y := cn_ok h.1 g.1 p z
      exact ⟨y.1, y.2.up⟩
    · have y := cn_ok h.2 g.2 p z
      exact ⟨y.1, y.2.up⟩
  | n + 1, k + 1, .bin _ _ _, .fls, _, _, p, hp => by cases hp
  | n + 1, k + 1, .bin _ _ _, .atom _, _, _, p, hp => by cases hp
  | n + 1, k + 1, .bin _ _ _, .hole _, _, _, p, hp => by cases hp
  | n + 1, k, .fls, f, _, _, p, hp => by cases f <;> cases hp
  | n + 1, k, .atom _, f, _, _, p, hp => by cases f <;> cases hp
theorem nodup_le {α : Type} [DecidableEq α] : ∀ {l k : List α}, l.Nodup → (∀ x ∈ l, x ∈ k) → l.length ≤ k.length
  | [], _, _, _ => Nat.zero_le _
  | x :: r, k, h, hs => by
    have h' := List.nodup_cons.mp h
    have hx : x ∈ k := hs x (by simp)
    have z := nodup_le (k := k.erase x) h'.2 fun y hy => (List.mem_erase_of_ne (fun e => h'.1 (by rw [← e]; exact hy))).mpr (hs y (by simp [hy]))
    rw [List.length_erase_of_mem hx] at z
    have : 0 < k.length := List.length_pos_of_mem hx
    simp only [List.length_cons]
    omega
/-! ### tables in the heap -/
def TR (K : PySem.W.Frag) (H : Hp) (kv : Key × V) (e : List Nat × Fm) : Prop := kv.1 = Sum.inr (SX.S e.1) ∧ Fr K H kv.2 e.2
def TabAt (K : PySem.W.Frag) (H : Hp) (T : Addr) (m : Tab) : Prop := ∃ kvs, H T = some (.dK kvs) ∧ Paired (TR K H) kvs m
def TOk (ws hs : List (List Nat)) (N : Nat) (m : Tab) : Prop := Fn m ∧ ∀ p ∈ m, p.1 ∈ hs ∧ okF ws [] N p.2
theorem key_S (a b : List Nat) : (Sum.inr (SX.S a) : Key) = Sum.inr (SX.S b) ↔ a = b := ⟨fun h => SX.S_inj (Sum.inr.inj h), fun h => by rw [h]⟩
theorem tab_some {K : PySem.W.Frag} {H : Hp} : ∀ {kvs : List (Key × V)} {m : Tab}, Paired (TR K H) kvs m → ∀ {c : List Nat} {t : Fm}, tg m c = some t → ∃ v, valV kvs (Sum.inr (SX.S c)) = some v ∧ Fr K H v t
  | _, _, .nil, c, t, h => by cases h
  | _, _, .cons (a := kv) (b := e) r rs, c, t, h => by
    have h' : (if e.1 = c then some e.2 else tg _ c) = some t := h
    by_cases he : e.1 = c
    · rw [if_pos he] at h'
      cases h'
      exact ⟨kv.2, valV_pos (by rw [r.1, he]), r.2⟩
    · rw [if_neg he] at h'
      obtain ⟨v, h1, h2⟩ := tab_some rs h'
      exact ⟨v, by rw [valV_neg (fun z => he ((key_S _ _).mp (r.1.symm.trans z)))]; exact h1, h2⟩
theorem tab_none {K : PySem.W.Frag} {H : Hp} : ∀ {kvs : List (Key × V)} {m : Tab}, Paired (TR K H) kvs m → ∀ {c : List Nat}, tg m c = none → valV kvs (Sum.inr (SX.S c)) = none
  | _, _, .nil, c, _ => rfl
  | _, _, .cons (a := kv) (b := e) r rs, c, h => by
    have h' : (if e.1 = c then some e.2 else tg _ c) = none := h
    by_cases he : e.1 = c
    · rw [if_pos he] at h'
      cases h'
    · rw [if_neg he] at h'
      rw [valV_neg (fun z => he ((key_S _ _).mp (r.1.symm.trans z)))]
      exact tab_none rs h'
theorem tab_same {K : PySem.W.Frag} {H H' : Hp} (s : Same H H') {kvs : List (Key × V)} {m : Tab} (h : Paired (TR K H) kvs m) : Paired (TR K H') kvs m := paired_imp (fun _ _ z => ⟨z.1, z.2.same s⟩) h
theorem TabAt.same {K : PySem.W.Frag} {H H' : Hp} (s : Same H H') {T : Addr} {m : Tab} (h : TabAt K H T m) : TabAt K H' T m := by
  obtain ⟨kvs, h1, h2⟩ := h
  exact ⟨kvs, s _ _ h1, tab_same s h2⟩
theorem paired_snoc {α β : Type} {R : α → β → Prop} : ∀ {l : List α} {m : List β} {a : α} {b : β}, Paired R l m → R a b → Paired R (l ++ [a]) (m ++ [b])
  | _, _, _, _, .nil, h => .cons h .nil
  | _, _, _, _, .cons r t, h => .cons r (paired_snoc t h)
theorem mt_tok {ws hs : List (List Nat)} {n N : Nat} {s f : Fm} {m m' : Tab} (h : mt s f m = some m') (ok : TOk ws hs N m) (hs1 : okF ws hs n s) (hf : okF ws [] N f) : TOk ws hs N m' := by
  obtain ⟨h1, h2, h3⟩ := mt_some h ok.1
  refine ⟨h1, fun p hp => ?_⟩
  rcases (h3 p).mp hp with z | z
  · exact ok.2 p z
  · exact cn_ok hs1 hf p z
/-- the first word of a formula, and the tuple that it is -/
def hd0 : Fm → Str
  | .fls => "false"
  | .atom _ => "atom"
  | .hole _ => "hole"
  | .bin k _ _ => kd k
theorem fr_head {K : PySem.W.Frag} {H : Hp} {v : V} {t : Fm} (h : Fr K H v t) : ∃ p r, v = .ref p ∧ SqT K H p (.str (hd0 t) :: r) := by
  cases t with
  | fls => obtain ⟨p, e, q⟩ := fr_fls h; exact ⟨p, _, e, q⟩
  | atom u => obtain ⟨p, e, q⟩ := fr_atom h; exact ⟨p, _, e, q⟩
  | hole u => obtain ⟨p, e, q⟩ := fr_hole h; exact ⟨p, _, e, q⟩
  | bin k a b => obtain ⟨p, x, y, e, q, _⟩ := fr_bin h; exact ⟨p, _, e, q⟩
theorem in_kd (k : Fin 3) : (!inV (.str (kd k)) [.str "then", .str "and", .str "or"]) = false := by
  revert k
  decide +kernel
theorem at_head {x : V} {r : List V} : atI (x :: r) 0 = some x := at_any (j := 0) rfl rfl
theorem kd_in (k : Fin 3) : inV (.str (kd k)) [.str "then", .str "and", .str "or"] = true := by
  revert k
  decide +kernel
/-! ### the stack of holes_of: its list, the top last -/
def PairAt (K : PySem.W.Frag) (H : Hp) (v : V) (e : Fm × Fm) : Prop := ∃ p x y, v = .ref p ∧ SqT K H p [x, y] ∧ Fr K H x e.1 ∧ Fr K H y e.2
theorem PairAt.same {K : PySem.W.Frag} {H H' : Hp} (s : Same H H') {v : V} {e : Fm × Fm} (h : PairAt K H v e) : PairAt K H' v e := by
  obtain ⟨p, x, y, h1, h2, h3, h4⟩ := h
  exact ⟨p, x, y, h1, sameT s h2, h3.same s, h4.same s⟩
inductive Stk (K : PySem.W.Frag) (H : Hp) : List V → List (Fm × Fm) → Prop
  | nil : Stk K H [] []
  | push {vs : List V} {v : V} {r : List (Fm × Fm)} {e : Fm × Fm} : Stk K H vs r → PairAt K H v e → Stk K H (vs ++ [v]) (e :: r)
theorem Stk.len {K : PySem.W.Frag} {H : Hp} {vs : List V} {l : List (Fm × Fm)} (h : Stk K H vs l) : vs.length = l.length := by
  induction h with
  | nil => rfl
  | push _ _ ih => rw [List.length_append, ih]; rfl
theorem tot_len : ∀ l : List (Fm × Fm), l.length ≤ tot l
  | [] => Nat.le_refl _
  | e :: r => by
    have z := tot_len r
    have : 1 ≤ sz e.1 := by cases e.1 <;> simp only [sz] <;> omega
    simp only [tot, List.length_cons]
    omega
structure Setting (ws hs : List (List Nat)) (N : Nat) : Prop where
  lw : ∀ w ∈ ws, Low w
  lh : ∀ c ∈ hs, Low c
  n : N ≤ 60
  len : hs.length ≤ 900
/-! ### tuples stay, whatever list or dict is changed -/
def Tp (H H' : Hp) : Prop := ∀ p xs, Rd H p (.tup xs) → Rd H' p (.tup xs)
theorem Tp.of {H H' : Hp} (s : Same H H') : Tp H H' := fun p xs h => RdLe.of s p _ h
theorem Tp.trans {H H1 H2 : Hp} (a : Tp H H1) (b : Tp H1 H2) : Tp H H2 := fun p xs h => b p xs (a p xs h)
theorem Tp.upd {H : Hp} {a : Addr} {u o : HO} (h : H a = some u) (mu : Mut (some u)) : Tp H (upd H a o) := fun p xs q => by
  have np : p ≠ a := by
    rintro rfl
    rcases q with q | ⟨o', q⟩ <;> (rw [h] at q; cases q; exact mu)
  rcases q with q | ⟨o', q⟩
  · exact .inl (by rw [upd_ne np]; exact q)
  · exact .inr ⟨o', by rw [upd_ne np]; exact q⟩
section
variable {K : PySem.W.Frag} {H H' : Hp}
theorem Tp.seq (s : Tp H H') {a : Addr} {xs : List V} (h : SqT K H a xs) : SqT K H' a xs := h.imp (s _ _) id
theorem Fr.tp (s : Tp H H') : ∀ {t : Fm} {v : V}, Fr K H v t → Fr K H' v t
  | .fls, _, h => by
    obtain ⟨p, rfl, q⟩ := fr_fls h
    exact mk_fls (s.seq q)
  | .atom w, _, h => by
    obtain ⟨p, rfl, q⟩ := fr_atom h
    exact mk_atom (s.seq q)
  | .hole w, _, h => by
    obtain ⟨p, rfl, q⟩ := fr_hole h
    exact mk_hole (s.seq q)
  | .bin j a b, _, h => by
    obtain ⟨p, x, y, rfl, q, ha, hb⟩ := fr_bin h
    exact mk_bin (s.seq q) (Fr.tp s ha) (Fr.tp s hb)
theorem tab_tp (s : Tp H H') {kvs : List (Key × V)} {m : Tab} (h : Paired (TR K H) kvs m) : Paired (TR K H') kvs m := paired_imp (fun _ _ z => ⟨z.1, z.2.tp s⟩) h
theorem PairAt.tp (s : Tp H H') {v : V} {e : Fm × Fm} (h : PairAt K H v e) : PairAt K H' v e := by
  obtain ⟨p, x, y, h1, h2, h3, h4⟩ := h
  exact ⟨p, x, y, h1, s.seq h2, h3.tp s, h4.tp s⟩
theorem Stk.tp (s : Tp H H') {vs : List V} {l : List (Fm × Fm)} (h : Stk K H vs l) : Stk K H' vs l := by
  induction h with
  | nil => exact .nil
  | push _ hp ih => exact .push ih (hp.tp s)
end
theorem last_at (vs : List V) (v : V) : (vs ++ [v])[(vs ++ [v]).length - 1]? = some v := by simp
/-! ### a table as data -/
def ent (e : List Nat × Fm) : PyData × PyData := (.str (SX.S e.1), e.2.dat)
theorem paired_perm {α β : Type} {R : α → β → Prop} {m n : List β} (p : m.Perm n) : ∀ {l : List α}, Paired R l m → ∃ k, l.Perm k ∧ Paired R k n := by
  induction p with
  | nil => intro l h; exact ⟨l, .refl _, h⟩
  | cons x _ ih =>
    intro l h
    cases h with
    | cons r t =>
      obtain ⟨k, h1, h2⟩ := ih t
      exact ⟨_, h1.cons _, .cons r h2⟩
  | swap x y l' =>
    intro l h
    cases h with
    | cons r t =>
      cases t with
      | cons r2 t2 => exact ⟨_, .swap _ _ _, .cons r2 (.cons r t2)⟩
  | trans _ _ ih1 ih2 =>
    intro l h
    obtain ⟨k, h1, h2⟩ := ih1 h
    obtain ⟨k2, h3, h4⟩ := ih2 h2
    exact ⟨k2, h1.trans h3, h4⟩
theorem paired_map {α β γ : Type} {R : α → β → Prop} {S : α → γ → Prop} (g : β → γ) (f : ∀ a b, R a b → S a (g b)) : ∀ {l : List α} {m : List β}, Paired R l m → Paired S l (m.map g)
  | _, _, .nil => .nil
  | _, _, .cons r t => .cons (f _ _ r) (paired_map g f t)
theorem tab_keys {K : PySem.W.Frag} {H : Hp} : ∀ {kvs : List (Key × V)} {m : Tab}, Paired (TR K H) kvs m → kvs.map (·.1) = m.map fun e => Sum.inr (SX.S e.1)
  | _, _, .nil => rfl
  | _, _, .cons r t => by rw [List.map_cons, List.map_cons, tab_keys t, r.1]
theorem fn_keys {m : Tab} (h : Fn m) : (m.map fun e => (Sum.inr (SX.S e.1) : Key)).Nodup := by
  induction m with
  | nil => exact List.nodup_nil
  | cons e r ih =>
    unfold Fn at h
    rw [List.map_cons, List.nodup_cons] at h
    rw [List.map_cons, List.nodup_cons]
    refine ⟨fun z => ?_, ih h.2⟩
    obtain ⟨e', h1, h2⟩ := List.mem_map.mp z
    exact h.1 (List.mem_map.mpr ⟨e', h1, (key_S _ _).mp h2⟩)
theorem da_tab {K : PySem.W.Frag} {H : Hp} {T : Addr} {m1 m2 : Tab} (h : TabAt K H T m1) (p : m1.Perm m2) (n : Fn m1) : Da K H (.ref T) (.dict (m2.map ent)) := by
  obtain ⟨kvs, h1, h2⟩ := h
  obtain ⟨k, h3, h4⟩ := paired_perm p h2
  exact .dic h1 h3 (by rw [tab_keys h2]; exact fn_keys n) (paired_map ent (fun _ _ z => ⟨by rw [z.1]; rfl, z.2⟩) h4)
theorem oka_tab {ws hs : List (List Nat)} {N n : Nat} {m : Tab} (hw : ∀ c ∈ hs, Low c) (h : TOk ws hs N m) (hl : hs.length < 64) (hn : N + 1 ≤ n) (up : ∀ (t : Fm), okF ws [] N t → oka n t.dat = true) : oka (n + 1) (.dict (m.map ent)) = true := by
  simp only [oka, Bool.and_eq_true, decide_eq_true_eq, List.all_eq_true, List.length_map]
  refine ⟨?_, fun e he => ?_⟩
  · have z := nodup_le (k := hs) h.1 fun x hx => by
      obtain ⟨e, he, rfl⟩ := List.mem_map.mp hx
      exact (h.2 e he).1
    rw [List.length_map] at z
    omega
  · obtain ⟨p, hp, rfl⟩ := List.mem_map.mp he
    exact ⟨low_lay (hw _ (h.2 p hp).1), up _ (h.2 p hp).2⟩
theorem okF_oka {ws hs : List (List Nat)} {N n : Nat} {t : Fm} (h : okF ws hs N t) (hn : N ≤ n) : oka (n + 1) t.dat = true := ok_oka (h.le hn)
theorem sz_pow {ws hs : List (List Nat)} : ∀ {n : Nat} {t : Fm}, okF ws hs n t → sz t + 1 ≤ 2 ^ n
  | 0, _, h => h.elim
  | n + 1, .fls, _ => by have : 1 ≤ 2 ^ n := Nat.one_le_two_pow; simp only [sz, Nat.pow_succ]; omega
  | n + 1, .atom _, _ => by have : 1 ≤ 2 ^ n := Nat.one_le_two_pow; simp only [sz, Nat.pow_succ]; omega
  | n + 1, .hole _, _ => by have : 1 ≤ 2 ^ n := Nat.one_le_two_pow; simp only [sz, Nat.pow_succ]; omega
  | n + 1, .bin _ a b, h => by
    have h1 := sz_pow h.1
    have h2 := sz_pow h.2
    simp only [sz, Nat.pow_succ]
    omega
theorem sz_le {ws hs : List (List Nat)} {n : Nat} {t : Fm} (h : okF ws hs n t) (hn : n ≤ 9 := by decide) : sz t ≤ 900 := by
  have z := sz_pow (h.le hn)
  have : 2 ^ 9 = 512 := by decide
  omega
theorem vals_rev {zs : List V} {ws : List Value} (r : Vals zs ws) : Vals zs.reverse ws.reverse := by
  induction r with
  | nil => exact .nil
  | cons h _ ih =>
    rw [List.reverse_cons, List.reverse_cons]
    exact Vals.append ih (.cons h .nil)
end Ag
namespace Ag
open PySem PySem.Spec PyProof.Rows L2
/-! ### what the program holds for a formula, for a shape -/
def Sml : Fm → Prop
  | .fls => True
  | .atom w => w.length ≤ 1000
  | .hole c => c.length ≤ 1000
  | .bin _ a b => Sml a ∧ Sml b
def isB : Nat → Bool → Fm → Bool
  | 0, _, _ => false
  | _ + 1, _, .fls => true
  | _ + 1, _, .atom w => isNm w
  | _ + 1, h, .hole c => h && isLet c
  | d + 1, h, .bin _ a b => isB d h a && isB d h b
theorem isB_ok {ws hs : List (List Nat)} {h : Bool} (hw : ∀ w ∈ ws, isNm w = true) (hh : ∀ c ∈ hs, (h && isLet c) = true) : ∀ {n : Nat} {t : Fm}, okF ws hs n t → isB n h t = true
  | 0, _, z => z.elim
  | _ + 1, .fls, _ => rfl
  | _ + 1, .atom w, z => hw w z
  | _ + 1, .hole c, z => hh c z
  | n + 1, .bin _ a b, z => by
    show (isB n h a && isB n h b) = true
    rw [isB_ok hw hh z.1, isB_ok hw hh z.2]
    rfl
theorem isB_up {h : Bool} : ∀ {n : Nat} {t : Fm}, isB n h t = true → isB (n + 1) h t = true
  | 0, _, z => by cases z
  | _ + 1, .fls, _ => rfl
  | _ + 1, .atom w, z => z
  | _ + 1, .hole c, z => z
  | n + 1, .bin _ a b, z => by
    have z' : (isB n h a && isB n h b) = true := z
    rw [Bool.and_eq_true] at z'
    show (isB (n + 1) h a && isB (n + 1) h b) = true
    rw [isB_up z'.1, isB_up z'.2]
    rfl
theorem isB_le {h : Bool} {n m : Nat} {t : Fm} (z : isB n h t = true) (e : n ≤ m) : isB m h t = true := by
  induction e with
  | refl => exact z
  | step _ ih => exact isB_up ih
theorem sml_ok {ws hs : List (List Nat)} (hw : ∀ w ∈ ws, w.length ≤ 1000) (hh : ∀ c ∈ hs, c.length ≤ 1000) : ∀ {n : Nat} {t : Fm}, okF ws hs n t → Sml t
  | 0, _, z => z.elim
  | _ + 1, .fls, _ => trivial
  | _ + 1, .atom w, z => hw w z
  | _ + 1, .hole c, z => hh c z
  | n + 1, .bin _ a b, z => ⟨sml_ok hw hh z.1, sml_ok hw hh z.2⟩
theorem shaped_bin {k : Fin 3} {a b : Fm} (h : SeqAt.shaped (Fm.bin k a b).dat = true) : SeqAt.shaped a.dat = true ∧ SeqAt.shaped b.dat = true := by
  unfold SeqAt.shaped at h ⊢
  rw [Bool.and_eq_true, decide_eq_true_eq] at h
  have h1 : (PyData.canLay0 (.str (kd k)) && (PyData.canLay0 a.dat && (PyData.canLay0 b.dat && true))) = true := h.1
  have h2 : max 0 (max (PyData.depth a.dat) (max (PyData.depth b.dat) 0)) + 1 ≤ 64 := h.2
  simp only [Bool.and_eq_true, Bool.and_true] at h1
  rw [h1.2.1, h1.2.2, decide_eq_true (by omega), decide_eq_true (by omega)]
  exact ⟨rfl, rfl⟩
end Ag

namespace Ag
open PySem PySem.Spec PyProof.Rows L2
/-! ### a call that hands over values which read the cells of this def -/
structure PinsOf (X : Cx) (σ : L2.St) (l : Pins) : Prop where
  at_ : ∀ x c, X.env.cells.lookup x = some c → ∃ o v, l.lookup c = some o ∧ o.data = .cell v
  val : ∀ (i : Nat) (x : Str) (v : V), X.N[i]? = some x → σ[i]? = some (some v) → X.env.scope.names.lookup x = some .cell ∨ X.env.scope.names.lookup x = some .free → ∃ c o u, X.env.cells.lookup x = some c ∧ l.lookup c = some o ∧ o.data = .cell (some u) ∧ RelV v u
theorem lookup_mem {α β : Type} [BEq α] [LawfulBEq α] : ∀ {l : List (α × β)} {a : α} {b : β}, l.lookup a = some b → (a, b) ∈ l
  | (k, v) :: r, a, b, h => by
    rw [List.lookup_cons] at h
    cases e : a == k with
    | true =>
      rw [e] at h
      cases h
      rw [eq_of_beq e]
      exact List.mem_cons_self
    | false =>
      rw [e] at h
      exact List.mem_cons_of_mem _ (lookup_mem h)
theorem lookup_has {α β : Type} [BEq α] [LawfulBEq α] : ∀ {l : List (α × β)} {a : α} {b : β}, (a, b) ∈ l → ∃ b', l.lookup a = some b'
  | (k, v) :: r, a, b, h => by
    rw [List.lookup_cons]
    cases e : a == k with
    | true => exact ⟨_, rfl⟩
    | false =>
      rcases List.mem_cons.mp h with z | z
      · cases z
        simp at e
      · exact lookup_has z
/-- the cells' objects -/
def cpins (cells : List (Str × Addr)) (h : Heap) : Pins := cells.filterMap fun p => if cells.lookup p.1 = some p.2 then (h.get? p.2).map fun ob => (p.2, ob) else none
theorem pins_lookup {cells : List (Str × Addr)} {h : Heap} {b : Addr} {o : Obj} (e : (cpins cells h).lookup b = some o) : h.get? b = some o ∧ ∃ x, cells.lookup x = some b := by
  obtain ⟨p, hp, e2⟩ := List.mem_filterMap.mp (lookup_mem e)
  split at e2
  · rename_i q
    obtain ⟨ob, h1, h2⟩ := Option.map_eq_some_iff.mp e2
    cases h2
    exact ⟨h1, p.1, q⟩
  · cases e2
section
variable {X : Cx} {pins : List (Addr × Obj)} {σ : L2.St} {H : Hp} {s : Shared}
theorem cell_pins (I : Inv X pins σ H s) (hfn : ∀ x, X.fn x = true) : ∃ l : Pins, (∀ b o, l.lookup b = some o → s.heap.get? b = some o ∧ H b = none ∧ X.base.get? b = none ∧ b ∉ frs X.stack) ∧ PinsOf X σ l := by
  have lk : ∀ {x c}, X.env.cells.lookup x = some c → ∃ o v, (cpins X.env.cells s.heap).lookup c = some o ∧ o.data = .cell v := fun {x c} z => by
    obtain ⟨v, o, h1, h2⟩ := I.cell x c z
    obtain ⟨o2, h3⟩ := lookup_has (l := cpins X.env.cells s.heap) (a := c) (b := o) (List.mem_filterMap.mpr ⟨(x, c), lookup_mem z, by
      show (if X.env.cells.lookup x = some c then (s.heap.get? c).map fun ob => (c, ob) else none) = some (c, o)
      rw [if_pos z, h1]
      rfl⟩)
    have h4 := (pins_lookup h3).1
    rw [h1] at h4
    cases h4
    exact ⟨o, v, h3, h2⟩
  refine ⟨cpins X.env.cells s.heap, fun b o e => ?_, ⟨fun x c z => lk z, fun i x v h1 h2 h3 => ?_⟩⟩
  · obtain ⟨h1, x, hx⟩ := pins_lookup e
    have ab := I.ok.cab x b (hfn x) hx
    refine ⟨h1, I.freeC x b hx, ?_, fun hm => ?_⟩
    · cases q : X.base.get? b with
      | none => rfl
      | some ob => exact absurd (Heap.lt_size q) (Nat.not_lt.mpr (Nat.le_trans I.ok.bsz ab))
    · rcases List.mem_cons.mp (I.stkSub b hm) with z | z
      · exact I.cne x b hx z
      · obtain ⟨_, ob, ho, _⟩ := I.ok.funs.mem z
        exact absurd (Heap.lt_size ho) (Nat.not_lt.mpr ab)
  · obtain ⟨m, hn, hl⟩ := I.loc
    obtain ⟨u, ru, q⟩ := hl i x v h1 h2 (.inr h3)
    rcases q with ⟨k, _⟩ | ⟨_, c, k, o, h5, h6⟩
    · have k2 : X.env.scope.names.lookup x = some .local := k
      rcases h3 with z | z <;> (rw [z] at k2; cases k2)
    · obtain ⟨o2, v2, h7, h8⟩ := lk k
      have h9 := (pins_lookup h7).1
      rw [h5] at h9
      cases h9
      exact ⟨c, o, u, k, h7, h6, ru⟩
end
/-- from the maker's cells to those of a lambda -/
theorem cells_in {X : Cx} {σ : L2.St} {l : Pins} {scope : Scope} {N : List Str} {τ : L2.St} (ok : X.Ok) (P : PinsOf X σ l) (hf : ∀ y ∈ scope.names, y.2 = .free → X.env.scope.names.lookup y.1 = some .cell ∨ X.env.scope.names.lookup y.1 = some .free)
    (hs : ∀ (i : Nat) (x : Str) (v : V), N[i]? = some x → τ[i]? = some (some v) → ∃ j : Nat, X.N[j]? = some x ∧ σ[j]? = some (some v)) : CellsIn N τ scope (cloFrom X.env.cells scope.names []) l := by
  have has : ∀ y ∈ scope.names, y.2 = .free → ∃ c, X.env.cells.lookup y.1 = some c := fun y hy e => ok.has _ (hf y hy e)
  have down : ∀ {x c}, (cloFrom X.env.cells scope.names []).lookup x = some c → X.env.cells.lookup x = some c := fun {x c} e => by
    rcases cloFrom_mem (PySem.mem_of_lookup e) with z | ⟨z1, z2⟩
    · cases z
    · obtain ⟨c1, hc⟩ := has _ z1 rfl
      have hc2 : X.env.cells.lookup x = some c1 := hc
      rw [z2, hc2]
      rfl
  have up : ∀ {x}, (x, NameKind.free) ∈ scope.names → ∃ c, (cloFrom X.env.cells scope.names []).lookup x = some c := fun {x} hy => mem_lookup (cloFrom_has (cells := X.env.cells) (acc := []) hy)
  refine ⟨fun x y c h1 h2 => ok.inj x y c (down h1) (down h2), fun y hy e => ?_, fun x c e => P.at_ x c (down e), fun i x v h1 h2 h3 => ?_⟩
  · obtain ⟨n, kd⟩ := y
    have e2 : kd = .free := e
    subst e2
    exact up hy
  · obtain ⟨j, g1, g2⟩ := hs i x v h1 h2
    have hm := PySem.mem_of_lookup h3
    obtain ⟨c, o, u, k1, k2, k3, k4⟩ := P.val j x v g1 g2 (hf _ hm rfl)
    obtain ⟨c2, hc2⟩ := up hm
    have := down hc2
    rw [k1] at this
    cases this
    exact ⟨c, o, u, hc2, k2, k3, k4⟩
/-- f(..), while the cells' objects are known to the letter -/
def tCallC (X : Cx) (sp : Sp) (t : TA) : TE := fun σ H Q => t σ H fun vs H1 => ∀ l : Pins, X.Ok → PinsOf X σ l → (∀ b o, l.lookup b = some o → H1 b = none) → sp vs (addp H1 l) (fun v H2 => (∀ b o, l.lookup b = some o → H2 b = some (pinO b o)) ∧ Q v (remp H2 l)) L2.E0
theorem pe_callC {X : Cx} {k : Nat} {f : Addr} {fd : FuncData} {ps : List Str} {sp : Sp} {x : Str} {p pos : Pos} {e : Expr} {es : List Expr} {t : TA} (F : FnOk X.prog X.w X.K X.mg X.base L2.CX0 k f fd ps sp) (room : Room k X.A) (hfn : ∀ x, X.fn x = true) (hg : Gl X x) (hm : X.mg x = some (.ref f)) (hk : PySem.W.keepIn X.K (.ref f) = true)
    (bi : Binds X.K fd ps []) (ha : PA X (e :: es) t) (hdb : (x == ("__debug__" : Str)) = false := by decide)
    (h1 : starEach (e :: es) X.env = (false, eval e X.env) :: starEach es X.env := by rfl) (h2 : (backTo pos (starEach es X.env)).any (·.1) = false := by rfl) :
    PE X (.Call (.Name x p) (e :: es) [] pos) (tCallC X sp t) := by
  refine ⟨fun pins s σ H Q I h => wpAny_Call_Name_kw (ld_glob I hg hm ?_ hdb)⟩
  refine PySem.W.callWith_K (h₀ := X.base) I.ok.mod.kin hk (thn (ha.run pos pins s σ H _ I h) fun us s1 ⟨vs, H1, J, rv, hsp⟩ => ⟨J.kIn, ?_⟩) h1 h2
  obtain ⟨l, hl, hp⟩ := cell_pins J hfn
  have sp1 := hsp l J.ok hp fun b o z => (hl b o z).2.1
  have ln : us.length = ps.length := (Vals.length rv).symm.trans (F.len _ _ _ _ sp1)
  have b := bi s1 us J.kIn (by rw [List.append_nil]; exact ln)
  rw [List.append_nil] at b
  refine wpAny_call (codeAny_mono (F.run X.A X.stack s1 (addp H1 l) ⟨us, []⟩ us vs _ _ room (env0_add J.env0 hl) b rv sp1) fun r s2 z => ?_)
  match r, z with
  | .ok (.ret u), z => exact J.after (ce_rem (fun b o q => ⟨(hl b o q).1, (hl b o q).2.1, (hl b o q).2.2.2⟩) (fun v H2 q => q) z)
end Ag

namespace Ag
open PySem PySem.Spec PyProof.Rows L2
/-! ### a def that hands out what reads its cells: they are known to the letter from then on -/
section
variable {X : Cx} {pins : List (Addr × Obj)} {σ : L2.St} {H : Hp} {s : Shared}
theorem cell_pins2 (I : Inv X pins σ H s) (hfn : ∀ x, X.fn x = true) : ∃ l : Pins, (∀ b o, l.lookup b = some o → s.heap.get? b = some o ∧ H b = none ∧ X.s_0.heap.objs.size ≤ b) ∧ PinsOf X σ l := by
  have lk : ∀ {x c}, X.env.cells.lookup x = some c → ∃ o v, (cpins X.env.cells s.heap).lookup c = some o ∧ o.data = .cell v := fun {x c} z => by
    obtain ⟨v, o, h1, h2⟩ := I.cell x c z
    obtain ⟨o2, h3⟩ := lookup_has (l := cpins X.env.cells s.heap) (a := c) (b := o) (List.mem_filterMap.mpr ⟨(x, c), lookup_mem z, by
      show (if X.env.cells.lookup x = some c then (s.heap.get? c).map fun ob => (c, ob) else none) = some (c, o)
      rw [if_pos z, h1]
      rfl⟩)
    have h4 := (pins_lookup h3).1
    rw [h1] at h4
    cases h4
    exact ⟨o, v, h3, h2⟩
  refine ⟨cpins X.env.cells s.heap, fun b o e => ?_, ⟨fun x c z => lk z, fun i x v h1 h2 h3 => ?_⟩⟩
  · obtain ⟨h1, x, hx⟩ := pins_lookup e
    exact ⟨h1, I.freeC x b hx, I.ok.cab x b (hfn x) hx⟩
  · obtain ⟨m, hn, hl⟩ := I.loc
    obtain ⟨u, ru, q⟩ := hl i x v h1 h2 (.inr h3)
    rcases q with ⟨k, _⟩ | ⟨_, c, k, o, h5, h6⟩
    · have k2 : X.env.scope.names.lookup x = some .local := k
      rcases h3 with z | z <;> (rw [z] at k2; cases k2)
    · obtain ⟨o2, v2, h7, h8⟩ := lk k
      have h9 := (pins_lookup h7).1
      rw [h5] at h9
      cases h9
      exact ⟨c, o, u, k, h7, h6, ru⟩
end
section
variable {fs : List Addr} {H H1 : Hp} {h h1 : Heap} {l : Pins}
theorem un_new (u : Un fs [] H H1 h h1) (hl : ∀ b o, l.lookup b = some o → H1 b = none ∧ h.objs.size ≤ b) : Un fs [] H (addp H1 l) h h1 := by
  have no : ∀ {b : Addr} {v : HO}, H1 b = some v → l.lookup b = none := fun {b v} n => by
    cases q : l.lookup b with
    | none => rfl
    | some o =>
      rw [(hl b o q).1] at n
      cases n
  exact {
    keep := u.keep
    slot := u.slot
    free := fun b o e n hx => by
      have q : l.lookup b = none := by
        cases q : l.lookup b with
        | none => rfl
        | some ob => exact absurd (Heap.lt_size e) (Nat.not_lt.mpr (hl b ob q).2)
      rw [addp_out q]
      exact u.free b o e n hx
    there := u.there
    tups := fun b xs e => by
      have z := u.tups b xs e
      rw [addp_out (no z)]
      exact z
    frzs := fun b o v e => by
      have z := u.frzs b o v e
      rw [addp_out (no z)]
      exact z
    tbls := fun b ps e => by
      obtain ⟨m, z⟩ := u.tbls b ps e
      exact ⟨m, by rw [addp_out (no z)]; exact z⟩ }
end
section
variable {P : Program} {w : World} {K : PySem.W.Frag} {mg : Str → Option Value} {base : Heap}
theorem ok_keep {x qual : Str} {st : Stmt} {f c : Addr} {fd : FuncData} {N ps : List Str} {k : Nat} {sp : Sp} {e : Expr} {pos : Pos} (F : Fun K x qual st f fd) (hc : fd.code = .ref c) (hb : defBody st = [.Return (some e) pos]) (sc : FnScope N ps (defScope st))
    (len : ∀ vs H Q E, sp vs H Q E → vs.length = ps.length)
    (body : ∀ (A : Around) (outer : List Env) (s : Shared) (H : Hp) (vs : List V) (Q : VK) (E : XK), Room k (A.deeper (envOfC qual (defScope st) s.heap.objs.size f (.ref c))) → sp vs H Q E →
      ∃ t, PE (cxOf L2.CX0 P w K mg base N qual (defScope st) f (.ref c) A outer s H E).nox e t ∧
        t (L2.start N vs) H (fun v H' => ∀ l : Pins, (cxOf L2.CX0 P w K mg base N qual (defScope st) f (.ref c) A outer s H E).nox.Ok → PinsOf (cxOf L2.CX0 P w K mg base N qual (defScope st) f (.ref c) A outer s H E).nox (L2.start N vs) l → (∀ b o, l.lookup b = some o → H' b = none) → Q v (addp H' l))) :
    FnOk P w K mg base L2.CX0 (k + 1) f fd ps sp := by
  obtain ⟨oc, od, kV, doc, pm, an, cdv, ct, osl, rfl, look, code⟩ := F.ex
  have ecd : cdv = .ref c := hc
  subst ecd
  refine ⟨len, fun A outer s H args us vs Q E room e0 bs rv hsp => ?_⟩
  have hl := len _ _ _ _ hsp
  have inK : K.In s.heap := e0.mod.kin.keeps fun c oo z => (e0.bs c oo z).1
  have nolim : s.heap.NoLimit := e0.mod.nolimit.keeps fun c oo z => (e0.bs c oo z).1
  have kinds : ∀ y ∈ ps.zip us, (defScope st).names.lookup y.1 = some .local ∨ ((defScope st).names.lookup y.1 = some .cell ∧ ((cellsFrom (s.heap.objs.size + 1) (defScope st).names []).lookup y.1).isSome = true) := by
    rintro ⟨n, v⟩ hy
    exact (sc.par n (List.of_mem_zip hy).1).imp id fun q => ⟨q, PySem.W.cellsFrom_some _ _ _ (.inl q)⟩
  refine codeAny_call_function room.depth (inK _ _ look) rfl sc.co sc.gen rfl (PySem.W.codeRec_of inK code) (bs _ _ _ _ ?_)
  refine wpAny_newFunctionEnv_cells sc.kind kinds fun env he s1 ic => ?_
  subst he
  refine ⟨nolim.keeps ic.toInCall.keep, codeAny_func ?_⟩
  obtain ⟨t, ht, hq⟩ := body A outer s H vs Q E (room.deeper _) hsp
  have I : Inv (cxOf L2.CX0 P w K mg base N qual (defScope st) f (.ref c) A outer s H E) [] (L2.start N vs) H s1 := inv_start sc room.hd e0 hl rv ic
  rw [hb]
  refine wpAny_execs_cons (wpAny_Return_some (wpAny_mono (ht.run [] s1 (L2.start N vs) H _ (I.wish _) hq) (fun u s' z => ?_) fun e s' z => False.elim z))
  obtain ⟨v, H2, J, r2, q2⟩ := z
  obtain ⟨l, hl2, hp⟩ := cell_pins2 J (fun _ => rfl)
  exact ⟨v, addp H2 l, J.os, J.bare, un_new J.base (fun b o z => (hl2 b o z).2), hok_add J.hok (fun b o z => ⟨(hl2 b o z).1, (hl2 b o z).2.1⟩), r2, q2 l J.ok hp (fun b o z => (hl2 b o z).2.1)⟩
end
/-! ### x in a tuple of data; a text times a number -/
section
variable {X : Cx}
def rInDT (K : PySem.W.Frag) : R2 := fun x y H Q => ∃ d ds, Dp K H x d ∧ Dp K H y (.tuple ds) ∧ d.canLay0 = true ∧ PyData.canLayAll0 ds = true ∧ PyData.depthAll ds = 0 ∧ Q (.bl (ds.any fun z => PyData.eqv z d)) H
theorem op_inDT (hu : X.A.units + 64 < cLine) : OpR X (compareOp .In) (rInDT X.K) := by
  intro pins s σ H x y v u Q I rx ry h
  obtain ⟨d, ds, hd, he, sd, se, z, q⟩ := h
  obtain ⟨as, r1⟩ := Dp.reads I d x v hd rx
  obtain ⟨bs, r2⟩ := Dp.reads I (.tuple ds) y u he ry
  exact SeqAt.in_tuple_reads r2 r1 se sd (by rw [z, Nat.zero_min]; omega) ⟨.bl _, H, I, rfl, q⟩
theorem op_mul_str : OpR X (binaryOp .Mult) (fun x y H Q => ∃ z n, x = .str z ∧ y = .int n ∧ MulOk z n ∧ Q (.str (Txt.mul z n)) H) := by
  intro pins s σ H x y v u Q I rx ry h
  obtain ⟨z, n, rfl, rfl, hm, q⟩ := h
  obtain ⟨t, rfl⟩ := rx
  obtain ⟨t2, rfl⟩ := ry
  exact SB.mul hm fun t' k => ⟨.str _, H, I.tok _, ⟨_, rfl⟩, q⟩
end
end Ag

namespace PySem
namespace HandSPX
open Builtin Builtin.ObjectAttr
section
variable {prog : Program} {w : World} {A : Around} {E : Value → Shared → Prop} {hp : Heap} {gs : Array GenState} {dr : Drawn} {tk : Nat} {os : OsState} {nm q : Str} {C N : Addr} {bs bm tl : List Value} {hdct : Bool} {sn : List Str} {sub : List Value} {ab : Bool} {col : Option Bool} {dd : Option Addr} {k0 k1 k2 k3 k5 : Option Value} {B nid iid : String}
theorem agk_check (F : ExcBaseFacts B nid iid tl) (hT : ∀ Y : String, bm.contains (.type Y) = tl.contains (.type Y)) {xs : List Value} {kws : List (Str × Value)} {Q : Unit → Shared → Prop}
    (hC : hp.get? C = some (excClassObj nm q C N bs bm hdct sn sub ab col dd k0 k1 k2 k3 k5 nid)) (hq : Q () ⟨hp, gs, dr, tk, os⟩) : wpAny (model prog w) A (checkBuiltinCall nid ⟨.ref C :: xs, kws⟩) Q E ⟨hp, gs, dr, tk, os⟩ := by
  have inB : (Value.ref C :: bm).contains (.type B) = true := by
    rw [List.contains_cons, hT, F.hasB, Bool.or_true]
  have st := F.noStar
  simp only [checkBuiltinCall, F.newKind, F.newSplit, F.newRow]
  repeat (first
    | refine wpAny_loadPart_at hC ?_
    | (refine wpAny_isSubtype_exc hC ?_; rw [inB])
    | refine wpAny_staticBase_exc hC ?_
    | refine wpAny_madeBy_exc hC ?_
    | simp only [bne_self_eq_false, Bool.false_eq_true, if_false]
    | wp_step)
  exact hq
theorem agk_new (F : ExcBaseFacts B nid iid tl) (hT : ∀ Y : String, bm.contains (.type Y) = tl.contains (.type Y)) {xs : List Value} {kws : List (Str × Value)} {R : Result → Shared → Prop}
    (hC : hp.get? C = some (excClassObj nm q C N bs bm hdct sn sub ab col dd k0 k1 k2 k3 k5 nid)) (hx : xs.length ≤ sizeLine)
    (hq : R (.ok (.ret (.ref (hp.objs.size + 1)))) ⟨(hp.push (W.kdv_tup xs)).push (excO C hp.objs.size), gs, dr, tk, os⟩) : codeAny (model prog w) A (.builtin nid ⟨.ref C :: xs, kws⟩) R ⟨hp, gs, dr, tk, os⟩ := by
  have fe := F.ends
  have inB : (Value.ref C :: bm).contains (.type B) = true := by
    rw [List.contains_cons, hT, F.hasB, Bool.or_true]
  have inA : (Value.ref C :: bm).contains (.type "AttributeError") = false := by
    rw [List.contains_cons, hT, F.noAttr]
    rfl
  have inN : (Value.ref C :: bm).contains (.type "NameError") = false := by
    rw [List.contains_cons, hT, F.noName]
    rfl
  refine codeAny_builtinAt F.entry ?_
  unfold Builtin.«BaseException.__new__»
  refine wpAt_bind ?_
  show wpAt _ _ _ (stack >>= _) _ _ _
  refine wpAt_bind (wpAt_stack fun pp bl => wpAt_of_wpAny ?_)
  wp_walk
  refine wpAt_of_wpAny ?_
  rw [F.owner]
  repeat (first
    | with_reducible refine wpAny_madeHere_exc F.canon hC ?_
    | with_reducible refine wpAny_loadPart_at hC ?_
    | (with_reducible refine wpAny_isSubtype_exc hC ?_; first | rw [inB] | rw [inA] | rw [inN])
    | wp_step)
  show R _ _
  rw [Heap.size_push]
  exact hq
theorem agk_type (F : ExcBaseFacts B nid iid tl) (hT : ∀ Y : String, bm.contains (.type Y) = tl.contains (.type Y)) {xs : List Value} {kws : List (Str × Value)} {fI : Addr} {Q : Fin → Shared → Prop}
    (hC : hp.get? C = some (excClassObj nm q C N bs bm hdct sn sub ab col dd k0 k1 k2 k3 k5 nid)) (hi : W.Looks (model prog w) hp (typeLookup (.ref C) "__init__") (some (.ref fI)))
    (hb : ∀ self, W.Looks (model prog w) hp (bindSpecial (.ref fI) self) (.ref fI, [self])) (hx : xs.length ≤ sizeLine)
    (hq : codeAny (model prog w) A (.call (.ref fI) ⟨.ref (hp.objs.size + 1) :: xs, kws⟩) (fun r s' => match r with
      | .ok (.ret v) => v = .none ∧ Q (.done (.ret (.ref (hp.objs.size + 1)))) s'
      | .ok _ => False
      | .error e => E e s') ⟨(hp.push (W.kdv_tup xs)).push (excO C hp.objs.size), gs, dr, tk, os⟩) :
    wpAny (model prog w) A (Builtin.«type.__call__» ⟨.ref C :: xs, kws⟩) Q E ⟨hp, gs, dr, tk, os⟩ := by
  repeat (first
    | with_reducible refine wpAny_loadPart_at hC ?_
    | with_reducible refine wpAny_madeBy_exc hC ?_
    | wp_step)
  refine codeAny_call_builtin_code (Code.quiet_builtin _ F.quiet) (agk_check F hT hC (agk_new F hT hC hx ?_))
  show wpAny _ _ _ _ _ _
  have kp : ∀ b o, hp.get? b = some o → ((hp.push (W.kdv_tup xs)).push (excO C hp.objs.size)).get? b = some o := fun b o e => Heap.get?_push_of_some _ (Heap.get?_push_of_some _ e)
  have hC2 := kp _ _ hC
  have he : ((hp.push (W.kdv_tup xs)).push (excO C hp.objs.size)).get? (hp.objs.size + 1) = some (excO C hp.objs.size) := by heap_get
  have own : (Value.ref C :: bm).contains (.ref C) = true := by simp
  unfold isInstance
  repeat (first
    | with_reducible refine wpAny_loadPart_at he ?_
    | (with_reducible refine wpAny_isSubtype_exc hC2 ?_; rw [own])
    | wp_step)
  show wpAny _ _ (typeLookup (.ref C) _) _ _ _
  refine (hi.keeps kp).at (wpAny_holding (wpAny_bind (((hb (.ref (hp.objs.size + 1))).keeps kp).at (wpAny_bind (wpAny_call (codeAny_mono hq fun r s' z => ?_))))))
  rcases r with e | (v | _ | _ | _) <;> first | exact z | exact z.elim | skip
  obtain ⟨rfl, z⟩ := z
  first
    | exact wpAny_pure (wpAny_pure z)
    | (wp_walk; exact z)
theorem agk_call (F : ExcBaseFacts B nid iid tl) (hT : ∀ Y : String, bm.contains (.type Y) = tl.contains (.type Y)) {xs : List Value} {kws : List (Str × Value)} {fI : Addr} {R : Result → Shared → Prop}
    (hC : hp.get? C = some (excClassObj nm q C N bs bm hdct sn sub ab col dd k0 k1 k2 k3 k5 nid)) (hi : W.Looks (model prog w) hp (typeLookup (.ref C) "__init__") (some (.ref fI)))
    (hb : ∀ self, W.Looks (model prog w) hp (bindSpecial (.ref fI) self) (.ref fI, [self])) (hx : xs.length ≤ sizeLine)
    (hq : codeAny (model prog w) (A.under (.builtin "type.__call__" ⟨.ref C :: xs, kws⟩)) (.call (.ref fI) ⟨.ref (hp.objs.size + 1) :: xs, kws⟩) (W.InitBack (hp.objs.size + 1) R)
      ⟨(hp.push (W.kdv_tup xs)).push (excO C hp.objs.size), gs, dr, tk, os⟩) : codeAny (model prog w) A (.call (.ref C) ⟨xs, kws⟩) R ⟨hp, gs, dr, tk, os⟩ := by
  have g1 := tc_lookup
  have g2 := tc_bind (.ref C)
  have ty : (⟨hp, gs, dr, tk, os⟩ : Shared).TypeIs (.ref C) "type" := ⟨_, hC, rfl⟩
  refine codeAny_of_tree ?_
  show wpAny _ _ (callAny (.ref C) _) _ _ _
  repeat (any_goals (first
    | assumption
    | with_reducible refine wpAny_loadPart_at hC ?_
    | wp_step))
  refine ⟨rfl, codeAny_call_builtin_at (Code.quiet_builtin _ (by decide +kernel)) entry_typeCall ?_⟩
  refine wpAny_check_type_call_sub hC (agk_type F hT hC hi hb hx (codeAny_mono hq fun r s' z => ?_))
  rcases r with e | (v | _ | _ | _) <;> exact z
end
end HandSPX
end PySem
namespace Ag
open PySem PySem.Spec PyProof.Rows L2
section
variable {X : Cx} {pins : List (Addr × Obj)} {σ : L2.St} {H : Hp} {s : Shared} {h' : Heap}
/-- one object is written anew, another one is added -/
theorem inv_two {a dx : Addr} {oa od : HO} {tk : Nat} (I : Inv X pins σ H s) (mu : Mut (H a)) (dn : s.heap.objs.size ≤ dx) (k : ∀ b u, b ≠ a → s.heap.get? b = some u → h'.get? b = some u) (ha : ∃ u, h'.get? a = some u)
    (newA : ObjOk X.prog X.w (upd (upd H dx od) a oa) h' a oa) (newD : ObjOk X.prog X.w (upd (upd H dx od) a oa) h' dx od) : Inv X pins σ (upd (upd H dx od) a oa) { s with heap := h', toks := tk } := by
  have hdx : H dx = none := I.hok.fresh dn
  have nm : ∀ {b : Addr}, ¬ Mut (H b) → b ≠ a := fun n z => n (z ▸ mu)
  have n0 : ∀ {b : Addr}, H b = none → b ≠ a := fun z => nm (by rw [z]; exact id)
  have nd : ∀ {b : Addr} {u : Obj}, s.heap.get? b = some u → b ≠ dx := fun z => Nat.ne_of_lt (Nat.lt_of_lt_of_le (Heap.lt_size z) dn)
  have up : ∀ {b : Addr} {v : HO}, H b = some v → b ≠ a → upd (upd H dx od) a oa b = some v := fun {b v} z n => by
    rw [upd_ne n, upd_ne (ne_of_none z hdx)]
    exact z
  refine I.un (t' := tk) ⟨?_, ?_, ?_, ?_, ?_, ?_, ?_⟩ fun b v z => ?_
  · exact fun b u z n _ _ => k b u (n0 n) z
  · exact fun b u z n _ _ => ⟨_, k b u (n0 n) z⟩
  · intro b u z n _
    rw [upd_ne (n0 n), upd_ne (nd z)]
    exact n
  · intro b u z _
    by_cases e : b = a
    · rw [e]
      exact ha
    · exact ⟨u, k b u e z⟩
  · exact fun b xs z => up z (nm (by rw [z]; exact id))
  · exact fun b u v z => up z (nm (by rw [z]; exact id))
  · exact fun b ps z => ⟨#[], by
      rw [up z (nm (by rw [z]; exact id))]
      simp⟩
  · by_cases e1 : b = a
    · subst e1
      rw [upd_same] at z
      cases z
      exact newA
    · rw [upd_ne e1] at z
      by_cases e2 : b = dx
      · subst e2
        rw [upd_same] at z
        cases z
        exact newD
      · rw [upd_ne e2] at z
        refine (I.hok b v z).stay (fun c u hc y => k c u ?_ y) (fun c y => up y (nm (by rw [y]; exact id))) fun c xs y => up y (nm (by rw [y]; exact id))
        rcases hc with hc | hc
        · rw [hc]
          exact e1
        · exact nm (by rw [hc]; exact id)
end
/-! ### exceptions as values: classes over any base -/
abbrev nine : List Str := ["code", "value", "at", "line", "most", "path", "name", "user", "reason"]
structure XcC (K : PySem.W.Frag) (B nid iid : String) (tl : List Value) (C : Addr) : Prop where
  F : ExcBaseFacts B nid iid tl
  SF : StoreFacts B tl "object.__setattr__" "object"
  ini : PySem.W.excInitIn K C tl nid = true
  ovr : PySem.W.excOver K C tl = true
  hd : PySem.W.hasDictIn K C = true
  sa : PySem.W.findIn K (.ref C) "__setattr__" = some (some (.builtin "object.__setattr__"))
  ga : PySem.W.findIn K (.ref C) "__getattribute__" = some (some (.builtin "BaseException.__getattribute__"))
  gg : PySem.W.findIn K (.ref C) "__getattr__" = some none
  exC : PySem.W.subIn K (.ref C) (.type "BaseException") = some true
  kC : PySem.W.keepIn K (.ref C) = true
  nf : ∀ n ∈ nine, PySem.W.findIn K (.ref C) n = some none
  cl : PySem.W.findIn K (.ref C) "__class__" = some (some (.builtin "object.__class__"))
  sg : PySem.W.specialIn K (.builtin "object.__class__") "__get__" = some (some (.builtin "getset_descriptor.__get__"))
  tk : PySem.W.takesIn K (.builtin "object.__class__") = some true
  mo : PySem.W.mroIn K C (.type "object") = some true
theorem any_of {α : Type} {o : Option α} {p : α → Bool} (h : o.any p = true) : ∃ x, o = some x ∧ p x = true := by
  cases o with
  | none => cases h
  | some x => exact ⟨x, rfl, h⟩
section
variable {X : Cx} {pins : List (Addr × Obj)} {σ : L2.St} {H : Hp} {s : Shared} {B nid iid : String} {tl : List Value} {a C dx : Addr} {f : Str} {y : V} {u : Value} {fs : List (Str × V)} {Q : Unit → Shared → Prop} {E : Value → Shared → Prop} {A : Around}
theorem XcC.tkr {K : PySem.W.Frag} (T : XcC K B nid iid tl C) (hf : f ∈ nine) : PySem.W.takerIn K C f = some none := by
  unfold PySem.W.takerIn
  rw [T.nf f hf]
  rfl
open Builtin Builtin.ObjectAttr in
/-- self.f = y, where there is no dict yet -/
theorem xs_new (T : XcC X.K B nid iid tl C) (I : Inv X pins σ H s) (e : H a = some (exo a C none)) (hf : f ∈ nine) (ry : RelV y u)
    (h : ∀ dx s', H dx = none → dx ≠ a → Inv X pins σ (upd (upd H dx (exd dx [(f, y)])) a (exo a C (some dx))) s' → Q () s') : wpAny (model X.prog X.w) A (setAttr (.ref a) f u) Q E s := by
  obtain ⟨t1, ho⟩ := exo_at I.hok e
  obtain ⟨cd, hc, hdd⟩ := any_of (show (PySem.W.clsIn X.K C).any (·.hasDict) = true from T.hd)
  have lt := Heap.lt_size ho
  refine PySem.W.set_plain (od := none) I.kIn ⟨ho, rfl, rfl, trivial⟩ T.sa ?_
  refine PySem.W.osa_openX (od := none) T.SF I.kIn ⟨ho, rfl, rfl, trivial⟩ T.ovr (T.tkr hf) fun bb => ?_
  show wpAny _ _ (storeInOwnDict (.ref a) (.ref C) (.str f s.toks) f u bb) _ _ _
  unfold storeInOwnDict ownDictForStores
  refine wpAny_bind (wpAny_pure (wpAny_bind (PySem.W.instanceDict_exc ho (PySem.W.looks_clsIn I.kIn hc) hdd ?_)))
  obtain ⟨hp, gs, dr, tk, os⟩ := s
  have ne : a ≠ hp.objs.size := Nat.ne_of_lt lt
  refine PySem.HandSPX.store_in_new (tk := tk) ⟨_, #[], _, (Heap.get?_update_ne _ _ _ _ ne.symm).trans (Heap.get?_push_at rfl rfl), rfl, fun e he => absurd he (by simp), fun _ => rfl⟩ fun h' tk' hn' sb => ?_
  have ha : h'.get? a = some { cls := .ref C, dict := some hp.objs.size, data := .fields #[.ref t1, .none, .none, .none, .bool false, .none] } := (sb.2 a ne).trans (Heap.get?_update_self _ (Heap.get?_push_of_some _ ho) rfl)
  refine h hp.objs.size _ (I.hok.fresh (Nat.le_refl _)) ne.symm (inv_two (I.tok (tk + 1)) (by rw [e]; exact True.intro) (Nat.le_refl _) (fun b u nb z => ?_) ⟨_, ha⟩ (exo_ok ha) (exd_ok hn' (relO_put (fs := []) ry fun g => True.intro)))
  exact (sb.2 b (Nat.ne_of_lt (Heap.lt_size z))).trans ((Heap.get?_update_ne _ _ _ _ nb).trans (Heap.get?_push_of_some _ z))
open Builtin Builtin.ObjectAttr in
/-- self.f = y, a further one -/
theorem xs_old (T : XcC X.K B nid iid tl C) (I : Inv X pins σ H s) (e : H a = some (exo a C (some dx))) (ed : H dx = some (exd dx fs)) (hl : fs.length ≤ 900) (hf : f ∈ nine) (ry : RelV y u) (h : ∀ s', Inv X pins σ (upd H dx (exd dx ((f, y) :: fs))) s' → Q () s') :
    wpAny (model X.prog X.w) A (setAttr (.ref a) f u) Q E s := by
  obtain ⟨t1, ho⟩ := exo_at I.hok e
  obtain ⟨mA, hn, rel⟩ := exd_at I.hok ed
  have hw := within_of rel
  obtain ⟨cd, hc, hdd⟩ := any_of (show (PySem.W.clsIn X.K C).any (·.hasDict) = true from T.hd)
  obtain ⟨hp, gs, dr, tk, os⟩ := s
  obtain ⟨oD, _, _, hoD, _, _⟩ := hn.count hw
  refine PySem.W.set_plain (od := some oD) I.kIn ⟨ho, rfl, rfl, hoD⟩ T.sa ?_
  refine PySem.W.osa_openX (od := some oD) T.SF I.kIn ⟨ho, rfl, rfl, hoD⟩ T.ovr (T.tkr hf) fun bb => ?_
  show wpAny _ _ (storeInOwnDict (.ref a) (.ref C) (.str f tk) f u bb) _ _ _
  unfold storeInOwnDict ownDictForStores instanceDict
  refine wpAny_bind (wpAny_pure (wpAny_bind (wpAny_bind (wpAny_loadPart ho ?_))))
  refine wpAny_bind ((PySem.W.looks_clsIn (M := model X.prog X.w) I.kIn hc).at ?_)
  rw [if_neg (by rw [hdd]; decide)]
  refine wpAny_pure ?_
  refine PySem.OEX.store_in_old (tk := tk) hn hw (by rw [List.length_map]; omega) fun h' tk' hn' sb => ?_
  have hd : ∃ o, h'.get? dx = some o := by
    obtain ⟨o, _, _, z, _⟩ := hn'
    exact ⟨o, z⟩
  exact h _ ((I.tok (tk + 1)).write (t' := tk') (x := dx) (e := dx) (o := exd dx ((f, y) :: fs)) (by rw [ed]; exact True.intro) (.inl rfl) (fun b u nb z => (sb.2 b nb).trans z) hd (exd_ok hn' (relO_put ry rel)))
end
/-- some such class -/
def XC (K : PySem.W.Frag) (C : Addr) : Prop := ∃ (B nid iid : String) (tl : List Value), XcC K B nid iid tl C
/-- self.f = e -/
def tXs (K : PySem.W.Frag) (f : Str) (to te : TE) : TS := fun D σ H => te σ H fun y H1 => to σ H1 fun x H2 => ∃ a C : Addr, x = .ref a ∧ XC K C ∧ f ∈ nine ∧
  ((H2 a = some (exo a C none) ∧ ∀ dx, H2 dx = none → dx ≠ a → D.nx σ (upd (upd H2 dx (exd dx [(f, y)])) a (exo a C (some dx)))) ∨
    ∃ (dx : Addr) (fs : List (Str × V)), H2 a = some (exo a C (some dx)) ∧ H2 dx = some (exd dx fs) ∧ fs.length ≤ 900 ∧ D.nx σ (upd H2 dx (exd dx ((f, y) :: fs))))
section
variable {X : Cx} {o e : Expr} {es : List Expr} {to te : TE} {ta : TA} {f : Str} {p p' pos : Pos}
theorem ps_xs (ho : PE X o to) (he : PE X e te) (hs : swapsWith e (some (.Attribute o f p')) pos.line X.env = pure false := by rfl) : PS X (.Assign [.Attribute o f p'] e pos) (tXs X.K f to te) := by
  refine ⟨fun pins s σ H D I h => plainObj_wpAny_Assign_Attribute (thn (he.run pins s σ H _ I h) fun v s1 ⟨y, H1, I1, r1, q1⟩ => thn (ho.run pins s1 σ H1 _ I1 q1) fun u s2 z => ?_) hs⟩
  obtain ⟨x, H2, I2, r2, a, C, rfl, ⟨B, nid, iid, tl, T⟩, hf, q⟩ := z
  obtain rfl : u = Value.ref a := r2
  rcases q with ⟨ea, q⟩ | ⟨dx, fs, ea, ed, hl, q⟩
  · exact xs_new T I2 ea hf r1 fun dx s' n ne J => ⟨σ, _, J, q dx n ne⟩
  · exact xs_old T I2 ea ed hl hf r1 fun s' J => ⟨σ, _, J, q⟩
/-- C(..): its own __init__ keeps sp -/
theorem xc_core {pins : List (Addr × Obj)} {s1 : Shared} {σ : L2.St} {H1 : Hp} {Q : VK} {C fI : Addr} {k : Nat} {fd : FuncData} {ps : List Str} {sp : Sp} {us zs : List Value} {vs : List V} {kws : List (Str × Value)} (T : XC X.K C) (iC : PySem.W.findIn X.K (.ref C) "__init__" = some (some (.ref fI)))
    (tI : PySem.W.typeIn X.K (.ref fI) = some (.type "function")) (G : FnOk X.prog X.w X.K X.mg X.base L2.CX0 k fI fd ps sp) (hr : Room (k + 1) X.A) (I : Inv X pins σ H1 s1) (hz : us.length ≤ 1000) (rv : Vals vs zs)
    (hb : ∀ (t : Shared) (a : Addr), X.K.In t.heap → zs.length + 1 = ps.length → BindsTo t fd ⟨.ref a :: us, kws⟩ (ps.zip (.ref a :: zs)))
    (h : ∀ a, H1 a = none → sp (.ref a :: vs) (upd H1 a (exo a C none)) (fun v H2 => v = .non ∧ Q (.ref a) H2) (fun _ _ _ => False)) : wpAny (model X.prog X.w) X.A (call (.ref C) us kws) (EP X pins σ Q) X.xe s1 := by
  obtain ⟨B, nid, iid, tl, T⟩ := T
  obtain ⟨nm, N, qn, bs, bm, hdct, sn, sub, ab, col, dd, k0, k1, k2, k3, k5, hC, hT⟩ := PySem.W.excInit_of I.kIn T.ini
  obtain ⟨hp, gs, dr, tk, os⟩ := s1
  have big : hp.objs.size ≤ hp.objs.size + 1 := Nat.le_succ _
  have hq := h _ (I.hok.fresh big)
  have he : ((hp.push (PySem.W.kdv_tup us)).push (PySem.HandSPX.excO C hp.objs.size)).get? (hp.objs.size + 1) = some (PySem.HandSPX.excO C hp.objs.size) := by heap_get
  have J : Inv X pins σ (upd H1 (hp.objs.size + 1) (exo (hp.objs.size + 1) C none)) ⟨(hp.push (PySem.W.kdv_tup us)).push (PySem.HandSPX.excO C hp.objs.size), gs, dr, tk, os⟩ :=
    I.laid (t' := tk) (a := hp.objs.size + 1) (fun b o z => Heap.get?_push_of_some _ (Heap.get?_push_of_some _ z)) big (exo_ok he)
  have ln : zs.length + 1 = ps.length := by
    have z := G.len _ _ _ _ hq
    rw [← rv.length]
    exact z
  refine wpAny_call (PySem.HandSPX.agk_call T.F hT hC (PySem.W.looks_findIn I.kIn iC) (fun self => PySem.W.bind_fn I.kIn self tI) (small hz) ?_)
  refine codeAny_mono (G.run _ X.stack _ _ ⟨.ref (hp.objs.size + 1) :: us, kws⟩ _ _ _ (fun _ _ _ => False) (hr.make C us kws) (J.env0.make C us kws) (hb _ _ J.kIn ln) (Paired.cons (show RelV (V.ref (hp.objs.size + 1)) (Value.ref (hp.objs.size + 1)) from rfl) rv) hq) fun r s' z => ?_
  cases r with
  | error er => exact (pass0 (X := X)) pins σ _ _ er s' J z
  | ok fl =>
    cases fl with
    | ret u =>
      obtain ⟨v, H2, J2, r2, rfl, q2⟩ := J.after z
      exact ⟨r2, .ref _, H2, J2, rfl, q2⟩
    | next => exact False.elim z
    | brk => exact False.elim z
    | cont => exact False.elim z
/-- what a class and its __init__ leave -/
structure XcI (X : Cx) (x : Str) (C fI : Addr) (k : Nat) (fd : FuncData) (ps : List Str) (sp : Sp) : Prop where
  T : XC X.K C
  iC : PySem.W.findIn X.K (.ref C) "__init__" = some (some (.ref fI))
  tI : PySem.W.typeIn X.K (.ref fI) = some (.type "function")
  G : FnOk X.prog X.w X.K X.mg X.base L2.CX0 k fI fd ps sp
  hb : Binds X.K fd ps []
  m : X.mg x = some (.ref C)
  kC : PySem.W.keepIn X.K (.ref C) = true
def tXc (C : Addr) (sp : Sp) (ta : TA) : TE := fun σ H Q => ta σ H fun vs H1 => vs.length ≤ 1000 ∧ ∀ a, H1 a = none → sp (.ref a :: vs) (upd H1 a (exo a C none)) (fun v H2 => v = .non ∧ Q (.ref a) H2) (fun _ _ _ => False)
theorem pe_xc {x : Str} {C fI : Addr} {k : Nat} {fd : FuncData} {ps : List Str} {sp : Sp} {e : Expr} (M : XcI X x C fI k fd ps sp) (hr : Room (k + 1) X.A) (hg : Gl X x) (ha : PA X (e :: es) ta) (hdb : (x == ("__debug__" : Str)) = false := by decide)
    (he : starEach (e :: es) X.env = (false, eval e X.env) :: starEach es X.env := by rfl) (hpl : (backTo pos (starEach es X.env)).any (·.1) = false := by rfl) : PE X (.Call (.Name x p) (e :: es) [] pos) (tXc C sp ta) := by
  refine ⟨fun pins s σ H Q I h => wpAny_Call_Name_kw (ld_glob I hg M.m ?_ hdb)⟩
  refine PySem.W.callWith_K (h₀ := X.base) I.ok.mod.kin M.kC (thn (ha.run pos pins s σ H _ I h) fun us s1 ⟨vs, H1, I1, r1, hz, q⟩ => ⟨I1.kIn, ?_⟩) he hpl
  refine xc_core M.T M.iC M.tI M.G hr I1 (by show us.length ≤ 1000; rw [← Paired.length r1]; exact hz) r1 (fun t a hk l => ?_) q
  have z := M.hb t (.ref a :: us) hk (by rw [List.append_nil]; exact l)
  rw [List.append_nil] at z
  exact z
theorem pe_xc0 {x : Str} {C fI : Addr} {k : Nat} {fd : FuncData} {ps : List Str} {sp : Sp} (M : XcI X x C fI k fd ps sp) (hr : Room (k + 1) X.A) (hg : Gl X x) (hdb : (x == ("__debug__" : Str)) = false := by decide) : PE X (.Call (.Name x p) [] [] pos) (tXc C sp tNil) := by
  refine ⟨fun pins s σ H Q I h => wpAny_Call_Name_kw (ld_glob I hg M.m ?_ hdb)⟩
  refine PySem.W.callWith_K0 I.kIn M.kC (xc_core M.T M.iC M.tI M.G hr I (by show 0 ≤ 1000; decide) .nil (fun t a hk l => ?_) h.2)
  have z := M.hb t [.ref a] hk (by rw [List.append_nil]; exact l)
  rw [List.append_nil] at z
  exact z
/-- C(a=.., ..) -/
structure XcK (X : Cx) (fd : FuncData) (ps ks : List Str) (g : List Value → List Value) (gV : List V → List V) : Prop where
  to : ∀ (t : Shared) (a : Addr) (ws : List Value), X.K.In t.heap → ws.length = ks.length → BindsTo t fd ⟨[.ref a], ks.zip ws⟩ (ps.zip (.ref a :: g ws))
  rel : ∀ {zs : List V} {ws : List Value}, Vals zs ws → Vals (gV zs) (g ws)
def tXcK (C : Addr) (n : Nat) (sp : Sp) (gV : List V → List V) (tk : TA) : TE := fun σ H Q => tk σ H fun zs H1 => zs.length = n ∧ ∀ a, H1 a = none → sp (.ref a :: gV zs) (upd H1 a (exo a C none)) (fun v H2 => v = .non ∧ Q (.ref a) H2) (fun _ _ _ => False)
theorem pe_xcK {x : Str} {C fI : Addr} {k : Nat} {fd : FuncData} {ps ks : List Str} {sp : Sp} {kws : List Keyword} {tk : TA} {g : List Value → List Value} {gV : List V → List V} (M : XcI X x C fI k fd ps sp) (N : XcK X fd ps ks g gV) (hr : Room (k + 1) X.A) (hg : Gl X x) (hkw : PK X kws tk)
    (hall : (backToKw pos (keywordEach kws X.env)).all (·.1.isSome) = true := by rfl) (hks : (backToKw pos (keywordEach kws X.env)).filterMap (·.1) = ks := by rfl) (hdb : (x == ("__debug__" : Str)) = false := by decide)
    (hpl : ((backTo pos (starEach [] X.env)).any (·.1) || (backToKw pos (keywordEach kws X.env)).any (·.1.isNone)) = false := by rfl) : PE X (.Call (.Name x p) [] kws pos) (tXcK C ks.length sp gV tk) := by
  refine ⟨fun pins s σ H Q I h => wpAny_Call_Name_kw (ld_glob I hg M.m ?_ hdb)⟩
  refine PySem.W.callWith_KW0 (h₀ := X.base) I.ok.mod.kin M.kC hall (thn (hkw.run pos pins s σ H _ I h) fun ws s2 ⟨zs, H2, I2, rz, l2, q⟩ => ⟨I2.kIn, ?_⟩) hpl
  rw [hks]
  exact xc_core M.T M.iC M.tI M.G hr I2 (by show 0 ≤ 1000; decide) (N.rel rz) (fun t a hk l => N.to t a ws hk (rz.length.symm.trans l2)) q
/-- e.n, e an exception -/
def tXg (K : PySem.W.Frag) (n : Str) (te : TE) : TE := fun σ H Q => te σ H fun x H1 => ∃ (a C dx : Addr) (fs : List (Str × V)) (v : V), x = .ref a ∧ H1 a = some (exo a C (some dx)) ∧ H1 dx = some (exd dx fs) ∧ XC K C ∧ n ∈ nine ∧ fs.lookup n = some v ∧ Q v H1
theorem pe_xg {n : Str} (he : PE X e te) (hb : attributeBase e n X.env (eval e X.env) = eval e X.env := by rfl) : PE X (.Attribute e n pos) (tXg X.K n te) := by
  refine ⟨fun pins s σ H Q I h => attr_of hb (thn (he.run pins s σ H _ I h) fun u s1 z => ?_)⟩
  obtain ⟨x, H1, J, rx, a, C, dx, fs, v, rfl, ha, hd, ⟨B, nid, iid, tl, T⟩, hn, hl, q⟩ := z
  obtain rfl : u = Value.ref a := rx
  obtain ⟨t1, ho⟩ := exo_at J.hok ha
  obtain ⟨mA, hns, hr⟩ := exd_at J.hok hd
  obtain ⟨od, hod, hk⟩ := lookIn_ns hns
  obtain ⟨u, hu, ru⟩ := RelO.some_of (v := v) (o := mA n) (by rw [← hl]; exact hr n)
  exact PySem.HandSPX.exc_get J.kIn (od := some od) ⟨ho, rfl, rfl, hod⟩ T.ga T.gg T.exC (PySem.W.findObj_own T.hd (T.nf n hn) rfl (by rw [hk, hu])) (handed_of ru) ⟨v, H1, J.tok _, ru, q⟩
/-- isinstance(e, c), e an exception -/
def rIsiX (K : PySem.W.Frag) : List V → Hp → VK → Prop := fun xs H Q => ∃ (a C : Addr) (d : Option Addr) (c : V) (u : Value) (b : Bool), xs = [.ref a, c] ∧ H a = some (exo a C d) ∧ (∀ dx, d = some dx → ∃ fs, H dx = some (exd dx fs)) ∧ XC K C ∧ ClsV c u ∧ PySem.W.kitOne K (.ref C) u = some b ∧ Q (.bl b) H
theorem call_isiX : CallR X (.builtin "isinstance") (rIsiX X.K) := by
  intro pins s σ H xs us Q I r h
  obtain ⟨a, C, d, c, u, b, rfl, ha, hd, ⟨B, nid, iid, tl, T⟩, hc, hk, q⟩ := h
  obtain ⟨u1, u2, rfl, r1, r2⟩ := vals2 r
  obtain rfl := hc.eq r2
  obtain rfl : u1 = Value.ref a := r1
  obtain ⟨t1, ho⟩ := exo_at I.hok ha
  obtain ⟨od, hod⟩ : ∃ od, PySem.W.InstAt s.heap a { cls := .ref C, dict := d, data := .fields #[.ref t1, .none, .none, .none, .bool false, .none] } C od := by
    cases d with
    | none => exact ⟨none, ho, rfl, rfl, trivial⟩
    | some dx =>
      obtain ⟨fs, hdx⟩ := hd dx rfl
      obtain ⟨mA, hns, _⟩ := exd_at I.hok hdx
      obtain ⟨od, hod, _⟩ := lookIn_ns hns
      exact ⟨some od, ho, rfl, rfl, hod⟩
  have hcl : (PySem.W.clsIn X.K C).isSome = true := by
    obtain ⟨cd, z, _⟩ := any_of (show (PySem.W.clsIn X.K C).any (·.hasDict) = true from T.hd)
    rw [z]
    rfl
  exact PySem.W.kia_one (PySem.W.kitx_exc hcl T.ga T.gg T.exC T.cl T.sg T.tk T.mo) I.kIn hod hk (fun z => nomatch z) fun t => ⟨.bl b, H, I.tok t, rfl, q⟩
end
end Ag

namespace Ag
open PySem PySem.Spec PyProof.Rows L2
def top (i : Nat) : Stmt := PySem.Challenge.pw_addedgrounds_k01_errors_by_themselves.main.body.getD i (.Pass ⟨0, 0, 0, 0⟩)
abbrev s_copied : Stmt := top 2
abbrev s_GroundError : Stmt := top 4
abbrev s_Missing : Stmt := top 5
abbrev s_InvalidName : Stmt := top 6
abbrev s_InvalidName_init : Stmt := inClass (top 6) 0
abbrev s_InvalidNumber : Stmt := top 7
abbrev s_InvalidNumber_init : Stmt := inClass (top 7) 0
abbrev s_InvalidFormula : Stmt := top 8
abbrev s_InvalidFormula_init : Stmt := inClass (top 8) 0
abbrev s_InvalidShape : Stmt := top 9
abbrev s_InvalidShape_init : Stmt := inClass (top 9) 0
abbrev s_InvalidRow : Stmt := top 10
abbrev s_InvalidRow_init : Stmt := inClass (top 10) 0
abbrev s_InvalidCommand : Stmt := top 11
abbrev s_InvalidCommand_init : Stmt := inClass (top 11) 0
abbrev s_InvalidText : Stmt := top 12
abbrev s_InvalidText_init : Stmt := inClass (top 12) 0
abbrev s_InvalidDeed : Stmt := top 13
abbrev s_InvalidDeed_init : Stmt := inClass (top 13) 0
abbrev s_InvalidPage : Stmt := top 14
abbrev s_InvalidPage_init : Stmt := inClass (top 14) 0
abbrev s_TooMany : Stmt := top 15
abbrev s_TooMany_init : Stmt := inClass (top 15) 0
abbrev s_TooLarge : Stmt := top 16
abbrev s_TooLarge_init : Stmt := inClass (top 16) 0
abbrev s_Circular : Stmt := top 17
abbrev s_Circular_init : Stmt := inClass (top 17) 0
abbrev s_NameInUse : Stmt := top 18
abbrev s_NameInUse_init : Stmt := inClass (top 18) 0
abbrev s_Full : Stmt := top 19
abbrev s_Full_init : Stmt := inClass (top 19) 0
abbrev s_Refused : Stmt := top 20
abbrev s_Refused_init : Stmt := inClass (top 20) 0
abbrev s_UnknownName : Stmt := top 21
abbrev s_UnknownName_init : Stmt := inClass (top 21) 0
abbrev s_NothingLeft : Stmt := top 22
abbrev s_NothingLeft_init : Stmt := inClass (top 22) 0
abbrev s_law_bag : Stmt := top 24
abbrev s_law_pull : Stmt := top 25
abbrev s_law_any : Stmt := top 26
abbrev s_law_like : Stmt := top 27
abbrev s_law_fields : Stmt := top 28
abbrev s_law_classes : Stmt := top 29
abbrev s_law : Stmt := top 30
end Ag
namespace Ag
open PySem PySem.Spec PyProof.Rows L2
section
variable {P : Program} {w : World} {K : PySem.W.Frag} {mg : Str → Option Value} {base : Heap}
/-! ### _law_bag -/
def spBag (K : PySem.W.Frag) : Sp := fun vs H Q _ => ∃ (a : Addr) (ns : List Int), vs = [.ref a] ∧ SqL K H a (ns.map V.int) ∧ ns.length ≤ 63 ∧
  ∀ (b l : Addr) (H' : Hp), H b = none → Same H H' → Bag H' b l → Q (.ref b) H'
theorem scBag : FnScope ["_law_script"] ["_law_script"] (defScope s_law_bag) := ⟨rfl, rfl, rfl, by decide +kernel, rfl, by decide +kernel, by decide +kernel⟩
theorem ok_bag {f : Addr} {fd : FuncData} (F : Fun K "_law_bag" "_law_bag" s_law_bag f fd) (ml : mg "list" = none) : FnOk P w K mg base CX0 1 f fd ["_law_script"] (spBag K) := by
  refine F.ok scBag (fun vs H Q E h => ?_) (fun cdv A outer s H vs Q E hr h => ?_)
  · obtain ⟨a, ns, rfl, _⟩ := h
    rfl
  obtain ⟨a, ns, rfl, hS, h63, q⟩ := h
  refine ⟨_, pss_one (ps_ret (pe_lst (pa_cons (pe_callTy call_list_of (by rfl) ml (by decide +kernel) (pa_cons (pe_slice sl_list (pv 0) po_none (po_some pe_int)) pa_nil))
    (pa_cons pe_int (pa_cons pe_int (pa_cons pe_int (pa_cons pe_int pa_nil))))))), ?_⟩
  refine ⟨_, rfl, _, rfl, a, _, rfl, hS, fun p np => ?_⟩
  have ec : cutV (ns.map V.int) none (some 63) = ns.map V.int := by
    unfold cutV
    have e1 : HT.sIx (ns.map V.int).length 0 none = 0 := rfl
    have e2 : HT.sIx (ns.map V.int).length (ns.map V.int).length (some 63) = (ns.map V.int).length := by
      rw [List.length_map]
      unfold HT.sIx
      simp
      omega
    rw [e1, e2, List.drop_zero, List.take_of_length_le (by omega)]
  rw [ec]
  refine ⟨p, _, rfl, .inl (SqL.of upd_same), fun l nl => ?_⟩
  have npl : p ≠ l := ne_of_none upd_same nl
  have nHl : H l = none := (same_new np _).free nl
  refine ⟨(by show 5 ≤ sizeLine; decide), fun b nb => ?_⟩
  have nlb : l ≠ b := ne_of_none upd_same nb
  have s1 := (same_new np (.lst (ns.map V.int))).trans (same_new nl (.lst (ns.map V.int)))
  refine q b l _ (s1.free nb) (s1.trans (same_new nb _)) ⟨ns, 0, 0, 4932, 0, upd_same, ?_, nlb, h63, by decide, by decide, by decide⟩
  rw [upd_ne nlb, upd_same]
end

section
variable {P : Program} {w : World} {K : PySem.W.Frag} {mg : Str → Option Value} {base : Heap}
/-! ### _law_pull -/
def spPull : Sp := fun vs H Q _ => ∃ (b l : Addr) (m : Int), vs = [.ref b, .int m] ∧ Bag H b l ∧ 0 < m ∧ m < 2 ^ 62 ∧
  ∀ (d : Int) (H' : Hp), 0 ≤ d → d < m → Kp b H H' → Bag H' b l → Q (.int d) H'
theorem scPull : FnScope ["_law_bag_here", "_law_many", "_law_cell", "_law_digit", "_law_seed"] ["_law_bag_here", "_law_many"] (defScope s_law_pull) := ⟨rfl, rfl, rfl, by decide +kernel, rfl, by decide +kernel, by decide +kernel⟩
theorem ok_pull {f : Addr} {fd : FuncData} (F : Fun K "_law_pull" "_law_pull" s_law_pull f fd) (ml : mg "len" = none) (mi : mg "int" = none) : FnOk P w K mg base CX0 1 f fd ["_law_bag_here", "_law_many"] spPull := by
  refine F.ok scPull (fun vs H Q E h => ?_) (fun cdv A outer s H vs Q E hr h => ?_)
  · obtain ⟨b, l, m, rfl, _⟩ := h
    rfl
  obtain ⟨b, l, m, rfl, hB, hm, hm', q⟩ := h
  have nd := scPull.nd
  refine ⟨_, pss_cons (ps_if (PW.pt (pw_and (pt_cmpR op_eq (pe_ix ix_list (pv 0) pe_int (fun _ _ => rfl)) pe_int (nomark _)) (pw_and1 (pt_cmpR op_lt (pe_ix ix_list (pv 0) pe_int (fun _ _ => rfl)) (pe_callB call_len_seq (by rfl) ml boot_len (pa_cons (pe_ix ix_list (pv 0) pe_int (fun _ _ => rfl)) pa_nil)) (nomark _)))))
      (pss_cons (ps_set (i := 2) nd rfl (.inl rfl) (pe_ix ix_list (pe_ix ix_list (pv 0) pe_int (fun _ _ => rfl)) (pe_ix ix_list (pv 0) pe_int (fun _ _ => rfl)) (fun _ _ => rfl)))
      (pss_cons (ps_asg (pe_op op_add (pe_ix ix_list (pv 0) pe_int (fun _ _ => rfl)) pe_int) (pg_sub (pv 0) pe_int set_list))
      (pss_one (ps_if (pt_cmpR op_ge (pv 2) (pe_op op_pow pe_int pe_int) (nomark _))
        (pss_one (ps_asg (pv 2) (pg_sub (pv 0) pe_int set_list)))
        (pss_one (ps_asg (pe_op op_modN (pe_callTy call_int1 (by rfl) mi (by decide +kernel) (pa_cons (pe_op op_add (pe_op op_add (pe_op op_mul (pe_ix ix_list (pv 0) pe_int (fun _ _ => rfl)) pe_int) (pe_op op_mul (pe_op op_modN (pe_callTy call_int1 (by rfl) mi (by decide +kernel) (pa_cons (pv 2) pa_nil)) pe_int) pe_int)) pe_int) pa_nil)) pe_int) (pg_sub (pv 0) pe_int set_list))))))) pss_nil)
    (pss_cons (ps_if (pt_cmpR op_gt (pe_ix ix_list (pv 0) pe_int (fun _ _ => rfl)) pe_int (nomark _))
      (pss_cons (ps_set (i := 3) nd rfl (.inl rfl) (pe_op op_modN (pe_callTy call_int1 (by rfl) mi (by decide +kernel) (pa_cons (pe_ix ix_list (pv 0) pe_int (fun _ _ => rfl)) pa_nil)) (pv 1)))
      (pss_cons (ps_asg (pe_op op_fdivW (pe_ix ix_list (pv 0) pe_int (fun _ _ => rfl)) (pv 1)) (pg_sub (pv 0) pe_int set_list))
      (pss_one (ps_ret (pv 3))))) pss_nil)
    (pss_cons (ps_asg (pe_op op_add (pe_ix ix_list (pv 0) pe_int (fun _ _ => rfl)) pe_int) (pg_sub (pv 0) pe_int set_list))
    (pss_cons (ps_set (i := 4) nd rfl (.inl rfl) (pe_ix ix_list (pv 0) pe_int (fun _ _ => rfl)))
    (pss_cons (ps_asg (pe_op op_modN (pe_callTy call_int1 (by rfl) mi (by decide +kernel) (pa_cons (pe_op op_add (pe_op op_add (pe_op op_add (pe_op op_mul (pe_op op_mul (pv 4) (pv 4)) pe_int) (pe_op op_mul (pv 4) pe_int)) (pe_op op_mul (pe_ix ix_list (pv 0) pe_int (fun _ _ => rfl)) pe_int)) pe_int) pa_nil)) pe_int) (pg_sub (pv 0) pe_int set_list))
    (pss_one (ps_ret (pe_op op_modN (pe_callTy call_int1 (by rfl) mi (by decide +kernel) (pa_cons (pe_op op_add (pe_op op_fdivN (pe_ix ix_list (pv 0) pe_int (fun _ _ => rfl)) pe_int) (pe_op op_mul (pe_op op_modN (pe_callTy call_int1 (by rfl) mi (by decide +kernel) (pa_cons (pe_ix ix_list (pv 0) pe_int (fun _ _ => rfl)) pa_nil)) pe_int) pe_int)) pa_nil)) (pv 1)))))))), ?_⟩
  refine tseq (fun σ' H' => ∃ cv : Option V, σ' = [some (.ref b), some (.int m), cv, none, none] ∧ Kp b H H' ∧ Bag H' b l) (fun σ' H1 hM => ?_) (fun tail => ?_)
  · obtain ⟨cv, rfl, k, ns, at', big, seed, cnt, h1, h2, hl, h63, hb, h0, h9⟩ := hM
    refine ⟨_, rfl, b, _, _, _, rfl, rfl, SqL.of h1, rfl, _, _, rfl, rfl, _, rfl, ?_⟩
    refine ite2 (fun c => ?_) (fun c => ?_)
    · refine ⟨_, rfl, b, _, _, _, rfl, rfl, SqL.of h1, rfl, .inl ⟨_, rfl, ?_⟩⟩
      refine ⟨_, rfl, _, _, rfl, rfl, (by omega), ?_⟩
      refine ⟨_, rfl, b, _, _, _, rfl, rfl, SqL.of h1, rfl, _, rfl, _, _, rfl, rfl, wide_div hm (b := 62) (by omega) (by decide) (by decide), ?_⟩
      refine ⟨_, rfl, b, _, _, _, rfl, rfl, h1, rfl, ?_⟩
      refine ⟨_, rfl, ?_⟩
      refine q _ _ (fm_in big hm).1 (fm_in big hm).2 (k.trans kp_upd) ⟨ns, at', big / m, seed, cnt, upd_same, ?_, hl, h63, Int.ediv_nonneg (by omega) (by omega), h0, h9⟩
      rw [upd_ne hl]; exact h2
    · refine ⟨_, rfl, b, _, _, _, rfl, rfl, SqL.of h1, rfl, _, _, rfl, rfl, _, rfl, b, _, _, _, rfl, rfl, h1, rfl, ?_⟩
      refine ⟨_, rfl, b, _, _, _, rfl, rfl, SqL.of upd_same, rfl, ?_⟩
      have cs : CMul seed seed := .inl ⟨by omega, by omega⟩
      have cr : ∀ i j : Int, -(2 ^ 64) < j ∧ j < 2 ^ 64 → CMul i j := fun i j h => .inr h
      refine ⟨_, rfl, _, rfl, _, _, rfl, rfl, cs, _, _, rfl, rfl, cr _ _ (by decide), _, rfl, _, _, rfl, rfl, cr _ _ (by decide), _, _, rfl, rfl,
        _, rfl, b, _, _, _, rfl, rfl, SqL.of upd_same, rfl, _, _, rfl, rfl, cr _ _ (by decide), _, _, rfl, rfl, _, _, rfl, rfl, .inl ⟨_, rfl, _, _, rfl, rfl, (by show (2147483629 : Int) ≠ 0; decide), ?_⟩⟩
      refine ⟨_, rfl, b, _, _, _, rfl, rfl, upd_same, rfl, ?_⟩
      have sd := fm_in (seed * seed * 3 + seed * 27011 + (cnt + 1) * 1299689 + 40507) (m := 2147483629) (by decide)
      refine ⟨_, rfl, b, _, _, _, rfl, rfl, SqL.of upd_same, rfl, _, _, rfl, rfl, ⟨by decide, by decide⟩, _, rfl, b, _, _, _, rfl, rfl, SqL.of upd_same, rfl, .inl ⟨_, rfl, _, _, rfl, rfl, (by show (7901 : Int) ≠ 0; decide), _, _, rfl, rfl, cr _ _ (by decide), _, _, rfl, rfl,
        .inl ⟨_, rfl, _, rfl, _, _, rfl, rfl, by omega, ?_⟩⟩⟩
      refine q _ _ (fm_in _ hm).1 (fm_in _ hm).2 (k.trans (kp_upd.trans kp_upd)) ⟨ns, at', big, _, cnt + 1, upd_same, ?_, hl, h63, hb, sd.1, sd.2⟩
      rw [upd_ne hl, upd_ne hl]; exact h2
  · obtain ⟨ns, at', big, seed, cnt, h1, h2, hl, h63, hb, h0, h9⟩ := hB
    refine ⟨_, rfl, b, _, _, _, rfl, rfl, SqL.of h1, rfl, rfl, _, rfl, ?_⟩
    refine ite2 (fun c => ?_) (fun c => ?_)
    · refine ⟨_, rfl, b, _, _, _, rfl, rfl, SqL.of h1, rfl, _, rfl, b, _, _, _, rfl, rfl, SqL.of h1, rfl, l, _, rfl, .inl (SqL.of h2), _, _, rfl, rfl, _, rfl, ?_⟩
      refine ite2 (fun c1 => ?_) (fun c1 => ?_)
      · have c2 : at' < (ns.map V.int).length := by have z := of_decide_eq_true c1; omega
        have c3 : at' < ns.length := by rw [List.length_map] at c2; exact c2
        have hv : atI (ns.map V.int) (at' : Int) = some (.int ns[at']) := atI_nat (by rw [List.getElem?_map, List.getElem?_eq_getElem c3]; rfl)
        refine ⟨_, rfl, b, _, _, _, rfl, rfl, SqL.of h1, rfl, _, rfl, b, _, _, _, rfl, rfl, SqL.of h1, rfl, l, _, _, _, rfl, rfl, SqL.of h2, hv, ?_⟩
        refine ⟨_, rfl, b, _, _, _, rfl, rfl, SqL.of h1, rfl, _, _, rfl, rfl, _, rfl, b, _, _, _, rfl, rfl, h1, rfl, ?_⟩
        refine ⟨_, rfl, _, _, rfl, rfl, ⟨by decide, by decide, by decide⟩, _, _, rfl, rfl, _, rfl, ?_⟩
        refine ite2 (fun c4 => ?_) (fun c4 => ?_)
        · have c5 : ns[at'] ≥ 10 ^ (18 : Int).toNat := of_decide_eq_true c4
          have c6 : (0 : Int) ≤ ns[at'] := by
            have z : (0 : Int) ≤ 10 ^ (18 : Int).toNat := by decide
            omega
          refine ⟨_, rfl, _, rfl, b, _, _, _, rfl, rfl, upd_same, rfl, ?_⟩
          refine tail _ _ ⟨_, rfl, kp_upd.trans kp_upd, ns, at' + 1, ns[at'], seed, cnt, upd_same, ?_, hl, h63, c6, h0, h9⟩
          rw [upd_ne hl, upd_ne hl]; exact h2
        · refine ⟨_, rfl, b, _, _, _, rfl, rfl, SqL.of upd_same, rfl, _, _, rfl, rfl, .inr ⟨by decide, by decide⟩, _, rfl, .inl ⟨_, rfl, _, _, rfl, rfl, (by show (2147483489 : Int) ≠ 0; decide), _, _, rfl, rfl, .inr ⟨by decide, by decide⟩, _, _, rfl, rfl, _, _, rfl, rfl,
            .inl ⟨_, rfl, _, _, rfl, rfl, (by show (2147483629 : Int) ≠ 0; decide), ?_⟩⟩⟩
          refine ⟨_, rfl, b, _, _, _, rfl, rfl, upd_same, rfl, ?_⟩
          have sd := fm_in (seed * 40009 + ns[at'].fmod 2147483489 * 30011 + 17) (m := 2147483629) (by decide)
          refine tail _ _ ⟨_, rfl, kp_upd.trans kp_upd, ns, at' + 1, big, _, cnt, upd_same, ?_, hl, h63, hb, sd.1, sd.2⟩
          rw [upd_ne hl, upd_ne hl]; exact h2
      · refine tail _ _ ⟨none, rfl, .refl _ _, ns, at', big, seed, cnt, h1, h2, hl, h63, hb, h0, h9⟩
    · exact tail _ _ ⟨none, rfl, .refl _ _, ns, at', big, seed, cnt, h1, h2, hl, h63, hb, h0, h9⟩
end

section
variable {P : Program} {w : World} {K : PySem.W.Frag} {mg : Str → Option Value} {base : Heap}
/-! ### _law_any -/
def spAny (K : PySem.W.Frag) : Sp := fun vs H Q _ => ∃ (b l : Addr) (x : V) (its : List V), vs = [.ref b, x] ∧ Bag H b l ∧ Itm K H b x its ∧ 0 < its.length ∧ its.length < 2 ^ 62 ∧
  ∀ (i : Nat) (v : V) (H' : Hp), its[i]? = some v → Kp b H H' → Bag H' b l → Q v H'
theorem scAny : FnScope ["_law_bag_here", "_law_things"] ["_law_bag_here", "_law_things"] (defScope s_law_any) := ⟨rfl, rfl, rfl, by decide +kernel, rfl, by decide +kernel, by decide +kernel⟩
theorem ok_any {f : Addr} {fd : FuncData} (F : Fun K "_law_any" "_law_any" s_law_any f fd) (cP : C8.Cal P w K mg base 1 "_law_pull" spPull []) (ml : mg "len" = none) :
    FnOk P w K mg base CX0 2 f fd ["_law_bag_here", "_law_things"] (spAny K) := by
  refine F.ok scAny (fun vs H Q E h => ?_) (fun cdv A outer s H vs Q E hr h => ?_)
  · obtain ⟨b, l, x, its, rfl, _⟩ := h
    rfl
  obtain ⟨b, l, x, its, rfl, hB, hI, h0, h1, q⟩ := h
  refine ⟨_, pss_one (ps_ret (pe_ix ix_seq (pv 1) (C8.pe_c cP hr (by decide) (by rfl) (pa_cons (pv 0) (pa_cons (pe_callB call_len (by rfl) ml boot_len (pa_cons (pv 1) pa_nil)) pa_nil))) (fun _ _ => rfl))), ?_⟩
  rcases hI with ⟨z, rfl, hz, rfl⟩ | ⟨a, rfl, hab, hs⟩
  · have el : z.length = z.cps.toList.length := by simp [Str.length]
    rw [List.length_map] at h0 h1
    refine ⟨_, rfl, _, rfl, _, rfl, _, z.length, rfl, ⟨hz, rfl⟩, b, l, _, rfl, hB, by omega, by omega, fun d H' hd0 hd1 k hB' => ?_⟩
    have hd : d.toNat < z.cps.toList.length := by omega
    have hat : atI z.cps.toList d = some z.cps.toList[d.toNat] := at_any (by omega) (List.getElem?_eq_getElem hd)
    refine .inr (.inr ⟨z, d, _, rfl, rfl, hz, hat, ?_⟩)
    refine q d.toNat _ H' ?_ k hB'
    rw [List.getElem?_map, List.getElem?_eq_getElem hd]
    rfl
  · have hl : LenV K (.ref a) H its.length := by
      rcases hs with hs | hs
      · exact .inl ⟨_, hs, rfl⟩
      · exact .inr ⟨_, hs, rfl⟩
    refine ⟨_, rfl, _, rfl, _, rfl, _, its.length, rfl, hl, b, l, _, rfl, hB, by omega, by omega, fun d H' hd0 hd1 k hB' => ?_⟩
    have hd : d.toNat < its.length := by omega
    have hg : its[d.toNat]? = some its[d.toNat] := List.getElem?_eq_getElem hd
    have hat : atI its d = some its[d.toNat] := at_of (by omega) hg
    rcases hs with hs | hs
    · exact .inl ⟨a, _, d, _, rfl, rfl, k.seqL hab hs, hat, q _ _ _ hg k hB'⟩
    · exact .inr (.inl ⟨a, _, d, _, rfl, rfl, k.seqT hab hs, hat, q _ _ _ hg k hB'⟩)

end

end Ag

namespace Ag
open PySem PySem.Spec PyProof.Rows L2
section
variable {P : Program} {w : World} {K : PySem.W.Frag} {mg : Str → Option Value} {base : Heap}
/-! ### _law_like: two things that are told by the same data are alike -/
def spLike (K : PySem.W.Frag) (n : Nat) : Sp := fun vs H Q _ => ∃ (x y : V) (d : PyData), vs = [x, y] ∧ Da K H x d ∧ Da K H y d ∧ oka n d = true ∧ ∀ H', Same H H' → Q (.bl true) H'
theorem scLike : FnScope ["_law_found", "_law_due", "_law_key", "_law_one", "_law_other"] ["_law_found", "_law_due"] (defScope s_law_like) := ⟨rfl, rfl, rfl, by decide +kernel, rfl, by decide +kernel, by decide +kernel⟩
theorem ok_like {n : Nat} {f : Addr} {fd : FuncData} (F : Fun K "_law_like" "_law_like" s_law_like f fd) (cG : C8.Cal P w K mg base n "_law_like" (spLike K n) []) (M : LikeM mg) :
    FnOk P w K mg base CX0 (n + 1) f fd ["_law_found", "_law_due"] (spLike K (n + 1)) := by
  refine F.ok scLike (fun vs H Q E h => ?_) (fun cdv A outer s H vs Q E hr h => ?_)
  · obtain ⟨x, y, d, rfl, _⟩ := h
    rfl
  obtain ⟨x, y, d, rfl, hx, hy, hok, q⟩ := h
  have nd := scLike.nd
  refine ⟨_, pss_cons (ps_if (pt_val (pe_callB call_isi (by rfl) M.isi (by decide +kernel) (pa_cons (pv 1) (pa_cons (pe_bltn (v := .ty "dict") (u := .type "dict") (by rfl) M.dict (by decide +kernel) rfl) pa_nil)))) (pss_one (ps_ret (pe_and (pe_callB call_isi (by rfl) M.isi (by decide +kernel) (pa_cons (pv 0) (pa_cons (pe_bltn (v := .ty "dict") (u := .type "dict") (by rfl) M.dict (by decide +kernel) rfl) pa_nil)))
        (pe_and (pe_cmpR (op_eqD hr.units) (pe_callB cr_sortedS (by rfl) M.sorted (by decide +kernel) (pa_cons (pe_callTy (call_listD rfl) (by rfl) M.list (by decide +kernel) (pa_cons (pv 0) pa_nil)) pa_nil))
            (pe_callB cr_sortedS (by rfl) M.sorted (by decide +kernel) (pa_cons (pe_callTy (call_listD rfl) (by rfl) M.list (by decide +kernel) (pa_cons (pv 1) pa_nil)) pa_nil)) (nomark _))
          (pe_one (pe_callB (cr_all rfl) (by rfl) M.all (by decide +kernel) (pa_cons (pe_lock (pe_lc (own := [("_law_key", 2)]) (g := gName 2) (tt := tYes) rfl nd (pi_keys (pv 1)) (blkOk_by (own := [("_law_key", 2)]) (N := ["_law_found", "_law_due", "_law_key", "_law_one", "_law_other"]) (sc := defScope s_law_like) (by decide +kernel))
            (fun _ _ _ _ _ => pg_name (i := 2) nd rfl (Or.inl rfl)) (fun _ _ _ _ _ => pts_nil) (fun _ _ _ _ _ => C8.pe_c cG hr (Nat.le_refl n) (by rfl) (pa_cons (pe_dget (hu_of hr) (pv 0) (pv 2) (fun _ _ => rfl)) (pa_cons (pe_dget (hu_of hr) (pv 1) (pv 2) (fun _ _ => rfl)) pa_nil))))) pa_nil))))))) pss_nil)
    (pss_cons (ps_if (pt_val (pe_callB call_isiT (by rfl) M.isi (by decide +kernel) (pa_cons (pv 1) (pa_cons (pe_tup (pa_cons (pe_bltn (v := .ty "list") (u := .type "list") (by rfl) M.list (by decide +kernel) rfl) (pa_cons (pe_bltn (v := .ty "tuple") (u := .type "tuple") (by rfl) M.tuple (by decide +kernel) rfl) pa_nil))) pa_nil))))
      (pss_cons (ps_if (PW.pt (pw_or (pt_cmpR op_ne (pe_callB call_isi (by rfl) M.isi (by decide +kernel) (pa_cons (pv 0) (pa_cons (pe_bltn (v := .ty "list") (u := .type "list") (by rfl) M.list (by decide +kernel) rfl) pa_nil))) (pe_callB call_isi (by rfl) M.isi (by decide +kernel) (pa_cons (pv 1) (pa_cons (pe_bltn (v := .ty "list") (u := .type "list") (by rfl) M.list (by decide +kernel) rfl) pa_nil))) (nomark _))
          (pw_or1 (pt_cmpR op_ne (pe_callB call_isi (by rfl) M.isi (by decide +kernel) (pa_cons (pv 0) (pa_cons (pe_bltn (v := .ty "tuple") (u := .type "tuple") (by rfl) M.tuple (by decide +kernel) rfl) pa_nil))) (pe_callB call_isi (by rfl) M.isi (by decide +kernel) (pa_cons (pv 1) (pa_cons (pe_bltn (v := .ty "tuple") (u := .type "tuple") (by rfl) M.tuple (by decide +kernel) rfl) pa_nil))) (nomark _))))) (pss_one (ps_ret pe_bl)) pss_nil)
      (pss_one (ps_ret (pe_and (pe_cmpR op_eq (pe_callB call_len (by rfl) M.len boot_len (pa_cons (pv 0) pa_nil)) (pe_callB call_len (by rfl) M.len boot_len (pa_cons (pv 1) pa_nil)) (nomark _))
        (pe_one (pe_callB (cr_all rfl) (by rfl) M.all (by decide +kernel) (pa_cons (pe_lc (own := [("_law_one", 3), ("_law_other", 4)]) (g := gTup K 2 (gCons (gName 3) (gCons (gName 4) gNil))) (tt := tYes) rfl nd (RZ.pi_zipA (by rfl) M.zip (pa_cons (pv 0) (pa_cons (pv 1) pa_nil))) (blkOk_by (own := [("_law_one", 3), ("_law_other", 4)]) (N := ["_law_found", "_law_due", "_law_key", "_law_one", "_law_other"]) (sc := defScope s_law_like) (by decide +kernel))
          (fun _ _ _ _ _ => pg_tup rfl (pgs_cons (pg_name (i := 3) nd rfl (Or.inl rfl)) (pgs_cons (pg_name (i := 4) nd rfl (Or.inl rfl)) pgs_nil))) (fun _ _ _ _ _ => pts_nil) (fun _ _ _ _ _ => C8.pe_c cG hr (Nat.le_refl n) (by rfl) (pa_cons (pv 3) (pa_cons (pv 4) pa_nil)))) pa_nil))))))) pss_nil)
    (pss_cons (ps_if (PW.pt (pw_or (pt_cmp (pc_isN (pv 1)) rfl) (pw_or1 (pt_cmp (pc_isN (pv 0)) rfl)))) (pss_one (ps_ret (pe_and (pe_cmp (pc_isN (pv 1)) rfl) (pe_one (pe_cmp (pc_isN (pv 0)) rfl))))) pss_nil)
    (pss_cons (ps_if (PW.pt (pw_or (pt_cmpR op_ne (pe_callB call_isi (by rfl) M.isi (by decide +kernel) (pa_cons (pv 0) (pa_cons (pe_bltn (v := .ty "bool") (u := .type "bool") (by rfl) M.bool (by decide +kernel) rfl) pa_nil))) (pe_callB call_isi (by rfl) M.isi (by decide +kernel) (pa_cons (pv 1) (pa_cons (pe_bltn (v := .ty "bool") (u := .type "bool") (by rfl) M.bool (by decide +kernel) rfl) pa_nil))) (nomark _))
          (pw_or1 (pt_cmpR op_ne (pe_callB call_isi (by rfl) M.isi (by decide +kernel) (pa_cons (pv 0) (pa_cons (pe_bltn (v := .ty "int") (u := .type "int") (by rfl) M.int (by decide +kernel) rfl) pa_nil))) (pe_callB call_isi (by rfl) M.isi (by decide +kernel) (pa_cons (pv 1) (pa_cons (pe_bltn (v := .ty "int") (u := .type "int") (by rfl) M.int (by decide +kernel) rfl) pa_nil))) (nomark _))))) (pss_one (ps_ret pe_bl)) pss_nil)
    (pss_one (ps_ret (pe_and (pe_cmpR op_eq (pe_callB call_isi (by rfl) M.isi (by decide +kernel) (pa_cons (pv 0) (pa_cons (pe_bltn (v := .ty "str") (u := .type "str") (by rfl) M.str (by decide +kernel) rfl) pa_nil))) (pe_callB call_isi (by rfl) M.isi (by decide +kernel) (pa_cons (pv 1) (pa_cons (pe_bltn (v := .ty "str") (u := .type "str") (by rfl) M.str (by decide +kernel) rfl) pa_nil))) (nomark _))
      (pe_one (pe_cmpR op_eq (pv 0) (pv 1) (nomark _))))))))), ?_⟩
  have kd := kit_some (d := d)
  -- isinstance(due, dict)
  refine ⟨_, rfl, y, .ty "dict", _, .type "dict", _, rfl, .ty _, da_tyx hy, isk kd.1, _, rfl, ?_⟩
  by_cases hdic : ∃ es, d = .dict es
  · obtain ⟨es, rfl⟩ := hdic
    refine iteU isD_dic ?_
    cases hx with
    | @dic a kvs kvs' _ ea p1 n1 r1 =>
    cases hy with
    | @dic c kws kws' _ ec p2 n2 r2 =>
      refine ⟨_, rfl, .ref a, .ty "dict", _, .type "dict", _, rfl, .ty _, .base (.dK ea), isk (d := .dict es) kd.1, _, rfl, iteU isD_dic ?_⟩
      obtain ⟨k1, e1, l1, o1, t1, u1⟩ := dic_keys (fun _ _ z => z.1) hok r1
      obtain ⟨k2, e2, l2, o2, t2, u2⟩ := dic_keys (fun _ _ z => z.1) hok r2
      have e12 : k1 = k2 := by
        have z := t1.symm.trans t2
        have inj : ∀ (a b : List Str), a.map PyData.str = b.map PyData.str → a = b := fun a => by
          induction a with
          | nil => intro b h; cases b with
            | nil => rfl
            | cons _ _ => cases h
          | cons x r ih => intro b h; cases b with
            | nil => cases h
            | cons y t =>
              rw [List.map_cons, List.map_cons] at h
              injection h with h1 h2
              injection h1 with h1
              rw [h1, ih t h2]
        exact inj _ _ z
      subst e12
      have hl64 : es.length < 64 := by
        simp only [oka, Bool.and_eq_true, decide_eq_true_eq] at hok
        exact hok.1
      -- the keys, sorted
      have q1 : (kvs.map fun kv => kV kv.1).Perm (k1.map V.str) := by rw [← e1]; exact p1.map _
      have q2 : (kws.map fun kv => kV kv.1).Perm (k1.map V.str) := by rw [← e2]; exact p2.map _
      have keysof : ∀ {l : List (Key × V)} {m : List (Key × V)}, l.Perm m → ∀ {ks : List Str}, (m.map (·.1)) = ks.map Sum.inr → ∃ ks' : List Str, (l.map fun kv => kV kv.1) = ks'.map V.str ∧ ks'.Perm ks := by
        intro l m pm ks hm
        have pk : (l.map (·.1)).Perm (ks.map Sum.inr) := by rw [← hm]; exact pm.map _
        let un : Key → Str := fun k => match k with | .inl _ => ⟨#[]⟩ | .inr x => x
        have hall : ∀ kv ∈ l, ∃ x, kv.1 = Sum.inr x := fun kv hkv => by
          have z : kv.1 ∈ ks.map (Sum.inr (α := Int)) := pk.mem_iff.mp (List.mem_map.mpr ⟨kv, hkv, rfl⟩)
          obtain ⟨x, _, e⟩ := List.mem_map.mp z
          exact ⟨x, e.symm⟩
        refine ⟨l.map fun kv => un kv.1, ?_, ?_⟩
        · rw [List.map_map]
          refine List.map_congr_left fun kv hkv => ?_
          obtain ⟨x, e⟩ := hall kv hkv
          show kV kv.1 = V.str (un kv.1)
          rw [e]
          rfl
        · have z := pk.map un
          rw [List.map_map, List.map_map] at z
          have z2 : ks.map (un ∘ Sum.inr) = ks := by
            have : (un ∘ Sum.inr : Str → Str) = id := rfl
            rw [this, List.map_id]
          rw [z2] at z
          exact z
      obtain ⟨ka, ea1, pa1⟩ := keysof p1 u1
      obtain ⟨kb, eb1, pb1⟩ := keysof p2 u2
      refine ⟨_, rfl, a, kvs, rfl, .inl ea, fun L1 nL1 => ?_⟩
      rw [ea1]
      refine ⟨L1, ka, rfl, SqL.of upd_same, by rw [pa1.length_eq, l1]; exact hl64, fun s1 S1 ps1 ss1 nS1 => ?_⟩
      have g1 := same_new nL1 (.lst (ka.map V.str))
      have g2 := same_new nS1 (.lst (s1.map V.str))
      refine ⟨_, rfl, c, kws, rfl, .inl ((g1.trans g2) _ _ ec), fun L2 nL2 => ?_⟩
      rw [eb1]
      refine ⟨L2, kb, rfl, SqL.of upd_same, by rw [pb1.length_eq, l1]; exact hl64, fun s2 S2 ps2 ss2 nS2 => ?_⟩
      have g3 := same_new nL2 (.lst (kb.map V.str))
      have g4 := same_new nS2 (.lst (s2.map V.str))
      have es12 : s1 = s2 := sorted_one (ps1.trans (pa1.trans (pb1.symm.trans ps2.symm))) ss1 ss2
      subst es12
      have ok1 : ∀ y ∈ s1, (y.cps.all (· < 0x110000)) = true := fun y hy => o1 y ((ps1.trans pa1).mem_iff.mp hy)
      have hsh := shaped_strs ok1
      have g5 := (g1.trans g2).trans (g3.trans g4)
      refine ⟨.list (s1.map PyData.str), .list (s1.map PyData.str), .lst (SqL.of ((g3.trans g4) _ _ upd_same)) (dpall_strs s1), .lst (SqL.of upd_same) (dpall_strs s1), hsh, hsh, _, rfl, iteU (SeqAt.eqv_refl _ (lay_strs s1 ok1)) ?_⟩
      -- item by item
      have hc5 := g5 _ _ ec
      have ha5 := g5 _ _ ea
      refine ⟨c, .dK kws, hc5, trivial, fun od => ?_⟩
      refine ⟨_, rfl, c, od, rfl, .inl ⟨kws, upd_same, fun D nD => ?_⟩⟩
      have nDc : D ≠ c := (ne_of_none upd_same nD).symm
      have lk := RdLe.lock hc5 (show Mut (some (.dK kws)) from trivial) od
      refine lc_it (walk_keys (d := c) (o := od) (kvs := kws)) (fun i H' => Same (upd _ c (.frz od (.dK kws))) H' ∧ H' D = some (.lst (List.replicate i (.bl true)))) ⟨same_new nD _, upd_same⟩ (fun i H' _ pv => pv.1 _ _ upd_same) ?_ ?_
      · rintro i v H2 _ hi ⟨w1, w2⟩ ⟨rfl, k, v', hk, rfl⟩
        have hm2 : (k, v') ∈ kws := List.mem_of_getElem? hk
        obtain ⟨e, he, hk2, hd2⟩ := paired_mem r2 (p2.mem_iff.mp hm2)
        obtain ⟨kv1, hkv1, hk1, hd1⟩ := paired_mem2 r1 he
        have ek : kv1.1 = k := by
          have z : keyD kv1.1 = keyD k := hk1.symm.trans hk2
          cases h1 : kv1.1 <;> cases h2 : k <;> (rw [h1, h2] at z; simp only [keyD] at z; first | (injection z with z; rw [z]) | cases z)
        have hv1 : valV kvs k = some kv1.2 := valV_of n1 (by rw [← ek]; exact p1.mem_iff.mpr hkv1)
        have hv2 : valV kws k = some v' := valV_of n2 hm2
        have rdl : RdLe H _ := fun b u z => RdLe.of w1 _ _ (lk _ _ (RdLe.of g5 _ _ z))
        refine ⟨rfl, ?_⟩
        refine ⟨_, rfl, _, rfl, a, _, rfl, .inl ⟨kvs, k, rdl _ _ (.inl ea), rfl, hv1.symm⟩, ?_⟩
        refine ⟨_, rfl, _, rfl, c, _, rfl, .inl ⟨kws, k, rdl _ _ (.inl ec), rfl, hv2.symm⟩, ?_⟩
        have hoke : oka n e.2 = true := by
          simp only [oka, Bool.and_eq_true, List.all_eq_true] at hok
          exact (hok.2 e he).2
        refine ⟨_, _, e.2, rfl, Da_of (Dp_rd rdl hd1), Da_of (Dp_rd rdl hd2), hoke, fun H3 g6 => ?_⟩
        have hil : i < kws.length := hi
        have hlen : kws.length < 64 := by
          have z := (p2.map (·.1)).length_eq
          rw [u2, List.length_map, List.length_map, l1] at z
          omega
        refine ⟨_, g6 _ _ w2, (by rw [List.length_replicate]; exact small1000 (by omega)), fun b o hb => ?_, ?_⟩
        · rw [upd_ne (ne_of_none hb nD)]
          exact g6 _ _ (w1 _ _ hb)
        · rw [upd_same, List.replicate_succ']
      · rintro H' ⟨w1, w2⟩
        refine ⟨w1 _ _ upd_same, ?_⟩
        refine ⟨D, List.replicate kws.length true, rfl, SqL.of (by rw [upd_ne nDc, w2, rep_bl]), ?_⟩
        rw [rep_all]
        refine q _ fun b o hb => ?_
        by_cases hbc : b = c
        · subst hbc
          rw [upd_same]
          rw [ec] at hb
          exact hb
        · rw [upd_ne hbc]
          exact w1 _ _ (by rw [upd_ne hbc]; exact g5 _ _ hb)
  refine iteE (isD_nodict fun es e => hdic ⟨es, e⟩) ?_
  -- isinstance(due, (list, tuple))
  refine ⟨_, rfl, (by show 2 ≤ sizeLine; decide), fun p np => ⟨y, p, _, _, _, _, rfl, upd_same, ct2, da_tyx (Da_same (same_new np _) hy), iskT, _, rfl, ?_⟩⟩
  have s1 : Same H (upd H p (.tup [.ty "list", .ty "tuple"])) := same_new np _
  replace hx := Da_same s1 hx
  replace hy := Da_same s1 hy
  have isn : ∀ T, (decide (V.bl (isD T d) = V.bl (isD T d))) = true := fun T => by simp
  by_cases hseq : (∃ ds, d = .list ds) ∨ ∃ ds, d = .tuple ds
  · refine iteU (isD_seq hseq) ?_
    refine ⟨_, rfl, x, .ty "list", _, .type "list", _, rfl, .ty _, da_tyx hx, isk kd.2.1, _, rfl, y, .ty "list", _, .type "list", _, rfl, .ty _, da_tyx hy, isk kd.2.1, rfl, _, rfl, iteNS rfl ?_⟩
    refine ⟨_, rfl, x, .ty "tuple", _, .type "tuple", _, rfl, .ty _, da_tyx hx, isk kd.2.2.1, _, rfl, y, .ty "tuple", _, .type "tuple", _, rfl, .ty _, da_tyx hy, isk kd.2.2.1, rfl, _, rfl, iteNS rfl ?_⟩
    rcases hseq with ⟨ds, rfl⟩ | ⟨ds, rfl⟩
    · simp only [oka, Bool.and_eq_true, decide_eq_true_eq, List.all_eq_true] at hok
      cases hx with
      | @lst a xs _ q1 a1 =>
        cases hy with
        | @lst c ys _ q2 a2 =>
          have l1 := daall_len a1
          have l2 := daall_len a2
          have eln : decide (V.int (xs.length : Nat) = V.int (ys.length : Nat)) = true := by rw [l1, l2]; exact decide_eq_true rfl
          refine ⟨_, rfl, _, xs.length, rfl, .inl ⟨_, q1, rfl⟩, _, rfl, _, ys.length, rfl, .inl ⟨_, q2, rfl⟩, rfl, _, rfl, iteU eln ?_⟩
          refine ⟨_, rfl, _, rfl, a, c, xs, ys, rfl, .inl ⟨q1, q2, fun D nD => ?_⟩⟩
          refine lc_it (walk_zip (n := ds.length) (by omega)) (fun i H' => Same (upd H p (.tup [.ty "list", .ty "tuple"])) H' ∧ H' D = some (.lst (List.replicate i (.bl true)))) ⟨same_new nD _, upd_same⟩
            (fun i H' _ pv => ⟨Same.seq pv.1 q1, Same.seq pv.1 q2⟩) ?_ ?_
          · rintro i v H1 H2 hi ⟨g1, g2⟩ ⟨T, u, v', rfl, nT, rfl, hu, hv⟩
            obtain ⟨e, he, de⟩ := daall_get a1 hu
            obtain ⟨e', he', de'⟩ := daall_get a2 hv
            have ee : e' = e := by rw [he] at he'; exact (Option.some.inj he').symm
            subst ee
            have g3 := same_new nT (.tup [u, v'])
            have g4 := g1.trans g3
            refine ⟨T, [u, v'], rfl, SqT.of upd_same, rfl, u, [v'], rfl, v', [], rfl, rfl, rfl, ?_⟩
            refine ⟨_, rfl, _, rfl, u, v', e', rfl, Da_same g4 de, Da_same g4 de', hok.2 _ (List.mem_of_getElem? he), fun H3 g5 => ?_⟩
            have hD3 := g5 _ _ (g3 _ _ g2)
            have hil : i < sizeLine := small1000 (by omega)
            refine ⟨_, hD3, (by rw [List.length_replicate]; exact hil), fun b o hb => ?_, ?_⟩
            · have nb : b ≠ D := ne_of_none hb nD
              rw [upd_ne nb]
              exact g5 _ _ (g4 _ _ hb)
            · rw [upd_same, List.replicate_succ']
          · rintro H' ⟨g1, g2⟩
            refine ⟨D, List.replicate ds.length true, rfl, SqL.of (by rw [g2, rep_bl]), ?_⟩
            rw [rep_all]
            exact q _ (s1.trans g1)
    · simp only [oka, Bool.and_eq_true, decide_eq_true_eq, List.all_eq_true] at hok
      cases hx with
      | @tup a xs _ q1 a1 =>
        cases hy with
        | @tup c ys _ q2 a2 =>
          have l1 := daall_len a1
          have l2 := daall_len a2
          have eln : decide (V.int (xs.length : Nat) = V.int (ys.length : Nat)) = true := by rw [l1, l2]; exact decide_eq_true rfl
          refine ⟨_, rfl, _, xs.length, rfl, .inr ⟨_, q1, rfl⟩, _, rfl, _, ys.length, rfl, .inr ⟨_, q2, rfl⟩, rfl, _, rfl, iteU eln ?_⟩
          refine ⟨_, rfl, _, rfl, a, c, xs, ys, rfl, .inr ⟨q1, q2, fun D nD => ?_⟩⟩
          refine lc_it (walk_zipT (n := ds.length) (by omega)) (fun i H' => Same (upd H p (.tup [.ty "list", .ty "tuple"])) H' ∧ H' D = some (.lst (List.replicate i (.bl true)))) ⟨same_new nD _, upd_same⟩
            (fun i H' _ pv => ⟨sameT pv.1 q1, sameT pv.1 q2⟩) ?_ ?_
          · rintro i v H1 H2 hi ⟨g1, g2⟩ ⟨T, u, v', rfl, nT, rfl, hu, hv⟩
            obtain ⟨e, he, de⟩ := daall_get a1 hu
            obtain ⟨e', he', de'⟩ := daall_get a2 hv
            have ee : e' = e := by rw [he] at he'; exact (Option.some.inj he').symm
            subst ee
            have g3 := same_new nT (.tup [u, v'])
            have g4 := g1.trans g3
            refine ⟨T, [u, v'], rfl, SqT.of upd_same, rfl, u, [v'], rfl, v', [], rfl, rfl, rfl, ?_⟩
            refine ⟨_, rfl, _, rfl, u, v', e', rfl, Da_same g4 de, Da_same g4 de', hok.2 _ (List.mem_of_getElem? he), fun H3 g5 => ?_⟩
            have hD3 := g5 _ _ (g3 _ _ g2)
            have hil : i < sizeLine := small1000 (by omega)
            refine ⟨_, hD3, (by rw [List.length_replicate]; exact hil), fun b o hb => ?_, ?_⟩
            · have nb : b ≠ D := ne_of_none hb nD
              rw [upd_ne nb]
              exact g5 _ _ (g4 _ _ hb)
            · rw [upd_same, List.replicate_succ']
          · rintro H' ⟨g1, g2⟩
            refine ⟨D, List.replicate ds.length true, rfl, SqL.of (by rw [g2, rep_bl]), ?_⟩
            rw [rep_all]
            exact q _ (s1.trans g1)
  · refine iteE (isD_leaf (fun ds e => hseq (.inl ⟨ds, e⟩)) (fun ds e => hseq (.inr ⟨ds, e⟩))) ?_
    have nl : ∀ ds, d ≠ .list ds := fun ds e => hseq (.inl ⟨ds, e⟩)
    have nt : ∀ ds, d ≠ .tuple ds := fun ds e => hseq (.inr ⟨ds, e⟩)
    have exy : x = y ∧ ((scal x y = true ∧ decide (x = .non) = false) ∨ x = .non) := by
      cases hx with
      | non => cases hy; exact ⟨rfl, .inr rfl⟩
      | bl b => cases hy; exact ⟨rfl, .inl ⟨rfl, rfl⟩⟩
      | int b => cases hy; exact ⟨rfl, .inl ⟨rfl, rfl⟩⟩
      | str b => cases hy; exact ⟨rfl, .inl ⟨rfl, rfl⟩⟩
      | dic _ _ _ _ => exact absurd ⟨_, rfl⟩ hdic
      | lst _ _ => exact absurd rfl (nl _)
      | tup _ _ => exact absurd rfl (nt _)
    obtain ⟨rfl, hsc⟩ := exy
    rcases hsc with ⟨hsc, en⟩ | hn
    · refine ⟨_, rfl, _, rfl, iteE en ⟨_, rfl, _, rfl, iteE en ?_⟩⟩
      refine ⟨_, rfl, x, .ty "bool", _, .type "bool", _, rfl, .ty _, da_tyx hx, isk kd.2.2.2.1, _, rfl, x, .ty "bool", _, .type "bool", _, rfl, .ty _, da_tyx hy, isk kd.2.2.2.1, rfl, _, rfl, iteNS rfl ?_⟩
      refine ⟨_, rfl, x, .ty "int", _, .type "int", _, rfl, .ty _, da_tyx hx, isk kd.2.2.2.2.1, _, rfl, x, .ty "int", _, .type "int", _, rfl, .ty _, da_tyx hy, isk kd.2.2.2.2.1, rfl, _, rfl, iteNS rfl ?_⟩
      refine ⟨_, rfl, x, .ty "str", _, .type "str", _, rfl, .ty _, da_tyx hx, isk kd.2.2.2.2.2, _, rfl, x, .ty "str", _, .type "str", _, rfl, .ty _, da_tyx hy, isk kd.2.2.2.2.2, rfl, _, rfl, iteU (isn _) ?_⟩
      refine ⟨_, rfl, _, rfl, hsc, ?_⟩
      rw [decide_eq_true rfl]
      exact q _ s1
    · subst hn
      refine ⟨_, rfl, _, rfl, iteU rfl ⟨_, rfl, _, rfl, iteU rfl ⟨_, rfl, ?_⟩⟩⟩
      exact q _ s1
theorem no_like0 (vs : List V) (H : Hp) (Q : VK) (E : XK) : ¬ spLike K 0 vs H Q E := by
  rintro ⟨x, y, d, _, _, _, h, _⟩
  cases h
theorem like_cal {f : Addr} {fd : FuncData} (F : Fun K "_law_like" "_law_like" s_law_like f fd) (b : Binds K fd ["_law_found", "_law_due"] []) (m : mg "_law_like" = some (.ref f)) (M : LikeM mg) : ∀ n : Nat, C8.Cal P w K mg base n "_law_like" (spLike K n) []
  | 0 => ⟨f, fd, ["_law_found", "_law_due"], [], ⟨fun vs H Q E h => absurd h (no_like0 vs H Q E), fun A outer s H args us vs Q E _ _ _ _ h => absurd h (no_like0 vs H Q E)⟩, m, F.kp, b, .nil⟩
  | n + 1 => ⟨f, fd, ["_law_found", "_law_due"], [], ok_like F (like_cal F b m M n) M, m, F.kp, b, .nil⟩
end

end Ag

namespace Ag
open PySem PySem.Spec PyProof.Rows L2
/-! ### the kinds of errors: code, fields -/
inductive Ek
  | name | number | formula | shape | unknown | row | deed | text | page | many | large | full | command | circular | inuse | refused | nothing
def Ek.code : Ek → Str
  | .name => "InvalidName"
  | .number => "InvalidNumber"
  | .formula => "InvalidFormula"
  | .shape => "InvalidShape"
  | .unknown => "UnknownName"
  | .row => "InvalidRow"
  | .deed => "InvalidDeed"
  | .text => "InvalidText"
  | .page => "InvalidPage"
  | .many => "TooMany"
  | .large => "TooLarge"
  | .full => "Full"
  | .command => "InvalidCommand"
  | .circular => "Circular"
  | .inuse => "NameInUse"
  | .refused => "Refused"
  | .nothing => "NothingLeft"
def Ek.attrs : Ek → List Str
  | .name => ["value"]
  | .number => ["value"]
  | .formula => ["value"]
  | .shape => ["value"]
  | .unknown => ["value"]
  | .row => ["at"]
  | .deed => ["at"]
  | .text => ["line"]
  | .page => ["line"]
  | .many => ["most"]
  | .large => ["most"]
  | .full => ["most"]
  | .command => ["path"]
  | .circular => ["name"]
  | .inuse => ["user"]
  | .refused => ["path", "reason"]
  | .nothing => []
/-- what the written part says of an error's class -/
structure ErrC (K : PySem.W.Frag) (C : Addr) : Prop where
  xf : XfC K C
  nf : ∀ n ∈ (["code", "value", "at", "line", "most", "path", "name", "user", "reason"] : List Str), PySem.W.findIn K (.ref C) n = some none
section
variable {P : Program} {w : World} {K : PySem.W.Frag} {mg : Str → Option Value} {base : Heap}
/-- the error of the class at C with the fields fs is of the kind e, its fields' values ws -/
structure ErrIs (K : PySem.W.Frag) (C : Addr) (fs : List (Str × V)) (e : Ek) (ws : List V) : Prop where
  cls : ErrC K C
  code : fs.lookup ("code" : Str) = some (.str e.code)
  vals : Paired (fun n v => fs.lookup n = some v) e.attrs ws
def spFlds (K : PySem.W.Frag) : SpP := fun p vs H Q _ => ∃ (a C D : Addr) (oe : Obj) (fs : List (Str × V)) (e : Ek) (ws : List V), p = (a, oe) ∧ vs = [.ref a] ∧ Zc (.ref C) (some D) oe ∧ (∃ vs, oe.data = .fields vs) ∧ ErrIs K C fs e ws ∧ H D = some (.xd fs) ∧
  ∀ t H', Same H H' → H t = none → H' t = some (.tup ws) → Q (.ref t) H'
abbrev nFl : List Str := ["_law_e", "_law_code"]
theorem scFl : FnScope nFl ["_law_e"] (defScope s_law_fields) := ⟨rfl, rfl, rfl, by decide +kernel, rfl, by decide +kernel, by decide +kernel⟩
theorem upd_free {H : Hp} {a b : Addr} {o : HO} (h : upd H a o b = none) : H b = none := by
  by_cases e : b = a
  · subst e
    rw [upd_same] at h
    cases h
  · rw [upd_ne e] at h
    exact h
def Gro (H H' : Hp) : Prop := Same H H' ∧ ∀ a, H' a = none → H a = none
theorem Gro.refl (H : Hp) : Gro H H := ⟨.refl _, fun _ h => h⟩
theorem Gro.new {H H' : Hp} (g : Gro H H') {t : Addr} (n : H' t = none) (o : HO) : Gro H (upd H' t o) := ⟨g.1.trans (same_new n o), fun a h => g.2 a (upd_free h)⟩
section
variable {σ : L2.St} {H0 H : Hp} {D : Ends} {A rest : TS} {z : Str} {vs : List V} {ta : TA}
theorem st_inF (g : Gro H0 H) (h : σ[1]? = some (some (.str z))) (ha : ∀ R : List V → Hp → Prop, R vs H → ta σ H R) (hl : vs.length ≤ sizeLine) (fl : vs.all flatV = true) (hb : inV (.str z) vs = false) (q : ∀ H', Gro H0 H' → rest D σ H') :
    tSeq (tIfS (tTest (tOp (rIn K false) (tVar 1) (tTup ta))) A tNext) rest D σ H := by
  refine ⟨_, h, ha _ ⟨hl, fun t n => ⟨t, _, rfl, .inr (SqT.of upd_same), rfl, fl, _, rfl, iteE ?_ (q _ (g.new n _))⟩⟩⟩
  rw [if_neg (by decide), hb]
theorem st_inT (g : Gro H0 H) (h : σ[1]? = some (some (.str z))) (ha : ∀ R : List V → Hp → Prop, R vs H → ta σ H R) (hl : vs.length ≤ sizeLine) (fl : vs.all flatV = true) (hb : inV (.str z) vs = true) (q : ∀ H' D', Gro H0 H' → D'.rt = D.rt → A D' σ H') :
    tSeq (tIfS (tTest (tOp (rIn K false) (tVar 1) (tTup ta))) A tNext) rest D σ H := by
  refine ⟨_, h, ha _ ⟨hl, fun t n => ⟨t, _, rfl, .inr (SqT.of upd_same), rfl, fl, _, rfl, iteU ?_ (q _ _ (g.new n _) rfl)⟩⟩⟩
  rw [if_neg (by decide), hb]
theorem st_eqF {y : Str} (g : Gro H0 H) (h : σ[1]? = some (some (.str z))) (hb : decide (V.str z = .str y) = false) (q : rest D σ H) :
    tSeq (tIfS (tTest (tOp rEq (tVar 1) (tC (.str y)))) A tNext) rest D σ H := ⟨_, h, rfl, _, rfl, iteE hb q⟩
theorem st_eqT {y : Str} (g : Gro H0 H) (h : σ[1]? = some (some (.str z))) (hb : decide (V.str z = .str y) = true) (q : ∀ D', D'.rt = D.rt → A D' σ H) :
    tSeq (tIfS (tTest (tOp rEq (tVar 1) (tC (.str y)))) A tNext) rest D σ H := ⟨_, h, rfl, _, rfl, iteU hb (q _ rfl)⟩
end
end
end Ag

namespace Ag
open PySem PySem.Spec PyProof.Rows L2
/-! ### data made of tuples alone -/
def tupd : Nat → PyData → Bool
  | 0, _ => false
  | n + 1, .tuple ds => decide (ds.length ≤ 1000) && ds.all (tupd n)
  | _ + 1, .list _ => false
  | _ + 1, .dict _ => false
  | _ + 1, _ => true
section
variable {K : PySem.W.Frag} {H H' : Hp}
theorem tupd_tp (s : Tp H H') : ∀ {n : Nat} {d : PyData} {v : V}, tupd n d = true → Dp K H v d → Dp K H' v d
  | 0, _, _, e, _ => by cases e
  | _ + 1, _, _, _, .non => .non
  | _ + 1, _, _, _, .bl b => .bl b
  | _ + 1, _, _, _, .int i => .int i
  | _ + 1, _, _, _, .str x => .str x
  | _ + 1, _, _, e, .lst _ _ => by cases e
  | n + 1, .tuple ds, _, e, .tup q r => by
    simp only [tupd, Bool.and_eq_true, List.all_eq_true] at e
    have all : ∀ {xs : List V} {es : List PyData}, (∀ d ∈ es, tupd n d = true) → DpAll K H xs es → DpAll K H' xs es := by
      intro xs es he ha
      induction es generalizing xs with
      | nil =>
        cases ha
        exact .nil
      | cons d r ih =>
        cases ha with
        | cons h1 h2 => exact .cons (tupd_tp s (he d (by simp)) h1) (ih (fun d hd => he d (by simp [hd])) h2)
    exact .tup (s.seq q) (all e.2 r)
theorem tupds_tp (s : Tp H H') {n : Nat} : ∀ {es : List PyData} {xs : List V}, (∀ d ∈ es, tupd n d = true) → DpAll K H xs es → DpAll K H' xs es
  | [], _, _, .nil => .nil
  | d :: r, _, he, .cons h1 h2 => .cons (tupd_tp s (he d (by simp)) h1) (tupds_tp s (fun d hd => he d (by simp [hd])) h2)
theorem tupd_up : ∀ {n m : Nat} {d : PyData}, n ≤ m → tupd n d = true → tupd m d = true := by
  intro n
  induction n with
  | zero =>
    intro m d _ e
    cases e
  | succ n ih =>
    intro m d h e
    obtain ⟨m', rfl⟩ : ∃ m', m = m' + 1 := ⟨m - 1, by omega⟩
    cases d with
    | tuple ds =>
      simp only [tupd, Bool.and_eq_true, List.all_eq_true] at e ⊢
      exact ⟨e.1, fun d hd => ih (by omega) (e.2 d hd)⟩
    | list _ => cases e
    | dict _ => cases e
    | _ => rfl
theorem tupd_oka : ∀ {n : Nat} {d : PyData}, tupd n d = true → oka n d = true
  | 0, _, e => by cases e
  | n + 1, .tuple ds, e => by
    simp only [tupd, Bool.and_eq_true, List.all_eq_true] at e
    simp only [oka, Bool.and_eq_true, List.all_eq_true]
    exact ⟨e.1, fun d hd => tupd_oka (e.2 d hd)⟩
  | _ + 1, .list _, e => by cases e
  | _ + 1, .dict _, e => by cases e
  | _ + 1, .none, _ => rfl
  | _ + 1, .bool _, _ => rfl
  | _ + 1, .int _, _ => rfl
  | _ + 1, .str _, _ => rfl
end
section
variable {P : Program} {w : World} {K : PySem.W.Frag} {mg : Str → Option Value} {base : Heap}
theorem dpall_app {H : Hp} : ∀ {xs ys : List V} {ds es : List PyData}, DpAll K H xs ds → DpAll K H ys es → DpAll K H (xs ++ ys) (ds ++ es)
  | _, _, _, _, .nil, h => h
  | _, _, _, _, .cons a b, h => .cons a (dpall_app b h)
/-! ### copied -/
structure CopM (mg : Str → Option Value) : Prop where
  isi : mg "isinstance" = none
  list : mg "list" = none
  tuple : mg "tuple" = none
  dict : mg "dict" = none
abbrev CopD (K : PySem.W.Frag) (f : Addr) (fd : FuncData) : Prop := FunD K "copied" "copied" (defArgs s_copied) (defBody s_copied) (defScope s_copied) [.int 12] [] f fd
def spCp (K : PySem.W.Frag) (n : Nat) : Sp := fun vs H Q _ => ∃ (x : V) (d m : Nat) (t : PyData), vs = [x, .int (d : Int)] ∧ d < n ∧ Dp K H x t ∧ tupd m t = true ∧ ∀ v H', Same H H' → Dp K H' v t → Q v H'
abbrev nCp : List Str := ["value", "depth", "item"]
theorem scCp : FnScope nCp ["value", "depth"] (defScope s_copied) := ⟨rfl, rfl, rfl, by decide +kernel, rfl, by decide +kernel, by decide +kernel⟩
theorem ok_copied {n : Nat} {f : Addr} {fd : FuncData} (F : CopD K f fd) (M : CopM mg) (cU : C8.Cal P w K mg base n "copied" (spCp K n) []) : FnOk P w K mg base CX0 (n + 1) f fd ["value", "depth"] (spCp K (n + 1)) := by
  refine F.ok scCp (fun vs H Q E h => ?_) (fun cdv A outer s H vs Q E hr h => ?_)
  · obtain ⟨x, d, m, t, rfl, _⟩ := h
    rfl
  obtain ⟨x, d, m, t, rfl, hd, hx, hm, q⟩ := h
  have nd := scCp.nd
  refine ⟨_, pss_cons (ps_if (pt_cmpR op_eq (pv 1) pe_int (nomark _)) (pss_one (ps_ret (pv 0))) pss_nil)
    (pss_cons (ps_if (pt_val (pe_callB call_isi (by rfl) M.isi (by decide +kernel) (pa_cons (pv 0) (pa_cons (pe_bltn (v := .ty "list") (u := .type "list") (by rfl) M.list (by decide +kernel) rfl) pa_nil)))) (pss_one ps_never) pss_nil)
    (pss_cons (ps_if (pt_val (pe_callB call_isi (by rfl) M.isi (by decide +kernel) (pa_cons (pv 0) (pa_cons (pe_bltn (v := .ty "tuple") (u := .type "tuple") (by rfl) M.tuple (by decide +kernel) rfl) pa_nil))))
      (pss_one (ps_ret (pe_callTy call_tuple_of (by rfl) M.tuple (by decide +kernel) (pa_cons (pe_lc (own := [("item", 2)]) (g := gName 2) (tt := tYes) (te := tCall (spCp K n) [] C8.E0 (tCons (tVar 2) (tCons (tSub (tVar 1) (tC (.int 1))) tNil))) rfl nd (pi_tup (pv 0))
        (blkOk_by (own := [("item", 2)]) (N := nCp) (sc := defScope s_copied) (by decide +kernel)) (fun _ _ _ _ _ => pg_name (i := 2) nd rfl (Or.inl rfl)) (fun _ _ _ _ _ => pts_nil) (fun _ _ _ _ _ => C8.pe_c cU hr (Nat.le_refl _) (by rfl) (pa_cons (pv 2) (pa_cons (pe_sub (pv 1) pe_int) pa_nil)))) pa_nil)))) pss_nil)
    (pss_cons (ps_if (pt_val (pe_callB call_isi (by rfl) M.isi (by decide +kernel) (pa_cons (pv 0) (pa_cons (pe_bltn (v := .ty "dict") (u := .type "dict") (by rfl) M.dict (by decide +kernel) rfl) pa_nil)))) (pss_one ps_never) pss_nil)
    (pss_one (ps_ret (pv 0)))))), ?_⟩
  refine ⟨_, rfl, rfl, _, rfl, ?_⟩
  by_cases h0 : d = 0
  · subst h0
    exact iteU (decide_eq_true rfl) ⟨_, rfl, q x H (.refl H) hx⟩
  refine iteE (decide_eq_false (fun z => h0 (by injection z with z; omega))) ?_
  refine ⟨_, rfl, x, .ty "list", _, .type "list", isD "list" t, rfl, .ty _, dp_tyx hx, isk kit_some.2.1, _, rfl, ?_⟩
  match m, t, hm, hx with
  | m + 1, .list _, hm, _ => cases hm
  | m + 1, .dict _, hm, _ => cases hm
  | m + 1, .none, hm, hx => exact iteE (by simp only [isD, tyD]; decide +kernel) ⟨_, rfl, _, .ty "tuple", _, .type "tuple", isD "tuple" _, rfl, .ty _, dp_tyx hx, isk kit_some.2.2.1, _, rfl, iteE (by simp only [isD, tyD]; decide +kernel) ⟨_, rfl, _, .ty "dict", _, .type "dict", isD "dict" _, rfl, .ty _, dp_tyx hx, isk kit_some.1, _, rfl, iteE (by simp only [isD, tyD]; decide +kernel) ⟨_, rfl, q x H (.refl H) hx⟩⟩⟩
  | m + 1, .bool _, hm, hx => exact iteE (by simp only [isD, tyD]; decide +kernel) ⟨_, rfl, _, .ty "tuple", _, .type "tuple", isD "tuple" _, rfl, .ty _, dp_tyx hx, isk kit_some.2.2.1, _, rfl, iteE (by simp only [isD, tyD]; decide +kernel) ⟨_, rfl, _, .ty "dict", _, .type "dict", isD "dict" _, rfl, .ty _, dp_tyx hx, isk kit_some.1, _, rfl, iteE (by simp only [isD, tyD]; decide +kernel) ⟨_, rfl, q x H (.refl H) hx⟩⟩⟩
  | m + 1, .int _, hm, hx => exact iteE (by simp only [isD, tyD]; decide +kernel) ⟨_, rfl, _, .ty "tuple", _, .type "tuple", isD "tuple" _, rfl, .ty _, dp_tyx hx, isk kit_some.2.2.1, _, rfl, iteE (by simp only [isD, tyD]; decide +kernel) ⟨_, rfl, _, .ty "dict", _, .type "dict", isD "dict" _, rfl, .ty _, dp_tyx hx, isk kit_some.1, _, rfl, iteE (by simp only [isD, tyD]; decide +kernel) ⟨_, rfl, q x H (.refl H) hx⟩⟩⟩
  | m + 1, .str _, hm, hx => exact iteE (by simp only [isD, tyD]; decide +kernel) ⟨_, rfl, _, .ty "tuple", _, .type "tuple", isD "tuple" _, rfl, .ty _, dp_tyx hx, isk kit_some.2.2.1, _, rfl, iteE (by simp only [isD, tyD]; decide +kernel) ⟨_, rfl, _, .ty "dict", _, .type "dict", isD "dict" _, rfl, .ty _, dp_tyx hx, isk kit_some.1, _, rfl, iteE (by simp only [isD, tyD]; decide +kernel) ⟨_, rfl, q x H (.refl H) hx⟩⟩⟩
  | m + 1, .tuple ds, hm, hx =>
    refine iteE (by simp only [isD, tyD]; decide +kernel) ⟨_, rfl, _, .ty "tuple", _, .type "tuple", isD "tuple" _, rfl, .ty _, dp_tyx hx, isk kit_some.2.2.1, _, rfl, iteU (by simp only [isD, tyD]; decide +kernel) ?_⟩
    simp only [tupd, Bool.and_eq_true, List.all_eq_true, decide_eq_true_eq] at hm
    obtain ⟨hl, hds⟩ := hm
    cases hx with
    | @tup a xs _ hs hall =>
      have lx := dpall_len hall
      refine ⟨_, rfl, a, rfl, ⟨_, hs⟩, fun D nD => ?_⟩
      refine lc_tup (xs := xs) (fun i H' => ∃ zs : List V, Same H H' ∧ H' D = some (.lst zs) ∧ DpAll K H' zs (ds.take i)) ⟨[], same_new nD _, upd_same, .nil⟩ (fun i H' _ ⟨_, s1, _⟩ => sameT s1 hs) ?_ ?_
      · rintro i v H1 hi ⟨zs, s1, hD, hz⟩
        obtain ⟨di, e1, hv⟩ := dpall_get hall hi
        have hil := (List.getElem?_eq_some_iff.mp e1).1
        refine ⟨rfl, _, rfl, _, rfl, _, _, rfl, rfl, v, d - 1, m, di, ?_, by omega, Dp_same s1 hv, hds di (List.mem_of_getElem? e1), fun u H2 s2 hu => ?_⟩
        · have : ((d : Int) - 1) = ((d - 1 : Nat) : Int) := by omega
          rw [this]
          rfl
        · have tp : Tp H2 (upd H2 D (.lst (zs ++ [u]))) := Tp.upd (s2 _ _ hD) trivial
          have lz := dpall_len hz
          refine ⟨zs, s2 _ _ hD, small1000 (by rw [lz, List.length_take]; omega), zs ++ [u], fun c o hc => ?_, upd_same, ?_⟩
          · rw [upd_ne (ne_of_none hc nD)]
            exact s2 _ _ (s1 _ _ hc)
          · rw [List.take_add_one, e1]
            refine dpall_app ?_ (.cons (tupd_tp tp (hds di (List.mem_of_getElem? e1)) hu) .nil)
            exact tupds_tp tp (fun d hd => hds d (List.mem_of_mem_take hd)) (DpAll_same s2 hz)
      · rintro H1 ⟨zs, s1, hD, hz⟩
        rw [lx, List.take_length] at hz
        refine ⟨D, zs, rfl, .inl ⟨SqL.of hD, fun l nl => ?_⟩⟩
        have g := same_new nl (.tup zs)
        exact q _ _ (s1.trans g) (.tup (SqT.of upd_same) (DpAll_same g hz))
theorem no_cp0 (vs : List V) (H : Hp) (Q : VK) (E : XK) : ¬ spCp K 0 vs H Q E := by
  rintro ⟨x, d, m, t, _, h, _⟩
  omega
theorem copied_cal {f : Addr} {fd : FuncData} (F : CopD K f fd) (b : Binds K fd ["value", "depth"] []) (m : mg "copied" = some (.ref f)) (M : CopM mg) : ∀ n : Nat, C8.Cal P w K mg base n "copied" (spCp K n) []
  | 0 => ⟨f, fd, _, [], ⟨fun vs H Q E h => absurd h (no_cp0 vs H Q E), fun A outer s H args us vs Q E _ _ _ _ h => absurd h (no_cp0 vs H Q E)⟩, m, F.kp, b, .nil⟩
  | n + 1 => ⟨f, fd, _, [], ok_copied F M (copied_cal F b m M n), m, F.kp, b, .nil⟩
end

end Ag

namespace Ag
open PySem PySem.Spec PyProof.Rows L2
theorem fx_tp {H H' : Hp} (k : Fx H H') : Tp H H' := fun p xs h => by
  rcases h with h | ⟨o, h⟩
  · exact .inl (k _ _ h (fun _ z => by cases z) (fun _ z => by cases z))
  · exact .inr ⟨o, k _ _ h (fun _ z => by cases z) (fun _ z => by cases z)⟩
/-! ### data whose lists stand at addresses of a kind -/
mutual
inductive DpN (K : PySem.W.Frag) (N : Addr → Prop) (H : Hp) : V → PyData → Prop
  | non : DpN K N H .non .none
  | bl (b : Bool) : DpN K N H (.bl b) (.bool b)
  | int (i : Int) : DpN K N H (.int i) (.int i)
  | str (s : Str) : DpN K N H (.str s) (.str s)
  | lst {a : Addr} {xs : List V} {ds : List PyData} : H a = some (.lst xs) → N a → DpNs K N H xs ds → DpN K N H (.ref a) (.list ds)
  | tup {a : Addr} {xs : List V} {ds : List PyData} : SqT K H a xs → DpNs K N H xs ds → DpN K N H (.ref a) (.tuple ds)
inductive DpNs (K : PySem.W.Frag) (N : Addr → Prop) (H : Hp) : List V → List PyData → Prop
  | nil : DpNs K N H [] []
  | cons {v : V} {d : PyData} {vs : List V} {ds : List PyData} : DpN K N H v d → DpNs K N H vs ds → DpNs K N H (v :: vs) (d :: ds)
end
section
variable {K : PySem.W.Frag} {N N' : Addr → Prop} {H H' : Hp}
theorem dpn_go (hL : ∀ a xs, N a → H a = some (.lst xs) → N' a ∧ H' a = some (.lst xs)) (hT : ∀ a xs, SqT K H a xs → SqT K H' a xs) {v : V} {d : PyData} (h : DpN K N H v d) : DpN K N' H' v d :=
  DpN.rec (motive_1 := fun v d _ => DpN K N' H' v d) (motive_2 := fun vs ds _ => DpNs K N' H' vs ds) .non .bl .int .str (fun q n _ ih => .lst (hL _ _ n q).2 (hL _ _ n q).1 ih) (fun q _ ih => .tup (hT _ _ q) ih) .nil (fun _ _ a b => .cons a b) h
theorem dpns_go (hL : ∀ a xs, N a → H a = some (.lst xs) → N' a ∧ H' a = some (.lst xs)) (hT : ∀ a xs, SqT K H a xs → SqT K H' a xs) {vs : List V} {ds : List PyData} (h : DpNs K N H vs ds) : DpNs K N' H' vs ds :=
  DpNs.rec (motive_1 := fun v d _ => DpN K N' H' v d) (motive_2 := fun vs ds _ => DpNs K N' H' vs ds) .non .bl .int .str (fun q n _ ih => .lst (hL _ _ n q).2 (hL _ _ n q).1 ih) (fun q _ ih => .tup (hT _ _ q) ih) .nil (fun _ _ a b => .cons a b) h
theorem dpn_dp {v : V} {d : PyData} (h : DpN K N H v d) : Dp K H v d :=
  DpN.rec (motive_1 := fun v d _ => Dp K H v d) (motive_2 := fun vs ds _ => DpAll K H vs ds) .non .bl .int .str (fun q _ _ ih => .lst (SqL.of q) ih) (fun q _ ih => .tup q ih) .nil (fun _ _ a b => .cons a b) h
theorem dpns_dp {vs : List V} {ds : List PyData} (h : DpNs K N H vs ds) : DpAll K H vs ds :=
  DpNs.rec (motive_1 := fun v d _ => Dp K H v d) (motive_2 := fun vs ds _ => DpAll K H vs ds) .non .bl .int .str (fun q _ _ ih => .lst (SqL.of q) ih) (fun q _ ih => .tup q ih) .nil (fun _ _ a b => .cons a b) h
theorem dpn_same (s : Same H H') {v : V} {d : PyData} (h : DpN K N H v d) : DpN K N H' v d := dpn_go (fun _ _ n q => ⟨n, s _ _ q⟩) (fun _ _ q => sameT s q) h
theorem dpns_same (s : Same H H') {vs : List V} {ds : List PyData} (h : DpNs K N H vs ds) : DpNs K N H' vs ds := dpns_go (fun _ _ n q => ⟨n, s _ _ q⟩) (fun _ _ q => sameT s q) h
theorem dpn_mono (m : ∀ a, N a → N' a) {v : V} {d : PyData} (h : DpN K N H v d) : DpN K N' H v d := dpn_go (fun _ _ n q => ⟨m _ n, q⟩) (fun _ _ q => q) h
theorem dpns_mono (m : ∀ a, N a → N' a) {vs : List V} {ds : List PyData} (h : DpNs K N H vs ds) : DpNs K N' H vs ds := dpns_go (fun _ _ n q => ⟨m _ n, q⟩) (fun _ _ q => q) h
theorem dpn_kp {c : Addr} {xs : List V} (k : Kp c H H') (hc : H c = some (.lst xs)) (m : ∀ a, N a → a ≠ c) {v : V} {d : PyData} (h : DpN K N H v d) : DpN K N H' v d := dpn_go (fun _ _ n q => ⟨n, k _ _ q (m _ n)⟩) (fun _ _ q => (fx_tp (.kpL k hc)).seq q) h
theorem dpns_kp {c : Addr} {xs : List V} (k : Kp c H H') (hc : H c = some (.lst xs)) (m : ∀ a, N a → a ≠ c) {vs : List V} {ds : List PyData} (h : DpNs K N H vs ds) : DpNs K N H' vs ds := dpns_go (fun _ _ n q => ⟨n, k _ _ q (m _ n)⟩) (fun _ _ q => (fx_tp (.kpL k hc)).seq q) h
theorem dpns_app : ∀ {xs ys : List V} {ds es : List PyData}, DpNs K N H xs ds → DpNs K N H ys es → DpNs K N H (xs ++ ys) (ds ++ es)
  | _, _, _, _, .nil, h => h
  | _, _, _, _, .cons a b, h => .cons a (dpns_app b h)
theorem dpns_len : ∀ {xs : List V} {ds : List PyData}, DpNs K N H xs ds → xs.length = ds.length
  | _, _, .nil => rfl
  | _, _, .cons _ b => by rw [List.length_cons, List.length_cons, dpns_len b]
end
/-- data without dicts, nested at most so deep -/
def lstd : Nat → PyData → Bool
  | 0, _ => false
  | n + 1, .tuple ds => decide (ds.length ≤ 1000) && ds.all (lstd n)
  | n + 1, .list ds => decide (ds.length ≤ 1000) && ds.all (lstd n)
  | _ + 1, .dict _ => false
  | _ + 1, _ => true
section
variable {P : Program} {w : World} {K : PySem.W.Frag} {mg : Str → Option Value} {base : Heap}
/-- a copy: its lists are new ones -/
def spCpL (K : PySem.W.Frag) (n : Nat) : Sp := fun vs H Q _ => ∃ (x : V) (d m : Nat) (t : PyData), vs = [x, .int (d : Int)] ∧ d < n ∧ m ≤ d ∧ Dp K H x t ∧ lstd m t = true ∧ ∀ v H', Same H H' → DpN K (fun a => H a = none) H' v t → Q v H'
theorem leaf_dpn {N : Addr → Prop} {H : Hp} {x : V} {t : PyData} (h : Dp K H x t) (h1 : ∀ ds, t ≠ .list ds) (h2 : ∀ ds, t ≠ .tuple ds) : DpN K N H x t := by
  cases h with
  | non => exact .non
  | bl b => exact .bl b
  | int i => exact .int i
  | str s => exact .str s
  | lst _ _ => exact absurd rfl (h1 _)
  | tup _ _ => exact absurd rfl (h2 _)
theorem ok_copiedL {n : Nat} {f : Addr} {fd : FuncData} (F : CopD K f fd) (M : CopM mg) (cU : C8.Cal P w K mg base n "copied" (spCpL K n) []) : FnOk P w K mg base CX0 (n + 1) f fd ["value", "depth"] (spCpL K (n + 1)) := by
  refine F.ok scCp (fun vs H Q E h => ?_) (fun cdv A outer s H vs Q E hr h => ?_)
  · obtain ⟨x, d, m, t, rfl, _⟩ := h
    rfl
  obtain ⟨x, d, m, t, rfl, hd, hmd, hx, hm, q⟩ := h
  have nd := scCp.nd
  refine ⟨_, pss_cons (ps_if (pt_cmpR op_eq (pv 1) pe_int (nomark _)) (pss_one (ps_ret (pv 0))) pss_nil)
    (pss_cons (ps_if (pt_val (pe_callB call_isi (by rfl) M.isi (by decide +kernel) (pa_cons (pv 0) (pa_cons (pe_bltn (v := .ty "list") (u := .type "list") (by rfl) M.list (by decide +kernel) rfl) pa_nil))))
      (pss_one (ps_ret (pe_lc (own := [("item", 2)]) (g := gName 2) (tt := tYes) (te := tCall (spCpL K n) [] C8.E0 (tCons (tVar 2) (tCons (tSub (tVar 1) (tC (.int 1))) tNil))) rfl nd (pi_list (pv 0))
        (blkOk_by (own := [("item", 2)]) (N := nCp) (sc := defScope s_copied) (by decide +kernel)) (fun _ _ _ _ _ => pg_name (i := 2) nd rfl (Or.inl rfl)) (fun _ _ _ _ _ => pts_nil) (fun _ _ _ _ _ => C8.pe_c cU hr (Nat.le_refl _) (by rfl) (pa_cons (pv 2) (pa_cons (pe_sub (pv 1) pe_int) pa_nil)))))) pss_nil)
    (pss_cons (ps_if (pt_val (pe_callB call_isi (by rfl) M.isi (by decide +kernel) (pa_cons (pv 0) (pa_cons (pe_bltn (v := .ty "tuple") (u := .type "tuple") (by rfl) M.tuple (by decide +kernel) rfl) pa_nil))))
      (pss_one (ps_ret (pe_callTy call_tuple_of (by rfl) M.tuple (by decide +kernel) (pa_cons (pe_lc (own := [("item", 2)]) (g := gName 2) (tt := tYes) (te := tCall (spCpL K n) [] C8.E0 (tCons (tVar 2) (tCons (tSub (tVar 1) (tC (.int 1))) tNil))) rfl nd (pi_tup (pv 0))
        (blkOk_by (own := [("item", 2)]) (N := nCp) (sc := defScope s_copied) (by decide +kernel)) (fun _ _ _ _ _ => pg_name (i := 2) nd rfl (Or.inl rfl)) (fun _ _ _ _ _ => pts_nil) (fun _ _ _ _ _ => C8.pe_c cU hr (Nat.le_refl _) (by rfl) (pa_cons (pv 2) (pa_cons (pe_sub (pv 1) pe_int) pa_nil)))) pa_nil)))) pss_nil)
    (pss_cons (ps_if (pt_val (pe_callB call_isi (by rfl) M.isi (by decide +kernel) (pa_cons (pv 0) (pa_cons (pe_bltn (v := .ty "dict") (u := .type "dict") (by rfl) M.dict (by decide +kernel) rfl) pa_nil)))) (pss_one ps_never) pss_nil)
    (pss_one (ps_ret (pv 0)))))), ?_⟩
  have m0 : m ≠ 0 := fun e => by
    subst e
    cases hm
  have h0 : d ≠ 0 := by omega
  refine ⟨_, rfl, rfl, _, rfl, ?_⟩
  refine iteE (decide_eq_false (fun z => h0 (by injection z with z; omega))) ?_
  refine ⟨_, rfl, x, .ty "list", _, .type "list", isD "list" t, rfl, .ty _, dp_tyx hx, isk kit_some.2.1, _, rfl, ?_⟩
  -- one item
  have item : ∀ {H1 : Hp} {D : Addr} {m' i : Nat} {xs zs : List V} {ds : List PyData} {v : V} {Q2 : V → Hp → Prop}, m ≤ m' + 1 → Same H H1 → H D = none → H1 D = some (.lst zs) → DpNs K (fun a => H a = none ∧ a ≠ D) H1 zs (ds.take i) → DpAll K H xs ds → (∀ e ∈ ds, lstd m' e = true) → m' + 1 ≤ d → ds.length ≤ 1000 → xs[i]? = some v →
      (∀ u H2 zs', Same H1 H2 → H2 D = some (.lst zs) → zs' = zs ++ [u] → zs.length ≤ 1000 → DpNs K (fun a => H a = none ∧ a ≠ D) (upd H2 D (.lst zs')) zs' (ds.take (i + 1)) → Q2 u H2) → spCpL K n [v, .int ((d : Int) - 1)] H1 Q2 C8.E0 := by
    intro H1 D m' i xs zs ds v Q2 hm' s1 nD hD hz hall hds hd' hl hi fin
    obtain ⟨di, e1, hv⟩ := dpall_get hall hi
    have hil := (List.getElem?_eq_some_iff.mp e1).1
    refine ⟨v, d - 1, m', di, ?_, by omega, by omega, Dp_same s1 hv, hds di (List.mem_of_getElem? e1), fun u H2 s2 hu => ?_⟩
    · have : ((d : Int) - 1) = ((d - 1 : Nat) : Int) := by omega
      rw [this]
    have lz := dpns_len hz
    refine fin u H2 _ s2 (s2 _ _ hD) rfl (by rw [lz, List.length_take]; omega) ?_
    have k : Kp D H2 (upd H2 D (.lst (zs ++ [u]))) := kp_upd
    rw [List.take_add_one, e1]
    refine dpns_app (dpns_kp k (s2 _ _ hD) (fun a n => n.2) (dpns_same s2 hz)) (.cons (dpn_kp k (s2 _ _ hD) (fun a n => n.2) (dpn_mono (fun a n => ⟨?_, fun e => ?_⟩) hu)) .nil)
    · cases z : H a with
      | none => rfl
      | some o =>
        rw [s1 _ _ z] at n
        cases n
    · subst e
      rw [hD] at n
      cases n
  match m, t, hm, hx with
  | m + 1, .dict _, hm, _ => cases hm
  | m + 1, .none, hm, hx => exact iteE (by simp only [isD, tyD]; decide +kernel) ⟨_, rfl, _, .ty "tuple", _, .type "tuple", isD "tuple" _, rfl, .ty _, dp_tyx hx, isk kit_some.2.2.1, _, rfl, iteE (by simp only [isD, tyD]; decide +kernel) ⟨_, rfl, _, .ty "dict", _, .type "dict", isD "dict" _, rfl, .ty _, dp_tyx hx, isk kit_some.1, _, rfl, iteE (by simp only [isD, tyD]; decide +kernel) ⟨_, rfl, q x H (.refl H) (leaf_dpn hx (fun _ e => by cases e) (fun _ e => by cases e))⟩⟩⟩
  | m + 1, .bool _, hm, hx => exact iteE (by simp only [isD, tyD]; decide +kernel) ⟨_, rfl, _, .ty "tuple", _, .type "tuple", isD "tuple" _, rfl, .ty _, dp_tyx hx, isk kit_some.2.2.1, _, rfl, iteE (by simp only [isD, tyD]; decide +kernel) ⟨_, rfl, _, .ty "dict", _, .type "dict", isD "dict" _, rfl, .ty _, dp_tyx hx, isk kit_some.1, _, rfl, iteE (by simp only [isD, tyD]; decide +kernel) ⟨_, rfl, q x H (.refl H) (leaf_dpn hx (fun _ e => by cases e) (fun _ e => by cases e))⟩⟩⟩
  | m + 1, .int _, hm, hx => exact iteE (by simp only [isD, tyD]; decide +kernel) ⟨_, rfl, _, .ty "tuple", _, .type "tuple", isD "tuple" _, rfl, .ty _, dp_tyx hx, isk kit_some.2.2.1, _, rfl, iteE (by simp only [isD, tyD]; decide +kernel) ⟨_, rfl, _, .ty "dict", _, .type "dict", isD "dict" _, rfl, .ty _, dp_tyx hx, isk kit_some.1, _, rfl, iteE (by simp only [isD, tyD]; decide +kernel) ⟨_, rfl, q x H (.refl H) (leaf_dpn hx (fun _ e => by cases e) (fun _ e => by cases e))⟩⟩⟩
  | m + 1, .str _, hm, hx => exact iteE (by simp only [isD, tyD]; decide +kernel) ⟨_, rfl, _, .ty "tuple", _, .type "tuple", isD "tuple" _, rfl, .ty _, dp_tyx hx, isk kit_some.2.2.1, _, rfl, iteE (by simp only [isD, tyD]; decide +kernel) ⟨_, rfl, _, .ty "dict", _, .type "dict", isD "dict" _, rfl, .ty _, dp_tyx hx, isk kit_some.1, _, rfl, iteE (by simp only [isD, tyD]; decide +kernel) ⟨_, rfl, q x H (.refl H) (leaf_dpn hx (fun _ e => by cases e) (fun _ e => by cases e))⟩⟩⟩
  | m + 1, .list ds, hm, hx =>
    refine iteU (by simp only [isD, tyD]; decide +kernel) ?_
    simp only [lstd, Bool.and_eq_true, List.all_eq_true, decide_eq_true_eq] at hm
    obtain ⟨hl, hds⟩ := hm
    cases hx with
    | @lst a xs _ hs hall =>
      have lx := dpall_len hall
      refine ⟨_, rfl, a, rfl, ⟨_, hs⟩, fun D nD => ?_⟩
      refine lc_list (xs := xs) (fun i H' => ∃ zs : List V, Same H H' ∧ H' D = some (.lst zs) ∧ DpNs K (fun a => H a = none ∧ a ≠ D) H' zs (ds.take i)) ⟨[], same_new nD _, upd_same, .nil⟩ (fun i H' _ ⟨_, s1, _⟩ => s1.seq hs) ?_ ?_
      · rintro i v H1 hi ⟨zs, s1, hD, hz⟩
        refine ⟨rfl, _, rfl, _, rfl, _, _, rfl, rfl, item (Nat.le_refl _) s1 nD hD hz hall hds hmd hl hi fun u H2 zs' s2 hD2 ez lz hz2 => ⟨zs, hD2, small1000 (by omega), zs', fun c o hc => ?_, ?_, ?_⟩⟩
        · subst ez
          rw [upd_ne (ne_of_none hc nD)]
          exact s2 _ _ (s1 _ _ hc)
        · subst ez
          exact upd_same
        · subst ez
          exact hz2
      · rintro H1 ⟨zs, s1, hD, hz⟩
        rw [lx, List.take_length] at hz
        exact q _ _ s1 (.lst hD nD (dpns_mono (fun a n => n.1) hz))
  | m + 1, .tuple ds, hm, hx =>
    refine iteE (by simp only [isD, tyD]; decide +kernel) ⟨_, rfl, _, .ty "tuple", _, .type "tuple", isD "tuple" _, rfl, .ty _, dp_tyx hx, isk kit_some.2.2.1, _, rfl, iteU (by simp only [isD, tyD]; decide +kernel) ?_⟩
    simp only [lstd, Bool.and_eq_true, List.all_eq_true, decide_eq_true_eq] at hm
    obtain ⟨hl, hds⟩ := hm
    cases hx with
    | @tup a xs _ hs hall =>
      have lx := dpall_len hall
      refine ⟨_, rfl, a, rfl, ⟨_, hs⟩, fun D nD => ?_⟩
      refine lc_tup (xs := xs) (fun i H' => ∃ zs : List V, Same H H' ∧ H' D = some (.lst zs) ∧ DpNs K (fun a => H a = none ∧ a ≠ D) H' zs (ds.take i)) ⟨[], same_new nD _, upd_same, .nil⟩ (fun i H' _ ⟨_, s1, _⟩ => sameT s1 hs) ?_ ?_
      · rintro i v H1 hi ⟨zs, s1, hD, hz⟩
        refine ⟨rfl, _, rfl, _, rfl, _, _, rfl, rfl, item (Nat.le_refl _) s1 nD hD hz hall hds hmd hl hi fun u H2 zs' s2 hD2 ez lz hz2 => ⟨zs, hD2, small1000 (by omega), zs', fun c o hc => ?_, ?_, ?_⟩⟩
        · subst ez
          rw [upd_ne (ne_of_none hc nD)]
          exact s2 _ _ (s1 _ _ hc)
        · subst ez
          exact upd_same
        · subst ez
          exact hz2
      · rintro H1 ⟨zs, s1, hD, hz⟩
        rw [lx, List.take_length] at hz
        refine ⟨D, zs, rfl, .inl ⟨SqL.of hD, fun l nl => ?_⟩⟩
        have g := same_new nl (.tup zs)
        exact q _ _ (s1.trans g) (.tup (SqT.of upd_same) (dpns_same g (dpns_mono (fun a n => n.1) hz)))
theorem no_cpL0 (vs : List V) (H : Hp) (Q : VK) (E : XK) : ¬ spCpL K 0 vs H Q E := by
  rintro ⟨x, d, m, t, _, h, _⟩
  omega
theorem copiedL_cal {f : Addr} {fd : FuncData} (F : CopD K f fd) (b : Binds K fd ["value", "depth"] []) (m : mg "copied" = some (.ref f)) (M : CopM mg) : ∀ n : Nat, C8.Cal P w K mg base n "copied" (spCpL K n) []
  | 0 => ⟨f, fd, _, [], ⟨fun vs H Q E h => absurd h (no_cpL0 vs H Q E), fun A outer s H args us vs Q E _ _ _ _ h => absurd h (no_cpL0 vs H Q E)⟩, m, F.kp, b, .nil⟩
  | n + 1 => ⟨f, fd, _, [], ok_copiedL F M (copiedL_cal F b m M n), m, F.kp, b, .nil⟩
end

theorem lst_exo {a b C : Addr} {d : Option Addr} {xs : List V} : HO.lst xs ≠ exo a C d := fun z => by
  unfold exo at z
  cases z
/-! ### exceptions that stand as values: their kinds, their fields -/
structure ErX (K : PySem.W.Frag) (H : Hp) (a C : Addr) (e : Ek) (ws : List V) : Prop where
  ex : ∃ (dx : Addr) (fs : List (Str × V)), H a = some (exo a C (some dx)) ∧ H dx = some (exd dx fs) ∧ fs.lookup ("code" : Str) = some (.str e.code) ∧ Paired (fun n v => fs.lookup n = some v) e.attrs ws
  cls : XC K C
section
variable {P : Program} {w : World} {K : PySem.W.Frag} {mg : Str → Option Value} {base : Heap}
theorem ErX.keep {H H' : Hp} {a C b : Addr} {e : Ek} {ws : List V} (E : ErX K H a C e ws) (k : ∀ c o, H c = some o → c ≠ b → H' c = some o) (hb : ∀ f : Heap → Prop, H b ≠ some (.ext f)) : ErX K H' a C e ws := by
  obtain ⟨⟨dx, fs, h1, h2, h3, h4⟩, c⟩ := E
  refine ⟨⟨dx, fs, k _ _ h1 fun z => ?_, k _ _ h2 fun z => ?_, h3, h4⟩, c⟩
  · subst z
    exact hb _ h1
  · subst z
    exact hb _ h2
theorem ErX.same {H H' : Hp} {a C : Addr} {e : Ek} {ws : List V} (E : ErX K H a C e ws) (s : Same H H') : ErX K H' a C e ws := by
  obtain ⟨⟨dx, fs, h1, h2, h3, h4⟩, c⟩ := E
  exact ⟨⟨dx, fs, s _ _ h1, s _ _ h2, h3, h4⟩, c⟩
/-- _law_fields(e) -/
def spFx (K : PySem.W.Frag) : Sp := fun vs H Q _ => ∃ (a C : Addr) (e : Ek) (ws : List V), vs = [.ref a] ∧ ErX K H a C e ws ∧ ∀ t H', Same H H' → H t = none → H' t = some (.tup ws) → Q (.ref t) H'
theorem st_fx {σ : L2.St} {H0 H : Hp} {a C : Addr} {e : Ek} {ws : List V} {n : Str} {D : Ends} {Q : VK} (hr : D.rt = Q) (g : Gro H0 H) (h0 : σ[0]? = some (some (.ref a))) (E : ErX K H0 a C e ws) (ea : e.attrs = [n]) (hn : n ∈ nine)
    (q : ∀ t H', Same H0 H' → H0 t = none → H' t = some (.tup ws) → Q (.ref t) H') : tRet (tTup (tCons (tXg K n (tVar 0)) tNil)) D σ H := by
  obtain ⟨⟨dx, fs, h1, h2, h3, v⟩, c⟩ := E
  rw [ea] at v
  cases v with
  | cons r1 r2 =>
    cases r2
    refine ⟨_, h0, a, C, dx, fs, _, rfl, g.1 _ _ h1, g.1 _ _ h2, c, hn, r1, (by show 1 ≤ sizeLine; decide), fun t nt => ?_⟩
    rw [hr]
    exact q t _ (g.new nt _).1 (g.2 t nt) upd_same
theorem ok_fx {f : Addr} {fd : FuncData} (F : Fun K "_law_fields" "_law_fields" s_law_fields f fd) : FnOk P w K mg base CX0 2 f fd ["_law_e"] (spFx K) := by
  refine F.ok scFl (fun vs H Q E h => ?_) (fun cdv A outer s H vs Q E hr h => ?_)
  · obtain ⟨a, C, e, ws, rfl, _⟩ := h
    rfl
  obtain ⟨a, C, e, ws, rfl, Er, q⟩ := h
  have nd := scFl.nd
  refine ⟨_, pss_cons (ps_set (i := 1) nd rfl (.inl rfl) (pe_xg (pv 0)))
    (pss_cons (ps_if (pt_cmpR op_in_seq (pv 1) (pe_tup (pa_cons pe_str (pa_cons pe_str (pa_cons pe_str (pa_cons pe_str (pa_cons pe_str pa_nil)))))) (by with_unfolding_all rfl)) (pss_one (ps_ret (pe_tup (pa_cons (pe_xg (pv 0)) pa_nil)))) pss_nil)
    (pss_cons (ps_if (pt_cmpR op_in_seq (pv 1) (pe_tup (pa_cons pe_str (pa_cons pe_str pa_nil))) (by with_unfolding_all rfl)) (pss_one (ps_ret (pe_tup (pa_cons (pe_xg (pv 0)) pa_nil)))) pss_nil)
    (pss_cons (ps_if (pt_cmpR op_in_seq (pv 1) (pe_tup (pa_cons pe_str (pa_cons pe_str pa_nil))) (by with_unfolding_all rfl)) (pss_one (ps_ret (pe_tup (pa_cons (pe_xg (pv 0)) pa_nil)))) pss_nil)
    (pss_cons (ps_if (pt_cmpR op_in_seq (pv 1) (pe_tup (pa_cons pe_str (pa_cons pe_str (pa_cons pe_str pa_nil)))) (by with_unfolding_all rfl)) (pss_one (ps_ret (pe_tup (pa_cons (pe_xg (pv 0)) pa_nil)))) pss_nil)
    (pss_cons (ps_if (pt_cmpR op_eq (pv 1) pe_str (nomark _)) (pss_one (ps_ret (pe_tup (pa_cons (pe_xg (pv 0)) pa_nil)))) pss_nil)
    (pss_cons (ps_if (pt_cmpR op_eq (pv 1) pe_str (nomark _)) (pss_one (ps_ret (pe_tup (pa_cons (pe_xg (pv 0)) pa_nil)))) pss_nil)
    (pss_cons (ps_if (pt_cmpR op_eq (pv 1) pe_str (nomark _)) (pss_one (ps_ret (pe_tup (pa_cons (pe_xg (pv 0)) pa_nil)))) pss_nil)
    (pss_one (ps_ret (pe_ifExp (pt_cmpR op_eq (pv 1) pe_str (nomark _)) (pe_tup (pa_cons (pe_xg (pv 0)) (pa_cons (pe_xg (pv 0)) pa_nil))) (pe_tup pa_nil))))))))))), ?_⟩
  obtain ⟨dx, fs, h1, h2, h3, h4⟩ := id Er.ex
  have hc := Er.cls
  refine ⟨_, rfl, a, C, dx, fs, _, rfl, h1, h2, hc, by decide, h3, ?_⟩
  have g0 := Gro.refl H
  cases e
  all_goals
    repeat (first
      | exact st_inT (by assumption) rfl (fun R q => q) (by show _ ≤ sizeLine; decide) rfl (by decide +kernel) (fun H' D' g' er => st_fx (er.trans rfl) (by assumption) rfl Er rfl (by decide) q)
      | exact st_eqT (by assumption) rfl (by decide +kernel) (fun D' er => st_fx (er.trans rfl) (by assumption) rfl Er rfl (by decide) q)
      | refine st_inF (by assumption) rfl (fun R q => q) (by show _ ≤ sizeLine; decide) rfl (by decide +kernel) (fun H' g' => ?_)
      | refine st_eqF (by assumption) rfl (by decide +kernel) ?_)
  · obtain ⟨g1, g2⟩ := g'
    cases h4 with
    | cons r1 r2 =>
      cases r2 with
      | cons r3 r4 =>
        cases r4
        refine ⟨_, rfl, rfl, _, rfl, iteU (decide_eq_true rfl) ?_⟩
        refine ⟨_, rfl, a, C, dx, fs, _, rfl, g1 _ _ h1, g1 _ _ h2, hc, by decide, r1, ?_⟩
        refine ⟨_, rfl, a, C, dx, fs, _, rfl, g1 _ _ h1, g1 _ _ h2, hc, by decide, r3, (by show 2 ≤ sizeLine; decide), fun t nt => ?_⟩
        exact q t _ (g1.trans (same_new nt _)) (g2 t nt) upd_same
  · obtain ⟨g1, g2⟩ := g'
    cases h4
    refine ⟨_, rfl, rfl, _, rfl, iteE (by decide +kernel) ⟨(by show 0 ≤ sizeLine; decide), fun t nt => ?_⟩⟩
    exact q t _ (g1.trans (same_new nt _)) (g2 t nt) upd_same
end

/-! ### their __init__ -/
section
variable {P : Program} {w : World} {K : PySem.W.Frag} {mg : Str → Option Value} {base : Heap}
abbrev Kn (H : Hp) : Addr → Prop := fun b => ∃ o, H b = some o
theorem dpn_kn {N : Addr → Prop} {H : Hp} {v : V} {t : PyData} (h : DpN K N H v t) : DpN K (Kn H) H v t := dpn_go (fun a xs _ e => ⟨⟨_, e⟩, e⟩) (fun _ _ z => z) h
theorem dpns_kn {N : Addr → Prop} {H : Hp} {v : List V} {t : List PyData} (h : DpNs K N H v t) : DpNs K (Kn H) H v t := dpns_go (fun a xs _ e => ⟨⟨_, e⟩, e⟩) (fun _ _ z => z) h
/-- where all but an exception's object stays -/
theorem dpn_exo {N : Addr → Prop} {H H' : Hp} {a : Addr} {f : Heap → Prop} {v : V} {t : PyData} (k : ∀ c o, H c = some o → c ≠ a → H' c = some o) (ha : H a = some (.ext f)) (h : DpN K N H v t) : DpN K (Kn H') H' v t := by
  refine dpn_go (fun b xs _ e => ?_) (fun p xs z => ?_) h
  · have e1 := k b _ e (fun z => by
      subst z
      rw [ha] at e
      cases e)
    exact ⟨⟨_, e1⟩, e1⟩
  · rcases z with (z | ⟨o, z⟩) | z
    · exact .inl (.inl (k _ _ z (ne_of z ha (fun z => by cases z))))
    · exact .inl (.inr ⟨o, k _ _ z (ne_of z ha (fun z => by cases z))⟩)
    · exact .inr z
theorem dpall_ext {H H' : Hp} {a : Addr} {f : Heap → Prop} {xs : List V} {ds : List PyData} (k : ∀ c o, H c = some o → c ≠ a → H' c = some o) (ha : H a = some (.ext f)) (h : DpAll K H xs ds) : DpAll K H' xs ds := by
  have rd : ∀ p ys, SqL K H p ys → SqL K H' p ys := fun p ys z => by
    rcases z with (z | ⟨o, z⟩) | z
    · exact .inl (.inl (k _ _ z (ne_of z ha (fun e => by cases e))))
    · exact .inl (.inr ⟨o, k _ _ z (ne_of z ha (fun e => by cases e))⟩)
    · exact .inr z
  have rt : ∀ p ys, SqT K H p ys → SqT K H' p ys := fun p ys z => by
    rcases z with (z | ⟨o, z⟩) | z
    · exact .inl (.inl (k _ _ z (ne_of z ha (fun e => by cases e))))
    · exact .inl (.inr ⟨o, k _ _ z (ne_of z ha (fun e => by cases e))⟩)
    · exact .inr z
  exact DpAll.rec (motive_1 := fun v d _ => Dp K H' v d) (motive_2 := fun vs ds _ => DpAll K H' vs ds) .non .bl .int .str (fun q _ ih => .lst (rd _ _ q) ih) (fun q _ ih => .tup (rt _ _ q) ih) .nil (fun _ _ a b => .cons a b) h
theorem dp_ext {H H' : Hp} {a : Addr} {f : Heap → Prop} {v : V} {d : PyData} (k : ∀ c o, H c = some o → c ≠ a → H' c = some o) (ha : H a = some (.ext f)) (h : Dp K H v d) : Dp K H' v d := by
  cases dpall_ext k ha (.cons h .nil) with
  | cons h1 _ => exact h1
def spIni (K : PySem.W.Frag) (C : Addr) (e : Ek) : Sp := fun vs H Q _ => ∃ (a : Addr) (xs : List V) (ts : List PyData), vs = .ref a :: xs ∧ H a = some (exo a C none) ∧ DpAll K H xs ts ∧ (∀ t ∈ ts, lstd 12 t = true) ∧ xs.length = e.attrs.length ∧
  ∀ ws H', ErX K H' a C e ws → DpNs K (Kn H') H' ws ts → (∀ c o, H c = some o → c ≠ a → H' c = some o) → Q .non H'
theorem dpall1 {H : Hp} {xs : List V} {ts : List PyData} (h : DpAll K H xs ts) (l : xs.length = 1) : ∃ x t, xs = [x] ∧ ts = [t] ∧ Dp K H x t := by
  cases h with
  | nil => cases l
  | cons h1 h2 =>
    cases h2 with
    | nil => exact ⟨_, _, rfl, rfl, h1⟩
    | cons _ _ =>
      simp at l
theorem dpall2' {H : Hp} {xs : List V} {ts : List PyData} (h : DpAll K H xs ts) (l : xs.length = 2) : ∃ x y t u, xs = [x, y] ∧ ts = [t, u] ∧ Dp K H x t ∧ Dp K H y u := by
  cases h with
  | nil => cases l
  | cons h1 h2 =>
    obtain ⟨y, u, rfl, rfl, h3⟩ := dpall1 h2 (by simpa using l)
    exact ⟨_, _, _, _, rfl, rfl, h1, h3⟩
theorem look1 {n : Str} {v c : V} (nc : n ≠ "code") : ([("code", c), (n, v)] : List (Str × V)).lookup n = some v ∧ ([("code", c), (n, v)] : List (Str × V)).lookup ("code" : Str) = some c := by
  refine ⟨?_, by rw [L2.lookup_put, if_pos rfl]⟩
  rw [L2.lookup_put, if_neg nc, L2.lookup_put, if_pos rfl]
/-- __init__(self, x): self.n = copied(x); self.code = .. -/
theorem ini_one {a C : Addr} {e : Ek} {n : Str} {H : Hp} {Q : VK} {D : Ends} {x : V} {t : PyData} (hX : XC K C) (ea : e.attrs = [n]) (hn : n ∈ nine) (nc : n ≠ "code") (ha : H a = some (exo a C none)) (hx : Dp K H x t) (ht : lstd 12 t = true) (hD : ∀ σ H', D.nx σ H' = Q .non H')
    (q : ∀ ws H', ErX K H' a C e ws → DpNs K (Kn H') H' ws [t] → (∀ c o, H c = some o → c ≠ a → H' c = some o) → Q .non H') :
    tSeq (tXs K n (tVar 0) (tCall (spCpL K 13) [.int 12] C8.E0 (tCons (tVar 1) tNil))) (tXs K "code" (tVar 0) (tC (.str e.code))) D [some (.ref a), some x] H := by
  refine ⟨_, rfl, x, 12, 12, t, rfl, by decide, by decide, hx, ht, fun v H1 s1 hv => ?_⟩
  refine ⟨_, rfl, a, C, rfl, hX, hn, .inl ⟨s1 _ _ ha, fun dx nd ne => ?_⟩⟩
  refine ⟨_, rfl, a, C, rfl, hX, by decide, .inr ⟨dx, [(n, v)], upd_same, by rw [upd_ne ne, upd_same], (by show 1 ≤ 900; decide), ?_⟩⟩
  rw [hD]
  have k1 : ∀ c o, H1 c = some o → c ≠ a → upd (upd (upd H1 dx (exd dx [(n, v)])) a (exo a C (some dx))) dx (exd dx [("code", .str e.code), (n, v)]) c = some o := fun c o z na => by
    have n2 := ne_of_none z nd
    rw [upd_ne n2, upd_ne na, upd_ne n2]
    exact z
  refine q [v] _ ⟨⟨dx, [("code", .str e.code), (n, v)], by rw [upd_ne ne.symm, upd_same], upd_same, (look1 nc).2, ?_⟩, hX⟩ (.cons (dpn_exo k1 (s1 _ _ ha) hv) .nil) (fun c o z na => k1 c o (s1 _ _ z) na)
  rw [ea]
  exact .cons (look1 nc).1 .nil
end

end Ag

namespace Ag
open PySem PySem.Spec PyProof.Rows L2
section
variable {P : Program} {w : World} {K : PySem.W.Frag} {mg : Str → Option Value} {base : Heap}
theorem scIInvalidName : FnScope ["self", "value"] ["self", "value"] (defScope s_InvalidName_init) := ⟨rfl, rfl, rfl, by decide +kernel, rfl, by decide +kernel, by decide +kernel⟩
theorem ini_InvalidName {C f : Addr} {fd : FuncData} (F : Fun K "__init__" "InvalidName.__init__" s_InvalidName_init f fd) (hX : XC K C) (cC : C8.Cal P w K mg base 13 "copied" (spCpL K 13) [.int 12]) : FnOk P w K mg base CX0 14 f fd ["self", "value"] (spIni K C .name) := by
  refine F.ok scIInvalidName (fun vs H Q E h => ?_) (fun cdv A outer s H vs Q E hr h => ?_)
  · obtain ⟨a, xs, ts, rfl, _, _, _, l, _⟩ := h
    rw [List.length_cons, l]
    rfl
  obtain ⟨a, xs, ts, rfl, ha, hx, ht, l, q⟩ := h
  obtain ⟨x, t, rfl, rfl, hy⟩ := dpall1 hx l
  refine ⟨_, pss_cons (ps_xs (pv 0) (C8.pe_c cC hr (by decide) (by rfl) (pa_cons (pv 1) pa_nil))) (pss_one (ps_xs (pv 0) pe_str)), ?_⟩
  exact ini_one (e := .name) hX rfl (by decide) (by decide) ha hy (ht t (by simp)) (fun _ _ => rfl) q
theorem scIInvalidNumber : FnScope ["self", "value"] ["self", "value"] (defScope s_InvalidNumber_init) := ⟨rfl, rfl, rfl, by decide +kernel, rfl, by decide +kernel, by decide +kernel⟩
theorem ini_InvalidNumber {C f : Addr} {fd : FuncData} (F : Fun K "__init__" "InvalidNumber.__init__" s_InvalidNumber_init f fd) (hX : XC K C) (cC : C8.Cal P w K mg base 13 "copied" (spCpL K 13) [.int 12]) : FnOk P w K mg base CX0 14 f fd ["self", "value"] (spIni K C .number) := by
  refine F.ok scIInvalidNumber (fun vs H Q E h => ?_) (fun cdv A outer s H vs Q E hr h => ?_)
  · obtain ⟨a, xs, ts, rfl, _, _, _, l, _⟩ := h
    rw [List.length_cons, l]
    rfl
  obtain ⟨a, xs, ts, rfl, ha, hx, ht, l, q⟩ := h
  obtain ⟨x, t, rfl, rfl, hy⟩ := dpall1 hx l
  refine ⟨_, pss_cons (ps_xs (pv 0) (C8.pe_c cC hr (by decide) (by rfl) (pa_cons (pv 1) pa_nil))) (pss_one (ps_xs (pv 0) pe_str)), ?_⟩
  exact ini_one (e := .number) hX rfl (by decide) (by decide) ha hy (ht t (by simp)) (fun _ _ => rfl) q
theorem scIInvalidFormula : FnScope ["self", "value"] ["self", "value"] (defScope s_InvalidFormula_init) := ⟨rfl, rfl, rfl, by decide +kernel, rfl, by decide +kernel, by decide +kernel⟩
theorem ini_InvalidFormula {C f : Addr} {fd : FuncData} (F : Fun K "__init__" "InvalidFormula.__init__" s_InvalidFormula_init f fd) (hX : XC K C) (cC : C8.Cal P w K mg base 13 "copied" (spCpL K 13) [.int 12]) : FnOk P w K mg base CX0 14 f fd ["self", "value"] (spIni K C .formula) := by
  refine F.ok scIInvalidFormula (fun vs H Q E h => ?_) (fun cdv A outer s H vs Q E hr h => ?_)
  · obtain ⟨a, xs, ts, rfl, _, _, _, l, _⟩ := h
    rw [List.length_cons, l]
    rfl
  obtain ⟨a, xs, ts, rfl, ha, hx, ht, l, q⟩ := h
  obtain ⟨x, t, rfl, rfl, hy⟩ := dpall1 hx l
  refine ⟨_, pss_cons (ps_xs (pv 0) (C8.pe_c cC hr (by decide) (by rfl) (pa_cons (pv 1) pa_nil))) (pss_one (ps_xs (pv 0) pe_str)), ?_⟩
  exact ini_one (e := .formula) hX rfl (by decide) (by decide) ha hy (ht t (by simp)) (fun _ _ => rfl) q
theorem scIInvalidShape : FnScope ["self", "value"] ["self", "value"] (defScope s_InvalidShape_init) := ⟨rfl, rfl, rfl, by decide +kernel, rfl, by decide +kernel, by decide +kernel⟩
theorem ini_InvalidShape {C f : Addr} {fd : FuncData} (F : Fun K "__init__" "InvalidShape.__init__" s_InvalidShape_init f fd) (hX : XC K C) (cC : C8.Cal P w K mg base 13 "copied" (spCpL K 13) [.int 12]) : FnOk P w K mg base CX0 14 f fd ["self", "value"] (spIni K C .shape) := by
  refine F.ok scIInvalidShape (fun vs H Q E h => ?_) (fun cdv A outer s H vs Q E hr h => ?_)
  · obtain ⟨a, xs, ts, rfl, _, _, _, l, _⟩ := h
    rw [List.length_cons, l]
    rfl
  obtain ⟨a, xs, ts, rfl, ha, hx, ht, l, q⟩ := h
  obtain ⟨x, t, rfl, rfl, hy⟩ := dpall1 hx l
  refine ⟨_, pss_cons (ps_xs (pv 0) (C8.pe_c cC hr (by decide) (by rfl) (pa_cons (pv 1) pa_nil))) (pss_one (ps_xs (pv 0) pe_str)), ?_⟩
  exact ini_one (e := .shape) hX rfl (by decide) (by decide) ha hy (ht t (by simp)) (fun _ _ => rfl) q
theorem scIInvalidRow : FnScope ["self", "at"] ["self", "at"] (defScope s_InvalidRow_init) := ⟨rfl, rfl, rfl, by decide +kernel, rfl, by decide +kernel, by decide +kernel⟩
theorem ini_InvalidRow {C f : Addr} {fd : FuncData} (F : Fun K "__init__" "InvalidRow.__init__" s_InvalidRow_init f fd) (hX : XC K C) (cC : C8.Cal P w K mg base 13 "copied" (spCpL K 13) [.int 12]) : FnOk P w K mg base CX0 14 f fd ["self", "at"] (spIni K C .row) := by
  refine F.ok scIInvalidRow (fun vs H Q E h => ?_) (fun cdv A outer s H vs Q E hr h => ?_)
  · obtain ⟨a, xs, ts, rfl, _, _, _, l, _⟩ := h
    rw [List.length_cons, l]
    rfl
  obtain ⟨a, xs, ts, rfl, ha, hx, ht, l, q⟩ := h
  obtain ⟨x, t, rfl, rfl, hy⟩ := dpall1 hx l
  refine ⟨_, pss_cons (ps_xs (pv 0) (C8.pe_c cC hr (by decide) (by rfl) (pa_cons (pv 1) pa_nil))) (pss_one (ps_xs (pv 0) pe_str)), ?_⟩
  exact ini_one (e := .row) hX rfl (by decide) (by decide) ha hy (ht t (by simp)) (fun _ _ => rfl) q
theorem scIInvalidCommand : FnScope ["self", "path"] ["self", "path"] (defScope s_InvalidCommand_init) := ⟨rfl, rfl, rfl, by decide +kernel, rfl, by decide +kernel, by decide +kernel⟩
theorem ini_InvalidCommand {C f : Addr} {fd : FuncData} (F : Fun K "__init__" "InvalidCommand.__init__" s_InvalidCommand_init f fd) (hX : XC K C) (cC : C8.Cal P w K mg base 13 "copied" (spCpL K 13) [.int 12]) : FnOk P w K mg base CX0 14 f fd ["self", "path"] (spIni K C .command) := by
  refine F.ok scIInvalidCommand (fun vs H Q E h => ?_) (fun cdv A outer s H vs Q E hr h => ?_)
  · obtain ⟨a, xs, ts, rfl, _, _, _, l, _⟩ := h
    rw [List.length_cons, l]
    rfl
  obtain ⟨a, xs, ts, rfl, ha, hx, ht, l, q⟩ := h
  obtain ⟨x, t, rfl, rfl, hy⟩ := dpall1 hx l
  refine ⟨_, pss_cons (ps_xs (pv 0) (C8.pe_c cC hr (by decide) (by rfl) (pa_cons (pv 1) pa_nil))) (pss_one (ps_xs (pv 0) pe_str)), ?_⟩
  exact ini_one (e := .command) hX rfl (by decide) (by decide) ha hy (ht t (by simp)) (fun _ _ => rfl) q
theorem scIInvalidText : FnScope ["self", "line"] ["self", "line"] (defScope s_InvalidText_init) := ⟨rfl, rfl, rfl, by decide +kernel, rfl, by decide +kernel, by decide +kernel⟩
theorem ini_InvalidText {C f : Addr} {fd : FuncData} (F : Fun K "__init__" "InvalidText.__init__" s_InvalidText_init f fd) (hX : XC K C) (cC : C8.Cal P w K mg base 13 "copied" (spCpL K 13) [.int 12]) : FnOk P w K mg base CX0 14 f fd ["self", "line"] (spIni K C .text) := by
  refine F.ok scIInvalidText (fun vs H Q E h => ?_) (fun cdv A outer s H vs Q E hr h => ?_)
  · obtain ⟨a, xs, ts, rfl, _, _, _, l, _⟩ := h
    rw [List.length_cons, l]
    rfl
  obtain ⟨a, xs, ts, rfl, ha, hx, ht, l, q⟩ := h
  obtain ⟨x, t, rfl, rfl, hy⟩ := dpall1 hx l
  refine ⟨_, pss_cons (ps_xs (pv 0) (C8.pe_c cC hr (by decide) (by rfl) (pa_cons (pv 1) pa_nil))) (pss_one (ps_xs (pv 0) pe_str)), ?_⟩
  exact ini_one (e := .text) hX rfl (by decide) (by decide) ha hy (ht t (by simp)) (fun _ _ => rfl) q
theorem scIInvalidDeed : FnScope ["self", "at"] ["self", "at"] (defScope s_InvalidDeed_init) := ⟨rfl, rfl, rfl, by decide +kernel, rfl, by decide +kernel, by decide +kernel⟩
theorem ini_InvalidDeed {C f : Addr} {fd : FuncData} (F : Fun K "__init__" "InvalidDeed.__init__" s_InvalidDeed_init f fd) (hX : XC K C) (cC : C8.Cal P w K mg base 13 "copied" (spCpL K 13) [.int 12]) : FnOk P w K mg base CX0 14 f fd ["self", "at"] (spIni K C .deed) := by
  refine F.ok scIInvalidDeed (fun vs H Q E h => ?_) (fun cdv A outer s H vs Q E hr h => ?_)
  · obtain ⟨a, xs, ts, rfl, _, _, _, l, _⟩ := h
    rw [List.length_cons, l]
    rfl
  obtain ⟨a, xs, ts, rfl, ha, hx, ht, l, q⟩ := h
  obtain ⟨x, t, rfl, rfl, hy⟩ := dpall1 hx l
  refine ⟨_, pss_cons (ps_xs (pv 0) (C8.pe_c cC hr (by decide) (by rfl) (pa_cons (pv 1) pa_nil))) (pss_one (ps_xs (pv 0) pe_str)), ?_⟩
  exact ini_one (e := .deed) hX rfl (by decide) (by decide) ha hy (ht t (by simp)) (fun _ _ => rfl) q
theorem scIInvalidPage : FnScope ["self", "line"] ["self", "line"] (defScope s_InvalidPage_init) := ⟨rfl, rfl, rfl, by decide +kernel, rfl, by decide +kernel, by decide +kernel⟩
theorem ini_InvalidPage {C f : Addr} {fd : FuncData} (F : Fun K "__init__" "InvalidPage.__init__" s_InvalidPage_init f fd) (hX : XC K C) (cC : C8.Cal P w K mg base 13 "copied" (spCpL K 13) [.int 12]) : FnOk P w K mg base CX0 14 f fd ["self", "line"] (spIni K C .page) := by
  refine F.ok scIInvalidPage (fun vs H Q E h => ?_) (fun cdv A outer s H vs Q E hr h => ?_)
  · obtain ⟨a, xs, ts, rfl, _, _, _, l, _⟩ := h
    rw [List.length_cons, l]
    rfl
  obtain ⟨a, xs, ts, rfl, ha, hx, ht, l, q⟩ := h
  obtain ⟨x, t, rfl, rfl, hy⟩ := dpall1 hx l
  refine ⟨_, pss_cons (ps_xs (pv 0) (C8.pe_c cC hr (by decide) (by rfl) (pa_cons (pv 1) pa_nil))) (pss_one (ps_xs (pv 0) pe_str)), ?_⟩
  exact ini_one (e := .page) hX rfl (by decide) (by decide) ha hy (ht t (by simp)) (fun _ _ => rfl) q
theorem scITooMany : FnScope ["self", "most"] ["self", "most"] (defScope s_TooMany_init) := ⟨rfl, rfl, rfl, by decide +kernel, rfl, by decide +kernel, by decide +kernel⟩
theorem ini_TooMany {C f : Addr} {fd : FuncData} (F : Fun K "__init__" "TooMany.__init__" s_TooMany_init f fd) (hX : XC K C) (cC : C8.Cal P w K mg base 13 "copied" (spCpL K 13) [.int 12]) : FnOk P w K mg base CX0 14 f fd ["self", "most"] (spIni K C .many) := by
  refine F.ok scITooMany (fun vs H Q E h => ?_) (fun cdv A outer s H vs Q E hr h => ?_)
  · obtain ⟨a, xs, ts, rfl, _, _, _, l, _⟩ := h
    rw [List.length_cons, l]
    rfl
  obtain ⟨a, xs, ts, rfl, ha, hx, ht, l, q⟩ := h
  obtain ⟨x, t, rfl, rfl, hy⟩ := dpall1 hx l
  refine ⟨_, pss_cons (ps_xs (pv 0) (C8.pe_c cC hr (by decide) (by rfl) (pa_cons (pv 1) pa_nil))) (pss_one (ps_xs (pv 0) pe_str)), ?_⟩
  exact ini_one (e := .many) hX rfl (by decide) (by decide) ha hy (ht t (by simp)) (fun _ _ => rfl) q
theorem scITooLarge : FnScope ["self", "most"] ["self", "most"] (defScope s_TooLarge_init) := ⟨rfl, rfl, rfl, by decide +kernel, rfl, by decide +kernel, by decide +kernel⟩
theorem ini_TooLarge {C f : Addr} {fd : FuncData} (F : Fun K "__init__" "TooLarge.__init__" s_TooLarge_init f fd) (hX : XC K C) (cC : C8.Cal P w K mg base 13 "copied" (spCpL K 13) [.int 12]) : FnOk P w K mg base CX0 14 f fd ["self", "most"] (spIni K C .large) := by
  refine F.ok scITooLarge (fun vs H Q E h => ?_) (fun cdv A outer s H vs Q E hr h => ?_)
  · obtain ⟨a, xs, ts, rfl, _, _, _, l, _⟩ := h
    rw [List.length_cons, l]
    rfl
  obtain ⟨a, xs, ts, rfl, ha, hx, ht, l, q⟩ := h
  obtain ⟨x, t, rfl, rfl, hy⟩ := dpall1 hx l
  refine ⟨_, pss_cons (ps_xs (pv 0) (C8.pe_c cC hr (by decide) (by rfl) (pa_cons (pv 1) pa_nil))) (pss_one (ps_xs (pv 0) pe_str)), ?_⟩
  exact ini_one (e := .large) hX rfl (by decide) (by decide) ha hy (ht t (by simp)) (fun _ _ => rfl) q
theorem scICircular : FnScope ["self", "name"] ["self", "name"] (defScope s_Circular_init) := ⟨rfl, rfl, rfl, by decide +kernel, rfl, by decide +kernel, by decide +kernel⟩
theorem ini_Circular {C f : Addr} {fd : FuncData} (F : Fun K "__init__" "Circular.__init__" s_Circular_init f fd) (hX : XC K C) (cC : C8.Cal P w K mg base 13 "copied" (spCpL K 13) [.int 12]) : FnOk P w K mg base CX0 14 f fd ["self", "name"] (spIni K C .circular) := by
  refine F.ok scICircular (fun vs H Q E h => ?_) (fun cdv A outer s H vs Q E hr h => ?_)
  · obtain ⟨a, xs, ts, rfl, _, _, _, l, _⟩ := h
    rw [List.length_cons, l]
    rfl
  obtain ⟨a, xs, ts, rfl, ha, hx, ht, l, q⟩ := h
  obtain ⟨x, t, rfl, rfl, hy⟩ := dpall1 hx l
  refine ⟨_, pss_cons (ps_xs (pv 0) (C8.pe_c cC hr (by decide) (by rfl) (pa_cons (pv 1) pa_nil))) (pss_one (ps_xs (pv 0) pe_str)), ?_⟩
  exact ini_one (e := .circular) hX rfl (by decide) (by decide) ha hy (ht t (by simp)) (fun _ _ => rfl) q
theorem scINameInUse : FnScope ["self", "user"] ["self", "user"] (defScope s_NameInUse_init) := ⟨rfl, rfl, rfl, by decide +kernel, rfl, by decide +kernel, by decide +kernel⟩
theorem ini_NameInUse {C f : Addr} {fd : FuncData} (F : Fun K "__init__" "NameInUse.__init__" s_NameInUse_init f fd) (hX : XC K C) (cC : C8.Cal P w K mg base 13 "copied" (spCpL K 13) [.int 12]) : FnOk P w K mg base CX0 14 f fd ["self", "user"] (spIni K C .inuse) := by
  refine F.ok scINameInUse (fun vs H Q E h => ?_) (fun cdv A outer s H vs Q E hr h => ?_)
  · obtain ⟨a, xs, ts, rfl, _, _, _, l, _⟩ := h
    rw [List.length_cons, l]
    rfl
  obtain ⟨a, xs, ts, rfl, ha, hx, ht, l, q⟩ := h
  obtain ⟨x, t, rfl, rfl, hy⟩ := dpall1 hx l
  refine ⟨_, pss_cons (ps_xs (pv 0) (C8.pe_c cC hr (by decide) (by rfl) (pa_cons (pv 1) pa_nil))) (pss_one (ps_xs (pv 0) pe_str)), ?_⟩
  exact ini_one (e := .inuse) hX rfl (by decide) (by decide) ha hy (ht t (by simp)) (fun _ _ => rfl) q
theorem scIFull : FnScope ["self", "most"] ["self", "most"] (defScope s_Full_init) := ⟨rfl, rfl, rfl, by decide +kernel, rfl, by decide +kernel, by decide +kernel⟩
theorem ini_Full {C f : Addr} {fd : FuncData} (F : Fun K "__init__" "Full.__init__" s_Full_init f fd) (hX : XC K C) (cC : C8.Cal P w K mg base 13 "copied" (spCpL K 13) [.int 12]) : FnOk P w K mg base CX0 14 f fd ["self", "most"] (spIni K C .full) := by
  refine F.ok scIFull (fun vs H Q E h => ?_) (fun cdv A outer s H vs Q E hr h => ?_)
  · obtain ⟨a, xs, ts, rfl, _, _, _, l, _⟩ := h
    rw [List.length_cons, l]
    rfl
  obtain ⟨a, xs, ts, rfl, ha, hx, ht, l, q⟩ := h
  obtain ⟨x, t, rfl, rfl, hy⟩ := dpall1 hx l
  refine ⟨_, pss_cons (ps_xs (pv 0) (C8.pe_c cC hr (by decide) (by rfl) (pa_cons (pv 1) pa_nil))) (pss_one (ps_xs (pv 0) pe_str)), ?_⟩
  exact ini_one (e := .full) hX rfl (by decide) (by decide) ha hy (ht t (by simp)) (fun _ _ => rfl) q
theorem scIUnknownName : FnScope ["self", "value"] ["self", "value"] (defScope s_UnknownName_init) := ⟨rfl, rfl, rfl, by decide +kernel, rfl, by decide +kernel, by decide +kernel⟩
theorem ini_UnknownName {C f : Addr} {fd : FuncData} (F : Fun K "__init__" "UnknownName.__init__" s_UnknownName_init f fd) (hX : XC K C) (cC : C8.Cal P w K mg base 13 "copied" (spCpL K 13) [.int 12]) : FnOk P w K mg base CX0 14 f fd ["self", "value"] (spIni K C .unknown) := by
  refine F.ok scIUnknownName (fun vs H Q E h => ?_) (fun cdv A outer s H vs Q E hr h => ?_)
  · obtain ⟨a, xs, ts, rfl, _, _, _, l, _⟩ := h
    rw [List.length_cons, l]
    rfl
  obtain ⟨a, xs, ts, rfl, ha, hx, ht, l, q⟩ := h
  obtain ⟨x, t, rfl, rfl, hy⟩ := dpall1 hx l
  refine ⟨_, pss_cons (ps_xs (pv 0) (C8.pe_c cC hr (by decide) (by rfl) (pa_cons (pv 1) pa_nil))) (pss_one (ps_xs (pv 0) pe_str)), ?_⟩
  exact ini_one (e := .unknown) hX rfl (by decide) (by decide) ha hy (ht t (by simp)) (fun _ _ => rfl) q
theorem scIRefused : FnScope ["self", "path", "reason"] ["self", "path", "reason"] (defScope s_Refused_init) := ⟨rfl, rfl, rfl, by decide +kernel, rfl, by decide +kernel, by decide +kernel⟩
theorem ini_Refused {C f : Addr} {fd : FuncData} (F : Fun K "__init__" "Refused.__init__" s_Refused_init f fd) (hX : XC K C) (cC : C8.Cal P w K mg base 13 "copied" (spCpL K 13) [.int 12]) : FnOk P w K mg base CX0 14 f fd ["self", "path", "reason"] (spIni K C .refused) := by
  refine F.ok scIRefused (fun vs H Q E h => ?_) (fun cdv A outer s H vs Q E hr h => ?_)
  · obtain ⟨a, xs, ts, rfl, _, _, _, l, _⟩ := h
    rw [List.length_cons, l]
    rfl
  obtain ⟨a, xs, ts, rfl, ha, hx, ht, l, q⟩ := h
  obtain ⟨x, y, t, u, rfl, rfl, hx1, hy⟩ := dpall2' hx l
  refine ⟨_, pss_cons (ps_xs (pv 0) (C8.pe_c cC hr (by decide) (by rfl) (pa_cons (pv 1) pa_nil))) (pss_cons (ps_xs (pv 0) (C8.pe_c cC hr (by decide) (by rfl) (pa_cons (pv 2) pa_nil))) (pss_one (ps_xs (pv 0) pe_str))), ?_⟩
  refine ⟨_, rfl, x, 12, 12, t, rfl, by decide, by decide, hx1, ht t (by simp), fun v H1 s1 hv => ?_⟩
  refine ⟨_, rfl, a, C, rfl, hX, by decide, .inl ⟨s1 _ _ ha, fun dx nd ne => ?_⟩⟩
  have k1 : ∀ c o, H1 c = some o → c ≠ a → upd (upd H1 dx (exd dx [("path", v)])) a (exo a C (some dx)) c = some o := fun c o z na => by
    rw [upd_ne na, upd_ne (ne_of_none z nd)]
    exact z
  have hy1 := dp_ext k1 (s1 _ _ ha) (Dp_same s1 hy)
  refine ⟨_, rfl, y, 12, 12, u, rfl, by decide, by decide, hy1, ht u (by simp), fun v2 H2 s2 hv2 => ?_⟩
  refine ⟨_, rfl, a, C, rfl, hX, by decide, .inr ⟨dx, [("path", v)], s2 _ _ upd_same, s2 _ _ (by rw [upd_ne ne, upd_same]), (by show 1 ≤ 900; decide), ?_⟩⟩
  refine ⟨_, rfl, a, C, rfl, hX, by decide, .inr ⟨dx, [("reason", v2), ("path", v)], by rw [upd_ne ne.symm]; exact s2 _ _ upd_same, upd_same, (by show 2 ≤ 900; decide), ?_⟩⟩
  have hd2 : H2 dx = some (exd dx [("path", v)]) := s2 _ _ (by rw [upd_ne ne, upd_same])
  have k2 : ∀ c o, H2 c = some o → c ≠ dx → upd (upd H2 dx (exd dx [("reason", v2), ("path", v)])) dx (exd dx [("code", .str "Refused"), ("reason", v2), ("path", v)]) c = some o := fun c o z nd' => by
    rw [upd_ne nd', upd_ne nd']
    exact z
  refine q [v, v2] _ ⟨⟨dx, [("code", .str "Refused"), ("reason", v2), ("path", v)], k2 _ _ (s2 _ _ upd_same) ne.symm, upd_same, rfl, .cons (by rw [L2.lookup_put, if_neg (by decide), L2.lookup_put, if_neg (by decide), L2.lookup_put, if_pos rfl]) (.cons (by rw [L2.lookup_put, if_neg (by decide), L2.lookup_put, if_pos rfl]) .nil)⟩, hX⟩ (.cons (dpn_exo k2 hd2 (dpn_same s2 (dpn_exo k1 (s1 _ _ ha) hv))) (.cons (dpn_exo k2 hd2 hv2) .nil)) (fun c o z na => ?_)
  have nd2 : c ≠ dx := fun e => by
    subst e
    rw [s1 _ _ z] at nd
    cases nd
  exact k2 _ _ (s2 _ _ (k1 _ _ (s1 _ _ z) na)) nd2
theorem scINothingLeft : FnScope ["self"] ["self"] (defScope s_NothingLeft_init) := ⟨rfl, rfl, rfl, by decide +kernel, rfl, by decide +kernel, by decide +kernel⟩
theorem ini_NothingLeft {C f : Addr} {fd : FuncData} (F : Fun K "__init__" "NothingLeft.__init__" s_NothingLeft_init f fd) (hX : XC K C) : FnOk P w K mg base CX0 14 f fd ["self"] (spIni K C .nothing) := by
  refine F.ok scINothingLeft (fun vs H Q E h => ?_) (fun cdv A outer s H vs Q E hr h => ?_)
  · obtain ⟨a, xs, ts, rfl, _, _, _, l, _⟩ := h
    rw [List.length_cons, l]
    rfl
  obtain ⟨a, xs, ts, rfl, ha, hx, ht, l, q⟩ := h
  have e0 : xs = [] := List.length_eq_zero_iff.mp l
  subst e0
  cases hx
  refine ⟨_, pss_one (ps_xs (pv 0) pe_str), ?_⟩
  refine ⟨_, rfl, a, C, rfl, hX, by decide, .inl ⟨ha, fun dx nd ne => ?_⟩⟩
  refine q [] _ ⟨⟨dx, [("code", .str "NothingLeft")], upd_same, by rw [upd_ne ne, upd_same], rfl, .nil⟩, hX⟩ .nil (fun c o z na => ?_)
  rw [upd_ne na, upd_ne (ne_of_none z nd)]
  exact z
end

end Ag

namespace Ag
open PySem PySem.Spec PyProof.Rows L2
/-! ### the seventeen classes -/
def Ek.num : Ek → Nat
  | .name => 0
  | .number => 1
  | .formula => 2
  | .shape => 3
  | .row => 4
  | .command => 5
  | .text => 6
  | .deed => 7
  | .page => 8
  | .many => 9
  | .large => 10
  | .circular => 11
  | .inuse => 12
  | .full => 13
  | .refused => 14
  | .unknown => 15
  | .nothing => 16
theorem Ek.num_inj (a b : Ek) (h : a.num = b.num) : a = b := by
  cases a <;> cases b <;> first | rfl | (exact absurd h (by decide))
instance : DecidableEq Ek := fun a b => if h : a.num = b.num then .isTrue (Ek.num_inj a b h) else .isFalse fun e => h (by rw [e])
abbrev allE : List Ek := [.name, .number, .formula, .shape, .row, .command, .text, .deed, .page, .many, .large, .circular, .inuse, .full, .refused, .unknown, .nothing]
def gB : Ek → Bool
  | .unknown => false
  | .nothing => false
  | _ => true
def mB : Ek → Bool
  | .unknown => true
  | _ => false
def lB : Ek → Bool
  | .unknown => true
  | .nothing => true
  | _ => false
def iB : Ek → Bool
  | .nothing => true
  | _ => false
structure XcJ (P : Program) (w : World) (K : PySem.W.Frag) (mg : Str → Option Value) (base : Heap) (x : Str) (C fI : Addr) (k : Nat) (fd : FuncData) (ps : List Str) (sp : Sp) : Prop where
  T : XC K C
  iC : PySem.W.findIn K (.ref C) "__init__" = some (some (.ref fI))
  tI : PySem.W.typeIn K (.ref fI) = some (.type "function")
  G : FnOk P w K mg base CX0 k fI fd ps sp
  hb : Binds K fd ps []
  m : mg x = some (.ref C)
  kC : PySem.W.keepIn K (.ref C) = true
structure KwJ (K : PySem.W.Frag) (fd : FuncData) (ps ks : List Str) (g : List Value → List Value) : Prop where
  to : ∀ (t : Shared) (a : Addr) (ws : List Value), K.In t.heap → ws.length = ks.length → BindsTo t fd ⟨[.ref a], ks.zip ws⟩ (ps.zip (.ref a :: g ws))
def swp {α : Type} : List α → List α
  | [x, y] => [y, x]
  | l => l
theorem swp_rel {zs : List V} {ws : List Value} (h : Vals zs ws) : Vals (swp zs) (swp ws) := by
  cases h with
  | nil => exact .nil
  | cons r1 r2 =>
    cases r2 with
    | nil => exact .cons r1 .nil
    | cons r3 r4 =>
      cases r4 with
      | nil => exact .cons r3 (.cons r1 .nil)
      | cons r5 r6 => exact .cons r1 (.cons r3 (.cons r5 r6))
structure ClsM (P : Program) (w : World) (K : PySem.W.Frag) (mg : Str → Option Value) (base : Heap) (cA fI : Ek → Addr) (fdI : Ek → FuncData) (cG cM : Addr) : Prop where
  j : ∀ e : Ek, XcJ P w K mg base e.code (cA e) (fI e) 14 (fdI e) ("self" :: e.attrs) (spIni K (cA e) e)
  kit : ∀ e e' : Ek, PySem.W.kitOne K (.ref (cA e)) (.ref (cA e')) = some (decide (e = e'))
  kG : ∀ e : Ek, PySem.W.kitOne K (.ref (cA e)) (.ref cG) = some (gB e)
  kV : ∀ e : Ek, PySem.W.kitOne K (.ref (cA e)) (.type "ValueError") = some (gB e)
  kM : ∀ e : Ek, PySem.W.kitOne K (.ref (cA e)) (.ref cM) = some (mB e)
  kL : ∀ e : Ek, PySem.W.kitOne K (.ref (cA e)) (.type "LookupError") = some (lB e)
  kI : ∀ e : Ek, PySem.W.kitOne K (.ref (cA e)) (.type "IndexError") = some (iB e)
  kw1 : ∀ (e : Ek) (n : Str), e.attrs = [n] → KwJ K (fdI e) ["self", n] [n] id
  kw2 : KwJ K (fdI .refused) ["self", "path", "reason"] ["reason", "path"] swp
  mG : mg "GroundError" = some (.ref cG)
  mM : mg "Missing" = some (.ref cM)
section
variable {P : Program} {w : World} {K : PySem.W.Frag} {mg : Str → Option Value} {base : Heap} {cA fI : Ek → Addr} {fdI : Ek → FuncData} {cG cM : Addr}
theorem XcJ.xi {X : Cx} {x : Str} {C f : Addr} {k : Nat} {fd : FuncData} {ps : List Str} {sp : Sp} (J : XcJ X.prog X.w X.K X.mg X.base x C f k fd ps sp) : XcI X x C f k fd ps sp := ⟨J.T, J.iC, J.tI, J.G, J.hb, J.m, J.kC⟩
theorem xd_of {H : Hp} {dx : Addr} {fs : List (Str × V)} (h : H dx = some (exd dx fs)) : ∀ d, some dx = some d → ∃ fs, H d = some (exd d fs) := fun d e => by
  cases e
  exact ⟨fs, h⟩
/-- _law_classes(e) -/
def spCls (K : PySem.W.Frag) (cA : Ek → Addr) : Sp := fun vs H Q _ => ∃ (a : Addr) (e : Ek) (ws : List V), vs = [.ref a] ∧ ErX K H a (cA e) e ws ∧ ∀ p H', Same H H' → H' p = some (.lst (allE.map fun e' => V.bl (decide (e = e')))) → Q (.ref p) H'
theorem scCls : FnScope ["_law_e", "_law_found"] ["_law_e"] (defScope s_law_classes) := ⟨rfl, rfl, rfl, by decide +kernel, rfl, by decide +kernel, by decide +kernel⟩

theorem ok_cls {f : Addr} {fd : FuncData} (F : Fun K "_law_classes" "_law_classes" s_law_classes f fd) (M : ClsM P w K mg base cA fI fdI cG cM) (zI : mg "isinstance" = none) : FnOk P w K mg base CX0 1 f fd ["_law_e"] (spCls K cA) := by
  refine F.ok scCls (fun vs H Q E h => ?_) (fun cdv A outer s H vs Q E hr h => ?_)
  · obtain ⟨a, e, ws, rfl, _⟩ := h
    rfl
  obtain ⟨a, e, ws, rfl, Er, q⟩ := h
  have nd := scCls.nd
  obtain ⟨dx, fs, h1, h2, _⟩ := id Er.ex
  have hX := Er.cls
  refine ⟨_, (pss_cons (ps_set (i := 1) nd rfl (.inl rfl) (pe_lst (pa_cons (pe_callB call_isiX (by rfl) zI (by decide +kernel) (pa_cons (pv 0) (pa_cons (pe_glob (v := .ref (cA .name)) (by rfl) (M.j .name).m rfl) pa_nil))) (pa_cons (pe_callB call_isiX (by rfl) zI (by decide +kernel) (pa_cons (pv 0) (pa_cons (pe_glob (v := .ref (cA .number)) (by rfl) (M.j .number).m rfl) pa_nil))) (pa_cons (pe_callB call_isiX (by rfl) zI (by decide +kernel) (pa_cons (pv 0) (pa_cons (pe_glob (v := .ref (cA .formula)) (by rfl) (M.j .formula).m rfl) pa_nil))) pa_nil)))))
    (pss_cons (ps_set (i := 1) nd rfl (.inl rfl) (pe_op op_cat (pv 1) (pe_lst (pa_cons (pe_callB call_isiX (by rfl) zI (by decide +kernel) (pa_cons (pv 0) (pa_cons (pe_glob (v := .ref (cA .shape)) (by rfl) (M.j .shape).m rfl) pa_nil))) (pa_cons (pe_callB call_isiX (by rfl) zI (by decide +kernel) (pa_cons (pv 0) (pa_cons (pe_glob (v := .ref (cA .row)) (by rfl) (M.j .row).m rfl) pa_nil))) (pa_cons (pe_callB call_isiX (by rfl) zI (by decide +kernel) (pa_cons (pv 0) (pa_cons (pe_glob (v := .ref (cA .command)) (by rfl) (M.j .command).m rfl) pa_nil))) pa_nil))))))
    (pss_cons (ps_set (i := 1) nd rfl (.inl rfl) (pe_op op_cat (pv 1) (pe_lst (pa_cons (pe_callB call_isiX (by rfl) zI (by decide +kernel) (pa_cons (pv 0) (pa_cons (pe_glob (v := .ref (cA .text)) (by rfl) (M.j .text).m rfl) pa_nil))) (pa_cons (pe_callB call_isiX (by rfl) zI (by decide +kernel) (pa_cons (pv 0) (pa_cons (pe_glob (v := .ref (cA .deed)) (by rfl) (M.j .deed).m rfl) pa_nil))) (pa_cons (pe_callB call_isiX (by rfl) zI (by decide +kernel) (pa_cons (pv 0) (pa_cons (pe_glob (v := .ref (cA .page)) (by rfl) (M.j .page).m rfl) pa_nil))) pa_nil))))))
    (pss_cons (ps_set (i := 1) nd rfl (.inl rfl) (pe_op op_cat (pv 1) (pe_lst (pa_cons (pe_callB call_isiX (by rfl) zI (by decide +kernel) (pa_cons (pv 0) (pa_cons (pe_glob (v := .ref (cA .many)) (by rfl) (M.j .many).m rfl) pa_nil))) (pa_cons (pe_callB call_isiX (by rfl) zI (by decide +kernel) (pa_cons (pv 0) (pa_cons (pe_glob (v := .ref (cA .large)) (by rfl) (M.j .large).m rfl) pa_nil))) (pa_cons (pe_callB call_isiX (by rfl) zI (by decide +kernel) (pa_cons (pv 0) (pa_cons (pe_glob (v := .ref (cA .circular)) (by rfl) (M.j .circular).m rfl) pa_nil))) pa_nil))))))
    (pss_cons (ps_set (i := 1) nd rfl (.inl rfl) (pe_op op_cat (pv 1) (pe_lst (pa_cons (pe_callB call_isiX (by rfl) zI (by decide +kernel) (pa_cons (pv 0) (pa_cons (pe_glob (v := .ref (cA .inuse)) (by rfl) (M.j .inuse).m rfl) pa_nil))) (pa_cons (pe_callB call_isiX (by rfl) zI (by decide +kernel) (pa_cons (pv 0) (pa_cons (pe_glob (v := .ref (cA .full)) (by rfl) (M.j .full).m rfl) pa_nil))) (pa_cons (pe_callB call_isiX (by rfl) zI (by decide +kernel) (pa_cons (pv 0) (pa_cons (pe_glob (v := .ref (cA .refused)) (by rfl) (M.j .refused).m rfl) pa_nil))) pa_nil))))))
    (pss_one (ps_ret (pe_op op_cat (pv 1) (pe_lst (pa_cons (pe_callB call_isiX (by rfl) zI (by decide +kernel) (pa_cons (pv 0) (pa_cons (pe_glob (v := .ref (cA .unknown)) (by rfl) (M.j .unknown).m rfl) pa_nil))) (pa_cons (pe_callB call_isiX (by rfl) zI (by decide +kernel) (pa_cons (pv 0) (pa_cons (pe_glob (v := .ref (cA .nothing)) (by rfl) (M.j .nothing).m rfl) pa_nil))) pa_nil))))))))))), ?_⟩
  refine ⟨_, rfl, _, _, _, _, _, _, rfl, ((Same.refl _) _ _ h1), (xd_of ((Same.refl _) _ _ h2)), hX, .own _, M.kit _ _, _, rfl, _, _, _, _, _, _, rfl, ((Same.refl _) _ _ h1), (xd_of ((Same.refl _) _ _ h2)), hX, .own _, M.kit _ _, _, rfl, _, _, _, _, _, _, rfl, ((Same.refl _) _ _ h1), (xd_of ((Same.refl _) _ _ h2)), hX, .own _, M.kit _ _, (by show 3 ≤ sizeLine; decide), fun q1 m1 => ?_⟩
  have y1 := same_new m1 (.lst [V.bl (decide (e = .name)), V.bl (decide (e = .number)), V.bl (decide (e = .formula))])
  have c1 := y1
  refine ⟨_, rfl, _, rfl, _, _, _, _, _, _, rfl, (c1 _ _ h1), (xd_of (c1 _ _ h2)), hX, .own _, M.kit _ _, _, rfl, _, _, _, _, _, _, rfl, (c1 _ _ h1), (xd_of (c1 _ _ h2)), hX, .own _, M.kit _ _, _, rfl, _, _, _, _, _, _, rfl, (c1 _ _ h1), (xd_of (c1 _ _ h2)), hX, .own _, M.kit _ _, (by show 3 ≤ sizeLine; decide), fun q2 m2 => ?_⟩
  have y2 := same_new m2 (.lst [V.bl (decide (e = .shape)), V.bl (decide (e = .row)), V.bl (decide (e = .command))])
  have c2 := c1.trans y2
  refine ⟨_, _, _, _, rfl, rfl, y2 _ _ upd_same, upd_same, (by show 6 ≤ sizeLine; decide), fun q3 m3 => ?_⟩
  have y3 := same_new m3 (.lst ([V.bl (decide (e = .name)), V.bl (decide (e = .number)), V.bl (decide (e = .formula))] ++ [V.bl (decide (e = .shape)), V.bl (decide (e = .row)), V.bl (decide (e = .command))]))
  have c3 := c2.trans y3
  refine ⟨_, rfl, _, rfl, _, _, _, _, _, _, rfl, (c3 _ _ h1), (xd_of (c3 _ _ h2)), hX, .own _, M.kit _ _, _, rfl, _, _, _, _, _, _, rfl, (c3 _ _ h1), (xd_of (c3 _ _ h2)), hX, .own _, M.kit _ _, _, rfl, _, _, _, _, _, _, rfl, (c3 _ _ h1), (xd_of (c3 _ _ h2)), hX, .own _, M.kit _ _, (by show 3 ≤ sizeLine; decide), fun q4 m4 => ?_⟩
  have y4 := same_new m4 (.lst [V.bl (decide (e = .text)), V.bl (decide (e = .deed)), V.bl (decide (e = .page))])
  have c4 := c3.trans y4
  refine ⟨_, _, _, _, rfl, rfl, y4 _ _ upd_same, upd_same, (by show 9 ≤ sizeLine; decide), fun q5 m5 => ?_⟩
  have y5 := same_new m5 (.lst (([V.bl (decide (e = .name)), V.bl (decide (e = .number)), V.bl (decide (e = .formula))] ++ [V.bl (decide (e = .shape)), V.bl (decide (e = .row)), V.bl (decide (e = .command))]) ++ [V.bl (decide (e = .text)), V.bl (decide (e = .deed)), V.bl (decide (e = .page))]))
  have c5 := c4.trans y5
  refine ⟨_, rfl, _, rfl, _, _, _, _, _, _, rfl, (c5 _ _ h1), (xd_of (c5 _ _ h2)), hX, .own _, M.kit _ _, _, rfl, _, _, _, _, _, _, rfl, (c5 _ _ h1), (xd_of (c5 _ _ h2)), hX, .own _, M.kit _ _, _, rfl, _, _, _, _, _, _, rfl, (c5 _ _ h1), (xd_of (c5 _ _ h2)), hX, .own _, M.kit _ _, (by show 3 ≤ sizeLine; decide), fun q6 m6 => ?_⟩
  have y6 := same_new m6 (.lst [V.bl (decide (e = .many)), V.bl (decide (e = .large)), V.bl (decide (e = .circular))])
  have c6 := c5.trans y6
  refine ⟨_, _, _, _, rfl, rfl, y6 _ _ upd_same, upd_same, (by show 12 ≤ sizeLine; decide), fun q7 m7 => ?_⟩
  have y7 := same_new m7 (.lst ((([V.bl (decide (e = .name)), V.bl (decide (e = .number)), V.bl (decide (e = .formula))] ++ [V.bl (decide (e = .shape)), V.bl (decide (e = .row)), V.bl (decide (e = .command))]) ++ [V.bl (decide (e = .text)), V.bl (decide (e = .deed)), V.bl (decide (e = .page))]) ++ [V.bl (decide (e = .many)), V.bl (decide (e = .large)), V.bl (decide (e = .circular))]))
  have c7 := c6.trans y7
  refine ⟨_, rfl, _, rfl, _, _, _, _, _, _, rfl, (c7 _ _ h1), (xd_of (c7 _ _ h2)), hX, .own _, M.kit _ _, _, rfl, _, _, _, _, _, _, rfl, (c7 _ _ h1), (xd_of (c7 _ _ h2)), hX, .own _, M.kit _ _, _, rfl, _, _, _, _, _, _, rfl, (c7 _ _ h1), (xd_of (c7 _ _ h2)), hX, .own _, M.kit _ _, (by show 3 ≤ sizeLine; decide), fun q8 m8 => ?_⟩
  have y8 := same_new m8 (.lst [V.bl (decide (e = .inuse)), V.bl (decide (e = .full)), V.bl (decide (e = .refused))])
  have c8 := c7.trans y8
  refine ⟨_, _, _, _, rfl, rfl, y8 _ _ upd_same, upd_same, (by show 15 ≤ sizeLine; decide), fun q9 m9 => ?_⟩
  have y9 := same_new m9 (.lst (((([V.bl (decide (e = .name)), V.bl (decide (e = .number)), V.bl (decide (e = .formula))] ++ [V.bl (decide (e = .shape)), V.bl (decide (e = .row)), V.bl (decide (e = .command))]) ++ [V.bl (decide (e = .text)), V.bl (decide (e = .deed)), V.bl (decide (e = .page))]) ++ [V.bl (decide (e = .many)), V.bl (decide (e = .large)), V.bl (decide (e = .circular))]) ++ [V.bl (decide (e = .inuse)), V.bl (decide (e = .full)), V.bl (decide (e = .refused))]))
  have c9 := c8.trans y9
  refine ⟨_, rfl, _, rfl, _, _, _, _, _, _, rfl, (c9 _ _ h1), (xd_of (c9 _ _ h2)), hX, .own _, M.kit _ _, _, rfl, _, _, _, _, _, _, rfl, (c9 _ _ h1), (xd_of (c9 _ _ h2)), hX, .own _, M.kit _ _, (by show 2 ≤ sizeLine; decide), fun q10 m10 => ?_⟩
  have y10 := same_new m10 (.lst [V.bl (decide (e = .unknown)), V.bl (decide (e = .nothing))])
  have c10 := c9.trans y10
  refine ⟨_, _, _, _, rfl, rfl, y10 _ _ upd_same, upd_same, (by show 17 ≤ sizeLine; decide), fun q11 m11 => ?_⟩
  have y11 := same_new m11 (.lst ((((([V.bl (decide (e = .name)), V.bl (decide (e = .number)), V.bl (decide (e = .formula))] ++ [V.bl (decide (e = .shape)), V.bl (decide (e = .row)), V.bl (decide (e = .command))]) ++ [V.bl (decide (e = .text)), V.bl (decide (e = .deed)), V.bl (decide (e = .page))]) ++ [V.bl (decide (e = .many)), V.bl (decide (e = .large)), V.bl (decide (e = .circular))]) ++ [V.bl (decide (e = .inuse)), V.bl (decide (e = .full)), V.bl (decide (e = .refused))]) ++ [V.bl (decide (e = .unknown)), V.bl (decide (e = .nothing))]))
  have c11 := c10.trans y11
  exact q _ _ c11 upd_same
end

end Ag

namespace Ag
open PySem PySem.Spec PyProof.Rows L2
abbrev nLaw : List Str := ["_law_script", "_law_bag_here", "_law_a", "_law_b", "_law_made", "_law_codes", "_law_due", "_law_k", "_law_own", "_law_named", "_law_more", "_law_e", "_law_j"]
theorem scLaw : FnScope nLaw ["_law_script"] (defScope s_law) := ⟨rfl, rfl, rfl, by decide +kernel, rfl, by decide +kernel, by decide +kernel⟩
/-- what the i-th error is made of -/
def tsOf (ta tb : PyData) : Ek → List PyData
  | .name => [ta]
  | .number => [tb]
  | .formula => [ta]
  | .shape => [tb]
  | .row => [ta]
  | .command => [tb]
  | .text => [ta]
  | .deed => [tb]
  | .page => [ta]
  | .many => [tb]
  | .large => [ta]
  | .circular => [tb]
  | .inuse => [ta]
  | .full => [tb]
  | .refused => [ta, tb]
  | .unknown => [ta]
  | .nothing => []
abbrev ls1D : List Ek := [.name, .number, .formula, .shape, .row, .command]
abbrev ls2D : List Ek := [.text, .deed, .page, .many, .large, .circular, .inuse]
abbrev ls3D : List Ek := [.full, .refused, .unknown, .nothing]
abbrev kn1D : List Ek := [.name, .row, .command, .text, .many]
abbrev kn2D : List Ek := [.circular, .inuse, .refused, .unknown]
abbrev kn3D : List Ek := [.number, .formula, .shape, .deed, .page, .large, .full]
/-- what b is drawn from -/
def bs6 : List PyData := [.none, .str "x", .tuple [], .list [.int 3], .tuple [.str "a", .none], .bool true]
theorem bs6_ok : ∀ d ∈ bs6, lstd 12 d = true := by decide +kernel
structure LawM (mg : Str → Option Value) : Prop where
  range : mg "range" = none
  isi : mg "isinstance" = none
  ve : mg "ValueError" = none
  le : mg "LookupError" = none
  ie : mg "IndexError" = none
section
variable {P : Program} {w : World} {K : PySem.W.Frag} {mg : Str → Option Value} {base : Heap} {cA fI : Ek → Addr} {fdI : Ek → FuncData} {cG cM : Addr}
structure Cals (P : Program) (w : World) (K : PySem.W.Frag) (mg : Str → Option Value) (base : Heap) (cA : Ek → Addr) : Prop where
  bag : C8.Cal P w K mg base 1 "_law_bag" (spBag K) []
  pull : C8.Cal P w K mg base 1 "_law_pull" spPull []
  any : C8.Cal P w K mg base 2 "_law_any" (spAny K) []
  like : ∀ n, C8.Cal P w K mg base n "_law_like" (spLike K n) []
  flds : C8.Cal P w K mg base 2 "_law_fields" (spFx K) []
  cls : C8.Cal P w K mg base 1 "_law_classes" (spCls K cA) []
def spLawT (K : PySem.W.Frag) : Sp := fun vs H Q _ => ∃ (a : Addr) (ns : List Int), vs = [.ref a] ∧ SqL K H a (ns.map V.int) ∧ ns.length ≤ 63 ∧ ∀ H', Q (.bl true) H'
/-- x is an error of the kind e, its fields the data ts -/
def ErD (K : PySem.W.Frag) (cA : Ek → Addr) (H : Hp) (x : V) (e : Ek) (ts : List PyData) : Prop := ∃ (a : Addr) (ws : List V), x = .ref a ∧ ErX K H a (cA e) e ws ∧ DpNs K (Kn H) H ws ts
theorem dpns_up {H H' : Hp} {vs : List V} {ds : List PyData} (s : Same H H') (h : DpNs K (Kn H) H vs ds) : DpNs K (Kn H') H' vs ds := dpns_kn (dpns_same s h)
theorem dpn_up {H H' : Hp} {v : V} {d : PyData} (s : Same H H') (h : DpN K (Kn H) H v d) : DpN K (Kn H') H' v d := dpn_kn (dpn_same s h)
theorem ErD.same {H H' : Hp} {x : V} {e : Ek} {ts : List PyData} (s : Same H H') (h : ErD K cA H x e ts) : ErD K cA H' x e ts := by
  obtain ⟨a, ws, rfl, h1, h2⟩ := h
  exact ⟨a, ws, rfl, h1.same s, dpns_up s h2⟩
/-- the errors of a list -/
inductive ErAll (K : PySem.W.Frag) (cA : Ek → Addr) (H : Hp) : List V → List (Ek × List PyData) → Prop
  | nil : ErAll K cA H [] []
  | cons {x : V} {p : Ek × List PyData} {xs : List V} {ps : List (Ek × List PyData)} : ErD K cA H x p.1 p.2 → ErAll K cA H xs ps → ErAll K cA H (x :: xs) (p :: ps)
theorem ErAll.same {H H' : Hp} (s : Same H H') : ∀ {xs : List V} {ps : List (Ek × List PyData)}, ErAll K cA H xs ps → ErAll K cA H' xs ps
  | _, _, .nil => .nil
  | _, _, .cons h t => .cons (h.same s) (t.same s)
theorem ErAll.app {H : Hp} : ∀ {xs ys : List V} {ps qs : List (Ek × List PyData)}, ErAll K cA H xs ps → ErAll K cA H ys qs → ErAll K cA H (xs ++ ys) (ps ++ qs)
  | _, _, _, _, .nil, h => h
  | _, _, _, _, .cons a b, h => .cons a (b.app h)
theorem ErAll.len {H : Hp} : ∀ {xs : List V} {ps : List (Ek × List PyData)}, ErAll K cA H xs ps → xs.length = ps.length
  | _, _, .nil => rfl
  | _, _, .cons _ b => by rw [List.length_cons, List.length_cons, b.len]
theorem ErAll.get {H : Hp} : ∀ {xs : List V} {ps : List (Ek × List PyData)} {i : Nat} {x : V}, ErAll K cA H xs ps → xs[i]? = some x → ∃ p, ps[i]? = some p ∧ ErD K cA H x p.1 p.2
  | _, _, _, _, .nil, e => by simp at e
  | _, _, 0, _, .cons a _, e => by
    have e : some _ = some _ := e
    cases e
    exact ⟨_, rfl, a⟩
  | _, _, i + 1, _, .cons _ b, e => by
    obtain ⟨p, h1, h2⟩ := b.get (i := i) (by simpa using e)
    exact ⟨p, by simpa using h1, h2⟩
theorem dpns_get : ∀ {N : Addr → Prop} {H : Hp} {vs : List V} {ds : List PyData} {i : Nat} {v : V}, DpNs K N H vs ds → vs[i]? = some v → ∃ d, ds[i]? = some d ∧ DpN K N H v d
  | _, _, _, _, _, _, .nil, e => by simp at e
  | _, _, _, _, 0, _, .cons a _, e => by
    have e : some _ = some _ := e
    cases e
    exact ⟨_, rfl, a⟩
  | _, _, _, _, i + 1, _, .cons _ b, e => by
    obtain ⟨d, h1, h2⟩ := dpns_get (i := i) b (by simpa using e)
    exact ⟨d, by simpa using h1, h2⟩
/-- an error just made -/
theorem er_new {H H' : Hp} {a : Addr} {e : Ek} {xs ws : List V} {ts : List PyData} (n : H a = none) (E : ErX K H' a (cA e) e ws) (h : DpNs K (Kn H') H' ws ts) (k : ∀ c o, upd H a (exo a (cA e) none) c = some o → c ≠ a → H' c = some o) : Same H H' ∧ ErD K cA H' (.ref a) e ts :=
  ⟨fun c o z => k c o (same_new n _ _ _ z) (ne_of_none z n), a, ws, rfl, E, h⟩
/-- the reading of C(..) -/
theorem xc_of {H : Hp} {e : Ek} {xs : List V} {ts : List PyData} {W : Addr → Hp → Prop} (hx : DpAll K H xs ts) (hl : ∀ t ∈ ts, lstd 12 t = true) (ln : xs.length = e.attrs.length) (q : ∀ a H', Same H H' → ErD K cA H' (.ref a) e ts → W a H') :
    ∀ a, H a = none → spIni K (cA e) e (.ref a :: xs) (upd H a (exo a (cA e) none)) (fun v H2 => v = .non ∧ W a H2) (fun _ _ _ => False) := fun a n =>
  ⟨a, xs, ts, rfl, upd_same, DpAll_same (same_new n _) hx, hl, ln, fun ws H' E h k => ⟨rfl, by
    obtain ⟨s, d⟩ := er_new (xs := xs) n E h k
    exact q a H' s d⟩⟩
end

section
variable {K : PySem.W.Frag} {cA : Ek → Addr}
theorem dpns_new {H H' : Hp} {R : Addr} {vs : List V} {ds : List PyData} (h : DpNs K (Kn H) H vs ds) (n : H R = none) (s : Same H H') : DpNs K (fun a => a ≠ R) H' vs ds := by
  refine dpns_go (fun a xs _ e => ⟨fun z => ?_, s _ _ e⟩) (fun _ _ z => sameT s z) h
  subst z
  rw [n] at e
  cases e
theorem dpall_rep {H : Hp} {v : V} {d : PyData} (h : Dp K H v d) : ∀ {n : Nat}, DpAll K H (List.replicate n [v]).flatten (List.replicate n d)
  | 0 => .nil
  | n + 1 => .cons h (dpall_rep h (n := n))
def D9 (ta tb : PyData) (e : Ek) : PyData := .tuple [.str e.code, .tuple (tsOf ta tb e)]
theorem d9_oka {za : Int} {tb : PyData} (h : tb ∈ bs6) : oka 30 (.list (allE.map (D9 (.int za) tb))) = true := by
  simp only [bs6, List.mem_cons, List.not_mem_nil, or_false] at h
  rcases h with rfl | rfl | rfl | rfl | rfl | rfl <;> rfl
abbrev kE : List Ek := [.name, .row, .command, .text, .many, .circular, .inuse, .refused, .unknown, .number, .formula, .shape, .deed, .page, .large, .full]
/-- what the sixteen named ones are made of -/
def tsK (ta tb : PyData) : Ek → List PyData
  | .refused => [ta, tb]
  | _ => [ta]
theorem dk_oka {za : Int} {tb : PyData} (h : tb ∈ bs6) : oka 30 (.list (kE.map fun e => .tuple (tsK (.int za) tb e))) = true := by
  simp only [bs6, List.mem_cons, List.not_mem_nil, or_false] at h
  rcases h with rfl | rfl | rfl | rfl | rfl | rfl <;> rfl
theorem all_at {i : Nat} {e : Ek} (h : allE[i]? = some e) : i < 17 := (List.getElem?_eq_some_iff.mp h).1
theorem shaped_bools : ∀ bs : List Bool, SeqAt.shaped (.list (bs.map PyData.bool)) = true := by
  intro bs
  have key : PyData.canLayAll0 (bs.map PyData.bool) = true ∧ PyData.depthAll (bs.map PyData.bool) = 0 := by
    induction bs with
    | nil => exact ⟨rfl, rfl⟩
    | cons b r ih =>
      refine ⟨?_, ?_⟩
      · show (true && PyData.canLayAll0 (r.map PyData.bool)) = true
        rw [ih.1]
        rfl
      · show max 0 (PyData.depthAll (r.map PyData.bool)) = 0
        rw [ih.2]
        rfl
  unfold SeqAt.shaped
  rw [Bool.and_eq_true]
  refine ⟨key.1, decide_eq_true ?_⟩
  show PyData.depthAll (bs.map PyData.bool) + 1 ≤ 64
  rw [key.2]
  decide
abbrev ownL (e : Ek) : List Bool := [gB e, gB e, mB e, lB e, iB e]
abbrev ownR (i : Nat) : List Bool := [decide ((0 : Int) + (i : Nat) < 15), decide ((0 : Int) + (i : Nat) < 15), decide (V.int ((0 : Int) + (i : Nat)) = V.int 15), decide ((14 : Int) < 0 + (i : Nat)), decide (V.int ((0 : Int) + (i : Nat)) = V.int 16)]
theorem own_eq {i : Nat} {e : Ek} (h : allE[i]? = some e) : PyData.eqv (.list ((ownL e).map PyData.bool)) (.list ((ownR i).map PyData.bool)) = true := by
  have hi := all_at h
  match i, h, hi with
  | 0, h, _ => cases h; decide +kernel
  | 1, h, _ => cases h; decide +kernel
  | 2, h, _ => cases h; decide +kernel
  | 3, h, _ => cases h; decide +kernel
  | 4, h, _ => cases h; decide +kernel
  | 5, h, _ => cases h; decide +kernel
  | 6, h, _ => cases h; decide +kernel
  | 7, h, _ => cases h; decide +kernel
  | 8, h, _ => cases h; decide +kernel
  | 9, h, _ => cases h; decide +kernel
  | 10, h, _ => cases h; decide +kernel
  | 11, h, _ => cases h; decide +kernel
  | 12, h, _ => cases h; decide +kernel
  | 13, h, _ => cases h; decide +kernel
  | 14, h, _ => cases h; decide +kernel
  | 15, h, _ => cases h; decide +kernel
  | 16, h, _ => cases h; decide +kernel
  | i + 17, _, hi => omega
def clsR (i : Nat) (n : Nat) : List Bool := (List.range n).map fun j => decide (V.int ((0 : Int) + (j : Nat)) = V.int ((0 : Int) + (i : Nat)))
theorem cls_eq {i : Nat} {e : Ek} (h : allE[i]? = some e) : PyData.eqv (.list ((allE.map fun e' => decide (e = e')).map PyData.bool)) (.list ((clsR i 17).map PyData.bool)) = true := by
  have hi := all_at h
  match i, h, hi with
  | 0, h, _ => cases h; decide +kernel
  | 1, h, _ => cases h; decide +kernel
  | 2, h, _ => cases h; decide +kernel
  | 3, h, _ => cases h; decide +kernel
  | 4, h, _ => cases h; decide +kernel
  | 5, h, _ => cases h; decide +kernel
  | 6, h, _ => cases h; decide +kernel
  | 7, h, _ => cases h; decide +kernel
  | 8, h, _ => cases h; decide +kernel
  | 9, h, _ => cases h; decide +kernel
  | 10, h, _ => cases h; decide +kernel
  | 11, h, _ => cases h; decide +kernel
  | 12, h, _ => cases h; decide +kernel
  | 13, h, _ => cases h; decide +kernel
  | 14, h, _ => cases h; decide +kernel
  | 15, h, _ => cases h; decide +kernel
  | 16, h, _ => cases h; decide +kernel
  | i + 17, _, hi => omega
end

end Ag

namespace Ag
open PySem PySem.Spec PyProof.Rows L2
section
variable {P : Program} {w : World} {K : PySem.W.Frag} {mg : Str → Option Value} {base : Heap} {cA fI : Ek → Addr} {fdI : Ek → FuncData} {cG cM : Addr}
theorem law_c {f : Addr} {cdv : Value} (cs : Cals P w K mg base cA) (M : ClsM P w K mg base cA fI fdI cG cM) (L : LawM mg) {A : Around} {outer : List Env} {s : Shared} {H0 : Hp} {E : XK} (hr : Room 39 (A.deeper (envOfC "law" (defScope s_law) s.heap.objs.size f cdv))) :
    ∃ u, PSs (cxOf CX0 P w K mg base nLaw "law" (defScope s_law) f cdv A outer s H0 E).nox ((defBody s_law).drop 11) u ∧
      ∀ (D : Ends) (H : Hp) (v0 v1 v4 v5 v6 v7 v8 v11 v12 : Option V) (za : Int) (bv : V) (tb : PyData), (∀ H', D.rt (.bl true) H') → DpN K (Kn H) H bv tb → tb ∈ bs6 → u D [v0, v1, some (.int za), some bv, v4, v5, v6, v7, v8, none, none, v11, v12] H := by
  have nd := scLaw.nd
  refine ⟨_, (pss_cons (ps_set (i := 9) nd rfl (.inl rfl) (pe_lst (pa_cons (pe_xcK (M.j .name).xi (gV := id) ⟨(M.kw1 .name "value" rfl).to, fun r => r⟩ (hr.mono (by decide)) (by rfl) (pk_cons (pv 2) pk_nil)) (pa_cons (pe_xcK (M.j .row).xi (gV := id) ⟨(M.kw1 .row "at" rfl).to, fun r => r⟩ (hr.mono (by decide)) (by rfl) (pk_cons (pv 2) pk_nil)) (pa_cons (pe_xcK (M.j .command).xi (gV := id) ⟨(M.kw1 .command "path" rfl).to, fun r => r⟩ (hr.mono (by decide)) (by rfl) (pk_cons (pv 2) pk_nil)) (pa_cons (pe_xcK (M.j .text).xi (gV := id) ⟨(M.kw1 .text "line" rfl).to, fun r => r⟩ (hr.mono (by decide)) (by rfl) (pk_cons (pv 2) pk_nil)) (pa_cons (pe_xcK (M.j .many).xi (gV := id) ⟨(M.kw1 .many "most" rfl).to, fun r => r⟩ (hr.mono (by decide)) (by rfl) (pk_cons (pv 2) pk_nil)) pa_nil)))))))
    (pss_cons (ps_set (i := 9) nd rfl (.inl rfl) (pe_op op_cat (pv 9) (pe_lst (pa_cons (pe_xcK (M.j .circular).xi (gV := id) ⟨(M.kw1 .circular "name" rfl).to, fun r => r⟩ (hr.mono (by decide)) (by rfl) (pk_cons (pv 2) pk_nil)) (pa_cons (pe_xcK (M.j .inuse).xi (gV := id) ⟨(M.kw1 .inuse "user" rfl).to, fun r => r⟩ (hr.mono (by decide)) (by rfl) (pk_cons (pv 2) pk_nil)) (pa_cons (pe_xcK (M.j .refused).xi (gV := swp) ⟨M.kw2.to, swp_rel⟩ (hr.mono (by decide)) (by rfl) (pk_cons (pv 3) (pk_cons (pv 2) pk_nil))) (pa_cons (pe_xcK (M.j .unknown).xi (gV := id) ⟨(M.kw1 .unknown "value" rfl).to, fun r => r⟩ (hr.mono (by decide)) (by rfl) (pk_cons (pv 2) pk_nil)) pa_nil)))))))
    (pss_cons (ps_set (i := 10) nd rfl (.inl rfl) (pe_lst (pa_cons (pe_xcK (M.j .number).xi (gV := id) ⟨(M.kw1 .number "value" rfl).to, fun r => r⟩ (hr.mono (by decide)) (by rfl) (pk_cons (pv 2) pk_nil)) (pa_cons (pe_xcK (M.j .formula).xi (gV := id) ⟨(M.kw1 .formula "value" rfl).to, fun r => r⟩ (hr.mono (by decide)) (by rfl) (pk_cons (pv 2) pk_nil)) (pa_cons (pe_xcK (M.j .shape).xi (gV := id) ⟨(M.kw1 .shape "value" rfl).to, fun r => r⟩ (hr.mono (by decide)) (by rfl) (pk_cons (pv 2) pk_nil)) (pa_cons (pe_xcK (M.j .deed).xi (gV := id) ⟨(M.kw1 .deed "at" rfl).to, fun r => r⟩ (hr.mono (by decide)) (by rfl) (pk_cons (pv 2) pk_nil)) (pa_cons (pe_xcK (M.j .page).xi (gV := id) ⟨(M.kw1 .page "line" rfl).to, fun r => r⟩ (hr.mono (by decide)) (by rfl) (pk_cons (pv 2) pk_nil)) (pa_cons (pe_xcK (M.j .large).xi (gV := id) ⟨(M.kw1 .large "most" rfl).to, fun r => r⟩ (hr.mono (by decide)) (by rfl) (pk_cons (pv 2) pk_nil)) (pa_cons (pe_xcK (M.j .full).xi (gV := id) ⟨(M.kw1 .full "most" rfl).to, fun r => r⟩ (hr.mono (by decide)) (by rfl) (pk_cons (pv 2) pk_nil)) pa_nil)))))))))
    (pss_one (ps_ret (C8.pe_c (cs.like 30) hr (by decide) (by rfl) (pa_cons (pe_lc (own := [("_law_e", 11)]) (g := gName 11) (tt := tYes) rfl nd (pi_list (pe_op op_cat (pv 9) (pv 10))) (blkOk_by (own := [("_law_e", 11)]) (N := nLaw) (sc := defScope s_law) (by decide +kernel)) (fun _ _ _ _ _ => pg_name (i := 11) nd rfl (Or.inl rfl)) (fun _ _ _ _ _ => pts_nil) (fun _ _ _ _ _ => (C8.pe_c cs.flds hr (by decide) (by rfl) (pa_cons (pv 11) pa_nil)))) (pa_cons (pe_op op_cat (pe_op op_cat (pe_op op_rep (pe_lst (pa_cons (pe_tup (pa_cons (pv 2) pa_nil)) pa_nil)) pe_int) (pe_lst (pa_cons (pe_tup (pa_cons (pv 2) (pa_cons (pv 3) pa_nil))) pa_nil))) (pe_op op_rep (pe_lst (pa_cons (pe_tup (pa_cons (pv 2) pa_nil)) pa_nil)) pe_int)) pa_nil)))))))), ?_⟩
  intro D H v0 v1 v4 v5 v6 v7 v8 v11 v12 za bv tb hD hb hB6
  have la : ∀ t ∈ [PyData.int za], lstd 12 t = true := fun t h => by
    rw [List.mem_singleton.mp h]
    rfl
  have lab : ∀ t ∈ [PyData.int za, tb], lstd 12 t = true := fun t h => by
    rcases List.mem_cons.mp h with h | h
    · rw [h]
      rfl
    · rw [List.mem_singleton.mp h]
      exact bs6_ok tb hB6
  refine ⟨_, rfl, rfl, xc_of (K := K) (cA := cA) (e := .name) (xs := [.int za]) (.cons (.int _) .nil) la rfl fun a1 H1 y1 d1 => ?_⟩
  have c1 := y1
  refine ⟨_, rfl, rfl, xc_of (K := K) (cA := cA) (e := .row) (xs := [.int za]) (.cons (.int _) .nil) la rfl fun a2 H2 y2 d2 => ?_⟩
  have c2 := c1.trans y2
  refine ⟨_, rfl, rfl, xc_of (K := K) (cA := cA) (e := .command) (xs := [.int za]) (.cons (.int _) .nil) la rfl fun a3 H3 y3 d3 => ?_⟩
  have c3 := c2.trans y3
  refine ⟨_, rfl, rfl, xc_of (K := K) (cA := cA) (e := .text) (xs := [.int za]) (.cons (.int _) .nil) la rfl fun a4 H4 y4 d4 => ?_⟩
  have c4 := c3.trans y4
  refine ⟨_, rfl, rfl, xc_of (K := K) (cA := cA) (e := .many) (xs := [.int za]) (.cons (.int _) .nil) la rfl fun a5 H5 y5 d5 => ?_⟩
  have c5 := c4.trans y5
  refine ⟨(by show 5 ≤ sizeLine; decide), fun q6 m6 => ?_⟩
  have y6 := same_new m6 (.lst [.ref a1, .ref a2, .ref a3, .ref a4, .ref a5])
  have c6 := c5.trans y6
  refine ⟨_, rfl, _, rfl, rfl, xc_of (K := K) (cA := cA) (e := .circular) (xs := [.int za]) (.cons (.int _) .nil) la rfl fun a7 H7 y7 d7 => ?_⟩
  have c7 := c6.trans y7
  refine ⟨_, rfl, rfl, xc_of (K := K) (cA := cA) (e := .inuse) (xs := [.int za]) (.cons (.int _) .nil) la rfl fun a8 H8 y8 d8 => ?_⟩
  have c8 := c7.trans y8
  refine ⟨_, rfl, _, rfl, rfl, xc_of (K := K) (cA := cA) (e := .refused) (xs := [.int za, bv]) (.cons (.int _) (.cons (dpn_dp (dpn_same c8 hb)) .nil)) lab rfl fun a9 H9 y9 d9 => ?_⟩
  have c9 := c8.trans y9
  refine ⟨_, rfl, rfl, xc_of (K := K) (cA := cA) (e := .unknown) (xs := [.int za]) (.cons (.int _) .nil) la rfl fun a10 H10 y10 d10 => ?_⟩
  have c10 := c9.trans y10
  refine ⟨(by show 4 ≤ sizeLine; decide), fun q11 m11 => ?_⟩
  have y11 := same_new m11 (.lst [.ref a7, .ref a8, .ref a9, .ref a10])
  have c11 := c10.trans y11
  refine ⟨_, _, _, _, rfl, rfl, (((((y7).trans y8).trans y9).trans y10).trans y11) _ _ upd_same, upd_same, (by show 9 ≤ sizeLine; decide), fun q12 m12 => ?_⟩
  have y12 := same_new m12 (.lst ([.ref a1, .ref a2, .ref a3, .ref a4, .ref a5] ++ [.ref a7, .ref a8, .ref a9, .ref a10]))
  have c12 := c11.trans y12
  refine ⟨_, rfl, rfl, xc_of (K := K) (cA := cA) (e := .number) (xs := [.int za]) (.cons (.int _) .nil) la rfl fun a13 H13 y13 d13 => ?_⟩
  have c13 := c12.trans y13
  refine ⟨_, rfl, rfl, xc_of (K := K) (cA := cA) (e := .formula) (xs := [.int za]) (.cons (.int _) .nil) la rfl fun a14 H14 y14 d14 => ?_⟩
  have c14 := c13.trans y14
  refine ⟨_, rfl, rfl, xc_of (K := K) (cA := cA) (e := .shape) (xs := [.int za]) (.cons (.int _) .nil) la rfl fun a15 H15 y15 d15 => ?_⟩
  have c15 := c14.trans y15
  refine ⟨_, rfl, rfl, xc_of (K := K) (cA := cA) (e := .deed) (xs := [.int za]) (.cons (.int _) .nil) la rfl fun a16 H16 y16 d16 => ?_⟩
  have c16 := c15.trans y16
  refine ⟨_, rfl, rfl, xc_of (K := K) (cA := cA) (e := .page) (xs := [.int za]) (.cons (.int _) .nil) la rfl fun a17 H17 y17 d17 => ?_⟩
  have c17 := c16.trans y17
  refine ⟨_, rfl, rfl, xc_of (K := K) (cA := cA) (e := .large) (xs := [.int za]) (.cons (.int _) .nil) la rfl fun a18 H18 y18 d18 => ?_⟩
  have c18 := c17.trans y18
  refine ⟨_, rfl, rfl, xc_of (K := K) (cA := cA) (e := .full) (xs := [.int za]) (.cons (.int _) .nil) la rfl fun a19 H19 y19 d19 => ?_⟩
  have c19 := c18.trans y19
  refine ⟨(by show 7 ≤ sizeLine; decide), fun q20 m20 => ?_⟩
  have y20 := same_new m20 (.lst [.ref a13, .ref a14, .ref a15, .ref a16, .ref a17, .ref a18, .ref a19])
  have c20 := c19.trans y20
  have hE := ErAll.app (ErAll.app (K := K) (cA := cA) (ps := kn1D.map fun e => (e, tsK (.int za) tb e)) (qs := kn2D.map fun e => (e, tsK (.int za) tb e)) (.cons (d1.same (((((((((((((((((((y2).trans y3).trans y4).trans y5).trans y6).trans y7).trans y8).trans y9).trans y10).trans y11).trans y12).trans y13).trans y14).trans y15).trans y16).trans y17).trans y18).trans y19).trans y20)) (.cons (d2.same ((((((((((((((((((y3).trans y4).trans y5).trans y6).trans y7).trans y8).trans y9).trans y10).trans y11).trans y12).trans y13).trans y14).trans y15).trans y16).trans y17).trans y18).trans y19).trans y20)) (.cons (d3.same (((((((((((((((((y4).trans y5).trans y6).trans y7).trans y8).trans y9).trans y10).trans y11).trans y12).trans y13).trans y14).trans y15).trans y16).trans y17).trans y18).trans y19).trans y20)) (.cons (d4.same ((((((((((((((((y5).trans y6).trans y7).trans y8).trans y9).trans y10).trans y11).trans y12).trans y13).trans y14).trans y15).trans y16).trans y17).trans y18).trans y19).trans y20)) (.cons (d5.same (((((((((((((((y6).trans y7).trans y8).trans y9).trans y10).trans y11).trans y12).trans y13).trans y14).trans y15).trans y16).trans y17).trans y18).trans y19).trans y20)) .nil))))) (.cons (d7.same (((((((((((((y8).trans y9).trans y10).trans y11).trans y12).trans y13).trans y14).trans y15).trans y16).trans y17).trans y18).trans y19).trans y20)) (.cons (d8.same ((((((((((((y9).trans y10).trans y11).trans y12).trans y13).trans y14).trans y15).trans y16).trans y17).trans y18).trans y19).trans y20)) (.cons (d9.same (((((((((((y10).trans y11).trans y12).trans y13).trans y14).trans y15).trans y16).trans y17).trans y18).trans y19).trans y20)) (.cons (d10.same ((((((((((y11).trans y12).trans y13).trans y14).trans y15).trans y16).trans y17).trans y18).trans y19).trans y20)) .nil))))) (qs := kn3D.map fun e => (e, tsK (.int za) tb e)) (.cons (d13.same (((((((y14).trans y15).trans y16).trans y17).trans y18).trans y19).trans y20)) (.cons (d14.same ((((((y15).trans y16).trans y17).trans y18).trans y19).trans y20)) (.cons (d15.same (((((y16).trans y17).trans y18).trans y19).trans y20)) (.cons (d16.same ((((y17).trans y18).trans y19).trans y20)) (.cons (d17.same (((y18).trans y19).trans y20)) (.cons (d18.same ((y19).trans y20)) (.cons (d19.same (y20)) .nil)))))))
  have hbN := dpn_up c20 hb
  refine ⟨_, rfl, _, rfl, _, _, _, _, rfl, rfl, ((((((((y13).trans y14).trans y15).trans y16).trans y17).trans y18).trans y19).trans y20) _ _ upd_same, upd_same, (by show 16 ≤ sizeLine; decide), fun pl npl => ?_⟩
  have yl := same_new npl (.lst (([V.ref a1, V.ref a2, V.ref a3, V.ref a4, V.ref a5] ++ [V.ref a7, V.ref a8, V.ref a9, V.ref a10]) ++ [V.ref a13, V.ref a14, V.ref a15, V.ref a16, V.ref a17, V.ref a18, V.ref a19] : List V))
  have hE2 : ErAll K cA _ (([V.ref a1, V.ref a2, V.ref a3, V.ref a4, V.ref a5] ++ [V.ref a7, V.ref a8, V.ref a9, V.ref a10]) ++ [V.ref a13, V.ref a14, V.ref a15, V.ref a16, V.ref a17, V.ref a18, V.ref a19] : List V) (kE.map fun e => (e, tsK (.int za) tb e)) := hE.same yl
  have hbL := dpn_up yl hbN
  have lx : (([V.ref a1, V.ref a2, V.ref a3, V.ref a4, V.ref a5] ++ [V.ref a7, V.ref a8, V.ref a9, V.ref a10]) ++ [V.ref a13, V.ref a14, V.ref a15, V.ref a16, V.ref a17, V.ref a18, V.ref a19] : List V).length = 16 := hE2.len
  have hpl : ∀ {h : Hp} {o : HO}, (upd h pl o) pl = some o := upd_same
  refine ⟨pl, rfl, ⟨_, SqL.of upd_same⟩, fun R nR => ?_⟩
  refine lc_list (xs := (([V.ref a1, V.ref a2, V.ref a3, V.ref a4, V.ref a5] ++ [V.ref a7, V.ref a8, V.ref a9, V.ref a10]) ++ [V.ref a13, V.ref a14, V.ref a15, V.ref a16, V.ref a17, V.ref a18, V.ref a19] : List V)) (fun i H' => ∃ rs, H' R = some (.lst rs) ∧ DpNs K (fun a => a ≠ R) H' rs ((kE.map fun e => PyData.tuple (tsK (.int za) tb e)).take i) ∧ Same _ H') ⟨[], upd_same, .nil, same_new nR _⟩ (fun i H' _ ⟨_, _, _, s⟩ => SqL.of (s _ _ hpl)) ?_ ?_
  · rintro i v H1 hi ⟨rs, hR, hz, s1⟩
    obtain ⟨p, hp, a, ws, rfl, Er, hw⟩ := hE2.get hi
    obtain ⟨e, he, rfl⟩ : ∃ e, kE[i]? = some e ∧ p = (e, tsK (.int za) tb e) := by
      rw [List.getElem?_map] at hp
      obtain ⟨e, h1, h2⟩ := Option.map_eq_some_iff.mp hp
      exact ⟨e, h1, h2.symm⟩
    have hdue : (kE.map fun e => PyData.tuple (tsK (.int za) tb e))[i]? = some (.tuple (tsK (.int za) tb e)) := by
      rw [List.getElem?_map, he]
      rfl
    refine ⟨rfl, _, rfl, a, cA e, e, ws, rfl, Er.same s1, fun t H3 s3 nt ht => ?_⟩
    have hR3 := s3 _ _ hR
    have lz : rs.length ≤ 16 := by
      rw [dpns_len hz, List.length_take]
      exact Nat.min_le_right _ _
    refine ⟨rs, hR3, small1000 (by omega), rs ++ [.ref t], upd_same, ?_, fun c o hc => ?_⟩
    · rw [List.take_add_one, hdue]
      exact dpns_app (dpns_kp kp_upd hR3 (fun _ n => n) (dpns_same s3 hz)) (.cons (dpn_kp kp_upd hR3 (fun _ n => n) (.tup (SqT.of ht) (dpns_new hw nR (s1.trans s3)))) .nil)
    · rw [upd_ne (ne_of_none hc nR)]
      exact s3 _ _ (s1 _ _ hc)
  · rintro H1 ⟨rs, hR, hz, s1⟩
    rw [List.take_of_length_le (by rw [lx]; exact Nat.le_refl 16)] at hz
    refine ⟨_, rfl, (by show 1 ≤ sizeLine; decide), fun t1 n1 => ⟨(by show 1 ≤ sizeLine; decide), fun l1 n2 => ?_⟩⟩
    have x1 := same_new n1 (.tup [.int za])
    have x2 := same_new n2 (.lst [.ref t1])
    refine ⟨_, _, _, rfl, rfl, upd_same, by decide, by decide, (by show 1 * 7 ≤ sizeLine; decide), fun l2 n3 => ?_⟩
    have x3 := same_new n3 (.lst (List.replicate 7 [V.ref t1]).flatten)
    refine ⟨_, rfl, _, rfl, (by show 2 ≤ sizeLine; decide), fun t2 n4 => ⟨(by show 1 ≤ sizeLine; decide), fun l3 n5 => ?_⟩⟩
    have x4 := same_new n4 (.tup [.int za, bv])
    have x5 := same_new n5 (.lst [.ref t2])
    refine ⟨_, _, _, _, rfl, rfl, x5 _ _ (x4 _ _ upd_same), upd_same, (by show 7 + 1 ≤ sizeLine; decide), fun l4 n6 => ?_⟩
    have x6 := same_new n6 (.lst ((List.replicate 7 [V.ref t1]).flatten ++ [.ref t2]))
    refine ⟨_, rfl, (by show 1 ≤ sizeLine; decide), fun t3 n7 => ⟨(by show 1 ≤ sizeLine; decide), fun l5 n8 => ?_⟩⟩
    have x7 := same_new n7 (.tup [.int za])
    have x8 := same_new n8 (.lst [.ref t3])
    refine ⟨_, _, _, rfl, rfl, upd_same, by decide, by decide, (by show 1 * 8 ≤ sizeLine; decide), fun l6 n9 => ?_⟩
    have x9 := same_new n9 (.lst (List.replicate 8 [V.ref t3]).flatten)
    have x79 := x7.trans (x8.trans x9)
    refine ⟨_, _, _, _, rfl, rfl, x79 _ _ upd_same, upd_same, (by show 8 + 8 ≤ sizeLine; decide), fun l7 n10 => ?_⟩
    have x10 := same_new n10 (.lst (((List.replicate 7 [V.ref t1]).flatten ++ [.ref t2]) ++ (List.replicate 8 [V.ref t3]).flatten))
    have e7 := x8.trans (x9.trans x10)
    have e4 := x5.trans (x6.trans (x7.trans e7))
    have e1 := x2.trans (x3.trans (x4.trans e4))
    have d1 : Dp K _ (.ref t1) (.tuple [.int za]) := .tup (SqT.of (e1 _ _ upd_same)) (.cons (.int _) .nil)
    have d3 : Dp K _ (.ref t3) (.tuple [.int za]) := .tup (SqT.of (e7 _ _ upd_same)) (.cons (.int _) .nil)
    have d2 : Dp K _ (.ref t2) (.tuple [.int za, tb]) := .tup (SqT.of (e4 _ _ upd_same)) (.cons (.int _) (.cons (dpn_dp (dpn_same ((s1.trans (x1.trans e1))) hbL)) .nil))
    refine ⟨_, _, .list (kE.map fun e => PyData.tuple (tsK (.int za) tb e)), rfl, Da_of (.lst (SqL.of ((x1.trans e1) _ _ hR)) (dpns_dp (dpns_same (x1.trans e1) hz))), Da_of (.lst (SqL.of upd_same) (dpall_app (dpall_app (ds := List.replicate 7 (PyData.tuple [.int za])) (es := [PyData.tuple [.int za, tb]]) (dpall_rep d1) (.cons d2 .nil)) (es := List.replicate 8 (PyData.tuple [.int za])) (dpall_rep d3))), dk_oka hB6, fun H9 s9 => hD H9⟩
end

end Ag

namespace Ag
open PySem PySem.Spec PyProof.Rows L2
section
variable {P : Program} {w : World} {K : PySem.W.Frag} {mg : Str → Option Value} {base : Heap} {cA fI : Ek → Addr} {fdI : Ek → FuncData} {cG cM : Addr}
theorem law_b {f : Addr} {cdv : Value} (cs : Cals P w K mg base cA) (M : ClsM P w K mg base cA fI fdI cG cM) (L : LawM mg) {A : Around} {outer : List Env} {s : Shared} {H0 : Hp} {E : XK} (hr : Room 39 (A.deeper (envOfC "law" (defScope s_law) s.heap.objs.size f cdv))) :
    ∃ u, PSs (cxOf CX0 P w K mg base nLaw "law" (defScope s_law) f cdv A outer s H0 E).nox ((defBody s_law).drop 9) u ∧
      ∀ (D : Ends) (H : Hp) (v0 v1 : Option V) (za : Int) (bv : V) (tb : PyData) (pm pc pd : Addr) (xs ds : List V), (∀ H', D.rt (.bl true) H') → H pm = some (.lst xs) → ErAll K cA H xs (allE.map fun e => (e, tsOf (.int za) tb e)) → H pc = some (.lst (allE.map fun e => V.str e.code)) → H pd = some (.lst ds) →
        DpNs K (Kn H) H ds (allE.map fun e => PyData.tuple (tsOf (.int za) tb e)) → DpN K (Kn H) H bv tb → tb ∈ bs6 → u D [v0, v1, some (.int za), some bv, some (.ref pm), some (.ref pc), some (.ref pd), none, none, none, none, none, none] H := by
  have nd := scLaw.nd
  have zI := L.isi
  obtain ⟨u, hu, hq⟩ := law_c (f := f) (cdv := cdv) (A := A) (outer := outer) (s := s) (H0 := H0) (E := E) cs M L hr
  refine ⟨_, (pss_cons (ps_if (pt_not (pt_val (C8.pe_c (cs.like 30) hr (by decide) (by rfl) (pa_cons (pe_lc (own := [("_law_e", 11)]) (g := gName 11) (tt := tYes) (te := tTup (tCons (tXg K "code" (tVar 11)) (tCons (tCall (spFx K) [] C8.E0 (tCons (tVar 11) tNil)) tNil))) rfl nd (pi_list (pv 4)) (blkOk_by (own := [("_law_e", 11)]) (N := nLaw) (sc := defScope s_law) (by decide +kernel)) (fun _ _ _ _ _ => pg_name (i := 11) nd rfl (Or.inl rfl)) (fun _ _ _ _ _ => pts_nil) (fun _ _ _ _ _ => (pe_tup (pa_cons (pe_xg (pv 11)) (pa_cons (C8.pe_c cs.flds hr (by decide) (by rfl) (pa_cons (pv 11) pa_nil)) pa_nil))))) (pa_cons (pe_lc (own := [("_law_k", 7)]) (g := gName 7) (tt := tYes) (te := tTup (tCons (tOp (rIxL K) (tVar 5) (tVar 7)) (tCons (tOp (rIxL K) (tVar 6) (tVar 7)) tNil))) rfl nd (pi_range1 (by rfl) L.range (pa_cons pe_int pa_nil)) (blkOk_by (own := [("_law_k", 7)]) (N := nLaw) (sc := defScope s_law) (by decide +kernel)) (fun _ _ _ _ _ => pg_name (i := 7) nd rfl (Or.inl rfl)) (fun _ _ _ _ _ => pts_nil) (fun _ _ _ _ _ => (pe_tup (pa_cons (pe_ix ix_list (pv 5) (pv 7) (fun _ _ => rfl)) (pa_cons (pe_ix ix_list (pv 6) (pv 7) (fun _ _ => rfl)) pa_nil))))) pa_nil))))) (pss_one (ps_ret pe_bl)) pss_nil)
    (pss_cons (ps_for PassesOwn.never rfl (pi_range1 (by rfl) L.range (pa_cons pe_int pa_nil)) (pg_name (i := 7) nd rfl (.inr rfl))
      (pss_cons (ps_set (i := 8) nd rfl (.inl rfl) (pe_lst (pa_cons (pe_callB call_isiX (by rfl) zI (by decide +kernel) (pa_cons (pe_ix ix_list (pv 4) (pv 7) (fun _ _ => rfl)) (pa_cons (pe_glob (v := .ref cG) (by rfl) M.mG rfl) pa_nil))) (pa_cons (pe_callB call_isiX (by rfl) zI (by decide +kernel) (pa_cons (pe_ix ix_list (pv 4) (pv 7) (fun _ _ => rfl)) (pa_cons (pe_bltn (v := .ty "ValueError") (u := .type "ValueError") (by rfl) L.ve (by decide +kernel) rfl) pa_nil))) (pa_cons (pe_callB call_isiX (by rfl) zI (by decide +kernel) (pa_cons (pe_ix ix_list (pv 4) (pv 7) (fun _ _ => rfl)) (pa_cons (pe_glob (v := .ref cM) (by rfl) M.mM rfl) pa_nil))) pa_nil)))))
    (pss_cons (ps_set (i := 8) nd rfl (.inl rfl) (pe_op op_cat (pv 8) (pe_lst (pa_cons (pe_callB call_isiX (by rfl) zI (by decide +kernel) (pa_cons (pe_ix ix_list (pv 4) (pv 7) (fun _ _ => rfl)) (pa_cons (pe_bltn (v := .ty "LookupError") (u := .type "LookupError") (by rfl) L.le (by decide +kernel) rfl) pa_nil))) (pa_cons (pe_callB call_isiX (by rfl) zI (by decide +kernel) (pa_cons (pe_ix ix_list (pv 4) (pv 7) (fun _ _ => rfl)) (pa_cons (pe_bltn (v := .ty "IndexError") (u := .type "IndexError") (by rfl) L.ie (by decide +kernel) rfl) pa_nil))) pa_nil)))))
    (pss_one (ps_if (PW.pt (pw_or (pt_cmpR (op_neD hr.units) (pv 8) (pe_lst (pa_cons (pe_cmpR op_lt (pv 7) pe_int (nomark _)) (pa_cons (pe_cmpR op_lt (pv 7) pe_int (nomark _)) (pa_cons (pe_cmpR op_eq (pv 7) pe_int (nomark _)) (pa_cons (pe_cmpR op_gt (pv 7) pe_int (nomark _)) (pa_cons (pe_cmpR op_eq (pv 7) pe_int (nomark _)) pa_nil)))))) (nomark _)) (pw_or1 (pt_cmpR (op_neD hr.units) (C8.pe_c cs.cls hr (by decide) (by rfl) (pa_cons (pe_ix ix_list (pv 4) (pv 7) (fun _ _ => rfl)) pa_nil)) (pe_lc (own := [("_law_j", 12)]) (g := gName 12) (tt := tYes) rfl nd (pi_range1 (by rfl) L.range (pa_cons pe_int pa_nil)) (blkOk_by (own := [("_law_j", 12)]) (N := nLaw) (sc := defScope s_law) (by decide +kernel)) (fun _ _ _ _ _ => pg_name (i := 12) nd rfl (Or.inl rfl)) (fun _ _ _ _ _ => pts_nil) (fun _ _ _ _ _ => (pe_cmpR op_eq (pv 12) (pv 7) (nomark _)))) (nomark _))))) (pss_one (ps_ret pe_bl)) pss_nil)))))
    hu)), ?_⟩
  intro D H v0 v1 za bv tb pm pc pd xs ds hD hpm hE hpc hpd hds hb hB6
  have lx : xs.length = 17 := hE.len
  -- what is found
  refine ⟨_, rfl, pm, rfl, ⟨_, SqL.of hpm⟩, fun R nR => ?_⟩
  refine lc_list (xs := xs) (fun i H' => ∃ rs, H' R = some (.lst rs) ∧ DpNs K (fun a => a ≠ R) H' rs ((allE.map (D9 (.int za) tb)).take i) ∧ Same H H') ⟨[], upd_same, .nil, same_new nR _⟩ (fun i H' _ ⟨_, _, _, s⟩ => SqL.of (s _ _ hpm)) ?_ ?_
  · rintro i v H1 hi ⟨rs, hR, hz, s1⟩
    obtain ⟨p, hp, a, ws, rfl, Er, hw⟩ := hE.get hi
    obtain ⟨e, he, rfl⟩ : ∃ e, allE[i]? = some e ∧ p = (e, tsOf (.int za) tb e) := by
      rw [List.getElem?_map] at hp
      obtain ⟨e, h1, h2⟩ := Option.map_eq_some_iff.mp hp
      exact ⟨e, h1, h2.symm⟩
    have E1 := Er.same s1
    obtain ⟨dx, fs, x1, x2, x3, _⟩ := id E1.ex
    have hdue : (allE.map (D9 (.int za) tb))[i]? = some (D9 (.int za) tb e) := by
      rw [List.getElem?_map, he]
      rfl
    refine ⟨rfl, _, rfl, a, cA e, dx, fs, _, rfl, x1, x2, E1.cls, by decide, x3, _, rfl, a, cA e, e, ws, rfl, E1, fun t H3 s3 nt ht => ⟨(by show 2 ≤ sizeLine; decide), fun q1 n1 => ?_⟩⟩
    have y1 := same_new n1 (.tup [.str e.code, .ref t])
    have sE := s3.trans y1
    have hR3 := sE _ _ hR
    have lz : rs.length ≤ 17 := by
      rw [dpns_len hz, List.length_take]
      exact Nat.min_le_right _ _
    have hw3 := dpns_new hw nR (s1.trans sE)
    refine ⟨rs, hR3, small1000 (by omega), rs ++ [.ref q1], upd_same, ?_, fun c o hc => ?_⟩
    · rw [List.take_add_one, hdue]
      exact dpns_app (dpns_kp kp_upd hR3 (fun _ n => n) (dpns_same sE hz)) (.cons (dpn_kp kp_upd hR3 (fun _ n => n) (.tup (SqT.of upd_same) (.cons (.str _) (.cons (.tup (SqT.of (y1 _ _ ht)) hw3) .nil)))) .nil)
    · rw [upd_ne (ne_of_none hc nR)]
      exact sE _ _ (s1 _ _ hc)
  · rintro H1 ⟨rs, hR, hz, s1⟩
    rw [List.take_of_length_le (by rw [lx]; exact Nat.le_refl 17)] at hz
    -- what is due
    refine ⟨17, rfl, by decide, by decide, fun R2 nR2 => ?_⟩
    refine lc_range (lo := 0) (n := (17 : Int).toNat) (fun i H' => ∃ rs2, H' R2 = some (.lst rs2) ∧ DpNs K (fun a => a ≠ R2) H' rs2 ((allE.map (D9 (.int za) tb)).take i) ∧ Same H1 H') ⟨[], upd_same, .nil, same_new nR2 _⟩ ?_ ?_
    · rintro i H2 hi ⟨rs2, hR2, hz2, s2⟩
      have hi17 : i < 17 := hi
      have s02 := s1.trans s2
      obtain ⟨e, he⟩ : ∃ e, allE[i]? = some e := ⟨allE[i]'(by show i < 17; exact hi17), List.getElem?_eq_getElem _⟩
      have hc1 : (allE.map fun e => V.str e.code)[i]? = some (.str e.code) := by
        rw [List.getElem?_map, he]
        rfl
      obtain ⟨dv, hdv⟩ : ∃ dv, ds[i]? = some dv := ⟨ds[i]'(by rw [dpns_len hds]; exact hi17), List.getElem?_eq_getElem _⟩
      obtain ⟨dd, hdd, hd1⟩ := dpns_get hds hdv
      obtain rfl : dd = .tuple (tsOf (.int za) tb e) := by
        rw [List.getElem?_map, he] at hdd
        exact (Option.some.inj hdd).symm
      have hdue : (allE.map (D9 (.int za) tb))[i]? = some (D9 (.int za) tb e) := by
        rw [List.getElem?_map, he]
        rfl
      have e0 : (0 : Int) + (i : Nat) = (i : Nat) := by omega
      refine ⟨rfl, _, rfl, _, rfl, pc, _, _, _, rfl, rfl, SqL.of (s02 _ _ hpc), at_any e0 hc1, _, rfl, _, rfl, pd, _, _, _, rfl, rfl, SqL.of (s02 _ _ hpd), at_any e0 hdv, (by show 2 ≤ sizeLine; decide), fun q1 n1 => ?_⟩
      have y1 := same_new n1 (.tup [.str e.code, dv])
      have hR3 := y1 _ _ hR2
      have lz : rs2.length ≤ 17 := by
        rw [dpns_len hz2, List.length_take]
        exact Nat.min_le_right _ _
      have hd3 : DpN K (fun a => a ≠ R2) (upd H2 q1 (.tup [.str e.code, dv])) dv (.tuple (tsOf (.int za) tb e)) := by
        cases dpns_new (dpns_up s1 (.cons hd1 .nil)) nR2 (s2.trans y1) with
        | cons h1 _ => exact h1
      refine ⟨rs2, hR3, small1000 (by omega), rs2 ++ [.ref q1], upd_same, ?_, fun c o hc => ?_⟩
      · rw [List.take_add_one, hdue]
        exact dpns_app (dpns_kp kp_upd hR3 (fun _ n => n) (dpns_same y1 hz2)) (.cons (dpn_kp kp_upd hR3 (fun _ n => n) (.tup (SqT.of upd_same) (.cons (.str _) (.cons hd3 .nil)))) .nil)
      · rw [upd_ne (ne_of_none hc nR2)]
        exact y1 _ _ (s2 _ _ hc)
    · rintro H2 ⟨rs2, hR2, hz2, s2⟩
      have hz2' : DpNs K (fun a => a ≠ R2) H2 rs2 (allE.map (D9 (.int za) tb)) := hz2
      refine ⟨_, _, .list (allE.map (D9 (.int za) tb)), rfl, Da_of (.lst (SqL.of (s2 _ _ hR)) (dpns_dp (dpns_same s2 hz))), Da_of (.lst (SqL.of hR2) (dpns_dp hz2')), d9_oka hB6, fun H3 s3 => ⟨_, rfl, iteE rfl ?_⟩⟩
      have s03 := s1.trans (s2.trans s3)
      refine ⟨17, rfl, by decide, by decide, for_range (lo := 0) (n := (17 : Int).toNat) (fun i σ H' => ∃ v7 v8 v11 v12 : Option V, σ = [v0, v1, some (.int za), some bv, some (.ref pm), some (.ref pc), some (.ref pd), v7, v8, none, none, v11, v12] ∧ Same H H') ⟨none, none, none, none, rfl, s03⟩ ?_ ?_⟩
      · rintro i σ H4 hi ⟨v7, v8, v11, v12, rfl, s4⟩
        have hi17 : i < 17 := hi
        obtain ⟨e, he⟩ : ∃ e, allE[i]? = some e := ⟨allE[i]'(by show i < 17; exact hi17), List.getElem?_eq_getElem _⟩
        obtain ⟨x, hxi⟩ : ∃ x, xs[i]? = some x := ⟨xs[i]'(by rw [lx]; exact hi17), List.getElem?_eq_getElem _⟩
        obtain ⟨p, hp, a, ws, rfl, Er, hw⟩ := hE.get hxi
        obtain rfl : p = (e, tsOf (.int za) tb e) := by
          rw [List.getElem?_map, he] at hp
          exact (Option.some.inj hp).symm
        have E4 := Er.same s4
        have hX := E4.cls
        obtain ⟨dx, fs, x1, x2, _⟩ := id E4.ex
        have h4 := s4 _ _ hpm
        have e0 : (0 : Int) + (i : Nat) = (i : Nat) := by omega
        refine ⟨_, rfl, _, rfl, pm, xs, _, _, rfl, rfl, SqL.of (h4), at_any e0 hxi, _, _, _, _, _, _, rfl, x1, xd_of (x2), hX, .own _, M.kG _, _, rfl, _, rfl, pm, xs, _, _, rfl, rfl, SqL.of (h4), at_any e0 hxi, _, _, _, _, _, _, rfl, x1, xd_of (x2), hX, .ty _, M.kV _, _, rfl, _, rfl, pm, xs, _, _, rfl, rfl, SqL.of (h4), at_any e0 hxi, _, _, _, _, _, _, rfl, x1, xd_of (x2), hX, .own _, M.kM _, (by show 3 ≤ sizeLine; decide), fun q1 m1 => ?_⟩
        have y1 := same_new m1 (.lst [.bl (gB e), .bl (gB e), .bl (mB e)])
        refine ⟨_, rfl, _, rfl, _, rfl, pm, xs, _, _, rfl, rfl, SqL.of (y1 _ _ h4), at_any e0 hxi, _, _, _, _, _, _, rfl, y1 _ _ x1, xd_of (y1 _ _ x2), hX, .ty _, M.kL _, _, rfl, _, rfl, pm, xs, _, _, rfl, rfl, SqL.of (y1 _ _ h4), at_any e0 hxi, _, _, _, _, _, _, rfl, y1 _ _ x1, xd_of (y1 _ _ x2), hX, .ty _, M.kI _, (by show 2 ≤ sizeLine; decide), fun q2 m2 => ?_⟩
        have y2 := same_new m2 (.lst [.bl (lB e), .bl (iB e)])
        refine ⟨_, _, _, _, rfl, rfl, y2 _ _ upd_same, upd_same, (by show 5 ≤ sizeLine; decide), fun q3 m3 => ?_⟩
        have y3 := same_new m3 (.lst ((ownL e).map V.bl))
        refine ⟨_, rfl, _, rfl, _, _, rfl, rfl, _, rfl, _, _, rfl, rfl, _, rfl, rfl, _, rfl, _, _, rfl, rfl, _, rfl, rfl, (by show 5 ≤ sizeLine; decide), fun q4 m4 => ?_⟩
        have y4 := same_new m4 (.lst ((ownR i).map V.bl))
        have y14 := y1.trans (y2.trans (y3.trans y4))
        refine ⟨.list ((ownL e).map PyData.bool), .list ((ownR i).map PyData.bool), .lst (SqL.of (y4 _ _ upd_same)) (dpall_bools (ownL e)), .lst (SqL.of upd_same) (dpall_bools (ownR i)), shaped_bools _, shaped_bools _, _, rfl, iteE (by rw [own_eq he]; rfl) ?_⟩
        refine ⟨_, rfl, _, rfl, pm, xs, _, _, rfl, rfl, SqL.of (y14 _ _ h4), at_any e0 hxi, a, e, ws, rfl, E4.same y14, fun p6 H6 s6 hp6 => ⟨17, rfl, by decide, by decide, fun R5 nR5 => ?_⟩⟩
        refine lc_range (lo := 0) (n := (17 : Int).toNat) (fun j H' => H' R5 = some (.lst ((clsR i j).map V.bl)) ∧ Same H6 H') ⟨upd_same, same_new nR5 _⟩ ?_ ?_
        · rintro j H7 hj ⟨hR, s7⟩
          have hj17 : j < 17 := hj
          refine ⟨rfl, _, rfl, _, rfl, rfl, _, hR, small1000 (by unfold clsR; rw [List.length_map, List.length_map, List.length_range]; omega), ?_, fun c o hc => ?_⟩
          · rw [upd_same]
            unfold clsR
            rw [List.range_succ, List.map_append, List.map_append]
            rfl
          · rw [upd_ne (ne_of_none hc nR5)]
            exact s7 _ _ hc
        · rintro H7 ⟨hR, s7⟩
          refine ⟨.list ((allE.map fun e' => decide (e = e')).map PyData.bool), .list ((clsR i 17).map PyData.bool), .lst (SqL.of (s7 _ _ hp6)) (dpall_bools (allE.map fun e' => decide (e = e'))), .lst (SqL.of hR) (dpall_bools _), shaped_bools _, shaped_bools _, _, rfl, iteE (by rw [cls_eq he]; rfl) ?_⟩
          exact ⟨_, _, _, _, rfl, s4.trans (y14.trans (s6.trans s7))⟩
      · rintro σ H4 ⟨v7, v8, v11, v12, rfl, s4⟩
        exact hq D H4 v0 v1 _ _ _ v7 v8 v11 v12 za bv tb hD (dpn_up s4 hb) hB6
end

end Ag

namespace Ag
open PySem PySem.Spec PyProof.Rows L2
section
variable {P : Program} {w : World} {K : PySem.W.Frag} {mg : Str → Option Value} {base : Heap} {cA fI : Ek → Addr} {fdI : Ek → FuncData} {cG cM : Addr}
theorem ok_law {f : Addr} {fd : FuncData} (F : Fun K "law" "law" s_law f fd) (cs : Cals P w K mg base cA) (M : ClsM P w K mg base cA fI fdI cG cM) (L : LawM mg) : FnOk P w K mg base CX0 40 f fd ["_law_script"] (spLawT K) := by
  refine F.ok scLaw (fun vs H Q E h => ?_) (fun cdv A outer s H vs Q E hr h => ?_)
  · obtain ⟨a, ns, rfl, _⟩ := h
    rfl
  obtain ⟨a, ns, rfl, hS, h63, q⟩ := h
  have nd := scLaw.nd
  obtain ⟨u, hu, hq⟩ := law_b (f := f) (cdv := cdv) (A := A) (outer := outer) (s := s) (H0 := H) (E := E) cs M L hr
  refine ⟨_, (pss_cons (ps_set (i := 1) nd rfl (.inl rfl) (C8.pe_c cs.bag hr (by decide) (by rfl) (pa_cons (pv 0) pa_nil)))
    (pss_cons (ps_par (i := 2) (j := 3) rfl nd rfl rfl (by decide) rfl rfl (pa_cons (C8.pe_c cs.pull hr (by decide) (by rfl) (pa_cons (pv 1) (pa_cons (pe_op op_pow pe_int pe_int) pa_nil))) (pa_cons (C8.pe_c cs.any hr (by decide) (by rfl) (pa_cons (pv 1) (pa_cons (pe_lst (pa_cons pe_non (pa_cons pe_str (pa_cons (pe_tup pa_nil) (pa_cons (pe_lst (pa_cons pe_int pa_nil)) (pa_cons (pe_tup (pa_cons pe_str (pa_cons pe_non pa_nil))) (pa_cons pe_bl pa_nil))))))) pa_nil))) pa_nil)) rfl)
    (pss_cons (ps_set (i := 4) nd rfl (.inl rfl) (pe_lst (pa_cons (pe_xc (M.j .name).xi (hr.mono (by decide)) (by rfl) (pa_cons (pv 2) pa_nil)) (pa_cons (pe_xc (M.j .number).xi (hr.mono (by decide)) (by rfl) (pa_cons (pv 3) pa_nil)) (pa_cons (pe_xc (M.j .formula).xi (hr.mono (by decide)) (by rfl) (pa_cons (pv 2) pa_nil)) (pa_cons (pe_xc (M.j .shape).xi (hr.mono (by decide)) (by rfl) (pa_cons (pv 3) pa_nil)) (pa_cons (pe_xc (M.j .row).xi (hr.mono (by decide)) (by rfl) (pa_cons (pv 2) pa_nil)) (pa_cons (pe_xc (M.j .command).xi (hr.mono (by decide)) (by rfl) (pa_cons (pv 3) pa_nil)) pa_nil))))))))
    (pss_cons (ps_set (i := 4) nd rfl (.inl rfl) (pe_op op_cat (pv 4) (pe_lst (pa_cons (pe_xc (M.j .text).xi (hr.mono (by decide)) (by rfl) (pa_cons (pv 2) pa_nil)) (pa_cons (pe_xc (M.j .deed).xi (hr.mono (by decide)) (by rfl) (pa_cons (pv 3) pa_nil)) (pa_cons (pe_xc (M.j .page).xi (hr.mono (by decide)) (by rfl) (pa_cons (pv 2) pa_nil)) (pa_cons (pe_xc (M.j .many).xi (hr.mono (by decide)) (by rfl) (pa_cons (pv 3) pa_nil)) (pa_cons (pe_xc (M.j .large).xi (hr.mono (by decide)) (by rfl) (pa_cons (pv 2) pa_nil)) (pa_cons (pe_xc (M.j .circular).xi (hr.mono (by decide)) (by rfl) (pa_cons (pv 3) pa_nil)) (pa_cons (pe_xc (M.j .inuse).xi (hr.mono (by decide)) (by rfl) (pa_cons (pv 2) pa_nil)) pa_nil))))))))))
    (pss_cons (ps_set (i := 4) nd rfl (.inl rfl) (pe_op op_cat (pv 4) (pe_lst (pa_cons (pe_xc (M.j .full).xi (hr.mono (by decide)) (by rfl) (pa_cons (pv 3) pa_nil)) (pa_cons (pe_xc (M.j .refused).xi (hr.mono (by decide)) (by rfl) (pa_cons (pv 2) (pa_cons (pv 3) pa_nil))) (pa_cons (pe_xc (M.j .unknown).xi (hr.mono (by decide)) (by rfl) (pa_cons (pv 2) pa_nil)) (pa_cons (pe_xc0 (M.j .nothing).xi (hr.mono (by decide)) (by rfl)) pa_nil)))))))
    (pss_cons (ps_set (i := 5) nd rfl (.inr rfl) (pe_lst (pa_cons pe_str (pa_cons pe_str (pa_cons pe_str (pa_cons pe_str (pa_cons pe_str (pa_cons pe_str pa_nil))))))))
    (pss_cons (ps_set (i := 5) nd rfl (.inr rfl) (pe_op op_cat (pv 5) (pe_lst (pa_cons pe_str (pa_cons pe_str (pa_cons pe_str (pa_cons pe_str (pa_cons pe_str (pa_cons pe_str (pa_cons pe_str pa_nil))))))))))
    (pss_cons (ps_set (i := 5) nd rfl (.inr rfl) (pe_op op_cat (pv 5) (pe_lst (pa_cons pe_str (pa_cons pe_str (pa_cons pe_str (pa_cons pe_str pa_nil)))))))
    (pss_cons (ps_set (i := 6) nd rfl (.inr rfl) (pe_lst (pa_cons (pe_tup (pa_cons (pv 2) pa_nil)) (pa_cons (pe_tup (pa_cons (pv 3) pa_nil)) (pa_cons (pe_tup (pa_cons (pv 2) pa_nil)) (pa_cons (pe_tup (pa_cons (pv 3) pa_nil)) (pa_cons (pe_tup (pa_cons (pv 2) pa_nil)) (pa_cons (pe_tup (pa_cons (pv 3) pa_nil)) (pa_cons (pe_tup (pa_cons (pv 2) pa_nil)) (pa_cons (pe_tup (pa_cons (pv 3) pa_nil)) (pa_cons (pe_tup (pa_cons (pv 2) pa_nil)) (pa_cons (pe_tup (pa_cons (pv 3) pa_nil)) (pa_cons (pe_tup (pa_cons (pv 2) pa_nil)) (pa_cons (pe_tup (pa_cons (pv 3) pa_nil)) (pa_cons (pe_tup (pa_cons (pv 2) pa_nil)) (pa_cons (pe_tup (pa_cons (pv 3) pa_nil)) (pa_cons (pe_tup (pa_cons (pv 2) (pa_cons (pv 3) pa_nil))) (pa_cons (pe_tup (pa_cons (pv 2) pa_nil)) (pa_cons (pe_tup pa_nil) pa_nil)))))))))))))))))))
    hu))))))))), ?_⟩
  refine ⟨_, rfl, a, ns, rfl, hS, h63, fun b l H1 nb s1 B1 => ?_⟩
  refine ⟨_, rfl, _, _, rfl, rfl, ⟨by decide, by decide, by decide⟩, b, l, _, rfl, B1, by decide, by decide, fun za H2 z0 z1 k2 B2 => ?_⟩
  refine ⟨_, rfl, (by show 0 ≤ sizeLine; decide), fun t1 n1 => ⟨(by show 1 ≤ sizeLine; decide), fun t2 n2 => ⟨(by show 2 ≤ sizeLine; decide), fun t3 n3 => ⟨(by show 6 ≤ sizeLine; decide), fun t4 n4 => ?_⟩⟩⟩⟩
  have x1 := same_new n1 (.tup [])
  have x2 := same_new n2 (.lst [.int 3])
  have x3 := same_new n3 (.tup [.str "a", .non])
  have x4 := same_new n4 (.lst [.non, .str "x", .ref t1, .ref t2, .ref t3, .bl true])
  have B3 := B2.kp (x1.trans (x2.trans x3))
  have B4 := B3.kp x4
  have nt2 := ((B2.kp x1).new n2).1
  refine ⟨b, l, .ref t4, _, rfl, B4, .inr ⟨t4, rfl, (B3.new n4).1, .inl (SqL.of upd_same)⟩, by show 0 < 6; decide, by show 6 < 2 ^ 62; decide, fun ri bv Hs hr3 k3 B5 => ⟨_, _, rfl, ?_⟩⟩
  obtain ⟨tb, hB6, hb⟩ : ∃ tb, tb ∈ bs6 ∧ DpN K (Kn Hs) Hs bv tb := by
    have all : DpNs K (fun a => a ≠ b) _ _ bs6 := .cons .non (.cons (.str _) (.cons (.tup (SqT.of (x4 _ _ (x3 _ _ (x2 _ _ upd_same)))) .nil) (.cons (.lst (x4 _ _ (x3 _ _ upd_same)) nt2 (.cons (.int 3) .nil)) (.cons (.tup (SqT.of (x4 _ _ upd_same)) (.cons (.str _) (.cons .non .nil))) (.cons (.bl true) .nil)))))
    obtain ⟨d, h1, h2⟩ := dpns_get all hr3
    obtain ⟨_, _, _, _, _, hbl, _⟩ := id B4
    exact ⟨d, List.mem_of_getElem? h1, dpn_kn (dpn_kp k3 hbl (fun _ n => n) h2)⟩
  have la : ∀ t ∈ [PyData.int za], lstd 12 t = true := fun t h => by
    rw [List.mem_singleton.mp h]
    rfl
  have lb : ∀ t ∈ [tb], lstd 12 t = true := fun t h => by
    rw [List.mem_singleton.mp h]
    exact bs6_ok tb hB6
  have lab : ∀ t ∈ [PyData.int za, tb], lstd 12 t = true := fun t h => by
    rcases List.mem_cons.mp h with h | h
    · rw [h]
      rfl
    · exact lb t h
  have l0 : ∀ t ∈ ([] : List PyData), lstd 12 t = true := fun t h => by cases h
  refine ⟨_, rfl, (by show 1 ≤ 1000; decide), xc_of (K := K) (cA := cA) (e := .name) (xs := [.int za]) (.cons (.int _) .nil) la rfl fun a1 H1 y1 d1 => ?_⟩
  have c1 := y1
  refine ⟨_, rfl, (by show 1 ≤ 1000; decide), xc_of (K := K) (cA := cA) (e := .number) (xs := [bv]) (.cons (dpn_dp (dpn_same c1 hb)) .nil) lb rfl fun a2 H2 y2 d2 => ?_⟩
  have c2 := c1.trans y2
  refine ⟨_, rfl, (by show 1 ≤ 1000; decide), xc_of (K := K) (cA := cA) (e := .formula) (xs := [.int za]) (.cons (.int _) .nil) la rfl fun a3 H3 y3 d3 => ?_⟩
  have c3 := c2.trans y3
  refine ⟨_, rfl, (by show 1 ≤ 1000; decide), xc_of (K := K) (cA := cA) (e := .shape) (xs := [bv]) (.cons (dpn_dp (dpn_same c3 hb)) .nil) lb rfl fun a4 H4 y4 d4 => ?_⟩
  have c4 := c3.trans y4
  refine ⟨_, rfl, (by show 1 ≤ 1000; decide), xc_of (K := K) (cA := cA) (e := .row) (xs := [.int za]) (.cons (.int _) .nil) la rfl fun a5 H5 y5 d5 => ?_⟩
  have c5 := c4.trans y5
  refine ⟨_, rfl, (by show 1 ≤ 1000; decide), xc_of (K := K) (cA := cA) (e := .command) (xs := [bv]) (.cons (dpn_dp (dpn_same c5 hb)) .nil) lb rfl fun a6 H6 y6 d6 => ?_⟩
  have c6 := c5.trans y6
  refine ⟨(by show 6 ≤ sizeLine; decide), fun q7 m7 => ?_⟩
  have y7 := same_new m7 (.lst [.ref a1, .ref a2, .ref a3, .ref a4, .ref a5, .ref a6])
  have c7 := c6.trans y7
  refine ⟨_, rfl, _, rfl, (by show 1 ≤ 1000; decide), xc_of (K := K) (cA := cA) (e := .text) (xs := [.int za]) (.cons (.int _) .nil) la rfl fun a8 H8 y8 d8 => ?_⟩
  have c8 := c7.trans y8
  refine ⟨_, rfl, (by show 1 ≤ 1000; decide), xc_of (K := K) (cA := cA) (e := .deed) (xs := [bv]) (.cons (dpn_dp (dpn_same c8 hb)) .nil) lb rfl fun a9 H9 y9 d9 => ?_⟩
  have c9 := c8.trans y9
  refine ⟨_, rfl, (by show 1 ≤ 1000; decide), xc_of (K := K) (cA := cA) (e := .page) (xs := [.int za]) (.cons (.int _) .nil) la rfl fun a10 H10 y10 d10 => ?_⟩
  have c10 := c9.trans y10
  refine ⟨_, rfl, (by show 1 ≤ 1000; decide), xc_of (K := K) (cA := cA) (e := .many) (xs := [bv]) (.cons (dpn_dp (dpn_same c10 hb)) .nil) lb rfl fun a11 H11 y11 d11 => ?_⟩
  have c11 := c10.trans y11
  refine ⟨_, rfl, (by show 1 ≤ 1000; decide), xc_of (K := K) (cA := cA) (e := .large) (xs := [.int za]) (.cons (.int _) .nil) la rfl fun a12 H12 y12 d12 => ?_⟩
  have c12 := c11.trans y12
  refine ⟨_, rfl, (by show 1 ≤ 1000; decide), xc_of (K := K) (cA := cA) (e := .circular) (xs := [bv]) (.cons (dpn_dp (dpn_same c12 hb)) .nil) lb rfl fun a13 H13 y13 d13 => ?_⟩
  have c13 := c12.trans y13
  refine ⟨_, rfl, (by show 1 ≤ 1000; decide), xc_of (K := K) (cA := cA) (e := .inuse) (xs := [.int za]) (.cons (.int _) .nil) la rfl fun a14 H14 y14 d14 => ?_⟩
  have c14 := c13.trans y14
  refine ⟨(by show 7 ≤ sizeLine; decide), fun q15 m15 => ?_⟩
  have y15 := same_new m15 (.lst [.ref a8, .ref a9, .ref a10, .ref a11, .ref a12, .ref a13, .ref a14])
  have c15 := c14.trans y15
  refine ⟨_, _, _, _, rfl, rfl, ((((((((y8).trans y9).trans y10).trans y11).trans y12).trans y13).trans y14).trans y15) _ _ upd_same, upd_same, (by show 13 ≤ sizeLine; decide), fun q16 m16 => ?_⟩
  have y16 := same_new m16 (.lst ([.ref a1, .ref a2, .ref a3, .ref a4, .ref a5, .ref a6] ++ [.ref a8, .ref a9, .ref a10, .ref a11, .ref a12, .ref a13, .ref a14]))
  have c16 := c15.trans y16
  refine ⟨_, rfl, _, rfl, (by show 1 ≤ 1000; decide), xc_of (K := K) (cA := cA) (e := .full) (xs := [bv]) (.cons (dpn_dp (dpn_same c16 hb)) .nil) lb rfl fun a17 H17 y17 d17 => ?_⟩
  have c17 := c16.trans y17
  refine ⟨_, rfl, _, rfl, (by show 2 ≤ 1000; decide), xc_of (K := K) (cA := cA) (e := .refused) (xs := [.int za, bv]) (.cons (.int _) (.cons (dpn_dp (dpn_same c17 hb)) .nil)) lab rfl fun a18 H18 y18 d18 => ?_⟩
  have c18 := c17.trans y18
  refine ⟨_, rfl, (by show 1 ≤ 1000; decide), xc_of (K := K) (cA := cA) (e := .unknown) (xs := [.int za]) (.cons (.int _) .nil) la rfl fun a19 H19 y19 d19 => ?_⟩
  have c19 := c18.trans y19
  refine ⟨(by show 0 ≤ 1000; decide), xc_of (K := K) (cA := cA) (e := .nothing) (xs := []) (.nil) l0 rfl fun a20 H20 y20 d20 => ?_⟩
  have c20 := c19.trans y20
  refine ⟨(by show 4 ≤ sizeLine; decide), fun q21 m21 => ?_⟩
  have y21 := same_new m21 (.lst [.ref a17, .ref a18, .ref a19, .ref a20])
  have c21 := c20.trans y21
  refine ⟨_, _, _, _, rfl, rfl, (((((y17).trans y18).trans y19).trans y20).trans y21) _ _ upd_same, upd_same, (by show 17 ≤ sizeLine; decide), fun q22 m22 => ?_⟩
  have y22 := same_new m22 (.lst (([.ref a1, .ref a2, .ref a3, .ref a4, .ref a5, .ref a6] ++ [.ref a8, .ref a9, .ref a10, .ref a11, .ref a12, .ref a13, .ref a14]) ++ [.ref a17, .ref a18, .ref a19, .ref a20]))
  have c22 := c21.trans y22
  refine ⟨(by show 6 ≤ sizeLine; decide), fun q23 m23 => ?_⟩
  have y23 := same_new m23 (.lst [.str "InvalidName", .str "InvalidNumber", .str "InvalidFormula", .str "InvalidShape", .str "InvalidRow", .str "InvalidCommand"])
  have c23 := c22.trans y23
  refine ⟨_, rfl, (by show 7 ≤ sizeLine; decide), fun q24 m24 => ?_⟩
  have y24 := same_new m24 (.lst [.str "InvalidText", .str "InvalidDeed", .str "InvalidPage", .str "TooMany", .str "TooLarge", .str "Circular", .str "NameInUse"])
  have c24 := c23.trans y24
  refine ⟨_, _, _, _, rfl, rfl, (y24) _ _ upd_same, upd_same, (by show 13 ≤ sizeLine; decide), fun q25 m25 => ?_⟩
  have y25 := same_new m25 (.lst ([.str "InvalidName", .str "InvalidNumber", .str "InvalidFormula", .str "InvalidShape", .str "InvalidRow", .str "InvalidCommand"] ++ [.str "InvalidText", .str "InvalidDeed", .str "InvalidPage", .str "TooMany", .str "TooLarge", .str "Circular", .str "NameInUse"]))
  have c25 := c24.trans y25
  refine ⟨_, rfl, (by show 4 ≤ sizeLine; decide), fun q26 m26 => ?_⟩
  have y26 := same_new m26 (.lst [.str "Full", .str "Refused", .str "UnknownName", .str "NothingLeft"])
  have c26 := c25.trans y26
  refine ⟨_, _, _, _, rfl, rfl, (y26) _ _ upd_same, upd_same, (by show 17 ≤ sizeLine; decide), fun q27 m27 => ?_⟩
  have y27 := same_new m27 (.lst (([.str "InvalidName", .str "InvalidNumber", .str "InvalidFormula", .str "InvalidShape", .str "InvalidRow", .str "InvalidCommand"] ++ [.str "InvalidText", .str "InvalidDeed", .str "InvalidPage", .str "TooMany", .str "TooLarge", .str "Circular", .str "NameInUse"]) ++ [.str "Full", .str "Refused", .str "UnknownName", .str "NothingLeft"]))
  have c27 := c26.trans y27
  refine ⟨_, rfl, (by show 1 ≤ sizeLine; decide), fun q28 m28 => ?_⟩
  have y28 := same_new m28 (.tup [.int za])
  have c28 := c27.trans y28
  refine ⟨_, rfl, (by show 1 ≤ sizeLine; decide), fun q29 m29 => ?_⟩
  have y29 := same_new m29 (.tup [bv])
  have c29 := c28.trans y29
  refine ⟨_, rfl, (by show 1 ≤ sizeLine; decide), fun q30 m30 => ?_⟩
  have y30 := same_new m30 (.tup [.int za])
  have c30 := c29.trans y30
  refine ⟨_, rfl, (by show 1 ≤ sizeLine; decide), fun q31 m31 => ?_⟩
  have y31 := same_new m31 (.tup [bv])
  have c31 := c30.trans y31
  refine ⟨_, rfl, (by show 1 ≤ sizeLine; decide), fun q32 m32 => ?_⟩
  have y32 := same_new m32 (.tup [.int za])
  have c32 := c31.trans y32
  refine ⟨_, rfl, (by show 1 ≤ sizeLine; decide), fun q33 m33 => ?_⟩
  have y33 := same_new m33 (.tup [bv])
  have c33 := c32.trans y33
  refine ⟨_, rfl, (by show 1 ≤ sizeLine; decide), fun q34 m34 => ?_⟩
  have y34 := same_new m34 (.tup [.int za])
  have c34 := c33.trans y34
  refine ⟨_, rfl, (by show 1 ≤ sizeLine; decide), fun q35 m35 => ?_⟩
  have y35 := same_new m35 (.tup [bv])
  have c35 := c34.trans y35
  refine ⟨_, rfl, (by show 1 ≤ sizeLine; decide), fun q36 m36 => ?_⟩
  have y36 := same_new m36 (.tup [.int za])
  have c36 := c35.trans y36
  refine ⟨_, rfl, (by show 1 ≤ sizeLine; decide), fun q37 m37 => ?_⟩
  have y37 := same_new m37 (.tup [bv])
  have c37 := c36.trans y37
  refine ⟨_, rfl, (by show 1 ≤ sizeLine; decide), fun q38 m38 => ?_⟩
  have y38 := same_new m38 (.tup [.int za])
  have c38 := c37.trans y38
  refine ⟨_, rfl, (by show 1 ≤ sizeLine; decide), fun q39 m39 => ?_⟩
  have y39 := same_new m39 (.tup [bv])
  have c39 := c38.trans y39
  refine ⟨_, rfl, (by show 1 ≤ sizeLine; decide), fun q40 m40 => ?_⟩
  have y40 := same_new m40 (.tup [.int za])
  have c40 := c39.trans y40
  refine ⟨_, rfl, (by show 1 ≤ sizeLine; decide), fun q41 m41 => ?_⟩
  have y41 := same_new m41 (.tup [bv])
  have c41 := c40.trans y41
  refine ⟨_, rfl, _, rfl, (by show 2 ≤ sizeLine; decide), fun q42 m42 => ?_⟩
  have y42 := same_new m42 (.tup [.int za, bv])
  have c42 := c41.trans y42
  refine ⟨_, rfl, (by show 1 ≤ sizeLine; decide), fun q43 m43 => ?_⟩
  have y43 := same_new m43 (.tup [.int za])
  have c43 := c42.trans y43
  refine ⟨(by show 0 ≤ sizeLine; decide), fun q44 m44 => ?_⟩
  have y44 := same_new m44 (.tup [])
  have c44 := c43.trans y44
  refine ⟨(by show 17 ≤ sizeLine; decide), fun q45 m45 => ?_⟩
  have y45 := same_new m45 (.lst [.ref q28, .ref q29, .ref q30, .ref q31, .ref q32, .ref q33, .ref q34, .ref q35, .ref q36, .ref q37, .ref q38, .ref q39, .ref q40, .ref q41, .ref q42, .ref q43, .ref q44])
  have c45 := c44.trans y45
  have hbN := dpn_up c45 hb
  exact hq _ _ _ _ za bv tb q22 q27 q45 _ _ q ((((((((((((((((((((((((y23).trans y24).trans y25).trans y26).trans y27).trans y28).trans y29).trans y30).trans y31).trans y32).trans y33).trans y34).trans y35).trans y36).trans y37).trans y38).trans y39).trans y40).trans y41).trans y42).trans y43).trans y44).trans y45) _ _ upd_same) (ErAll.app (ErAll.app (ps := ls1D.map fun e => (e, tsOf (.int za) tb e)) (qs := ls2D.map fun e => (e, tsOf (.int za) tb e)) (.cons (d1.same ((((((((((((((((((((((((((((((((((((((((((((y2).trans y3).trans y4).trans y5).trans y6).trans y7).trans y8).trans y9).trans y10).trans y11).trans y12).trans y13).trans y14).trans y15).trans y16).trans y17).trans y18).trans y19).trans y20).trans y21).trans y22).trans y23).trans y24).trans y25).trans y26).trans y27).trans y28).trans y29).trans y30).trans y31).trans y32).trans y33).trans y34).trans y35).trans y36).trans y37).trans y38).trans y39).trans y40).trans y41).trans y42).trans y43).trans y44).trans y45)) (.cons (d2.same (((((((((((((((((((((((((((((((((((((((((((y3).trans y4).trans y5).trans y6).trans y7).trans y8).trans y9).trans y10).trans y11).trans y12).trans y13).trans y14).trans y15).trans y16).trans y17).trans y18).trans y19).trans y20).trans y21).trans y22).trans y23).trans y24).trans y25).trans y26).trans y27).trans y28).trans y29).trans y30).trans y31).trans y32).trans y33).trans y34).trans y35).trans y36).trans y37).trans y38).trans y39).trans y40).trans y41).trans y42).trans y43).trans y44).trans y45)) (.cons (d3.same ((((((((((((((((((((((((((((((((((((((((((y4).trans y5).trans y6).trans y7).trans y8).trans y9).trans y10).trans y11).trans y12).trans y13).trans y14).trans y15).trans y16).trans y17).trans y18).trans y19).trans y20).trans y21).trans y22).trans y23).trans y24).trans y25).trans y26).trans y27).trans y28).trans y29).trans y30).trans y31).trans y32).trans y33).trans y34).trans y35).trans y36).trans y37).trans y38).trans y39).trans y40).trans y41).trans y42).trans y43).trans y44).trans y45)) (.cons (d4.same (((((((((((((((((((((((((((((((((((((((((y5).trans y6).trans y7).trans y8).trans y9).trans y10).trans y11).trans y12).trans y13).trans y14).trans y15).trans y16).trans y17).trans y18).trans y19).trans y20).trans y21).trans y22).trans y23).trans y24).trans y25).trans y26).trans y27).trans y28).trans y29).trans y30).trans y31).trans y32).trans y33).trans y34).trans y35).trans y36).trans y37).trans y38).trans y39).trans y40).trans y41).trans y42).trans y43).trans y44).trans y45)) (.cons (d5.same ((((((((((((((((((((((((((((((((((((((((y6).trans y7).trans y8).trans y9).trans y10).trans y11).trans y12).trans y13).trans y14).trans y15).trans y16).trans y17).trans y18).trans y19).trans y20).trans y21).trans y22).trans y23).trans y24).trans y25).trans y26).trans y27).trans y28).trans y29).trans y30).trans y31).trans y32).trans y33).trans y34).trans y35).trans y36).trans y37).trans y38).trans y39).trans y40).trans y41).trans y42).trans y43).trans y44).trans y45)) (.cons (d6.same (((((((((((((((((((((((((((((((((((((((y7).trans y8).trans y9).trans y10).trans y11).trans y12).trans y13).trans y14).trans y15).trans y16).trans y17).trans y18).trans y19).trans y20).trans y21).trans y22).trans y23).trans y24).trans y25).trans y26).trans y27).trans y28).trans y29).trans y30).trans y31).trans y32).trans y33).trans y34).trans y35).trans y36).trans y37).trans y38).trans y39).trans y40).trans y41).trans y42).trans y43).trans y44).trans y45)) .nil)))))) (.cons (d8.same (((((((((((((((((((((((((((((((((((((y9).trans y10).trans y11).trans y12).trans y13).trans y14).trans y15).trans y16).trans y17).trans y18).trans y19).trans y20).trans y21).trans y22).trans y23).trans y24).trans y25).trans y26).trans y27).trans y28).trans y29).trans y30).trans y31).trans y32).trans y33).trans y34).trans y35).trans y36).trans y37).trans y38).trans y39).trans y40).trans y41).trans y42).trans y43).trans y44).trans y45)) (.cons (d9.same ((((((((((((((((((((((((((((((((((((y10).trans y11).trans y12).trans y13).trans y14).trans y15).trans y16).trans y17).trans y18).trans y19).trans y20).trans y21).trans y22).trans y23).trans y24).trans y25).trans y26).trans y27).trans y28).trans y29).trans y30).trans y31).trans y32).trans y33).trans y34).trans y35).trans y36).trans y37).trans y38).trans y39).trans y40).trans y41).trans y42).trans y43).trans y44).trans y45)) (.cons (d10.same (((((((((((((((((((((((((((((((((((y11).trans y12).trans y13).trans y14).trans y15).trans y16).trans y17).trans y18).trans y19).trans y20).trans y21).trans y22).trans y23).trans y24).trans y25).trans y26).trans y27).trans y28).trans y29).trans y30).trans y31).trans y32).trans y33).trans y34).trans y35).trans y36).trans y37).trans y38).trans y39).trans y40).trans y41).trans y42).trans y43).trans y44).trans y45)) (.cons (d11.same ((((((((((((((((((((((((((((((((((y12).trans y13).trans y14).trans y15).trans y16).trans y17).trans y18).trans y19).trans y20).trans y21).trans y22).trans y23).trans y24).trans y25).trans y26).trans y27).trans y28).trans y29).trans y30).trans y31).trans y32).trans y33).trans y34).trans y35).trans y36).trans y37).trans y38).trans y39).trans y40).trans y41).trans y42).trans y43).trans y44).trans y45)) (.cons (d12.same (((((((((((((((((((((((((((((((((y13).trans y14).trans y15).trans y16).trans y17).trans y18).trans y19).trans y20).trans y21).trans y22).trans y23).trans y24).trans y25).trans y26).trans y27).trans y28).trans y29).trans y30).trans y31).trans y32).trans y33).trans y34).trans y35).trans y36).trans y37).trans y38).trans y39).trans y40).trans y41).trans y42).trans y43).trans y44).trans y45)) (.cons (d13.same ((((((((((((((((((((((((((((((((y14).trans y15).trans y16).trans y17).trans y18).trans y19).trans y20).trans y21).trans y22).trans y23).trans y24).trans y25).trans y26).trans y27).trans y28).trans y29).trans y30).trans y31).trans y32).trans y33).trans y34).trans y35).trans y36).trans y37).trans y38).trans y39).trans y40).trans y41).trans y42).trans y43).trans y44).trans y45)) (.cons (d14.same (((((((((((((((((((((((((((((((y15).trans y16).trans y17).trans y18).trans y19).trans y20).trans y21).trans y22).trans y23).trans y24).trans y25).trans y26).trans y27).trans y28).trans y29).trans y30).trans y31).trans y32).trans y33).trans y34).trans y35).trans y36).trans y37).trans y38).trans y39).trans y40).trans y41).trans y42).trans y43).trans y44).trans y45)) .nil)))))))) (qs := ls3D.map fun e => (e, tsOf (.int za) tb e)) (.cons (d17.same ((((((((((((((((((((((((((((y18).trans y19).trans y20).trans y21).trans y22).trans y23).trans y24).trans y25).trans y26).trans y27).trans y28).trans y29).trans y30).trans y31).trans y32).trans y33).trans y34).trans y35).trans y36).trans y37).trans y38).trans y39).trans y40).trans y41).trans y42).trans y43).trans y44).trans y45)) (.cons (d18.same (((((((((((((((((((((((((((y19).trans y20).trans y21).trans y22).trans y23).trans y24).trans y25).trans y26).trans y27).trans y28).trans y29).trans y30).trans y31).trans y32).trans y33).trans y34).trans y35).trans y36).trans y37).trans y38).trans y39).trans y40).trans y41).trans y42).trans y43).trans y44).trans y45)) (.cons (d19.same ((((((((((((((((((((((((((y20).trans y21).trans y22).trans y23).trans y24).trans y25).trans y26).trans y27).trans y28).trans y29).trans y30).trans y31).trans y32).trans y33).trans y34).trans y35).trans y36).trans y37).trans y38).trans y39).trans y40).trans y41).trans y42).trans y43).trans y44).trans y45)) (.cons (d20.same (((((((((((((((((((((((((y21).trans y22).trans y23).trans y24).trans y25).trans y26).trans y27).trans y28).trans y29).trans y30).trans y31).trans y32).trans y33).trans y34).trans y35).trans y36).trans y37).trans y38).trans y39).trans y40).trans y41).trans y42).trans y43).trans y44).trans y45)) .nil))))) (((((((((((((((((((y28).trans y29).trans y30).trans y31).trans y32).trans y33).trans y34).trans y35).trans y36).trans y37).trans y38).trans y39).trans y40).trans y41).trans y42).trans y43).trans y44).trans y45) _ _ upd_same) upd_same (.cons (.tup (SqT.of ((((((((((((((((((y29).trans y30).trans y31).trans y32).trans y33).trans y34).trans y35).trans y36).trans y37).trans y38).trans y39).trans y40).trans y41).trans y42).trans y43).trans y44).trans y45) _ _ upd_same)) (.cons (.int _) .nil)) (.cons (.tup (SqT.of (((((((((((((((((y30).trans y31).trans y32).trans y33).trans y34).trans y35).trans y36).trans y37).trans y38).trans y39).trans y40).trans y41).trans y42).trans y43).trans y44).trans y45) _ _ upd_same)) (.cons hbN .nil)) (.cons (.tup (SqT.of ((((((((((((((((y31).trans y32).trans y33).trans y34).trans y35).trans y36).trans y37).trans y38).trans y39).trans y40).trans y41).trans y42).trans y43).trans y44).trans y45) _ _ upd_same)) (.cons (.int _) .nil)) (.cons (.tup (SqT.of (((((((((((((((y32).trans y33).trans y34).trans y35).trans y36).trans y37).trans y38).trans y39).trans y40).trans y41).trans y42).trans y43).trans y44).trans y45) _ _ upd_same)) (.cons hbN .nil)) (.cons (.tup (SqT.of ((((((((((((((y33).trans y34).trans y35).trans y36).trans y37).trans y38).trans y39).trans y40).trans y41).trans y42).trans y43).trans y44).trans y45) _ _ upd_same)) (.cons (.int _) .nil)) (.cons (.tup (SqT.of (((((((((((((y34).trans y35).trans y36).trans y37).trans y38).trans y39).trans y40).trans y41).trans y42).trans y43).trans y44).trans y45) _ _ upd_same)) (.cons hbN .nil)) (.cons (.tup (SqT.of ((((((((((((y35).trans y36).trans y37).trans y38).trans y39).trans y40).trans y41).trans y42).trans y43).trans y44).trans y45) _ _ upd_same)) (.cons (.int _) .nil)) (.cons (.tup (SqT.of (((((((((((y36).trans y37).trans y38).trans y39).trans y40).trans y41).trans y42).trans y43).trans y44).trans y45) _ _ upd_same)) (.cons hbN .nil)) (.cons (.tup (SqT.of ((((((((((y37).trans y38).trans y39).trans y40).trans y41).trans y42).trans y43).trans y44).trans y45) _ _ upd_same)) (.cons (.int _) .nil)) (.cons (.tup (SqT.of (((((((((y38).trans y39).trans y40).trans y41).trans y42).trans y43).trans y44).trans y45) _ _ upd_same)) (.cons hbN .nil)) (.cons (.tup (SqT.of ((((((((y39).trans y40).trans y41).trans y42).trans y43).trans y44).trans y45) _ _ upd_same)) (.cons (.int _) .nil)) (.cons (.tup (SqT.of (((((((y40).trans y41).trans y42).trans y43).trans y44).trans y45) _ _ upd_same)) (.cons hbN .nil)) (.cons (.tup (SqT.of ((((((y41).trans y42).trans y43).trans y44).trans y45) _ _ upd_same)) (.cons (.int _) .nil)) (.cons (.tup (SqT.of (((((y42).trans y43).trans y44).trans y45) _ _ upd_same)) (.cons hbN .nil)) (.cons (.tup (SqT.of ((((y43).trans y44).trans y45) _ _ upd_same)) (.cons (.int _) (.cons hbN .nil))) (.cons (.tup (SqT.of (((y44).trans y45) _ _ upd_same)) (.cons (.int _) .nil)) (.cons (.tup (SqT.of ((y45) _ _ upd_same)) .nil) .nil))))))))))))))))) hbN hB6
end

end Ag

namespace Ag
open PySem PySem.Spec PyProof.Rows L2
section
variable {P : Program} {w : World} {K : PySem.W.Frag} {mg : Str → Option Value} {base : Heap}
theorem copd_mk {f D : Addr} {od an odD : Option Addr} {sl slD : Array (Option Value)} {oc kV dc pm cd ct ocD : Value} {nD : Nat} {t : Tok} (X : K.In h) (G : h.Ns mainGlobals mg) (a : PySem.W.nsIn K mainGlobals "copied" = some (some (.ref f)))
    (l : K.lookup f = some ⟨oc, od, .func (PySem.W.fnOf "copied" "copied" (defArgs s_copied) (defBody s_copied) (defScope s_copied) (.ref D) kV dc pm an cd ct), sl⟩)
    (lD : K.lookup D = some ⟨ocD, odD, .seq #[.int 12 t] nD, slD⟩) (c : PySem.W.codeIn K cd "copied" = true) (k : PySem.W.keepIn K (.ref f) = true) :
    mg "copied" = some (.ref f) ∧ CopD K f (PySem.W.fnOf "copied" "copied" (defArgs s_copied) (defBody s_copied) (defScope s_copied) (.ref D) kV dc pm an cd ct) :=
  ⟨PySem.W.mg_of X G a, ⟨⟨oc, od, .ref D, kV, dc, pm, an, cd, ct, sl, rfl, l, c, .inr ⟨by simp, D, _, [.int 12 t], nD, rfl, lD, rfl, .cons ⟨t, rfl⟩ .nil⟩, .inl rfl⟩, k⟩⟩
theorem copiedL_both {f : Addr} {fd : FuncData} (F : CopD K f fd) (m : mg "copied" = some (.ref f)) (M : CopM mg) : C8.Cal P w K mg base 13 "copied" (spCpL K 13) [.int 12] := by
  obtain ⟨d0, r0, b0⟩ := F.binds1 (ps := ["value", "depth"]) 2 1 (by simp) rfl (fun T kV doc pm an cdv ct us its l1 l2 => match us, its, l1, l2 with | [_, _], [_], _, _ => ⟨_, rfl, rfl⟩)
  cases r0
  obtain ⟨d1, r1, b1⟩ := F.binds1 (ps := ["value", "depth"]) 1 0 (by simp) rfl (fun T kV doc pm an cdv ct us its l1 l2 => match us, its, l1, l2 with | [_], [_], _, _ => ⟨_, rfl, rfl⟩)
  exact ⟨f, fd, _, d1, ok_copiedL F M (copiedL_cal F b0 m M 12), m, F.kp, b1, r1⟩
end
/-! ### what the top leaves of the seventeen classes -/
section
variable {P : Program} {w : World} {K : PySem.W.Frag} {mg : Str → Option Value} {base : Heap} {h : Heap}
def sel {α : Type} (c1 c2 c3 c4 c5 c6 c7 c8 c9 c10 c11 c12 c13 c14 c15 c16 c17 : α) : Ek → α
  | .name => c1
  | .number => c2
  | .formula => c3
  | .shape => c4
  | .row => c5
  | .command => c6
  | .text => c7
  | .deed => c8
  | .page => c9
  | .many => c10
  | .large => c11
  | .circular => c12
  | .inuse => c13
  | .full => c14
  | .refused => c15
  | .unknown => c16
  | .nothing => c17
structure XcB (K : PySem.W.Frag) (mg : Str → Option Value) (x q : Str) (st : Stmt) (ps ks : List Str) (g : List Value → List Value) (C f : Addr) (fd : FuncData) : Prop where
  T : XC K C
  iC : PySem.W.findIn K (.ref C) "__init__" = some (some (.ref f))
  tI : PySem.W.typeIn K (.ref f) = some (.type "function")
  F : Fun K "__init__" q st f fd
  hb : Binds K fd ps []
  m : mg x = some (.ref C)
  kC : PySem.W.keepIn K (.ref C) = true
  kw : KwJ K fd ps ks g
theorem xcb_mk {B nid iid : String} {tl : List Value} {x q : Str} {st : Stmt} {ps ks : List Str} {g : List Value → List Value} {C f : Addr} {od an : Option Addr} {sl : Array (Option Value)} {oc kV dc pm cd ct : Value} (X : K.In h) (G : h.Ns mainGlobals mg) (F : ExcBaseFacts B nid iid tl) (SF : StoreFacts B tl "object.__setattr__" "object")
    (hb : ∀ (kV doc pm : Value) (an : Option Addr) (cdv ct : Value) (us : List Value), us.length = ps.length → bindArgs (PySem.W.fnOf "__init__" q (defArgs st) (defBody st) (defScope st) .none kV doc pm an cdv ct) ⟨us, []⟩ = pure (ps.zip us))
    (hk : ∀ (kV doc pm : Value) (an : Option Addr) (cdv ct : Value) (a : Addr) (ws : List Value), ws.length = ks.length → bindArgs (PySem.W.fnOf "__init__" q (defArgs st) (defBody st) (defScope st) .none kV doc pm an cdv ct) ⟨[.ref a], ks.zip ws⟩ = pure (ps.zip (.ref a :: g ws)))
    (a : PySem.W.nsIn K mainGlobals x = some (some (.ref C))) (ini : PySem.W.excInitIn K C tl nid = true) (ovr : PySem.W.excOver K C tl = true) (hd : PySem.W.hasDictIn K C = true)
    (sa : PySem.W.findIn K (.ref C) "__setattr__" = some (some (.builtin "object.__setattr__"))) (ga : PySem.W.findIn K (.ref C) "__getattribute__" = some (some (.builtin "BaseException.__getattribute__"))) (gg : PySem.W.findIn K (.ref C) "__getattr__" = some none)
    (exC : PySem.W.subIn K (.ref C) (.type "BaseException") = some true) (kC : PySem.W.keepIn K (.ref C) = true)
    (n1 : PySem.W.findIn K (.ref C) "code" = some none) (n2 : PySem.W.findIn K (.ref C) "value" = some none) (n3 : PySem.W.findIn K (.ref C) "at" = some none) (n4 : PySem.W.findIn K (.ref C) "line" = some none) (n5 : PySem.W.findIn K (.ref C) "most" = some none) (n6 : PySem.W.findIn K (.ref C) "path" = some none) (n7 : PySem.W.findIn K (.ref C) "name" = some none) (n8 : PySem.W.findIn K (.ref C) "user" = some none) (n9 : PySem.W.findIn K (.ref C) "reason" = some none)
    (cl : PySem.W.findIn K (.ref C) "__class__" = some (some (.builtin "object.__class__"))) (sg : PySem.W.specialIn K (.builtin "object.__class__") "__get__" = some (some (.builtin "getset_descriptor.__get__"))) (tk : PySem.W.takesIn K (.builtin "object.__class__") = some true) (mo : PySem.W.mroIn K C (.type "object") = some true)
    (iC : PySem.W.findIn K (.ref C) "__init__" = some (some (.ref f))) (tI : PySem.W.typeIn K (.ref f) = some (.type "function"))
    (l : K.lookup f = some ⟨oc, od, .func (PySem.W.fnOf "__init__" q (defArgs st) (defBody st) (defScope st) .none kV dc pm an cd ct), sl⟩) (cI : PySem.W.codeIn K cd q = true) (kf : PySem.W.keepIn K (.ref f) = true) :
    XcB K mg x q st ps ks g C f (PySem.W.fnOf "__init__" q (defArgs st) (defBody st) (defScope st) .none kV dc pm an cd ct) := by
  have FF := fun_mk (st := st) l cI kf
  refine ⟨⟨B, nid, iid, tl, ⟨F, SF, ini, ovr, hd, sa, ga, gg, exC, kC, fun n hn => ?_, cl, sg, tk, mo⟩⟩, iC, tI, FF, FF.binds hb, PySem.W.mg_of X G a, kC, ⟨fun t a ws _ hl => .of_eq (hk _ _ _ _ _ _ a ws hl)⟩⟩
  simp only [List.mem_cons, List.not_mem_nil, or_false] at hn
  rcases hn with rfl | rfl | rfl | rfl | rfl | rfl | rfl | rfl | rfl
  · exact n1
  · exact n2
  · exact n3
  · exact n4
  · exact n5
  · exact n6
  · exact n7
  · exact n8
  · exact n9
theorem mgc_mk {x : Str} {C : Addr} (X : K.In h) (G : h.Ns mainGlobals mg) (a : PySem.W.nsIn K mainGlobals x = some (some (.ref C))) : mg x = some (.ref C) := PySem.W.mg_of X G a
end

end Ag

namespace Ag
open PySem PySem.Spec PyProof.Rows L2
section
variable {P : Program} {w : World} {K : PySem.W.Frag} {mg : Str → Option Value} {base : Heap}
theorem law_main {f : Addr} {fd : FuncData} (FL : Fun K "law" "law" s_law f fd) {f_law_bag : Addr} {fd_law_bag : FuncData} (D_law_bag : Df K mg "_law_bag" s_law_bag ["_law_script"] f_law_bag fd_law_bag) {f_law_pull : Addr} {fd_law_pull : FuncData} (D_law_pull : Df K mg "_law_pull" s_law_pull ["_law_bag_here", "_law_many"] f_law_pull fd_law_pull) {f_law_any : Addr} {fd_law_any : FuncData} (D_law_any : Df K mg "_law_any" s_law_any ["_law_bag_here", "_law_things"] f_law_any fd_law_any) {f_law_like : Addr} {fd_law_like : FuncData} (D_law_like : Df K mg "_law_like" s_law_like ["_law_found", "_law_due"] f_law_like fd_law_like) {f_law_fields : Addr} {fd_law_fields : FuncData} (D_law_fields : Df K mg "_law_fields" s_law_fields ["_law_e"] f_law_fields fd_law_fields) {f_law_classes : Addr} {fd_law_classes : FuncData} (D_law_classes : Df K mg "_law_classes" s_law_classes ["_law_e"] f_law_classes fd_law_classes) (z_len : mg "len" = none) (z_int : mg "int" = none) (z_list : mg "list" = none) (z_isinstance : mg "isinstance" = none) (z_dict : mg "dict" = none) (z_tuple : mg "tuple" = none) (z_bool : mg "bool" = none) (z_str : mg "str" = none) (z_all : mg "all" = none) (z_zip : mg "zip" = none) (z_sorted : mg "sorted" = none) (z_range : mg "range" = none) (z_ValueError : mg "ValueError" = none) (z_LookupError : mg "LookupError" = none) (z_IndexError : mg "IndexError" = none)
    {C_InvalidName f_InvalidName : Addr} {fd_InvalidName : FuncData} (X_InvalidName : XcB K mg "InvalidName" "InvalidName.__init__" s_InvalidName_init ["self", "value"] ["value"] id C_InvalidName f_InvalidName fd_InvalidName)
    {C_InvalidNumber f_InvalidNumber : Addr} {fd_InvalidNumber : FuncData} (X_InvalidNumber : XcB K mg "InvalidNumber" "InvalidNumber.__init__" s_InvalidNumber_init ["self", "value"] ["value"] id C_InvalidNumber f_InvalidNumber fd_InvalidNumber)
    {C_InvalidFormula f_InvalidFormula : Addr} {fd_InvalidFormula : FuncData} (X_InvalidFormula : XcB K mg "InvalidFormula" "InvalidFormula.__init__" s_InvalidFormula_init ["self", "value"] ["value"] id C_InvalidFormula f_InvalidFormula fd_InvalidFormula)
    {C_InvalidShape f_InvalidShape : Addr} {fd_InvalidShape : FuncData} (X_InvalidShape : XcB K mg "InvalidShape" "InvalidShape.__init__" s_InvalidShape_init ["self", "value"] ["value"] id C_InvalidShape f_InvalidShape fd_InvalidShape)
    {C_InvalidRow f_InvalidRow : Addr} {fd_InvalidRow : FuncData} (X_InvalidRow : XcB K mg "InvalidRow" "InvalidRow.__init__" s_InvalidRow_init ["self", "at"] ["at"] id C_InvalidRow f_InvalidRow fd_InvalidRow)
    {C_InvalidCommand f_InvalidCommand : Addr} {fd_InvalidCommand : FuncData} (X_InvalidCommand : XcB K mg "InvalidCommand" "InvalidCommand.__init__" s_InvalidCommand_init ["self", "path"] ["path"] id C_InvalidCommand f_InvalidCommand fd_InvalidCommand)
    {C_InvalidText f_InvalidText : Addr} {fd_InvalidText : FuncData} (X_InvalidText : XcB K mg "InvalidText" "InvalidText.__init__" s_InvalidText_init ["self", "line"] ["line"] id C_InvalidText f_InvalidText fd_InvalidText)
    {C_InvalidDeed f_InvalidDeed : Addr} {fd_InvalidDeed : FuncData} (X_InvalidDeed : XcB K mg "InvalidDeed" "InvalidDeed.__init__" s_InvalidDeed_init ["self", "at"] ["at"] id C_InvalidDeed f_InvalidDeed fd_InvalidDeed)
    {C_InvalidPage f_InvalidPage : Addr} {fd_InvalidPage : FuncData} (X_InvalidPage : XcB K mg "InvalidPage" "InvalidPage.__init__" s_InvalidPage_init ["self", "line"] ["line"] id C_InvalidPage f_InvalidPage fd_InvalidPage)
    {C_TooMany f_TooMany : Addr} {fd_TooMany : FuncData} (X_TooMany : XcB K mg "TooMany" "TooMany.__init__" s_TooMany_init ["self", "most"] ["most"] id C_TooMany f_TooMany fd_TooMany)
    {C_TooLarge f_TooLarge : Addr} {fd_TooLarge : FuncData} (X_TooLarge : XcB K mg "TooLarge" "TooLarge.__init__" s_TooLarge_init ["self", "most"] ["most"] id C_TooLarge f_TooLarge fd_TooLarge)
    {C_Circular f_Circular : Addr} {fd_Circular : FuncData} (X_Circular : XcB K mg "Circular" "Circular.__init__" s_Circular_init ["self", "name"] ["name"] id C_Circular f_Circular fd_Circular)
    {C_NameInUse f_NameInUse : Addr} {fd_NameInUse : FuncData} (X_NameInUse : XcB K mg "NameInUse" "NameInUse.__init__" s_NameInUse_init ["self", "user"] ["user"] id C_NameInUse f_NameInUse fd_NameInUse)
    {C_Full f_Full : Addr} {fd_Full : FuncData} (X_Full : XcB K mg "Full" "Full.__init__" s_Full_init ["self", "most"] ["most"] id C_Full f_Full fd_Full)
    {C_Refused f_Refused : Addr} {fd_Refused : FuncData} (X_Refused : XcB K mg "Refused" "Refused.__init__" s_Refused_init ["self", "path", "reason"] ["reason", "path"] swp C_Refused f_Refused fd_Refused)
    {C_UnknownName f_UnknownName : Addr} {fd_UnknownName : FuncData} (X_UnknownName : XcB K mg "UnknownName" "UnknownName.__init__" s_UnknownName_init ["self", "value"] ["value"] id C_UnknownName f_UnknownName fd_UnknownName)
    {C_NothingLeft f_NothingLeft : Addr} {fd_NothingLeft : FuncData} (X_NothingLeft : XcB K mg "NothingLeft" "NothingLeft.__init__" s_NothingLeft_init ["self"] [] id C_NothingLeft f_NothingLeft fd_NothingLeft)
    {fC : Addr} {fdC : FuncData} (CP : mg "copied" = some (.ref fC) ∧ CopD K fC fdC) {cG cM : Addr} (mG : mg "GroundError" = some (.ref cG)) (mM : mg "Missing" = some (.ref cM))
    (kit : ∀ e e' : Ek, PySem.W.kitOne K (.ref (sel C_InvalidName C_InvalidNumber C_InvalidFormula C_InvalidShape C_InvalidRow C_InvalidCommand C_InvalidText C_InvalidDeed C_InvalidPage C_TooMany C_TooLarge C_Circular C_NameInUse C_Full C_Refused C_UnknownName C_NothingLeft e)) (.ref (sel C_InvalidName C_InvalidNumber C_InvalidFormula C_InvalidShape C_InvalidRow C_InvalidCommand C_InvalidText C_InvalidDeed C_InvalidPage C_TooMany C_TooLarge C_Circular C_NameInUse C_Full C_Refused C_UnknownName C_NothingLeft e')) = some (decide (e = e')))
    (kG : ∀ e : Ek, PySem.W.kitOne K (.ref (sel C_InvalidName C_InvalidNumber C_InvalidFormula C_InvalidShape C_InvalidRow C_InvalidCommand C_InvalidText C_InvalidDeed C_InvalidPage C_TooMany C_TooLarge C_Circular C_NameInUse C_Full C_Refused C_UnknownName C_NothingLeft e)) (.ref cG) = some (gB e))
    (kV : ∀ e : Ek, PySem.W.kitOne K (.ref (sel C_InvalidName C_InvalidNumber C_InvalidFormula C_InvalidShape C_InvalidRow C_InvalidCommand C_InvalidText C_InvalidDeed C_InvalidPage C_TooMany C_TooLarge C_Circular C_NameInUse C_Full C_Refused C_UnknownName C_NothingLeft e)) (.type "ValueError") = some (gB e))
    (kM : ∀ e : Ek, PySem.W.kitOne K (.ref (sel C_InvalidName C_InvalidNumber C_InvalidFormula C_InvalidShape C_InvalidRow C_InvalidCommand C_InvalidText C_InvalidDeed C_InvalidPage C_TooMany C_TooLarge C_Circular C_NameInUse C_Full C_Refused C_UnknownName C_NothingLeft e)) (.ref cM) = some (mB e))
    (kL : ∀ e : Ek, PySem.W.kitOne K (.ref (sel C_InvalidName C_InvalidNumber C_InvalidFormula C_InvalidShape C_InvalidRow C_InvalidCommand C_InvalidText C_InvalidDeed C_InvalidPage C_TooMany C_TooLarge C_Circular C_NameInUse C_Full C_Refused C_UnknownName C_NothingLeft e)) (.type "LookupError") = some (lB e))
    (kI : ∀ e : Ek, PySem.W.kitOne K (.ref (sel C_InvalidName C_InvalidNumber C_InvalidFormula C_InvalidShape C_InvalidRow C_InvalidCommand C_InvalidText C_InvalidDeed C_InvalidPage C_TooMany C_TooLarge C_Circular C_NameInUse C_Full C_Refused C_UnknownName C_NothingLeft e)) (.type "IndexError") = some (iB e)) : FnOk P w K mg base CX0 40 f fd ["_law_script"] (spLawT K) := by
  have LM : LikeM mg := ⟨z_isinstance, z_dict, z_list, z_tuple, z_bool, z_int, z_str, z_len, z_all, z_zip, z_sorted⟩
  have cP : C8.Cal P w K mg base 1 "_law_pull" spPull [] := D_law_pull.cal (ok_pull D_law_pull.fn z_len z_int)
  have cA : C8.Cal P w K mg base 2 "_law_any" (spAny K) [] := D_law_any.cal (ok_any D_law_any.fn cP z_len)
  have cC : C8.Cal P w K mg base 13 "copied" (spCpL K 13) [.int 12] := copiedL_both CP.2 CP.1 ⟨z_isinstance, z_list, z_tuple, z_dict⟩
  have M : ClsM P w K mg base (sel C_InvalidName C_InvalidNumber C_InvalidFormula C_InvalidShape C_InvalidRow C_InvalidCommand C_InvalidText C_InvalidDeed C_InvalidPage C_TooMany C_TooLarge C_Circular C_NameInUse C_Full C_Refused C_UnknownName C_NothingLeft) (sel f_InvalidName f_InvalidNumber f_InvalidFormula f_InvalidShape f_InvalidRow f_InvalidCommand f_InvalidText f_InvalidDeed f_InvalidPage f_TooMany f_TooLarge f_Circular f_NameInUse f_Full f_Refused f_UnknownName f_NothingLeft) (sel fd_InvalidName fd_InvalidNumber fd_InvalidFormula fd_InvalidShape fd_InvalidRow fd_InvalidCommand fd_InvalidText fd_InvalidDeed fd_InvalidPage fd_TooMany fd_TooLarge fd_Circular fd_NameInUse fd_Full fd_Refused fd_UnknownName fd_NothingLeft) cG cM := by
    refine ⟨fun e => ?_, kit, kG, kV, kM, kL, kI, fun e n h => ?_, X_Refused.kw, mG, mM⟩
    cases e with
    | name => exact ⟨X_InvalidName.T, X_InvalidName.iC, X_InvalidName.tI, ini_InvalidName X_InvalidName.F X_InvalidName.T cC, X_InvalidName.hb, X_InvalidName.m, X_InvalidName.kC⟩
    | number => exact ⟨X_InvalidNumber.T, X_InvalidNumber.iC, X_InvalidNumber.tI, ini_InvalidNumber X_InvalidNumber.F X_InvalidNumber.T cC, X_InvalidNumber.hb, X_InvalidNumber.m, X_InvalidNumber.kC⟩
    | formula => exact ⟨X_InvalidFormula.T, X_InvalidFormula.iC, X_InvalidFormula.tI, ini_InvalidFormula X_InvalidFormula.F X_InvalidFormula.T cC, X_InvalidFormula.hb, X_InvalidFormula.m, X_InvalidFormula.kC⟩
    | shape => exact ⟨X_InvalidShape.T, X_InvalidShape.iC, X_InvalidShape.tI, ini_InvalidShape X_InvalidShape.F X_InvalidShape.T cC, X_InvalidShape.hb, X_InvalidShape.m, X_InvalidShape.kC⟩
    | row => exact ⟨X_InvalidRow.T, X_InvalidRow.iC, X_InvalidRow.tI, ini_InvalidRow X_InvalidRow.F X_InvalidRow.T cC, X_InvalidRow.hb, X_InvalidRow.m, X_InvalidRow.kC⟩
    | command => exact ⟨X_InvalidCommand.T, X_InvalidCommand.iC, X_InvalidCommand.tI, ini_InvalidCommand X_InvalidCommand.F X_InvalidCommand.T cC, X_InvalidCommand.hb, X_InvalidCommand.m, X_InvalidCommand.kC⟩
    | text => exact ⟨X_InvalidText.T, X_InvalidText.iC, X_InvalidText.tI, ini_InvalidText X_InvalidText.F X_InvalidText.T cC, X_InvalidText.hb, X_InvalidText.m, X_InvalidText.kC⟩
    | deed => exact ⟨X_InvalidDeed.T, X_InvalidDeed.iC, X_InvalidDeed.tI, ini_InvalidDeed X_InvalidDeed.F X_InvalidDeed.T cC, X_InvalidDeed.hb, X_InvalidDeed.m, X_InvalidDeed.kC⟩
    | page => exact ⟨X_InvalidPage.T, X_InvalidPage.iC, X_InvalidPage.tI, ini_InvalidPage X_InvalidPage.F X_InvalidPage.T cC, X_InvalidPage.hb, X_InvalidPage.m, X_InvalidPage.kC⟩
    | many => exact ⟨X_TooMany.T, X_TooMany.iC, X_TooMany.tI, ini_TooMany X_TooMany.F X_TooMany.T cC, X_TooMany.hb, X_TooMany.m, X_TooMany.kC⟩
    | large => exact ⟨X_TooLarge.T, X_TooLarge.iC, X_TooLarge.tI, ini_TooLarge X_TooLarge.F X_TooLarge.T cC, X_TooLarge.hb, X_TooLarge.m, X_TooLarge.kC⟩
    | circular => exact ⟨X_Circular.T, X_Circular.iC, X_Circular.tI, ini_Circular X_Circular.F X_Circular.T cC, X_Circular.hb, X_Circular.m, X_Circular.kC⟩
    | inuse => exact ⟨X_NameInUse.T, X_NameInUse.iC, X_NameInUse.tI, ini_NameInUse X_NameInUse.F X_NameInUse.T cC, X_NameInUse.hb, X_NameInUse.m, X_NameInUse.kC⟩
    | full => exact ⟨X_Full.T, X_Full.iC, X_Full.tI, ini_Full X_Full.F X_Full.T cC, X_Full.hb, X_Full.m, X_Full.kC⟩
    | refused => exact ⟨X_Refused.T, X_Refused.iC, X_Refused.tI, ini_Refused X_Refused.F X_Refused.T cC, X_Refused.hb, X_Refused.m, X_Refused.kC⟩
    | unknown => exact ⟨X_UnknownName.T, X_UnknownName.iC, X_UnknownName.tI, ini_UnknownName X_UnknownName.F X_UnknownName.T cC, X_UnknownName.hb, X_UnknownName.m, X_UnknownName.kC⟩
    | nothing => exact ⟨X_NothingLeft.T, X_NothingLeft.iC, X_NothingLeft.tI, ini_NothingLeft X_NothingLeft.F X_NothingLeft.T, X_NothingLeft.hb, X_NothingLeft.m, X_NothingLeft.kC⟩
    cases e with
    | name => 
      cases h
      exact X_InvalidName.kw
    | number => 
      cases h
      exact X_InvalidNumber.kw
    | formula => 
      cases h
      exact X_InvalidFormula.kw
    | shape => 
      cases h
      exact X_InvalidShape.kw
    | row => 
      cases h
      exact X_InvalidRow.kw
    | command => 
      cases h
      exact X_InvalidCommand.kw
    | text => 
      cases h
      exact X_InvalidText.kw
    | deed => 
      cases h
      exact X_InvalidDeed.kw
    | page => 
      cases h
      exact X_InvalidPage.kw
    | many => 
      cases h
      exact X_TooMany.kw
    | large => 
      cases h
      exact X_TooLarge.kw
    | circular => 
      cases h
      exact X_Circular.kw
    | inuse => 
      cases h
      exact X_NameInUse.kw
    | full => 
      cases h
      exact X_Full.kw
    | refused => cases h
    | unknown => 
      cases h
      exact X_UnknownName.kw
    | nothing => cases h
  exact ok_law FL ⟨D_law_bag.cal (ok_bag D_law_bag.fn z_list), cP, cA, like_cal D_law_like.fn D_law_like.bi D_law_like.mg LM, D_law_fields.cal (ok_fx D_law_fields.fn), D_law_classes.cal (ok_cls D_law_classes.fn M z_isinstance)⟩ M ⟨z_range, z_isinstance, z_ValueError, z_LookupError, z_IndexError⟩
end
end Ag

namespace Ag
open PySem L2
theorem walk {l : PySem.W.OpenLaw} {q : Program} {loose : List Str} {XP : (Str → Option Value) → Heap → Prop} {YP : World → Heap → Prop} {d : DefRec} {K : Params → PySem.W.Frag} (hn : l.most = some 63) (hdf : d.params.defaults = [])
    (hY : ∀ (w : World) (h : Heap), YP w h → (K w.params).In h)
    (F : ∀ (w : World) (mg : Str → Option Value) (fa : Addr) (h : Heap), (K w.params).In h → h.Ns mainGlobals mg → mg d.name = some (.ref fa) →
      ∃ fd : FuncData, (∀ (s : Shared) (u : Value), BindsTo s fd ⟨[u], []⟩ [("_law_script", u)]) ∧ ∀ base : Heap, (K w.params).In base → base.Ns mainGlobals mg → FnOk l.prog w (K w.params) mg base CX0 40 fa fd ["_law_script"] (spLawT (K w.params))) :
    PySem.W.WalkO q loose XP YP l.row.toRowW d [] (fun f vs => PySem.call f vs) :=
  L2.walk_of (n := 63) (k := 40) (x := "_law_script") (CX := fun _ => CX0) (sp := fun w => spLawT (K w.params)) hn (by decide) hdf ⟨rfl, by decide, by decide⟩ hY F (fun _ _ a ns hl _ hS => ⟨a, ns, rfl, hS, hl, fun _ => rfl⟩) fun _ _ _ _ _ z => z
theorem law_all {l : PySem.W.OpenLaw} {w : World} {K : PySem.W.Frag} {h : Heap} {mg : Str → Option Value} {fa f : Addr} (X : K.In h) (G : h.Ns mainGlobals mg) (hfa : mg "law" = some (.ref fa)) {od an : Option Addr} {sl : Array (Option Value)} {oc kV dc pm cd ct : Value}
    (a : PySem.W.nsIn K mainGlobals "law" = some (some (.ref f))) (lk : K.lookup f = some ⟨oc, od, .func (PySem.W.fnOf "law" "law" (defArgs s_law) (defBody s_law) (defScope s_law) .none kV dc pm an cd ct), sl⟩) (c : PySem.W.codeIn K cd "law" = true) (k : PySem.W.keepIn K (.ref f) = true)
    (H : ∀ base : Heap, K.In base → base.Ns mainGlobals mg → Fun K "law" "law" s_law f (PySem.W.fnOf "law" "law" (defArgs s_law) (defBody s_law) (defScope s_law) .none kV dc pm an cd ct) → FnOk l.prog w K mg base CX0 40 f (PySem.W.fnOf "law" "law" (defArgs s_law) (defBody s_law) (defScope s_law) .none kV dc pm an cd ct) ["_law_script"] (spLawT K)) :
    ∃ fd : FuncData, (∀ (s : Shared) (v : Value), BindsTo s fd ⟨[v], []⟩ [("_law_script", v)]) ∧ ∀ base : Heap, K.In base → base.Ns mainGlobals mg → FnOk l.prog w K mg base CX0 40 fa fd ["_law_script"] (spLawT K) := by
  have e := hfa.symm.trans (PySem.W.mg_of X G a)
  cases e
  exact ⟨_, fun s v => .of_eq rfl, fun base b1 b2 => H base b1 b2 (fun_mk (st := s_law) lk c k)⟩
end Ag
open PySem PySem.W PyProof.Rows L2
set_option maxRecDepth 100000 in
set_option maxHeartbeats 0 in
theorem PySem.Challenge.cw_addedgrounds_k01_errors_by_themselves_holds : PySem.Challenge.rw_addedgrounds_k01_errors_by_themselves.Holds := by
  w_on; o_law; k_head; (case hw => w_witness2)
  k_fill
  refine Ag.walk (l := PySem.Challenge.rw_addedgrounds_k01_errors_by_themselves) rfl rfl (fun w h Y => PySem.W.kIn_of Y) ?F
  case F =>
    intro w mg fa h KX G hmg
    have D_law_bag := by
      refine' Ag.df_mk (x := "_law_bag") (st := Ag.s_law_bag) (ps := ["_law_script"]) KX G (fun _ _ _ _ _ _ us hl => match us, hl with | [_], _ => rfl) ?a ?l ?c ?k
      (case a => k_is); (case l => k_is); (case c => k_is); (case k => k_is)
    have D_law_pull := by
      refine' Ag.df_mk (x := "_law_pull") (st := Ag.s_law_pull) (ps := ["_law_bag_here", "_law_many"]) KX G (fun _ _ _ _ _ _ us hl => match us, hl with | [_, _], _ => rfl) ?a ?l ?c ?k
      (case a => k_is); (case l => k_is); (case c => k_is); (case k => k_is)
    have D_law_any := by
      refine' Ag.df_mk (x := "_law_any") (st := Ag.s_law_any) (ps := ["_law_bag_here", "_law_things"]) KX G (fun _ _ _ _ _ _ us hl => match us, hl with | [_, _], _ => rfl) ?a ?l ?c ?k
      (case a => k_is); (case l => k_is); (case c => k_is); (case k => k_is)
    have D_law_like := by
      refine' Ag.df_mk (x := "_law_like") (st := Ag.s_law_like) (ps := ["_law_found", "_law_due"]) KX G (fun _ _ _ _ _ _ us hl => match us, hl with | [_, _], _ => rfl) ?a ?l ?c ?k
      (case a => k_is); (case l => k_is); (case c => k_is); (case k => k_is)
    have D_law_fields := by
      refine' Ag.df_mk (x := "_law_fields") (st := Ag.s_law_fields) (ps := ["_law_e"]) KX G (fun _ _ _ _ _ _ us hl => match us, hl with | [_], _ => rfl) ?a ?l ?c ?k
      (case a => k_is); (case l => k_is); (case c => k_is); (case k => k_is)
    have D_law_classes := by
      refine' Ag.df_mk (x := "_law_classes") (st := Ag.s_law_classes) (ps := ["_law_e"]) KX G (fun _ _ _ _ _ _ us hl => match us, hl with | [_], _ => rfl) ?a ?l ?c ?k
      (case a => k_is); (case l => k_is); (case c => k_is); (case k => k_is)
    have z_len : mg "len" = none := by
      refine' PySem.W.mg_none_of KX G ?z
      (case z => k_is)
    have z_int : mg "int" = none := by
      refine' PySem.W.mg_none_of KX G ?z
      (case z => k_is)
    have z_list : mg "list" = none := by
      refine' PySem.W.mg_none_of KX G ?z
      (case z => k_is)
    have z_isinstance : mg "isinstance" = none := by
      refine' PySem.W.mg_none_of KX G ?z
      (case z => k_is)
    have z_dict : mg "dict" = none := by
      refine' PySem.W.mg_none_of KX G ?z
      (case z => k_is)
    have z_tuple : mg "tuple" = none := by
      refine' PySem.W.mg_none_of KX G ?z
      (case z => k_is)
    have z_bool : mg "bool" = none := by
      refine' PySem.W.mg_none_of KX G ?z
      (case z => k_is)
    have z_str : mg "str" = none := by
      refine' PySem.W.mg_none_of KX G ?z
      (case z => k_is)
    have z_all : mg "all" = none := by
      refine' PySem.W.mg_none_of KX G ?z
      (case z => k_is)
    have z_zip : mg "zip" = none := by
      refine' PySem.W.mg_none_of KX G ?z
      (case z => k_is)
    have z_sorted : mg "sorted" = none := by
      refine' PySem.W.mg_none_of KX G ?z
      (case z => k_is)
    have z_range : mg "range" = none := by
      refine' PySem.W.mg_none_of KX G ?z
      (case z => k_is)
    have z_ValueError : mg "ValueError" = none := by
      refine' PySem.W.mg_none_of KX G ?z
      (case z => k_is)
    have z_LookupError : mg "LookupError" = none := by
      refine' PySem.W.mg_none_of KX G ?z
      (case z => k_is)
    have z_IndexError : mg "IndexError" = none := by
      refine' PySem.W.mg_none_of KX G ?z
      (case z => k_is)
    have CP := by
      refine' Ag.copd_mk KX G ?a ?l ?lD ?c ?k
      (case a => k_is); (case l => k_is); (case lD => k_is); (case c => k_is); (case k => k_is)
    have mG := by
      refine' Ag.mgc_mk (x := "GroundError") KX G ?a
      (case a => k_is)
    have mM := by
      refine' Ag.mgc_mk (x := "Missing") KX G ?a
      (case a => k_is)
    have X_InvalidName := by
      refine' Ag.xcb_mk (x := "InvalidName") (q := "InvalidName.__init__") (st := Ag.s_InvalidName_init) (ps := ["self", "value"]) (ks := ["value"]) (g := id) KX G PySem.F.excBase_ValueError PySem.F.store_ValueError (fun _ _ _ _ _ _ us hl => match us, hl with | [_, _], _ => rfl) (fun _ _ _ _ _ _ _ ws hl => match ws, hl with | [_], _ => rfl) ?a ?ini ?ovr ?hd ?sa ?ga ?gg ?exC ?kC ?n1 ?n2 ?n3 ?n4 ?n5 ?n6 ?n7 ?n8 ?n9 ?cl ?sg ?tk ?mo ?iC ?tI ?l ?cI ?kf
      (case a => first | k_is | kernel_rfl); (case ini => first | k_is | kernel_rfl); (case ovr => first | k_is | kernel_rfl); (case hd => first | k_is | kernel_rfl); (case sa => first | k_is | kernel_rfl); (case ga => first | k_is | kernel_rfl); (case gg => first | k_is | kernel_rfl); (case exC => first | k_is | kernel_rfl); (case kC => first | k_is | kernel_rfl); (case n1 => first | k_is | kernel_rfl); (case n2 => first | k_is | kernel_rfl); (case n3 => first | k_is | kernel_rfl); (case n4 => first | k_is | kernel_rfl); (case n5 => first | k_is | kernel_rfl); (case n6 => first | k_is | kernel_rfl); (case n7 => first | k_is | kernel_rfl); (case n8 => first | k_is | kernel_rfl); (case n9 => first | k_is | kernel_rfl); (case cl => first | k_is | kernel_rfl); (case sg => first | k_is | kernel_rfl); (case tk => first | k_is | kernel_rfl); (case mo => first | k_is | kernel_rfl); (case iC => first | k_is | kernel_rfl); (case tI => first | k_is | kernel_rfl); (case l => first | k_is | kernel_rfl); (case cI => first | k_is | kernel_rfl); (case kf => first | k_is | kernel_rfl)
    have X_InvalidNumber := by
      refine' Ag.xcb_mk (x := "InvalidNumber") (q := "InvalidNumber.__init__") (st := Ag.s_InvalidNumber_init) (ps := ["self", "value"]) (ks := ["value"]) (g := id) KX G PySem.F.excBase_ValueError PySem.F.store_ValueError (fun _ _ _ _ _ _ us hl => match us, hl with | [_, _], _ => rfl) (fun _ _ _ _ _ _ _ ws hl => match ws, hl with | [_], _ => rfl) ?a ?ini ?ovr ?hd ?sa ?ga ?gg ?exC ?kC ?n1 ?n2 ?n3 ?n4 ?n5 ?n6 ?n7 ?n8 ?n9 ?cl ?sg ?tk ?mo ?iC ?tI ?l ?cI ?kf
      (case a => first | k_is | kernel_rfl); (case ini => first | k_is | kernel_rfl); (case ovr => first | k_is | kernel_rfl); (case hd => first | k_is | kernel_rfl); (case sa => first | k_is | kernel_rfl); (case ga => first | k_is | kernel_rfl); (case gg => first | k_is | kernel_rfl); (case exC => first | k_is | kernel_rfl); (case kC => first | k_is | kernel_rfl); (case n1 => first | k_is | kernel_rfl); (case n2 => first | k_is | kernel_rfl); (case n3 => first | k_is | kernel_rfl); (case n4 => first | k_is | kernel_rfl); (case n5 => first | k_is | kernel_rfl); (case n6 => first | k_is | kernel_rfl); (case n7 => first | k_is | kernel_rfl); (case n8 => first | k_is | kernel_rfl); (case n9 => first | k_is | kernel_rfl); (case cl => first | k_is | kernel_rfl); (case sg => first | k_is | kernel_rfl); (case tk => first | k_is | kernel_rfl); (case mo => first | k_is | kernel_rfl); (case iC => first | k_is | kernel_rfl); (case tI => first | k_is | kernel_rfl); (case l => first | k_is | kernel_rfl); (case cI => first | k_is | kernel_rfl); (case kf => first | k_is | kernel_rfl)
    have X_InvalidFormula := by
      refine' Ag.xcb_mk (x := "InvalidFormula") (q := "InvalidFormula.__init__") (st := Ag.s_InvalidFormula_init) (ps := ["self", "value"]) (ks := ["value"]) (g := id) KX G PySem.F.excBase_ValueError PySem.F.store_ValueError (fun _ _ _ _ _ _ us hl => match us, hl with | [_, _], _ => rfl) (fun _ _ _ _ _ _ _ ws hl => match ws, hl with | [_], _ => rfl) ?a ?ini ?ovr ?hd ?sa ?ga ?gg ?exC ?kC ?n1 ?n2 ?n3 ?n4 ?n5 ?n6 ?n7 ?n8 ?n9 ?cl ?sg ?tk ?mo ?iC ?tI ?l ?cI ?kf
      (case a => first | k_is | kernel_rfl); (case ini => first | k_is | kernel_rfl); (case ovr => first | k_is | kernel_rfl); (case hd => first | k_is | kernel_rfl); (case sa => first | k_is | kernel_rfl); (case ga => first | k_is | kernel_rfl); (case gg => first | k_is | kernel_rfl); (case exC => first | k_is | kernel_rfl); (case kC => first | k_is | kernel_rfl); (case n1 => first | k_is | kernel_rfl); (case n2 => first | k_is | kernel_rfl); (case n3 => first | k_is | kernel_rfl); (case n4 => first | k_is | kernel_rfl); (case n5 => first | k_is | kernel_rfl); (case n6 => first | k_is | kernel_rfl); (case n7 => first | k_is | kernel_rfl); (case n8 => first | k_is | kernel_rfl); (case n9 => first | k_is | kernel_rfl); (case cl => first | k_is | kernel_rfl); (case sg => first | k_is | kernel_rfl); (case tk => first | k_is | kernel_rfl); (case mo => first | k_is | kernel_rfl); (case iC => first | k_is | kernel_rfl); (case tI => first | k_is | kernel_rfl); (case l => first | k_is | kernel_rfl); (case cI => first | k_is | kernel_rfl); (case kf => first | k_is | kernel_rfl)
    have X_InvalidShape := by
      refine' Ag.xcb_mk (x := "InvalidShape") (q := "InvalidShape.__init__") (st := Ag.s_InvalidShape_init) (ps := ["self", "value"]) (ks := ["value"]) (g := id) KX G PySem.F.excBase_ValueError PySem.F.store_ValueError (fun _ _ _ _ _ _ us hl => match us, hl with | [_, _], _ => rfl) (fun _ _ _ _ _ _ _ ws hl => match ws, hl with | [_], _ => rfl) ?a ?ini ?ovr ?hd ?sa ?ga ?gg ?exC ?kC ?n1 ?n2 ?n3 ?n4 ?n5 ?n6 ?n7 ?n8 ?n9 ?cl ?sg ?tk ?mo ?iC ?tI ?l ?cI ?kf
      (case a => first | k_is | kernel_rfl); (case ini => first | k_is | kernel_rfl); (case ovr => first | k_is | kernel_rfl); (case hd => first | k_is | kernel_rfl); (case sa => first | k_is | kernel_rfl); (case ga => first | k_is | kernel_rfl); (case gg => first | k_is | kernel_rfl); (case exC => first | k_is | kernel_rfl); (case kC => first | k_is | kernel_rfl); (case n1 => first | k_is | kernel_rfl); (case n2 => first | k_is | kernel_rfl); (case n3 => first | k_is | kernel_rfl); (case n4 => first | k_is | kernel_rfl); (case n5 => first | k_is | kernel_rfl); (case n6 => first | k_is | kernel_rfl); (case n7 => first | k_is | kernel_rfl); (case n8 => first | k_is | kernel_rfl); (case n9 => first | k_is | kernel_rfl); (case cl => first | k_is | kernel_rfl); (case sg => first | k_is | kernel_rfl); (case tk => first | k_is | kernel_rfl); (case mo => first | k_is | kernel_rfl); (case iC => first | k_is | kernel_rfl); (case tI => first | k_is | kernel_rfl); (case l => first | k_is | kernel_rfl); (case cI => first | k_is | kernel_rfl); (case kf => first | k_is | kernel_rfl)
    have X_InvalidRow := by
      refine' Ag.xcb_mk (x := "InvalidRow") (q := "InvalidRow.__init__") (st := Ag.s_InvalidRow_init) (ps := ["self", "at"]) (ks := ["at"]) (g := id) KX G PySem.F.excBase_ValueError PySem.F.store_ValueError (fun _ _ _ _ _ _ us hl => match us, hl with | [_, _], _ => rfl) (fun _ _ _ _ _ _ _ ws hl => match ws, hl with | [_], _ => rfl) ?a ?ini ?ovr ?hd ?sa ?ga ?gg ?exC ?kC ?n1 ?n2 ?n3 ?n4 ?n5 ?n6 ?n7 ?n8 ?n9 ?cl ?sg ?tk ?mo ?iC ?tI ?l ?cI ?kf
      (case a => first | k_is | kernel_rfl); (case ini => first | k_is | kernel_rfl); (case ovr => first | k_is | kernel_rfl); (case hd => first | k_is | kernel_rfl); (case sa => first | k_is | kernel_rfl); (case ga => first | k_is | kernel_rfl); (case gg => first | k_is | kernel_rfl); (case exC => first | k_is | kernel_rfl); (case kC => first | k_is | kernel_rfl); (case n1 => first | k_is | kernel_rfl); (case n2 => first | k_is | kernel_rfl); (case n3 => first | k_is | kernel_rfl); (case n4 => first | k_is | kernel_rfl); (case n5 => first | k_is | kernel_rfl); (case n6 => first | k_is | kernel_rfl); (case n7 => first | k_is | kernel_rfl); (case n8 => first | k_is | kernel_rfl); (case n9 => first | k_is | kernel_rfl); (case cl => first | k_is | kernel_rfl); (case sg => first | k_is | kernel_rfl); (case tk => first | k_is | kernel_rfl); (case mo => first | k_is | kernel_rfl); (case iC => first | k_is | kernel_rfl); (case tI => first | k_is | kernel_rfl); (case l => first | k_is | kernel_rfl); (case cI => first | k_is | kernel_rfl); (case kf => first | k_is | kernel_rfl)
    have X_InvalidCommand := by
      refine' Ag.xcb_mk (x := "InvalidCommand") (q := "InvalidCommand.__init__") (st := Ag.s_InvalidCommand_init) (ps := ["self", "path"]) (ks := ["path"]) (g := id) KX G PySem.F.excBase_ValueError PySem.F.store_ValueError (fun _ _ _ _ _ _ us hl => match us, hl with | [_, _], _ => rfl) (fun _ _ _ _ _ _ _ ws hl => match ws, hl with | [_], _ => rfl) ?a ?ini ?ovr ?hd ?sa ?ga ?gg ?exC ?kC ?n1 ?n2 ?n3 ?n4 ?n5 ?n6 ?n7 ?n8 ?n9 ?cl ?sg ?tk ?mo ?iC ?tI ?l ?cI ?kf
      (case a => first | k_is | kernel_rfl); (case ini => first | k_is | kernel_rfl); (case ovr => first | k_is | kernel_rfl); (case hd => first | k_is | kernel_rfl); (case sa => first | k_is | kernel_rfl); (case ga => first | k_is | kernel_rfl); (case gg => first | k_is | kernel_rfl); (case exC => first | k_is | kernel_rfl); (case kC => first | k_is | kernel_rfl); (case n1 => first | k_is | kernel_rfl); (case n2 => first | k_is | kernel_rfl); (case n3 => first | k_is | kernel_rfl); (case n4 => first | k_is | kernel_rfl); (case n5 => first | k_is | kernel_rfl); (case n6 => first | k_is | kernel_rfl); (case n7 => first | k_is | kernel_rfl); (case n8 => first | k_is | kernel_rfl); (case n9 => first | k_is | kernel_rfl); (case cl => first | k_is | kernel_rfl); (case sg => first | k_is | kernel_rfl); (case tk => first | k_is | kernel_rfl); (case mo => first | k_is | kernel_rfl); (case iC => first | k_is | kernel_rfl); (case tI => first | k_is | kernel_rfl); (case l => first | k_is | kernel_rfl); (case cI => first | k_is | kernel_rfl); (case kf => first | k_is | kernel_rfl)
    have X_InvalidText := by
      refine' Ag.xcb_mk (x := "InvalidText") (q := "InvalidText.__init__") (st := Ag.s_InvalidText_init) (ps := ["self", "line"]) (ks := ["line"]) (g := id) KX G PySem.F.excBase_ValueError PySem.F.store_ValueError (fun _ _ _ _ _ _ us hl => match us, hl with | [_, _], _ => rfl) (fun _ _ _ _ _ _ _ ws hl => match ws, hl with | [_], _ => rfl) ?a ?ini ?ovr ?hd ?sa ?ga ?gg ?exC ?kC ?n1 ?n2 ?n3 ?n4 ?n5 ?n6 ?n7 ?n8 ?n9 ?cl ?sg ?tk ?mo ?iC ?tI ?l ?cI ?kf
      (case a => first | k_is | kernel_rfl); (case ini => first | k_is | kernel_rfl); (case ovr => first | k_is | kernel_rfl); (case hd => first | k_is | kernel_rfl); (case sa => first | k_is | kernel_rfl); (case ga => first | k_is | kernel_rfl); (case gg => first | k_is | kernel_rfl); (case exC => first | k_is | kernel_rfl); (case kC => first | k_is | kernel_rfl); (case n1 => first | k_is | kernel_rfl); (case n2 => first | k_is | kernel_rfl); (case n3 => first | k_is | kernel_rfl); (case n4 => first | k_is | kernel_rfl); (case n5 => first | k_is | kernel_rfl); (case n6 => first | k_is | kernel_rfl); (case n7 => first | k_is | kernel_rfl); (case n8 => first | k_is | kernel_rfl); (case n9 => first | k_is | kernel_rfl); (case cl => first | k_is | kernel_rfl); (case sg => first | k_is | kernel_rfl); (case tk => first | k_is | kernel_rfl); (case mo => first | k_is | kernel_rfl); (case iC => first | k_is | kernel_rfl); (case tI => first | k_is | kernel_rfl); (case l => first | k_is | kernel_rfl); (case cI => first | k_is | kernel_rfl); (case kf => first | k_is | kernel_rfl)
    have X_InvalidDeed := by
      refine' Ag.xcb_mk (x := "InvalidDeed") (q := "InvalidDeed.__init__") (st := Ag.s_InvalidDeed_init) (ps := ["self", "at"]) (ks := ["at"]) (g := id) KX G PySem.F.excBase_ValueError PySem.F.store_ValueError (fun _ _ _ _ _ _ us hl => match us, hl with | [_, _], _ => rfl) (fun _ _ _ _ _ _ _ ws hl => match ws, hl with | [_], _ => rfl) ?a ?ini ?ovr ?hd ?sa ?ga ?gg ?exC ?kC ?n1 ?n2 ?n3 ?n4 ?n5 ?n6 ?n7 ?n8 ?n9 ?cl ?sg ?tk ?mo ?iC ?tI ?l ?cI ?kf
      (case a => first | k_is | kernel_rfl); (case ini => first | k_is | kernel_rfl); (case ovr => first | k_is | kernel_rfl); (case hd => first | k_is | kernel_rfl); (case sa => first | k_is | kernel_rfl); (case ga => first | k_is | kernel_rfl); (case gg => first | k_is | kernel_rfl); (case exC => first | k_is | kernel_rfl); (case kC => first | k_is | kernel_rfl); (case n1 => first | k_is | kernel_rfl); (case n2 => first | k_is | kernel_rfl); (case n3 => first | k_is | kernel_rfl); (case n4 => first | k_is | kernel_rfl); (case n5 => first | k_is | kernel_rfl); (case n6 => first | k_is | kernel_rfl); (case n7 => first | k_is | kernel_rfl); (case n8 => first | k_is | kernel_rfl); (case n9 => first | k_is | kernel_rfl); (case cl => first | k_is | kernel_rfl); (case sg => first | k_is | kernel_rfl); (case tk => first | k_is | kernel_rfl); (case mo => first | k_is | kernel_rfl); (case iC => first | k_is | kernel_rfl); (case tI => first | k_is | kernel_rfl); (case l => first | k_is | kernel_rfl); (case cI => first | k_is | kernel_rfl); (case kf => first | k_is | kernel_rfl)
    have X_InvalidPage := by
      refine' Ag.xcb_mk (x := "InvalidPage") (q := "InvalidPage.__init__") (st := Ag.s_InvalidPage_init) (ps := ["self", "line"]) (ks := ["line"]) (g := id) KX G PySem.F.excBase_ValueError PySem.F.store_ValueError (fun _ _ _ _ _ _ us hl => match us, hl with | [_, _], _ => rfl) (fun _ _ _ _ _ _ _ ws hl => match ws, hl with | [_], _ => rfl) ?a ?ini ?ovr ?hd ?sa ?ga ?gg ?exC ?kC ?n1 ?n2 ?n3 ?n4 ?n5 ?n6 ?n7 ?n8 ?n9 ?cl ?sg ?tk ?mo ?iC ?tI ?l ?cI ?kf
      (case a => first | k_is | kernel_rfl); (case ini => first | k_is | kernel_rfl); (case ovr => first | k_is | kernel_rfl); (case hd => first | k_is | kernel_rfl); (case sa => first | k_is | kernel_rfl); (case ga => first | k_is | kernel_rfl); (case gg => first | k_is | kernel_rfl); (case exC => first | k_is | kernel_rfl); (case kC => first | k_is | kernel_rfl); (case n1 => first | k_is | kernel_rfl); (case n2 => first | k_is | kernel_rfl); (case n3 => first | k_is | kernel_rfl); (case n4 => first | k_is | kernel_rfl); (case n5 => first | k_is | kernel_rfl); (case n6 => first | k_is | kernel_rfl); (case n7 => first | k_is | kernel_rfl); (case n8 => first | k_is | kernel_rfl); (case n9 => first | k_is | kernel_rfl); (case cl => first | k_is | kernel_rfl); (case sg => first | k_is | kernel_rfl); (case tk => first | k_is | kernel_rfl); (case mo => first | k_is | kernel_rfl); (case iC => first | k_is | kernel_rfl); (case tI => first | k_is | kernel_rfl); (case l => first | k_is | kernel_rfl); (case cI => first | k_is | kernel_rfl); (case kf => first | k_is | kernel_rfl)
    have X_TooMany := by
      refine' Ag.xcb_mk (x := "TooMany") (q := "TooMany.__init__") (st := Ag.s_TooMany_init) (ps := ["self", "most"]) (ks := ["most"]) (g := id) KX G PySem.F.excBase_ValueError PySem.F.store_ValueError (fun _ _ _ _ _ _ us hl => match us, hl with | [_, _], _ => rfl) (fun _ _ _ _ _ _ _ ws hl => match ws, hl with | [_], _ => rfl) ?a ?ini ?ovr ?hd ?sa ?ga ?gg ?exC ?kC ?n1 ?n2 ?n3 ?n4 ?n5 ?n6 ?n7 ?n8 ?n9 ?cl ?sg ?tk ?mo ?iC ?tI ?l ?cI ?kf
      (case a => first | k_is | kernel_rfl); (case ini => first | k_is | kernel_rfl); (case ovr => first | k_is | kernel_rfl); (case hd => first | k_is | kernel_rfl); (case sa => first | k_is | kernel_rfl); (case ga => first | k_is | kernel_rfl); (case gg => first | k_is | kernel_rfl); (case exC => first | k_is | kernel_rfl); (case kC => first | k_is | kernel_rfl); (case n1 => first | k_is | kernel_rfl); (case n2 => first | k_is | kernel_rfl); (case n3 => first | k_is | kernel_rfl); (case n4 => first | k_is | kernel_rfl); (case n5 => first | k_is | kernel_rfl); (case n6 => first | k_is | kernel_rfl); (case n7 => first | k_is | kernel_rfl); (case n8 => first | k_is | kernel_rfl); (case n9 => first | k_is | kernel_rfl); (case cl => first | k_is | kernel_rfl); (case sg => first | k_is | kernel_rfl); (case tk => first | k_is | kernel_rfl); (case mo => first | k_is | kernel_rfl); (case iC => first | k_is | kernel_rfl); (case tI => first | k_is | kernel_rfl); (case l => first | k_is | kernel_rfl); (case cI => first | k_is | kernel_rfl); (case kf => first | k_is | kernel_rfl)
    have X_TooLarge := by
      refine' Ag.xcb_mk (x := "TooLarge") (q := "TooLarge.__init__") (st := Ag.s_TooLarge_init) (ps := ["self", "most"]) (ks := ["most"]) (g := id) KX G PySem.F.excBase_ValueError PySem.F.store_ValueError (fun _ _ _ _ _ _ us hl => match us, hl with | [_, _], _ => rfl) (fun _ _ _ _ _ _ _ ws hl => match ws, hl with | [_], _ => rfl) ?a ?ini ?ovr ?hd ?sa ?ga ?gg ?exC ?kC ?n1 ?n2 ?n3 ?n4 ?n5 ?n6 ?n7 ?n8 ?n9 ?cl ?sg ?tk ?mo ?iC ?tI ?l ?cI ?kf
      (case a => first | k_is | kernel_rfl); (case ini => first | k_is | kernel_rfl); (case ovr => first | k_is | kernel_rfl); (case hd => first | k_is | kernel_rfl); (case sa => first | k_is | kernel_rfl); (case ga => first | k_is | kernel_rfl); (case gg => first | k_is | kernel_rfl); (case exC => first | k_is | kernel_rfl); (case kC => first | k_is | kernel_rfl); (case n1 => first | k_is | kernel_rfl); (case n2 => first | k_is | kernel_rfl); (case n3 => first | k_is | kernel_rfl); (case n4 => first | k_is | kernel_rfl); (case n5 => first | k_is | kernel_rfl); (case n6 => first | k_is | kernel_rfl); (case n7 => first | k_is | kernel_rfl); (case n8 => first | k_is | kernel_rfl); (case n9 => first | k_is | kernel_rfl); (case cl => first | k_is | kernel_rfl); (case sg => first | k_is | kernel_rfl); (case tk => first | k_is | kernel_rfl); (case mo => first | k_is | kernel_rfl); (case iC => first | k_is | kernel_rfl); (case tI => first | k_is | kernel_rfl); (case l => first | k_is | kernel_rfl); (case cI => first | k_is | kernel_rfl); (case kf => first | k_is | kernel_rfl)
    have X_Circular := by
      refine' Ag.xcb_mk (x := "Circular") (q := "Circular.__init__") (st := Ag.s_Circular_init) (ps := ["self", "name"]) (ks := ["name"]) (g := id) KX G PySem.F.excBase_ValueError PySem.F.store_ValueError (fun _ _ _ _ _ _ us hl => match us, hl with | [_, _], _ => rfl) (fun _ _ _ _ _ _ _ ws hl => match ws, hl with | [_], _ => rfl) ?a ?ini ?ovr ?hd ?sa ?ga ?gg ?exC ?kC ?n1 ?n2 ?n3 ?n4 ?n5 ?n6 ?n7 ?n8 ?n9 ?cl ?sg ?tk ?mo ?iC ?tI ?l ?cI ?kf
      (case a => first | k_is | kernel_rfl); (case ini => first | k_is | kernel_rfl); (case ovr => first | k_is | kernel_rfl); (case hd => first | k_is | kernel_rfl); (case sa => first | k_is | kernel_rfl); (case ga => first | k_is | kernel_rfl); (case gg => first | k_is | kernel_rfl); (case exC => first | k_is | kernel_rfl); (case kC => first | k_is | kernel_rfl); (case n1 => first | k_is | kernel_rfl); (case n2 => first | k_is | kernel_rfl); (case n3 => first | k_is | kernel_rfl); (case n4 => first | k_is | kernel_rfl); (case n5 => first | k_is | kernel_rfl); (case n6 => first | k_is | kernel_rfl); (case n7 => first | k_is | kernel_rfl); (case n8 => first | k_is | kernel_rfl); (case n9 => first | k_is | kernel_rfl); (case cl => first | k_is | kernel_rfl); (case sg => first | k_is | kernel_rfl); (case tk => first | k_is | kernel_rfl); (case mo => first | k_is | kernel_rfl); (case iC => first | k_is | kernel_rfl); (case tI => first | k_is | kernel_rfl); (case l => first | k_is | kernel_rfl); (case cI => first | k_is | kernel_rfl); (case kf => first | k_is | kernel_rfl)
    have X_NameInUse := by
      refine' Ag.xcb_mk (x := "NameInUse") (q := "NameInUse.__init__") (st := Ag.s_NameInUse_init) (ps := ["self", "user"]) (ks := ["user"]) (g := id) KX G PySem.F.excBase_ValueError PySem.F.store_ValueError (fun _ _ _ _ _ _ us hl => match us, hl with | [_, _], _ => rfl) (fun _ _ _ _ _ _ _ ws hl => match ws, hl with | [_], _ => rfl) ?a ?ini ?ovr ?hd ?sa ?ga ?gg ?exC ?kC ?n1 ?n2 ?n3 ?n4 ?n5 ?n6 ?n7 ?n8 ?n9 ?cl ?sg ?tk ?mo ?iC ?tI ?l ?cI ?kf
      (case a => first | k_is | kernel_rfl); (case ini => first | k_is | kernel_rfl); (case ovr => first | k_is | kernel_rfl); (case hd => first | k_is | kernel_rfl); (case sa => first | k_is | kernel_rfl); (case ga => first | k_is | kernel_rfl); (case gg => first | k_is | kernel_rfl); (case exC => first | k_is | kernel_rfl); (case kC => first | k_is | kernel_rfl); (case n1 => first | k_is | kernel_rfl); (case n2 => first | k_is | kernel_rfl); (case n3 => first | k_is | kernel_rfl); (case n4 => first | k_is | kernel_rfl); (case n5 => first | k_is | kernel_rfl); (case n6 => first | k_is | kernel_rfl); (case n7 => first | k_is | kernel_rfl); (case n8 => first | k_is | kernel_rfl); (case n9 => first | k_is | kernel_rfl); (case cl => first | k_is | kernel_rfl); (case sg => first | k_is | kernel_rfl); (case tk => first | k_is | kernel_rfl); (case mo => first | k_is | kernel_rfl); (case iC => first | k_is | kernel_rfl); (case tI => first | k_is | kernel_rfl); (case l => first | k_is | kernel_rfl); (case cI => first | k_is | kernel_rfl); (case kf => first | k_is | kernel_rfl)
    have X_Full := by
      refine' Ag.xcb_mk (x := "Full") (q := "Full.__init__") (st := Ag.s_Full_init) (ps := ["self", "most"]) (ks := ["most"]) (g := id) KX G PySem.F.excBase_ValueError PySem.F.store_ValueError (fun _ _ _ _ _ _ us hl => match us, hl with | [_, _], _ => rfl) (fun _ _ _ _ _ _ _ ws hl => match ws, hl with | [_], _ => rfl) ?a ?ini ?ovr ?hd ?sa ?ga ?gg ?exC ?kC ?n1 ?n2 ?n3 ?n4 ?n5 ?n6 ?n7 ?n8 ?n9 ?cl ?sg ?tk ?mo ?iC ?tI ?l ?cI ?kf
      (case a => first | k_is | kernel_rfl); (case ini => first | k_is | kernel_rfl); (case ovr => first | k_is | kernel_rfl); (case hd => first | k_is | kernel_rfl); (case sa => first | k_is | kernel_rfl); (case ga => first | k_is | kernel_rfl); (case gg => first | k_is | kernel_rfl); (case exC => first | k_is | kernel_rfl); (case kC => first | k_is | kernel_rfl); (case n1 => first | k_is | kernel_rfl); (case n2 => first | k_is | kernel_rfl); (case n3 => first | k_is | kernel_rfl); (case n4 => first | k_is | kernel_rfl); (case n5 => first | k_is | kernel_rfl); (case n6 => first | k_is | kernel_rfl); (case n7 => first | k_is | kernel_rfl); (case n8 => first | k_is | kernel_rfl); (case n9 => first | k_is | kernel_rfl); (case cl => first | k_is | kernel_rfl); (case sg => first | k_is | kernel_rfl); (case tk => first | k_is | kernel_rfl); (case mo => first | k_is | kernel_rfl); (case iC => first | k_is | kernel_rfl); (case tI => first | k_is | kernel_rfl); (case l => first | k_is | kernel_rfl); (case cI => first | k_is | kernel_rfl); (case kf => first | k_is | kernel_rfl)
    have X_Refused := by
      refine' Ag.xcb_mk (x := "Refused") (q := "Refused.__init__") (st := Ag.s_Refused_init) (ps := ["self", "path", "reason"]) (ks := ["reason", "path"]) (g := Ag.swp) KX G PySem.F.excBase_ValueError PySem.F.store_ValueError (fun _ _ _ _ _ _ us hl => match us, hl with | [_, _, _], _ => rfl) (fun _ _ _ _ _ _ _ ws hl => match ws, hl with | [_, _], _ => rfl) ?a ?ini ?ovr ?hd ?sa ?ga ?gg ?exC ?kC ?n1 ?n2 ?n3 ?n4 ?n5 ?n6 ?n7 ?n8 ?n9 ?cl ?sg ?tk ?mo ?iC ?tI ?l ?cI ?kf
      (case a => first | k_is | kernel_rfl); (case ini => first | k_is | kernel_rfl); (case ovr => first | k_is | kernel_rfl); (case hd => first | k_is | kernel_rfl); (case sa => first | k_is | kernel_rfl); (case ga => first | k_is | kernel_rfl); (case gg => first | k_is | kernel_rfl); (case exC => first | k_is | kernel_rfl); (case kC => first | k_is | kernel_rfl); (case n1 => first | k_is | kernel_rfl); (case n2 => first | k_is | kernel_rfl); (case n3 => first | k_is | kernel_rfl); (case n4 => first | k_is | kernel_rfl); (case n5 => first | k_is | kernel_rfl); (case n6 => first | k_is | kernel_rfl); (case n7 => first | k_is | kernel_rfl); (case n8 => first | k_is | kernel_rfl); (case n9 => first | k_is | kernel_rfl); (case cl => first | k_is | kernel_rfl); (case sg => first | k_is | kernel_rfl); (case tk => first | k_is | kernel_rfl); (case mo => first | k_is | kernel_rfl); (case iC => first | k_is | kernel_rfl); (case tI => first | k_is | kernel_rfl); (case l => first | k_is | kernel_rfl); (case cI => first | k_is | kernel_rfl); (case kf => first | k_is | kernel_rfl)
    have X_UnknownName := by
      refine' Ag.xcb_mk (x := "UnknownName") (q := "UnknownName.__init__") (st := Ag.s_UnknownName_init) (ps := ["self", "value"]) (ks := ["value"]) (g := id) KX G PySem.F.excBase_LookupError PySem.F.store_LookupError (fun _ _ _ _ _ _ us hl => match us, hl with | [_, _], _ => rfl) (fun _ _ _ _ _ _ _ ws hl => match ws, hl with | [_], _ => rfl) ?a ?ini ?ovr ?hd ?sa ?ga ?gg ?exC ?kC ?n1 ?n2 ?n3 ?n4 ?n5 ?n6 ?n7 ?n8 ?n9 ?cl ?sg ?tk ?mo ?iC ?tI ?l ?cI ?kf
      (case a => first | k_is | kernel_rfl); (case ini => first | k_is | kernel_rfl); (case ovr => first | k_is | kernel_rfl); (case hd => first | k_is | kernel_rfl); (case sa => first | k_is | kernel_rfl); (case ga => first | k_is | kernel_rfl); (case gg => first | k_is | kernel_rfl); (case exC => first | k_is | kernel_rfl); (case kC => first | k_is | kernel_rfl); (case n1 => first | k_is | kernel_rfl); (case n2 => first | k_is | kernel_rfl); (case n3 => first | k_is | kernel_rfl); (case n4 => first | k_is | kernel_rfl); (case n5 => first | k_is | kernel_rfl); (case n6 => first | k_is | kernel_rfl); (case n7 => first | k_is | kernel_rfl); (case n8 => first | k_is | kernel_rfl); (case n9 => first | k_is | kernel_rfl); (case cl => first | k_is | kernel_rfl); (case sg => first | k_is | kernel_rfl); (case tk => first | k_is | kernel_rfl); (case mo => first | k_is | kernel_rfl); (case iC => first | k_is | kernel_rfl); (case tI => first | k_is | kernel_rfl); (case l => first | k_is | kernel_rfl); (case cI => first | k_is | kernel_rfl); (case kf => first | k_is | kernel_rfl)
    have X_NothingLeft := by
      refine' Ag.xcb_mk (x := "NothingLeft") (q := "NothingLeft.__init__") (st := Ag.s_NothingLeft_init) (ps := ["self"]) (ks := []) (g := id) KX G PySem.F.excBase_IndexError PySem.F.store_IndexError (fun _ _ _ _ _ _ us hl => match us, hl with | [_], _ => rfl) (fun _ _ _ _ _ _ _ ws hl => match ws, hl with | [], _ => rfl) ?a ?ini ?ovr ?hd ?sa ?ga ?gg ?exC ?kC ?n1 ?n2 ?n3 ?n4 ?n5 ?n6 ?n7 ?n8 ?n9 ?cl ?sg ?tk ?mo ?iC ?tI ?l ?cI ?kf
      (case a => first | k_is | kernel_rfl); (case ini => first | k_is | kernel_rfl); (case ovr => first | k_is | kernel_rfl); (case hd => first | k_is | kernel_rfl); (case sa => first | k_is | kernel_rfl); (case ga => first | k_is | kernel_rfl); (case gg => first | k_is | kernel_rfl); (case exC => first | k_is | kernel_rfl); (case kC => first | k_is | kernel_rfl); (case n1 => first | k_is | kernel_rfl); (case n2 => first | k_is | kernel_rfl); (case n3 => first | k_is | kernel_rfl); (case n4 => first | k_is | kernel_rfl); (case n5 => first | k_is | kernel_rfl); (case n6 => first | k_is | kernel_rfl); (case n7 => first | k_is | kernel_rfl); (case n8 => first | k_is | kernel_rfl); (case n9 => first | k_is | kernel_rfl); (case cl => first | k_is | kernel_rfl); (case sg => first | k_is | kernel_rfl); (case tk => first | k_is | kernel_rfl); (case mo => first | k_is | kernel_rfl); (case iC => first | k_is | kernel_rfl); (case tI => first | k_is | kernel_rfl); (case l => first | k_is | kernel_rfl); (case cI => first | k_is | kernel_rfl); (case kf => first | k_is | kernel_rfl)
    refine' Ag.law_all KX G hmg ?a ?l ?c ?k ?H
    (case a => k_is); (case l => k_is); (case c => k_is); (case k => k_is)
    case H =>
      intro base _ _ FL
      refine Ag.law_main FL D_law_bag D_law_pull D_law_any D_law_like D_law_fields D_law_classes z_len z_int z_list z_isinstance z_dict z_tuple z_bool z_str z_all z_zip z_sorted z_range z_ValueError z_LookupError z_IndexError X_InvalidName X_InvalidNumber X_InvalidFormula X_InvalidShape X_InvalidRow X_InvalidCommand X_InvalidText X_InvalidDeed X_InvalidPage X_TooMany X_TooLarge X_Circular X_NameInUse X_Full X_Refused X_UnknownName X_NothingLeft CP mG mM ?kit ?kG ?kV ?kM ?kL ?kI
      (case kit => intro e e'; cases e <;> cases e' <;> (first | kernel_rfl | rfl))
      (case kG => intro e; cases e <;> (first | kernel_rfl | rfl))
      (case kV => intro e; cases e <;> (first | kernel_rfl | rfl))
      (case kM => intro e; cases e <;> (first | kernel_rfl | rfl))
      (case kL => intro e; cases e <;> (first | kernel_rfl | rfl))
      (case kI => intro e; cases e <;> (first | kernel_rfl | rfl))
