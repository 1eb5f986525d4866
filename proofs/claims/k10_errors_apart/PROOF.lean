import PyProof.Rows.All
import Wide.All
import OpenK.AllK
import Wide.FinOn
import HandS.ForMost
import HandS.TupAny
import HandS.TupLe
import HandS.Deep
import HandS.Property
import HandS.OwnEq
import HandS.IsInst
import HandS.More
import HandS.Steps
import HandS.Walk
import KE.GoesMore
import KE.GoesEnum
import PyProof.EnumMake
import HandS.Dict
import PyProof.SeqIndex
import HandS.Iter
import KE.KDictWalk
import HandS.Codes
import HandS.Style
import KE.SortData
import KE.DataMinMax
import PyProof.Rows.RowBridgeK
import HandS.ExcInit
import HandS.TryOnly
import HandS.WordsExc
import HandS.ExcCtx
import HandS.Conv
import HandS.SetFor
import HandS.Strs
import KE.KIndexOf
import HandS.NoneIn
import HandS.TupMul
import KE.KDictSum
import KE.KDictCopyH
import PyProof.Transfer
import HandS.Wide
import HandS.NamedTupGet
import PyProof.FactsLen
import HandS.TryMany
import HandS.ExcOwn
import HandS.HotCalls
import PyProof.StrOps2
import HandS.Text
import HandS.ExcIs
import HandS.Flow
import HandS.ExcField
import KE.KExcIs
import PyProof.Rows.SumAny
import HandS.CallLocal
import KE.KeyNested
import HandS.ExcInitHot
import PySem.Challenge.RW_placetrade_k10_errors_apart
set_option Elab.async false
set_option linter.all false
set_option maxRecDepth 10000000
namespace Pt
open PySem PySem.Spec PyProof.Rows L2
def SqF (H : Hp) (a : Addr) (xs : List V) : Prop := ∃ o, H a = some (.frz o (.tup xs)) ∧ o.dict = none
theorem SqF.sq {K : PySem.W.Frag} {H : Hp} {a : Addr} {xs : List V} (h : SqF H a xs) : SqT K H a xs := let ⟨o, e, _⟩ := h; .inl (.inr ⟨o, e⟩)
def FzF (H : Hp) (a : Addr) (xs : List V) : Prop := ∃ o, H a = some (.frz o (.lst xs))
theorem FzF.sq {K : PySem.W.Frag} {H : Hp} {a : Addr} {xs : List V} (h : FzF H a xs) : SqL K H a xs := .inl (.inr h)
mutual
inductive Td (K : PySem.W.Frag) (H : Hp) : V → PyData → Prop
  | non : Td K H .non .none
  | bl (b : Bool) : Td K H (.bl b) (.bool b)
  | int (i : Int) : Td K H (.int i) (.int i)
  | str (x : Str) : Td K H (.str x) (.str x)
  | tup {a : Addr} {xs : List V} {ds : List PyData} : SqF H a xs → TdAll K H xs ds → Td K H (.ref a) (.tuple ds)
  | lst {a : Addr} {xs : List V} {ds : List PyData} : FzF H a xs → TdAll K H xs ds → Td K H (.ref a) (.list ds)
inductive TdAll (K : PySem.W.Frag) (H : Hp) : List V → List PyData → Prop
  | nil : TdAll K H [] []
  | cons {v : V} {vs : List V} {d : PyData} {ds : List PyData} : Td K H v d → TdAll K H vs ds → TdAll K H (v :: vs) (d :: ds)
end
variable {K : PySem.W.Frag} {C : Addr} {H H' H1 H2 : Hp} {v w x y : V} {vs : List V} {d e : PyData} {ds es : List PyData}
def Tx (H H' : Hp) : Prop := ∀ a o u, H a = some (.frz o u) → H' a = some (.frz o u)
theorem Tx.of (e : Same H H') : Tx H H' := fun a o u h => e _ _ h
theorem Tx.trans (a : Tx H H1) (b : Tx H1 H2) : Tx H H2 := fun p o u h => b p o u (a p o u h)
theorem Tx.fzF (t : Tx H H') {a : Addr} {xs : List V} (h : FzF H a xs) : FzF H' a xs := let ⟨o, e⟩ := h; ⟨o, t _ _ _ e⟩
theorem Tx.sqF (t : Tx H H') {a : Addr} {xs : List V} (h : SqF H a xs) : SqF H' a xs := let ⟨o, e, n⟩ := h; ⟨o, t _ _ _ e, n⟩
mutual
theorem Td.mono (t : Tx H H') : ∀ (d : PyData) (v : V), Td K H v d → Td K H' v d
  | .none, _, h => by cases h; exact .non
  | .bool b, _, h => by cases h; exact .bl b
  | .int i, _, h => by cases h; exact .int i
  | .str x, _, h => by cases h; exact .str x
  | .list ds, _, h => by
    cases h with
    | lst s a => exact .lst (t.fzF s) (TdAll.mono t ds _ a)
  | .tuple ds, _, h => by
    cases h with
    | tup s a => exact .tup (t.sqF s) (TdAll.mono t ds _ a)
  | .dict _, _, h => by cases h
theorem TdAll.mono (t : Tx H H') : ∀ (ds : List PyData) (vs : List V), TdAll K H vs ds → TdAll K H' vs ds
  | [], _, h => by cases h; exact .nil
  | d :: ds, _, h => by
    cases h with
    | cons a b => exact .cons (Td.mono t d _ a) (TdAll.mono t ds _ b)
end
mutual
theorem Td.dp : ∀ (d : PyData) (v : V), Td K H v d → Dp K H v d
  | .none, _, h => by cases h; exact .non
  | .bool b, _, h => by cases h; exact .bl b
  | .int i, _, h => by cases h; exact .int i
  | .str x, _, h => by cases h; exact .str x
  | .list ds, _, h => by
    cases h with
    | lst s a => exact .lst s.sq (TdAll.dp ds _ a)
  | .tuple ds, _, h => by
    cases h with
    | tup s a => exact .tup s.sq (TdAll.dp ds _ a)
  | .dict _, _, h => by cases h
theorem TdAll.dp : ∀ (ds : List PyData) (vs : List V), TdAll K H vs ds → DpAll K H vs ds
  | [], _, h => by cases h; exact .nil
  | d :: ds, _, h => by
    cases h with
    | cons a b => exact .cons (Td.dp d _ a) (TdAll.dp ds _ b)
end
theorem TdAll.length : ∀ {vs : List V} {ds : List PyData}, TdAll K H vs ds → vs.length = ds.length
  | _, _, .nil => rfl
  | _, _, .cons _ t => congrArg (· + 1) (TdAll.length t)
theorem TdAll.append : ∀ {vs ws : List V} {ds es : List PyData}, TdAll K H vs ds → TdAll K H ws es → TdAll K H (vs ++ ws) (ds ++ es)
  | _, _, _, _, .nil, s => s
  | _, _, _, _, .cons r t, s => .cons r (TdAll.append t s)
theorem TdAll.take : ∀ {vs : List V} {ds : List PyData} (n : Nat), TdAll K H vs ds → TdAll K H (vs.take n) (ds.take n)
  | _, _, 0, _ => .nil
  | _, _, _ + 1, .nil => .nil
  | _, _, n + 1, .cons r t => .cons r (TdAll.take n t)
theorem TdAll.drop : ∀ {vs : List V} {ds : List PyData} (n : Nat), TdAll K H vs ds → TdAll K H (vs.drop n) (ds.drop n)
  | _, _, 0, r => r
  | _, _, _ + 1, .nil => .nil
  | _, _, n + 1, .cons _ t => TdAll.drop n t
theorem TdAll.get : ∀ {vs : List V} {ds : List PyData} {i : Nat} {d : PyData}, TdAll K H vs ds → ds[i]? = some d → ∃ v, vs[i]? = some v ∧ Td K H v d
  | _, _, _, _, .nil, e => by simp at e
  | _, _, 0, _, .cons r _, e => by simp at e; subst e; exact ⟨_, rfl, r⟩
  | _, _, i + 1, _, .cons _ t, e => by
    obtain ⟨v, h1, h2⟩ := TdAll.get (i := i) t (by simpa using e)
    exact ⟨v, by simpa using h1, h2⟩
theorem TdAll.get' : ∀ {vs : List V} {ds : List PyData} {i : Nat} {v : V}, TdAll K H vs ds → vs[i]? = some v → ∃ d, ds[i]? = some d ∧ Td K H v d
  | _, _, _, _, .nil, e => by simp at e
  | _, _, 0, _, .cons r _, e => by simp at e; subst e; exact ⟨_, rfl, r⟩
  | _, _, i + 1, _, .cons _ t, e => by
    obtain ⟨v, h1, h2⟩ := TdAll.get' (i := i) t (by simpa using e)
    exact ⟨v, by simpa using h1, h2⟩
theorem TdAll.set : ∀ {vs : List V} {ds : List PyData} (i : Nat) {v : V} {d : PyData}, TdAll K H vs ds → Td K H v d → TdAll K H (vs.set i v) (ds.set i d)
  | _, _, _, _, _, .nil, _ => .nil
  | _, _, 0, _, _, .cons _ t, h => .cons h t
  | _, _, i + 1, _, _, .cons r t, h => .cons r (TdAll.set i t h)
theorem Td.int_of {i : Int} (h : Td K H v (.int i)) : v = .int i := by cases h; rfl
theorem Td.bl_of {b : Bool} (h : Td K H v (.bool b)) : v = .bl b := by cases h; rfl
theorem Td.non_of (h : Td K H v .none) : v = .non := by cases h; rfl
theorem Td.str_of {z : Str} (h : Td K H v (.str z)) : v = .str z := by cases h; rfl
theorem Td.lst_of (h : Td K H v (.list ds)) : ∃ a xs, v = .ref a ∧ FzF H a xs ∧ TdAll K H xs ds := by
  cases h with
  | lst s a => exact ⟨_, _, rfl, s, a⟩
theorem Td.tup_of (h : Td K H v (.tuple ds)) : ∃ a xs, v = .ref a ∧ SqF H a xs ∧ TdAll K H xs ds := by
  cases h with
  | tup s a => exact ⟨_, _, rfl, s, a⟩
def iL (l : List Int) : List PyData := l.map .int
abbrev row (l : List Int) : PyData := .tuple (iL l)
theorem TdAll.iL_of : ∀ {l : List Int} {vs : List V}, TdAll K H vs (iL l) → vs = l.map V.int
  | [], _, h => by cases h; rfl
  | i :: r, _, h => by
    cases h with
    | cons a b => rw [a.int_of, TdAll.iL_of b]; rfl
theorem TdAll.of_iL : ∀ (l : List Int), TdAll K H (l.map V.int) (iL l)
  | [] => .nil
  | i :: r => .cons (.int i) (TdAll.of_iL r)
theorem iL_len (l : List Int) : (iL l).length = l.length := List.length_map _
theorem iL_get (l : List Int) (i : Nat) : (iL l)[i]? = l[i]?.map .int := List.getElem?_map
theorem iL_app (l m : List Int) : iL (l ++ m) = iL l ++ iL m := List.map_append
def pairD (p : Int × Int) : PyData := .tuple [.int p.1, .int p.2]
def pairsD (ps : List (Int × Int)) : PyData := .tuple (ps.map pairD)
inductive Ct where
  | u
  | d (d : PyData)
  | r (v : V)
  | l (p : Addr) (ds : List PyData)
  | s (p : Addr) (ds : List PyData)
  | z (p : Addr) (ds : List PyData)
  | h (p c : Addr)
  | t (n : Int) (ps : List (Int × Int))
  | o (p : Addr) (u : HO) (ks : List (Addr × List V))
  | k (p : Addr) (u : HO) (ks : List (Addr × List V))
  | y (p : Addr) (ts : List (Int × List (Int × Int)))
  | n (L p q : Addr) (n : Int) (ps : List (Int × Int)) (ds : List PyData)
def lflds (t : V) (q : Addr) : List (Str × V) := [("_trade", t), ("_rows", .ref q)]
def flds (n : Int) (q : Addr) : List (Str × V) := [("_letters", .int n), ("_pairs", .ref q)]
def Fz (K : PySem.W.Frag) (H : Hp) (a : Addr) (xs : List V) : Prop :=
  (∃ o, H a = some (.frz o (.lst xs))) ∨
    ∃ (o : Obj) (its : Array Value) (n : Nat), K.lookup a = some o ∧ o.cls = .type "list" ∧ o.dict = none ∧ o.data = .seq its n ∧ its.size ≤ sizeLine ∧ Vals xs its.toList
theorem Fz.sq {a : Addr} {xs : List V} (h : Fz K H a xs) : SqL K H a xs := by
  rcases h with ⟨o, h⟩ | h
  · exact .inl (.inr ⟨o, h⟩)
  · exact .inr h
def Wr : HO → Prop
  | .lst _ => True
  | .ext _ => True
  | .dK _ => True
  | _ => False
def TrAll (K : PySem.W.Frag) (C : Addr) (H : Hp) : List V → List (Int × List (Int × Int)) → Prop
  | [], [] => True
  | v :: vs, t :: ts => (∃ p dx q, v = .ref p ∧ H p = some (.ins C dx (flds t.1 q)) ∧ Td K H (.ref q) (pairsD t.2)) ∧ TrAll K C H vs ts
  | _, _ => False
theorem TrAll.mono {C : Addr} (e : Tx H H') (f : ∀ a o, H a = some o → ¬ Wr o → H' a = some o) : ∀ {vs : List V} {ts : List (Int × List (Int × Int))}, TrAll K C H vs ts → TrAll K C H' vs ts
  | [], [], _ => True.intro
  | _ :: _, _ :: _, ⟨⟨p, dx, q, a, b, c⟩, r⟩ => ⟨⟨p, dx, q, a, f _ _ b (fun z => z), Td.mono e _ _ c⟩, TrAll.mono e f r⟩
  | [], _ :: _, h => h.elim
  | _ :: _, [], h => h.elim
theorem TrAll.length {C : Addr} : ∀ {vs : List V} {ts : List (Int × List (Int × Int))}, TrAll K C H vs ts → vs.length = ts.length
  | [], [], _ => rfl
  | _ :: _, _ :: _, ⟨_, r⟩ => congrArg (· + 1) (TrAll.length r)
  | [], _ :: _, h => h.elim
  | _ :: _, [], h => h.elim
theorem TrAll.snoc {C : Addr} {v : V} {t : Int × List (Int × Int)} (hv : ∃ p dx q, v = .ref p ∧ H p = some (.ins C dx (flds t.1 q)) ∧ Td K H (.ref q) (pairsD t.2)) : ∀ {vs : List V} {ts : List (Int × List (Int × Int))}, TrAll K C H vs ts → TrAll K C H (vs ++ [v]) (ts ++ [t])
  | [], [], _ => ⟨hv, True.intro⟩
  | _ :: _, _ :: _, ⟨a, r⟩ => ⟨a, TrAll.snoc hv r⟩
  | [], _ :: _, h => h.elim
  | _ :: _, [], h => h.elim
theorem TrAll.get {C : Addr} : ∀ {vs : List V} {ts : List (Int × List (Int × Int))} {k : Nat} {v : V}, TrAll K C H vs ts → vs[k]? = some v → ∃ t, ts[k]? = some t ∧ ∃ p dx q, v = .ref p ∧ H p = some (.ins C dx (flds t.1 q)) ∧ Td K H (.ref q) (pairsD t.2)
  | _ :: _, t :: _, 0, _, ⟨a, _⟩, e => ⟨t, rfl, by cases e; exact a⟩
  | _ :: _, _ :: _, k + 1, _, ⟨_, r⟩, e => TrAll.get (k := k) r e
  | [], _, _, _, _, e => by simp at e
  | _ :: _, [], _, _, h, _ => h.elim
def CtAt (K : PySem.W.Frag) (C : Addr) (H : Hp) (v : V) : Ct → Prop
  | .u => True
  | .d d => Td K H v d
  | .r w => v = w
  | .l p ds => v = .ref p ∧ ∃ xs, H p = some (.lst xs) ∧ TdAll K H xs ds
  | .s p ds => v = .ref p ∧ ∃ xs, H p = some (.lst xs) ∧ TdAll K H xs ds
  | .z p ds => v = .ref p ∧ ∃ xs, Fz K H p xs ∧ TdAll K H xs ds
  | .h p c => v = .ref p ∧ p ≠ c ∧ ∃ (s k : Int) (cells : List Int), H p = some (.lst [.int s, .ref c, .int k]) ∧ H c = some (.lst (cells.map V.int)) ∧ cells.length ≤ 63
  | .t n ps => ∃ p dx q, v = .ref p ∧ H p = some (.ins C dx (flds n q)) ∧ Td K H (.ref q) (pairsD ps)
  | .o p u ks => v = .ref p ∧ H p = some u ∧ Wr u ∧ ∀ e ∈ ks, SqF H e.1 e.2
  | .k p u ks => v = .ref p ∧ (∃ o, H p = some (.frz o u)) ∧ ∀ e ∈ ks, SqF H e.1 e.2
  | .y p ts => v = .ref p ∧ ∃ xs, H p = some (.lst xs) ∧ TrAll K C H xs ts
  | .n L p q n ps ds => v = .ref p ∧ (∃ dx t, H p = some (.ins L dx (lflds (.ref t) q)) ∧ ∃ dy r, H t = some (.ins C dy (flds n r)) ∧ Td K H (.ref r) (pairsD ps)) ∧ ∃ xs, H q = some (.lst xs) ∧ TdAll K H xs ds
def Ct.adr : Ct → List Addr
  | .l p _ => [p]
  | .s p _ => [p]
  | .h p c => [p, c]
  | .o p _ _ => [p]
  | .y p _ => [p]
  | .n _ _ q _ _ _ => [q]
  | _ => []
def Ct.own : Ct → Bool
  | .l _ _ => true
  | .h _ _ => true
  | .o _ _ _ => true
  | .y _ _ => true
  | .n _ _ _ _ _ _ => true
  | _ => false
def Fr (T : List Addr) (H H' : Hp) : Prop := ∀ a o, H a = some o → a ∉ T → H' a = some o
def LT (T : List Addr) (H : Hp) : Prop := ∀ a ∈ T, ∃ u, H a = some u ∧ Wr u
theorem Fr.of (e : Same H H') (T : List Addr) : Fr T H H' := fun a o h _ => e a o h
theorem Fr.same (f : Fr [] H H') : Same H H' := fun a o h => f a o h (by simp)
theorem Fr.trans {T : List Addr} (f : Fr T H H1) (g : Fr T H1 H2) : Fr T H H2 := fun a o h n => g a o (f a o h n) n
theorem Fr.upd {p : Addr} {o : HO} : Fr [p] H (upd H p o) := fun a u h n => by rw [upd_ne (by simpa using n)]; exact h
theorem LT.nil : LT [] H := fun a h => by simp at h
theorem LT.one {p : Addr} {xs : List V} (h : H p = some (.lst xs)) : LT [p] H := fun a m => ⟨.lst xs, by rw [show a = p by simpa using m]; exact h, True.intro⟩
theorem LT.oneW {p : Addr} {u : HO} (h : H p = some u) (w : Wr u) : LT [p] H := fun a m => ⟨u, by rw [show a = p by simpa using m]; exact h, w⟩
theorem LT.ne {T : List Addr} (l : LT T H) {a : Addr} {o : HO} (h : H a = some o) (n : ¬ Wr o) : a ∉ T := fun m => by
  obtain ⟨u, e, z⟩ := l a m
  rw [h] at e
  cases e
  exact n z
theorem Tx.fr {T : List Addr} (l : LT T H) (f : Fr T H H') : Tx H H' := fun a o u r => f _ _ r (l.ne r fun z => z)
theorem CtAt.fr {T : List Addr} (l : LT T H) (f : Fr T H H') : ∀ {c : Ct}, (∀ a ∈ c.adr, a ∉ T) → CtAt K C H v c → CtAt K C H' v c
  | .u, _, _ => True.intro
  | .d d, _, h => Td.mono (.fr l f) d v h
  | .r _, _, h => h
  | .l q ds, n, ⟨a, ys, b, c⟩ => ⟨a, ys, f _ _ b (n q (by simp [Ct.adr])), TdAll.mono (.fr l f) ds ys c⟩
  | .s q ds, n, ⟨a, ys, b, c⟩ => ⟨a, ys, f _ _ b (n q (by simp [Ct.adr])), TdAll.mono (.fr l f) ds ys c⟩
  | .z q ds, n, ⟨a, ys, b, c⟩ => ⟨a, ys, by
      rcases b with ⟨o, b⟩ | b
      · exact .inl ⟨o, f _ _ b (l.ne b fun z => z)⟩
      · exact .inr b, TdAll.mono (.fr l f) ds ys c⟩
  | .h q c, n, ⟨a, ne, s, k, cs, h1, h2, h3⟩ => ⟨a, ne, s, k, cs, f _ _ h1 (n q (by simp [Ct.adr])), f _ _ h2 (n c (by simp [Ct.adr])), h3⟩
  | .t m ps, _, ⟨q, dx, r, a, b, c⟩ => ⟨q, dx, r, a, f _ _ b (l.ne b fun z => z), Td.mono (.fr l f) _ _ c⟩
  | .o q u ks, n, ⟨a, b, z, k⟩ => ⟨a, f _ _ b (n q (by simp [Ct.adr])), z, fun e m => (Tx.fr l f).sqF (k e m)⟩
  | .k q u ks, _, ⟨a, ⟨o, b⟩, k⟩ => ⟨a, ⟨o, Tx.fr l f _ _ _ b⟩, fun e m => (Tx.fr l f).sqF (k e m)⟩
  | .y q ts, n, ⟨a, ys, b, c⟩ => ⟨a, ys, f _ _ b (n q (by simp [Ct.adr])), c.mono (.fr l f) fun a o r z => f _ _ r (l.ne r z)⟩
  | .n L p q m ps ds, n, ⟨a, ⟨dx, t, b1, dy, r, b2, b3⟩, ys, b, c⟩ => ⟨a, ⟨dx, t, f _ _ b1 (l.ne b1 fun z => z), dy, r, f _ _ b2 (l.ne b2 fun z => z), Td.mono (.fr l f) _ _ b3⟩, ys, f _ _ b (n q (by simp [Ct.adr])), TdAll.mono (.fr l f) ds ys c⟩
theorem CtAt.mono (e : Same H H') {c : Ct} (h : CtAt K C H v c) : CtAt K C H' v c := h.fr LT.nil (Fr.of e []) fun a _ m => by simp at m
theorem CtAt.there : ∀ {c : Ct} {a : Addr}, CtAt K C H v c → a ∈ c.adr → ∃ u, H a = some u ∧ Wr u
  | .l p ds, a, ⟨_, xs, b, _⟩, h => by
    have e : a = p := by simpa [Ct.adr] using h
    exact ⟨.lst xs, e ▸ b, True.intro⟩
  | .s p ds, a, ⟨_, xs, b, _⟩, h => by
    have e : a = p := by simpa [Ct.adr] using h
    exact ⟨.lst xs, e ▸ b, True.intro⟩
  | .h p c, a, ⟨_, _, s, k, cs, h1, h2, _⟩, h => by
    have e : a = p ∨ a = c := by simpa [Ct.adr] using h
    rcases e with e | e
    · exact ⟨.lst _, e ▸ h1, True.intro⟩
    · exact ⟨.lst _, e ▸ h2, True.intro⟩
  | .o p u ks, a, ⟨_, b, z, _⟩, h => by
    have e : a = p := by simpa [Ct.adr] using h
    exact ⟨_, e ▸ b, z⟩
  | .u, a, _, h => by simp [Ct.adr] at h
  | .d _, a, _, h => by simp [Ct.adr] at h
  | .r _, a, _, h => by simp [Ct.adr] at h
  | .z _ _, a, _, h => by simp [Ct.adr] at h
  | .t _ _, a, _, h => by simp [Ct.adr] at h
  | .k _ _ _, a, _, h => by simp [Ct.adr] at h
  | .y p ts, a, ⟨_, xs, b, _⟩, h => by
    have e : a = p := by simpa [Ct.adr] using h
    exact ⟨.lst xs, e ▸ b, True.intro⟩
  | .n L p q n ps ds, a, ⟨_, _, xs, b, _⟩, h => by
    have e : a = q := by simpa [Ct.adr] using h
    exact ⟨.lst xs, e ▸ b, True.intro⟩
def SlotAt (K : PySem.W.Frag) (C : Addr) (H : Hp) (o : Option (Option V)) : Ct → Prop
  | .u => True
  | c => ∃ v, o = some (some v) ∧ CtAt K C H v c
theorem SlotAt.mk {o : Option (Option V)} {c : Ct} (e : o = some (some v)) (h : CtAt K C H v c) : SlotAt K C H o c := by
  cases c with
  | u => exact True.intro
  | _ => exact ⟨v, e, h⟩
theorem SlotAt.to {o : Option (Option V)} {c : Ct} (h : SlotAt K C H o c) (hc : c ≠ .u) : ∃ v, o = some (some v) ∧ CtAt K C H v c := by
  cases c with
  | u => exact absurd rfl hc
  | _ => exact h
theorem SlotAt.map {H' : Hp} {o : Option (Option V)} {c : Ct} (f : ∀ v, CtAt K C H v c → CtAt K C H' v c) (h : SlotAt K C H o c) : SlotAt K C H' o c := by
  cases c with
  | u => exact True.intro
  | _ => obtain ⟨v, e, a⟩ := h; exact ⟨v, e, f v a⟩
structure Wd (K : PySem.W.Frag) (C : Addr) (S : List Addr) (G : List (V × PyData)) (H0 H : Hp) (σ : L2.St) (Γ : List Ct) : Prop where
  fr : Fr S H0 H
  sl : LT S H
  len : σ.length = Γ.length
  at_ : ∀ (i : Nat) (c : Ct), Γ[i]? = some c → SlotAt K C H σ[i]? c
  wr : ∀ (i : Nat) (c : Ct), Γ[i]? = some c → c.own = true → ∀ a ∈ c.adr, a ∈ S ∨ H0 a = none
  dj : ∀ (i j : Nat) (c c' : Ct) (a : Addr), Γ[i]? = some c → Γ[j]? = some c' → a ∈ c.adr → a ∈ c'.adr → i = j ∨ (c.own = false ∧ c'.own = false)
  gh : ∀ p ∈ G, Td K H p.1 p.2
section
variable {G : List (V × PyData)} {S : List Addr} {H0 : Hp} {σ : L2.St} {Γ : List Ct} {i : Nat} {c : Ct}
theorem Wd.get (w : Wd K C S G H0 H σ Γ) (h : Γ[i]? = some c) (hc : c ≠ .u := by intro z; cases z) : ∃ v, σ[i]? = some (some v) ∧ CtAt K C H v c := (w.at_ i c h).to hc
theorem Wd.mono (w : Wd K C S G H0 H σ Γ) (e : Same H H') : Wd K C S G H0 H' σ Γ :=
  ⟨fun a o h n => e a o (w.fr a o h n), fun a m => let ⟨u, h, z⟩ := w.sl a m; ⟨u, e _ _ h, z⟩, w.len, fun i c h => (w.at_ i c h).map fun _ => CtAt.mono e, w.wr, w.dj, fun p m => Td.mono (.of e) _ _ (w.gh p m)⟩
theorem Wd.fr0 (w : Wd K C [] G H0 H σ Γ) : Same H0 H := w.fr.same
theorem set_cases {α : Type} {l : List α} {i j : Nat} {x y : α} (h : (l.set i x)[j]? = some y) : (j = i ∧ y = x ∧ i < l.length) ∨ (j ≠ i ∧ l[j]? = some y) := by
  rw [List.getElem?_set] at h
  split at h
  · split at h
    · rename_i e hl
      cases h
      exact .inl ⟨e.symm, rfl, hl⟩
    · cases h
  · rename_i e
    exact .inr ⟨fun z => e z.symm, h⟩
theorem Wd.setC (w : Wd K C S G H0 H σ Γ) (i : Nat) (h : CtAt K C H v c) (hw : c.own = true → ∀ a ∈ c.adr, a ∈ S ∨ H0 a = none) (hd : ∀ j c' a, j ≠ i → Γ[j]? = some c' → a ∈ c.adr → a ∈ c'.adr → False) : Wd K C S G H0 H (σ.set i (some v)) (Γ.set i c) := by
  refine ⟨w.fr, w.sl, by rw [List.length_set, List.length_set, w.len], fun j c' hj => ?_, fun j c' hj n => ?_, fun j k c1 c2 a h1 h2 m1 m2 => ?_, w.gh⟩
  · rcases set_cases hj with ⟨rfl, rfl, hl⟩ | ⟨ne, hj⟩
    · refine .mk ?_ h
      rw [List.getElem?_set_self (by rw [w.len]; exact hl)]
    · rw [List.getElem?_set_ne (Ne.symm ne)]
      exact w.at_ j c' hj
  · rcases set_cases hj with ⟨rfl, rfl, hl⟩ | ⟨ne, hj⟩
    · exact hw n
    · exact w.wr j c' hj n
  · rcases set_cases h1 with ⟨q1, q2, hl⟩ | ⟨ne, q1⟩
    · rcases set_cases h2 with ⟨q3, q4, _⟩ | ⟨ne2, q3⟩
      · exact .inl (by rw [q1, q3])
      · exact (hd k c2 a ne2 q3 (q2 ▸ m1) m2).elim
    · rcases set_cases h2 with ⟨q3, q4, _⟩ | ⟨ne2, q3⟩
      · exact (hd j c1 a ne q1 (q4 ▸ m2) m1).elim
      · exact w.dj j k c1 c2 a q1 q3 m1 m2
theorem Wd.set (w : Wd K C S G H0 H σ Γ) (i : Nat) (h : CtAt K C H v c) (ha : c.adr = [] := by rfl) : Wd K C S G H0 H (σ.set i (some v)) (Γ.set i c) :=
  w.setC i h (fun _ a m => by rw [ha] at m; simp at m) fun j c' a _ _ m _ => by rw [ha] at m; simp at m
theorem Wd.drop (w : Wd K C S G H0 H σ Γ) (i : Nat) : Wd K C S G H0 H σ (Γ.set i .u) := by
  refine ⟨w.fr, w.sl, by rw [List.length_set, w.len], fun j c' hj => ?_, fun j c' hj n => ?_, fun j k c1 c2 a h1 h2 m1 m2 => ?_, w.gh⟩
  · rcases set_cases hj with ⟨rfl, rfl, hl⟩ | ⟨ne, hj⟩
    · exact True.intro
    · exact w.at_ j c' hj
  · rcases set_cases hj with ⟨rfl, rfl, hl⟩ | ⟨ne, hj⟩
    · intro a m; simp [Ct.adr] at m
    · exact w.wr j c' hj n
  · rcases set_cases h1 with ⟨q1, q2, hl⟩ | ⟨ne, q1⟩
    · rw [q2] at m1; simp [Ct.adr] at m1
    · rcases set_cases h2 with ⟨q3, q4, _⟩ | ⟨ne2, q3⟩
      · rw [q4] at m2; simp [Ct.adr] at m2
      · exact w.dj j k c1 c2 a q1 q3 m1 m2
theorem Wd.fresh (w : Wd K C S G H0 H σ Γ) {p : Addr} (hp : H p = none) (h : Γ[i]? = some c) : p ∉ c.adr := fun m => by
  have hc : c ≠ .u := fun z => by subst z; simp [Ct.adr] at m
  obtain ⟨v, _, hv⟩ := w.get h hc
  obtain ⟨xs, e, _⟩ := hv.there m
  rw [hp] at e; cases e
theorem Wd.fresh0 (w : Wd K C S G H0 H σ Γ) {p : Addr} (hp : H p = none) : H0 p = none := by
  cases q : H0 p with
  | none => rfl
  | some o =>
    by_cases m : p ∈ S
    · obtain ⟨xs, e, _⟩ := w.sl p m
      rw [hp] at e; cases e
    · rw [w.fr p o q m] at hp; cases hp
theorem Wd.setN (w : Wd K C S G H0 H σ Γ) (i : Nat) {p : Addr} (e : Same H H') (hp : H p = none) (hx : CtAt K C H' (.ref p) (.l p ds)) :
    Wd K C S G H0 H' (σ.set i (some (.ref p))) (Γ.set i (.l p ds)) :=
  (w.mono e).setC i hx (fun _ a m => .inr (by rw [show a = p by simpa [Ct.adr] using m]; exact w.fresh0 hp)) fun j c' a _ hj m m' => by
    rw [show a = p by simpa [Ct.adr] using m] at m'
    exact w.fresh hp hj m'
theorem Wd.setO (w : Wd K C S G H0 H σ Γ) (i : Nat) {p : Addr} {u : HO} {ks : List (Addr × List V)} (e : Same H H') (hp : H p = none) (hx : CtAt K C H' (.ref p) (.o p u ks)) :
    Wd K C S G H0 H' (σ.set i (some (.ref p))) (Γ.set i (.o p u ks)) :=
  (w.mono e).setC i hx (fun _ a m => .inr (by rw [show a = p by simpa [Ct.adr] using m]; exact w.fresh0 hp)) fun j c' a _ hj m m' => by
    rw [show a = p by simpa [Ct.adr] using m] at m'
    exact w.fresh hp hj m'
theorem Wd.chgG {c0 c1 : Ct} (w : Wd K C S G H0 H σ Γ) {p : Addr} {u : HO} (hi : Γ[i]? = some c0) (h0 : c0.adr = [p]) (o0 : c0.own = true) (h1 : c1.adr = [p]) (o1 : c1.own = true) (hu : Wr u) (hv : ∀ v, CtAt K C H v c0 → CtAt K C (upd H p u) v c1) : Wd K C S G H0 (upd H p u) σ (Γ.set i c1) := by
  have nu : c0 ≠ .u := fun z => by rw [z] at o0; cases o0
  have nu1 : c1 ≠ .u := fun z => by rw [z] at o1; cases o1
  obtain ⟨v, e1, a1⟩ := w.get hi nu
  obtain ⟨ou, e2, wu⟩ := a1.there (a := p) (by rw [h0]; simp)
  have f : Fr [p] H (upd H p u) := Fr.upd
  have l := LT.oneW e2 wu
  have hw := w.wr i _ hi o0 p (by rw [h0]; simp)
  refine ⟨fun a o h n => ?_, fun a m => ?_, by rw [List.length_set, w.len], fun j c' hj => ?_, fun j c' hj n => ?_, fun j k c1' c2 a h1' h2 m1 m2 => ?_, fun q m => Td.mono (.fr l f) _ _ (w.gh q m)⟩
  · refine f a o (w.fr a o h n) fun m => ?_
    have e : a = p := by simpa using m
    subst e
    rcases hw with hw | hw
    · exact n hw
    · rw [hw] at h; cases h
  · by_cases e : a = p
    · subst e; exact ⟨u, upd_same, hu⟩
    · obtain ⟨zs, h, z⟩ := w.sl a m
      exact ⟨zs, by rw [upd_ne e]; exact h, z⟩
  · rcases set_cases hj with ⟨q1, q2, hl⟩ | ⟨ne, hj'⟩
    · rw [q2, q1]
      exact .mk e1 (hv v a1)
    · refine (w.at_ j c' hj').map fun u => CtAt.fr l f fun a m z => ne ?_
      have e : a = p := by simpa using z
      rw [e] at m
      exact (w.dj j i c' _ p hj' hi m (by rw [h0]; simp)).elim id fun z => by rw [o0] at z; cases z.2
  · rcases set_cases hj with ⟨rfl, rfl, hl⟩ | ⟨ne, hj⟩
    · intro a m
      rw [show a = p by rw [h1] at m; simpa using m]
      exact hw
    · exact w.wr j c' hj n
  · have old : ∀ {q : Nat} {c3 : Ct}, (Γ.set i c1)[q]? = some c3 → a ∈ c3.adr → ∃ c4, Γ[q]? = some c4 ∧ a ∈ c4.adr ∧ c4.own = c3.own := fun {q c3} h m => by
      rcases set_cases h with ⟨rfl, rfl, hl⟩ | ⟨ne, h⟩
      · exact ⟨_, hi, by rw [h0, ← h1]; exact m, by rw [o0, o1]⟩
      · exact ⟨_, h, m, rfl⟩
    obtain ⟨c3, h3, m3, o3⟩ := old h1' m1
    obtain ⟨c4, h4, m4, o4⟩ := old h2 m2
    rw [← o3, ← o4]
    exact w.dj j k c3 c4 a h3 h4 m3 m4
theorem Wd.chg (w : Wd K C S G H0 H σ Γ) {p : Addr} {xs : List V} (hi : Γ[i]? = some (.l p ds)) (ha : TdAll K H xs es) : Wd K C S G H0 (upd H p (.lst xs)) σ (Γ.set i (.l p es)) :=
  w.chgG hi rfl rfl rfl rfl True.intro fun v a => by
    obtain ⟨e1, ys, e2, _⟩ := a
    exact ⟨e1, xs, upd_same, TdAll.mono (.fr (LT.one e2) Fr.upd) _ _ ha⟩
theorem Wd.drawn (w : Wd K C S G H0 H σ Γ) {p q : Addr} (hi : Γ[i]? = some (.h p q)) (f : Fr [p, q] H H') (hs : CtAt K C H' (.ref p) (.h p q)) : Wd K C S G H0 H' σ Γ := by
  obtain ⟨v, e1, rfl, ne, s, k, cs, h1, h2, _⟩ := w.get hi
  have l : LT [p, q] H := fun a m => by
    have e : a = p ∨ a = q := by simpa using m
    rcases e with e | e
    · subst e; exact ⟨_, h1, True.intro⟩
    · subst e; exact ⟨_, h2, True.intro⟩
  have hw := w.wr i _ hi rfl
  refine ⟨fun a o h n => ?_, fun a m => ?_, w.len, fun j c' hj => ?_, w.wr, w.dj, fun q m => Td.mono (.fr l f) _ _ (w.gh q m)⟩
  · refine f a o (w.fr a o h n) fun m => ?_
    rcases hw a (by simpa [Ct.adr] using m) with z | z
    · exact n z
    · rw [z] at h; cases h
  · by_cases e : a ∈ [p, q]
    · obtain ⟨_, _, s', k', cs', g1, g2, _⟩ := hs
      have e : a = p ∨ a = q := by simpa using e
      rcases e with e | e
      · subst e; exact ⟨_, g1, True.intro⟩
      · subst e; exact ⟨_, g2, True.intro⟩
    · obtain ⟨zs, h, z⟩ := w.sl a m
      exact ⟨zs, f _ _ h e, z⟩
  · by_cases e : j = i
    · subst e
      rw [hi] at hj; cases hj
      exact ⟨_, e1, hs⟩
    · refine (w.at_ j c' hj).map fun u => CtAt.fr l f fun a m z => e ?_
      exact (w.dj j i c' _ a hj hi m (by simpa [Ct.adr] using z)).elim id fun z => by cases z.2
end
def EvC (K : PySem.W.Frag) (C : Addr) (te : TE) (σ : L2.St) (H : Hp) (c : Ct) : Prop := ∀ H1, Same H H1 → ∀ Q : VK, (∀ v H2, Same H1 H2 → CtAt K C H2 v c → Q v H2) → te σ H1 Q
def EvN (K : PySem.W.Frag) (C : Addr) (te : TE) (σ : L2.St) (H : Hp) (ds : List PyData) : Prop := ∀ H1, Same H H1 → ∀ Q : VK, (∀ p H2, H1 p = none → Same H1 H2 → CtAt K C H2 (.ref p) (.l p ds) → Q (.ref p) H2) → te σ H1 Q
def EvT (tt : TT) (σ : L2.St) (H : Hp) (b : Bool) : Prop := ∀ H1, Same H H1 → ∀ Q : Bool → Hp → Prop, (∀ H2, Same H1 H2 → Q b H2) → tt σ H1 Q
inductive Ag where
  | c (c : Ct)
  | n (ds : List PyData)
def AgAt (K : PySem.W.Frag) (C : Addr) (H : Hp) (v : V) : Ag → Prop
  | .c c => CtAt K C H v c
  | .n ds => ∃ p xs, v = .ref p ∧ H p = some (.lst xs) ∧ TdAll K H xs ds
theorem AgAt.mono (e : Same H H') : ∀ {a : Ag}, AgAt K C H v a → AgAt K C H' v a
  | .c _, h => CtAt.mono e h
  | .n ds, ⟨p, xs, a, b, c⟩ => ⟨p, xs, a, e _ _ b, TdAll.mono (.of e) ds xs c⟩
def Args (K : PySem.W.Frag) (C : Addr) (H : Hp) : List V → List Ag → Prop
  | [], [] => True
  | v :: vs, a :: as => AgAt K C H v a ∧ Args K C H vs as
  | _, _ => False
theorem Args.mono (e : Same H H') : ∀ {vs : List V} {as : List Ag}, Args K C H vs as → Args K C H' vs as
  | [], [], _ => True.intro
  | _ :: _, _ :: _, ⟨a, b⟩ => ⟨a.mono e, Args.mono e b⟩
  | [], _ :: _, h => h.elim
  | _ :: _, [], h => h.elim
theorem Args.length : ∀ {vs : List V} {as : List Ag}, Args K C H vs as → vs.length = as.length
  | [], [], _ => rfl
  | _ :: _, _ :: _, ⟨_, b⟩ => congrArg (· + 1) (Args.length b)
  | [], _ :: _, h => h.elim
  | _ :: _, [], h => h.elim
def EvA (K : PySem.W.Frag) (C : Addr) (ta : TA) (σ : L2.St) (H : Hp) (as : List Ag) : Prop := ∀ H1, Same H H1 → ∀ Q : List V → Hp → Prop, (∀ vs H2, Same H1 H2 → Args K C H2 vs as → Q vs H2) → ta σ H1 Q
def EvO (to : TO) (σ : L2.St) (H : Hp) (o : Option Int) : Prop := ∀ H1, Same H H1 → ∀ Q : Option Int → Hp → Prop, (∀ H2, Same H1 H2 → Q o H2) → to σ H1 Q
section
variable {G : List (V × PyData)} {S : List Addr} {H0 : Hp} {σ : L2.St} {Γ : List Ct} {i : Nat} {c : Ct} {te ta tb tc : TE} {t u : TT}
theorem same_new {p : Addr} {o : HO} (h : H p = none) : Same H (upd H p o) := fun b x e => by
  rw [upd_ne (ne_of_none e h)]
  exact e
theorem EvC.mono (e : Same H H') (h : EvC K C te σ H c) : EvC K C te σ H' c := fun H1 e1 => h H1 (e.trans e1)
theorem EvN.mono (e : Same H H') (h : EvN K C te σ H ds) : EvN K C te σ H' ds := fun H1 e1 => h H1 (e.trans e1)
theorem EvT.mono {b : Bool} (e : Same H H') (h : EvT t σ H b) : EvT t σ H' b := fun H1 e1 => h H1 (e.trans e1)
theorem ev_var (w : Wd K C S G H0 H σ Γ) (h : Γ[i]? = some c) (hc : c ≠ .u := by intro z; cases z) : EvC K C (tVar i) σ H c := fun H1 e1 Q q => by
  obtain ⟨v, e, a⟩ := w.get h hc
  exact ⟨v, e, q v H1 (Same.refl H1) (a.mono e1)⟩
theorem ev_int {k : Int} : EvC K C (tC (.int k)) σ H (.d (.int k)) := fun H1 _ Q q => q _ H1 (Same.refl H1) (.int k)
theorem ev_bl {k : Bool} : EvC K C (tC (.bl k)) σ H (.d (.bool k)) := fun H1 _ Q q => q _ H1 (Same.refl H1) (.bl k)
theorem ev_str {k : Str} : EvC K C (tC (.str k)) σ H (.d (.str k)) := fun H1 _ Q q => q _ H1 (Same.refl H1) (.str k)
theorem ev_d {d e : PyData} (h : EvC K C te σ H (.d d)) (q : d = e) : EvC K C te σ H (.d e) := q ▸ h
theorem et_cast {b b' : Bool} (h : EvT t σ H b) (e : b = b') : EvT t σ H b' := e ▸ h
section
variable {X : Cx}
theorem laidF {pins : List (Addr × Obj)} {σ : L2.St} {H : Hp} {s : Shared} {xs : List V} {its : List Value} (I : Inv X pins σ H s) (r : Vals xs its) (z : xs.length ≤ sizeLine) :
    Inv X pins σ (upd H s.heap.objs.size (.frz { cls := .type "tuple", data := .seq its.toArray } (.tup xs))) { s with heap := s.heap.push { cls := .type "tuple", data := .seq its.toArray } } :=
  I.laid (t' := s.toks) (fun b u e => Heap.get?_push_of_some _ e) (Nat.le_refl _) ⟨Heap.get?_push_size _ rfl, z, its, r, ⟨_, Heap.get?_push_size _ rfl, rfl, _, rfl⟩⟩
def tTupF (t : TA) : TE := fun σ H Q => t σ H fun xs H1 => xs.length ≤ sizeLine ∧ ∀ p o, H1 p = none → o.dict = none → Q (.ref p) (upd H1 p (.frz o (.tup xs)))
theorem pe_tupF {es : List Expr} {t : TA} {x1 pos} (h : PA X es t) : PE X (.Tuple es x1 pos) (tTupF t) := by
  refine ⟨fun pins s σ H Q I hq => ?_⟩
  refine wpAny_Tuple_spliced (thn (h.run pos pins s σ H _ I hq) fun us s1 ⟨xs, H1, I1, r, z, q⟩ => ⟨by rw [← r.length]; exact z, ?_⟩)
  exact ⟨.ref s1.heap.objs.size, _, laidF I1 r z, rfl, q _ _ (I1.hok.fresh (Nat.le_refl _)) rfl⟩
def rTupleOf (K : PySem.W.Frag) : List V → Hp → VK → Prop := fun xs H Q => ∃ p ys, xs = [.ref p] ∧ ((SqL K H p ys ∧ ∀ l o, H l = none → o.dict = none → Q (.ref l) (upd H l (.frz o (.tup ys)))) ∨ (SqT K H p ys ∧ Q (.ref p) H))
theorem call_tuple_of' : CallR X (.type "tuple") (rTupleOf X.K) := fun pins s σ H xs us Q I r ⟨p, ys, ex, h⟩ => by
  subst ex
  obtain ⟨u, rfl, ru⟩ := vals1 r
  obtain rfl : u = .ref p := ru
  refine h.elim (fun ⟨lst, q⟩ => ?_) fun ⟨tup, q⟩ => ?_
  · obtain ⟨its, rv, here, few⟩ := I.list lst
    exact call_tuple_list here.isList (fun h1 k => have J := I.kept (t' := s.toks) k; ⟨.ref _, _, laidF J rv few, rfl, q _ _ (J.hok.fresh (Nat.le_refl _)) rfl⟩) (by have := rv.length; rw [List.size_toArray]; omega)
  · obtain ⟨its, _, here, _⟩ := I.tuple tup
    exact call_tuple_same here ⟨.ref p, H, I, rfl, q⟩
def rCatF (K : PySem.W.Frag) : R2 := fun x y H Q => ∃ a b xs ys, x = .ref a ∧ y = .ref b ∧ SqT K H a xs ∧ SqT K H b ys ∧ xs.length + ys.length ≤ sizeLine ∧
  (xs = [] → Q (.ref b) H) ∧ (xs ≠ [] → ys = [] → Q (.ref a) H) ∧ (xs ≠ [] → ys ≠ [] → ∀ p o, H p = none → o.dict = none → Q (.ref p) (upd H p (.frz o (.tup (xs ++ ys)))))
theorem op_catF : OpR X (binaryOp .Add) (rCatF X.K) := by
  intro pins s σ H x y v u Q I rx ry h
  obtain ⟨a, b, xs, ys, rfl, rfl, ha, hb, hz, q0, q1, q2⟩ := h
  cases rx
  cases ry
  obtain ⟨its, r1, p1, _⟩ := I.tuple ha
  obtain ⟨its2, r2, p2, _⟩ := I.tuple hb
  by_cases hx : xs = []
  · subst hx
    cases r1
    exact cat_tup0 p1 p2 ⟨.ref b, H, I, rfl, q0 rfl⟩
  · refine HT.cat_tup p1 p2 (fun z => hx (r1.nil_iff.mp z)) (fun z => ⟨.ref a, H, I, rfl, q1 hx (r2.nil_iff.mp z)⟩) (fun z => ?_) (by rw [← r1.length, ← r2.length]; exact hz)
    exact ⟨.ref s.heap.objs.size, _, laidF I (r1.append r2) (by rw [List.length_append]; exact hz), rfl, q2 hx (fun w => z (r2.nil_iff.mpr w)) _ _ (I.hok.fresh (Nat.le_refl _)) rfl⟩
def rSlF (K : PySem.W.Frag) : V → Option Int → Option Int → Hp → VK → Prop := fun x lo hi H Q => ∃ a xs, x = .ref a ∧ SqT K H a xs ∧
  (HT.sIx xs.length 0 lo = 0 ∧ HT.sIx xs.length xs.length hi = xs.length → Q (.ref a) H) ∧ (¬ (HT.sIx xs.length 0 lo = 0 ∧ HT.sIx xs.length xs.length hi = xs.length) → ∀ p o, H p = none → o.dict = none → Q (.ref p) (upd H p (.frz o (.tup (cutV xs lo hi)))))
theorem sl_tupF : SlR X (rSlF X.K) := by
  intro pins s σ H x v vl vu lo hi sl Q I rx hs pl pu h
  obtain ⟨a, xs, rfl, hx, q1, q2⟩ := h
  cases rx
  obtain ⟨its, r, ht, hz⟩ := I.tuple hx
  have hlen : its.toArray.size = xs.length := by rw [List.size_toArray]; exact r.length.symm
  refine ⟨"tuple", _, PyProof.Rows.slot_tuple_getitem.lookup, ht.typeIs, ?_⟩
  by_cases hw : HT.sIx xs.length 0 lo = 0 ∧ HT.sIx xs.length xs.length hi = xs.length
  · exact getItem_tuple_whole ht hs pl pu (by rw [hlen]; exact hw) ⟨.ref a, H, I, rfl, q1 hw⟩
  · refine HT.getItem_tuple_cut ht hs pl pu (by rw [hlen]; exact hw) ?_ (by rw [hlen]; exact hz)
    rw [hlen]
    exact ⟨.ref s.heap.objs.size, _, laidF I ((r.drop _).take _) (Nat.le_trans (cutV_length xs lo hi) hz), rfl, q2 hw _ _ (I.hok.fresh (Nat.le_refl _)) rfl⟩
end
theorem new_t {p : Addr} {xs : List V} {o : Obj} (hp : H p = none) (ho : o.dict = none) (d : TdAll K H xs ds) : CtAt K C (upd H p (.frz o (.tup xs))) (.ref p) (.d (.tuple ds)) := .tup ⟨o, upd_same, ho⟩ (TdAll.mono (.of (same_new hp)) _ _ d)
theorem ev_op2 {r : R2} {c1 c2 c3 : Ct} (ha : EvC K C ta σ H c1) (hb : EvC K C tb σ H c2)
    (hr : ∀ H1, Same H H1 → ∀ x y, CtAt K C H1 x c1 → CtAt K C H1 y c2 → ∀ Q : VK, (∀ v H2, Same H1 H2 → CtAt K C H2 v c3 → Q v H2) → r x y H1 Q) : EvC K C (tOp r ta tb) σ H c3 := fun H1 e1 Q q =>
  ha H1 e1 _ fun x H2 e2 a2 => hb H2 (e1.trans e2) _ fun y H3 e3 a3 => hr H3 ((e1.trans e2).trans e3) x y (a2.mono e3) a3 Q fun v H4 e4 a4 => q v H4 ((e2.trans e3).trans e4) a4
theorem ev_i0 {g : Int → Int → V} {k j : Int} (ha : EvC K C ta σ H (.d (.int k))) (hb : EvC K C tb σ H (.d (.int j))) (hd : ∀ H, Td K H (g k j) d) : EvC K C (tOp (rI0 g) ta tb) σ H (.d d) :=
  ev_op2 ha hb fun H1 _ x y a1 a2 Q q => ⟨k, j, a1.int_of, a2.int_of, q _ H1 (Same.refl H1) (hd H1)⟩
theorem ev_iC {P : Int → Int → Prop} {g : Int → Int → V} {k j : Int} (ha : EvC K C ta σ H (.d (.int k))) (hb : EvC K C tb σ H (.d (.int j))) (hP : P k j) (hd : ∀ H, Td K H (g k j) d) : EvC K C (tOp (rI P g) ta tb) σ H (.d d) :=
  ev_op2 ha hb fun H1 _ x y a1 a2 Q q => ⟨k, j, a1.int_of, a2.int_of, hP, q _ H1 (Same.refl H1) (hd H1)⟩
def rAddU (K : PySem.W.Frag) : R2 := fun x y H Q => rI0 (fun i j => .int (i + j)) x y H Q ∨ (rCatF K x y H Q ∨ rCat x y H Q)
theorem op_addU {X : Cx} : OpR X (binaryOp .Add) (rAddU X.K) := op_add.or (op_catF.or op_cat)
theorem ev_addI {k j : Int} (ha : EvC K C ta σ H (.d (.int k))) (hb : EvC K C tb σ H (.d (.int j))) : EvC K C (tOp (rAddU K) ta tb) σ H (.d (.int (k + j))) :=
  ev_op2 ha hb fun H1 _ x y a1 a2 Q q => .inl ⟨k, j, a1.int_of, a2.int_of, q _ H1 (Same.refl H1) (.int _)⟩
theorem ev_addT (ha : EvC K C ta σ H (.d (.tuple ds))) (hb : EvC K C tb σ H (.d (.tuple es))) (hl : ds.length + es.length ≤ 10000000) : EvC K C (tOp (rAddU K) ta tb) σ H (.d (.tuple (ds ++ es))) :=
  ev_op2 ha hb fun H1 _ x y a1 a2 Q q => .inr (.inl (by
    obtain ⟨a, xs, rfl, s1, d1⟩ := Td.tup_of a1
    obtain ⟨b, ys, rfl, s2, d2⟩ := Td.tup_of a2
    have l1 := d1.length
    have l2 := d2.length
    refine ⟨a, b, xs, ys, rfl, rfl, s1.sq, s2.sq, Nat.le_trans (by omega) (show 10000000 ≤ sizeLine by decide), fun e => ?_, fun _ e => ?_, fun _ _ p o hp ho => ?_⟩
    · subst e
      cases d1
      exact q _ H1 (Same.refl H1) a2
    · subst e
      cases d2
      refine q _ H1 (Same.refl H1) ?_
      rw [List.append_nil]
      exact a1
    · exact q _ _ (same_new hp) (new_t hp ho (d1.append d2))))
theorem ev_eqD {x1 x2 : PyData} (ha : EvC K C ta σ H (.d x1)) (hb : EvC K C tb σ H (.d x2)) (h1 : SeqAt.shaped x1 = true) (h2 : SeqAt.shaped x2 = true) : EvC K C (tOp (rEqD K) ta tb) σ H (.d (.bool (PyData.eqv x1 x2))) :=
  ev_op2 ha hb fun H1 _ x y a1 a2 Q q => ⟨x1, x2, Td.dp _ _ a1, Td.dp _ _ a2, h1, h2, q _ H1 (Same.refl H1) (.bl _)⟩
theorem ev_neD {x1 x2 : PyData} (ha : EvC K C ta σ H (.d x1)) (hb : EvC K C tb σ H (.d x2)) (h1 : SeqAt.shaped x1 = true) (h2 : SeqAt.shaped x2 = true) : EvC K C (tOp (rNeD K) ta tb) σ H (.d (.bool (!PyData.eqv x1 x2))) :=
  ev_op2 ha hb fun H1 _ x y a1 a2 Q q => ⟨x1, x2, Td.dp _ _ a1, Td.dp _ _ a2, h1, h2, q _ H1 (Same.refl H1) (.bl _)⟩
theorem shaped_int (k : Int) : SeqAt.shaped (.int k) = true := by
  show ((PyData.int k).canLay0 && decide ((PyData.int k).depth ≤ 64)) = true
  simp [PyData.canLay0, PyData.depth]
theorem lay_iL : ∀ l : List Int, PyData.canLayAll0 (iL l) = true
  | [] => by simp [iL, PyData.canLayAll0]
  | k :: l => by
    have := lay_iL l
    simp only [iL] at this
    simp [iL, PyData.canLayAll0, PyData.canLay0, this]
theorem depth_iL : ∀ l : List Int, PyData.depthAll (iL l) ≤ 1
  | [] => by simp [iL, PyData.depthAll]
  | k :: l => by
    have := depth_iL l
    simp only [iL] at this
    simp only [iL, List.map_cons, PyData.depthAll, PyData.depth]
    omega
theorem shaped_row (l : List Int) : SeqAt.shaped (row l) = true := by
  show ((row l).canLay0 && decide ((row l).depth ≤ 64)) = true
  have h1 := depth_iL l
  rw [Bool.and_eq_true]
  refine ⟨?_, decide_eq_true ?_⟩
  · simp only [row, PyData.canLay0]; exact lay_iL l
  · simp only [row, PyData.depth]; omega
theorem eqv_iL : ∀ a b : List Int, PyData.eqvAll (iL a) (iL b) = decide (a = b)
  | [], [] => by simp [iL, PyData.eqvAll]
  | [], _ :: _ => by simp [iL, PyData.eqvAll]
  | _ :: _, [] => by simp [iL, PyData.eqvAll]
  | x :: a, y :: b => by
    have ih := eqv_iL a b
    simp only [iL] at ih
    simp only [iL, List.map_cons, PyData.eqvAll, PyData.eqv, ih]
    by_cases e : x = y
    · subst e; simp
    · simp [e]
theorem eqv_row (a b : List Int) : PyData.eqv (row a) (row b) = decide (a = b) := by
  show PyData.eqv (.tuple (iL a)) (.tuple (iL b)) = _
  simp only [PyData.eqv]
  exact eqv_iL a b
theorem eqv_int (a b : Int) : PyData.eqv (.int a) (.int b) = decide (a = b) := by
  simp only [PyData.eqv]
  by_cases e : a = b
  · subst e; simp
  · simp [e]
theorem ev_eqI {k j : Int} (ha : EvC K C ta σ H (.d (.int k))) (hb : EvC K C tb σ H (.d (.int j))) : EvC K C (tOp (rEqD K) ta tb) σ H (.d (.bool (decide (k = j)))) :=
  eqv_int k j ▸ ev_eqD ha hb (shaped_int _) (shaped_int _)
theorem ev_neI {k j : Int} (ha : EvC K C ta σ H (.d (.int k))) (hb : EvC K C tb σ H (.d (.int j))) : EvC K C (tOp (rNeD K) ta tb) σ H (.d (.bool (!decide (k = j)))) :=
  eqv_int k j ▸ ev_neD ha hb (shaped_int _) (shaped_int _)
theorem et_test {b : Bool} (h : EvC K C te σ H (.d (.bool b))) : EvT (tTest te) σ H b := fun H1 e1 Q q => h H1 e1 _ fun v H2 e2 a => ⟨b, a.bl_of, q H2 e2⟩
theorem et_and : ∀ {a b : Bool}, EvT t σ H a → (a = true → EvT u σ H b) → EvT (tAnd t u) σ H (a && b)
  | false, _, h, _ => fun H1 e _ q => h H1 e _ q
  | true, _, h, k => fun H1 e _ q => h H1 e _ fun H2 e2 => k rfl H2 (e.trans e2) _ fun H3 e3 => q H3 (e2.trans e3)
theorem et_or : ∀ {a b : Bool}, EvT t σ H a → (a = false → EvT u σ H b) → EvT (tOr t u) σ H (a || b)
  | true, _, h, _ => fun H1 e _ q => h H1 e _ q
  | false, _, h, k => fun H1 e _ q => h H1 e _ fun H2 e2 => k rfl H2 (e.trans e2) _ fun H3 e3 => q H3 (e2.trans e3)
theorem et_not {a : Bool} (h1 : EvT t σ H a) : EvT (tNot t) σ H (!a) := fun H1 e _ q => h1 H1 e _ fun H2 e2 => q H2 e2
theorem ev_andV {a b : Bool} (h1 : EvC K C ta σ H (.d (.bool a))) (h2 : a = true → EvC K C tb σ H (.d (.bool b))) : EvC K C (tAndV ta tb) σ H (.d (.bool (a && b))) := fun H1 e Q q => h1 H1 e _ fun v H2 e2 z => ⟨a, z.bl_of, by
  cases a with
  | true => exact h2 rfl H2 (e.trans e2) Q fun v H3 e3 => q v H3 (e2.trans e3)
  | false => exact q _ H2 e2 (.bl false)⟩
theorem ev_orV {a b : Bool} (h1 : EvC K C ta σ H (.d (.bool a))) (h2 : a = false → EvC K C tb σ H (.d (.bool b))) : EvC K C (tOrV ta tb) σ H (.d (.bool (a || b))) := fun H1 e Q q => h1 H1 e _ fun v H2 e2 z => ⟨a, z.bl_of, by
  cases a with
  | true => exact q _ H2 e2 (.bl true)
  | false => exact h2 rfl H2 (e.trans e2) Q fun v H3 e3 => q v H3 (e2.trans e3)⟩
theorem ev_notV {a : Bool} (h1 : EvC K C ta σ H (.d (.bool a))) : EvC K C (tNotV ta) σ H (.d (.bool (!a))) := fun H1 e Q q => h1 H1 e _ fun v H2 e2 z => ⟨a, z.bl_of, q _ H2 e2 (.bl _)⟩
theorem ev_chain {g g' : Int → Int → Bool} {k j l : Int} (ha : EvC K C ta σ H (.d (.int k))) (hb : EvC K C tb σ H (.d (.int j))) (hc : EvC K C tc σ H (.d (.int l))) :
    EvC K C (tChain (rI0 fun i j => .bl (g i j)) (rI0 fun i j => .bl (g' i j)) ta tb tc) σ H (.d (.bool (g k j && g' j l))) := fun H1 e1 Q q =>
  ha H1 e1 _ fun x H2 e2 a2 => hb H2 (e1.trans e2) _ fun y H3 e3 a3 => ⟨k, j, a2.int_of, a3.int_of, g k j, rfl, by
    cases h : g k j with
    | true =>
      refine hc H3 ((e1.trans e2).trans e3) _ fun z H4 e4 a4 => ⟨j, l, a3.int_of, a4.int_of, ?_⟩
      have z := q (.bl (g' j l)) H4 ((e2.trans e3).trans e4)
      rw [h, Bool.true_and] at z
      exact z (.bl _)
    | false =>
      have z := q (.bl false) H3 (e2.trans e3)
      rw [h, Bool.false_and] at z
      exact z (.bl _)⟩
theorem ea_nil : EvA K C tNil σ H [] := fun H1 _ Q q => q [] H1 (Same.refl H1) True.intro
theorem ea_cons {tr : TA} {as : List Ag} (h : EvC K C te σ H c) (hr : EvA K C tr σ H as) : EvA K C (tCons te tr) σ H (.c c :: as) := fun H1 e1 Q q =>
  h H1 e1 _ fun v H2 e2 a => hr H2 (e1.trans e2) _ fun vs H3 e3 b => q (v :: vs) H3 (e2.trans e3) ⟨CtAt.mono e3 a, b⟩
theorem ea_consN {tr : TA} {as : List Ag} (h : EvN K C te σ H ds) (hr : EvA K C tr σ H as) : EvA K C (tCons te tr) σ H (.n ds :: as) := fun H1 e1 Q q =>
  h H1 e1 _ fun p H2 _ e2 a => hr H2 (e1.trans e2) _ fun vs H3 e3 b => q (.ref p :: vs) H3 (e2.trans e3) ⟨by
    obtain ⟨_, xs, h1, h2⟩ := CtAt.mono e3 a
    exact ⟨p, xs, rfl, h1, h2⟩, b⟩
theorem ea_consL {tr : TA} {as : List Ag} {p : Addr} (h : EvC K C te σ H (.l p ds)) (hr : EvA K C tr σ H as) : EvA K C (tCons te tr) σ H (.n ds :: as) := fun H1 e1 Q q =>
  h H1 e1 _ fun v H2 e2 a => hr H2 (e1.trans e2) _ fun vs H3 e3 b => q (v :: vs) H3 (e2.trans e3) ⟨by
    obtain ⟨h0, xs, h1, h2⟩ := CtAt.mono e3 a
    exact ⟨p, xs, h0, h1, h2⟩, b⟩
theorem ea_consS {tr : TA} {as : List Ag} {p : Addr} (h : EvC K C te σ H (.s p ds)) (hr : EvA K C tr σ H as) : EvA K C (tCons te tr) σ H (.n ds :: as) := fun H1 e1 Q q =>
  h H1 e1 _ fun v H2 e2 a => hr H2 (e1.trans e2) _ fun vs H3 e3 b => q (v :: vs) H3 (e2.trans e3) ⟨by
    obtain ⟨h0, xs, h1, h2⟩ := CtAt.mono e3 a
    exact ⟨p, xs, h0, h1, h2⟩, b⟩
def EvD (K : PySem.W.Frag) (C : Addr) (ta : TA) (σ : L2.St) (H : Hp) (ds : List PyData) : Prop := ∀ H1, Same H H1 → ∀ Q : List V → Hp → Prop, (∀ vs H2, Same H1 H2 → TdAll K H2 vs ds → Q vs H2) → ta σ H1 Q
theorem ed_nil : EvD K C tNil σ H [] := fun H1 _ Q q => q [] H1 (Same.refl H1) .nil
theorem ed_cons {tr : TA} (h : EvC K C te σ H (.d d)) (hr : EvD K C tr σ H ds) : EvD K C (tCons te tr) σ H (d :: ds) := fun H1 e1 Q q =>
  h H1 e1 _ fun v H2 e2 a => hr H2 (e1.trans e2) _ fun vs H3 e3 b => q (v :: vs) H3 (e2.trans e3) (.cons (Td.mono (.of e3) _ _ a) b)
theorem ev_tup {ts : TA} (h : EvD K C ts σ H ds) (hl : ds.length ≤ 10000000 := by simp) : EvC K C (tTupF ts) σ H (.d (.tuple ds)) := fun H1 e1 Q q =>
  h H1 e1 _ fun vs H2 e2 a => ⟨by rw [a.length]; exact Nat.le_trans hl (by decide), fun p o hp ho => q _ _ (e2.trans (same_new hp)) (new_t hp ho a)⟩
theorem en_lst {ts : TA} (h : EvD K C ts σ H ds) (hl : ds.length ≤ 10000000 := by simp) : EvN K C (tLst ts) σ H ds := fun H1 e1 Q q =>
  h H1 e1 _ fun vs H2 e2 a => ⟨by rw [a.length]; exact Nat.le_trans hl (by decide), fun p hp => q p _ (by
    cases z : H1 p with
    | none => rfl
    | some o => rw [e2 p o z] at hp; cases hp) (e2.trans (same_new hp)) ⟨rfl, vs, upd_same, TdAll.mono (.of (same_new hp)) _ _ a⟩⟩
theorem ev_cb {r : List V → Hp → VK → Prop} {ts : TA} {as : List Ag} (h : EvA K C ts σ H as) (hr : ∀ H1, Same H H1 → ∀ vs, Args K C H1 vs as → ∀ Q : VK, (∀ v H2, Same H1 H2 → CtAt K C H2 v c → Q v H2) → r vs H1 Q) : EvC K C (tCB r ts) σ H c := fun H1 e1 Q q =>
  h H1 e1 _ fun vs H2 e2 a => hr H2 (e1.trans e2) vs a Q fun v H3 e3 => q v H3 (e2.trans e3)
theorem Args.one {vs : List V} {a : Ag} (h : Args K C H vs [a]) : ∃ v, vs = [v] ∧ AgAt K C H v a := by
  match vs, h with
  | [v], ⟨h, _⟩ => exact ⟨v, rfl, h⟩
theorem Args.two {vs : List V} {a b : Ag} (h : Args K C H vs [a, b]) : ∃ v w, vs = [v, w] ∧ AgAt K C H v a ∧ AgAt K C H w b := by
  match vs, h with
  | [v, w], ⟨h, g, _⟩ => exact ⟨v, w, rfl, h, g⟩
theorem Args.three {vs : List V} {a b c : Ag} (h : Args K C H vs [a, b, c]) : ∃ v w x, vs = [v, w, x] ∧ AgAt K C H v a ∧ AgAt K C H w b ∧ AgAt K C H x c := by
  match vs, h with
  | [v, w, x], ⟨h, g, f, _⟩ => exact ⟨v, w, x, rfl, h, g, f⟩
def rLen (K : PySem.W.Frag) : List V → Hp → VK → Prop := fun xs H Q => ∃ x n, xs = [x] ∧ LenV K x H n ∧ Q (.int n) H
theorem call_len1 {X : Cx} : CallR X (.builtin "len") (rLen X.K) := call_len
theorem ev_lenT (h : EvC K C te σ H (.d (.tuple ds))) : EvC K C (tCB (rLen K) (tCons te tNil)) σ H (.d (.int ds.length)) := ev_cb (ea_cons h ea_nil) fun H1 _ vs a Q q => by
  obtain ⟨v, rfl, a1⟩ := a.one
  obtain ⟨p, xs, rfl, s, d⟩ := Td.tup_of a1
  exact ⟨_, ds.length, rfl, .inr ⟨xs, s.sq, d.length.symm⟩, q _ H1 (Same.refl H1) (.int _)⟩
theorem ev_lenL {p : Addr} (h : EvC K C te σ H (.l p ds)) : EvC K C (tCB (rLen K) (tCons te tNil)) σ H (.d (.int ds.length)) := ev_cb (ea_consL h ea_nil) fun H1 _ vs a Q q => by
  obtain ⟨v, rfl, p, xs, rfl, s, d⟩ := a.one
  exact ⟨_, ds.length, rfl, .inl ⟨xs, SqL.of s, d.length.symm⟩, q _ H1 (Same.refl H1) (.int _)⟩
theorem ev_lenS {p : Addr} (h : EvC K C te σ H (.s p ds)) : EvC K C (tCB (rLen K) (tCons te tNil)) σ H (.d (.int ds.length)) := ev_cb (ea_consS h ea_nil) fun H1 _ vs a Q q => by
  obtain ⟨v, rfl, p, xs, rfl, s, d⟩ := a.one
  exact ⟨_, ds.length, rfl, .inl ⟨xs, SqL.of s, d.length.symm⟩, q _ H1 (Same.refl H1) (.int _)⟩
def rMax2 : List V → Hp → VK → Prop := fun xs H Q => ∃ i j, xs = [.int i, .int j] ∧ Q (.int (if j > i then j else i)) H
def rMin2 : List V → Hp → VK → Prop := fun xs H Q => ∃ i j, xs = [.int i, .int j] ∧ Q (.int (if j < i then j else i)) H
theorem call_max2' {X : Cx} (hc : X.calm = true) : CallR X (.builtin "max") rMax2 := call_max2 hc
theorem call_min2' {X : Cx} (hc : X.calm = true) : CallR X (.builtin "min") rMin2 := call_min2 hc
theorem ev_max2 {k j : Int} (ha : EvC K C ta σ H (.d (.int k))) (hb : EvC K C tb σ H (.d (.int j))) : EvC K C (tCB rMax2 (tCons ta (tCons tb tNil))) σ H (.d (.int (max k j))) := ev_cb (ea_cons ha (ea_cons hb ea_nil)) fun H1 _ vs a Q q => by
  obtain ⟨v, w, rfl, a, b⟩ := a.two
  rw [a.int_of, b.int_of]
  refine ⟨k, j, rfl, ?_⟩
  have e : (if j > k then j else k) = max k j := by split <;> omega
  rw [e]
  exact q _ H1 (Same.refl H1) (.int _)
theorem ev_min2 {k j : Int} (ha : EvC K C ta σ H (.d (.int k))) (hb : EvC K C tb σ H (.d (.int j))) : EvC K C (tCB rMin2 (tCons ta (tCons tb tNil))) σ H (.d (.int (min k j))) := ev_cb (ea_cons ha (ea_cons hb ea_nil)) fun H1 _ vs a Q q => by
  obtain ⟨v, w, rfl, a, b⟩ := a.two
  rw [a.int_of, b.int_of]
  refine ⟨k, j, rfl, ?_⟩
  have e : (if j < k then j else k) = min k j := by split <;> omega
  rw [e]
  exact q _ H1 (Same.refl H1) (.int _)
def rInt1 : List V → Hp → VK → Prop := fun xs H Q => (∃ i, xs = [.int i] ∧ Q (.int i) H) ∨ ∃ k, xs = [.bl k] ∧ Q (.int (if k then 1 else 0)) H
theorem call_int1' {X : Cx} : CallR X (.type "int") rInt1 := call_int1
theorem ev_int1 {k : Int} (ha : EvC K C ta σ H (.d (.int k))) : EvC K C (tCB rInt1 (tCons ta tNil)) σ H (.d (.int k)) := ev_cb (ea_cons ha ea_nil) fun H1 _ vs a Q q => by
  obtain ⟨v, rfl, a1⟩ := a.one
  rw [Td.int_of a1]
  exact .inl ⟨k, rfl, q _ H1 (Same.refl H1) (.int _)⟩
def rListOf (K : PySem.W.Frag) : List V → Hp → VK → Prop := fun xs H Q => ∃ p ys, xs = [.ref p] ∧ (SqL K H p ys ∨ SqT K H p ys) ∧ ∀ l, H l = none → Q (.ref l) (upd H l (.lst ys))
theorem call_list_of' {X : Cx} : CallR X (.type "list") (rListOf X.K) := call_list_of
theorem en_cb {r : List V → Hp → VK → Prop} {ts : TA} {as : List Ag} (h : EvA K C ts σ H as) (hr : ∀ H1, Same H H1 → ∀ vs, Args K C H1 vs as → ∀ Q : VK, (∀ p H2, H1 p = none → Same H1 H2 → CtAt K C H2 (.ref p) (.l p ds) → Q (.ref p) H2) → r vs H1 Q) : EvN K C (tCB r ts) σ H ds := fun H1 e1 Q q =>
  h H1 e1 _ fun vs H2 e2 a => hr H2 (e1.trans e2) vs a Q fun p H3 hp e3 => q p H3 (e2.free hp) (e2.trans e3)
theorem new_l {p : Addr} {xs : List V} (hp : H p = none) (d : TdAll K H xs ds) : CtAt K C (upd H p (.lst xs)) (.ref p) (.l p ds) := ⟨rfl, xs, upd_same, TdAll.mono (.of (same_new hp)) _ _ d⟩
theorem en_listZ {p : Addr} (h : EvC K C te σ H (.z p ds)) : EvN K C (tCB (rListOf K) (tCons te tNil)) σ H ds := en_cb (ea_cons h ea_nil) fun H1 _ vs a Q q => by
  obtain ⟨v, rfl, rfl, xs, s, d⟩ := a.one
  exact ⟨p, xs, rfl, .inl s.sq, fun l hl => q l _ hl (same_new hl) (new_l hl d)⟩
theorem ev_tupleL {p : Addr} (h : EvC K C te σ H (.l p ds)) : EvC K C (tCB (rTupleOf K) (tCons te tNil)) σ H (.d (.tuple ds)) := ev_cb (ea_consL h ea_nil) fun H1 _ vs a Q q => by
  obtain ⟨v, rfl, p, xs, rfl, s, d⟩ := a.one
  exact ⟨p, xs, rfl, .inl ⟨SqL.of s, fun l o hl ho => q _ _ (same_new hl) (new_t hl ho d)⟩⟩
theorem TdAll.bls : ∀ {bs : List Bool} {vs : List V}, TdAll K H vs (bs.map .bool) → vs = bs.map V.bl
  | [], _, h => by cases h; rfl
  | b :: bs, _, h => by
    cases h with
    | cons a r => rw [a.bl_of, TdAll.bls r]; rfl
theorem ev_allN {bs : List Bool} (h : EvN K C te σ H (bs.map .bool)) : EvC K C (tCB (rAll K) (tCons te tNil)) σ H (.d (.bool (bs.all id))) := ev_cb (ea_consN h ea_nil) fun H1 _ vs a Q q => by
  obtain ⟨v, rfl, p, xs, rfl, s, d⟩ := a.one
  rw [d.bls] at s
  exact ⟨p, bs, rfl, SqL.of s, q _ H1 (Same.refl H1) (.bl _)⟩
theorem atI_td {xs : List V} {k : Int} (a : TdAll K H xs ds) (h : atI ds k = some d) : ∃ v, atI xs k = some v ∧ Td K H v d := by
  unfold atI at h ⊢
  rw [a.length]
  cases e : ixN ds.length k with
  | none => rw [e] at h; cases h
  | some j =>
    rw [e] at h
    exact a.get h
theorem ev_ixT {k : Int} (ha : EvC K C ta σ H (.d (.tuple ds))) (hb : EvC K C tb σ H (.d (.int k))) (h : atI ds k = some d) : EvC K C (tOp (rIx K) ta tb) σ H (.d d) :=
  ev_op2 ha hb fun H1 _ x y a1 a2 Q q => by
    obtain ⟨p, xs, rfl, s, a⟩ := Td.tup_of a1
    obtain ⟨v, e, t⟩ := atI_td a h
    exact .inr (.inl ⟨p, xs, k, v, rfl, a2.int_of, s.sq, e, q v H1 (Same.refl H1) t⟩)
theorem ev_ixS {p : Addr} {k : Int} (ha : EvC K C ta σ H (.s p ds)) (hb : EvC K C tb σ H (.d (.int k))) (h : atI ds k = some d) : EvC K C (tOp (rIx K) ta tb) σ H (.d d) :=
  ev_op2 ha hb fun H1 _ x y a1 a2 Q q => by
    obtain ⟨rfl, xs, s, a⟩ := a1
    obtain ⟨v, e, t⟩ := atI_td a h
    exact .inl ⟨p, xs, k, v, rfl, a2.int_of, SqL.of s, e, q v H1 (Same.refl H1) t⟩
theorem ev_ixN {k : Int} (ha : EvN K C ta σ H ds) (hb : EvC K C tb σ H (.d (.int k))) (h : atI ds k = some d) : EvC K C (tOp (rIx K) ta tb) σ H (.d d) := fun H1 e1 Q q =>
  ha H1 e1 _ fun p H2 _ e2 a2 => hb H2 (e1.trans e2) _ fun y H3 e3 a3 => by
    obtain ⟨_, xs, s, a⟩ := CtAt.mono e3 a2
    obtain ⟨v, e, t⟩ := atI_td a h
    exact .inl ⟨p, xs, k, v, rfl, a3.int_of, SqL.of s, e, q v H3 (e2.trans e3) t⟩
theorem eo_none : EvO tNoPart σ H none := fun H1 _ _ q => q H1 (Same.refl H1)
theorem eo_some {k : Int} (h : EvC K C te σ H (.d (.int k))) : EvO (tPart te) σ H (some k) := fun H1 e _ q => h H1 e _ fun v H2 e2 a => ⟨k, a.int_of, q H2 e2⟩
def cutD {α : Type} (xs : List α) (lo hi : Option Int) : List α := (xs.drop (HT.sIx xs.length 0 lo)).take (HT.sIx xs.length xs.length hi - HT.sIx xs.length 0 lo)
theorem cut_td {xs : List V} (a : TdAll K H xs ds) (lo hi : Option Int) : TdAll K H (cutV xs lo hi) (cutD ds lo hi) := by
  unfold cutV cutD
  rw [a.length]
  exact (a.drop _).take _
def rSlU (K : PySem.W.Frag) : V → Option Int → Option Int → Hp → VK → Prop := fun x lo hi H Q => rSlL K x lo hi H Q ∨ rSlF K x lo hi H Q
theorem sl_U {X : Cx} : SlR X (rSlU X.K) := sl_list.or sl_tupF
theorem ev_slT {tl th : TO} {lo hi : Option Int} (h : EvC K C te σ H (.d (.tuple ds))) (h1 : EvO tl σ H lo) (h2 : EvO th σ H hi) : EvC K C (tSl (rSlU K) te tl th) σ H (.d (.tuple (cutD ds lo hi))) := fun H1 e Q q =>
  h H1 e _ fun v H2 e2 a => h1 H2 (e.trans e2) _ fun H3 e3 => h2 H3 ((e.trans e2).trans e3) _ fun H4 e4 => .inr (by
    obtain ⟨p, xs, rfl, s, d⟩ := Td.tup_of (CtAt.mono (e3.trans e4) a)
    refine ⟨p, xs, rfl, s.sq, fun hw => ?_, fun _ l o hl ho => q _ _ (((e2.trans e3).trans e4).trans (same_new hl)) (new_t hl ho (cut_td d lo hi))⟩
    refine q _ _ ((e2.trans e3).trans e4) ?_
    have z : cutD ds lo hi = ds := by
      unfold cutD
      rw [← d.length, hw.1, hw.2, Nat.sub_zero, List.drop_zero, d.length]
      exact List.take_length
    rw [z]
    exact .tup s d)
theorem en_addL {p : Addr} (ha : EvC K C ta σ H (.l p ds)) (hb : EvN K C tb σ H es) (hl : ds.length + es.length ≤ 10000000) : EvN K C (tOp (rAddU K) ta tb) σ H (ds ++ es) := fun H1 e1 Q q =>
  ha H1 e1 _ fun v H2 e2 a2 => hb H2 (e1.trans e2) _ fun p' H3 _ e3 a3 => .inr (.inr (by
    obtain ⟨rfl, xs, s1, d1⟩ := CtAt.mono e3 a2
    obtain ⟨_, ys, s2, d2⟩ := a3
    have l1 := d1.length
    have l2 := d2.length
    exact ⟨p, p', xs, ys, rfl, rfl, s1, s2, Nat.le_trans (by omega) (show 10000000 ≤ sizeLine by decide), fun l hl => q l _ ((e2.trans e3).free hl) ((e2.trans e3).trans (same_new hl)) (new_l hl (d1.append d2))⟩))
end
def spC (K : PySem.W.Frag) (C : Addr) (A : List Ag → PyData → Prop) : Sp := fun vs H Q _ => ∃ as d, Args K C H vs as ∧ A as d ∧ ∀ v H', Same H H' → Td K H' v d → Q v H'
def spN (K : PySem.W.Frag) (C : Addr) (A : List Ag → List PyData → Prop) : Sp := fun vs H Q _ => ∃ as ds, Args K C H vs as ∧ A as ds ∧ ∀ p H', H p = none → Same H H' → CtAt K C H' (.ref p) (.l p ds) → Q (.ref p) H'
section
variable {G : List (V × PyData)} {S : List Addr} {H0 : Hp} {σ : L2.St} {Γ : List Ct} {i j : Nat} {c : Ct} {te ta tb tc tl : TE} {t u : TT}
theorem ev_call {A : List Ag → PyData → Prop} {as : List Ag} {E : XK} {ts : TA} (h : EvA K C ts σ H as) (hA : A as d) : EvC K C (tCall (spC K C A) [] E ts) σ H (.d d) := fun H1 e1 Q q =>
  h H1 e1 _ fun vs H2 e2 a => ⟨as, d, by rw [List.append_nil]; exact a, hA, fun v H3 e3 t => q v H3 (e2.trans e3) t⟩
theorem en_call {A : List Ag → List PyData → Prop} {as : List Ag} {E : XK} {ts : TA} (h : EvA K C ts σ H as) (hA : A as ds) : EvN K C (tCall (spN K C A) [] E ts) σ H ds := fun H1 e1 Q q =>
  h H1 e1 _ fun vs H2 e2 a => ⟨as, ds, by rw [List.append_nil]; exact a, hA, fun p H3 hp e3 t => q p H3 (e2.free hp) (e2.trans e3) t⟩
def ArgsC (K : PySem.W.Frag) (C : Addr) (H : Hp) : List V → List Ct → Prop
  | [], [] => True
  | v :: vs, c :: cs => CtAt K C H v c ∧ ArgsC K C H vs cs
  | _, _ => False
theorem ArgsC.get : ∀ {vs : List V} {cs : List Ct} {i : Nat} {c : Ct}, ArgsC K C H vs cs → cs[i]? = some c → ∃ v, vs[i]? = some v ∧ CtAt K C H v c
  | [], [], _, _, _, e => by simp at e
  | v :: vs, c :: cs, 0, _, ⟨a, _⟩, e => by simp at e; subst e; exact ⟨v, rfl, a⟩
  | v :: vs, c :: cs, i + 1, _, ⟨_, b⟩, e => by
    obtain ⟨w, h1, h2⟩ := ArgsC.get b (show cs[i]? = _ by simpa using e)
    exact ⟨w, by simpa using h1, h2⟩
  | [], _ :: _, _, _, h, _ => h.elim
  | _ :: _, [], _, _, h, _ => h.elim
theorem ArgsC.length : ∀ {vs : List V} {cs : List Ct}, ArgsC K C H vs cs → vs.length = cs.length
  | [], [], _ => rfl
  | _ :: _, _ :: _, ⟨_, b⟩ => congrArg (· + 1) (ArgsC.length b)
  | [], _ :: _, h => h.elim
  | _ :: _, [], h => h.elim
theorem Wd.start0 {vs : List V} {cs : List Ct} {N : List Str} {S : List Addr} (h : ArgsC K C H vs cs) (hS : LT S H) (ho : ∀ c ∈ cs, c.own = true → ∀ a ∈ c.adr, a ∈ S)
    (hd : ∀ (i j : Nat) (c c' : Ct) (a : Addr), cs[i]? = some c → cs[j]? = some c' → a ∈ c.adr → a ∈ c'.adr → i = j ∨ (c.own = false ∧ c'.own = false)) (hl : vs.length ≤ N.length) :
    Wd K C S [] H H (L2.start N vs) (cs ++ List.replicate (N.length - vs.length) .u) := by
  have len := h.length
  have old : ∀ {i : Nat} {c : Ct}, (cs ++ List.replicate (N.length - vs.length) Ct.u)[i]? = some c → cs[i]? = some c ∨ c = .u := fun {i c} e => by
    by_cases hi : i < cs.length
    · rw [List.getElem?_append_left hi] at e; exact .inl e
    · rw [List.getElem?_append_right (by omega), List.getElem?_replicate] at e
      split at e
      · cases e; exact .inr rfl
      · cases e
  refine ⟨fun _ _ h _ => h, hS, ?_, fun i c e => ?_, fun i c e o a m => ?_, fun i j c c' a e e' m m' => ?_, fun p m => by simp at m⟩
  · unfold L2.start
    rw [List.length_append, List.length_append, List.length_map, List.length_replicate, List.length_replicate, len]
  · rcases old e with e | e
    · obtain ⟨v, h1, h2⟩ := h.get e
      refine .mk (v := v) ?_ h2
      unfold L2.start
      have hi := (List.getElem?_eq_some_iff.mp h1).1
      rw [List.getElem?_append_left (by simpa using hi), List.getElem?_map, h1]
      rfl
    · subst e; exact True.intro
  · rcases old e with e | e
    · exact .inl (ho c (List.mem_of_getElem? e) o a m)
    · subst e; cases o
  · rcases old e with e | e
    · rcases old e' with e' | e'
      · exact hd i j c c' a e e' m m'
      · subst e'; simp [Ct.adr] at m'
    · subst e; simp [Ct.adr] at m
theorem Wd.start {vs : List V} {cs : List Ct} {N : List Str} (h : ArgsC K C H vs cs) (ho : cs.all (fun c => !c.own) = true := by rfl) (hl : vs.length ≤ N.length := by decide) :
    Wd K C [] [] H H (L2.start N vs) (cs ++ List.replicate (N.length - vs.length) .u) := by
  have no : ∀ c ∈ cs, c.own = false := fun c m => by
    have := List.all_eq_true.mp ho c m
    simpa using this
  exact Wd.start0 h LT.nil (fun c m o => by rw [no c m] at o; cases o) (fun i j c c' a e e' _ _ => .inr ⟨no c (List.mem_of_getElem? e), no c' (List.mem_of_getElem? e')⟩) hl
variable {D : Ends} {tu tw : TS}
theorem s_seq (h : tu { D with nx := tw D } σ H) : tSeq tu tw D σ H := h
theorem s_next (h : D.nx σ H) : tNext D σ H := h
theorem s_asg (w : Wd K C S G H0 H σ Γ) (h : EvC K C te σ H c) (k : ∀ v σ1 H1, CtAt K C H1 v c → Wd K C S G H0 H1 σ1 (Γ.set i c) → D.nx σ1 H1) (ha : c.adr = [] := by rfl) : tAsg te (gName i) D σ H :=
  h H (Same.refl H) _ fun v H1 e a => k v _ H1 a ((w.mono e).set i a ha)
theorem s_asgN (w : Wd K C S G H0 H σ Γ) (h : EvN K C te σ H ds) (k : ∀ p σ1 H1, H0 p = none → Wd K C S G H0 H1 σ1 (Γ.set i (.l p ds)) → D.nx σ1 H1) : tAsg te (gName i) D σ H :=
  h H (Same.refl H) _ fun p H1 hp e a => k p _ H1 (w.fresh0 hp) (w.setN i e hp a)
theorem s_if (w : Wd K C S G H0 H σ Γ) {b : Bool} (h : EvT t σ H b) (h1 : b = true → ∀ H1, Wd K C S G H0 H1 σ Γ → tu D σ H1) (h2 : b = false → ∀ H1, Wd K C S G H0 H1 σ Γ → tw D σ H1) : tIfS t tu tw D σ H := h H (Same.refl H) _ fun H1 e => by
  cases b with
  | true => exact h1 rfl H1 (w.mono e)
  | false => exact h2 rfl H1 (w.mono e)
theorem s_ret (w : Wd K C S G H0 H σ Γ) (h : EvC K C te σ H c) (k : ∀ v H1, Wd K C S G H0 H1 σ Γ → CtAt K C H1 v c → D.rt v H1) : tRet te D σ H := h H (Same.refl H) _ fun v H1 e a => k v H1 (w.mono e) a
theorem s_drop (w : Wd K C S G H0 H σ Γ) (h : EvC K C te σ H c) (k : ∀ H1, Wd K C S G H0 H1 σ Γ → D.nx σ H1) : tDrop te D σ H := h H (Same.refl H) _ fun v H1 e a => k H1 (w.mono e)
theorem s_app (w : Wd K C S G H0 H σ Γ) {p : Addr} (hi : Γ[i]? = some (.l p ds)) (h : EvC K C te σ H (.d d)) (hz : ds.length < 10000000) (k : ∀ H1, Wd K C S G H0 H1 σ (Γ.set i (.l p (ds ++ [d]))) → D.nx σ H1) :
    tDrop (tBM K "list" rAppend (tVar i) (tCons te tNil)) D σ H := by
  obtain ⟨v, e1, rfl, xs, e2, e3⟩ := w.get hi
  refine ⟨.ref p, e1, .inl ⟨rfl, xs, SqL.of e2⟩, ?_⟩
  refine h H (Same.refl H) _ fun y H1 e a => ?_
  refine ⟨p, xs, y, rfl, rfl, e _ _ e2, Nat.lt_of_lt_of_le (by rw [e3.length]; exact hz) (show 10000000 ≤ sizeLine by decide), ?_⟩
  exact k _ ((w.mono e).chg hi ((TdAll.mono (.of e) _ _ e3).append (.cons a .nil)))
theorem s_forR1 (w : Wd K C S G H0 H σ Γ) {n : Int} {ts : TA} (h : EvA K C ts σ H [.c (.d (.int n))]) (hn : n ≤ 10000000 ∧ -10000000 ≤ n) (Pv : Nat → L2.St → Hp → Prop) (h0 : ∀ H1, Wd K C S G H0 H1 σ Γ → Pv 0 σ H1)
    (hs : ∀ (k : Nat) σ' H', (k : Int) < n → Pv k σ' H' → tu { D with nx := Pv (k + 1), ct := Pv (k + 1), bk := D.nx } (σ'.set j (some (.int (k : Int)))) H') (hd : ∀ σ' H', Pv n.toNat σ' H' → D.nx σ' H') : tFor (iRng1 ts) (gName j) tu D σ H :=
  h H (Same.refl H) _ fun vs H1 e a => by
    obtain ⟨v, rfl, a1⟩ := a.one
    rw [Td.int_of a1]
    refine ⟨n, rfl, by omega, by omega, for_range (lo := 0) (n := n.toNat) Pv (h0 H1 (w.mono e)) (fun k σ' H' hk p => ?_) hd⟩
    show tu { D with nx := Pv (k + 1), ct := Pv (k + 1), bk := D.nx } (σ'.set j (some (.int ((0 : Int) + (k : Int))))) H'
    rw [Int.zero_add]
    exact hs k σ' H' (by omega) p
theorem Wd.ghost (w : Wd K C S G H0 H σ Γ) (h : Td K H v d) : Wd K C S ((v, d) :: G) H0 H σ Γ := ⟨w.fr, w.sl, w.len, w.at_, w.wr, w.dj, fun p m => by
  rcases List.mem_cons.mp m with z | z
  · subst z; exact h
  · exact w.gh p z⟩
theorem Wd.gh0 (w : Wd K C S ((v, d) :: G) H0 H σ Γ) : Td K H v d := w.gh _ List.mem_cons_self
def Turns (J : It) (g : TG) (tu : TS) (D : Ends) (σ : L2.St) (H : Hp) : Prop := ∃ W : Nat → Nat → L2.St → Hp → Prop, (∃ m, W 0 m σ H) ∧ ∀ i m σ H, W i m σ H →
  (J.stop i H ∧ D.nx σ H) ∨ (J.go i H ∧ ∃ N : L2.St → Hp → Prop, (∀ σ' H', N σ' H' → ∃ m', m' < m ∧ W (i + 1) m' σ' H') ∧ ∀ x H', J.yld i H x H' → g x σ H' fun σ2 H2 => tu { D with nx := N, ct := N, bk := D.nx } σ2 H2)
def Nth (K : PySem.W.Frag) (ds : List PyData) : Nat → Hp → V → Hp → Prop := fun i H v H' => H' = H ∧ ∃ d, ds[i]? = some d ∧ Td K H v d
theorem told_T {a : Addr} : Walk (Itt K a) ds.length (fun H => Td K H (.ref a) (.tuple ds)) (Nth K ds) := by
  have see : ∀ {H}, Td K H (.ref a) (.tuple ds) → ∃ xs, SqT K H a xs ∧ TdAll K H xs ds := fun t => by
    obtain ⟨_, xs, e, s, all⟩ := Td.tup_of t
    cases e
    exact ⟨xs, s.sq, all⟩
  refine ⟨fun i H lt t => ?_, fun H t => ?_, fun i H v H' _ t y => ?_⟩ <;> obtain ⟨xs, s, all⟩ := see t
  · exact ⟨xs, xs[i]'(by rw [all.length]; exact lt), s, List.getElem?_eq_getElem _⟩
  · exact ⟨xs, s, Nat.le_of_eq all.length⟩
  · exact ⟨y.1, all.get' (y.2 xs s)⟩
theorem told_L {a : Addr} : Walk (Itl K a) ds.length (fun H => ∃ xs, SqL K H a xs ∧ TdAll K H xs ds) (Nth K ds) :=
  ⟨fun i _ lt ⟨xs, s, all⟩ => ⟨xs, xs[i]'(by rw [all.length]; exact lt), s, List.getElem?_eq_getElem _⟩, fun _ ⟨xs, s, all⟩ => ⟨xs, s, Nat.le_of_eq all.length⟩, fun _ _ _ _ _ ⟨xs, s, all⟩ y => ⟨y.1, all.get' (y.2 xs s)⟩⟩
theorem turns_nth {J : It} {G : Hp → Prop} {g : TG} {D : Ends} (w : Walk J ds.length G (Nth K ds)) (Pv : Nat → L2.St → Hp → Prop) (h0 : Pv 0 σ H) (hw : ∀ k σ' H', Pv k σ' H' → G H')
    (hs : ∀ k d v σ' H', ds[k]? = some d → Td K H' v d → Pv k σ' H' → g v σ' H' fun σ2 H2 => tu { D with nx := Pv (k + 1), ct := Pv (k + 1), bk := D.nx } σ2 H2) (hd : ∀ σ' H', Pv ds.length σ' H' → D.nx σ' H') : Turns J g tu D σ H :=
  for_it w Pv h0 (fun k σ' H' _ p => hw k σ' H' p) (fun k v σ' H1 H' _ p ⟨e, d, at_, t⟩ => by subst e; exact hs k d v σ' _ at_ t p) hd
theorem walkL {a : Addr} {g : TG} {D : Ends} (Pv : Nat → L2.St → Hp → Prop) (h0 : Pv 0 σ H) (hw : ∀ k σ' H', Pv k σ' H' → ∃ xs, H' a = some (.lst xs) ∧ TdAll K H' xs ds)
    (hs : ∀ k d v σ' H', ds[k]? = some d → Td K H' v d → Pv k σ' H' → g v σ' H' fun σ2 H2 => tu { D with nx := Pv (k + 1), ct := Pv (k + 1), bk := D.nx } σ2 H2) (hd : ∀ σ' H', Pv ds.length σ' H' → D.nx σ' H') : Turns (Itl K a) g tu D σ H := turns_nth told_L Pv h0 (fun k σ' H' p => let ⟨xs, s, t⟩ := hw k σ' H' p; ⟨xs, SqL.of s, t⟩) hs hd
theorem wipe1 (σ : L2.St) (j : Nat) (x : Option V) : wipe ((wipe σ [j]).set j x) [j] = wipe σ [j] := by
  simp [wipe, List.set_set]
theorem Wd.wiped (w : Wd K C S G H0 H σ Γ) (j : Nat) : Wd K C S G H0 H (wipe σ [j]) (Γ.set j .u) := by
  have w1 := w.drop j
  unfold wipe wipe
  refine ⟨w1.fr, w1.sl, by rw [List.length_set]; exact w1.len, fun i c hi => ?_, w1.wr, w1.dj, w1.gh⟩
  by_cases e : i = j
  · subst e
    rcases set_cases hi with ⟨_, rfl, _⟩ | ⟨ne, _⟩
    · exact True.intro
    · exact absurd rfl ne
  · rw [List.getElem?_set_ne (Ne.symm e)]
    exact w1.at_ i c hi
def Cw (K : PySem.W.Frag) (H : Hp) (Dl : Addr) (es : List PyData) (H' : Hp) : Prop := H Dl = none ∧ Same H H' ∧ ∃ acc, H' Dl = some (.lst acc) ∧ TdAll K H' acc es
theorem Cw.start {Dl : Addr} (h : H Dl = none) : Cw K H Dl [] (upd H Dl (.lst [])) := ⟨h, same_new h, [], upd_same, .nil⟩
theorem cw_turn {Dl : Addr} {σ2 : L2.St} {b : Bool} (p : Cw K H Dl es H') (hl : es.length < 10000000) (ht : EvT t σ2 H b) (he : b = true → EvC K C te σ2 H (.d d)) :
    t σ2 H' fun b' H3 => if b' = true then te σ2 H3 fun y H4 => ∃ acc, H4 Dl = some (.lst acc) ∧ acc.length < sizeLine ∧ Cw K H Dl (if b = true then es ++ [d] else es) (upd H4 Dl (.lst (acc ++ [y]))) else Cw K H Dl (if b = true then es ++ [d] else es) H3 := by
  obtain ⟨p1, p2, acc, p3, p4⟩ := p
  refine ht H' p2 _ fun H3 e3 => ?_
  cases b with
  | true =>
    show te σ2 H3 fun y H4 => ∃ acc, H4 Dl = some (.lst acc) ∧ acc.length < sizeLine ∧ Cw K H Dl (es ++ [d]) (upd H4 Dl (.lst (acc ++ [y])))
    refine he rfl H3 (p2.trans e3) _ fun y H4 e4 a4 => ?_
    have s4 := e3.trans e4
    have q := s4 _ _ p3
    refine ⟨acc, q, Nat.lt_of_lt_of_le (by rw [p4.length]; exact hl) (show 10000000 ≤ sizeLine by decide), p1, fun a o ha => ?_, acc ++ [y], upd_same, ?_⟩
    · rw [upd_ne (ne_of_none ha p1)]
      exact s4 _ _ (p2 _ _ ha)
    · exact TdAll.mono (.fr (LT.one q) Fr.upd) _ _ ((TdAll.mono (.of s4) _ _ p4).append (.cons a4 .nil))
  | false =>
    exact ⟨p1, p2.trans e3, acc, e3 _ _ p3, TdAll.mono (.of e3) _ _ p4⟩
def kept {α : Type} (f : α → Bool) (g : α → PyData) (l : List α) : List PyData := (l.filter f).map g
theorem kept_step {α : Type} {f : α → Bool} {g : α → PyData} {l : List α} {k : Nat} {x : α} (h : l[k]? = some x) : kept f g (l.take (k + 1)) = if f x = true then kept f g (l.take k) ++ [g x] else kept f g (l.take k) := by
  unfold kept
  rw [List.take_add_one, h]
  show List.map g (List.filter f (l.take k ++ [x])) = _
  rw [List.filter_append, List.map_append]
  cases e : f x with
  | true => simp [e]
  | false => simp [e]
theorem kept_len {α : Type} {f : α → Bool} {g : α → PyData} {l : List α} {k : Nat} : (kept f g (l.take k)).length ≤ l.length := by
  unfold kept
  rw [List.length_map]
  exact Nat.le_trans (List.length_filter_le _ _) (by rw [List.length_take]; exact Nat.min_le_right _ _)
theorem en_lcT {α : Type} {l : List α} {mk : α → PyData} (w : Wd K C S G H0 H σ Γ) (hl : EvC K C tl σ H (.d (.tuple (l.map mk)))) (f : α → Bool) (g : α → PyData) (hz : l.length < 10000000)
    (ht : ∀ x ∈ l, ∀ σ1 H1, Wd K C S G H0 H1 σ1 ((Γ.set j .u).set j (.d (mk x))) → EvT t σ1 H1 (f x)) (he : ∀ x ∈ l, ∀ σ1 H1, Wd K C S G H0 H1 σ1 ((Γ.set j .u).set j (.d (mk x))) → f x = true → EvC K C te σ1 H1 (.d (g x))) :
    EvN K C (tLc (iTup K tl) (gName j) t te [j]) σ H (kept f g l) := fun H1 e1 Q q => hl H1 e1 _ fun v H2 e2 a => by
  obtain ⟨p, xs, rfl, s, td⟩ := Td.tup_of a
  have len : xs.length = l.length := by rw [td.length, List.length_map]
  refine ⟨p, rfl, ⟨xs, s.sq⟩, fun Dl hD => lc_tup (xs := xs) (fun k H' => Cw K H2 Dl (kept f g (l.take k)) H') (by rw [List.take_zero]; exact Cw.start hD) (fun k H' _ c => ((Tx.of c.2.1).sqF s).sq) (fun k x H' hk c => ?_) (fun H' c => ?_)⟩
  · have hk' : k < l.length := by rw [← len]; exact (List.getElem?_eq_some_iff.mp hk).1
    have ek : l[k]? = some l[k] := List.getElem?_eq_getElem hk'
    obtain ⟨d, h1, h2⟩ := td.get' hk
    have ed : d = mk l[k] := by rw [List.getElem?_map, ek] at h1; exact (Option.some.inj h1).symm
    subst ed
    have w2 : Wd K C S G H0 H2 ((wipe σ [j]).set j (some x)) ((Γ.set j .u).set j (.d (mk l[k]))) := ((w.mono (e1.trans e2)).wiped j).set j h2
    have m : l[k] ∈ l := List.getElem_mem hk'
    show wipe ((wipe σ [j]).set j (some x)) [j] = wipe σ [j] ∧ _
    refine ⟨wipe1 σ j _, ?_⟩
    have z := cw_turn (C := C) (te := te) (d := g l[k]) c (Nat.lt_of_le_of_lt kept_len hz) (ht _ m _ _ w2) (he _ m _ _ w2)
    rw [← kept_step ek] at z
    exact z
  · rw [len, List.take_length] at c
    obtain ⟨c1, c2, acc, c3, c4⟩ := c
    exact q Dl H' (e2.free c1) (e2.trans c2) ⟨rfl, acc, c3, c4⟩
theorem ev_lend {p : Addr} (h : EvC K C te σ H (.l p ds)) : EvC K C te σ H (.s p ds) := h
theorem et_yes : EvT tYes σ H true := fun H1 _ Q q => q H1 (Same.refl H1)
end
end Pt
namespace Pt
open PySem PySem.Spec PyProof.Rows L2
def twoNew (o : Obj) (h : Heap) : Heap := (h.push o).push { cls := .type "enumerate", data := .fields #[.none, .bool false, .ref h.objs.size, rawInt 0, .none, .none] }
open AutoSeq1 (wpAny_loadPart') in
theorem enum_made {v : Value} {o : Obj} {Ok : Heap → Prop} (B : Begins v o Ok) : Meets (Builtin.«enumerate.__new__» ⟨[.type "enumerate", v], []⟩) (fun _ R s => Ok s.heap ∧ R (.ok (.ret (.ref (s.heap.objs.size + 1)))) { s with heap := twoNew o s.heap }) := by
  refine .of_wp fun prog w A R ⟨hp, gs, dr, tk, os⟩ ⟨ok, q⟩ => ?_
  have sub := sub_enumerate
  have more : (hp.push o).objs.size = hp.objs.size + 1 := Heap.size_push ..
  have iter : ∀ {A' : Around} {E Q : Value → Shared → Prop}, Q (.ref hp.objs.size) ⟨hp.push o, gs, dr, tk, os⟩ → wpAny (model prog w) A' (pyIter v) Q E ⟨hp, gs, dr, tk, os⟩ := B.iter prog w _ _ ⟨hp, gs, dr, tk, os⟩ _ ok
  have fin : ∀ {a : Addr}, a = (hp.push o).objs.size → R (.ok (.ret (.ref a))) ⟨twoNew o hp, gs, dr, tk, os⟩ := fun e => by rw [e, more]; exact q
  wp_walk using iter
  refine wpAny_stack_any fun st => wpAny_pure ?_
  split <;> first
    | (rename_i c _ _ _ _ _; cases (c == Value.type "enumerate") <;> (wp_walk using iter; exact ⟨_, rfl, fin rfl⟩))
    | (wp_walk using iter; exact ⟨_, rfl, fin rfl⟩)
theorem call_enumG {prog : Program} {w : World} {A : Around} {E Q : Value → Shared → Prop} {s : Shared} {v : Value} {o : Obj} {Ok : Heap → Prop} (B : Begins v o Ok) (ok : Ok s.heap)
    (q : ∀ h', (∀ b ob, s.heap.get? b = some ob → h'.get? b = some ob) → h'.get? s.heap.objs.size = some o → IsEnum h' (s.heap.objs.size + 1) s.heap.objs.size 0 .none → Q (.ref (s.heap.objs.size + 1)) { s with heap := h' }) : wpAny (model prog w) A (call (.type "enumerate") [v]) Q E s := by
  have at1 : (twoNew o s.heap).get? (s.heap.objs.size + 1) = some { cls := .type "enumerate", data := .fields #[.none, .bool false, .ref s.heap.objs.size, rawInt 0, .none, .none] } := by
    rw [← Heap.size_push s.heap o]
    exact Heap.get?_push_size _ rfl
  exact callType_new F.called_enumerate (by decide) (F.typeCall_enumerate_1 v) (F.newCall_enumerate_1 v) (fun z => F.args_object_init_2 z v) F.entry_enumerate_new (enum_made B)
    ⟨ok, ⟨_, at1, rfl⟩, q _ (fun b ob z => Heap.get?_push_of_some _ (Heap.get?_push_of_some _ z)) (Heap.get?_push_of_some _ (Heap.get?_push_size _ B.free)) at1⟩
def ItE (J : It) : It := ⟨J.go, fun i H v H' => ∃ T x, v = .ref T ∧ H T = none ∧ H' = upd H T (.tup [.int (i : Nat), x]) ∧ J.yld i H x H, J.stop⟩
structure DrawSrc (P : Program) (w : World) (K : PySem.W.Frag) (J : It) (it : Addr) (st : Nat → Heap → Prop) : Prop where
  obj : ∀ i h, st i h → ∃ o, h.get? it = some o ∧ ∀ v, o.data ≠ .cell v
  keep : ∀ i h h', st i h → (∀ o, h.get? it = some o → h'.get? it = some o) → st i h'
  draw : ∀ (X : Cx), X.prog = P → X.w = w → X.K = K → X.calm = true → ∀ (i : Nat) (pins : List (Addr × Obj)) (s : Shared) (σ : L2.St) (H : Hp), Inv X pins σ H s → st i s.heap → J.go i H → ∃ (fp : List Addr) (n : Nat) (Pv : Nat → Value → Prop) (Sv : Nat → Heap → Prop), Draws P w X.A.in1 it fp n Pv Sv ∧ (∀ b ∈ fp, ∃ o, s.heap.get? b = some o ∧ o.cls ≠ .type "enumerate") ∧ i < n ∧ Sv i s.heap ∧ (∀ h, Sv (i + 1) h → st (i + 1) h) ∧ ∀ u, Pv i u → ∃ x, RelV x u ∧ J.yld i H x H
  over : ∀ (X : Cx), X.prog = P → X.w = w → X.K = K → X.calm = true → ∀ (i : Nat) (pins : List (Addr × Obj)) (s : Shared) (σ : L2.St) (H : Hp), Inv X pins σ H s → st i s.heap → J.stop i H → ∃ (fp : List Addr) (n : Nat) (Pv : Nat → Value → Prop) (Sv : Nat → Heap → Prop), Draws P w X.A.in1 it fp n Pv Sv ∧ Sv n s.heap
section
variable {P : Program} {w : World} {K : PySem.W.Frag} {J : It} {it : Addr} {st : Nat → Heap → Prop}
theorem turn_enumG {elts : List Expr} {kk : Nat} {tpos : Pos} (S : DrawSrc P w K J it st) (e : Addr) : Turn P w K (.Tuple elts kk tpos) (ItE J) [e, it] e (fun i h => e ≠ it ∧ st i h ∧ ∃ old, IsEnum h e it ((i : Nat) : Int) old) where
  mem := List.mem_cons_self
  obj := fun i h z b m => by
    obtain ⟨_, z, _, en⟩ := z
    simp only [List.mem_cons, List.not_mem_nil, or_false] at m
    rcases m with rfl | rfl
    · exact ⟨_, en, fun v => nofun⟩
    · exact S.obj i h z
  keep := fun i h h' z k => ⟨z.1, S.keep i h h' z.2.1 (k it (by simp)), z.2.2.choose, k e (by simp) _ z.2.2.choose_spec⟩
  item := by
    rintro X rfl rfl rfl hc i pins s σ H E I free ⟨ne, z, old, en⟩ go
    obtain ⟨fp, n, Pv, Sv, D, other, lt, z1, nxt, val⟩ := S.draw X rfl rfl rfl hc i pins s σ H I z go
    have apart : e ∉ fp := fun m => by
      obtain ⟨o, h1, h2⟩ := other e m
      rw [en] at h1
      cases h1
      exact h2 rfl
    refine wpAny_pyNext_enum_itemD D en z1 lt ne apart fun u h1 tk pu out z2 tup _ k1 => ⟨_, rfl, wpAny_letOwnedTupleGo_enum (s := { s with heap := h1, toks := tk + 1 }) out fun h2 en2 same => ?_⟩
    obtain ⟨x, rx, y⟩ := val u pu
    have older : ∀ b ∈ [e, it], b < s.heap.objs.size := fun b m => by
      simp only [List.mem_cons, List.not_mem_nil, or_false] at m
      rcases m with rfl | rfl
      · exact Heap.lt_size en
      · exact Heap.lt_size (S.obj i _ z).choose_spec.1
    have tup2 := (same.2 s.heap.objs.size (Nat.ne_of_gt (older e (by simp)))).trans tup
    have k2 : ∀ b ob, b ∉ [e, it] → s.heap.get? b = some ob → h2.get? b = some ob := fun b ob m q => by
      simp only [List.mem_cons, List.not_mem_nil, or_false, not_or] at m
      exact (same.2 b m.1).trans (k1 b ob m.1 m.2 q)
    refine ⟨.ref s.heap.objs.size, _, I.turnedNew (t' := tk + 1) (ob := .tup [.int (i : Nat), x]) k2 free (Nat.le_refl _) ⟨show 2 ≤ sizeLine by decide, [.int i tk, u], .cons ⟨_, rfl⟩ (.cons rx .nil), _, tup2, rfl, _, rfl⟩, rfl, ⟨_, x, rfl, I.hok.fresh (Nat.le_refl _), rfl, y⟩, ⟨ne, S.keep _ h1 h2 (nxt h1 z2) fun o q => (same.2 it ne.symm).trans q, u, en2⟩, fun b m => ?_⟩
    rw [upd_ne (Nat.ne_of_lt (older b m))]
    exact (free b m).1
  done := by
    rintro X rfl rfl rfl hc i pins s σ H E I free ⟨ne, z, old, en⟩ stop
    obtain ⟨fp, n, Pv, Sv, D, z1⟩ := S.over X rfl rfl rfl hc i pins s σ H I z stop
    obtain ⟨g0, g1, g2, g3, g4, g5⟩ := free it (by simp)
    exact wpAny_pyNext_enum_endD D en z1 fun h1 k => ⟨rfl, I.turned (t' := s.toks) (fun b o m q => k b o m q) g0 g1 g3 g4 g5⟩
  self := fun A i s Q E z h => wpAny_pyIter_enum z.2.2.choose_spec h
end
theorem pi_enumG {X : Cx} {e : Expr} {ta : TA} {p pos tpos : Pos} {elts : List Expr} {kk : Nat} {Wv : List V → Hp → (It → Hp → Prop) → Prop} (hg : Gl X "enumerate") (hm : X.mg "enumerate" = none) (ha : PA X [e] ta)
    (src : ∀ (pins : List (Addr × Obj)) (s : Shared) (σ : L2.St) (H : Hp) (R : It → Hp → Prop) (vs : List V) (us : List Value), Inv X pins σ H s → Vals vs us → Wv vs H R →
      ∃ (v : Value) (o : Obj) (Ok : Heap → Prop) (J : It) (st : Nat → Heap → Prop), us = [v] ∧ Begins v o Ok ∧ Ok s.heap ∧ DrawSrc X.prog X.w X.K J s.heap.objs.size st ∧ (∀ h, h.get? s.heap.objs.size = some o → st 0 h) ∧ R (ItE J) H)
    (hs : starEach [e] X.env = [(false, eval e X.env)] := by rfl) : PI X (.Tuple elts kk tpos) (.Call (.Name "enumerate" p) [e] [] pos) (fun σ H R => ta σ H fun vs H1 => Wv vs H1 R) := ⟨fun pins s σ H R I h => by
  refine Call_ (ld_blt I hg hm boot_enumerate (PyProof.Rows.callWith_type1 (thn (ha.run pos pins s σ H _ I h) fun us s1 ⟨vs, H1, I1, r1, q1⟩ => ?_) hs rfl))
  obtain ⟨v, o, Ok, J, st, rfl, B, ok, S, st0, q⟩ := src pins s1 σ H1 R vs us I1 r1 q1
  refine call_enumG B ok fun h1 k at0 en => wpAny_pyIter_enum en ⟨_, _, _, _, H1, rfl, I1.kept (t' := s1.toks) k, turn_enumG S _, ⟨Nat.succ_ne_self _, st0 h1 at0, .none, en⟩, fun b m => ?_, q⟩
  have le : s1.heap.objs.size ≤ b := by
    simp only [List.mem_cons, List.not_mem_nil, or_false] at m
    rcases m with rfl | rfl
    · exact Nat.le_succ _
    · exact Nat.le_refl _
  exact I1.fpOk le (I1.hok.fresh le)⟩
theorem src_tup {P : Program} {w : World} {K : PySem.W.Frag} (a it : Addr) : DrawSrc P w K (Itt K a) it (fun i h => h.IsTupleIter it a i) where
  obj := fun i h ⟨o, h1, _, h2⟩ => ⟨o, h1, fun v z => by rw [h2] at z; cases z⟩
  keep := fun i h h' ⟨o, h1, h2⟩ k => ⟨o, k o h1, h2⟩
  draw := by
    rintro X rfl rfl rfl hc i pins s σ H I z ⟨xs, x, hs, hx⟩
    obtain ⟨its, rv, ⟨o, g1, g2, g3⟩, hz⟩ := I.tuple hs
    obtain ⟨ot, t1, t2, t3⟩ := id z
    obtain ⟨u, hu, ru⟩ := rv.get hx
    have ne : a ≠ it := fun q => by
      subst q
      rw [g1] at t1
      cases t1
      rw [g2] at t2
      exact absurd t2 (by decide)
    refine ⟨_, _, _, _, Draws.tuple (A := X.A.in1) (show X.A.in1.handled = none from I.ok.hd hc) it a ne its.toArray, fun b m => ?_, ?_, ⟨z, o, g1, g2, g3⟩, fun h q => q.1, fun u' hu' => ⟨x, ?_, rfl, fun ys hy => by rw [I.tuple_inj hy hs]; exact hx⟩⟩
    · simp only [List.mem_cons, List.not_mem_nil, or_false] at m
      rcases m with rfl | rfl
      · exact ⟨ot, t1, by rw [t2]; decide⟩
      · exact ⟨o, g1, by rw [g2]; decide⟩
    · have := (List.getElem?_eq_some_iff.mp hu).1
      simpa using this
    · have : its[i]? = some u' := by simpa using hu'
      rw [hu] at this
      cases this
      exact ru
  over := by
    rintro X rfl rfl rfl hc i pins s σ H I z ⟨xs, hs, hx⟩
    obtain ⟨its, rv, p, hz⟩ := I.tuple hs
    have gone : its.toArray[i]? = none := by
      have := rv.length
      simp
      omega
    refine ⟨[it, a], i, fun _ _ => False, fun j h => j = i ∧ h.IsTupleIter it a i ∧ h.IsTuple a its.toArray, ⟨fun j h q => let ⟨o, q, _⟩ := q.2.1; ⟨o, q⟩, ?_, ?_, ?_⟩, rfl, z, p⟩
    · exact fun j h h' q k => ⟨q.1, q.2.1.at fun o z => k it (by simp) o z, q.2.2.at fun o z => k a (by simp) o z⟩
    · exact fun j s' Q E lt q => absurd q.1 (by omega)
    · exact fun s' Q E q hE => wpAny_nextOf_tuple_end (show X.A.in1.handled = none from I.ok.hd hc) q.2.1 q.2.2 gone hE
def Itet (K : PySem.W.Frag) (a : Addr) : It := ItE (Itt K a)
def iEnumT (K : PySem.W.Frag) (ta : TA) : TI := fun σ H R => ta σ H fun vs H1 => ∃ a xs, vs = [.ref a] ∧ SqT K H1 a xs ∧ R (Itet K a) H1
theorem pi_enumT {X : Cx} {e : Expr} {ta : TA} {p pos tpos : Pos} {elts : List Expr} {kk : Nat} (hg : Gl X "enumerate") (hm : X.mg "enumerate" = none) (ha : PA X [e] ta) (hs : starEach [e] X.env = [(false, eval e X.env)] := by rfl) : PI X (.Tuple elts kk tpos) (.Call (.Name "enumerate" p) [e] [] pos) (iEnumT X.K ta) :=
  pi_enumG hg hm ha (fun pins s σ H R vs us I r z => by
    obtain ⟨a, xs, rfl, hq, q⟩ := z
    obtain ⟨u, rfl, ru⟩ := r.one
    obtain rfl : u = .ref a := ru
    obtain ⟨its, rv, p', hz⟩ := I.tuple hq
    exact ⟨_, _, _, _, _, rfl, begins_tuple a its.toArray, p', src_tup a _, fun h q => ⟨_, q, rfl, rfl⟩, q⟩) hs
end Pt
namespace Pt
open PySem PySem.Spec PyProof.Rows L2
variable {X : Cx} {o i e : Expr} {td ty tv : TE} {pos pos' : Pos}
abbrev Told (X : Cx) (W : V → V → Hp → VK → Prop) (Then : (List (Addr × Obj)) → Shared → L2.St → Hp → VK → Value → Value → Prop) : Prop := ∀ (pins : List (Addr × Obj)) (s : Shared) (σ : L2.St) (H : Hp) (x y : V) (u v : Value) (Q : VK), Inv X pins σ H s → RelV x u → RelV y v → W x y H Q → Then pins s σ H Q u v
theorem pe_at {W : V → V → Hp → VK → Prop} (go : Told X W fun pins s σ _ Q u v => s.TypeIs u "dict" ∧ wpAny (model X.prog X.w) X.A (getItem u v) (EP X pins σ Q) X.xe s) (ho : PE X o td) (hi : PE X i ty) (hs : NoSl i) : PE X (.Subscript o i pos) (fun σ H Q => td σ H fun x H1 => ty σ H1 fun y H2 => W x y H2 Q) :=
  ⟨fun pins _ σ _ Q I h => subD_of PySem.F.slot_dict_getitem.lookup hs (thn (ho.run pins _ σ _ _ I h) fun _ _ ⟨_, _, I1, r1, h1⟩ => thn (hi.run pins _ σ _ _ I1 h1) fun _ _ ⟨_, _, I2, r2, h2⟩ => go pins _ σ _ _ _ _ _ Q I2 r1 r2 h2)⟩
theorem pc_at {op : CmpOp} {W : V → V → Hp → VK → Prop} (go : Told X W fun pins s σ _ Q v u => wpAny (model X.prog X.w) X.A (compareOp op v u) (EP X pins σ Q) X.xe s) (hi : PE X i ty) (ho : PE X o td) : PC X op i o (fun σ H Q => ty σ H fun y H1 => td σ H1 fun x H2 => W y x H2 Q) :=
  ⟨fun pins _ σ _ Q I h => thn (hi.run pins _ σ _ _ I h) fun _ _ ⟨_, _, I1, r1, h1⟩ => thn (ho.run pins _ σ _ _ I1 h1) fun _ _ ⟨_, _, I2, r2, h2⟩ => go pins _ σ _ _ _ _ _ Q I2 r1 r2 h2⟩
theorem ps_at {W : V → V → V → Hp → (Hp → Prop) → Prop} (go : ∀ (pins : List (Addr × Obj)) (s : Shared) (σ : L2.St) (H : Hp) (x y z : V) (u v w : Value) (Q : Hp → Prop), Inv X pins σ H s → RelV x u → RelV y v → RelV z w → W x y z H Q → wpAny (model X.prog X.w) X.A (setItem u v w) (fun _ s' => ∃ H', Inv X pins σ H' s' ∧ Q H') X.xe s) (ho : PE X o td) (hi : PE X i ty) (he : PE X e tv) (hs : swapsWith e (some (.Subscript o i pos')) pos.line X.env = pure false) :
    PS X (.Assign [.Subscript o i pos'] e pos) (fun D σ H => tv σ H fun z H1 => td σ H1 fun x H2 => ty σ H2 fun y H3 => W x y z H3 (D.nx σ)) :=
  ⟨fun pins _ σ _ D I h => wpAny_Assign_Subscript (thn (he.run pins _ σ _ _ I h) fun _ _ ⟨_, _, I1, r1, h1⟩ => thn (ho.run pins _ σ _ _ I1 h1) fun _ _ ⟨_, _, I2, r2, h2⟩ => thn (hi.run pins _ σ _ _ I2 h2) fun _ _ ⟨_, _, I3, r3, h3⟩ => wpAny_mono (go pins _ σ _ _ _ _ _ _ _ _ I3 r2 r3 r1 h3) (fun _ _ ⟨H', I', q⟩ => ⟨σ, H', I', q⟩) fun _ _ z => z) hs⟩
end Pt
namespace Pt
open PySem PySem.Spec PyProof.Rows L2
section
variable {X : Cx}
def rInT (K : PySem.W.Frag) : R2 := fun x y H Q => ∃ d ds, Dp K H x d ∧ Dp K H y (.tuple ds) ∧ SeqAt.shaped d = true ∧ SeqAt.shaped (.tuple ds) = true ∧ Q (.bl (ds.any fun z => PyData.eqv z d)) H
theorem op_inT (hu : X.A.units + 65 < cLine) : OpR X (compareOp .In) (rInT X.K) := by
  intro pins s σ H x y v u Q I rx ry h
  obtain ⟨d, ds, hd, he, sd, se, q⟩ := h
  obtain ⟨as, r1⟩ := Dp.reads I d x v hd rx
  obtain ⟨bs, r2⟩ := Dp.reads I (.tuple ds) y u he ry
  exact SeqAt.in_tuple_reads r2 r1 (SeqAt.canLay_of_shaped se) (SeqAt.canLay_of_shaped sd) (room_in_shaped sd hu) ⟨.bl _, H, I, rfl, q⟩
end
end Pt
namespace Pt
open PySem PySem.Spec PyProof.Rows L2
variable {K : PySem.W.Frag} {C : Addr} {H H' H1 H2 : Hp} {v w x y : V} {vs : List V} {d e : PyData} {ds es : List PyData}
variable {S : List Addr} {G : List (V × PyData)} {H0 : Hp} {σ : L2.St} {Γ : List Ct} {i j : Nat} {c : Ct} {te ta tb tc tl : TE} {t u : TT}
theorem pt_tru {X : Cx} {a : Expr} {ta : TE} (ha : PE X a ta) (he : ∀ whole, isTrue a X.env whole = (do let v ← whole; standAt a.pos; holding [v] (truthy v))) : PT X a (tTru X.K ta) := pt_truth ha he
theorem et_truB {b : Bool} (h : EvC K C te σ H (.d (.bool b))) : EvT (tTru K te) σ H b := fun H1 e1 Q q => h H1 e1 _ fun v H2 e2 a => by
  rw [Td.bl_of a]
  exact ⟨b, rfl, q H2 e2⟩
theorem et_truT (h : EvC K C te σ H (.d (.tuple ds))) : EvT (tTru K te) σ H (!ds.isEmpty) := fun H1 e1 Q q => h H1 e1 _ fun v H2 e2 a => by
  obtain ⟨p, xs, rfl, s, t⟩ := Td.tup_of a
  refine ⟨!ds.isEmpty, .inr (.inl ⟨xs, s.sq, ?_⟩), q H2 e2⟩
  cases t <;> rfl
theorem pe_notP {X : Cx} {a : Expr} {pos : Pos} {ta : TE} (ha : PE X a ta) : PE X (.UnaryOp .Not a pos) (tNotV ta) := pe_not ha
def tyName : PyData → String
  | .none => "NoneType"
  | .bool _ => "bool"
  | .int _ => "int"
  | .str _ => "str"
  | .list _ => "list"
  | .tuple _ => "tuple"
  | .dict _ => "dict"
theorem Td.ty : ∀ {d : PyData} {v : V}, Td K H v d → TyX K H v (.type (tyName d))
  | _, _, .non => .base .non
  | _, _, .bl b => .base (.bl b)
  | _, _, .int k => .base (.int k)
  | _, _, .str z => .base (.str z)
  | _, _, .tup s _ => by
    obtain ⟨o, s, _⟩ := s
    exact .fTuple s
  | _, _, .lst s _ => by
    obtain ⟨o, s⟩ := s
    exact .base (.frz s)
theorem ev_isi {T : String} {b : Bool} (h : EvC K C te σ H (.d d)) (hk : kitB (tyName d) T = some b) : EvC K C (tCB (rIsi K) (tCons te (tCons (tC (.ty T)) tNil))) σ H (.d (.bool b)) := fun H1 e1 Q q =>
  h H1 e1 _ fun v H2 e2 a => ⟨v, .ty T, _, _, b, rfl, .ty T, Td.ty a, kit_ty hk, q _ H2 e2 (.bl b)⟩
theorem shaped_pair (a b : Int) : SeqAt.shaped (.tuple [.int a, .int b]) = true := shaped_row [a, b]
theorem lay_pairs : ∀ ps : List (Int × Int), PyData.canLayAll0 (ps.map pairD) = true
  | [] => by simp [PyData.canLayAll0]
  | p :: ps => by
    have := lay_pairs ps
    simp [PyData.canLayAll0, PyData.canLay0, pairD, this]
theorem depth_pairs : ∀ ps : List (Int × Int), PyData.depthAll (ps.map pairD) ≤ 2
  | [] => by simp [PyData.depthAll]
  | p :: ps => by
    have := depth_pairs ps
    simp only [List.map_cons, PyData.depthAll, PyData.depth, pairD]
    omega
theorem shaped_pairs (ps : List (Int × Int)) : SeqAt.shaped (pairsD ps) = true := by
  show ((pairsD ps).canLay0 && decide ((pairsD ps).depth ≤ 64)) = true
  have h1 := depth_pairs ps
  rw [Bool.and_eq_true]
  refine ⟨?_, decide_eq_true ?_⟩
  · simp only [pairsD, PyData.canLay0]; exact lay_pairs ps
  · simp only [pairsD, PyData.depth]; omega
theorem any_pairs (a b : Int) : ∀ ps : List (Int × Int), ((ps.map pairD).any fun z => PyData.eqv z (.tuple [.int a, .int b])) = decide ((a, b) ∈ ps)
  | [] => by simp
  | (x, y) :: ps => by
    rw [List.map_cons, List.any_cons, any_pairs a b ps]
    have e : PyData.eqv (pairD (x, y)) (.tuple [.int a, .int b]) = decide ((a, b) = (x, y)) := by
      have z := eqv_row [x, y] [a, b]
      show PyData.eqv (row [x, y]) (row [a, b]) = _
      rw [z]
      by_cases q : (a, b) = (x, y)
      · cases q; simp
      · rw [decide_eq_false q, decide_eq_false]
        intro q'
        apply q
        simp at q'
        rw [q'.1, q'.2]
    rw [e]
    by_cases q : (a, b) = (x, y)
    · simp [q]
    · simp [q]
theorem ev_inP {a b : Int} {ps : List (Int × Int)} (ha : EvC K C ta σ H (.d (.tuple [.int a, .int b]))) (hb : EvC K C tb σ H (.d (pairsD ps))) : EvC K C (tOp (rInT K) ta tb) σ H (.d (.bool (decide ((a, b) ∈ ps)))) :=
  any_pairs a b ps ▸ ev_op2 ha hb fun H1 _ x y a1 a2 Q q => ⟨_, ps.map pairD, Td.dp _ _ a1, Td.dp _ _ a2, shaped_pair a b, shaped_pairs ps, q _ H1 (Same.refl H1) (.bl _)⟩
theorem kne : (("_pairs" : Str) == "_letters") = false := by decide +kernel
theorem flds_pairs (n : Int) (r : Addr) : (flds n r).lookup ("_pairs" : Str) = some (.ref r) := by
  unfold flds
  rw [List.lookup_cons, kne, List.lookup_cons, beq_self_eq_true]
theorem ev_letters {n : Int} {ps : List (Int × Int)} {E : XK} (ha : EvC K C ta σ H (.t n ps)) : EvC K C (tProp C (getSp C "_letters") [] E ta) σ H (.d (.int n)) := fun H1 e1 Q q =>
  ha H1 e1 _ fun v H2 e2 a => by
    obtain ⟨p, dx, r, rfl, h1, h2⟩ := a
    exact ⟨p, dx, _, rfl, h1, p, dx, _, .int n, rfl, h1, rfl, q _ H2 e2 (.int n)⟩
theorem ev_pairs {n : Int} {ps : List (Int × Int)} {E : XK} (ha : EvC K C ta σ H (.t n ps)) : EvC K C (tProp C (getSp C "_pairs") [] E ta) σ H (.d (pairsD ps)) := fun H1 e1 Q q =>
  ha H1 e1 _ fun v H2 e2 a => by
    obtain ⟨p, dx, r, rfl, h1, h2⟩ := a
    exact ⟨p, dx, _, rfl, h1, p, dx, _, .ref r, rfl, h1, flds_pairs _ _, q _ H2 e2 h2⟩
section
variable {X : Cx} (K : PySem.W.Frag)
theorem op_addK (h : X.K = K := by rfl) : OpR X (binaryOp .Add) (rAddU K) := h ▸ op_addU
theorem op_eqK (hu : X.A.units + 64 < cLine) (h : X.K = K := by rfl) : OpR X (compareOp .Eq) (rEqD K) := h ▸ op_eqD hu
theorem op_neK (hu : X.A.units + 64 < cLine) (h : X.K = K := by rfl) : OpR X (compareOp .NotEq) (rNeD K) := h ▸ op_neD hu
theorem op_inK (h : X.K = K := by rfl) : OpR X (compareOp .In) (rIn K false) := h ▸ op_in_seq
theorem op_inTK (hu : X.A.units + 65 < cLine) (h : X.K = K := by rfl) : OpR X (compareOp .In) (rInT K) := h ▸ op_inT hu
theorem op_leTK (hu : X.A.units < cLine) (h : X.K = K := by rfl) : OpR X (compareOp .LtE) (rLeT K) := h ▸ op_leT hu
theorem ix_K (h : X.K = K := by rfl) : IxR X (rIx K) := h ▸ ix_seq
theorem sl_K (h : X.K = K := by rfl) : SlR X (rSlU K) := h ▸ sl_U
theorem call_lenK (h : X.K = K := by rfl) : CallR X (.builtin "len") (rLen K) := h ▸ call_len1
theorem call_listK (h : X.K = K := by rfl) : CallR X (.type "list") (rListOf K) := h ▸ call_list_of'
theorem call_tupleK (h : X.K = K := by rfl) : CallR X (.type "tuple") (rTupleOf K) := h ▸ call_tuple_of'
theorem call_allK (hc : X.calm = true) (h : X.K = K := by rfl) : CallR X (.builtin "all") (rAll K) := h ▸ cr_all hc
theorem call_isiK (h : X.K = K := by rfl) : CallR X (.builtin "isinstance") (rIsi K) := h ▸ call_isi
theorem pt_truK {a : Expr} {ta : TE} (ha : PE X a ta) (he : ∀ whole, isTrue a X.env whole = (do let v ← whole; standAt a.pos; holding [v] (truthy v))) (h : X.K = K := by rfl) : PT X a (tTru K ta) := h ▸ pt_tru ha he
theorem pi_tupK {tg l : Expr} {tl : TE} (hl : PE X l tl) (h : X.K = K := by rfl) : PI X tg l (iTup K tl) := h ▸ pi_tup hl
theorem pi_listK {tg l : Expr} {tl : TE} (hl : PE X l tl) (h : X.K = K := by rfl) : PI X tg l (iList K tl) := h ▸ pi_list hl
end
theorem Wd.start1 {N : List Str} {v1 : V} {c1 : Ct} (a1 : AgAt K C H v1 (.c c1)) (ho : [c1].all (fun c => !c.own) = true := by rfl) (hl : 1 ≤ N.length := by decide) :
    Wd K C [] [] H H (L2.start N [v1]) ([c1] ++ List.replicate (N.length - 1) .u) := Wd.start (vs := [v1]) (cs := [c1]) ⟨a1, True.intro⟩ ho hl
theorem Wd.start2 {N : List Str} {v1 v2 : V} {c1 c2 : Ct} (a1 : AgAt K C H v1 (.c c1)) (a2 : AgAt K C H v2 (.c c2)) (ho : [c1, c2].all (fun c => !c.own) = true := by rfl) (hl : 2 ≤ N.length := by decide) :
    Wd K C [] [] H H (L2.start N [v1, v2]) ([c1, c2] ++ List.replicate (N.length - 2) .u) := Wd.start (vs := [v1, v2]) (cs := [c1, c2]) ⟨a1, a2, True.intro⟩ ho hl
theorem Wd.start3 {N : List Str} {v1 v2 v3 : V} {c1 c2 c3 : Ct} (a1 : AgAt K C H v1 (.c c1)) (a2 : AgAt K C H v2 (.c c2)) (a3 : AgAt K C H v3 (.c c3)) (ho : [c1, c2, c3].all (fun c => !c.own) = true := by rfl) (hl : 3 ≤ N.length := by decide) :
    Wd K C [] [] H H (L2.start N [v1, v2, v3]) ([c1, c2, c3] ++ List.replicate (N.length - 3) .u) := Wd.start (vs := [v1, v2, v3]) (cs := [c1, c2, c3]) ⟨a1, a2, a3, True.intro⟩ ho hl
theorem Args.four {vs : List V} {a b c d : Ag} (h : Args K C H vs [a, b, c, d]) : ∃ v w x y, vs = [v, w, x, y] ∧ AgAt K C H v a ∧ AgAt K C H w b ∧ AgAt K C H x c ∧ AgAt K C H y d := by
  match vs, h with
  | [v, w, x, y], ⟨h, g, f, k, _⟩ => exact ⟨v, w, x, y, rfl, h, g, f, k⟩
theorem Wd.start4 {N : List Str} {v1 v2 v3 v4 : V} {c1 c2 c3 c4 : Ct} (a1 : AgAt K C H v1 (.c c1)) (a2 : AgAt K C H v2 (.c c2)) (a3 : AgAt K C H v3 (.c c3)) (a4 : AgAt K C H v4 (.c c4)) (ho : [c1, c2, c3, c4].all (fun c => !c.own) = true := by rfl) (hl : 4 ≤ N.length := by decide) :
    Wd K C [] [] H H (L2.start N [v1, v2, v3, v4]) ([c1, c2, c3, c4] ++ List.replicate (N.length - 4) .u) := Wd.start (vs := [v1, v2, v3, v4]) (cs := [c1, c2, c3, c4]) ⟨a1, a2, a3, a4, True.intro⟩ ho hl
theorem AgAt.lent {ds : List PyData} (h : AgAt K C H v (.n ds)) : ∃ p, AgAt K C H v (.c (.s p ds)) := let ⟨p, xs, a, b, c⟩ := h; ⟨p, a, xs, b, c⟩
theorem ev_isiI {T : String} {b : Bool} {k : Int} (h : EvC K C te σ H (.d (.int k))) (hk : kitB "int" T = some b) : EvC K C (tCB (rIsi K) (tCons te (tCons (tC (.ty T)) tNil))) σ H (.d (.bool b)) := ev_isi h hk
theorem ev_isiT {T : String} {b : Bool} (h : EvC K C te σ H (.d (.tuple ds))) (hk : kitB "tuple" T = some b) : EvC K C (tCB (rIsi K) (tCons te (tCons (tC (.ty T)) tNil))) σ H (.d (.bool b)) := ev_isi h hk
variable {D : Ends}
theorem s_retQ {Q : VK} {nx : L2.St → Hp → Prop} {bk ct} (w : Wd K C [] G H0 H σ Γ) (q : ∀ v H', Same H0 H' → Td K H' v d → Q v H') (h : EvC K C te σ H (.d d)) : tRet te { nx := nx, rt := Q, bk := bk, ct := ct } σ H := s_ret w h fun v H1 w1 a => q v H1 w1.fr0 a
variable {tu tw tz : TS}
theorem s_when (w : Wd K C S G H0 H σ Γ) {b : Bool} (h : EvT t σ H b) (h1 : b = true → ∀ H1, Wd K C S G H0 H1 σ Γ → tu { D with nx := tz D } σ H1) (h2 : b = false → ∀ H1, Wd K C S G H0 H1 σ Γ → tz D σ H1) : tSeq (tIfS t tu tNext) tz D σ H :=
  s_seq (s_if w h h1 h2)
theorem ev_varD (w : Wd K C S G H0 H σ Γ) (h : Γ[i]? = some (.d d)) : EvC K C (tVar i) σ H (.d d) := ev_var w h
theorem ev_varT {n : Int} {ps : List (Int × Int)} (w : Wd K C S G H0 H σ Γ) (h : Γ[i]? = some (.t n ps)) : EvC K C (tVar i) σ H (.t n ps) := ev_var w h
end Pt
namespace Pt
open PySem PySem.Spec PyProof.Rows L2
theorem walk_E {J : It} {n : Nat} {G : Hp → Prop} {Y : Nat → Hp → V → Hp → Prop} (w : Walk J n G Y) : Walk (ItE J) n G (fun i H v H' => ∃ T x, v = .ref T ∧ H T = none ∧ H' = upd H T (.tup [.int (i : Nat), x]) ∧ Y i H x H) :=
  ⟨w.goes, w.stops, fun i H _ _ lt g ⟨T, x, a, b, c, y⟩ => ⟨T, x, a, b, c, w.yields i H x H lt g y⟩⟩
section
variable {P : Program} {w : World} {K : PySem.W.Frag} {tg : Expr} {J : It} {it : Addr} {st : Nat → Heap → Prop}
variable {D : HO} {d : Addr} {o : Obj} {n : Nat} {keys vals : Nat → V → Prop} {es : Array DictEntry} {ep : Nat}
end
end Pt
namespace Pt
open PySem PySem.Spec PyProof.Rows L2
section
variable {X : Cx} {D : HO} {d : Addr} {o : Obj} {n : Nat} {keys vals : Nat → V → Prop} {pins : List (Addr × Obj)} {σ : L2.St} {H : Hp} {s : Shared} {tg : Expr} {R : It → Hp → Prop}
end
end Pt
namespace Pt
open PySem PySem.Spec PyProof.Rows L2
variable {K : PySem.W.Frag} {C : Addr} {H H' H1 H2 : Hp} {v w x y : V} {vs : List V} {d e : PyData} {ds es : List PyData}
variable {S : List Addr} {G : List (V × PyData)} {H0 : Hp} {σ : L2.St} {Γ : List Ct} {i j : Nat} {c : Ct} {te ta tb tc tl : TE} {t u : TT}
structure InsK (K : PySem.W.Frag) (C : Addr) : Prop extends C8.InsC K C where
  nt : PySem.W.kitOne K (.type "tuple") (.ref C) = some false
theorem ev_isiTr {n : Int} {ps : List (Int × Int)} (ic : InsK K C) (h : EvC K C te σ H (.t n ps)) : EvC K C (tCB (rIsi K) (tCons te (tCons (tC (.ref C)) tNil))) σ H (.d (.bool true)) := fun H1 e1 Q q =>
  h H1 e1 _ fun v H2 e2 a => by
    obtain ⟨p, dx, r, rfl, h1, h2⟩ := a
    exact ⟨.ref p, .ref C, _, _, true, rfl, .own C, .base (.ins h1 ic.cl ic.ha ic.hn ic.htk ic.hm), ic.me, q _ H2 e2 (.bl true)⟩
theorem kept_all {α : Type} (g : α → PyData) (l : List α) : kept (fun _ => true) g l = l.map g := by
  unfold kept
  rw [List.filter_eq_self.mpr (fun _ _ => rfl)]
variable {D : Ends} {tu tw tz : TS}
theorem q_asg (w : Wd K C S G H0 H σ Γ) (h : EvC K C te σ H c) (k : ∀ v σ1 H1, CtAt K C H1 v c → Wd K C S G H0 H1 σ1 (Γ.set i c) → tz D σ1 H1) (ha : c.adr = [] := by rfl) : tSeq (tAsg te (gName i)) tz D σ H := s_asg (D := { D with nx := tz D }) w h k ha
theorem q_asgD (w : Wd K C S G H0 H σ Γ) (h : EvC K C te σ H (.d d)) (k : ∀ σ1 H1, Wd K C S G H0 H1 σ1 (Γ.set i (.d d)) → tz D σ1 H1) : tSeq (tAsg te (gName i)) tz D σ H := s_asg (D := { D with nx := tz D }) w h (fun _ σ1 H1 _ w1 => k σ1 H1 w1)
theorem q_asgN (w : Wd K C S G H0 H σ Γ) (h : EvN K C te σ H ds) (k : ∀ p σ1 H1, H0 p = none → Wd K C S G H0 H1 σ1 (Γ.set i (.l p ds)) → tz D σ1 H1) : tSeq (tAsg te (gName i)) tz D σ H := s_asgN (D := { D with nx := tz D }) w h k
theorem q_if (w : Wd K C S G H0 H σ Γ) {b : Bool} (h : EvT t σ H b) (h1 : b = true → ∀ H1, Wd K C S G H0 H1 σ Γ → tu { D with nx := tz D } σ H1) (h2 : b = false → ∀ H1, Wd K C S G H0 H1 σ Γ → tw { D with nx := tz D } σ H1) : tSeq (tIfS t tu tw) tz D σ H := s_if (D := { D with nx := tz D }) w h h1 h2
theorem q_drop (w : Wd K C S G H0 H σ Γ) (h : EvC K C te σ H c) (k : ∀ H1, Wd K C S G H0 H1 σ Γ → tz D σ H1) : tSeq (tDrop te) tz D σ H := s_drop (D := { D with nx := tz D }) w h k
theorem q_app (w : Wd K C S G H0 H σ Γ) {p : Addr} (hi : Γ[i]? = some (.l p ds)) (h : EvC K C te σ H (.d d)) (hz : ds.length < 10000000) (k : ∀ H1, Wd K C S G H0 H1 σ (Γ.set i (.l p (ds ++ [d]))) → tz D σ H1) :
    tSeq (tDrop (tBM K "list" rAppend (tVar i) (tCons te tNil))) tz D σ H := s_app (D := { D with nx := tz D }) w hi h hz k
theorem q_forR1 (w : Wd K C S G H0 H σ Γ) {n : Int} {ts : TA} (h : EvA K C ts σ H [.c (.d (.int n))]) (hn : n ≤ 10000000 ∧ -10000000 ≤ n) (Pv : Nat → L2.St → Hp → Prop) (h0 : ∀ H1, Wd K C S G H0 H1 σ Γ → Pv 0 σ H1)
    (hs : ∀ (k : Nat) σ' H', (k : Int) < n → Pv k σ' H' → tu { D with nx := Pv (k + 1), ct := Pv (k + 1), bk := tz D } (σ'.set j (some (.int (k : Int)))) H') (hd : ∀ σ' H', Pv n.toNat σ' H' → tz D σ' H') : tSeq (tFor (iRng1 ts) (gName j) tu) tz D σ H :=
  s_forR1 (D := { D with nx := tz D }) w h hn Pv h0 hs hd
theorem walkE {a : Addr} {D : Ends} {i j : Nat} (Pv : Nat → L2.St → Hp → Prop) (h0 : Pv 0 σ H) (hw : ∀ k σ' H', Pv k σ' H' → Td K H' (.ref a) (.tuple ds))
    (hs : ∀ k d v σ' H' H2, ds[k]? = some d → Td K H2 v d → Pv k σ' H' → Same H' H2 → tu { D with nx := Pv (k + 1), ct := Pv (k + 1), bk := D.nx } ((σ'.set i (some (.int (k : Nat)))).set j (some v)) H2) (hd : ∀ σ' H', Pv ds.length σ' H' → D.nx σ' H') : Turns (Itet K a) (gTup K 2 (gCons (gName i) (gCons (gName j) gNil))) tu D σ H :=
  for_it (walk_E told_T) Pv h0 (fun k σ' H' _ p => hw k σ' H' p) (fun k v σ' H1 H' _ p ⟨T, x, ev, nT, eH, _, d, at_, t⟩ => by
    subst ev eH
    exact ⟨T, _, rfl, SqT.of upd_same, rfl, .int (k : Nat), [x], rfl, x, [], rfl, rfl, hs k d x σ' H1 _ at_ (Td.mono (.of (same_new nT)) _ _ t) p (same_new nT)⟩) hd
theorem q_forE {i j : Nat} (w : Wd K C S G H0 H σ Γ) (h : EvC K C tl σ H (.d (.tuple ds))) (Pv : Addr → Nat → L2.St → Hp → Prop) (h0 : ∀ a H1, Wd K C S ((.ref a, .tuple ds) :: G) H0 H1 σ Γ → Pv a 0 σ H1)
    (hw : ∀ a k σ' H', Pv a k σ' H' → Td K H' (.ref a) (.tuple ds))
    (hs : ∀ a k d v σ' H' H2, ds[k]? = some d → Td K H2 v d → Pv a k σ' H' → Same H' H2 → tu { D with nx := Pv a (k + 1), ct := Pv a (k + 1), bk := tz D } ((σ'.set i (some (.int (k : Nat)))).set j (some v)) H2) (hd : ∀ a σ' H', Pv a ds.length σ' H' → tz D σ' H') :
    tSeq (tFor (iEnumT K (tCons tl tNil)) (gTup K 2 (gCons (gName i) (gCons (gName j) gNil))) tu) tz D σ H :=
  s_seq (h H (Same.refl H) _ fun v H1 e a => by
    obtain ⟨p, xs, rfl, s, t⟩ := Td.tup_of a
    exact ⟨p, xs, rfl, s.sq, walkE (D := { D with nx := tz D }) (Pv p) (h0 p H1 ((w.mono e).ghost a)) (hw p) (hs p) (hd p)⟩)
theorem s_forE {i j : Nat} (w : Wd K C S G H0 H σ Γ) (h : EvC K C tl σ H (.d (.tuple ds))) (Pv : Addr → Nat → L2.St → Hp → Prop) (h0 : ∀ a H1, Wd K C S ((.ref a, .tuple ds) :: G) H0 H1 σ Γ → Pv a 0 σ H1)
    (hw : ∀ a k σ' H', Pv a k σ' H' → Td K H' (.ref a) (.tuple ds))
    (hs : ∀ a k d v σ' H' H2, ds[k]? = some d → Td K H2 v d → Pv a k σ' H' → Same H' H2 → tu { D with nx := Pv a (k + 1), ct := Pv a (k + 1), bk := D.nx } ((σ'.set i (some (.int (k : Nat)))).set j (some v)) H2) (hd : ∀ a σ' H', Pv a ds.length σ' H' → D.nx σ' H') :
    tFor (iEnumT K (tCons tl tNil)) (gTup K 2 (gCons (gName i) (gCons (gName j) gNil))) tu D σ H :=
  h H (Same.refl H) _ fun v H1 e a => by
    obtain ⟨p, xs, rfl, s, t⟩ := Td.tup_of a
    exact ⟨p, xs, rfl, s.sq, walkE (Pv p) (h0 p H1 ((w.mono e).ghost a)) (hw p) (hs p) (hd p)⟩
theorem pi_enumTK (K : PySem.W.Frag) {X : Cx} {e : Expr} {ta : TA} {p pos tpos : Pos} {elts : List Expr} {kk : Nat} (hg : Gl X "enumerate") (hm : X.mg "enumerate" = none) (ha : PA X [e] ta) (hK : X.K = K := by rfl) (hs : starEach [e] X.env = [(false, eval e X.env)] := by rfl) :
    PI X (.Tuple elts kk tpos) (.Call (.Name "enumerate" p) [e] [] pos) (iEnumT K ta) := hK ▸ pi_enumT hg hm ha hs
theorem pg_tupK (K : PySem.W.Frag) {X : Cx} {pos : Pos} {es : List Expr} {k : Nat} {t : TGs} {n : Nat} (hc : X.calm = true) (h : PGs X es t) (hK : X.K = K := by rfl)
    (hn : (assignEach es X.env).length = n := by rfl) (hst : (assignEach es X.env).findIdx? (·.1) = none := by rfl) : PG X (.Tuple es k pos) (gTup K n t) := hK ▸ pg_tup hc h hn hst
theorem ev_allK {α : Type} {f : α → Bool} {l : List α} (h : EvN K C te σ H (kept (fun _ => true) (fun x => PyData.bool (f x)) l)) : EvC K C (tCB (rAll K) (tCons te tNil)) σ H (.d (.bool (l.all f))) := by
  have e : kept (fun _ => true) (fun x => PyData.bool (f x)) l = (l.map f).map .bool := by
    rw [kept_all, List.map_map]
    rfl
  rw [e] at h
  have z := ev_allN h
  rw [List.all_map] at z
  exact z
end Pt
namespace Pt
open PySem PySem.Spec PyProof.Rows L2
variable {K : PySem.W.Frag} {C : Addr} {H H' H1 H2 : Hp} {v w x y : V} {vs : List V} {d e : PyData} {ds es : List PyData}
variable {S : List Addr} {G : List (V × PyData)} {H0 : Hp} {σ : L2.St} {Γ : List Ct} {i j k : Nat} {c : Ct} {te ta tb tc tl : TE} {t u : TT}
variable {D : Ends} {tu tw tz : TS}
theorem shaped_list (l : List Int) : SeqAt.shaped (.list (iL l)) = true := by
  show ((PyData.list (iL l)).canLay0 && decide ((PyData.list (iL l)).depth ≤ 64)) = true
  have h1 := depth_iL l
  rw [Bool.and_eq_true]
  refine ⟨?_, decide_eq_true ?_⟩
  · simp only [PyData.canLay0]; exact lay_iL l
  · simp only [PyData.depth]; omega
theorem eqv_list (a b : List Int) : PyData.eqv (.list (iL a)) (.list (iL b)) = decide (a = b) := by
  simp only [PyData.eqv]
  exact eqv_iL a b
theorem ev_neL {p q : Addr} {k j : List Int} (ha : EvC K C ta σ H (.l p (iL k))) (hb : EvC K C tb σ H (.l q (iL j))) : EvC K C (tOp (rNeD K) ta tb) σ H (.d (.bool (!decide (k = j)))) :=
  eqv_list k j ▸ ev_op2 ha hb fun H1 _ x y a1 a2 Q q => by
    obtain ⟨rfl, xs, s, t⟩ := a1
    obtain ⟨rfl, ys, s', t'⟩ := a2
    exact ⟨_, _, .lst (SqL.of s) (TdAll.dp _ _ t), .lst (SqL.of s') (TdAll.dp _ _ t'), shaped_list k, shaped_list j, q _ H1 (Same.refl H1) (.bl _)⟩
end Pt
namespace Pt
open PySem PySem.Spec PyProof.Rows L2
variable {K : PySem.W.Frag} {C : Addr} {H H' H1 H2 : Hp} {v w x y : V} {vs : List V} {d e : PyData} {ds es : List PyData}
variable {S : List Addr} {G : List (V × PyData)} {H0 : Hp} {σ : L2.St} {Γ : List Ct} {i j k : Nat} {c : Ct} {te ta tb tc tl : TE} {t u : TT}
variable {D : Ends} {tu tw tz : TS}
theorem cut_to {α : Type} (l : List α) (k : Nat) : cutD l none (some (k : Int)) = l.take k := by
  unfold cutD
  rw [HT.sIx_none, HT.sIx_nat, List.drop_zero, Nat.sub_zero]
  rcases Nat.le_total k l.length with h | h
  · rw [Nat.min_eq_left h]
  · rw [Nat.min_eq_right h, List.take_of_length_le h, List.take_length]
theorem cut_from {α : Type} (l : List α) (k : Nat) : cutD l (some (k : Int)) none = l.drop k := by
  unfold cutD
  rw [HT.sIx_none, HT.sIx_nat]
  rcases Nat.le_total k l.length with h | h
  · rw [Nat.min_eq_left h, List.take_of_length_le (by simp)]
  · rw [Nat.min_eq_right h, List.drop_length, List.drop_of_length_le h, List.take_nil]
theorem en_cast (h : EvN K C te σ H ds) (e : ds = es) : EvN K C te σ H es := e ▸ h
theorem s_asgD (w : Wd K C S G H0 H σ Γ) (h : EvC K C te σ H (.d d)) (k : ∀ σ1 H1, Wd K C S G H0 H1 σ1 (Γ.set i (.d d)) → D.nx σ1 H1) : tAsg te (gName i) D σ H := s_asg w h (fun _ σ1 H1 _ w1 => k σ1 H1 w1)
theorem walkS {a : Addr} {g : TG} {D : Ends} (Pv : Nat → L2.St → Hp → Prop) (h0 : Pv 0 σ H) (hw : ∀ k σ' H', Pv k σ' H' → ∃ xs, SqL K H' a xs ∧ TdAll K H' xs ds)
    (hs : ∀ k d v σ' H', ds[k]? = some d → Td K H' v d → Pv k σ' H' → g v σ' H' fun σ2 H2 => tu { D with nx := Pv (k + 1), ct := Pv (k + 1), bk := D.nx } σ2 H2) (hd : ∀ σ' H', Pv ds.length σ' H' → D.nx σ' H') : Turns (Itl K a) g tu D σ H := turns_nth told_L Pv h0 hw hs hd
theorem q_forZ {g : TG} {p : Addr} (w : Wd K C S G H0 H σ Γ) (h : EvC K C tl σ H (.z p ds)) (Pv : Nat → L2.St → Hp → Prop) (h0 : ∀ H1, Wd K C S G H0 H1 σ Γ → Pv 0 σ H1)
    (hw : ∀ k σ' H', Pv k σ' H' → ∃ xs, SqL K H' p xs ∧ TdAll K H' xs ds)
    (hs : ∀ k d v σ' H', ds[k]? = some d → Td K H' v d → Pv k σ' H' → g v σ' H' fun σ2 H2 => tu { D with nx := Pv (k + 1), ct := Pv (k + 1), bk := tz D } σ2 H2) (hd : ∀ σ' H', Pv ds.length σ' H' → tz D σ' H') : tSeq (tFor (iList K tl) g tu) tz D σ H :=
  s_seq (h H (Same.refl H) _ fun v H1 e a => by
    obtain ⟨rfl, xs, s, t⟩ := a
    exact ⟨p, rfl, ⟨xs, s.sq⟩, walkS (D := { D with nx := tz D }) Pv (h0 H1 (w.mono e)) hw hs hd⟩)
def Src (H : Hp) (p c : Addr) (s k : Int) (cells : List Int) : Prop := H p = some (.lst [.int s, .ref c, .int k]) ∧ H c = some (.lst (cells.map V.int)) ∧ p ≠ c ∧ cells.length ≤ 63
theorem Src.mono {p c : Addr} {s k : Int} {cells : List Int} (h : Src H p c s k cells) (e : Same H H') : Src H' p c s k cells := ⟨e _ _ h.1, e _ _ h.2.1, h.2.2⟩
theorem Src.ct {p c : Addr} {s k : Int} {cells : List Int} (h : Src H p c s k cells) : CtAt K C H (.ref p) (.h p c) := ⟨rfl, h.2.2.1, s, k, cells, h.1, h.2.1, h.2.2.2⟩
theorem src_ix {p c : Addr} {s k : Int} {cells : List Int} {u : V} {n : Nat} (h : Src H p c s k cells) (hi : σ[i]? = some (some (.ref p))) (hn : [V.int s, .ref c, .int k][n]? = some u) {d' : Ct} (hc : ∀ H1, Same H H1 → CtAt K C H1 u d') : EvC K C (tOp (rIx K) (tVar i) (tC (.int (n : Nat)))) σ H d' := fun H1 e1 Q q =>
  ⟨.ref p, hi, .inl ⟨p, _, (n : Nat), u, rfl, rfl, SqL.of (e1 _ _ h.1), atI_nat hn, q _ H1 (Same.refl H1) (hc H1 e1)⟩⟩
theorem src_s {p c : Addr} {s k : Int} {cells : List Int} (h : Src H p c s k cells) (hi : σ[i]? = some (some (.ref p))) : EvC K C (tOp (rIx K) (tVar i) (tC (.int 0))) σ H (.d (.int s)) := src_ix (n := 0) h hi rfl fun _ _ => .int s
theorem src_k {p c : Addr} {s k : Int} {cells : List Int} (h : Src H p c s k cells) (hi : σ[i]? = some (some (.ref p))) : EvC K C (tOp (rIx K) (tVar i) (tC (.int 2))) σ H (.d (.int k)) := src_ix (n := 2) h hi rfl fun _ _ => .int k
theorem src_c {p c : Addr} {s k : Int} {cells : List Int} (h : Src H p c s k cells) (hi : σ[i]? = some (some (.ref p))) : EvC K C (tOp (rIx K) (tVar i) (tC (.int 1))) σ H (.l c (iL cells)) := src_ix (n := 1) h hi rfl fun H1 e1 => ⟨rfl, _, e1 _ _ h.2.1, TdAll.of_iL cells⟩
def spH (K : PySem.W.Frag) (C : Addr) : Sp := fun vs H Q _ => ∃ (p c : Addr) (b : Int), vs = [.ref p, .int b] ∧ CtAt K C H (.ref p) (.h p c) ∧ 1 ≤ b ∧ b ≤ 1000000 ∧
  ∀ (r : Int) H', 0 ≤ r → r < b → Fr [p, c] H H' → CtAt K C H' (.ref p) (.h p c) → Q (.int r) H'
def spM (K : PySem.W.Frag) (C : Addr) : Sp := fun vs H Q _ => ∃ (z : Addr) (cells : List Int) (v1 : V) (k : Int), vs = [v1, .int k] ∧ CtAt K C H v1 (.z z (iL cells)) ∧ cells.length ≤ 63 ∧
  ∀ p c H', H p = none → H c = none → Same H H' → CtAt K C H' (.ref p) (.h p c) → Q (.ref p) H'
theorem ev_at {k : Int} (hi : σ[i]? = some (some (.int k))) : EvC K C (tVar i) σ H (.d (.int k)) := fun H1 _ Q q => ⟨.int k, hi, q _ H1 (Same.refl H1) (.int k)⟩
theorem ev_lstAt {c : Addr} {cells : List Int} (hi : σ[i]? = some (some (.ref c))) (h : H c = some (.lst (cells.map V.int))) : EvC K C (tVar i) σ H (.l c (iL cells)) := fun H1 e Q q => ⟨.ref c, hi, q _ H1 (Same.refl H1) ⟨rfl, _, e _ _ h, TdAll.of_iL cells⟩⟩
theorem Fr.updIn {T : List Addr} {p : Addr} {o : HO} (h : p ∈ T) : Fr T H (L2.upd H p o) := fun a u r n => by
  have z : a ≠ p := fun z => n (by rw [z]; exact h)
  rw [L2.upd_ne z]
  exact r
theorem ne_of_none' {a b : Addr} {o : HO} (h : H a = none) (h' : H b = some o) : a ≠ b := (ne_of_none h' h).symm
end Pt
namespace Pt
open PySem PySem.Spec PyProof.Rows L2
variable {K : PySem.W.Frag} {C : Addr} {H H' H1 H2 : Hp} {v w x y : V} {vs : List V} {d e : PyData} {ds es : List PyData}
variable {S : List Addr} {G : List (V × PyData)} {H0 : Hp} {σ : L2.St} {Γ : List Ct} {i j k : Nat} {c : Ct} {te ta tb tc tl : TE} {t u : TT}
variable {D : Ends} {tu tw tz : TS} {p q : Addr} {b : Int} {E : XK}
theorem dr_next (w : Wd K C S G H0 H σ Γ) (hi : Γ[i]? = some (.h p q)) (hb : EvC K C tb σ H (.d (.int b))) (h1 : 1 ≤ b) (h2 : b ≤ 1000000) {Q : VK} (k : ∀ (r : Int) H', 0 ≤ r → r < b → Wd K C S G H0 H' σ Γ → Q (.int r) H') :
    tCall (spH K C) [] E (tCons (tVar i) (tCons tb tNil)) σ H Q := by
  obtain ⟨v, e, a⟩ := w.get hi
  obtain ⟨rfl, a'⟩ := id a
  refine ⟨.ref p, e, hb H (Same.refl H) _ fun y H2 e2 b2 => ⟨p, q, b, ?_, CtAt.mono e2 a, h1, h2, fun r H' r0 r1 f ct => k r H' r0 r1 ((w.mono e2).drawn hi f ct)⟩⟩
  rw [Td.int_of b2]
  rfl
theorem q_draw (w : Wd K C S G H0 H σ Γ) (hi : Γ[i]? = some (.h p q)) (hb : EvC K C tb σ H (.d (.int b))) (h1 : 1 ≤ b) (h2 : b ≤ 1000000) (k : ∀ (r : Int) σ1 H1, 0 ≤ r → r < b → Wd K C S G H0 H1 σ1 (Γ.set j (.d (.int r))) → tz D σ1 H1) :
    tSeq (tAsg (tCall (spH K C) [] E (tCons (tVar i) (tCons tb tNil))) (gName j)) tz D σ H :=
  dr_next w hi hb h1 h2 fun r H' r0 r1 w1 => k r _ H' r0 r1 (w1.set j (.int r))
end Pt
namespace Pt
open PySem PySem.Spec PyProof.Rows L2
variable {K : PySem.W.Frag} {C : Addr} {H H' H1 H2 : Hp} {v w x y : V} {vs : List V} {d e : PyData} {ds es : List PyData}
def rowK (l : List Int) : List Key := l.map .inl
theorem rowK_kV (l : List Int) : (rowK l).map kV = l.map V.int := by unfold rowK; rw [List.map_map]; rfl
theorem rowK_inj {l m : List Int} (h : rowK l = rowK m) : l = m := by
  induction l generalizing m with
  | nil => cases m with
    | nil => rfl
    | cons => simp [rowK] at h
  | cons a l ih => cases m with
    | nil => simp [rowK] at h
    | cons b m =>
      simp only [rowK, List.map_cons, List.cons.injEq] at h
      obtain ⟨h1, h2⟩ := h
      rw [Sum.inl.inj h1, ih h2]
abbrev En := List Int × Int × Addr
abbrev tk (P : Program) (w : World) := tupleKind (mixKind P w)
def Ents (es : List En) (xs : List (List Key × Addr × Value)) : Prop := Paired (fun (e : En) (q : List Key × Addr × Value) => q.1 = rowK e.1 ∧ q.2.1 = e.2.2 ∧ RelV (.int e.2.1) q.2.2) es xs
def DTo (P : Program) (w : World) (a : Addr) (es : List En) : HO := .ext fun h => (a == sysModules) = false ∧ ∃ xs, Ents es xs ∧ ∃ o ent ep, h.get? a = some o ∧ o.ExactDict ∧ o.data = .dict ent ep ∧ ent.toList = xs.map (entryOfKey (tk P w)) ∧ (xs.map (·.1)).Nodup
def ksOf (es : List En) : List (Addr × List V) := es.map fun e => (e.2.2, e.1.map V.int)
def lookE (es : List En) (k : List Int) : Option Int := (es.find? fun e => decide (e.1 = k)).map (·.2.1)
theorem Ents.val {es : List En} {xs : List (List Key × Addr × Value)} (r : Ents es xs) (k : List Int) : RelO ((lookE es k).map V.int) ((atKey xs (rowK k)).map (·.2)) := by
  unfold Ents at r
  induction r with
  | nil => exact True.intro
  | @cons p q ps qs h t ih =>
    obtain ⟨h1, _, h2⟩ := h
    by_cases e : p.1 = k
    · have e' : q.1 = rowK k := by rw [h1, e]
      have a : lookE (p :: ps) k = some p.2.1 := by simp [lookE, List.find?_cons, e]
      have b : atKey (q :: qs) (rowK k) = some q.2 := by simp [atKey, List.find?_cons, e']
      rw [a, b]; exact h2
    · have e' : ¬ q.1 = rowK k := fun z => e (rowK_inj (h1.symm.trans z))
      have a : lookE (p :: ps) k = lookE ps k := by simp [lookE, List.find?_cons, e]
      have b : atKey (q :: qs) (rowK k) = atKey qs (rowK k) := by simp [atKey, List.find?_cons, e']
      rw [a, b]; exact ih
theorem Ents.len {es : List En} {xs : List (List Key × Addr × Value)} (r : Ents es xs) : es.length = xs.length := Paired.length r
theorem lookE_snoc {es : List En} {k m : List Int} {x : Int} {b : Addr} (h : lookE es k = none) : lookE (es ++ [(k, x, b)]) m = if m = k then some x else lookE es m := by
  unfold lookE at h ⊢
  rw [List.find?_append]
  by_cases e : m = k
  · subst e
    rw [if_pos rfl]
    have z : (es.find? fun e => decide (e.1 = m)) = none := by simpa using h
    rw [z]
    simp
  · rw [if_neg e]
    have z : (List.find? (fun e : En => decide (e.1 = m)) [(k, x, b)]) = none := by
      rw [List.find?_cons]
      have : decide (k = m) = false := decide_eq_false (fun z => e z.symm)
      simp [this]
    rw [z, Option.or_none]
section
variable {X : Cx} {pins : List (Addr × Obj)} {σ : L2.St} {s : Shared} {a b : Addr} {A : Around} {E : Value → Shared → Prop}
theorem keyF {P : Program} {w : World} {h : Heap} {l : List Int} (ok : HOk P w H h) (e : SqF H a (l.map V.int)) : (tk P w).is h (rowK l) a := by
  obtain ⟨ob, e, _⟩ := e
  obtain ⟨h0, _, its, r, o, h1, h2, n, h3⟩ := (show ObjOk P w H h a (.frz ob (.tup (l.map V.int))) from ok a _ e)
  exact ⟨o, its.toArray, n, h1, h2, h3, by
    have r' : Vals ((rowK l).map kV) its := by rw [rowK_kV]; exact r
    simpa using items_are r'⟩
theorem dtf {es : List En} (I : Inv X pins σ H s) (e : H a = some (DTo X.prog X.w a es)) (hk : ∀ q ∈ ksOf es, SqF H q.1 q.2) : (a == sysModules) = false ∧ ∃ xs, Ents es xs ∧ s.heap.DictOfH (tk X.prog X.w) a xs := by
  obtain ⟨⟨hd, xs, r, o, ent, ep, h1, h2, h3, h4, h5⟩, _, _⟩ := (show ObjOk X.prog X.w H s.heap a (DTo X.prog X.w a es) from I.hok a _ e)
  refine ⟨hd, xs, r, o, ent, ep, h1, h2, h3, h4, ?_, h5⟩
  have all : ∀ {l : List En} {m : List (List Key × Addr × Value)}, Ents l m → (∀ q ∈ ksOf l, SqF H q.1 q.2) → ∀ x ∈ m, (tk X.prog X.w).is s.heap x.1 x.2.1 := by
    intro l m q
    unfold Ents at q
    induction q with
    | nil => intro _ x hx; exact nomatch hx
    | @cons p q ps qs hq t ih =>
      intro hk x hx
      rcases List.mem_cons.mp hx with e | hx
      · subst e
        rw [hq.1, hq.2.1]
        exact keyF I.hok (hk (p.2.2, p.1.map V.int) (List.mem_map.mpr ⟨p, List.mem_cons_self, rfl⟩))
      · exact ih (fun q m => hk q (by simp only [ksOf, List.map_cons, List.mem_cons]; exact .inr m)) x hx
  exact all r hk
theorem dto_ok {P : Program} {w : World} {h : Heap} {es : List En} (hd : (a == sysModules) = false) {xs : List (List Key × Addr × Value)} (r : Ents es xs) {o : Obj} {ent : Array DictEntry} {ep : Nat} (h1 : h.get? a = some o) (h2 : o.ExactDict) (h3 : o.data = .dict ent ep) (h4 : ent.toList = xs.map (entryOfKey (tk P w))) (h5 : (xs.map (·.1)).Nodup) : ObjOk P w H h a (DTo P w a es) :=
  ⟨⟨hd, xs, r, o, ent, ep, h1, h2, h3, h4, h5⟩, ⟨o, h1⟩, fun _ _ ⟨hd, xs, r, o, ent, ep, h1, h2, h3, h4, h5⟩ k => ⟨hd, xs, r, o, ent, ep, k _ h1, h2, h3, h4, h5⟩⟩
end
def tGetF (P : Program) (w : World) (td ty : TE) : TE := fun σ H Q => td σ H fun x H1 => ty σ H1 fun y H2 => ∃ a b es k v, x = .ref a ∧ y = .ref b ∧ H2 a = some (DTo P w a es) ∧ (∀ q ∈ ksOf es, SqF H2 q.1 q.2) ∧ SqF H2 b (k.map V.int) ∧ lookE es k = some v ∧ Q (.int v) H2
def tNotInF (P : Program) (w : World) (ty td : TE) : TE := fun σ H Q => ty σ H fun y H1 => td σ H1 fun x H2 => ∃ a b es k, x = .ref a ∧ y = .ref b ∧ H2 a = some (DTo P w a es) ∧ (∀ q ∈ ksOf es, SqF H2 q.1 q.2) ∧ SqF H2 b (k.map V.int) ∧ Q (.bl (!(lookE es k).isSome)) H2
def sPutF (P : Program) (w : World) (td ty tv : TE) : TS := fun D σ H => tv σ H fun v H1 => td σ H1 fun x H2 => ty σ H2 fun y H3 => ∃ a b es k m, x = .ref a ∧ y = .ref b ∧ v = .int m ∧ H3 a = some (DTo P w a es) ∧ (∀ q ∈ ksOf es, SqF H3 q.1 q.2) ∧ SqF H3 b (k.map V.int) ∧ lookE es k = none ∧ es.length < sizeLine ∧
  D.nx σ (L2.upd H3 a (DTo P w a (es ++ [(k, m, b)])))
section
variable {X : Cx} {o i e value : Expr} {pos pos' : Pos} {td ty tv : TE}
theorem pe_dgetF (hu : X.A.units + 1 < cLine) (ho : PE X o td) (hi : PE X i ty) (hs : NoSl i) : PE X (.Subscript o i pos) (tGetF X.prog X.w td ty) := by
  refine pe_at (fun pins s2 σ H2 x y u iv Q I2 rx ry ⟨a, b, es, k, v, ex, ey, e, hk, sk, l, q2⟩ => ?_) ho hi hs
  subst ex ey
  obtain rfl : u = Value.ref a := rx
  obtain rfl : iv = Value.ref b := ry
  obtain ⟨hd, xs, rel, dd⟩ := dtf I2 e hk
  obtain ⟨w', hw, rw'⟩ := RelO.some_of (v := .int v) (o := (atKey xs (rowK k)).map (·.2)) (by have := rel.val k; rw [l] at this; exact this)
  obtain ⟨p, hp, hp2⟩ := Option.map_eq_some_iff.mp hw
  refine ⟨dd.typeIs, wpAny_getItem_heap (tupleKind_room_in1 hu) (keyF I2.hok sk) dd hp ?_⟩
  rw [hp2]
  exact ⟨.int v, H2, I2.tok _, rw', q2⟩
theorem pc_dnotinF (hu : X.A.units + 1 < cLine) (hi : PE X i ty) (ho : PE X o td) : PC X .NotIn i o (tNotInF X.prog X.w ty td) := by
  refine pc_at (fun pins s2 σ H2 y x iv u Q I2 ry rx ⟨a, b, es, k, ex, ey, e, hk, sk, q2⟩ => ?_) hi ho
  subst ex ey
  obtain rfl : u = Value.ref a := rx
  obtain rfl : iv = Value.ref b := ry
  obtain ⟨hd, xs, rel, dd⟩ := dtf I2 e hk
  refine wpAny_notIn_heap (tupleKind_room_in1 hu) (keyF I2.hok sk) hd dd ?_
  have q := (rel.val k).isSome_eq
  rw [Option.isSome_map, Option.isSome_map] at q
  rw [← q]
  exact ⟨.bl _, H2, I2.tok _, rfl, q2⟩
theorem nokey {es : List En} {xs : List (List Key × Addr × Value)} (r : Ents es xs) {k : List Int} (h : lookE es k = none) : atKey xs (rowK k) = none := by
  have q := (r.val k).isSome_eq
  rw [Option.isSome_map, Option.isSome_map, h] at q
  cases z : atKey xs (rowK k) with
  | none => rfl
  | some _ => rw [z] at q; cases q
theorem Ents.snoc {es : List En} {xs : List (List Key × Addr × Value)} (r : Ents es xs) {k : List Int} {m : Int} {b : Addr} {u : Value} (hu : RelV (.int m) u) : Ents (es ++ [(k, m, b)]) (xs ++ [(rowK k, b, u)]) := Paired.snoc r ⟨rfl, rfl, hu⟩
theorem ps_dputF (hu : X.A.units + 1 < cLine) (ho : PE X o td) (hi : PE X i ty) (hv : PE X value tv) (hs : swapsWith value (some (.Subscript o i pos')) pos.line X.env = pure false) :
    PS X (.Assign [.Subscript o i pos'] value pos) (sPutF X.prog X.w td ty tv) := by
  refine ps_at (W := fun x y v H3 Q => ∃ a b es k m, x = .ref a ∧ y = .ref b ∧ v = .int m ∧ H3 a = some (DTo X.prog X.w a es) ∧ (∀ q ∈ ksOf es, SqF H3 q.1 q.2) ∧ SqF H3 b (k.map V.int) ∧ lookE es k = none ∧ es.length < sizeLine ∧ Q (L2.upd H3 a (DTo X.prog X.w a (es ++ [(k, m, b)])))) (fun pins s3 σ H3 x y v u iv r Q I3 rx ry rv ⟨a, b, es, k, m, ex, ey, ev, e, hk, sk, l, hz, q3⟩ => ?_) ho hi hv hs
  subst ex ey ev
  obtain rfl : u = Value.ref a := rx
  obtain rfl : iv = Value.ref b := ry
  obtain ⟨hd, xs, rel, dd⟩ := dtf I3 e hk
  have hl := rel.len
  refine wpAny_setItem_heap (hsz := by omega) (tupleKind_room_in1 hu) (keyF I3.hok sk) dd fun h' dd' hs => ?_
  rw [storedH_new (nokey rel l)] at dd'
  obtain ⟨q, ent, ep, hq, h2, h3, h4, _, h5⟩ := dd'
  exact ⟨_, d_write I3 (by rw [e]; exact True.intro) hs ⟨q, hq⟩ (dto_ok hd (rel.snoc rv) hq h2 h3 h4 h5), q3⟩
end
end Pt
namespace Pt
open PySem PySem.Spec PyProof.Rows L2
variable {K : PySem.W.Frag} {C : Addr} {H H' H1 H2 : Hp} {v w x y : V} {vs : List V} {d e : PyData} {ds es : List PyData}
variable {S : List Addr} {G : List (V × PyData)} {H0 : Hp} {σ : L2.St} {Γ : List Ct} {i j k : Nat} {c : Ct} {te ta tb tc tl ty td tv : TE} {t u : TT}
variable {D : Ends} {tu tw tz : TS} {p q : Addr} {P : Program} {W : World}
abbrev dct (P : Program) (W : World) (f : Addr) (en : List En) : Ct := .o f (DTo P W f en) (ksOf en)
theorem row_of {b : V} {r : List Int} (h : Td K H b (row r)) : ∃ a, b = .ref a ∧ SqF H a (r.map V.int) := by
  obtain ⟨a, xs, rfl, s, t⟩ := Td.tup_of h
  rw [t.iL_of] at s
  exact ⟨a, rfl, s⟩
theorem ks_snoc {en : List En} {r : List Int} {m : Int} {b : Addr} {q : Addr × List V} (h : q ∈ ksOf (en ++ [(r, m, b)])) : q ∈ ksOf en ∨ q = (b, r.map V.int) := by
  unfold ksOf at h ⊢
  rw [List.map_append, List.mem_append] at h
  rcases h with h | h
  · exact .inl h
  · exact .inr (by simpa using h)
theorem ev_notInF {f : Addr} {en : List En} {r : List Int} (ha : EvC K C ty σ H (.d (row r))) (hb : EvC K C td σ H (dct P W f en)) : EvC K C (tNotInF P W ty td) σ H (.d (.bool (!(lookE en r).isSome))) := fun H1 e1 Q k =>
  ha H1 e1 _ fun y H2 e2 a2 => hb H2 (e1.trans e2) _ fun x H3 e3 a3 => by
    obtain ⟨rfl, hf, _, hk⟩ := a3
    obtain ⟨b, rfl, sb⟩ := row_of a2
    exact ⟨f, b, en, r, rfl, rfl, hf, hk, (Tx.of e3).sqF sb, k _ H3 (e2.trans e3) (.bl _)⟩
theorem nodup_le {α : Type} [DecidableEq α] : ∀ (l U : List α), l.Nodup → (∀ x ∈ l, x ∈ U) → l.length ≤ U.length
  | [], _, _, _ => Nat.zero_le _
  | x :: l, U, h, hs => by
    have hx := hs x List.mem_cons_self
    have hn := List.nodup_cons.mp h
    have z := nodup_le l (U.erase x) hn.2 fun y m => (List.mem_erase_of_ne (fun e => hn.1 (by rw [← e]; exact m))).mpr (hs y (List.mem_cons_of_mem _ m))
    rw [List.length_erase_of_mem hx] at z
    have := List.length_pos_of_mem hx
    rw [List.length_cons]
    omega
theorem look_none {en : List En} {r : List Int} (h : lookE en r = none) : r ∉ en.map (·.1) := fun m => by
  obtain ⟨e, m', rfl⟩ := List.mem_map.mp m
  unfold lookE at h
  rw [Option.map_eq_none_iff, List.find?_eq_none] at h
  exact h e m' (by simp)
end Pt
namespace Pt
open PySem PySem.Spec PyProof.Rows L2
variable {K : PySem.W.Frag} {C : Addr} {H H' H1 H2 : Hp} {v w x y : V} {vs : List V} {d e : PyData} {ds es : List PyData}
variable {S : List Addr} {G : List (V × PyData)} {H0 : Hp} {σ : L2.St} {Γ : List Ct} {i j k : Nat} {c : Ct} {te ta tb tc tl ty td tv : TE} {t u : TT}
variable {D : Ends} {tu tw tz : TS} {p q : Addr} {b : Int} {E : XK}
theorem q_mix {z : Addr} {cells : List Int} (w : Wd K C S G H0 H σ Γ) (hi : Γ[i]? = some (.z z (iL cells))) (hl : cells.length ≤ 63) (k : ∀ p c σ1 H1, Wd K C S G H0 H1 σ1 (Γ.set j (.h p c)) → tz D σ1 H1) :
    tSeq (tAsg (tCall (spM K C) [] E (tCons (tVar i) (tCons (tC (.int b)) tNil))) (gName j)) tz D σ H := by
  obtain ⟨v, e, a⟩ := w.get hi
  refine ⟨v, e, z, cells, v, b, rfl, a, hl, fun p c H1 hp hc e1 ct => k p c _ H1 ((w.mono e1).setC j ct (fun _ x m => .inr ?_) fun j' c' x _ h m m' => ?_)⟩
  · have m : x = p ∨ x = c := by simpa [Ct.adr] using m
    rcases m with rfl | rfl
    · exact w.fresh0 hp
    · exact w.fresh0 hc
  · have m : x = p ∨ x = c := by simpa [Ct.adr] using m
    rcases m with rfl | rfl
    · exact w.fresh hp h m'
    · exact w.fresh hc h m'
theorem q_drawAdd {a : Int} (w : Wd K C S G H0 H σ Γ) (hi : Γ[i]? = some (.h p q)) (h1 : 1 ≤ b) (h2 : b ≤ 1000000) (k : ∀ (r : Int) σ1 H1, 0 ≤ r → r < b → Wd K C S G H0 H1 σ1 (Γ.set j (.d (.int (a + r)))) → tz D σ1 H1) :
    tSeq (tAsg (tOp (rAddU K) (tC (.int a)) (tCall (spH K C) [] E (tCons (tVar i) (tCons (tC (.int b)) tNil)))) (gName j)) tz D σ H :=
  dr_next w hi ev_int h1 h2 fun r H1 r0 r1 w1 => .inl ⟨a, r, rfl, rfl, k r _ H1 r0 r1 (w1.set j (v := .int (a + r)) (c := .d (.int (a + r))) (Td.int _))⟩
end Pt
namespace Pt
open PySem PySem.Spec PyProof.Rows L2
variable {K : PySem.W.Frag} {C : Addr} {H H' H1 H2 : Hp} {v w x y : V} {vs : List V} {d e : PyData} {ds es : List PyData}
variable {S : List Addr} {G : List (V × PyData)} {H0 : Hp} {σ : L2.St} {Γ : List Ct} {i j k : Nat} {c : Ct} {te ta tb tc tl ty td tv : TE} {t u : TT}
variable {D : Ends} {tu tw tz : TS} {p q : Addr} {b : Int} {E : XK}
theorem s_retLQ {Q : VK} {nx : L2.St → Hp → Prop} {bk ct} (w : Wd K C [] G H0 H σ Γ) (q : ∀ p H', H0 p = none → Same H0 H' → CtAt K C H' (.ref p) (.l p ds) → Q (.ref p) H') (hi : Γ[i]? = some (.l p ds)) : tRet (tVar i) { nx := nx, rt := Q, bk := bk, ct := ct } σ H := by
  obtain ⟨v, e, a⟩ := w.get hi
  obtain ⟨rfl, _⟩ := id a
  exact ⟨.ref p, e, q p H ((w.wr i _ hi rfl p (by simp [Ct.adr])).elim (fun z => by simp at z) id) w.fr0 a⟩
end Pt
namespace Pt
open PySem PySem.Spec PyProof.Rows L2
variable {K : PySem.W.Frag} {C : Addr} {H H' H1 H2 : Hp} {v w x y : V} {vs : List V} {d e : PyData} {ds es : List PyData}
theorem vals_get : ∀ {xs : List V} {its : List Value} {i : Nat} {v : Value}, Vals xs its → its[i]? = some v → ∃ x, xs[i]? = some x ∧ RelV x v
  | _, _, _, _, .nil, e => by simp at e
  | _, _, 0, _, .cons r _, e => by simp at e; subst e; exact ⟨_, rfl, r⟩
  | _, _, i + 1, _, .cons _ t, e => by
    obtain ⟨x, h1, h2⟩ := vals_get (i := i) t (by simpa using e)
    exact ⟨x, by simpa using h1, h2⟩
section
open PySem.W PyProof.Rows
end
section
variable {X : Cx} {pins : List (Addr × Obj)} {σ : L2.St} {s : Shared}
def rMinD (K : PySem.W.Frag) : List V → Hp → VK → Prop := fun vs H Q => ∃ (a : Addr) (xs : List V) (d : PyData) (ds : List PyData), vs = [.ref a] ∧ SqL K H a xs ∧ TdAll K H xs (d :: ds) ∧ PySem.W.AlikeAll (d :: ds) ∧ PyData.depthAll (d :: ds) ≤ 8 ∧
  ∀ y, Td K H y (PySem.W.minD d ds) → Q y H
theorem call_minD (hc : X.calm = true) (hu : X.A.units + 12 < cLine) : CallR X (.builtin "min") (rMinD X.K) := by
  intro pins s σ H vs us Q I r h
  obtain ⟨a, xs, d, ds, rfl, hs, td, hal, hd, q⟩ := h
  obtain ⟨its, rv, hl, hz⟩ := I.list hs
  rw [Vals.ref1 r]
  obtain ⟨as, hr⟩ := Dp.readsAll I (d :: ds) xs its (TdAll.dp _ _ td) rv
  refine PySem.W.min_list_data (vs := its.toArray) (I.ok.hd hc) hl.isList hr hal (by omega) fun i v h' tk bs hv hrd hk => ?_
  obtain ⟨x, hx, rx⟩ := vals_get rv (show its[i]? = some v by simpa using hv)
  obtain ⟨di, _, t⟩ := td.get' hx
  obtain ⟨as', r1⟩ := Dp.reads I di x v (Td.dp _ _ t) rx
  obtain ⟨e, _⟩ := PyProof.Rows.reads_det (fun b o eb _ => hk b o eb) r1 hrd
  exact ⟨x, H, I.kept hk, rx, q x (by rw [e]; exact t)⟩
theorem call_minK (K : PySem.W.Frag) (hc : X.calm = true) (hu : X.A.units + 12 < cLine) (h : X.K = K := by rfl) : CallR X (.builtin "min") (rMinD K) := h ▸ call_minD hc hu
end
section
variable {S : List Addr} {G : List (V × PyData)} {H0 : Hp} {σ : L2.St} {Γ : List Ct} {i j k : Nat} {c : Ct} {te ta tb tc tl ty td tv : TE} {t u : TT}
variable {D : Ends} {tu tw tz : TS} {p q : Addr} {b : Int} {E : XK}
theorem _root_.L2.Room.units12 {k : Nat} {A : Around} (r : Room k A) : A.units + 12 < cLine := by have := r.un; omega
theorem q_unpD {d1 d2 : PyData} (w : Wd K C S G H0 H σ Γ) (h : EvC K C te σ H (.d (.tuple [d1, d2]))) (k : ∀ σ1 H1, Wd K C S G H0 H1 σ1 ((Γ.set i (.d d1)).set j (.d d2)) → tz D σ1 H1) : tSeq (tAsg te (gTup K 2 (gCons (gName i) (gCons (gName j) gNil)))) tz D σ H :=
  h H (Same.refl H) _ fun v H1 e1 a1 => by
    obtain ⟨a, xs, rfl, s, t⟩ := Td.tup_of a1
    cases t with
    | cons t1 t =>
      cases t with
      | cons t2 t =>
        cases t
        exact ⟨a, _, rfl, s.sq, rfl, _, _, rfl, _, _, rfl, rfl, k _ H1 (((w.mono e1).set i (c := .d d1) t1).set j (c := .d d2) t2)⟩
theorem ev_minN {d : PyData} {ds : List PyData} (h : EvN K C te σ H (d :: ds)) (h1 : PySem.W.AlikeAll (d :: ds)) (h2 : PyData.depthAll (d :: ds) ≤ 8) : EvC K C (tCB (rMinD K) (tCons te tNil)) σ H (.d (PySem.W.minD d ds)) := ev_cb (ea_consN h ea_nil) fun H1 _ vs a Q q => by
  obtain ⟨v, rfl, p, xs, rfl, s, t⟩ := a.one
  exact ⟨p, xs, d, ds, rfl, SqL.of s, t, h1, h2, fun y ty => q y H1 (Same.refl H1) ty⟩
end
end Pt
namespace Pt
open PySem PySem.Spec PyProof.Rows L2
variable {K : PySem.W.Frag} {C : Addr} {H H' H1 H2 : Hp} {v w x y : V} {vs : List V} {d e : PyData} {ds es : List PyData}
variable {S : List Addr} {G : List (V × PyData)} {H0 : Hp} {σ : L2.St} {Γ : List Ct} {i j k : Nat} {c : Ct} {te ta tb tc tl ty td tv : TE} {t u : TT}
theorem Wd.wiped2 (w : Wd K C S G H0 H σ Γ) (i j : Nat) : Wd K C S G H0 H (wipe σ [i, j]) ((Γ.set j .u).set i .u) := by
  have w1 := (w.wiped j).wiped i
  exact w1
theorem Cw.mono {Dl : Addr} (c : Cw K H Dl es H1) (e : Same H1 H2) : Cw K H Dl es H2 := by
  obtain ⟨c1, c2, acc, c3, c4⟩ := c
  exact ⟨c1, c2.trans e, acc, e _ _ c3, TdAll.mono (.of e) _ _ c4⟩
end Pt
namespace Pt
open PySem PySem.Spec PyProof.Rows L2
variable {K : PySem.W.Frag} {C : Addr} {H H' H1 H2 : Hp} {v w x y : V} {vs : List V} {d e : PyData} {ds es : List PyData}
variable {S : List Addr} {G : List (V × PyData)} {H0 : Hp} {σ : L2.St} {Γ : List Ct} {i j k : Nat} {c : Ct} {te ta tb tc tl ty td tv tr : TE} {t u : TT}
variable {D : Ends} {tu tw tz : TS} {p q f : Addr} {P : Program} {W : World}
def tDNewF (P : Program) (w : World) : TE := fun σ H Q => ∀ p, H p = none → Q (.ref p) (L2.upd H p (DTo P w p []))
theorem pe_dnewF {X : Cx} {pos : Pos} : PE X (.Dict [] [] pos) (tDNewF X.prog X.w) := ⟨fun pins s σ H Q I h => by
  have hd : (s.heap.objs.size == sysModules) = false := beq_eq_false_iff_ne.mpr (Ne.symm (Nat.ne_of_lt I.big))
  exact wpAny_Dict_empty ⟨.ref s.heap.objs.size, _, I.laid (a := s.heap.objs.size) (o := DTo X.prog X.w s.heap.objs.size []) (t' := s.toks) (fun _ _ q => Heap.get?_push_of_some _ q) (Nat.le_refl _)
    (dto_ok hd (xs := []) .nil (Heap.get?_push_size _ rfl) ⟨rfl, rfl, rfl⟩ rfl rfl List.nodup_nil), rfl, h _ (I.hok.fresh (Nat.le_refl _))⟩⟩
theorem dnew_ct (hf : H f = none) : CtAt K C (L2.upd H f (DTo P W f [])) (.ref f) (dct P W f []) := ⟨rfl, upd_same, True.intro, fun q m => by simp [ksOf] at m⟩
theorem q_asgO (w : Wd K C S G H0 H σ Γ) (k : ∀ f σ1 H1, H0 f = none → Wd K C S G H0 H1 σ1 (Γ.set i (dct P W f [])) → tz D σ1 H1) : tSeq (tAsg (tDNewF P W) (gName i)) tz D σ H := fun f hf =>
  k f _ _ (w.fresh0 hf) (w.setO i (same_new hf) hf (dnew_ct hf))
theorem ev_getF {f : Addr} {en : List En} {r : List Int} {x : Int} (hb : EvC K C td σ H (dct P W f en)) (ha : EvC K C ty σ H (.d (row r))) (hl : lookE en r = some x) : EvC K C (tGetF P W td ty) σ H (.d (.int x)) := fun H1 e1 Q k =>
  hb H1 e1 _ fun z H2 e2 a2 => ha H2 (e1.trans e2) _ fun y H3 e3 a3 => by
    obtain ⟨rfl, hf, _, hk⟩ := CtAt.mono e3 a2
    obtain ⟨b, rfl, sb⟩ := row_of a3
    exact ⟨f, b, en, r, x, rfl, rfl, hf, hk, sb, hl, k _ H3 (e2.trans e3) (.int _)⟩
theorem s_putF2 {f : Addr} {en : List En} {r : List Int} {m : Int} (w : Wd K C S G H0 H σ Γ) (hi : Γ[i]? = some (dct P W f en)) (hy : EvC K C ty σ H (.d (row r))) (hv : EvC K C tv σ H (.d (.int m))) (hl : lookE en r = none) (hz : en.length < sizeLine)
    (k : ∀ b H1, Wd K C S G H0 H1 σ (Γ.set i (dct P W f (en ++ [(r, m, b)]))) → D.nx σ H1) : sPutF P W (tVar i) ty tv D σ H :=
  hv H (Same.refl H) _ fun v H1 e1 a1 => by
    obtain ⟨vf, ef, af⟩ := (w.mono e1).get hi
    obtain ⟨rfl, _⟩ := id af
    refine ⟨.ref f, ef, hy H1 e1 _ fun y H2 e2 a2 => ?_⟩
    obtain ⟨b, rfl, sb⟩ := row_of a2
    obtain ⟨_, hf, wr, hk⟩ := CtAt.mono e2 af
    refine ⟨f, b, en, r, m, rfl, rfl, Td.int_of a1, hf, hk, sb, hl, hz, k b _ ?_⟩
    refine ((w.mono e1).mono e2).chgG hi rfl rfl rfl rfl True.intro fun v a => ?_
    obtain ⟨ev, hf, wr, hk⟩ := a
    have tx : Tx H2 (L2.upd H2 f (DTo P W f (en ++ [(r, m, b)]))) := .fr (LT.oneW hf True.intro) Fr.upd
    refine ⟨ev, upd_same, True.intro, fun q mq => tx.sqF ?_⟩
    rcases ks_snoc mq with mq | rfl
    · exact hk q mq
    · exact sb
theorem Wd.chgFr {c0 c1 : Ct} (w : Wd K C S G H0 H σ Γ) {p : Addr} (hi : Γ[i]? = some c0) (h0 : c0.adr = [p]) (o0 : c0.own = true) (h1 : c1.adr = [p]) (o1 : c1.own = true) (f : Fr [p] H H') (hu : ∃ u, H' p = some u ∧ Wr u) (hv : ∀ v, CtAt K C H v c0 → CtAt K C H' v c1) : Wd K C S G H0 H' σ (Γ.set i c1) := by
  have nu : c0 ≠ .u := fun z => by rw [z] at o0; cases o0
  have nu1 : c1 ≠ .u := fun z => by rw [z] at o1; cases o1
  obtain ⟨v, e1, a1⟩ := w.get hi nu
  obtain ⟨ou, e2, wu⟩ := a1.there (a := p) (by rw [h0]; simp)
  have l := LT.oneW e2 wu
  have hw := w.wr i _ hi o0 p (by rw [h0]; simp)
  refine ⟨fun a o h n => ?_, fun a m => ?_, by rw [List.length_set, w.len], fun j c' hj => ?_, fun j c' hj n => ?_, fun j k c1' c2 a h1' h2 m1 m2 => ?_, fun q m => Td.mono (.fr l f) _ _ (w.gh q m)⟩
  · refine f a o (w.fr a o h n) fun m => ?_
    have e : a = p := by simpa using m
    subst e
    rcases hw with hw | hw
    · exact n hw
    · rw [hw] at h; cases h
  · by_cases e : a = p
    · subst e; exact hu
    · obtain ⟨zs, h, z⟩ := w.sl a m
      exact ⟨zs, f a zs h (by simpa using e), z⟩
  · rcases set_cases hj with ⟨q1, q2, hl⟩ | ⟨ne, hj'⟩
    · rw [q2, q1]
      exact .mk e1 (hv v a1)
    · refine (w.at_ j c' hj').map fun u => CtAt.fr l f fun a m z => ne ?_
      have e : a = p := by simpa using z
      rw [e] at m
      exact (w.dj j i c' _ p hj' hi m (by rw [h0]; simp)).elim id fun z => by rw [o0] at z; cases z.2
  · rcases set_cases hj with ⟨rfl, rfl, hl⟩ | ⟨ne, hj⟩
    · intro a m
      rw [show a = p by rw [h1] at m; simpa using m]
      exact hw
    · exact w.wr j c' hj n
  · have old : ∀ {q : Nat} {c3 : Ct}, (Γ.set i c1)[q]? = some c3 → a ∈ c3.adr → ∃ c4, Γ[q]? = some c4 ∧ a ∈ c4.adr ∧ c4.own = c3.own := fun {q c3} h m => by
      rcases set_cases h with ⟨rfl, rfl, hl⟩ | ⟨ne, h⟩
      · exact ⟨_, hi, by rw [h0, ← h1]; exact m, by rw [o0, o1]⟩
      · exact ⟨_, h, m, rfl⟩
    obtain ⟨c3, h3, m3, o3⟩ := old h1' m1
    obtain ⟨c4, h4, m4, o4⟩ := old h2 m2
    rw [← o3, ← o4]
    exact w.dj j k c3 c4 a h3 h4 m3 m4
theorem Wd.chgD {en en' : List En} (w : Wd K C S G H0 H σ Γ) (hi : Γ[i]? = some (dct P W f en)) (fr : Fr [f] H H') (hf : H' f = some (DTo P W f en')) (hk : ∀ q ∈ ksOf en', SqF H' q.1 q.2) : Wd K C S G H0 H' σ (Γ.set i (dct P W f en')) :=
  w.chgFr hi rfl rfl rfl rfl fr ⟨_, hf, True.intro⟩ fun v a => ⟨a.1, hf, True.intro, hk⟩
def owns (Γ : List Ct) : List Addr := (Γ.map fun c => if c.own = true then c.adr else []).flatten
theorem mem_owns {a : Addr} : a ∈ owns Γ ↔ ∃ (i : Nat) (c : Ct), Γ[i]? = some c ∧ c.own = true ∧ a ∈ c.adr := by
  unfold owns
  rw [List.mem_flatten]
  constructor
  · rintro ⟨l, hl, ha⟩
    obtain ⟨c, hc, rfl⟩ := List.mem_map.mp hl
    obtain ⟨i, hi⟩ := List.mem_iff_getElem?.mp hc
    cases o : c.own with
    | true => rw [o, if_pos rfl] at ha; exact ⟨i, c, hi, o, ha⟩
    | false => rw [o, if_neg Bool.false_ne_true] at ha; cases ha
  · rintro ⟨i, c, hi, o, ha⟩
    exact ⟨_, List.mem_map.mpr ⟨c, List.mem_of_getElem? hi, rfl⟩, by rw [o, if_pos rfl]; exact ha⟩
theorem Wd.re (w : Wd K C S G H0 H σ Γ) : Wd K C (S ++ owns Γ) G H H σ Γ :=
  ⟨fun _ _ h _ => h, fun a m => by
    rcases List.mem_append.mp m with m | m
    · exact w.sl a m
    · obtain ⟨i, c, hi, o, ha⟩ := mem_owns.mp m
      obtain ⟨v, _, hv⟩ := w.get hi (fun z => by rw [z] at o; cases o)
      exact hv.there ha, w.len, w.at_, fun i c hi o a ha => .inl (List.mem_append.mpr (.inr (mem_owns.mpr ⟨i, c, hi, o, ha⟩))), w.dj, w.gh⟩
theorem Wd.un {Γ' : List Ct} {σ' : L2.St} {G' : List (V × PyData)} (w : Wd K C S G H0 H σ Γ) (w' : Wd K C (S ++ owns Γ) G' H H' σ' Γ') : Wd K C S G' H0 H' σ' Γ' := by
  have old : ∀ {a : Addr}, a ∈ owns Γ → a ∈ S ∨ H0 a = none := fun {a} m => by
    obtain ⟨i, c, hi, o, ha⟩ := mem_owns.mp m
    exact w.wr i c hi o a ha
  refine ⟨fun a o h n => w'.fr a o (w.fr a o h n) fun m => ?_, fun a m => w'.sl a (List.mem_append.mpr (.inl m)), w'.len, w'.at_, fun i c hi o a ha => ?_, w'.dj, w'.gh⟩
  · rcases List.mem_append.mp m with m | m
    · exact n m
    · rcases old m with z | z
      · exact n z
      · rw [z] at h; cases h
  · rcases w'.wr i c hi o a ha with m | m
    · rcases List.mem_append.mp m with m | m
      · exact .inl m
      · exact old m
    · exact .inr (w.fresh0 m)
theorem Wd.notin (w : Wd K C S G H0 H σ Γ) {p : Addr} (hp : H p = none) : p ∉ S ++ owns Γ := fun m => by
  obtain ⟨u, h, _⟩ := w.re.sl p m
  rw [hp] at h; cases h
theorem s_forN {α : Type} {l : List α} {mk : α → PyData} {g : TG} (w : Wd K C S G H0 H σ Γ) (h : EvN K C tl σ H (l.map mk)) (I : Nat → List Ct → Prop) (h0 : I 0 Γ)
    (hs : ∀ (S1 : List Addr) (H1 : Hp), (∀ σ2 H2 Γ2, Wd K C S1 G H1 H2 σ2 Γ2 → Wd K C S G H0 H2 σ2 Γ2) → ∀ (k : Nat) (hk : k < l.length) (v : V) σ' H' Γ', I k Γ' → Wd K C S1 G H1 H' σ' Γ' → Td K H' v (mk l[k]) →
      g v σ' H' fun σ2 H2 => tu { D with nx := fun σ H => ∃ Γ2, I (k + 1) Γ2 ∧ Wd K C S1 G H1 H σ Γ2, ct := fun σ H => ∃ Γ2, I (k + 1) Γ2 ∧ Wd K C S1 G H1 H σ Γ2, bk := D.nx } σ2 H2)
    (hd : ∀ σ' H' Γ', I l.length Γ' → Wd K C S G H0 H' σ' Γ' → D.nx σ' H') : tFor (iList K tl) g tu D σ H :=
  h H (Same.refl H) _ fun p H1 hp e a => by
    obtain ⟨_, xs, s, td⟩ := a
    have w1 := w.mono e
    have hp1 : H1 p ≠ none := fun z => by rw [s] at z; cases z
    -- the list is nobody's
    have np : p ∉ S ++ owns Γ := w.notin hp
    have w2 : Wd K C (S ++ owns Γ) G H1 H1 σ Γ := w1.re
    have un : ∀ σ2 H2 Γ2, Wd K C (S ++ owns Γ) G H1 H2 σ2 Γ2 → Wd K C S G H0 H2 σ2 Γ2 := fun σ2 H2 Γ2 w' => w1.un w'
    refine ⟨p, rfl, ⟨xs, SqL.of s⟩, walkL (ds := l.map mk) (fun k σ' H' => ∃ Γ', I k Γ' ∧ Wd K C (S ++ owns Γ) G H1 H' σ' Γ') ⟨Γ, h0, w2⟩ (fun k σ' H' ⟨Γ', _, w'⟩ => ⟨xs, w'.fr p _ s np, TdAll.mono (.fr w2.sl w'.fr) _ _ td⟩) (fun k d v σ' H' hd t ⟨Γ', hi, w'⟩ => ?_) (fun σ' H' ⟨Γ', hi, w'⟩ => ?_)⟩
    · have hk : k < l.length := by
        have := (List.getElem?_eq_some_iff.mp hd).1
        rw [List.length_map] at this
        exact this
      have ed : d = mk l[k] := by
        rw [List.getElem?_map, List.getElem?_eq_getElem hk] at hd
        exact (Option.some.inj hd).symm
      subst ed
      exact hs _ _ un k hk v σ' H' Γ' hi w' t
    · rw [List.length_map] at hi
      exact hd σ' H' Γ' hi (un _ _ _ w')
theorem q_forN {α : Type} {l : List α} {mk : α → PyData} {g : TG} (w : Wd K C S G H0 H σ Γ) (h : EvN K C tl σ H (l.map mk)) (I : Nat → List Ct → Prop) (h0 : I 0 Γ)
    (hs : ∀ (S1 : List Addr) (H1 : Hp), (∀ σ2 H2 Γ2, Wd K C S1 G H1 H2 σ2 Γ2 → Wd K C S G H0 H2 σ2 Γ2) → ∀ (k : Nat) (hk : k < l.length) (v : V) σ' H' Γ', I k Γ' → Wd K C S1 G H1 H' σ' Γ' → Td K H' v (mk l[k]) →
      g v σ' H' fun σ2 H2 => tu { D with nx := fun σ H => ∃ Γ2, I (k + 1) Γ2 ∧ Wd K C S1 G H1 H σ Γ2, ct := fun σ H => ∃ Γ2, I (k + 1) Γ2 ∧ Wd K C S1 G H1 H σ Γ2, bk := tz D } σ2 H2)
    (hd : ∀ σ' H' Γ', I l.length Γ' → Wd K C S G H0 H' σ' Γ' → tz D σ' H') : tSeq (tFor (iList K tl) g tu) tz D σ H :=
  s_forN (D := { D with nx := tz D }) w h I h0 hs hd
theorem g_pair {d1 d2 : PyData} {Q : L2.St → Hp → Prop} (w : Wd K C S G H0 H σ Γ) (t : Td K H v (.tuple [d1, d2])) (k : ∀ σ1, Wd K C S G H0 H σ1 ((Γ.set i (.d d1)).set j (.d d2)) → Q σ1 H) : gTup K 2 (gCons (gName i) (gCons (gName j) gNil)) v σ H Q := by
  obtain ⟨a, xs, rfl, s, t⟩ := Td.tup_of t
  cases t with
  | cons t1 t =>
    cases t with
    | cons t2 t =>
      cases t
      exact ⟨a, _, rfl, s.sq, rfl, _, _, rfl, _, _, rfl, rfl, k _ ((w.set i (c := .d d1) t1).set j (c := .d d2) t2)⟩
theorem same_frNew {u : HO} (e : Same H H2) (hf : H2 f = none) (fr : Fr [f] (L2.upd H2 f u) H') : Same H H' := fun a o h => by
  have h2 := e a o h
  have ne : a ≠ f := fun z => by rw [z, hf] at h2; cases h2
  exact fr a o (by rw [upd_ne ne]; exact h2) (by simpa using ne)
end Pt
namespace Pt
open PySem PySem.Spec PyProof.Rows L2
def spPass : Sp := fun vs H Q _ => ∃ v, vs = [v] ∧ Q .non H
structure XOk (K : PySem.W.Frag) (C fI : Addr) : Prop where
  T : OexC K C
  iC : PySem.W.findIn K (.ref C) "__init__" = some (some (.ref fI))
  tI : PySem.W.typeIn K (.ref fI) = some (.type "function")
theorem un_off {fs : List Addr} {H : Hp} {h0 h1 h2 G : Heap} {a : Addr} {o : HO} (young : h0.objs.size ≤ a) (sub : ∀ b ob, h0.get? b = some ob → h1.get? b = some ob) (off : ∀ b, b ≠ a → G.get? b = h2.get? b) (u : Un fs [] (upd H a o) (upd H a o) h1 h2) : Un fs [] H H h0 G := by
  have old : ∀ {b ob}, h0.get? b = some ob → h1.get? b = some ob ∧ G.get? b = h2.get? b ∧ upd H a o b = H b := fun {b ob} z =>
    have ne : b ≠ a := Nat.ne_of_lt (Nat.lt_of_lt_of_le (Heap.lt_size z) young)
    ⟨sub b ob z, off b ne, upd_ne ne⟩
  refine ⟨fun b ob z n f x => ?_, fun b ob z n f x => ?_, fun _ _ _ n _ => n, fun b ob z x => ?_, fun _ _ z => z, fun _ _ _ z => z, fun b ps z => ⟨#[], by simp [z]⟩⟩ <;> obtain ⟨z1, e1, e2⟩ := old z <;> rw [e1]
  · exact u.keep b ob z1 (e2.trans n) f x
  · exact u.slot b ob z1 (e2.trans n) f x
  · exact u.there b ob z1 x
theorem hok_off {P : Program} {w : World} {H : Hp} {h2 G : Heap} {a C : Addr} (new : H a = none) (off : ∀ b, b ≠ a → G.get? b = h2.get? b) (k : HOk P w (upd H a (exo a C none)) h2) : HOk P w H G := fun b o z => by
  have other : ∀ {c u}, H c = some u → c ≠ a := fun q e => by rw [e, new] at q; exact nomatch q
  have back : ∀ {c u}, u ≠ exo a C none → upd H a (exo a C none) c = some u → c ≠ a ∧ H c = some u := fun {c u} d q => by
    by_cases e : c = a
    · subst e
      rw [upd_same] at q
      exact absurd (Option.some.inj q).symm d
    · exact ⟨e, (upd_ne e).symm.trans q⟩
  refine (k b o ((upd_ne (other z)).trans z)).stay (fun c u own q => ?_) (fun c q => (back (Ne.symm exo_own) q).2) fun c xs q => (back (Ne.symm exo_tup) q).2
  rcases own with rfl | own
  · exact (off c (other z)).trans q
  · exact (off c (back (Ne.symm exo_own) own).1).trans q
section
variable {X : Cx} {p pos : Pos}
theorem own_new {CT : CXT} {C fI : Addr} {k : Nat} {fd : FuncData} {ps : List Str} {sp : Sp} {ds : List Value} {dvs : List V} (T : OexC X.K C) (iC : PySem.W.findIn X.K (.ref C) "__init__" = some (some (.ref fI))) (tI : PySem.W.typeIn X.K (.ref fI) = some (.type "function")) (F1 : FnOk X.prog X.w X.K X.mg X.base CT k fI fd ps sp) (room : Room (k + 1) X.A) (bd : Binds X.K fd ps ds) (df : Vals dvs ds) (hx : Passes CT X (fun _ _ _ => False))
    {pins : List (Addr × Obj)} {σ : L2.St} {H : Hp} {us : List Value} {vs : List V} {s : Shared} {R : Hp → Prop} {Q : Value → Shared → Prop} (I : Inv X pins σ H s) (r : Vals vs us) (few : us.length ≤ sizeLine)
    (told : sp (.ref (s.heap.objs.size + 1) :: (vs ++ dvs)) (upd H (s.heap.objs.size + 1) (exo (s.heap.objs.size + 1) C none)) (fun v H2 => v = .non ∧ R H2) (fun _ _ _ => False))
    (fin : ∀ (H2 : Hp) (h1 : Heap) (s2 : Shared), (∀ b o, s.heap.get? b = some o → h1.get? b = some o) → Un (frs X.stack) [] (upd H (s.heap.objs.size + 1) (exo (s.heap.objs.size + 1) C none)) H2 h1 s2.heap → HOk X.prog X.w H2 s2.heap → s2.os = s.os → AllBare s2.gens → R H2 → Q (.ref (s.heap.objs.size + 1)) s2) :
    wpAny (model X.prog X.w) X.A (call (.ref C) us) Q X.xe s := by
  obtain ⟨_, _, _, _, bm, _, _, _, _, _, _, _, _, _, _, here, main⟩ := T.cls
  obtain ⟨hp, gs, dr, tk, os⟩ := s
  have sub : ∀ b o, hp.get? b = some o → ((hp.push (PySem.W.kdv_tup us)).push (PySem.HandSPX.excO C hp.objs.size)).get? b = some o := fun b o z => Heap.get?_push_of_some _ (Heap.get?_push_of_some _ z)
  have J := I.laid (t' := tk) (o := exo (hp.objs.size + 1) C none) sub (Nat.le_succ _) (exo_ok (by heap_get))
  have len : (Value.ref (hp.objs.size + 1) :: us ++ ds).length = ps.length := by
    have := F1.len _ _ _ _ told
    have := r.length
    have := df.length
    simp only [List.length_cons, List.length_append] at *
    omega
  have run := F1.run _ X.stack _ _ ⟨.ref (hp.objs.size + 1) :: us, []⟩ _ _ _ _ (room.make C us []) (J.env0.make C us []) (bd _ _ J.kIn len) (.cons (show RelV (.ref (hp.objs.size + 1)) (.ref (hp.objs.size + 1)) from rfl) (r.append df)) told
  refine wpAny_call (PySem.HandSPX.call_own F.excBase_ValueError (PySem.HandSPX.refsVE_contains · bm main) (I.kIn _ _ here) (PySem.W.looks_findIn I.kIn iC) (fun z => PySem.W.bind_fn I.kIn z tI) few (codeAny_mono run fun out s2 z => ?_))
  rcases out with er | fl
  · exact hx pins σ _ _ er s2 J z
  · cases fl <;> first | exact z.elim | skip
    obtain ⟨v, H2, same, bare, un, ok, rv, rfl, m⟩ := z
    exact ⟨rv, fin H2 _ s2 sub un ok same bare m⟩
theorem pmk_ox0N {CT : CXT} {x : Str} {C fI : Addr} {k : Nat} {fd : FuncData} (T : OexC X.K C) (iC : PySem.W.findIn X.K (.ref C) "__init__" = some (some (.ref fI))) (tI : PySem.W.typeIn X.K (.ref fI) = some (.type "function")) (F1 : FnOk X.prog X.w X.K X.mg X.base CT k fI fd ["self"] spPass) (room : Room (k + 1) X.A) (bd : Binds X.K fd ["self"] []) (hx : Passes CT X (fun _ _ _ => False)) (hg : Gl X x) (hm : X.mg x = some (.ref C))
    (ndb : (x == ("__debug__" : Str)) = false := by decide) : L2N.PMk X (.Call (.Name x p) [] [] pos) (fun _ H Q => Q (.ref C) none H) := fun pins s σ H Q I h => by
  refine wpAny_Call_Name_kw (ld_glob I hg hm (PySem.W.callWith_K0 I.kIn T.kC ?_) ndb)
  refine own_new T iC tI F1 room bd .nil hx I .nil (Nat.zero_le _) (R := fun H2 => H2 = upd H (s.heap.objs.size + 1) (exo (s.heap.objs.size + 1) C none)) ⟨_, rfl, rfl, rfl⟩ fun H2 h1 s2 sub un ok same bare e => ?_
  subst e
  have new : H (s.heap.objs.size + 1) = none := I.hok.fresh (Nat.le_succ _)
  obtain ⟨t0, cell⟩ := exo_at ok upd_same
  obtain ⟨G, on, gone⟩ := restrict s2.heap fun b => decide (b ≠ s.heap.objs.size + 1)
  have off : ∀ b, b ≠ s.heap.objs.size + 1 → G.get? b = s2.heap.get? b := fun b ne => on b (decide_eq_true ne)
  have gone : G.get? (s.heap.objs.size + 1) = none := gone _ (decide_eq_false fun z => z rfl)
  have back : ∀ b o, G.get? b = some o → s2.heap.get? b = some o := fun b o z => by
    by_cases e : b = s.heap.objs.size + 1
    · rw [e, gone] at z
      exact nomatch z
    · exact (off b e).symm.trans z
  have J : Inv X pins σ H ⟨G, s2.gens, s2.drawn, s2.toks, s2.os⟩ := I.call' (ch := []) same (un_off (Nat.le_succ _) sub off un) (hok_off new off ok) bare fun b z => nomatch z
  exact ⟨_, _, _, _, H, .ref C, none, rfl, J, back, gone, cell, ⟨rfl, rfl, fun vs z => by cases z; rfl⟩, rfl, rfl, new, rfl, bare, raises_own T.exC T.tyC, h⟩
end
end Pt
namespace Pt
open PySem PySem.Spec PyProof.Rows L2
variable {K : PySem.W.Frag} {C : Addr} {H H' H1 H2 : Hp} {v w x y : V} {vs : List V} {d e : PyData} {ds es : List PyData}
variable {S : List Addr} {G : List (V × PyData)} {H0 : Hp} {σ : L2.St} {Γ : List Ct} {i j k l : Nat} {c : Ct} {te ta tb tc tl ty td tv : TE} {t u : TT}
variable {D : Ends} {tu tw tz : TS} {p q f : Addr} {b : Int} {E : XK} {P : Program} {W : World}
theorem q_unp3D {d1 d2 d3 : PyData} (w : Wd K C S G H0 H σ Γ) (h : EvC K C te σ H (.d (.tuple [d1, d2, d3]))) (k : ∀ σ1 H1, Wd K C S G H0 H1 σ1 (((Γ.set i (.d d1)).set j (.d d2)).set l (.d d3)) → tz D σ1 H1) : tSeq (tAsg te (gTup K 3 (gCons (gName i) (gCons (gName j) (gCons (gName l) gNil))))) tz D σ H :=
  h H (Same.refl H) _ fun v H1 e1 a1 => by
    obtain ⟨a, xs, rfl, s, t⟩ := Td.tup_of a1
    cases t with
    | cons t1 t =>
      cases t with
      | cons t2 t =>
        cases t with
        | cons t3 t =>
          cases t
          exact ⟨a, _, rfl, s.sq, rfl, _, _, rfl, _, _, rfl, _, _, rfl, rfl, k _ H1 ((((w.mono e1).set i (c := .d d1) t1).set j (c := .d d2) t2).set l (c := .d d3) t3)⟩
end Pt
namespace Pt
open PySem PySem.Spec PyProof.Rows L2
variable {K : PySem.W.Frag} {C : Addr} {H H' H1 H2 : Hp} {v w x y : V} {vs : List V} {d e : PyData} {ds es : List PyData}
variable {S : List Addr} {G : List (V × PyData)} {H0 : Hp} {σ : L2.St} {Γ : List Ct} {i j k b : Nat} {c : Ct} {te ta tb tc tl ty td tv : TE} {t u : TT}
theorem wipe_one2 (σ : L2.St) {i j : Nat} (h : i ≠ j) (x : Option V) : wipe ((wipe σ [i, j]).set i x) [i, j] = wipe σ [i, j] := by
  refine List.ext_getElem? fun k => ?_
  simp only [wipe, List.getElem?_set, List.length_set]
  by_cases h1 : i = k
  · subst h1
    simp
  · by_cases h2 : j = k
    · subst h2
      simp [h1]
    · simp [h1, h2]
theorem en_lc2T {l m : List Int} (hij : i ≠ j) (w : Wd K C S G H0 H σ Γ) (hl : EvC K C tl σ H (.d (row l))) (hb : Γ[b]? = some (.d (row m))) (hbi : b ≠ i) (hbj : b ≠ j) (g : Int → Int → PyData) (hz : l.length ≤ 1000 ∧ m.length ≤ 1000)
    (he : ∀ x ∈ l, ∀ y ∈ m, ∀ σ1 H1, Wd K C S G H0 H1 σ1 (((((Γ.set j .u).set i .u).set i (.d (.int x))).set j .u).set j (.d (.int y))) → EvC K C te σ1 H1 (.d (g x y))) :
    EvN K C (tLc2 (iTup K tl) (gName i) tYes (iTup K (tVar b)) (gName j) tYes te [i, j] [j]) σ H ((l.map fun x => m.map (g x)).flatten) := fun H1 e1 Q q => hl H1 e1 _ fun v H2 e2 a => by
  obtain ⟨p, rfl, sp⟩ := row_of a
  have w2 := w.mono (e1.trans e2)
  obtain ⟨vb, eb, ab⟩ := w2.get hb
  obtain ⟨p1, rfl, s1⟩ := row_of ab
  refine ⟨p, rfl, ⟨_, sp.sq⟩, fun Dl hD => ?_⟩
  have hlen : ∀ n : Nat, n ≤ l.length → (((l.take n).map fun x => m.map (g x)).flatten).length = n * m.length := fun n hn => by
    have : ∀ u : List Int, ((u.map fun x => m.map (g x)).flatten).length = u.length * m.length := fun u => by
      induction u with
      | nil => simp
      | cons x u ih => rw [List.map_cons, List.flatten_cons, List.length_append, List.length_map, ih, List.length_cons, Nat.succ_mul]; omega
    rw [this, List.length_take, Nat.min_eq_left hn]
  refine ⟨fun k n H' => n = l.length - k ∧ k ≤ l.length ∧ Cw K H2 Dl (((l.take k).map fun x => m.map (g x)).flatten) H', ⟨l.length, by simp, Nat.zero_le _, Cw.start hD⟩, ?_⟩
  rintro k n H' ⟨rfl, hk, c⟩
  have sp' : SqF H' p (l.map V.int) := (Tx.of c.2.1).sqF sp
  by_cases hlt : k < l.length
  · refine .inr ⟨⟨l.map V.int, .int l[k], sp'.sq, by rw [List.getElem?_map, List.getElem?_eq_getElem hlt]; rfl⟩, fun H' => Cw K H2 Dl (((l.take (k + 1)).map fun x => m.map (g x)).flatten) H', fun H' p' => ⟨l.length - (k + 1), by omega, rfl, hlt, p'⟩, fun x H'' y => ?_⟩
    obtain ⟨rfl, y⟩ := y
    have hx := y _ sp'.sq
    rw [List.getElem?_map, List.getElem?_eq_getElem hlt] at hx
    obtain rfl : V.int l[k] = x := Option.some.inj hx
    have mk : l[k] ∈ l := List.getElem_mem hlt
    have htk : ((l.take (k + 1)).map fun x => m.map (g x)).flatten = ((l.take k).map fun x => m.map (g x)).flatten ++ m.map (g l[k]) := by
      rw [List.take_succ_eq_append_getElem hlt, List.map_append, List.flatten_append]
      simp
    have hlk := hlen k hk
    have hmul : k * m.length ≤ 1000 * 1000 := Nat.mul_le_mul (by omega) hz.2
    rw [htk]
    generalize ((l.take k).map fun x => m.map (g x)).flatten = done at c hlk
    generalize l[k] = xk at mk
    show wipe ((wipe σ [i, j]).set i (some (.int xk))) [i, j] = wipe σ [i, j] ∧ _
    refine ⟨wipe_one2 σ hij _, ?_⟩
    have w3 : Wd K C S G H0 H2 ((wipe σ [i, j]).set i (some (.int xk))) (((Γ.set j .u).set i .u).set i (.d (.int xk))) := (w2.wiped2 i j).set i (c := .d (.int xk)) (Td.int _)
    have eb3 : ((wipe σ [i, j]).set i (some (.int xk)))[b]? = some (some (.ref p1)) := by
      simp only [wipe, List.getElem?_set, List.length_set]
      rw [if_neg (Ne.symm hbi), if_neg (Ne.symm hbi), if_neg (Ne.symm hbj)]
      exact eb
    unfold tYes
    dsimp only
    rw [if_pos rfl]
    generalize hσ2 : (wipe σ [i, j]).set i (some (V.int xk)) = σ2 at w3 eb3
    refine ⟨.ref p1, eb3, p1, rfl, ⟨_, ((Tx.of c.2.1).sqF s1).sq⟩, ?_⟩
    refine ⟨fun h n H5 => n = m.length - h ∧ h ≤ m.length ∧ Cw K H2 Dl (done ++ (m.take h).map (g xk)) H5, ⟨m.length, by simp, Nat.zero_le _, by simpa using c⟩, ?_⟩
    rintro h n H5 ⟨rfl, hh, c5⟩
    have s5 : SqF H5 p1 (m.map V.int) := (Tx.of c5.2.1).sqF s1
    by_cases hlt2 : h < m.length
    · refine .inr ⟨⟨m.map V.int, .int m[h], s5.sq, by rw [List.getElem?_map, List.getElem?_eq_getElem hlt2]; rfl⟩, fun H' => Cw K H2 Dl (done ++ (m.take (h + 1)).map (g xk)) H', fun H' p' => ⟨m.length - (h + 1), by omega, rfl, hlt2, p'⟩, fun x H'' y => ?_⟩
      obtain ⟨rfl, y⟩ := y
      have hx := y _ s5.sq
      rw [List.getElem?_map, List.getElem?_eq_getElem hlt2] at hx
      obtain rfl : V.int m[h] = x := Option.some.inj hx
      have mm : m[h] ∈ m := List.getElem_mem hlt2
      show wipe ((wipe σ2 [j]).set j (some (.int m[h]))) [j] = wipe σ2 [j] ∧ _
      refine ⟨wipe1 σ2 j _, ?_⟩
      have w4 : Wd K C S G H0 H2 ((wipe σ2 [j]).set j (some (.int m[h]))) (((((Γ.set j .u).set i .u).set i (.d (.int xk))).set j .u).set j (.d (.int m[h]))) := (w3.wiped j).set j (c := .d (.int m[h])) (Td.int _)
      have z := cw_turn (C := C) (te := te) (t := tYes) (b := true) (d := g xk m[h]) c5 (by rw [List.length_append, hlk, List.length_map, List.length_take]; omega) et_yes fun _ => he _ mk _ mm _ _ w4
      rw [if_pos rfl] at z
      have e3 : done ++ (m.take (h + 1)).map (g xk) = done ++ (m.take h).map (g xk) ++ [g xk m[h]] := by
        rw [List.take_succ_eq_append_getElem hlt2, List.map_append, List.append_assoc]
        rfl
      rw [e3]
      exact z
    · have e : h = m.length := by omega
      subst e
      rw [List.take_length] at c5
      exact .inl ⟨⟨_, s5.sq, by rw [List.length_map]; exact Nat.le_refl _⟩, c5⟩
  · have e : k = l.length := by omega
    subst e
    rw [List.take_length] at c
    obtain ⟨c1, c2, acc, c3, c4⟩ := c
    exact .inl ⟨⟨_, sp'.sq, by rw [List.length_map]; exact Nat.le_refl _⟩, q Dl H' (e2.free c1) (e2.trans c2) ⟨rfl, acc, c3, c4⟩⟩
end Pt
namespace Pt
open PySem PySem.Spec PyProof.Rows L2
abbrev EnV := List Int × V × Addr
def EntsV (es : List EnV) (xs : List (List Key × Addr × Value)) : Prop := Paired (fun (e : EnV) (q : List Key × Addr × Value) => q.1 = rowK e.1 ∧ q.2.1 = e.2.2 ∧ RelV e.2.1 q.2.2) es xs
def lookV (es : List EnV) (k : List Int) : Option V := (es.find? fun e => decide (e.1 = k)).map (·.2.1)
theorem EntsV.val {es : List EnV} {xs : List (List Key × Addr × Value)} (r : EntsV es xs) (k : List Int) : RelO (lookV es k) ((atKey xs (rowK k)).map (·.2)) := by
  unfold EntsV at r
  induction r with
  | nil => exact True.intro
  | @cons p q ps qs h t ih =>
    obtain ⟨h1, _, h2⟩ := h
    by_cases e : p.1 = k
    · have e' : q.1 = rowK k := by rw [h1, e]
      have a : lookV (p :: ps) k = some p.2.1 := by simp [lookV, List.find?_cons, e]
      have b : atKey (q :: qs) (rowK k) = some q.2 := by simp [atKey, List.find?_cons, e']
      rw [a, b]; exact h2
    · have e' : ¬ q.1 = rowK k := fun z => e (rowK_inj (h1.symm.trans z))
      have a : lookV (p :: ps) k = lookV ps k := by simp [lookV, List.find?_cons, e]
      have b : atKey (q :: qs) (rowK k) = atKey qs (rowK k) := by simp [atKey, List.find?_cons, e']
      rw [a, b]; exact ih
theorem EntsV.len {es : List EnV} {xs : List (List Key × Addr × Value)} (r : EntsV es xs) : es.length = xs.length := Paired.length r
section
variable {X : Cx} {pins : List (Addr × Obj)} {σ : L2.St} {H : Hp} {s : Shared} {a b : Addr} {A : Around} {E : Value → Shared → Prop}
end
section
variable {X : Cx} {o i e value : Expr} {pos pos' : Pos} {td ty tv : TE}
end
section
variable {K : PySem.W.Frag} {C : Addr} {H H' H1 H2 : Hp} {v w x y : V} {vs : List V} {d e : PyData} {ds es : List PyData}
variable {S : List Addr} {G : List (V × PyData)} {H0 : Hp} {σ : L2.St} {Γ : List Ct} {i j k : Nat} {c : Ct} {te ta tb tc tl ty td tv : TE} {t u : TT}
variable {D : Ends} {tu tw tz : TS} {p q f : Addr} {P : Program} {W : World}
end
section
open PySem.W PySem.Calls PyProof.Rows PyProof.V
variable {prog : Program} {w : World} {A : Around} {E : Value → Shared → Prop} {s : Shared} {T : String} {r d : Addr} {n : Nat} {P : Nat → Value → Prop} {OK : Heap → Prop} {Q : Value → Shared → Prop}
end
section
open PySem.W
variable {X : Cx} {pins : List (Addr × Obj)} {σ : L2.St} {H : Hp} {s : Shared}
end
section
variable {K : PySem.W.Frag} {C : Addr} {H H' H1 H2 : Hp} {v w x y : V} {vs : List V} {d e : PyData} {ds es : List PyData}
variable {S : List Addr} {G : List (V × PyData)} {H0 : Hp} {σ : L2.St} {Γ : List Ct} {i j : Nat} {c : Ct} {te ta tb tc tl ty td tv : TE} {t u : TT}
variable {D : Ends} {tu tw tz : TS} {p q f : Addr} {P : Program} {W : World}
end
section
variable {X : Cx} {pins : List (Addr × Obj)} {σ : L2.St} {H : Hp} {s : Shared}
theorem tup_mul_short {l : Addr} {items : Array Value} {n : Nat} {dd : Option Addr} {sl : Array (Option Value)} {x : Int} {u : Tok} (self : Bool) (fit : -1000 ≤ x ∧ x ≤ 1000) (e : (items.isEmpty || x == 1) = self) (no : self = false → x ≤ 0) :
    Meets (Builtin.«tuple.__mul__» ⟨[.ref l, .int x u], []⟩) (fun _ R s => s.heap.get? l = some { cls := .type "tuple", dict := dd, data := .seq items n, slots := sl } ∧ R (.ok (.ret (.ref (bif self then l else s.heap.objs.size)))) { s with heap := bif self then s.heap else s.heap.push { cls := .type "tuple", data := .seq #[] } }) := by
  have small : (decide (x < -(2 ^ 63)) || decide (x ≥ 2 ^ 63)) = false := by
    rw [decide_eq_false (by omega), decide_eq_false (by omega)]
    rfl
  have idx := AutoSeq1.idx_int
  cases self with
  | true =>
    refine .of_wp fun prog w A R ⟨hp, gs, dr, tk, os⟩ ⟨here, q⟩ => ?_
    wp_walk using AutoSeq1.wpAny_loadPart' here
    repeat' (first
      | exact ⟨_, rfl, q⟩
      | (first
          | refine wpAny_ite_true (by simp only [e, decide_true]) ?_
          | refine wpAny_ite_false (by simp only [small, Bool.false_eq_true, decide_false]) ?_
         wp_walk using AutoSeq1.wpAny_loadPart' here))
  | false =>
    have none : (decide (x ≤ 0) || items.isEmpty) = true := by rw [decide_eq_true (no rfl)]; rfl
    refine .of_wp fun prog w A R ⟨hp, gs, dr, tk, os⟩ ⟨here, q⟩ => ?_
    wp_walk using AutoSeq1.wpAny_loadPart' here
    repeat' (first
      | exact ⟨_, rfl, q⟩
      | (first
          | refine wpAny_ite_true (by simp only [none, decide_true]) ?_
          | refine wpAny_ite_false (by simp only [small, e, Bool.false_eq_true, decide_false]) ?_
         wp_walk using AutoSeq1.wpAny_loadPart' here))
def rRepF (K : PySem.W.Frag) : R2 := fun x y H Q => ∃ l k xs, x = .ref l ∧ y = .int k ∧ SqT K H l xs ∧ -1000 ≤ k ∧ k ≤ 1000 ∧ xs.length ≤ 1000 ∧ ((xs = [] ∨ k = 1) → Q (.ref l) H) ∧ (¬ (xs = [] ∨ k = 1) → ∀ p o, H p = none → o.dict = none → Q (.ref p) (L2.upd H p (.frz o (.tup (List.replicate k.toNat xs).flatten))))
theorem rep_call {A : Around} {P : Program} {w : World} {l : Addr} {k : Int} {t : Tok} {items : Array Value} {n : Nat} {dd : Option Addr} {sl : Array (Option Value)} {S : PySem.Spec} {Q E : Value → Shared → Prop} (here : s.heap.get? l = some { cls := .type "tuple", dict := dd, data := .seq items n, slots := sl }) (M : Meets (Builtin.«tuple.__mul__» ⟨[.ref l, .int k t], []⟩) S) (q : S A (wants Q E) s) : wpAny (model P w) A (binaryOp .Mult (.ref l) (.int k t)) Q E s :=
  have is : s.TypeIs (.ref l) "tuple" := ⟨_, here, rfl⟩
  wpAny_binaryOp_repeat_ref (by decide) is (typeIs_int · k t) noFill_tuple_mul F.fills_int_mul F.slot_int_rmul repeat_tuple F.slot_int_index.lookup (call_meets F.slot_int_rmul (typeIs_int s k t) F.entry_int_rmul (F.args_int_rmul_2 _ _) (int_rmul_tuple k t l items n dd sl) ⟨here, rfl, is, call_meets F.slot_tuple_mul is F.entry_tuple_mul (F.args_tuple_mul_2 _ _) M q⟩)
theorem op_repF : OpR X (binaryOp .Mult) (rRepF X.K) := by
  rintro pins s σ H x y v u Q I rx ry ⟨l, k, xs, rfl, rfl, tup, lo, hi, few, one, many⟩
  obtain rfl : v = .ref l := rx
  obtain ⟨t, rfl⟩ := ry
  obtain ⟨its, r, ⟨⟨cls, dd, data, sl⟩, here, rfl, n, rfl⟩, _⟩ := I.tuple tup
  have len : its.length = xs.length := r.length.symm
  have prod : k.toNat * xs.length ≤ 1000 * 1000 := Nat.mul_le_mul (by omega) few
  have line := sizeLine_eq
  by_cases c : xs = [] ∨ k = 1
  · have e : (its.toArray.isEmpty || k == 1) = true := by
      rcases c with rfl | rfl
      · rw [List.eq_nil_of_length_eq_zero len]
        rfl
      · exact Bool.or_true _
    exact rep_call here (tup_mul_short true ⟨lo, hi⟩ e (fun z => nomatch z)) ⟨here, .ref l, H, I, rfl, one c⟩
  · have some : its.toArray.isEmpty = false := by
      cases its with
      | nil => exact absurd (.inl (List.eq_nil_of_length_eq_zero len.symm)) c
      | cons _ _ => rfl
    have e : (its.toArray.isEmpty || k == 1) = false := by
      rw [some, Bool.false_or]
      exact beq_eq_false_iff_ne.mpr fun z => c (.inr z)
    have new : H s.heap.objs.size = none := I.hok.fresh (Nat.le_refl _)
    have many := many c
    by_cases none : k ≤ 0
    · rw [Int.toNat_of_nonpos none] at many
      exact rep_call here (tup_mul_short false ⟨lo, hi⟩ e fun _ => none) ⟨here, .ref _, _, laidF I (xs := []) .nil (Nat.zero_le _), rfl, many _ _ new rfl⟩
    · have flat : (List.replicate k.toNat its).flatten.length = k.toNat * xs.length := by rw [PyProof.Rows.lm_len_rep_flat, len]
      have times : ((its.toArray.size : Nat) : Int) * k = ((k.toNat * xs.length : Nat) : Int) := by
        rw [List.size_toArray, len, Int.natCast_mul, Int.toNat_of_nonneg (by omega), Int.mul_comm]
      refine rep_call here (tuple_mulW l its.toArray n dd sl k t ?_ e ?_ ?_ ?_ ?_) ⟨here, ?_⟩
      · rw [decide_eq_false (by omega), decide_eq_false (by omega)] <;> rfl
      · rw [decide_eq_false none, some] <;> rfl
      · omega
      · exact decide_eq_false (by omega)
      · rw [size_rep, List.size_toArray]
        omega
      · rw [size_rep]
        exact ⟨.ref _, _, laidF I (r.rep k.toNat) (by rw [PyProof.Rows.lm_len_rep_flat]; omega), rfl, many _ _ new rfl⟩
theorem op_repFK {X : Cx} (K : PySem.W.Frag) (h : X.K = K := by rfl) : OpR X (binaryOp .Mult) (rRepF K) := h ▸ op_repF
end
section
variable {K : PySem.W.Frag} {C : Addr} {H H' H1 H2 : Hp} {v w x y : V} {vs : List V} {d e : PyData} {ds es : List PyData}
variable {S : List Addr} {G : List (V × PyData)} {H0 : Hp} {σ : L2.St} {Γ : List Ct} {i j : Nat} {c : Ct} {te ta tb tc tl ty td tv : TE} {t u : TT}
variable {D : Ends} {tu tw tz : TS} {p q f : Addr} {P : Program} {W : World}
theorem ev_repT {k : Int} (ha : EvC K C ta σ H (.d (.tuple ds))) (hb : EvC K C tb σ H (.d (.int k))) (h1 : -1000 ≤ k) (h2 : k ≤ 1000) (hl : ds.length ≤ 1000) : EvC K C (tOp (rRepF K) ta tb) σ H (.d (.tuple (List.replicate k.toNat ds).flatten)) :=
  ev_op2 ha hb fun H1 _ x y a1 a2 Q q => by
    obtain ⟨a, xs, rfl, s1, d1⟩ := Td.tup_of a1
    have l1 := d1.length
    have rep : ∀ m : Nat, TdAll K H1 (List.replicate m xs).flatten (List.replicate m ds).flatten := fun m => by
      induction m with
      | zero => exact .nil
      | succ m ih =>
        rw [List.replicate_succ, List.replicate_succ, List.flatten_cons, List.flatten_cons]
        exact d1.append ih
    refine ⟨a, k, xs, rfl, Td.int_of a2, s1.sq, h1, h2, by omega, fun hw => ?_, fun _ p o hp ho => q _ _ (same_new hp) (new_t hp ho (rep _))⟩
    have e : (List.replicate k.toNat ds).flatten = ds := by
      rcases hw with hw | hw
      · subst hw
        cases d1
        exact List.flatten_eq_nil_iff.mpr fun l hl => (List.mem_replicate.mp hl).2
      · subst hw
        simp
    exact q _ H1 (Same.refl H1) (by rw [e]; exact a1)
end
end Pt
namespace PySem.SeqAt
open PySem PySem.Calls PyProof.Rows PySem.W
section
variable {A : Around} {s : Shared}
end
end PySem.SeqAt
namespace Pt
open PySem PySem.Spec PyProof.Rows L2
section
open PySem.W
variable {prog : Program} {w : World} {A : Around} {E : Value → Shared → Prop} {s : Shared}
inductive MixTups (h : Heap) : List Value → List (Option Value) → Prop
  | nil : MixTups h [] []
  | cons {a : Addr} {o : Obj} {xs : Array Value} {n : Nat} {vs : List Value} {fs : List (Option Value)} : h.get? a = some o → o.cls = .type "tuple" → o.data = .seq xs n → MixTups h vs fs → MixTups h (.ref a :: vs) (xs[0]? :: fs)
theorem MixTups.length {h : Heap} {vs : List Value} {fs : List (Option Value)} (t : MixTups h vs fs) : fs.length = vs.length := by
  induction t with
  | nil => rfl
  | cons _ _ _ _ ih => exact congrArg (· + 1) ih
end
section
variable {K : PySem.W.Frag} {C : Addr} {H H' H1 H2 : Hp} {σ : L2.St} {te : TE} {ds : List PyData}
end
end Pt
namespace Pt
open PySem PySem.Spec PyProof.Rows L2
def tLock (te : TE) : TE := fun σ H Q => te σ H fun v H1 => ∃ p xs, v = .ref p ∧ H1 p = some (.lst xs) ∧ ∀ o, Q v (L2.upd H1 p (.frz o (.lst xs)))
theorem pe_lock {X : Cx} {e : Expr} {te : TE} (h : PE X e te) : PE X e (tLock te) := ⟨fun pins s σ H Q I hq => thn (h.run pins s σ H _ I hq) fun u s1 ⟨v, H1, I1, r, p, xs, ev, hp, q⟩ => by
  obtain ⟨o, I2⟩ := I1.lock hp True.intro
  exact ⟨v, _, I2, r, q o⟩⟩
section
variable {K : PySem.W.Frag} {C : Addr} {H H' H1 H2 : Hp} {v w x y : V} {vs : List V} {d e : PyData} {ds es : List PyData}
variable {S : List Addr} {G : List (V × PyData)} {H0 : Hp} {σ : L2.St} {Γ : List Ct} {i j : Nat} {c : Ct} {te ta tb tc tl ty td tv : TE} {t u : TT}
variable {D : Ends} {tu tw tz : TS} {p q f : Addr} {P : Program} {W : World}
theorem ev_lock (h : EvN K C te σ H ds) : EvC K C (tLock te) σ H (.d (.list ds)) := fun H1 e1 Q q => h H1 e1 _ fun p H2 hp e2 a => by
  obtain ⟨_, xs, s, t⟩ := a
  have tx : ∀ o, Tx H2 (L2.upd H2 p (.frz o (.lst xs))) := fun o => .fr (LT.one s) Fr.upd
  refine ⟨p, xs, rfl, s, fun o => q _ _ (fun a ob ha => ?_) (.lst ⟨o, upd_same⟩ (TdAll.mono (tx o) _ _ t))⟩
  rw [upd_ne (ne_of_none ha hp)]
  exact e2 _ _ ha
theorem walkDL {a : Addr} {g : TG} {D : Ends} (Pv : Nat → L2.St → Hp → Prop) (h0 : Pv 0 σ H) (hw : ∀ k σ' H', Pv k σ' H' → Td K H' (.ref a) (.list ds))
    (hs : ∀ k d v σ' H', ds[k]? = some d → Td K H' v d → Pv k σ' H' → g v σ' H' fun σ2 H2 => tu { D with nx := Pv (k + 1), ct := Pv (k + 1), bk := D.nx } σ2 H2) (hd : ∀ σ' H', Pv ds.length σ' H' → D.nx σ' H') : Turns (Itl K a) g tu D σ H := turns_nth told_L Pv h0 (fun k σ' H' p => by
  obtain ⟨_, xs, e, s, t⟩ := Td.lst_of (hw k σ' H' p)
  cases e
  exact ⟨xs, s.sq, t⟩) hs hd
end
end Pt
namespace Pt
open PySem PySem.Spec PyProof.Rows L2
section
variable {X : Cx}
end
variable {K : PySem.W.Frag} {C : Addr} {H H' H1 H2 : Hp} {v w x y : V} {vs : List V} {d e : PyData} {ds es : List PyData}
variable {S : List Addr} {G : List (V × PyData)} {H0 : Hp} {σ : L2.St} {Γ : List Ct} {i j k l m b : Nat} {c : Ct} {te ta tb tc tl ty td tv : TE} {t u : TT} {ts : TA}
variable {D : Ends} {tu tw tz : TS} {p q f : Addr} {E : XK} {P : Program} {W : World}
theorem ev_neg {k : Int} (h : EvC K C ta σ H (.d (.int k))) : EvC K C (tUn (rU fun i => V.int (-i)) ta) σ H (.d (.int (-k))) := fun H1 e1 Q q => h H1 e1 _ fun v H2 e2 a => ⟨k, Td.int_of a, q _ H2 e2 (.int _)⟩
theorem s_forDL {g : TG} (w : Wd K C S G H0 H σ Γ) (h : EvC K C tl σ H (.d (.list ds))) (Pv : Addr → Nat → L2.St → Hp → Prop) (h0 : ∀ a H1, Wd K C S ((.ref a, .list ds) :: G) H0 H1 σ Γ → Pv a 0 σ H1)
    (hw : ∀ a k σ' H', Pv a k σ' H' → Td K H' (.ref a) (.list ds))
    (hs : ∀ a k d v σ' H', ds[k]? = some d → Td K H' v d → Pv a k σ' H' → g v σ' H' fun σ2 H2 => tu { D with nx := Pv a (k + 1), ct := Pv a (k + 1), bk := D.nx } σ2 H2) (hd : ∀ a σ' H', Pv a ds.length σ' H' → D.nx σ' H') : tFor (iList K tl) g tu D σ H :=
  h H (Same.refl H) _ fun v H1 e a => by
    obtain ⟨p, xs, rfl, s, t⟩ := Td.lst_of a
    exact ⟨p, rfl, ⟨xs, s.sq⟩, walkDL (Pv p) (h0 p H1 ((w.mono e).ghost a)) (hw p) (hs p) (hd p)⟩
end Pt
namespace Pt
open PySem PySem.Spec PyProof.Rows L2
section
variable {X : Cx}
end
variable {K : PySem.W.Frag} {C L : Addr} {H H' H1 H2 H0 : Hp} {v x y : V} {vs : List V} {d e : PyData} {ds es : List PyData}
variable {S : List Addr} {G : List (V × PyData)} {σ : L2.St} {Γ : List Ct} {i j m : Nat} {c : Ct} {te ta tb tl : TE} {t u : TT} {p q : Addr} {n : Int} {ps : List (Int × Int)} {E : XK}
variable {D : Ends} {tu tw tz : TS}
theorem kne_tr : (("_rows" : Str) == "_trade") = false := by decide +kernel
theorem lflds_rows (tr : V) (r : Addr) : (lflds tr r).lookup ("_rows" : Str) = some (.ref r) := by
  unfold lflds
  rw [List.lookup_cons, kne_tr, List.lookup_cons, beq_self_eq_true]
theorem lflds_trade (tr : V) (r : Addr) : (lflds tr r).lookup ("_trade" : Str) = some tr := by
  unfold lflds
  rw [List.lookup_cons, beq_self_eq_true]
theorem putF_lflds (tr : V) (r : Addr) : putF "_rows" (.ref r) (putF "_trade" tr []) = lflds tr r := by
  show (if ("_trade" : Str) = "_rows" then _ else _) = _
  rw [if_neg (fun e => by have := kne_tr; rw [e, beq_self_eq_true] at this; cases this)]
  rfl
theorem ev_asN (h : EvC K C te σ H (.r v)) (a : CtAt K C H v c) : EvC K C te σ H c := fun H1 e Q k => h H1 e _ fun v' H2 e2 z => k v' H2 e2 (by
  obtain rfl : v' = v := z
  exact CtAt.mono (e.trans e2) a)
theorem ev_fRows (cl : Cls K L) (nr : NoAttr K L "_rows") (h : EvC K C te σ H (.n L p q n ps ds)) : EvC K C (tFld K te "_rows") σ H (.s q ds) := fun H1 e1 Q k => h H1 e1 _ fun v H2 e2 a => by
  obtain ⟨rfl, ⟨dx, tr, b1, _⟩, xs, b, z⟩ := a
  exact ⟨p, L, dx, _, .ref q, rfl, b1, cl, nr, lflds_rows _ _, k _ H2 e2 ⟨rfl, xs, b, z⟩⟩
theorem ev_fTrade (cl : Cls K L) (nr : NoAttr K L "_trade") (h : EvC K C te σ H (.n L p q n ps ds)) : EvC K C (tFld K te "_trade") σ H (.t n ps) := fun H1 e1 Q k => h H1 e1 _ fun v H2 e2 a => by
  obtain ⟨rfl, ⟨dx, tr, b1, dy, r, b2, b3⟩, xs, b, z⟩ := a
  exact ⟨p, L, dx, _, .ref tr, rfl, b1, cl, nr, lflds_trade _ _, k _ H2 e2 ⟨tr, dy, r, rfl, b2, b3⟩⟩
def spPr (K : PySem.W.Frag) (C L : Addr) (R : Int → List (Int × Int) → List PyData → PyData → Prop) : Sp := fun vs H Q _ => ∃ p q n ps ds d, vs = [.ref p] ∧ CtAt K C H (.ref p) (.n L p q n ps ds) ∧ R n ps ds d ∧ ∀ v H', Same H H' → Td K H' v d → Q v H'
theorem ev_pr {R : Int → List (Int × Int) → List PyData → PyData → Prop} (h : EvC K C te σ H (.n L p q n ps ds)) (hR : R n ps ds d) : EvC K C (tProp L (spPr K C L R) [] E te) σ H (.d d) := fun H1 e1 Q k => h H1 e1 _ fun v H2 e2 a => by
  obtain ⟨rfl, ⟨dx, tr, b1, _⟩, _⟩ := id a
  exact ⟨p, dx, _, rfl, b1, p, q, n, ps, ds, d, rfl, a, hR, fun v H' e t => k v H' (e2.trans e) t⟩
def EvLn (K : PySem.W.Frag) (C L : Addr) (te : TE) (σ : L2.St) (H : Hp) (n : Int) (ps : List (Int × Int)) (ds : List PyData) : Prop := ∀ H1, Same H H1 → ∀ Q : VK, (∀ p q H2, H1 p = none → H1 q = none → Same H1 H2 → CtAt K C H2 (.ref p) (.n L p q n ps ds) → Q (.ref p) H2) → te σ H1 Q
theorem Wd.setLn (w : Wd K C S G H0 H σ Γ) (i : Nat) {p q : Addr} (e : Same H H') (hq : H q = none) (hx : CtAt K C H' (.ref p) (.n L p q n ps ds)) :
    Wd K C S G H0 H' (σ.set i (some (.ref p))) (Γ.set i (.n L p q n ps ds)) :=
  (w.mono e).setC i hx (fun _ a m => .inr (by rw [show a = q by simpa [Ct.adr] using m]; exact w.fresh0 hq)) fun j c' a _ hj m m' => by
    rw [show a = q by simpa [Ct.adr] using m] at m'
    exact w.fresh hq hj m'
theorem Wd.chgLn (w : Wd K C S G H0 H σ Γ) (hi : Γ[i]? = some (.n L p q n ps ds)) (fr : Fr [q] H H') (a : CtAt K C H' (.ref p) (.n L p q n ps es)) : Wd K C S G H0 H' σ (Γ.set i (.n L p q n ps es)) :=
  w.chgFr hi rfl rfl rfl rfl fr (let ⟨_, _, xs, b, _⟩ := a; ⟨_, b, True.intro⟩) fun v z => by
    obtain ⟨rfl, _⟩ := z
    exact a
def spLInit (K : PySem.W.Frag) (C L : Addr) : Sp := fun vs H Q _ => ∃ (p dx : Addr) (n : Int) (ps : List (Int × Int)) (v1 : V), vs = [.ref p, v1] ∧ H p = some (.ins L dx []) ∧ CtAt K C H v1 (.t n ps) ∧
  ∀ q H', (∀ b o, H b = some o → b ≠ p → H' b = some o) → H q = none → CtAt K C H' (.ref p) (.n L p q n ps [row []]) → Q .non H'
theorem el_make (ha : EvC K C ta σ H (.t n ps)) : EvLn K C L (tMake L (spLInit K C L) [] E (tCons ta tNil)) σ H n ps [row []] := fun H1 e1 Q k =>
  ha H1 e1 _ fun v H3 e3 a => fun x dx nx ndx nex => by
    have s3 : Same H3 (upd (upd H3 dx (.own x)) x (.ins L dx [])) := fun c o e => by
      rw [upd_ne (ne_of_none e nx), upd_ne (ne_of_none e ndx)]
      exact e
    refine ⟨x, dx, n, ps, v, rfl, upd_same, CtAt.mono s3 a, fun q H' k1 hq k2 => ⟨rfl, ?_⟩⟩
    have nxq : x ≠ q := fun z => by rw [← z, upd_same] at hq; cases hq
    have ndq : dx ≠ q := fun z => by rw [← z, upd_ne nex, upd_same] at hq; cases hq
    rw [upd_ne (Ne.symm nxq), upd_ne (Ne.symm ndq)] at hq
    exact k x q H' (e3.free nx) (e3.free hq) (e3.trans fun c o e => k1 c o (s3 c o e) (ne_of_none e nx)) k2
theorem q_rawLn (h : EvLn K C L te σ H n ps ds) (k : ∀ p q H1, H p = none → H q = none → Same H H1 → CtAt K C H1 (.ref p) (.n L p q n ps ds) → tz D (σ.set i (some (.ref p))) H1) : tSeq (tAsg te (gName i)) tz D σ H :=
  h H (Same.refl H) _ fun p q H1 hp hq e a => k p q H1 hp hq e a
theorem q_asgLn (w : Wd K C S G H0 H σ Γ) (h : EvLn K C L te σ H n ps ds) (k : ∀ p q σ1 H1, Wd K C S G H0 H1 σ1 (Γ.set i (.n L p q n ps ds)) → tz D σ1 H1) : tSeq (tAsg te (gName i)) tz D σ H :=
  q_rawLn h fun p q H1 _ hq e a => k p q _ H1 (w.setLn i e hq a)
theorem Wd.newAt {T : List Addr} (w : Wd K C S G H0 H σ Γ) (l : LT T H) (f : Fr T H H') (h : ∀ (i : Nat) (c : Ct), Γ[i]? = some c → c.adr = []) : Wd K C [] [] H' H' σ Γ :=
  ⟨fun _ _ e _ => e, LT.nil, w.len, fun i c hi => (w.at_ i c hi).map fun v => CtAt.fr l f (fun a m => by rw [h i c hi] at m; cases m), fun i c hi _ a m => (by rw [h i c hi] at m; cases m), fun i j c c' a hi _ m _ => (by rw [h i c hi] at m; cases m), fun p m => (by cases m)⟩
theorem q_appF (h : EvC K C ta σ H (.s q ds)) (hv : EvC K C te σ H (.d d)) (hz : ds.length < 10000000) (k : ∀ H1 xs v, Same H H1 → H1 q = some (.lst xs) → TdAll K H1 xs ds → Td K H1 v d → tz D σ (upd H1 q (.lst (xs ++ [v])))) : tSeq (tDrop (tBM K "list" rAppend ta (tCons te tNil))) tz D σ H :=
  h H (Same.refl H) _ fun x H1 e1 a1 => by
    obtain ⟨rfl, xs, b, t⟩ := id a1
    refine ⟨.inl ⟨rfl, xs, SqL.of b⟩, hv H1 e1 _ fun y H2 e2 a2 => ⟨q, xs, y, rfl, rfl, e2 _ _ b, Nat.lt_of_lt_of_le (by rw [t.length]; exact hz) (show 10000000 ≤ sizeLine by decide), k H2 xs y (e1.trans e2) (e2 _ _ b) (TdAll.mono (.of e2) _ _ t) a2⟩⟩
theorem ln_chg {xs : List V} (a : CtAt K C H (.ref p) (.n L p q n ps ds)) (t : TdAll K H xs es) : CtAt K C (upd H q (.lst xs)) (.ref p) (.n L p q n ps es) := by
  obtain ⟨_, ⟨dx, tr, b1, dy, r, b2, b3⟩, ys, b4, _⟩ := a
  have npq : p ≠ q := fun z => by rw [z, b4] at b1; cases b1
  have ntq : tr ≠ q := fun z => by rw [z, b4] at b2; cases b2
  have f : Fr [q] H (upd H q (.lst xs)) := Fr.upd
  have l := LT.one b4
  exact ⟨rfl, ⟨dx, tr, by rw [upd_ne npq]; exact b1, dy, r, by rw [upd_ne ntq]; exact b2, Td.mono (.fr l f) _ _ b3⟩, xs, upd_same, TdAll.mono (.fr l f) _ _ t⟩
theorem lflds_no {mn : Str} (tr : V) (r : Addr) (h1 : (mn == "_trade") = false) (h2 : (mn == "_rows") = false) : (lflds tr r).lookup mn = none := by
  unfold lflds
  rw [List.lookup_cons, h1, List.lookup_cons, h2]
  rfl
section
variable {X : Cx} {CX : CXT} {k : Nat} {f C : Addr} {fd : FuncData} {ps : List Str} {sp : Sp} {E : L2.St → XK} {m : Str} {apos pos : Pos} {e o : Expr} {es : List Expr} {ta : TE} {t : TA}
end
end Pt
namespace Pt
open PySem PySem.Spec PyProof.Rows L2
variable {K : PySem.W.Frag} {C : Addr} {H H' H1 H2 : Hp} {v w x y : V} {vs : List V} {d e : PyData} {ds es : List PyData}
variable {S : List Addr} {G : List (V × PyData)} {H0 : Hp} {σ : L2.St} {Γ : List Ct} {i j k l m b : Nat} {c : Ct} {te ta tb tc tl ty td tv : TE} {t u : TT} {ts : TA}
variable {D : Ends} {tu tw tz : TS} {p q f : Addr} {E : XK} {P : Program} {W : World} {α β : Type}
def CAll (K : PySem.W.Frag) (C : Addr) (ce : β → Ct) (H : Hp) : List V → List β → Prop
  | [], [] => True
  | v :: vs, b :: bs => CtAt K C H v (ce b) ∧ CAll K C ce H vs bs
  | _, _ => False
theorem CAll.fr {T : List Addr} {ce : β → Ct} (hce : ∀ b, (ce b).adr = []) (l : LT T H) (f : Fr T H H') : ∀ {vs : List V} {bs : List β}, CAll K C ce H vs bs → CAll K C ce H' vs bs
  | [], [], _ => True.intro
  | _ :: _, b :: _, ⟨a, r⟩ => ⟨CtAt.fr l f (by rw [hce b]; simp) a, CAll.fr hce l f r⟩
  | [], _ :: _, h => h.elim
  | _ :: _, [], h => h.elim
theorem CAll.mono {ce : β → Ct} (hce : ∀ b, (ce b).adr = []) (e : Same H H') {vs : List V} {bs : List β} (h : CAll K C ce H vs bs) : CAll K C ce H' vs bs := h.fr hce LT.nil (Fr.of e [])
theorem CAll.length {ce : β → Ct} : ∀ {vs : List V} {bs : List β}, CAll K C ce H vs bs → vs.length = bs.length
  | [], [], _ => rfl
  | _ :: _, _ :: _, ⟨_, r⟩ => congrArg (· + 1) (CAll.length r)
  | [], _ :: _, h => h.elim
  | _ :: _, [], h => h.elim
theorem CAll.snoc {ce : β → Ct} {v : V} {b : β} (hv : CtAt K C H v (ce b)) : ∀ {vs : List V} {bs : List β}, CAll K C ce H vs bs → CAll K C ce H (vs ++ [v]) (bs ++ [b])
  | [], [], _ => ⟨hv, True.intro⟩
  | _ :: _, _ :: _, ⟨a, r⟩ => ⟨a, CAll.snoc hv r⟩
  | [], _ :: _, h => h.elim
  | _ :: _, [], h => h.elim
theorem CAll.get {ce : β → Ct} : ∀ {vs : List V} {bs : List β} {k : Nat} {v : V}, CAll K C ce H vs bs → vs[k]? = some v → ∃ b, bs[k]? = some b ∧ CtAt K C H v (ce b)
  | _ :: _, b :: _, 0, _, ⟨a, _⟩, e => ⟨b, rfl, by cases e; exact a⟩
  | _ :: _, _ :: _, k + 1, _, ⟨_, r⟩, e => CAll.get (k := k) r e
  | [], _, _, _, _, e => by simp at e
  | _ :: _, [], _, _, h, _ => h.elim
theorem CAll.data : ∀ {vs : List V} {bs : List β} {g : β → PyData}, CAll K C (fun b => .d (g b)) H vs bs → TdAll K H vs (bs.map g)
  | [], [], _, _ => .nil
  | _ :: _, _ :: _, _, ⟨a, r⟩ => .cons a (CAll.data r)
  | [], _ :: _, _, h => h.elim
  | _ :: _, [], _, h => h.elim
def EvM (K : PySem.W.Frag) (C : Addr) (te : TE) (σ : L2.St) (H : Hp) (ce : β → Ct) (bs : List β) : Prop := ∀ H1, Same H H1 → ∀ Q : VK, (∀ p xs H2, H1 p = none → Same H1 H2 → H2 p = some (.lst xs) → CAll K C ce H2 xs bs → Q (.ref p) H2) → te σ H1 Q
theorem EvM.n {bs : List β} {g : β → PyData} (h : EvM K C te σ H (fun b => .d (g b)) bs) : EvN K C te σ H (bs.map g) := fun H1 e1 Q q => h H1 e1 _ fun p xs H2 hp e2 s a => q p H2 hp e2 ⟨rfl, xs, s, a.data⟩
end Pt
namespace Pt
open PySem PySem.Spec PyProof.Rows L2
variable {K : PySem.W.Frag} {C : Addr} {H H' H1 H2 : Hp} {v w x y : V} {vs : List V} {d e : PyData} {ds es : List PyData}
variable {S : List Addr} {G : List (V × PyData)} {H0 : Hp} {σ : L2.St} {Γ : List Ct} {i j k l m : Nat} {c : Ct} {te ta tb tc tl ty td tv : TE} {t u : TT} {ts : TA}
variable {D : Ends} {tu tw tz : TS} {p q f : Addr} {E : XK} {P : Program} {W : World} {α β : Type}
theorem ev_inS2 {a b c : Str} (ha : EvC K C ta σ H (.d (.str a))) (hb : EvC K C tb σ H (.d (.tuple [.str b, .str c]))) : EvC K C (tOp (rIn K false) ta tb) σ H (.d (.bool (b == a || c == a))) := fun H1 e1 Q q =>
  ha H1 e1 _ fun x H2 e2 a2 => hb H2 (e1.trans e2) _ fun y H3 e3 a3 => by
    obtain ⟨r, xs, rfl, sr, t⟩ := Td.tup_of a3
    have ex : xs = [.str b, .str c] := by
      cases t with
      | cons t1 t => cases t with
        | cons t2 t => cases t; rw [Td.str_of t1, Td.str_of t2]
    subst ex
    rw [Td.str_of a2]
    refine ⟨r, _, rfl, .inr sr.sq, rfl, rfl, ?_⟩
    have e : inV (.str a) [V.str b, V.str c] = (b == a || c == a) := by
      show ((b == a) || ((c == a) || false)) = _
      rw [Bool.or_false]
    rw [e]
    exact q _ H3 (e2.trans e3) (.bl _)
end Pt
namespace Pt
open PySem PySem.Spec PyProof.Rows L2
def Ites (x : Str) : It := ItE (Its x)
theorem src_str {P : Program} {w : World} {K : PySem.W.Frag} (x : Str) (t : Tok) (it : Addr) : DrawSrc P w K (Its x) it (fun i h => h.IsStrIter it (strIterType x) x t i) where
  obj := fun i h ⟨o, h1, _, h2⟩ => ⟨o, h1, fun v z => by rw [h2] at z; cases z⟩
  keep := fun i h h' ⟨o, h1, h2⟩ k => ⟨o, k o h1, h2⟩
  draw := by
    rintro X rfl rfl rfl hc i pins s σ H I z go
    refine ⟨_, _, _, _, Draws.text (A := X.A.in1) (show X.A.in1.handled = none from I.ok.hd hc) it x t, fun b m => ?_, go, z, fun h q => q, fun u hu => ?_⟩
    · obtain ⟨o, h1, h2, _⟩ := id z
      cases List.mem_singleton.mp m
      refine ⟨o, h1, ?_⟩
      rw [h2]
      unfold strIterType
      split <;> decide
    · obtain ⟨c, tt, hx, rfl⟩ := hu
      exact ⟨.str ⟨#[c]⟩, ⟨tt, rfl⟩, rfl, c, hx, rfl⟩
  over := by
    rintro X rfl rfl rfl hc i pins s σ H I z stop
    have gone : x.cps[i]? = none := Array.getElem?_eq_none stop
    have hh : X.A.in1.handled = none := I.ok.hd hc
    refine ⟨[it], i, fun _ _ => False, fun j h => j = i ∧ h.IsStrIter it (strIterType x) x t i, ⟨fun j h q => let ⟨o, q, _⟩ := q.2; ⟨o, q⟩, ?_, ?_, ?_⟩, rfl, z⟩
    · exact fun j h h' ⟨e, o, q⟩ k => ⟨e, o, k it (by simp) o q.1, q.2⟩
    · exact fun j s' Q E lt q => absurd q.1 (by omega)
    · intro s' Q E q hE
      obtain ⟨_, q⟩ := q
      unfold strIterType at q
      split at q
      · exact wpAny_nextOf_ascii_end hh q gone hE
      · exact wpAny_nextOf_wide_end hh q gone hE
def iEnumS (ta : TA) : TI := fun σ H R => ta σ H fun vs H1 => ∃ x, vs = [.str x] ∧ R (Ites x) H1
theorem pi_enumS {X : Cx} {e : Expr} {ta : TA} {p pos tpos : Pos} {elts : List Expr} {kk : Nat} (hg : Gl X "enumerate") (hm : X.mg "enumerate" = none) (ha : PA X [e] ta) (hs : starEach [e] X.env = [(false, eval e X.env)] := by rfl) : PI X (.Tuple elts kk tpos) (.Call (.Name "enumerate" p) [e] [] pos) (iEnumS ta) :=
  pi_enumG hg hm ha (fun pins s σ H R vs us I r z => by
    obtain ⟨x, rfl, q⟩ := z
    obtain ⟨u, rfl, t, rfl⟩ := r.one
    exact ⟨_, _, _, _, _, rfl, begins_text x t, True.intro, src_str x t _, fun h q => ⟨_, q, rfl, rfl⟩, q⟩) hs
abbrev Sg (l : List Nat) : Str := ⟨l.toArray⟩
section
variable {K : PySem.W.Frag} {C : Addr} {H H' H1 H2 H0 : Hp} {v x y : V} {vs : List V} {d e : PyData} {ds es : List PyData}
variable {S : List Addr} {G : List (V × PyData)} {σ : L2.St} {Γ : List Ct} {i j m : Nat} {c : Ct} {te ta tb tl : TE} {t u : TT} {a b : Str}
variable {D : Ends} {tu tw tz : TS} {E : XK}
def rAddSt : R2 := fun x y H Q => ∃ i j, x = .str i ∧ y = .str j ∧ i.length + j.length ≤ sizeLine ∧ Q (.str (i ++ j)) H
theorem op_addSt {X : Cx} : OpR X (binaryOp .Add) rAddSt := op_add_str
theorem ev_addSt (ha : EvC K C ta σ H (.d (.str a))) (hb : EvC K C tb σ H (.d (.str b))) (hl : a.length + b.length ≤ 10000000) : EvC K C (tOp rAddSt ta tb) σ H (.d (.str (a ++ b))) :=
  ev_op2 ha hb fun H1 _ x y a1 a2 Q q => ⟨a, b, Td.str_of a1, Td.str_of a2, Nat.le_trans hl (show 10000000 ≤ sizeLine by decide), q _ H1 (Same.refl H1) (.str _)⟩
theorem ev_lenSt (h : EvC K C te σ H (.d (.str a))) (hl : a.length ≤ 10000000) : EvC K C (tCB (rLen K) (tCons te tNil)) σ H (.d (.int (a.length : Nat))) := ev_cb (ea_cons h ea_nil) fun H1 _ vs a1 Q q => by
  obtain ⟨v, rfl, a2⟩ := a1.one
  rw [Td.str_of a2]
  exact ⟨_, a.length, rfl, ⟨Nat.le_trans hl (show 10000000 ≤ sizeLine by decide), rfl⟩, q _ H1 (Same.refl H1) (.int _)⟩
theorem ev_findSt (ha : EvC K C ta σ H (.d (.str a))) (hb : EvC K C tb σ H (.d (.str b))) : EvC K C (tM1 (fun x xs H Q => ∃ a b, x = .str a ∧ xs = [.str b] ∧ Q (.int (Txt.find a b)) H) ta tb) σ H (.d (.int (Txt.find a b))) := fun H1 e1 Q q =>
  ha H1 e1 _ fun v H2 e2 a2 => ⟨⟨a, Td.str_of a2⟩, hb H2 (e1.trans e2) _ fun y H3 e3 a3 => ⟨a, b, Td.str_of a2, by rw [Td.str_of a3], q _ H3 (e2.trans e3) (.int _)⟩⟩
theorem ev_eqSt (ha : EvC K C ta σ H (.d (.str a))) (hb : EvC K C tb σ H (.d (.str b))) : EvC K C (tOp rEq ta tb) σ H (.d (.bool (decide (a = b)))) :=
  ev_op2 ha hb fun H1 _ x y a1 a2 Q q => by
    rw [Td.str_of a1, Td.str_of a2]
    refine ⟨rfl, q _ H1 (Same.refl H1) ?_⟩
    rw [show decide (V.str a = V.str b) = decide (a = b) by by_cases e : a = b <;> simp [e]]
    exact .bl _
theorem ev_neSt (ha : EvC K C ta σ H (.d (.str a))) (hb : EvC K C tb σ H (.d (.str b))) : EvC K C (tOp rNe ta tb) σ H (.d (.bool (!decide (a = b)))) :=
  ev_op2 ha hb fun H1 _ x y a1 a2 Q q => by
    rw [Td.str_of a1, Td.str_of a2]
    refine ⟨rfl, q _ H1 (Same.refl H1) ?_⟩
    rw [show decide (V.str a = V.str b) = decide (a = b) by by_cases e : a = b <;> simp [e]]
    exact .bl _
theorem rep_size (c : Array Nat) : ∀ (n : Nat) (z : Array Nat), ((List.replicate n c).foldl (· ++ ·) z).size = z.size + n * c.size
  | 0, z => by simp
  | n + 1, z => by
    rw [List.replicate_succ, List.foldl_cons, rep_size c n, Array.size_append, Nat.add_mul]
    omega
theorem ev_notTT (h : EvC K C te σ H (.d (.tuple ds))) : EvC K C (tNotT K te) σ H (.d (.bool (!!ds.isEmpty))) := fun H1 e1 Q q => et_truT h H1 e1 (fun b H2 => Q (.bl (!b)) H2) fun H2 e2 => q _ H2 e2 (.bl _)
def rMulS : R2 := fun x y H Q => ∃ (a : Str) (n : Nat), x = .str a ∧ y = .int (n : Nat) ∧ 2 ≤ n ∧ n ≤ 1000 ∧ 1 ≤ a.length ∧ a.length ≤ 1000 ∧ Q (.str ⟨(List.replicate n a.cps).foldl (· ++ ·) #[]⟩) H
theorem op_mulSt {X : Cx} : OpR X (binaryOp .Mult) rMulS := by
  intro pins s σ H x y u v Q I rx ry h
  obtain ⟨a, n, rfl, rfl, h1, h2, h3, h4, q⟩ := h
  obtain ⟨t, rfl⟩ := rx
  obtain ⟨t', rfl⟩ := ry
  have hn : ¬ ((n : Int) < 1) := by omega
  have hf : ((n : Int) == 1 || a.length == 0) = false := by
    rw [Bool.or_eq_false_iff]
    exact ⟨by simp; omega, by simp; omega⟩
  have hm : a.length * (n : Int).toNat ≤ 1000000 := by
    rw [Int.toNat_natCast]
    exact Nat.mul_le_mul h4 h2
  refine P.mul_str (by simp; omega) (fun _ _ => ?_) (fun _ _ => ?_) ?_
  · have : (a.length : Int) ≤ (2 ^ 63 - 1) / (n : Int) := by
      refine Int.le_ediv_of_mul_le (by omega) ?_
      have : (a.length : Int) * n ≤ 1000 * 1000 := Int.mul_le_mul (by omega) (by omega) (by omega) (by omega)
      omega
    omega
  · exact PyProof.Rows.short24 (by omega)
  · rw [if_neg hn, hf, if_neg Bool.false_ne_true, Int.toNat_natCast]
    refine ⟨?_, .str _, H, I.tok _, ⟨_, rfl⟩, q⟩
    show Array.size (List.foldl (· ++ ·) (#[] : Array Nat) (List.replicate n a.cps)) ≤ _
    rw [rep_size, Array.size_empty, Nat.zero_add]
    have : n * a.cps.size ≤ 1000 * 1000 := Nat.mul_le_mul h2 h4
    have h5 := sizeLine_eq
    omega
theorem s_forSt (h : EvC K C tl σ H (.d (.str a))) (Pv : Nat → L2.St → Hp → Prop) (h0 : ∀ H1, Same H H1 → Pv 0 σ H1)
    (hs : ∀ (k : Nat) (cc : Nat) σ' H' H2, a.cps[k]? = some cc → Pv k σ' H' → Same H' H2 → tu { D with nx := Pv (k + 1), ct := Pv (k + 1), bk := D.nx } ((σ'.set i (some (.int (k : Nat)))).set j (some (.str (Sg [cc])))) H2) (hd : ∀ σ' H', Pv a.cps.size σ' H' → D.nx σ' H') :
    tFor (iEnumS (tCons tl tNil)) (gTup K 2 (gCons (gName i) (gCons (gName j) gNil))) tu D σ H :=
  h H (Same.refl H) _ fun v H1 e1 a1 => by
    rw [Td.str_of a1]
    refine ⟨a, rfl, fun q m σ H => m = a.cps.size - q ∧ q ≤ a.cps.size ∧ Pv q σ H, ⟨a.cps.size, by simp, Nat.zero_le _, h0 H1 e1⟩, ?_⟩
    rintro q m σ H ⟨rfl, hi, p⟩
    by_cases hlt : q < a.cps.size
    · refine .inr ⟨hlt, Pv (q + 1), fun σ' H' p' => ⟨a.cps.size - (q + 1), by omega, rfl, hlt, p'⟩, fun x H' y => ?_⟩
      obtain ⟨T, sg, rfl, nT, rfl, _, cc, hc, rfl⟩ := y
      refine ⟨T, _, rfl, SqT.of upd_same, rfl, .int (q : Nat), [.str (Sg [cc])], rfl, .str (Sg [cc]), [], rfl, rfl, ?_⟩
      exact hs q cc σ H _ hc p (same_new nT)
    · have e : q = a.cps.size := by omega
      subst e
      exact .inl ⟨Nat.le_refl _, hd σ H p⟩
end
end Pt
namespace Pt
open PySem PySem.Spec PyProof.Rows L2
def tHead (t : TS) : TS := fun D σ H => t { D with nx := fun _ _ => False } σ H
theorem pss_head {X : Cx} {st : Stmt} {rest : List Stmt} {t : TS} (h : PS X st t) : PSs X (st :: rest) (tHead t) :=
  ⟨fun pins s σ H D I q => wpAny_execs_cons (wpAny_mono (h.run pins s σ H _ I q) (fun f s1 z => by
    cases f with
    | next => exact z.elim fun _ z => z.elim fun _ z => z.2.elim
    | brk => exact z
    | cont => exact z
    | ret u => exact z) fun _ _ z => z)⟩
section
variable {P : Program} {w : World} {K : PySem.W.Frag} {mg : Str → Option Value} {base : Heap} {CT : CXT} {k m : Nat} {f : Addr} {fd : FuncData} {ps : List Str} {s1 s2 : Sp}
end
abbrev Clz := Value × Option Nat × (Addr → Value → Option Addr → TS)
def goneD : Option Nat → Ends → Ends
  | none, D => D
  | some i, D => ⟨fun σ H => D.nx (σ.set i none) H, D.rt, fun σ H => D.bk (σ.set i none) H, fun σ H => D.ct (σ.set i none) H⟩
def namedS : Option Nat → Addr → L2.St → L2.St
  | none, _, σ => σ
  | some i, a, σ => σ.set i (some (.ref a))
def wClz (K : PySem.W.Frag) (Wo : WX) (D : Ends) : List Clz → WX
  | [] => Wo
  | z :: r => fun cls d σ H => ∃ b, PySem.W.exmOne K cls z.1 = some b ∧ (b = true → ∀ a, H a = none → z.2.2 a cls d (goneD z.2.1 D) (namedS z.2.1 a σ) H) ∧ (b = false → wClz K Wo D r cls d σ H)
section
variable {X : Cx} {body : List Stmt} {g : ExceptHandler} {gs : List ExceptHandler} {l : List Clz} {pos : Pos} {tb : WX → TS} {Wo : WX}
def Here (X : Cx) (pins : List (Addr × Obj)) (σ : L2.St) (H : Hp) (a : Addr) (cls : Value) (d : Option Addr) (t : Shared) : Prop := ∃ (B : Heap) (r : Shared), HandSPX.FlyingZ B (X.env :: X.outer) a (Zc cls d) t.heap ∧ L2.Inv X pins σ H r ∧
  (∀ b o, r.heap.get? b = some o → b ∉ frs X.stack → B.get? b = some o) ∧ r.heap.UpToSlots t.heap ∧ H a = none ∧ t.os = r.os ∧ AllBare t.gens
variable {pins : List (Addr × Obj)} {σ : L2.St} {H : Hp} {a : Addr} {cls : Value} {d : Option Addr} {t : Shared}
theorem Here.out {Q : Flow → Shared → Prop} {w : String} (z : Here X pins σ H a cls d t) (hs : X.stack = X.env :: X.outer) (hf : X.env.frame = some X.env.locals) (tk : Takes X Wo) (hw : Wo cls d σ H) : wpAny (model X.prog X.w) X.A (PySem.passOn w (.ref a) X.env : Sem Flow) Q X.xe t := by
  obtain ⟨B, r, z1, z2, z3, z4, z5, z6, z7⟩ := z
  obtain ⟨_, _, _, oe, vs, T, oT, ts, y1, y2, y3, y4, _⟩ := id z1
  have up : wpAny (model X.prog X.w) X.A (setFlight (.ref a) X.env.frame) (fun _ t2 => wpAny (model X.prog X.w) X.A (throw (.ref a) : Sem Flow) Q X.xe t2) X.xe t := hf ▸ HandSPX.setFlight_upZ z1 fun h2 x1 x2 =>
    wpAny_throw (tk _ _ ⟨a, B, r, pins, σ, H, cls, d, rfl, z2, z3, z4.trans x2, .inr (.inr (hs ▸ x1)), z5, z6, z7, hw⟩)
  unfold PySem.passOn
  refine wpAny_bind (wpAny_field y1 y3 y4 ?_)
  have nn : ¬ (Value.ref T == Value.none) = true := by simp
  rw [if_neg nn]
  first
    | exact wpAny_bind up
    | exact wpAny_bind (wpAny_pure (wpAny_bind up))
end
end Pt
namespace Pt
open PySem PySem.Spec PyProof.Rows L2
abbrev RR := List Int × List Int
def numsK (l : List Int) : NestedKey := .tup (l.map .num)
def nkey (k : RR) : NestedKey := .tup [numsK k.1, numsK k.2]
theorem nums_inj : ∀ {l m : List Int}, l.map NestedKey.num = m.map NestedKey.num → l = m
  | [], [], _ => rfl
  | [], _ :: _, h => by cases h
  | _ :: _, [], h => by cases h
  | a :: l, b :: m, h => by
    rw [List.map_cons, List.map_cons] at h
    injection h with h1 h2
    injection h1 with h1
    rw [h1, nums_inj h2]
theorem nkey_inj {k m : RR} (h : nkey k = nkey m) : k = m := by
  unfold nkey numsK at h
  injection h with h
  injection h with h1 h2
  injection h1 with h1
  injection h2 with h2 _
  injection h2 with h2
  exact Prod.ext (nums_inj h1) (nums_inj h2)
abbrev EnN := RR × V × Addr
def EntsN (es : List EnN) (xs : List (NestedKey × Addr × Value)) : Prop := Paired (fun (e : EnN) (q : NestedKey × Addr × Value) => q.1 = nkey e.1 ∧ q.2.1 = e.2.2 ∧ RelV e.2.1 q.2.2) es xs
def lookN (es : List EnN) (k : RR) : Option V := (es.find? fun e => decide (e.1 = k)).map (·.2.1)
theorem EntsN.val {es : List EnN} {xs : List (NestedKey × Addr × Value)} (r : EntsN es xs) (k : RR) : RelO (lookN es k) ((atKey xs (nkey k)).map (·.2)) := by
  unfold EntsN at r
  induction r with
  | nil => exact True.intro
  | @cons p q ps qs h t ih =>
    obtain ⟨h1, _, h2⟩ := h
    by_cases e : p.1 = k
    · have e' : q.1 = nkey k := by rw [h1, e]
      have a : lookN (p :: ps) k = some p.2.1 := by simp [lookN, List.find?_cons, e]
      have b : atKey (q :: qs) (nkey k) = some q.2 := by simp [atKey, List.find?_cons, e']
      rw [a, b]; exact h2
    · have e' : ¬ q.1 = nkey k := fun z => e (nkey_inj (h1.symm.trans z))
      have a : lookN (p :: ps) k = lookN ps k := by simp [lookN, List.find?_cons, e]
      have b : atKey (q :: qs) (nkey k) = atKey qs (nkey k) := by simp [atKey, List.find?_cons, e']
      rw [a, b]; exact ih
theorem EntsN.len {es : List EnN} {xs : List (NestedKey × Addr × Value)} (r : EntsN es xs) : es.length = xs.length := Paired.length r
section
variable {X : Cx} {pins : List (Addr × Obj)} {σ : L2.St} {H : Hp} {s : Shared} {a b : Addr} {A : Around} {E : Value → Shared → Prop}
end
section
variable {X : Cx} {o i e value : Expr} {pos pos' : Pos} {td ty tv : TE}
end
end Pt
namespace Pt
open PySem PySem.Spec PyProof.Rows L2
def KsN (en : List EnN) (ks : List (Addr × List V)) : Prop := ∀ q ∈ en, ∃ b1 b2, (q.2.2, [V.ref b1, V.ref b2]) ∈ ks ∧ (b1, q.1.1.map V.int) ∈ ks ∧ (b2, q.1.2.map V.int) ∈ ks
theorem KsN.nil : KsN [] [] := fun q m => nomatch m
section
variable {K : PySem.W.Frag} {C : Addr} {H H' H1 H2 : Hp} {v w x y : V} {vs : List V} {d e : PyData} {ds es : List PyData}
variable {S : List Addr} {G : List (V × PyData)} {H0 : Hp} {σ : L2.St} {Γ : List Ct} {i j k l m : Nat} {c : Ct} {te ta tb tc tl ty td tv : TE} {t u : TT}
variable {D : Ends} {tu tw tz : TS} {p q f : Addr} {P : Program} {W : World} {en : List EnN} {ks : List (Addr × List V)}
end
end Pt
namespace Pt
open PySem PySem.Spec PyProof.Rows L2
inductive Ak where
  | d (x : PyData)
  | t (n : Int) (ps : List (Int × Int))
  | k (p : Addr) (xs : List V)
abbrev ceA : Ak → Ct
  | .d x => .d x
  | .t n ps => .t n ps
  | .k p xs => .k p (.lst xs) []
theorem ceA_adr : ∀ a, (ceA a).adr = []
  | .d _ => rfl
  | .t _ _ => rfl
  | .k _ _ => rfl
section
variable {K : PySem.W.Frag} {C : Addr} {H H' H1 H2 : Hp} {v w x y : V} {vs xs : List V} {d e : PyData} {ds es : List PyData}
variable {S : List Addr} {G : List (V × PyData)} {H0 : Hp} {σ σ1 : L2.St} {Γ Γ1 : List Ct} {i j k : Nat} {c : Ct} {te ta tb tc tl ty td tv : TE} {t u : TT}
variable {D : Ends} {tu tw tz : TS} {p q f : Addr} {as bs : List Ak} {a : Ak}
abbrev CA (K : PySem.W.Frag) (C : Addr) (H : Hp) (vs : List V) (as : List Ak) : Prop := CAll K C ceA H vs as
theorem CAll.set {v : V} {a : Ak} : ∀ {vs : List V} {as : List Ak} (k : Nat), CA K C H vs as → CtAt K C H v (ceA a) → CA K C H (vs.set k v) (as.set k a)
  | [], [], _, _, _ => True.intro
  | _ :: _, _ :: _, 0, ⟨_, r⟩, h => ⟨h, r⟩
  | _ :: _, _ :: _, k + 1, ⟨b, r⟩, h => ⟨b, CAll.set k r h⟩
  | [], _ :: _, _, h, _ => h.elim
  | _ :: _, [], _, h, _ => h.elim
variable {ok : Ak → Prop} {n m : Nat} {ts tr : TA} {E : XK}
def PAt (K : PySem.W.Frag) (C : Addr) (H : Hp) : List (V × V) → List (Str × Ak) → Prop
  | [], [] => True
  | (x, v) :: ps, (s, a) :: l => x = .str s ∧ CtAt K C H v (ceA a) ∧ PAt K C H ps l
  | _, _ => False
def KAt (K : PySem.W.Frag) (C : Addr) (H : Hp) : List (Key × V) → List (Str × Ak) → Prop
  | [], [] => True
  | (x, v) :: ps, (s, a) :: l => x = .inr s ∧ CtAt K C H v (ceA a) ∧ KAt K C H ps l
  | _, _ => False
theorem KAt.fr {T : List Addr} (t : LT T H) (f : Fr T H H') : ∀ {kvs : List (Key × V)} {l : List (Str × Ak)}, KAt K C H kvs l → KAt K C H' kvs l
  | [], [], _ => True.intro
  | (_, _) :: _, (_, _) :: _, ⟨e, c, r⟩ => ⟨e, CtAt.fr t f (by rw [ceA_adr]; simp) c, KAt.fr t f r⟩
  | [], _ :: _, h => h.elim
  | _ :: _, [], h => h.elim
theorem KAt.map : ∀ {kvs : List (Key × V)} {l : List (Str × Ak)}, KAt K C H kvs l → kvs.map (·.1) = l.map fun e => (.inr e.1 : Key)
  | [], [], _ => rfl
  | (_, _) :: _, (_, _) :: _, ⟨e, _, r⟩ => by rw [List.map_cons, List.map_cons, KAt.map r, e]
  | [], _ :: _, h => h.elim
  | _ :: _, [], h => h.elim
theorem KAt.none {s : Str} : ∀ {kvs : List (Key × V)} {l : List (Str × Ak)}, KAt K C H kvs l → (l.find? fun e => decide (e.1 = s)) = Option.none → valV kvs (.inr s) = Option.none
  | [], [], _, _ => rfl
  | (_, v) :: kvs, (s', a') :: l, ⟨e, c, r⟩, h => by
    subst e
    by_cases q : s' = s
    · subst q
      rw [List.find?_cons, decide_eq_true rfl] at h
      cases h
    · rw [List.find?_cons, decide_eq_false q] at h
      have h1 := KAt.none r h
      unfold valV at h1 ⊢
      rw [List.find?_cons, decide_eq_false fun z => q (by injection z)]
      exact h1
  | [], _ :: _, h, _ => h.elim
  | _ :: _, [], h, _ => h.elim
theorem PAt.mono (e : Same H H') : ∀ {ps : List (V × V)} {l : List (Str × Ak)}, PAt K C H ps l → PAt K C H' ps l
  | [], [], _ => True.intro
  | (_, _) :: _, (_, _) :: _, ⟨x, c, r⟩ => ⟨x, CtAt.mono e c, PAt.mono e r⟩
  | [], _ :: _, h => h.elim
  | _ :: _, [], h => h.elim
end
end Pt
namespace Pt
open PySem PySem.Spec PyProof.Rows L2
abbrev Bk (X : Cx) (t : Shared) (G : Hp) (sc : Scope) (ce : Env) (its : List Addr) : Cx := { X.blk t G sc ce its with pn := X.pn }
theorem bk_in {X : Cx} {t u : Shared} {G G' : Hp} {sc : Scope} {ce : Env} {its : List Addr} {σ : L2.St} (J : Inv (X.blk t G sc ce its) [] σ G' u) (far : ∀ p ∈ X.pn, u.heap.get? p.1 = some p.2 ∧ G' p.1 = none ∧ p.1 ≠ ce.locals ∧ p.1 ∉ frs X.stack ∧ ∀ v, p.2.data ≠ .cell v) : Inv (Bk X t G sc ce its) [] σ G' u where
  ok := ⟨J.ok.mod, J.ok.kind, J.ok.glob, J.ok.blt, J.ok.above, J.ok.inj, J.ok.has, J.ok.cab, J.ok.hd, J.ok.frames, J.ok.stk, J.ok.exf, J.ok.bs, J.ok.bsz, J.ok.noex, J.ok.exfs, J.ok.funs, J.ok.frf⟩
  os := J.os
  bare := J.bare
  base := J.base
  loc := J.loc
  cell := J.cell
  free := J.free
  freeC := J.freeC
  pin := fun p m => far p ((List.mem_append.mp m).resolve_right List.not_mem_nil)
  hok := J.hok
  len := J.len
def tLcH (wi : TI) (g : TG) (tt : TT) (te : TE) (vs : List Nat) : TE := fun σ H Q => wi σ H fun J G => ∀ L, G L = none → ∃ (n : Nat) (W : Nat → Hp → Prop), W 0 (upd G L (.lst [])) ∧ (∀ G1, W n G1 → J.stop n G1 ∧ Q (.ref L) G1) ∧ ∀ k G1, k < n → W k G1 → J.go k G1 ∧ ∀ x G2, J.yld k G1 x G2 → g x (wipe σ vs) G2 fun σ3 G3 => wipe σ3 vs = wipe σ vs ∧ tt σ3 G3 fun b G4 =>
  (b = true → te σ3 G4 fun y G5 => ∃ ys, G5 L = some (.lst ys) ∧ ys.length < sizeLine ∧ W (k + 1) (upd G5 L (.lst (ys ++ [y])))) ∧ (b = false → W (k + 1) G4)
theorem pe_lcH {X : Cx} {elt tg iter : Expr} {ifs : List Expr} {sc : Scope} {own : List (Str × Nat)} {pos : Pos} {wi : TI} {g : TG} {tt : TT} {te : TE} (hot : L2H.HotC X) (nd : X.N.Nodup) (walk : L2H.PIH X tg iter wi) (blk : BlkOk X.N X.env.scope sc own)
    (aim : ∀ t G a cl its, PG (Bk X t G sc (compEnvC sc cl a X.env) its) tg g) (ask : ∀ t G a cl its, PTs (Bk X t G sc (compEnvC sc cl a X.env) its) ifs tt)
    (val : ∀ t G a cl its, PE (Bk X t G sc (compEnvC sc cl a X.env) its) elt te) (plain : ∀ v, foldedSetIterable iter X.env v = pure v := by intro _; rfl) : PE X (.ListComp elt [⟨tg, iter, ifs, 0⟩] sc pos) (tLcH wi g tt te (own.map (·.2))) := by
  constructor
  intro pins s σ H Q I h
  rw [eval_ListComp]
  have cells : ∀ y ∈ sc.names, y.2 = .free → ∃ c, X.env.cells.lookup y.1 = some c := fun y m e => I.ok.has _ ((blk.free y m e).imp id id)
  refine wpAny_comprehension_free (use := none) rfl plain (closure_ok cells) blk.kind (fun y m e => (blk.uniq y m).trans (congrArg some e)) ?_
  refine thn (walk.run pins s σ H _ I h) fun v1 s1 r1 => thn r1 fun v2 s2 r2 => ?_
  rcases r2 with ⟨it, its, tn, J, H2, rfl, I2, T, t2, ff, q⟩
  refine wpAny_newObj_type (newEnv_comp ?_) (Nat.zero_le _)
  -- the list that is made
  have free : H2 s2.heap.objs.size = none := I2.hok.fresh (Nat.le_refl _)
  obtain ⟨n, W, w0, wn, wk⟩ := q _ free
  have kp : ∀ b o, s2.heap.get? b = some o → (s2.heap.push { cls := .type "list", data := .seq ([] : List Value).toArray }).get? b = some o := fun b o e => Heap.get?_push_of_some _ e
  have I3 : Inv X pins σ (upd H2 s2.heap.objs.size (.lst [])) { s2 with heap := s2.heap.push { cls := .type "list", data := .seq ([] : List Value).toArray } } := I2.laid (t' := s2.toks) kp (Nat.le_refl _) ⟨Nat.zero_le _, [], 0, .nil, Heap.get?_push_size _ rfl⟩
  have young : ∀ b ∈ its, FpOk X pins (upd H2 s2.heap.objs.size (.lst [])) b ∧ b < (s2.heap.push { cls := .type "list", data := .seq ([] : List Value).toArray }).objs.size := fun b m => by
    obtain ⟨o, e, _⟩ := T.obj _ _ t2 b m
    have lt := Heap.lt_size e
    obtain ⟨z, r⟩ := ff b m
    refine ⟨⟨by rw [upd_ne (Nat.ne_of_lt lt)]; exact z, r⟩, ?_⟩
    rw [Heap.size_push]
    exact Nat.lt_succ_of_lt lt
  have t3 := T.keep _ _ _ t2 fun b _ o e => kp b o e
  have e3 : ∃ s3 : Shared, s3 = { s2 with heap := s2.heap.push { cls := .type "list", data := .seq ([] : List Value).toArray } } := ⟨_, rfl⟩
  obtain ⟨s3, e3⟩ := e3
  have eh : s3.heap = s2.heap.push { cls := .type "list", data := .seq ([] : List Value).toArray } := by rw [e3]
  rw [← e3] at I3
  rw [← eh] at young t3
  have B0 := block_start I3 blk nd young
  have G0 : ∃ G, G = upd H2 s2.heap.objs.size (.lst []) := ⟨_, rfl⟩
  obtain ⟨G, eG⟩ := G0
  rw [← eG] at I3 B0 w0 young
  have A1 := aim s3 G s3.heap.objs.size (cellsFrom (s3.heap.objs.size + 1) sc.names (cloFrom X.env.cells sc.names [])) its
  have A2 := ask s3 G s3.heap.objs.size (cellsFrom (s3.heap.objs.size + 1) sc.names (cloFrom X.env.cells sc.names [])) its
  have A3 := val s3 G s3.heap.objs.size (cellsFrom (s3.heap.objs.size + 1) sc.names (cloFrom X.env.cells sc.names [])) its
  have main : ∀ ce, ce = compEnvC sc (cellsFrom (s3.heap.objs.size + 1) sc.names (cloFrom X.env.cells sc.names [])) s3.heap.objs.size X.env → ∀ s4 : Shared, s4 = { s3 with heap := pushCells (s3.heap.push { cls := .type "dict", data := .dict #[] }) sc.names } →
      codeAny (model X.prog X.w) X.A (.compStart (.ListComp elt [⟨tg, iter, ifs, 0⟩] sc pos) 0 (.ref it) (.ref s2.heap.objs.size) ce) (compPost (model X.prog X.w) X.A X.xe none (EP X pins σ Q) (.ref s2.heap.objs.size) s3.heap.objs.size) s4 := by
    intro ce ec s4 e4
    rw [← ec] at A1 A2 A3 B0
    rw [← e4] at B0
    have cl : ce.locals = s3.heap.objs.size := by rw [ec]; rfl
    have t4 : tn 0 s4.heap := T.keep _ _ _ t3 fun b _ o e => by
      rw [e4]
      exact pushCells_keeps _ _ _ _ (Heap.get?_push_of_some _ e)
    have far : ∀ p ∈ X.pn, s4.heap.get? p.1 = some p.2 ∧ G p.1 = none ∧ p.1 ≠ ce.locals ∧ p.1 ∉ frs X.stack ∧ ∀ v, p.2.data ≠ .cell v := fun p m => by
      obtain ⟨p1, p2, p3, p4, p5⟩ := I3.pin p (List.mem_append_left _ m)
      refine ⟨?_, p2, ?_, fun f => ?_, p5⟩
      · rw [e4]
        exact pushCells_keeps _ _ _ _ (Heap.get?_push_of_some _ p1)
      · rw [cl]
        exact Nat.ne_of_lt (Heap.lt_size p1)
      · exact (List.mem_cons.mp (I3.stkSub p.1 f)).elim p3 p4
    have B1 := bk_in B0 far
    have hotB : L2H.HotC (Bk X s3 G sc ce its) := hot
    have good : ∀ {σ' : L2.St} {G' : Hp} {u : Shared}, Inv (Bk X s3 G sc ce its) [] σ' G' u → (∀ b ∈ its, G' b = none) → ∀ b ∈ its, FpOk (Bk X s3 G sc ce its) [] G' b := fun {σ' G' u} J' z b m => by
      refine ⟨z b m, (J'.ok.exf b m).1, J'.ok.exfs b m, Or.inl m, fun x c e => (J'.ok.exf b m).2 x c e, fun p hp => ?_⟩
      have hp' : p ∈ X.pn := (List.mem_append.mp hp).resolve_right List.not_mem_nil
      exact (young b m).1.2.2.2.2.2 p (List.mem_append_left _ hp')
    have clear : ∀ b ∈ its, G b = none := fun b m => (young b m).1.1
    have turns : codeAny (model X.prog X.w) X.A (.compLoop (.ListComp elt [⟨tg, iter, ifs, 0⟩] sc pos) 0 (.ref it) (.ref s2.heap.objs.size) ce) (compPost (model X.prog X.w) X.A X.xe none (EP X pins σ Q) (.ref s2.heap.objs.size) s3.heap.objs.size) s4 := by
      apply compLoop_any (fun m u => ∃ k G', m + k = n ∧ Inv (Bk X s3 G sc ce its) [] (wipe σ (own.map (·.2))) G' u ∧ tn k u.heap ∧ (∀ b ∈ its, G' b = none) ∧ W k G') ?_ n ⟨0, G, Nat.add_zero n, B1, t4, clear, w0⟩
      rintro m u ⟨k, G', hm, J', tk, z, wG⟩
      by_cases ek : k = n
      · rw [ek] at tk wG
        obtain ⟨stop, last⟩ := wn G' wG
        refine thnF (T.done (Bk X s3 G sc ce its) rfl rfl rfl hotB n [] u _ G' (fun _ _ => False) J' (good J' z) tk stop) fun r u1 ⟨er, J1⟩ => ?_
        rw [er]
        have back : Inv X pins σ G' u1 := I3.call' (ch := its) J1.os J1.base J1.hok J1.bare fun b mb => by
          obtain ⟨_, y2, _, y4, y5, y6⟩ := (young b mb).1
          exact ⟨y4, y2, y5, y6⟩
        have gone : G' s3.heap.objs.size = none := by
          have y : G' ce.locals = none := J1.free
          rwa [cl] at y
        obtain ⟨slots, ns, _⟩ := J1.loc
        obtain ⟨y0, y1, _, y3, y4, y5⟩ := I3.fpOk (Nat.le_refl _) gone
        refine ⟨slots, ?_, fun h' sb => ⟨.ref s2.heap.objs.size, G', back.turned (t' := u1.toks) (fun b o nb e => (sb.2 b nb).trans e) y0 y1 y3 y4 y5, rfl, last⟩⟩
        rw [← cl]
        exact ns
      · have lt : k < n := by omega
        obtain ⟨go, next⟩ := wk k G' lt wG
        refine thnF (T.item (Bk X s3 G sc ce its) rfl rfl rfl hotB k [] u _ G' (fun _ _ => False) J' (good J' z) tk go) fun r u1 ⟨v, er, rest⟩ => ?_
        rw [er]
        refine thnF rest fun _ u2 ⟨x, G2, J2, rv, came, t5, z2⟩ => ?_
        have obj := T.obj _ _ t5
        refine thnF (A1.run _ u2 _ G2 x v _ (J2.pinned (good J2 z2) obj) rv (next x G2 came)) fun _ u3 ⟨σ3, G3, J3, ew, q3⟩ => ?_
        refine thnF (A2.run _ u3 σ3 G3 _ J3 q3) fun b u4 ⟨G4, J4, q4⟩ => ?_
        have over : ∀ {G5 : Hp} {u5 : Shared}, Inv (Bk X s3 G sc ce its) ([] ++ pinsAt its u2.heap) σ3 G5 u5 → W (k + 1) G5 → ∃ m', m' < m ∧ ∃ k' G', m' + k' = n ∧ Inv (Bk X s3 G sc ce its) [] (wipe σ (own.map (·.2))) G' u5 ∧ tn k' u5.heap ∧ (∀ b ∈ its, G' b = none) ∧ W k' G' := fun {G5 u5} J5 w5 => by
          have held : ∀ b ∈ its, ∃ o, u2.heap.get? b = some o ∧ u5.heap.get? b = some o ∧ G5 b = none := fun b mb => by
            obtain ⟨o, eo, _⟩ := obj b mb
            obtain ⟨g1, g2, _⟩ := J5.pin (b, o) (List.mem_append_right _ (List.mem_append_right _ (mem_pinsAt mb eo)))
            exact ⟨o, eo, g1, g2⟩
          refine ⟨m - 1, by omega, k + 1, G5, by omega, (J5.unpinned (pins := [])).weak ?_ fun i y e => ?_, T.keep _ _ _ t5 fun b mb o e => ?_, fun b mb => (held b mb).elim fun _ g => g.2.2, w5⟩
          · rw [← ew, wipe_length]
          · rw [← ew] at e
            exact (wipe_some e).1
          · obtain ⟨o', g1, g2, _⟩ := held b mb
            rw [e, Option.some.injEq] at g1
            rw [g1]
            exact g2
        cases b with
        | false =>
          rw [if_neg Bool.false_ne_true]
          exact over J4 (q4.2 rfl)
        | true =>
          rw [if_pos rfl]
          refine thnF (A3.run _ u4 σ3 G4 _ J4 (q4.1 rfl)) fun y u5 ⟨yv, G5, J5, ry, ys, eL, few, w5⟩ => ?_
          exact app_ok (X := Bk X s3 G sc ce its) J5 eL few ry fun u6 J6 => over J6 w5
    exact codeAny_compStart_list turns (T.self X.A 0 _ _ _ t4 turns)
  rw [e3] at main
  exact main _ rfl _ rfl
end Pt
namespace Pt
def insB {α : Type} (le : α → α → Bool) (x : α) : List α → List α
  | [] => [x]
  | y :: l => if le x y = true then x :: y :: l else y :: insB le x l
theorem insB_at {α : Type} {le : α → α → Bool} {x : α} : ∀ (l m : List α), (∀ b ∈ l, le x b = false) → (∀ b ∈ m, le x b = true) → insB le x (l ++ m) = l ++ x :: m
  | [], [], _, _ => rfl
  | [], y :: m, _, h => by
    show (if le x y = true then _ else _) = _
    rw [if_pos (h y List.mem_cons_self)]
    rfl
  | y :: l, m, h1, h2 => by
    show (if le x y = true then _ else _) = _
    rw [if_neg (by rw [h1 y List.mem_cons_self]; exact Bool.false_ne_true)]
    exact congrArg (y :: ·) (insB_at l m (fun b hb => h1 b (List.mem_cons_of_mem _ hb)) h2)
theorem ms_ins {α : Type} {le : α → α → Bool} (tr : ∀ a b c, le a b = true → le b c = true → le a c = true) (to : ∀ a b, (le a b || le b a) = true) : ∀ l : List α, l.mergeSort le = l.foldr (insB le) []
  | [] => by simp
  | a :: l => by
    obtain ⟨l1, l2, h1, h2, h3⟩ := List.mergeSort_cons tr to a l
    have hs := List.pairwise_mergeSort tr to (a :: l)
    rw [h1] at hs
    have hp := List.pairwise_cons.mp (List.pairwise_append.mp hs).2.1
    rw [h1, List.foldr_cons, ← ms_ins tr to l, h2, insB_at l1 l2 (fun b hb => by simpa using h3 b hb) fun b hb => hp.1 b hb]
end Pt
namespace Pt
open PySem PySem.Spec PyProof.Rows L2
section
variable {P : Program} {w : World} {K : PySem.W.Frag} {mg : Str → Option Value} {base : Heap}
theorem fun_okN {x qual : Str} {st : Stmt} {f : Addr} {fd : FuncData} {N ps : List Str} {k : Nat} {sp : Sp} (F : Fun K x qual st f fd) (S : FnScope N ps (defScope st)) (few : ∀ vs H Q E, sp vs H Q E → vs.length = ps.length)
    (body : ∀ (cd : Value) (A : Around) (out : List Env) (s : Shared) (H : Hp) (vs : List V) (Q : VK) (E : XK), Room k (A.deeper (envOfC qual (defScope st) s.heap.objs.size f cd)) → sp vs H Q E → ∃ t, PSs (cxOf (L2N.CX P w) P w K mg base N qual (defScope st) f cd A out s H E) (defBody st) t ∧ t { nx := fun _ H1 => Q .non H1, rt := Q } (L2.start N vs) H) :
    FnOk P w K mg base (L2N.CX P w) (k + 1) f fd ps sp := by
  rcases F.ex with ⟨v1, v2, v3, v4, v5, v6, v7, v8, v9, rfl, look, code⟩
  exact fn_of look code S few fun A out s H vs Q E room z => body v7 A out s H vs Q E room z
end
section
variable {X : Cx} {p pos : Pos}
theorem pmk_oexN {CT : CXT} {x : Str} {e : Expr} {es : List Expr} {ta : TA} {C fI : Addr} {k : Nat} {fd : FuncData} {ps : List Str} {sp : Sp} {ds : List Value} {dvs : List V} (T : OexC X.K C) (iC : PySem.W.findIn X.K (.ref C) "__init__" = some (some (.ref fI))) (tI : PySem.W.typeIn X.K (.ref fI) = some (.type "function")) (F1 : FnOk X.prog X.w X.K X.mg X.base CT k fI fd ps sp) (room : Room (k + 1) X.A) (bd : Binds X.K fd ps ds) (df : Vals dvs ds) (hx : Passes CT X (fun _ _ _ => False)) (hg : Gl X x) (hm : X.mg x = some (.ref C)) (ha : PA X (e :: es) ta)
    (ndb : (x == ("__debug__" : Str)) = false := by decide) (st : starEach (e :: es) X.env = (false, eval e X.env) :: starEach es X.env := by rfl) (pl : (backTo pos (starEach es X.env)).any (·.1) = false := by rfl) : L2N.PMk X (.Call (.Name x p) (e :: es) [] pos) (tMkO C sp dvs ta) := fun pins s σ H Q I h => by
  refine wpAny_Call_Name_kw (ld_glob I hg hm (PySem.W.callWith_K (h₀ := X.base) I.ok.mod.kin T.kC (thn (ha.run pos pins s σ H _ I h) fun us s1 ⟨vs, H1, J, r, few, q⟩ => ⟨J.kIn, ?_⟩) st pl) ndb)
  have up := Nat.le_succ s1.heap.objs.size
  have little : us.length ≤ sizeLine := by
    have := Paired.length r
    rw [sizeLine_eq]
    omega
  refine own_new T iC tI F1 room bd df hx J r little (q _ (J.hok.fresh up)) fun H2 h1 s2 sub un ok same bare z => ?_
  obtain ⟨d, fs, ea, ed, nd, z⟩ := z
  obtain ⟨t0, G, JG, back, gone, cell, out⟩ := mk_end0 (g1 := s1.gens) (d1 := s1.drawn) (t1 := s1.toks) (os1 := s1.os) (d2 := s2.drawn) (t2 := s2.toks) J up sub un ok same bare ea ed nd
  exact ⟨_, _, _, _, _, .ref C, some d, rfl, JG, back, gone, cell, ⟨rfl, rfl, fun vs z => by cases z; rfl⟩, rfl, rfl, out, rfl, bare, raises_own T.exC T.tyC, z⟩
end
def SuOkN (X : Cx) (st : List Stmt) (ts : Addr → Value → Option Addr → TS) : Prop := ∀ (a : Addr) (oe : Obj) (cls : Value) (d : Option Addr) (pn : List (Addr × Obj)), L2N.Zn cls d oe → (∃ vs, oe.data = .fields vs) → PSs (X.suite a ((a, oe) :: pn)) st (ts a cls d)
inductive ClzOkN (X : Cx) : List ExceptHandler → List Clz → Prop
  | none : ClzOkN X [] []
  | bare {x : Str} {c : Value} {ts : Addr → Value → Option Addr → TS} {b : Stmt} {su : List Stmt} {p1 p2 : Pos} {hs : List ExceptHandler} {l : List Clz} (hc : Names X x c) (hb : SuOkN X (b :: su) ts) (r : ClzOkN X hs l) :
      ClzOkN X (.ExceptHandler (some (.Name x p1)) Option.none (b :: su) p2 :: hs) ((c, Option.none, ts) :: l)
  | named {x n : Str} {c : Value} {i : Nat} {ts : Addr → Value → Option Addr → TS} {b : Stmt} {su : List Stmt} {p1 p2 : Pos} {hs : List ExceptHandler} {l : List Clz} (hc : Names X x c) (hN : X.N.Nodup) (hi : X.N[i]? = some n) (hk : X.env.kindOf n = some .local) (hb : SuOkN X (b :: su) ts) (r : ClzOkN X hs l) :
      ClzOkN X (.ExceptHandler (some (.Name x p1)) (some n) (b :: su) p2 :: hs) ((c, some i, ts) :: l)
section
variable {X : Cx} {body : List Stmt} {g : ExceptHandler} {gs : List ExceptHandler} {l : List Clz} {pos : Pos} {tb : WX → TS} {Wo : WX}
def HereN (X : Cx) (pins : List (Addr × Obj)) (σ : L2.St) (H : Hp) (a : Addr) (cls : Value) (d : Option Addr) (t : Shared) : Prop := ∃ (B : Heap) (r : Shared), HandSPX.FlyingZ B (X.env :: X.outer) a (L2N.Zn cls d) t.heap ∧ L2.Inv X pins σ H r ∧
  (∀ b o, r.heap.get? b = some o → b ∉ frs X.stack → B.get? b = some o) ∧ r.heap.UpToSlots t.heap ∧ H a = none ∧ t.os = r.os ∧ AllBare t.gens
variable {pins : List (Addr × Obj)} {σ : L2.St} {H : Hp} {a : Addr} {cls : Value} {d : Option Addr} {t : Shared}
theorem HereN.inv (z : HereN X pins σ H a cls d t) : L2.Inv X pins σ H t := by
  obtain ⟨B, r, z1, z2, z3, z4, _, z6, z7⟩ := z
  exact z2.landed z3 z1.1 z4 z6 z7
theorem HereN.su (z : HereN X pins σ H a cls d t) (hf : X.env.frame = some X.env.locals) : ∃ oe vs, t.heap.get? a = some oe ∧ L2N.Zn cls d oe ∧ oe.data = .fields vs ∧ L2.Inv (X.suite a ((a, oe) :: (X.pn ++ pins))) [] σ H t := by
  have iv := z.inv
  obtain ⟨B, r, z1, _, _, _, z5, _, _⟩ := z
  obtain ⟨oe, vs, y1, y2, y3⟩ := z1.there
  have far : a ∉ frs (X.env :: X.outer) := fun m => by
    obtain ⟨_, o2, y4, y5⟩ := z1.2.2.1.mem m
    rw [y1, Option.some.injEq] at y4
    exact y5 _ (y4 ▸ y3)
  have n1 : a ≠ X.env.locals := fun e => far (List.mem_filterMap.mpr ⟨_, List.mem_cons_self, e ▸ hf⟩)
  have n2 : a ∉ X.fs := fun m => by
    obtain ⟨v, mv, ev⟩ := List.mem_filterMap.mp m
    exact far (List.mem_filterMap.mpr ⟨v, List.mem_cons_of_mem _ mv, ev⟩)
  exact ⟨oe, vs, y1, y2, y3, iv.suite y1 y3 z5 n1 n2⟩
theorem HereN.down {A : Around} {Q : Unit → Shared → Prop} {E : Value → Shared → Prop} (z : HereN X pins σ H a cls d t) (q : ∀ t', HereN X pins σ H a cls d t' → Q () t') : wpAny (model X.prog X.w) A (setFlight (.ref a) none) Q E t := by
  obtain ⟨B, r, z1, z2, z3, z4, z5, z6, z7⟩ := z
  exact HandSPX.lands_againZ z1 fun h2 y1 y2 => q _ ⟨B, r, y1, z2, z3, z4.trans y2, z5, z6, z7⟩
theorem HereN.out {Q : Flow → Shared → Prop} {w : String} (z : HereN X pins σ H a cls d t) (hs : X.stack = X.env :: X.outer) (hf : X.env.frame = some X.env.locals) (tk : L2N.Takes X Wo) (hw : Wo cls d σ H) : wpAny (model X.prog X.w) X.A (PySem.passOn w (.ref a) X.env : Sem Flow) Q X.xe t := by
  obtain ⟨B, r, z1, z2, z3, z4, z5, z6, z7⟩ := z
  obtain ⟨_, _, _, oe, vs, T, oT, ts, y1, y2, y3, y4, _⟩ := id z1
  have up : wpAny (model X.prog X.w) X.A (setFlight (.ref a) X.env.frame) (fun _ t2 => wpAny (model X.prog X.w) X.A (throw (.ref a) : Sem Flow) Q X.xe t2) X.xe t := hf ▸ HandSPX.setFlight_upZ z1 fun h2 x1 x2 =>
    wpAny_throw (tk _ _ ⟨a, B, r, pins, σ, H, cls, d, rfl, z2, z3, z4.trans x2, .inr (.inr (hs ▸ x1)), z5, z6, z7, hw⟩)
  unfold PySem.passOn
  refine wpAny_bind (wpAny_field y1 y3 y4 ?_)
  have nn : ¬ (Value.ref T == Value.none) = true := by simp
  rw [if_neg nn]
  first
    | exact wpAny_bind up
    | exact wpAny_bind (wpAny_pure (wpAny_bind up))
theorem HereN.asks {x : Str} {c : Value} {p : Pos} {b : Bool} {Q : Bool → Shared → Prop} {E1 E2 : Value → Shared → Prop} (z : HereN X pins σ H a cls d t) (hf : X.env.frame = some X.env.locals) (hc : Names X x c) (hb : PySem.W.exmOne X.K cls c = some b) (q : Q b t) :
    wpAny (model X.prog X.w) (X.A.mark (some (.ref a))) (eval (.Name x p) X.env) (fun c' t2 => wpAny (model X.prog X.w) (X.A.mark (some (.ref a))) (excMatches (.ref a) c') Q E2 t2) E1 t := by
  obtain ⟨oe, vs, y1, y2, y3, S⟩ := z.su hf
  have lk : PySem.W.Looks (model X.prog X.w) t.heap (typeOf (.ref a)) cls := fun _ _ _ _ k q => wpAny_typeOf_ref (k _ _ y1) (y2.1 ▸ q)
  have hit := (PySem.W.exm_one (M := model X.prog X.w) z.inv.kIn lk hb).here (A := X.A.mark (some (.ref a))) (E := E2) q
  obtain ⟨g1, g2, g3⟩ := hc
  rcases g3 with g3 | ⟨g3, g4, g5⟩
  · exact ld_glob (X := X.suite a ((a, oe) :: (X.pn ++ pins))) S g1 g3 hit g2
  · exact ld_blt (X := X.suite a ((a, oe) :: (X.pn ++ pins))) S g1 g3 g4 hit g5 g2
theorem sp_backN {oe : Obj} {D : Ends} {fl : Flow} (ok : X.Ok) (z : SP (X.suite a ((a, oe) :: (X.pn ++ pins))) [] D fl t) : SP X pins D fl t := by
  cases fl with
  | ret u => exact z.elim fun v z => z.elim fun σ z => z.elim fun H z => ⟨v, σ, H, z.1.unsuite ok, z.2⟩
  | next => exact z.elim fun σ z => z.elim fun H z => ⟨σ, H, z.1.unsuite ok, z.2⟩
  | brk => exact z.elim fun σ z => z.elim fun H z => ⟨σ, H, z.1.unsuite ok, z.2⟩
  | cont => exact z.elim fun σ z => z.elim fun H z => ⟨σ, H, z.1.unsuite ok, z.2⟩
theorem sp_goneN {D : Ends} {fl : Flow} {i : Nat} {n : Str} {p : Pos} {E : Value → Shared → Prop} (hN : X.N.Nodup) (hi : X.N[i]? = some n) (hk : X.env.kindOf n = some .local) (z : SP X pins (goneD (some i) D) fl t) :
    wpAny (model X.prog X.w) X.A (do bindName X.env n .none; unbindBehindTheSuite X.env n p) (fun _ t2 => SP X pins D fl t2) E t := by
  cases fl with
  | ret u => exact z.elim fun v z => z.elim fun σ z => z.elim fun H z => gone_ok z.1 hN hi hk fun t2 y => ⟨v, _, H, y, z.2⟩
  | next => exact z.elim fun σ z => z.elim fun H z => gone_ok z.1 hN hi hk fun t2 y => ⟨_, H, y, z.2⟩
  | brk => exact z.elim fun σ z => z.elim fun H z => gone_ok z.1 hN hi hk fun t2 y => ⟨_, H, y, z.2⟩
  | cont => exact z.elim fun σ z => z.elim fun H z => gone_ok z.1 hN hi hk fun t2 y => ⟨_, H, y, z.2⟩
theorem clausesN {D : Ends} (ok : X.Ok) (hs : X.stack = X.env :: X.outer) (hf : X.env.frame = some X.env.locals) (tk : L2N.Takes X Wo) : ∀ {gs : List ExceptHandler} {l : List Clz}, ClzOkN X gs l → ∀ {t : Shared}, HereN X pins σ H a cls d t → wClz X.K Wo D l cls d σ H → wpAny (model X.prog X.w) X.A (handleBy (.ref a) X.env gs) (SP X pins D) X.xe t := by
  intro gs l h
  induction h with
  | none => exact fun z q => wpAny_handleBy_nil (z.out hs hf tk q)
  | bare hc hb r ih =>
    rintro t z ⟨b, q1, q2, q3⟩
    refine wpAny_handleBy_cons (codeAny_handlers_test (z.asks hf hc q1 ?_)) (fun e => nomatch e)
    cases b with
    | false => exact ih z (q3 rfl)
    | true =>
      obtain ⟨_, _, _, _, _, _⟩ := z.su hf
      have na := z.elim fun _ y => y.elim fun _ y => y.2.2.2.2.1
      refine codeAny_handlers_suite (z.down fun t2 z2 => ?_)
      obtain ⟨oe, vs, _, y2, y3, S⟩ := z2.su hf
      exact wpAny_mono ((hb a oe cls d _ y2 ⟨vs, y3⟩).run [] t2 σ H _ S (q2 rfl a na)) (fun fl t3 y => sp_backN ok y) fun _ _ y => y.elim
  | named hc hN hi hk hb r ih =>
    rintro t z ⟨b, q1, q2, q3⟩
    refine wpAny_handleBy_cons (codeAny_handlers_test (z.asks hf hc q1 ?_)) (fun e => nomatch e)
    cases b with
    | false => exact ih z (q3 rfl)
    | true =>
      have na := z.elim fun _ y => y.elim fun _ y => y.2.2.2.2.1
      refine codeAny_handlers_suite_as (z.down fun t2 z2 => ?_)
      obtain ⟨oe, vs, _, y2, y3, S⟩ := z2.su hf
      refine store_ok (X := X.suite a ((a, oe) :: (X.pn ++ pins))) (v := .ref a) S hN hi (.inl hk) rfl (fun t3 S3 => ?_) (.inr hk)
      exact wpAny_mono ((hb a oe cls d _ y2 ⟨vs, y3⟩).run [] t3 _ H _ S3 (q2 rfl a na)) (fun fl t4 y => sp_goneN hN hi hk (sp_backN ok y)) fun _ _ y => y.elim
theorem ps_tryZN (hs : X.stack = X.env :: X.outer) (hf : X.env.frame = some X.env.locals) (tk : L2N.Takes X Wo) (hb : ∀ (W : WX) (pn : List (Addr × Obj)) (xe : Value → Shared → Prop), L2N.Takes (X.tr pn xe) W → PassesOwn (model X.prog X.w) X.A X.env xe → PSs (X.tr pn xe) body (tb W)) (hz : ClzOkN X (g :: gs) l) :
    PS X (.Try body (g :: gs) [] [] pos) (fun D σ H => tb (wClz X.K Wo D l) D σ H) := ⟨fun pins s σ H D I q => by
  have ok := I.ok
  have fr : X.A.frames = some (X.env :: X.outer) := hs ▸ ok.frames
  refine wpAny_Try_except (wpAny_mono ((hb (wClz X.K Wo D l) (X.pn ++ pins) _ (fun u t z => ?_) PassesOwn.looking).run [] s σ H D (I.toTry _) q) (fun fl t z => ?_) fun e t z => z)
  · obtain ⟨a, B, r, pins2, σ2, H2, cls, d, rfl, J, z3, z4, z5, z6, z7, z8, z9⟩ := z
    refine L2N.Sky.land L2N.Zn.steady fr hf (hs ▸ z5) fun h2 y1 y2 => ?_
    exact clausesN ok hs hf tk hz ⟨B, r, y1, J.ofTry ok, z3, z4.trans y2, z6, z7, z8⟩ z9
  · cases fl with
    | next => exact z.elim fun σ z => z.elim fun H z => wpAny_execs_nil ⟨σ, H, z.1.ofTry ok, z.2⟩
    | brk => exact z.elim fun σ z => z.elim fun H z => ⟨σ, H, z.1.ofTry ok, z.2⟩
    | cont => exact z.elim fun σ z => z.elim fun H z => ⟨σ, H, z.1.ofTry ok, z.2⟩
    | ret u => exact z.elim fun v z => z.elim fun σ z => z.elim fun H z => ⟨v, σ, H, z.1.ofTry ok, z.2⟩⟩
end
end Pt
namespace Pt
open PySem PySem.Spec PyProof.Rows L2
def rIsP (K : PySem.W.Frag) (a : Addr) (cls : Value) (d : Option Addr) : List V → Hp → VK → Prop := fun xs H Q => ∃ (D : Addr) (c : V) (cv : Value) (b : Bool), cls = .ref D ∧ L2.ExcC K D ∧ (d = none ∨ ∃ dd fs, d = some dd ∧ H dd = some (.xd fs)) ∧ xs = [.ref a, c] ∧ (∀ u, RelV c u → u = cv) ∧ PySem.W.kitOne K (.ref D) cv = some b ∧ Q (.bl b) H
theorem call_isP {X : Cx} {p : Addr × Obj} {cls : Value} {d : Option Addr} (hp : p ∈ X.pn) (hz : Zc cls d p.2) (hf : ∃ vs, p.2.data = .fields vs) : CallR X (.builtin "isinstance") (rIsP X.K p.1 cls d) := by
  intro pins s σ H xs us Q I r h
  rcases h with ⟨D, c, cv, b, rfl, C, hd, rfl, only, kit, q⟩
  obtain ⟨u1, u2, rfl, e1, e2⟩ : ∃ u1 u2, us = [u1, u2] ∧ RelV (.ref p.1) u1 ∧ RelV c u2 := by
    rcases r with _ | ⟨r1, _ | ⟨r2, _ | _⟩⟩
    exact ⟨_, _, rfl, r1, r2⟩
  obtain rfl : u1 = .ref p.1 := e1
  obtain rfl := only u2 e2
  have got := (I.pin p (List.mem_append_left _ hp)).1
  obtain ⟨vs, hv⟩ := hf
  have nc : PySem.W.notCls p.2 := by
    unfold PySem.W.notCls
    rw [hv] <;> rfl
  have done : ∀ tk, EP X pins σ Q (.bool b) { s with toks := tk } := fun tk => ⟨.bl b, H, I.kept (t' := tk) fun _ _ z => z, rfl, q⟩
  rcases hd with rfl | ⟨dd, fs, rfl, hdd⟩
  · have J : PySem.W.InstAt s.heap p.1 p.2 D none := ⟨got, hz.1, nc, by rw [hz.2]; trivial⟩
    exact PySem.W.kia_one (PySem.W.handS_kitx_exc C.hg C.hk C.hs C.hd C.ha C.hn C.ht C.hm) I.kIn J kit (fun z => nomatch z) done
  · obtain ⟨_, ns, _⟩ := (show ObjOk X.prog X.w H s.heap dd (.xd fs) from I.hok dd _ hdd)
    obtain ⟨od, ho, _⟩ := lookIn_ns ns
    have J : PySem.W.InstAt s.heap p.1 p.2 D (some od) := ⟨got, hz.1, nc, by rw [hz.2]; exact ho⟩
    have cl : (PySem.W.clsIn X.K D).isSome = true := by
      obtain ⟨cd, hc, _⟩ := PySem.W.any_some C.hd
      rw [hc]
      rfl
    exact PySem.W.kia_one (PySem.W.kitx_exc cl C.hg C.hk C.hs C.ha C.hn C.ht C.hm) I.kIn J kit (fun z => nomatch z) done
structure FnE (P : Program) (w : World) (K : PySem.W.Frag) (mg : Str → Option Value) (base : Heap) (k : Nat) (f : Addr) (fd : FuncData) (ps : List Str) (R : Value → Option Addr → Hp → VK → Prop) : Prop where
  run : ∀ (A : Around) (out : List Env) (s : Shared) (H : Hp) (ar : PySem.Args) (Q : VK) (p : Addr × Obj) (cls : Value) (d : Option Addr), ps.length = 1 → L2H.RoomH k A → L2H.Hot1 A p → L2N.Zn cls d p.2 → L2H.PinOk out H s p → Env0 P w K mg base A out s H → BindsTo s fd ar (ps.zip [.ref p.1]) → R cls d H Q → codeAny (model P w) A (.call (.ref f) ar) (CR CX0 out P w H s Q fun _ _ _ => False) s
theorem fnE_of {P : Program} {w : World} {K : PySem.W.Frag} {mg : Str → Option Value} {base : Heap} {k : Nat} {x qual y : Str} {st : Stmt} {f : Addr} {fd : FuncData} {N : List Str} {R : Value → Option Addr → Hp → VK → Prop} (F : Fun K x qual st f fd) (S : FnScope N [y] (defScope st))
    (body : ∀ (cd : Value) (A : Around) (out : List Env) (s : Shared) (H : Hp) (Q : VK) (p : Addr × Obj) (cls : Value) (d : Option Addr), L2H.RoomH k (A.deeper (envOfC qual (defScope st) s.heap.objs.size f cd)) → L2H.Hot1 A p → L2N.Zn cls d p.2 → R cls d H Q →
      ∃ t, PSs (L2H.cxH CX0 P w K mg base N qual (defScope st) f cd A out s H (fun _ _ _ => False) p) (defBody st) t ∧ t { nx := fun _ H1 => Q .non H1, rt := Q } (L2.start N [.ref p.1]) H) : FnE P w K mg base (k + 1) f fd [y] R := by
  rcases F.ex with ⟨v1, v2, v3, v4, v5, v6, v7, v8, v9, rfl, look, code⟩
  constructor
  intro A out s H ar Q p cls d _ room hot zn pin e0 bd z
  have inK := e0.mod.kin.keeps fun b o e => (e0.bs b o e).1
  have kinds : ∀ y2 ∈ [y].zip [Value.ref p.1], (defScope st).names.lookup y2.1 = some .local ∨ ((defScope st).names.lookup y2.1 = some .cell ∧ ((cellsFrom (s.heap.objs.size + 1) (defScope st).names []).lookup y2.1).isSome = true) := fun ⟨n, v⟩ m => (S.par n (List.of_mem_zip m).1).imp id fun q => ⟨q, PySem.W.cellsFrom_some _ _ _ (Or.inl q)⟩
  refine codeAny_call_function room.depth (inK _ _ look) rfl S.co S.gen rfl (PySem.W.codeRec_of inK code) (bd _ _ _ _ (wpAny_newFunctionEnv_cells S.kind kinds fun env he s1 ic => ?_))
  subst he
  refine ⟨(e0.mod.nolimit.keeps fun b o e => (e0.bs b o e).1).keeps ic.toInCall.keep, codeAny_func ?_⟩
  obtain ⟨t, read, want⟩ := body v7 A out s H Q p cls d (room.deeper _) hot zn z
  have I0 := L2H.inv_startH (CX := CX0) (E := fun _ _ _ => False) (vs := [V.ref p.1]) (us := [Value.ref p.1]) S pin e0 rfl (.cons rfl .nil) ic
  refine wpAny_mono (read.run [] s1 _ H _ I0 want) (fun fl s2 y2 => ?_) fun _ _ y2 => y2
  cases fl with
  | ret u => exact y2.elim fun v y2 => y2.elim fun σ2 y2 => y2.elim fun G y2 => ⟨v, G, y2.1.os, y2.1.bare, y2.1.base, y2.1.hok, y2.2.1, y2.2.2⟩
  | next => exact y2.elim fun σ2 y2 => y2.elim fun G y2 => ⟨.non, G, y2.1.os, y2.1.bare, y2.1.base, y2.1.hok, rfl, y2.2⟩
  | brk => exact y2.elim fun _ y2 => y2.elim fun _ y2 => y2.2.elim
  | cont => exact y2.elim fun _ y2 => y2.elim fun _ y2 => y2.2.elim
def tCallZ (a : Addr) (cls : Value) (d : Option Addr) (R : Value → Option Addr → Hp → VK → Prop) (te : TE) : TE := fun σ H Q => te σ H fun v G => ∃ u, [v] = [u] ∧ u = .ref a ∧ R cls d G Q
theorem pe_callZ {X : Cx} {a f : Addr} {oe : Obj} {cls : Value} {d : Option Addr} {pn : List (Addr × Obj)} {k : Nat} {fd : FuncData} {y x : Str} {R : Value → Option Addr → Hp → VK → Prop} {e : Expr} {te : TE} {q pos : Pos} (F : FnE X.prog X.w X.K X.mg X.base k f fd [y] R) (room : Room k X.A) (zn : L2N.Zn cls d oe) (hf : ∃ vs, oe.data = .fields vs)
    (hg : Gl X x) (hm : X.mg x = some (.ref f)) (keep : PySem.W.keepIn X.K (.ref f) = true) (bd : Binds X.K fd [y] []) (he : PE (X.suite a ((a, oe) :: pn)) e te) (ndb : (x == ("__debug__" : Str)) = false := by decide)
    (st : starEach [e] X.env = [(false, eval e X.env)] := by rfl) : PE (X.suite a ((a, oe) :: pn)) (.Call (.Name x q) [e] [] pos) (tCallZ a cls d R te) := by
  constructor
  intro pins s σ H Q I h
  have mem : (a, oe) ∈ ((a, oe) :: pn) ++ pins := List.mem_append_left _ List.mem_cons_self
  refine wpAny_Call_Name_kw (ld_glob (X := X.suite a ((a, oe) :: pn)) I hg hm (PySem.W.callWith_K (h₀ := X.base) I.ok.mod.kin keep (thn ((pa_cons (X := X.suite a ((a, oe) :: pn)) he pa_nil st).run pos pins s σ H (fun vs G => ∃ v, vs = [v] ∧ v = .ref a ∧ R cls d G Q) I ?_) fun us s1 ⟨vs, G, J, r, v, e1, e2, z⟩ => ⟨J.kIn, ?_⟩) st rfl) ndb)
  · exact h
  · subst e1 e2
    obtain rfl : us = [Value.ref a] := by
      rcases r with _ | ⟨r1, _ | _⟩
      exact congrArg (· :: []) r1
    obtain ⟨g1, g2, g3, g4, g5⟩ := J.pin (a, oe) mem
    obtain ⟨vs, hv⟩ := hf
    have b2 := bd s1 [.ref a] J.kIn rfl
    refine wpAny_call (codeAny_mono (F.run (X.A.mark (some (.ref a))) X.stack s1 G ⟨[.ref a], []⟩ Q (a, oe) cls d rfl (L2H.roomH_mark room _) ⟨rfl, vs, hv, zn.2.2 vs hv⟩ zn ⟨g1, g2, fun m => (List.mem_cons.mp (J.stkSub a m)).elim g3 g4, g5⟩ J.env0 b2 z) fun rs s2 y2 => ?_)
    cases rs with
    | error er => exact y2.elim
    | ok fl =>
      cases fl with
      | ret u => exact J.after y2
      | next => exact y2.elim
      | brk => exact y2.elim
      | cont => exact y2.elim
end Pt
namespace Pt
open PySem PySem.Spec PyProof.Rows L2
def rMulS1 : R2 := fun x y H Q => (∃ a : Str, x = .str a ∧ y = .int 1 ∧ Q (.str a) H) ∨ rMulS x y H Q
theorem op_mulS1 {X : Cx} : OpR X (binaryOp .Mult) rMulS1 := by
  intro pins s σ H x y u v Q I rx ry h
  rcases h with ⟨a, rfl, rfl, q⟩ | h
  · obtain ⟨t, rfl⟩ := rx
    obtain ⟨t', rfl⟩ := ry
    refine P.mul_str (by decide) (fun _ z => by simp at z) (fun _ z => by simp at z) ?_
    rw [if_neg (by decide), if_pos (by simp)]
    exact ⟨.str a, H, I, ⟨t, rfl⟩, q⟩
  · exact op_mulSt pins s σ H x y u v Q I rx ry h
end Pt
set_option maxRecDepth 10000000
namespace K1
open PySem PySem.Spec PyProof.Rows L2 Pt
set_option maxHeartbeats 8000000
def topS (i : Nat) : Stmt := PySem.Challenge.pw_placetrade_k10_errors_apart.main.body.getD i (.Pass ⟨0, 0, 0, 0⟩)
abbrev s_TradeError___init__ : Stmt := inClass (topS 2) 0
abbrev N_TradeError___init__ : List Str := ["self"]
theorem sc_TradeError___init__ : FnScope N_TradeError___init__ ["self"] (defScope s_TradeError___init__) := ⟨rfl, rfl, rfl, by decide +kernel, rfl, by decide +kernel, by decide +kernel⟩
abbrev s_BadPairs___init__ : Stmt := inClass (topS 4) 0
abbrev N_BadPairs___init__ : List Str := ["self", "index"]
theorem sc_BadPairs___init__ : FnScope N_BadPairs___init__ ["self", "index"] (defScope s_BadPairs___init__) := ⟨rfl, rfl, rfl, by decide +kernel, rfl, by decide +kernel, by decide +kernel⟩
abbrev s_BadFacts___init__ : Stmt := inClass (topS 11) 0
abbrev N_BadFacts___init__ : List Str := ["self", "index"]
theorem sc_BadFacts___init__ : FnScope N_BadFacts___init__ ["self", "index"] (defScope s_BadFacts___init__) := ⟨rfl, rfl, rfl, by decide +kernel, rfl, by decide +kernel, by decide +kernel⟩
abbrev s_InvalidText___init__ : Stmt := inClass (topS 15) 0
abbrev N_InvalidText___init__ : List Str := ["self", "place"]
theorem sc_InvalidText___init__ : FnScope N_InvalidText___init__ ["self", "place"] (defScope s_InvalidText___init__) := ⟨rfl, rfl, rfl, by decide +kernel, rfl, by decide +kernel, by decide +kernel⟩
abbrev s_is_whole : Stmt := topS 18
abbrev N_is_whole : List Str := ["value", "low", "high"]
theorem sc_is_whole : FnScope N_is_whole ["value", "low", "high"] (defScope s_is_whole) := ⟨rfl, rfl, rfl, by decide +kernel, rfl, by decide +kernel, by decide +kernel⟩
abbrev s_is_letter : Stmt := topS 19
abbrev N_is_letter : List Str := ["letters", "value"]
theorem sc_is_letter : FnScope N_is_letter ["letters", "value"] (defScope s_is_letter) := ⟨rfl, rfl, rfl, by decide +kernel, rfl, by decide +kernel, by decide +kernel⟩
abbrev s_is_pair : Stmt := topS 20
abbrev N_is_pair : List Str := ["letters", "value", "letter"]
theorem sc_is_pair : FnScope N_is_pair ["letters", "value"] (defScope s_is_pair) := ⟨rfl, rfl, rfl, by decide +kernel, rfl, by decide +kernel, by decide +kernel⟩
abbrev s_check_pairs : Stmt := topS 21
abbrev N_check_pairs : List Str := ["letters", "pairs", "index", "pair"]
theorem sc_check_pairs : FnScope N_check_pairs ["letters", "pairs"] (defScope s_check_pairs) := ⟨rfl, rfl, rfl, by decide +kernel, rfl, by decide +kernel, by decide +kernel⟩
abbrev s_Trade___init__ : Stmt := inClass (topS 22) 0
abbrev N_Trade___init__ : List Str := ["self", "letters", "pairs"]
theorem sc_Trade___init__ : FnScope N_Trade___init__ ["self", "letters", "pairs"] (defScope s_Trade___init__) := ⟨rfl, rfl, rfl, by decide +kernel, rfl, by decide +kernel, by decide +kernel⟩
abbrev s_Trade_letters : Stmt := inClass (topS 22) 1
abbrev N_Trade_letters : List Str := ["self"]
theorem sc_Trade_letters : FnScope N_Trade_letters ["self"] (defScope s_Trade_letters) := ⟨rfl, rfl, rfl, by decide +kernel, rfl, by decide +kernel, by decide +kernel⟩
abbrev s_Trade_pairs : Stmt := inClass (topS 22) 2
abbrev N_Trade_pairs : List Str := ["self"]
theorem sc_Trade_pairs : FnScope N_Trade_pairs ["self"] (defScope s_Trade_pairs) := ⟨rfl, rfl, rfl, by decide +kernel, rfl, by decide +kernel, by decide +kernel⟩
abbrev s_Trade___eq__ : Stmt := inClass (topS 22) 3
abbrev s_check_trade : Stmt := topS 23
abbrev N_check_trade : List Str := ["trade"]
theorem sc_check_trade : FnScope N_check_trade ["trade"] (defScope s_check_trade) := ⟨rfl, rfl, rfl, by decide +kernel, rfl, by decide +kernel, by decide +kernel⟩
abbrev s_may_change : Stmt := topS 24
abbrev N_may_change : List Str := ["trade", "one", "other"]
theorem sc_may_change : FnScope N_may_change ["trade", "one", "other"] (defScope s_may_change) := ⟨rfl, rfl, rfl, by decide +kernel, rfl, by decide +kernel, by decide +kernel⟩
abbrev s_bars_of : Stmt := topS 25
abbrev N_bars_of : List Str := ["trade", "bars", "letter", "bits", "other"]
theorem sc_bars_of : FnScope N_bars_of ["trade"] (defScope s_bars_of) := ⟨rfl, rfl, rfl, by decide +kernel, rfl, by decide +kernel, by decide +kernel⟩
abbrev s_all_may_change : Stmt := topS 26
abbrev N_all_may_change : List Str := ["bars", "one", "other", "letter", "against"]
theorem sc_all_may_change : FnScope N_all_may_change ["bars", "one", "other"] (defScope s_all_may_change) := ⟨rfl, rfl, rfl, by decide +kernel, rfl, by decide +kernel, by decide +kernel⟩
abbrev s_is_row : Stmt := topS 29
abbrev N_is_row : List Str := ["letters", "value", "letter"]
theorem sc_is_row : FnScope N_is_row ["letters", "value"] (defScope s_is_row) := ⟨rfl, rfl, rfl, by decide +kernel, rfl, by decide +kernel, by decide +kernel⟩
abbrev s_check_row : Stmt := topS 30
abbrev N_check_row : List Str := ["trade", "row"]
theorem sc_check_row : FnScope N_check_row ["trade", "row"] (defScope s_check_row) := ⟨rfl, rfl, rfl, by decide +kernel, rfl, by decide +kernel, by decide +kernel⟩
abbrev s_find_bar : Stmt := topS 31
abbrev s_only : Stmt := topS 32
abbrev s_first_unlike : Stmt := topS 33
abbrev s_least : Stmt := topS 34
abbrev N_least : List Str := ["trade", "row"]
theorem sc_least : FnScope N_least ["trade", "row"] (defScope s_least) := ⟨rfl, rfl, rfl, by decide +kernel, rfl, by decide +kernel, by decide +kernel⟩
abbrev s_first_letters : Stmt := topS 35
abbrev N_first_letters : List Str := ["bars", "row", "found", "barred", "place", "letter"]
theorem sc_first_letters : FnScope N_first_letters ["bars", "row"] (defScope s_first_letters) := ⟨rfl, rfl, rfl, by decide +kernel, rfl, by decide +kernel, by decide +kernel⟩
abbrev s_without : Stmt := topS 36
abbrev N_without : List Str := ["row", "place"]
theorem sc_without : FnScope N_without ["row", "place"] (defScope s_without) := ⟨rfl, rfl, rfl, by decide +kernel, rfl, by decide +kernel, by decide +kernel⟩
abbrev s_least_of : Stmt := topS 37
abbrev N_least_of : List Str := ["bars", "row", "found", "left", "letter", "place"]
theorem sc_least_of : FnScope N_least_of ["bars", "row"] (defScope s_least_of) := ⟨rfl, rfl, rfl, by decide +kernel, rfl, by decide +kernel, by decide +kernel⟩
abbrev s_count_alike : Stmt := topS 38
abbrev N_count_alike : List Str := ["bars", "row", "known", "total", "_", "place"]
theorem sc_count_alike : FnScope N_count_alike ["bars", "row", "known"] (defScope s_count_alike) := ⟨rfl, rfl, rfl, by decide +kernel, rfl, by decide +kernel, by decide +kernel⟩
abbrev s_numbered : Stmt := topS 39
abbrev N_numbered : List Str := ["trade", "row", "index", "bars", "known"]
theorem sc_numbered : FnScope N_numbered ["trade", "row", "index"] (defScope s_numbered) := ⟨rfl, rfl, rfl, by decide +kernel, rfl, by decide +kernel, by decide +kernel⟩
abbrev s_pick : Stmt := topS 40
abbrev s_turned : Stmt := topS 43
abbrev N_turned : List Str := ["trade", "row"]
theorem sc_turned : FnScope N_turned ["trade", "row"] (defScope s_turned) := ⟨rfl, rfl, rfl, by decide +kernel, rfl, by decide +kernel, by decide +kernel⟩
abbrev s_check_turning : Stmt := topS 44
abbrev N_check_turning : List Str := ["row"]
theorem sc_check_turning : FnScope N_check_turning ["row"] (defScope s_check_turning) := ⟨rfl, rfl, rfl, by decide +kernel, rfl, by decide +kernel, by decide +kernel⟩
abbrev s_all_turned : Stmt := topS 45
abbrev s_all_groups : Stmt := topS 50
abbrev s_may_join : Stmt := topS 51
abbrev s_signed_counts : Stmt := topS 52
abbrev s_sign : Stmt := topS 53
abbrev s_how_many : Stmt := topS 54
abbrev N_how_many : List Str := ["trade", "length", "counts", "found", "now", "total", "size"]
theorem sc_how_many : FnScope N_how_many ["trade", "length"] (defScope s_how_many) := ⟨rfl, rfl, rfl, by decide +kernel, rfl, by decide +kernel, by decide +kernel⟩
abbrev s_how_many_by : Stmt := topS 55
abbrev N_how_many_by : List Str := ["trade", "length", "modulus"]
theorem sc_how_many_by : FnScope N_how_many_by ["trade", "length", "modulus"] (defScope s_how_many_by) := ⟨rfl, rfl, rfl, by decide +kernel, rfl, by decide +kernel, by decide +kernel⟩
abbrev s_term_by : Stmt := topS 56
abbrev s_change_signs : Stmt := topS 57
abbrev s_multiply : Stmt := topS 58
abbrev s_trades_by : Stmt := topS 64
abbrev N_trades_by : List Str := ["letters", "facts", "trades", "pairs", "trade"]
theorem sc_trades_by : FnScope N_trades_by ["letters", "facts"] (defScope s_trades_by) := ⟨rfl, rfl, rfl, by decide +kernel, rfl, by decide +kernel, by decide +kernel⟩
abbrev s_check_facts : Stmt := topS 65
abbrev N_check_facts : List Str := ["letters", "facts", "index", "fact"]
theorem sc_check_facts : FnScope N_check_facts ["letters", "facts"] (defScope s_check_facts) := ⟨rfl, rfl, rfl, by decide +kernel, rfl, by decide +kernel, by decide +kernel⟩
abbrev s_is_fact : Stmt := topS 66
abbrev N_is_fact : List Str := ["letters", "value", "one", "other", "word"]
theorem sc_is_fact : FnScope N_is_fact ["letters", "value"] (defScope s_is_fact) := ⟨rfl, rfl, rfl, by decide +kernel, rfl, by decide +kernel, by decide +kernel⟩
abbrev s_choices_of_pairs : Stmt := topS 67
abbrev s_all_hold : Stmt := topS 68
abbrev s_holds : Stmt := topS 69
abbrev s_Line___init__ : Stmt := inClass (topS 71) 0
abbrev N_Line___init__ : List Str := ["self", "trade"]
theorem sc_Line___init__ : FnScope N_Line___init__ ["self", "trade"] (defScope s_Line___init__) := ⟨rfl, rfl, rfl, by decide +kernel, rfl, by decide +kernel, by decide +kernel⟩
abbrev s_Line_row : Stmt := inClass (topS 71) 1
abbrev N_Line_row : List Str := ["self"]
theorem sc_Line_row : FnScope N_Line_row ["self"] (defScope s_Line_row) := ⟨rfl, rfl, rfl, by decide +kernel, rfl, by decide +kernel, by decide +kernel⟩
abbrev s_Line_least : Stmt := inClass (topS 71) 2
abbrev s_Line_add : Stmt := inClass (topS 71) 3
abbrev N_Line_add : List Str := ["self", "letter", "longer"]
theorem sc_Line_add : FnScope N_Line_add ["self", "letter"] (defScope s_Line_add) := ⟨rfl, rfl, rfl, by decide +kernel, rfl, by decide +kernel, by decide +kernel⟩
abbrev s_Line_swap : Stmt := inClass (topS 71) 4
abbrev N_Line_swap : List Str := ["self", "place", "now", "pair"]
theorem sc_Line_swap : FnScope N_Line_swap ["self", "place"] (defScope s_Line_swap) := ⟨rfl, rfl, rfl, by decide +kernel, rfl, by decide +kernel, by decide +kernel⟩
abbrev s_Line___len__ : Stmt := inClass (topS 71) 7
abbrev s_is_change : Stmt := topS 72
abbrev N_is_change : List Str := ["trade", "row", "place"]
theorem sc_is_change : FnScope N_is_change ["trade", "row", "place"] (defScope s_is_change) := ⟨rfl, rfl, rfl, by decide +kernel, rfl, by decide +kernel, by decide +kernel⟩
abbrev s_read_row : Stmt := topS 77
abbrev N_read_row : List Str := ["trade", "text", "bars"]
theorem sc_read_row : FnScope N_read_row ["trade", "text"] (defScope s_read_row) := ⟨rfl, rfl, rfl, by decide +kernel, rfl, by decide +kernel, by decide +kernel⟩
abbrev s_read_letters : Stmt := topS 78
abbrev N_read_letters : List Str := ["bars", "text", "found", "before", "step", "within", "place", "sign", "letter"]
theorem sc_read_letters : FnScope N_read_letters ["bars", "text"] (defScope s_read_letters) := ⟨rfl, rfl, rfl, by decide +kernel, rfl, by decide +kernel, by decide +kernel⟩
abbrev s_can_stand : Stmt := topS 79
abbrev N_can_stand : List Str := ["bars", "before", "step", "letter"]
theorem sc_can_stand : FnScope N_can_stand ["bars", "before", "step", "letter"] (defScope s_can_stand) := ⟨rfl, rfl, rfl, by decide +kernel, rfl, by decide +kernel, by decide +kernel⟩
abbrev s__law_mix : Stmt := topS 81
abbrev N__law_mix : List Str := ["_law_script", "_law_seed", "_law_state", "_law_cell"]
theorem sc__law_mix : FnScope N__law_mix ["_law_script", "_law_seed"] (defScope s__law_mix) := ⟨rfl, rfl, rfl, by decide +kernel, rfl, by decide +kernel, by decide +kernel⟩
abbrev s__law_next : Stmt := topS 82
abbrev N__law_next : List Str := ["_law_h", "_law_bound", "_law_cell", "_law_cells"]
theorem sc__law_next : FnScope N__law_next ["_law_h", "_law_bound"] (defScope s__law_next) := ⟨rfl, rfl, rfl, by decide +kernel, rfl, by decide +kernel, by decide +kernel⟩
abbrev s__law_which : Stmt := topS 83
abbrev N__law_which : List Str := ["_law_e", "_law_one", "_law_k"]
theorem sc__law_which : FnScope N__law_which ["_law_e"] (defScope s__law_which) := ⟨rfl, rfl, rfl, by decide +kernel, rfl, by decide +kernel, by decide +kernel⟩
abbrev s__law_early : Stmt := topS 84
abbrev N__law_early : List Str := ["_law_kind", "_law_n", "_law_told"]
theorem sc__law_early : FnScope N__law_early ["_law_kind", "_law_n", "_law_told"] (defScope s__law_early) := ⟨rfl, rfl, rfl, by decide +kernel, rfl, by decide +kernel, by decide +kernel⟩
abbrev s__law_do : Stmt := topS 85
abbrev N__law_do : List Str := ["_law_kind", "_law_n", "_law_told", "_law_line", "_law_k"]
theorem sc__law_do : FnScope N__law_do ["_law_kind", "_law_n"] (defScope s__law_do) := ⟨rfl, rfl, rfl, by decide +kernel, rfl, by decide +kernel, by decide +kernel⟩
abbrev s_law : Stmt := topS 86
abbrev N_law : List Str := ["_law_script", "_law_h", "_law_n", "_law_kind", "_law_told", "_law_e", "_law_other"]
theorem sc_law : FnScope N_law ["_law_script"] (defScope s_law) := ⟨rfl, rfl, rfl, by decide +kernel, rfl, by decide +kernel, by decide +kernel⟩
set_option genInjectivity false in
set_option genSizeOf false in
structure Nv (K : PySem.W.Frag) (mg : Str → Option Value) : Type where
  a_TradeError___init__ : Addr
  d_TradeError___init__ : FuncData
  F_TradeError___init__ : Fun K "__init__" "TradeError.__init__" s_TradeError___init__ a_TradeError___init__ d_TradeError___init__
  b_TradeError___init__ : Binds K d_TradeError___init__ ["self"] []
  a_BadPairs___init__ : Addr
  d_BadPairs___init__ : FuncData
  F_BadPairs___init__ : Fun K "__init__" "BadPairs.__init__" s_BadPairs___init__ a_BadPairs___init__ d_BadPairs___init__
  b_BadPairs___init__ : Binds K d_BadPairs___init__ ["self", "index"] []
  a_BadFacts___init__ : Addr
  d_BadFacts___init__ : FuncData
  F_BadFacts___init__ : Fun K "__init__" "BadFacts.__init__" s_BadFacts___init__ a_BadFacts___init__ d_BadFacts___init__
  b_BadFacts___init__ : Binds K d_BadFacts___init__ ["self", "index"] []
  a_InvalidText___init__ : Addr
  d_InvalidText___init__ : FuncData
  F_InvalidText___init__ : Fun K "__init__" "InvalidText.__init__" s_InvalidText___init__ a_InvalidText___init__ d_InvalidText___init__
  b_InvalidText___init__ : Binds K d_InvalidText___init__ ["self", "place"] []
  a_is_whole : Addr
  d_is_whole : FuncData
  F_is_whole : Fun K "is_whole" "is_whole" s_is_whole a_is_whole d_is_whole
  b_is_whole : Binds K d_is_whole ["value", "low", "high"] []
  m_is_whole : mg "is_whole" = some (.ref a_is_whole)
  a_is_letter : Addr
  d_is_letter : FuncData
  F_is_letter : Fun K "is_letter" "is_letter" s_is_letter a_is_letter d_is_letter
  b_is_letter : Binds K d_is_letter ["letters", "value"] []
  m_is_letter : mg "is_letter" = some (.ref a_is_letter)
  a_is_pair : Addr
  d_is_pair : FuncData
  F_is_pair : Fun K "is_pair" "is_pair" s_is_pair a_is_pair d_is_pair
  b_is_pair : Binds K d_is_pair ["letters", "value"] []
  m_is_pair : mg "is_pair" = some (.ref a_is_pair)
  a_check_pairs : Addr
  d_check_pairs : FuncData
  F_check_pairs : Fun K "check_pairs" "check_pairs" s_check_pairs a_check_pairs d_check_pairs
  b_check_pairs : Binds K d_check_pairs ["letters", "pairs"] []
  m_check_pairs : mg "check_pairs" = some (.ref a_check_pairs)
  a_Trade___init__ : Addr
  d_Trade___init__ : FuncData
  F_Trade___init__ : Fun K "__init__" "Trade.__init__" s_Trade___init__ a_Trade___init__ d_Trade___init__
  b_Trade___init__ : Binds K d_Trade___init__ ["self", "letters", "pairs"] []
  a_Trade_letters : Addr
  d_Trade_letters : FuncData
  F_Trade_letters : Fun K "letters" "Trade.letters" s_Trade_letters a_Trade_letters d_Trade_letters
  b_Trade_letters : Binds K d_Trade_letters ["self"] []
  a_Trade_pairs : Addr
  d_Trade_pairs : FuncData
  F_Trade_pairs : Fun K "pairs" "Trade.pairs" s_Trade_pairs a_Trade_pairs d_Trade_pairs
  b_Trade_pairs : Binds K d_Trade_pairs ["self"] []
  a_Trade___eq__ : Addr
  d_Trade___eq__ : FuncData
  F_Trade___eq__ : Fun K "__eq__" "Trade.__eq__" s_Trade___eq__ a_Trade___eq__ d_Trade___eq__
  b_Trade___eq__ : Binds K d_Trade___eq__ ["self", "other"] []
  a_check_trade : Addr
  d_check_trade : FuncData
  F_check_trade : Fun K "check_trade" "check_trade" s_check_trade a_check_trade d_check_trade
  b_check_trade : Binds K d_check_trade ["trade"] []
  m_check_trade : mg "check_trade" = some (.ref a_check_trade)
  a_may_change : Addr
  d_may_change : FuncData
  F_may_change : Fun K "may_change" "may_change" s_may_change a_may_change d_may_change
  b_may_change : Binds K d_may_change ["trade", "one", "other"] []
  m_may_change : mg "may_change" = some (.ref a_may_change)
  a_bars_of : Addr
  d_bars_of : FuncData
  F_bars_of : Fun K "bars_of" "bars_of" s_bars_of a_bars_of d_bars_of
  b_bars_of : Binds K d_bars_of ["trade"] []
  m_bars_of : mg "bars_of" = some (.ref a_bars_of)
  a_all_may_change : Addr
  d_all_may_change : FuncData
  F_all_may_change : Fun K "all_may_change" "all_may_change" s_all_may_change a_all_may_change d_all_may_change
  b_all_may_change : Binds K d_all_may_change ["bars", "one", "other"] []
  m_all_may_change : mg "all_may_change" = some (.ref a_all_may_change)
  a_is_row : Addr
  d_is_row : FuncData
  F_is_row : Fun K "is_row" "is_row" s_is_row a_is_row d_is_row
  b_is_row : Binds K d_is_row ["letters", "value"] []
  m_is_row : mg "is_row" = some (.ref a_is_row)
  a_check_row : Addr
  d_check_row : FuncData
  F_check_row : Fun K "check_row" "check_row" s_check_row a_check_row d_check_row
  b_check_row : Binds K d_check_row ["trade", "row"] []
  m_check_row : mg "check_row" = some (.ref a_check_row)
  a_find_bar : Addr
  d_find_bar : FuncData
  F_find_bar : Fun K "find_bar" "find_bar" s_find_bar a_find_bar d_find_bar
  b_find_bar : Binds K d_find_bar ["trade", "one", "other"] []
  m_find_bar : mg "find_bar" = some (.ref a_find_bar)
  a_only : Addr
  d_only : FuncData
  F_only : Fun K "only" "only" s_only a_only d_only
  b_only : Binds K d_only ["row", "low", "high"] []
  m_only : mg "only" = some (.ref a_only)
  a_first_unlike : Addr
  d_first_unlike : FuncData
  F_first_unlike : Fun K "first_unlike" "first_unlike" s_first_unlike a_first_unlike d_first_unlike
  b_first_unlike : Binds K d_first_unlike ["one", "other"] []
  m_first_unlike : mg "first_unlike" = some (.ref a_first_unlike)
  a_least : Addr
  d_least : FuncData
  F_least : Fun K "least" "least" s_least a_least d_least
  b_least : Binds K d_least ["trade", "row"] []
  m_least : mg "least" = some (.ref a_least)
  a_first_letters : Addr
  d_first_letters : FuncData
  F_first_letters : Fun K "first_letters" "first_letters" s_first_letters a_first_letters d_first_letters
  b_first_letters : Binds K d_first_letters ["bars", "row"] []
  m_first_letters : mg "first_letters" = some (.ref a_first_letters)
  a_without : Addr
  d_without : FuncData
  F_without : Fun K "without" "without" s_without a_without d_without
  b_without : Binds K d_without ["row", "place"] []
  m_without : mg "without" = some (.ref a_without)
  a_least_of : Addr
  d_least_of : FuncData
  F_least_of : Fun K "least_of" "least_of" s_least_of a_least_of d_least_of
  b_least_of : Binds K d_least_of ["bars", "row"] []
  m_least_of : mg "least_of" = some (.ref a_least_of)
  a_count_alike : Addr
  d_count_alike : FuncData
  F_count_alike : Fun K "count_alike" "count_alike" s_count_alike a_count_alike d_count_alike
  b_count_alike : Binds K d_count_alike ["bars", "row", "known"] []
  m_count_alike : mg "count_alike" = some (.ref a_count_alike)
  a_numbered : Addr
  d_numbered : FuncData
  F_numbered : Fun K "numbered" "numbered" s_numbered a_numbered d_numbered
  b_numbered : Binds K d_numbered ["trade", "row", "index"] []
  m_numbered : mg "numbered" = some (.ref a_numbered)
  a_pick : Addr
  d_pick : FuncData
  F_pick : Fun K "pick" "pick" s_pick a_pick d_pick
  b_pick : Binds K d_pick ["bars", "row", "index", "known"] []
  m_pick : mg "pick" = some (.ref a_pick)
  a_turned : Addr
  d_turned : FuncData
  F_turned : Fun K "turned" "turned" s_turned a_turned d_turned
  b_turned : Binds K d_turned ["trade", "row"] []
  m_turned : mg "turned" = some (.ref a_turned)
  a_check_turning : Addr
  d_check_turning : FuncData
  F_check_turning : Fun K "check_turning" "check_turning" s_check_turning a_check_turning d_check_turning
  b_check_turning : Binds K d_check_turning ["row"] []
  m_check_turning : mg "check_turning" = some (.ref a_check_turning)
  a_all_turned : Addr
  d_all_turned : FuncData
  F_all_turned : Fun K "all_turned" "all_turned" s_all_turned a_all_turned d_all_turned
  b_all_turned : Binds K d_all_turned ["bars", "row"] []
  m_all_turned : mg "all_turned" = some (.ref a_all_turned)
  a_all_groups : Addr
  d_all_groups : FuncData
  F_all_groups : Fun K "all_groups" "all_groups" s_all_groups a_all_groups d_all_groups
  b_all_groups : Binds K d_all_groups ["trade"] []
  m_all_groups : mg "all_groups" = some (.ref a_all_groups)
  a_may_join : Addr
  d_may_join : FuncData
  F_may_join : Fun K "may_join" "may_join" s_may_join a_may_join d_may_join
  b_may_join : Binds K d_may_join ["trade", "group", "letter"] []
  m_may_join : mg "may_join" = some (.ref a_may_join)
  a_signed_counts : Addr
  d_signed_counts : FuncData
  F_signed_counts : Fun K "signed_counts" "signed_counts" s_signed_counts a_signed_counts d_signed_counts
  b_signed_counts : Binds K d_signed_counts ["trade"] []
  m_signed_counts : mg "signed_counts" = some (.ref a_signed_counts)
  a_sign : Addr
  d_sign : FuncData
  F_sign : Fun K "sign" "sign" s_sign a_sign d_sign
  b_sign : Binds K d_sign ["number"] []
  m_sign : mg "sign" = some (.ref a_sign)
  a_how_many : Addr
  d_how_many : FuncData
  F_how_many : Fun K "how_many" "how_many" s_how_many a_how_many d_how_many
  b_how_many : Binds K d_how_many ["trade", "length"] []
  m_how_many : mg "how_many" = some (.ref a_how_many)
  a_how_many_by : Addr
  d_how_many_by : FuncData
  F_how_many_by : Fun K "how_many_by" "how_many_by" s_how_many_by a_how_many_by d_how_many_by
  b_how_many_by : Binds K d_how_many_by ["trade", "length", "modulus"] []
  m_how_many_by : mg "how_many_by" = some (.ref a_how_many_by)
  a_term_by : Addr
  d_term_by : FuncData
  F_term_by : Fun K "term_by" "term_by" s_term_by a_term_by d_term_by
  b_term_by : Binds K d_term_by ["counts", "length", "modulus"] []
  m_term_by : mg "term_by" = some (.ref a_term_by)
  a_change_signs : Addr
  d_change_signs : FuncData
  F_change_signs : Fun K "change_signs" "change_signs" s_change_signs a_change_signs d_change_signs
  b_change_signs : Binds K d_change_signs ["terms"] []
  m_change_signs : mg "change_signs" = some (.ref a_change_signs)
  a_multiply : Addr
  d_multiply : FuncData
  F_multiply : Fun K "multiply" "multiply" s_multiply a_multiply d_multiply
  b_multiply : Binds K d_multiply ["one", "other", "modulus"] []
  m_multiply : mg "multiply" = some (.ref a_multiply)
  a_trades_by : Addr
  d_trades_by : FuncData
  F_trades_by : Fun K "trades_by" "trades_by" s_trades_by a_trades_by d_trades_by
  b_trades_by : Binds K d_trades_by ["letters", "facts"] []
  m_trades_by : mg "trades_by" = some (.ref a_trades_by)
  a_check_facts : Addr
  d_check_facts : FuncData
  F_check_facts : Fun K "check_facts" "check_facts" s_check_facts a_check_facts d_check_facts
  b_check_facts : Binds K d_check_facts ["letters", "facts"] []
  m_check_facts : mg "check_facts" = some (.ref a_check_facts)
  a_is_fact : Addr
  d_is_fact : FuncData
  F_is_fact : Fun K "is_fact" "is_fact" s_is_fact a_is_fact d_is_fact
  b_is_fact : Binds K d_is_fact ["letters", "value"] []
  m_is_fact : mg "is_fact" = some (.ref a_is_fact)
  a_choices_of_pairs : Addr
  d_choices_of_pairs : FuncData
  F_choices_of_pairs : Fun K "choices_of_pairs" "choices_of_pairs" s_choices_of_pairs a_choices_of_pairs d_choices_of_pairs
  b_choices_of_pairs : Binds K d_choices_of_pairs ["letters"] []
  m_choices_of_pairs : mg "choices_of_pairs" = some (.ref a_choices_of_pairs)
  a_all_hold : Addr
  d_all_hold : FuncData
  F_all_hold : Fun K "all_hold" "all_hold" s_all_hold a_all_hold d_all_hold
  b_all_hold : Binds K d_all_hold ["trade", "facts"] []
  m_all_hold : mg "all_hold" = some (.ref a_all_hold)
  a_holds : Addr
  d_holds : FuncData
  F_holds : Fun K "holds" "holds" s_holds a_holds d_holds
  b_holds : Binds K d_holds ["trade", "one", "other", "word"] []
  m_holds : mg "holds" = some (.ref a_holds)
  a_Line___init__ : Addr
  d_Line___init__ : FuncData
  F_Line___init__ : Fun K "__init__" "Line.__init__" s_Line___init__ a_Line___init__ d_Line___init__
  b_Line___init__ : Binds K d_Line___init__ ["self", "trade"] []
  a_Line_row : Addr
  d_Line_row : FuncData
  F_Line_row : Fun K "row" "Line.row" s_Line_row a_Line_row d_Line_row
  b_Line_row : Binds K d_Line_row ["self"] []
  a_Line_least : Addr
  d_Line_least : FuncData
  F_Line_least : Fun K "least" "Line.least" s_Line_least a_Line_least d_Line_least
  b_Line_least : Binds K d_Line_least ["self"] []
  a_Line_add : Addr
  d_Line_add : FuncData
  F_Line_add : Fun K "add" "Line.add" s_Line_add a_Line_add d_Line_add
  b_Line_add : Binds K d_Line_add ["self", "letter"] []
  a_Line_swap : Addr
  d_Line_swap : FuncData
  F_Line_swap : Fun K "swap" "Line.swap" s_Line_swap a_Line_swap d_Line_swap
  b_Line_swap : Binds K d_Line_swap ["self", "place"] []
  a_Line___len__ : Addr
  d_Line___len__ : FuncData
  F_Line___len__ : Fun K "__len__" "Line.__len__" s_Line___len__ a_Line___len__ d_Line___len__
  b_Line___len__ : Binds K d_Line___len__ ["self"] []
  a_is_change : Addr
  d_is_change : FuncData
  F_is_change : Fun K "is_change" "is_change" s_is_change a_is_change d_is_change
  b_is_change : Binds K d_is_change ["trade", "row", "place"] []
  m_is_change : mg "is_change" = some (.ref a_is_change)
  a_read_row : Addr
  d_read_row : FuncData
  F_read_row : Fun K "read_row" "read_row" s_read_row a_read_row d_read_row
  b_read_row : Binds K d_read_row ["trade", "text"] []
  m_read_row : mg "read_row" = some (.ref a_read_row)
  a_read_letters : Addr
  d_read_letters : FuncData
  F_read_letters : Fun K "read_letters" "read_letters" s_read_letters a_read_letters d_read_letters
  b_read_letters : Binds K d_read_letters ["bars", "text"] []
  m_read_letters : mg "read_letters" = some (.ref a_read_letters)
  a_can_stand : Addr
  d_can_stand : FuncData
  F_can_stand : Fun K "can_stand" "can_stand" s_can_stand a_can_stand d_can_stand
  b_can_stand : Binds K d_can_stand ["bars", "before", "step", "letter"] []
  m_can_stand : mg "can_stand" = some (.ref a_can_stand)
  a__law_mix : Addr
  d__law_mix : FuncData
  F__law_mix : Fun K "_law_mix" "_law_mix" s__law_mix a__law_mix d__law_mix
  b__law_mix : Binds K d__law_mix ["_law_script", "_law_seed"] []
  m__law_mix : mg "_law_mix" = some (.ref a__law_mix)
  a__law_next : Addr
  d__law_next : FuncData
  F__law_next : Fun K "_law_next" "_law_next" s__law_next a__law_next d__law_next
  b__law_next : Binds K d__law_next ["_law_h", "_law_bound"] []
  m__law_next : mg "_law_next" = some (.ref a__law_next)
  a__law_which : Addr
  d__law_which : FuncData
  F__law_which : Fun K "_law_which" "_law_which" s__law_which a__law_which d__law_which
  b__law_which : Binds K d__law_which ["_law_e"] []
  m__law_which : mg "_law_which" = some (.ref a__law_which)
  a__law_early : Addr
  d__law_early : FuncData
  F__law_early : Fun K "_law_early" "_law_early" s__law_early a__law_early d__law_early
  b__law_early : Binds K d__law_early ["_law_kind", "_law_n", "_law_told"] []
  m__law_early : mg "_law_early" = some (.ref a__law_early)
  a__law_do : Addr
  d__law_do : FuncData
  F__law_do : Fun K "_law_do" "_law_do" s__law_do a__law_do d__law_do
  b__law_do : Binds K d__law_do ["_law_kind", "_law_n"] []
  m__law_do : mg "_law_do" = some (.ref a__law_do)
  a_law : Addr
  d_law : FuncData
  F_law : Fun K "law" "law" s_law a_law d_law
  b_law : Binds K d_law ["_law_script"] []
  m_law : mg "law" = some (.ref a_law)
  C_TradeError : Addr
  m_TradeError : mg "TradeError" = some (.ref C_TradeError)
  C_BadLetters : Addr
  m_BadLetters : mg "BadLetters" = some (.ref C_BadLetters)
  C_BadPairs : Addr
  m_BadPairs : mg "BadPairs" = some (.ref C_BadPairs)
  C_BadTrade : Addr
  m_BadTrade : mg "BadTrade" = some (.ref C_BadTrade)
  C_BadRow : Addr
  m_BadRow : mg "BadRow" = some (.ref C_BadRow)
  C_BadNumber : Addr
  m_BadNumber : mg "BadNumber" = some (.ref C_BadNumber)
  C_TooLong : Addr
  m_TooLong : mg "TooLong" = some (.ref C_TooLong)
  C_BadLength : Addr
  m_BadLength : mg "BadLength" = some (.ref C_BadLength)
  C_BadModulus : Addr
  m_BadModulus : mg "BadModulus" = some (.ref C_BadModulus)
  C_BadFacts : Addr
  m_BadFacts : mg "BadFacts" = some (.ref C_BadFacts)
  C_BadLetter : Addr
  m_BadLetter : mg "BadLetter" = some (.ref C_BadLetter)
  C_Full : Addr
  m_Full : mg "Full" = some (.ref C_Full)
  C_BadPlace : Addr
  m_BadPlace : mg "BadPlace" = some (.ref C_BadPlace)
  C_InvalidText : Addr
  m_InvalidText : mg "InvalidText" = some (.ref C_InvalidText)
  C_Trade : Addr
  m_Trade : mg "Trade" = some (.ref C_Trade)
  C_Line : Addr
  m_Line : mg "Line" = some (.ref C_Line)
  n_ValueError : mg "ValueError" = none
  n_all : mg "all" = none
  n_bool : mg "bool" = none
  n_enumerate : mg "enumerate" = none
  n_int : mg "int" = none
  n_isinstance : mg "isinstance" = none
  n_len : mg "len" = none
  n_list : mg "list" = none
  n_max : mg "max" = none
  n_min : mg "min" = none
  n_range : mg "range" = none
  n_sorted : mg "sorted" = none
  n_tuple : mg "tuple" = none
  t_MOST_LETTERS : Tok
  c_MOST_LETTERS : mg "MOST_LETTERS" = some (.int 6 t_MOST_LETTERS)
  t_MOST_IN_ROW : Tok
  c_MOST_IN_ROW : mg "MOST_IN_ROW" = some (.int 20 t_MOST_IN_ROW)
  t_MOST_TO_TURN : Tok
  c_MOST_TO_TURN : mg "MOST_TO_TURN" = some (.int 8 t_MOST_TO_TURN)
  t_MOST_LENGTH : Tok
  c_MOST_LENGTH : mg "MOST_LENGTH" = some (.int 500 t_MOST_LENGTH)
  t_MOST_LETTERS_KNOWN : Tok
  c_MOST_LETTERS_KNOWN : mg "MOST_LETTERS_KNOWN" = some (.int 4 t_MOST_LETTERS_KNOWN)
  t_MOST_FACTS : Tok
  c_MOST_FACTS : mg "MOST_FACTS" = some (.int 20 t_MOST_FACTS)
  t_ALIKE : Tok
  c_ALIKE : mg "ALIKE" = some (.str "alike" t_ALIKE)
  t_UNLIKE : Tok
  c_UNLIKE : mg "UNLIKE" = some (.str "unlike" t_UNLIKE)
  t_LETTERS : Tok
  c_LETTERS : mg "LETTERS" = some (.str "abcdef" t_LETTERS)
  t_OPENING : Tok
  c_OPENING : mg "OPENING" = some (.str "(" t_OPENING)
  t_CLOSING : Tok
  c_CLOSING : mg "CLOSING" = some (.str ")" t_CLOSING)
  t_MOST_LENGTH_BY : Tok
  c_MOST_LENGTH_BY : mg "MOST_LENGTH_BY" = some (.int 1000000000000000000000000000000 t_MOST_LENGTH_BY)
  t_MOST_MODULUS : Tok
  c_MOST_MODULUS : mg "MOST_MODULUS" = some (.int 1000000000 t_MOST_MODULUS)
  x_BadLetters : XOk K C_BadLetters a_TradeError___init__
  xc_BadLetters : L2.ExcC K C_BadLetters
  kv_BadLetters : PySem.W.kitOne K (.ref C_BadLetters) (.type "ValueError") = some true
  k_BadLetters_BadLetters : PySem.W.kitOne K (.ref C_BadLetters) (.ref C_BadLetters) = some true
  k_BadLetters_BadPairs : PySem.W.kitOne K (.ref C_BadLetters) (.ref C_BadPairs) = some false
  k_BadLetters_BadTrade : PySem.W.kitOne K (.ref C_BadLetters) (.ref C_BadTrade) = some false
  k_BadLetters_BadRow : PySem.W.kitOne K (.ref C_BadLetters) (.ref C_BadRow) = some false
  k_BadLetters_BadNumber : PySem.W.kitOne K (.ref C_BadLetters) (.ref C_BadNumber) = some false
  k_BadLetters_TooLong : PySem.W.kitOne K (.ref C_BadLetters) (.ref C_TooLong) = some false
  k_BadLetters_BadLength : PySem.W.kitOne K (.ref C_BadLetters) (.ref C_BadLength) = some false
  k_BadLetters_BadModulus : PySem.W.kitOne K (.ref C_BadLetters) (.ref C_BadModulus) = some false
  k_BadLetters_BadFacts : PySem.W.kitOne K (.ref C_BadLetters) (.ref C_BadFacts) = some false
  k_BadLetters_BadLetter : PySem.W.kitOne K (.ref C_BadLetters) (.ref C_BadLetter) = some false
  k_BadLetters_Full : PySem.W.kitOne K (.ref C_BadLetters) (.ref C_Full) = some false
  k_BadLetters_BadPlace : PySem.W.kitOne K (.ref C_BadLetters) (.ref C_BadPlace) = some false
  k_BadLetters_InvalidText : PySem.W.kitOne K (.ref C_BadLetters) (.ref C_InvalidText) = some false
  e_BadLetters_TradeError : PySem.W.exmOne K (.ref C_BadLetters) (.ref C_TradeError) = some true
  x_BadPairs : XOk K C_BadPairs a_BadPairs___init__
  xc_BadPairs : L2.ExcC K C_BadPairs
  kv_BadPairs : PySem.W.kitOne K (.ref C_BadPairs) (.type "ValueError") = some true
  k_BadPairs_BadLetters : PySem.W.kitOne K (.ref C_BadPairs) (.ref C_BadLetters) = some false
  k_BadPairs_BadPairs : PySem.W.kitOne K (.ref C_BadPairs) (.ref C_BadPairs) = some true
  k_BadPairs_BadTrade : PySem.W.kitOne K (.ref C_BadPairs) (.ref C_BadTrade) = some false
  k_BadPairs_BadRow : PySem.W.kitOne K (.ref C_BadPairs) (.ref C_BadRow) = some false
  k_BadPairs_BadNumber : PySem.W.kitOne K (.ref C_BadPairs) (.ref C_BadNumber) = some false
  k_BadPairs_TooLong : PySem.W.kitOne K (.ref C_BadPairs) (.ref C_TooLong) = some false
  k_BadPairs_BadLength : PySem.W.kitOne K (.ref C_BadPairs) (.ref C_BadLength) = some false
  k_BadPairs_BadModulus : PySem.W.kitOne K (.ref C_BadPairs) (.ref C_BadModulus) = some false
  k_BadPairs_BadFacts : PySem.W.kitOne K (.ref C_BadPairs) (.ref C_BadFacts) = some false
  k_BadPairs_BadLetter : PySem.W.kitOne K (.ref C_BadPairs) (.ref C_BadLetter) = some false
  k_BadPairs_Full : PySem.W.kitOne K (.ref C_BadPairs) (.ref C_Full) = some false
  k_BadPairs_BadPlace : PySem.W.kitOne K (.ref C_BadPairs) (.ref C_BadPlace) = some false
  k_BadPairs_InvalidText : PySem.W.kitOne K (.ref C_BadPairs) (.ref C_InvalidText) = some false
  e_BadPairs_TradeError : PySem.W.exmOne K (.ref C_BadPairs) (.ref C_TradeError) = some true
  x_BadTrade : XOk K C_BadTrade a_TradeError___init__
  xc_BadTrade : L2.ExcC K C_BadTrade
  kv_BadTrade : PySem.W.kitOne K (.ref C_BadTrade) (.type "ValueError") = some true
  k_BadTrade_BadLetters : PySem.W.kitOne K (.ref C_BadTrade) (.ref C_BadLetters) = some false
  k_BadTrade_BadPairs : PySem.W.kitOne K (.ref C_BadTrade) (.ref C_BadPairs) = some false
  k_BadTrade_BadTrade : PySem.W.kitOne K (.ref C_BadTrade) (.ref C_BadTrade) = some true
  k_BadTrade_BadRow : PySem.W.kitOne K (.ref C_BadTrade) (.ref C_BadRow) = some false
  k_BadTrade_BadNumber : PySem.W.kitOne K (.ref C_BadTrade) (.ref C_BadNumber) = some false
  k_BadTrade_TooLong : PySem.W.kitOne K (.ref C_BadTrade) (.ref C_TooLong) = some false
  k_BadTrade_BadLength : PySem.W.kitOne K (.ref C_BadTrade) (.ref C_BadLength) = some false
  k_BadTrade_BadModulus : PySem.W.kitOne K (.ref C_BadTrade) (.ref C_BadModulus) = some false
  k_BadTrade_BadFacts : PySem.W.kitOne K (.ref C_BadTrade) (.ref C_BadFacts) = some false
  k_BadTrade_BadLetter : PySem.W.kitOne K (.ref C_BadTrade) (.ref C_BadLetter) = some false
  k_BadTrade_Full : PySem.W.kitOne K (.ref C_BadTrade) (.ref C_Full) = some false
  k_BadTrade_BadPlace : PySem.W.kitOne K (.ref C_BadTrade) (.ref C_BadPlace) = some false
  k_BadTrade_InvalidText : PySem.W.kitOne K (.ref C_BadTrade) (.ref C_InvalidText) = some false
  e_BadTrade_TradeError : PySem.W.exmOne K (.ref C_BadTrade) (.ref C_TradeError) = some true
  x_BadRow : XOk K C_BadRow a_TradeError___init__
  xc_BadRow : L2.ExcC K C_BadRow
  kv_BadRow : PySem.W.kitOne K (.ref C_BadRow) (.type "ValueError") = some true
  k_BadRow_BadLetters : PySem.W.kitOne K (.ref C_BadRow) (.ref C_BadLetters) = some false
  k_BadRow_BadPairs : PySem.W.kitOne K (.ref C_BadRow) (.ref C_BadPairs) = some false
  k_BadRow_BadTrade : PySem.W.kitOne K (.ref C_BadRow) (.ref C_BadTrade) = some false
  k_BadRow_BadRow : PySem.W.kitOne K (.ref C_BadRow) (.ref C_BadRow) = some true
  k_BadRow_BadNumber : PySem.W.kitOne K (.ref C_BadRow) (.ref C_BadNumber) = some false
  k_BadRow_TooLong : PySem.W.kitOne K (.ref C_BadRow) (.ref C_TooLong) = some false
  k_BadRow_BadLength : PySem.W.kitOne K (.ref C_BadRow) (.ref C_BadLength) = some false
  k_BadRow_BadModulus : PySem.W.kitOne K (.ref C_BadRow) (.ref C_BadModulus) = some false
  k_BadRow_BadFacts : PySem.W.kitOne K (.ref C_BadRow) (.ref C_BadFacts) = some false
  k_BadRow_BadLetter : PySem.W.kitOne K (.ref C_BadRow) (.ref C_BadLetter) = some false
  k_BadRow_Full : PySem.W.kitOne K (.ref C_BadRow) (.ref C_Full) = some false
  k_BadRow_BadPlace : PySem.W.kitOne K (.ref C_BadRow) (.ref C_BadPlace) = some false
  k_BadRow_InvalidText : PySem.W.kitOne K (.ref C_BadRow) (.ref C_InvalidText) = some false
  e_BadRow_TradeError : PySem.W.exmOne K (.ref C_BadRow) (.ref C_TradeError) = some true
  x_BadNumber : XOk K C_BadNumber a_TradeError___init__
  xc_BadNumber : L2.ExcC K C_BadNumber
  kv_BadNumber : PySem.W.kitOne K (.ref C_BadNumber) (.type "ValueError") = some true
  k_BadNumber_BadLetters : PySem.W.kitOne K (.ref C_BadNumber) (.ref C_BadLetters) = some false
  k_BadNumber_BadPairs : PySem.W.kitOne K (.ref C_BadNumber) (.ref C_BadPairs) = some false
  k_BadNumber_BadTrade : PySem.W.kitOne K (.ref C_BadNumber) (.ref C_BadTrade) = some false
  k_BadNumber_BadRow : PySem.W.kitOne K (.ref C_BadNumber) (.ref C_BadRow) = some false
  k_BadNumber_BadNumber : PySem.W.kitOne K (.ref C_BadNumber) (.ref C_BadNumber) = some true
  k_BadNumber_TooLong : PySem.W.kitOne K (.ref C_BadNumber) (.ref C_TooLong) = some false
  k_BadNumber_BadLength : PySem.W.kitOne K (.ref C_BadNumber) (.ref C_BadLength) = some false
  k_BadNumber_BadModulus : PySem.W.kitOne K (.ref C_BadNumber) (.ref C_BadModulus) = some false
  k_BadNumber_BadFacts : PySem.W.kitOne K (.ref C_BadNumber) (.ref C_BadFacts) = some false
  k_BadNumber_BadLetter : PySem.W.kitOne K (.ref C_BadNumber) (.ref C_BadLetter) = some false
  k_BadNumber_Full : PySem.W.kitOne K (.ref C_BadNumber) (.ref C_Full) = some false
  k_BadNumber_BadPlace : PySem.W.kitOne K (.ref C_BadNumber) (.ref C_BadPlace) = some false
  k_BadNumber_InvalidText : PySem.W.kitOne K (.ref C_BadNumber) (.ref C_InvalidText) = some false
  e_BadNumber_TradeError : PySem.W.exmOne K (.ref C_BadNumber) (.ref C_TradeError) = some true
  x_TooLong : XOk K C_TooLong a_TradeError___init__
  xc_TooLong : L2.ExcC K C_TooLong
  kv_TooLong : PySem.W.kitOne K (.ref C_TooLong) (.type "ValueError") = some true
  k_TooLong_BadLetters : PySem.W.kitOne K (.ref C_TooLong) (.ref C_BadLetters) = some false
  k_TooLong_BadPairs : PySem.W.kitOne K (.ref C_TooLong) (.ref C_BadPairs) = some false
  k_TooLong_BadTrade : PySem.W.kitOne K (.ref C_TooLong) (.ref C_BadTrade) = some false
  k_TooLong_BadRow : PySem.W.kitOne K (.ref C_TooLong) (.ref C_BadRow) = some false
  k_TooLong_BadNumber : PySem.W.kitOne K (.ref C_TooLong) (.ref C_BadNumber) = some false
  k_TooLong_TooLong : PySem.W.kitOne K (.ref C_TooLong) (.ref C_TooLong) = some true
  k_TooLong_BadLength : PySem.W.kitOne K (.ref C_TooLong) (.ref C_BadLength) = some false
  k_TooLong_BadModulus : PySem.W.kitOne K (.ref C_TooLong) (.ref C_BadModulus) = some false
  k_TooLong_BadFacts : PySem.W.kitOne K (.ref C_TooLong) (.ref C_BadFacts) = some false
  k_TooLong_BadLetter : PySem.W.kitOne K (.ref C_TooLong) (.ref C_BadLetter) = some false
  k_TooLong_Full : PySem.W.kitOne K (.ref C_TooLong) (.ref C_Full) = some false
  k_TooLong_BadPlace : PySem.W.kitOne K (.ref C_TooLong) (.ref C_BadPlace) = some false
  k_TooLong_InvalidText : PySem.W.kitOne K (.ref C_TooLong) (.ref C_InvalidText) = some false
  e_TooLong_TradeError : PySem.W.exmOne K (.ref C_TooLong) (.ref C_TradeError) = some true
  x_BadLength : XOk K C_BadLength a_TradeError___init__
  xc_BadLength : L2.ExcC K C_BadLength
  kv_BadLength : PySem.W.kitOne K (.ref C_BadLength) (.type "ValueError") = some true
  k_BadLength_BadLetters : PySem.W.kitOne K (.ref C_BadLength) (.ref C_BadLetters) = some false
  k_BadLength_BadPairs : PySem.W.kitOne K (.ref C_BadLength) (.ref C_BadPairs) = some false
  k_BadLength_BadTrade : PySem.W.kitOne K (.ref C_BadLength) (.ref C_BadTrade) = some false
  k_BadLength_BadRow : PySem.W.kitOne K (.ref C_BadLength) (.ref C_BadRow) = some false
  k_BadLength_BadNumber : PySem.W.kitOne K (.ref C_BadLength) (.ref C_BadNumber) = some false
  k_BadLength_TooLong : PySem.W.kitOne K (.ref C_BadLength) (.ref C_TooLong) = some false
  k_BadLength_BadLength : PySem.W.kitOne K (.ref C_BadLength) (.ref C_BadLength) = some true
  k_BadLength_BadModulus : PySem.W.kitOne K (.ref C_BadLength) (.ref C_BadModulus) = some false
  k_BadLength_BadFacts : PySem.W.kitOne K (.ref C_BadLength) (.ref C_BadFacts) = some false
  k_BadLength_BadLetter : PySem.W.kitOne K (.ref C_BadLength) (.ref C_BadLetter) = some false
  k_BadLength_Full : PySem.W.kitOne K (.ref C_BadLength) (.ref C_Full) = some false
  k_BadLength_BadPlace : PySem.W.kitOne K (.ref C_BadLength) (.ref C_BadPlace) = some false
  k_BadLength_InvalidText : PySem.W.kitOne K (.ref C_BadLength) (.ref C_InvalidText) = some false
  e_BadLength_TradeError : PySem.W.exmOne K (.ref C_BadLength) (.ref C_TradeError) = some true
  x_BadModulus : XOk K C_BadModulus a_TradeError___init__
  xc_BadModulus : L2.ExcC K C_BadModulus
  kv_BadModulus : PySem.W.kitOne K (.ref C_BadModulus) (.type "ValueError") = some true
  k_BadModulus_BadLetters : PySem.W.kitOne K (.ref C_BadModulus) (.ref C_BadLetters) = some false
  k_BadModulus_BadPairs : PySem.W.kitOne K (.ref C_BadModulus) (.ref C_BadPairs) = some false
  k_BadModulus_BadTrade : PySem.W.kitOne K (.ref C_BadModulus) (.ref C_BadTrade) = some false
  k_BadModulus_BadRow : PySem.W.kitOne K (.ref C_BadModulus) (.ref C_BadRow) = some false
  k_BadModulus_BadNumber : PySem.W.kitOne K (.ref C_BadModulus) (.ref C_BadNumber) = some false
  k_BadModulus_TooLong : PySem.W.kitOne K (.ref C_BadModulus) (.ref C_TooLong) = some false
  k_BadModulus_BadLength : PySem.W.kitOne K (.ref C_BadModulus) (.ref C_BadLength) = some false
  k_BadModulus_BadModulus : PySem.W.kitOne K (.ref C_BadModulus) (.ref C_BadModulus) = some true
  k_BadModulus_BadFacts : PySem.W.kitOne K (.ref C_BadModulus) (.ref C_BadFacts) = some false
  k_BadModulus_BadLetter : PySem.W.kitOne K (.ref C_BadModulus) (.ref C_BadLetter) = some false
  k_BadModulus_Full : PySem.W.kitOne K (.ref C_BadModulus) (.ref C_Full) = some false
  k_BadModulus_BadPlace : PySem.W.kitOne K (.ref C_BadModulus) (.ref C_BadPlace) = some false
  k_BadModulus_InvalidText : PySem.W.kitOne K (.ref C_BadModulus) (.ref C_InvalidText) = some false
  e_BadModulus_TradeError : PySem.W.exmOne K (.ref C_BadModulus) (.ref C_TradeError) = some true
  x_BadFacts : XOk K C_BadFacts a_BadFacts___init__
  xc_BadFacts : L2.ExcC K C_BadFacts
  kv_BadFacts : PySem.W.kitOne K (.ref C_BadFacts) (.type "ValueError") = some true
  k_BadFacts_BadLetters : PySem.W.kitOne K (.ref C_BadFacts) (.ref C_BadLetters) = some false
  k_BadFacts_BadPairs : PySem.W.kitOne K (.ref C_BadFacts) (.ref C_BadPairs) = some false
  k_BadFacts_BadTrade : PySem.W.kitOne K (.ref C_BadFacts) (.ref C_BadTrade) = some false
  k_BadFacts_BadRow : PySem.W.kitOne K (.ref C_BadFacts) (.ref C_BadRow) = some false
  k_BadFacts_BadNumber : PySem.W.kitOne K (.ref C_BadFacts) (.ref C_BadNumber) = some false
  k_BadFacts_TooLong : PySem.W.kitOne K (.ref C_BadFacts) (.ref C_TooLong) = some false
  k_BadFacts_BadLength : PySem.W.kitOne K (.ref C_BadFacts) (.ref C_BadLength) = some false
  k_BadFacts_BadModulus : PySem.W.kitOne K (.ref C_BadFacts) (.ref C_BadModulus) = some false
  k_BadFacts_BadFacts : PySem.W.kitOne K (.ref C_BadFacts) (.ref C_BadFacts) = some true
  k_BadFacts_BadLetter : PySem.W.kitOne K (.ref C_BadFacts) (.ref C_BadLetter) = some false
  k_BadFacts_Full : PySem.W.kitOne K (.ref C_BadFacts) (.ref C_Full) = some false
  k_BadFacts_BadPlace : PySem.W.kitOne K (.ref C_BadFacts) (.ref C_BadPlace) = some false
  k_BadFacts_InvalidText : PySem.W.kitOne K (.ref C_BadFacts) (.ref C_InvalidText) = some false
  e_BadFacts_TradeError : PySem.W.exmOne K (.ref C_BadFacts) (.ref C_TradeError) = some true
  x_BadLetter : XOk K C_BadLetter a_TradeError___init__
  xc_BadLetter : L2.ExcC K C_BadLetter
  kv_BadLetter : PySem.W.kitOne K (.ref C_BadLetter) (.type "ValueError") = some true
  k_BadLetter_BadLetters : PySem.W.kitOne K (.ref C_BadLetter) (.ref C_BadLetters) = some false
  k_BadLetter_BadPairs : PySem.W.kitOne K (.ref C_BadLetter) (.ref C_BadPairs) = some false
  k_BadLetter_BadTrade : PySem.W.kitOne K (.ref C_BadLetter) (.ref C_BadTrade) = some false
  k_BadLetter_BadRow : PySem.W.kitOne K (.ref C_BadLetter) (.ref C_BadRow) = some false
  k_BadLetter_BadNumber : PySem.W.kitOne K (.ref C_BadLetter) (.ref C_BadNumber) = some false
  k_BadLetter_TooLong : PySem.W.kitOne K (.ref C_BadLetter) (.ref C_TooLong) = some false
  k_BadLetter_BadLength : PySem.W.kitOne K (.ref C_BadLetter) (.ref C_BadLength) = some false
  k_BadLetter_BadModulus : PySem.W.kitOne K (.ref C_BadLetter) (.ref C_BadModulus) = some false
  k_BadLetter_BadFacts : PySem.W.kitOne K (.ref C_BadLetter) (.ref C_BadFacts) = some false
  k_BadLetter_BadLetter : PySem.W.kitOne K (.ref C_BadLetter) (.ref C_BadLetter) = some true
  k_BadLetter_Full : PySem.W.kitOne K (.ref C_BadLetter) (.ref C_Full) = some false
  k_BadLetter_BadPlace : PySem.W.kitOne K (.ref C_BadLetter) (.ref C_BadPlace) = some false
  k_BadLetter_InvalidText : PySem.W.kitOne K (.ref C_BadLetter) (.ref C_InvalidText) = some false
  e_BadLetter_TradeError : PySem.W.exmOne K (.ref C_BadLetter) (.ref C_TradeError) = some true
  x_Full : XOk K C_Full a_TradeError___init__
  xc_Full : L2.ExcC K C_Full
  kv_Full : PySem.W.kitOne K (.ref C_Full) (.type "ValueError") = some true
  k_Full_BadLetters : PySem.W.kitOne K (.ref C_Full) (.ref C_BadLetters) = some false
  k_Full_BadPairs : PySem.W.kitOne K (.ref C_Full) (.ref C_BadPairs) = some false
  k_Full_BadTrade : PySem.W.kitOne K (.ref C_Full) (.ref C_BadTrade) = some false
  k_Full_BadRow : PySem.W.kitOne K (.ref C_Full) (.ref C_BadRow) = some false
  k_Full_BadNumber : PySem.W.kitOne K (.ref C_Full) (.ref C_BadNumber) = some false
  k_Full_TooLong : PySem.W.kitOne K (.ref C_Full) (.ref C_TooLong) = some false
  k_Full_BadLength : PySem.W.kitOne K (.ref C_Full) (.ref C_BadLength) = some false
  k_Full_BadModulus : PySem.W.kitOne K (.ref C_Full) (.ref C_BadModulus) = some false
  k_Full_BadFacts : PySem.W.kitOne K (.ref C_Full) (.ref C_BadFacts) = some false
  k_Full_BadLetter : PySem.W.kitOne K (.ref C_Full) (.ref C_BadLetter) = some false
  k_Full_Full : PySem.W.kitOne K (.ref C_Full) (.ref C_Full) = some true
  k_Full_BadPlace : PySem.W.kitOne K (.ref C_Full) (.ref C_BadPlace) = some false
  k_Full_InvalidText : PySem.W.kitOne K (.ref C_Full) (.ref C_InvalidText) = some false
  e_Full_TradeError : PySem.W.exmOne K (.ref C_Full) (.ref C_TradeError) = some true
  x_BadPlace : XOk K C_BadPlace a_TradeError___init__
  xc_BadPlace : L2.ExcC K C_BadPlace
  kv_BadPlace : PySem.W.kitOne K (.ref C_BadPlace) (.type "ValueError") = some true
  k_BadPlace_BadLetters : PySem.W.kitOne K (.ref C_BadPlace) (.ref C_BadLetters) = some false
  k_BadPlace_BadPairs : PySem.W.kitOne K (.ref C_BadPlace) (.ref C_BadPairs) = some false
  k_BadPlace_BadTrade : PySem.W.kitOne K (.ref C_BadPlace) (.ref C_BadTrade) = some false
  k_BadPlace_BadRow : PySem.W.kitOne K (.ref C_BadPlace) (.ref C_BadRow) = some false
  k_BadPlace_BadNumber : PySem.W.kitOne K (.ref C_BadPlace) (.ref C_BadNumber) = some false
  k_BadPlace_TooLong : PySem.W.kitOne K (.ref C_BadPlace) (.ref C_TooLong) = some false
  k_BadPlace_BadLength : PySem.W.kitOne K (.ref C_BadPlace) (.ref C_BadLength) = some false
  k_BadPlace_BadModulus : PySem.W.kitOne K (.ref C_BadPlace) (.ref C_BadModulus) = some false
  k_BadPlace_BadFacts : PySem.W.kitOne K (.ref C_BadPlace) (.ref C_BadFacts) = some false
  k_BadPlace_BadLetter : PySem.W.kitOne K (.ref C_BadPlace) (.ref C_BadLetter) = some false
  k_BadPlace_Full : PySem.W.kitOne K (.ref C_BadPlace) (.ref C_Full) = some false
  k_BadPlace_BadPlace : PySem.W.kitOne K (.ref C_BadPlace) (.ref C_BadPlace) = some true
  k_BadPlace_InvalidText : PySem.W.kitOne K (.ref C_BadPlace) (.ref C_InvalidText) = some false
  e_BadPlace_TradeError : PySem.W.exmOne K (.ref C_BadPlace) (.ref C_TradeError) = some true
  x_InvalidText : XOk K C_InvalidText a_InvalidText___init__
  xc_InvalidText : L2.ExcC K C_InvalidText
  kv_InvalidText : PySem.W.kitOne K (.ref C_InvalidText) (.type "ValueError") = some true
  k_InvalidText_BadLetters : PySem.W.kitOne K (.ref C_InvalidText) (.ref C_BadLetters) = some false
  k_InvalidText_BadPairs : PySem.W.kitOne K (.ref C_InvalidText) (.ref C_BadPairs) = some false
  k_InvalidText_BadTrade : PySem.W.kitOne K (.ref C_InvalidText) (.ref C_BadTrade) = some false
  k_InvalidText_BadRow : PySem.W.kitOne K (.ref C_InvalidText) (.ref C_BadRow) = some false
  k_InvalidText_BadNumber : PySem.W.kitOne K (.ref C_InvalidText) (.ref C_BadNumber) = some false
  k_InvalidText_TooLong : PySem.W.kitOne K (.ref C_InvalidText) (.ref C_TooLong) = some false
  k_InvalidText_BadLength : PySem.W.kitOne K (.ref C_InvalidText) (.ref C_BadLength) = some false
  k_InvalidText_BadModulus : PySem.W.kitOne K (.ref C_InvalidText) (.ref C_BadModulus) = some false
  k_InvalidText_BadFacts : PySem.W.kitOne K (.ref C_InvalidText) (.ref C_BadFacts) = some false
  k_InvalidText_BadLetter : PySem.W.kitOne K (.ref C_InvalidText) (.ref C_BadLetter) = some false
  k_InvalidText_Full : PySem.W.kitOne K (.ref C_InvalidText) (.ref C_Full) = some false
  k_InvalidText_BadPlace : PySem.W.kitOne K (.ref C_InvalidText) (.ref C_BadPlace) = some false
  k_InvalidText_InvalidText : PySem.W.kitOne K (.ref C_InvalidText) (.ref C_InvalidText) = some true
  e_InvalidText_TradeError : PySem.W.exmOne K (.ref C_InvalidText) (.ref C_TradeError) = some true
  e_BadPairs : PySem.W.exmOne K (.ref C_BadPairs) (.ref C_BadPairs) = some true
  e_BadFacts_BadPairs : PySem.W.exmOne K (.ref C_BadFacts) (.ref C_BadPairs) = some false
  e_BadFacts : PySem.W.exmOne K (.ref C_BadFacts) (.ref C_BadFacts) = some true
  e_InvalidText : PySem.W.exmOne K (.ref C_InvalidText) (.ref C_InvalidText) = some true
  xf_InvalidText : XfC K C_InvalidText
  no_place : PySem.W.findIn K (.ref C_InvalidText) "place" = some none
  xf_BadPairs : XfC K C_BadPairs
  no_index_BadPairs : PySem.W.findIn K (.ref C_BadPairs) "index" = some none
  xf_BadFacts : XfC K C_BadFacts
  no_index_BadFacts : PySem.W.findIn K (.ref C_BadFacts) "index" = some none
  kt_NoneType : PySem.W.kitOne K (.type "NoneType") (.ref C_Trade) = some false
  kt_bool : PySem.W.kitOne K (.type "bool") (.ref C_Trade) = some false
  kt_int : PySem.W.kitOne K (.type "int") (.ref C_Trade) = some false
  kt_str : PySem.W.kitOne K (.type "str") (.ref C_Trade) = some false
  kt_list : PySem.W.kitOne K (.type "list") (.ref C_Trade) = some false
  cl_Line : Cls K C_Line
  no_trade : NoAttr K C_Line "_trade"
  no_rows : NoAttr K C_Line "_rows"
  mk_Line : Mk K C_Line a_Line___init__
  pr_row : Addr
  pr_least : Addr
  p_row : PropOf K C_Line "row" pr_row a_Line_row
  p_least : PropOf K C_Line "least" pr_least a_Line_least
  len_Line : PySem.W.findIn K (.ref C_Line) "__len__" = some (some (.ref a_Line___len__))
  lenT_Line : PySem.W.typeIn K (.ref a_Line___len__) = some (.type "function")
  me_Line_add : Meth K C_Line "add" a_Line_add
  me_Line_swap : Meth K C_Line "swap" a_Line_swap
  cl : Cls K C_Trade
  nl : NoAttr K C_Trade "_letters"
  np : NoAttr K C_Trade "_pairs"
  mk_Trade : Mk K C_Trade a_Trade___init__
  pr_l : Addr
  pr_p : Addr
  p_letters : PropOf K C_Trade "letters" pr_l a_Trade_letters
  p_pairs : PropOf K C_Trade "pairs" pr_p a_Trade_pairs
  ic : InsK K C_Trade
  eqf : PySem.W.findIn K (.ref C_Trade) "__eq__" = some (some (.ref a_Trade___eq__))
  eqi : PySem.W.isFn K (.ref a_Trade___eq__) = true
  nf : PySem.W.notFirst K C_Trade (.type "tuple") = true
local macro_rules
  | `(tactic| walk_at "sz") => `(tactic| first
    | omega
    | decide
    | (simp; omega)
    | (simp [iL, row, pairsD]; omega))
  | `(tactic| walk_at "ea") => `(tactic| first
    | (with_reducible exact ea_nil)
    | ((with_reducible apply ea_consL); (focus (walk_at "ev")); (focus (walk_at "ea")))
    | ((with_reducible apply ea_consS); (focus (walk_at "ev")); (focus (walk_at "ea")))
    | ((with_reducible apply ea_cons); (focus (walk_at "ev")); (focus (walk_at "ea")))
    | ((with_reducible apply ea_consN); (focus (walk_at "en")); (focus (walk_at "ea"))))
  | `(tactic| walk_at "ed") => `(tactic| first
    | (with_reducible exact ed_nil)
    | ((with_reducible apply ed_cons); (focus (walk_at "ev")); (focus (walk_at "ed"))))
  | `(tactic| walk_at "en") => `(tactic| first
    | ((with_reducible apply en_lst); (focus (walk_at "ed")); (focus (simp)))
    | ((with_reducible apply en_listT); (focus (walk_at "ev")))
    | ((with_reducible apply en_addL); (focus (walk_at "ev")); (focus (walk_at "en")); (focus (walk_at "sz")))
    | ((with_reducible apply en_addN); (focus (walk_at "en")); (focus (walk_at "en")); (focus (walk_at "sz")))
    | ((with_reducible apply en_slL); (focus (walk_at "ev")); (focus (walk_at "eo")); (focus (walk_at "eo"))))
  | `(tactic| walk_at "eo") => `(tactic| first
    | (with_reducible exact eo_none)
    | ((with_reducible apply eo_some); (focus (walk_at "ev"))))
  | `(tactic| walk_at "et") => `(tactic| first
    | (with_reducible exact et_yes)
    | ((with_reducible apply et_test); (focus (walk_at "ev")))
    | ((with_reducible apply et_B); (focus (walk_at "ev")))
    | ((with_reducible apply et_truB); (focus (walk_at "ev")))
    | ((with_reducible apply et_truT); (focus (walk_at "ev")))
    | ((with_reducible apply et_not); (focus (walk_at "et")))
    | ((with_reducible apply et_and); (focus (walk_at "et")); (focus (intro _; walk_at "et")))
    | ((with_reducible apply et_or); (focus (walk_at "et")); (focus (intro _; walk_at "et"))))
  | `(tactic| walk_at "var") => `(tactic| first
    | ((with_reducible apply ev_varD); (focus (assumption)); (focus (rfl)))
    | ((with_reducible apply ev_varL); (focus (assumption)); (focus (rfl)))
    | ((with_reducible apply ev_varS); (focus (assumption)); (focus (rfl)))
    | ((with_reducible apply ev_varT); (focus (assumption)); (focus (rfl)))
    | ((with_reducible apply ev_varH); (focus (assumption)); (focus (rfl)))
    | ((with_reducible apply ev_varZ); (focus (assumption)); (focus (rfl))))
  | `(tactic| walk_at "ev") => `(tactic| first
    | walk_at "var"
    | (with_reducible exact ev_int)
    | (with_reducible exact ev_bl)
    | (with_reducible exact ev_str)
    | (with_reducible exact ev_non)
    | ((with_reducible apply ev_letters); (focus (walk_at "ev")))
    | ((with_reducible apply ev_pairs); (focus (walk_at "ev")))
    | ((with_reducible apply ev_addI); (focus (walk_at "ev")); (focus (walk_at "ev")))
    | ((with_reducible apply ev_addT); (focus (walk_at "ev")); (focus (walk_at "ev")); (focus (walk_at "sz")))
    | ((with_reducible apply ev_i0); (focus (walk_at "ev")); (focus (walk_at "ev")); (focus (first | exact fun _ => .int _ | exact fun _ => .bl _)))
    | ((with_reducible apply ev_iC); (focus (walk_at "ev")); (focus (walk_at "ev")); (focus (first | assumption | walk_at "cond")); (focus (exact fun _ => .int _)))
    | ((with_reducible apply ev_chain); (focus (walk_at "ev")); (focus (walk_at "ev")); (focus (walk_at "ev")))
    | ((with_reducible apply ev_eqI); (focus (walk_at "ev")); (focus (walk_at "ev")))
    | ((with_reducible apply ev_neI); (focus (walk_at "ev")); (focus (walk_at "ev")))
    | ((with_reducible apply ev_eqR); (focus (walk_at "ev")); (focus (walk_at "ev")))
    | ((with_reducible apply ev_neR); (focus (walk_at "ev")); (focus (walk_at "ev")))
    | ((with_reducible apply ev_isN); (focus (walk_at "ev")))
    | ((with_reducible apply ev_notN); (focus (walk_at "ev")))
    | ((with_reducible apply ev_in2); (focus (walk_at "ev")); (focus (walk_at "ev")); (focus (walk_at "ev")))
    | ((with_reducible apply ev_inP); (focus (walk_at "ev")); (focus (walk_at "ev")))
    | ((with_reducible apply ev_tup); (focus (walk_at "ed")); (focus (simp)))
    | ((with_reducible apply ev_lenT); (focus (walk_at "ev")))
    | ((with_reducible apply ev_lenL); (focus (walk_at "ev")))
    | ((with_reducible apply ev_lenS); (focus (walk_at "ev")))
    | ((with_reducible apply ev_lenN); (focus (walk_at "en")))
    | ((with_reducible apply ev_max2); (focus (walk_at "ev")); (focus (walk_at "ev")))
    | ((with_reducible apply ev_min2); (focus (walk_at "ev")); (focus (walk_at "ev")))
    | ((with_reducible apply ev_int1); (focus (walk_at "ev")))
    | ((with_reducible apply ev_tupleL); (focus (walk_at "ev")))
    | ((with_reducible apply ev_tupleN); (focus (walk_at "en")))
    | ((with_reducible apply ev_countT); (focus (walk_at "ev")); (focus (walk_at "ev")))
    | ((with_reducible apply ev_andV); (focus (walk_at "ev")); (focus (intro _; walk_at "ev")))
    | ((with_reducible apply ev_orV); (focus (walk_at "ev")); (focus (intro _; walk_at "ev")))
    | ((with_reducible apply ev_notV); (focus (walk_at "ev"))))
section
variable {P : Program} {w : World} {K : PySem.W.Frag} {mg : Str → Option Value} {base : Heap}
theorem _root_.L2.Room.units65 {k : Nat} {A : Around} (r : Room k A) : A.units + 65 < cLine := by have := r.un; omega
def isWhole : PyData → Int → Int → Bool
  | .int k, lo, hi => decide (lo ≤ k) && decide (k ≤ hi)
  | _, _, _ => false
abbrev A_is_whole (as : List Ag) (d : PyData) : Prop := ∃ (x : PyData) (lo hi : Int), as = [.c (.d x), .c (.d (.int lo)), .c (.d (.int hi))] ∧ d = .bool (isWhole x lo hi)
theorem ok_is_whole (E : Nv K mg) : FnOk P w K mg base CX0 4 E.a_is_whole E.d_is_whole ["value", "low", "high"] (spC K E.C_Trade A_is_whole) := by
  refine E.F_is_whole.ok sc_is_whole (fun vs H Q _ h => ?_) (fun cdv A outer s H vs Q _ hr h => ?_)
  · obtain ⟨as, d, ha, ⟨_, _, _, rfl, _⟩, _⟩ := h
    exact ha.length
  · obtain ⟨as, d, ha, ⟨x, lo, hi, rfl, rfl⟩, q⟩ := h
    obtain ⟨v1, v2, v3, rfl, a1, a2, a3⟩ := ha.three
    refine ⟨_, (pss_cons (ps_if (PW.pt (pw_or (pt_truK K (pe_callB (call_isiK K) (by rfl) E.n_isinstance (by decide +kernel) (pa_cons (pv 0) (pa_cons (pe_bltn (v := .ty "bool") (by rfl) E.n_bool (by decide +kernel) rfl) pa_nil))) (fun _ => rfl)) (pw_or1 (pt_not (pt_truK K (pe_callB (call_isiK K) (by rfl) E.n_isinstance (by decide +kernel) (pa_cons (pv 0) (pa_cons (pe_bltn (v := .ty "int") (by rfl) E.n_int (by decide +kernel) rfl) pa_nil))) (fun _ => rfl)))))) (pss_one (ps_ret pe_bl)) pss_nil)
      (pss_one (ps_ret (pe_chain op_le op_le (pv 1) (pv 0) (pv 2))))), ?_⟩
    have w : Wd K E.C_Trade [] [] H H _ [.d x, .d (.int lo), .d (.int hi)] := Wd.start3 (N := N_is_whole) a1 a2 a3
    by_cases hx : ∃ k, x = .int k
    · obtain ⟨k, rfl⟩ := hx
      refine s_when w (b := false) (et_cast (et_or (et_truB (ev_isiI (b := false) (ev_var w rfl) (by decide +kernel))) (fun _ => et_not (et_truB (ev_isiI (b := true) (ev_var w rfl) (by decide +kernel))))) rfl) (fun z => by cases z) (fun _ H1 w1 => ?_)
      exact s_retQ w1 (d := .bool (decide (lo ≤ k) && decide (k ≤ hi))) q (by walk_at "ev")
    · have key : ∃ b1 b2 : Bool, kitB (tyName x) "bool" = some b1 ∧ kitB (tyName x) "int" = some b2 ∧ (b1 || !b2) = true ∧ isWhole x lo hi = false := by
        cases x with
        | int k => exact absurd ⟨k, rfl⟩ hx
        | none => exact ⟨false, false, by show kitB "NoneType" "bool" = _; decide +kernel, by show kitB "NoneType" "int" = _; decide +kernel, rfl, rfl⟩
        | bool b => exact ⟨true, true, by show kitB "bool" "bool" = _; decide +kernel, by show kitB "bool" "int" = _; decide +kernel, rfl, rfl⟩
        | str z => exact ⟨false, false, by show kitB "str" "bool" = _; decide +kernel, by show kitB "str" "int" = _; decide +kernel, rfl, rfl⟩
        | list z => exact ⟨false, false, by show kitB "list" "bool" = _; decide +kernel, by show kitB "list" "int" = _; decide +kernel, rfl, rfl⟩
        | tuple z => exact ⟨false, false, by show kitB "tuple" "bool" = _; decide +kernel, by show kitB "tuple" "int" = _; decide +kernel, rfl, rfl⟩
        | dict z => cases (show Td K H v1 (.dict z) from a1)
      obtain ⟨b1, b2, h1, h2, h3, h4⟩ := key
      refine s_when w (b := true) (et_cast (et_or (et_truB (ev_isi (ev_var (i := 0) w rfl) h1)) (fun _ => et_not (et_truB (ev_isi (ev_var (i := 0) w rfl) h2)))) h3) (fun _ H1 w1 => ?_) (fun z => by cases z)
      rw [h4] at q
      exact s_retQ w1 q ev_bl
abbrev A_is_letter (as : List Ag) (d : PyData) : Prop := ∃ (n : Int) (x : PyData), as = [.c (.d (.int n)), .c (.d x)] ∧ d = .bool (isWhole x 0 (n - 1))
theorem ok_Trade_letters (E : Nv K mg) : FnOk P w K mg base CX0 1 E.a_Trade_letters E.d_Trade_letters ["self"] (getSp E.C_Trade "_letters") := by
  obtain ⟨oc, od, kV, doc, pm, an, cdv, ct, osl, e, lk, hcd⟩ := E.F_Trade_letters.ex
  rw [e] at lk ⊢
  exact fn_getter lk hcd sc_Trade_letters rfl rfl E.cl E.nl
theorem ok_Trade_pairs (E : Nv K mg) : FnOk P w K mg base CX0 1 E.a_Trade_pairs E.d_Trade_pairs ["self"] (getSp E.C_Trade "_pairs") := by
  obtain ⟨oc, od, kV, doc, pm, an, cdv, ct, osl, e, lk, hcd⟩ := E.F_Trade_pairs.ex
  rw [e] at lk ⊢
  exact fn_getter lk hcd sc_Trade_pairs rfl rfl E.cl E.np
theorem ok_is_letter (E : Nv K mg) : FnOk P w K mg base CX0 8 E.a_is_letter E.d_is_letter ["letters", "value"] (spC K E.C_Trade A_is_letter) := by
  refine E.F_is_letter.ok sc_is_letter (fun vs H Q _ h => ?_) (fun cdv A outer s H vs Q _ hr h => ?_)
  · obtain ⟨as, d, ha, ⟨_, _, rfl, _⟩, _⟩ := h
    exact ha.length
  · obtain ⟨as, d, ha, ⟨n, x, rfl, rfl⟩, q⟩ := h
    obtain ⟨v1, v2, rfl, a1, a2⟩ := ha.two
    refine ⟨_, (pss_one (ps_ret (pe_call (ok_is_whole E) (hr.mono (by first | decide | omega)) (by rfl) E.m_is_whole E.F_is_whole.kp E.b_is_whole .nil pass0 (pa_cons (pv 1) (pa_cons pe_int (pa_cons (pe_op op_sub (pv 0) pe_int) pa_nil)))))), ?_⟩
    have w : Wd K E.C_Trade [] [] H H _ [.d (.int n), .d x] := Wd.start2 (N := N_is_letter) a1 a2
    exact s_retQ w q (ev_call (by walk_at "ea") ⟨_, _, _, rfl, rfl⟩)
abbrev may (ps : List (Int × Int)) (a b : Int) : Bool := decide ((min a b, max a b) ∈ ps)
abbrev A_may_change (as : List Ag) (d : PyData) : Prop := ∃ (n : Int) (ps : List (Int × Int)) (a b : Int), as = [.c (.t n ps), .c (.d (.int a)), .c (.d (.int b))] ∧ d = .bool (may ps a b)
theorem ok_may_change (E : Nv K mg) : FnOk P w K mg base CX0 8 E.a_may_change E.d_may_change ["trade", "one", "other"] (spC K E.C_Trade A_may_change) := by
  refine E.F_may_change.ok sc_may_change (fun vs H Q _ h => ?_) (fun cdv A outer s H vs Q _ hr h => ?_)
  · obtain ⟨as, d, ha, ⟨_, _, _, _, rfl, _⟩, _⟩ := h
    exact ha.length
  · obtain ⟨as, d, ha, ⟨n, ps, a, b, rfl, rfl⟩, q⟩ := h
    obtain ⟨v1, v2, v3, rfl, a1, a2, a3⟩ := ha.three
    refine ⟨_, (pss_one (ps_ret (pe_cmpR (op_inTK K hr.units65) (pe_tupF (pa_cons (pe_callB (call_min2' rfl) (by rfl) E.n_min (by decide +kernel) (pa_cons (pv 1) (pa_cons (pv 2) pa_nil))) (pa_cons (pe_callB (call_max2' rfl) (by rfl) E.n_max (by decide +kernel) (pa_cons (pv 1) (pa_cons (pv 2) pa_nil))) pa_nil))) (pe_prop (pv 0) E.cl E.p_pairs (ok_Trade_pairs E) (hr.mono (by first | decide | omega)) E.b_Trade_pairs .nil pass0 rfl) (by with_unfolding_all rfl)))), ?_⟩
    have w : Wd K E.C_Trade [] [] H H _ [.t n ps, .d (.int a), .d (.int b)] := Wd.start3 (N := N_may_change) a1 a2 a3
    exact s_retQ w q (by walk_at "ev")
end
end K1
set_option maxRecDepth 10000000
namespace K1
open PySem PySem.Spec PyProof.Rows L2 Pt
local macro_rules
  | `(tactic| walk_at "sz") => `(tactic| first
    | omega
    | decide
    | (simp; omega)
    | (simp [iL, row, pairsD]; omega))
  | `(tactic| walk_at "ea") => `(tactic| first
    | (with_reducible exact ea_nil)
    | ((with_reducible apply ea_consL); (focus (walk_at "ev")); (focus (walk_at "ea")))
    | ((with_reducible apply ea_consS); (focus (walk_at "ev")); (focus (walk_at "ea")))
    | ((with_reducible apply ea_cons); (focus (walk_at "ev")); (focus (walk_at "ea")))
    | ((with_reducible apply ea_consN); (focus (walk_at "en")); (focus (walk_at "ea"))))
  | `(tactic| walk_at "ed") => `(tactic| first
    | (with_reducible exact ed_nil)
    | ((with_reducible apply ed_cons); (focus (walk_at "ev")); (focus (walk_at "ed"))))
  | `(tactic| walk_at "en") => `(tactic| first
    | ((with_reducible apply en_lst); (focus (walk_at "ed")); (focus (simp)))
    | ((with_reducible apply en_listT); (focus (walk_at "ev")))
    | ((with_reducible apply en_addL); (focus (walk_at "ev")); (focus (walk_at "en")); (focus (walk_at "sz")))
    | ((with_reducible apply en_addN); (focus (walk_at "en")); (focus (walk_at "en")); (focus (walk_at "sz")))
    | ((with_reducible apply en_slL); (focus (walk_at "ev")); (focus (walk_at "eo")); (focus (walk_at "eo"))))
  | `(tactic| walk_at "eo") => `(tactic| first
    | (with_reducible exact eo_none)
    | ((with_reducible apply eo_some); (focus (walk_at "ev"))))
  | `(tactic| walk_at "et") => `(tactic| first
    | (with_reducible exact et_yes)
    | ((with_reducible apply et_test); (focus (walk_at "ev")))
    | ((with_reducible apply et_B); (focus (walk_at "ev")))
    | ((with_reducible apply et_truB); (focus (walk_at "ev")))
    | ((with_reducible apply et_truT); (focus (walk_at "ev")))
    | ((with_reducible apply et_not); (focus (walk_at "et")))
    | ((with_reducible apply et_and); (focus (walk_at "et")); (focus (intro _; walk_at "et")))
    | ((with_reducible apply et_or); (focus (walk_at "et")); (focus (intro _; walk_at "et"))))
  | `(tactic| walk_at "var") => `(tactic| first
    | ((with_reducible apply ev_varD); (focus (assumption)); (focus (rfl)))
    | ((with_reducible apply ev_varL); (focus (assumption)); (focus (rfl)))
    | ((with_reducible apply ev_varS); (focus (assumption)); (focus (rfl)))
    | ((with_reducible apply ev_varT); (focus (assumption)); (focus (rfl)))
    | ((with_reducible apply ev_varH); (focus (assumption)); (focus (rfl)))
    | ((with_reducible apply ev_varZ); (focus (assumption)); (focus (rfl))))
  | `(tactic| walk_at "ev") => `(tactic| first
    | walk_at "var"
    | (with_reducible exact ev_int)
    | (with_reducible exact ev_bl)
    | (with_reducible exact ev_str)
    | (with_reducible exact ev_non)
    | ((with_reducible apply ev_letters); (focus (walk_at "ev")))
    | ((with_reducible apply ev_pairs); (focus (walk_at "ev")))
    | ((with_reducible apply ev_addI); (focus (walk_at "ev")); (focus (walk_at "ev")))
    | ((with_reducible apply ev_addT); (focus (walk_at "ev")); (focus (walk_at "ev")); (focus (walk_at "sz")))
    | ((with_reducible apply ev_i0); (focus (walk_at "ev")); (focus (walk_at "ev")); (focus (first | exact fun _ => .int _ | exact fun _ => .bl _)))
    | ((with_reducible apply ev_iC); (focus (walk_at "ev")); (focus (walk_at "ev")); (focus (first | assumption | walk_at "cond")); (focus (exact fun _ => .int _)))
    | ((with_reducible apply ev_chain); (focus (walk_at "ev")); (focus (walk_at "ev")); (focus (walk_at "ev")))
    | ((with_reducible apply ev_eqI); (focus (walk_at "ev")); (focus (walk_at "ev")))
    | ((with_reducible apply ev_neI); (focus (walk_at "ev")); (focus (walk_at "ev")))
    | ((with_reducible apply ev_eqR); (focus (walk_at "ev")); (focus (walk_at "ev")))
    | ((with_reducible apply ev_neR); (focus (walk_at "ev")); (focus (walk_at "ev")))
    | ((with_reducible apply ev_isN); (focus (walk_at "ev")))
    | ((with_reducible apply ev_notN); (focus (walk_at "ev")))
    | ((with_reducible apply ev_in2); (focus (walk_at "ev")); (focus (walk_at "ev")); (focus (walk_at "ev")))
    | ((with_reducible apply ev_inP); (focus (walk_at "ev")); (focus (walk_at "ev")))
    | ((with_reducible apply ev_tup); (focus (walk_at "ed")); (focus (simp)))
    | ((with_reducible apply ev_lenT); (focus (walk_at "ev")))
    | ((with_reducible apply ev_lenL); (focus (walk_at "ev")))
    | ((with_reducible apply ev_lenS); (focus (walk_at "ev")))
    | ((with_reducible apply ev_lenN); (focus (walk_at "en")))
    | ((with_reducible apply ev_max2); (focus (walk_at "ev")); (focus (walk_at "ev")))
    | ((with_reducible apply ev_min2); (focus (walk_at "ev")); (focus (walk_at "ev")))
    | ((with_reducible apply ev_int1); (focus (walk_at "ev")))
    | ((with_reducible apply ev_tupleL); (focus (walk_at "ev")))
    | ((with_reducible apply ev_tupleN); (focus (walk_at "en")))
    | ((with_reducible apply ev_countT); (focus (walk_at "ev")); (focus (walk_at "ev")))
    | ((with_reducible apply ev_andV); (focus (walk_at "ev")); (focus (intro _; walk_at "ev")))
    | ((with_reducible apply ev_orV); (focus (walk_at "ev")); (focus (intro _; walk_at "ev")))
    | ((with_reducible apply ev_notV); (focus (walk_at "ev"))))
section
variable {P : Program} {w : World} {K : PySem.W.Frag} {mg : Str → Option Value} {base : Heap}
end
end K1
set_option maxRecDepth 10000000
namespace K1
open PySem PySem.Spec PyProof.Rows L2 Pt
local macro_rules
  | `(tactic| walk_at "sz") => `(tactic| first
    | omega
    | decide
    | (simp; omega)
    | (simp [iL, row, pairsD]; omega))
  | `(tactic| walk_at "ea") => `(tactic| first
    | (with_reducible exact ea_nil)
    | ((with_reducible apply ea_consL); (focus (walk_at "ev")); (focus (walk_at "ea")))
    | ((with_reducible apply ea_consS); (focus (walk_at "ev")); (focus (walk_at "ea")))
    | ((with_reducible apply ea_cons); (focus (walk_at "ev")); (focus (walk_at "ea")))
    | ((with_reducible apply ea_consN); (focus (walk_at "en")); (focus (walk_at "ea"))))
  | `(tactic| walk_at "ed") => `(tactic| first
    | (with_reducible exact ed_nil)
    | ((with_reducible apply ed_cons); (focus (walk_at "ev")); (focus (walk_at "ed"))))
  | `(tactic| walk_at "en") => `(tactic| first
    | ((with_reducible apply en_lst); (focus (walk_at "ed")); (focus (simp)))
    | ((with_reducible apply en_listT); (focus (walk_at "ev")))
    | ((with_reducible apply en_addL); (focus (walk_at "ev")); (focus (walk_at "en")); (focus (walk_at "sz")))
    | ((with_reducible apply en_addN); (focus (walk_at "en")); (focus (walk_at "en")); (focus (walk_at "sz")))
    | ((with_reducible apply en_slL); (focus (walk_at "ev")); (focus (walk_at "eo")); (focus (walk_at "eo"))))
  | `(tactic| walk_at "eo") => `(tactic| first
    | (with_reducible exact eo_none)
    | ((with_reducible apply eo_some); (focus (walk_at "ev"))))
  | `(tactic| walk_at "et") => `(tactic| first
    | (with_reducible exact et_yes)
    | ((with_reducible apply et_test); (focus (walk_at "ev")))
    | ((with_reducible apply et_B); (focus (walk_at "ev")))
    | ((with_reducible apply et_truB); (focus (walk_at "ev")))
    | ((with_reducible apply et_truT); (focus (walk_at "ev")))
    | ((with_reducible apply et_not); (focus (walk_at "et")))
    | ((with_reducible apply et_and); (focus (walk_at "et")); (focus (intro _; walk_at "et")))
    | ((with_reducible apply et_or); (focus (walk_at "et")); (focus (intro _; walk_at "et"))))
  | `(tactic| walk_at "var") => `(tactic| first
    | ((with_reducible apply ev_varD); (focus (assumption)); (focus (rfl)))
    | ((with_reducible apply ev_varL); (focus (assumption)); (focus (rfl)))
    | ((with_reducible apply ev_varS); (focus (assumption)); (focus (rfl)))
    | ((with_reducible apply ev_varT); (focus (assumption)); (focus (rfl)))
    | ((with_reducible apply ev_varH); (focus (assumption)); (focus (rfl)))
    | ((with_reducible apply ev_varZ); (focus (assumption)); (focus (rfl))))
  | `(tactic| walk_at "ev") => `(tactic| first
    | walk_at "var"
    | (with_reducible exact ev_int)
    | (with_reducible exact ev_bl)
    | (with_reducible exact ev_str)
    | (with_reducible exact ev_non)
    | ((with_reducible apply ev_letters); (focus (walk_at "ev")))
    | ((with_reducible apply ev_pairs); (focus (walk_at "ev")))
    | ((with_reducible apply ev_addI); (focus (walk_at "ev")); (focus (walk_at "ev")))
    | ((with_reducible apply ev_addT); (focus (walk_at "ev")); (focus (walk_at "ev")); (focus (walk_at "sz")))
    | ((with_reducible apply ev_i0); (focus (walk_at "ev")); (focus (walk_at "ev")); (focus (first | exact fun _ => .int _ | exact fun _ => .bl _)))
    | ((with_reducible apply ev_iC); (focus (walk_at "ev")); (focus (walk_at "ev")); (focus (first | assumption | walk_at "cond")); (focus (exact fun _ => .int _)))
    | ((with_reducible apply ev_chain); (focus (walk_at "ev")); (focus (walk_at "ev")); (focus (walk_at "ev")))
    | ((with_reducible apply ev_eqI); (focus (walk_at "ev")); (focus (walk_at "ev")))
    | ((with_reducible apply ev_neI); (focus (walk_at "ev")); (focus (walk_at "ev")))
    | ((with_reducible apply ev_eqR); (focus (walk_at "ev")); (focus (walk_at "ev")))
    | ((with_reducible apply ev_neR); (focus (walk_at "ev")); (focus (walk_at "ev")))
    | ((with_reducible apply ev_isN); (focus (walk_at "ev")))
    | ((with_reducible apply ev_notN); (focus (walk_at "ev")))
    | ((with_reducible apply ev_in2); (focus (walk_at "ev")); (focus (walk_at "ev")); (focus (walk_at "ev")))
    | ((with_reducible apply ev_inP); (focus (walk_at "ev")); (focus (walk_at "ev")))
    | ((with_reducible apply ev_tup); (focus (walk_at "ed")); (focus (simp)))
    | ((with_reducible apply ev_lenT); (focus (walk_at "ev")))
    | ((with_reducible apply ev_lenL); (focus (walk_at "ev")))
    | ((with_reducible apply ev_lenS); (focus (walk_at "ev")))
    | ((with_reducible apply ev_lenN); (focus (walk_at "en")))
    | ((with_reducible apply ev_max2); (focus (walk_at "ev")); (focus (walk_at "ev")))
    | ((with_reducible apply ev_min2); (focus (walk_at "ev")); (focus (walk_at "ev")))
    | ((with_reducible apply ev_int1); (focus (walk_at "ev")))
    | ((with_reducible apply ev_tupleL); (focus (walk_at "ev")))
    | ((with_reducible apply ev_tupleN); (focus (walk_at "en")))
    | ((with_reducible apply ev_countT); (focus (walk_at "ev")); (focus (walk_at "ev")))
    | ((with_reducible apply ev_andV); (focus (walk_at "ev")); (focus (intro _; walk_at "ev")))
    | ((with_reducible apply ev_orV); (focus (walk_at "ev")); (focus (intro _; walk_at "ev")))
    | ((with_reducible apply ev_notV); (focus (walk_at "ev"))))
section
variable {P : Program} {w : World} {K : PySem.W.Frag} {mg : Str → Option Value} {base : Heap}
abbrev A_check_trade (as : List Ag) (d : PyData) : Prop := ∃ (n : Int) (ps : List (Int × Int)), as = [.c (.t n ps)] ∧ d = .none
theorem ok_check_trade (E : Nv K mg) : FnOk P w K mg base CX0 4 E.a_check_trade E.d_check_trade ["trade"] (spC K E.C_Trade A_check_trade) := by
  refine E.F_check_trade.ok sc_check_trade (fun vs H Q _ h => ?_) (fun cdv A outer s H vs Q _ hr h => ?_)
  · obtain ⟨as, d, ha, ⟨_, _, rfl, _⟩, _⟩ := h
    exact ha.length
  · obtain ⟨as, d, ha, ⟨n, ps, rfl, rfl⟩, q⟩ := h
    obtain ⟨v1, rfl, a1⟩ := ha.one
    refine ⟨_, (pss_one (ps_if (pt_not (pt_truK K (pe_callB (call_isiK K) (by rfl) E.n_isinstance (by decide +kernel) (pa_cons (pv 0) (pa_cons (pe_glob (v := .ref E.C_Trade) (by rfl) E.m_Trade rfl) pa_nil))) (fun _ => rfl))) (pss_one ps_never) pss_nil)), ?_⟩
    have w : Wd K E.C_Trade [] [] H H _ [.t n ps] := Wd.start1 (N := N_check_trade) a1
    refine s_if w (b := false) (et_cast (et_not (et_truB (ev_isiTr E.ic (ev_var w rfl)))) rfl) (fun z => by cases z) (fun _ H1 w1 => ?_)
    exact s_next (q .non H1 w1.fr0 .non)
def rowOk (n : Int) (l : List Int) : Prop := l.length ≤ 20 ∧ ∀ x ∈ l, 0 ≤ x ∧ x < n
def inR (n a : Int) : Bool := decide (0 ≤ a) && decide (a ≤ n - 1)
end
end K1
set_option maxRecDepth 10000000
namespace K1
open PySem PySem.Spec PyProof.Rows L2 Pt
local macro_rules
  | `(tactic| walk_at "sz") => `(tactic| first
    | omega
    | decide
    | (simp; omega)
    | (simp [iL, row, pairsD]; omega))
  | `(tactic| walk_at "ea") => `(tactic| first
    | (with_reducible exact ea_nil)
    | ((with_reducible apply ea_consL); (focus (walk_at "ev")); (focus (walk_at "ea")))
    | ((with_reducible apply ea_consS); (focus (walk_at "ev")); (focus (walk_at "ea")))
    | ((with_reducible apply ea_cons); (focus (walk_at "ev")); (focus (walk_at "ea")))
    | ((with_reducible apply ea_consN); (focus (walk_at "en")); (focus (walk_at "ea"))))
  | `(tactic| walk_at "ed") => `(tactic| first
    | (with_reducible exact ed_nil)
    | ((with_reducible apply ed_cons); (focus (walk_at "ev")); (focus (walk_at "ed"))))
  | `(tactic| walk_at "en") => `(tactic| first
    | ((with_reducible apply en_lst); (focus (walk_at "ed")); (focus (simp)))
    | ((with_reducible apply en_listT); (focus (walk_at "ev")))
    | ((with_reducible apply en_addL); (focus (walk_at "ev")); (focus (walk_at "en")); (focus (walk_at "sz")))
    | ((with_reducible apply en_addN); (focus (walk_at "en")); (focus (walk_at "en")); (focus (walk_at "sz")))
    | ((with_reducible apply en_slL); (focus (walk_at "ev")); (focus (walk_at "eo")); (focus (walk_at "eo"))))
  | `(tactic| walk_at "eo") => `(tactic| first
    | (with_reducible exact eo_none)
    | ((with_reducible apply eo_some); (focus (walk_at "ev"))))
  | `(tactic| walk_at "et") => `(tactic| first
    | (with_reducible exact et_yes)
    | ((with_reducible apply et_test); (focus (walk_at "ev")))
    | ((with_reducible apply et_B); (focus (walk_at "ev")))
    | ((with_reducible apply et_truB); (focus (walk_at "ev")))
    | ((with_reducible apply et_truT); (focus (walk_at "ev")))
    | ((with_reducible apply et_not); (focus (walk_at "et")))
    | ((with_reducible apply et_and); (focus (walk_at "et")); (focus (intro _; walk_at "et")))
    | ((with_reducible apply et_or); (focus (walk_at "et")); (focus (intro _; walk_at "et"))))
  | `(tactic| walk_at "var") => `(tactic| first
    | ((with_reducible apply ev_varD); (focus (assumption)); (focus (rfl)))
    | ((with_reducible apply ev_varL); (focus (assumption)); (focus (rfl)))
    | ((with_reducible apply ev_varS); (focus (assumption)); (focus (rfl)))
    | ((with_reducible apply ev_varT); (focus (assumption)); (focus (rfl)))
    | ((with_reducible apply ev_varH); (focus (assumption)); (focus (rfl)))
    | ((with_reducible apply ev_varZ); (focus (assumption)); (focus (rfl))))
  | `(tactic| walk_at "ev") => `(tactic| first
    | walk_at "var"
    | (with_reducible exact ev_int)
    | (with_reducible exact ev_bl)
    | (with_reducible exact ev_str)
    | (with_reducible exact ev_non)
    | ((with_reducible apply ev_letters); (focus (walk_at "ev")))
    | ((with_reducible apply ev_pairs); (focus (walk_at "ev")))
    | ((with_reducible apply ev_addI); (focus (walk_at "ev")); (focus (walk_at "ev")))
    | ((with_reducible apply ev_addT); (focus (walk_at "ev")); (focus (walk_at "ev")); (focus (walk_at "sz")))
    | ((with_reducible apply ev_i0); (focus (walk_at "ev")); (focus (walk_at "ev")); (focus (first | exact fun _ => .int _ | exact fun _ => .bl _)))
    | ((with_reducible apply ev_iC); (focus (walk_at "ev")); (focus (walk_at "ev")); (focus (first | assumption | walk_at "cond")); (focus (exact fun _ => .int _)))
    | ((with_reducible apply ev_chain); (focus (walk_at "ev")); (focus (walk_at "ev")); (focus (walk_at "ev")))
    | ((with_reducible apply ev_eqI); (focus (walk_at "ev")); (focus (walk_at "ev")))
    | ((with_reducible apply ev_neI); (focus (walk_at "ev")); (focus (walk_at "ev")))
    | ((with_reducible apply ev_eqR); (focus (walk_at "ev")); (focus (walk_at "ev")))
    | ((with_reducible apply ev_neR); (focus (walk_at "ev")); (focus (walk_at "ev")))
    | ((with_reducible apply ev_isN); (focus (walk_at "ev")))
    | ((with_reducible apply ev_notN); (focus (walk_at "ev")))
    | ((with_reducible apply ev_in2); (focus (walk_at "ev")); (focus (walk_at "ev")); (focus (walk_at "ev")))
    | ((with_reducible apply ev_inP); (focus (walk_at "ev")); (focus (walk_at "ev")))
    | ((with_reducible apply ev_tup); (focus (walk_at "ed")); (focus (simp)))
    | ((with_reducible apply ev_lenT); (focus (walk_at "ev")))
    | ((with_reducible apply ev_lenL); (focus (walk_at "ev")))
    | ((with_reducible apply ev_lenS); (focus (walk_at "ev")))
    | ((with_reducible apply ev_lenN); (focus (walk_at "en")))
    | ((with_reducible apply ev_max2); (focus (walk_at "ev")); (focus (walk_at "ev")))
    | ((with_reducible apply ev_min2); (focus (walk_at "ev")); (focus (walk_at "ev")))
    | ((with_reducible apply ev_int1); (focus (walk_at "ev")))
    | ((with_reducible apply ev_tupleL); (focus (walk_at "ev")))
    | ((with_reducible apply ev_tupleN); (focus (walk_at "en")))
    | ((with_reducible apply ev_countT); (focus (walk_at "ev")); (focus (walk_at "ev")))
    | ((with_reducible apply ev_andV); (focus (walk_at "ev")); (focus (intro _; walk_at "ev")))
    | ((with_reducible apply ev_orV); (focus (walk_at "ev")); (focus (intro _; walk_at "ev")))
    | ((with_reducible apply ev_notV); (focus (walk_at "ev"))))
section
variable {P : Program} {w : World} {K : PySem.W.Frag} {mg : Str → Option Value} {base : Heap}
abbrev A_is_pair (as : List Ag) (d : PyData) : Prop := ∃ (n a b : Int), as = [.c (.d (.int n)), .c (.d (row [a, b]))] ∧ d = .bool ([a, b].all (inR n) && decide (a < b))
theorem ok_is_pair (E : Nv K mg) : FnOk P w K mg base CX0 12 E.a_is_pair E.d_is_pair ["letters", "value"] (spC K E.C_Trade A_is_pair) := by
  refine E.F_is_pair.ok sc_is_pair (fun vs H Q _ h => ?_) (fun cdv A outer s H vs Q _ hr h => ?_)
  · obtain ⟨as, d, ha, ⟨_, _, _, rfl, _⟩, _⟩ := h
    exact ha.length
  · obtain ⟨as, d, ha, ⟨n, a, b, rfl, rfl⟩, q⟩ := h
    obtain ⟨v1, v2, rfl, a1, a2⟩ := ha.two
    refine ⟨_, (pss_cons (ps_if (PW.pt (pw_or (pt_not (pt_truK K (pe_callB (call_isiK K) (by rfl) E.n_isinstance (by decide +kernel) (pa_cons (pv 1) (pa_cons (pe_bltn (v := .ty "tuple") (by rfl) E.n_tuple (by decide +kernel) rfl) pa_nil))) (fun _ => rfl))) (pw_or1 (pt_cmpR (op_neK K hr.units) (pe_callB (call_lenK K) (by rfl) E.n_len (by decide +kernel) (pa_cons (pv 1) pa_nil)) pe_int (nomark _))))) (pss_one (ps_ret pe_bl)) pss_nil)
      (pss_cons (ps_if (pt_not (pt_truK K (pe_callB (call_allK K rfl) (by rfl) E.n_all (by decide +kernel) (pa_cons (pe_lc (own := [("letter", 2)]) (g := gName 2) (by rfl) sc_is_pair.nd (pi_tupK K (pv 1)) (blkOk_by (own := [("letter", 2)]) (N := N_is_pair) (sc := defScope s_is_pair) (by decide +kernel)) (fun _ _ _ _ _ => (pg_name (i := 2) sc_is_pair.nd rfl (Or.inl rfl))) (fun _ _ _ _ _ => pts_nil) (fun _ _ _ _ _ => (pe_call (ok_is_letter E) (hr.mono (by first | decide | omega)) (by rfl) E.m_is_letter E.F_is_letter.kp E.b_is_letter .nil pass0 (pa_cons (pv 0) (pa_cons (pv 2) pa_nil))))) pa_nil)) (fun _ => rfl))) (pss_one (ps_ret pe_bl)) pss_nil)
      (pss_one (ps_ret (pe_cmpR (op_lt) (pe_ix (ix_K K) (pv 1) pe_int (fun _ _ => rfl)) (pe_ix (ix_K K) (pv 1) pe_int (fun _ _ => rfl)) (nomark _)))))), ?_⟩
    have w : Wd K E.C_Trade [] [] H H _ [.d (.int n), .d (row [a, b]), .u] := Wd.start2 (N := N_is_pair) a1 a2
    refine s_when w (b := false) (et_cast (et_or (et_not (et_truB (ev_isiT (b := true) (ev_var w rfl) (by decide +kernel)))) (fun _ => et_test (ev_neI (ev_lenT (ev_var w rfl)) ev_int))) rfl) (fun z => by cases z) (fun _ H1 w1 => ?_)
    refine s_when w1 (b := !([a, b].all (inR n))) (et_not (et_truB (ev_allK (f := inR n) (l := [a, b]) (en_lcT (mk := PyData.int) w1 (ev_var w1 rfl) (fun _ => true) _ (by simp) (fun x _ σ1 H1 w1 => et_yes) (fun x _ σ1 H1 w1 _ => ev_call (by walk_at "ea") ⟨_, _, rfl, rfl⟩))))) (fun e H2 w2 => ?_) (fun e H2 w2 => ?_)
    · have z : [a, b].all (inR n) = false := by
        revert e
        cases [a, b].all (inR n) <;> intro e
        · rfl
        · cases e
      rw [z, Bool.false_and] at q
      exact s_retQ w2 q (by walk_at "ev")
    · have z : [a, b].all (inR n) = true := by
        revert e
        cases [a, b].all (inR n) <;> intro e
        · cases e
        · rfl
      rw [z, Bool.true_and] at q
      exact s_retQ w2 q (ev_i0 (ev_ixT (ev_var w2 rfl) ev_int (d := .int a) rfl) (ev_ixT (ev_var w2 rfl) ev_int (d := .int b) rfl) (fun _ => .bl _))
def ltP (p q : Int × Int) : Prop := p.1 < q.1 ∨ (p.1 = q.1 ∧ p.2 < q.2)
def PairsOk (n : Int) (ps : List (Int × Int)) : Prop := (∀ p ∈ ps, 0 ≤ p.1 ∧ p.1 < p.2 ∧ p.2 < n) ∧ ps.Pairwise ltP ∧ ps.length ≤ 1000
theorem lexAt2 (e r : Nat → Bool) (z : Bool) : Ob.lexAt e r z 0 2 = if e 0 = true then (if e 1 = true then z else r 1) else r 0 := rfl
theorem ev_leP {C : Addr} {H : Hp} {σ : L2.St} {ta tb : TE} {p q : Int × Int} (ha : EvC K C ta σ H (.d (Pt.pairD p))) (hb : EvC K C tb σ H (.d (Pt.pairD q))) (lt : ltP q p) : EvC K C (tOp (rLeT K) ta tb) σ H (.d (.bool false)) :=
  ev_op2 ha hb fun H1 _ x y a1 a2 Q k => by
    obtain ⟨a, xs, rfl, s, t⟩ := Td.tup_of a1
    obtain ⟨b, ys, rfl, s', t'⟩ := Td.tup_of a2
    have e1 : xs = [p.1, p.2].map V.int := TdAll.iL_of (l := [p.1, p.2]) t
    have e2 : ys = [q.1, q.2].map V.int := TdAll.iL_of (l := [q.1, q.2]) t'
    rw [e1] at s
    rw [e2] at s'
    refine ⟨a, b, [p.1, p.2], [q.1, q.2], rfl, rfl, s.sq, s'.sq, ?_⟩
    have z : Ob.lexAt (fun j => decide ([p.1, p.2].getD j 0 = [q.1, q.2].getD j 0)) (fun j => decide ([p.1, p.2].getD j 0 ≤ [q.1, q.2].getD j 0)) (decide ([p.1, p.2].length ≤ [q.1, q.2].length)) 0 (min [p.1, p.2].length [q.1, q.2].length) = false := by
      show Ob.lexAt _ _ _ 0 2 = false
      rw [lexAt2]
      unfold ltP at lt
      simp only [List.getD_cons_zero, List.getD_cons_succ, decide_eq_true_eq]
      split
      · split
        · omega
        · simp
          omega
      · simp
        omega
    rw [z]
    exact k _ H1 (Same.refl H1) (.bl _)
abbrev A_check_pairs (as : List Ag) (d : PyData) : Prop := ∃ (n : Int) (ps : List (Int × Int)), PairsOk n ps ∧ as = [.c (.d (.int n)), .c (.d (pairsD ps))] ∧ d = .none
theorem ok_check_pairs (E : Nv K mg) : FnOk P w K mg base CX0 16 E.a_check_pairs E.d_check_pairs ["letters", "pairs"] (spC K E.C_Trade A_check_pairs) := by
  refine E.F_check_pairs.ok sc_check_pairs (fun vs H Q _ h => ?_) (fun cdv A outer s H vs Q _ hr h => ?_)
  · obtain ⟨as, d, ha, ⟨_, _, _, rfl, _⟩, _⟩ := h
    exact ha.length
  · obtain ⟨as, d, ha, ⟨n, ps, ⟨hin, hso, hle⟩, rfl, rfl⟩, q⟩ := h
    obtain ⟨v1, v2, rfl, a1, a2⟩ := ha.two
    refine ⟨_, (pss_cons (ps_if (pt_not (pt_truK K (pe_callB (call_isiK K) (by rfl) E.n_isinstance (by decide +kernel) (pa_cons (pv 1) (pa_cons (pe_bltn (v := .ty "tuple") (by rfl) E.n_tuple (by decide +kernel) rfl) pa_nil))) (fun _ => rfl))) (pss_one ps_never) pss_nil)
      (pss_one (ps_for PassesOwn.never rfl (pi_enumTK K (by rfl) E.n_enumerate (pa_cons (pv 1) pa_nil)) (pg_tupK K (n := 2) rfl (pgs_cons (pg_name (i := 2) sc_check_pairs.nd rfl (.inl rfl)) (pgs_cons (pg_name (i := 3) sc_check_pairs.nd rfl (.inl rfl)) pgs_nil)))
      (pss_cons (ps_if (pt_not (pt_truK K (pe_call (ok_is_pair E) (hr.mono (by first | decide | omega)) (by rfl) E.m_is_pair E.F_is_pair.kp E.b_is_pair .nil pass0 (pa_cons (pv 0) (pa_cons (pv 3) pa_nil))) (fun _ => rfl))) (pss_one ps_never) pss_nil)
      (pss_one (ps_if (PW.pt (pw_and (pt_cmpR (op_gt) (pv 2) pe_int (nomark _)) (pw_and1 (pt_cmpR (op_leTK K hr.units0) (pv 3) (pe_ix (ix_K K) (pv 1) (pe_op op_sub (pv 2) pe_int) (fun _ _ => rfl)) (nomark _))))) (pss_one ps_never) pss_nil)))))), ?_⟩
    have w : Wd K E.C_Trade [] [] H H _ [.d (.int n), .d (pairsD ps), .u, .u] := Wd.start2 (N := N_check_pairs) a1 a2
    refine s_when w (b := false) (et_cast (et_not (et_truB (ev_isiT (b := true) (ev_var w rfl) (by decide +kernel)))) rfl) (fun z => by cases z) (fun _ H1 w1 => ?_)
    refine s_forE w1 (ev_var w1 rfl) (fun a t σ H' => ∃ c2 c3, Wd K E.C_Trade [] [(.ref a, pairsD ps)] H H' σ [.d (.int n), .d (pairsD ps), c2, c3]) (fun a H1 w1 => ⟨_, _, w1⟩) (fun a k σ' H' ⟨_, _, w1⟩ => w1.gh0) ?_ ?_
    · rintro a t d v σ' H' H3 hd tv ⟨c2, c3, w2⟩ e3
      have ht : t < ps.length := by
        have := (List.getElem?_eq_some_iff.mp hd).1
        rw [List.length_map] at this
        exact this
      have ed : d = Pt.pairD ps[t] := by
        rw [List.getElem?_map, List.getElem?_eq_getElem ht] at hd
        exact (Option.some.inj hd).symm
      subst ed
      have w3 : Wd K E.C_Trade [] [(.ref a, pairsD ps)] H H3 _ [.d (.int n), .d (pairsD ps), .d (.int (t : Nat)), .d (Pt.pairD ps[t])] := ((w2.mono e3).set 2 (v := .int (t : Nat)) (c := .d (.int (t : Nat))) (Td.int _)).set 3 tv
      have hp := hin ps[t] (List.getElem_mem ht)
      have hz : ([ps[t].1, ps[t].2].all (inR n) && decide (ps[t].1 < ps[t].2)) = true := by
        simp [inR]
        omega
      refine s_when w3 (b := false) (et_cast (et_not (et_truB (ev_call (ea_cons (ev_var w3 rfl) (ea_cons (c := .d (row [ps[t].1, ps[t].2])) (ev_var w3 rfl) ea_nil)) ⟨_, _, _, rfl, rfl⟩))) (by rw [hz]; rfl)) (fun z => by cases z) (fun _ H4 w4 => ?_)
      refine s_if w4 (b := false) (et_cast (et_and (a := decide ((0 : Int) < (t : Int))) (b := false) (et_test (ev_i0 (ev_var w4 rfl) ev_int (fun _ => .bl _))) (fun z => ?_)) (Bool.and_false _)) (fun z => by cases z) (fun _ H5 w5 => ?_)
      · have h1 : 0 < t := by simpa using z
        have h2 : t - 1 < ps.length := by omega
        have lt : ltP ps[t - 1] ps[t] := List.pairwise_iff_getElem.mp hso (t - 1) t h2 ht (by omega)
        refine et_test (ev_leP (ev_var w4 rfl) (q := ps[t - 1]) (ev_ixT (ev_var w4 rfl) (ev_i0 (ev_var w4 rfl) ev_int (fun _ => .int _)) ?_) lt)
        have e : ((t : Nat) : Int) - 1 = ((t - 1 : Nat) : Int) := by omega
        show atI (ps.map Pt.pairD) (((t : Nat) : Int) - 1) = _
        rw [e]
        exact atI_nat (by rw [List.getElem?_map, List.getElem?_eq_getElem h2]; rfl)
      · exact s_next ⟨_, _, w5⟩
    · rintro a σ' H' ⟨c2, c3, w2⟩
      exact q .non H' w2.fr0 .non
def spInit (K : PySem.W.Frag) (C : Addr) : Sp := fun vs H Q _ => ∃ (p dx : Addr) (n : Int) (ps : List (Int × Int)) (v1 v2 : V), vs = [.ref p, v1, v2] ∧ H p = some (.ins C dx []) ∧ Td K H v1 (.int n) ∧ Td K H v2 (pairsD ps) ∧ 1 ≤ n ∧ n ≤ 6 ∧ PairsOk n ps ∧
  ∀ H', (∀ b o, H b = some o → b ≠ p → H' b = some o) → (∃ q, H' p = some (.ins C dx (flds n q)) ∧ Td K H' (.ref q) (pairsD ps)) → Q .non H'
theorem putF_flds (n : Int) (q : Addr) : putF "_pairs" (.ref q) (putF "_letters" (.int n) []) = flds n q := by
  show (if ("_letters" : Str) = "_pairs" then _ else _) = _
  rw [if_neg (fun e => by have := kne; rw [e, beq_self_eq_true] at this; cases this)]
  rfl
theorem Tx.ins {H : Hp} {p : Addr} {o : HO} {C dx : Addr} {fs : List (Str × V)} (h : H p = some (.ins C dx fs)) : Tx H (upd H p o) := fun a ob u e => by rw [upd_ne (ne_of e h (fun z => by cases z))]; exact e
theorem ok_Trade___init__ (E : Nv K mg) : FnOk P w K mg base CX0 20 E.a_Trade___init__ E.d_Trade___init__ ["self", "letters", "pairs"] (spInit K E.C_Trade) := by
  refine E.F_Trade___init__.ok sc_Trade___init__ (fun vs H Q _ h => ?_) (fun cdv A outer s H vs Q _ hr h => ?_)
  · obtain ⟨_, _, _, _, _, _, rfl, _⟩ := h
    rfl
  · obtain ⟨p, dx, n, ps, v1, v2, rfl, hp, t1, t2, h1, h6, hok, q⟩ := h
    refine ⟨_, (pss_cons (ps_if (pt_not (pt_truK K (pe_call (ok_is_whole E) (hr.mono (by first | decide | omega)) (by rfl) E.m_is_whole E.F_is_whole.kp E.b_is_whole .nil pass0 (pa_cons (pv 1) (pa_cons pe_int (pa_cons (pe_glob (v := .int 6) (by rfl) E.c_MOST_LETTERS ⟨_, rfl⟩) pa_nil)))) (fun _ => rfl))) (pss_one ps_never) pss_nil)
      (pss_cons (ps_expr (pe_call (ok_check_pairs E) (hr.mono (by first | decide | omega)) (by rfl) E.m_check_pairs E.F_check_pairs.kp E.b_check_pairs .nil pass0 (pa_cons (pv 1) (pa_cons (pv 2) pa_nil))))
      (pss_cons (ps_fld (pv 0) (pv 1) rfl)
      (pss_one (ps_fld (pv 0) (pv 2) rfl))))), ?_⟩
    have w : Wd K E.C_Trade [] [] H H _ [.r (.ref p), .d (.int n), .d (pairsD ps)] := Wd.start3 (N := N_Trade___init__) (c1 := .r (.ref p)) (c2 := .d (.int n)) (c3 := .d (pairsD ps)) rfl t1 t2
    refine s_when w (b := false) (et_cast (et_not (et_truB (ev_call (by walk_at "ea") ⟨.int n, 1, 6, rfl, rfl⟩))) (by simp [isWhole]; omega)) (fun z => by cases z) (fun _ H1 w1 => ?_)
    refine q_drop w1 (ev_call (by walk_at "ea") ⟨_, _, hok, rfl, rfl⟩) fun H2 w2 => ?_
    obtain ⟨x1, e1, s1⟩ := w2.get (i := 1) rfl
    obtain ⟨x2, e2, s2⟩ := w2.get (i := 2) rfl
    obtain ⟨x0, e0, rfl⟩ := w2.get (i := 0) rfl
    have hp2 : H2 p = some (.ins E.C_Trade dx []) := w2.fr0 _ _ hp
    rw [Td.int_of s1] at e1
    obtain ⟨qa, ys, rfl, sq, _⟩ := Td.tup_of s2
    refine ⟨.int n, e1, .ref p, e0, p, E.C_Trade, dx, [], rfl, hp2, E.cl, E.nl, by decide, ?_⟩
    refine ⟨.ref qa, e2, .ref p, e0, p, E.C_Trade, dx, _, rfl, upd_same, E.cl, E.np, by show 1 < 1000; decide, ?_⟩
    refine q _ (fun b o hb ne => ?_) ⟨qa, ?_, ?_⟩
    · rw [upd_upd, upd_ne ne]
      exact w2.fr0 _ _ hb
    · rw [upd_same, putF_flds]
    · rw [upd_upd]
      exact Td.mono (Tx.ins hp2) _ _ s2
theorem ev_makeT {C : Addr} {H : Hp} {σ : L2.St} {ta tb : TE} {E : XK} {n : Int} {ps : List (Int × Int)} (ha : EvC K C ta σ H (.d (.int n))) (hb : EvC K C tb σ H (.d (pairsD ps))) (h1 : 1 ≤ n) (h6 : n ≤ 6) (hok : PairsOk n ps) : EvC K C (tMake C (spInit K C) [] E (tCons ta (tCons tb tNil))) σ H (.t n ps) := fun H1 e1 Q q =>
  ha H1 e1 _ fun v H2 e2 a => hb H2 (e1.trans e2) _ fun y H3 e3 b => fun x dx nx ndx nex => by
    have s3 : Same H3 (upd (upd H3 dx (.own x)) x (.ins C dx [])) := fun c o e => by
      rw [upd_ne (ne_of_none e nx), upd_ne (ne_of_none e ndx)]
      exact e
    refine ⟨x, dx, n, ps, v, y, rfl, upd_same, Td.mono (.of (e3.trans s3)) _ _ a, Td.mono (.of s3) _ _ b, h1, h6, hok, fun H' k1 ⟨r, k2, k3⟩ => ⟨rfl, ?_⟩⟩
    exact q _ H' ((e2.trans e3).trans fun c o e => k1 c o (s3 c o e) (ne_of_none e nx)) ⟨x, dx, r, rfl, k2, k3⟩
end
end K1
set_option maxRecDepth 10000000
namespace K1
open PySem PySem.Spec PyProof.Rows L2 Pt
local macro_rules
  | `(tactic| walk_at "sz") => `(tactic| first
    | omega
    | decide
    | (simp; omega)
    | (simp [iL, row, pairsD]; omega))
  | `(tactic| walk_at "ea") => `(tactic| first
    | (with_reducible exact ea_nil)
    | ((with_reducible apply ea_consL); (focus (walk_at "ev")); (focus (walk_at "ea")))
    | ((with_reducible apply ea_consS); (focus (walk_at "ev")); (focus (walk_at "ea")))
    | ((with_reducible apply ea_cons); (focus (walk_at "ev")); (focus (walk_at "ea")))
    | ((with_reducible apply ea_consN); (focus (walk_at "en")); (focus (walk_at "ea"))))
  | `(tactic| walk_at "ed") => `(tactic| first
    | (with_reducible exact ed_nil)
    | ((with_reducible apply ed_cons); (focus (walk_at "ev")); (focus (walk_at "ed"))))
  | `(tactic| walk_at "en") => `(tactic| first
    | ((with_reducible apply en_lst); (focus (walk_at "ed")); (focus (simp)))
    | ((with_reducible apply en_listT); (focus (walk_at "ev")))
    | ((with_reducible apply en_addL); (focus (walk_at "ev")); (focus (walk_at "en")); (focus (walk_at "sz")))
    | ((with_reducible apply en_addN); (focus (walk_at "en")); (focus (walk_at "en")); (focus (walk_at "sz")))
    | ((with_reducible apply en_slL); (focus (walk_at "ev")); (focus (walk_at "eo")); (focus (walk_at "eo"))))
  | `(tactic| walk_at "eo") => `(tactic| first
    | (with_reducible exact eo_none)
    | ((with_reducible apply eo_some); (focus (walk_at "ev"))))
  | `(tactic| walk_at "et") => `(tactic| first
    | (with_reducible exact et_yes)
    | ((with_reducible apply et_test); (focus (walk_at "ev")))
    | ((with_reducible apply et_B); (focus (walk_at "ev")))
    | ((with_reducible apply et_truB); (focus (walk_at "ev")))
    | ((with_reducible apply et_truT); (focus (walk_at "ev")))
    | ((with_reducible apply et_not); (focus (walk_at "et")))
    | ((with_reducible apply et_and); (focus (walk_at "et")); (focus (intro _; walk_at "et")))
    | ((with_reducible apply et_or); (focus (walk_at "et")); (focus (intro _; walk_at "et"))))
  | `(tactic| walk_at "var") => `(tactic| first
    | ((with_reducible apply ev_varD); (focus (assumption)); (focus (rfl)))
    | ((with_reducible apply ev_varL); (focus (assumption)); (focus (rfl)))
    | ((with_reducible apply ev_varS); (focus (assumption)); (focus (rfl)))
    | ((with_reducible apply ev_varT); (focus (assumption)); (focus (rfl)))
    | ((with_reducible apply ev_varH); (focus (assumption)); (focus (rfl)))
    | ((with_reducible apply ev_varZ); (focus (assumption)); (focus (rfl))))
  | `(tactic| walk_at "ev") => `(tactic| first
    | walk_at "var"
    | (with_reducible exact ev_int)
    | (with_reducible exact ev_bl)
    | (with_reducible exact ev_str)
    | (with_reducible exact ev_non)
    | ((with_reducible apply ev_letters); (focus (walk_at "ev")))
    | ((with_reducible apply ev_pairs); (focus (walk_at "ev")))
    | ((with_reducible apply ev_addI); (focus (walk_at "ev")); (focus (walk_at "ev")))
    | ((with_reducible apply ev_addT); (focus (walk_at "ev")); (focus (walk_at "ev")); (focus (walk_at "sz")))
    | ((with_reducible apply ev_i0); (focus (walk_at "ev")); (focus (walk_at "ev")); (focus (first | exact fun _ => .int _ | exact fun _ => .bl _)))
    | ((with_reducible apply ev_iC); (focus (walk_at "ev")); (focus (walk_at "ev")); (focus (first | assumption | walk_at "cond")); (focus (exact fun _ => .int _)))
    | ((with_reducible apply ev_chain); (focus (walk_at "ev")); (focus (walk_at "ev")); (focus (walk_at "ev")))
    | ((with_reducible apply ev_eqI); (focus (walk_at "ev")); (focus (walk_at "ev")))
    | ((with_reducible apply ev_neI); (focus (walk_at "ev")); (focus (walk_at "ev")))
    | ((with_reducible apply ev_eqR); (focus (walk_at "ev")); (focus (walk_at "ev")))
    | ((with_reducible apply ev_neR); (focus (walk_at "ev")); (focus (walk_at "ev")))
    | ((with_reducible apply ev_isN); (focus (walk_at "ev")))
    | ((with_reducible apply ev_notN); (focus (walk_at "ev")))
    | ((with_reducible apply ev_in2); (focus (walk_at "ev")); (focus (walk_at "ev")); (focus (walk_at "ev")))
    | ((with_reducible apply ev_inP); (focus (walk_at "ev")); (focus (walk_at "ev")))
    | ((with_reducible apply ev_tup); (focus (walk_at "ed")); (focus (simp)))
    | ((with_reducible apply ev_lenT); (focus (walk_at "ev")))
    | ((with_reducible apply ev_lenL); (focus (walk_at "ev")))
    | ((with_reducible apply ev_lenS); (focus (walk_at "ev")))
    | ((with_reducible apply ev_lenN); (focus (walk_at "en")))
    | ((with_reducible apply ev_max2); (focus (walk_at "ev")); (focus (walk_at "ev")))
    | ((with_reducible apply ev_min2); (focus (walk_at "ev")); (focus (walk_at "ev")))
    | ((with_reducible apply ev_int1); (focus (walk_at "ev")))
    | ((with_reducible apply ev_tupleL); (focus (walk_at "ev")))
    | ((with_reducible apply ev_tupleN); (focus (walk_at "en")))
    | ((with_reducible apply ev_countT); (focus (walk_at "ev")); (focus (walk_at "ev")))
    | ((with_reducible apply ev_andV); (focus (walk_at "ev")); (focus (intro _; walk_at "ev")))
    | ((with_reducible apply ev_orV); (focus (walk_at "ev")); (focus (intro _; walk_at "ev")))
    | ((with_reducible apply ev_notV); (focus (walk_at "ev"))))
section
variable {P : Program} {w : World} {K : PySem.W.Frag} {mg : Str → Option Value} {base : Heap}
end
end K1
set_option maxRecDepth 10000000
namespace K1
open PySem PySem.Spec PyProof.Rows L2 Pt
local macro_rules
  | `(tactic| walk_at "sz") => `(tactic| first
    | omega
    | decide
    | (simp; omega)
    | (simp [iL, row, pairsD]; omega))
  | `(tactic| walk_at "ea") => `(tactic| first
    | (with_reducible exact ea_nil)
    | ((with_reducible apply ea_consL); (focus (walk_at "ev")); (focus (walk_at "ea")))
    | ((with_reducible apply ea_consS); (focus (walk_at "ev")); (focus (walk_at "ea")))
    | ((with_reducible apply ea_cons); (focus (walk_at "ev")); (focus (walk_at "ea")))
    | ((with_reducible apply ea_consN); (focus (walk_at "en")); (focus (walk_at "ea"))))
  | `(tactic| walk_at "ed") => `(tactic| first
    | (with_reducible exact ed_nil)
    | ((with_reducible apply ed_cons); (focus (walk_at "ev")); (focus (walk_at "ed"))))
  | `(tactic| walk_at "en") => `(tactic| first
    | ((with_reducible apply en_lst); (focus (walk_at "ed")); (focus (simp)))
    | ((with_reducible apply en_listT); (focus (walk_at "ev")))
    | ((with_reducible apply en_addL); (focus (walk_at "ev")); (focus (walk_at "en")); (focus (walk_at "sz")))
    | ((with_reducible apply en_addN); (focus (walk_at "en")); (focus (walk_at "en")); (focus (walk_at "sz")))
    | ((with_reducible apply en_slL); (focus (walk_at "ev")); (focus (walk_at "eo")); (focus (walk_at "eo"))))
  | `(tactic| walk_at "eo") => `(tactic| first
    | (with_reducible exact eo_none)
    | ((with_reducible apply eo_some); (focus (walk_at "ev"))))
  | `(tactic| walk_at "et") => `(tactic| first
    | (with_reducible exact et_yes)
    | ((with_reducible apply et_test); (focus (walk_at "ev")))
    | ((with_reducible apply et_B); (focus (walk_at "ev")))
    | ((with_reducible apply et_truB); (focus (walk_at "ev")))
    | ((with_reducible apply et_truT); (focus (walk_at "ev")))
    | ((with_reducible apply et_not); (focus (walk_at "et")))
    | ((with_reducible apply et_and); (focus (walk_at "et")); (focus (intro _; walk_at "et")))
    | ((with_reducible apply et_or); (focus (walk_at "et")); (focus (intro _; walk_at "et"))))
  | `(tactic| walk_at "var") => `(tactic| first
    | ((with_reducible apply ev_varD); (focus (assumption)); (focus (rfl)))
    | ((with_reducible apply ev_varL); (focus (assumption)); (focus (rfl)))
    | ((with_reducible apply ev_varS); (focus (assumption)); (focus (rfl)))
    | ((with_reducible apply ev_varT); (focus (assumption)); (focus (rfl)))
    | ((with_reducible apply ev_varH); (focus (assumption)); (focus (rfl)))
    | ((with_reducible apply ev_varZ); (focus (assumption)); (focus (rfl))))
  | `(tactic| walk_at "ev") => `(tactic| first
    | walk_at "var"
    | (with_reducible exact ev_int)
    | (with_reducible exact ev_bl)
    | (with_reducible exact ev_str)
    | (with_reducible exact ev_non)
    | ((with_reducible apply ev_letters); (focus (walk_at "ev")))
    | ((with_reducible apply ev_pairs); (focus (walk_at "ev")))
    | ((with_reducible apply ev_addI); (focus (walk_at "ev")); (focus (walk_at "ev")))
    | ((with_reducible apply ev_addT); (focus (walk_at "ev")); (focus (walk_at "ev")); (focus (walk_at "sz")))
    | ((with_reducible apply ev_i0); (focus (walk_at "ev")); (focus (walk_at "ev")); (focus (first | exact fun _ => .int _ | exact fun _ => .bl _)))
    | ((with_reducible apply ev_iC); (focus (walk_at "ev")); (focus (walk_at "ev")); (focus (first | assumption | walk_at "cond")); (focus (exact fun _ => .int _)))
    | ((with_reducible apply ev_chain); (focus (walk_at "ev")); (focus (walk_at "ev")); (focus (walk_at "ev")))
    | ((with_reducible apply ev_eqI); (focus (walk_at "ev")); (focus (walk_at "ev")))
    | ((with_reducible apply ev_neI); (focus (walk_at "ev")); (focus (walk_at "ev")))
    | ((with_reducible apply ev_eqR); (focus (walk_at "ev")); (focus (walk_at "ev")))
    | ((with_reducible apply ev_neR); (focus (walk_at "ev")); (focus (walk_at "ev")))
    | ((with_reducible apply ev_isN); (focus (walk_at "ev")))
    | ((with_reducible apply ev_notN); (focus (walk_at "ev")))
    | ((with_reducible apply ev_in2); (focus (walk_at "ev")); (focus (walk_at "ev")); (focus (walk_at "ev")))
    | ((with_reducible apply ev_inP); (focus (walk_at "ev")); (focus (walk_at "ev")))
    | ((with_reducible apply ev_tup); (focus (walk_at "ed")); (focus (simp)))
    | ((with_reducible apply ev_lenT); (focus (walk_at "ev")))
    | ((with_reducible apply ev_lenL); (focus (walk_at "ev")))
    | ((with_reducible apply ev_lenS); (focus (walk_at "ev")))
    | ((with_reducible apply ev_lenN); (focus (walk_at "en")))
    | ((with_reducible apply ev_max2); (focus (walk_at "ev")); (focus (walk_at "ev")))
    | ((with_reducible apply ev_min2); (focus (walk_at "ev")); (focus (walk_at "ev")))
    | ((with_reducible apply ev_int1); (focus (walk_at "ev")))
    | ((with_reducible apply ev_tupleL); (focus (walk_at "ev")))
    | ((with_reducible apply ev_tupleN); (focus (walk_at "en")))
    | ((with_reducible apply ev_countT); (focus (walk_at "ev")); (focus (walk_at "ev")))
    | ((with_reducible apply ev_andV); (focus (walk_at "ev")); (focus (intro _; walk_at "ev")))
    | ((with_reducible apply ev_orV); (focus (walk_at "ev")); (focus (intro _; walk_at "ev")))
    | ((with_reducible apply ev_notV); (focus (walk_at "ev"))))
section
variable {P : Program} {w : World} {K : PySem.W.Frag} {mg : Str → Option Value} {base : Heap}
end
end K1
set_option maxRecDepth 10000000
namespace K1
open PySem PySem.Spec PyProof.Rows L2 Pt
local macro_rules
  | `(tactic| walk_at "sz") => `(tactic| first
    | omega
    | decide
    | (simp; omega)
    | (simp [iL, row, pairsD]; omega))
  | `(tactic| walk_at "ea") => `(tactic| first
    | (with_reducible exact ea_nil)
    | ((with_reducible apply ea_consL); (focus (walk_at "ev")); (focus (walk_at "ea")))
    | ((with_reducible apply ea_consS); (focus (walk_at "ev")); (focus (walk_at "ea")))
    | ((with_reducible apply ea_cons); (focus (walk_at "ev")); (focus (walk_at "ea")))
    | ((with_reducible apply ea_consN); (focus (walk_at "en")); (focus (walk_at "ea"))))
  | `(tactic| walk_at "ed") => `(tactic| first
    | (with_reducible exact ed_nil)
    | ((with_reducible apply ed_cons); (focus (walk_at "ev")); (focus (walk_at "ed"))))
  | `(tactic| walk_at "en") => `(tactic| first
    | ((with_reducible apply en_lst); (focus (walk_at "ed")); (focus (simp)))
    | ((with_reducible apply en_listT); (focus (walk_at "ev")))
    | ((with_reducible apply en_addL); (focus (walk_at "ev")); (focus (walk_at "en")); (focus (walk_at "sz")))
    | ((with_reducible apply en_addN); (focus (walk_at "en")); (focus (walk_at "en")); (focus (walk_at "sz")))
    | ((with_reducible apply en_slL); (focus (walk_at "ev")); (focus (walk_at "eo")); (focus (walk_at "eo"))))
  | `(tactic| walk_at "eo") => `(tactic| first
    | (with_reducible exact eo_none)
    | ((with_reducible apply eo_some); (focus (walk_at "ev"))))
  | `(tactic| walk_at "et") => `(tactic| first
    | (with_reducible exact et_yes)
    | ((with_reducible apply et_test); (focus (walk_at "ev")))
    | ((with_reducible apply et_B); (focus (walk_at "ev")))
    | ((with_reducible apply et_truB); (focus (walk_at "ev")))
    | ((with_reducible apply et_truT); (focus (walk_at "ev")))
    | ((with_reducible apply et_not); (focus (walk_at "et")))
    | ((with_reducible apply et_and); (focus (walk_at "et")); (focus (intro _; walk_at "et")))
    | ((with_reducible apply et_or); (focus (walk_at "et")); (focus (intro _; walk_at "et"))))
  | `(tactic| walk_at "var") => `(tactic| first
    | ((with_reducible apply ev_varD); (focus (assumption)); (focus (rfl)))
    | ((with_reducible apply ev_varL); (focus (assumption)); (focus (rfl)))
    | ((with_reducible apply ev_varS); (focus (assumption)); (focus (rfl)))
    | ((with_reducible apply ev_varT); (focus (assumption)); (focus (rfl)))
    | ((with_reducible apply ev_varH); (focus (assumption)); (focus (rfl)))
    | ((with_reducible apply ev_varZ); (focus (assumption)); (focus (rfl))))
  | `(tactic| walk_at "ev") => `(tactic| first
    | walk_at "var"
    | (with_reducible exact ev_int)
    | (with_reducible exact ev_bl)
    | (with_reducible exact ev_str)
    | (with_reducible exact ev_non)
    | ((with_reducible apply ev_letters); (focus (walk_at "ev")))
    | ((with_reducible apply ev_pairs); (focus (walk_at "ev")))
    | ((with_reducible apply ev_addI); (focus (walk_at "ev")); (focus (walk_at "ev")))
    | ((with_reducible apply ev_addT); (focus (walk_at "ev")); (focus (walk_at "ev")); (focus (walk_at "sz")))
    | ((with_reducible apply ev_i0); (focus (walk_at "ev")); (focus (walk_at "ev")); (focus (first | exact fun _ => .int _ | exact fun _ => .bl _)))
    | ((with_reducible apply ev_iC); (focus (walk_at "ev")); (focus (walk_at "ev")); (focus (first | assumption | walk_at "cond")); (focus (exact fun _ => .int _)))
    | ((with_reducible apply ev_chain); (focus (walk_at "ev")); (focus (walk_at "ev")); (focus (walk_at "ev")))
    | ((with_reducible apply ev_eqI); (focus (walk_at "ev")); (focus (walk_at "ev")))
    | ((with_reducible apply ev_neI); (focus (walk_at "ev")); (focus (walk_at "ev")))
    | ((with_reducible apply ev_eqR); (focus (walk_at "ev")); (focus (walk_at "ev")))
    | ((with_reducible apply ev_neR); (focus (walk_at "ev")); (focus (walk_at "ev")))
    | ((with_reducible apply ev_isN); (focus (walk_at "ev")))
    | ((with_reducible apply ev_notN); (focus (walk_at "ev")))
    | ((with_reducible apply ev_in2); (focus (walk_at "ev")); (focus (walk_at "ev")); (focus (walk_at "ev")))
    | ((with_reducible apply ev_inP); (focus (walk_at "ev")); (focus (walk_at "ev")))
    | ((with_reducible apply ev_tup); (focus (walk_at "ed")); (focus (simp)))
    | ((with_reducible apply ev_lenT); (focus (walk_at "ev")))
    | ((with_reducible apply ev_lenL); (focus (walk_at "ev")))
    | ((with_reducible apply ev_lenS); (focus (walk_at "ev")))
    | ((with_reducible apply ev_lenN); (focus (walk_at "en")))
    | ((with_reducible apply ev_max2); (focus (walk_at "ev")); (focus (walk_at "ev")))
    | ((with_reducible apply ev_min2); (focus (walk_at "ev")); (focus (walk_at "ev")))
    | ((with_reducible apply ev_int1); (focus (walk_at "ev")))
    | ((with_reducible apply ev_tupleL); (focus (walk_at "ev")))
    | ((with_reducible apply ev_tupleN); (focus (walk_at "en")))
    | ((with_reducible apply ev_countT); (focus (walk_at "ev")); (focus (walk_at "ev")))
    | ((with_reducible apply ev_andV); (focus (walk_at "ev")); (focus (intro _; walk_at "ev")))
    | ((with_reducible apply ev_orV); (focus (walk_at "ev")); (focus (intro _; walk_at "ev")))
    | ((with_reducible apply ev_notV); (focus (walk_at "ev"))))
section
variable {P : Program} {w : World} {K : PySem.W.Frag} {mg : Str → Option Value} {base : Heap}
theorem cmulR {i j : Int} (h : -(2 ^ 64) < j ∧ j < 2 ^ 64) : CMul i j := .inr h
theorem ok__law_mix (E : Nv K mg) : FnOk P w K mg base CX0 4 E.a__law_mix E.d__law_mix ["_law_script", "_law_seed"] (spM K E.C_Trade) := by
  refine E.F__law_mix.ok sc__law_mix (fun vs H Q _ h => ?_) (fun cdv A outer s H vs Q _ hr h => ?_)
  · obtain ⟨z, cells, v1, k, rfl, _⟩ := h
    rfl
  · obtain ⟨z, cells, v1, k, rfl, hz, hl, q⟩ := h
    refine ⟨_, (pss_cons (ps_set (i := 2) sc__law_mix.nd rfl (.inl rfl) (pv 1))
      (pss_cons (ps_for PassesOwn.never rfl (pi_listK K (pv 0)) (pg_name (i := 3) sc__law_mix.nd rfl (.inl rfl))
      (pss_one (ps_set (i := 2) sc__law_mix.nd rfl (.inl rfl) (pe_op op_mod (pe_callTy call_int1' (by rfl) E.n_int (by decide +kernel) (pa_cons (pe_op (op_addK K) (pe_op (op_addK K) (pe_op op_mul (pv 2) pe_int) (pe_op op_mod (pe_callTy call_int1' (by rfl) E.n_int (by decide +kernel) (pa_cons (pv 3) pa_nil)) pe_int)) pe_int) pa_nil)) pe_int))))
      (pss_one (ps_ret (pe_lst (pa_cons (pv 2) (pa_cons (pe_callTy (call_listK K) (by rfl) E.n_list (by decide +kernel) (pa_cons (pv 0) pa_nil)) (pa_cons pe_int pa_nil)))))))), ?_⟩
    have w : Wd K E.C_Trade [] [] H H _ [.z z (iL cells), .d (.int k), .u, .u] := Wd.start2 (N := N__law_mix) (c1 := .z z (iL cells)) (c2 := .d (.int k)) hz (Td.int k)
    refine q_asgD w (ev_var w rfl) fun σ1 H1 w1 => ?_
    refine q_forZ w1 (ev_var (i := 0) w1 rfl) (fun t σ H' => ∃ (st : Int) (c3 : Ct), Wd K E.C_Trade [] [] H H' σ [.z z (iL cells), .d (.int k), .d (.int st), c3]) (fun H2 w2 => ⟨_, _, w2⟩) (fun t σ H' ⟨st, c3, w2⟩ => ?_) ?_ ?_
    · obtain ⟨v, _, _, xs, s, t⟩ := w2.get (i := 0) rfl
      exact ⟨xs, s.sq, t⟩
    · rintro t d v σ H' hd tv ⟨st, c3, w2⟩
      obtain ⟨x, rfl⟩ : ∃ x : Int, d = .int x := by
        rw [iL_get] at hd
        cases e : cells[t]? with
        | none => rw [e] at hd; cases hd
        | some x => rw [e] at hd; exact ⟨x, (Option.some.inj hd).symm⟩
      have w3 : Wd K E.C_Trade [] [] H H' _ [.z z (iL cells), .d (.int k), .d (.int st), .d (.int x)] := w2.set 3 tv
      refine s_asgD w3 (ev_iC (ev_int1 (ev_addI (ev_addI (ev_iC (ev_var w3 rfl) ev_int (cmulR ⟨by decide, by decide⟩) (fun _ => .int _)) (ev_iC (ev_int1 (ev_var w3 rfl)) ev_int (by decide) (fun _ => .int _))) ev_int)) ev_int (by decide) (fun _ => .int _)) fun σ4 H4 w4 => ⟨_, _, w4⟩
    · rintro σ H' ⟨st, c3, w2⟩
      unfold tRet tLst tCons
      refine (ev_var w2 rfl : EvC K E.C_Trade (tVar 2) σ H' (.d (.int st))) H' (Same.refl H') _ fun v H2 e2 a2 => ?_
      rw [Td.int_of a2]
      refine (en_listZ (ev_var (w2.mono e2) rfl) : EvN K E.C_Trade _ σ H2 (iL cells)) H2 (Same.refl H2) _ fun c H3 hc e3 a3 => ?_
      obtain ⟨_, xs, hx, tx⟩ := a3
      rw [tx.iL_of] at hx
      refine ⟨by show 3 ≤ sizeLine; decide, fun p hp => ?_⟩
      have hpc : p ≠ c := ne_of_none' hp hx
      have e4 : Same H3 (upd H3 p (.lst [.int st, .ref c, .int 0])) := same_new hp
      have f0 := ((w2.mono e2).mono e3).fr0
      refine q p c _ ?_ ?_ (f0.trans e4) (show Src _ p c st 0 cells from ⟨upd_same, e4 _ _ hx, hpc, hl⟩).ct
      · exact f0.free hp
      · exact (w2.mono e2).fresh0 hc
theorem ok__law_next (E : Nv K mg) : FnOk P w K mg base CX0 4 E.a__law_next E.d__law_next ["_law_h", "_law_bound"] (spH K E.C_Trade) := by
  refine E.F__law_next.ok sc__law_next (fun vs H Q _ h => ?_) (fun cdv A outer s H vs Q _ hr h => ?_)
  · obtain ⟨p, c, b, rfl, _⟩ := h
    rfl
  · obtain ⟨p, c, b, rfl, ⟨_, hpc, st, k, cells, hp, hc, hl⟩, hb1, hb2, q⟩ := h
    refine ⟨_, (pss_cons (ps_set (i := 2) sc__law_next.nd rfl (.inl rfl) (pe_ix (ix_K K) (pe_op (op_addK K) (pe_ix (ix_K K) (pv 0) pe_int (fun _ _ => rfl)) (pe_lst (pa_cons pe_int pa_nil))) (pe_op op_mod (pe_callTy call_int1' (by rfl) E.n_int (by decide +kernel) (pa_cons (pe_ix (ix_K K) (pv 0) pe_int (fun _ _ => rfl)) pa_nil)) (pe_callB (call_max2' rfl) (by rfl) E.n_max (by decide +kernel) (pa_cons pe_int (pa_cons (pe_callB (call_lenK K) (by rfl) E.n_len (by decide +kernel) (pa_cons (pe_ix (ix_K K) (pv 0) pe_int (fun _ _ => rfl)) pa_nil)) pa_nil)))) (fun _ _ => rfl)))
      (pss_cons (ps_if (pt_cmpR (op_ge) (pv 2) (pe_op op_pow pe_int pe_int) (nomark _)) (pss_cons (ps_set (i := 3) sc__law_next.nd rfl (.inl rfl) (pe_ix (ix_K K) (pv 0) pe_int (fun _ _ => rfl)))
      (pss_cons (ps_asg (pe_op op_fdiv (pv 2) (pv 1)) (pg_sub (pv 3) (pe_op op_mod (pe_callTy call_int1' (by rfl) E.n_int (by decide +kernel) (pa_cons (pe_ix (ix_K K) (pv 0) pe_int (fun _ _ => rfl)) pa_nil)) (pe_callB (call_lenK K) (by rfl) E.n_len (by decide +kernel) (pa_cons (pv 3) pa_nil))) set_list))
      (pss_one (ps_ret (pe_op op_mod (pe_callTy call_int1' (by rfl) E.n_int (by decide +kernel) (pa_cons (pv 2) pa_nil)) (pv 1)))))) pss_nil)
      (pss_cons (ps_asg (pe_op op_mod (pe_callTy call_int1' (by rfl) E.n_int (by decide +kernel) (pa_cons (pe_op (op_addK K) (pe_op (op_addK K) (pe_op op_mul (pe_ix (ix_K K) (pv 0) pe_int (fun _ _ => rfl)) pe_int) (pe_op op_mul (pv 2) pe_int)) pe_int) pa_nil)) pe_int) (pg_sub (pv 0) pe_int set_list))
      (pss_cons (ps_asg (pe_op (op_addK K) (pe_ix (ix_K K) (pv 0) pe_int (fun _ _ => rfl)) pe_int) (pg_sub (pv 0) pe_int set_list))
      (pss_one (ps_ret (pe_op op_mod (pe_callTy call_int1' (by rfl) E.n_int (by decide +kernel) (pa_cons (pe_op op_fdiv (pe_ix (ix_K K) (pv 0) pe_int (fun _ _ => rfl)) pe_int) pa_nil)) (pv 1)))))))), ?_⟩
    have S0 : Src H p c st k cells := ⟨hp, hc, hpc, hl⟩
    have hM : (0 : Int) < max 1 (cells.length : Int) := by omega
    have i0 := Int.emod_nonneg k (show max 1 (cells.length : Int) ≠ 0 by omega)
    have i1 := Int.emod_lt_of_pos k hM
    have hj : (k % max 1 (cells.length : Int)).toNat < (cells ++ [0]).length := by
      rw [List.length_append]
      simp only [List.length_cons, List.length_nil]
      omega
    obtain ⟨cell, hcell⟩ : ∃ cell, (cells ++ [0])[(k % max 1 (cells.length : Int)).toNat]? = some cell := ⟨_, List.getElem?_eq_getElem hj⟩
    have g0 : atI (iL cells ++ [.int 0]) (k % max 1 (cells.length : Int)) = some (.int cell) := by
      have e : k % max 1 (cells.length : Int) = ((k % max 1 (cells.length : Int)).toNat : Int) := by omega
      rw [e]
      refine atI_nat ?_
      have z : iL cells ++ [.int 0] = iL (cells ++ [0]) := by rw [iL_app]; rfl
      rw [z, iL_get, hcell]
      rfl
    refine (ev_ixN (K := K) (C := E.C_Trade) (d := .int cell) (en_addL (src_c S0 rfl) (en_lst (ed_cons ev_int ed_nil)) (by rw [iL_len]; simp; omega)) (ev_iC (ev_int1 (src_k S0 rfl)) (ev_max2 ev_int (ev_d (ev_lenL (src_c S0 rfl)) (by rw [iL_len]))) hM (fun _ => .int _)) g0) H (Same.refl H) _ fun v H1 e1 a1 => ?_
    rw [Td.int_of a1]
    have S1 := S0.mono e1
    refine (et_test (ev_i0 (K := K) (C := E.C_Trade) (ev_at (k := cell) rfl) (ev_iC (d := .int (10 ^ 18)) ev_int ev_int ⟨by decide, by decide, by decide⟩ (fun _ => .int _)) (fun _ => .bl _))) H1 (Same.refl H1) _ fun H2 e2 => ?_
    have S2 := S1.mono e2
    by_cases hbig : (10 ^ 18 : Int) ≤ cell
    · rw [if_pos (decide_eq_true hbig)]
      have hj2 : (k % max 1 (cells.length : Int)).toNat < cells.length := by
        rcases Nat.lt_or_ge (k % max 1 (cells.length : Int)).toNat cells.length with z | z
        · exact z
        · have e : (k % max 1 (cells.length : Int)).toNat = cells.length := by
            rw [List.length_append] at hj
            simp only [List.length_cons, List.length_nil] at hj
            omega
          rw [e, List.getElem?_append_right (Nat.le_refl _), Nat.sub_self] at hcell
          have : cell = 0 := by simpa using hcell.symm
          rw [this] at hbig
          exact absurd hbig (by decide)
      have hlen : (0 : Int) < (cells.length : Int) := by omega
      refine (src_c (K := K) (C := E.C_Trade) S2 rfl) H2 (Same.refl H2) _ fun v H3 e3 a3 => ?_
      obtain ⟨rfl, _⟩ := a3
      have S3 := S2.mono e3
      refine (ev_iC (K := K) (C := E.C_Trade) (d := .int (cell / b)) (ev_at (k := cell) rfl) (ev_at (k := b) rfl) ⟨by omega, by omega⟩ (fun _ => .int _)) H3 (Same.refl H3) _ fun v H4 e4 a4 => ?_
      rw [Td.int_of a4]
      have S4 := S3.mono e4
      refine ⟨.ref c, rfl, ?_⟩
      refine (ev_iC (K := K) (C := E.C_Trade) (d := .int (k % (cells.length : Int))) (ev_int1 (src_k S4 rfl)) (ev_d (ev_lenL (ev_lstAt rfl S4.2.1)) (by rw [iL_len])) hlen (fun _ => .int _)) H4 (Same.refl H4) _ fun v H5 e5 a5 => ?_
      rw [Td.int_of a5]
      have S5 := S4.mono e5
      have j0 := Int.emod_nonneg k (show (cells.length : Int) ≠ 0 by omega)
      have j1 := Int.emod_lt_of_pos k hlen
      refine ⟨c, _, _, (k % (cells.length : Int)).toNat, rfl, rfl, S5.2.1, ?_, ?_⟩
      · unfold ixN
        rw [List.length_map, if_pos j0, if_pos (by omega)]
      · have S6 : Src (upd H5 c (.lst ((cells.map V.int).set (k % (cells.length : Int)).toNat (.int (cell / b))))) p c st k (cells.set (k % (cells.length : Int)).toNat (cell / b)) := by
          refine ⟨by rw [upd_ne hpc]; exact S5.1, ?_, hpc, by rw [List.length_set]; exact hl⟩
          rw [upd_same, List.map_set]
        refine (ev_iC (K := K) (C := E.C_Trade) (d := .int (cell % b)) (ev_int1 (ev_at (k := cell) rfl)) (ev_at (k := b) rfl) (by omega) (fun _ => .int _)) _ (Same.refl _) _ fun v H7 e7 a7 => ?_
        rw [Td.int_of a7]
        refine q _ _ (Int.emod_nonneg _ (by omega)) (Int.emod_lt_of_pos _ (by omega)) ?_ (S6.mono e7).ct
        exact (((Fr.of (((e1.trans e2).trans e3).trans (e4.trans e5)) _).trans (Fr.updIn (by simp))).trans (Fr.of e7 _))
    · rw [if_neg (by simpa using hbig)]
      refine (ev_iC (K := K) (C := E.C_Trade) (ev_int1 (ev_addI (ev_addI (ev_iC (src_s S2 rfl) ev_int (cmulR ⟨by decide, by decide⟩) (fun _ => .int _)) (ev_iC (ev_at (k := cell) rfl) ev_int (cmulR ⟨by decide, by decide⟩) (fun _ => .int _))) ev_int)) ev_int (by decide) (fun _ => .int _)) H2 (Same.refl H2) _ fun v H3 e3 a3 => ?_
      rw [Td.int_of a3]
      have S3 := S2.mono e3
      generalize ((st * 48271 + cell * 69621 + 11) % 2147483647) = st'
      refine ⟨.ref p, rfl, p, _, 0, 0, rfl, rfl, S3.1, rfl, ?_⟩
      have S4 : Src (upd H3 p (.lst ([V.int st, .ref c, .int k].set 0 (.int st')))) p c st' k cells := ⟨upd_same, by rw [upd_ne (Ne.symm hpc)]; exact S3.2.1, hpc, hl⟩
      refine (ev_addI (K := K) (C := E.C_Trade) (src_k S4 rfl) (ev_int (k := 1))) _ (Same.refl _) _ fun v H5 e5 a5 => ?_
      rw [Td.int_of a5]
      have S5 := S4.mono e5
      refine ⟨.ref p, rfl, p, _, 2, 2, rfl, rfl, S5.1, rfl, ?_⟩
      have S6 : Src (upd H5 p (.lst ([V.int st', .ref c, .int k].set 2 (.int (k + 1))))) p c st' (k + 1) cells := ⟨upd_same, by rw [upd_ne (Ne.symm hpc)]; exact S5.2.1, hpc, hl⟩
      refine (ev_iC (K := K) (C := E.C_Trade) (ev_int1 (ev_iC (src_s S6 rfl) (ev_int (k := 7)) ⟨by decide, by decide⟩ (fun _ => .int _))) (ev_at (k := b) rfl) (by omega) (fun _ => .int _)) _ (Same.refl _) _ fun v H7 e7 a7 => ?_
      rw [Td.int_of a7]
      refine q _ _ (Int.emod_nonneg _ (by omega)) (Int.emod_lt_of_pos _ (by omega)) ?_ (S6.mono e7).ct
      exact (((((Fr.of ((e1.trans e2).trans e3) _).trans (Fr.updIn (by simp))).trans (Fr.of e5 _)).trans (Fr.updIn (by simp))).trans (Fr.of e7 _))
end
end K1
set_option maxRecDepth 10000000
namespace K1
open PySem PySem.Spec PyProof.Rows L2 Pt
local macro_rules
  | `(tactic| walk_at "sz") => `(tactic| first
    | omega
    | decide
    | (simp; omega)
    | (simp [iL, row, pairsD]; omega))
  | `(tactic| walk_at "ea") => `(tactic| first
    | (with_reducible exact ea_nil)
    | ((with_reducible apply ea_consL); (focus (walk_at "ev")); (focus (walk_at "ea")))
    | ((with_reducible apply ea_consS); (focus (walk_at "ev")); (focus (walk_at "ea")))
    | ((with_reducible apply ea_cons); (focus (walk_at "ev")); (focus (walk_at "ea")))
    | ((with_reducible apply ea_consN); (focus (walk_at "en")); (focus (walk_at "ea"))))
  | `(tactic| walk_at "ed") => `(tactic| first
    | (with_reducible exact ed_nil)
    | ((with_reducible apply ed_cons); (focus (walk_at "ev")); (focus (walk_at "ed"))))
  | `(tactic| walk_at "en") => `(tactic| first
    | ((with_reducible apply en_lst); (focus (walk_at "ed")); (focus (simp)))
    | ((with_reducible apply en_listT); (focus (walk_at "ev")))
    | ((with_reducible apply en_addL); (focus (walk_at "ev")); (focus (walk_at "en")); (focus (walk_at "sz")))
    | ((with_reducible apply en_addN); (focus (walk_at "en")); (focus (walk_at "en")); (focus (walk_at "sz")))
    | ((with_reducible apply en_slL); (focus (walk_at "ev")); (focus (walk_at "eo")); (focus (walk_at "eo"))))
  | `(tactic| walk_at "eo") => `(tactic| first
    | (with_reducible exact eo_none)
    | ((with_reducible apply eo_some); (focus (walk_at "ev"))))
  | `(tactic| walk_at "et") => `(tactic| first
    | (with_reducible exact et_yes)
    | ((with_reducible apply et_test); (focus (walk_at "ev")))
    | ((with_reducible apply et_B); (focus (walk_at "ev")))
    | ((with_reducible apply et_truB); (focus (walk_at "ev")))
    | ((with_reducible apply et_truT); (focus (walk_at "ev")))
    | ((with_reducible apply et_not); (focus (walk_at "et")))
    | ((with_reducible apply et_and); (focus (walk_at "et")); (focus (intro _; walk_at "et")))
    | ((with_reducible apply et_or); (focus (walk_at "et")); (focus (intro _; walk_at "et"))))
  | `(tactic| walk_at "var") => `(tactic| first
    | ((with_reducible apply ev_varD); (focus (assumption)); (focus (rfl)))
    | ((with_reducible apply ev_varL); (focus (assumption)); (focus (rfl)))
    | ((with_reducible apply ev_varS); (focus (assumption)); (focus (rfl)))
    | ((with_reducible apply ev_varT); (focus (assumption)); (focus (rfl)))
    | ((with_reducible apply ev_varH); (focus (assumption)); (focus (rfl)))
    | ((with_reducible apply ev_varZ); (focus (assumption)); (focus (rfl))))
  | `(tactic| walk_at "ev") => `(tactic| first
    | walk_at "var"
    | (with_reducible exact ev_int)
    | (with_reducible exact ev_bl)
    | (with_reducible exact ev_str)
    | (with_reducible exact ev_non)
    | ((with_reducible apply ev_letters); (focus (walk_at "ev")))
    | ((with_reducible apply ev_pairs); (focus (walk_at "ev")))
    | ((with_reducible apply ev_addI); (focus (walk_at "ev")); (focus (walk_at "ev")))
    | ((with_reducible apply ev_addT); (focus (walk_at "ev")); (focus (walk_at "ev")); (focus (walk_at "sz")))
    | ((with_reducible apply ev_i0); (focus (walk_at "ev")); (focus (walk_at "ev")); (focus (first | exact fun _ => .int _ | exact fun _ => .bl _)))
    | ((with_reducible apply ev_iC); (focus (walk_at "ev")); (focus (walk_at "ev")); (focus (first | assumption | walk_at "cond")); (focus (exact fun _ => .int _)))
    | ((with_reducible apply ev_chain); (focus (walk_at "ev")); (focus (walk_at "ev")); (focus (walk_at "ev")))
    | ((with_reducible apply ev_eqI); (focus (walk_at "ev")); (focus (walk_at "ev")))
    | ((with_reducible apply ev_neI); (focus (walk_at "ev")); (focus (walk_at "ev")))
    | ((with_reducible apply ev_eqR); (focus (walk_at "ev")); (focus (walk_at "ev")))
    | ((with_reducible apply ev_neR); (focus (walk_at "ev")); (focus (walk_at "ev")))
    | ((with_reducible apply ev_isN); (focus (walk_at "ev")))
    | ((with_reducible apply ev_notN); (focus (walk_at "ev")))
    | ((with_reducible apply ev_in2); (focus (walk_at "ev")); (focus (walk_at "ev")); (focus (walk_at "ev")))
    | ((with_reducible apply ev_inP); (focus (walk_at "ev")); (focus (walk_at "ev")))
    | ((with_reducible apply ev_tup); (focus (walk_at "ed")); (focus (simp)))
    | ((with_reducible apply ev_lenT); (focus (walk_at "ev")))
    | ((with_reducible apply ev_lenL); (focus (walk_at "ev")))
    | ((with_reducible apply ev_lenS); (focus (walk_at "ev")))
    | ((with_reducible apply ev_lenN); (focus (walk_at "en")))
    | ((with_reducible apply ev_max2); (focus (walk_at "ev")); (focus (walk_at "ev")))
    | ((with_reducible apply ev_min2); (focus (walk_at "ev")); (focus (walk_at "ev")))
    | ((with_reducible apply ev_int1); (focus (walk_at "ev")))
    | ((with_reducible apply ev_tupleL); (focus (walk_at "ev")))
    | ((with_reducible apply ev_tupleN); (focus (walk_at "en")))
    | ((with_reducible apply ev_countT); (focus (walk_at "ev")); (focus (walk_at "ev")))
    | ((with_reducible apply ev_andV); (focus (walk_at "ev")); (focus (intro _; walk_at "ev")))
    | ((with_reducible apply ev_orV); (focus (walk_at "ev")); (focus (intro _; walk_at "ev")))
    | ((with_reducible apply ev_notV); (focus (walk_at "ev"))))
section
variable {P : Program} {w : World} {K : PySem.W.Frag} {mg : Str → Option Value} {base : Heap}
end
end K1
set_option maxRecDepth 10000000
namespace K1
open Pt
end K1
set_option maxRecDepth 10000000
namespace K1
open Pt
def rowIn (n : Int) (l : List Int) : Prop := ∀ x ∈ l, 0 ≤ x ∧ x < n
end K1
set_option maxRecDepth 10000000
namespace K1
open PySem PySem.Spec PyProof.Rows L2 Pt
local macro_rules
  | `(tactic| walk_at "sz") => `(tactic| first
    | omega
    | decide
    | (simp; omega)
    | (simp [iL, row, pairsD]; omega))
  | `(tactic| walk_at "ea") => `(tactic| first
    | (with_reducible exact ea_nil)
    | ((with_reducible apply ea_consL); (focus (walk_at "ev")); (focus (walk_at "ea")))
    | ((with_reducible apply ea_consS); (focus (walk_at "ev")); (focus (walk_at "ea")))
    | ((with_reducible apply ea_cons); (focus (walk_at "ev")); (focus (walk_at "ea")))
    | ((with_reducible apply ea_consN); (focus (walk_at "en")); (focus (walk_at "ea"))))
  | `(tactic| walk_at "ed") => `(tactic| first
    | (with_reducible exact ed_nil)
    | ((with_reducible apply ed_cons); (focus (walk_at "ev")); (focus (walk_at "ed"))))
  | `(tactic| walk_at "en") => `(tactic| first
    | ((with_reducible apply en_lst); (focus (walk_at "ed")); (focus (simp)))
    | ((with_reducible apply en_listT); (focus (walk_at "ev")))
    | ((with_reducible apply en_addL); (focus (walk_at "ev")); (focus (walk_at "en")); (focus (walk_at "sz")))
    | ((with_reducible apply en_addN); (focus (walk_at "en")); (focus (walk_at "en")); (focus (walk_at "sz")))
    | ((with_reducible apply en_slL); (focus (walk_at "ev")); (focus (walk_at "eo")); (focus (walk_at "eo"))))
  | `(tactic| walk_at "eo") => `(tactic| first
    | (with_reducible exact eo_none)
    | ((with_reducible apply eo_some); (focus (walk_at "ev"))))
  | `(tactic| walk_at "et") => `(tactic| first
    | (with_reducible exact et_yes)
    | ((with_reducible apply et_test); (focus (walk_at "ev")))
    | ((with_reducible apply et_B); (focus (walk_at "ev")))
    | ((with_reducible apply et_truB); (focus (walk_at "ev")))
    | ((with_reducible apply et_truT); (focus (walk_at "ev")))
    | ((with_reducible apply et_not); (focus (walk_at "et")))
    | ((with_reducible apply et_and); (focus (walk_at "et")); (focus (intro _; walk_at "et")))
    | ((with_reducible apply et_or); (focus (walk_at "et")); (focus (intro _; walk_at "et"))))
  | `(tactic| walk_at "var") => `(tactic| first
    | ((with_reducible apply ev_varD); (focus (assumption)); (focus (rfl)))
    | ((with_reducible apply ev_varL); (focus (assumption)); (focus (rfl)))
    | ((with_reducible apply ev_varS); (focus (assumption)); (focus (rfl)))
    | ((with_reducible apply ev_varT); (focus (assumption)); (focus (rfl)))
    | ((with_reducible apply ev_varH); (focus (assumption)); (focus (rfl)))
    | ((with_reducible apply ev_varZ); (focus (assumption)); (focus (rfl))))
  | `(tactic| walk_at "ev") => `(tactic| first
    | walk_at "var"
    | (with_reducible exact ev_int)
    | (with_reducible exact ev_bl)
    | (with_reducible exact ev_str)
    | (with_reducible exact ev_non)
    | ((with_reducible apply ev_letters); (focus (walk_at "ev")))
    | ((with_reducible apply ev_pairs); (focus (walk_at "ev")))
    | ((with_reducible apply ev_addI); (focus (walk_at "ev")); (focus (walk_at "ev")))
    | ((with_reducible apply ev_addT); (focus (walk_at "ev")); (focus (walk_at "ev")); (focus (walk_at "sz")))
    | ((with_reducible apply ev_i0); (focus (walk_at "ev")); (focus (walk_at "ev")); (focus (first | exact fun _ => .int _ | exact fun _ => .bl _)))
    | ((with_reducible apply ev_iC); (focus (walk_at "ev")); (focus (walk_at "ev")); (focus (first | assumption | walk_at "cond")); (focus (exact fun _ => .int _)))
    | ((with_reducible apply ev_chain); (focus (walk_at "ev")); (focus (walk_at "ev")); (focus (walk_at "ev")))
    | ((with_reducible apply ev_eqI); (focus (walk_at "ev")); (focus (walk_at "ev")))
    | ((with_reducible apply ev_neI); (focus (walk_at "ev")); (focus (walk_at "ev")))
    | ((with_reducible apply ev_eqR); (focus (walk_at "ev")); (focus (walk_at "ev")))
    | ((with_reducible apply ev_neR); (focus (walk_at "ev")); (focus (walk_at "ev")))
    | ((with_reducible apply ev_isN); (focus (walk_at "ev")))
    | ((with_reducible apply ev_notN); (focus (walk_at "ev")))
    | ((with_reducible apply ev_in2); (focus (walk_at "ev")); (focus (walk_at "ev")); (focus (walk_at "ev")))
    | ((with_reducible apply ev_inP); (focus (walk_at "ev")); (focus (walk_at "ev")))
    | ((with_reducible apply ev_tup); (focus (walk_at "ed")); (focus (simp)))
    | ((with_reducible apply ev_lenT); (focus (walk_at "ev")))
    | ((with_reducible apply ev_lenL); (focus (walk_at "ev")))
    | ((with_reducible apply ev_lenS); (focus (walk_at "ev")))
    | ((with_reducible apply ev_lenN); (focus (walk_at "en")))
    | ((with_reducible apply ev_max2); (focus (walk_at "ev")); (focus (walk_at "ev")))
    | ((with_reducible apply ev_min2); (focus (walk_at "ev")); (focus (walk_at "ev")))
    | ((with_reducible apply ev_int1); (focus (walk_at "ev")))
    | ((with_reducible apply ev_tupleL); (focus (walk_at "ev")))
    | ((with_reducible apply ev_tupleN); (focus (walk_at "en")))
    | ((with_reducible apply ev_countT); (focus (walk_at "ev")); (focus (walk_at "ev")))
    | ((with_reducible apply ev_andV); (focus (walk_at "ev")); (focus (intro _; walk_at "ev")))
    | ((with_reducible apply ev_orV); (focus (walk_at "ev")); (focus (intro _; walk_at "ev")))
    | ((with_reducible apply ev_notV); (focus (walk_at "ev"))))
section
variable {P : Program} {w : World} {K : PySem.W.Frag} {mg : Str → Option Value} {base : Heap}
end
end K1
set_option maxRecDepth 10000000
namespace K1
open PySem PySem.Spec PyProof.Rows L2 Pt
local macro_rules
  | `(tactic| walk_at "sz") => `(tactic| first
    | omega
    | decide
    | (simp; omega)
    | (simp [iL, row, pairsD]; omega))
  | `(tactic| walk_at "ea") => `(tactic| first
    | (with_reducible exact ea_nil)
    | ((with_reducible apply ea_consL); (focus (walk_at "ev")); (focus (walk_at "ea")))
    | ((with_reducible apply ea_consS); (focus (walk_at "ev")); (focus (walk_at "ea")))
    | ((with_reducible apply ea_cons); (focus (walk_at "ev")); (focus (walk_at "ea")))
    | ((with_reducible apply ea_consN); (focus (walk_at "en")); (focus (walk_at "ea"))))
  | `(tactic| walk_at "ed") => `(tactic| first
    | (with_reducible exact ed_nil)
    | ((with_reducible apply ed_cons); (focus (walk_at "ev")); (focus (walk_at "ed"))))
  | `(tactic| walk_at "en") => `(tactic| first
    | ((with_reducible apply en_lst); (focus (walk_at "ed")); (focus (simp)))
    | ((with_reducible apply en_listT); (focus (walk_at "ev")))
    | ((with_reducible apply en_addL); (focus (walk_at "ev")); (focus (walk_at "en")); (focus (walk_at "sz")))
    | ((with_reducible apply en_addN); (focus (walk_at "en")); (focus (walk_at "en")); (focus (walk_at "sz")))
    | ((with_reducible apply en_slL); (focus (walk_at "ev")); (focus (walk_at "eo")); (focus (walk_at "eo"))))
  | `(tactic| walk_at "eo") => `(tactic| first
    | (with_reducible exact eo_none)
    | ((with_reducible apply eo_some); (focus (walk_at "ev"))))
  | `(tactic| walk_at "et") => `(tactic| first
    | (with_reducible exact et_yes)
    | ((with_reducible apply et_test); (focus (walk_at "ev")))
    | ((with_reducible apply et_B); (focus (walk_at "ev")))
    | ((with_reducible apply et_truB); (focus (walk_at "ev")))
    | ((with_reducible apply et_truT); (focus (walk_at "ev")))
    | ((with_reducible apply et_not); (focus (walk_at "et")))
    | ((with_reducible apply et_and); (focus (walk_at "et")); (focus (intro _; walk_at "et")))
    | ((with_reducible apply et_or); (focus (walk_at "et")); (focus (intro _; walk_at "et"))))
  | `(tactic| walk_at "var") => `(tactic| first
    | ((with_reducible apply ev_varD); (focus (assumption)); (focus (rfl)))
    | ((with_reducible apply ev_varL); (focus (assumption)); (focus (rfl)))
    | ((with_reducible apply ev_varS); (focus (assumption)); (focus (rfl)))
    | ((with_reducible apply ev_varT); (focus (assumption)); (focus (rfl)))
    | ((with_reducible apply ev_varH); (focus (assumption)); (focus (rfl)))
    | ((with_reducible apply ev_varZ); (focus (assumption)); (focus (rfl))))
  | `(tactic| walk_at "ev") => `(tactic| first
    | walk_at "var"
    | (with_reducible exact ev_int)
    | (with_reducible exact ev_bl)
    | (with_reducible exact ev_str)
    | (with_reducible exact ev_non)
    | ((with_reducible apply ev_letters); (focus (walk_at "ev")))
    | ((with_reducible apply ev_pairs); (focus (walk_at "ev")))
    | ((with_reducible apply ev_addI); (focus (walk_at "ev")); (focus (walk_at "ev")))
    | ((with_reducible apply ev_addT); (focus (walk_at "ev")); (focus (walk_at "ev")); (focus (walk_at "sz")))
    | ((with_reducible apply ev_i0); (focus (walk_at "ev")); (focus (walk_at "ev")); (focus (first | exact fun _ => .int _ | exact fun _ => .bl _)))
    | ((with_reducible apply ev_iC); (focus (walk_at "ev")); (focus (walk_at "ev")); (focus (first | assumption | walk_at "cond")); (focus (exact fun _ => .int _)))
    | ((with_reducible apply ev_chain); (focus (walk_at "ev")); (focus (walk_at "ev")); (focus (walk_at "ev")))
    | ((with_reducible apply ev_eqI); (focus (walk_at "ev")); (focus (walk_at "ev")))
    | ((with_reducible apply ev_neI); (focus (walk_at "ev")); (focus (walk_at "ev")))
    | ((with_reducible apply ev_eqR); (focus (walk_at "ev")); (focus (walk_at "ev")))
    | ((with_reducible apply ev_neR); (focus (walk_at "ev")); (focus (walk_at "ev")))
    | ((with_reducible apply ev_isN); (focus (walk_at "ev")))
    | ((with_reducible apply ev_notN); (focus (walk_at "ev")))
    | ((with_reducible apply ev_in2); (focus (walk_at "ev")); (focus (walk_at "ev")); (focus (walk_at "ev")))
    | ((with_reducible apply ev_inP); (focus (walk_at "ev")); (focus (walk_at "ev")))
    | ((with_reducible apply ev_tup); (focus (walk_at "ed")); (focus (simp)))
    | ((with_reducible apply ev_lenT); (focus (walk_at "ev")))
    | ((with_reducible apply ev_lenL); (focus (walk_at "ev")))
    | ((with_reducible apply ev_lenS); (focus (walk_at "ev")))
    | ((with_reducible apply ev_lenN); (focus (walk_at "en")))
    | ((with_reducible apply ev_max2); (focus (walk_at "ev")); (focus (walk_at "ev")))
    | ((with_reducible apply ev_min2); (focus (walk_at "ev")); (focus (walk_at "ev")))
    | ((with_reducible apply ev_int1); (focus (walk_at "ev")))
    | ((with_reducible apply ev_tupleL); (focus (walk_at "ev")))
    | ((with_reducible apply ev_tupleN); (focus (walk_at "en")))
    | ((with_reducible apply ev_countT); (focus (walk_at "ev")); (focus (walk_at "ev")))
    | ((with_reducible apply ev_andV); (focus (walk_at "ev")); (focus (intro _; walk_at "ev")))
    | ((with_reducible apply ev_orV); (focus (walk_at "ev")); (focus (intro _; walk_at "ev")))
    | ((with_reducible apply ev_notV); (focus (walk_at "ev"))))
section
variable {P : Program} {w : World} {K : PySem.W.Frag} {mg : Str → Option Value} {base : Heap}
def barN (ps : List (Int × Int)) (a : Int) : Nat → Nat
  | 0 => 0
  | k + 1 => if may ps a k = true then barN ps a k else barN ps a k ||| 2 ^ k
theorem barN_bit (ps : List (Int × Int)) (a : Int) : ∀ k j : Nat, (barN ps a k).testBit j = (decide (j < k) && !may ps a j)
  | 0, j => by simp [barN]
  | k + 1, j => by
    unfold barN
    by_cases h : may ps a k = true
    · rw [if_pos h, barN_bit ps a k j]
      by_cases e : j = k
      · subst e; simp [h]
      · rw [show decide (j < k + 1) = decide (j < k) by congr 1; simp; omega]
    · rw [if_neg h, Nat.testBit_or, barN_bit ps a k j, Nat.testBit_two_pow]
      by_cases e : j = k
      · subst e; simp [h]
      · rw [show decide (j < k + 1) = decide (j < k) by congr 1; simp; omega, decide_eq_false (p := k = j) (fun z => e z.symm), Bool.or_false]
def barsL (n : Int) (ps : List (Int × Int)) : List Int := (List.range n.toNat).map fun a : Nat => ((barN ps a n.toNat : Nat) : Int)
theorem bitOr_nat (a b : Nat) : Builtin.bitOr (a : Int) (b : Int) = ((a ||| b : Nat) : Int) := by
  rw [Bits.bitOr_pp (Int.natCast_nonneg a) (Int.natCast_nonneg b)]
  simp
abbrev A_bars_of (as : List Ag) (ds : List PyData) : Prop := ∃ (n : Int) (ps : List (Int × Int)), 0 ≤ n ∧ n ≤ 6 ∧ as = [.c (.t n ps)] ∧ ds = iL (barsL n ps)
theorem ok_bars_of (E : Nv K mg) : FnOk P w K mg base CX0 12 E.a_bars_of E.d_bars_of ["trade"] (spN K E.C_Trade A_bars_of) := by
  refine E.F_bars_of.ok sc_bars_of (fun vs H Q _ h => ?_) (fun cdv A outer s H vs Q _ hr h => ?_)
  · obtain ⟨as, d, ha, ⟨_, _, _, _, rfl, _⟩, _⟩ := h
    exact ha.length
  · obtain ⟨as, d, ha, ⟨n, ps, h0, h6, rfl, rfl⟩, q⟩ := h
    obtain ⟨v1, rfl, a1⟩ := ha.one
    refine ⟨_, (pss_cons (ps_set (i := 1) sc_bars_of.nd rfl (.inl rfl) (pe_lst pa_nil))
      (pss_cons (ps_for PassesOwn.never rfl (pi_range1 (by rfl) E.n_range (pa_cons (pe_prop (pv 0) E.cl E.p_letters (ok_Trade_letters E) (hr.mono (by first | decide | omega)) E.b_Trade_letters .nil pass0 rfl) pa_nil)) (pg_name (i := 2) sc_bars_of.nd rfl (.inl rfl))
      (pss_cons (ps_set (i := 3) sc_bars_of.nd rfl (.inl rfl) pe_int)
      (pss_cons (ps_for PassesOwn.never rfl (pi_range1 (by rfl) E.n_range (pa_cons (pe_prop (pv 0) E.cl E.p_letters (ok_Trade_letters E) (hr.mono (by first | decide | omega)) E.b_Trade_letters .nil pass0 rfl) pa_nil)) (pg_name (i := 4) sc_bars_of.nd rfl (.inl rfl))
      (pss_one (ps_if (pt_not (pt_truK K (pe_call (ok_may_change E) (hr.mono (by first | decide | omega)) (by rfl) E.m_may_change E.F_may_change.kp E.b_may_change .nil pass0 (pa_cons (pv 0) (pa_cons (pv 2) (pa_cons (pv 4) pa_nil)))) (fun _ => rfl))) (pss_one (ps_set (i := 3) sc_bars_of.nd rfl (.inl rfl) (pe_op op_or (pv 3) (pe_op op_shl pe_int (pv 4))))) pss_nil)))
      (pss_one (ps_expr (pe_bm PySem.F.plainAttrs_list PySem.F.slot_list_append PySem.F.type_list_append mt_append (pv 1) (pa_cons (pv 3) pa_nil)))))))
      (pss_one (ps_ret (pv 1))))), ?_⟩
    have w : Wd K E.C_Trade [] [] H H _ [.t n ps, .u, .u, .u, .u] := Wd.start1 (N := N_bars_of) a1
    refine q_asgN w (en_lst ed_nil) fun p σ1 H1 hp1 w1 => ?_
    refine q_forR1 w1 (n := n) (by walk_at "ea") (by omega) (fun k σ H' => ∃ c2 c3 c4, Wd K E.C_Trade [] [] H H' σ [.t n ps, .l p (iL ((barsL n ps).take k)), c2, c3, c4]) (fun H1 w1 => ⟨_, _, _, w1⟩) ?_ ?_
    · rintro k σ H' hk ⟨c2, c3, c4, w2⟩
      have w3 : Wd K E.C_Trade [] [] H H' _ [.t n ps, .l p (iL ((barsL n ps).take k)), .d (.int k), c3, c4] := w2.set 2 (v := .int k) (c := .d (.int k)) (Td.int _)
      refine q_asgD w3 ev_int fun σ4 H4 w4 => ?_
      refine q_forR1 w4 (n := n) (by walk_at "ea") (by omega) (fun i σ H' => ∃ c4, Wd K E.C_Trade [] [] H H' σ [.t n ps, .l p (iL ((barsL n ps).take k)), .d (.int k), .d (.int (barN ps k i : Nat)), c4]) (fun H1 w1 => ⟨_, w1⟩) ?_ ?_
      · rintro i σ H' hi ⟨c4, w5⟩
        have w6 : Wd K E.C_Trade [] [] H H' _ [.t n ps, .l p (iL ((barsL n ps).take k)), .d (.int k), .d (.int (barN ps k i : Nat)), .d (.int i)] := w5.set 4 (v := .int i) (c := .d (.int i)) (Td.int _)
        refine s_if w6 (b := !may ps k i) (et_not (et_truB (ev_call (by walk_at "ea") ⟨_, _, _, _, rfl, rfl⟩))) (fun e H7 w7 => ?_) (fun e H7 w7 => ?_)
        · have e' : ¬ may ps k i = true := by simpa using e
          refine s_asgD w7 (d := .int (barN ps k (i + 1) : Nat)) (ev_d (ev_i0 (ev_var w7 rfl) (ev_iC (d := .int (1 * 2 ^ (i : Int).toNat)) ev_int (ev_var w7 rfl) ⟨by omega, by omega, by decide⟩ (fun _ => .int _)) (fun _ => .int _)) ?_) fun σ8 H8 w8 => ⟨_, w8⟩
          rw [Int.toNat_natCast, Int.one_mul, show ((2 : Int) ^ i) = ((2 ^ i : Nat) : Int) by simp, bitOr_nat]
          rw [show barN ps k (i + 1) = barN ps k i ||| 2 ^ i from if_neg e']
        · have e' : may ps k i = true := by simpa using e
          refine s_next ⟨.d (.int i), ?_⟩
          rw [show barN ps k (i + 1) = barN ps k i from if_pos e']
          exact w7
      · rintro σ H' ⟨c4, w5⟩
        refine s_app w5 rfl (ev_var w5 rfl) (by rw [iL_len, List.length_take]; omega) fun H8 w8 => ⟨.d (.int k), .d (.int (barN ps k n.toNat : Nat)), c4, ?_⟩
        have hk' : k < n.toNat := by omega
        have e0 : (barsL n ps)[k]? = some ((barN ps k n.toNat : Nat) : Int) := by
          unfold barsL
          rw [List.getElem?_map, List.getElem?_range hk']
          rfl
        rw [List.take_add_one, e0, iL_app]
        exact w8
    · rintro σ H' ⟨c2, c3, c4, w2⟩
      have e : (barsL n ps).take n.toNat = barsL n ps := List.take_of_length_le (by unfold barsL; rw [List.length_map, List.length_range]; exact Nat.le_refl _)
      rw [e] at w2
      exact s_retLQ w2 q rfl
def canFirst (ps : List (Int × Int)) (l : List Int) (p : Nat) : Bool := (l.take p).all fun x => may ps x (l.getD p 0)
def firstsL (ps : List (Int × Int)) (l : List Int) : List (Int × Int) := ((List.range l.length).filter (canFirst ps l)).map fun p : Nat => (l.getD p 0, (p : Int))
def barred (n : Int) (ps : List (Int × Int)) : List Int → Nat
  | [] => 0
  | x :: r => barN ps x n.toNat ||| barred n ps r
theorem barred_bit (n : Int) (ps : List (Int × Int)) (j : Nat) : ∀ l : List Int, (barred n ps l).testBit j = (decide (j < n.toNat) && !(l.all fun x => may ps x j))
  | [] => by simp [barred]
  | x :: r => by
    unfold barred
    rw [Nat.testBit_or, barN_bit, barred_bit n ps j r, List.all_cons, Bool.not_and, Bool.and_or_distrib_left]
theorem barred_snoc (n : Int) (ps : List (Int × Int)) (x : Int) : ∀ l : List Int, barred n ps (l ++ [x]) = barred n ps l ||| barN ps x n.toNat
  | [] => by simp [barred]
  | y :: r => by
    show barN ps y n.toNat ||| barred n ps (r ++ [x]) = (barN ps y n.toNat ||| barred n ps r) ||| barN ps x n.toNat
    rw [barred_snoc n ps x r, Nat.or_assoc]
theorem bars_get {n : Int} {ps : List (Int × Int)} {x : Int} (h0 : 0 ≤ x) (hn : x < n) : atI (iL (barsL n ps)) x = some (.int (barN ps x n.toNat : Nat)) := by
  have e : x = ((x.toNat : Nat) : Int) := by omega
  rw [e]
  refine atI_nat ?_
  rw [iL_get]
  unfold barsL
  rw [List.getElem?_map, List.getElem?_range (by omega)]
  simp only [Option.map_some, ← e]
theorem shr_and (b j : Nat) : Builtin.bitAnd ((b : Int) / 2 ^ j) 1 = (if b.testBit j = true then 1 else 0 : Int) := by
  rw [PyProof.Rows.bitAnd_m1, show (2 : Int) ^ j = ((2 ^ j : Nat) : Int) by simp, ← Int.natCast_ediv, Nat.testBit_eq_decide_div_mod_eq]
  have h : b / 2 ^ j % 2 < 2 := Nat.mod_lt _ (by decide)
  by_cases e : b / 2 ^ j % 2 = 1
  · rw [if_pos (decide_eq_true e)]
    omega
  · rw [if_neg (by simpa using e)]
    omega
abbrev A_first_letters (as : List Ag) (ds : List PyData) : Prop := ∃ (n : Int) (ps : List (Int × Int)) (l : List Int), PairsOk n ps ∧ 0 ≤ n ∧ n ≤ 6 ∧ l.length ≤ 20 ∧ rowIn n l ∧ as = [.n (iL (barsL n ps)), .c (.d (row l))] ∧ ds = (firstsL ps l).map Pt.pairD
theorem can_bit {n : Int} {ps : List (Int × Int)} {l : List Int} {t : Nat} (ht : t < l.length) (h : rowIn n l) : (!(barred n ps (l.take t)).testBit l[t].toNat) = canFirst ps l t := by
  have hx := h _ (List.getElem_mem ht)
  rw [barred_bit, decide_eq_true (show l[t].toNat < n.toNat by omega), Bool.true_and, Bool.not_not]
  unfold canFirst
  have e1 : l.getD t 0 = l[t] := by rw [List.getD_eq_getElem?_getD, List.getElem?_eq_getElem ht]; rfl
  rw [e1, Int.toNat_of_nonneg hx.1]
def firstsTo (ps : List (Int × Int)) (l : List Int) (t : Nat) : List (Int × Int) := ((List.range t).filter (canFirst ps l)).map fun p : Nat => (l.getD p 0, (p : Int))
theorem firstsTo_succ (ps : List (Int × Int)) (l : List Int) (t : Nat) : firstsTo ps l (t + 1) = if canFirst ps l t = true then firstsTo ps l t ++ [(l.getD t 0, (t : Int))] else firstsTo ps l t := by
  unfold firstsTo
  rw [List.range_succ, List.filter_append, List.map_append]
  cases e : canFirst ps l t <;> simp [e]
theorem firstsTo_len (ps : List (Int × Int)) (l : List Int) (t : Nat) : (firstsTo ps l t).length ≤ t := by
  unfold firstsTo
  rw [List.length_map]
  exact Nat.le_trans (List.length_filter_le _ _) (by rw [List.length_range]; exact Nat.le_refl _)
theorem ok_first_letters (E : Nv K mg) : FnOk P w K mg base CX0 4 E.a_first_letters E.d_first_letters ["bars", "row"] (spN K E.C_Trade A_first_letters) := by
  refine E.F_first_letters.ok sc_first_letters (fun vs H Q _ h => ?_) (fun cdv A outer s H vs Q _ hr h => ?_)
  · obtain ⟨as, d, ha, ⟨_, _, _, _, _, _, _, _, rfl, _⟩, _⟩ := h
    exact ha.length
  · obtain ⟨as, d, ha, ⟨n, ps, l, hok, h0, h6, hl, hin, rfl, rfl⟩, q⟩ := h
    obtain ⟨v1, v2, rfl, a1, a2⟩ := ha.two
    obtain ⟨pb, a1⟩ := a1.lent
    refine ⟨_, (pss_cons (ps_set (i := 2) sc_first_letters.nd rfl (.inl rfl) (pe_lst pa_nil))
      (pss_cons (ps_set (i := 3) sc_first_letters.nd rfl (.inl rfl) pe_int)
      (pss_cons (ps_for PassesOwn.never rfl (pi_enumTK K (by rfl) E.n_enumerate (pa_cons (pv 1) pa_nil)) (pg_tupK K (n := 2) rfl (pgs_cons (pg_name (i := 4) sc_first_letters.nd rfl (.inl rfl)) (pgs_cons (pg_name (i := 5) sc_first_letters.nd rfl (.inl rfl)) pgs_nil)))
      (pss_cons (ps_if (pt_cmpR (op_eqK K hr.units) (pe_op op_and (pe_op op_shr (pv 3) (pv 5)) pe_int) pe_int (nomark _)) (pss_one (ps_expr (pe_bm PySem.F.plainAttrs_list PySem.F.slot_list_append PySem.F.type_list_append mt_append (pv 2) (pa_cons (pe_tupF (pa_cons (pv 5) (pa_cons (pv 4) pa_nil))) pa_nil)))) pss_nil)
      (pss_one (ps_set (i := 3) sc_first_letters.nd rfl (.inl rfl) (pe_op op_or (pv 3) (pe_ix (ix_K K) (pv 0) (pv 5) (fun _ _ => rfl)))))))
      (pss_one (ps_ret (pv 2)))))), ?_⟩
    have w : Wd K E.C_Trade [] [] H H _ [.s pb (iL (barsL n ps)), .d (row l), .u, .u, .u, .u] := Wd.start2 (N := N_first_letters) a1 a2
    refine q_asgN w (en_lst ed_nil) fun p σ1 H1 hp1 w1 => ?_
    refine q_asgD w1 ev_int fun σ2 H2 w2 => ?_
    refine q_forE w2 (ev_var w2 rfl) (fun a t σ H' => ∃ c4 c5, Wd K E.C_Trade [] [(.ref a, row l)] H H' σ [.s pb (iL (barsL n ps)), .d (row l), .l p ((firstsTo ps l t).map Pt.pairD), .d (.int (barred n ps (l.take t) : Nat)), c4, c5]) (fun a H3 w3 => ⟨_, _, w3⟩) (fun a t σ H' ⟨_, _, w3⟩ => w3.gh0) ?_ ?_
    · rintro a t d v σ H' H3 hd tv ⟨c4, c5, w3⟩ e3
      have ht : t < l.length := by
        have := (List.getElem?_eq_some_iff.mp hd).1
        rw [iL_len] at this
        exact this
      have ed : d = .int l[t] := by
        rw [iL_get, List.getElem?_eq_getElem ht] at hd
        exact (Option.some.inj hd).symm
      subst ed
      have hx := hin _ (List.getElem_mem ht)
      have ge : l.getD t 0 = l[t] := by rw [List.getD_eq_getElem?_getD, List.getElem?_eq_getElem ht]; rfl
      have w4 : Wd K E.C_Trade [] [(.ref a, row l)] H H3 _ [.s pb (iL (barsL n ps)), .d (row l), .l p ((firstsTo ps l t).map Pt.pairD), .d (.int (barred n ps (l.take t) : Nat)), .d (.int (t : Nat)), .d (.int l[t])] := ((w3.mono e3).set 4 (v := .int (t : Nat)) (c := .d (.int (t : Nat))) (Td.int _)).set 5 tv
      have w5' : ∀ H5 σ5 ds, Wd K E.C_Trade [] [(.ref a, row l)] H H5 σ5 [.s pb (iL (barsL n ps)), .d (row l), .l p ds, .d (.int (barred n ps (l.take t) : Nat)), .d (.int (t : Nat)), .d (.int l[t])] → ds = (firstsTo ps l (t + 1)).map Pt.pairD → ∀ D : Ends, (∀ σ H', (∃ c4 c5, Wd K E.C_Trade [] [(.ref a, row l)] H H' σ [.s pb (iL (barsL n ps)), .d (row l), .l p ((firstsTo ps l (t + 1)).map Pt.pairD), .d (.int (barred n ps (l.take (t + 1)) : Nat)), c4, c5]) → D.nx σ H') →
          tAsg (tOp (rI0 fun i j => V.int (Builtin.bitOr i j)) (tVar 3) (tOp (rIx K) (tVar 0) (tVar 5))) (gName 3) D σ5 H5 := fun H5 σ5 ds w5 eds D k => by
        subst eds
        refine s_asgD w5 (d := .int (barred n ps (l.take (t + 1)) : Nat)) (ev_d (ev_i0 (ev_var w5 rfl) (ev_ixS (ev_var w5 rfl) (ev_var w5 rfl) (bars_get hx.1 hx.2)) (fun _ => .int _)) ?_) fun σ6 H6 w6 => k _ _ ⟨_, _, w6⟩
        rw [bitOr_nat, List.take_succ_eq_append_getElem ht, barred_snoc]
      refine q_if w4 (b := canFirst ps l t) (et_cast (et_test (ev_eqI (ev_i0 (ev_iC (d := .int ((barred n ps (l.take t) : Nat) / 2 ^ l[t].toNat)) (ev_var w4 rfl) (ev_var w4 rfl) hx.1 (fun _ => .int _)) ev_int (fun _ => .int _)) ev_int)) ?_) (fun e H5 w5 => ?_) (fun e H5 w5 => ?_)
      · rw [shr_and, ← can_bit ht hin]
        cases (barred n ps (l.take t)).testBit l[t].toNat <;> simp
      · refine s_app w5 rfl (d := Pt.pairD (l[t], (t : Int))) (ev_tup (ed_cons (ev_var w5 rfl) (ed_cons (ev_var w5 rfl) ed_nil))) (by rw [List.length_map]; have := firstsTo_len ps l t; omega) fun H6 w6 => ?_
        refine w5' H6 _ _ w6 ?_ _ fun _ _ z => z
        rw [firstsTo_succ, if_pos e, List.map_append, ge]
        rfl
      · refine s_next ?_
        refine w5' H5 _ _ w5 ?_ _ fun _ _ z => z
        rw [firstsTo_succ, if_neg (by rw [e]; exact Bool.false_ne_true)]
    · rintro a σ H' ⟨c4, c5, w3⟩
      rw [iL_len] at w3
      exact s_retLQ w3 q rfl
abbrev A_without (as : List Ag) (d : PyData) : Prop := ∃ (l : List Int) (p : Nat), p < l.length ∧ l.length < 1000 ∧ as = [.c (.d (row l)), .c (.d (.int (p : Nat)))] ∧ d = row (l.eraseIdx p)
theorem ok_without (E : Nv K mg) : FnOk P w K mg base CX0 4 E.a_without E.d_without ["row", "place"] (spC K E.C_Trade A_without) := by
  refine E.F_without.ok sc_without (fun vs H Q _ h => ?_) (fun cdv A outer s H vs Q _ hr h => ?_)
  · obtain ⟨as, d, ha, ⟨_, _, _, _, rfl, _⟩, _⟩ := h
    exact ha.length
  · obtain ⟨as, d, ha, ⟨l, p, hp, hl, rfl, rfl⟩, q⟩ := h
    obtain ⟨v1, v2, rfl, a1, a2⟩ := ha.two
    refine ⟨_, (pss_one (ps_ret (pe_op (op_addK K) (pe_slice (sl_K K) (pv 0) po_none (po_some (pv 1))) (pe_slice (sl_K K) (pv 0) (po_some (pe_op (op_addK K) (pv 1) pe_int)) po_none)))), ?_⟩
    have w : Wd K E.C_Trade [] [] H H _ [.d (row l), .d (.int (p : Nat))] := Wd.start2 (N := N_without) a1 a2
    have e1 : ((p : Nat) : Int) + 1 = ((p + 1 : Nat) : Int) := by omega
    refine s_retQ w q (ev_d (ev_addT (ev_slT (ev_var w rfl) eo_none (eo_some (ev_var w rfl))) (ev_slT (lo := some ((p + 1 : Nat) : Int)) (ev_var w rfl) (eo_some (ev_d (ev_addI (ev_var w rfl) ev_int) (by rw [e1]))) eo_none) ?_) ?_)
    · rw [cut_to, cut_from, List.length_take, List.length_drop, iL_len]
      omega
    · rw [cut_to, cut_from, List.eraseIdx_eq_take_drop_succ]
      show PyData.tuple _ = .tuple (iL _)
      unfold iL
      rw [List.map_append, List.map_take, List.map_drop]
end
end K1
set_option maxRecDepth 10000000
namespace K1
open PySem PySem.Spec PyProof.Rows L2 Pt
local macro_rules
  | `(tactic| walk_at "sz") => `(tactic| first
    | omega
    | decide
    | (simp; omega)
    | (simp [iL, row, pairsD]; omega))
  | `(tactic| walk_at "ea") => `(tactic| first
    | (with_reducible exact ea_nil)
    | ((with_reducible apply ea_consL); (focus (walk_at "ev")); (focus (walk_at "ea")))
    | ((with_reducible apply ea_consS); (focus (walk_at "ev")); (focus (walk_at "ea")))
    | ((with_reducible apply ea_cons); (focus (walk_at "ev")); (focus (walk_at "ea")))
    | ((with_reducible apply ea_consN); (focus (walk_at "en")); (focus (walk_at "ea"))))
  | `(tactic| walk_at "ed") => `(tactic| first
    | (with_reducible exact ed_nil)
    | ((with_reducible apply ed_cons); (focus (walk_at "ev")); (focus (walk_at "ed"))))
  | `(tactic| walk_at "en") => `(tactic| first
    | ((with_reducible apply en_lst); (focus (walk_at "ed")); (focus (simp)))
    | ((with_reducible apply en_listT); (focus (walk_at "ev")))
    | ((with_reducible apply en_addL); (focus (walk_at "ev")); (focus (walk_at "en")); (focus (walk_at "sz")))
    | ((with_reducible apply en_addN); (focus (walk_at "en")); (focus (walk_at "en")); (focus (walk_at "sz")))
    | ((with_reducible apply en_slL); (focus (walk_at "ev")); (focus (walk_at "eo")); (focus (walk_at "eo"))))
  | `(tactic| walk_at "eo") => `(tactic| first
    | (with_reducible exact eo_none)
    | ((with_reducible apply eo_some); (focus (walk_at "ev"))))
  | `(tactic| walk_at "et") => `(tactic| first
    | (with_reducible exact et_yes)
    | ((with_reducible apply et_test); (focus (walk_at "ev")))
    | ((with_reducible apply et_B); (focus (walk_at "ev")))
    | ((with_reducible apply et_truB); (focus (walk_at "ev")))
    | ((with_reducible apply et_truT); (focus (walk_at "ev")))
    | ((with_reducible apply et_not); (focus (walk_at "et")))
    | ((with_reducible apply et_and); (focus (walk_at "et")); (focus (intro _; walk_at "et")))
    | ((with_reducible apply et_or); (focus (walk_at "et")); (focus (intro _; walk_at "et"))))
  | `(tactic| walk_at "var") => `(tactic| first
    | ((with_reducible apply ev_varD); (focus (assumption)); (focus (rfl)))
    | ((with_reducible apply ev_varL); (focus (assumption)); (focus (rfl)))
    | ((with_reducible apply ev_varS); (focus (assumption)); (focus (rfl)))
    | ((with_reducible apply ev_varT); (focus (assumption)); (focus (rfl)))
    | ((with_reducible apply ev_varH); (focus (assumption)); (focus (rfl)))
    | ((with_reducible apply ev_varZ); (focus (assumption)); (focus (rfl))))
  | `(tactic| walk_at "ev") => `(tactic| first
    | walk_at "var"
    | (with_reducible exact ev_int)
    | (with_reducible exact ev_bl)
    | (with_reducible exact ev_str)
    | (with_reducible exact ev_non)
    | ((with_reducible apply ev_letters); (focus (walk_at "ev")))
    | ((with_reducible apply ev_pairs); (focus (walk_at "ev")))
    | ((with_reducible apply ev_addI); (focus (walk_at "ev")); (focus (walk_at "ev")))
    | ((with_reducible apply ev_addT); (focus (walk_at "ev")); (focus (walk_at "ev")); (focus (walk_at "sz")))
    | ((with_reducible apply ev_i0); (focus (walk_at "ev")); (focus (walk_at "ev")); (focus (first | exact fun _ => .int _ | exact fun _ => .bl _)))
    | ((with_reducible apply ev_iC); (focus (walk_at "ev")); (focus (walk_at "ev")); (focus (first | assumption | walk_at "cond")); (focus (exact fun _ => .int _)))
    | ((with_reducible apply ev_chain); (focus (walk_at "ev")); (focus (walk_at "ev")); (focus (walk_at "ev")))
    | ((with_reducible apply ev_eqI); (focus (walk_at "ev")); (focus (walk_at "ev")))
    | ((with_reducible apply ev_neI); (focus (walk_at "ev")); (focus (walk_at "ev")))
    | ((with_reducible apply ev_eqR); (focus (walk_at "ev")); (focus (walk_at "ev")))
    | ((with_reducible apply ev_neR); (focus (walk_at "ev")); (focus (walk_at "ev")))
    | ((with_reducible apply ev_isN); (focus (walk_at "ev")))
    | ((with_reducible apply ev_notN); (focus (walk_at "ev")))
    | ((with_reducible apply ev_in2); (focus (walk_at "ev")); (focus (walk_at "ev")); (focus (walk_at "ev")))
    | ((with_reducible apply ev_inP); (focus (walk_at "ev")); (focus (walk_at "ev")))
    | ((with_reducible apply ev_tup); (focus (walk_at "ed")); (focus (simp)))
    | ((with_reducible apply ev_lenT); (focus (walk_at "ev")))
    | ((with_reducible apply ev_lenL); (focus (walk_at "ev")))
    | ((with_reducible apply ev_lenS); (focus (walk_at "ev")))
    | ((with_reducible apply ev_lenN); (focus (walk_at "en")))
    | ((with_reducible apply ev_max2); (focus (walk_at "ev")); (focus (walk_at "ev")))
    | ((with_reducible apply ev_min2); (focus (walk_at "ev")); (focus (walk_at "ev")))
    | ((with_reducible apply ev_int1); (focus (walk_at "ev")))
    | ((with_reducible apply ev_tupleL); (focus (walk_at "ev")))
    | ((with_reducible apply ev_tupleN); (focus (walk_at "en")))
    | ((with_reducible apply ev_countT); (focus (walk_at "ev")); (focus (walk_at "ev")))
    | ((with_reducible apply ev_andV); (focus (walk_at "ev")); (focus (intro _; walk_at "ev")))
    | ((with_reducible apply ev_orV); (focus (walk_at "ev")); (focus (intro _; walk_at "ev")))
    | ((with_reducible apply ev_notV); (focus (walk_at "ev"))))
section
variable {P : Program} {w : World} {K : PySem.W.Frag} {mg : Str → Option Value} {base : Heap}
def ltB (p q : Int × Int) : Bool := decide (p.1 < q.1 ∨ (p.1 = q.1 ∧ p.2 < q.2))
def minP (p : Int × Int) (ps : List (Int × Int)) : Int × Int := ps.foldl (fun a y => if ltB y a = true then y else a) p
theorem minD_pairs (ps : List (Int × Int)) : ∀ p : Int × Int, PySem.W.minD (Pt.pairD p) (ps.map Pt.pairD) = Pt.pairD (minP p ps) := by
  unfold PySem.W.minD minP
  induction ps with
  | nil => intro p; rfl
  | cons y ps ih =>
    intro p
    rw [List.map_cons, List.foldl_cons, List.foldl_cons, ← ih]
    have e : PySem.W.dataLt (Pt.pairD y) (Pt.pairD p) = ltB y p := PySem.W.dataLt_ii y.1 y.2 p.1 p.2
    rw [e]
    cases ltB y p <;> rfl
theorem minP_mem (ps : List (Int × Int)) : ∀ p : Int × Int, minP p ps ∈ p :: ps := by
  unfold minP
  induction ps with
  | nil => intro p; exact List.mem_cons_self
  | cons y ps ih =>
    intro p
    rw [List.foldl_cons]
    have := ih (if ltB y p = true then y else p)
    cases h : ltB y p with
    | true =>
      rw [h, if_pos rfl] at this
      rw [if_pos rfl]
      exact List.mem_cons_of_mem _ this
    | false =>
      rw [h, if_neg Bool.false_ne_true] at this
      rw [if_neg Bool.false_ne_true]
      rcases List.mem_cons.mp this with z | z
      · rw [z]; exact List.mem_cons_self
      · exact List.mem_cons_of_mem _ (List.mem_cons_of_mem _ z)
theorem pairs_alike (ps : List (Int × Int)) : PySem.W.AlikeAll (ps.map Pt.pairD) := by
  refine ⟨fun x hx y hy => ?_, fun x hx => ?_⟩
  · obtain ⟨p, _, rfl⟩ := List.mem_map.mp hx
    obtain ⟨q, _, rfl⟩ := List.mem_map.mp hy
    simp [Pt.pairD, PySem.W.alike, PySem.W.alikeAll]
  · obtain ⟨p, _, rfl⟩ := List.mem_map.mp hx
    intro z; cases z
def bestFirst (ps : List (Int × Int)) (l : List Int) : Int × Int := match firstsL ps l with
  | [] => (0, 0)
  | p :: r => minP p r
def leastGo (ps : List (Int × Int)) : Nat → List Int → List Int
  | 0, _ => []
  | k + 1, l => (bestFirst ps l).1 :: leastGo ps k (l.eraseIdx (bestFirst ps l).2.toNat)
def leastL (ps : List (Int × Int)) (l : List Int) : List Int := leastGo ps l.length l
theorem firsts_ne {ps : List (Int × Int)} {l : List Int} (h : 0 < l.length) : firstsL ps l ≠ [] := by
  have m : (l.getD 0 0, ((0 : Nat) : Int)) ∈ firstsL ps l := List.mem_map.mpr ⟨0, List.mem_filter.mpr ⟨List.mem_range.mpr h, by simp [canFirst]⟩, rfl⟩
  exact fun e => by rw [e] at m; cases m
theorem firsts_mem {ps : List (Int × Int)} {l : List Int} {q : Int × Int} (h : q ∈ firstsL ps l) : ∃ p : Nat, p < l.length ∧ canFirst ps l p = true ∧ q = (l.getD p 0, (p : Int)) := by
  obtain ⟨p, hp, rfl⟩ := List.mem_map.mp h
  obtain ⟨h1, h2⟩ := List.mem_filter.mp hp
  exact ⟨p, List.mem_range.mp h1, h2, rfl⟩
theorem best_mem {ps : List (Int × Int)} {l : List Int} (h : 0 < l.length) : bestFirst ps l ∈ firstsL ps l := by
  unfold bestFirst
  cases e : firstsL ps l with
  | nil => exact absurd e (firsts_ne h)
  | cons p r => exact minP_mem r p
abbrev A_least_of (as : List Ag) (d : PyData) : Prop := ∃ (n : Int) (ps : List (Int × Int)) (l : List Int), PairsOk n ps ∧ 0 ≤ n ∧ n ≤ 6 ∧ l.length ≤ 20 ∧ rowIn n l ∧ as = [.n (iL (barsL n ps)), .c (.d (row l))] ∧ d = row (leastL ps l)
theorem ok_least_of (E : Nv K mg) : FnOk P w K mg base CX0 8 E.a_least_of E.d_least_of ["bars", "row"] (spC K E.C_Trade A_least_of) := by
  refine E.F_least_of.ok sc_least_of (fun vs H Q _ h => ?_) (fun cdv A outer s H vs Q _ hr h => ?_)
  · obtain ⟨as, d, ha, ⟨_, _, _, _, _, _, _, _, rfl, _⟩, _⟩ := h
    exact ha.length
  · obtain ⟨as, d, ha, ⟨n, ps, l, hok, h0, h6, hl, hin, rfl, rfl⟩, q⟩ := h
    obtain ⟨v1, v2, rfl, a1, a2⟩ := ha.two
    obtain ⟨pb, a1⟩ := a1.lent
    refine ⟨_, (pss_cons (ps_set (i := 2) sc_least_of.nd rfl (.inl rfl) (pe_lst pa_nil))
      (pss_cons (ps_set (i := 3) sc_least_of.nd rfl (.inl rfl) (pv 1))
      (pss_cons (ps_while PassesOwn.never (pt_truK K (pv 3) (fun _ => rfl)) (pss_cons (ps_asg (pe_callB (call_minK K rfl hr.units12) (by rfl) E.n_min (by decide +kernel) (pa_cons (pe_call (ok_first_letters E) (hr.mono (by first | decide | omega)) (by rfl) E.m_first_letters E.F_first_letters.kp E.b_first_letters .nil pass0 (pa_cons (pv 0) (pa_cons (pv 3) pa_nil))) pa_nil)) (pg_tupK K (n := 2) rfl (pgs_cons (pg_name (i := 4) sc_least_of.nd rfl (.inl rfl)) (pgs_cons (pg_name (i := 5) sc_least_of.nd rfl (.inl rfl)) pgs_nil))))
      (pss_cons (ps_expr (pe_bm PySem.F.plainAttrs_list PySem.F.slot_list_append PySem.F.type_list_append mt_append (pv 2) (pa_cons (pv 4) pa_nil)))
      (pss_one (ps_set (i := 3) sc_least_of.nd rfl (.inl rfl) (pe_call (ok_without E) (hr.mono (by first | decide | omega)) (by rfl) E.m_without E.F_without.kp E.b_without .nil pass0 (pa_cons (pv 3) (pa_cons (pv 5) pa_nil))))))))
      (pss_one (ps_ret (pe_callTy (call_tupleK K) (by rfl) E.n_tuple (by decide +kernel) (pa_cons (pv 2) pa_nil))))))), ?_⟩
    have w : Wd K E.C_Trade [] [] H H _ [.s pb (iL (barsL n ps)), .d (row l), .u, .u, .u, .u] := Wd.start2 (N := N_least_of) a1 a2
    refine q_asgN w (en_lst ed_nil) fun p σ1 H1 hp1 w1 => ?_
    refine q_asgD w1 (ev_var w1 rfl) fun σ2 H2 w2 => ?_
    refine s_seq ⟨fun M σ H' => ∃ (fo r : List Int) (c4 c5 : Ct), Wd K E.C_Trade [] [] H H' σ [.s pb (iL (barsL n ps)), .d (row l), .l p (iL fo), .d (row r), c4, c5] ∧ fo ++ leastL ps r = leastL ps l ∧ fo.length + r.length ≤ 20 ∧ rowIn n r ∧ M = r.length, ⟨_, [], l, _, _, w2, rfl, by simpa using hl, hin, rfl⟩, ?_⟩
    rintro M σ H' ⟨fo, r, c4, c5, w3, he, hlen, hr', rfl⟩
    refine (et_truT (ev_var (i := 3) w3 rfl)) H' (Same.refl H') _ fun H3 e3 => ?_
    have w4 := w3.mono e3
    cases hrr : r with
    | nil =>
      subst hrr
      rw [if_neg (show ¬ (!(iL ([] : List Int)).isEmpty) = true by simp [iL])]
      have e : fo = leastL ps l := by rw [← he]; simp [leastL, leastGo]
      rw [e] at w4
      exact s_retQ w4 q (ev_tupleL (ev_var w4 rfl))
    | cons x t =>
      have hpos : 0 < r.length := by rw [hrr]; simp
      rw [← hrr]
      rw [if_pos (show (!(iL r).isEmpty) = true by rw [hrr]; rfl)]
      have hb := best_mem (ps := ps) hpos
      obtain ⟨pl, hpl, _, hbe⟩ := firsts_mem hb
      have hbe2 : (bestFirst ps r).2 = ((pl : Nat) : Int) := by rw [hbe]
      refine ⟨fun σ H' => ∃ c4 c5, Wd K E.C_Trade [] [] H H' σ [.s pb (iL (barsL n ps)), .d (row l), .l p (iL (fo ++ [(bestFirst ps r).1])), .d (row (r.eraseIdx pl)), c4, c5], ?_, ?_⟩
      · rintro σ' H'' ⟨c4, c5, w5⟩
        have hle : (r.eraseIdx pl).length + 1 = r.length := by rw [List.length_eraseIdx_of_lt hpl]; omega
        refine ⟨(r.eraseIdx pl).length, by omega, _, _, c4, c5, w5, ?_, ?_, fun y hy => hr' y (List.mem_of_mem_eraseIdx hy), rfl⟩
        · rw [← he, List.append_assoc]
          congr 1
          unfold leastL
          rw [show r.length = (r.eraseIdx pl).length + 1 by omega]
          unfold leastGo
          rw [hbe2, Int.toNat_natCast]
          cases h : (r.eraseIdx pl).length <;> rfl
        · rw [List.length_append]
          simp
          omega
      · cases hf : firstsL ps r with
        | nil => exact absurd hf (firsts_ne hpos)
        | cons p0 rest =>
          have hbf : bestFirst ps r = minP p0 rest := by unfold bestFirst; rw [hf]
          have hdep := depth_pairs (p0 :: rest)
          have hal := pairs_alike (p0 :: rest)
          refine q_unpD (i := 4) (j := 5) (d1 := .int (bestFirst ps r).1) (d2 := .int (bestFirst ps r).2) w4 (ev_d (ev_minN (d := Pt.pairD p0) (ds := rest.map Pt.pairD) (en_cast (en_call (ea_consS (ev_var w4 rfl) (ea_cons (ev_var w4 rfl) ea_nil)) ⟨n, ps, r, hok, h0, h6, by omega, hr', rfl, rfl⟩) (by rw [hf]; rfl)) hal (Nat.le_trans hdep (by decide))) (by rw [minD_pairs, hbf]; rfl)) fun σ5 H5 w5 => ?_
          have w5' : Wd K E.C_Trade [] [] H H5 σ5 [.s pb (iL (barsL n ps)), .d (row l), .l p (iL fo), .d (row r), .d (.int (bestFirst ps r).1), .d (.int (bestFirst ps r).2)] := w5
          refine q_app w5' rfl (ev_var w5' rfl) (by rw [iL_len]; omega) fun H6 w6 => ?_
          have w6' : Wd K E.C_Trade [] [] H H6 σ5 [.s pb (iL (barsL n ps)), .d (row l), .l p (iL (fo ++ [(bestFirst ps r).1])), .d (row r), .d (.int (bestFirst ps r).1), .d (.int (bestFirst ps r).2)] := by
            rw [iL_app]
            exact w6
          refine s_asgD w6' (ev_call (ea_cons (ev_var w6' rfl) (ea_cons (ev_d (ev_var w6' rfl) (by rw [hbe2])) ea_nil)) ⟨r, pl, hpl, by omega, rfl, rfl⟩) fun σ7 H7 w7 => ⟨_, _, w7⟩
end
end K1
set_option maxRecDepth 10000000
namespace K1
open PySem PySem.Spec PyProof.Rows L2 Pt
local macro_rules
  | `(tactic| walk_at "sz") => `(tactic| first
    | omega
    | decide
    | (simp; omega)
    | (simp [iL, row, pairsD]; omega))
  | `(tactic| walk_at "ea") => `(tactic| first
    | (with_reducible exact ea_nil)
    | ((with_reducible apply ea_consL); (focus (walk_at "ev")); (focus (walk_at "ea")))
    | ((with_reducible apply ea_consS); (focus (walk_at "ev")); (focus (walk_at "ea")))
    | ((with_reducible apply ea_cons); (focus (walk_at "ev")); (focus (walk_at "ea")))
    | ((with_reducible apply ea_consN); (focus (walk_at "en")); (focus (walk_at "ea"))))
  | `(tactic| walk_at "ed") => `(tactic| first
    | (with_reducible exact ed_nil)
    | ((with_reducible apply ed_cons); (focus (walk_at "ev")); (focus (walk_at "ed"))))
  | `(tactic| walk_at "en") => `(tactic| first
    | ((with_reducible apply en_lst); (focus (walk_at "ed")); (focus (simp)))
    | ((with_reducible apply en_listT); (focus (walk_at "ev")))
    | ((with_reducible apply en_addL); (focus (walk_at "ev")); (focus (walk_at "en")); (focus (walk_at "sz")))
    | ((with_reducible apply en_addN); (focus (walk_at "en")); (focus (walk_at "en")); (focus (walk_at "sz")))
    | ((with_reducible apply en_slL); (focus (walk_at "ev")); (focus (walk_at "eo")); (focus (walk_at "eo"))))
  | `(tactic| walk_at "eo") => `(tactic| first
    | (with_reducible exact eo_none)
    | ((with_reducible apply eo_some); (focus (walk_at "ev"))))
  | `(tactic| walk_at "et") => `(tactic| first
    | (with_reducible exact et_yes)
    | ((with_reducible apply et_test); (focus (walk_at "ev")))
    | ((with_reducible apply et_B); (focus (walk_at "ev")))
    | ((with_reducible apply et_truB); (focus (walk_at "ev")))
    | ((with_reducible apply et_truT); (focus (walk_at "ev")))
    | ((with_reducible apply et_not); (focus (walk_at "et")))
    | ((with_reducible apply et_and); (focus (walk_at "et")); (focus (intro _; walk_at "et")))
    | ((with_reducible apply et_or); (focus (walk_at "et")); (focus (intro _; walk_at "et"))))
  | `(tactic| walk_at "var") => `(tactic| first
    | ((with_reducible apply ev_varD); (focus (assumption)); (focus (rfl)))
    | ((with_reducible apply ev_varL); (focus (assumption)); (focus (rfl)))
    | ((with_reducible apply ev_varS); (focus (assumption)); (focus (rfl)))
    | ((with_reducible apply ev_varT); (focus (assumption)); (focus (rfl)))
    | ((with_reducible apply ev_varH); (focus (assumption)); (focus (rfl)))
    | ((with_reducible apply ev_varZ); (focus (assumption)); (focus (rfl))))
  | `(tactic| walk_at "ev") => `(tactic| first
    | walk_at "var"
    | (with_reducible exact ev_int)
    | (with_reducible exact ev_bl)
    | (with_reducible exact ev_str)
    | (with_reducible exact ev_non)
    | ((with_reducible apply ev_letters); (focus (walk_at "ev")))
    | ((with_reducible apply ev_pairs); (focus (walk_at "ev")))
    | ((with_reducible apply ev_addI); (focus (walk_at "ev")); (focus (walk_at "ev")))
    | ((with_reducible apply ev_addT); (focus (walk_at "ev")); (focus (walk_at "ev")); (focus (walk_at "sz")))
    | ((with_reducible apply ev_i0); (focus (walk_at "ev")); (focus (walk_at "ev")); (focus (first | exact fun _ => .int _ | exact fun _ => .bl _)))
    | ((with_reducible apply ev_iC); (focus (walk_at "ev")); (focus (walk_at "ev")); (focus (first | assumption | walk_at "cond")); (focus (exact fun _ => .int _)))
    | ((with_reducible apply ev_chain); (focus (walk_at "ev")); (focus (walk_at "ev")); (focus (walk_at "ev")))
    | ((with_reducible apply ev_eqI); (focus (walk_at "ev")); (focus (walk_at "ev")))
    | ((with_reducible apply ev_neI); (focus (walk_at "ev")); (focus (walk_at "ev")))
    | ((with_reducible apply ev_eqR); (focus (walk_at "ev")); (focus (walk_at "ev")))
    | ((with_reducible apply ev_neR); (focus (walk_at "ev")); (focus (walk_at "ev")))
    | ((with_reducible apply ev_isN); (focus (walk_at "ev")))
    | ((with_reducible apply ev_notN); (focus (walk_at "ev")))
    | ((with_reducible apply ev_in2); (focus (walk_at "ev")); (focus (walk_at "ev")); (focus (walk_at "ev")))
    | ((with_reducible apply ev_inP); (focus (walk_at "ev")); (focus (walk_at "ev")))
    | ((with_reducible apply ev_tup); (focus (walk_at "ed")); (focus (simp)))
    | ((with_reducible apply ev_lenT); (focus (walk_at "ev")))
    | ((with_reducible apply ev_lenL); (focus (walk_at "ev")))
    | ((with_reducible apply ev_lenS); (focus (walk_at "ev")))
    | ((with_reducible apply ev_lenN); (focus (walk_at "en")))
    | ((with_reducible apply ev_max2); (focus (walk_at "ev")); (focus (walk_at "ev")))
    | ((with_reducible apply ev_min2); (focus (walk_at "ev")); (focus (walk_at "ev")))
    | ((with_reducible apply ev_int1); (focus (walk_at "ev")))
    | ((with_reducible apply ev_tupleL); (focus (walk_at "ev")))
    | ((with_reducible apply ev_tupleN); (focus (walk_at "en")))
    | ((with_reducible apply ev_countT); (focus (walk_at "ev")); (focus (walk_at "ev")))
    | ((with_reducible apply ev_andV); (focus (walk_at "ev")); (focus (intro _; walk_at "ev")))
    | ((with_reducible apply ev_orV); (focus (walk_at "ev")); (focus (intro _; walk_at "ev")))
    | ((with_reducible apply ev_notV); (focus (walk_at "ev"))))
section
variable {P : Program} {w : World} {K : PySem.W.Frag} {mg : Str → Option Value} {base : Heap}
end
end K1
set_option maxRecDepth 10000000
namespace K1
open PySem PySem.Spec PyProof.Rows L2 Pt
local macro_rules
  | `(tactic| walk_at "sz") => `(tactic| first
    | omega
    | decide
    | (simp; omega)
    | (simp [iL, row, pairsD]; omega))
  | `(tactic| walk_at "ea") => `(tactic| first
    | (with_reducible exact ea_nil)
    | ((with_reducible apply ea_consL); (focus (walk_at "ev")); (focus (walk_at "ea")))
    | ((with_reducible apply ea_consS); (focus (walk_at "ev")); (focus (walk_at "ea")))
    | ((with_reducible apply ea_cons); (focus (walk_at "ev")); (focus (walk_at "ea")))
    | ((with_reducible apply ea_consN); (focus (walk_at "en")); (focus (walk_at "ea"))))
  | `(tactic| walk_at "ed") => `(tactic| first
    | (with_reducible exact ed_nil)
    | ((with_reducible apply ed_cons); (focus (walk_at "ev")); (focus (walk_at "ed"))))
  | `(tactic| walk_at "en") => `(tactic| first
    | ((with_reducible apply en_lst); (focus (walk_at "ed")); (focus (simp)))
    | ((with_reducible apply en_listT); (focus (walk_at "ev")))
    | ((with_reducible apply en_addL); (focus (walk_at "ev")); (focus (walk_at "en")); (focus (walk_at "sz")))
    | ((with_reducible apply en_addN); (focus (walk_at "en")); (focus (walk_at "en")); (focus (walk_at "sz")))
    | ((with_reducible apply en_slL); (focus (walk_at "ev")); (focus (walk_at "eo")); (focus (walk_at "eo"))))
  | `(tactic| walk_at "eo") => `(tactic| first
    | (with_reducible exact eo_none)
    | ((with_reducible apply eo_some); (focus (walk_at "ev"))))
  | `(tactic| walk_at "et") => `(tactic| first
    | (with_reducible exact et_yes)
    | ((with_reducible apply et_test); (focus (walk_at "ev")))
    | ((with_reducible apply et_B); (focus (walk_at "ev")))
    | ((with_reducible apply et_truB); (focus (walk_at "ev")))
    | ((with_reducible apply et_truT); (focus (walk_at "ev")))
    | ((with_reducible apply et_not); (focus (walk_at "et")))
    | ((with_reducible apply et_and); (focus (walk_at "et")); (focus (intro _; walk_at "et")))
    | ((with_reducible apply et_or); (focus (walk_at "et")); (focus (intro _; walk_at "et"))))
  | `(tactic| walk_at "var") => `(tactic| first
    | ((with_reducible apply ev_varD); (focus (assumption)); (focus (rfl)))
    | ((with_reducible apply ev_varL); (focus (assumption)); (focus (rfl)))
    | ((with_reducible apply ev_varS); (focus (assumption)); (focus (rfl)))
    | ((with_reducible apply ev_varT); (focus (assumption)); (focus (rfl)))
    | ((with_reducible apply ev_varH); (focus (assumption)); (focus (rfl)))
    | ((with_reducible apply ev_varZ); (focus (assumption)); (focus (rfl))))
  | `(tactic| walk_at "ev") => `(tactic| first
    | walk_at "var"
    | (with_reducible exact ev_int)
    | (with_reducible exact ev_bl)
    | (with_reducible exact ev_str)
    | (with_reducible exact ev_non)
    | ((with_reducible apply ev_letters); (focus (walk_at "ev")))
    | ((with_reducible apply ev_pairs); (focus (walk_at "ev")))
    | ((with_reducible apply ev_addI); (focus (walk_at "ev")); (focus (walk_at "ev")))
    | ((with_reducible apply ev_addT); (focus (walk_at "ev")); (focus (walk_at "ev")); (focus (walk_at "sz")))
    | ((with_reducible apply ev_i0); (focus (walk_at "ev")); (focus (walk_at "ev")); (focus (first | exact fun _ => .int _ | exact fun _ => .bl _)))
    | ((with_reducible apply ev_iC); (focus (walk_at "ev")); (focus (walk_at "ev")); (focus (first | assumption | walk_at "cond")); (focus (exact fun _ => .int _)))
    | ((with_reducible apply ev_chain); (focus (walk_at "ev")); (focus (walk_at "ev")); (focus (walk_at "ev")))
    | ((with_reducible apply ev_eqI); (focus (walk_at "ev")); (focus (walk_at "ev")))
    | ((with_reducible apply ev_neI); (focus (walk_at "ev")); (focus (walk_at "ev")))
    | ((with_reducible apply ev_eqR); (focus (walk_at "ev")); (focus (walk_at "ev")))
    | ((with_reducible apply ev_neR); (focus (walk_at "ev")); (focus (walk_at "ev")))
    | ((with_reducible apply ev_isN); (focus (walk_at "ev")))
    | ((with_reducible apply ev_notN); (focus (walk_at "ev")))
    | ((with_reducible apply ev_in2); (focus (walk_at "ev")); (focus (walk_at "ev")); (focus (walk_at "ev")))
    | ((with_reducible apply ev_inP); (focus (walk_at "ev")); (focus (walk_at "ev")))
    | ((with_reducible apply ev_tup); (focus (walk_at "ed")); (focus (simp)))
    | ((with_reducible apply ev_lenT); (focus (walk_at "ev")))
    | ((with_reducible apply ev_lenL); (focus (walk_at "ev")))
    | ((with_reducible apply ev_lenS); (focus (walk_at "ev")))
    | ((with_reducible apply ev_lenN); (focus (walk_at "en")))
    | ((with_reducible apply ev_max2); (focus (walk_at "ev")); (focus (walk_at "ev")))
    | ((with_reducible apply ev_min2); (focus (walk_at "ev")); (focus (walk_at "ev")))
    | ((with_reducible apply ev_int1); (focus (walk_at "ev")))
    | ((with_reducible apply ev_tupleL); (focus (walk_at "ev")))
    | ((with_reducible apply ev_tupleN); (focus (walk_at "en")))
    | ((with_reducible apply ev_countT); (focus (walk_at "ev")); (focus (walk_at "ev")))
    | ((with_reducible apply ev_andV); (focus (walk_at "ev")); (focus (intro _; walk_at "ev")))
    | ((with_reducible apply ev_orV); (focus (walk_at "ev")); (focus (intro _; walk_at "ev")))
    | ((with_reducible apply ev_notV); (focus (walk_at "ev"))))
section
variable {P : Program} {w : World} {K : PySem.W.Frag} {mg : Str → Option Value} {base : Heap}
end
end K1
set_option maxRecDepth 10000000
namespace K1
open Pt
end K1
set_option maxRecDepth 10000000
namespace K1
open Pt
end K1
set_option maxRecDepth 10000000
namespace K1
open Pt
def sortP (l : List (Int × Int)) : List (Int × Int) := l.mergeSort fun p q => decide (p.1 < q.1 ∨ (p.1 = q.1 ∧ p.2 ≤ q.2))
theorem sortP_perm (l : List (Int × Int)) : (sortP l).Perm l := List.mergeSort_perm _ _
def listGo (ps : List (Int × Int)) : Nat → List Int → List (List Int)
  | 0, _ => [[]]
  | k + 1, l => if l = [] then [[]] else ((sortP (firstsL ps l)).map fun q => (listGo ps k (l.eraseIdx q.2.toNat)).map (q.1 :: ·)).flatten
theorem mem_fs {ps : List (Int × Int)} {l : List Int} {q : Int × Int} (h : q ∈ sortP (firstsL ps l)) : ∃ p : Nat, p < l.length ∧ canFirst ps l p = true ∧ q = (l.getD p 0, (p : Int)) := firsts_mem ((sortP_perm _).mem_iff.mp h)
def listL (ps : List (Int × Int)) (l : List Int) : List (List Int) := listGo ps l.length l
end K1
set_option maxRecDepth 10000000
namespace K1
open Pt
def nL (ps : List (Int × Int)) (l : List Int) : Nat := (listL ps l).length
theorem listL_cons {ps : List (Int × Int)} {l : List Int} (h : l ≠ []) : listL ps l = ((sortP (firstsL ps l)).map fun q => (listL ps (l.eraseIdx q.2.toNat)).map (q.1 :: ·)).flatten := by
  obtain ⟨x, t, rfl⟩ : ∃ x t, l = x :: t := by
    cases l with
    | nil => exact absurd rfl h
    | cons x t => exact ⟨x, t, rfl⟩
  show listGo ps (t.length + 1) (x :: t) = _
  unfold listGo
  rw [if_neg (by simp)]
  congr 1
  refine List.map_congr_left fun q hq => ?_
  obtain ⟨p, hp, _, rfl⟩ := mem_fs hq
  have hle : ((x :: t).eraseIdx p).length = t.length := by rw [List.length_eraseIdx_of_lt hp]; simp
  simp only [Int.toNat_natCast]
  unfold listL
  rw [hle]
theorem nL_nil (ps : List (Int × Int)) : nL ps [] = 1 := rfl
theorem nL_sorted {ps : List (Int × Int)} {l : List Int} (h : l ≠ []) : nL ps l = ((sortP (firstsL ps l)).map fun q => nL ps (l.eraseIdx q.2.toNat)).sum := by
  unfold nL
  rw [listL_cons h, List.length_flatten, List.map_map]
  congr 1
  refine List.map_congr_left fun q _ => ?_
  show (List.map _ _).length = _
  rw [List.length_map]
theorem nL_cons {ps : List (Int × Int)} {l : List Int} (h : l ≠ []) : nL ps l = ((firstsL ps l).map fun q => nL ps (l.eraseIdx q.2.toNat)).sum := by
  rw [nL_sorted h]
  exact ((sortP_perm (firstsL ps l)).map _).sum_nat
def subs : List Int → List (List Int)
  | [] => [[]]
  | x :: t => (subs t).map (x :: ·) ++ subs t
theorem subs_len : ∀ l : List Int, (subs l).length = 2 ^ l.length
  | [] => rfl
  | x :: t => by
    unfold subs
    rw [List.length_append, List.length_map, subs_len t, List.length_cons, Nat.pow_succ]
    omega
theorem mem_subs {l m : List Int} (h : l.Sublist m) : l ∈ subs m := by
  induction h with
  | slnil => exact List.mem_singleton.mpr rfl
  | cons a _ ih => exact List.mem_append.mpr (.inr ih)
  | cons_cons a _ ih => exact List.mem_append.mpr (.inl (List.mem_map.mpr ⟨_, ih, rfl⟩))
end K1
set_option maxRecDepth 10000000
namespace K1
open PySem PySem.Spec PyProof.Rows L2 Pt
local macro_rules
  | `(tactic| walk_at "sz") => `(tactic| first
    | omega
    | decide
    | (simp; omega)
    | (simp [iL, row, pairsD]; omega))
  | `(tactic| walk_at "ea") => `(tactic| first
    | (with_reducible exact ea_nil)
    | ((with_reducible apply ea_consL); (focus (walk_at "ev")); (focus (walk_at "ea")))
    | ((with_reducible apply ea_consS); (focus (walk_at "ev")); (focus (walk_at "ea")))
    | ((with_reducible apply ea_cons); (focus (walk_at "ev")); (focus (walk_at "ea")))
    | ((with_reducible apply ea_consN); (focus (walk_at "en")); (focus (walk_at "ea"))))
  | `(tactic| walk_at "ed") => `(tactic| first
    | (with_reducible exact ed_nil)
    | ((with_reducible apply ed_cons); (focus (walk_at "ev")); (focus (walk_at "ed"))))
  | `(tactic| walk_at "en") => `(tactic| first
    | ((with_reducible apply en_lst); (focus (walk_at "ed")); (focus (simp)))
    | ((with_reducible apply en_listT); (focus (walk_at "ev")))
    | ((with_reducible apply en_addL); (focus (walk_at "ev")); (focus (walk_at "en")); (focus (walk_at "sz")))
    | ((with_reducible apply en_addN); (focus (walk_at "en")); (focus (walk_at "en")); (focus (walk_at "sz")))
    | ((with_reducible apply en_slL); (focus (walk_at "ev")); (focus (walk_at "eo")); (focus (walk_at "eo"))))
  | `(tactic| walk_at "eo") => `(tactic| first
    | (with_reducible exact eo_none)
    | ((with_reducible apply eo_some); (focus (walk_at "ev"))))
  | `(tactic| walk_at "et") => `(tactic| first
    | (with_reducible exact et_yes)
    | ((with_reducible apply et_test); (focus (walk_at "ev")))
    | ((with_reducible apply et_B); (focus (walk_at "ev")))
    | ((with_reducible apply et_truB); (focus (walk_at "ev")))
    | ((with_reducible apply et_truT); (focus (walk_at "ev")))
    | ((with_reducible apply et_not); (focus (walk_at "et")))
    | ((with_reducible apply et_and); (focus (walk_at "et")); (focus (intro _; walk_at "et")))
    | ((with_reducible apply et_or); (focus (walk_at "et")); (focus (intro _; walk_at "et"))))
  | `(tactic| walk_at "var") => `(tactic| first
    | ((with_reducible apply ev_varD); (focus (assumption)); (focus (rfl)))
    | ((with_reducible apply ev_varL); (focus (assumption)); (focus (rfl)))
    | ((with_reducible apply ev_varS); (focus (assumption)); (focus (rfl)))
    | ((with_reducible apply ev_varT); (focus (assumption)); (focus (rfl)))
    | ((with_reducible apply ev_varH); (focus (assumption)); (focus (rfl)))
    | ((with_reducible apply ev_varZ); (focus (assumption)); (focus (rfl))))
  | `(tactic| walk_at "ev") => `(tactic| first
    | walk_at "var"
    | (with_reducible exact ev_int)
    | (with_reducible exact ev_bl)
    | (with_reducible exact ev_str)
    | (with_reducible exact ev_non)
    | ((with_reducible apply ev_letters); (focus (walk_at "ev")))
    | ((with_reducible apply ev_pairs); (focus (walk_at "ev")))
    | ((with_reducible apply ev_addI); (focus (walk_at "ev")); (focus (walk_at "ev")))
    | ((with_reducible apply ev_addT); (focus (walk_at "ev")); (focus (walk_at "ev")); (focus (walk_at "sz")))
    | ((with_reducible apply ev_i0); (focus (walk_at "ev")); (focus (walk_at "ev")); (focus (first | exact fun _ => .int _ | exact fun _ => .bl _)))
    | ((with_reducible apply ev_iC); (focus (walk_at "ev")); (focus (walk_at "ev")); (focus (first | assumption | walk_at "cond")); (focus (exact fun _ => .int _)))
    | ((with_reducible apply ev_chain); (focus (walk_at "ev")); (focus (walk_at "ev")); (focus (walk_at "ev")))
    | ((with_reducible apply ev_eqI); (focus (walk_at "ev")); (focus (walk_at "ev")))
    | ((with_reducible apply ev_neI); (focus (walk_at "ev")); (focus (walk_at "ev")))
    | ((with_reducible apply ev_eqR); (focus (walk_at "ev")); (focus (walk_at "ev")))
    | ((with_reducible apply ev_neR); (focus (walk_at "ev")); (focus (walk_at "ev")))
    | ((with_reducible apply ev_isN); (focus (walk_at "ev")))
    | ((with_reducible apply ev_notN); (focus (walk_at "ev")))
    | ((with_reducible apply ev_in2); (focus (walk_at "ev")); (focus (walk_at "ev")); (focus (walk_at "ev")))
    | ((with_reducible apply ev_inP); (focus (walk_at "ev")); (focus (walk_at "ev")))
    | ((with_reducible apply ev_tup); (focus (walk_at "ed")); (focus (simp)))
    | ((with_reducible apply ev_lenT); (focus (walk_at "ev")))
    | ((with_reducible apply ev_lenL); (focus (walk_at "ev")))
    | ((with_reducible apply ev_lenS); (focus (walk_at "ev")))
    | ((with_reducible apply ev_lenN); (focus (walk_at "en")))
    | ((with_reducible apply ev_max2); (focus (walk_at "ev")); (focus (walk_at "ev")))
    | ((with_reducible apply ev_min2); (focus (walk_at "ev")); (focus (walk_at "ev")))
    | ((with_reducible apply ev_int1); (focus (walk_at "ev")))
    | ((with_reducible apply ev_tupleL); (focus (walk_at "ev")))
    | ((with_reducible apply ev_tupleN); (focus (walk_at "en")))
    | ((with_reducible apply ev_countT); (focus (walk_at "ev")); (focus (walk_at "ev")))
    | ((with_reducible apply ev_andV); (focus (walk_at "ev")); (focus (intro _; walk_at "ev")))
    | ((with_reducible apply ev_orV); (focus (walk_at "ev")); (focus (intro _; walk_at "ev")))
    | ((with_reducible apply ev_notV); (focus (walk_at "ev"))))
section
variable {P : Program} {w : World} {K : PySem.W.Frag} {mg : Str → Option Value} {base : Heap}
theorem ok_TradeError___init__ (E : Nv K mg) : FnOk P w K mg base CX0 1 E.a_TradeError___init__ E.d_TradeError___init__ ["self"] spPass := by
  refine E.F_TradeError___init__.ok sc_TradeError___init__ (fun vs H Q _ h => ?_) (fun cdv A outer s H vs Q _ hr h => ?_)
  · obtain ⟨v, rfl, _⟩ := h
    rfl
  · obtain ⟨v, rfl, q⟩ := h
    exact ⟨_, (pss_one ps_pass), q⟩
end
end K1
set_option maxRecDepth 10000000
namespace K1
open PySem PySem.Spec PyProof.Rows L2 Pt
local macro_rules
  | `(tactic| walk_at "sz") => `(tactic| first
    | omega
    | decide
    | (simp; omega)
    | (simp [iL, row, pairsD]; omega))
  | `(tactic| walk_at "ea") => `(tactic| first
    | (with_reducible exact ea_nil)
    | ((with_reducible apply ea_consL); (focus (walk_at "ev")); (focus (walk_at "ea")))
    | ((with_reducible apply ea_consS); (focus (walk_at "ev")); (focus (walk_at "ea")))
    | ((with_reducible apply ea_cons); (focus (walk_at "ev")); (focus (walk_at "ea")))
    | ((with_reducible apply ea_consN); (focus (walk_at "en")); (focus (walk_at "ea"))))
  | `(tactic| walk_at "ed") => `(tactic| first
    | (with_reducible exact ed_nil)
    | ((with_reducible apply ed_cons); (focus (walk_at "ev")); (focus (walk_at "ed"))))
  | `(tactic| walk_at "en") => `(tactic| first
    | ((with_reducible apply en_lst); (focus (walk_at "ed")); (focus (simp)))
    | ((with_reducible apply en_listT); (focus (walk_at "ev")))
    | ((with_reducible apply en_addL); (focus (walk_at "ev")); (focus (walk_at "en")); (focus (walk_at "sz")))
    | ((with_reducible apply en_addN); (focus (walk_at "en")); (focus (walk_at "en")); (focus (walk_at "sz")))
    | ((with_reducible apply en_slL); (focus (walk_at "ev")); (focus (walk_at "eo")); (focus (walk_at "eo"))))
  | `(tactic| walk_at "eo") => `(tactic| first
    | (with_reducible exact eo_none)
    | ((with_reducible apply eo_some); (focus (walk_at "ev"))))
  | `(tactic| walk_at "et") => `(tactic| first
    | (with_reducible exact et_yes)
    | ((with_reducible apply et_test); (focus (walk_at "ev")))
    | ((with_reducible apply et_B); (focus (walk_at "ev")))
    | ((with_reducible apply et_truB); (focus (walk_at "ev")))
    | ((with_reducible apply et_truT); (focus (walk_at "ev")))
    | ((with_reducible apply et_not); (focus (walk_at "et")))
    | ((with_reducible apply et_and); (focus (walk_at "et")); (focus (intro _; walk_at "et")))
    | ((with_reducible apply et_or); (focus (walk_at "et")); (focus (intro _; walk_at "et"))))
  | `(tactic| walk_at "var") => `(tactic| first
    | ((with_reducible apply ev_varD); (focus (assumption)); (focus (rfl)))
    | ((with_reducible apply ev_varL); (focus (assumption)); (focus (rfl)))
    | ((with_reducible apply ev_varS); (focus (assumption)); (focus (rfl)))
    | ((with_reducible apply ev_varT); (focus (assumption)); (focus (rfl)))
    | ((with_reducible apply ev_varH); (focus (assumption)); (focus (rfl)))
    | ((with_reducible apply ev_varZ); (focus (assumption)); (focus (rfl))))
  | `(tactic| walk_at "ev") => `(tactic| first
    | walk_at "var"
    | (with_reducible exact ev_int)
    | (with_reducible exact ev_bl)
    | (with_reducible exact ev_str)
    | (with_reducible exact ev_non)
    | ((with_reducible apply ev_letters); (focus (walk_at "ev")))
    | ((with_reducible apply ev_pairs); (focus (walk_at "ev")))
    | ((with_reducible apply ev_addI); (focus (walk_at "ev")); (focus (walk_at "ev")))
    | ((with_reducible apply ev_addT); (focus (walk_at "ev")); (focus (walk_at "ev")); (focus (walk_at "sz")))
    | ((with_reducible apply ev_i0); (focus (walk_at "ev")); (focus (walk_at "ev")); (focus (first | exact fun _ => .int _ | exact fun _ => .bl _)))
    | ((with_reducible apply ev_iC); (focus (walk_at "ev")); (focus (walk_at "ev")); (focus (first | assumption | walk_at "cond")); (focus (exact fun _ => .int _)))
    | ((with_reducible apply ev_chain); (focus (walk_at "ev")); (focus (walk_at "ev")); (focus (walk_at "ev")))
    | ((with_reducible apply ev_eqI); (focus (walk_at "ev")); (focus (walk_at "ev")))
    | ((with_reducible apply ev_neI); (focus (walk_at "ev")); (focus (walk_at "ev")))
    | ((with_reducible apply ev_eqR); (focus (walk_at "ev")); (focus (walk_at "ev")))
    | ((with_reducible apply ev_neR); (focus (walk_at "ev")); (focus (walk_at "ev")))
    | ((with_reducible apply ev_isN); (focus (walk_at "ev")))
    | ((with_reducible apply ev_notN); (focus (walk_at "ev")))
    | ((with_reducible apply ev_in2); (focus (walk_at "ev")); (focus (walk_at "ev")); (focus (walk_at "ev")))
    | ((with_reducible apply ev_inP); (focus (walk_at "ev")); (focus (walk_at "ev")))
    | ((with_reducible apply ev_tup); (focus (walk_at "ed")); (focus (simp)))
    | ((with_reducible apply ev_lenT); (focus (walk_at "ev")))
    | ((with_reducible apply ev_lenL); (focus (walk_at "ev")))
    | ((with_reducible apply ev_lenS); (focus (walk_at "ev")))
    | ((with_reducible apply ev_lenN); (focus (walk_at "en")))
    | ((with_reducible apply ev_max2); (focus (walk_at "ev")); (focus (walk_at "ev")))
    | ((with_reducible apply ev_min2); (focus (walk_at "ev")); (focus (walk_at "ev")))
    | ((with_reducible apply ev_int1); (focus (walk_at "ev")))
    | ((with_reducible apply ev_tupleL); (focus (walk_at "ev")))
    | ((with_reducible apply ev_tupleN); (focus (walk_at "en")))
    | ((with_reducible apply ev_countT); (focus (walk_at "ev")); (focus (walk_at "ev")))
    | ((with_reducible apply ev_andV); (focus (walk_at "ev")); (focus (intro _; walk_at "ev")))
    | ((with_reducible apply ev_orV); (focus (walk_at "ev")); (focus (intro _; walk_at "ev")))
    | ((with_reducible apply ev_notV); (focus (walk_at "ev"))))
section
variable {P : Program} {w : World} {K : PySem.W.Frag} {mg : Str → Option Value} {base : Heap}
structure Kn (ps : List (Int × Int)) (L : List Int) (en : List En) : Prop where
  val : ∀ e ∈ en, e.2.1 = (nL ps e.1 : Nat)
  sub : ∀ e ∈ en, e.1.Sublist L
  nd : (en.map (·.1)).Nodup
theorem Kn.nil (ps : List (Int × Int)) (L : List Int) : Kn ps L [] := ⟨fun e m => absurd m List.not_mem_nil, fun e m => absurd m List.not_mem_nil, List.nodup_nil⟩
theorem Kn.look {ps : List (Int × Int)} {L : List Int} {en : List En} (h : Kn ps L en) {r : List Int} (hz : lookE en r ≠ none) : lookE en r = some ((nL ps r : Nat) : Int) := by
  unfold lookE at hz ⊢
  cases q : en.find? (fun e => decide (e.1 = r)) with
  | none => rw [q] at hz; exact absurd rfl hz
  | some e =>
    have e1 : e.1 = r := by simpa using List.find?_some q
    have e2 := h.val e (List.mem_of_find?_eq_some q)
    rw [Option.map_some, e2, e1]
theorem Kn.bound {ps : List (Int × Int)} {L : List Int} {en : List En} (h : Kn ps L en) (hL : L.length ≤ 20) : en.length < sizeLine := by
  have z := Pt.nodup_le (en.map (·.1)) (subs L) h.nd fun m hm => by
    obtain ⟨e, he, rfl⟩ := List.mem_map.mp hm
    exact mem_subs (h.sub e he)
  rw [List.length_map, subs_len] at z
  have a : 2 ^ L.length ≤ 2 ^ 20 := Nat.pow_le_pow_right (by decide) hL
  exact Nat.lt_of_le_of_lt (Nat.le_trans z a) (by decide)
theorem Kn.put {ps : List (Int × Int)} {L : List Int} {en : List En} (h : Kn ps L en) {r : List Int} {b : Addr} (hr : r.Sublist L) (hz : lookE en r = none) : Kn ps L (en ++ [(r, ((nL ps r : Nat) : Int), b)]) :=
  ⟨fun e m => by
    rcases List.mem_append.mp m with m | m
    · exact h.val e m
    · rw [List.mem_singleton.mp m], fun e m => by
    rcases List.mem_append.mp m with m | m
    · exact h.sub e m
    · rw [List.mem_singleton.mp m]; exact hr, by
    rw [List.map_append]
    exact List.nodup_append.mpr ⟨h.nd, by simp, fun a ha b hb => by
      have : b = r := by simpa using hb
      subst this
      exact fun e => look_none hz (e ▸ ha)⟩⟩
def spCnt (K : PySem.W.Frag) (C : Addr) (P : Program) (W : World) (m : Nat) : Sp := fun vs H Q _ => ∃ (n : Int) (ps : List (Int × Int)) (L l : List Int) (pb f : Addr) (v : V) (xs : List V) (en : List En), vs = [.ref pb, v, .ref f] ∧ H pb = some (.lst xs) ∧ TdAll K H xs (iL (barsL n ps)) ∧ Td K H v (row l) ∧
  H f = some (DTo P W f en) ∧ (∀ q ∈ ksOf en, SqF H q.1 q.2) ∧ PairsOk n ps ∧ 0 ≤ n ∧ n ≤ 6 ∧ L.length ≤ 20 ∧ rowIn n L ∧ l.Sublist L ∧ l.length < m ∧ Kn ps L en ∧
  ∀ en' H', Fr [f] H H' → H' f = some (DTo P W f en') → (∀ q ∈ ksOf en', SqF H' q.1 q.2) → Kn ps L en' → (∀ r, l.length < r.length → lookE en' r = lookE en r) → Q (.int (nL ps l : Nat)) H'
theorem cnt_at {C : Addr} {S : List Addr} {G : List (V × PyData)} {H0 H : Hp} {σ : L2.St} {Γ : List Ct} {tb tr : TE} {X : XK} {n : Int} {ps : List (Int × Int)} {L r : List Int} {pb f : Addr} {en : List En} {b m : Nat} (w' : Wd K C S G H0 H σ Γ) (hb : EvC K C tb σ H (.s pb (iL (barsL n ps)))) (hr : EvC K C tr σ H (.d (row r))) (hf : Γ[b]? = some (dct P w f en))
    (hok : PairsOk n ps) (h0 : 0 ≤ n) (h6 : n ≤ 6) (hL : L.length ≤ 20) (hin : rowIn n L) (hsub : r.Sublist L) (hm : r.length < m) (hk : Kn ps L en) {Q : VK}
    (k : ∀ en' H', Kn ps L en' → (∀ m, r.length < m.length → lookE en' m = lookE en m) → Wd K C S G H0 H' σ (Γ.set b (dct P w f en')) → Q (.int (nL ps r : Nat)) H') : tCall (spCnt K C P w m) [] X (tCons tb (tCons tr (tCons (tVar b) tNil))) σ H Q :=
  hb H (Same.refl H) _ fun v1 H1 e1 a1 => hr H1 e1 _ fun v2 H2 e2 a2 => by
    have w2 := (w'.mono e1).mono e2
    obtain ⟨v3, ef, a3⟩ := w2.get hf
    obtain ⟨rfl, _⟩ := id a3
    obtain ⟨rfl, xs, s, t⟩ := CtAt.mono e2 a1
    refine ⟨.ref f, ef, n, ps, L, r, pb, f, v2, xs, en, rfl, s, t, a2, a3.2.1, a3.2.2.2, hok, h0, h6, hL, hin, hsub, hm, hk, fun en' H' fr hf' hk' kn lk => k en' H' kn lk (w2.chgD hf fr hf' hk')⟩
def sumTo (ps : List (Int × Int)) (l : List Int) (k : Nat) : Nat := (((firstsL ps l).take k).map fun q => nL ps (l.eraseIdx q.2.toNat)).sum
theorem sumTo_succ {ps : List (Int × Int)} {l : List Int} {k : Nat} (hk : k < (firstsL ps l).length) : sumTo ps l (k + 1) = sumTo ps l k + nL ps (l.eraseIdx ((firstsL ps l)[k]).2.toNat) := by
  unfold sumTo
  rw [List.take_succ_eq_append_getElem hk, List.map_append, List.sum_append_nat]
  simp
theorem firsts_get {ps : List (Int × Int)} {l : List Int} {k : Nat} (hk : k < (firstsL ps l).length) : ∃ p : Nat, p < l.length ∧ ((firstsL ps l)[k]).2 = (p : Int) ∧ ((firstsL ps l)[k]).1 = l.getD p 0 := by
  obtain ⟨p, hp, _, e⟩ := firsts_mem (List.getElem_mem hk)
  exact ⟨p, hp, by rw [e], by rw [e]⟩
theorem ok_count (E : Nv K mg) : ∀ m : Nat, FnOk P w K mg base CX0 (5 + m) E.a_count_alike E.d_count_alike ["bars", "row", "known"] (spCnt K E.C_Trade P w m)
  | 0 => ⟨fun vs H Q _ h => by
      obtain ⟨_, _, _, _, _, _, _, _, _, rfl, _⟩ := h
      rfl, fun A outer s H args us vs Q X _ _ _ _ h => by
      obtain ⟨_, _, _, _, _, _, _, _, _, _, _, _, _, _, _, _, _, _, _, _, _, z, _⟩ := h
      exact absurd z (Nat.not_lt_zero _)⟩
  | m + 1 => by
    have ih := ok_count E m
    refine E.F_count_alike.ok (k := 5 + m) sc_count_alike (fun vs H Q _ h => ?_) (fun cdv A outer s H vs Q _ hr h => ?_)
    · obtain ⟨_, _, _, _, _, _, _, _, _, rfl, _⟩ := h
      rfl
    · obtain ⟨n, ps, L, l, pb, f, v, xs, en, rfl, hs, ht, hv, hf, hks, hok, h0, h6, hL, hin, hsub, hm, hkn, q⟩ := h
      refine ⟨_, (pss_cons (ps_if (pt_not (pt_truK K (pv 1) (fun _ => rfl))) (pss_one (ps_ret pe_int)) pss_nil)
      (pss_cons (ps_if (pt_cmp (pc_dnotinF (hu_of hr) (pv 1) (pv 2))) (pss_cons (ps_set (i := 3) sc_count_alike.nd rfl (.inl rfl) pe_int)
      (pss_cons (ps_for PassesOwn.never rfl (pi_listK K (pe_call (ok_first_letters E) (hr.mono (by first | decide | omega)) (by rfl) E.m_first_letters E.F_first_letters.kp E.b_first_letters .nil pass0 (pa_cons (pv 0) (pa_cons (pv 1) pa_nil)))) (pg_tupK K (n := 2) rfl (pgs_cons (pg_name (i := 4) sc_count_alike.nd rfl (.inl rfl)) (pgs_cons (pg_name (i := 5) sc_count_alike.nd rfl (.inl rfl)) pgs_nil)))
      (pss_one (ps_set (i := 3) sc_count_alike.nd rfl (.inl rfl) (pe_op (op_addK K) (pv 3) (pe_call ih (hr.mono (by omega)) (by rfl) E.m_count_alike E.F_count_alike.kp E.b_count_alike .nil pass0 (pa_cons (pv 0) (pa_cons (pe_call (ok_without E) (hr.mono (by omega)) (by rfl) E.m_without E.F_without.kp E.b_without .nil pass0 (pa_cons (pv 1) (pa_cons (pv 5) pa_nil))) (pa_cons (pv 2) pa_nil))))))))
      (pss_one (ps_dputF (hu_of hr) (pv 2) (pv 1) (pv 3) rfl)))) pss_nil)
      (pss_one (ps_ret (pe_dgetF (hu_of hr) (pv 2) (pv 1) (fun _ _ => rfl)))))), ?_⟩
      have npf : pb ≠ f := fun z => by rw [z, hf] at hs; cases hs
      have hll : l.length ≤ 20 := Nat.le_trans hsub.length_le hL
      have w0 : Wd K E.C_Trade [f] [] H H _ [.s pb (iL (barsL n ps)), .d (row l), dct P w f en, .u, .u, .u] := Wd.start0 (N := N_count_alike) (vs := [.ref pb, v, .ref f]) (cs := [.s pb (iL (barsL n ps)), .d (row l), dct P w f en]) ⟨⟨rfl, xs, hs, ht⟩, hv, ⟨rfl, hf, True.intro, hks⟩, True.intro⟩ (LT.oneW hf True.intro)
        (fun c m o a ha => by
          rcases List.mem_cons.mp m with rfl | m
          · cases o
          · rcases List.mem_cons.mp m with rfl | m
            · cases o
            · rw [List.mem_singleton.mp m] at ha
              exact ha)
        (fun i j c c' a e e' ma mb => by
          have key : ∀ {i : Nat} {c : Ct}, [Ct.s pb (iL (barsL n ps)), .d (row l), dct P w f en][i]? = some c → a ∈ c.adr → (i = 0 ∧ a = pb ∧ c.own = false) ∨ (i = 2 ∧ a = f) := fun {i c} h m => by
            match i, h with
            | 0, h => cases h; exact .inl ⟨rfl, by simpa [Ct.adr] using m, rfl⟩
            | 1, h => cases h; simp [Ct.adr] at m
            | 2, h => cases h; exact .inr ⟨rfl, by simpa [Ct.adr] using m⟩
          rcases key e ma with ⟨z1, z2, z3⟩ | ⟨z1, z2⟩ <;> rcases key e' mb with ⟨y1, y2, y3⟩ | ⟨y1, y2⟩
          · exact .inl (z1.trans y1.symm)
          · exact absurd (z2.symm.trans y2) npf
          · exact absurd (y2.symm.trans z2) npf
          · exact .inl (z1.trans y1.symm)) (Nat.le_of_ble_eq_true rfl)
      refine s_when w0 (b := l.isEmpty) (et_cast (et_not (et_truT (ev_var (i := 1) w0 rfl))) (by simp [iL])) (fun e H1 w1 => ?_) (fun e H1 w1 => ?_)
      · have e0 : l = [] := by simpa using e
        refine s_ret w1 (c := .d (.int ((1 : Nat) : Int))) ev_int fun v H2 w2 a2 => ?_
        obtain ⟨_, _, a3⟩ := w2.get (i := 2) rfl
        have := q en H2 w2.fr a3.2.1 a3.2.2.2 hkn (fun r _ => rfl)
        rw [e0, nL_nil] at this
        rw [Td.int_of a2]
        exact this
      · have hne : l ≠ [] := by simpa using e
        have fin : ∀ σ H', (∃ en' c3 c4 c5, Wd K E.C_Trade [f] [] H H' σ [.s pb (iL (barsL n ps)), .d (row l), dct P w f en', c3, c4, c5] ∧ Kn ps L en' ∧ lookE en' l = some ((nL ps l : Nat) : Int) ∧ ∀ r, l.length < r.length → lookE en' r = lookE en r) →
            tRet (tGetF P w (tVar 2) (tVar 1)) { nx := fun _ H' => Q .non H', rt := Q } σ H' := fun σ H' ⟨en', c3, c4, c5, w3, k3, lk, lo⟩ => by
          refine s_ret w3 (c := .d (.int (nL ps l : Nat))) (ev_getF (ev_var (i := 2) w3 rfl) (ev_var (i := 1) w3 rfl) lk) fun v H4 w4 a4 => ?_
          obtain ⟨_, _, a5⟩ := w4.get (i := 2) rfl
          rw [Td.int_of a4]
          exact q en' H4 w4.fr a5.2.1 a5.2.2.2 k3 lo
        refine q_if w1 (b := !(lookE en l).isSome) (et_test (ev_notInF (ev_var (i := 1) w1 rfl) (ev_var (i := 2) w1 rfl))) (fun e2 H2 w2 => ?_) (fun e2 H2 w2 => ?_)
        · have hz : lookE en l = none := by
            cases z : lookE en l with
            | none => rfl
            | some x => rw [z] at e2; cases e2
          refine q_asgD w2 ev_int fun σ3 H3 w3 => ?_
          refine q_forN (mk := Pt.pairD) w3 (en_call (ea_consS (ev_var (i := 0) w3 rfl) (ea_cons (ev_var (i := 1) w3 rfl) ea_nil)) ⟨n, ps, l, hok, h0, h6, hll, fun x hx => hin x (hsub.subset hx), rfl, rfl⟩)
            (fun k Γ' => ∃ en' c4 c5, Γ' = [.s pb (iL (barsL n ps)), .d (row l), dct P w f en', .d (.int (sumTo ps l k : Nat)), c4, c5] ∧ Kn ps L en' ∧ ∀ r, l.length ≤ r.length → lookE en' r = lookE en r) ⟨en, _, _, rfl, hkn, fun _ _ => rfl⟩ ?_ ?_
          · rintro S1 H1' un k hk v' σ' H' Γ' ⟨en', c4, c5, rfl, k4, l4⟩ w4 t4
            refine g_pair w4 t4 fun σ5 w5 => ?_
            obtain ⟨p, hp, hp2, _⟩ := firsts_get hk
            rw [hp2] at w5
            have w5' : Wd K E.C_Trade S1 [] H1' H' σ5 [.s pb (iL (barsL n ps)), .d (row l), dct P w f en', .d (.int (sumTo ps l k : Nat)), .d (.int ((firstsL ps l)[k]).1), .d (.int (p : Nat))] := w5
            have hle : (l.eraseIdx p).length + 1 = l.length := by rw [List.length_eraseIdx_of_lt hp]; omega
            obtain ⟨v3, e3, a3⟩ := w5'.get (i := 3) rfl
            rw [Td.int_of a3] at e3
            refine ⟨_, e3, cnt_at (L := L) w5' (ev_var (i := 0) w5' rfl) (ev_call (ea_cons (ev_var (i := 1) w5' rfl) (ea_cons (ev_var (i := 5) w5' rfl) ea_nil)) ⟨l, p, hp, by omega, rfl, rfl⟩) (b := 2) rfl hok h0 h6 hL hin ((List.eraseIdx_sublist l p).trans hsub) (by omega) k4 fun en2 H6 k6 l6 w6 => .inl ⟨_, _, rfl, rfl, ?_⟩⟩
            refine ⟨_, ⟨en2, .d (.int ((firstsL ps l)[k]).1), .d (.int (p : Nat)), rfl, k6, fun r hr => by rw [l6 r (by omega), l4 r hr]⟩, ?_⟩
            have e7 : ((sumTo ps l k : Nat) : Int) + ((nL ps (l.eraseIdx p) : Nat) : Int) = ((sumTo ps l (k + 1) : Nat) : Int) := by
              rw [sumTo_succ hk, hp2, Int.toNat_natCast]
              omega
            have t7 : CtAt K E.C_Trade H6 (.int (((sumTo ps l k : Nat) : Int) + ((nL ps (l.eraseIdx p) : Nat) : Int))) (.d (.int ((sumTo ps l (k + 1) : Nat) : Int))) := by
              rw [e7]
              exact Td.int _
            exact w6.set 3 t7
          · rintro σ' H' Γ' ⟨en', c4, c5, rfl, k4, l4⟩ w4
            have e8 : sumTo ps l (firstsL ps l).length = nL ps l := by unfold sumTo; rw [List.take_length, nL_cons hne]
            rw [e8] at w4
            have hz' : lookE en' l = none := by rw [l4 l (Nat.le_refl _)]; exact hz
            refine s_putF2 w4 (i := 2) rfl (ev_var (i := 1) w4 rfl) (ev_var (i := 3) w4 rfl) hz' (k4.bound hL) fun b H5 w5 => fin _ _ ⟨_, _, _, _, w5, k4.put hsub hz', ?_, fun r hr => ?_⟩
            · rw [lookE_snoc hz', if_pos rfl]
            · rw [lookE_snoc hz', if_neg (fun z => by rw [z] at hr; omega), l4 r (by omega)]
        · have hz : lookE en l ≠ none := fun z => by rw [z] at e2; cases e2
          exact s_next (fin _ _ ⟨en, _, _, _, w2, hkn, hkn.look hz, fun _ _ => rfl⟩)
theorem ok_count_alike (E : Nv K mg) : FnOk P w K mg base CX0 26 E.a_count_alike E.d_count_alike ["bars", "row", "known"] (spCnt K E.C_Trade P w 21) := ok_count E 21
end
end K1
set_option maxRecDepth 10000000
namespace K1
open PySem PySem.Spec PyProof.Rows L2 Pt
local macro_rules
  | `(tactic| walk_at "sz") => `(tactic| first
    | omega
    | decide
    | (simp; omega)
    | (simp [iL, row, pairsD]; omega))
  | `(tactic| walk_at "ea") => `(tactic| first
    | (with_reducible exact ea_nil)
    | ((with_reducible apply ea_consL); (focus (walk_at "ev")); (focus (walk_at "ea")))
    | ((with_reducible apply ea_consS); (focus (walk_at "ev")); (focus (walk_at "ea")))
    | ((with_reducible apply ea_cons); (focus (walk_at "ev")); (focus (walk_at "ea")))
    | ((with_reducible apply ea_consN); (focus (walk_at "en")); (focus (walk_at "ea"))))
  | `(tactic| walk_at "ed") => `(tactic| first
    | (with_reducible exact ed_nil)
    | ((with_reducible apply ed_cons); (focus (walk_at "ev")); (focus (walk_at "ed"))))
  | `(tactic| walk_at "en") => `(tactic| first
    | ((with_reducible apply en_lst); (focus (walk_at "ed")); (focus (simp)))
    | ((with_reducible apply en_listT); (focus (walk_at "ev")))
    | ((with_reducible apply en_addL); (focus (walk_at "ev")); (focus (walk_at "en")); (focus (walk_at "sz")))
    | ((with_reducible apply en_addN); (focus (walk_at "en")); (focus (walk_at "en")); (focus (walk_at "sz")))
    | ((with_reducible apply en_slL); (focus (walk_at "ev")); (focus (walk_at "eo")); (focus (walk_at "eo"))))
  | `(tactic| walk_at "eo") => `(tactic| first
    | (with_reducible exact eo_none)
    | ((with_reducible apply eo_some); (focus (walk_at "ev"))))
  | `(tactic| walk_at "et") => `(tactic| first
    | (with_reducible exact et_yes)
    | ((with_reducible apply et_test); (focus (walk_at "ev")))
    | ((with_reducible apply et_B); (focus (walk_at "ev")))
    | ((with_reducible apply et_truB); (focus (walk_at "ev")))
    | ((with_reducible apply et_truT); (focus (walk_at "ev")))
    | ((with_reducible apply et_not); (focus (walk_at "et")))
    | ((with_reducible apply et_and); (focus (walk_at "et")); (focus (intro _; walk_at "et")))
    | ((with_reducible apply et_or); (focus (walk_at "et")); (focus (intro _; walk_at "et"))))
  | `(tactic| walk_at "var") => `(tactic| first
    | ((with_reducible apply ev_varD); (focus (assumption)); (focus (rfl)))
    | ((with_reducible apply ev_varL); (focus (assumption)); (focus (rfl)))
    | ((with_reducible apply ev_varS); (focus (assumption)); (focus (rfl)))
    | ((with_reducible apply ev_varT); (focus (assumption)); (focus (rfl)))
    | ((with_reducible apply ev_varH); (focus (assumption)); (focus (rfl)))
    | ((with_reducible apply ev_varZ); (focus (assumption)); (focus (rfl))))
  | `(tactic| walk_at "ev") => `(tactic| first
    | walk_at "var"
    | (with_reducible exact ev_int)
    | (with_reducible exact ev_bl)
    | (with_reducible exact ev_str)
    | (with_reducible exact ev_non)
    | ((with_reducible apply ev_letters); (focus (walk_at "ev")))
    | ((with_reducible apply ev_pairs); (focus (walk_at "ev")))
    | ((with_reducible apply ev_addI); (focus (walk_at "ev")); (focus (walk_at "ev")))
    | ((with_reducible apply ev_addT); (focus (walk_at "ev")); (focus (walk_at "ev")); (focus (walk_at "sz")))
    | ((with_reducible apply ev_i0); (focus (walk_at "ev")); (focus (walk_at "ev")); (focus (first | exact fun _ => .int _ | exact fun _ => .bl _)))
    | ((with_reducible apply ev_iC); (focus (walk_at "ev")); (focus (walk_at "ev")); (focus (first | assumption | walk_at "cond")); (focus (exact fun _ => .int _)))
    | ((with_reducible apply ev_chain); (focus (walk_at "ev")); (focus (walk_at "ev")); (focus (walk_at "ev")))
    | ((with_reducible apply ev_eqI); (focus (walk_at "ev")); (focus (walk_at "ev")))
    | ((with_reducible apply ev_neI); (focus (walk_at "ev")); (focus (walk_at "ev")))
    | ((with_reducible apply ev_eqR); (focus (walk_at "ev")); (focus (walk_at "ev")))
    | ((with_reducible apply ev_neR); (focus (walk_at "ev")); (focus (walk_at "ev")))
    | ((with_reducible apply ev_isN); (focus (walk_at "ev")))
    | ((with_reducible apply ev_notN); (focus (walk_at "ev")))
    | ((with_reducible apply ev_in2); (focus (walk_at "ev")); (focus (walk_at "ev")); (focus (walk_at "ev")))
    | ((with_reducible apply ev_inP); (focus (walk_at "ev")); (focus (walk_at "ev")))
    | ((with_reducible apply ev_tup); (focus (walk_at "ed")); (focus (simp)))
    | ((with_reducible apply ev_lenT); (focus (walk_at "ev")))
    | ((with_reducible apply ev_lenL); (focus (walk_at "ev")))
    | ((with_reducible apply ev_lenS); (focus (walk_at "ev")))
    | ((with_reducible apply ev_lenN); (focus (walk_at "en")))
    | ((with_reducible apply ev_max2); (focus (walk_at "ev")); (focus (walk_at "ev")))
    | ((with_reducible apply ev_min2); (focus (walk_at "ev")); (focus (walk_at "ev")))
    | ((with_reducible apply ev_int1); (focus (walk_at "ev")))
    | ((with_reducible apply ev_tupleL); (focus (walk_at "ev")))
    | ((with_reducible apply ev_tupleN); (focus (walk_at "en")))
    | ((with_reducible apply ev_countT); (focus (walk_at "ev")); (focus (walk_at "ev")))
    | ((with_reducible apply ev_andV); (focus (walk_at "ev")); (focus (intro _; walk_at "ev")))
    | ((with_reducible apply ev_orV); (focus (walk_at "ev")); (focus (intro _; walk_at "ev")))
    | ((with_reducible apply ev_notV); (focus (walk_at "ev"))))
section
variable {P : Program} {w : World} {K : PySem.W.Frag} {mg : Str → Option Value} {base : Heap}
end
end K1
set_option maxRecDepth 10000000
namespace K1
open PySem PySem.Spec PyProof.Rows L2 Pt
local macro_rules
  | `(tactic| walk_at "sz") => `(tactic| first
    | omega
    | decide
    | (simp; omega)
    | (simp [iL, row, pairsD]; omega))
  | `(tactic| walk_at "ea") => `(tactic| first
    | (with_reducible exact ea_nil)
    | ((with_reducible apply ea_consL); (focus (walk_at "ev")); (focus (walk_at "ea")))
    | ((with_reducible apply ea_consS); (focus (walk_at "ev")); (focus (walk_at "ea")))
    | ((with_reducible apply ea_cons); (focus (walk_at "ev")); (focus (walk_at "ea")))
    | ((with_reducible apply ea_consN); (focus (walk_at "en")); (focus (walk_at "ea"))))
  | `(tactic| walk_at "ed") => `(tactic| first
    | (with_reducible exact ed_nil)
    | ((with_reducible apply ed_cons); (focus (walk_at "ev")); (focus (walk_at "ed"))))
  | `(tactic| walk_at "en") => `(tactic| first
    | ((with_reducible apply en_lst); (focus (walk_at "ed")); (focus (simp)))
    | ((with_reducible apply en_listT); (focus (walk_at "ev")))
    | ((with_reducible apply en_addL); (focus (walk_at "ev")); (focus (walk_at "en")); (focus (walk_at "sz")))
    | ((with_reducible apply en_addN); (focus (walk_at "en")); (focus (walk_at "en")); (focus (walk_at "sz")))
    | ((with_reducible apply en_slL); (focus (walk_at "ev")); (focus (walk_at "eo")); (focus (walk_at "eo"))))
  | `(tactic| walk_at "eo") => `(tactic| first
    | (with_reducible exact eo_none)
    | ((with_reducible apply eo_some); (focus (walk_at "ev"))))
  | `(tactic| walk_at "et") => `(tactic| first
    | (with_reducible exact et_yes)
    | ((with_reducible apply et_test); (focus (walk_at "ev")))
    | ((with_reducible apply et_B); (focus (walk_at "ev")))
    | ((with_reducible apply et_truB); (focus (walk_at "ev")))
    | ((with_reducible apply et_truT); (focus (walk_at "ev")))
    | ((with_reducible apply et_not); (focus (walk_at "et")))
    | ((with_reducible apply et_and); (focus (walk_at "et")); (focus (intro _; walk_at "et")))
    | ((with_reducible apply et_or); (focus (walk_at "et")); (focus (intro _; walk_at "et"))))
  | `(tactic| walk_at "var") => `(tactic| first
    | ((with_reducible apply ev_varD); (focus (assumption)); (focus (rfl)))
    | ((with_reducible apply ev_varL); (focus (assumption)); (focus (rfl)))
    | ((with_reducible apply ev_varS); (focus (assumption)); (focus (rfl)))
    | ((with_reducible apply ev_varT); (focus (assumption)); (focus (rfl)))
    | ((with_reducible apply ev_varH); (focus (assumption)); (focus (rfl)))
    | ((with_reducible apply ev_varZ); (focus (assumption)); (focus (rfl))))
  | `(tactic| walk_at "ev") => `(tactic| first
    | walk_at "var"
    | (with_reducible exact ev_int)
    | (with_reducible exact ev_bl)
    | (with_reducible exact ev_str)
    | (with_reducible exact ev_non)
    | ((with_reducible apply ev_letters); (focus (walk_at "ev")))
    | ((with_reducible apply ev_pairs); (focus (walk_at "ev")))
    | ((with_reducible apply ev_addI); (focus (walk_at "ev")); (focus (walk_at "ev")))
    | ((with_reducible apply ev_addT); (focus (walk_at "ev")); (focus (walk_at "ev")); (focus (walk_at "sz")))
    | ((with_reducible apply ev_i0); (focus (walk_at "ev")); (focus (walk_at "ev")); (focus (first | exact fun _ => .int _ | exact fun _ => .bl _)))
    | ((with_reducible apply ev_iC); (focus (walk_at "ev")); (focus (walk_at "ev")); (focus (first | assumption | walk_at "cond")); (focus (exact fun _ => .int _)))
    | ((with_reducible apply ev_chain); (focus (walk_at "ev")); (focus (walk_at "ev")); (focus (walk_at "ev")))
    | ((with_reducible apply ev_eqI); (focus (walk_at "ev")); (focus (walk_at "ev")))
    | ((with_reducible apply ev_neI); (focus (walk_at "ev")); (focus (walk_at "ev")))
    | ((with_reducible apply ev_eqR); (focus (walk_at "ev")); (focus (walk_at "ev")))
    | ((with_reducible apply ev_neR); (focus (walk_at "ev")); (focus (walk_at "ev")))
    | ((with_reducible apply ev_isN); (focus (walk_at "ev")))
    | ((with_reducible apply ev_notN); (focus (walk_at "ev")))
    | ((with_reducible apply ev_in2); (focus (walk_at "ev")); (focus (walk_at "ev")); (focus (walk_at "ev")))
    | ((with_reducible apply ev_inP); (focus (walk_at "ev")); (focus (walk_at "ev")))
    | ((with_reducible apply ev_tup); (focus (walk_at "ed")); (focus (simp)))
    | ((with_reducible apply ev_lenT); (focus (walk_at "ev")))
    | ((with_reducible apply ev_lenL); (focus (walk_at "ev")))
    | ((with_reducible apply ev_lenS); (focus (walk_at "ev")))
    | ((with_reducible apply ev_lenN); (focus (walk_at "en")))
    | ((with_reducible apply ev_max2); (focus (walk_at "ev")); (focus (walk_at "ev")))
    | ((with_reducible apply ev_min2); (focus (walk_at "ev")); (focus (walk_at "ev")))
    | ((with_reducible apply ev_int1); (focus (walk_at "ev")))
    | ((with_reducible apply ev_tupleL); (focus (walk_at "ev")))
    | ((with_reducible apply ev_tupleN); (focus (walk_at "en")))
    | ((with_reducible apply ev_countT); (focus (walk_at "ev")); (focus (walk_at "ev")))
    | ((with_reducible apply ev_andV); (focus (walk_at "ev")); (focus (intro _; walk_at "ev")))
    | ((with_reducible apply ev_orV); (focus (walk_at "ev")); (focus (intro _; walk_at "ev")))
    | ((with_reducible apply ev_notV); (focus (walk_at "ev"))))
section
variable {P : Program} {w : World} {K : PySem.W.Frag} {mg : Str → Option Value} {base : Heap}
end
end K1
set_option maxRecDepth 10000000
namespace K1
open PySem PySem.Spec PyProof.Rows L2 Pt
local macro_rules
  | `(tactic| walk_at "sz") => `(tactic| first
    | omega
    | decide
    | (simp; omega)
    | (simp [iL, row, pairsD]; omega))
  | `(tactic| walk_at "ea") => `(tactic| first
    | (with_reducible exact ea_nil)
    | ((with_reducible apply ea_consL); (focus (walk_at "ev")); (focus (walk_at "ea")))
    | ((with_reducible apply ea_consS); (focus (walk_at "ev")); (focus (walk_at "ea")))
    | ((with_reducible apply ea_cons); (focus (walk_at "ev")); (focus (walk_at "ea")))
    | ((with_reducible apply ea_consN); (focus (walk_at "en")); (focus (walk_at "ea"))))
  | `(tactic| walk_at "ed") => `(tactic| first
    | (with_reducible exact ed_nil)
    | ((with_reducible apply ed_cons); (focus (walk_at "ev")); (focus (walk_at "ed"))))
  | `(tactic| walk_at "en") => `(tactic| first
    | ((with_reducible apply en_lst); (focus (walk_at "ed")); (focus (simp)))
    | ((with_reducible apply en_listT); (focus (walk_at "ev")))
    | ((with_reducible apply en_addL); (focus (walk_at "ev")); (focus (walk_at "en")); (focus (walk_at "sz")))
    | ((with_reducible apply en_addN); (focus (walk_at "en")); (focus (walk_at "en")); (focus (walk_at "sz")))
    | ((with_reducible apply en_slL); (focus (walk_at "ev")); (focus (walk_at "eo")); (focus (walk_at "eo"))))
  | `(tactic| walk_at "eo") => `(tactic| first
    | (with_reducible exact eo_none)
    | ((with_reducible apply eo_some); (focus (walk_at "ev"))))
  | `(tactic| walk_at "et") => `(tactic| first
    | (with_reducible exact et_yes)
    | ((with_reducible apply et_test); (focus (walk_at "ev")))
    | ((with_reducible apply et_B); (focus (walk_at "ev")))
    | ((with_reducible apply et_truB); (focus (walk_at "ev")))
    | ((with_reducible apply et_truT); (focus (walk_at "ev")))
    | ((with_reducible apply et_not); (focus (walk_at "et")))
    | ((with_reducible apply et_and); (focus (walk_at "et")); (focus (intro _; walk_at "et")))
    | ((with_reducible apply et_or); (focus (walk_at "et")); (focus (intro _; walk_at "et"))))
  | `(tactic| walk_at "var") => `(tactic| first
    | ((with_reducible apply ev_varD); (focus (assumption)); (focus (rfl)))
    | ((with_reducible apply ev_varL); (focus (assumption)); (focus (rfl)))
    | ((with_reducible apply ev_varS); (focus (assumption)); (focus (rfl)))
    | ((with_reducible apply ev_varT); (focus (assumption)); (focus (rfl)))
    | ((with_reducible apply ev_varH); (focus (assumption)); (focus (rfl)))
    | ((with_reducible apply ev_varZ); (focus (assumption)); (focus (rfl))))
  | `(tactic| walk_at "ev") => `(tactic| first
    | walk_at "var"
    | (with_reducible exact ev_int)
    | (with_reducible exact ev_bl)
    | (with_reducible exact ev_str)
    | (with_reducible exact ev_non)
    | ((with_reducible apply ev_letters); (focus (walk_at "ev")))
    | ((with_reducible apply ev_pairs); (focus (walk_at "ev")))
    | ((with_reducible apply ev_addI); (focus (walk_at "ev")); (focus (walk_at "ev")))
    | ((with_reducible apply ev_addT); (focus (walk_at "ev")); (focus (walk_at "ev")); (focus (walk_at "sz")))
    | ((with_reducible apply ev_i0); (focus (walk_at "ev")); (focus (walk_at "ev")); (focus (first | exact fun _ => .int _ | exact fun _ => .bl _)))
    | ((with_reducible apply ev_iC); (focus (walk_at "ev")); (focus (walk_at "ev")); (focus (first | assumption | walk_at "cond")); (focus (exact fun _ => .int _)))
    | ((with_reducible apply ev_chain); (focus (walk_at "ev")); (focus (walk_at "ev")); (focus (walk_at "ev")))
    | ((with_reducible apply ev_eqI); (focus (walk_at "ev")); (focus (walk_at "ev")))
    | ((with_reducible apply ev_neI); (focus (walk_at "ev")); (focus (walk_at "ev")))
    | ((with_reducible apply ev_eqR); (focus (walk_at "ev")); (focus (walk_at "ev")))
    | ((with_reducible apply ev_neR); (focus (walk_at "ev")); (focus (walk_at "ev")))
    | ((with_reducible apply ev_isN); (focus (walk_at "ev")))
    | ((with_reducible apply ev_notN); (focus (walk_at "ev")))
    | ((with_reducible apply ev_in2); (focus (walk_at "ev")); (focus (walk_at "ev")); (focus (walk_at "ev")))
    | ((with_reducible apply ev_inP); (focus (walk_at "ev")); (focus (walk_at "ev")))
    | ((with_reducible apply ev_tup); (focus (walk_at "ed")); (focus (simp)))
    | ((with_reducible apply ev_lenT); (focus (walk_at "ev")))
    | ((with_reducible apply ev_lenL); (focus (walk_at "ev")))
    | ((with_reducible apply ev_lenS); (focus (walk_at "ev")))
    | ((with_reducible apply ev_lenN); (focus (walk_at "en")))
    | ((with_reducible apply ev_max2); (focus (walk_at "ev")); (focus (walk_at "ev")))
    | ((with_reducible apply ev_min2); (focus (walk_at "ev")); (focus (walk_at "ev")))
    | ((with_reducible apply ev_int1); (focus (walk_at "ev")))
    | ((with_reducible apply ev_tupleL); (focus (walk_at "ev")))
    | ((with_reducible apply ev_tupleN); (focus (walk_at "en")))
    | ((with_reducible apply ev_countT); (focus (walk_at "ev")); (focus (walk_at "ev")))
    | ((with_reducible apply ev_andV); (focus (walk_at "ev")); (focus (intro _; walk_at "ev")))
    | ((with_reducible apply ev_orV); (focus (walk_at "ev")); (focus (intro _; walk_at "ev")))
    | ((with_reducible apply ev_notV); (focus (walk_at "ev"))))
section
variable {P : Program} {w : World} {K : PySem.W.Frag} {mg : Str → Option Value} {base : Heap}
end
end K1
set_option maxRecDepth 10000000
namespace K1
open PySem PySem.Spec PyProof.Rows L2 Pt
local macro_rules
  | `(tactic| walk_at "sz") => `(tactic| first
    | omega
    | decide
    | (simp; omega)
    | (simp [iL, row, pairsD]; omega))
  | `(tactic| walk_at "ea") => `(tactic| first
    | (with_reducible exact ea_nil)
    | ((with_reducible apply ea_consL); (focus (walk_at "ev")); (focus (walk_at "ea")))
    | ((with_reducible apply ea_consS); (focus (walk_at "ev")); (focus (walk_at "ea")))
    | ((with_reducible apply ea_cons); (focus (walk_at "ev")); (focus (walk_at "ea")))
    | ((with_reducible apply ea_consN); (focus (walk_at "en")); (focus (walk_at "ea"))))
  | `(tactic| walk_at "ed") => `(tactic| first
    | (with_reducible exact ed_nil)
    | ((with_reducible apply ed_cons); (focus (walk_at "ev")); (focus (walk_at "ed"))))
  | `(tactic| walk_at "en") => `(tactic| first
    | ((with_reducible apply en_lst); (focus (walk_at "ed")); (focus (simp)))
    | ((with_reducible apply en_listT); (focus (walk_at "ev")))
    | ((with_reducible apply en_addL); (focus (walk_at "ev")); (focus (walk_at "en")); (focus (walk_at "sz")))
    | ((with_reducible apply en_addN); (focus (walk_at "en")); (focus (walk_at "en")); (focus (walk_at "sz")))
    | ((with_reducible apply en_slL); (focus (walk_at "ev")); (focus (walk_at "eo")); (focus (walk_at "eo"))))
  | `(tactic| walk_at "eo") => `(tactic| first
    | (with_reducible exact eo_none)
    | ((with_reducible apply eo_some); (focus (walk_at "ev"))))
  | `(tactic| walk_at "et") => `(tactic| first
    | (with_reducible exact et_yes)
    | ((with_reducible apply et_test); (focus (walk_at "ev")))
    | ((with_reducible apply et_B); (focus (walk_at "ev")))
    | ((with_reducible apply et_truB); (focus (walk_at "ev")))
    | ((with_reducible apply et_truT); (focus (walk_at "ev")))
    | ((with_reducible apply et_not); (focus (walk_at "et")))
    | ((with_reducible apply et_and); (focus (walk_at "et")); (focus (intro _; walk_at "et")))
    | ((with_reducible apply et_or); (focus (walk_at "et")); (focus (intro _; walk_at "et"))))
  | `(tactic| walk_at "var") => `(tactic| first
    | ((with_reducible apply ev_varD); (focus (assumption)); (focus (rfl)))
    | ((with_reducible apply ev_varL); (focus (assumption)); (focus (rfl)))
    | ((with_reducible apply ev_varS); (focus (assumption)); (focus (rfl)))
    | ((with_reducible apply ev_varT); (focus (assumption)); (focus (rfl)))
    | ((with_reducible apply ev_varH); (focus (assumption)); (focus (rfl)))
    | ((with_reducible apply ev_varZ); (focus (assumption)); (focus (rfl))))
  | `(tactic| walk_at "ev") => `(tactic| first
    | walk_at "var"
    | (with_reducible exact ev_int)
    | (with_reducible exact ev_bl)
    | (with_reducible exact ev_str)
    | (with_reducible exact ev_non)
    | ((with_reducible apply ev_letters); (focus (walk_at "ev")))
    | ((with_reducible apply ev_pairs); (focus (walk_at "ev")))
    | ((with_reducible apply ev_addI); (focus (walk_at "ev")); (focus (walk_at "ev")))
    | ((with_reducible apply ev_addT); (focus (walk_at "ev")); (focus (walk_at "ev")); (focus (walk_at "sz")))
    | ((with_reducible apply ev_i0); (focus (walk_at "ev")); (focus (walk_at "ev")); (focus (first | exact fun _ => .int _ | exact fun _ => .bl _)))
    | ((with_reducible apply ev_iC); (focus (walk_at "ev")); (focus (walk_at "ev")); (focus (first | assumption | walk_at "cond")); (focus (exact fun _ => .int _)))
    | ((with_reducible apply ev_chain); (focus (walk_at "ev")); (focus (walk_at "ev")); (focus (walk_at "ev")))
    | ((with_reducible apply ev_eqI); (focus (walk_at "ev")); (focus (walk_at "ev")))
    | ((with_reducible apply ev_neI); (focus (walk_at "ev")); (focus (walk_at "ev")))
    | ((with_reducible apply ev_eqR); (focus (walk_at "ev")); (focus (walk_at "ev")))
    | ((with_reducible apply ev_neR); (focus (walk_at "ev")); (focus (walk_at "ev")))
    | ((with_reducible apply ev_isN); (focus (walk_at "ev")))
    | ((with_reducible apply ev_notN); (focus (walk_at "ev")))
    | ((with_reducible apply ev_in2); (focus (walk_at "ev")); (focus (walk_at "ev")); (focus (walk_at "ev")))
    | ((with_reducible apply ev_inP); (focus (walk_at "ev")); (focus (walk_at "ev")))
    | ((with_reducible apply ev_tup); (focus (walk_at "ed")); (focus (simp)))
    | ((with_reducible apply ev_lenT); (focus (walk_at "ev")))
    | ((with_reducible apply ev_lenL); (focus (walk_at "ev")))
    | ((with_reducible apply ev_lenS); (focus (walk_at "ev")))
    | ((with_reducible apply ev_lenN); (focus (walk_at "en")))
    | ((with_reducible apply ev_max2); (focus (walk_at "ev")); (focus (walk_at "ev")))
    | ((with_reducible apply ev_min2); (focus (walk_at "ev")); (focus (walk_at "ev")))
    | ((with_reducible apply ev_int1); (focus (walk_at "ev")))
    | ((with_reducible apply ev_tupleL); (focus (walk_at "ev")))
    | ((with_reducible apply ev_tupleN); (focus (walk_at "en")))
    | ((with_reducible apply ev_countT); (focus (walk_at "ev")); (focus (walk_at "ev")))
    | ((with_reducible apply ev_andV); (focus (walk_at "ev")); (focus (intro _; walk_at "ev")))
    | ((with_reducible apply ev_orV); (focus (walk_at "ev")); (focus (intro _; walk_at "ev")))
    | ((with_reducible apply ev_notV); (focus (walk_at "ev"))))
section
variable {P : Program} {w : World} {K : PySem.W.Frag} {mg : Str → Option Value} {base : Heap}
abbrev R_row (n : Int) (ps : List (Int × Int)) (ds : List PyData) (d : PyData) : Prop := atI ds (-1) = some d
theorem ok_Line_row (E : Nv K mg) : FnOk P w K mg base CX0 2 E.a_Line_row E.d_Line_row ["self"] (spPr K E.C_Trade E.C_Line R_row) := by
  refine E.F_Line_row.ok sc_Line_row (fun vs H Q _ h => ?_) (fun cdv A outer s H vs Q _ hr h => ?_)
  · obtain ⟨_, _, _, _, _, _, rfl, _⟩ := h
    rfl
  · obtain ⟨p, q, n, ps, ds, d, rfl, a, hR, k⟩ := h
    refine ⟨_, (pss_one (ps_ret (pe_ix (ix_K K) (pe_fld (pv 0) rfl) (pe_un un_neg pe_int) (fun _ _ => rfl)))), ?_⟩
    have w0 : Wd K E.C_Trade [] [] H H _ [.r (.ref p)] := Wd.start1 (N := N_Line_row) (c1 := .r (.ref p)) rfl
    exact s_retQ w0 k (ev_ixS (ev_fRows E.cl_Line E.no_rows (ev_asN (ev_var (i := 0) w0 rfl) a)) (ev_neg ev_int) hR)
theorem ok_Line___init__ (E : Nv K mg) : FnOk P w K mg base CX0 8 E.a_Line___init__ E.d_Line___init__ ["self", "trade"] (spLInit K E.C_Trade E.C_Line) := by
  refine E.F_Line___init__.ok sc_Line___init__ (fun vs H Q _ h => ?_) (fun cdv A outer s H vs Q _ hr h => ?_)
  · obtain ⟨_, _, _, _, _, rfl, _⟩ := h
    rfl
  · obtain ⟨p, dx, n, ps, v1, rfl, hp, a, k⟩ := h
    refine ⟨_, (pss_cons (ps_expr (pe_call (ok_check_trade E) (hr.mono (by first | decide | omega)) (by rfl) E.m_check_trade E.F_check_trade.kp E.b_check_trade .nil pass0 (pa_cons (pv 1) pa_nil)))
      (pss_cons (ps_fld (pv 0) (pv 1) rfl)
      (pss_one (ps_fld (pv 0) (pe_lst (pa_cons (pe_tupF pa_nil) pa_nil)) rfl)))), ?_⟩
    have w : Wd K E.C_Trade [] [] H H _ [.r (.ref p), .t n ps] := Wd.start2 (N := N_Line___init__) (c1 := .r (.ref p)) (c2 := .t n ps) rfl a
    refine q_drop w (ev_call (by walk_at "ea") ⟨_, _, rfl, rfl⟩) fun H2 w2 => ?_
    obtain ⟨x1, e1, s1⟩ := w2.get (i := 1) rfl
    obtain ⟨x0, e0, rfl⟩ := w2.get (i := 0) rfl
    have hp2 : H2 p = some (.ins E.C_Line dx []) := w2.fr0 _ _ hp
    obtain ⟨tr, dy, r, rfl, b2, b3⟩ := s1
    refine ⟨.ref tr, e1, .ref p, e0, p, E.C_Line, dx, [], rfl, hp2, E.cl_Line, E.no_trade, by decide, ?_⟩
    show sFld K (tVar 0) (tLst (tCons (tTupF tNil) tNil)) "_rows" _ _ _
    refine (en_lst (ed_cons (ev_tup ed_nil (Nat.zero_le _)) ed_nil) : EvN K E.C_Trade _ _ (L2.upd H2 p (.ins E.C_Line dx (putF "_trade" (.ref tr) []))) [row []]) _ (Same.refl _) _ fun q H4 hq e4 aq => ?_
    have hp4 := e4 _ _ (upd_same (H := H2) (a := p))
    refine ⟨.ref p, e0, p, E.C_Line, dx, _, rfl, hp4, E.cl_Line, E.no_rows, by show 1 < 1000; decide, ?_⟩
    have nqp : q ≠ p := fun z => by rw [z, upd_same] at hq; cases hq
    rw [upd_ne nqp] at hq
    have step : ∀ b o, H2 b = some o → b ≠ p → (L2.upd H4 p (.ins E.C_Line dx (putF "_rows" (.ref q) (putF "_trade" (.ref tr) [])))) b = some o := fun b o hb ne => by
      rw [upd_ne ne]
      exact e4 b o (by rw [upd_ne ne]; exact hb)
    have np : tr ≠ p := fun z => by
      rw [z, hp2] at b2
      have := Option.some.inj b2
      injection this with _ _ h3
      cases h3
    obtain ⟨_, xs, h1, h2⟩ := aq
    refine k q _ (fun b o hb ne => step b o (w2.fr0 _ _ hb) ne) (w2.fr0.free hq) ⟨rfl, ⟨dx, tr, by rw [upd_same, putF_lflds], dy, r, step _ _ b2 np, ?_⟩, xs, by rw [upd_ne nqp]; exact h1, TdAll.mono (Tx.ins hp4) _ _ h2⟩
    exact Td.mono (Tx.ins hp4) _ _ (Td.mono (.of e4) _ _ (Td.mono (Tx.ins hp2) _ _ b3))
end
end K1
set_option maxRecDepth 10000000
namespace K1
open PySem PySem.Spec PyProof.Rows L2 Pt
local macro_rules
  | `(tactic| walk_at "sz") => `(tactic| first
    | omega
    | decide
    | (simp; omega)
    | (simp [iL, row, pairsD]; omega))
  | `(tactic| walk_at "ea") => `(tactic| first
    | (with_reducible exact ea_nil)
    | ((with_reducible apply ea_consL); (focus (walk_at "ev")); (focus (walk_at "ea")))
    | ((with_reducible apply ea_consS); (focus (walk_at "ev")); (focus (walk_at "ea")))
    | ((with_reducible apply ea_cons); (focus (walk_at "ev")); (focus (walk_at "ea")))
    | ((with_reducible apply ea_consN); (focus (walk_at "en")); (focus (walk_at "ea"))))
  | `(tactic| walk_at "ed") => `(tactic| first
    | (with_reducible exact ed_nil)
    | ((with_reducible apply ed_cons); (focus (walk_at "ev")); (focus (walk_at "ed"))))
  | `(tactic| walk_at "en") => `(tactic| first
    | ((with_reducible apply en_lst); (focus (walk_at "ed")); (focus (simp)))
    | ((with_reducible apply en_listT); (focus (walk_at "ev")))
    | ((with_reducible apply en_addL); (focus (walk_at "ev")); (focus (walk_at "en")); (focus (walk_at "sz")))
    | ((with_reducible apply en_addN); (focus (walk_at "en")); (focus (walk_at "en")); (focus (walk_at "sz")))
    | ((with_reducible apply en_slL); (focus (walk_at "ev")); (focus (walk_at "eo")); (focus (walk_at "eo"))))
  | `(tactic| walk_at "eo") => `(tactic| first
    | (with_reducible exact eo_none)
    | ((with_reducible apply eo_some); (focus (walk_at "ev"))))
  | `(tactic| walk_at "et") => `(tactic| first
    | (with_reducible exact et_yes)
    | ((with_reducible apply et_test); (focus (walk_at "ev")))
    | ((with_reducible apply et_B); (focus (walk_at "ev")))
    | ((with_reducible apply et_truB); (focus (walk_at "ev")))
    | ((with_reducible apply et_truT); (focus (walk_at "ev")))
    | ((with_reducible apply et_not); (focus (walk_at "et")))
    | ((with_reducible apply et_and); (focus (walk_at "et")); (focus (intro _; walk_at "et")))
    | ((with_reducible apply et_or); (focus (walk_at "et")); (focus (intro _; walk_at "et"))))
  | `(tactic| walk_at "var") => `(tactic| first
    | ((with_reducible apply ev_varD); (focus (assumption)); (focus (rfl)))
    | ((with_reducible apply ev_varL); (focus (assumption)); (focus (rfl)))
    | ((with_reducible apply ev_varS); (focus (assumption)); (focus (rfl)))
    | ((with_reducible apply ev_varT); (focus (assumption)); (focus (rfl)))
    | ((with_reducible apply ev_varH); (focus (assumption)); (focus (rfl)))
    | ((with_reducible apply ev_varZ); (focus (assumption)); (focus (rfl))))
  | `(tactic| walk_at "ev") => `(tactic| first
    | walk_at "var"
    | (with_reducible exact ev_int)
    | (with_reducible exact ev_bl)
    | (with_reducible exact ev_str)
    | (with_reducible exact ev_non)
    | ((with_reducible apply ev_letters); (focus (walk_at "ev")))
    | ((with_reducible apply ev_pairs); (focus (walk_at "ev")))
    | ((with_reducible apply ev_addI); (focus (walk_at "ev")); (focus (walk_at "ev")))
    | ((with_reducible apply ev_addT); (focus (walk_at "ev")); (focus (walk_at "ev")); (focus (walk_at "sz")))
    | ((with_reducible apply ev_i0); (focus (walk_at "ev")); (focus (walk_at "ev")); (focus (first | exact fun _ => .int _ | exact fun _ => .bl _)))
    | ((with_reducible apply ev_iC); (focus (walk_at "ev")); (focus (walk_at "ev")); (focus (first | assumption | walk_at "cond")); (focus (exact fun _ => .int _)))
    | ((with_reducible apply ev_chain); (focus (walk_at "ev")); (focus (walk_at "ev")); (focus (walk_at "ev")))
    | ((with_reducible apply ev_eqI); (focus (walk_at "ev")); (focus (walk_at "ev")))
    | ((with_reducible apply ev_neI); (focus (walk_at "ev")); (focus (walk_at "ev")))
    | ((with_reducible apply ev_eqR); (focus (walk_at "ev")); (focus (walk_at "ev")))
    | ((with_reducible apply ev_neR); (focus (walk_at "ev")); (focus (walk_at "ev")))
    | ((with_reducible apply ev_isN); (focus (walk_at "ev")))
    | ((with_reducible apply ev_notN); (focus (walk_at "ev")))
    | ((with_reducible apply ev_in2); (focus (walk_at "ev")); (focus (walk_at "ev")); (focus (walk_at "ev")))
    | ((with_reducible apply ev_inP); (focus (walk_at "ev")); (focus (walk_at "ev")))
    | ((with_reducible apply ev_tup); (focus (walk_at "ed")); (focus (simp)))
    | ((with_reducible apply ev_lenT); (focus (walk_at "ev")))
    | ((with_reducible apply ev_lenL); (focus (walk_at "ev")))
    | ((with_reducible apply ev_lenS); (focus (walk_at "ev")))
    | ((with_reducible apply ev_lenN); (focus (walk_at "en")))
    | ((with_reducible apply ev_max2); (focus (walk_at "ev")); (focus (walk_at "ev")))
    | ((with_reducible apply ev_min2); (focus (walk_at "ev")); (focus (walk_at "ev")))
    | ((with_reducible apply ev_int1); (focus (walk_at "ev")))
    | ((with_reducible apply ev_tupleL); (focus (walk_at "ev")))
    | ((with_reducible apply ev_tupleN); (focus (walk_at "en")))
    | ((with_reducible apply ev_countT); (focus (walk_at "ev")); (focus (walk_at "ev")))
    | ((with_reducible apply ev_andV); (focus (walk_at "ev")); (focus (intro _; walk_at "ev")))
    | ((with_reducible apply ev_orV); (focus (walk_at "ev")); (focus (intro _; walk_at "ev")))
    | ((with_reducible apply ev_notV); (focus (walk_at "ev"))))
section
variable {P : Program} {w : World} {K : PySem.W.Frag} {mg : Str → Option Value} {base : Heap}
def chgD (ps : List (Int × Int)) (l : List Int) : PyData → Bool
  | .int k => decide (0 ≤ k) && decide (k ≤ (l.length : Int) - 2) && may ps (l.getD k.toNat 0) (l.getD (k.toNat + 1) 0)
  | _ => false
abbrev A_is_change (as : List Ag) (d : PyData) : Prop := ∃ (n : Int) (ps : List (Int × Int)) (l : List Int) (x : PyData), l.length < 1000000 ∧ as = [.c (.t n ps), .c (.d (row l)), .c (.d x)] ∧ d = .bool (chgD ps l x)
theorem ok_is_change (E : Nv K mg) : FnOk P w K mg base CX0 10 E.a_is_change E.d_is_change ["trade", "row", "place"] (spC K E.C_Trade A_is_change) := by
  refine E.F_is_change.ok sc_is_change (fun vs H Q _ h => ?_) (fun cdv A outer s H vs Q _ hr h => ?_)
  · obtain ⟨as, d, ha, ⟨_, _, _, _, _, rfl, _⟩, _⟩ := h
    exact ha.length
  · obtain ⟨as, d, ha, ⟨n, ps, l, x, hl, rfl, rfl⟩, q⟩ := h
    obtain ⟨v1, v2, v3, rfl, a1, a2, a3⟩ := ha.three
    refine ⟨_, (pss_cons (ps_if (pt_not (pt_truK K (pe_call (ok_is_whole E) (hr.mono (by first | decide | omega)) (by rfl) E.m_is_whole E.F_is_whole.kp E.b_is_whole .nil pass0 (pa_cons (pv 2) (pa_cons pe_int (pa_cons (pe_op op_sub (pe_callB (call_lenK K) (by rfl) E.n_len (by decide +kernel) (pa_cons (pv 1) pa_nil)) pe_int) pa_nil)))) (fun _ => rfl))) (pss_one (ps_ret pe_bl)) pss_nil)
      (pss_one (ps_ret (pe_call (ok_may_change E) (hr.mono (by first | decide | omega)) (by rfl) E.m_may_change E.F_may_change.kp E.b_may_change .nil pass0 (pa_cons (pv 0) (pa_cons (pe_ix (ix_K K) (pv 1) (pv 2) (fun _ _ => rfl)) (pa_cons (pe_ix (ix_K K) (pv 1) (pe_op (op_addK K) (pv 2) pe_int) (fun _ _ => rfl)) pa_nil))))))), ?_⟩
    have w0 : Wd K E.C_Trade [] [] H H _ [.t n ps, .d (row l), .d x] := Wd.start3 (N := N_is_change) a1 a2 a3
    refine s_when w0 (b := !isWhole x 0 ((l.length : Int) - 2)) (et_not (et_truB (ev_call (ea_cons (ev_var (i := 2) w0 rfl) (ea_cons ev_int (ea_cons (ev_i0 (ev_d (ev_lenT (ev_var (i := 1) w0 rfl)) (by rw [iL_len])) ev_int (fun _ => .int _)) ea_nil))) ⟨x, 0, (l.length : Int) - 2, rfl, rfl⟩))) (fun e H1 w1 => ?_) (fun e H1 w1 => ?_)
    · refine s_retQ w1 q (ev_d ev_bl ?_)
      cases x <;> simp [isWhole, chgD] at e ⊢
      intro h1 h2
      omega
    · cases x with
      | int k =>
        have e' : 0 ≤ k ∧ k ≤ (l.length : Int) - 2 := by
          simpa [isWhole] using e
        obtain ⟨j, rfl⟩ : ∃ j : Nat, k = (j : Int) := ⟨k.toNat, by omega⟩
        have hj : j + 1 < l.length := by omega
        refine s_retQ w1 q (ev_d (ev_call (ea_cons (ev_var (i := 0) w1 rfl) (ea_cons (ev_ixT (d := .int (l.getD j 0)) (ev_var (i := 1) w1 rfl) (ev_var (i := 2) w1 rfl) (atI_nat (by rw [iL_get, List.getD_eq_getElem?_getD, List.getElem?_eq_getElem (by omega)]; rfl))) (ea_cons (ev_ixT (k := ((j + 1 : Nat) : Int)) (d := .int (l.getD (j + 1) 0)) (ev_var (i := 1) w1 rfl) (ev_addI (ev_var (i := 2) w1 rfl) ev_int) (atI_nat (by rw [iL_get, List.getD_eq_getElem?_getD, List.getElem?_eq_getElem hj]; rfl))) ea_nil))) ⟨n, ps, _, _, rfl, rfl⟩) ?_)
        show PyData.bool _ = .bool (decide _ && decide _ && _)
        rw [decide_eq_true e'.1, decide_eq_true e'.2]
        simp
      | none => simp [isWhole] at e
      | bool b => simp [isWhole] at e
      | str z => simp [isWhole] at e
      | list z => simp [isWhole] at e
      | tuple z => simp [isWhole] at e
      | dict z => simp [isWhole] at e
def spAdd (K : PySem.W.Frag) (C L CB CF : Addr) : Sp := fun vs H Q X => ∃ p q n ps v x, ∃ (rs : List (List Int)) (l : List Int), vs = [.ref p, v] ∧ Td K H v x ∧ CtAt K C H (.ref p) (.n L p q n ps ((rs ++ [l]).map row)) ∧ rs.length < 1000000 ∧ PairsOk n ps ∧ 0 ≤ n ∧ n ≤ 6 ∧ rowOk n l ∧
  (isWhole x 0 (n - 1) = false → ∀ H', Same H H' → X (.ref CB) none H') ∧ (isWhole x 0 (n - 1) = true → l.length = 20 → ∀ H', Same H H' → X (.ref CF) none H') ∧
  ∀ k, x = .int k → 0 ≤ k → k < n → l.length < 20 → ∀ H', Pt.Fr [q] H H' → CtAt K C H' (.ref p) (.n L p q n ps ((rs ++ [l] ++ [l ++ [k]]).map row)) → Q (.int (nL ps (l ++ [k]) : Nat)) H'
theorem ok_Line_add (E : Nv K mg) : FnOk P w K mg base (L2N.CX P w) 34 E.a_Line_add E.d_Line_add ["self", "letter"] (spAdd K E.C_Trade E.C_Line E.C_BadLetter E.C_Full) := by
  refine fun_okN E.F_Line_add sc_Line_add (fun vs H Q X h => ?_) (fun cdv A outer s H vs Q X hr h => ?_)
  · obtain ⟨_, _, _, _, _, _, _, _, rfl, _⟩ := h
    rfl
  · obtain ⟨p, q, n, ps, v, x, rs, l, rfl, tx, a, hz, hok, h0, h6, hrow, kb, kf, k⟩ := h
    refine ⟨_, (pss_cons (ps_if (pt_not (pt_truK K (pe_call (ok_is_letter E) (hr.mono (by first | decide | omega)) (by rfl) E.m_is_letter E.F_is_letter.kp E.b_is_letter .nil pass0 (pa_cons (pe_prop (pe_fld (pv 0) rfl) E.cl E.p_letters (ok_Trade_letters E) (hr.mono (by first | decide | omega)) E.b_Trade_letters .nil pass0 rfl) (pa_cons (pv 1) pa_nil))) (fun _ => rfl))) (pss_one (L2N.ps_raise rfl (L2N.takes_of rfl rfl rfl rfl) (pmk_ox0N E.x_BadLetter.T E.x_BadLetter.iC E.x_BadLetter.tI (ok_TradeError___init__ E) (hr.mono (by first | decide | omega)) E.b_TradeError___init__ pass0 (by rfl) E.m_BadLetter))) pss_nil)
      (pss_cons (ps_if (pt_cmpR (op_eqK K hr.units) (pe_callB (call_lenK K) (by rfl) E.n_len (by decide +kernel) (pa_cons (pe_prop (pv 0) E.cl_Line E.p_row (ok_Line_row E) (hr.mono (by first | decide | omega)) E.b_Line_row .nil pass0 rfl) pa_nil)) (pe_glob (v := .int 20) (by rfl) E.c_MOST_IN_ROW ⟨_, rfl⟩) (nomark _)) (pss_one (L2N.ps_raise rfl (L2N.takes_of rfl rfl rfl rfl) (pmk_ox0N E.x_Full.T E.x_Full.iC E.x_Full.tI (ok_TradeError___init__ E) (hr.mono (by first | decide | omega)) E.b_TradeError___init__ pass0 (by rfl) E.m_Full))) pss_nil)
      (pss_cons (ps_set (i := 2) sc_Line_add.nd rfl (.inl rfl) (pe_op (op_addK K) (pe_prop (pv 0) E.cl_Line E.p_row (ok_Line_row E) (hr.mono (by first | decide | omega)) E.b_Line_row .nil pass0 rfl) (pe_tupF (pa_cons (pv 1) pa_nil))))
      (pss_cons (ps_expr (pe_bm PySem.F.plainAttrs_list PySem.F.slot_list_append PySem.F.type_list_append mt_append (pe_fld (pv 0) rfl) (pa_cons (pv 2) pa_nil)))
      (pss_one (ps_ret (pe_call (ok_count_alike E) (hr.mono (by first | decide | omega)) (by rfl) E.m_count_alike E.F_count_alike.kp E.b_count_alike .nil pass0 (pa_cons (pe_call (ok_bars_of E) (hr.mono (by first | decide | omega)) (by rfl) E.m_bars_of E.F_bars_of.kp E.b_bars_of .nil pass0 (pa_cons (pe_fld (pv 0) rfl) pa_nil)) (pa_cons (pv 2) (pa_cons pe_dnewF pa_nil)))))))))), ?_⟩
    have w0 : Wd K E.C_Trade [] [] H H _ [.r (.ref p), .d x, .u] := Wd.start2 (N := N_Line_add) (c1 := .r (.ref p)) (c2 := .d x) rfl tx
    have hs : ∀ {H1 : Hp} {σ : L2.St} {c : Ct}, Wd K E.C_Trade [] [] H H1 σ [.r (.ref p), .d x, c] → EvC K E.C_Trade (tVar 0) σ H1 (.n E.C_Line p q n ps ((rs ++ [l]).map row)) := fun w1 => ev_asN (ev_var (i := 0) w1 rfl) (CtAt.mono w1.fr0 a)
    have last : atI ((rs ++ [l]).map row) (-1) = some (row l) := by
      rw [List.map_append]
      exact atI_last _ _
    refine s_when w0 (b := !isWhole x 0 (n - 1)) (et_not (et_truB (ev_call (ea_cons (ev_letters (ev_fTrade E.cl_Line E.no_trade (hs w0))) (ea_cons (ev_var (i := 1) w0 rfl) ea_nil)) ⟨n, x, rfl, rfl⟩))) (fun e H1 w1 => ?_) (fun e H1 w1 => ?_)
    · exact kb (by simpa using e) H1 w1.fr0
    have hx : isWhole x 0 (n - 1) = true := by simpa using e
    refine s_when w1 (b := decide (l.length = 20)) (et_cast (et_test (ev_eqI (ev_lenT (ev_pr (hs w1) last)) ev_int)) (by rw [iL_len]; simp; omega)) (fun e H2 w2 => ?_) (fun e H2 w2 => ?_)
    · exact kf hx (of_decide_eq_true e) H2 w2.fr0
    have hl : l.length < 20 := by have := of_decide_eq_false e; have := hrow.1; omega
    cases x with
    | int y =>
      have hy : 0 ≤ y ∧ y ≤ n - 1 := by simpa [isWhole] using hx
      have hrow2 : rowOk n (l ++ [y]) := ⟨by rw [List.length_append, List.length_singleton]; omega, fun z m => by
        rcases List.mem_append.mp m with m | m
        · exact hrow.2 z m
        · rw [List.mem_singleton.mp m]; omega⟩
      refine q_asgD w2 (d := row (l ++ [y])) (ev_d (ev_addT (ev_pr (hs w2) last) (ev_tup (ed_cons (ev_var (i := 1) w2 rfl) ed_nil)) (by rw [iL_len]; simp; omega)) (by rw [show row (l ++ [y]) = .tuple (iL (l ++ [y])) from rfl, iL_app]; rfl)) fun σ3 H3 w3 => ?_
      have w3' : Wd K E.C_Trade [] [] H H3 σ3 [.r (.ref p), .d (.int y), .d (row (l ++ [y]))] := w3
      refine q_appF (ev_fRows E.cl_Line E.no_rows (hs w3')) (ev_var (i := 2) w3' rfl) (by simp; omega) fun H4 xs v4 e4 hq t4 tv => ?_
      have a5 := ln_chg (es := (rs ++ [l] ++ [l ++ [y]]).map row) (CtAt.mono (w3'.fr0.trans e4) a) (by
        rw [List.map_append]
        exact t4.append (.cons tv .nil))
      generalize hH5 : L2.upd H4 q (.lst (xs ++ [v4])) = H5 at a5
      have f5 : Pt.Fr [q] H4 H5 := by rw [← hH5]; exact Pt.Fr.upd
      have w5 : Wd K E.C_Trade [] [] H5 H5 σ3 [.r (.ref p), .d (.int y), .d (row (l ++ [y]))] := (w3'.mono e4).newAt (LT.one hq) f5 (fun i c h => by
        match i, h with
        | 0, h => cases h; rfl
        | 1, h => cases h; rfl
        | 2, h => cases h; rfl)
      have hs5 : EvC K E.C_Trade (tVar 0) σ3 H5 (.n E.C_Line p q n ps ((rs ++ [l] ++ [l ++ [y]]).map row)) := ev_asN (ev_var (i := 0) w5 rfl) a5
      refine (en_call (ea_cons (ev_fTrade E.cl_Line E.no_trade hs5) ea_nil) ⟨n, ps, h0, h6, rfl, rfl⟩ : EvN K E.C_Trade _ _ H5 (iL (barsL n ps))) H5 (Same.refl H5) _ fun pb H6 hpb e6 a6 => ?_
      refine (ev_var (i := 2) (w5.mono e6) rfl : EvC K E.C_Trade (tVar 2) _ H6 (.d (row (l ++ [y])))) H6 (Same.refl H6) _ fun v7 H7 e7 a7 => ?_
      intro f hf
      obtain ⟨_, xs, s, t⟩ := CtAt.mono e7 a6
      have e8 : Same H7 (L2.upd H7 f (DTo P w f [])) := same_new hf
      refine ⟨n, ps, l ++ [y], l ++ [y], pb, f, v7, xs, [], rfl, e8 _ _ s, TdAll.mono (.of e8) _ _ t, Td.mono (.of e8) _ _ a7, upd_same, fun q m => by simp [ksOf] at m, hok, h0, h6, hrow2.1, hrow2.2, List.Sublist.refl _, Nat.lt_succ_of_le hrow2.1, Kn.nil ps _,
        fun en' H' fr _ _ _ _ => ?_⟩
      have e9 : Same H5 H' := same_frNew (e6.trans e7) hf fr
      exact k y rfl hy.1 (by omega) hl H' (fun b o hb nb => e9 _ _ (f5 b o ((w3'.fr0.trans e4) b o hb) nb)) (CtAt.mono e9 a5)
    | none => simp [isWhole] at hx
    | bool b => simp [isWhole] at hx
    | str z => simp [isWhole] at hx
    | list z => simp [isWhole] at hx
    | tuple z => simp [isWhole] at hx
    | dict z => simp [isWhole] at hx
def swapL (l : List Int) (k : Nat) : List Int := l.take k ++ [l.getD (k + 1) 0, l.getD k 0] ++ l.drop (k + 2)
def spSwap (K : PySem.W.Frag) (C L CB : Addr) : Sp := fun vs H Q X => ∃ p q n ps v x, ∃ (rs : List (List Int)) (l : List Int), vs = [.ref p, v] ∧ Td K H v x ∧ CtAt K C H (.ref p) (.n L p q n ps ((rs ++ [l]).map row)) ∧ rs.length < 1000000 ∧ l.length ≤ 20 ∧
  (chgD ps l x = false → ∀ H', Same H H' → X (.ref CB) none H') ∧
  ∀ (k : Nat), x = .int k → chgD ps l x = true → ∀ v' H', Pt.Fr [q] H H' → CtAt K C H' (.ref p) (.n L p q n ps ((rs ++ [l] ++ [swapL l k]).map row)) → Td K H' v' (row [l.getD (k + 1) 0, l.getD k 0]) → Q v' H'
theorem ok_Line_swap (E : Nv K mg) : FnOk P w K mg base (L2N.CX P w) 14 E.a_Line_swap E.d_Line_swap ["self", "place"] (spSwap K E.C_Trade E.C_Line E.C_BadPlace) := by
  refine fun_okN E.F_Line_swap sc_Line_swap (fun vs H Q X h => ?_) (fun cdv A outer s H vs Q X hr h => ?_)
  · obtain ⟨_, _, _, _, _, _, _, _, rfl, _⟩ := h
    rfl
  · obtain ⟨p, q, n, ps, v, x, rs, l, rfl, tx, a, hz, h20, kb, k⟩ := h
    refine ⟨_, (pss_cons (ps_set (i := 2) sc_Line_swap.nd rfl (.inl rfl) (pe_prop (pv 0) E.cl_Line E.p_row (ok_Line_row E) (hr.mono (by first | decide | omega)) E.b_Line_row .nil pass0 rfl))
      (pss_cons (ps_if (pt_not (pt_truK K (pe_call (ok_is_change E) (hr.mono (by first | decide | omega)) (by rfl) E.m_is_change E.F_is_change.kp E.b_is_change .nil pass0 (pa_cons (pe_fld (pv 0) rfl) (pa_cons (pv 2) (pa_cons (pv 1) pa_nil)))) (fun _ => rfl))) (pss_one (L2N.ps_raise rfl (L2N.takes_of rfl rfl rfl rfl) (pmk_ox0N E.x_BadPlace.T E.x_BadPlace.iC E.x_BadPlace.tI (ok_TradeError___init__ E) (hr.mono (by first | decide | omega)) E.b_TradeError___init__ pass0 (by rfl) E.m_BadPlace))) pss_nil)
      (pss_cons (ps_set (i := 3) sc_Line_swap.nd rfl (.inl rfl) (pe_tupF (pa_cons (pe_ix (ix_K K) (pv 2) (pe_op (op_addK K) (pv 1) pe_int) (fun _ _ => rfl)) (pa_cons (pe_ix (ix_K K) (pv 2) (pv 1) (fun _ _ => rfl)) pa_nil))))
      (pss_cons (ps_expr (pe_bm PySem.F.plainAttrs_list PySem.F.slot_list_append PySem.F.type_list_append mt_append (pe_fld (pv 0) rfl) (pa_cons (pe_op (op_addK K) (pe_op (op_addK K) (pe_slice (sl_K K) (pv 2) po_none (po_some (pv 1))) (pv 3)) (pe_slice (sl_K K) (pv 2) (po_some (pe_op (op_addK K) (pv 1) pe_int)) po_none)) pa_nil)))
      (pss_one (ps_ret (pv 3))))))), ?_⟩
    have w0 : Wd K E.C_Trade [] [] H H _ [.r (.ref p), .d x, .u, .u] := Wd.start2 (N := N_Line_swap) (c1 := .r (.ref p)) (c2 := .d x) rfl tx
    have hs : ∀ {H1 : Hp} {σ : L2.St} {c c' : Ct}, Wd K E.C_Trade [] [] H H1 σ [.r (.ref p), .d x, c, c'] → EvC K E.C_Trade (tVar 0) σ H1 (.n E.C_Line p q n ps ((rs ++ [l]).map row)) := fun w1 => ev_asN (ev_var (i := 0) w1 rfl) (CtAt.mono w1.fr0 a)
    have last : atI ((rs ++ [l]).map row) (-1) = some (row l) := by
      rw [List.map_append]
      exact atI_last _ _
    refine q_asgD w0 (ev_pr (hs w0) last) fun σ1 H1 w1 => ?_
    have w1' : Wd K E.C_Trade [] [] H H1 σ1 [.r (.ref p), .d x, .d (row l), .u] := w1
    refine s_when w1' (b := !chgD ps l x) (et_not (et_truB (ev_call (ea_cons (ev_fTrade E.cl_Line E.no_trade (hs w1')) (ea_cons (ev_var (i := 2) w1' rfl) (ea_cons (ev_var (i := 1) w1' rfl) ea_nil))) ⟨n, ps, l, x, by omega, rfl, rfl⟩))) (fun e H2 w2 => ?_) (fun e H2 w2 => ?_)
    · exact kb (by simpa using e) H2 w2.fr0
    have hx : chgD ps l x = true := by simpa using e
    cases x with
    | int y =>
      have hy : (0 ≤ y ∧ y ≤ (l.length : Int) - 2) := by
        have := hx
        simp only [chgD, Bool.and_eq_true, decide_eq_true_eq] at this
        exact this.1
      obtain ⟨j, rfl⟩ : ∃ j : Nat, y = (j : Int) := ⟨y.toNat, by omega⟩
      have hj : j + 1 < l.length := by omega
      have i1 : ∀ {H1 : Hp} {σ : L2.St} {c : Ct}, Wd K E.C_Trade [] [] H H1 σ [.r (.ref p), .d (.int (j : Nat)), .d (row l), c] → EvC K E.C_Trade (tOp (rIx K) (tVar 2) (tOp (rAddU K) (tVar 1) (tC (.int 1)))) σ H1 (.d (.int (l.getD (j + 1) 0))) := fun w => ev_ixT (k := ((j + 1 : Nat) : Int)) (ev_var (i := 2) w rfl) (ev_addI (ev_var (i := 1) w rfl) ev_int) (atI_nat (by rw [iL_get, List.getD_eq_getElem?_getD, List.getElem?_eq_getElem hj]; rfl))
      have i0 : ∀ {H1 : Hp} {σ : L2.St} {c : Ct}, Wd K E.C_Trade [] [] H H1 σ [.r (.ref p), .d (.int (j : Nat)), .d (row l), c] → EvC K E.C_Trade (tOp (rIx K) (tVar 2) (tVar 1)) σ H1 (.d (.int (l.getD j 0))) := fun w => ev_ixT (ev_var (i := 2) w rfl) (ev_var (i := 1) w rfl) (atI_nat (by rw [iL_get, List.getD_eq_getElem?_getD, List.getElem?_eq_getElem (by omega)]; rfl))
      refine q_asgD w2 (d := row [l.getD (j + 1) 0, l.getD j 0]) (ev_tup (ed_cons (i1 w2) (ed_cons (i0 w2) ed_nil)) (show 2 ≤ 10000000 by decide)) fun σ3 H3 w3 => ?_
      have w3' : Wd K E.C_Trade [] [] H H3 σ3 [.r (.ref p), .d (.int (j : Nat)), .d (row l), .d (row [l.getD (j + 1) 0, l.getD j 0])] := w3
      refine q_appF (d := row (swapL l j)) (ev_fRows E.cl_Line E.no_rows (hs w3')) (ev_d (ev_addT (ev_addT (ev_slT (lo := none) (hi := some ((j : Nat) : Int)) (ev_var (i := 2) w3' rfl) eo_none (eo_some (ev_var (i := 1) w3' rfl))) (ev_var (i := 3) w3' rfl) ?_) (ev_slT (lo := some ((j + 2 : Nat) : Int)) (hi := none) (ev_var (i := 2) w3' rfl) (eo_some (ev_addI (ev_var (i := 1) w3' rfl) ev_int)) eo_none) ?_) ?_) (by simp; omega) fun H4 xs v4 e4 hq t4 tv => ?_
      · rw [cut_to]; simp [iL]; omega
      · rw [cut_to, cut_from]; simp [iL]; omega
      · rw [cut_to, cut_from]
        unfold swapL row
        rw [iL_app, iL_app]
        simp [iL]
      have a5 := ln_chg (es := (rs ++ [l] ++ [swapL l j]).map row) (CtAt.mono (w3'.fr0.trans e4) a) (by
        rw [List.map_append]
        exact t4.append (.cons tv .nil))
      generalize hH5 : L2.upd H4 q (.lst (xs ++ [v4])) = H5 at a5
      have f5 : Pt.Fr [q] H4 H5 := by rw [← hH5]; exact Pt.Fr.upd
      have w5 : Wd K E.C_Trade [] [] H5 H5 σ3 [.r (.ref p), .d (.int (j : Nat)), .d (row l), .d (row [l.getD (j + 1) 0, l.getD j 0])] := (w3'.mono e4).newAt (LT.one hq) f5 (fun i c h => by
        match i, h with
        | 0, h => cases h; rfl
        | 1, h => cases h; rfl
        | 2, h => cases h; rfl
        | 3, h => cases h; rfl)
      refine s_ret w5 (ev_var (i := 3) w5 rfl) fun v6 H6 w6 a6 => ?_
      exact k j rfl hx v6 H6 (fun b o hb nb => w6.fr0 _ _ (f5 b o ((w3'.fr0.trans e4) b o hb) nb)) (CtAt.mono w6.fr0 a5) a6
    | none => simp [chgD] at hx
    | bool b => simp [chgD] at hx
    | str z => simp [chgD] at hx
    | list z => simp [chgD] at hx
    | tuple z => simp [chgD] at hx
    | dict z => simp [chgD] at hx
end
end K1
set_option maxRecDepth 10000000
namespace K1
open Pt
end K1
set_option maxRecDepth 10000000
namespace K1
open Pt
end K1
set_option maxRecDepth 10000000
namespace K1
open PySem PySem.Spec PyProof.Rows L2 Pt
local macro_rules
  | `(tactic| walk_at "sz") => `(tactic| first
    | omega
    | decide
    | (simp; omega)
    | (simp [iL, row, pairsD]; omega))
  | `(tactic| walk_at "ea") => `(tactic| first
    | (with_reducible exact ea_nil)
    | ((with_reducible apply ea_consL); (focus (walk_at "ev")); (focus (walk_at "ea")))
    | ((with_reducible apply ea_consS); (focus (walk_at "ev")); (focus (walk_at "ea")))
    | ((with_reducible apply ea_cons); (focus (walk_at "ev")); (focus (walk_at "ea")))
    | ((with_reducible apply ea_consN); (focus (walk_at "en")); (focus (walk_at "ea"))))
  | `(tactic| walk_at "ed") => `(tactic| first
    | (with_reducible exact ed_nil)
    | ((with_reducible apply ed_cons); (focus (walk_at "ev")); (focus (walk_at "ed"))))
  | `(tactic| walk_at "en") => `(tactic| first
    | ((with_reducible apply en_lst); (focus (walk_at "ed")); (focus (simp)))
    | ((with_reducible apply en_listT); (focus (walk_at "ev")))
    | ((with_reducible apply en_addL); (focus (walk_at "ev")); (focus (walk_at "en")); (focus (walk_at "sz")))
    | ((with_reducible apply en_addN); (focus (walk_at "en")); (focus (walk_at "en")); (focus (walk_at "sz")))
    | ((with_reducible apply en_slL); (focus (walk_at "ev")); (focus (walk_at "eo")); (focus (walk_at "eo"))))
  | `(tactic| walk_at "eo") => `(tactic| first
    | (with_reducible exact eo_none)
    | ((with_reducible apply eo_some); (focus (walk_at "ev"))))
  | `(tactic| walk_at "et") => `(tactic| first
    | (with_reducible exact et_yes)
    | ((with_reducible apply et_test); (focus (walk_at "ev")))
    | ((with_reducible apply et_B); (focus (walk_at "ev")))
    | ((with_reducible apply et_truB); (focus (walk_at "ev")))
    | ((with_reducible apply et_truT); (focus (walk_at "ev")))
    | ((with_reducible apply et_not); (focus (walk_at "et")))
    | ((with_reducible apply et_and); (focus (walk_at "et")); (focus (intro _; walk_at "et")))
    | ((with_reducible apply et_or); (focus (walk_at "et")); (focus (intro _; walk_at "et"))))
  | `(tactic| walk_at "var") => `(tactic| first
    | ((with_reducible apply ev_varD); (focus (assumption)); (focus (rfl)))
    | ((with_reducible apply ev_varL); (focus (assumption)); (focus (rfl)))
    | ((with_reducible apply ev_varS); (focus (assumption)); (focus (rfl)))
    | ((with_reducible apply ev_varT); (focus (assumption)); (focus (rfl)))
    | ((with_reducible apply ev_varH); (focus (assumption)); (focus (rfl)))
    | ((with_reducible apply ev_varZ); (focus (assumption)); (focus (rfl))))
  | `(tactic| walk_at "ev") => `(tactic| first
    | walk_at "var"
    | (with_reducible exact ev_int)
    | (with_reducible exact ev_bl)
    | (with_reducible exact ev_str)
    | (with_reducible exact ev_non)
    | ((with_reducible apply ev_letters); (focus (walk_at "ev")))
    | ((with_reducible apply ev_pairs); (focus (walk_at "ev")))
    | ((with_reducible apply ev_addI); (focus (walk_at "ev")); (focus (walk_at "ev")))
    | ((with_reducible apply ev_addT); (focus (walk_at "ev")); (focus (walk_at "ev")); (focus (walk_at "sz")))
    | ((with_reducible apply ev_i0); (focus (walk_at "ev")); (focus (walk_at "ev")); (focus (first | exact fun _ => .int _ | exact fun _ => .bl _)))
    | ((with_reducible apply ev_iC); (focus (walk_at "ev")); (focus (walk_at "ev")); (focus (first | assumption | walk_at "cond")); (focus (exact fun _ => .int _)))
    | ((with_reducible apply ev_chain); (focus (walk_at "ev")); (focus (walk_at "ev")); (focus (walk_at "ev")))
    | ((with_reducible apply ev_eqI); (focus (walk_at "ev")); (focus (walk_at "ev")))
    | ((with_reducible apply ev_neI); (focus (walk_at "ev")); (focus (walk_at "ev")))
    | ((with_reducible apply ev_eqR); (focus (walk_at "ev")); (focus (walk_at "ev")))
    | ((with_reducible apply ev_neR); (focus (walk_at "ev")); (focus (walk_at "ev")))
    | ((with_reducible apply ev_isN); (focus (walk_at "ev")))
    | ((with_reducible apply ev_notN); (focus (walk_at "ev")))
    | ((with_reducible apply ev_in2); (focus (walk_at "ev")); (focus (walk_at "ev")); (focus (walk_at "ev")))
    | ((with_reducible apply ev_inP); (focus (walk_at "ev")); (focus (walk_at "ev")))
    | ((with_reducible apply ev_tup); (focus (walk_at "ed")); (focus (simp)))
    | ((with_reducible apply ev_lenT); (focus (walk_at "ev")))
    | ((with_reducible apply ev_lenL); (focus (walk_at "ev")))
    | ((with_reducible apply ev_lenS); (focus (walk_at "ev")))
    | ((with_reducible apply ev_lenN); (focus (walk_at "en")))
    | ((with_reducible apply ev_max2); (focus (walk_at "ev")); (focus (walk_at "ev")))
    | ((with_reducible apply ev_min2); (focus (walk_at "ev")); (focus (walk_at "ev")))
    | ((with_reducible apply ev_int1); (focus (walk_at "ev")))
    | ((with_reducible apply ev_tupleL); (focus (walk_at "ev")))
    | ((with_reducible apply ev_tupleN); (focus (walk_at "en")))
    | ((with_reducible apply ev_countT); (focus (walk_at "ev")); (focus (walk_at "ev")))
    | ((with_reducible apply ev_andV); (focus (walk_at "ev")); (focus (intro _; walk_at "ev")))
    | ((with_reducible apply ev_orV); (focus (walk_at "ev")); (focus (intro _; walk_at "ev")))
    | ((with_reducible apply ev_notV); (focus (walk_at "ev"))))
section
variable {P : Program} {w : World} {K : PySem.W.Frag} {mg : Str → Option Value} {base : Heap}
end
end K1
set_option maxRecDepth 10000000
namespace K1
open PySem PySem.Spec PyProof.Rows L2 Pt
end K1
set_option maxRecDepth 10000000
namespace K1
open PySem PySem.Spec PyProof.Rows L2 Pt
local macro_rules
  | `(tactic| walk_at "sz") => `(tactic| first
    | omega
    | decide
    | (simp; omega)
    | (simp [iL, row, pairsD]; omega))
  | `(tactic| walk_at "ea") => `(tactic| first
    | (with_reducible exact ea_nil)
    | ((with_reducible apply ea_consL); (focus (walk_at "ev")); (focus (walk_at "ea")))
    | ((with_reducible apply ea_consS); (focus (walk_at "ev")); (focus (walk_at "ea")))
    | ((with_reducible apply ea_cons); (focus (walk_at "ev")); (focus (walk_at "ea")))
    | ((with_reducible apply ea_consN); (focus (walk_at "en")); (focus (walk_at "ea"))))
  | `(tactic| walk_at "ed") => `(tactic| first
    | (with_reducible exact ed_nil)
    | ((with_reducible apply ed_cons); (focus (walk_at "ev")); (focus (walk_at "ed"))))
  | `(tactic| walk_at "en") => `(tactic| first
    | ((with_reducible apply en_lst); (focus (walk_at "ed")); (focus (simp)))
    | ((with_reducible apply en_listT); (focus (walk_at "ev")))
    | ((with_reducible apply en_addL); (focus (walk_at "ev")); (focus (walk_at "en")); (focus (walk_at "sz")))
    | ((with_reducible apply en_addN); (focus (walk_at "en")); (focus (walk_at "en")); (focus (walk_at "sz")))
    | ((with_reducible apply en_slL); (focus (walk_at "ev")); (focus (walk_at "eo")); (focus (walk_at "eo"))))
  | `(tactic| walk_at "eo") => `(tactic| first
    | (with_reducible exact eo_none)
    | ((with_reducible apply eo_some); (focus (walk_at "ev"))))
  | `(tactic| walk_at "et") => `(tactic| first
    | (with_reducible exact et_yes)
    | ((with_reducible apply et_test); (focus (walk_at "ev")))
    | ((with_reducible apply et_B); (focus (walk_at "ev")))
    | ((with_reducible apply et_truB); (focus (walk_at "ev")))
    | ((with_reducible apply et_truT); (focus (walk_at "ev")))
    | ((with_reducible apply et_not); (focus (walk_at "et")))
    | ((with_reducible apply et_and); (focus (walk_at "et")); (focus (intro _; walk_at "et")))
    | ((with_reducible apply et_or); (focus (walk_at "et")); (focus (intro _; walk_at "et"))))
  | `(tactic| walk_at "var") => `(tactic| first
    | ((with_reducible apply ev_varD); (focus (assumption)); (focus (rfl)))
    | ((with_reducible apply ev_varL); (focus (assumption)); (focus (rfl)))
    | ((with_reducible apply ev_varS); (focus (assumption)); (focus (rfl)))
    | ((with_reducible apply ev_varT); (focus (assumption)); (focus (rfl)))
    | ((with_reducible apply ev_varH); (focus (assumption)); (focus (rfl)))
    | ((with_reducible apply ev_varZ); (focus (assumption)); (focus (rfl))))
  | `(tactic| walk_at "ev") => `(tactic| first
    | walk_at "var"
    | (with_reducible exact ev_int)
    | (with_reducible exact ev_bl)
    | (with_reducible exact ev_str)
    | (with_reducible exact ev_non)
    | ((with_reducible apply ev_letters); (focus (walk_at "ev")))
    | ((with_reducible apply ev_pairs); (focus (walk_at "ev")))
    | ((with_reducible apply ev_addI); (focus (walk_at "ev")); (focus (walk_at "ev")))
    | ((with_reducible apply ev_addT); (focus (walk_at "ev")); (focus (walk_at "ev")); (focus (walk_at "sz")))
    | ((with_reducible apply ev_i0); (focus (walk_at "ev")); (focus (walk_at "ev")); (focus (first | exact fun _ => .int _ | exact fun _ => .bl _)))
    | ((with_reducible apply ev_iC); (focus (walk_at "ev")); (focus (walk_at "ev")); (focus (first | assumption | walk_at "cond")); (focus (exact fun _ => .int _)))
    | ((with_reducible apply ev_chain); (focus (walk_at "ev")); (focus (walk_at "ev")); (focus (walk_at "ev")))
    | ((with_reducible apply ev_eqI); (focus (walk_at "ev")); (focus (walk_at "ev")))
    | ((with_reducible apply ev_neI); (focus (walk_at "ev")); (focus (walk_at "ev")))
    | ((with_reducible apply ev_eqR); (focus (walk_at "ev")); (focus (walk_at "ev")))
    | ((with_reducible apply ev_neR); (focus (walk_at "ev")); (focus (walk_at "ev")))
    | ((with_reducible apply ev_isN); (focus (walk_at "ev")))
    | ((with_reducible apply ev_notN); (focus (walk_at "ev")))
    | ((with_reducible apply ev_in2); (focus (walk_at "ev")); (focus (walk_at "ev")); (focus (walk_at "ev")))
    | ((with_reducible apply ev_inP); (focus (walk_at "ev")); (focus (walk_at "ev")))
    | ((with_reducible apply ev_tup); (focus (walk_at "ed")); (focus (simp)))
    | ((with_reducible apply ev_lenT); (focus (walk_at "ev")))
    | ((with_reducible apply ev_lenL); (focus (walk_at "ev")))
    | ((with_reducible apply ev_lenS); (focus (walk_at "ev")))
    | ((with_reducible apply ev_lenN); (focus (walk_at "en")))
    | ((with_reducible apply ev_max2); (focus (walk_at "ev")); (focus (walk_at "ev")))
    | ((with_reducible apply ev_min2); (focus (walk_at "ev")); (focus (walk_at "ev")))
    | ((with_reducible apply ev_int1); (focus (walk_at "ev")))
    | ((with_reducible apply ev_tupleL); (focus (walk_at "ev")))
    | ((with_reducible apply ev_tupleN); (focus (walk_at "en")))
    | ((with_reducible apply ev_countT); (focus (walk_at "ev")); (focus (walk_at "ev")))
    | ((with_reducible apply ev_andV); (focus (walk_at "ev")); (focus (intro _; walk_at "ev")))
    | ((with_reducible apply ev_orV); (focus (walk_at "ev")); (focus (intro _; walk_at "ev")))
    | ((with_reducible apply ev_notV); (focus (walk_at "ev"))))
section
variable {P : Program} {w : World} {K : PySem.W.Frag} {mg : Str → Option Value} {base : Heap}
end
end K1
set_option maxRecDepth 10000000
namespace K1
open PySem PySem.Spec PyProof.Rows L2 Pt
local macro_rules
  | `(tactic| walk_at "sz") => `(tactic| first
    | omega
    | decide
    | (simp; omega)
    | (simp [iL, row, pairsD]; omega))
  | `(tactic| walk_at "ea") => `(tactic| first
    | (with_reducible exact ea_nil)
    | ((with_reducible apply ea_consL); (focus (walk_at "ev")); (focus (walk_at "ea")))
    | ((with_reducible apply ea_consS); (focus (walk_at "ev")); (focus (walk_at "ea")))
    | ((with_reducible apply ea_cons); (focus (walk_at "ev")); (focus (walk_at "ea")))
    | ((with_reducible apply ea_consN); (focus (walk_at "en")); (focus (walk_at "ea"))))
  | `(tactic| walk_at "ed") => `(tactic| first
    | (with_reducible exact ed_nil)
    | ((with_reducible apply ed_cons); (focus (walk_at "ev")); (focus (walk_at "ed"))))
  | `(tactic| walk_at "en") => `(tactic| first
    | ((with_reducible apply en_lst); (focus (walk_at "ed")); (focus (simp)))
    | ((with_reducible apply en_listT); (focus (walk_at "ev")))
    | ((with_reducible apply en_addL); (focus (walk_at "ev")); (focus (walk_at "en")); (focus (walk_at "sz")))
    | ((with_reducible apply en_addN); (focus (walk_at "en")); (focus (walk_at "en")); (focus (walk_at "sz")))
    | ((with_reducible apply en_slL); (focus (walk_at "ev")); (focus (walk_at "eo")); (focus (walk_at "eo"))))
  | `(tactic| walk_at "eo") => `(tactic| first
    | (with_reducible exact eo_none)
    | ((with_reducible apply eo_some); (focus (walk_at "ev"))))
  | `(tactic| walk_at "et") => `(tactic| first
    | (with_reducible exact et_yes)
    | ((with_reducible apply et_test); (focus (walk_at "ev")))
    | ((with_reducible apply et_B); (focus (walk_at "ev")))
    | ((with_reducible apply et_truB); (focus (walk_at "ev")))
    | ((with_reducible apply et_truT); (focus (walk_at "ev")))
    | ((with_reducible apply et_not); (focus (walk_at "et")))
    | ((with_reducible apply et_and); (focus (walk_at "et")); (focus (intro _; walk_at "et")))
    | ((with_reducible apply et_or); (focus (walk_at "et")); (focus (intro _; walk_at "et"))))
  | `(tactic| walk_at "var") => `(tactic| first
    | ((with_reducible apply ev_varD); (focus (assumption)); (focus (rfl)))
    | ((with_reducible apply ev_varL); (focus (assumption)); (focus (rfl)))
    | ((with_reducible apply ev_varS); (focus (assumption)); (focus (rfl)))
    | ((with_reducible apply ev_varT); (focus (assumption)); (focus (rfl)))
    | ((with_reducible apply ev_varH); (focus (assumption)); (focus (rfl)))
    | ((with_reducible apply ev_varZ); (focus (assumption)); (focus (rfl))))
  | `(tactic| walk_at "ev") => `(tactic| first
    | walk_at "var"
    | (with_reducible exact ev_int)
    | (with_reducible exact ev_bl)
    | (with_reducible exact ev_str)
    | (with_reducible exact ev_non)
    | ((with_reducible apply ev_letters); (focus (walk_at "ev")))
    | ((with_reducible apply ev_pairs); (focus (walk_at "ev")))
    | ((with_reducible apply ev_addI); (focus (walk_at "ev")); (focus (walk_at "ev")))
    | ((with_reducible apply ev_addT); (focus (walk_at "ev")); (focus (walk_at "ev")); (focus (walk_at "sz")))
    | ((with_reducible apply ev_i0); (focus (walk_at "ev")); (focus (walk_at "ev")); (focus (first | exact fun _ => .int _ | exact fun _ => .bl _)))
    | ((with_reducible apply ev_iC); (focus (walk_at "ev")); (focus (walk_at "ev")); (focus (first | assumption | walk_at "cond")); (focus (exact fun _ => .int _)))
    | ((with_reducible apply ev_chain); (focus (walk_at "ev")); (focus (walk_at "ev")); (focus (walk_at "ev")))
    | ((with_reducible apply ev_eqI); (focus (walk_at "ev")); (focus (walk_at "ev")))
    | ((with_reducible apply ev_neI); (focus (walk_at "ev")); (focus (walk_at "ev")))
    | ((with_reducible apply ev_eqR); (focus (walk_at "ev")); (focus (walk_at "ev")))
    | ((with_reducible apply ev_neR); (focus (walk_at "ev")); (focus (walk_at "ev")))
    | ((with_reducible apply ev_isN); (focus (walk_at "ev")))
    | ((with_reducible apply ev_notN); (focus (walk_at "ev")))
    | ((with_reducible apply ev_in2); (focus (walk_at "ev")); (focus (walk_at "ev")); (focus (walk_at "ev")))
    | ((with_reducible apply ev_inP); (focus (walk_at "ev")); (focus (walk_at "ev")))
    | ((with_reducible apply ev_tup); (focus (walk_at "ed")); (focus (simp)))
    | ((with_reducible apply ev_lenT); (focus (walk_at "ev")))
    | ((with_reducible apply ev_lenL); (focus (walk_at "ev")))
    | ((with_reducible apply ev_lenS); (focus (walk_at "ev")))
    | ((with_reducible apply ev_lenN); (focus (walk_at "en")))
    | ((with_reducible apply ev_max2); (focus (walk_at "ev")); (focus (walk_at "ev")))
    | ((with_reducible apply ev_min2); (focus (walk_at "ev")); (focus (walk_at "ev")))
    | ((with_reducible apply ev_int1); (focus (walk_at "ev")))
    | ((with_reducible apply ev_tupleL); (focus (walk_at "ev")))
    | ((with_reducible apply ev_tupleN); (focus (walk_at "en")))
    | ((with_reducible apply ev_countT); (focus (walk_at "ev")); (focus (walk_at "ev")))
    | ((with_reducible apply ev_andV); (focus (walk_at "ev")); (focus (intro _; walk_at "ev")))
    | ((with_reducible apply ev_orV); (focus (walk_at "ev")); (focus (intro _; walk_at "ev")))
    | ((with_reducible apply ev_notV); (focus (walk_at "ev"))))
section
variable {P : Program} {w : World} {K : PySem.W.Frag} {mg : Str → Option Value} {base : Heap}
end
end K1
namespace K1
open PySem PySem.Spec PyProof.Rows L2 Pt
local macro_rules
  | `(tactic| walk_at "sz") => `(tactic| first
    | omega
    | decide
    | (simp; omega)
    | (simp [iL, row, pairsD]; omega))
  | `(tactic| walk_at "ea") => `(tactic| first
    | (with_reducible exact ea_nil)
    | ((with_reducible apply ea_consL); (focus (walk_at "ev")); (focus (walk_at "ea")))
    | ((with_reducible apply ea_consS); (focus (walk_at "ev")); (focus (walk_at "ea")))
    | ((with_reducible apply ea_cons); (focus (walk_at "ev")); (focus (walk_at "ea")))
    | ((with_reducible apply ea_consN); (focus (walk_at "en")); (focus (walk_at "ea"))))
  | `(tactic| walk_at "ed") => `(tactic| first
    | (with_reducible exact ed_nil)
    | ((with_reducible apply ed_cons); (focus (walk_at "ev")); (focus (walk_at "ed"))))
  | `(tactic| walk_at "en") => `(tactic| first
    | ((with_reducible apply en_lst); (focus (walk_at "ed")); (focus (simp)))
    | ((with_reducible apply en_listT); (focus (walk_at "ev")))
    | ((with_reducible apply en_addL); (focus (walk_at "ev")); (focus (walk_at "en")); (focus (walk_at "sz")))
    | ((with_reducible apply en_addN); (focus (walk_at "en")); (focus (walk_at "en")); (focus (walk_at "sz")))
    | ((with_reducible apply en_slL); (focus (walk_at "ev")); (focus (walk_at "eo")); (focus (walk_at "eo"))))
  | `(tactic| walk_at "eo") => `(tactic| first
    | (with_reducible exact eo_none)
    | ((with_reducible apply eo_some); (focus (walk_at "ev"))))
  | `(tactic| walk_at "et") => `(tactic| first
    | (with_reducible exact et_yes)
    | ((with_reducible apply et_test); (focus (walk_at "ev")))
    | ((with_reducible apply et_B); (focus (walk_at "ev")))
    | ((with_reducible apply et_truB); (focus (walk_at "ev")))
    | ((with_reducible apply et_truT); (focus (walk_at "ev")))
    | ((with_reducible apply et_not); (focus (walk_at "et")))
    | ((with_reducible apply et_and); (focus (walk_at "et")); (focus (intro _; walk_at "et")))
    | ((with_reducible apply et_or); (focus (walk_at "et")); (focus (intro _; walk_at "et"))))
  | `(tactic| walk_at "var") => `(tactic| first
    | ((with_reducible apply ev_varD); (focus (assumption)); (focus (rfl)))
    | ((with_reducible apply ev_varL); (focus (assumption)); (focus (rfl)))
    | ((with_reducible apply ev_varS); (focus (assumption)); (focus (rfl)))
    | ((with_reducible apply ev_varT); (focus (assumption)); (focus (rfl)))
    | ((with_reducible apply ev_varH); (focus (assumption)); (focus (rfl)))
    | ((with_reducible apply ev_varZ); (focus (assumption)); (focus (rfl))))
  | `(tactic| walk_at "ev") => `(tactic| first
    | walk_at "var"
    | (with_reducible exact ev_int)
    | (with_reducible exact ev_bl)
    | (with_reducible exact ev_str)
    | (with_reducible exact ev_non)
    | ((with_reducible apply ev_letters); (focus (walk_at "ev")))
    | ((with_reducible apply ev_pairs); (focus (walk_at "ev")))
    | ((with_reducible apply ev_addI); (focus (walk_at "ev")); (focus (walk_at "ev")))
    | ((with_reducible apply ev_addT); (focus (walk_at "ev")); (focus (walk_at "ev")); (focus (walk_at "sz")))
    | ((with_reducible apply ev_i0); (focus (walk_at "ev")); (focus (walk_at "ev")); (focus (first | exact fun _ => .int _ | exact fun _ => .bl _)))
    | ((with_reducible apply ev_iC); (focus (walk_at "ev")); (focus (walk_at "ev")); (focus (first | assumption | walk_at "cond")); (focus (exact fun _ => .int _)))
    | ((with_reducible apply ev_chain); (focus (walk_at "ev")); (focus (walk_at "ev")); (focus (walk_at "ev")))
    | ((with_reducible apply ev_eqI); (focus (walk_at "ev")); (focus (walk_at "ev")))
    | ((with_reducible apply ev_neI); (focus (walk_at "ev")); (focus (walk_at "ev")))
    | ((with_reducible apply ev_eqR); (focus (walk_at "ev")); (focus (walk_at "ev")))
    | ((with_reducible apply ev_neR); (focus (walk_at "ev")); (focus (walk_at "ev")))
    | ((with_reducible apply ev_isN); (focus (walk_at "ev")))
    | ((with_reducible apply ev_notN); (focus (walk_at "ev")))
    | ((with_reducible apply ev_in2); (focus (walk_at "ev")); (focus (walk_at "ev")); (focus (walk_at "ev")))
    | ((with_reducible apply ev_inP); (focus (walk_at "ev")); (focus (walk_at "ev")))
    | ((with_reducible apply ev_tup); (focus (walk_at "ed")); (focus (simp)))
    | ((with_reducible apply ev_lenT); (focus (walk_at "ev")))
    | ((with_reducible apply ev_lenL); (focus (walk_at "ev")))
    | ((with_reducible apply ev_lenS); (focus (walk_at "ev")))
    | ((with_reducible apply ev_lenN); (focus (walk_at "en")))
    | ((with_reducible apply ev_max2); (focus (walk_at "ev")); (focus (walk_at "ev")))
    | ((with_reducible apply ev_min2); (focus (walk_at "ev")); (focus (walk_at "ev")))
    | ((with_reducible apply ev_int1); (focus (walk_at "ev")))
    | ((with_reducible apply ev_tupleL); (focus (walk_at "ev")))
    | ((with_reducible apply ev_tupleN); (focus (walk_at "en")))
    | ((with_reducible apply ev_countT); (focus (walk_at "ev")); (focus (walk_at "ev")))
    | ((with_reducible apply ev_andV); (focus (walk_at "ev")); (focus (intro _; walk_at "ev")))
    | ((with_reducible apply ev_orV); (focus (walk_at "ev")); (focus (intro _; walk_at "ev")))
    | ((with_reducible apply ev_notV); (focus (walk_at "ev"))))
section
variable {P : Program} {w : World} {K : PySem.W.Frag} {mg : Str → Option Value} {base : Heap}
def allMay (ps : List (Int × Int)) (a c : List Int) : Bool := a.all fun x => c.all fun y => may ps x y
abbrev A_all (as : List Ag) (d : PyData) : Prop := ∃ (n : Int) (ps : List (Int × Int)) (a c : List Int), 0 ≤ n ∧ n ≤ 6 ∧ rowOk n a ∧ rowOk n c ∧ as = [.n (iL (barsL n ps)), .c (.d (row a)), .c (.d (row c))] ∧ d = .bool (allMay ps a c)
theorem ok_all_may_change (E : Nv K mg) : FnOk P w K mg base CX0 4 E.a_all_may_change E.d_all_may_change ["bars", "one", "other"] (spC K E.C_Trade A_all) := by
  refine E.F_all_may_change.ok sc_all_may_change (fun vs H Q _ h => ?_) (fun cdv A outer s H vs Q _ hr h => ?_)
  · obtain ⟨as, d, ha, ⟨_, _, _, _, _, _, _, _, rfl, _⟩, _⟩ := h
    exact ha.length
  · obtain ⟨as, d, ha, ⟨n, ps, a, c, h0, h6, hA, hC, rfl, rfl⟩, q⟩ := h
    obtain ⟨v1, v2, v3, rfl, a1, a2, a3⟩ := ha.three
    obtain ⟨pb, a1⟩ := a1.lent
    refine ⟨_, (pss_one (ps_ret (pe_callB (call_allK K rfl) (by rfl) E.n_all (by decide +kernel) (pa_cons (pe_lc2 (own := [("letter", 3), ("against", 4)]) (vs1 := [4]) (g := gName 3) (g1 := gName 4) (by rfl) sc_all_may_change.nd (pi_tupK K (pv 1)) (blkOk_by (own := [("letter", 3), ("against", 4)]) (N := N_all_may_change) (sc := defScope s_all_may_change) (by decide +kernel)) (by decide) (fun _ _ _ _ _ => (pg_name (i := 3) sc_all_may_change.nd rfl (Or.inl rfl))) (fun _ _ _ _ _ => pts_nil) (fun _ _ _ _ _ => (pi_tupK K (pv 2))) (fun _ _ _ _ _ => (pg_name (i := 4) sc_all_may_change.nd rfl (Or.inl rfl))) (fun _ _ _ _ _ => pts_nil) (fun _ _ _ _ _ => (pe_cmpR (op_eqK K hr.units) (pe_op op_and (pe_op op_shr (pe_ix (ix_K K) (pv 0) (pv 3) (fun _ _ => rfl)) (pv 4)) pe_int) pe_int (nomark _)))) pa_nil)))), ?_⟩
    have w0 : Wd K E.C_Trade [] [] H H _ [.s pb (iL (barsL n ps)), .d (row a), .d (row c), .u, .u] := Wd.start3 (N := N_all_may_change) a1 a2 a3
    have hA20 := hA.1
    have hC20 := hC.1
    refine s_retQ w0 q (ev_d (ev_allK (f := fun z : Int × Int => may ps z.1 z.2) (l := (a.map fun x => c.map fun y => (x, y)).flatten) (en_cast (en_lc2T (l := a) (m := c) (by decide) w0 (ev_var (i := 1) w0 rfl) rfl (by decide) (by decide) (fun x y => .bool (may ps x y)) ⟨by omega, by omega⟩ (fun x hx y hy σ1 H1 w1 => ?_)) ?_)) ?_)
    · have hx' := hA.2 x hx
      have hy' := hC.2 y hy
      refine ev_d (ev_eqI (ev_i0 (ev_iC (d := .int ((barN ps x n.toNat : Nat) / 2 ^ y.toNat)) (ev_ixS (ev_var (i := 0) w1 rfl) (ev_var (i := 3) w1 rfl) (bars_get hx'.1 hx'.2)) (ev_var (i := 4) w1 rfl) hy'.1 (fun _ => .int _)) ev_int (fun _ => .int _)) ev_int) ?_
      rw [shr_and, barN_bit, decide_eq_true (show y.toNat < n.toNat by omega), Int.toNat_of_nonneg hy'.1]
      cases may ps x y <;> simp
    · rw [kept_all, List.map_flatten, List.map_map]
      congr 1
      refine List.map_congr_left fun x _ => ?_
      show _ = (c.map fun y => (x, y)).map _
      rw [List.map_map]
      rfl
    · congr 1
      unfold allMay
      rw [List.all_flatten, List.all_map]
      congr 1
      funext x
      show (c.map fun y => (x, y)).all _ = _
      rw [List.all_map]
      rfl
end
end K1
set_option maxRecDepth 10000000
namespace K1
open PySem PySem.Spec PyProof.Rows L2 Pt
theorem open_sg : Str.ofString "(" = Sg [40] := by decide +kernel
theorem close_sg : Str.ofString ")" = Sg [41] := by decide +kernel
def abc (n : Nat) : List Nat := (List.range n).map (97 + ·)
theorem abc_sg : Str.ofString "abcdef" = Sg (abc 6) := by decide +kernel
def letS (n : Nat) (c : Nat) : Int := if 97 ≤ c ∧ c < 97 + n then ((c - 97 : Nat) : Int) else -1
theorem find_sg {n : Nat} (hn : n ≤ 6) (c : Nat) : Txt.find (Sg (abc n)) (Sg [c]) = letS n c := by
  have mem : c ∈ (Sg (abc n)).cps.toList ↔ 97 ≤ c ∧ c < 97 + n := by
    show c ∈ ((abc n).toArray).toList ↔ _
    rw [List.toList_toArray, abc, List.mem_map]
    constructor
    · rintro ⟨k, hk, rfl⟩
      have := List.mem_range.mp hk
      omega
    · intro h
      exact ⟨c - 97, List.mem_range.mpr (by omega), by omega⟩
  unfold letS
  by_cases h : 97 ≤ c ∧ c < 97 + n
  · rw [if_pos h]
    obtain ⟨k, rfl⟩ : ∃ k, c = 97 + k := ⟨c - 97, by omega⟩
    have hk : k < n := by omega
    have all : ∀ n ∈ List.range 7, ∀ k ∈ List.range n, Txt.find (Sg (abc n)) (Sg [97 + k]) = ((97 + k - 97 : Nat) : Int) := by decide +kernel
    exact all n (List.mem_range.mpr (by omega)) k (List.mem_range.mpr hk)
  · rw [if_neg h]
    have z := StrLaws.found_one (Sg (abc n)) c
    rw [decide_eq_false (fun m => h (mem.mp m))] at z
    have e : Builtin.Str.occurrences (Sg (abc n)) (Sg [c]) 0 (Sg (abc n)).length 1 = [] := by
      simpa using z
    unfold Txt.find
    rw [e]
structure Rd where
  found : List Int
  before : List Int
  step : List Int
  within : Bool
def Rd.init : Rd := ⟨[], [], [], false⟩
def allM (ps : List (Int × Int)) (a c : List Int) : Bool := a.all fun x => c.all fun y => may ps x y
def canS (n : Int) (ps : List (Int × Int)) (before step : List Int) (a : Int) : Bool :=
  !(decide (a < 0) || decide (n ≤ a)) && !(!step.isEmpty && decide (a ≤ step.getLastD 0)) && allM ps step [a] && (before.isEmpty || !allM ps before [a])
def stepR (n : Int) (ps : List (Int × Int)) (r : Rd) (c : Nat) : Option Rd :=
  if r.within = false then (if c = 40 then some { r with within := true } else none)
  else if c = 41 ∧ r.step ≠ [] then some ⟨r.found, r.step, [], false⟩
  else if r.found.length = 20 ∨ canS n ps r.before r.step (letS 6 c) = false then none
  else some ⟨r.found ++ [letS 6 c], r.before, r.step ++ [letS 6 c], true⟩
def runR (n : Int) (ps : List (Int × Int)) : List Nat → Rd → Nat → Nat ⊕ List Int
  | [], r, k => if r.within then .inl k else .inr r.found
  | c :: cs, r, k => match stepR n ps r c with
    | none => .inl k
    | some r' => runR n ps cs r' (k + 1)
structure RdOk (n : Int) (r : Rd) : Prop where
  f : rowOk n r.found
  b : rowOk n r.before
  s : rowOk n r.step
  l : r.step.length ≤ r.found.length
theorem letS_in {n : Int} {ps : List (Int × Int)} {b s : List Int} {c : Nat} (h : canS n ps b s (letS 6 c) = true) : 0 ≤ letS 6 c ∧ letS 6 c < n := by
  unfold canS at h
  simp only [Bool.and_eq_true, Bool.not_eq_true', Bool.or_eq_false_iff, decide_eq_false_iff_not] at h
  omega
theorem row_snoc {n : Int} {l : List Int} {a : Int} (h : rowOk n l) (hl : l.length < 20) (h0 : 0 ≤ a) (h1 : a < n) : rowOk n (l ++ [a]) := ⟨by rw [List.length_append, List.length_singleton]; omega, fun x hx => by
  rcases List.mem_append.mp hx with hx | hx
  · exact h.2 x hx
  · rw [List.mem_singleton.mp hx]; omega⟩
end K1
set_option maxRecDepth 10000000
namespace K1
open PySem PySem.Spec PyProof.Rows L2 Pt
theorem run_cons (n : Int) (ps : List (Int × Int)) (c : Nat) (cs : List Nat) (r : Rd) (k : Nat) : runR n ps (c :: cs) r k = (match stepR n ps r c with
    | none => .inl k
    | some r' => runR n ps cs r' (k + 1)) := rfl
end K1
set_option maxRecDepth 10000000
namespace K1
open PySem PySem.Spec PyProof.Rows L2 Pt
local macro_rules
  | `(tactic| walk_at "sz") => `(tactic| first
    | omega
    | decide
    | (simp; omega)
    | (simp [iL, row, pairsD]; omega))
  | `(tactic| walk_at "ea") => `(tactic| first
    | (with_reducible exact ea_nil)
    | ((with_reducible apply ea_consL); (focus (walk_at "ev")); (focus (walk_at "ea")))
    | ((with_reducible apply ea_consS); (focus (walk_at "ev")); (focus (walk_at "ea")))
    | ((with_reducible apply ea_cons); (focus (walk_at "ev")); (focus (walk_at "ea")))
    | ((with_reducible apply ea_consN); (focus (walk_at "en")); (focus (walk_at "ea"))))
  | `(tactic| walk_at "ed") => `(tactic| first
    | (with_reducible exact ed_nil)
    | ((with_reducible apply ed_cons); (focus (walk_at "ev")); (focus (walk_at "ed"))))
  | `(tactic| walk_at "en") => `(tactic| first
    | ((with_reducible apply en_lst); (focus (walk_at "ed")); (focus (simp)))
    | ((with_reducible apply en_listT); (focus (walk_at "ev")))
    | ((with_reducible apply en_addL); (focus (walk_at "ev")); (focus (walk_at "en")); (focus (walk_at "sz")))
    | ((with_reducible apply en_addN); (focus (walk_at "en")); (focus (walk_at "en")); (focus (walk_at "sz")))
    | ((with_reducible apply en_slL); (focus (walk_at "ev")); (focus (walk_at "eo")); (focus (walk_at "eo"))))
  | `(tactic| walk_at "eo") => `(tactic| first
    | (with_reducible exact eo_none)
    | ((with_reducible apply eo_some); (focus (walk_at "ev"))))
  | `(tactic| walk_at "et") => `(tactic| first
    | (with_reducible exact et_yes)
    | ((with_reducible apply et_test); (focus (walk_at "ev")))
    | ((with_reducible apply et_B); (focus (walk_at "ev")))
    | ((with_reducible apply et_truB); (focus (walk_at "ev")))
    | ((with_reducible apply et_truT); (focus (walk_at "ev")))
    | ((with_reducible apply et_not); (focus (walk_at "et")))
    | ((with_reducible apply et_and); (focus (walk_at "et")); (focus (intro _; walk_at "et")))
    | ((with_reducible apply et_or); (focus (walk_at "et")); (focus (intro _; walk_at "et"))))
  | `(tactic| walk_at "var") => `(tactic| first
    | ((with_reducible apply ev_varD); (focus (assumption)); (focus (rfl)))
    | ((with_reducible apply ev_varL); (focus (assumption)); (focus (rfl)))
    | ((with_reducible apply ev_varS); (focus (assumption)); (focus (rfl)))
    | ((with_reducible apply ev_varT); (focus (assumption)); (focus (rfl)))
    | ((with_reducible apply ev_varH); (focus (assumption)); (focus (rfl)))
    | ((with_reducible apply ev_varZ); (focus (assumption)); (focus (rfl))))
  | `(tactic| walk_at "ev") => `(tactic| first
    | walk_at "var"
    | (with_reducible exact ev_int)
    | (with_reducible exact ev_bl)
    | (with_reducible exact ev_str)
    | (with_reducible exact ev_non)
    | ((with_reducible apply ev_letters); (focus (walk_at "ev")))
    | ((with_reducible apply ev_pairs); (focus (walk_at "ev")))
    | ((with_reducible apply ev_addI); (focus (walk_at "ev")); (focus (walk_at "ev")))
    | ((with_reducible apply ev_addT); (focus (walk_at "ev")); (focus (walk_at "ev")); (focus (walk_at "sz")))
    | ((with_reducible apply ev_i0); (focus (walk_at "ev")); (focus (walk_at "ev")); (focus (first | exact fun _ => .int _ | exact fun _ => .bl _)))
    | ((with_reducible apply ev_iC); (focus (walk_at "ev")); (focus (walk_at "ev")); (focus (first | assumption | walk_at "cond")); (focus (exact fun _ => .int _)))
    | ((with_reducible apply ev_chain); (focus (walk_at "ev")); (focus (walk_at "ev")); (focus (walk_at "ev")))
    | ((with_reducible apply ev_eqI); (focus (walk_at "ev")); (focus (walk_at "ev")))
    | ((with_reducible apply ev_neI); (focus (walk_at "ev")); (focus (walk_at "ev")))
    | ((with_reducible apply ev_eqR); (focus (walk_at "ev")); (focus (walk_at "ev")))
    | ((with_reducible apply ev_neR); (focus (walk_at "ev")); (focus (walk_at "ev")))
    | ((with_reducible apply ev_isN); (focus (walk_at "ev")))
    | ((with_reducible apply ev_notN); (focus (walk_at "ev")))
    | ((with_reducible apply ev_in2); (focus (walk_at "ev")); (focus (walk_at "ev")); (focus (walk_at "ev")))
    | ((with_reducible apply ev_inP); (focus (walk_at "ev")); (focus (walk_at "ev")))
    | ((with_reducible apply ev_tup); (focus (walk_at "ed")); (focus (simp)))
    | ((with_reducible apply ev_lenT); (focus (walk_at "ev")))
    | ((with_reducible apply ev_lenL); (focus (walk_at "ev")))
    | ((with_reducible apply ev_lenS); (focus (walk_at "ev")))
    | ((with_reducible apply ev_lenN); (focus (walk_at "en")))
    | ((with_reducible apply ev_max2); (focus (walk_at "ev")); (focus (walk_at "ev")))
    | ((with_reducible apply ev_min2); (focus (walk_at "ev")); (focus (walk_at "ev")))
    | ((with_reducible apply ev_int1); (focus (walk_at "ev")))
    | ((with_reducible apply ev_tupleL); (focus (walk_at "ev")))
    | ((with_reducible apply ev_tupleN); (focus (walk_at "en")))
    | ((with_reducible apply ev_countT); (focus (walk_at "ev")); (focus (walk_at "ev")))
    | ((with_reducible apply ev_andV); (focus (walk_at "ev")); (focus (intro _; walk_at "ev")))
    | ((with_reducible apply ev_orV); (focus (walk_at "ev")); (focus (intro _; walk_at "ev")))
    | ((with_reducible apply ev_notV); (focus (walk_at "ev"))))
section
variable {P : Program} {w : World} {K : PySem.W.Frag} {mg : Str → Option Value} {base : Heap}
abbrev A_can_stand (as : List Ag) (d : PyData) : Prop := ∃ (n : Int) (ps : List (Int × Int)) (b s : List Int) (a : Int), 0 ≤ n ∧ n ≤ 6 ∧ rowOk n b ∧ rowOk n s ∧ as = [.n (iL (barsL n ps)), .c (.d (row b)), .c (.d (row s)), .c (.d (.int a))] ∧ d = .bool (canS n ps b s a)
theorem bars_len (n : Int) (ps : List (Int × Int)) (h : 0 ≤ n) : ((iL (barsL n ps)).length : Int) = n := by
  rw [iL_len]
  simp [barsL]
  omega
theorem row_last {l : List Int} (h : l ≠ []) : atI (iL l) (-1) = some (.int (l.getLastD 0)) := by
  have e : l = l.dropLast ++ [l.getLastD 0] := by
    rw [List.getLastD_eq_getLast?, List.getLast?_eq_some_getLast h]
    exact (List.dropLast_concat_getLast h).symm
  conv => lhs; rw [e]
  rw [iL_app]
  exact atI_last _ _
theorem ok_can_stand (E : Nv K mg) : FnOk P w K mg base CX0 8 E.a_can_stand E.d_can_stand ["bars", "before", "step", "letter"] (spC K E.C_Trade A_can_stand) := by
  refine E.F_can_stand.ok sc_can_stand (fun vs H Q _ h => ?_) (fun cdv A outer s H vs Q _ hr h => ?_)
  · obtain ⟨as, d, ha, ⟨_, _, _, _, _, _, _, _, _, rfl, _⟩, _⟩ := h
    exact ha.length
  · obtain ⟨as, d, ha, ⟨n, ps, b, s, a, h0, h6, hb, hs, rfl, rfl⟩, q⟩ := h
    obtain ⟨v1, v2, v3, v4, rfl, a1, a2, a3, a4⟩ := ha.four
    obtain ⟨pb, a1⟩ := a1.lent
    refine ⟨_, (pss_cons (ps_if (PW.pt (pw_or (pt_cmpR (op_lt) (pv 3) pe_int (nomark _)) (pw_or1 (pt_cmpR (op_ge) (pv 3) (pe_callB (call_lenK K) (by rfl) E.n_len (by decide +kernel) (pa_cons (pv 0) pa_nil)) (nomark _))))) (pss_one (ps_ret pe_bl)) pss_nil)
      (pss_cons (ps_if (PW.pt (pw_and (pt_truK K (pv 2) (fun _ => rfl)) (pw_and1 (pt_cmpR (op_le) (pv 3) (pe_ix (ix_K K) (pv 2) (pe_un un_neg pe_int) (fun _ _ => rfl)) (nomark _))))) (pss_one (ps_ret pe_bl)) pss_nil)
      (pss_cons (ps_if (pt_not (pt_truK K (pe_call (ok_all_may_change E) (hr.mono (by first | decide | omega)) (by rfl) E.m_all_may_change E.F_all_may_change.kp E.b_all_may_change .nil pass0 (pa_cons (pv 0) (pa_cons (pv 2) (pa_cons (pe_tupF (pa_cons (pv 3) pa_nil)) pa_nil)))) (fun _ => rfl))) (pss_one (ps_ret pe_bl)) pss_nil)
      (pss_one (ps_ret (pe_or (pe_notT (pv 1)) (pe_one (pe_notP (pe_call (ok_all_may_change E) (hr.mono (by first | decide | omega)) (by rfl) E.m_all_may_change E.F_all_may_change.kp E.b_all_may_change .nil pass0 (pa_cons (pv 0) (pa_cons (pv 1) (pa_cons (pe_tupF (pa_cons (pv 3) pa_nil)) pa_nil)))))))))))), ?_⟩
    have w0 : Wd K E.C_Trade [] [] H H _ [.s pb (iL (barsL n ps)), .d (row b), .d (row s), .d (.int a)] := Wd.start4 (N := N_can_stand) a1 a2 a3 a4
    refine s_when w0 (b := decide (a < 0) || decide (n ≤ a)) (et_or (et_test (ev_i0 (ev_var (i := 3) w0 rfl) ev_int (fun _ => .bl _))) fun _ => et_cast (et_test (ev_i0 (ev_var (i := 3) w0 rfl) (ev_lenS (ev_var (i := 0) w0 rfl)) (fun _ => .bl _))) (by rw [bars_len n ps h0])) (fun e H1 w1 => ?_) (fun e H1 w1 => ?_)
    · refine s_retQ w1 q (ev_d ev_bl ?_)
      unfold canS
      rw [e]
      simp
    have ha' : 0 ≤ a ∧ a < n := by
      simp only [Bool.or_eq_false_iff, decide_eq_false_iff_not] at e
      omega
    refine s_when w1 (b := !s.isEmpty && decide (a ≤ s.getLastD 0)) (et_cast (et_and (b := decide (a ≤ s.getLastD 0)) (et_truT (ev_var (i := 2) w1 rfl)) fun z => et_test (ev_i0 (ev_var (i := 3) w1 rfl) (ev_ixT (ev_var (i := 2) w1 rfl) (ev_neg ev_int) (row_last (by
        intro y
        rw [y] at z
        cases z))) (fun _ => .bl _))) (by cases s <;> rfl)) (fun e2 H2 w2 => ?_) (fun e2 H2 w2 => ?_)
    · refine s_retQ w2 q (ev_d ev_bl ?_)
      unfold canS
      rw [e2]
      simp
    have one : rowOk n [a] := ⟨by simp, fun x hx => by rw [List.mem_singleton.mp hx]; omega⟩
    have all : ∀ {H3 : Hp} {l : List Int} {i : Nat} {σ : L2.St} {Γ : List Ct}, rowOk n l → Wd K E.C_Trade [] [] H H3 σ Γ → Γ[0]? = some (.s pb (iL (barsL n ps))) → Γ[i]? = some (.d (row l)) → Γ[3]? = some (.d (.int a)) → EvC K E.C_Trade (tCall (spC K E.C_Trade A_all) [] E0 (tCons (tVar 0) (tCons (tVar i) (tCons (tTupF (tCons (tVar 3) tNil)) tNil)))) σ H3 (.d (.bool (allM ps l [a]))) := fun hl w g0 gi g3 => ev_call (ea_consS (ev_var (i := 0) w g0) (ea_cons (ev_var w gi) (ea_cons (c := .d (row [a])) (ev_tup (ed_cons (ev_var (i := 3) w g3) ed_nil) (show 1 ≤ 10000000 by decide)) ea_nil))) ⟨n, ps, _, _, h0, h6, hl, one, rfl, rfl⟩
    refine s_when w2 (b := !allM ps s [a]) (et_not (et_truB (all hs w2 rfl rfl rfl))) (fun e3 H3 w3 => ?_) (fun e3 H3 w3 => ?_)
    · refine s_retQ w3 q (ev_d ev_bl ?_)
      unfold canS
      rw [show allM ps s [a] = false by simpa using e3]
      simp
    refine s_retQ w3 q (ev_d (ev_orV (a := b.isEmpty) (b := !allM ps b [a]) (ev_d (ev_notTT (ev_var (i := 1) w3 rfl)) (by cases b <;> rfl)) fun _ => ev_notV (all hb w3 rfl rfl rfl)) ?_)
    unfold canS
    rw [e, e2, show allM ps s [a] = true by simpa using e3]
    simp
end
end K1
set_option maxRecDepth 10000000
namespace K1
open PySem PySem.Spec PyProof.Rows L2 Pt
local macro_rules
  | `(tactic| walk_at "sz") => `(tactic| first
    | omega
    | decide
    | (simp; omega)
    | (simp [iL, row, pairsD]; omega))
  | `(tactic| walk_at "ea") => `(tactic| first
    | (with_reducible exact ea_nil)
    | ((with_reducible apply ea_consL); (focus (walk_at "ev")); (focus (walk_at "ea")))
    | ((with_reducible apply ea_consS); (focus (walk_at "ev")); (focus (walk_at "ea")))
    | ((with_reducible apply ea_cons); (focus (walk_at "ev")); (focus (walk_at "ea")))
    | ((with_reducible apply ea_consN); (focus (walk_at "en")); (focus (walk_at "ea"))))
  | `(tactic| walk_at "ed") => `(tactic| first
    | (with_reducible exact ed_nil)
    | ((with_reducible apply ed_cons); (focus (walk_at "ev")); (focus (walk_at "ed"))))
  | `(tactic| walk_at "en") => `(tactic| first
    | ((with_reducible apply en_lst); (focus (walk_at "ed")); (focus (simp)))
    | ((with_reducible apply en_listT); (focus (walk_at "ev")))
    | ((with_reducible apply en_addL); (focus (walk_at "ev")); (focus (walk_at "en")); (focus (walk_at "sz")))
    | ((with_reducible apply en_addN); (focus (walk_at "en")); (focus (walk_at "en")); (focus (walk_at "sz")))
    | ((with_reducible apply en_slL); (focus (walk_at "ev")); (focus (walk_at "eo")); (focus (walk_at "eo"))))
  | `(tactic| walk_at "eo") => `(tactic| first
    | (with_reducible exact eo_none)
    | ((with_reducible apply eo_some); (focus (walk_at "ev"))))
  | `(tactic| walk_at "et") => `(tactic| first
    | (with_reducible exact et_yes)
    | ((with_reducible apply et_test); (focus (walk_at "ev")))
    | ((with_reducible apply et_B); (focus (walk_at "ev")))
    | ((with_reducible apply et_truB); (focus (walk_at "ev")))
    | ((with_reducible apply et_truT); (focus (walk_at "ev")))
    | ((with_reducible apply et_not); (focus (walk_at "et")))
    | ((with_reducible apply et_and); (focus (walk_at "et")); (focus (intro _; walk_at "et")))
    | ((with_reducible apply et_or); (focus (walk_at "et")); (focus (intro _; walk_at "et"))))
  | `(tactic| walk_at "var") => `(tactic| first
    | ((with_reducible apply ev_varD); (focus (assumption)); (focus (rfl)))
    | ((with_reducible apply ev_varL); (focus (assumption)); (focus (rfl)))
    | ((with_reducible apply ev_varS); (focus (assumption)); (focus (rfl)))
    | ((with_reducible apply ev_varT); (focus (assumption)); (focus (rfl)))
    | ((with_reducible apply ev_varH); (focus (assumption)); (focus (rfl)))
    | ((with_reducible apply ev_varZ); (focus (assumption)); (focus (rfl))))
  | `(tactic| walk_at "ev") => `(tactic| first
    | walk_at "var"
    | (with_reducible exact ev_int)
    | (with_reducible exact ev_bl)
    | (with_reducible exact ev_str)
    | (with_reducible exact ev_non)
    | ((with_reducible apply ev_letters); (focus (walk_at "ev")))
    | ((with_reducible apply ev_pairs); (focus (walk_at "ev")))
    | ((with_reducible apply ev_addI); (focus (walk_at "ev")); (focus (walk_at "ev")))
    | ((with_reducible apply ev_addT); (focus (walk_at "ev")); (focus (walk_at "ev")); (focus (walk_at "sz")))
    | ((with_reducible apply ev_i0); (focus (walk_at "ev")); (focus (walk_at "ev")); (focus (first | exact fun _ => .int _ | exact fun _ => .bl _)))
    | ((with_reducible apply ev_iC); (focus (walk_at "ev")); (focus (walk_at "ev")); (focus (first | assumption | walk_at "cond")); (focus (exact fun _ => .int _)))
    | ((with_reducible apply ev_chain); (focus (walk_at "ev")); (focus (walk_at "ev")); (focus (walk_at "ev")))
    | ((with_reducible apply ev_eqI); (focus (walk_at "ev")); (focus (walk_at "ev")))
    | ((with_reducible apply ev_neI); (focus (walk_at "ev")); (focus (walk_at "ev")))
    | ((with_reducible apply ev_eqR); (focus (walk_at "ev")); (focus (walk_at "ev")))
    | ((with_reducible apply ev_neR); (focus (walk_at "ev")); (focus (walk_at "ev")))
    | ((with_reducible apply ev_isN); (focus (walk_at "ev")))
    | ((with_reducible apply ev_notN); (focus (walk_at "ev")))
    | ((with_reducible apply ev_in2); (focus (walk_at "ev")); (focus (walk_at "ev")); (focus (walk_at "ev")))
    | ((with_reducible apply ev_inP); (focus (walk_at "ev")); (focus (walk_at "ev")))
    | ((with_reducible apply ev_tup); (focus (walk_at "ed")); (focus (simp)))
    | ((with_reducible apply ev_lenT); (focus (walk_at "ev")))
    | ((with_reducible apply ev_lenL); (focus (walk_at "ev")))
    | ((with_reducible apply ev_lenS); (focus (walk_at "ev")))
    | ((with_reducible apply ev_lenN); (focus (walk_at "en")))
    | ((with_reducible apply ev_max2); (focus (walk_at "ev")); (focus (walk_at "ev")))
    | ((with_reducible apply ev_min2); (focus (walk_at "ev")); (focus (walk_at "ev")))
    | ((with_reducible apply ev_int1); (focus (walk_at "ev")))
    | ((with_reducible apply ev_tupleL); (focus (walk_at "ev")))
    | ((with_reducible apply ev_tupleN); (focus (walk_at "en")))
    | ((with_reducible apply ev_countT); (focus (walk_at "ev")); (focus (walk_at "ev")))
    | ((with_reducible apply ev_andV); (focus (walk_at "ev")); (focus (intro _; walk_at "ev")))
    | ((with_reducible apply ev_orV); (focus (walk_at "ev")); (focus (intro _; walk_at "ev")))
    | ((with_reducible apply ev_notV); (focus (walk_at "ev"))))
section
variable {P : Program} {w : World} {K : PySem.W.Frag} {mg : Str → Option Value} {base : Heap}
def spPlace (K : PySem.W.Frag) (C : Addr) : Sp := fun vs H Q _ => ∃ a y, vs = [.ref a, y] ∧ H a = some (exo a C none) ∧ ∀ dx, H dx = none → dx ≠ a → Q .non (L2.upd (L2.upd H dx (exd dx [("place", y)])) a (exo a C (some dx)))
theorem ok_InvalidText___init__ (E : Nv K mg) : FnOk P w K mg base CX0 1 E.a_InvalidText___init__ E.d_InvalidText___init__ ["self", "place"] (spPlace K E.C_InvalidText) := by
  refine E.F_InvalidText___init__.ok sc_InvalidText___init__ (fun vs H Q _ h => ?_) (fun cdv A outer s H vs Q _ hr h => ?_)
  · obtain ⟨_, _, rfl, _⟩ := h
    rfl
  · obtain ⟨a, y, rfl, ha, k⟩ := h
    refine ⟨_, (pss_one (ps_ost (pv 0) (pv 1) rfl)), ?_⟩
    exact ⟨y, rfl, .ref a, rfl, a, E.C_InvalidText, rfl, E.x_InvalidText.T, E.no_place, .inl ⟨ha, fun dx n ne => k dx n ne⟩⟩
theorem ex_place {C CX : Addr} {te : TE} {σ : L2.St} {H : Hp} {j : Int} (h : EvC K C te σ H (.d (.int j))) {X : XK} (k : ∀ dd H', Same H H' → H' dd = some (.xd [("place", .int j)]) → X (.ref CX) (some dd) H') : tMkO CX (spPlace K CX) [] (tCons te tNil) σ H X :=
  h H (Same.refl H) _ fun v H1 e1 a1 => ⟨by show 1 ≤ 1000; decide, fun a na => ⟨a, v, rfl, upd_same, fun dx nx ne => by
    refine ⟨rfl, dx, [("place", v)], upd_same, by rw [upd_ne ne, upd_same], by rw [upd_ne ne] at nx; exact nx, ?_⟩
    rw [Td.int_of a1]
    refine k dx _ (fun b o hb => ?_) upd_same
    have h1 := e1 b o hb
    have hba : b ≠ a := fun z => by rw [z, na] at h1; cases h1
    have hbx : b ≠ dx := fun z => by rw [upd_ne ne] at nx; rw [z, nx] at h1; cases h1
    rw [upd_ne hbx]
    unfold del
    rw [if_neg hba, upd_ne hba, upd_ne hbx, upd_ne hba]
    exact h1⟩⟩
def spReadL (K : PySem.W.Frag) (CI : Addr) : Sp := fun vs H Q X => ∃ (n : Int) (ps : List (Int × Int)) (pb : Addr) (xs : List V) (z : Str), vs = [.ref pb, .str z] ∧ H pb = some (.lst xs) ∧ TdAll K H xs (iL (barsL n ps)) ∧ 0 ≤ n ∧ n ≤ 6 ∧ z.length ≤ 100000 ∧
  (∀ l v H', runR n ps z.cps.toList Rd.init 0 = .inr l → Same H H' → Td K H' v (row l) → Q v H') ∧
  (∀ j dd H', runR n ps z.cps.toList Rd.init 0 = .inl j → Same H H' → H' dd = some (.xd [("place", .int (j : Nat))]) → X (.ref CI) (some dd) H')
theorem ok_read_letters (E : Nv K mg) : FnOk P w K mg base (L2N.CX P w) 12 E.a_read_letters E.d_read_letters ["bars", "text"] (spReadL K E.C_InvalidText) := by
  refine fun_okN E.F_read_letters sc_read_letters (fun vs H Q X h => ?_) (fun cdv A outer s H vs Q X hr h => ?_)
  · obtain ⟨_, _, _, _, _, rfl, _⟩ := h
    rfl
  · obtain ⟨n, ps, pb, xs, z, rfl, hpb, htd, h0, h6, hz, k, kx⟩ := h
    refine ⟨_, (pss_cons (ps_set (i := 2) sc_read_letters.nd rfl (.inl rfl) (pe_tupF pa_nil))
      (pss_cons (ps_set (i := 3) sc_read_letters.nd rfl (.inl rfl) (pe_tupF pa_nil))
      (pss_cons (ps_set (i := 4) sc_read_letters.nd rfl (.inl rfl) (pe_tupF pa_nil))
      (pss_cons (ps_set (i := 5) sc_read_letters.nd rfl (.inl rfl) pe_bl)
      (pss_cons (ps_for (passes_of rfl) rfl (pi_enumS (by rfl) E.n_enumerate (pa_cons (pv 1) pa_nil)) (pg_tupK K (n := 2) rfl (pgs_cons (pg_name (i := 6) sc_read_letters.nd rfl (.inl rfl)) (pgs_cons (pg_name (i := 7) sc_read_letters.nd rfl (.inl rfl)) pgs_nil)))
      (pss_one (ps_if (pt_not (pt_truK K (pv 5) (fun _ => rfl))) (pss_cons (ps_if (pt_cmpR (op_ne) (pv 7) (pe_glob (v := .str "(") (by rfl) E.c_OPENING ⟨_, rfl⟩) (nomark _)) (pss_one (L2N.ps_raise rfl (L2N.takes_of rfl rfl rfl rfl) (pmk_oexN E.x_InvalidText.T E.x_InvalidText.iC E.x_InvalidText.tI (ok_InvalidText___init__ E) (hr.mono (by first | decide | omega)) E.b_InvalidText___init__ .nil pass0 (by rfl) E.m_InvalidText (pa_cons (pv 6) pa_nil)))) pss_nil)
      (pss_one (ps_set (i := 5) sc_read_letters.nd rfl (.inl rfl) pe_bl))) (pss_one (ps_if (PW.pt (pw_and (pt_cmpR (op_eq) (pv 7) (pe_glob (v := .str ")") (by rfl) E.c_CLOSING ⟨_, rfl⟩) (nomark _)) (pw_and1 (pt_truK K (pv 4) (fun _ => rfl))))) (pss_cons (ps_set (i := 3) sc_read_letters.nd rfl (.inl rfl) (pv 4))
      (pss_cons (ps_set (i := 4) sc_read_letters.nd rfl (.inl rfl) (pe_tupF pa_nil))
      (pss_one (ps_set (i := 5) sc_read_letters.nd rfl (.inl rfl) pe_bl)))) (pss_cons (ps_set (i := 8) sc_read_letters.nd rfl (.inl rfl) (pe_m1 PySem.F.slot_str_find PySem.F.type_str_find mt_find (pe_glob (v := .str "abcdef") (by rfl) E.c_LETTERS ⟨_, rfl⟩) (pv 7)))
      (pss_cons (ps_if (PW.pt (pw_or (pt_cmpR (op_eqK K hr.units) (pe_callB (call_lenK K) (by rfl) E.n_len (by decide +kernel) (pa_cons (pv 2) pa_nil)) (pe_glob (v := .int 20) (by rfl) E.c_MOST_IN_ROW ⟨_, rfl⟩) (nomark _)) (pw_or1 (pt_not (pt_truK K (pe_call (ok_can_stand E) (hr.mono (by first | decide | omega)) (by rfl) E.m_can_stand E.F_can_stand.kp E.b_can_stand .nil pass0 (pa_cons (pv 0) (pa_cons (pv 3) (pa_cons (pv 4) (pa_cons (pv 8) pa_nil))))) (fun _ => rfl)))))) (pss_one (L2N.ps_raise rfl (L2N.takes_of rfl rfl rfl rfl) (pmk_oexN E.x_InvalidText.T E.x_InvalidText.iC E.x_InvalidText.tI (ok_InvalidText___init__ E) (hr.mono (by first | decide | omega)) E.b_InvalidText___init__ .nil pass0 (by rfl) E.m_InvalidText (pa_cons (pv 6) pa_nil)))) pss_nil)
      (pss_cons (ps_set (i := 2) sc_read_letters.nd rfl (.inl rfl) (pe_op (op_addK K) (pv 2) (pe_tupF (pa_cons (pv 8) pa_nil))))
      (pss_one (ps_set (i := 4) sc_read_letters.nd rfl (.inl rfl) (pe_op (op_addK K) (pv 4) (pe_tupF (pa_cons (pv 8) pa_nil)))))))))))))
      (pss_cons (ps_if (pt_truK K (pv 5) (fun _ => rfl)) (pss_one (L2N.ps_raise rfl (L2N.takes_of rfl rfl rfl rfl) (pmk_oexN E.x_InvalidText.T E.x_InvalidText.iC E.x_InvalidText.tI (ok_InvalidText___init__ E) (hr.mono (by first | decide | omega)) E.b_InvalidText___init__ .nil pass0 (by rfl) E.m_InvalidText (pa_cons (pe_callB (call_lenK K) (by rfl) E.n_len (by decide +kernel) (pa_cons (pv 1) pa_nil)) pa_nil)))) pss_nil)
      (pss_one (ps_ret (pv 2))))))))), ?_⟩
    have w0 : Wd K E.C_Trade [] [] H H _ [.s pb (iL (barsL n ps)), .d (.str z), .u, .u, .u, .u, .u, .u, .u] := Wd.start2 (N := N_read_letters) (v1 := .ref pb) (v2 := .str z) (c1 := .s pb (iL (barsL n ps))) (c2 := .d (.str z)) ⟨rfl, xs, hpb, htd⟩ (Td.str z)
    refine q_asgD w0 (d := row []) (ev_tup ed_nil (Nat.zero_le _)) fun σ1 H1 w1 => ?_
    refine q_asgD w1 (d := row []) (ev_tup ed_nil (Nat.zero_le _)) fun σ2 H2 w2 => ?_
    refine q_asgD w2 (d := row []) (ev_tup ed_nil (Nat.zero_le _)) fun σ3 H3 w3 => ?_
    refine q_asgD w3 (d := .bool false) ev_bl fun σ4 H4 w4 => ?_
    have w4' : Wd K E.C_Trade [] [] H H4 σ4 [.s pb (iL (barsL n ps)), .d (.str z), .d (row []), .d (row []), .d (row []), .d (.bool false), .u, .u, .u] := w4
    refine s_seq (s_forSt (ev_var (i := 1) w4' rfl) (fun t σ' H' => ∃ (r : Rd) (c6 c7 c8 : Ct), Wd K E.C_Trade [] [] H H' σ' [.s pb (iL (barsL n ps)), .d (.str z), .d (row r.found), .d (row r.before), .d (row r.step), .d (.bool r.within), c6, c7, c8] ∧ RdOk n r ∧ runR n ps z.cps.toList Rd.init 0 = runR n ps (z.cps.toList.drop t) r t) (fun H5 e5 => ⟨Rd.init, _, _, _, w4'.mono e5, ⟨⟨Nat.zero_le _, fun x hx => by cases hx⟩, ⟨Nat.zero_le _, fun x hx => by cases hx⟩, ⟨Nat.zero_le _, fun x hx => by cases hx⟩, Nat.le_refl _⟩, rfl⟩) ?_ ?_)
    · rintro t cc σ' H' H6 hcc ⟨r, c6, c7, c8, w5, rok, er⟩ e6
      have w6 : Wd K E.C_Trade [] [] H H6 _ [.s pb (iL (barsL n ps)), .d (.str z), .d (row r.found), .d (row r.before), .d (row r.step), .d (.bool r.within), .d (.int (t : Nat)), .d (.str (Sg [cc])), c8] := ((w5.mono e6).set 6 (v := .int (t : Nat)) (c := .d (.int (t : Nat))) (Td.int _)).set 7 (v := .str (Sg [cc])) (c := .d (.str (Sg [cc]))) (Td.str _)
      have ht : t < z.cps.toList.length := by
        have := (Array.getElem?_eq_some_iff.mp hcc).1
        simpa using this
      have hd : z.cps.toList.drop t = cc :: z.cps.toList.drop (t + 1) := by
        rw [List.drop_eq_getElem_cons ht]
        congr 1
        have := (Array.getElem?_eq_some_iff.mp hcc).2
        simpa using this
      rw [hd, run_cons] at er
      have bad : ∀ {H7 : Hp} {σ : L2.St} {Γ : List Ct}, stepR n ps r cc = none → Wd K E.C_Trade [] [] H H7 σ Γ → Γ[6]? = some (.d (.int (t : Nat))) → tMkO E.C_InvalidText (spPlace K E.C_InvalidText) [] (tCons (tVar 6) tNil) σ H7 X := fun he w g => ex_place (K := K) (C := E.C_Trade) (ev_var (i := 6) w g) fun dd H8 e8 h8 => kx t dd H8 (by rw [er, he]) (w.fr0.trans e8) h8
      have good : ∀ {H7 : Hp} {σ : L2.St} {c8 : Ct} (r' : Rd), stepR n ps r cc = some r' → RdOk n r' → Wd K E.C_Trade [] [] H H7 σ [.s pb (iL (barsL n ps)), .d (.str z), .d (row r'.found), .d (row r'.before), .d (row r'.step), .d (.bool r'.within), .d (.int (t : Nat)), .d (.str (Sg [cc])), c8] → ∃ (r : Rd) (c6 c7 c8 : Ct), Wd K E.C_Trade [] [] H H7 σ [.s pb (iL (barsL n ps)), .d (.str z), .d (row r.found), .d (row r.before), .d (row r.step), .d (.bool r.within), c6, c7, c8] ∧ RdOk n r ∧ runR n ps z.cps.toList Rd.init 0 = runR n ps (z.cps.toList.drop (t + 1)) r (t + 1) := fun r' he ok w => ⟨r', _, _, _, w, ok, by rw [er, he]⟩
      have eqO : decide (Sg [cc] = Sg [40]) = decide (cc = 40) := by
        by_cases q : cc = 40
        · subst q; rfl
        · rw [decide_eq_false q]
          refine decide_eq_false fun y => q ?_
          have := congrArg (fun s : Str => s.cps.toList) y
          simpa using this
      have eqC : decide (Sg [cc] = Sg [41]) = decide (cc = 41) := by
        by_cases q : cc = 41
        · subst q; rfl
        · rw [decide_eq_false q]
          refine decide_eq_false fun y => q ?_
          have := congrArg (fun s : Str => s.cps.toList) y
          simpa using this
      refine s_if w6 (b := !r.within) (et_not (et_truB (ev_var (i := 5) w6 rfl))) (fun e7 H7 w7 => ?_) (fun e7 H7 w7 => ?_)
      · have hw : r.within = false := by simpa using e7
        refine s_when w7 (b := !decide (cc = 40)) (et_cast (et_test (ev_neSt (b := Sg [40]) (ev_var (i := 7) w7 rfl) (ev_d ev_str (by rw [open_sg])))) (by rw [eqO])) (fun e8 H8 w8 => ?_) (fun e8 H8 w8 => ?_)
        · have hc : cc ≠ 40 := by simpa using e8
          exact bad (by unfold stepR; rw [if_pos hw, if_neg hc]) w8 rfl
        · have hc : cc = 40 := by simpa using e8
          refine s_asgD w8 (d := .bool true) ev_bl fun σ9 H9 w9 => ?_
          exact good { r with within := true } (by unfold stepR; rw [if_pos hw, if_pos hc]) ⟨rok.f, rok.b, rok.s, rok.l⟩ w9
      · have hw : r.within = true := by simpa using e7
        refine s_if w7 (b := decide (cc = 41) && !r.step.isEmpty) (et_cast (et_and (b := !r.step.isEmpty) (et_test (ev_eqSt (b := Sg [41]) (ev_var (i := 7) w7 rfl) (ev_d ev_str (by rw [close_sg])))) fun _ => et_cast (et_truT (ev_var (i := 4) w7 rfl)) (by cases r.step <;> rfl)) (by rw [eqC])) (fun e8 H8 w8 => ?_) (fun e8 H8 w8 => ?_)
        · have hc : cc = 41 ∧ r.step ≠ [] := by
            rw [Bool.and_eq_true] at e8
            exact ⟨of_decide_eq_true e8.1, fun y => by rw [y] at e8; cases e8.2⟩
          refine q_asgD w8 (ev_var (i := 4) w8 rfl) fun σ9 H9 w9 => ?_
          refine q_asgD w9 (d := row []) (ev_tup ed_nil (Nat.zero_le _)) fun σ10 H10 w10 => ?_
          refine s_asgD w10 (d := .bool false) ev_bl fun σ11 H11 w11 => ?_
          exact good ⟨r.found, r.step, [], false⟩ (by unfold stepR; rw [if_neg (by rw [hw]; simp), if_pos hc]) ⟨rok.f, rok.s, ⟨Nat.zero_le _, fun x hx => by cases hx⟩, Nat.zero_le _⟩ w11
        · have hc : ¬ (cc = 41 ∧ r.step ≠ []) := fun y => by
            have h1 : r.step.isEmpty = false := by
              cases hs : r.step with
              | nil => exact absurd hs y.2
              | cons _ _ => rfl
            rw [decide_eq_true y.1, h1] at e8
            cases e8
          refine q_asgD w8 (d := .int (letS 6 cc)) (ev_d (ev_findSt (a := Sg (abc 6)) (b := Sg [cc]) (ev_d ev_str (by rw [abc_sg])) (ev_var (i := 7) w8 rfl)) (by rw [find_sg (by decide)])) fun σ9 H9 w9 => ?_
          have w9' : Wd K E.C_Trade [] [] H H9 σ9 [.s pb (iL (barsL n ps)), .d (.str z), .d (row r.found), .d (row r.before), .d (row r.step), .d (.bool r.within), .d (.int (t : Nat)), .d (.str (Sg [cc])), .d (.int (letS 6 cc))] := w9
          refine s_when w9' (b := decide (r.found.length = 20) || !canS n ps r.before r.step (letS 6 cc)) (et_or (et_cast (et_test (ev_eqI (ev_lenT (ev_var (i := 2) w9' rfl)) ev_int)) (by rw [iL_len]; simp; omega)) fun _ => et_not (et_truB (ev_call (ea_consS (ev_var (i := 0) w9' rfl) (ea_cons (ev_var (i := 3) w9' rfl) (ea_cons (ev_var (i := 4) w9' rfl) (ea_cons (ev_var (i := 8) w9' rfl) ea_nil)))) ⟨n, ps, r.before, r.step, _, h0, h6, rok.b, rok.s, rfl, rfl⟩))) (fun e10 H10 w10 => ?_) (fun e10 H10 w10 => ?_)
          · refine bad ?_ w10 rfl
            unfold stepR
            rw [if_neg (by rw [hw]; simp), if_neg hc, if_pos]
            rw [Bool.or_eq_true] at e10
            rcases e10 with y | y
            · exact .inl (of_decide_eq_true y)
            · exact .inr (by simpa using y)
          · rw [Bool.or_eq_false_iff] at e10
            have n20 := of_decide_eq_false e10.1
            have hcan : canS n ps r.before r.step (letS 6 cc) = true := by simpa using e10.2
            have hin := letS_in hcan
            have h20 := rok.f.1
            have hss : r.step.length < 20 := by have := rok.l; omega
            refine q_asgD w10 (d := row (r.found ++ [letS 6 cc])) (ev_d (ev_addT (ev_var (i := 2) w10 rfl) (ev_tup (ed_cons (ev_var (i := 8) w10 rfl) ed_nil) (show 1 ≤ 10000000 by decide)) (by rw [iL_len]; simp; omega)) (by rw [show row (r.found ++ [letS 6 cc]) = .tuple (iL (r.found ++ [letS 6 cc])) from rfl, iL_app]; rfl)) fun σ11 H11 w11 => ?_
            refine s_asgD w11 (d := row (r.step ++ [letS 6 cc])) (ev_d (ev_addT (ev_var (i := 4) w11 rfl) (ev_tup (ed_cons (ev_var (i := 8) w11 rfl) ed_nil) (show 1 ≤ 10000000 by decide)) (by rw [iL_len]; simp; omega)) (by rw [show row (r.step ++ [letS 6 cc]) = .tuple (iL (r.step ++ [letS 6 cc])) from rfl, iL_app]; rfl)) fun σ12 H12 w12 => ?_
            have w12' : Wd K E.C_Trade [] [] H H12 σ12 [.s pb (iL (barsL n ps)), .d (.str z), .d (row (r.found ++ [letS 6 cc])), .d (row r.before), .d (row (r.step ++ [letS 6 cc])), .d (.bool r.within), .d (.int (t : Nat)), .d (.str (Sg [cc])), .d (.int (letS 6 cc))] := w12
            rw [hw] at w12'
            refine good ⟨r.found ++ [letS 6 cc], r.before, r.step ++ [letS 6 cc], true⟩ ?_ ⟨row_snoc rok.f (by omega) hin.1 hin.2, rok.b, row_snoc rok.s hss hin.1 hin.2, by have := rok.l; simp only [List.length_append, List.length_singleton]; omega⟩ w12'
            unfold stepR
            rw [if_neg (by rw [hw]; simp), if_neg hc, if_neg]
            rintro (y | y)
            · exact n20 y
            · rw [hcan] at y; cases y
    · rintro σ' H' ⟨r, c6, c7, c8, w5, rok, er⟩
      rw [show z.cps.toList.drop z.cps.size = [] by rw [List.drop_eq_nil_iff]; simp] at er
      have er : runR n ps z.cps.toList Rd.init 0 = if r.within then .inl z.cps.size else .inr r.found := er
      dsimp only
      refine s_when w5 (b := r.within) (et_truB (ev_var (i := 5) w5 rfl)) (fun e6 H6 w6 => ?_) (fun e6 H6 w6 => ?_)
      · rw [if_pos e6] at er
        exact ex_place (K := K) (C := E.C_Trade) (ev_lenSt (ev_var (i := 1) w6 rfl) (by omega)) fun dd H8 e8 h8 => kx _ dd H8 er (w6.fr0.trans e8) h8
      · rw [if_neg (by rw [e6]; simp)] at er
        exact s_ret w6 (ev_var (i := 2) w6 rfl) fun v H7 w7 a7 => k _ v H7 er w7.fr0 a7
end
end K1
set_option maxRecDepth 10000000
namespace K1
open PySem PySem.Spec PyProof.Rows L2 Pt
local macro_rules
  | `(tactic| walk_at "sz") => `(tactic| first
    | omega
    | decide
    | (simp; omega)
    | (simp [iL, row, pairsD]; omega))
  | `(tactic| walk_at "ea") => `(tactic| first
    | (with_reducible exact ea_nil)
    | ((with_reducible apply ea_consL); (focus (walk_at "ev")); (focus (walk_at "ea")))
    | ((with_reducible apply ea_consS); (focus (walk_at "ev")); (focus (walk_at "ea")))
    | ((with_reducible apply ea_cons); (focus (walk_at "ev")); (focus (walk_at "ea")))
    | ((with_reducible apply ea_consN); (focus (walk_at "en")); (focus (walk_at "ea"))))
  | `(tactic| walk_at "ed") => `(tactic| first
    | (with_reducible exact ed_nil)
    | ((with_reducible apply ed_cons); (focus (walk_at "ev")); (focus (walk_at "ed"))))
  | `(tactic| walk_at "en") => `(tactic| first
    | ((with_reducible apply en_lst); (focus (walk_at "ed")); (focus (simp)))
    | ((with_reducible apply en_listT); (focus (walk_at "ev")))
    | ((with_reducible apply en_addL); (focus (walk_at "ev")); (focus (walk_at "en")); (focus (walk_at "sz")))
    | ((with_reducible apply en_addN); (focus (walk_at "en")); (focus (walk_at "en")); (focus (walk_at "sz")))
    | ((with_reducible apply en_slL); (focus (walk_at "ev")); (focus (walk_at "eo")); (focus (walk_at "eo"))))
  | `(tactic| walk_at "eo") => `(tactic| first
    | (with_reducible exact eo_none)
    | ((with_reducible apply eo_some); (focus (walk_at "ev"))))
  | `(tactic| walk_at "et") => `(tactic| first
    | (with_reducible exact et_yes)
    | ((with_reducible apply et_test); (focus (walk_at "ev")))
    | ((with_reducible apply et_B); (focus (walk_at "ev")))
    | ((with_reducible apply et_truB); (focus (walk_at "ev")))
    | ((with_reducible apply et_truT); (focus (walk_at "ev")))
    | ((with_reducible apply et_not); (focus (walk_at "et")))
    | ((with_reducible apply et_and); (focus (walk_at "et")); (focus (intro _; walk_at "et")))
    | ((with_reducible apply et_or); (focus (walk_at "et")); (focus (intro _; walk_at "et"))))
  | `(tactic| walk_at "var") => `(tactic| first
    | ((with_reducible apply ev_varD); (focus (assumption)); (focus (rfl)))
    | ((with_reducible apply ev_varL); (focus (assumption)); (focus (rfl)))
    | ((with_reducible apply ev_varS); (focus (assumption)); (focus (rfl)))
    | ((with_reducible apply ev_varT); (focus (assumption)); (focus (rfl)))
    | ((with_reducible apply ev_varH); (focus (assumption)); (focus (rfl)))
    | ((with_reducible apply ev_varZ); (focus (assumption)); (focus (rfl))))
  | `(tactic| walk_at "ev") => `(tactic| first
    | walk_at "var"
    | (with_reducible exact ev_int)
    | (with_reducible exact ev_bl)
    | (with_reducible exact ev_str)
    | (with_reducible exact ev_non)
    | ((with_reducible apply ev_letters); (focus (walk_at "ev")))
    | ((with_reducible apply ev_pairs); (focus (walk_at "ev")))
    | ((with_reducible apply ev_addI); (focus (walk_at "ev")); (focus (walk_at "ev")))
    | ((with_reducible apply ev_addT); (focus (walk_at "ev")); (focus (walk_at "ev")); (focus (walk_at "sz")))
    | ((with_reducible apply ev_i0); (focus (walk_at "ev")); (focus (walk_at "ev")); (focus (first | exact fun _ => .int _ | exact fun _ => .bl _)))
    | ((with_reducible apply ev_iC); (focus (walk_at "ev")); (focus (walk_at "ev")); (focus (first | assumption | walk_at "cond")); (focus (exact fun _ => .int _)))
    | ((with_reducible apply ev_chain); (focus (walk_at "ev")); (focus (walk_at "ev")); (focus (walk_at "ev")))
    | ((with_reducible apply ev_eqI); (focus (walk_at "ev")); (focus (walk_at "ev")))
    | ((with_reducible apply ev_neI); (focus (walk_at "ev")); (focus (walk_at "ev")))
    | ((with_reducible apply ev_eqR); (focus (walk_at "ev")); (focus (walk_at "ev")))
    | ((with_reducible apply ev_neR); (focus (walk_at "ev")); (focus (walk_at "ev")))
    | ((with_reducible apply ev_isN); (focus (walk_at "ev")))
    | ((with_reducible apply ev_notN); (focus (walk_at "ev")))
    | ((with_reducible apply ev_in2); (focus (walk_at "ev")); (focus (walk_at "ev")); (focus (walk_at "ev")))
    | ((with_reducible apply ev_inP); (focus (walk_at "ev")); (focus (walk_at "ev")))
    | ((with_reducible apply ev_tup); (focus (walk_at "ed")); (focus (simp)))
    | ((with_reducible apply ev_lenT); (focus (walk_at "ev")))
    | ((with_reducible apply ev_lenL); (focus (walk_at "ev")))
    | ((with_reducible apply ev_lenS); (focus (walk_at "ev")))
    | ((with_reducible apply ev_lenN); (focus (walk_at "en")))
    | ((with_reducible apply ev_max2); (focus (walk_at "ev")); (focus (walk_at "ev")))
    | ((with_reducible apply ev_min2); (focus (walk_at "ev")); (focus (walk_at "ev")))
    | ((with_reducible apply ev_int1); (focus (walk_at "ev")))
    | ((with_reducible apply ev_tupleL); (focus (walk_at "ev")))
    | ((with_reducible apply ev_tupleN); (focus (walk_at "en")))
    | ((with_reducible apply ev_countT); (focus (walk_at "ev")); (focus (walk_at "ev")))
    | ((with_reducible apply ev_andV); (focus (walk_at "ev")); (focus (intro _; walk_at "ev")))
    | ((with_reducible apply ev_orV); (focus (walk_at "ev")); (focus (intro _; walk_at "ev")))
    | ((with_reducible apply ev_notV); (focus (walk_at "ev"))))
section
variable {P : Program} {w : World} {K : PySem.W.Frag} {mg : Str → Option Value} {base : Heap}
def spReadRow (K : PySem.W.Frag) (C CI : Addr) : Sp := fun vs H Q X => ∃ (n : Int) (ps : List (Int × Int)) (v1 : V) (z : Str), vs = [v1, .str z] ∧ CtAt K C H v1 (.t n ps) ∧ PairsOk n ps ∧ 0 ≤ n ∧ n ≤ 6 ∧ z.length ≤ 100000 ∧
  (∀ l v H', runR n ps z.cps.toList Rd.init 0 = .inr l → Same H H' → Td K H' v (row (leastL ps l)) → Q v H') ∧
  (∀ j dd H', runR n ps z.cps.toList Rd.init 0 = .inl j → Same H H' → H' dd = some (.xd [("place", .int (j : Nat))]) → X (.ref CI) (some dd) H')
theorem stepR_ok {n : Int} {ps : List (Int × Int)} {r r' : Rd} {c : Nat} (h : RdOk n r) (e : stepR n ps r c = some r') : RdOk n r' := by
  unfold stepR at e
  split at e
  · split at e
    · cases e
      exact ⟨h.f, h.b, h.s, h.l⟩
    · cases e
  · split at e
    · cases e
      exact ⟨h.f, h.s, ⟨Nat.zero_le _, fun x hx => by cases hx⟩, Nat.zero_le _⟩
    · split at e
      · cases e
      · rename_i hn
        cases e
        have hcan : canS n ps r.before r.step (letS 6 c) = true := by
          cases q : canS n ps r.before r.step (letS 6 c) with
          | true => rfl
          | false => exact absurd (.inr q) hn
        have hin := letS_in hcan
        have h20 : r.found.length < 20 := by
          have := h.f.1
          have : r.found.length ≠ 20 := fun y => hn (.inl y)
          omega
        have := h.l
        exact ⟨row_snoc h.f h20 hin.1 hin.2, h.b, row_snoc h.s (by omega) hin.1 hin.2, by simp only [List.length_append, List.length_singleton]; omega⟩
theorem run_ok {n : Int} {ps : List (Int × Int)} : ∀ (cs : List Nat) (r : Rd) (k : Nat) (l : List Int), RdOk n r → runR n ps cs r k = .inr l → rowOk n l
  | [], r, k, l, h, e => by
    unfold runR at e
    split at e
    · cases e
    · cases e
      exact h.f
  | c :: cs, r, k, l, h, e => by
    rw [run_cons] at e
    cases q : stepR n ps r c with
    | none => rw [q] at e; cases e
    | some r' =>
      rw [q] at e
      exact run_ok cs r' (k + 1) l (stepR_ok h q) e
theorem init_ok (n : Int) : RdOk n Rd.init := ⟨⟨Nat.zero_le _, fun x hx => by cases hx⟩, ⟨Nat.zero_le _, fun x hx => by cases hx⟩, ⟨Nat.zero_le _, fun x hx => by cases hx⟩, Nat.le_refl _⟩
theorem ok_read_row (E : Nv K mg) : FnOk P w K mg base (L2N.CX P w) 16 E.a_read_row E.d_read_row ["trade", "text"] (spReadRow K E.C_Trade E.C_InvalidText) := by
  refine fun_okN E.F_read_row sc_read_row (fun vs H Q X h => ?_) (fun cdv A outer s H vs Q X hr h => ?_)
  · obtain ⟨_, _, _, _, rfl, _⟩ := h
    rfl
  · obtain ⟨n, ps, v1, z, rfl, a1, hok, h0, h6, hz, k, kx⟩ := h
    refine ⟨_, (pss_cons (ps_expr (pe_call (ok_check_trade E) (hr.mono (by first | decide | omega)) (by rfl) E.m_check_trade E.F_check_trade.kp E.b_check_trade .nil pass0 (pa_cons (pv 0) pa_nil)))
      (pss_cons (ps_set (i := 2) sc_read_row.nd rfl (.inl rfl) (pe_call (ok_bars_of E) (hr.mono (by first | decide | omega)) (by rfl) E.m_bars_of E.F_bars_of.kp E.b_bars_of .nil pass0 (pa_cons (pv 0) pa_nil)))
      (pss_one (ps_ret (pe_call (ok_least_of E) (hr.mono (by first | decide | omega)) (by rfl) E.m_least_of E.F_least_of.kp E.b_least_of .nil pass0 (pa_cons (pv 2) (pa_cons (pe_call (ok_read_letters E) (hr.mono (by first | decide | omega)) (by rfl) E.m_read_letters E.F_read_letters.kp E.b_read_letters .nil (L2N.passes_call (L2N.takes_of rfl rfl rfl rfl) (fun _ _ _ _ h => h)) (pa_cons (pv 2) (pa_cons (pv 1) pa_nil))) pa_nil))))))), ?_⟩
    have w0 : Wd K E.C_Trade [] [] H H _ [.t n ps, .d (.str z), .u] := Wd.start2 (N := N_read_row) (v2 := .str z) (c1 := .t n ps) (c2 := .d (.str z)) a1 (Td.str z)
    refine q_drop w0 (ev_call (by walk_at "ea") ⟨_, _, rfl, rfl⟩) fun H1 w1 => ?_
    refine q_asgN w1 (en_call (ea_cons (ev_var (i := 0) w1 rfl) ea_nil) ⟨n, ps, h0, h6, rfl, rfl⟩) fun pb σ2 H2 _ w2 => ?_
    have w2' : Wd K E.C_Trade [] [] H H2 σ2 [.t n ps, .d (.str z), .l pb (iL (barsL n ps))] := w2
    obtain ⟨v1', e1, a1'⟩ := w2'.get (i := 1) rfl
    obtain ⟨v2', e2, a2⟩ := w2'.get (i := 2) rfl
    obtain ⟨rfl, xs, hb, tb⟩ := id a2
    rw [Td.str_of a1'] at e1
    refine ⟨.ref pb, e2, .ref pb, e2, .str z, e1, n, ps, pb, xs, z, rfl, hb, tb, h0, h6, by omega, fun l v H3 er e3 tv => ?_, fun j dd H3 er e3 hx => kx j dd H3 er (w2'.fr0.trans e3) hx⟩
    have hl := run_ok _ _ _ _ (init_ok n) er
    refine ⟨[.n (iL (barsL n ps)), .c (.d (row l))], _, ⟨⟨pb, xs, rfl, e3 _ _ hb, TdAll.mono (.of e3) _ _ tb⟩, tv, True.intro⟩, ⟨n, ps, l, hok, h0, h6, hl.1, hl.2, rfl, rfl⟩, fun v' H4 e4 t4 => k l v' H4 er (w2'.fr0.trans (e3.trans e4)) t4⟩
end
end K1
set_option maxRecDepth 10000000
namespace K1
open PySem PySem.Spec PyProof.Rows L2 Pt
local macro_rules
  | `(tactic| walk_at "sz") => `(tactic| first
    | omega
    | decide
    | (simp; omega)
    | (simp [iL, row, pairsD]; omega))
  | `(tactic| walk_at "ea") => `(tactic| first
    | (with_reducible exact ea_nil)
    | ((with_reducible apply ea_consL); (focus (walk_at "ev")); (focus (walk_at "ea")))
    | ((with_reducible apply ea_consS); (focus (walk_at "ev")); (focus (walk_at "ea")))
    | ((with_reducible apply ea_cons); (focus (walk_at "ev")); (focus (walk_at "ea")))
    | ((with_reducible apply ea_consN); (focus (walk_at "en")); (focus (walk_at "ea"))))
  | `(tactic| walk_at "ed") => `(tactic| first
    | (with_reducible exact ed_nil)
    | ((with_reducible apply ed_cons); (focus (walk_at "ev")); (focus (walk_at "ed"))))
  | `(tactic| walk_at "en") => `(tactic| first
    | ((with_reducible apply en_lst); (focus (walk_at "ed")); (focus (simp)))
    | ((with_reducible apply en_listT); (focus (walk_at "ev")))
    | ((with_reducible apply en_addL); (focus (walk_at "ev")); (focus (walk_at "en")); (focus (walk_at "sz")))
    | ((with_reducible apply en_addN); (focus (walk_at "en")); (focus (walk_at "en")); (focus (walk_at "sz")))
    | ((with_reducible apply en_slL); (focus (walk_at "ev")); (focus (walk_at "eo")); (focus (walk_at "eo"))))
  | `(tactic| walk_at "eo") => `(tactic| first
    | (with_reducible exact eo_none)
    | ((with_reducible apply eo_some); (focus (walk_at "ev"))))
  | `(tactic| walk_at "et") => `(tactic| first
    | (with_reducible exact et_yes)
    | ((with_reducible apply et_test); (focus (walk_at "ev")))
    | ((with_reducible apply et_B); (focus (walk_at "ev")))
    | ((with_reducible apply et_truB); (focus (walk_at "ev")))
    | ((with_reducible apply et_truT); (focus (walk_at "ev")))
    | ((with_reducible apply et_not); (focus (walk_at "et")))
    | ((with_reducible apply et_and); (focus (walk_at "et")); (focus (intro _; walk_at "et")))
    | ((with_reducible apply et_or); (focus (walk_at "et")); (focus (intro _; walk_at "et"))))
  | `(tactic| walk_at "var") => `(tactic| first
    | ((with_reducible apply ev_varD); (focus (assumption)); (focus (rfl)))
    | ((with_reducible apply ev_varL); (focus (assumption)); (focus (rfl)))
    | ((with_reducible apply ev_varS); (focus (assumption)); (focus (rfl)))
    | ((with_reducible apply ev_varT); (focus (assumption)); (focus (rfl)))
    | ((with_reducible apply ev_varH); (focus (assumption)); (focus (rfl)))
    | ((with_reducible apply ev_varZ); (focus (assumption)); (focus (rfl))))
  | `(tactic| walk_at "ev") => `(tactic| first
    | walk_at "var"
    | (with_reducible exact ev_int)
    | (with_reducible exact ev_bl)
    | (with_reducible exact ev_str)
    | (with_reducible exact ev_non)
    | ((with_reducible apply ev_letters); (focus (walk_at "ev")))
    | ((with_reducible apply ev_pairs); (focus (walk_at "ev")))
    | ((with_reducible apply ev_addI); (focus (walk_at "ev")); (focus (walk_at "ev")))
    | ((with_reducible apply ev_addT); (focus (walk_at "ev")); (focus (walk_at "ev")); (focus (walk_at "sz")))
    | ((with_reducible apply ev_i0); (focus (walk_at "ev")); (focus (walk_at "ev")); (focus (first | exact fun _ => .int _ | exact fun _ => .bl _)))
    | ((with_reducible apply ev_iC); (focus (walk_at "ev")); (focus (walk_at "ev")); (focus (first | assumption | walk_at "cond")); (focus (exact fun _ => .int _)))
    | ((with_reducible apply ev_chain); (focus (walk_at "ev")); (focus (walk_at "ev")); (focus (walk_at "ev")))
    | ((with_reducible apply ev_eqI); (focus (walk_at "ev")); (focus (walk_at "ev")))
    | ((with_reducible apply ev_neI); (focus (walk_at "ev")); (focus (walk_at "ev")))
    | ((with_reducible apply ev_eqR); (focus (walk_at "ev")); (focus (walk_at "ev")))
    | ((with_reducible apply ev_neR); (focus (walk_at "ev")); (focus (walk_at "ev")))
    | ((with_reducible apply ev_isN); (focus (walk_at "ev")))
    | ((with_reducible apply ev_notN); (focus (walk_at "ev")))
    | ((with_reducible apply ev_in2); (focus (walk_at "ev")); (focus (walk_at "ev")); (focus (walk_at "ev")))
    | ((with_reducible apply ev_inP); (focus (walk_at "ev")); (focus (walk_at "ev")))
    | ((with_reducible apply ev_tup); (focus (walk_at "ed")); (focus (simp)))
    | ((with_reducible apply ev_lenT); (focus (walk_at "ev")))
    | ((with_reducible apply ev_lenL); (focus (walk_at "ev")))
    | ((with_reducible apply ev_lenS); (focus (walk_at "ev")))
    | ((with_reducible apply ev_lenN); (focus (walk_at "en")))
    | ((with_reducible apply ev_max2); (focus (walk_at "ev")); (focus (walk_at "ev")))
    | ((with_reducible apply ev_min2); (focus (walk_at "ev")); (focus (walk_at "ev")))
    | ((with_reducible apply ev_int1); (focus (walk_at "ev")))
    | ((with_reducible apply ev_tupleL); (focus (walk_at "ev")))
    | ((with_reducible apply ev_tupleN); (focus (walk_at "en")))
    | ((with_reducible apply ev_countT); (focus (walk_at "ev")); (focus (walk_at "ev")))
    | ((with_reducible apply ev_andV); (focus (walk_at "ev")); (focus (intro _; walk_at "ev")))
    | ((with_reducible apply ev_orV); (focus (walk_at "ev")); (focus (intro _; walk_at "ev")))
    | ((with_reducible apply ev_notV); (focus (walk_at "ev"))))
section
variable {P : Program} {w : World} {K : PySem.W.Frag} {mg : Str → Option Value} {base : Heap}
def noT (c : Ct) : Prop := (∃ d, c = .d d) ∨ ∃ p xs, c = .k p (.lst xs) []
inductive Wk where
  | letters
  | pairs
  | trade
  | row
  | number
  | long
  | size
  | modulus
  | facts
abbrev clsE (E : Nv K mg) : Wk → Addr
  | .letters => E.C_BadLetters
  | .pairs => E.C_BadPairs
  | .trade => E.C_BadTrade
  | .row => E.C_BadRow
  | .number => E.C_BadNumber
  | .long => E.C_TooLong
  | .size => E.C_BadLength
  | .modulus => E.C_BadModulus
  | .facts => E.C_BadFacts
def DIx (d : Option Addr) (H : Hp) : Prop := ∃ dd v, d = some dd ∧ H dd = some (.xd [("index", v)]) ∧ v = .int 1
def DOk : Wk → Option Addr → Hp → Prop
  | .pairs, d, H => DIx d H
  | .facts, d, H => DIx d H
  | _, d, _ => d = none
def spR (K : PySem.W.Frag) (C : Addr) (cl : Wk → Addr) (R : List Ct → Option Wk → Prop) : Sp := fun vs H Q X => ∃ cs o, ArgsC K C H vs cs ∧ R cs o ∧ (o = none → ∀ v H', Same H H' → Q v H') ∧ ∀ k, o = some k → ∀ d H', Same H H' → DOk k d H' → X (.ref (cl k)) d H'
theorem argsC_of {C : Addr} {H : Hp} : ∀ {vs : List V} {cs : List Ct}, Pt.Args K C H vs (cs.map .c) → ArgsC K C H vs cs
  | [], [], _ => True.intro
  | _ :: _, _ :: _, ⟨a, b⟩ => ⟨a, argsC_of b⟩
  | [], _ :: _, h => h.elim
  | _ :: _, [], h => h.elim
section
variable {C : Addr} {H H0 : Hp} {S : List Addr} {G : List (V × PyData)} {σ : L2.St} {Γ : List Ct} {D : Ends} {tz : TS} {ts : TA} {XE : XK} {cl : Wk → Addr} {R : List Ct → Option Wk → Prop} {cs : List Ct} {o : Option Wk}
theorem s_ckR (ha : EvA K C ts σ H (cs.map .c)) (hR : R cs o) (h1 : o = none → ∀ H1, Same H H1 → D.nx σ H1) (h2 : ∀ k, o = some k → ∀ d H1, Same H H1 → DOk k d H1 → XE (.ref (cl k)) d H1) : tDrop (tCall (spR K C cl R) [] XE ts) D σ H :=
  ha H (Same.refl H) _ fun vs H1 e1 a => ⟨cs, o, by rw [List.append_nil]; exact argsC_of a, hR, fun z v H2 e2 => h1 z H2 (e1.trans e2), fun k z d H2 e2 g => h2 k z d H2 (e1.trans e2) g⟩
theorem q_ckR (ha : EvA K C ts σ H (cs.map .c)) (hR : R cs o) (h1 : o = none → ∀ H1, Same H H1 → tz D σ H1) (h2 : ∀ k, o = some k → ∀ d H1, Same H H1 → DOk k d H1 → XE (.ref (cl k)) d H1) : tSeq (tDrop (tCall (spR K C cl R) [] XE ts)) tz D σ H := s_ckR (D := { D with nx := tz D }) ha hR h1 h2
theorem h_ckR (ha : EvA K C ts σ H (cs.map .c)) (hR : R cs o) (h1 : o ≠ none) (h2 : ∀ k, o = some k → ∀ d H1, Same H H1 → DOk k d H1 → XE (.ref (cl k)) d H1) : tHead (tDrop (tCall (spR K C cl R) [] XE ts)) D σ H := s_ckR (D := { D with nx := fun _ _ => False }) ha hR (fun z => absurd z h1) h2
end
theorem ev_noT (E : Nv K mg) {te : TE} {σ : L2.St} {H : Hp} {c : Ct} (h : EvC K E.C_Trade te σ H c) (hc : noT c) : EvC K E.C_Trade (tCB (rIsi K) (tCons te (tCons (tC (.ref E.C_Trade)) tNil))) σ H (.d (.bool false)) := fun H1 e1 Q q =>
  h H1 e1 _ fun v H2 e2 a => by
    have ty : ∃ T, TyX K H2 v (.type T) ∧ PySem.W.kitOne K (.type T) (.ref E.C_Trade) = some false := by
      rcases hc with ⟨d, rfl⟩ | ⟨p, xs, rfl⟩
      · refine ⟨tyName d, Td.ty a, ?_⟩
        cases d with
        | none => exact E.kt_NoneType
        | bool b => exact E.kt_bool
        | int k => exact E.kt_int
        | str z => exact E.kt_str
        | list z => exact E.kt_list
        | tuple z => exact E.ic.nt
        | dict z => cases (show Td K H2 v (.dict z) from a)
      · obtain ⟨rfl, ⟨o, ho⟩, _⟩ := id a
        exact ⟨"list", .base (.frz ho), E.kt_list⟩
    obtain ⟨T, t1, t2⟩ := ty
    exact ⟨v, .ref E.C_Trade, _, _, false, rfl, .own E.C_Trade, t1, t2, q _ H2 e2 (.bl false)⟩
def isRowD (n : Int) : PyData → Bool
  | .tuple ds => !decide (20 < (ds.length : Int)) && ds.all fun x => isWhole x 0 (n - 1)
  | _ => false
def szD (m : Nat) : PyData → Prop
  | .tuple ds => ds.length ≤ m
  | _ => True
theorem tuple_or (x : PyData) : (∃ ds, x = .tuple ds) ∨ kitB (tyName x) "tuple" = some false := by
  cases x with
  | tuple z => exact .inl ⟨z, rfl⟩
  | none => exact .inr (by show kitB "NoneType" "tuple" = _; decide +kernel)
  | bool b => exact .inr (by show kitB "bool" "tuple" = _; decide +kernel)
  | int k => exact .inr (by show kitB "int" "tuple" = _; decide +kernel)
  | str z => exact .inr (by show kitB "str" "tuple" = _; decide +kernel)
  | list z => exact .inr (by show kitB "list" "tuple" = _; decide +kernel)
  | dict z => exact .inr (by show kitB "dict" "tuple" = _; decide +kernel)
theorem kit_ntup {x : PyData} (h : kitB (tyName x) "tuple" = some false) : ∀ ds, x ≠ .tuple ds := fun ds e => by
  subst e
  have : kitB "tuple" "tuple" = some true := by decide +kernel
  rw [show kitB (tyName (.tuple ds)) "tuple" = some true from this] at h
  cases h
abbrev A_is_rowW (as : List Ag) (d : PyData) : Prop := ∃ (n : Int) (x : PyData), szD 1000 x ∧ as = [.c (.d (.int n)), .c (.d x)] ∧ d = .bool (isRowD n x)
theorem ok_is_rowW (E : Nv K mg) : FnOk P w K mg base CX0 10 E.a_is_row E.d_is_row ["letters", "value"] (spC K E.C_Trade A_is_rowW) := by
  refine E.F_is_row.ok sc_is_row (fun vs H Q _ h => ?_) (fun cdv A outer s H vs Q _ hr h => ?_)
  · obtain ⟨as, d, ha, ⟨_, _, _, rfl, _⟩, _⟩ := h
    exact ha.length
  · obtain ⟨as, d, ha, ⟨n, x, hx, rfl, rfl⟩, q⟩ := h
    obtain ⟨v1, v2, rfl, a1, a2⟩ := ha.two
    refine ⟨_, (pss_cons (ps_if (PW.pt (pw_or (pt_not (pt_truK K (pe_callB (call_isiK K) (by rfl) E.n_isinstance (by decide +kernel) (pa_cons (pv 1) (pa_cons (pe_bltn (v := .ty "tuple") (by rfl) E.n_tuple (by decide +kernel) rfl) pa_nil))) (fun _ => rfl))) (pw_or1 (pt_cmpR (op_gt) (pe_callB (call_lenK K) (by rfl) E.n_len (by decide +kernel) (pa_cons (pv 1) pa_nil)) (pe_glob (v := .int 20) (by rfl) E.c_MOST_IN_ROW ⟨_, rfl⟩) (nomark _))))) (pss_one (ps_ret pe_bl)) pss_nil)
      (pss_one (ps_ret (pe_callB (call_allK K rfl) (by rfl) E.n_all (by decide +kernel) (pa_cons (pe_lc (own := [("letter", 2)]) (g := gName 2) (by rfl) sc_is_row.nd (pi_tupK K (pv 1)) (blkOk_by (own := [("letter", 2)]) (N := N_is_row) (sc := defScope s_is_row) (by decide +kernel)) (fun _ _ _ _ _ => (pg_name (i := 2) sc_is_row.nd rfl (Or.inl rfl))) (fun _ _ _ _ _ => pts_nil) (fun _ _ _ _ _ => (pe_call (ok_is_letter E) (hr.mono (by first | decide | omega)) (by rfl) E.m_is_letter E.F_is_letter.kp E.b_is_letter .nil pass0 (pa_cons (pv 0) (pa_cons (pv 2) pa_nil))))) pa_nil))))), ?_⟩
    have w : Wd K E.C_Trade [] [] H H _ [.d (.int n), .d x, .u] := Wd.start2 (N := N_is_row) a1 a2
    rcases tuple_or x with ⟨ds, rfl⟩ | hk
    · have hx : ds.length ≤ 1000 := hx
      refine s_when w (b := decide (20 < (ds.length : Int))) (et_cast (et_or (et_not (et_truB (ev_isiT (b := true) (ev_var (i := 1) w rfl) (by decide +kernel)))) (fun _ => et_test (ev_i0 (ev_lenT (ev_var (i := 1) w rfl)) ev_int (fun _ => .bl _)))) rfl) (fun e H1 w1 => ?_) (fun e H1 w1 => ?_)
      · refine s_retQ w1 q (ev_d ev_bl ?_)
        show PyData.bool false = .bool (!decide (20 < (ds.length : Int)) && ds.all fun x => isWhole x 0 (n - 1))
        rw [e]
        rfl
      · have w1' : Wd K E.C_Trade [] [] H H1 (L2.start N_is_row [v1, v2]) [.d (.int n), .d (.tuple (ds.map id)), .u] := by rw [List.map_id]; exact w1
        refine s_retQ w1' q (ev_d (ev_allK (f := fun x => isWhole x 0 (n - 1)) (l := ds) (en_lcT (j := 2) (l := ds) (mk := id) w1' (ev_var (i := 1) w1' rfl) (fun _ => true) _ (by omega) (fun x _ σ1 H1 w1 => et_yes) (fun x _ σ1 H1 w1 _ => ev_call (ea_cons (ev_var (i := 0) w1 rfl) (ea_cons (ev_var (c := .d x) (i := 2) w1 rfl) ea_nil)) ⟨_, _, rfl, rfl⟩))) ?_)
        show _ = PyData.bool (!decide (20 < (ds.length : Int)) && ds.all fun x => isWhole x 0 (n - 1))
        rw [e]
        rfl
    · refine s_when w (b := true) (et_cast (et_or (b := false) (et_not (et_truB (ev_isi (ev_var (i := 1) w rfl) hk))) (fun z => nomatch z)) rfl) (fun e H1 w1 => ?_) (fun e => nomatch e)
      refine s_retQ w1 q (ev_d ev_bl ?_)
      have := kit_ntup hk
      unfold isRowD
      split
      · rename_i ds
        exact absurd rfl (this ds)
      · rfl
def R_tradeX (cs : List Ct) (o : Option Wk) : Prop := (∃ n ps, cs = [.t n ps] ∧ o = none) ∨ ∃ c, noT c ∧ cs = [c] ∧ o = some .trade
theorem ok_check_tradeW (E : Nv K mg) : FnOk P w K mg base (L2N.CX P w) 12 E.a_check_trade E.d_check_trade ["trade"] (spR K E.C_Trade (clsE E) R_tradeX) := by
  refine fun_okN E.F_check_trade sc_check_trade (fun vs H Q X h => ?_) (fun cdv A outer s H vs Q X hr h => ?_)
  · obtain ⟨cs, o, ha, hR, _⟩ := h
    rcases hR with ⟨_, _, rfl, _⟩ | ⟨_, _, rfl, _⟩ <;> exact ha.length
  · obtain ⟨cs, o, ha, hR, q, x⟩ := h
    refine ⟨_, (pss_one (ps_if (pt_not (pt_truK K (pe_callB (call_isiK K) (by rfl) E.n_isinstance (by decide +kernel) (pa_cons (pv 0) (pa_cons (pe_glob (v := .ref E.C_Trade) (by rfl) E.m_Trade rfl) pa_nil))) (fun _ => rfl))) (pss_one (L2N.ps_raise rfl (L2N.takes_of rfl rfl rfl rfl) (pmk_ox0N E.x_BadTrade.T E.x_BadTrade.iC E.x_BadTrade.tI (ok_TradeError___init__ E) (hr.mono (by first | decide | omega)) E.b_TradeError___init__ pass0 (by rfl) E.m_BadTrade))) pss_nil)), ?_⟩
    rcases hR with ⟨n, ps, rfl, rfl⟩ | ⟨c, hc, rfl, rfl⟩
    · obtain ⟨v1, rfl⟩ : ∃ v1, vs = [v1] := by match vs, ha with | [v], _ => exact ⟨v, rfl⟩
      have w : Wd K E.C_Trade [] [] H H _ [.t n ps] := Wd.start1 (N := N_check_trade) ha.1
      refine s_if w (b := false) (et_cast (et_not (et_truB (ev_isiTr E.ic (ev_var w rfl)))) rfl) (fun z => by cases z) (fun _ H1 w1 => ?_)
      exact s_next (q rfl .non H1 w1.fr0)
    · obtain ⟨v1, rfl⟩ : ∃ v1, vs = [v1] := by match vs, ha with | [v], _ => exact ⟨v, rfl⟩
      have oc : c.own = false := by rcases hc with ⟨d, rfl⟩ | ⟨p, xs, rfl⟩ <;> rfl
      have nu : c ≠ .u := by rcases hc with ⟨d, rfl⟩ | ⟨p, xs, rfl⟩ <;> exact fun z => nomatch z
      have w : Wd K E.C_Trade [] [] H H _ [c] := Wd.start (cs := [c]) (N := N_check_trade) (vs := [v1]) ha (by show (!c.own && true) = true; rw [oc]; rfl) (hl := Nat.le_of_ble_eq_true rfl)
      refine s_if w (b := true) (et_cast (et_not (et_truB (ev_noT E (ev_var (i := 0) w rfl nu) hc))) rfl) (fun _ H1 w1 => ?_) (fun z => by cases z)
      exact x .trade rfl none H1 w1.fr0 rfl
def R_rowX (cs : List Ct) (o : Option Wk) : Prop := ∃ n ps x, szD 1000 x ∧ cs = [.t n ps, .d x] ∧ o = if isRowD n x = true then none else some .row
theorem ok_check_rowW (E : Nv K mg) : FnOk P w K mg base (L2N.CX P w) 14 E.a_check_row E.d_check_row ["trade", "row"] (spR K E.C_Trade (clsE E) R_rowX) := by
  refine fun_okN E.F_check_row sc_check_row (fun vs H Q X h => ?_) (fun cdv A outer s H vs Q X hr h => ?_)
  · obtain ⟨cs, o, ha, ⟨_, _, _, _, rfl, _⟩, _⟩ := h
    exact ha.length
  · obtain ⟨cs, o, ha, ⟨n, ps, d, hd, rfl, rfl⟩, q, x⟩ := h
    obtain ⟨v1, v2, rfl⟩ : ∃ v1 v2, vs = [v1, v2] := by match vs, ha with | [a, b], _ => exact ⟨a, b, rfl⟩
    refine ⟨_, (pss_one (ps_if (pt_not (pt_truK K (pe_call (ok_is_rowW E) (hr.mono (by first | decide | omega)) (by rfl) E.m_is_row E.F_is_row.kp E.b_is_row .nil pass0 (pa_cons (pe_prop (pv 0) E.cl E.p_letters (ok_Trade_letters E) (hr.mono (by first | decide | omega)) E.b_Trade_letters .nil pass0 rfl) (pa_cons (pv 1) pa_nil))) (fun _ => rfl))) (pss_one (L2N.ps_raise rfl (L2N.takes_of rfl rfl rfl rfl) (pmk_ox0N E.x_BadRow.T E.x_BadRow.iC E.x_BadRow.tI (ok_TradeError___init__ E) (hr.mono (by first | decide | omega)) E.b_TradeError___init__ pass0 (by rfl) E.m_BadRow))) pss_nil)), ?_⟩
    have w : Wd K E.C_Trade [] [] H H _ [.t n ps, .d d] := Wd.start (cs := [.t n ps, .d d]) (N := N_check_row) (vs := [v1, v2]) ha (hl := Nat.le_of_ble_eq_true rfl)
    refine s_if w (b := !isRowD n d) (et_not (et_truB (ev_call (ea_cons (ev_letters (ev_var (i := 0) w rfl)) (ea_cons (ev_var (i := 1) w rfl) ea_nil)) ⟨n, d, hd, rfl, rfl⟩))) (fun e H1 w1 => ?_) (fun e H1 w1 => ?_)
    · exact x .row (by rw [if_neg (by simpa using e)]) none H1 w1.fr0 rfl
    · exact s_next (q (by rw [if_pos (by simpa using e)]) .non H1 w1.fr0)
end
end K1
set_option maxRecDepth 10000000
namespace K1
open PySem PySem.Spec PyProof.Rows L2 Pt
local macro_rules
  | `(tactic| walk_at "sz") => `(tactic| first
    | omega
    | decide
    | (simp; omega)
    | (simp [iL, row, pairsD]; omega))
  | `(tactic| walk_at "ea") => `(tactic| first
    | (with_reducible exact ea_nil)
    | ((with_reducible apply ea_consL); (focus (walk_at "ev")); (focus (walk_at "ea")))
    | ((with_reducible apply ea_consS); (focus (walk_at "ev")); (focus (walk_at "ea")))
    | ((with_reducible apply ea_cons); (focus (walk_at "ev")); (focus (walk_at "ea")))
    | ((with_reducible apply ea_consN); (focus (walk_at "en")); (focus (walk_at "ea"))))
  | `(tactic| walk_at "ed") => `(tactic| first
    | (with_reducible exact ed_nil)
    | ((with_reducible apply ed_cons); (focus (walk_at "ev")); (focus (walk_at "ed"))))
  | `(tactic| walk_at "en") => `(tactic| first
    | ((with_reducible apply en_lst); (focus (walk_at "ed")); (focus (simp)))
    | ((with_reducible apply en_listT); (focus (walk_at "ev")))
    | ((with_reducible apply en_addL); (focus (walk_at "ev")); (focus (walk_at "en")); (focus (walk_at "sz")))
    | ((with_reducible apply en_addN); (focus (walk_at "en")); (focus (walk_at "en")); (focus (walk_at "sz")))
    | ((with_reducible apply en_slL); (focus (walk_at "ev")); (focus (walk_at "eo")); (focus (walk_at "eo"))))
  | `(tactic| walk_at "eo") => `(tactic| first
    | (with_reducible exact eo_none)
    | ((with_reducible apply eo_some); (focus (walk_at "ev"))))
  | `(tactic| walk_at "et") => `(tactic| first
    | (with_reducible exact et_yes)
    | ((with_reducible apply et_test); (focus (walk_at "ev")))
    | ((with_reducible apply et_B); (focus (walk_at "ev")))
    | ((with_reducible apply et_truB); (focus (walk_at "ev")))
    | ((with_reducible apply et_truT); (focus (walk_at "ev")))
    | ((with_reducible apply et_not); (focus (walk_at "et")))
    | ((with_reducible apply et_and); (focus (walk_at "et")); (focus (intro _; walk_at "et")))
    | ((with_reducible apply et_or); (focus (walk_at "et")); (focus (intro _; walk_at "et"))))
  | `(tactic| walk_at "var") => `(tactic| first
    | ((with_reducible apply ev_varD); (focus (assumption)); (focus (rfl)))
    | ((with_reducible apply ev_varL); (focus (assumption)); (focus (rfl)))
    | ((with_reducible apply ev_varS); (focus (assumption)); (focus (rfl)))
    | ((with_reducible apply ev_varT); (focus (assumption)); (focus (rfl)))
    | ((with_reducible apply ev_varH); (focus (assumption)); (focus (rfl)))
    | ((with_reducible apply ev_varZ); (focus (assumption)); (focus (rfl))))
  | `(tactic| walk_at "ev") => `(tactic| first
    | walk_at "var"
    | (with_reducible exact ev_int)
    | (with_reducible exact ev_bl)
    | (with_reducible exact ev_str)
    | (with_reducible exact ev_non)
    | ((with_reducible apply ev_letters); (focus (walk_at "ev")))
    | ((with_reducible apply ev_pairs); (focus (walk_at "ev")))
    | ((with_reducible apply ev_addI); (focus (walk_at "ev")); (focus (walk_at "ev")))
    | ((with_reducible apply ev_addT); (focus (walk_at "ev")); (focus (walk_at "ev")); (focus (walk_at "sz")))
    | ((with_reducible apply ev_i0); (focus (walk_at "ev")); (focus (walk_at "ev")); (focus (first | exact fun _ => .int _ | exact fun _ => .bl _)))
    | ((with_reducible apply ev_iC); (focus (walk_at "ev")); (focus (walk_at "ev")); (focus (first | assumption | walk_at "cond")); (focus (exact fun _ => .int _)))
    | ((with_reducible apply ev_chain); (focus (walk_at "ev")); (focus (walk_at "ev")); (focus (walk_at "ev")))
    | ((with_reducible apply ev_eqI); (focus (walk_at "ev")); (focus (walk_at "ev")))
    | ((with_reducible apply ev_neI); (focus (walk_at "ev")); (focus (walk_at "ev")))
    | ((with_reducible apply ev_eqR); (focus (walk_at "ev")); (focus (walk_at "ev")))
    | ((with_reducible apply ev_neR); (focus (walk_at "ev")); (focus (walk_at "ev")))
    | ((with_reducible apply ev_isN); (focus (walk_at "ev")))
    | ((with_reducible apply ev_notN); (focus (walk_at "ev")))
    | ((with_reducible apply ev_in2); (focus (walk_at "ev")); (focus (walk_at "ev")); (focus (walk_at "ev")))
    | ((with_reducible apply ev_inP); (focus (walk_at "ev")); (focus (walk_at "ev")))
    | ((with_reducible apply ev_tup); (focus (walk_at "ed")); (focus (simp)))
    | ((with_reducible apply ev_lenT); (focus (walk_at "ev")))
    | ((with_reducible apply ev_lenL); (focus (walk_at "ev")))
    | ((with_reducible apply ev_lenS); (focus (walk_at "ev")))
    | ((with_reducible apply ev_lenN); (focus (walk_at "en")))
    | ((with_reducible apply ev_max2); (focus (walk_at "ev")); (focus (walk_at "ev")))
    | ((with_reducible apply ev_min2); (focus (walk_at "ev")); (focus (walk_at "ev")))
    | ((with_reducible apply ev_int1); (focus (walk_at "ev")))
    | ((with_reducible apply ev_tupleL); (focus (walk_at "ev")))
    | ((with_reducible apply ev_tupleN); (focus (walk_at "en")))
    | ((with_reducible apply ev_countT); (focus (walk_at "ev")); (focus (walk_at "ev")))
    | ((with_reducible apply ev_andV); (focus (walk_at "ev")); (focus (intro _; walk_at "ev")))
    | ((with_reducible apply ev_orV); (focus (walk_at "ev")); (focus (intro _; walk_at "ev")))
    | ((with_reducible apply ev_notV); (focus (walk_at "ev"))))
section
variable {P : Program} {w : World} {K : PySem.W.Frag} {mg : Str → Option Value} {base : Heap}
def spIndex (K : PySem.W.Frag) (C : Addr) : Sp := fun vs H Q _ => ∃ a y, vs = [.ref a, y] ∧ H a = some (exo a C none) ∧ ∀ dx, H dx = none → dx ≠ a → Q .non (L2.upd (L2.upd H dx (exd dx [("index", y)])) a (exo a C (some dx)))
theorem ok_BadPairs___init__ (E : Nv K mg) : FnOk P w K mg base CX0 1 E.a_BadPairs___init__ E.d_BadPairs___init__ ["self", "index"] (spIndex K E.C_BadPairs) := by
  refine E.F_BadPairs___init__.ok sc_BadPairs___init__ (fun vs H Q _ h => ?_) (fun cdv A outer s H vs Q _ hr h => ?_)
  · obtain ⟨_, _, rfl, _⟩ := h
    rfl
  · obtain ⟨a, y, rfl, ha, k⟩ := h
    refine ⟨_, (pss_one (ps_ost (pv 0) (pv 1) rfl)), ?_⟩
    exact ⟨y, rfl, .ref a, rfl, a, E.C_BadPairs, rfl, E.x_BadPairs.T, E.no_index_BadPairs, .inl ⟨ha, fun dx n ne => k dx n ne⟩⟩
theorem ok_BadFacts___init__ (E : Nv K mg) : FnOk P w K mg base CX0 1 E.a_BadFacts___init__ E.d_BadFacts___init__ ["self", "index"] (spIndex K E.C_BadFacts) := by
  refine E.F_BadFacts___init__.ok sc_BadFacts___init__ (fun vs H Q _ h => ?_) (fun cdv A outer s H vs Q _ hr h => ?_)
  · obtain ⟨_, _, rfl, _⟩ := h
    rfl
  · obtain ⟨a, y, rfl, ha, k⟩ := h
    refine ⟨_, (pss_one (ps_ost (pv 0) (pv 1) rfl)), ?_⟩
    exact ⟨y, rfl, .ref a, rfl, a, E.C_BadFacts, rfl, E.x_BadFacts.T, E.no_index_BadFacts, .inl ⟨ha, fun dx n ne => k dx n ne⟩⟩
theorem ex_index {C CX : Addr} {te : TE} {σ : L2.St} {H : Hp} {x : PyData} (h : EvC K C te σ H (.d x)) (hx : x = .int 1) {X : XK} (k : ∀ d H', Same H H' → DIx d H' → X (.ref CX) d H') : tMkO CX (spIndex K CX) [] (tCons te tNil) σ H X :=
  h H (Same.refl H) _ fun v H1 e1 a1 => ⟨by show 1 ≤ 1000; decide, fun a na => ⟨a, v, rfl, upd_same, fun dx nx ne => by
    refine ⟨rfl, dx, [("index", v)], upd_same, by rw [upd_ne ne, upd_same], by rw [upd_ne ne] at nx; exact nx, ?_⟩
    refine k (some dx) _ (fun b o hb => ?_) ⟨dx, v, rfl, upd_same, ?_⟩
    · have h1 := e1 b o hb
      have hba : b ≠ a := fun z => by rw [z, na] at h1; cases h1
      have hbx : b ≠ dx := fun z => by rw [upd_ne ne] at nx; rw [z, nx] at h1; cases h1
      rw [upd_ne hbx]
      unfold del
      rw [if_neg hba, upd_ne hba, upd_ne hbx, upd_ne hba]
      exact h1
    · subst hx
      exact Td.int_of a1⟩⟩
def R_turning (cs : List Ct) (o : Option Wk) : Prop := ∃ l : List Int, l.length ≤ 1000 ∧ cs = [.d (Pt.row l)] ∧ o = if 8 < l.length then some .long else none
theorem ok_check_turningW (E : Nv K mg) : FnOk P w K mg base (L2N.CX P w) 10 E.a_check_turning E.d_check_turning ["row"] (spR K E.C_Trade (clsE E) R_turning) := by
  refine fun_okN E.F_check_turning sc_check_turning (fun vs H Q X h => ?_) (fun cdv A outer s H vs Q X hr h => ?_)
  · obtain ⟨cs, o, ha, ⟨_, _, rfl, _⟩, _⟩ := h
    exact ha.length
  · obtain ⟨cs, o, ha, ⟨l, hl, rfl, rfl⟩, q, x⟩ := h
    obtain ⟨v1, rfl⟩ : ∃ v1, vs = [v1] := by match vs, ha with | [v], _ => exact ⟨v, rfl⟩
    refine ⟨_, (pss_one (ps_if (pt_cmpR (op_gt) (pe_callB (call_lenK K) (by rfl) E.n_len (by decide +kernel) (pa_cons (pv 0) pa_nil)) (pe_glob (v := .int 8) (by rfl) E.c_MOST_TO_TURN ⟨_, rfl⟩) (nomark _)) (pss_one (L2N.ps_raise rfl (L2N.takes_of rfl rfl rfl rfl) (pmk_ox0N E.x_TooLong.T E.x_TooLong.iC E.x_TooLong.tI (ok_TradeError___init__ E) (hr.mono (by first | decide | omega)) E.b_TradeError___init__ pass0 (by rfl) E.m_TooLong))) pss_nil)), ?_⟩
    have w : Wd K E.C_Trade [] [] H H _ [.d (Pt.row l)] := Wd.start1 (N := N_check_turning) ha.1
    refine s_if w (b := decide (8 < l.length)) (et_cast (et_test (ev_i0 (ev_lenT (ev_var (i := 0) w rfl)) ev_int (fun _ => .bl _))) (decide_eq_decide.mpr (by rw [iL_len]; omega))) (fun e H1 w1 => ?_) (fun e H1 w1 => ?_)
    · exact x .long (if_pos (of_decide_eq_true e)) none H1 w1.fr0 rfl
    · exact s_next (q (if_neg (of_decide_eq_false e)) .non H1 w1.fr0)
def ltD : PyData → PyData → Bool
  | .int a, .int b => decide (a < b)
  | _, _ => false
def isPairD (n : Int) : PyData → Bool
  | .tuple [a, b] => (isWhole a 0 (n - 1) && isWhole b 0 (n - 1)) && ltD a b
  | _ => false
theorem isPair_len {n : Int} {ds : List PyData} (h : ds.length ≠ 2) : isPairD n (.tuple ds) = false := by
  unfold isPairD
  split
  · rename_i a b e
    injection e with e
    subst e
    exact absurd rfl h
  · rfl
theorem whole_int {x : PyData} {lo hi : Int} (h : isWhole x lo hi = true) : ∃ k, x = .int k ∧ lo ≤ k ∧ k ≤ hi := by
  cases x with
  | int k => exact ⟨k, rfl, by simpa [isWhole] using h⟩
  | none => cases h
  | bool b => cases h
  | str z => cases h
  | list z => cases h
  | tuple z => cases h
  | dict z => cases h
abbrev A_is_pairW (as : List Ag) (d : PyData) : Prop := ∃ (n : Int) (x : PyData), szD 1000 x ∧ as = [.c (.d (.int n)), .c (.d x)] ∧ d = .bool (isPairD n x)
theorem ok_is_pairW (E : Nv K mg) : FnOk P w K mg base CX0 12 E.a_is_pair E.d_is_pair ["letters", "value"] (spC K E.C_Trade A_is_pairW) := by
  refine E.F_is_pair.ok sc_is_pair (fun vs H Q _ h => ?_) (fun cdv A outer s H vs Q _ hr h => ?_)
  · obtain ⟨as, d, ha, ⟨_, _, _, rfl, _⟩, _⟩ := h
    exact ha.length
  · obtain ⟨as, d, ha, ⟨n, x, hx, rfl, rfl⟩, q⟩ := h
    obtain ⟨v1, v2, rfl, a1, a2⟩ := ha.two
    refine ⟨_, (pss_cons (ps_if (PW.pt (pw_or (pt_not (pt_truK K (pe_callB (call_isiK K) (by rfl) E.n_isinstance (by decide +kernel) (pa_cons (pv 1) (pa_cons (pe_bltn (v := .ty "tuple") (by rfl) E.n_tuple (by decide +kernel) rfl) pa_nil))) (fun _ => rfl))) (pw_or1 (pt_cmpR (op_neK K hr.units) (pe_callB (call_lenK K) (by rfl) E.n_len (by decide +kernel) (pa_cons (pv 1) pa_nil)) pe_int (nomark _))))) (pss_one (ps_ret pe_bl)) pss_nil)
      (pss_cons (ps_if (pt_not (pt_truK K (pe_callB (call_allK K rfl) (by rfl) E.n_all (by decide +kernel) (pa_cons (pe_lc (own := [("letter", 2)]) (g := gName 2) (by rfl) sc_is_pair.nd (pi_tupK K (pv 1)) (blkOk_by (own := [("letter", 2)]) (N := N_is_pair) (sc := defScope s_is_pair) (by decide +kernel)) (fun _ _ _ _ _ => (pg_name (i := 2) sc_is_pair.nd rfl (Or.inl rfl))) (fun _ _ _ _ _ => pts_nil) (fun _ _ _ _ _ => (pe_call (ok_is_letter E) (hr.mono (by first | decide | omega)) (by rfl) E.m_is_letter E.F_is_letter.kp E.b_is_letter .nil pass0 (pa_cons (pv 0) (pa_cons (pv 2) pa_nil))))) pa_nil)) (fun _ => rfl))) (pss_one (ps_ret pe_bl)) pss_nil)
      (pss_one (ps_ret (pe_cmpR (op_lt) (pe_ix (ix_K K) (pv 1) pe_int (fun _ _ => rfl)) (pe_ix (ix_K K) (pv 1) pe_int (fun _ _ => rfl)) (nomark _)))))), ?_⟩
    have w : Wd K E.C_Trade [] [] H H _ [.d (.int n), .d x, .u] := Wd.start2 (N := N_is_pair) a1 a2
    rcases tuple_or x with ⟨ds, rfl⟩ | hk
    · have hx : ds.length ≤ 1000 := hx
      refine s_when w (b := !decide ((ds.length : Int) = 2)) (et_cast (et_or (et_not (et_truB (ev_isiT (b := true) (ev_var (i := 1) w rfl) (by decide +kernel)))) (fun _ => et_test (ev_neI (ev_lenT (ev_var (i := 1) w rfl)) ev_int))) rfl) (fun e H1 w1 => ?_) (fun e H1 w1 => ?_)
      · refine s_retQ w1 q (ev_d ev_bl ?_)
        rw [isPair_len (fun z => by rw [z] at e; simp at e)]
      · have e : ds.length = 2 := by
          simp at e
          omega
        match ds, e with
        | [a, b], _ =>
          have w1' : Wd K E.C_Trade [] [] H H1 (L2.start N_is_pair [v1, v2]) [.d (.int n), .d (.tuple ([a, b].map id)), .u] := w1
          refine s_when w1' (b := ![a, b].all fun x => isWhole x 0 (n - 1)) (et_not (et_truB (ev_allK (f := fun x => isWhole x 0 (n - 1)) (l := [a, b]) (en_lcT (j := 2) (l := [a, b]) (mk := id) w1' (ev_var (i := 1) w1' rfl) (fun _ => true) _ (by simp) (fun x _ σ1 H1 w1 => et_yes) (fun x _ σ1 H1 w1 _ => ev_call (ea_cons (ev_var (i := 0) w1 rfl) (ea_cons (ev_var (c := .d x) (i := 2) w1 rfl) ea_nil)) ⟨_, _, rfl, rfl⟩))))) (fun e2 H2 w2 => ?_) (fun e2 H2 w2 => ?_)
          · refine s_retQ w2 q (ev_d ev_bl ?_)
            have e3 : ([a, b].all fun x => isWhole x 0 (n - 1)) = false := by
              cases q : ([a, b].all fun x => isWhole x 0 (n - 1)) with
              | true => rw [q] at e2; cases e2
              | false => rfl
            show PyData.bool false = .bool ((isWhole a 0 (n - 1) && isWhole b 0 (n - 1)) && ltD a b)
            have e4 : (isWhole a 0 (n - 1) && isWhole b 0 (n - 1)) = false := by
              rw [← e3]
              simp [List.all_cons]
            rw [e4]
            rfl
          · have e3 : ([a, b].all fun x => isWhole x 0 (n - 1)) = true := by
              cases q : ([a, b].all fun x => isWhole x 0 (n - 1)) with
              | true => rfl
              | false => rw [q] at e2; cases e2
            have ea := List.all_eq_true.mp e3 a (by simp)
            have eb := List.all_eq_true.mp e3 b (by simp)
            obtain ⟨i, rfl, _⟩ := whole_int ea
            obtain ⟨j, rfl, _⟩ := whole_int eb
            refine s_retQ w2 q (ev_d (ev_i0 (k := i) (j := j) (d := .bool (decide (i < j))) (ev_ixT (ev_var (i := 1) w2 rfl) ev_int (show L2.atI [PyData.int i, PyData.int j] ((0 : Nat) : Int) = some (.int i) from atI_nat rfl)) (ev_ixT (ev_var (i := 1) w2 rfl) ev_int (show L2.atI [PyData.int i, PyData.int j] ((1 : Nat) : Int) = some (.int j) from atI_nat rfl)) (fun _ => .bl _)) ?_)
            show PyData.bool (decide (i < j)) = .bool ((isWhole (.int i) 0 (n - 1) && isWhole (.int j) 0 (n - 1)) && decide (i < j))
            rw [ea, eb]
            rfl
    · refine s_when w (b := true) (et_cast (et_or (b := false) (et_not (et_truB (ev_isi (ev_var (i := 1) w rfl) hk))) (fun z => nomatch z)) rfl) (fun e H1 w1 => ?_) (fun e => nomatch e)
      refine s_retQ w1 q (ev_d ev_bl ?_)
      have := kit_ntup hk
      unfold isPairD
      split
      · rename_i a b
        exact absurd rfl (this [a, b])
      · rfl
theorem ev_leSame {u : Int} {C : Addr} {H : Hp} {σ : L2.St} {ta tb : TE} (ha : EvC K C ta σ H (.d (Pt.row [0, u]))) (hb : EvC K C tb σ H (.d (Pt.row [0, u]))) : EvC K C (tOp (rLeT K) ta tb) σ H (.d (.bool true)) :=
  ev_op2 ha hb fun H1 _ x y a1 a2 Q k => by
    obtain ⟨a, xs, rfl, s, t⟩ := Td.tup_of a1
    obtain ⟨b, ys, rfl, s', t'⟩ := Td.tup_of a2
    rw [TdAll.iL_of t] at s
    rw [TdAll.iL_of t'] at s'
    exact ⟨a, b, [0, u], [0, u], rfl, rfl, s.sq, s'.sq, by
      have z : ∀ c : Bool, c = true → Q (.bl c) H1 := fun c e => e ▸ k (.bl true) H1 (Same.refl H1) (.bl true)
      exact z _ (by simp [Ob.lexAt])⟩
def badPs (n : Int) (x : PyData) : Prop := ∃ (u : Int) (y : PyData), x = .tuple [Pt.row [0, u], y] ∧ szD 1000 y ∧ isPairD n (Pt.row [0, u]) = true ∧ (isPairD n y = false ∨ y = Pt.row [0, u])
def R_pairs (cs : List Ct) (o : Option Wk) : Prop := ∃ (n : Int) (x : PyData), badPs n x ∧ cs = [.d (.int n), .d x] ∧ o = some .pairs
theorem ok_check_pairsW (E : Nv K mg) : FnOk P w K mg base (L2N.CX P w) 16 E.a_check_pairs E.d_check_pairs ["letters", "pairs"] (spR K E.C_Trade (clsE E) R_pairs) := by
  refine fun_okN E.F_check_pairs sc_check_pairs (fun vs H Q X h => ?_) (fun cdv A outer s H vs Q X hr h => ?_)
  · obtain ⟨cs, o, ha, ⟨_, _, _, rfl, _⟩, _⟩ := h
    exact ha.length
  · obtain ⟨cs, o, ha, ⟨n, x, hb, rfl, rfl⟩, q, xx⟩ := h
    obtain ⟨v1, v2, rfl⟩ : ∃ v1 v2, vs = [v1, v2] := by match vs, ha with | [a, b], _ => exact ⟨a, b, rfl⟩
    refine ⟨_, (pss_cons (ps_if (pt_not (pt_truK K (pe_callB (call_isiK K) (by rfl) E.n_isinstance (by decide +kernel) (pa_cons (pv 1) (pa_cons (pe_bltn (v := .ty "tuple") (by rfl) E.n_tuple (by decide +kernel) rfl) pa_nil))) (fun _ => rfl))) (pss_one (L2N.ps_raise rfl (L2N.takes_of rfl rfl rfl rfl) (pmk_oexN E.x_BadPairs.T E.x_BadPairs.iC E.x_BadPairs.tI (ok_BadPairs___init__ E) (hr.mono (by first | decide | omega)) E.b_BadPairs___init__ .nil pass0 (by rfl) E.m_BadPairs (pa_cons pe_non pa_nil)))) pss_nil)
      (pss_one (ps_for (passes_of rfl) rfl (pi_enumTK K (by rfl) E.n_enumerate (pa_cons (pv 1) pa_nil)) (pg_tupK K (n := 2) rfl (pgs_cons (pg_name (i := 2) sc_check_pairs.nd rfl (.inl rfl)) (pgs_cons (pg_name (i := 3) sc_check_pairs.nd rfl (.inl rfl)) pgs_nil)))
      (pss_cons (ps_if (pt_not (pt_truK K (pe_call (ok_is_pairW E) (hr.mono (by first | decide | omega)) (by rfl) E.m_is_pair E.F_is_pair.kp E.b_is_pair .nil pass0 (pa_cons (pv 0) (pa_cons (pv 3) pa_nil))) (fun _ => rfl))) (pss_one (L2N.ps_raise rfl (L2N.takes_of rfl rfl rfl rfl) (pmk_oexN E.x_BadPairs.T E.x_BadPairs.iC E.x_BadPairs.tI (ok_BadPairs___init__ E) (hr.mono (by first | decide | omega)) E.b_BadPairs___init__ .nil pass0 (by rfl) E.m_BadPairs (pa_cons (pv 2) pa_nil)))) pss_nil)
      (pss_one (ps_if (PW.pt (pw_and (pt_cmpR (op_gt) (pv 2) pe_int (nomark _)) (pw_and1 (pt_cmpR (op_leTK K hr.units0) (pv 3) (pe_ix (ix_K K) (pv 1) (pe_op op_sub (pv 2) pe_int) (fun _ _ => rfl)) (nomark _))))) (pss_one (L2N.ps_raise rfl (L2N.takes_of rfl rfl rfl rfl) (pmk_oexN E.x_BadPairs.T E.x_BadPairs.iC E.x_BadPairs.tI (ok_BadPairs___init__ E) (hr.mono (by first | decide | omega)) E.b_BadPairs___init__ .nil pass0 (by rfl) E.m_BadPairs (pa_cons (pv 2) pa_nil)))) pss_nil)))))), ?_⟩
    have w0 : Wd K E.C_Trade [] [] H H (L2.start N_check_pairs [v1, v2]) [.d (.int n), .d x, .u, .u] := Wd.start (cs := [.d (.int n), .d x]) (N := N_check_pairs) (vs := [v1, v2]) ha rfl (hl := Nat.le_of_ble_eq_true rfl)
    rcases hb with ⟨u, y, rfl, hy, hg, hb⟩
    · refine s_when w0 (b := false) (et_cast (et_not (et_truB (ev_isiT (b := true) (ev_var (i := 1) w0 rfl) (by decide +kernel)))) rfl) (fun z => nomatch z) (fun _ H1 w1 => ?_)
      refine s_forE w1 (ev_var (i := 1) w1 rfl) (fun a t σ H' => t ≤ 1 ∧ ∃ c2 c3, Wd K E.C_Trade [] [(.ref a, .tuple [Pt.row [0, u], y])] H H' σ [.d (.int n), .d (.tuple [Pt.row [0, u], y]), c2, c3]) (fun a H1 w1 => ⟨Nat.zero_le _, _, _, w1⟩) (fun a k σ' H' ⟨_, _, _, w1⟩ => w1.gh0) ?_ ?_
      · rintro a t d v σ' H' H3 hd tv ⟨ht, c2, c3, w2⟩ e3
        have w3 : Wd K E.C_Trade [] [(.ref a, .tuple [Pt.row [0, u], y])] H H3 _ [.d (.int n), .d (.tuple [Pt.row [0, u], y]), .d (.int (t : Nat)), .d d] := ((w2.mono e3).set 2 (v := .int (t : Nat)) (c := .d (.int (t : Nat))) (Td.int _)).set 3 tv
        rcases (by omega : t = 0 ∨ t = 1) with rfl | rfl
        · obtain rfl : Pt.row [0, u] = d := by simpa using hd
          refine s_when w3 (b := false) (et_cast (et_not (et_truB (ev_call (ea_cons (ev_var (i := 0) w3 rfl) (ea_cons (ev_var (i := 3) w3 rfl) ea_nil)) ⟨n, _, Nat.le_of_ble_eq_true rfl, rfl, rfl⟩))) (by rw [hg]; rfl)) (fun z => nomatch z) (fun _ H4 w4 => ?_)
          refine s_if w4 (b := false) (et_cast (et_and (a := false) (et_test (ev_d (ev_i0 (k := ((0 : Nat) : Int)) (j := 0) (d := .bool (decide ((0 : Int) < ((0 : Nat) : Int)))) (ev_var (i := 2) w4 rfl) ev_int (fun _ => .bl _)) rfl)) (b := false) fun z => nomatch z) rfl) (fun z => nomatch z) (fun _ H5 w5 => ?_)
          exact s_next ⟨Nat.le_refl _, _, _, w5⟩
        · obtain rfl : y = d := by simpa using hd
          rcases hb with hb | rfl
          · refine s_when w3 (b := true) (et_cast (et_not (et_truB (ev_call (ea_cons (ev_var (i := 0) w3 rfl) (ea_cons (ev_var (i := 3) w3 rfl) ea_nil)) ⟨n, _, hy, rfl, rfl⟩))) (by rw [hb]; rfl)) (fun _ H4 w4 => ?_) (fun z => nomatch z)
            exact ex_index (K := K) (C := E.C_Trade) (x := .int 1) (ev_var (i := 2) w4 rfl) rfl fun d H2 e2 g => xx .pairs rfl d H2 (w4.fr0.trans e2) g
          · refine s_when w3 (b := false) (et_cast (et_not (et_truB (ev_call (ea_cons (ev_var (i := 0) w3 rfl) (ea_cons (ev_var (i := 3) w3 rfl) ea_nil)) ⟨n, _, hy, rfl, rfl⟩))) (by rw [hg]; rfl)) (fun z => nomatch z) (fun _ H4 w4 => ?_)
            refine s_if w4 (b := true) (et_cast (et_and (a := true) (et_test (ev_d (ev_i0 (k := ((1 : Nat) : Int)) (j := 0) (d := .bool (decide ((0 : Int) < ((1 : Nat) : Int)))) (ev_var (i := 2) w4 rfl) ev_int (fun _ => .bl _)) rfl)) (b := true) fun _ => ?_) rfl) (fun _ H5 w5 => ?_) (fun z => nomatch z)
            · exact et_test (ev_leSame (ev_var (i := 3) w4 rfl) (ev_ixT (ev_var (i := 1) w4 rfl) (ev_i0 (k := ((1 : Nat) : Int)) (j := 1) (d := .int (((1 : Nat) : Int) - 1)) (ev_var (i := 2) w4 rfl) ev_int (fun _ => .int _)) (show L2.atI [Pt.row [0, u], Pt.row [0, u]] ((0 : Nat) : Int) = some (Pt.row [0, u]) from atI_nat rfl)))
            · exact ex_index (K := K) (C := E.C_Trade) (x := .int 1) (ev_var (i := 2) w5 rfl) rfl fun d H2 e2 g => xx .pairs rfl d H2 (w5.fr0.trans e2) g
      · rintro a σ' H' ⟨ht, _⟩
        have ht : 2 ≤ 1 := ht
        omega
def spInitB (K : PySem.W.Frag) (C : Addr) (cl : Wk → Addr) : Sp := fun vs H _ X => ∃ (p : Addr) (v1 v2 : V) (x y : PyData) (k : Wk), vs = [.ref p, v1, v2] ∧ Td K H v1 x ∧ Td K H v2 y ∧ ((isWhole x 1 6 = false ∧ k = .letters) ∨ (∃ n : Int, x = .int n ∧ 1 ≤ n ∧ n ≤ 6 ∧ badPs n y ∧ k = .pairs)) ∧ ∀ d H', Same H H' → DOk k d H' → X (.ref (cl k)) d H'
theorem ok_Trade___init__W (E : Nv K mg) : FnOk P w K mg base (L2N.CX P w) 20 E.a_Trade___init__ E.d_Trade___init__ ["self", "letters", "pairs"] (spInitB K E.C_Trade (clsE E)) := by
  refine fun_okN E.F_Trade___init__ sc_Trade___init__ (fun vs H Q X h => ?_) (fun cdv A outer s H vs Q X hr h => ?_)
  · obtain ⟨_, _, _, _, _, _, rfl, _⟩ := h
    rfl
  · obtain ⟨p, v1, v2, x, y, k, rfl, t1, t2, hb, xx⟩ := h
    refine ⟨_, (pss_cons (ps_if (pt_not (pt_truK K (pe_call (ok_is_whole E) (hr.mono (by first | decide | omega)) (by rfl) E.m_is_whole E.F_is_whole.kp E.b_is_whole .nil pass0 (pa_cons (pv 1) (pa_cons pe_int (pa_cons (pe_glob (v := .int 6) (by rfl) E.c_MOST_LETTERS ⟨_, rfl⟩) pa_nil)))) (fun _ => rfl))) (pss_one (L2N.ps_raise rfl (L2N.takes_of rfl rfl rfl rfl) (pmk_ox0N E.x_BadLetters.T E.x_BadLetters.iC E.x_BadLetters.tI (ok_TradeError___init__ E) (hr.mono (by first | decide | omega)) E.b_TradeError___init__ pass0 (by rfl) E.m_BadLetters))) pss_nil)
      (pss_head (ps_expr (pe_call (ok_check_pairsW E) (hr.mono (by first | decide | omega)) (by rfl) E.m_check_pairs E.F_check_pairs.kp E.b_check_pairs .nil (L2N.passes_call (L2N.takes_of rfl rfl rfl rfl) (fun _ _ _ _ h => h)) (pa_cons (pv 1) (pa_cons (pv 2) pa_nil)))))), ?_⟩
    have w0 : Wd K E.C_Trade [] [] H H _ [.r (.ref p), .d x, .d y] := Wd.start3 (N := N_Trade___init__) (c1 := .r (.ref p)) (c2 := .d x) (c3 := .d y) rfl t1 t2
    rcases hb with ⟨hx, rfl⟩ | ⟨n, rfl, h1, h6, hy, rfl⟩
    · refine s_when w0 (b := true) (et_cast (et_not (et_truB (ev_call (ea_cons (ev_var (i := 1) w0 rfl) (ea_cons ev_int (ea_cons ev_int ea_nil))) ⟨x, 1, 6, rfl, rfl⟩))) (by rw [hx]; rfl)) (fun _ H1 w1 => ?_) (fun z => nomatch z)
      exact xx none H1 w1.fr0 rfl
    · refine s_when w0 (b := false) (et_cast (et_not (et_truB (ev_call (ea_cons (ev_var (i := 1) w0 rfl) (ea_cons ev_int (ea_cons ev_int ea_nil))) ⟨_, 1, 6, rfl, rfl⟩))) (by simp [isWhole]; omega)) (fun z => nomatch z) (fun _ H1 w1 => ?_)
      exact h_ckR (cs := [.d (.int n), .d y]) (o := some .pairs) (ea_cons (ev_var (i := 1) w1 rfl) (ea_cons (ev_var (i := 2) w1 rfl) ea_nil)) ⟨n, y, hy, rfl, rfl⟩ (fun z => nomatch z) fun k z d H2 e2 g => by
        cases z
        exact xx d H2 (w1.fr0.trans e2) g
def wordB : PyData → Bool
  | .str z => (("alike" : Str) == z) || (("unlike" : Str) == z)
  | _ => false
def isFactD (n : Int) : PyData → Bool
  | .tuple [a, b, c] => isRowD n a && (isRowD n b && wordB c)
  | _ => false
def fkD : PyData → Prop
  | .tuple [a, b, c] => szD 1000 a ∧ szD 1000 b ∧ (c = .none ∨ ∃ z, c = .str z)
  | _ => True
theorem isFact_len {n : Int} {ds : List PyData} (h : ds.length ≠ 3) : isFactD n (.tuple ds) = false := by
  unfold isFactD
  split
  · rename_i a b c e
    injection e with e
    subst e
    exact absurd rfl h
  · rfl
theorem ev_word {C : Addr} {H : Hp} {σ : L2.St} {ta tb : TE} {c : PyData} (hc : c = .none ∨ ∃ z, c = .str z) (ha : EvC K C ta σ H (.d c)) (hb : EvC K C tb σ H (.d (.tuple [.str "alike", .str "unlike"]))) : EvC K C (tOp (rIn K false) ta tb) σ H (.d (.bool (wordB c))) := by
  rcases hc with rfl | ⟨z, rfl⟩
  · exact fun H1 e1 Q q => ha H1 e1 _ fun x H2 e2 a2 => hb H2 (e1.trans e2) _ fun y H3 e3 a3 => by
      obtain ⟨r, xs, rfl, sr, t⟩ := Td.tup_of a3
      have ex : xs = [.str "alike", .str "unlike"] := by
        cases t with
        | cons t1 t => cases t with
          | cons t2 t => cases t; rw [Td.str_of t1, Td.str_of t2]
      subst ex
      rw [Td.non_of a2]
      exact ⟨r, _, rfl, .inr sr.sq, rfl, rfl, q _ H3 (e2.trans e3) (.bl _)⟩
  · exact ev_inS2 ha hb
abbrev A_is_factW (as : List Ag) (d : PyData) : Prop := ∃ (n : Int) (x : PyData), szD 1000 x ∧ fkD x ∧ as = [.c (.d (.int n)), .c (.d x)] ∧ d = .bool (isFactD n x)
theorem ok_is_factW (E : Nv K mg) : FnOk P w K mg base CX0 16 E.a_is_fact E.d_is_fact ["letters", "value"] (spC K E.C_Trade A_is_factW) := by
  refine E.F_is_fact.ok sc_is_fact (fun vs H Q _ h => ?_) (fun cdv A outer s H vs Q _ hr h => ?_)
  · obtain ⟨as, d, ha, ⟨_, _, _, _, rfl, _⟩, _⟩ := h
    exact ha.length
  · obtain ⟨as, d, ha, ⟨n, x, hx, hf, rfl, rfl⟩, q⟩ := h
    obtain ⟨v1, v2, rfl, a1, a2⟩ := ha.two
    refine ⟨_, (pss_cons (ps_if (PW.pt (pw_or (pt_not (pt_truK K (pe_callB (call_isiK K) (by rfl) E.n_isinstance (by decide +kernel) (pa_cons (pv 1) (pa_cons (pe_bltn (v := .ty "tuple") (by rfl) E.n_tuple (by decide +kernel) rfl) pa_nil))) (fun _ => rfl))) (pw_or1 (pt_cmpR (op_neK K hr.units) (pe_callB (call_lenK K) (by rfl) E.n_len (by decide +kernel) (pa_cons (pv 1) pa_nil)) pe_int (nomark _))))) (pss_one (ps_ret pe_bl)) pss_nil)
      (pss_cons (ps_asg (pv 1) (pg_tupK K (n := 3) rfl (pgs_cons (pg_name (i := 2) sc_is_fact.nd rfl (.inl rfl)) (pgs_cons (pg_name (i := 3) sc_is_fact.nd rfl (.inl rfl)) (pgs_cons (pg_name (i := 4) sc_is_fact.nd rfl (.inl rfl)) pgs_nil)))))
      (pss_one (ps_ret (pe_and (pe_call (ok_is_rowW E) (hr.mono (by first | decide | omega)) (by rfl) E.m_is_row E.F_is_row.kp E.b_is_row .nil pass0 (pa_cons (pv 0) (pa_cons (pv 2) pa_nil))) (pe_and (pe_call (ok_is_rowW E) (hr.mono (by first | decide | omega)) (by rfl) E.m_is_row E.F_is_row.kp E.b_is_row .nil pass0 (pa_cons (pv 0) (pa_cons (pv 3) pa_nil))) (pe_one (pe_cmpR (op_inK K) (pv 4) (pe_tupF (pa_cons (pe_glob (v := .str "alike") (by rfl) E.c_ALIKE ⟨_, rfl⟩) (pa_cons (pe_glob (v := .str "unlike") (by rfl) E.c_UNLIKE ⟨_, rfl⟩) pa_nil))) (by with_unfolding_all rfl))))))))), ?_⟩
    have w0 : Wd K E.C_Trade [] [] H H _ [.d (.int n), .d x, .u, .u, .u] := Wd.start2 (N := N_is_fact) a1 a2
    rcases tuple_or x with ⟨ds, rfl⟩ | hk
    · have hx : ds.length ≤ 1000 := hx
      refine s_when w0 (b := !decide ((ds.length : Int) = 3)) (et_cast (et_or (et_not (et_truB (ev_isiT (b := true) (ev_var (i := 1) w0 rfl) (by decide +kernel)))) (fun _ => et_test (ev_neI (ev_lenT (ev_var (i := 1) w0 rfl)) ev_int))) rfl) (fun e H1 w1 => ?_) (fun e H1 w1 => ?_)
      · refine s_retQ w1 q (ev_d ev_bl ?_)
        rw [isFact_len (fun z => by rw [z] at e; simp at e)]
      · have e : ds.length = 3 := by
          simp at e
          omega
        match ds, e, hf with
        | [a, b, c], _, hf =>
          obtain ⟨sa, sb, hc⟩ : szD 1000 a ∧ szD 1000 b ∧ (c = .none ∨ ∃ z, c = .str z) := hf
          refine q_unp3D w1 (ev_var (i := 1) w1 rfl) fun σ2 H2 w2 => ?_
          have w2' : Wd K E.C_Trade [] [] H H2 σ2 [.d (.int n), .d (.tuple [a, b, c]), .d a, .d b, .d c] := w2
          refine s_retQ w2' q (ev_d (ev_andV (ev_call (ea_cons (ev_var (i := 0) w2' rfl) (ea_cons (ev_var (i := 2) w2' rfl) ea_nil)) ⟨n, a, sa, rfl, rfl⟩) (fun _ => ev_andV (ev_call (ea_cons (ev_var (i := 0) w2' rfl) (ea_cons (ev_var (i := 3) w2' rfl) ea_nil)) ⟨n, b, sb, rfl, rfl⟩) (fun _ => ev_word hc (ev_var (i := 4) w2' rfl) (ev_tup (ed_cons ev_str (ed_cons ev_str ed_nil)))))) rfl)
    · refine s_when w0 (b := true) (et_cast (et_or (b := false) (et_not (et_truB (ev_isi (ev_var (i := 1) w0 rfl) hk))) (fun z => nomatch z)) rfl) (fun e H1 w1 => ?_) (fun e => nomatch e)
      refine s_retQ w1 q (ev_d ev_bl ?_)
      have := kit_ntup hk
      unfold isFactD
      split
      · rename_i a b c
        exact absurd rfl (this [a, b, c])
      · rfl
def badFs (n : Int) (x : PyData) : Prop := ∃ f y, x = .tuple [f, y] ∧ szD 1000 f ∧ fkD f ∧ szD 1000 y ∧ fkD y ∧ isFactD n f = true ∧ isFactD n y = false
def R_facts (cs : List Ct) (o : Option Wk) : Prop := ∃ (n : Int) (x : PyData), badFs n x ∧ cs = [.d (.int n), .d x] ∧ o = some .facts
theorem ok_check_factsW (E : Nv K mg) : FnOk P w K mg base (L2N.CX P w) 20 E.a_check_facts E.d_check_facts ["letters", "facts"] (spR K E.C_Trade (clsE E) R_facts) := by
  refine fun_okN E.F_check_facts sc_check_facts (fun vs H Q X h => ?_) (fun cdv A outer s H vs Q X hr h => ?_)
  · obtain ⟨cs, o, ha, ⟨_, _, _, rfl, _⟩, _⟩ := h
    exact ha.length
  · obtain ⟨cs, o, ha, ⟨n, x, hb, rfl, rfl⟩, q, xx⟩ := h
    obtain ⟨v1, v2, rfl⟩ : ∃ v1 v2, vs = [v1, v2] := by match vs, ha with | [a, b], _ => exact ⟨a, b, rfl⟩
    refine ⟨_, (pss_cons (ps_if (PW.pt (pw_or (pt_not (pt_truK K (pe_callB (call_isiK K) (by rfl) E.n_isinstance (by decide +kernel) (pa_cons (pv 1) (pa_cons (pe_bltn (v := .ty "tuple") (by rfl) E.n_tuple (by decide +kernel) rfl) pa_nil))) (fun _ => rfl))) (pw_or1 (pt_cmpR (op_gt) (pe_callB (call_lenK K) (by rfl) E.n_len (by decide +kernel) (pa_cons (pv 1) pa_nil)) (pe_glob (v := .int 20) (by rfl) E.c_MOST_FACTS ⟨_, rfl⟩) (nomark _))))) (pss_one (L2N.ps_raise rfl (L2N.takes_of rfl rfl rfl rfl) (pmk_oexN E.x_BadFacts.T E.x_BadFacts.iC E.x_BadFacts.tI (ok_BadFacts___init__ E) (hr.mono (by first | decide | omega)) E.b_BadFacts___init__ .nil pass0 (by rfl) E.m_BadFacts (pa_cons pe_non pa_nil)))) pss_nil)
      (pss_one (ps_for (passes_of rfl) rfl (pi_enumTK K (by rfl) E.n_enumerate (pa_cons (pv 1) pa_nil)) (pg_tupK K (n := 2) rfl (pgs_cons (pg_name (i := 2) sc_check_facts.nd rfl (.inl rfl)) (pgs_cons (pg_name (i := 3) sc_check_facts.nd rfl (.inl rfl)) pgs_nil)))
      (pss_one (ps_if (pt_not (pt_truK K (pe_call (ok_is_factW E) (hr.mono (by first | decide | omega)) (by rfl) E.m_is_fact E.F_is_fact.kp E.b_is_fact .nil pass0 (pa_cons (pv 0) (pa_cons (pv 3) pa_nil))) (fun _ => rfl))) (pss_one (L2N.ps_raise rfl (L2N.takes_of rfl rfl rfl rfl) (pmk_oexN E.x_BadFacts.T E.x_BadFacts.iC E.x_BadFacts.tI (ok_BadFacts___init__ E) (hr.mono (by first | decide | omega)) E.b_BadFacts___init__ .nil pass0 (by rfl) E.m_BadFacts (pa_cons (pv 2) pa_nil)))) pss_nil))))), ?_⟩
    have w0 : Wd K E.C_Trade [] [] H H (L2.start N_check_facts [v1, v2]) [.d (.int n), .d x, .u, .u] := Wd.start (cs := [.d (.int n), .d x]) (N := N_check_facts) (vs := [v1, v2]) ha rfl (hl := Nat.le_of_ble_eq_true rfl)
    rcases hb with ⟨f, y, rfl, sf, kf, sy, ky, gf, by_⟩
    · refine s_when w0 (b := false) (et_cast (et_or (et_not (et_truB (ev_isiT (b := true) (ev_var (i := 1) w0 rfl) (by decide +kernel)))) (fun _ => et_test (ev_i0 (ev_lenT (ev_var (i := 1) w0 rfl)) ev_int (fun _ => .bl _)))) rfl) (fun z => nomatch z) (fun _ H1 w1 => ?_)
      refine s_forE w1 (ev_var (i := 1) w1 rfl) (fun a t σ H' => t ≤ 1 ∧ ∃ c2 c3, Wd K E.C_Trade [] [(.ref a, .tuple [f, y])] H H' σ [.d (.int n), .d (.tuple [f, y]), c2, c3]) (fun a H1 w1 => ⟨Nat.zero_le _, _, _, w1⟩) (fun a k σ' H' ⟨_, _, _, w1⟩ => w1.gh0) ?_ ?_
      · rintro a t d v σ' H' H3 hd tv ⟨ht, c2, c3, w2⟩ e3
        have w3 : Wd K E.C_Trade [] [(.ref a, .tuple [f, y])] H H3 _ [.d (.int n), .d (.tuple [f, y]), .d (.int (t : Nat)), .d d] := ((w2.mono e3).set 2 (v := .int (t : Nat)) (c := .d (.int (t : Nat))) (Td.int _)).set 3 tv
        rcases (by omega : t = 0 ∨ t = 1) with rfl | rfl
        · obtain rfl : f = d := by simpa using hd
          refine s_if w3 (b := false) (et_cast (et_not (et_truB (ev_call (ea_cons (ev_var (i := 0) w3 rfl) (ea_cons (ev_var (i := 3) w3 rfl) ea_nil)) ⟨n, _, sf, kf, rfl, rfl⟩))) (by rw [gf]; rfl)) (fun z => nomatch z) (fun _ H4 w4 => ?_)
          exact s_next ⟨Nat.le_refl _, _, _, w4⟩
        · obtain rfl : y = d := by simpa using hd
          refine s_if w3 (b := true) (et_cast (et_not (et_truB (ev_call (ea_cons (ev_var (i := 0) w3 rfl) (ea_cons (ev_var (i := 3) w3 rfl) ea_nil)) ⟨n, _, sy, ky, rfl, rfl⟩))) (by rw [by_]; rfl)) (fun _ H4 w4 => ?_) (fun z => nomatch z)
          exact ex_index (K := K) (C := E.C_Trade) (x := .int 1) (ev_var (i := 2) w4 rfl) rfl fun d H2 e2 g => xx .facts rfl d H2 (w4.fr0.trans e2) g
      · rintro a σ' H' ⟨ht, _⟩
        have ht : 2 ≤ 1 := ht
        omega
end
end K1
set_option maxRecDepth 10000000
namespace K1
open PySem PySem.Spec PyProof.Rows L2 Pt
local macro_rules
  | `(tactic| walk_at "sz") => `(tactic| first
    | omega
    | decide
    | (simp; omega)
    | (simp [iL, row, pairsD]; omega))
  | `(tactic| walk_at "ea") => `(tactic| first
    | (with_reducible exact ea_nil)
    | ((with_reducible apply ea_consL); (focus (walk_at "ev")); (focus (walk_at "ea")))
    | ((with_reducible apply ea_consS); (focus (walk_at "ev")); (focus (walk_at "ea")))
    | ((with_reducible apply ea_cons); (focus (walk_at "ev")); (focus (walk_at "ea")))
    | ((with_reducible apply ea_consN); (focus (walk_at "en")); (focus (walk_at "ea"))))
  | `(tactic| walk_at "ed") => `(tactic| first
    | (with_reducible exact ed_nil)
    | ((with_reducible apply ed_cons); (focus (walk_at "ev")); (focus (walk_at "ed"))))
  | `(tactic| walk_at "en") => `(tactic| first
    | ((with_reducible apply en_lst); (focus (walk_at "ed")); (focus (simp)))
    | ((with_reducible apply en_listT); (focus (walk_at "ev")))
    | ((with_reducible apply en_addL); (focus (walk_at "ev")); (focus (walk_at "en")); (focus (walk_at "sz")))
    | ((with_reducible apply en_addN); (focus (walk_at "en")); (focus (walk_at "en")); (focus (walk_at "sz")))
    | ((with_reducible apply en_slL); (focus (walk_at "ev")); (focus (walk_at "eo")); (focus (walk_at "eo"))))
  | `(tactic| walk_at "eo") => `(tactic| first
    | (with_reducible exact eo_none)
    | ((with_reducible apply eo_some); (focus (walk_at "ev"))))
  | `(tactic| walk_at "et") => `(tactic| first
    | (with_reducible exact et_yes)
    | ((with_reducible apply et_test); (focus (walk_at "ev")))
    | ((with_reducible apply et_B); (focus (walk_at "ev")))
    | ((with_reducible apply et_truB); (focus (walk_at "ev")))
    | ((with_reducible apply et_truT); (focus (walk_at "ev")))
    | ((with_reducible apply et_not); (focus (walk_at "et")))
    | ((with_reducible apply et_and); (focus (walk_at "et")); (focus (intro _; walk_at "et")))
    | ((with_reducible apply et_or); (focus (walk_at "et")); (focus (intro _; walk_at "et"))))
  | `(tactic| walk_at "var") => `(tactic| first
    | ((with_reducible apply ev_varD); (focus (assumption)); (focus (rfl)))
    | ((with_reducible apply ev_varL); (focus (assumption)); (focus (rfl)))
    | ((with_reducible apply ev_varS); (focus (assumption)); (focus (rfl)))
    | ((with_reducible apply ev_varT); (focus (assumption)); (focus (rfl)))
    | ((with_reducible apply ev_varH); (focus (assumption)); (focus (rfl)))
    | ((with_reducible apply ev_varZ); (focus (assumption)); (focus (rfl))))
  | `(tactic| walk_at "ev") => `(tactic| first
    | walk_at "var"
    | (with_reducible exact ev_int)
    | (with_reducible exact ev_bl)
    | (with_reducible exact ev_str)
    | (with_reducible exact ev_non)
    | ((with_reducible apply ev_letters); (focus (walk_at "ev")))
    | ((with_reducible apply ev_pairs); (focus (walk_at "ev")))
    | ((with_reducible apply ev_addI); (focus (walk_at "ev")); (focus (walk_at "ev")))
    | ((with_reducible apply ev_addT); (focus (walk_at "ev")); (focus (walk_at "ev")); (focus (walk_at "sz")))
    | ((with_reducible apply ev_i0); (focus (walk_at "ev")); (focus (walk_at "ev")); (focus (first | exact fun _ => .int _ | exact fun _ => .bl _)))
    | ((with_reducible apply ev_iC); (focus (walk_at "ev")); (focus (walk_at "ev")); (focus (first | assumption | walk_at "cond")); (focus (exact fun _ => .int _)))
    | ((with_reducible apply ev_chain); (focus (walk_at "ev")); (focus (walk_at "ev")); (focus (walk_at "ev")))
    | ((with_reducible apply ev_eqI); (focus (walk_at "ev")); (focus (walk_at "ev")))
    | ((with_reducible apply ev_neI); (focus (walk_at "ev")); (focus (walk_at "ev")))
    | ((with_reducible apply ev_eqR); (focus (walk_at "ev")); (focus (walk_at "ev")))
    | ((with_reducible apply ev_neR); (focus (walk_at "ev")); (focus (walk_at "ev")))
    | ((with_reducible apply ev_isN); (focus (walk_at "ev")))
    | ((with_reducible apply ev_notN); (focus (walk_at "ev")))
    | ((with_reducible apply ev_in2); (focus (walk_at "ev")); (focus (walk_at "ev")); (focus (walk_at "ev")))
    | ((with_reducible apply ev_inP); (focus (walk_at "ev")); (focus (walk_at "ev")))
    | ((with_reducible apply ev_tup); (focus (walk_at "ed")); (focus (simp)))
    | ((with_reducible apply ev_lenT); (focus (walk_at "ev")))
    | ((with_reducible apply ev_lenL); (focus (walk_at "ev")))
    | ((with_reducible apply ev_lenS); (focus (walk_at "ev")))
    | ((with_reducible apply ev_lenN); (focus (walk_at "en")))
    | ((with_reducible apply ev_max2); (focus (walk_at "ev")); (focus (walk_at "ev")))
    | ((with_reducible apply ev_min2); (focus (walk_at "ev")); (focus (walk_at "ev")))
    | ((with_reducible apply ev_int1); (focus (walk_at "ev")))
    | ((with_reducible apply ev_tupleL); (focus (walk_at "ev")))
    | ((with_reducible apply ev_tupleN); (focus (walk_at "en")))
    | ((with_reducible apply ev_countT); (focus (walk_at "ev")); (focus (walk_at "ev")))
    | ((with_reducible apply ev_andV); (focus (walk_at "ev")); (focus (intro _; walk_at "ev")))
    | ((with_reducible apply ev_orV); (focus (walk_at "ev")); (focus (intro _; walk_at "ev")))
    | ((with_reducible apply ev_notV); (focus (walk_at "ev"))))
section
variable {P : Program} {w : World} {K : PySem.W.Frag} {mg : Str → Option Value} {base : Heap}
inductive Dk where
  | row
  | num (lo hi : Int) (k : Wk)
def Dk.kind : Dk → Wk
  | .row => .row
  | .num _ _ k => k
def Dk.bad (n : Nat) : Dk → PyData → Prop
  | .row, d => isRowD n d = false
  | .num lo hi _, d => isWhole d lo hi = false
def Dk.good (n : Nat) : Dk → PyData → Prop
  | .row, d => isRowD n d = true
  | .num lo hi _, d => isWhole d lo hi = true
inductive Fst (n : Nat) : List Dk → List PyData → Option Wk → Prop
  | nil : Fst n [] [] none
  | bad {a : Dk} {as : List Dk} {d : PyData} {ds : List PyData} (hb : a.bad n d) (hl : ds.length = as.length) : Fst n (a :: as) (d :: ds) (some a.kind)
  | ok {a : Dk} {as : List Dk} {d : PyData} {ds : List PyData} {o : Option Wk} (hg : a.good n d) (hr : Fst n as ds o) : Fst n (a :: as) (d :: ds) o
theorem Fst.len {n : Nat} {as : List Dk} {ds : List PyData} {o : Option Wk} (h : Fst n as ds o) : ds.length = as.length := by
  induction h with
  | nil => rfl
  | bad hb hl => exact congrArg (· + 1) hl
  | ok hg hr ih => exact congrArg (· + 1) ih
def RB (as : List Dk) (cs : List Ct) (o : Option Wk) : Prop := (∃ (c : Ct) (ds : List PyData), noT c ∧ ds.length = as.length ∧ cs = c :: ds.map Ct.d ∧ o = some .trade) ∨
  ∃ (n : Nat) (ps : List (Int × Int)) (ds : List PyData), n ≤ 6 ∧ (∀ d ∈ ds, szD 1000 d) ∧ Fst n as ds o ∧ cs = .t (n : Nat) ps :: ds.map Ct.d ∧ o ≠ none
theorem rb_len {C : Addr} {H : Hp} {as : List Dk} {cs : List Ct} {o : Option Wk} {vs : List V} (ha : ArgsC K C H vs cs) (h : RB as cs o) : vs.length = as.length + 1 := by
  rw [ha.length]
  rcases h with ⟨c, ds, _, hl, rfl, _⟩ | ⟨n, ps, ds, _, _, hF, rfl, _⟩
  · rw [List.length_cons, List.length_map, hl]
  · rw [List.length_cons, List.length_map, hF.len]
theorem len1 {α : Type} {l : List α} (h : l.length = 1) : ∃ a, l = [a] := by match l, h with | [a], _ => exact ⟨a, rfl⟩
theorem len2 {α : Type} {l : List α} (h : l.length = 2) : ∃ a b, l = [a, b] := by match l, h with | [a, b], _ => exact ⟨a, b, rfl⟩
theorem noT_own {c : Ct} (h : noT c) : c.own = false := by rcases h with ⟨d, rfl⟩ | ⟨p, xs, rfl⟩ <;> rfl
theorem noT_u {c : Ct} (h : noT c) : c ≠ .u := by rcases h with ⟨d, rfl⟩ | ⟨p, xs, rfl⟩ <;> exact fun z => nomatch z
theorem ok_leastB (E : Nv K mg) : FnOk P w K mg base (L2N.CX P w) 20 E.a_least E.d_least ["trade", "row"] (spR K E.C_Trade (clsE E) (RB [.row])) := by
  refine fun_okN E.F_least sc_least (fun vs H Q X h => ?_) (fun cdv A outer s H vs Q X hr h => ?_)
  · obtain ⟨cs, o, ha, hR, _⟩ := h
    exact rb_len ha hR
  · obtain ⟨cs, o, ha, hR, q, x⟩ := h
    refine ⟨_, (pss_cons (ps_expr (pe_call (ok_check_tradeW E) (hr.mono (by first | decide | omega)) (by rfl) E.m_check_trade E.F_check_trade.kp E.b_check_trade .nil (L2N.passes_call (L2N.takes_of rfl rfl rfl rfl) (fun _ _ _ _ h => h)) (pa_cons (pv 0) pa_nil)))
      (pss_head (ps_expr (pe_call (ok_check_rowW E) (hr.mono (by first | decide | omega)) (by rfl) E.m_check_row E.F_check_row.kp E.b_check_row .nil (L2N.passes_call (L2N.takes_of rfl rfl rfl rfl) (fun _ _ _ _ h => h)) (pa_cons (pv 0) (pa_cons (pv 1) pa_nil)))))), ?_⟩
    rcases hR with ⟨c, ds, hc, hl, rfl, rfl⟩ | ⟨n, ps, ds, n6, hz, hF, rfl, ho⟩
    · obtain ⟨d1, rfl⟩ := len1 hl
      obtain ⟨v1, v2, rfl⟩ : ∃ v1 v2, vs = [v1, v2] := by match vs, ha with | [a, b], _ => exact ⟨a, b, rfl⟩
      have oc := noT_own hc
      have w := Wd.start (K := K) (C := E.C_Trade) (H := H) (cs := [c, .d d1]) (N := N_least) (vs := [v1, v2]) ha (by show (!c.own && _) = true; rw [oc]; rfl) (hl := Nat.le_of_ble_eq_true rfl)
      exact q_ckR (cs := [c]) (o := some .trade) (ea_cons (ev_var (i := 0) w rfl (noT_u hc)) ea_nil) (.inr ⟨c, hc, rfl, rfl⟩) (fun z => nomatch z) fun k z d H1 e1 g => x k z d H1 e1 g
    · obtain ⟨d1, rfl⟩ := len1 hF.len
      obtain ⟨v1, v2, rfl⟩ : ∃ v1 v2, vs = [v1, v2] := by match vs, ha with | [a, b], _ => exact ⟨a, b, rfl⟩
      have w := Wd.start (K := K) (C := E.C_Trade) (H := H) (cs := [.t (n : Nat) ps, .d d1]) (N := N_least) (vs := [v1, v2]) ha rfl (hl := Nat.le_of_ble_eq_true rfl)
      refine q_ckR (cs := [.t (n : Nat) ps]) (o := none) (ea_cons (ev_var (i := 0) w rfl) ea_nil) (.inl ⟨n, ps, rfl, rfl⟩) (fun _ H1 e1 => ?_) (fun k z => nomatch z)
      have w1 := w.mono e1
      cases hF with
      | bad hb hl => exact h_ckR (cs := [.t (n : Nat) ps, .d d1]) (o := some .row) (ea_cons (ev_var (i := 0) w1 rfl) (ea_cons (ev_var (i := 1) w1 rfl) ea_nil)) ⟨n, ps, d1, hz _ (by simp), rfl, by rw [if_neg (by rw [hb]; exact Bool.false_ne_true)]⟩ (fun z => nomatch z) fun k z d H2 e2 g => x k z d H2 (e1.trans e2) g
      | ok hg hr => cases hr; exact absurd rfl ho
theorem ok_how_manyB (E : Nv K mg) : FnOk P w K mg base (L2N.CX P w) 20 E.a_how_many E.d_how_many ["trade", "length"] (spR K E.C_Trade (clsE E) (RB [.num 0 500 .size])) := by
  refine fun_okN E.F_how_many sc_how_many (fun vs H Q X h => ?_) (fun cdv A outer s H vs Q X hr h => ?_)
  · obtain ⟨cs, o, ha, hR, _⟩ := h
    exact rb_len ha hR
  · obtain ⟨cs, o, ha, hR, q, x⟩ := h
    refine ⟨_, (pss_cons (ps_expr (pe_call (ok_check_tradeW E) (hr.mono (by first | decide | omega)) (by rfl) E.m_check_trade E.F_check_trade.kp E.b_check_trade .nil (L2N.passes_call (L2N.takes_of rfl rfl rfl rfl) (fun _ _ _ _ h => h)) (pa_cons (pv 0) pa_nil)))
      (pss_head (ps_if (pt_not (pt_truK K (pe_call (ok_is_whole E) (hr.mono (by first | decide | omega)) (by rfl) E.m_is_whole E.F_is_whole.kp E.b_is_whole .nil pass0 (pa_cons (pv 1) (pa_cons pe_int (pa_cons (pe_glob (v := .int 500) (by rfl) E.c_MOST_LENGTH ⟨_, rfl⟩) pa_nil)))) (fun _ => rfl))) (pss_one (L2N.ps_raise rfl (L2N.takes_of rfl rfl rfl rfl) (pmk_ox0N E.x_BadLength.T E.x_BadLength.iC E.x_BadLength.tI (ok_TradeError___init__ E) (hr.mono (by first | decide | omega)) E.b_TradeError___init__ pass0 (by rfl) E.m_BadLength))) pss_nil))), ?_⟩
    rcases hR with ⟨c, ds, hc, hl, rfl, rfl⟩ | ⟨n, ps, ds, n6, hz, hF, rfl, ho⟩
    · obtain ⟨d1, rfl⟩ := len1 hl
      obtain ⟨v1, v2, rfl⟩ : ∃ v1 v2, vs = [v1, v2] := by match vs, ha with | [a, b], _ => exact ⟨a, b, rfl⟩
      have oc := noT_own hc
      have w := Wd.start (K := K) (C := E.C_Trade) (H := H) (cs := [c, .d d1]) (N := N_how_many) (vs := [v1, v2]) ha (by show (!c.own && _) = true; rw [oc]; rfl) (hl := Nat.le_of_ble_eq_true rfl)
      exact q_ckR (cs := [c]) (o := some .trade) (ea_cons (ev_var (i := 0) w rfl (noT_u hc)) ea_nil) (.inr ⟨c, hc, rfl, rfl⟩) (fun z => nomatch z) fun k z d H1 e1 g => x k z d H1 e1 g
    · obtain ⟨d1, rfl⟩ := len1 hF.len
      obtain ⟨v1, v2, rfl⟩ : ∃ v1 v2, vs = [v1, v2] := by match vs, ha with | [a, b], _ => exact ⟨a, b, rfl⟩
      have w := Wd.start (K := K) (C := E.C_Trade) (H := H) (cs := [.t (n : Nat) ps, .d d1]) (N := N_how_many) (vs := [v1, v2]) ha rfl (hl := Nat.le_of_ble_eq_true rfl)
      refine q_ckR (cs := [.t (n : Nat) ps]) (o := none) (ea_cons (ev_var (i := 0) w rfl) ea_nil) (.inl ⟨n, ps, rfl, rfl⟩) (fun _ H1 e1 => ?_) (fun k z => nomatch z)
      have w1 := w.mono e1
      cases hF with
      | bad hb hl => refine s_if w1 (b := true) (et_cast (et_not (et_truB (ev_call (ea_cons (ev_var (i := 1) w1 rfl) (ea_cons ev_int (ea_cons ev_int ea_nil))) ⟨d1, 0, 500, rfl, rfl⟩))) (by rw [show isWhole d1 0 500 = false from hb]; rfl)) (fun _ H3 w3 => x _ rfl none H3 w3.fr0 rfl) (fun z => nomatch z)
      | ok hg hr => cases hr; exact absurd rfl ho
theorem ok_how_many_byB (E : Nv K mg) : FnOk P w K mg base (L2N.CX P w) 20 E.a_how_many_by E.d_how_many_by ["trade", "length", "modulus"] (spR K E.C_Trade (clsE E) (RB [.num 0 1000000000000000000000000000000 .size, .num 1 1000000000 .modulus])) := by
  refine fun_okN E.F_how_many_by sc_how_many_by (fun vs H Q X h => ?_) (fun cdv A outer s H vs Q X hr h => ?_)
  · obtain ⟨cs, o, ha, hR, _⟩ := h
    exact rb_len ha hR
  · obtain ⟨cs, o, ha, hR, q, x⟩ := h
    refine ⟨_, (pss_cons (ps_expr (pe_call (ok_check_tradeW E) (hr.mono (by first | decide | omega)) (by rfl) E.m_check_trade E.F_check_trade.kp E.b_check_trade .nil (L2N.passes_call (L2N.takes_of rfl rfl rfl rfl) (fun _ _ _ _ h => h)) (pa_cons (pv 0) pa_nil)))
      (pss_cons (ps_if (pt_not (pt_truK K (pe_call (ok_is_whole E) (hr.mono (by first | decide | omega)) (by rfl) E.m_is_whole E.F_is_whole.kp E.b_is_whole .nil pass0 (pa_cons (pv 1) (pa_cons pe_int (pa_cons (pe_glob (v := .int 1000000000000000000000000000000) (by rfl) E.c_MOST_LENGTH_BY ⟨_, rfl⟩) pa_nil)))) (fun _ => rfl))) (pss_one (L2N.ps_raise rfl (L2N.takes_of rfl rfl rfl rfl) (pmk_ox0N E.x_BadLength.T E.x_BadLength.iC E.x_BadLength.tI (ok_TradeError___init__ E) (hr.mono (by first | decide | omega)) E.b_TradeError___init__ pass0 (by rfl) E.m_BadLength))) pss_nil)
      (pss_head (ps_if (pt_not (pt_truK K (pe_call (ok_is_whole E) (hr.mono (by first | decide | omega)) (by rfl) E.m_is_whole E.F_is_whole.kp E.b_is_whole .nil pass0 (pa_cons (pv 2) (pa_cons pe_int (pa_cons (pe_glob (v := .int 1000000000) (by rfl) E.c_MOST_MODULUS ⟨_, rfl⟩) pa_nil)))) (fun _ => rfl))) (pss_one (L2N.ps_raise rfl (L2N.takes_of rfl rfl rfl rfl) (pmk_ox0N E.x_BadModulus.T E.x_BadModulus.iC E.x_BadModulus.tI (ok_TradeError___init__ E) (hr.mono (by first | decide | omega)) E.b_TradeError___init__ pass0 (by rfl) E.m_BadModulus))) pss_nil)))), ?_⟩
    rcases hR with ⟨c, ds, hc, hl, rfl, rfl⟩ | ⟨n, ps, ds, n6, hz, hF, rfl, ho⟩
    · obtain ⟨d1, d2, rfl⟩ := len2 hl
      obtain ⟨v1, v2, v3, rfl⟩ : ∃ v1 v2 v3, vs = [v1, v2, v3] := by match vs, ha with | [a, b, c], _ => exact ⟨a, b, c, rfl⟩
      have oc := noT_own hc
      have w := Wd.start (K := K) (C := E.C_Trade) (H := H) (cs := [c, .d d1, .d d2]) (N := N_how_many_by) (vs := [v1, v2, v3]) ha (by show (!c.own && _) = true; rw [oc]; rfl) (hl := Nat.le_of_ble_eq_true rfl)
      exact q_ckR (cs := [c]) (o := some .trade) (ea_cons (ev_var (i := 0) w rfl (noT_u hc)) ea_nil) (.inr ⟨c, hc, rfl, rfl⟩) (fun z => nomatch z) fun k z d H1 e1 g => x k z d H1 e1 g
    · obtain ⟨d1, d2, rfl⟩ := len2 hF.len
      obtain ⟨v1, v2, v3, rfl⟩ : ∃ v1 v2 v3, vs = [v1, v2, v3] := by match vs, ha with | [a, b, c], _ => exact ⟨a, b, c, rfl⟩
      have w := Wd.start (K := K) (C := E.C_Trade) (H := H) (cs := [.t (n : Nat) ps, .d d1, .d d2]) (N := N_how_many_by) (vs := [v1, v2, v3]) ha rfl (hl := Nat.le_of_ble_eq_true rfl)
      refine q_ckR (cs := [.t (n : Nat) ps]) (o := none) (ea_cons (ev_var (i := 0) w rfl) ea_nil) (.inl ⟨n, ps, rfl, rfl⟩) (fun _ H1 e1 => ?_) (fun k z => nomatch z)
      have w1 := w.mono e1
      cases hF with
      | bad hb hl => refine s_when w1 (b := true) (et_cast (et_not (et_truB (ev_call (ea_cons (ev_var (i := 1) w1 rfl) (ea_cons ev_int (ea_cons ev_int ea_nil))) ⟨d1, 0, 1000000000000000000000000000000, rfl, rfl⟩))) (by rw [show isWhole d1 0 1000000000000000000000000000000 = false from hb]; rfl)) (fun _ H3 w3 => x _ rfl none H3 w3.fr0 rfl) (fun z => nomatch z)
      | ok hg hr =>
        refine s_when w1 (b := false) (et_cast (et_not (et_truB (ev_call (ea_cons (ev_var (i := 1) w1 rfl) (ea_cons ev_int (ea_cons ev_int ea_nil))) ⟨d1, 0, 1000000000000000000000000000000, rfl, rfl⟩))) (by rw [show isWhole d1 0 1000000000000000000000000000000 = true from hg]; rfl)) (fun z => nomatch z) (fun _ H2 w2 => ?_)
        cases hr with
        | bad hb hl => refine s_if w2 (b := true) (et_cast (et_not (et_truB (ev_call (ea_cons (ev_var (i := 2) w2 rfl) (ea_cons ev_int (ea_cons ev_int ea_nil))) ⟨d2, 1, 1000000000, rfl, rfl⟩))) (by rw [show isWhole d2 1 1000000000 = false from hb]; rfl)) (fun _ H3 w3 => x _ rfl none H3 w3.fr0 rfl) (fun z => nomatch z)
        | ok hg hr => cases hr; exact absurd rfl ho
theorem row_isRow {n : Nat} {l : List Int} (h : rowOk n l) : isRowD n (Pt.row l) = true := by
  show (!decide (20 < ((iL l).length : Int)) && (iL l).all fun x => isWhole x 0 ((n : Int) - 1)) = true
  have h1 := h.1
  rw [iL_len, decide_eq_false (by omega)]
  show (iL l).all _ = true
  unfold iL
  rw [List.all_map, List.all_eq_true]
  intro x hx
  have := h.2 x hx
  simp [isWhole]
  omega
theorem row_sz {n : Int} {l : List Int} (h : rowOk n l) : szD 1000 (Pt.row l) := by
  show (iL l).length ≤ 1000
  rw [iL_len]
  have := h.1
  omega
def RM (cs : List Ct) (o : Option Wk) : Prop := (∃ c d e, noT c ∧ cs = [c, .d d, .d e] ∧ o = some .trade) ∨ (∃ (n : Nat) (ps : List (Int × Int)) (d e : PyData), szD 1000 d ∧ cs = [.t (n : Nat) ps, .d d, .d e] ∧ isRowD n d = false ∧ o = some .row) ∨
  ∃ (n : Nat) (ps : List (Int × Int)) (l : List Int) (e : PyData), n ≤ 6 ∧ PairsOk n ps ∧ rowOk n l ∧ cs = [.t (n : Nat) ps, .d (Pt.row l), .d e] ∧ isWhole e 0 ((nL ps l : Nat) - 1) = false ∧ o = some .number
theorem ok_numberedB (E : Nv K mg) : FnOk P w K mg base (L2N.CX P w) 34 E.a_numbered E.d_numbered ["trade", "row", "index"] (spR K E.C_Trade (clsE E) RM) := by
  refine fun_okN E.F_numbered sc_numbered (fun vs H Q X h => ?_) (fun cdv A outer s H vs Q X hr h => ?_)
  · obtain ⟨cs, o, ha, hR, _⟩ := h
    rcases hR with ⟨_, _, _, _, rfl, _⟩ | ⟨_, _, _, _, _, rfl, _⟩ | ⟨_, _, _, _, _, _, _, rfl, _⟩ <;> exact ha.length
  · obtain ⟨cs, o, ha, hR, q, x⟩ := h
    refine ⟨_, (pss_cons (ps_expr (pe_call (ok_check_tradeW E) (hr.mono (by first | decide | omega)) (by rfl) E.m_check_trade E.F_check_trade.kp E.b_check_trade .nil (L2N.passes_call (L2N.takes_of rfl rfl rfl rfl) (fun _ _ _ _ h => h)) (pa_cons (pv 0) pa_nil)))
      (pss_cons (ps_expr (pe_call (ok_check_rowW E) (hr.mono (by first | decide | omega)) (by rfl) E.m_check_row E.F_check_row.kp E.b_check_row .nil (L2N.passes_call (L2N.takes_of rfl rfl rfl rfl) (fun _ _ _ _ h => h)) (pa_cons (pv 0) (pa_cons (pv 1) pa_nil))))
      (pss_cons (ps_set (i := 3) sc_numbered.nd rfl (.inl rfl) (pe_call (ok_bars_of E) (hr.mono (by first | decide | omega)) (by rfl) E.m_bars_of E.F_bars_of.kp E.b_bars_of .nil pass0 (pa_cons (pv 0) pa_nil)))
      (pss_cons (ps_set (i := 4) sc_numbered.nd rfl (.inl rfl) pe_dnewF)
      (pss_head (ps_if (pt_not (pt_truK K (pe_call (ok_is_whole E) (hr.mono (by first | decide | omega)) (by rfl) E.m_is_whole E.F_is_whole.kp E.b_is_whole .nil pass0 (pa_cons (pv 2) (pa_cons pe_int (pa_cons (pe_op op_sub (pe_call (ok_count_alike E) (hr.mono (by first | decide | omega)) (by rfl) E.m_count_alike E.F_count_alike.kp E.b_count_alike .nil pass0 (pa_cons (pv 3) (pa_cons (pv 1) (pa_cons (pv 4) pa_nil)))) pe_int) pa_nil)))) (fun _ => rfl))) (pss_one (L2N.ps_raise rfl (L2N.takes_of rfl rfl rfl rfl) (pmk_ox0N E.x_BadNumber.T E.x_BadNumber.iC E.x_BadNumber.tI (ok_TradeError___init__ E) (hr.mono (by first | decide | omega)) E.b_TradeError___init__ pass0 (by rfl) E.m_BadNumber))) pss_nil)))))), ?_⟩
    rcases hR with ⟨c, d, e, hc, rfl, rfl⟩ | ⟨n, ps, d, e, sz, rfl, hb, rfl⟩ | ⟨n, ps, l, e, h6, hok, hrow, rfl, hb, rfl⟩
    · obtain ⟨v1, v2, v3, rfl⟩ : ∃ v1 v2 v3, vs = [v1, v2, v3] := by match vs, ha with | [a, b, c], _ => exact ⟨a, b, c, rfl⟩
      have oc := noT_own hc
      have w := Wd.start (K := K) (C := E.C_Trade) (H := H) (cs := [c, .d d, .d e]) (N := N_numbered) (vs := [v1, v2, v3]) ha (by show (!c.own && _) = true; rw [oc]; rfl) (hl := Nat.le_of_ble_eq_true rfl)
      exact q_ckR (cs := [c]) (o := some .trade) (ea_cons (ev_var (i := 0) w rfl (noT_u hc)) ea_nil) (.inr ⟨c, hc, rfl, rfl⟩) (fun z => nomatch z) fun k z d H1 e1 g => x k z d H1 e1 g
    · obtain ⟨v1, v2, v3, rfl⟩ : ∃ v1 v2 v3, vs = [v1, v2, v3] := by match vs, ha with | [a, b, c], _ => exact ⟨a, b, c, rfl⟩
      have w := Wd.start (K := K) (C := E.C_Trade) (H := H) (cs := [.t (n : Nat) ps, .d d, .d e]) (N := N_numbered) (vs := [v1, v2, v3]) ha rfl (hl := Nat.le_of_ble_eq_true rfl)
      refine q_ckR (cs := [.t (n : Nat) ps]) (o := none) (ea_cons (ev_var (i := 0) w rfl) ea_nil) (.inl ⟨n, ps, rfl, rfl⟩) (fun _ H1 e1 => ?_) (fun k z => nomatch z)
      have w1 := w.mono e1
      exact q_ckR (cs := [.t (n : Nat) ps, .d d]) (o := some .row) (ea_cons (ev_var (i := 0) w1 rfl) (ea_cons (ev_var (i := 1) w1 rfl) ea_nil)) ⟨n, ps, d, sz, rfl, by rw [if_neg (by rw [hb]; exact Bool.false_ne_true)]⟩ (fun z => nomatch z) fun k z d H2 e2 g => x k z d H2 (e1.trans e2) g
    · obtain ⟨v1, v2, v3, rfl⟩ : ∃ v1 v2 v3, vs = [v1, v2, v3] := by match vs, ha with | [a, b, c], _ => exact ⟨a, b, c, rfl⟩
      have wa : Wd K E.C_Trade [] [] H H (L2.start N_numbered [v1, v2, v3]) [.t (n : Nat) ps, .d (Pt.row l), .d e, .u, .u] := Wd.start (K := K) (C := E.C_Trade) (H := H) (cs := [.t (n : Nat) ps, .d (Pt.row l), .d e]) (N := N_numbered) (vs := [v1, v2, v3]) ha rfl (hl := Nat.le_of_ble_eq_true rfl)
      refine q_ckR (cs := [.t (n : Nat) ps]) (o := none) (ea_cons (ev_var (i := 0) wa rfl) ea_nil) (.inl ⟨n, ps, rfl, rfl⟩) (fun _ H1 e1 => ?_) (fun k z => nomatch z)
      have w1 := wa.mono e1
      refine q_ckR (cs := [.t (n : Nat) ps, .d (Pt.row l)]) (o := none) (ea_cons (ev_var (i := 0) w1 rfl) (ea_cons (ev_var (i := 1) w1 rfl) ea_nil)) ⟨n, ps, _, row_sz hrow, rfl, by rw [if_pos (row_isRow hrow)]⟩ (fun _ H2 e2 => ?_) (fun k z => nomatch z)
      have w2 := w1.mono e2
      refine q_asgN w2 (en_call (ea_cons (ev_var (i := 0) w2 rfl) ea_nil) ⟨n, ps, by omega, by omega, rfl, rfl⟩) fun pb σ3 H3 _ w3 => ?_
      refine q_asgO w3 fun f σ4 H4 hf4 w4 => ?_
      have w4' : Wd K E.C_Trade [] [] H H4 σ4 [.t (n : Nat) ps, .d (Pt.row l), .d e, .l pb (iL (barsL (n : Nat) ps)), dct P w f []] := w4
      obtain ⟨vi, ei, ai⟩ := w4'.get (i := 2) rfl
      refine ⟨vi, ei, cnt_at (L := l) w4' (ev_lend (ev_var (i := 3) w4' rfl)) (ev_var (i := 1) w4' rfl) (b := 4) rfl hok (by omega) (by omega) hrow.1 hrow.2 (List.Sublist.refl l) (Nat.lt_succ_of_le hrow.1) (Kn.nil ps l) fun en' H5 k5 l5 w5 => ?_⟩
      have w5' : Wd K E.C_Trade [] [] H H5 σ4 [.t (n : Nat) ps, .d (Pt.row l), .d e, .l pb (iL (barsL (n : Nat) ps)), dct P w f en'] := w5
      obtain ⟨vj, ej, aj⟩ := w5'.get (i := 2) rfl
      rw [ei] at ej
      obtain rfl : vi = vj := by injection ej with z; injection z
      refine ⟨_, 1, rfl, rfl, ?_⟩
      refine ⟨[.c (.d e), .c (.d (.int 0)), .c (.d (.int ((nL ps l : Nat) - 1)))], _, ⟨aj, Td.int 0, Td.int _, True.intro⟩, ⟨e, 0, _, rfl, rfl⟩, fun v H6 e6 t6 => ?_⟩
      have w6 := w5'.mono e6
      rw [hb] at t6
      refine ⟨false, by rw [Td.bl_of t6]; exact rfl, ?_⟩
      exact x _ rfl none H6 w6.fr0 rfl
def RF (cs : List Ct) (o : Option Wk) : Prop := (∃ x y, isWhole x 1 4 = false ∧ cs = [.d x, .d y] ∧ o = some .letters) ∨ ∃ (n : Int) (y : PyData), 1 ≤ n ∧ n ≤ 4 ∧ badFs n y ∧ cs = [.d (.int n), .d y] ∧ o = some .facts
theorem ok_trades_byB (E : Nv K mg) : FnOk P w K mg base (L2N.CX P w) 28 E.a_trades_by E.d_trades_by ["letters", "facts"] (spR K E.C_Trade (clsE E) RF) := by
  refine fun_okN E.F_trades_by sc_trades_by (fun vs H Q X h => ?_) (fun cdv A outer s H vs Q X hr h => ?_)
  · obtain ⟨cs, o, ha, hR, _⟩ := h
    rcases hR with ⟨_, _, _, rfl, _⟩ | ⟨_, _, _, _, _, rfl, _⟩ <;> exact ha.length
  · obtain ⟨cs, o, ha, hR, q, x⟩ := h
    refine ⟨_, (pss_cons (ps_if (pt_not (pt_truK K (pe_call (ok_is_whole E) (hr.mono (by first | decide | omega)) (by rfl) E.m_is_whole E.F_is_whole.kp E.b_is_whole .nil pass0 (pa_cons (pv 0) (pa_cons pe_int (pa_cons (pe_glob (v := .int 4) (by rfl) E.c_MOST_LETTERS_KNOWN ⟨_, rfl⟩) pa_nil)))) (fun _ => rfl))) (pss_one (L2N.ps_raise rfl (L2N.takes_of rfl rfl rfl rfl) (pmk_ox0N E.x_BadLetters.T E.x_BadLetters.iC E.x_BadLetters.tI (ok_TradeError___init__ E) (hr.mono (by first | decide | omega)) E.b_TradeError___init__ pass0 (by rfl) E.m_BadLetters))) pss_nil)
      (pss_head (ps_expr (pe_call (ok_check_factsW E) (hr.mono (by first | decide | omega)) (by rfl) E.m_check_facts E.F_check_facts.kp E.b_check_facts .nil (L2N.passes_call (L2N.takes_of rfl rfl rfl rfl) (fun _ _ _ _ h => h)) (pa_cons (pv 0) (pa_cons (pv 1) pa_nil)))))), ?_⟩
    rcases hR with ⟨d, e, hb, rfl, rfl⟩ | ⟨n, y, h1, h4, hb, rfl, rfl⟩
    · obtain ⟨v1, v2, rfl⟩ : ∃ v1 v2, vs = [v1, v2] := by match vs, ha with | [a, b], _ => exact ⟨a, b, rfl⟩
      have w := Wd.start (K := K) (C := E.C_Trade) (H := H) (cs := [.d d, .d e]) (N := N_trades_by) (vs := [v1, v2]) ha rfl (hl := Nat.le_of_ble_eq_true rfl)
      refine s_when w (b := true) (et_cast (et_not (et_truB (ev_call (ea_cons (ev_var (i := 0) w rfl) (ea_cons ev_int (ea_cons ev_int ea_nil))) ⟨d, 1, 4, rfl, rfl⟩))) (by rw [hb]; rfl)) (fun _ H1 w1 => x _ rfl none H1 w1.fr0 rfl) (fun z => nomatch z)
    · obtain ⟨v1, v2, rfl⟩ : ∃ v1 v2, vs = [v1, v2] := by match vs, ha with | [a, b], _ => exact ⟨a, b, rfl⟩
      have w := Wd.start (K := K) (C := E.C_Trade) (H := H) (cs := [.d (.int n), .d y]) (N := N_trades_by) (vs := [v1, v2]) ha rfl (hl := Nat.le_of_ble_eq_true rfl)
      refine s_when w (b := false) (et_cast (et_not (et_truB (ev_call (ea_cons (ev_var (i := 0) w rfl) (ea_cons ev_int (ea_cons ev_int ea_nil))) ⟨_, 1, 4, rfl, rfl⟩))) (by simp [isWhole]; omega)) (fun z => nomatch z) (fun _ H1 w1 => ?_)
      exact h_ckR (cs := [.d (.int n), .d y]) (o := some .facts) (ea_cons (ev_var (i := 0) w1 rfl) (ea_cons (ev_var (i := 1) w1 rfl) ea_nil)) ⟨n, y, hb, rfl, rfl⟩ (fun z => nomatch z) fun k z d H2 e2 g => x k z d H2 (w1.fr0.trans e2) g
def RU (cs : List Ct) (o : Option Wk) : Prop := ∃ (n : Nat) (ps : List (Int × Int)) (a : List Int), rowOk n a ∧ 8 < a.length ∧ cs = [.t (n : Nat) ps, .d (Pt.row a)] ∧ o = some .long
theorem ok_turnedU (E : Nv K mg) : FnOk P w K mg base (L2N.CX P w) 24 E.a_turned E.d_turned ["trade", "row"] (spR K E.C_Trade (clsE E) RU) := by
  refine fun_okN E.F_turned sc_turned (fun vs H Q X h => ?_) (fun cdv A outer s H vs Q X hr h => ?_)
  · obtain ⟨cs, o, ha, ⟨_, _, _, _, _, rfl, _⟩, _⟩ := h
    exact ha.length
  · obtain ⟨cs, o, ha, ⟨n, ps, a, h1, h8, rfl, rfl⟩, q, x⟩ := h
    refine ⟨_, (pss_cons (ps_expr (pe_call (ok_check_tradeW E) (hr.mono (by first | decide | omega)) (by rfl) E.m_check_trade E.F_check_trade.kp E.b_check_trade .nil (L2N.passes_call (L2N.takes_of rfl rfl rfl rfl) (fun _ _ _ _ h => h)) (pa_cons (pv 0) pa_nil)))
      (pss_cons (ps_expr (pe_call (ok_check_rowW E) (hr.mono (by first | decide | omega)) (by rfl) E.m_check_row E.F_check_row.kp E.b_check_row .nil (L2N.passes_call (L2N.takes_of rfl rfl rfl rfl) (fun _ _ _ _ h => h)) (pa_cons (pv 0) (pa_cons (pv 1) pa_nil))))
      (pss_head (ps_expr (pe_call (ok_check_turningW E) (hr.mono (by first | decide | omega)) (by rfl) E.m_check_turning E.F_check_turning.kp E.b_check_turning .nil (L2N.passes_call (L2N.takes_of rfl rfl rfl rfl) (fun _ _ _ _ h => h)) (pa_cons (pv 1) pa_nil)))))), ?_⟩
    obtain ⟨v1, v2, rfl⟩ : ∃ v1 v2, vs = [v1, v2] := by match vs, ha with | [a, b], _ => exact ⟨a, b, rfl⟩
    have w := Wd.start (K := K) (C := E.C_Trade) (H := H) (cs := [.t (n : Nat) ps, .d (Pt.row a)]) (N := N_turned) (vs := [v1, v2]) ha rfl (hl := Nat.le_of_ble_eq_true rfl)
    refine q_ckR (cs := [.t (n : Nat) ps]) (o := none) (ea_cons (ev_var (i := 0) w rfl) ea_nil) (.inl ⟨n, ps, rfl, rfl⟩) (fun _ H1 e1 => ?_) (fun k z => nomatch z)
    have w1 := w.mono e1
    refine q_ckR (cs := [.t (n : Nat) ps, .d (Pt.row a)]) (o := none) (ea_cons (ev_var (i := 0) w1 rfl) (ea_cons (ev_var (i := 1) w1 rfl) ea_nil)) ⟨n, ps, _, row_sz h1, rfl, by rw [if_pos (row_isRow h1)]⟩ (fun _ H2 e2 => ?_) (fun k z => nomatch z)
    have w2 := w1.mono e2
    exact h_ckR (cs := [.d (Pt.row a)]) (o := some .long) (ea_cons (ev_var (i := 1) w2 rfl) ea_nil) ⟨a, by have := h1.1; omega, rfl, by rw [if_pos h8]⟩ (fun z => nomatch z) fun k z d H3 e3 g => x k z d H3 (e1.trans (e2.trans e3)) g
end
end K1
set_option maxRecDepth 10000000
namespace K1
open PySem PySem.Spec PyProof.Rows L2 Pt
local macro_rules
  | `(tactic| walk_at "sz") => `(tactic| first
    | omega
    | decide
    | (simp; omega)
    | (simp [iL, row, pairsD]; omega))
  | `(tactic| walk_at "ea") => `(tactic| first
    | (with_reducible exact ea_nil)
    | ((with_reducible apply ea_consL); (focus (walk_at "ev")); (focus (walk_at "ea")))
    | ((with_reducible apply ea_consS); (focus (walk_at "ev")); (focus (walk_at "ea")))
    | ((with_reducible apply ea_cons); (focus (walk_at "ev")); (focus (walk_at "ea")))
    | ((with_reducible apply ea_consN); (focus (walk_at "en")); (focus (walk_at "ea"))))
  | `(tactic| walk_at "ed") => `(tactic| first
    | (with_reducible exact ed_nil)
    | ((with_reducible apply ed_cons); (focus (walk_at "ev")); (focus (walk_at "ed"))))
  | `(tactic| walk_at "en") => `(tactic| first
    | ((with_reducible apply en_lst); (focus (walk_at "ed")); (focus (simp)))
    | ((with_reducible apply en_listT); (focus (walk_at "ev")))
    | ((with_reducible apply en_addL); (focus (walk_at "ev")); (focus (walk_at "en")); (focus (walk_at "sz")))
    | ((with_reducible apply en_addN); (focus (walk_at "en")); (focus (walk_at "en")); (focus (walk_at "sz")))
    | ((with_reducible apply en_slL); (focus (walk_at "ev")); (focus (walk_at "eo")); (focus (walk_at "eo"))))
  | `(tactic| walk_at "eo") => `(tactic| first
    | (with_reducible exact eo_none)
    | ((with_reducible apply eo_some); (focus (walk_at "ev"))))
  | `(tactic| walk_at "et") => `(tactic| first
    | (with_reducible exact et_yes)
    | ((with_reducible apply et_test); (focus (walk_at "ev")))
    | ((with_reducible apply et_B); (focus (walk_at "ev")))
    | ((with_reducible apply et_truB); (focus (walk_at "ev")))
    | ((with_reducible apply et_truT); (focus (walk_at "ev")))
    | ((with_reducible apply et_not); (focus (walk_at "et")))
    | ((with_reducible apply et_and); (focus (walk_at "et")); (focus (intro _; walk_at "et")))
    | ((with_reducible apply et_or); (focus (walk_at "et")); (focus (intro _; walk_at "et"))))
  | `(tactic| walk_at "var") => `(tactic| first
    | ((with_reducible apply ev_varD); (focus (assumption)); (focus (rfl)))
    | ((with_reducible apply ev_varL); (focus (assumption)); (focus (rfl)))
    | ((with_reducible apply ev_varS); (focus (assumption)); (focus (rfl)))
    | ((with_reducible apply ev_varT); (focus (assumption)); (focus (rfl)))
    | ((with_reducible apply ev_varH); (focus (assumption)); (focus (rfl)))
    | ((with_reducible apply ev_varZ); (focus (assumption)); (focus (rfl))))
  | `(tactic| walk_at "ev") => `(tactic| first
    | walk_at "var"
    | (with_reducible exact ev_int)
    | (with_reducible exact ev_bl)
    | (with_reducible exact ev_str)
    | (with_reducible exact ev_non)
    | ((with_reducible apply ev_letters); (focus (walk_at "ev")))
    | ((with_reducible apply ev_pairs); (focus (walk_at "ev")))
    | ((with_reducible apply ev_addI); (focus (walk_at "ev")); (focus (walk_at "ev")))
    | ((with_reducible apply ev_addT); (focus (walk_at "ev")); (focus (walk_at "ev")); (focus (walk_at "sz")))
    | ((with_reducible apply ev_i0); (focus (walk_at "ev")); (focus (walk_at "ev")); (focus (first | exact fun _ => .int _ | exact fun _ => .bl _)))
    | ((with_reducible apply ev_iC); (focus (walk_at "ev")); (focus (walk_at "ev")); (focus (first | assumption | walk_at "cond")); (focus (exact fun _ => .int _)))
    | ((with_reducible apply ev_chain); (focus (walk_at "ev")); (focus (walk_at "ev")); (focus (walk_at "ev")))
    | ((with_reducible apply ev_eqI); (focus (walk_at "ev")); (focus (walk_at "ev")))
    | ((with_reducible apply ev_neI); (focus (walk_at "ev")); (focus (walk_at "ev")))
    | ((with_reducible apply ev_eqR); (focus (walk_at "ev")); (focus (walk_at "ev")))
    | ((with_reducible apply ev_neR); (focus (walk_at "ev")); (focus (walk_at "ev")))
    | ((with_reducible apply ev_isN); (focus (walk_at "ev")))
    | ((with_reducible apply ev_notN); (focus (walk_at "ev")))
    | ((with_reducible apply ev_in2); (focus (walk_at "ev")); (focus (walk_at "ev")); (focus (walk_at "ev")))
    | ((with_reducible apply ev_inP); (focus (walk_at "ev")); (focus (walk_at "ev")))
    | ((with_reducible apply ev_tup); (focus (walk_at "ed")); (focus (simp)))
    | ((with_reducible apply ev_lenT); (focus (walk_at "ev")))
    | ((with_reducible apply ev_lenL); (focus (walk_at "ev")))
    | ((with_reducible apply ev_lenS); (focus (walk_at "ev")))
    | ((with_reducible apply ev_lenN); (focus (walk_at "en")))
    | ((with_reducible apply ev_max2); (focus (walk_at "ev")); (focus (walk_at "ev")))
    | ((with_reducible apply ev_min2); (focus (walk_at "ev")); (focus (walk_at "ev")))
    | ((with_reducible apply ev_int1); (focus (walk_at "ev")))
    | ((with_reducible apply ev_tupleL); (focus (walk_at "ev")))
    | ((with_reducible apply ev_tupleN); (focus (walk_at "en")))
    | ((with_reducible apply ev_countT); (focus (walk_at "ev")); (focus (walk_at "ev")))
    | ((with_reducible apply ev_andV); (focus (walk_at "ev")); (focus (intro _; walk_at "ev")))
    | ((with_reducible apply ev_orV); (focus (walk_at "ev")); (focus (intro _; walk_at "ev")))
    | ((with_reducible apply ev_notV); (focus (walk_at "ev"))))
section
variable {P : Program} {w : World} {K : PySem.W.Frag} {mg : Str → Option Value} {base : Heap}
inductive Ek where
  | letters
  | pairs
  | trade
  | row
  | number
  | long
  | size
  | modulus
  | facts
  | letter
  | full
  | place
  | text
  deriving DecidableEq
def clsK (E : Nv K mg) : Ek → Addr
  | .letters => E.C_BadLetters
  | .pairs => E.C_BadPairs
  | .trade => E.C_BadTrade
  | .row => E.C_BadRow
  | .number => E.C_BadNumber
  | .long => E.C_TooLong
  | .size => E.C_BadLength
  | .modulus => E.C_BadModulus
  | .facts => E.C_BadFacts
  | .letter => E.C_BadLetter
  | .full => E.C_Full
  | .place => E.C_BadPlace
  | .text => E.C_InvalidText
def Ek.n : Ek → Nat
  | .letters => 0
  | .pairs => 1
  | .trade => 2
  | .row => 3
  | .number => 4
  | .long => 5
  | .size => 6
  | .modulus => 7
  | .facts => 8
  | .letter => 9
  | .full => 10
  | .place => 11
  | .text => 12
def Ek.all : List Ek := [.letters, .pairs, .trade, .row, .number, .long, .size, .modulus, .facts, .letter, .full, .place, .text]
theorem kit_all (E : Nv K mg) (k j : Ek) : PySem.W.kitOne K (.ref (clsK E k)) (.ref (clsK E j)) = some (decide (k = j)) := by
  cases k with
  | letters =>
    cases j with
    | letters => exact E.k_BadLetters_BadLetters
    | pairs => exact E.k_BadLetters_BadPairs
    | trade => exact E.k_BadLetters_BadTrade
    | row => exact E.k_BadLetters_BadRow
    | number => exact E.k_BadLetters_BadNumber
    | long => exact E.k_BadLetters_TooLong
    | size => exact E.k_BadLetters_BadLength
    | modulus => exact E.k_BadLetters_BadModulus
    | facts => exact E.k_BadLetters_BadFacts
    | letter => exact E.k_BadLetters_BadLetter
    | full => exact E.k_BadLetters_Full
    | place => exact E.k_BadLetters_BadPlace
    | text => exact E.k_BadLetters_InvalidText
  | pairs =>
    cases j with
    | letters => exact E.k_BadPairs_BadLetters
    | pairs => exact E.k_BadPairs_BadPairs
    | trade => exact E.k_BadPairs_BadTrade
    | row => exact E.k_BadPairs_BadRow
    | number => exact E.k_BadPairs_BadNumber
    | long => exact E.k_BadPairs_TooLong
    | size => exact E.k_BadPairs_BadLength
    | modulus => exact E.k_BadPairs_BadModulus
    | facts => exact E.k_BadPairs_BadFacts
    | letter => exact E.k_BadPairs_BadLetter
    | full => exact E.k_BadPairs_Full
    | place => exact E.k_BadPairs_BadPlace
    | text => exact E.k_BadPairs_InvalidText
  | trade =>
    cases j with
    | letters => exact E.k_BadTrade_BadLetters
    | pairs => exact E.k_BadTrade_BadPairs
    | trade => exact E.k_BadTrade_BadTrade
    | row => exact E.k_BadTrade_BadRow
    | number => exact E.k_BadTrade_BadNumber
    | long => exact E.k_BadTrade_TooLong
    | size => exact E.k_BadTrade_BadLength
    | modulus => exact E.k_BadTrade_BadModulus
    | facts => exact E.k_BadTrade_BadFacts
    | letter => exact E.k_BadTrade_BadLetter
    | full => exact E.k_BadTrade_Full
    | place => exact E.k_BadTrade_BadPlace
    | text => exact E.k_BadTrade_InvalidText
  | row =>
    cases j with
    | letters => exact E.k_BadRow_BadLetters
    | pairs => exact E.k_BadRow_BadPairs
    | trade => exact E.k_BadRow_BadTrade
    | row => exact E.k_BadRow_BadRow
    | number => exact E.k_BadRow_BadNumber
    | long => exact E.k_BadRow_TooLong
    | size => exact E.k_BadRow_BadLength
    | modulus => exact E.k_BadRow_BadModulus
    | facts => exact E.k_BadRow_BadFacts
    | letter => exact E.k_BadRow_BadLetter
    | full => exact E.k_BadRow_Full
    | place => exact E.k_BadRow_BadPlace
    | text => exact E.k_BadRow_InvalidText
  | number =>
    cases j with
    | letters => exact E.k_BadNumber_BadLetters
    | pairs => exact E.k_BadNumber_BadPairs
    | trade => exact E.k_BadNumber_BadTrade
    | row => exact E.k_BadNumber_BadRow
    | number => exact E.k_BadNumber_BadNumber
    | long => exact E.k_BadNumber_TooLong
    | size => exact E.k_BadNumber_BadLength
    | modulus => exact E.k_BadNumber_BadModulus
    | facts => exact E.k_BadNumber_BadFacts
    | letter => exact E.k_BadNumber_BadLetter
    | full => exact E.k_BadNumber_Full
    | place => exact E.k_BadNumber_BadPlace
    | text => exact E.k_BadNumber_InvalidText
  | long =>
    cases j with
    | letters => exact E.k_TooLong_BadLetters
    | pairs => exact E.k_TooLong_BadPairs
    | trade => exact E.k_TooLong_BadTrade
    | row => exact E.k_TooLong_BadRow
    | number => exact E.k_TooLong_BadNumber
    | long => exact E.k_TooLong_TooLong
    | size => exact E.k_TooLong_BadLength
    | modulus => exact E.k_TooLong_BadModulus
    | facts => exact E.k_TooLong_BadFacts
    | letter => exact E.k_TooLong_BadLetter
    | full => exact E.k_TooLong_Full
    | place => exact E.k_TooLong_BadPlace
    | text => exact E.k_TooLong_InvalidText
  | size =>
    cases j with
    | letters => exact E.k_BadLength_BadLetters
    | pairs => exact E.k_BadLength_BadPairs
    | trade => exact E.k_BadLength_BadTrade
    | row => exact E.k_BadLength_BadRow
    | number => exact E.k_BadLength_BadNumber
    | long => exact E.k_BadLength_TooLong
    | size => exact E.k_BadLength_BadLength
    | modulus => exact E.k_BadLength_BadModulus
    | facts => exact E.k_BadLength_BadFacts
    | letter => exact E.k_BadLength_BadLetter
    | full => exact E.k_BadLength_Full
    | place => exact E.k_BadLength_BadPlace
    | text => exact E.k_BadLength_InvalidText
  | modulus =>
    cases j with
    | letters => exact E.k_BadModulus_BadLetters
    | pairs => exact E.k_BadModulus_BadPairs
    | trade => exact E.k_BadModulus_BadTrade
    | row => exact E.k_BadModulus_BadRow
    | number => exact E.k_BadModulus_BadNumber
    | long => exact E.k_BadModulus_TooLong
    | size => exact E.k_BadModulus_BadLength
    | modulus => exact E.k_BadModulus_BadModulus
    | facts => exact E.k_BadModulus_BadFacts
    | letter => exact E.k_BadModulus_BadLetter
    | full => exact E.k_BadModulus_Full
    | place => exact E.k_BadModulus_BadPlace
    | text => exact E.k_BadModulus_InvalidText
  | facts =>
    cases j with
    | letters => exact E.k_BadFacts_BadLetters
    | pairs => exact E.k_BadFacts_BadPairs
    | trade => exact E.k_BadFacts_BadTrade
    | row => exact E.k_BadFacts_BadRow
    | number => exact E.k_BadFacts_BadNumber
    | long => exact E.k_BadFacts_TooLong
    | size => exact E.k_BadFacts_BadLength
    | modulus => exact E.k_BadFacts_BadModulus
    | facts => exact E.k_BadFacts_BadFacts
    | letter => exact E.k_BadFacts_BadLetter
    | full => exact E.k_BadFacts_Full
    | place => exact E.k_BadFacts_BadPlace
    | text => exact E.k_BadFacts_InvalidText
  | letter =>
    cases j with
    | letters => exact E.k_BadLetter_BadLetters
    | pairs => exact E.k_BadLetter_BadPairs
    | trade => exact E.k_BadLetter_BadTrade
    | row => exact E.k_BadLetter_BadRow
    | number => exact E.k_BadLetter_BadNumber
    | long => exact E.k_BadLetter_TooLong
    | size => exact E.k_BadLetter_BadLength
    | modulus => exact E.k_BadLetter_BadModulus
    | facts => exact E.k_BadLetter_BadFacts
    | letter => exact E.k_BadLetter_BadLetter
    | full => exact E.k_BadLetter_Full
    | place => exact E.k_BadLetter_BadPlace
    | text => exact E.k_BadLetter_InvalidText
  | full =>
    cases j with
    | letters => exact E.k_Full_BadLetters
    | pairs => exact E.k_Full_BadPairs
    | trade => exact E.k_Full_BadTrade
    | row => exact E.k_Full_BadRow
    | number => exact E.k_Full_BadNumber
    | long => exact E.k_Full_TooLong
    | size => exact E.k_Full_BadLength
    | modulus => exact E.k_Full_BadModulus
    | facts => exact E.k_Full_BadFacts
    | letter => exact E.k_Full_BadLetter
    | full => exact E.k_Full_Full
    | place => exact E.k_Full_BadPlace
    | text => exact E.k_Full_InvalidText
  | place =>
    cases j with
    | letters => exact E.k_BadPlace_BadLetters
    | pairs => exact E.k_BadPlace_BadPairs
    | trade => exact E.k_BadPlace_BadTrade
    | row => exact E.k_BadPlace_BadRow
    | number => exact E.k_BadPlace_BadNumber
    | long => exact E.k_BadPlace_TooLong
    | size => exact E.k_BadPlace_BadLength
    | modulus => exact E.k_BadPlace_BadModulus
    | facts => exact E.k_BadPlace_BadFacts
    | letter => exact E.k_BadPlace_BadLetter
    | full => exact E.k_BadPlace_Full
    | place => exact E.k_BadPlace_BadPlace
    | text => exact E.k_BadPlace_InvalidText
  | text =>
    cases j with
    | letters => exact E.k_InvalidText_BadLetters
    | pairs => exact E.k_InvalidText_BadPairs
    | trade => exact E.k_InvalidText_BadTrade
    | row => exact E.k_InvalidText_BadRow
    | number => exact E.k_InvalidText_BadNumber
    | long => exact E.k_InvalidText_TooLong
    | size => exact E.k_InvalidText_BadLength
    | modulus => exact E.k_InvalidText_BadModulus
    | facts => exact E.k_InvalidText_BadFacts
    | letter => exact E.k_InvalidText_BadLetter
    | full => exact E.k_InvalidText_Full
    | place => exact E.k_InvalidText_BadPlace
    | text => exact E.k_InvalidText_InvalidText
theorem kit_val (E : Nv K mg) (k : Ek) : PySem.W.kitOne K (.ref (clsK E k)) (.type "ValueError") = some true := by
  cases k with
  | letters => exact E.kv_BadLetters
  | pairs => exact E.kv_BadPairs
  | trade => exact E.kv_BadTrade
  | row => exact E.kv_BadRow
  | number => exact E.kv_BadNumber
  | long => exact E.kv_TooLong
  | size => exact E.kv_BadLength
  | modulus => exact E.kv_BadModulus
  | facts => exact E.kv_BadFacts
  | letter => exact E.kv_BadLetter
  | full => exact E.kv_Full
  | place => exact E.kv_BadPlace
  | text => exact E.kv_InvalidText
theorem xc_all (E : Nv K mg) (k : Ek) : L2.ExcC K (clsK E k) := by
  cases k with
  | letters => exact E.xc_BadLetters
  | pairs => exact E.xc_BadPairs
  | trade => exact E.xc_BadTrade
  | row => exact E.xc_BadRow
  | number => exact E.xc_BadNumber
  | long => exact E.xc_TooLong
  | size => exact E.xc_BadLength
  | modulus => exact E.xc_BadModulus
  | facts => exact E.xc_BadFacts
  | letter => exact E.xc_BadLetter
  | full => exact E.xc_Full
  | place => exact E.xc_BadPlace
  | text => exact E.xc_InvalidText
def FOk (d : Option Addr) (H : Hp) : Prop := d = none ∨ ∃ dd fs, d = some dd ∧ H dd = some (.xd fs)
def RWhich (E : Nv K mg) : Value → Option Addr → Hp → VK → Prop := fun cls d H Q => ∃ k : Ek, cls = .ref (clsK E k) ∧ FOk d H ∧ ∀ q H', H q = none → Same H H' → CtAt K E.C_Trade H' (.ref q) (.l q [.int (k.n : Nat)]) → Q (.ref q) H'
theorem ev_isK {C : Addr} (E : Nv K mg) {a : Addr} {d : Option Addr} {k : Ek} {H : Hp} {σ : L2.St} {te tc : TE} {c : V} {cv : Value} {b : Bool} (he : EvC K C te σ H (.r (.ref a))) (hc : ∀ H1 Q, Q c H1 → tc σ H1 Q) (hv : ∀ u, RelV c u → u = cv) (f : FOk d H) (kit : PySem.W.kitOne K (.ref (clsK E k)) cv = some b) : EvC K C (tCB (rIsP K a (.ref (clsK E k)) d) (tCons te (tCons tc tNil))) σ H (.d (.bool b)) := fun H1 e1 Q q => by
  refine he H1 e1 _ fun v H2 e2 av => hc H2 _ ?_
  obtain rfl : v = .ref a := av
  refine ⟨clsK E k, c, cv, b, rfl, xc_all E k, f.imp id (fun ⟨dd, fs, y1, y2⟩ => ⟨dd, fs, y1, (e1.trans e2) _ _ y2⟩), rfl, hv, kit, q _ H2 e2 (.bl b)⟩
theorem td_bls {H : Hp} : ∀ {xs : List V} (bs : List Bool), TdAll K H xs (bs.map .bool) → xs = bs.map .bl
  | [], [], _ => rfl
  | _ :: _, b :: bs, .cons h r => by rw [Td.bl_of h, td_bls bs r, List.map_cons]
  | [], _ :: _, h => by cases h
  | _ :: _, [], h => by cases h
theorem pick_all (k : Ek) (t : Nat) (h : t < 13) : (Ek.all.map fun j => decide (k = j))[t]? = some (decide (k.n = t)) := by
  have e : ∀ k : Ek, ∀ t : Fin 13, (Ek.all.map fun j => decide (k = j))[t.val]? = some (decide (k.n = t.val)) := fun k => by cases k <;> decide +kernel
  exact e k ⟨t, h⟩
theorem ok__law_which (E : Nv K mg) : FnE P w K mg base 8 E.a__law_which E.d__law_which ["_law_e"] (RWhich E) := by
  refine fnE_of E.F__law_which sc__law_which fun cd A out s H Q p cls d hr hot zn hR => ?_
  obtain ⟨k, rfl, f, q⟩ := hR
  refine ⟨_, (pss_cons (ps_set (i := 1) sc__law_which.nd rfl (.inr rfl) (pe_lst (pa_cons (pe_callB (call_isP (List.mem_singleton_self p) zn.zc (hot.2.elim fun vs h => ⟨vs, h.1⟩)) (by rfl) E.n_isinstance (by decide +kernel) (pa_cons (pv 0) (pa_cons (pe_glob (v := .ref E.C_BadLetters) (by rfl) E.m_BadLetters rfl) pa_nil))) (pa_cons (pe_callB (call_isP (List.mem_singleton_self p) zn.zc (hot.2.elim fun vs h => ⟨vs, h.1⟩)) (by rfl) E.n_isinstance (by decide +kernel) (pa_cons (pv 0) (pa_cons (pe_glob (v := .ref E.C_BadPairs) (by rfl) E.m_BadPairs rfl) pa_nil))) (pa_cons (pe_callB (call_isP (List.mem_singleton_self p) zn.zc (hot.2.elim fun vs h => ⟨vs, h.1⟩)) (by rfl) E.n_isinstance (by decide +kernel) (pa_cons (pv 0) (pa_cons (pe_glob (v := .ref E.C_BadTrade) (by rfl) E.m_BadTrade rfl) pa_nil))) (pa_cons (pe_callB (call_isP (List.mem_singleton_self p) zn.zc (hot.2.elim fun vs h => ⟨vs, h.1⟩)) (by rfl) E.n_isinstance (by decide +kernel) (pa_cons (pv 0) (pa_cons (pe_glob (v := .ref E.C_BadRow) (by rfl) E.m_BadRow rfl) pa_nil))) pa_nil))))))
      (pss_cons (ps_set (i := 1) sc__law_which.nd rfl (.inr rfl) (pe_op (op_addK K) (pv 1) (pe_lst (pa_cons (pe_callB (call_isP (List.mem_singleton_self p) zn.zc (hot.2.elim fun vs h => ⟨vs, h.1⟩)) (by rfl) E.n_isinstance (by decide +kernel) (pa_cons (pv 0) (pa_cons (pe_glob (v := .ref E.C_BadNumber) (by rfl) E.m_BadNumber rfl) pa_nil))) (pa_cons (pe_callB (call_isP (List.mem_singleton_self p) zn.zc (hot.2.elim fun vs h => ⟨vs, h.1⟩)) (by rfl) E.n_isinstance (by decide +kernel) (pa_cons (pv 0) (pa_cons (pe_glob (v := .ref E.C_TooLong) (by rfl) E.m_TooLong rfl) pa_nil))) (pa_cons (pe_callB (call_isP (List.mem_singleton_self p) zn.zc (hot.2.elim fun vs h => ⟨vs, h.1⟩)) (by rfl) E.n_isinstance (by decide +kernel) (pa_cons (pv 0) (pa_cons (pe_glob (v := .ref E.C_BadLength) (by rfl) E.m_BadLength rfl) pa_nil))) pa_nil))))))
      (pss_cons (ps_set (i := 1) sc__law_which.nd rfl (.inr rfl) (pe_op (op_addK K) (pv 1) (pe_lst (pa_cons (pe_callB (call_isP (List.mem_singleton_self p) zn.zc (hot.2.elim fun vs h => ⟨vs, h.1⟩)) (by rfl) E.n_isinstance (by decide +kernel) (pa_cons (pv 0) (pa_cons (pe_glob (v := .ref E.C_BadModulus) (by rfl) E.m_BadModulus rfl) pa_nil))) (pa_cons (pe_callB (call_isP (List.mem_singleton_self p) zn.zc (hot.2.elim fun vs h => ⟨vs, h.1⟩)) (by rfl) E.n_isinstance (by decide +kernel) (pa_cons (pv 0) (pa_cons (pe_glob (v := .ref E.C_BadFacts) (by rfl) E.m_BadFacts rfl) pa_nil))) (pa_cons (pe_callB (call_isP (List.mem_singleton_self p) zn.zc (hot.2.elim fun vs h => ⟨vs, h.1⟩)) (by rfl) E.n_isinstance (by decide +kernel) (pa_cons (pv 0) (pa_cons (pe_glob (v := .ref E.C_BadLetter) (by rfl) E.m_BadLetter rfl) pa_nil))) (pa_cons (pe_callB (call_isP (List.mem_singleton_self p) zn.zc (hot.2.elim fun vs h => ⟨vs, h.1⟩)) (by rfl) E.n_isinstance (by decide +kernel) (pa_cons (pv 0) (pa_cons (pe_glob (v := .ref E.C_Full) (by rfl) E.m_Full rfl) pa_nil))) pa_nil)))))))
      (pss_cons (ps_set (i := 1) sc__law_which.nd rfl (.inr rfl) (pe_op (op_addK K) (pv 1) (pe_lst (pa_cons (pe_callB (call_isP (List.mem_singleton_self p) zn.zc (hot.2.elim fun vs h => ⟨vs, h.1⟩)) (by rfl) E.n_isinstance (by decide +kernel) (pa_cons (pv 0) (pa_cons (pe_glob (v := .ref E.C_BadPlace) (by rfl) E.m_BadPlace rfl) pa_nil))) (pa_cons (pe_callB (call_isP (List.mem_singleton_self p) zn.zc (hot.2.elim fun vs h => ⟨vs, h.1⟩)) (by rfl) E.n_isinstance (by decide +kernel) (pa_cons (pv 0) (pa_cons (pe_glob (v := .ref E.C_InvalidText) (by rfl) E.m_InvalidText rfl) pa_nil))) pa_nil)))))
      (pss_cons (ps_if (pt_not (pt_truK K (pe_callB (call_isP (List.mem_singleton_self p) zn.zc (hot.2.elim fun vs h => ⟨vs, h.1⟩)) (by rfl) E.n_isinstance (by decide +kernel) (pa_cons (pv 0) (pa_cons (pe_bltn (v := .ty "ValueError") (by rfl) E.n_ValueError (by decide +kernel) rfl) pa_nil))) (fun _ => rfl))) (pss_one (ps_ret (pe_lst pa_nil))) pss_nil)
      (pss_one (ps_ret (pe_lcH (own := [("_law_k", 2)]) (g := gName 2) ⟨p, hot, List.mem_singleton_self p⟩ sc__law_which.nd (L2H.pi_range1H (by rfl) E.n_range (pa_cons pe_int pa_nil)) (blkOk_by (own := [("_law_k", 2)]) (N := N__law_which) (sc := defScope s__law_which) (by decide +kernel)) (fun _ _ _ _ _ => (pg_name (i := 2) sc__law_which.nd rfl (Or.inl rfl))) (fun _ _ _ _ _ => (pts_one (pt_truK K (pe_ix (ix_K K) (pv 1) (pv 2) (fun _ _ => rfl)) (fun _ => rfl)))) (fun _ _ _ _ _ => (pv 2)))))))))), ?_⟩
  have w0 : Wd K E.C_Trade [] [] H H (L2.start N__law_which [.ref p.1]) [.r (.ref p.1), .u, .u] := Wd.start (cs := [.r (.ref p.1)]) (N := N__law_which) (vs := [.ref p.1]) ⟨rfl, True.intro⟩ rfl (hl := Nat.le_of_ble_eq_true rfl)
  have is_ : ∀ {S : List Addr} {H1 : Hp} {σ : L2.St} {Γ : List Ct} (j : Ek), Wd K E.C_Trade S [] H H1 σ Γ → Γ[0]? = some (.r (.ref p.1)) → FOk d H1 → EvC K E.C_Trade (tCB (rIsP K p.1 (.ref (clsK E k)) d) (tCons (tVar 0) (tCons (tC (.ref (clsK E j))) tNil))) σ H1 (.d (.bool (decide (k = j)))) := fun j w g f1 => ev_isK E (ev_var w g) (fun _ _ z => z) (fun u r => r) f1 (kit_all E k j)
  have fo : ∀ {H1 : Hp}, Same H H1 → FOk d H1 := fun {H1} e => f.imp id fun ⟨dd, fs, y1, y2⟩ => ⟨dd, fs, y1, e _ _ y2⟩
  refine q_asgN (i := 1) w0 (en_lst (ed_cons (is_ .letters w0 rfl f) (ed_cons (is_ .pairs w0 rfl f) (ed_cons (is_ .trade w0 rfl f) (ed_cons (is_ .row w0 rfl f) ed_nil)))) (Nat.le_of_ble_eq_true rfl)) fun p1 σ1 H1 _ w1 => ?_
  have w1' : Wd K E.C_Trade [] [] H H1 σ1 [.r (.ref p.1), .l p1 [.bool (decide (k = .letters)), .bool (decide (k = .pairs)), .bool (decide (k = .trade)), .bool (decide (k = .row))], .u] := w1
  have f1 := fo w1'.fr0
  refine q_asgN (i := 1) w1' (en_addL (ev_var (i := 1) w1' rfl) (en_lst (ed_cons (is_ .number w1' rfl f1) (ed_cons (is_ .long w1' rfl f1) (ed_cons (is_ .size w1' rfl f1) ed_nil))) (Nat.le_of_ble_eq_true rfl)) (Nat.le_of_ble_eq_true rfl)) fun p2 σ2 H2 _ w2 => ?_
  have w2' : Wd K E.C_Trade [] [] H H2 σ2 [.r (.ref p.1), .l p2 ([.bool (decide (k = .letters)), .bool (decide (k = .pairs)), .bool (decide (k = .trade)), .bool (decide (k = .row))] ++ [.bool (decide (k = .number)), .bool (decide (k = .long)), .bool (decide (k = .size))]), .u] := w2
  have f2 := fo w2'.fr0
  refine q_asgN (i := 1) w2' (en_addL (ev_var (i := 1) w2' rfl) (en_lst (ed_cons (is_ .modulus w2' rfl f2) (ed_cons (is_ .facts w2' rfl f2) (ed_cons (is_ .letter w2' rfl f2) (ed_cons (is_ .full w2' rfl f2) ed_nil)))) (Nat.le_of_ble_eq_true rfl)) (Nat.le_of_ble_eq_true rfl)) fun p3 σ3 H3 _ w3 => ?_
  have w3' : Wd K E.C_Trade [] [] H H3 σ3 [.r (.ref p.1), .l p3 ([.bool (decide (k = .letters)), .bool (decide (k = .pairs)), .bool (decide (k = .trade)), .bool (decide (k = .row))] ++ [.bool (decide (k = .number)), .bool (decide (k = .long)), .bool (decide (k = .size))] ++ [.bool (decide (k = .modulus)), .bool (decide (k = .facts)), .bool (decide (k = .letter)), .bool (decide (k = .full))]), .u] := w3
  have f3 := fo w3'.fr0
  refine q_asgN (i := 1) w3' (en_cast (es := Ek.all.map fun j => .bool (decide (k = j))) (en_addL (ev_var (i := 1) w3' rfl) (en_lst (ed_cons (is_ .place w3' rfl f3) (ed_cons (is_ .text w3' rfl f3) ed_nil)) (Nat.le_of_ble_eq_true rfl)) (Nat.le_of_ble_eq_true rfl)) rfl) fun p4 σ4 H4 _ w4 => ?_
  have w4' : Wd K E.C_Trade [] [] H H4 σ4 [.r (.ref p.1), .l p4 (Ek.all.map fun j => .bool (decide (k = j))), .u] := w4
  refine s_when w4' (b := false) (et_cast (et_not (et_truB (ev_isK E (ev_var (i := 0) w4' rfl) (fun _ _ z => z) (cv := .type "ValueError") (fun u r => r) (fo w4'.fr0) (kit_val E k)))) rfl) (fun z => nomatch z) fun _ H5 w5 => ?_
  obtain ⟨v1, e1, rfl, xs, hx, tx⟩ := id (w5.get (i := 1) rfl)
  refine ⟨13, rfl, by decide, by decide, fun L hL => ?_⟩
  have nL0 : H L = none := by
    cases e : H L with
    | none => rfl
    | some o =>
      have := w5.fr0 _ _ e
      rw [hL] at this
      cases this
  refine ⟨13, fun t G => Same H5 G ∧ G L = some (.lst (((List.range t).filter fun j => decide (k.n = j)).map fun j => V.int (j : Nat))), ⟨same_new hL, upd_same⟩, fun G ⟨sm, gL⟩ => ⟨Nat.le_refl _, ?_⟩, fun t G ht ⟨sm, gL⟩ => ⟨ht, ?_⟩⟩
  · have e2 : ((List.range 13).filter fun j => decide (k.n = j)) = [k.n] := by cases k <;> decide +kernel
    rw [e2] at gL
    exact q L G nL0 (w5.fr0.trans sm) ⟨rfl, _, gL, .cons (.int _) .nil⟩
  · rintro x G2 ⟨rfl, rfl⟩
    refine ⟨wipe1 _ 2 _, ?_⟩
    have look1 : ((wipe σ4 [2]).set 2 (some (V.int (0 + (t : Nat)))))[1]? = some (some (.ref p4)) := by
      rw [List.getElem?_set_ne (by decide), wipe_out (by decide)]
      exact e1
    have look2 : ((wipe σ4 [2]).set 2 (some (V.int (0 + (t : Nat)))))[2]? = some (some (V.int (0 + (t : Nat)))) := by
      rw [List.getElem?_set_self]
      rw [wipe_length, w5.len]
      exact Nat.le_of_ble_eq_true rfl
    have hat : L2.atI xs (0 + (t : Nat)) = some (.bl (decide (k.n = t))) := by
      have ex := td_bls (K := K) (H := H5) (xs := xs) (Ek.all.map fun j => decide (k = j)) (by rw [List.map_map]; exact tx)
      rw [Int.zero_add, ex]
      exact atI_nat (by rw [List.getElem?_map, pick_all k t ht]; rfl)
    have ev : EvC K E.C_Trade (tOp (rIx K) (tVar 1) (tVar 2)) ((wipe σ4 [2]).set 2 (some (V.int (0 + (t : Nat))))) G2 (.d (.bool (decide (k.n = t)))) := fun G3 e3 Q3 q3 => ⟨.ref p4, look1, _, look2, .inl ⟨p4, xs, _, _, rfl, rfl, SqL.of (e3 _ _ (sm _ _ hx)), hat, q3 _ G3 (Same.refl G3) (.bl _)⟩⟩
    refine et_truB (K := K) (C := E.C_Trade) ev G2 (Same.refl G2) _ fun G4 e4 => ⟨fun eb => ?_, fun eb => ?_⟩
    · refine ⟨_, look2, _, e4 _ _ gL, ?_, fun b o hb => ?_, ?_⟩
      · rw [List.length_map]
        exact Nat.lt_of_le_of_lt (Nat.le_trans (List.length_filter_le _ _) (show (List.range t).length ≤ 1000 by rw [List.length_range]; omega)) (by decide)
      · rw [upd_ne (fun e => by rw [e, hL] at hb; cases hb)]
        exact (sm.trans e4) _ _ hb
      · rw [upd_same, List.range_succ, List.filter_append, List.map_append, List.filter_cons, if_pos eb, Int.zero_add]
        rfl
    · refine ⟨sm.trans e4, ?_⟩
      rw [e4 _ _ gL, List.range_succ, List.filter_append, List.filter_cons, if_neg (by rw [eb]; exact Bool.false_ne_true), List.filter_nil, List.append_nil]
end
end K1
set_option maxRecDepth 10000000
namespace K1
open PySem PySem.Spec PyProof.Rows L2 Pt
local macro_rules
  | `(tactic| walk_at "sz") => `(tactic| first
    | omega
    | decide
    | (simp; omega)
    | (simp [iL, row, pairsD]; omega))
  | `(tactic| walk_at "ea") => `(tactic| first
    | (with_reducible exact ea_nil)
    | ((with_reducible apply ea_consL); (focus (walk_at "ev")); (focus (walk_at "ea")))
    | ((with_reducible apply ea_consS); (focus (walk_at "ev")); (focus (walk_at "ea")))
    | ((with_reducible apply ea_cons); (focus (walk_at "ev")); (focus (walk_at "ea")))
    | ((with_reducible apply ea_consN); (focus (walk_at "en")); (focus (walk_at "ea"))))
  | `(tactic| walk_at "ed") => `(tactic| first
    | (with_reducible exact ed_nil)
    | ((with_reducible apply ed_cons); (focus (walk_at "ev")); (focus (walk_at "ed"))))
  | `(tactic| walk_at "en") => `(tactic| first
    | ((with_reducible apply en_lst); (focus (walk_at "ed")); (focus (simp)))
    | ((with_reducible apply en_listT); (focus (walk_at "ev")))
    | ((with_reducible apply en_addL); (focus (walk_at "ev")); (focus (walk_at "en")); (focus (walk_at "sz")))
    | ((with_reducible apply en_addN); (focus (walk_at "en")); (focus (walk_at "en")); (focus (walk_at "sz")))
    | ((with_reducible apply en_slL); (focus (walk_at "ev")); (focus (walk_at "eo")); (focus (walk_at "eo"))))
  | `(tactic| walk_at "eo") => `(tactic| first
    | (with_reducible exact eo_none)
    | ((with_reducible apply eo_some); (focus (walk_at "ev"))))
  | `(tactic| walk_at "et") => `(tactic| first
    | (with_reducible exact et_yes)
    | ((with_reducible apply et_test); (focus (walk_at "ev")))
    | ((with_reducible apply et_B); (focus (walk_at "ev")))
    | ((with_reducible apply et_truB); (focus (walk_at "ev")))
    | ((with_reducible apply et_truT); (focus (walk_at "ev")))
    | ((with_reducible apply et_not); (focus (walk_at "et")))
    | ((with_reducible apply et_and); (focus (walk_at "et")); (focus (intro _; walk_at "et")))
    | ((with_reducible apply et_or); (focus (walk_at "et")); (focus (intro _; walk_at "et"))))
  | `(tactic| walk_at "var") => `(tactic| first
    | ((with_reducible apply ev_varD); (focus (assumption)); (focus (rfl)))
    | ((with_reducible apply ev_varL); (focus (assumption)); (focus (rfl)))
    | ((with_reducible apply ev_varS); (focus (assumption)); (focus (rfl)))
    | ((with_reducible apply ev_varT); (focus (assumption)); (focus (rfl)))
    | ((with_reducible apply ev_varH); (focus (assumption)); (focus (rfl)))
    | ((with_reducible apply ev_varZ); (focus (assumption)); (focus (rfl))))
  | `(tactic| walk_at "ev") => `(tactic| first
    | walk_at "var"
    | (with_reducible exact ev_int)
    | (with_reducible exact ev_bl)
    | (with_reducible exact ev_str)
    | (with_reducible exact ev_non)
    | ((with_reducible apply ev_letters); (focus (walk_at "ev")))
    | ((with_reducible apply ev_pairs); (focus (walk_at "ev")))
    | ((with_reducible apply ev_addI); (focus (walk_at "ev")); (focus (walk_at "ev")))
    | ((with_reducible apply ev_addT); (focus (walk_at "ev")); (focus (walk_at "ev")); (focus (walk_at "sz")))
    | ((with_reducible apply ev_i0); (focus (walk_at "ev")); (focus (walk_at "ev")); (focus (first | exact fun _ => .int _ | exact fun _ => .bl _)))
    | ((with_reducible apply ev_iC); (focus (walk_at "ev")); (focus (walk_at "ev")); (focus (first | assumption | walk_at "cond")); (focus (exact fun _ => .int _)))
    | ((with_reducible apply ev_chain); (focus (walk_at "ev")); (focus (walk_at "ev")); (focus (walk_at "ev")))
    | ((with_reducible apply ev_eqI); (focus (walk_at "ev")); (focus (walk_at "ev")))
    | ((with_reducible apply ev_neI); (focus (walk_at "ev")); (focus (walk_at "ev")))
    | ((with_reducible apply ev_eqR); (focus (walk_at "ev")); (focus (walk_at "ev")))
    | ((with_reducible apply ev_neR); (focus (walk_at "ev")); (focus (walk_at "ev")))
    | ((with_reducible apply ev_isN); (focus (walk_at "ev")))
    | ((with_reducible apply ev_notN); (focus (walk_at "ev")))
    | ((with_reducible apply ev_in2); (focus (walk_at "ev")); (focus (walk_at "ev")); (focus (walk_at "ev")))
    | ((with_reducible apply ev_inP); (focus (walk_at "ev")); (focus (walk_at "ev")))
    | ((with_reducible apply ev_tup); (focus (walk_at "ed")); (focus (simp)))
    | ((with_reducible apply ev_lenT); (focus (walk_at "ev")))
    | ((with_reducible apply ev_lenL); (focus (walk_at "ev")))
    | ((with_reducible apply ev_lenS); (focus (walk_at "ev")))
    | ((with_reducible apply ev_lenN); (focus (walk_at "en")))
    | ((with_reducible apply ev_max2); (focus (walk_at "ev")); (focus (walk_at "ev")))
    | ((with_reducible apply ev_min2); (focus (walk_at "ev")); (focus (walk_at "ev")))
    | ((with_reducible apply ev_int1); (focus (walk_at "ev")))
    | ((with_reducible apply ev_tupleL); (focus (walk_at "ev")))
    | ((with_reducible apply ev_tupleN); (focus (walk_at "en")))
    | ((with_reducible apply ev_countT); (focus (walk_at "ev")); (focus (walk_at "ev")))
    | ((with_reducible apply ev_andV); (focus (walk_at "ev")); (focus (intro _; walk_at "ev")))
    | ((with_reducible apply ev_orV); (focus (walk_at "ev")); (focus (intro _; walk_at "ev")))
    | ((with_reducible apply ev_notV); (focus (walk_at "ev"))))
section
variable {P : Program} {w : World} {K : PySem.W.Frag} {mg : Str → Option Value} {base : Heap}
section
variable {C : Addr} {H H0 : Hp} {S : List Addr} {G : List (V × PyData)} {σ : L2.St} {Γ : List Ct} {D : Ends} {tu tz : TS} {i : Nat} {a k : Int}
theorem q_isN (w : Wd K C S G H0 H σ Γ) (hi : Γ[i]? = some (.d (.int a))) (h : a = k) (z : ∀ H1, Wd K C S G H0 H1 σ Γ → tu { D with nx := tz D } σ H1) : tSeq (tIfS (tTest (tOp (rEqD K) (tVar i) (tC (.int k)))) tu tNext) tz D σ H :=
  s_when w (b := true) (et_cast (et_test (ev_eqI (ev_var w hi) ev_int)) (decide_eq_true h)) (fun _ H1 w1 => z H1 w1) fun z => nomatch z
theorem q_notN (w : Wd K C S G H0 H σ Γ) (hi : Γ[i]? = some (.d (.int a))) (h : ¬ a = k) (z : ∀ H1, Wd K C S G H0 H1 σ Γ → tz D σ H1) : tSeq (tIfS (tTest (tOp (rEqD K) (tVar i) (tC (.int k)))) tu tNext) tz D σ H :=
  s_when w (b := false) (et_cast (et_test (ev_eqI (ev_var w hi) ev_int)) (decide_eq_false h)) (fun z => nomatch z) fun _ H1 w1 => z H1 w1
end
def DK (n : Nat) : Ek → Option Addr → Hp → Prop
  | .pairs, d, H => DIx d H
  | .facts, d, H => DIx d H
  | .text, d, H => ∃ dd, d = some dd ∧ H dd = some (.xd [("place", .int (3 * n + 1 : Nat))])
  | _, d, _ => d = none
theorem mk_at {C C0 : Addr} {sp : Sp} {X : XK} {Q : VK} {ts : TA} {σ : L2.St} {H : Hp} {as : List Ag} (ha : EvA K C0 ts σ H as) (k : ∀ vs H2, Same H H2 → Pt.Args K C0 H2 vs as → ∀ x dx, H2 x = none → H2 dx = none → dx ≠ x → sp (.ref x :: vs) (L2.upd (L2.upd H2 dx (.own x)) x (.ins C dx [])) (fun v H3 => v = .non ∧ Q (.ref x) H3) X) : tMake C sp [] X ts σ H Q :=
  ha H (Same.refl H) _ fun vs H2 e2 a x dx hx hd ne => by
    rw [List.append_nil]
    exact k vs H2 e2 a x dx hx hd ne
theorem same_obj {H : Hp} {x dx C : Addr} (hx : H x = none) (hd : H dx = none) : Same H (L2.upd (L2.upd H dx (.own x)) x (.ins C dx [])) := fun b o hb => by
  rw [upd_ne (fun e => by rw [e, hx] at hb; cases hb), upd_ne (fun e => by rw [e, hd] at hb; cases hb)]
  exact hb
theorem five {n : Nat} (h1 : 1 ≤ n) (h5 : n ≤ 5) : n = 1 ∨ n = 2 ∨ n = 3 ∨ n = 4 ∨ n = 5 := by omega
theorem no_pairs (n : Int) : PairsOk n [] := ⟨fun p hp => (nomatch hp), List.Pairwise.nil, by decide⟩
theorem sortP_E (l : List (Int × Int)) : sortP l = l.foldr (insB fun p q => decide (p.1 < q.1 ∨ (p.1 = q.1 ∧ p.2 ≤ q.2))) [] := ms_ins (fun a b c h1 h2 => by simp at *; omega) (fun a b => by simp; omega) l
def listE (ps : List (Int × Int)) : Nat → List Int → List (List Int)
  | 0, _ => [[]]
  | k + 1, l => if l = [] then [[]] else (((firstsL ps l).foldr (insB fun p q => decide (p.1 < q.1 ∨ (p.1 = q.1 ∧ p.2 ≤ q.2))) []).map fun q => (listE ps k (l.eraseIdx q.2.toNat)).map (q.1 :: ·)).flatten
theorem listGo_E (ps : List (Int × Int)) : ∀ (k : Nat) (l : List Int), listGo ps k l = listE ps k l
  | 0, _ => rfl
  | k + 1, l => by
    unfold listGo listE
    rw [sortP_E]
    split
    · rfl
    · congr 1
      exact List.map_congr_left fun q _ => by rw [listGo_E ps k]
theorem one_row : nL [] [0, 0] = 1 := by
  unfold nL listL
  rw [listGo_E]
  decide +kernel
theorem bad_pairs {n : Nat} (h1 : 1 ≤ n) (h5 : n ≤ 5) : badPs ((n : Int) + 1) (.tuple [Pt.row [0, (n : Int)], Pt.row [0, (n : Int)]]) := ⟨n, _, rfl, Nat.le_of_ble_eq_true rfl, by rcases five h1 h5 with rfl | rfl | rfl | rfl | rfl <;> decide +kernel, .inr rfl⟩
theorem bad_row {n : Nat} : isRowD n (Pt.row [(n : Int)]) = false := by
  show (!decide (20 < (([(n : Int)] : List Int).length : Int)) && ([(n : Int)].map PyData.int).all fun x => isWhole x 0 ((n : Int) - 1)) = false
  simp [isWhole]
  omega
def spEarly (E : Nv K mg) : Sp := fun vs H Q X => ∃ (kd n : Nat) (v : V), vs = [.int (kd : Nat), .int (n : Nat), v] ∧ CtAt K E.C_Trade H v (.t (n : Nat) []) ∧ 1 ≤ n ∧ n ≤ 5 ∧ kd < 13 ∧ (7 ≤ kd → ∀ v H', Same H H' → Q v H') ∧ ∀ k : Ek, k.n = kd → kd < 7 → ∀ d H', Same H H' → DK n k d H' → X (.ref (clsK E k)) d H'
theorem ok__law_early (E : Nv K mg) : FnOk P w K mg base (L2N.CX P w) 50 E.a__law_early E.d__law_early ["_law_kind", "_law_n", "_law_told"] (spEarly E) := by
  refine fun_okN E.F__law_early sc__law_early (fun vs H Q X h => ?_) (fun cdv A outer s H vs Q X hr h => ?_)
  · obtain ⟨_, _, _, rfl, _⟩ := h
    rfl
  · obtain ⟨kd, n, v, rfl, a3, h1, h5, hk, q, x⟩ := h
    refine ⟨_, (pss_cons (ps_if (pt_cmpR (op_eqK K hr.units) (pv 0) pe_int (nomark _)) (pss_one (ps_expr (pe_make E.mk_Trade (ok_Trade___init__W E) (hr.mono (by first | decide | omega)) (by rfl) E.m_Trade E.b_Trade___init__ .nil (L2N.passes_call (L2N.takes_of rfl rfl rfl rfl) (fun _ _ _ _ h => h)) (pa_cons (pe_op (op_addK K) pe_int (pv 1)) (pa_cons (pe_tupF pa_nil) pa_nil))))) pss_nil)
      (pss_cons (ps_if (pt_cmpR (op_eqK K hr.units) (pv 0) pe_int (nomark _)) (pss_one (ps_expr (pe_make E.mk_Trade (ok_Trade___init__W E) (hr.mono (by first | decide | omega)) (by rfl) E.m_Trade E.b_Trade___init__ .nil (L2N.passes_call (L2N.takes_of rfl rfl rfl rfl) (fun _ _ _ _ h => h)) (pa_cons (pe_op (op_addK K) (pv 1) pe_int) (pa_cons (pe_tupF (pa_cons (pe_tupF (pa_cons pe_int (pa_cons (pv 1) pa_nil))) (pa_cons (pe_tupF (pa_cons pe_int (pa_cons (pv 1) pa_nil))) pa_nil))) pa_nil))))) pss_nil)
      (pss_cons (ps_if (pt_cmpR (op_eqK K hr.units) (pv 0) pe_int (nomark _)) (pss_one (ps_expr (pe_call (ok_leastB E) (hr.mono (by first | decide | omega)) (by rfl) E.m_least E.F_least.kp E.b_least .nil (L2N.passes_call (L2N.takes_of rfl rfl rfl rfl) (fun _ _ _ _ h => h)) (pa_cons (pe_tupF (pa_cons (pv 1) (pa_cons (pe_tupF pa_nil) pa_nil))) (pa_cons (pe_tupF pa_nil) pa_nil))))) pss_nil)
      (pss_cons (ps_if (pt_cmpR (op_eqK K hr.units) (pv 0) pe_int (nomark _)) (pss_one (ps_expr (pe_call (ok_leastB E) (hr.mono (by first | decide | omega)) (by rfl) E.m_least E.F_least.kp E.b_least .nil (L2N.passes_call (L2N.takes_of rfl rfl rfl rfl) (fun _ _ _ _ h => h)) (pa_cons (pv 2) (pa_cons (pe_tupF (pa_cons (pv 1) pa_nil)) pa_nil))))) pss_nil)
      (pss_cons (ps_if (pt_cmpR (op_eqK K hr.units) (pv 0) pe_int (nomark _)) (pss_one (ps_expr (pe_call (ok_numberedB E) (hr.mono (by first | decide | omega)) (by rfl) E.m_numbered E.F_numbered.kp E.b_numbered .nil (L2N.passes_call (L2N.takes_of rfl rfl rfl rfl) (fun _ _ _ _ h => h)) (pa_cons (pv 2) (pa_cons (pe_tupF (pa_cons pe_int (pa_cons pe_int pa_nil))) (pa_cons (pv 1) pa_nil)))))) pss_nil)
      (pss_cons (ps_if (pt_cmpR (op_eqK K hr.units) (pv 0) pe_int (nomark _)) (pss_one (ps_expr (pe_call (ok_turnedU E) (hr.mono (by first | decide | omega)) (by rfl) E.m_turned E.F_turned.kp E.b_turned .nil (L2N.passes_call (L2N.takes_of rfl rfl rfl rfl) (fun _ _ _ _ h => h)) (pa_cons (pv 2) (pa_cons (pe_op (op_repFK K) (pe_tupF (pa_cons pe_int pa_nil)) (pe_op (op_addK K) pe_int (pv 1))) pa_nil))))) pss_nil)
      (pss_one (ps_if (pt_cmpR (op_eqK K hr.units) (pv 0) pe_int (nomark _)) (pss_one (ps_expr (pe_call (ok_how_manyB E) (hr.mono (by first | decide | omega)) (by rfl) E.m_how_many E.F_how_many.kp E.b_how_many .nil (L2N.passes_call (L2N.takes_of rfl rfl rfl rfl) (fun _ _ _ _ h => h)) (pa_cons (pv 2) (pa_cons (pe_op (op_addK K) pe_int (pv 1)) pa_nil))))) pss_nil)))))))), ?_⟩
    have w0 : Wd K E.C_Trade [] [] H H (L2.start N__law_early [.int (kd : Nat), .int (n : Nat), v]) [.d (.int (kd : Nat)), .d (.int (n : Nat)), .t (n : Nat) []] := Wd.start (cs := [.d (.int (kd : Nat)), .d (.int (n : Nat)), .t (n : Nat) []]) (N := N__law_early) (vs := [.int (kd : Nat), .int (n : Nat), v]) ⟨Td.int _, Td.int _, a3, True.intro⟩ rfl (hl := Nat.le_of_ble_eq_true rfl)
    rcases (by omega : kd = 0 ∨ kd = 1 ∨ kd = 2 ∨ kd = 3 ∨ kd = 4 ∨ kd = 5 ∨ kd = 6 ∨ 7 ≤ kd) with rfl | rfl | rfl | rfl | rfl | rfl | rfl | h7
    · refine q_isN (i := 0) w0 rfl (by decide) fun Gf wf => ?_
      refine mk_at (C0 := E.C_Trade) (as := [.c (.d (.int (6 + (n : Nat)))), .c (.d (.tuple []))]) (ea_cons (ev_addI ev_int (ev_var (i := 1) wf rfl)) (ea_cons (ev_tup ed_nil (Nat.zero_le _)) ea_nil)) fun vs H2 e2 aa => ?_
      obtain ⟨v1, v2, rfl, c1, c2⟩ := Pt.Args.two aa
      refine fun px dx hx hd ne => ?_
      have e3 := same_obj (C := E.C_Trade) hx hd
      exact ⟨px, v1, v2, _, _, .letters, rfl, Td.mono (.of e3) _ _ c1, Td.mono (.of e3) _ _ c2, .inl ⟨by simp [isWhole]; omega, rfl⟩, fun d H4 e5 g => x .letters rfl (by decide) d H4 ((wf.fr0.trans (e2.trans e3)).trans e5) g⟩
    · refine q_notN (i := 0) w0 rfl (by decide) fun G1 w1 => ?_
      refine q_isN (i := 0) w1 rfl (by decide) fun Gf wf => ?_
      refine mk_at (C0 := E.C_Trade) (as := [.c (.d (.int ((n : Nat) + 1))), .c (.d (.tuple [Pt.row [0, (n : Int)], Pt.row [0, (n : Int)]]))]) (ea_cons (ev_addI (ev_var (i := 1) wf rfl) ev_int) (ea_cons (ev_tup (ed_cons (ev_tup (ed_cons ev_int (ed_cons (ev_var (i := 1) wf rfl) ed_nil)) (Nat.le_of_ble_eq_true rfl)) (ed_cons (ev_tup (ed_cons ev_int (ed_cons (ev_var (i := 1) wf rfl) ed_nil)) (Nat.le_of_ble_eq_true rfl)) ed_nil)) (Nat.le_of_ble_eq_true rfl)) ea_nil)) fun vs H2 e2 aa => ?_
      obtain ⟨v1, v2, rfl, c1, c2⟩ := Pt.Args.two aa
      refine fun px dx hx hd ne => ?_
      have e3 := same_obj (C := E.C_Trade) hx hd
      exact ⟨px, v1, v2, _, _, .pairs, rfl, Td.mono (.of e3) _ _ c1, Td.mono (.of e3) _ _ c2, .inr ⟨_, rfl, by omega, by omega, bad_pairs h1 h5, rfl⟩, fun d H4 e5 g => x .pairs rfl (by decide) d H4 ((wf.fr0.trans (e2.trans e3)).trans e5) g⟩
    · refine q_notN (i := 0) w0 rfl (by decide) fun G1 w1 => ?_
      refine q_notN (i := 0) w1 rfl (by decide) fun G2 w2 => ?_
      refine q_isN (i := 0) w2 rfl (by decide) fun Gf wf => ?_
      exact s_ckR (cs := [.d (.tuple [.int (n : Nat), .tuple []]), .d (.tuple [])]) (o := some .trade) (ea_cons (ev_tup (ed_cons (ev_var (i := 1) wf rfl) (ed_cons (ev_tup ed_nil (Nat.zero_le _)) ed_nil)) (Nat.le_of_ble_eq_true rfl)) (ea_cons (ev_tup ed_nil (Nat.zero_le _)) ea_nil)) (.inl ⟨_, [.tuple []], .inl ⟨_, rfl⟩, rfl, rfl, rfl⟩) (fun z => nomatch z) fun k z d H2 e2 g => by
        cases z
        exact x .trade rfl (by decide) d H2 (wf.fr0.trans e2) g
    · refine q_notN (i := 0) w0 rfl (by decide) fun G1 w1 => ?_
      refine q_notN (i := 0) w1 rfl (by decide) fun G2 w2 => ?_
      refine q_notN (i := 0) w2 rfl (by decide) fun G3 w3 => ?_
      refine q_isN (i := 0) w3 rfl (by decide) fun Gf wf => ?_
      exact s_ckR (cs := [.t (n : Nat) [], .d (Pt.row [(n : Int)])]) (o := some .row) (ea_cons (ev_var (i := 2) wf rfl) (ea_cons (ev_tup (ed_cons (ev_var (i := 1) wf rfl) ed_nil) (Nat.le_of_ble_eq_true rfl)) ea_nil)) (.inr ⟨n, [], [Pt.row [(n : Int)]], by omega, fun d m => by
        obtain rfl := List.mem_singleton.mp m
        exact Nat.le_of_ble_eq_true rfl, .bad bad_row rfl, rfl, fun z => nomatch z⟩) (fun z => nomatch z) fun k z d H2 e2 g => by
        cases z
        exact x .row rfl (by decide) d H2 (wf.fr0.trans e2) g
    · refine q_notN (i := 0) w0 rfl (by decide) fun G1 w1 => ?_
      refine q_notN (i := 0) w1 rfl (by decide) fun G2 w2 => ?_
      refine q_notN (i := 0) w2 rfl (by decide) fun G3 w3 => ?_
      refine q_notN (i := 0) w3 rfl (by decide) fun G4 w4 => ?_
      refine q_isN (i := 0) w4 rfl (by decide) fun Gf wf => ?_
      exact s_ckR (cs := [.t (n : Nat) [], .d (Pt.row [0, 0]), .d (.int (n : Nat))]) (o := some .number) (ea_cons (ev_var (i := 2) wf rfl) (ea_cons (ev_tup (ed_cons ev_int (ed_cons ev_int ed_nil)) (Nat.le_of_ble_eq_true rfl)) (ea_cons (ev_var (i := 1) wf rfl) ea_nil))) (.inr (.inr ⟨n, [], [0, 0], .int (n : Nat), by omega, no_pairs _, ⟨by decide, by intro z m; simp at m; omega⟩, rfl, by rw [one_row]; simp [isWhole]; omega, rfl⟩)) (fun z => nomatch z) fun k z d H2 e2 g => by
        cases z
        exact x .number rfl (by decide) d H2 (wf.fr0.trans e2) g
    · refine q_notN (i := 0) w0 rfl (by decide) fun G1 w1 => ?_
      refine q_notN (i := 0) w1 rfl (by decide) fun G2 w2 => ?_
      refine q_notN (i := 0) w2 rfl (by decide) fun G3 w3 => ?_
      refine q_notN (i := 0) w3 rfl (by decide) fun G4 w4 => ?_
      refine q_notN (i := 0) w4 rfl (by decide) fun G5 w5 => ?_
      refine q_isN (i := 0) w5 rfl (by decide) fun Gf wf => ?_
      rcases five h1 h5 with rfl | rfl | rfl | rfl | rfl
      · exact s_ckR (cs := [.t ((1 : Nat) : Int) [], .d (Pt.row (List.replicate 9 0))]) (o := some .long) (ea_cons (ev_var (i := 2) wf rfl) (ea_cons (ev_d (ev_repT (k := 9) (ev_tup (ed_cons ev_int ed_nil) (Nat.le_of_ble_eq_true rfl)) (ev_addI ev_int (ev_var (i := 1) wf rfl)) (by decide) (by decide) (Nat.le_of_ble_eq_true rfl)) rfl) ea_nil)) ⟨1, [], List.replicate 9 0, ⟨by decide, by decide⟩, by decide, rfl, rfl⟩ (fun z => nomatch z) fun k z d H2 e2 g => by
          cases z
          exact x .long rfl (by decide) d H2 (wf.fr0.trans e2) g
      · exact s_ckR (cs := [.t ((2 : Nat) : Int) [], .d (Pt.row (List.replicate 10 0))]) (o := some .long) (ea_cons (ev_var (i := 2) wf rfl) (ea_cons (ev_d (ev_repT (k := 10) (ev_tup (ed_cons ev_int ed_nil) (Nat.le_of_ble_eq_true rfl)) (ev_addI ev_int (ev_var (i := 1) wf rfl)) (by decide) (by decide) (Nat.le_of_ble_eq_true rfl)) rfl) ea_nil)) ⟨2, [], List.replicate 10 0, ⟨by decide, by decide⟩, by decide, rfl, rfl⟩ (fun z => nomatch z) fun k z d H2 e2 g => by
          cases z
          exact x .long rfl (by decide) d H2 (wf.fr0.trans e2) g
      · exact s_ckR (cs := [.t ((3 : Nat) : Int) [], .d (Pt.row (List.replicate 11 0))]) (o := some .long) (ea_cons (ev_var (i := 2) wf rfl) (ea_cons (ev_d (ev_repT (k := 11) (ev_tup (ed_cons ev_int ed_nil) (Nat.le_of_ble_eq_true rfl)) (ev_addI ev_int (ev_var (i := 1) wf rfl)) (by decide) (by decide) (Nat.le_of_ble_eq_true rfl)) rfl) ea_nil)) ⟨3, [], List.replicate 11 0, ⟨by decide, by decide⟩, by decide, rfl, rfl⟩ (fun z => nomatch z) fun k z d H2 e2 g => by
          cases z
          exact x .long rfl (by decide) d H2 (wf.fr0.trans e2) g
      · exact s_ckR (cs := [.t ((4 : Nat) : Int) [], .d (Pt.row (List.replicate 12 0))]) (o := some .long) (ea_cons (ev_var (i := 2) wf rfl) (ea_cons (ev_d (ev_repT (k := 12) (ev_tup (ed_cons ev_int ed_nil) (Nat.le_of_ble_eq_true rfl)) (ev_addI ev_int (ev_var (i := 1) wf rfl)) (by decide) (by decide) (Nat.le_of_ble_eq_true rfl)) rfl) ea_nil)) ⟨4, [], List.replicate 12 0, ⟨by decide, by decide⟩, by decide, rfl, rfl⟩ (fun z => nomatch z) fun k z d H2 e2 g => by
          cases z
          exact x .long rfl (by decide) d H2 (wf.fr0.trans e2) g
      · exact s_ckR (cs := [.t ((5 : Nat) : Int) [], .d (Pt.row (List.replicate 13 0))]) (o := some .long) (ea_cons (ev_var (i := 2) wf rfl) (ea_cons (ev_d (ev_repT (k := 13) (ev_tup (ed_cons ev_int ed_nil) (Nat.le_of_ble_eq_true rfl)) (ev_addI ev_int (ev_var (i := 1) wf rfl)) (by decide) (by decide) (Nat.le_of_ble_eq_true rfl)) rfl) ea_nil)) ⟨5, [], List.replicate 13 0, ⟨by decide, by decide⟩, by decide, rfl, rfl⟩ (fun z => nomatch z) fun k z d H2 e2 g => by
          cases z
          exact x .long rfl (by decide) d H2 (wf.fr0.trans e2) g
    · refine q_notN (i := 0) w0 rfl (by decide) fun G1 w1 => ?_
      refine q_notN (i := 0) w1 rfl (by decide) fun G2 w2 => ?_
      refine q_notN (i := 0) w2 rfl (by decide) fun G3 w3 => ?_
      refine q_notN (i := 0) w3 rfl (by decide) fun G4 w4 => ?_
      refine q_notN (i := 0) w4 rfl (by decide) fun G5 w5 => ?_
      refine q_notN (i := 0) w5 rfl (by decide) fun G6 w6 => ?_
      refine s_if w6 (b := true) (et_cast (et_test (ev_eqI (ev_var (i := 0) w6 rfl) ev_int)) (decide_eq_true (by decide))) (fun _ Gf wf => ?_) (fun z => nomatch z)
      exact s_ckR (cs := [.t (n : Nat) [], .d (.int (500 + (n : Nat)))]) (o := some .size) (ea_cons (ev_var (i := 2) wf rfl) (ea_cons (ev_addI ev_int (ev_var (i := 1) wf rfl)) ea_nil)) (.inr ⟨n, [], [.int (500 + (n : Nat))], by omega, fun d m => by
        obtain rfl := List.mem_singleton.mp m
        exact True.intro, .bad (by show isWhole _ _ _ = false; simp [isWhole]; omega) rfl, rfl, fun z => nomatch z⟩) (fun z => nomatch z) fun k z d H2 e2 g => by
        cases z
        exact x .size rfl (by decide) d H2 (wf.fr0.trans e2) g
    · refine q_notN (i := 0) w0 rfl (by omega) fun G1 w1 => ?_
      refine q_notN (i := 0) w1 rfl (by omega) fun G2 w2 => ?_
      refine q_notN (i := 0) w2 rfl (by omega) fun G3 w3 => ?_
      refine q_notN (i := 0) w3 rfl (by omega) fun G4 w4 => ?_
      refine q_notN (i := 0) w4 rfl (by omega) fun G5 w5 => ?_
      refine q_notN (i := 0) w5 rfl (by omega) fun G6 w6 => ?_
      refine s_if w6 (b := false) (et_cast (et_test (ev_eqI (ev_var (i := 0) w6 rfl) ev_int)) (decide_eq_false (by omega))) (fun z => nomatch z) (fun _ G7 w7 => ?_)
      exact q h7 _ G7 w7.fr0
end
end K1
set_option maxRecDepth 10000000
namespace K1
open PySem PySem.Spec PyProof.Rows L2 Pt
local macro_rules
  | `(tactic| walk_at "sz") => `(tactic| first
    | omega
    | decide
    | (simp; omega)
    | (simp [iL, row, pairsD]; omega))
  | `(tactic| walk_at "ea") => `(tactic| first
    | (with_reducible exact ea_nil)
    | ((with_reducible apply ea_consL); (focus (walk_at "ev")); (focus (walk_at "ea")))
    | ((with_reducible apply ea_consS); (focus (walk_at "ev")); (focus (walk_at "ea")))
    | ((with_reducible apply ea_cons); (focus (walk_at "ev")); (focus (walk_at "ea")))
    | ((with_reducible apply ea_consN); (focus (walk_at "en")); (focus (walk_at "ea"))))
  | `(tactic| walk_at "ed") => `(tactic| first
    | (with_reducible exact ed_nil)
    | ((with_reducible apply ed_cons); (focus (walk_at "ev")); (focus (walk_at "ed"))))
  | `(tactic| walk_at "en") => `(tactic| first
    | ((with_reducible apply en_lst); (focus (walk_at "ed")); (focus (simp)))
    | ((with_reducible apply en_listT); (focus (walk_at "ev")))
    | ((with_reducible apply en_addL); (focus (walk_at "ev")); (focus (walk_at "en")); (focus (walk_at "sz")))
    | ((with_reducible apply en_addN); (focus (walk_at "en")); (focus (walk_at "en")); (focus (walk_at "sz")))
    | ((with_reducible apply en_slL); (focus (walk_at "ev")); (focus (walk_at "eo")); (focus (walk_at "eo"))))
  | `(tactic| walk_at "eo") => `(tactic| first
    | (with_reducible exact eo_none)
    | ((with_reducible apply eo_some); (focus (walk_at "ev"))))
  | `(tactic| walk_at "et") => `(tactic| first
    | (with_reducible exact et_yes)
    | ((with_reducible apply et_test); (focus (walk_at "ev")))
    | ((with_reducible apply et_B); (focus (walk_at "ev")))
    | ((with_reducible apply et_truB); (focus (walk_at "ev")))
    | ((with_reducible apply et_truT); (focus (walk_at "ev")))
    | ((with_reducible apply et_not); (focus (walk_at "et")))
    | ((with_reducible apply et_and); (focus (walk_at "et")); (focus (intro _; walk_at "et")))
    | ((with_reducible apply et_or); (focus (walk_at "et")); (focus (intro _; walk_at "et"))))
  | `(tactic| walk_at "var") => `(tactic| first
    | ((with_reducible apply ev_varD); (focus (assumption)); (focus (rfl)))
    | ((with_reducible apply ev_varL); (focus (assumption)); (focus (rfl)))
    | ((with_reducible apply ev_varS); (focus (assumption)); (focus (rfl)))
    | ((with_reducible apply ev_varT); (focus (assumption)); (focus (rfl)))
    | ((with_reducible apply ev_varH); (focus (assumption)); (focus (rfl)))
    | ((with_reducible apply ev_varZ); (focus (assumption)); (focus (rfl))))
  | `(tactic| walk_at "ev") => `(tactic| first
    | walk_at "var"
    | (with_reducible exact ev_int)
    | (with_reducible exact ev_bl)
    | (with_reducible exact ev_str)
    | (with_reducible exact ev_non)
    | ((with_reducible apply ev_letters); (focus (walk_at "ev")))
    | ((with_reducible apply ev_pairs); (focus (walk_at "ev")))
    | ((with_reducible apply ev_addI); (focus (walk_at "ev")); (focus (walk_at "ev")))
    | ((with_reducible apply ev_addT); (focus (walk_at "ev")); (focus (walk_at "ev")); (focus (walk_at "sz")))
    | ((with_reducible apply ev_i0); (focus (walk_at "ev")); (focus (walk_at "ev")); (focus (first | exact fun _ => .int _ | exact fun _ => .bl _)))
    | ((with_reducible apply ev_iC); (focus (walk_at "ev")); (focus (walk_at "ev")); (focus (first | assumption | walk_at "cond")); (focus (exact fun _ => .int _)))
    | ((with_reducible apply ev_chain); (focus (walk_at "ev")); (focus (walk_at "ev")); (focus (walk_at "ev")))
    | ((with_reducible apply ev_eqI); (focus (walk_at "ev")); (focus (walk_at "ev")))
    | ((with_reducible apply ev_neI); (focus (walk_at "ev")); (focus (walk_at "ev")))
    | ((with_reducible apply ev_eqR); (focus (walk_at "ev")); (focus (walk_at "ev")))
    | ((with_reducible apply ev_neR); (focus (walk_at "ev")); (focus (walk_at "ev")))
    | ((with_reducible apply ev_isN); (focus (walk_at "ev")))
    | ((with_reducible apply ev_notN); (focus (walk_at "ev")))
    | ((with_reducible apply ev_in2); (focus (walk_at "ev")); (focus (walk_at "ev")); (focus (walk_at "ev")))
    | ((with_reducible apply ev_inP); (focus (walk_at "ev")); (focus (walk_at "ev")))
    | ((with_reducible apply ev_tup); (focus (walk_at "ed")); (focus (simp)))
    | ((with_reducible apply ev_lenT); (focus (walk_at "ev")))
    | ((with_reducible apply ev_lenL); (focus (walk_at "ev")))
    | ((with_reducible apply ev_lenS); (focus (walk_at "ev")))
    | ((with_reducible apply ev_lenN); (focus (walk_at "en")))
    | ((with_reducible apply ev_max2); (focus (walk_at "ev")); (focus (walk_at "ev")))
    | ((with_reducible apply ev_min2); (focus (walk_at "ev")); (focus (walk_at "ev")))
    | ((with_reducible apply ev_int1); (focus (walk_at "ev")))
    | ((with_reducible apply ev_tupleL); (focus (walk_at "ev")))
    | ((with_reducible apply ev_tupleN); (focus (walk_at "en")))
    | ((with_reducible apply ev_countT); (focus (walk_at "ev")); (focus (walk_at "ev")))
    | ((with_reducible apply ev_andV); (focus (walk_at "ev")); (focus (intro _; walk_at "ev")))
    | ((with_reducible apply ev_orV); (focus (walk_at "ev")); (focus (intro _; walk_at "ev")))
    | ((with_reducible apply ev_notV); (focus (walk_at "ev"))))
section
variable {P : Program} {w : World} {K : PySem.W.Frag} {mg : Str → Option Value} {base : Heap}
section
variable {C L CB CF : Addr} {H H0 : Hp} {S : List Addr} {G : List (V × PyData)} {σ : L2.St} {Γ : List Ct} {D : Ends} {X : XK} {i : Nat} {p q : Addr} {n y : Int} {ps : List (Int × Int)} {rs : List (List Int)} {l : List Int} {te : TE}
theorem add_go (w : Wd K C S G H0 H σ Γ) (hi : Γ[i]? = some (.n L p q n ps ((rs ++ [l]).map row))) (hl : rs.length < 1000000) (hok : PairsOk n ps) (h0 : 0 ≤ n) (h6 : n ≤ 6) (hrow : rowOk n l) (hx : EvC K C te σ H (.d (.int y))) (y0 : 0 ≤ y) (y1 : y < n) (h20 : l.length < 20)
    (k : ∀ H', Wd K C S G H0 H' σ (Γ.set i (.n L p q n ps ((rs ++ [l] ++ [l ++ [y]]).map row))) → D.nx σ H') : tDrop (tMeth L "add" (spAdd K C L CB CF) [] X (tVar i) (tCons te tNil)) D σ H := by
  obtain ⟨v, ev, a⟩ := w.get hi
  obtain rfl : v = .ref p := a.1
  obtain ⟨dx, tr, b1, _⟩ := id a.2.1
  refine ⟨.ref p, ev, p, dx, _, rfl, b1, lflds_no _ _ (by decide +kernel) (by decide +kernel), hx H (Same.refl H) _ fun v2 H2 e2 a2 => ?_⟩
  have w2 := w.mono e2
  refine ⟨p, q, n, ps, v2, .int y, rs, l, rfl, a2, CtAt.mono e2 a, hl, hok, h0, h6, hrow, fun e => ?_, fun _ e => ?_, fun k' e _ _ _ H' f a' => ?_⟩
  · simp [isWhole] at e
    omega
  · omega
  · cases e
    exact k H' (w2.chgLn hi f a')
theorem add_full (w : Wd K C S G H0 H σ Γ) (hi : Γ[i]? = some (.n L p q n ps ((rs ++ [l]).map row))) (hl : rs.length < 1000000) (hok : PairsOk n ps) (h0 : 0 ≤ n) (h6 : n ≤ 6) (hrow : rowOk n l) (hx : EvC K C te σ H (.d (.int y))) (y0 : 0 ≤ y) (y1 : y < n) (h20 : l.length = 20)
    (x : ∀ H', Same H H' → X (.ref CF) none H') : tDrop (tMeth L "add" (spAdd K C L CB CF) [] X (tVar i) (tCons te tNil)) D σ H := by
  obtain ⟨v, ev, a⟩ := w.get hi
  obtain rfl : v = .ref p := a.1
  obtain ⟨dx, tr, b1, _⟩ := id a.2.1
  refine ⟨.ref p, ev, p, dx, _, rfl, b1, lflds_no _ _ (by decide +kernel) (by decide +kernel), hx H (Same.refl H) _ fun v2 H2 e2 a2 => ?_⟩
  exact ⟨p, q, n, ps, v2, .int y, rs, l, rfl, a2, CtAt.mono e2 a, hl, hok, h0, h6, hrow, fun e => (by simp [isWhole] at e; omega), fun _ _ H' s => x H' (e2.trans s), fun _ _ _ _ z => (by omega)⟩
theorem swap_bad (w : Wd K C S G H0 H σ Γ) (hi : Γ[i]? = some (.n L p q n ps ((rs ++ [l]).map row))) (hl : rs.length < 1000000) (h20 : l.length ≤ 20) (hx : EvC K C te σ H (.d (.int y))) (hb : chgD ps l (.int y) = false) (x : ∀ H', Same H H' → X (.ref CB) none H') : tDrop (tMeth L "swap" (spSwap K C L CB) [] X (tVar i) (tCons te tNil)) D σ H := by
  obtain ⟨v, ev, a⟩ := w.get hi
  obtain rfl : v = .ref p := a.1
  obtain ⟨dx, tr, b1, _⟩ := id a.2.1
  refine ⟨.ref p, ev, p, dx, _, rfl, b1, lflds_no _ _ (by decide +kernel) (by decide +kernel), hx H (Same.refl H) _ fun v2 H2 e2 a2 => ?_⟩
  exact ⟨p, q, n, ps, v2, .int y, rs, l, rfl, a2, CtAt.mono e2 a, hl, h20, fun _ H' s => x H' (e2.trans s), fun k e z => (by rw [hb] at z; cases z)⟩
end
def ltR (n t : Nat) : List Int := (List.range t).map fun j => ((j : Nat) : Int) % (n : Int)
def rsR (n t : Nat) : List (List Int) := (List.range t).map (ltR n)
theorem ltR_succ (n t : Nat) : ltR n (t + 1) = ltR n t ++ [((t : Nat) : Int) % (n : Int)] := by unfold ltR; rw [List.range_succ, List.map_append]; rfl
theorem rsR_succ (n t : Nat) : rsR n (t + 1) = rsR n t ++ [ltR n t] := by unfold rsR; rw [List.range_succ, List.map_append]; rfl
theorem ltR_ok {n t : Nat} (h1 : 1 ≤ n) (ht : t ≤ 20) : rowOk n (ltR n t) := ⟨by unfold ltR; rw [List.length_map, List.length_range]; exact ht, fun y m => by
  unfold ltR at m
  obtain ⟨j, _, rfl⟩ := List.mem_map.mp m
  have a := Int.emod_nonneg ((j : Nat) : Int) (show (n : Int) ≠ 0 by omega)
  have b := Int.emod_lt_of_pos ((j : Nat) : Int) (show (0 : Int) < n by omega)
  omega⟩
theorem s_callD {C : Addr} {H : Hp} {σ : L2.St} {D : Ends} {sp : Sp} {X : XK} {ts : TA} {as : List Ag} (ha : EvA K C ts σ H as) (k : ∀ vs H2, Same H H2 → Pt.Args K C H2 vs as → sp vs H2 (fun _ H3 => D.nx σ H3) X) : tDrop (tCall sp [] X ts) D σ H := ha H (Same.refl H) _ fun vs H2 e a => by
  rw [List.append_nil]
  exact k vs H2 e a
def txt (n : Nat) : Str := if n = 1 then "(a)" else ⟨(List.replicate n ("(a)" : Str).cps).foldl (· ++ ·) #[]⟩
theorem ev_txt {C : Addr} {H : Hp} {σ : L2.St} {tb : TE} {n : Nat} (h1 : 1 ≤ n) (h5 : n ≤ 5) (hb : EvC K C tb σ H (.d (.int (n : Nat)))) : EvC K C (tOp rMulS1 (tC (.str "(a)")) tb) σ H (.d (.str (txt n))) :=
  ev_op2 ev_str hb fun H1 _ x y a1 a2 Q q => by
    by_cases e : n = 1
    · subst e
      exact .inl ⟨"(a)", Td.str_of a1, Td.int_of a2, q _ H1 (Same.refl H1) (.str _)⟩
    · exact .inr ⟨"(a)", n, Td.str_of a1, Td.int_of a2, by omega, by omega, by decide, by decide, q _ H1 (Same.refl H1) (by unfold txt; rw [if_neg e]; exact .str _)⟩
theorem run_txt {n : Nat} (h1 : 1 ≤ n) (h5 : n ≤ 5) : runR (n : Nat) [] (txt n ++ "()").cps.toList Rd.init 0 = .inl (3 * n + 1) := by
  rcases five h1 h5 with rfl | rfl | rfl | rfl | rfl <;> first | rfl | decide +kernel
theorem len_txt {n : Nat} (h1 : 1 ≤ n) (h5 : n ≤ 5) : (txt n).length + ("()" : Str).length ≤ 100000 ∧ (txt n ++ "()").length ≤ 100000 := by
  rcases five h1 h5 with rfl | rfl | rfl | rfl | rfl <;> first | exact ⟨Nat.le_of_ble_eq_true rfl, Nat.le_of_ble_eq_true rfl⟩ | decide +kernel
theorem bad_facts {n : Nat} (h1 : 1 ≤ n) (h5 : n ≤ 5) : badFs (1 + (n : Int) % 4) (.tuple [.tuple [Pt.row [0], Pt.row [0], .str "alike"], Pt.row [(n : Int)]]) := ⟨.tuple [Pt.row [0], Pt.row [0], .str "alike"], Pt.row [(n : Int)], rfl, Nat.le_of_ble_eq_true rfl, ⟨Nat.le_of_ble_eq_true rfl, Nat.le_of_ble_eq_true rfl, .inr ⟨_, rfl⟩⟩, Nat.le_of_ble_eq_true rfl, True.intro, by rcases five h1 h5 with rfl | rfl | rfl | rfl | rfl <;> decide +kernel, rfl⟩
def spDo (E : Nv K mg) : Sp := fun vs H Q X => ∃ (kd n : Nat), vs = [.int (kd : Nat), .int (n : Nat)] ∧ 1 ≤ n ∧ n ≤ 5 ∧ kd < 13 ∧ ∀ k : Ek, k.n = kd → ∀ d H', Same H H' → DK n k d H' → X (.ref (clsK E k)) d H'
theorem ok__law_do (E : Nv K mg) : FnOk P w K mg base (L2N.CX P w) 60 E.a__law_do E.d__law_do ["_law_kind", "_law_n"] (spDo E) := by
  refine fun_okN E.F__law_do sc__law_do (fun vs H Q X h => ?_) (fun cdv A outer s H vs Q X hr h => ?_)
  · obtain ⟨_, _, rfl, _⟩ := h
    rfl
  · obtain ⟨kd, n, rfl, h1, h5, hk, x⟩ := h
    refine ⟨_, (pss_cons (ps_set (i := 2) sc__law_do.nd rfl (.inl rfl) (pe_make E.mk_Trade (ok_Trade___init__ E) (hr.mono (by first | decide | omega)) (by rfl) E.m_Trade E.b_Trade___init__ .nil pass0 (pa_cons (pv 1) (pa_cons (pe_tupF pa_nil) pa_nil))))
      (pss_cons (ps_expr (pe_call (ok__law_early E) (hr.mono (by first | decide | omega)) (by rfl) E.m__law_early E.F__law_early.kp E.b__law_early .nil (L2N.passes_call (L2N.takes_of rfl rfl rfl rfl) (fun _ _ _ _ h => h)) (pa_cons (pv 0) (pa_cons (pv 1) (pa_cons (pv 2) pa_nil)))))
      (pss_cons (ps_set (i := 3) sc__law_do.nd rfl (.inl rfl) (pe_make E.mk_Line (ok_Line___init__ E) (hr.mono (by first | decide | omega)) (by rfl) E.m_Line E.b_Line___init__ .nil pass0 (pa_cons (pv 2) pa_nil)))
      (pss_cons (ps_if (pt_cmpR (op_eqK K hr.units) (pv 0) pe_int (nomark _)) (pss_one (ps_expr (pe_call (ok_how_many_byB E) (hr.mono (by first | decide | omega)) (by rfl) E.m_how_many_by E.F_how_many_by.kp E.b_how_many_by .nil (L2N.passes_call (L2N.takes_of rfl rfl rfl rfl) (fun _ _ _ _ h => h)) (pa_cons (pv 2) (pa_cons (pv 1) (pa_cons pe_int pa_nil)))))) pss_nil)
      (pss_cons (ps_if (pt_cmpR (op_eqK K hr.units) (pv 0) pe_int (nomark _)) (pss_one (ps_expr (pe_call (ok_trades_byB E) (hr.mono (by first | decide | omega)) (by rfl) E.m_trades_by E.F_trades_by.kp E.b_trades_by .nil (L2N.passes_call (L2N.takes_of rfl rfl rfl rfl) (fun _ _ _ _ h => h)) (pa_cons (pe_op (op_addK K) pe_int (pe_op op_mod (pv 1) pe_int)) (pa_cons (pe_tupF (pa_cons (pe_tupF (pa_cons (pe_tupF (pa_cons pe_int pa_nil)) (pa_cons (pe_tupF (pa_cons pe_int pa_nil)) (pa_cons pe_str pa_nil)))) (pa_cons (pe_tupF (pa_cons (pv 1) pa_nil)) pa_nil))) pa_nil))))) pss_nil)
      (pss_cons (ps_if (pt_cmpR (op_eqK K hr.units) (pv 0) pe_int (nomark _)) (pss_one (ps_expr (pe_meth (pv 3) E.cl_Line E.me_Line_add (ok_Line_add E) (hr.mono (by first | decide | omega)) E.b_Line_add .nil (L2N.passes_call (L2N.takes_of rfl rfl rfl rfl) (fun _ _ _ _ h => h)) (pa_cons (pv 1) pa_nil)))) pss_nil)
      (pss_cons (ps_if (pt_cmpR (op_eqK K hr.units) (pv 0) pe_int (nomark _)) (pss_one (ps_for (passes_of rfl) rfl (pi_range1 (by rfl) E.n_range (pa_cons pe_int pa_nil)) (pg_name (i := 4) sc__law_do.nd rfl (.inl rfl))
      (pss_one (ps_expr (pe_meth (pv 3) E.cl_Line E.me_Line_add (ok_Line_add E) (hr.mono (by first | decide | omega)) E.b_Line_add .nil (L2N.passes_call (L2N.takes_of rfl rfl rfl rfl) (fun _ _ _ _ h => h)) (pa_cons (pe_op op_mod (pv 4) (pv 1)) pa_nil)))))) pss_nil)
      (pss_cons (ps_if (pt_cmpR (op_eqK K hr.units) (pv 0) pe_int (nomark _)) (pss_cons (ps_expr (pe_meth (pv 3) E.cl_Line E.me_Line_add (ok_Line_add E) (hr.mono (by first | decide | omega)) E.b_Line_add .nil (L2N.passes_call (L2N.takes_of rfl rfl rfl rfl) (fun _ _ _ _ h => h)) (pa_cons pe_int pa_nil)))
      (pss_one (ps_expr (pe_meth (pv 3) E.cl_Line E.me_Line_swap (ok_Line_swap E) (hr.mono (by first | decide | omega)) E.b_Line_swap .nil (L2N.passes_call (L2N.takes_of rfl rfl rfl rfl) (fun _ _ _ _ h => h)) (pa_cons pe_int pa_nil))))) pss_nil)
      (pss_one (ps_if (pt_cmpR (op_eqK K hr.units) (pv 0) pe_int (nomark _)) (pss_one (ps_expr (pe_call (ok_read_row E) (hr.mono (by first | decide | omega)) (by rfl) E.m_read_row E.F_read_row.kp E.b_read_row .nil (L2N.passes_call (L2N.takes_of rfl rfl rfl rfl) (fun _ _ _ _ h => h)) (pa_cons (pv 2) (pa_cons (pe_op op_addSt (pe_op op_mulS1 pe_str (pv 1)) pe_str) pa_nil))))) pss_nil)))))))))), ?_⟩
    have w0 : Wd K E.C_Trade [] [] H H (L2.start N__law_do [.int (kd : Nat), .int (n : Nat)]) [.d (.int (kd : Nat)), .d (.int (n : Nat)), .u, .u, .u] := Wd.start (cs := [.d (.int (kd : Nat)), .d (.int (n : Nat))]) (N := N__law_do) (vs := [.int (kd : Nat), .int (n : Nat)]) ⟨Td.int _, Td.int _, True.intro⟩ rfl (hl := Nat.le_of_ble_eq_true rfl)
    refine q_asg (i := 2) w0 (c := .t (n : Nat) []) (ev_makeT (n := (n : Nat)) (ps := []) (ev_var (i := 1) w0 rfl) (ev_tup ed_nil (Nat.zero_le _)) (by omega) (by omega) (no_pairs _)) (ha := rfl) fun vt σ1 H1 _ w1 => ?_
    have w1' : Wd K E.C_Trade [] [] H H1 σ1 [.d (.int (kd : Nat)), .d (.int (n : Nat)), .t (n : Nat) [], .u, .u] := w1
    obtain ⟨x0, e0, a0⟩ := w1'.get (i := 0) rfl
    obtain ⟨x1, e1, a1⟩ := w1'.get (i := 1) rfl
    obtain ⟨x2, e2, a2⟩ := w1'.get (i := 2) rfl
    rw [Td.int_of a0] at e0
    rw [Td.int_of a1] at e1
    refine ⟨_, e0, _, e1, _, e2, kd, n, x2, rfl, a2, h1, h5, hk, fun h7 v2 H2 s2 => ?_, fun k ek _ d H2 s2 g => x k ek d H2 (w1'.fr0.trans s2) g⟩
    have w2 := w1'.mono s2
    refine q_asgLn (i := 3) w2 (el_make (L := E.C_Line) (ev_var (i := 2) w2 rfl)) fun pl ql σ3 H3 w3 => ?_
    have w3' : Wd K E.C_Trade [] [] H H3 σ3 [.d (.int (kd : Nat)), .d (.int (n : Nat)), .t (n : Nat) [], .n E.C_Line pl ql (n : Nat) [] [Pt.row []], .u] := w3
    rcases (by omega : kd = 7 ∨ kd = 8 ∨ kd = 9 ∨ kd = 10 ∨ kd = 11 ∨ kd = 12) with rfl | rfl | rfl | rfl | rfl | rfl
    · refine q_isN (i := 0) w3' rfl (by decide) fun Gf wf => ?_
      exact s_ckR (cs := [.t (n : Nat) [], .d (.int (n : Nat)), .d (.int 0)]) (o := some .modulus) (ea_cons (ev_var (i := 2) wf rfl) (ea_cons (ev_var (i := 1) wf rfl) (ea_cons ev_int ea_nil))) (.inr ⟨n, [], [.int (n : Nat), .int 0], by omega, fun d m => by
        rcases List.mem_cons.mp m with rfl | m
        · exact True.intro
        · obtain rfl := List.mem_singleton.mp m
          exact True.intro, .ok (by show isWhole _ _ _ = true; simp [isWhole]; omega) (.bad (by rfl) rfl), rfl, fun z => nomatch z⟩) (fun z => nomatch z) fun k z d H2 e2 g => by
        cases z
        exact x .modulus rfl d H2 (wf.fr0.trans e2) g
    · refine q_notN (i := 0) w3' rfl (by decide) fun G4 w4 => ?_
      refine q_isN (i := 0) w4 rfl (by decide) fun Gf wf => ?_
      exact s_ckR (cs := [.d (.int (1 + (n : Int) % 4)), .d (.tuple [.tuple [Pt.row [0], Pt.row [0], .str "alike"], Pt.row [(n : Int)]])]) (o := some .facts) (ea_cons (ev_addI ev_int (ev_iC (d := .int ((n : Int) % 4)) (ev_var (i := 1) wf rfl) ev_int (by decide) (fun _ => .int _))) (ea_cons (ev_tup (ed_cons (ev_tup (ed_cons (ev_tup (ed_cons ev_int ed_nil) (Nat.le_of_ble_eq_true rfl)) (ed_cons (ev_tup (ed_cons ev_int ed_nil) (Nat.le_of_ble_eq_true rfl)) (ed_cons ev_str ed_nil))) (Nat.le_of_ble_eq_true rfl)) (ed_cons (ev_tup (ed_cons (ev_var (i := 1) wf rfl) ed_nil) (Nat.le_of_ble_eq_true rfl)) ed_nil)) (Nat.le_of_ble_eq_true rfl)) ea_nil)) (.inr ⟨_, _, by omega, by omega, bad_facts h1 h5, rfl, rfl⟩) (fun z => nomatch z) fun k z d H2 e2 g => by
        cases z
        exact x .facts rfl d H2 (wf.fr0.trans e2) g
    · refine q_notN (i := 0) w3' rfl (by decide) fun G4 w4 => ?_
      refine q_notN (i := 0) w4 rfl (by decide) fun G5 w5 => ?_
      refine q_isN (i := 0) w5 rfl (by decide) fun Gf wf => ?_
      obtain ⟨v, ev, a⟩ := wf.get (i := 3) rfl
      obtain rfl : v = .ref pl := a.1
      obtain ⟨dx, tr, b1, _⟩ := id a.2.1
      obtain ⟨vn, en, an⟩ := wf.get (i := 1) rfl
      exact ⟨.ref pl, ev, pl, dx, _, rfl, b1, lflds_no _ _ (by decide +kernel) (by decide +kernel), vn, en, pl, ql, (n : Nat), [], vn, .int (n : Nat), [], [], rfl, an, a, by decide, no_pairs _, by omega, by omega, ⟨by decide, fun y m => nomatch m⟩, fun _ H' s => x .letter rfl none H' (wf.fr0.trans s) rfl, fun e => (by simp [isWhole] at e; omega), fun k e k0 k1 => by cases e; omega⟩
    · refine q_notN (i := 0) w3' rfl (by decide) fun G4 w4 => ?_
      refine q_notN (i := 0) w4 rfl (by decide) fun G5 w5 => ?_
      refine q_notN (i := 0) w5 rfl (by decide) fun G6 w6 => ?_
      refine q_isN (i := 0) w6 rfl (by decide) fun Gf wf => ?_
      refine s_forR1 (j := 4) wf (n := 21) (ea_cons ev_int ea_nil) (by decide) (fun t σ H' => t ≤ 20 ∧ ∃ c4, Wd K E.C_Trade [] [] H H' σ [.d (.int (10 : Nat)), .d (.int (n : Nat)), .t (n : Nat) [], .n E.C_Line pl ql (n : Nat) [] ((rsR n t ++ [ltR n t]).map Pt.row), c4]) (fun G w => ⟨Nat.zero_le _, _, w⟩) ?_ ?_
      · rintro t σ H' ht ⟨t20, c4, w⟩
        have w9 : Wd K E.C_Trade [] [] H H' _ [.d (.int (10 : Nat)), .d (.int (n : Nat)), .t (n : Nat) [], .n E.C_Line pl ql (n : Nat) [] ((rsR n t ++ [ltR n t]).map Pt.row), .d (.int (t : Nat))] := w.set 4 (v := .int (t : Nat)) (c := .d (.int (t : Nat))) (Td.int _)
        have lr : (rsR n t).length < 1000000 := by unfold rsR; rw [List.length_map, List.length_range]; omega
        have a := Int.emod_nonneg ((t : Nat) : Int) (show (n : Int) ≠ 0 by omega)
        have b := Int.emod_lt_of_pos ((t : Nat) : Int) (show (0 : Int) < n by omega)
        have ll : (ltR n t).length = t := by unfold ltR; rw [List.length_map, List.length_range]
        by_cases e : t = 20
        · exact add_full (i := 3) w9 rfl lr (no_pairs _) (by omega) (by omega) (ltR_ok h1 t20) (ev_iC (d := .int (((t : Nat) : Int) % (n : Int))) (ev_var (i := 4) w9 rfl) (ev_var (i := 1) w9 rfl) (by show 0 < (n : Int); omega) (fun _ => .int _)) a b (by omega) fun H2 s => x .full rfl none H2 (w9.fr0.trans s) rfl
        · refine add_go (i := 3) w9 rfl lr (no_pairs _) (by omega) (by omega) (ltR_ok h1 t20) (ev_iC (d := .int (((t : Nat) : Int) % (n : Int))) (ev_var (i := 4) w9 rfl) (ev_var (i := 1) w9 rfl) (by show 0 < (n : Int); omega) (fun _ => .int _)) a b (by omega) fun H2 w10 => ⟨by omega, .d (.int (t : Nat)), ?_⟩
          rw [rsR_succ, ltR_succ]
          exact w10
      · rintro σ H' ⟨t20, _⟩
        have t20 : 21 ≤ 20 := t20
        omega
    · refine q_notN (i := 0) w3' rfl (by decide) fun G4 w4 => ?_
      refine q_notN (i := 0) w4 rfl (by decide) fun G5 w5 => ?_
      refine q_notN (i := 0) w5 rfl (by decide) fun G6 w6 => ?_
      refine q_notN (i := 0) w6 rfl (by decide) fun G7 w7 => ?_
      refine q_isN (i := 0) w7 rfl (by decide) fun Gf wf => ?_
      refine add_go (i := 3) (rs := []) (l := []) wf rfl (by decide) (no_pairs _) (by omega) (by omega) ⟨by decide, fun y m => nomatch m⟩ ev_int (by decide) (by omega) (by decide) fun G8 w8 => ?_
      exact swap_bad (i := 3) (rs := [[]]) (l := [0]) w8 rfl (by decide) (by decide) ev_int (by decide) fun H' s => x .place rfl none H' (w8.fr0.trans s) rfl
    · refine q_notN (i := 0) w3' rfl (by decide) fun G4 w4 => ?_
      refine q_notN (i := 0) w4 rfl (by decide) fun G5 w5 => ?_
      refine q_notN (i := 0) w5 rfl (by decide) fun G6 w6 => ?_
      refine q_notN (i := 0) w6 rfl (by decide) fun G7 w7 => ?_
      refine q_notN (i := 0) w7 rfl (by decide) fun G8 w8 => ?_
      refine s_if w8 (b := true) (et_cast (et_test (ev_eqI (ev_var (i := 0) w8 rfl) ev_int)) (decide_eq_true (by decide))) (fun _ Gf wf => ?_) (fun z => nomatch z)
      refine s_callD (as := [.c (.t (n : Nat) []), .c (.d (.str (txt n ++ "()")))]) (ea_cons (ev_var (i := 2) wf rfl) (ea_cons (ev_addSt (ev_txt h1 h5 (ev_var (i := 1) wf rfl)) ev_str (Nat.le_trans (len_txt h1 h5).1 (by decide))) ea_nil)) fun vs H5 e5 aa => ?_
      obtain ⟨v3, v4, rfl, c1, c2⟩ := Pt.Args.two aa
      obtain rfl := Td.str_of c2
      refine ⟨(n : Nat), [], v3, _, rfl, c1, no_pairs _, by omega, by omega, (len_txt h1 h5).2, fun l v5 H6 y => ?_, fun j dd H6 y s6 hd => ?_⟩
      · rw [run_txt h1 h5] at y
        cases y
      · rw [run_txt h1 h5] at y
        cases y
        exact x .text rfl (some dd) H6 (wf.fr0.trans (e5.trans s6)) ⟨dd, rfl, hd⟩
end
end K1
set_option maxRecDepth 10000000
namespace K1
open PySem PySem.Spec PyProof.Rows L2 Pt
local macro_rules
  | `(tactic| walk_at "sz") => `(tactic| first
    | omega
    | decide
    | (simp; omega)
    | (simp [iL, row, pairsD]; omega))
  | `(tactic| walk_at "ea") => `(tactic| first
    | (with_reducible exact ea_nil)
    | ((with_reducible apply ea_consL); (focus (walk_at "ev")); (focus (walk_at "ea")))
    | ((with_reducible apply ea_consS); (focus (walk_at "ev")); (focus (walk_at "ea")))
    | ((with_reducible apply ea_cons); (focus (walk_at "ev")); (focus (walk_at "ea")))
    | ((with_reducible apply ea_consN); (focus (walk_at "en")); (focus (walk_at "ea"))))
  | `(tactic| walk_at "ed") => `(tactic| first
    | (with_reducible exact ed_nil)
    | ((with_reducible apply ed_cons); (focus (walk_at "ev")); (focus (walk_at "ed"))))
  | `(tactic| walk_at "en") => `(tactic| first
    | ((with_reducible apply en_lst); (focus (walk_at "ed")); (focus (simp)))
    | ((with_reducible apply en_listT); (focus (walk_at "ev")))
    | ((with_reducible apply en_addL); (focus (walk_at "ev")); (focus (walk_at "en")); (focus (walk_at "sz")))
    | ((with_reducible apply en_addN); (focus (walk_at "en")); (focus (walk_at "en")); (focus (walk_at "sz")))
    | ((with_reducible apply en_slL); (focus (walk_at "ev")); (focus (walk_at "eo")); (focus (walk_at "eo"))))
  | `(tactic| walk_at "eo") => `(tactic| first
    | (with_reducible exact eo_none)
    | ((with_reducible apply eo_some); (focus (walk_at "ev"))))
  | `(tactic| walk_at "et") => `(tactic| first
    | (with_reducible exact et_yes)
    | ((with_reducible apply et_test); (focus (walk_at "ev")))
    | ((with_reducible apply et_B); (focus (walk_at "ev")))
    | ((with_reducible apply et_truB); (focus (walk_at "ev")))
    | ((with_reducible apply et_truT); (focus (walk_at "ev")))
    | ((with_reducible apply et_not); (focus (walk_at "et")))
    | ((with_reducible apply et_and); (focus (walk_at "et")); (focus (intro _; walk_at "et")))
    | ((with_reducible apply et_or); (focus (walk_at "et")); (focus (intro _; walk_at "et"))))
  | `(tactic| walk_at "var") => `(tactic| first
    | ((with_reducible apply ev_varD); (focus (assumption)); (focus (rfl)))
    | ((with_reducible apply ev_varL); (focus (assumption)); (focus (rfl)))
    | ((with_reducible apply ev_varS); (focus (assumption)); (focus (rfl)))
    | ((with_reducible apply ev_varT); (focus (assumption)); (focus (rfl)))
    | ((with_reducible apply ev_varH); (focus (assumption)); (focus (rfl)))
    | ((with_reducible apply ev_varZ); (focus (assumption)); (focus (rfl))))
  | `(tactic| walk_at "ev") => `(tactic| first
    | walk_at "var"
    | (with_reducible exact ev_int)
    | (with_reducible exact ev_bl)
    | (with_reducible exact ev_str)
    | (with_reducible exact ev_non)
    | ((with_reducible apply ev_letters); (focus (walk_at "ev")))
    | ((with_reducible apply ev_pairs); (focus (walk_at "ev")))
    | ((with_reducible apply ev_addI); (focus (walk_at "ev")); (focus (walk_at "ev")))
    | ((with_reducible apply ev_addT); (focus (walk_at "ev")); (focus (walk_at "ev")); (focus (walk_at "sz")))
    | ((with_reducible apply ev_i0); (focus (walk_at "ev")); (focus (walk_at "ev")); (focus (first | exact fun _ => .int _ | exact fun _ => .bl _)))
    | ((with_reducible apply ev_iC); (focus (walk_at "ev")); (focus (walk_at "ev")); (focus (first | assumption | walk_at "cond")); (focus (exact fun _ => .int _)))
    | ((with_reducible apply ev_chain); (focus (walk_at "ev")); (focus (walk_at "ev")); (focus (walk_at "ev")))
    | ((with_reducible apply ev_eqI); (focus (walk_at "ev")); (focus (walk_at "ev")))
    | ((with_reducible apply ev_neI); (focus (walk_at "ev")); (focus (walk_at "ev")))
    | ((with_reducible apply ev_eqR); (focus (walk_at "ev")); (focus (walk_at "ev")))
    | ((with_reducible apply ev_neR); (focus (walk_at "ev")); (focus (walk_at "ev")))
    | ((with_reducible apply ev_isN); (focus (walk_at "ev")))
    | ((with_reducible apply ev_notN); (focus (walk_at "ev")))
    | ((with_reducible apply ev_in2); (focus (walk_at "ev")); (focus (walk_at "ev")); (focus (walk_at "ev")))
    | ((with_reducible apply ev_inP); (focus (walk_at "ev")); (focus (walk_at "ev")))
    | ((with_reducible apply ev_tup); (focus (walk_at "ed")); (focus (simp)))
    | ((with_reducible apply ev_lenT); (focus (walk_at "ev")))
    | ((with_reducible apply ev_lenL); (focus (walk_at "ev")))
    | ((with_reducible apply ev_lenS); (focus (walk_at "ev")))
    | ((with_reducible apply ev_lenN); (focus (walk_at "en")))
    | ((with_reducible apply ev_max2); (focus (walk_at "ev")); (focus (walk_at "ev")))
    | ((with_reducible apply ev_min2); (focus (walk_at "ev")); (focus (walk_at "ev")))
    | ((with_reducible apply ev_int1); (focus (walk_at "ev")))
    | ((with_reducible apply ev_tupleL); (focus (walk_at "ev")))
    | ((with_reducible apply ev_tupleN); (focus (walk_at "en")))
    | ((with_reducible apply ev_countT); (focus (walk_at "ev")); (focus (walk_at "ev")))
    | ((with_reducible apply ev_andV); (focus (walk_at "ev")); (focus (intro _; walk_at "ev")))
    | ((with_reducible apply ev_orV); (focus (walk_at "ev")); (focus (intro _; walk_at "ev")))
    | ((with_reducible apply ev_notV); (focus (walk_at "ev"))))
section
variable {P : Program} {w : World} {K : PySem.W.Frag} {mg : Str → Option Value} {base : Heap}
theorem takes0N {X : Cx} : L2N.Takes X (fun _ _ _ _ => False) := fun u s' z => by
  obtain ⟨_, _, _, _, _, _, _, _, _, _, _, _, _, _, _, _, w⟩ := z
  exact w.elim
theorem ev_neLN {C : Addr} {H : Hp} {σ : L2.St} {ta tb : TE} {p : Addr} {k j : List Int} (ha : EvC K C ta σ H (.l p (iL k))) (hb : EvN K C tb σ H (iL j)) : EvC K C (tOp (rNeD K) ta tb) σ H (.d (.bool (!decide (k = j)))) := fun H1 e1 Q q =>
  ha H1 e1 _ fun v H2 e2 a => hb H2 (e1.trans e2) _ fun p3 H3 hp e3 a3 => by
    have left : EvC K C (tC v) σ H3 (.l p (iL k)) := fun H4 e4 Q4 q4 => q4 v H4 (Same.refl H4) (CtAt.mono (e3.trans e4) a)
    have right : EvC K C (tC (.ref p3)) σ H3 (.l p3 (iL j)) := fun H4 e4 Q4 q4 => q4 _ H4 (Same.refl H4) (CtAt.mono e4 a3)
    exact ev_neL left right H3 (Same.refl H3) Q fun y H4 e4 b => q y H4 ((e2.trans e3).trans e4) b
theorem ne_11 {C : Addr} {H : Hp} {Q : VK} (q : ∀ H', Same H H' → Q (.bl false) H') : rNeD K (.int 1) (.int 1) H Q :=
  (ev_neI (K := K) (C := C) (σ := []) (ta := tC (.int 1)) (tb := tC (.int 1)) (k := 1) (j := 1) ev_int ev_int) H (Same.refl H) Q fun v H1 e t => by
    rw [Td.bl_of t]
    exact q H1 e
theorem trade_all (E : Nv K mg) (k : Ek) : PySem.W.exmOne K (.ref (clsK E k)) (.ref E.C_TradeError) = some true := by
  cases k with
  | letters => exact E.e_BadLetters_TradeError
  | pairs => exact E.e_BadPairs_TradeError
  | trade => exact E.e_BadTrade_TradeError
  | row => exact E.e_BadRow_TradeError
  | number => exact E.e_BadNumber_TradeError
  | long => exact E.e_TooLong_TradeError
  | size => exact E.e_BadLength_TradeError
  | modulus => exact E.e_BadModulus_TradeError
  | facts => exact E.e_BadFacts_TradeError
  | letter => exact E.e_BadLetter_TradeError
  | full => exact E.e_Full_TradeError
  | place => exact E.e_BadPlace_TradeError
  | text => exact E.e_InvalidText_TradeError
theorem fok {n : Nat} {k : Ek} {d : Option Addr} {H : Hp} (g : DK n k d H) : FOk d H := by
  cases k with
  | letters => exact .inl g
  | pairs => exact g.elim fun dd g => g.elim fun v g => .inr ⟨dd, _, g.1, g.2.1⟩
  | trade => exact .inl g
  | row => exact .inl g
  | number => exact .inl g
  | long => exact .inl g
  | size => exact .inl g
  | modulus => exact .inl g
  | facts => exact g.elim fun dd g => g.elim fun v g => .inr ⟨dd, _, g.1, g.2.1⟩
  | letter => exact .inl g
  | full => exact .inl g
  | place => exact .inl g
  | text => exact g.elim fun dd g => .inr ⟨dd, _, g.1, g.2⟩
def spLaw (K : PySem.W.Frag) : Sp := fun vs H Q _ => ∃ (a : Addr) (ns : List Int), vs = [.ref a] ∧ Fz K H a (ns.map V.int) ∧ ns.length ≤ 63 ∧ ∀ H', Q (.bl true) H'
theorem ok_law (E : Nv K mg) : FnOk P w K mg base CX0 80 E.a_law E.d_law ["_law_script"] (spLaw K) := by
  refine E.F_law.ok sc_law (fun vs H Q _ h => ?_) (fun cdv A outer s H vs Q _ hr h => ?_)
  · obtain ⟨_, _, rfl, _⟩ := h
    rfl
  · obtain ⟨a, cells, rfl, hz, hl, q⟩ := h
    refine ⟨_, (pss_cons (ps_set (i := 1) sc_law.nd rfl (.inl rfl) (pe_call (ok__law_mix E) (hr.mono (by first | decide | omega)) (by rfl) E.m__law_mix E.F__law_mix.kp E.b__law_mix .nil pass0 (pa_cons (pv 0) (pa_cons pe_int pa_nil))))
      (pss_cons (ps_set (i := 2) sc_law.nd rfl (.inl rfl) (pe_op (op_addK K) pe_int (pe_call (ok__law_next E) (hr.mono (by first | decide | omega)) (by rfl) E.m__law_next E.F__law_next.kp E.b__law_next .nil pass0 (pa_cons (pv 1) (pa_cons pe_int pa_nil)))))
      (pss_cons (ps_set (i := 3) sc_law.nd rfl (.inl rfl) (pe_call (ok__law_next E) (hr.mono (by first | decide | omega)) (by rfl) E.m__law_next E.F__law_next.kp E.b__law_next .nil pass0 (pa_cons (pv 1) (pa_cons pe_int pa_nil))))
      (pss_cons (ps_set (i := 4) sc_law.nd rfl (.inl rfl) (pe_lst pa_nil))
      (pss_cons (ps_tryZN rfl rfl takes0N (fun W pn xe tk _ => pss_one (ps_expr (pe_callS (ok__law_do E) (hr.mono (by decide)) (by rfl) E.m__law_do E.F__law_do.kp E.b__law_do (fun σ => L2N.passAt tk σ) (pa_cons (pv 3) (pa_cons (pv 2) pa_nil))))) (.named ⟨rfl, by decide, .inl E.m_TradeError⟩ sc_law.nd (i := 5) rfl rfl (fun a oe cls d pn hz hf => pss_one (ps_set (i := 4) sc_law.nd rfl (.inl rfl) (pe_callZ (ok__law_which E) (hr.mono (by decide)) hz hf (by rfl) E.m__law_which E.F__law_which.kp E.b__law_which (pv 5)))) .none))
      (pss_cons (ps_if (pt_cmpR (op_neK K hr.units) (pv 4) (pe_lst (pa_cons (pv 3) pa_nil)) (nomark _)) (pss_one (ps_ret pe_bl)) pss_nil)
      (pss_cons (ps_for PassesOwn.never rfl (pi_listK K (Pt.pe_lock (pe_lst (pa_cons pe_int (pa_cons pe_int pa_nil))))) (pg_name (i := 6) sc_law.nd rfl (.inl rfl))
      (pss_one (ps_tryZN rfl rfl takes0N (fun W pn xe tk _ => pss_one (ps_expr (pe_callS (ok__law_do E) (hr.mono (by decide)) (by rfl) E.m__law_do E.F__law_do.kp E.b__law_do (fun σ => L2N.passAt tk σ) (pa_cons (pv 6) (pa_cons (pv 2) pa_nil))))) (.named ⟨rfl, by decide, .inl E.m_BadPairs⟩ sc_law.nd (i := 5) rfl rfl (fun a oe cls d pn hz hf => pss_one (ps_if (pt_cmpR (op_neK K hr.units) (pe_xf E.xf_BadPairs E.no_index_BadPairs hz.zc hf (pv 5)) pe_int (nomark _)) (pss_one (ps_ret pe_bl)) pss_nil)) (.named ⟨rfl, by decide, .inl E.m_BadFacts⟩ sc_law.nd (i := 5) rfl rfl (fun a oe cls d pn hz hf => pss_one (ps_if (pt_cmpR (op_neK K hr.units) (pe_xf E.xf_BadFacts E.no_index_BadFacts hz.zc hf (pv 5)) pe_int (nomark _)) (pss_one (ps_ret pe_bl)) pss_nil)) .none)))))
      (pss_cons (ps_tryZN rfl rfl takes0N (fun W pn xe tk _ => pss_one (ps_expr (pe_callS (ok__law_do E) (hr.mono (by decide)) (by rfl) E.m__law_do E.F__law_do.kp E.b__law_do (fun σ => L2N.passAt tk σ) (pa_cons pe_int (pa_cons (pv 2) pa_nil))))) (.named ⟨rfl, by decide, .inl E.m_InvalidText⟩ sc_law.nd (i := 5) rfl rfl (fun a oe cls d pn hz hf => pss_one (ps_ret (pe_cmpR (op_eqK K hr.units) (pe_xf E.xf_InvalidText E.no_place hz.zc hf (pv 5)) (pe_op (op_addK K) (pe_op op_mul pe_int (pv 2)) pe_int) (nomark _)))) .none))
      (pss_one (ps_ret pe_bl)))))))))), ?_⟩
    have w0 : Wd K E.C_Trade [] [] H H _ [.z a (iL cells), .u, .u, .u, .u, .u, .u] := Wd.start1 (N := N_law) (c1 := .z a (iL cells)) ⟨rfl, _, hz, TdAll.of_iL cells⟩
    refine q_mix w0 rfl hl fun p c σ1 H1 w1 => ?_
    have w1' : Wd K E.C_Trade [] [] H H1 σ1 [.z a (iL cells), .h p c, .u, .u, .u, .u, .u] := w1
    refine q_drawAdd (i := 1) (j := 2) w1' rfl (by decide) (by decide) fun r σ2 H2 r0 r1 w2 => ?_
    obtain ⟨n, hn⟩ : ∃ n : Nat, 1 + r = (n : Int) := ⟨(1 + r).toNat, by omega⟩
    rw [hn] at w2
    have h1 : 1 ≤ n := by omega
    have h5 : n ≤ 5 := by omega
    have w2' : Wd K E.C_Trade [] [] H H2 σ2 [.z a (iL cells), .h p c, .d (.int (n : Nat)), .u, .u, .u, .u] := w2
    refine q_draw (i := 1) (j := 3) w2' rfl ev_int (by decide) (by decide) fun rk σ3 H3 k0 k1 w3 => ?_
    obtain ⟨kd, rfl⟩ : ∃ kd : Nat, rk = (kd : Int) := ⟨rk.toNat, by omega⟩
    have w3' : Wd K E.C_Trade [] [] H H3 σ3 [.z a (iL cells), .h p c, .d (.int (n : Nat)), .d (.int (kd : Nat)), .u, .u, .u] := w3
    refine q_asgN (i := 4) w3' (en_lst ed_nil (Nat.zero_le _)) fun p4 σ4 H4 _ w4 => ?_
    have w4' : Wd K E.C_Trade [] [] H H4 σ4 [.z a (iL cells), .h p c, .d (.int (n : Nat)), .d (.int (kd : Nat)), .l p4 [], .u, .u] := w4
    obtain ⟨x2, e2, a2⟩ := w4'.get (i := 2) rfl
    obtain ⟨x3, e3, a3⟩ := w4'.get (i := 3) rfl
    rw [Td.int_of a2] at e2
    rw [Td.int_of a3] at e3
    refine ⟨_, e3, _, e2, kd, n, rfl, h1, h5, by omega, fun k ek d H5 s5 g => ?_⟩
    refine ⟨true, trade_all E k, fun _ ae na => ?_, fun z => nomatch z⟩
    have w5 := (w4'.mono s5).set 5 (v := .ref ae) (c := .r (.ref ae)) rfl
    obtain ⟨xe, ee, ax⟩ := w5.get (i := 5) rfl
    obtain rfl : xe = .ref ae := ax
    refine ⟨.ref ae, ee, .ref ae, rfl, rfl, k, rfl, fok g, fun q2 H6 nq s6 ct => ?_⟩
    have w6 : Wd K E.C_Trade [] [] H H6 _ [.z a (iL cells), .h p c, .d (.int (n : Nat)), .d (.int (kd : Nat)), .l q2 [.int (k.n : Nat)], .u, .u] := (w5.setN 4 s6 nq ct).wiped 5
    refine s_when w6 (b := false) (et_cast (et_test (ev_neLN (k := [(k.n : Nat)]) (j := [(kd : Nat)]) (ev_var (i := 4) w6 rfl) (en_lst (ed_cons (ev_var (i := 3) w6 rfl) ed_nil) (Nat.le_of_ble_eq_true rfl)))) (by rw [ek]; simp)) (fun z => nomatch z) fun _ H7 w7 => ?_
    have w7' : Wd K E.C_Trade [] [] H H7 _ [.z a (iL cells), .h p c, .d (.int (n : Nat)), .d (.int (kd : Nat)), .l q2 [.int (k.n : Nat)], .u, .u] := w7
    refine s_forDL w7' (ev_lock (en_lst (ed_cons ev_int (ed_cons ev_int ed_nil)) (Nat.le_of_ble_eq_true rfl))) (fun al t σ H' => ∃ c5 c6, c5 = Ct.u ∧ Wd K E.C_Trade [] [(.ref al, .list [.int 1, .int 8])] H H' σ [.z a (iL cells), .h p c, .d (.int (n : Nat)), .d (.int (kd : Nat)), .l q2 [.int (k.n : Nat)], c5, c6]) (fun al H1 w => ⟨_, _, rfl, w⟩) (fun al t σ' H' ⟨_, _, _, w⟩ => w.gh0) ?_ ?_
    · rintro al t d v σ8 H8 hd tv ⟨c5, c6, rfl, w8⟩
      have w9 : Wd K E.C_Trade [] [(.ref al, .list [.int 1, .int 8])] H H8 _ [.z a (iL cells), .h p c, .d (.int (n : Nat)), .d (.int (kd : Nat)), .l q2 [.int (k.n : Nat)], .u, .d d] := w8.set 6 tv
      obtain ⟨y2, f2, b2⟩ := w9.get (i := 2) rfl
      obtain ⟨y6, f6, b6⟩ := w9.get (i := 6) rfl
      rw [Td.int_of b2] at f2
      rcases (by
        have := (List.getElem?_eq_some_iff.mp hd).1
        have : t < 2 := this
        omega : t = 0 ∨ t = 1) with rfl | rfl
      · obtain rfl : PyData.int 1 = d := by simpa using hd
        rw [Td.int_of b6] at f6
        refine ⟨_, f6, _, f2, 1, n, rfl, h1, h5, by decide, fun k2 ek2 d2 H9 s9 g2 => ?_⟩
        obtain rfl : k2 = .pairs := by cases k2 <;> first | rfl | cases ek2
        obtain ⟨dd, vi, rfl, hdd, rfl⟩ := g2
        refine ⟨true, E.e_BadPairs, fun _ ae na => ?_, fun z => nomatch z⟩
        have wa := (w9.mono s9).set 5 (v := .ref ae) (c := .r (.ref ae)) rfl
        obtain ⟨xe, ee, ax⟩ := wa.get (i := 5) rfl
        obtain rfl : xe = .ref ae := ax
        refine ⟨.ref ae, ee, rfl, rfl, dd, _, .int 1, rfl, hdd, rfl, ?_⟩
        change tC (V.int 1) _ H9 _
        unfold tC
        refine ne_11 (C := E.C_Trade) fun Hb eb => ?_
        exact ⟨_, rfl, _, _, rfl, (wa.mono eb).wiped 5⟩
      · obtain rfl : PyData.int 8 = d := by simpa using hd
        rw [Td.int_of b6] at f6
        refine ⟨_, f6, _, f2, 8, n, rfl, h1, h5, by decide, fun k2 ek2 d2 H9 s9 g2 => ?_⟩
        obtain rfl : k2 = .facts := by cases k2 <;> first | rfl | cases ek2
        obtain ⟨dd, vi, rfl, hdd, rfl⟩ := g2
        refine ⟨false, E.e_BadFacts_BadPairs, (fun z => nomatch z), fun _ => ⟨true, E.e_BadFacts, fun _ ae na => ?_, fun z => nomatch z⟩⟩
        have wa := (w9.mono s9).set 5 (v := .ref ae) (c := .r (.ref ae)) rfl
        obtain ⟨xe, ee, ax⟩ := wa.get (i := 5) rfl
        obtain rfl : xe = .ref ae := ax
        refine ⟨.ref ae, ee, rfl, rfl, dd, _, .int 1, rfl, hdd, rfl, ?_⟩
        change tC (V.int 1) _ H9 _
        unfold tC
        refine ne_11 (C := E.C_Trade) fun Hb eb => ?_
        exact ⟨_, rfl, _, _, rfl, (wa.mono eb).wiped 5⟩
    · rintro al σ8 H8 ⟨c5, c6, rfl, w8⟩
      obtain ⟨y2, f2, b2⟩ := w8.get (i := 2) rfl
      rw [Td.int_of b2] at f2
      refine ⟨_, f2, 12, n, rfl, h1, h5, by decide, fun k2 ek2 d2 H9 s9 g2 => ?_⟩
      obtain rfl : k2 = .text := by cases k2 <;> first | rfl | cases ek2
      obtain ⟨dd, rfl, hdd⟩ := g2
      refine ⟨true, E.e_InvalidText, fun _ ae na => ?_, fun z => nomatch z⟩
      have wa := (w8.mono s9).set 5 (v := .ref ae) (c := .r (.ref ae)) rfl
      obtain ⟨xe, ee, ax⟩ := wa.get (i := 5) rfl
      obtain rfl : xe = .ref ae := ax
      refine ⟨.ref ae, ee, rfl, rfl, dd, _, .int (3 * n + 1 : Nat), rfl, hdd, rfl, ?_⟩
      have right := ev_addI (K := K) (C := E.C_Trade) (show EvC K E.C_Trade (tOp (rI CMul fun i j => V.int (i * j)) (tC (.int 3)) (tVar 2)) _ H9 (.d (.int (3 * (n : Int)))) from ev_iC (ev_int (k := 3)) (ev_var (i := 2) wa rfl) (by unfold CMul; omega) (fun _ => .int _)) (ev_int (k := 1))
      refine right H9 (Same.refl H9) _ fun y Hb eb ty => ?_
      obtain rfl := Td.int_of ty
      change rEqD K (.int (3 * n + 1 : Nat)) (.int (3 * (n : Int) + 1)) Hb _
      have e : ((3 * n + 1 : Nat) : Int) = 3 * (n : Int) + 1 := by omega
      rw [e]
      refine (ev_eqI (K := K) (C := E.C_Trade) (σ := []) (ta := tC (.int (3 * (n : Int) + 1))) (tb := tC (.int (3 * (n : Int) + 1))) ev_int ev_int : EvC K E.C_Trade _ _ Hb _) Hb (Same.refl Hb) _ fun vb Hc ec bb => ?_
      rw [Td.bl_of bb, decide_eq_true rfl]
      exact q Hc
end
end K1
namespace K1
open PySem PySem.Spec PyProof.Rows L2 Pt
set_option maxHeartbeats 8000000 in
theorem all_mk {P : Program} {w : World} {K : PySem.W.Frag} {h : Heap} {mg : Str → Option Value} {fa : Addr} (X : K.In h) (G : h.Ns mainGlobals mg) (hfa : mg "law" = some (.ref fa))
    {fa_TradeError___init__ fa_BadPairs___init__ fa_BadFacts___init__ fa_InvalidText___init__ fa_is_whole fa_is_letter fa_is_pair fa_check_pairs fa_Trade___init__ fa_Trade_letters pr_letters fa_Trade_pairs pr_pairs fa_Trade___eq__ fa_check_trade fa_may_change fa_bars_of fa_all_may_change fa_is_row fa_check_row fa_find_bar fa_only fa_first_unlike fa_least fa_first_letters fa_without fa_least_of fa_count_alike fa_numbered fa_pick fa_turned fa_check_turning fa_all_turned fa_all_groups fa_may_join fa_signed_counts fa_sign fa_how_many fa_how_many_by fa_term_by fa_change_signs fa_multiply fa_trades_by fa_check_facts fa_is_fact fa_choices_of_pairs fa_all_hold fa_holds fa_Line___init__ fa_Line_row pr_row fa_Line_least pr_least fa_Line_add fa_Line_swap fa_Line___len__ fa_is_change fa_read_row fa_read_letters fa_can_stand fa__law_mix fa__law_next fa__law_which fa__law_early fa__law_do fa_law C_TradeError C_BadLetters C_BadPairs C_BadTrade C_BadRow C_BadNumber C_TooLong C_BadLength C_BadModulus C_BadFacts C_BadLetter C_Full C_BadPlace C_InvalidText C_Line C_Trade : Addr}
    {nm_BadLetters qn_BadLetters : Str} {N_BadLetters : Addr} {bs_BadLetters sb_BadLetters : List Value} {sn_BadLetters : List Str} {ab_BadLetters : Bool} {cl_BadLetters : Option Bool} {dd_BadLetters : Option Addr} {k0_BadLetters k1_BadLetters k2_BadLetters k3_BadLetters k5_BadLetters : Option Value}
    {nm_BadPairs qn_BadPairs : Str} {N_BadPairs : Addr} {bs_BadPairs sb_BadPairs : List Value} {sn_BadPairs : List Str} {ab_BadPairs : Bool} {cl_BadPairs : Option Bool} {dd_BadPairs : Option Addr} {k0_BadPairs k1_BadPairs k2_BadPairs k3_BadPairs k5_BadPairs : Option Value}
    {nm_BadTrade qn_BadTrade : Str} {N_BadTrade : Addr} {bs_BadTrade sb_BadTrade : List Value} {sn_BadTrade : List Str} {ab_BadTrade : Bool} {cl_BadTrade : Option Bool} {dd_BadTrade : Option Addr} {k0_BadTrade k1_BadTrade k2_BadTrade k3_BadTrade k5_BadTrade : Option Value}
    {nm_BadRow qn_BadRow : Str} {N_BadRow : Addr} {bs_BadRow sb_BadRow : List Value} {sn_BadRow : List Str} {ab_BadRow : Bool} {cl_BadRow : Option Bool} {dd_BadRow : Option Addr} {k0_BadRow k1_BadRow k2_BadRow k3_BadRow k5_BadRow : Option Value}
    {nm_BadNumber qn_BadNumber : Str} {N_BadNumber : Addr} {bs_BadNumber sb_BadNumber : List Value} {sn_BadNumber : List Str} {ab_BadNumber : Bool} {cl_BadNumber : Option Bool} {dd_BadNumber : Option Addr} {k0_BadNumber k1_BadNumber k2_BadNumber k3_BadNumber k5_BadNumber : Option Value}
    {nm_TooLong qn_TooLong : Str} {N_TooLong : Addr} {bs_TooLong sb_TooLong : List Value} {sn_TooLong : List Str} {ab_TooLong : Bool} {cl_TooLong : Option Bool} {dd_TooLong : Option Addr} {k0_TooLong k1_TooLong k2_TooLong k3_TooLong k5_TooLong : Option Value}
    {nm_BadLength qn_BadLength : Str} {N_BadLength : Addr} {bs_BadLength sb_BadLength : List Value} {sn_BadLength : List Str} {ab_BadLength : Bool} {cl_BadLength : Option Bool} {dd_BadLength : Option Addr} {k0_BadLength k1_BadLength k2_BadLength k3_BadLength k5_BadLength : Option Value}
    {nm_BadModulus qn_BadModulus : Str} {N_BadModulus : Addr} {bs_BadModulus sb_BadModulus : List Value} {sn_BadModulus : List Str} {ab_BadModulus : Bool} {cl_BadModulus : Option Bool} {dd_BadModulus : Option Addr} {k0_BadModulus k1_BadModulus k2_BadModulus k3_BadModulus k5_BadModulus : Option Value}
    {nm_BadFacts qn_BadFacts : Str} {N_BadFacts : Addr} {bs_BadFacts sb_BadFacts : List Value} {sn_BadFacts : List Str} {ab_BadFacts : Bool} {cl_BadFacts : Option Bool} {dd_BadFacts : Option Addr} {k0_BadFacts k1_BadFacts k2_BadFacts k3_BadFacts k5_BadFacts : Option Value}
    {nm_BadLetter qn_BadLetter : Str} {N_BadLetter : Addr} {bs_BadLetter sb_BadLetter : List Value} {sn_BadLetter : List Str} {ab_BadLetter : Bool} {cl_BadLetter : Option Bool} {dd_BadLetter : Option Addr} {k0_BadLetter k1_BadLetter k2_BadLetter k3_BadLetter k5_BadLetter : Option Value}
    {nm_Full qn_Full : Str} {N_Full : Addr} {bs_Full sb_Full : List Value} {sn_Full : List Str} {ab_Full : Bool} {cl_Full : Option Bool} {dd_Full : Option Addr} {k0_Full k1_Full k2_Full k3_Full k5_Full : Option Value}
    {nm_BadPlace qn_BadPlace : Str} {N_BadPlace : Addr} {bs_BadPlace sb_BadPlace : List Value} {sn_BadPlace : List Str} {ab_BadPlace : Bool} {cl_BadPlace : Option Bool} {dd_BadPlace : Option Addr} {k0_BadPlace k1_BadPlace k2_BadPlace k3_BadPlace k5_BadPlace : Option Value}
    {nm_InvalidText qn_InvalidText : Str} {N_InvalidText : Addr} {bs_InvalidText sb_InvalidText : List Value} {sn_InvalidText : List Str} {ab_InvalidText : Bool} {cl_InvalidText : Option Bool} {dd_InvalidText : Option Addr} {k0_InvalidText k1_InvalidText k2_InvalidText k3_InvalidText k5_InvalidText : Option Value}
    {od_TradeError___init__ an_TradeError___init__ od_BadPairs___init__ an_BadPairs___init__ od_BadFacts___init__ an_BadFacts___init__ od_InvalidText___init__ an_InvalidText___init__ od_is_whole an_is_whole od_is_letter an_is_letter od_is_pair an_is_pair od_check_pairs an_check_pairs od_Trade___init__ an_Trade___init__ od_Trade_letters an_Trade_letters od_Trade_pairs an_Trade_pairs od_Trade___eq__ an_Trade___eq__ od_check_trade an_check_trade od_may_change an_may_change od_bars_of an_bars_of od_all_may_change an_all_may_change od_is_row an_is_row od_check_row an_check_row od_find_bar an_find_bar od_only an_only od_first_unlike an_first_unlike od_least an_least od_first_letters an_first_letters od_without an_without od_least_of an_least_of od_count_alike an_count_alike od_numbered an_numbered od_pick an_pick od_turned an_turned od_check_turning an_check_turning od_all_turned an_all_turned od_all_groups an_all_groups od_may_join an_may_join od_signed_counts an_signed_counts od_sign an_sign od_how_many an_how_many od_how_many_by an_how_many_by od_term_by an_term_by od_change_signs an_change_signs od_multiply an_multiply od_trades_by an_trades_by od_check_facts an_check_facts od_is_fact an_is_fact od_choices_of_pairs an_choices_of_pairs od_all_hold an_all_hold od_holds an_holds od_Line___init__ an_Line___init__ od_Line_row an_Line_row od_Line_least an_Line_least od_Line_add an_Line_add od_Line_swap an_Line_swap od_Line___len__ an_Line___len__ od_is_change an_is_change od_read_row an_read_row od_read_letters an_read_letters od_can_stand an_can_stand od__law_mix an__law_mix od__law_next an__law_next od__law_which an__law_which od__law_early an__law_early od__law_do an__law_do od_law an_law : Option Addr}
    {sl_TradeError___init__ sl_BadPairs___init__ sl_BadFacts___init__ sl_InvalidText___init__ sl_is_whole sl_is_letter sl_is_pair sl_check_pairs sl_Trade___init__ sl_Trade_letters sl_Trade_pairs sl_Trade___eq__ sl_check_trade sl_may_change sl_bars_of sl_all_may_change sl_is_row sl_check_row sl_find_bar sl_only sl_first_unlike sl_least sl_first_letters sl_without sl_least_of sl_count_alike sl_numbered sl_pick sl_turned sl_check_turning sl_all_turned sl_all_groups sl_may_join sl_signed_counts sl_sign sl_how_many sl_how_many_by sl_term_by sl_change_signs sl_multiply sl_trades_by sl_check_facts sl_is_fact sl_choices_of_pairs sl_all_hold sl_holds sl_Line___init__ sl_Line_row sl_Line_least sl_Line_add sl_Line_swap sl_Line___len__ sl_is_change sl_read_row sl_read_letters sl_can_stand sl__law_mix sl__law_next sl__law_which sl__law_early sl__law_do sl_law : Array (Option Value)}
    {oc_TradeError___init__ kV_TradeError___init__ dc_TradeError___init__ pm_TradeError___init__ cd_TradeError___init__ ct_TradeError___init__ oc_BadPairs___init__ kV_BadPairs___init__ dc_BadPairs___init__ pm_BadPairs___init__ cd_BadPairs___init__ ct_BadPairs___init__ oc_BadFacts___init__ kV_BadFacts___init__ dc_BadFacts___init__ pm_BadFacts___init__ cd_BadFacts___init__ ct_BadFacts___init__ oc_InvalidText___init__ kV_InvalidText___init__ dc_InvalidText___init__ pm_InvalidText___init__ cd_InvalidText___init__ ct_InvalidText___init__ oc_is_whole kV_is_whole dc_is_whole pm_is_whole cd_is_whole ct_is_whole oc_is_letter kV_is_letter dc_is_letter pm_is_letter cd_is_letter ct_is_letter oc_is_pair kV_is_pair dc_is_pair pm_is_pair cd_is_pair ct_is_pair oc_check_pairs kV_check_pairs dc_check_pairs pm_check_pairs cd_check_pairs ct_check_pairs oc_Trade___init__ kV_Trade___init__ dc_Trade___init__ pm_Trade___init__ cd_Trade___init__ ct_Trade___init__ oc_Trade_letters kV_Trade_letters dc_Trade_letters pm_Trade_letters cd_Trade_letters ct_Trade_letters oc_Trade_pairs kV_Trade_pairs dc_Trade_pairs pm_Trade_pairs cd_Trade_pairs ct_Trade_pairs oc_Trade___eq__ kV_Trade___eq__ dc_Trade___eq__ pm_Trade___eq__ cd_Trade___eq__ ct_Trade___eq__ oc_check_trade kV_check_trade dc_check_trade pm_check_trade cd_check_trade ct_check_trade oc_may_change kV_may_change dc_may_change pm_may_change cd_may_change ct_may_change oc_bars_of kV_bars_of dc_bars_of pm_bars_of cd_bars_of ct_bars_of oc_all_may_change kV_all_may_change dc_all_may_change pm_all_may_change cd_all_may_change ct_all_may_change oc_is_row kV_is_row dc_is_row pm_is_row cd_is_row ct_is_row oc_check_row kV_check_row dc_check_row pm_check_row cd_check_row ct_check_row oc_find_bar kV_find_bar dc_find_bar pm_find_bar cd_find_bar ct_find_bar oc_only kV_only dc_only pm_only cd_only ct_only oc_first_unlike kV_first_unlike dc_first_unlike pm_first_unlike cd_first_unlike ct_first_unlike oc_least kV_least dc_least pm_least cd_least ct_least oc_first_letters kV_first_letters dc_first_letters pm_first_letters cd_first_letters ct_first_letters oc_without kV_without dc_without pm_without cd_without ct_without oc_least_of kV_least_of dc_least_of pm_least_of cd_least_of ct_least_of oc_count_alike kV_count_alike dc_count_alike pm_count_alike cd_count_alike ct_count_alike oc_numbered kV_numbered dc_numbered pm_numbered cd_numbered ct_numbered oc_pick kV_pick dc_pick pm_pick cd_pick ct_pick oc_turned kV_turned dc_turned pm_turned cd_turned ct_turned oc_check_turning kV_check_turning dc_check_turning pm_check_turning cd_check_turning ct_check_turning oc_all_turned kV_all_turned dc_all_turned pm_all_turned cd_all_turned ct_all_turned oc_all_groups kV_all_groups dc_all_groups pm_all_groups cd_all_groups ct_all_groups oc_may_join kV_may_join dc_may_join pm_may_join cd_may_join ct_may_join oc_signed_counts kV_signed_counts dc_signed_counts pm_signed_counts cd_signed_counts ct_signed_counts oc_sign kV_sign dc_sign pm_sign cd_sign ct_sign oc_how_many kV_how_many dc_how_many pm_how_many cd_how_many ct_how_many oc_how_many_by kV_how_many_by dc_how_many_by pm_how_many_by cd_how_many_by ct_how_many_by oc_term_by kV_term_by dc_term_by pm_term_by cd_term_by ct_term_by oc_change_signs kV_change_signs dc_change_signs pm_change_signs cd_change_signs ct_change_signs oc_multiply kV_multiply dc_multiply pm_multiply cd_multiply ct_multiply oc_trades_by kV_trades_by dc_trades_by pm_trades_by cd_trades_by ct_trades_by oc_check_facts kV_check_facts dc_check_facts pm_check_facts cd_check_facts ct_check_facts oc_is_fact kV_is_fact dc_is_fact pm_is_fact cd_is_fact ct_is_fact oc_choices_of_pairs kV_choices_of_pairs dc_choices_of_pairs pm_choices_of_pairs cd_choices_of_pairs ct_choices_of_pairs oc_all_hold kV_all_hold dc_all_hold pm_all_hold cd_all_hold ct_all_hold oc_holds kV_holds dc_holds pm_holds cd_holds ct_holds oc_Line___init__ kV_Line___init__ dc_Line___init__ pm_Line___init__ cd_Line___init__ ct_Line___init__ oc_Line_row kV_Line_row dc_Line_row pm_Line_row cd_Line_row ct_Line_row oc_Line_least kV_Line_least dc_Line_least pm_Line_least cd_Line_least ct_Line_least oc_Line_add kV_Line_add dc_Line_add pm_Line_add cd_Line_add ct_Line_add oc_Line_swap kV_Line_swap dc_Line_swap pm_Line_swap cd_Line_swap ct_Line_swap oc_Line___len__ kV_Line___len__ dc_Line___len__ pm_Line___len__ cd_Line___len__ ct_Line___len__ oc_is_change kV_is_change dc_is_change pm_is_change cd_is_change ct_is_change oc_read_row kV_read_row dc_read_row pm_read_row cd_read_row ct_read_row oc_read_letters kV_read_letters dc_read_letters pm_read_letters cd_read_letters ct_read_letters oc_can_stand kV_can_stand dc_can_stand pm_can_stand cd_can_stand ct_can_stand oc__law_mix kV__law_mix dc__law_mix pm__law_mix cd__law_mix ct__law_mix oc__law_next kV__law_next dc__law_next pm__law_next cd__law_next ct__law_next oc__law_which kV__law_which dc__law_which pm__law_which cd__law_which ct__law_which oc__law_early kV__law_early dc__law_early pm__law_early cd__law_early ct__law_early oc__law_do kV__law_do dc__law_do pm__law_do cd__law_do ct__law_do oc_law kV_law dc_law pm_law cd_law ct_law : Value}
    {rest_letters rest_pairs rest_row rest_least : List Value} {tk_MOST_LETTERS tk_MOST_IN_ROW tk_MOST_TO_TURN tk_MOST_LENGTH tk_MOST_LETTERS_KNOWN tk_MOST_FACTS tk_ALIKE tk_UNLIKE tk_LETTERS tk_OPENING tk_CLOSING tk_MOST_LENGTH_BY tk_MOST_MODULUS : Tok}
    (aC_TradeError : PySem.W.nsIn K mainGlobals "TradeError" = some (some (.ref C_TradeError)))
    (aC_BadLetters : PySem.W.nsIn K mainGlobals "BadLetters" = some (some (.ref C_BadLetters)))
    (aC_BadPairs : PySem.W.nsIn K mainGlobals "BadPairs" = some (some (.ref C_BadPairs)))
    (aC_BadTrade : PySem.W.nsIn K mainGlobals "BadTrade" = some (some (.ref C_BadTrade)))
    (aC_BadRow : PySem.W.nsIn K mainGlobals "BadRow" = some (some (.ref C_BadRow)))
    (aC_BadNumber : PySem.W.nsIn K mainGlobals "BadNumber" = some (some (.ref C_BadNumber)))
    (aC_TooLong : PySem.W.nsIn K mainGlobals "TooLong" = some (some (.ref C_TooLong)))
    (aC_BadLength : PySem.W.nsIn K mainGlobals "BadLength" = some (some (.ref C_BadLength)))
    (aC_BadModulus : PySem.W.nsIn K mainGlobals "BadModulus" = some (some (.ref C_BadModulus)))
    (aC_BadFacts : PySem.W.nsIn K mainGlobals "BadFacts" = some (some (.ref C_BadFacts)))
    (aC_BadLetter : PySem.W.nsIn K mainGlobals "BadLetter" = some (some (.ref C_BadLetter)))
    (aC_Full : PySem.W.nsIn K mainGlobals "Full" = some (some (.ref C_Full)))
    (aC_BadPlace : PySem.W.nsIn K mainGlobals "BadPlace" = some (some (.ref C_BadPlace)))
    (aC_InvalidText : PySem.W.nsIn K mainGlobals "InvalidText" = some (some (.ref C_InvalidText)))
    (aC_Line : PySem.W.nsIn K mainGlobals "Line" = some (some (.ref C_Line)))
    (aC : PySem.W.nsIn K mainGlobals "Trade" = some (some (.ref C_Trade)))
    (a_TradeError___init__ : PySem.W.findIn K (.ref C_TradeError) "__init__" = some (some (.ref fa_TradeError___init__)))
    (ti_TradeError___init__ : PySem.W.typeIn K (.ref fa_TradeError___init__) = some (.type "function"))
    (l_TradeError___init__ : K.lookup fa_TradeError___init__ = some ⟨oc_TradeError___init__, od_TradeError___init__, .func (PySem.W.fnOf "__init__" "TradeError.__init__" (defArgs s_TradeError___init__) (defBody s_TradeError___init__) (defScope s_TradeError___init__) .none kV_TradeError___init__ dc_TradeError___init__ pm_TradeError___init__ an_TradeError___init__ cd_TradeError___init__ ct_TradeError___init__), sl_TradeError___init__⟩)
    (c_TradeError___init__ : PySem.W.codeIn K cd_TradeError___init__ "TradeError.__init__" = true)
    (k_TradeError___init__ : PySem.W.keepIn K (.ref fa_TradeError___init__) = true)
    (a_BadPairs___init__ : PySem.W.findIn K (.ref C_BadPairs) "__init__" = some (some (.ref fa_BadPairs___init__)))
    (ti_BadPairs___init__ : PySem.W.typeIn K (.ref fa_BadPairs___init__) = some (.type "function"))
    (l_BadPairs___init__ : K.lookup fa_BadPairs___init__ = some ⟨oc_BadPairs___init__, od_BadPairs___init__, .func (PySem.W.fnOf "__init__" "BadPairs.__init__" (defArgs s_BadPairs___init__) (defBody s_BadPairs___init__) (defScope s_BadPairs___init__) .none kV_BadPairs___init__ dc_BadPairs___init__ pm_BadPairs___init__ an_BadPairs___init__ cd_BadPairs___init__ ct_BadPairs___init__), sl_BadPairs___init__⟩)
    (c_BadPairs___init__ : PySem.W.codeIn K cd_BadPairs___init__ "BadPairs.__init__" = true)
    (k_BadPairs___init__ : PySem.W.keepIn K (.ref fa_BadPairs___init__) = true)
    (a_BadFacts___init__ : PySem.W.findIn K (.ref C_BadFacts) "__init__" = some (some (.ref fa_BadFacts___init__)))
    (ti_BadFacts___init__ : PySem.W.typeIn K (.ref fa_BadFacts___init__) = some (.type "function"))
    (l_BadFacts___init__ : K.lookup fa_BadFacts___init__ = some ⟨oc_BadFacts___init__, od_BadFacts___init__, .func (PySem.W.fnOf "__init__" "BadFacts.__init__" (defArgs s_BadFacts___init__) (defBody s_BadFacts___init__) (defScope s_BadFacts___init__) .none kV_BadFacts___init__ dc_BadFacts___init__ pm_BadFacts___init__ an_BadFacts___init__ cd_BadFacts___init__ ct_BadFacts___init__), sl_BadFacts___init__⟩)
    (c_BadFacts___init__ : PySem.W.codeIn K cd_BadFacts___init__ "BadFacts.__init__" = true)
    (k_BadFacts___init__ : PySem.W.keepIn K (.ref fa_BadFacts___init__) = true)
    (a_InvalidText___init__ : PySem.W.findIn K (.ref C_InvalidText) "__init__" = some (some (.ref fa_InvalidText___init__)))
    (ti_InvalidText___init__ : PySem.W.typeIn K (.ref fa_InvalidText___init__) = some (.type "function"))
    (l_InvalidText___init__ : K.lookup fa_InvalidText___init__ = some ⟨oc_InvalidText___init__, od_InvalidText___init__, .func (PySem.W.fnOf "__init__" "InvalidText.__init__" (defArgs s_InvalidText___init__) (defBody s_InvalidText___init__) (defScope s_InvalidText___init__) .none kV_InvalidText___init__ dc_InvalidText___init__ pm_InvalidText___init__ an_InvalidText___init__ cd_InvalidText___init__ ct_InvalidText___init__), sl_InvalidText___init__⟩)
    (c_InvalidText___init__ : PySem.W.codeIn K cd_InvalidText___init__ "InvalidText.__init__" = true)
    (k_InvalidText___init__ : PySem.W.keepIn K (.ref fa_InvalidText___init__) = true)
    (a_is_whole : PySem.W.nsIn K mainGlobals "is_whole" = some (some (.ref fa_is_whole)))
    (l_is_whole : K.lookup fa_is_whole = some ⟨oc_is_whole, od_is_whole, .func (PySem.W.fnOf "is_whole" "is_whole" (defArgs s_is_whole) (defBody s_is_whole) (defScope s_is_whole) .none kV_is_whole dc_is_whole pm_is_whole an_is_whole cd_is_whole ct_is_whole), sl_is_whole⟩)
    (c_is_whole : PySem.W.codeIn K cd_is_whole "is_whole" = true)
    (k_is_whole : PySem.W.keepIn K (.ref fa_is_whole) = true)
    (a_is_letter : PySem.W.nsIn K mainGlobals "is_letter" = some (some (.ref fa_is_letter)))
    (l_is_letter : K.lookup fa_is_letter = some ⟨oc_is_letter, od_is_letter, .func (PySem.W.fnOf "is_letter" "is_letter" (defArgs s_is_letter) (defBody s_is_letter) (defScope s_is_letter) .none kV_is_letter dc_is_letter pm_is_letter an_is_letter cd_is_letter ct_is_letter), sl_is_letter⟩)
    (c_is_letter : PySem.W.codeIn K cd_is_letter "is_letter" = true)
    (k_is_letter : PySem.W.keepIn K (.ref fa_is_letter) = true)
    (a_is_pair : PySem.W.nsIn K mainGlobals "is_pair" = some (some (.ref fa_is_pair)))
    (l_is_pair : K.lookup fa_is_pair = some ⟨oc_is_pair, od_is_pair, .func (PySem.W.fnOf "is_pair" "is_pair" (defArgs s_is_pair) (defBody s_is_pair) (defScope s_is_pair) .none kV_is_pair dc_is_pair pm_is_pair an_is_pair cd_is_pair ct_is_pair), sl_is_pair⟩)
    (c_is_pair : PySem.W.codeIn K cd_is_pair "is_pair" = true)
    (k_is_pair : PySem.W.keepIn K (.ref fa_is_pair) = true)
    (a_check_pairs : PySem.W.nsIn K mainGlobals "check_pairs" = some (some (.ref fa_check_pairs)))
    (l_check_pairs : K.lookup fa_check_pairs = some ⟨oc_check_pairs, od_check_pairs, .func (PySem.W.fnOf "check_pairs" "check_pairs" (defArgs s_check_pairs) (defBody s_check_pairs) (defScope s_check_pairs) .none kV_check_pairs dc_check_pairs pm_check_pairs an_check_pairs cd_check_pairs ct_check_pairs), sl_check_pairs⟩)
    (c_check_pairs : PySem.W.codeIn K cd_check_pairs "check_pairs" = true)
    (k_check_pairs : PySem.W.keepIn K (.ref fa_check_pairs) = true)
    (a_Trade___init__ : PySem.W.findIn K (.ref C_Trade) "__init__" = some (some (.ref fa_Trade___init__)))
    (i_Trade___init__ : PySem.W.isFn K (.ref fa_Trade___init__) = true)
    (l_Trade___init__ : K.lookup fa_Trade___init__ = some ⟨oc_Trade___init__, od_Trade___init__, .func (PySem.W.fnOf "__init__" "Trade.__init__" (defArgs s_Trade___init__) (defBody s_Trade___init__) (defScope s_Trade___init__) .none kV_Trade___init__ dc_Trade___init__ pm_Trade___init__ an_Trade___init__ cd_Trade___init__ ct_Trade___init__), sl_Trade___init__⟩)
    (c_Trade___init__ : PySem.W.codeIn K cd_Trade___init__ "Trade.__init__" = true)
    (k_Trade___init__ : PySem.W.keepIn K (.ref fa_Trade___init__) = true)
    (a_Trade_letters : PySem.W.findIn K (.ref C_Trade) "letters" = some (some (.ref pr_letters)))
    (g_Trade_letters : PySem.W.specialIn K (.ref pr_letters) "__get__" = some (some (.builtin "property.__get__")))
    (t_Trade_letters : PySem.W.takesIn K (.ref pr_letters) = some true)
    (r_Trade_letters : PySem.W.recIn K pr_letters "property" = some (.ref fa_Trade_letters :: rest_letters))
    (l_Trade_letters : K.lookup fa_Trade_letters = some ⟨oc_Trade_letters, od_Trade_letters, .func (PySem.W.fnOf "letters" "Trade.letters" (defArgs s_Trade_letters) (defBody s_Trade_letters) (defScope s_Trade_letters) .none kV_Trade_letters dc_Trade_letters pm_Trade_letters an_Trade_letters cd_Trade_letters ct_Trade_letters), sl_Trade_letters⟩)
    (c_Trade_letters : PySem.W.codeIn K cd_Trade_letters "Trade.letters" = true)
    (k_Trade_letters : PySem.W.keepIn K (.ref fa_Trade_letters) = true)
    (a_Trade_pairs : PySem.W.findIn K (.ref C_Trade) "pairs" = some (some (.ref pr_pairs)))
    (g_Trade_pairs : PySem.W.specialIn K (.ref pr_pairs) "__get__" = some (some (.builtin "property.__get__")))
    (t_Trade_pairs : PySem.W.takesIn K (.ref pr_pairs) = some true)
    (r_Trade_pairs : PySem.W.recIn K pr_pairs "property" = some (.ref fa_Trade_pairs :: rest_pairs))
    (l_Trade_pairs : K.lookup fa_Trade_pairs = some ⟨oc_Trade_pairs, od_Trade_pairs, .func (PySem.W.fnOf "pairs" "Trade.pairs" (defArgs s_Trade_pairs) (defBody s_Trade_pairs) (defScope s_Trade_pairs) .none kV_Trade_pairs dc_Trade_pairs pm_Trade_pairs an_Trade_pairs cd_Trade_pairs ct_Trade_pairs), sl_Trade_pairs⟩)
    (c_Trade_pairs : PySem.W.codeIn K cd_Trade_pairs "Trade.pairs" = true)
    (k_Trade_pairs : PySem.W.keepIn K (.ref fa_Trade_pairs) = true)
    (a_Trade___eq__ : PySem.W.findIn K (.ref C_Trade) "__eq__" = some (some (.ref fa_Trade___eq__)))
    (i_Trade___eq__ : PySem.W.isFn K (.ref fa_Trade___eq__) = true)
    (l_Trade___eq__ : K.lookup fa_Trade___eq__ = some ⟨oc_Trade___eq__, od_Trade___eq__, .func (PySem.W.fnOf "__eq__" "Trade.__eq__" (defArgs s_Trade___eq__) (defBody s_Trade___eq__) (defScope s_Trade___eq__) .none kV_Trade___eq__ dc_Trade___eq__ pm_Trade___eq__ an_Trade___eq__ cd_Trade___eq__ ct_Trade___eq__), sl_Trade___eq__⟩)
    (c_Trade___eq__ : PySem.W.codeIn K cd_Trade___eq__ "Trade.__eq__" = true)
    (k_Trade___eq__ : PySem.W.keepIn K (.ref fa_Trade___eq__) = true)
    (a_check_trade : PySem.W.nsIn K mainGlobals "check_trade" = some (some (.ref fa_check_trade)))
    (l_check_trade : K.lookup fa_check_trade = some ⟨oc_check_trade, od_check_trade, .func (PySem.W.fnOf "check_trade" "check_trade" (defArgs s_check_trade) (defBody s_check_trade) (defScope s_check_trade) .none kV_check_trade dc_check_trade pm_check_trade an_check_trade cd_check_trade ct_check_trade), sl_check_trade⟩)
    (c_check_trade : PySem.W.codeIn K cd_check_trade "check_trade" = true)
    (k_check_trade : PySem.W.keepIn K (.ref fa_check_trade) = true)
    (a_may_change : PySem.W.nsIn K mainGlobals "may_change" = some (some (.ref fa_may_change)))
    (l_may_change : K.lookup fa_may_change = some ⟨oc_may_change, od_may_change, .func (PySem.W.fnOf "may_change" "may_change" (defArgs s_may_change) (defBody s_may_change) (defScope s_may_change) .none kV_may_change dc_may_change pm_may_change an_may_change cd_may_change ct_may_change), sl_may_change⟩)
    (c_may_change : PySem.W.codeIn K cd_may_change "may_change" = true)
    (k_may_change : PySem.W.keepIn K (.ref fa_may_change) = true)
    (a_bars_of : PySem.W.nsIn K mainGlobals "bars_of" = some (some (.ref fa_bars_of)))
    (l_bars_of : K.lookup fa_bars_of = some ⟨oc_bars_of, od_bars_of, .func (PySem.W.fnOf "bars_of" "bars_of" (defArgs s_bars_of) (defBody s_bars_of) (defScope s_bars_of) .none kV_bars_of dc_bars_of pm_bars_of an_bars_of cd_bars_of ct_bars_of), sl_bars_of⟩)
    (c_bars_of : PySem.W.codeIn K cd_bars_of "bars_of" = true)
    (k_bars_of : PySem.W.keepIn K (.ref fa_bars_of) = true)
    (a_all_may_change : PySem.W.nsIn K mainGlobals "all_may_change" = some (some (.ref fa_all_may_change)))
    (l_all_may_change : K.lookup fa_all_may_change = some ⟨oc_all_may_change, od_all_may_change, .func (PySem.W.fnOf "all_may_change" "all_may_change" (defArgs s_all_may_change) (defBody s_all_may_change) (defScope s_all_may_change) .none kV_all_may_change dc_all_may_change pm_all_may_change an_all_may_change cd_all_may_change ct_all_may_change), sl_all_may_change⟩)
    (c_all_may_change : PySem.W.codeIn K cd_all_may_change "all_may_change" = true)
    (k_all_may_change : PySem.W.keepIn K (.ref fa_all_may_change) = true)
    (a_is_row : PySem.W.nsIn K mainGlobals "is_row" = some (some (.ref fa_is_row)))
    (l_is_row : K.lookup fa_is_row = some ⟨oc_is_row, od_is_row, .func (PySem.W.fnOf "is_row" "is_row" (defArgs s_is_row) (defBody s_is_row) (defScope s_is_row) .none kV_is_row dc_is_row pm_is_row an_is_row cd_is_row ct_is_row), sl_is_row⟩)
    (c_is_row : PySem.W.codeIn K cd_is_row "is_row" = true)
    (k_is_row : PySem.W.keepIn K (.ref fa_is_row) = true)
    (a_check_row : PySem.W.nsIn K mainGlobals "check_row" = some (some (.ref fa_check_row)))
    (l_check_row : K.lookup fa_check_row = some ⟨oc_check_row, od_check_row, .func (PySem.W.fnOf "check_row" "check_row" (defArgs s_check_row) (defBody s_check_row) (defScope s_check_row) .none kV_check_row dc_check_row pm_check_row an_check_row cd_check_row ct_check_row), sl_check_row⟩)
    (c_check_row : PySem.W.codeIn K cd_check_row "check_row" = true)
    (k_check_row : PySem.W.keepIn K (.ref fa_check_row) = true)
    (a_find_bar : PySem.W.nsIn K mainGlobals "find_bar" = some (some (.ref fa_find_bar)))
    (l_find_bar : K.lookup fa_find_bar = some ⟨oc_find_bar, od_find_bar, .func (PySem.W.fnOf "find_bar" "find_bar" (defArgs s_find_bar) (defBody s_find_bar) (defScope s_find_bar) .none kV_find_bar dc_find_bar pm_find_bar an_find_bar cd_find_bar ct_find_bar), sl_find_bar⟩)
    (c_find_bar : PySem.W.codeIn K cd_find_bar "find_bar" = true)
    (k_find_bar : PySem.W.keepIn K (.ref fa_find_bar) = true)
    (a_only : PySem.W.nsIn K mainGlobals "only" = some (some (.ref fa_only)))
    (l_only : K.lookup fa_only = some ⟨oc_only, od_only, .func (PySem.W.fnOf "only" "only" (defArgs s_only) (defBody s_only) (defScope s_only) .none kV_only dc_only pm_only an_only cd_only ct_only), sl_only⟩)
    (c_only : PySem.W.codeIn K cd_only "only" = true)
    (k_only : PySem.W.keepIn K (.ref fa_only) = true)
    (a_first_unlike : PySem.W.nsIn K mainGlobals "first_unlike" = some (some (.ref fa_first_unlike)))
    (l_first_unlike : K.lookup fa_first_unlike = some ⟨oc_first_unlike, od_first_unlike, .func (PySem.W.fnOf "first_unlike" "first_unlike" (defArgs s_first_unlike) (defBody s_first_unlike) (defScope s_first_unlike) .none kV_first_unlike dc_first_unlike pm_first_unlike an_first_unlike cd_first_unlike ct_first_unlike), sl_first_unlike⟩)
    (c_first_unlike : PySem.W.codeIn K cd_first_unlike "first_unlike" = true)
    (k_first_unlike : PySem.W.keepIn K (.ref fa_first_unlike) = true)
    (a_least : PySem.W.nsIn K mainGlobals "least" = some (some (.ref fa_least)))
    (l_least : K.lookup fa_least = some ⟨oc_least, od_least, .func (PySem.W.fnOf "least" "least" (defArgs s_least) (defBody s_least) (defScope s_least) .none kV_least dc_least pm_least an_least cd_least ct_least), sl_least⟩)
    (c_least : PySem.W.codeIn K cd_least "least" = true)
    (k_least : PySem.W.keepIn K (.ref fa_least) = true)
    (a_first_letters : PySem.W.nsIn K mainGlobals "first_letters" = some (some (.ref fa_first_letters)))
    (l_first_letters : K.lookup fa_first_letters = some ⟨oc_first_letters, od_first_letters, .func (PySem.W.fnOf "first_letters" "first_letters" (defArgs s_first_letters) (defBody s_first_letters) (defScope s_first_letters) .none kV_first_letters dc_first_letters pm_first_letters an_first_letters cd_first_letters ct_first_letters), sl_first_letters⟩)
    (c_first_letters : PySem.W.codeIn K cd_first_letters "first_letters" = true)
    (k_first_letters : PySem.W.keepIn K (.ref fa_first_letters) = true)
    (a_without : PySem.W.nsIn K mainGlobals "without" = some (some (.ref fa_without)))
    (l_without : K.lookup fa_without = some ⟨oc_without, od_without, .func (PySem.W.fnOf "without" "without" (defArgs s_without) (defBody s_without) (defScope s_without) .none kV_without dc_without pm_without an_without cd_without ct_without), sl_without⟩)
    (c_without : PySem.W.codeIn K cd_without "without" = true)
    (k_without : PySem.W.keepIn K (.ref fa_without) = true)
    (a_least_of : PySem.W.nsIn K mainGlobals "least_of" = some (some (.ref fa_least_of)))
    (l_least_of : K.lookup fa_least_of = some ⟨oc_least_of, od_least_of, .func (PySem.W.fnOf "least_of" "least_of" (defArgs s_least_of) (defBody s_least_of) (defScope s_least_of) .none kV_least_of dc_least_of pm_least_of an_least_of cd_least_of ct_least_of), sl_least_of⟩)
    (c_least_of : PySem.W.codeIn K cd_least_of "least_of" = true)
    (k_least_of : PySem.W.keepIn K (.ref fa_least_of) = true)
    (a_count_alike : PySem.W.nsIn K mainGlobals "count_alike" = some (some (.ref fa_count_alike)))
    (l_count_alike : K.lookup fa_count_alike = some ⟨oc_count_alike, od_count_alike, .func (PySem.W.fnOf "count_alike" "count_alike" (defArgs s_count_alike) (defBody s_count_alike) (defScope s_count_alike) .none kV_count_alike dc_count_alike pm_count_alike an_count_alike cd_count_alike ct_count_alike), sl_count_alike⟩)
    (c_count_alike : PySem.W.codeIn K cd_count_alike "count_alike" = true)
    (k_count_alike : PySem.W.keepIn K (.ref fa_count_alike) = true)
    (a_numbered : PySem.W.nsIn K mainGlobals "numbered" = some (some (.ref fa_numbered)))
    (l_numbered : K.lookup fa_numbered = some ⟨oc_numbered, od_numbered, .func (PySem.W.fnOf "numbered" "numbered" (defArgs s_numbered) (defBody s_numbered) (defScope s_numbered) .none kV_numbered dc_numbered pm_numbered an_numbered cd_numbered ct_numbered), sl_numbered⟩)
    (c_numbered : PySem.W.codeIn K cd_numbered "numbered" = true)
    (k_numbered : PySem.W.keepIn K (.ref fa_numbered) = true)
    (a_pick : PySem.W.nsIn K mainGlobals "pick" = some (some (.ref fa_pick)))
    (l_pick : K.lookup fa_pick = some ⟨oc_pick, od_pick, .func (PySem.W.fnOf "pick" "pick" (defArgs s_pick) (defBody s_pick) (defScope s_pick) .none kV_pick dc_pick pm_pick an_pick cd_pick ct_pick), sl_pick⟩)
    (c_pick : PySem.W.codeIn K cd_pick "pick" = true)
    (k_pick : PySem.W.keepIn K (.ref fa_pick) = true)
    (a_turned : PySem.W.nsIn K mainGlobals "turned" = some (some (.ref fa_turned)))
    (l_turned : K.lookup fa_turned = some ⟨oc_turned, od_turned, .func (PySem.W.fnOf "turned" "turned" (defArgs s_turned) (defBody s_turned) (defScope s_turned) .none kV_turned dc_turned pm_turned an_turned cd_turned ct_turned), sl_turned⟩)
    (c_turned : PySem.W.codeIn K cd_turned "turned" = true)
    (k_turned : PySem.W.keepIn K (.ref fa_turned) = true)
    (a_check_turning : PySem.W.nsIn K mainGlobals "check_turning" = some (some (.ref fa_check_turning)))
    (l_check_turning : K.lookup fa_check_turning = some ⟨oc_check_turning, od_check_turning, .func (PySem.W.fnOf "check_turning" "check_turning" (defArgs s_check_turning) (defBody s_check_turning) (defScope s_check_turning) .none kV_check_turning dc_check_turning pm_check_turning an_check_turning cd_check_turning ct_check_turning), sl_check_turning⟩)
    (c_check_turning : PySem.W.codeIn K cd_check_turning "check_turning" = true)
    (k_check_turning : PySem.W.keepIn K (.ref fa_check_turning) = true)
    (a_all_turned : PySem.W.nsIn K mainGlobals "all_turned" = some (some (.ref fa_all_turned)))
    (l_all_turned : K.lookup fa_all_turned = some ⟨oc_all_turned, od_all_turned, .func (PySem.W.fnOf "all_turned" "all_turned" (defArgs s_all_turned) (defBody s_all_turned) (defScope s_all_turned) .none kV_all_turned dc_all_turned pm_all_turned an_all_turned cd_all_turned ct_all_turned), sl_all_turned⟩)
    (c_all_turned : PySem.W.codeIn K cd_all_turned "all_turned" = true)
    (k_all_turned : PySem.W.keepIn K (.ref fa_all_turned) = true)
    (a_all_groups : PySem.W.nsIn K mainGlobals "all_groups" = some (some (.ref fa_all_groups)))
    (l_all_groups : K.lookup fa_all_groups = some ⟨oc_all_groups, od_all_groups, .func (PySem.W.fnOf "all_groups" "all_groups" (defArgs s_all_groups) (defBody s_all_groups) (defScope s_all_groups) .none kV_all_groups dc_all_groups pm_all_groups an_all_groups cd_all_groups ct_all_groups), sl_all_groups⟩)
    (c_all_groups : PySem.W.codeIn K cd_all_groups "all_groups" = true)
    (k_all_groups : PySem.W.keepIn K (.ref fa_all_groups) = true)
    (a_may_join : PySem.W.nsIn K mainGlobals "may_join" = some (some (.ref fa_may_join)))
    (l_may_join : K.lookup fa_may_join = some ⟨oc_may_join, od_may_join, .func (PySem.W.fnOf "may_join" "may_join" (defArgs s_may_join) (defBody s_may_join) (defScope s_may_join) .none kV_may_join dc_may_join pm_may_join an_may_join cd_may_join ct_may_join), sl_may_join⟩)
    (c_may_join : PySem.W.codeIn K cd_may_join "may_join" = true)
    (k_may_join : PySem.W.keepIn K (.ref fa_may_join) = true)
    (a_signed_counts : PySem.W.nsIn K mainGlobals "signed_counts" = some (some (.ref fa_signed_counts)))
    (l_signed_counts : K.lookup fa_signed_counts = some ⟨oc_signed_counts, od_signed_counts, .func (PySem.W.fnOf "signed_counts" "signed_counts" (defArgs s_signed_counts) (defBody s_signed_counts) (defScope s_signed_counts) .none kV_signed_counts dc_signed_counts pm_signed_counts an_signed_counts cd_signed_counts ct_signed_counts), sl_signed_counts⟩)
    (c_signed_counts : PySem.W.codeIn K cd_signed_counts "signed_counts" = true)
    (k_signed_counts : PySem.W.keepIn K (.ref fa_signed_counts) = true)
    (a_sign : PySem.W.nsIn K mainGlobals "sign" = some (some (.ref fa_sign)))
    (l_sign : K.lookup fa_sign = some ⟨oc_sign, od_sign, .func (PySem.W.fnOf "sign" "sign" (defArgs s_sign) (defBody s_sign) (defScope s_sign) .none kV_sign dc_sign pm_sign an_sign cd_sign ct_sign), sl_sign⟩)
    (c_sign : PySem.W.codeIn K cd_sign "sign" = true)
    (k_sign : PySem.W.keepIn K (.ref fa_sign) = true)
    (a_how_many : PySem.W.nsIn K mainGlobals "how_many" = some (some (.ref fa_how_many)))
    (l_how_many : K.lookup fa_how_many = some ⟨oc_how_many, od_how_many, .func (PySem.W.fnOf "how_many" "how_many" (defArgs s_how_many) (defBody s_how_many) (defScope s_how_many) .none kV_how_many dc_how_many pm_how_many an_how_many cd_how_many ct_how_many), sl_how_many⟩)
    (c_how_many : PySem.W.codeIn K cd_how_many "how_many" = true)
    (k_how_many : PySem.W.keepIn K (.ref fa_how_many) = true)
    (a_how_many_by : PySem.W.nsIn K mainGlobals "how_many_by" = some (some (.ref fa_how_many_by)))
    (l_how_many_by : K.lookup fa_how_many_by = some ⟨oc_how_many_by, od_how_many_by, .func (PySem.W.fnOf "how_many_by" "how_many_by" (defArgs s_how_many_by) (defBody s_how_many_by) (defScope s_how_many_by) .none kV_how_many_by dc_how_many_by pm_how_many_by an_how_many_by cd_how_many_by ct_how_many_by), sl_how_many_by⟩)
    (c_how_many_by : PySem.W.codeIn K cd_how_many_by "how_many_by" = true)
    (k_how_many_by : PySem.W.keepIn K (.ref fa_how_many_by) = true)
    (a_term_by : PySem.W.nsIn K mainGlobals "term_by" = some (some (.ref fa_term_by)))
    (l_term_by : K.lookup fa_term_by = some ⟨oc_term_by, od_term_by, .func (PySem.W.fnOf "term_by" "term_by" (defArgs s_term_by) (defBody s_term_by) (defScope s_term_by) .none kV_term_by dc_term_by pm_term_by an_term_by cd_term_by ct_term_by), sl_term_by⟩)
    (c_term_by : PySem.W.codeIn K cd_term_by "term_by" = true)
    (k_term_by : PySem.W.keepIn K (.ref fa_term_by) = true)
    (a_change_signs : PySem.W.nsIn K mainGlobals "change_signs" = some (some (.ref fa_change_signs)))
    (l_change_signs : K.lookup fa_change_signs = some ⟨oc_change_signs, od_change_signs, .func (PySem.W.fnOf "change_signs" "change_signs" (defArgs s_change_signs) (defBody s_change_signs) (defScope s_change_signs) .none kV_change_signs dc_change_signs pm_change_signs an_change_signs cd_change_signs ct_change_signs), sl_change_signs⟩)
    (c_change_signs : PySem.W.codeIn K cd_change_signs "change_signs" = true)
    (k_change_signs : PySem.W.keepIn K (.ref fa_change_signs) = true)
    (a_multiply : PySem.W.nsIn K mainGlobals "multiply" = some (some (.ref fa_multiply)))
    (l_multiply : K.lookup fa_multiply = some ⟨oc_multiply, od_multiply, .func (PySem.W.fnOf "multiply" "multiply" (defArgs s_multiply) (defBody s_multiply) (defScope s_multiply) .none kV_multiply dc_multiply pm_multiply an_multiply cd_multiply ct_multiply), sl_multiply⟩)
    (c_multiply : PySem.W.codeIn K cd_multiply "multiply" = true)
    (k_multiply : PySem.W.keepIn K (.ref fa_multiply) = true)
    (a_trades_by : PySem.W.nsIn K mainGlobals "trades_by" = some (some (.ref fa_trades_by)))
    (l_trades_by : K.lookup fa_trades_by = some ⟨oc_trades_by, od_trades_by, .func (PySem.W.fnOf "trades_by" "trades_by" (defArgs s_trades_by) (defBody s_trades_by) (defScope s_trades_by) .none kV_trades_by dc_trades_by pm_trades_by an_trades_by cd_trades_by ct_trades_by), sl_trades_by⟩)
    (c_trades_by : PySem.W.codeIn K cd_trades_by "trades_by" = true)
    (k_trades_by : PySem.W.keepIn K (.ref fa_trades_by) = true)
    (a_check_facts : PySem.W.nsIn K mainGlobals "check_facts" = some (some (.ref fa_check_facts)))
    (l_check_facts : K.lookup fa_check_facts = some ⟨oc_check_facts, od_check_facts, .func (PySem.W.fnOf "check_facts" "check_facts" (defArgs s_check_facts) (defBody s_check_facts) (defScope s_check_facts) .none kV_check_facts dc_check_facts pm_check_facts an_check_facts cd_check_facts ct_check_facts), sl_check_facts⟩)
    (c_check_facts : PySem.W.codeIn K cd_check_facts "check_facts" = true)
    (k_check_facts : PySem.W.keepIn K (.ref fa_check_facts) = true)
    (a_is_fact : PySem.W.nsIn K mainGlobals "is_fact" = some (some (.ref fa_is_fact)))
    (l_is_fact : K.lookup fa_is_fact = some ⟨oc_is_fact, od_is_fact, .func (PySem.W.fnOf "is_fact" "is_fact" (defArgs s_is_fact) (defBody s_is_fact) (defScope s_is_fact) .none kV_is_fact dc_is_fact pm_is_fact an_is_fact cd_is_fact ct_is_fact), sl_is_fact⟩)
    (c_is_fact : PySem.W.codeIn K cd_is_fact "is_fact" = true)
    (k_is_fact : PySem.W.keepIn K (.ref fa_is_fact) = true)
    (a_choices_of_pairs : PySem.W.nsIn K mainGlobals "choices_of_pairs" = some (some (.ref fa_choices_of_pairs)))
    (l_choices_of_pairs : K.lookup fa_choices_of_pairs = some ⟨oc_choices_of_pairs, od_choices_of_pairs, .func (PySem.W.fnOf "choices_of_pairs" "choices_of_pairs" (defArgs s_choices_of_pairs) (defBody s_choices_of_pairs) (defScope s_choices_of_pairs) .none kV_choices_of_pairs dc_choices_of_pairs pm_choices_of_pairs an_choices_of_pairs cd_choices_of_pairs ct_choices_of_pairs), sl_choices_of_pairs⟩)
    (c_choices_of_pairs : PySem.W.codeIn K cd_choices_of_pairs "choices_of_pairs" = true)
    (k_choices_of_pairs : PySem.W.keepIn K (.ref fa_choices_of_pairs) = true)
    (a_all_hold : PySem.W.nsIn K mainGlobals "all_hold" = some (some (.ref fa_all_hold)))
    (l_all_hold : K.lookup fa_all_hold = some ⟨oc_all_hold, od_all_hold, .func (PySem.W.fnOf "all_hold" "all_hold" (defArgs s_all_hold) (defBody s_all_hold) (defScope s_all_hold) .none kV_all_hold dc_all_hold pm_all_hold an_all_hold cd_all_hold ct_all_hold), sl_all_hold⟩)
    (c_all_hold : PySem.W.codeIn K cd_all_hold "all_hold" = true)
    (k_all_hold : PySem.W.keepIn K (.ref fa_all_hold) = true)
    (a_holds : PySem.W.nsIn K mainGlobals "holds" = some (some (.ref fa_holds)))
    (l_holds : K.lookup fa_holds = some ⟨oc_holds, od_holds, .func (PySem.W.fnOf "holds" "holds" (defArgs s_holds) (defBody s_holds) (defScope s_holds) .none kV_holds dc_holds pm_holds an_holds cd_holds ct_holds), sl_holds⟩)
    (c_holds : PySem.W.codeIn K cd_holds "holds" = true)
    (k_holds : PySem.W.keepIn K (.ref fa_holds) = true)
    (a_Line___init__ : PySem.W.findIn K (.ref C_Line) "__init__" = some (some (.ref fa_Line___init__)))
    (i_Line___init__ : PySem.W.isFn K (.ref fa_Line___init__) = true)
    (l_Line___init__ : K.lookup fa_Line___init__ = some ⟨oc_Line___init__, od_Line___init__, .func (PySem.W.fnOf "__init__" "Line.__init__" (defArgs s_Line___init__) (defBody s_Line___init__) (defScope s_Line___init__) .none kV_Line___init__ dc_Line___init__ pm_Line___init__ an_Line___init__ cd_Line___init__ ct_Line___init__), sl_Line___init__⟩)
    (c_Line___init__ : PySem.W.codeIn K cd_Line___init__ "Line.__init__" = true)
    (k_Line___init__ : PySem.W.keepIn K (.ref fa_Line___init__) = true)
    (a_Line_row : PySem.W.findIn K (.ref C_Line) "row" = some (some (.ref pr_row)))
    (g_Line_row : PySem.W.specialIn K (.ref pr_row) "__get__" = some (some (.builtin "property.__get__")))
    (t_Line_row : PySem.W.takesIn K (.ref pr_row) = some true)
    (r_Line_row : PySem.W.recIn K pr_row "property" = some (.ref fa_Line_row :: rest_row))
    (l_Line_row : K.lookup fa_Line_row = some ⟨oc_Line_row, od_Line_row, .func (PySem.W.fnOf "row" "Line.row" (defArgs s_Line_row) (defBody s_Line_row) (defScope s_Line_row) .none kV_Line_row dc_Line_row pm_Line_row an_Line_row cd_Line_row ct_Line_row), sl_Line_row⟩)
    (c_Line_row : PySem.W.codeIn K cd_Line_row "Line.row" = true)
    (k_Line_row : PySem.W.keepIn K (.ref fa_Line_row) = true)
    (a_Line_least : PySem.W.findIn K (.ref C_Line) "least" = some (some (.ref pr_least)))
    (g_Line_least : PySem.W.specialIn K (.ref pr_least) "__get__" = some (some (.builtin "property.__get__")))
    (t_Line_least : PySem.W.takesIn K (.ref pr_least) = some true)
    (r_Line_least : PySem.W.recIn K pr_least "property" = some (.ref fa_Line_least :: rest_least))
    (l_Line_least : K.lookup fa_Line_least = some ⟨oc_Line_least, od_Line_least, .func (PySem.W.fnOf "least" "Line.least" (defArgs s_Line_least) (defBody s_Line_least) (defScope s_Line_least) .none kV_Line_least dc_Line_least pm_Line_least an_Line_least cd_Line_least ct_Line_least), sl_Line_least⟩)
    (c_Line_least : PySem.W.codeIn K cd_Line_least "Line.least" = true)
    (k_Line_least : PySem.W.keepIn K (.ref fa_Line_least) = true)
    (a_Line_add : PySem.W.findIn K (.ref C_Line) "add" = some (some (.ref fa_Line_add)))
    (i_Line_add : PySem.W.isFn K (.ref fa_Line_add) = true)
    (l_Line_add : K.lookup fa_Line_add = some ⟨oc_Line_add, od_Line_add, .func (PySem.W.fnOf "add" "Line.add" (defArgs s_Line_add) (defBody s_Line_add) (defScope s_Line_add) .none kV_Line_add dc_Line_add pm_Line_add an_Line_add cd_Line_add ct_Line_add), sl_Line_add⟩)
    (c_Line_add : PySem.W.codeIn K cd_Line_add "Line.add" = true)
    (k_Line_add : PySem.W.keepIn K (.ref fa_Line_add) = true)
    (a_Line_swap : PySem.W.findIn K (.ref C_Line) "swap" = some (some (.ref fa_Line_swap)))
    (i_Line_swap : PySem.W.isFn K (.ref fa_Line_swap) = true)
    (l_Line_swap : K.lookup fa_Line_swap = some ⟨oc_Line_swap, od_Line_swap, .func (PySem.W.fnOf "swap" "Line.swap" (defArgs s_Line_swap) (defBody s_Line_swap) (defScope s_Line_swap) .none kV_Line_swap dc_Line_swap pm_Line_swap an_Line_swap cd_Line_swap ct_Line_swap), sl_Line_swap⟩)
    (c_Line_swap : PySem.W.codeIn K cd_Line_swap "Line.swap" = true)
    (k_Line_swap : PySem.W.keepIn K (.ref fa_Line_swap) = true)
    (a_Line___len__ : PySem.W.findIn K (.ref C_Line) "__len__" = some (some (.ref fa_Line___len__)))
    (i_Line___len__ : PySem.W.isFn K (.ref fa_Line___len__) = true)
    (ti_Line___len__ : PySem.W.typeIn K (.ref fa_Line___len__) = some (.type "function"))
    (l_Line___len__ : K.lookup fa_Line___len__ = some ⟨oc_Line___len__, od_Line___len__, .func (PySem.W.fnOf "__len__" "Line.__len__" (defArgs s_Line___len__) (defBody s_Line___len__) (defScope s_Line___len__) .none kV_Line___len__ dc_Line___len__ pm_Line___len__ an_Line___len__ cd_Line___len__ ct_Line___len__), sl_Line___len__⟩)
    (c_Line___len__ : PySem.W.codeIn K cd_Line___len__ "Line.__len__" = true)
    (k_Line___len__ : PySem.W.keepIn K (.ref fa_Line___len__) = true)
    (a_is_change : PySem.W.nsIn K mainGlobals "is_change" = some (some (.ref fa_is_change)))
    (l_is_change : K.lookup fa_is_change = some ⟨oc_is_change, od_is_change, .func (PySem.W.fnOf "is_change" "is_change" (defArgs s_is_change) (defBody s_is_change) (defScope s_is_change) .none kV_is_change dc_is_change pm_is_change an_is_change cd_is_change ct_is_change), sl_is_change⟩)
    (c_is_change : PySem.W.codeIn K cd_is_change "is_change" = true)
    (k_is_change : PySem.W.keepIn K (.ref fa_is_change) = true)
    (a_read_row : PySem.W.nsIn K mainGlobals "read_row" = some (some (.ref fa_read_row)))
    (l_read_row : K.lookup fa_read_row = some ⟨oc_read_row, od_read_row, .func (PySem.W.fnOf "read_row" "read_row" (defArgs s_read_row) (defBody s_read_row) (defScope s_read_row) .none kV_read_row dc_read_row pm_read_row an_read_row cd_read_row ct_read_row), sl_read_row⟩)
    (c_read_row : PySem.W.codeIn K cd_read_row "read_row" = true)
    (k_read_row : PySem.W.keepIn K (.ref fa_read_row) = true)
    (a_read_letters : PySem.W.nsIn K mainGlobals "read_letters" = some (some (.ref fa_read_letters)))
    (l_read_letters : K.lookup fa_read_letters = some ⟨oc_read_letters, od_read_letters, .func (PySem.W.fnOf "read_letters" "read_letters" (defArgs s_read_letters) (defBody s_read_letters) (defScope s_read_letters) .none kV_read_letters dc_read_letters pm_read_letters an_read_letters cd_read_letters ct_read_letters), sl_read_letters⟩)
    (c_read_letters : PySem.W.codeIn K cd_read_letters "read_letters" = true)
    (k_read_letters : PySem.W.keepIn K (.ref fa_read_letters) = true)
    (a_can_stand : PySem.W.nsIn K mainGlobals "can_stand" = some (some (.ref fa_can_stand)))
    (l_can_stand : K.lookup fa_can_stand = some ⟨oc_can_stand, od_can_stand, .func (PySem.W.fnOf "can_stand" "can_stand" (defArgs s_can_stand) (defBody s_can_stand) (defScope s_can_stand) .none kV_can_stand dc_can_stand pm_can_stand an_can_stand cd_can_stand ct_can_stand), sl_can_stand⟩)
    (c_can_stand : PySem.W.codeIn K cd_can_stand "can_stand" = true)
    (k_can_stand : PySem.W.keepIn K (.ref fa_can_stand) = true)
    (a__law_mix : PySem.W.nsIn K mainGlobals "_law_mix" = some (some (.ref fa__law_mix)))
    (l__law_mix : K.lookup fa__law_mix = some ⟨oc__law_mix, od__law_mix, .func (PySem.W.fnOf "_law_mix" "_law_mix" (defArgs s__law_mix) (defBody s__law_mix) (defScope s__law_mix) .none kV__law_mix dc__law_mix pm__law_mix an__law_mix cd__law_mix ct__law_mix), sl__law_mix⟩)
    (c__law_mix : PySem.W.codeIn K cd__law_mix "_law_mix" = true)
    (k__law_mix : PySem.W.keepIn K (.ref fa__law_mix) = true)
    (a__law_next : PySem.W.nsIn K mainGlobals "_law_next" = some (some (.ref fa__law_next)))
    (l__law_next : K.lookup fa__law_next = some ⟨oc__law_next, od__law_next, .func (PySem.W.fnOf "_law_next" "_law_next" (defArgs s__law_next) (defBody s__law_next) (defScope s__law_next) .none kV__law_next dc__law_next pm__law_next an__law_next cd__law_next ct__law_next), sl__law_next⟩)
    (c__law_next : PySem.W.codeIn K cd__law_next "_law_next" = true)
    (k__law_next : PySem.W.keepIn K (.ref fa__law_next) = true)
    (a__law_which : PySem.W.nsIn K mainGlobals "_law_which" = some (some (.ref fa__law_which)))
    (l__law_which : K.lookup fa__law_which = some ⟨oc__law_which, od__law_which, .func (PySem.W.fnOf "_law_which" "_law_which" (defArgs s__law_which) (defBody s__law_which) (defScope s__law_which) .none kV__law_which dc__law_which pm__law_which an__law_which cd__law_which ct__law_which), sl__law_which⟩)
    (c__law_which : PySem.W.codeIn K cd__law_which "_law_which" = true)
    (k__law_which : PySem.W.keepIn K (.ref fa__law_which) = true)
    (a__law_early : PySem.W.nsIn K mainGlobals "_law_early" = some (some (.ref fa__law_early)))
    (l__law_early : K.lookup fa__law_early = some ⟨oc__law_early, od__law_early, .func (PySem.W.fnOf "_law_early" "_law_early" (defArgs s__law_early) (defBody s__law_early) (defScope s__law_early) .none kV__law_early dc__law_early pm__law_early an__law_early cd__law_early ct__law_early), sl__law_early⟩)
    (c__law_early : PySem.W.codeIn K cd__law_early "_law_early" = true)
    (k__law_early : PySem.W.keepIn K (.ref fa__law_early) = true)
    (a__law_do : PySem.W.nsIn K mainGlobals "_law_do" = some (some (.ref fa__law_do)))
    (l__law_do : K.lookup fa__law_do = some ⟨oc__law_do, od__law_do, .func (PySem.W.fnOf "_law_do" "_law_do" (defArgs s__law_do) (defBody s__law_do) (defScope s__law_do) .none kV__law_do dc__law_do pm__law_do an__law_do cd__law_do ct__law_do), sl__law_do⟩)
    (c__law_do : PySem.W.codeIn K cd__law_do "_law_do" = true)
    (k__law_do : PySem.W.keepIn K (.ref fa__law_do) = true)
    (a_law : PySem.W.nsIn K mainGlobals "law" = some (some (.ref fa_law)))
    (l_law : K.lookup fa_law = some ⟨oc_law, od_law, .func (PySem.W.fnOf "law" "law" (defArgs s_law) (defBody s_law) (defScope s_law) .none kV_law dc_law pm_law an_law cd_law ct_law), sl_law⟩)
    (c_law : PySem.W.codeIn K cd_law "law" = true)
    (k_law : PySem.W.keepIn K (.ref fa_law) = true)
    (xL_BadLetters : K.lookup C_BadLetters = some (excClassObj nm_BadLetters qn_BadLetters C_BadLetters N_BadLetters bs_BadLetters [.ref C_TradeError, .type "ValueError", .type "Exception", .type "BaseException", .type "object"] true sn_BadLetters sb_BadLetters ab_BadLetters cl_BadLetters dd_BadLetters k0_BadLetters k1_BadLetters k2_BadLetters k3_BadLetters k5_BadLetters "ValueError.__new__"))
    (sa_BadLetters : PySem.W.findIn K (.ref C_BadLetters) "__setattr__" = some (some (.builtin "object.__setattr__")))
    (ex_BadLetters : PySem.W.subIn K (.ref C_BadLetters) (.type "BaseException") = some true)
    (ty_BadLetters : PySem.W.typeIn K (.ref C_BadLetters) = some (.type "type"))
    (kp_BadLetters : PySem.W.keepIn K (.ref C_BadLetters) = true)
    (ii_BadLetters : PySem.W.findIn K (.ref C_BadLetters) "__init__" = some (some (.ref fa_TradeError___init__)))
    (xL_BadPairs : K.lookup C_BadPairs = some (excClassObj nm_BadPairs qn_BadPairs C_BadPairs N_BadPairs bs_BadPairs [.ref C_TradeError, .type "ValueError", .type "Exception", .type "BaseException", .type "object"] true sn_BadPairs sb_BadPairs ab_BadPairs cl_BadPairs dd_BadPairs k0_BadPairs k1_BadPairs k2_BadPairs k3_BadPairs k5_BadPairs "ValueError.__new__"))
    (sa_BadPairs : PySem.W.findIn K (.ref C_BadPairs) "__setattr__" = some (some (.builtin "object.__setattr__")))
    (ex_BadPairs : PySem.W.subIn K (.ref C_BadPairs) (.type "BaseException") = some true)
    (ty_BadPairs : PySem.W.typeIn K (.ref C_BadPairs) = some (.type "type"))
    (kp_BadPairs : PySem.W.keepIn K (.ref C_BadPairs) = true)
    (ii_BadPairs : PySem.W.findIn K (.ref C_BadPairs) "__init__" = some (some (.ref fa_BadPairs___init__)))
    (xL_BadTrade : K.lookup C_BadTrade = some (excClassObj nm_BadTrade qn_BadTrade C_BadTrade N_BadTrade bs_BadTrade [.ref C_TradeError, .type "ValueError", .type "Exception", .type "BaseException", .type "object"] true sn_BadTrade sb_BadTrade ab_BadTrade cl_BadTrade dd_BadTrade k0_BadTrade k1_BadTrade k2_BadTrade k3_BadTrade k5_BadTrade "ValueError.__new__"))
    (sa_BadTrade : PySem.W.findIn K (.ref C_BadTrade) "__setattr__" = some (some (.builtin "object.__setattr__")))
    (ex_BadTrade : PySem.W.subIn K (.ref C_BadTrade) (.type "BaseException") = some true)
    (ty_BadTrade : PySem.W.typeIn K (.ref C_BadTrade) = some (.type "type"))
    (kp_BadTrade : PySem.W.keepIn K (.ref C_BadTrade) = true)
    (ii_BadTrade : PySem.W.findIn K (.ref C_BadTrade) "__init__" = some (some (.ref fa_TradeError___init__)))
    (xL_BadRow : K.lookup C_BadRow = some (excClassObj nm_BadRow qn_BadRow C_BadRow N_BadRow bs_BadRow [.ref C_TradeError, .type "ValueError", .type "Exception", .type "BaseException", .type "object"] true sn_BadRow sb_BadRow ab_BadRow cl_BadRow dd_BadRow k0_BadRow k1_BadRow k2_BadRow k3_BadRow k5_BadRow "ValueError.__new__"))
    (sa_BadRow : PySem.W.findIn K (.ref C_BadRow) "__setattr__" = some (some (.builtin "object.__setattr__")))
    (ex_BadRow : PySem.W.subIn K (.ref C_BadRow) (.type "BaseException") = some true)
    (ty_BadRow : PySem.W.typeIn K (.ref C_BadRow) = some (.type "type"))
    (kp_BadRow : PySem.W.keepIn K (.ref C_BadRow) = true)
    (ii_BadRow : PySem.W.findIn K (.ref C_BadRow) "__init__" = some (some (.ref fa_TradeError___init__)))
    (xL_BadNumber : K.lookup C_BadNumber = some (excClassObj nm_BadNumber qn_BadNumber C_BadNumber N_BadNumber bs_BadNumber [.ref C_TradeError, .type "ValueError", .type "Exception", .type "BaseException", .type "object"] true sn_BadNumber sb_BadNumber ab_BadNumber cl_BadNumber dd_BadNumber k0_BadNumber k1_BadNumber k2_BadNumber k3_BadNumber k5_BadNumber "ValueError.__new__"))
    (sa_BadNumber : PySem.W.findIn K (.ref C_BadNumber) "__setattr__" = some (some (.builtin "object.__setattr__")))
    (ex_BadNumber : PySem.W.subIn K (.ref C_BadNumber) (.type "BaseException") = some true)
    (ty_BadNumber : PySem.W.typeIn K (.ref C_BadNumber) = some (.type "type"))
    (kp_BadNumber : PySem.W.keepIn K (.ref C_BadNumber) = true)
    (ii_BadNumber : PySem.W.findIn K (.ref C_BadNumber) "__init__" = some (some (.ref fa_TradeError___init__)))
    (xL_TooLong : K.lookup C_TooLong = some (excClassObj nm_TooLong qn_TooLong C_TooLong N_TooLong bs_TooLong [.ref C_TradeError, .type "ValueError", .type "Exception", .type "BaseException", .type "object"] true sn_TooLong sb_TooLong ab_TooLong cl_TooLong dd_TooLong k0_TooLong k1_TooLong k2_TooLong k3_TooLong k5_TooLong "ValueError.__new__"))
    (sa_TooLong : PySem.W.findIn K (.ref C_TooLong) "__setattr__" = some (some (.builtin "object.__setattr__")))
    (ex_TooLong : PySem.W.subIn K (.ref C_TooLong) (.type "BaseException") = some true)
    (ty_TooLong : PySem.W.typeIn K (.ref C_TooLong) = some (.type "type"))
    (kp_TooLong : PySem.W.keepIn K (.ref C_TooLong) = true)
    (ii_TooLong : PySem.W.findIn K (.ref C_TooLong) "__init__" = some (some (.ref fa_TradeError___init__)))
    (xL_BadLength : K.lookup C_BadLength = some (excClassObj nm_BadLength qn_BadLength C_BadLength N_BadLength bs_BadLength [.ref C_TradeError, .type "ValueError", .type "Exception", .type "BaseException", .type "object"] true sn_BadLength sb_BadLength ab_BadLength cl_BadLength dd_BadLength k0_BadLength k1_BadLength k2_BadLength k3_BadLength k5_BadLength "ValueError.__new__"))
    (sa_BadLength : PySem.W.findIn K (.ref C_BadLength) "__setattr__" = some (some (.builtin "object.__setattr__")))
    (ex_BadLength : PySem.W.subIn K (.ref C_BadLength) (.type "BaseException") = some true)
    (ty_BadLength : PySem.W.typeIn K (.ref C_BadLength) = some (.type "type"))
    (kp_BadLength : PySem.W.keepIn K (.ref C_BadLength) = true)
    (ii_BadLength : PySem.W.findIn K (.ref C_BadLength) "__init__" = some (some (.ref fa_TradeError___init__)))
    (xL_BadModulus : K.lookup C_BadModulus = some (excClassObj nm_BadModulus qn_BadModulus C_BadModulus N_BadModulus bs_BadModulus [.ref C_TradeError, .type "ValueError", .type "Exception", .type "BaseException", .type "object"] true sn_BadModulus sb_BadModulus ab_BadModulus cl_BadModulus dd_BadModulus k0_BadModulus k1_BadModulus k2_BadModulus k3_BadModulus k5_BadModulus "ValueError.__new__"))
    (sa_BadModulus : PySem.W.findIn K (.ref C_BadModulus) "__setattr__" = some (some (.builtin "object.__setattr__")))
    (ex_BadModulus : PySem.W.subIn K (.ref C_BadModulus) (.type "BaseException") = some true)
    (ty_BadModulus : PySem.W.typeIn K (.ref C_BadModulus) = some (.type "type"))
    (kp_BadModulus : PySem.W.keepIn K (.ref C_BadModulus) = true)
    (ii_BadModulus : PySem.W.findIn K (.ref C_BadModulus) "__init__" = some (some (.ref fa_TradeError___init__)))
    (xL_BadFacts : K.lookup C_BadFacts = some (excClassObj nm_BadFacts qn_BadFacts C_BadFacts N_BadFacts bs_BadFacts [.ref C_TradeError, .type "ValueError", .type "Exception", .type "BaseException", .type "object"] true sn_BadFacts sb_BadFacts ab_BadFacts cl_BadFacts dd_BadFacts k0_BadFacts k1_BadFacts k2_BadFacts k3_BadFacts k5_BadFacts "ValueError.__new__"))
    (sa_BadFacts : PySem.W.findIn K (.ref C_BadFacts) "__setattr__" = some (some (.builtin "object.__setattr__")))
    (ex_BadFacts : PySem.W.subIn K (.ref C_BadFacts) (.type "BaseException") = some true)
    (ty_BadFacts : PySem.W.typeIn K (.ref C_BadFacts) = some (.type "type"))
    (kp_BadFacts : PySem.W.keepIn K (.ref C_BadFacts) = true)
    (ii_BadFacts : PySem.W.findIn K (.ref C_BadFacts) "__init__" = some (some (.ref fa_BadFacts___init__)))
    (xL_BadLetter : K.lookup C_BadLetter = some (excClassObj nm_BadLetter qn_BadLetter C_BadLetter N_BadLetter bs_BadLetter [.ref C_TradeError, .type "ValueError", .type "Exception", .type "BaseException", .type "object"] true sn_BadLetter sb_BadLetter ab_BadLetter cl_BadLetter dd_BadLetter k0_BadLetter k1_BadLetter k2_BadLetter k3_BadLetter k5_BadLetter "ValueError.__new__"))
    (sa_BadLetter : PySem.W.findIn K (.ref C_BadLetter) "__setattr__" = some (some (.builtin "object.__setattr__")))
    (ex_BadLetter : PySem.W.subIn K (.ref C_BadLetter) (.type "BaseException") = some true)
    (ty_BadLetter : PySem.W.typeIn K (.ref C_BadLetter) = some (.type "type"))
    (kp_BadLetter : PySem.W.keepIn K (.ref C_BadLetter) = true)
    (ii_BadLetter : PySem.W.findIn K (.ref C_BadLetter) "__init__" = some (some (.ref fa_TradeError___init__)))
    (xL_Full : K.lookup C_Full = some (excClassObj nm_Full qn_Full C_Full N_Full bs_Full [.ref C_TradeError, .type "ValueError", .type "Exception", .type "BaseException", .type "object"] true sn_Full sb_Full ab_Full cl_Full dd_Full k0_Full k1_Full k2_Full k3_Full k5_Full "ValueError.__new__"))
    (sa_Full : PySem.W.findIn K (.ref C_Full) "__setattr__" = some (some (.builtin "object.__setattr__")))
    (ex_Full : PySem.W.subIn K (.ref C_Full) (.type "BaseException") = some true)
    (ty_Full : PySem.W.typeIn K (.ref C_Full) = some (.type "type"))
    (kp_Full : PySem.W.keepIn K (.ref C_Full) = true)
    (ii_Full : PySem.W.findIn K (.ref C_Full) "__init__" = some (some (.ref fa_TradeError___init__)))
    (xL_BadPlace : K.lookup C_BadPlace = some (excClassObj nm_BadPlace qn_BadPlace C_BadPlace N_BadPlace bs_BadPlace [.ref C_TradeError, .type "ValueError", .type "Exception", .type "BaseException", .type "object"] true sn_BadPlace sb_BadPlace ab_BadPlace cl_BadPlace dd_BadPlace k0_BadPlace k1_BadPlace k2_BadPlace k3_BadPlace k5_BadPlace "ValueError.__new__"))
    (sa_BadPlace : PySem.W.findIn K (.ref C_BadPlace) "__setattr__" = some (some (.builtin "object.__setattr__")))
    (ex_BadPlace : PySem.W.subIn K (.ref C_BadPlace) (.type "BaseException") = some true)
    (ty_BadPlace : PySem.W.typeIn K (.ref C_BadPlace) = some (.type "type"))
    (kp_BadPlace : PySem.W.keepIn K (.ref C_BadPlace) = true)
    (ii_BadPlace : PySem.W.findIn K (.ref C_BadPlace) "__init__" = some (some (.ref fa_TradeError___init__)))
    (xL_InvalidText : K.lookup C_InvalidText = some (excClassObj nm_InvalidText qn_InvalidText C_InvalidText N_InvalidText bs_InvalidText [.ref C_TradeError, .type "ValueError", .type "Exception", .type "BaseException", .type "object"] true sn_InvalidText sb_InvalidText ab_InvalidText cl_InvalidText dd_InvalidText k0_InvalidText k1_InvalidText k2_InvalidText k3_InvalidText k5_InvalidText "ValueError.__new__"))
    (sa_InvalidText : PySem.W.findIn K (.ref C_InvalidText) "__setattr__" = some (some (.builtin "object.__setattr__")))
    (ex_InvalidText : PySem.W.subIn K (.ref C_InvalidText) (.type "BaseException") = some true)
    (ty_InvalidText : PySem.W.typeIn K (.ref C_InvalidText) = some (.type "type"))
    (kp_InvalidText : PySem.W.keepIn K (.ref C_InvalidText) = true)
    (ii_InvalidText : PySem.W.findIn K (.ref C_InvalidText) "__init__" = some (some (.ref fa_InvalidText___init__)))
    (ee_BadLetters_TradeError : PySem.W.exmOne K (.ref C_BadLetters) (.ref C_TradeError) = some true)
    (ee_BadPairs_TradeError : PySem.W.exmOne K (.ref C_BadPairs) (.ref C_TradeError) = some true)
    (ee_BadTrade_TradeError : PySem.W.exmOne K (.ref C_BadTrade) (.ref C_TradeError) = some true)
    (ee_BadRow_TradeError : PySem.W.exmOne K (.ref C_BadRow) (.ref C_TradeError) = some true)
    (ee_BadNumber_TradeError : PySem.W.exmOne K (.ref C_BadNumber) (.ref C_TradeError) = some true)
    (ee_TooLong_TradeError : PySem.W.exmOne K (.ref C_TooLong) (.ref C_TradeError) = some true)
    (ee_BadLength_TradeError : PySem.W.exmOne K (.ref C_BadLength) (.ref C_TradeError) = some true)
    (ee_BadModulus_TradeError : PySem.W.exmOne K (.ref C_BadModulus) (.ref C_TradeError) = some true)
    (ee_BadFacts_TradeError : PySem.W.exmOne K (.ref C_BadFacts) (.ref C_TradeError) = some true)
    (ee_BadLetter_TradeError : PySem.W.exmOne K (.ref C_BadLetter) (.ref C_TradeError) = some true)
    (ee_Full_TradeError : PySem.W.exmOne K (.ref C_Full) (.ref C_TradeError) = some true)
    (ee_BadPlace_TradeError : PySem.W.exmOne K (.ref C_BadPlace) (.ref C_TradeError) = some true)
    (ee_InvalidText_TradeError : PySem.W.exmOne K (.ref C_InvalidText) (.ref C_TradeError) = some true)
    (ee_BadPairs_BadPairs : PySem.W.exmOne K (.ref C_BadPairs) (.ref C_BadPairs) = some true)
    (ee_BadFacts_BadPairs : PySem.W.exmOne K (.ref C_BadFacts) (.ref C_BadPairs) = some false)
    (ee_BadFacts_BadFacts : PySem.W.exmOne K (.ref C_BadFacts) (.ref C_BadFacts) = some true)
    (ee_InvalidText_InvalidText : PySem.W.exmOne K (.ref C_InvalidText) (.ref C_InvalidText) = some true)
    (xn_E : PySem.W.specialIn K (.builtin "object.__class__") "__get__" = some (some (.builtin "getset_descriptor.__get__")))
    (xt_E : PySem.W.takesIn K (.builtin "object.__class__") = some true)
    (xg_BadLetters : PySem.W.findIn K (.ref C_BadLetters) "__getattribute__" = some (some (.builtin "BaseException.__getattribute__")))
    (xk_BadLetters : PySem.W.findIn K (.ref C_BadLetters) "__getattr__" = some none)
    (xh_BadLetters : PySem.W.hasDictIn K C_BadLetters = true)
    (xa_BadLetters : PySem.W.findIn K (.ref C_BadLetters) "__class__" = some (some (.builtin "object.__class__")))
    (xm_BadLetters : PySem.W.mroIn K C_BadLetters (.type "object") = some true)
    (kv_BadLetters_h : PySem.W.kitOne K (.ref C_BadLetters) (.type "ValueError") = some true)
    (k_BadLetters_BadLetters_h : PySem.W.kitOne K (.ref C_BadLetters) (.ref C_BadLetters) = some true)
    (k_BadLetters_BadPairs_h : PySem.W.kitOne K (.ref C_BadLetters) (.ref C_BadPairs) = some false)
    (k_BadLetters_BadTrade_h : PySem.W.kitOne K (.ref C_BadLetters) (.ref C_BadTrade) = some false)
    (k_BadLetters_BadRow_h : PySem.W.kitOne K (.ref C_BadLetters) (.ref C_BadRow) = some false)
    (k_BadLetters_BadNumber_h : PySem.W.kitOne K (.ref C_BadLetters) (.ref C_BadNumber) = some false)
    (k_BadLetters_TooLong_h : PySem.W.kitOne K (.ref C_BadLetters) (.ref C_TooLong) = some false)
    (k_BadLetters_BadLength_h : PySem.W.kitOne K (.ref C_BadLetters) (.ref C_BadLength) = some false)
    (k_BadLetters_BadModulus_h : PySem.W.kitOne K (.ref C_BadLetters) (.ref C_BadModulus) = some false)
    (k_BadLetters_BadFacts_h : PySem.W.kitOne K (.ref C_BadLetters) (.ref C_BadFacts) = some false)
    (k_BadLetters_BadLetter_h : PySem.W.kitOne K (.ref C_BadLetters) (.ref C_BadLetter) = some false)
    (k_BadLetters_Full_h : PySem.W.kitOne K (.ref C_BadLetters) (.ref C_Full) = some false)
    (k_BadLetters_BadPlace_h : PySem.W.kitOne K (.ref C_BadLetters) (.ref C_BadPlace) = some false)
    (k_BadLetters_InvalidText_h : PySem.W.kitOne K (.ref C_BadLetters) (.ref C_InvalidText) = some false)
    (xg_BadPairs : PySem.W.findIn K (.ref C_BadPairs) "__getattribute__" = some (some (.builtin "BaseException.__getattribute__")))
    (xk_BadPairs : PySem.W.findIn K (.ref C_BadPairs) "__getattr__" = some none)
    (xh_BadPairs : PySem.W.hasDictIn K C_BadPairs = true)
    (xa_BadPairs : PySem.W.findIn K (.ref C_BadPairs) "__class__" = some (some (.builtin "object.__class__")))
    (xm_BadPairs : PySem.W.mroIn K C_BadPairs (.type "object") = some true)
    (kv_BadPairs_h : PySem.W.kitOne K (.ref C_BadPairs) (.type "ValueError") = some true)
    (k_BadPairs_BadLetters_h : PySem.W.kitOne K (.ref C_BadPairs) (.ref C_BadLetters) = some false)
    (k_BadPairs_BadPairs_h : PySem.W.kitOne K (.ref C_BadPairs) (.ref C_BadPairs) = some true)
    (k_BadPairs_BadTrade_h : PySem.W.kitOne K (.ref C_BadPairs) (.ref C_BadTrade) = some false)
    (k_BadPairs_BadRow_h : PySem.W.kitOne K (.ref C_BadPairs) (.ref C_BadRow) = some false)
    (k_BadPairs_BadNumber_h : PySem.W.kitOne K (.ref C_BadPairs) (.ref C_BadNumber) = some false)
    (k_BadPairs_TooLong_h : PySem.W.kitOne K (.ref C_BadPairs) (.ref C_TooLong) = some false)
    (k_BadPairs_BadLength_h : PySem.W.kitOne K (.ref C_BadPairs) (.ref C_BadLength) = some false)
    (k_BadPairs_BadModulus_h : PySem.W.kitOne K (.ref C_BadPairs) (.ref C_BadModulus) = some false)
    (k_BadPairs_BadFacts_h : PySem.W.kitOne K (.ref C_BadPairs) (.ref C_BadFacts) = some false)
    (k_BadPairs_BadLetter_h : PySem.W.kitOne K (.ref C_BadPairs) (.ref C_BadLetter) = some false)
    (k_BadPairs_Full_h : PySem.W.kitOne K (.ref C_BadPairs) (.ref C_Full) = some false)
    (k_BadPairs_BadPlace_h : PySem.W.kitOne K (.ref C_BadPairs) (.ref C_BadPlace) = some false)
    (k_BadPairs_InvalidText_h : PySem.W.kitOne K (.ref C_BadPairs) (.ref C_InvalidText) = some false)
    (xg_BadTrade : PySem.W.findIn K (.ref C_BadTrade) "__getattribute__" = some (some (.builtin "BaseException.__getattribute__")))
    (xk_BadTrade : PySem.W.findIn K (.ref C_BadTrade) "__getattr__" = some none)
    (xh_BadTrade : PySem.W.hasDictIn K C_BadTrade = true)
    (xa_BadTrade : PySem.W.findIn K (.ref C_BadTrade) "__class__" = some (some (.builtin "object.__class__")))
    (xm_BadTrade : PySem.W.mroIn K C_BadTrade (.type "object") = some true)
    (kv_BadTrade_h : PySem.W.kitOne K (.ref C_BadTrade) (.type "ValueError") = some true)
    (k_BadTrade_BadLetters_h : PySem.W.kitOne K (.ref C_BadTrade) (.ref C_BadLetters) = some false)
    (k_BadTrade_BadPairs_h : PySem.W.kitOne K (.ref C_BadTrade) (.ref C_BadPairs) = some false)
    (k_BadTrade_BadTrade_h : PySem.W.kitOne K (.ref C_BadTrade) (.ref C_BadTrade) = some true)
    (k_BadTrade_BadRow_h : PySem.W.kitOne K (.ref C_BadTrade) (.ref C_BadRow) = some false)
    (k_BadTrade_BadNumber_h : PySem.W.kitOne K (.ref C_BadTrade) (.ref C_BadNumber) = some false)
    (k_BadTrade_TooLong_h : PySem.W.kitOne K (.ref C_BadTrade) (.ref C_TooLong) = some false)
    (k_BadTrade_BadLength_h : PySem.W.kitOne K (.ref C_BadTrade) (.ref C_BadLength) = some false)
    (k_BadTrade_BadModulus_h : PySem.W.kitOne K (.ref C_BadTrade) (.ref C_BadModulus) = some false)
    (k_BadTrade_BadFacts_h : PySem.W.kitOne K (.ref C_BadTrade) (.ref C_BadFacts) = some false)
    (k_BadTrade_BadLetter_h : PySem.W.kitOne K (.ref C_BadTrade) (.ref C_BadLetter) = some false)
    (k_BadTrade_Full_h : PySem.W.kitOne K (.ref C_BadTrade) (.ref C_Full) = some false)
    (k_BadTrade_BadPlace_h : PySem.W.kitOne K (.ref C_BadTrade) (.ref C_BadPlace) = some false)
    (k_BadTrade_InvalidText_h : PySem.W.kitOne K (.ref C_BadTrade) (.ref C_InvalidText) = some false)
    (xg_BadRow : PySem.W.findIn K (.ref C_BadRow) "__getattribute__" = some (some (.builtin "BaseException.__getattribute__")))
    (xk_BadRow : PySem.W.findIn K (.ref C_BadRow) "__getattr__" = some none)
    (xh_BadRow : PySem.W.hasDictIn K C_BadRow = true)
    (xa_BadRow : PySem.W.findIn K (.ref C_BadRow) "__class__" = some (some (.builtin "object.__class__")))
    (xm_BadRow : PySem.W.mroIn K C_BadRow (.type "object") = some true)
    (kv_BadRow_h : PySem.W.kitOne K (.ref C_BadRow) (.type "ValueError") = some true)
    (k_BadRow_BadLetters_h : PySem.W.kitOne K (.ref C_BadRow) (.ref C_BadLetters) = some false)
    (k_BadRow_BadPairs_h : PySem.W.kitOne K (.ref C_BadRow) (.ref C_BadPairs) = some false)
    (k_BadRow_BadTrade_h : PySem.W.kitOne K (.ref C_BadRow) (.ref C_BadTrade) = some false)
    (k_BadRow_BadRow_h : PySem.W.kitOne K (.ref C_BadRow) (.ref C_BadRow) = some true)
    (k_BadRow_BadNumber_h : PySem.W.kitOne K (.ref C_BadRow) (.ref C_BadNumber) = some false)
    (k_BadRow_TooLong_h : PySem.W.kitOne K (.ref C_BadRow) (.ref C_TooLong) = some false)
    (k_BadRow_BadLength_h : PySem.W.kitOne K (.ref C_BadRow) (.ref C_BadLength) = some false)
    (k_BadRow_BadModulus_h : PySem.W.kitOne K (.ref C_BadRow) (.ref C_BadModulus) = some false)
    (k_BadRow_BadFacts_h : PySem.W.kitOne K (.ref C_BadRow) (.ref C_BadFacts) = some false)
    (k_BadRow_BadLetter_h : PySem.W.kitOne K (.ref C_BadRow) (.ref C_BadLetter) = some false)
    (k_BadRow_Full_h : PySem.W.kitOne K (.ref C_BadRow) (.ref C_Full) = some false)
    (k_BadRow_BadPlace_h : PySem.W.kitOne K (.ref C_BadRow) (.ref C_BadPlace) = some false)
    (k_BadRow_InvalidText_h : PySem.W.kitOne K (.ref C_BadRow) (.ref C_InvalidText) = some false)
    (xg_BadNumber : PySem.W.findIn K (.ref C_BadNumber) "__getattribute__" = some (some (.builtin "BaseException.__getattribute__")))
    (xk_BadNumber : PySem.W.findIn K (.ref C_BadNumber) "__getattr__" = some none)
    (xh_BadNumber : PySem.W.hasDictIn K C_BadNumber = true)
    (xa_BadNumber : PySem.W.findIn K (.ref C_BadNumber) "__class__" = some (some (.builtin "object.__class__")))
    (xm_BadNumber : PySem.W.mroIn K C_BadNumber (.type "object") = some true)
    (kv_BadNumber_h : PySem.W.kitOne K (.ref C_BadNumber) (.type "ValueError") = some true)
    (k_BadNumber_BadLetters_h : PySem.W.kitOne K (.ref C_BadNumber) (.ref C_BadLetters) = some false)
    (k_BadNumber_BadPairs_h : PySem.W.kitOne K (.ref C_BadNumber) (.ref C_BadPairs) = some false)
    (k_BadNumber_BadTrade_h : PySem.W.kitOne K (.ref C_BadNumber) (.ref C_BadTrade) = some false)
    (k_BadNumber_BadRow_h : PySem.W.kitOne K (.ref C_BadNumber) (.ref C_BadRow) = some false)
    (k_BadNumber_BadNumber_h : PySem.W.kitOne K (.ref C_BadNumber) (.ref C_BadNumber) = some true)
    (k_BadNumber_TooLong_h : PySem.W.kitOne K (.ref C_BadNumber) (.ref C_TooLong) = some false)
    (k_BadNumber_BadLength_h : PySem.W.kitOne K (.ref C_BadNumber) (.ref C_BadLength) = some false)
    (k_BadNumber_BadModulus_h : PySem.W.kitOne K (.ref C_BadNumber) (.ref C_BadModulus) = some false)
    (k_BadNumber_BadFacts_h : PySem.W.kitOne K (.ref C_BadNumber) (.ref C_BadFacts) = some false)
    (k_BadNumber_BadLetter_h : PySem.W.kitOne K (.ref C_BadNumber) (.ref C_BadLetter) = some false)
    (k_BadNumber_Full_h : PySem.W.kitOne K (.ref C_BadNumber) (.ref C_Full) = some false)
    (k_BadNumber_BadPlace_h : PySem.W.kitOne K (.ref C_BadNumber) (.ref C_BadPlace) = some false)
    (k_BadNumber_InvalidText_h : PySem.W.kitOne K (.ref C_BadNumber) (.ref C_InvalidText) = some false)
    (xg_TooLong : PySem.W.findIn K (.ref C_TooLong) "__getattribute__" = some (some (.builtin "BaseException.__getattribute__")))
    (xk_TooLong : PySem.W.findIn K (.ref C_TooLong) "__getattr__" = some none)
    (xh_TooLong : PySem.W.hasDictIn K C_TooLong = true)
    (xa_TooLong : PySem.W.findIn K (.ref C_TooLong) "__class__" = some (some (.builtin "object.__class__")))
    (xm_TooLong : PySem.W.mroIn K C_TooLong (.type "object") = some true)
    (kv_TooLong_h : PySem.W.kitOne K (.ref C_TooLong) (.type "ValueError") = some true)
    (k_TooLong_BadLetters_h : PySem.W.kitOne K (.ref C_TooLong) (.ref C_BadLetters) = some false)
    (k_TooLong_BadPairs_h : PySem.W.kitOne K (.ref C_TooLong) (.ref C_BadPairs) = some false)
    (k_TooLong_BadTrade_h : PySem.W.kitOne K (.ref C_TooLong) (.ref C_BadTrade) = some false)
    (k_TooLong_BadRow_h : PySem.W.kitOne K (.ref C_TooLong) (.ref C_BadRow) = some false)
    (k_TooLong_BadNumber_h : PySem.W.kitOne K (.ref C_TooLong) (.ref C_BadNumber) = some false)
    (k_TooLong_TooLong_h : PySem.W.kitOne K (.ref C_TooLong) (.ref C_TooLong) = some true)
    (k_TooLong_BadLength_h : PySem.W.kitOne K (.ref C_TooLong) (.ref C_BadLength) = some false)
    (k_TooLong_BadModulus_h : PySem.W.kitOne K (.ref C_TooLong) (.ref C_BadModulus) = some false)
    (k_TooLong_BadFacts_h : PySem.W.kitOne K (.ref C_TooLong) (.ref C_BadFacts) = some false)
    (k_TooLong_BadLetter_h : PySem.W.kitOne K (.ref C_TooLong) (.ref C_BadLetter) = some false)
    (k_TooLong_Full_h : PySem.W.kitOne K (.ref C_TooLong) (.ref C_Full) = some false)
    (k_TooLong_BadPlace_h : PySem.W.kitOne K (.ref C_TooLong) (.ref C_BadPlace) = some false)
    (k_TooLong_InvalidText_h : PySem.W.kitOne K (.ref C_TooLong) (.ref C_InvalidText) = some false)
    (xg_BadLength : PySem.W.findIn K (.ref C_BadLength) "__getattribute__" = some (some (.builtin "BaseException.__getattribute__")))
    (xk_BadLength : PySem.W.findIn K (.ref C_BadLength) "__getattr__" = some none)
    (xh_BadLength : PySem.W.hasDictIn K C_BadLength = true)
    (xa_BadLength : PySem.W.findIn K (.ref C_BadLength) "__class__" = some (some (.builtin "object.__class__")))
    (xm_BadLength : PySem.W.mroIn K C_BadLength (.type "object") = some true)
    (kv_BadLength_h : PySem.W.kitOne K (.ref C_BadLength) (.type "ValueError") = some true)
    (k_BadLength_BadLetters_h : PySem.W.kitOne K (.ref C_BadLength) (.ref C_BadLetters) = some false)
    (k_BadLength_BadPairs_h : PySem.W.kitOne K (.ref C_BadLength) (.ref C_BadPairs) = some false)
    (k_BadLength_BadTrade_h : PySem.W.kitOne K (.ref C_BadLength) (.ref C_BadTrade) = some false)
    (k_BadLength_BadRow_h : PySem.W.kitOne K (.ref C_BadLength) (.ref C_BadRow) = some false)
    (k_BadLength_BadNumber_h : PySem.W.kitOne K (.ref C_BadLength) (.ref C_BadNumber) = some false)
    (k_BadLength_TooLong_h : PySem.W.kitOne K (.ref C_BadLength) (.ref C_TooLong) = some false)
    (k_BadLength_BadLength_h : PySem.W.kitOne K (.ref C_BadLength) (.ref C_BadLength) = some true)
    (k_BadLength_BadModulus_h : PySem.W.kitOne K (.ref C_BadLength) (.ref C_BadModulus) = some false)
    (k_BadLength_BadFacts_h : PySem.W.kitOne K (.ref C_BadLength) (.ref C_BadFacts) = some false)
    (k_BadLength_BadLetter_h : PySem.W.kitOne K (.ref C_BadLength) (.ref C_BadLetter) = some false)
    (k_BadLength_Full_h : PySem.W.kitOne K (.ref C_BadLength) (.ref C_Full) = some false)
    (k_BadLength_BadPlace_h : PySem.W.kitOne K (.ref C_BadLength) (.ref C_BadPlace) = some false)
    (k_BadLength_InvalidText_h : PySem.W.kitOne K (.ref C_BadLength) (.ref C_InvalidText) = some false)
    (xg_BadModulus : PySem.W.findIn K (.ref C_BadModulus) "__getattribute__" = some (some (.builtin "BaseException.__getattribute__")))
    (xk_BadModulus : PySem.W.findIn K (.ref C_BadModulus) "__getattr__" = some none)
    (xh_BadModulus : PySem.W.hasDictIn K C_BadModulus = true)
    (xa_BadModulus : PySem.W.findIn K (.ref C_BadModulus) "__class__" = some (some (.builtin "object.__class__")))
    (xm_BadModulus : PySem.W.mroIn K C_BadModulus (.type "object") = some true)
    (kv_BadModulus_h : PySem.W.kitOne K (.ref C_BadModulus) (.type "ValueError") = some true)
    (k_BadModulus_BadLetters_h : PySem.W.kitOne K (.ref C_BadModulus) (.ref C_BadLetters) = some false)
    (k_BadModulus_BadPairs_h : PySem.W.kitOne K (.ref C_BadModulus) (.ref C_BadPairs) = some false)
    (k_BadModulus_BadTrade_h : PySem.W.kitOne K (.ref C_BadModulus) (.ref C_BadTrade) = some false)
    (k_BadModulus_BadRow_h : PySem.W.kitOne K (.ref C_BadModulus) (.ref C_BadRow) = some false)
    (k_BadModulus_BadNumber_h : PySem.W.kitOne K (.ref C_BadModulus) (.ref C_BadNumber) = some false)
    (k_BadModulus_TooLong_h : PySem.W.kitOne K (.ref C_BadModulus) (.ref C_TooLong) = some false)
    (k_BadModulus_BadLength_h : PySem.W.kitOne K (.ref C_BadModulus) (.ref C_BadLength) = some false)
    (k_BadModulus_BadModulus_h : PySem.W.kitOne K (.ref C_BadModulus) (.ref C_BadModulus) = some true)
    (k_BadModulus_BadFacts_h : PySem.W.kitOne K (.ref C_BadModulus) (.ref C_BadFacts) = some false)
    (k_BadModulus_BadLetter_h : PySem.W.kitOne K (.ref C_BadModulus) (.ref C_BadLetter) = some false)
    (k_BadModulus_Full_h : PySem.W.kitOne K (.ref C_BadModulus) (.ref C_Full) = some false)
    (k_BadModulus_BadPlace_h : PySem.W.kitOne K (.ref C_BadModulus) (.ref C_BadPlace) = some false)
    (k_BadModulus_InvalidText_h : PySem.W.kitOne K (.ref C_BadModulus) (.ref C_InvalidText) = some false)
    (xg_BadFacts : PySem.W.findIn K (.ref C_BadFacts) "__getattribute__" = some (some (.builtin "BaseException.__getattribute__")))
    (xk_BadFacts : PySem.W.findIn K (.ref C_BadFacts) "__getattr__" = some none)
    (xh_BadFacts : PySem.W.hasDictIn K C_BadFacts = true)
    (xa_BadFacts : PySem.W.findIn K (.ref C_BadFacts) "__class__" = some (some (.builtin "object.__class__")))
    (xm_BadFacts : PySem.W.mroIn K C_BadFacts (.type "object") = some true)
    (kv_BadFacts_h : PySem.W.kitOne K (.ref C_BadFacts) (.type "ValueError") = some true)
    (k_BadFacts_BadLetters_h : PySem.W.kitOne K (.ref C_BadFacts) (.ref C_BadLetters) = some false)
    (k_BadFacts_BadPairs_h : PySem.W.kitOne K (.ref C_BadFacts) (.ref C_BadPairs) = some false)
    (k_BadFacts_BadTrade_h : PySem.W.kitOne K (.ref C_BadFacts) (.ref C_BadTrade) = some false)
    (k_BadFacts_BadRow_h : PySem.W.kitOne K (.ref C_BadFacts) (.ref C_BadRow) = some false)
    (k_BadFacts_BadNumber_h : PySem.W.kitOne K (.ref C_BadFacts) (.ref C_BadNumber) = some false)
    (k_BadFacts_TooLong_h : PySem.W.kitOne K (.ref C_BadFacts) (.ref C_TooLong) = some false)
    (k_BadFacts_BadLength_h : PySem.W.kitOne K (.ref C_BadFacts) (.ref C_BadLength) = some false)
    (k_BadFacts_BadModulus_h : PySem.W.kitOne K (.ref C_BadFacts) (.ref C_BadModulus) = some false)
    (k_BadFacts_BadFacts_h : PySem.W.kitOne K (.ref C_BadFacts) (.ref C_BadFacts) = some true)
    (k_BadFacts_BadLetter_h : PySem.W.kitOne K (.ref C_BadFacts) (.ref C_BadLetter) = some false)
    (k_BadFacts_Full_h : PySem.W.kitOne K (.ref C_BadFacts) (.ref C_Full) = some false)
    (k_BadFacts_BadPlace_h : PySem.W.kitOne K (.ref C_BadFacts) (.ref C_BadPlace) = some false)
    (k_BadFacts_InvalidText_h : PySem.W.kitOne K (.ref C_BadFacts) (.ref C_InvalidText) = some false)
    (xg_BadLetter : PySem.W.findIn K (.ref C_BadLetter) "__getattribute__" = some (some (.builtin "BaseException.__getattribute__")))
    (xk_BadLetter : PySem.W.findIn K (.ref C_BadLetter) "__getattr__" = some none)
    (xh_BadLetter : PySem.W.hasDictIn K C_BadLetter = true)
    (xa_BadLetter : PySem.W.findIn K (.ref C_BadLetter) "__class__" = some (some (.builtin "object.__class__")))
    (xm_BadLetter : PySem.W.mroIn K C_BadLetter (.type "object") = some true)
    (kv_BadLetter_h : PySem.W.kitOne K (.ref C_BadLetter) (.type "ValueError") = some true)
    (k_BadLetter_BadLetters_h : PySem.W.kitOne K (.ref C_BadLetter) (.ref C_BadLetters) = some false)
    (k_BadLetter_BadPairs_h : PySem.W.kitOne K (.ref C_BadLetter) (.ref C_BadPairs) = some false)
    (k_BadLetter_BadTrade_h : PySem.W.kitOne K (.ref C_BadLetter) (.ref C_BadTrade) = some false)
    (k_BadLetter_BadRow_h : PySem.W.kitOne K (.ref C_BadLetter) (.ref C_BadRow) = some false)
    (k_BadLetter_BadNumber_h : PySem.W.kitOne K (.ref C_BadLetter) (.ref C_BadNumber) = some false)
    (k_BadLetter_TooLong_h : PySem.W.kitOne K (.ref C_BadLetter) (.ref C_TooLong) = some false)
    (k_BadLetter_BadLength_h : PySem.W.kitOne K (.ref C_BadLetter) (.ref C_BadLength) = some false)
    (k_BadLetter_BadModulus_h : PySem.W.kitOne K (.ref C_BadLetter) (.ref C_BadModulus) = some false)
    (k_BadLetter_BadFacts_h : PySem.W.kitOne K (.ref C_BadLetter) (.ref C_BadFacts) = some false)
    (k_BadLetter_BadLetter_h : PySem.W.kitOne K (.ref C_BadLetter) (.ref C_BadLetter) = some true)
    (k_BadLetter_Full_h : PySem.W.kitOne K (.ref C_BadLetter) (.ref C_Full) = some false)
    (k_BadLetter_BadPlace_h : PySem.W.kitOne K (.ref C_BadLetter) (.ref C_BadPlace) = some false)
    (k_BadLetter_InvalidText_h : PySem.W.kitOne K (.ref C_BadLetter) (.ref C_InvalidText) = some false)
    (xg_Full : PySem.W.findIn K (.ref C_Full) "__getattribute__" = some (some (.builtin "BaseException.__getattribute__")))
    (xk_Full : PySem.W.findIn K (.ref C_Full) "__getattr__" = some none)
    (xh_Full : PySem.W.hasDictIn K C_Full = true)
    (xa_Full : PySem.W.findIn K (.ref C_Full) "__class__" = some (some (.builtin "object.__class__")))
    (xm_Full : PySem.W.mroIn K C_Full (.type "object") = some true)
    (kv_Full_h : PySem.W.kitOne K (.ref C_Full) (.type "ValueError") = some true)
    (k_Full_BadLetters_h : PySem.W.kitOne K (.ref C_Full) (.ref C_BadLetters) = some false)
    (k_Full_BadPairs_h : PySem.W.kitOne K (.ref C_Full) (.ref C_BadPairs) = some false)
    (k_Full_BadTrade_h : PySem.W.kitOne K (.ref C_Full) (.ref C_BadTrade) = some false)
    (k_Full_BadRow_h : PySem.W.kitOne K (.ref C_Full) (.ref C_BadRow) = some false)
    (k_Full_BadNumber_h : PySem.W.kitOne K (.ref C_Full) (.ref C_BadNumber) = some false)
    (k_Full_TooLong_h : PySem.W.kitOne K (.ref C_Full) (.ref C_TooLong) = some false)
    (k_Full_BadLength_h : PySem.W.kitOne K (.ref C_Full) (.ref C_BadLength) = some false)
    (k_Full_BadModulus_h : PySem.W.kitOne K (.ref C_Full) (.ref C_BadModulus) = some false)
    (k_Full_BadFacts_h : PySem.W.kitOne K (.ref C_Full) (.ref C_BadFacts) = some false)
    (k_Full_BadLetter_h : PySem.W.kitOne K (.ref C_Full) (.ref C_BadLetter) = some false)
    (k_Full_Full_h : PySem.W.kitOne K (.ref C_Full) (.ref C_Full) = some true)
    (k_Full_BadPlace_h : PySem.W.kitOne K (.ref C_Full) (.ref C_BadPlace) = some false)
    (k_Full_InvalidText_h : PySem.W.kitOne K (.ref C_Full) (.ref C_InvalidText) = some false)
    (xg_BadPlace : PySem.W.findIn K (.ref C_BadPlace) "__getattribute__" = some (some (.builtin "BaseException.__getattribute__")))
    (xk_BadPlace : PySem.W.findIn K (.ref C_BadPlace) "__getattr__" = some none)
    (xh_BadPlace : PySem.W.hasDictIn K C_BadPlace = true)
    (xa_BadPlace : PySem.W.findIn K (.ref C_BadPlace) "__class__" = some (some (.builtin "object.__class__")))
    (xm_BadPlace : PySem.W.mroIn K C_BadPlace (.type "object") = some true)
    (kv_BadPlace_h : PySem.W.kitOne K (.ref C_BadPlace) (.type "ValueError") = some true)
    (k_BadPlace_BadLetters_h : PySem.W.kitOne K (.ref C_BadPlace) (.ref C_BadLetters) = some false)
    (k_BadPlace_BadPairs_h : PySem.W.kitOne K (.ref C_BadPlace) (.ref C_BadPairs) = some false)
    (k_BadPlace_BadTrade_h : PySem.W.kitOne K (.ref C_BadPlace) (.ref C_BadTrade) = some false)
    (k_BadPlace_BadRow_h : PySem.W.kitOne K (.ref C_BadPlace) (.ref C_BadRow) = some false)
    (k_BadPlace_BadNumber_h : PySem.W.kitOne K (.ref C_BadPlace) (.ref C_BadNumber) = some false)
    (k_BadPlace_TooLong_h : PySem.W.kitOne K (.ref C_BadPlace) (.ref C_TooLong) = some false)
    (k_BadPlace_BadLength_h : PySem.W.kitOne K (.ref C_BadPlace) (.ref C_BadLength) = some false)
    (k_BadPlace_BadModulus_h : PySem.W.kitOne K (.ref C_BadPlace) (.ref C_BadModulus) = some false)
    (k_BadPlace_BadFacts_h : PySem.W.kitOne K (.ref C_BadPlace) (.ref C_BadFacts) = some false)
    (k_BadPlace_BadLetter_h : PySem.W.kitOne K (.ref C_BadPlace) (.ref C_BadLetter) = some false)
    (k_BadPlace_Full_h : PySem.W.kitOne K (.ref C_BadPlace) (.ref C_Full) = some false)
    (k_BadPlace_BadPlace_h : PySem.W.kitOne K (.ref C_BadPlace) (.ref C_BadPlace) = some true)
    (k_BadPlace_InvalidText_h : PySem.W.kitOne K (.ref C_BadPlace) (.ref C_InvalidText) = some false)
    (xg_InvalidText : PySem.W.findIn K (.ref C_InvalidText) "__getattribute__" = some (some (.builtin "BaseException.__getattribute__")))
    (xk_InvalidText : PySem.W.findIn K (.ref C_InvalidText) "__getattr__" = some none)
    (xh_InvalidText : PySem.W.hasDictIn K C_InvalidText = true)
    (xa_InvalidText : PySem.W.findIn K (.ref C_InvalidText) "__class__" = some (some (.builtin "object.__class__")))
    (xm_InvalidText : PySem.W.mroIn K C_InvalidText (.type "object") = some true)
    (kv_InvalidText_h : PySem.W.kitOne K (.ref C_InvalidText) (.type "ValueError") = some true)
    (k_InvalidText_BadLetters_h : PySem.W.kitOne K (.ref C_InvalidText) (.ref C_BadLetters) = some false)
    (k_InvalidText_BadPairs_h : PySem.W.kitOne K (.ref C_InvalidText) (.ref C_BadPairs) = some false)
    (k_InvalidText_BadTrade_h : PySem.W.kitOne K (.ref C_InvalidText) (.ref C_BadTrade) = some false)
    (k_InvalidText_BadRow_h : PySem.W.kitOne K (.ref C_InvalidText) (.ref C_BadRow) = some false)
    (k_InvalidText_BadNumber_h : PySem.W.kitOne K (.ref C_InvalidText) (.ref C_BadNumber) = some false)
    (k_InvalidText_TooLong_h : PySem.W.kitOne K (.ref C_InvalidText) (.ref C_TooLong) = some false)
    (k_InvalidText_BadLength_h : PySem.W.kitOne K (.ref C_InvalidText) (.ref C_BadLength) = some false)
    (k_InvalidText_BadModulus_h : PySem.W.kitOne K (.ref C_InvalidText) (.ref C_BadModulus) = some false)
    (k_InvalidText_BadFacts_h : PySem.W.kitOne K (.ref C_InvalidText) (.ref C_BadFacts) = some false)
    (k_InvalidText_BadLetter_h : PySem.W.kitOne K (.ref C_InvalidText) (.ref C_BadLetter) = some false)
    (k_InvalidText_Full_h : PySem.W.kitOne K (.ref C_InvalidText) (.ref C_Full) = some false)
    (k_InvalidText_BadPlace_h : PySem.W.kitOne K (.ref C_InvalidText) (.ref C_BadPlace) = some false)
    (k_InvalidText_InvalidText_h : PySem.W.kitOne K (.ref C_InvalidText) (.ref C_InvalidText) = some true)
    (xp_InvalidText : PySem.W.findIn K (.ref C_InvalidText) "place" = some none)
    (xp_BadPairs : PySem.W.findIn K (.ref C_BadPairs) "index" = some none)
    (xp_BadFacts : PySem.W.findIn K (.ref C_BadFacts) "index" = some none)
    (kn_NoneType : PySem.W.kitOne K (.type "NoneType") (.ref C_Trade) = some false)
    (kn_bool : PySem.W.kitOne K (.type "bool") (.ref C_Trade) = some false)
    (kn_int : PySem.W.kitOne K (.type "int") (.ref C_Trade) = some false)
    (kn_str : PySem.W.kitOne K (.type "str") (.ref C_Trade) = some false)
    (kn_list : PySem.W.kitOne K (.type "list") (.ref C_Trade) = some false)
    (z_ValueError : PySem.W.nsIn K mainGlobals "ValueError" = some none)
    (z_all : PySem.W.nsIn K mainGlobals "all" = some none)
    (z_bool : PySem.W.nsIn K mainGlobals "bool" = some none)
    (z_enumerate : PySem.W.nsIn K mainGlobals "enumerate" = some none)
    (z_int : PySem.W.nsIn K mainGlobals "int" = some none)
    (z_isinstance : PySem.W.nsIn K mainGlobals "isinstance" = some none)
    (z_len : PySem.W.nsIn K mainGlobals "len" = some none)
    (z_list : PySem.W.nsIn K mainGlobals "list" = some none)
    (z_max : PySem.W.nsIn K mainGlobals "max" = some none)
    (z_min : PySem.W.nsIn K mainGlobals "min" = some none)
    (z_range : PySem.W.nsIn K mainGlobals "range" = some none)
    (z_sorted : PySem.W.nsIn K mainGlobals "sorted" = some none)
    (z_tuple : PySem.W.nsIn K mainGlobals "tuple" = some none)
    (v_MOST_LETTERS : PySem.W.nsIn K mainGlobals "MOST_LETTERS" = some (some (.int 6 tk_MOST_LETTERS)))
    (v_MOST_IN_ROW : PySem.W.nsIn K mainGlobals "MOST_IN_ROW" = some (some (.int 20 tk_MOST_IN_ROW)))
    (v_MOST_TO_TURN : PySem.W.nsIn K mainGlobals "MOST_TO_TURN" = some (some (.int 8 tk_MOST_TO_TURN)))
    (v_MOST_LENGTH : PySem.W.nsIn K mainGlobals "MOST_LENGTH" = some (some (.int 500 tk_MOST_LENGTH)))
    (v_MOST_LETTERS_KNOWN : PySem.W.nsIn K mainGlobals "MOST_LETTERS_KNOWN" = some (some (.int 4 tk_MOST_LETTERS_KNOWN)))
    (v_MOST_FACTS : PySem.W.nsIn K mainGlobals "MOST_FACTS" = some (some (.int 20 tk_MOST_FACTS)))
    (v_ALIKE : PySem.W.nsIn K mainGlobals "ALIKE" = some (some (.str "alike" tk_ALIKE)))
    (v_UNLIKE : PySem.W.nsIn K mainGlobals "UNLIKE" = some (some (.str "unlike" tk_UNLIKE)))
    (v_LETTERS : PySem.W.nsIn K mainGlobals "LETTERS" = some (some (.str "abcdef" tk_LETTERS)))
    (v_OPENING : PySem.W.nsIn K mainGlobals "OPENING" = some (some (.str "(" tk_OPENING)))
    (v_CLOSING : PySem.W.nsIn K mainGlobals "CLOSING" = some (some (.str ")" tk_CLOSING)))
    (v_MOST_LENGTH_BY : PySem.W.nsIn K mainGlobals "MOST_LENGTH_BY" = some (some (.int 1000000000000000000000000000000 tk_MOST_LENGTH_BY)))
    (v_MOST_MODULUS : PySem.W.nsIn K mainGlobals "MOST_MODULUS" = some (some (.int 1000000000 tk_MOST_MODULUS)))
    (pg : PySem.W.plainGet K C_Trade Str.empty = true)
    (hd : PySem.W.hasDictIn K C_Trade = true)
    (po : PySem.W.plainOver K C_Trade = true)
    (sa : PySem.W.findIn K (.ref C_Trade) "__setattr__" = some (some (.builtin "object.__setattr__")))
    (mk : PySem.W.makesIn K C_Trade = true)
    (kc : PySem.W.keepIn K (.ref C_Trade) = true)
    (nl : PySem.W.findIn K (.ref C_Trade) "_letters" = some none)
    (np : PySem.W.findIn K (.ref C_Trade) "_pairs" = some none)
    (ha : PySem.W.findIn K (.ref C_Trade) "__class__" = some (some (.builtin "object.__class__")))
    (hn : PySem.W.specialIn K (.builtin "object.__class__") "__get__" = some (some (.builtin "getset_descriptor.__get__")))
    (htk : PySem.W.takesIn K (.builtin "object.__class__") = some true)
    (hm : PySem.W.mroIn K C_Trade (.type "object") = some true)
    (me : PySem.W.kitOne K (.ref C_Trade) (.ref C_Trade) = some true)
    (nt : PySem.W.kitOne K (.type "tuple") (.ref C_Trade) = some false)
    (nf : PySem.W.notFirst K C_Trade (.type "tuple") = true)
    (pg_Line : PySem.W.plainGet K C_Line Str.empty = true)
    (hd_Line : PySem.W.hasDictIn K C_Line = true)
    (po_Line : PySem.W.plainOver K C_Line = true)
    (sa_Line : PySem.W.findIn K (.ref C_Line) "__setattr__" = some (some (.builtin "object.__setattr__")))
    (mk_Line : PySem.W.makesIn K C_Line = true)
    (kc_Line : PySem.W.keepIn K (.ref C_Line) = true)
    (no_trade : PySem.W.findIn K (.ref C_Line) "_trade" = some none)
    (no_rows : PySem.W.findIn K (.ref C_Line) "_rows" = some none)
    : ∃ fd : FuncData, (∀ (s : Shared) (v : Value), BindsTo s fd ⟨[v], []⟩ [("_law_script", v)]) ∧ ∀ base : Heap, K.In base → base.Ns mainGlobals mg → FnOk P w K mg base CX0 80 fa fd ["_law_script"] (spLaw K) := by
  have e := hfa.symm.trans (PySem.W.mg_of X G a_law)
  obtain rfl : fa_law = fa := by
    cases e
    rfl
  have F_TradeError___init__ := fun_mk (st := s_TradeError___init__) l_TradeError___init__ c_TradeError___init__ k_TradeError___init__
  have b_TradeError___init__ := F_TradeError___init__.binds (ps := ["self"]) fun _ _ _ _ _ _ us hl => match us, hl with | [_], _ => rfl
  have F_BadPairs___init__ := fun_mk (st := s_BadPairs___init__) l_BadPairs___init__ c_BadPairs___init__ k_BadPairs___init__
  have b_BadPairs___init__ := F_BadPairs___init__.binds (ps := ["self", "index"]) fun _ _ _ _ _ _ us hl => match us, hl with | [_, _], _ => rfl
  have F_BadFacts___init__ := fun_mk (st := s_BadFacts___init__) l_BadFacts___init__ c_BadFacts___init__ k_BadFacts___init__
  have b_BadFacts___init__ := F_BadFacts___init__.binds (ps := ["self", "index"]) fun _ _ _ _ _ _ us hl => match us, hl with | [_, _], _ => rfl
  have F_InvalidText___init__ := fun_mk (st := s_InvalidText___init__) l_InvalidText___init__ c_InvalidText___init__ k_InvalidText___init__
  have b_InvalidText___init__ := F_InvalidText___init__.binds (ps := ["self", "place"]) fun _ _ _ _ _ _ us hl => match us, hl with | [_, _], _ => rfl
  have F_is_whole := fun_mk (st := s_is_whole) l_is_whole c_is_whole k_is_whole
  have b_is_whole := F_is_whole.binds (ps := ["value", "low", "high"]) fun _ _ _ _ _ _ us hl => match us, hl with | [_, _, _], _ => rfl
  have F_is_letter := fun_mk (st := s_is_letter) l_is_letter c_is_letter k_is_letter
  have b_is_letter := F_is_letter.binds (ps := ["letters", "value"]) fun _ _ _ _ _ _ us hl => match us, hl with | [_, _], _ => rfl
  have F_is_pair := fun_mk (st := s_is_pair) l_is_pair c_is_pair k_is_pair
  have b_is_pair := F_is_pair.binds (ps := ["letters", "value"]) fun _ _ _ _ _ _ us hl => match us, hl with | [_, _], _ => rfl
  have F_check_pairs := fun_mk (st := s_check_pairs) l_check_pairs c_check_pairs k_check_pairs
  have b_check_pairs := F_check_pairs.binds (ps := ["letters", "pairs"]) fun _ _ _ _ _ _ us hl => match us, hl with | [_, _], _ => rfl
  have F_Trade___init__ := fun_mk (st := s_Trade___init__) l_Trade___init__ c_Trade___init__ k_Trade___init__
  have b_Trade___init__ := F_Trade___init__.binds (ps := ["self", "letters", "pairs"]) fun _ _ _ _ _ _ us hl => match us, hl with | [_, _, _], _ => rfl
  have F_Trade_letters := fun_mk (st := s_Trade_letters) l_Trade_letters c_Trade_letters k_Trade_letters
  have b_Trade_letters := F_Trade_letters.binds (ps := ["self"]) fun _ _ _ _ _ _ us hl => match us, hl with | [_], _ => rfl
  have F_Trade_pairs := fun_mk (st := s_Trade_pairs) l_Trade_pairs c_Trade_pairs k_Trade_pairs
  have b_Trade_pairs := F_Trade_pairs.binds (ps := ["self"]) fun _ _ _ _ _ _ us hl => match us, hl with | [_], _ => rfl
  have F_Trade___eq__ := fun_mk (st := s_Trade___eq__) l_Trade___eq__ c_Trade___eq__ k_Trade___eq__
  have b_Trade___eq__ := F_Trade___eq__.binds (ps := ["self", "other"]) fun _ _ _ _ _ _ us hl => match us, hl with | [_, _], _ => rfl
  have F_check_trade := fun_mk (st := s_check_trade) l_check_trade c_check_trade k_check_trade
  have b_check_trade := F_check_trade.binds (ps := ["trade"]) fun _ _ _ _ _ _ us hl => match us, hl with | [_], _ => rfl
  have F_may_change := fun_mk (st := s_may_change) l_may_change c_may_change k_may_change
  have b_may_change := F_may_change.binds (ps := ["trade", "one", "other"]) fun _ _ _ _ _ _ us hl => match us, hl with | [_, _, _], _ => rfl
  have F_bars_of := fun_mk (st := s_bars_of) l_bars_of c_bars_of k_bars_of
  have b_bars_of := F_bars_of.binds (ps := ["trade"]) fun _ _ _ _ _ _ us hl => match us, hl with | [_], _ => rfl
  have F_all_may_change := fun_mk (st := s_all_may_change) l_all_may_change c_all_may_change k_all_may_change
  have b_all_may_change := F_all_may_change.binds (ps := ["bars", "one", "other"]) fun _ _ _ _ _ _ us hl => match us, hl with | [_, _, _], _ => rfl
  have F_is_row := fun_mk (st := s_is_row) l_is_row c_is_row k_is_row
  have b_is_row := F_is_row.binds (ps := ["letters", "value"]) fun _ _ _ _ _ _ us hl => match us, hl with | [_, _], _ => rfl
  have F_check_row := fun_mk (st := s_check_row) l_check_row c_check_row k_check_row
  have b_check_row := F_check_row.binds (ps := ["trade", "row"]) fun _ _ _ _ _ _ us hl => match us, hl with | [_, _], _ => rfl
  have F_find_bar := fun_mk (st := s_find_bar) l_find_bar c_find_bar k_find_bar
  have b_find_bar := F_find_bar.binds (ps := ["trade", "one", "other"]) fun _ _ _ _ _ _ us hl => match us, hl with | [_, _, _], _ => rfl
  have F_only := fun_mk (st := s_only) l_only c_only k_only
  have b_only := F_only.binds (ps := ["row", "low", "high"]) fun _ _ _ _ _ _ us hl => match us, hl with | [_, _, _], _ => rfl
  have F_first_unlike := fun_mk (st := s_first_unlike) l_first_unlike c_first_unlike k_first_unlike
  have b_first_unlike := F_first_unlike.binds (ps := ["one", "other"]) fun _ _ _ _ _ _ us hl => match us, hl with | [_, _], _ => rfl
  have F_least := fun_mk (st := s_least) l_least c_least k_least
  have b_least := F_least.binds (ps := ["trade", "row"]) fun _ _ _ _ _ _ us hl => match us, hl with | [_, _], _ => rfl
  have F_first_letters := fun_mk (st := s_first_letters) l_first_letters c_first_letters k_first_letters
  have b_first_letters := F_first_letters.binds (ps := ["bars", "row"]) fun _ _ _ _ _ _ us hl => match us, hl with | [_, _], _ => rfl
  have F_without := fun_mk (st := s_without) l_without c_without k_without
  have b_without := F_without.binds (ps := ["row", "place"]) fun _ _ _ _ _ _ us hl => match us, hl with | [_, _], _ => rfl
  have F_least_of := fun_mk (st := s_least_of) l_least_of c_least_of k_least_of
  have b_least_of := F_least_of.binds (ps := ["bars", "row"]) fun _ _ _ _ _ _ us hl => match us, hl with | [_, _], _ => rfl
  have F_count_alike := fun_mk (st := s_count_alike) l_count_alike c_count_alike k_count_alike
  have b_count_alike := F_count_alike.binds (ps := ["bars", "row", "known"]) fun _ _ _ _ _ _ us hl => match us, hl with | [_, _, _], _ => rfl
  have F_numbered := fun_mk (st := s_numbered) l_numbered c_numbered k_numbered
  have b_numbered := F_numbered.binds (ps := ["trade", "row", "index"]) fun _ _ _ _ _ _ us hl => match us, hl with | [_, _, _], _ => rfl
  have F_pick := fun_mk (st := s_pick) l_pick c_pick k_pick
  have b_pick := F_pick.binds (ps := ["bars", "row", "index", "known"]) fun _ _ _ _ _ _ us hl => match us, hl with | [_, _, _, _], _ => rfl
  have F_turned := fun_mk (st := s_turned) l_turned c_turned k_turned
  have b_turned := F_turned.binds (ps := ["trade", "row"]) fun _ _ _ _ _ _ us hl => match us, hl with | [_, _], _ => rfl
  have F_check_turning := fun_mk (st := s_check_turning) l_check_turning c_check_turning k_check_turning
  have b_check_turning := F_check_turning.binds (ps := ["row"]) fun _ _ _ _ _ _ us hl => match us, hl with | [_], _ => rfl
  have F_all_turned := fun_mk (st := s_all_turned) l_all_turned c_all_turned k_all_turned
  have b_all_turned := F_all_turned.binds (ps := ["bars", "row"]) fun _ _ _ _ _ _ us hl => match us, hl with | [_, _], _ => rfl
  have F_all_groups := fun_mk (st := s_all_groups) l_all_groups c_all_groups k_all_groups
  have b_all_groups := F_all_groups.binds (ps := ["trade"]) fun _ _ _ _ _ _ us hl => match us, hl with | [_], _ => rfl
  have F_may_join := fun_mk (st := s_may_join) l_may_join c_may_join k_may_join
  have b_may_join := F_may_join.binds (ps := ["trade", "group", "letter"]) fun _ _ _ _ _ _ us hl => match us, hl with | [_, _, _], _ => rfl
  have F_signed_counts := fun_mk (st := s_signed_counts) l_signed_counts c_signed_counts k_signed_counts
  have b_signed_counts := F_signed_counts.binds (ps := ["trade"]) fun _ _ _ _ _ _ us hl => match us, hl with | [_], _ => rfl
  have F_sign := fun_mk (st := s_sign) l_sign c_sign k_sign
  have b_sign := F_sign.binds (ps := ["number"]) fun _ _ _ _ _ _ us hl => match us, hl with | [_], _ => rfl
  have F_how_many := fun_mk (st := s_how_many) l_how_many c_how_many k_how_many
  have b_how_many := F_how_many.binds (ps := ["trade", "length"]) fun _ _ _ _ _ _ us hl => match us, hl with | [_, _], _ => rfl
  have F_how_many_by := fun_mk (st := s_how_many_by) l_how_many_by c_how_many_by k_how_many_by
  have b_how_many_by := F_how_many_by.binds (ps := ["trade", "length", "modulus"]) fun _ _ _ _ _ _ us hl => match us, hl with | [_, _, _], _ => rfl
  have F_term_by := fun_mk (st := s_term_by) l_term_by c_term_by k_term_by
  have b_term_by := F_term_by.binds (ps := ["counts", "length", "modulus"]) fun _ _ _ _ _ _ us hl => match us, hl with | [_, _, _], _ => rfl
  have F_change_signs := fun_mk (st := s_change_signs) l_change_signs c_change_signs k_change_signs
  have b_change_signs := F_change_signs.binds (ps := ["terms"]) fun _ _ _ _ _ _ us hl => match us, hl with | [_], _ => rfl
  have F_multiply := fun_mk (st := s_multiply) l_multiply c_multiply k_multiply
  have b_multiply := F_multiply.binds (ps := ["one", "other", "modulus"]) fun _ _ _ _ _ _ us hl => match us, hl with | [_, _, _], _ => rfl
  have F_trades_by := fun_mk (st := s_trades_by) l_trades_by c_trades_by k_trades_by
  have b_trades_by := F_trades_by.binds (ps := ["letters", "facts"]) fun _ _ _ _ _ _ us hl => match us, hl with | [_, _], _ => rfl
  have F_check_facts := fun_mk (st := s_check_facts) l_check_facts c_check_facts k_check_facts
  have b_check_facts := F_check_facts.binds (ps := ["letters", "facts"]) fun _ _ _ _ _ _ us hl => match us, hl with | [_, _], _ => rfl
  have F_is_fact := fun_mk (st := s_is_fact) l_is_fact c_is_fact k_is_fact
  have b_is_fact := F_is_fact.binds (ps := ["letters", "value"]) fun _ _ _ _ _ _ us hl => match us, hl with | [_, _], _ => rfl
  have F_choices_of_pairs := fun_mk (st := s_choices_of_pairs) l_choices_of_pairs c_choices_of_pairs k_choices_of_pairs
  have b_choices_of_pairs := F_choices_of_pairs.binds (ps := ["letters"]) fun _ _ _ _ _ _ us hl => match us, hl with | [_], _ => rfl
  have F_all_hold := fun_mk (st := s_all_hold) l_all_hold c_all_hold k_all_hold
  have b_all_hold := F_all_hold.binds (ps := ["trade", "facts"]) fun _ _ _ _ _ _ us hl => match us, hl with | [_, _], _ => rfl
  have F_holds := fun_mk (st := s_holds) l_holds c_holds k_holds
  have b_holds := F_holds.binds (ps := ["trade", "one", "other", "word"]) fun _ _ _ _ _ _ us hl => match us, hl with | [_, _, _, _], _ => rfl
  have F_Line___init__ := fun_mk (st := s_Line___init__) l_Line___init__ c_Line___init__ k_Line___init__
  have b_Line___init__ := F_Line___init__.binds (ps := ["self", "trade"]) fun _ _ _ _ _ _ us hl => match us, hl with | [_, _], _ => rfl
  have F_Line_row := fun_mk (st := s_Line_row) l_Line_row c_Line_row k_Line_row
  have b_Line_row := F_Line_row.binds (ps := ["self"]) fun _ _ _ _ _ _ us hl => match us, hl with | [_], _ => rfl
  have F_Line_least := fun_mk (st := s_Line_least) l_Line_least c_Line_least k_Line_least
  have b_Line_least := F_Line_least.binds (ps := ["self"]) fun _ _ _ _ _ _ us hl => match us, hl with | [_], _ => rfl
  have F_Line_add := fun_mk (st := s_Line_add) l_Line_add c_Line_add k_Line_add
  have b_Line_add := F_Line_add.binds (ps := ["self", "letter"]) fun _ _ _ _ _ _ us hl => match us, hl with | [_, _], _ => rfl
  have F_Line_swap := fun_mk (st := s_Line_swap) l_Line_swap c_Line_swap k_Line_swap
  have b_Line_swap := F_Line_swap.binds (ps := ["self", "place"]) fun _ _ _ _ _ _ us hl => match us, hl with | [_, _], _ => rfl
  have F_Line___len__ := fun_mk (st := s_Line___len__) l_Line___len__ c_Line___len__ k_Line___len__
  have b_Line___len__ := F_Line___len__.binds (ps := ["self"]) fun _ _ _ _ _ _ us hl => match us, hl with | [_], _ => rfl
  have F_is_change := fun_mk (st := s_is_change) l_is_change c_is_change k_is_change
  have b_is_change := F_is_change.binds (ps := ["trade", "row", "place"]) fun _ _ _ _ _ _ us hl => match us, hl with | [_, _, _], _ => rfl
  have F_read_row := fun_mk (st := s_read_row) l_read_row c_read_row k_read_row
  have b_read_row := F_read_row.binds (ps := ["trade", "text"]) fun _ _ _ _ _ _ us hl => match us, hl with | [_, _], _ => rfl
  have F_read_letters := fun_mk (st := s_read_letters) l_read_letters c_read_letters k_read_letters
  have b_read_letters := F_read_letters.binds (ps := ["bars", "text"]) fun _ _ _ _ _ _ us hl => match us, hl with | [_, _], _ => rfl
  have F_can_stand := fun_mk (st := s_can_stand) l_can_stand c_can_stand k_can_stand
  have b_can_stand := F_can_stand.binds (ps := ["bars", "before", "step", "letter"]) fun _ _ _ _ _ _ us hl => match us, hl with | [_, _, _, _], _ => rfl
  have F__law_mix := fun_mk (st := s__law_mix) l__law_mix c__law_mix k__law_mix
  have b__law_mix := F__law_mix.binds (ps := ["_law_script", "_law_seed"]) fun _ _ _ _ _ _ us hl => match us, hl with | [_, _], _ => rfl
  have F__law_next := fun_mk (st := s__law_next) l__law_next c__law_next k__law_next
  have b__law_next := F__law_next.binds (ps := ["_law_h", "_law_bound"]) fun _ _ _ _ _ _ us hl => match us, hl with | [_, _], _ => rfl
  have F__law_which := fun_mk (st := s__law_which) l__law_which c__law_which k__law_which
  have b__law_which := F__law_which.binds (ps := ["_law_e"]) fun _ _ _ _ _ _ us hl => match us, hl with | [_], _ => rfl
  have F__law_early := fun_mk (st := s__law_early) l__law_early c__law_early k__law_early
  have b__law_early := F__law_early.binds (ps := ["_law_kind", "_law_n", "_law_told"]) fun _ _ _ _ _ _ us hl => match us, hl with | [_, _, _], _ => rfl
  have F__law_do := fun_mk (st := s__law_do) l__law_do c__law_do k__law_do
  have b__law_do := F__law_do.binds (ps := ["_law_kind", "_law_n"]) fun _ _ _ _ _ _ us hl => match us, hl with | [_, _], _ => rfl
  have F_law := fun_mk (st := s_law) l_law c_law k_law
  have b_law := F_law.binds (ps := ["_law_script"]) fun _ _ _ _ _ _ us hl => match us, hl with | [_], _ => rfl
  let E : Nv K mg := {
    C_TradeError := C_TradeError
    m_TradeError := PySem.W.mg_of X G aC_TradeError
    C_BadLetters := C_BadLetters
    m_BadLetters := PySem.W.mg_of X G aC_BadLetters
    C_BadPairs := C_BadPairs
    m_BadPairs := PySem.W.mg_of X G aC_BadPairs
    C_BadTrade := C_BadTrade
    m_BadTrade := PySem.W.mg_of X G aC_BadTrade
    C_BadRow := C_BadRow
    m_BadRow := PySem.W.mg_of X G aC_BadRow
    C_BadNumber := C_BadNumber
    m_BadNumber := PySem.W.mg_of X G aC_BadNumber
    C_TooLong := C_TooLong
    m_TooLong := PySem.W.mg_of X G aC_TooLong
    C_BadLength := C_BadLength
    m_BadLength := PySem.W.mg_of X G aC_BadLength
    C_BadModulus := C_BadModulus
    m_BadModulus := PySem.W.mg_of X G aC_BadModulus
    C_BadFacts := C_BadFacts
    m_BadFacts := PySem.W.mg_of X G aC_BadFacts
    C_BadLetter := C_BadLetter
    m_BadLetter := PySem.W.mg_of X G aC_BadLetter
    C_Full := C_Full
    m_Full := PySem.W.mg_of X G aC_Full
    C_BadPlace := C_BadPlace
    m_BadPlace := PySem.W.mg_of X G aC_BadPlace
    C_InvalidText := C_InvalidText
    m_InvalidText := PySem.W.mg_of X G aC_InvalidText
    C_Line := C_Line
    m_Line := PySem.W.mg_of X G aC_Line
    a_TradeError___init__ := fa_TradeError___init__
    d_TradeError___init__ := _
    F_TradeError___init__ := F_TradeError___init__
    b_TradeError___init__ := b_TradeError___init__
    a_BadPairs___init__ := fa_BadPairs___init__
    d_BadPairs___init__ := _
    F_BadPairs___init__ := F_BadPairs___init__
    b_BadPairs___init__ := b_BadPairs___init__
    a_BadFacts___init__ := fa_BadFacts___init__
    d_BadFacts___init__ := _
    F_BadFacts___init__ := F_BadFacts___init__
    b_BadFacts___init__ := b_BadFacts___init__
    a_InvalidText___init__ := fa_InvalidText___init__
    d_InvalidText___init__ := _
    F_InvalidText___init__ := F_InvalidText___init__
    b_InvalidText___init__ := b_InvalidText___init__
    a_is_whole := fa_is_whole
    d_is_whole := _
    F_is_whole := F_is_whole
    b_is_whole := b_is_whole
    m_is_whole := PySem.W.mg_of X G a_is_whole
    a_is_letter := fa_is_letter
    d_is_letter := _
    F_is_letter := F_is_letter
    b_is_letter := b_is_letter
    m_is_letter := PySem.W.mg_of X G a_is_letter
    a_is_pair := fa_is_pair
    d_is_pair := _
    F_is_pair := F_is_pair
    b_is_pair := b_is_pair
    m_is_pair := PySem.W.mg_of X G a_is_pair
    a_check_pairs := fa_check_pairs
    d_check_pairs := _
    F_check_pairs := F_check_pairs
    b_check_pairs := b_check_pairs
    m_check_pairs := PySem.W.mg_of X G a_check_pairs
    a_Trade___init__ := fa_Trade___init__
    d_Trade___init__ := _
    F_Trade___init__ := F_Trade___init__
    b_Trade___init__ := b_Trade___init__
    a_Trade_letters := fa_Trade_letters
    d_Trade_letters := _
    F_Trade_letters := F_Trade_letters
    b_Trade_letters := b_Trade_letters
    a_Trade_pairs := fa_Trade_pairs
    d_Trade_pairs := _
    F_Trade_pairs := F_Trade_pairs
    b_Trade_pairs := b_Trade_pairs
    a_Trade___eq__ := fa_Trade___eq__
    d_Trade___eq__ := _
    F_Trade___eq__ := F_Trade___eq__
    b_Trade___eq__ := b_Trade___eq__
    a_check_trade := fa_check_trade
    d_check_trade := _
    F_check_trade := F_check_trade
    b_check_trade := b_check_trade
    m_check_trade := PySem.W.mg_of X G a_check_trade
    a_may_change := fa_may_change
    d_may_change := _
    F_may_change := F_may_change
    b_may_change := b_may_change
    m_may_change := PySem.W.mg_of X G a_may_change
    a_bars_of := fa_bars_of
    d_bars_of := _
    F_bars_of := F_bars_of
    b_bars_of := b_bars_of
    m_bars_of := PySem.W.mg_of X G a_bars_of
    a_all_may_change := fa_all_may_change
    d_all_may_change := _
    F_all_may_change := F_all_may_change
    b_all_may_change := b_all_may_change
    m_all_may_change := PySem.W.mg_of X G a_all_may_change
    a_is_row := fa_is_row
    d_is_row := _
    F_is_row := F_is_row
    b_is_row := b_is_row
    m_is_row := PySem.W.mg_of X G a_is_row
    a_check_row := fa_check_row
    d_check_row := _
    F_check_row := F_check_row
    b_check_row := b_check_row
    m_check_row := PySem.W.mg_of X G a_check_row
    a_find_bar := fa_find_bar
    d_find_bar := _
    F_find_bar := F_find_bar
    b_find_bar := b_find_bar
    m_find_bar := PySem.W.mg_of X G a_find_bar
    a_only := fa_only
    d_only := _
    F_only := F_only
    b_only := b_only
    m_only := PySem.W.mg_of X G a_only
    a_first_unlike := fa_first_unlike
    d_first_unlike := _
    F_first_unlike := F_first_unlike
    b_first_unlike := b_first_unlike
    m_first_unlike := PySem.W.mg_of X G a_first_unlike
    a_least := fa_least
    d_least := _
    F_least := F_least
    b_least := b_least
    m_least := PySem.W.mg_of X G a_least
    a_first_letters := fa_first_letters
    d_first_letters := _
    F_first_letters := F_first_letters
    b_first_letters := b_first_letters
    m_first_letters := PySem.W.mg_of X G a_first_letters
    a_without := fa_without
    d_without := _
    F_without := F_without
    b_without := b_without
    m_without := PySem.W.mg_of X G a_without
    a_least_of := fa_least_of
    d_least_of := _
    F_least_of := F_least_of
    b_least_of := b_least_of
    m_least_of := PySem.W.mg_of X G a_least_of
    a_count_alike := fa_count_alike
    d_count_alike := _
    F_count_alike := F_count_alike
    b_count_alike := b_count_alike
    m_count_alike := PySem.W.mg_of X G a_count_alike
    a_numbered := fa_numbered
    d_numbered := _
    F_numbered := F_numbered
    b_numbered := b_numbered
    m_numbered := PySem.W.mg_of X G a_numbered
    a_pick := fa_pick
    d_pick := _
    F_pick := F_pick
    b_pick := b_pick
    m_pick := PySem.W.mg_of X G a_pick
    a_turned := fa_turned
    d_turned := _
    F_turned := F_turned
    b_turned := b_turned
    m_turned := PySem.W.mg_of X G a_turned
    a_check_turning := fa_check_turning
    d_check_turning := _
    F_check_turning := F_check_turning
    b_check_turning := b_check_turning
    m_check_turning := PySem.W.mg_of X G a_check_turning
    a_all_turned := fa_all_turned
    d_all_turned := _
    F_all_turned := F_all_turned
    b_all_turned := b_all_turned
    m_all_turned := PySem.W.mg_of X G a_all_turned
    a_all_groups := fa_all_groups
    d_all_groups := _
    F_all_groups := F_all_groups
    b_all_groups := b_all_groups
    m_all_groups := PySem.W.mg_of X G a_all_groups
    a_may_join := fa_may_join
    d_may_join := _
    F_may_join := F_may_join
    b_may_join := b_may_join
    m_may_join := PySem.W.mg_of X G a_may_join
    a_signed_counts := fa_signed_counts
    d_signed_counts := _
    F_signed_counts := F_signed_counts
    b_signed_counts := b_signed_counts
    m_signed_counts := PySem.W.mg_of X G a_signed_counts
    a_sign := fa_sign
    d_sign := _
    F_sign := F_sign
    b_sign := b_sign
    m_sign := PySem.W.mg_of X G a_sign
    a_how_many := fa_how_many
    d_how_many := _
    F_how_many := F_how_many
    b_how_many := b_how_many
    m_how_many := PySem.W.mg_of X G a_how_many
    a_how_many_by := fa_how_many_by
    d_how_many_by := _
    F_how_many_by := F_how_many_by
    b_how_many_by := b_how_many_by
    m_how_many_by := PySem.W.mg_of X G a_how_many_by
    a_term_by := fa_term_by
    d_term_by := _
    F_term_by := F_term_by
    b_term_by := b_term_by
    m_term_by := PySem.W.mg_of X G a_term_by
    a_change_signs := fa_change_signs
    d_change_signs := _
    F_change_signs := F_change_signs
    b_change_signs := b_change_signs
    m_change_signs := PySem.W.mg_of X G a_change_signs
    a_multiply := fa_multiply
    d_multiply := _
    F_multiply := F_multiply
    b_multiply := b_multiply
    m_multiply := PySem.W.mg_of X G a_multiply
    a_trades_by := fa_trades_by
    d_trades_by := _
    F_trades_by := F_trades_by
    b_trades_by := b_trades_by
    m_trades_by := PySem.W.mg_of X G a_trades_by
    a_check_facts := fa_check_facts
    d_check_facts := _
    F_check_facts := F_check_facts
    b_check_facts := b_check_facts
    m_check_facts := PySem.W.mg_of X G a_check_facts
    a_is_fact := fa_is_fact
    d_is_fact := _
    F_is_fact := F_is_fact
    b_is_fact := b_is_fact
    m_is_fact := PySem.W.mg_of X G a_is_fact
    a_choices_of_pairs := fa_choices_of_pairs
    d_choices_of_pairs := _
    F_choices_of_pairs := F_choices_of_pairs
    b_choices_of_pairs := b_choices_of_pairs
    m_choices_of_pairs := PySem.W.mg_of X G a_choices_of_pairs
    a_all_hold := fa_all_hold
    d_all_hold := _
    F_all_hold := F_all_hold
    b_all_hold := b_all_hold
    m_all_hold := PySem.W.mg_of X G a_all_hold
    a_holds := fa_holds
    d_holds := _
    F_holds := F_holds
    b_holds := b_holds
    m_holds := PySem.W.mg_of X G a_holds
    a_Line___init__ := fa_Line___init__
    d_Line___init__ := _
    F_Line___init__ := F_Line___init__
    b_Line___init__ := b_Line___init__
    pr_row := pr_row
    a_Line_row := fa_Line_row
    d_Line_row := _
    F_Line_row := F_Line_row
    b_Line_row := b_Line_row
    pr_least := pr_least
    a_Line_least := fa_Line_least
    d_Line_least := _
    F_Line_least := F_Line_least
    b_Line_least := b_Line_least
    a_Line_add := fa_Line_add
    d_Line_add := _
    F_Line_add := F_Line_add
    b_Line_add := b_Line_add
    a_Line_swap := fa_Line_swap
    d_Line_swap := _
    F_Line_swap := F_Line_swap
    b_Line_swap := b_Line_swap
    a_Line___len__ := fa_Line___len__
    d_Line___len__ := _
    F_Line___len__ := F_Line___len__
    b_Line___len__ := b_Line___len__
    a_is_change := fa_is_change
    d_is_change := _
    F_is_change := F_is_change
    b_is_change := b_is_change
    m_is_change := PySem.W.mg_of X G a_is_change
    a_read_row := fa_read_row
    d_read_row := _
    F_read_row := F_read_row
    b_read_row := b_read_row
    m_read_row := PySem.W.mg_of X G a_read_row
    a_read_letters := fa_read_letters
    d_read_letters := _
    F_read_letters := F_read_letters
    b_read_letters := b_read_letters
    m_read_letters := PySem.W.mg_of X G a_read_letters
    a_can_stand := fa_can_stand
    d_can_stand := _
    F_can_stand := F_can_stand
    b_can_stand := b_can_stand
    m_can_stand := PySem.W.mg_of X G a_can_stand
    a__law_mix := fa__law_mix
    d__law_mix := _
    F__law_mix := F__law_mix
    b__law_mix := b__law_mix
    m__law_mix := PySem.W.mg_of X G a__law_mix
    a__law_next := fa__law_next
    d__law_next := _
    F__law_next := F__law_next
    b__law_next := b__law_next
    m__law_next := PySem.W.mg_of X G a__law_next
    a__law_which := fa__law_which
    d__law_which := _
    F__law_which := F__law_which
    b__law_which := b__law_which
    m__law_which := PySem.W.mg_of X G a__law_which
    a__law_early := fa__law_early
    d__law_early := _
    F__law_early := F__law_early
    b__law_early := b__law_early
    m__law_early := PySem.W.mg_of X G a__law_early
    a__law_do := fa__law_do
    d__law_do := _
    F__law_do := F__law_do
    b__law_do := b__law_do
    m__law_do := PySem.W.mg_of X G a__law_do
    a_law := fa_law
    d_law := _
    F_law := F_law
    b_law := b_law
    m_law := PySem.W.mg_of X G a_law
    C_Trade := C_Trade
    m_Trade := PySem.W.mg_of X G aC
    x_BadLetters := ⟨⟨⟨_, _, _, _, _, _, _, _, _, _, _, _, _, _, _, xL_BadLetters, rfl⟩, sa_BadLetters, ex_BadLetters, ty_BadLetters, kp_BadLetters⟩, ii_BadLetters, ti_TradeError___init__⟩
    x_BadPairs := ⟨⟨⟨_, _, _, _, _, _, _, _, _, _, _, _, _, _, _, xL_BadPairs, rfl⟩, sa_BadPairs, ex_BadPairs, ty_BadPairs, kp_BadPairs⟩, ii_BadPairs, ti_BadPairs___init__⟩
    x_BadTrade := ⟨⟨⟨_, _, _, _, _, _, _, _, _, _, _, _, _, _, _, xL_BadTrade, rfl⟩, sa_BadTrade, ex_BadTrade, ty_BadTrade, kp_BadTrade⟩, ii_BadTrade, ti_TradeError___init__⟩
    x_BadRow := ⟨⟨⟨_, _, _, _, _, _, _, _, _, _, _, _, _, _, _, xL_BadRow, rfl⟩, sa_BadRow, ex_BadRow, ty_BadRow, kp_BadRow⟩, ii_BadRow, ti_TradeError___init__⟩
    x_BadNumber := ⟨⟨⟨_, _, _, _, _, _, _, _, _, _, _, _, _, _, _, xL_BadNumber, rfl⟩, sa_BadNumber, ex_BadNumber, ty_BadNumber, kp_BadNumber⟩, ii_BadNumber, ti_TradeError___init__⟩
    x_TooLong := ⟨⟨⟨_, _, _, _, _, _, _, _, _, _, _, _, _, _, _, xL_TooLong, rfl⟩, sa_TooLong, ex_TooLong, ty_TooLong, kp_TooLong⟩, ii_TooLong, ti_TradeError___init__⟩
    x_BadLength := ⟨⟨⟨_, _, _, _, _, _, _, _, _, _, _, _, _, _, _, xL_BadLength, rfl⟩, sa_BadLength, ex_BadLength, ty_BadLength, kp_BadLength⟩, ii_BadLength, ti_TradeError___init__⟩
    x_BadModulus := ⟨⟨⟨_, _, _, _, _, _, _, _, _, _, _, _, _, _, _, xL_BadModulus, rfl⟩, sa_BadModulus, ex_BadModulus, ty_BadModulus, kp_BadModulus⟩, ii_BadModulus, ti_TradeError___init__⟩
    x_BadFacts := ⟨⟨⟨_, _, _, _, _, _, _, _, _, _, _, _, _, _, _, xL_BadFacts, rfl⟩, sa_BadFacts, ex_BadFacts, ty_BadFacts, kp_BadFacts⟩, ii_BadFacts, ti_BadFacts___init__⟩
    x_BadLetter := ⟨⟨⟨_, _, _, _, _, _, _, _, _, _, _, _, _, _, _, xL_BadLetter, rfl⟩, sa_BadLetter, ex_BadLetter, ty_BadLetter, kp_BadLetter⟩, ii_BadLetter, ti_TradeError___init__⟩
    x_Full := ⟨⟨⟨_, _, _, _, _, _, _, _, _, _, _, _, _, _, _, xL_Full, rfl⟩, sa_Full, ex_Full, ty_Full, kp_Full⟩, ii_Full, ti_TradeError___init__⟩
    x_BadPlace := ⟨⟨⟨_, _, _, _, _, _, _, _, _, _, _, _, _, _, _, xL_BadPlace, rfl⟩, sa_BadPlace, ex_BadPlace, ty_BadPlace, kp_BadPlace⟩, ii_BadPlace, ti_TradeError___init__⟩
    x_InvalidText := ⟨⟨⟨_, _, _, _, _, _, _, _, _, _, _, _, _, _, _, xL_InvalidText, rfl⟩, sa_InvalidText, ex_InvalidText, ty_InvalidText, kp_InvalidText⟩, ii_InvalidText, ti_InvalidText___init__⟩
    e_BadLetters_TradeError := ee_BadLetters_TradeError
    e_BadPairs_TradeError := ee_BadPairs_TradeError
    e_BadTrade_TradeError := ee_BadTrade_TradeError
    e_BadRow_TradeError := ee_BadRow_TradeError
    e_BadNumber_TradeError := ee_BadNumber_TradeError
    e_TooLong_TradeError := ee_TooLong_TradeError
    e_BadLength_TradeError := ee_BadLength_TradeError
    e_BadModulus_TradeError := ee_BadModulus_TradeError
    e_BadFacts_TradeError := ee_BadFacts_TradeError
    e_BadLetter_TradeError := ee_BadLetter_TradeError
    e_Full_TradeError := ee_Full_TradeError
    e_BadPlace_TradeError := ee_BadPlace_TradeError
    e_InvalidText_TradeError := ee_InvalidText_TradeError
    e_BadPairs := ee_BadPairs_BadPairs
    e_BadFacts_BadPairs := ee_BadFacts_BadPairs
    e_BadFacts := ee_BadFacts_BadFacts
    e_InvalidText := ee_InvalidText_InvalidText
    xc_BadLetters := ⟨xg_BadLetters, xk_BadLetters, ex_BadLetters, xh_BadLetters, xa_BadLetters, xn_E, xt_E, xm_BadLetters⟩
    kv_BadLetters := kv_BadLetters_h
    k_BadLetters_BadLetters := k_BadLetters_BadLetters_h
    k_BadLetters_BadPairs := k_BadLetters_BadPairs_h
    k_BadLetters_BadTrade := k_BadLetters_BadTrade_h
    k_BadLetters_BadRow := k_BadLetters_BadRow_h
    k_BadLetters_BadNumber := k_BadLetters_BadNumber_h
    k_BadLetters_TooLong := k_BadLetters_TooLong_h
    k_BadLetters_BadLength := k_BadLetters_BadLength_h
    k_BadLetters_BadModulus := k_BadLetters_BadModulus_h
    k_BadLetters_BadFacts := k_BadLetters_BadFacts_h
    k_BadLetters_BadLetter := k_BadLetters_BadLetter_h
    k_BadLetters_Full := k_BadLetters_Full_h
    k_BadLetters_BadPlace := k_BadLetters_BadPlace_h
    k_BadLetters_InvalidText := k_BadLetters_InvalidText_h
    xc_BadPairs := ⟨xg_BadPairs, xk_BadPairs, ex_BadPairs, xh_BadPairs, xa_BadPairs, xn_E, xt_E, xm_BadPairs⟩
    kv_BadPairs := kv_BadPairs_h
    k_BadPairs_BadLetters := k_BadPairs_BadLetters_h
    k_BadPairs_BadPairs := k_BadPairs_BadPairs_h
    k_BadPairs_BadTrade := k_BadPairs_BadTrade_h
    k_BadPairs_BadRow := k_BadPairs_BadRow_h
    k_BadPairs_BadNumber := k_BadPairs_BadNumber_h
    k_BadPairs_TooLong := k_BadPairs_TooLong_h
    k_BadPairs_BadLength := k_BadPairs_BadLength_h
    k_BadPairs_BadModulus := k_BadPairs_BadModulus_h
    k_BadPairs_BadFacts := k_BadPairs_BadFacts_h
    k_BadPairs_BadLetter := k_BadPairs_BadLetter_h
    k_BadPairs_Full := k_BadPairs_Full_h
    k_BadPairs_BadPlace := k_BadPairs_BadPlace_h
    k_BadPairs_InvalidText := k_BadPairs_InvalidText_h
    xc_BadTrade := ⟨xg_BadTrade, xk_BadTrade, ex_BadTrade, xh_BadTrade, xa_BadTrade, xn_E, xt_E, xm_BadTrade⟩
    kv_BadTrade := kv_BadTrade_h
    k_BadTrade_BadLetters := k_BadTrade_BadLetters_h
    k_BadTrade_BadPairs := k_BadTrade_BadPairs_h
    k_BadTrade_BadTrade := k_BadTrade_BadTrade_h
    k_BadTrade_BadRow := k_BadTrade_BadRow_h
    k_BadTrade_BadNumber := k_BadTrade_BadNumber_h
    k_BadTrade_TooLong := k_BadTrade_TooLong_h
    k_BadTrade_BadLength := k_BadTrade_BadLength_h
    k_BadTrade_BadModulus := k_BadTrade_BadModulus_h
    k_BadTrade_BadFacts := k_BadTrade_BadFacts_h
    k_BadTrade_BadLetter := k_BadTrade_BadLetter_h
    k_BadTrade_Full := k_BadTrade_Full_h
    k_BadTrade_BadPlace := k_BadTrade_BadPlace_h
    k_BadTrade_InvalidText := k_BadTrade_InvalidText_h
    xc_BadRow := ⟨xg_BadRow, xk_BadRow, ex_BadRow, xh_BadRow, xa_BadRow, xn_E, xt_E, xm_BadRow⟩
    kv_BadRow := kv_BadRow_h
    k_BadRow_BadLetters := k_BadRow_BadLetters_h
    k_BadRow_BadPairs := k_BadRow_BadPairs_h
    k_BadRow_BadTrade := k_BadRow_BadTrade_h
    k_BadRow_BadRow := k_BadRow_BadRow_h
    k_BadRow_BadNumber := k_BadRow_BadNumber_h
    k_BadRow_TooLong := k_BadRow_TooLong_h
    k_BadRow_BadLength := k_BadRow_BadLength_h
    k_BadRow_BadModulus := k_BadRow_BadModulus_h
    k_BadRow_BadFacts := k_BadRow_BadFacts_h
    k_BadRow_BadLetter := k_BadRow_BadLetter_h
    k_BadRow_Full := k_BadRow_Full_h
    k_BadRow_BadPlace := k_BadRow_BadPlace_h
    k_BadRow_InvalidText := k_BadRow_InvalidText_h
    xc_BadNumber := ⟨xg_BadNumber, xk_BadNumber, ex_BadNumber, xh_BadNumber, xa_BadNumber, xn_E, xt_E, xm_BadNumber⟩
    kv_BadNumber := kv_BadNumber_h
    k_BadNumber_BadLetters := k_BadNumber_BadLetters_h
    k_BadNumber_BadPairs := k_BadNumber_BadPairs_h
    k_BadNumber_BadTrade := k_BadNumber_BadTrade_h
    k_BadNumber_BadRow := k_BadNumber_BadRow_h
    k_BadNumber_BadNumber := k_BadNumber_BadNumber_h
    k_BadNumber_TooLong := k_BadNumber_TooLong_h
    k_BadNumber_BadLength := k_BadNumber_BadLength_h
    k_BadNumber_BadModulus := k_BadNumber_BadModulus_h
    k_BadNumber_BadFacts := k_BadNumber_BadFacts_h
    k_BadNumber_BadLetter := k_BadNumber_BadLetter_h
    k_BadNumber_Full := k_BadNumber_Full_h
    k_BadNumber_BadPlace := k_BadNumber_BadPlace_h
    k_BadNumber_InvalidText := k_BadNumber_InvalidText_h
    xc_TooLong := ⟨xg_TooLong, xk_TooLong, ex_TooLong, xh_TooLong, xa_TooLong, xn_E, xt_E, xm_TooLong⟩
    kv_TooLong := kv_TooLong_h
    k_TooLong_BadLetters := k_TooLong_BadLetters_h
    k_TooLong_BadPairs := k_TooLong_BadPairs_h
    k_TooLong_BadTrade := k_TooLong_BadTrade_h
    k_TooLong_BadRow := k_TooLong_BadRow_h
    k_TooLong_BadNumber := k_TooLong_BadNumber_h
    k_TooLong_TooLong := k_TooLong_TooLong_h
    k_TooLong_BadLength := k_TooLong_BadLength_h
    k_TooLong_BadModulus := k_TooLong_BadModulus_h
    k_TooLong_BadFacts := k_TooLong_BadFacts_h
    k_TooLong_BadLetter := k_TooLong_BadLetter_h
    k_TooLong_Full := k_TooLong_Full_h
    k_TooLong_BadPlace := k_TooLong_BadPlace_h
    k_TooLong_InvalidText := k_TooLong_InvalidText_h
    xc_BadLength := ⟨xg_BadLength, xk_BadLength, ex_BadLength, xh_BadLength, xa_BadLength, xn_E, xt_E, xm_BadLength⟩
    kv_BadLength := kv_BadLength_h
    k_BadLength_BadLetters := k_BadLength_BadLetters_h
    k_BadLength_BadPairs := k_BadLength_BadPairs_h
    k_BadLength_BadTrade := k_BadLength_BadTrade_h
    k_BadLength_BadRow := k_BadLength_BadRow_h
    k_BadLength_BadNumber := k_BadLength_BadNumber_h
    k_BadLength_TooLong := k_BadLength_TooLong_h
    k_BadLength_BadLength := k_BadLength_BadLength_h
    k_BadLength_BadModulus := k_BadLength_BadModulus_h
    k_BadLength_BadFacts := k_BadLength_BadFacts_h
    k_BadLength_BadLetter := k_BadLength_BadLetter_h
    k_BadLength_Full := k_BadLength_Full_h
    k_BadLength_BadPlace := k_BadLength_BadPlace_h
    k_BadLength_InvalidText := k_BadLength_InvalidText_h
    xc_BadModulus := ⟨xg_BadModulus, xk_BadModulus, ex_BadModulus, xh_BadModulus, xa_BadModulus, xn_E, xt_E, xm_BadModulus⟩
    kv_BadModulus := kv_BadModulus_h
    k_BadModulus_BadLetters := k_BadModulus_BadLetters_h
    k_BadModulus_BadPairs := k_BadModulus_BadPairs_h
    k_BadModulus_BadTrade := k_BadModulus_BadTrade_h
    k_BadModulus_BadRow := k_BadModulus_BadRow_h
    k_BadModulus_BadNumber := k_BadModulus_BadNumber_h
    k_BadModulus_TooLong := k_BadModulus_TooLong_h
    k_BadModulus_BadLength := k_BadModulus_BadLength_h
    k_BadModulus_BadModulus := k_BadModulus_BadModulus_h
    k_BadModulus_BadFacts := k_BadModulus_BadFacts_h
    k_BadModulus_BadLetter := k_BadModulus_BadLetter_h
    k_BadModulus_Full := k_BadModulus_Full_h
    k_BadModulus_BadPlace := k_BadModulus_BadPlace_h
    k_BadModulus_InvalidText := k_BadModulus_InvalidText_h
    xc_BadFacts := ⟨xg_BadFacts, xk_BadFacts, ex_BadFacts, xh_BadFacts, xa_BadFacts, xn_E, xt_E, xm_BadFacts⟩
    kv_BadFacts := kv_BadFacts_h
    k_BadFacts_BadLetters := k_BadFacts_BadLetters_h
    k_BadFacts_BadPairs := k_BadFacts_BadPairs_h
    k_BadFacts_BadTrade := k_BadFacts_BadTrade_h
    k_BadFacts_BadRow := k_BadFacts_BadRow_h
    k_BadFacts_BadNumber := k_BadFacts_BadNumber_h
    k_BadFacts_TooLong := k_BadFacts_TooLong_h
    k_BadFacts_BadLength := k_BadFacts_BadLength_h
    k_BadFacts_BadModulus := k_BadFacts_BadModulus_h
    k_BadFacts_BadFacts := k_BadFacts_BadFacts_h
    k_BadFacts_BadLetter := k_BadFacts_BadLetter_h
    k_BadFacts_Full := k_BadFacts_Full_h
    k_BadFacts_BadPlace := k_BadFacts_BadPlace_h
    k_BadFacts_InvalidText := k_BadFacts_InvalidText_h
    xc_BadLetter := ⟨xg_BadLetter, xk_BadLetter, ex_BadLetter, xh_BadLetter, xa_BadLetter, xn_E, xt_E, xm_BadLetter⟩
    kv_BadLetter := kv_BadLetter_h
    k_BadLetter_BadLetters := k_BadLetter_BadLetters_h
    k_BadLetter_BadPairs := k_BadLetter_BadPairs_h
    k_BadLetter_BadTrade := k_BadLetter_BadTrade_h
    k_BadLetter_BadRow := k_BadLetter_BadRow_h
    k_BadLetter_BadNumber := k_BadLetter_BadNumber_h
    k_BadLetter_TooLong := k_BadLetter_TooLong_h
    k_BadLetter_BadLength := k_BadLetter_BadLength_h
    k_BadLetter_BadModulus := k_BadLetter_BadModulus_h
    k_BadLetter_BadFacts := k_BadLetter_BadFacts_h
    k_BadLetter_BadLetter := k_BadLetter_BadLetter_h
    k_BadLetter_Full := k_BadLetter_Full_h
    k_BadLetter_BadPlace := k_BadLetter_BadPlace_h
    k_BadLetter_InvalidText := k_BadLetter_InvalidText_h
    xc_Full := ⟨xg_Full, xk_Full, ex_Full, xh_Full, xa_Full, xn_E, xt_E, xm_Full⟩
    kv_Full := kv_Full_h
    k_Full_BadLetters := k_Full_BadLetters_h
    k_Full_BadPairs := k_Full_BadPairs_h
    k_Full_BadTrade := k_Full_BadTrade_h
    k_Full_BadRow := k_Full_BadRow_h
    k_Full_BadNumber := k_Full_BadNumber_h
    k_Full_TooLong := k_Full_TooLong_h
    k_Full_BadLength := k_Full_BadLength_h
    k_Full_BadModulus := k_Full_BadModulus_h
    k_Full_BadFacts := k_Full_BadFacts_h
    k_Full_BadLetter := k_Full_BadLetter_h
    k_Full_Full := k_Full_Full_h
    k_Full_BadPlace := k_Full_BadPlace_h
    k_Full_InvalidText := k_Full_InvalidText_h
    xc_BadPlace := ⟨xg_BadPlace, xk_BadPlace, ex_BadPlace, xh_BadPlace, xa_BadPlace, xn_E, xt_E, xm_BadPlace⟩
    kv_BadPlace := kv_BadPlace_h
    k_BadPlace_BadLetters := k_BadPlace_BadLetters_h
    k_BadPlace_BadPairs := k_BadPlace_BadPairs_h
    k_BadPlace_BadTrade := k_BadPlace_BadTrade_h
    k_BadPlace_BadRow := k_BadPlace_BadRow_h
    k_BadPlace_BadNumber := k_BadPlace_BadNumber_h
    k_BadPlace_TooLong := k_BadPlace_TooLong_h
    k_BadPlace_BadLength := k_BadPlace_BadLength_h
    k_BadPlace_BadModulus := k_BadPlace_BadModulus_h
    k_BadPlace_BadFacts := k_BadPlace_BadFacts_h
    k_BadPlace_BadLetter := k_BadPlace_BadLetter_h
    k_BadPlace_Full := k_BadPlace_Full_h
    k_BadPlace_BadPlace := k_BadPlace_BadPlace_h
    k_BadPlace_InvalidText := k_BadPlace_InvalidText_h
    xc_InvalidText := ⟨xg_InvalidText, xk_InvalidText, ex_InvalidText, xh_InvalidText, xa_InvalidText, xn_E, xt_E, xm_InvalidText⟩
    kv_InvalidText := kv_InvalidText_h
    k_InvalidText_BadLetters := k_InvalidText_BadLetters_h
    k_InvalidText_BadPairs := k_InvalidText_BadPairs_h
    k_InvalidText_BadTrade := k_InvalidText_BadTrade_h
    k_InvalidText_BadRow := k_InvalidText_BadRow_h
    k_InvalidText_BadNumber := k_InvalidText_BadNumber_h
    k_InvalidText_TooLong := k_InvalidText_TooLong_h
    k_InvalidText_BadLength := k_InvalidText_BadLength_h
    k_InvalidText_BadModulus := k_InvalidText_BadModulus_h
    k_InvalidText_BadFacts := k_InvalidText_BadFacts_h
    k_InvalidText_BadLetter := k_InvalidText_BadLetter_h
    k_InvalidText_Full := k_InvalidText_Full_h
    k_InvalidText_BadPlace := k_InvalidText_BadPlace_h
    k_InvalidText_InvalidText := k_InvalidText_InvalidText_h
    xf_InvalidText := ⟨xg_InvalidText, xk_InvalidText, ex_InvalidText, xh_InvalidText⟩
    no_place := xp_InvalidText
    xf_BadPairs := ⟨xg_BadPairs, xk_BadPairs, ex_BadPairs, xh_BadPairs⟩
    no_index_BadPairs := xp_BadPairs
    xf_BadFacts := ⟨xg_BadFacts, xk_BadFacts, ex_BadFacts, xh_BadFacts⟩
    no_index_BadFacts := xp_BadFacts
    kt_NoneType := kn_NoneType
    kt_bool := kn_bool
    kt_int := kn_int
    kt_str := kn_str
    kt_list := kn_list
    n_ValueError := PySem.W.mg_none_of X G z_ValueError
    n_all := PySem.W.mg_none_of X G z_all
    n_bool := PySem.W.mg_none_of X G z_bool
    n_enumerate := PySem.W.mg_none_of X G z_enumerate
    n_int := PySem.W.mg_none_of X G z_int
    n_isinstance := PySem.W.mg_none_of X G z_isinstance
    n_len := PySem.W.mg_none_of X G z_len
    n_list := PySem.W.mg_none_of X G z_list
    n_max := PySem.W.mg_none_of X G z_max
    n_min := PySem.W.mg_none_of X G z_min
    n_range := PySem.W.mg_none_of X G z_range
    n_sorted := PySem.W.mg_none_of X G z_sorted
    n_tuple := PySem.W.mg_none_of X G z_tuple
    t_MOST_LETTERS := tk_MOST_LETTERS
    c_MOST_LETTERS := PySem.W.mg_of X G v_MOST_LETTERS
    t_MOST_IN_ROW := tk_MOST_IN_ROW
    c_MOST_IN_ROW := PySem.W.mg_of X G v_MOST_IN_ROW
    t_MOST_TO_TURN := tk_MOST_TO_TURN
    c_MOST_TO_TURN := PySem.W.mg_of X G v_MOST_TO_TURN
    t_MOST_LENGTH := tk_MOST_LENGTH
    c_MOST_LENGTH := PySem.W.mg_of X G v_MOST_LENGTH
    t_MOST_LETTERS_KNOWN := tk_MOST_LETTERS_KNOWN
    c_MOST_LETTERS_KNOWN := PySem.W.mg_of X G v_MOST_LETTERS_KNOWN
    t_MOST_FACTS := tk_MOST_FACTS
    c_MOST_FACTS := PySem.W.mg_of X G v_MOST_FACTS
    t_ALIKE := tk_ALIKE
    c_ALIKE := PySem.W.mg_of X G v_ALIKE
    t_UNLIKE := tk_UNLIKE
    c_UNLIKE := PySem.W.mg_of X G v_UNLIKE
    t_LETTERS := tk_LETTERS
    c_LETTERS := PySem.W.mg_of X G v_LETTERS
    t_OPENING := tk_OPENING
    c_OPENING := PySem.W.mg_of X G v_OPENING
    t_CLOSING := tk_CLOSING
    c_CLOSING := PySem.W.mg_of X G v_CLOSING
    t_MOST_LENGTH_BY := tk_MOST_LENGTH_BY
    c_MOST_LENGTH_BY := PySem.W.mg_of X G v_MOST_LENGTH_BY
    t_MOST_MODULUS := tk_MOST_MODULUS
    c_MOST_MODULUS := PySem.W.mg_of X G v_MOST_MODULUS
    cl_Line := ⟨pg_Line, hd_Line, po_Line, sa_Line⟩
    no_trade := no_trade
    no_rows := no_rows
    mk_Line := ⟨mk_Line, a_Line___init__, i_Line___init__, kc_Line⟩
    p_row := ⟨a_Line_row, g_Line_row, t_Line_row, ⟨_, r_Line_row⟩⟩
    p_least := ⟨a_Line_least, g_Line_least, t_Line_least, ⟨_, r_Line_least⟩⟩
    me_Line_add := ⟨a_Line_add, i_Line_add, k_Line_add⟩
    me_Line_swap := ⟨a_Line_swap, i_Line_swap, k_Line_swap⟩
    len_Line := a_Line___len__
    lenT_Line := ti_Line___len__
    cl := ⟨pg, hd, po, sa⟩
    nl := nl
    np := np
    mk_Trade := ⟨mk, a_Trade___init__, i_Trade___init__, kc⟩
    pr_l := pr_letters
    pr_p := pr_pairs
    p_letters := ⟨a_Trade_letters, g_Trade_letters, t_Trade_letters, ⟨_, r_Trade_letters⟩⟩
    p_pairs := ⟨a_Trade_pairs, g_Trade_pairs, t_Trade_pairs, ⟨_, r_Trade_pairs⟩⟩
    ic := ⟨⟨⟨pg, hd, po, sa⟩, ha, hn, htk, hm, me⟩, nt⟩
    eqf := a_Trade___eq__
    eqi := i_Trade___eq__
    nf := nf }
  exact ⟨PySem.W.fnOf "law" "law" (defArgs s_law) (defBody s_law) (defScope s_law) .none kV_law dc_law pm_law an_law cd_law ct_law, fun s v => .of_eq rfl, fun base _ _ => ok_law E⟩
theorem fz_of {K : PySem.W.Frag} {H : Hp} {a : Addr} {xs : List V} (hO : Only H) (hS : SqL K H a xs) : Fz K H a xs := by
  rcases hS with hS | hS
  · rcases hS with hS | ⟨o, hS⟩
    · rcases hO a with z | ⟨o, ys, z⟩ <;> rw [hS] at z <;> cases z
    · exact .inl ⟨o, hS⟩
  · exact .inr hS
theorem walk {l : PySem.W.OpenLaw} {q : Program} {loose : List Str} {XP : (Str → Option Value) → Heap → Prop} {YP : World → Heap → Prop} {d : DefRec} {K : Params → PySem.W.Frag} (hn : l.most = some 63) (hdf : d.params.defaults = [])
    (hY : ∀ (w : World) (h : Heap), YP w h → (K w.params).In h)
    (F : ∀ (w : World) (mg : Str → Option Value) (fa : Addr) (h : Heap), (K w.params).In h → h.Ns mainGlobals mg → mg d.name = some (.ref fa) →
      ∃ fd : FuncData, (∀ (s : Shared) (u : Value), BindsTo s fd ⟨[u], []⟩ [("_law_script", u)]) ∧ ∀ base : Heap, (K w.params).In base → base.Ns mainGlobals mg → FnOk l.prog w (K w.params) mg base CX0 80 fa fd ["_law_script"] (spLaw (K w.params))) :
    PySem.W.WalkO q loose XP YP l.row.toRowW d [] (fun f vs => PySem.call f vs) :=
  L2.walk_of (n := 63) (k := 80) (x := "_law_script") (CX := fun _ => CX0) (sp := fun w => spLaw (K w.params)) hn (by decide) hdf ⟨rfl, by decide, by decide⟩ hY F
    (fun w H a ns hl hO hS => ⟨a, ns, rfl, fz_of hO hS, hl, fun _ => rfl⟩) fun _ _ _ _ _ z => z
end K1
open PySem PySem.W PyProof.Rows
set_option maxRecDepth 100000 in
set_option maxHeartbeats 0 in
theorem PySem.Challenge.cw_placetrade_k10_errors_apart_holds : PySem.Challenge.rw_placetrade_k10_errors_apart.Holds := by
  w_on; o_law; k_head; (case hw => w_witness2)
  k_fill
  refine K1.walk (l := PySem.Challenge.rw_placetrade_k10_errors_apart) rfl rfl (fun w h Y => PySem.W.kIn_of Y) ?F
  case F =>
    intro w mg fa h KX G hmg
    refine' K1.all_mk KX G hmg ?aC_TradeError ?aC_BadLetters ?aC_BadPairs ?aC_BadTrade ?aC_BadRow ?aC_BadNumber ?aC_TooLong ?aC_BadLength ?aC_BadModulus ?aC_BadFacts ?aC_BadLetter ?aC_Full ?aC_BadPlace ?aC_InvalidText ?aC_Line ?aC ?a_TradeError___init__ ?ti_TradeError___init__ ?l_TradeError___init__ ?c_TradeError___init__ ?k_TradeError___init__ ?a_BadPairs___init__ ?ti_BadPairs___init__ ?l_BadPairs___init__ ?c_BadPairs___init__ ?k_BadPairs___init__ ?a_BadFacts___init__ ?ti_BadFacts___init__ ?l_BadFacts___init__ ?c_BadFacts___init__ ?k_BadFacts___init__ ?a_InvalidText___init__ ?ti_InvalidText___init__ ?l_InvalidText___init__ ?c_InvalidText___init__ ?k_InvalidText___init__ ?a_is_whole ?l_is_whole ?c_is_whole ?k_is_whole ?a_is_letter ?l_is_letter ?c_is_letter ?k_is_letter ?a_is_pair ?l_is_pair ?c_is_pair ?k_is_pair ?a_check_pairs ?l_check_pairs ?c_check_pairs ?k_check_pairs ?a_Trade___init__ ?i_Trade___init__ ?l_Trade___init__ ?c_Trade___init__ ?k_Trade___init__ ?a_Trade_letters ?g_Trade_letters ?t_Trade_letters ?r_Trade_letters ?l_Trade_letters ?c_Trade_letters ?k_Trade_letters ?a_Trade_pairs ?g_Trade_pairs ?t_Trade_pairs ?r_Trade_pairs ?l_Trade_pairs ?c_Trade_pairs ?k_Trade_pairs ?a_Trade___eq__ ?i_Trade___eq__ ?l_Trade___eq__ ?c_Trade___eq__ ?k_Trade___eq__ ?a_check_trade ?l_check_trade ?c_check_trade ?k_check_trade ?a_may_change ?l_may_change ?c_may_change ?k_may_change ?a_bars_of ?l_bars_of ?c_bars_of ?k_bars_of ?a_all_may_change ?l_all_may_change ?c_all_may_change ?k_all_may_change ?a_is_row ?l_is_row ?c_is_row ?k_is_row ?a_check_row ?l_check_row ?c_check_row ?k_check_row ?a_find_bar ?l_find_bar ?c_find_bar ?k_find_bar ?a_only ?l_only ?c_only ?k_only ?a_first_unlike ?l_first_unlike ?c_first_unlike ?k_first_unlike ?a_least ?l_least ?c_least ?k_least ?a_first_letters ?l_first_letters ?c_first_letters ?k_first_letters ?a_without ?l_without ?c_without ?k_without ?a_least_of ?l_least_of ?c_least_of ?k_least_of ?a_count_alike ?l_count_alike ?c_count_alike ?k_count_alike ?a_numbered ?l_numbered ?c_numbered ?k_numbered ?a_pick ?l_pick ?c_pick ?k_pick ?a_turned ?l_turned ?c_turned ?k_turned ?a_check_turning ?l_check_turning ?c_check_turning ?k_check_turning ?a_all_turned ?l_all_turned ?c_all_turned ?k_all_turned ?a_all_groups ?l_all_groups ?c_all_groups ?k_all_groups ?a_may_join ?l_may_join ?c_may_join ?k_may_join ?a_signed_counts ?l_signed_counts ?c_signed_counts ?k_signed_counts ?a_sign ?l_sign ?c_sign ?k_sign ?a_how_many ?l_how_many ?c_how_many ?k_how_many ?a_how_many_by ?l_how_many_by ?c_how_many_by ?k_how_many_by ?a_term_by ?l_term_by ?c_term_by ?k_term_by ?a_change_signs ?l_change_signs ?c_change_signs ?k_change_signs ?a_multiply ?l_multiply ?c_multiply ?k_multiply ?a_trades_by ?l_trades_by ?c_trades_by ?k_trades_by ?a_check_facts ?l_check_facts ?c_check_facts ?k_check_facts ?a_is_fact ?l_is_fact ?c_is_fact ?k_is_fact ?a_choices_of_pairs ?l_choices_of_pairs ?c_choices_of_pairs ?k_choices_of_pairs ?a_all_hold ?l_all_hold ?c_all_hold ?k_all_hold ?a_holds ?l_holds ?c_holds ?k_holds ?a_Line___init__ ?i_Line___init__ ?l_Line___init__ ?c_Line___init__ ?k_Line___init__ ?a_Line_row ?g_Line_row ?t_Line_row ?r_Line_row ?l_Line_row ?c_Line_row ?k_Line_row ?a_Line_least ?g_Line_least ?t_Line_least ?r_Line_least ?l_Line_least ?c_Line_least ?k_Line_least ?a_Line_add ?i_Line_add ?l_Line_add ?c_Line_add ?k_Line_add ?a_Line_swap ?i_Line_swap ?l_Line_swap ?c_Line_swap ?k_Line_swap ?a_Line___len__ ?i_Line___len__ ?ti_Line___len__ ?l_Line___len__ ?c_Line___len__ ?k_Line___len__ ?a_is_change ?l_is_change ?c_is_change ?k_is_change ?a_read_row ?l_read_row ?c_read_row ?k_read_row ?a_read_letters ?l_read_letters ?c_read_letters ?k_read_letters ?a_can_stand ?l_can_stand ?c_can_stand ?k_can_stand ?a__law_mix ?l__law_mix ?c__law_mix ?k__law_mix ?a__law_next ?l__law_next ?c__law_next ?k__law_next ?a__law_which ?l__law_which ?c__law_which ?k__law_which ?a__law_early ?l__law_early ?c__law_early ?k__law_early ?a__law_do ?l__law_do ?c__law_do ?k__law_do ?a_law ?l_law ?c_law ?k_law ?xL_BadLetters ?sa_BadLetters ?ex_BadLetters ?ty_BadLetters ?kp_BadLetters ?ii_BadLetters ?xL_BadPairs ?sa_BadPairs ?ex_BadPairs ?ty_BadPairs ?kp_BadPairs ?ii_BadPairs ?xL_BadTrade ?sa_BadTrade ?ex_BadTrade ?ty_BadTrade ?kp_BadTrade ?ii_BadTrade ?xL_BadRow ?sa_BadRow ?ex_BadRow ?ty_BadRow ?kp_BadRow ?ii_BadRow ?xL_BadNumber ?sa_BadNumber ?ex_BadNumber ?ty_BadNumber ?kp_BadNumber ?ii_BadNumber ?xL_TooLong ?sa_TooLong ?ex_TooLong ?ty_TooLong ?kp_TooLong ?ii_TooLong ?xL_BadLength ?sa_BadLength ?ex_BadLength ?ty_BadLength ?kp_BadLength ?ii_BadLength ?xL_BadModulus ?sa_BadModulus ?ex_BadModulus ?ty_BadModulus ?kp_BadModulus ?ii_BadModulus ?xL_BadFacts ?sa_BadFacts ?ex_BadFacts ?ty_BadFacts ?kp_BadFacts ?ii_BadFacts ?xL_BadLetter ?sa_BadLetter ?ex_BadLetter ?ty_BadLetter ?kp_BadLetter ?ii_BadLetter ?xL_Full ?sa_Full ?ex_Full ?ty_Full ?kp_Full ?ii_Full ?xL_BadPlace ?sa_BadPlace ?ex_BadPlace ?ty_BadPlace ?kp_BadPlace ?ii_BadPlace ?xL_InvalidText ?sa_InvalidText ?ex_InvalidText ?ty_InvalidText ?kp_InvalidText ?ii_InvalidText ?ee_BadLetters_TradeError ?ee_BadPairs_TradeError ?ee_BadTrade_TradeError ?ee_BadRow_TradeError ?ee_BadNumber_TradeError ?ee_TooLong_TradeError ?ee_BadLength_TradeError ?ee_BadModulus_TradeError ?ee_BadFacts_TradeError ?ee_BadLetter_TradeError ?ee_Full_TradeError ?ee_BadPlace_TradeError ?ee_InvalidText_TradeError ?ee_BadPairs_BadPairs ?ee_BadFacts_BadPairs ?ee_BadFacts_BadFacts ?ee_InvalidText_InvalidText ?xn_E ?xt_E ?xg_BadLetters ?xk_BadLetters ?xh_BadLetters ?xa_BadLetters ?xm_BadLetters ?kv_BadLetters_h ?k_BadLetters_BadLetters_h ?k_BadLetters_BadPairs_h ?k_BadLetters_BadTrade_h ?k_BadLetters_BadRow_h ?k_BadLetters_BadNumber_h ?k_BadLetters_TooLong_h ?k_BadLetters_BadLength_h ?k_BadLetters_BadModulus_h ?k_BadLetters_BadFacts_h ?k_BadLetters_BadLetter_h ?k_BadLetters_Full_h ?k_BadLetters_BadPlace_h ?k_BadLetters_InvalidText_h ?xg_BadPairs ?xk_BadPairs ?xh_BadPairs ?xa_BadPairs ?xm_BadPairs ?kv_BadPairs_h ?k_BadPairs_BadLetters_h ?k_BadPairs_BadPairs_h ?k_BadPairs_BadTrade_h ?k_BadPairs_BadRow_h ?k_BadPairs_BadNumber_h ?k_BadPairs_TooLong_h ?k_BadPairs_BadLength_h ?k_BadPairs_BadModulus_h ?k_BadPairs_BadFacts_h ?k_BadPairs_BadLetter_h ?k_BadPairs_Full_h ?k_BadPairs_BadPlace_h ?k_BadPairs_InvalidText_h ?xg_BadTrade ?xk_BadTrade ?xh_BadTrade ?xa_BadTrade ?xm_BadTrade ?kv_BadTrade_h ?k_BadTrade_BadLetters_h ?k_BadTrade_BadPairs_h ?k_BadTrade_BadTrade_h ?k_BadTrade_BadRow_h ?k_BadTrade_BadNumber_h ?k_BadTrade_TooLong_h ?k_BadTrade_BadLength_h ?k_BadTrade_BadModulus_h ?k_BadTrade_BadFacts_h ?k_BadTrade_BadLetter_h ?k_BadTrade_Full_h ?k_BadTrade_BadPlace_h ?k_BadTrade_InvalidText_h ?xg_BadRow ?xk_BadRow ?xh_BadRow ?xa_BadRow ?xm_BadRow ?kv_BadRow_h ?k_BadRow_BadLetters_h ?k_BadRow_BadPairs_h ?k_BadRow_BadTrade_h ?k_BadRow_BadRow_h ?k_BadRow_BadNumber_h ?k_BadRow_TooLong_h ?k_BadRow_BadLength_h ?k_BadRow_BadModulus_h ?k_BadRow_BadFacts_h ?k_BadRow_BadLetter_h ?k_BadRow_Full_h ?k_BadRow_BadPlace_h ?k_BadRow_InvalidText_h ?xg_BadNumber ?xk_BadNumber ?xh_BadNumber ?xa_BadNumber ?xm_BadNumber ?kv_BadNumber_h ?k_BadNumber_BadLetters_h ?k_BadNumber_BadPairs_h ?k_BadNumber_BadTrade_h ?k_BadNumber_BadRow_h ?k_BadNumber_BadNumber_h ?k_BadNumber_TooLong_h ?k_BadNumber_BadLength_h ?k_BadNumber_BadModulus_h ?k_BadNumber_BadFacts_h ?k_BadNumber_BadLetter_h ?k_BadNumber_Full_h ?k_BadNumber_BadPlace_h ?k_BadNumber_InvalidText_h ?xg_TooLong ?xk_TooLong ?xh_TooLong ?xa_TooLong ?xm_TooLong ?kv_TooLong_h ?k_TooLong_BadLetters_h ?k_TooLong_BadPairs_h ?k_TooLong_BadTrade_h ?k_TooLong_BadRow_h ?k_TooLong_BadNumber_h ?k_TooLong_TooLong_h ?k_TooLong_BadLength_h ?k_TooLong_BadModulus_h ?k_TooLong_BadFacts_h ?k_TooLong_BadLetter_h ?k_TooLong_Full_h ?k_TooLong_BadPlace_h ?k_TooLong_InvalidText_h ?xg_BadLength ?xk_BadLength ?xh_BadLength ?xa_BadLength ?xm_BadLength ?kv_BadLength_h ?k_BadLength_BadLetters_h ?k_BadLength_BadPairs_h ?k_BadLength_BadTrade_h ?k_BadLength_BadRow_h ?k_BadLength_BadNumber_h ?k_BadLength_TooLong_h ?k_BadLength_BadLength_h ?k_BadLength_BadModulus_h ?k_BadLength_BadFacts_h ?k_BadLength_BadLetter_h ?k_BadLength_Full_h ?k_BadLength_BadPlace_h ?k_BadLength_InvalidText_h ?xg_BadModulus ?xk_BadModulus ?xh_BadModulus ?xa_BadModulus ?xm_BadModulus ?kv_BadModulus_h ?k_BadModulus_BadLetters_h ?k_BadModulus_BadPairs_h ?k_BadModulus_BadTrade_h ?k_BadModulus_BadRow_h ?k_BadModulus_BadNumber_h ?k_BadModulus_TooLong_h ?k_BadModulus_BadLength_h ?k_BadModulus_BadModulus_h ?k_BadModulus_BadFacts_h ?k_BadModulus_BadLetter_h ?k_BadModulus_Full_h ?k_BadModulus_BadPlace_h ?k_BadModulus_InvalidText_h ?xg_BadFacts ?xk_BadFacts ?xh_BadFacts ?xa_BadFacts ?xm_BadFacts ?kv_BadFacts_h ?k_BadFacts_BadLetters_h ?k_BadFacts_BadPairs_h ?k_BadFacts_BadTrade_h ?k_BadFacts_BadRow_h ?k_BadFacts_BadNumber_h ?k_BadFacts_TooLong_h ?k_BadFacts_BadLength_h ?k_BadFacts_BadModulus_h ?k_BadFacts_BadFacts_h ?k_BadFacts_BadLetter_h ?k_BadFacts_Full_h ?k_BadFacts_BadPlace_h ?k_BadFacts_InvalidText_h ?xg_BadLetter ?xk_BadLetter ?xh_BadLetter ?xa_BadLetter ?xm_BadLetter ?kv_BadLetter_h ?k_BadLetter_BadLetters_h ?k_BadLetter_BadPairs_h ?k_BadLetter_BadTrade_h ?k_BadLetter_BadRow_h ?k_BadLetter_BadNumber_h ?k_BadLetter_TooLong_h ?k_BadLetter_BadLength_h ?k_BadLetter_BadModulus_h ?k_BadLetter_BadFacts_h ?k_BadLetter_BadLetter_h ?k_BadLetter_Full_h ?k_BadLetter_BadPlace_h ?k_BadLetter_InvalidText_h ?xg_Full ?xk_Full ?xh_Full ?xa_Full ?xm_Full ?kv_Full_h ?k_Full_BadLetters_h ?k_Full_BadPairs_h ?k_Full_BadTrade_h ?k_Full_BadRow_h ?k_Full_BadNumber_h ?k_Full_TooLong_h ?k_Full_BadLength_h ?k_Full_BadModulus_h ?k_Full_BadFacts_h ?k_Full_BadLetter_h ?k_Full_Full_h ?k_Full_BadPlace_h ?k_Full_InvalidText_h ?xg_BadPlace ?xk_BadPlace ?xh_BadPlace ?xa_BadPlace ?xm_BadPlace ?kv_BadPlace_h ?k_BadPlace_BadLetters_h ?k_BadPlace_BadPairs_h ?k_BadPlace_BadTrade_h ?k_BadPlace_BadRow_h ?k_BadPlace_BadNumber_h ?k_BadPlace_TooLong_h ?k_BadPlace_BadLength_h ?k_BadPlace_BadModulus_h ?k_BadPlace_BadFacts_h ?k_BadPlace_BadLetter_h ?k_BadPlace_Full_h ?k_BadPlace_BadPlace_h ?k_BadPlace_InvalidText_h ?xg_InvalidText ?xk_InvalidText ?xh_InvalidText ?xa_InvalidText ?xm_InvalidText ?kv_InvalidText_h ?k_InvalidText_BadLetters_h ?k_InvalidText_BadPairs_h ?k_InvalidText_BadTrade_h ?k_InvalidText_BadRow_h ?k_InvalidText_BadNumber_h ?k_InvalidText_TooLong_h ?k_InvalidText_BadLength_h ?k_InvalidText_BadModulus_h ?k_InvalidText_BadFacts_h ?k_InvalidText_BadLetter_h ?k_InvalidText_Full_h ?k_InvalidText_BadPlace_h ?k_InvalidText_InvalidText_h ?xp_InvalidText ?xp_BadPairs ?xp_BadFacts ?kn_NoneType ?kn_bool ?kn_int ?kn_str ?kn_list ?z_ValueError ?z_all ?z_bool ?z_enumerate ?z_int ?z_isinstance ?z_len ?z_list ?z_max ?z_min ?z_range ?z_sorted ?z_tuple ?v_MOST_LETTERS ?v_MOST_IN_ROW ?v_MOST_TO_TURN ?v_MOST_LENGTH ?v_MOST_LETTERS_KNOWN ?v_MOST_FACTS ?v_ALIKE ?v_UNLIKE ?v_LETTERS ?v_OPENING ?v_CLOSING ?v_MOST_LENGTH_BY ?v_MOST_MODULUS ?pg ?hd ?po ?sa ?mk ?kc ?nl ?np ?ha ?hn ?htk ?hm ?me ?nt ?nf ?pg_Line ?hd_Line ?po_Line ?sa_Line ?mk_Line ?kc_Line ?no_trade ?no_rows
    (case aC_TradeError => k_is)
    (case aC_BadLetters => k_is)
    (case aC_BadPairs => k_is)
    (case aC_BadTrade => k_is)
    (case aC_BadRow => k_is)
    (case aC_BadNumber => k_is)
    (case aC_TooLong => k_is)
    (case aC_BadLength => k_is)
    (case aC_BadModulus => k_is)
    (case aC_BadFacts => k_is)
    (case aC_BadLetter => k_is)
    (case aC_Full => k_is)
    (case aC_BadPlace => k_is)
    (case aC_InvalidText => k_is)
    (case aC_Line => k_is)
    (case aC => k_is)
    (case a_TradeError___init__ => k_is)
    (case ti_TradeError___init__ => k_is)
    (case l_TradeError___init__ => k_is)
    (case c_TradeError___init__ => k_is)
    (case k_TradeError___init__ => k_is)
    (case a_BadPairs___init__ => k_is)
    (case ti_BadPairs___init__ => k_is)
    (case l_BadPairs___init__ => k_is)
    (case c_BadPairs___init__ => k_is)
    (case k_BadPairs___init__ => k_is)
    (case a_BadFacts___init__ => k_is)
    (case ti_BadFacts___init__ => k_is)
    (case l_BadFacts___init__ => k_is)
    (case c_BadFacts___init__ => k_is)
    (case k_BadFacts___init__ => k_is)
    (case a_InvalidText___init__ => k_is)
    (case ti_InvalidText___init__ => k_is)
    (case l_InvalidText___init__ => k_is)
    (case c_InvalidText___init__ => k_is)
    (case k_InvalidText___init__ => k_is)
    (case a_is_whole => k_is)
    (case l_is_whole => k_is)
    (case c_is_whole => k_is)
    (case k_is_whole => k_is)
    (case a_is_letter => k_is)
    (case l_is_letter => k_is)
    (case c_is_letter => k_is)
    (case k_is_letter => k_is)
    (case a_is_pair => k_is)
    (case l_is_pair => k_is)
    (case c_is_pair => k_is)
    (case k_is_pair => k_is)
    (case a_check_pairs => k_is)
    (case l_check_pairs => k_is)
    (case c_check_pairs => k_is)
    (case k_check_pairs => k_is)
    (case a_Trade___init__ => k_is)
    (case i_Trade___init__ => k_is)
    (case l_Trade___init__ => k_is)
    (case c_Trade___init__ => k_is)
    (case k_Trade___init__ => k_is)
    (case a_Trade_letters => k_is)
    (case g_Trade_letters => k_is)
    (case t_Trade_letters => k_is)
    (case r_Trade_letters => k_is)
    (case l_Trade_letters => k_is)
    (case c_Trade_letters => k_is)
    (case k_Trade_letters => k_is)
    (case a_Trade_pairs => k_is)
    (case g_Trade_pairs => k_is)
    (case t_Trade_pairs => k_is)
    (case r_Trade_pairs => k_is)
    (case l_Trade_pairs => k_is)
    (case c_Trade_pairs => k_is)
    (case k_Trade_pairs => k_is)
    (case a_Trade___eq__ => k_is)
    (case i_Trade___eq__ => k_is)
    (case l_Trade___eq__ => k_is)
    (case c_Trade___eq__ => k_is)
    (case k_Trade___eq__ => k_is)
    (case a_check_trade => k_is)
    (case l_check_trade => k_is)
    (case c_check_trade => k_is)
    (case k_check_trade => k_is)
    (case a_may_change => k_is)
    (case l_may_change => k_is)
    (case c_may_change => k_is)
    (case k_may_change => k_is)
    (case a_bars_of => k_is)
    (case l_bars_of => k_is)
    (case c_bars_of => k_is)
    (case k_bars_of => k_is)
    (case a_all_may_change => k_is)
    (case l_all_may_change => k_is)
    (case c_all_may_change => k_is)
    (case k_all_may_change => k_is)
    (case a_is_row => k_is)
    (case l_is_row => k_is)
    (case c_is_row => k_is)
    (case k_is_row => k_is)
    (case a_check_row => k_is)
    (case l_check_row => k_is)
    (case c_check_row => k_is)
    (case k_check_row => k_is)
    (case a_find_bar => k_is)
    (case l_find_bar => k_is)
    (case c_find_bar => k_is)
    (case k_find_bar => k_is)
    (case a_only => k_is)
    (case l_only => k_is)
    (case c_only => k_is)
    (case k_only => k_is)
    (case a_first_unlike => k_is)
    (case l_first_unlike => k_is)
    (case c_first_unlike => k_is)
    (case k_first_unlike => k_is)
    (case a_least => k_is)
    (case l_least => k_is)
    (case c_least => k_is)
    (case k_least => k_is)
    (case a_first_letters => k_is)
    (case l_first_letters => k_is)
    (case c_first_letters => k_is)
    (case k_first_letters => k_is)
    (case a_without => k_is)
    (case l_without => k_is)
    (case c_without => k_is)
    (case k_without => k_is)
    (case a_least_of => k_is)
    (case l_least_of => k_is)
    (case c_least_of => k_is)
    (case k_least_of => k_is)
    (case a_count_alike => k_is)
    (case l_count_alike => k_is)
    (case c_count_alike => k_is)
    (case k_count_alike => k_is)
    (case a_numbered => k_is)
    (case l_numbered => k_is)
    (case c_numbered => k_is)
    (case k_numbered => k_is)
    (case a_pick => k_is)
    (case l_pick => k_is)
    (case c_pick => k_is)
    (case k_pick => k_is)
    (case a_turned => k_is)
    (case l_turned => k_is)
    (case c_turned => k_is)
    (case k_turned => k_is)
    (case a_check_turning => k_is)
    (case l_check_turning => k_is)
    (case c_check_turning => k_is)
    (case k_check_turning => k_is)
    (case a_all_turned => k_is)
    (case l_all_turned => k_is)
    (case c_all_turned => k_is)
    (case k_all_turned => k_is)
    (case a_all_groups => k_is)
    (case l_all_groups => k_is)
    (case c_all_groups => k_is)
    (case k_all_groups => k_is)
    (case a_may_join => k_is)
    (case l_may_join => k_is)
    (case c_may_join => k_is)
    (case k_may_join => k_is)
    (case a_signed_counts => k_is)
    (case l_signed_counts => k_is)
    (case c_signed_counts => k_is)
    (case k_signed_counts => k_is)
    (case a_sign => k_is)
    (case l_sign => k_is)
    (case c_sign => k_is)
    (case k_sign => k_is)
    (case a_how_many => k_is)
    (case l_how_many => k_is)
    (case c_how_many => k_is)
    (case k_how_many => k_is)
    (case a_how_many_by => k_is)
    (case l_how_many_by => k_is)
    (case c_how_many_by => k_is)
    (case k_how_many_by => k_is)
    (case a_term_by => k_is)
    (case l_term_by => k_is)
    (case c_term_by => k_is)
    (case k_term_by => k_is)
    (case a_change_signs => k_is)
    (case l_change_signs => k_is)
    (case c_change_signs => k_is)
    (case k_change_signs => k_is)
    (case a_multiply => k_is)
    (case l_multiply => k_is)
    (case c_multiply => k_is)
    (case k_multiply => k_is)
    (case a_trades_by => k_is)
    (case l_trades_by => k_is)
    (case c_trades_by => k_is)
    (case k_trades_by => k_is)
    (case a_check_facts => k_is)
    (case l_check_facts => k_is)
    (case c_check_facts => k_is)
    (case k_check_facts => k_is)
    (case a_is_fact => k_is)
    (case l_is_fact => k_is)
    (case c_is_fact => k_is)
    (case k_is_fact => k_is)
    (case a_choices_of_pairs => k_is)
    (case l_choices_of_pairs => k_is)
    (case c_choices_of_pairs => k_is)
    (case k_choices_of_pairs => k_is)
    (case a_all_hold => k_is)
    (case l_all_hold => k_is)
    (case c_all_hold => k_is)
    (case k_all_hold => k_is)
    (case a_holds => k_is)
    (case l_holds => k_is)
    (case c_holds => k_is)
    (case k_holds => k_is)
    (case a_Line___init__ => k_is)
    (case i_Line___init__ => k_is)
    (case l_Line___init__ => k_is)
    (case c_Line___init__ => k_is)
    (case k_Line___init__ => k_is)
    (case a_Line_row => k_is)
    (case g_Line_row => k_is)
    (case t_Line_row => k_is)
    (case r_Line_row => k_is)
    (case l_Line_row => k_is)
    (case c_Line_row => k_is)
    (case k_Line_row => k_is)
    (case a_Line_least => k_is)
    (case g_Line_least => k_is)
    (case t_Line_least => k_is)
    (case r_Line_least => k_is)
    (case l_Line_least => k_is)
    (case c_Line_least => k_is)
    (case k_Line_least => k_is)
    (case a_Line_add => k_is)
    (case i_Line_add => k_is)
    (case l_Line_add => k_is)
    (case c_Line_add => k_is)
    (case k_Line_add => k_is)
    (case a_Line_swap => k_is)
    (case i_Line_swap => k_is)
    (case l_Line_swap => k_is)
    (case c_Line_swap => k_is)
    (case k_Line_swap => k_is)
    (case a_Line___len__ => k_is)
    (case i_Line___len__ => k_is)
    (case ti_Line___len__ => k_is)
    (case l_Line___len__ => k_is)
    (case c_Line___len__ => k_is)
    (case k_Line___len__ => k_is)
    (case a_is_change => k_is)
    (case l_is_change => k_is)
    (case c_is_change => k_is)
    (case k_is_change => k_is)
    (case a_read_row => k_is)
    (case l_read_row => k_is)
    (case c_read_row => k_is)
    (case k_read_row => k_is)
    (case a_read_letters => k_is)
    (case l_read_letters => k_is)
    (case c_read_letters => k_is)
    (case k_read_letters => k_is)
    (case a_can_stand => k_is)
    (case l_can_stand => k_is)
    (case c_can_stand => k_is)
    (case k_can_stand => k_is)
    (case a__law_mix => k_is)
    (case l__law_mix => k_is)
    (case c__law_mix => k_is)
    (case k__law_mix => k_is)
    (case a__law_next => k_is)
    (case l__law_next => k_is)
    (case c__law_next => k_is)
    (case k__law_next => k_is)
    (case a__law_which => k_is)
    (case l__law_which => k_is)
    (case c__law_which => k_is)
    (case k__law_which => k_is)
    (case a__law_early => k_is)
    (case l__law_early => k_is)
    (case c__law_early => k_is)
    (case k__law_early => k_is)
    (case a__law_do => k_is)
    (case l__law_do => k_is)
    (case c__law_do => k_is)
    (case k__law_do => k_is)
    (case a_law => k_is)
    (case l_law => k_is)
    (case c_law => k_is)
    (case k_law => k_is)
    (case xL_BadLetters => k_is)
    (case sa_BadLetters => k_is)
    (case ex_BadLetters => k_is)
    (case ty_BadLetters => k_is)
    (case kp_BadLetters => k_is)
    (case ii_BadLetters => k_is)
    (case xL_BadPairs => k_is)
    (case sa_BadPairs => k_is)
    (case ex_BadPairs => k_is)
    (case ty_BadPairs => k_is)
    (case kp_BadPairs => k_is)
    (case ii_BadPairs => k_is)
    (case xL_BadTrade => k_is)
    (case sa_BadTrade => k_is)
    (case ex_BadTrade => k_is)
    (case ty_BadTrade => k_is)
    (case kp_BadTrade => k_is)
    (case ii_BadTrade => k_is)
    (case xL_BadRow => k_is)
    (case sa_BadRow => k_is)
    (case ex_BadRow => k_is)
    (case ty_BadRow => k_is)
    (case kp_BadRow => k_is)
    (case ii_BadRow => k_is)
    (case xL_BadNumber => k_is)
    (case sa_BadNumber => k_is)
    (case ex_BadNumber => k_is)
    (case ty_BadNumber => k_is)
    (case kp_BadNumber => k_is)
    (case ii_BadNumber => k_is)
    (case xL_TooLong => k_is)
    (case sa_TooLong => k_is)
    (case ex_TooLong => k_is)
    (case ty_TooLong => k_is)
    (case kp_TooLong => k_is)
    (case ii_TooLong => k_is)
    (case xL_BadLength => k_is)
    (case sa_BadLength => k_is)
    (case ex_BadLength => k_is)
    (case ty_BadLength => k_is)
    (case kp_BadLength => k_is)
    (case ii_BadLength => k_is)
    (case xL_BadModulus => k_is)
    (case sa_BadModulus => k_is)
    (case ex_BadModulus => k_is)
    (case ty_BadModulus => k_is)
    (case kp_BadModulus => k_is)
    (case ii_BadModulus => k_is)
    (case xL_BadFacts => k_is)
    (case sa_BadFacts => k_is)
    (case ex_BadFacts => k_is)
    (case ty_BadFacts => k_is)
    (case kp_BadFacts => k_is)
    (case ii_BadFacts => k_is)
    (case xL_BadLetter => k_is)
    (case sa_BadLetter => k_is)
    (case ex_BadLetter => k_is)
    (case ty_BadLetter => k_is)
    (case kp_BadLetter => k_is)
    (case ii_BadLetter => k_is)
    (case xL_Full => k_is)
    (case sa_Full => k_is)
    (case ex_Full => k_is)
    (case ty_Full => k_is)
    (case kp_Full => k_is)
    (case ii_Full => k_is)
    (case xL_BadPlace => k_is)
    (case sa_BadPlace => k_is)
    (case ex_BadPlace => k_is)
    (case ty_BadPlace => k_is)
    (case kp_BadPlace => k_is)
    (case ii_BadPlace => k_is)
    (case xL_InvalidText => k_is)
    (case sa_InvalidText => k_is)
    (case ex_InvalidText => k_is)
    (case ty_InvalidText => k_is)
    (case kp_InvalidText => k_is)
    (case ii_InvalidText => k_is)
    (case ee_BadLetters_TradeError => first | rfl | k_is)
    (case ee_BadPairs_TradeError => first | rfl | k_is)
    (case ee_BadTrade_TradeError => first | rfl | k_is)
    (case ee_BadRow_TradeError => first | rfl | k_is)
    (case ee_BadNumber_TradeError => first | rfl | k_is)
    (case ee_TooLong_TradeError => first | rfl | k_is)
    (case ee_BadLength_TradeError => first | rfl | k_is)
    (case ee_BadModulus_TradeError => first | rfl | k_is)
    (case ee_BadFacts_TradeError => first | rfl | k_is)
    (case ee_BadLetter_TradeError => first | rfl | k_is)
    (case ee_Full_TradeError => first | rfl | k_is)
    (case ee_BadPlace_TradeError => first | rfl | k_is)
    (case ee_InvalidText_TradeError => first | rfl | k_is)
    (case ee_BadPairs_BadPairs => first | rfl | k_is)
    (case ee_BadFacts_BadPairs => first | rfl | k_is)
    (case ee_BadFacts_BadFacts => first | rfl | k_is)
    (case ee_InvalidText_InvalidText => first | rfl | k_is)
    (case xn_E => first | k_is | rfl | decide +kernel)
    (case xt_E => first | k_is | rfl | decide +kernel)
    (case xg_BadLetters => first | k_is | rfl | decide +kernel)
    (case xk_BadLetters => first | k_is | rfl | decide +kernel)
    (case xh_BadLetters => first | k_is | rfl | decide +kernel)
    (case xa_BadLetters => first | k_is | rfl | decide +kernel)
    (case xm_BadLetters => first | k_is | rfl | decide +kernel)
    (case kv_BadLetters_h => first | k_is | rfl | decide +kernel)
    (case k_BadLetters_BadLetters_h => first | k_is | rfl | decide +kernel)
    (case k_BadLetters_BadPairs_h => first | k_is | rfl | decide +kernel)
    (case k_BadLetters_BadTrade_h => first | k_is | rfl | decide +kernel)
    (case k_BadLetters_BadRow_h => first | k_is | rfl | decide +kernel)
    (case k_BadLetters_BadNumber_h => first | k_is | rfl | decide +kernel)
    (case k_BadLetters_TooLong_h => first | k_is | rfl | decide +kernel)
    (case k_BadLetters_BadLength_h => first | k_is | rfl | decide +kernel)
    (case k_BadLetters_BadModulus_h => first | k_is | rfl | decide +kernel)
    (case k_BadLetters_BadFacts_h => first | k_is | rfl | decide +kernel)
    (case k_BadLetters_BadLetter_h => first | k_is | rfl | decide +kernel)
    (case k_BadLetters_Full_h => first | k_is | rfl | decide +kernel)
    (case k_BadLetters_BadPlace_h => first | k_is | rfl | decide +kernel)
    (case k_BadLetters_InvalidText_h => first | k_is | rfl | decide +kernel)
    (case xg_BadPairs => first | k_is | rfl | decide +kernel)
    (case xk_BadPairs => first | k_is | rfl | decide +kernel)
    (case xh_BadPairs => first | k_is | rfl | decide +kernel)
    (case xa_BadPairs => first | k_is | rfl | decide +kernel)
    (case xm_BadPairs => first | k_is | rfl | decide +kernel)
    (case kv_BadPairs_h => first | k_is | rfl | decide +kernel)
    (case k_BadPairs_BadLetters_h => first | k_is | rfl | decide +kernel)
    (case k_BadPairs_BadPairs_h => first | k_is | rfl | decide +kernel)
    (case k_BadPairs_BadTrade_h => first | k_is | rfl | decide +kernel)
    (case k_BadPairs_BadRow_h => first | k_is | rfl | decide +kernel)
    (case k_BadPairs_BadNumber_h => first | k_is | rfl | decide +kernel)
    (case k_BadPairs_TooLong_h => first | k_is | rfl | decide +kernel)
    (case k_BadPairs_BadLength_h => first | k_is | rfl | decide +kernel)
    (case k_BadPairs_BadModulus_h => first | k_is | rfl | decide +kernel)
    (case k_BadPairs_BadFacts_h => first | k_is | rfl | decide +kernel)
    (case k_BadPairs_BadLetter_h => first | k_is | rfl | decide +kernel)
    (case k_BadPairs_Full_h => first | k_is | rfl | decide +kernel)
    (case k_BadPairs_BadPlace_h => first | k_is | rfl | decide +kernel)
    (case k_BadPairs_InvalidText_h => first | k_is | rfl | decide +kernel)
    (case xg_BadTrade => first | k_is | rfl | decide +kernel)
    (case xk_BadTrade => first | k_is | rfl | decide +kernel)
    (case xh_BadTrade => first | k_is | rfl | decide +kernel)
    (case xa_BadTrade => first | k_is | rfl | decide +kernel)
    (case xm_BadTrade => first | k_is | rfl | decide +kernel)
    (case kv_BadTrade_h => first | k_is | rfl | decide +kernel)
    (case k_BadTrade_BadLetters_h => first | k_is | rfl | decide +kernel)
    (case k_BadTrade_BadPairs_h => first | k_is | rfl | decide +kernel)
    (case k_BadTrade_BadTrade_h => first | k_is | rfl | decide +kernel)
    (case k_BadTrade_BadRow_h => first | k_is | rfl | decide +kernel)
    (case k_BadTrade_BadNumber_h => first | k_is | rfl | decide +kernel)
    (case k_BadTrade_TooLong_h => first | k_is | rfl | decide +kernel)
    (case k_BadTrade_BadLength_h => first | k_is | rfl | decide +kernel)
    (case k_BadTrade_BadModulus_h => first | k_is | rfl | decide +kernel)
    (case k_BadTrade_BadFacts_h => first | k_is | rfl | decide +kernel)
    (case k_BadTrade_BadLetter_h => first | k_is | rfl | decide +kernel)
    (case k_BadTrade_Full_h => first | k_is | rfl | decide +kernel)
    (case k_BadTrade_BadPlace_h => first | k_is | rfl | decide +kernel)
    (case k_BadTrade_InvalidText_h => first | k_is | rfl | decide +kernel)
    (case xg_BadRow => first | k_is | rfl | decide +kernel)
    (case xk_BadRow => first | k_is | rfl | decide +kernel)
    (case xh_BadRow => first | k_is | rfl | decide +kernel)
    (case xa_BadRow => first | k_is | rfl | decide +kernel)
    (case xm_BadRow => first | k_is | rfl | decide +kernel)
    (case kv_BadRow_h => first | k_is | rfl | decide +kernel)
    (case k_BadRow_BadLetters_h => first | k_is | rfl | decide +kernel)
    (case k_BadRow_BadPairs_h => first | k_is | rfl | decide +kernel)
    (case k_BadRow_BadTrade_h => first | k_is | rfl | decide +kernel)
    (case k_BadRow_BadRow_h => first | k_is | rfl | decide +kernel)
    (case k_BadRow_BadNumber_h => first | k_is | rfl | decide +kernel)
    (case k_BadRow_TooLong_h => first | k_is | rfl | decide +kernel)
    (case k_BadRow_BadLength_h => first | k_is | rfl | decide +kernel)
    (case k_BadRow_BadModulus_h => first | k_is | rfl | decide +kernel)
    (case k_BadRow_BadFacts_h => first | k_is | rfl | decide +kernel)
    (case k_BadRow_BadLetter_h => first | k_is | rfl | decide +kernel)
    (case k_BadRow_Full_h => first | k_is | rfl | decide +kernel)
    (case k_BadRow_BadPlace_h => first | k_is | rfl | decide +kernel)
    (case k_BadRow_InvalidText_h => first | k_is | rfl | decide +kernel)
    (case xg_BadNumber => first | k_is | rfl | decide +kernel)
    (case xk_BadNumber => first | k_is | rfl | decide +kernel)
    (case xh_BadNumber => first | k_is | rfl | decide +kernel)
    (case xa_BadNumber => first | k_is | rfl | decide +kernel)
    (case xm_BadNumber => first | k_is | rfl | decide +kernel)
    (case kv_BadNumber_h => first | k_is | rfl | decide +kernel)
    (case k_BadNumber_BadLetters_h => first | k_is | rfl | decide +kernel)
    (case k_BadNumber_BadPairs_h => first | k_is | rfl | decide +kernel)
    (case k_BadNumber_BadTrade_h => first | k_is | rfl | decide +kernel)
    (case k_BadNumber_BadRow_h => first | k_is | rfl | decide +kernel)
    (case k_BadNumber_BadNumber_h => first | k_is | rfl | decide +kernel)
    (case k_BadNumber_TooLong_h => first | k_is | rfl | decide +kernel)
    (case k_BadNumber_BadLength_h => first | k_is | rfl | decide +kernel)
    (case k_BadNumber_BadModulus_h => first | k_is | rfl | decide +kernel)
    (case k_BadNumber_BadFacts_h => first | k_is | rfl | decide +kernel)
    (case k_BadNumber_BadLetter_h => first | k_is | rfl | decide +kernel)
    (case k_BadNumber_Full_h => first | k_is | rfl | decide +kernel)
    (case k_BadNumber_BadPlace_h => first | k_is | rfl | decide +kernel)
    (case k_BadNumber_InvalidText_h => first | k_is | rfl | decide +kernel)
    (case xg_TooLong => first | k_is | rfl | decide +kernel)
    (case xk_TooLong => first | k_is | rfl | decide +kernel)
    (case xh_TooLong => first | k_is | rfl | decide +kernel)
    (case xa_TooLong => first | k_is | rfl | decide +kernel)
    (case xm_TooLong => first | k_is | rfl | decide +kernel)
    (case kv_TooLong_h => first | k_is | rfl | decide +kernel)
    (case k_TooLong_BadLetters_h => first | k_is | rfl | decide +kernel)
    (case k_TooLong_BadPairs_h => first | k_is | rfl | decide +kernel)
    (case k_TooLong_BadTrade_h => first | k_is | rfl | decide +kernel)
    (case k_TooLong_BadRow_h => first | k_is | rfl | decide +kernel)
    (case k_TooLong_BadNumber_h => first | k_is | rfl | decide +kernel)
    (case k_TooLong_TooLong_h => first | k_is | rfl | decide +kernel)
    (case k_TooLong_BadLength_h => first | k_is | rfl | decide +kernel)
    (case k_TooLong_BadModulus_h => first | k_is | rfl | decide +kernel)
    (case k_TooLong_BadFacts_h => first | k_is | rfl | decide +kernel)
    (case k_TooLong_BadLetter_h => first | k_is | rfl | decide +kernel)
    (case k_TooLong_Full_h => first | k_is | rfl | decide +kernel)
    (case k_TooLong_BadPlace_h => first | k_is | rfl | decide +kernel)
    (case k_TooLong_InvalidText_h => first | k_is | rfl | decide +kernel)
    (case xg_BadLength => first | k_is | rfl | decide +kernel)
    (case xk_BadLength => first | k_is | rfl | decide +kernel)
    (case xh_BadLength => first | k_is | rfl | decide +kernel)
    (case xa_BadLength => first | k_is | rfl | decide +kernel)
    (case xm_BadLength => first | k_is | rfl | decide +kernel)
    (case kv_BadLength_h => first | k_is | rfl | decide +kernel)
    (case k_BadLength_BadLetters_h => first | k_is | rfl | decide +kernel)
    (case k_BadLength_BadPairs_h => first | k_is | rfl | decide +kernel)
    (case k_BadLength_BadTrade_h => first | k_is | rfl | decide +kernel)
    (case k_BadLength_BadRow_h => first | k_is | rfl | decide +kernel)
    (case k_BadLength_BadNumber_h => first | k_is | rfl | decide +kernel)
    (case k_BadLength_TooLong_h => first | k_is | rfl | decide +kernel)
    (case k_BadLength_BadLength_h => first | k_is | rfl | decide +kernel)
    (case k_BadLength_BadModulus_h => first | k_is | rfl | decide +kernel)
    (case k_BadLength_BadFacts_h => first | k_is | rfl | decide +kernel)
    (case k_BadLength_BadLetter_h => first | k_is | rfl | decide +kernel)
    (case k_BadLength_Full_h => first | k_is | rfl | decide +kernel)
    (case k_BadLength_BadPlace_h => first | k_is | rfl | decide +kernel)
    (case k_BadLength_InvalidText_h => first | k_is | rfl | decide +kernel)
    (case xg_BadModulus => first | k_is | rfl | decide +kernel)
    (case xk_BadModulus => first | k_is | rfl | decide +kernel)
    (case xh_BadModulus => first | k_is | rfl | decide +kernel)
    (case xa_BadModulus => first | k_is | rfl | decide +kernel)
    (case xm_BadModulus => first | k_is | rfl | decide +kernel)
    (case kv_BadModulus_h => first | k_is | rfl | decide +kernel)
    (case k_BadModulus_BadLetters_h => first | k_is | rfl | decide +kernel)
    (case k_BadModulus_BadPairs_h => first | k_is | rfl | decide +kernel)
    (case k_BadModulus_BadTrade_h => first | k_is | rfl | decide +kernel)
    (case k_BadModulus_BadRow_h => first | k_is | rfl | decide +kernel)
    (case k_BadModulus_BadNumber_h => first | k_is | rfl | decide +kernel)
    (case k_BadModulus_TooLong_h => first | k_is | rfl | decide +kernel)
    (case k_BadModulus_BadLength_h => first | k_is | rfl | decide +kernel)
    (case k_BadModulus_BadModulus_h => first | k_is | rfl | decide +kernel)
    (case k_BadModulus_BadFacts_h => first | k_is | rfl | decide +kernel)
    (case k_BadModulus_BadLetter_h => first | k_is | rfl | decide +kernel)
    (case k_BadModulus_Full_h => first | k_is | rfl | decide +kernel)
    (case k_BadModulus_BadPlace_h => first | k_is | rfl | decide +kernel)
    (case k_BadModulus_InvalidText_h => first | k_is | rfl | decide +kernel)
    (case xg_BadFacts => first | k_is | rfl | decide +kernel)
    (case xk_BadFacts => first | k_is | rfl | decide +kernel)
    (case xh_BadFacts => first | k_is | rfl | decide +kernel)
    (case xa_BadFacts => first | k_is | rfl | decide +kernel)
    (case xm_BadFacts => first | k_is | rfl | decide +kernel)
    (case kv_BadFacts_h => first | k_is | rfl | decide +kernel)
    (case k_BadFacts_BadLetters_h => first | k_is | rfl | decide +kernel)
    (case k_BadFacts_BadPairs_h => first | k_is | rfl | decide +kernel)
    (case k_BadFacts_BadTrade_h => first | k_is | rfl | decide +kernel)
    (case k_BadFacts_BadRow_h => first | k_is | rfl | decide +kernel)
    (case k_BadFacts_BadNumber_h => first | k_is | rfl | decide +kernel)
    (case k_BadFacts_TooLong_h => first | k_is | rfl | decide +kernel)
    (case k_BadFacts_BadLength_h => first | k_is | rfl | decide +kernel)
    (case k_BadFacts_BadModulus_h => first | k_is | rfl | decide +kernel)
    (case k_BadFacts_BadFacts_h => first | k_is | rfl | decide +kernel)
    (case k_BadFacts_BadLetter_h => first | k_is | rfl | decide +kernel)
    (case k_BadFacts_Full_h => first | k_is | rfl | decide +kernel)
    (case k_BadFacts_BadPlace_h => first | k_is | rfl | decide +kernel)
    (case k_BadFacts_InvalidText_h => first | k_is | rfl | decide +kernel)
    (case xg_BadLetter => first | k_is | rfl | decide +kernel)
    (case xk_BadLetter => first | k_is | rfl | decide +kernel)
    (case xh_BadLetter => first | k_is | rfl | decide +kernel)
    (case xa_BadLetter => first | k_is | rfl | decide +kernel)
    (case xm_BadLetter => first | k_is | rfl | decide +kernel)
    (case kv_BadLetter_h => first | k_is | rfl | decide +kernel)
    (case k_BadLetter_BadLetters_h => first | k_is | rfl | decide +kernel)
    (case k_BadLetter_BadPairs_h => first | k_is | rfl | decide +kernel)
    (case k_BadLetter_BadTrade_h => first | k_is | rfl | decide +kernel)
    (case k_BadLetter_BadRow_h => first | k_is | rfl | decide +kernel)
    (case k_BadLetter_BadNumber_h => first | k_is | rfl | decide +kernel)
    (case k_BadLetter_TooLong_h => first | k_is | rfl | decide +kernel)
    (case k_BadLetter_BadLength_h => first | k_is | rfl | decide +kernel)
    (case k_BadLetter_BadModulus_h => first | k_is | rfl | decide +kernel)
    (case k_BadLetter_BadFacts_h => first | k_is | rfl | decide +kernel)
    (case k_BadLetter_BadLetter_h => first | k_is | rfl | decide +kernel)
    (case k_BadLetter_Full_h => first | k_is | rfl | decide +kernel)
    (case k_BadLetter_BadPlace_h => first | k_is | rfl | decide +kernel)
    (case k_BadLetter_InvalidText_h => first | k_is | rfl | decide +kernel)
    (case xg_Full => first | k_is | rfl | decide +kernel)
    (case xk_Full => first | k_is | rfl | decide +kernel)
    (case xh_Full => first | k_is | rfl | decide +kernel)
    (case xa_Full => first | k_is | rfl | decide +kernel)
    (case xm_Full => first | k_is | rfl | decide +kernel)
    (case kv_Full_h => first | k_is | rfl | decide +kernel)
    (case k_Full_BadLetters_h => first | k_is | rfl | decide +kernel)
    (case k_Full_BadPairs_h => first | k_is | rfl | decide +kernel)
    (case k_Full_BadTrade_h => first | k_is | rfl | decide +kernel)
    (case k_Full_BadRow_h => first | k_is | rfl | decide +kernel)
    (case k_Full_BadNumber_h => first | k_is | rfl | decide +kernel)
    (case k_Full_TooLong_h => first | k_is | rfl | decide +kernel)
    (case k_Full_BadLength_h => first | k_is | rfl | decide +kernel)
    (case k_Full_BadModulus_h => first | k_is | rfl | decide +kernel)
    (case k_Full_BadFacts_h => first | k_is | rfl | decide +kernel)
    (case k_Full_BadLetter_h => first | k_is | rfl | decide +kernel)
    (case k_Full_Full_h => first | k_is | rfl | decide +kernel)
    (case k_Full_BadPlace_h => first | k_is | rfl | decide +kernel)
    (case k_Full_InvalidText_h => first | k_is | rfl | decide +kernel)
    (case xg_BadPlace => first | k_is | rfl | decide +kernel)
    (case xk_BadPlace => first | k_is | rfl | decide +kernel)
    (case xh_BadPlace => first | k_is | rfl | decide +kernel)
    (case xa_BadPlace => first | k_is | rfl | decide +kernel)
    (case xm_BadPlace => first | k_is | rfl | decide +kernel)
    (case kv_BadPlace_h => first | k_is | rfl | decide +kernel)
    (case k_BadPlace_BadLetters_h => first | k_is | rfl | decide +kernel)
    (case k_BadPlace_BadPairs_h => first | k_is | rfl | decide +kernel)
    (case k_BadPlace_BadTrade_h => first | k_is | rfl | decide +kernel)
    (case k_BadPlace_BadRow_h => first | k_is | rfl | decide +kernel)
    (case k_BadPlace_BadNumber_h => first | k_is | rfl | decide +kernel)
    (case k_BadPlace_TooLong_h => first | k_is | rfl | decide +kernel)
    (case k_BadPlace_BadLength_h => first | k_is | rfl | decide +kernel)
    (case k_BadPlace_BadModulus_h => first | k_is | rfl | decide +kernel)
    (case k_BadPlace_BadFacts_h => first | k_is | rfl | decide +kernel)
    (case k_BadPlace_BadLetter_h => first | k_is | rfl | decide +kernel)
    (case k_BadPlace_Full_h => first | k_is | rfl | decide +kernel)
    (case k_BadPlace_BadPlace_h => first | k_is | rfl | decide +kernel)
    (case k_BadPlace_InvalidText_h => first | k_is | rfl | decide +kernel)
    (case xg_InvalidText => first | k_is | rfl | decide +kernel)
    (case xk_InvalidText => first | k_is | rfl | decide +kernel)
    (case xh_InvalidText => first | k_is | rfl | decide +kernel)
    (case xa_InvalidText => first | k_is | rfl | decide +kernel)
    (case xm_InvalidText => first | k_is | rfl | decide +kernel)
    (case kv_InvalidText_h => first | k_is | rfl | decide +kernel)
    (case k_InvalidText_BadLetters_h => first | k_is | rfl | decide +kernel)
    (case k_InvalidText_BadPairs_h => first | k_is | rfl | decide +kernel)
    (case k_InvalidText_BadTrade_h => first | k_is | rfl | decide +kernel)
    (case k_InvalidText_BadRow_h => first | k_is | rfl | decide +kernel)
    (case k_InvalidText_BadNumber_h => first | k_is | rfl | decide +kernel)
    (case k_InvalidText_TooLong_h => first | k_is | rfl | decide +kernel)
    (case k_InvalidText_BadLength_h => first | k_is | rfl | decide +kernel)
    (case k_InvalidText_BadModulus_h => first | k_is | rfl | decide +kernel)
    (case k_InvalidText_BadFacts_h => first | k_is | rfl | decide +kernel)
    (case k_InvalidText_BadLetter_h => first | k_is | rfl | decide +kernel)
    (case k_InvalidText_Full_h => first | k_is | rfl | decide +kernel)
    (case k_InvalidText_BadPlace_h => first | k_is | rfl | decide +kernel)
    (case k_InvalidText_InvalidText_h => first | k_is | rfl | decide +kernel)
    (case xp_InvalidText => first | k_is | rfl | decide +kernel)
    (case xp_BadPairs => first | k_is | rfl | decide +kernel)
    (case xp_BadFacts => first | k_is | rfl | decide +kernel)
    (case kn_NoneType => first | k_is | rfl | decide +kernel)
    (case kn_bool => first | k_is | rfl | decide +kernel)
    (case kn_int => first | k_is | rfl | decide +kernel)
    (case kn_str => first | k_is | rfl | decide +kernel)
    (case kn_list => first | k_is | rfl | decide +kernel)
    (case z_ValueError => k_is)
    (case z_all => k_is)
    (case z_bool => k_is)
    (case z_enumerate => k_is)
    (case z_int => k_is)
    (case z_isinstance => k_is)
    (case z_len => k_is)
    (case z_list => k_is)
    (case z_max => k_is)
    (case z_min => k_is)
    (case z_range => k_is)
    (case z_sorted => k_is)
    (case z_tuple => k_is)
    (case v_MOST_LETTERS => k_is)
    (case v_MOST_IN_ROW => k_is)
    (case v_MOST_TO_TURN => k_is)
    (case v_MOST_LENGTH => k_is)
    (case v_MOST_LETTERS_KNOWN => k_is)
    (case v_MOST_FACTS => k_is)
    (case v_ALIKE => k_is)
    (case v_UNLIKE => k_is)
    (case v_LETTERS => k_is)
    (case v_OPENING => k_is)
    (case v_CLOSING => k_is)
    (case v_MOST_LENGTH_BY => k_is)
    (case v_MOST_MODULUS => k_is)
    (case pg => first | k_is | rfl | decide +kernel)
    (case hd => first | k_is | rfl | decide +kernel)
    (case po => first | k_is | rfl | decide +kernel)
    (case sa => first | k_is | rfl | decide +kernel)
    (case mk => first | k_is | rfl | decide +kernel)
    (case kc => first | k_is | rfl | decide +kernel)
    (case nl => first | k_is | rfl | decide +kernel)
    (case np => first | k_is | rfl | decide +kernel)
    (case ha => first | k_is | rfl | decide +kernel)
    (case hn => first | k_is | rfl | decide +kernel)
    (case htk => first | k_is | rfl | decide +kernel)
    (case hm => first | k_is | rfl | decide +kernel)
    (case me => first | k_is | rfl | decide +kernel)
    (case nt => first | k_is | rfl | decide +kernel)
    (case nf => first | k_is | rfl | decide +kernel)
    (case pg_Line => first | k_is | rfl | decide +kernel)
    (case hd_Line => first | k_is | rfl | decide +kernel)
    (case po_Line => first | k_is | rfl | decide +kernel)
    (case sa_Line => first | k_is | rfl | decide +kernel)
    (case mk_Line => first | k_is | rfl | decide +kernel)
    (case kc_Line => first | k_is | rfl | decide +kernel)
    (case no_trade => k_is)
    (case no_rows => k_is)
