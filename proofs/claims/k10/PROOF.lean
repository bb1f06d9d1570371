import PyProof.Rows.All
import Wide.All
import OpenK.AllK
import Wide.FinOn
import HandS.ForMost
import HandS.ForExc
import KE.KDictKeyed
import KE.KDictWalk
import KE.KDictLaw
import HandS.Lambda
import HandS.TupAny
import HandS.TupLe
import HandS.Small
import HandS.TupLen
import HandS.Deep
import HandS.Text
import HandS.WordsExc
import HandS.IsInst
import HandS.DictComp
import HandS.StrSplit
import HandS.RaiseMore
import HandS.TupMul
import KE.KExcIs
import HandS.ExcIs
import HandS.ExcField
import HandS.TryOnly
import HandS.Defaults
import HandS.HeadEnd
import HandS.HeadHook1
import HandS.HeadHook2
import KE.SortData
import PyProof.Rows.CountFlat
import HandS.FStr
import KE.GoesRaise
import HandS.ExcInit
import HandS.Set
import HandS.SetFor
import HandS.Strs
import HandS.Iter
import PyProof.Rows.RegStrFacts
import PyProof.StrLawsTight
import PyProof.Rows.StrSplitAre
import HandS.HeadHook3
import HandS.HeadHook4
import HandS.EndTab
import HandS.HeadWalk
import HandS.Head0
import HandS.Head1
import HandS.Head2
import PySem.Challenge.RW_headbook_k10_texts
set_option Elab.async false
set_option linter.all false
set_option maxRecDepth 100000
namespace DL
open PySem L2
inductive D where
  | non | bl (b : Bool) | int (i : Int) | str (x : Str) | tup (xs : List D) | ref (a : Addr) | fro (xs : List D) | lis (xs : List D)
mutual
def D.beq : D → D → Bool
  | .non, .non => true
  | .bl a, .bl b => a == b
  | .int a, .int b => decide (a = b)
  | .str a, .str b => decide (a = b)
  | .ref a, .ref b => decide (a = b)
  | .tup a, .tup b => D.beqs a b
  | .fro a, .fro b => D.beqs a b
  | .lis a, .lis b => D.beqs a b
  | _, _ => false
def D.beqs : List D → List D → Bool
  | [], [] => true
  | a :: as, b :: bs => D.beq a b && D.beqs as bs
  | _, _ => false
end
mutual
theorem D.beq_self : ∀ a : D, D.beq a a = true
  | .non => rfl
  | .bl a => by simp [D.beq]
  | .int a => by simp [D.beq]
  | .str a => by simp [D.beq]
  | .ref a => by simp [D.beq]
  | .tup a => by rw [D.beq]; exact D.beqs_self a
  | .fro a => by rw [D.beq]; exact D.beqs_self a
  | .lis a => by rw [D.beq]; exact D.beqs_self a
theorem D.beqs_self : ∀ a : List D, D.beqs a a = true
  | [] => rfl
  | a :: as => by rw [D.beqs, D.beq_self a, D.beqs_self as]; rfl
end
mutual
theorem D.eq_of_beq : ∀ a b : D, D.beq a b = true → a = b
  | .non, b, h => by cases b <;> simp_all [D.beq]
  | .bl a, b, h => by cases b <;> simp_all [D.beq]
  | .int a, b, h => by cases b <;> simp_all [D.beq]
  | .str a, b, h => by cases b <;> simp_all [D.beq]
  | .ref a, b, h => by cases b <;> simp_all [D.beq]
  | .tup a, b, h => by
    cases b with
    | tup b => rw [D.beq] at h; rw [D.eq_of_beqs a b h]
    | _ => simp [D.beq] at h
  | .fro a, b, h => by
    cases b with
    | fro b => rw [D.beq] at h; rw [D.eq_of_beqs a b h]
    | _ => simp [D.beq] at h
  | .lis a, b, h => by
    cases b with
    | lis b => rw [D.beq] at h; rw [D.eq_of_beqs a b h]
    | _ => simp [D.beq] at h
theorem D.eq_of_beqs : ∀ a b : List D, D.beqs a b = true → a = b
  | [], b, h => by cases b <;> simp_all [D.beqs]
  | x :: xs, b, h => by
    cases b with
    | nil => simp [D.beqs] at h
    | cons y ys =>
      rw [D.beqs, Bool.and_eq_true] at h
      rw [D.eq_of_beq x y h.1, D.eq_of_beqs xs ys h.2]
end
theorem D.beq_iff (a b : D) : D.beq a b = true ↔ a = b := ⟨D.eq_of_beq a b, fun e => by rw [e]; exact D.beq_self b⟩
instance : DecidableEq D := fun a b => decidable_of_iff _ (D.beq_iff a b)
instance : Inhabited D := ⟨.non⟩
def FzL (H : Hp) (a : Addr) (xs : List V) : Prop := ∃ o, H a = some (.frz o (.lst xs))
def SqF (K : PySem.W.Frag) (H : Hp) (a : Addr) (xs : List V) : Prop := (∃ o, H a = some (.frz o (.lst xs))) ∨ SqL K (fun _ => none) a xs
theorem SqF.l {K : PySem.W.Frag} {H : Hp} {a : Addr} {xs : List V} (h : SqF K H a xs) : SqL K H a xs := by
  rcases h with ⟨o, h⟩ | (h | ⟨_, h⟩) | h
  · exact .inl (.inr ⟨o, h⟩)
  · cases h
  · cases h
  · exact .inr h
mutual
def Dv (K : PySem.W.Frag) (H : Hp) : D → V → Prop
  | .non, v => v = .non
  | .bl b, v => v = .bl b
  | .int i, v => v = .int i
  | .str x, v => v = .str x
  | .ref a, v => v = .ref a
  | .tup xs, v => ∃ a vs, v = .ref a ∧ SqT K H a vs ∧ Dvs K H xs vs
  | .fro xs, v => ∃ a vs, v = .ref a ∧ SqF K H a vs ∧ Dvs K H xs vs
  | .lis xs, v => ∃ a vs, v = .ref a ∧ FzL H a vs ∧ Dvs K H xs vs
def Dvs (K : PySem.W.Frag) (H : Hp) : List D → List V → Prop
  | [], vs => vs = []
  | d :: ds, vs => ∃ v r, vs = v :: r ∧ Dv K H d v ∧ Dvs K H ds r
end
def TupP (K : PySem.W.Frag) (H H' : Hp) : Prop := (∀ a vs, SqT K H a vs → SqT K H' a vs) ∧ (∀ a vs, SqF K H a vs → SqF K H' a vs) ∧ ∀ a vs, FzL H a vs → FzL H' a vs
theorem TupP.refl {K : PySem.W.Frag} {H : Hp} : TupP K H H := ⟨fun _ _ h => h, fun _ _ h => h, fun _ _ h => h⟩
theorem TupP.trans {K : PySem.W.Frag} {H H1 H2 : Hp} (a : TupP K H H1) (b : TupP K H1 H2) : TupP K H H2 := ⟨fun c vs h => b.1 c vs (a.1 c vs h), fun c vs h => b.2.1 c vs (a.2.1 c vs h), fun c vs h => b.2.2 c vs (a.2.2 c vs h)⟩
theorem TupP.of {K : PySem.W.Frag} {H H' : Hp} (t : ∀ a xs, H a = some (.tup xs) → H' a = some (.tup xs)) (f : ∀ a o u, H a = some (.frz o u) → (∀ φ, u ≠ .ext φ) → H' a = some (.frz o u)) : TupP K H H' := by
  refine ⟨fun a vs h => ?_, fun a vs h => ?_, fun a vs ⟨o, h⟩ => ⟨o, f a o _ h fun φ z => nomatch z⟩⟩
  · rcases h with (h | ⟨u, h⟩) | h
    · exact .inl (.inl (t a _ h))
    · exact .inl (.inr ⟨u, f a u _ h fun φ z => nomatch z⟩)
    · exact .inr h
  · rcases h with ⟨u, h⟩ | h
    · exact .inl ⟨u, f a u _ h fun φ z => nomatch z⟩
    · exact .inr h
theorem TupP.laid {K : PySem.W.Frag} {H : Hp} {p : Addr} {o : HO} (n : H p = none) : TupP K H (upd H p o) := .of (fun a xs h => by rw [upd_ne (ne_of_none h n)]; exact h) fun a u x h _ => by rw [upd_ne (ne_of_none h n)]; exact h
def NoTup : HO → Prop
  | .tup _ => False
  | .frz _ _ => False
  | _ => True
theorem TupP.changed {K : PySem.W.Frag} {H : Hp} {p : Addr} {o u : HO} (e : H p = some u) (n : NoTup u) : TupP K H (upd H p o) :=
  .of (fun a xs h => by rw [upd_ne fun z => by rw [z, e] at h; cases h; exact n]; exact h) fun a x y h _ => by rw [upd_ne fun z => by rw [z, e] at h; cases h; exact n]; exact h
mutual
theorem Dv.mono {K : PySem.W.Frag} {H H' : Hp} (t : TupP K H H') : ∀ (d : D) (v : V), Dv K H d v → Dv K H' d v
  | .non, v, h => by rw [Dv] at *; exact h
  | .bl b, v, h => by rw [Dv] at *; exact h
  | .int i, v, h => by rw [Dv] at *; exact h
  | .str x, v, h => by rw [Dv] at *; exact h
  | .ref a, v, h => by rw [Dv] at *; exact h
  | .tup xs, v, h => by
    rw [Dv] at *
    obtain ⟨a, vs, e, q, r⟩ := h
    exact ⟨a, vs, e, t.1 a vs q, Dvs.mono t xs vs r⟩
  | .fro xs, v, h => by
    rw [Dv] at *
    obtain ⟨a, vs, e, q, r⟩ := h
    exact ⟨a, vs, e, t.2.1 a vs q, Dvs.mono t xs vs r⟩
  | .lis xs, v, h => by
    rw [Dv] at *
    obtain ⟨a, vs, e, q, r⟩ := h
    exact ⟨a, vs, e, t.2.2 a vs q, Dvs.mono t xs vs r⟩
theorem Dvs.mono {K : PySem.W.Frag} {H H' : Hp} (t : TupP K H H') : ∀ (ds : List D) (vs : List V), Dvs K H ds vs → Dvs K H' ds vs
  | [], vs, h => by rw [Dvs] at *; exact h
  | d :: ds, vs, h => by
    rw [Dvs] at *
    obtain ⟨v, r, e, q, z⟩ := h
    exact ⟨v, r, e, Dv.mono t d v q, Dvs.mono t ds r z⟩
end
section
variable {K : PySem.W.Frag} {H : Hp}
theorem dvs_iff : ∀ {ds : List D} {vs : List V}, Dvs K H ds vs ↔ Paired (Dv K H) ds vs
  | [], vs => by
    rw [Dvs]
    exact ⟨fun e => by rw [e]; exact .nil, fun h => by cases h; rfl⟩
  | d :: ds, vs => by
    rw [Dvs]
    constructor
    · rintro ⟨v, r, rfl, h, q⟩
      exact .cons h (dvs_iff.mp q)
    · intro h
      cases h with
      | cons a b => exact ⟨_, _, rfl, a, dvs_iff.mpr b⟩
theorem Dvs.length {ds : List D} {vs : List V} (h : Dvs K H ds vs) : ds.length = vs.length := (dvs_iff.mp h).length
theorem Dvs.nil : Dvs K H [] [] := by rw [Dvs]
theorem Dvs.cons {d : D} {v : V} {ds : List D} {vs : List V} (a : Dv K H d v) (b : Dvs K H ds vs) : Dvs K H (d :: ds) (v :: vs) := by rw [Dvs]; exact ⟨v, vs, rfl, a, b⟩
theorem Dvs.get : ∀ {ds : List D} {vs : List V} {i : Nat} {d : D}, Dvs K H ds vs → ds[i]? = some d → ∃ v, vs[i]? = some v ∧ Dv K H d v
  | [], _, _, _, _, e => by simp at e
  | d :: ds, vs, 0, x, h, e => by
    rw [Dvs] at h
    obtain ⟨v, r, rfl, a, b⟩ := h
    simp at e; subst e
    exact ⟨v, rfl, a⟩
  | d :: ds, vs, i + 1, x, h, e => by
    rw [Dvs] at h
    obtain ⟨v, r, rfl, a, b⟩ := h
    obtain ⟨u, q, z⟩ := Dvs.get (i := i) b (by simpa using e)
    exact ⟨u, by simpa using q, z⟩
theorem Dvs.append : ∀ {ds es : List D} {vs us : List V}, Dvs K H ds vs → Dvs K H es us → Dvs K H (ds ++ es) (vs ++ us)
  | [], es, vs, us, h, q => by
    rw [Dvs] at h
    subst h
    exact q
  | d :: ds, es, vs, us, h, q => by
    rw [Dvs] at h
    obtain ⟨v, r, rfl, a, b⟩ := h
    exact Dvs.cons a (Dvs.append b q)
theorem Dvs.take : ∀ {ds : List D} {vs : List V} (n : Nat), Dvs K H ds vs → Dvs K H (ds.take n) (vs.take n)
  | _, _, 0, _ => Dvs.nil
  | [], vs, n + 1, h => by
    rw [Dvs] at h
    subst h
    exact Dvs.nil
  | d :: ds, vs, n + 1, h => by
    rw [Dvs] at h
    obtain ⟨v, r, rfl, a, b⟩ := h
    exact Dvs.cons a (Dvs.take n b)
theorem Dvs.drop : ∀ {ds : List D} {vs : List V} (n : Nat), Dvs K H ds vs → Dvs K H (ds.drop n) (vs.drop n)
  | _, _, 0, h => h
  | [], vs, n + 1, h => by
    rw [Dvs] at h
    subst h
    exact Dvs.nil
  | d :: ds, vs, n + 1, h => by
    rw [Dvs] at h
    obtain ⟨v, r, rfl, a, b⟩ := h
    exact Dvs.drop n b
theorem Dvs.set {d : D} {v : V} (q : Dv K H d v) : ∀ {ds : List D} {vs : List V} (n : Nat), Dvs K H ds vs → Dvs K H (ds.set n d) (vs.set n v)
  | [], vs, n, h => by
    rw [Dvs] at h
    subst h
    exact Dvs.nil
  | x :: ds, vs, 0, h => by
    rw [Dvs] at h
    obtain ⟨u, r, rfl, a, b⟩ := h
    exact Dvs.cons q b
  | x :: ds, vs, n + 1, h => by
    rw [Dvs] at h
    obtain ⟨u, r, rfl, a, b⟩ := h
    exact Dvs.cons a (Dvs.set q n b)
theorem Dvs.erase : ∀ {ds : List D} {vs : List V} (n : Nat), Dvs K H ds vs → Dvs K H (ds.eraseIdx n) (vs.eraseIdx n)
  | [], vs, n, h => by
    rw [Dvs] at h
    subst h
    exact Dvs.nil
  | x :: ds, vs, 0, h => by
    rw [Dvs] at h
    obtain ⟨u, r, rfl, a, b⟩ := h
    exact b
  | x :: ds, vs, n + 1, h => by
    rw [Dvs] at h
    obtain ⟨u, r, rfl, a, b⟩ := h
    exact Dvs.cons a (Dvs.erase n b)
theorem dvs1 {d : D} {vs : List V} (h : Dvs K H [d] vs) : ∃ v, vs = [v] ∧ Dv K H d v := by
  rw [Dvs] at h
  obtain ⟨v, r, rfl, a, b⟩ := h
  rw [Dvs] at b
  subst b
  exact ⟨v, rfl, a⟩
theorem dvs2 {d e : D} {vs : List V} (h : Dvs K H [d, e] vs) : ∃ v u, vs = [v, u] ∧ Dv K H d v ∧ Dv K H e u := by
  rw [Dvs] at h
  obtain ⟨v, r, rfl, a, b⟩ := h
  obtain ⟨u, rfl, c⟩ := dvs1 b
  exact ⟨v, u, rfl, a, c⟩
theorem dv_int {i : Int} {v : V} : Dv K H (.int i) v ↔ v = .int i := by rw [Dv]
theorem dv_bl {b : Bool} {v : V} : Dv K H (.bl b) v ↔ v = .bl b := by rw [Dv]
theorem dv_str {x : Str} {v : V} : Dv K H (.str x) v ↔ v = .str x := by rw [Dv]
theorem dv_non {v : V} : Dv K H .non v ↔ v = .non := by rw [Dv]
theorem dv_ref {a : Addr} {v : V} : Dv K H (.ref a) v ↔ v = .ref a := by rw [Dv]
theorem dv_lis {xs : List D} {v : V} : Dv K H (.lis xs) v ↔ ∃ a vs, v = .ref a ∧ FzL H a vs ∧ Dvs K H xs vs := by rw [Dv]
theorem dv_fro {xs : List D} {v : V} : Dv K H (.fro xs) v ↔ ∃ a vs, v = .ref a ∧ SqF K H a vs ∧ Dvs K H xs vs := by rw [Dv]
theorem dv_tup {xs : List D} {v : V} : Dv K H (.tup xs) v ↔ ∃ a vs, v = .ref a ∧ SqT K H a vs ∧ Dvs K H xs vs := by rw [Dv]
end
mutual
def nk : D → Option NestedKey
  | .non => some .none
  | .int i => some (.num i)
  | .str x => some (.text x)
  | .tup xs => (nks xs).map .tup
  | .bl _ => none
  | .ref _ => none
  | .fro _ => none
  | .lis _ => none
def nks : List D → Option (List NestedKey)
  | [] => some []
  | d :: ds => match nk d, nks ds with
    | some k, some ks => some (k :: ks)
    | _, _ => none
end
mutual
theorem nk_inj : ∀ (a b : D) (k : NestedKey), nk a = some k → nk b = some k → a = b
  | .non, b, k, h, q => by cases b <;> simp_all [nk, Option.map_eq_some_iff] <;> (subst h; simp at q)
  | .int i, b, k, h, q => by cases b <;> simp_all [nk, Option.map_eq_some_iff] <;> (subst h; simp at q) <;> simp_all
  | .str i, b, k, h, q => by cases b <;> simp_all [nk, Option.map_eq_some_iff] <;> (subst h; simp at q) <;> simp_all
  | .bl i, b, k, h, q => by simp [nk] at h
  | .ref i, b, k, h, q => by simp [nk] at h
  | .fro i, b, k, h, q => by simp [nk] at h
  | .lis i, b, k, h, q => by simp [nk] at h
  | .tup xs, b, k, h, q => by
    simp only [nk, Option.map_eq_some_iff] at h
    obtain ⟨ks, h1, rfl⟩ := h
    cases b with
    | tup ys =>
      simp only [nk, Option.map_eq_some_iff] at q
      obtain ⟨ks', h2, e⟩ := q
      injection e with e
      subst e
      rw [nks_inj xs ys _ h1 h2]
    | _ => simp [nk] at q
theorem nks_inj : ∀ (as bs : List D) (ks : List NestedKey), nks as = some ks → nks bs = some ks → as = bs
  | [], bs, ks, h, q => by
    unfold nks at h
    simp only [Option.some.injEq] at h
    subst h
    cases bs with
    | nil => rfl
    | cons b bs => unfold nks at q; split at q <;> simp at q
  | a :: as, bs, ks, h, q => by
    unfold nks at h
    split at h
    · rename_i k1 ks1 e1 e2
      simp only [Option.some.injEq] at h
      subst h
      cases bs with
      | nil => unfold nks at q; simp at q
      | cons b bs =>
        unfold nks at q
        split at q
        · rename_i k2 ks2 f1 f2
          simp only [Option.some.injEq, List.cons.injEq] at q
          obtain ⟨rfl, rfl⟩ := q
          rw [nk_inj a b _ e1 f1, nks_inj as bs _ e2 f2]
        · simp at q
    · simp at h
end
def tkey : D → Option NestedKey
  | .tup xs => (nk (.tup xs)).bind fun k => if k.depth ≤ 8 then some k else none
  | _ => none
theorem tkey_nk {d : D} {k : NestedKey} (h : tkey d = some k) : nk d = some k ∧ k.depth ≤ 8 ∧ ∃ xs, d = .tup xs := by
  cases d with
  | tup xs =>
    unfold tkey at h
    obtain ⟨k', e, q⟩ := Option.bind_eq_some_iff.mp h
    by_cases hd : k'.depth ≤ 8
    · rw [if_pos hd] at q
      obtain rfl : k' = k := Option.some.inj q
      exact ⟨e, hd, xs, rfl⟩
    · rw [if_neg hd] at q
      exact absurd q (by simp)
  | _ => simp [tkey] at h
theorem tkey_inj {a b : D} {k : NestedKey} (h : tkey a = some k) (q : tkey b = some k) : a = b := nk_inj a b k (tkey_nk h).1 (tkey_nk q).1
section
variable {κ : Type} [DecidableEq κ]
def look (kvs : List (κ × D)) (k : κ) : Option D := (kvs.find? fun p => decide (p.1 = k)).map (·.2)
def put (kvs : List (κ × D)) (k : κ) (v : D) : List (κ × D) := if (look kvs k).isSome then kvs.map fun p => if p.1 = k then (p.1, v) else p else kvs ++ [(k, v)]
def drop (kvs : List (κ × D)) (k : κ) : List (κ × D) := kvs.filter fun p => decide (p.1 ≠ k)
end
structure LamD where
  qual : Str
  params : Arguments
  body : Expr
  scope : Scope
  dv : List Int
structure FnB where
  l : LamD
  clo : List (Str × Addr)
  code : Addr
  dfl : Option Addr
def FnB.obj (F : FnB) (pm ctv : Value) : Obj := { cls := .type "function", data := .func { PySem.W.kla_fn "<lambda>" F.l.qual F.l.params F.l.body F.l.scope F.clo pm (.ref F.code) ctv with defaults := match F.dfl with | none => .none | some t => .ref t } }
def FnB.Ok (F : FnB) : Prop := (∀ x y c, F.clo.lookup x = some c → F.clo.lookup y = some c → x = y) ∧ ∀ y ∈ F.l.scope.names, y.2 = .free → ∃ c, F.clo.lookup y.1 = some c
def Kn (o : Obj) : HO := .frz o (.ext fun _ => True)
inductive DO where
  | lst (ds : List D)
  | dik (kvs : List (Key × D))
  | dit (kvs : List (D × D)) (ep : Nat)
  | ins (C : Addr) (fs : List (Str × D))
  | xd (fs : List (Str × D))
    | fn (F : FnB)
  | cell (d : D)
  | code (q : Str)
  | tab (cs : List Addr)
abbrev Sto := Addr → Option DO
def sup (S : Sto) (a : Addr) (o : DO) : Sto := fun b => if b = a then some o else S b
theorem sup_same {S : Sto} {a : Addr} {o : DO} : sup S a o a = some o := by unfold sup; rw [if_pos rfl]
theorem sup_ne {S : Sto} {a b : Addr} {o : DO} (h : b ≠ a) : sup S a o b = S b := by unfold sup; rw [if_neg h]
def dictO (P : Program) (w : World) (a : Addr) (xs : List (NestedKey × Addr × Value)) (ep : Nat) : HO := .ext fun h =>
  ∃ o es, h.get? a = some o ∧ o.ExactDict ∧ o.data = .dict es ep ∧ es.toList = xs.map (entryOfKey (nestedKind P w)) ∧ (xs.map (·.1)).Nodup
def Ent (K : PySem.W.Frag) (H : Hp) (p : D × D) (x : NestedKey × Addr × Value) : Prop := tkey p.1 = some x.1 ∧ Dv K H p.1 (.ref x.2.1) ∧ ∃ v, RelV v x.2.2 ∧ Dv K H p.2 v
def Fld {κ : Type} (K : PySem.W.Frag) (H : Hp) (p : κ × D) (q : κ × V) : Prop := p.1 = q.1 ∧ Dv K H p.2 q.2
def ObjD (P : Program) (w : World) (K : PySem.W.Frag) (H : Hp) (a : Addr) : DO → Prop
  | .lst ds => ∃ vs, H a = some (.lst vs) ∧ Dvs K H ds vs
  | .dik kvs => ∃ kvs', H a = some (.dK kvs') ∧ Paired (Fld K H) kvs kvs'
  | .dit kvs ep => ∃ xs, H a = some (dictO P w a xs ep) ∧ (a == sysModules) = false ∧ xs.length ≤ sizeLine ∧ Paired (Ent K H) kvs xs
  | .ins C fs => ∃ dx fs', H a = some (.ins C dx fs') ∧ Paired (Fld K H) fs fs'
  | .xd fs => ∃ fs', H a = some (.xd fs') ∧ Paired (Fld K H) fs fs'
  | .fn F => (∃ pm ctv, H a = some (Kn (F.obj pm ctv))) ∧ F.Ok ∧ match F.dfl with | none => F.l.dv = [] | some t => SqT K H t (F.l.dv.map V.int)
  | .cell d => ∃ o u v, H a = some (Kn o) ∧ o.data = .cell (some u) ∧ RelV v u ∧ Dv K H d v
  | .code q => H a = some (LamX.CodeO a q)
  | .tab cs => ∃ ps : Array Value, H a = some (.tbl ps) ∧ TriplesOk ps.toList ∧ ∀ (pos : Pos) (cv : Value), codeAmong pos ps.toList = some cv → ∃ c, cv = .ref c ∧ c ∈ cs
def DO.Mut : DO → Prop
  | .fn _ => False
  | .cell _ => False
  | _ => True
theorem Fld.mono {κ : Type} {K : PySem.W.Frag} {H H' : Hp} (t : TupP K H H') {p : κ × D} {q : κ × V} (h : Fld K H p q) : Fld K H' p q := ⟨h.1, Dv.mono t _ _ h.2⟩
theorem Ent.mono {K : PySem.W.Frag} {H H' : Hp} (t : TupP K H H') {p : D × D} {x : NestedKey × Addr × Value} (h : Ent K H p x) : Ent K H' p x :=
  ⟨h.1, Dv.mono t _ _ h.2.1, let ⟨v, r, z⟩ := h.2.2; ⟨v, r, Dv.mono t _ _ z⟩⟩
theorem ObjD.keep {P : Program} {w : World} {K : PySem.W.Frag} {H H' : Hp} {a : Addr} {o : DO} (t : TupP K H H') (e : H' a = H a) (h : ObjD P w K H a o) : ObjD P w K H' a o := by
  cases o with
  | lst ds => obtain ⟨vs, h1, h2⟩ := h; exact ⟨vs, e.trans h1, Dvs.mono t _ _ h2⟩
  | dik kvs => obtain ⟨vs, h1, h2⟩ := h; exact ⟨vs, e.trans h1, Paired.mapP h2 fun _ _ z => z.mono t⟩
  | dit kvs ep => obtain ⟨xs, h1, h2, h3, h4⟩ := h; exact ⟨xs, e.trans h1, h2, h3, Paired.mapP h4 fun _ _ z => z.mono t⟩
  | ins C fs => obtain ⟨dx, fs', h1, h2⟩ := h; exact ⟨dx, fs', e.trans h1, Paired.mapP h2 fun _ _ z => z.mono t⟩
  | xd fs => obtain ⟨fs', h1, h2⟩ := h; exact ⟨fs', e.trans h1, Paired.mapP h2 fun _ _ z => z.mono t⟩
  | fn F =>
    obtain ⟨⟨pm, ctv, h1⟩, h3, h2⟩ := h
    refine ⟨⟨pm, ctv, e.trans h1⟩, h3, ?_⟩
    cases q : F.dfl with
    | none => rw [q] at h2; exact h2
    | some d => rw [q] at h2; exact t.1 _ _ h2
  | cell d => obtain ⟨o, u, v, h1, h2, h3, h4⟩ := h; exact ⟨o, u, v, e.trans h1, h2, h3, h4.mono t⟩
  | code q => exact e.trans h
  | tab cs => obtain ⟨ps, h1, h2⟩ := h; exact ⟨ps, e.trans h1, h2⟩
theorem ObjD.mut {P : Program} {w : World} {K : PySem.W.Frag} {H : Hp} {a : Addr} {o : DO} (h : ObjD P w K H a o) (hm : o.Mut) : ∃ u, H a = some u ∧ NoTup u := by
  cases o with
  | lst ds => obtain ⟨vs, h1, h2⟩ := h; exact ⟨_, h1, trivial⟩
  | dik kvs => obtain ⟨vs, h1, h2⟩ := h; exact ⟨_, h1, trivial⟩
  | dit kvs ep => obtain ⟨xs, h1, h2, h3, h4⟩ := h; exact ⟨_, h1, trivial⟩
  | ins C fs => obtain ⟨dx, fs', h1, h2⟩ := h; exact ⟨_, h1, trivial⟩
  | xd fs => obtain ⟨fs', h1, h2⟩ := h; exact ⟨_, h1, trivial⟩
  | fn F => exact hm.elim
  | cell d => exact hm.elim
  | code q => exact ⟨_, h, trivial⟩
  | tab cs => obtain ⟨ps, h1, h2⟩ := h; exact ⟨_, h1, trivial⟩
theorem ObjD.there {P : Program} {w : World} {K : PySem.W.Frag} {H : Hp} {a : Addr} {o : DO} (h : ObjD P w K H a o) : ∃ u, H a = some u := by
  cases o with
  | fn F => obtain ⟨⟨pm, ctv, h1⟩, h2⟩ := h; exact ⟨_, h1⟩
  | cell d => obtain ⟨o, u, v, h1, h2⟩ := h; exact ⟨_, h1⟩
  | _ => obtain ⟨u, h1, _⟩ := h.mut trivial; exact ⟨u, h1⟩
abbrev DEnv := List (Option D)
structure Rel (X : Cx) (δ : DEnv) (S : Sto) (σ : St) (H : Hp) : Prop where
  len : δ.length = σ.length
  loc : ∀ (i : Nat) (d : D), δ[i]? = some (some d) → ∃ v, σ[i]? = some (some v) ∧ Dv X.K H d v
  sto : ∀ a o, S a = some o → ObjD X.prog X.w X.K H a o
section
variable {X : Cx} {δ : DEnv} {S : Sto} {σ : St} {H : Hp} {p : Addr}
theorem Rel.free (R : Rel X δ S σ H) (h : H p = none) : S p = none := by
  cases e : S p with
  | none => rfl
  | some o =>
    obtain ⟨u, z⟩ := (R.sto p o e).there
    rw [h] at z
    cases z
theorem Rel.laid {ho : HO} (R : Rel X δ S σ H) (h : H p = none) : Rel X δ S σ (upd H p ho) := by
  have t : TupP X.K H (upd H p ho) := TupP.laid h
  refine ⟨R.len, fun i d e => ?_, fun a o e => (R.sto a o e).keep t ?_⟩
  · obtain ⟨v, z, q⟩ := R.loc i d e
    exact ⟨v, z, q.mono t⟩
  · refine upd_ne ?_
    rintro rfl
    rw [R.free h] at e
    cases e
theorem Rel.new {ho : HO} {o : DO} (R : Rel X δ S σ H) (h : H p = none) (n : ObjD X.prog X.w X.K (upd H p ho) p o) : Rel X δ (sup S p o) σ (upd H p ho) := by
  have R2 := R.laid (ho := ho) h
  refine ⟨R.len, R2.loc, fun a u e => ?_⟩
  by_cases z : a = p
  · subst z
    rw [sup_same] at e
    cases e
    exact n
  · rw [sup_ne z] at e
    exact R2.sto a u e
theorem Rel.change {ho : HO} {o u : DO} (R : Rel X δ S σ H) (h : S p = some u) (n : ObjD X.prog X.w X.K (upd H p ho) p o) (hm : u.Mut := by exact trivial) : Rel X δ (sup S p o) σ (upd H p ho) := by
  obtain ⟨z, hz, nt⟩ := (R.sto p u h).mut hm
  have t : TupP X.K H (upd H p ho) := TupP.changed hz nt
  refine ⟨R.len, fun i d e => ?_, fun a v e => ?_⟩
  · obtain ⟨v, z, q⟩ := R.loc i d e
    exact ⟨v, z, q.mono t⟩
  · by_cases q : a = p
    · subst q
      rw [sup_same] at e
      cases e
      exact n
    · rw [sup_ne q] at e
      exact (R.sto a v e).keep t (upd_ne q)
theorem Rel.tup_change {ho : HO} {u : DO} (R : Rel X δ S σ H) (h : S p = some u) (hm : u.Mut := by exact trivial) : TupP X.K H (upd H p ho) :=
  let ⟨_, hz, nt⟩ := (R.sto p u h).mut hm
  TupP.changed hz nt
theorem Rel.frame {X' : Cx} {δ' : DEnv} {σ' : St} (R : Rel X δ S σ H) (hP : X'.prog = X.prog) (hw : X'.w = X.w) (hK : X'.K = X.K) (l : δ'.length = σ'.length)
    (h : ∀ (i : Nat) (d : D), δ'[i]? = some (some d) → ∃ v, σ'[i]? = some (some v) ∧ Dv X.K H d v) : Rel X' δ' S σ' H := ⟨l, by rw [hK]; exact h, by rw [hP, hw, hK]; exact R.sto⟩
theorem Rel.less {S' : Sto} (R : Rel X δ S σ H) (h : ∀ a o, S' a = some o → S a = some o) : Rel X δ S' σ H := ⟨R.len, R.loc, fun a o e => R.sto a o (h a o e)⟩
theorem Rel.set {i : Nat} {d : D} {v : V} (R : Rel X δ S σ H) (q : Dv X.K H d v) : Rel X (δ.set i (some d)) S (σ.set i (some v)) H := by
  refine ⟨by rw [List.length_set, List.length_set]; exact R.len, fun j e h => ?_, R.sto⟩
  by_cases z : j = i
  · subst z
    by_cases l : j < δ.length
    · rw [List.getElem?_set_self l] at h
      cases h
      exact ⟨v, by rw [List.getElem?_set_self (by rw [← R.len]; exact l)], q⟩
    · rw [List.getElem?_eq_none (by rw [List.length_set]; omega)] at h
      cases h
  · rw [List.getElem?_set_ne (Ne.symm z)] at h
    obtain ⟨u, e1, e2⟩ := R.loc j e h
    exact ⟨u, by rw [List.getElem?_set_ne (Ne.symm z)]; exact e1, e2⟩
end
end DL
set_option maxRecDepth 100000
namespace DL
open PySem L2
abbrev DK := D → Sto → Prop
abbrev TDE := DEnv → Sto → DK → Prop
abbrev TDT := DEnv → Sto → (Bool → Sto → Prop) → Prop
abbrev TDA := DEnv → Sto → (List D → Sto → Prop) → Prop
structure DEnds where
  nx : DEnv → Sto → Prop
  rt : DK
  bk : DEnv → Sto → Prop := fun _ _ => False
  ct : DEnv → Sto → Prop := fun _ _ => False
abbrev TDS := DEnds → DEnv → Sto → Prop
abbrev TDG := D → DEnv → Sto → (DEnv → Sto → Prop) → Prop
abbrev TDGs := List D → DEnv → Sto → (DEnv → Sto → Prop) → Prop
def MonoE (t : TDE) : Prop := ∀ δ S Q Q', (∀ d S', Q d S' → Q' d S') → t δ S Q → t δ S Q'
def MonoT (t : TDT) : Prop := ∀ δ S Q Q', (∀ d S', Q d S' → Q' d S') → t δ S Q → t δ S Q'
def MonoA (t : TDA) : Prop := ∀ δ S Q Q', (∀ d S', Q d S' → Q' d S') → t δ S Q → t δ S Q'
structure DEnds.Le (D D' : DEnds) : Prop where
  nx : ∀ δ S, D.nx δ S → D'.nx δ S
  rt : ∀ d S, D.rt d S → D'.rt d S
  bk : ∀ δ S, D.bk δ S → D'.bk δ S
  ct : ∀ δ S, D.ct δ S → D'.ct δ S
def MonoS (t : TDS) : Prop := ∀ D D' δ S, D.Le D' → t D δ S → t D' δ S
def MonoG (t : TDG) : Prop := ∀ d δ S Q Q', (∀ δ' S', Q δ' S' → Q' δ' S') → t d δ S Q → t d δ S Q'
def MonoGs (t : TDGs) : Prop := ∀ d δ S Q Q', (∀ δ' S', Q δ' S' → Q' δ' S') → t d δ S Q → t d δ S Q'
theorem DEnds.Le.refl (D : DEnds) : D.Le D := ⟨fun _ _ h => h, fun _ _ h => h, fun _ _ h => h, fun _ _ h => h⟩
theorem DEnds.Le.nxs {D D' : DEnds} (l : D.Le D') {n n' : DEnv → Sto → Prop} (h : ∀ δ S, n δ S → n' δ S) : DEnds.Le { D with nx := n } { D' with nx := n' } := ⟨h, l.rt, l.bk, l.ct⟩
def kE (X : Cx) (δ : DEnv) (σ : St) (H : Hp) (Q : VK) : DK := fun d S' => ∀ v H', Rel X δ S' σ H' → Dv X.K H' d v → TupP X.K H H' → Q v H'
def kT (X : Cx) (δ : DEnv) (σ : St) (H : Hp) (Q : Bool → Hp → Prop) : Bool → Sto → Prop := fun b S' => ∀ H', Rel X δ S' σ H' → TupP X.K H H' → Q b H'
def kA (X : Cx) (δ : DEnv) (σ : St) (H : Hp) (Q : List V → Hp → Prop) : List D → Sto → Prop := fun ds S' => ∀ vs H', Rel X δ S' σ H' → Dvs X.K H' ds vs → TupP X.K H H' → Q vs H'
def kN (X : Cx) (H : Hp) (n : St → Hp → Prop) : DEnv → Sto → Prop := fun δ' S' => ∀ σ' H', Rel X δ' S' σ' H' → TupP X.K H H' → n σ' H'
def RelS (X : Cx) (S : Sto) (H : Hp) : Prop := ∀ a o, S a = some o → ObjD X.prog X.w X.K H a o
def kR (X : Cx) (H : Hp) (r : VK) : DK := fun d S' => ∀ v H', RelS X S' H' → Dv X.K H' d v → r v H'
def kS (X : Cx) (H : Hp) (D : Ends) : DEnds := ⟨kN X H D.nx, kR X H D.rt, kN X H D.bk, kN X H D.ct⟩
def upE (X : Cx) (t : TDE) : TE := fun σ H Q => ∃ δ S, Rel X δ S σ H ∧ t δ S (kE X δ σ H Q)
def upT (X : Cx) (t : TDT) : TT := fun σ H Q => ∃ δ S, Rel X δ S σ H ∧ t δ S (kT X δ σ H Q)
def upA (X : Cx) (t : TDA) : TA := fun σ H Q => ∃ δ S, Rel X δ S σ H ∧ t δ S (kA X δ σ H Q)
def upS (X : Cx) (t : TDS) : TS := fun D σ H => ∃ δ S, Rel X δ S σ H ∧ t (kS X H D) δ S
def upG (X : Cx) (t : TDG) : TG := fun v σ H Q => ∃ δ S d, Rel X δ S σ H ∧ Dv X.K H d v ∧ t d δ S (kN X H Q)
def upGs (X : Cx) (t : TDGs) : TGs := fun vs σ H Q => ∃ δ S ds, Rel X δ S σ H ∧ Dvs X.K H ds vs ∧ t ds δ S (kN X H Q)
structure DE (X : Cx) (e : Expr) (t : TDE) : Prop where
  mono : MonoE t
  pe : PE X e (upE X t)
structure DT (X : Cx) (e : Expr) (t : TDT) : Prop where
  mono : MonoT t
  pt : PT X e (upT X t)
structure DW (X : Cx) (e : Expr) (t : TDT) : Prop where
  mono : MonoT t
  pw : PW X e (upT X t)
structure DA (X : Cx) (es : List Expr) (t : TDA) : Prop where
  mono : MonoA t
  pa : PA X es (upA X t)
structure DS (X : Cx) (st : Stmt) (t : TDS) : Prop where
  mono : MonoS t
  ps : PS X st (upS X t)
structure DSs (X : Cx) (st : List Stmt) (t : TDS) : Prop where
  mono : MonoS t
  pss : PSs X st (upS X t)
structure DG (X : Cx) (e : Expr) (t : TDG) : Prop where
  mono : MonoG t
  pg : PG X e (upG X t)
structure DGs (X : Cx) (e : List Expr) (t : TDGs) : Prop where
  mono : MonoGs t
  pgs : PGs X e (upGs X t)
theorem DW.dt {X : Cx} {e : Expr} {t : TDT} (h : DW X e t) : DT X e t := ⟨h.mono, h.pw.pt⟩
section
variable {X : Cx} {e : Expr} {es : List Expr} {st : Stmt} {sts : List Stmt}
theorem pe_weak {t t' : TE} (h : PE X e t) (w : ∀ σ H Q, t' σ H Q → t σ H Q) : PE X e t' := ⟨fun pins s σ H Q I q => h.run pins s σ H Q I (w σ H Q q)⟩
theorem pt_weak {t t' : TT} (h : PT X e t) (w : ∀ σ H Q, t' σ H Q → t σ H Q) : PT X e t' := ⟨fun pins s σ H Q I q => h.run pins s σ H Q I (w σ H Q q)⟩
theorem pw_weak {t t' : TT} (h : PW X e t) (w : ∀ σ H Q, t' σ H Q → t σ H Q) : PW X e t' := ⟨fun wh pins s σ H Q I q => h.run wh pins s σ H Q I (w σ H Q q)⟩
theorem pa_weak {t t' : TA} (h : PA X es t) (w : ∀ σ H Q, t' σ H Q → t σ H Q) : PA X es t' := ⟨fun pos pins s σ H Q I q => h.run pos pins s σ H Q I (w σ H Q q)⟩
theorem ps_weak {t t' : TS} (h : PS X st t) (w : ∀ D σ H, t' D σ H → t D σ H) : PS X st t' := ⟨fun pins s σ H D I q => h.run pins s σ H D I (w D σ H q)⟩
theorem pss_weak {t t' : TS} (h : PSs X sts t) (w : ∀ D σ H, t' D σ H → t D σ H) : PSs X sts t' := ⟨fun pins s σ H D I q => h.run pins s σ H D I (w D σ H q)⟩
theorem pg_weak {t t' : TG} (h : PG X e t) (w : ∀ v σ H Q, t' v σ H Q → t v σ H Q) : PG X e t' := ⟨fun pins s σ H v u Q I r q => h.run pins s σ H v u Q I r (w v σ H Q q)⟩
theorem pgs_weak {t t' : TGs} (h : PGs X es t) (w : ∀ v σ H Q, t' v σ H Q → t v σ H Q) : PGs X es t' := ⟨fun pins s σ H v u Q I r q => h.run pins s σ H v u Q I r (w v σ H Q q)⟩
end
section
variable {X : Cx} {δ : DEnv} {S S' : Sto} {σ : St} {H H1 H2 : Hp}
theorem Rel.rels (R : Rel X δ S σ H) : RelS X S H := R.sto
theorem DE.sub {e : Expr} {t : TDE} (a : DE X e t) (R : Rel X δ S σ H) {Q1 : DK} (q : t δ S Q1) {Q : VK} (h : ∀ d S1 v H1, Q1 d S1 → Rel X δ S1 σ H1 → Dv X.K H1 d v → TupP X.K H H1 → Q v H1) : upE X t σ H Q :=
  ⟨δ, S, R, a.mono _ _ _ _ (fun d S1 q1 v H1 R1 r1 t1 => h d S1 v H1 q1 R1 r1 t1) q⟩
theorem DT.sub {e : Expr} {t : TDT} (a : DT X e t) (R : Rel X δ S σ H) {Q1 : Bool → Sto → Prop} (q : t δ S Q1) {Q : Bool → Hp → Prop} (h : ∀ b S1 H1, Q1 b S1 → Rel X δ S1 σ H1 → TupP X.K H H1 → Q b H1) : upT X t σ H Q :=
  ⟨δ, S, R, a.mono _ _ _ _ (fun d S1 q1 H1 R1 t1 => h d S1 H1 q1 R1 t1) q⟩
theorem DA.sub {es : List Expr} {t : TDA} (a : DA X es t) (R : Rel X δ S σ H) {Q1 : List D → Sto → Prop} (q : t δ S Q1) {Q : List V → Hp → Prop} (h : ∀ d S1 v H1, Q1 d S1 → Rel X δ S1 σ H1 → Dvs X.K H1 d v → TupP X.K H H1 → Q v H1) : upA X t σ H Q :=
  ⟨δ, S, R, a.mono _ _ _ _ (fun d S1 q1 v H1 R1 r1 t1 => h d S1 v H1 q1 R1 r1 t1) q⟩
theorem kE.mk {Q : VK} {d : D} (q : kE X δ σ H Q d S') {v : V} (R : Rel X δ S' σ H2) (r : Dv X.K H2 d v) (t : TupP X.K H H2) : Q v H2 := q v H2 R r t
theorem kE.later {Q : VK} (t : TupP X.K H H1) {d : D} (q : kE X δ σ H Q d S') : kE X δ σ H1 Q d S' := fun v H' R r t' => q v H' R r (t.trans t')
theorem kT.later {Q : Bool → Hp → Prop} (t : TupP X.K H H1) {d : Bool} (q : kT X δ σ H Q d S') : kT X δ σ H1 Q d S' := fun H' R t' => q H' R (t.trans t')
theorem kA.later {Q : List V → Hp → Prop} (t : TupP X.K H H1) {d : List D} (q : kA X δ σ H Q d S') : kA X δ σ H1 Q d S' := fun v H' R r t' => q v H' R r (t.trans t')
theorem kN.later {n : St → Hp → Prop} (t : TupP X.K H H1) {δ' : DEnv} (q : kN X H n δ' S') : kN X H1 n δ' S' := fun σ' H' R t' => q σ' H' R (t.trans t')
theorem kR.later {r : VK} (t : TupP X.K H H1) {d : D} (q : kR X H r d S') : kR X H1 r d S' := fun v H' R z => q v H' R z
theorem kS.later {D : Ends} (t : TupP X.K H H1) : (kS X H D).Le (kS X H1 D) := ⟨fun _ _ q => kN.later t q, fun _ _ q => kR.later t q, fun _ _ q => kN.later t q, fun _ _ q => kN.later t q⟩
end
section
variable {X : Cx} {pos : Pos}
def dVar (i : Nat) : TDE := fun δ S Q => match δ[i]? with
  | some (some d) => Q d S
  | _ => False
def dC (d : D) : TDE := fun _ S Q => Q d S
theorem dVar_mono {i : Nat} : MonoE (dVar i) := fun δ S Q Q' h q => by
  unfold dVar at *
  split at q
  · exact h _ _ q
  · exact q.elim
theorem dC_mono {d : D} : MonoE (dC d) := fun δ S Q Q' h q => h _ _ q
theorem dv (i : Nat) {x : Str} {pos : Pos} (hN : X.N[i]? = some x := by rfl) (hv : Vis X.env.scope x := by first | exact Or.inl rfl | exact Or.inr (Or.inl rfl) | exact Or.inr (Or.inr rfl)) (hd : (x == ("__debug__" : Str)) = false := by decide)
    (hcd : (x == ("__classdict__" : Str)) = false := by decide) : DE X (.Name x pos) (dVar i) := by
  refine ⟨dVar_mono, pe_weak (pe_var hN hv hd hcd) fun σ H Q ⟨δ, S, R, q⟩ => ?_⟩
  unfold dVar at q
  split at q
  · rename_i d e
    obtain ⟨v, e1, r⟩ := R.loc i d e
    exact ⟨v, e1, q v H R r .refl⟩
  · exact q.elim
theorem de_const {e : Expr} {v : V} {d : D} (h : PE X e (tC v)) (r : ∀ H, Dv X.K H d v) : DE X e (dC d) := ⟨dC_mono, pe_weak h fun σ H Q ⟨δ, S, R, q⟩ => q v H R (r H) .refl⟩
theorem de_int {i j pos} : DE X (.Constant (.int i) j pos) (dC (.int i)) := de_const pe_int fun _ => dv_int.mpr rfl
theorem de_bl {b j pos} : DE X (.Constant (.bool b) j pos) (dC (.bl b)) := de_const pe_bl fun _ => dv_bl.mpr rfl
theorem de_non {j pos} : DE X (.Constant .none j pos) (dC .non) := de_const pe_non fun _ => dv_non.mpr rfl
theorem de_str {x j pos} : DE X (.Constant (.str x) j pos) (dC (.str x)) := de_const pe_str fun _ => dv_str.mpr rfl
theorem de_globI {x : Str} {i : Int} {t : Tok} {pos : Pos} (hg : Gl X x) (hm : X.mg x = some (.int i t)) (hd : (x == ("__debug__" : Str)) = false := by decide) : DE X (.Name x pos) (dC (.int i)) := de_const (pe_glob (v := .int i) hg hm ⟨t, rfl⟩ hd) fun _ => dv_int.mpr rfl
theorem de_globS {x : Str} {i : Str} {t : Tok} {pos : Pos} (hg : Gl X x) (hm : X.mg x = some (.str i t)) (hd : (x == ("__debug__" : Str)) = false := by decide) : DE X (.Name x pos) (dC (.str i)) := de_const (pe_glob (v := .str i) hg hm ⟨t, rfl⟩ hd) fun _ => dv_str.mpr rfl
theorem de_globR {x : Str} {a : Addr} {pos : Pos} (hg : Gl X x) (hm : X.mg x = some (.ref a)) (hd : (x == ("__debug__" : Str)) = false := by decide) : DE X (.Name x pos) (dC (.ref a)) := de_const (pe_glob (v := .ref a) hg hm rfl hd) fun _ => dv_ref.mpr rfl
end
abbrev RD2 := D → D → Sto → DK → Prop
def MonoR2 (r : RD2) : Prop := ∀ x y S Q Q', (∀ d S', Q d S' → Q' d S') → r x y S Q → r x y S Q'
def upR2 (X : Cx) (r : RD2) : R2 := fun v u H Q => ∃ δ S σ x y, Rel X δ S σ H ∧ Dv X.K H x v ∧ Dv X.K H y u ∧ r x y S (kE X δ σ H Q)
structure DOp (X : Cx) (f : Value → Value → Sem Value) (r : RD2) : Prop where
  mono : MonoR2 r
  run : OpR X f (upR2 X r)
def dBin (r : RD2) (ta tb : TDE) : TDE := fun δ S Q => ta δ S fun x S1 => tb δ S1 fun y S2 => r x y S2 Q
section
variable {X : Cx} {a b c : Expr} {ta tb tc : TDE} {pos : Pos} {r : RD2}
theorem dBin_mono (hr : MonoR2 r) (ha : MonoE ta) (hb : MonoE tb) : MonoE (dBin r ta tb) := fun δ S Q Q' h q => ha _ _ _ _ (fun x S1 q1 => hb _ _ _ _ (fun y S2 q2 => hr _ _ _ _ _ h q2) q1) q
theorem two (ha : DE X a ta) (hb : DE X b tb) {δ : DEnv} {S : Sto} {σ : St} {H : Hp} (R : Rel X δ S σ H) {Q2 : D → D → Sto → Prop} (q : ta δ S fun x S1 => tb δ S1 fun y S2 => Q2 x y S2) {Q : V → V → Hp → Prop}
    (h : ∀ x y S2 v u H2, Q2 x y S2 → Rel X δ S2 σ H2 → Dv X.K H2 x v → Dv X.K H2 y u → TupP X.K H H2 → Q v u H2) : upE X ta σ H fun v H1 => upE X tb σ H1 fun u H2 => Q v u H2 :=
  ha.sub R q fun x S1 v H1 q1 R1 r1 t1 => hb.sub R1 q1 fun y S2 u H2 q2 R2 r2 t2 => h x y S2 v u H2 q2 R2 (r1.mono t2) r2 (t1.trans t2)
theorem de_op {op : Operator} (ho : DOp X (binaryOp op) r) (ha : DE X a ta) (hb : DE X b tb) : DE X (.BinOp a op b pos) (dBin r ta tb) := by
  refine ⟨dBin_mono ho.mono ha.mono hb.mono, pe_weak (pe_op ho.run ha.pe hb.pe) fun σ H Q ⟨δ, S, R, q⟩ => ?_⟩
  exact two ha hb R q fun x y S2 v u H2 q2 R2 r1 r2 t => ⟨δ, S2, σ, x, y, R2, r1, r2, ho.mono _ _ _ _ _ (fun _ _ z => kE.later t z) q2⟩
theorem de_cmp {op : CmpOp} (ho : DOp X (compareOp op) r) (ha : DE X a ta) (hb : DE X b tb) (hm : behindInMarks op b = false) : DE X (.Compare a [op] [b] pos) (dBin r ta tb) := by
  refine ⟨dBin_mono ho.mono ha.mono hb.mono, pe_weak (pe_cmpR ho.run ha.pe hb.pe hm) fun σ H Q ⟨δ, S, R, q⟩ => ?_⟩
  exact two ha hb R q fun x y S2 v u H2 q2 R2 r1 r2 t => ⟨δ, S2, σ, x, y, R2, r1, r2, ho.mono _ _ _ _ _ (fun _ _ z => kE.later t z) q2⟩
def isB (Q : Bool → Sto → Prop) : DK := fun d S => match d with
  | .bl b => Q b S
  | _ => False
theorem isB_mono {Q Q' : Bool → Sto → Prop} (h : ∀ b S, Q b S → Q' b S) : ∀ d S, isB Q d S → isB Q' d S := fun d S q => by
  cases d <;> first | exact h _ _ q | exact q
def dTB (t : TDE) : TDT := fun δ S Q => t δ S (isB Q)
theorem dTB_mono {t : TDE} (h : MonoE t) : MonoT (dTB t) := fun δ S Q Q' k q => h _ _ _ _ (isB_mono k) q
theorem dt_cmp {op : CmpOp} (ho : DOp X (compareOp op) r) (ha : DE X a ta) (hb : DE X b tb) (hm : behindInMarks op b = false) : DT X (.Compare a [op] [b] pos) (dTB (dBin r ta tb)) := by
  refine ⟨dTB_mono (dBin_mono ho.mono ha.mono hb.mono), pt_weak (pt_cmpR ho.run ha.pe hb.pe hm) fun σ H Q ⟨δ, S, R, q⟩ => ?_⟩
  refine two ha hb R q fun x y S2 v u H2 q2 R2 r1 r2 t => ⟨δ, S2, σ, x, y, R2, r1, r2, ho.mono _ _ _ _ _ (fun d S' z v' H' R' rr t' => ?_) q2⟩
  cases d with
  | bl k => rw [dv_bl] at rr; exact ⟨k, rr, z H' R' (t.trans t')⟩
  | _ => exact z.elim
theorem dt_val {e : Expr} {t : TDE} (h : DE X e t) (he : ∀ whole, isTrue e X.env whole = (do let v ← whole; standAt e.pos; holding [v] (truthy v)) := by intro _; rfl) : DT X e (dTB t) := by
  refine ⟨dTB_mono h.mono, pt_weak (pt_val h.pe he) fun σ H Q ⟨δ, S, R, q⟩ => ?_⟩
  refine h.sub R q fun d S1 v H1 q1 R1 r1 t1 => ?_
  cases d with
  | bl k => rw [dv_bl] at r1; exact ⟨k, r1, q1 H1 R1 t1⟩
  | _ => exact q1.elim
end
section
variable {X : Cx} {a b c : Expr} {rest : List Expr} {pos : Pos}
def dAnd (t u : TDT) : TDT := fun δ S Q => t δ S fun c S1 => if c = true then u δ S1 Q else Q false S1
def dOr (t u : TDT) : TDT := fun δ S Q => t δ S fun c S1 => if c = true then Q true S1 else u δ S1 Q
def dNot (t : TDT) : TDT := fun δ S Q => t δ S fun c S1 => Q (!c) S1
theorem dAnd_mono {t u : TDT} (ht : MonoT t) (hu : MonoT u) : MonoT (dAnd t u) := fun δ S Q Q' h q => ht _ _ _ _ (fun c S1 q1 => by
  cases c <;> simp only [if_true, Bool.false_eq_true, if_false] at q1 ⊢ <;> first | exact h _ _ q1 | exact hu _ _ _ _ h q1) q
theorem dOr_mono {t u : TDT} (ht : MonoT t) (hu : MonoT u) : MonoT (dOr t u) := fun δ S Q Q' h q => ht _ _ _ _ (fun c S1 q1 => by
  cases c <;> simp only [if_true, Bool.false_eq_true, if_false] at q1 ⊢ <;> first | exact h _ _ q1 | exact hu _ _ _ _ h q1) q
theorem dNot_mono {t : TDT} (ht : MonoT t) : MonoT (dNot t) := fun δ S Q Q' h q => ht _ _ _ _ (fun c S1 q1 => h _ _ q1) q
variable {tA tB : TDT}
theorem dw_and1 (ha : DT X a tA) : DW X (.BoolOp .And [a] pos) tA := ⟨ha.mono, pw_and1 ha.pt⟩
theorem dw_or1 (ha : DT X a tA) : DW X (.BoolOp .Or [a] pos) tA := ⟨ha.mono, pw_or1 ha.pt⟩
theorem dw_and (ha : DT X a tA) (hb : DW X (.BoolOp .And (b :: rest) pos) tB) : DW X (.BoolOp .And (a :: b :: rest) pos) (dAnd tA tB) := by
  refine ⟨dAnd_mono ha.mono hb.mono, pw_weak (pw_and ha.pt hb.pw) fun σ H Q ⟨δ, S, R, q⟩ => ?_⟩
  refine ha.sub R q fun c S1 H1 q1 R1 t1 => ?_
  cases c <;> simp only [if_true, Bool.false_eq_true, if_false] at q1 ⊢
  · exact q1 H1 R1 t1
  · exact ⟨δ, S1, R1, hb.mono _ _ _ _ (fun _ _ z => kT.later t1 z) q1⟩
theorem dw_or (ha : DT X a tA) (hb : DW X (.BoolOp .Or (b :: rest) pos) tB) : DW X (.BoolOp .Or (a :: b :: rest) pos) (dOr tA tB) := by
  refine ⟨dOr_mono ha.mono hb.mono, pw_weak (pw_or ha.pt hb.pw) fun σ H Q ⟨δ, S, R, q⟩ => ?_⟩
  refine ha.sub R q fun c S1 H1 q1 R1 t1 => ?_
  cases c <;> simp only [if_true, Bool.false_eq_true, if_false] at q1 ⊢
  · exact ⟨δ, S1, R1, hb.mono _ _ _ _ (fun _ _ z => kT.later t1 z) q1⟩
  · exact q1 H1 R1 t1
theorem dt_not (ha : DT X a tA) : DT X (.UnaryOp .Not a pos) (dNot tA) := by
  refine ⟨dNot_mono ha.mono, pt_weak (pt_not ha.pt) fun σ H Q ⟨δ, S, R, q⟩ => ?_⟩
  exact ha.sub R q fun c S1 H1 q1 R1 t1 => q1 H1 R1 t1
def dAndV (ta tb : TDE) : TDE := fun δ S Q => ta δ S (isB fun c S1 => if c = true then tb δ S1 Q else Q (.bl false) S1)
def dOrV (ta tb : TDE) : TDE := fun δ S Q => ta δ S (isB fun c S1 => if c = true then Q (.bl true) S1 else tb δ S1 Q)
def dNotV (ta : TDE) : TDE := fun δ S Q => ta δ S (isB fun c S1 => Q (.bl (!c)) S1)
theorem dAndV_mono {t u : TDE} (ht : MonoE t) (hu : MonoE u) : MonoE (dAndV t u) := fun δ S Q Q' h q => ht _ _ _ _ (isB_mono fun c S1 q1 => by
  cases c <;> simp only [if_true, Bool.false_eq_true, if_false] at q1 ⊢ <;> first | exact h _ _ q1 | exact hu _ _ _ _ h q1) q
theorem dOrV_mono {t u : TDE} (ht : MonoE t) (hu : MonoE u) : MonoE (dOrV t u) := fun δ S Q Q' h q => ht _ _ _ _ (isB_mono fun c S1 q1 => by
  cases c <;> simp only [if_true, Bool.false_eq_true, if_false] at q1 ⊢ <;> first | exact h _ _ q1 | exact hu _ _ _ _ h q1) q
theorem dNotV_mono {t : TDE} (ht : MonoE t) : MonoE (dNotV t) := fun δ S Q Q' h q => ht _ _ _ _ (isB_mono fun c S1 q1 => h _ _ q1) q
variable {ta tb : TDE}
theorem de_one {op} (h : DE X a ta) : DE X (.BoolOp op [a] pos) ta := ⟨h.mono, pe_one h.pe⟩
theorem de_and (ha : DE X a ta) (hb : DE X (.BoolOp .And (b :: rest) pos) tb) : DE X (.BoolOp .And (a :: b :: rest) pos) (dAndV ta tb) := by
  refine ⟨dAndV_mono ha.mono hb.mono, pe_weak (pe_and ha.pe hb.pe) fun σ H Q ⟨δ, S, R, q⟩ => ?_⟩
  refine ha.sub R q fun d S1 v H1 q1 R1 r1 t1 => ?_
  cases d with
  | bl c =>
    rw [dv_bl] at r1
    refine ⟨c, r1, ?_⟩
    have q2 : if c = true then tb δ S1 (kE X δ σ H Q) else kE X δ σ H Q (.bl false) S1 := q1
    cases c <;> simp only [if_true, Bool.false_eq_true, if_false] at q2 ⊢
    · exact q2 _ H1 R1 (dv_bl.mpr rfl) t1
    · exact ⟨δ, S1, R1, hb.mono _ _ _ _ (fun _ _ z => kE.later t1 z) q2⟩
  | _ => exact q1.elim
theorem de_or (ha : DE X a ta) (hb : DE X (.BoolOp .Or (b :: rest) pos) tb) : DE X (.BoolOp .Or (a :: b :: rest) pos) (dOrV ta tb) := by
  refine ⟨dOrV_mono ha.mono hb.mono, pe_weak (pe_or ha.pe hb.pe) fun σ H Q ⟨δ, S, R, q⟩ => ?_⟩
  refine ha.sub R q fun d S1 v H1 q1 R1 r1 t1 => ?_
  cases d with
  | bl c =>
    rw [dv_bl] at r1
    refine ⟨c, r1, ?_⟩
    have q2 : if c = true then kE X δ σ H Q (.bl true) S1 else tb δ S1 (kE X δ σ H Q) := q1
    cases c <;> simp only [if_true, Bool.false_eq_true, if_false] at q2 ⊢
    · exact ⟨δ, S1, R1, hb.mono _ _ _ _ (fun _ _ z => kE.later t1 z) q2⟩
    · exact q2 _ H1 R1 (dv_bl.mpr rfl) t1
  | _ => exact q1.elim
theorem de_not (ha : DE X a ta) : DE X (.UnaryOp .Not a pos) (dNotV ta) := by
  refine ⟨dNotV_mono ha.mono, pe_weak (pe_not ha.pe) fun σ H Q ⟨δ, S, R, q⟩ => ?_⟩
  refine ha.sub R q fun d S1 v H1 q1 R1 r1 t1 => ?_
  cases d with
  | bl c => rw [dv_bl] at r1; exact ⟨c, r1, q1 _ H1 R1 (dv_bl.mpr rfl) t1⟩
  | _ => exact q1.elim
def dIf (t : TDT) (ta tb : TDE) : TDE := fun δ S Q => t δ S fun c S1 => if c = true then ta δ S1 Q else tb δ S1 Q
theorem dIf_mono {t : TDT} {ta tb : TDE} (ht : MonoT t) (ha : MonoE ta) (hb : MonoE tb) : MonoE (dIf t ta tb) := fun δ S Q Q' h q => ht _ _ _ _ (fun c S1 q1 => by
  cases c <;> simp only [if_true, Bool.false_eq_true, if_false] at q1 ⊢ <;> first | exact ha _ _ _ _ h q1 | exact hb _ _ _ _ h q1) q
theorem de_ifExp (hc : DT X c tA) (ha : DE X a ta) (hb : DE X b tb) : DE X (.IfExp c a b pos) (dIf tA ta tb) := by
  refine ⟨dIf_mono hc.mono ha.mono hb.mono, pe_weak (pe_ifExp hc.pt ha.pe hb.pe) fun σ H Q ⟨δ, S, R, q⟩ => ?_⟩
  refine hc.sub R q fun c S1 H1 q1 R1 t1 => ?_
  cases c <;> simp only [if_true, Bool.false_eq_true, if_false] at q1 ⊢
  · exact ⟨δ, S1, R1, hb.mono _ _ _ _ (fun _ _ z => kE.later t1 z) q1⟩
  · exact ⟨δ, S1, R1, ha.mono _ _ _ _ (fun _ _ z => kE.later t1 z) q1⟩
end
section
variable {X : Cx} {e : Expr} {es : List Expr} {pos : Pos} {te : TDE} {t : TDA}
def dNil : TDA := fun _ S Q => Q [] S
def dCons (ta : TDE) (tr : TDA) : TDA := fun δ S Q => ta δ S fun x S1 => tr δ S1 fun xs S2 => Q (x :: xs) S2
theorem dNil_mono : MonoA dNil := fun δ S Q Q' h q => h _ _ q
theorem dCons_mono (h1 : MonoE te) (h2 : MonoA t) : MonoA (dCons te t) := fun δ S Q Q' h q => h1 _ _ _ _ (fun x S1 q1 => h2 _ _ _ _ (fun xs S2 q2 => h _ _ q2) q1) q
theorem da_nil : DA X [] dNil := ⟨dNil_mono, pa_weak pa_nil fun σ H Q ⟨δ, S, R, q⟩ => q _ H R Dvs.nil .refl⟩
theorem da_cons (ha : DE X e te) (hr : DA X es t) (hs : starEach (e :: es) X.env = (false, eval e X.env) :: starEach es X.env := by rfl) : DA X (e :: es) (dCons te t) := by
  refine ⟨dCons_mono ha.mono hr.mono, pa_weak (pa_cons ha.pe hr.pa hs) fun σ H Q ⟨δ, S, R, q⟩ => ?_⟩
  refine ha.sub R q fun d S1 v H1 q1 R1 r1 t1 => ?_
  refine hr.sub R1 q1 fun ds S2 vs H2 q2 R2 r2 t2 => ?_
  exact q2 _ H2 R2 (Dvs.cons (r1.mono t2) r2) (t1.trans t2)
def dTup (t : TDA) : TDE := fun δ S Q => t δ S fun xs S1 => xs.length ≤ sizeLine ∧ Q (.tup xs) S1
def dLst (t : TDA) : TDE := fun δ S Q => t δ S fun xs S1 => xs.length ≤ sizeLine ∧ ∀ p, S1 p = none → Q (.ref p) (sup S1 p (.lst xs))
theorem dTup_mono (h : MonoA t) : MonoE (dTup t) := fun δ S Q Q' k q => h _ _ _ _ (fun xs S1 q1 => ⟨q1.1, k _ _ q1.2⟩) q
theorem dLst_mono (h : MonoA t) : MonoE (dLst t) := fun δ S Q Q' k q => h _ _ _ _ (fun xs S1 q1 => ⟨q1.1, fun p hp => k _ _ (q1.2 p hp)⟩) q
theorem Dv.new_tup {K : PySem.W.Frag} {H : Hp} {p : Addr} {xs : List D} {vs : List V} (h : Dvs K H xs vs) (n : H p = none) : Dv K (upd H p (.tup vs)) (.tup xs) (.ref p) :=
  dv_tup.mpr ⟨p, vs, rfl, SqT.of upd_same, Dvs.mono (TupP.laid n) _ _ h⟩
theorem ObjD.new_lst {P : Program} {w : World} {K : PySem.W.Frag} {H : Hp} {p : Addr} {xs : List D} {vs : List V} (h : Dvs K H xs vs) (n : H p = none) : ObjD P w K (upd H p (.lst vs)) p (.lst xs) :=
  ⟨vs, upd_same, Dvs.mono (TupP.laid n) _ _ h⟩
theorem de_tup {x1} (h : DA X es t) : DE X (.Tuple es x1 pos) (dTup t) := by
  refine ⟨dTup_mono h.mono, pe_weak (pe_tup h.pa) fun σ H Q ⟨δ, S, R, q⟩ => ?_⟩
  refine h.sub R q fun ds S1 vs H1 q1 R1 r1 t1 => ⟨by rw [← r1.length]; exact q1.1, fun p hp => ?_⟩
  exact q1.2 _ _ (R1.laid hp) (Dv.new_tup r1 hp) (t1.trans (TupP.laid hp))
theorem de_lst (h : DA X es t) : DE X (.List es pos) (dLst t) := by
  refine ⟨dLst_mono h.mono, pe_weak (pe_lst h.pa) fun σ H Q ⟨δ, S, R, q⟩ => ?_⟩
  refine h.sub R q fun ds S1 vs H1 q1 R1 r1 t1 => ⟨by rw [← r1.length]; exact q1.1, fun p hp => ?_⟩
  exact q1.2 p (R1.free hp) _ _ (R1.new hp (ObjD.new_lst r1 hp)) (dv_ref.mpr rfl) (t1.trans (TupP.laid hp))
end
end DL
set_option maxRecDepth 100000
namespace DL
open PySem L2
section
variable {X : Cx} {pins : List (Addr × Obj)} {σ : St} {H : Hp} {s : Shared}
mutual
theorem nested_of (I : Inv X pins σ H s) : ∀ (d : D) (v : V) (u : Value) (k : NestedKey), Dv X.K H d v → RelV v u → nk d = some k → NestedIs s.heap k u
  | .non, v, u, k, h, r, e => by
    rw [dv_non] at h; subst h; cases r
    simp only [nk, Option.some.injEq] at e; subst e; exact .none
  | .int i, v, u, k, h, r, e => by
    rw [dv_int] at h; subst h; obtain ⟨t, rfl⟩ := r
    simp only [nk, Option.some.injEq] at e; subst e; exact .int i t
  | .str x, v, u, k, h, r, e => by
    rw [dv_str] at h; subst h; obtain ⟨t, rfl⟩ := r
    simp only [nk, Option.some.injEq] at e; subst e; exact .text x t
  | .bl b, v, u, k, h, r, e => by simp [nk] at e
  | .ref b, v, u, k, h, r, e => by simp [nk] at e
  | .fro b, v, u, k, h, r, e => by simp [nk] at e
  | .lis b, v, u, k, h, r, e => by simp [nk] at e
  | .tup xs, v, u, k, h, r, e => by
    rw [dv_tup] at h
    obtain ⟨a, vs, rfl, q, z⟩ := h
    cases r
    simp only [nk, Option.map_eq_some_iff] at e
    obtain ⟨ks, e1, rfl⟩ := e
    obtain ⟨its, rv, ⟨o, ho, hc, n, hd⟩, _⟩ := I.tuple q
    exact .tup ho hc hd (by simpa using nesteds_of I xs vs its ks z rv e1)
theorem nesteds_of (I : Inv X pins σ H s) : ∀ (ds : List D) (vs : List V) (us : List Value) (ks : List NestedKey), Dvs X.K H ds vs → Vals vs us → nks ds = some ks → NestedAll s.heap ks us
  | [], vs, us, ks, h, r, e => by
    rw [Dvs] at h; subst h; cases r
    unfold nks at e
    cases e
    exact .nil
  | d :: ds, vs, us, ks, h, r, e => by
    rw [Dvs] at h
    obtain ⟨v, vr, rfl, h1, h2⟩ := h
    cases r with
    | cons r1 r2 =>
      unfold nks at e
      split at e
      · rename_i k1 ks1 e1 e2
        cases e
        exact .cons (nested_of I d v _ k1 h1 r1 e1) (nesteds_of I ds vr _ ks1 h2 r2 e2)
      · cases e
end
theorem key_is (I : Inv X pins σ H s) {d : D} {k : NestedKey} {b : Addr} (h : tkey d = some k) (r : Dv X.K H d (.ref b)) : (nestedKind X.prog X.w).is s.heap k b :=
  ⟨nested_of I d _ _ k r rfl (tkey_nk h).1, (tkey_nk h).2.1⟩
theorem tup_addr {K : PySem.W.Frag} {d : D} {k : NestedKey} {v : V} (h : tkey d = some k) (r : Dv K H d v) : ∃ b, v = .ref b := by
  obtain ⟨_, _, xs, rfl⟩ := tkey_nk h
  rw [dv_tup] at r
  obtain ⟨a, _, e, _⟩ := r
  exact ⟨a, e⟩
variable {a : Addr} {kvs : List (D × D)}
structure Dit (X : Cx) (H : Hp) (h : Heap) (a : Addr) (kvs : List (D × D)) (ep : Nat) (xs : List (NestedKey × Addr × Value)) : Prop where
  at_ : H a = some (dictO X.prog X.w a xs ep)
  sys : (a == sysModules) = false
  len : xs.length ≤ sizeLine
  ent : Paired (Ent X.K H) kvs xs
  raw : h.DictOfH (nestedKind X.prog X.w) a xs
theorem paired_mem {α β : Type} {F : α → β → Prop} : ∀ {l : List α} {m : List β} {y : β}, Paired F l m → y ∈ m → ∃ x ∈ l, F x y
  | _, _, y, .nil, h => by simp at h
  | _, _, y, .cons r t, h => by
    rcases List.mem_cons.mp h with rfl | h
    · exact ⟨_, List.mem_cons_self, r⟩
    · obtain ⟨x, hx, q⟩ := paired_mem t h
      exact ⟨x, List.mem_cons_of_mem _ hx, q⟩
theorem dit_of {ep : Nat} (I : Inv X pins σ H s) (h : ObjD X.prog X.w X.K H a (.dit kvs ep)) : ∃ xs, Dit X H s.heap a kvs ep xs := by
  obtain ⟨xs, h1, h2, h3, h4⟩ := h
  obtain ⟨⟨o, es, ho, hc, hd, he, hn⟩, _⟩ := I.hok a _ h1
  refine ⟨xs, h1, h2, h3, h4, o, es, ep, ho, hc, hd, he, fun x hx => ?_, hn⟩
  obtain ⟨p, _, q⟩ := paired_mem h4 hx
  exact key_is I q.1 q.2.1
theorem ent_len {K : PySem.W.Frag} {xs : List (NestedKey × Addr × Value)} (h : Paired (Ent K H) kvs xs) : kvs.length = xs.length := h.length
theorem look_cons {κ : Type} [DecidableEq κ] (p : κ × D) (r : List (κ × D)) (k : κ) : look (p :: r) k = if p.1 = k then some p.2 else look r k := by
  unfold look
  by_cases e : p.1 = k <;> simp [List.find?_cons, e]
theorem atKey_cons {κ : Type} [DecidableEq κ] (p : κ × Addr × Value) (r : List (κ × Addr × Value)) (k : κ) : atKey (p :: r) k = if p.1 = k then some p.2 else atKey r k := by
  unfold atKey
  by_cases e : p.1 = k <;> simp [List.find?_cons, e]
theorem ent_look {K : PySem.W.Frag} {d : D} {k : NestedKey} (hk : tkey d = some k) : ∀ {kvs : List (D × D)} {xs : List (NestedKey × Addr × Value)}, Paired (Ent K H) kvs xs →
    (look kvs d = none ∧ atKey xs k = none) ∨ ∃ dv b u v, look kvs d = some dv ∧ atKey xs k = some (b, u) ∧ RelV v u ∧ Dv K H dv v
  | _, _, .nil => .inl ⟨rfl, rfl⟩
  | p :: kvs, x :: xs, .cons r t => by
    rw [look_cons, atKey_cons]
    obtain ⟨r1, r2, v, r3, r4⟩ := r
    by_cases e : p.1 = d
    · have e' : x.1 = k := by rw [e, hk] at r1; exact (Option.some.inj r1).symm
      rw [if_pos e, if_pos e']
      exact .inr ⟨_, x.2.1, x.2.2, v, rfl, rfl, r3, r4⟩
    · have e' : ¬ x.1 = k := fun z => e (tkey_inj (by rw [r1, z]) hk)
      rw [if_neg e, if_neg e']
      exact ent_look hk t
theorem ent_put {K : PySem.W.Frag} {d dv : D} {k : NestedKey} {b : Addr} {v : V} {u : Value} (hk : tkey d = some k) (hb : Dv K H d (.ref b)) (rv : RelV v u) (hv : Dv K H dv v) {kvs : List (D × D)} {xs : List (NestedKey × Addr × Value)} (h : Paired (Ent K H) kvs xs) :
    Paired (Ent K H) (put kvs d dv) (storedH xs k b u) := by
  unfold put storedH
  have go : ∀ {kvs : List (D × D)} {xs : List (NestedKey × Addr × Value)}, Paired (Ent K H) kvs xs → Paired (Ent K H) (kvs.map fun p => if p.1 = d then (p.1, dv) else p) (xs.map (putAt k u)) := by
    intro kvs xs h
    induction h with
    | nil => exact .nil
    | @cons p x l m r t ih =>
      refine .cons ?_ ih
      obtain ⟨r1, r2, v', r3, r4⟩ := r
      unfold putAt
      dsimp only
      by_cases e : p.1 = d
      · have e' : x.1 = k := by rw [e, hk] at r1; exact (Option.some.inj r1).symm
        rw [if_pos e, if_pos e']
        exact ⟨r1, r2, v, rv, hv⟩
      · have e' : ¬ x.1 = k := fun z => e (tkey_inj (by rw [r1, z]) hk)
        rw [if_neg e, if_neg e']
        exact ⟨r1, r2, v', r3, r4⟩
  rcases ent_look hk h with ⟨e1, e2⟩ | ⟨_, _, _, _, e1, e2, _⟩
  · rw [e1, e2]
    exact h.snoc ⟨hk, hb, v, rv, hv⟩
  · rw [e1, e2]
    exact go h
theorem ent_drop {K : PySem.W.Frag} {d : D} {k : NestedKey} (hk : tkey d = some k) : ∀ {kvs : List (D × D)} {xs : List (NestedKey × Addr × Value)}, Paired (Ent K H) kvs xs → Paired (Ent K H) (drop kvs d) (withoutH xs k)
  | _, _, .nil => .nil
  | p :: kvs, x :: xs, .cons r t => by
    have ih := ent_drop hk t
    unfold drop withoutH at *
    rw [List.filter_cons, List.filter_cons]
    by_cases e : p.1 = d
    · have e' : x.1 = k := by have r1 := r.1; rw [e, hk] at r1; exact (Option.some.inj r1).symm
      simp only [e, e', ne_eq, not_true_eq_false, decide_false, Bool.false_eq_true, if_false]
      exact ih
    · have e' : ¬ x.1 = k := fun z => e (tkey_inj (by rw [r.1, z]) hk)
      simp only [e, e', ne_eq, not_false_eq_true, decide_true, if_true]
      exact .cons r ih
theorem length_withoutH (xs : List (NestedKey × Addr × Value)) (k : NestedKey) : (withoutH xs k).length ≤ xs.length := List.length_filter_le _ _
theorem length_storedH (xs : List (NestedKey × Addr × Value)) (k : NestedKey) (b : Addr) (u : Value) : (storedH xs k b u).length ≤ xs.length + 1 := by
  unfold storedH
  split
  · rw [List.length_map]; omega
  · rw [List.length_append]; simp
theorem dictO_ok {P : Program} {w : World} {a : Addr} {H' : Hp} {h' : Heap} {xs : List (NestedKey × Addr × Value)} (dd : h'.DictOfH (nestedKind P w) a xs) : ∃ ep, ObjOk P w H' h' a (dictO P w a xs ep) := by
  obtain ⟨o, es, ep, ho, hc, hd, he, hi, hn⟩ := dd
  exact ⟨ep, ⟨o, es, ho, hc, hd, he, hn⟩, ⟨o, ho⟩, fun h1 h2 ⟨o, es, q, r⟩ k => ⟨o, es, k o q, r⟩⟩
theorem dit_write {xs xs' : List (NestedKey × Addr × Value)} {ep : Nat} {h' : Heap} {t' : Nat} (I : Inv X pins σ H s) (d : Dit X H s.heap a kvs ep xs) (dd : h'.DictOfH (nestedKind X.prog X.w) a xs') (hs : Heap.SameBut a s.heap h') :
    ∃ ep', Inv X pins σ (upd H a (dictO X.prog X.w a xs' ep')) { s with heap := h', toks := t' } := by
  obtain ⟨o, es, _, ho, _⟩ := id dd
  obtain ⟨ep', ok⟩ := dictO_ok (H' := fun b => if b = a then none else H b) dd
  refine ⟨ep', d_write (t' := t') I (by rw [d.at_]; trivial) hs ⟨o, ho⟩ ok⟩
theorem ObjD.dit_upd {xs' : List (NestedKey × Addr × Value)} {kvs' : List (D × D)} {ep' : Nat} {u : HO} (e : H a = some u) (n : NoTup u) (sys : (a == sysModules) = false) (l : xs'.length ≤ sizeLine) (h : Paired (Ent X.K H) kvs' xs') :
    ObjD X.prog X.w X.K (upd H a (dictO X.prog X.w a xs' ep')) a (.dit kvs' ep') := ⟨xs', upd_same, sys, l, Paired.mapP h fun _ _ z => z.mono (TupP.changed e n)⟩
theorem room8 {A : Around} (hu : A.units + 64 < cLine) {P : Program} {w : World} : (nestedKind P w).room A.in1 := by show A.units + 1 + 8 < cLine; omega
theorem nokey {knd : HeapKind X.prog X.w NestedKey} {xs : List (NestedKey × Addr × Value)} (x : s.heap.DictOfH knd a xs) : s.TypeIs (.ref a) "dict" := x.typeIs
end
def keyD : D → Option Key
  | .int i => some (.inl i)
  | .str x => some (.inr x)
  | _ => none
def keyOf : Key → D
  | .inl i => .int i
  | .inr x => .str x
theorem keyD_dv {K : PySem.W.Frag} {H : Hp} {d : D} {k : Key} {v : V} (h : keyD d = some k) (r : Dv K H d v) : v = kV k := by
  cases d with
  | int i => rw [dv_int] at r; subst r; simp only [keyD, Option.some.injEq] at h; subst h; rfl
  | str x => rw [dv_str] at r; subst r; simp only [keyD, Option.some.injEq] at h; subst h; rfl
  | _ => simp [keyD] at h
theorem fld_look {κ : Type} [DecidableEq κ] {K : PySem.W.Frag} {H : Hp} (k : κ) : ∀ {kvs : List (κ × D)} {vs : List (κ × V)}, Paired (Fld K H) kvs vs →
    (look kvs k = none ∧ valV vs k = none) ∨ ∃ d v, look kvs k = some d ∧ valV vs k = some v ∧ Dv K H d v
  | _, _, .nil => .inl ⟨rfl, rfl⟩
  | p :: kvs, x :: xs, .cons r t => by
    rw [look_cons]
    by_cases e : p.1 = k
    · have e' : x.1 = k := r.1.symm.trans e
      rw [if_pos e, valV_pos e']
      exact .inr ⟨_, _, rfl, rfl, r.2⟩
    · have e' : ¬ x.1 = k := fun z => e (r.1.trans z)
      rw [if_neg e, valV_neg e']
      exact fld_look k t
theorem fld_put {κ : Type} [DecidableEq κ] {K : PySem.W.Frag} {H : Hp} {k : κ} {d : D} {v : V} (q : Dv K H d v) {kvs : List (κ × D)} {vs : List (κ × V)} (h : Paired (Fld K H) kvs vs) : Paired (Fld K H) (put kvs k d) (putK vs k v) := by
  unfold put putK
  have go : ∀ {kvs : List (κ × D)} {vs : List (κ × V)}, Paired (Fld K H) kvs vs → Paired (Fld K H) (kvs.map fun p => if p.1 = k then (p.1, d) else p) (vs.map fun p => if p.1 = k then (p.1, v) else p) := by
    intro kvs vs h
    induction h with
    | nil => exact .nil
    | @cons p x l m r t ih =>
      refine .cons ?_ ih
      dsimp only
      by_cases e : p.1 = k
      · rw [if_pos e, if_pos (r.1.symm.trans e)]
        exact ⟨r.1, q⟩
      · rw [if_neg e, if_neg fun z => e (r.1.trans z)]
        exact r
  rw [valV_any]
  rcases fld_look k h with ⟨e1, e2⟩ | ⟨_, _, e1, e2, _⟩
  · rw [e1, e2]
    exact h.snoc ⟨rfl, q⟩
  · rw [e1, e2]
    exact go h
theorem fld_drop {κ : Type} [DecidableEq κ] {K : PySem.W.Frag} {H : Hp} (k : κ) : ∀ {kvs : List (κ × D)} {vs : List (κ × V)}, Paired (Fld K H) kvs vs → Paired (Fld K H) (drop kvs k) (dropK vs k)
  | _, _, .nil => .nil
  | p :: kvs, x :: xs, .cons r t => by
    have ih := fld_drop k t
    unfold drop dropK at *
    rw [List.filter_cons, List.filter_cons]
    by_cases e : p.1 = k
    · have e' : x.1 = k := r.1.symm.trans e
      simp only [e, e', ne_eq, not_true_eq_false, decide_false, Bool.false_eq_true, if_false]
      exact ih
    · have e' : ¬ x.1 = k := fun z => e (r.1.trans z)
      simp only [e, e', ne_eq, not_false_eq_true, decide_true, if_true]
      exact .cons r ih
def OptDv (K : PySem.W.Frag) (H : Hp) : Option D → Option V → Prop
  | some d, some v => Dv K H d v
  | none, none => True
  | _, _ => False
def lookD (S : Sto) (o i : D) : Option (Option D) := match o with
  | .ref a => match S a with
    | some (.dik kvs) => match keyD i with
      | some k => some (look kvs k)
      | none => none
    | some (.dit kvs _) => match tkey i with
      | some _ => some (look kvs i)
      | none => none
    | _ => none
  | _ => none
section
variable {X : Cx} {pins : List (Addr × Obj)} {σ : St} {H : Hp} {s : Shared} {δ : DEnv} {S : Sto} {σ' : St} {o i : D} {x y : V} {v u : Value} {r : Option D} {A : Around} {E : Value → Shared → Prop}
theorem lookD_cases (R : Rel X δ S σ' H) (ho : Dv X.K H o x) (hi : Dv X.K H i y) (h : lookD S o i = some r) :
    ∃ a, o = .ref a ∧ x = .ref a ∧ ((∃ rv, DGet H a y rv ∧ OptDv X.K H r rv ∧ ∃ kvs', H a = some (.dK kvs')) ∨
      ∃ kvs ep k b, S a = some (.dit kvs ep) ∧ tkey i = some k ∧ y = .ref b ∧ r = look kvs i) := by
  unfold lookD at h
  cases o with
  | ref a =>
    rw [dv_ref] at ho
    subst ho
    refine ⟨a, rfl, rfl, ?_⟩
    simp only at h
    split at h
    · rename_i kvs e
      split at h
      · rename_i k hk
        cases h
        have hy := keyD_dv hk hi
        subst hy
        obtain ⟨kvs', h1, h2⟩ := R.sto a _ e
        refine .inl ⟨valV kvs' k, DGet.k h1, ?_, kvs', h1⟩
        rcases fld_look k h2 with ⟨e1, e2⟩ | ⟨d, v, e1, e2, q⟩
        · rw [e1, e2]; trivial
        · rw [e1, e2]; exact q
      · cases h
    · rename_i kvs ep e
      split at h
      · rename_i k hk
        cases h
        obtain ⟨b, rfl⟩ := tup_addr hk hi
        exact .inr ⟨kvs, ep, k, b, e, hk, rfl, rfl⟩
      · cases h
    · cases h
  | _ => simp at h
theorem lookD_getItem {Q : Value → Shared → Prop} {d : D} (hu : A.units + 64 < cLine) (I : Inv X pins σ H s) (R : Rel X δ S σ' H) (ho : Dv X.K H o x) (hi : Dv X.K H i y) (h : lookD S o i = some (some d)) (rx : RelV x v) (ry : RelV y u)
    (q : ∀ z w' s', Inv X pins σ H s' → RelV z w' → Dv X.K H d z → Q w' s') : wpAny (model X.prog X.w) A (getItem v u) Q E s := by
  obtain ⟨a, rfl, rfl, h | h⟩ := lookD_cases R ho hi h
  · obtain ⟨rv, g, m, _⟩ := h
    cases rv with
    | none => exact m.elim
    | some z => cases rx; exact d_getItem (by omega) I g ry fun w' s' I' rw' => q z w' s' I' rw' m
  · obtain ⟨kvs, ep, k, b, e, hk, rfl, er⟩ := h
    cases rx
    cases ry
    obtain ⟨xs, d2⟩ := dit_of I (R.sto a _ e)
    rcases ent_look hk d2.ent with ⟨e1, e2⟩ | ⟨dv, b', u', v', e1, e2, rv, q1⟩
    · rw [e1] at er; cases er
    · rw [e1] at er; cases er
      exact wpAny_getItem_heap (room8 hu) (key_is I hk hi) d2.raw e2 (q v' u' _ (I.tok _) rv q1)
theorem lookD_in {Q : Value → Shared → Prop} (hu : A.units + 64 < cLine) (I : Inv X pins σ H s) (R : Rel X δ S σ' H) (ho : Dv X.K H o x) (hi : Dv X.K H i y) (h : lookD S o i = some r) (rx : RelV x v) (ry : RelV y u)
    (q : ∀ s', Inv X pins σ H s' → Q (.bool r.isSome) s') : wpAny (model X.prog X.w) A (compareOp .In u v) Q E s := by
  obtain ⟨a, rfl, rfl, h | h⟩ := lookD_cases R ho hi h
  · obtain ⟨rv, g, m, _⟩ := h
    have e : r.isSome = rv.isSome := by cases r <;> cases rv <;> first | rfl | exact m.elim
    rw [e] at q
    cases rx; exact d_in (by omega) I g ry q
  · obtain ⟨kvs, ep, k, b, e, hk, rfl, er⟩ := h
    cases rx
    cases ry
    obtain ⟨xs, d2⟩ := dit_of I (R.sto a _ e)
    have e3 : r.isSome = (atKey xs k).isSome := by
      rw [er]
      rcases ent_look hk d2.ent with ⟨e1, e2⟩ | ⟨dv, b', u', v', e1, e2, rv, q1⟩ <;> rw [e1, e2] <;> rfl
    rw [e3] at q
    exact wpAny_in_heap (room8 hu) (key_is I hk hi) d2.sys d2.raw (q _ (I.tok _))
theorem lookD_notIn {Q : Value → Shared → Prop} (hu : A.units + 64 < cLine) (I : Inv X pins σ H s) (R : Rel X δ S σ' H) (ho : Dv X.K H o x) (hi : Dv X.K H i y) (h : lookD S o i = some r) (rx : RelV x v) (ry : RelV y u)
    (q : ∀ s', Inv X pins σ H s' → Q (.bool (!r.isSome)) s') : wpAny (model X.prog X.w) A (compareOp .NotIn u v) Q E s := by
  obtain ⟨a, rfl, rfl, h | h⟩ := lookD_cases R ho hi h
  · obtain ⟨rv, g, m, _⟩ := h
    have e : r.isSome = rv.isSome := by cases r <;> cases rv <;> first | rfl | exact m.elim
    rw [e] at q
    cases rx; exact d_notIn (by omega) I g ry q
  · obtain ⟨kvs, ep, k, b, e, hk, rfl, er⟩ := h
    cases rx
    cases ry
    obtain ⟨xs, d2⟩ := dit_of I (R.sto a _ e)
    have e3 : r.isSome = (atKey xs k).isSome := by
      rw [er]
      rcases ent_look hk d2.ent with ⟨e1, e2⟩ | ⟨dv, b', u', v', e1, e2, rv, q1⟩ <;> rw [e1, e2] <;> rfl
    rw [e3] at q
    exact notIn_keyed (knd := nestedKind X.prog X.w) (kvs := pairsH xs) (room8 hu) (key_is I hk hi) d2.sys ⟨xs, d2.raw, rfl⟩ (by rw [valueAt_pairsH, Option.isSome_map]; exact q _ (I.tok _))
theorem lookD_get1 {Q : Value → Shared → Prop} (hu : A.units + 64 < cLine) (I : Inv X pins σ H s) (R : Rel X δ S σ' H) (ho : Dv X.K H o x) (hi : Dv X.K H i y) (h : lookD S o i = some r) (rx : RelV x v) (ry : RelV y u)
    (q : ∀ z w' s', Inv X pins σ H s' → RelV z w' → Dv X.K H (r.getD .non) z → Q w' s') : wpAny (model X.prog X.w) A (call (.builtin "dict.get") [v, u]) Q E s := by
  obtain ⟨a, rfl, rfl, h | h⟩ := lookD_cases R ho hi h
  · obtain ⟨rv, g, m, _⟩ := h
    cases rx
    refine d_get1 (by omega) I g ry fun w' s' I' rw' => q _ w' s' I' rw' ?_
    cases r <;> cases rv <;> first | exact dv_non.mpr rfl | exact m | exact m.elim
  · obtain ⟨kvs, ep, k, b, e, hk, rfl, er⟩ := h
    cases rx
    cases ry
    obtain ⟨xs, d2⟩ := dit_of I (R.sto a _ e)
    refine call_meetsIn F.slot_dict_get d2.raw.typeIs F.entry_dict_get (F.args_dict_get_2 _ _) (meetsH_dict_get (nestedKind X.prog X.w) a b d2.sys) ⟨room8 hu, k, xs, key_is I hk hi, d2.raw, ?_⟩
    rcases ent_look hk d2.ent with ⟨e1, e2⟩ | ⟨dv, b', u', v', e1, e2, rv, q1⟩
    · rw [e2]; rw [e1] at er; subst er
      exact q .non .none _ (I.tok _) rfl (dv_non.mpr rfl)
    · rw [e2]; rw [e1] at er; subst er
      exact q v' u' _ (I.tok _) rv q1
theorem lookD_get2 {Q : Value → Shared → Prop} {z : D} {zv : V} {zu : Value} (hu : A.units + 64 < cLine) (I : Inv X pins σ H s) (R : Rel X δ S σ' H) (ho : Dv X.K H o x) (hi : Dv X.K H i y) (hz : Dv X.K H z zv) (h : lookD S o i = some r) (rx : RelV x v) (ry : RelV y u) (rz : RelV zv zu)
    (q : ∀ z' w' s', Inv X pins σ H s' → RelV z' w' → Dv X.K H (r.getD z) z' → Q w' s') : wpAny (model X.prog X.w) A (call (.builtin "dict.get") [v, u, zu]) Q E s := by
  obtain ⟨a, rfl, rfl, h | h⟩ := lookD_cases R ho hi h
  · obtain ⟨rv, g, m, _⟩ := h
    cases rx
    refine d_get2 (by omega) I g ry rz fun w' s' I' rw' => q _ w' s' I' rw' ?_
    cases r <;> cases rv <;> first | exact hz | exact m | exact m.elim
  · obtain ⟨kvs, ep, k, b, e, hk, rfl, er⟩ := h
    cases rx
    cases ry
    obtain ⟨xs, d2⟩ := dit_of I (R.sto a _ e)
    refine call_meetsIn F.slot_dict_get d2.raw.typeIs F.entry_dict_get (F.args_dict_get_3 _ _ _) (meetsH_dict_get_default (nestedKind X.prog X.w) a b d2.sys zu) ⟨room8 hu, k, xs, key_is I hk hi, d2.raw, ?_⟩
    rcases ent_look hk d2.ent with ⟨e1, e2⟩ | ⟨dv, b', u', v', e1, e2, rv, q1⟩
    · rw [e2]; rw [e1] at er; subst er
      exact q zv zu _ (I.tok _) rz hz
    · rw [e2]; rw [e1] at er; subst er
      exact q v' u' _ (I.tok _) rv q1
end
end DL
set_option maxRecDepth 100000
namespace DL
open PySem L2
def rAddD : RD2 := fun x y S Q => match x, y with
  | .int i, .int j => Q (.int (i + j)) S
  | .str a, .str b => a.length + b.length ≤ sizeLine ∧ Q (.str (a ++ b)) S
  | .tup xs, .tup ys => xs.length + ys.length ≤ sizeLine ∧ Q (.tup (xs ++ ys)) S
  | .ref a, .ref b => match S a, S b with
    | some (.lst xs), some (.lst ys) => xs.length + ys.length ≤ sizeLine ∧ ∀ p, S p = none → Q (.ref p) (sup S p (.lst (xs ++ ys)))
    | _, _ => False
  | _, _ => False
def rIntD (C : Int → Int → Prop) (g : Int → Int → D) : RD2 := fun x y S Q => match x, y with
  | .int i, .int j => C i j ∧ Q (g i j) S
  | _, _ => False
theorem rIntD_mono {C : Int → Int → Prop} {g : Int → Int → D} : MonoR2 (rIntD C g) := fun x y S Q Q' h q => by
  unfold rIntD at *
  split at q
  · exact ⟨q.1, h _ _ q.2⟩
  · exact q.elim
theorem rAddD_mono : MonoR2 rAddD := fun x y S Q Q' h q => by
  unfold rAddD at *
  split at q
  · exact h _ _ q
  · exact ⟨q.1, h _ _ q.2⟩
  · exact ⟨q.1, h _ _ q.2⟩
  · split at q
    · exact ⟨q.1, fun p hp => h _ _ (q.2 p hp)⟩
    · exact q.elim
  · exact q.elim
section
variable {X : Cx}
theorem dop_int {f : Value → Value → Sem Value} {C : Int → Int → Prop} {g : Int → Int → D} {gV : Int → Int → V} (ho : OpR X f (rI C gV)) (hg : ∀ H i j, Dv X.K H (g i j) (gV i j)) : DOp X f (rIntD C g) := by
  refine ⟨rIntD_mono, fun pins s σ H x y v u Q I rx ry h => ?_⟩
  obtain ⟨δ, S, σ', dx, dy, R, hx, hy, q⟩ := h
  unfold rIntD at q
  split at q
  · rename_i i j
    rw [dv_int] at hx hy
    subst hx hy
    exact ho pins s σ H _ _ v u Q I rx ry ⟨i, j, rfl, rfl, q.1, q.2 _ H R (hg H i j) .refl⟩
  · exact q.elim
theorem rI_of {f : Value → Value → Sem Value} {g : Int → Int → V} (h : OpR X f (rI0 g)) : OpR X f (rI (fun _ _ => True) g) := fun pins s σ H x y v u Q I rx ry ⟨i, j, e1, e2, _, q⟩ => h pins s σ H x y v u Q I rx ry ⟨i, j, e1, e2, q⟩
theorem dop_sub : DOp X (binaryOp .Sub) (rIntD (fun _ _ => True) fun i j => .int (i - j)) := dop_int (rI_of op_sub) fun _ _ _ => dv_int.mpr rfl
theorem dop_mul : DOp X (binaryOp .Mult) (rIntD CMul fun i j => .int (i * j)) := dop_int op_mul fun _ _ _ => dv_int.mpr rfl
theorem dop_mod : DOp X (binaryOp .Mod) (rIntD (fun _ j => 0 < j) fun i j => .int (i % j)) := dop_int op_mod fun _ _ _ => dv_int.mpr rfl
theorem dop_fdiv : DOp X (binaryOp .FloorDiv) (rIntD CDiv fun i j => .int (i / j)) := dop_int op_fdiv fun _ _ _ => dv_int.mpr rfl
theorem dop_pow : DOp X (binaryOp .Pow) (rIntD CPow fun i j => .int (i ^ j.toNat)) := dop_int op_pow fun _ _ _ => dv_int.mpr rfl
theorem dop_lt : DOp X (compareOp .Lt) (rIntD (fun _ _ => True) fun i j => .bl (decide (i < j))) := dop_int (rI_of op_lt) fun _ _ _ => dv_bl.mpr rfl
theorem dop_le : DOp X (compareOp .LtE) (rIntD (fun _ _ => True) fun i j => .bl (decide (i ≤ j))) := dop_int (rI_of op_le) fun _ _ _ => dv_bl.mpr rfl
theorem dop_gt : DOp X (compareOp .Gt) (rIntD (fun _ _ => True) fun i j => .bl (decide (j < i))) := dop_int (rI_of op_gt) fun _ _ _ => dv_bl.mpr rfl
theorem dop_ge : DOp X (compareOp .GtE) (rIntD (fun _ _ => True) fun i j => .bl (decide (j ≤ i))) := dop_int (rI_of op_ge) fun _ _ _ => dv_bl.mpr rfl
theorem Dvs.nil_iff {K : PySem.W.Frag} {H : Hp} {ds : List D} {vs : List V} (h : Dvs K H ds vs) : vs = [] ↔ ds = [] := by
  have := h.length
  constructor
  · rintro rfl; exact List.length_eq_zero_iff.mp this
  · rintro rfl; exact List.length_eq_zero_iff.mp this.symm
theorem dop_add : DOp X (binaryOp .Add) rAddD := by
  refine ⟨rAddD_mono, fun pins s σ H x y v u Q I rx ry h => ?_⟩
  obtain ⟨δ, S, σ', dx, dy, R, hx, hy, q⟩ := h
  unfold rAddD at q
  split at q
  · rename_i i j
    rw [dv_int] at hx hy
    subst hx hy
    exact op_add pins s σ H _ _ v u Q I rx ry ⟨i, j, rfl, rfl, q _ H R (dv_int.mpr rfl) .refl⟩
  · rename_i i j
    rw [dv_str] at hx hy
    subst hx hy
    exact op_add_str pins s σ H _ _ v u Q I rx ry ⟨i, j, rfl, rfl, q.1, q.2 _ H R (dv_str.mpr rfl) .refl⟩
  · rename_i xs ys
    rw [dv_tup] at hx hy
    obtain ⟨a, vs, rfl, sx, dx⟩ := hx
    obtain ⟨b, ws, rfl, sy, dy⟩ := hy
    refine op_catA pins s σ H _ _ v u Q I rx ry ⟨a, b, vs, ws, rfl, rfl, sx, sy, by rw [← dx.length, ← dy.length]; exact q.1, fun e => ?_, fun e e2 => ?_, fun e e2 p hp => ?_⟩
    · obtain rfl := dx.nil_iff.mp e
      exact q.2 _ H R (dv_tup.mpr ⟨b, ws, rfl, sy, dy⟩) .refl
    · obtain rfl := dy.nil_iff.mp e2
      exact q.2 _ H R (by rw [List.append_nil]; exact dv_tup.mpr ⟨a, vs, rfl, sx, dx⟩) .refl
    · exact q.2 _ _ (R.laid hp) (Dv.new_tup (dx.append dy) hp) (TupP.laid hp)
  · rename_i a b
    rw [dv_ref] at hx hy
    subst hx hy
    split at q
    · rename_i xs ys e1 e2
      obtain ⟨vs, h1, d1⟩ := R.sto _ _ e1
      obtain ⟨ws, h2, d2⟩ := R.sto _ _ e2
      exact op_cat pins s σ H _ _ v u Q I rx ry ⟨a, b, vs, ws, rfl, rfl, h1, h2, by rw [← d1.length, ← d2.length]; exact q.1, fun p hp => q.2 p (R.free hp) _ _ (R.new hp (ObjD.new_lst (d1.append d2) hp)) (dv_ref.mpr rfl) (TupP.laid hp)⟩
    · exact q.elim
  · exact q.elim
end
mutual
def pd : D → Option PyData
  | .non => some .none
  | .bl b => some (.bool b)
  | .int i => some (.int i)
  | .str x => some (.str x)
  | .tup xs => (pds xs).map .tuple
  | .ref _ => none
  | .fro _ => none
  | .lis xs => (pds xs).map .list
def pds : List D → Option (List PyData)
  | [] => some []
  | d :: ds => match pd d, pds ds with
    | some p, some ps => some (p :: ps)
    | _, _ => none
end
def dataD (S : Sto) : D → Option PyData
  | .ref a => match S a with
    | some (.lst ds) => (pds ds).map .list
    | _ => none
  | d => pd d
section
variable {K : PySem.W.Frag} {H : Hp}
mutual
theorem pd_dp : ∀ (d : D) (v : V) (p : PyData), Dv K H d v → pd d = some p → Dp K H v p
  | .non, v, p, h, e => by rw [dv_non] at h; subst h; simp only [pd, Option.some.injEq] at e; subst e; exact .non
  | .bl b, v, p, h, e => by rw [dv_bl] at h; subst h; simp only [pd, Option.some.injEq] at e; subst e; exact .bl b
  | .int i, v, p, h, e => by rw [dv_int] at h; subst h; simp only [pd, Option.some.injEq] at e; subst e; exact .int i
  | .str x, v, p, h, e => by rw [dv_str] at h; subst h; simp only [pd, Option.some.injEq] at e; subst e; exact .str x
  | .ref a, v, p, h, e => by simp [pd] at e
  | .fro a, v, p, h, e => by simp [pd] at e
  | .lis xs, v, p, h, e => by
    rw [dv_lis] at h
    obtain ⟨a, vs, rfl, ⟨o, sx⟩, dx⟩ := h
    simp only [pd, Option.map_eq_some_iff] at e
    obtain ⟨ps, e1, rfl⟩ := e
    exact .lst (.inl (.inr ⟨o, sx⟩)) (pds_dp xs vs ps dx e1)
  | .tup xs, v, p, h, e => by
    rw [dv_tup] at h
    obtain ⟨a, vs, rfl, sx, dx⟩ := h
    simp only [pd, Option.map_eq_some_iff] at e
    obtain ⟨ps, e1, rfl⟩ := e
    exact .tup sx (pds_dp xs vs ps dx e1)
theorem pds_dp : ∀ (ds : List D) (vs : List V) (ps : List PyData), Dvs K H ds vs → pds ds = some ps → DpAll K H vs ps
  | [], vs, ps, h, e => by
    rw [Dvs] at h; subst h
    unfold pds at e
    cases e
    exact .nil
  | d :: ds, vs, ps, h, e => by
    rw [Dvs] at h
    obtain ⟨v, r, rfl, h1, h2⟩ := h
    unfold pds at e
    split at e
    · rename_i p1 ps1 e1 e2
      cases e
      exact .cons (pd_dp d v p1 h1 e1) (pds_dp ds r ps1 h2 e2)
    · cases e
end
theorem dataD_dp {X : Cx} {δ : DEnv} {S : Sto} {σ : St} {d : D} {v : V} {p : PyData} (R : Rel X δ S σ H) (h : Dv X.K H d v) (e : dataD S d = some p) : Dp X.K H v p := by
  unfold dataD at e
  split at e
  · rename_i a
    rw [dv_ref] at h
    subst h
    split at e
    · rename_i ds e1
      obtain ⟨vs, h1, h2⟩ := R.sto _ _ e1
      obtain ⟨ps, e2, rfl⟩ := Option.map_eq_some_iff.mp e
      exact .lst (SqL.of h1) (pds_dp ds vs ps h2 e2)
    · cases e
  · exact pd_dp _ _ _ h e
end
def rEqD' (neg : Bool) : RD2 := fun x y S Q => match x, y with
  | .int i, .int j => Q (.bl (if neg then !decide (i = j) else decide (i = j))) S
  | .str i, .str j => Q (.bl (if neg then !decide (i = j) else decide (i = j))) S
  | .bl i, .bl j => Q (.bl (if neg then !decide (i = j) else decide (i = j))) S
  | x, y => match dataD S x, dataD S y with
    | some a, some b => SeqAt.shaped a = true ∧ SeqAt.shaped b = true ∧ Q (.bl (if neg then !PyData.eqv a b else PyData.eqv a b)) S
    | _, _ => False
theorem rEqD'_mono {neg : Bool} : MonoR2 (rEqD' neg) := fun x y S Q Q' h q => by
  unfold rEqD' at *
  split at q
  · exact h _ _ q
  · exact h _ _ q
  · exact h _ _ q
  · split at q
    · exact ⟨q.1, q.2.1, h _ _ q.2.2⟩
    · exact q.elim
section
variable {X : Cx}
theorem dop_eq (hu : X.A.units + 64 < cLine) : DOp X (compareOp .Eq) (rEqD' false) := by
  refine ⟨rEqD'_mono, fun pins s σ H x y v u Q I rx ry h => ?_⟩
  obtain ⟨δ, S, σ', dx, dy, R, hx, hy, q⟩ := h
  unfold rEqD' at q
  split at q
  · rename_i i j
    rw [dv_int] at hx hy
    subst hx hy
    refine op_eq pins s σ H _ _ v u Q I rx ry ⟨rfl, ?_⟩
    have e : decide (V.int i = V.int j) = decide (i = j) := by by_cases z : i = j <;> simp [z]
    rw [e]; exact q _ H R (dv_bl.mpr rfl) .refl
  · rename_i i j
    rw [dv_str] at hx hy
    subst hx hy
    refine op_eq pins s σ H _ _ v u Q I rx ry ⟨rfl, ?_⟩
    have e : decide (V.str i = V.str j) = decide (i = j) := by by_cases z : i = j <;> simp [z]
    rw [e]; exact q _ H R (dv_bl.mpr rfl) .refl
  · rename_i i j
    rw [dv_bl] at hx hy
    subst hx hy
    refine op_eq pins s σ H _ _ v u Q I rx ry ⟨rfl, ?_⟩
    have e : decide (V.bl i = V.bl j) = decide (i = j) := by by_cases z : i = j <;> simp [z]
    rw [e]; exact q _ H R (dv_bl.mpr rfl) .refl
  · split at q
    · rename_i a b e1 e2
      exact op_eqD hu pins s σ H _ _ v u Q I rx ry ⟨a, b, dataD_dp R hx e1, dataD_dp R hy e2, q.1, q.2.1, q.2.2 _ H R (dv_bl.mpr rfl) .refl⟩
    · exact q.elim
theorem dop_ne (hu : X.A.units + 64 < cLine) : DOp X (compareOp .NotEq) (rEqD' true) := by
  refine ⟨rEqD'_mono, fun pins s σ H x y v u Q I rx ry h => ?_⟩
  obtain ⟨δ, S, σ', dx, dy, R, hx, hy, q⟩ := h
  unfold rEqD' at q
  split at q
  · rename_i i j
    rw [dv_int] at hx hy
    subst hx hy
    refine op_ne pins s σ H _ _ v u Q I rx ry ⟨rfl, ?_⟩
    have e : decide (V.int i = V.int j) = decide (i = j) := by by_cases z : i = j <;> simp [z]
    rw [e]; exact q _ H R (dv_bl.mpr rfl) .refl
  · rename_i i j
    rw [dv_str] at hx hy
    subst hx hy
    refine op_ne pins s σ H _ _ v u Q I rx ry ⟨rfl, ?_⟩
    have e : decide (V.str i = V.str j) = decide (i = j) := by by_cases z : i = j <;> simp [z]
    rw [e]; exact q _ H R (dv_bl.mpr rfl) .refl
  · rename_i i j
    rw [dv_bl] at hx hy
    subst hx hy
    refine op_ne pins s σ H _ _ v u Q I rx ry ⟨rfl, ?_⟩
    have e : decide (V.bl i = V.bl j) = decide (i = j) := by by_cases z : i = j <;> simp [z]
    rw [e]; exact q _ H R (dv_bl.mpr rfl) .refl
  · split at q
    · rename_i a b e1 e2
      exact op_neD hu pins s σ H _ _ v u Q I rx ry ⟨a, b, dataD_dp R hx e1, dataD_dp R hy e2, q.1, q.2.1, q.2.2 _ H R (dv_bl.mpr rfl) .refl⟩
    · exact q.elim
end
def isN : D → Bool
  | .non => true
  | _ => false
theorem isN_dv {K : PySem.W.Frag} {H : Hp} {d : D} {v : V} (h : Dv K H d v) : decide (v = .non) = isN d := by
  cases d with
  | non => rw [dv_non] at h; subst h; rfl
  | bl b => rw [dv_bl] at h; subst h; rfl
  | int b => rw [dv_int] at h; subst h; rfl
  | str b => rw [dv_str] at h; subst h; rfl
  | ref b => rw [dv_ref] at h; subst h; rfl
  | tup b => rw [dv_tup] at h; obtain ⟨_, _, rfl, _⟩ := h; rfl
  | fro b => rw [dv_fro] at h; obtain ⟨_, _, rfl, _⟩ := h; rfl
  | lis b => rw [dv_lis] at h; obtain ⟨_, _, rfl, _⟩ := h; rfl
def rIsN (neg : Bool) : RD2 := fun x y S Q => match y with
  | .non => Q (.bl (if neg then !isN x else isN x)) S
  | _ => False
theorem rIsN_mono {neg : Bool} : MonoR2 (rIsN neg) := fun x y S Q Q' h q => by
  unfold rIsN at *
  split at q
  · exact h _ _ q
  · exact q.elim
section
variable {X : Cx}
theorem dop_is : DOp X (compareOp .Is) (rIsN false) := by
  refine ⟨rIsN_mono, fun pins s σ H x y v u Q I rx ry h => ?_⟩
  obtain ⟨δ, S, σ', dx, dy, R, hx, hy, q⟩ := h
  unfold rIsN at q
  split at q
  · rw [dv_non] at hy
    subst hy
    refine op_isN pins s σ H _ _ v u Q I rx ry ⟨rfl, ?_⟩
    rw [isN_dv hx]; exact q _ H R (dv_bl.mpr rfl) .refl
  · exact q.elim
theorem dop_isnot : DOp X (compareOp .IsNot) (rIsN true) := by
  refine ⟨rIsN_mono, fun pins s σ H x y v u Q I rx ry h => ?_⟩
  obtain ⟨δ, S, σ', dx, dy, R, hx, hy, q⟩ := h
  unfold rIsN at q
  split at q
  · rw [dv_non] at hy
    subst hy
    refine op_notN pins s σ H _ _ v u Q I rx ry ⟨rfl, ?_⟩
    rw [isN_dv hx]; exact q _ H R (dv_bl.mpr rfl) .refl
  · exact q.elim
end
theorem str_one {c : Str} {n : Nat} (h : c.cps.toList = [n]) : c = ⟨#[n]⟩ := by
  cases c with
  | mk a =>
    have : a = #[n] := by
      have h' : a.toList = [n] := h
      exact Array.toList_inj.mp (by simpa using h')
    rw [this]
def inD (S : Sto) (x y : D) : Option Bool := match lookD S y x with
  | some r => some r.isSome
  | none => match x, y with
    | .str c, .str z => match c.cps.toList with
      | [n] => some (decide (n ∈ z.cps.toList))
      | _ => none
    | x, .tup ys => match pd x, pds ys with
      | some (.str c), some ps => if ps.all fun p => match p with | .str _ => true | _ => false then some (ps.any fun p => match p with | .str z => decide (z = c) | _ => false) else none
      | _, _ => none
    | x, y => match dataD S x, dataD S y with
      | some a, some (.list bs) => if SeqAt.shaped a = true ∧ SeqAt.shaped (.list bs) = true then some (bs.any fun z => PyData.eqv z a) else none
      | _, _ => none
def rIn' (neg : Bool) : RD2 := fun x y S Q => match inD S x y with
  | some b => Q (.bl (if neg then !b else b)) S
  | none => False
theorem rIn'_mono {neg : Bool} : MonoR2 (rIn' neg) := fun x y S Q Q' h q => by
  unfold rIn' at *
  split at q
  · exact h _ _ q
  · exact q.elim
section
variable {X : Cx}
theorem strs_flat {K : PySem.W.Frag} {H : Hp} {c : Str} : ∀ {ys : List D} {vs : List V} {ps : List PyData}, Dvs K H ys vs → pds ys = some ps → (ps.all fun p => match p with | .str _ => true | _ => false) = true →
    vs.all flatV = true ∧ inV (.str c) vs = ps.any fun p => match p with | .str z => decide (z = c) | _ => false
  | [], vs, ps, h, e, _ => by
    rw [Dvs] at h; subst h
    unfold pds at e
    cases e
    exact ⟨rfl, rfl⟩
  | d :: ds, vs, ps, h, e, a => by
    rw [Dvs] at h
    obtain ⟨v, r, rfl, h1, h2⟩ := h
    unfold pds at e
    split at e
    · rename_i p1 ps1 e1 e2
      cases e
      rw [List.all_cons, Bool.and_eq_true] at a
      obtain ⟨i1, i2⟩ := strs_flat (c := c) h2 e2 a.2
      cases d with
      | str z =>
        rw [dv_str] at h1; subst h1
        simp only [pd, Option.some.injEq] at e1; subst e1
        refine ⟨by rw [List.all_cons, i1]; rfl, ?_⟩
        unfold inV at *
        rw [List.any_cons, List.any_cons, i2]
        have e : eqV (.str z) (.str c) = decide (z = c) := by first | rfl | (unfold eqV; by_cases q : z = c <;> simp [q])
        rw [e]
      | non => simp only [pd, Option.some.injEq] at e1; subst e1; simp at a
      | bl b => simp only [pd, Option.some.injEq] at e1; subst e1; simp at a
      | int b => simp only [pd, Option.some.injEq] at e1; subst e1; simp at a
      | ref b => simp [pd] at e1
      | fro b => simp [pd] at e1
      | lis b => simp only [pd, Option.map_eq_some_iff] at e1; obtain ⟨_, _, rfl⟩ := e1; simp at a
      | tup b => simp only [pd, Option.map_eq_some_iff] at e1; obtain ⟨_, _, rfl⟩ := e1; simp at a
    · cases e
theorem dop_in (hu : X.A.units + 65 < cLine) : DOp X (compareOp .In) (rIn' false) := by
  refine ⟨rIn'_mono, fun pins s σ H x y v u Q I rx ry h => ?_⟩
  obtain ⟨δ, S, σ', dx, dy, R, hx, hy, q⟩ := h
  unfold rIn' at q
  split at q
  · rename_i b e
    have q' : Q (.bl b) H := q _ H R (dv_bl.mpr rfl) .refl
    unfold inD at e
    split at e
    · rename_i r er
      cases e
      exact lookD_in (by omega) I R hy hx er ry rx fun s' I' => ⟨.bl _, H, I', rfl, q'⟩
    · split at e
      · rename_i c z _
        rw [dv_str] at hx hy
        subst hx hy
        split at e
        · rename_i n en
          cases e
          refine op_in_sign pins s σ H _ _ v u Q I rx ry ⟨n, z, ?_, rfl, q'⟩
          rw [str_one en]
        · cases e
      · rename_i ys _
        split at e
        · rename_i c ps e1 e2
          split at e
          · rename_i al
            cases e
            obtain ⟨a, vs, rfl, sy, dy⟩ := dv_tup.mp hy
            have hx' : x = .str c := by
              cases dx <;> simp [pd, Option.map_eq_some_iff] at e1
              subst e1
              exact dv_str.mp hx
            subst hx'
            obtain ⟨i1, i2⟩ := strs_flat (c := c) dy e2 al
            exact op_in_seq pins s σ H _ _ v u Q I rx ry ⟨a, vs, rfl, .inr sy, rfl, i1, by rw [i2]; exact q'⟩
          · cases e
        · cases e
      · split at e
        · rename_i a bs e1 e2
          split at e
          · rename_i sh
            cases e
            exact op_inD hu pins s σ H _ _ v u Q I rx ry ⟨a, bs, dataD_dp R hx e1, dataD_dp R hy e2, sh.1, sh.2, q'⟩
          · cases e
        · cases e
  · exact q.elim
theorem dop_notin (hu : X.A.units + 65 < cLine) : DOp X (compareOp .NotIn) (rIn' true) := by
  refine ⟨rIn'_mono, fun pins s σ H x y v u Q I rx ry h => ?_⟩
  obtain ⟨δ, S, σ', dx, dy, R, hx, hy, q⟩ := h
  unfold rIn' at q
  split at q
  · rename_i b e
    have q' : Q (.bl (!b)) H := q _ H R (dv_bl.mpr rfl) .refl
    unfold inD at e
    split at e
    · rename_i r er
      cases e
      exact lookD_notIn (by omega) I R hy hx er ry rx fun s' I' => ⟨.bl _, H, I', rfl, q'⟩
    · split at e
      · rename_i c z _
        rw [dv_str] at hx hy
        subst hx hy
        split at e
        · rename_i n en
          cases e
          refine op_notIn_sign pins s σ H _ _ v u Q I rx ry ⟨n, z, ?_, rfl, q'⟩
          rw [str_one en]
        · cases e
      · rename_i ys _
        split at e
        · rename_i c ps e1 e2
          split at e
          · rename_i al
            cases e
            obtain ⟨a, vs, rfl, sy, dy⟩ := dv_tup.mp hy
            have hx' : x = .str c := by
              cases dx <;> simp [pd, Option.map_eq_some_iff] at e1
              subst e1
              exact dv_str.mp hx
            subst hx'
            obtain ⟨i1, i2⟩ := strs_flat (c := c) dy e2 al
            exact op_notIn_seq pins s σ H _ _ v u Q I rx ry ⟨a, vs, rfl, .inr sy, rfl, i1, by rw [i2]; exact q'⟩
          · cases e
        · cases e
      · split at e
        · rename_i a bs e1 e2
          split at e
          · rename_i sh
            cases e
            exact op_notInD hu pins s σ H _ _ v u Q I rx ry ⟨a, bs, dataD_dp R hx e1, dataD_dp R hy e2, sh.1, sh.2, q'⟩
          · cases e
        · cases e
  · exact q.elim
end
end DL
set_option maxRecDepth 100000
namespace DL
open PySem L2
section
variable {X : Cx} {a b c e o i value : Expr} {ta tb tc te td ti tv : TDE} {pos pos' tpos apos cpos : Pos}
def rIxD : RD2 := fun x y S Q => match x, y with
  | .tup xs, .int i => match atI xs i with
    | some d => Q d S
    | none => False
  | .fro xs, .int i => match atI xs i with
    | some d => Q d S
    | none => False
  | .lis xs, .int i => match atI xs i with
    | some d => Q d S
    | none => False
  | .str z, .int i => z.length ≤ sizeLine ∧ match atI z.cps.toList i with
    | some c => Q (.str ⟨#[c]⟩) S
    | none => False
  | .ref a, .int i => match S a with
    | some (.lst xs) => match atI xs i with
      | some d => Q d S
      | none => False
    | _ => False
  | _, _ => False
theorem rIxD_mono : MonoR2 rIxD := fun x y S Q Q' h q => by
  unfold rIxD at *
  split at q
  · split at q
    · exact h _ _ q
    · exact q.elim
  · split at q
    · exact h _ _ q
    · exact q.elim
  · split at q
    · exact h _ _ q
    · exact q.elim
  · refine ⟨q.1, ?_⟩
    have q2 := q.2
    split at q2
    · exact h _ _ q2
    · exact q2.elim
  · split at q
    · split at q
      · exact h _ _ q
      · exact q.elim
    · exact q.elim
  · exact q.elim
theorem atI_dvs {K : PySem.W.Frag} {H : Hp} {ds : List D} {vs : List V} {i : Int} {d : D} (h : Dvs K H ds vs) (e : atI ds i = some d) : ∃ v, atI vs i = some v ∧ Dv K H d v := by
  unfold atI at *
  rw [← h.length]
  obtain ⟨j, e1, e2⟩ := Option.bind_eq_some_iff.mp e
  obtain ⟨v, e3, r⟩ := h.get e2
  exact ⟨v, by rw [e1]; exact e3, r⟩
theorem ix_d : IxR X (upR2 X rIxD) := fun value slice pins s σ H x y v u Q I rx ry h hs => by
  obtain ⟨δ, S, σ', dx, dy, R, hx, hy, q⟩ := h
  unfold rIxD at q
  split at q
  · rename_i xs i
    split at q
    · rename_i d e
      rw [dv_int] at hy
      subst hy
      obtain ⟨p, vs, rfl, sx, dx⟩ := dv_tup.mp hx
      obtain ⟨w, e2, r⟩ := atI_dvs dx e
      exact ix_tup value slice pins s σ H _ _ v u Q I rx ry ⟨p, vs, i, w, rfl, rfl, sx, e2, q _ H R r .refl⟩ hs
    · exact q.elim
  · rename_i xs i
    split at q
    · rename_i d e
      rw [dv_int] at hy
      subst hy
      obtain ⟨p, vs, rfl, sx, dx⟩ := dv_fro.mp hx
      obtain ⟨w, e2, r⟩ := atI_dvs dx e
      exact ix_list value slice pins s σ H _ _ v u Q I rx ry ⟨p, vs, i, w, rfl, rfl, sx.l, e2, q _ H R r .refl⟩ hs
    · exact q.elim
  · rename_i xs i
    split at q
    · rename_i d e
      rw [dv_int] at hy
      subst hy
      obtain ⟨p, vs, rfl, sx, dx⟩ := dv_lis.mp hx
      obtain ⟨w, e2, r⟩ := atI_dvs dx e
      exact ix_list value slice pins s σ H _ _ v u Q I rx ry ⟨p, vs, i, w, rfl, rfl, SqF.l (.inl sx), e2, q _ H R r .refl⟩ hs
    · exact q.elim
  · rename_i z i
    rw [dv_str] at hx
    rw [dv_int] at hy
    subst hx hy
    obtain ⟨q1, q2⟩ := q
    split at q2
    · rename_i n e
      exact ix_str value slice pins s σ H _ _ v u Q I rx ry ⟨z, i, n, rfl, rfl, q1, e, q2 _ H R (dv_str.mpr rfl) .refl⟩ hs
    · exact q2.elim
  · rename_i p i
    rw [dv_ref] at hx
    rw [dv_int] at hy
    subst hx hy
    split at q
    · rename_i xs e1
      split at q
      · rename_i d e
        obtain ⟨vs, h1, h2⟩ := R.sto _ _ e1
        obtain ⟨w, e2, r⟩ := atI_dvs h2 e
        exact ix_list value slice pins s σ H _ _ v u Q I rx ry ⟨p, vs, i, w, rfl, rfl, SqL.of h1, e2, q _ H R r .refl⟩ hs
      · exact q.elim
    · exact q.elim
  · exact q.elim
theorem de_ix (ha : DE X a ta) (hb : DE X b tb) (hs : PlainIx b := by exact fun _ _ => rfl) : DE X (.Subscript a b pos) (dBin rIxD ta tb) := by
  refine ⟨dBin_mono rIxD_mono ha.mono hb.mono, pe_weak (pe_ix ix_d ha.pe hb.pe hs) fun σ H Q ⟨δ, S, R, q⟩ => ?_⟩
  exact two ha hb R q fun x y S2 v u H2 q2 R2 r1 r2 t => ⟨δ, S2, σ, x, y, R2, r1, r2, rIxD_mono _ _ _ _ _ (fun _ _ z => kE.later t z) q2⟩
def rDget : RD2 := fun x y S Q => match lookD S x y with
  | some (some d) => Q d S
  | _ => False
theorem rDget_mono : MonoR2 rDget := fun x y S Q Q' h q => by
  unfold rDget at *
  split at q
  · exact h _ _ q
  · exact q.elim
theorem lookD_type {pins : List (Addr × Obj)} {σ σ' : St} {H : Hp} {s : Shared} {δ : DEnv} {S : Sto} {x y : D} {v : V} {u : Value} {r : Option D} (I : Inv X pins σ H s) (R : Rel X δ S σ' H) (hx : Dv X.K H x v) (rx : RelV v u) (h : lookD S x y = some r) :
    s.TypeIs u "dict" ∧ ∀ b, u = .ref b → ∃ ob, s.heap.get? b = some ob ∧ ob.dict = none := by
  unfold lookD at h
  cases x with
  | ref p =>
    rw [dv_ref] at hx
    subst hx
    cases rx
    simp only at h
    split at h
    · rename_i kvs e
      obtain ⟨vs, h1, h2⟩ := R.sto _ _ e
      obtain ⟨_, _, _, _, dd⟩ := dk_of I.hok h1
      refine ⟨dd.typeIs, fun b q => ?_⟩
      cases q
      obtain ⟨ob, es, ep, g1, g2, _⟩ := dd
      exact ⟨ob, g1, g2.2.1⟩
    · rename_i kvs e
      obtain ⟨xs, d⟩ := dit_of I (R.sto _ _ e)
      refine ⟨d.raw.typeIs, fun b q => ?_⟩
      cases q
      obtain ⟨ob, es, ep, g1, g2, _⟩ := d.raw
      exact ⟨ob, g1, g2.2.1⟩
    · cases h
  | _ => simp at h
theorem de_dget (hu : X.A.units + 64 < cLine) (ha : DE X a ta) (hb : DE X b tb) (hs : NoSl b := by exact fun _ _ => rfl) : DE X (.Subscript a b pos) (dBin rDget ta tb) := by
  refine ⟨dBin_mono rDget_mono ha.mono hb.mono, ⟨fun pins s σ H Q I ⟨δ, S, R, q⟩ => ?_⟩⟩
  refine subD_of PySem.F.slot_dict_getitem.lookup hs ?_
  refine thn (ha.pe.run pins s σ H _ I (ha.sub (Q := fun v H1 => ∃ x S1, Rel X δ S1 σ H1 ∧ Dv X.K H1 x v ∧ TupP X.K H H1 ∧ tb δ S1 fun y S2 => rDget x y S2 (kE X δ σ H Q)) R q fun x S1 v H1 q1 R1 r1 t1 => ⟨x, S1, R1, r1, t1, q1⟩)) fun u s1 ⟨v, H1, I1, ru, x, S1, R1, r1, t1, q1⟩ => ?_
  refine thn (hb.pe.run pins s1 σ H1 _ I1 (hb.sub (Q := fun w H2 => ∃ y S2, Rel X δ S2 σ H2 ∧ Dv X.K H2 y w ∧ TupP X.K H1 H2 ∧ rDget x y S2 (kE X δ σ H Q)) R1 q1 fun y S2 w H2 q2 R2 r2 t2 => ⟨y, S2, R2, r2, t2, q2⟩)) fun u2 s2 ⟨w, H2, I2, rw2, y, S2, R2, r2, t2, q2⟩ => ?_
  unfold rDget at q2
  split at q2
  · rename_i d e
    have r1' := r1.mono t2
    exact ⟨(lookD_type I2 R2 r1' ru e).1, lookD_getItem hu I2 R2 r1' r2 e ru rw2 fun z w' s' I' rz dz => ⟨z, H2, I', rz, q2 _ H2 R2 dz (t1.trans t2)⟩⟩
  · exact q2.elim
abbrev TDO := DEnv → Sto → (Option Int → Sto → Prop) → Prop
def MonoO (t : TDO) : Prop := ∀ δ S Q Q', (∀ d S', Q d S' → Q' d S') → t δ S Q → t δ S Q'
def kO (X : Cx) (δ : DEnv) (σ : St) (H : Hp) (Q : Option Int → Hp → Prop) : Option Int → Sto → Prop := fun b S' => ∀ H', Rel X δ S' σ H' → TupP X.K H H' → Q b H'
def upO (X : Cx) (t : TDO) : TO := fun σ H Q => ∃ δ S, Rel X δ S σ H ∧ t δ S (kO X δ σ H Q)
structure DPo (X : Cx) (e : Option Expr) (t : TDO) : Prop where
  mono : MonoO t
  po : PO X e (upO X t)
def isI (Q : Int → Sto → Prop) : DK := fun d S => match d with
  | .int i => Q i S
  | _ => False
theorem isI_mono {Q Q' : Int → Sto → Prop} (h : ∀ b S, Q b S → Q' b S) : ∀ d S, isI Q d S → isI Q' d S := fun d S q => by
  cases d <;> first | exact h _ _ q | exact q
def dNoPart : TDO := fun _ S Q => Q none S
def dPart (t : TDE) : TDO := fun δ S Q => t δ S (isI fun i S1 => Q (some i) S1)
theorem do_none : DPo X none dNoPart := ⟨fun δ S Q Q' h q => h _ _ q, ⟨fun pins s σ H Q I ⟨δ, S, R, q⟩ => (po_none (X := X)).run pins s σ H Q I (q H R .refl)⟩⟩
theorem do_some (h : DE X e te) : DPo X (some e) (dPart te) := ⟨fun δ S Q Q' k q => h.mono _ _ _ _ (isI_mono fun i S1 q1 => k _ _ q1) q, ⟨fun pins s σ H Q I ⟨δ, S, R, q⟩ => (po_some h.pe).run pins s σ H Q I (h.sub R q fun d S1 v H1 q1 R1 r1 t1 => by
  cases d with
  | int i => rw [dv_int] at r1; exact ⟨i, r1, q1 H1 R1 t1⟩
  | _ => exact q1.elim)⟩⟩
def cutD (xs : List D) (lo hi : Option Int) : List D := (xs.drop (HT.sIx xs.length 0 lo)).take (HT.sIx xs.length xs.length hi - HT.sIx xs.length 0 lo)
def rSlD (x : D) (lo hi : Option Int) (S : Sto) (Q : DK) : Prop := match x with
  | .tup xs => Q (.tup (cutD xs lo hi)) S
  | .str z => z.length ≤ sizeLine ∧ Q (.str (cutS z lo hi)) S
  | .lis xs => ∀ p, S p = none → Q (.ref p) (sup S p (.lst (cutD xs lo hi)))
  | .ref a => match S a with
    | some (.lst xs) => ∀ p, S p = none → Q (.ref p) (sup S p (.lst (cutD xs lo hi)))
    | _ => False
  | _ => False
theorem rSlD_mono {x : D} {lo hi : Option Int} {S : Sto} {Q Q' : DK} (h : ∀ d S', Q d S' → Q' d S') (q : rSlD x lo hi S Q) : rSlD x lo hi S Q' := by
  unfold rSlD at *
  split at q
  · exact h _ _ q
  · exact ⟨q.1, h _ _ q.2⟩
  · exact fun p hp => h _ _ (q p hp)
  · split at q
    · exact fun p hp => h _ _ (q p hp)
    · exact q.elim
  · exact q.elim
def dSl (te : TDE) (tl th : TDO) : TDE := fun δ S Q => te δ S fun x S1 => tl δ S1 fun l S2 => th δ S2 fun u S3 => rSlD x l u S3 Q
theorem cutD_dvs {K : PySem.W.Frag} {H : Hp} {ds : List D} {vs : List V} {lo hi : Option Int} (h : Dvs K H ds vs) : Dvs K H (cutD ds lo hi) (cutV vs lo hi) := by
  unfold cutD cutV
  rw [h.length]
  exact (h.drop _).take _
theorem sl_d : SlR X (fun v lo hi H Q => ∃ δ S σ x, Rel X δ S σ H ∧ Dv X.K H x v ∧ rSlD x lo hi S (kE X δ σ H Q)) := fun pins s σ H x v vl vu lo hi sl Q I rx hs pl pu h => by
  obtain ⟨δ, S, σ', d, R, r, q⟩ := h
  unfold rSlD at q
  split at q
  · rename_i xs
    obtain ⟨p, vs, rfl, sx, dx⟩ := dv_tup.mp r
    refine sl_tupA pins s σ H _ v vl vu lo hi sl Q I rx hs pl pu ⟨p, vs, rfl, sx, fun w => q _ H R (dv_tup.mpr ⟨p, vs, rfl, sx, ?_⟩) .refl, fun w n hn => q _ _ (R.laid hn) (Dv.new_tup (cutD_dvs dx) hn) (TupP.laid hn)⟩
    have e : cutV vs lo hi = vs := by
      unfold cutV
      rw [w.1, w.2]
      simp
    have := cutD_dvs (lo := lo) (hi := hi) dx
    rw [e] at this
    exact this
  · rename_i z
    rw [dv_str] at r
    subst r
    exact sl_str pins s σ H _ v vl vu lo hi sl Q I rx hs pl pu ⟨z, rfl, q.1, q.2 _ H R (dv_str.mpr rfl) .refl⟩
  · rename_i xs
    obtain ⟨p, vs, rfl, sx, dx⟩ := dv_lis.mp r
    exact sl_list pins s σ H _ v vl vu lo hi sl Q I rx hs pl pu ⟨p, vs, rfl, SqF.l (.inl sx), fun n hn => q n (R.free hn) _ _ (R.new hn (ObjD.new_lst (cutD_dvs dx) hn)) (dv_ref.mpr rfl) (TupP.laid hn)⟩
  · rename_i p
    rw [dv_ref] at r
    subst r
    split at q
    · rename_i xs e1
      obtain ⟨vs, h1, h2⟩ := R.sto _ _ e1
      exact sl_list pins s σ H _ v vl vu lo hi sl Q I rx hs pl pu ⟨p, vs, rfl, SqL.of h1, fun n hn => q n (R.free hn) _ _ (R.new hn (ObjD.new_lst (cutD_dvs h2) hn)) (dv_ref.mpr rfl) (TupP.laid hn)⟩
    · exact q.elim
  · exact q.elim
theorem de_slice {lo hi : Option Expr} {tl th : TDO} {p2 : Pos} (he : DE X e te) (hl : DPo X lo tl) (hh : DPo X hi th) : DE X (.Subscript e (.Slice lo hi none p2) pos) (dSl te tl th) := by
  refine ⟨fun δ S Q Q' k q => he.mono _ _ _ _ (fun x S1 q1 => hl.mono _ _ _ _ (fun l S2 q2 => hh.mono _ _ _ _ (fun u S3 q3 => rSlD_mono k q3) q2) q1) q, pe_weak (pe_slice sl_d he.pe hl.po hh.po) fun σ H Q ⟨δ, S, R, q⟩ => ?_⟩
  refine he.sub R q fun x S1 v H1 q1 R1 r1 t1 => ?_
  refine ⟨δ, S1, R1, hl.mono _ _ _ _ (fun l S2 q2 H2 R2 t2 => ?_) q1⟩
  refine ⟨δ, S2, R2, hh.mono _ _ _ _ (fun u S3 q3 H3 R3 t3 => ?_) q2⟩
  exact ⟨δ, S3, σ, x, R3, r1.mono (t2.trans t3), rSlD_mono (fun _ _ z => kE.later (t1.trans (t2.trans t3)) z) q3⟩
abbrev RDL := List D → Sto → DK → Prop
def MonoL (r : RDL) : Prop := ∀ xs S Q Q', (∀ d S', Q d S' → Q' d S') → r xs S Q → r xs S Q'
def upL (X : Cx) (r : RDL) : List V → Hp → VK → Prop := fun vs H Q => ∃ δ S σ ds, Rel X δ S σ H ∧ Dvs X.K H ds vs ∧ r ds S (kE X δ σ H Q)
structure DCall (X : Cx) (f : Value) (r : RDL) : Prop where
  mono : MonoL r
  run : CallR X f (upL X r)
def dCB (r : RDL) (t : TDA) : TDE := fun δ S Q => t δ S fun xs S1 => r xs S1 Q
theorem de_callB {es : List Expr} {t : TDA} {x id : String} {r : RDL} {p : Pos} (hc : DCall X (.builtin id) r) (hg : Gl X x) (hm : X.mg x = none) (hv : bootBuiltins x = some (.builtin id)) (ha : DA X (e :: es) t) (hn : (x : Str) ≠ "__name__" := by decide) (hdb : ((x : Str) == ("__debug__" : Str)) = false := by decide)
    (he : starEach (e :: es) X.env = (false, eval e X.env) :: starEach es X.env := by rfl) (hpl : (backTo pos (starEach es X.env)).any (·.1) = false := by rfl) : DE X (.Call (.Name x p) (e :: es) [] pos) (dCB r t) := by
  refine ⟨fun δ S Q Q' k q => ha.mono _ _ _ _ (fun xs S1 q1 => hc.mono _ _ _ _ k q1) q, pe_weak (pe_callB hc.run hg hm hv ha.pa hn hdb he hpl) fun σ H Q ⟨δ, S, R, q⟩ => ?_⟩
  exact ha.sub R q fun ds S1 vs H1 q1 R1 r1 t1 => ⟨δ, S1, σ, ds, R1, r1, hc.mono _ _ _ _ (fun _ _ z => kE.later t1 z) q1⟩
theorem de_callTy {es : List Expr} {t : TDA} {x T : String} {r : RDL} {p : Pos} (hc : DCall X (.type T) r) (hg : Gl X x) (hm : X.mg x = none) (hv : bootBuiltins x = some (.type T)) (ha : DA X (e :: es) t) (hn : (x : Str) ≠ "__name__" := by decide) (hdb : ((x : Str) == ("__debug__" : Str)) = false := by decide)
    (he : starEach (e :: es) X.env = (false, eval e X.env) :: starEach es X.env := by rfl) (hpl : (backTo pos (starEach es X.env)).any (·.1) = false := by rfl) : DE X (.Call (.Name x p) (e :: es) [] pos) (dCB r t) := by
  refine ⟨fun δ S Q Q' k q => ha.mono _ _ _ _ (fun xs S1 q1 => hc.mono _ _ _ _ k q1) q, pe_weak (pe_callTy hc.run hg hm hv ha.pa hn hdb he hpl) fun σ H Q ⟨δ, S, R, q⟩ => ?_⟩
  exact ha.sub R q fun ds S1 vs H1 q1 R1 r1 t1 => ⟨δ, S1, σ, ds, R1, r1, hc.mono _ _ _ _ (fun _ _ z => kE.later t1 z) q1⟩
def lenD (S : Sto) : D → Option Nat
  | .tup xs => some xs.length
  | .fro xs => some xs.length
  | .lis xs => some xs.length
  | .str z => if z.length ≤ sizeLine then some z.length else none
  | .ref a => match S a with
    | some (.lst xs) => some xs.length
    | some (.dik kvs) => some kvs.length
    | some (.dit kvs _) => some kvs.length
    | _ => none
  | _ => none
def rLen : RDL := fun ds S Q => match ds with
  | [d] => match lenD S d with
    | some n => Q (.int n) S
    | none => False
  | _ => False
theorem dcall_len : DCall X (.builtin "len") rLen := by
  refine ⟨fun xs S Q Q' h q => ?_, fun pins s σ H vs us Q I ru h => ?_⟩
  · unfold rLen at *
    split at q
    · split at q
      · exact h _ _ q
      · exact q.elim
    · exact q.elim
  · obtain ⟨δ, S, σ', ds, R, r, q⟩ := h
    unfold rLen at q
    split at q
    · rename_i d
      obtain ⟨v, rfl, rd⟩ := dvs1 r
      split at q
      · rename_i n e
        have q' : Q (.int n) H := q _ H R (dv_int.mpr rfl) .refl
        unfold lenD at e
        split at e
        · cases e
          obtain ⟨p, ws, rfl, sx, dx⟩ := dv_tup.mp rd
          exact call_len_seq pins s σ H _ us Q I ru ⟨p, ws, rfl, .inr sx, by rw [← dx.length]; exact q'⟩
        · cases e
          obtain ⟨p, ws, rfl, sx, dx⟩ := dv_fro.mp rd
          exact call_len_seq pins s σ H _ us Q I ru ⟨p, ws, rfl, .inl sx.l, by rw [← dx.length]; exact q'⟩
        · cases e
          obtain ⟨p, ws, rfl, sx, dx⟩ := dv_lis.mp rd
          exact call_len_seq pins s σ H _ us Q I ru ⟨p, ws, rfl, .inl (SqF.l (.inl sx)), by rw [← dx.length]; exact q'⟩
        · rw [dv_str] at rd
          subst rd
          split at e
          · rename_i z l
            cases e
            exact call_len_str pins s σ H _ us Q I ru ⟨z, rfl, l, q'⟩
          · cases e
        · rw [dv_ref] at rd
          subst rd
          rename_i p
          split at e
          · rename_i xs e1
            cases e
            obtain ⟨ws, h1, h2⟩ := R.sto _ _ e1
            exact call_len_seq pins s σ H _ us Q I ru ⟨p, ws, rfl, .inl (SqL.of h1), by rw [← h2.length]; exact q'⟩
          · rename_i kvs e1
            cases e
            obtain ⟨ws, h1, h2⟩ := R.sto _ _ e1
            exact call_lenD pins s σ H _ us Q I ru ⟨p, ws, rfl, h1, by rw [← h2.length]; exact q'⟩
          · rename_i kvs ep e1
            cases e
            obtain ⟨xs, d⟩ := dit_of I (R.sto _ _ e1)
            obtain rfl := Vals.ref1 ru
            refine call_len_dictH d.sys d.raw ?_ ?_
            · have := d.len; rw [sizeLine_eq] at this; omega
            · rw [← ent_len d.ent]
              exact ⟨.int kvs.length, H, I.tok _, ⟨_, rfl⟩, q'⟩
          · cases e
        · cases e
      · exact q.elim
    · exact q.elim
def dFld (C : Addr) (ta : TDE) (f : Str) : TDE := fun δ S Q => ta δ S fun x S1 => match x with
  | .ref a => match S1 a with
    | some (.ins C' fs) => C' = C ∧ match fs.lookup f with
      | some d => Q d S1
      | none => False
    | _ => False
  | _ => False
theorem fld_lookup {K : PySem.W.Frag} {H : Hp} {f : Str} {d : D} : ∀ {fs : List (Str × D)} {vs : List (Str × V)}, Paired (Fld K H) fs vs → fs.lookup f = some d → ∃ v, vs.lookup f = some v ∧ Dv K H d v
  | _, _, .nil, e => by simp at e
  | p :: fs, q :: vs, .cons r t, e => by
    obtain ⟨k, x⟩ := p
    obtain ⟨k', y⟩ := q
    obtain ⟨rfl, r⟩ : k = k' ∧ Dv K H x y := r
    simp only [List.lookup_cons] at e ⊢
    cases h : (f == k) <;> simp only [h] at e ⊢
    · exact fld_lookup t e
    · cases e; exact ⟨y, rfl, r⟩
theorem fld_none {K : PySem.W.Frag} {H : Hp} {f : Str} : ∀ {fs : List (Str × D)} {vs : List (Str × V)}, Paired (Fld K H) fs vs → fs.lookup f = none → vs.lookup f = none
  | _, _, .nil, e => rfl
  | p :: fs, q :: vs, .cons r t, e => by
    obtain ⟨k, x⟩ := p
    obtain ⟨k', y⟩ := q
    obtain ⟨rfl, r⟩ : k = k' ∧ Dv K H x y := r
    simp only [List.lookup_cons] at e ⊢
    cases h : (f == k) <;> simp only [h] at e ⊢
    · exact fld_none t e
    · cases e
theorem de_fld {C : Addr} {f : Str} (he : DE X e te) (c : Cls X.K C) (n : NoAttr X.K C f) (hb : attributeBase e f X.env (eval e X.env) = eval e X.env := by rfl) : DE X (.Attribute e f pos) (dFld C te f) := by
  refine ⟨fun δ S Q Q' k q => he.mono _ _ _ _ (fun x S1 q1 => ?_) q, pe_weak (pe_fld he.pe hb) fun σ H Q ⟨δ, S, R, q⟩ => ?_⟩
  · split at q1
    · split at q1
      · refine ⟨q1.1, ?_⟩
        have q2 := q1.2
        split at q2
        · exact k _ _ q2
        · exact q2.elim
      · exact q1.elim
    · exact q1.elim
  · refine he.sub R q fun x S1 v H1 q1 R1 r1 t1 => ?_
    unfold dFld at *
    split at q1
    · rename_i a
      rw [dv_ref] at r1
      subst r1
      split at q1
      · rename_i C' fs e1
        obtain ⟨rfl, q2⟩ := q1
        split at q2
        · rename_i d e2
          obtain ⟨dx, fs', h1, h2⟩ := R1.sto _ _ e1
          obtain ⟨w, e3, rw3⟩ := fld_lookup h2 e2
          exact ⟨a, C', dx, fs', w, rfl, h1, c, n, e3, q2 _ H1 R1 rw3 t1⟩
        · exact q2.elim
      · exact q1.elim
    · exact q1.elim
def putFD (f : Str) (d : D) : List (Str × D) → List (Str × D)
  | [] => [(f, d)]
  | (k, x) :: r => if k = f then (f, d) :: r else (k, x) :: putFD f d r
end
end DL
set_option maxRecDepth 100000
namespace DL
open PySem L2
section
variable {X : Cx} {a b c e o i value : Expr} {ta tb tc te td ti tv : TDE} {pos pos' tpos apos cpos : Pos} {st : Stmt} {rest : List Stmt} {t u : TDS}
theorem kN.use {H H1 : Hp} {n : St → Hp → Prop} {δ : DEnv} {S : Sto} {σ : St} (q : kN X H n δ S) (R : Rel X δ S σ H1) (t : TupP X.K H H1) : n σ H1 := q σ H1 R t
theorem DS.sub {D : Ends} (h : DS X st t) {δ : DEnv} {S : Sto} {σ : St} {H : Hp} (R : Rel X δ S σ H) {E : DEnds} (l : E.Le (kS X H D)) (q : t E δ S) : upS X t D σ H := ⟨δ, S, R, h.mono _ _ _ _ l q⟩
theorem DSs.sub {sts : List Stmt} {D : Ends} (h : DSs X sts t) {δ : DEnv} {S : Sto} {σ : St} {H : Hp} (R : Rel X δ S σ H) {E : DEnds} (l : E.Le (kS X H D)) (q : t E δ S) : upS X t D σ H := ⟨δ, S, R, h.mono _ _ _ _ l q⟩
def sNext : TDS := fun D δ S => D.nx δ S
def sSeq (t u : TDS) : TDS := fun D δ S => t { D with nx := u D } δ S
theorem sNext_mono : MonoS sNext := fun D D' δ S l q => l.nx _ _ q
theorem sSeq_mono (h1 : MonoS t) (h2 : MonoS u) : MonoS (sSeq t u) := fun D D' δ S l q => h1 _ _ _ _ (l.nxs fun δ S => h2 _ _ _ _ l) q
theorem dss_nil : DSs X [] sNext := ⟨sNext_mono, pss_weak pss_nil fun D σ H ⟨δ, S, R, q⟩ => q σ H R .refl⟩
theorem dss_cons (h1 : DS X st t) (h2 : DSs X rest u) : DSs X (st :: rest) (sSeq t u) := by
  refine ⟨sSeq_mono h1.mono h2.mono, pss_weak (pss_cons h1.ps h2.pss) fun D σ H ⟨δ, S, R, q⟩ => ?_⟩
  exact h1.sub R (E := { kS X H D with nx := u (kS X H D) }) ⟨fun δ1 S1 q1 σ1 H1 R1 t1 => h2.sub R1 (kS.later t1) q1, fun _ _ z => z, fun _ _ z => z, fun _ _ z => z⟩ q
theorem dss_one (h1 : DS X st t) : DSs X [st] t := ⟨h1.mono, pss_weak (pss_one h1.ps) fun D σ H q => q⟩
def sBreak : TDS := fun D δ S => D.bk δ S
def sCont : TDS := fun D δ S => D.ct δ S
theorem ds_pass : DS X (.Pass pos) sNext := ⟨sNext_mono, ps_weak ps_pass fun D σ H ⟨δ, S, R, q⟩ => q σ H R .refl⟩
theorem ds_break : DS X (.Break pos) sBreak := ⟨fun D D' δ S l q => l.bk _ _ q, ps_weak ps_break fun D σ H ⟨δ, S, R, q⟩ => q σ H R .refl⟩
theorem ds_continue : DS X (.Continue pos) sCont := ⟨fun D D' δ S l q => l.ct _ _ q, ps_weak ps_continue fun D σ H ⟨δ, S, R, q⟩ => q σ H R .refl⟩
def sDrop (te : TDE) : TDS := fun D δ S => te δ S fun _ S1 => D.nx δ S1
theorem sDrop_mono (h : MonoE te) : MonoS (sDrop te) := fun D D' δ S l q => h _ _ _ _ (fun _ _ z => l.nx _ _ z) q
theorem ds_expr (he : DE X e te) (hs : swapsWith e none pos.line X.env = pure false := by rfl) : DS X (.Expr e pos) (sDrop te) := by
  refine ⟨sDrop_mono he.mono, ps_weak (ps_expr he.pe hs) fun D σ H ⟨δ, S, R, q⟩ => ?_⟩
  exact he.sub R q fun d S1 v H1 q1 R1 r1 t1 => q1 σ H1 R1 t1
def sRet (te : TDE) : TDS := fun D δ S => te δ S D.rt
theorem sRet_mono (h : MonoE te) : MonoS (sRet te) := fun D D' δ S l q => h _ _ _ _ l.rt q
theorem ds_ret (he : DE X e te) : DS X (.Return (some e) pos) (sRet te) := by
  refine ⟨sRet_mono he.mono, ps_weak (ps_ret he.pe) fun D σ H ⟨δ, S, R, q⟩ => ?_⟩
  exact he.sub R q fun d S1 v H1 q1 R1 r1 t1 => q1 v H1 R1.rels r1
def sRetN : TDS := fun D δ S => D.rt .non S
theorem ds_retN : DS X (.Return none pos) sRetN := ⟨fun D D' δ S l q => l.rt _ _ q, ps_weak ps_retN fun D σ H ⟨δ, S, R, q⟩ => q _ H R.rels (dv_non.mpr rfl)⟩
def sIf (c : TDT) (t u : TDS) : TDS := fun D δ S => c δ S fun b S1 => if b = true then t D δ S1 else u D δ S1
theorem sIf_mono {c : TDT} (hc : MonoT c) (h1 : MonoS t) (h2 : MonoS u) : MonoS (sIf c t u) := fun D D' δ S l q => hc _ _ _ _ (fun b S1 q1 => by
  cases b <;> simp only [if_true, Bool.false_eq_true, if_false] at q1 ⊢ <;> first | exact h1 _ _ _ _ l q1 | exact h2 _ _ _ _ l q1) q
theorem ds_if {c : Expr} {x y : List Stmt} {tc : TDT} (hc : DT X c tc) (ha : DSs X x t) (hb : DSs X y u) : DS X (.If c x y pos) (sIf tc t u) := by
  refine ⟨sIf_mono hc.mono ha.mono hb.mono, ps_weak (ps_if hc.pt ha.pss hb.pss) fun D σ H ⟨δ, S, R, q⟩ => ?_⟩
  refine hc.sub R q fun b S1 H1 q1 R1 t1 => ?_
  cases b <;> simp only [if_true, Bool.false_eq_true, if_false] at q1 ⊢
  · exact hb.sub R1 (kS.later t1) q1
  · exact ha.sub R1 (kS.later t1) q1
def gN (i : Nat) : TDG := fun d δ S Q => Q (δ.set i (some d)) S
theorem gN_mono {i : Nat} : MonoG (gN i) := fun d δ S Q Q' h q => h _ _ q
theorem dg_name {i : Nat} {x : Str} (hN : X.N.Nodup) (hi : X.N[i]? = some x) (hx : Loc X.env.scope x) (hf : X.fn x = true ∨ X.env.scope.names.lookup x = some .local := by first | exact .inl rfl | exact .inr rfl | assumption) : DG X (.Name x pos) (gN i) :=
  ⟨gN_mono, pg_weak (pg_name hN hi hx hf) fun v σ H Q ⟨δ, S, d, R, r, q⟩ => q _ H (R.set r) .refl⟩
def gN0 : TDGs := fun ds δ S Q => match ds with
  | [] => Q δ S
  | _ => False
def gCs (t : TDG) (u : TDGs) : TDGs := fun ds δ S Q => match ds with
  | d :: r => t d δ S fun δ1 S1 => u r δ1 S1 Q
  | [] => False
theorem dgs_nil : DGs X [] gN0 := by
  refine ⟨fun ds δ S Q Q' h q => ?_, pgs_weak pgs_nil fun vs σ H Q ⟨δ, S, ds, R, r, q⟩ => ?_⟩
  · cases ds <;> first | exact h _ _ q | exact q.elim
  · cases ds with
    | nil => rw [Dvs] at r; exact ⟨r, q σ H R .refl⟩
    | cons _ _ => exact q.elim
theorem dgs_cons {es : List Expr} {t : TDG} {u : TDGs} (h1 : DG X e t) (h2 : DGs X es u)
    (hs : (assignEach (e :: es) X.env).map (·.2) = assign e X.env :: (assignEach es X.env).map (·.2) := by rfl) : DGs X (e :: es) (gCs t u) := by
  refine ⟨fun ds δ S Q Q' h q => ?_, pgs_weak (pgs_cons h1.pg h2.pgs hs) fun vs σ H Q ⟨δ, S, ds, R, r, q⟩ => ?_⟩
  · cases ds with
    | nil => exact q.elim
    | cons d r => exact h1.mono _ _ _ _ _ (fun δ1 S1 q1 => h2.mono _ _ _ _ _ h q1) q
  · cases ds with
    | nil => exact q.elim
    | cons d ds =>
      rw [Dvs] at r
      obtain ⟨v, vr, rfl, r1, r2⟩ := r
      refine ⟨v, vr, rfl, δ, S, d, R, r1, h1.mono _ _ _ _ _ (fun δ1 S1 q1 σ1 H1 R1 t1 => ?_) q⟩
      exact ⟨δ1, S1, ds, R1, r2.mono t1, h2.mono _ _ _ _ _ (fun _ _ z => kN.later t1 z) q1⟩
def gTp (n : Nat) (t : TDGs) : TDG := fun d δ S Q => match d with
  | .tup xs => xs.length = n ∧ t xs δ S Q
  | _ => False
theorem dg_tup {es : List Expr} {k n : Nat} {t : TDGs} (hc : X.calm = true) (h : DGs X es t) (hn : (assignEach es X.env).length = n := by rfl) (hst : (assignEach es X.env).findIdx? (·.1) = none := by rfl) : DG X (.Tuple es k pos) (gTp n t) := by
  refine ⟨fun d δ S Q Q' l q => ?_, pg_weak (pg_tup hc h.pgs hn hst) fun v σ H Q ⟨δ, S, d, R, r, q⟩ => ?_⟩
  · cases d <;> first | exact ⟨q.1, h.mono _ _ _ _ _ l q.2⟩ | exact q.elim
  · cases d with
    | tup xs =>
      obtain ⟨p, vs, rfl, sx, dx⟩ := dv_tup.mp r
      exact ⟨p, vs, rfl, sx, dx.length.symm.trans q.1, δ, S, xs, R, dx, q.2⟩
    | _ => exact q.elim
def setD (S : Sto) (o i v : D) : Option (Nat → Sto) := match o with
  | .ref a => match S a with
    | some (.dik kvs) => match keyD i with
      | some k => if kvs.length < sizeLine then some (fun _ => sup S a (.dik (put kvs k v))) else none
      | none => none
    | some (.dit kvs _) => match tkey i with
      | some _ => if kvs.length < sizeLine then some (fun ep => sup S a (.dit (put kvs i v) ep)) else none
      | none => none
    | some (.lst xs) => match i with
      | .int n => match ixN xs.length n with
        | some j => some (fun _ => sup S a (.lst (xs.set j v)))
        | none => none
      | _ => none
    | _ => none
  | _ => none
theorem setD_ok (hu : X.A.units + 64 < cLine) {pins : List (Addr × Obj)} {s : Shared} {σ σ' : St} {H : Hp} {δ : DEnv} {S : Sto} {F : Nat → Sto} {o i d : D} {x y z : V} {ov iv u : Value} {Q : Unit → Shared → Prop} (I : Inv X pins σ H s) (R : Rel X δ S σ' H)
    (ho : Dv X.K H o x) (hi : Dv X.K H i y) (hd : Dv X.K H d z) (rx : RelV x ov) (ry : RelV y iv) (rz : RelV z u) (e : setD S o i d = some F) (q : ∀ s' H' ep, Inv X pins σ H' s' → Rel X δ (F ep) σ' H' → TupP X.K H H' → Q () s') :
    wpAny (model X.prog X.w) X.A (setItem ov iv u) Q X.xe s := by
  unfold setD at e
  cases o with
  | ref p =>
    rw [dv_ref] at ho
    subst ho
    cases rx
    simp only at e
    split at e
    · rename_i kvs e1
      split at e
      · rename_i k ek
        split at e
        · rename_i l
          cases e
          have hy := keyD_dv ek hi
          subst hy
          obtain ⟨ws, h1, h2⟩ := R.sto _ _ e1
          have t : TupP X.K H (upd H p (.dK (putK ws k z))) := R.tup_change e1
          refine d_setItem (by omega) I (DPut.k (v := z) h1 (by rw [← h2.length]; exact l)) ry rz fun s' I' => q s' _ 0 I' (R.change e1 ⟨_, upd_same, Paired.mapP (fld_put hd h2) fun _ _ w => w.mono t⟩) t
        · cases e
      · cases e
    · rename_i kvs ep0 e1
      split at e
      · rename_i k ek
        split at e
        · rename_i l
          cases e
          obtain ⟨b, rfl⟩ := tup_addr ek hi
          cases ry
          obtain ⟨xs, dd⟩ := dit_of I (R.sto _ _ e1)
          refine wpAny_setItem_heap (knd := nestedKind X.prog X.w) (hsz := dd.len) (room8 hu) (key_is I ek hi) dd.raw fun h' hm hs => ?_
          have l' : (storedH xs k b u).length ≤ sizeLine := by
            have := length_storedH xs k b u
            have := ent_len dd.ent
            omega
          obtain ⟨ep', I'⟩ := dit_write I dd hm hs
          have t := R.tup_change (ho := dictO X.prog X.w p (storedH xs k b u) ep') e1
          exact q _ _ ep' I' (R.change e1 (ObjD.dit_upd dd.at_ trivial dd.sys l' (ent_put ek hi rz hd dd.ent))) t
        · cases e
      · cases e
    · rename_i xs e1
      split at e
      · rename_i n
        rw [dv_int] at hi
        subst hi
        split at e
        · rename_i j ej
          cases e
          obtain ⟨ws, h1, h2⟩ := R.sto _ _ e1
          have t : TupP X.K H (upd H p (.lst (ws.set j z))) := R.tup_change e1
          have := set_list (X := X) pins s σ H (.ref p) (.int n) z (.ref p) iv u (fun H' => H' = upd H p (.lst (ws.set j z))) I rfl ry rz ⟨p, ws, n, j, rfl, rfl, h1, by rw [← h2.length]; exact ej, rfl⟩
          refine thn this fun _ s' ⟨H', I', eH⟩ => ?_
          subst eH
          exact q s' _ 0 I' (R.change (o := .lst (xs.set j d)) e1 ⟨_, upd_same, ((Dvs.set hd j h2).mono t)⟩) t
        · cases e
      · cases e
    · cases e
  | _ => simp at e
def sPut (to ti tv : TDE) : TDS := fun D δ S => tv δ S fun v S1 => to δ S1 fun o S2 => ti δ S2 fun i S3 => match setD S3 o i v with
  | some F => ∀ ep, D.nx δ (F ep)
  | none => False
theorem sPut_mono (h1 : MonoE ta) (h2 : MonoE tb) (h3 : MonoE tv) : MonoS (sPut ta tb tv) := fun D D' δ S l q => h3 _ _ _ _ (fun v S1 q1 => h1 _ _ _ _ (fun o S2 q2 => h2 _ _ _ _ (fun i S3 q3 => by
  split at q3
  · exact fun ep => l.nx _ _ (q3 ep)
  · exact q3.elim) q2) q1) q
theorem ds_put (hu : X.A.units + 64 < cLine) (ho : DE X o ta) (hi : DE X i tb) (hv : DE X value tv) (hs : swapsWith value (some (.Subscript o i pos')) pos.line X.env = pure false := by rfl) : DS X (.Assign [.Subscript o i pos'] value pos) (sPut ta tb tv) := by
  refine ⟨sPut_mono ho.mono hi.mono hv.mono, ⟨fun pins s σ H D I ⟨δ, S, R, q⟩ => ?_⟩⟩
  refine wpAny_Assign_Subscript ?_ hs
  refine thn (hv.pe.run pins s σ H _ I (hv.sub (Q := fun v H1 => ∃ x S1, Rel X δ S1 σ H1 ∧ Dv X.K H1 x v ∧ TupP X.K H H1 ∧ ta δ S1 fun o S2 => tb δ S2 fun i S3 => match setD S3 o i x with | some F => ∀ ep, kN X H D.nx δ (F ep) | none => False) R q fun x S1 v H1 q1 R1 r1 t1 => ⟨x, S1, R1, r1, t1, q1⟩)) fun u1 s1 ⟨v1, H1, I1, ru1, x1, S1, R1, r1, t1, q1⟩ => ?_
  refine thn (ho.pe.run pins s1 σ H1 _ I1 (ho.sub (Q := fun v H2 => ∃ x S2, Rel X δ S2 σ H2 ∧ Dv X.K H2 x v ∧ TupP X.K H1 H2 ∧ tb δ S2 fun i S3 => match setD S3 x i x1 with | some F => ∀ ep, kN X H D.nx δ (F ep) | none => False) R1 q1 fun x S2 v H2 q2 R2 r2 t2 => ⟨x, S2, R2, r2, t2, q2⟩)) fun u2 s2 ⟨v2, H2, I2, ru2, x2, S2, R2, r2, t2, q2⟩ => ?_
  refine thn (hi.pe.run pins s2 σ H2 _ I2 (hi.sub (Q := fun v H3 => ∃ x S3, Rel X δ S3 σ H3 ∧ Dv X.K H3 x v ∧ TupP X.K H2 H3 ∧ match setD S3 x2 x x1 with | some F => ∀ ep, kN X H D.nx δ (F ep) | none => False) R2 q2 fun x S3 v H3 q3 R3 r3 t3 => ⟨x, S3, R3, r3, t3, q3⟩)) fun u3 s3 ⟨v3, H3, I3, ru3, x3, S3, R3, r3, t3, q3⟩ => ?_
  split at q3
  · rename_i F4 e4
    exact setD_ok hu I3 R3 (r2.mono t3) r3 (r1.mono (t2.trans t3)) ru2 ru3 ru1 e4 fun s4 H4 ep I4 R4 t4 => ⟨σ, H4, I4, q3 ep σ H4 R4 (t1.trans (t2.trans (t3.trans t4)))⟩
  · exact q3.elim
def sAsg (te : TDE) (g : TDG) : TDS := fun D δ S => te δ S fun x S1 => g x δ S1 D.nx
theorem sAsg_mono {g : TDG} (h : MonoE te) (hg : MonoG g) : MonoS (sAsg te g) := fun D D' δ S l q => h _ _ _ _ (fun x S1 q1 => hg _ _ _ _ _ l.nx q1) q
theorem ds_asg {tg : Expr} {g : TDG} (he : DE X e te) (hg : DG X tg g) (hs : swapsWithSole [tg] e pos.line X.env = pure false := by rfl) (hw : swappedStores [tg] e X.env = pure none := by rfl)
    (h1 : (assignEach [tg] X.env).map (·.2) = [assign tg X.env] := by rfl) : DS X (.Assign [tg] e pos) (sAsg te g) := by
  refine ⟨sAsg_mono he.mono hg.mono, ps_weak (ps_asg he.pe hg.pg hs hw h1) fun D σ H ⟨δ, S, R, q⟩ => ?_⟩
  exact he.sub R q fun d S1 v H1 q1 R1 r1 t1 => ⟨δ, S1, d, R1, r1, hg.mono _ _ _ _ _ (fun _ _ z => kN.later t1 z) q1⟩
theorem ds_set {i : Nat} {x : Str} (hN : X.N.Nodup) (hi : X.N[i]? = some x) (hx : Loc X.env.scope x) (he : DE X e te) (hs : swapsWith e (some (.Name x pos')) pos.line X.env = pure false := by rfl) (hf : X.fn x = true ∨ X.env.scope.names.lookup x = some .local := by first | exact .inl rfl | exact .inr rfl | assumption) :
    DS X (.Assign [.Name x pos'] e pos) (sAsg te (gN i)) := by
  refine ⟨sAsg_mono he.mono gN_mono, ps_weak (ps_set hN hi hx he.pe hs hf) fun D σ H ⟨δ, S, R, q⟩ => ?_⟩
  exact he.sub R q fun d S1 v H1 q1 R1 r1 t1 => q1 _ H1 (R1.set r1) t1
def sPar (i j : Nat) (ta : TDA) : TDS := fun D δ S => ta δ S fun ds S1 => match ds with
  | [v, w] => D.nx ((δ.set i (some v)).set j (some w)) S1
  | _ => False
theorem ds_par {i j : Nat} {x y : Str} {ta : TDA} {px py pt : Pos} {kt k2 pt2} (hc : X.calm = true) (hN : X.N.Nodup) (hi : X.N[i]? = some x) (hj : X.N[j]? = some y) (hij : i ≠ j)
    (hx : X.env.scope.names.lookup x = some .local) (hy : X.env.scope.names.lookup y = some .local) (ha : DA X [a, b] ta)
    (hw : swappedStores [.Tuple [.Name x px, .Name y py] kt pt] (.Tuple [a, b] k2 pt2) X.env = pure (some [x, y]))
    (hs : swapsWithSole [.Tuple [.Name x px, .Name y py] kt pt] (.Tuple [a, b] k2 pt2) pos.line X.env = pure false := by rfl) :
    DS X (.Assign [.Tuple [.Name x px, .Name y py] kt pt] (.Tuple [a, b] k2 pt2) pos) (sPar i j ta) := by
  refine ⟨fun D D' δ S l q => ha.mono _ _ _ _ (fun ds S1 q1 => ?_) q, ps_weak (ps_par hc hN hi hj hij hx hy ha.pa hw hs) fun D σ H ⟨δ, S, R, q⟩ => ?_⟩
  · split at q1
    · exact l.nx _ _ q1
    · exact q1.elim
  · refine ha.sub R q fun ds S1 vs H1 q1 R1 r1 t1 => ?_
    split at q1
    · rename_i v w
      obtain ⟨v', w', rfl, r2, r3⟩ := dvs2 r1
      exact ⟨v', w', rfl, q1 _ H1 ((R1.set r2).set r3) t1⟩
    · exact q1.elim
theorem fld_putF {K : PySem.W.Frag} {H : Hp} {f : Str} {d : D} {v : V} (q : Dv K H d v) : ∀ {fs : List (Str × D)} {vs : List (Str × V)}, Paired (Fld K H) fs vs → Paired (Fld K H) (putFD f d fs) (putF f v vs)
  | _, _, .nil => .cons ⟨rfl, q⟩ .nil
  | (k, x) :: fs, (k', y) :: vs, .cons r t => by
    obtain ⟨rfl, r⟩ : k = k' ∧ Dv K H x y := r
    unfold putFD putF
    by_cases h : k = f
    · rw [if_pos h, if_pos h]
      exact .cons ⟨h.symm, q⟩ t
    · rw [if_neg h, if_neg h]
      exact .cons ⟨rfl, r⟩ (fld_putF q t)
def sFldD (C : Addr) (ta tv : TDE) (f : Str) : TDS := fun D δ S => tv δ S fun y S1 => ta δ S1 fun x S2 => match x with
  | .ref a => match S2 a with
    | some (.ins C' fs) => C' = C ∧ fs.length < 1000 ∧ D.nx δ (sup S2 a (.ins C (putFD f y fs)))
    | _ => False
  | _ => False
theorem ds_fld {C : Addr} {f : Str} (ho : DE X o ta) (hv : DE X value tv) (c : Cls X.K C) (n : NoAttr X.K C f) (hs : swapsWith value (some (.Attribute o f pos')) pos.line X.env = pure false := by rfl) : DS X (.Assign [.Attribute o f pos'] value pos) (sFldD C ta tv f) := by
  refine ⟨fun D D' δ S l q => hv.mono _ _ _ _ (fun y S1 q1 => ho.mono _ _ _ _ (fun x S2 q2 => ?_) q1) q, ps_weak (ps_fld ho.pe hv.pe hs) fun D σ H ⟨δ, S, R, q⟩ => ?_⟩
  · split at q2
    · split at q2
      · exact ⟨q2.1, q2.2.1, l.nx _ _ q2.2.2⟩
      · exact q2.elim
    · exact q2.elim
  · refine hv.sub R q fun y S1 v H1 q1 R1 r1 t1 => ho.sub R1 q1 fun x S2 u H2 q2 R2 r2 t2 => ?_
    split at q2
    · rename_i p
      rw [dv_ref] at r2
      subst r2
      split at q2
      · rename_i C' fs e1
        obtain ⟨rfl, l, q3⟩ := q2
        obtain ⟨dx, fs', h1, h2⟩ := R2.sto _ _ e1
        have tt : TupP X.K H2 (upd H2 p (.ins C' dx (putF f v fs'))) := R2.tup_change e1
        refine ⟨p, C', dx, fs', rfl, h1, c, n, by rw [← h2.length]; exact l, q3 σ _ (R2.change e1 ⟨dx, _, upd_same, Paired.mapP (fld_putF (r1.mono t2) h2) fun _ _ w => w.mono tt⟩) (t1.trans (t2.trans tt))⟩
      · exact q2.elim
    · exact q2.elim
def sFldAdd (C : Addr) (ta tv : TDE) (f : Str) : TDS := fun D δ S => ta δ S fun x S1 => match x with
  | .ref a => match S1 a with
    | some (.ins C' fs) => C' = C ∧ match fs.lookup f with
      | some (.int i) => tv δ S1 fun y S2 => match y with
        | .int j => match S2 a with
          | some (.ins C2 fs2) => C2 = C ∧ fs2.length < 1000 ∧ D.nx δ (sup S2 a (.ins C (putFD f (.int (i + j)) fs2)))
          | _ => False
        | _ => False
      | _ => False
    | _ => False
  | _ => False
theorem ds_fldadd {C : Addr} {f : Str} (ho : DE X o ta) (hv : DE X value tv) (c : Cls X.K C) (n : NoAttr X.K C f) : DS X (.AugAssign (.Attribute o f tpos) .Add value pos) (sFldAdd C ta tv f) := by
  refine ⟨fun D D' δ S l q => ho.mono _ _ _ _ (fun x S1 q1 => ?_) q, ps_weak (ps_fldaug ho.pe hv.pe in_add) fun D σ H ⟨δ, S, R, q⟩ => ?_⟩
  · split at q1
    · split at q1
      · refine ⟨q1.1, ?_⟩
        have q2 := q1.2
        split at q2
        · refine hv.mono _ _ _ _ (fun y S2 q3 => ?_) q2
          split at q3
          · split at q3
            · exact ⟨q3.1, q3.2.1, l.nx _ _ q3.2.2⟩
            · exact q3.elim
          · exact q3.elim
        · exact q2.elim
      · exact q1.elim
    · exact q1.elim
  · refine ho.sub R q fun x S1 v H1 q1 R1 r1 t1 => ?_
    split at q1
    · rename_i p
      rw [dv_ref] at r1
      subst r1
      split at q1
      · rename_i C' fs e1
        obtain ⟨rfl, q2⟩ := q1
        split at q2
        · rename_i i e2
          obtain ⟨dx, fs', h1, h2⟩ := R1.sto _ _ e1
          obtain ⟨w, e3, rw3⟩ := fld_lookup h2 e2
          rw [dv_int] at rw3
          subst rw3
          refine ⟨p, C', dx, fs', .int i, rfl, h1, c, n, e3, hv.sub R1 q2 fun y S2 u H2 q3 R2 r2 t2 => ?_⟩
          split at q3
          · rename_i j
            rw [dv_int] at r2
            subst r2
            split at q3
            · rename_i C2 fs2 e4
              obtain ⟨rfl, l, q4⟩ := q3
              obtain ⟨dx2, fs2', h3, h4⟩ := R2.sto _ _ e4
              have tt : TupP X.K H2 (upd H2 p (.ins C2 dx2 (putF f (.int (i + j)) fs2'))) := R2.tup_change e4
              refine ⟨i, j, rfl, rfl, dx2, fs2', h3, by rw [← h4.length]; exact l, q4 σ _ (R2.change e4 ⟨dx2, _, upd_same, Paired.mapP (fld_putF (dv_int.mpr rfl) h4) fun _ _ w => w.mono tt⟩) (t1.trans (t2.trans tt))⟩
            · exact q3.elim
          · exact q3.elim
        · exact q2.elim
      · exact q1.elim
    · exact q1.elim
def sDel (to ti : TDE) : TDS := fun D δ S => to δ S fun o S1 => ti δ S1 fun i S2 => match o with
  | .ref a => match S2 a with
    | some (.dit kvs _) => match tkey i with
      | some _ => (look kvs i).isSome = true ∧ ∀ ep, D.nx δ (sup S2 a (.dit (drop kvs i) ep))
      | none => False
    | _ => False
  | _ => False
theorem ds_del (hu : X.A.units + 64 < cLine) (ho : DE X o ta) (hi : DE X i tb) : DS X (.Delete [.Subscript o i tpos] pos) (sDel ta tb) := by
  refine ⟨fun D D' δ S l q => ho.mono _ _ _ _ (fun o S1 q1 => hi.mono _ _ _ _ (fun i S2 q2 => ?_) q1) q, ⟨fun pins s σ H D I ⟨δ, S, R, q⟩ => ?_⟩⟩
  · split at q2
    · split at q2
      · split at q2
        · exact ⟨q2.1, fun ep => l.nx _ _ (q2.2 ep)⟩
        · exact q2.elim
      · exact q2.elim
    · exact q2.elim
  · refine wpAny_Delete (wpAny_deleteEach_cons (wpAny_delete_Subscript ?_))
    refine thn (ho.pe.run pins s σ H _ I (two ho hi R q (Q := fun v u H2 => ∃ o i S2, Rel X δ S2 σ H2 ∧ Dv X.K H2 o v ∧ Dv X.K H2 i u ∧ TupP X.K H H2 ∧ match o with | .ref a => (match S2 a with | some (.dit kvs _) => (match tkey i with | some _ => (look kvs i).isSome = true ∧ ∀ ep, kN X H D.nx δ (sup S2 a (.dit (drop kvs i) ep)) | none => False) | _ => False) | _ => False) fun o i S2 v u H2 q2 R2 r1 r2 t => ⟨o, i, S2, R2, r1, r2, t, q2⟩)) fun ov s1 ⟨v, H1, I1, rv, q1⟩ => ?_
    refine thn (hi.pe.run pins s1 σ H1 _ I1 q1) fun iv s2 ⟨u, H2, I2, ru, o, i, S2, R2, r1, r2, t, q2⟩ => ?_
    split at q2
    · rename_i p
      rw [dv_ref] at r1
      subst r1
      cases rv
      split at q2
      · rename_i kvs ep0 e1
        split at q2
        · rename_i k ek
          obtain ⟨b, rfl⟩ := tup_addr ek r2
          cases ru
          obtain ⟨xs, dd⟩ := dit_of I2 (R2.sto _ _ e1)
          rcases ent_look ek dd.ent with ⟨e2, _⟩ | ⟨dv, b', u', v', e2, e3, _⟩
          · rw [e2] at q2; cases q2.1
          · refine wpAny_delItem_heap (knd := nestedKind X.prog X.w) (hsz := dd.len) (room8 hu) (key_is I2 ek r2) dd.sys dd.raw e3 fun h' hm hs => ?_
            obtain ⟨ep', I'⟩ := dit_write I2 dd hm hs
            have tt := R2.tup_change (ho := dictO X.prog X.w p (withoutH xs k) ep') e1
            refine wpAny_deleteEach_nil ⟨σ, _, I', q2.2 ep' σ _ (R2.change e1 (ObjD.dit_upd dd.at_ trivial dd.sys (Nat.le_trans (length_withoutH xs k) dd.len) (ent_drop ek dd.ent))) (t.trans tt)⟩
        · exact q2.elim
      · exact q2.elim
    · exact q2.elim
end
end DL
set_option maxRecDepth 100000
namespace DL
open PySem L2
inductive Pat where
  | nm (i : Nat)
  | tp (ps : List Pat)
mutual
def gPat (K : PySem.W.Frag) : Pat → TG
  | .nm i => gName i
  | .tp ps => gTup K ps.length (gPats K ps)
def gPats (K : PySem.W.Frag) : List Pat → TGs
  | [] => gNil
  | p :: ps => gCons (gPat K p) (gPats K ps)
end
mutual
def bindP : Pat → D → DEnv → Option DEnv
  | .nm i, d, δ => some (δ.set i (some d))
  | .tp ps, .tup xs, δ => bindPs ps xs δ
  | .tp _, _, _ => none
def bindPs : List Pat → List D → DEnv → Option DEnv
  | [], [], δ => some δ
  | p :: ps, d :: ds, δ => match bindP p d δ with
    | some δ1 => bindPs ps ds δ1
    | none => none
  | _, _, _ => none
end
mutual
def Pat.slots : Pat → List Nat
  | .nm i => [i]
  | .tp ps => slotss ps
def slotss : List Pat → List Nat
  | [] => []
  | p :: ps => p.slots ++ slotss ps
end
structure Agree (vs : List Nat) (σ σ' : St) : Prop where
  len : σ'.length = σ.length
  out : ∀ j, j ∉ vs → σ'[j]? = σ[j]?
theorem Agree.refl {vs : List Nat} {σ : St} : Agree vs σ σ := ⟨rfl, fun _ _ => rfl⟩
theorem Agree.trans {vs : List Nat} {σ σ1 σ2 : St} (a : Agree vs σ σ1) (b : Agree vs σ1 σ2) : Agree vs σ σ2 := ⟨b.len.trans a.len, fun j h => (b.out j h).trans (a.out j h)⟩
theorem Agree.set {vs : List Nat} {σ : St} {i : Nat} {x : Option V} (h : i ∈ vs) : Agree vs σ (σ.set i x) := ⟨by rw [List.length_set], fun j hj => List.getElem?_set_ne fun e => hj (by rw [← e]; exact h)⟩
theorem wipe_out {σ : St} {i : Nat} : ∀ {vs : List Nat}, i ∉ vs → (wipe σ vs)[i]? = σ[i]?
  | [], _ => rfl
  | v :: vs, h => by
    unfold wipe
    rw [List.mem_cons, not_or] at h
    rw [List.getElem?_set_ne (Ne.symm h.1)]
    exact wipe_out h.2
theorem wipe_in {σ : St} {i : Nat} : ∀ {vs : List Nat}, i ∈ vs → i < σ.length → (wipe σ vs)[i]? = some none
  | v :: vs, h, l => by
    unfold wipe
    by_cases e : v = i
    · subst e
      rw [List.getElem?_set_self (by rw [wipe_length]; exact l)]
    · rw [List.getElem?_set_ne e]
      rcases List.mem_cons.mp h with h | h
      · exact absurd h.symm e
      · exact wipe_in h l
theorem Agree.wipe {vs : List Nat} {σ σ' : St} (a : Agree vs σ σ') : wipe σ' vs = wipe σ vs := by
  refine List.ext_getElem? fun i => ?_
  by_cases h : i ∈ vs
  · by_cases l : i < σ.length
    · rw [wipe_in h l, wipe_in h (by rw [a.len]; exact l)]
    · rw [List.getElem?_eq_none (by rw [wipe_length, a.len]; omega), List.getElem?_eq_none (by rw [wipe_length]; omega)]
  · rw [wipe_out h, wipe_out h]
    exact a.out i h
section
variable {X : Cx}
mutual
theorem bindP_ok {vs : List Nat} {S : Sto} {H : Hp} : ∀ (p : Pat) (d : D) (δ δ' : DEnv) (σ : St) (x : V) (Q : St → Hp → Prop), bindP p d δ = some δ' → Rel X δ S σ H → Dv X.K H d x → (∀ i ∈ p.slots, i ∈ vs) →
    (∀ σ', Rel X δ' S σ' H → Agree vs σ σ' → Q σ' H) → gPat X.K p x σ H Q
  | .nm i, d, δ, δ', σ, x, Q, e, R, r, hs, q => by
    rw [bindP] at e
    cases e
    rw [gPat]
    exact q _ (R.set r) (Agree.set (hs i (by rw [Pat.slots]; exact List.mem_singleton.mpr rfl)))
  | .tp ps, d, δ, δ', σ, x, Q, e, R, r, hs, q => by
    cases d with
    | tup xs =>
      rw [bindP] at e
      rw [gPat]
      obtain ⟨a, ws, rfl, sx, dx⟩ := dv_tup.mp r
      refine ⟨a, ws, rfl, sx, ?_, bindPs_ok ps xs δ δ' σ ws Q e R dx (fun i h => hs i (by rw [Pat.slots]; exact h)) q⟩
      rw [← dx.length]
      exact bindPs_len ps xs δ δ' e
    | _ => simp [bindP] at e
theorem bindPs_ok {vs : List Nat} {S : Sto} {H : Hp} : ∀ (ps : List Pat) (ds : List D) (δ δ' : DEnv) (σ : St) (xs : List V) (Q : St → Hp → Prop), bindPs ps ds δ = some δ' → Rel X δ S σ H → Dvs X.K H ds xs → (∀ i ∈ slotss ps, i ∈ vs) →
    (∀ σ', Rel X δ' S σ' H → Agree vs σ σ' → Q σ' H) → gPats X.K ps xs σ H Q
  | [], ds, δ, δ', σ, xs, Q, e, R, r, hs, q => by
    cases ds with
    | nil =>
      rw [bindPs] at e
      cases e
      rw [gPats]
      rw [Dvs] at r
      exact ⟨r, q σ R .refl⟩
    | cons _ _ => simp [bindPs] at e
  | p :: ps, ds, δ, δ', σ, xs, Q, e, R, r, hs, q => by
    cases ds with
    | nil => simp [bindPs] at e
    | cons d ds =>
      rw [bindPs] at e
      split at e
      · rename_i δ1 e1
        rw [Dvs] at r
        obtain ⟨v, vr, rfl, r1, r2⟩ := r
        rw [gPats]
        refine ⟨v, vr, rfl, bindP_ok (vs := vs) p d δ δ1 σ v _ e1 R r1 (fun i h => hs i (by rw [slotss]; exact List.mem_append_left _ h)) fun σ1 R1 a1 => ?_⟩
        exact bindPs_ok ps ds δ1 δ' σ1 vr Q e R1 r2 (fun i h => hs i (by rw [slotss]; exact List.mem_append_right _ h)) fun σ2 R2 a2 => q σ2 R2 (a1.trans a2)
      · cases e
theorem bindPs_len : ∀ (ps : List Pat) (ds : List D) (δ δ' : DEnv), bindPs ps ds δ = some δ' → ds.length = ps.length
  | [], ds, δ, δ', e => by
    cases ds with
    | nil => rfl
    | cons _ _ => simp [bindPs] at e
  | p :: ps, ds, δ, δ', e => by
    cases ds with
    | nil => simp [bindPs] at e
    | cons d ds =>
      rw [bindPs] at e
      split at e
      · rename_i δ1 e1
        rw [List.length_cons, List.length_cons, bindPs_len ps ds δ1 δ' e]
      · cases e
end
end
structure PPat (X : Cx) (tg : Expr) (p : Pat) : Prop where
  pg : PG X tg (gPat X.K p)
structure PPats (X : Cx) (tgs : List Expr) (ps : List Pat) : Prop where
  pgs : PGs X tgs (gPats X.K ps)
section
variable {X : Cx} {e : Expr} {es : List Expr} {pos : Pos} {p : Pat} {ps : List Pat}
theorem pp_name {i : Nat} {x : Str} (hN : X.N.Nodup) (hi : X.N[i]? = some x) (hx : Loc X.env.scope x) (hf : X.fn x = true ∨ X.env.scope.names.lookup x = some .local := by first | exact .inl rfl | exact .inr rfl | assumption) : PPat X (.Name x pos) (.nm i) :=
  ⟨by rw [gPat]; exact pg_name hN hi hx hf⟩
theorem pp_nil : PPats X [] [] := ⟨by rw [gPats]; exact pgs_nil⟩
theorem pp_cons (h1 : PPat X e p) (h2 : PPats X es ps) (hs : (assignEach (e :: es) X.env).map (·.2) = assign e X.env :: (assignEach es X.env).map (·.2) := by rfl) : PPats X (e :: es) (p :: ps) :=
  ⟨by rw [gPats]; exact pgs_cons h1.pg h2.pgs hs⟩
theorem pp_tup {k : Nat} (hc : X.calm = true) (h : PPats X es ps) (hn : (assignEach es X.env).length = ps.length := by rfl) (hst : (assignEach es X.env).findIdx? (·.1) = none := by rfl) : PPat X (.Tuple es k pos) (.tp ps) :=
  ⟨by rw [gPat]; exact pg_tup hc h.pgs hn hst⟩
end
structure Src where
  items : List D
  ok : Sto → Prop
abbrev TDI := DEnv → Sto → (Src → Sto → Prop) → Prop
def ItD (X : Cx) (H0 : Hp) (s : Src) (J : It) : Prop := ∀ δ S σ H, Rel X δ S σ H → TupP X.K H0 H → s.ok S →
  (∀ i d, s.items[i]? = some d → J.go i H ∧ ∀ x H', J.yld i H x H' → Rel X δ S σ H' ∧ Dv X.K H' d x ∧ TupP X.K H H') ∧ J.stop s.items.length H
def upI (X : Cx) (t : TDI) : TI := fun σ H R => ∃ δ S, Rel X δ S σ H ∧ t δ S fun s S' => ∀ J H', Rel X δ S' σ H' → TupP X.K H H' → ItD X H' s J → R J H'
def MonoI (t : TDI) : Prop := ∀ δ S Q Q', (∀ d S', Q d S' → Q' d S') → t δ S Q → t δ S Q'
structure DI (X : Cx) (tg e : Expr) (t : TDI) : Prop where
  mono : MonoI t
  pi : PI X tg e (upI X t)
theorem pi_weak {X : Cx} {tg e : Expr} {t t' : TI} (h : PI X tg e t) (w : ∀ σ H R, t' σ H R → t σ H R) : PI X tg e t' := ⟨fun pins s σ H R I q => h.run pins s σ H R I (w σ H R q)⟩
section
variable {X : Cx} {tg e : Expr} {te : TDE}
def iLst (te : TDE) : TDI := fun δ S Q => te δ S fun x S1 => match x with
  | .ref a => match S1 a with
    | some (.lst ds) => Q ⟨ds, fun S => S a = some (.lst ds)⟩ S1
    | _ => False
  | _ => False
def iTpl (te : TDE) : TDI := fun δ S Q => te δ S fun x S1 => match x with
  | .tup ds => Q ⟨ds, fun _ => True⟩ S1
  | _ => False
theorem itd_list {H0 : Hp} {a : Addr} {ds : List D} : ItD X H0 ⟨ds, fun S => S a = some (.lst ds)⟩ (Itl X.K a) := fun δ S σ H R _ ok => by
  obtain ⟨vs, h1, h2⟩ := R.sto a _ ok
  refine ⟨fun i d e => ?_, ⟨vs, SqL.of h1, by rw [← h2.length]; exact Nat.le_refl _⟩⟩
  obtain ⟨v, ev, r⟩ := h2.get e
  refine ⟨⟨vs, v, SqL.of h1, ev⟩, fun x H' y => ?_⟩
  obtain ⟨rfl, y⟩ := y
  have := y vs (SqL.of h1)
  rw [ev] at this
  cases this
  exact ⟨R, r, .refl⟩
theorem itd_tup {H0 : Hp} {a : Addr} {vs : List V} {ds : List D} (hs : SqT X.K H0 a vs) (hd : Dvs X.K H0 ds vs) : ItD X H0 ⟨ds, fun _ => True⟩ (Itt X.K a) := fun δ S σ H R t ok => by
  have h1 := t.1 a vs hs
  have h2 := hd.mono t
  refine ⟨fun i d e => ?_, ⟨vs, h1, by rw [← h2.length]; exact Nat.le_refl _⟩⟩
  obtain ⟨v, ev, r⟩ := h2.get e
  refine ⟨⟨vs, v, h1, ev⟩, fun x H' y => ?_⟩
  obtain ⟨rfl, y⟩ := y
  have := y vs h1
  rw [ev] at this
  cases this
  exact ⟨R, r, .refl⟩
theorem di_list (he : DE X e te) : DI X tg e (iLst te) := by
  refine ⟨fun δ S Q Q' k q => he.mono _ _ _ _ (fun x S1 q1 => ?_) q, pi_weak (pi_list he.pe) fun σ H R ⟨δ, S, r, q⟩ => ?_⟩
  · split at q1
    · split at q1
      · exact k _ _ q1
      · exact q1.elim
    · exact q1.elim
  · refine he.sub r q fun x S1 v H1 q1 R1 r1 t1 => ?_
    split at q1
    · rename_i a
      rw [dv_ref] at r1
      subst r1
      split at q1
      · rename_i ds e1
        obtain ⟨vs, h1, _⟩ := R1.sto a _ e1
        exact ⟨a, rfl, ⟨vs, SqL.of h1⟩, q1 _ H1 R1 t1 itd_list⟩
      · exact q1.elim
    · exact q1.elim
theorem di_tup (he : DE X e te) : DI X tg e (iTpl te) := by
  refine ⟨fun δ S Q Q' k q => he.mono _ _ _ _ (fun x S1 q1 => ?_) q, pi_weak (pi_tup he.pe) fun σ H R ⟨δ, S, r, q⟩ => ?_⟩
  · split at q1
    · exact k _ _ q1
    · exact q1.elim
  · refine he.sub r q fun x S1 v H1 q1 R1 r1 t1 => ?_
    split at q1
    · obtain ⟨a, vs, rfl, sx, dx⟩ := dv_tup.mp r1
      exact ⟨a, rfl, ⟨vs, sx⟩, q1 _ H1 R1 t1 (itd_tup sx dx)⟩
    · exact q1.elim
def rngD (lo : Int) (n : Nat) : List D := (List.range n).map fun i => D.int (lo + (i : Nat))
theorem itd_range {H0 : Hp} {lo : Int} {n : Nat} : ItD X H0 ⟨rngD lo n, fun _ => True⟩ (Itr lo n) := fun δ S σ H R _ ok => by
  have hl : (rngD lo n).length = n := by unfold rngD; simp
  refine ⟨fun i d e => ?_, by show n ≤ (rngD lo n).length; rw [hl]; exact Nat.le_refl _⟩
  unfold rngD at e
  rw [List.getElem?_map] at e
  obtain ⟨j, e1, rfl⟩ := Option.map_eq_some_iff.mp e
  have l : i < n := by
    have := (List.getElem?_eq_some_iff.mp e1).1
    simpa using this
  have : j = i := by
    rw [List.getElem?_range l] at e1
    exact (Option.some.inj e1).symm
  subst this
  refine ⟨l, fun x H' y => ?_⟩
  obtain ⟨rfl, rfl⟩ := y
  exact ⟨R, dv_int.mpr rfl, .refl⟩
def iR1 (t : TDA) : TDI := fun δ S Q => t δ S fun ds S1 => match ds with
  | [.int j] => -(2 ^ 62) ≤ j ∧ j < 2 ^ 62 ∧ Q ⟨rngD 0 j.toNat, fun _ => True⟩ S1
  | _ => False
theorem di_range1 {a : Expr} {t : TDA} {p pos : Pos} (hg : Gl X "range") (hm : X.mg "range" = none) (ha : DA X [a] t) (hs : starEach [a] X.env = [(false, eval a X.env)] := by rfl) : DI X tg (.Call (.Name "range" p) [a] [] pos) (iR1 t) := by
  refine ⟨fun δ S Q Q' k q => ha.mono _ _ _ _ (fun ds S1 q1 => ?_) q, pi_weak (pi_range1 hg hm ha.pa hs) fun σ H R ⟨δ, S, r, q⟩ => ?_⟩
  · split at q1
    · exact ⟨q1.1, q1.2.1, k _ _ q1.2.2⟩
    · exact q1.elim
  · refine ha.sub r q fun ds S1 vs H1 q1 R1 r1 t1 => ?_
    split at q1
    · rename_i j
      obtain ⟨v, rfl, rv⟩ := dvs1 r1
      rw [dv_int] at rv
      subst rv
      exact ⟨j, rfl, q1.1, q1.2.1, q1.2.2 _ H1 R1 t1 itd_range⟩
    · exact q1.elim
def rngDn (a b : Int) : List D := (List.range (a - b).toNat).map fun i => D.int (a - (i : Nat))
theorem itd_rangeDn {H0 : Hp} {a b : Int} : ItD X H0 ⟨rngDn a b, fun _ => True⟩ (Itc a (-1) (a - b).toNat) := fun δ S σ H R _ ok => by
  have hl : (rngDn a b).length = (a - b).toNat := by unfold rngDn; simp
  refine ⟨fun i d e => ?_, by show (a - b).toNat ≤ (rngDn a b).length; rw [hl]; exact Nat.le_refl _⟩
  unfold rngDn at e
  rw [List.getElem?_map] at e
  obtain ⟨j, e1, rfl⟩ := Option.map_eq_some_iff.mp e
  have l : i < (a - b).toNat := by
    have := (List.getElem?_eq_some_iff.mp e1).1
    simpa using this
  have : j = i := by
    rw [List.getElem?_range l] at e1
    exact (Option.some.inj e1).symm
  subst this
  refine ⟨l, fun x H' y => ?_⟩
  obtain ⟨rfl, rfl⟩ := y
  exact ⟨R, by rw [dv_int]; congr 1; omega, .refl⟩
def iR3 (t : TDA) : TDI := fun δ S Q => t δ S fun ds S1 => match ds with
  | [.int a, .int b, .int c] => c = -1 ∧ (-(2 ^ 62) ≤ a ∧ a < 2 ^ 62 ∧ -(2 ^ 62) ≤ b ∧ b < 2 ^ 62) ∧ Q ⟨rngDn a b, fun _ => True⟩ S1
  | _ => False
theorem di_range3 {a b c : Expr} {t : TDA} {p pos : Pos} (hg : Gl X "range") (hm : X.mg "range" = none) (ha : DA X [a, b, c] t) (hp : PI X tg (.Call (.Name "range" p) [a, b, c] [] pos) (iRng3 (upA X t))) : DI X tg (.Call (.Name "range" p) [a, b, c] [] pos) (iR3 t) := by
  refine ⟨fun δ S Q Q' k q => ha.mono _ _ _ _ (fun ds S1 q1 => ?_) q, pi_weak hp fun σ H R ⟨δ, S, r, q⟩ => ?_⟩
  · split at q1
    · exact ⟨q1.1, q1.2.1, k _ _ q1.2.2⟩
    · exact q1.elim
  · refine ha.sub r q fun ds S1 vs H1 q1 R1 r1 t1 => ?_
    split at q1
    · rename_i i j k
      rw [Dvs] at r1
      obtain ⟨v, vr, rfl, rv, r2⟩ := r1
      obtain ⟨v2, v3, rfl, rv2, rv3⟩ := dvs2 r2
      rw [dv_int] at rv rv2 rv3
      subst rv rv2 rv3
      obtain ⟨rfl, ⟨b1, b2, b3, b4⟩, q2⟩ := q1
      exact ⟨i, j, -1, (i - j).toNat, rfl, RgC.neg b1 b2 b3 b4, q2 _ H1 R1 t1 itd_rangeDn⟩
    · exact q1.elim
def sgn (x : Str) : List D := x.cps.toList.map fun c => D.str ⟨#[c]⟩
theorem itd_str {H0 : Hp} {x : Str} : ItD X H0 ⟨sgn x, fun _ => True⟩ (Its x) := fun δ S σ H R _ ok => by
  have hl : (sgn x).length = x.cps.size := by unfold sgn; simp
  refine ⟨fun i d e => ?_, by show x.cps.size ≤ (sgn x).length; rw [hl]; exact Nat.le_refl _⟩
  unfold sgn at e
  rw [List.getElem?_map] at e
  obtain ⟨c, e1, rfl⟩ := Option.map_eq_some_iff.mp e
  have e2 : x.cps[i]? = some c := by rw [← Array.getElem?_toList]; exact e1
  have l : i < x.cps.size := (Array.getElem?_eq_some_iff.mp e2).1
  refine ⟨l, fun v H' y => ?_⟩
  obtain ⟨rfl, c', e3, rfl⟩ := y
  rw [e2] at e3
  cases e3
  exact ⟨R, dv_str.mpr rfl, .refl⟩
def iSg (te : TDE) : TDI := fun δ S Q => te δ S fun x S1 => match x with
  | .str z => Q ⟨sgn z, fun _ => True⟩ S1
  | _ => False
theorem di_str (he : DE X e te) : DI X tg e (iSg te) := by
  refine ⟨fun δ S Q Q' k q => he.mono _ _ _ _ (fun x S1 q1 => ?_) q, pi_weak (pi_str he.pe) fun σ H R ⟨δ, S, r, q⟩ => ?_⟩
  · split at q1
    · exact k _ _ q1
    · exact q1.elim
  · refine he.sub r q fun x S1 v H1 q1 R1 r1 t1 => ?_
    split at q1
    · rw [dv_str] at r1
      exact ⟨_, r1, q1 _ H1 R1 t1 itd_str⟩
    · exact q1.elim
end
def dLoop (ok : Sto → Prop) (p : Pat) (tb : TDS) (D : DEnds) : List DL.D → DEnv → Sto → Prop
  | [], δ, S => ok S ∧ D.nx δ S
  | x :: xs, δ, S => ok S ∧ match bindP p x δ with
    | some δ1 => tb ⟨dLoop ok p tb D xs, D.rt, D.nx, dLoop ok p tb D xs⟩ δ1 S
    | none => False
def sFor (wi : TDI) (p : Pat) (tb : TDS) : TDS := fun D δ S => wi δ S fun src S1 => dLoop src.ok p tb D src.items δ S1
theorem dLoop_mono {ok : Sto → Prop} {p : Pat} {tb : TDS} (h : MonoS tb) {E E' : DEnds} (l : E.Le E') : ∀ (xs : List DL.D) (δ : DEnv) (S : Sto), dLoop ok p tb E xs δ S → dLoop ok p tb E' xs δ S
  | [], δ, S, q => by
    unfold dLoop at *
    exact ⟨q.1, l.nx _ _ q.2⟩
  | x :: xs, δ, S, q => by
    unfold dLoop at *
    refine ⟨q.1, ?_⟩
    have q2 := q.2
    split at q2
    · exact h ⟨dLoop ok p tb E xs, E.rt, E.nx, dLoop ok p tb E xs⟩ ⟨dLoop ok p tb E' xs, E'.rt, E'.nx, dLoop ok p tb E' xs⟩ _ _ ⟨fun δ S => dLoop_mono h l xs δ S, l.rt, l.nx, fun δ S => dLoop_mono h l xs δ S⟩ q2
    · exact q2.elim
theorem dLoop_ok {ok : Sto → Prop} {p : Pat} {tb : TDS} {D : DEnds} {xs : List DL.D} {δ : DEnv} {S : Sto} (q : dLoop ok p tb D xs δ S) : ok S := by
  cases xs <;> (unfold dLoop at q; exact q.1)
section
variable {X : Cx} {tg iter : Expr} {body : List Stmt} {pos : Pos} {wi : TDI} {p : Pat} {tb : TDS}
theorem ds_for (hp : PassesOwn (model X.prog X.w) X.A X.env X.xe) (hc : X.calm = true) (hi : DI X tg iter wi) (hg : PPat X tg p) (hb : DSs X body tb) (hs : ∀ x, foldedSetIterable iter X.env x = pure x := by intro _; rfl) : DS X (.For tg iter body [] pos) (sFor wi p tb) := by
  refine ⟨fun D D' δ S l q => hi.mono _ _ _ _ (fun src S1 q1 => dLoop_mono hb.mono l _ _ _ q1) q, ps_weak (ps_for hp hc hi.pi hg.pg hb.pss hs) fun D σ H ⟨δ, S, R, q⟩ => ?_⟩
  refine ⟨δ, S, R, hi.mono _ _ _ _ (fun src S1 q1 J H1 R1 t1 it => ?_) q⟩
  refine ⟨fun i m σ' H' => m = src.items.length - i ∧ i ≤ src.items.length ∧ ∃ δ' S', Rel X δ' S' σ' H' ∧ TupP X.K H1 H' ∧ dLoop src.ok p tb (kS X H D) (src.items.drop i) δ' S', ⟨_, rfl, Nat.zero_le _, δ, S1, R1, .refl, q1⟩, ?_⟩
  rintro i m σ' H' ⟨rfl, hi', δ', S', R', t', q'⟩
  obtain ⟨g1, g2⟩ := it δ' S' σ' H' R' t' (dLoop_ok q')
  by_cases hlt : i < src.items.length
  · refine .inr ?_
    have e1 : src.items[i]? = some src.items[i] := by simp [hlt]
    obtain ⟨go, yd⟩ := g1 i _ e1
    rw [List.drop_eq_getElem_cons hlt] at q'
    unfold dLoop at q'
    refine ⟨go, fun σ2 H2 => ∃ δ2 S2, Rel X δ2 S2 σ2 H2 ∧ TupP X.K H1 H2 ∧ dLoop src.ok p tb (kS X H D) (src.items.drop (i + 1)) δ2 S2, fun σ2 H2 ⟨δ2, S2, R2, t2, q2⟩ => ⟨_, by omega, rfl, hlt, δ2, S2, R2, t2, q2⟩, fun x H2 y => ?_⟩
    obtain ⟨R2, r2, t2⟩ := yd x H2 y
    have q2 := q'.2
    split at q2
    · rename_i δ1 eb
      refine bindP_ok (vs := p.slots) p _ δ' δ1 σ' x _ eb R2 r2 (fun _ h => h) fun σ3 R3 _ => ?_
      refine hb.sub R3 ⟨fun δ4 S4 q4 σ4 H4 R4 t4 => ⟨δ4, S4, R4, t'.trans (t2.trans t4), q4⟩, fun d S4 q4 => kR.later (t1.trans (t'.trans t2)) q4, fun δ4 S4 q4 => kN.later (t1.trans (t'.trans t2)) q4, fun δ4 S4 q4 σ4 H4 R4 t4 => ⟨δ4, S4, R4, t'.trans (t2.trans t4), q4⟩⟩ q2
    · exact q2.elim
  · have e : i = src.items.length := by omega
    subst e
    rw [List.drop_length] at q'
    unfold dLoop at q'
    exact .inl ⟨g2, q'.2 σ' H' R' (t1.trans t')⟩
def sWhile (c : TDT) (tb : TDS) : TDS := fun D δ S => ∃ W : Nat → DEnv → Sto → Prop, (∃ m, W m δ S) ∧ ∀ m δ S, W m δ S →
  c δ S fun b S1 => if b = true then tb ⟨fun δ' S' => ∃ m', m' < m ∧ W m' δ' S', D.rt, D.nx, fun δ' S' => ∃ m', m' < m ∧ W m' δ' S'⟩ δ S1 else D.nx δ S1
theorem ds_while {c : Expr} {tc : TDT} (hp : PassesOwn (model X.prog X.w) X.A X.env X.xe) (hc : DT X c tc) (hb : DSs X body tb) : DS X (.While c body [] pos) (sWhile tc tb) := by
  refine ⟨fun D D' δ S l ⟨W, h0, h1⟩ => ⟨W, h0, fun m δ S w => hc.mono _ _ _ _ (fun b S1 q1 => ?_) (h1 m δ S w)⟩, ps_weak (ps_while hp hc.pt hb.pss) fun D σ H ⟨δ, S, R, W, ⟨m0, w0⟩, h1⟩ => ?_⟩
  · cases b <;> simp only [if_true, Bool.false_eq_true, if_false] at q1 ⊢
    · exact l.nx _ _ q1
    · exact hb.mono ⟨fun δ' S' => ∃ m', m' < m ∧ W m' δ' S', D.rt, D.nx, fun δ' S' => ∃ m', m' < m ∧ W m' δ' S'⟩ ⟨fun δ' S' => ∃ m', m' < m ∧ W m' δ' S', D'.rt, D'.nx, fun δ' S' => ∃ m', m' < m ∧ W m' δ' S'⟩ _ _ ⟨fun _ _ z => z, l.rt, l.nx, fun _ _ z => z⟩ q1
  · refine ⟨fun m σ' H' => ∃ δ' S', Rel X δ' S' σ' H' ∧ TupP X.K H H' ∧ W m δ' S', ⟨m0, δ, S, R, .refl, w0⟩, ?_⟩
    rintro m σ' H' ⟨δ', S', R', t', w'⟩
    refine hc.sub R' (h1 m δ' S' w') fun b S1 H1 q1 R1 t1 => ?_
    cases b <;> simp only [if_true, Bool.false_eq_true, if_false] at q1 ⊢
    · exact q1 σ' H1 R1 (t'.trans t1)
    · refine ⟨fun σ2 H2 => ∃ δ2 S2, Rel X δ2 S2 σ2 H2 ∧ TupP X.K H H2 ∧ ∃ m', m' < m ∧ W m' δ2 S2, fun σ2 H2 ⟨δ2, S2, R2, t2, m', l, w2⟩ => ⟨m', l, δ2, S2, R2, t2, w2⟩, ?_⟩
      exact hb.sub R1 ⟨fun δ4 S4 q4 σ4 H4 R4 t4 => ⟨δ4, S4, R4, t'.trans (t1.trans t4), q4⟩, fun d S4 q4 => kR.later (t'.trans t1) q4, fun δ4 S4 q4 => kN.later (t'.trans t1) q4, fun δ4 S4 q4 σ4 H4 R4 t4 => ⟨δ4, S4, R4, t'.trans (t1.trans t4), q4⟩⟩ q1
end
def wipeD (δ : DEnv) : List Nat → DEnv
  | [] => δ
  | v :: vs => (wipeD δ vs).set v none
theorem wipeD_length (δ : DEnv) : ∀ vs : List Nat, (wipeD δ vs).length = δ.length
  | [] => rfl
  | v :: vs => by unfold wipeD; rw [List.length_set, wipeD_length δ vs]
theorem wipeD_some {δ : DEnv} {i : Nat} {x : D} : ∀ {vs : List Nat}, (wipeD δ vs)[i]? = some (some x) → δ[i]? = some (some x) ∧ i ∉ vs
  | [], h => ⟨h, by simp⟩
  | v :: vs, h => by
    unfold wipeD at h
    by_cases hi : v = i
    · subst hi
      by_cases hv : v < (wipeD δ vs).length
      · rw [List.getElem?_set_self hv] at h; cases h
      · rw [List.getElem?_eq_none (by simpa using hv)] at h; cases h
    · rw [List.getElem?_set_ne hi] at h
      obtain ⟨h1, h2⟩ := wipeD_some h
      exact ⟨h1, fun e => (List.mem_cons.mp e).elim (fun z => hi z.symm) h2⟩
theorem Rel.wipe {X : Cx} {δ : DEnv} {S : Sto} {σ : St} {H : Hp} (R : Rel X δ S σ H) (vs : List Nat) : Rel X (wipeD δ vs) S (wipe σ vs) H := by
  refine ⟨by rw [wipeD_length, wipe_length]; exact R.len, fun i d h => ?_, R.sto⟩
  obtain ⟨h1, h2⟩ := wipeD_some h
  rw [wipe_out h2]
  exact R.loc i d h1
def dComp (ok : Sto → Prop) (p : Pat) (tt : TDT) (te : TDE) (δ0 : DEnv) (D : Addr) (Q : Sto → Prop) : List DL.D → Sto → Prop
  | [], S => ok S ∧ Q S
  | x :: xs, S => ok S ∧ match bindP p x δ0 with
    | some δ1 => tt δ1 S fun b S2 => if b = true then te δ1 S2 fun d S3 => match S3 D with
      | some (.lst acc) => acc.length < sizeLine ∧ dComp ok p tt te δ0 D Q xs (sup S3 D (.lst (acc ++ [d])))
      | _ => False
      else dComp ok p tt te δ0 D Q xs S2
    | none => False
def dLc (wi : TDI) (p : Pat) (tt : TDT) (te : TDE) (vs : List Nat) : TDE := fun δ S Q => wi δ S fun src S1 => ∀ D, S1 D = none → dComp src.ok p tt te (wipeD δ vs) D (fun S2 => Q (.ref D) S2) src.items (sup S1 D (.lst []))
theorem dComp_mono {ok : Sto → Prop} {p : Pat} {tt : TDT} {te : TDE} {δ0 : DEnv} {D : Addr} (h1 : MonoT tt) (h2 : MonoE te) {Q Q' : Sto → Prop} (h : ∀ S, Q S → Q' S) : ∀ (xs : List DL.D) (S : Sto), dComp ok p tt te δ0 D Q xs S → dComp ok p tt te δ0 D Q' xs S
  | [], S, q => by
    unfold dComp at *
    exact ⟨q.1, h _ q.2⟩
  | x :: xs, S, q => by
    unfold dComp at *
    refine ⟨q.1, ?_⟩
    have q2 := q.2
    split at q2
    · refine h1 _ _ _ _ (fun b S2 q3 => ?_) q2
      cases b <;> simp only [if_true, Bool.false_eq_true, if_false] at q3 ⊢
      · exact dComp_mono h1 h2 h xs S2 q3
      · refine h2 _ _ _ _ (fun d S3 q4 => ?_) q3
        split at q4
        · exact ⟨q4.1, dComp_mono h1 h2 h xs _ q4.2⟩
        · exact q4.elim
    · exact q2.elim
theorem dComp_ok {ok : Sto → Prop} {p : Pat} {tt : TDT} {te : TDE} {δ0 : DEnv} {D : Addr} {Q : Sto → Prop} {xs : List DL.D} {S : Sto} (q : dComp ok p tt te δ0 D Q xs S) : ok S := by
  cases xs <;> (unfold dComp at q; exact q.1)
structure DTs (X : Cx) (ifs : List Expr) (t : TDT) : Prop where
  mono : MonoT t
  pts : PTs X ifs (upT X t)
def dYes : TDT := fun _ S Q => Q true S
section
variable {X : Cx} {elt tg iter : Expr} {ifs : List Expr} {scope : Scope} {own : List (Str × Nat)} {pos : Pos} {wi : TDI} {p : Pat} {tt : TDT} {te : TDE}
theorem dts_nil : DTs X [] dYes := ⟨fun δ S Q Q' k q => k _ _ q, ⟨fun pins s σ H Q I ⟨δ, S, R, q⟩ => pts_nil.run pins s σ H Q I (q H R .refl)⟩⟩
theorem dts_one {c : Expr} {t : TDT} (h : DT X c t) : DTs X [c] t := ⟨h.mono, pts_one h.pt⟩
theorem lc_lift (hi : DI X tg iter wi) (mt : MonoT tt) (me : MonoE te) (hsl : ∀ i ∈ p.slots, i ∈ own.map (·.2)) {σ : St} {H : Hp} {Q : VK} {δ : DEnv} {S : Sto} (R : Rel X δ S σ H) {Q1 : DK} (q : dLc wi p tt te (own.map (·.2)) δ S Q1) (hq : ∀ d S1 v H1, Q1 d S1 → Rel X δ S1 σ H1 → Dv X.K H1 d v → TupP X.K H H1 → Q v H1) :
    tLc (upI X wi) (gPat X.K p) (upT X tt) (upE X te) (own.map (·.2)) σ H Q := by
  refine ⟨δ, S, R, hi.mono _ _ _ _ (fun src S1 q1 J H1 R1 t1 it D hD => ?_) q⟩
  have q1 := q1 D (R1.free hD)
  have tD : TupP X.K H1 (upd H1 D (.lst [])) := TupP.laid hD
  have RD : Rel X δ (sup S1 D (.lst [])) σ (upd H1 D (.lst [])) := R1.new hD (ObjD.new_lst Dvs.nil hD)
  refine ⟨fun i m H' => m = src.items.length - i ∧ i ≤ src.items.length ∧ ∃ S', Rel X δ S' σ H' ∧ TupP X.K H1 H' ∧ dComp src.ok p tt te (wipeD δ (own.map (·.2))) D (fun S2 => Q1 (.ref D) S2) (src.items.drop i) S', ⟨_, rfl, Nat.zero_le _, _, RD, tD, q1⟩, ?_⟩
  rintro i m H' ⟨rfl, hi', S', R', t', q'⟩
  obtain ⟨g1, g2⟩ := it δ S' σ H' R' t' (dComp_ok q')
  by_cases hlt : i < src.items.length
  · refine .inr ?_
    have e1 : src.items[i]? = some src.items[i] := by simp [hlt]
    obtain ⟨go, yd⟩ := g1 i _ e1
    rw [List.drop_eq_getElem_cons hlt] at q'
    unfold dComp at q'
    refine ⟨go, fun H2 => ∃ S2, Rel X δ S2 σ H2 ∧ TupP X.K H1 H2 ∧ dComp src.ok p tt te (wipeD δ (own.map (·.2))) D (fun S2 => Q1 (.ref D) S2) (src.items.drop (i + 1)) S2, fun H2 ⟨S2, R2, t2, q2⟩ => ⟨_, by omega, rfl, hlt, S2, R2, t2, q2⟩, fun x H2 y => ?_⟩
    obtain ⟨R2, r2, t2⟩ := yd x H2 y
    have q2 := q'.2
    split at q2
    · rename_i δ1 eb
      refine bindP_ok (vs := own.map (·.2)) p _ _ δ1 (wipe σ (own.map (·.2))) x _ eb (R2.wipe _) r2 hsl ?_
      intro σ3 R3 a3
      refine ⟨?_, ?_⟩
      · have z : Agree (own.map (·.2)) σ (L2.wipe σ (own.map (·.2))) := ⟨by rw [wipe_length], fun j h => wipe_out h⟩
        exact a3.wipe.trans z.wipe
      · -- the frame of the comprehension is left: what holds of the store holds in the def's frame
        have back : ∀ {S4 : Sto} {H4 : Hp}, Rel X δ1 S4 σ3 H4 → TupP X.K H2 H4 → Rel X δ S4 σ H4 := fun R4 t4 => ⟨R2.len, fun j d e => by
          obtain ⟨v, e1, r⟩ := R2.loc j d e
          exact ⟨v, e1, r.mono t4⟩, R4.sto⟩
        refine ⟨δ1, S', R3, mt _ _ _ _ (fun b S4 q4 H4 R4 t4 => ?_) q2⟩
        cases b <;> simp only [if_true, Bool.false_eq_true, if_false] at q4 ⊢
        · exact ⟨S4, back R4 t4, t'.trans (t2.trans t4), q4⟩
        · refine ⟨δ1, S4, R4, me _ _ _ _ (fun d S5 q5 v H5 R5 r5 t5 => ?_) q4⟩
          split at q5
          · rename_i acc ea
            obtain ⟨vs, h1, h2⟩ := R5.sto _ _ ea
            have t6 : TupP X.K H5 (upd H5 D (.lst (vs ++ [v]))) := R5.tup_change ea
            have R6 := (back R5 (t4.trans t5)).change (ho := .lst (vs ++ [v])) (o := .lst (acc ++ [d])) ea ⟨_, upd_same, ((h2.append (Dvs.cons r5 Dvs.nil)).mono t6)⟩
            exact ⟨vs, h1, by rw [← h2.length]; exact q5.1, _, R6, t'.trans (t2.trans (t4.trans (t5.trans t6))), q5.2⟩
          · exact q5.elim
    · exact q2.elim
  · have e : i = src.items.length := by omega
    subst e
    rw [List.drop_length] at q'
    unfold dComp at q'
    exact .inl ⟨g2, hq _ _ _ _ q'.2 R' (dv_ref.mpr rfl) (t1.trans t')⟩
theorem dLc_mono {vs : List Nat} (hi : MonoI wi) (mt : MonoT tt) (me : MonoE te) : MonoE (dLc wi p tt te vs) := fun δ S Q Q' k q => hi _ _ _ _ (fun src S1 q1 D hD => dComp_mono mt me (fun S2 z => k _ _ z) _ _ (q1 D hD)) q
theorem de_lc (hc : X.calm = true) (hN : X.N.Nodup) (hi : DI X tg iter wi) (ok : BlkOk X.N X.env.scope scope own) (hsl : ∀ i ∈ p.slots, i ∈ own.map (·.2))
    (hg : ∀ (s : Shared) (H : Hp) (C : Addr) (cl : List (Str × Addr)) (fp : List Addr), PPat (X.blk s H scope (compEnvC scope cl C X.env) fp) tg p) (ht : ∀ (s : Shared) (H : Hp) (C : Addr) (cl : List (Str × Addr)) (fp : List Addr), DTs (X.blk s H scope (compEnvC scope cl C X.env) fp) ifs tt)
    (he : ∀ (s : Shared) (H : Hp) (C : Addr) (cl : List (Str × Addr)) (fp : List Addr), DE (X.blk s H scope (compEnvC scope cl C X.env) fp) elt te) (mt : MonoT tt) (me : MonoE te) (hs : ∀ x, foldedSetIterable iter X.env x = pure x := by intro _; rfl) :
    DE X (.ListComp elt [⟨tg, iter, ifs, 0⟩] scope pos) (dLc wi p tt te (own.map (·.2))) := by
  have cv : ∀ (s : Shared) (H : Hp) (C : Addr) (cl : List (Str × Addr)) (fp : List Addr) {δ : DEnv} {S : Sto} {σ : St} {H' : Hp}, Rel X δ S σ H' → Rel (X.blk s H scope (compEnvC scope cl C X.env) fp) δ S σ H' := fun s H C cl fp δ S σ H' R => ⟨R.len, R.loc, R.sto⟩
  have vc : ∀ (s : Shared) (H : Hp) (C : Addr) (cl : List (Str × Addr)) (fp : List Addr) {δ : DEnv} {S : Sto} {σ : St} {H' : Hp}, Rel (X.blk s H scope (compEnvC scope cl C X.env) fp) δ S σ H' → Rel X δ S σ H' := fun s H C cl fp δ S σ H' R => ⟨R.len, R.loc, R.sto⟩
  refine ⟨dLc_mono hi.mono mt me, pe_weak (pe_lc (g := gPat X.K p) (tt := upT X tt) (te := upE X te) hc hN hi.pi ok (fun s H C cl fp => (hg s H C cl fp).pg) (fun s H C cl fp => ⟨fun pins s' σ H' Q I ⟨δ, S, R, q⟩ => (ht s H C cl fp).pts.run pins s' σ H' Q I ⟨δ, S, cv s H C cl fp R, mt _ _ _ _ (fun b S1 z H1 R1 t1 => z H1 (vc s H C cl fp R1) t1) q⟩⟩)
    (fun s H C cl fp => ⟨fun pins s' σ H' Q I ⟨δ, S, R, q⟩ => (he s H C cl fp).pe.run pins s' σ H' Q I ⟨δ, S, cv s H C cl fp R, me _ _ _ _ (fun d S1 z v H1 R1 r1 t1 => z v H1 (vc s H C cl fp R1) r1 t1) q⟩⟩) hs) fun σ H Q ⟨δ, S, R, q⟩ => ?_⟩
  exact lc_lift hi mt me hsl R q fun d S1 v H1 q1 R1 r1 t1 => q1 v H1 R1 r1 t1
theorem ds_setLc {i : Nat} {y : Str} {py : Pos} {spos : Pos} (hc : X.calm = true) (hN : X.N.Nodup) (hy : X.N[i]? = some y) (hyl : X.env.scope.names.lookup y = some .local)
    (hsw : swapsWith (.ListComp elt [⟨tg, iter, ifs, 0⟩] scope pos) (some (.Name y py)) spos.line X.env = pure true) (hi : DI X tg iter wi) (ok : BlkOk X.N X.env.scope scope own) (hsl : ∀ i ∈ p.slots, i ∈ own.map (·.2))
    (hg : ∀ (s : Shared) (H : Hp) (C : Addr) (cl : List (Str × Addr)) (fp : List Addr), PPat (X.blk s H scope (compEnvC scope cl C X.env) fp) tg p) (ht : ∀ (s : Shared) (H : Hp) (C : Addr) (cl : List (Str × Addr)) (fp : List Addr), DTs (X.blk s H scope (compEnvC scope cl C X.env) fp) ifs tt)
    (he : ∀ (s : Shared) (H : Hp) (C : Addr) (cl : List (Str × Addr)) (fp : List Addr), DE (X.blk s H scope (compEnvC scope cl C X.env) fp) elt te) (mt : MonoT tt) (me : MonoE te) (hs : ∀ x, foldedSetIterable iter X.env x = pure x := by intro _; rfl) :
    DS X (.Assign [.Name y py] (.ListComp elt [⟨tg, iter, ifs, 0⟩] scope pos) spos) (sAsg (dLc wi p tt te (own.map (·.2))) (gN i)) := by
  have cv : ∀ (s : Shared) (H : Hp) (C : Addr) (cl : List (Str × Addr)) (fp : List Addr) {δ : DEnv} {S : Sto} {σ : St} {H' : Hp}, Rel X δ S σ H' → Rel (X.blk s H scope (compEnvC scope cl C X.env) fp) δ S σ H' := fun s H C cl fp δ S σ H' R => ⟨R.len, R.loc, R.sto⟩
  have vc : ∀ (s : Shared) (H : Hp) (C : Addr) (cl : List (Str × Addr)) (fp : List Addr) {δ : DEnv} {S : Sto} {σ : St} {H' : Hp}, Rel (X.blk s H scope (compEnvC scope cl C X.env) fp) δ S σ H' → Rel X δ S σ H' := fun s H C cl fp δ S σ H' R => ⟨R.len, R.loc, R.sto⟩
  refine ⟨sAsg_mono (dLc_mono hi.mono mt me) gN_mono, ps_weak (ps_setLc (g := gPat X.K p) (tt := upT X tt) (te := upE X te) hc hN hy hyl hsw hi.pi ok (fun s H C cl fp => (hg s H C cl fp).pg) (fun s H C cl fp => ⟨fun pins s' σ H' Q I ⟨δ, S, R, q⟩ => (ht s H C cl fp).pts.run pins s' σ H' Q I ⟨δ, S, cv s H C cl fp R, mt _ _ _ _ (fun b S1 z H1 R1 t1 => z H1 (vc s H C cl fp R1) t1) q⟩⟩)
    (fun s H C cl fp => ⟨fun pins s' σ H' Q I ⟨δ, S, R, q⟩ => (he s H C cl fp).pe.run pins s' σ H' Q I ⟨δ, S, cv s H C cl fp R, me _ _ _ _ (fun d S1 z v H1 R1 r1 t1 => z v H1 (vc s H C cl fp R1) r1 t1) q⟩⟩) hs) fun D σ H ⟨δ, S, R, q⟩ => ?_⟩
  exact lc_lift hi mt me hsl R q fun d S1 v H1 q1 R1 r1 t1 => q1 _ H1 (R1.set r1) t1
end
end DL
set_option maxRecDepth 100000
namespace DL
open PySem L2
abbrev XV := Value × Option Addr
abbrev DX := XV → Sto → Prop
abbrev DSp := List D → Sto → DK → DX → Prop
def MonoSp (sp : DSp) : Prop := ∀ ds S (Q Q' : DK) (E E' : DX), (∀ d S', Q d S' → Q' d S') → (∀ c S', E c S' → E' c S') → sp ds S Q E → sp ds S Q' E'
def RelK (P : Program) (w : World) (K : PySem.W.Frag) (S : Sto) (H : Hp) : Prop := ∀ a o, S a = some o → ObjD P w K H a o
def upSp (P : Program) (w : World) (K : PySem.W.Frag) (sp : DSp) : Sp := fun vs H Q E => ∃ ds S, RelK P w K S H ∧ Dvs K H ds vs ∧
  sp ds S (fun d S' => ∀ v H', RelK P w K S' H' → Dv K H' d v → TupP K H H' → Q v H') (fun c S' => ∀ H', RelK P w K S' H' → TupP K H H' → E c.1 c.2 H')
structure FnD (P : Program) (w : World) (K : PySem.W.Frag) (mg : Str → Option Value) (base : Heap) (k : Nat) (f : Addr) (sp : DSp) : Prop where
  mono : MonoSp sp
  ex : ∃ fd ps, FnOk P w K mg base (L2.CX P w) k f fd ps (upSp P w K sp) ∧ Binds K fd ps []
  kp : PySem.W.keepIn K (.ref f) = true
theorem FnD.up {P : Program} {w : World} {K : PySem.W.Frag} {mg : Str → Option Value} {base : Heap} {j k : Nat} {f : Addr} {sp : DSp} (F : FnD P w K mg base j f sp) (h : j ≤ k) : FnD P w K mg base k f sp :=
  let ⟨fd, ps, g, b⟩ := F.ex
  ⟨F.mono, ⟨fd, ps, g.mono h, b⟩, F.kp⟩
abbrev WD := XV → DEnv → Sto → Prop
def wX (X : Cx) (wx : WD) : WX := fun c d σ H => ∃ δ S, Rel X δ S σ H ∧ wx (c, d) δ S
structure TakesD (X : Cx) (wx : WD) : Prop where
  tk : Takes X (wX X wx)
theorem takes_imp {X : Cx} {W W' : WX} (t : Takes X W) (h : ∀ c d σ H pins s, Inv X pins σ H s → W' c d σ H → W c d σ H) : Takes X W' := fun u s' ⟨a, B, sI, pins, σ, H, cls, d, e, I, nb, up, sky, na, os, ag, w⟩ =>
  t u s' ⟨a, B, sI, pins, σ, H, cls, d, e, I, nb, up, sky, na, os, ag, h _ _ _ _ _ _ I w⟩
theorem TakesD.none {X : Cx} : TakesD X fun _ _ _ => False := ⟨takes_imp takes0 fun c d σ H pins s I ⟨_, _, _, z⟩ => z⟩
theorem tupP_entry {X : Cx} {pins : List (Addr × Obj)} {σ : St} {H : Hp} {s : Shared} (I : Inv X pins σ H s) : TupP X.K X.H_0 H := .of (fun a xs h => I.base.tups a xs h) fun a o u h _ => I.base.frzs a o u h
theorem Rel.relK {X : Cx} {δ : DEnv} {S : Sto} {σ : St} {H : Hp} (R : Rel X δ S σ H) : RelK X.prog X.w X.K S H := R.sto
theorem Rel.next {X : Cx} {δ : DEnv} {S S' : Sto} {σ : St} {H H' : Hp} (R : Rel X δ S σ H) (t : TupP X.K H H') (r : RelK X.prog X.w X.K S' H') : Rel X δ S' σ H' := ⟨R.len, fun i d e => by
  obtain ⟨v, e1, q⟩ := R.loc i d e
  exact ⟨v, e1, q.mono t⟩, r⟩
def dCall (sp : DSp) (wx : WD) (t : TDA) : TDE := fun δ S Q => t δ S fun ds S1 => sp ds S1 Q fun c S2 => wx c δ S2
section
variable {X : Cx} {wx : WD} {k : Nat} {f C : Addr} {sp : DSp} {x m : Str} {p pos apos : Pos} {e o : Expr} {es : List Expr} {te : TDE} {t : TDA}
theorem dCall_mono (h1 : MonoSp sp) (h2 : MonoA t) : MonoE (dCall sp wx t) := fun δ S Q Q' k q => h2 _ _ _ _ (fun ds S1 q1 => h1 _ _ _ _ _ _ k (fun _ _ z => z) q1) q
theorem sp_lift (ms : MonoSp sp) {δ : DEnv} {S : Sto} {σ : St} {H1 : Hp} {ds : List D} {vs : List V} {Q : VK} {Q1 : DK} (R : Rel X δ S σ H1) (r : Dvs X.K H1 ds vs) (q : sp ds S Q1 fun c S2 => wx c δ S2)
    (hq : ∀ d S2 v H2, Q1 d S2 → Rel X δ S2 σ H2 → Dv X.K H2 d v → TupP X.K H1 H2 → Q v H2) : upSp X.prog X.w X.K sp vs H1 Q (WE (wX X wx) σ) :=
  ⟨ds, S, R.relK, r, ms _ _ _ _ _ _ (fun d S2 q2 v H2 r2 d2 t2 => hq d S2 v H2 q2 (R.next t2 r2) d2 t2) (fun c S2 q2 H2 r2 t2 => ⟨δ, S2, R.next t2 r2, q2⟩) q⟩
theorem de_call (F : FnD X.prog X.w X.K X.mg X.base k f sp) (hr : Room k X.A) (hg : Gl X x) (hm : X.mg x = some (.ref f)) (tk : TakesD X wx) (ha : DA X (e :: es) t) (hdb : (x == ("__debug__" : Str)) = false := by decide)
    (he : starEach (e :: es) X.env = (false, eval e X.env) :: starEach es X.env := by rfl) (hpl : (backTo pos (starEach es X.env)).any (·.1) = false := by rfl) : DE X (.Call (.Name x p) (e :: es) [] pos) (dCall sp wx t) := by
  obtain ⟨fd, ps, G, b⟩ := F.ex
  refine ⟨dCall_mono F.mono ha.mono, pe_weak (pe_callS G hr hg hm F.kp b (fun σ => passAt tk.tk σ) ha.pa hdb he hpl) fun σ H Q ⟨δ, S, R, q⟩ => ?_⟩
  exact ha.sub R q fun ds S1 vs H1 q1 R1 r1 t1 => sp_lift F.mono R1 r1 q1 fun d S2 v H2 q2 R2 r2 t2 => q2 v H2 R2 r2 (t1.trans t2)
theorem de_call0 (F : FnD X.prog X.w X.K X.mg X.base k f sp) (hr : Room k X.A) (hg : Gl X x) (hm : X.mg x = some (.ref f)) (tk : TakesD X wx) (hdb : (x == ("__debug__" : Str)) = false := by decide) : DE X (.Call (.Name x p) [] [] pos) (dCall sp wx dNil) := by
  obtain ⟨fd, ps, G, b⟩ := F.ex
  refine ⟨dCall_mono F.mono dNil_mono, ⟨fun pins s σ H Q I ⟨δ, S, R, q⟩ => ?_⟩⟩
  refine wpAny_Call_Name_kw (ld_glob I hg hm ?_ hdb)
  exact PySem.W.callWith_K0 I.kIn F.kp (run_fnS (E := WE (wX X wx)) (us := []) G hr b (passAt tk.tk σ) I .nil (sp_lift F.mono R Dvs.nil q fun d S2 v H2 q2 R2 r2 t2 => q2 v H2 R2 r2 t2))
def dMeth (C : Addr) (m : Str) (sp : DSp) (wx : WD) (to : TDE) (t : TDA) : TDE := fun δ S Q => to δ S fun x S1 => match x with
  | .ref a => match S1 a with
    | some (.ins C' fs) => C' = C ∧ fs.lookup m = none ∧ t δ S1 fun ds S2 => sp (x :: ds) S2 Q fun c S3 => wx c δ S3
    | _ => False
  | _ => False
theorem dMeth_mono {to : TDE} (ms : MonoSp sp) (h1 : MonoE to) (h2 : MonoA t) : MonoE (dMeth C m sp wx to t) := fun δ S Q Q' k q => h1 _ _ _ _ (fun x S1 q1 => by
  split at q1
  · split at q1
    · exact ⟨q1.1, q1.2.1, h2 _ _ _ _ (fun ds S2 q2 => ms _ _ _ _ _ _ k (fun _ _ z => z) q2) q1.2.2⟩
    · exact q1.elim
  · exact q1.elim) q
theorem de_meth {pl : Sem Bool} (ho : DE X o te) (c : Cls X.K C) (hm : Meth X.K C m f) (F : FnD X.prog X.w X.K X.mg X.base k f sp) (hr : Room k X.A) (tk : TakesD X wx) (ha : DA X (e :: es) t)
    (hst : starEach (e :: es) X.env = (false, eval e X.env) :: starEach es X.env := by rfl) (hpl : (backTo pos (starEach es X.env)).any (·.1) = false := by rfl)
    (ht : eval (.Call (.Attribute o m apos) (e :: es) [] pos) X.env = (do
      let ov ← eval o X.env
      standAt apos.atName
      let (f, first) ← holding [ov] (getMethod ov m pl)
      callWith pos f first (backTo pos (starEach (e :: es) X.env)) (backToKw pos (keywordEach [] X.env))) := by rfl) :
    DE X (.Call (.Attribute o m apos) (e :: es) [] pos) (dMeth C m sp wx te t) := by
  obtain ⟨fd, ps, G, b⟩ := F.ex
  refine ⟨dMeth_mono F.mono ho.mono ha.mono, ⟨fun pins s σ H Q I ⟨δ, S, R, q⟩ => ?_⟩⟩
  refine PySem.W.methodCall_KW (pl := pl) ?_ ht
  refine thn (ho.pe.run pins s σ H _ I (ho.sub (Q := fun v H1 => ∃ a fs dx fs' S1, v = .ref a ∧ S1 a = some (.ins C fs) ∧ H1 a = some (.ins C dx fs') ∧ fs'.lookup m = none ∧ Rel X δ S1 σ H1 ∧ TupP X.K H H1 ∧ t δ S1 fun ds S2 => sp (.ref a :: ds) S2 (kE X δ σ H Q) fun c S3 => wx c δ S3) R q fun x S1 v H1 q1 R1 r1 t1 => ?_)) fun u s1 ⟨v, H1, I1, rv, a, fs, dx, fs', S1, ev, e1, e2, l, R1, t1, q1⟩ => ?_
  · split at q1
    · rename_i a
      rw [dv_ref] at r1
      split at q1
      · rename_i C' fs e1
        obtain ⟨rfl, l, q2⟩ := q1
        obtain ⟨dx, fs', h1, h2⟩ := R1.sto _ _ e1
        exact ⟨a, fs, dx, fs', S1, r1, e1, h1, fld_none h2 l, R1, t1, q2⟩
      · exact q1.elim
    · exact q1.elim
  · subst ev
    cases rv
    refine getmeth_ok I1 e2 c hm l ?_
    have hA := ha.pa.run pos pins s1 σ H1 (fun vs H2 => upSp X.prog X.w X.K sp (.ref a :: vs) H2 Q (WE (wX X wx) σ)) I1 (ha.sub R1 q1 fun ds S2 vs H2 q2 R2 r2 t2 =>
      sp_lift F.mono R2 (Dvs.cons (dv_ref.mpr rfl) r2) q2 fun d S3 v H3 q3 R3 r3 t3 => q3 v H3 R3 r3 (t1.trans (t2.trans t3)))
    refine PySem.W.callWith_K (first := [.ref a]) (h₀ := X.base) I.ok.mod.kin F.kp (thn hA fun us s2 ⟨vs, H2, I2, r, q2⟩ => ⟨I2.kIn, ?_⟩) hst hpl
    exact run_fnS (E := WE (wX X wx)) (us := .ref a :: us) (vs := .ref a :: vs) G hr b (passAt tk.tk σ) I2 (.cons rfl r) q2
theorem de_meth0 {pl : Sem Bool} (ho : DE X o te) (c : Cls X.K C) (hm : Meth X.K C m f) (F : FnD X.prog X.w X.K X.mg X.base k f sp) (hr : Room k X.A) (tk : TakesD X wx)
    (ht : eval (.Call (.Attribute o m apos) [] [] pos) X.env = (do
      let ov ← eval o X.env
      standAt apos.atName
      let (f, first) ← holding [ov] (getMethod ov m pl)
      callWith pos f first (backTo pos (starEach [] X.env)) (backToKw pos (keywordEach [] X.env))) := by rfl) :
    DE X (.Call (.Attribute o m apos) [] [] pos) (dMeth C m sp wx te dNil) := by
  obtain ⟨fd, ps, G, b⟩ := F.ex
  refine ⟨dMeth_mono F.mono ho.mono dNil_mono, ⟨fun pins s σ H Q I ⟨δ, S, R, q⟩ => ?_⟩⟩
  refine PySem.W.methodCall_KW (pl := pl) ?_ ht
  refine thn (ho.pe.run pins s σ H _ I (ho.sub (Q := fun v H1 => ∃ a fs dx fs' S1, v = .ref a ∧ S1 a = some (.ins C fs) ∧ H1 a = some (.ins C dx fs') ∧ fs'.lookup m = none ∧ Rel X δ S1 σ H1 ∧ TupP X.K H H1 ∧ sp [.ref a] S1 (kE X δ σ H Q) fun c S3 => wx c δ S3) R q fun x S1 v H1 q1 R1 r1 t1 => ?_)) fun u s1 ⟨v, H1, I1, rv, a, fs, dx, fs', S1, ev, e1, e2, l, R1, t1, q1⟩ => ?_
  · split at q1
    · rename_i a
      rw [dv_ref] at r1
      split at q1
      · rename_i C' fs e1
        obtain ⟨rfl, l, q2⟩ := q1
        obtain ⟨dx, fs', h1, h2⟩ := R1.sto _ _ e1
        exact ⟨a, fs, dx, fs', S1, r1, e1, h1, fld_none h2 l, R1, t1, q2⟩
      · exact q1.elim
    · exact q1.elim
  · subst ev
    cases rv
    refine getmeth_ok I1 e2 c hm l ?_
    exact PySem.W.callWith_K0 (first := [.ref a]) I1.kIn F.kp (run_fnS (E := WE (wX X wx)) (us := [.ref a]) (vs := [.ref a]) G hr b (passAt tk.tk σ) I1 (.cons rfl .nil)
      (sp_lift F.mono R1 (Dvs.cons (dv_ref.mpr rfl) Dvs.nil) q1 fun d S3 v H3 q3 R3 r3 t3 => q3 v H3 R3 r3 (t1.trans t3)))
def dMake (C : Addr) (sp : DSp) (wx : WD) (t : TDA) : TDE := fun δ S Q => t δ S fun ds S1 => ∀ x, S1 x = none → sp (.ref x :: ds) (sup S1 x (.ins C [])) (fun d S2 => d = .non ∧ Q (.ref x) S2) fun c S2 => wx c δ S2
theorem dMake_mono (ms : MonoSp sp) (h : MonoA t) : MonoE (dMake C sp wx t) := fun δ S Q Q' k q => h _ _ _ _ (fun ds S1 q1 x hx => ms _ _ _ _ _ _ (fun _ _ z => ⟨z.1, k _ _ z.2⟩) (fun _ _ z => z) (q1 x hx)) q
theorem make_run {pins : List (Addr × Obj)} {σ : St} {H : Hp} {s : Shared} {Q : VK} {us : List Value} {vs : List V} {ds : List D} {δ : DEnv} {S : Sto} {Q1 : DK} (M : Mk X.K C f) (F : FnD X.prog X.w X.K X.mg X.base k f sp) (hr : Room (k + 1) X.A) (tk : TakesD X wx)
    (I : Inv X pins σ H s) (R : Rel X δ S σ H) (r : Vals vs us) (rd : Dvs X.K H ds vs) (q : ∀ x, S x = none → sp (.ref x :: ds) (sup S x (.ins C [])) (fun d S2 => d = .non ∧ Q1 (.ref x) S2) fun c S2 => wx c δ S2)
    (hq : ∀ d S2 v H2, Q1 d S2 → Rel X δ S2 σ H2 → Dv X.K H2 d v → TupP X.K H H2 → Q v H2) : wpAny (model X.prog X.w) X.A (call (.ref C) us) (EP X pins σ Q) X.xe s := by
  obtain ⟨fd, ps, G, b⟩ := F.ex
  have fx : H (s.heap.objs.size + 1) = none := I.hok.fresh (Nat.le_succ _)
  have fd0 : H s.heap.objs.size = none := I.hok.fresh (Nat.le_refl _)
  have ne : s.heap.objs.size + 1 ≠ s.heap.objs.size := Nat.succ_ne_self _
  have R1 : Rel X δ S σ (upd H s.heap.objs.size (.own (s.heap.objs.size + 1))) := R.laid fd0
  have t1 : TupP X.K H (upd H s.heap.objs.size (.own (s.heap.objs.size + 1))) := TupP.laid fd0
  have n1 : (upd H s.heap.objs.size (.own (s.heap.objs.size + 1))) (s.heap.objs.size + 1) = none := by rw [upd_ne ne]; exact fx
  have R2 := R1.new (ho := .ins C s.heap.objs.size []) (o := .ins C []) n1 ⟨_, _, upd_same, .nil⟩
  have t2 := t1.trans (TupP.laid (o := .ins C s.heap.objs.size []) n1)
  have I2 := Inv.made (C := C) I
  have q' := q (s.heap.objs.size + 1) (R.free fx)
  have sp' : upSp X.prog X.w X.K sp (.ref (s.heap.objs.size + 1) :: vs) _ (fun v H2 => v = .non ∧ Q (.ref (s.heap.objs.size + 1)) H2) (WE (wX X wx) σ) := sp_lift F.mono R2 (Dvs.cons (dv_ref.mpr rfl) (rd.mono t2)) q' fun d S3 v H3 ⟨e3, q3⟩ R3 r3 t3 => by
    subst e3
    exact ⟨dv_non.mp r3, hq _ _ _ _ q3 R3 (dv_ref.mpr rfl) (t2.trans t3)⟩
  have rr : Vals (V.ref (s.heap.objs.size + 1) :: vs) (Value.ref (s.heap.objs.size + 1) :: us) := .cons rfl r
  have hl : (Value.ref (s.heap.objs.size + 1) :: us).length = ps.length := by rw [← rr.length]; exact G.len _ _ _ _ sp'
  have bb := b _ (Value.ref (s.heap.objs.size + 1) :: us) I2.kIn (by rw [List.append_nil]; exact hl)
  rw [List.append_nil] at bb
  refine wpAny_call (make_map (f := f) I.kIn M.makes M.init (beq_iff_eq.mp M.fn) (codeAny_mono (G.run _ X.stack _ _ ⟨Value.ref (s.heap.objs.size + 1) :: us, []⟩ _ _ _ (WE (wX X wx) σ) (hr.make C us []) (I2.env0.make C us []) bb rr sp') fun r s' hq' => ?_))
  cases r with
  | error e => exact passAt tk.tk σ pins _ _ e s' I2 hq'
  | ok fl =>
    cases fl with
    | ret u =>
      obtain ⟨v, H', I3, rv, ev, q3⟩ := I2.after hq'
      subst ev
      exact ⟨rv, ⟨V.ref (s.heap.objs.size + 1), H', I3, rfl, q3⟩⟩
    | next => exact hq'.elim
    | brk => exact hq'.elim
    | cont => exact hq'.elim
theorem de_make (M : Mk X.K C f) (F : FnD X.prog X.w X.K X.mg X.base k f sp) (hr : Room (k + 1) X.A) (hg : Gl X x) (hm : X.mg x = some (.ref C)) (tk : TakesD X wx) (ha : DA X (e :: es) t) (hdb : (x == ("__debug__" : Str)) = false := by decide)
    (he : starEach (e :: es) X.env = (false, eval e X.env) :: starEach es X.env := by rfl) (hpl : (backTo pos (starEach es X.env)).any (·.1) = false := by rfl) : DE X (.Call (.Name x p) (e :: es) [] pos) (dMake C sp wx t) := by
  refine ⟨dMake_mono F.mono ha.mono, ⟨fun pins s σ H Q I ⟨δ, S, R, q⟩ => ?_⟩⟩
  refine wpAny_Call_Name_kw (ld_glob I hg hm ?_ hdb)
  refine PySem.W.callWith_K (h₀ := X.base) I.ok.mod.kin M.kp (thn (ha.pa.run pos pins s σ H _ I (ha.sub (Q := fun vs H1 => ∃ ds S1, Rel X δ S1 σ H1 ∧ Dvs X.K H1 ds vs ∧ TupP X.K H H1 ∧ ∀ x, S1 x = none → sp (.ref x :: ds) (sup S1 x (.ins C [])) (fun d S2 => d = .non ∧ kE X δ σ H Q (.ref x) S2) fun c S2 => wx c δ S2) R q fun ds S1 vs H1 q1 R1 r1 t1 => ⟨ds, S1, R1, r1, t1, q1⟩)) fun us s1 ⟨vs, H1, I1, r, ds, S1, R1, rd, t1, q1⟩ => ⟨I1.kIn, ?_⟩) he hpl
  exact make_run M F hr tk I1 R1 r rd q1 fun d S2 v H2 q2 R2 r2 t2 => q2 v H2 R2 r2 (t1.trans t2)
def sRaise (wx : WD) (c : XV) : TDS := fun _ δ S => wx c δ S
theorem ds_raise {C : Addr} {msg : Str} {j : Nat} {p2 : Pos} (hc : X.calm = true) (tk : TakesD X wx) (q : PySem.W.excIn X.K C [.type "ValueError", .type "Exception", .type "BaseException", .type "object"] "ValueError.__new__" = true) (gC : X.mg x = some (.ref C)) (kC : PySem.W.keepIn X.K (.ref C) = true) (r : Raises X (.ref C)) (hg : Gl X x)
    (hdb : (x == ("__debug__" : Str)) = false := by decide) : DS X (.Raise (some (.Call (.Name x p) [.Constant (.str msg) j p2] [] apos)) none pos) (sRaise wx (.ref C, none)) :=
  ⟨fun D D' δ S l z => z, ps_weak (ps_raise hc tk.tk (pmk_own PySem.F.excBase_ValueError q gC kC r hg hdb)) fun D σ H ⟨δ, S, R, z⟩ => ⟨δ, S, R, z⟩⟩
end
def startD (N : List Str) (ds : List D) : DEnv := ds.map some ++ List.replicate (N.length - ds.length) none
theorem start_rel {K : PySem.W.Frag} {H : Hp} {N : List Str} {ds : List D} {vs : List V} (h : Dvs K H ds vs) : (startD N ds).length = (L2.start N vs).length ∧ ∀ (i : Nat) (d : D), (startD N ds)[i]? = some (some d) → ∃ v, (L2.start N vs)[i]? = some (some v) ∧ Dv K H d v := by
  have hl := h.length
  unfold startD L2.start
  refine ⟨by simp [hl], fun i d e => ?_⟩
  by_cases l : i < ds.length
  · rw [List.getElem?_append_left (by simpa using l), List.getElem?_map] at e
    obtain ⟨d', e1, e2⟩ := Option.map_eq_some_iff.mp e
    cases e2
    obtain ⟨v, e3, r⟩ := h.get e1
    exact ⟨v, by rw [List.getElem?_append_left (by simpa [← hl] using l), List.getElem?_map, e3]; rfl, r⟩
  · rw [List.getElem?_append_right (by simpa using l)] at e
    have := List.getElem?_replicate (a := (none : Option D)) (n := N.length - ds.length) (i := i - (ds.map some).length)
    rw [this] at e
    split at e <;> cases e
section
variable {P : Program} {w : World} {K : PySem.W.Frag} {mg : Str → Option Value} {base : Heap}
def Less (S S' : Sto) : Prop := ∀ a o, S a = some o → S' a = some o
theorem Less.refl {S : Sto} : Less S S := fun _ _ h => h
theorem Less.trans {S S1 S2 : Sto} (h : Less S S1) (h' : Less S1 S2) : Less S S2 := fun a o e => h' a o (h a o e)
theorem Less.sup {S S1 : Sto} {p : Addr} {o : DO} (h : Less S S1) (n : S1 p = none) : Less S (sup S1 p o) := fun a u e => by
  by_cases z : a = p
  · subst z
    rw [h a u e] at n
    cases n
  · rw [sup_ne z]
    exact h a u e
theorem Less.none {S S1 : Sto} {p : Addr} (h : Less S S1) (n : S1 p = none) : S p = none := by
  cases e : S p with
  | none => rfl
  | some o => rw [h p o e] at n; cases n
def dn (Q : DK) : DK := fun d S' => ∃ S2, Less S2 S' ∧ Q d S2
def dnX (E : DX) : DX := fun c S' => ∃ S2, Less S2 S' ∧ E c S2
theorem pss_tup {X : Cx} {b : List Stmt} {t : TS} (h : PSs X b t) : PSs X b (fun D σ H => t { nx := fun σ' H' => TupP X.K X.H_0 H' → D.nx σ' H', rt := fun v H' => TupP X.K X.H_0 H' → D.rt v H', bk := D.bk, ct := D.ct } σ H) := by
  refine ⟨fun pins s σ H D I q => ?_⟩
  refine wpAny_mono (h.run pins s σ H _ I q) (fun f s' z => ?_) fun e s' z => z
  cases f with
  | next => obtain ⟨σ', H', J, z⟩ := z; exact ⟨σ', H', J, z (tupP_entry J)⟩
  | brk => exact z
  | cont => exact z
  | ret u => obtain ⟨v, σ', H', J, r, z⟩ := z; exact ⟨v, σ', H', J, r, z (tupP_entry J)⟩
theorem fnX_ok {x qual : Str} {st : Stmt} {f : Addr} {fd : FuncData} {N ps : List Str} {k : Nat} {sp : DSp} (F : Fun K x qual st f fd) (Sc : FnScope N ps (defScope st)) (ms : MonoSp sp) (len : ∀ ds S Q E, sp ds S Q E → ds.length = ps.length)
    (hbody : ∀ (X : Cx) (cdv : Value) (A : Around) (outer : List Env) (s : Shared) (H : Hp) (E : XK) (wx : DX), X = cxOf (L2.CX P w) P w K mg base N qual (defScope st) f cdv A outer s H E → Room k X.A → TakesD X (fun c _ S => dnX wx c S) →
      PassesOwn (model X.prog X.w) X.A X.env X.xe → ∃ t, DSs X (defBody st) t ∧ ∀ ds S Q, sp ds S Q wx → t ⟨fun _ S' => dn Q .non S', dn Q, fun _ _ => False, fun _ _ => False⟩ (startD N ds) S) : FnOk P w K mg base (L2.CX P w) (k + 1) f fd ps (upSp P w K sp) := by
  refine F.okX Sc (fun vs H Q E ⟨ds, S, _, r, h⟩ => by rw [← r.length]; exact len ds S _ _ h) (fun cdv A outer s H vs Q E hr ⟨ds, S, RK, r, h⟩ => ?_)
  have tk : TakesD (cxOf (L2.CX P w) P w K mg base N qual (defScope st) f cdv A outer s H E) (fun c _ S' => dnX (fun c S' => ∀ H', RelK P w K S' H' → TupP K H H' → E c.1 c.2 H') c S') :=
    ⟨takes_imp (takes_of (E := E) rfl rfl rfl rfl) fun c d σ H' pins s' I ⟨δ, S', R', S2, l, z⟩ => z H' (fun a o e => R'.relK a o (l a o e)) (tupP_entry I)⟩
  obtain ⟨t, h1, h2⟩ := hbody _ cdv A outer s H E _ rfl hr tk (passes_of rfl)
  obtain ⟨l1, l2⟩ := start_rel (N := N) r
  have h3 := h2 ds S (fun d S' => ∀ v H', RelK P w K S' H' → Dv K H' d v → TupP K H H' → Q v H') h
  refine ⟨_, pss_tup h1.pss, startD N ds, S, ⟨l1, l2, RK⟩, ?_⟩
  refine h1.mono _ _ _ _ ⟨?_, ?_, ?_, ?_⟩ h3
  · intro δ' S' ⟨S2, l, q⟩ σ' H' R' _ t'
    exact q _ H' (fun a o e => R'.relK a o (l a o e)) (dv_non.mpr rfl) t'
  · intro d S' ⟨S2, l, q⟩ v H' R' r' t'
    exact q v H' (fun a o e => R' a o (l a o e)) r' t'
  · exact fun _ _ z => z.elim
  · exact fun _ _ z => z.elim
theorem fnD_ok {x qual : Str} {st : Stmt} {f : Addr} {fd : FuncData} {N ps : List Str} {k : Nat} {sp : DSp} (F : Fun K x qual st f fd) (b : Binds K fd ps []) (Sc : FnScope N ps (defScope st)) (ms : MonoSp sp) (len : ∀ ds S Q E, sp ds S Q E → ds.length = ps.length)
    (hbody : ∀ (X : Cx) (cdv : Value) (A : Around) (outer : List Env) (s : Shared) (H : Hp) (E : XK) (wx : DX), X = cxOf (L2.CX P w) P w K mg base N qual (defScope st) f cdv A outer s H E → Room k X.A → TakesD X (fun c _ S => dnX wx c S) →
      PassesOwn (model X.prog X.w) X.A X.env X.xe → ∃ t, DSs X (defBody st) t ∧ ∀ ds S Q, sp ds S Q wx → t ⟨fun _ S' => dn Q .non S', dn Q, fun _ _ => False, fun _ _ => False⟩ (startD N ds) S) : FnD P w K mg base (k + 1) f sp :=
  ⟨ms, ⟨fd, ps, fnX_ok F Sc ms len hbody, b⟩, F.kp⟩
end
end DL
set_option maxRecDepth 100000
namespace DL
open PySem L2
section
variable {X : Cx} {a b c e o i value : Expr} {es : List Expr} {ta tb tc te : TDE} {t : TDA} {pos pos' tpos apos cpos p : Pos}
def tyD (S : Sto) : D → Option String
  | .non => some "NoneType"
  | .bl _ => some "bool"
  | .int _ => some "int"
  | .str _ => some "str"
  | .tup _ => some "tuple"
  | .fro _ => none
  | .lis _ => some "list"
  | .ref r => match S r with
    | some (.lst _) => some "list"
    | some (.dik _) => some "dict"
    | _ => none
theorem tyD_ok' {σ' : St} {H : Hp} {δ : DEnv} {S : Sto} {d : D} {v : V} {n : String} (R : Rel X δ S σ' H) (h : Dv X.K H d v) (hn : tyD S d = some n) : TyX X.K H v (.type n) := by
  cases d with
  | non => rw [dv_non] at h; subst h; cases hn; exact .base .non
  | bl b => rw [dv_bl] at h; subst h; cases hn; exact .base (.bl b)
  | int i => rw [dv_int] at h; subst h; cases hn; exact .base (.int i)
  | str x => rw [dv_str] at h; subst h; cases hn; exact .base (.str x)
  | tup xs =>
    cases hn
    obtain ⟨q, vs, rfl, sx, dx⟩ := dv_tup.mp h
    rcases sx with sx | ⟨o, its, n, hk, hc, _⟩
    · rcases sx with sx | ⟨o, sx⟩
      · exact .base (.tup sx)
      · exact .fTuple sx
    · exact .kTuple hk hc
  | ref r =>
    rw [dv_ref] at h
    subst h
    simp only [tyD] at hn
    split at hn
    · rename_i ds e1
      cases hn
      obtain ⟨vs, h1, _⟩ := R.sto _ _ e1
      exact .base (.lst h1)
    · rename_i ds e1
      cases hn
      obtain ⟨vs, h1, _⟩ := R.sto _ _ e1
      exact .base (.dK h1)
    · cases hn
  | fro xs => cases hn
  | lis xs =>
    cases hn
    obtain ⟨q, vs, rfl, ⟨o, sx⟩, dx⟩ := dv_lis.mp h
    exact .base (.frz sx)
def isTy (m n : String) : Bool := (m == n) || (m == "bool" && n == "int")
def tyNames : List String := ["NoneType", "bool", "int", "str", "tuple", "list", "dict"]
theorem isTy_ok : ∀ m ∈ tyNames, ∀ n ∈ tyNames.tail, kitB m n = some (isTy m n) := by decide +kernel
def rIsiD (n : String) : D → Sto → DK → Prop := fun x S Q => match tyD S x with
  | some m => Q (.bl (isTy m n)) S
  | none => False
theorem tyD_mem {S : Sto} {d : D} {m : String} (h : tyD S d = some m) : m ∈ tyNames := by
  unfold tyD at h
  split at h
  · cases h; decide
  · cases h; decide
  · cases h; decide
  · cases h; decide
  · cases h; decide
  · cases h
  · cases h; decide
  · split at h
    · cases h; decide
    · cases h; decide
    · cases h
def dIsi (n : String) (ta : TDE) : TDE := fun δ S Q => ta δ S fun x S1 => rIsiD n x S1 Q
theorem de_isi {T : Str} {n : String} {p2 : Pos} (hg : Gl X "isinstance") (hm : X.mg "isinstance" = none) (hgT : Gl X T) (hmT : X.mg T = none) (hvT : bootBuiltins T = some (.type n)) (hn : n ∈ tyNames.tail) (ha : DE X a ta) (h1 : T ≠ ("__name__" : Str) := by decide) (h2 : (T == ("__debug__" : Str)) = false := by decide)
    (hs : starEach [a, .Name T p2] X.env = (false, eval a X.env) :: starEach [.Name T p2] X.env := by rfl) (hs2 : starEach [.Name T p2] X.env = (false, eval (.Name T p2) X.env) :: starEach [] X.env := by rfl) (hpl : (backTo pos (starEach [.Name T p2] X.env)).any (·.1) = false := by rfl) :
    DE X (.Call (.Name "isinstance" p) [a, .Name T p2] [] pos) (dIsi n ta) := by
  refine ⟨fun δ S Q Q' k q => ha.mono _ _ _ _ (fun x S1 q1 => ?_) q, pe_weak (pe_callB call_isi hg hm (by decide +kernel) (pa_cons ha.pe (pa_cons (pe_bltn (v := .ty n) hgT hmT hvT rfl h1 h2) pa_nil hs2) hs) (by decide) (by decide) hs hpl) fun σ H Q ⟨δ, S, R, q⟩ => ?_⟩
  · unfold rIsiD at *
    split at q1
    · exact k _ _ q1
    · exact q1.elim
  · refine ha.sub R q fun x S1 v H1 q1 R1 r1 t1 => ?_
    unfold rIsiD at q1
    split at q1
    · rename_i m em
      exact ⟨v, .ty n, .type m, .type n, isTy m n, rfl, .ty n, tyD_ok' R1 r1 em, kit_ty (isTy_ok m (tyD_mem em) n hn), q1 _ H1 R1 (dv_bl.mpr rfl) t1⟩
    · exact q1.elim
def boolsD : List D → Option (List Bool)
  | [] => some []
  | .bl b :: ds => match boolsD ds with
    | some bs => some (b :: bs)
    | none => none
  | _ => none
theorem boolsD_vs {K : PySem.W.Frag} {H : Hp} : ∀ {ds : List D} {vs : List V} {bs : List Bool}, Dvs K H ds vs → boolsD ds = some bs → vs = bs.map V.bl
  | [], vs, bs, h, e => by
    rw [Dvs] at h; subst h
    cases e
    rfl
  | d :: ds, vs, bs, h, e => by
    rw [Dvs] at h
    obtain ⟨v, r, rfl, h1, h2⟩ := h
    cases d with
    | bl b =>
      rw [dv_bl] at h1; subst h1
      simp only [boolsD] at e
      split at e
      · rename_i bs' e1
        cases e
        rw [boolsD_vs h2 e1]
        rfl
      · cases e
    | _ => simp [boolsD] at e
def rAllD (f : List Bool → Bool) : RDL := fun ds S Q => match ds with
  | [.ref r] => match S r with
    | some (.lst xs) => match boolsD xs with
      | some bs => Q (.bl (f bs)) S
      | none => False
    | _ => False
  | _ => False
theorem rAllD_mono {f : List Bool → Bool} : MonoL (rAllD f) := fun ds S Q Q' k q => by
  unfold rAllD at *
  split at q
  · split at q
    · split at q
      · exact k _ _ q
      · exact q.elim
    · exact q.elim
  · exact q.elim
theorem dcall_all (hc : X.calm = true) : DCall X (.builtin "all") (rAllD fun bs => bs.all id) := by
  refine ⟨rAllD_mono, fun pins s σ H vs us Q I ru h => ?_⟩
  obtain ⟨δ, S, σ', ds, R, r, q⟩ := h
  unfold rAllD at q
  split at q
  · obtain ⟨v, rfl, rd⟩ := dvs1 r
    rw [dv_ref] at rd
    subst rd
    split at q
    · rename_i xs e1
      split at q
      · rename_i bs e2
        obtain ⟨ws, h1, h2⟩ := R.sto _ _ e1
        obtain rfl := boolsD_vs h2 e2
        exact cr_all hc pins s σ H _ us Q I ru ⟨_, bs, rfl, SqL.of h1, q _ H R (dv_bl.mpr rfl) .refl⟩
      · exact q.elim
    · exact q.elim
  · exact q.elim
end
end DL
set_option maxRecDepth 100000
namespace DL
open PySem L2
section
variable {X : Cx} {a b c e o i value : Expr} {es : List Expr} {ta tb tc te to : TDE} {t : TDA} {pos pos' tpos apos cpos p : Pos}
def tyM (S : Sto) : D → Option String
  | .str _ => some "str"
  | .lis _ => some "list"
  | .ref r => match S r with
    | some (.lst _) => some "list"
    | some (.dik _) => some "dict"
    | some (.dit _ _) => some "dict"
    | _ => none
  | _ => none
theorem tyM_ok {pins : List (Addr × Obj)} {σ σ' : St} {H : Hp} {s : Shared} {δ : DEnv} {S : Sto} {d : D} {v : V} {u : Value} {n : String} (I : Inv X pins σ H s) (R : Rel X δ S σ' H) (h : Dv X.K H d v) (ru : RelV v u) (hn : tyM S d = some n) :
    s.TypeIs u n ∧ ∀ b, u = .ref b → ∃ ob, s.heap.get? b = some ob ∧ ob.dict = none := by
  cases d with
  | str x =>
    rw [dv_str] at h; subst h; cases hn
    exact tyV_is (T := "str") I ru rfl
  | lis xs =>
    cases hn
    obtain ⟨a, vs, rfl, f, z⟩ := dv_lis.mp h
    exact tyV_is (T := "list") I ru (.inl ⟨rfl, vs, SqF.l (.inl f)⟩)
  | ref r =>
    rw [dv_ref] at h
    subst h
    simp only [tyM] at hn
    split at hn
    · rename_i ds e1
      cases hn
      obtain ⟨vs, h1, _⟩ := R.sto _ _ e1
      exact tyV_is (T := "list") I ru (.inl ⟨rfl, vs, SqL.of h1⟩)
    · rename_i ds e1
      cases hn
      obtain ⟨vs, h1, _⟩ := R.sto _ _ e1
      exact tyV_is (T := "dict") I ru (.inr (.inr (.inl ⟨rfl, .inl ⟨vs, h1⟩⟩)))
    · rename_i ds e1
      cases hn
      obtain ⟨xs, d⟩ := dit_of I (R.sto _ _ e1)
      cases ru
      refine ⟨d.raw.typeIs, fun b q => ?_⟩
      cases q
      obtain ⟨ob, es, ep, g1, g2, _⟩ := d.raw
      exact ⟨ob, g1, g2.2.1⟩
    · cases hn
  | _ => simp [tyM] at hn
abbrev RDM := D → RDL
structure DMt (X : Cx) (id : String) (r : RDM) : Prop where
  mono : ∀ x, MonoL (r x)
  run : ∀ (pins : List (Addr × Obj)) (s : Shared) (σ σ' : St) (H : Hp) (δ : DEnv) (S : Sto) (x : D) (ds : List D) (v : V) (vs : List V) (u : Value) (us : List Value) (Q : VK), Inv X pins σ H s → Rel X δ S σ' H → Dv X.K H x v → Dvs X.K H ds vs → RelV v u → Vals vs us →
    r x ds S (kE X δ σ' H Q) → wpAny (model X.prog X.w) X.A (call (.builtin id) (u :: us)) (EP X pins σ Q) X.xe s
def dBM (T : String) (r : RDM) (to : TDE) (t : TDA) : TDE := fun δ S Q => to δ S fun x S1 => tyM S1 x = some T ∧ t δ S1 fun ds S2 => r x ds S2 Q
theorem dBM_mono {T : String} {r : RDM} (hr : ∀ x, MonoL (r x)) (h1 : MonoE to) (h2 : MonoA t) : MonoE (dBM T r to t) := fun δ S Q Q' k q => h1 _ _ _ _ (fun x S1 q1 => ⟨q1.1, h2 _ _ _ _ (fun ds S2 q2 => hr x _ _ _ _ k q2) q1.2⟩) q
theorem de_bm0 {T id : String} {name : Str} {r : RDM} (pa : PlainAttrs T) (slot : Slot T name id) (hty : typeOf (.builtin id) = pure (.type "method_descriptor")) (hm : DMt X id r) (ho : DE X o to)
    (hbase : attributeBase o name X.env (eval o X.env) = eval o X.env := by rfl) (hline : (apos.endLine == cpos.line) = true := by rfl) : DE X (.Call (.Attribute o name apos) [] [] cpos) (dBM T r to dNil) := by
  refine ⟨dBM_mono hm.mono ho.mono dNil_mono, ⟨fun pins s σ H Q I ⟨δ, S, R, q⟩ => ?_⟩⟩
  refine wpAny_Call_method0_late hbase hline ?_
  refine thn (ho.pe.run pins s σ H _ I (ho.sub (Q := fun v H1 => ∃ x S1, Rel X δ S1 σ H1 ∧ Dv X.K H1 x v ∧ TupP X.K H H1 ∧ tyM S1 x = some T ∧ r x [] S1 (kE X δ σ H Q)) R q fun x S1 v H1 q1 R1 r1 t1 => ⟨x, S1, R1, r1, t1, q1⟩)) fun u s1 ⟨v, H1, I1, ru, x, S1, R1, r1, t1, ty, q1⟩ => ?_
  obtain ⟨h1, h2⟩ := tyM_ok I1 R1 r1 ru ty
  exact ⟨T, id, pa, slot, hty, h1, h2, Calls.callWith_builtin rfl (PySem.evalArgs_none (hm.run pins s1 σ σ H1 δ S1 x [] v [] u [] Q I1 R1 r1 Dvs.nil ru .nil (hm.mono x _ _ _ _ (fun _ _ z => kE.later t1 z) q1)))⟩
theorem de_bm {T id : String} {name : Str} {r : RDM} (pa : PlainAttrs T) (slot : Slot T name id) (hty : typeOf (.builtin id) = pure (.type "method_descriptor")) (hm : DMt X id r) (ho : DE X o to) (ha : DA X (e :: es) t)
    (hbase : attributeBase o name X.env (eval o X.env) = eval o X.env := by rfl)
    (hfew : ((backTo cpos (starEach (e :: es) X.env)).all (fun x => !x.1) && (backToKw cpos (keywordEach [] X.env)).all (fun x => x.1.isSome)
      && decide ((e :: es).length + ([] : List Keyword).length + (if ([] : List Keyword).isEmpty then 0 else 1) < 30)) = true := by rfl)
    (hline : (apos.endLine == cpos.line) = true := by rfl) (hs : starEach (e :: es) X.env = (false, eval e X.env) :: starEach es X.env := by rfl) (hplain : (backTo cpos (starEach es X.env)).any (·.1) = false := by rfl) :
    DE X (.Call (.Attribute o name apos) (e :: es) [] cpos) (dBM T r to t) := by
  refine ⟨dBM_mono hm.mono ho.mono ha.mono, ⟨fun pins s σ H Q I ⟨δ, S, R, q⟩ => ?_⟩⟩
  refine wpAny_Call_method_late hbase hfew hline rfl ?_
  refine thn (ho.pe.run pins s σ H _ I (ho.sub (Q := fun v H1 => ∃ x S1, Rel X δ S1 σ H1 ∧ Dv X.K H1 x v ∧ TupP X.K H H1 ∧ tyM S1 x = some T ∧ t δ S1 fun ds S2 => r x ds S2 (kE X δ σ H Q)) R q fun x S1 v H1 q1 R1 r1 t1 => ⟨x, S1, R1, r1, t1, q1⟩)) fun u s1 ⟨v, H1, I1, ru, x, S1, R1, r1, t1, ty, q1⟩ => ?_
  obtain ⟨h1, h2⟩ := tyM_ok I1 R1 r1 ru ty
  refine ⟨T, id, pa, slot, hty, h1, h2, ?_⟩
  have hA := ha.pa.run cpos pins s1 σ H1 _ I1 (ha.sub (Q := fun vs H2 => ∃ ds S2, Rel X δ S2 σ H2 ∧ Dvs X.K H2 ds vs ∧ TupP X.K H1 H2 ∧ r x ds S2 (kE X δ σ H Q)) R1 q1 fun ds S2 vs H2 q2 R2 r2 t2 => ⟨ds, S2, R2, r2, t2, q2⟩)
  rw [hs] at hA ⊢
  refine Calls.callWith_builtin (by show (false || (backTo cpos (starEach es X.env)).any (·.1)) = false; rw [hplain] <;> rfl) (Calls.evalArgs_plain ?_)
  exact thn hA fun us s2 ⟨vs, H2, I2, r2, ds, S2, R2, rd, t2, q2⟩ => hm.run pins s2 σ σ H2 δ S2 x ds v vs u us Q I2 R2 (r1.mono t2) rd ru r2 (hm.mono x _ _ _ _ (fun _ _ z => kE.later (t1.trans t2) z) q2)
def rAppendD : RDM := fun x ds S Q => match x, ds with
  | .ref l, [y] => match S l with
    | some (.lst xs) => xs.length < sizeLine ∧ Q .non (sup S l (.lst (xs ++ [y])))
    | _ => False
  | _, _ => False
def rExtendD : RDM := fun x ds S Q => match x, ds with
  | .ref l, [.ref m] => match S l, S m with
    | some (.lst xs), some (.lst ys) => xs.length + ys.length ≤ sizeLine ∧ Q .non (sup S l (.lst (xs ++ ys)))
    | _, _ => False
  | _, _ => False
def rPop0 : RDM := fun x ds S Q => match x, ds with
  | .ref l, [.int n] => match S l with
    | some (.lst xs) => 0 ≤ n ∧ n < 2 ^ 62 ∧ match xs[n.toNat]? with
      | some y => Q y (sup S l (.lst (xs.eraseIdx n.toNat)))
      | none => False
    | _ => False
  | _, _ => False
theorem dmt_append : DMt X "list.append" rAppendD := by
  refine ⟨fun x ds S Q Q' k q => ?_, fun pins s σ σ' H δ S x ds v vs u us Q I R hx hd ru rs q => ?_⟩
  · unfold rAppendD at *
    split at q
    · split at q
      · exact ⟨q.1, k _ _ q.2⟩
      · exact q.elim
    · exact q.elim
  · unfold rAppendD at q
    split at q
    · rename_i l y
      rw [dv_ref] at hx; subst hx
      obtain ⟨w, rfl, rw1⟩ := dvs1 hd
      split at q
      · rename_i xs e1
        obtain ⟨ws, h1, h2⟩ := R.sto _ _ e1
        have tt : TupP X.K H (upd H l (.lst (ws ++ [w]))) := R.tup_change e1
        exact mt_append pins s σ H _ _ u us Q I ru rs ⟨l, ws, w, rfl, rfl, h1, by rw [← h2.length]; exact q.1, q.2 _ _ (R.change (o := .lst (xs ++ [y])) e1 ⟨_, upd_same, ((h2.append (Dvs.cons rw1 Dvs.nil)).mono tt)⟩) (dv_non.mpr rfl) tt⟩
      · exact q.elim
    · exact q.elim
theorem dmt_extend : DMt X "list.extend" rExtendD := by
  refine ⟨fun x ds S Q Q' k q => ?_, fun pins s σ σ' H δ S x ds v vs u us Q I R hx hd ru rs q => ?_⟩
  · unfold rExtendD at *
    split at q
    · split at q
      · exact ⟨q.1, k _ _ q.2⟩
      · exact q.elim
    · exact q.elim
  · unfold rExtendD at q
    split at q
    · rename_i l m
      rw [dv_ref] at hx; subst hx
      obtain ⟨w, rfl, rw1⟩ := dvs1 hd
      rw [dv_ref] at rw1; subst rw1
      split at q
      · rename_i xs ys e1 e2
        obtain ⟨ws, h1, h2⟩ := R.sto _ _ e1
        obtain ⟨zs, h3, h4⟩ := R.sto _ _ e2
        have tt : TupP X.K H (upd H l (.lst (ws ++ zs))) := R.tup_change e1
        exact mt_extend pins s σ H _ _ u us Q I ru rs ⟨l, m, ws, zs, rfl, rfl, h1, h3, by rw [← h2.length, ← h4.length]; exact q.1, q.2 _ _ (R.change (o := .lst (xs ++ ys)) e1 ⟨_, upd_same, ((h2.append h4).mono tt)⟩) (dv_non.mpr rfl) tt⟩
      · exact q.elim
    · exact q.elim
theorem dmt_pop : DMt X "list.pop" rPop0 := by
  refine ⟨fun x ds S Q Q' k q => ?_, fun pins s σ σ' H δ S x ds v vs u us Q I R hx hd ru rs q => ?_⟩
  · unfold rPop0 at *
    split at q
    · split at q
      · refine ⟨q.1, q.2.1, ?_⟩
        have q2 := q.2.2
        split at q2
        · exact k _ _ q2
        · exact q2.elim
      · exact q.elim
    · exact q.elim
  · unfold rPop0 at q
    split at q
    · rename_i l n
      rw [dv_ref] at hx; subst hx
      obtain ⟨w, rfl, rw1⟩ := dvs1 hd
      rw [dv_int] at rw1; subst rw1
      split at q
      · rename_i xs e1
        obtain ⟨q1, q2, q3⟩ := q
        split at q3
        · rename_i y ey
          obtain ⟨ws, h1, h2⟩ := R.sto _ _ e1
          obtain ⟨w, ew, rw2⟩ := h2.get ey
          have l1 : n.toNat < ws.length := (List.getElem?_eq_some_iff.mp ew).1
          have tt : TupP X.K H (upd H l (.lst (ws.eraseIdx n.toNat))) := R.tup_change e1
          have ix : seqIndex? n ws.length = some n.toNat := by
            have hn : ixN ws.length n = some n.toNat := by
              unfold ixN
              rw [if_pos q1, if_pos (by omega)]
            exact (ixN_seq hn).1
          exact mt_popAt pins s σ H _ _ u us Q I ru rs ⟨l, ws, n, n.toNat, w, rfl, rfl, h1, by omega, by omega, ix, ew, q3 _ _ (R.change (o := .lst (xs.eraseIdx n.toNat)) e1 ⟨_, upd_same, (h2.erase _).mono tt⟩) (rw2.mono tt) tt⟩
        · exact q3.elim
      · exact q.elim
    · exact q.elim
def rClearD : RDM := fun x ds S Q => match x, ds with
  | .ref l, [] => match S l with
    | some (.lst _) => Q .non (sup S l (.lst []))
    | _ => False
  | _, _ => False
theorem dmt_clear : DMt X "list.clear" rClearD := by
  refine ⟨fun x ds S Q Q' k q => ?_, fun pins s σ σ' H δ S x ds v vs u us Q I R hx hd ru rs q => ?_⟩
  · unfold rClearD at *
    split at q
    · split at q
      · exact k _ _ q
      · exact q.elim
    · exact q.elim
  · unfold rClearD at q
    split at q
    · rename_i l
      rw [dv_ref] at hx; subst hx
      rw [Dvs] at hd; subst hd
      split at q
      · rename_i xs e1
        obtain ⟨ws, h1, h2⟩ := R.sto _ _ e1
        have tt : TupP X.K H (upd H l (.lst [])) := R.tup_change e1
        exact mt_clear pins s σ H _ _ u us Q I ru rs ⟨l, ws, rfl, rfl, h1, q _ _ (R.change (o := .lst []) e1 ⟨_, upd_same, Dvs.nil⟩) (dv_non.mpr rfl) tt⟩
      · exact q.elim
    · exact q.elim
def rGetD : RDM := fun x ds S Q => match ds with
  | [k] => match lookD S x k with
    | some r => Q (r.getD .non) S
    | none => False
  | [k, z] => match lookD S x k with
    | some r => Q (r.getD z) S
    | none => False
  | _ => False
theorem dmt_get (hu : X.A.units + 64 < cLine) : DMt X "dict.get" rGetD := by
  refine ⟨fun x ds S Q Q' k q => ?_, fun pins s σ σ' H δ S x ds v vs u us Q I R hx hd ru rs q => ?_⟩
  · unfold rGetD at *
    split at q
    · split at q
      · exact k _ _ q
      · exact q.elim
    · split at q
      · exact k _ _ q
      · exact q.elim
    · exact q.elim
  · unfold rGetD at q
    split at q
    · obtain ⟨w, rfl, rw1⟩ := dvs1 hd
      obtain ⟨u1, rfl, ru1⟩ := Vals.one rs
      split at q
      · rename_i r er
        exact lookD_get1 hu I R hx rw1 er ru ru1 fun z w' s' I' rz dz => ⟨z, H, I', rz, q _ H R dz .refl⟩
      · exact q.elim
    · obtain ⟨w, w2, rfl, rw1, rw2⟩ := dvs2 hd
      obtain ⟨u1, u2, rfl, ru1, ru2⟩ := Vals.two rs
      split at q
      · rename_i r er
        exact lookD_get2 hu I R hx rw1 rw2 er ru ru1 ru2 fun z w' s' I' rz dz => ⟨z, H, I', rz, q _ H R dz .refl⟩
      · exact q.elim
    · exact q.elim
def rPopD : RDM := fun x ds S Q => match x, ds with
  | .ref l, [k, z] => match S l with
    | some (.dit kvs _) => match tkey k with
      | some _ => match look kvs k with
        | some d => ∀ ep, Q d (sup S l (.dit (drop kvs k) ep))
        | none => Q z S
      | none => False
    | some (.dik kvs) => match keyD k with
      | some j => match look kvs j with
        | some d => Q d (sup S l (.dik (drop kvs j)))
        | none => Q z S
      | none => False
    | _ => False
  | .ref l, [k] => match S l with
    | some (.dit kvs _) => match tkey k with
      | some _ => match look kvs k with
        | some d => ∀ ep, Q d (sup S l (.dit (drop kvs k) ep))
        | none => False
      | none => False
    | _ => False
  | _, _ => False
theorem rPopD_mono (x : D) : MonoL (rPopD x) := fun ds S Q Q' k q => by
  unfold rPopD at *
  split at q
  · split at q
    · split at q
      · split at q
        · exact fun ep => k _ _ (q ep)
        · exact k _ _ q
      · exact q.elim
    · split at q
      · split at q <;> exact k _ _ q
      · exact q.elim
    · exact q.elim
  · split at q
    · split at q
      · split at q
        · exact fun ep => k _ _ (q ep)
        · exact q.elim
      · exact q.elim
    · exact q.elim
  · exact q.elim
theorem dmt_dpop (hu : X.A.units + 64 < cLine) : DMt X "dict.pop" rPopD := by
  refine ⟨rPopD_mono, fun pins s σ σ' H δ S x ds v vs u us Q I R hx hd ru rs q => ?_⟩
  unfold rPopD at q
  split at q
  · rename_i l k z
    rw [dv_ref] at hx; subst hx
    obtain ⟨w, w2, rfl, rw1, rw2⟩ := dvs2 hd
    obtain ⟨u1, u2, rfl, ru1, ru2⟩ := Vals.two rs
    cases ru
    split at q
    · rename_i kvs ep0 e1
      split at q
      · rename_i nkk ek
        obtain ⟨b, rfl⟩ := tup_addr ek rw1
        cases ru1
        obtain ⟨xs, dd⟩ := dit_of I (R.sto _ _ e1)
        rcases ent_look ek dd.ent with ⟨e2, e3⟩ | ⟨dv, b', u', v', e2, e3, rv, q1⟩
        · rw [e2] at q
          exact call_pop_default_heap (knd := nestedKind X.prog X.w) (hsz := dd.len) (room8 hu) (key_is I ek rw1) dd.sys dd.raw e3 fun tk => ⟨w2, H, I.tok tk, ru2, q _ H R rw2 .refl⟩
        · rw [e2] at q
          refine call_pop_heap (knd := nestedKind X.prog X.w) (more := [u2]) (hsz := dd.len) (.inr ⟨u2, rfl⟩) (PySem.F.args_dict_pop_3 _ _ _) (room8 hu) (key_is I ek rw1) dd.sys dd.raw e3 fun h' hm hs => ?_
          obtain ⟨ep', I'⟩ := dit_write I dd hm hs
          have tt := R.tup_change (ho := dictO X.prog X.w l (withoutH xs nkk) ep') e1
          exact ⟨v', _, I', rv, q ep' _ _ (R.change e1 (ObjD.dit_upd dd.at_ trivial dd.sys (Nat.le_trans (length_withoutH xs nkk) dd.len) (ent_drop ek dd.ent))) (q1.mono tt) tt⟩
      · exact q.elim
    · rename_i kvs e1
      split at q
      · rename_i j ej
        have hy := keyD_dv ej rw1
        subst hy
        obtain ⟨ws, h1, h2⟩ := R.sto _ _ e1
        rcases fld_look j h2 with ⟨e2, e3⟩ | ⟨d, v', e2, e3, q1⟩
        · rw [e2] at q
          exact d_popD I h1 ru1 e3 fun s' I' => ⟨w2, H, I', ru2, q _ H R rw2 .refl⟩
        · rw [e2] at q
          have tt : TupP X.K H (upd H l (.dK (dropK ws j))) := R.tup_change e1
          exact d_pop I h1 ru1 e3 (.inr ⟨u2, rfl⟩) fun w' s' I' rw' => ⟨v', _, I', rw', q _ _ (R.change (o := .dik (drop kvs j)) e1 ⟨_, upd_same, Paired.mapP (fld_drop j h2) fun _ _ z => z.mono tt⟩) (q1.mono tt) tt⟩
      · exact q.elim
    · exact q.elim
  · rename_i l k
    rw [dv_ref] at hx; subst hx
    obtain ⟨w, rfl, rw1⟩ := dvs1 hd
    obtain ⟨u1, rfl, ru1⟩ := Vals.one rs
    cases ru
    split at q
    · rename_i kvs ep0 e1
      split at q
      · rename_i nkk ek
        obtain ⟨b, rfl⟩ := tup_addr ek rw1
        cases ru1
        obtain ⟨xs, dd⟩ := dit_of I (R.sto _ _ e1)
        rcases ent_look ek dd.ent with ⟨e2, e3⟩ | ⟨dv, b', u', v', e2, e3, rv, q1⟩
        · rw [e2] at q; exact q.elim
        · rw [e2] at q
          refine call_pop_heap (knd := nestedKind X.prog X.w) (more := []) (hsz := dd.len) (.inl rfl) (PySem.F.args_dict_pop_2 _ _) (room8 hu) (key_is I ek rw1) dd.sys dd.raw e3 fun h' hm hs => ?_
          obtain ⟨ep', I'⟩ := dit_write I dd hm hs
          have tt := R.tup_change (ho := dictO X.prog X.w l (withoutH xs nkk) ep') e1
          exact ⟨v', _, I', rv, q ep' _ _ (R.change e1 (ObjD.dit_upd dd.at_ trivial dd.sys (Nat.le_trans (length_withoutH xs nkk) dd.len) (ent_drop ek dd.ent))) (q1.mono tt) tt⟩
      · exact q.elim
    · exact q.elim
  · exact q.elim
def rSetdef : RDM := fun x ds S Q => match x, ds with
  | .ref l, [k, z] => match S l with
    | some (.dit kvs _) => match tkey k with
      | some _ => match look kvs k with
        | some d => Q d S
        | none => kvs.length < sizeLine ∧ ∀ ep, Q z (sup S l (.dit (put kvs k z) ep))
      | none => False
    | _ => False
  | _, _ => False
theorem dmt_setdefault (hu : X.A.units + 64 < cLine) : DMt X "dict.setdefault" rSetdef := by
  refine ⟨fun x ds S Q Q' k q => ?_, fun pins s σ σ' H δ S x ds v vs u us Q I R hx hd ru rs q => ?_⟩
  · unfold rSetdef at *
    split at q
    · split at q
      · split at q
        · split at q
          · exact k _ _ q
          · exact ⟨q.1, fun ep => k _ _ (q.2 ep)⟩
        · exact q.elim
      · exact q.elim
    · exact q.elim
  · unfold rSetdef at q
    split at q
    · rename_i l k z
      rw [dv_ref] at hx; subst hx
      obtain ⟨w, w2, rfl, rw1, rw2⟩ := dvs2 hd
      obtain ⟨u1, u2, rfl, ru1, ru2⟩ := Vals.two rs
      cases ru
      split at q
      · rename_i kvs ep0 e1
        split at q
        · rename_i nkk ek
          obtain ⟨b, rfl⟩ := tup_addr ek rw1
          cases ru1
          obtain ⟨xs, dd⟩ := dit_of I (R.sto _ _ e1)
          refine call_setdefault_heap (knd := nestedKind X.prog X.w) (hsz := dd.len) (room8 hu) (key_is I ek rw1) dd.sys dd.raw (fun p hp => ?_) (fun hn h' hm hs => ?_)
          · rcases ent_look ek dd.ent with ⟨e2, e3⟩ | ⟨dv, b', u', v', e2, e3, rv, q1⟩
            · rw [e3] at hp; cases hp
            · rw [e2] at q
              rw [e3] at hp; cases hp
              exact ⟨v', H, I.tok _, rv, q _ H R q1 .refl⟩
          · rcases ent_look ek dd.ent with ⟨e2, e3⟩ | ⟨dv, b', u', v', e2, e3, rv, q1⟩
            · rw [e2] at q
              obtain ⟨ep', I'⟩ := dit_write I dd hm hs
              have tt := R.tup_change (ho := dictO X.prog X.w l (storedH xs nkk b u2) ep') e1
              have ln : (storedH xs nkk b u2).length ≤ sizeLine := by
                have := length_storedH xs nkk b u2
                have := ent_len dd.ent
                omega
              exact ⟨w2, _, I', ru2, q.2 ep' _ _ (R.change e1 (ObjD.dit_upd dd.at_ trivial dd.sys ln (ent_put ek rw1 ru2 rw2 dd.ent))) (rw2.mono tt) tt⟩
            · rw [e3] at hn; cases hn
        · exact q.elim
      · exact q.elim
    · exact q.elim
def dNewK : TDE := fun _ S Q => ∀ p, S p = none → Q (.ref p) (sup S p (.dik []))
def dNewT : TDE := fun _ S Q => ∀ p ep, S p = none → Q (.ref p) (sup S p (.dit [] ep))
theorem de_newK : DE X (.Dict [] [] pos) dNewK := ⟨fun δ S Q Q' k q p hp => k _ _ (q p hp), pe_weak pe_dnewK fun σ H Q ⟨δ, S, R, q⟩ p hp => q p (R.free hp) _ _ (R.new (o := .dik []) hp ⟨[], upd_same, .nil⟩) (dv_ref.mpr rfl) (TupP.laid hp)⟩
theorem sys_ne {pins : List (Addr × Obj)} {σ : St} {H : Hp} {s : Shared} (I : Inv X pins σ H s) : (s.heap.objs.size == sysModules) = false := by
  have := I.big
  exact beq_eq_false_iff_ne.mpr (Nat.ne_of_gt this)
theorem de_newT : DE X (.Dict [] [] pos) dNewT := by
  refine ⟨fun δ S Q Q' k q p ep hp => k _ _ (q p ep hp), ⟨fun pins s σ H Q I ⟨δ, S, R, q⟩ => ?_⟩⟩
  have nH := I.fresh
  have hm : (s.heap.push { cls := .type "dict", data := .dict #[] }).DictOfH (nestedKind X.prog X.w) s.heap.objs.size [] := Heap.DictOfH.new s.heap
  obtain ⟨ep, ok⟩ := dictO_ok (H' := fun b => if b = s.heap.objs.size then none else H b) hm
  have I2 : Inv X pins σ (upd H s.heap.objs.size (dictO X.prog X.w s.heap.objs.size [] ep)) { s with heap := s.heap.push { cls := .type "dict", data := .dict #[] } } :=
    I.laid (t' := s.toks) (fun b o e => Heap.get?_push_of_some _ e) (Nat.le_refl _) ok
  have R2 := R.new (ho := dictO X.prog X.w s.heap.objs.size [] ep) (o := .dit [] ep) nH ⟨[], upd_same, sys_ne I, Nat.zero_le _, .nil⟩
  exact wpAny_Dict_empty ⟨.ref s.heap.objs.size, _, I2, rfl, q _ ep (R.free nH) _ _ R2 (dv_ref.mpr rfl) (TupP.laid nH)⟩
end
end DL
set_option maxRecDepth 100000
namespace DL
open PySem L2
section
variable {X : Cx} {pins : List (Addr × Obj)} {σ : St} {H : Hp} {s : Shared}
theorem raw_ents {a : Addr} {xs : List (NestedKey × Addr × Value)} {ep : Nat} (I : Inv X pins σ H s) (e : H a = some (dictO X.prog X.w a xs ep)) :
    ∃ es : Array DictEntry, s.heap.DictRaw a es ep ∧ es.size = xs.length ∧ ∀ (i : Nat) (y : NestedKey × Addr × Value), xs[i]? = some y → ∃ hi : i < es.size, es[i].key = .ref y.2.1 ∧ es[i].val = y.2.2 := by
  obtain ⟨⟨o, es, ho, hc, hd, he, hn⟩, _⟩ := I.hok a _ e
  have hs := size_of_entries he
  refine ⟨es, ⟨o, ho, hc, hd⟩, hs, fun i y hy => ?_⟩
  have hx : i < xs.length := (List.getElem?_eq_some_iff.mp hy).1
  have hi : i < es.size := by rw [hs]; exact hx
  have e1 := entry_at he i
  rw [Array.getElem?_eq_getElem hi, hy, Option.map_some] at e1
  have e2 := Option.some.inj e1
  exact ⟨hi, by rw [e2]; rfl, by rw [e2]; rfl⟩
theorem raw_one {h : Heap} {a : Addr} {es es' : Array DictEntry} {ep ep' : Nat} (x : h.DictRaw a es ep) (y : h.DictRaw a es' ep') : es' = es := by
  obtain ⟨o, h1, _, h2⟩ := x
  obtain ⟨o', h3, _, h4⟩ := y
  rw [h1] at h3
  cases h3
  rw [h2] at h4
  cases h4
  rfl
end
def Stands (P : Program) (w : World) (a : Addr) (ep n : Nat) (H : Hp) : Prop := (a == sysModules) = false ∧ ∃ xs, H a = some (dictO P w a xs ep) ∧ xs.length = n ∧ ∀ y ∈ xs, ∃ x, RelV x y.2.2
def ItK (P : Program) (w : World) (a : Addr) (ep n : Nat) : It :=
  ⟨fun i H => i < n ∧ Stands P w a ep n H, fun i H x H' => H' = H ∧ ∀ xs, H a = some (dictO P w a xs ep) → ∃ y, xs[i]? = some y ∧ x = .ref y.2.1, fun i H => n ≤ i ∧ Stands P w a ep n H⟩
def ItV (P : Program) (w : World) (a : Addr) (ep n : Nat) : It :=
  ⟨fun i H => i < n ∧ Stands P w a ep n H, fun i H x H' => H' = H ∧ ∀ xs, H a = some (dictO P w a xs ep) → ∃ y, xs[i]? = some y ∧ RelV x y.2.2, fun i H => n ≤ i ∧ Stands P w a ep n H⟩
def ItI (P : Program) (w : World) (a : Addr) (ep n : Nat) : It :=
  ⟨fun i H => i < n ∧ Stands P w a ep n H, fun i H x H' => ∃ T z q, x = .ref T ∧ H T = none ∧ H' = upd H T (.tup [.ref q, z]) ∧ ∀ xs, H a = some (dictO P w a xs ep) → ∃ y, xs[i]? = some y ∧ q = y.2.1 ∧ RelV z y.2.2, fun i H => n ≤ i ∧ Stands P w a ep n H⟩
section
variable {P : Program} {w : World} {K : PySem.W.Frag} {tg : Expr} {a : Addr} {ep n : Nat}
theorem turn_keysD (it : Addr) : Turn P w K tg (ItK P w a ep n) [it] it (fun i h => h.IsKeyIter it a i n ep) where
  mem := List.mem_singleton.mpr rfl
  obj := fun i h st b hb => by
    obtain rfl : b = it := List.mem_singleton.mp hb
    obtain ⟨oi, e, c, dd⟩ := st
    exact ⟨oi, e, fun v z => by rw [dd] at z; cases z⟩
  keep := fun i h h' st k => st.at fun oi e => k it (List.mem_singleton.mpr rfl) oi e
  item := by
    intro X hP hw hK hc i pins s σ H E I hf st hg
    subst hP hw hK
    obtain ⟨hi, hs, xs, e1, e2, _⟩ := hg
    obtain ⟨f0, f1, f2, f3, f4, f5⟩ := hf it (List.mem_singleton.mpr rfl)
    obtain ⟨es, hm, hz, ent⟩ := raw_ents I e1
    have hi2 : i < es.size := by omega
    rw [show n = es.size by omega] at st
    refine wpAny_pyNext_keys_item_raw st hm hi2 fun h' st' sb => ?_
    have I1 : Inv X pins σ H { s with heap := h' } := I.turned (t' := s.toks) (fun b ob hb e => (sb.2 b hb).trans e) f0 f1 f3 f4 f5
    obtain ⟨oi, e, c, dd⟩ := id st'
    have hx : i < xs.length := by omega
    obtain ⟨_, hkey, _⟩ := ent i xs[i] (List.getElem?_eq_getElem hx)
    refine ⟨es[i].key, rfl, go_of (s := { s with heap := h' }) e c dd (by decide) ⟨.ref xs[i].2.1, H, I1, hkey, ⟨rfl, fun ys ey => ?_⟩, ?_, fun b hb => (hf b hb).1⟩⟩
    · obtain ⟨es', hm', hz', ent'⟩ := raw_ents I ey
      obtain rfl := raw_one hm hm'
      have hy : i < ys.length := by omega
      obtain ⟨_, hkey', _⟩ := ent' i ys[i] (List.getElem?_eq_getElem hy)
      refine ⟨ys[i], List.getElem?_eq_getElem hy, ?_⟩
      rw [hkey] at hkey'
      exact congrArg V.ref (Value.ref.inj hkey')
    · rw [show n = es.size by omega]; exact st'
  done := by
    intro X hP hw hK hc i pins s σ H E I hf st hg
    subst hP hw hK
    obtain ⟨hi, hs, xs, e1, e2, _⟩ := hg
    obtain ⟨f0, f1, f2, f3, f4, f5⟩ := hf it (List.mem_singleton.mpr rfl)
    obtain ⟨es, hm, hz, ent⟩ := raw_ents I e1
    rw [show n = es.size by omega] at st
    exact wpAny_pyNext_keys_end_raw (I.ok.hd hc) st hm (by omega) fun h' eb => ⟨rfl, I.turned (t' := s.toks) (fun b ob hb e => eb b ob hb e) f0 f1 f3 f4 f5⟩
  self := fun A i s Q E st h => (turn_keysT (P := P) (w := w) (K := K) (tg := tg) (d := a) (o := ⟨.none, none, .dict #[] ep, #[]⟩) (es := #[]) (ep := ep) (kvs := List.replicate n ([], V.non)) it rfl).self A i s Q E (by rw [List.length_replicate]; exact st) h
theorem turn_valsD (it : Addr) : Turn P w K tg (ItV P w a ep n) [it] it (fun i h => h.IsValIter it a i n ep) where
  mem := List.mem_singleton.mpr rfl
  obj := fun i h st b hb => by
    obtain rfl : b = it := List.mem_singleton.mp hb
    obtain ⟨oi, e, c, dd⟩ := st
    exact ⟨oi, e, fun v z => by rw [dd] at z; cases z⟩
  keep := fun i h h' st k => st.at fun oi e => k it (List.mem_singleton.mpr rfl) oi e
  item := by
    intro X hP hw hK hc i pins s σ H E I hf st hg
    subst hP hw hK
    obtain ⟨hi, hs, xs, e1, e2, hv⟩ := hg
    obtain ⟨f0, f1, f2, f3, f4, f5⟩ := hf it (List.mem_singleton.mpr rfl)
    obtain ⟨es, hm, hz, ent⟩ := raw_ents I e1
    have hi2 : i < es.size := by omega
    rw [show n = es.size by omega] at st
    refine wpAny_pyNext_values_item_raw st hm hi2 fun h' st' sb => ?_
    have I1 : Inv X pins σ H { s with heap := h' } := I.turned (t' := s.toks) (fun b ob hb e => (sb.2 b hb).trans e) f0 f1 f3 f4 f5
    obtain ⟨oi, e, c, dd⟩ := id st'
    have hx : i < xs.length := by omega
    obtain ⟨_, _, hval⟩ := ent i xs[i] (List.getElem?_eq_getElem hx)
    obtain ⟨z, rz⟩ := hv xs[i] (List.getElem_mem hx)
    refine ⟨es[i].val, rfl, go_of (s := { s with heap := h' }) e c dd (by decide) ⟨z, H, I1, by rw [hval]; exact rz, ⟨rfl, fun ys ey => ?_⟩, ?_, fun b hb => (hf b hb).1⟩⟩
    · obtain ⟨es', hm', hz', ent'⟩ := raw_ents I ey
      obtain rfl := raw_one hm hm'
      have hy : i < ys.length := by omega
      obtain ⟨_, _, hval'⟩ := ent' i ys[i] (List.getElem?_eq_getElem hy)
      exact ⟨ys[i], List.getElem?_eq_getElem hy, by rw [← hval', hval]; exact rz⟩
    · rw [show n = es.size by omega]; exact st'
  done := by
    intro X hP hw hK hc i pins s σ H E I hf st hg
    subst hP hw hK
    obtain ⟨hi, hs, xs, e1, e2, _⟩ := hg
    obtain ⟨f0, f1, f2, f3, f4, f5⟩ := hf it (List.mem_singleton.mpr rfl)
    obtain ⟨es, hm, hz, ent⟩ := raw_ents I e1
    rw [show n = es.size by omega] at st
    exact wpAny_pyNext_values_end_raw (I.ok.hd hc) st hm (by omega) fun h' eb => ⟨rfl, I.turned (t' := s.toks) (fun b ob hb e => eb b ob hb e) f0 f1 f3 f4 f5⟩
  self := fun A i s Q E st h => wpAny_pyIter_valiter st h
theorem turn_itemsD {elts : List Expr} {kk : Nat} {tpos : Pos} (it : Addr) : Turn P w K (.Tuple elts kk tpos) (ItI P w a ep n) [it] it (fun i h => ∃ ok ov, IsItemIter h it a i n ep ok ov) where
  mem := List.mem_singleton.mpr rfl
  obj := fun i h st b hb => by
    obtain rfl : b = it := List.mem_singleton.mp hb
    obtain ⟨ok, ov, e⟩ := st
    exact ⟨_, e, fun v z => nomatch z⟩
  keep := fun i h h' st k => let ⟨ok, ov, e⟩ := st; ⟨ok, ov, k it (List.mem_singleton.mpr rfl) _ e⟩
  item := by
    intro X hP hw hK hc i pins s σ H E I hf st hg
    subst hP hw hK
    obtain ⟨hi, hs, xs, e1, e2, hv⟩ := hg
    obtain ⟨es, hm, hz, ent⟩ := raw_ents I e1
    have hi2 : i < es.size := by omega
    obtain ⟨ok, ov, he⟩ := st
    rw [show n = es.size by omega] at he
    have hlt : it < s.heap.objs.size := Heap.lt_size he
    have hx : i < xs.length := by omega
    obtain ⟨_, hkey, hval⟩ := ent i xs[i] (List.getElem?_eq_getElem hx)
    obtain ⟨z, rz⟩ := hv xs[i] (List.getElem_mem hx)
    refine wpAny_pyNext_items_item_raw he hm hi2 fun h' ho hT hsz hk => ?_
    refine ⟨_, rfl, wpAny_letOwnedTupleGo_items (s := { s with heap := h' }) ho fun h'' he' sb => ?_⟩
    have hT2 : h''.get? s.heap.objs.size = some { cls := .type "tuple", data := .seq #[es[i].key, es[i].val] } := (sb.2 _ (Nat.ne_of_gt hlt)).trans hT
    have new : ObjOk X.prog X.w (upd H s.heap.objs.size (.tup [.ref xs[i].2.1, z])) h'' s.heap.objs.size (.tup [.ref xs[i].2.1, z]) :=
      ⟨by show 2 ≤ sizeLine; decide, [es[i].key, es[i].val], .cons hkey (.cons (by rw [hval]; exact rz) .nil), ⟨_, hT2, rfl, _, rfl⟩⟩
    have I1 : Inv X pins σ (upd H s.heap.objs.size (.tup [.ref xs[i].2.1, z])) { s with heap := h'' } :=
      I.turnedNew (t' := s.toks) (ch := [it]) (fun b ob hb e => (sb.2 b (by simpa using hb)).trans (hk b ob (by simpa using hb) e)) hf (Nat.le_refl _) new
    refine ⟨.ref s.heap.objs.size, _, I1, rfl, ⟨_, z, xs[i].2.1, rfl, I.fresh, rfl, fun ys ey => ?_⟩, ⟨es[i].key, es[i].val, ?_⟩, fun b hb => ?_⟩
    · obtain ⟨es', hm', hz', ent'⟩ := raw_ents I ey
      obtain rfl := raw_one hm hm'
      have hy : i < ys.length := by omega
      obtain ⟨_, hkey', hval'⟩ := ent' i ys[i] (List.getElem?_eq_getElem hy)
      refine ⟨ys[i], List.getElem?_eq_getElem hy, ?_, by rw [← hval', hval]; exact rz⟩
      rw [hkey] at hkey'
      exact Value.ref.inj hkey'
    · rw [show n = es.size by omega]; exact he'
    · obtain rfl : b = it := List.mem_singleton.mp hb
      rw [upd_ne (Nat.ne_of_lt hlt)]
      exact (hf b (List.mem_singleton.mpr rfl)).1
  done := by
    intro X hP hw hK hc i pins s σ H E I hf st hg
    subst hP hw hK
    obtain ⟨hi, hs, xs, e1, e2, _⟩ := hg
    obtain ⟨f0, f1, f2, f3, f4, f5⟩ := hf it (List.mem_singleton.mpr rfl)
    obtain ⟨es, hm, hz, ent⟩ := raw_ents I e1
    obtain ⟨ok, ov, he⟩ := st
    rw [show n = es.size by omega] at he
    exact wpAny_pyNext_items_end_raw (I.ok.hd hc) he hm (by omega) fun h' eb => ⟨rfl, I.turned (t' := s.toks) (fun b ob hb e => eb b ob hb e) f0 f1 f3 f4 f5⟩
  self := fun A i s Q E st h => let ⟨_, _, e⟩ := st; PySem.W.kcp_self e h
end
section
variable {X : Cx} {tg e : Expr} {te : TDE} {apos cpos : Pos}
def iDit (f : D × D → D) (te : TDE) : TDI := fun δ S Q => te δ S fun x S1 => match x with
  | .ref a => match S1 a with
    | some (.dit kvs ep) => Q ⟨kvs.map f, fun S => S a = some (.dit kvs ep)⟩ S1
    | _ => False
  | _ => False
theorem iDit_mono {f : D × D → D} (h : MonoE te) : MonoI (iDit f te) := fun δ S Q Q' k q => h _ _ _ _ (fun x S1 q1 => by
  split at q1
  · split at q1
    · exact k _ _ q1
    · exact q1.elim
  · exact q1.elim) q
theorem stands_of {δ : DEnv} {S : Sto} {σ : St} {H : Hp} {a : Addr} {kvs : List (D × D)} {ep : Nat} (R : Rel X δ S σ H) (e : S a = some (.dit kvs ep)) : Stands X.prog X.w a ep kvs.length H ∧ ∃ xs, H a = some (dictO X.prog X.w a xs ep) ∧ Paired (Ent X.K H) kvs xs := by
  obtain ⟨xs, h1, h2, h3, h4⟩ := R.sto a _ e
  refine ⟨⟨h2, xs, h1, (ent_len h4).symm, fun y hy => ?_⟩, xs, h1, h4⟩
  obtain ⟨p, _, q⟩ := paired_mem h4 hy
  obtain ⟨v, r, _⟩ := q.2.2
  exact ⟨v, r⟩
theorem paired_at {α β : Type} {F : α → β → Prop} {l : List α} {m : List β} {i : Nat} {x : α} {y : β} (h : Paired F l m) (e1 : l[i]? = some x) (e2 : m[i]? = some y) : F x y := by
  obtain ⟨z, e3, f⟩ := paired_get h e1
  rw [e2] at e3
  cases e3
  exact f
theorem map_get {α β : Type} {f : α → β} {l : List α} {i : Nat} {d : β} (h : (l.map f)[i]? = some d) : ∃ p, l[i]? = some p ∧ d = f p ∧ i < l.length := by
  rw [List.getElem?_map] at h
  obtain ⟨p, e1, e2⟩ := Option.map_eq_some_iff.mp h
  exact ⟨p, e1, e2.symm, (List.getElem?_eq_some_iff.mp e1).1⟩
theorem itd_keys {H0 : Hp} {a : Addr} {kvs : List (D × D)} {ep : Nat} : ItD X H0 ⟨kvs.map (·.1), fun S => S a = some (.dit kvs ep)⟩ (ItK X.prog X.w a ep kvs.length) := fun δ S σ H R _ ok => by
  obtain ⟨st, xs, h1, h2⟩ := stands_of R ok
  refine ⟨fun i d e => ?_, ⟨by show kvs.length ≤ (kvs.map _).length; rw [List.length_map]; exact Nat.le_refl _, st⟩⟩
  obtain ⟨p, ep1, rfl, l⟩ := map_get e
  refine ⟨⟨l, st⟩, fun x H' y => ?_⟩
  obtain ⟨rfl, y⟩ := y
  obtain ⟨z, e2, rfl⟩ := y xs h1
  exact ⟨R, (paired_at h2 ep1 e2).2.1, .refl⟩
theorem itd_vals {H0 : Hp} {a : Addr} {kvs : List (D × D)} {ep : Nat} : ItD X H0 ⟨kvs.map (·.2), fun S => S a = some (.dit kvs ep)⟩ (ItV X.prog X.w a ep kvs.length) := fun δ S σ H R _ ok => by
  obtain ⟨st, xs, h1, h2⟩ := stands_of R ok
  refine ⟨fun i d e => ?_, ⟨by show kvs.length ≤ (kvs.map _).length; rw [List.length_map]; exact Nat.le_refl _, st⟩⟩
  obtain ⟨p, ep1, rfl, l⟩ := map_get e
  refine ⟨⟨l, st⟩, fun x H' y => ?_⟩
  obtain ⟨rfl, y⟩ := y
  obtain ⟨z, e2, rz⟩ := y xs h1
  obtain ⟨v, rv, dv⟩ := (paired_at h2 ep1 e2).2.2
  obtain rfl := rz.inj rv
  exact ⟨R, dv, .refl⟩
theorem itd_items {H0 : Hp} {a : Addr} {kvs : List (D × D)} {ep : Nat} : ItD X H0 ⟨kvs.map (fun p => .tup [p.1, p.2]), fun S => S a = some (.dit kvs ep)⟩ (ItI X.prog X.w a ep kvs.length) := fun δ S σ H R _ ok => by
  obtain ⟨st, xs, h1, h2⟩ := stands_of R ok
  refine ⟨fun i d e => ?_, ⟨by show kvs.length ≤ (kvs.map _).length; rw [List.length_map]; exact Nat.le_refl _, st⟩⟩
  obtain ⟨p, ep1, rfl, l⟩ := map_get e
  refine ⟨⟨l, st⟩, fun x H' y => ?_⟩
  obtain ⟨T, z, q, rfl, nT, rfl, y⟩ := y
  obtain ⟨z', e2, rfl, rz⟩ := y xs h1
  obtain ⟨v, rv, dv⟩ := (paired_at h2 ep1 e2).2.2
  obtain rfl := rz.inj rv
  exact ⟨R.laid nT, Dv.new_tup (Dvs.cons (paired_at h2 ep1 e2).2.1 (Dvs.cons dv Dvs.nil)) nT, TupP.laid nT⟩
theorem di_keys (he : DE X e te) : DI X tg e (iDit (·.1) te) := by
  refine ⟨iDit_mono he.mono, ⟨fun pins s σ H R I ⟨δ, S, r, q⟩ => ?_⟩⟩
  refine thn (he.pe.run pins s σ H _ I (he.sub (Q := fun v H1 => ∃ a kvs ep S1, v = .ref a ∧ S1 a = some (.dit kvs ep) ∧ Rel X δ S1 σ H1 ∧ R (ItK X.prog X.w a ep kvs.length) H1) r q fun x S1 v H1 q1 R1 r1 t1 => ?_)) fun u s1 ⟨v, H1, I1, ru, a, kvs, ep, S1, ev, e1, R1, q1⟩ => ?_
  · split at q1
    · rename_i a
      rw [dv_ref] at r1
      split at q1
      · rename_i kvs ep e1
        exact ⟨a, kvs, ep, S1, r1, e1, R1, q1 _ H1 R1 t1 itd_keys⟩
      · exact q1.elim
    · exact q1.elim
  · subst ev
    cases ru
    obtain ⟨xs, d⟩ := dit_of I1 (R1.sto _ _ e1)
    obtain ⟨es, hm, hz, _⟩ := raw_ents I1 d.at_
    refine wpAny_pyIter_dict_raw d.sys hm (pi_one (tk := s1.toks) I1 _ (turn_keysD (n := kvs.length) _) ⟨_, Heap.get?_push_size _ rfl, rfl, ?_⟩ q1)
    rw [ent_len d.ent, ← hz] <;> rfl
theorem di_values (he : DE X e te) (hbase : attributeBase e "values" X.env (eval e X.env) = eval e X.env := by rfl) (hline : (apos.endLine == cpos.line) = true := by rfl) : DI X tg (.Call (.Attribute e "values" apos) [] [] cpos) (iDit (·.2) te) := by
  refine ⟨iDit_mono he.mono, ⟨fun pins s σ H R I ⟨δ, S, r, q⟩ => ?_⟩⟩
  refine wpAny_Call_method (T := "dict") (id := "dict.values") hbase rfl hline PySem.F.plainAttrs_dict PySem.F.slot_dict_values PySem.F.type_dict_values (thn (he.pe.run pins s σ H _ I (he.sub (Q := fun v H1 => ∃ a kvs ep S1, v = .ref a ∧ S1 a = some (.dit kvs ep) ∧ Rel X δ S1 σ H1 ∧ R (ItV X.prog X.w a ep kvs.length) H1) r q fun x S1 v H1 q1 R1 r1 t1 => ?_)) fun u s1 ⟨v, H1, I1, ru, a, kvs, ep, S1, ev, e1, R1, q1⟩ => ?_)
  · split at q1
    · rename_i a
      rw [dv_ref] at r1
      split at q1
      · rename_i kvs ep e1
        exact ⟨a, kvs, ep, S1, r1, e1, R1, q1 _ H1 R1 t1 itd_vals⟩
      · exact q1.elim
    · exact q1.elim
  · subst ev
    cases ru
    obtain ⟨xs, d⟩ := dit_of I1 (R1.sto _ _ e1)
    obtain ⟨es, hm, hz, _⟩ := raw_ents I1 d.at_
    refine ⟨hm.typeIs, fun b z => ?_, ?_⟩
    · cases z
      obtain ⟨ob, g1, g2, _⟩ := hm
      exact ⟨ob, g1, g2.2.1⟩
    have I2 : Inv X pins σ H1 { s1 with heap := s1.heap.push { cls := .type "dict_values", data := .fields #[.ref a] } } := I1.kept (t' := s1.toks) fun b ob q => Heap.get?_push_of_some _ q
    have hm2 : (s1.heap.push { cls := .type "dict_values", data := .fields #[.ref a] }).DictRaw a es ep := hm.at fun o e => Heap.get?_push_of_some _ e
    have fin : wpAny (model X.prog X.w) X.A (pyIter (.ref s1.heap.objs.size)) (PIE X pins σ tg R) X.xe { s1 with heap := s1.heap.push { cls := .type "dict_values", data := .fields #[.ref a] } } := by
      refine wpAny_pyIter_values_raw (d := a) ⟨_, Heap.get?_push_size _ rfl, rfl, rfl⟩ hm2 (pi_one (tk := s1.toks) I2 _ (turn_valsD (n := kvs.length) _) ⟨_, Heap.get?_push_size _ rfl, rfl, ?_⟩ q1)
      rw [ent_len d.ent, ← hz] <;> rfl
    show wpAny _ _ (callWith cpos (.builtin "dict.values") [.ref a] [] []) _ X.xe s1
    exact method_meetsIn PySem.F.slot_dict_values PySem.F.entry_dict_values rfl (PySem.evalArgs_none ⟨rfl, hm.typeIs, PySem.F.args_dict_values_1 _, _, meets_dict_values_raw a d.sys, ⟨es, ep, hm⟩, fin⟩)
theorem di_items {elts : List Expr} {kk : Nat} {tpos : Pos} (he : DE X e te) (hbase : attributeBase e "items" X.env (eval e X.env) = eval e X.env := by rfl) (hline : (apos.endLine == cpos.line) = true := by rfl) :
    DI X (.Tuple elts kk tpos) (.Call (.Attribute e "items" apos) [] [] cpos) (iDit (fun p => .tup [p.1, p.2]) te) := by
  refine ⟨iDit_mono he.mono, ⟨fun pins s σ H R I ⟨δ, S, r, q⟩ => ?_⟩⟩
  refine wpAny_Call_method (T := "dict") (id := "dict.items") hbase rfl hline PySem.F.plainAttrs_dict PySem.F.slot_dict_items PySem.F.type_dict_items (thn (he.pe.run pins s σ H _ I (he.sub (Q := fun v H1 => ∃ a kvs ep S1, v = .ref a ∧ S1 a = some (.dit kvs ep) ∧ Rel X δ S1 σ H1 ∧ R (ItI X.prog X.w a ep kvs.length) H1) r q fun x S1 v H1 q1 R1 r1 t1 => ?_)) fun u s1 ⟨v, H1, I1, ru, a, kvs, ep, S1, ev, e1, R1, q1⟩ => ?_)
  · split at q1
    · rename_i a
      rw [dv_ref] at r1
      split at q1
      · rename_i kvs ep e1
        exact ⟨a, kvs, ep, S1, r1, e1, R1, q1 _ H1 R1 t1 itd_items⟩
      · exact q1.elim
    · exact q1.elim
  · subst ev
    cases ru
    obtain ⟨xs, d⟩ := dit_of I1 (R1.sto _ _ e1)
    obtain ⟨es, hm, hz, _⟩ := raw_ents I1 d.at_
    refine ⟨hm.typeIs, fun b z => ?_, ?_⟩
    · cases z
      obtain ⟨ob, g1, g2, _⟩ := hm
      exact ⟨ob, g1, g2.2.1⟩
    have I2 : Inv X pins σ H1 { s1 with heap := s1.heap.push { cls := .type "dict_items", data := .fields #[.ref a] } } := I1.kept (t' := s1.toks) fun b ob q => Heap.get?_push_of_some _ q
    have hm2 : (s1.heap.push { cls := .type "dict_items", data := .fields #[.ref a] }).DictRaw a es ep := hm.at fun o e => Heap.get?_push_of_some _ e
    have fin : wpAny (model X.prog X.w) X.A (pyIter (.ref s1.heap.objs.size)) (PIE X pins σ (.Tuple elts kk tpos) R) X.xe { s1 with heap := s1.heap.push { cls := .type "dict_items", data := .fields #[.ref a] } } := by
      refine wpAny_pyIter_items_raw (d := a) ⟨_, Heap.get?_push_size _ rfl, rfl, rfl⟩ hm2 (pi_one (tk := s1.toks) I2 _ (turn_itemsD (n := kvs.length) _) ⟨.none, .none, ?_⟩ q1)
      rw [ent_len d.ent, ← hz]
      exact Heap.get?_push_size _ rfl
    show wpAny _ _ (callWith cpos (.builtin "dict.items") [.ref a] [] []) _ X.xe s1
    exact method_meetsIn PySem.F.slot_dict_items PySem.F.entry_dict_items rfl (PySem.evalArgs_none ⟨rfl, hm.typeIs, PySem.F.args_dict_items_1 _, _, meets_dict_items_raw a d.sys, ⟨es, ep, hm⟩, fin⟩)
end
end DL
set_option maxRecDepth 100000
set_option maxHeartbeats 1000000
namespace DL
open PySem L2
def dCompT (ok : Sto → Prop) (p : Pat) (tt : TDT) (tk tv : TDE) (δ0 : DEnv) (A : Addr) (Q : Sto → Prop) : List D → Sto → Prop
  | [], S => ok S ∧ Q S
  | x :: xs, S => ok S ∧ match bindP p x δ0 with
    | some δ1 => tt δ1 S fun b S2 => if b = true then tk δ1 S2 fun k S3 => tv δ1 S3 fun d S4 => match S4 A with
      | some (.dit kvs _) => match tkey k with
        | some _ => kvs.length < sizeLine ∧ ∀ ep, dCompT ok p tt tk tv δ0 A Q xs (sup S4 A (.dit (put kvs k d) ep))
        | none => False
      | _ => False
      else dCompT ok p tt tk tv δ0 A Q xs S2
    | none => False
def dDc (wi : TDI) (p : Pat) (tt : TDT) (tk tv : TDE) (vs : List Nat) : TDE := fun δ S Q => wi δ S fun src S1 => ∀ A ep, S1 A = none → dCompT src.ok p tt tk tv (wipeD δ vs) A (fun S2 => Q (.ref A) S2) src.items (sup S1 A (.dit [] ep))
theorem dCompT_ok {ok : Sto → Prop} {p : Pat} {tt : TDT} {tk tv : TDE} {δ0 : DEnv} {A : Addr} {Q : Sto → Prop} {xs : List D} {S : Sto} (q : dCompT ok p tt tk tv δ0 A Q xs S) : ok S := by
  cases xs <;> (unfold dCompT at q; exact q.1)
theorem dCompT_mono {ok : Sto → Prop} {p : Pat} {tt : TDT} {tk tv : TDE} {δ0 : DEnv} {A : Addr} (h1 : MonoT tt) (h2 : MonoE tk) (h3 : MonoE tv) {Q Q' : Sto → Prop} (h : ∀ S, Q S → Q' S) : ∀ (xs : List D) (S : Sto), dCompT ok p tt tk tv δ0 A Q xs S → dCompT ok p tt tk tv δ0 A Q' xs S
  | [], S, q => by
    unfold dCompT at *
    exact ⟨q.1, h _ q.2⟩
  | x :: xs, S, q => by
    unfold dCompT at *
    refine ⟨q.1, ?_⟩
    have q2 := q.2
    split at q2
    · refine h1 _ _ _ _ (fun b S2 q3 => ?_) q2
      cases b <;> simp only [if_true, Bool.false_eq_true, if_false] at q3 ⊢
      · exact dCompT_mono h1 h2 h3 h xs S2 q3
      · refine h2 _ _ _ _ (fun k S3 q4 => h3 _ _ _ _ (fun d S4 q5 => ?_) q4) q3
        split at q5
        · split at q5
          · exact ⟨q5.1, fun ep => dCompT_mono h1 h2 h3 h xs _ (q5.2 ep)⟩
          · exact q5.elim
        · exact q5.elim
    · exact q2.elim
section
variable {X : Cx} {kx vx tg iter : Expr} {ifs : List Expr} {scope : Scope} {own : List (Str × Nat)} {pos : Pos} {wi : TDI} {p : Pat} {tt : TDT} {tk tv : TDE}
theorem rel_blk {s : Shared} {H0 : Hp} {ce : Env} {fp : List Addr} {δ : DEnv} {S : Sto} {σ : St} {H : Hp} : Rel (X.blk s H0 scope ce fp) δ S σ H ↔ Rel X δ S σ H := ⟨fun R => ⟨R.len, R.loc, R.sto⟩, fun R => ⟨R.len, R.loc, R.sto⟩⟩
theorem dit_set {pins : List (Addr × Obj)} {s : Shared} {σ σ' : St} {H : Hp} {δ : DEnv} {S : Sto} {E : Value → Shared → Prop} {A : Addr} {kvs : List (D × D)} {ep : Nat} {k d : D} {kk : NestedKey} {y z : V} {u r : Value} {Q : Unit → Shared → Prop} (hu : X.A.units + 64 < cLine) (I : Inv X pins σ H s) (R : Rel X δ S σ' H)
    (e : S A = some (.dit kvs ep)) (hk : tkey k = some kk) (l : kvs.length < sizeLine) (dk : Dv X.K H k y) (dz : Dv X.K H d z) (ry : RelV y u) (rz : RelV z r) (q : ∀ s' H' ep', Inv X pins σ H' s' → Rel X δ (sup S A (.dit (put kvs k d) ep')) σ' H' → TupP X.K H H' → Q () s') :
    wpAny (model X.prog X.w) X.A (dictSet A u r) Q E s := by
  obtain ⟨b, rfl⟩ := tup_addr hk dk
  cases ry
  obtain ⟨xs, dd⟩ := dit_of I (R.sto _ _ e)
  have rm : (nestedKind X.prog X.w).room X.A := by show X.A.units + 8 < cLine; omega
  refine wpAny_dictSet_heap (hsz := dd.len) rm (key_is I hk dk) dd.raw fun h' hm hs => ?_
  obtain ⟨ep', I'⟩ := dit_write I dd hm hs
  have ln : (storedH xs kk b r).length ≤ sizeLine := by
    have := length_storedH xs kk b r
    have := ent_len dd.ent
    omega
  exact q _ _ ep' I' (R.change e (ObjD.dit_upd dd.at_ trivial dd.sys ln (ent_put hk dk rz dz dd.ent))) (R.tup_change e)
theorem de_dc (hu : X.A.units + 64 < cLine) (hc : X.calm = true) (hN : X.N.Nodup) (hi : DI X tg iter wi) (ok : BlkOk X.N X.env.scope scope own) (hsl : ∀ i ∈ p.slots, i ∈ own.map (·.2))
    (hg : ∀ (s : Shared) (H : Hp) (C : Addr) (cl : List (Str × Addr)) (fp : List Addr), PPat (X.blk s H scope (compEnvC scope cl C X.env) fp) tg p) (ht : ∀ (s : Shared) (H : Hp) (C : Addr) (cl : List (Str × Addr)) (fp : List Addr), DTs (X.blk s H scope (compEnvC scope cl C X.env) fp) ifs tt)
    (hk : ∀ (s : Shared) (H : Hp) (C : Addr) (cl : List (Str × Addr)) (fp : List Addr), DE (X.blk s H scope (compEnvC scope cl C X.env) fp) kx tk)
    (hv : ∀ (s : Shared) (H : Hp) (C : Addr) (cl : List (Str × Addr)) (fp : List Addr), DE (X.blk s H scope (compEnvC scope cl C X.env) fp) vx tv) (mt : MonoT tt) (mk : MonoE tk) (mv : MonoE tv) (hs : ∀ x, foldedSetIterable iter X.env x = pure x := by intro _; rfl) :
    DE X (.DictComp kx vx [⟨tg, iter, ifs, 0⟩] scope pos) (dDc wi p tt tk tv (own.map (·.2))) := by
  refine ⟨fun δ S Q Q' k q => hi.mono _ _ _ _ (fun src S1 q1 A ep hA => dCompT_mono mt mk mv (fun S2 z => k _ _ z) _ _ (q1 A ep hA)) q, ⟨fun pins s σ H Q I ⟨δ, S, R, q⟩ => ?_⟩⟩
  have cap : ∀ y ∈ scope.names, y.2 = .free → ∃ c, X.env.cells.lookup y.1 = some c := fun y hy e => (ok.free y hy e).elim (fun z => I.ok.has _ (.inl z)) fun z => I.ok.has _ (.inr z)
  rw [arm_eval_DictComp]
  -- what is walked, then the new dict, then the block's frame
  refine wpAny_comprehension_free (use := none) rfl hs (closure_ok cap) ok.kind (fun y hy e => by rw [ok.uniq y hy, e]) ?_
  refine thn (hi.pi.run pins s σ H (fun J H2 => ∃ src S1, Rel X δ S1 σ H2 ∧ TupP X.K H H2 ∧ ItD X H2 src J ∧ ∀ A ep, S1 A = none → dCompT src.ok p tt tk tv (wipeD δ (own.map (·.2))) A (fun S2 => kE X δ σ H Q (.ref A) S2) src.items (sup S1 A (.dit [] ep))) I
    ⟨δ, S, R, hi.mono _ _ _ _ (fun src S1 q1 J H1 R1 t1 it => ⟨src, S1, R1, t1, it, q1⟩) q⟩) fun xv s1 h1 => thn h1 fun itv s2 h2 => ?_
  obtain ⟨it, fp, tn, J, H2, rfl, I2, T, st2, f2, src, S1, R1, t1, itd, q1⟩ := h2
  refine wpAny_newObj_type (newEnv_comp ?_)
  have nA : H2 s2.heap.objs.size = none := I2.fresh
  obtain ⟨ep0, okA⟩ := dictO_ok (P := X.prog) (w := X.w) (H' := upd H2 s2.heap.objs.size (.tup [])) (show (s2.heap.push { cls := .type "dict", data := .dict #[] }).DictOfH (nestedKind X.prog X.w) s2.heap.objs.size [] from Heap.DictOfH.new s2.heap)
  have q2 := q1 s2.heap.objs.size ep0 (R1.free nA)
  have R3 : Rel X δ (sup S1 s2.heap.objs.size (.dit [] ep0)) σ (upd H2 s2.heap.objs.size (dictO X.prog X.w s2.heap.objs.size [] ep0)) := R1.new nA ⟨[], upd_same, sys_ne I2, Nat.zero_le _, .nil⟩
  have t3 : TupP X.K H (upd H2 s2.heap.objs.size (dictO X.prog X.w s2.heap.objs.size [] ep0)) := t1.trans (TupP.laid nA)
  have t23 : TupP X.K H2 (upd H2 s2.heap.objs.size (dictO X.prog X.w s2.heap.objs.size [] ep0)) := TupP.laid nA
  have I3 : Inv X pins σ (upd H2 s2.heap.objs.size (dictO X.prog X.w s2.heap.objs.size [] ep0)) { s2 with heap := s2.heap.push { cls := .type "dict", data := .dict #[] } } :=
    I2.laid (t' := s2.toks) (fun b o e => Heap.get?_push_of_some _ e) (Nat.le_refl _) okA
  have low : ∀ b ∈ fp, b < s2.heap.objs.size := fun b hb => let ⟨o, e, _⟩ := T.obj _ _ st2 b hb; Heap.lt_size e
  generalize hH3 : upd H2 s2.heap.objs.size (dictO X.prog X.w s2.heap.objs.size [] ep0) = H3 at R3 t3 t23 I3
  generalize hA : s2.heap.objs.size = A at *
  generalize hs3 : ({ s2 with heap := s2.heap.push { cls := .type "dict", data := .dict #[] } } : Shared) = s3 at I3 ⊢
  have e3 : s3.heap = s2.heap.push { cls := .type "dict", data := .dict #[] } := by rw [← hs3]
  have f3 : ∀ b ∈ fp, FpOk X pins H3 b ∧ b < s3.heap.objs.size := fun b hb => by
    have lt := low b hb
    refine ⟨⟨?_, (f2 b hb).2⟩, by rw [e3, Heap.size_push]; exact Nat.lt_succ_of_lt (by first | exact lt | (rw [hA]; exact lt))⟩
    rw [← hH3, upd_ne (Nat.ne_of_lt lt)]
    exact (f2 b hb).1
  have st3 : tn 0 s3.heap := T.keep _ _ _ st2 fun b _ o e => by rw [e3]; exact Heap.get?_push_of_some _ e
  have I4 := block_start I3 ok hN f3
  have pg := hg s3 H3 s3.heap.objs.size (cellsFrom (s3.heap.objs.size + 1) scope.names (cloFrom X.env.cells scope.names [])) fp
  have pt := ht s3 H3 s3.heap.objs.size (cellsFrom (s3.heap.objs.size + 1) scope.names (cloFrom X.env.cells scope.names [])) fp
  have pk := hk s3 H3 s3.heap.objs.size (cellsFrom (s3.heap.objs.size + 1) scope.names (cloFrom X.env.cells scope.names [])) fp
  have pv := hv s3 H3 s3.heap.objs.size (cellsFrom (s3.heap.objs.size + 1) scope.names (cloFrom X.env.cells scope.names [])) fp
  change codeAny _ _ (.compStart (.DictComp kx vx [⟨tg, iter, ifs, 0⟩] scope pos) 0 (.ref it) (.ref A) (compEnvC scope (cellsFrom (s3.heap.objs.size + 1) scope.names (cloFrom X.env.cells scope.names [])) s3.heap.objs.size X.env)) (compPost (model X.prog X.w) X.A X.xe none (EP X pins σ Q) (.ref A) s3.heap.objs.size) { s3 with heap := pushCells (s3.heap.push { cls := .type "dict", data := .dict #[] }) scope.names }
  generalize hce : compEnvC scope (cellsFrom (s3.heap.objs.size + 1) scope.names (cloFrom X.env.cells scope.names [])) s3.heap.objs.size X.env = ce at I4 pg pt pk pv ⊢
  have cl : ce.locals = s3.heap.objs.size := by rw [← hce]; rfl
  generalize hs4 : ({ s3 with heap := pushCells (s3.heap.push { cls := .type "dict", data := .dict #[] }) scope.names } : Shared) = s4 at I4 ⊢
  have st4 : tn 0 s4.heap := T.keep _ _ _ st3 fun b _ o e => by rw [← hs4]; exact pushCells_keeps _ _ _ _ (Heap.get?_push_of_some _ e)
  have foot : ∀ {σ' : St} {H' : Hp} {s' : Shared}, Inv (X.blk s3 H3 scope ce fp) [] σ' H' s' → (∀ b ∈ fp, H' b = none) → ∀ b ∈ fp, FpOk (X.blk s3 H3 scope ce fp) [] H' b := fun {σ' H' s'} J' n b hb =>
    ⟨n b hb, (J'.ok.exf b hb).1, J'.ok.exfs b hb, .inl hb, fun x c e => (J'.ok.exf b hb).2 x c e, fun _ z => nomatch z⟩
  have walk : codeAny (model X.prog X.w) X.A (.compLoop (.DictComp kx vx [⟨tg, iter, ifs, 0⟩] scope pos) 0 (.ref it) (.ref A) ce) (compPost (model X.prog X.w) X.A X.xe none (EP X pins σ Q) (.ref A) s3.heap.objs.size) s4 := by
    refine compLoop_anyD (fun n s' => ∃ i H' S', n = src.items.length - i ∧ i ≤ src.items.length ∧ Inv (X.blk s3 H3 scope ce fp) [] (wipe σ (own.map (·.2))) H' s' ∧ tn i s'.heap ∧ (∀ b ∈ fp, H' b = none) ∧ Rel X δ S' σ H' ∧ TupP X.K H3 H' ∧
      dCompT src.ok p tt tk tv (wipeD δ (own.map (·.2))) A (fun S2 => kE X δ σ H Q (.ref A) S2) (src.items.drop i) S') ?_ src.items.length ⟨0, H3, _, rfl, Nat.zero_le _, I4, st4, fun b hb => (f3 b hb).1.1, R3, .refl, q2⟩
    rintro n s5 ⟨i, H5, S5, rfl, hi5, I5, st5, n5, R5, t5, q5⟩
    obtain ⟨g1, g2⟩ := itd δ S5 σ H5 R5 (t23.trans t5) (dCompT_ok q5)
    by_cases hlt : i < src.items.length
    · have e1 : src.items[i]? = some src.items[i] := List.getElem?_eq_getElem hlt
      obtain ⟨go, yd⟩ := g1 i _ e1
      rw [List.drop_eq_getElem_cons hlt] at q5
      unfold dCompT at q5
      refine thnF (T.item (X.blk s3 H3 scope ce fp) rfl rfl rfl hc i [] s5 _ H5 (fun _ _ => False) I5 (foot I5 n5) st5 go) fun r s6 ⟨u, er, h6⟩ => ?_
      subst er
      refine thnF h6 fun _ s7 ⟨x, H7, I7, r7, y7, st7, n7⟩ => ?_
      obtain ⟨R7, d7, t7⟩ := yd x H7 y7
      have I7' := I7.pinned (foot I7 n7) (T.obj _ _ st7)
      have q6 := q5.2
      split at q6
      · rename_i δ1 eb
        -- behind the turn
        have back : ∀ {s' : Shared} {σ8 : St} {H' : Hp} {S' : Sto}, Inv (X.blk s3 H3 scope ce fp) ([] ++ pinsAt fp s7.heap) σ8 H' s' → wipe σ8 (own.map (·.2)) = wipe σ (own.map (·.2)) → Rel X δ S' σ H' → TupP X.K H7 H' → dCompT src.ok p tt tk tv (wipeD δ (own.map (·.2))) A (fun S2 => kE X δ σ H Q (.ref A) S2) (src.items.drop (i + 1)) S' →
            ∃ m, m < src.items.length - i ∧ ∃ i H' S', m = src.items.length - i ∧ i ≤ src.items.length ∧ Inv (X.blk s3 H3 scope ce fp) [] (wipe σ (own.map (·.2))) H' s' ∧ tn i s'.heap ∧ (∀ b ∈ fp, H' b = none) ∧ Rel X δ S' σ H' ∧ TupP X.K H3 H' ∧
              dCompT src.ok p tt tk tv (wipeD δ (own.map (·.2))) A (fun S2 => kE X δ σ H Q (.ref A) S2) (src.items.drop i) S' := fun {s' σ8 H' S'} J' ew R' t' q' => by
          have held : ∀ b ∈ fp, ∀ o, s7.heap.get? b = some o → s'.heap.get? b = some o ∧ H' b = none := fun b hb o e => ⟨(J'.pin (b, o) (List.mem_append_right _ (List.mem_append_right _ (mem_pinsAt hb e)))).1, (J'.pin (b, o) (List.mem_append_right _ (List.mem_append_right _ (mem_pinsAt hb e)))).2.1⟩
          refine ⟨_, by omega, i + 1, H', S', rfl, hlt, (J'.unpinned (pins := [])).weak (by rw [← ew, wipe_length]) (fun j v e => ?_), T.keep _ _ _ st7 fun b hb o e => (held b hb o e).1, fun b hb => ?_, R', t5.trans (t7.trans t'), q'⟩
          · rw [← ew] at e
            exact (wipe_some e).1
          · obtain ⟨o, e, _⟩ := T.obj _ _ st7 b hb
            exact (held b hb o e).2
        refine thnF (pg.pg.run _ s7 _ H7 x u (fun σ8 H8 => H8 = H7 ∧ wipe σ8 (own.map (·.2)) = wipe σ (own.map (·.2)) ∧ Rel X δ1 S5 σ8 H7) I7' r7 ?_) fun _ s8 ⟨σ8, H8, I8, eH, ew, R8⟩ => ?_
        · refine bindP_ok (X := X.blk s3 H3 scope ce fp) (vs := own.map (·.2)) p _ _ δ1 _ x _ eb (rel_blk.mpr (R7.wipe _)) d7 hsl ?_
          intro σ8 R8 a8
          have z : Agree (own.map (·.2)) σ (wipe σ (own.map (·.2))) := ⟨by rw [wipe_length], fun j h => wipe_out h⟩
          exact ⟨rfl, a8.wipe.trans z.wipe, rel_blk.mp R8⟩
        subst eH
        have home : ∀ {S' : Sto} {H' : Hp}, Rel X δ1 S' σ8 H' → TupP X.K H8 H' → Rel X δ S' σ H' := fun R' t' => R7.next t' R'.relK
        refine thnF (pt.pts.run _ s8 σ8 H8 (fun b H9 => ∃ S9, Rel X δ1 S9 σ8 H9 ∧ TupP X.K H8 H9 ∧ if b = true then tk δ1 S9 fun k S3 => tv δ1 S3 fun d S4 => (match S4 A with
            | some (.dit kvs _) => (match tkey k with
              | some _ => kvs.length < sizeLine ∧ ∀ ep, dCompT src.ok p tt tk tv (wipeD δ (own.map (·.2))) A (fun S2 => kE X δ σ H Q (.ref A) S2) (src.items.drop (i + 1)) (sup S4 A (.dit (put kvs k d) ep))
              | none => False)
            | _ => False) else dCompT src.ok p tt tk tv (wipeD δ (own.map (·.2))) A (fun S2 => kE X δ σ H Q (.ref A) S2) (src.items.drop (i + 1)) S9) I8
          ⟨δ1, S5, rel_blk.mpr R8, pt.mono _ _ _ _ (fun b S9 q9 H9 R9 t9 => ⟨S9, rel_blk.mp R9, t9, q9⟩) q6⟩) fun b s9 ⟨H9, I9, S9, R9, t9, q9⟩ => ?_
        cases b with
        | false =>
          simp only [Bool.false_eq_true, if_false] at q9 ⊢
          exact back I9 ew (home R9 t9) t9 q9
        | true =>
          simp only [if_true] at q9 ⊢
          refine thnF (pk.pe.run _ s9 σ8 H9 (fun y H10 => ∃ k S10, Rel X δ1 S10 σ8 H10 ∧ Dv X.K H10 k y ∧ TupP X.K H9 H10 ∧ tv δ1 S10 fun d S4 => (match S4 A with
              | some (.dit kvs _) => (match tkey k with
                | some _ => kvs.length < sizeLine ∧ ∀ ep, dCompT src.ok p tt tk tv (wipeD δ (own.map (·.2))) A (fun S2 => kE X δ σ H Q (.ref A) S2) (src.items.drop (i + 1)) (sup S4 A (.dit (put kvs k d) ep))
                | none => False)
              | _ => False)) I9 ⟨δ1, S9, rel_blk.mpr R9, pk.mono _ _ _ _ (fun k S10 q10 y H10 R10 r10 t10 => ⟨k, S10, rel_blk.mp R10, r10, t10, q10⟩) q9⟩) fun ku s10 ⟨y, H10, I10, rk, k, S10, R10, dk, t10, q10⟩ => ?_
          refine thnF (pv.pe.run _ s10 σ8 H10 (fun z H11 => ∃ d S11, Rel X δ1 S11 σ8 H11 ∧ Dv X.K H11 d z ∧ TupP X.K H10 H11 ∧ (match S11 A with
              | some (.dit kvs _) => (match tkey k with
                | some _ => kvs.length < sizeLine ∧ ∀ ep, dCompT src.ok p tt tk tv (wipeD δ (own.map (·.2))) A (fun S2 => kE X δ σ H Q (.ref A) S2) (src.items.drop (i + 1)) (sup S11 A (.dit (put kvs k d) ep))
                | none => False)
              | _ => False)) I10 ⟨δ1, S10, rel_blk.mpr R10, pv.mono _ _ _ _ (fun d S11 q11 z H11 R11 r11 t11 => ⟨d, S11, rel_blk.mp R11, r11, t11, q11⟩) q10⟩) fun vu s11 ⟨z, H11, I11, rz, d, S11, R11, dz, t11, q11⟩ => ?_
          split at q11
          · rename_i kvs ep11 e11
            split at q11
            · rename_i kk ek
              refine dit_set (X := X.blk s3 H3 scope ce fp) hu I11 (rel_blk.mpr R11) e11 ek q11.1 (dk.mono t11) dz rk rz fun s12 H12 ep12 I12 R12 t12 => ?_
              have R12' : Rel X δ1 (sup S11 A (.dit (put kvs k d) ep12)) σ8 H12 := rel_blk.mp R12
              have tt12 : TupP X.K H8 H12 := t9.trans (t10.trans (t11.trans t12))
              exact back I12 ew (home R12' tt12) tt12 (q11.2 ep12)
            · exact q11.elim
          · exact q11.elim
      · exact q6.elim
    · obtain rfl : i = src.items.length := by omega
      rw [List.drop_length] at q5
      unfold dCompT at q5
      refine thnF (T.done (X.blk s3 H3 scope ce fp) rfl rfl rfl hc _ [] s5 _ H5 (fun _ _ => False) I5 (foot I5 n5) st5 g2) fun r s6 ⟨er, I6⟩ => ?_
      subst er
      have I7 : Inv X pins σ H5 s6 := I3.call' (ch := fp) I6.os I6.base I6.hok I6.bare fun b hb => ⟨(f3 b hb).1.2.2.2.1, (f3 b hb).1.2.1, (f3 b hb).1.2.2.2.2.1, (f3 b hb).1.2.2.2.2.2⟩
      have nC : H5 s3.heap.objs.size = none := by rw [← cl]; exact I6.free
      obtain ⟨m, hn, _⟩ := I6.loc
      have hn : s6.heap.Ns ce.locals m := hn
      rw [cl] at hn
      refine ⟨m, hn, fun h' sb => ?_⟩
      obtain ⟨c0, c1, c2, c3, c4, c5⟩ := I3.fpOk (Nat.le_refl _) nC
      exact ⟨.ref A, H5, I7.turned (t' := s6.toks) (fun b o hb e => (sb.2 b hb).trans e) c0 c1 c3 c4 c5, rfl, q5.2 _ H5 R5 (dv_ref.mpr rfl) (t3.trans t5)⟩
  exact codeAny_compStart_dict walk (T.self X.A 0 _ _ _ st4 walk)
end
end DL
set_option maxRecDepth 100000
namespace DL
open PySem L2
def rV (f : List D → Sto → Option D) : RDL := fun ds S Q => match f ds S with
  | some d => Q d S
  | none => False
def rO (f : List D → Sto → Option DO) : RDL := fun ds S Q => match f ds S with
  | some o => ∀ p, S p = none → Q (.ref p) (sup S p o)
  | none => False
theorem rV_mono {f : List D → Sto → Option D} : MonoL (rV f) := fun ds S Q Q' k q => by
  unfold rV at *
  split at q
  · exact k _ _ q
  · exact q.elim
theorem rO_mono {f : List D → Sto → Option DO} : MonoL (rO f) := fun ds S Q Q' k q => by
  unfold rO at *
  split at q
  · exact fun p hp => k _ _ (q p hp)
  · exact q.elim
section
variable {X : Cx} {a b c e o : Expr} {es : List Expr} {ta tb tc te to : TDE} {t : TDA} {pos apos cpos p : Pos}
theorem dcall_v {g : Value} {r : List V → Hp → VK → Prop} {f : List D → Sto → Option D} (h : CallR X g r) (w : ∀ δ S σ H ds vs (Q : VK) d, Rel X δ S σ H → Dvs X.K H ds vs → f ds S = some d → (∀ v, Dv X.K H d v → Q v H) → r vs H Q) : DCall X g (rV f) :=
  ⟨rV_mono, fun pins s σ H vs us Q I ru ⟨δ, S, σ', ds, R, rd, q⟩ => by
    unfold rV at q
    split at q
    · rename_i d e
      exact h pins s σ H vs us Q I ru (w δ S σ' H ds vs Q d R rd e fun v hv => q v H R hv .refl)
    · exact q.elim⟩
theorem dcall_o {g : Value} {r : List V → Hp → VK → Prop} {f : List D → Sto → Option DO} (h : CallR X g r) (w : ∀ δ S σ H ds vs (Q : VK) ob, Rel X δ S σ H → Dvs X.K H ds vs → f ds S = some ob → (∀ p u, H p = none → ObjD X.prog X.w X.K (upd H p u) p ob → Q (.ref p) (upd H p u)) → r vs H Q) : DCall X g (rO f) :=
  ⟨rO_mono, fun pins s σ H vs us Q I ru ⟨δ, S, σ', ds, R, rd, q⟩ => by
    unfold rO at q
    split at q
    · rename_i ob e
      exact h pins s σ H vs us Q I ru (w δ S σ' H ds vs Q ob R rd e fun p u hp ho => q p (R.free hp) _ _ (R.new hp ho) (dv_ref.mpr rfl) (TupP.laid hp))
    · exact q.elim⟩
theorem dmt_v {id : String} {r : V → List V → Hp → VK → Prop} {f : D → List D → Sto → Option D} (h : MtR X id r) (w : ∀ δ S σ H x ds v vs (Q : VK) d, Rel X δ S σ H → Dv X.K H x v → Dvs X.K H ds vs → f x ds S = some d → (∀ v, Dv X.K H d v → Q v H) → r v vs H Q) : DMt X id fun x => rV (f x) :=
  ⟨fun _ => rV_mono, fun pins s σ σ' H δ S x ds v vs u us Q I R hx hd ru rs q => by
    unfold rV at q
    split at q
    · rename_i d e
      exact h pins s σ H v vs u us Q I ru rs (w δ S σ' H x ds v vs Q d R hx hd e fun v hv => q v H R hv .refl)
    · exact q.elim⟩
theorem dmt_o {id : String} {r : V → List V → Hp → VK → Prop} {f : D → List D → Sto → Option DO} (h : MtR X id r) (w : ∀ δ S σ H x ds v vs (Q : VK) ob, Rel X δ S σ H → Dv X.K H x v → Dvs X.K H ds vs → f x ds S = some ob → (∀ p u, H p = none → ObjD X.prog X.w X.K (upd H p u) p ob → Q (.ref p) (upd H p u)) → r v vs H Q) : DMt X id fun x => rO (f x) :=
  ⟨fun _ => rO_mono, fun pins s σ σ' H δ S x ds v vs u us Q I R hx hd ru rs q => by
    unfold rO at q
    split at q
    · rename_i ob e
      exact h pins s σ H v vs u us Q I ru rs (w δ S σ' H x ds v vs Q ob R hx hd e fun p u hp ho => q p (R.free hp) _ _ (R.new hp ho) (dv_ref.mpr rfl) (TupP.laid hp))
    · exact q.elim⟩
def fInt : List D → Sto → Option D := fun ds _ => match ds with
  | [.int i] => some (.int i)
  | [.bl k] => some (.int (if k then 1 else 0))
  | _ => none
theorem dcall_int : DCall X (.type "int") (rV fInt) := dcall_v call_int1 fun δ S σ H ds vs Q d R rd e q => by
  unfold fInt at e
  split at e
  · obtain ⟨v, rfl, r⟩ := dvs1 rd
    cases e
    rw [dv_int] at r
    exact .inl ⟨_, by rw [r], q _ (dv_int.mpr rfl)⟩
  · obtain ⟨v, rfl, r⟩ := dvs1 rd
    cases e
    rw [dv_bl] at r
    exact .inr ⟨_, by rw [r], q _ (dv_int.mpr rfl)⟩
  · cases e
def fStr : List D → Sto → Option D := fun ds _ => match ds with
  | [.int i] => if i.natAbs.log2 < 1920 then some (.str (toString i)) else none
  | _ => none
theorem dcall_str : DCall X (.type "str") (rV fStr) := dcall_v call_str_int fun δ S σ H ds vs Q d R rd e q => by
  unfold fStr at e
  split at e
  · obtain ⟨v, rfl, r⟩ := dvs1 rd
    rw [dv_int] at r
    split at e
    · rename_i l
      cases e
      exact ⟨_, by rw [r], l, q _ (dv_str.mpr rfl)⟩
    · cases e
  · cases e
def itemsD (S : Sto) : D → Option (List D)
  | .tup xs => some xs
  | .lis xs => some xs
  | .fro xs => some xs
  | .ref a => match S a with
    | some (.lst xs) => some xs
    | _ => none
  | _ => none
theorem itemsD_ok {δ : DEnv} {S : Sto} {σ : St} {H : Hp} {d : D} {v : V} {xs : List D} (R : Rel X δ S σ H) (h : Dv X.K H d v) (e : itemsD S d = some xs) : ∃ a ys, v = .ref a ∧ Dvs X.K H xs ys ∧ (SqL X.K H a ys ∨ SqT X.K H a ys) := by
  unfold itemsD at e
  split at e
  · cases e
    obtain ⟨a, ys, rfl, q, z⟩ := dv_tup.mp h
    exact ⟨a, ys, rfl, z, .inr q⟩
  · cases e
    obtain ⟨a, ys, rfl, q, z⟩ := dv_lis.mp h
    exact ⟨a, ys, rfl, z, .inl (SqF.l (.inl q))⟩
  · cases e
    obtain ⟨a, ys, rfl, q, z⟩ := dv_fro.mp h
    exact ⟨a, ys, rfl, z, .inl q.l⟩
  · rename_i a
    rw [dv_ref] at h
    split at e
    · rename_i l e1
      cases e
      obtain ⟨ys, h1, h2⟩ := R.sto _ _ e1
      exact ⟨a, ys, h, h2, .inl (SqL.of h1)⟩
    · cases e
  · cases e
def fList : List D → Sto → Option DO := fun ds S => match ds with
  | [d] => (itemsD S d).map DO.lst
  | _ => none
theorem dcall_list : DCall X (.type "list") (rO fList) := dcall_o call_list_of fun δ S σ H ds vs Q ob R rd e q => by
  unfold fList at e
  split at e
  · obtain ⟨v, rfl, r⟩ := dvs1 rd
    obtain ⟨xs, e1, rfl⟩ := Option.map_eq_some_iff.mp e
    obtain ⟨a, ys, rfl, z, sq⟩ := itemsD_ok R r e1
    exact ⟨a, ys, rfl, sq, fun l hl => q l _ hl (ObjD.new_lst z hl)⟩
  · cases e
def rTupleD : RDL := fun ds S Q => match ds with
  | [d] => match itemsD S d with
    | some xs => Q (.tup xs) S
    | none => False
  | _ => False
theorem dcall_tuple : DCall X (.type "tuple") rTupleD := by
  refine ⟨fun xs S Q Q' h q => ?_, fun pins s σ H vs us Q I ru h => ?_⟩
  · unfold rTupleD at *
    split at q
    · split at q
      · exact h _ _ q
      · exact q.elim
    · exact q.elim
  · obtain ⟨δ, S, σ', ds, R, rd, q⟩ := h
    unfold rTupleD at q
    split at q
    · obtain ⟨v, rfl, r⟩ := dvs1 rd
      split at q
      · rename_i xs e1
        obtain ⟨a, ys, rfl, z, sq⟩ := itemsD_ok R r e1
        refine call_tuple_of pins s σ H _ us Q I ru ⟨a, ys, rfl, ?_⟩
        rcases sq with sq | sq
        · exact .inl ⟨sq, fun l hl => q _ _ (R.laid hl) (Dv.new_tup z hl) (TupP.laid hl)⟩
        · exact .inr ⟨sq, q _ _ R (dv_tup.mpr ⟨a, ys, rfl, sq, z⟩) .refl⟩
      · exact q.elim
    · exact q.elim
def strsD : List D → Option (List Str)
  | [] => some []
  | .str x :: ds => (strsD ds).map (x :: ·)
  | _ :: _ => none
theorem strsD_ok {H : Hp} : ∀ {ds : List D} {vs : List V} {ys : List Str}, Dvs X.K H ds vs → strsD ds = some ys → vs = ys.map V.str
  | [], vs, ys, h, e => by
    rw [Dvs] at h
    cases e
    exact h
  | .str x :: ds, vs, ys, h, e => by
    rw [Dvs] at h
    obtain ⟨v, r, rfl, h1, h2⟩ := h
    obtain ⟨zs, e1, rfl⟩ := Option.map_eq_some_iff.mp (show (strsD ds).map (x :: ·) = some ys from e)
    rw [dv_str] at h1
    rw [h1, strsD_ok h2 e1]; rfl
  | .non :: _, _, _, _, e => by cases e
  | .bl _ :: _, _, _, _, e => by cases e
  | .int _ :: _, _, _, _, e => by cases e
  | .tup _ :: _, _, _, _, e => by cases e
  | .fro _ :: _, _, _, _, e => by cases e
  | .lis _ :: _, _, _, _, e => by cases e
  | .ref _ :: _, _, _, _, e => by cases e
theorem dvs_strs {H : Hp} : ∀ (ys : List Str), Dvs X.K H (ys.map D.str) (ys.map V.str)
  | [] => Dvs.nil
  | y :: ys => Dvs.cons (dv_str.mpr rfl) (dvs_strs ys)
def fJoin : D → List D → Sto → Option D := fun x ds S => match x, ds with
  | .str a, [d] => (itemsD S d).bind fun xs => (strsD xs).bind fun ys => if (ys.map (·.length)).sum + ys.length * a.length ≤ 16777216 then some (.str (Txt.join a ys)) else none
  | _, _ => none
theorem dmt_join : DMt X "str.join" fun x => rV (fJoin x) := dmt_v mt_join fun δ S σ H x ds v vs Q d R rx rd e q => by
  unfold fJoin at e
  split at e
  · obtain ⟨u, rfl, r⟩ := dvs1 rd
    rw [dv_str] at rx
    obtain ⟨xs, e1, e2⟩ := Option.bind_eq_some_iff.mp e
    obtain ⟨ys, e3, e4⟩ := Option.bind_eq_some_iff.mp e2
    split at e4
    · rename_i l
      cases e4
      obtain ⟨a, zs, rfl, z, sq⟩ := itemsD_ok R r e1
      obtain rfl := strsD_ok z e3
      exact ⟨_, a, ys, rx, rfl, sq, l, q _ (dv_str.mpr rfl)⟩
    · cases e4
  · cases e
end
end DL
set_option maxRecDepth 100000
namespace DL
open PySem L2
def rP2 (f : D → D → Sto → Option D) : RD2 := fun x y S Q => match f x y S with
  | some d => Q d S
  | none => False
theorem rP2_mono {f : D → D → Sto → Option D} : MonoR2 (rP2 f) := fun x y S Q Q' k q => by
  unfold rP2 at *
  split at q
  · exact k _ _ q
  · exact q.elim
section
variable {X : Cx} {a b c e o : Expr} {es : List Expr} {ta tb tc te to : TDE} {t : TDA} {pos apos cpos p : Pos}
def fOrd (fi : Int → Int → Bool) (fs : Str → Str → Bool) : D → D → Sto → Option D := fun x y _ => match x, y with
  | .int i, .int j => some (.bl (fi i j))
  | .str i, .str j => some (.bl (fs i j))
  | _, _ => none
theorem dop_ord {f : Value → Value → Sem Value} {fi : Int → Int → Bool} {fs : Str → Str → Bool} (h1 : OpR X f (rI0 fun i j => .bl (fi i j))) (h2 : OpR X f (fun x y H Q => ∃ i j, x = .str i ∧ y = .str j ∧ Q (.bl (fs i j)) H)) : DOp X f (rP2 (fOrd fi fs)) := by
  refine ⟨rP2_mono, fun pins s σ H x y v u Q I rx ry h => ?_⟩
  obtain ⟨δ, S, σ', dx, dy, R, hx, hy, q⟩ := h
  unfold rP2 fOrd at q
  cases dx <;> cases dy <;> try exact q.elim
  · rw [dv_int] at hx hy
    exact h1 pins s σ H x y v u Q I rx ry ⟨_, _, hx, hy, q _ H R (dv_bl.mpr rfl) .refl⟩
  · rw [dv_str] at hx hy
    exact h2 pins s σ H x y v u Q I rx ry ⟨_, _, hx, hy, q _ H R (dv_bl.mpr rfl) .refl⟩
def ltS (i j : Str) : Bool := decide (i.cps.toList < j.cps.toList)
theorem dop_ltA : DOp X (compareOp .Lt) (rP2 (fOrd (fun i j => decide (i < j)) ltS)) := dop_ord op_lt op_lt_str
theorem dop_leA : DOp X (compareOp .LtE) (rP2 (fOrd (fun i j => decide (i ≤ j)) fun i j => !ltS j i)) := dop_ord op_le op_le_str
theorem dop_gtA : DOp X (compareOp .Gt) (rP2 (fOrd (fun i j => decide (j < i)) fun i j => ltS j i)) := dop_ord op_gt op_gt_str
theorem dop_geA : DOp X (compareOp .GtE) (rP2 (fOrd (fun i j => decide (j ≤ i)) fun i j => !ltS i j)) := dop_ord op_ge op_ge_str
def dChain (r r' : RD2) (ta tb tc : TDE) : TDE := fun δ S Q => ta δ S fun x S1 => tb δ S1 fun y S2 => r x y S2 (isB fun k S3 => if k = true then tc δ S3 fun z S4 => r' y z S4 Q else Q (.bl false) S3)
theorem dChain_mono {r r' : RD2} (h1 : MonoR2 r) (h2 : MonoR2 r') (ha : MonoE ta) (hb : MonoE tb) (hc : MonoE tc) : MonoE (dChain r r' ta tb tc) := fun δ S Q Q' h q => ha _ _ _ _ (fun x S1 q1 => hb _ _ _ _ (fun y S2 q2 => h1 _ _ _ _ _ (isB_mono fun k S3 q3 => by
  cases k <;> simp only [if_true, Bool.false_eq_true, if_false] at q3 ⊢
  · exact h _ _ q3
  · exact hc _ _ _ _ (fun z S4 q4 => h2 _ _ _ _ _ h q4) q3) q2) q1) q
theorem chain_in {r r' : RD2} (m : MonoR2 r) (m' : MonoR2 r') (ha : DE X a ta) (hb : DE X b tb) (hc : DE X c tc) {δ : DEnv} {S : Sto} {σ : St} {H : Hp} (R : Rel X δ S σ H) {Q : DK} {QV : VK} (q : dChain r r' ta tb tc δ S Q) (hq : ∀ d S' v H', Q d S' → Rel X δ S' σ H' → Dv X.K H' d v → TupP X.K H H' → QV v H') :
    tChain (upR2 X r) (upR2 X r') (upE X ta) (upE X tb) (upE X tc) σ H QV := by
  refine two ha hb R q fun x y S2 v u H2 q2 R2 r1 r2 t2 => ⟨δ, S2, σ, x, y, R2, r1, r2, m _ _ _ _ _ (fun d S3 q3 w H3 R3 r3 t3 => ?_) q2⟩
  cases d with
  | bl k =>
    rw [dv_bl] at r3
    refine ⟨k, r3, ?_⟩
    have q3 : if k = true then tc δ S3 fun z S4 => r' y z S4 Q else Q (.bl false) S3 := q3
    cases k <;> simp only [if_true, Bool.false_eq_true, if_false] at q3 ⊢
    · exact hq _ _ _ _ q3 R3 (dv_bl.mpr rfl) (t2.trans t3)
    · refine hc.sub R3 q3 fun z S4 w' H4 q4 R4 r4 t4 => ?_
      exact ⟨δ, S4, σ, y, z, R4, r2.mono (t3.trans t4), r4, m' _ _ _ _ _ (fun d' S5 q5 w5 H5 R5 r5 t5 => hq _ _ _ _ q5 R5 r5 (t2.trans (t3.trans (t4.trans t5)))) q4⟩
  | _ => exact q3.elim
theorem de_chain {op op' : CmpOp} {r r' : RD2} (ho : DOp X (compareOp op) r) (ho' : DOp X (compareOp op') r') (ha : DE X a ta) (hb : DE X b tb) (hc : DE X c tc)
    (hm : lastMarks [op, op'] [b, c] = false := by with_unfolding_all rfl) : DE X (.Compare a [op, op'] [b, c] pos) (dChain r r' ta tb tc) :=
  ⟨dChain_mono ho.mono ho'.mono ha.mono hb.mono hc.mono, pe_weak (pe_chain ho.run ho'.run ha.pe hb.pe hc.pe hm) fun σ H Q ⟨δ, S, R, q⟩ => chain_in ho.mono ho'.mono ha hb hc R q fun d S' v H' z R' r' t' => z v H' R' r' t'⟩
theorem dt_chain {op op' : CmpOp} {r r' : RD2} (ho : DOp X (compareOp op) r) (ho' : DOp X (compareOp op') r') (ha : DE X a ta) (hb : DE X b tb) (hc : DE X c tc)
    (hm : lastMarks [op, op'] [b, c] = false := by with_unfolding_all rfl) : DT X (.Compare a [op, op'] [b, c] pos) (dTB (dChain r r' ta tb tc)) :=
  ⟨dTB_mono (dChain_mono ho.mono ho'.mono ha.mono hb.mono hc.mono), pt_weak (pt_chain ho.run ho'.run ha.pe hb.pe hc.pe hm) fun σ H Q ⟨δ, S, R, q⟩ => chain_in ho.mono ho'.mono ha hb hc R q fun d S' v H' z R' r' t' => by
    cases d with
    | bl k => rw [dv_bl] at r'; exact ⟨k, r', z H' R' t'⟩
    | _ => exact z.elim⟩
def fSplit : D → List D → Sto → Option DO := fun x ds _ => match x, ds with
  | .str a, [.str b] => if (b.length == 0) = false ∧ a.length + 2 ≤ sizeLine then some (.lst ((Txt.split a b).map D.str)) else none
  | _, _ => none
theorem dmt_split : DMt X "str.split" fun x => rO (fSplit x) := dmt_o mt_split fun δ S σ H x ds v vs Q ob R rx rd e q => by
  unfold fSplit at e
  split at e
  · obtain ⟨u, rfl, r⟩ := dvs1 rd
    rw [dv_str] at rx r
    split at e
    · rename_i l
      cases e
      exact ⟨_, _, rx, by rw [r], l.1, l.2, fun p hp => q p _ hp ⟨_, upd_same, dvs_strs _⟩⟩
    · cases e
  · cases e
def findD (p : PyData) : List PyData → Option Nat
  | [] => none
  | z :: zs => if PyData.eqv z p then some 0 else (findD p zs).map (· + 1)
theorem findD_ok (p : PyData) : ∀ (zs : List PyData) (j : Nat), findD p zs = some j → ∃ z, zs[j]? = some z ∧ PyData.eqv z p = true ∧ ∀ (m : Nat) (z' : PyData), m < j → zs[m]? = some z' → PyData.eqv z' p = false
  | [], j, h => by cases h
  | z :: zs, j, h => by
    unfold findD at h
    split at h
    · rename_i e
      cases h
      exact ⟨z, rfl, e, fun m z' l => absurd l (Nat.not_lt_zero _)⟩
    · rename_i e
      obtain ⟨k, e1, rfl⟩ := Option.map_eq_some_iff.mp h
      obtain ⟨y, e2, e3, e4⟩ := findD_ok p zs k e1
      refine ⟨y, by simpa using e2, e3, fun m z' l q => ?_⟩
      cases m with
      | zero => simp at q; subst q; simpa using e
      | succ m => exact e4 m z' (by omega) (by simpa using q)
def fIndex : D → List D → Sto → Option D := fun x ds S => match x, ds with
  | .ref r, [y] => match S r with
    | some (.lst xs) => (pds xs).bind fun ps => (dataD S y).bind fun p => if SeqAt.shaped (.list ps) = true ∧ SeqAt.shaped p = true then (findD p ps).map fun j => .int (j : Nat) else none
    | _ => none
  | _, _ => none
theorem dmt_index (hu : X.A.units + 65 < cLine) : DMt X "list.index" fun x => rV (fIndex x) := dmt_v (mt_indexD hu) fun δ S σ H x ds v vs Q d R rx rd e q => by
  unfold fIndex at e
  split at e
  · obtain ⟨u, rfl, r⟩ := dvs1 rd
    rw [dv_ref] at rx
    split at e
    · rename_i xs e1
      obtain ⟨ps, e2, e3⟩ := Option.bind_eq_some_iff.mp e
      obtain ⟨pp, e4, e5⟩ := Option.bind_eq_some_iff.mp e3
      split at e5
      · rename_i l
        obtain ⟨j, e6, rfl⟩ := Option.map_eq_some_iff.mp e5
        obtain ⟨z, z1, z2, z3⟩ := findD_ok _ _ _ e6
        obtain ⟨ws, h1, h2⟩ := R.sto _ _ e1
        exact ⟨_, u, pp, ps, j, z, rx, rfl, .lst (SqL.of h1) (pds_dp _ _ _ h2 e2), dataD_dp R r e4, l.1, l.2, z1, z2, z3, q _ (dv_int.mpr rfl)⟩
      · cases e5
    · cases e
  · cases e
def rMulD : RD2 := fun x y S Q => match x, y with
  | .int i, .int j => CMul i j ∧ Q (.int (i * j)) S
  | .ref l, .int k => match S l with
    | some (.lst xs) => -(2 ^ 63) ≤ k ∧ k < 2 ^ 63 ∧ xs.length * k.toNat ≤ sizeLine ∧ ∀ p, S p = none → Q (.ref p) (sup S p (.lst (List.replicate k.toNat xs).flatten))
    | _ => False
  | .tup xs, .int k => xs ≠ [] ∧ 2 ≤ k ∧ k ≤ 1000 ∧ xs.length ≤ 1000 ∧ Q (.tup (List.replicate k.toNat xs).flatten) S
  | _, _ => False
theorem Dvs.times {K : PySem.W.Frag} {H : Hp} {ds : List D} {vs : List V} (h : Dvs K H ds vs) : ∀ n : Nat, Dvs K H (List.replicate n ds).flatten (List.replicate n vs).flatten
  | 0 => Dvs.nil
  | n + 1 => by
    rw [List.replicate_succ, List.replicate_succ, List.flatten_cons, List.flatten_cons]
    exact h.append (Dvs.times h n)
theorem dop_mulA : DOp X (binaryOp .Mult) rMulD := by
  refine ⟨fun x y S Q Q' k q => ?_, fun pins s σ H x y v u Q I rx ry h => ?_⟩
  · unfold rMulD at *
    split at q
    · exact ⟨q.1, k _ _ q.2⟩
    · split at q
      · exact ⟨q.1, q.2.1, q.2.2.1, fun p hp => k _ _ (q.2.2.2 p hp)⟩
      · exact q.elim
    · exact ⟨q.1, q.2.1, q.2.2.1, q.2.2.2.1, k _ _ q.2.2.2.2⟩
    · exact q.elim
  · obtain ⟨δ, S, σ', dx, dy, R, hx, hy, q⟩ := h
    unfold rMulD at q
    split at q
    · rw [dv_int] at hx hy
      exact op_mul pins s σ H x y v u Q I rx ry ⟨_, _, hx, hy, q.1, q.2 _ H R (dv_int.mpr rfl) .refl⟩
    · rw [dv_ref] at hx
      rw [dv_int] at hy
      split at q
      · rename_i xs e1
        obtain ⟨ws, h1, h2⟩ := R.sto _ _ e1
        exact op_rep pins s σ H x y v u Q I rx ry ⟨_, _, ws, hx, hy, h1, q.1, q.2.1, by rw [← h2.length]; exact q.2.2.1, fun p hp => q.2.2.2 p (R.free hp) _ _ (R.new hp (ObjD.new_lst (h2.times _) hp)) (dv_ref.mpr rfl) (TupP.laid hp)⟩
      · exact q.elim
    · rw [dv_int] at hy
      obtain ⟨r, vs, rfl, sx, dx⟩ := dv_tup.mp hx
      refine op_repT pins s σ H _ y v u Q I rx ry ⟨r, _, vs, rfl, hy, sx, fun z => q.1 ((dx.nil_iff).mp z), q.2.1, q.2.2.1, by rw [← dx.length]; exact q.2.2.2.1, fun p hp => q.2.2.2.2 _ _ (R.laid hp) (Dv.new_tup (dx.times _) hp) (TupP.laid hp)⟩
    · exact q.elim
end
end DL
set_option maxRecDepth 100000
namespace DL
open PySem L2
section
variable {X : Cx} {x n : Str} {c : Value} {i : Nat} {body suite : List Stmt} {b₀ : Stmt} {np pos pos' p : Pos} {tb : WD → TDS} {ts : Addr → XV → TDS} {wout : WD}
theorem Rel.tr {δ : DEnv} {S : Sto} {σ : St} {H : Hp} {pn : List (Addr × Obj)} {xe : Value → Shared → Prop} (R : Rel X δ S σ H) : Rel (X.tr pn xe) δ S σ H := ⟨R.len, R.loc, R.sto⟩
theorem Rel.ofTr {δ : DEnv} {S : Sto} {σ : St} {H : Hp} {pn : List (Addr × Obj)} {xe : Value → Shared → Prop} (R : Rel (X.tr pn xe) δ S σ H) : Rel X δ S σ H := ⟨R.len, R.loc, R.sto⟩
theorem Rel.su {δ : DEnv} {S : Sto} {σ : St} {H : Hp} {a : Addr} {pn : List (Addr × Obj)} (R : Rel X δ S σ H) : Rel (X.suite a pn) δ S σ H := ⟨R.len, R.loc, R.sto⟩
theorem Rel.ofSu {δ : DEnv} {S : Sto} {σ : St} {H : Hp} {a : Addr} {pn : List (Addr × Obj)} (R : Rel (X.suite a pn) δ S σ H) : Rel X δ S σ H := ⟨R.len, R.loc, R.sto⟩
def onlyRt (r : DK) : DEnds := ⟨fun _ _ => False, r, fun _ _ => False, fun _ _ => False⟩
def wAsD (K : PySem.W.Frag) (c : Value) (i : Nat) (ts : Addr → XV → TDS) (wout : WD) (r : DK) : WD := fun e δ S =>
  ∃ b, PySem.W.exmOne K e.1 c = some b ∧ (b = true → ∀ a, S a = none → ts a e (onlyRt r) (δ.set i (some (.ref a))) S) ∧ (b = false → wout e δ S)
def sTryAs (K : PySem.W.Frag) (c : Value) (i : Nat) (tb : WD → TDS) (ts : Addr → XV → TDS) (wout : WD) : TDS := fun D δ S => tb (wAsD K c i ts wout D.rt) D δ S
structure MonoW (tb : WD → TDS) : Prop where
  ends : ∀ w, MonoS (tb w)
  wish : ∀ w w' D δ S, (∀ e δ S, w e δ S → w' e δ S) → tb w D δ S → tb w' D δ S
theorem wAsD_mono {K : PySem.W.Frag} {r r' : DK} (ms : ∀ a e, MonoS (ts a e)) (h : ∀ d S, r d S → r' d S) (e : XV) (δ : DEnv) (S : Sto) (q : wAsD K c i ts wout r e δ S) : wAsD K c i ts wout r' e δ S :=
  let ⟨b, h1, h2, h3⟩ := q
  ⟨b, h1, fun hb a ha => ms a e (onlyRt r) (onlyRt r') _ _ ⟨fun _ _ z => z, h, fun _ _ z => z, fun _ _ z => z⟩ (h2 hb a ha), h3⟩
theorem ds_tryAs (hs : X.stack = X.env :: X.outer) (hf : X.env.frame = some X.env.locals) (hN : X.N.Nodup) (hi : X.N[i]? = some n) (hln : X.env.kindOf n = some .local) (hc : Names X x c) (tk : TakesD X wout)
    (mb : MonoW tb) (ms : ∀ a e, MonoS (ts a e))
    (hb : ∀ (wx : WD) (pn : List (Addr × Obj)) (xe : Value → Shared → Prop), TakesD (X.tr pn xe) wx → PassesOwn (model X.prog X.w) X.A X.env xe → DSs (X.tr pn xe) body (tb wx))
    (hsu : ∀ (a : Addr) (oe : Obj) (cls : Value) (d : Option Addr) (pn : List (Addr × Obj)), Zc cls d oe → (∃ vs, oe.data = .fields vs) → DSs (X.suite a ((a, oe) :: pn)) (b₀ :: suite) (ts a (cls, d))) :
    DS X (.Try body [.ExceptHandler (some (.Name x np)) (some n) (b₀ :: suite) pos'] [] [] pos) (sTryAs X.K c i tb ts wout) := by
  refine ⟨fun D D' δ S l q => mb.wish _ _ _ _ _ (fun e δ S z => wAsD_mono ms l.rt e δ S z) (mb.ends _ _ _ _ _ l q), ?_⟩
  refine ps_weak (ps_try_as (c := c) (i := i) (Wout := wX X wout)
    (tb := fun W D σ H => ∃ δ S, Rel X δ S σ H ∧ tb (fun e δ' S' => ∀ σ' H', Rel X δ' S' σ' H' → W e.1 e.2 σ' H') (kS X H D) δ S)
    (ts := fun a cls d D σ H => ∃ δ S, Rel X δ S σ H ∧ ts a (cls, d) (onlyRt fun v S' => kR X H D.rt v S') δ S) hs hf hN hi hln hc tk.tk (fun W pn xe tkW po => ?_) (fun a oe cls d pn hz hf => ?_)) fun D σ H ⟨δ, S, R, q⟩ => ?_
  · have tD : TakesD (X.tr pn xe) (fun e δ' S' => ∀ σ' H', Rel X δ' S' σ' H' → W e.1 e.2 σ' H') := ⟨takes_imp tkW fun c d σ H pins s I ⟨δ, S, R, z⟩ => z σ H R.ofTr⟩
    refine pss_weak (hb _ pn xe tD po).pss fun D σ H ⟨δ, S, R, q⟩ => ⟨δ, S, R.tr, ?_⟩
    exact mb.ends _ (kS X H D) (kS (X.tr pn xe) H D) _ _ ⟨fun δ S z σ' H' R' t => z σ' H' R'.ofTr t, fun d S z v H' r h => z v H' r h, fun δ S z σ' H' R' t => z σ' H' R'.ofTr t, fun δ S z σ' H' R' t => z σ' H' R'.ofTr t⟩ q
  · refine pss_weak (hsu a oe cls d pn hz hf).pss fun D σ H ⟨δ, S, R, q⟩ => ⟨δ, S, R.su, ?_⟩
    exact ms _ _ (onlyRt fun v S' => kR X H D.rt v S') (kS (X.suite a ((a, oe) :: pn)) H D) _ _ ⟨fun _ _ z => z.elim, fun d S z v H' r h => z v H' r h, fun _ _ z => z.elim, fun _ _ z => z.elim⟩ q
  · refine ⟨δ, S, R, mb.wish _ _ _ _ _ (fun e δ' S' ⟨b, h1, h2, h3⟩ σ' H' R' => ⟨b, h1, fun hb a ha => ?_, fun hb => ⟨δ', S', R', h3 hb⟩⟩) q⟩
    exact ⟨_, S', R'.set (dv_ref.mpr rfl), h2 hb a (R'.free ha)⟩
def rIsX (K : PySem.W.Frag) (a : Addr) (cls : Value) (d : Option Addr) : List V → Hp → VK → Prop := fun xs H Q => ∃ (c : V) (cv : Value) (b : Bool) (D : Addr), xs = [.ref a, c] ∧ (∀ u, RelV c u → u = cv) ∧ cls = .ref D ∧ ExcC K D ∧ PySem.W.kitOne K (.ref D) cv = some b ∧
  (d = none ∨ ∃ dd fs, d = some dd ∧ H dd = some (.xd fs)) ∧ Q (.bl b) H
theorem call_isX {a : Addr} {oe : Obj} {cls : Value} {d : Option Addr} {pn : List (Addr × Obj)} (hz : Zc cls d oe) (hf : ∃ vs, oe.data = .fields vs) : CallR (X.suite a ((a, oe) :: pn)) (.builtin "isinstance") (rIsX X.K a cls d) := by
  intro pins s σ H xs us Q I r h
  obtain ⟨cc, cv, b, D, rfl, hcv, rfl, C, e, hd, q⟩ := h
  cases r with
  | cons rx rr =>
    cases rr with
    | cons rt rr =>
      cases rr
      cases rx
      have ec := hcv _ rt
      subst ec
      obtain ⟨hget, _⟩ := I.pin (a, oe) (List.mem_append.mpr (.inl List.mem_cons_self))
      obtain ⟨vs, hv⟩ := hf
      have hcl : (PySem.W.clsIn X.K D).isSome = true := by
        obtain ⟨cd, hc, _⟩ := PySem.W.any_some C.hd
        rw [hc]; rfl
      rcases hd with hd | ⟨dd, fs, hd, hH⟩
      · have J : PySem.W.InstAt s.heap a oe D none := by
          obtain ⟨oc, od, oda, osl⟩ := oe
          obtain ⟨h1, h2⟩ := hz
          dsimp only at h1 h2 hv
          subst h1 h2 hv hd
          exact ⟨hget, rfl, rfl, trivial⟩
        exact PySem.W.kia_one (PySem.W.kitx_exc hcl C.hg C.hk C.hs C.ha C.hn C.ht C.hm) I.kIn J e (fun z => nomatch z) fun tk => ⟨.bl b, H, I.kept (t' := tk) fun _ _ z => z, rfl, q⟩
      · have hx : ObjOk X.prog X.w H s.heap dd (.xd fs) := I.hok dd _ hH
        obtain ⟨mA, hns, hr⟩ := hx
        obtain ⟨od', ho, hl⟩ := lookIn_ns hns
        have J : PySem.W.InstAt s.heap a oe D (some od') := ⟨hget, hz.1, by unfold PySem.W.notCls; rw [hv] <;> rfl, by rw [hz.2, hd]; exact ho⟩
        exact PySem.W.kia_one (PySem.W.kitx_exc hcl C.hg C.hk C.hs C.ha C.hn C.ht C.hm) I.kIn J e (fun z => nomatch z) fun tk => ⟨.bl b, H, I.kept (t' := tk) fun _ _ z => z, rfl, q⟩
def isX (S : Sto) : Option Addr → Prop
  | none => True
  | some dd => ∃ fs, S dd = some (.xd fs)
theorem isX_ok {δ : DEnv} {S : Sto} {σ : St} {H : Hp} {d : Option Addr} (R : Rel X δ S σ H) (h : isX S d) : d = none ∨ ∃ dd fs, d = some dd ∧ H dd = some (.xd fs) := by
  cases d with
  | none => exact .inl rfl
  | some dd =>
    obtain ⟨fs, e⟩ := h
    obtain ⟨fs', h1, _⟩ := R.sto dd _ e
    exact .inr ⟨dd, fs', rfl, h1⟩
def dIsX (K : PySem.W.Frag) (a : Addr) (cls : Value) (d : Option Addr) (cv : Value) (ta : TDE) : TDE := fun δ S Q => ta δ S fun x S1 => x = .ref a ∧ ∃ b D, cls = .ref D ∧ ExcC K D ∧ PySem.W.kitOne K (.ref D) cv = some b ∧ isX S1 d ∧ Q (.bl b) S1
theorem dIsX_mono {K : PySem.W.Frag} {a : Addr} {cls : Value} {d : Option Addr} {cv : Value} {ta : TDE} (h : MonoE ta) : MonoE (dIsX K a cls d cv ta) := fun δ S Q Q' k q => h _ _ _ _ (fun x S1 ⟨e, b, D, h1, h2, h3, h4, h5⟩ => ⟨e, b, D, h1, h2, h3, h4, k _ _ h5⟩) q
theorem de_isXg {a : Addr} {oe : Obj} {cls : Value} {d : Option Addr} {pn : List (Addr × Obj)} {e : Expr} {te : TDE} {T : Str} {C : Addr} {p2 : Pos} (hz : Zc cls d oe) (hf : ∃ vs, oe.data = .fields vs) (hg : Gl X "isinstance") (hm : X.mg "isinstance" = none) (hgT : Gl X T) (hmT : X.mg T = some (.ref C))
    (ha : DE (X.suite a ((a, oe) :: pn)) e te) (h2 : (T == ("__debug__" : Str)) = false := by decide)
    (hs : starEach [e, .Name T p2] X.env = (false, eval e X.env) :: starEach [.Name T p2] X.env := by rfl) (hs2 : starEach [.Name T p2] X.env = (false, eval (.Name T p2) X.env) :: starEach [] X.env := by rfl) (hpl : (backTo pos (starEach [.Name T p2] X.env)).any (·.1) = false := by rfl) :
    DE (X.suite a ((a, oe) :: pn)) (.Call (.Name "isinstance" p) [e, .Name T p2] [] pos) (dIsX X.K a cls d (.ref C) te) := by
  refine ⟨dIsX_mono ha.mono, pe_weak (pe_callB (X := X.suite a ((a, oe) :: pn)) (call_isX hz hf) hg hm (by decide +kernel) (pa_cons ha.pe (pa_cons (pe_glob (X := X.suite a ((a, oe) :: pn)) (v := .ref C) hgT hmT rfl h2) pa_nil hs2) hs) (by decide) (by decide) hs hpl) fun σ H Q ⟨δ, S, R, q⟩ => ?_⟩
  refine ha.sub R q fun x S1 v H1 ⟨ex, b, D, e1, e2, e3, e4, e5⟩ R1 r1 t1 => ?_
  subst ex
  rw [dv_ref] at r1
  subst r1
  exact ⟨.ref C, .ref C, b, D, rfl, fun u hu => by cases hu; rfl, e1, e2, e3, isX_ok R1.ofSu e4, e5 _ H1 R1 (dv_bl.mpr rfl) t1⟩
theorem de_isXb {a : Addr} {oe : Obj} {cls : Value} {d : Option Addr} {pn : List (Addr × Obj)} {e : Expr} {te : TDE} {T : Str} {m : String} {p2 : Pos} (hz : Zc cls d oe) (hf : ∃ vs, oe.data = .fields vs) (hg : Gl X "isinstance") (hm : X.mg "isinstance" = none) (hgT : Gl X T) (hmT : X.mg T = none) (hvT : bootBuiltins T = some (.type m))
    (ha : DE (X.suite a ((a, oe) :: pn)) e te) (h1 : T ≠ ("__name__" : Str) := by decide) (h2 : (T == ("__debug__" : Str)) = false := by decide)
    (hs : starEach [e, .Name T p2] X.env = (false, eval e X.env) :: starEach [.Name T p2] X.env := by rfl) (hs2 : starEach [.Name T p2] X.env = (false, eval (.Name T p2) X.env) :: starEach [] X.env := by rfl) (hpl : (backTo pos (starEach [.Name T p2] X.env)).any (·.1) = false := by rfl) :
    DE (X.suite a ((a, oe) :: pn)) (.Call (.Name "isinstance" p) [e, .Name T p2] [] pos) (dIsX X.K a cls d (.type m) te) := by
  refine ⟨dIsX_mono ha.mono, pe_weak (pe_callB (X := X.suite a ((a, oe) :: pn)) (call_isX hz hf) hg hm (by decide +kernel) (pa_cons ha.pe (pa_cons (pe_bltn (X := X.suite a ((a, oe) :: pn)) (v := .ty m) hgT hmT hvT rfl h1 h2) pa_nil hs2) hs) (by decide) (by decide) hs hpl) fun σ H Q ⟨δ, S, R, q⟩ => ?_⟩
  refine ha.sub R q fun x S1 v H1 ⟨ex, b, D, e1, e2, e3, e4, e5⟩ R1 r1 t1 => ?_
  subst ex
  rw [dv_ref] at r1
  subst r1
  exact ⟨.ty m, .type m, b, D, rfl, fun u hu => by cases hu; rfl, e1, e2, e3, isX_ok R1.ofSu e4, e5 _ H1 R1 (dv_bl.mpr rfl) t1⟩
def dXf (a : Addr) (cls : Value) (d : Option Addr) (C : Addr) (f : Str) (te : TDE) : TDE := fun δ S Q => te δ S fun x S1 => x = .ref a ∧ cls = .ref C ∧ match d with
  | some dd => match S1 dd with
    | some (.xd fs) => match fs.lookup f with
      | some y => Q y S1
      | none => False
    | _ => False
  | none => False
theorem fld_some {K : PySem.W.Frag} {H : Hp} {f : Str} : ∀ {fs : List (Str × D)} {fs' : List (Str × V)} {y : D}, Paired (Fld K H) fs fs' → fs.lookup f = some y → ∃ v, fs'.lookup f = some v ∧ Dv K H y v
  | [], _, y, h, e => by cases e
  | (g, d) :: fs, _, y, h, e => by
    cases h with
    | @cons _ q _ fs' h1 h2 =>
      obtain ⟨g', v⟩ := q
      obtain ⟨rfl, hv⟩ := h1
      rw [List.lookup_cons] at e ⊢
      cases b : f == g with
      | true => rw [b] at e; cases e; exact ⟨v, by simp, hv⟩
      | false => rw [b] at e; obtain ⟨w, e1, e2⟩ := fld_some h2 e; exact ⟨w, by simpa using e1, e2⟩
theorem de_xf {a C : Addr} {oe : Obj} {cls : Value} {d : Option Addr} {pn : List (Addr × Obj)} {e : Expr} {te : TDE} {n : Str} (T : XfC X.K C) (hno : PySem.W.findIn X.K (.ref C) n = some none) (hz : Zc cls d oe) (hf : ∃ vs, oe.data = .fields vs) (he : DE (X.suite a ((a, oe) :: pn)) e te)
    (hb : attributeBase e n X.env (eval e X.env) = eval e X.env := by rfl) : DE (X.suite a ((a, oe) :: pn)) (.Attribute e n pos) (dXf a cls d C n te) := by
  refine ⟨fun δ S Q Q' k q => he.mono _ _ _ _ (fun x S1 q1 => ⟨q1.1, q1.2.1, ?_⟩) q, pe_weak (pe_xf T hno hz hf he.pe hb) fun σ H Q ⟨δ, S, R, q⟩ => ?_⟩
  · have q2 := q1.2.2
    split at q2
    · split at q2
      · split at q2
        · exact k _ _ q2
        · exact q2.elim
      · exact q2.elim
    · exact q2.elim
  · refine he.sub R q fun x S1 v H1 q1 R1 r1 t1 => ?_
    obtain ⟨ex, ec, q2⟩ := q1
    subst ex
    rw [dv_ref] at r1
    split at q2
    · split at q2
      · rename_i fs e1
        split at q2
        · rename_i y e2
          obtain ⟨fs', h1, h2⟩ := R1.sto _ _ e1
          obtain ⟨w, h3, h4⟩ := fld_some h2 e2
          exact ⟨r1, ec, _, fs', w, rfl, h1, h3, q2 w H1 R1 h4 t1⟩
        · exact q2.elim
      · exact q2.elim
    · exact q2.elim
end
end DL
set_option maxRecDepth 100000
namespace DL
open PySem L2
section
variable {X : Cx} {tg a b e o : Expr} {es : List Expr} {ta tb te to : TDE} {t : TDA} {pos apos cpos : Pos}
def rSubD : RD2 := fun x y S Q => match lookD S x y with
  | some r => match r with
    | some d => Q d S
    | none => False
  | none => rIxD x y S Q
theorem rSubD_mono : MonoR2 rSubD := fun x y S Q Q' h q => by
  unfold rSubD at *
  split at q
  · split at q
    · exact h _ _ q
    · exact q.elim
  · exact rIxD_mono _ _ _ _ _ h q
theorem ix_sub (hu : X.A.units + 64 < cLine) : IxR X (upR2 X rSubD) := fun value slice pins s σ H x y v u Q I rx ry h hs => by
  obtain ⟨δ, S, σ', dx, dy, R, hx, hy, q⟩ := h
  unfold rSubD at q
  split at q
  · rename_i r e
    split at q
    · rename_i d
      have ty := (lookD_type I R hx rx e).1
      have run := lookD_getItem (Q := EP X pins σ Q) (E := X.xe) hu I R hx hy e rx ry fun z w' s' I' rz dz => ⟨z, H, I', rz, q _ H R dz .refl⟩
      unfold PyProof.Rows.subscriptTail
      refine wpAny_bind ?_
      rw [getitemInPython_of_ne ty.not_modules]
      refine wpAny_bind (wpAny_specialOf ty PySem.F.slot_dict_getitem.lookup ?_)
      have fin : wpAny (model X.prog X.w) X.A (subscripted slice false v u) (fun r s₃ => wpAny (model X.prog X.w) X.A (letTemporaryGo value v r >>= fun _ => pure r) (EP X pins σ Q) X.xe s₃) X.xe s := by
        rw [hs]
        exact wpAny_operating (wpAny_mono run (fun r s₃ h₃ => wpAny_bind (wpAny_letTemporaryGo (wpAny_pure h₃))) fun _ _ x => x)
      exact wpAny_pure (wpAny_bind fin)
    · exact q.elim
  · exact ix_d value slice pins s σ H x y v u Q I rx ry ⟨δ, S, σ', dx, dy, R, hx, hy, q⟩ hs
theorem de_sub (hu : X.A.units + 64 < cLine) (ha : DE X a ta) (hb : DE X b tb) (hs : PlainIx b := by exact fun _ _ => rfl) : DE X (.Subscript a b pos) (dBin rSubD ta tb) := by
  refine ⟨dBin_mono rSubD_mono ha.mono hb.mono, pe_weak (pe_ix (ix_sub hu) ha.pe hb.pe hs) fun σ H Q ⟨δ, S, R, q⟩ => ?_⟩
  exact two ha hb R q fun x y S2 v u H2 q2 R2 r1 r2 t => ⟨δ, S2, σ, x, y, R2, r1, r2, rSubD_mono _ _ _ _ _ (fun _ _ z => kE.later t z) q2⟩
def srcD (S : Sto) : D → Option Src
  | .tup ds => some ⟨ds, fun _ => True⟩
  | .fro ds => some ⟨ds, fun _ => True⟩
  | .lis ds => some ⟨ds, fun _ => True⟩
  | .str z => some ⟨sgn z, fun _ => True⟩
  | .ref a => match S a with
    | some (.lst ds) => some ⟨ds, fun S => S a = some (.lst ds)⟩
    | some (.dit kvs ep) => some ⟨kvs.map (·.1), fun S => S a = some (.dit kvs ep)⟩
    | _ => none
  | _ => none
def iAny (te : TDE) : TDI := fun δ S Q => te δ S fun x S1 => match srcD S1 x with
  | some s => Q s S1
  | none => False
theorem itd_fro {H0 : Hp} {a : Addr} {vs : List V} {ds : List D} (hs : SqF X.K H0 a vs) (hd : Dvs X.K H0 ds vs) : ItD X H0 ⟨ds, fun _ => True⟩ (Itl X.K a) := fun δ S σ H R t ok => by
  have h1 := (t.2.1 a vs hs).l
  have h2 := hd.mono t
  refine ⟨fun i d e => ?_, ⟨vs, h1, by rw [← h2.length]; exact Nat.le_refl _⟩⟩
  obtain ⟨v, ev, r⟩ := h2.get e
  refine ⟨⟨vs, v, h1, ev⟩, fun x H' y => ?_⟩
  obtain ⟨rfl, y⟩ := y
  have := y vs h1
  rw [ev] at this
  cases this
  exact ⟨R, r, .refl⟩
theorem di_any (he : DE X e te) : DI X tg e (iAny te) := by
  refine ⟨fun δ S Q Q' k q => he.mono _ _ _ _ (fun x S1 q1 => ?_) q, ⟨fun pins s σ H R I ⟨δ, S, r, q⟩ => ?_⟩⟩
  · split at q1
    · exact k _ _ q1
    · exact q1.elim
  refine thn (he.pe.run pins s σ H _ I (he.sub (Q := fun v H1 => ∃ x S1 sr, Rel X δ S1 σ H1 ∧ Dv X.K H1 x v ∧ srcD S1 x = some sr ∧ ∀ J, ItD X H1 sr J → R J H1) r q fun x S1 v H1 q1 R1 r1 t1 => ?_)) fun u s1 ⟨v, H1, I1, ru, x, S1, sr, R1, r1, e1, q1⟩ => ?_
  · split at q1
    · rename_i sr e1
      exact ⟨x, S1, sr, R1, r1, e1, fun J hJ => q1 J H1 R1 t1 hJ⟩
    · exact q1.elim
  · cases x with
    | tup ds =>
      cases e1
      obtain ⟨a, vs, rfl, sx, dx⟩ := dv_tup.mp r1
      cases ru
      obtain ⟨its, rv, p, hz⟩ := I1.tuple sx
      exact wpAny_pyIter_tuple (show s1.heap.IsTuple a its.toArray from p) (pi_one (tk := s1.toks) I1 _ (turn_tuple a _) ⟨_, Heap.get?_push_size _ rfl, rfl, rfl⟩ (q1 _ (itd_tup sx dx)))
    | fro ds =>
      cases e1
      obtain ⟨a, vs, rfl, sx, dx⟩ := dv_fro.mp r1
      cases ru
      obtain ⟨its, rv, p, hz⟩ := I1.list sx.l
      exact wpAny_pyIter_list p.isList (pi_one (tk := s1.toks) I1 _ (turn_list a _) ⟨_, Heap.get?_push_size _ rfl, rfl, rfl⟩ (q1 _ (itd_fro sx dx)))
    | lis ds =>
      cases e1
      obtain ⟨a, vs, rfl, sx, dx⟩ := dv_lis.mp r1
      cases ru
      obtain ⟨its, rv, p, hz⟩ := I1.list (SqF.l (.inl sx))
      exact wpAny_pyIter_list p.isList (pi_one (tk := s1.toks) I1 _ (turn_list a _) ⟨_, Heap.get?_push_size _ rfl, rfl, rfl⟩ (q1 _ (itd_fro (.inl sx) dx)))
    | str z =>
      cases e1
      rw [dv_str] at r1
      subst r1
      obtain ⟨t, rfl⟩ := ru
      cases ha : z.cps.all (· < 128)
      · exact wpAny_pyIter_wide ha (pi_one (tk := s1.toks) I1 _ (turn_str _ z t "str_iterator" (.inr rfl)) ⟨_, Heap.get?_push_size _ rfl, rfl, rfl⟩ (q1 _ itd_str))
      · exact wpAny_pyIter_ascii ha (pi_one (tk := s1.toks) I1 _ (turn_str _ z t "str_ascii_iterator" (.inl rfl)) ⟨_, Heap.get?_push_size _ rfl, rfl, rfl⟩ (q1 _ itd_str))
    | ref a =>
      rw [dv_ref] at r1
      subst r1
      cases ru
      simp only [srcD] at e1
      split at e1
      · rename_i ds e2
        cases e1
        obtain ⟨vs, h1, _⟩ := R1.sto a _ e2
        obtain ⟨its, rv, p, hz⟩ := I1.list (SqL.of h1)
        exact wpAny_pyIter_list p.isList (pi_one (tk := s1.toks) I1 _ (turn_list a _) ⟨_, Heap.get?_push_size _ rfl, rfl, rfl⟩ (q1 _ itd_list))
      · rename_i kvs ep e2
        cases e1
        obtain ⟨xs, d⟩ := dit_of I1 (R1.sto _ _ e2)
        obtain ⟨es, hm, hz, _⟩ := raw_ents I1 d.at_
        refine wpAny_pyIter_dict_raw d.sys hm (pi_one (tk := s1.toks) I1 _ (turn_keysD (n := kvs.length) _) ⟨_, Heap.get?_push_size _ rfl, rfl, ?_⟩ (q1 _ itd_keys))
        rw [ent_len d.ent, ← hz] <;> rfl
      · cases e1
    | _ => cases e1
end
end DL
set_option maxRecDepth 100000
namespace DL
open PySem L2
section
variable {X : Cx} {a : Expr} {ta : TDE} {pos : Pos}
def dNeg (ta : TDE) : TDE := fun δ S Q => ta δ S (isI fun i S1 => Q (.int (-i)) S1)
theorem dNeg_mono (h : MonoE ta) : MonoE (dNeg ta) := fun δ S Q Q' k q => h _ _ _ _ (isI_mono fun i S1 q1 => k _ _ q1) q
theorem de_neg (ha : DE X a ta) : DE X (.UnaryOp .USub a pos) (dNeg ta) := by
  refine ⟨dNeg_mono ha.mono, pe_weak (pe_un un_neg ha.pe) fun σ H Q ⟨δ, S, R, q⟩ => ?_⟩
  refine ha.sub R q fun d S1 v H1 q1 R1 r1 t1 => ?_
  cases d with
  | int i => rw [dv_int] at r1; exact ⟨i, r1, q1 _ H1 R1 (dv_int.mpr rfl) t1⟩
  | _ => exact q1.elim
end
theorem dt_mono {X : Cx} {e : Expr} {t : TDT} (h : DT X e t) : MonoT t := h.mono
theorem dYes_mono : MonoT dYes := fun δ S Q Q' k q => k _ _ q
def spV (n : Nat) (g : List D → Sto → Option (D × Sto)) : DSp := fun ds S Q _ => ds.length = n ∧ match g ds S with
  | some r => Q r.1 r.2
  | none => False
theorem spV_mono {n : Nat} {g : List D → Sto → Option (D × Sto)} : MonoSp (spV n g) := fun ds S Q Q' E E' h _ q => by
  unfold spV at *
  refine ⟨q.1, ?_⟩
  have q2 := q.2
  split at q2
  · exact h _ _ q2
  · exact q2.elim
theorem spV_len {n : Nat} {g : List D → Sto → Option (D × Sto)} : ∀ ds S Q E, spV n g ds S Q E → ds.length = n := fun _ _ _ _ h => h.1
theorem sup_sup {S : Sto} {a : Addr} {o u : DO} : sup (sup S a o) a u = sup S a u := by funext b; unfold sup; split <;> rfl
end DL
set_option maxRecDepth 100000
namespace DL
open PySem L2
section
variable {X : Cx} {tg iter elt kx vx : Expr} {ifs : List Expr} {wi : TDI} {p : Pat} {tt : TDT} {te tk tv : TDE} {scope : Scope} {own : List (Str × Nat)} {pos py spos : Pos} {i : Nat} {y : Str}
theorem de_lcx (hc : X.calm = true) (hN : X.N.Nodup) (hi : DI X tg iter wi) (ok : BlkOk X.N X.env.scope scope own) (hsl : ∀ i ∈ p.slots, i ∈ own.map (·.2))
    (hg : ∀ (s : Shared) (H : Hp) (C : Addr) (cl : List (Str × Addr)) (fp : List Addr), PPat (X.blk s H scope (compEnvC scope cl C X.env) fp) tg p) (ht : ∀ (s : Shared) (H : Hp) (C : Addr) (cl : List (Str × Addr)) (fp : List Addr), DTs (X.blk s H scope (compEnvC scope cl C X.env) fp) ifs tt)
    (he : ∀ (s : Shared) (H : Hp) (C : Addr) (cl : List (Str × Addr)) (fp : List Addr), DE (X.blk s H scope (compEnvC scope cl C X.env) fp) elt te) (hs : ∀ x, foldedSetIterable iter X.env x = pure x := by intro _; rfl) :
    DE X (.ListComp elt [⟨tg, iter, ifs, 0⟩] scope pos) (dLc wi p tt te (own.map (·.2))) :=
  de_lc hc hN hi ok hsl hg ht he (ht X.s_0 X.H_0 0 [] []).mono (he X.s_0 X.H_0 0 [] []).mono hs
theorem ds_setLcx (hc : X.calm = true) (hN : X.N.Nodup) (hy : X.N[i]? = some y) (hyl : X.env.scope.names.lookup y = some .local)
    (hsw : swapsWith (.ListComp elt [⟨tg, iter, ifs, 0⟩] scope pos) (some (.Name y py)) spos.line X.env = pure true) (hi : DI X tg iter wi) (ok : BlkOk X.N X.env.scope scope own) (hsl : ∀ i ∈ p.slots, i ∈ own.map (·.2))
    (hg : ∀ (s : Shared) (H : Hp) (C : Addr) (cl : List (Str × Addr)) (fp : List Addr), PPat (X.blk s H scope (compEnvC scope cl C X.env) fp) tg p) (ht : ∀ (s : Shared) (H : Hp) (C : Addr) (cl : List (Str × Addr)) (fp : List Addr), DTs (X.blk s H scope (compEnvC scope cl C X.env) fp) ifs tt)
    (he : ∀ (s : Shared) (H : Hp) (C : Addr) (cl : List (Str × Addr)) (fp : List Addr), DE (X.blk s H scope (compEnvC scope cl C X.env) fp) elt te) (hs : ∀ x, foldedSetIterable iter X.env x = pure x := by intro _; rfl) :
    DS X (.Assign [.Name y py] (.ListComp elt [⟨tg, iter, ifs, 0⟩] scope pos) spos) (sAsg (dLc wi p tt te (own.map (·.2))) (gN i)) :=
  ds_setLc hc hN hy hyl hsw hi ok hsl hg ht he (ht X.s_0 X.H_0 0 [] []).mono (he X.s_0 X.H_0 0 [] []).mono hs
theorem de_dcx (hu : X.A.units + 64 < cLine) (hc : X.calm = true) (hN : X.N.Nodup) (hi : DI X tg iter wi) (ok : BlkOk X.N X.env.scope scope own) (hsl : ∀ i ∈ p.slots, i ∈ own.map (·.2))
    (hg : ∀ (s : Shared) (H : Hp) (C : Addr) (cl : List (Str × Addr)) (fp : List Addr), PPat (X.blk s H scope (compEnvC scope cl C X.env) fp) tg p) (ht : ∀ (s : Shared) (H : Hp) (C : Addr) (cl : List (Str × Addr)) (fp : List Addr), DTs (X.blk s H scope (compEnvC scope cl C X.env) fp) ifs tt)
    (hk : ∀ (s : Shared) (H : Hp) (C : Addr) (cl : List (Str × Addr)) (fp : List Addr), DE (X.blk s H scope (compEnvC scope cl C X.env) fp) kx tk)
    (hv : ∀ (s : Shared) (H : Hp) (C : Addr) (cl : List (Str × Addr)) (fp : List Addr), DE (X.blk s H scope (compEnvC scope cl C X.env) fp) vx tv) (hs : ∀ x, foldedSetIterable iter X.env x = pure x := by intro _; rfl) :
    DE X (.DictComp kx vx [⟨tg, iter, ifs, 0⟩] scope pos) (dDc wi p tt tk tv (own.map (·.2))) :=
  de_dc hu hc hN hi ok hsl hg ht hk hv (ht X.s_0 X.H_0 0 [] []).mono (hk X.s_0 X.H_0 0 [] []).mono (hv X.s_0 X.H_0 0 [] []).mono hs
def blkB (N : List Str) (ns sn : List (Str × NameKind)) (own : List (Str × Nat)) : Bool :=
  (sn.all fun y => decide (sn.lookup y.1 = some y.2)) && ((own.all fun p => decide (N[p.2]? = some p.1)) && ((sn.all fun y => !decide (y.2 = .free) || (decide (ns.lookup y.1 = some .cell) || decide (ns.lookup y.1 = some .free))) &&
    (sn.all fun y => !(decide (y.2 = .local) || decide (y.2 = .cell)) || (decide (y.1 ∈ own.map (·.1)) || !decide (y.1 ∈ N)))))
theorem blk_ok {N : List Str} {sc scope : Scope} {own : List (Str × Nat)} (hk : scope.kind = .function) (h : blkB N sc.names scope.names own = true) : BlkOk N sc scope own := by
  unfold blkB at h
  simp only [Bool.and_eq_true, List.all_eq_true, Bool.or_eq_true, Bool.not_eq_true', decide_eq_true_eq, decide_eq_false_iff_not] at h
  obtain ⟨h1, h2, h3, h4⟩ := h
  refine ⟨hk, fun y hy => h1 y hy, fun p hp => h2 p hp, fun y hy e => ?_, fun y hy e => ?_⟩
  · rcases h3 y hy with z | z | z
    · exact absurd e z
    · exact .inl z
    · exact .inr z
  · rcases h4 y hy with z | z | z
    · exfalso
      rw [Bool.or_eq_false_iff, decide_eq_false_iff_not, decide_eq_false_iff_not] at z
      rcases e with e | e
      · exact z.1 e
      · exact z.2 e
    · exact .inl z
    · exact .inr z
end
end DL
set_option maxRecDepth 100000
namespace DL
open PySem L2
theorem sup_id {S : Sto} {a : Addr} {o : DO} (h : S a = some o) : sup S a o = S := by
  funext b
  unfold sup
  by_cases e : b = a
  · rw [if_pos e, e, h]
  · rw [if_neg e]
theorem dComp_all {ok : Sto → Prop} {p : Pat} {te : TDE} {δ0 : DEnv} {A : Addr} {Q : Sto → Prop} (G : Sto → Prop) (g : D → D) (hok : ∀ S, G S → ok S) (hG : ∀ S l, G S → G (sup S A (.lst l))) :
    ∀ (xs : List D) (acc : List D) (S : Sto), G S → S A = some (.lst acc) → acc.length + xs.length ≤ sizeLine → (∀ x ∈ xs, ∀ S, G S → ∃ δ1, bindP p x δ0 = some δ1 ∧ ∀ K : DK, K (g x) S → te δ1 S K) →
      Q (sup S A (.lst (acc ++ xs.map g))) → dComp ok p dYes te δ0 A Q xs S
  | [], acc, S, hS, e, _, _, q => by
    unfold dComp
    rw [List.map_nil, List.append_nil, sup_id e] at q
    exact ⟨hok S hS, q⟩
  | x :: xs, acc, S, hS, e, l, h, q => by
    unfold dComp
    refine ⟨hok S hS, ?_⟩
    obtain ⟨δ1, e1, h1⟩ := h x List.mem_cons_self S hS
    rw [e1]
    dsimp only [dYes]
    rw [if_pos rfl]
    refine h1 _ ?_
    rw [e]
    refine ⟨by simp only [List.length_cons] at l; omega, dComp_all G g hok hG xs (acc ++ [g x]) _ (hG _ _ hS) sup_same (by rw [List.length_append]; simp only [List.length_cons, List.length_nil] at l ⊢; omega) (fun y hy => h y (List.mem_cons_of_mem _ hy)) ?_⟩
    rw [sup_sup, List.append_assoc]
    exact q
theorem dLc_all {wi : TDI} {p : Pat} {te : TDE} {vs : List Nat} {δ : DEnv} {S : Sto} {Q : DK} (G : Sto → Prop) (g : D → D) (xs : List D) (src : Src) (S1 : Sto) (hwi : ∀ R : Src → Sto → Prop, R src S1 → wi δ S R) (hx : src.items = xs) (hok : ∀ S, G S → src.ok S) (h0 : ∀ A, S1 A = none → G (sup S1 A (.lst []))) (hG : ∀ A, S1 A = none → ∀ S l, G S → G (sup S A (.lst l)))
    (hl : xs.length ≤ sizeLine) (h : ∀ x ∈ xs, ∀ S, G S → ∃ δ1, bindP p x (wipeD δ vs) = some δ1 ∧ ∀ K : DK, K (g x) S → te δ1 S K) (q : ∀ A, S1 A = none → Q (.ref A) (sup S1 A (.lst (xs.map g)))) : dLc wi p dYes te vs δ S Q := by
  refine hwi _ fun A hA => ?_
  subst hx
  refine dComp_all G g hok (hG A hA) src.items [] _ (h0 A hA) sup_same (by simpa using hl) h ?_
  rw [sup_sup, List.nil_append]
  exact q A hA
theorem less_supn {S S1 : Sto} {p : Addr} {o : DO} (h : Less S S1) (n : S p = none) : Less S (sup S1 p o) := fun a u e => by
  by_cases z : a = p
  · subst z
    rw [n] at e
    cases e
  · rw [sup_ne z]
    exact h a u e
theorem boolsD_map {f : D → Bool} : ∀ xs : List D, boolsD (xs.map fun x => D.bl (f x)) = some (xs.map f)
  | [] => rfl
  | x :: xs => by rw [List.map_cons, boolsD, boolsD_map xs]; rfl
end DL
set_option maxRecDepth 100000
namespace DL
open PySem L2
theorem fun_of {K : PySem.W.Frag} {x qual : Str} {st : Stmt} {f : Addr} {fd : FuncData} (F : FunD K x qual (defArgs st) (defBody st) (defScope st) [] [] f fd) : Fun K x qual st f fd := by
  obtain ⟨oc, od, dV, kV, doc, pm, an, cdv, ct, osl, e, l, c, d, _⟩ := F.ex
  rcases d with ⟨_, rfl⟩ | ⟨h, _⟩
  · exact ⟨⟨oc, od, kV, doc, pm, an, cdv, ct, osl, e, l, c⟩, F.kp⟩
  · exact absurd rfl h
structure ErrC (K : PySem.W.Frag) (mg : Str → Option Value) (x : Str) (C : Addr) : Prop where
  q : PySem.W.excIn K C [.type "ValueError", .type "Exception", .type "BaseException", .type "object"] "ValueError.__new__" = true
  m : mg x = some (.ref C)
  k : PySem.W.keepIn K (.ref C) = true
  r : ∀ X : Cx, X.K = K → Raises X (.ref C)
theorem errC_of {K : PySem.W.Frag} {h : Heap} {mg : Str → Option Value} {x : Str} (X : K.In h) (G : h.Ns mainGlobals mg) (c1 : (He.Fa.glo x).ok K = true) (c2 : (He.Fa.exc x).ok K = true) : ErrC K mg x (He.ga K x) := by
  obtain ⟨h1, h2, h3, h4⟩ := He.exc_ok c2
  exact ⟨h1, He.glo_ok X G c1, h2, fun Y e => raises_own (by rw [e]; exact h3) (by rw [e]; exact h4)⟩
def spLaw (n : Nat) : DSp := fun ds S Q _ => ∃ ns : List Int, ds = [.fro (ns.map .int)] ∧ ns.length ≤ n ∧ ∀ S', Q (.bl true) S'
theorem spLaw_mono {n : Nat} : MonoSp (spLaw n) := fun ds S Q Q' E E' h _ ⟨ns, e, l, q⟩ => ⟨ns, e, l, fun S' => h _ _ (q S')⟩
theorem spLaw_len {n : Nat} : ∀ ds S Q E, spLaw n ds S Q E → ds.length = 1 := fun ds S Q E ⟨ns, e, _⟩ => by rw [e]; rfl
theorem dvs_ints {K : PySem.W.Frag} {H : Hp} : ∀ ns : List Int, Dvs K H (ns.map D.int) (ns.map V.int)
  | [] => Dvs.nil
  | n :: ns => Dvs.cons (dv_int.mpr rfl) (dvs_ints ns)
theorem law_sp {P : Program} {w : World} {K : PySem.W.Frag} {n : Nat} : ∀ (H : Hp) (a : Addr) (ns : List Int), ns.length ≤ n → Only H → SqL K H a (ns.map V.int) → upSp P w K (spLaw n) [.ref a] H (fun v _ => v = .bl true) fun _ _ _ => False := fun H a ns l hO hS => by
  refine ⟨[.fro (ns.map .int)], (fun _ => none), (fun a o (e : none = some o) => nomatch e), ?_, ns, rfl, l, fun S' v H' _ hv _ => dv_bl.mp hv⟩
  refine Dvs.cons (dv_fro.mpr ⟨a, _, rfl, ?_, dvs_ints ns⟩) Dvs.nil
  rcases hS with (h | ⟨o, h⟩) | h
  · rcases hO a with z | ⟨o, xs, z⟩
    · rw [h] at z; cases z
    · rw [h] at z; cases z
  · exact .inl ⟨o, h⟩
  · exact .inr (.inr h)
theorem fnOk_calm {P : Program} {w : World} {K : PySem.W.Frag} {mg : Str → Option Value} {base : Heap} {k : Nat} {f : Addr} {fd : FuncData} {ps : List Str} {sp : Sp} (F : FnOk P w K mg base (L2.CX P w) k f fd ps sp) :
    FnOk P w K mg base L2.CX0 k f fd ps (fun vs H Q _ => sp vs H Q fun _ _ _ => False) :=
  ⟨fun vs H Q E h => F.len vs H Q _ h, fun A outer s H args us vs Q E hr he hb hv h => codeAny_mono (F.run A outer s H args us vs Q _ hr he hb hv h) fun r s' hq => by
    cases r with
    | error e =>
      obtain ⟨_, _, _, _, _, _, _, _, _, _, _, _, z⟩ := hq
      exact z.elim
    | ok fl => cases fl <;> exact hq⟩
end DL
set_option maxRecDepth 100000
namespace DL
open PySem L2
section
variable {X : Cx}
def encD (d : D) : PyData := (pd d).getD .none
theorem pds_enc : ∀ {ds : List D} {ps : List PyData}, pds ds = some ps → ds.map encD = ps ∧ ∀ d ∈ ds, pd d = some (encD d)
  | [], ps, e => by
    unfold pds at e
    cases e
    exact ⟨rfl, fun _ h => by cases h⟩
  | d :: ds, ps, e => by
    unfold pds at e
    split at e
    · rename_i p1 ps1 e1 e2
      cases e
      obtain ⟨h1, h2⟩ := pds_enc e2
      have e3 : encD d = p1 := by unfold encD; rw [e1]; rfl
      refine ⟨by rw [List.map_cons, h1, e3], fun x hx => ?_⟩
      rcases List.mem_cons.mp hx with rfl | hx
      · rw [e1, e3]
      · exact h2 x hx
    · cases e
theorem each_dv {K : PySem.W.Frag} {H : Hp} : ∀ {ds : List D} {vs : List V} {us : List Value}, Dvs K H ds vs → Vals vs us → PySem.W.EachIs (fun u d => ∃ v, RelV v u ∧ Dv K H d v) us ds
  | [], vs, us, h, r => by
    rw [Dvs] at h; subst h
    cases r
    exact .nil
  | d :: ds, vs, us, h, r => by
    rw [Dvs] at h
    obtain ⟨v, vr, rfl, h1, h2⟩ := h
    cases r with
    | cons r1 r2 => exact .cons ⟨v, r1, h1⟩ (each_dv h2 r2)
theorem dv_each {K : PySem.W.Frag} {H : Hp} : ∀ {ds : List D} {us : List Value}, PySem.W.EachIs (fun u d => ∃ v, RelV v u ∧ Dv K H d v) us ds → ∃ vs, Vals vs us ∧ Dvs K H ds vs
  | [], _, h => by
    cases h
    exact ⟨[], .nil, Dvs.nil⟩
  | d :: ds, _, h => by
    cases h with
    | cons h1 h2 =>
      obtain ⟨v, r, q⟩ := h1
      obtain ⟨vs, r2, q2⟩ := dv_each h2
      exact ⟨v :: vs, .cons r r2, Dvs.cons q q2⟩
def rSorted : RDL := fun ds S Q => match ds with
  | [.ref a] => match S a with
    | some (.lst xs) => match pds xs with
      | some ps => xs.length ≤ sizeLine ∧ PySem.W.AllAlike ps ∧ PySem.W.Sortable ps ∧ (∀ p ∈ ps, p.depth ≤ 60) ∧ ∀ p, S p = none → Q (.ref p) (sup S p (.lst (xs.mergeSort (PySem.W.dataLe false encD))))
      | none => False
    | _ => False
  | _ => False
theorem dcall_sorted (hu : X.A.units + 64 < cLine) : DCall X (.builtin "sorted") rSorted := by
  refine ⟨fun xs S Q Q' h q => ?_, fun pins s σ H vs us Q I ru h => ?_⟩
  · unfold rSorted at *
    split at q
    · split at q
      · split at q
        · exact ⟨q.1, q.2.1, q.2.2.1, q.2.2.2.1, fun p hp => h _ _ (q.2.2.2.2 p hp)⟩
        · exact q.elim
      · exact q.elim
    · exact q.elim
  · obtain ⟨δ, S, σ', ds, R, rd, q⟩ := h
    unfold rSorted at q
    split at q
    · rename_i a
      obtain ⟨v, rfl, r⟩ := dvs1 rd
      rw [dv_ref] at r
      subst r
      obtain ⟨u, rfl, ra⟩ := Vals.one ru
      cases ra
      split at q
      · rename_i xs e1
        split at q
        · rename_i ps e2
          obtain ⟨q1, q2, q3, q4, q5⟩ := q
          obtain ⟨ws, h1, h2⟩ := R.sto _ _ e1
          obtain ⟨z, its, n, rv, hl, e⟩ := I.lstM h1
          obtain ⟨em, ep⟩ := pds_enc e2
          have each := each_dv h2 rv
          have er : PySem.W.EachIs (fun u b => ∃ as, Reads s.heap u (encD b) as) its xs := by
            have go : ∀ {bs : List D} {us : List Value}, (∀ d ∈ bs, pd d = some (encD d)) → PySem.W.EachIs (fun u d => ∃ v, RelV v u ∧ Dv X.K H d v) us bs → PySem.W.EachIs (fun u b => ∃ as, Reads s.heap u (encD b) as) us bs := by
              intro bs us hp hx
              induction hx with
              | nil => exact .nil
              | cons h1 h2 ih =>
                obtain ⟨v, r, dvv⟩ := h1
                exact .cons ((pd_dp _ _ _ dvv (hp _ List.mem_cons_self)).reads I _ _ _ r) (ih fun d hd => hp d (List.mem_cons_of_mem _ hd))
            exact go ep each
          refine PySem.W.sorted_data (vs := its) (bs := xs) (enc := encD) ⟨_, e, rfl, n, rfl⟩ each er (by rw [em]; exact q2) (by rw [em]; exact q3) q1 (fun b hb => ?_) fun out ho eo => ?_
          · have := q4 (encD b) (by rw [← em]; exact List.mem_map_of_mem hb)
            omega
          · obtain ⟨vs2, r2, d2⟩ := dv_each eo
            have hp : H (s.heap.objs.size + 1) = none := I.hok.fresh (Nat.le_succ _)
            obtain ⟨ep2, hat⟩ := PyProof.Rows.sortedAll_at s.heap its out.toArray
            have hz2 : vs2.length ≤ sizeLine := by
              rw [← d2.length, List.length_mergeSort]
              exact q1
            refine ⟨.ref (s.heap.objs.size + 1), upd H (s.heap.objs.size + 1) (.lst vs2), I.laid (t' := s.toks) (fun b u q => PyProof.Rows.sortedAll_old q) (Nat.le_succ _) ⟨hz2, out, ep2, r2, hat⟩, rfl, ?_⟩
            exact q5 _ (R.free hp) _ _ (R.new hp (ObjD.new_lst d2 hp)) (dv_ref.mpr rfl) (TupP.laid hp)
        · exact q.elim
      · exact q.elim
    · exact q.elim
end
end DL
set_option maxRecDepth 100000
namespace DL
open PySem L2
section
variable {X : Cx} {pos : Pos} {k v : Expr} {ks : List (Option Expr)} {vs : List Expr} {tk tv : TDE} {trs : List (TDE × TDE)}
def dPairs : List (TDE × TDE) → DEnv → Sto → (List (D × D) → Sto → Prop) → Prop
  | [], _, S, Q => Q [] S
  | (tk, tv) :: r, δ, S, Q => tk δ S fun x S1 => tv δ S1 fun y S2 => dPairs r δ S2 fun ps S3 => Q ((x, y) :: ps) S3
def MonoPs (trs : List (TDE × TDE)) : Prop := ∀ t ∈ trs, MonoE t.1 ∧ MonoE t.2
theorem dPairs_mono : ∀ {trs : List (TDE × TDE)}, MonoPs trs → ∀ δ S (Q Q' : List (D × D) → Sto → Prop), (∀ ps S', Q ps S' → Q' ps S') → dPairs trs δ S Q → dPairs trs δ S Q'
  | [], _, _, _, _, _, k, q => k _ _ q
  | (tk, tv) :: r, m, δ, S, Q, Q', k, q => (m _ List.mem_cons_self).1 _ _ _ _ (fun x S1 q1 => (m _ List.mem_cons_self).2 _ _ _ _ (fun y S2 q2 => dPairs_mono (fun t ht => m t (List.mem_cons_of_mem _ ht)) _ _ _ _ (fun ps S3 q3 => k _ _ q3) q2) q1) q
structure DPPs (X : Cx) (pos : Pos) (keys : List (Option Expr)) (values : List Expr) (trs : List (TDE × TDE)) : Prop where
  mono : MonoPs trs
  es : ∀ t ∈ trs, ∃ a b, DE X a t.1 ∧ DE X b t.2
  pp : PPs X pos keys values (trs.map fun t => (upE X t.1, upE X t.2))
theorem dpp_nil : DPPs X pos [] [] [] := ⟨(fun _ h => nomatch h), (fun _ h => nomatch h), pps_nil⟩
theorem dpp_cons (hk : DE X k tk) (hv : DE X v tv) (hr : DPPs X pos ks vs trs) : DPPs X pos (some k :: ks) (v :: vs) ((tk, tv) :: trs) := by
  refine ⟨fun t ht => ?_, fun t ht => ?_, pps_cons hk.pe hv.pe hr.pp⟩
  · rcases List.mem_cons.mp ht with rfl | ht
    · exact ⟨hk.mono, hv.mono⟩
    · exact hr.mono t ht
  · rcases List.mem_cons.mp ht with rfl | ht
    · exact ⟨k, v, hk, hv⟩
    · exact hr.es t ht
def DvP (K : PySem.W.Frag) (H : Hp) (p : D × D) (q : V × V) : Prop := Dv K H p.1 q.1 ∧ Dv K H p.2 q.2
theorem pairs_lift : ∀ {trs : List (TDE × TDE)}, (∀ t ∈ trs, ∃ a b, DE X a t.1 ∧ DE X b t.2) → ∀ {δ : DEnv} {S : Sto} {σ : St} {H : Hp} {Q1 : List (D × D) → Sto → Prop} {Q : List (V × V) → Hp → Prop}, Rel X δ S σ H → dPairs trs δ S Q1 →
    (∀ ps S' qs H', Q1 ps S' → Rel X δ S' σ H' → Paired (DvP X.K H') ps qs → TupP X.K H H' → Q qs H') → tPairs (trs.map fun t => (upE X t.1, upE X t.2)) σ H Q
  | [], _, δ, S, σ, H, Q1, Q, R, q, h => h _ _ _ _ q R .nil .refl
  | (tk, tv) :: r, es, δ, S, σ, H, Q1, Q, R, q, h => by
    obtain ⟨a, b, ha, hb⟩ := es _ List.mem_cons_self
    refine ha.sub R q fun x S1 u H1 q1 R1 r1 t1 => ?_
    refine hb.sub R1 q1 fun y S2 w H2 q2 R2 r2 t2 => ?_
    refine pairs_lift (fun t ht => es t (List.mem_cons_of_mem _ ht)) R2 q2 fun ps S3 qs H3 q3 R3 r3 t3 => ?_
    exact h _ _ _ _ q3 R3 (.cons ⟨(r1.mono t2).mono t3, r2.mono t3⟩ r3) (t1.trans (t2.trans t3))
def keysD : List (D × D) → Option (List (Key × D))
  | [] => some []
  | p :: ps => match keyD p.1, keysD ps with
    | some k, some r => some ((k, p.2) :: r)
    | _, _ => none
theorem keysD_ok {H : Hp} : ∀ {ps : List (D × D)} {qs : List (V × V)} {kvs : List (Key × D)}, Paired (DvP X.K H) ps qs → keysD ps = some kvs → ∃ kvs' : List (Key × V), qs = kvs'.map (fun kv => (kV kv.1, kv.2)) ∧ Paired (Fld X.K H) kvs kvs'
  | [], qs, kvs, h, e => by
    cases h
    cases e
    exact ⟨[], rfl, .nil⟩
  | p :: ps, qs, kvs, h, e => by
    cases h with
    | @cons _ q _ qs h1 h2 =>
      unfold keysD at e
      split at e
      · rename_i k r e1 e2
        cases e
        obtain ⟨kvs', e3, h3⟩ := keysD_ok h2 e2
        refine ⟨(k, q.2) :: kvs', ?_, .cons ⟨rfl, h1.2⟩ h3⟩
        rw [List.map_cons, ← e3, ← keyD_dv e1 h1.1]
      · cases e
def mergeD (kvs more : List (Key × D)) : List (Key × D) := more.foldl (fun acc kv => put acc kv.1 kv.2) kvs
theorem fld_merge {H : Hp} : ∀ {more : List (Key × D)} {more' : List (Key × V)} {kvs : List (Key × D)} {kvs' : List (Key × V)}, Paired (Fld X.K H) more more' → Paired (Fld X.K H) kvs kvs' → Paired (Fld X.K H) (mergeD kvs more) (mergeK kvs' more')
  | [], _, kvs, kvs', h, q => by cases h; exact q
  | p :: more, _, kvs, kvs', h, q => by
    cases h with
    | @cons _ p' _ more' h1 h2 =>
      obtain ⟨e, h1⟩ := h1
      show Paired _ (mergeD (put kvs p.1 p.2) more) (mergeK (putK kvs' p'.1 p'.2) more')
      rw [← e]
      exact fld_merge h2 (fld_put h1 q)
def dDisp (trs : List (TDE × TDE)) : TDE := fun δ S Q => ∀ p, S p = none → dPairs trs δ (sup S p (.dik [])) fun ps S2 => S2 p = some (.dik []) ∧ match keysD ps with
  | some kvs => kvs.length ≤ 15 ∧ Q (.ref p) (sup S2 p (.dik (mergeD [] kvs)))
  | none => False
theorem de_disp {keys : List (Option Expr)} {values : List Expr} (h : DPPs X pos keys values trs) (hall : keys.all (·.isSome) = true := by rfl) (hl : keys.length = values.length := by rfl) (h0 : keys ≠ [] := by simp) (h15 : keys.length ≤ 15 := by decide) : DE X (.Dict keys values pos) (dDisp trs) := by
  refine ⟨fun δ S Q Q' k q p hp => dPairs_mono h.mono _ _ _ _ (fun ps S2 q2 => ⟨q2.1, ?_⟩) (q p hp), pe_weak (pe_disp h.pp hall hl h0 h15) fun σ H Q ⟨δ, S, R, q⟩ p hp => ?_⟩
  · have q3 := q2.2
    split at q3
    · exact ⟨q3.1, k _ _ q3.2⟩
    · exact q3.elim
  · have R1 : Rel X δ (sup S p (.dik [])) σ (upd H p (.dK [])) := R.new (o := .dik []) hp ⟨[], upd_same, .nil⟩
    refine pairs_lift h.es R1 (q p (R.free hp)) fun ps S2 qs H2 q2 R2 r2 t2 => ?_
    obtain ⟨e1, q3⟩ := q2
    split at q3
    · rename_i kvs e2
      obtain ⟨vs0, g1, g2⟩ := R2.sto p _ e1
      cases g2
      obtain ⟨kvs', e3, f3⟩ := keysD_ok r2 e2
      have tt := R2.tup_change (ho := .dK (mergeK [] kvs')) e1
      exact ⟨g1, kvs', e3, by rw [← f3.length]; exact q3.1, q3.2 _ _ (R2.change (o := .dik (mergeD [] kvs)) e1 ⟨_, upd_same, Paired.mapP (fld_merge f3 .nil) fun _ _ z => z.mono tt⟩) (dv_ref.mpr rfl) ((TupP.laid hp).trans (t2.trans tt))⟩
    · exact q3.elim
end
end DL
set_option maxRecDepth 100000
namespace DL
open PySem L2
def swp (cs : List Addr) (H H' : Hp) : Hp := fun b => if b ∈ cs then H b else H' b
theorem swp_in {cs : List Addr} {H H' : Hp} {b : Addr} (h : b ∈ cs) : swp cs H H' b = H b := if_pos h
theorem swp_out {cs : List Addr} {H H' : Hp} {b : Addr} (h : b ∉ cs) : swp cs H H' b = H' b := if_neg h
structure Sw (cs fs : List Addr) (base : Heap) (H G : Hp) (h : Heap) : Prop where
  off : ∀ b, b ∉ cs → G b = H b
  on : ∀ b ∈ cs, ∃ o, h.get? b = some o ∧ (H b = none ∨ H b = some (Kn o)) ∧ (G b = none ∨ G b = some (Kn o))
  nf : ∀ b ∈ cs, b ∉ fs
  nb : ∀ b ∈ cs, ∀ o, base.get? b = some o → G b = none
section
variable {P : Program} {w : World} {K : PySem.W.Frag} {mg : Str → Option Value} {base : Heap} {A : Around} {outer : List Env} {s s' : Shared} {H G G' : Hp} {cs fs : List Addr} {h h' : Heap}
theorem kn_ok {a : Addr} {o : Obj} (e : h.get? a = some o) : ObjOk P w H h a (Kn o) := ⟨e, trivial, ⟨o, e⟩, fun _ _ _ _ => trivial⟩
theorem kn_obj {a : Addr} {o : Obj} (x : ObjOk P w H h a (Kn o)) : h.get? a = some o := x.1
theorem kn_or {o : Obj} {u : HO} {x : Option HO} (h : x = none ∨ x = some (Kn o)) (e : x = some u) : u = Kn o := by
  rcases h with h | h
  · rw [h] at e; cases e
  · rw [h] at e; cases e; rfl
theorem hok_off (ok : HOk P w H h) (off : ∀ b, b ∉ cs → G b = H b) (on : ∀ b ∈ cs, ∃ o, h'.get? b = some o ∧ (G b = none ∨ G b = some (Kn o))) (onH : ∀ b ∈ cs, H b = none ∨ ∃ o, H b = some (Kn o)) (k : ∀ b o, h.get? b = some o → h'.get? b = some o) : HOk P w G h' := fun b u e => by
  have ne : ∀ c v, H c = some v → (∀ o, v ≠ Kn o) → c ∉ cs := fun c v e n hc => by
    rcases onH c hc with z | ⟨o, z⟩
    · rw [z] at e; cases e
    · rw [z] at e; exact n o (Option.some.inj e).symm
  by_cases hb : b ∈ cs
  · obtain ⟨o, e1, e2⟩ := on b hb
    obtain rfl := kn_or e2 e
    exact kn_ok e1
  · rw [off b hb] at e
    refine (ok b u e).stay (fun c v _ q => k c v q) (fun c q => ?_) fun c xs q => ?_
    · rw [off c (ne c _ q fun o z => nomatch z)]; exact q
    · rw [off c (ne c _ q fun o z => nomatch z)]; exact q
theorem tupP_off (off : ∀ b, b ∉ cs → G b = H b) (onH : ∀ b ∈ cs, H b = none ∨ ∃ o, H b = some (Kn o)) : TupP K H G := by
  have ne : ∀ c v, H c = some v → (∀ o, v ≠ Kn o) → c ∉ cs := fun c v e n hc => by
    rcases onH c hc with z | ⟨o, z⟩
    · rw [z] at e; cases e
    · rw [z] at e; exact n o (Option.some.inj e).symm
  exact .of (fun a xs q => by rw [off a (ne a _ q fun o z => nomatch z)]; exact q) fun a o u q nx => by rw [off a (ne a _ q fun o' z => by cases z; exact nx _ rfl)]; exact q
theorem Sw.tup (sw : Sw cs fs base H G h) : TupP K H G := tupP_off sw.off fun b hb => let ⟨o, _, z, _⟩ := sw.on b hb; z.imp id fun z => ⟨o, z⟩
theorem Sw.env0 (sw : Sw cs (frs outer) base H G s.heap) (e : Env0 P w K mg base A outer s H) : Env0 P w K mg base A outer s G := by
  refine ⟨e.frames, e.mod, fun b o q => ⟨(e.bs b o q).1, ?_⟩, e.bsz, e.funs, fun b hb => ?_, ?_, e.bare⟩
  · by_cases hb : b ∈ cs
    · exact sw.nb b hb o q
    · rw [sw.off b hb]; exact (e.bs b o q).2
  · rw [sw.off b fun z => sw.nf b z hb]; exact e.frf b hb
  · exact hok_off e.hok sw.off (fun b hb => let ⟨o, e1, _, e2⟩ := sw.on b hb; ⟨o, e1, e2⟩) (fun b hb => let ⟨o, _, z, _⟩ := sw.on b hb; z.imp id fun z => ⟨o, z⟩) fun _ _ q => q
structure Bh (cs : List Addr) (H G G' : Hp) (h : Heap) : Prop where
  on : ∀ b ∈ cs, ∃ o, h.get? b = some o ∧ (H b = none ∨ H b = some (Kn o)) ∧ ((G b = none ∧ G' b = none) ∨ (G b = some (Kn o) ∧ G' b = some (Kn o)))
theorem Bh.tup (x : Bh cs H G G' h) : TupP K G' (swp cs H G') := tupP_off (cs := cs) (fun b hb => swp_out hb) fun b hb => let ⟨o, _, _, z⟩ := x.on b hb; z.imp And.right fun z => ⟨o, z.2⟩
theorem Bh.hok (x : Bh cs H G G' h) (ok : HOk P w G' h) : HOk P w (swp cs H G') h :=
  hok_off (cs := cs) ok (fun b hb => swp_out hb) (fun b hb => let ⟨o, e, z, _⟩ := x.on b hb; ⟨o, e, by rw [swp_in hb]; exact z⟩) (fun b hb => let ⟨o, _, _, z⟩ := x.on b hb; z.imp And.right fun z => ⟨o, z.2⟩) fun _ _ q => q
theorem Sw.un (sw : Sw cs fs base H G h) (u : Un fs [] G G' h h') (ok : HOk P w G' h') : Bh cs H G G' h' ∧ Un fs [] H (swp cs H G') h h' := by
  have b0 : Bh cs H G G' h' := ⟨fun b hb => by
    obtain ⟨o, e, z1, z2⟩ := sw.on b hb
    rcases z2 with z2 | z2
    · exact ⟨o, u.keep b o e z2 (sw.nf b hb) (by simp), z1, .inl ⟨z2, u.free b o e z2 (by simp)⟩⟩
    · have q := u.frzs b _ _ z2
      exact ⟨o, kn_obj (ok b _ q), z1, .inr ⟨z2, q⟩⟩⟩
  have ne : ∀ c v, H c = some v → (∀ o, v ≠ Kn o) → c ∉ cs := fun c v e n hc => by
    obtain ⟨o, _, z, _⟩ := sw.on c hc
    exact n o (kn_or z e)
  refine ⟨b0, ⟨fun b o e n hb hx => ?_, fun b o e n hb hx => ?_, fun b o e n hx => ?_, fun b o e hx => u.there b o e hx, fun b xs e => ?_, fun b o x e => ?_, fun b ps e => ?_⟩⟩
  · by_cases hc : b ∈ cs
    · obtain ⟨o', e1, _⟩ := sw.on b hc
      obtain ⟨o2, e2, z1, z2⟩ := b0.on b hc
      rcases z2 with z2 | z2
      · exact u.keep b o e z2.1 hb hx
      · obtain ⟨o3, e3, _, z3⟩ := sw.on b hc
        rw [e] at e3; cases e3
        have := kn_or z3 z2.1
        cases this
        exact e2
    · exact u.keep b o e (by rw [sw.off b hc]; exact n) hb hx
  · exact u.slot b o e (by rw [sw.off b fun z => sw.nf b z hb]; exact n) hb hx
  · by_cases hc : b ∈ cs
    · rw [swp_in hc]; exact n
    · rw [swp_out hc]; exact u.free b o e (by rw [sw.off b hc]; exact n) hx
  · have hc := ne b _ e fun o z => nomatch z
    rw [swp_out hc]; exact u.tups b xs (by rw [sw.off b hc]; exact e)
  · by_cases hc : b ∈ cs
    · rw [swp_in hc]; exact e
    · rw [swp_out hc]; exact u.frzs b o x (by rw [sw.off b hc]; exact e)
  · have hc := ne b _ e fun o z => nomatch z
    rw [swp_out hc]; exact u.tbls b ps (by rw [sw.off b hc]; exact e)
theorem Sw.ce (sw : Sw cs (frs outer) base H G s.heap) {Q Q' : VK} {u : Value} (x : CE outer P w G s Q' u s') (hq : ∀ v G', Bh cs H G G' s'.heap → Q' v G' → Q v (swp cs H G')) : CE outer P w H s Q u s' := by
  obtain ⟨v, G', e1, e2, e3, e4, e5, e6⟩ := x
  obtain ⟨b0, u0⟩ := sw.un e3 e4
  exact ⟨v, _, e1, e2, u0, b0.hok e4, e5, hq v G' b0 e6⟩
theorem Sw.cx (sw : Sw cs (frs outer) base H G s.heap) {E E' : XK} {u : Value} (x : L2.CX P w outer G s E' u s') (hq : ∀ c d G' B, Bh cs H G G' B → E' c d G' → E c d (swp cs H G')) : L2.CX P w outer H s E u s' := by
  obtain ⟨a, B, G', cls, d, e0, fl, ok, ub, na, os, ag, w⟩ := x
  have b0 : Bh cs H G G' B := ⟨fun b hb => by
    obtain ⟨o, e, z1, z2⟩ := sw.on b hb
    rcases z2 with z2 | z2
    · exact ⟨o, ub.keep b o e z2 (sw.nf b hb), z1, .inl ⟨z2, ub.free b o e z2⟩⟩
    · have q := ub.frzs b _ _ z2
      exact ⟨o, kn_obj (ok b _ q), z1, .inr ⟨z2, q⟩⟩⟩
  have ne : ∀ c v, H c = some v → (∀ o, v ≠ Kn o) → c ∉ cs := fun c v e n hc => by
    obtain ⟨o, _, z, _⟩ := sw.on c hc
    exact n o (kn_or z e)
  have ac : a ∉ cs := fun z => by
    obtain ⟨o, e, _⟩ := b0.on a z
    rw [fl.2.1] at e; cases e
  refine ⟨a, B, swp cs H G', cls, d, e0, fl, b0.hok ok, ⟨fun b o e n hb => ?_, ub.slot, fun b o e n => ?_, ub.there, fun b xs e => ?_, fun b o x e => ?_, fun b ps e => ?_⟩, by rw [swp_out ac]; exact na, os, ag, hq _ _ _ _ b0 w⟩
  · by_cases hc : b ∈ cs
    · obtain ⟨o', e1, _⟩ := sw.on b hc
      obtain ⟨o2, e2, z1, z2⟩ := b0.on b hc
      rcases z2 with z2 | z2
      · exact ub.keep b o e z2.1 hb
      · obtain ⟨o3, e3, _, z3⟩ := sw.on b hc
        rw [e] at e3; cases e3
        have := kn_or z3 z2.1
        cases this
        exact e2
    · exact ub.keep b o e (by rw [sw.off b hc]; exact n) hb
  · by_cases hc : b ∈ cs
    · rw [swp_in hc]; exact n
    · rw [swp_out hc]; exact ub.free b o e (by rw [sw.off b hc]; exact n)
  · have hc := ne b _ e fun o z => nomatch z
    rw [swp_out hc]; exact ub.tups b xs (by rw [sw.off b hc]; exact e)
  · by_cases hc : b ∈ cs
    · rw [swp_in hc]; exact e
    · rw [swp_out hc]; exact ub.frzs b o x (by rw [sw.off b hc]; exact e)
  · have hc := ne b _ e fun o z => nomatch z
    rw [swp_out hc]; exact ub.tbls b ps (by rw [sw.off b hc]; exact e)
theorem RelK.swap {S S' : Sto} (r : RelK P w K S' G') (t : TupP K G' H) (h : ∀ a o, S a = some o → (S' a = some o ∧ H a = G' a) ∨ ObjD P w K H a o) : RelK P w K S H := fun a o e => by
  rcases h a o e with ⟨q, z⟩ | q
  · exact (r a o q).keep t z
  · exact q
end
end DL
set_option maxRecDepth 100000
namespace DL
open PySem L2
abbrev FnB.fd (F : FnB) (pm ctv : Value) : FuncData := { PySem.W.kla_fn "<lambda>" F.l.qual F.l.params F.l.body F.l.scope F.clo pm (.ref F.code) ctv with defaults := match F.dfl with | none => .none | some t => .ref t }
structure LamS (L : LamD) (ps fv : List Str) : Prop where
  kind : L.scope.kind = .function
  co : L.scope.isCoroutine = false
  gen : L.scope.isGenerator = false
  nocell : ∀ y ∈ L.scope.names, y.2 ≠ .cell
  par : ∀ p ∈ ps, L.scope.names.lookup p = some .local
  loc : ∀ y ∈ L.scope.names, y.2 = .local → y.1 ∈ ps
  free : ∀ y ∈ fv, L.scope.names.lookup y = some .free
  one : ps.length ≤ 1
  len : ps.length = L.dv.length
  nd : (ps ++ fv).Nodup
  bind : ∀ (F : FnB) (pm ctv : Value), F.l = L → (F.dfl = none → L.dv = [] → bindArgs (F.fd pm ctv) ⟨[], []⟩ = pure []) ∧
    ∀ t, F.dfl = some t → ∀ its : List Value, its.length = L.dv.length → ∃ k, bindArgs (F.fd pm ctv) ⟨[], []⟩ = seqItems? (.ref t) >>= k ∧ k (some its.toArray) = pure (ps.zip its)
abbrev lamEnvD (L : LamD) (clo : List (Str × Addr)) (l f c' : Addr) : Env := PySem.W.envX L.qual L.scope l f (.ref c') clo
def lamCxD (P : Program) (w : World) (K : PySem.W.Frag) (mg : Str → Option Value) (base : Heap) (L : LamD) (N : List Str) (clo : List (Str × Addr)) (f c' : Addr) (A : Around) (outer : List Env) (s : Shared) (H : Hp) (E : XK) : Cx where
  prog := P
  w := w
  K := K
  mg := mg
  base := base
  A := A.deeper (lamEnvD L clo s.heap.objs.size f c')
  N := N
  s_0 := s
  H_0 := H
  env := lamEnvD L clo s.heap.objs.size f c'
  outer := outer
  stack := lamEnvD L clo s.heap.objs.size f c' :: outer
  ex := []
  fn := fun _ => false
  calm := true
  pn := []
  xe := fun e s' => wpAny (model P w) (A.deeper (lamEnvD L clo s.heap.objs.size f c')) (leaving (lamEnvD L clo s.heap.objs.size f c') e) (fun _ s'' => L2.CX P w outer H s E e s'') (fun e' s'' => L2.CX P w outer H s E e' s'') s'
structure FnL (P : Program) (w : World) (K : PySem.W.Frag) (mg : Str → Option Value) (base : Heap) (k : Nat) (L : LamD) (ps fv : List Str) (sp : DSp) : Prop where
  mono : MonoSp sp
  st : LamS L ps fv
  len : ∀ ds S Q E, sp ds S Q E → ds.length = (ps ++ fv).length
  run : ∀ (clo : List (Str × Addr)) (f c' : Addr) (A : Around) (outer : List Env) (s : Shared) (H : Hp) (E : XK) (vs : List V) (Q : VK), Room k (A.deeper (lamEnvD L clo s.heap.objs.size f c')) → upSp P w K sp vs H Q E →
    ∃ t, PE (lamCxD P w K mg base L (ps ++ fv) clo f c' A outer s H E) L.body t ∧ t (L2.start (ps ++ fv) vs) H Q
section
variable {P : Program} {w : World} {K : PySem.W.Frag} {mg : Str → Option Value} {base : Heap} {A : Around} {outer : List Env} {s s1 : Shared} {H : Hp} {E : XK} {L : LamD} {ps fv : List Str} {clo : List (Str × Addr)} {f c' : Addr} {k : Nat}
theorem FnL.up {sp : DSp} {j : Nat} (F : FnL P w K mg base j L ps fv sp) (h : j ≤ k) : FnL P w K mg base k L ps fv sp := ⟨F.mono, F.st, F.len, fun clo f c' A outer s H E vs Q hr q => F.run clo f c' A outer s H E vs Q (hr.mono h) q⟩
theorem get_start {N : List Str} {vs : List V} (hl : vs.length = N.length) {i : Nat} {v : V} (e : (L2.start N vs)[i]? = some (some v)) : vs[i]? = some v := by
  unfold L2.start at e
  rw [hl, Nat.sub_self, List.replicate_zero, List.append_nil, List.getElem?_map] at e
  cases q : vs[i]? with
  | none => rw [q] at e; cases e
  | some a => rw [q] at e; cases e; rfl
theorem lam_start {vs : List V} {its : List Value} {h₁ : Heap} {tk : Nat} (St : LamS L ps fv) (e0 : Env0 P w K mg base A outer s1 H) (hd : A.handled = none)
    (inj : ∀ x y c, clo.lookup x = some c → clo.lookup y = some c → x = y) (has : ∀ y ∈ L.scope.names, y.2 = .free → ∃ c, clo.lookup y.1 = some c)
    (cells : ∀ y c, clo.lookup y = some c → H c = none ∧ ∃ v, s1.heap.IsCell c v)
    (hl : vs.length = (ps ++ fv).length) (il : its.length = ps.length)
    (hp : ∀ (i : Nat) (v : V) (u : Value), i < ps.length → vs[i]? = some v → its[i]? = some u → RelV v u)
    (hc : ∀ (i : Nat) (v : V) (y : Str), vs[ps.length + i]? = some v → fv[i]? = some y → ∃ c u, clo.lookup y = some c ∧ s1.heap.IsCell c (some u) ∧ RelV v u)
    (hns : h₁.Ns s1.heap.objs.size fun y => (ps.zip its).reverse.lookup y) (kp : ∀ b o, s1.heap.get? b = some o → h₁.get? b = some o) :
    Inv (lamCxD P w K mg base L (ps ++ fv) clo f c' A outer s1 H E) [] (L2.start (ps ++ fv) vs) H { s1 with heap := h₁, toks := tk } := by
  have noA : ∀ b : Addr, b ∉ (lamCxD P w K mg base L (ps ++ fv) clo f c' A outer s1 H E).ex := fun b z => absurd (show b ∈ ([] : List Addr) from z) (by simp)
  have cellK : ∀ {c : Addr} {v : Option Value}, s1.heap.IsCell c v → h₁.IsCell c v := fun {c v} ⟨o, ho, hd⟩ => ⟨o, kp _ _ ho, hd⟩
  refine ⟨⟨e0.mod, St.kind, rfl, rfl, Nat.le_refl _, inj, fun y hy => ?_, fun y c z _ => ?_, fun _ => hd, Around.frames_deeper e0.frames, .inr ⟨rfl, rfl⟩, fun b z => absurd z (noA b), e0.bs, e0.bsz, fun b _ _ => noA b, fun b z => absurd z (noA b), e0.funs, e0.frf⟩,
    rfl, e0.bare, Un.kept kp, ⟨_, hns, fun i x v e1 e2 e3 => ?_⟩, fun y c e => ?_, e0.hok.fresh (Nat.le_refl _), fun y c e => (cells y c e).1, fun q hq => absurd (show q ∈ ([] : List (Addr × Obj)) ++ [] from hq) (by simp), e0.hok.kept kp, ?_⟩
  · have hy : L.scope.names.lookup y = some .cell ∨ L.scope.names.lookup y = some .free := hy
    rcases hy with hy | hy
    · exact absurd rfl (St.nocell _ (PySem.mem_of_lookup hy))
    · exact has _ (PySem.mem_of_lookup hy) rfl
  · have z : false = true := z
    cases z
  · have e1 : (ps ++ fv)[i]? = some x := e1
    have ev := get_start hl e2
    by_cases hi : i < ps.length
    · rw [List.getElem?_append_left hi] at e1
      have hlt : i < its.length := by rw [il]; exact hi
      refine ⟨its[i], hp i v _ hi ev (List.getElem?_eq_getElem hlt), .inl ⟨St.par x (List.mem_of_getElem? e1), ?_⟩⟩
      have h1 := St.one
      match hps : ps, hit : its with
      | [a], [b] =>
        obtain rfl : i = 0 := by simp at hi; omega
        obtain rfl : a = x := by simpa using e1
        simp
      | [], _ => simp at hi
      | [a], [] => simp at il
      | [a], b :: c :: d => simp at il
      | a :: b :: c, _ => simp at h1
    · rw [List.getElem?_append_right (by omega)] at e1
      obtain ⟨c, u, h1, h2, h3⟩ := hc (i - ps.length) v x (by rw [Nat.add_sub_cancel' (by omega)]; exact ev) e1
      exact ⟨u, h3, .inr ⟨.inr (St.free x (List.mem_of_getElem? e1)), c, h1, cellK h2⟩⟩
  · obtain ⟨_, v, z⟩ := cells y c e
    exact ⟨v, cellK z⟩
  · show (L2.start (ps ++ fv) vs).length = (ps ++ fv).length
    unfold L2.start
    rw [List.length_append, List.length_map, List.length_replicate, hl]
    omega
theorem lam_ok {sp : DSp} (St : LamS L ps fv) (ms : MonoSp sp) (len : ∀ ds S Q E, sp ds S Q E → ds.length = (ps ++ fv).length)
    (hbody : ∀ (X : Cx) (clo : List (Str × Addr)) (f c' : Addr) (A : Around) (outer : List Env) (s : Shared) (H : Hp) (E : XK) (wx : DX), X = lamCxD P w K mg base L (ps ++ fv) clo f c' A outer s H E → Room k X.A → TakesD X (fun c _ S => dnX wx c S) →
      ∃ t, DE X L.body t ∧ ∀ ds S Q, sp ds S Q wx → t (startD (ps ++ fv) ds) S (dn Q)) : FnL P w K mg base k L ps fv sp := by
  refine ⟨ms, St, len, fun clo f c' A outer s H E vs Q hr ⟨ds, S, RK, r, h⟩ => ?_⟩
  have tk : TakesD (lamCxD P w K mg base L (ps ++ fv) clo f c' A outer s H E) (fun c _ S' => dnX (fun c S' => ∀ H', RelK P w K S' H' → TupP K H H' → E c.1 c.2 H') c S') :=
    ⟨takes_imp (takes_of (E := E) rfl rfl rfl rfl) fun c d σ H' pins s' I ⟨δ, S', R', S2, l, z⟩ => z H' (fun a o e => R'.relK a o (l a o e)) (tupP_entry I)⟩
  obtain ⟨t, h1, h2⟩ := hbody _ clo f c' A outer s H E _ rfl hr tk
  obtain ⟨l1, l2⟩ := start_rel (N := ps ++ fv) r
  have h3 := h2 ds S (fun d S' => ∀ v H', RelK P w K S' H' → Dv K H' d v → TupP K H H' → Q v H') h
  refine ⟨_, h1.pe, startD (ps ++ fv) ds, S, ⟨l1, l2, RK⟩, ?_⟩
  exact h1.mono _ _ _ _ (fun d S' ⟨S2, l, q⟩ v H' R' dv t' => q v H' (fun a o e => R'.relK a o (l a o e)) dv t') h3
end
end DL
set_option maxRecDepth 100000
namespace DL
open PySem L2
def capsD (S : Sto) (clo : List (Str × Addr)) : List Str → Option (List D)
  | [] => some []
  | y :: r => match clo.lookup y with
    | some c => match S c with
      | some (.cell d) => (capsD S clo r).map (d :: ·)
      | _ => none
    | none => none
def hidS (cs : List Addr) (S : Sto) : Sto := fun a => if a ∈ cs then none else S a
def bckS (cs : List Addr) (S S' : Sto) : Sto := fun a => if a ∈ cs then S a else S' a
def dCallF (P : Program) (w : World) (K : PySem.W.Frag) (mg : Str → Option Value) (base : Heap) (k i : Nat) (wx : WD) : TDE := fun δ S Q => ∃ f F ps fv sp ds, δ[i]? = some (some (.ref f)) ∧ S f = some (.fn F) ∧ S F.code = some (.code F.l.qual) ∧
  FnL P w K mg base k F.l ps fv sp ∧ capsD S F.clo fv = some ds ∧ (∀ c ∈ F.clo.map (·.2), ∃ d, S c = some (.cell d)) ∧
  sp (F.l.dv.map .int ++ ds) (hidS (F.clo.map (·.2)) S) (fun d S' => (∀ c ∈ F.clo.map (·.2), S' c = none) → Q d (bckS (F.clo.map (·.2)) S S')) (fun c S' => (∀ c ∈ F.clo.map (·.2), S' c = none) → wx c δ (bckS (F.clo.map (·.2)) S S'))
theorem caps_ok {P : Program} {w : World} {K : PySem.W.Frag} {S : Sto} {H : Hp} {h : Heap} {clo : List (Str × Addr)} (r : RelK P w K S H) (ok : HOk P w H h) : ∀ {fv : List Str} {ds : List D}, capsD S clo fv = some ds →
    ∃ vs, Dvs K H ds vs ∧ vs.length = fv.length ∧ ∀ (i : Nat) (v : V) (y : Str), vs[i]? = some v → fv[i]? = some y → ∃ c u, clo.lookup y = some c ∧ h.IsCell c (some u) ∧ RelV v u
  | [], ds, e => by cases e; exact ⟨[], Dvs.nil, rfl, fun i v y e _ => by simp at e⟩
  | z :: fv, ds, e => by
    unfold capsD at e
    split at e
    · rename_i c ec
      split at e
      · rename_i d ed
        obtain ⟨r1, e1, rfl⟩ := Option.map_eq_some_iff.mp e
        obtain ⟨vs, h1, h2, h3⟩ := caps_ok r ok e1
        obtain ⟨o, u, v, a1, a2, a3, a4⟩ := r c _ ed
        refine ⟨v :: vs, Dvs.cons a4 h1, by simp [h2], fun i v' y ev ey => ?_⟩
        cases i with
        | zero =>
          simp at ev ey
          subst ev ey
          exact ⟨c, u, ec, ⟨o, kn_obj (ok c _ a1), a2⟩, a3⟩
        | succ j => exact h3 j v' y (by simpa using ev) (by simpa using ey)
      · cases e
    · cases e
section
variable {Y : Cx} {wx : WD} {k i : Nat} {a : Str} {p1 p2 : Pos}
theorem dCallF_mono {P : Program} {w : World} {K : PySem.W.Frag} {mg : Str → Option Value} {base : Heap} : MonoE (dCallF P w K mg base k i wx) := fun δ S Q Q' h ⟨f, F, ps, fv, sp, ds, e1, e2, e3, FL, e4, e5, q⟩ =>
  ⟨f, F, ps, fv, sp, ds, e1, e2, e3, FL, e4, e5, FL.mono _ _ _ _ _ _ (fun d S' z n => h _ _ (z n)) (fun _ _ z => z) q⟩
theorem de_callF (hr : Room (k + 1) Y.A) (tk : TakesD Y wx) (hN : Y.N[i]? = some a := by rfl) (hv : Vis Y.env.scope a := by first | exact Or.inl rfl | exact Or.inr (Or.inl rfl) | exact Or.inr (Or.inr rfl)) (hd : (a == ("__debug__" : Str)) = false := by decide)
    (hcd : (a == ("__classdict__" : Str)) = false := by decide) : DE Y (.Call (.Name a p1) [] [] p2) (dCallF Y.prog Y.w Y.K Y.mg Y.base k i wx) := by
  refine ⟨dCallF_mono, ⟨fun pins s σ H Q I ⟨δ, S, R, f, F, ps, fv, sp, ds, e1, e2, e3, FL, e4, e5, q⟩ => ?_⟩⟩
  obtain ⟨v0, ev0, hv0⟩ := R.loc i _ e1
  rw [dv_ref] at hv0
  subst hv0
  refine wpAny_Call_Name_kw (thn ((pe_var (pos := p1) (i := i) hN hv hd hcd).run pins s σ H (fun v H1 => v = .ref f ∧ H1 = H) I ⟨.ref f, ev0, rfl, rfl⟩) fun u s1 ⟨v, H1, I1, r1, ev, eH⟩ => ?_)
  subst ev
  rw [eH] at I1
  obtain rfl : u = Value.ref f := r1
  obtain ⟨⟨pm, ctv, hf⟩, ⟨inj, has⟩, hdf⟩ := R.sto f _ e2
  have of1 : s1.heap.get? f = some (F.obj pm ctv) := kn_obj (I1.hok f _ hf)
  have hcode : H F.code = some (LamX.CodeO F.code F.l.qual) := R.sto _ _ e3
  obtain ⟨⟨oc, ws, t, hoc, hdc, hvc⟩, _, _⟩ := I1.hok _ _ hcode
  generalize hcs : F.clo.map (·.2) = cs at *
  have onc : ∀ c ∈ cs, ∃ o u v d, S c = some (.cell d) ∧ H c = some (Kn o) ∧ s1.heap.get? c = some o ∧ o.data = .cell (some u) ∧ RelV v u ∧ Dv Y.K H d v := fun c hc => by
    obtain ⟨d, ed⟩ := e5 c hc
    obtain ⟨o, u, v, a1, a2, a3, a4⟩ := R.sto c _ ed
    exact ⟨o, u, v, d, ed, a1, kn_obj (I1.hok c _ a1), a2, a3, a4⟩
  have sw : Sw cs (frs Y.stack) Y.base H (fun b => if b ∈ cs then none else H b) s1.heap := by
    refine ⟨fun b hb => if_neg hb, fun b hb => ?_, fun b hb z => ?_, fun b hb o _ => if_pos hb⟩
    · obtain ⟨o, u, v, d, _, a1, a2, _⟩ := onc b hb
      exact ⟨o, a2, .inr a1, .inl (if_pos hb)⟩
    · obtain ⟨o, u, v, d, _, a1, a2, _⟩ := onc b hb
      rw [I1.stkFree b z] at a1
      cases a1
  generalize hG : (fun b => if b ∈ cs then none else H b) = G at sw
  have Gin : ∀ b ∈ cs, G b = none := fun b hb => by rw [← hG]; exact if_pos hb
  have e0 := sw.env0 I1.env0
  have tHG : TupP Y.K H G := sw.tup
  -- the store, the values
  have rG : RelK Y.prog Y.w Y.K (hidS cs S) G := fun b o e => by
    unfold hidS at e
    split at e
    · cases e
    · rename_i hb
      exact (R.sto b o e).keep tHG (sw.off b hb)
  obtain ⟨vs, dvs, vl, vc⟩ := caps_ok (clo := F.clo) R.relK I1.hok e4
  have dlen := FL.len _ _ _ _ q
  have St := FL.st
  have dvI := dvs_ints (K := Y.K) (H := G) F.l.dv
  have dAll : Dvs Y.K G (F.l.dv.map .int ++ ds) (F.l.dv.map .int ++ vs) := Dvs.append dvI (Dvs.mono tHG _ _ dvs)
  -- defaults
  obtain ⟨its, il, ip, bd⟩ : ∃ its : List Value, its.length = ps.length ∧ (∀ (j : Nat) (v : V) (u : Value), (F.l.dv.map V.int)[j]? = some v → its[j]? = some u → RelV v u) ∧ BindsTo s1 (F.fd pm ctv) ⟨[], []⟩ (ps.zip its) := by
    cases hdl : F.dfl with
    | none =>
      rw [hdl] at hdf
      have e : ps = [] := by
        have := St.len
        rw [show F.l.dv = [] from hdf] at this
        exact List.length_eq_zero_iff.mp this
      subst e
      exact ⟨[], rfl, fun j v u _ z => by simp at z, .of_eq ((St.bind F pm ctv rfl).1 hdl hdf)⟩
    | some t =>
      rw [hdl] at hdf
      obtain ⟨its, rv, tu, _⟩ := I1.tuple hdf
      have hlen : its.length = F.l.dv.length := by rw [← rv.length, List.length_map]
      refine ⟨its, by rw [hlen, St.len], fun j v u z1 z2 => (by
        obtain ⟨u', e', r'⟩ := rv.get z1
        rw [z2] at e'
        cases e'
        exact r'), ?_⟩
      obtain ⟨k, b1, b2⟩ := (St.bind F pm ctv rfl).2 t hdl its hlen
      obtain ⟨ot, g1, g2, n, g3⟩ := tu
      refine BindsTo.of_defaults (T := t) ?_ g1 g3 ?_ b2
      · show (match F.dfl with | none => Value.none | some t => .ref t) = _
        rw [hdl]
      · rw [b1]
        show _ = seqItems? (match F.dfl with | none => Value.none | some t => .ref t) >>= k
        rw [hdl]
  -- the lambda's promise
  have back : ∀ {S' : Sto} {G' : Hp} {hb : Heap}, Bh cs H G G' hb → RelK Y.prog Y.w Y.K S' G' → TupP Y.K G G' → (∀ c ∈ cs, S' c = none) ∧ Rel Y δ (bckS cs S S') σ (swp cs H G') ∧ TupP Y.K H (swp cs H G') ∧ TupP Y.K G' (swp cs H G') := fun {S' G' hb} b0 rS t => by
    have t2 : TupP Y.K G' (swp cs H G') := b0.tup
    have t3 : TupP Y.K H (swp cs H G') := tHG.trans (t.trans t2)
    refine ⟨fun c hc => ?_, R.next t3 fun b o e => ?_, t3, t2⟩
    · obtain ⟨_, _, _, z⟩ := b0.on c hc
      rw [Gin c hc] at z
      have z' : G' c = none := by
        rcases z with z | z
        · exact z.2
        · cases z.1
      cases eS : S' c with
      | none => rfl
      | some o =>
        obtain ⟨u, z2⟩ := (rS c o eS).there
        rw [z'] at z2
        cases z2
    · unfold bckS at e
      split at e
      · rename_i hb'
        exact (R.sto b o e).keep t3 (swp_in hb')
      · rename_i hb'
        exact (rS b o e).keep t2 (swp_out hb')
  have hup : upSp Y.prog Y.w Y.K sp (F.l.dv.map V.int ++ vs) G (fun v G' => ∀ hb, Bh cs H G G' hb → Q v (swp cs H G')) (fun c d G' => ∀ hb, Bh cs H G G' hb → wX Y wx c d σ (swp cs H G')) := by
    refine ⟨_, _, rG, dAll, FL.mono _ _ _ _ _ _ (fun d S' z v G' rS dv t hb b0 => ?_) (fun c S' z G' rS t hb b0 => ?_) q⟩
    · obtain ⟨n, R', t3, t2⟩ := back b0 rS t
      exact z n v _ R' (dv.mono t2) t3
    · obtain ⟨n, R', t3, t2⟩ := back b0 rS t
      exact ⟨δ, _, R', z n⟩
  refine PySem.W.callWith_F0 ⟨_, _, _, _, of1⟩ ?_
  have rc : codeAny (model Y.prog Y.w) Y.A (.call (.ref f) ⟨[], []⟩) (CR (L2.CX Y.prog Y.w) Y.stack Y.prog Y.w G s1 (fun v G' => ∀ hb, Bh cs H G G' hb → Q v (swp cs H G')) (fun c d G' => ∀ hb, Bh cs H G G' hb → wX Y wx c d σ (swp cs H G'))) s1 := by
    refine PySem.W.kla_callFunE (fd := F.fd pm ctv) hr.depth of1 rfl St.co St.gen rfl ⟨F.code, oc, ws, t, rfl, hoc, hdc, hvc⟩ ?_
    refine bd _ _ _ _ (wpAny_newFunctionEnv St.nocell (fun y hy => St.par _ (List.of_mem_zip hy).1) (fun h₁ hns hsb => ⟨I1.nolimit.fresh _ hsb, ?_⟩) St.kind)
    show codeAny _ _ (.expr F.l.body (lamEnvD F.l F.clo s1.heap.objs.size f F.code)) _ _
    have kp : ∀ b o, s1.heap.get? b = some o → h₁.get? b = some o := fun b o e => hsb.extBut b o (Nat.ne_of_lt (Heap.lt_size e)) (Heap.get?_push_of_some _ e)
    obtain ⟨t0, ht, hq⟩ := FL.run F.clo f F.code Y.A Y.stack s1 G _ _ _ (hr.deeper _) hup
    have J : Inv (lamCxD Y.prog Y.w Y.K Y.mg Y.base F.l (ps ++ fv) F.clo f F.code Y.A Y.stack s1 G (fun c d G' => ∀ hb, Bh cs H G G' hb → wX Y wx c d σ (swp cs H G'))) [] (L2.start (ps ++ fv) (F.l.dv.map V.int ++ vs)) G { s1 with heap := h₁, toks := s1.toks + (ps.zip its).length } := by
      refine lam_start (its := its) St e0 hr.hd inj has (fun y c e => ?_) ?_ il (fun j v u hj z1 z2 => ?_) (fun j v y z1 z2 => ?_) hns kp
      · have hc : c ∈ cs := by rw [← hcs]; exact List.mem_map.mpr ⟨_, PySem.mem_of_lookup e, rfl⟩
        obtain ⟨o, u, v, d, _, a1, a2, a3, _⟩ := onc c hc
        exact ⟨Gin c hc, _, o, a2, a3⟩
      · rw [← dAll.length]; exact dlen
      · refine ip j v u ?_ z2
        rw [List.getElem?_append_left (by rw [List.length_map, ← St.len]; exact hj)] at z1
        exact z1
      · rw [List.getElem?_append_right (by rw [List.length_map, ← St.len]; omega), List.length_map, ← St.len, Nat.add_sub_cancel_left] at z1
        exact vc j v y z1 z2
    refine PySem.W.kla_codeExpr (wpAny_mono (ht.run [] _ _ G _ J hq) (fun v s' hq => ?_) fun e s' hq => hq)
    obtain ⟨w', H', J', rv, q⟩ := hq
    exact ⟨w', H', J'.os, J'.bare, J'.base, J'.hok, rv, q⟩
  refine wpAny_call (codeAny_mono rc fun r s' hq => ?_)
  cases r with
  | error e => exact passAt tk.tk σ pins H s1 e s' I1 (sw.cx hq fun c d G' B b0 z => z B b0)
  | ok fl =>
    cases fl with
    | ret u => exact I1.after (sw.ce hq fun v G' b0 z => z _ b0)
    | next => exact False.elim hq
    | brk => exact False.elim hq
    | cont => exact False.elim hq
end
end DL
set_option maxRecDepth 100000
namespace DL
open PySem PySem.Spec PyProof.Rows L2
section
variable {M : Model} {A : Around} {E : Value → Shared → Prop} {s : Shared} {env : Env} {c P : Addr} {ps : Array Value} {pos : Pos} {fl : Nat} {mg : Str → Option Value} {clo : List (Str × Addr)} {Q : Value → Shared → Prop}
theorem clo_tuple {X : Value → Sem Value} (h : ∀ v h2, (∀ b o, s.heap.get? b = some o → h2.get? b = some o) → s.heap.objs.size ≤ h2.objs.size → wpAny M A (X v) Q E { s with heap := h2 }) :
    wpAny M A (if clo.isEmpty = true then pure Value.none >>= X else newTextTuple ((clo.mergeSort fun a b => a.1.cps.toList ≤ b.1.cps.toList).map (.ref ·.2)) >>= X) Q E s := by
  cases clo with
  | nil => exact wpAny_bind (wpAny_pure (h _ s.heap (fun _ _ q => q) (Nat.le_refl _)))
  | cons x r =>
    refine wpAny_bind (wpAny_newTextTuple (h _ _ (fun b o q => Heap.get?_push_of_some _ q) ?_))
    rw [Heap.size_push]
    omega
inductive Cod (P : Addr) (ps : Array Value) (pos : Pos) (q : Str) (h : Heap) (h' : Heap) (c' : Addr) : Prop where
  | old : codeAmong pos ps.toList = some (.ref c') → (∀ b o, h.get? b = some o → h'.get? b = some o) → Cod P ps pos q h h' c'
  | new : (∀ b o, b ≠ P → h.get? b = some o → h'.get? b = some o) → h.objs.size ≤ c' → c' < h'.objs.size → h'.CodeRec (.ref c') q → h'.get? P = some { cls := .none, data := .fields (ps ++ #[rawInt pos.line, rawInt pos.col, .ref c']) } → Cod P ps pos q h h' c'
theorem Cod.sub {q : Str} {h0 h h' : Heap} {c' : Addr} (x : Cod P ps pos q h h' c') (k : ∀ b o, h0.get? b = some o → h.get? b = some o) (z : h0.objs.size ≤ h.objs.size) : Cod P ps pos q h0 h' c' := by
  cases x with
  | old a b => exact .old a fun d o e => b d o (k d o e)
  | new a b e f g => exact .new (fun d o n e => a d o n (k d o e)) (Nat.le_trans z b) e f g
theorem lam_tail {L : LamD} {dV : Value} (hcl : closureFor L.scope env = pure clo) (hge : env.globals = mainGlobals) (hg : s.heap.Ns mainGlobals mg) (hcode : env.code = .ref c) (C : PySem.W.CodeHd s.heap c P) (hP : s.heap.get? P = some { cls := .none, data := .fields ps }) (ht : TriplesOk ps.toList)
    (hcs : ∀ cv, codeAmong pos ps.toList = some cv → ∃ c', cv = .ref c') (hgP : mainGlobals ≠ P) (hb : s.heap.BuiltinsAt mg P)
    (h : ∀ c' ctv h' tk, Cod P ps pos L.qual s.heap h' c' → s.heap.objs.size ≤ h'.objs.size → Q (.ref h'.objs.size) { s with heap := h'.push { cls := .type "function", data := .func { PySem.W.kla_fn "<lambda>" L.qual L.params L.body L.scope clo ((mg "__name__").getD .none) (.ref c') ctv with defaults := dV } }, toks := tk }) :
    wpAny M A (makeTail "<lambda>" L.qual L.params (.expr L.body) L.scope env dV .none none pos fl) Q E s := by
  obtain ⟨bm, ob, m1, m2, _, m3, m4, m5, m6, m7⟩ := hb
  unfold makeTail
  rw [hcl, hge]
  refine wpAny_bind (wpAny_pure ?_)
  dsimp only
  refine clo_tuple (clo := clo) fun ctv h2 k2 z2 => ?_
  have C2 := C.keeps k2
  have P2 := k2 _ _ hP
  have g2 := hg.keeps k2
  cases hf : codeAmong pos ps.toList with
  | some cv =>
    obtain ⟨c', rfl⟩ := hcs cv hf
    refine wpAny_bind (wpAny_functionCode_hit hcode (C2.code P2 ht) hf ?_)
    refine wpAny_bind (wpAny_builtinsFor g2 m1 m2 (k2 _ _ m4) m5 m6 m7 (wpAny_bind (wpAny_nsGet g2 ?_)))
    exact wpAny_bind (wpAny_pure (wpAny_newObj_type (h c' ctv h2 _ (.old hf k2) z2) (by size_fits)))
  | none =>
    refine wpAny_bind (wpAny_functionCodeX hcode (C2.code P2 ht) (C2.tab P2) hf fun c' h' tk hx hge' hlt _ hrec htb _ => ?_)
    have g3 := g2.extBut hx hgP
    refine wpAny_bind (wpAny_builtinsFor g3 m1 m2 (hx _ _ m3 (k2 _ _ m4)) m5 m6 m7 (wpAny_bind (wpAny_nsGet g3 ?_)))
    exact wpAny_bind (wpAny_pure (wpAny_newObj_type (h c' ctv h' tk (Cod.sub (.new hx hge' hlt hrec htb.2) k2 z2) (Nat.le_trans z2 (Nat.le_trans hge' (Nat.le_of_lt hlt)))) (by size_fits)))
end
theorem Rel.same {X : Cx} {δ : DEnv} {S : Sto} {σ : L2.St} {H : Hp} {p : Addr} {o : DO} (R : Rel X δ S σ H) (n : ObjD X.prog X.w X.K H p o) : Rel X δ (sup S p o) σ H := ⟨R.len, R.loc, fun a u e => by
  by_cases z : a = p
  · subst z
    rw [sup_same] at e
    cases e
    exact n
  · rw [sup_ne z] at e
    exact R.sto a u e⟩
section
variable {X : Cx} {pins : List (Addr × Obj)} {σ : L2.St} {H : Hp} {s : Shared} {δ : DEnv} {S : Sto} {c P : Addr}
theorem clo_ok {sc : Scope} (ok : X.Ok) (hfree : ∀ y ∈ sc.names, y.2 = .free → X.env.scope.names.lookup y.1 = some .cell ∨ X.env.scope.names.lookup y.1 = some .free) :
    (∀ x y c, (cloFrom X.env.cells sc.names []).lookup x = some c → (cloFrom X.env.cells sc.names []).lookup y = some c → x = y) ∧ (∀ y ∈ sc.names, y.2 = .free → ∃ c, (cloFrom X.env.cells sc.names []).lookup y.1 = some c) ∧
      ∀ y ∈ sc.names, y.2 = .free → ∃ c, X.env.cells.lookup y.1 = some c := by
  have has : ∀ y ∈ sc.names, y.2 = .free → ∃ c, X.env.cells.lookup y.1 = some c := fun y hy e => ok.has _ (hfree y hy e)
  have cm : ∀ {y c}, (cloFrom X.env.cells sc.names []).lookup y = some c → X.env.cells.lookup y = some c := fun {y c} e => by
    rcases cloFrom_mem (PySem.mem_of_lookup e) with hm | ⟨h1, h2⟩
    · cases hm
    · obtain ⟨c1, hc⟩ := has _ h1 rfl
      have hc : X.env.cells.lookup y = some c1 := hc
      rw [h2, hc]
      rfl
  refine ⟨fun x y c e1 e2 => ok.inj x y c (cm e1) (cm e2), fun y hy e => ?_, has⟩
  obtain ⟨n, k⟩ := y
  obtain rfl : k = .free := e
  exact mem_lookup (cloFrom_has (cells := X.env.cells) (acc := []) hy)
def lamSto (S : Sto) (P : Addr) (cs : List Addr) (c' : Addr) (q : Str) (f : Addr) (F : FnB) : Sto := sup (sup (sup S P (.tab (c' :: cs))) c' (.code q)) f (.fn F)
theorem cod_inv {cs : List Addr} {q : Str} {pos : Pos} {h' : Heap} {tk : Nat} {c' : Addr} {ps : Array Value} (I : Inv X pins σ H s) (R : Rel X δ S σ H) (hP : H P = some (.tbl ps)) (ht : TriplesOk ps.toList) (ha : ∀ (pos : Pos) (cv : Value), codeAmong pos ps.toList = some cv → ∃ c, cv = .ref c ∧ c ∈ cs)
    (eP : S P = some (.tab cs)) (ec : ∀ c ∈ cs, S c = some (.code q)) (x : Cod P ps pos q s.heap h' c') :
    ∃ H', Inv X pins σ H' { s with heap := h', toks := tk } ∧ Rel X δ (sup (sup S P (.tab (c' :: cs))) c' (.code q)) σ H' ∧ TupP X.K H H' ∧ (c' ∈ cs ∨ S c' = none) := by
  cases x with
  | old hf k =>
    obtain ⟨c2, e, hc⟩ := ha pos _ hf
    cases e
    have n : ObjD X.prog X.w X.K H P (.tab (c' :: cs)) := ⟨ps, hP, ht, fun pos cv h => let ⟨c, e, z⟩ := ha pos cv h; ⟨c, e, List.mem_cons_of_mem _ z⟩⟩
    exact ⟨H, I.kept k, (R.same n).same (R.sto c' _ (ec c' hc)), .refl, .inl hc⟩
  | new k ge lt hrec hm =>
    obtain ⟨c2, oc, vs, t, e2, hoc, hd, hv⟩ := hrec
    cases e2
    have nC : H c' = none := I.hok.fresh ge
    have nPc : P ≠ c' := ne_of_none hP nC
    have I1 := LamX.inv_table (t' := tk) (more := #[rawInt pos.line, rawInt pos.col, .ref c']) (c := c') (q := q) I hP k hm ge ⟨oc, vs, t, hoc, hd, hv⟩
    have eL : (ps ++ #[rawInt pos.line, rawInt pos.col, .ref c']).toList = ps.toList ++ [rawInt pos.line, rawInt pos.col, .ref c'] := by simp
    have R1 : Rel X δ (sup S P (.tab (c' :: cs))) σ (upd H P (.tbl (ps ++ #[rawInt pos.line, rawInt pos.col, .ref c']))) := R.change eP ⟨_, upd_same, by rw [eL]; exact PySem.TriplesOk_snoc _ _ _ _ ht, fun p' cv h => by
      rw [eL] at h
      rcases LamX.among_app _ ht h with z | z
      · obtain ⟨c, e, m⟩ := ha p' cv z
        exact ⟨c, e, List.mem_cons_of_mem _ m⟩
      · exact ⟨c', z, List.mem_cons_self⟩⟩
    have n1 : upd H P (.tbl (ps ++ #[rawInt pos.line, rawInt pos.col, .ref c'])) c' = none := by rw [upd_ne nPc.symm]; exact nC
    exact ⟨_, I1, R1.new n1 upd_same, (R.tup_change eP).trans (TupP.laid n1), .inr (R.free nC)⟩
structure LamT (X : Cx) (L : LamD) (c P : Addr) : Prop where
  tb : LamX.TabB X.base X.mg c P
  code : X.env.code = .ref c
  qual : L.qual = X.env.qual ++ "<lambda>"
  free : ∀ y ∈ L.scope.names, y.2 = .free → X.env.scope.names.lookup y.1 = some .cell ∨ X.env.scope.names.lookup y.1 = some .free
def dLam (P : Addr) (L : LamD) (cells : List (Str × Addr)) : TDE := fun δ S Q => ∃ cs, S P = some (.tab cs) ∧ (∀ c ∈ cs, S c = some (.code L.qual)) ∧
  ∀ f c' dfl, S f = none → (c' ∈ cs ∨ S c' = none) → c' ≠ f → Q (.ref f) (lamSto S P cs c' L.qual f ⟨L, cloFrom cells L.scope.names [], c', dfl⟩)
theorem lam_done {Q : V → Hp → Prop} {L : LamD} {pos : Pos} {fl : Nat} {dV : Value} {dfl : Option Addr} (T : LamT X L c P) (I : Inv X pins σ H s) (R : Rel X δ S σ H) (hd1 : (match dfl with | none => Value.none | some t => .ref t) = dV)
    (hd2 : match dfl with | none => L.dv = [] | some t => SqT X.K H t (L.dv.map V.int)) (q : dLam P L X.env.cells δ S (kE X δ σ H Q)) :
    wpAny (model X.prog X.w) X.A (makeTail "<lambda>" L.qual L.params (.expr L.body) L.scope X.env dV .none none pos fl) (EP X pins σ Q) X.xe s := by
  obtain ⟨cs, eP, ec, q⟩ := q
  obtain ⟨ps, hP, ht, ha⟩ := R.sto P _ eP
  have bP : s.heap.BuiltinsAt X.mg P := T.tb.bm.keeps I.bk
  obtain ⟨c1, c2, hfree⟩ := clo_ok I.ok T.free
  subst hd1
  refine lam_tail (L2.closure_ok hfree) I.ok.glob (I.mod.glob.keeps I.bk) T.code (T.tb.code.keeps I.bk) (I.hok P _ hP) ht (fun cv h => let ⟨c, e, _⟩ := ha pos cv h; ⟨c, e⟩) T.tb.gP bP fun c' ctv h' tk x ge => ?_
  obtain ⟨H', I1, R1, t1, hc⟩ := cod_inv (tk := tk) I R hP ht ha eP ec x
  have fn : H' h'.objs.size = none := I1.hok.fresh (Nat.le_refl _)
  let F : FnB := ⟨L, cloFrom X.env.cells L.scope.names [], c', dfl⟩
  have I2 := I1.laid (a := h'.objs.size) (o := Kn (F.obj ((X.mg "__name__").getD .none) ctv)) (t' := tk) (h' := h'.push (F.obj ((X.mg "__name__").getD .none) ctv)) (fun b o e => Heap.get?_push_of_some _ e) (Nat.le_refl _) (kn_ok (Heap.get?_push_size _ rfl))
  have R2 := R1.new (p := h'.objs.size) (ho := Kn (F.obj ((X.mg "__name__").getD .none) ctv)) (o := .fn F) fn ⟨⟨_, _, upd_same⟩, ⟨c1, c2⟩, by
    cases dfl with
    | none => exact hd2
    | some t => exact (t1.trans (TupP.laid fn)).1 _ _ hd2⟩
  have nS : sup (sup S P (.tab (c' :: cs))) c' (.code L.qual) h'.objs.size = none := R1.free fn
  have ne : c' ≠ h'.objs.size := fun z => by rw [← z, sup_same] at nS; cases nS
  have nS' : S h'.objs.size = none := by
    rw [sup_ne ne.symm] at nS
    by_cases z : h'.objs.size = P
    · rw [z, sup_same] at nS; cases nS
    · rw [sup_ne z] at nS; exact nS
  exact ⟨.ref h'.objs.size, _, I2, rfl, q h'.objs.size c' dfl nS' hc ne _ _ R2 (dv_ref.mpr rfl) (t1.trans (TupP.laid fn))⟩
theorem dLam_mono {L : LamD} {cells : List (Str × Addr)} : MonoE (dLam P L cells) := fun δ S Q Q' h ⟨cs, e1, e2, q⟩ => ⟨cs, e1, e2, fun f c' dfl a b c => h _ _ (q f c' dfl a b c)⟩
theorem int_const {n : Int} {k : Nat} {p : Pos} {v : Value} (h : (Expr.Constant (.int n) k p).ConstVal v) : L2.RelV (.int n) v := h
theorem de_lam0 {params : Arguments} {body : Expr} {scope : Scope} {pos : Pos} (T : LamT X ⟨X.env.qual ++ "<lambda>", params, body, scope, []⟩ c P) (hdef : defaultsOf params X.env = ([], []) := by rfl) :
    DE X (.Lambda params body scope pos) (dLam P ⟨X.env.qual ++ "<lambda>", params, body, scope, []⟩ X.env.cells) := by
  refine ⟨dLam_mono, ⟨fun pins s σ H Q I ⟨δ, S, R, q⟩ => ?_⟩⟩
  rw [arm_eval_Lambda, hdef]
  refine wpAny_bind (wpAny_evalAll_nil (wpAny_bind (wpAny_holding (wpAny_pure ?_))))
  rw [makeFunction_eq]
  simp only [List.zip_nil_right, List.filterMap_nil, List.isEmpty_nil, if_true, pure_bind]
  exact lam_done (dfl := none) T I R rfl rfl q
theorem de_lam1 {params : Arguments} {body : Expr} {scope : Scope} {pos p1 : Pos} {n : Int} {k : Nat} (T : LamT X ⟨X.env.qual ++ "<lambda>", params, body, scope, [n]⟩ c P) (hdef : defaultsOf params X.env = (evalEach [.Constant (.int n) k p1] X.env, []) := by rfl) :
    DE X (.Lambda params body scope pos) (dLam P ⟨X.env.qual ++ "<lambda>", params, body, scope, [n]⟩ X.env.cells) := by
  refine ⟨dLam_mono, ⟨fun pins s σ H Q I ⟨δ, S, R, q⟩ => ?_⟩⟩
  rw [arm_eval_Lambda, hdef]
  refine wpAny_bind (wpAny_evalAll_consts _ _ _ (fun e he => by rw [List.mem_singleton.mp he]; rfl) fun vs tk hv => wpAny_bind (wpAny_holding (wpAny_pure ?_)))
  match vs, hv with
  | [v], hv =>
    have rv : L2.RelV (.int n) v := int_const hv.1
    rw [makeFunction_eq]
    simp only [List.zip_nil_right, List.filterMap_nil, List.isEmpty_nil, List.isEmpty_cons, if_true, pure_bind, Bool.false_eq_true, if_false]
    refine wpAny_bind (wpAny_newTextTuple ?_)
    have I0 : Inv X pins σ H { s with toks := tk } := I.tok tk
    have nt : H s.heap.objs.size = none := I.hok.fresh (Nat.le_refl _)
    have I1 := I0.laid (a := s.heap.objs.size) (o := .tup [.int n]) (t' := tk) (h' := s.heap.push { cls := .type "tuple", data := .seq [v].toArray }) (fun b o e => Heap.get?_push_of_some _ e) (Nat.le_refl _)
      ⟨by show 1 ≤ sizeLine; decide, [v], .cons rv .nil, _, Heap.get?_push_size _ rfl, rfl, _, rfl⟩
    have t1 : TupP X.K H (upd H s.heap.objs.size (.tup [.int n])) := TupP.laid nt
    refine lam_done (dfl := some s.heap.objs.size) T I1 (R.laid nt) rfl (SqT.of upd_same) ?_
    exact dLam_mono _ _ _ _ (fun d S' z => kE.later t1 z) q
  | [], hv => exact hv.elim
  | _ :: _ :: _, hv => exact hv.2.elim
end
end DL
set_option maxRecDepth 100000
namespace DL
open PySem L2
def capV (δ : DEnv) : List (Str × Nat) → Option (List D)
  | [] => some []
  | p :: r => match δ[p.2]? with
    | some (some d) => (capV δ r).map (d :: ·)
    | _ => none
def capC (cells : List (Str × Addr)) (caps : List (Str × Nat)) : List Addr := caps.map fun p => (cells.lookup p.1).getD 0
def adp (S : Sto) : List Addr → List D → Sto
  | c :: cs, d :: ds => sup (adp S cs ds) c (.cell d)
  | _, _ => S
def uad (cs : List Addr) (S : Sto) : Sto := fun a => if a ∈ cs then none else S a
theorem paired_left {α β : Type} {F : α → β → Prop} {l : List α} {m : List β} (h : Paired F l m) : ∀ a ∈ l, ∃ b, F a b := by
  induction h with
  | nil => intro a ha; cases ha
  | cons r t ih =>
    intro a ha
    rcases List.mem_cons.mp ha with e | ha
    · exact ⟨_, e ▸ r⟩
    · exact ih a ha
theorem paired_memL {α β : Type} {F : α → β → Prop} {l : List α} {m : List β} (h : Paired F l m) : Paired (fun a b => a ∈ l ∧ F a b) l m := by
  induction h with
  | nil => exact .nil
  | cons r t ih => exact .cons ⟨List.mem_cons_self, r⟩ (L2.Paired.mapP ih fun a b z => ⟨List.mem_cons_of_mem _ z.1, z.2⟩)
def dCallC (cells : List (Str × Addr)) (caps : List (Str × Nat)) (sp : DSp) (wx : WD) (t : TDA) : TDE := fun δ S Q => t δ S fun ds S1 => ∃ vals, capV δ caps = some vals ∧
  ((capC cells caps).Nodup → (∀ c ∈ capC cells caps, S1 c = none) → sp ds (adp S1 (capC cells caps) vals) (fun d S2 => Q d (uad (capC cells caps) S2)) fun c S2 => wx c δ (uad (capC cells caps) S2))
theorem dCallC_mono {cells : List (Str × Addr)} {caps : List (Str × Nat)} {sp : DSp} {wx : WD} {t : TDA} (h1 : MonoSp sp) (h2 : MonoA t) : MonoE (dCallC cells caps sp wx t) := fun δ S Q Q' k q => h2 _ _ _ _ (fun ds S1 ⟨vals, e, q1⟩ => ⟨vals, e, fun nd f => h1 _ _ _ _ _ _ (fun _ _ z => k _ _ z) (fun _ _ z => z) (q1 nd f)⟩) q
theorem adp_ok {P : Program} {w : World} {K : PySem.W.Frag} {S : Sto} {G : Hp} (r : ∀ a o, S a = some o → ObjD P w K G a o) : ∀ {cs : List Addr} {ds : List D}, Paired (fun c d => ObjD P w K G c (.cell d)) cs ds → RelK P w K (adp S cs ds) G
  | _, _, .nil => r
  | _, _, .cons (a := c) (b := d) h t => fun a o e => by
    unfold adp at e
    by_cases z : a = c
    · subst z
      rw [sup_same] at e
      cases e
      exact h
    · rw [sup_ne z] at e
      exact adp_ok r t a o e
section
variable {X : Cx} {wx : WD} {k : Nat} {f : Addr} {sp : DSp} {x : Str} {p pos : Pos} {e : Expr} {es : List Expr} {t : TDA} {caps : List (Str × Nat)}
theorem caps_own {pins : List (Addr × Obj)} {σ : L2.St} {H : Hp} {s : Shared} {δ : DEnv} {S : Sto} (I : Inv X pins σ H s) (R : Rel X δ S σ H) : ∀ {caps : List (Str × Nat)} {ds : List D}, (∀ p ∈ caps, X.N[p.2]? = some p.1 ∧ X.env.scope.names.lookup p.1 = some .cell) → capV δ caps = some ds →
    Paired (fun c d => ∃ o u v, s.heap.get? c = some o ∧ o.data = .cell (some u) ∧ RelV v u ∧ Dv X.K H d v ∧ H c = none ∧ ∃ y, X.env.cells.lookup y = some c) (capC X.env.cells caps) ds
  | [], ds, _, e => by cases e; exact .nil
  | p :: r, ds, hc, e => by
    unfold capV at e
    split at e
    · rename_i d ed
      obtain ⟨r1, e1, rfl⟩ := Option.map_eq_some_iff.mp e
      refine .cons ?_ (caps_own I R (fun q hq => hc q (List.mem_cons_of_mem _ hq)) e1)
      obtain ⟨h1, h2⟩ := hc p List.mem_cons_self
      obtain ⟨v, ev, dv⟩ := R.loc _ _ ed
      obtain ⟨m, hn, hl⟩ := I.loc
      obtain ⟨u, rv, q⟩ := hl _ _ _ h1 ev (.inr (.inl h2))
      rcases q with ⟨k', _⟩ | ⟨_, c, e2, o, ho, hd⟩
      · rw [show X.env.scope.names.lookup p.1 = _ from k'] at h2
        cases h2
      · have e3 : (X.env.cells.lookup p.1).getD 0 = c := by rw [e2]; rfl
        show ∃ o u v, s.heap.get? ((X.env.cells.lookup p.1).getD 0) = some o ∧ o.data = .cell (some u) ∧ RelV v u ∧ Dv X.K H d v ∧ H ((X.env.cells.lookup p.1).getD 0) = none ∧ ∃ y, X.env.cells.lookup y = some ((X.env.cells.lookup p.1).getD 0)
        rw [e3]
        exact ⟨o, u, v, ho, hd, rv, dv, I.freeC _ _ e2, p.1, e2⟩
    · cases e
theorem capC_nodup (ok : X.Ok) : ∀ {caps : List (Str × Nat)}, (caps.map (·.1)).Nodup → (∀ p ∈ caps, X.env.scope.names.lookup p.1 = some .cell) → (capC X.env.cells caps).Nodup
  | [], _, _ => List.nodup_nil
  | p :: r, nd, hc => by
    rw [List.map_cons, List.nodup_cons] at nd
    unfold capC
    rw [List.map_cons, List.nodup_cons]
    refine ⟨fun z => ?_, capC_nodup ok nd.2 fun q hq => hc q (List.mem_cons_of_mem _ hq)⟩
    obtain ⟨q, hq, e⟩ := List.mem_map.mp z
    obtain ⟨c1, e1⟩ := ok.has p.1 (.inl (hc p List.mem_cons_self))
    obtain ⟨c2, e2⟩ := ok.has q.1 (.inl (hc q (List.mem_cons_of_mem _ hq)))
    rw [e1, e2] at e
    cases e
    exact nd.1 (List.mem_map.mpr ⟨q, hq, ok.inj _ _ _ e2 e1⟩)
theorem de_callC (F : FnD X.prog X.w X.K X.mg X.base k f sp) (hr : Room k X.A) (hg : Gl X x) (hm : X.mg x = some (.ref f)) (tk : TakesD X wx) (ha : DA X (e :: es) t) (hfn : ∀ y, X.fn y = true) (hcap : ∀ p ∈ caps, X.N[p.2]? = some p.1 ∧ X.env.scope.names.lookup p.1 = some .cell) (hnd : (caps.map (·.1)).Nodup)
    (hdb : (x == ("__debug__" : Str)) = false := by decide)
    (he : starEach (e :: es) X.env = (false, eval e X.env) :: starEach es X.env := by rfl) (hpl : (backTo pos (starEach es X.env)).any (·.1) = false := by rfl) : DE X (.Call (.Name x p) (e :: es) [] pos) (dCallC X.env.cells caps sp wx t) := by
  obtain ⟨fd, ps, Fk, b⟩ := F.ex
  refine ⟨dCallC_mono F.mono ha.mono, ⟨fun pins s σ H Q I ⟨δ, S, R, q⟩ => ?_⟩⟩
  refine wpAny_Call_Name_kw (ld_glob I hg hm ?_ hdb)
  refine PySem.W.callWith_K (h₀ := X.base) I.ok.mod.kin F.kp (thn (ha.pa.run pos pins s σ H (fun vs H1 => ∃ ds S1, Rel X δ S1 σ H1 ∧ Dvs X.K H1 ds vs ∧ TupP X.K H H1 ∧ ∃ vals, capV δ caps = some vals ∧
      ((capC X.env.cells caps).Nodup → (∀ c ∈ capC X.env.cells caps, S1 c = none) → sp ds (adp S1 (capC X.env.cells caps) vals) (fun d S2 => kE X δ σ H Q d (uad (capC X.env.cells caps) S2)) fun c S2 => wx c δ (uad (capC X.env.cells caps) S2))) I
      (ha.sub R q fun ds S1 vs H1 q1 R1 r1 t1 => ⟨ds, S1, R1, r1, t1, q1⟩)) fun us s1 ⟨vs, H1, I1, r, ds, S1, R1, dv1, t1, vals, ev, q1⟩ => ⟨I1.kIn, ?_⟩) he hpl
  have nd := capC_nodup I.ok hnd fun p hp => (hcap p hp).2
  have own := caps_own I1 R1 hcap ev
  generalize hcs : capC X.env.cells caps = cs at *
  have onc : ∀ c ∈ cs, ∃ o, s1.heap.get? c = some o ∧ (∃ u, o.data = .cell (some u)) ∧ H1 c = none ∧ ∃ y, X.env.cells.lookup y = some c := fun c hc => by
    obtain ⟨d, o, u, v, a1, a2, _, _, a5, a6⟩ := paired_left own c hc
    exact ⟨o, a1, ⟨u, a2⟩, a5, a6⟩
  have sw : Sw cs (frs X.stack) X.base H1 (fun b => if b ∈ cs then (s1.heap.get? b).map Kn else H1 b) s1.heap := by
    refine ⟨fun b hb => if_neg hb, fun b hb => ?_, fun b hb z => ?_, fun b hb o eo => ?_⟩
    · obtain ⟨o, e1, _, e2, _⟩ := onc b hb
      refine ⟨o, e1, .inl e2, .inr ?_⟩
      show (if b ∈ cs then (s1.heap.get? b).map Kn else H1 b) = _
      rw [if_pos hb, e1]; rfl
    · obtain ⟨o, e1, _, _, y, ey⟩ := onc b hb
      rcases List.mem_cons.mp (I1.stkSub b z) with z | z
      · exact I1.cne y b ey z
      · obtain ⟨_, o', e', _⟩ := I1.ok.funs.mem z
        exact absurd (Nat.lt_of_lt_of_le (Heap.lt_size e') (I1.ok.cab y b (hfn y) ey)) (Nat.lt_irrefl _)
    · obtain ⟨o, e1, _, _, y, ey⟩ := onc b hb
      exact absurd (Nat.lt_of_lt_of_le (Heap.lt_size eo) (Nat.le_trans I1.ok.bsz (I1.ok.cab y b (hfn y) ey))) (Nat.lt_irrefl _)
  generalize hG : (fun b => if b ∈ cs then (s1.heap.get? b).map Kn else H1 b) = G at sw
  have Gin : ∀ b ∈ cs, ∀ o, s1.heap.get? b = some o → G b = some (Kn o) := fun b hb o eo => by
    rw [← hG]
    show (if b ∈ cs then (s1.heap.get? b).map Kn else H1 b) = _
    rw [if_pos hb, eo]; rfl
  have e0 := sw.env0 I1.env0
  have tHG : TupP X.K H1 G := sw.tup
  have free : ∀ c ∈ cs, S1 c = none := fun c hc => let ⟨_, _, _, z, _⟩ := onc c hc; R1.free z
  have q2 := q1 nd free
  have rG : RelK X.prog X.w X.K (adp S1 cs vals) G := by
    refine adp_ok (fun a o eo => ?_) ?_
    · have ha : a ∉ cs := fun z => by rw [free a z] at eo; cases eo
      exact (R1.sto a o eo).keep tHG (sw.off a ha)
    · have own2 : Paired (fun c d => c ∈ cs ∧ ∃ o u v, s1.heap.get? c = some o ∧ o.data = .cell (some u) ∧ RelV v u ∧ Dv X.K H1 d v ∧ H1 c = none ∧ ∃ y, X.env.cells.lookup y = some c) cs vals := paired_memL own
      exact L2.Paired.mapP own2 fun c d ⟨hc, o, u, v, a1, a2, a3, a4, _⟩ => ⟨o, u, v, Gin c hc o a1, a2, a3, a4.mono tHG⟩
  have back : ∀ {S' : Sto} {G' : Hp} {hb : Heap}, Bh cs H1 G G' hb → RelK X.prog X.w X.K S' G' → TupP X.K G G' → Rel X δ (uad cs S') σ (swp cs H1 G') ∧ TupP X.K H1 (swp cs H1 G') ∧ TupP X.K G' (swp cs H1 G') := fun {S' G' hb} b0 rS t => by
    have t2 : TupP X.K G' (swp cs H1 G') := b0.tup
    have t3 : TupP X.K H1 (swp cs H1 G') := tHG.trans (t.trans t2)
    refine ⟨R1.next t3 fun b o e => ?_, t3, t2⟩
    unfold uad at e
    split at e
    · cases e
    · rename_i hb'
      exact (rS b o e).keep t2 (swp_out hb')
  have hup : upSp X.prog X.w X.K sp vs G (fun v G' => ∀ hb, Bh cs H1 G G' hb → Q v (swp cs H1 G')) (fun c d G' => ∀ hb, Bh cs H1 G G' hb → wX X wx c d σ (swp cs H1 G')) := by
    refine ⟨_, _, rG, Dvs.mono tHG _ _ dv1, F.mono _ _ _ _ _ _ (fun d S' z v G' rS dv t hb b0 => ?_) (fun c S' z G' rS t hb b0 => ?_) q2⟩
    · obtain ⟨R', t3, t2⟩ := back b0 rS t
      exact z v _ R' (dv.mono t2) (t1.trans t3)
    · obtain ⟨R', t3, t2⟩ := back b0 rS t
      exact ⟨δ, _, R', z⟩
  have hl : us.length = ps.length := by rw [← r.length]; exact Fk.len _ _ _ _ hup
  have bb := b s1 us I1.kIn (by rw [List.append_nil]; exact hl)
  rw [List.append_nil] at bb
  refine wpAny_call (codeAny_mono (Fk.run X.A X.stack s1 G ⟨us, []⟩ us vs _ _ hr e0 bb r hup) fun r s' hq => ?_)
  cases r with
  | error e => exact passAt tk.tk σ pins H1 s1 e s' I1 (sw.cx hq fun c d G' B b0 z => z B b0)
  | ok fl =>
    cases fl with
    | ret u => exact I1.after (sw.ce hq fun v G' b0 z => z _ b0)
    | next => exact False.elim hq
    | brk => exact False.elim hq
    | cont => exact False.elim hq
end
end DL
set_option maxRecDepth 100000
namespace DL
open PySem L2
section
variable {X : Cx}
theorem reads_bools (hp : Heap) : ∀ bs : List Bool, ∃ as, ReadsAll hp (bs.map Value.bool) (bs.map PyData.bool) as
  | [] => ⟨_, .nil⟩
  | b :: bs => let ⟨as, h⟩ := reads_bools hp bs; ⟨_, .cons (.bool b) h⟩
theorem count_bools (k : Bool) : ∀ bs : List Bool, Spec.countIn (.bool k) (bs.map PyData.bool) = (bs.count k : Nat)
  | [] => rfl
  | b :: bs => by
    rw [List.map_cons, Spec.countIn, count_bools k bs, List.count_cons]
    cases b <;> cases k <;> simp [Spec.same] <;> omega
def rCountB (K : PySem.W.Frag) : V → List V → Hp → VK → Prop := fun x xs H Q => ∃ (p : Addr) (bs : List Bool) (k : Bool), x = .ref p ∧ xs = [.bl k] ∧ SqL K H p (bs.map V.bl) ∧ Q (.int (bs.count k : Nat)) H
theorem mt_countB : MtR X "list.count" (rCountB X.K) := by
  intro pins s σ H x xs v us Q I rx rxs h
  obtain ⟨p, bs, k, rfl, rfl, hs, q⟩ := h
  cases rx
  obtain ⟨u, rfl, ru⟩ := rxs.one
  cases ru
  obtain ⟨its, rv, ⟨o, n, e1, e2, e3, e4⟩, _⟩ := I.list hs
  have e := rv.bls
  subst e
  obtain ⟨as, ra⟩ := reads_bools s.heap bs
  refine PyProof.Rows.count_list_bools (l := p) (vs := bs.map Value.bool) ⟨o, e1, e2, n, e4⟩ ra (by simp [Spec.Shape.has]) ?_
  rw [count_bools]
  exact ⟨.int (bs.count k : Nat), H, I.tok _, ⟨s.toks, rfl⟩, q⟩
theorem dvs_bools {K : PySem.W.Frag} {H : Hp} {ds : List D} {vs : List V} {bs : List Bool} (h : Dvs K H ds vs) (e : boolsD ds = some bs) : vs = bs.map V.bl := boolsD_vs h e
def fCount : D → List D → Sto → Option D := fun x ds S => match x, ds with
  | .ref r, [.bl k] => match S r with
    | some (.lst xs) => (boolsD xs).map fun bs => .int (bs.count k : Nat)
    | _ => none
  | _, _ => none
theorem dmt_count : DMt X "list.count" fun x => rV (fCount x) := dmt_v mt_countB fun δ S σ H x ds v vs Q d R rx rd e q => by
  unfold fCount at e
  split at e
  · obtain ⟨u, rfl, r⟩ := dvs1 rd
    rw [dv_ref] at rx
    rw [dv_bl] at r
    split at e
    · rename_i xs e1
      obtain ⟨bs, e2, rfl⟩ := Option.map_eq_some_iff.mp e
      obtain ⟨ws, h1, h2⟩ := R.sto _ _ e1
      rw [boolsD_vs h2 e2] at h1
      exact ⟨_, bs, _, rx, by rw [r], SqL.of h1, q _ (dv_int.mpr rfl)⟩
    · cases e
  · cases e
end
end DL
set_option maxRecDepth 100000
namespace DL
open PySem L2
section
variable {X : Cx} {pos : Pos}
def dXf2 (K : PySem.W.Frag) (a : Addr) (cls : Value) (d : Option Addr) (f : Str) (te : TDE) : TDE := fun δ S Q => ∃ C, cls = .ref C ∧ XfC K C ∧ PySem.W.findIn K (.ref C) f = some none ∧ dXf a cls d C f te δ S Q
theorem dXf_mono {a : Addr} {cls : Value} {d : Option Addr} {C : Addr} {f : Str} {te : TDE} (h : MonoE te) : MonoE (dXf a cls d C f te) := fun δ S Q Q' k q => h _ _ _ _ (fun x S1 q1 => ⟨q1.1, q1.2.1, by
  have q2 := q1.2.2
  split at q2
  · split at q2
    · split at q2
      · exact k _ _ q2
      · exact q2.elim
    · exact q2.elim
  · exact q2.elim⟩) q
theorem de_xf2 {a : Addr} {oe : Obj} {cls : Value} {d : Option Addr} {pn : List (Addr × Obj)} {e : Expr} {te : TDE} {n : Str} (hz : Zc cls d oe) (hf : ∃ vs, oe.data = .fields vs) (he : DE (X.suite a ((a, oe) :: pn)) e te)
    (hb : attributeBase e n X.env (eval e X.env) = eval e X.env := by rfl) : DE (X.suite a ((a, oe) :: pn)) (.Attribute e n pos) (dXf2 X.K a cls d n te) := by
  refine ⟨fun δ S Q Q' k ⟨C, e1, e2, e3, q⟩ => ⟨C, e1, e2, e3, dXf_mono he.mono _ _ _ _ k q⟩, ⟨fun pins s σ H Q I ⟨δ, S, R, C, e1, e2, e3, q⟩ => ?_⟩⟩
  exact (de_xf (pos := pos) (C := C) e2 e3 hz hf he hb).pe.run pins s σ H Q I ⟨δ, S, R, q⟩
theorem dCallF_wish {P : Program} {w : World} {K : PySem.W.Frag} {mg : Str → Option Value} {base : Heap} {k i : Nat} {wx wx' : WD} {δ : DEnv} {S : Sto} {Q : DK} (h : ∀ e δ S, wx e δ S → wx' e δ S) (q : dCallF P w K mg base k i wx δ S Q) : dCallF P w K mg base k i wx' δ S Q := by
  obtain ⟨f, F, ps, fv, sp, ds, e1, e2, e3, FL, e4, e5, q⟩ := q
  exact ⟨f, F, ps, fv, sp, ds, e1, e2, e3, FL, e4, e5, FL.mono _ _ _ _ _ _ (fun _ _ z => z) (fun _ _ z n => h _ _ _ (z n)) q⟩
theorem retF_monoW {P : Program} {w : World} {K : PySem.W.Frag} {mg : Str → Option Value} {base : Heap} {k i : Nat} : MonoW fun wx => sRet (dCallF P w K mg base k i wx) := ⟨fun w => sRet_mono dCallF_mono, fun w w' D δ S h q => dCallF_wish h q⟩
theorem ds_tryAsF {x n : Str} {c : Value} {i j k : Nat} {b₀ : Stmt} {suite : List Stmt} {np pos pos' p1 p2 p3 : Pos} {ts : Addr → Value → Option Addr → TDS} {wout : WD} {a : Str} (hs : X.stack = X.env :: X.outer) (hf : X.env.frame = some X.env.locals) (hN : X.N.Nodup) (hi : X.N[i]? = some n) (hln : X.env.kindOf n = some .local) (hc : Names X x c) (tk : TakesD X wout)
    (hr : Room (k + 1) X.A) (hj : X.N[j]? = some a) (hv : Vis X.env.scope a) (hd : (a == ("__debug__" : Str)) = false) (hcd : (a == ("__classdict__" : Str)) = false)
    (hsu : ∀ (a : Addr) (oe : Obj) (cls : Value) (d : Option Addr) (pn : List (Addr × Obj)), Zc cls d oe → (∃ vs, oe.data = .fields vs) → DSs (X.suite a ((a, oe) :: pn)) (b₀ :: suite) (ts a cls d)) :
    DS X (.Try [.Return (some (.Call (.Name a p1) [] [] p2)) p3] [.ExceptHandler (some (.Name x np)) (some n) (b₀ :: suite) pos'] [] [] pos) (sTryAs X.K c i (fun wx => sRet (dCallF X.prog X.w X.K X.mg X.base k j wx)) (fun a e => ts a e.1 e.2) wout) :=
  ds_tryAs hs hf hN hi hln hc tk retF_monoW (fun a e => (hsu a { cls := e.1, dict := e.2, data := .fields #[] } e.1 e.2 [] ⟨rfl, rfl⟩ ⟨_, rfl⟩).mono)
    (fun wx pn xe tkF po => dss_one (ds_ret (de_callF (Y := X.tr pn xe) (i := j) hr tkF hj hv hd hcd))) hsu
end
def excB (K : PySem.W.Frag) (D : Addr) : Bool :=
  decide (PySem.W.findIn K (.ref D) "__getattribute__" = some (some (.builtin "BaseException.__getattribute__"))) && (decide (PySem.W.findIn K (.ref D) "__getattr__" = some none) && (decide (PySem.W.subIn K (.ref D) (.type "BaseException") = some true) && (PySem.W.hasDictIn K D &&
  (decide (PySem.W.findIn K (.ref D) "__class__" = some (some (.builtin "object.__class__"))) && (decide (PySem.W.specialIn K (.builtin "object.__class__") "__get__" = some (some (.builtin "getset_descriptor.__get__"))) && (decide (PySem.W.takesIn K (.builtin "object.__class__") = some true) &&
  decide (PySem.W.mroIn K D (.type "object") = some true)))))))
theorem excB_ok {K : PySem.W.Frag} {D : Addr} (h : excB K D = true) : ExcC K D := by
  unfold excB at h
  simp only [Bool.and_eq_true, decide_eq_true_eq] at h
  obtain ⟨h1, h2, h3, h4, h5, h6, h7, h8⟩ := h
  exact ⟨h1, h2, h3, h4, h5, h6, h7, h8⟩
def errW : List (Str × Str × Option Str) := [("BadHouse", "house", none), ("BadName", "name", none), ("BadNumber", "number", none), ("NotHome", "home", none), ("BadCut", "cut", none), ("Full", "full", none), ("BadTables", "tables", some "number"), ("BadLog", "log", some "number"), ("BadText", "text", some "row")]
def errsB (K : PySem.W.Frag) : Bool := (errW.map (·.1)).all fun x => excB K (He.ga K x) && (xfB K (He.ga K x) && (decide (PySem.W.findIn K (.ref (He.ga K x)) "number" = some none) && (decide (PySem.W.findIn K (.ref (He.ga K x)) "row" = some none) &&
  (decide (PySem.W.kitOne K (.ref (He.ga K x)) (.type "ValueError") = some true) && (decide (PySem.W.exmOne K (.ref (He.ga K x)) (.ref (He.ga K "BookError")) = some true) && ((errW.map (·.1)).all fun y => decide (PySem.W.kitOne K (.ref (He.ga K x)) (.ref (He.ga K y)) = some (decide (x = y)))))))))
structure ErrsOk (K : PySem.W.Frag) : Prop where
  exc : ∀ x ∈ errW.map (·.1), ExcC K (He.ga K x)
  xf : ∀ x ∈ errW.map (·.1), XfC K (He.ga K x)
  num : ∀ x ∈ errW.map (·.1), PySem.W.findIn K (.ref (He.ga K x)) "number" = some none
  row : ∀ x ∈ errW.map (·.1), PySem.W.findIn K (.ref (He.ga K x)) "row" = some none
  ve : ∀ x ∈ errW.map (·.1), PySem.W.kitOne K (.ref (He.ga K x)) (.type "ValueError") = some true
  be : ∀ x ∈ errW.map (·.1), PySem.W.exmOne K (.ref (He.ga K x)) (.ref (He.ga K "BookError")) = some true
  is : ∀ x ∈ errW.map (·.1), ∀ y ∈ errW.map (·.1), PySem.W.kitOne K (.ref (He.ga K x)) (.ref (He.ga K y)) = some (decide (x = y))
theorem errs_ok {K : PySem.W.Frag} (h : errsB K = true) : ErrsOk K := by
  unfold errsB at h
  simp only [List.all_eq_true, Bool.and_eq_true, decide_eq_true_eq] at h
  exact ⟨fun x hx => excB_ok (h x hx).1, fun x hx => xfB_ok (h x hx).2.1, fun x hx => (h x hx).2.2.1, fun x hx => (h x hx).2.2.2.1, fun x hx => (h x hx).2.2.2.2.1, fun x hx => (h x hx).2.2.2.2.2.1, fun x hx y hy => (h x hx).2.2.2.2.2.2 y hy⟩
def toldV (S : Sto) (d : Option Addr) : Str × Str × Option Str → Option D
  | (_, w, none) => some (.tup [.str "refused", .str w])
  | (_, w, some f) => match d with
    | some dd => match S dd with
      | some (.xd fs) => (fs.lookup f).map fun y => .tup [.str "refused", .str w, y]
      | _ => none
    | none => none
def toldX (K : PySem.W.Frag) (c : XV) (S : Sto) (d : D) : Prop := ∃ t ∈ errW, c.1 = .ref (He.ga K t.1) ∧ isX S c.2 ∧ toldV S c.2 t = some d
def spTold (P : Program) (w : World) (K : PySem.W.Frag) (mg : Str → Option Value) (base : Heap) (k : Nat) : DSp := fun ds S Q _ => ∃ f F ps fv sp dsx, ds = [.ref f] ∧ S f = some (.fn F) ∧ S F.code = some (.code F.l.qual) ∧ FnL P w K mg base k F.l ps fv sp ∧ capsD S F.clo fv = some dsx ∧
  (∀ c ∈ F.clo.map (·.2), ∃ d, S c = some (.cell d)) ∧ sp (F.l.dv.map .int ++ dsx) (hidS (F.clo.map (·.2)) S) (fun d S' => (∀ c ∈ F.clo.map (·.2), S' c = none) → Q d (bckS (F.clo.map (·.2)) S S'))
    fun c S' => (∀ c ∈ F.clo.map (·.2), S' c = none) → ∃ d, toldX K c S' d ∧ Q d (bckS (F.clo.map (·.2)) S S')
theorem spTold_mono {P : Program} {w : World} {K : PySem.W.Frag} {mg : Str → Option Value} {base : Heap} {k : Nat} : MonoSp (spTold P w K mg base k) := fun ds S Q Q' E E' h _ ⟨f, F, ps, fv, sp, dsx, e1, e2, e3, FL, e4, e5, q⟩ =>
  ⟨f, F, ps, fv, sp, dsx, e1, e2, e3, FL, e4, e5, FL.mono _ _ _ _ _ _ (fun _ _ z n => h _ _ (z n)) (fun _ _ z n => let ⟨d, a, b⟩ := z n; ⟨d, a, h _ _ b⟩) q⟩
theorem spTold_len {P : Program} {w : World} {K : PySem.W.Frag} {mg : Str → Option Value} {base : Heap} {k : Nat} : ∀ ds S Q E, spTold P w K mg base k ds S Q E → ds.length = 1 := fun ds S Q E ⟨f, F, ps, fv, sp, dsx, e1, _⟩ => by rw [e1]; rfl
end DL
set_option maxRecDepth 100000
namespace DL
open PySem L2
theorem sup_get {S : Sto} {a b : Addr} {o : DO} : sup S a o b = if b = a then some o else S b := rfl
theorem sup_none {S : Sto} {a b : Addr} {o : DO} : (sup S a o b = none) ↔ (¬ b = a ∧ S b = none) := by
  rw [sup_get]
  split <;> simp_all
theorem ofString_inj {a b : String} (h : Str.ofString a = Str.ofString b) : a = b := by
  rw [Str.ofString_eq_toList, Str.ofString_eq_toList] at h
  have h1 : a.toList.map Char.toNat = b.toList.map Char.toNat := by simpa using h
  have h2 : a.toList = b.toList := (List.map_inj_right (fun x y e => Char.toNat_inj.mp e)).mp h1
  exact String.toList_inj.mp h2
theorem ofString_eq {a b : String} : (Str.ofString a = Str.ofString b) = (a = b) := propext ⟨ofString_inj, fun e => by rw [e]⟩
theorem ofString_ne {a b : String} (h : a ≠ b) : Str.ofString a ≠ Str.ofString b := fun e => h (ofString_inj e)
theorem ofString_beq {a b : String} : (Str.ofString a == Str.ofString b) = (a == b) := by
  by_cases h : a = b
  · rw [h]; simp
  · rw [beq_eq_false_iff_ne.mpr (ofString_ne h), beq_eq_false_iff_ne.mpr h]
theorem eqv_str {a b : Str} : PyData.eqv (.str a) (.str b) = decide (a = b) := by
  simp only [PyData.eqv]
  by_cases h : a = b
  · rw [h]; simp
  · simp [h]
end DL
namespace DL
open PySem L2
theorem isX_sup {S : Sto} {d : Option Addr} {p : Addr} {o : DO} (h : isX S d) (n : S p = none) : isX (sup S p o) d := by
  cases d with
  | none => trivial
  | some dd =>
    obtain ⟨fs, e⟩ := h
    exact ⟨fs, by rw [sup_ne fun z => by rw [z, n] at e; cases e]; exact e⟩
end DL
set_option maxRecDepth 100000
namespace DL
open PySem L2
abbrev XD := Value × Option (List (Str × D))
inductive Out (α : Type) where
  | ok (a : α) (S : Sto)
  | er (c : XD) (S : Sto)
  | no
def xfin (c : XD) (S : Sto) (w : XV → Sto → Prop) : Prop := match c.2 with
  | none => w (c.1, none) S
  | some fs => ∀ dd, S dd = none → w (c.1, some dd) (sup S dd (.xd fs))
theorem xfin_mono {c : XD} {S : Sto} {w w' : XV → Sto → Prop} (h : ∀ c S, w c S → w' c S) (q : xfin c S w) : xfin c S w' := by
  unfold xfin at *
  split at q
  · exact h _ _ q
  · exact fun dd n => h _ _ (q dd n)
structure Tag {α : Type} (a : α) : Type where
def bnd {α β : Type} (x : Out α) (k : α → Sto → Out β) (_ : Tag k := {}) : Out β := match x with
  | .ok a S => k a S
  | .er c S => .er c S
  | .no => .no
theorem bnd_congr {α β : Type} {x y : Out α} {k : α → Sto → Out β} (h : x = y) : bnd x k = bnd y k := by rw [h]
theorem bnd_ok {α β : Type} {a : α} {S : Sto} {k : α → Sto → Out β} : bnd (.ok a S) k = k a S := rfl
theorem bnd_er {α β : Type} {c : XD} {S : Sto} {k : α → Sto → Out β} : bnd (.er c S) k = .er c S := rfl
theorem bnd_no {α β : Type} {k : α → Sto → Out β} : bnd .no k = .no := rfl
def fin {α : Type} (x : Out α) (w : XV → Sto → Prop) (Q : α → Sto → Prop) (_ : Tag (w, Q) := {}) : Prop := match x with
  | .ok a S => Q a S
  | .er c S => xfin c S w
  | .no => False
theorem fin_congr {α : Type} {x y : Out α} {w : XV → Sto → Prop} {Q : α → Sto → Prop} (h : x = y) : fin x w Q = fin y w Q := by rw [h]
theorem fin_ok {α : Type} {a : α} {S : Sto} {w : XV → Sto → Prop} {Q : α → Sto → Prop} : fin (.ok a S) w Q = Q a S := rfl
theorem fin_er {α : Type} {c : XD} {S : Sto} {w : XV → Sto → Prop} {Q : α → Sto → Prop} : fin (.er c S) w Q = xfin c S w := rfl
theorem fin_no {α : Type} {w : XV → Sto → Prop} {Q : α → Sto → Prop} : fin .no w Q = False := rfl
theorem fin_bnd {α β : Type} {x : Out α} {k : α → Sto → Out β} {w : XV → Sto → Prop} {Q : β → Sto → Prop} : fin (bnd x k) w Q = fin x w fun a S => fin (k a S) w Q := by cases x <;> rfl
theorem fin_mono {α : Type} {x : Out α} {w w' : XV → Sto → Prop} {Q Q' : α → Sto → Prop} (h1 : ∀ c S, w c S → w' c S) (h : ∀ a S, Q a S → Q' a S) (q : fin x w Q) : fin x w' Q' := by
  cases x with
  | ok a S => exact h _ _ q
  | er c S => exact xfin_mono h1 q
  | no => exact q
def opt {α β : Type} (x : Option α) (k : α → Out β) (_ : Tag k := {}) : Out β := match x with
  | some a => k a
  | none => .no
theorem opt_congr {α β : Type} {x y : Option α} {k : α → Out β} (h : x = y) : opt x k = opt y k := by rw [h]
theorem opt_some {α β : Type} {a : α} {k : α → Out β} : opt (some a) k = k a := rfl
theorem opt_none {α β : Type} {k : α → Out β} : opt none k = .no := rfl
abbrev FV := DEnv → Sto → Out D
abbrev FB := DEnv → Sto → Out Bool
abbrev FA := DEnv → Sto → Out (List D)
def upF (w : WD) (f : FV) : TDE := fun δ S Q => fin (f δ S) (fun c S' => w c δ S') Q
def upB (w : WD) (f : FB) : TDT := fun δ S Q => fin (f δ S) (fun c S' => w c δ S') Q
def upAs (w : WD) (f : FA) : TDA := fun δ S Q => fin (f δ S) (fun c S' => w c δ S') Q
theorem upF_mono {w : WD} {f : FV} : MonoE (upF w f) := fun δ S Q Q' h q => fin_mono (fun _ _ z => z) h q
theorem upB_mono {w : WD} {f : FB} : MonoT (upB w f) := fun δ S Q Q' h q => fin_mono (fun _ _ z => z) h q
theorem upAs_mono {w : WD} {f : FA} : MonoA (upAs w f) := fun δ S Q Q' h q => fin_mono (fun _ _ z => z) h q
abbrev FE (X : Cx) (w : WD) (e : Expr) (f : FV) : Prop := DE X e (upF w f)
abbrev FT (X : Cx) (w : WD) (e : Expr) (f : FB) : Prop := DT X e (upB w f)
abbrev FW (X : Cx) (w : WD) (e : Expr) (f : FB) : Prop := DW X e (upB w f)
abbrev FAs (X : Cx) (w : WD) (es : List Expr) (f : FA) : Prop := DA X es (upAs w f)
section
variable {X : Cx} {w : WD} {e a b c : Expr} {es : List Expr} {pos : Pos}
theorem de_weak {t t' : TDE} (h : DE X e t) (m : MonoE t') (k : ∀ δ S Q, t' δ S Q → t δ S Q) : DE X e t' := ⟨m, pe_weak h.pe fun σ H Q ⟨δ, S, R, q⟩ => ⟨δ, S, R, k _ _ _ q⟩⟩
theorem dt_weak {t t' : TDT} (h : DT X e t) (m : MonoT t') (k : ∀ δ S Q, t' δ S Q → t δ S Q) : DT X e t' := ⟨m, pt_weak h.pt fun σ H Q ⟨δ, S, R, q⟩ => ⟨δ, S, R, k _ _ _ q⟩⟩
theorem dw_weak {t t' : TDT} (h : DW X e t) (m : MonoT t') (k : ∀ δ S Q, t' δ S Q → t δ S Q) : DW X e t' := ⟨m, pw_weak h.pw fun σ H Q ⟨δ, S, R, q⟩ => ⟨δ, S, R, k _ _ _ q⟩⟩
theorem da_weak {t t' : TDA} (h : DA X es t) (m : MonoA t') (k : ∀ δ S Q, t' δ S Q → t δ S Q) : DA X es t' := ⟨m, pa_weak h.pa fun σ H Q ⟨δ, S, R, q⟩ => ⟨δ, S, R, k _ _ _ q⟩⟩
def fVar (i : Nat) : FV := fun δ S => match δ[i]? with
  | some (some d) => .ok d S
  | _ => .no
def fC (d : D) : FV := fun _ S => .ok d S
theorem fv (i : Nat) {x : Str} {pos : Pos} (hN : X.N[i]? = some x := by rfl) (hv : Vis X.env.scope x := by first | exact Or.inl rfl | exact Or.inr (Or.inl rfl) | exact Or.inr (Or.inr rfl)) (hd : (x == ("__debug__" : Str)) = false := by decide)
    (hcd : (x == ("__classdict__" : Str)) = false := by decide) : FE X w (.Name x pos) (fVar i) := de_weak (dv i hN hv hd hcd) upF_mono fun δ S Q q => by
  unfold upF fVar at q
  unfold dVar
  split at q
  · rename_i d e
    first | (rw [e]; exact q) | exact q
  · exact q.elim
theorem fe_c {d : D} (h : DE X e (dC d)) : FE X w e (fC d) := de_weak h upF_mono fun δ S Q q => q
theorem fe_int {i j pos} : FE X w (.Constant (.int i) j pos) (fC (.int i)) := fe_c de_int
theorem fe_bl {b j pos} : FE X w (.Constant (.bool b) j pos) (fC (.bl b)) := fe_c de_bl
theorem fe_non {j pos} : FE X w (.Constant .none j pos) (fC .non) := fe_c de_non
theorem fe_str {x j pos} : FE X w (.Constant (.str x) j pos) (fC (.str x)) := fe_c de_str
def fBin (g : D → D → Sto → Option D) (fa fb : FV) : FV := fun δ S => bnd (fa δ S) fun x S1 => bnd (fb δ S1) fun y S2 => opt (g x y S2) fun d => .ok d S2
variable {fa fb fc : FV} {ta tb : FB}
theorem rP2_of {g : D → D → Sto → Option D} {x y : D} {S : Sto} {Q : DK} {w' : XV → Sto → Prop} (q : fin (opt (g x y S) fun d => .ok d S) w' Q) : rP2 g x y S Q := by
  unfold rP2
  cases e : g x y S with
  | none => rw [e] at q; exact q
  | some d => rw [e] at q; exact q
theorem fBin_of {g : D → D → Sto → Option D} {δ : DEnv} {S : Sto} {Q : DK} (q : upF w (fBin g fa fb) δ S Q) : dBin (rP2 g) (upF w fa) (upF w fb) δ S Q := by
  unfold upF fBin at q
  rw [fin_bnd] at q
  refine fin_mono (fun _ _ z => z) (fun x S1 q1 => ?_) q
  rw [fin_bnd] at q1
  exact fin_mono (fun _ _ z => z) (fun y S2 q2 => rP2_of q2) q1
theorem fe_op {op : Operator} {g : D → D → Sto → Option D} (ho : DOp X (binaryOp op) (rP2 g)) (ha : FE X w a fa) (hb : FE X w b fb) : FE X w (.BinOp a op b pos) (fBin g fa fb) := de_weak (de_op ho ha hb) upF_mono fun δ S Q q => fBin_of q
theorem fe_cmp {op : CmpOp} {g : D → D → Sto → Option D} (ho : DOp X (compareOp op) (rP2 g)) (ha : FE X w a fa) (hb : FE X w b fb) (hm : behindInMarks op b = false) : FE X w (.Compare a [op] [b] pos) (fBin g fa fb) := de_weak (de_cmp ho ha hb hm) upF_mono fun δ S Q q => fBin_of q
def tst (f : FV) : FB := fun δ S => bnd (f δ S) fun d S1 => match d with
  | .bl b => .ok b S1
  | _ => .no
theorem tst_of {f : FV} {δ : DEnv} {S : Sto} {Q : Bool → Sto → Prop} (q : upB w (tst f) δ S Q) : dTB (upF w f) δ S Q := by
  unfold upB tst at q
  rw [fin_bnd] at q
  refine fin_mono (fun _ _ z => z) (fun x S1 q1 => ?_) q
  cases x <;> exact q1
theorem ft_cmp {op : CmpOp} {g : D → D → Sto → Option D} (ho : DOp X (compareOp op) (rP2 g)) (ha : FE X w a fa) (hb : FE X w b fb) (hm : behindInMarks op b = false) : FT X w (.Compare a [op] [b] pos) (tst (fBin g fa fb)) := dt_weak (dt_cmp ho ha hb hm) upB_mono fun δ S Q q => by
  have q2 := tst_of q
  exact dTB_mono (dBin_mono rP2_mono upF_mono upF_mono) _ _ _ _ (fun _ _ z => z) (fBin_of q2)
theorem ft_val {f : FV} (h : FE X w e f) (he : ∀ whole, isTrue e X.env whole = (do let v ← whole; standAt e.pos; holding [v] (truthy v)) := by intro _; rfl) : FT X w e (tst f) := dt_weak (dt_val h he) upB_mono fun δ S Q q => tst_of q
def fChain (g g' : D → D → Sto → Option D) (fa fb fc : FV) : FV := fun δ S => bnd (fa δ S) fun x S1 => bnd (fb δ S1) fun y S2 => opt (g x y S2) fun d => match d with
  | .bl k => if k = true then bnd (fc δ S2) fun z S4 => opt (g' y z S4) fun d' => .ok d' S4 else .ok (.bl false) S2
  | _ => .no
theorem fChain_of {g g' : D → D → Sto → Option D} {δ : DEnv} {S : Sto} {Q : DK} (q : upF w (fChain g g' fa fb fc) δ S Q) : dChain (rP2 g) (rP2 g') (upF w fa) (upF w fb) (upF w fc) δ S Q := by
  unfold upF fChain at q
  rw [fin_bnd] at q
  refine fin_mono (fun _ _ z => z) (fun x S1 q1 => ?_) q
  rw [fin_bnd] at q1
  refine fin_mono (fun _ _ z => z) (fun y S2 q2 => ?_) q1
  unfold rP2
  cases e : g x y S2 with
  | none => rw [e] at q2; exact q2
  | some d =>
    rw [e] at q2
    cases d with
    | bl k =>
      cases k with
      | true =>
        have q3 : fin (bnd (fc δ S2) fun z S4 => opt (g' y z S4) fun d' => .ok d' S4) (fun c S' => w c δ S') Q := q2
        rw [fin_bnd] at q3
        exact fin_mono (fun _ _ z => z) (fun z S4 q4 => rP2_of q4) q3
      | false => exact q2
    | _ => exact q2
theorem fe_chain {op op' : CmpOp} {g g' : D → D → Sto → Option D} (ho : DOp X (compareOp op) (rP2 g)) (ho' : DOp X (compareOp op') (rP2 g')) (ha : FE X w a fa) (hb : FE X w b fb) (hc : FE X w c fc)
    (hm : lastMarks [op, op'] [b, c] = false := by with_unfolding_all rfl) : FE X w (.Compare a [op, op'] [b, c] pos) (fChain g g' fa fb fc) := de_weak (de_chain ho ho' ha hb hc hm) upF_mono fun δ S Q q => fChain_of q
theorem ft_chain {op op' : CmpOp} {g g' : D → D → Sto → Option D} (ho : DOp X (compareOp op) (rP2 g)) (ho' : DOp X (compareOp op') (rP2 g')) (ha : FE X w a fa) (hb : FE X w b fb) (hc : FE X w c fc)
    (hm : lastMarks [op, op'] [b, c] = false := by with_unfolding_all rfl) : FT X w (.Compare a [op, op'] [b, c] pos) (tst (fChain g g' fa fb fc)) := dt_weak (dt_chain ho ho' ha hb hc hm) upB_mono fun δ S Q q => by
  have q2 := tst_of q
  exact dTB_mono (dChain_mono rP2_mono rP2_mono upF_mono upF_mono upF_mono) _ _ _ _ (fun _ _ z => z) (fChain_of q2)
def fAnd (t u : FB) : FB := fun δ S => bnd (t δ S) fun c S1 => if c = true then u δ S1 else .ok false S1
def fOr (t u : FB) : FB := fun δ S => bnd (t δ S) fun c S1 => if c = true then .ok true S1 else u δ S1
def fNot (t : FB) : FB := fun δ S => bnd (t δ S) fun c S1 => .ok (!c) S1
theorem fw_and1 (ha : FT X w a ta) : FW X w (.BoolOp .And [a] pos) ta := dw_and1 ha
theorem fw_or1 (ha : FT X w a ta) : FW X w (.BoolOp .Or [a] pos) ta := dw_or1 ha
variable {rest : List Expr}
theorem fw_and (ha : FT X w a ta) (hb : FW X w (.BoolOp .And (b :: rest) pos) tb) : FW X w (.BoolOp .And (a :: b :: rest) pos) (fAnd ta tb) := dw_weak (dw_and ha hb) upB_mono fun δ S Q q => by
  unfold upB fAnd at q
  rw [fin_bnd] at q
  refine fin_mono (fun _ _ z => z) (fun c S1 q1 => ?_) q
  cases c <;> exact q1
theorem fw_or (ha : FT X w a ta) (hb : FW X w (.BoolOp .Or (b :: rest) pos) tb) : FW X w (.BoolOp .Or (a :: b :: rest) pos) (fOr ta tb) := dw_weak (dw_or ha hb) upB_mono fun δ S Q q => by
  unfold upB fOr at q
  rw [fin_bnd] at q
  refine fin_mono (fun _ _ z => z) (fun c S1 q1 => ?_) q
  cases c <;> exact q1
theorem ft_not (ha : FT X w a ta) : FT X w (.UnaryOp .Not a pos) (fNot ta) := dt_weak (dt_not ha) upB_mono fun δ S Q q => by
  unfold upB fNot at q
  rw [fin_bnd] at q
  exact fin_mono (fun _ _ z => z) (fun c S1 q1 => q1) q
def fAndV (fa fb : FV) : FV := fun δ S => bnd (tst fa δ S) fun c S1 => if c = true then fb δ S1 else .ok (.bl false) S1
def fOrV (fa fb : FV) : FV := fun δ S => bnd (tst fa δ S) fun c S1 => if c = true then .ok (.bl true) S1 else fb δ S1
def fNotV (fa : FV) : FV := fun δ S => bnd (tst fa δ S) fun c S1 => .ok (.bl (!c)) S1
theorem tst_in {f : FV} {δ : DEnv} {S : Sto} {Q : Bool → Sto → Prop} (q : fin (tst f δ S) (fun c S' => w c δ S') Q) : upF w f δ S (isB Q) := by
  unfold tst at q
  rw [fin_bnd] at q
  refine fin_mono (fun _ _ z => z) (fun x S1 q1 => ?_) q
  cases x <;> exact q1
theorem fe_one {op} (h : FE X w a fa) : FE X w (.BoolOp op [a] pos) fa := de_one h
theorem fe_and (ha : FE X w a fa) (hb : FE X w (.BoolOp .And (b :: rest) pos) fb) : FE X w (.BoolOp .And (a :: b :: rest) pos) (fAndV fa fb) := de_weak (de_and ha hb) upF_mono fun δ S Q q => by
  unfold upF fAndV at q
  rw [fin_bnd] at q
  refine tst_in (fin_mono (fun _ _ z => z) (fun c S1 q1 => ?_) q)
  cases c <;> exact q1
theorem fe_or (ha : FE X w a fa) (hb : FE X w (.BoolOp .Or (b :: rest) pos) fb) : FE X w (.BoolOp .Or (a :: b :: rest) pos) (fOrV fa fb) := de_weak (de_or ha hb) upF_mono fun δ S Q q => by
  unfold upF fOrV at q
  rw [fin_bnd] at q
  refine tst_in (fin_mono (fun _ _ z => z) (fun c S1 q1 => ?_) q)
  cases c <;> exact q1
theorem fe_not (ha : FE X w a fa) : FE X w (.UnaryOp .Not a pos) (fNotV fa) := de_weak (de_not ha) upF_mono fun δ S Q q => by
  unfold upF fNotV at q
  rw [fin_bnd] at q
  exact tst_in q
def fIf (t : FB) (fa fb : FV) : FV := fun δ S => bnd (t δ S) fun c S1 => if c = true then fa δ S1 else fb δ S1
theorem fe_if (hc : FT X w c ta) (ha : FE X w a fa) (hb : FE X w b fb) : FE X w (.IfExp c a b pos) (fIf ta fa fb) := de_weak (de_ifExp hc ha hb) upF_mono fun δ S Q q => by
  unfold upF fIf at q
  rw [fin_bnd] at q
  refine fin_mono (fun _ _ z => z) (fun c S1 q1 => ?_) q
  cases c <;> exact q1
def fNeg (fa : FV) : FV := fun δ S => bnd (fa δ S) fun d S1 => match d with
  | .int i => .ok (.int (-i)) S1
  | _ => .no
theorem fe_neg (ha : FE X w a fa) : FE X w (.UnaryOp .USub a pos) (fNeg fa) := de_weak (de_neg ha) upF_mono fun δ S Q q => by
  unfold upF fNeg at q
  rw [fin_bnd] at q
  refine fin_mono (fun _ _ z => z) (fun x S1 q1 => ?_) q
  cases x <;> exact q1
def fNil : FA := fun _ S => .ok [] S
def fCons (fa : FV) (fr : FA) : FA := fun δ S => bnd (fa δ S) fun x S1 => bnd (fr δ S1) fun xs S2 => .ok (x :: xs) S2
theorem fa_nil : FAs X w [] fNil := da_weak da_nil upAs_mono fun δ S Q q => q
theorem fa_cons {f : FV} {fr : FA} (ha : FE X w e f) (hr : FAs X w es fr) (hs : starEach (e :: es) X.env = (false, eval e X.env) :: starEach es X.env := by rfl) : FAs X w (e :: es) (fCons f fr) := da_weak (da_cons ha hr hs) upAs_mono fun δ S Q q => by
  unfold upAs fCons at q
  rw [fin_bnd] at q
  refine fin_mono (fun _ _ z => z) (fun x S1 q1 => ?_) q
  rw [fin_bnd] at q1
  exact fin_mono (fun _ _ z => z) (fun xs S2 q2 => q2) q1
def fTup (fr : FA) : FV := fun δ S => bnd (fr δ S) fun xs S1 => if xs.length ≤ sizeLine then .ok (.tup xs) S1 else .no
theorem fe_tup {fr : FA} {x1} (h : FAs X w es fr) : FE X w (.Tuple es x1 pos) (fTup fr) := de_weak (de_tup h) upF_mono fun δ S Q q => by
  unfold upF fTup at q
  rw [fin_bnd] at q
  refine fin_mono (fun _ _ z => z) (fun xs S1 q1 => ?_) q
  by_cases l : xs.length ≤ sizeLine
  · rw [if_pos l] at q1; exact ⟨l, q1⟩
  · rw [if_neg l] at q1; exact q1.elim
end
end DL
set_option maxRecDepth 100000
namespace DL
open PySem L2
section
variable {X : Cx} {e : Expr} {t : TDE}
def dlS (S : Sto) (p : Addr) : Sto := fun a => if a = p then none else S a
theorem dlS_sup {S : Sto} {p : Addr} {o : DO} (h : S p = none) : dlS (sup S p o) p = S := by
  funext a
  unfold dlS sup
  by_cases z : a = p
  · rw [if_pos z, z, h]
  · rw [if_neg z, if_neg z]
def frzK (Q : DK) : DK := fun d S1 => match d with
  | .ref p => match S1 p with
    | some (.lst xs) => Q (.lis xs) (dlS S1 p)
    | _ => Q d S1
  | _ => Q d S1
def dFrz (t : TDE) : TDE := fun δ S Q => t δ S (frzK Q)
theorem frzK_mono {Q Q' : DK} (h : ∀ d S, Q d S → Q' d S) : ∀ d S, frzK Q d S → frzK Q' d S := fun d S q => by
  unfold frzK at *
  split at q
  · split at q
    · exact h _ _ q
    · exact h _ _ q
  · exact h _ _ q
theorem rel_lock {δ : DEnv} {S : Sto} {σ : St} {H : Hp} {p : Addr} {od : Obj} {u : HO} {o : DO} (R : Rel X δ S σ H) (h : H p = some u) (e : S p = some o) (hm : o.Mut) : Rel X δ (dlS S p) σ (upd H p (.frz od u)) := by
  have t : TupP X.K H (upd H p (.frz od u)) := R.tup_change e hm
  refine R.next t fun a x q => ?_
  unfold dlS at q
  split at q
  · cases q
  · rename_i ne
    exact (R.sto a x q).keep t (upd_ne ne)
theorem de_frz (h : DE X e t) : DE X e (dFrz t) := by
  refine ⟨fun δ S Q Q' k q => h.mono _ _ _ _ (frzK_mono k) q, ⟨fun pins s σ H Q I ⟨δ, S, R, q⟩ => ?_⟩⟩
  refine wpAny_mono (h.pe.run pins s σ H (fun v H1 => ∃ d S1, Rel X δ S1 σ H1 ∧ Dv X.K H1 d v ∧ TupP X.K H H1 ∧ frzK (kE X δ σ H Q) d S1) I (h.sub R q fun d S1 v H1 q1 R1 r1 t1 => ⟨d, S1, R1, r1, t1, q1⟩)) (fun u s' ⟨v, H1, I1, rv, d, S1, R1, r1, t1, q1⟩ => ?_) fun _ _ z => z
  unfold frzK at q1
  split at q1
  · rename_i p
    rw [dv_ref] at r1
    split at q1
    · rename_i xs e1
      obtain ⟨vs, h1, d1⟩ := R1.sto _ _ e1
      obtain ⟨od, I2⟩ := I1.lock h1 trivial
      have t2 : TupP X.K H1 (upd H1 p (.frz od (.lst vs))) := R1.tup_change e1
      exact ⟨v, _, I2, rv, q1 v _ (rel_lock R1 h1 e1 trivial) (dv_lis.mpr ⟨p, vs, r1, ⟨od, upd_same⟩, d1.mono t2⟩) (t1.trans t2)⟩
    · exact ⟨v, H1, I1, rv, q1 v H1 R1 (dv_ref.mpr r1) t1⟩
  · exact ⟨v, H1, I1, rv, q1 v H1 R1 r1 t1⟩
def seqL (S : Sto) : D → Option (List D)
  | .lis xs => some xs
  | .fro xs => some xs
  | .ref a => match S a with
    | some (.lst xs) => some xs
    | _ => none
  | _ => none
def seqM (S : Sto) : D → Option (List D)
  | .lis xs => some xs
  | .ref a => match S a with
    | some (.lst xs) => some xs
    | _ => none
  | _ => none
def seqA (S : Sto) : D → Option (List D)
  | .tup xs => some xs
  | d => seqL S d
variable {δ : DEnv} {S : Sto} {σ : St} {H : Hp} {d : D} {v : V} {xs : List D}
theorem FzL.f {K : PySem.W.Frag} {a : Addr} {vs : List V} (h : FzL H a vs) : SqF K H a vs := .inl h
theorem seqL_ok (R : Rel X δ S σ H) (h : Dv X.K H d v) (e : seqL S d = some xs) : ∃ a vs, v = .ref a ∧ Dvs X.K H xs vs ∧ SqL X.K H a vs := by
  cases d with
  | lis ys =>
    cases e
    obtain ⟨a, vs, rfl, f, z⟩ := dv_lis.mp h
    exact ⟨a, vs, rfl, z, (FzL.f f).l⟩
  | fro ys =>
    cases e
    obtain ⟨a, vs, rfl, f, z⟩ := dv_fro.mp h
    exact ⟨a, vs, rfl, z, f.l⟩
  | ref a =>
    rw [dv_ref] at h
    simp only [seqL] at e
    split at e
    · rename_i ys e1
      cases e
      obtain ⟨vs, h1, h2⟩ := R.sto _ _ e1
      exact ⟨a, vs, h, h2, SqL.of h1⟩
    · cases e
  | _ => cases e
theorem seqM_ok (R : Rel X δ S σ H) (h : Dv X.K H d v) (e : seqM S d = some xs) : ∃ a vs, v = .ref a ∧ Dvs X.K H xs vs ∧ Rd H a (.lst vs) := by
  cases d with
  | lis ys =>
    cases e
    obtain ⟨a, vs, rfl, ⟨o, f⟩, z⟩ := dv_lis.mp h
    exact ⟨a, vs, rfl, z, .inr ⟨o, f⟩⟩
  | ref a =>
    rw [dv_ref] at h
    simp only [seqM] at e
    split at e
    · rename_i ys e1
      cases e
      obtain ⟨vs, h1, h2⟩ := R.sto _ _ e1
      exact ⟨a, vs, h, h2, .inl h1⟩
    · cases e
  | _ => cases e
theorem seqA_ok (R : Rel X δ S σ H) (h : Dv X.K H d v) (e : seqA S d = some xs) : ∃ a vs, v = .ref a ∧ Dvs X.K H xs vs ∧ (SqL X.K H a vs ∨ SqT X.K H a vs) := by
  cases d with
  | tup ys =>
    cases e
    obtain ⟨a, vs, rfl, f, z⟩ := dv_tup.mp h
    exact ⟨a, vs, rfl, z, .inr f⟩
  | _ =>
    obtain ⟨a, vs, e1, z, q⟩ := seqL_ok R h e
    exact ⟨a, vs, e1, z, .inl q⟩
theorem lis_new {pins : List (Addr × Obj)} {σ' : St} {s : Shared} {vs : List V} {its : List Value} {ds : List D} {t' : Nat} {Q : V → Hp → Prop} (I : Inv X pins σ H s) (R : Rel X δ S σ' H) (rv : Vals vs its) (hz : vs.length ≤ sizeLine) (hd : Dvs X.K H ds vs)
    (q : ∀ v H', Rel X δ S σ' H' → Dv X.K H' (.lis ds) v → TupP X.K H H' → Q v H') : EP X pins σ Q (.ref s.heap.objs.size) { s with heap := s.heap.push { cls := .type "list", data := .seq its.toArray }, toks := t' } := by
  have n : H s.heap.objs.size = none := I.hok.fresh (Nat.le_refl _)
  have t : TupP X.K H (upd H s.heap.objs.size (.frz { cls := .type "list", data := .seq its.toArray } (.lst vs))) := TupP.laid n
  exact ⟨.ref s.heap.objs.size, _, I.laid (o := .frz { cls := .type "list", data := .seq its.toArray } (.lst vs)) (fun b o e => Heap.get?_push_of_some _ e) (Nat.le_refl _) ⟨Heap.get?_push_size _ rfl, hz, its, 0, rv, Heap.get?_push_size _ rfl⟩, rfl,
    q _ _ (R.laid n) (dv_lis.mpr ⟨_, vs, rfl, ⟨_, upd_same⟩, hd.mono t⟩) t⟩
theorem dop_f {F : Value → Value → Sem Value} {g : D → D → Sto → Option D} (h : ∀ (pins : List (Addr × Obj)) (s : Shared) (σ σ' : St) (H : Hp) (δ : DEnv) (S : Sto) (x y d : D) (v v' : V) (u u' : Value) (Q : VK), Inv X pins σ H s → Rel X δ S σ' H → Dv X.K H x v → Dv X.K H y v' → RelV v u → RelV v' u' → g x y S = some d →
    (∀ z H', Rel X δ S σ' H' → Dv X.K H' d z → TupP X.K H H' → Q z H') → wpAny (model X.prog X.w) X.A (F u u') (EP X pins σ Q) X.xe s) : DOp X F (rP2 g) :=
  ⟨rP2_mono, fun pins s σ H x y v u Q I rx ry ⟨δ, S, σ', dx, dy, R, hx, hy, q⟩ => by
    unfold rP2 at q
    split at q
    · rename_i d e
      exact h pins s σ σ' H δ S dx dy d _ _ _ _ Q I R hx hy rx ry e fun z H' R' r' t' => q z H' R' r' t'
    · exact q.elim⟩
theorem dop_g {F : Value → Value → Sem Value} {r : RD2} {g : D → D → Sto → Option D} (h : DOp X F r) (k : ∀ x y S Q d, g x y S = some d → Q d S → r x y S Q) : DOp X F (rP2 g) :=
  ⟨rP2_mono, fun pins s σ H x y v u Q I rx ry ⟨δ, S, σ', dx, dy, R, hx, hy, q⟩ => by
    unfold rP2 at q
    split at q
    · rename_i d e
      exact h.run pins s σ H x y v u Q I rx ry ⟨δ, S, σ', dx, dy, R, hx, hy, k _ _ _ _ _ e q⟩
    · exact q.elim⟩
def gInt (C : Int → Int → Prop) [∀ i j, Decidable (C i j)] (g : Int → Int → D) : D → D → Sto → Option D := fun x y _ => match x, y with
  | .int i, .int j => if C i j then some (g i j) else none
  | _, _ => none
theorem dop_i {F : Value → Value → Sem Value} {C : Int → Int → Prop} [∀ i j, Decidable (C i j)] {g : Int → Int → D} (h : DOp X F (rIntD C g)) : DOp X F (rP2 (gInt C g)) := dop_g h fun x y S Q d e q => by
  unfold gInt at e
  split at e
  · split at e
    · rename_i c
      cases e
      exact ⟨c, q⟩
    · cases e
  · cases e
instance : DecidablePred fun p : Int × Int => CMul p.1 p.2 := fun p => by unfold CMul; infer_instance
theorem fop_sub : DOp X (binaryOp .Sub) (rP2 (gInt (fun _ _ => True) fun i j => .int (i - j))) := dop_i dop_sub
theorem fop_mod : DOp X (binaryOp .Mod) (rP2 (gInt (fun _ j => 0 < j) fun i j => .int (i % j))) := dop_i dop_mod
instance (i j : Int) : Decidable (CDiv i j) := by unfold CDiv; infer_instance
instance (i j : Int) : Decidable (CPow i j) := by unfold CPow; infer_instance
instance (i j : Int) : Decidable (CMul i j) := by unfold CMul; infer_instance
theorem fop_fdiv : DOp X (binaryOp .FloorDiv) (rP2 (gInt CDiv fun i j => .int (i / j))) := dop_i dop_fdiv
theorem fop_pow : DOp X (binaryOp .Pow) (rP2 (gInt CPow fun i j => .int (i ^ j.toNat))) := dop_i dop_pow
def gAdd : D → D → Sto → Option D := fun x y S => match x, y with
  | .int i, .int j => some (.int (i + j))
  | .str a, .str b => if a.length + b.length ≤ sizeLine then some (.str (a ++ b)) else none
  | .tup xs, .tup ys => if xs.length + ys.length ≤ sizeLine then some (.tup (xs ++ ys)) else none
  | x, y => (seqM S x).bind fun xs => (seqM S y).bind fun ys => if xs.length + ys.length ≤ sizeLine then some (.lis (xs ++ ys)) else none
theorem fop_add : DOp X (binaryOp .Add) (rP2 gAdd) := dop_f fun pins s σ σ' H δ S x y d v v' u u' Q I R hx hy rx ry e q => by
  have old : ∀ Q0 : DK, rAddD x y S Q0 → (Q0 = kE X δ σ' H Q) → wpAny (model X.prog X.w) X.A (binaryOp .Add u u') (EP X pins σ Q) X.xe s := fun Q0 h0 e0 => by
    subst e0
    exact dop_add.run pins s σ H _ _ _ _ Q I rx ry ⟨δ, S, σ', x, y, R, hx, hy, h0⟩
  have qk : kE X δ σ' H Q d S := fun z H' R' r' t' => q z H' R' r' t'
  unfold gAdd at e
  split at e
  · cases e; exact old (kE X δ σ' H Q) qk rfl
  · split at e
    · rename_i l
      cases e; exact old (kE X δ σ' H Q) ⟨l, qk⟩ rfl
    · cases e
  · split at e
    · rename_i l
      cases e; exact old (kE X δ σ' H Q) ⟨l, qk⟩ rfl
    · cases e
  · obtain ⟨xs, e1, e⟩ := Option.bind_eq_some_iff.mp e
    obtain ⟨ys, e2, e⟩ := Option.bind_eq_some_iff.mp e
    split at e
    · rename_i l
      cases e
      obtain ⟨a, vs, rfl, d1, h1⟩ := seqM_ok R hx e1
      obtain ⟨b, ws, rfl, d2, h2⟩ := seqM_ok R hy e2
      cases rx
      cases ry
      obtain ⟨_, its, n, r1, g1⟩ := Rd.ok h1 I.hok
      obtain ⟨_, its2, n2, r2, g2⟩ := Rd.ok h2 I.hok
      have hl : vs.length + ws.length ≤ sizeLine := by rw [← d1.length, ← d2.length]; exact l
      refine PySem.P.add_list g1 g2 ?_ (by rw [List.size_toArray, List.size_toArray, ← r1.length, ← r2.length]; exact hl)
      have ea : its.toArray ++ its2.toArray = (its ++ its2).toArray := by simp
      rw [ea]
      exact lis_new (t' := s.toks) I R (r1.append r2) (by rw [List.length_append]; exact hl) (d1.append d2) q
    · cases e
def gMul : D → D → Sto → Option D := fun x y S => match x, y with
  | .int i, .int j => if CMul i j then some (.int (i * j)) else none
  | .tup xs, .int k => if xs ≠ [] ∧ 2 ≤ k ∧ k ≤ 1000 ∧ xs.length ≤ 1000 then some (.tup (List.replicate k.toNat xs).flatten) else none
  | x, .int k => (seqM S x).bind fun xs => if -(2 ^ 63) ≤ k ∧ k < 2 ^ 63 ∧ xs.length * k.toNat ≤ sizeLine then some (.lis (List.replicate k.toNat xs).flatten) else none
  | _, _ => none
theorem rep_list {pins : List (Addr × Obj)} {σ' : St} {s : Shared} {l : Addr} {vs : List V} {ds : List D} {k : Int} {tk : Tok} {Q : V → Hp → Prop} (I : Inv X pins σ H s) (R : Rel X δ S σ' H) (hv : Rd H l (.lst vs)) (hd : Dvs X.K H ds vs) (lo : -(2 ^ 63) ≤ k) (hi : k < 2 ^ 63) (sz : ds.length * k.toNat ≤ sizeLine)
    (q : ∀ v H', Rel X δ S σ' H' → Dv X.K H' (.lis (List.replicate k.toNat ds).flatten) v → TupP X.K H H' → Q v H') : wpAny (model X.prog X.w) X.A (binaryOp .Mult (.ref l) (.int k tk)) (EP X pins σ Q) X.xe s := by
  obtain ⟨_, us, n, rv, g⟩ := Rd.ok hv I.hok
  have ln : us.length = ds.length := by rw [hd.length]; exact rv.length.symm
  have z1 : us.toArray.size * k.toNat ≤ sizeLine := by rw [List.size_toArray, ln]; exact sz
  have z2 : ¬ us.toArray.size * k.toNat > (2 ^ 63 - 1) / 8 := by
    have w1 : (sizeLine : Nat) ≤ (2 ^ 63 - 1) / 8 := by decide
    omega
  have z3 : ¬ (!Builtin.List.listFitsIndex k) = true := by rw [fitsIndex_both lo hi]; exact Bool.false_ne_true
  have z4 : ¬ Builtin.List.listTooLong (us.toArray.size * k.toNat) = true := by rw [notLongL z1]; exact Bool.false_ne_true
  have ev : List.foldl (fun a b => a ++ b) #[] (List.replicate (if us.toArray.isEmpty = true then 0 else k.toNat) us.toArray) = (List.replicate k.toNat us).flatten.toArray := by
    rw [size_rep]
    cases us with
    | nil => simp
    | cons a r => rw [if_neg (by simp)]
  refine PySem.wpAny_binaryOp_repeat_ref (U := "int") (T := "list") (by decide) ⟨_, g, rfl⟩ (fun z => PySem.typeIs_int z k tk) PySem.noFill_list_mul PySem.F.fills_int_mul PySem.F.slot_int_rmul PySem.repeat_list PySem.F.slot_int_index.lookup
    (PySem.call_meets PySem.F.slot_int_rmul (PySem.typeIs_int s k tk) PySem.F.entry_int_rmul (PySem.F.args_int_rmul_2 _ _) (PySem.int___rmul___int_list k tk l us.toArray n)
      ⟨g, rfl, ⟨_, g, rfl⟩, PySem.call_meets PySem.F.slot_list_mul ⟨_, g, rfl⟩ PySem.F.entry_list_mul (PySem.F.args_list_mul_2 _ _) (PySem.AutoListH.list___mul___list_int_3 l us.toArray n k tk z3 z2 z4) ⟨g, ?_⟩⟩)
  rw [ev]
  exact lis_new (t' := s.toks) I R (rv.rep k.toNat) (by rw [PyProof.Rows.lm_len_rep_flat, Nat.mul_comm, ← hd.length]; exact sz) (hd.times k.toNat) q
theorem fop_mul : DOp X (binaryOp .Mult) (rP2 gMul) := dop_f fun pins s σ σ' H δ S x y d v v' u u' Q I R hx hy rx ry e q => by
  have qk : kE X δ σ' H Q d S := fun z H' R' r' t' => q z H' R' r' t'
  unfold gMul at e
  split at e
  · split at e
    · rename_i c
      cases e
      exact dop_mulA.run pins s σ H _ _ _ _ Q I rx ry ⟨δ, S, σ', _, _, R, hx, hy, ⟨c, qk⟩⟩
    · cases e
  · split at e
    · rename_i c
      cases e
      exact dop_mulA.run pins s σ H _ _ _ _ Q I rx ry ⟨δ, S, σ', _, _, R, hx, hy, ⟨c.1, c.2.1, c.2.2.1, c.2.2.2, qk⟩⟩
    · cases e
  · obtain ⟨xs, e1, e⟩ := Option.bind_eq_some_iff.mp e
    split at e
    · rename_i c
      cases e
      obtain ⟨a, vs, rfl, d1, h1⟩ := seqM_ok R hx e1
      rw [dv_int] at hy
      subst hy
      obtain ⟨tk, rfl⟩ := ry
      cases rx
      exact rep_list I R h1 d1 c.1 c.2.1 c.2.2 q
    · cases e
  · cases e
end
end DL
set_option maxRecDepth 100000
namespace DL
open PySem L2
section
variable {X : Cx} {w : WD} {e a b c o : Expr} {es : List Expr} {pos apos cpos p : Pos} {fa fb fo : FV} {fr : FA}
def gEq (neg : Bool) : D → D → Sto → Option D := fun x y S => match x, y with
  | .int i, .int j => some (.bl (if neg then !decide (i = j) else decide (i = j)))
  | .str i, .str j => some (.bl (if neg then !decide (i = j) else decide (i = j)))
  | .bl i, .bl j => some (.bl (if neg then !decide (i = j) else decide (i = j)))
  | x, y => (dataD S x).bind fun a => (dataD S y).bind fun b => if SeqAt.shaped a = true ∧ SeqAt.shaped b = true then some (.bl (if neg then !PyData.eqv a b else PyData.eqv a b)) else none
theorem gEq_of {neg : Bool} {x y : D} {S : Sto} {Q : DK} {d : D} (e : gEq neg x y S = some d) (q : Q d S) : rEqD' neg x y S Q := by
  unfold gEq at e
  unfold rEqD'
  split at e
  · cases e; exact q
  · cases e; exact q
  · cases e; exact q
  · rename_i h1 h2 h3
    obtain ⟨a, e1, e⟩ := Option.bind_eq_some_iff.mp e
    obtain ⟨b, e2, e⟩ := Option.bind_eq_some_iff.mp e
    split at e
    · rename_i l
      cases e
      first
        | (rw [e1, e2]; exact ⟨l.1, l.2, q⟩)
        | (split
           · exact (h1 _ _ rfl rfl).elim
           · exact (h2 _ _ rfl rfl).elim
           · exact (h3 _ _ rfl rfl).elim
           · rw [e1, e2]
             exact ⟨l.1, l.2, q⟩)
    · cases e
theorem fop_eq (hu : X.A.units + 64 < cLine) : DOp X (compareOp .Eq) (rP2 (gEq false)) := dop_g (dop_eq hu) fun x y S Q d e q => gEq_of e q
theorem fop_ne (hu : X.A.units + 64 < cLine) : DOp X (compareOp .NotEq) (rP2 (gEq true)) := dop_g (dop_ne hu) fun x y S Q d e q => gEq_of e q
def gIs (neg : Bool) : D → D → Sto → Option D := fun x y _ => match y with
  | .non => some (.bl (if neg then !isN x else isN x))
  | _ => none
theorem gIs_of {neg : Bool} {x y : D} {S : Sto} {Q : DK} {d : D} (e : gIs neg x y S = some d) (q : Q d S) : rIsN neg x y S Q := by
  cases y <;> first | (cases e; exact q) | cases e
theorem fop_is : DOp X (compareOp .Is) (rP2 (gIs false)) := dop_g dop_is fun x y S Q d e q => gIs_of e q
theorem fop_isnot : DOp X (compareOp .IsNot) (rP2 (gIs true)) := dop_g dop_isnot fun x y S Q d e q => gIs_of e q
def gIn (neg : Bool) : D → D → Sto → Option D := fun x y S => (inD S x y).map fun b => .bl (if neg then !b else b)
theorem gIn_of {neg : Bool} {x y : D} {S : Sto} {Q : DK} {d : D} (e : gIn neg x y S = some d) (q : Q d S) : rIn' neg x y S Q := by
  obtain ⟨b, e1, rfl⟩ := Option.map_eq_some_iff.mp e
  unfold rIn'
  rw [e1]
  exact q
theorem fop_in (hu : X.A.units + 65 < cLine) : DOp X (compareOp .In) (rP2 (gIn false)) := dop_g (dop_in hu) fun x y S Q d e q => gIn_of e q
theorem fop_notin (hu : X.A.units + 65 < cLine) : DOp X (compareOp .NotIn) (rP2 (gIn true)) := dop_g (dop_notin hu) fun x y S Q d e q => gIn_of e q
def gIx (x y : D) (S : Sto) : Option D := match x, y with
  | .str z, .int i => if z.length ≤ sizeLine then (atI z.cps.toList i).map fun c => .str ⟨#[c]⟩ else none
  | x, .int i => (seqA S x).bind fun xs => atI xs i
  | _, _ => none
def gSub (x y : D) (S : Sto) : Option D := match lookD S x y with
  | some r => r
  | none => gIx x y S
theorem gIx_of {x y : D} {S : Sto} {Q : DK} {d : D} (e : gIx x y S = some d) (q : Q d S) : rIxD x y S Q := by
  cases y with
  | int i =>
    cases x with
    | str z =>
      simp only [gIx] at e
      split at e
      · rename_i l
        obtain ⟨c, e1, rfl⟩ := Option.map_eq_some_iff.mp e
        refine ⟨l, ?_⟩
        rw [e1]
        exact q
      · cases e
    | tup xs =>
      have e : (seqA S (.tup xs)).bind (fun zs => atI zs i) = some d := e
      obtain ⟨ys, e1, e2⟩ := Option.bind_eq_some_iff.mp e
      obtain rfl : xs = ys := Option.some.inj e1
      unfold rIxD
      simp only [e2]
      exact q
    | fro xs =>
      have e : (seqA S (.fro xs)).bind (fun zs => atI zs i) = some d := e
      obtain ⟨ys, e1, e2⟩ := Option.bind_eq_some_iff.mp e
      obtain rfl : xs = ys := Option.some.inj e1
      unfold rIxD
      simp only [e2]
      exact q
    | lis xs =>
      have e : (seqA S (.lis xs)).bind (fun zs => atI zs i) = some d := e
      obtain ⟨ys, e1, e2⟩ := Option.bind_eq_some_iff.mp e
      obtain rfl : xs = ys := Option.some.inj e1
      unfold rIxD
      simp only [e2]
      exact q
    | ref a =>
      have e : (seqA S (.ref a)).bind (fun zs => atI zs i) = some d := e
      obtain ⟨ys, e1, e2⟩ := Option.bind_eq_some_iff.mp e
      simp only [seqA, seqL] at e1
      split at e1
      · rename_i zs e3
        cases e1
        unfold rIxD
        simp only [e3, e2]
        exact q
      · cases e1
    | _ => cases e
  | _ => cases x <;> cases e
theorem gSub_of {x y : D} {S : Sto} {Q : DK} {d : D} (e : gSub x y S = some d) (q : Q d S) : rSubD x y S Q := by
  unfold gSub at e
  unfold rSubD
  split at e
  · rename_i r e1
    first | (rw [e1]; subst e; exact q) | (subst e; exact q)
  · rename_i e1
    first | (rw [e1]; exact gIx_of e q) | exact gIx_of e q
def fSub (fa fb : FV) : FV := fBin gSub fa fb
theorem fe_sub (hu : X.A.units + 64 < cLine) (ha : FE X w a fa) (hb : FE X w b fb) (hs : PlainIx b := by exact fun _ _ => rfl) : FE X w (.Subscript a b pos) (fSub fa fb) := de_weak (de_sub hu ha hb hs) upF_mono fun δ S Q q => by
  have q2 := fBin_of (g := gSub) q
  refine dBin_mono (r := rP2 gSub) rP2_mono upF_mono upF_mono _ _ _ _ (fun _ _ z => z) q2 |> fun q3 => ?_
  unfold dBin at q3 ⊢
  refine upF_mono _ _ _ _ (fun x S1 q4 => upF_mono _ _ _ _ (fun y S2 q5 => ?_) q4) q3
  unfold rP2 at q5
  split at q5
  · rename_i d e
    exact gSub_of e q5
  · exact q5.elim
def fEnd (f : FV) : DEnv → Sto → Out (Option Int) := fun δ S => bnd (f δ S) fun d S1 => match d with
  | .int i => .ok (some i) S1
  | _ => .no
def fNoEnd : DEnv → Sto → Out (Option Int) := fun _ S => .ok none S
def upO' (w : WD) (f : DEnv → Sto → Out (Option Int)) : TDO := fun δ S Q => fin (f δ S) (fun c S' => w c δ S') Q
theorem po_weak {x : Option Expr} {t t' : TO} (h : PO X x t) (k : ∀ σ H Q, t' σ H Q → t σ H Q) : PO X x t' := ⟨fun pins s σ H Q I q => h.run pins s σ H Q I (k _ _ _ q)⟩
theorem dpo_weak {x : Option Expr} {t t' : TDO} (h : DPo X x t) (m : MonoO t') (k : ∀ δ S Q, t' δ S Q → t δ S Q) : DPo X x t' := ⟨m, po_weak h.po fun σ H Q ⟨δ, S, R, q⟩ => ⟨δ, S, R, k _ _ _ q⟩⟩
theorem upO'_mono {f : DEnv → Sto → Out (Option Int)} : MonoO (upO' w f) := fun δ S Q Q' h q => fin_mono (fun _ _ z => z) h q
theorem fo_none : DPo X none (upO' w fNoEnd) := dpo_weak do_none upO'_mono fun δ S Q q => q
theorem fo_some (ha : FE X w a fa) : DPo X (some a) (upO' w (fEnd fa)) := dpo_weak (do_some ha) upO'_mono fun δ S Q q => by
  unfold upO' fEnd at q
  rw [fin_bnd] at q
  refine fin_mono (fun _ _ z => z) (fun d S1 q1 => ?_) q
  cases d <;> exact q1
def gSl (x : D) (lo hi : Option Int) (S : Sto) : Option D := match x with
  | .tup xs => some (.tup (cutD xs lo hi))
  | .str z => if z.length ≤ sizeLine then some (.str (cutS z lo hi)) else none
  | x => (seqM S x).map fun xs => .lis (cutD xs lo hi)
def fSl (fe : FV) (fl fh : DEnv → Sto → Out (Option Int)) : FV := fun δ S => bnd (fe δ S) fun x S1 => bnd (fl δ S1) fun l S2 => bnd (fh δ S2) fun u S3 => opt (gSl x l u S3) fun d => .ok d S3
theorem gSl_of {x d : D} {lo hi : Option Int} {S : Sto} {Q : DK} (e : gSl x lo hi S = some d) (q : Q d S) : rSlD x lo hi S (frzK Q) := by
  have new : ∀ xs : List D, Q (.lis (cutD xs lo hi)) S → ∀ p, S p = none → frzK Q (.ref p) (sup S p (.lst (cutD xs lo hi))) := fun xs q p hp => by
    simp only [frzK, sup_same]
    rw [dlS_sup hp]
    exact q
  cases x with
  | tup xs => cases e; exact q
  | str z =>
    simp only [gSl] at e
    split at e
    · rename_i l
      cases e
      exact ⟨l, q⟩
    · cases e
  | lis xs => cases e; exact new _ q
  | ref a =>
    obtain ⟨xs, e1, rfl⟩ := Option.map_eq_some_iff.mp e
    simp only [seqM] at e1
    split at e1
    · rename_i ys e2
      cases e1
      simp only [rSlD, e2]
      exact new _ q
    · cases e1
  | _ => cases e
theorem fe_slice {lo hi : Option Expr} {fl fh : DEnv → Sto → Out (Option Int)} {p2 : Pos} (he : FE X w e fa) (hl : DPo X lo (upO' w fl)) (hh : DPo X hi (upO' w fh)) : FE X w (.Subscript e (.Slice lo hi none p2) pos) (fSl fa fl fh) := de_weak (de_frz (de_slice he hl hh)) upF_mono fun δ S Q q => by
  unfold upF fSl at q
  rw [fin_bnd] at q
  refine fin_mono (fun _ _ z => z) (fun x S1 q1 => ?_) q
  rw [fin_bnd] at q1
  refine fin_mono (fun _ _ z => z) (fun l S2 q2 => ?_) q1
  rw [fin_bnd] at q2
  refine fin_mono (fun _ _ z => z) (fun u S3 q3 => ?_) q2
  cases e1 : gSl x l u S3 with
  | none => rw [e1] at q3; exact q3.elim
  | some d => rw [e1] at q3; exact gSl_of e1 q3
def fLst (fr : FA) : FV := fun δ S => bnd (fr δ S) fun xs S1 => if xs.length ≤ sizeLine then .ok (.lis xs) S1 else .no
theorem fe_lst (h : FAs X w es fr) : FE X w (.List es pos) (fLst fr) := de_weak (de_frz (de_lst h)) upF_mono fun δ S Q q => by
  unfold upF fLst at q
  rw [fin_bnd] at q
  refine fin_mono (fun _ _ z => z) (fun xs S1 q1 => ?_) q
  by_cases l : xs.length ≤ sizeLine
  · rw [if_pos l] at q1
    refine ⟨l, fun p hp => ?_⟩
    simp only [frzK, sup_same]
    rw [dlS_sup hp]
    exact q1
  · rw [if_neg l] at q1; exact q1.elim
def fCB (g : List D → Sto → Option D) (fr : FA) : FV := fun δ S => bnd (fr δ S) fun ds S1 => opt (g ds S1) fun d => .ok d S1
theorem fCB_of {g : List D → Sto → Option D} {δ : DEnv} {S : Sto} {Q : DK} (q : upF w (fCB g fr) δ S Q) : dCB (rV g) (upAs w fr) δ S Q := by
  unfold upF fCB at q
  rw [fin_bnd] at q
  refine fin_mono (fun _ _ z => z) (fun ds S1 q1 => ?_) q
  unfold rV
  cases e1 : g ds S1 with
  | none => rw [e1] at q1; exact q1
  | some d => rw [e1] at q1; exact q1
theorem fe_callB {x id : String} {g : List D → Sto → Option D} (hc : DCall X (.builtin id) (rV g)) (hg : Gl X x) (hm : X.mg x = none) (hv : bootBuiltins x = some (.builtin id)) (ha : FAs X w (e :: es) fr) (hn : (x : Str) ≠ "__name__" := by decide) (hdb : ((x : Str) == ("__debug__" : Str)) = false := by decide)
    (he : starEach (e :: es) X.env = (false, eval e X.env) :: starEach es X.env := by rfl) (hpl : (backTo pos (starEach es X.env)).any (·.1) = false := by rfl) : FE X w (.Call (.Name x p) (e :: es) [] pos) (fCB g fr) := de_weak (de_callB hc hg hm hv ha hn hdb he hpl) upF_mono fun δ S Q q => fCB_of q
theorem fe_callTy {x T : String} {g : List D → Sto → Option D} (hc : DCall X (.type T) (rV g)) (hg : Gl X x) (hm : X.mg x = none) (hv : bootBuiltins x = some (.type T)) (ha : FAs X w (e :: es) fr) (hn : (x : Str) ≠ "__name__" := by decide) (hdb : ((x : Str) == ("__debug__" : Str)) = false := by decide)
    (he : starEach (e :: es) X.env = (false, eval e X.env) :: starEach es X.env := by rfl) (hpl : (backTo pos (starEach es X.env)).any (·.1) = false := by rfl) : FE X w (.Call (.Name x p) (e :: es) [] pos) (fCB g fr) := de_weak (de_callTy hc hg hm hv ha hn hdb he hpl) upF_mono fun δ S Q q => fCB_of q
def lisO (g : List D → Sto → Option DO) : List D → Sto → Option D := fun ds S => match g ds S with
  | some (.lst xs) => some (.lis xs)
  | _ => none
theorem lisO_of {g : List D → Sto → Option DO} {ds : List D} {S : Sto} {Q : DK} {d : D} (e : lisO g ds S = some d) (q : Q d S) : rO g ds S (frzK Q) := by
  unfold lisO at e
  split at e
  · rename_i xs e1
    cases e
    unfold rO
    rw [e1]
    intro p hp
    simp only [frzK, sup_same]
    rw [dlS_sup hp]
    exact q
  · cases e
theorem fCBL_of {g : List D → Sto → Option DO} {δ : DEnv} {S : Sto} {Q : DK} (q : upF w (fCB (lisO g) fr) δ S Q) : dFrz (dCB (rO g) (upAs w fr)) δ S Q := by
  unfold upF fCB at q
  rw [fin_bnd] at q
  refine fin_mono (fun _ _ z => z) (fun ds S1 q1 => ?_) q
  cases e1 : lisO g ds S1 with
  | none => rw [e1] at q1; exact q1.elim
  | some d => rw [e1] at q1; exact lisO_of e1 q1
theorem fe_callTyL {x T : String} {g : List D → Sto → Option DO} (hc : DCall X (.type T) (rO g)) (hg : Gl X x) (hm : X.mg x = none) (hv : bootBuiltins x = some (.type T)) (ha : FAs X w (e :: es) fr) (hn : (x : Str) ≠ "__name__" := by decide) (hdb : ((x : Str) == ("__debug__" : Str)) = false := by decide)
    (he : starEach (e :: es) X.env = (false, eval e X.env) :: starEach es X.env := by rfl) (hpl : (backTo pos (starEach es X.env)).any (·.1) = false := by rfl) : FE X w (.Call (.Name x p) (e :: es) [] pos) (fCB (lisO g) fr) := de_weak (de_frz (de_callTy hc hg hm hv ha hn hdb he hpl)) upF_mono fun δ S Q q => fCBL_of q
def fBM (T : String) (g : D → List D → Sto → Option D) (fo : FV) (fr : FA) : FV := fun δ S => bnd (fo δ S) fun x S1 => if tyM S1 x = some T then bnd (fr δ S1) fun ds S2 => opt (g x ds S2) fun d => .ok d S2 else .no
theorem fBM_of {T : String} {g : D → List D → Sto → Option D} {δ : DEnv} {S : Sto} {Q : DK} (q : upF w (fBM T g fo fr) δ S Q) : dBM T (fun x => rV (g x)) (upF w fo) (upAs w fr) δ S Q := by
  unfold upF fBM at q
  rw [fin_bnd] at q
  refine fin_mono (fun _ _ z => z) (fun x S1 q1 => ?_) q
  by_cases ht : tyM S1 x = some T
  · rw [if_pos ht, fin_bnd] at q1
    refine ⟨ht, fin_mono (fun _ _ z => z) (fun ds S2 q2 => ?_) q1⟩
    show rV (g x) ds S2 Q
    unfold rV
    cases e1 : g x ds S2 with
    | none => rw [e1] at q2; exact q2
    | some d => rw [e1] at q2; exact q2
  · rw [if_neg ht] at q1; exact q1.elim
theorem fBML_of {T : String} {g : D → List D → Sto → Option DO} {δ : DEnv} {S : Sto} {Q : DK} (q : upF w (fBM T (fun x => lisO (g x)) fo fr) δ S Q) : dFrz (dBM T (fun x => rO (g x)) (upF w fo) (upAs w fr)) δ S Q := by
  unfold upF fBM at q
  rw [fin_bnd] at q
  refine fin_mono (fun _ _ z => z) (fun x S1 q1 => ?_) q
  by_cases ht : tyM S1 x = some T
  · rw [if_pos ht, fin_bnd] at q1
    refine ⟨ht, fin_mono (fun _ _ z => z) (fun ds S2 q2 => ?_) q1⟩
    have q2 : fin (opt (lisO (g x) ds S2) fun d => .ok d S2) (fun c S' => w c δ S') Q := q2
    show rO (g x) ds S2 (frzK Q)
    cases e1 : lisO (g x) ds S2 with
    | none => rw [e1] at q2; exact q2.elim
    | some d => rw [e1] at q2; exact lisO_of e1 q2
  · rw [if_neg ht] at q1; exact q1.elim
section
variable {T id : String} {name : Str}
theorem fe_bm0 {g : D → List D → Sto → Option D} (pa : PlainAttrs T) (slot : Slot T name id) (hty : typeOf (.builtin id) = pure (.type "method_descriptor")) (hm : DMt X id fun x => rV (g x)) (ho : FE X w o fo)
    (hbase : attributeBase o name X.env (eval o X.env) = eval o X.env := by rfl) (hline : (apos.endLine == cpos.line) = true := by rfl) : FE X w (.Call (.Attribute o name apos) [] [] cpos) (fBM T g fo fNil) := de_weak (de_bm0 pa slot hty hm ho hbase hline) upF_mono fun δ S Q q => fBM_of q
theorem fe_bm {g : D → List D → Sto → Option D} (pa : PlainAttrs T) (slot : Slot T name id) (hty : typeOf (.builtin id) = pure (.type "method_descriptor")) (hm : DMt X id fun x => rV (g x)) (ho : FE X w o fo) (ha : FAs X w (e :: es) fr)
    (hbase : attributeBase o name X.env (eval o X.env) = eval o X.env := by rfl)
    (hfew : ((backTo cpos (starEach (e :: es) X.env)).all (fun x => !x.1) && (backToKw cpos (keywordEach [] X.env)).all (fun x => x.1.isSome)
      && decide ((e :: es).length + ([] : List Keyword).length + (if ([] : List Keyword).isEmpty then 0 else 1) < 30)) = true := by rfl)
    (hline : (apos.endLine == cpos.line) = true := by rfl) (hs : starEach (e :: es) X.env = (false, eval e X.env) :: starEach es X.env := by rfl) (hplain : (backTo cpos (starEach es X.env)).any (·.1) = false := by rfl) :
    FE X w (.Call (.Attribute o name apos) (e :: es) [] cpos) (fBM T g fo fr) := de_weak (de_bm pa slot hty hm ho ha hbase hfew hline hs hplain) upF_mono fun δ S Q q => fBM_of q
theorem fe_bmL {g : D → List D → Sto → Option DO} (pa : PlainAttrs T) (slot : Slot T name id) (hty : typeOf (.builtin id) = pure (.type "method_descriptor")) (hm : DMt X id fun x => rO (g x)) (ho : FE X w o fo) (ha : FAs X w (e :: es) fr)
    (hbase : attributeBase o name X.env (eval o X.env) = eval o X.env := by rfl)
    (hfew : ((backTo cpos (starEach (e :: es) X.env)).all (fun x => !x.1) && (backToKw cpos (keywordEach [] X.env)).all (fun x => x.1.isSome)
      && decide ((e :: es).length + ([] : List Keyword).length + (if ([] : List Keyword).isEmpty then 0 else 1) < 30)) = true := by rfl)
    (hline : (apos.endLine == cpos.line) = true := by rfl) (hs : starEach (e :: es) X.env = (false, eval e X.env) :: starEach es X.env := by rfl) (hplain : (backTo cpos (starEach es X.env)).any (·.1) = false := by rfl) :
    FE X w (.Call (.Attribute o name apos) (e :: es) [] cpos) (fBM T (fun x => lisO (g x)) fo fr) := de_weak (de_frz (de_bm pa slot hty hm ho ha hbase hfew hline hs hplain)) upF_mono fun δ S Q q => fBML_of q
end
def gLen : List D → Sto → Option D := fun ds S => match ds with
  | [d] => (lenD S d).map fun (n : Nat) => D.int (n : Int)
  | _ => none
theorem fcall_len : DCall X (.builtin "len") (rV gLen) := ⟨rV_mono, fun pins s σ H vs us Q I ru ⟨δ, S, σ', ds, R, rd, q⟩ => dcall_len.run pins s σ H vs us Q I ru ⟨δ, S, σ', ds, R, rd, by
  unfold rV gLen at q
  unfold rLen
  split at q
  · rename_i d e
    split at e
    · rename_i d1
      obtain ⟨n, e1, rfl⟩ := Option.map_eq_some_iff.mp e
      show (match lenD S d1 with | some n => kE X δ σ' H Q (.int n) S | none => False)
      rw [e1]
      exact q
    · cases e
  · exact q.elim⟩⟩
def gTuple : List D → Sto → Option D := fun ds S => match ds with
  | [d] => (itemsD S d).map .tup
  | _ => none
theorem fcall_tuple : DCall X (.type "tuple") (rV gTuple) := ⟨rV_mono, fun pins s σ H vs us Q I ru ⟨δ, S, σ', ds, R, rd, q⟩ => dcall_tuple.run pins s σ H vs us Q I ru ⟨δ, S, σ', ds, R, rd, by
  unfold rV gTuple at q
  unfold rTupleD
  split at q
  · rename_i d e
    split at e
    · rename_i d1
      obtain ⟨n, e1, rfl⟩ := Option.map_eq_some_iff.mp e
      show (match itemsD S d1 with | some xs => kE X δ σ' H Q (.tup xs) S | none => False)
      rw [e1]
      exact q
    · cases e
  · exact q.elim⟩⟩
def fIsi (n : String) (fa : FV) : FV := fun δ S => bnd (fa δ S) fun x S1 => opt (tyD S1 x) fun m => .ok (.bl (isTy m n)) S1
theorem fe_isi {T : Str} {n : String} {p2 : Pos} (hg : Gl X "isinstance") (hm : X.mg "isinstance" = none) (hgT : Gl X T) (hmT : X.mg T = none) (hvT : bootBuiltins T = some (.type n)) (hn : n ∈ tyNames.tail) (ha : FE X w a fa) (h1 : T ≠ ("__name__" : Str) := by decide) (h2 : (T == ("__debug__" : Str)) = false := by decide)
    (hs : starEach [a, .Name T p2] X.env = (false, eval a X.env) :: starEach [.Name T p2] X.env := by rfl) (hs2 : starEach [.Name T p2] X.env = (false, eval (.Name T p2) X.env) :: starEach [] X.env := by rfl) (hpl : (backTo pos (starEach [.Name T p2] X.env)).any (·.1) = false := by rfl) :
    FE X w (.Call (.Name "isinstance" p) [a, .Name T p2] [] pos) (fIsi n fa) := de_weak (de_isi hg hm hgT hmT hvT hn ha h1 h2 hs hs2 hpl) upF_mono fun δ S Q q => by
  unfold upF fIsi at q
  rw [fin_bnd] at q
  refine fin_mono (fun _ _ z => z) (fun x S1 q1 => ?_) q
  unfold rIsiD
  cases e1 : tyD S1 x with
  | none => rw [e1] at q1; exact q1
  | some m => rw [e1] at q1; exact q1
def spO (n : Nat) (g : List D → Sto → Out D) : DSp := fun ds S Q E => ds.length = n ∧ fin (g ds S) E Q
theorem spO_mono {n : Nat} {g : List D → Sto → Out D} : MonoSp (spO n g) := fun ds S Q Q' E E' h h' q => ⟨q.1, fin_mono h' h q.2⟩
theorem spO_len {n : Nat} {g : List D → Sto → Out D} : ∀ ds S Q E, spO n g ds S Q E → ds.length = n := fun _ _ _ _ h => h.1
def fCall (n : Nat) (g : List D → Sto → Out D) (fr : FA) : FV := fun δ S => bnd (fr δ S) fun ds S1 => if ds.length = n then g ds S1 else .no
variable {k n : Nat} {f : Addr} {g : List D → Sto → Out D} {x : Str}
theorem fCall_of {wx : WD} {δ : DEnv} {S : Sto} {Q : DK} (q : upF wx (fCall n g fr) δ S Q) : dCall (spO n g) wx (upAs wx fr) δ S Q := by
  unfold upF fCall at q
  rw [fin_bnd] at q
  refine fin_mono (fun _ _ z => z) (fun ds S1 q1 => ?_) q
  by_cases l : ds.length = n
  · rw [if_pos l] at q1
    exact ⟨l, q1⟩
  · rw [if_neg l] at q1; exact q1.elim
theorem fe_call {wx : WD} (F : FnD X.prog X.w X.K X.mg X.base k f (spO n g)) (hr : Room k X.A) (hg : Gl X x) (hm : X.mg x = some (.ref f)) (tk : TakesD X wx) (ha : FAs X wx (e :: es) fr) (hdb : (x == ("__debug__" : Str)) = false := by decide)
    (he : starEach (e :: es) X.env = (false, eval e X.env) :: starEach es X.env := by rfl) (hpl : (backTo pos (starEach es X.env)).any (·.1) = false := by rfl) : FE X wx (.Call (.Name x p) (e :: es) [] pos) (fCall n g fr) :=
  de_weak (de_call F hr hg hm tk ha hdb he hpl) upF_mono fun δ S Q q => fCall_of q
theorem fin_dn {x : Out D} {wx : DX} {Q : DK} (h : fin x (fun c S => dnX wx c S) (dn Q)) : fin x (fun c S => dnX wx c S) (dn Q) := h
end
end DL
set_option maxRecDepth 100000
namespace DL
open PySem L2
structure SrcF where
  items : List D
  ck : Sto → Bool
  fr : ∀ S D o, S D = none → ck S = true → ck (sup S D o) = true
def SrcF.src (s : SrcF) : Src := ⟨s.items, fun S => s.ck S = true⟩
def SrcF.of (ds : List D) : SrcF := ⟨ds, fun _ => true, fun _ _ _ _ _ => rfl⟩
def isLst (a : Addr) (ds : List D) (S : Sto) : Bool := match S a with
  | some (.lst l) => decide (l = ds)
  | _ => false
def isDit (a : Addr) (kvs : List (D × D)) (ep : Nat) (S : Sto) : Bool := match S a with
  | some (.dit l e) => decide (l = kvs ∧ e = ep)
  | _ => false
theorem isLst_iff {a : Addr} {ds : List D} {S : Sto} : isLst a ds S = true ↔ S a = some (.lst ds) := by
  unfold isLst
  constructor
  · intro h
    split at h
    · rename_i l e
      rw [e, of_decide_eq_true h]
    · cases h
  · intro h
    rw [h]
    simp
theorem isDit_iff {a : Addr} {kvs : List (D × D)} {ep : Nat} {S : Sto} : isDit a kvs ep S = true ↔ S a = some (.dit kvs ep) := by
  unfold isDit
  constructor
  · intro h
    split at h
    · rename_i l e e1
      obtain ⟨h1, h2⟩ := of_decide_eq_true h
      rw [e1, h1, h2]
    · cases h
  · intro h
    rw [h]
    simp
theorem sup_keep {S : Sto} {D a : Addr} {o u : DO} (n : S D = none) (h : S a = some u) : sup S D o a = some u := by rw [sup_ne fun z => by rw [z, n] at h; cases h]; exact h
def SrcF.lst (a : Addr) (ds : List D) : SrcF := ⟨ds, isLst a ds, fun S D o n h => isLst_iff.mpr (sup_keep n (isLst_iff.mp h))⟩
def SrcF.dit (a : Addr) (f : D × D → D) (kvs : List (D × D)) (ep : Nat) : SrcF := ⟨kvs.map f, isDit a kvs ep, fun S D o n h => isDit_iff.mpr (sup_keep n (isDit_iff.mp h))⟩
def srcF (S : Sto) : D → Option SrcF
  | .tup ds => some (.of ds)
  | .fro ds => some (.of ds)
  | .lis ds => some (.of ds)
  | .str z => some (.of (sgn z))
  | .ref a => match S a with
    | some (.lst ds) => some (.lst a ds)
    | some (.dit kvs ep) => some (.dit a (·.1) kvs ep)
    | _ => none
  | _ => none
theorem of_src {ds : List D} : (SrcF.of ds).src = ⟨ds, fun _ => True⟩ := by
  unfold SrcF.of SrcF.src
  congr 1
  funext S
  simp
theorem lst_src {a : Addr} {ds : List D} : (SrcF.lst a ds).src = ⟨ds, fun S => S a = some (.lst ds)⟩ := by
  unfold SrcF.lst SrcF.src
  congr 1
  funext S
  exact propext isLst_iff
theorem dit_src {a : Addr} {f : D × D → D} {kvs : List (D × D)} {ep : Nat} : (SrcF.dit a f kvs ep).src = ⟨kvs.map f, fun S => S a = some (.dit kvs ep)⟩ := by
  unfold SrcF.dit SrcF.src
  congr 1
  funext S
  exact propext isDit_iff
theorem srcF_src {S : Sto} {d : D} {s : SrcF} (h : srcF S d = some s) : srcD S d = some s.src := by
  cases d with
  | tup ds => cases h; rw [of_src]; rfl
  | fro ds => cases h; rw [of_src]; rfl
  | lis ds => cases h; rw [of_src]; rfl
  | str ds => cases h; rw [of_src]; rfl
  | ref a =>
    simp only [srcF] at h
    simp only [srcD]
    split at h
    · rename_i ds e
      cases h
      first | rw [e, lst_src] | rw [lst_src]
    · rename_i kvs ep e
      cases h
      first | rw [e, dit_src] | rw [dit_src]
    · cases h
  | _ => cases h
section
variable {X : Cx} {w : WD} {tg iter elt e a : Expr} {ifs : List Expr} {es : List Expr} {p : Pat} {scope : Scope} {own : List (Str × Nat)} {pos ppos : Pos} {f : FV} {fr : FA}
def upI' (w : WD) (f : DEnv → Sto → Out SrcF) : TDI := fun δ S Q => fin (f δ S) (fun c S' => w c δ S') fun s S1 => Q s.src S1
abbrev FI (X : Cx) (w : WD) (tg e : Expr) (f : DEnv → Sto → Out SrcF) : Prop := DI X tg e (upI' w f)
theorem upI'_mono {f : DEnv → Sto → Out SrcF} : MonoI (upI' w f) := fun δ S Q Q' h q => fin_mono (fun _ _ z => z) (fun s S1 q1 => h _ _ q1) q
theorem di_weak {t t' : TDI} (h : DI X tg e t) (m : MonoI t') (k : ∀ δ S Q, t' δ S Q → t δ S Q) : DI X tg e t' := ⟨m, pi_weak h.pi fun σ H R ⟨δ, S, r, q⟩ => ⟨δ, S, r, k _ _ _ q⟩⟩
def fAny (f : FV) : DEnv → Sto → Out SrcF := fun δ S => bnd (f δ S) fun x S1 => opt (srcF S1 x) fun s => .ok s S1
theorem fi_any (he : FE X w e f) : FI X w tg e (fAny f) := di_weak (di_any he) upI'_mono fun δ S Q q => by
  unfold upI' fAny at q
  rw [fin_bnd] at q
  refine fin_mono (fun _ _ z => z) (fun x S1 q1 => ?_) q
  cases e1 : srcF S1 x with
  | none => rw [e1] at q1; exact q1.elim
  | some s => rw [e1] at q1; rw [srcF_src e1]; exact q1
def fR1 (fr : FA) : DEnv → Sto → Out SrcF := fun δ S => bnd (fr δ S) fun ds S1 => match ds with
  | [.int j] => if -(2 ^ 62) ≤ j ∧ j < 2 ^ 62 then .ok (.of (rngD 0 j.toNat)) S1 else .no
  | _ => .no
theorem fi_range1 (hg : Gl X "range") (hm : X.mg "range" = none) {p pos : Pos} (ha : FAs X w [a] fr) (hs : starEach [a] X.env = [(false, eval a X.env)] := by rfl) : FI X w tg (.Call (.Name "range" p) [a] [] pos) (fR1 fr) := di_weak (di_range1 hg hm ha hs) upI'_mono fun δ S Q q => by
  unfold upI' fR1 at q
  rw [fin_bnd] at q
  refine fin_mono (fun _ _ z => z) (fun ds S1 q1 => ?_) q
  split at q1
  · rename_i j
    by_cases l : -(2 ^ 62) ≤ j ∧ j < 2 ^ 62
    · rw [if_pos l] at q1
      refine ⟨l.1, l.2, ?_⟩
      have q2 : Q (SrcF.of (rngD 0 j.toNat)).src S1 := q1
      rw [of_src] at q2
      exact q2
    · rw [if_neg l] at q1; exact q1.elim
  · exact q1.elim
def fItems (f : FV) : DEnv → Sto → Out SrcF := fun δ S => bnd (f δ S) fun x S1 => match x with
  | .ref a => (match S1 a with
    | some (.dit kvs ep) => .ok (.dit a (fun p => .tup [p.1, p.2]) kvs ep) S1
    | _ => .no)
  | _ => .no
theorem fi_items {elts : List Expr} {kk : Nat} {tpos apos cpos : Pos} (he : FE X w e f) (hbase : attributeBase e "items" X.env (eval e X.env) = eval e X.env := by rfl) (hline : (apos.endLine == cpos.line) = true := by rfl) :
    FI X w (.Tuple elts kk tpos) (.Call (.Attribute e "items" apos) [] [] cpos) (fItems f) := di_weak (di_items he hbase hline) upI'_mono fun δ S Q q => by
  unfold upI' fItems at q
  rw [fin_bnd] at q
  refine fin_mono (fun _ _ z => z) (fun x S1 q1 => ?_) q
  cases x with
  | ref a =>
    have q1 : fin (match S1 a with | some (.dit kvs ep) => .ok (SrcF.dit a (fun p => .tup [p.1, p.2]) kvs ep) S1 | _ => .no) (fun c S' => w c δ S') (fun s S1 => Q s.src S1) := q1
    show (match S1 a with | some (.dit kvs ep) => Q ⟨kvs.map fun p => .tup [p.1, p.2], fun S => S a = some (.dit kvs ep)⟩ S1 | _ => False)
    split at q1
    · rename_i kvs ep e1
      have q2 : Q (SrcF.dit a (fun p => .tup [p.1, p.2]) kvs ep).src S1 := q1
      rw [dit_src] at q2
      exact q2
    · exact q1.elim
  | _ => exact q1.elim
theorem itd_enum {H0 : Hp} {a : Addr} {vs : List V} {ds : List D} (hs : SqF X.K H0 a vs) (hd : Dvs X.K H0 ds vs) : ItD X H0 ⟨ds.mapIdx fun i d => .tup [.int (i : Nat), d], fun _ => True⟩ (Ite X.K a) := fun δ S σ H R t ok => by
  have h1 := (t.2.1 a vs hs).l
  have h2 := hd.mono t
  refine ⟨fun i d e => ?_, ⟨vs, h1, by show vs.length ≤ (ds.mapIdx _).length; rw [List.length_mapIdx, ← h2.length]; exact Nat.le_refl _⟩⟩
  have e : (ds.mapIdx fun i d => D.tup [.int (i : Nat), d])[i]? = some d := e
  rw [List.getElem?_mapIdx, Option.map_eq_some_iff] at e
  obtain ⟨d1, e1, rfl⟩ := e
  obtain ⟨v, ev, r⟩ := h2.get e1
  refine ⟨⟨vs, v, h1, ev⟩, fun x H' y => ?_⟩
  obtain ⟨T, z, rfl, nT, rfl, y⟩ := y
  have y1 := y vs h1
  rw [ev] at y1
  cases y1
  exact ⟨R.laid nT, Dv.new_tup (Dvs.cons (dv_int.mpr rfl) (Dvs.cons r Dvs.nil)) nT, TupP.laid nT⟩
def seqF : D → Option (List D)
  | .lis xs => some xs
  | .fro xs => some xs
  | _ => none
def fEnum (fr : FA) : DEnv → Sto → Out SrcF := fun δ S => bnd (fr δ S) fun ds S1 => match ds with
  | [d] => opt (seqF d) fun xs => .ok (.of (xs.mapIdx fun i d => .tup [.int (i : Nat), d])) S1
  | _ => .no
theorem fi_enum {elts : List Expr} {kk : Nat} {tpos p pos : Pos} (hg : Gl X "enumerate") (hm : X.mg "enumerate" = none) (ha : FAs X w [a] fr) (hp : ∀ {t : TA}, PA X [a] t → PI X (.Tuple elts kk tpos) (.Call (.Name "enumerate" p) [a] [] pos) (iEnum X.K t)) :
    FI X w (.Tuple elts kk tpos) (.Call (.Name "enumerate" p) [a] [] pos) (fEnum fr) := by
  refine ⟨upI'_mono, pi_weak (hp ha.pa) fun σ H R ⟨δ, S, r, q⟩ => ?_⟩
  unfold upI' fEnum at q
  rw [fin_bnd] at q
  refine DA.sub ha r (upAs_mono _ _ _ _ (fun _ _ z => z) q) fun ds S1 vs H1 q1 R1 r1 t1 => ?_
  split at q1
  · rename_i d
    obtain ⟨v, rfl, rv⟩ := dvs1 r1
    cases e1 : seqF d with
    | none => rw [e1] at q1; exact q1.elim
    | some xs =>
      rw [e1] at q1
      have q2 : ∀ J H', Rel X δ S1 σ H' → TupP X.K H H' → ItD X H' (SrcF.of (xs.mapIdx fun i d => D.tup [.int (i : Nat), d])).src J → R J H' := q1
      rw [of_src] at q2
      cases d with
      | lis ys =>
        cases e1
        obtain ⟨a, ws, rfl, f, z⟩ := dv_lis.mp rv
        exact ⟨a, ws, rfl, SqF.l (.inl f), q2 _ H1 R1 t1 (itd_enum (.inl f) z)⟩
      | fro ys =>
        cases e1
        obtain ⟨a, ws, rfl, f, z⟩ := dv_fro.mp rv
        exact ⟨a, ws, rfl, f.l, q2 _ H1 R1 t1 (itd_enum f z)⟩
      | _ => cases e1
  · exact q1.elim
end
end DL
set_option maxRecDepth 100000
namespace DL
open PySem L2
def noE {α : Type} (x : Out α) : Out α := match x with
  | .ok a S => .ok a S
  | _ => .no
theorem noE_ok {α : Type} {a : α} {S : Sto} : noE (.ok a S) = .ok a S := rfl
def compF (ck : Sto → Bool) (p : Pat) (ft : FB) (fe : FV) (δ0 : DEnv) : List D → Sto → Out (List D)
  | [], S => if ck S = true then .ok [] S else .no
  | x :: xs, S => if ck S = true then (match bindP p x δ0 with
    | none => .no
    | some δ1 => bnd (noE (ft δ1 S)) fun b S1 => if b = true then bnd (noE (fe δ1 S1)) fun d S2 => bnd (compF ck p ft fe δ0 xs S2) fun ds S3 => .ok (d :: ds) S3 else compF ck p ft fe δ0 xs S1) else .no
theorem compF_er {ck : Sto → Bool} {p : Pat} {ft : FB} {fe : FV} {δ0 : DEnv} : ∀ (xs : List D) (S : Sto) c S', compF ck p ft fe δ0 xs S ≠ .er c S'
  | [], S, c, S', e => by
    unfold compF at e
    split at e <;> cases e
  | x :: xs, S, c, S', e => by
    unfold compF at e
    split at e
    · split at e
      · cases e
      · rename_i δ2 _
        cases e3 : ft δ2 S with
        | er c S' => rw [e3] at e; cases e
        | no => rw [e3] at e; cases e
        | ok b T1 =>
          rw [e3] at e
          have e : (if b = true then bnd (noE (fe δ2 T1)) fun d S2 => bnd (compF ck p ft fe δ0 xs S2) fun ds S3 => .ok (d :: ds) S3 else compF ck p ft fe δ0 xs T1) = .er c S' := e
          split at e
          · cases e4 : fe δ2 T1 with
            | er c S' => rw [e4] at e; cases e
            | no => rw [e4] at e; cases e
            | ok d2 T2 =>
              rw [e4] at e
              have e : (bnd (compF ck p ft fe δ0 xs T2) fun ds S3 => .ok (d2 :: ds) S3) = .er c S' := e
              cases e5 : compF ck p ft fe δ0 xs T2 with
              | er c S' => exact compF_er xs T2 _ _ e5
              | no => rw [e5] at e; cases e
              | ok ds2 T3 => rw [e5] at e; cases e
          · exact compF_er xs T1 _ _ e
    · cases e
def FrF {α : Type} (f : DEnv → Sto → Out α) : Prop := ∀ δ S D o a S', S D = none → f δ S = .ok a S' → S' D = none ∧ f δ (sup S D o) = .ok a (sup S' D o)
theorem comp_ok {ck : Sto → Bool} {p : Pat} {ft : FB} {fe : FV} {δ0 : DEnv} {D : Addr} {Q : Sto → Prop} (hck : ∀ S o, S D = none → ck S = true → ck (sup S D o) = true) (h1 : FrF ft) (h2 : FrF fe) : ∀ (xs : List DL.D) (acc : List DL.D) (S : Sto), S D = none →
    fin (compF ck p ft fe δ0 xs S) (fun _ _ => False) (fun ds S' => S' D = none → acc.length + ds.length ≤ sizeLine ∧ Q (sup S' D (.lst (acc ++ ds)))) →
    dComp (fun S => ck S = true) p (upB (fun _ _ _ => False) ft) (upF (fun _ _ _ => False) fe) δ0 D Q xs (sup S D (.lst acc))
  | [], acc, S, hS, q => by
    unfold compF at q
    by_cases c : ck S = true
    · rw [if_pos c] at q
      have q2 := (q hS).2
      rw [List.append_nil] at q2
      exact ⟨hck S _ hS c, q2⟩
    · rw [if_neg c] at q; exact q.elim
  | x :: xs, acc, S, hS, q => by
    unfold compF at q
    unfold dComp
    by_cases c : ck S = true
    · rw [if_pos c] at q
      refine ⟨hck S _ hS c, ?_⟩
      cases eb : bindP p x δ0 with
      | none => rw [eb] at q; exact q.elim
      | some δ1 =>
        rw [eb] at q
        dsimp only at q ⊢
        cases et : ft δ1 S with
        | er c S' => rw [et] at q; exact q.elim
        | no => rw [et] at q; exact q.elim
        | ok b S1 =>
          rw [et] at q
          obtain ⟨n1, g1⟩ := h1 δ1 S D (.lst acc) b S1 hS et
          show fin (ft δ1 (sup S D (.lst acc))) _ _
          rw [g1]
          have q : fin (if b = true then bnd (noE (fe δ1 S1)) fun d S2 => bnd (compF ck p ft fe δ0 xs S2) fun ds S3 => .ok (d :: ds) S3 else compF ck p ft fe δ0 xs S1) (fun _ _ => False) (fun ds S' => S' D = none → acc.length + ds.length ≤ sizeLine ∧ Q (sup S' D (.lst (acc ++ ds)))) := q
          cases b with
          | false => exact comp_ok hck h1 h2 xs acc S1 n1 q
          | true =>
            rw [if_pos rfl] at q
            show fin (fe δ1 (sup S1 D (.lst acc))) _ _
            cases ee : fe δ1 S1 with
            | er c S' => rw [ee] at q; exact q.elim
            | no => rw [ee] at q; exact q.elim
            | ok d S2 =>
              rw [ee] at q
              obtain ⟨n2, g2⟩ := h2 δ1 S1 D (.lst acc) d S2 n1 ee
              rw [g2]
              have q : fin (bnd (compF ck p ft fe δ0 xs S2) fun ds S3 => .ok (d :: ds) S3) (fun _ _ => False) (fun ds S' => S' D = none → acc.length + ds.length ≤ sizeLine ∧ Q (sup S' D (.lst (acc ++ ds)))) := q
              rw [fin_bnd] at q
              show (match sup S2 D (.lst acc) D with | some (.lst acc) => acc.length < sizeLine ∧ dComp _ p _ _ δ0 D Q xs (sup (sup S2 D _) D (.lst (acc ++ [d]))) | _ => False)
              rw [sup_same]
              dsimp only
              rw [sup_sup]
              refine ⟨?_, comp_ok hck h1 h2 xs (acc ++ [d]) S2 n2 (fin_mono (fun _ _ z => z) (fun ds S3 q3 n3 => ?_) q)⟩
              · have : ∃ ds S3, compF ck p ft fe δ0 xs S2 = .ok ds S3 ∧ S3 D = none := by
                  have go : ∀ (ys : List DL.D) (T : Sto) ds S3, T D = none → compF ck p ft fe δ0 ys T = .ok ds S3 → S3 D = none := by
                    intro ys
                    induction ys with
                    | nil =>
                      intro T ds S3 hT e
                      unfold compF at e
                      split at e
                      · cases e; exact hT
                      · cases e
                    | cons y ys ih =>
                      intro T ds S3 hT e
                      unfold compF at e
                      split at e
                      · split at e
                        · cases e
                        · rename_i δ2 _
                          cases e3 : ft δ2 T with
                          | er c S' => rw [e3] at e; cases e
                          | no => rw [e3] at e; cases e
                          | ok b T1 =>
                            rw [e3] at e
                            have m1 := (h1 δ2 T D (.lst acc) b T1 hT e3).1
                            have e : (if b = true then bnd (noE (fe δ2 T1)) fun d S2 => bnd (compF ck p ft fe δ0 ys S2) fun ds S3 => .ok (d :: ds) S3 else compF ck p ft fe δ0 ys T1) = .ok ds S3 := e
                            split at e
                            · cases e4 : fe δ2 T1 with
                              | er c S' => rw [e4] at e; cases e
                              | no => rw [e4] at e; cases e
                              | ok d2 T2 =>
                                rw [e4] at e
                                have m2 := (h2 δ2 T1 D (.lst acc) d2 T2 m1 e4).1
                                have e : (bnd (compF ck p ft fe δ0 ys T2) fun ds S3 => .ok (d2 :: ds) S3) = .ok ds S3 := e
                                cases e5 : compF ck p ft fe δ0 ys T2 with
                                | er c S' => rw [e5] at e; cases e
                                | no => rw [e5] at e; cases e
                                | ok ds2 T3 =>
                                  rw [e5] at e
                                  cases e
                                  exact ih T2 _ _ m2 e5
                            · exact ih T1 _ _ m1 e
                      · cases e
                  cases e6 : compF ck p ft fe δ0 xs S2 with
                  | er c S' => exact (compF_er _ _ _ _ e6).elim
                  | no => rw [e6] at q; exact q.elim
                  | ok ds S3 => exact ⟨ds, S3, rfl, go xs S2 ds S3 n2 e6⟩
                obtain ⟨ds, S3, e7, n7⟩ := this
                rw [e7] at q
                have := (q n7).1
                rw [List.length_cons] at this
                omega
              · have := q3 n3
                rw [List.length_cons] at this
                refine ⟨by rw [List.length_append, List.length_singleton]; omega, ?_⟩
                rw [List.append_assoc]
                exact this.2
    · rw [if_neg c] at q; exact q.elim
def fYes : FB := fun _ S => .ok true S
section
variable {X : Cx} {w : WD} {tg iter elt e a : Expr} {ifs : List Expr} {p : Pat} {scope : Scope} {own : List (Str × Nat)} {pos spos py : Pos} {fi : DEnv → Sto → Out SrcF} {ft : FB} {fe : FV}
abbrev w0 : WD := fun _ _ _ => False
def fLc (fi : DEnv → Sto → Out SrcF) (p : Pat) (ft : FB) (fe : FV) (vs : List Nat) : FV := fun δ S => bnd (fi δ S) fun s S1 => bnd (compF s.ck p ft fe (wipeD δ vs) s.items S1) fun ds S2 => if ds.length ≤ sizeLine then .ok (.lis ds) S2 else .no
theorem fts_nil {X : Cx} : DTs X [] (upB w0 fYes) := ⟨upB_mono, dts_nil.pts⟩
theorem fLc_of {δ : DEnv} {S : Sto} {Q : DK} {vs : List Nat} (h1 : FrF ft) (h2 : FrF fe) (q : upF w (fLc fi p ft fe vs) δ S Q) : dFrz (dLc (upI' w fi) p (upB w0 ft) (upF w0 fe) vs) δ S Q := by
  unfold upF fLc at q
  rw [fin_bnd] at q
  refine fin_mono (fun _ _ z => z) (fun s S1 q1 D hD => ?_) q
  rw [fin_bnd] at q1
  refine comp_ok (fun S o n c => s.fr S D o n c) h1 h2 s.items [] S1 hD ?_
  cases e1 : compF s.ck p ft fe (wipeD δ vs) s.items S1 with
  | er c S' => exact (compF_er _ _ _ _ e1).elim
  | no => rw [e1] at q1; exact q1.elim
  | ok ds S2 =>
    rw [e1] at q1
    have q1 : fin (if ds.length ≤ sizeLine then .ok (.lis ds) S2 else .no) (fun c S' => w c δ S') Q := q1
    intro n
    by_cases l : ds.length ≤ sizeLine
    · rw [if_pos l] at q1
      refine ⟨by simpa using l, ?_⟩
      simp only [frzK, sup_same, List.nil_append]
      rw [dlS_sup n]
      exact q1
    · rw [if_neg l] at q1; exact q1.elim
theorem fe_lc (hc : X.calm = true) (hN : X.N.Nodup) (hi : FI X w tg iter fi) (ok : BlkOk X.N X.env.scope scope own) (hsl : ∀ i ∈ p.slots, i ∈ own.map (·.2))
    (hg : ∀ (s : Shared) (H : Hp) (C : Addr) (cl : List (Str × Addr)) (fp : List Addr), PPat (X.blk s H scope (compEnvC scope cl C X.env) fp) tg p) (ht : ∀ (s : Shared) (H : Hp) (C : Addr) (cl : List (Str × Addr)) (fp : List Addr), DTs (X.blk s H scope (compEnvC scope cl C X.env) fp) ifs (upB w0 ft))
    (he : ∀ (s : Shared) (H : Hp) (C : Addr) (cl : List (Str × Addr)) (fp : List Addr), FE (X.blk s H scope (compEnvC scope cl C X.env) fp) w0 elt fe) (h1 : FrF ft) (h2 : FrF fe) (hs : ∀ x, foldedSetIterable iter X.env x = pure x := by intro _; rfl) :
    FE X w (.ListComp elt [⟨tg, iter, ifs, 0⟩] scope pos) (fLc fi p ft fe (own.map (·.2))) := de_weak (de_frz (de_lcx hc hN hi ok hsl hg ht he hs)) upF_mono fun δ S Q q => fLc_of h1 h2 q
end
theorem less_sup {S : Sto} {D : Addr} {o : DO} (n : S D = none) : Less S (sup S D o) := fun a u e => sup_keep n e
def MG2 (g : D → D → Sto → Option D) : Prop := ∀ x y S S' d, Less S S' → g x y S = some d → g x y S' = some d
def MG1 (g : List D → Sto → Option D) : Prop := ∀ xs S S' d, Less S S' → g xs S = some d → g xs S' = some d
theorem frF_pure {α : Type} {x : DEnv → Option α} : FrF fun δ S => match x δ with | some a => .ok a S | none => .no := fun δ S D o a S' n e => by
  cases ex : x δ with
  | none => simp only [ex] at e; cases e
  | some b => simp only [ex] at e ⊢; cases e; exact ⟨n, rfl⟩
theorem frF_var {i : Nat} : FrF (fVar i) := fun δ S D o a S' n e => by
  unfold fVar at *
  split at e
  · rename_i d ed
    cases e
    exact ⟨n, rfl⟩
  · cases e
theorem frF_c {d : D} : FrF (fC d) := fun δ S D o a S' n e => by cases e; exact ⟨n, rfl⟩
theorem frF_yes : FrF fYes := fun δ S D o a S' n e => by cases e; exact ⟨n, rfl⟩
theorem bnd_inv {α β : Type} {x : Out α} {k : α → Sto → Out β} {b : β} {S' : Sto} (h : bnd x k = .ok b S') : ∃ a S1, x = .ok a S1 ∧ k a S1 = .ok b S' := by
  cases x with
  | ok a S1 => exact ⟨a, S1, rfl, h⟩
  | er c S1 => cases h
  | no => cases h
theorem opt_inv {α β : Type} {x : Option α} {k : α → Out β} {b : β} {S' : Sto} (h : opt x k = .ok b S') : ∃ a, x = some a ∧ k a = .ok b S' := by
  cases x with
  | some a => exact ⟨a, rfl, h⟩
  | none => cases h
theorem frF_bnd {α β : Type} {f : DEnv → Sto → Out α} {k : α → DEnv → Sto → Out β} (h : FrF f) (hk : ∀ a, FrF (k a)) : FrF fun δ S => bnd (f δ S) fun a S1 => k a δ S1 := fun δ S D o b S' n e => by
  obtain ⟨a, S1, e1, e2⟩ := bnd_inv e
  obtain ⟨n1, g1⟩ := h δ S D o a S1 n e1
  obtain ⟨n2, g2⟩ := hk a δ S1 D o b S' n1 e2
  refine ⟨n2, ?_⟩
  show bnd (f δ (sup S D o)) _ = _
  rw [g1]
  exact g2
theorem frF_opt {g : Sto → Option D} (m : ∀ S S' d, Less S S' → g S = some d → g S' = some d) : FrF fun (_ : DEnv) S => opt (g S) fun d => .ok d S := fun δ S D o a S' n e => by
  obtain ⟨d, e1, e2⟩ := opt_inv e
  cases e2
  refine ⟨n, ?_⟩
  show opt (g (sup S D o)) _ = _
  rw [m _ _ _ (less_sup n) e1]
  rfl
theorem frF_bin {g : D → D → Sto → Option D} {fa fb : FV} (m : MG2 g) (ha : FrF fa) (hb : FrF fb) : FrF (fBin g fa fb) := frF_bnd ha fun x => frF_bnd hb fun y => frF_opt fun S S' d l e => m x y S S' d l e
theorem frF_sub {fa fb : FV} (m : MG2 gSub) (ha : FrF fa) (hb : FrF fb) : FrF (fSub fa fb) := frF_bin m ha hb
theorem frF_nil : FrF fNil := fun δ S D o a S' n e => by cases e; exact ⟨n, rfl⟩
theorem frF_ret {α : Type} {b : α} : FrF fun (_ : DEnv) S => .ok b S := fun δ S D o a S' n e => by cases e; exact ⟨n, rfl⟩
theorem frF_no {α : Type} : FrF fun (_ : DEnv) _ => (.no : Out α) := fun δ S D o a S' n e => by cases e
theorem frF_ite {α : Type} {c : Prop} [Decidable c] {f g : DEnv → Sto → Out α} (hf : FrF f) (hg : FrF g) : FrF fun δ S => if c then f δ S else g δ S := by
  by_cases h : c
  · simp only [h, if_true]; exact hf
  · simp only [h, if_false]; exact hg
theorem frF_cons {f : FV} {fr : FA} (h : FrF f) (hr : FrF fr) : FrF (fCons f fr) := frF_bnd h fun x => frF_bnd hr fun xs => frF_ret
theorem frF_tup {fr : FA} (h : FrF fr) : FrF (fTup fr) := frF_bnd h fun xs => frF_ite frF_ret frF_no
theorem frF_lst {fr : FA} (h : FrF fr) : FrF (fLst fr) := frF_bnd h fun xs => frF_ite frF_ret frF_no
theorem frF_cb {g : List D → Sto → Option D} {fr : FA} (m : MG1 g) (h : FrF fr) : FrF (fCB g fr) := frF_bnd h fun xs => frF_opt fun S S' d l e => m xs S S' d l e
theorem frF_tst {f : FV} (h : FrF f) : FrF (tst f) := frF_bnd h fun d => by
  cases d <;> first | exact frF_ret | exact frF_no
theorem frF_and {f g : FB} (h : FrF f) (h2 : FrF g) : FrF (fAnd f g) := frF_bnd h fun c => frF_ite h2 frF_ret
theorem frF_or {f g : FB} (h : FrF f) (h2 : FrF g) : FrF (fOr f g) := frF_bnd h fun c => frF_ite frF_ret h2
theorem frF_not {f : FB} (h : FrF f) : FrF (fNot f) := frF_bnd h fun c => frF_ret
theorem frF_if {t : FB} {f g : FV} (h : FrF t) (h1 : FrF f) (h2 : FrF g) : FrF (fIf t f g) := frF_bnd h fun c => frF_ite h1 h2
theorem frF_chain {g g' : D → D → Sto → Option D} {fa fb fc : FV} (m : MG2 g) (m' : MG2 g') (ha : FrF fa) (hb : FrF fb) (hc : FrF fc) : FrF (fChain g g' fa fb fc) := frF_bnd ha fun x => frF_bnd hb fun y => fun δ S D o a S' n e => by
  obtain ⟨d, e1, e2⟩ := opt_inv e
  have e3 := m _ _ _ _ _ (less_sup (o := o) n) e1
  cases d with
  | bl k =>
    cases k with
    | true =>
      obtain ⟨n2, g2⟩ := frF_bnd hc (fun z => frF_opt fun S S' d l e => m' y z S S' d l e) δ S D o a S' n e2
      refine ⟨n2, ?_⟩
      show opt (g x y (sup S D o)) _ = _
      rw [e3]
      exact g2
    | false =>
      cases e2
      refine ⟨n, ?_⟩
      show opt (g x y (sup S D o)) _ = _
      rw [e3]
      rfl
  | _ => cases e2
def FrG (g : List D → Sto → Out D) : Prop := ∀ ds S D o a S', S D = none → g ds S = .ok a S' → S' D = none ∧ g ds (sup S D o) = .ok a (sup S' D o)
theorem frF_call {n : Nat} {g : List D → Sto → Out D} {fr : FA} (m : FrG g) (h : FrF fr) : FrF (fCall n g fr) := frF_bnd h fun xs => frF_ite (fun δ S D o a S' hn e => m xs S D o a S' hn e) frF_no
theorem mg_int {C : Int → Int → Prop} [∀ i j, Decidable (C i j)] {g : Int → Int → D} : MG2 (gInt C g) := fun x y S S' d l e => e
theorem mg_ord {fi : Int → Int → Bool} {fs : Str → Str → Bool} : MG2 (fOrd fi fs) := fun x y S S' d l e => e
theorem seqL_less {S S' : Sto} {d : D} {xs : List D} (l : Less S S') (e : seqL S d = some xs) : seqL S' d = some xs := by
  cases d with
  | ref a =>
    simp only [seqL] at e ⊢
    split at e
    · rename_i ys e1
      rw [l _ _ e1]
      exact e
    · cases e
  | _ => exact e
theorem seqM_less {S S' : Sto} {d : D} {xs : List D} (l : Less S S') (e : seqM S d = some xs) : seqM S' d = some xs := by
  cases d with
  | ref a =>
    simp only [seqM] at e ⊢
    split at e
    · rename_i ys e1
      rw [l _ _ e1]
      exact e
    · cases e
  | _ => exact e
theorem seqA_less {S S' : Sto} {d : D} {xs : List D} (l : Less S S') (e : seqA S d = some xs) : seqA S' d = some xs := by
  cases d with
  | tup ys => exact e
  | ref a => exact seqL_less (d := .ref a) l e
  | lis ys => exact e
  | fro ys => exact e
  | _ => cases e
theorem mg_add : MG2 gAdd := fun x y S S' d l e => by
  unfold gAdd at e ⊢
  split at e
  · exact e
  · exact e
  · exact e
  · rename_i h1 h2 h3
    obtain ⟨xs, e1, e⟩ := Option.bind_eq_some_iff.mp e
    obtain ⟨ys, e2, e⟩ := Option.bind_eq_some_iff.mp e
    rw [seqM_less l e1, seqM_less l e2]
    exact e
theorem dataD_less {S S' : Sto} {d : D} {p : PyData} (l : Less S S') (e : dataD S d = some p) : dataD S' d = some p := by
  cases d with
  | ref a =>
    simp only [dataD] at e ⊢
    split at e
    · rename_i ys e1
      rw [l _ _ e1]
      exact e
    · cases e
  | _ => exact e
theorem mg_eq {neg : Bool} : MG2 (gEq neg) := fun x y S S' d l e => by
  unfold gEq at e ⊢
  split at e
  · exact e
  · exact e
  · exact e
  · rename_i h1 h2 h3
    obtain ⟨a, e1, e⟩ := Option.bind_eq_some_iff.mp e
    obtain ⟨b, e2, e⟩ := Option.bind_eq_some_iff.mp e
    rw [dataD_less l e1, dataD_less l e2]
    exact e
theorem mg_is {neg : Bool} : MG2 (gIs neg) := fun x y S S' d l e => e
theorem gIx_less {x y : D} {S S' : Sto} {d : D} (l : Less S S') (e : gIx x y S = some d) : gIx x y S' = some d := by
  cases y with
  | int i =>
    cases x with
    | str z => exact e
    | non => cases e
    | bl b => cases e
    | int j => cases e
    | tup xs => exact e
    | fro xs => exact e
    | lis xs => exact e
    | ref a =>
      have e : (seqA S (.ref a)).bind (fun zs => atI zs i) = some d := e
      obtain ⟨ys, e1, e2⟩ := Option.bind_eq_some_iff.mp e
      show (seqA S' (.ref a)).bind (fun zs => atI zs i) = some d
      rw [seqA_less l e1]
      exact e2
  | _ => cases x <;> cases e
theorem mg_sub : MG2 gSub := fun x y S S' d l e => by
  unfold gSub at e ⊢
  cases x with
  | ref a =>
    cases es : S a with
    | none =>
      have e0 : lookD S (.ref a) y = none := by simp only [lookD, es]
      rw [e0] at e
      cases y with
      | int i =>
        have e : (seqA S (.ref a)).bind (fun zs => atI zs i) = some d := e
        simp only [seqA, seqL, es] at e
        cases e
      | _ => cases e
    | some o =>
      have e1 := l _ _ es
      have e2 : lookD S' (.ref a) y = lookD S (.ref a) y := by simp only [lookD, es, e1]
      rw [e2]
      split at e
      · rename_i r er
        exact e
      · rename_i er
        exact gIx_less l e
  | _ => exact gIx_less l e
end DL
set_option maxRecDepth 100000
namespace DL
open PySem L2
section
variable {X : Cx}
theorem comp_out {s3 s9 s' : Shared} {H3 H9 : Hp} {scope : Scope} {ce : Env} {fp : List Addr} {pins P7 : List (Addr × Obj)} {σ σ8 : L2.St} {W' : WX} {E : XK} {u : Value} (hs : X.stack = X.env :: X.outer) (hf : X.env.frame = some X.env.locals) (tk : Takes X W') (hce : ce.frame = X.env.frame) (cL : ce.locals = s3.heap.objs.size)
    (I3 : Inv X pins σ H3 s3) (f3 : ∀ b ∈ fp, FpOk X pins H3 b) (J : Inv (X.blk s3 H3 scope ce fp) P7 σ8 H9 s9) (c : L2.CX X.prog X.w X.stack H9 s9 E u s') (hw : ∀ c d H', TupP X.K H3 H' → E c d H' → W' c d σ H') :
    notedBy (model X.prog X.w) X.A ce (CompFails (model X.prog X.w) X.A X.xe ce) u s' := by
  have hfr : X.A.frames = some (X.env :: X.outer) := by rw [I3.ok.frames, hs]
  have hcf : ce.frame = some X.env.locals := hce.trans hf
  obtain ⟨a, B1, sI, pins', σ', H', cls, d, rfl, I6, nb, up, sky, na, os, ag, w⟩ := XE.of_call (W := fun c d _ H => E c d H) J (fun _ _ _ z => z) c
  have fl : HandSPX.FlyingZ B1 (X.env :: X.outer) a (Zc cls d) s'.heap := by
    rw [← hs]
    obtain ⟨a2, B, H2, cls2, d2, e2, fl2, _⟩ := c
    cases e2
    obtain ⟨_, _, _, oe, vs, T, oT, ts, he, _, hd, h1, _, _, hT, hdT, h3⟩ := fl2
    rcases sky with ⟨_, _, _, oe', vs', he', _, hd', h1'⟩ | z | ⟨_, _, _, oe', vs', T', oT', ts', he', _, hd', h1', _, _, hT', hdT', h3'⟩
    · rw [he] at he'; cases he'
      rw [hd] at hd'; cases hd'
      rw [h1] at h1'; cases h1'
    · exact z
    · rw [he] at he'; cases he'
      rw [hd] at hd'; cases hd'
      rw [h1] at h1'; cases h1'
      rw [hT] at hT'; cases hT'
      rw [hdT] at hdT'; cases hdT'
      rw [h3] at h3'; cases h3'
  show wpAny _ X.A (noteFrame (.ref a) ce) _ _ s'
  rw [noteFrame_env _ hce]
  refine HandSPX.looks_onZ Zc.steady hfr hf fl fun h1 hh1 up1 => ?_
  obtain ⟨m, hn, _⟩ := I6.loc
  have hn : sI.heap.Ns ce.locals m := hn
  have hn1 : h1.Ns ce.locals m := (hn.upToSlots up).upToSlots up1
  refine ⟨m, hn1, fun h2 m2 hn2 sb2 => ?_⟩
  have sb2 : Heap.SameBut ce.locals h1 h2 := sb2
  have hid0 : (PySem.W.hideAll B1 [ce.locals]).get? ce.locals = none := PySem.W.hideAll_none _ (by simp)
  have hidN : ∀ b, B1.get? b = none → (PySem.W.hideAll B1 [ce.locals]).get? b = none := fun b n => by
    cases q : (PySem.W.hideAll B1 [ce.locals]).get? b with
    | none => rfl
    | some o => rw [PySem.W.of_hideAll _ q] at n; cases n
  have hh2 : HandSPX.HeldZ (PySem.W.hideAll B1 [ce.locals]) (X.env :: X.outer) a (Zc cls d) X.env.locals h2 := by
    obtain ⟨k1, k2, k3, oe, vs, T, oT, ts, he, hz, hd, h1', hnT, hTe, hT, hdT, h3⟩ := hh1
    obtain ⟨oL, es, ep, hoL, hdL, _⟩ := hn1
    have neE : a ≠ ce.locals := fun q => by
      rw [q, hoL] at he
      have z := Option.some.inj he
      rw [← z, hdL] at hd
      cases hd
    have neT : T ≠ ce.locals := fun q => by
      rw [q, hoL] at hT
      have z := Option.some.inj hT
      rw [← z, hdL] at hdT
      cases hdT
    refine ⟨fun b o e => (sb2.2 b fun q => by rw [q, hid0] at e; cases e).trans (k1 b o (PySem.W.of_hideAll _ e)), hidN a k2, funFrames_none (Heap.FunFrames.sameBut sb2 hn2 k3) fun L hL => hidN L (Heap.FunFrames.mem k3 hL).1, ?_⟩
    exact ⟨oe, vs, T, oT, ts, (sb2.2 a neE).trans he, hz, hd, h1', hidN T hnT, hTe, (sb2.2 T neT).trans hT, hdT, h3⟩
  unfold PySem.passOn
  obtain ⟨j1, j2, j3, oe, vs, T, oT, ts, he, hz, hd, h1', hr⟩ := id hh2
  refine wpAny_bind (wpAny_field he hd h1' ?_)
  rw [if_neg (show ¬ ((Value.ref T == Value.none) = true) from by simp), hcf]
  obtain ⟨G, g1, g2⟩ := restrict sI.heap fun b => decide (b ≠ ce.locals)
  have gN : ∀ b, b ≠ ce.locals → G.get? b = sI.heap.get? b := fun b hb => g1 b (by simpa using hb)
  have gI : ∀ b o, G.get? b = some o → b ≠ ce.locals ∧ sI.heap.get? b = some o := fun b o e => by
    by_cases q : b = ce.locals
    · rw [g2 b (by simp [q])] at e; cases e
    · exact ⟨q, by rw [← gN b q]; exact e⟩
  have nC : H' ce.locals = none := I6.free
  have old : ∀ b o, s3.heap.get? b = some o → b ≠ ce.locals := fun b o e q => by
    have := Heap.lt_size e
    rw [q, cL] at this
    exact Nat.lt_irrefl _ this
  have ub := I6.base
  have I7 : Inv X pins σ H' { sI with heap := G } := I3.call' (s' := { sI with heap := G }) (ch := fp) I6.os
    ⟨fun b o e n h1 h2 => (gN b (old b o e)).trans (ub.keep b o e n h1 h2), fun b o e n h1 h2 => let ⟨sl, q⟩ := ub.slot b o e n h1 h2; ⟨sl, (gN b (old b o e)).trans q⟩, ub.free, fun b o e hx => let ⟨o', q⟩ := ub.there b o e hx; ⟨o', (gN b (old b o e)).trans q⟩, ub.tups, ub.frzs, ub.tbls⟩
    (fun b u e => (I6.hok b u e).stay (fun c v hc r => (gN c fun q => by
      rcases hc with hc | hc
      · rw [hc] at q; rw [q, nC] at e; cases e
      · rw [q, nC] at hc; cases hc).trans r) (fun _ r => r) fun _ _ r => r) I6.bare fun b hb => ⟨(f3 b hb).2.2.2.1, (f3 b hb).2.1, (f3 b hb).2.2.2.2.1, (f3 b hb).2.2.2.2.2⟩
  refine wpAny_bind (HandSPX.setFlight_onZ hh2 fun h4 hh4 up4 => wpAny_throw (tk _ _ ?_))
  refine ⟨a, _, { sI with heap := G }, pins, σ, H', cls, d, rfl, I7, fun b o e hb => ?_, fun b o e hnf => ?_, .inr (.inr (by rw [hs]; exact hh4)), na, os, ag, hw _ _ _ ?_ w⟩
  · obtain ⟨q1, q2⟩ := gI b o e
    exact PySem.W.hideAll_get _ (nb b o q2 hb) (by simpa using q1)
  · obtain ⟨q1, q2⟩ := gI b o e
    obtain ⟨l1, e1⟩ := up b o q2 hnf
    obtain ⟨l2, e2⟩ := up1 b _ e1 hnf
    have e3 := (sb2.2 b q1).trans e2
    obtain ⟨l3, e4⟩ := up4 b _ e3 hnf
    exact ⟨l3, e4⟩
  · exact .of (fun a xs h => ub.tups a xs h) fun a o u h _ => ub.frzs a o u h
end
end DL
set_option maxRecDepth 100000
namespace DL
open PySem L2
abbrev Cx.el (X : Cx) (s : Shared) (H : Hp) (scope : Scope) (C : Addr) (cl : List (Str × Addr)) (fp : List Addr) (pn : List (Addr × Obj)) (xe : Value → Shared → Prop) : Cx := (X.blk s H scope (compEnvC scope cl C X.env) fp).tr pn xe
def PassW (X : Cx) (We : WX) : Prop := ∀ σ, PassesAt (L2.CX X.prog X.w) X σ (WE We σ)
section
variable {X : Cx} {W' : WX}
def tLcr (K : PySem.W.Frag) (W' : WX) (wi : TI) (g : TG) (tt : TT) (te : WX → TE) (vs : List Nat) : TE := fun σ H Q => wi σ H fun J H1 => ∀ D, H1 D = none → ∃ (We : WX) (W : Nat → Nat → Hp → Prop), (∀ c d σ8 H', TupP K (upd H1 D (.lst [])) H' → We c d σ8 H' → W' c d σ H') ∧ (∃ m, W 0 m (upd H1 D (.lst []))) ∧ ∀ i m H, W i m H →
  (J.stop i H ∧ Q (.ref D) H) ∨ (J.go i H ∧ ∃ Nx : Hp → Prop, (∀ H', Nx H' → ∃ m', m' < m ∧ W (i + 1) m' H') ∧ ∀ x H', J.yld i H x H' → g x (wipe σ vs) H' fun σ2 H2 => wipe σ2 vs = wipe σ vs ∧ tt σ2 H2 fun b H3 =>
    if b = true then te We σ2 H3 fun y H4 => ∃ acc, H4 D = some (.lst acc) ∧ acc.length < sizeLine ∧ Nx (upd H4 D (.lst (acc ++ [y]))) else Nx H3)
theorem pe_lcr {elt tg iter : Expr} {ifs : List Expr} {scope : Scope} {own : List (Str × Nat)} {pos : Pos} {wi : TI} {g : TG} {tt : TT} {te : WX → TE} (hst : X.stack = X.env :: X.outer) (hf : X.env.frame = some X.env.locals) (tk : Takes X W') (hc : X.calm = true) (hN : X.N.Nodup) (hi : PI X tg iter wi) (ok : BlkOk X.N X.env.scope scope own)
    (hg : ∀ (s : Shared) (H : Hp) (C : Addr) (cl : List (Str × Addr)) (fp : List Addr), PG (X.blk s H scope (compEnvC scope cl C X.env) fp) tg g) (ht : ∀ (s : Shared) (H : Hp) (C : Addr) (cl : List (Str × Addr)) (fp : List Addr), PTs (X.blk s H scope (compEnvC scope cl C X.env) fp) ifs tt)
    (he : ∀ (We : WX) (s : Shared) (H : Hp) (C : Addr) (cl : List (Str × Addr)) (fp : List Addr) (pn : List (Addr × Obj)) (xe : Value → Shared → Prop), PassW (Cx.el X s H scope C cl fp pn xe) We → PE (Cx.el X s H scope C cl fp pn xe) elt (te We))
    (hs : ∀ x, foldedSetIterable iter X.env x = pure x := by intro _; rfl) :
    PE X (.ListComp elt [⟨tg, iter, ifs, 0⟩] scope pos) (tLcr X.K W' wi g tt te (own.map (·.2))) := by
  refine ⟨fun pins s σ H Q I h => ?_⟩
  rw [eval_ListComp]
  have hfree : ∀ y ∈ scope.names, y.2 = .free → ∃ c, X.env.cells.lookup y.1 = some c := fun y hy e => (ok.free y hy e).elim (fun k => I.ok.has _ (.inl k)) fun k => I.ok.has _ (.inr k)
  refine comprehension_at (use := none) rfl hs (L2.closure_ok hfree) ok.kind (fun y hy e => by rw [ok.uniq y hy, e]) (thn (hi.run pins s σ H _ I h) fun xv s1 hx => thn hx fun itv s2 h2 => ?_)
  obtain ⟨it, fp, tn, J, H2, rfl, I2, T, st2, f2, q⟩ := h2
  refine wpAny_newObj_type (newEnv_comp ?_) (by show 0 ≤ sizeLine; decide)
  generalize hD : s2.heap.objs.size = D
  obtain ⟨We, W, hWe, ⟨m0, w0⟩, turn⟩ := q D (I2.hok.fresh (Nat.le_of_eq hD))
  generalize hs3 : ({ s2 with heap := s2.heap.push { cls := .type "list", data := .seq ([] : List Value).toArray } } : Shared) = s3
  have h3 : s3.heap = s2.heap.push { cls := .type "list", data := .seq ([] : List Value).toArray } := by rw [← hs3]
  have I3 : Inv X pins σ (upd H2 D (.lst [])) s3 := by
    rw [← hs3]
    exact I2.laid (t' := s2.toks) (fun b o e => Heap.get?_push_of_some _ e) (Nat.le_of_eq hD) ⟨Nat.zero_le _, [], 0, .nil, by rw [← hD]; exact Heap.get?_push_size _ rfl⟩
  have f3 : ∀ b ∈ fp, FpOk X pins (upd H2 D (.lst [])) b ∧ b < s3.heap.objs.size := fun b hb => by
    obtain ⟨o, e, _⟩ := T.obj _ _ st2 b hb
    have hlt := Heap.lt_size e
    exact ⟨⟨by rw [upd_ne (by rw [← hD]; exact Nat.ne_of_lt hlt)]; exact (f2 b hb).1, (f2 b hb).2⟩, by rw [h3, Heap.size_push]; exact Nat.lt_succ_of_lt hlt⟩
  have st3 : tn 0 s3.heap := T.keep _ _ _ st2 fun b _ o e => by rw [h3]; exact Heap.get?_push_of_some _ e
  have I4 := block_start I3 ok hN f3
  have pg := hg s3 (upd H2 D (.lst [])) s3.heap.objs.size (cellsFrom (s3.heap.objs.size + 1) scope.names (cloFrom X.env.cells scope.names [])) fp
  have pt := ht s3 (upd H2 D (.lst [])) s3.heap.objs.size (cellsFrom (s3.heap.objs.size + 1) scope.names (cloFrom X.env.cells scope.names [])) fp
  have pe := he We s3 (upd H2 D (.lst [])) s3.heap.objs.size (cellsFrom (s3.heap.objs.size + 1) scope.names (cloFrom X.env.cells scope.names [])) fp
  show codeAny _ _ (.compStart (.ListComp elt [⟨tg, iter, ifs, 0⟩] scope pos) 0 (.ref it) (.ref D) (compEnvC scope (cellsFrom (s3.heap.objs.size + 1) scope.names (cloFrom X.env.cells scope.names [])) s3.heap.objs.size X.env))
    (compEnds (model X.prog X.w) X.A X.xe none (EP X pins σ Q) (.ref D) (compEnvC scope (cellsFrom (s3.heap.objs.size + 1) scope.names (cloFrom X.env.cells scope.names [])) s3.heap.objs.size X.env)) { s3 with heap := pushCells (s3.heap.push { cls := .type "dict", data := .dict #[] }) scope.names }
  have nfp : ∀ b ∈ fp, (upd H2 D (.lst [])) b = none := fun b hb => (f3 b hb).1.1
  generalize hce : compEnvC scope (cellsFrom (s3.heap.objs.size + 1) scope.names (cloFrom X.env.cells scope.names [])) s3.heap.objs.size X.env = ce at I4 pg pt ⊢
  have cL : ce.locals = s3.heap.objs.size := by subst hce; rfl
  have cF : ce.frame = X.env.frame := by subst hce; rfl
  have pe : ∀ (pn : List (Addr × Obj)) (xe : Value → Shared → Prop), PassW ((X.blk s3 (upd H2 D (.lst [])) scope ce fp).tr pn xe) We → PE ((X.blk s3 (upd H2 D (.lst [])) scope ce fp).tr pn xe) elt (te We) := by subst hce; exact pe
  generalize hH3 : upd H2 D (.lst []) = H3 at I3 I4 pg pt pe w0 nfp f3 hWe
  generalize hs4 : ({ s3 with heap := pushCells (s3.heap.push { cls := .type "dict", data := .dict #[] }) scope.names } : Shared) = s4 at I4 ⊢
  have st4 : tn 0 s4.heap := T.keep _ _ _ st3 fun b _ o e => by rw [← hs4]; exact pushCells_keeps _ _ _ _ (Heap.get?_push_of_some _ e)
  have stat : ∀ {σ' : L2.St} {H' : Hp} {s' : Shared}, Inv (X.blk s3 H3 scope ce fp) [] σ' H' s' → (∀ b ∈ fp, H' b = none) → ∀ b ∈ fp, FpOk (X.blk s3 H3 scope ce fp) [] H' b := fun {σ' H' s'} I' hn b hb =>
    ⟨hn b hb, (I'.ok.exf b hb).1, I'.ok.exfs b hb, .inl hb, fun x c e => (I'.ok.exf b hb).2 x c e, fun p hp => absurd (show p ∈ ([] : List (Addr × Obj)) ++ [] from hp) (by simp)⟩
  have loop : codeAny (model X.prog X.w) X.A (.compLoop (.ListComp elt [⟨tg, iter, ifs, 0⟩] scope pos) 0 (.ref it) (.ref D) ce) (compEnds (model X.prog X.w) X.A X.xe none (EP X pins σ Q) (.ref D) ce) s4 := by
    refine compLoop_any (fun n s' => ∃ i H', Inv (X.blk s3 H3 scope ce fp) [] (wipe σ (own.map (·.2))) H' s' ∧ tn i s'.heap ∧ (∀ b ∈ fp, H' b = none) ∧ W i n H') ?_ m0 ⟨0, H3, I4, st4, nfp, w0⟩
    rintro n s5 ⟨i, H5, I5, st5, n5, w5⟩
    rcases turn i n H5 w5 with ⟨stop, qq⟩ | ⟨go, Nx, hNx, step⟩
    · refine thnF (T.done (X.blk s3 H3 scope ce fp) rfl rfl rfl hc i [] s5 _ H5 (fun _ _ => False) I5 (stat I5 n5) st5 stop) fun r s6 ⟨hr, I6⟩ => ?_
      subst hr
      have I7 : Inv X pins σ H5 s6 := I3.call' (ch := fp) I6.os I6.base I6.hok I6.bare fun b hb => ⟨(f3 b hb).1.2.2.2.1, (f3 b hb).1.2.1, (f3 b hb).1.2.2.2.2.1, (f3 b hb).1.2.2.2.2.2⟩
      have nC : H5 s3.heap.objs.size = none := by
        have z : H5 ce.locals = none := I6.free
        rw [cL] at z
        exact z
      obtain ⟨m, hn, _⟩ := I6.loc
      obtain ⟨_, p1, p2, p3, p4, p5⟩ := I3.fpOk (H' := H5) (Nat.le_refl _) nC
      refine ⟨m, hn, fun h'' sb => ?_⟩
      have sb : Heap.SameBut ce.locals s6.heap h'' := sb
      rw [cL] at sb
      exact ⟨.ref D, H5, I7.turned (t' := s6.toks) (fun b o hb e => (sb.2 b hb).trans e) nC p1 p3 p4 p5, rfl, qq⟩
    · refine thnF (T.item (X.blk s3 H3 scope ce fp) rfl rfl rfl hc i [] s5 _ H5 (fun _ _ => False) I5 (stat I5 n5) st5 go) fun r s6 ⟨u, hr, h6⟩ => ?_
      subst hr
      refine thnF h6 fun _ s7 ⟨x, H7, I7, r7, y7, st7, n7⟩ => ?_
      have I7' := I7.pinned (stat I7 n7) (T.obj _ _ st7)
      refine thnF (pg.run _ s7 _ H7 x u _ I7' r7 (step x H7 y7)) fun _ s8 ⟨σ8, H8, I8, hw8, q8⟩ => ?_
      refine thnF (pt.run _ s8 σ8 H8 _ I8 q8) fun b s9 ⟨H9, I9, q9⟩ => ?_
      have hend : ∀ {s' : Shared} {H' : Hp}, Inv (X.blk s3 H3 scope ce fp) ([] ++ pinsAt fp s7.heap) σ8 H' s' → Nx H' → ∃ m, m < n ∧ ∃ i H', Inv (X.blk s3 H3 scope ce fp) [] (wipe σ (own.map (·.2))) H' s' ∧ tn i s'.heap ∧ (∀ b ∈ fp, H' b = none) ∧ W i m H' := fun {s' H'} I' nx => by
        obtain ⟨m', hm, w'⟩ := hNx H' nx
        have pin' : ∀ b ∈ fp, ∀ o, s7.heap.get? b = some o → s'.heap.get? b = some o ∧ H' b = none := fun b hb o e =>
          let z := I'.pin (b, o) (List.mem_append_right _ (List.mem_append_right _ (mem_pinsAt hb e)))
          ⟨z.1, z.2.1⟩
        refine ⟨m', hm, i + 1, H', (I'.unpinned (pins := [])).weak (by rw [← hw8, wipe_length]) (fun j v e => ?_), T.keep _ _ _ st7 fun b hb o e => (pin' b hb o e).1, fun b hb => ?_, w'⟩
        · rw [← hw8] at e
          exact (wipe_some e).1
        · obtain ⟨o, e, _⟩ := T.obj _ _ st7 b hb
          exact (pin' b hb o e).2
      cases b with
      | false =>
        simp only [Bool.false_eq_true, if_false] at q9 ⊢
        exact hend I9 q9
      | true =>
        simp only [if_true] at q9 ⊢
        have P := pe ((X.blk s3 H3 scope ce fp).pn ++ ([] ++ pinsAt fp s7.heap)) (fun u s' => ∃ (P7 : List (Addr × Obj)) (σ8 : L2.St) (H9 : Hp) (s9 : Shared), Inv (X.blk s3 H3 scope ce fp) P7 σ8 H9 s9 ∧ L2.CX X.prog X.w X.stack H9 s9 (WE We σ8) u s')
          fun σ9 pins9 H9 s9 e s' J c => ⟨_, σ9, H9, s9, J.ofTry I9.ok, c⟩
        refine wpAny_mono (P.run [] s9 σ8 H9 _ (I9.toTry _) q9) (fun z s10 ⟨yv, H10, J10, r10, acc, hD10, hz10, nx⟩ => ?_) fun u s' ⟨P7, σ7, H7, s7, J, c⟩ => ?_
        · exact app_ok (X := X.blk s3 H3 scope ce fp) (J10.ofTry I9.ok) hD10 hz10 r10 fun s11 I11 => hend I11 nx
        · exact comp_out hst hf tk cF cL I3 (fun b hb => (f3 b hb).1) J c fun cc d H' t z => hWe cc d σ7 H' t z
  exact codeAny_compStart_list loop (T.self X.A 0 _ _ _ st4 loop)
end
end DL
set_option maxRecDepth 100000
namespace DL
open PySem L2
def compR (ck : Sto → Bool) (p : Pat) (ft : FB) (fe : FV) (δ0 : DEnv) : List D → Sto → Out (List D)
  | [], S => if ck S = true then .ok [] S else .no
  | x :: xs, S => if ck S = true then (match bindP p x δ0 with
    | none => .no
    | some δ1 => bnd (noE (ft δ1 S)) fun b S1 => if b = true then bnd (fe δ1 S1) fun d S2 => bnd (compR ck p ft fe δ0 xs S2) fun ds S3 => .ok (d :: ds) S3 else compR ck p ft fe δ0 xs S1) else .no
def FrX {α : Type} (f : DEnv → Sto → Out α) : Prop := ∀ δ S D o c S', S D = none → f δ S = .er c S' → S' D = none ∧ f δ (sup S D o) = .er c (sup S' D o)
def fLcr (fi : DEnv → Sto → Out SrcF) (p : Pat) (ft : FB) (fe : FV) (vs : List Nat) : DEnv → Sto → Out (List D) := fun δ S => bnd (fi δ S) fun s S1 => if s.items.length ≤ sizeLine then compR s.ck p ft fe (wipeD δ vs) s.items S1 else .no
def dLcr (w : WD) (f : DEnv → Sto → Out (List D)) : TDE := fun δ S Q => fin (f δ S) (fun c S' => w c δ S') fun ds S2 => ∀ p, S2 p = none → Q (.ref p) (sup S2 p (.lst ds))
theorem dLcr_mono {w : WD} {f : DEnv → Sto → Out (List D)} : MonoE (dLcr w f) := fun δ S Q Q' k q => fin_mono (fun _ _ z => z) (fun ds S2 z p n => k _ _ (z p n)) q
abbrev PassD (X : Cx) (w : WD) : Prop := PassW X (wX X w)
theorem PassW.imp {X : Cx} {We We' : WX} (h : PassW X We) (k : ∀ c d σ H, We' c d σ H → We c d σ H) : PassW X We' := fun σ pins H s e s' I ⟨a, B, H', cls, d, e0, fl, hok, ub, na, os, ag, z⟩ => h σ pins H s e s' I ⟨a, B, H', cls, d, e0, fl, hok, ub, na, os, ag, k _ _ _ _ z⟩
theorem xfin_less {c : XD} {S : Sto} {D : Addr} {o : DO} {w : XV → Sto → Prop} (n : S D = none) (h : xfin c S w) : xfin c (sup S D o) fun c S1 => ∃ S0, Less S0 S1 ∧ w c S0 := by
  unfold xfin at *
  split at h
  · rename_i e
    exact ⟨S, less_sup n, h⟩
  · rename_i fs e
    refine fun dd hd => ⟨_, fun a u ea => ?_, h dd (by
      by_cases z : dd = D
      · rw [z]; exact n
      · rw [sup_ne z] at hd; exact hd)⟩
    have ne : dd ≠ D := fun z => by rw [z, sup_same] at hd; cases hd
    by_cases z : a = dd
    · subst z
      rw [sup_same] at ea ⊢
      exact ea
    · rw [sup_ne z] at ea ⊢
      by_cases z2 : a = D
      · rw [z2, n] at ea; cases ea
      · rw [sup_ne z2]; exact ea
section
variable {X : Cx} {wx : WD} {elt tg iter : Expr} {ifs : List Expr} {scope : Scope} {own : List (Str × Nat)} {pos : Pos} {fi : DEnv → Sto → Out SrcF} {p : Pat} {ft : FB} {fe : FV}
def teR (X : Cx) (fe : FV) (We : WX) : TE := fun σ H Q => ∃ we : WD, (∀ c d σ H, wX X we c d σ H → We c d σ H) ∧ upE X (upF we fe) σ H Q
theorem lcr_lift (hi : FI X wx tg iter fi) (hsl : ∀ i ∈ p.slots, i ∈ own.map (·.2)) (h1 : FrF ft) (h2 : FrF fe) (h3 : FrX fe) {σ : L2.St} {H : Hp} {Q : VK} {δ : DEnv} {S : Sto} (R : Rel X δ S σ H) {Q1 : DK} (q : dLcr wx (fLcr fi p ft fe (own.map (·.2))) δ S Q1) (hq : ∀ d S1 v H1, Q1 d S1 → Rel X δ S1 σ H1 → Dv X.K H1 d v → TupP X.K H H1 → Q v H1) :
    tLcr X.K (wX X wx) (upI X (upI' wx fi)) (gPat X.K p) (upT X (upB w0 ft)) (teR X fe) (own.map (·.2)) σ H Q := by
  unfold dLcr fLcr at q
  rw [fin_bnd] at q
  refine ⟨δ, S, R, hi.mono _ _ _ _ (fun src S1 q1 J H1 R1 t1 it D hD => ?_) (show upI' wx fi δ S (fun src S1 => ∃ s : SrcF, src = s.src ∧ s.items.length ≤ sizeLine ∧ fin (compR s.ck p ft fe (wipeD δ (own.map (·.2))) s.items S1) (fun c S' => wx c δ S') fun ds S2 => ∀ p, S2 p = none → Q1 (.ref p) (sup S2 p (.lst ds))) from fin_mono (fun _ _ z => z) (fun s S1 z => by
    by_cases l : s.items.length ≤ sizeLine
    · rw [if_pos l] at z; exact ⟨s, rfl, l, z⟩
    · rw [if_neg l] at z; exact z.elim) q)⟩
  obtain ⟨s, rfl, len, q1⟩ := q1
  have nS : S1 D = none := R1.free hD
  have tD : TupP X.K H1 (upd H1 D (.lst [])) := TupP.laid hD
  have RD : Rel X δ (sup S1 D (.lst [])) σ (upd H1 D (.lst [])) := R1.new hD (ObjD.new_lst Dvs.nil hD)
  refine ⟨wX X fun c _ S => ∃ S0, Less S0 S ∧ wx c δ S0, fun i m H' => m = s.items.length - i ∧ i ≤ s.items.length ∧ ∃ (S' : Sto) (acc : List DL.D), S' D = none ∧ acc.length ≤ i ∧ Rel X δ (sup S' D (.lst acc)) σ H' ∧ TupP X.K H1 H' ∧
      fin (compR s.ck p ft fe (wipeD δ (own.map (·.2))) (s.items.drop i) S') (fun c S' => wx c δ S') fun ds S2 => ∀ p, S2 p = none → Q1 (.ref p) (sup S2 p (.lst (acc ++ ds))),
    fun c d σ8 H' t ⟨δ8, S8, R8, S0, l, z⟩ => ⟨δ, S0, RD.next t fun a o e => R8.sto a o (l _ _ e), z⟩, ⟨_, rfl, Nat.zero_le _, S1, [], nS, Nat.le_refl _, RD, tD, q1⟩, ?_⟩
  rintro i m H' ⟨rfl, hi', S', acc, n', la, R', t', q'⟩
  have hck : s.ck S' = true := by
    cases e : s.items.drop i with
    | nil =>
      rw [e] at q'
      unfold compR at q'
      by_cases z : s.ck S' = true
      · exact z
      · rw [if_neg z] at q'; exact q'.elim
    | cons x xs =>
      rw [e] at q'
      unfold compR at q'
      by_cases z : s.ck S' = true
      · exact z
      · rw [if_neg z] at q'; exact q'.elim
  obtain ⟨g1, g2⟩ := it δ _ σ H' R' t' (s.fr S' D _ n' hck)
  have li : s.src.items.length = s.items.length := rfl
  by_cases hlt : i < s.items.length
  · refine .inr ?_
    have e1 : s.src.items[i]? = some s.items[i] := by show s.items[i]? = _; simp [hlt]
    obtain ⟨go, yd⟩ := g1 i _ e1
    rw [List.drop_eq_getElem_cons hlt] at q'
    unfold compR at q'
    rw [if_pos hck] at q'
    refine ⟨go, fun H2 => ∃ (S2 : Sto) (acc : List DL.D), S2 D = none ∧ acc.length ≤ i + 1 ∧ Rel X δ (sup S2 D (.lst acc)) σ H2 ∧ TupP X.K H1 H2 ∧ fin (compR s.ck p ft fe (wipeD δ (own.map (·.2))) (s.items.drop (i + 1)) S2) (fun c S' => wx c δ S') fun ds S2 => ∀ p, S2 p = none → Q1 (.ref p) (sup S2 p (.lst (acc ++ ds))),
      fun H2 ⟨S2, acc, z⟩ => ⟨_, by omega, rfl, hlt, S2, acc, z⟩, fun x H2 y => ?_⟩
    obtain ⟨R2, r2, t2⟩ := yd x H2 y
    split at q'
    · exact q'.elim
    · rename_i δ1 eb
      refine bindP_ok (vs := own.map (·.2)) p _ _ δ1 (wipe σ (own.map (·.2))) x _ eb (R2.wipe _) r2 hsl ?_
      intro σ3 R3 a3
      refine ⟨?_, ?_⟩
      · have z : Agree (own.map (·.2)) σ (L2.wipe σ (own.map (·.2))) := ⟨by rw [wipe_length], fun j h => wipe_out h⟩
        exact a3.wipe.trans z.wipe
      · have back : ∀ {S4 : Sto} {H4 : Hp}, Rel X δ1 S4 σ3 H4 → TupP X.K H2 H4 → Rel X δ S4 σ H4 := fun R4 t4 => ⟨R2.len, fun j d e => by
          obtain ⟨v, e1, r⟩ := R2.loc j d e
          exact ⟨v, e1, r.mono t4⟩, R4.sto⟩
        cases et : ft δ1 S' with
        | er c S'' => rw [et] at q'; exact q'.elim
        | no => rw [et] at q'; exact q'.elim
        | ok b S4 =>
          rw [et] at q'
          obtain ⟨n4, g4⟩ := h1 δ1 S' D (.lst acc) b S4 n' et
          refine ⟨δ1, _, R3, ?_⟩
          show fin (ft δ1 (sup S' D (.lst acc))) _ _
          rw [g4]
          intro H4 R4 t4
          have q' : fin (if b = true then bnd (fe δ1 S4) fun d S2 => bnd (compR s.ck p ft fe (wipeD δ (own.map (·.2))) (s.items.drop (i + 1)) S2) fun ds S3 => .ok (d :: ds) S3 else compR s.ck p ft fe (wipeD δ (own.map (·.2))) (s.items.drop (i + 1)) S4) (fun c S' => wx c δ S') (fun ds S2 => ∀ p, S2 p = none → Q1 (.ref p) (sup S2 p (.lst (acc ++ ds)))) := q'
          cases b <;> simp only [if_true, Bool.false_eq_true, if_false] at q' ⊢
          · exact ⟨S4, acc, n4, by omega, back R4 t4, t'.trans (t2.trans t4), q'⟩
          · refine ⟨fun c _ S => ∃ S0, Less S0 S ∧ wx c δ S0, fun _ _ _ _ z => z, δ1, _, R4, ?_⟩
            show fin (fe δ1 (sup S4 D (.lst acc))) _ _
            cases ee : fe δ1 S4 with
            | no => rw [ee] at q'; exact q'.elim
            | er c S5 =>
              rw [ee] at q'
              obtain ⟨n5, g5⟩ := h3 δ1 S4 D (.lst acc) c S5 n4 ee
              rw [g5]
              have q2 : xfin c S5 (fun c S' => wx c δ S') := q'
              exact xfin_less n5 q2
            | ok d S5 =>
              rw [ee] at q'
              obtain ⟨n5, g5⟩ := h2 δ1 S4 D (.lst acc) d S5 n4 ee
              rw [g5]
              have q' : fin (bnd (compR s.ck p ft fe (wipeD δ (own.map (·.2))) (s.items.drop (i + 1)) S5) fun ds S3 => .ok (d :: ds) S3) (fun c S' => wx c δ S') (fun ds S2 => ∀ p, S2 p = none → Q1 (.ref p) (sup S2 p (.lst (acc ++ ds)))) := q'
              rw [fin_bnd] at q'
              intro v H5 R5 r5 t5
              obtain ⟨vs, e5, z5⟩ := R5.sto D _ sup_same
              have t6 : TupP X.K H5 (upd H5 D (.lst (vs ++ [v]))) := R5.tup_change sup_same
              have R6 := (back R5 (t4.trans t5)).change (ho := .lst (vs ++ [v])) (o := .lst (acc ++ [d])) sup_same ⟨_, upd_same, ((z5.append (Dvs.cons r5 Dvs.nil)).mono t6)⟩
              rw [sup_sup] at R6
              refine ⟨vs, e5, by rw [← z5.length]; omega, S5, acc ++ [d], n5, by rw [List.length_append, List.length_singleton]; omega, R6, t'.trans (t2.trans (t4.trans (t5.trans t6))), fin_mono (fun _ _ z => z) (fun ds S3 z p n => ?_) q'⟩
              have := z p n
              rw [List.append_assoc]
              exact this
  · have e : i = s.items.length := by omega
    subst e
    rw [List.drop_length] at q'
    unfold compR at q'
    rw [if_pos hck] at q'
    have q2 : ∀ p, S' p = none → Q1 (.ref p) (sup S' p (.lst (acc ++ []))) := q'
    rw [List.append_nil] at q2
    exact .inl ⟨g2, hq _ _ _ _ (q2 D n') R' (dv_ref.mpr rfl) (t1.trans t')⟩
theorem de_lcr (hst : X.stack = X.env :: X.outer) (hf : X.env.frame = some X.env.locals) (tk : TakesD X wx) (hc : X.calm = true) (hN : X.N.Nodup) (hi : FI X wx tg iter fi) (ok : BlkOk X.N X.env.scope scope own) (hsl : ∀ i ∈ p.slots, i ∈ own.map (·.2))
    (hg : ∀ (s : Shared) (H : Hp) (C : Addr) (cl : List (Str × Addr)) (fp : List Addr), PPat (X.blk s H scope (compEnvC scope cl C X.env) fp) tg p) (ht : ∀ (s : Shared) (H : Hp) (C : Addr) (cl : List (Str × Addr)) (fp : List Addr), DTs (X.blk s H scope (compEnvC scope cl C X.env) fp) ifs (upB w0 ft))
    (he : ∀ (we : WD) (s : Shared) (H : Hp) (C : Addr) (cl : List (Str × Addr)) (fp : List Addr) (pn : List (Addr × Obj)) (xe : Value → Shared → Prop), PassD (Cx.el X s H scope C cl fp pn xe) we → FE (Cx.el X s H scope C cl fp pn xe) we elt fe) (h1 : FrF ft) (h2 : FrF fe) (h3 : FrX fe) (hs : ∀ x, foldedSetIterable iter X.env x = pure x := by intro _; rfl) :
    DE X (.ListComp elt [⟨tg, iter, ifs, 0⟩] scope pos) (dLcr wx (fLcr fi p ft fe (own.map (·.2)))) := by
  have cv : ∀ (s : Shared) (H : Hp) (C : Addr) (cl : List (Str × Addr)) (fp : List Addr) {δ : DEnv} {S : Sto} {σ : L2.St} {H' : Hp}, Rel X δ S σ H' → Rel (X.blk s H scope (compEnvC scope cl C X.env) fp) δ S σ H' := fun s H C cl fp δ S σ H' R => ⟨R.len, R.loc, R.sto⟩
  have vc : ∀ (s : Shared) (H : Hp) (C : Addr) (cl : List (Str × Addr)) (fp : List Addr) {δ : DEnv} {S : Sto} {σ : L2.St} {H' : Hp}, Rel (X.blk s H scope (compEnvC scope cl C X.env) fp) δ S σ H' → Rel X δ S σ H' := fun s H C cl fp δ S σ H' R => ⟨R.len, R.loc, R.sto⟩
  have cv2 : ∀ (s : Shared) (H : Hp) (C : Addr) (cl : List (Str × Addr)) (fp : List Addr) (pn : List (Addr × Obj)) (xe : Value → Shared → Prop) {δ : DEnv} {S : Sto} {σ : L2.St} {H' : Hp}, Rel X δ S σ H' → Rel (Cx.el X s H scope C cl fp pn xe) δ S σ H' := fun s H C cl fp pn xe δ S σ H' R => ⟨R.len, R.loc, R.sto⟩
  have vc2 : ∀ (s : Shared) (H : Hp) (C : Addr) (cl : List (Str × Addr)) (fp : List Addr) (pn : List (Addr × Obj)) (xe : Value → Shared → Prop) {δ : DEnv} {S : Sto} {σ : L2.St} {H' : Hp}, Rel (Cx.el X s H scope C cl fp pn xe) δ S σ H' → Rel X δ S σ H' := fun s H C cl fp pn xe δ S σ H' R => ⟨R.len, R.loc, R.sto⟩
  refine ⟨dLcr_mono, pe_weak (pe_lcr (g := gPat X.K p) (tt := upT X (upB w0 ft)) (te := teR X fe) hst hf tk.tk hc hN hi.pi ok (fun s H C cl fp => (hg s H C cl fp).pg) (fun s H C cl fp => ⟨fun pins s' σ H' Q I ⟨δ, S, R, q⟩ => (ht s H C cl fp).pts.run pins s' σ H' Q I ⟨δ, S, cv s H C cl fp R, upB_mono _ _ _ _ (fun b S1 z H1 R1 t1 => z H1 (vc s H C cl fp R1) t1) q⟩⟩)
    (fun We s H C cl fp pn xe pw => ⟨fun pins s' σ H' Q I ⟨we, hwe, δ, S, R, q⟩ => (he we s H C cl fp pn xe (pw.imp fun c d σ H ⟨δ, S, R, z⟩ => hwe _ _ _ _ ⟨δ, S, vc2 s _ C cl fp pn xe R, z⟩)).pe.run pins s' σ H' Q I ⟨δ, S, cv2 s H C cl fp pn xe R, upF_mono _ _ _ _ (fun d S1 z v H1 R1 r1 t1 => z v H1 (vc2 s H C cl fp pn xe R1) r1 t1) q⟩⟩) hs) fun σ H Q ⟨δ, S, R, q⟩ => ?_⟩
  exact lcr_lift hi hsl h1 h2 h3 R q fun d S1 v H1 q1 R1 r1 t1 => q1 v H1 R1 r1 t1
end
end DL
set_option maxRecDepth 100000
namespace DL
open PySem L2
section
variable {X : Cx} {e : Expr} {es : List Expr} {ta : TA} {p1 p2 pos : Pos} {B : Str} {C0 : Addr}
theorem pe_ovinit {pl : Sem Bool} (hg : Gl X B) (hm : X.mg B = some (.ref C0)) (rd : PySem.W.readsIn X.K C0 (.type "type") = true) (ga : PySem.W.specialIn X.K (.ref C0) "__getattribute__" = some (some (.builtin "type.__getattribute__"))) (fc : PySem.W.findCls X.K (.ref C0) (.type "type") "__init__" = some (.val (.builtin "ValueError.__init__"))) (ha : PA X (e :: es) ta)
    (hdb : (B == ("__debug__" : Str)) = false := by decide)
    (hc : eval (.Call (.Attribute (.Name B p1) "__init__" p2) (e :: es) [] pos) X.env = (do
      let ov ← eval (.Name B p1) X.env
      standAt p2.atName
      let (f, first) ← holding [ov] (getMethod ov "__init__" pl)
      callWith pos f first (backTo pos (starEach (e :: es) X.env)) (backToKw pos (keywordEach [] X.env))) := by rfl)
    (he : starEach (e :: es) X.env = (false, eval e X.env) :: starEach es X.env := by rfl) (hpl : (backTo pos (starEach es X.env)).any (·.1) = false := by rfl) :
    PE X (.Call (.Attribute (.Name B p1) "__init__" p2) (e :: es) [] pos) (tVeI X.K ta) := by
  refine ⟨fun pins s σ H Q I h => ?_⟩
  refine PySem.W.methodCall_KW (ld_glob I hg hm ?_ hdb) hc
  refine PySem.W.method_cls I.kIn ga (PySem.W.cls_value I.kIn rd fc (by decide +kernel) ?_)
  show wpAny _ _ (callWith pos (Value.builtin "ValueError.__init__") [] (backTo pos (starEach (e :: es) X.env)) []) _ _ _
  refine PyProof.Rows.callWith_method1 (thn (ha.run pos pins _ σ H _ (I.tok _) h) fun us s1 ⟨vs, H1, I1, r1, a, C, ws, ev, hl, T, ea, q⟩ => ?_) he hpl
  subst ev
  cases r1 with
  | @cons _ u0 _ ur ra rw' =>
    obtain rfl : u0 = Value.ref a := ra
    exact oinit_ok T I1 ea (by have h1 := Paired.length rw'; have h2 : (1000 : Nat) ≤ sizeLine := by decide
                               omega) fun s' J => ⟨.non, H1, J, rfl, q⟩
end
def spIni (K : PySem.W.Frag) (f : Str) : Sp := fun vs H Q _ => ∃ (a C : Addr) (i : Int), vs = [.ref a, .int i] ∧ H a = some (exo a C none) ∧ OexC K C ∧ PySem.W.findIn K (.ref C) f = some none ∧ i.natAbs.log2 < 1000 ∧ ∀ dx, H dx = none → dx ≠ a → Q .non (upd (upd H dx (exd dx [(f, .int i)])) a (exo a C (some dx)))
structure Era (P : Program) (w : World) (K : PySem.W.Frag) (mg : Str → Option Value) (base : Heap) (k : Nat) (C : Addr) (f : Str) : Prop where
  oex : OexC K C
  nof : PySem.W.findIn K (.ref C) f = some none
  ini : ∃ (fI : Addr) (fd : FuncData) (ps : List Str), PySem.W.findIn K (.ref C) "__init__" = some (some (.ref fI)) ∧ PySem.W.typeIn K (.ref fI) = some (.type "function") ∧ FnOk P w K mg base (L2.CX P w) k fI fd ps (spIni K f) ∧ Binds K fd ps []
theorem upd_comm {H : Hp} {a b : Addr} {o u : HO} (h : a ≠ b) : upd (upd H a o) b u = upd (upd H b u) a o := by
  funext c
  by_cases z : c = a
  · subst z
    rw [upd_ne h, upd_same, upd_same]
  · by_cases z2 : c = b
    · subst z2
      rw [upd_same, upd_ne z, upd_same]
    · rw [upd_ne z2, upd_ne z, upd_ne z, upd_ne z2]
section
variable {X : Cx} {wx : WD} {C : Addr} {f x : Str} {k : Nat} {p pos apos : Pos} {e : Expr} {es : List Expr} {t : TDA}
def sRaiseA (wx : WD) (C : Addr) (f : Str) (t : TDA) : TDS := fun _ δ S => t δ S fun ds S1 => match ds with
  | [.int i] => i.natAbs.log2 < 1000 ∧ ∀ dd, S1 dd = none → wx (.ref C, some dd) δ (sup S1 dd (.xd [(f, .int i)]))
  | _ => False
theorem ds_raiseA (hc : X.calm = true) (tk : TakesD X wx) (E : Era X.prog X.w X.K X.mg X.base k C f) (hr : Room (k + 1) X.A) (hg : Gl X x) (hm : X.mg x = some (.ref C)) (ha : DA X (e :: es) t)
    (hdb : (x == ("__debug__" : Str)) = false := by decide) (he : starEach (e :: es) X.env = (false, eval e X.env) :: starEach es X.env := by rfl) (hpl : (backTo apos (starEach es X.env)).any (·.1) = false := by rfl) :
    DS X (.Raise (some (.Call (.Name x p) (e :: es) [] apos)) none pos) (sRaiseA wx C f t) := by
  obtain ⟨fI, fd, ps, iC, tI, F, b⟩ := E.ini
  refine ⟨fun D D' δ S l q => q, ps_weak (ps_raise hc tk.tk (pmk_oex (CX := L2.CX X.prog X.w) (dvs := []) E.oex iC tI F hr b .nil (fun _ _ _ _ _ _ _ ⟨_, _, _, _, _, _, _, _, _, _, _, _, z⟩ => z.elim) hg hm ha.pa hdb he hpl)) fun D σ H ⟨δ, S, R, q⟩ => ?_⟩
  refine ha.sub R q fun ds S1 vs H1 q1 R1 r1 t1 => ?_
  split at q1
  · rename_i i
    obtain ⟨l, q2⟩ := q1
    obtain ⟨v, rfl, rv⟩ := dvs1 r1
    rw [dv_int] at rv
    subst rv
    refine ⟨by simp, fun a na => ⟨a, C, i, rfl, upd_same, E.oex, E.nof, l, fun dx nx ne => ⟨rfl, dx, [(f, .int i)], upd_same, ?_, ?_, ?_⟩⟩⟩
    · rw [upd_ne ne, upd_same]
    · rw [upd_ne ne] at nx; exact nx
    · rw [upd_ne ne] at nx
      have eH : upd (del (upd (upd (upd H1 a (exo a C none)) dx (exd dx [(f, .int i)])) a (exo a C (some dx))) a) dx (.xd [(f, .int i)]) = upd H1 dx (.xd [(f, .int i)]) := by
        funext c
        by_cases z : c = dx
        · subst z; rw [upd_same, upd_same]
        · rw [upd_ne z, upd_ne z]
          by_cases z2 : c = a
          · subst z2; rw [del_same, na]
          · rw [del_ne z2, upd_ne z2, upd_ne z, upd_ne z2]
      rw [eH]
      exact ⟨δ, _, R1.new (o := .xd [(f, .int i)]) nx ⟨_, upd_same, .cons ⟨rfl, dv_int.mpr rfl⟩ .nil⟩, q2 dx (R1.free nx)⟩
  · exact q1.elim
end
end DL
set_option maxRecDepth 100000
namespace DL
open PySem PySem.Spec PyProof.Rows L2
structure MemK (P : Program) (w : World) (κ : Type) [DecidableEq κ] where
  knd : PySem.KeyKind P w κ
  kf : Value → κ
  scan : ∀ k v, knd.is k v = true → v.scannable = true
  kf_is : ∀ k v, knd.is k v = true → kf v = k
section
variable {P : Program} {w : World} {κ : Type} [DecidableEq κ] (M : MemK P w κ)
def MemK.good (e : Int × Value) : Prop := M.knd.is (M.kf e.2) e.2 = true ∧ e.1 = M.knd.hash (M.kf e.2)
def MemK.keys (es : Array (Int × Value)) : List κ := es.toList.map fun e => M.kf e.2
def SetG (h : Heap) (a : Addr) (S : κ → Bool) (n : Nat) : Prop :=
  ∃ o es ep t, h.get? a = some o ∧ o.ExactSet ∧ o.data = .set es ep t ∧ (∀ e ∈ es.toList, M.good e) ∧ (M.keys es).Nodup ∧ (∀ k, S k = true ↔ k ∈ M.keys es) ∧
    es.size < scanBound ∧ t.fits es.size = true ∧ es.size = n ∧ Ris t.place.toList ∧ (w.params.followText "set-order" = true ∨ t.led = true)
variable {M} {h h' : Heap} {a : Addr} {S : κ → Bool} {n : Nat}
theorem SetG.at (R : SetG M h a S n) (k : ∀ o, h.get? a = some o → h'.get? a = some o) : SetG M h' a S n := by
  obtain ⟨o, es, ep, t, ho, r⟩ := R
  exact ⟨o, es, ep, t, k o ho, r⟩
theorem SetG.congr {S' : κ → Bool} (R : SetG M h a S n) (e : ∀ k, S' k = S k) : SetG M h a S' n := by
  rw [funext e]; exact R
theorem MemK.elems {l : List (Int × Value)} (g : ∀ e ∈ l, M.good e) : ElemsOf M.knd l := fun e he => ⟨⟨_, (g e he).1, (g e he).2⟩, M.scan _ _ (g e he).1⟩
theorem MemK.good_is {e : Int × Value} (g : M.good e) (k : κ) : M.knd.is k e.2 = true ↔ M.kf e.2 = k := ⟨fun h => M.kf_is _ _ h, fun h => h ▸ g.1⟩
theorem MemK.mem {l : List (Int × Value)} (g : ∀ e ∈ l, M.good e) (k : κ) : k ∈ l.map (fun e => M.kf e.2) ↔ ∃ e ∈ l, M.knd.is k e.2 = true := by
  rw [List.mem_map]
  exact ⟨fun ⟨e, he, q⟩ => ⟨e, he, (M.good_is (g e he) k).2 q⟩, fun ⟨e, he, q⟩ => ⟨e, he, (M.good_is (g e he) k).1 q⟩⟩
end
section
variable {P : Program} {w : World} {κ : Type} [DecidableEq κ] {M : MemK P w κ} {A : Around} {E : Value → Shared → Prop} {s : Shared} {a : Addr} {S : κ → Bool} {n : Nat}
theorem setG_tail {g : Bool → Sem Unit} (hg : ∀ (b : Bool) (s₁ : Shared) (Q' : Unit → Shared → Prop), Q' () s₁ → wpAny (model P w) A (g b) Q' E s₁)
    {o : Obj} {es : Array (Int × Value)} {ep : Nat} {t : SetTable} (ho : s.heap.get? a = some o) (hex : o.ExactSet) (hd : o.data = .set es ep t)
    {es1 : Array (Int × Value)} {t2 : SetTable} {S' : κ → Bool} (g1 : ∀ e ∈ es1.toList, M.good e) (nd1 : (M.keys es1).Nodup) (m1 : ∀ k, S' k = true ↔ k ∈ M.keys es1)
    (hb1 : es1.size < scanBound) (hf2 : t2.fits es1.size = true) (hr : Ris t2.place.toList) (hl : w.params.followText "set-order" = true ∨ t2.led = true) {wasDummy : Bool} {R : Option Bool → Shared → Prop}
    (hR : ∀ h', Heap.SameBut a s.heap h' → SetG M h' a S' es1.size → R (some true) { s with heap := h' }) :
    wpAny (model P w) A (do
        storeSet a es1 t2
        if (!wasDummy && t2.tooFull) = true then do
            g (relayAll t2 es1 (SetTable.grown es1.size)).2.2
            storeSet a (relayAll t2 es1 (SetTable.grown es1.size)).1 (relayAll t2 es1 (SetTable.grown es1.size)).2.1
            pure (some true)
          else pure (some true)) R E s := by
  refine wpAny_bind (wpAny_storeSet_of ho hd ?_ (fits_of_scanBound hb1))
  have ho1 := store_at (es' := es1) (t' := t2) ho hd
  have sb1 := Heap.SameBut.update s.heap a (Obj.putSet es1 t2)
  by_cases hx : (!wasDummy && t2.tooFull) = true
  · rw [if_pos hx]
    have pm := relayAll_perm t2 es1 (SetTable.grown es1.size)
    have hf3 := relayAll_fits t2 es1 (SetTable.grown es1.size)
    have hr3 := relayAll_ris t2 es1 (SetTable.grown es1.size)
    have hl3 := relayAll_led t2 es1 (SetTable.grown es1.size)
    generalize relayAll t2 es1 (SetTable.grown es1.size) = Z at pm hf3 hr3 hl3 ⊢
    obtain ⟨es2, t3, gave⟩ := Z
    dsimp only at pm hf3 hr3 hl3 ⊢
    have hsz : es2.size = es1.size := by rw [← Array.length_toList, pm.length_eq, Array.length_toList]
    refine wpAny_bind (hg _ _ _ (wpAny_bind (wpAny_storeSet_of ho1 rfl ?_ (fits_of_scanBound (by rw [hsz]; exact hb1)))))
    have ho2 := store_at (es' := es2) (t' := t3) ho1 rfl
    have pk : (M.keys es2).Perm (M.keys es1) := pm.map _
    exact wpAny_pure (hR _ (sb1.trans (Heap.SameBut.update _ a _)) ⟨_, es2, _, t3, ho2, hex, rfl, fun e he => g1 e (pm.mem_iff.mp he), pk.nodup_iff.mpr nd1, fun k => (m1 k).trans pk.mem_iff.symm, by rw [hsz]; exact hb1, hf3, hsz, hr3,
      hl.imp id fun z => by rw [hl3]; exact z⟩)
  · rw [if_neg hx]
    exact wpAny_pure (hR _ sb1 ⟨_, es1, _, t2, ho1, hex, rfl, g1, nd1, m1, hb1, hf2, rfl, hr, hl⟩)
theorem setG_add {k : κ} {v : Value} {Q : Bool → Shared → Prop} (hk : M.knd.is k v = true) (R : SetG M s.heap a S n) (room : n + 1 < scanBound)
    (hQ : ∀ h', Heap.SameBut a s.heap h' → SetG M h' a (fun j => S j || decide (j = k)) (if S k = true then n else n + 1) → Q (!S k) { s with heap := h' }) :
    wpAny (model P w) A (setAddHashed a v (M.knd.hash k)) Q E s := by
  obtain ⟨o, es, ep, t, ho, hex, hd, g, nd, hm, hb, hf, hn, hr, hl⟩ := R
  have hsc : v.scannable = true := M.scan _ _ hk
  have hel : ElemsOf M.knd es.toList := MemK.elems g
  have hkv : M.kf v = k := M.kf_is _ _ hk
  unfold setAddHashed setAddHashedIn
  refine wpAny_holding (wpAny_bind (wpAny_setState_of ho hd hf ?_))
  dsimp only
  rw [byScan_of hsc hb hel]
  simp only [↓reduceIte]
  unfold setAddByScan
  refine wpAny_bind (wpAny_bind (wpAny_rule (wpAny_bind (wpAny_setScan_of hk ho hd hf hel ?_))))
  cases hfi : List.findIdx? (fun e => M.knd.is k e.2) es.toList with
  | some j =>
    dsimp only
    obtain ⟨hj, pj, _⟩ := List.findIdx?_eq_some_iff_getElem.mp hfi
    have hSk : S k = true := (hm k).2 ((MemK.mem g k).2 ⟨es.toList[j], List.getElem_mem hj, pj⟩)
    have q := hQ s.heap (Heap.SameBut.refl a s.heap) ⟨o, es, ep, t, ho, hex, hd, g, nd, fun i => by
      rw [Bool.or_eq_true, decide_eq_true_eq, ← hm i]
      exact ⟨fun z => z.elim id (fun e => e ▸ hSk), .inl⟩, hb, hf, by rw [if_pos hSk]; exact hn, hr, hl⟩
    rw [hSk] at q
    exact wpAny_pure (wpAny_pure q)
  | none =>
    dsimp only
    have hnk : k ∉ M.keys es := fun z => by
      obtain ⟨e, he, q⟩ := (MemK.mem g k).1 z
      have c := List.findIdx?_eq_none_iff.mp hfi e he
      rw [q] at c
      cases c
    have hSk : S k = false := by
      cases q : S k with
      | false => rfl
      | true => exact absurd ((hm k).1 q) hnk
    have hgw : ∀ (b : Bool) {s₁ : Shared} {Q' : Unit → Shared → Prop}, Q' () s₁ → wpAny (model P w) A (match b with | true => rule "set.scan.the-table-gave-way" | false => pure ()) Q' E s₁ :=
      fun b s₁ Q' q => by cases b <;> first | exact wpAny_pure q | exact wpAny_rule q
    have pm := layNew_perm t es (M.knd.hash k) v
    have hf1 := layNew_fits t es (M.knd.hash k) v
    have hr1 := layNew_ris t es (M.knd.hash k) v hr
    have hl1 := layNew_led t es (M.knd.hash k) v
    generalize layNew t es (M.knd.hash k) v = Z at pm hf1 hr1 hl1 ⊢
    obtain ⟨es1, t1, wasDummy, gave⟩ := Z
    dsimp only at pm hf1 hr1 hl1 ⊢
    rw [Array.toList_push] at pm
    have pc : es1.toList.Perm ((M.knd.hash k, v) :: es.toList) := pm.trans (List.perm_append_singleton _ _)
    have pk : (M.keys es1).Perm (k :: M.keys es) := by
      have := pc.map fun e => M.kf e.2
      rw [List.map_cons] at this
      have e : M.kf (M.knd.hash k, v).2 = k := hkv
      rw [e] at this
      exact this
    have g1 : ∀ e ∈ es1.toList, M.good e := fun e he => by
      rcases List.mem_cons.mp (pc.mem_iff.mp he) with z | z
      · rw [z]; exact ⟨by show M.knd.is (M.kf v) v = true; rw [hkv]; exact hk, by show M.knd.hash k = M.knd.hash (M.kf v); rw [hkv]⟩
      · exact g e z
    have nd1 : (M.keys es1).Nodup := pk.nodup_iff.mpr (List.nodup_cons.mpr ⟨hnk, nd⟩)
    have m1 : ∀ i, (S i || decide (i = k)) = true ↔ i ∈ M.keys es1 := fun i => by
      rw [Bool.or_eq_true, decide_eq_true_eq, hm i, pk.mem_iff, List.mem_cons]
      exact Or.comm
    have hsz : es1.size = n + 1 := by rw [← Array.length_toList, pc.length_eq, List.length_cons, Array.length_toList, hn]
    have hb1 : es1.size < scanBound := by rw [hsz]; exact room
    have hled : w.params.followText "set-order" = true ∨ t1.led = true := hl.imp id fun z => by rw [hl1]; exact z
    have fin : ∀ h', Heap.SameBut a s.heap h' → SetG M h' a (fun j => S j || decide (j = k)) es1.size → Q true { s with heap := h' } := fun h' sb r => by
      have q := hQ h' sb
      rw [hSk] at q
      rw [hsz] at r
      exact q r
    refine wpAny_bind (hgw _ ?_)
    split
    · refine wpAny_bind ?_
      rw [hashByValue_scannable 8 hsc]
      refine wpAny_pure ?_
      refine setG_tail ?_ ho hex hd g1 nd1 m1 hb1 ?_ ?_ ?_ ?_
      · intro b s₁ Q' q; cases b <;> first | exact wpAny_pure q | exact wpAny_rule q
      · first | (split <;> first | exact hf1 | exact SetTable.fits_plain_off hf1) | exact hf1
      · first | (split <;> exact hr1) | exact hr1
      · first | (split <;> exact hled) | exact hled
      · intro h' sb r; dsimp only; exact wpAny_pure (fin h' sb r)
    · refine wpAny_bind (wpAny_pure ?_)
      simp only [↓reduceIte]
      refine setG_tail ?_ ho hex hd g1 nd1 m1 hb1 hf1 hr1 hled ?_
      · intro b s₁ Q' q; cases b <;> first | exact wpAny_pure q | exact wpAny_rule q
      · intro h' sb r; dsimp only; exact wpAny_pure (fin h' sb r)
end
end DL
set_option maxRecDepth 100000
namespace DL
open PySem PySem.Spec PyProof.Rows L2
section
variable {P : Program} {w : World} {κ : Type} [DecidableEq κ] {M : MemK P w κ} {A : Around} {E : Value → Shared → Prop} {s : Shared}
theorem setG_new {h : Heap} {a : Addr} (ho : h.get? a = some { cls := .type "set", dict := none, data := .set #[] 0 (.fresh 0 0 (!w.params.followText "set-order")) }) : SetG M h a (fun _ => false) 0 :=
  ⟨_, #[], 0, _, ho, ⟨rfl, rfl, rfl⟩, rfl, (fun e he => by simp at he), (by simp [MemK.keys]), (fun k => by simp [MemK.keys]), (by decide), (by rfl), rfl, List.Pairwise.nil, by
    show _ ∨ (!w.params.followText "set-order") = true
    cases w.params.followText "set-order"
    · exact .inr rfl
    · exact .inl rfl⟩
theorem setG_update {I : Addr} {fp wr : List Addr} {G : Array GenState → Array GenState → Prop} {n : Nat} {Pv : Nat → Value → Prop} {St : Nat → Shared → Prop} {R : Result → Shared → Prop}
    (W : WalksS P w A.in1 I fp wr G n Pv St) (a : Addr) (hSf : a ∉ fp) (ks : List κ) (hn : n = ks.length) (hb : ks.length + 1 < scanBound) (hval : ∀ i v, Pv i v → ∃ k, ks[i]? = some k ∧ M.knd.is k v = true) :
    ∀ (m i : Nat) (s : Shared), n - i = m → i ≤ n → St i s → (∃ c, c ≤ i ∧ SetG M s.heap a (fun j => decide (j ∈ ks.take i)) c) →
      (∀ s' c, Moved (a :: wr) G s s' → c ≤ n → SetG M s'.heap a (fun j => decide (j ∈ ks)) c → R (.ok (.ret .none)) s') →
      codeAny (model P w) A (.builtin "set.update.loop" ⟨[.ref a, .ref I], []⟩) R s := by
  have hSw : a ∉ wr := fun h => hSf (W.sub _ h)
  have hsub : ∀ b ∈ wr, b ∈ a :: wr := fun b hb => List.mem_cons_of_mem _ hb
  intro m
  induction m with
  | zero =>
    intro i s hk' hi hst ⟨c, hc, hS⟩ hR
    obtain rfl : i = n := by omega
    refine codeAny_builtin F.entry_set_update_loop ?_
    rw [Around.under_plainId F.plain_set_update_loop _]
    show wpAny _ A.in1 (pyNext (.ref I) >>= _) _ _ s
    refine wpAny_bind (W.done s _ _ hst fun s' hm => ?_)
    show wpAny _ A.in1 (ret Value.none) _ _ s'
    rw [List.take_of_length_le (by omega : ks.length ≤ i)] at hS
    exact wpAny_pure (hR s' c (hm.mono hsub) hc (hS.at fun o e => hm.heap a o hSw e))
  | succ m ih =>
    intro i s hk' hi hst ⟨c, hc, hS⟩ hR
    have hlt : i < n := by omega
    refine codeAny_builtin F.entry_set_update_loop ?_
    rw [Around.under_plainId F.plain_set_update_loop _]
    show wpAny _ A.in1 (pyNext (.ref I) >>= _) _ _ s
    refine wpAny_bind (W.item i s _ _ hlt hst fun v s' hP hst' hm => ?_)
    obtain ⟨k, hz, hk⟩ := hval i v hP
    have hS' : SetG M s'.heap a (fun j => decide (j ∈ ks.take i)) c := hS.at fun o e => hm.heap a o hSw e
    show wpAny _ A.in1 (holding [v] (setAdd a v) >>= _) _ _ s'
    refine wpAny_bind (wpAny_holding ?_)
    unfold setAdd
    refine wpAny_holding (wpAny_bind (M.knd.pyHash (k := k) hk ?_))
    refine setG_add (s := { s' with toks := s'.toks + 1 }) hk hS' (by omega) fun h' hsb hS2 => ?_
    have hS3 : SetG M h' a (fun j => decide (j ∈ ks.take (i + 1))) (if decide (k ∈ ks.take i) = true then c else c + 1) := hS2.congr fun j => by
      rw [List.take_add_one, hz]
      simp [List.mem_append]
    have hc3 : (if decide (k ∈ ks.take i) = true then c else c + 1) ≤ i + 1 := by
      split <;> omega
    refine wpAny_pure ⟨plainId_quiet F.plain_set_update_loop _, ih (i + 1) _ (by omega) hlt (W.frame _ s' _ _ hst' (Nat.le_succ _) fun b hb o e => ?_) ⟨_, hc3, hS3⟩ fun s'' c2 hm'' hc'' hS'' => ?_⟩
    · rw [hsb.2 b (fun h : b = a => hSf (by rw [← h]; exact hb))]; exact e
    · refine hR s'' c2 (Moved.trans W.gtrans ((hm.mono hsub).then_heap (Nat.le_succ _) fun b o hb e => ?_) hm'') hc'' hS''
      rw [hsb.2 b (fun h : b = a => hb (by rw [h]; exact List.mem_cons_self))]; exact e
set_option maxRecDepth 100000 in
set_option maxHeartbeats 3200000 in
theorem call_setG {l : Addr} {items : Array Value} (ks : List κ) {Q : Value → Shared → Prop} (hh : A.handled = none) (hl : s.heap.IsList l items) (hisz : items.size = ks.length) (hb : ks.length + 1 < scanBound)
    (hval : ∀ (i : Nat) (v : Value), items[i]? = some v → ∃ k, ks[i]? = some k ∧ M.knd.is k v = true)
    (h : ∀ (h' : Heap) (tk c : Nat), SetG M h' s.heap.objs.size (fun j => decide (j ∈ ks)) c → c ≤ ks.length → (∀ b o, s.heap.get? b = some o → h'.get? b = some o) → Q (.ref s.heap.objs.size) { s with heap := h', toks := tk }) :
    wpAny (model P w) A (call (.type "set") [.ref l]) Q E s := by
  obtain ⟨c, tl, hmro⟩ := F.called_set.mro
  have hmade := F.called_set.made
  have hsub := F.called_set.sub
  refine wpAny_call (codeAny_of_tree ?_)
  show wpAny _ _ (callAny (.type "set") _) _ _ _
  refine wpAny_pure ⟨Code.quiet_builtin _ (by decide +kernel), codeAny_builtin F.entry_type_call ?_⟩
  rw [Around.under_plain (weight_type_call_type "set" [.ref l] []) rfl]
  have h1 := F.called_set.notType
  have h2 := F.called_set.canCreate
  have hct := F.typeCall_set_1 (.ref l)
  repeat (any_goals (first | assumption | wp_step))
  refine codeAny_mono (code_set_led1 (.ref l) (E := E) (Q₁ := fun obj s₁ => obj = .ref s.heap.objs.size ∧ s₁ = { s with heap := s.heap.push { cls := .type "set", dict := none, data := .set #[] 0 (.fresh 0 0 (!w.params.followText "set-order")) } }) ⟨rfl, rfl⟩) fun r s₁ hr => ?_
  cases r with
  | error e => exact hr
  | ok fl =>
    cases fl with
    | ret obj =>
      obtain ⟨rfl, rfl⟩ := hr
      generalize hO : ({ cls := .type "set", dict := none, data := .set #[] 0 (.fresh 0 0 (!w.params.followText "set-order")) } : Obj) = O
      have hOf : O.isFreed = false := by rw [← hO]; rfl
      have hS : (s.heap.push O).get? s.heap.objs.size = some O := Heap.get?_push_size _ hOf
      have hT : Shared.TypeIs { s with heap := s.heap.push O } (.ref s.heap.objs.size) "set" := ⟨_, hS, by rw [← hO]⟩
      have hli := F.called_set.init.lookup
      have hbi := F.called_set.init.bind (.ref s.heap.objs.size)
      repeat (any_goals (first | assumption | wp_step))
      refine codeAny_mono (codeAny_call_builtin (R := wants (fun r s₂ => r = .none ∧ ∃ h' tk c, s₂ = { s with heap := h', toks := tk } ∧ SetG M h' s.heap.objs.size (fun j => decide (j ∈ ks)) c ∧ c ≤ ks.length ∧
          (∀ b o, s.heap.get? b = some o → h'.get? b = some o)) E) F.called_set.init.plain F.entry_set_init (check_set_init_1 hT ?_)) fun r₂ s₂ hr₂ => ?_
      · obtain ⟨ol, hol, hcl, nl, hdl⟩ := hl
        obtain ⟨ocls, odict, odata, oslots⟩ := ol
        simp only at hcl hdl
        subst hcl; subst hdl
        have hol' : (s.heap.push O).get? l = some { cls := .type "list", dict := odict, data := .seq items nl, slots := oslots } := Heap.get?_push_of_some _ hol
        have hsls := F.sub_list_set
        have hslf := F.sub_list_frozenset
        have hne : (Value.type "list" == Value.type "dict") = false := by decide
        have hl1 : (s.heap.push O).IsList l items := ⟨_, hol', rfl, nl, rfl⟩
        subst hO
        unfold Builtin.«set.__init__» noKeywords Builtin.Frozenset.updateFrom
        generalize hPI : pyIter = PI
        wp_walk
        subst hPI
        refine wpAny_pyIter_list hl1 ?_
        refine wpAny_bind (wpAny_runValue ?_)
        have hlS : l < s.heap.objs.size := Heap.lt_size hol
        have hh3 : A.in1.in1.in1.handled = none := by simp [hh]
        have hneI : l ≠ (s.heap.push { cls := .type "set", dict := none, data := .set #[] 0 (.fresh 0 0 (!w.params.followText "set-order")) }).objs.size := by rw [Heap.size_push]; exact Nat.ne_of_lt (Nat.lt_succ_of_lt hlS)
        have hSf : s.heap.objs.size ∉ [(s.heap.push { cls := .type "set", dict := none, data := .set #[] 0 (.fresh 0 0 (!w.params.followText "set-order")) }).objs.size, l] := by
          rw [Heap.size_push]; simp only [List.mem_cons, List.mem_singleton, List.not_mem_nil, or_false, not_or]
          exact ⟨Nat.ne_of_lt (Nat.lt_succ_self _), Nat.ne_of_gt hlS⟩
        refine setG_update ((Walks.list hh3 _ l hneI items).toS) s.heap.objs.size
          hSf ks hisz hb hval (items.size - 0) 0 _ (by omega) (Nat.zero_le _)
          ⟨⟨_, Heap.get?_push_size _ rfl, rfl, rfl⟩, (hl1.push _)⟩ ?hS0 ?hR
        case hS0 =>
          refine ⟨0, Nat.le_refl 0, SetG.congr (S := fun _ => false) (setG_new ?_) fun k => by simp⟩
          have hget : ((s.heap.push { cls := .type "set", dict := none, data := .set #[] 0 (.fresh 0 0 (!w.params.followText "set-order")) }).push { cls := .type "list_iterator", data := .fields #[.ref l, .int 0 0] }).get? s.heap.objs.size = some { cls := .type "set", dict := none, data := .set #[] 0 (.fresh 0 0 (!w.params.followText "set-order")) } := Heap.get?_push_of_some _ hS
          exact hget
        case hR =>
          intro s' c' hm hc' hS'
          obtain ⟨h', g2, d', tk', os'⟩ := s'
          have eg : g2 = s.gens := hm.gens
          have ed : d' = s.drawn := hm.drawn
          have eo : os' = s.os := hm.os
          subst eg; subst ed; subst eo
          show wpAny _ _ _ _ _ _
          refine wpAny_pure ?_
          show wpAny _ _ (ret Value.none) _ _ _
          rw [hisz] at hc'
          refine wpAny_pure ⟨rfl, h', tk', c', rfl, hS', hc', fun b o e => ?_⟩
          have hb0 : b < s.heap.objs.size := Heap.lt_size e
          refine hm.heap b o ?_ (Heap.get?_push_of_some _ (Heap.get?_push_of_some _ e))
          simp only [List.mem_cons, List.mem_singleton, List.not_mem_nil, or_false, not_or]
          exact ⟨Nat.ne_of_lt hb0, by rw [Heap.size_push]; exact Nat.ne_of_lt (Nat.lt_succ_of_lt hb0)⟩
      · cases r₂ with
        | error e => exact hr₂
        | ok fl₂ =>
          cases fl₂ with
          | ret r =>
            obtain ⟨rfl, h', tk, c', rfl, hS', hc', hk'⟩ := hr₂
            repeat (any_goals (first | assumption | wp_step))
            exact h _ _ _ hS' hc' hk'
          | _ => exact hr₂.elim
    | _ => exact hr.elim
end
end DL
set_option maxRecDepth 100000
namespace DL
open PySem PySem.Spec PyProof.Rows L2
def memStr (P : Program) (w : World) : MemK P w Str where
  knd := PySem.strKind P w
  kf := fun v => match v with
    | .str k _ => k
    | _ => Str.empty
  scan := fun k v h => by obtain ⟨t, rfl⟩ := Value.isStrOf_shape h; rfl
  kf_is := fun k v h => by obtain ⟨t, rfl⟩ := Value.isStrOf_shape h; rfl
theorem vals_strsAre : ∀ {vs : List Value} {ys : List Str}, StrsAre vs ys → Vals (ys.map V.str) vs
  | _, _, .nil => .nil
  | _, _, .cons y t r => .cons ⟨t, rfl⟩ (vals_strsAre r)
theorem strsAre_all : ∀ {vs : List Value}, (∀ v ∈ vs, ∃ k t, v = .str k t) → StrsAre vs (vs.map fun v => match v with | .str k _ => k | _ => Str.empty)
  | [], _ => .nil
  | v :: vs, h => by
    obtain ⟨k, t, rfl⟩ := h v List.mem_cons_self
    exact .cons k t (strsAre_all fun u hu => h u (List.mem_cons_of_mem _ hu))
section
variable {P : Program} {w : World} {A : Around} {E : Value → Shared → Prop} {s : Shared}
theorem sorted_setS {a : Addr} {S : Str → Bool} {n : Nat} {Q : Value → Shared → Prop} (R : SetG (memStr P w) s.heap a S n) (hh : A.handled = none) (hz : n ≤ sizeLine)
    (hQ : ∀ s' p (out : Array Value) (c : Nat) (ns : List Str), (∀ b o, s.heap.get? b = some o → s'.heap.get? b = some o) → s'.gens = s.gens → s'.os = s.os → s.heap.objs.size ≤ p →
      s'.heap.get? p = some (seqObj "list" out c) → StrsAre out.toList ns → sortedS ns = true → ns.Nodup → (∀ k, k ∈ ns ↔ S k = true) → ns.length = n → Q (.ref p) s') :
    wpAny (model P w) A (call (.builtin "sorted") [.ref a]) Q E s := by
  obtain ⟨o, es, ep, t, ho, hex, hd, g, nd, hm, hb, hf, hn, hr, hl⟩ := R
  refine Calls.call_function_entry kind_sorted plain_sorted entry_sorted (args_sorted1 _) ?_
  unfold Builtin.«sorted»
  refine wpAny_bind (m := checkCount "sorted" 1 1 _) (wpAny_pure ?_)
  refine wpAny_bind (collect_set (A := A.in1) hh ⟨o, ho, hex.1, hd⟩ hf hb hr hl fun s1 vs k1 hz1 g1 o1 pm => ?_)
  have hvl : vs.length = n := by rw [pm.length_eq, List.length_map, Array.length_toList]; exact hn
  have hall : ∀ v ∈ vs, ∃ k tk, v = .str k tk := fun v hv => by
    obtain ⟨e, he, q⟩ := List.mem_map.mp (pm.mem_iff.mp hv)
    obtain ⟨t, e2⟩ := Value.isStrOf_shape (g e he).1
    exact ⟨_, t, by rw [← q]; exact e2⟩
  have hI := strsAre_all hall
  generalize hss : (vs.map fun v => match v with | .str k _ => k | _ => Str.empty) = ss at hI
  have pk : ss.Perm ((memStr P w).keys es) := by
    have q := pm.map fun v => match v with | .str k _ => k | _ => Str.empty
    rw [List.map_map, hss] at q
    exact q
  refine wpAny_bind (wpAny_newList ?_ (by rw [hvl]; exact hz))
  have hoL : (s1.heap.push (seqObj "list" vs.toArray 0)).get? s1.heap.objs.size = some (seqObj "list" vs.toArray 0) := Heap.get?_push_size _ rfl
  refine wpAny_bind (wpAny_holding (wpAny_call_entry slot_list_sort ⟨_, hoL, rfl⟩ entry_list_sort (list_sort_treeKAny strKind_oneLt hoL hI.keysOf (fun v₁ v₂ rest e => keyKind_strs (by rw [← e]; exact hI)) (by rw [hvl]; exact hz) fun st' hp hs => ⟨_, rfl, ?_⟩) (args_list_sort _)))
  obtain ⟨ns', a1, a2, a3⟩ := sorted_out_str hI hp hs
  obtain ⟨c, hc⟩ := sortedHeap_at (vs := vs) (out := (arrOf st').map (·.2)) hoL
  have pn : ns'.Perm ((memStr P w).keys es) := a2.trans pk
  refine wpAny_pure ⟨_, rfl, hQ _ s1.heap.objs.size _ c ns' (fun b u e => ?_) g1 o1 hz1 hc a1 a3 (pn.nodup_iff.mpr nd) (fun k => by rw [pn.mem_iff, ← hm k]) ?_⟩
  · have q := k1 b u e
    have hlt := Heap.lt_size q
    show (sortedHeap (s1.heap.push (seqObj "list" vs.toArray 0)) s1.heap.objs.size vs ((arrOf st').map (·.2))).get? b = some u
    rw [sortedHeap_old (Nat.ne_of_lt hlt) (by rw [size_push']; exact Nat.lt_succ_of_lt hlt)]
    exact Heap.get?_push_of_some _ q
  · rw [pn.length_eq]; unfold MemK.keys; rw [List.length_map, Array.length_toList]; exact hn
end
def SetT (P : Program) (w : World) (a : Addr) (S : Str → Bool) (n : Nat) : HO := .ext fun h => SetG (memStr P w) h a S n
section
variable {X : Cx}
theorem setT_new {P : Program} {w : World} {H : Hp} {h : Heap} {a : Addr} {S : Str → Bool} {n : Nat} (R : SetG (memStr P w) h a S n) : ObjOk P w H h a (SetT P w a S n) := by
  have ⟨o, _, _, _, ho, _⟩ := R
  exact ⟨R, ⟨o, ho⟩, fun h1 h2 p k => SetG.at p k⟩
theorem setT_get {pins : List (Addr × Obj)} {σ : L2.St} {H : Hp} {s : Shared} {a : Addr} {S : Str → Bool} {n : Nat} (I : Inv X pins σ H s) (ha : H a = some (SetT X.prog X.w a S n)) : SetG (memStr X.prog X.w) s.heap a S n := by
  have x : ObjOk X.prog X.w H s.heap a (.ext fun h => SetG (memStr X.prog X.w) h a S n) := I.hok a _ ha
  exact x.1
def rSetS (P : Program) (w : World) : List V → Hp → VK → Prop := fun vs H Q => ∃ (a : Addr) (ys : List Str), vs = [V.ref a] ∧ Rd H a (.lst (ys.map V.str)) ∧ ys.length + 1 < scanBound ∧ ∀ p c, H p = none → c ≤ ys.length → Q (.ref p) (upd H p (SetT P w p (fun k => decide (k ∈ ys)) c))
theorem cr_setS (hc : X.calm = true) : CallR X (.type "set") (rSetS X.prog X.w) := by
  intro pins s σ H vs us Q I r h
  obtain ⟨a, ys, rfl, ha, hb, q⟩ := h
  rw [Vals.ref1 r]
  obtain ⟨_, its, n, rv, g⟩ := Rd.ok ha I.hok
  have sa := strsAre_of rv
  have hl : its.length = ys.length := StrsAre.len_eq sa
  refine call_setG (M := memStr X.prog X.w) ys (I.ok.hd hc) ⟨_, g, rfl, n, rfl⟩ (by rw [List.size_toArray, hl]) hb (fun i v hv => ?_) fun h' tk c R hcl k => ?_
  · have hi : i < ys.length := by rw [← hl]; simpa using (Array.getElem?_eq_some_iff.mp hv).1
    obtain ⟨t, e⟩ := SS.strs_at sa i v (by simpa using hv)
    refine ⟨ys[i], List.getElem?_eq_getElem hi, ?_⟩
    rw [e, List.getD_eq_getElem?_getD, List.getElem?_eq_getElem hi]
    exact PySem.strKind_is _ _ _ _
  · exact ⟨.ref _, _, I.laid (t' := tk) k (Nat.le_refl _) (setT_new R), rfl, q _ c (I.hok.fresh (Nat.le_refl _)) hcl⟩
def rSortS (P : Program) (w : World) : List V → Hp → VK → Prop := fun vs H Q => ∃ (a : Addr) (S : Str → Bool) (n : Nat), vs = [V.ref a] ∧ H a = some (SetT P w a S n) ∧ n ≤ sizeLine ∧
  ∀ (ns : List Str) (p : Addr), sortedS ns = true → ns.Nodup → (∀ k, k ∈ ns ↔ S k = true) → H p = none → Q (.ref p) (upd H p (.lst (ns.map V.str)))
theorem cr_sortS (hc : X.calm = true) : CallR X (.builtin "sorted") (rSortS X.prog X.w) := by
  intro pins s σ H vs us Q I r h
  obtain ⟨a, S, n, rfl, ha, hz, q⟩ := h
  have R := setT_get I ha
  rw [Vals.ref1 r]
  refine sorted_setS R (I.ok.hd hc) hz fun s' p out c ns k g o hp hg hi hs hn hm hl => ?_
  have hlen : (ns.map V.str).length ≤ sizeLine := by rw [List.length_map, hl]; exact hz
  have hn1 : H p = none := I.hok.fresh hp
  have J : Inv X pins σ (upd H p (.lst (ns.map V.str))) { s with heap := s'.heap, gens := s'.gens, drawn := s'.drawn, toks := s'.toks } :=
    I.call (ch := []) (Un.laid k hp hn1) (I.hok.laid k hp ⟨hlen, out.toList, c, vals_strsAre hi, hg⟩) (by rw [g]; exact I.bare) (fun _ z => nomatch z)
  have e : s' = { s with heap := s'.heap, gens := s'.gens, drawn := s'.drawn, toks := s'.toks } := by
    cases s'
    cases s
    cases o
    rfl
  rw [e]
  exact ⟨.ref p, _, J, rfl, q ns p hs hn hm hn1⟩
def dSortSet (t : TDA) : TDE := fun δ S Q => t δ S fun ds S1 => match ds with
  | [d] => match (seqM S1 d).bind strsD with
    | some ys => ys.length < 1000 ∧ ∀ ns, sortedS ns = true → ns.Nodup → (∀ k, k ∈ ns ↔ k ∈ ys) → ∀ p, S1 p = none → Q (.ref p) (sup S1 p (.lst (ns.map D.str)))
    | none => False
  | _ => False
theorem de_sortSet {e : Expr} {t : TDA} {p1 p2 pos pos2 : Pos} (hc : X.calm = true) (hg : Gl X "sorted") (hm : X.mg "sorted" = none) (hg2 : Gl X "set") (hm2 : X.mg "set" = none) (ha : DA X [e] t)
    (he : starEach [e] X.env = (false, eval e X.env) :: starEach [] X.env := by rfl) (hpl : (backTo pos2 (starEach [] X.env)).any (·.1) = false := by rfl)
    (he2 : starEach [.Call (.Name "set" p2) [e] [] pos2] X.env = (false, eval (.Call (.Name "set" p2) [e] [] pos2) X.env) :: starEach [] X.env := by rfl) (hpl2 : (backTo pos (starEach [] X.env)).any (·.1) = false := by rfl) :
    DE X (.Call (.Name "sorted" p1) [.Call (.Name "set" p2) [e] [] pos2] [] pos) (dSortSet t) := by
  refine ⟨fun δ S Q Q' k q => ha.mono _ _ _ _ (fun ds S1 q1 => ?_) q, pe_weak (pe_callB (cr_sortS hc) hg hm PyProof.Rows.Boot.«sorted» (pa_cons (pe_callTy (cr_setS hc) hg2 hm2 PyProof.Rows.Boot.«set» ha.pa (by decide) (by decide) he hpl) pa_nil he2) (by decide) (by decide) he2 hpl2) fun σ H Q ⟨δ, S, R, q⟩ => ?_⟩
  · split at q1
    · split at q1
      · exact ⟨q1.1, fun ns h1 h2 h3 p hp => k _ _ (q1.2 ns h1 h2 h3 p hp)⟩
      · exact q1.elim
    · exact q1.elim
  · refine ha.sub R q fun ds S1 vs H1 q1 R1 r1 t1 => ?_
    split at q1
    · rename_i d
      obtain ⟨v, rfl, rv⟩ := dvs1 r1
      split at q1
      · rename_i ys ey
        obtain ⟨xs, e1, e2⟩ := Option.bind_eq_some_iff.mp ey
        obtain ⟨a, us, rfl, d1, h1⟩ := seqM_ok R1 rv e1
        obtain rfl := strsD_ok d1 e2
        refine ⟨a, ys, rfl, h1, by have := q1.1; unfold scanBound; omega, fun p c np hcl => ⟨p, _, c, rfl, upd_same, by have := q1.1; have h2 : (1000 : Nat) ≤ sizeLine := by decide
                                                                                                                        omega, fun ns p2 hs hn hk np2 => ?_⟩⟩
        have n1 : H1 p2 = none := by
          by_cases z : p2 = p
          · rw [z, upd_same] at np2; cases np2
          · rw [upd_ne z] at np2; exact np2
        have t2 : TupP X.K H1 (upd H1 p (SetT X.prog X.w p (fun k => decide (k ∈ ys)) c)) := TupP.laid np
        have R2 := R1.laid (ho := SetT X.prog X.w p (fun k => decide (k ∈ ys)) c) np
        refine q1.2 ns hs hn (fun k => (hk k).trans (by simp)) p2 (R1.free n1) _ _ (R2.new (o := .lst (ns.map D.str)) np2 ⟨_, upd_same, dvs_strs ns⟩) (dv_ref.mpr rfl) (t1.trans (t2.trans (TupP.laid np2)))
      · exact q1.elim
    · exact q1.elim
end
end DL
set_option maxRecDepth 100000
namespace DL
open PySem L2
section
variable {X : Cx} {w : WD} {e a b : Expr} {es : List Expr} {pos p : Pos} {fa fb : FV} {fr : FA}
def gAll : List D → Sto → Option D := fun ds S => match ds with
  | [d] => ((seqM S d).bind boolsD).map fun bs => .bl (bs.all id)
  | _ => none
theorem seqM_l {K : PySem.W.Frag} {H : Hp} {a : Addr} {vs : List V} (h : Rd H a (.lst vs)) : SqL K H a vs := by
  rcases h with h | ⟨o, h⟩
  · exact SqL.of h
  · exact (FzL.f ⟨o, h⟩).l
theorem fcall_all (hc : X.calm = true) : DCall X (.builtin "all") (rV gAll) := dcall_v (cr_all hc) fun δ S σ H ds vs Q d R rd e q => by
  unfold gAll at e
  split at e
  · obtain ⟨v, rfl, r⟩ := dvs1 rd
    obtain ⟨bs, e1, rfl⟩ := Option.map_eq_some_iff.mp e
    obtain ⟨xs, e2, e3⟩ := Option.bind_eq_some_iff.mp e1
    obtain ⟨a, us, rfl, z, h⟩ := seqM_ok R r e2
    obtain rfl := boolsD_vs z e3
    exact ⟨a, bs, rfl, seqM_l h, q _ (dv_bl.mpr rfl)⟩
  · cases e
def gIndex : D → List D → Sto → Option D := fun x ds S => match ds with
  | [y] => (seqM S x).bind fun xs => (pds xs).bind fun ps => (dataD S y).bind fun p => if SeqAt.shaped (.list ps) = true ∧ SeqAt.shaped p = true then (findD p ps).map fun j => .int (j : Nat) else none
  | _ => none
theorem fmt_index (hu : X.A.units + 65 < cLine) : DMt X "list.index" fun x => rV (gIndex x) := dmt_v (mt_indexD hu) fun δ S σ H x ds v vs Q d R rx rd e q => by
  unfold gIndex at e
  split at e
  · obtain ⟨u, rfl, r⟩ := dvs1 rd
    obtain ⟨xs, e1, e⟩ := Option.bind_eq_some_iff.mp e
    obtain ⟨ps, e2, e3⟩ := Option.bind_eq_some_iff.mp e
    obtain ⟨pp, e4, e5⟩ := Option.bind_eq_some_iff.mp e3
    split at e5
    · rename_i l
      obtain ⟨j, e6, rfl⟩ := Option.map_eq_some_iff.mp e5
      obtain ⟨z, z1, z2, z3⟩ := findD_ok _ _ _ e6
      obtain ⟨a, ws, rfl, h2, h1⟩ := seqM_ok R rx e1
      exact ⟨_, u, pp, ps, j, z, rfl, rfl, .lst (seqM_l h1) (pds_dp _ _ _ h2 e2), dataD_dp R r e4, l.1, l.2, z1, z2, z3, q _ (dv_int.mpr rfl)⟩
    · cases e5
  · cases e
def gIntS : List D → Sto → Option D := fun ds _ => match ds with
  | [.str z] => if z.length ≤ 640 then (PySem.intText? z).map .int else none
  | [.int i] => some (.int i)
  | [.bl k] => some (.int (if k then 1 else 0))
  | _ => none
theorem fcall_int : DCall X (.type "int") (rV gIntS) := ⟨rV_mono, fun pins s σ H vs us Q I ru ⟨δ, S, σ', ds, R, rd, q⟩ => by
  unfold rV gIntS at q
  split at q
  · rename_i d e
    split at e
    · rename_i z
      split at e
      · rename_i l
        obtain ⟨n, e1, rfl⟩ := Option.map_eq_some_iff.mp e
        obtain ⟨v, rfl, r⟩ := dvs1 rd
        rw [dv_str] at r
        subst r
        exact call_int_str pins s σ H _ us Q I ru ⟨z, n, rfl, e1, l, q _ H R (dv_int.mpr rfl) .refl⟩
      · cases e
    · cases e
      exact dcall_int.run pins s σ H vs us Q I ru ⟨δ, S, σ', _, R, rd, by unfold rV fInt; exact q⟩
    · cases e
      exact dcall_int.run pins s σ H vs us Q I ru ⟨δ, S, σ', _, R, rd, by unfold rV fInt; exact q⟩
    · cases e
  · exact q.elim⟩
def gMulS : D → D → Sto → Option D := fun x y S => match x, y with
  | .str z, .int k => if k = 0 then some (.str Str.empty) else if k = 1 then some (.str z) else none
  | x, y => gMul x y S
theorem fop_mulS : DOp X (binaryOp .Mult) (rP2 gMulS) := dop_f fun pins s σ σ' H δ S x y d v v' u u' Q I R hx hy rx ry e q => by
  unfold gMulS at e
  split at e
  · rename_i z k
    rw [dv_str] at hx
    rw [dv_int] at hy
    subst hx hy
    obtain ⟨t, rfl⟩ := rx
    obtain ⟨t2, rfl⟩ := ry
    split at e
    · rename_i hk
      cases e
      subst hk
      exact PySem.P.mul_str_none (by decide) (by decide) ⟨.str Str.empty, H, I.tok _, ⟨_, rfl⟩, q _ H R (dv_str.mpr rfl) .refl⟩
    · split at e
      · rename_i hk
        cases e
        subst hk
        refine PySem.P.mul_str (by decide) (fun _ h => by simp at h) (fun _ h => by simp at h) ?_
        rw [if_neg (by decide), if_pos (by simp)]
        exact ⟨.str z, H, I, ⟨t, rfl⟩, q _ H R (dv_str.mpr rfl) .refl⟩
      · cases e
  · exact fop_mul.run pins s σ H _ _ _ _ Q I rx ry ⟨δ, S, σ', _, _, R, hx, hy, by unfold rP2; rw [e]; exact fun z H' R' r' t' => q z H' R' r' t'⟩
def fFmt (f : FV) : FV := fun δ S => bnd (f δ S) fun x S1 => match x with
  | .str y => if y.length ≤ sizeLine then .ok (.str y) S1 else .no
  | .int i => if i.natAbs.log2 < 1920 then .ok (.str (toString i)) S1 else .no
  | _ => .no
theorem fe_fmt (h : FE X w e fa) : FE X w (.FormattedValue e (-1) none pos) (fFmt fa) := by
  refine ⟨upF_mono, pe_weak (pe_fmt h.pe) fun σ H Q ⟨δ, S, R, q⟩ => ?_⟩
  unfold upF fFmt at q
  rw [fin_bnd] at q
  refine DE.sub h R q fun d S1 v H1 q1 R1 r1 t1 => ?_
  split at q1
  · rename_i y
    rw [dv_str] at r1
    by_cases l : y.length ≤ sizeLine
    · rw [if_pos l] at q1; exact .inl ⟨y, r1, l, q1 _ H1 R1 (dv_str.mpr rfl) t1⟩
    · rw [if_neg l] at q1; exact q1.elim
  · rename_i i
    rw [dv_int] at r1
    by_cases l : i.natAbs.log2 < 1920
    · rw [if_pos l] at q1; exact .inr ⟨i, r1, l, q1 _ H1 R1 (dv_str.mpr rfl) t1⟩
    · rw [if_neg l] at q1; exact q1.elim
  · exact q1.elim
inductive FJ (X : Cx) (w : WD) : List Expr → List FV → Prop where
  | nil : FJ X w [] []
  | cons {e : Expr} {f : FV} {es : List Expr} {fs : List FV} (h : FE X w e f) (r : FJ X w es fs) : FJ X w (e :: es) (f :: fs)
def fJs : List FV → Str → DEnv → Sto → Out Str
  | [], acc => fun _ S => .ok acc S
  | f :: fs, acc => fun δ S => bnd (f δ S) fun x S1 => match x with
    | .str y => if (acc ++ y).length ≤ sizeLine then fJs fs (acc ++ y) δ S1 else .no
    | _ => .no
theorem FJ.pj {es : List Expr} {fs : List FV} (h : FJ X w es fs) : PJ X es (fs.map fun f => upE X (upF w f)) := by
  induction h with
  | nil => exact .nil
  | cons h r ih => exact .cons h.pe ih
theorem fJs_lift {σ : L2.St} {Q : Str → Hp → Prop} {δ : DEnv} : ∀ (fs : List FV) (acc : Str) (S : Sto) (H : Hp) (H0 : Hp), Rel X δ S σ H → TupP X.K H0 H → fin (fJs fs acc δ S) (fun c S' => w c δ S') (fun out S1 => ∀ H1, Rel X δ S1 σ H1 → TupP X.K H0 H1 → Q out H1) →
    tJs (fs.map fun f => upE X (upF w f)) acc σ H Q
  | [], acc, S, H, H0, R, t, q => q H R t
  | f :: fs, acc, S, H, H0, R, t, q => by
    unfold fJs at q
    rw [fin_bnd] at q
    refine ⟨δ, S, R, upF_mono _ _ _ _ (fun d S1 q1 v H1 R1 r1 t1 => ?_) q⟩
    split at q1
    · rename_i y
      rw [dv_str] at r1
      by_cases l : (acc ++ y).length ≤ sizeLine
      · rw [if_pos l] at q1
        exact ⟨y, r1, l, fJs_lift fs (acc ++ y) S1 H1 H0 R1 (t.trans t1) q1⟩
      · rw [if_neg l] at q1; exact q1.elim
    · exact q1.elim
def fJoined (fs : List FV) : FV := fun δ S => bnd (fJs fs Str.empty δ S) fun out S1 => .ok (.str out) S1
theorem fe_joined {v1 v2 : Expr} {rest : List Expr} {fs : List FV} (h : FJ X w (v1 :: v2 :: rest) fs) : FE X w (.JoinedStr (v1 :: v2 :: rest) pos) (fJoined fs) := by
  refine ⟨upF_mono, pe_weak (pe_joined h.pj) fun σ H Q ⟨δ, S, R, q⟩ => ?_⟩
  unfold upF fJoined at q
  rw [fin_bnd] at q
  exact fJs_lift fs Str.empty S H H R .refl (fin_mono (fun _ _ z => z) (fun out S1 z H1 R1 t1 => z _ H1 R1 (dv_str.mpr rfl) t1) q)
def tTup (f : FV) : FB := fun δ S => bnd (f δ S) fun x S1 => match x with
  | .tup xs => .ok (!xs.isEmpty) S1
  | .bl k => .ok k S1
  | _ => .no
theorem ft_tup (h : FE X w e fa) (he : ∀ whole, isTrue e X.env whole = (do let v ← whole; standAt e.pos; holding [v] (truthy v)) := by intro _; rfl) : FT X w e (tTup fa) := by
  refine ⟨upB_mono, pt_weak (pt_truth h.pe he) fun σ H Q ⟨δ, S, R, q⟩ => ?_⟩
  unfold upB tTup at q
  rw [fin_bnd] at q
  refine DE.sub h R q fun d S1 v H1 q1 R1 r1 t1 => ?_
  split at q1
  · rename_i xs
    obtain ⟨a, vs, rfl, f, z⟩ := dv_tup.mp r1
    refine ⟨!xs.isEmpty, .inr (.inl ⟨vs, f, ?_⟩), q1 H1 R1 t1⟩
    have := z.length
    cases xs <;> cases vs <;> simp_all
  · rename_i k
    rw [dv_bl] at r1
    subst r1
    exact ⟨k, rfl, q1 H1 R1 t1⟩
  · exact q1.elim
variable {wx : WD} {k n : Nat} {f : Addr} {g : List D → Sto → Out D} {x : Str}
theorem de_callP {sp : DSp} {t : TDA} (F : FnD X.prog X.w X.K X.mg X.base k f sp) (hr : Room k X.A) (hg : Gl X x) (hm : X.mg x = some (.ref f)) (tk : PassD X wx) (ha : DA X (e :: es) t) (hdb : (x == ("__debug__" : Str)) = false := by decide)
    (he : starEach (e :: es) X.env = (false, eval e X.env) :: starEach es X.env := by rfl) (hpl : (backTo pos (starEach es X.env)).any (·.1) = false := by rfl) : DE X (.Call (.Name x p) (e :: es) [] pos) (dCall sp wx t) := by
  obtain ⟨fd, ps, G, b⟩ := F.ex
  refine ⟨dCall_mono F.mono ha.mono, pe_weak (pe_callS G hr hg hm F.kp b tk ha.pa hdb he hpl) fun σ H Q ⟨δ, S, R, q⟩ => ?_⟩
  exact ha.sub R q fun ds S1 vs H1 q1 R1 r1 t1 => sp_lift F.mono R1 r1 q1 fun d S2 v H2 q2 R2 r2 t2 => q2 v H2 R2 r2 (t1.trans t2)
theorem fe_callP (F : FnD X.prog X.w X.K X.mg X.base k f (spO n g)) (hr : Room k X.A) (hg : Gl X x) (hm : X.mg x = some (.ref f)) (tk : PassD X wx) (ha : FAs X wx (e :: es) fr) (hdb : (x == ("__debug__" : Str)) = false := by decide)
    (he : starEach (e :: es) X.env = (false, eval e X.env) :: starEach es X.env := by rfl) (hpl : (backTo pos (starEach es X.env)).any (·.1) = false := by rfl) : FE X wx (.Call (.Name x p) (e :: es) [] pos) (fCall n g fr) :=
  de_weak (de_callP F hr hg hm tk ha hdb he hpl) upF_mono fun δ S Q q => fCall_of q
end
end DL
set_option maxRecDepth 100000
namespace DL
open PySem L2
section
variable {X : Cx} {w : WD} {st : Stmt} {te te' : TDE} {i : Nat} {x : Str}
def sAsgZ (te : TDE) (i : Nat) : TDS := fun D δ S => te δ S (frzK fun d S1 => D.nx (δ.set i (some d)) S1)
theorem ds_freeze (hi : X.N[i]? = some x) (h : DS X st (sAsg te (gN i))) (hm : MonoE te) : DS X st (sAsgZ te i) := by
  refine ⟨fun D D' δ S l q => hm _ _ _ _ (frzK_mono fun d S1 z => l.nx _ _ z) q, ⟨fun pins s σ H D I ⟨δ, S, R, q⟩ => ?_⟩⟩
  have q2 : upS X (sAsg te (gN i)) { D with nx := fun σ1 H1 => ∃ d S1, Rel X (δ.set i (some d)) S1 σ1 H1 ∧ TupP X.K H H1 ∧ frzK (fun d S1 => kN X H D.nx (δ.set i (some d)) S1) d S1 } σ H :=
    ⟨δ, S, R, hm _ _ _ _ (fun d S1 z σ1 H1 R1 t1 => ⟨d, S1, R1, t1, z⟩) q⟩
  refine wpAny_mono (h.ps.run pins s σ H _ I q2) (fun f s' z => ?_) fun e s' z => z
  cases f with
  | next =>
    obtain ⟨σ1, H1, J, d, S1, R1, t1, z⟩ := z
    have il : i < δ.length := by
      have h1 := R.len
      have h2 := I.len
      obtain ⟨h3, _⟩ := List.getElem?_eq_some_iff.mp hi
      omega
    unfold frzK at z
    split at z
    · rename_i p
      split at z
      · rename_i xs e1
        obtain ⟨vs, h1, d1⟩ := R1.sto _ _ e1
        obtain ⟨od, I2⟩ := J.lock h1 trivial
        have t2 : TupP X.K H1 (upd H1 p (.frz od (.lst vs))) := R1.tup_change e1
        have R2 := rel_lock (od := od) R1 h1 e1 trivial
        refine ⟨σ1, _, I2, z σ1 _ ⟨by rw [List.length_set]; have := R2.len; rw [List.length_set] at this; exact this, fun j dj ej => ?_, R2.sto⟩ (t1.trans t2)⟩
        by_cases hj : j = i
        · subst hj
          rw [List.getElem?_set_self il] at ej
          cases ej
          obtain ⟨v, ev, dv0⟩ := R2.loc j (.ref p) (by rw [List.getElem?_set_self il])
          rw [dv_ref] at dv0
          exact ⟨v, ev, dv_lis.mpr ⟨p, vs, dv0, ⟨od, upd_same⟩, d1.mono t2⟩⟩
        · rw [List.getElem?_set_ne (fun z => hj z.symm)] at ej
          exact R2.loc j dj (by rw [List.getElem?_set_ne (fun z => hj z.symm)]; exact ej)
      · exact ⟨σ1, H1, J, z σ1 H1 R1 t1⟩
    · exact ⟨σ1, H1, J, z σ1 H1 R1 t1⟩
  | brk => exact z
  | cont => exact z
  | ret u => exact z
theorem ds_weak {t t' : TDS} (h : DS X st t) (m : MonoS t') (k : ∀ D δ S, t' D δ S → t D δ S) : DS X st t' := ⟨m, ps_weak h.ps fun D σ H ⟨δ, S, R, q⟩ => ⟨δ, S, R, k _ _ _ q⟩⟩
variable {tg iter elt : Expr} {ifs : List Expr} {p : Pat} {scope : Scope} {own : List (Str × Nat)} {pos py spos : Pos} {fi : DEnv → Sto → Out SrcF} {ft : FB} {fe : FV} {y : Str}
theorem fs_setLc (hc : X.calm = true) (hN : X.N.Nodup) (hy : X.N[i]? = some y) (hyl : X.env.scope.names.lookup y = some .local)
    (hsw : swapsWith (.ListComp elt [⟨tg, iter, ifs, 0⟩] scope pos) (some (.Name y py)) spos.line X.env = pure true) (hi : FI X w tg iter fi) (ok : BlkOk X.N X.env.scope scope own) (hsl : ∀ i ∈ p.slots, i ∈ own.map (·.2))
    (hg : ∀ (s : Shared) (H : Hp) (C : Addr) (cl : List (Str × Addr)) (fp : List Addr), PPat (X.blk s H scope (compEnvC scope cl C X.env) fp) tg p) (ht : ∀ (s : Shared) (H : Hp) (C : Addr) (cl : List (Str × Addr)) (fp : List Addr), DTs (X.blk s H scope (compEnvC scope cl C X.env) fp) ifs (upB w0 ft))
    (he : ∀ (s : Shared) (H : Hp) (C : Addr) (cl : List (Str × Addr)) (fp : List Addr), FE (X.blk s H scope (compEnvC scope cl C X.env) fp) w0 elt fe) (h1 : FrF ft) (h2 : FrF fe) (hs : ∀ x, foldedSetIterable iter X.env x = pure x := by intro _; rfl) :
    DS X (.Assign [.Name y py] (.ListComp elt [⟨tg, iter, ifs, 0⟩] scope pos) spos) (sAsg (upF w (fLc fi p ft fe (own.map (·.2)))) (gN i)) :=
  ds_weak (ds_freeze hy (ds_setLcx hc hN hy hyl hsw hi ok hsl hg ht he hs) (dLc_mono hi.mono upB_mono upF_mono)) (sAsg_mono upF_mono gN_mono) fun D δ S q => fLc_of h1 h2 q
end
end DL
set_option maxRecDepth 100000
namespace DL
open PySem L2
def MGm (g : D → List D → Sto → Option D) : Prop := ∀ x ds S S' d, Less S S' → g x ds S = some d → g x ds S' = some d
theorem boolsD_det : True := trivial
theorem lenD_less {S S' : Sto} {d : D} {n : Nat} (l : Less S S') (e : lenD S d = some n) : lenD S' d = some n := by
  cases d with
  | ref a =>
    simp only [lenD] at e ⊢
    cases es : S a with
    | none => rw [es] at e; cases e
    | some o => rw [l _ _ es]; rw [es] at e; exact e
  | _ => exact e
theorem mg_len : MG1 gLen := fun ds S S' d l e => by
  unfold gLen at e ⊢
  split at e
  · obtain ⟨n, e1, rfl⟩ := Option.map_eq_some_iff.mp e
    rw [lenD_less l e1]
    rfl
  · cases e
theorem mg_all : MG1 gAll := fun ds S S' d l e => by
  unfold gAll at e ⊢
  split at e
  · obtain ⟨bs, e1, rfl⟩ := Option.map_eq_some_iff.mp e
    obtain ⟨xs, e2, e3⟩ := Option.bind_eq_some_iff.mp e1
    rw [seqM_less l e2, Option.bind_some, e3]
    rfl
  · cases e
theorem mg_intS : MG1 gIntS := fun ds S S' d l e => e
theorem mg_str : MG1 fStr := fun ds S S' d l e => e
theorem lookD_less {S S' : Sto} {x y : D} {r : Option D} (l : Less S S') (e : lookD S x y = some r) : lookD S' x y = some r := by
  cases x with
  | ref a =>
    simp only [lookD] at e ⊢
    cases es : S a with
    | none => rw [es] at e; cases e
    | some o => rw [l _ _ es]; rw [es] at e; exact e
  | _ => cases e
theorem mg_in {neg : Bool} : MG2 (gIn neg) := fun x y S S' d l e => by
  unfold gIn at e ⊢
  obtain ⟨b, e1, rfl⟩ := Option.map_eq_some_iff.mp e
  suffices h : inD S' x y = some b by rw [h]; rfl
  cases y with
  | ref a =>
    cases es : S a with
    | none =>
      have z1 : lookD S (.ref a) x = none := by simp only [lookD, es]
      have z2 : dataD S (.ref a) = none := by simp only [dataD, es]
      unfold inD at e1
      rw [z1] at e1
      cases x <;> simp only [z2] at e1 <;> first | cases e1 | (split at e1 <;> rename_i q _ <;> first | cases e1 | skip)
      all_goals first | (rename_i q; cases q) | cases e1
    | some o =>
      have h1 := l _ _ es
      have z1 : lookD S' (.ref a) x = lookD S (.ref a) x := by simp only [lookD, es, h1]
      have z2 : dataD S' (.ref a) = dataD S (.ref a) := by simp only [dataD, es, h1]
      unfold inD at e1 ⊢
      rw [z1]
      split at e1
      · rename_i r er
        exact e1
      · rename_i er
        cases x with
        | ref c =>
          dsimp only at e1 ⊢
          rw [z2]
          split at e1
          · rename_i p bs ep ebs
            rw [dataD_less l ep, ebs]
            exact e1
          · cases e1
        | _ =>
          dsimp only at e1 ⊢
          rw [z2]
          exact e1
  | _ =>
    unfold inD at e1 ⊢
    simp only [lookD] at e1 ⊢
    cases x with
    | ref c =>
      first
      | (simp only [dataD] at e1 ⊢
         cases es : S c with
         | none => simp [es] at e1
         | some o => rw [l _ _ es]; rw [es] at e1; exact e1)
      | exact e1
    | _ => exact e1
theorem frF_bm {T : String} {g : D → List D → Sto → Option D} {fo : FV} {fr : FA} (m : MGm g) (ht : ∀ S S' x, Less S S' → tyM S x = some T → tyM S' x = some T) (h : FrF fo) (hr : FrF fr) : FrF (fBM T g fo fr) := frF_bnd h fun x => fun δ S D o d S' n e => by
  split at e
  · rename_i t
    obtain ⟨n2, g2⟩ := frF_bnd hr (fun ds => frF_opt fun S S' d l e => m x ds S S' d l e) δ S D o d S' n e
    refine ⟨n2, ?_⟩
    rw [if_pos (ht _ _ _ (less_sup n) t)]
    exact g2
  · cases e
def NoEr {α : Type} (f : DEnv → Sto → Out α) : Prop := ∀ δ S c S', f δ S ≠ .er c S'
theorem noEr_var {i : Nat} : NoEr (fVar i) := fun δ S c S' e => by
  unfold fVar at e
  split at e <;> cases e
theorem noEr_c {d : D} : NoEr (fC d) := fun δ S c S' e => by cases e
theorem noEr_nil : NoEr fNil := fun δ S c S' e => by cases e
theorem noEr_cons {f : FV} {fr : FA} (h : NoEr f) (hr : NoEr fr) : NoEr (fCons f fr) := fun δ S c S' e => by
  unfold fCons at e
  cases e1 : f δ S with
  | ok x S1 =>
    rw [e1] at e
    have e : bnd (fr δ S1) (fun xs S2 => Out.ok (x :: xs) S2) = .er c S' := e
    cases e2 : fr δ S1 with
    | ok xs S2 => rw [e2] at e; cases e
    | er c2 S2 => exact hr _ _ _ _ e2
    | no => rw [e2] at e; cases e
  | er c2 S2 => exact h _ _ _ _ e1
  | no => rw [e1] at e; cases e
def FrGX (g : List D → Sto → Out D) : Prop := ∀ ds S D o c S', S D = none → g ds S = .er c S' → S' D = none ∧ g ds (sup S D o) = .er c (sup S' D o)
theorem frX_call {n : Nat} {g : List D → Sto → Out D} {fr : FA} (m : FrGX g) (h : FrF fr) (hn : NoEr fr) : FrX (fCall n g fr) := fun δ S D o c S' n0 e => by
  unfold fCall at *
  cases e1 : fr δ S with
  | ok ds S1 =>
    rw [e1] at e
    obtain ⟨n1, g1⟩ := h δ S D o ds S1 n0 e1
    have e : (if ds.length = n then g ds S1 else .no) = .er c S' := e
    split at e
    · rename_i hl
      obtain ⟨n2, g2⟩ := m ds S1 D o c S' n1 e
      refine ⟨n2, ?_⟩
      rw [g1]
      show (if ds.length = n then g ds (sup S1 D o) else .no) = _
      rw [if_pos hl]
      exact g2
    · cases e
  | er c2 S2 => exact (hn _ _ _ _ e1).elim
  | no => rw [e1] at e; cases e
inductive PR (α : Type) where
  | ok (a : α)
  | er (c : XD)
  | no
def PR.out {α : Type} (r : PR α) (S : Sto) : Out α := match r with
  | .ok a => .ok a S
  | .er c => .er c S
  | .no => .no
theorem out_ok {α : Type} {a : α} {S : Sto} : (PR.ok a).out S = .ok a S := rfl
theorem out_er {α : Type} {c : XD} {S : Sto} : (PR.er c : PR α).out S = .er c S := rfl
theorem out_no {α : Type} {S : Sto} : (PR.no : PR α).out S = .no := rfl
def pur (h : List D → PR D) : List D → Sto → Out D := fun ds S => (h ds).out S
theorem pur_eq {h : List D → PR D} {ds : List D} {S : Sto} : pur h ds S = (h ds).out S := rfl
theorem frG_pur {h : List D → PR D} : FrG (pur h) := fun ds S D o a S' n e => by
  unfold pur at *
  cases r : h ds with
  | ok b => rw [r] at e; cases e; exact ⟨n, rfl⟩
  | er c => rw [r] at e; cases e
  | no => rw [r] at e; cases e
theorem frGX_pur {h : List D → PR D} : FrGX (pur h) := fun ds S D o c S' n e => by
  unfold pur at *
  cases r : h ds with
  | ok b => rw [r] at e; cases e
  | er c => rw [r] at e; cases e; exact ⟨n, rfl⟩
  | no => rw [r] at e; cases e
theorem compF_pure {ck : Sto → Bool} {p : Pat} {fe : FV} {δ0 : DEnv} {S : Sto} {h : D → D} (hc : ck S = true) : ∀ (xs : List D), (∀ x ∈ xs, ∃ δ1, bindP p x δ0 = some δ1 ∧ fe δ1 S = .ok (h x) S) → compF ck p fYes fe δ0 xs S = .ok (xs.map h) S
  | [], _ => by unfold compF; rw [if_pos hc]; rfl
  | x :: xs, k => by
    obtain ⟨δ1, e1, e2⟩ := k x List.mem_cons_self
    unfold compF
    rw [if_pos hc, e1]
    show bnd (noE (fe δ1 S)) (fun d S2 => bnd (compF ck p fYes fe δ0 xs S2) fun ds S3 => .ok (d :: ds) S3) = _
    rw [e2]
    show bnd (compF ck p fYes fe δ0 xs S) (fun ds S3 => .ok (h x :: ds) S3) = _
    rw [compF_pure hc xs fun y hy => k y (List.mem_cons_of_mem _ hy)]
    rfl
def seqR (h : D → PR D) : List D → PR (List D)
  | [] => .ok []
  | x :: xs => match h x with
    | .ok d => match seqR h xs with
      | .ok ds => .ok (d :: ds)
      | .er c => .er c
      | .no => .no
    | .er c => .er c
    | .no => .no
theorem compR_pure {ck : Sto → Bool} {p : Pat} {fe : FV} {δ0 : DEnv} {S : Sto} {h : D → PR D} (hc : ck S = true) : ∀ (xs : List D), (∀ x ∈ xs, ∃ δ1, bindP p x δ0 = some δ1 ∧ fe δ1 S = (h x).out S) → compR ck p fYes fe δ0 xs S = (seqR h xs).out S
  | [], _ => by unfold compR seqR; rw [if_pos hc]; rfl
  | x :: xs, k => by
    obtain ⟨δ1, e1, e2⟩ := k x List.mem_cons_self
    have ih := compR_pure hc xs fun y hy => k y (List.mem_cons_of_mem _ hy)
    unfold compR seqR
    rw [if_pos hc, e1]
    show bnd (fe δ1 S) (fun d S2 => bnd (compR ck p fYes fe δ0 xs S2) fun ds S3 => .ok (d :: ds) S3) = _
    rw [e2]
    cases e3 : h x with
    | ok d =>
      show bnd (compR ck p fYes fe δ0 xs S) (fun ds S3 => .ok (d :: ds) S3) = _
      rw [ih]
      cases seqR h xs <;> rfl
    | er c => rfl
    | no => rfl
end DL
namespace DL
open PySem L2
section
variable {X : Cx} {w : WD} {e tg : Expr} {es : List Expr}
def optP {α : Type} (x : Option α) (k : α → Prop) (_ : Tag k := {}) : Prop := match x with
  | some a => k a
  | none => False
theorem optP_congr {α : Type} {x y : Option α} {k : α → Prop} (h : x = y) : optP x k = optP y k := by rw [h]
theorem optP_some {α : Type} {a : α} {k : α → Prop} : optP (some a) k = k a := rfl
theorem optP_none {α : Type} {k : α → Prop} : optP none k = False := rfl
def sPutP (ta tb tv : TDE) : TDS := fun D δ S => tv δ S fun v S1 => ta δ S1 fun o S2 => tb δ S2 fun i S3 => optP (setD S3 o i v) fun F => ∀ ep, D.nx δ (F ep)
theorem ds_putP {a b value : Expr} {ta tb tv : TDE} {pos pos' : Pos} (hu : X.A.units + 64 < cLine) (ho : DE X a ta) (hi : DE X b tb) (hv : DE X value tv) (hs : swapsWith value (some (.Subscript a b pos')) pos.line X.env = pure false := by rfl) : DS X (.Assign [.Subscript a b pos'] value pos) (sPutP ta tb tv) := by
  have e : sPutP ta tb tv = sPut ta tb tv := by
    funext D δ S
    unfold sPutP sPut
    congr 1
    funext v S1
    congr 1
    funext o S2
    congr 1
    funext i S3
    cases setD S3 o i v <;> rfl
  rw [e]
  exact ds_put hu ho hi hv hs
theorem fe_w (w : WD) {f : FV} (h : FE X w e f) : FE X w e f := h
theorem ft_w (w : WD) {f : FB} (h : FT X w e f) : FT X w e f := h
theorem fa_w (w : WD) {f : FA} (h : FAs X w es f) : FAs X w es f := h
theorem fi_w (w : WD) {f : DEnv → Sto → Out SrcF} (h : FI X w tg e f) : FI X w tg e f := h
end
end DL
set_option maxRecDepth 100000
set_option maxHeartbeats 1000000
namespace Hb
open PySem L2 DL
def top (i : Nat) : Stmt := PySem.Challenge.pw_headbook_k10_texts.main.body.getD i (.Pass ⟨0, 0, 0, 0⟩)
theorem fin_end {x y : Out D} {wx : DX} {Q : DK} (e : x = y) (h : fin y wx Q) : fin x (fun c S' => dnX wx c S') (dn Q) := by
  subst e
  exact fin_mono (fun c S z => ⟨S, Less.refl, z⟩) (fun a S z => ⟨S, Less.refl, z⟩) h
def noRef : D → Bool
  | .ref _ => false
  | .fro _ => false
  | _ => true
def isInt : D → Bool
  | .int _ => true
  | _ => false
def wholeR (ds : List D) : PR D := match ds with
  | [d] => if noRef d = true then .ok (.bl (isInt d)) else .no
  | _ => .no
def betweenR (ds : List D) : PR D := match ds with
  | [.int i, .int lo, .int hi] => .ok (.bl (decide (lo ≤ i) && decide (i ≤ hi)))
  | [d, .int _, .int _] => if noRef d = true then .ok (.bl false) else .no
  | _ => .no
def LET : Str := "abcdefghijklmnopqrstuvwxyz"
def labelB (z : Str) : Bool := decide (1 ≤ z.length) && (decide (z.length ≤ 3) && z.cps.toList.all fun c => decide (c ∈ LET.cps.toList))
def labelR (ds : List D) : PR D := match ds with
  | [.str z] => if z.length ≤ sizeLine then .ok (.bl (labelB z)) else .no
  | [d] => if noRef d = true then .ok (.bl false) else .no
  | _ => .no
theorem scWhole : FnScope ["value"] ["value"] (defScope (top 16)) := ⟨rfl, rfl, rfl, by decide +kernel, rfl, by decide +kernel, by decide +kernel⟩
theorem scBetween : FnScope ["value", "low", "high"] ["value", "low", "high"] (defScope (top 17)) := ⟨rfl, rfl, rfl, by decide +kernel, rfl, by decide +kernel, by decide +kernel⟩
theorem scLabel : FnScope ["value", "letter"] ["value"] (defScope (top 18)) := ⟨rfl, rfl, rfl, by decide +kernel, rfl, by decide +kernel, by decide +kernel⟩
theorem boolsD_bl : ∀ bs : List Bool, boolsD (bs.map D.bl) = some bs
  | [] => rfl
  | b :: bs => by
    rw [List.map_cons]
    unfold boolsD
    rw [boolsD_bl bs]
def inB (T : Str) : D → D
  | .str y => .bl (match y.cps.toList with
    | [n] => decide (n ∈ T.cps.toList)
    | _ => false)
  | _ => .non
theorem fLc_in {δ : DEnv} {S : Sto} {z T : Str} {i j : Nat} (e : δ[i]? = some (some (.str z))) (hj : j < δ.length) (hz : z.length ≤ sizeLine) :
    fLc (fAny (fVar i)) (.nm j) fYes (fBin (gIn false) (fVar j) (fC (.str T))) [j] δ S = .ok (.lis (z.cps.toList.map fun c => .bl (decide (c ∈ T.cps.toList)))) S := by
  have e1 : fAny (fVar i) δ S = .ok (.of (sgn z)) S := by
    unfold fAny fVar
    rw [e]
    rfl
  have hl : (wipeD δ [j]).length = δ.length := wipeD_length _ _
  have hc : compF (SrcF.of (sgn z)).ck (.nm j) fYes (fBin (gIn false) (fVar j) (fC (.str T))) (wipeD δ [j]) (SrcF.of (sgn z)).items S = .ok ((sgn z).map (inB T)) S := by
    refine compF_pure rfl _ fun x hx => ⟨(wipeD δ [j]).set j (some x), by rw [bindP], ?_⟩
    have hx : x ∈ sgn z := hx
    obtain ⟨n, _, rfl⟩ : ∃ n, n ∈ z.cps.toList ∧ x = .str ⟨#[n]⟩ := by
      unfold sgn at hx
      simpa [eq_comm] using hx
    have e2 : fVar j ((wipeD δ [j]).set j (some (.str ⟨#[n]⟩))) S = .ok (.str ⟨#[n]⟩) S := by
      unfold fVar
      rw [List.getElem?_set_self (by rw [hl]; exact hj)]
    unfold fBin
    rw [e2]
    rfl
  unfold fLc
  rw [e1]
  show bnd (compF _ _ _ _ _ _ S) _ = _
  rw [hc]
  have hm : (sgn z).map (inB T) = z.cps.toList.map fun c => .bl (decide (c ∈ T.cps.toList)) := by
    unfold sgn
    rw [List.map_map]
    rfl
  show (if _ then Out.ok _ S else .no) = _
  rw [hm, if_pos (by rw [List.length_map]; exact hz)]
theorem gAll_bl {α : Type} {l : List α} {p : α → Bool} {S : Sto} : gAll [.lis (l.map fun c => D.bl (p c))] S = some (.bl (l.all p)) := by
  have e : (l.map fun c => D.bl (p c)) = (l.map p).map D.bl := by rw [List.map_map]; rfl
  unfold gAll seqM
  dsimp only
  rw [Option.bind_some, e, boolsD_bl]
  simp [List.all_map, Function.comp_def]
section
variable {P : Program} {w : World} {K : PySem.W.Frag} {mg : Str → Option Value} {base : Heap} {k : Nat} {f : Addr} {fd : FuncData}
theorem ok_whole (F : Fun K "is_whole" "is_whole" (top 16) f fd) (b : Binds K fd ["value"] []) (b_isinstance : mg "isinstance" = none) (b_int : mg "int" = none) (b_bool : mg "bool" = none) : FnD P w K mg base (k + 1) f (spO 1 (pur wholeR)) := by
  refine fnD_ok F b scWhole spO_mono spO_len fun X cdv A outer s H E wx eX hr tk po => ?_
  subst eX
  have sc := @scWhole
  refine ⟨_, (dss_one (ds_ret (fe_w (fun c _ S => dnX wx c S) (fe_and (fe_isi (by rfl) b_isinstance (by rfl) b_int (by rfl) (by decide +kernel) (fv 0)) (fe_one (fe_not (fe_isi (by rfl) b_isinstance (by rfl) b_bool (by rfl) (by decide +kernel) (fv 0)))))))), fun ds S Q h => ?_⟩
  obtain ⟨l, h⟩ := h
  match ds, l with
  | [d], _ =>
    cases d <;> first | exact h.elim | exact fin_end rfl h
theorem ok_between {fw : Addr} (F : Fun K "is_between" "is_between" (top 17) f fd) (b : Binds K fd ["value", "low", "high"] []) (m_is_whole : mg "is_whole" = some (.ref fw)) (F_is_whole : FnD P w K mg base (k + 1) fw (spO 1 (pur wholeR))) :
    FnD P w K mg base (k + 2) f (spO 3 (pur betweenR)) := by
  refine fnD_ok F b scBetween spO_mono spO_len fun X cdv A outer s H E wx eX hr tk po => ?_
  subst eX
  have sc := @scBetween
  refine ⟨_, (dss_one (ds_ret (fe_w (fun c _ S => dnX wx c S) (fe_and (fe_call F_is_whole hr (by rfl) m_is_whole tk (fa_cons (fv 0) fa_nil)) (fe_one (fe_chain dop_leA dop_leA (fv 1) (fv 0) (fv 2))))))), fun ds S Q h => ?_⟩
  obtain ⟨l, h⟩ := h
  match ds, l with
  | [d, x, y], _ =>
    cases x <;> cases y <;> try (cases d <;> exact h.elim)
    rename_i lo hi
    cases d <;> first | exact h.elim | exact fin_end rfl h | refine fin_end ?_ h
    rename_i i
    rename_i j
    by_cases c : j ≤ i <;> simp [sSeq, sIf, sRet, sRetN, sAsg, gN, sNext, sDrop, sPutP, setD, optP_some, optP_none, upF, upB, upAs, fin_ok, fin_er, fin_no, bnd_ok, bnd_er, bnd_no, opt_some, opt_none, fVar, fC, fBin, tst, DL.tTup, fAnd, fOr, fNot, fAndV, fOrV, fNotV, fIf, fNeg, fNil, fCons, fTup, fLst, fCB, fBM, fIsi, fCall, fChain, gInt, fOrd, gLen, lenD, tyD, startD, isTy, noE_ok, DL.fSub, DL.gSub, lookD, gIx, seqA, seqL, L2.atI, L2.ixN, pur, wholeR, betweenR, noRef, isInt, PR.out, c]
theorem ok_label (F : Fun K "is_label" "is_label" (top 18) f fd) (b : Binds K fd ["value"] []) (b_isinstance : mg "isinstance" = none) (b_str : mg "str" = none) (b_len : mg "len" = none) (b_all : mg "all" = none) {t1 t2 : Tok} (m_MOST_LETTERS : mg "MOST_LETTERS" = some (.int 3 t1)) (m_LETTERS : mg "LETTERS" = some (.str LET t2)) :
    FnD P w K mg base (k + 1) f (spO 1 (pur labelR)) := by
  refine fnD_ok F b scLabel spO_mono spO_len fun X cdv A outer s H E wx eX hr tk po => ?_
  have hu : X.A.units + 64 < cLine := by have := hr.un; omega
  have hu65 : X.A.units + 65 < cLine := by have := hr.un; omega
  subst eX
  have sc := @scLabel
  refine ⟨_, (dss_cons (ds_if (ft_w (fun c _ S => dnX wx c S) (fw_or (ft_not (ft_val (fe_isi (by rfl) b_isinstance (by rfl) b_str (by rfl) (by decide +kernel) (fv 0)))) (fw_or1 (ft_not (ft_chain dop_leA dop_leA fe_int (fe_callB fcall_len (by rfl) b_len (by rfl) (fa_cons (fv 0) fa_nil)) (fe_c (de_globI (by rfl) m_MOST_LETTERS)))))).dt) (dss_one (ds_ret (fe_w (fun c _ S => dnX wx c S) fe_bl))) dss_nil)
      (dss_one (ds_ret (fe_w (fun c _ S => dnX wx c S) (fe_callB (fcall_all rfl) (by rfl) b_all (by rfl) (fa_cons (fe_lc rfl sc.nd (fi_any (fv 0)) (own := [("letter", 1)]) (blk_ok (N := ["value", "letter"]) (sc := (defScope (top 18))) (by rfl) (by decide +kernel)) (by decide +kernel) (fun _ _ _ _ _ => (pp_name (i := 1) sc.nd rfl (by first | exact .inl rfl | exact .inr rfl))) (fun _ _ _ _ _ => fts_nil) (fun _ _ _ _ _ => (fe_cmp (fop_in hu65) (fv 1) (fe_c (de_globS (by rfl) m_LETTERS)) (by with_unfolding_all rfl))) frF_yes (frF_bin mg_in frF_var frF_c)) fa_nil)))))), fun ds S Q h => ?_⟩
  obtain ⟨l, h⟩ := h
  match ds, l with
  | [d], _ =>
    cases d with
    | str z =>
      by_cases hz : z.length ≤ sizeLine
      · have ec := fLc_in (δ := startD ["value", "letter"] [D.str z]) (S := S) (z := z) (T := LET) (i := 0) (j := 1) rfl (by simp [startD]) hz
        rw [show startD ["value", "letter"] [D.str z] = [some (.str z), none] from rfl] at ec
        have h2 : fin (Out.ok (D.bl (labelB z)) S) wx Q := by
          have h : fin ((if z.length ≤ sizeLine then PR.ok (.bl (labelB z)) else PR.no).out S) wx Q := h
          rw [if_pos hz] at h
          exact h
        clear F b h hr tk po
        by_cases c1 : (1 : Int) ≤ (z.length : Int)
        · by_cases c2 : (z.length : Int) ≤ 3
          · have e3 : labelB z = z.cps.toList.all fun c => decide (c ∈ LET.cps.toList) := by
              unfold labelB
              rw [decide_eq_true (by omega), decide_eq_true (by omega), Bool.true_and, Bool.true_and]
            rw [e3] at h2
            simp [sSeq, sIf, sRet, sRetN, sAsg, gN, sNext, sDrop, sPutP, setD, optP_some, optP_none, upF, upB, upAs, fin_ok, fin_er, fin_no, bnd_ok, bnd_er, bnd_no, opt_some, opt_none, fVar, fC, fBin, tst, DL.tTup, fAnd, fOr, fNot, fAndV, fOrV, fNotV, fIf, fNeg, fNil, fCons, fTup, fLst, fCB, fBM, fIsi, fCall, fChain, gInt, fOrd, gLen, lenD, tyD, startD, isTy, noE_ok, DL.fSub, DL.gSub, lookD, gIx, seqA, seqL, L2.atI, L2.ixN, hz, c1, c2, ec, gAll_bl]
            exact ⟨S, Less.refl, by simpa [fin_ok] using h2⟩
          · have e3 : labelB z = false := by
              unfold labelB
              rw [decide_eq_false (by omega : ¬ z.length ≤ 3)]
              simp
            rw [e3] at h2
            simp [sSeq, sIf, sRet, sRetN, sAsg, gN, sNext, sDrop, sPutP, setD, optP_some, optP_none, upF, upB, upAs, fin_ok, fin_er, fin_no, bnd_ok, bnd_er, bnd_no, opt_some, opt_none, fVar, fC, fBin, tst, DL.tTup, fAnd, fOr, fNot, fAndV, fOrV, fNotV, fIf, fNeg, fNil, fCons, fTup, fLst, fCB, fBM, fIsi, fCall, fChain, gInt, fOrd, gLen, lenD, tyD, startD, isTy, noE_ok, DL.fSub, DL.gSub, lookD, gIx, seqA, seqL, L2.atI, L2.ixN, hz, c1, c2]
            exact ⟨S, Less.refl, h2⟩
        · have e3 : labelB z = false := by
            unfold labelB
            rw [decide_eq_false (by omega : ¬ 1 ≤ z.length)]
            simp
          rw [e3] at h2
          simp [sSeq, sIf, sRet, sRetN, sAsg, gN, sNext, sDrop, sPutP, setD, optP_some, optP_none, upF, upB, upAs, fin_ok, fin_er, fin_no, bnd_ok, bnd_er, bnd_no, opt_some, opt_none, fVar, fC, fBin, tst, DL.tTup, fAnd, fOr, fNot, fAndV, fOrV, fNotV, fIf, fNeg, fNil, fCons, fTup, fLst, fCB, fBM, fIsi, fCall, fChain, gInt, fOrd, gLen, lenD, tyD, startD, isTy, noE_ok, DL.fSub, DL.gSub, lookD, gIx, seqA, seqL, L2.atI, L2.ixN, hz, c1]
          exact ⟨S, Less.refl, h2⟩
      · have h : fin ((if z.length ≤ sizeLine then PR.ok (.bl (labelB z)) else PR.no).out S) wx Q := h
        rw [if_neg hz] at h
        exact h.elim
    | ref a => exact h.elim
    | fro a => exact h.elim
    | _ => exact fin_end rfl h
end
end Hb
set_option maxRecDepth 100000
set_option maxHeartbeats 1000000
namespace Hb
open PySem L2 DL
theorem fLc_pure {δ : DEnv} {S : Sto} {fi : DEnv → Sto → Out SrcF} {s : SrcF} {p : Pat} {fe : FV} {vs : List Nat} {h : D → D} (e : fi δ S = .ok s S) (hc : s.ck S = true) (hl : s.items.length ≤ sizeLine) (k : ∀ x ∈ s.items, ∃ δ1, bindP p x (wipeD δ vs) = some δ1 ∧ fe δ1 S = .ok (h x) S) :
    fLc fi p fYes fe vs δ S = .ok (.lis (s.items.map h)) S := by
  unfold fLc
  rw [e]
  show bnd (compF _ _ _ _ _ _ S) _ = _
  rw [compF_pure hc _ k]
  show (if _ then Out.ok _ S else .no) = _
  rw [if_pos (by rw [List.length_map]; exact hl)]
def okL : D → Bool
  | .str z => decide (z.length ≤ sizeLine)
  | d => noRef d
def labelP : D → Bool
  | .str z => labelB z
  | _ => false
theorem labelR_ok {d : D} (h : okL d = true) : labelR [d] = .ok (.bl (labelP d)) := by
  cases d with
  | str z =>
    have e : z.length ≤ sizeLine := of_decide_eq_true h
    show (if z.length ≤ sizeLine then PR.ok (D.bl (labelB z)) else .no) = _
    rw [if_pos e]
    rfl
  | ref a => cases h
  | fro a => cases h
  | _ => rfl
def nameR (ds : List D) : PR D := match ds with
  | [.tup xs] => if xs.length ≤ 5 then (if xs.all okL = true then .ok (.bl (xs.all labelP)) else .no) else .ok (.bl false)
  | [d] => if noRef d = true then .ok (.bl false) else .no
  | _ => .no
def numR (ds : List D) : PR D := match ds with
  | [d] => betweenR [d, .int 0, .int 999]
  | _ => .no
def checkR (C : Addr) (r : List D → PR D) (ds : List D) : PR D := match r ds with
  | .ok (.bl true) => .ok .non
  | .ok (.bl false) => .er (.ref C, none)
  | _ => .no
def wname (ys : List Str) : Str := if ys = [] then "." else Txt.join "." ys
def wnameR (ds : List D) : PR D := match ds with
  | [.tup xs] => match strsD xs with
    | some ys => if (ys.map (·.length)).sum + ys.length ≤ 16777216 then .ok (.str (wname ys)) else .no
    | none => .no
  | _ => .no
def rnameR (ds : List D) : PR D := match ds with
  | [.str z] => if z = "." then .ok (.tup []) else if z.length + 2 ≤ sizeLine then .ok (.tup ((Txt.split z ".").map .str)) else .no
  | _ => .no
def FIG : Str := "0123456789"
def figB (z : Str) : Bool := decide (1 ≤ z.length) && (decide (z.length ≤ 3) && z.cps.toList.all fun c => decide (c ∈ FIG.cps.toList))
def rnumR (ds : List D) : PR D := match ds with
  | [.str z] => if z.length ≤ sizeLine then (if figB z = true then (match PySem.intText? z with
    | some n => if n.natAbs.log2 < 1920 then .ok (if z = toString n then .int n else .non) else .no
    | none => .no) else .ok .non) else .no
  | _ => .no
theorem scName : FnScope ["value", "label"] ["value"] (defScope (top 19)) := ⟨rfl, rfl, rfl, by decide +kernel, rfl, by decide +kernel, by decide +kernel⟩
theorem scCheckName : FnScope ["value"] ["value"] (defScope (top 20)) := ⟨rfl, rfl, rfl, by decide +kernel, rfl, by decide +kernel, by decide +kernel⟩
theorem scNumber : FnScope ["value"] ["value"] (defScope (top 21)) := ⟨rfl, rfl, rfl, by decide +kernel, rfl, by decide +kernel, by decide +kernel⟩
theorem scCheckNumber : FnScope ["value"] ["value"] (defScope (top 22)) := ⟨rfl, rfl, rfl, by decide +kernel, rfl, by decide +kernel, by decide +kernel⟩
theorem scWName : FnScope ["name"] ["name"] (defScope (top 27)) := ⟨rfl, rfl, rfl, by decide +kernel, rfl, by decide +kernel, by decide +kernel⟩
theorem scRName : FnScope ["word"] ["word"] (defScope (top 30)) := ⟨rfl, rfl, rfl, by decide +kernel, rfl, by decide +kernel, by decide +kernel⟩
theorem scRNum : FnScope ["word", "sign"] ["word"] (defScope (top 31)) := ⟨rfl, rfl, rfl, by decide +kernel, rfl, by decide +kernel, by decide +kernel⟩
section
variable {P : Program} {w : World} {K : PySem.W.Frag} {mg : Str → Option Value} {base : Heap} {k : Nat} {f : Addr} {fd : FuncData}
theorem fLc_labels {xs : List D} {S : Sto} (ho : xs.all okL = true) (hl : xs.length ≤ 5) :
    fLc (fAny (fVar 0)) (.nm 1) fYes (fCall 1 (pur labelR) (fCons (fVar 1) fNil)) [1] [some (.tup xs), none] S = .ok (.lis (xs.map fun x => .bl (labelP x))) S := by
  have h5 : (5 : Nat) ≤ sizeLine := by decide
  refine fLc_pure (s := .of xs) (h := fun x => .bl (labelP x)) rfl rfl (by show xs.length ≤ _; omega) fun x hx => ⟨[some (.tup xs), some x], rfl, ?_⟩
  have hx : x ∈ xs := hx
  have e := labelR_ok (List.all_eq_true.mp ho x hx)
  show bnd (bnd (Out.ok x S) fun y S1 => bnd (Out.ok [] S1) fun ys S2 => .ok (y :: ys) S2) _ = _
  show (if ([x] : List D).length = 1 then pur labelR [x] S else .no) = _
  rw [if_pos (show ([x] : List D).length = 1 from rfl), pur_eq, e]
  rfl
theorem ok_name {fl : Addr} (F : Fun K "is_name" "is_name" (top 19) f fd) (b : Binds K fd ["value"] []) (b_isinstance : mg "isinstance" = none) (b_tuple : mg "tuple" = none) (b_len : mg "len" = none) (b_all : mg "all" = none) {t1 : Tok} (m_MOST_LABELS : mg "MOST_LABELS" = some (.int 5 t1)) (m_is_label : mg "is_label" = some (.ref fl)) (F_is_label : FnD P w K mg base (k + 1) fl (spO 1 (pur labelR))) :
    FnD P w K mg base (k + 2) f (spO 1 (pur nameR)) := by
  refine fnD_ok F b scName spO_mono spO_len fun X cdv A outer s H E wx eX hr tk po => ?_
  have hu : X.A.units + 64 < cLine := by have := hr.un; omega
  have hu65 : X.A.units + 65 < cLine := by have := hr.un; omega
  subst eX
  have sc := @scName
  have G_is_label := @frG_pur labelR
  refine ⟨_, (dss_cons (ds_if (ft_w (fun c _ S => dnX wx c S) (fw_or (ft_not (ft_val (fe_isi (by rfl) b_isinstance (by rfl) b_tuple (by rfl) (by decide +kernel) (fv 0)))) (fw_or1 (ft_cmp dop_gtA (fe_callB fcall_len (by rfl) b_len (by rfl) (fa_cons (fv 0) fa_nil)) (fe_c (de_globI (by rfl) m_MOST_LABELS)) (by with_unfolding_all rfl)))).dt) (dss_one (ds_ret (fe_w (fun c _ S => dnX wx c S) fe_bl))) dss_nil)
      (dss_one (ds_ret (fe_w (fun c _ S => dnX wx c S) (fe_callB (fcall_all rfl) (by rfl) b_all (by rfl) (fa_cons (fe_lc rfl sc.nd (fi_any (fv 0)) (own := [("label", 1)]) (blk_ok (N := ["value", "label"]) (sc := (defScope (top 19))) (by rfl) (by decide +kernel)) (by decide +kernel) (fun _ _ _ _ _ => (pp_name (i := 1) sc.nd rfl (by first | exact .inl rfl | exact .inr rfl))) (fun _ _ _ _ _ => fts_nil) (fun _ _ _ _ _ => (fe_call F_is_label hr (by rfl) m_is_label TakesD.none (fa_cons (fv 1) fa_nil))) frF_yes (frF_call G_is_label (frF_cons frF_var frF_nil))) fa_nil)))))), fun ds S Q h => ?_⟩
  obtain ⟨l, h⟩ := h
  match ds, l with
  | [d], _ =>
    cases d with
    | tup xs =>
      have h : fin ((if xs.length ≤ 5 then (if xs.all okL = true then .ok (.bl (xs.all labelP)) else .no) else .ok (.bl false) : PR D).out S) wx Q := h
      clear F b hr tk po
      by_cases c : xs.length ≤ 5
      · rw [if_pos c] at h
        by_cases ho : xs.all okL = true
        · rw [if_pos ho] at h
          have ec := fLc_labels (S := S) ho c
          have c' : ¬ (5 : Int) < (xs.length : Int) := by omega
          simp [sSeq, sIf, sRet, sRetN, sAsg, gN, sNext, sDrop, sPutP, setD, optP_some, optP_none, upF, upB, upAs, fin_ok, fin_er, fin_no, bnd_ok, bnd_er, bnd_no, opt_some, opt_none, fVar, fC, fBin, tst, DL.tTup, fAnd, fOr, fNot, fAndV, fOrV, fNotV, fIf, fNeg, fNil, fCons, fTup, fLst, fCB, fBM, fIsi, fCall, fChain, gInt, fOrd, gLen, lenD, tyD, startD, isTy, noE_ok, DL.fSub, DL.gSub, lookD, gIx, seqA, seqL, L2.atI, L2.ixN, c', ec, gAll_bl] at h ⊢
          exact ⟨S, Less.refl, by simpa [fin_ok, PR.out] using h⟩
        · rw [if_neg ho] at h
          exact h.elim
      · rw [if_neg c] at h
        have c' : (5 : Int) < (xs.length : Int) := by omega
        simp [sSeq, sIf, sRet, sRetN, sAsg, gN, sNext, sDrop, sPutP, setD, optP_some, optP_none, upF, upB, upAs, fin_ok, fin_er, fin_no, bnd_ok, bnd_er, bnd_no, opt_some, opt_none, fVar, fC, fBin, tst, DL.tTup, fAnd, fOr, fNot, fAndV, fOrV, fNotV, fIf, fNeg, fNil, fCons, fTup, fLst, fCB, fBM, fIsi, fCall, fChain, gInt, fOrd, gLen, lenD, tyD, startD, isTy, noE_ok, DL.fSub, DL.gSub, lookD, gIx, seqA, seqL, L2.atI, L2.ixN, c']
        exact ⟨S, Less.refl, h⟩
    | ref a => exact h.elim
    | fro a => exact h.elim
    | _ => exact fin_end rfl h
theorem ok_check_name {fl : Addr} (F : Fun K "check_name" "check_name" (top 20) f fd) (b : Binds K fd ["value"] []) (m_is_name : mg "is_name" = some (.ref fl)) (F_is_name : FnD P w K mg base (k + 2) fl (spO 1 (pur nameR))) {C : Addr} (q_BadName : PySem.W.excIn K C [.type "ValueError", .type "Exception", .type "BaseException", .type "object"] "ValueError.__new__" = true) (m_BadName : mg "BadName" = some (.ref C)) (k_BadName : PySem.W.keepIn K (.ref C) = true) (r_BadName : ∀ X : L2.Cx, X.K = K → Raises X (.ref C)) :
    FnD P w K mg base (k + 3) f (spO 1 (pur (checkR C nameR))) := by
  refine fnD_ok F b scCheckName spO_mono spO_len fun X cdv A outer s H E wx eX hr tk po => ?_
  subst eX
  have sc := @scCheckName
  refine ⟨_, (dss_one (ds_if (ft_w (fun c _ S => dnX wx c S) (ft_not (ft_val (fe_call F_is_name hr (by rfl) m_is_name tk (fa_cons (fv 0) fa_nil))))) (dss_one (ds_raise rfl tk q_BadName m_BadName k_BadName (r_BadName _ rfl) (by rfl))) dss_nil)), fun ds S Q h => ?_⟩
  obtain ⟨l, h⟩ := h
  match ds, l with
  | [d], _ =>
    clear F b hr tk po
    cases e : nameR [d] with
    | ok r =>
      have h : fin (PR.out (match nameR [d] with | .ok (.bl true) => .ok .non | .ok (.bl false) => .er (.ref C, none) | _ => .no) S) wx Q := h
      rw [e] at h
      cases r with
      | bl t =>
        cases t
        · simp [sSeq, sIf, sRet, sRetN, sAsg, gN, sNext, sDrop, sPutP, setD, optP_some, optP_none, upF, upB, upAs, fin_ok, fin_er, fin_no, bnd_ok, bnd_er, bnd_no, opt_some, opt_none, fVar, fC, fBin, tst, DL.tTup, fAnd, fOr, fNot, fAndV, fOrV, fNotV, fIf, fNeg, fNil, fCons, fTup, fLst, fCB, fBM, fIsi, fCall, fChain, gInt, fOrd, gLen, lenD, tyD, startD, isTy, noE_ok, DL.fSub, DL.gSub, lookD, gIx, seqA, seqL, L2.atI, L2.ixN, pur, e, PR.out, sRaise]
          exact ⟨S, Less.refl, h⟩
        · simp [sSeq, sIf, sRet, sRetN, sAsg, gN, sNext, sDrop, sPutP, setD, optP_some, optP_none, upF, upB, upAs, fin_ok, fin_er, fin_no, bnd_ok, bnd_er, bnd_no, opt_some, opt_none, fVar, fC, fBin, tst, DL.tTup, fAnd, fOr, fNot, fAndV, fOrV, fNotV, fIf, fNeg, fNil, fCons, fTup, fLst, fCB, fBM, fIsi, fCall, fChain, gInt, fOrd, gLen, lenD, tyD, startD, isTy, noE_ok, DL.fSub, DL.gSub, lookD, gIx, seqA, seqL, L2.atI, L2.ixN, pur, e, PR.out, sRaise]
          exact ⟨S, Less.refl, h⟩
      | _ => exact h.elim
    | er c =>
      have h : fin (PR.out (match nameR [d] with | .ok (.bl true) => .ok .non | .ok (.bl false) => .er (.ref C, none) | _ => .no) S) wx Q := h
      rw [e] at h
      exact h.elim
    | no =>
      have h : fin (PR.out (match nameR [d] with | .ok (.bl true) => .ok .non | .ok (.bl false) => .er (.ref C, none) | _ => .no) S) wx Q := h
      rw [e] at h
      exact h.elim
theorem ok_number {fl : Addr} (F : Fun K "is_number" "is_number" (top 21) f fd) (b : Binds K fd ["value"] []) {t1 : Tok} (m_MOST_NUMBER : mg "MOST_NUMBER" = some (.int 999 t1)) (m_is_between : mg "is_between" = some (.ref fl)) (F_is_between : FnD P w K mg base (k + 2) fl (spO 3 (pur betweenR))) :
    FnD P w K mg base (k + 3) f (spO 1 (pur numR)) := by
  refine fnD_ok F b scNumber spO_mono spO_len fun X cdv A outer s H E wx eX hr tk po => ?_
  subst eX
  have sc := @scNumber
  refine ⟨_, (dss_one (ds_ret (fe_w (fun c _ S => dnX wx c S) (fe_call F_is_between hr (by rfl) m_is_between tk (fa_cons (fv 0) (fa_cons fe_int (fa_cons (fe_c (de_globI (by rfl) m_MOST_NUMBER)) fa_nil))))))), fun ds S Q h => ?_⟩
  obtain ⟨l, h⟩ := h
  match ds, l with
  | [d], _ => exact fin_end rfl h
theorem ok_check_number {fl : Addr} (F : Fun K "check_number" "check_number" (top 22) f fd) (b : Binds K fd ["value"] []) (m_is_number : mg "is_number" = some (.ref fl)) (F_is_number : FnD P w K mg base (k + 3) fl (spO 1 (pur numR))) {C : Addr} (q_BadNumber : PySem.W.excIn K C [.type "ValueError", .type "Exception", .type "BaseException", .type "object"] "ValueError.__new__" = true) (m_BadNumber : mg "BadNumber" = some (.ref C)) (k_BadNumber : PySem.W.keepIn K (.ref C) = true) (r_BadNumber : ∀ X : L2.Cx, X.K = K → Raises X (.ref C)) :
    FnD P w K mg base (k + 4) f (spO 1 (pur (checkR C numR))) := by
  refine fnD_ok F b scCheckNumber spO_mono spO_len fun X cdv A outer s H E wx eX hr tk po => ?_
  subst eX
  have sc := @scCheckNumber
  refine ⟨_, (dss_one (ds_if (ft_w (fun c _ S => dnX wx c S) (ft_not (ft_val (fe_call F_is_number hr (by rfl) m_is_number tk (fa_cons (fv 0) fa_nil))))) (dss_one (ds_raise rfl tk q_BadNumber m_BadNumber k_BadNumber (r_BadNumber _ rfl) (by rfl))) dss_nil)), fun ds S Q h => ?_⟩
  obtain ⟨l, h⟩ := h
  match ds, l with
  | [d], _ =>
    clear F b hr tk po
    have h : fin (PR.out (match numR [d] with | .ok (.bl true) => .ok .non | .ok (.bl false) => .er (.ref C, none) | _ => .no) S) wx Q := h
    cases e : numR [d] with
    | ok r =>
      rw [e] at h
      cases r with
      | bl t =>
        cases t
        · simp [sSeq, sIf, sRet, sRetN, sAsg, gN, sNext, sDrop, sPutP, setD, optP_some, optP_none, upF, upB, upAs, fin_ok, fin_er, fin_no, bnd_ok, bnd_er, bnd_no, opt_some, opt_none, fVar, fC, fBin, tst, DL.tTup, fAnd, fOr, fNot, fAndV, fOrV, fNotV, fIf, fNeg, fNil, fCons, fTup, fLst, fCB, fBM, fIsi, fCall, fChain, gInt, fOrd, gLen, lenD, tyD, startD, isTy, noE_ok, DL.fSub, DL.gSub, lookD, gIx, seqA, seqL, L2.atI, L2.ixN, pur, e, PR.out, sRaise]
          exact ⟨S, Less.refl, h⟩
        · simp [sSeq, sIf, sRet, sRetN, sAsg, gN, sNext, sDrop, sPutP, setD, optP_some, optP_none, upF, upB, upAs, fin_ok, fin_er, fin_no, bnd_ok, bnd_er, bnd_no, opt_some, opt_none, fVar, fC, fBin, tst, DL.tTup, fAnd, fOr, fNot, fAndV, fOrV, fNotV, fIf, fNeg, fNil, fCons, fTup, fLst, fCB, fBM, fIsi, fCall, fChain, gInt, fOrd, gLen, lenD, tyD, startD, isTy, noE_ok, DL.fSub, DL.gSub, lookD, gIx, seqA, seqL, L2.atI, L2.ixN, pur, e, PR.out, sRaise]
          exact ⟨S, Less.refl, h⟩
      | _ => exact h.elim
    | er c => rw [e] at h; exact h.elim
    | no => rw [e] at h; exact h.elim
theorem ok_wname (F : Fun K "written_name" "written_name" (top 27) f fd) (b : Binds K fd ["name"] []) : FnD P w K mg base (k + 1) f (spO 1 (pur wnameR)) := by
  refine fnD_ok F b scWName spO_mono spO_len fun X cdv A outer s H E wx eX hr tk po => ?_
  subst eX
  have sc := @scWName
  refine ⟨_, (dss_one (ds_ret (fe_w (fun c _ S => dnX wx c S) (fe_if (ft_tup (fv 0)) (fe_bm PySem.F.plainAttrs_str PySem.F.slot_str_join PySem.F.type_str_join dmt_join fe_str (fa_cons (fv 0) fa_nil)) fe_str)))), fun ds S Q h => ?_⟩
  obtain ⟨l, h⟩ := h
  match ds, l with
  | [d], _ =>
    clear F b hr tk po
    cases d with
    | tup xs =>
      refine fin_end ?_ h
      have e0 : pur wnameR [D.tup xs] S = (match strsD xs with | some ys => if (ys.map (·.length)).sum + ys.length ≤ 16777216 then .ok (.str (wname ys)) else .no | none => .no : PR D).out S := rfl
      cases xs with
      | nil => rfl
      | cons x r =>
        rw [e0]
        have e1 : (".".length : Nat) = 1 := rfl
        have e2 : (Str.ofString ".").length = 1 := by decide
        cases es : strsD (x :: r) with
        | none => simp [sSeq, sIf, sRet, sRetN, sAsg, gN, sNext, sDrop, sPutP, setD, optP_some, optP_none, upF, upB, upAs, fin_ok, fin_er, fin_no, bnd_ok, bnd_er, bnd_no, opt_some, opt_none, fVar, fC, fBin, tst, DL.tTup, fAnd, fOr, fNot, fAndV, fOrV, fNotV, fIf, fNeg, fNil, fCons, fTup, fLst, fCB, fBM, fIsi, fCall, fChain, gInt, fOrd, gLen, lenD, tyD, startD, isTy, noE_ok, DL.fSub, DL.gSub, lookD, gIx, seqA, seqL, L2.atI, L2.ixN, tyM, fJoin, itemsD, es, PR.out]
        | some ys =>
          have hne : ys ≠ [] := by
            intro z
            subst z
            cases x <;> simp [strsD] at es
          by_cases c : (ys.map (·.length)).sum + ys.length ≤ 16777216
          · simp [sSeq, sIf, sRet, sRetN, sAsg, gN, sNext, sDrop, sPutP, setD, optP_some, optP_none, upF, upB, upAs, fin_ok, fin_er, fin_no, bnd_ok, bnd_er, bnd_no, opt_some, opt_none, fVar, fC, fBin, tst, DL.tTup, fAnd, fOr, fNot, fAndV, fOrV, fNotV, fIf, fNeg, fNil, fCons, fTup, fLst, fCB, fBM, fIsi, fCall, fChain, gInt, fOrd, gLen, lenD, tyD, startD, isTy, noE_ok, DL.fSub, DL.gSub, lookD, gIx, seqA, seqL, L2.atI, L2.ixN, tyM, fJoin, itemsD, es, PR.out, c, e2, wname, hne]
          · simp [sSeq, sIf, sRet, sRetN, sAsg, gN, sNext, sDrop, sPutP, setD, optP_some, optP_none, upF, upB, upAs, fin_ok, fin_er, fin_no, bnd_ok, bnd_er, bnd_no, opt_some, opt_none, fVar, fC, fBin, tst, DL.tTup, fAnd, fOr, fNot, fAndV, fOrV, fNotV, fIf, fNeg, fNil, fCons, fTup, fLst, fCB, fBM, fIsi, fCall, fChain, gInt, fOrd, gLen, lenD, tyD, startD, isTy, noE_ok, DL.fSub, DL.gSub, lookD, gIx, seqA, seqL, L2.atI, L2.ixN, tyM, fJoin, itemsD, es, PR.out, c, e2]
    | _ => exact h.elim
theorem ok_rname (F : Fun K "read_name" "read_name" (top 30) f fd) (b : Binds K fd ["word"] []) (b_tuple : mg "tuple" = none) : FnD P w K mg base (k + 1) f (spO 1 (pur rnameR)) := by
  refine fnD_ok F b scRName spO_mono spO_len fun X cdv A outer s H E wx eX hr tk po => ?_
  have hu : X.A.units + 64 < cLine := by have := hr.un; omega
  subst eX
  have sc := @scRName
  refine ⟨_, (dss_one (ds_ret (fe_w (fun c _ S => dnX wx c S) (fe_if (ft_cmp (fop_eq hu) (fv 0) fe_str (by with_unfolding_all rfl)) (fe_tup fa_nil) (fe_callTy fcall_tuple (by rfl) b_tuple (by rfl) (fa_cons (fe_bmL PySem.F.plainAttrs_str PySem.F.slot_str_split PySem.F.type_str_split dmt_split (fv 0) (fa_cons fe_str fa_nil)) fa_nil)))))), fun ds S Q h => ?_⟩
  obtain ⟨l, h⟩ := h
  match ds, l with
  | [d], _ =>
    clear F b hr tk po
    cases d with
    | str z =>
      refine fin_end ?_ h
      have e0 : pur rnameR [D.str z] S = (if z = "." then .ok (.tup []) else if z.length + 2 ≤ sizeLine then .ok (.tup ((Txt.split z ".").map .str)) else .no : PR D).out S := rfl
      rw [e0]
      have e2 : (Str.ofString ".").length = 1 := by decide
      by_cases c : z = Str.ofString "."
      · simp [sSeq, sIf, sRet, sRetN, sAsg, gN, sNext, sDrop, sPutP, setD, optP_some, optP_none, upF, upB, upAs, fin_ok, fin_er, fin_no, bnd_ok, bnd_er, bnd_no, opt_some, opt_none, fVar, fC, fBin, tst, DL.tTup, fAnd, fOr, fNot, fAndV, fOrV, fNotV, fIf, fNeg, fNil, fCons, fTup, fLst, fCB, fBM, fIsi, fCall, fChain, gInt, fOrd, gLen, lenD, tyD, startD, isTy, noE_ok, DL.fSub, DL.gSub, lookD, gIx, seqA, seqL, L2.atI, L2.ixN, gEq, c, PR.out]
      · by_cases c2 : z.length + 2 ≤ sizeLine
        · simp [sSeq, sIf, sRet, sRetN, sAsg, gN, sNext, sDrop, sPutP, setD, optP_some, optP_none, upF, upB, upAs, fin_ok, fin_er, fin_no, bnd_ok, bnd_er, bnd_no, opt_some, opt_none, fVar, fC, fBin, tst, DL.tTup, fAnd, fOr, fNot, fAndV, fOrV, fNotV, fIf, fNeg, fNil, fCons, fTup, fLst, fCB, fBM, fIsi, fCall, fChain, gInt, fOrd, gLen, lenD, tyD, startD, isTy, noE_ok, DL.fSub, DL.gSub, lookD, gIx, seqA, seqL, L2.atI, L2.ixN, gEq, c, c2, PR.out, tyM, lisO, fSplit, e2, gTuple, itemsD]
        · simp [sSeq, sIf, sRet, sRetN, sAsg, gN, sNext, sDrop, sPutP, setD, optP_some, optP_none, upF, upB, upAs, fin_ok, fin_er, fin_no, bnd_ok, bnd_er, bnd_no, opt_some, opt_none, fVar, fC, fBin, tst, DL.tTup, fAnd, fOr, fNot, fAndV, fOrV, fNotV, fIf, fNeg, fNil, fCons, fTup, fLst, fCB, fBM, fIsi, fCall, fChain, gInt, fOrd, gLen, lenD, tyD, startD, isTy, noE_ok, DL.fSub, DL.gSub, lookD, gIx, seqA, seqL, L2.atI, L2.ixN, gEq, c, c2, PR.out, tyM, lisO, fSplit, e2]
    | _ => exact h.elim
end
end Hb
set_option maxRecDepth 100000
set_option maxHeartbeats 1000000
namespace Hb
open PySem L2 DL
theorem scRow : FnScope ["at", "row", "words", "name", "number"] ["at", "row"] (defScope (top 29)) := ⟨rfl, rfl, rfl, by decide +kernel, rfl, by decide +kernel, by decide +kernel⟩
theorem scRead : FnScope ["text", "at", "row"] ["text"] (defScope (top 28)) := ⟨rfl, rfl, rfl, by decide +kernel, rfl, by decide +kernel, by decide +kernel⟩
theorem scWritten : FnScope ["entries", "rows", "name", "number"] ["entries"] (defScope (top 26)) := ⟨rfl, rfl, rfl, by decide +kernel, rfl, by decide +kernel, by decide +kernel⟩
def rowR (C : Addr) (ds : List D) : PR D := match ds with
  | [.int at', .str row] => if row.length + 2 ≤ sizeLine ∧ at'.natAbs.log2 < 1000 then (match Txt.split row " " with
    | [a, b] => match rnameR [.str a], rnumR [.str b] with
      | .ok nm, .ok nu => match nameR [nm] with
        | .ok (.bl true) => match numR [nu] with
          | .ok (.bl true) => .ok (.tup [nm, nu])
          | .ok (.bl false) => .er (.ref C, some [("row", .int at')])
          | _ => .no
        | .ok (.bl false) => .er (.ref C, some [("row", .int at')])
        | _ => .no
      | _, _ => .no
    | _ => .er (.ref C, some [("row", .int at')])) else .no
  | _ => .no
section
variable {P : Program} {w : World} {K : PySem.W.Frag} {mg : Str → Option Value} {base : Heap} {k : Nat} {f : Addr} {fd : FuncData}
theorem ok_rnum (F : Fun K "read_number" "read_number" (top 31) f fd) (b : Binds K fd ["word"] []) (b_int : mg "int" = none) (b_str : mg "str" = none) (b_len : mg "len" = none) (b_all : mg "all" = none) {t1 t2 : Tok} (m_MOST_FIGURES : mg "MOST_FIGURES" = some (.int 3 t1)) (m_FIGURES : mg "FIGURES" = some (.str FIG t2)) : FnD P w K mg base (k + 1) f (spO 1 (pur rnumR)) := by
  refine fnD_ok F b scRNum spO_mono spO_len fun X cdv A outer s H E wx eX hr tk po => ?_
  have hu : X.A.units + 64 < cLine := by have := hr.un; omega
  have hu65 : X.A.units + 65 < cLine := by have := hr.un; omega
  subst eX
  have sc := @scRNum
  refine ⟨_, (dss_cons (ds_if (ft_w (fun c _ S => dnX wx c S) (fw_or (ft_not (ft_chain dop_leA dop_leA fe_int (fe_callB fcall_len (by rfl) b_len (by rfl) (fa_cons (fv 0) fa_nil)) (fe_c (de_globI (by rfl) m_MOST_FIGURES)))) (fw_or1 (ft_not (ft_val (fe_callB (fcall_all rfl) (by rfl) b_all (by rfl) (fa_cons (fe_lc rfl sc.nd (fi_any (fv 0)) (own := [("sign", 1)]) (blk_ok (N := ["word", "sign"]) (sc := (defScope (top 31))) (by rfl) (by decide +kernel)) (by decide +kernel) (fun _ _ _ _ _ => (pp_name (i := 1) sc.nd rfl (by first | exact .inl rfl | exact .inr rfl))) (fun _ _ _ _ _ => fts_nil) (fun _ _ _ _ _ => (fe_cmp (fop_in hu65) (fv 1) (fe_c (de_globS (by rfl) m_FIGURES)) (by with_unfolding_all rfl))) frF_yes (frF_bin mg_in frF_var frF_c)) fa_nil)))))).dt) (dss_one (ds_ret (fe_w (fun c _ S => dnX wx c S) fe_non))) dss_nil)
      (dss_one (ds_ret (fe_w (fun c _ S => dnX wx c S) (fe_if (ft_cmp (fop_eq hu) (fv 0) (fe_callTy dcall_str (by rfl) b_str (by rfl) (fa_cons (fe_callTy fcall_int (by rfl) b_int (by rfl) (fa_cons (fv 0) fa_nil)) fa_nil)) (by with_unfolding_all rfl)) (fe_callTy fcall_int (by rfl) b_int (by rfl) (fa_cons (fv 0) fa_nil)) fe_non))))), fun ds S Q h => ?_⟩
  obtain ⟨l, h⟩ := h
  match ds, l with
  | [d], _ =>
    clear F b hr tk po
    cases d with
    | str z =>
      have h : fin ((if z.length ≤ sizeLine then (if figB z = true then (match PySem.intText? z with
        | some n => if n.natAbs.log2 < 1920 then .ok (if z = toString n then .int n else .non) else .no
        | none => .no) else .ok .non) else .no : PR D).out S) wx Q := h
      by_cases hz : z.length ≤ sizeLine
      · rw [if_pos hz] at h
        have ec := fLc_in (δ := startD ["word", "sign"] [D.str z]) (S := S) (z := z) (T := FIG) (i := 0) (j := 1) rfl (by simp [startD]) hz
        rw [show startD ["word", "sign"] [D.str z] = [some (.str z), none] from rfl] at ec
        by_cases c1 : (1 : Int) ≤ (z.length : Int)
        · by_cases c2 : (z.length : Int) ≤ 3
          · have e3 : figB z = z.cps.all fun c => decide (c ∈ FIG.cps) := by
              unfold figB
              rw [decide_eq_true (by omega), decide_eq_true (by omega), Bool.true_and, Bool.true_and]
              simp
            have hz6 : z.length ≤ 640 := by omega
            cases ea : (z.cps.all fun c => decide (c ∈ FIG.cps)) with
            | false =>
              rw [e3, ea] at h
              simp [sSeq, sIf, sRet, sRetN, sAsg, gN, sNext, sDrop, sPutP, setD, optP_some, optP_none, upF, upB, upAs, fin_ok, fin_er, fin_no, bnd_ok, bnd_er, bnd_no, opt_some, opt_none, fVar, fC, fBin, tst, DL.tTup, fAnd, fOr, fNot, fAndV, fOrV, fNotV, fIf, fNeg, fNil, fCons, fTup, fLst, fCB, fBM, fIsi, fCall, fChain, gInt, fOrd, gLen, lenD, tyD, startD, isTy, noE_ok, DL.fSub, DL.gSub, lookD, gIx, seqA, seqL, L2.atI, L2.ixN, hz, c1, c2, ec, gAll_bl, ea]
              exact ⟨S, Less.refl, h⟩
            | true =>
              rw [e3, ea, if_pos rfl] at h
              cases ei : PySem.intText? z with
              | none => rw [ei] at h; exact h.elim
              | some n =>
                rw [ei] at h
                have h : fin ((if n.natAbs.log2 < 1920 then .ok (if z = toString n then .int n else .non) else .no : PR D).out S) wx Q := h
                by_cases hn : n.natAbs.log2 < 1920
                · rw [if_pos hn] at h
                  have h9 : Q (if z = toString n then .int n else .non) S := h
                  by_cases hq : z = toString n
                  · rw [if_pos hq] at h9
                    have hq2 : z = Str.ofString n.repr := by simpa using hq
                    subst hq2
                    simp [sSeq, sIf, sRet, sRetN, sAsg, gN, sNext, sDrop, sPutP, setD, optP_some, optP_none, upF, upB, upAs, fin_ok, fin_er, fin_no, bnd_ok, bnd_er, bnd_no, opt_some, opt_none, fVar, fC, fBin, tst, DL.tTup, fAnd, fOr, fNot, fAndV, fOrV, fNotV, fIf, fNeg, fNil, fCons, fTup, fLst, fCB, fBM, fIsi, fCall, fChain, gInt, fOrd, gLen, lenD, tyD, startD, isTy, noE_ok, DL.fSub, DL.gSub, lookD, gIx, seqA, seqL, L2.atI, L2.ixN, hz, c1, c2, ec, gAll_bl, ea, gIntS, hz6, ei, fStr, hn, gEq]
                    exact ⟨S, Less.refl, h9⟩
                  · rw [if_neg hq] at h9
                    have hq2 : ¬ z = Str.ofString n.repr := by simpa using hq
                    simp [sSeq, sIf, sRet, sRetN, sAsg, gN, sNext, sDrop, sPutP, setD, optP_some, optP_none, upF, upB, upAs, fin_ok, fin_er, fin_no, bnd_ok, bnd_er, bnd_no, opt_some, opt_none, fVar, fC, fBin, tst, DL.tTup, fAnd, fOr, fNot, fAndV, fOrV, fNotV, fIf, fNeg, fNil, fCons, fTup, fLst, fCB, fBM, fIsi, fCall, fChain, gInt, fOrd, gLen, lenD, tyD, startD, isTy, noE_ok, DL.fSub, DL.gSub, lookD, gIx, seqA, seqL, L2.atI, L2.ixN, hz, c1, c2, ec, gAll_bl, ea, gIntS, hz6, ei, fStr, hn, gEq, hq2]
                    exact ⟨S, Less.refl, h9⟩
                · rw [if_neg hn] at h
                  exact h.elim
          · have e3 : figB z = false := by
              unfold figB
              rw [decide_eq_false (by omega : ¬ z.length ≤ 3)]
              simp
            rw [e3] at h
            simp [sSeq, sIf, sRet, sRetN, sAsg, gN, sNext, sDrop, sPutP, setD, optP_some, optP_none, upF, upB, upAs, fin_ok, fin_er, fin_no, bnd_ok, bnd_er, bnd_no, opt_some, opt_none, fVar, fC, fBin, tst, DL.tTup, fAnd, fOr, fNot, fAndV, fOrV, fNotV, fIf, fNeg, fNil, fCons, fTup, fLst, fCB, fBM, fIsi, fCall, fChain, gInt, fOrd, gLen, lenD, tyD, startD, isTy, noE_ok, DL.fSub, DL.gSub, lookD, gIx, seqA, seqL, L2.atI, L2.ixN, hz, c1, c2]
            exact ⟨S, Less.refl, h⟩
        · have e3 : figB z = false := by
            unfold figB
            rw [decide_eq_false (by omega : ¬ 1 ≤ z.length)]
            simp
          rw [e3] at h
          simp [sSeq, sIf, sRet, sRetN, sAsg, gN, sNext, sDrop, sPutP, setD, optP_some, optP_none, upF, upB, upAs, fin_ok, fin_er, fin_no, bnd_ok, bnd_er, bnd_no, opt_some, opt_none, fVar, fC, fBin, tst, DL.tTup, fAnd, fOr, fNot, fAndV, fOrV, fNotV, fIf, fNeg, fNil, fCons, fTup, fLst, fCB, fBM, fIsi, fCall, fChain, gInt, fOrd, gLen, lenD, tyD, startD, isTy, noE_ok, DL.fSub, DL.gSub, lookD, gIx, seqA, seqL, L2.atI, L2.ixN, hz, c1]
          exact ⟨S, Less.refl, h⟩
      · rw [if_neg hz] at h
        exact h.elim
    | _ => exact h.elim
theorem ok_row {fn fm fa fb : Addr} (F : Fun K "read_row" "read_row" (top 29) f fd) (b : Binds K fd ["at", "row"] []) (b_len : mg "len" = none) (m_read_name : mg "read_name" = some (.ref fn)) (F_read_name : FnD P w K mg base (k + 4) fn (spO 1 (pur rnameR))) (m_read_number : mg "read_number" = some (.ref fm)) (F_read_number : FnD P w K mg base (k + 4) fm (spO 1 (pur rnumR)))
    (m_is_name : mg "is_name" = some (.ref fa)) (F_is_name : FnD P w K mg base (k + 4) fa (spO 1 (pur nameR))) (m_is_number : mg "is_number" = some (.ref fb)) (F_is_number : FnD P w K mg base (k + 4) fb (spO 1 (pur numR))) {C : Addr} (E_BadText : Era P w K mg base (k + 3) C "row") (m_BadText : mg "BadText" = some (.ref C)) :
    FnD P w K mg base (k + 5) f (spO 2 (pur (rowR C))) := by
  refine fnD_ok F b scRow spO_mono spO_len fun X cdv A outer s H E wx eX hr tk po => ?_
  have hu : X.A.units + 64 < cLine := by have := hr.un; omega
  have hu65 : X.A.units + 65 < cLine := by have := hr.un; omega
  subst eX
  have sc := @scRow
  refine ⟨_, (dss_cons (ds_set (i := 2) sc.nd rfl (by first | exact .inl rfl | exact .inr rfl) (fe_w (fun c _ S => dnX wx c S) (fe_bmL PySem.F.plainAttrs_str PySem.F.slot_str_split PySem.F.type_str_split dmt_split (fv 1) (fa_cons fe_str fa_nil))))
      (dss_cons (ds_if (ft_w (fun c _ S => dnX wx c S) (ft_cmp (fop_ne hu) (fe_callB fcall_len (by rfl) b_len (by rfl) (fa_cons (fv 2) fa_nil)) fe_int (by with_unfolding_all rfl))) (dss_one (ds_raiseA rfl tk E_BadText hr (by rfl) m_BadText (fa_w (fun c _ S => dnX wx c S) (fa_cons (fv 0) fa_nil)))) dss_nil)
      (dss_cons (ds_set (i := 3) sc.nd rfl (by first | exact .inl rfl | exact .inr rfl) (fe_w (fun c _ S => dnX wx c S) (fe_call F_read_name hr (by rfl) m_read_name tk (fa_cons (fe_sub hu (fv 2) fe_int) fa_nil))))
      (dss_cons (ds_set (i := 4) sc.nd rfl (by first | exact .inl rfl | exact .inr rfl) (fe_w (fun c _ S => dnX wx c S) (fe_call F_read_number hr (by rfl) m_read_number tk (fa_cons (fe_sub hu (fv 2) fe_int) fa_nil))))
      (dss_cons (ds_if (ft_w (fun c _ S => dnX wx c S) (fw_or (ft_not (ft_val (fe_call F_is_name hr (by rfl) m_is_name tk (fa_cons (fv 3) fa_nil)))) (fw_or1 (ft_not (ft_val (fe_call F_is_number hr (by rfl) m_is_number tk (fa_cons (fv 4) fa_nil)))))).dt) (dss_one (ds_raiseA rfl tk E_BadText hr (by rfl) m_BadText (fa_w (fun c _ S => dnX wx c S) (fa_cons (fv 0) fa_nil)))) dss_nil)
      (dss_one (ds_ret (fe_w (fun c _ S => dnX wx c S) (fe_tup (fa_cons (fv 3) (fa_cons (fv 4) fa_nil))))))))))), fun ds S Q h => ?_⟩
  obtain ⟨l, h⟩ := h
  match ds, l with
  | [x, y], _ =>
    clear F b hr tk po
    cases x with
    | int a =>
      cases y with
      | str row =>
        have h : fin ((if row.length + 2 ≤ sizeLine ∧ a.natAbs.log2 < 1000 then (match Txt.split row " " with
          | [c, d] => match rnameR [.str c], rnumR [.str d] with
            | .ok nm, .ok nu => match nameR [nm] with
              | .ok (.bl true) => match numR [nu] with
                | .ok (.bl true) => .ok (.tup [nm, nu])
                | .ok (.bl false) => .er (.ref C, some [("row", .int a)])
                | _ => .no
              | .ok (.bl false) => .er (.ref C, some [("row", .int a)])
              | _ => .no
            | _, _ => .no
          | _ => .er (.ref C, some [("row", .int a)])) else .no : PR D).out S) wx Q := h
        by_cases hz : row.length + 2 ≤ sizeLine ∧ a.natAbs.log2 < 1000
        · rw [if_pos hz] at h
          obtain ⟨hz1, hz2⟩ := hz
          have e2 : (Str.ofString " ").length = 1 := by decide
          have big : (2 : Nat) ≤ sizeLine := by decide
          cases es : Txt.split row (Str.ofString " ") with
          | nil =>
            rw [es] at h
            simp [sSeq, sIf, sRet, sRetN, sAsg, gN, sNext, sDrop, sPutP, setD, optP_some, optP_none, upF, upB, upAs, fin_ok, fin_er, fin_no, bnd_ok, bnd_er, bnd_no, opt_some, opt_none, fVar, fC, fBin, tst, DL.tTup, fAnd, fOr, fNot, fAndV, fOrV, fNotV, fIf, fNeg, fNil, fCons, fTup, fLst, fCB, fBM, fIsi, fCall, fChain, gInt, fOrd, gLen, lenD, tyD, startD, isTy, noE_ok, DL.fSub, DL.gSub, lookD, gIx, seqA, seqL, L2.atI, L2.ixN, tyM, lisO, fSplit, e2, hz1, es, gEq, sRaiseA, hz2]
            intro dd hd
            exact ⟨_, Less.refl, h dd hd⟩
          | cons c r =>
            cases r with
            | nil =>
              rw [es] at h
              simp [sSeq, sIf, sRet, sRetN, sAsg, gN, sNext, sDrop, sPutP, setD, optP_some, optP_none, upF, upB, upAs, fin_ok, fin_er, fin_no, bnd_ok, bnd_er, bnd_no, opt_some, opt_none, fVar, fC, fBin, tst, DL.tTup, fAnd, fOr, fNot, fAndV, fOrV, fNotV, fIf, fNeg, fNil, fCons, fTup, fLst, fCB, fBM, fIsi, fCall, fChain, gInt, fOrd, gLen, lenD, tyD, startD, isTy, noE_ok, DL.fSub, DL.gSub, lookD, gIx, seqA, seqL, L2.atI, L2.ixN, tyM, lisO, fSplit, e2, hz1, es, gEq, sRaiseA, hz2]
              intro dd hd
              exact ⟨_, Less.refl, h dd hd⟩
            | cons d r2 =>
              cases r2 with
              | cons d3 r3 =>
                rw [es] at h
                have ne : ¬ ((r3.length : Int) + 1 + 1 + 1 = 2) := by omega
                simp [sSeq, sIf, sRet, sRetN, sAsg, gN, sNext, sDrop, sPutP, setD, optP_some, optP_none, upF, upB, upAs, fin_ok, fin_er, fin_no, bnd_ok, bnd_er, bnd_no, opt_some, opt_none, fVar, fC, fBin, tst, DL.tTup, fAnd, fOr, fNot, fAndV, fOrV, fNotV, fIf, fNeg, fNil, fCons, fTup, fLst, fCB, fBM, fIsi, fCall, fChain, gInt, fOrd, gLen, lenD, tyD, startD, isTy, noE_ok, DL.fSub, DL.gSub, lookD, gIx, seqA, seqL, L2.atI, L2.ixN, tyM, lisO, fSplit, e2, hz1, es, gEq, sRaiseA, hz2, ne]
                intro dd hd
                exact ⟨_, Less.refl, h dd hd⟩
              | nil =>
                rw [es] at h
                have h : fin (PR.out (match rnameR [.str c], rnumR [.str d] with
                  | .ok nm, .ok nu => match nameR [nm] with
                    | .ok (.bl true) => match numR [nu] with
                      | .ok (.bl true) => .ok (.tup [nm, nu])
                      | .ok (.bl false) => .er (.ref C, some [("row", .int a)])
                      | _ => .no
                    | .ok (.bl false) => .er (.ref C, some [("row", .int a)])
                    | _ => .no
                  | _, _ => .no) S) wx Q := h
                cases en : rnameR [.str c] with
                | no => rw [en] at h; exact h.elim
                | er _ => rw [en] at h; exact h.elim
                | ok nm =>
                  cases eu : rnumR [.str d] with
                  | no => rw [en, eu] at h; exact h.elim
                  | er _ => rw [en, eu] at h; exact h.elim
                  | ok nu =>
                    rw [en, eu] at h
                    have h : fin (PR.out (match nameR [nm] with
                      | .ok (.bl true) => match numR [nu] with
                        | .ok (.bl true) => .ok (.tup [nm, nu])
                        | .ok (.bl false) => .er (.ref C, some [("row", .int a)])
                        | _ => .no
                      | .ok (.bl false) => .er (.ref C, some [("row", .int a)])
                      | _ => .no) S) wx Q := h
                    cases ea : nameR [nm] with
                    | no => rw [ea] at h; exact h.elim
                    | er _ => rw [ea] at h; exact h.elim
                    | ok ra =>
                      rw [ea] at h
                      cases ra with
                      | bl ba =>
                        cases ba with
                        | false =>
                          have h : ∀ dd, S dd = none → wx (.ref C, some dd) (sup S dd (.xd [("row", .int a)])) := h
                          simp [sSeq, sIf, sRet, sRetN, sAsg, gN, sNext, sDrop, sPutP, setD, optP_some, optP_none, upF, upB, upAs, fin_ok, fin_er, fin_no, bnd_ok, bnd_er, bnd_no, opt_some, opt_none, fVar, fC, fBin, tst, DL.tTup, fAnd, fOr, fNot, fAndV, fOrV, fNotV, fIf, fNeg, fNil, fCons, fTup, fLst, fCB, fBM, fIsi, fCall, fChain, gInt, fOrd, gLen, lenD, tyD, startD, isTy, noE_ok, DL.fSub, DL.gSub, lookD, gIx, seqA, seqL, L2.atI, L2.ixN, tyM, lisO, fSplit, e2, hz1, es, gEq, sRaiseA, hz2, pur, en, eu, ea, PR.out]
                          intro dd hd
                          exact ⟨_, Less.refl, h dd hd⟩
                        | true =>
                          cases eb : numR [nu] with
                          | no => rw [eb] at h; exact h.elim
                          | er _ => rw [eb] at h; exact h.elim
                          | ok rb =>
                            rw [eb] at h
                            cases rb with
                            | bl bb =>
                              cases bb with
                              | false =>
                                have h : ∀ dd, S dd = none → wx (.ref C, some dd) (sup S dd (.xd [("row", .int a)])) := h
                                simp [sSeq, sIf, sRet, sRetN, sAsg, gN, sNext, sDrop, sPutP, setD, optP_some, optP_none, upF, upB, upAs, fin_ok, fin_er, fin_no, bnd_ok, bnd_er, bnd_no, opt_some, opt_none, fVar, fC, fBin, tst, DL.tTup, fAnd, fOr, fNot, fAndV, fOrV, fNotV, fIf, fNeg, fNil, fCons, fTup, fLst, fCB, fBM, fIsi, fCall, fChain, gInt, fOrd, gLen, lenD, tyD, startD, isTy, noE_ok, DL.fSub, DL.gSub, lookD, gIx, seqA, seqL, L2.atI, L2.ixN, tyM, lisO, fSplit, e2, hz1, es, gEq, sRaiseA, hz2, pur, en, eu, ea, eb, PR.out]
                                intro dd hd
                                exact ⟨_, Less.refl, h dd hd⟩
                              | true =>
                                have h : Q (.tup [nm, nu]) S := h
                                simp [sSeq, sIf, sRet, sRetN, sAsg, gN, sNext, sDrop, sPutP, setD, optP_some, optP_none, upF, upB, upAs, fin_ok, fin_er, fin_no, bnd_ok, bnd_er, bnd_no, opt_some, opt_none, fVar, fC, fBin, tst, DL.tTup, fAnd, fOr, fNot, fAndV, fOrV, fNotV, fIf, fNeg, fNil, fCons, fTup, fLst, fCB, fBM, fIsi, fCall, fChain, gInt, fOrd, gLen, lenD, tyD, startD, isTy, noE_ok, DL.fSub, DL.gSub, lookD, gIx, seqA, seqL, L2.atI, L2.ixN, tyM, lisO, fSplit, e2, hz1, es, gEq, sRaiseA, hz2, pur, en, eu, ea, eb, PR.out, big]
                                exact ⟨S, Less.refl, h⟩
                            | _ => exact h.elim
                      | _ => exact h.elim
        · rw [if_neg hz] at h
          exact h.elim
      | _ => exact h.elim
    | _ => exact h.elim
end
end Hb
set_option maxRecDepth 100000
set_option maxHeartbeats 1000000
namespace Hb
open PySem L2 DL
def rowsD (z : Str) : List D := ((Txt.split z "\n").map D.str).mapIdx fun i d => .tup [.int (i : Nat), d]
def rowF (C : Addr) : D → PR D := fun x => match x with
  | .tup [a, r] => rowR C [a, r]
  | _ => .no
def readR (C : Addr) (z : Str) : PR (List D) := if z = "" then .ok [] else seqR (rowF C) (rowsD z)
def spRead (C : Addr) : DSp := fun ds S Q E => ds.length = 1 ∧ match ds with
  | [.str z] => z.length + 2 ≤ sizeLine ∧ (Txt.split z "\n").length ≤ sizeLine ∧ fin ((readR C z).out S) E fun xs S2 => ∀ p, S2 p = none → Q (.ref p) (sup S2 p (.lst xs))
  | _ => False
theorem spRead_mono {C : Addr} : MonoSp (spRead C) := fun ds S Q Q' E E' h h' ⟨l, q⟩ => ⟨l, by
  match ds, l with
  | [d], _ =>
    cases d with
    | str z => exact ⟨q.1, q.2.1, fin_mono h' (fun xs S2 k p n => h _ _ (k p n)) q.2.2⟩
    | _ => exact q.elim⟩
theorem spRead_len {C : Addr} : ∀ ds S Q E, spRead C ds S Q E → ds.length = 1 := fun _ _ _ _ h => h.1
theorem xfin_dn {c : XD} {S : Sto} {wx : DX} (h : xfin c S wx) : xfin c S fun c S' => dnX wx c S' := xfin_mono (fun c S z => ⟨S, Less.refl, z⟩) h
section
variable {P : Program} {w : World} {K : PySem.W.Frag} {mg : Str → Option Value} {base : Heap} {k : Nat} {f : Addr} {fd : FuncData}
theorem ok_read {fr : Addr} (F : Fun K "read" "read" (top 28) f fd) (b : Binds K fd ["text"] []) (b_enumerate : mg "enumerate" = none) {C : Addr} (m_read_row : mg "read_row" = some (.ref fr)) (F_read_row : FnD P w K mg base (k + 5) fr (spO 2 (pur (rowR C)))) : FnD P w K mg base (k + 6) f (spRead C) := by
  refine fnD_ok F b scRead spRead_mono spRead_len fun X cdv A outer s H E wx eX hr tk po => ?_
  have hu : X.A.units + 64 < cLine := by have := hr.un; omega
  have hu65 : X.A.units + 65 < cLine := by have := hr.un; omega
  subst eX
  have sc := @scRead
  have G_read_row := @frG_pur (rowR C)
  have X_read_row := @frGX_pur (rowR C)
  refine ⟨_, (dss_cons (ds_if (ft_w (fun c _ S => dnX wx c S) (ft_cmp (fop_eq hu) (fv 0) fe_str (by with_unfolding_all rfl))) (dss_one (ds_ret (de_lst (fa_w (fun c _ S => dnX wx c S) fa_nil)))) dss_nil)
      (dss_one (ds_ret (de_lcr rfl rfl tk rfl sc.nd (fi_enum (by rfl) b_enumerate (fa_cons (fe_bmL PySem.F.plainAttrs_str PySem.F.slot_str_split PySem.F.type_str_split dmt_split (fv 0) (fa_cons fe_str fa_nil)) fa_nil) (fun h => pi_enum (by rfl) b_enumerate h)) (own := [("at", 1), ("row", 2)]) (blk_ok (N := ["text", "at", "row"]) (sc := (defScope (top 28))) (by rfl) (by decide +kernel)) (by decide +kernel) (fun _ _ _ _ _ => (pp_tup rfl (pp_cons (pp_name (i := 1) sc.nd rfl (by first | exact .inl rfl | exact .inr rfl)) (pp_cons (pp_name (i := 2) sc.nd rfl (by first | exact .inl rfl | exact .inr rfl)) pp_nil)))) (fun _ _ _ _ _ => fts_nil) (fun _ _ _ _ _ _ _ _ pw => (fe_callP F_read_row hr (by rfl) m_read_row pw (fa_cons (fv 1) (fa_cons (fv 2) fa_nil)))) frF_yes (frF_call G_read_row (frF_cons frF_var (frF_cons frF_var frF_nil))) (frX_call X_read_row (frF_cons frF_var (frF_cons frF_var frF_nil)) (noEr_cons noEr_var (noEr_cons noEr_var noEr_nil))))))), fun ds S Q h => ?_⟩
  obtain ⟨l, h⟩ := h
  match ds, l with
  | [d], _ =>
    clear F b hr tk po
    cases d with
    | str z =>
      obtain ⟨hz, hzl, h⟩ := h
      have e2 : (Str.ofString "\n").length = 1 := by decide
      by_cases c : z = Str.ofString ""
      · unfold readR at h
        rw [if_pos c] at h
        have h : ∀ p, S p = none → Q (.ref p) (sup S p (.lst [])) := h
        simp [sSeq, sIf, sRet, sRetN, sAsg, gN, sNext, sDrop, sPutP, setD, optP_some, optP_none, upF, upB, upAs, fin_ok, fin_er, fin_no, bnd_ok, bnd_er, bnd_no, opt_some, opt_none, fVar, fC, fBin, tst, DL.tTup, fAnd, fOr, fNot, fAndV, fOrV, fNotV, fIf, fNeg, fNil, fCons, fTup, fLst, fCB, fBM, fIsi, fCall, fChain, gInt, fOrd, gLen, lenD, tyD, startD, isTy, noE_ok, DL.fSub, DL.gSub, lookD, gIx, seqA, seqL, L2.atI, L2.ixN, gEq, c, dLst]
        exact fun p hp => ⟨_, Less.refl, h p hp⟩
      · unfold readR at h
        rw [if_neg c] at h
        have ei : fEnum (fCons (fBM "str" (fun x => lisO (fSplit x)) (fVar 0) (fCons (fC (.str "\n")) fNil)) fNil) [some (.str z), none, none] S = .ok (.of (rowsD z)) S := by
          simp [sSeq, sIf, sRet, sRetN, sAsg, gN, sNext, sDrop, sPutP, setD, optP_some, optP_none, upF, upB, upAs, fin_ok, fin_er, fin_no, bnd_ok, bnd_er, bnd_no, opt_some, opt_none, fVar, fC, fBin, tst, DL.tTup, fAnd, fOr, fNot, fAndV, fOrV, fNotV, fIf, fNeg, fNil, fCons, fTup, fLst, fCB, fBM, fIsi, fCall, fChain, gInt, fOrd, gLen, lenD, tyD, startD, isTy, noE_ok, DL.fSub, DL.gSub, lookD, gIx, seqA, seqL, L2.atI, L2.ixN, fEnum, tyM, lisO, fSplit, e2, hz, seqF, rowsD]
        have er : fLcr (fEnum (fCons (fBM "str" (fun x => lisO (fSplit x)) (fVar 0) (fCons (fC (.str "\n")) fNil)) fNil)) (.tp [.nm 1, .nm 2]) fYes (fCall 2 (pur (rowR C)) (fCons (fVar 1) (fCons (fVar 2) fNil))) [1, 2] [some (.str z), none, none] S = (seqR (rowF C) (rowsD z)).out S := by
          unfold fLcr
          rw [ei]
          show (if _ then _ else _) = _
          rw [if_pos (show (SrcF.of (rowsD z)).items.length ≤ sizeLine by show (rowsD z).length ≤ _; unfold rowsD; rw [List.length_mapIdx, List.length_map]; exact hzl)]
          refine compR_pure rfl _ fun x hx => ?_
          have hx : x ∈ rowsD z := hx
          obtain ⟨i, r, rfl⟩ : ∃ (i : Nat) (r : Str), x = .tup [.int i, .str r] := by
            unfold rowsD at hx
            obtain ⟨i, hi, e⟩ := List.mem_mapIdx.mp hx
            rw [List.getElem_map] at e
            exact ⟨i, _, e.symm⟩
          refine ⟨[some (.str z), some (.int i), some (.str r)], rfl, ?_⟩
          rfl
        simp [sSeq, sIf, sRet, sRetN, sAsg, gN, sNext, sDrop, sPutP, setD, optP_some, optP_none, upF, upB, upAs, fin_ok, fin_er, fin_no, bnd_ok, bnd_er, bnd_no, opt_some, opt_none, fVar, fC, fBin, tst, DL.tTup, fAnd, fOr, fNot, fAndV, fOrV, fNotV, fIf, fNeg, fNil, fCons, fTup, fLst, fCB, fBM, fIsi, fCall, fChain, gInt, fOrd, gLen, lenD, tyD, startD, isTy, noE_ok, DL.fSub, DL.gSub, lookD, gIx, seqA, seqL, L2.atI, L2.ixN, gEq, c, dLcr, er]
        cases e9 : seqR (rowF C) (rowsD z) with
        | ok xs =>
          rw [e9] at h
          exact fun p hp => ⟨_, Less.refl, h p hp⟩
        | er cc =>
          rw [e9] at h
          exact xfin_dn h
        | no => rw [e9] at h; exact h.elim
    | _ => exact h.elim
def line (s : Str) (n : Int) : Str := ((Str.empty ++ s) ++ Str.ofString " ") ++ toString n
def lineOk (s : Str) (n : Int) : Prop := s.length ≤ sizeLine ∧ n.natAbs.log2 < 1920 ∧ (Str.empty ++ s).length ≤ sizeLine ∧ ((Str.empty ++ s) ++ Str.ofString " ").length ≤ sizeLine ∧ (line s n).length ≤ sizeLine
instance {s : Str} {n : Int} : Decidable (lineOk s n) := by unfold lineOk; infer_instance
def lineR (C1 C2 : Addr) : D → PR D := fun x => match x with
  | .tup [nm, nu] => match checkR C1 nameR [nm] with
    | .ok _ => match checkR C2 numR [nu] with
      | .ok _ => match wnameR [nm], nu with
        | .ok (.str s), .int n => if lineOk s n then .ok (.str (line s n)) else .no
        | _, _ => .no
      | .er c => .er c
      | .no => .no
    | .er c => .er c
    | .no => .no
  | _ => .no
def joinR (ds : List D) : PR D := match strsD ds with
  | some ys => if (ys.map (·.length)).sum + ys.length ≤ 16777216 then .ok (.str (Txt.join "\n" ys)) else .no
  | none => .no
def writtenR (C1 C2 : Addr) (ds : List D) : PR D := match ds with
  | [.lis xs] => if xs.length ≤ sizeLine then (match seqR (lineR C1 C2) xs with
    | .ok lines => joinR lines
    | .er c => .er c
    | .no => .no) else .no
  | _ => .no
theorem checkR_er {C : Addr} {r : List D → PR D} {ds : List D} {c : XD} (h : checkR C r ds = .er c) : c = (.ref C, none) := by
  unfold checkR at h
  split at h <;> first | cases h; rfl | cases h
theorem xfin_drop {C : Addr} {S S' : Sto} {wx : DX} (l : Less S S') (h : xfin (.ref C, none) S wx) : xfin (.ref C, none) S' fun c S' => dnX wx c S' := ⟨S, l, h⟩
theorem ok_written {fa fb fc : Addr} (F : Fun K "written" "written" (top 26) f fd) (b : Binds K fd ["entries"] []) {C1 C2 : Addr} (m_check_name : mg "check_name" = some (.ref fa)) (F_check_name : FnD P w K mg base (k + 4) fa (spO 1 (pur (checkR C1 nameR)))) (m_check_number : mg "check_number" = some (.ref fb)) (F_check_number : FnD P w K mg base (k + 4) fb (spO 1 (pur (checkR C2 numR))))
    (m_written_name : mg "written_name" = some (.ref fc)) (F_written_name : FnD P w K mg base (k + 4) fc (spO 1 (pur wnameR))) : FnD P w K mg base (k + 5) f (spO 1 (pur (writtenR C1 C2))) := by
  refine fnD_ok F b scWritten spO_mono spO_len fun X cdv A outer s H E wx eX hr tk po => ?_
  have hu : X.A.units + 64 < cLine := by have := hr.un; omega
  subst eX
  have sc := @scWritten
  refine ⟨_, (dss_cons (ds_set (i := 1) sc.nd rfl (by first | exact .inl rfl | exact .inr rfl) (de_lst (fa_w (fun c _ S => dnX wx c S) fa_nil)))
      (dss_cons (ds_for po rfl (fi_w (fun c _ S => dnX wx c S) (fi_any (fv 0))) (pp_tup rfl (pp_cons (pp_name (i := 2) sc.nd rfl (by first | exact .inl rfl | exact .inr rfl)) (pp_cons (pp_name (i := 3) sc.nd rfl (by first | exact .inl rfl | exact .inr rfl)) pp_nil))) (dss_cons (ds_expr (fe_w (fun c _ S => dnX wx c S) (fe_call F_check_name hr (by rfl) m_check_name tk (fa_cons (fv 2) fa_nil))))
      (dss_cons (ds_expr (fe_w (fun c _ S => dnX wx c S) (fe_call F_check_number hr (by rfl) m_check_number tk (fa_cons (fv 3) fa_nil))))
      (dss_one (ds_expr (de_bm PySem.F.plainAttrs_list PySem.F.slot_list_append PySem.F.type_list_append dmt_append (fe_w (fun c _ S => dnX wx c S) (fv 1)) (fa_w (fun c _ S => dnX wx c S) (fa_cons (fe_joined (FJ.cons (fe_fmt (fe_call F_written_name hr (by rfl) m_written_name tk (fa_cons (fv 2) fa_nil))) (FJ.cons fe_str (FJ.cons (fe_fmt (fv 3)) FJ.nil)))) fa_nil))))))))
      (dss_one (ds_ret (fe_w (fun c _ S => dnX wx c S) (fe_bm PySem.F.plainAttrs_str PySem.F.slot_str_join PySem.F.type_str_join dmt_join fe_str (fa_cons (fv 1) fa_nil))))))), fun ds S Q h => ?_⟩
  obtain ⟨l, h⟩ := h
  match ds, l with
  | [d], _ =>
    clear F b hr tk po
    cases d with
    | lis xs =>
      have h : fin (PR.out (if xs.length ≤ sizeLine then (match seqR (lineR C1 C2) xs with
        | .ok lines => joinR lines
        | .er c => .er c
        | .no => .no) else .no) S) wx Q := h
      by_cases hx : xs.length ≤ sizeLine
      · rw [if_pos hx] at h
        refine ⟨by decide, fun p hp => ?_⟩
        show dLoop (fun S => (SrcF.of xs).ck S = true) _ _ _ xs [some (.lis xs), some (.ref p), none, none] (sup S p (.lst []))
        suffices go : ∀ (ys : List D) (acc : List D) (o2 o3 : Option D), acc.length + ys.length ≤ sizeLine → fin (PR.out (match seqR (lineR C1 C2) ys with
            | .ok lines => joinR (acc ++ lines)
            | .er c => .er c
            | .no => .no) S) wx Q → dLoop (fun S => (SrcF.of xs).ck S = true) (.tp [.nm 2, .nm 3]) _ _ ys [some (.lis xs), some (.ref p), o2, o3] (sup S p (.lst acc)) from go xs [] none none (by simpa using hx) h
        intro ys
        induction ys with
        | nil =>
          intro acc o2 o3 hl h
          have h : fin (PR.out (joinR (acc ++ [])) S) wx Q := h
          rw [List.append_nil] at h
          unfold dLoop
          refine ⟨rfl, ?_⟩
          unfold joinR at h
          have e2 : (Str.ofString "\n").length = 1 := by decide
          cases es : strsD acc with
          | none => rw [es] at h; exact h.elim
          | some zs =>
            rw [es] at h
            have h : fin (PR.out (if (zs.map (·.length)).sum + zs.length ≤ 16777216 then .ok (.str (Txt.join "\n" zs)) else .no) S) wx Q := h
            by_cases hc : (zs.map (·.length)).sum + zs.length ≤ 16777216
            · rw [if_pos hc] at h
              simp [sSeq, sIf, sRet, sRetN, sAsg, gN, sNext, sDrop, sPutP, setD, optP_some, optP_none, upF, upB, upAs, fin_ok, fin_er, fin_no, bnd_ok, bnd_er, bnd_no, opt_some, opt_none, fVar, fC, fBin, tst, DL.tTup, fAnd, fOr, fNot, fAndV, fOrV, fNotV, fIf, fNeg, fNil, fCons, fTup, fLst, fCB, fBM, fIsi, fCall, fChain, gInt, fOrd, gLen, lenD, tyD, startD, isTy, noE_ok, DL.fSub, DL.gSub, lookD, gIx, seqA, seqL, L2.atI, L2.ixN, tyM, fJoin, itemsD, sup_same, es, e2, hc]
              exact ⟨S, Less.sup Less.refl hp, h⟩
            · rw [if_neg hc] at h; exact h.elim
        | cons y ys ih =>
          intro acc o2 o3 hl h
          unfold dLoop
          refine ⟨rfl, ?_⟩
          rw [List.length_cons] at hl
          have e0 : seqR (lineR C1 C2) (y :: ys) = (match lineR C1 C2 y with
            | .ok d => match seqR (lineR C1 C2) ys with
              | .ok ds => .ok (d :: ds)
              | .er c => .er c
              | .no => .no
            | .er c => .er c
            | .no => .no) := rfl
          rw [e0] at h
          cases y with
          | tup zs =>
            match zs with
            | [nm, nu] =>
              cases e1 : checkR C1 nameR [nm] with
              | no => simp only [lineR, e1] at h; exact h.elim
              | er c =>
                obtain rfl := checkR_er e1
                simp only [lineR, e1] at h
                simp [sSeq, sIf, sRet, sRetN, sAsg, gN, sNext, sDrop, sPutP, setD, optP_some, optP_none, upF, upB, upAs, fin_ok, fin_er, fin_no, bnd_ok, bnd_er, bnd_no, opt_some, opt_none, fVar, fC, fBin, tst, DL.tTup, fAnd, fOr, fNot, fAndV, fOrV, fNotV, fIf, fNeg, fNil, fCons, fTup, fLst, fCB, fBM, fIsi, fCall, fChain, gInt, fOrd, gLen, lenD, tyD, startD, isTy, noE_ok, DL.fSub, DL.gSub, lookD, gIx, seqA, seqL, L2.atI, L2.ixN, bindP, bindPs, pur, e1, PR.out]
                exact xfin_drop (Less.sup Less.refl hp) h
              | ok r1 =>
                cases e2 : checkR C2 numR [nu] with
                | no => simp only [lineR, e1, e2] at h; exact h.elim
                | er c =>
                  obtain rfl := checkR_er e2
                  simp only [lineR, e1, e2] at h
                  simp [sSeq, sIf, sRet, sRetN, sAsg, gN, sNext, sDrop, sPutP, setD, optP_some, optP_none, upF, upB, upAs, fin_ok, fin_er, fin_no, bnd_ok, bnd_er, bnd_no, opt_some, opt_none, fVar, fC, fBin, tst, DL.tTup, fAnd, fOr, fNot, fAndV, fOrV, fNotV, fIf, fNeg, fNil, fCons, fTup, fLst, fCB, fBM, fIsi, fCall, fChain, gInt, fOrd, gLen, lenD, tyD, startD, isTy, noE_ok, DL.fSub, DL.gSub, lookD, gIx, seqA, seqL, L2.atI, L2.ixN, bindP, bindPs, pur, e1, e2, PR.out]
                  exact xfin_drop (Less.sup Less.refl hp) h
                | ok r2 =>
                  cases e3 : wnameR [nm] with
                  | no => simp only [lineR, e1, e2, e3] at h; exact h.elim
                  | er c => simp only [lineR, e1, e2, e3] at h; exact h.elim
                  | ok r3 =>
                    cases r3 with
                    | str s =>
                      cases nu with
                      | int n =>
                        by_cases lo : lineOk s n
                        · obtain ⟨l1, l2, l3, l4, l5⟩ := id lo
                          simp only [lineR, e1, e2, e3, if_pos lo] at h
                          have h2 : fin (PR.out (match seqR (lineR C1 C2) ys with
                            | .ok lines => joinR ((acc ++ [.str (line s n)]) ++ lines)
                            | .er c => .er c
                            | .no => .no) S) wx Q := by
                            cases e5 : seqR (lineR C1 C2) ys with
                            | ok ds =>
                              rw [e5] at h
                              show fin (PR.out (joinR ((acc ++ [.str (line s n)]) ++ ds)) S) wx Q
                              rw [List.append_assoc]
                              exact h
                            | er c => rw [e5] at h; exact h
                            | no => rw [e5] at h; exact h
                          have hi := ih (acc ++ [.str (line s n)]) (some nm) (some (.int n)) (by rw [List.length_append, List.length_singleton]; omega) h2
                          have la : acc.length < sizeLine := by omega
                          have ej : fJoined [fFmt (fCall 1 (pur wnameR) (fCons (fVar 2) fNil)), fC (D.str (Str.ofString " ")), fFmt (fVar 3)] [some (D.lis xs), some (D.ref p), some nm, some (.int n)] (sup S p (.lst acc)) = .ok (.str (line s n)) (sup S p (.lst acc)) := by
                            have l6 : (((Str.empty ++ s) ++ Str.ofString " ") ++ toString n).length ≤ sizeLine := l5
                            simp only [sSeq, sIf, sRet, sRetN, sAsg, gN, sNext, sDrop, sPutP, setD, optP_some, optP_none, upF, upB, upAs, fin_ok, fin_er, fin_no, bnd_ok, bnd_er, bnd_no, opt_some, opt_none, fVar, fC, fBin, tst, DL.tTup, fAnd, fOr, fNot, fAndV, fOrV, fNotV, fIf, fNeg, fNil, fCons, fTup, fLst, fCB, fBM, fIsi, fCall, fChain, gInt, fOrd, gLen, lenD, tyD, startD, isTy, noE_ok, DL.fSub, DL.gSub, lookD, gIx, seqA, seqL, L2.atI, L2.ixN, fJoined, fJs, fFmt, pur, e3, PR.out, l1, l2, l3, l4, l6, if_true, List.length_singleton, List.getElem?_cons_succ, List.getElem?_cons_zero, line]
                          show sSeq (sDrop (upF _ (fCall 1 (pur (checkR C1 nameR)) (fCons (fVar 2) fNil)))) _ _ [some (D.lis xs), some (D.ref p), some nm, some (.int n)] _
                          simp [sSeq, sIf, sRet, sRetN, sAsg, gN, sNext, sDrop, sPutP, setD, optP_some, optP_none, upF, upB, upAs, fin_ok, fin_er, fin_no, bnd_ok, bnd_er, bnd_no, opt_some, opt_none, fVar, fC, fBin, tst, DL.tTup, fAnd, fOr, fNot, fAndV, fOrV, fNotV, fIf, fNeg, fNil, fCons, fTup, fLst, fCB, fBM, fIsi, fCall, fChain, gInt, fOrd, gLen, lenD, tyD, startD, isTy, noE_ok, DL.fSub, DL.gSub, lookD, gIx, seqA, seqL, L2.atI, L2.ixN, pur, e1, e2, PR.out, dBM, tyM, sup_same, rAppendD, ej, la, sup_sup]
                          exact hi
                        · simp only [lineR, e1, e2, e3, if_neg lo] at h
                          exact h.elim
                      | _ => simp only [lineR, e1, e2, e3] at h; exact h.elim
                    | _ => simp only [lineR, e1, e2, e3] at h; exact h.elim
            | [] => exact h.elim
            | [_] => exact h.elim
            | _ :: _ :: _ :: _ => exact h.elim
          | _ => exact h.elim
      · rw [if_neg hx] at h
        exact h.elim
    | _ => exact h.elim
end
end Hb
set_option maxRecDepth 100000
set_option maxHeartbeats 1000000
namespace Hb
open PySem L2 DL
theorem scDice : FnScope ["_law_script", "_law_mixed", "_law_cell"] ["_law_script"] (defScope (top 33)) := ⟨rfl, rfl, rfl, by decide +kernel, rfl, by decide +kernel, by decide +kernel⟩
theorem scNext : FnScope ["_law_dice_here", "_law_many", "_law_found", "_law_cell"] ["_law_dice_here", "_law_many"] (defScope (top 34)) := ⟨rfl, rfl, rfl, by decide +kernel, rfl, by decide +kernel, by decide +kernel⟩
def nextF (xs : List D) (i m h n : Int) : Option (Int × Int × Int × Int) :=
  if 0 < h then some (h % n, i, m, h / n)
  else if i + 1 ≤ xs.length then match atI xs (i + 1 - 1) with
    | some (.int c) => some (c % n, i + 1, m, if 1000000000000000000 ≤ c then c / n else 0)
    | _ => none
  else some (m * 48271 % 2147483647 / 7 % n, i + 1, m * 48271 % 2147483647, h)
def gNext : List D → Sto → Out D := fun ds S => match ds with
  | [.ref a, .int n] => match S a with
    | some (.lst [.fro xs, .int i, .int m, .int h]) => if 0 < n ∧ n < 1073741824 then (match nextF xs i m h n with
      | some r => .ok (.int r.1) (sup S a (.lst [.fro xs, .int r.2.1, .int r.2.2.1, .int r.2.2.2]))
      | none => .no) else .no
    | _ => .no
  | _ => .no
theorem sup_comm {S : Sto} {a b : Addr} {o u : DO} (h : a ≠ b) : sup (sup S a o) b u = sup (sup S b u) a o := by
  funext c
  by_cases z : c = a
  · subst z
    rw [sup_ne h, sup_same, sup_same]
  · by_cases z2 : c = b
    · subst z2
      rw [sup_same, sup_ne z, sup_same]
    · rw [sup_ne z2, sup_ne z, sup_ne z, sup_ne z2]
theorem frG_next : FrG gNext := fun ds S D o d S' n e => by
  unfold gNext at e ⊢
  split at e
  · rename_i a m
    have ne : ∀ u, S a = some u → a ≠ D := fun u q z => by rw [z, n] at q; cases q
    split at e
    · rename_i xs i m2 h q
      have na := ne _ q
      rw [sup_ne na, q]
      dsimp only
      split at e
      · rename_i hc
        rw [if_pos hc]
        split at e
        · rename_i r er
          cases e
          exact ⟨by rw [sup_ne (Ne.symm na)]; exact n, by rw [sup_comm (Ne.symm na)]⟩
        · cases e
      · cases e
    · cases e
  · cases e
section
variable {P : Program} {w : World} {K : PySem.W.Frag} {mg : Str → Option Value} {base : Heap} {k : Nat} {f : Addr} {fd : FuncData}
theorem ok_next (F : Fun K "_law_next" "_law_next" (top 34) f fd) (b : Binds K fd ["_law_dice_here", "_law_many"] []) (b_len : mg "len" = none) : FnD P w K mg base (k + 1) f (spO 2 gNext) := by
  refine fnD_ok F b scNext spO_mono spO_len fun X cdv A outer s H E wx eX hr tk po => ?_
  have hu : X.A.units + 64 < cLine := by have := hr.un; omega
  subst eX
  have sc := @scNext
  refine ⟨_, (dss_cons (ds_if (ft_w (fun c _ S => dnX wx c S) (ft_cmp dop_gtA (fe_sub hu (fv 0) fe_int) fe_int (by with_unfolding_all rfl))) (dss_cons (ds_set (i := 2) sc.nd rfl (by first | exact .inl rfl | exact .inr rfl) (fe_w (fun c _ S => dnX wx c S) (fe_op fop_mod (fe_sub hu (fv 0) fe_int) (fv 1))))
      (dss_cons (ds_putP hu (fe_w (fun c _ S => dnX wx c S) (fv 0)) (fe_w (fun c _ S => dnX wx c S) fe_int) (fe_w (fun c _ S => dnX wx c S) (fe_op fop_fdiv (fe_sub hu (fv 0) fe_int) (fv 1))))
      (dss_one (ds_ret (fe_w (fun c _ S => dnX wx c S) (fv 2)))))) dss_nil)
      (dss_cons (ds_putP hu (fe_w (fun c _ S => dnX wx c S) (fv 0)) (fe_w (fun c _ S => dnX wx c S) fe_int) (fe_w (fun c _ S => dnX wx c S) (fe_op fop_add (fe_sub hu (fv 0) fe_int) fe_int)))
      (dss_cons (ds_if (ft_w (fun c _ S => dnX wx c S) (ft_cmp dop_leA (fe_sub hu (fv 0) fe_int) (fe_callB fcall_len (by rfl) b_len (by rfl) (fa_cons (fe_sub hu (fv 0) fe_int) fa_nil)) (by with_unfolding_all rfl))) (dss_cons (ds_set (i := 3) sc.nd rfl (by first | exact .inl rfl | exact .inr rfl) (fe_w (fun c _ S => dnX wx c S) (fe_sub hu (fe_sub hu (fv 0) fe_int) (fe_op fop_sub (fe_sub hu (fv 0) fe_int) fe_int))))
      (dss_cons (ds_putP hu (fe_w (fun c _ S => dnX wx c S) (fv 0)) (fe_w (fun c _ S => dnX wx c S) fe_int) (fe_w (fun c _ S => dnX wx c S) (fe_if (ft_cmp dop_geA (fv 3) (fe_op fop_pow fe_int fe_int) (by with_unfolding_all rfl)) (fe_op fop_fdiv (fv 3) (fv 1)) fe_int)))
      (dss_one (ds_ret (fe_w (fun c _ S => dnX wx c S) (fe_op fop_mod (fv 3) (fv 1))))))) dss_nil)
      (dss_cons (ds_putP hu (fe_w (fun c _ S => dnX wx c S) (fv 0)) (fe_w (fun c _ S => dnX wx c S) fe_int) (fe_w (fun c _ S => dnX wx c S) (fe_op fop_mod (fe_op fop_mulS (fe_sub hu (fv 0) fe_int) fe_int) fe_int)))
      (dss_one (ds_ret (fe_w (fun c _ S => dnX wx c S) (fe_op fop_mod (fe_op fop_fdiv (fe_sub hu (fv 0) fe_int) fe_int) (fv 1))))))))), fun ds S Q h => ?_⟩
  obtain ⟨l, h⟩ := h
  clear F b hr tk po
  unfold gNext at h
  split at h
  · rename_i a n
    split at h
    · rename_i xs i m h0 ea
      split at h
      · rename_i hc
        obtain ⟨n1, n2⟩ := hc
        have m1 : CMul m 48271 := .inr ⟨by decide, by decide⟩
        have m2 : CDiv (m * 48271 % 2147483647) 7 := ⟨by decide, by decide⟩
        have m3 : CPow 10 18 := ⟨by decide, by decide, by decide⟩
        have m4 : ∀ c, CDiv c n := fun c => ⟨n1, n2⟩
        split at h
        · rename_i r e
          unfold nextF at e
          by_cases h1 : 0 < h0
          · rw [if_pos h1] at e
            cases e
            have h : Q (.int (h0 % n)) (sup S a (.lst [.fro xs, .int i, .int m, .int (h0 / n)])) := h
            simp [sSeq, sIf, sRet, sRetN, sAsg, gN, sNext, sDrop, sPutP, setD, optP_some, optP_none, upF, upB, upAs, fin_ok, fin_er, fin_no, bnd_ok, bnd_er, bnd_no, opt_some, opt_none, fVar, fC, fBin, tst, DL.tTup, fAnd, fOr, fNot, fAndV, fOrV, fNotV, fIf, fNeg, fNil, fCons, fTup, fLst, fCB, fBM, fIsi, fCall, fChain, gInt, fOrd, gLen, lenD, tyD, startD, isTy, noE_ok, DL.fSub, DL.gSub, lookD, gIx, seqA, seqL, L2.atI, L2.ixN, gAdd, ea, h1, n1, m4, sup_same]
            exact ⟨_, Less.refl, h⟩
          · rw [if_neg h1] at e
            by_cases h2 : i + 1 ≤ xs.length
            · rw [if_pos h2] at e
              split at e
              · rename_i c ec
                cases e
                have h : Q (.int (c % n)) (sup S a (.lst [.fro xs, .int (i + 1), .int m, .int (if 1000000000000000000 ≤ c then c / n else 0)])) := h
                have ec' := ec
                simp [L2.atI, L2.ixN] at ec'
                by_cases h4 : 1000000000000000000 ≤ c
                · rw [if_pos h4] at h
                  simp [sSeq, sIf, sRet, sRetN, sAsg, gN, sNext, sDrop, sPutP, setD, optP_some, optP_none, upF, upB, upAs, fin_ok, fin_er, fin_no, bnd_ok, bnd_er, bnd_no, opt_some, opt_none, fVar, fC, fBin, tst, DL.tTup, fAnd, fOr, fNot, fAndV, fOrV, fNotV, fIf, fNeg, fNil, fCons, fTup, fLst, fCB, fBM, fIsi, fCall, fChain, gInt, fOrd, gLen, lenD, tyD, startD, isTy, noE_ok, DL.fSub, DL.gSub, lookD, gIx, seqA, seqL, L2.atI, L2.ixN, gAdd, ea, h1, h2, h4, n1, m4, m3, ec', sup_sup, sup_same]
                  exact ⟨_, Less.refl, h⟩
                · rw [if_neg h4] at h
                  simp [sSeq, sIf, sRet, sRetN, sAsg, gN, sNext, sDrop, sPutP, setD, optP_some, optP_none, upF, upB, upAs, fin_ok, fin_er, fin_no, bnd_ok, bnd_er, bnd_no, opt_some, opt_none, fVar, fC, fBin, tst, DL.tTup, fAnd, fOr, fNot, fAndV, fOrV, fNotV, fIf, fNeg, fNil, fCons, fTup, fLst, fCB, fBM, fIsi, fCall, fChain, gInt, fOrd, gLen, lenD, tyD, startD, isTy, noE_ok, DL.fSub, DL.gSub, lookD, gIx, seqA, seqL, L2.atI, L2.ixN, gAdd, ea, h1, h2, h4, n1, m4, m3, ec', sup_sup, sup_same]
                  exact ⟨_, Less.refl, h⟩
              · cases e
            · rw [if_neg h2] at e
              cases e
              have h : Q (.int (m * 48271 % 2147483647 / 7 % n)) (sup S a (.lst [.fro xs, .int (i + 1), .int (m * 48271 % 2147483647), .int h0])) := h
              have h3 : ¬ (i + 1 ≤ (xs.length : Int)) := h2
              simp [sSeq, sIf, sRet, sRetN, sAsg, gN, sNext, sDrop, sPutP, setD, optP_some, optP_none, upF, upB, upAs, fin_ok, fin_er, fin_no, bnd_ok, bnd_er, bnd_no, opt_some, opt_none, fVar, fC, fBin, tst, DL.tTup, fAnd, fOr, fNot, fAndV, fOrV, fNotV, fIf, fNeg, fNil, fCons, fTup, fLst, fCB, fBM, fIsi, fCall, fChain, gInt, fOrd, gLen, lenD, tyD, startD, isTy, noE_ok, DL.fSub, DL.gSub, lookD, gIx, seqA, seqL, L2.atI, L2.ixN, gAdd, gMulS, gMul, ea, h1, h3, n1, m4, m1, m2, sup_sup, sup_same]
              exact ⟨_, Less.refl, h⟩
        · exact h.elim
      · exact h.elim
    · exact h.elim
  · exact h.elim
end
end Hb
set_option maxRecDepth 100000
set_option maxHeartbeats 1000000
namespace Hb
open PySem L2 DL
def mixF : List Int → Int → Int
  | [], m => m
  | c :: cs, m => mixF cs ((m * 48271 + c % 2147483647 * 69621 + 11) % 2147483647)
def spDice : DSp := fun ds S Q _ => ∃ ns : List Int, ds = [.fro (ns.map .int)] ∧ ns.length ≤ 63 ∧ ∀ p, S p = none → Q (.ref p) (sup S p (.lst [.fro (ns.map .int), .int 0, .int (if 2 < ns.length then mixF ns 0 else 0), .int 0]))
theorem spDice_mono : MonoSp spDice := fun ds S Q Q' E E' h _ ⟨ns, e, l, q⟩ => ⟨ns, e, l, fun p hp => h _ _ (q p hp)⟩
theorem spDice_len : ∀ ds S Q E, spDice ds S Q E → ds.length = 1 := fun ds S Q E ⟨ns, e, _⟩ => by rw [e]; rfl
theorem scName2 : FnScope ["_law_d", "_law_labels_here", "_law_k"] ["_law_d", "_law_labels_here"] (defScope (top 36)) := ⟨rfl, rfl, rfl, by decide +kernel, rfl, by decide +kernel, by decide +kernel⟩
def Dc (S : Sto) (a : Addr) : Prop := ∃ (ns : List Int) (i m h : Int), S a = some (.lst [.fro (ns.map .int), .int i, .int m, .int h]) ∧ 0 ≤ i
def Off (a : Addr) (S S' : Sto) : Prop := ∀ b, b ≠ a → S' b = S b
theorem Off.refl {a : Addr} {S : Sto} : Off a S S := fun _ _ => rfl
theorem Off.trans {a : Addr} {S S1 S2 : Sto} (h : Off a S S1) (h' : Off a S1 S2) : Off a S S2 := fun b hb => (h' b hb).trans (h b hb)
theorem off_sup {a : Addr} {S : Sto} {o : DO} : Off a S (sup S a o) := fun b hb => sup_ne hb
theorem next_ok {S : Sto} {a : Addr} {n : Int} (d : Dc S a) (h1 : 0 < n) (h2 : n < 1073741824) : ∃ v S', gNext [.ref a, .int n] S = .ok (.int v) S' ∧ 0 ≤ v ∧ v < n ∧ Dc S' a ∧ Off a S S' := by
  obtain ⟨ns, i, m, h, e, hi⟩ := d
  have e0 : gNext [.ref a, .int n] S = (match nextF (ns.map .int) i m h n with
      | some r => .ok (.int r.1) (sup S a (.lst [.fro (ns.map .int), .int r.2.1, .int r.2.2.1, .int r.2.2.2]))
      | none => .no) := by
    unfold gNext
    dsimp only
    rw [e]
    dsimp only
    rw [if_pos ⟨h1, h2⟩]
    first | done | rfl
  have key : ∃ r, nextF (ns.map .int) i m h n = some r ∧ 0 ≤ r.1 ∧ r.1 < n ∧ 0 ≤ r.2.1 := by
    unfold nextF
    by_cases c1 : 0 < h
    · rw [if_pos c1]
      exact ⟨_, rfl, Int.emod_nonneg _ (by omega), Int.emod_lt_of_pos _ h1, hi⟩
    · rw [if_neg c1]
      by_cases c2 : i + 1 ≤ ((ns.map DL.D.int).length : Int)
      · rw [if_pos c2]
        rw [List.length_map] at c2
        have hlt : i.toNat < ns.length := by omega
        have ea : atI (ns.map DL.D.int) (i + 1 - 1) = some (.int ns[i.toNat]) := by
          have e1 : i + 1 - 1 = i := by omega
          have e2 : ixN (ns.map DL.D.int).length i = some i.toNat := by
            unfold L2.ixN
            rw [List.length_map, if_pos hi, if_pos (by omega)]
          unfold L2.atI
          rw [e1, e2]
          show (ns.map DL.D.int)[i.toNat]? = _
          rw [List.getElem?_map, List.getElem?_eq_getElem hlt]
          rfl
        rw [ea]
        exact ⟨_, rfl, Int.emod_nonneg _ (by omega), Int.emod_lt_of_pos _ h1, by show 0 ≤ i + 1; omega⟩
      · rw [if_neg c2]
        exact ⟨_, rfl, Int.emod_nonneg _ (by omega), Int.emod_lt_of_pos _ h1, by show 0 ≤ i + 1; omega⟩
  obtain ⟨r, er, k1, k2, k3⟩ := key
  rw [er] at e0
  exact ⟨_, _, e0, k1, k2, ⟨ns, _, _, _, sup_same, k3⟩, off_sup⟩
theorem compF_inv {ck : Sto → Bool} {p : Pat} {fe : FV} {δ0 : DEnv} {I : Sto → Prop} {R : DL.D → Prop} (hc : ∀ S, ck S = true) : ∀ (xs : List DL.D) (S : Sto), I S → (∀ x ∈ xs, ∀ S, I S → ∃ δ1, bindP p x δ0 = some δ1 ∧ ∃ d S', fe δ1 S = .ok d S' ∧ I S' ∧ R d) →
    ∃ ds S', compF ck p fYes fe δ0 xs S = .ok ds S' ∧ I S' ∧ (∀ d ∈ ds, R d) ∧ ds.length = xs.length
  | [], S, i, _ => ⟨[], S, by unfold compF; rw [if_pos (hc S)], i, (fun d h => by cases h), rfl⟩
  | x :: xs, S, i, k => by
    obtain ⟨δ1, e1, d, S1, e2, i1, r⟩ := k x List.mem_cons_self S i
    obtain ⟨ds, S2, e3, i2, r2, l⟩ := compF_inv hc xs S1 i1 fun y hy => k y (List.mem_cons_of_mem _ hy)
    refine ⟨d :: ds, S2, ?_, i2, fun z hz => (List.mem_cons.mp hz).elim (fun q => q ▸ r) (r2 z), by rw [List.length_cons, List.length_cons, l]⟩
    unfold compF
    rw [if_pos (hc S), e1]
    show bnd (noE (fe δ1 S)) (fun d S2 => bnd (compF ck p fYes fe δ0 xs S2) fun ds S3 => .ok (d :: ds) S3) = _
    rw [e2]
    show bnd (compF ck p fYes fe δ0 xs S1) (fun ds S3 => .ok (d :: ds) S3) = _
    rw [e3]
    rfl
theorem atI_mem {xs : List DL.D} {v : Int} (h1 : 0 ≤ v) (h2 : v < xs.length) : ∃ d, atI xs v = some d ∧ d ∈ xs := by
  have hlt : v.toNat < xs.length := by omega
  refine ⟨xs[v.toNat], ?_, List.getElem_mem hlt⟩
  have e2 : ixN xs.length v = some v.toNat := by
    unfold L2.ixN
    rw [if_pos h1, if_pos h2]
  unfold L2.atI
  rw [e2]
  exact List.getElem?_eq_getElem hlt
def gName : List DL.D → Sto → Out DL.D := fun ds S => fCB gTuple (fCons (fLc (fR1 (fCons (fCall 2 gNext (fCons (fVar 0) (fCons (DL.fSub (fLst (fCons (fC (.int 2)) (fCons (fC (.int 4)) (fCons (fC (.int 6)) fNil)))) (fCall 2 gNext (fCons (fVar 0) (fCons (fC (.int 3)) fNil)))) fNil))) fNil)) (.nm 2) fYes (DL.fSub (fVar 1) (fCall 2 gNext (fCons (fVar 0) (fCons (fCB gLen (fCons (fVar 1) fNil)) fNil)))) [2]) fNil) (startD ["_law_d", "_law_labels_here", "_law_k"] ds) S
theorem name_ok {S : Sto} {a : Addr} {ls : List DL.D} (d : Dc S a) (h1 : 0 < ls.length) (h2 : ls.length ≤ 1000) : ∃ xs S', gName [.ref a, .lis ls] S = .ok (.tup xs) S' ∧ (∀ x ∈ xs, x ∈ ls) ∧ xs.length ≤ 5 ∧ Dc S' a ∧ Off a S S' := by
  obtain ⟨v1, S1, e1, a1, a2, d1, o1⟩ := next_ok (n := 3) d (by decide) (by decide)
  have hv : ∃ n : Int, atI [DL.D.int 2, DL.D.int 4, DL.D.int 6] v1 = some (.int n) ∧ 0 < n ∧ n ≤ 6 := by
    have : v1 = 0 ∨ v1 = 1 ∨ v1 = 2 := by omega
    rcases this with rfl | rfl | rfl
    · exact ⟨2, rfl, by decide, by decide⟩
    · exact ⟨4, rfl, by decide, by decide⟩
    · exact ⟨6, rfl, by decide, by decide⟩
  obtain ⟨n, en, n1, n2⟩ := hv
  obtain ⟨v2, S2, e2, b1, b2, d2, o2⟩ := next_ok (n := n) d1 n1 (by omega)
  obtain ⟨ys, S3, e3, ⟨d3, o3⟩, r3, l3⟩ := compF_inv (ck := (SrcF.of (rngD 0 v2.toNat)).ck) (p := .nm 2) (fe := DL.fSub (fVar 1) (fCall 2 gNext (fCons (fVar 0) (fCons (fCB gLen (fCons (fVar 1) fNil)) fNil)))) (δ0 := [some (.ref a), some (.lis ls), none]) (I := fun S' => Dc S' a ∧ Off a S2 S') (R := fun x => x ∈ ls) (fun _ => rfl) (rngD 0 v2.toNat) S2 ⟨d2, Off.refl⟩ (fun x _ S4 ⟨d4, o4⟩ => by
    obtain ⟨v5, S5, e5, c1, c2, d5, o5⟩ := next_ok (n := (ls.length : Int)) d4 (by omega) (by omega)
    obtain ⟨y, ey, my⟩ := atI_mem c1 c2
    refine ⟨[some (.ref a), some (.lis ls), some x], rfl, y, S5, ?_, ⟨d5, o4.trans o5⟩, my⟩
    show bnd (if ([DL.D.ref a, DL.D.int (ls.length : Nat)] : List DL.D).length = 2 then gNext [.ref a, .int (ls.length : Nat)] S4 else .no) (fun y S2 => opt (DL.gSub (.lis ls) y S2) fun d => .ok d S2) = _
    rw [if_pos (show ([DL.D.ref a, DL.D.int (ls.length : Nat)] : List DL.D).length = 2 from rfl), e5]
    show opt (atI ls v5) _ = _
    rw [ey]
    rfl)
  have eA : fR1 (fCons (fCall 2 gNext (fCons (fVar 0) (fCons (DL.fSub (fLst (fCons (fC (.int 2)) (fCons (fC (.int 4)) (fCons (fC (.int 6)) fNil)))) (fCall 2 gNext (fCons (fVar 0) (fCons (fC (.int 3)) fNil)))) fNil))) fNil) [some (.ref a), some (.lis ls), none] S = .ok (.of (rngD 0 v2.toNat)) S2 := by
    have eB : DL.fSub (fLst (fCons (fC (.int 2)) (fCons (fC (.int 4)) (fCons (fC (.int 6)) fNil)))) (fCall 2 gNext (fCons (fVar 0) (fCons (fC (.int 3)) fNil))) [some (.ref a), some (.lis ls), none] S = .ok (.int n) S1 := by
      show bnd (if ([DL.D.ref a, DL.D.int 3] : List DL.D).length = 2 then gNext [.ref a, .int 3] S else .no) (fun y S2 => opt (DL.gSub (.lis [.int 2, .int 4, .int 6]) y S2) fun d => .ok d S2) = _
      rw [if_pos (show ([DL.D.ref a, DL.D.int 3] : List DL.D).length = 2 from rfl), e1]
      show opt (atI [DL.D.int 2, DL.D.int 4, DL.D.int 6] v1) _ = _
      rw [en]
      rfl
    have eC : fCall 2 gNext (fCons (fVar 0) (fCons (DL.fSub (fLst (fCons (fC (.int 2)) (fCons (fC (.int 4)) (fCons (fC (.int 6)) fNil)))) (fCall 2 gNext (fCons (fVar 0) (fCons (fC (.int 3)) fNil)))) fNil)) [some (.ref a), some (.lis ls), none] S = .ok (.int v2) S2 := by
      show bnd (bnd (bnd (DL.fSub _ _ [some (DL.D.ref a), some (DL.D.lis ls), none] S) (fun y S3 => bnd (Out.ok [] S3) fun ys S4 => .ok (y :: ys) S4)) fun ys S4 => .ok (.ref a :: ys) S4) _ = _
      rw [eB]
      show (if ([DL.D.ref a, DL.D.int n] : List DL.D).length = 2 then gNext [.ref a, .int n] S1 else .no) = _
      rw [if_pos (show ([DL.D.ref a, DL.D.int n] : List DL.D).length = 2 from rfl), e2]
    show bnd (bnd (fCall _ _ _ [some (DL.D.ref a), some (DL.D.lis ls), none] S) _) _ = _
    rw [eC]
    show (if -(2 ^ 62) ≤ v2 ∧ v2 < 2 ^ 62 then Out.ok (SrcF.of (rngD 0 v2.toNat)) S2 else .no) = _
    rw [if_pos ⟨by omega, by omega⟩]
  have l4 : ys.length ≤ 5 := by
    unfold rngD at l3
    simp at l3
    omega
  refine ⟨ys, S3, ?_, r3, l4, d3, (o1.trans o2).trans o3⟩
  show bnd (bnd (fLc _ _ _ _ _ [some (.ref a), some (.lis ls), none] S) _) _ = _
  unfold fLc
  rw [eA]
  show bnd (bnd (bnd (compF _ _ _ _ _ _ S2) _) _) _ = _
  rw [show wipeD [some (DL.D.ref a), some (DL.D.lis ls), none] [2] = [some (.ref a), some (.lis ls), none] from rfl]
  rw [show (SrcF.of (rngD 0 v2.toNat)).items = rngD 0 v2.toNat from rfl, e3]
  have h5 : (5 : Nat) ≤ sizeLine := by decide
  show bnd (bnd (if ys.length ≤ sizeLine then Out.ok (DL.D.lis ys) S3 else .no) _) _ = _
  rw [if_pos (by omega)]
  rfl
section
variable {P : Program} {w : World} {K : PySem.W.Frag} {mg : Str → Option Value} {base : Heap} {k : Nat} {f : Addr} {fd : FuncData}
theorem ok_dice (F : Fun K "_law_dice" "_law_dice" (top 33) f fd) (b : Binds K fd ["_law_script"] []) (b_len : mg "len" = none) (b_int : mg "int" = none) : FnD P w K mg base (k + 1) f spDice := by
  refine fnD_ok F b scDice spDice_mono spDice_len fun X cdv A outer s H E wx eX hr tk po => ?_
  subst eX
  have sc := @scDice
  refine ⟨_, (dss_cons (ds_set (i := 1) sc.nd rfl (by first | exact .inl rfl | exact .inr rfl) (fe_w (fun c _ S => dnX wx c S) fe_int))
      (dss_cons (ds_for po rfl (fi_w (fun c _ S => dnX wx c S) (fi_any (fv 0))) (pp_name (i := 2) sc.nd rfl (by first | exact .inl rfl | exact .inr rfl)) (dss_one (ds_set (i := 1) sc.nd rfl (by first | exact .inl rfl | exact .inr rfl) (fe_w (fun c _ S => dnX wx c S) (fe_op fop_mod (fe_op fop_add (fe_op fop_add (fe_op fop_mulS (fv 1) fe_int) (fe_op fop_mulS (fe_op fop_mod (fv 2) fe_int) fe_int)) fe_int) fe_int)))))
      (dss_one (ds_ret (de_lst (fa_w (fun c _ S => dnX wx c S) (fa_cons (fv 0) (fa_cons fe_int (fa_cons (fe_op fop_mulS (fv 1) (fe_callTy fcall_int (by rfl) b_int (by rfl) (fa_cons (fe_cmp dop_gtA (fe_callB fcall_len (by rfl) b_len (by rfl) (fa_cons (fv 0) fa_nil)) fe_int (by with_unfolding_all rfl)) fa_nil))) (fa_cons fe_int fa_nil)))))))))), fun ds S Q h => ?_⟩
  clear hr tk po F b
  obtain ⟨ns, rfl, l, q⟩ := h
  show dLoop (fun S => (SrcF.of (ns.map DL.D.int)).ck S = true) _ _ _ (ns.map DL.D.int) [some (.fro (ns.map .int)), some (.int 0), none] S
  suffices go : ∀ (cs : List Int) (m : Int) (o : Option D), mixF cs m = mixF ns 0 → dLoop (fun S => (SrcF.of (ns.map DL.D.int)).ck S = true) (.nm 2) _ _ (cs.map DL.D.int) [some (.fro (ns.map .int)), some (.int m), o] S from go ns 0 none rfl
  intro cs
  induction cs with
  | nil =>
    intro m o hm
    obtain rfl : m = mixF ns 0 := hm
    refine ⟨rfl, ?_⟩
    have m1 : ∀ x : Int, CMul x 1 := fun x => .inr ⟨by decide, by decide⟩
    have m0 : ∀ x : Int, CMul x 0 := fun x => .inr ⟨by decide, by decide⟩
    by_cases h2 : 2 < ns.length
    · have h2' : (2 : Int) < (ns.length : Int) := by omega
      rw [if_pos h2] at q
      simp [sSeq, sIf, sRet, sRetN, sAsg, gN, sNext, sDrop, sPutP, setD, optP_some, optP_none, upF, upB, upAs, fin_ok, fin_er, fin_no, bnd_ok, bnd_er, bnd_no, opt_some, opt_none, fVar, fC, fBin, tst, DL.tTup, fAnd, fOr, fNot, fAndV, fOrV, fNotV, fIf, fNeg, fNil, fCons, fTup, fLst, fCB, fBM, fIsi, fCall, fChain, gInt, fOrd, gLen, lenD, tyD, startD, isTy, noE_ok, DL.fSub, DL.gSub, lookD, gIx, seqA, seqL, L2.atI, L2.ixN, gMulS, gMul, gIntS, h2', m1, dLst]
      exact ⟨by decide, fun p hp => ⟨_, Less.refl, q p hp⟩⟩
    · have h2' : ¬ (2 : Int) < (ns.length : Int) := by omega
      rw [if_neg h2] at q
      simp [sSeq, sIf, sRet, sRetN, sAsg, gN, sNext, sDrop, sPutP, setD, optP_some, optP_none, upF, upB, upAs, fin_ok, fin_er, fin_no, bnd_ok, bnd_er, bnd_no, opt_some, opt_none, fVar, fC, fBin, tst, DL.tTup, fAnd, fOr, fNot, fAndV, fOrV, fNotV, fIf, fNeg, fNil, fCons, fTup, fLst, fCB, fBM, fIsi, fCall, fChain, gInt, fOrd, gLen, lenD, tyD, startD, isTy, noE_ok, DL.fSub, DL.gSub, lookD, gIx, seqA, seqL, L2.atI, L2.ixN, gMulS, gMul, gIntS, h2', m0, dLst]
      exact ⟨by decide, fun p hp => ⟨_, Less.refl, q p hp⟩⟩
  | cons c cs ih =>
    intro m o hm
    have m1 : CMul m 48271 := .inr ⟨by decide, by decide⟩
    have m2 : CMul (c % 2147483647) 69621 := .inr ⟨by decide, by decide⟩
    refine ⟨rfl, ?_⟩
    show sAsg _ _ _ [some (.fro (ns.map .int)), some (.int m), some (.int c)] S
    simp [sSeq, sIf, sRet, sRetN, sAsg, gN, sNext, sDrop, sPutP, setD, optP_some, optP_none, upF, upB, upAs, fin_ok, fin_er, fin_no, bnd_ok, bnd_er, bnd_no, opt_some, opt_none, fVar, fC, fBin, tst, DL.tTup, fAnd, fOr, fNot, fAndV, fOrV, fNotV, fIf, fNeg, fNil, fCons, fTup, fLst, fCB, fBM, fIsi, fCall, fChain, gInt, fOrd, gLen, lenD, tyD, startD, isTy, noE_ok, DL.fSub, DL.gSub, lookD, gIx, seqA, seqL, L2.atI, L2.ixN, gMulS, gMul, gAdd, m1, m2]
    exact ih _ _ hm
theorem ok_name2 {fn : Addr} (F : Fun K "_law_name" "_law_name" (top 36) f fd) (b : Binds K fd ["_law_d", "_law_labels_here"] []) (b_tuple : mg "tuple" = none) (b_range : mg "range" = none) (b_len : mg "len" = none) (m__law_next : mg "_law_next" = some (.ref fn)) (F__law_next : FnD P w K mg base (k + 1) fn (spO 2 gNext)) : FnD P w K mg base (k + 2) f (spO 2 gName) := by
  refine fnD_ok F b scName2 spO_mono spO_len fun X cdv A outer s H E wx eX hr tk po => ?_
  have hu : X.A.units + 64 < cLine := by have := hr.un; omega
  subst eX
  have sc := @scName2
  have G__law_next := frG_next
  refine ⟨_, (dss_one (ds_ret (fe_w (fun c _ S => dnX wx c S) (fe_callTy fcall_tuple (by rfl) b_tuple (by rfl) (fa_cons (fe_lc rfl sc.nd (fi_range1 (by rfl) b_range (fa_cons (fe_call F__law_next hr (by rfl) m__law_next tk (fa_cons (fv 0) (fa_cons (fe_sub hu (fe_lst (fa_cons fe_int (fa_cons fe_int (fa_cons fe_int fa_nil)))) (fe_call F__law_next hr (by rfl) m__law_next tk (fa_cons (fv 0) (fa_cons fe_int fa_nil)))) fa_nil))) fa_nil)) (own := [("_law_k", 2)]) (blk_ok (N := ["_law_d", "_law_labels_here", "_law_k"]) (sc := (defScope (top 36))) (by rfl) (by decide +kernel)) (by decide +kernel) (fun _ _ _ _ _ => (pp_name (i := 2) sc.nd rfl (by first | exact .inl rfl | exact .inr rfl))) (fun _ _ _ _ _ => fts_nil) (fun _ _ _ _ _ => (fe_sub hu (fv 1) (fe_call F__law_next hr (by rfl) m__law_next TakesD.none (fa_cons (fv 0) (fa_cons (fe_callB fcall_len (by rfl) b_len (by rfl) (fa_cons (fv 1) fa_nil)) fa_nil))))) frF_yes (frF_sub mg_sub frF_var (frF_call G__law_next (frF_cons frF_var (frF_cons (frF_cb mg_len (frF_cons frF_var frF_nil)) frF_nil))))) fa_nil))))), fun ds S Q h => ?_⟩
  obtain ⟨l, h⟩ := h
  exact fin_end rfl h
end
end Hb
set_option maxRecDepth 100000
set_option maxHeartbeats 2000000
namespace Hb
open PySem L2 DL
def allR (g : List DL.D → PR DL.D) : List DL.D → List DL.D → PR DL.D
  | x :: xs, y :: ys => match g [x, y] with
    | .ok (.bl true) => allR g xs ys
    | .ok (.bl false) => .ok (.bl false)
    | _ => .no
  | _, _ => .ok (.bl true)
def seqD : DL.D → Option (Bool × List DL.D)
  | .tup xs => some (true, xs)
  | .lis xs => some (false, xs)
  | _ => none
def likeO (g : List DL.D → PR DL.D) (f d : DL.D) : PR DL.D := match d with
  | .bl b => .ok (.bl (match f with
    | .bl c => decide (c = b)
    | _ => false))
  | .str b => .ok (.bl (match f with
    | .str c => decide (c = b)
    | _ => false))
  | .int b => .ok (.bl (match f with
    | .int c => decide (c = b)
    | _ => false))
  | .non => .ok (.bl (match f with
    | .non => true
    | _ => false))
  | .tup ds => match f with
    | .tup fs => if fs.length = ds.length then (if ds.length ≤ 100000 then allR g fs ds else .no) else .ok (.bl false)
    | _ => .ok (.bl false)
  | .lis ds => match f with
    | .lis fs => if fs.length = ds.length then (if ds.length ≤ 100000 then allR g fs ds else .no) else .ok (.bl false)
    | _ => .ok (.bl false)
  | _ => .no
def likeR (g : List DL.D → PR DL.D) (ds : List DL.D) : PR DL.D := match ds with
  | [f, d] => if noRef f = true then likeO g f d else .no
  | _ => .no
def likeN : Nat → List DL.D → PR DL.D
  | 0, _ => .no
  | n + 1, ds => likeR (likeN n) ds
theorem scLike : FnScope ["_law_found", "_law_due", "_law_k"] ["_law_found", "_law_due"] (defScope (top 35)) := ⟨rfl, rfl, rfl, by decide +kernel, rfl, by decide +kernel, by decide +kernel⟩
def bodyLike (wx : DX) (g : List DL.D → PR DL.D) : TDS := sIf (upB (fun c _ S => dnX wx c S) (fNot (tst (fCall 2 (pur g) (fCons (DL.fSub (fVar 0) (fVar 2)) (fCons (DL.fSub (fVar 1) (fVar 2)) fNil)))))) (sRet (upF (fun c _ S => dnX wx c S) (fC (.bl false)))) sNext
theorem loopLike {wx : DX} {g : List DL.D → PR DL.D} {D1 : DEnds} {S : Sto} {f d : DL.D} {fs ds : List DL.D} {ok : Sto → Prop} (hok : ∀ S, ok S) (hf : ∀ (i : Nat) x, fs[i]? = some x → DL.gSub f (.int (i : Nat)) S = some x) (hd : ∀ (i : Nat) x, ds[i]? = some x → DL.gSub d (.int (i : Nat)) S = some x) (hl : fs.length = ds.length) {b : Bool} (ht : b = true → ∀ c', D1.nx [some f, some d, c'] S) (hF : b = false → D1.rt (.bl false) S) :
    ∀ (k m : Nat) (c : Option DL.D), m + k = ds.length → allR g (fs.drop m) (ds.drop m) = .ok (.bl b) → dLoop ok (.nm 2) (bodyLike wx g) D1 ((List.range' m k).map fun i => DL.D.int ((0 : Int) + (i : Nat))) [some f, some d, c] S
  | 0, m, c, e, h => by
    have e1 : ds.drop m = [] := List.drop_eq_nil_of_le (by omega)
    have e2 : fs.drop m = [] := List.drop_eq_nil_of_le (by omega)
    rw [e1, e2] at h
    cases h
    exact ⟨hok S, ht rfl c⟩
  | k + 1, m, c, e, h => by
    have l1 : m < ds.length := by omega
    have l2 : m < fs.length := by omega
    rw [List.drop_eq_getElem_cons l1, List.drop_eq_getElem_cons l2] at h
    rw [List.range'_succ, List.map_cons, show ((0 : Int) + ((m : Nat) : Int)) = (m : Int) from Int.zero_add _]
    refine ⟨hok S, ?_⟩
    show bodyLike wx g _ [some f, some d, some (.int (m : Nat))] S
    have x1 := hf m _ (List.getElem?_eq_getElem l2)
    have x2 := hd m _ (List.getElem?_eq_getElem l1)
    have ec : tst (fCall 2 (pur g) (fCons (DL.fSub (fVar 0) (fVar 2)) (fCons (DL.fSub (fVar 1) (fVar 2)) fNil))) [some f, some d, some (.int (m : Nat))] S = (match g [fs[m], ds[m]] with | .ok (.bl k) => .ok k S | .er c => .er c S | _ => .no) := by
      show bnd (bnd (bnd (opt (DL.gSub f (.int (m : Nat)) S) fun d => Out.ok d S) (fun x S1 => bnd (bnd (opt (DL.gSub d (.int (m : Nat)) S1) fun d => Out.ok d S1) fun y S2 => bnd (Out.ok [] S2) fun ys S3 => .ok (y :: ys) S3) fun xs S2 => .ok (x :: xs) S2)) fun ds S1 => if ds.length = 2 then pur g ds S1 else .no) _ = _
      rw [x1]
      show bnd (bnd (bnd (bnd (opt (DL.gSub d (.int (m : Nat)) S) fun d => Out.ok d S) fun y S2 => bnd (Out.ok [] S2) fun ys S3 => .ok (y :: ys) S3) fun xs S2 => .ok (fs[m] :: xs) S2) fun ds S1 => if ds.length = 2 then pur g ds S1 else .no) _ = _
      rw [x2]
      show bnd (if ([fs[m], ds[m]] : List DL.D).length = 2 then pur g [fs[m], ds[m]] S else .no) _ = _
      rw [if_pos (show ([fs[m], ds[m]] : List DL.D).length = 2 from rfl), pur_eq]
      cases g [fs[m], ds[m]] with
      | ok r => cases r <;> rfl
      | er c => rfl
      | no => rfl
    unfold allR at h
    unfold bodyLike sIf upB fNot
    rw [ec]
    cases eg : g [fs[m], ds[m]] with
    | er c => rw [eg] at h; cases h
    | no => rw [eg] at h; cases h
    | ok r =>
      rw [eg] at h
      cases r with
      | bl t =>
        cases t with
        | true => exact loopLike hok hf hd hl ht hF k (m + 1) _ (by omega) h
        | false =>
          cases h
          exact hF rfl
      | _ => cases h
theorem allR_bl {g : List DL.D → PR DL.D} : ∀ {fs ds : List DL.D} {r : DL.D}, allR g fs ds = .ok r → ∃ b, r = .bl b
  | [], _, r, h => by unfold allR at h; cases h; exact ⟨_, rfl⟩
  | _ :: _, [], r, h => by unfold allR at h; cases h; exact ⟨_, rfl⟩
  | x :: xs, y :: ys, r, h => by
    unfold allR at h
    split at h
    · exact allR_bl h
    · cases h; exact ⟨_, rfl⟩
    · cases h
theorem allR_er {g : List DL.D → PR DL.D} : ∀ {fs ds : List DL.D} {c : XD}, allR g fs ds ≠ .er c
  | [], _, r, h => by unfold allR at h; cases h
  | _ :: _, [], r, h => by unfold allR at h; cases h
  | x :: xs, y :: ys, r, h => by
    unfold allR at h
    split at h
    · exact allR_er h
    · cases h
    · cases h
theorem skipIf {w : WD} {t : FB} {u v : TDS} {D1 : DEnds} {δ : DEnv} {S : Sto} (e : t δ S = .ok false S) (h : v D1 δ S) : sSeq (sIf (upB w t) u sNext) v D1 δ S := by
  unfold sSeq sIf upB
  rw [e]
  exact h
theorem takeRet {w : WD} {t : FB} {g : FV} {v : TDS} {D1 : DEnds} {δ : DEnv} {S : Sto} {r : DL.D} (e : t δ S = .ok true S) (e2 : g δ S = .ok r S) (h : D1.rt r S) : sSeq (sIf (upB w t) (sRet (upF w g)) sNext) v D1 δ S := by
  unfold sSeq sIf upB
  rw [e]
  show fin (g δ S) _ _
  rw [e2]
  exact h
def tailLike (wx : DX) (g : List DL.D → PR DL.D) : TDS := sSeq (sIf (upB (fun c _ S => dnX wx c S) (tst (fBin (gEq true) (fCB gLen (fCons (fVar 0) fNil)) (fCB gLen (fCons (fVar 1) fNil))))) (sRet (upF (fun c _ S => dnX wx c S) (fC (.bl false)))) sNext)
  (sSeq (sFor (upI' (fun c _ S => dnX wx c S) (fR1 (fCons (fCB gLen (fCons (fVar 1) fNil)) fNil))) (.nm 2) (bodyLike wx g)) (sRet (upF (fun c _ S => dnX wx c S) (fC (.bl true)))))
theorem fR1_of {fr : FA} {δ : DEnv} {S S' : Sto} {j : Int} (h : fr δ S = .ok [.int j] S') (h1 : -(2 ^ 62) ≤ j) (h2 : j < 2 ^ 62) : fR1 fr δ S = .ok (.of (rngD 0 j.toNat)) S' := by
  unfold fR1
  rw [h]
  show (if _ ∧ _ then Out.ok (SrcF.of (rngD 0 j.toNat)) S' else .no) = _
  rw [if_pos ⟨h1, h2⟩]
theorem tail_ok {wx : DX} {g : List DL.D → PR DL.D} {D1 : DEnds} {S : Sto} {f d : DL.D} {fs ds : List DL.D} (lf : lenD S f = some fs.length) (ld : lenD S d = some ds.length) (hf : ∀ (i : Nat) x, fs[i]? = some x → DL.gSub f (.int (i : Nat)) S = some x) (hd : ∀ (i : Nat) x, ds[i]? = some x → DL.gSub d (.int (i : Nat)) S = some x)
    {Q : DL.D → Prop} (hQ : ∀ r, Q r → D1.rt r S) (h : (fs.length = ds.length ∧ ds.length ≤ 100000 ∧ ∃ b, allR g fs ds = .ok (.bl b) ∧ Q (.bl b)) ∨ (fs.length ≠ ds.length ∧ Q (.bl false))) : tailLike wx g D1 [some f, some d, none] S := by
  have e1 : fCB gLen (fCons (fVar 0) fNil) [some f, some d, none] S = .ok (.int (fs.length : Nat)) S := by
    show opt (gLen [f] S) _ = _
    unfold gLen
    dsimp only
    rw [lf]
    rfl
  have e2 : fCB gLen (fCons (fVar 1) fNil) [some f, some d, none] S = .ok (.int (ds.length : Nat)) S := by
    show opt (gLen [d] S) _ = _
    unfold gLen
    dsimp only
    rw [ld]
    rfl
  have e3 : tst (fBin (gEq true) (fCB gLen (fCons (fVar 0) fNil)) (fCB gLen (fCons (fVar 1) fNil))) [some f, some d, none] S = .ok (!decide ((fs.length : Int) = (ds.length : Int))) S := by
    unfold tst fBin
    rw [e1]
    show bnd (bnd (fCB gLen (fCons (fVar 1) fNil) [some f, some d, none] S) _) _ = _
    rw [e2]
    rfl
  unfold tailLike sSeq sIf upB
  rw [e3]
  rcases h with ⟨k1, k2, b, ea, q⟩ | ⟨k1, q⟩
  · rw [decide_eq_true (by omega)]
    have e4 : fR1 (fCons (fCB gLen (fCons (fVar 1) fNil)) fNil) [some f, some d, none] S = .ok (.of (rngD 0 ds.length)) S := by
      have e5 : fCons (fCB gLen (fCons (fVar 1) fNil)) fNil [some f, some d, none] S = .ok [.int (ds.length : Nat)] S := by
        unfold fCons
        show bnd (fCB gLen (fCons (fVar 1) fNil) [some f, some d, none] S) _ = _
        rw [e2]
        rfl
      have e6 := fR1_of e5 (by omega) (by omega)
      rw [Int.toNat_natCast] at e6
      exact e6
    show fin (fR1 _ [some f, some d, none] S) _ _
    rw [e4]
    show dLoop (fun S => (SrcF.of (rngD 0 ds.length)).ck S = true) (.nm 2) (bodyLike wx g) _ (rngD 0 ds.length) [some f, some d, none] S
    have er : rngD 0 ds.length = (List.range' 0 ds.length).map fun i => DL.D.int ((0 : Int) + (i : Nat)) := by
      unfold rngD
      rw [List.range_eq_range']
    rw [er]
    exact loopLike (b := b) (fun _ => rfl) hf hd k1 (fun hb c' => by subst hb; exact hQ _ q) (fun hb => by subst hb; exact hQ _ q) ds.length 0 none (by omega) (by rw [List.drop_zero, List.drop_zero]; exact ea)
  · rw [decide_eq_false (by omega)]
    exact hQ _ q
section
variable {P : Program} {w : World} {K : PySem.W.Frag} {mg : Str → Option Value} {base : Heap} {k : Nat} {f : Addr} {fd : FuncData}
theorem step_like {g : List DL.D → PR DL.D} (F : Fun K "_law_like" "_law_like" (top 35) f fd) (b : Binds K fd ["_law_found", "_law_due"] []) (b_len : mg "len" = none) (b_range : mg "range" = none) (b_isinstance : mg "isinstance" = none) (b_int : mg "int" = none) (b_str : mg "str" = none) (b_bool : mg "bool" = none) (b_tuple : mg "tuple" = none) (b_list : mg "list" = none)
    (m__law_like : mg "_law_like" = some (.ref f)) (F__law_like : FnD P w K mg base k f (spO 2 (pur g))) : FnD P w K mg base (k + 1) f (spO 2 (pur (likeR g))) := by
  refine fnD_ok F b scLike spO_mono spO_len fun X cdv A outer s H E wx eX hr tk po => ?_
  have hu : X.A.units + 64 < cLine := by have := hr.un; omega
  subst eX
  have sc := @scLike
  refine ⟨_, (dss_cons (ds_if (ft_w (fun c _ S => dnX wx c S) (ft_val (fe_isi (by rfl) b_isinstance (by rfl) b_bool (by rfl) (by decide +kernel) (fv 1)))) (dss_one (ds_ret (fe_w (fun c _ S => dnX wx c S) (fe_and (fe_isi (by rfl) b_isinstance (by rfl) b_bool (by rfl) (by decide +kernel) (fv 0)) (fe_one (fe_cmp (fop_eq hu) (fv 0) (fv 1) (by with_unfolding_all rfl))))))) dss_nil)
      (dss_cons (ds_if (ft_w (fun c _ S => dnX wx c S) (ft_val (fe_isi (by rfl) b_isinstance (by rfl) b_str (by rfl) (by decide +kernel) (fv 1)))) (dss_one (ds_ret (fe_w (fun c _ S => dnX wx c S) (fe_and (fe_isi (by rfl) b_isinstance (by rfl) b_str (by rfl) (by decide +kernel) (fv 0)) (fe_one (fe_cmp (fop_eq hu) (fv 0) (fv 1) (by with_unfolding_all rfl))))))) dss_nil)
      (dss_cons (ds_if (ft_w (fun c _ S => dnX wx c S) (ft_val (fe_isi (by rfl) b_isinstance (by rfl) b_int (by rfl) (by decide +kernel) (fv 1)))) (dss_one (ds_ret (fe_w (fun c _ S => dnX wx c S) (fe_and (fe_isi (by rfl) b_isinstance (by rfl) b_int (by rfl) (by decide +kernel) (fv 0)) (fe_and (fe_not (fe_isi (by rfl) b_isinstance (by rfl) b_bool (by rfl) (by decide +kernel) (fv 0))) (fe_one (fe_cmp (fop_eq hu) (fv 0) (fv 1) (by with_unfolding_all rfl)))))))) dss_nil)
      (dss_cons (ds_if (ft_w (fun c _ S => dnX wx c S) (ft_cmp fop_is (fv 1) fe_non (by with_unfolding_all rfl))) (dss_one (ds_ret (fe_w (fun c _ S => dnX wx c S) (fe_cmp fop_is (fv 0) fe_non (by with_unfolding_all rfl))))) dss_nil)
      (dss_cons (ds_if (ft_w (fun c _ S => dnX wx c S) (fw_or (ft_cmp (fop_ne hu) (fe_isi (by rfl) b_isinstance (by rfl) b_tuple (by rfl) (by decide +kernel) (fv 1)) (fe_isi (by rfl) b_isinstance (by rfl) b_tuple (by rfl) (by decide +kernel) (fv 0)) (by with_unfolding_all rfl)) (fw_or1 (ft_cmp (fop_ne hu) (fe_isi (by rfl) b_isinstance (by rfl) b_list (by rfl) (by decide +kernel) (fv 1)) (fe_isi (by rfl) b_isinstance (by rfl) b_list (by rfl) (by decide +kernel) (fv 0)) (by with_unfolding_all rfl)))).dt) (dss_one (ds_ret (fe_w (fun c _ S => dnX wx c S) fe_bl))) dss_nil)
      (dss_cons (ds_if (ft_w (fun c _ S => dnX wx c S) (ft_cmp (fop_ne hu) (fe_callB fcall_len (by rfl) b_len (by rfl) (fa_cons (fv 0) fa_nil)) (fe_callB fcall_len (by rfl) b_len (by rfl) (fa_cons (fv 1) fa_nil)) (by with_unfolding_all rfl))) (dss_one (ds_ret (fe_w (fun c _ S => dnX wx c S) fe_bl))) dss_nil)
      (dss_cons (ds_for po rfl (fi_w (fun c _ S => dnX wx c S) (fi_range1 (by rfl) b_range (fa_cons (fe_callB fcall_len (by rfl) b_len (by rfl) (fa_cons (fv 1) fa_nil)) fa_nil))) (pp_name (i := 2) sc.nd rfl (by first | exact .inl rfl | exact .inr rfl)) (dss_one (ds_if (ft_w (fun c _ S => dnX wx c S) (ft_not (ft_val (fe_call F__law_like hr (by rfl) m__law_like tk (fa_cons (fe_sub hu (fv 0) (fv 2)) (fa_cons (fe_sub hu (fv 1) (fv 2)) fa_nil)))))) (dss_one (ds_ret (fe_w (fun c _ S => dnX wx c S) fe_bl))) dss_nil)))
      (dss_one (ds_ret (fe_w (fun c _ S => dnX wx c S) fe_bl)))))))))), fun ds S Q h => ?_⟩
  clear hr tk po hu F__law_like F b
  obtain ⟨l, h⟩ := h
  match ds, l with
  | [f, d], _ =>
    by_cases nf : noRef f = true
    · have h : fin ((likeO g f d).out S) wx Q := by
        have e : pur (likeR g) [f, d] S = (if noRef f = true then likeO g f d else .no : PR DL.D).out S := rfl
        rw [e, if_pos nf] at h
        exact h
      have seq : ∀ (fs ds : List DL.D), (f = .tup fs ∧ d = .tup ds) ∨ (f = .lis fs ∧ d = .lis ds) → fin ((if fs.length = ds.length then (if ds.length ≤ 100000 then allR g fs ds else .no) else .ok (.bl false) : PR DL.D).out S) wx Q → (fs.length = ds.length ∧ ds.length ≤ 100000 ∧ ∃ b, allR g fs ds = .ok (.bl b) ∧ Q (.bl b) S) ∨ (fs.length ≠ ds.length ∧ Q (.bl false) S) := by
        intro fs ds _ h
        by_cases e1 : fs.length = ds.length
        · rw [if_pos e1] at h
          by_cases e2 : ds.length ≤ 100000
          · rw [if_pos e2] at h
            cases ea : allR g fs ds with
            | ok r =>
              obtain ⟨b, rfl⟩ := allR_bl ea
              rw [ea] at h
              exact .inl ⟨e1, e2, b, rfl, h⟩
            | er c => exact (allR_er ea).elim
            | no => rw [ea] at h; exact h.elim
          · rw [if_neg e2] at h; exact h.elim
        · rw [if_neg e1] at h
          exact .inr ⟨e1, h⟩
      have gsT : ∀ (xs : List DL.D) (i : Nat) x, xs[i]? = some x → atI xs (i : Nat) = some x := fun xs i x e => by
        have li : i < xs.length := (List.getElem?_eq_some_iff.mp e).1
        unfold atI ixN
        rw [if_pos (by omega), if_pos (by omega)]
        simpa using e
      rw [show startD ["_law_found", "_law_due", "_law_k"] [f, d] = [some f, some d, none] from rfl]
      cases d with
      | tup ds =>
        cases f with
        | tup fs => exact skipIf rfl (skipIf rfl (skipIf rfl (skipIf rfl (skipIf rfl (tail_ok (Q := fun r => Q r S) rfl rfl (gsT fs) (gsT ds) (fun r q => ⟨S, Less.refl, q⟩) (seq fs ds (.inl ⟨rfl, rfl⟩) h))))))
        | ref a => cases nf
        | fro a => cases nf
        | _ => exact skipIf rfl (skipIf rfl (skipIf rfl (skipIf rfl (takeRet rfl rfl ⟨S, Less.refl, h⟩))))
      | lis ds =>
        cases f with
        | lis fs => exact skipIf rfl (skipIf rfl (skipIf rfl (skipIf rfl (skipIf rfl (tail_ok (Q := fun r => Q r S) rfl rfl (gsT fs) (gsT ds) (fun r q => ⟨S, Less.refl, q⟩) (seq fs ds (.inr ⟨rfl, rfl⟩) h))))))
        | ref a => cases nf
        | fro a => cases nf
        | _ => exact skipIf rfl (skipIf rfl (skipIf rfl (skipIf rfl (takeRet rfl rfl ⟨S, Less.refl, h⟩))))
      | ref a => exact h.elim
      | fro a => exact h.elim
      | bl b => cases f <;> first | (cases nf; done) | exact takeRet rfl rfl ⟨S, Less.refl, h⟩
      | str b => cases f <;> first | (cases nf; done) | exact skipIf rfl (takeRet rfl rfl ⟨S, Less.refl, h⟩)
      | int b => cases f <;> first | (cases nf; done) | exact skipIf rfl (skipIf rfl (takeRet rfl rfl ⟨S, Less.refl, h⟩))
      | non => cases f <;> first | (cases nf; done) | exact skipIf rfl (skipIf rfl (skipIf rfl (takeRet rfl rfl ⟨S, Less.refl, h⟩)))
    · have e : pur (likeR g) [f, d] S = (if noRef f = true then likeO g f d else .no : PR DL.D).out S := rfl
      rw [e, if_neg nf] at h
      exact h.elim
end
end Hb
set_option maxRecDepth 100000
set_option maxHeartbeats 2000000
namespace Hb
open PySem L2 DL
theorem scLabels : FnScope ["_law_d", "_law_every", "_law_found", "_law_k", "_law_j"] ["_law_d"] (defScope (top 37)) := ⟨rfl, rfl, rfl, by decide +kernel, rfl, by decide +kernel, by decide +kernel⟩
def Lbl (x : Str) : Prop := 1 ≤ x.length ∧ x.length ≤ 3 ∧ ∀ c ∈ x.cps.toList, c ∈ LET.cps.toList
def spLabels : DSp := fun ds S Q _ => ∃ a, ds = [.ref a] ∧ Dc S a ∧ ∀ (ns : List Str) (S' : Sto) (p : Addr), (∀ x ∈ ns, Lbl x) → ns ≠ [] → ns.length ≤ 8 → Dc S' a → Off a S S' → S' p = none → Q (.ref p) (sup S' p (.lst (ns.map .str)))
theorem spLabels_mono : MonoSp spLabels := fun ds S Q Q' E E' h _ ⟨a, e, d, q⟩ => ⟨a, e, d, fun ns S' p h1 h2 h3 h4 h5 h6 => h _ _ (q ns S' p h1 h2 h3 h4 h5 h6)⟩
theorem spLabels_len : ∀ ds S Q E, spLabels ds S Q E → ds.length = 1 := fun ds S Q E ⟨a, e, _⟩ => by rw [e]; rfl
theorem atI_memA {α : Type} {xs : List α} {v : Int} (h1 : 0 ≤ v) (h2 : v < xs.length) : ∃ d, atI xs v = some d ∧ d ∈ xs := by
  have hlt : v.toNat < xs.length := by omega
  refine ⟨xs[v.toNat], ?_, List.getElem_mem hlt⟩
  have e2 : ixN xs.length v = some v.toNat := by
    unfold L2.ixN
    rw [if_pos h1, if_pos h2]
  unfold L2.atI
  rw [e2]
  exact List.getElem?_eq_getElem hlt
theorem ones_of : ∀ {ys : List DL.D}, (∀ d ∈ ys, ∃ c : Nat, d = .str ⟨#[c]⟩ ∧ c ∈ LET.cps.toList) → ∃ cs : List Nat, ys = cs.map (fun c => DL.D.str ⟨#[c]⟩) ∧ ∀ c ∈ cs, c ∈ LET.cps.toList
  | [], _ => ⟨[], rfl, fun c h => by cases h⟩
  | y :: ys, h => by
    obtain ⟨c, rfl, hc⟩ := h y List.mem_cons_self
    obtain ⟨cs, rfl, k⟩ := ones_of fun d hd => h d (List.mem_cons_of_mem _ hd)
    exact ⟨c :: cs, rfl, fun x hx => (List.mem_cons.mp hx).elim (fun q => q ▸ hc) (k x)⟩
theorem strsD_map : ∀ zs : List Str, strsD (zs.map DL.D.str) = some zs
  | [] => rfl
  | z :: zs => by
    rw [List.map_cons]
    unfold strsD
    rw [strsD_map zs]
    rfl
theorem join_cps : ∀ cs : List Nat, (Str.join (Str.ofString "") (cs.map fun c => (⟨#[c]⟩ : Str))).cps.toList = cs
  | [] => rfl
  | [c] => rfl
  | c :: d :: cs => by
    have ih := join_cps (d :: cs)
    rw [List.map_cons]
    rw [List.map_cons] at ih ⊢
    show ((⟨#[c]⟩ : Str) ++ Str.ofString "" ++ Str.join (Str.ofString "") ((⟨#[d]⟩ : Str) :: cs.map fun c => (⟨#[c]⟩ : Str))).cps.toList = _
    show ((#[c] ++ (Str.ofString "").cps) ++ (Str.join (Str.ofString "") ((⟨#[d]⟩ : Str) :: cs.map fun c => (⟨#[c]⟩ : Str))).cps).toList = _
    rw [Array.toList_append, ih]
    rfl
def gWord : FV := fBM "str" fJoin (fC (.str "")) (fCons (fLc (fR1 (fCons (fBin gAdd (fC (.int 1)) (fCall 2 gNext (fCons (fVar 0) (fCons (fC (.int 3)) fNil)))) fNil)) (.nm 4) fYes (DL.fSub (fVar 1) (fCall 2 gNext (fCons (fVar 0) (fCons (fC (.int 26)) fNil)))) [4]) fNil)
theorem word_ok {S : Sto} {a : Addr} {o2 o3 : Option DL.D} (d : Dc S a) : ∃ s S', gWord [some (.ref a), some (.str LET), o2, o3, none] S = .ok (.str s) S' ∧ Lbl s ∧ Dc S' a ∧ Off a S S' := by
  obtain ⟨v1, S1, e1, a1, a2, d1, o1⟩ := next_ok (n := 3) d (by decide) (by decide)
  have eA : fR1 (fCons (fBin gAdd (fC (.int 1)) (fCall 2 gNext (fCons (fVar 0) (fCons (fC (.int 3)) fNil)))) fNil) [some (.ref a), some (.str LET), o2, o3, none] S = .ok (.of (rngD 0 (1 + v1).toNat)) S1 := by
    refine fR1_of ?_ (by omega) (by omega)
    show bnd (bnd (if ([DL.D.ref a, DL.D.int 3] : List DL.D).length = 2 then gNext [.ref a, .int 3] S else .no) fun y S2 => opt (gAdd (.int 1) y S2) fun d => .ok d S2) _ = _
    rw [if_pos (show ([DL.D.ref a, DL.D.int 3] : List DL.D).length = 2 from rfl), e1]
    rfl
  have hL : LET.cps.toList.length = 26 := by decide
  have hz : LET.length ≤ sizeLine := by decide
  obtain ⟨ys, S3, e3, ⟨d3, o3'⟩, r3, l3⟩ := compF_inv (ck := (SrcF.of (rngD 0 (1 + v1).toNat)).ck) (p := .nm 4) (fe := DL.fSub (fVar 1) (fCall 2 gNext (fCons (fVar 0) (fCons (fC (.int 26)) fNil)))) (δ0 := [some (.ref a), some (.str LET), o2, o3, none]) (I := fun S' => Dc S' a ∧ Off a S1 S') (R := fun x => ∃ c : Nat, x = .str ⟨#[c]⟩ ∧ c ∈ LET.cps.toList) (fun _ => rfl) (rngD 0 (1 + v1).toNat) S1 ⟨d1, Off.refl⟩ (fun x _ S4 ⟨d4, o4⟩ => by
    obtain ⟨v5, S5, e5, c1, c2, d5, o5⟩ := next_ok (n := 26) d4 (by omega) (by omega)
    obtain ⟨y, ey, my⟩ := atI_memA (xs := LET.cps.toList) c1 (by rw [hL]; exact c2)
    refine ⟨[some (.ref a), some (.str LET), o2, o3, some x], rfl, .str ⟨#[y]⟩, S5, ?_, ⟨d5, o4.trans o5⟩, y, rfl, my⟩
    show bnd (if ([DL.D.ref a, DL.D.int 26] : List DL.D).length = 2 then gNext [.ref a, .int 26] S4 else .no) (fun y S2 => opt (DL.gSub (.str LET) y S2) fun d => .ok d S2) = _
    rw [if_pos (show ([DL.D.ref a, DL.D.int 26] : List DL.D).length = 2 from rfl), e5]
    show opt (if LET.length ≤ sizeLine then (atI LET.cps.toList v5).map fun c => DL.D.str ⟨#[c]⟩ else none) _ = _
    rw [if_pos hz, ey]
    rfl)
  obtain ⟨cs, rfl, hcs⟩ := ones_of r3
  have hl : cs.length = (1 + v1).toNat := by
    unfold rngD at l3
    simp at l3
    omega
  have em : cs.map (fun c => DL.D.str ⟨#[c]⟩) = (cs.map fun c => (⟨#[c]⟩ : Str)).map DL.D.str := by rw [List.map_map]; rfl
  have sz : (cs.map (fun c => DL.D.str ⟨#[c]⟩)).length ≤ sizeLine := by
    rw [List.length_map, hl]
    have : (5 : Nat) ≤ sizeLine := by decide
    omega
  have eL : fLc (fR1 (fCons (fBin gAdd (fC (.int 1)) (fCall 2 gNext (fCons (fVar 0) (fCons (fC (.int 3)) fNil)))) fNil)) (.nm 4) fYes (DL.fSub (fVar 1) (fCall 2 gNext (fCons (fVar 0) (fCons (fC (.int 26)) fNil)))) [4] [some (.ref a), some (.str LET), o2, o3, none] S = .ok (.lis (cs.map fun c => DL.D.str ⟨#[c]⟩)) S3 := by
    unfold fLc
    rw [eA]
    show bnd (compF _ _ _ _ _ _ S1) _ = _
    rw [show wipeD [some (DL.D.ref a), some (DL.D.str LET), o2, o3, none] [4] = [some (.ref a), some (.str LET), o2, o3, none] from rfl]
    rw [show (SrcF.of (rngD 0 (1 + v1).toNat)).items = rngD 0 (1 + v1).toNat from rfl, e3]
    show (if (cs.map fun c => DL.D.str ⟨#[c]⟩).length ≤ sizeLine then Out.ok (DL.D.lis (cs.map fun c => DL.D.str ⟨#[c]⟩)) S3 else .no) = _
    rw [if_pos sz]
  have hsum : ((cs.map fun c => (⟨#[c]⟩ : Str)).map (·.length)).sum = cs.length := by
    have : ∀ l : List Nat, ((l.map fun c => (⟨#[c]⟩ : Str)).map (·.length)).sum = l.length := by
      intro l
      induction l with
      | nil => rfl
      | cons c l ih =>
        rw [List.map_cons, List.map_cons, List.sum_cons, ih, List.length_cons]
        show 1 + l.length = _
        omega
    exact this cs
  have hg : Txt.join (Str.ofString "") (cs.map fun c => (⟨#[c]⟩ : Str)) = Str.join (Str.ofString "") (cs.map fun c => (⟨#[c]⟩ : Str)) := StrLaws.glued_eq_join _ _
  refine ⟨Txt.join (Str.ofString "") (cs.map fun c => (⟨#[c]⟩ : Str)), S3, ?_, ?_, d3, o1.trans o3'⟩
  · have ec : fCons (fLc (fR1 (fCons (fBin gAdd (fC (.int 1)) (fCall 2 gNext (fCons (fVar 0) (fCons (fC (.int 3)) fNil)))) fNil)) (.nm 4) fYes (DL.fSub (fVar 1) (fCall 2 gNext (fCons (fVar 0) (fCons (fC (.int 26)) fNil)))) [4]) fNil [some (.ref a), some (.str LET), o2, o3, none] S = .ok [.lis (cs.map fun c => DL.D.str ⟨#[c]⟩)] S3 := by
      show bnd (fLc _ _ _ _ _ [some (DL.D.ref a), some (DL.D.str LET), o2, o3, none] S) _ = _
      rw [eL]
      rfl
    show bnd (fCons (fLc _ _ _ _ _) fNil [some (DL.D.ref a), some (DL.D.str LET), o2, o3, none] S) (fun ds S2 => opt (fJoin (DL.D.str "") ds S2) fun d => Out.ok d S2) = _
    rw [ec]
    show opt (fJoin (DL.D.str "") [DL.D.lis (cs.map fun c => DL.D.str ⟨#[c]⟩)] S3) _ = _
    have ej : fJoin (DL.D.str "") [DL.D.lis (cs.map fun c => DL.D.str ⟨#[c]⟩)] S3 = some (.str (Txt.join (Str.ofString "") (cs.map fun c => (⟨#[c]⟩ : Str)))) := by
      show (Option.bind (some (cs.map fun c => DL.D.str ⟨#[c]⟩)) fun xs => (strsD xs).bind fun ys => if (ys.map (·.length)).sum + ys.length * (Str.ofString "").length ≤ 16777216 then some (DL.D.str (Txt.join (Str.ofString "") ys)) else none) = _
      rw [Option.bind_some, em, strsD_map, Option.bind_some, hsum, if_pos (by have : (Str.ofString "").length = 0 := by decide
                                                                              rw [this]; omega)]
    rw [ej]
    rfl
  · rw [hg]
    have hc := join_cps cs
    have hn : (Str.join (Str.ofString "") (cs.map fun c => (⟨#[c]⟩ : Str))).length = cs.length := by
      show (Str.join (Str.ofString "") (cs.map fun c => (⟨#[c]⟩ : Str))).cps.size = _
      rw [← Array.length_toList, hc]
    exact ⟨by rw [hn]; omega, by rw [hn]; omega, fun c h => hcs c (by rw [hc] at h; exact h)⟩
theorem nodup_len : ∀ (ns ys : List Str), ns.Nodup → (∀ x ∈ ns, x ∈ ys) → ns.length ≤ ys.length
  | [], _, _, _ => Nat.zero_le _
  | n :: ns, ys, nd, h => by
    obtain ⟨h1, h2⟩ := List.nodup_cons.mp nd
    have hn := h n List.mem_cons_self
    have ih := nodup_len ns (ys.erase n) h2 fun x hx => (List.mem_erase_of_ne (fun z => h1 (by rw [← z]; exact hx))).mpr (h x (List.mem_cons_of_mem _ hx))
    rw [List.length_erase_of_mem hn] at ih
    have := List.length_pos_of_mem hn
    rw [List.length_cons]
    omega
theorem lbl_q : Lbl (Str.ofString "q") := ⟨by decide, by decide, by decide⟩
section
variable {P : Program} {w : World} {K : PySem.W.Frag} {mg : Str → Option Value} {base : Heap} {k : Nat} {f : Addr} {fd : FuncData}
theorem ok_labels {fn : Addr} (F : Fun K "_law_labels" "_law_labels" (top 37) f fd) (b : Binds K fd ["_law_d"] []) (b_range : mg "range" = none) (b_sorted : mg "sorted" = none) (b_set : mg "set" = none) (m__law_next : mg "_law_next" = some (.ref fn)) (F__law_next : FnD P w K mg base (k + 1) fn (spO 2 gNext)) : FnD P w K mg base (k + 2) f spLabels := by
  refine fnD_ok F b scLabels spLabels_mono spLabels_len fun X cdv A outer s H E wx eX hr tk po => ?_
  have hu : X.A.units + 64 < cLine := by have := hr.un; omega
  subst eX
  have sc := @scLabels
  have G__law_next := frG_next
  refine ⟨_, (dss_cons (ds_set (i := 1) sc.nd rfl (by first | exact .inl rfl | exact .inr rfl) (fe_w (fun c _ S => dnX wx c S) fe_str))
      (dss_cons (ds_set (i := 2) sc.nd rfl (by first | exact .inl rfl | exact .inr rfl) (de_lst (fa_w (fun c _ S => dnX wx c S) fa_nil)))
      (dss_cons (ds_for po rfl (fi_w (fun c _ S => dnX wx c S) (fi_range1 (by rfl) b_range (fa_cons (fe_op fop_add fe_int (fe_call F__law_next hr (by rfl) m__law_next tk (fa_cons (fv 0) (fa_cons fe_int fa_nil)))) fa_nil))) (pp_name (i := 3) sc.nd rfl (by first | exact .inl rfl | exact .inr rfl)) (dss_one (ds_expr (de_bm PySem.F.plainAttrs_list PySem.F.slot_list_append PySem.F.type_list_append dmt_append (fe_w (fun c _ S => dnX wx c S) (fv 2)) (fa_w (fun c _ S => dnX wx c S) (fa_cons (fe_bm PySem.F.plainAttrs_str PySem.F.slot_str_join PySem.F.type_str_join dmt_join fe_str (fa_cons (fe_lc rfl sc.nd (fi_range1 (by rfl) b_range (fa_cons (fe_op fop_add fe_int (fe_call F__law_next hr (by rfl) m__law_next tk (fa_cons (fv 0) (fa_cons fe_int fa_nil)))) fa_nil)) (own := [("_law_j", 4)]) (blk_ok (N := ["_law_d", "_law_every", "_law_found", "_law_k", "_law_j"]) (sc := (defScope (top 37))) (by rfl) (by decide +kernel)) (by decide +kernel) (fun _ _ _ _ _ => (pp_name (i := 4) sc.nd rfl (by first | exact .inl rfl | exact .inr rfl))) (fun _ _ _ _ _ => fts_nil) (fun _ _ _ _ _ => (fe_sub hu (fv 1) (fe_call F__law_next hr (by rfl) m__law_next TakesD.none (fa_cons (fv 0) (fa_cons fe_int fa_nil))))) frF_yes (frF_sub mg_sub frF_var (frF_call G__law_next (frF_cons frF_var (frF_cons frF_c frF_nil))))) fa_nil)) fa_nil))))))
      (dss_one (ds_ret (de_sortSet rfl (by rfl) b_sorted (by rfl) b_set (fa_w (fun c _ S => dnX wx c S) (fa_cons (fe_op fop_add (fv 2) (fe_lst (fa_cons fe_str fa_nil))) fa_nil)))))))), fun ds S Q h => ?_⟩
  clear hr tk po hu F__law_next F b
  obtain ⟨a, rfl, d0, h⟩ := h
  have naq : ∀ q, S q = none → a ≠ q := fun q n z => by
    obtain ⟨_, _, _, _, e, _⟩ := d0
    rw [z, n] at e
    cases e
  refine ⟨by decide, fun q hq => ?_⟩
  have hne := naq q hq
  have dS : ∀ {S1 : Sto} {o : DO}, Dc S1 a → Dc (sup S1 q o) a := fun {S1 o} ⟨ns, i, m, h, e, hi⟩ => ⟨ns, i, m, h, by rw [sup_ne hne]; exact e, hi⟩
  obtain ⟨v1, S1, e1, a1, a2, d1, o1⟩ := next_ok (n := 3) (dS (o := .lst []) d0) (by decide) (by decide)
  have eA : fR1 (fCons (fBin gAdd (fC (.int 2)) (fCall 2 gNext (fCons (fVar 0) (fCons (fC (.int 3)) fNil)))) fNil) [some (.ref a), some (.str LET), some (.ref q), none, none] (sup S q (.lst [])) = .ok (.of (rngD 0 (2 + v1).toNat)) S1 := by
    refine fR1_of ?_ (by omega) (by omega)
    show bnd (bnd (if ([DL.D.ref a, DL.D.int 3] : List DL.D).length = 2 then gNext [.ref a, .int 3] (sup S q (.lst [])) else .no) fun y S2 => opt (gAdd (.int 2) y S2) fun d => .ok d S2) _ = _
    rw [if_pos (show ([DL.D.ref a, DL.D.int 3] : List DL.D).length = 2 from rfl), e1]
    rfl
  show fin (fR1 _ [some (DL.D.ref a), some (DL.D.str LET), some (DL.D.ref q), none, none] (sup S q (.lst []))) _ _
  rw [eA]
  show dLoop (fun S => (SrcF.of (rngD 0 (2 + v1).toNat)).ck S = true) _ _ _ (rngD 0 (2 + v1).toNat) [some (.ref a), some (.str LET), some (.ref q), none, none] S1
  suffices go : ∀ (xs : List DL.D) (acc : List Str) (o3 : Option DL.D) (S' : Sto), S' q = some (.lst (acc.map .str)) → (∀ x ∈ acc, Lbl x) → Dc S' a → (∀ b, b ≠ a → b ≠ q → S' b = S b) → acc.length + xs.length ≤ 7 →
      dLoop (fun S => (SrcF.of (rngD 0 (2 + v1).toNat)).ck S = true) (.nm 3) _ _ xs [some (.ref a), some (.str LET), some (.ref q), o3, none] S' from
    go (rngD 0 (2 + v1).toNat) [] none S1 (by rw [o1 q (Ne.symm hne), sup_same]; rfl) (fun x hx => by cases hx) d1 (fun b h1 h2 => by rw [o1 b h1, sup_ne h2]) (by
      unfold rngD
      rw [List.length_map, List.length_range]
      show 0 + _ ≤ 7
      omega)
  intro xs
  induction xs with
  | nil =>
    intro acc o3 S' hS hL hD hO hl
    refine ⟨rfl, ?_⟩
    have big : (8 : Nat) ≤ sizeLine := by decide
    have eg : gAdd (.ref q) (.lis [.str "q"]) S' = some (.lis ((acc ++ [Str.ofString "q"]).map DL.D.str)) := by
      unfold gAdd
      simp only [seqM, hS, Option.bind_some]
      rw [if_pos (by rw [List.length_map]; show acc.length + 1 ≤ _; simp at hl; omega), List.map_append]
      rfl
    show fin (bnd (opt (gAdd (.ref q) (.lis [.str "q"]) S') fun d => Out.ok d S') fun y S2 => bnd (Out.ok [] S2) fun ys S3 => Out.ok (y :: ys) S3) _ _
    rw [eg]
    show (match (seqM S' (.lis ((acc ++ [Str.ofString "q"]).map DL.D.str))).bind strsD with
      | some ys => ys.length < 1000 ∧ ∀ ns, PyProof.Rows.sortedS ns = true → ns.Nodup → (∀ k, k ∈ ns ↔ k ∈ ys) → ∀ p, S' p = none → dn Q (.ref p) (sup S' p (.lst (ns.map DL.D.str)))
      | none => False)
    have es : (seqM S' (.lis ((acc ++ [Str.ofString "q"]).map DL.D.str))).bind strsD = some (acc ++ [Str.ofString "q"]) := strsD_map _
    rw [es]
    refine ⟨by rw [List.length_append]; show acc.length + 1 < 1000; simp at hl; omega, fun ns _ hn hk p hp => ?_⟩
    have d9 : Dc (dlS S' q) a := by
      obtain ⟨ns', i, m, h', e, hi⟩ := hD
      refine ⟨ns', i, m, h', ?_, hi⟩
      unfold dlS
      rw [if_neg hne]
      exact e
    have o9 : Off a S (dlS S' q) := fun b hb => by
      unfold dlS
      by_cases z : b = q
      · rw [if_pos z, z, hq]
      · rw [if_neg z]; exact hO b hb z
    have p9 : dlS S' q p = none := by
      unfold dlS
      split
      · rfl
      · exact hp
    refine ⟨_, fun b u e => ?_, h ns (dlS S' q) p (fun x hx => (List.mem_append.mp ((hk x).mp hx)).elim (hL x) fun z => by rw [List.mem_singleton.mp z]; exact lbl_q) (fun z => ?_) ?_ d9 o9 p9⟩
    · by_cases z : b = p
      · subst z
        rw [sup_same] at e ⊢
        exact e
      · rw [sup_ne z] at e ⊢
        unfold dlS at e
        split at e
        · cases e
        · exact e
    · have := (hk (Str.ofString "q")).mpr (List.mem_append_right _ (List.mem_singleton.mpr rfl))
      rw [z] at this
      cases this
    · have := nodup_len ns (acc ++ [Str.ofString "q"]) hn fun x hx => (hk x).mp hx
      rw [List.length_append] at this
      have h1 : [Str.ofString "q"].length = 1 := rfl
      simp at hl
      omega
  | cons x xs ih =>
    intro acc o3 S' hS hL hD hO hl
    refine ⟨rfl, ?_⟩
    obtain ⟨s9, S2, ew, lw, dw, ow⟩ := word_ok (o2 := some (.ref q)) (o3 := some x) hD
    have hS2 : S2 q = some (.lst (acc.map .str)) := by rw [ow q (Ne.symm hne)]; exact hS
    rw [List.length_cons] at hl
    have big : (8 : Nat) ≤ sizeLine := by decide
    show tyM S' (.ref q) = some "list" ∧ fin (fCons gWord fNil [some (.ref a), some (.str LET), some (.ref q), some x, none] S') _ _
    refine ⟨by simp only [tyM, hS], ?_⟩
    have ec : fCons gWord fNil [some (.ref a), some (.str LET), some (.ref q), some x, none] S' = .ok [.str s9] S2 := by
      show bnd (gWord [some (.ref a), some (.str LET), some (.ref q), some x, none] S') _ = _
      rw [ew]
      rfl
    rw [ec]
    rw [fin_ok]
    unfold rAppendD
    dsimp only
    rw [hS2]
    refine ⟨by rw [List.length_map]; omega, ?_⟩
    exact ih (acc ++ [s9]) (some x) _ (by rw [sup_same, List.map_append]; rfl) (fun y hy => (List.mem_append.mp hy).elim (hL y) fun z => by rw [List.mem_singleton.mp z]; exact lw) (dS dw) (fun b h1 h2 => by rw [sup_ne h2, ow b h1, hO b h1 h2]) (by rw [List.length_append, List.length_singleton]; omega)
end
end Hb
set_option maxRecDepth 100000
set_option maxHeartbeats 1000000
namespace Hb
open PySem L2 DL
def initOf (i : Nat) : Stmt := match top i with
  | .ClassDef _ _ _ body .. => body.getD 0 (.Pass ⟨0, 0, 0, 0⟩)
  | s => s
theorem scIni : FnScope ["self", "row"] ["self", "row"] (defScope (initOf 10)) := ⟨rfl, rfl, rfl, by decide +kernel, rfl, by decide +kernel, by decide +kernel⟩
section
variable {P : Program} {w : World} {K : PySem.W.Frag} {mg : Str → Option Value} {base : Heap} {k : Nat} {f : Addr} {fd : FuncData}
structure IniC (K : PySem.W.Frag) (C0 : Addr) : Prop where
  rd : PySem.W.readsIn K C0 (.type "type") = true
  ga : PySem.W.specialIn K (.ref C0) "__getattribute__" = some (some (.builtin "type.__getattribute__"))
  fc : PySem.W.findCls K (.ref C0) (.type "type") "__init__" = some (.val (.builtin "ValueError.__init__"))
def iniB (K : PySem.W.Frag) (C0 : Addr) : Bool := PySem.W.readsIn K C0 (.type "type") && (decide (PySem.W.specialIn K (.ref C0) "__getattribute__" = some (some (.builtin "type.__getattribute__"))) &&
  match PySem.W.findCls K (.ref C0) (.type "type") "__init__" with
    | some (.val v) => decide (v = .builtin "ValueError.__init__")
    | _ => false)
theorem ini_ok {C0 : Addr} (h : iniB K C0 = true) : IniC K C0 := by
  unfold iniB at h
  simp only [Bool.and_eq_true, decide_eq_true_eq] at h
  obtain ⟨h1, h2, h3⟩ := h
  refine ⟨h1, h2, ?_⟩
  split at h3
  · rename_i v e
    rw [e, of_decide_eq_true h3]
  · cases h3
theorem ok_ini {qual : Str} {C0 : Addr} (F : Fun K "__init__" qual (initOf 10) f fd) (m_BookError : mg "BookError" = some (.ref C0)) (I0 : IniC K C0) : FnOk P w K mg base (L2.CX P w) (k + 1) f fd ["self", "row"] (spIni K "row") := by
  refine F.okX scIni (fun vs H Q E ⟨a, C, i, e, _⟩ => by rw [e]; rfl) (fun cdv A outer s H vs Q E hr ⟨a, C, i, e, ea, T, hno, hl, q⟩ => ?_)
  subst e
  refine ⟨_, pss_cons (ps_expr (pe_ovinit (by rfl) m_BookError I0.rd I0.ga I0.fc (pa_cons (pv 0) (pa_cons (pe_joined (PJ.cons pe_str (PJ.cons (pe_fmt (pv 1)) (PJ.cons pe_str PJ.nil)))) pa_nil)))) (pss_one (ps_ost (f := "row") (pv 0) (pv 1))), ?_⟩
  have h1 := PyProof.Rows.int_text_len_1921 (i := i) (by omega)
  have s2 : (3000 : Nat) ≤ sizeLine := by decide
  have hlen : ∀ x y : Str, (x ++ y).length = x.length + y.length := fun x y => by
    show (x.cps ++ y.cps).size = _
    rw [Array.size_append]
    rfl
  have z0 : Str.empty.length = 0 := rfl
  have z1 : (Str.ofString "row ").length = 4 := by decide
  have z2 : (Str.ofString " writes no entry").length = 16 := by decide
  refine ⟨_, rfl, ⟨_, rfl, by rw [hlen, z0, z1]; omega, ⟨_, rfl, .inr ⟨i, rfl, by omega, ⟨_, rfl, by rw [hlen, hlen, z0, z1]; show _ + (Str.ofString (toString i)).length ≤ _; omega, ⟨_, rfl, by rw [hlen, hlen, hlen, z0, z1, z2]; show _ + (Str.ofString (toString i)).length + _ ≤ _; omega, ?_⟩⟩⟩⟩⟩⟩
  refine ⟨a, C, _, rfl, by simp, T, ea, ?_⟩
  refine ⟨_, rfl, _, rfl, a, C, rfl, T, hno, .inl ⟨ea, fun dx n ne => ?_⟩⟩
  exact q dx n ne
theorem era_row {qual : Str} {C0 C : Addr} (F : Fun K "__init__" qual (initOf 10) f fd) (b : Binds K fd ["self", "row"] []) (m_BookError : mg "BookError" = some (.ref C0)) (I0 : IniC K C0) (T : OexC K C) (hno : PySem.W.findIn K (.ref C) "row" = some none) (iC : PySem.W.findIn K (.ref C) "__init__" = some (some (.ref f))) (tI : PySem.W.typeIn K (.ref f) = some (.type "function")) :
    Era P w K mg base (k + 1) C "row" := ⟨T, hno, f, fd, _, iC, tI, ok_ini F m_BookError I0, b⟩
end
end Hb
set_option maxRecDepth 100000
namespace DL
open PySem L2
def frzAt (i : Nat) (n : DEnv → Sto → Prop) : DEnv → Sto → Prop := fun δ S => match δ[i]? with
  | some (some (.ref p)) => (match S p with
    | some (.lst xs) => n (δ.set i (some (.lis xs))) (dlS S p)
    | _ => n δ S)
  | _ => n δ S
theorem frzAt_mono {i : Nat} {n n' : DEnv → Sto → Prop} (h : ∀ δ S, n δ S → n' δ S) {δ : DEnv} {S : Sto} (q : frzAt i n δ S) : frzAt i n' δ S := by
  unfold frzAt at *
  split at q
  · split at q
    · exact h _ _ q
    · exact h _ _ q
  · exact h _ _ q
def sFrzAt (i : Nat) (t : TDS) : TDS := fun D δ S => t { D with nx := frzAt i D.nx } δ S
section
variable {X : Cx} {st : Stmt} {t : TDS} {i : Nat}
theorem ds_frzAt (i : Nat) (h : DS X st t) : DS X st (sFrzAt i t) := by
  refine ⟨fun D D' δ S l q => h.mono { D with nx := frzAt i D.nx } _ _ _ ⟨fun δ1 S1 z => frzAt_mono l.nx z, l.rt, l.bk, l.ct⟩ q, ⟨fun pins s σ H D I ⟨δ, S, R, q⟩ => ?_⟩⟩
  have q2 : upS X t { D with nx := fun σ1 H1 => ∃ δ1 S1, Rel X δ1 S1 σ1 H1 ∧ TupP X.K H H1 ∧ frzAt i (kN X H D.nx) δ1 S1 } σ H :=
    ⟨δ, S, R, h.mono { kS X H D with nx := frzAt i (kN X H D.nx) } _ _ _ ⟨fun δ1 S1 z σ1 H1 R1 t1 => ⟨δ1, S1, R1, t1, z⟩, fun _ _ z => z, fun _ _ z => z, fun _ _ z => z⟩ q⟩
  refine wpAny_mono (h.ps.run pins s σ H _ I q2) (fun f s' z => ?_) fun e s' z => z
  cases f with
  | next =>
    obtain ⟨σ1, H1, J, δ1, S1, R1, t1, z⟩ := z
    unfold frzAt at z
    split at z
    · rename_i p ep
      split at z
      · rename_i xs e1
        have il : i < δ1.length := (List.getElem?_eq_some_iff.mp ep).1
        obtain ⟨vs, h1, d1⟩ := R1.sto _ _ e1
        obtain ⟨od, I2⟩ := J.lock h1 trivial
        have t2 : TupP X.K H1 (upd H1 p (.frz od (.lst vs))) := R1.tup_change e1
        have R2 := rel_lock (od := od) R1 h1 e1 trivial
        refine ⟨σ1, _, I2, z σ1 _ ⟨by rw [List.length_set]; exact R2.len, fun j dj ej => ?_, R2.sto⟩ (t1.trans t2)⟩
        by_cases hj : j = i
        · subst hj
          rw [List.getElem?_set_self il] at ej
          cases ej
          obtain ⟨v, ev, dv0⟩ := R2.loc j (.ref p) ep
          rw [dv_ref] at dv0
          exact ⟨v, ev, dv_lis.mpr ⟨p, vs, dv0, ⟨od, upd_same⟩, d1.mono t2⟩⟩
        · rw [List.getElem?_set_ne (fun z => hj z.symm)] at ej
          exact R2.loc j dj ej
      · exact ⟨σ1, H1, J, z σ1 H1 R1 t1⟩
    · exact ⟨σ1, H1, J, z σ1 H1 R1 t1⟩
  | brk => exact z
  | cont => exact z
  | ret u => exact z
end
end DL
set_option maxRecDepth 100000
namespace DL
open PySem L2
theorem compF_filt {ck : Sto → Bool} {p : Pat} {ft : FB} {fe : FV} {δ0 : DEnv} {S : Sto} {b : D → Bool} {h : D → D} (hc : ck S = true) : ∀ (xs : List D), (∀ x ∈ xs, ∃ δ1, bindP p x δ0 = some δ1 ∧ ft δ1 S = .ok (b x) S ∧ (b x = true → fe δ1 S = .ok (h x) S)) → compF ck p ft fe δ0 xs S = .ok ((xs.filter b).map h) S
  | [], _ => by unfold compF; rw [if_pos hc]; rfl
  | x :: xs, k => by
    obtain ⟨δ1, e1, e2, e3⟩ := k x List.mem_cons_self
    have ih := compF_filt hc xs fun y hy => k y (List.mem_cons_of_mem _ hy)
    unfold compF
    rw [if_pos hc, e1]
    show bnd (noE (ft δ1 S)) (fun b S1 => if b = true then bnd (noE (fe δ1 S1)) fun d S2 => bnd (compF ck p ft fe δ0 xs S2) fun ds S3 => .ok (d :: ds) S3 else compF ck p ft fe δ0 xs S1) = _
    rw [e2]
    show (if b x = true then bnd (noE (fe δ1 S)) fun d S2 => bnd (compF ck p ft fe δ0 xs S2) fun ds S3 => .ok (d :: ds) S3 else compF ck p ft fe δ0 xs S) = _
    cases hb : b x with
    | false => rw [if_neg (by simp), ih, List.filter_cons_of_neg (by simp [hb])]
    | true =>
      rw [if_pos rfl, e3 hb, List.filter_cons_of_pos hb]
      show bnd (compF ck p ft fe δ0 xs S) (fun ds S3 => .ok (h x :: ds) S3) = _
      rw [ih]
      rfl
theorem pds_strs : ∀ zs : List Str, pds (zs.map D.str) = some (zs.map PyData.str)
  | [] => by rw [List.map_nil, pds]; rfl
  | z :: zs => by
    rw [List.map_cons, pds, pds_strs zs, pd]
    rfl
theorem canLay_strs : ∀ zs : List Str, (∀ z ∈ zs, (PyData.str z).canLay0 = true) → PyData.canLayAll0 (zs.map PyData.str) = true
  | [], _ => by rw [List.map_nil, PyData.canLayAll0]
  | z :: zs, h => by
    rw [List.map_cons, PyData.canLayAll0, h z List.mem_cons_self, canLay_strs zs fun y hy => h y (List.mem_cons_of_mem _ hy)]
    rfl
theorem depth_strs : ∀ zs : List Str, PyData.depthAll (zs.map PyData.str) = 0
  | [] => by rw [List.map_nil, PyData.depthAll]
  | z :: zs => by
    rw [List.map_cons, PyData.depthAll, depth_strs zs, PyData.depth]
    rfl
theorem shaped_strs {zs : List Str} (h : ∀ z ∈ zs, (PyData.str z).canLay0 = true) : SeqAt.shaped (.list (zs.map PyData.str)) = true := by
  unfold SeqAt.shaped
  rw [PyData.canLay0, canLay_strs zs h, PyData.depth, depth_strs]
  rfl
theorem eqv_any {z : Str} : ∀ zs : List Str, ((zs.map PyData.str).any fun p => PyData.eqv p (.str z)) = decide (z ∈ zs)
  | [] => by simp
  | y :: zs => by
    rw [List.map_cons, List.any_cons, eqv_any zs, eqv_str]
    by_cases h : y = z
    · subst h; simp
    · have h2 : ¬ z = y := fun e => h e.symm
      simp [h, h2]
end DL
set_option maxRecDepth 100000
set_option maxHeartbeats 1000000
namespace Hb
open PySem L2 DL
def azB (c : Nat) : Bool := !DL.ltS ⟨#[c]⟩ (Str.ofString "a") && !DL.ltS (Str.ofString "z") ⟨#[c]⟩
def badSigns (z : Str) : List Nat := z.cps.toList.filter fun c => !azB c
def lblB (z : Str) : Bool := (decide (1 ≤ z.length) && decide (z.length ≤ 3)) && (badSigns z).isEmpty
def fSigns : FV := fLc (fAny (fVar 4)) (.nm 5) (fNot (tst (fChain (fOrd (fun i j => decide (i ≤ j)) fun i j => !DL.ltS j i) (fOrd (fun i j => decide (i ≤ j)) fun i j => !DL.ltS j i) (fC (.str "a")) (fVar 5) (fC (.str "z"))))) (fVar 5) [5]
theorem signs_ok {o0 o1 o2 o3 : Option DL.D} {z : Str} {S : Sto} (hz : z.length ≤ sizeLine) : fSigns [o0, o1, o2, o3, some (.str z), none] S = .ok (.lis (((badSigns z).map fun c => (⟨#[c]⟩ : Str)).map DL.D.str)) S := by
  have hb : ∀ l : List Nat, ((l.map fun c => DL.D.str ⟨#[c]⟩).filter fun x => match x with
      | .str y => (match y.cps.toList with
        | [c] => !azB c
        | _ => false)
      | _ => false) = (l.filter fun c => !azB c).map fun c => DL.D.str ⟨#[c]⟩ := by
    intro l
    induction l with
    | nil => rfl
    | cons c l ih =>
      rw [List.map_cons]
      cases h : (!azB c) with
      | true => rw [List.filter_cons_of_pos (by exact h), ih, List.filter_cons_of_pos (by exact h)]; rfl
      | false => rw [List.filter_cons_of_neg (by intro q; have q : (!azB c) = true := q; rw [h] at q; cases q), ih, List.filter_cons_of_neg (by rw [h]; simp)]
  have e1 := compF_filt (ck := (SrcF.of (sgn z)).ck) (p := .nm 5) (ft := fNot (tst (fChain (fOrd (fun i j => decide (i ≤ j)) fun i j => !DL.ltS j i) (fOrd (fun i j => decide (i ≤ j)) fun i j => !DL.ltS j i) (fC (.str "a")) (fVar 5) (fC (.str "z"))))) (fe := fVar 5) (δ0 := [o0, o1, o2, o3, some (.str z), none]) (S := S) (b := fun x => match x with
      | .str y => (match y.cps.toList with
        | [c] => !azB c
        | _ => false)
      | _ => false) (h := id) rfl (sgn z) (fun x hx => by
    obtain ⟨n, _, rfl⟩ : ∃ n, n ∈ z.cps.toList ∧ x = .str ⟨#[n]⟩ := by
      unfold sgn at hx
      simpa [eq_comm] using hx
    refine ⟨[o0, o1, o2, o3, some (.str z), some (.str ⟨#[n]⟩)], rfl, ?_, fun _ => rfl⟩
    show bnd (tst (fChain _ _ _ _ _) [o0, o1, o2, o3, some (.str z), some (.str ⟨#[n]⟩)] S) _ = _
    have ec : tst (fChain (fOrd (fun i j => decide (i ≤ j)) fun i j => !DL.ltS j i) (fOrd (fun i j => decide (i ≤ j)) fun i j => !DL.ltS j i) (fC (.str "a")) (fVar 5) (fC (.str "z"))) [o0, o1, o2, o3, some (.str z), some (.str ⟨#[n]⟩)] S = .ok (azB n) S := by
      unfold azB
      cases h1 : (!DL.ltS ⟨#[n]⟩ (Str.ofString "a")) with
      | true => simp [sSeq, sIf, sRet, sRetN, sAsg, gN, sNext, sDrop, sPutP, setD, optP_some, optP_none, upF, upB, upAs, fin_ok, fin_er, fin_no, bnd_ok, bnd_er, bnd_no, opt_some, opt_none, fVar, fC, fBin, tst, DL.tTup, fAnd, fOr, fNot, fAndV, fOrV, fNotV, fIf, fNeg, fNil, fCons, fTup, fLst, fCB, fBM, fIsi, fCall, fChain, gInt, fOrd, gLen, lenD, tyD, startD, isTy, noE_ok, DL.fSub, DL.gSub, lookD, gIx, seqA, seqL, L2.atI, L2.ixN, h1]
      | false => simp [sSeq, sIf, sRet, sRetN, sAsg, gN, sNext, sDrop, sPutP, setD, optP_some, optP_none, upF, upB, upAs, fin_ok, fin_er, fin_no, bnd_ok, bnd_er, bnd_no, opt_some, opt_none, fVar, fC, fBin, tst, DL.tTup, fAnd, fOr, fNot, fAndV, fOrV, fNotV, fIf, fNeg, fNil, fCons, fTup, fLst, fCB, fBM, fIsi, fCall, fChain, gInt, fOrd, gLen, lenD, tyD, startD, isTy, noE_ok, DL.fSub, DL.gSub, lookD, gIx, seqA, seqL, L2.atI, L2.ixN, h1]
    rw [ec]
    rfl)
  unfold fSigns fLc
  show bnd (compF _ _ _ _ _ (sgn z) S) _ = _
  rw [show wipeD [o0, o1, o2, o3, some (DL.D.str z), none] [5] = [o0, o1, o2, o3, some (.str z), none] from rfl, e1]
  have e2 : ((sgn z).filter fun x => match x with
      | .str y => (match y.cps.toList with
        | [c] => !azB c
        | _ => false)
      | _ => false).map id = ((badSigns z).map fun c => (⟨#[c]⟩ : Str)).map DL.D.str := by
    rw [List.map_id]
    unfold sgn badSigns
    rw [hb, List.map_map]
    rfl
  rw [e2]
  show (if _ then Out.ok (DL.D.lis (((badSigns z).map fun c => (⟨#[c]⟩ : Str)).map DL.D.str)) S else .no) = _
  rw [if_pos]
  rw [List.length_map, List.length_map]
  exact Nat.le_trans (List.length_filter_le _ _) hz
theorem eqv_empty : ∀ zs : List Str, PyData.eqv (.list (zs.map PyData.str)) (.list []) = zs.isEmpty
  | [] => by rw [List.map_nil, PyData.eqv, PyData.eqvAll]; rfl
  | z :: zs => by rw [List.map_cons, PyData.eqv, PyData.eqvAll]; rfl
def fLblT : FB := fOr (fNot (tst (fChain (fOrd (fun i j => decide (i ≤ j)) fun i j => !DL.ltS j i) (fOrd (fun i j => decide (i ≤ j)) fun i j => !DL.ltS j i) (fC (.int 1)) (fCB gLen (fCons (fVar 4) fNil)) (fC (.int 3))))) (tst (fBin (gEq true) fSigns (fLst fNil)))
theorem lblT_ok {o0 o1 o2 o3 : Option DL.D} {z : Str} {S : Sto} (hz : z.length ≤ sizeLine) (hs : PyData.strOk z = true) : fLblT [o0, o1, o2, o3, some (.str z), none] S = .ok (!lblB z) S := by
  have es := signs_ok (o0 := o0) (o1 := o1) (o2 := o2) (o3 := o3) (S := S) hz
  have hL : ∀ y ∈ (badSigns z).map fun c => (⟨#[c]⟩ : Str), (PyData.str y).canLay0 = true := fun y hy => by
    obtain ⟨c, hc, rfl⟩ := List.mem_map.mp hy
    have hm : c ∈ z.cps.toList := (List.mem_filter.mp hc).1
    rw [PyData.canLay0]
    unfold PyData.strOk at hs ⊢
    rw [← Array.all_toList, List.all_eq_true] at hs
    have := hs c hm
    simpa using this
  have e0 : pds ([] : List DL.D) = some [] := by rw [pds]
  have eg : gEq true (.lis (((badSigns z).map fun c => (⟨#[c]⟩ : Str)).map DL.D.str)) (.lis []) S = some (.bl (!(badSigns z).isEmpty)) := by
    show ((pd (.lis (((badSigns z).map fun c => (⟨#[c]⟩ : Str)).map DL.D.str))).bind fun a => (pd (.lis [])).bind fun b => if SeqAt.shaped a = true ∧ SeqAt.shaped b = true then some (DL.D.bl (if true = true then !PyData.eqv a b else PyData.eqv a b)) else none) = _
    rw [pd, pds_strs, pd, e0]
    show (if SeqAt.shaped (PyData.list (((badSigns z).map fun c => (⟨#[c]⟩ : Str)).map PyData.str)) = true ∧ SeqAt.shaped (.list []) = true then some (DL.D.bl (if true = true then !PyData.eqv (.list (((badSigns z).map fun c => (⟨#[c]⟩ : Str)).map PyData.str)) (.list []) else _)) else none) = _
    rw [if_pos ⟨shaped_strs hL, shaped_strs (zs := []) (fun y hy => by cases hy)⟩, if_pos rfl, eqv_empty]
    simp
  have e2 : tst (fBin (gEq true) fSigns (fLst fNil)) [o0, o1, o2, o3, some (.str z), none] S = .ok (!(badSigns z).isEmpty) S := by
    show bnd (bnd (fSigns [o0, o1, o2, o3, some (.str z), none] S) fun x S1 => bnd (Out.ok (.lis []) S1) fun y S2 => opt (gEq true x y S2) fun d => .ok d S2) _ = _
    rw [es]
    show bnd (opt (gEq true (.lis (((badSigns z).map fun c => (⟨#[c]⟩ : Str)).map DL.D.str)) (.lis []) S) fun d => .ok d S) _ = _
    rw [eg]
    rfl
  have e4 : fNot (tst (fChain (fOrd (fun i j => decide (i ≤ j)) fun i j => !DL.ltS j i) (fOrd (fun i j => decide (i ≤ j)) fun i j => !DL.ltS j i) (fC (.int 1)) (fCB gLen (fCons (fVar 4) fNil)) (fC (.int 3)))) [o0, o1, o2, o3, some (.str z), none] S = .ok (!(decide (1 ≤ z.length) && decide (z.length ≤ 3))) S := by
    by_cases c1 : (1 : Int) ≤ (z.length : Int)
    · have c1' : 1 ≤ z.length := by omega
      by_cases c2 : (z.length : Int) ≤ 3
      · have c2' : z.length ≤ 3 := by omega
        rw [decide_eq_true c1', decide_eq_true c2']
        simp [sSeq, sIf, sRet, sRetN, sAsg, gN, sNext, sDrop, sPutP, setD, optP_some, optP_none, upF, upB, upAs, fin_ok, fin_er, fin_no, bnd_ok, bnd_er, bnd_no, opt_some, opt_none, fVar, fC, fBin, tst, DL.tTup, fAnd, fOr, fNot, fAndV, fOrV, fNotV, fIf, fNeg, fNil, fCons, fTup, fLst, fCB, fBM, fIsi, fCall, fChain, gInt, fOrd, gLen, lenD, tyD, startD, isTy, noE_ok, DL.fSub, DL.gSub, lookD, gIx, seqA, seqL, L2.atI, L2.ixN, hz, c1, c2]
      · have c2' : ¬ z.length ≤ 3 := by omega
        rw [decide_eq_false c2', Bool.and_false]
        simp [sSeq, sIf, sRet, sRetN, sAsg, gN, sNext, sDrop, sPutP, setD, optP_some, optP_none, upF, upB, upAs, fin_ok, fin_er, fin_no, bnd_ok, bnd_er, bnd_no, opt_some, opt_none, fVar, fC, fBin, tst, DL.tTup, fAnd, fOr, fNot, fAndV, fOrV, fNotV, fIf, fNeg, fNil, fCons, fTup, fLst, fCB, fBM, fIsi, fCall, fChain, gInt, fOrd, gLen, lenD, tyD, startD, isTy, noE_ok, DL.fSub, DL.gSub, lookD, gIx, seqA, seqL, L2.atI, L2.ixN, hz, c1, c2]
    · have c1' : ¬ 1 ≤ z.length := by omega
      rw [decide_eq_false c1', Bool.false_and]
      simp [sSeq, sIf, sRet, sRetN, sAsg, gN, sNext, sDrop, sPutP, setD, optP_some, optP_none, upF, upB, upAs, fin_ok, fin_er, fin_no, bnd_ok, bnd_er, bnd_no, opt_some, opt_none, fVar, fC, fBin, tst, DL.tTup, fAnd, fOr, fNot, fAndV, fOrV, fNotV, fIf, fNeg, fNil, fCons, fTup, fLst, fCB, fBM, fIsi, fCall, fChain, gInt, fOrd, gLen, lenD, tyD, startD, isTy, noE_ok, DL.fSub, DL.gSub, lookD, gIx, seqA, seqL, L2.atI, L2.ixN, hz, c1]
  unfold fLblT
  show bnd (fNot _ [o0, o1, o2, o3, some (DL.D.str z), none] S) (fun c S1 => if c = true then Out.ok true S1 else tst (fBin (gEq true) fSigns (fLst fNil)) [o0, o1, o2, o3, some (.str z), none] S1) = _
  rw [e4]
  unfold lblB
  cases hh : (decide (1 ≤ z.length) && decide (z.length ≤ 3)) with
  | false => rfl
  | true =>
    show tst (fBin (gEq true) fSigns (fLst fNil)) [o0, o1, o2, o3, some (.str z), none] S = _
    rw [e2]
    rfl
end Hb
set_option maxRecDepth 100000
set_option maxHeartbeats 1000000
namespace Hb
open PySem L2 DL
theorem strOk_of (s : String) : PyData.strOk (Str.ofString s) = true := by
  unfold PyData.strOk
  rw [← Array.all_toList, List.all_eq_true]
  intro c hc
  rw [Str.ofString_eq_toList] at hc
  obtain ⟨ch, _, rfl⟩ : ∃ ch : Char, ch ∈ s.toList ∧ ch.toNat = c := by simpa using hc
  have := ch.valid
  rcases this with h | ⟨h1, h2⟩
  · have h : ch.val.toNat < 0xd800 := h
    show decide (ch.val.toNat < 0x110000) = true
    exact decide_eq_true (by omega)
  · exact decide_eq_true h2
def NUMS (n : Nat) : List Str := (List.range n).map fun k => (toString ((k : Nat) : Int) : Str)
def numD : DL.D → DL.D
  | .int i => .str (toString i)
  | _ => .non
def fNums (n : Int) : FV := fLc (fR1 (fCons (fC (.int n)) fNil)) (.nm 2) fYes (fCB fStr (fCons (fVar 2) fNil)) [2]
theorem nums_ok {n : Nat} (hn : n ≤ 1000) {o0 o1 o3 o4 o5 : Option DL.D} {S : Sto} : fNums (n : Int) [o0, o1, none, o3, o4, o5] S = .ok (.lis ((NUMS n).map DL.D.str)) S := by
  have ef := fR1_of (fr := fCons (fC (.int (n : Int))) fNil) (δ := [o0, o1, none, o3, o4, o5]) (S := S) (S' := S) (j := (n : Int)) rfl (by omega) (by omega)
  rw [Int.toNat_natCast] at ef
  have big : (1000 : Nat) ≤ sizeLine := by decide
  have := fLc_pure (fi := fR1 (fCons (fC (.int (n : Int))) fNil)) (p := .nm 2) (fe := fCB fStr (fCons (fVar 2) fNil)) (vs := [2]) (h := numD) ef rfl (by show (rngD 0 n).length ≤ _; unfold rngD; rw [List.length_map, List.length_range]; omega) (fun x hx => by
    have hx : x ∈ rngD 0 n := hx
    unfold rngD at hx
    obtain ⟨i, hi, rfl⟩ := List.mem_map.mp hx
    have hi := List.mem_range.mp hi
    refine ⟨[o0, o1, some (.int (0 + (i : Int))), o3, o4, o5], rfl, ?_⟩
    show opt (if (0 + (i : Int)).natAbs.log2 < 1920 then some (DL.D.str (toString (0 + (i : Int)))) else none) _ = _
    rw [if_pos]
    · rfl
    · have e : (0 + (i : Int)).natAbs = i := by omega
      rw [e]
      by_cases z : i = 0
      · subst z; decide
      · have : i.log2 < 10 := (Nat.log2_lt z).mpr (by omega)
        omega)
  unfold fNums
  rw [this]
  have el : (rngD 0 n).map numD = (NUMS n).map DL.D.str := by
    unfold rngD NUMS
    rw [List.map_map, List.map_map]
    apply List.map_congr_left
    intro i _
    show DL.D.str (toString ((0 : Int) + (i : Int))) = DL.D.str (toString (i : Int))
    rw [Int.zero_add]
  exact congrArg (fun l => Out.ok (DL.D.lis l) S) el
theorem in_nums {n : Nat} {z : Str} {S : Sto} (hz : PyData.strOk z = true) : gIn true (.str z) (.lis ((NUMS n).map DL.D.str)) S = some (.bl (!decide (z ∈ NUMS n))) := by
  have h1 : SeqAt.shaped (.str z) = true := by
    unfold SeqAt.shaped
    rw [PyData.canLay0, hz, PyData.depth]
    rfl
  have h2 : SeqAt.shaped (.list ((NUMS n).map PyData.str)) = true := shaped_strs fun y hy => by
    obtain ⟨i, _, rfl⟩ := List.mem_map.mp hy
    rw [PyData.canLay0]
    exact strOk_of _
  have ei : inD S (.str z) (.lis ((NUMS n).map DL.D.str)) = some (decide (z ∈ NUMS n)) := by
    show (match pd (.str z), pd (.lis ((NUMS n).map DL.D.str)) with
      | some a, some (.list bs) => if SeqAt.shaped a = true ∧ SeqAt.shaped (.list bs) = true then some (bs.any fun z => PyData.eqv z a) else none
      | _, _ => none) = _
    rw [pd, pd, pds_strs]
    show (if SeqAt.shaped (.str z) = true ∧ SeqAt.shaped (.list ((NUMS n).map PyData.str)) = true then some (((NUMS n).map PyData.str).any fun p => PyData.eqv p (.str z)) else none) = _
    rw [if_pos ⟨h1, h2⟩, eqv_any]
  unfold gIn
  rw [ei]
  rfl
end Hb
set_option maxRecDepth 100000
set_option maxHeartbeats 1000000
namespace Hb
open PySem L2 DL
def parts (c : Str) : List Str := if c = "." then [] else Txt.split c "."
def lRow2 (c d : Str) : PR DL.D := if (c = "." ∨ c.length + 2 ≤ sizeLine) ∧ (∀ p ∈ parts c, p.length ≤ sizeLine ∧ PyData.strOk p = true) ∧ d.length ≤ 640 then (if (parts c).all lblB = true then (if (parts c).length < 6 then (match PySem.intText? d with
  | some n => .ok (.tup [.tup ((parts c).map .str), .int n])
  | none => .no) else .ok .non) else .ok .non) else .no
def lRowR (ds : List DL.D) : PR DL.D := match ds with
  | [.str z] => if z.length + 2 ≤ sizeLine then (match Txt.split z " " with
    | [c, d] => if PyData.strOk d = true then (if d ∈ NUMS 1000 then lRow2 c d else .ok .non) else .no
    | _ => .ok .non) else .no
  | _ => .no
theorem scLRow : FnScope ["_law_line", "_law_words", "_law_k", "_law_labels_here", "_law_label", "_law_sign"] ["_law_line"] (defScope (top 39)) := ⟨rfl, rfl, rfl, by decide +kernel, rfl, by decide +kernel, by decide +kernel⟩
theorem setOk {w : WD} {t : FV} {i : Nat} {v : TDS} {D1 : DEnds} {δ : DEnv} {S : Sto} {r : DL.D} (e : t δ S = .ok r S) (h : v D1 (δ.set i (some r)) S) : sSeq (sAsg (upF w t) (gN i)) v D1 δ S := by
  show fin (t δ S) _ _
  rw [e]
  exact h
theorem loopRow {w : WD} {D1 : DEnds} {S : Sto} {o0 o1 o2 o3 : Option DL.D} {ok : Sto → Prop} (hok : ∀ S, ok S) : ∀ (ps : List Str) (o4 : Option DL.D), (∀ p ∈ ps, p.length ≤ sizeLine ∧ PyData.strOk p = true) → (ps.all lblB = true → ∀ o, D1.nx [o0, o1, o2, o3, o, none] S) → (ps.all lblB = false → D1.rt .non S) →
    dLoop ok (.nm 4) (sIf (upB w fLblT) (sRet (upF w (fC .non))) sNext) D1 (ps.map DL.D.str) [o0, o1, o2, o3, o4, none] S
  | [], o4, _, h1, h2 => ⟨hok S, h1 rfl _⟩
  | p :: ps, o4, hp, h1, h2 => by
    refine ⟨hok S, ?_⟩
    show sIf (upB w fLblT) _ _ _ [o0, o1, o2, o3, some (.str p), none] S
    obtain ⟨k1, k2⟩ := hp p List.mem_cons_self
    unfold sIf upB
    rw [lblT_ok k1 k2]
    cases hb : lblB p with
    | false => exact h2 (by rw [List.all_cons, hb]; rfl)
    | true => exact loopRow hok ps _ (fun q hq => hp q (List.mem_cons_of_mem _ hq)) (fun ha => h1 (by rw [List.all_cons, hb]; exact ha)) (fun ha => h2 (by rw [List.all_cons, hb]; exact ha))
section
variable {P : Program} {w : World} {K : PySem.W.Frag} {mg : Str → Option Value} {base : Heap} {k : Nat} {f : Addr} {fd : FuncData}
theorem ok_lrow (F : Fun K "_law_row" "_law_row" (top 39) f fd) (b : Binds K fd ["_law_line"] []) (b_len : mg "len" = none) (b_range : mg "range" = none) (b_str : mg "str" = none) (b_int : mg "int" = none) (b_tuple : mg "tuple" = none) : FnD P w K mg base (k + 1) f (spO 1 (pur lRowR)) := by
  refine fnD_ok F b scLRow spO_mono spO_len fun X cdv A outer s H E wx eX hr tk po => ?_
  have hu : X.A.units + 64 < cLine := by have := hr.un; omega
  have hu65 : X.A.units + 65 < cLine := by have := hr.un; omega
  subst eX
  have sc := @scLRow
  refine ⟨_, (dss_cons (ds_set (i := 1) sc.nd rfl (by first | exact .inl rfl | exact .inr rfl) (fe_w (fun c _ S => dnX wx c S) (fe_bmL PySem.F.plainAttrs_str PySem.F.slot_str_split PySem.F.type_str_split dmt_split (fv 0) (fa_cons fe_str fa_nil))))
      (dss_cons (ds_if (ft_w (fun c _ S => dnX wx c S) (fw_or (ft_cmp (fop_ne hu) (fe_callB fcall_len (by rfl) b_len (by rfl) (fa_cons (fv 1) fa_nil)) fe_int (by with_unfolding_all rfl)) (fw_or1 (ft_cmp (fop_notin hu65) (fe_sub hu (fv 1) fe_int) (fe_lc rfl sc.nd (fi_range1 (by rfl) b_range (fa_cons fe_int fa_nil)) (own := [("_law_k", 2)]) (blk_ok (N := ["_law_line", "_law_words", "_law_k", "_law_labels_here", "_law_label", "_law_sign"]) (sc := (defScope (top 39))) (by rfl) (by decide +kernel)) (by decide +kernel) (fun _ _ _ _ _ => (pp_name (i := 2) sc.nd rfl (by first | exact .inl rfl | exact .inr rfl))) (fun _ _ _ _ _ => fts_nil) (fun _ _ _ _ _ => (fe_callTy dcall_str (by rfl) b_str (by rfl) (fa_cons (fv 2) fa_nil))) frF_yes (frF_cb mg_str (frF_cons frF_var frF_nil))) (by with_unfolding_all rfl)))).dt) (dss_one (ds_ret (fe_w (fun c _ S => dnX wx c S) fe_non))) dss_nil)
      (dss_cons (ds_set (i := 3) sc.nd rfl (by first | exact .inl rfl | exact .inr rfl) (fe_w (fun c _ S => dnX wx c S) (fe_if (ft_cmp (fop_ne hu) (fe_sub hu (fv 1) fe_int) fe_str (by with_unfolding_all rfl)) (fe_bmL PySem.F.plainAttrs_str PySem.F.slot_str_split PySem.F.type_str_split dmt_split (fe_sub hu (fv 1) fe_int) (fa_cons fe_str fa_nil)) (fe_lst fa_nil))))
      (dss_cons (ds_for po rfl (fi_w (fun c _ S => dnX wx c S) (fi_any (fv 3))) (pp_name (i := 4) sc.nd rfl (by first | exact .inl rfl | exact .inr rfl)) (dss_one (ds_if (ft_w (fun c _ S => dnX wx c S) (fw_or (ft_not (ft_chain dop_leA dop_leA fe_int (fe_callB fcall_len (by rfl) b_len (by rfl) (fa_cons (fv 4) fa_nil)) fe_int)) (fw_or1 (ft_cmp (fop_ne hu) (fe_lc rfl sc.nd (fi_any (fv 4)) (own := [("_law_sign", 5)]) (blk_ok (N := ["_law_line", "_law_words", "_law_k", "_law_labels_here", "_law_label", "_law_sign"]) (sc := (defScope (top 39))) (by rfl) (by decide +kernel)) (by decide +kernel) (fun _ _ _ _ _ => (pp_name (i := 5) sc.nd rfl (by first | exact .inl rfl | exact .inr rfl))) (fun _ _ _ _ _ => (dts_one (ft_not (ft_chain dop_leA dop_leA fe_str (fv 5) fe_str)))) (fun _ _ _ _ _ => (fv 5)) (frF_not (frF_tst (frF_chain mg_ord mg_ord frF_c frF_var frF_c))) frF_var) (fe_lst fa_nil) (by with_unfolding_all rfl)))).dt) (dss_one (ds_ret (fe_w (fun c _ S => dnX wx c S) fe_non))) dss_nil)))
      (dss_one (ds_ret (fe_w (fun c _ S => dnX wx c S) (fe_if (ft_cmp dop_ltA (fe_callB fcall_len (by rfl) b_len (by rfl) (fa_cons (fv 3) fa_nil)) fe_int (by with_unfolding_all rfl)) (fe_tup (fa_cons (fe_callTy fcall_tuple (by rfl) b_tuple (by rfl) (fa_cons (fv 3) fa_nil)) (fa_cons (fe_callTy fcall_int (by rfl) b_int (by rfl) (fa_cons (fe_sub hu (fv 1) fe_int) fa_nil)) fa_nil))) fe_non)))))))), fun ds S Q h => ?_⟩
  clear hr tk po hu hu65 F b
  obtain ⟨l, h⟩ := h
  match ds, l with
  | [y], _ =>
    cases y with
    | str z =>
      have h : fin (PR.out (if z.length + 2 ≤ sizeLine then (match Txt.split z " " with
        | [c, d] => if PyData.strOk d = true then (if d ∈ NUMS 1000 then lRow2 c d else .ok .non) else .no
        | _ => .ok .non) else .no) S) wx Q := h
      by_cases hz : z.length + 2 ≤ sizeLine
      · rw [if_pos hz] at h
        rw [show startD ["_law_line", "_law_words", "_law_k", "_law_labels_here", "_law_label", "_law_sign"] [DL.D.str z] = [some (.str z), none, none, none, none, none] from rfl]
        have e2 : (Str.ofString " ").length = 1 := by decide
        have e1 : fBM "str" (fun x => lisO (fSplit x)) (fVar 0) (fCons (fC (.str " ")) fNil) [some (.str z), none, none, none, none, none] S = .ok (.lis ((Txt.split z " ").map .str)) S := by
          simp [sSeq, sIf, sRet, sRetN, sAsg, gN, sNext, sDrop, sPutP, setD, optP_some, optP_none, upF, upB, upAs, fin_ok, fin_er, fin_no, bnd_ok, bnd_er, bnd_no, opt_some, opt_none, fVar, fC, fBin, tst, DL.tTup, fAnd, fOr, fNot, fAndV, fOrV, fNotV, fIf, fNeg, fNil, fCons, fTup, fLst, fCB, fBM, fIsi, fCall, fChain, gInt, fOrd, gLen, lenD, tyD, startD, isTy, noE_ok, DL.fSub, DL.gSub, lookD, gIx, seqA, seqL, L2.atI, L2.ixN, tyM, lisO, fSplit, e2, hz]
        refine setOk e1 ?_
        show sSeq (sIf (upB _ (fOr (tst (fBin (gEq true) (fCB gLen (fCons (fVar 1) fNil)) (fC (.int 2)))) (tst (fBin (gIn true) (DL.fSub (fVar 1) (fC (.int 1))) (fNums 1000))))) _ sNext) _ _ [some (.str z), some (.lis ((Txt.split z " ").map .str)), none, none, none, none] S
        have ef : ∀ L : List DL.D, tst (fBin (gEq true) (fCB gLen (fCons (fVar 1) fNil)) (fC (.int 2))) [some (.str z), some (.lis L), none, none, none, none] S = .ok (!decide ((L.length : Int) = 2)) S := fun L => rfl
        by_cases hl : (Txt.split z " ").length = 2
        · obtain ⟨c, d, es⟩ : ∃ c d, Txt.split z " " = [c, d] := by
            match hs : Txt.split z " ", hl with
            | [c, d], _ => exact ⟨c, d, rfl⟩
          rw [es] at h ⊢
          have h : fin (PR.out (if PyData.strOk d = true then (if d ∈ NUMS 1000 then lRow2 c d else .ok .non) else .no) S) wx Q := h
          by_cases hd : PyData.strOk d = true
          · rw [if_pos hd] at h
            have en := nums_ok (n := 1000) (Nat.le_refl _) (o0 := some (.str z)) (o1 := some (.lis [.str c, .str d])) (o3 := none) (o4 := none) (o5 := none) (S := S)
            have en : fNums 1000 [some (.str z), some (.lis [.str c, .str d]), none, none, none, none] S = .ok (.lis ((NUMS 1000).map DL.D.str)) S := en
            have eg : tst (fBin (gIn true) (DL.fSub (fVar 1) (fC (.int 1))) (fNums 1000)) [some (.str z), some (.lis [.str c, .str d]), none, none, none, none] S = .ok (!decide (d ∈ NUMS 1000)) S := by
              show bnd (bnd (fNums 1000 [some (.str z), some (.lis [.str c, .str d]), none, none, none, none] S) fun y S2 => opt (gIn true (.str d) y S2) fun d => .ok d S2) _ = _
              rw [en]
              show bnd (opt (gIn true (.str d) (.lis ((NUMS 1000).map DL.D.str)) S) fun d => .ok d S) _ = _
              rw [in_nums hd]
              rfl
            have et : fOr (tst (fBin (gEq true) (fCB gLen (fCons (fVar 1) fNil)) (fC (.int 2)))) (tst (fBin (gIn true) (DL.fSub (fVar 1) (fC (.int 1))) (fNums 1000))) [some (.str z), some (.lis [.str c, .str d]), none, none, none, none] S = .ok (!decide (d ∈ NUMS 1000)) S := by
              unfold fOr
              rw [ef]
              exact eg
            by_cases hm : d ∈ NUMS 1000
            · rw [if_pos hm] at h
              rw [decide_eq_true hm] at et
              refine skipIf et ?_
              unfold lRow2 at h
              by_cases hq : (c = "." ∨ c.length + 2 ≤ sizeLine) ∧ (∀ p ∈ parts c, p.length ≤ sizeLine ∧ PyData.strOk p = true) ∧ d.length ≤ 640
              · rw [if_pos hq] at h
                obtain ⟨q1, q2, q3⟩ := hq
                have e3 : fIf (tst (fBin (gEq true) (DL.fSub (fVar 1) (fC (.int 0))) (fC (.str ".")))) (fBM "str" (fun x => lisO (fSplit x)) (DL.fSub (fVar 1) (fC (.int 0))) (fCons (fC (.str ".")) fNil)) (fLst fNil) [some (.str z), some (.lis [.str c, .str d]), none, none, none, none] S = .ok (.lis ((parts c).map .str)) S := by
                  have e4 : (Str.ofString ".").length = 1 := by decide
                  unfold parts
                  by_cases hc : c = Str.ofString "."
                  · simp [sSeq, sIf, sRet, sRetN, sAsg, gN, sNext, sDrop, sPutP, setD, optP_some, optP_none, upF, upB, upAs, fin_ok, fin_er, fin_no, bnd_ok, bnd_er, bnd_no, opt_some, opt_none, fVar, fC, fBin, tst, DL.tTup, fAnd, fOr, fNot, fAndV, fOrV, fNotV, fIf, fNeg, fNil, fCons, fTup, fLst, fCB, fBM, fIsi, fCall, fChain, gInt, fOrd, gLen, lenD, tyD, startD, isTy, noE_ok, DL.fSub, DL.gSub, lookD, gIx, seqA, seqL, L2.atI, L2.ixN, gEq, hc]
                  · have q1' : c.length + 2 ≤ sizeLine := q1.resolve_left hc
                    simp [sSeq, sIf, sRet, sRetN, sAsg, gN, sNext, sDrop, sPutP, setD, optP_some, optP_none, upF, upB, upAs, fin_ok, fin_er, fin_no, bnd_ok, bnd_er, bnd_no, opt_some, opt_none, fVar, fC, fBin, tst, DL.tTup, fAnd, fOr, fNot, fAndV, fOrV, fNotV, fIf, fNeg, fNil, fCons, fTup, fLst, fCB, fBM, fIsi, fCall, fChain, gInt, fOrd, gLen, lenD, tyD, startD, isTy, noE_ok, DL.fSub, DL.gSub, lookD, gIx, seqA, seqL, L2.atI, L2.ixN, gEq, hc, tyM, lisO, fSplit, e4, q1']
                refine setOk e3 ?_
                show dLoop (fun S => (SrcF.of ((parts c).map DL.D.str)).ck S = true) _ _ _ ((parts c).map DL.D.str) [some (.str z), some (.lis [.str c, .str d]), none, some (.lis ((parts c).map .str)), none, none] S
                refine loopRow (fun _ => rfl) (parts c) none q2 (fun ha o => ?_) fun ha => ?_
                · rw [if_pos ha] at h
                  by_cases h6 : (parts c).length < 6
                  · rw [if_pos h6] at h
                    have h6' : ((parts c).length : Int) < 6 := by omega
                    cases ei : PySem.intText? d with
                    | none => rw [ei] at h; exact h.elim
                    | some n =>
                      rw [ei] at h
                      have h : Q (.tup [.tup ((parts c).map .str), .int n]) S := h
                      have big : (2 : Nat) ≤ sizeLine := by decide
                      simp [sSeq, sIf, sRet, sRetN, sAsg, gN, sNext, sDrop, sPutP, setD, optP_some, optP_none, upF, upB, upAs, fin_ok, fin_er, fin_no, bnd_ok, bnd_er, bnd_no, opt_some, opt_none, fVar, fC, fBin, tst, DL.tTup, fAnd, fOr, fNot, fAndV, fOrV, fNotV, fIf, fNeg, fNil, fCons, fTup, fLst, fCB, fBM, fIsi, fCall, fChain, gInt, fOrd, gLen, lenD, tyD, startD, isTy, noE_ok, DL.fSub, DL.gSub, lookD, gIx, seqA, seqL, L2.atI, L2.ixN, h6', gTuple, itemsD, gIntS, q3, ei, big]
                      exact ⟨S, Less.refl, h⟩
                  · rw [if_neg h6] at h
                    have h6' : ¬ ((parts c).length : Int) < 6 := by omega
                    simp [sSeq, sIf, sRet, sRetN, sAsg, gN, sNext, sDrop, sPutP, setD, optP_some, optP_none, upF, upB, upAs, fin_ok, fin_er, fin_no, bnd_ok, bnd_er, bnd_no, opt_some, opt_none, fVar, fC, fBin, tst, DL.tTup, fAnd, fOr, fNot, fAndV, fOrV, fNotV, fIf, fNeg, fNil, fCons, fTup, fLst, fCB, fBM, fIsi, fCall, fChain, gInt, fOrd, gLen, lenD, tyD, startD, isTy, noE_ok, DL.fSub, DL.gSub, lookD, gIx, seqA, seqL, L2.atI, L2.ixN, h6']
                    exact ⟨S, Less.refl, h⟩
                · rw [ha] at h
                  exact ⟨S, Less.refl, h⟩
              · rw [if_neg hq] at h
                exact h.elim
            · rw [if_neg hm] at h
              rw [decide_eq_false hm] at et
              exact takeRet et rfl ⟨S, Less.refl, h⟩
          · rw [if_neg hd] at h
            exact h.elim
        · have hQ : Q .non S := by
            match hs : Txt.split z " " with
            | [] => rw [hs] at h; exact h
            | [_] => rw [hs] at h; exact h
            | [_, _] => rw [hs] at hl; exact (hl rfl).elim
            | _ :: _ :: _ :: _ => rw [hs] at h; exact h
          refine takeRet (r := .non) ?_ rfl ⟨S, Less.refl, hQ⟩
          unfold fOr
          rw [ef, decide_eq_false (by rw [List.length_map]; omega)]
          rfl
      · rw [if_neg hz] at h
        exact h.elim
    | _ => exact h.elim
end
end Hb
set_option maxRecDepth 100000
namespace DL
open PySem
theorem cut_one {c : Nat} : ∀ {a a' b b' : List Nat}, c ∉ a → c ∉ a' → a ++ c :: b = a' ++ c :: b' → a = a' ∧ b = b'
  | [], [], _, _, _, _, h => ⟨rfl, (List.cons.inj h).2⟩
  | [], y :: a', _, _, _, h2, h => absurd (by rw [(List.cons.inj h).1]; exact List.mem_cons_self) h2
  | x :: a, [], _, _, h1, _, h => absurd (by rw [← (List.cons.inj h).1]; exact List.mem_cons_self) h1
  | x :: a, y :: a', _, _, h1, h2, h => by
    obtain ⟨e1, e2⟩ := List.cons.inj h
    obtain ⟨e3, e4⟩ := cut_one (fun z => h1 (List.mem_cons_of_mem _ z)) (fun z => h2 (List.mem_cons_of_mem _ z)) e2
    exact ⟨by rw [e1, e3], e4⟩
theorem str_ext {x y : Str} (h : x.cps.toList = y.cps.toList) : x = y := by
  cases x
  cases y
  congr 1
  exact Array.toList_inj.mp h
theorem join_two {c : Nat} {x y : Str} {r : List Str} : (Str.join ⟨#[c]⟩ (x :: y :: r)).cps.toList = x.cps.toList ++ c :: (Str.join ⟨#[c]⟩ (y :: r)).cps.toList := by
  show ((x.cps ++ #[c]) ++ (Str.join ⟨#[c]⟩ (y :: r)).cps).toList = _
  simp
theorem join_inj {c : Nat} : ∀ {ps qs : List Str}, ps ≠ [] → qs ≠ [] → (∀ p ∈ ps, c ∉ p.cps.toList) → (∀ p ∈ qs, c ∉ p.cps.toList) → Str.join ⟨#[c]⟩ ps = Str.join ⟨#[c]⟩ qs → ps = qs
  | [], _, h, _, _, _, _ => absurd rfl h
  | _, [], _, h, _, _, _ => absurd rfl h
  | [p], [q], _, _, _, _, h => by
    have h : p = q := h
    rw [h]
  | [p], q :: q2 :: qs, _, _, h1, _, h => by
    have e : (Str.join ⟨#[c]⟩ [p]).cps.toList = (Str.join ⟨#[c]⟩ (q :: q2 :: qs)).cps.toList := by rw [h]
    rw [join_two] at e
    have e : p.cps.toList = _ := e
    exact absurd (by rw [e]; simp) (h1 p List.mem_cons_self)
  | p :: p2 :: ps, [q], _, _, _, h2, h => by
    have e : (Str.join ⟨#[c]⟩ (p :: p2 :: ps)).cps.toList = (Str.join ⟨#[c]⟩ [q]).cps.toList := by rw [h]
    rw [join_two] at e
    have e : _ = q.cps.toList := e
    exact absurd (by rw [← e]; simp) (h2 q List.mem_cons_self)
  | p :: p2 :: ps, q :: q2 :: qs, _, _, h1, h2, h => by
    have e : (Str.join ⟨#[c]⟩ (p :: p2 :: ps)).cps.toList = (Str.join ⟨#[c]⟩ (q :: q2 :: qs)).cps.toList := by rw [h]
    rw [join_two, join_two] at e
    obtain ⟨e1, e2⟩ := cut_one (h1 p List.mem_cons_self) (h2 q List.mem_cons_self) e
    rw [str_ext e1, join_inj (by simp) (by simp) (fun x hx => h1 x (List.mem_cons_of_mem _ hx)) (fun x hx => h2 x (List.mem_cons_of_mem _ hx)) (str_ext e2)]
theorem split_join {c : Nat} {ps : List Str} (h : ps ≠ []) (hp : ∀ p ∈ ps, c ∉ p.cps.toList) : Txt.split (Str.join ⟨#[c]⟩ ps) ⟨#[c]⟩ = ps := by
  refine join_inj (c := c) ?_ h (StrLaws.split_free _ c) hp (StrLaws.join_split _ _)
  intro z
  have e := StrLaws.join_split (Str.join ⟨#[c]⟩ ps) ⟨#[c]⟩
  have l := PyProof.Rows.split_pos (Str.join ⟨#[c]⟩ ps) ⟨#[c]⟩
  rw [z] at l
  exact absurd l (by decide)
end DL
set_option maxRecDepth 100000
namespace Hb
open PySem L2 DL
theorem let_mem (c : Nat) : c ∈ LET.cps.toList ↔ 97 ≤ c ∧ c ≤ 122 := by
  have e : LET.cps.toList = List.range' 97 26 := by decide
  rw [e, List.mem_range'_1]
  omega
theorem az_let (c : Nat) : azB c = decide (c ∈ LET.cps.toList) := by
  have a1 : DL.ltS ⟨#[c]⟩ (Str.ofString "a") = decide (c < 97) := by
    unfold DL.ltS
    have e : (Str.ofString "a").cps.toList = [97] := by decide
    rw [e]
    show decide ([c] < [97]) = _
    apply decide_eq_decide.mpr
    rw [List.cons_lt_cons_iff]
    simp
  have a2 : DL.ltS (Str.ofString "z") ⟨#[c]⟩ = decide (122 < c) := by
    unfold DL.ltS
    have e : (Str.ofString "z").cps.toList = [122] := by decide
    rw [e]
    show decide ([122] < [c]) = _
    apply decide_eq_decide.mpr
    rw [List.cons_lt_cons_iff]
    simp
  unfold azB
  rw [a1, a2]
  have := let_mem c
  by_cases h1 : c < 97
  · have h2 : ¬ c ∈ LET.cps.toList := fun z => by have := this.mp z; omega
    simp only [decide_eq_true h1, decide_eq_false h2, Bool.not_true, Bool.false_and]
  · by_cases h3 : 122 < c
    · have h2 : ¬ c ∈ LET.cps.toList := fun z => by have := this.mp z; omega
      simp only [decide_eq_true h3, decide_eq_false h2, Bool.not_true, Bool.and_false]
    · have h2 : c ∈ LET.cps.toList := this.mpr ⟨by omega, by omega⟩
      simp only [decide_eq_false h1, decide_eq_false h3, decide_eq_true h2, Bool.not_false, Bool.and_self]
theorem lblB_eq (z : Str) : lblB z = labelB z := by
  have e : (badSigns z).isEmpty = z.cps.toList.all fun c => decide (c ∈ LET.cps.toList) := by
    unfold badSigns
    generalize z.cps.toList = l
    induction l with
    | nil => rfl
    | cons c l ih =>
      rw [List.all_cons, ← az_let c]
      cases h : azB c with
      | true => rw [List.filter_cons_of_neg (by rw [h]; simp), ih]; rfl
      | false => rw [List.filter_cons_of_pos (by rw [h]; rfl)]; rfl
  unfold lblB labelB
  rw [e, Bool.and_assoc]
end Hb
set_option maxRecDepth 100000
namespace Hb
open PySem L2 DL
def chk (l : List Nat) : Bool := match PySem.intText? ⟨l.toArray⟩ with
  | some n => decide (0 ≤ n ∧ n ≤ 999)
  | none => false
def digs : List Nat := [48, 49, 50, 51, 52, 53, 54, 55, 56, 57]
theorem chk1 : ∀ a ∈ digs, chk [a] = true := by decide +kernel
theorem chk2 : ∀ a ∈ digs, ∀ b ∈ digs, chk [a, b] = true := by decide +kernel
theorem chk3 : ∀ a ∈ digs, ∀ b ∈ digs, ∀ c ∈ digs, chk [a, b, c] = true := by decide +kernel
def numB (k : Nat) : Bool := figB (Str.ofString (toString ((k : Nat) : Int))) && decide (PySem.intText? (Str.ofString (toString ((k : Nat) : Int))) = some (k : Int)) && PyData.strOk (Str.ofString (toString ((k : Nat) : Int)))
theorem numB_all : (List.range 1000).all numB = true := by decide +kernel
theorem fig_digs : FIG.cps.toList = digs := by decide
theorem chk_ok {l : List Nat} {z : Str} (e : z.cps.toList = l) (h : chk l = true) : ∃ n : Int, PySem.intText? z = some n ∧ 0 ≤ n ∧ n ≤ 999 := by
  have ez : z = ⟨l.toArray⟩ := str_ext (by rw [e])
  subst ez
  unfold chk at h
  split at h
  · rename_i n en
    have h := of_decide_eq_true h
    exact ⟨n, en, h.1, h.2⟩
  · cases h
theorem fig_int {z : Str} (h : figB z = true) : ∃ n : Int, PySem.intText? z = some n ∧ 0 ≤ n ∧ n ≤ 999 := by
  unfold figB at h
  rw [Bool.and_eq_true, Bool.and_eq_true, decide_eq_true_eq, decide_eq_true_eq, List.all_eq_true] at h
  obtain ⟨h1, h2, h3⟩ := h
  have hm : ∀ c ∈ z.cps.toList, c ∈ digs := fun c hc => by
    have := of_decide_eq_true (h3 c hc)
    rw [fig_digs] at this
    exact this
  have hl : z.cps.toList.length = z.length := by rw [Array.length_toList]; rfl
  match e : z.cps.toList with
  | [] => rw [e] at hl; rw [← hl] at h1; exact absurd h1 (by decide)
  | [a] => exact chk_ok e (chk1 a (hm a (by rw [e]; simp)))
  | [a, b] => exact chk_ok e (chk2 a (hm a (by rw [e]; simp)) b (hm b (by rw [e]; simp)))
  | [a, b, c] => exact chk_ok e (chk3 a (hm a (by rw [e]; simp)) b (hm b (by rw [e]; simp)) c (hm c (by rw [e]; simp)))
  | _ :: _ :: _ :: _ :: _ =>
    rw [e] at hl
    simp only [List.length_cons] at hl
    omega
theorem mem_fig {z : Str} (h : z ∈ NUMS 1000) : figB z = true ∧ PyData.strOk z = true ∧ ∃ k : Nat, k < 1000 ∧ z = Str.ofString (toString (k : Int)) ∧ PySem.intText? z = some (k : Int) := by
  unfold NUMS at h
  obtain ⟨k, hk, rfl⟩ := List.mem_map.mp h
  have hb := List.all_eq_true.mp numB_all k hk
  unfold numB at hb
  rw [Bool.and_eq_true, Bool.and_eq_true, decide_eq_true_eq] at hb
  exact ⟨hb.1.1, hb.2, k, List.mem_range.mp hk, rfl, hb.1.2⟩
theorem fig_mem {z : Str} {n : Int} (h : figB z = true) (e : PySem.intText? z = some n) : (z = Str.ofString (toString n)) ↔ z ∈ NUMS 1000 := by
  obtain ⟨m, e1, h1, h2⟩ := fig_int h
  rw [e] at e1
  obtain rfl := Option.some.inj e1
  constructor
  · intro q
    unfold NUMS
    refine List.mem_map.mpr ⟨n.toNat, List.mem_range.mpr (by omega), ?_⟩
    rw [q]
    have : ((n.toNat : Nat) : Int) = n := by omega
    show Str.ofString (toString ((n.toNat : Nat) : Int)) = _
    rw [this]
  · intro q
    obtain ⟨_, _, k, _, e2, e3⟩ := mem_fig q
    rw [e] at e3
    obtain rfl := Option.some.inj e3
    exact e2
end Hb
set_option maxRecDepth 100000
namespace DL
open PySem L2
section
variable {δ : DEnv} {S S1 S2 S3 S4 : Sto} {fa fb fc : FV} {ta tb : FB} {fr : FA} {x y z d : D} {xs ds : List D} {i n : Nat} {b : Bool}
theorem fVar_ok (e : δ[i]? = some (some d)) : fVar i δ S = .ok d S := by unfold fVar; rw [e]
theorem fC_ok : fC d δ S = .ok d S := rfl
theorem fBin_ok {g : D → D → Sto → Option D} (ha : fa δ S = .ok x S1) (hb : fb δ S1 = .ok y S2) (hg : g x y S2 = some d) : fBin g fa fb δ S = .ok d S2 := by
  unfold fBin; rw [ha, bnd_ok, hb, bnd_ok, hg, opt_some]
theorem fSub_ok (ha : fa δ S = .ok x S1) (hb : fb δ S1 = .ok y S2) (hg : gSub x y S2 = some d) : DL.fSub fa fb δ S = .ok d S2 := fBin_ok ha hb hg
theorem tst_ok (ha : fa δ S = .ok (.bl b) S1) : tst fa δ S = .ok b S1 := by unfold tst; rw [ha]; rfl
theorem fNot_ok (ha : ta δ S = .ok b S1) : fNot ta δ S = .ok (!b) S1 := by unfold fNot; rw [ha]; rfl
theorem fAnd_f (ha : ta δ S = .ok false S1) : fAnd ta tb δ S = .ok false S1 := by unfold fAnd; rw [ha]; rfl
theorem fAnd_t {r : Out Bool} (ha : ta δ S = .ok true S1) (hb : tb δ S1 = r) : fAnd ta tb δ S = r := by unfold fAnd; rw [ha]; exact hb
theorem fOr_t (ha : ta δ S = .ok true S1) : fOr ta tb δ S = .ok true S1 := by unfold fOr; rw [ha]; rfl
theorem fOr_f {r : Out Bool} (ha : ta δ S = .ok false S1) (hb : tb δ S1 = r) : fOr ta tb δ S = r := by unfold fOr; rw [ha]; exact hb
theorem fIf_t {r : Out D} (ha : ta δ S = .ok true S1) (hb : fa δ S1 = r) : fIf ta fa fb δ S = r := by unfold fIf; rw [ha]; exact hb
theorem fIf_f {r : Out D} (ha : ta δ S = .ok false S1) (hb : fb δ S1 = r) : fIf ta fa fb δ S = r := by unfold fIf; rw [ha]; exact hb
theorem fNil_ok : fNil δ S = .ok [] S := rfl
theorem fCons_ok (ha : fa δ S = .ok x S1) (hr : fr δ S1 = .ok xs S2) : fCons fa fr δ S = .ok (x :: xs) S2 := by unfold fCons; rw [ha, bnd_ok, hr, bnd_ok]
theorem fOne_ok (ha : fa δ S = .ok x S1) : fCons fa fNil δ S = .ok [x] S1 := fCons_ok ha rfl
theorem fTwo_ok (ha : fa δ S = .ok x S1) (hb : fb δ S1 = .ok y S2) : fCons fa (fCons fb fNil) δ S = .ok [x, y] S2 := fCons_ok ha (fOne_ok hb)
theorem fThree_ok (ha : fa δ S = .ok x S1) (hb : fb δ S1 = .ok y S2) (hc : fc δ S2 = .ok z S3) : fCons fa (fCons fb (fCons fc fNil)) δ S = .ok [x, y, z] S3 := fCons_ok ha (fTwo_ok hb hc)
theorem fTup_ok (hr : fr δ S = .ok xs S1) (hl : xs.length ≤ sizeLine) : fTup fr δ S = .ok (.tup xs) S1 := by unfold fTup; rw [hr, bnd_ok, if_pos hl]
theorem fLst_ok (hr : fr δ S = .ok xs S1) (hl : xs.length ≤ sizeLine) : fLst fr δ S = .ok (.lis xs) S1 := by unfold fLst; rw [hr, bnd_ok, if_pos hl]
theorem fCB_ok {g : List D → Sto → Option D} (hr : fr δ S = .ok xs S1) (hg : g xs S1 = some d) : fCB g fr δ S = .ok d S1 := by unfold fCB; rw [hr, bnd_ok, hg, opt_some]
theorem fBM_ok {T : String} {g : D → List D → Sto → Option D} (ho : fa δ S = .ok x S1) (ht : tyM S1 x = some T) (hr : fr δ S1 = .ok xs S2) (hg : g x xs S2 = some d) : fBM T g fa fr δ S = .ok d S2 := by
  unfold fBM; rw [ho, bnd_ok, if_pos ht, hr, bnd_ok, hg, opt_some]
theorem fCall_ok {g : List D → Sto → Out D} {r : Out D} (hr : fr δ S = .ok xs S1) (hl : xs.length = n) (hg : g xs S1 = r) : fCall n g fr δ S = r := by unfold fCall; rw [hr, bnd_ok, if_pos hl]; exact hg
theorem fEnd_ok {k : Int} (ha : fa δ S = .ok (.int k) S1) : fEnd fa δ S = .ok (some k) S1 := by unfold fEnd; rw [ha]; rfl
theorem fSl_ok {fl fh : DEnv → Sto → Out (Option Int)} {lo hi : Option Int} (ha : fa δ S = .ok x S1) (h1 : fl δ S1 = .ok lo S2) (h2 : fh δ S2 = .ok hi S3) (hg : gSl x lo hi S3 = some d) : fSl fa fl fh δ S = .ok d S3 := by
  unfold fSl; rw [ha, bnd_ok, h1, bnd_ok, h2, bnd_ok, hg, opt_some]
theorem fNeg_ok {k : Int} (ha : fa δ S = .ok (.int k) S1) : fNeg fa δ S = .ok (.int (-k)) S1 := by unfold fNeg; rw [ha]; rfl
theorem fR1_ok {j : Int} (h : fr δ S = .ok [.int j] S1) (h1 : -(2 ^ 62) ≤ j) (h2 : j < 2 ^ 62) : fR1 fr δ S = .ok (.of (rngD 0 j.toNat)) S1 := by
  unfold fR1
  rw [h]
  show (if _ ∧ _ then Out.ok (SrcF.of (rngD 0 j.toNat)) S1 else .no) = _
  rw [if_pos ⟨h1, h2⟩]
end
section
variable {w : WD} {D1 : DEnds} {δ : DEnv} {S S1 : Sto} {v u : TDS} {t : FB} {f : FV} {i : Nat} {r : D} {b : Bool}
theorem asg_ok (e : f δ S = .ok r S1) (h : v D1 (δ.set i (some r)) S1) : sSeq (sAsg (upF w f) (gN i)) v D1 δ S := by
  show fin (f δ S) _ _
  rw [e]
  exact h
theorem asgL_ok (e : f δ S = .ok r S1) (h : D1.nx (δ.set i (some r)) S1) : sAsg (upF w f) (gN i) D1 δ S := by
  show fin (f δ S) _ _
  rw [e]
  exact h
theorem ret_ok (e : f δ S = .ok r S1) (h : D1.rt r S1) : sRet (upF w f) D1 δ S := by
  show fin (f δ S) _ _
  rw [e]
  exact h
theorem ifF_ok (e : t δ S = .ok false S1) (h : v D1 δ S1) : sSeq (sIf (upB w t) u sNext) v D1 δ S := by
  unfold sSeq sIf upB
  rw [e]
  exact h
theorem ifT_ok (e : t δ S = .ok true S1) (h : u { D1 with nx := v D1 } δ S1) : sSeq (sIf (upB w t) u sNext) v D1 δ S := by
  unfold sSeq sIf upB
  rw [e]
  exact h
end
end DL
set_option maxRecDepth 100000
namespace DL
open PySem L2
def wt (ps : List Str) : Nat := (ps.map fun p => p.length + 1).sum
theorem wt_nil : wt [] = 0 := rfl
theorem wt_cons {p : Str} {ps : List Str} : wt (p :: ps) = p.length + 1 + wt ps := by unfold wt; rw [List.map_cons, List.sum_cons]
theorem wt_append {ps qs : List Str} : wt (ps ++ qs) = wt ps + wt qs := by unfold wt; rw [List.map_append, List.sum_append]
theorem len_le_wt : ∀ ps : List Str, ps.length ≤ wt ps
  | [] => Nat.zero_le _
  | p :: ps => by rw [wt_cons, List.length_cons]; have := len_le_wt ps; omega
theorem sum_wt : ∀ ps : List Str, (ps.map (·.length)).sum + ps.length = wt ps
  | [] => rfl
  | p :: ps => by rw [wt_cons, List.map_cons, List.sum_cons, List.length_cons, ← sum_wt ps]; omega
theorem mem_wt {p : Str} : ∀ {ps : List Str}, p ∈ ps → p.length + 1 ≤ wt ps
  | q :: ps, h => by
    rw [wt_cons]
    rcases List.mem_cons.mp h with rfl | h
    · omega
    · have := mem_wt h; omega
theorem cps_len (z : Str) : z.cps.toList.length = z.length := by rw [Array.length_toList]; rfl
theorem join_len {c : Nat} : ∀ (ps : List Str), ps ≠ [] → (Str.join ⟨#[c]⟩ ps).length + 1 = wt ps
  | [], h => absurd rfl h
  | [p], _ => by rw [wt_cons, wt_nil]; rfl
  | p :: q :: ps, _ => by
    have e := congrArg List.length (join_two (c := c) (x := p) (y := q) (r := ps))
    rw [cps_len, List.length_append, List.length_cons, cps_len, cps_len] at e
    have ih := join_len (c := c) (q :: ps) (by simp)
    rw [wt_cons]
    omega
theorem join_le {c : Nat} (ps : List Str) : (Str.join ⟨#[c]⟩ ps).length ≤ wt ps := by
  by_cases h : ps = []
  · subst h; exact Nat.le_refl _
  · have := join_len (c := c) ps h; omega
theorem split_ne (z y : Str) : Txt.split z y ≠ [] := fun e => by
  have := PyProof.Rows.split_pos z y
  rw [e] at this
  exact absurd this (by decide)
theorem split_wt {z : Str} {c : Nat} : wt (Txt.split z ⟨#[c]⟩) = z.length + 1 := by
  have := join_len (c := c) _ (split_ne z ⟨#[c]⟩)
  rw [StrLaws.join_split] at this
  exact this.symm
def AllS (P : Nat → Prop) (z : Str) : Prop := ∀ c ∈ z.cps.toList, P c
theorem join_all {P : Nat → Prop} {c : Nat} (hc : P c) : ∀ ps : List Str, (∀ p ∈ ps, AllS P p) → AllS P (Str.join ⟨#[c]⟩ ps)
  | [], _ => fun x hx => by
    have : (Str.join ⟨#[c]⟩ []).cps.toList = [] := rfl
    rw [this] at hx
    cases hx
  | [p], h => h p List.mem_cons_self
  | p :: q :: ps, h => fun x hx => by
    rw [join_two] at hx
    rcases List.mem_append.mp hx with hx | hx
    · exact h p List.mem_cons_self x hx
    · rcases List.mem_cons.mp hx with rfl | hx
      · exact hc
      · exact join_all hc (q :: ps) (fun y hy => h y (List.mem_cons_of_mem _ hy)) x hx
theorem of_join {P : Nat → Prop} {c : Nat} : ∀ ps : List Str, AllS P (Str.join ⟨#[c]⟩ ps) → ∀ p ∈ ps, AllS P p
  | [], _, p, hp => by cases hp
  | [q], h, p, hp => by rw [List.mem_singleton.mp hp]; exact h
  | q :: r :: ps, h, p, hp => by
    rcases List.mem_cons.mp hp with rfl | hp
    · exact fun x hx => h x (by rw [join_two]; exact List.mem_append_left _ hx)
    · exact of_join (r :: ps) (fun x hx => h x (by rw [join_two]; exact List.mem_append_right _ (List.mem_cons_of_mem _ hx))) p hp
theorem split_all {P : Nat → Prop} {z : Str} {c : Nat} (h : AllS P z) : ∀ p ∈ Txt.split z ⟨#[c]⟩, AllS P p := of_join (c := c) _ (by rw [StrLaws.join_split]; exact h)
theorem append_all {P : Nat → Prop} {x y : Str} (h : AllS P x) (k : AllS P y) : AllS P (x ++ y) := fun c hc => by
  have e : (x ++ y).cps.toList = x.cps.toList ++ y.cps.toList := by show (x.cps ++ y.cps).toList = _; simp
  rw [e] at hc
  exact (List.mem_append.mp hc).elim (h c) (k c)
theorem append_len {x y : Str} : (x ++ y).length = x.length + y.length := by
  show (x.cps ++ y.cps).size = _
  rw [Array.size_append]
  rfl
theorem cut_all {P : Nat → Prop} {z : Str} {lo hi : Option Int} (h : AllS P z) : AllS P (cutS z lo hi) := fun c hc => by
  unfold cutS at hc
  have hc : c ∈ (List.take (HT.sIx z.length z.length hi - HT.sIx z.length 0 lo) (List.drop (HT.sIx z.length 0 lo) z.cps.toList)) := by simpa using hc
  exact h c (List.mem_of_mem_drop (List.mem_of_mem_take hc))
theorem cut_take {z : Str} {n : Nat} : cutS z none (some (n : Int)) = ⟨(z.cps.toList.take n).toArray⟩ := by
  unfold cutS
  rw [HT.sIx_none, HT.sIx_nat, List.drop_zero, Nat.sub_zero]
  congr 2
  rw [← cps_len]
  by_cases h : n ≤ z.cps.toList.length
  · rw [Nat.min_eq_left h]
  · rw [Nat.min_eq_right (by omega), List.take_length, List.take_of_length_le (by omega)]
theorem cut_drop {z : Str} {n : Nat} : cutS z (some (n : Int)) none = ⟨(z.cps.toList.drop n).toArray⟩ := by
  unfold cutS
  rw [HT.sIx_none, HT.sIx_nat]
  congr 2
  rw [← cps_len]
  by_cases h : n ≤ z.cps.toList.length
  · rw [Nat.min_eq_left h]
    exact List.take_of_length_le (by simp)
  · rw [Nat.min_eq_right (by omega), List.drop_length, List.drop_of_length_le (by omega), List.take_nil]
theorem str_len_mk {l : List Nat} : (⟨l.toArray⟩ : Str).length = l.length := by show l.toArray.size = _; simp
theorem cut_take_len {z : Str} {n : Nat} : (cutS z none (some (n : Int))).length ≤ n := by rw [cut_take, str_len_mk, List.length_take]; omega
theorem cut_drop_len {z : Str} {n : Nat} : (cutS z (some (n : Int)) none).length = z.length - n := by rw [cut_drop, str_len_mk, List.length_drop, cps_len]
theorem strOk_iff {z : Str} : PyData.strOk z = true ↔ AllS (fun c => c < 0x110000) z := by
  unfold PyData.strOk AllS
  rw [← Array.all_toList, List.all_eq_true]
  exact ⟨fun h c hc => of_decide_eq_true (h c hc), fun h c hc => decide_eq_true (h c hc)⟩
end DL
set_option maxRecDepth 100000
set_option maxHeartbeats 1000000
namespace Hb
open PySem L2 DL
abbrev Gd (z : Str) : Prop := AllS (fun c => c < 0x110000) z
theorem nl_eq : Str.ofString "\n" = ⟨#[10]⟩ := by decide
theorem sp_eq : Str.ofString " " = ⟨#[32]⟩ := by decide
theorem dot_eq : Str.ofString "." = ⟨#[46]⟩ := by decide
theorem split_ev {z y : Str} {S : Sto} (hy : y.length = 1) (hz : z.length + 2 ≤ sizeLine) : lisO (fSplit (.str z)) [.str y] S = some (.lis ((Txt.split z y).map .str)) := by
  have : (y.length == 0) = false := by rw [hy]; rfl
  unfold lisO fSplit
  dsimp only
  rw [if_pos ⟨this, hz⟩]
theorem join_ev {y : Str} {ps : List Str} {S : Sto} (hy : y.length = 1) (h : wt ps ≤ 16777216) : fJoin (.str y) [.lis (ps.map .str)] S = some (.str (Txt.join y ps)) := by
  show (Option.bind (some (ps.map DL.D.str)) fun xs => (strsD xs).bind fun ys => if (ys.map (·.length)).sum + ys.length * y.length ≤ 16777216 then some (DL.D.str (Txt.join y ys)) else none) = _
  rw [Option.bind_some, strsD_map, Option.bind_some, hy, Nat.mul_one, sum_wt, if_pos h]
theorem join_eq (y : Str) (ps : List Str) : Txt.join y ps = Str.join y ps := StrLaws.glued_eq_join _ _
theorem len_ev {xs : List DL.D} {S : Sto} : gLen [.lis xs] S = some (.int (xs.length : Nat)) := rfl
theorem ev_next {δ : DEnv} {S : Sto} {a : Addr} {i : Nat} {fn : FV} {n : Int} (e0 : δ[i]? = some (some (.ref a))) (e1 : fn δ S = .ok (.int n) S) (d : Dc S a) (h1 : 0 < n) (h2 : n < 1073741824) :
    ∃ (v : Nat) (S' : Sto), fCall 2 gNext (fCons (fVar i) (fCons fn fNil)) δ S = .ok (.int v) S' ∧ (v : Int) < n ∧ Dc S' a ∧ Off a S S' := by
  obtain ⟨v, S', e, a1, a2, d1, o1⟩ := next_ok d h1 h2
  obtain ⟨m, rfl⟩ := Int.eq_ofNat_of_zero_le a1
  exact ⟨m, S', fCall_ok (fTwo_ok (fVar_ok e0) e1) rfl e, a2, d1, o1⟩
theorem cutD_take {xs : List DL.D} {n : Nat} : cutD xs none (some (n : Int)) = xs.take n := by
  unfold cutD
  rw [HT.sIx_none, HT.sIx_nat, List.drop_zero, Nat.sub_zero]
  by_cases h : n ≤ xs.length
  · rw [Nat.min_eq_left h]
  · rw [Nat.min_eq_right (by omega), List.take_length, List.take_of_length_le (by omega)]
theorem cutD_drop {xs : List DL.D} {n : Nat} : cutD xs (some (n : Int)) none = xs.drop n := by
  unfold cutD
  rw [HT.sIx_none, HT.sIx_nat]
  by_cases h : n ≤ xs.length
  · rw [Nat.min_eq_left h]
    exact List.take_of_length_le (by simp)
  · rw [Nat.min_eq_right (by omega), List.drop_length, List.drop_of_length_le (by omega), List.take_nil]
theorem cutD_sub {xs : List DL.D} {lo hi : Option Int} : ∃ i n, cutD xs lo hi = (xs.drop i).take n := ⟨_, _, rfl⟩
theorem sl_ev {xs : List DL.D} {lo hi : Option Int} {S : Sto} : gSl (.lis xs) lo hi S = some (.lis (cutD xs lo hi)) := rfl
theorem add_ev {xs ys : List DL.D} {S : Sto} (h : xs.length + ys.length ≤ sizeLine) : gAdd (.lis xs) (.lis ys) S = some (.lis (xs ++ ys)) := by
  show (if xs.length + ys.length ≤ sizeLine then some (DL.D.lis (xs ++ ys)) else none) = _
  rw [if_pos h]
theorem mul_ev {xs : List DL.D} {k : Int} {S : Sto} (h1 : -(2 ^ 63) ≤ k) (h2 : k < 2 ^ 63) (h : xs.length * k.toNat ≤ sizeLine) : gMulS (.lis xs) (.int k) S = some (.lis (List.replicate k.toNat xs).flatten) := by
  show (if -(2 ^ 63) ≤ k ∧ k < 2 ^ 63 ∧ xs.length * k.toNat ≤ sizeLine then some (DL.D.lis (List.replicate k.toNat xs).flatten) else none) = _
  rw [if_pos ⟨h1, h2, h⟩]
theorem sub_ev {xs : List DL.D} {v : Nat} {S : Sto} {d : DL.D} (h : xs[v]? = some d) : DL.gSub (.lis xs) (.int v) S = some d := by
  show atI xs (v : Int) = some d
  have hv : v < xs.length := (List.getElem?_eq_some_iff.mp h).1
  unfold L2.atI L2.ixN
  rw [if_pos (by omega), if_pos (by omega)]
  exact h
theorem sub_str {ps : List Str} {v : Nat} {S : Sto} (h : v < ps.length) : ∃ p, DL.gSub (.lis (ps.map .str)) (.int v) S = some (.str p) ∧ ps[v]? = some p := by
  refine ⟨ps[v], sub_ev ?_, List.getElem?_eq_getElem h⟩
  rw [List.getElem?_map, List.getElem?_eq_getElem h]
  rfl
theorem sgn_str {z : Str} {v : Nat} {S : Sto} (hz : z.length ≤ sizeLine) (h : v < z.length) : ∃ c, DL.gSub (.str z) (.int v) S = some (.str ⟨#[c]⟩) ∧ c ∈ z.cps.toList := by
  have h2 : v < z.cps.toList.length := by rw [cps_len]; exact h
  refine ⟨z.cps.toList[v], ?_, List.getElem_mem h2⟩
  show (if z.length ≤ sizeLine then (atI z.cps.toList (v : Int)).map fun c => DL.D.str ⟨#[c]⟩ else none) = _
  rw [if_pos hz]
  unfold L2.atI L2.ixN
  rw [if_pos (by omega), if_pos (by omega)]
  show (z.cps.toList[v]?).map _ = _
  rw [List.getElem?_eq_getElem h2]
  rfl
theorem wt_take_drop {ps : List Str} {k : Nat} : wt (ps.take k) + wt (ps.drop (k + 1)) ≤ wt ps := by
  have e : wt (ps.take k) + wt (ps.drop k) = wt ps := by rw [← wt_append, List.take_append_drop]
  have : wt (ps.drop (k + 1)) ≤ wt (ps.drop k) := by
    rw [← List.drop_drop]
    cases ps.drop k with
    | nil => exact Nat.le_refl _
    | cons p r => rw [List.drop_succ_cons, List.drop_zero, wt_cons]; omega
  omega
theorem wt_sub {ps : List Str} {i n : Nat} : wt ((ps.drop i).take n) ≤ wt ps := by
  have e1 : wt ((ps.drop i).take n) + wt ((ps.drop i).drop n) = wt (ps.drop i) := by rw [← wt_append, List.take_append_drop]
  have e2 : wt (ps.take i) + wt (ps.drop i) = wt ps := by rw [← wt_append, List.take_append_drop]
  omega
def spChanged : DSp := fun ds S Q _ => ∃ a z, ds = [.ref a, .str z] ∧ Dc S a ∧ z.length ≤ 100000 ∧ Gd z ∧ ∀ z' S', z'.length ≤ 4 * z.length + 40 → Gd z' → Dc S' a → Off a S S' → Q (.str z') S'
theorem spChanged_mono : MonoSp spChanged := fun ds S Q Q' E E' h _ ⟨a, z, e, d, l, g, q⟩ => ⟨a, z, e, d, l, g, fun z' S' h1 h2 h3 h4 => h _ _ (q z' S' h1 h2 h3 h4)⟩
theorem spChanged_len : ∀ ds S Q E, spChanged ds S Q E → ds.length = 2 := fun ds S Q E ⟨a, z, e, _⟩ => by rw [e]; rfl
theorem scChanged : FnScope ["_law_d", "_law_text", "_law_rows", "_law_k", "_law_words", "_law_j", "_law_odd", "_law_way", "_law_new", "_law_line", "_law_place", "_law_every"] ["_law_d", "_law_text"] (defScope (top 40)) := ⟨rfl, rfl, rfl, by decide +kernel, rfl, by decide +kernel, by decide +kernel⟩
def ODD : List Str := ["", "0", "00", "999", "1000", "-1", ".", "..", "a.", ".a", "a.b.c.d.e", "a.b.c.d.e.f", "abcd", "A", "a-b"]
theorem odd_ok : ∀ p ∈ ODD, p.length ≤ 11 ∧ PyData.strOk p = true := by decide +kernel
def EVERY : Str := " !#$&'()*+,-./0123456789:;<=>?@ABCDEFGHIJKLMNOPQRSTUVWXYZ[]^_`abcdefghijklmnopqrstuvwxyz{|}~\n"
theorem every_ok : EVERY.length = 93 ∧ PyData.strOk EVERY = true := by decide +kernel
theorem line_ok {ps nw : List Str} {k : Nat} {y : Nat} (hy : y < 0x110000) (h1 : ∀ p ∈ ps, Gd p) (h2 : ∀ p ∈ nw, Gd p) : (Txt.join ⟨#[y]⟩ (ps.take k ++ nw ++ ps.drop (k + 1))).length ≤ wt ps + wt nw ∧ Gd (Txt.join ⟨#[y]⟩ (ps.take k ++ nw ++ ps.drop (k + 1))) := by
  rw [join_eq]
  refine ⟨?_, join_all (P := fun c => c < 0x110000) hy _ fun p hp => ?_⟩
  · have h3 := join_le (c := y) (ps.take k ++ nw ++ ps.drop (k + 1))
    have h4 := wt_take_drop (ps := ps) (k := k)
    rw [wt_append, wt_append] at h3
    omega
  · rcases List.mem_append.mp hp with hp | hp
    · rcases List.mem_append.mp hp with hp | hp
      · exact h1 p (List.mem_of_mem_take hp)
      · exact h2 p hp
    · exact h1 p (List.mem_of_mem_drop hp)
theorem map_parts {ps nw : List Str} {k : Nat} : (ps.map DL.D.str).take k ++ nw.map DL.D.str ++ (ps.map DL.D.str).drop (k + 1) = (ps.take k ++ nw ++ ps.drop (k + 1)).map DL.D.str := by
  rw [List.map_append, List.map_append, List.map_take, List.map_drop]
theorem ev_parts {δ : DEnv} {S S1 : Sto} {ps nw : List Str} {i j k : Nat} {y : Str} {fn : FV} (hy : y.length = 1) (hl : wt ps + wt nw ≤ 10000000) (e1 : δ[i]? = some (some (.lis (ps.map .str)))) (e2 : δ[j]? = some (some (.int (k : Nat)))) (e3 : fn δ S = .ok (.lis (nw.map .str)) S1) :
    fBM "str" fJoin (fC (.str y)) (fCons (fBin gAdd (fBin gAdd (fSl (fVar i) fNoEnd (fEnd (fVar j))) fn) (fSl (fVar i) (fEnd (fBin gAdd (fVar j) (fC (.int 1)))) fNoEnd)) fNil) δ S = .ok (.str (Txt.join y (ps.take k ++ nw ++ ps.drop (k + 1)))) S1 := by
  have big : (10000000 : Nat) ≤ sizeLine := by decide
  have l1 := len_le_wt ps
  have l2 := len_le_wt nw
  have hw := wt_take_drop (ps := ps) (k := k)
  refine fBM_ok (x := .str y) (S1 := S) fC_ok rfl (fOne_ok (x := .lis ((ps.take k ++ nw ++ ps.drop (k + 1)).map .str)) (S1 := S1) ?_) (join_ev hy (by rw [wt_append, wt_append]; omega))
  rw [← map_parts]
  refine fBin_ok (x := .lis ((ps.map DL.D.str).take k ++ nw.map DL.D.str)) (y := .lis ((ps.map DL.D.str).drop (k + 1))) (S1 := S1) (fBin_ok (x := .lis ((ps.map DL.D.str).take k)) (S1 := S) ?_ e3 (add_ev ?_)) ?_ (add_ev ?_)
  · refine fSl_ok (fVar_ok e1) rfl (fEnd_ok (fVar_ok e2)) ?_
    rw [sl_ev, cutD_take]
  · rw [List.length_take, List.length_map, List.length_map]; omega
  · refine fSl_ok (fVar_ok e1) (fEnd_ok (k := ((k + 1 : Nat) : Int)) (fBin_ok (fVar_ok e2) fC_ok rfl)) rfl ?_
    rw [sl_ev, cutD_drop]
  · rw [List.length_append, List.length_take, List.length_drop, List.length_map, List.length_map]; omega
section
variable {P : Program} {w : World} {K : PySem.W.Frag} {mg : Str → Option Value} {base : Heap} {k : Nat} {f : Addr} {fd : FuncData}
theorem ok_changed {fn : Addr} (F : Fun K "_law_changed" "_law_changed" (top 40) f fd) (b : Binds K fd ["_law_d", "_law_text"] []) (b_len : mg "len" = none) (m__law_next : mg "_law_next" = some (.ref fn)) (F__law_next : FnD P w K mg base (k + 1) fn (spO 2 gNext)) : FnD P w K mg base (k + 2) f spChanged := by
  refine fnD_ok F b scChanged spChanged_mono spChanged_len fun X cdv A outer s H E wx eX hr tk po => ?_
  have hu : X.A.units + 64 < cLine := by have := hr.un; omega
  subst eX
  have sc := @scChanged
  refine ⟨_, (dss_cons (ds_set (i := 2) sc.nd rfl (by first | exact .inl rfl | exact .inr rfl) (fe_w (fun c _ S => dnX wx c S) (fe_bmL PySem.F.plainAttrs_str PySem.F.slot_str_split PySem.F.type_str_split dmt_split (fv 1) (fa_cons fe_str fa_nil))))
      (dss_cons (ds_set (i := 3) sc.nd rfl (by first | exact .inl rfl | exact .inr rfl) (fe_w (fun c _ S => dnX wx c S) (fe_call F__law_next hr (by rfl) m__law_next tk (fa_cons (fv 0) (fa_cons (fe_callB fcall_len (by rfl) b_len (by rfl) (fa_cons (fv 2) fa_nil)) fa_nil)))))
      (dss_cons (ds_set (i := 4) sc.nd rfl (by first | exact .inl rfl | exact .inr rfl) (fe_w (fun c _ S => dnX wx c S) (fe_bmL PySem.F.plainAttrs_str PySem.F.slot_str_split PySem.F.type_str_split dmt_split (fe_sub hu (fv 2) (fv 3)) (fa_cons fe_str fa_nil))))
      (dss_cons (ds_set (i := 5) sc.nd rfl (by first | exact .inl rfl | exact .inr rfl) (fe_w (fun c _ S => dnX wx c S) (fe_call F__law_next hr (by rfl) m__law_next tk (fa_cons (fv 0) (fa_cons (fe_callB fcall_len (by rfl) b_len (by rfl) (fa_cons (fv 4) fa_nil)) fa_nil)))))
      (dss_cons (ds_set (i := 6) sc.nd rfl (by first | exact .inl rfl | exact .inr rfl) (fe_w (fun c _ S => dnX wx c S) (fe_lst (fa_cons fe_str (fa_cons fe_str (fa_cons fe_str (fa_cons fe_str (fa_cons fe_str (fa_cons fe_str (fa_cons fe_str (fa_cons fe_str (fa_cons fe_str (fa_cons fe_str (fa_cons fe_str (fa_cons fe_str (fa_cons fe_str (fa_cons fe_str (fa_cons fe_str fa_nil))))))))))))))))))
      (dss_cons (ds_set (i := 7) sc.nd rfl (by first | exact .inl rfl | exact .inr rfl) (fe_w (fun c _ S => dnX wx c S) (fe_call F__law_next hr (by rfl) m__law_next tk (fa_cons (fv 0) (fa_cons fe_int fa_nil)))))
      (dss_cons (ds_if (ft_w (fun c _ S => dnX wx c S) (ft_cmp dop_ltA (fv 7) fe_int (by with_unfolding_all rfl))) (dss_cons (ds_set (i := 8) sc.nd rfl (by first | exact .inl rfl | exact .inr rfl) (fe_w (fun c _ S => dnX wx c S) (fe_sub hu (fe_lst (fa_cons (fe_lst fa_nil) (fa_cons (fe_op fop_mulS (fe_slice (fv 4) (fo_some (fv 5)) (fo_some (fe_op fop_add (fv 5) fe_int))) fe_int) (fa_cons (fe_lst (fa_cons (fe_sub hu (fv 6) (fe_call F__law_next hr (by rfl) m__law_next tk (fa_cons (fv 0) (fa_cons fe_int fa_nil)))) fa_nil)) fa_nil)))) (fv 7))))
      (dss_cons (ds_set (i := 9) sc.nd rfl (by first | exact .inl rfl | exact .inr rfl) (fe_w (fun c _ S => dnX wx c S) (fe_bm PySem.F.plainAttrs_str PySem.F.slot_str_join PySem.F.type_str_join dmt_join fe_str (fa_cons (fe_op fop_add (fe_op fop_add (fe_slice (fv 4) fo_none (fo_some (fv 5))) (fv 8)) (fe_slice (fv 4) (fo_some (fe_op fop_add (fv 5) fe_int)) fo_none)) fa_nil))))
      (dss_one (ds_ret (fe_w (fun c _ S => dnX wx c S) (fe_bm PySem.F.plainAttrs_str PySem.F.slot_str_join PySem.F.type_str_join dmt_join fe_str (fa_cons (fe_op fop_add (fe_op fop_add (fe_slice (fv 2) fo_none (fo_some (fv 3))) (fe_lst (fa_cons (fv 9) fa_nil))) (fe_slice (fv 2) (fo_some (fe_op fop_add (fv 3) fe_int)) fo_none)) fa_nil))))))) dss_nil)
      (dss_cons (ds_if (ft_w (fun c _ S => dnX wx c S) (ft_cmp dop_ltA (fv 7) fe_int (by with_unfolding_all rfl))) (dss_one (ds_ret (fe_w (fun c _ S => dnX wx c S) (fe_bm PySem.F.plainAttrs_str PySem.F.slot_str_join PySem.F.type_str_join dmt_join fe_str (fa_cons (fe_op fop_add (fe_op fop_add (fe_slice (fv 2) fo_none (fo_some (fv 3))) (fe_op fop_mulS (fe_slice (fv 2) (fo_some (fv 3)) (fo_some (fe_op fop_add (fv 3) fe_int))) (fe_sub hu (fe_lst (fa_cons fe_int (fa_cons fe_int fa_nil))) (fe_op fop_sub (fv 7) fe_int)))) (fe_slice (fv 2) (fo_some (fe_op fop_add (fv 3) fe_int)) fo_none)) fa_nil))))) dss_nil)
      (dss_cons (ds_set (i := 10) sc.nd rfl (by first | exact .inl rfl | exact .inr rfl) (fe_w (fun c _ S => dnX wx c S) (fe_call F__law_next hr (by rfl) m__law_next tk (fa_cons (fv 0) (fa_cons (fe_op fop_add (fe_callB fcall_len (by rfl) b_len (by rfl) (fa_cons (fv 1) fa_nil)) fe_int) fa_nil)))))
      (dss_cons (ds_set (i := 11) sc.nd rfl (by first | exact .inl rfl | exact .inr rfl) (fe_w (fun c _ S => dnX wx c S) fe_str))
      (dss_one (ds_ret (fe_w (fun c _ S => dnX wx c S) (fe_op fop_add (fe_op fop_add (fe_slice (fv 1) fo_none (fo_some (fv 10))) (fe_op fop_mulS (fe_sub hu (fv 11) (fe_call F__law_next hr (by rfl) m__law_next tk (fa_cons (fv 0) (fa_cons fe_int fa_nil)))) (fe_call F__law_next hr (by rfl) m__law_next tk (fa_cons (fv 0) (fa_cons fe_int fa_nil))))) (fe_slice (fv 1) (fo_some (fe_op fop_add (fv 10) (fe_call F__law_next hr (by rfl) m__law_next tk (fa_cons (fv 0) (fa_cons fe_int fa_nil))))) fo_none))))))))))))))), fun ds S Q h => ?_⟩
  clear hr tk po hu F__law_next F b
  obtain ⟨a, z, rfl, d0, hz, hg, h⟩ := h
  have big : (10000000 : Nat) ≤ sizeLine := by decide
  rw [show startD ["_law_d", "_law_text", "_law_rows", "_law_k", "_law_words", "_law_j", "_law_odd", "_law_way", "_law_new", "_law_line", "_law_place", "_law_every"] [DL.D.ref a, DL.D.str z] = [some (.ref a), some (.str z), none, none, none, none, none, none, none, none, none, none] from rfl]
  -- rows
  refine asg_ok (r := .lis ((Txt.split z "\n").map .str)) (fBM_ok (fVar_ok rfl) rfl (fOne_ok fC_ok) (split_ev rfl (by omega))) ?_
  have wr : wt (Txt.split z (Str.ofString "\n")) = z.length + 1 := by rw [nl_eq]; exact split_wt
  have gr : ∀ p ∈ Txt.split z (Str.ofString "\n"), Gd p := by rw [nl_eq]; exact split_all hg
  have pr : 0 < (Txt.split z (Str.ofString "\n")).length := PyProof.Rows.split_pos _ _
  generalize Txt.split z (Str.ofString "\n") = rows at wr gr pr ⊢
  have lr := len_le_wt rows
  -- k
  obtain ⟨k, S1, e1, k1, d1, o1⟩ := ev_next (δ := [some (.ref a), some (.str z), some (.lis (rows.map .str)), none, none, none, none, none, none, none, none, none]) (S := S) (i := 0) (fn := fCB gLen (fCons (fVar 2) fNil)) (n := ((rows.map DL.D.str).length : Nat)) rfl (fCB_ok (fOne_ok (fVar_ok rfl)) len_ev) d0 (by rw [List.length_map]; omega) (by rw [List.length_map]; omega)
  refine asg_ok e1 ?_
  rw [List.length_map] at k1
  -- words
  obtain ⟨row, e2, e2'⟩ := sub_str (ps := rows) (v := k) (S := S1) (by omega)
  have mrow : row ∈ rows := List.mem_of_getElem? e2'
  have lrow := mem_wt mrow
  refine asg_ok (S1 := S1) (r := .lis ((Txt.split row " ").map .str)) (fBM_ok (x := .str row) (S1 := S1) (fSub_ok (fVar_ok rfl) (fVar_ok rfl) e2) rfl (fOne_ok fC_ok) (split_ev rfl (by omega))) ?_
  have ww : wt (Txt.split row (Str.ofString " ")) = row.length + 1 := by rw [sp_eq]; exact split_wt
  have gw : ∀ p ∈ Txt.split row (Str.ofString " "), Gd p := by rw [sp_eq]; exact split_all (gr row mrow)
  have pw : 0 < (Txt.split row (Str.ofString " ")).length := PyProof.Rows.split_pos _ _
  generalize Txt.split row (Str.ofString " ") = words at ww gw pw ⊢
  have lw := len_le_wt words
  -- j
  obtain ⟨j, S2, e3, j1, d2, o2⟩ := ev_next (δ := [some (.ref a), some (.str z), some (.lis (rows.map .str)), some (.int k), some (.lis (words.map .str)), none, none, none, none, none, none, none]) (S := S1) (i := 0) (fn := fCB gLen (fCons (fVar 4) fNil)) (n := ((words.map DL.D.str).length : Nat)) rfl (fCB_ok (fOne_ok (fVar_ok rfl)) len_ev) d1 (by rw [List.length_map]; omega) (by rw [List.length_map]; omega)
  refine asg_ok e3 ?_
  rw [List.length_map] at j1
  -- odd
  refine asg_ok (r := .lis (ODD.map .str)) (S1 := S2) rfl ?_
  -- way
  obtain ⟨way, S3, e4, w1, d3, o3⟩ := ev_next (δ := [some (.ref a), some (.str z), some (.lis (rows.map .str)), some (.int k), some (.lis (words.map .str)), some (.int j), some (.lis (ODD.map .str)), none, none, none, none, none]) (S := S2) (i := 0) (fn := fC (.int 7)) (n := 7) rfl fC_ok d2 (by decide) (by decide)
  refine asg_ok e4 ?_
  have off3 : Off a S S3 := (o1.trans o2).trans o3
  show sSeq _ _ _ [some (.ref a), some (.str z), some (.lis (rows.map .str)), some (.int k), some (.lis (words.map .str)), some (.int j), some (.lis (ODD.map .str)), some (.int way), none, none, none, none] S3
  by_cases c1 : (way : Int) < 3
  · refine ifT_ok (S1 := S3) (by have := tst_ok (fBin_ok (δ := [some (.ref a), some (.str z), some (.lis (rows.map .str)), some (.int k), some (.lis (words.map .str)), some (.int j), some (.lis (ODD.map .str)), some (.int way), none, none, none, none]) (S := S3) (fa := fVar 7) (fb := fC (.int 3)) (fVar_ok rfl) fC_ok (show fOrd (fun i j => decide (i < j)) DL.ltS _ _ _ = some (DL.D.bl (decide ((way : Int) < 3))) from rfl)); rw [decide_eq_true c1] at this; exact this) ?_
    -- new
    obtain ⟨q, S4, e5, q1, d4, o4⟩ := ev_next (δ := [some (.ref a), some (.str z), some (.lis (rows.map .str)), some (.int k), some (.lis (words.map .str)), some (.int j), some (.lis (ODD.map .str)), some (.int way), none, none, none, none]) (S := S3) (i := 0) (fn := fC (.int 15)) (n := 15) rfl fC_ok d3 (by decide) (by decide)
    obtain ⟨oddw, e6, e6'⟩ := sub_str (ps := ODD) (v := q) (S := S4) (by show q < 15; omega)
    have modd : oddw ∈ ODD := List.mem_of_getElem? e6'
    obtain ⟨od1, od2⟩ := odd_ok oddw modd
    have wsub := wt_sub (ps := words) (i := HT.sIx words.length 0 (some (j : Int))) (n := HT.sIx words.length words.length (some ((j + 1 : Nat) : Int)) - HT.sIx words.length 0 (some (j : Int)))
    generalize hws : (words.drop (HT.sIx words.length 0 (some (j : Int)))).take (HT.sIx words.length words.length (some ((j + 1 : Nat) : Int)) - HT.sIx words.length 0 (some (j : Int))) = ws at wsub
    have ecut : cutD (words.map DL.D.str) (some (j : Int)) (some ((j + 1 : Nat) : Int)) = ws.map DL.D.str := by
      rw [← hws, List.map_take, List.map_drop]
      unfold cutD
      rw [List.length_map]
    have lws := len_le_wt ws
    have gws : ∀ p ∈ ws, Gd p := fun p hp => by
      rw [← hws] at hp
      exact gw p (List.mem_of_mem_drop (List.mem_of_mem_take hp))
    have erep : (List.replicate (2 : Int).toNat (ws.map DL.D.str)).flatten = (ws ++ ws).map DL.D.str := by
      show (List.replicate 2 (ws.map DL.D.str)).flatten = _
      simp [List.replicate_succ]
    have enew : fLst (fCons (fLst fNil) (fCons (fBin gMulS (fSl (fVar 4) (fEnd (fVar 5)) (fEnd (fBin gAdd (fVar 5) (fC (.int 1))))) (fC (.int 2))) (fCons (fLst (fCons (DL.fSub (fVar 6) (fCall 2 gNext (fCons (fVar 0) (fCons (fC (.int 15)) fNil)))) fNil)) fNil))) [some (.ref a), some (.str z), some (.lis (rows.map .str)), some (.int k), some (.lis (words.map .str)), some (.int j), some (.lis (ODD.map .str)), some (.int way), none, none, none, none] S3 = .ok (.lis [.lis (([] : List Str).map .str), .lis ((ws ++ ws).map .str), .lis ([oddw].map .str)]) S4 := by
      refine fLst_ok (fThree_ok (S1 := S3) (S2 := S3) rfl (fBin_ok (S1 := S3) (x := .lis (ws.map .str)) (fSl_ok (S1 := S3) (S2 := S3) (S3 := S3) (fVar_ok rfl) (fEnd_ok (fVar_ok rfl)) (fEnd_ok (k := ((j + 1 : Nat) : Int)) (fBin_ok (fVar_ok rfl) fC_ok rfl)) ?_) fC_ok ?_) (fLst_ok (fOne_ok (x := .str oddw) (fSub_ok (fVar_ok rfl) e5 e6)) (by show 1 ≤ _; omega))) (by show 3 ≤ _; omega)
      · rw [sl_ev, ecut]
      · rw [← erep]
        refine mul_ev (by decide) (by decide) ?_
        rw [List.length_map]
        show ws.length * 2 ≤ _
        omega
    have hnew : ∃ nw : List Str, DL.gSub (.lis [.lis (([] : List Str).map DL.D.str), .lis ((ws ++ ws).map .str), .lis ([oddw].map .str)]) (.int way) S4 = some (.lis (nw.map .str)) ∧ wt nw ≤ 2 * wt words + 20 ∧ ∀ p ∈ nw, Gd p := by
      have : way = 0 ∨ way = 1 ∨ way = 2 := by omega
      rcases this with rfl | rfl | rfl
      · exact ⟨[], rfl, by rw [wt_nil]; omega, fun p hp => by cases hp⟩
      · exact ⟨ws ++ ws, rfl, by rw [wt_append]; omega, fun p hp => (List.mem_append.mp hp).elim (gws p) (gws p)⟩
      · exact ⟨[oddw], rfl, by rw [wt_cons, wt_nil]; omega, fun p hp => by rw [List.mem_singleton.mp hp]; exact strOk_iff.mp od2⟩
    obtain ⟨nw, en, wn, gn⟩ := hnew
    refine asg_ok (S1 := S4) (fSub_ok enew (fVar_ok rfl) en) ?_
    -- line
    obtain ⟨l1, l2⟩ := line_ok (ps := words) (nw := nw) (k := j) (y := 32) (by decide) gw gn
    rw [← sp_eq] at l1 l2
    refine asg_ok (S1 := S4) (ev_parts rfl (by omega) rfl rfl (fVar_ok rfl)) ?_
    generalize Txt.join (Str.ofString " ") (words.take j ++ nw ++ words.drop (j + 1)) = ln at l1 l2
    -- end
    have wln : wt [ln] = ln.length + 1 := by rw [wt_cons, wt_nil]
    obtain ⟨m1, m2⟩ := line_ok (ps := rows) (nw := [ln]) (k := k) (y := 10) (by decide) gr (fun p hp => by rw [List.mem_singleton.mp hp]; exact l2)
    rw [← nl_eq] at m1 m2
    refine ret_ok (S1 := S4) (ev_parts (nw := [ln]) rfl (by omega) rfl rfl (fLst_ok (fOne_ok (fVar_ok rfl)) (by show 1 ≤ _; omega))) ?_
    exact ⟨_, Less.refl, h _ _ (by omega) m2 d4 (off3.trans o4)⟩
  · refine ifF_ok (S1 := S3) (by have := tst_ok (fBin_ok (δ := [some (.ref a), some (.str z), some (.lis (rows.map .str)), some (.int k), some (.lis (words.map .str)), some (.int j), some (.lis (ODD.map .str)), some (.int way), none, none, none, none]) (S := S3) (fa := fVar 7) (fb := fC (.int 3)) (fVar_ok rfl) fC_ok (show fOrd (fun i j => decide (i < j)) DL.ltS _ _ _ = some (DL.D.bl (decide ((way : Int) < 3))) from rfl)); rw [decide_eq_false c1] at this; exact this) ?_
    by_cases c2 : (way : Int) < 5
    · refine ifT_ok (S1 := S3) (by have := tst_ok (fBin_ok (δ := [some (.ref a), some (.str z), some (.lis (rows.map .str)), some (.int k), some (.lis (words.map .str)), some (.int j), some (.lis (ODD.map .str)), some (.int way), none, none, none, none]) (S := S3) (fa := fVar 7) (fb := fC (.int 5)) (fVar_ok rfl) fC_ok (show fOrd (fun i j => decide (i < j)) DL.ltS _ _ _ = some (DL.D.bl (decide ((way : Int) < 5))) from rfl)); rw [decide_eq_true c2] at this; exact this) ?_
      have wsub := wt_sub (ps := rows) (i := HT.sIx rows.length 0 (some (k : Int))) (n := HT.sIx rows.length rows.length (some ((k + 1 : Nat) : Int)) - HT.sIx rows.length 0 (some (k : Int)))
      generalize hws : (rows.drop (HT.sIx rows.length 0 (some (k : Int)))).take (HT.sIx rows.length rows.length (some ((k + 1 : Nat) : Int)) - HT.sIx rows.length 0 (some (k : Int))) = ws at wsub
      have ecut : cutD (rows.map DL.D.str) (some (k : Int)) (some ((k + 1 : Nat) : Int)) = ws.map DL.D.str := by
        rw [← hws, List.map_take, List.map_drop]
        unfold cutD
        rw [List.length_map]
      have lws := len_le_wt ws
      have gws : ∀ p ∈ ws, Gd p := fun p hp => by
        rw [← hws] at hp
        exact gr p (List.mem_of_mem_drop (List.mem_of_mem_take hp))
      have hm : ∃ m : Nat, m ≤ 2 ∧ DL.gSub (.lis [.int 0, .int 2]) (.int ((way : Int) - 3)) S3 = some (.int (m : Nat)) := by
        have : way = 3 ∨ way = 4 := by omega
        rcases this with rfl | rfl
        · exact ⟨0, by decide, rfl⟩
        · exact ⟨2, by decide, rfl⟩
      obtain ⟨m, m1, em⟩ := hm
      have erep : ∃ nw : List Str, (List.replicate (m : Int).toNat (ws.map DL.D.str)).flatten = nw.map DL.D.str ∧ wt nw ≤ 2 * wt ws ∧ ∀ p ∈ nw, Gd p := by
        have : m = 0 ∨ m = 1 ∨ m = 2 := by omega
        rcases this with rfl | rfl | rfl
        · exact ⟨[], rfl, by rw [wt_nil]; omega, fun p hp => by cases hp⟩
        · exact ⟨ws, by show (List.replicate 1 (ws.map DL.D.str)).flatten = _; simp, by omega, gws⟩
        · exact ⟨ws ++ ws, by show (List.replicate 2 (ws.map DL.D.str)).flatten = _; simp [List.replicate_succ], by rw [wt_append]; omega, fun p hp => (List.mem_append.mp hp).elim (gws p) (gws p)⟩
      obtain ⟨nw, en, wn, gn⟩ := erep
      obtain ⟨l1, l2⟩ := line_ok (ps := rows) (nw := nw) (k := k) (y := 10) (by decide) gr gn
      rw [← nl_eq] at l1 l2
      refine ret_ok (S1 := S3) (ev_parts (nw := nw) rfl (by omega) rfl rfl (fBin_ok (S1 := S3) (x := .lis (ws.map .str)) (y := .int (m : Nat)) (fSl_ok (S1 := S3) (S2 := S3) (S3 := S3) (fVar_ok rfl) (fEnd_ok (fVar_ok rfl)) (fEnd_ok (k := ((k + 1 : Nat) : Int)) (fBin_ok (fVar_ok rfl) fC_ok rfl)) ?_) (fSub_ok (S1 := S3) (x := .lis [.int 0, .int 2]) rfl (fBin_ok (S1 := S3) (fVar_ok rfl) fC_ok rfl) em) ?_)) ?_
      · rw [sl_ev, ecut]
      · rw [← en]
        refine mul_ev (by omega) (by omega) ?_
        rw [List.length_map, Int.toNat_natCast]
        have : ws.length * m ≤ ws.length * 2 := Nat.mul_le_mul_left _ m1
        omega
      · exact ⟨_, Less.refl, h _ _ (by omega) l2 d3 off3⟩
    · refine ifF_ok (S1 := S3) (by have := tst_ok (fBin_ok (δ := [some (.ref a), some (.str z), some (.lis (rows.map .str)), some (.int k), some (.lis (words.map .str)), some (.int j), some (.lis (ODD.map .str)), some (.int way), none, none, none, none]) (S := S3) (fa := fVar 7) (fb := fC (.int 5)) (fVar_ok rfl) fC_ok (show fOrd (fun i j => decide (i < j)) DL.ltS _ _ _ = some (DL.D.bl (decide ((way : Int) < 5))) from rfl)); rw [decide_eq_false c2] at this; exact this) ?_
      -- place
      obtain ⟨pl, S4, e5, p1, d4, o4⟩ := ev_next (δ := [some (.ref a), some (.str z), some (.lis (rows.map .str)), some (.int k), some (.lis (words.map .str)), some (.int j), some (.lis (ODD.map .str)), some (.int way), none, none, none, none]) (S := S3) (i := 0) (fn := fBin gAdd (fCB gLen (fCons (fVar 1) fNil)) (fC (.int 1))) (n := (z.length : Int) + 1) rfl (fBin_ok (fCB_ok (fOne_ok (fVar_ok rfl)) (show gLen [.str z] S3 = some (.int (z.length : Nat)) by show (lenD S3 (.str z)).map _ = _; simp only [lenD]; rw [if_pos (by omega)]; rfl)) fC_ok rfl) d3 (by omega) (by omega)
      refine asg_ok e5 ?_
      refine asg_ok (r := .str EVERY) (S1 := S4) rfl ?_
      obtain ⟨v1, S5, e6, q1, d5, o5⟩ := ev_next (δ := [some (.ref a), some (.str z), some (.lis (rows.map .str)), some (.int k), some (.lis (words.map .str)), some (.int j), some (.lis (ODD.map .str)), some (.int way), none, none, some (.int pl), some (.str EVERY)]) (S := S4) (i := 0) (fn := fC (.int 93)) (n := 93) rfl fC_ok d4 (by decide) (by decide)
      obtain ⟨v2, S6, e7, q2, d6, o6⟩ := ev_next (δ := [some (.ref a), some (.str z), some (.lis (rows.map .str)), some (.int k), some (.lis (words.map .str)), some (.int j), some (.lis (ODD.map .str)), some (.int way), none, none, some (.int pl), some (.str EVERY)]) (S := S5) (i := 0) (fn := fC (.int 2)) (n := 2) rfl fC_ok d5 (by decide) (by decide)
      obtain ⟨v3, S7, e8, q3, d7, o7⟩ := ev_next (δ := [some (.ref a), some (.str z), some (.lis (rows.map .str)), some (.int k), some (.lis (words.map .str)), some (.int j), some (.lis (ODD.map .str)), some (.int way), none, none, some (.int pl), some (.str EVERY)]) (S := S6) (i := 0) (fn := fC (.int 2)) (n := 2) rfl fC_ok d6 (by decide) (by decide)
      obtain ⟨c, ec, mc⟩ := sgn_str (z := EVERY) (v := v1) (S := S5) (by rw [every_ok.1]; omega) (by rw [every_ok.1]; omega)
      have hc : c < 0x110000 := strOk_iff.mp every_ok.2 c mc
      have hmid : ∃ m : Str, gMulS (.str ⟨#[c]⟩) (.int v2) S6 = some (.str m) ∧ m.length ≤ 1 ∧ Gd m := by
        have : v2 = 0 ∨ v2 = 1 := by omega
        rcases this with rfl | rfl
        · exact ⟨Str.empty, rfl, Nat.zero_le _, fun x hx => by cases hx⟩
        · exact ⟨⟨#[c]⟩, rfl, Nat.le_refl _, fun x hx => by
            have hx : x ∈ [c] := hx
            rw [List.mem_singleton.mp hx]; exact hc⟩
      obtain ⟨m, em, lm, gm⟩ := hmid
      have t1 := cut_take_len (z := z) (n := pl)
      have t2 := cut_drop_len (z := z) (n := pl + v3)
      refine ret_ok (S1 := S7) (r := .str ((cutS z none (some (pl : Int)) ++ m) ++ cutS z (some ((pl + v3 : Nat) : Int)) none)) (fBin_ok (S1 := S6) (x := .str (cutS z none (some (pl : Int)) ++ m)) (y := .str (cutS z (some ((pl + v3 : Nat) : Int)) none)) (fBin_ok (S1 := S4) (x := .str (cutS z none (some (pl : Int)))) (y := .str m) (fSl_ok (S1 := S4) (S2 := S4) (S3 := S4) (fVar_ok rfl) rfl (fEnd_ok (fVar_ok rfl)) ?_) (fBin_ok (S1 := S5) (fSub_ok (S1 := S4) (fVar_ok rfl) e6 ec) e7 em) ?_) (fSl_ok (S1 := S6) (S2 := S7) (S3 := S7) (fVar_ok rfl) (fEnd_ok (k := ((pl + v3 : Nat) : Int)) (fBin_ok (S1 := S6) (fVar_ok rfl) e8 rfl)) rfl ?_) ?_) ?_
      · show (if z.length ≤ sizeLine then some (DL.D.str (cutS z none (some (pl : Int)))) else none) = _
        rw [if_pos (by omega)]
      · show (if (cutS z none (some (pl : Int))).length + m.length ≤ sizeLine then some (DL.D.str _) else none) = _
        rw [if_pos (by omega)]
      · show (if z.length ≤ sizeLine then some (DL.D.str (cutS z (some ((pl + v3 : Nat) : Int)) none)) else none) = _
        rw [if_pos (by omega)]
      · show (if (cutS z none (some (pl : Int)) ++ m).length + (cutS z (some ((pl + v3 : Nat) : Int)) none).length ≤ sizeLine then some (DL.D.str _) else none) = _
        rw [if_pos (by rw [append_len]; omega)]
      · exact ⟨_, Less.refl, h _ _ (by rw [append_len, append_len]; omega) (append_all (append_all (cut_all hg) gm) (cut_all hg)) d7 (((((off3.trans o4).trans o5).trans o6).trans o7))⟩
end
end Hb
set_option maxRecDepth 100000
namespace DL
open PySem L2
def isOf (K : PySem.W.Frag) (cls cv : Value) : Option Bool := match cls with
  | .ref D => PySem.W.kitOne K (.ref D) cv
  | _ => none
open Classical in
noncomputable def fIsX (K : PySem.W.Frag) (a : Addr) (cls : Value) (d : Option Addr) (cv : Value) (fa : FV) : FV := fun δ S => bnd (fa δ S) fun x S1 => opt (isOf K cls cv) fun b => if x = .ref a ∧ (∃ D, cls = .ref D ∧ ExcC K D) ∧ isX S1 d then .ok (.bl b) S1 else .no
def xfOf (S : Sto) (d : Option Addr) (f : Str) : Option D := match d with
  | some dd => match S dd with
    | some (.xd fs) => fs.lookup f
    | _ => none
  | none => none
open Classical in
noncomputable def fXf (K : PySem.W.Frag) (a : Addr) (cls : Value) (d : Option Addr) (f : Str) (fa : FV) : FV := fun δ S => bnd (fa δ S) fun x S1 => opt (xfOf S1 d f) fun y => if x = .ref a ∧ ∃ C, cls = .ref C ∧ XfC K C ∧ PySem.W.findIn K (.ref C) f = some none then .ok y S1 else .no
section
variable {X : Cx} {w : WD} {e : Expr} {fa : FV} {pos p : Pos}
open Classical in
theorem fIsX_of {K : PySem.W.Frag} {a : Addr} {cls : Value} {d : Option Addr} {cv : Value} {δ : DEnv} {S : Sto} {Q : DK} (q : upF w (fIsX K a cls d cv fa) δ S Q) : dIsX K a cls d cv (upF w fa) δ S Q := by
  unfold upF fIsX at q
  rw [fin_bnd] at q
  refine fin_mono (fun _ _ z => z) (fun x S1 q1 => ?_) q
  cases eb : isOf K cls cv with
  | none => rw [eb] at q1; exact q1.elim
  | some b =>
    rw [eb, opt_some] at q1
    split at q1
    · rename_i h
      obtain ⟨h1, ⟨D, h2, h3⟩, h4⟩ := h
      subst h2
      exact ⟨h1, b, D, rfl, h3, eb, h4, q1⟩
    · exact q1.elim
open Classical in
theorem fXf_of {K : PySem.W.Frag} {a : Addr} {cls : Value} {d : Option Addr} {f : Str} {δ : DEnv} {S : Sto} {Q : DK} (hn : NoEr fa) (q : upF w (fXf K a cls d f fa) δ S Q) : dXf2 K a cls d f (upF w fa) δ S Q := by
  unfold upF fXf at q
  rw [fin_bnd] at q
  have q0 := q
  cases ex : fa δ S with
  | er c S' => exact absurd ex (hn _ _ _ _)
  | no => rw [ex] at q; exact q.elim
  | ok x S1 =>
    rw [ex] at q
    have q2 : fin (opt (xfOf S1 d f) fun y => if x = .ref a ∧ ∃ C, cls = .ref C ∧ XfC K C ∧ PySem.W.findIn K (.ref C) f = some none then .ok y S1 else .no) (fun c S' => w c δ S') Q := q
    cases ey : xfOf S1 d f with
    | none => rw [ey] at q2; exact q2.elim
    | some y =>
      rw [ey, opt_some] at q2
      split at q2
      · rename_i h
        obtain ⟨h1, C, h2, h3, h4⟩ := h
        refine ⟨C, h2, h3, h4, ?_⟩
        unfold dXf upF
        rw [ex]
        refine ⟨h1, h2, ?_⟩
        unfold xfOf at ey
        split at ey
        · split at ey
          · rename_i dd fs es
            try dsimp only
            try rw [es]
            try dsimp only
            first | (rw [ey]; exact q2) | exact q2
          · cases ey
        · cases ey
      · exact q2.elim
variable {a : Addr} {oe : Obj} {cls : Value} {d : Option Addr} {pn : List (Addr × Obj)} {T n : Str} {C : Addr} {p2 : Pos} {m : String}
theorem fe_isXg (hz : Zc cls d oe) (hf : ∃ vs, oe.data = .fields vs) (hg : Gl X "isinstance") (hm : X.mg "isinstance" = none) (hgT : Gl X T) (hmT : X.mg T = some (.ref C)) (ha : FE (X.suite a ((a, oe) :: pn)) w e fa) (h2 : (T == ("__debug__" : Str)) = false := by decide)
    (hs : starEach [e, .Name T p2] X.env = (false, eval e X.env) :: starEach [.Name T p2] X.env := by rfl) (hs2 : starEach [.Name T p2] X.env = (false, eval (.Name T p2) X.env) :: starEach [] X.env := by rfl) (hpl : (backTo pos (starEach [.Name T p2] X.env)).any (·.1) = false := by rfl) :
    FE (X.suite a ((a, oe) :: pn)) w (.Call (.Name "isinstance" p) [e, .Name T p2] [] pos) (fIsX X.K a cls d (.ref C) fa) := de_weak (de_isXg hz hf hg hm hgT hmT ha h2 hs hs2 hpl) upF_mono fun δ S Q q => fIsX_of q
theorem fe_isXb (hz : Zc cls d oe) (hf : ∃ vs, oe.data = .fields vs) (hg : Gl X "isinstance") (hm : X.mg "isinstance" = none) (hgT : Gl X T) (hmT : X.mg T = none) (hvT : bootBuiltins T = some (.type m)) (ha : FE (X.suite a ((a, oe) :: pn)) w e fa) (h1 : T ≠ ("__name__" : Str) := by decide) (h2 : (T == ("__debug__" : Str)) = false := by decide)
    (hs : starEach [e, .Name T p2] X.env = (false, eval e X.env) :: starEach [.Name T p2] X.env := by rfl) (hs2 : starEach [.Name T p2] X.env = (false, eval (.Name T p2) X.env) :: starEach [] X.env := by rfl) (hpl : (backTo pos (starEach [.Name T p2] X.env)).any (·.1) = false := by rfl) :
    FE (X.suite a ((a, oe) :: pn)) w (.Call (.Name "isinstance" p) [e, .Name T p2] [] pos) (fIsX X.K a cls d (.type m) fa) := de_weak (de_isXb hz hf hg hm hgT hmT hvT ha h1 h2 hs hs2 hpl) upF_mono fun δ S Q q => fIsX_of q
theorem fe_xf (hz : Zc cls d oe) (hf : ∃ vs, oe.data = .fields vs) (hn : NoEr fa) (he : FE (X.suite a ((a, oe) :: pn)) w e fa) (hb : attributeBase e n X.env (eval e X.env) = eval e X.env := by rfl) :
    FE (X.suite a ((a, oe) :: pn)) w (.Attribute e n pos) (fXf X.K a cls d n fa) := de_weak (de_xf2 hz hf he hb) upF_mono fun δ S Q q => fXf_of hn q
end
open Classical in
theorem fIsX_ok {K : PySem.W.Frag} {a D : Addr} {cls cv : Value} {d : Option Addr} {i : Nat} {δ : DEnv} {S : Sto} {b : Bool} (e : δ[i]? = some (some (.ref a))) (hc : cls = .ref D) (hk : PySem.W.kitOne K (.ref D) cv = some b) (hx : ExcC K D) (hd : isX S d) : fIsX K a cls d cv (fVar i) δ S = .ok (.bl b) S := by
  subst hc
  unfold fIsX
  rw [fVar_ok e, bnd_ok]
  show opt (PySem.W.kitOne K (.ref D) cv) _ = _
  rw [hk, opt_some, if_pos ⟨rfl, ⟨D, rfl, hx⟩, hd⟩]
open Classical in
theorem fXf_ok {K : PySem.W.Frag} {a C : Addr} {cls : Value} {d : Option Addr} {f : Str} {i : Nat} {δ : DEnv} {S : Sto} {y : D} (e : δ[i]? = some (some (.ref a))) (hc : cls = .ref C) (hy : xfOf S d f = some y) (hx : XfC K C) (hn : PySem.W.findIn K (.ref C) f = some none) : fXf K a cls d f (fVar i) δ S = .ok y S := by
  subst hc
  unfold fXf
  rw [fVar_ok e, bnd_ok, hy, opt_some, if_pos ⟨rfl, C, rfl, hx, hn⟩]
theorem xfOf_less {S S' : Sto} {d : Option Addr} {f : Str} {y : D} (l : Less S S') (h : xfOf S d f = some y) : xfOf S' d f = some y := by
  cases d with
  | none => cases h
  | some dd =>
    unfold xfOf at h ⊢
    dsimp only at h ⊢
    cases e : S dd with
    | none => rw [e] at h; cases h
    | some o => rw [e] at h; rw [l _ _ e]; exact h
theorem isX_less {S S' : Sto} {d : Option Addr} (l : Less S S') (h : isX S d) : isX S' d := by
  cases d with
  | none => trivial
  | some dd =>
    obtain ⟨fs, e⟩ := h
    exact ⟨fs, l _ _ e⟩
theorem fnXc_ok {P : Program} {w : World} {K : PySem.W.Frag} {mg : Str → Option Value} {base : Heap} {x qual : Str} {st : Stmt} {f c : Addr} {fd : FuncData} {N ps : List Str} {k : Nat} {sp : DSp} (F : Fun K x qual st f fd) (hc : fd.code = .ref c) (Sc : FnScope N ps (defScope st)) (ms : MonoSp sp) (len : ∀ ds S Q E, sp ds S Q E → ds.length = ps.length)
    (hbody : ∀ (X : Cx) (A : Around) (outer : List Env) (s : Shared) (H : Hp) (E : XK) (wx : DX), X = cxOf (L2.CX P w) P w K mg base N qual (defScope st) f (.ref c) A outer s H E → Room k X.A → TakesD X (fun c _ S => dnX wx c S) →
      PassesOwn (model X.prog X.w) X.A X.env X.xe → ∃ t, DSs X (defBody st) t ∧ ∀ ds S Q, sp ds S Q wx → t ⟨fun _ S' => dn Q .non S', dn Q, fun _ _ => False, fun _ _ => False⟩ (startD N ds) S) : FnOk P w K mg base (L2.CX P w) (k + 1) f fd ps (upSp P w K sp) := by
  obtain ⟨oc, od, kV, doc, pm, an, cdv, ct, osl, rfl, lk, hcd⟩ := F.ex
  have hcdv : cdv = .ref c := hc
  subst hcdv
  refine fn_of lk hcd Sc (fun vs H Q E ⟨ds, S, _, r, h⟩ => by rw [← r.length]; exact len ds S _ _ h) fun A outer s H vs Q E hr ⟨ds, S, RK, r, h⟩ => ?_
  have tk : TakesD (cxOf (L2.CX P w) P w K mg base N qual (defScope st) f (.ref c) A outer s H E) (fun c _ S' => dnX (fun c S' => ∀ H', RelK P w K S' H' → TupP K H H' → E c.1 c.2 H') c S') :=
    ⟨takes_imp (takes_of (E := E) rfl rfl rfl rfl) fun c d σ H' pins s' I ⟨δ, S', R', S2, l, z⟩ => z H' (fun a o e => R'.relK a o (l a o e)) (tupP_entry I)⟩
  obtain ⟨t, h1, h2⟩ := hbody _ A outer s H E _ rfl hr tk (passes_of rfl)
  obtain ⟨l1, l2⟩ := start_rel (N := N) r
  have h3 := h2 ds S (fun d S' => ∀ v H', RelK P w K S' H' → Dv K H' d v → TupP K H H' → Q v H') h
  refine ⟨_, pss_tup h1.pss, startD N ds, S, ⟨l1, l2, RK⟩, ?_⟩
  refine h1.mono _ _ _ _ ⟨?_, ?_, ?_, ?_⟩ h3
  · intro δ' S' ⟨S2, l, q⟩ σ' H' R' _ t'
    exact q _ H' (fun a o e => R'.relK a o (l a o e)) (dv_non.mpr rfl) t'
  · intro d S' ⟨S2, l, q⟩ v H' R' r' t'
    exact q v H' (fun a o e => R' a o (l a o e)) r' t'
  · exact fun _ _ z => z.elim
  · exact fun _ _ z => z.elim
end DL
set_option maxRecDepth 100000
set_option maxHeartbeats 2000000
namespace Hb
open PySem L2 DL
theorem scTold : FnScope ["_law_work", "e", "_law_kinds", "_law_word"] ["_law_work"] (defScope (top 38)) := ⟨rfl, rfl, rfl, by decide +kernel, rfl, by decide +kernel, by decide +kernel⟩
structure ErrM (K : PySem.W.Frag) (mg : Str → Option Value) : Prop where
  be : mg "BookError" = some (.ref (He.ga K "BookError"))
  m : ∀ x ∈ errW.map (·.1), mg x = some (.ref (He.ga K x))
def toldWords : List Str := ["house", "name", "number", "home", "cut", "full", "tables", "log", "text"]
section
variable {P : Program} {w : World} {K : PySem.W.Frag} {mg : Str → Option Value} {base : Heap}
noncomputable abbrev isE (K : PySem.W.Frag) (a : Addr) (cls : Value) (d : Option Addr) (x : Str) : FV := fIsX K a cls d (.ref (He.ga K x)) (fVar 1)
noncomputable def bodyTold (K : PySem.W.Frag) (wx : DX) (a : Addr) (cls : Value) (d : Option Addr) : TDS :=
  sSeq (sAsg (dLst (upAs (fun c _ S => dnX wx c S) (fCons (isE K a cls d "BadHouse") (fCons (isE K a cls d "BadName") (fCons (isE K a cls d "BadNumber") (fCons (isE K a cls d "NotHome") fNil)))))) (gN 2))
  (sSeq (sAsg (dBin rAddD (upF (fun c _ S => dnX wx c S) (fVar 2)) (dLst (upAs (fun c _ S => dnX wx c S) (fCons (isE K a cls d "BadCut") (fCons (isE K a cls d "Full") (fCons (isE K a cls d "BadTables") (fCons (isE K a cls d "BadLog") fNil))))))) (gN 2))
  (sSeq (sDrop (dBM "list" (fun x => rAppendD x) (upF (fun c _ S => dnX wx c S) (fVar 2)) (upAs (fun c _ S => dnX wx c S) (fCons (isE K a cls d "BadText") fNil))))
  (sSeq (sIf (upB (fun c _ S => dnX wx c S) (fOr (tst (fBin (gEq true) (fBM "list" fCount (fVar 2) (fCons (fC (.bl true)) fNil)) (fC (.int 1)))) (fNot (tst (fIsX K a cls d (.type "ValueError") (fVar 1)))))) (sRet (upF (fun c _ S => dnX wx c S) (fTup (fCons (fC (.str "refused")) (fCons (fC (.str "other")) fNil))))) sNext)
  (sSeq (sAsg (upF (fun c _ S => dnX wx c S) (DL.fSub (fLst (fCons (fC (.str "house")) (fCons (fC (.str "name")) (fCons (fC (.str "number")) (fCons (fC (.str "home")) (fCons (fC (.str "cut")) (fCons (fC (.str "full")) (fCons (fC (.str "tables")) (fCons (fC (.str "log")) (fCons (fC (.str "text")) fNil)))))))))) (fBM "list" gIndex (fVar 2) (fCons (fC (.bl true)) fNil)))) (gN 3))
  (sSeq (sIf (upB (fun c _ S => dnX wx c S) (tst (fBin (gIn false) (fVar 3) (fTup (fCons (fC (.str "tables")) (fCons (fC (.str "log")) fNil)))))) (sRet (upF (fun c _ S => dnX wx c S) (fTup (fCons (fC (.str "refused")) (fCons (fVar 3) (fCons (fXf K a cls d "number" (fVar 1)) fNil)))))) sNext)
  (sRet (upF (fun c _ S => dnX wx c S) (fIf (tst (fBin (gEq false) (fVar 3) (fC (.str "text")))) (fTup (fCons (fC (.str "refused")) (fCons (fVar 3) (fCons (fXf K a cls d "row" (fVar 1)) fNil)))) (fTup (fCons (fC (.str "refused")) (fCons (fVar 3) fNil)))))))))))
theorem bools4 {xs : List Bool} : (xs.map DL.D.bl).length = xs.length := List.length_map _
theorem suite_ok {wx : DX} {a D : Addr} {cls : Value} {d : Option Addr} {o0 : Option DL.D} {S : Sto} {r : DK} {bs : List Bool} {j : Nat} {wd : Str} {t : DL.D} (hc : cls = .ref D) (xc : ExcC K D) (xf : XfC K D) (nn : PySem.W.findIn K (.ref D) "number" = some none) (nr : PySem.W.findIn K (.ref D) "row" = some none)
    (hk : (errW.map (·.1)).map (fun y => PySem.W.kitOne K (.ref D) (.ref (He.ga K y))) = bs.map some) (ve : PySem.W.kitOne K (.ref D) (.type "ValueError") = some true) (hx : isX S d) (hn : S a = none)
    (hcount : bs.count true = 1) (hj : findD (.bool true) (bs.map PyData.bool) = some j) (hw : toldWords[j]? = some wd)
    (ht : (if wd = "tables" ∨ wd = "log" then ∃ y, xfOf S d "number" = some y ∧ t = .tup [.str "refused", .str wd, y] else if wd = "text" then ∃ y, xfOf S d "row" = some y ∧ t = .tup [.str "refused", .str wd, y] else t = .tup [.str "refused", .str wd]))
    (hr : ∀ S', Less S S' → r t S') : bodyTold K wx a cls d (onlyRt r) [o0, some (.ref a), none, none] S := by
  have e9 : errW.map (·.1) = (["BadHouse", "BadName", "BadNumber", "NotHome", "BadCut", "Full", "BadTables", "BadLog", "BadText"] : List Str) := rfl
  rw [e9] at hk
  match bs, hk with
  | [b1, b2, b3, b4, b5, b6, b7, b8, b9], hk =>
    simp only [List.map_cons, List.map_nil, List.cons.injEq, and_true] at hk
    obtain ⟨i1, i2, i3, i4, i5, i6, i7, i8, i9⟩ := hk
    have big : (100 : Nat) ≤ sizeLine := by decide
    -- the first four
    refine fin_mono (fun _ _ z => z) (fun _ _ z => z) ?_
    have E1 : ∀ {δ : DEnv} {S' : Sto}, δ[1]? = some (some (.ref a)) → isX S' d → fCons (isE K a cls d "BadHouse") (fCons (isE K a cls d "BadName") (fCons (isE K a cls d "BadNumber") (fCons (isE K a cls d "NotHome") fNil))) δ S' = .ok [.bl b1, .bl b2, .bl b3, .bl b4] S' := fun e h =>
      fCons_ok (fIsX_ok e hc i1 xc h) (fCons_ok (fIsX_ok e hc i2 xc h) (fCons_ok (fIsX_ok e hc i3 xc h) (fCons_ok (fIsX_ok e hc i4 xc h) rfl)))
    have E2 : ∀ {δ : DEnv} {S' : Sto}, δ[1]? = some (some (.ref a)) → isX S' d → fCons (isE K a cls d "BadCut") (fCons (isE K a cls d "Full") (fCons (isE K a cls d "BadTables") (fCons (isE K a cls d "BadLog") fNil))) δ S' = .ok [.bl b5, .bl b6, .bl b7, .bl b8] S' := fun e h =>
      fCons_ok (fIsX_ok e hc i5 xc h) (fCons_ok (fIsX_ok e hc i6 xc h) (fCons_ok (fIsX_ok e hc i7 xc h) (fCons_ok (fIsX_ok e hc i8 xc h) rfl)))
    rw [E1 rfl hx]
    refine ⟨by show 4 ≤ sizeLine; omega, fun p1 n1 => ?_⟩
    have hx1 : isX (sup S p1 (.lst [.bl b1, .bl b2, .bl b3, .bl b4])) d := isX_sup hx n1
    have l1 : Less S (sup S p1 (.lst [.bl b1, .bl b2, .bl b3, .bl b4])) := Less.refl.sup n1
    -- the next four
    show fin (fCons _ _ [o0, some (DL.D.ref a), some (.ref p1), none] (sup S p1 (.lst [.bl b1, .bl b2, .bl b3, .bl b4]))) _ _
    rw [E2 rfl hx1]
    refine ⟨by show 4 ≤ sizeLine; omega, fun p2 n2 => ?_⟩
    have n12 : p1 ≠ p2 := fun z => by rw [z, sup_same] at n2; cases n2
    have l2 := l1.sup (o := .lst [.bl b5, .bl b6, .bl b7, .bl b8]) n2
    have hx2 := isX_less l2 hx
    generalize eS2 : sup (sup S p1 (.lst [.bl b1, .bl b2, .bl b3, .bl b4])) p2 (.lst [.bl b5, .bl b6, .bl b7, .bl b8]) = S2 at l2 hx2
    have g1 : S2 p1 = some (.lst [.bl b1, .bl b2, .bl b3, .bl b4]) := by rw [← eS2, sup_ne n12, sup_same]
    have g2 : S2 p2 = some (.lst [.bl b5, .bl b6, .bl b7, .bl b8]) := by rw [← eS2, sup_same]
    show rAddD (.ref p1) (.ref p2) S2 _
    unfold rAddD
    dsimp only
    rw [g1, g2]
    refine ⟨by show 8 ≤ sizeLine; omega, fun p3 n3 => ?_⟩
    have l3 := l2.sup (o := .lst [.bl b1, .bl b2, .bl b3, .bl b4, .bl b5, .bl b6, .bl b7, .bl b8]) n3
    have hx3 := isX_less l3 hx
    -- the ninth
    show tyM (sup S2 p3 (.lst [.bl b1, .bl b2, .bl b3, .bl b4, .bl b5, .bl b6, .bl b7, .bl b8])) (.ref p3) = some "list" ∧ fin (fCons (isE K a cls d "BadText") fNil [o0, some (DL.D.ref a), some (.ref p3), none] (sup S2 p3 (.lst [.bl b1, .bl b2, .bl b3, .bl b4, .bl b5, .bl b6, .bl b7, .bl b8]))) _ _
    refine ⟨by simp only [tyM, sup_same], ?_⟩
    rw [fOne_ok (fIsX_ok (b := b9) rfl hc i9 xc hx3), fin_ok]
    unfold rAppendD
    dsimp only
    rw [sup_same]
    refine ⟨by show 8 < sizeLine; omega, ?_⟩
    rw [sup_sup]
    have l4 := l2.sup (o := .lst [.bl b1, .bl b2, .bl b3, .bl b4, .bl b5, .bl b6, .bl b7, .bl b8, .bl b9]) n3
    have hx4 := isX_less l4 hx
    show sSeq _ _ _ [o0, some (DL.D.ref a), some (.ref p3), none] (sup S2 p3 (.lst [.bl b1, .bl b2, .bl b3, .bl b4, .bl b5, .bl b6, .bl b7, .bl b8, .bl b9]))
    have g3 : (sup S2 p3 (.lst [.bl b1, .bl b2, .bl b3, .bl b4, .bl b5, .bl b6, .bl b7, .bl b8, .bl b9])) p3 = some (.lst ([b1, b2, b3, b4, b5, b6, b7, b8, b9].map DL.D.bl)) := sup_same
    generalize sup S2 p3 (.lst [.bl b1, .bl b2, .bl b3, .bl b4, .bl b5, .bl b6, .bl b7, .bl b8, .bl b9]) = S3 at l4 hx4 g3
    -- other
    have ty3 : tyM S3 (.ref p3) = some "list" := by simp only [tyM, g3]
    have ec : fCount (.ref p3) [.bl true] S3 = some (.int 1) := by
      unfold fCount
      dsimp only
      rw [g3]
      dsimp only
      rw [boolsD_bl, Option.map_some, hcount]
      rfl
    refine ifF_ok (S1 := S3) (fOr_f (S1 := S3) (tst_ok (b := false) (fBin_ok (S1 := S3) (S2 := S3) (fBM_ok (S1 := S3) (S2 := S3) (fVar_ok rfl) ty3 (fOne_ok fC_ok) ec) fC_ok rfl)) (fNot_ok (tst_ok (fIsX_ok (b := true) rfl hc ve xc hx4)))) ?_
    -- word
    have ei : gIndex (.ref p3) [.bl true] S3 = some (.int (j : Nat)) := by
      unfold gIndex
      dsimp only
      have e1 : seqM S3 (.ref p3) = some ([b1, b2, b3, b4, b5, b6, b7, b8, b9].map DL.D.bl) := by simp only [seqM, g3]
      have e2 : pds ([b1, b2, b3, b4, b5, b6, b7, b8, b9].map DL.D.bl) = some ([b1, b2, b3, b4, b5, b6, b7, b8, b9].map PyData.bool) := by simp [pds, pd]
      have e3 : dataD S3 (.bl true) = some (.bool true) := by simp [dataD, pd]
      rw [e1, Option.bind_some, e2, Option.bind_some, e3, Option.bind_some, if_pos, hj]
      · rfl
      · refine ⟨?_, ?_⟩
        · simp [SeqAt.shaped, PyData.canLay0, PyData.canLayAll0, PyData.depth, PyData.depthAll]
        · simp [SeqAt.shaped, PyData.canLay0, PyData.depth]
    refine asg_ok (S1 := S3) (r := .str wd) (fSub_ok (S1 := S3) (S2 := S3) (x := .lis (toldWords.map .str)) (y := .int (j : Nat)) rfl (fBM_ok (S1 := S3) (S2 := S3) (fVar_ok rfl) ty3 (fOne_ok fC_ok) ei) (sub_ev (by rw [List.getElem?_map, hw]; rfl))) ?_
    show sSeq _ _ _ [o0, some (DL.D.ref a), some (.ref p3), some (.str wd)] S3
    have eI : gIn false (.str wd) (.tup [.str "tables", .str "log"]) S3 = some (.bl (decide (wd = "tables" ∨ wd = "log"))) := by
      show (inD S3 (.str wd) (.tup [.str "tables", .str "log"])).map _ = _
      have : inD S3 (.str wd) (.tup [.str "tables", .str "log"]) = some (decide (wd = "tables" ∨ wd = "log")) := by
        show (match pd (.str wd), pds [.str "tables", .str "log"] with
          | some (.str c), some ps => if ps.all fun p => match p with | .str _ => true | _ => false then some (ps.any fun p => match p with | .str z => decide (z = c) | _ => false) else none
          | _, _ => none) = _
        simp only [pd, pds]
        show some (decide (Str.ofString "tables" = wd) || (decide (Str.ofString "log" = wd) || false)) = _
        rw [Bool.or_false]
        congr 1
        by_cases h1 : wd = Str.ofString "tables"
        · subst h1; simp
        · by_cases h2 : wd = Str.ofString "log"
          · subst h2; simp
          · simp [h1, h2, Ne.symm h1, Ne.symm h2, eq_comm]
      rw [this]
      rfl
    have tT : fTup (fCons (fC (.str "tables")) (fCons (fC (.str "log")) fNil)) [o0, some (DL.D.ref a), some (.ref p3), some (.str wd)] S3 = .ok (.tup [.str "tables", .str "log"]) S3 := fTup_ok (fTwo_ok fC_ok fC_ok) (by show 2 ≤ sizeLine; omega)
    by_cases c1 : wd = Str.ofString "tables" ∨ wd = Str.ofString "log"
    · rw [if_pos c1] at ht
      rw [decide_eq_true c1] at eI
      obtain ⟨y, ey, rfl⟩ := ht
      refine ifT_ok (S1 := S3) (tst_ok (fBin_ok (S1 := S3) (S2 := S3) (fVar_ok rfl) tT eI)) ?_
      exact ret_ok (S1 := S3) (fTup_ok (fThree_ok (S1 := S3) (S2 := S3) (S3 := S3) fC_ok (fVar_ok rfl) (fXf_ok rfl hc (xfOf_less l4 ey) xf nn)) (by show 3 ≤ sizeLine; omega)) (hr _ l4)
    · rw [if_neg c1] at ht
      rw [decide_eq_false c1] at eI
      refine ifF_ok (S1 := S3) (tst_ok (fBin_ok (S1 := S3) (S2 := S3) (fVar_ok rfl) tT eI)) ?_
      by_cases c2 : wd = Str.ofString "text"
      · rw [if_pos c2] at ht
        obtain ⟨y, ey, rfl⟩ := ht
        refine ret_ok (S1 := S3) (fIf_t (S1 := S3) (tst_ok (b := true) (fBin_ok (S1 := S3) (S2 := S3) (fVar_ok rfl) fC_ok ?_)) (fTup_ok (fThree_ok (S1 := S3) (S2 := S3) (S3 := S3) fC_ok (fVar_ok rfl) (fXf_ok rfl hc (xfOf_less l4 ey) xf nr)) (by show 3 ≤ sizeLine; omega))) (hr _ l4)
        show some (DL.D.bl (decide (wd = Str.ofString "text"))) = _
        rw [decide_eq_true c2]
      · rw [if_neg c2] at ht
        subst ht
        refine ret_ok (S1 := S3) (fIf_f (S1 := S3) (tst_ok (b := false) (fBin_ok (S1 := S3) (S2 := S3) (fVar_ok rfl) fC_ok ?_)) (fTup_ok (fTwo_ok (S1 := S3) (S2 := S3) fC_ok (fVar_ok rfl)) (by show 2 ≤ sizeLine; omega))) (hr _ l4)
        show some (DL.D.bl (decide (wd = Str.ofString "text"))) = _
        rw [decide_eq_false c2]
  | [], hk => simp at hk
  | [_], hk => simp at hk
  | [_, _], hk => simp at hk
  | [_, _, _], hk => simp at hk
  | [_, _, _, _], hk => simp at hk
  | [_, _, _, _, _], hk => simp at hk
  | [_, _, _, _, _, _], hk => simp at hk
  | [_, _, _, _, _, _, _], hk => simp at hk
  | [_, _, _, _, _, _, _, _], hk => simp at hk
  | _ :: _ :: _ :: _ :: _ :: _ :: _ :: _ :: _ :: _ :: _, hk => simp at hk
theorem ok_told {k : Nat} {f : Addr} {fd : FuncData} (F : Fun K "_law_told" "_law_told" (top 38) f fd) (b : Binds K fd ["_law_work"] []) (E : ErrsOk K) (M : ErrM K mg) (b_isinstance : mg "isinstance" = none) (b_ValueError : mg "ValueError" = none) :
    FnD P w K mg base (k + 2) f (spTold P w K mg base k) := by
  refine fnD_ok F b scTold spTold_mono spTold_len fun X cdv A outer s H Ex wx eX hr tk po => ?_
  have hu : X.A.units + 64 < cLine := by have := hr.un; omega
  have hu65 : X.A.units + 65 < cLine := by have := hr.un; omega
  subst eX
  have sc := @scTold
  have m_BadHouse := M.m "BadHouse" (by decide)
  have m_BadName := M.m "BadName" (by decide)
  have m_BadNumber := M.m "BadNumber" (by decide)
  have m_NotHome := M.m "NotHome" (by decide)
  have m_BadCut := M.m "BadCut" (by decide)
  have m_Full := M.m "Full" (by decide)
  have m_BadTables := M.m "BadTables" (by decide)
  have m_BadLog := M.m "BadLog" (by decide)
  have m_BadText := M.m "BadText" (by decide)
  have m_BookError := M.be
  refine ⟨_, (dss_one (ds_tryAsF (i := 1) (j := 0) (c := .ref (He.ga K "BookError")) rfl rfl sc.nd rfl rfl ⟨by rfl, by decide, .inl m_BookError⟩ TakesD.none hr rfl (.inl rfl) (by decide) (by decide) (fun a oe cls d pn hz hf => (dss_cons (ds_set (i := 2) sc.nd rfl (by first | exact .inl rfl | exact .inr rfl) (de_lst (fa_w (fun c _ S => dnX wx c S) (fa_cons (fe_isXg hz hf (by rfl) b_isinstance (by rfl) m_BadHouse (fv 1)) (fa_cons (fe_isXg hz hf (by rfl) b_isinstance (by rfl) m_BadName (fv 1)) (fa_cons (fe_isXg hz hf (by rfl) b_isinstance (by rfl) m_BadNumber (fv 1)) (fa_cons (fe_isXg hz hf (by rfl) b_isinstance (by rfl) m_NotHome (fv 1)) fa_nil)))))))
      (dss_cons (ds_set (i := 2) sc.nd rfl (by first | exact .inl rfl | exact .inr rfl) (de_op dop_add (fe_w (fun c _ S => dnX wx c S) (fv 2)) (de_lst (fa_w (fun c _ S => dnX wx c S) (fa_cons (fe_isXg hz hf (by rfl) b_isinstance (by rfl) m_BadCut (fv 1)) (fa_cons (fe_isXg hz hf (by rfl) b_isinstance (by rfl) m_Full (fv 1)) (fa_cons (fe_isXg hz hf (by rfl) b_isinstance (by rfl) m_BadTables (fv 1)) (fa_cons (fe_isXg hz hf (by rfl) b_isinstance (by rfl) m_BadLog (fv 1)) fa_nil))))))))
      (dss_cons (ds_expr (de_bm PySem.F.plainAttrs_list PySem.F.slot_list_append PySem.F.type_list_append dmt_append (fe_w (fun c _ S => dnX wx c S) (fv 2)) (fa_w (fun c _ S => dnX wx c S) (fa_cons (fe_isXg hz hf (by rfl) b_isinstance (by rfl) m_BadText (fv 1)) fa_nil))))
      (dss_cons (ds_if (ft_w (fun c _ S => dnX wx c S) (fw_or (ft_cmp (fop_ne (by exact hu)) (fe_bm PySem.F.plainAttrs_list PySem.F.slot_list_count PySem.F.type_list_count dmt_count (fv 2) (fa_cons fe_bl fa_nil)) fe_int (by with_unfolding_all rfl)) (fw_or1 (ft_not (ft_val (fe_isXb hz hf (by rfl) b_isinstance (by rfl) b_ValueError (by rfl) (fv 1)))))).dt) (dss_one (ds_ret (fe_w (fun c _ S => dnX wx c S) (fe_tup (fa_cons fe_str (fa_cons fe_str fa_nil)))))) dss_nil)
      (dss_cons (ds_set (i := 3) sc.nd rfl (by first | exact .inl rfl | exact .inr rfl) (fe_w (fun c _ S => dnX wx c S) (fe_sub (by exact hu) (fe_lst (fa_cons fe_str (fa_cons fe_str (fa_cons fe_str (fa_cons fe_str (fa_cons fe_str (fa_cons fe_str (fa_cons fe_str (fa_cons fe_str (fa_cons fe_str fa_nil)))))))))) (fe_bm PySem.F.plainAttrs_list PySem.F.slot_list_index PySem.F.type_list_index (fmt_index (by exact hu65)) (fv 2) (fa_cons fe_bl fa_nil)))))
      (dss_cons (ds_if (ft_w (fun c _ S => dnX wx c S) (ft_cmp (fop_in (by exact hu65)) (fv 3) (fe_tup (fa_cons fe_str (fa_cons fe_str fa_nil))) (by with_unfolding_all rfl))) (dss_one (ds_ret (fe_w (fun c _ S => dnX wx c S) (fe_tup (fa_cons fe_str (fa_cons (fv 3) (fa_cons (fe_xf hz hf noEr_var (fv 1)) fa_nil))))))) dss_nil)
      (dss_one (ds_ret (fe_w (fun c _ S => dnX wx c S) (fe_if (ft_cmp (fop_eq (by exact hu)) (fv 3) fe_str (by with_unfolding_all rfl)) (fe_tup (fa_cons fe_str (fa_cons (fv 3) (fa_cons (fe_xf hz hf noEr_var (fv 1)) fa_nil)))) (fe_tup (fa_cons fe_str (fa_cons (fv 3) fa_nil)))))))))))))))), fun ds S Q h => ?_⟩
  obtain ⟨f0, F0, ps0, fv0, sp0, dsx, rfl, e2, e3, FL, e4, e5, q⟩ := h
  refine ⟨f0, F0, ps0, fv0, sp0, dsx, rfl, e2, e3, FL, e4, e5, FL.mono _ _ _ _ _ _ (fun d S' z n => ⟨_, Less.refl, z n⟩) (fun c S' z n => ?_) q⟩
  obtain ⟨d, ⟨t, ht, ec, hx, ev⟩, hq⟩ := z n
  have bk : ∀ dd o, S' dd = some o → bckS (F0.clo.map (·.2)) S S' dd = some o := fun dd o eo => by
    unfold bckS
    rw [if_neg fun z => by rw [n dd z] at eo; cases eo]
    exact eo
  generalize bckS (F0.clo.map (·.2)) S S' = Sb at bk hq
  obtain ⟨cls, dd⟩ := c
  obtain rfl : cls = _ := ec
  have hmem : t.1 ∈ errW.map (·.1) := List.mem_map.mpr ⟨t, ht, rfl⟩
  refine ⟨true, E.be _ hmem, fun _ a ha => ?_, fun z => nomatch z⟩
  have hxb : isX Sb dd := isX_less (fun a o e => bk a o e) hx
  have hxf : ∀ g y, xfOf S' dd g = some y → xfOf Sb dd g = some y := fun g y e => xfOf_less (fun a o e => bk a o e) e
  have xc := E.exc _ hmem
  have xf := E.xf _ hmem
  have ve := E.ve _ hmem
  have xn := E.num _ hmem
  have xr := E.row _ hmem
  have is := E.is _ hmem
  clear e2 e3 FL e4 e5 q z n hu hu65 hr tk po E M hx bk
  have hk : (errW.map (·.1)).map (fun y => PySem.W.kitOne K (.ref (He.ga K t.1)) (.ref (He.ga K y))) = ((errW.map (·.1)).map fun y => decide (t.1 = y)).map some := by
    rw [List.map_map]
    exact List.map_congr_left fun y hy => is y hy
  have told : ∀ fl, t.2.2 = some fl → ∃ y, xfOf S' dd fl = some y ∧ d = .tup [.str "refused", .str t.2.1, y] := fun fl e => by
    obtain ⟨x, wd, o⟩ := t
    obtain rfl : o = some fl := e
    unfold toldV at ev
    unfold xfOf
    cases dd with
    | none => cases ev
    | some p =>
      dsimp only at ev ⊢
      cases es : S' p with
      | none => rw [es] at ev; cases ev
      | some ob =>
        rw [es] at ev
        cases ob with
        | xd fs =>
          obtain ⟨y, e1, e2⟩ := Option.map_eq_some_iff.mp ev
          exact ⟨y, e1, e2.symm⟩
        | _ => cases ev
  have told0 : t.2.2 = none → d = .tup [.str "refused", .str t.2.1] := fun e => by
    obtain ⟨x, wd, o⟩ := t
    obtain rfl : o = none := e
    unfold toldV at ev
    exact (Option.some.inj ev).symm
  show bodyTold K wx a (.ref (He.ga K t.1)) dd (onlyRt (dn Q)) [some (.ref f0), some (.ref a), none, none] Sb
  have hr0 : ∀ S9, Less Sb S9 → dn Q d S9 := fun S9 l => ⟨Sb, l, hq⟩
  have ht2 := ht
  simp only [errW, List.mem_cons, List.mem_nil_iff, or_false] at ht2
  rcases ht2 with rfl | rfl | rfl | rfl | rfl | rfl | rfl | rfl | rfl
  · exact suite_ok (j := 0) (wd := "house") rfl xc xf xn xr hk ve hxb ha (by decide) (by decide) rfl (by rw [if_neg (by decide), if_neg (by decide)]; exact told0 rfl) hr0
  · exact suite_ok (j := 1) (wd := "name") rfl xc xf xn xr hk ve hxb ha (by decide) (by decide) rfl (by rw [if_neg (by decide), if_neg (by decide)]; exact told0 rfl) hr0
  · exact suite_ok (j := 2) (wd := "number") rfl xc xf xn xr hk ve hxb ha (by decide) (by decide) rfl (by rw [if_neg (by decide), if_neg (by decide)]; exact told0 rfl) hr0
  · exact suite_ok (j := 3) (wd := "home") rfl xc xf xn xr hk ve hxb ha (by decide) (by decide) rfl (by rw [if_neg (by decide), if_neg (by decide)]; exact told0 rfl) hr0
  · exact suite_ok (j := 4) (wd := "cut") rfl xc xf xn xr hk ve hxb ha (by decide) (by decide) rfl (by rw [if_neg (by decide), if_neg (by decide)]; exact told0 rfl) hr0
  · exact suite_ok (j := 5) (wd := "full") rfl xc xf xn xr hk ve hxb ha (by decide) (by decide) rfl (by rw [if_neg (by decide), if_neg (by decide)]; exact told0 rfl) hr0
  · exact suite_ok (j := 6) (wd := "tables") rfl xc xf xn xr hk ve hxb ha (by decide) (by decide) rfl (by rw [if_pos (by decide)]; obtain ⟨y, e1, e2⟩ := told "number" rfl; exact ⟨y, hxf _ _ e1, e2⟩) hr0
  · exact suite_ok (j := 7) (wd := "log") rfl xc xf xn xr hk ve hxb ha (by decide) (by decide) rfl (by rw [if_pos (by decide)]; obtain ⟨y, e1, e2⟩ := told "number" rfl; exact ⟨y, hxf _ _ e1, e2⟩) hr0
  · exact suite_ok (j := 8) (wd := "text") rfl xc xf xn xr hk ve hxb ha (by decide) (by decide) rfl (by rw [if_neg (by decide), if_pos (by decide)]; obtain ⟨y, e1, e2⟩ := told "row" rfl; exact ⟨y, hxf _ _ e1, e2⟩) hr0
end
end Hb
set_option maxRecDepth 100000
set_option maxHeartbeats 1000000
namespace Hb
open PySem L2 DL
abbrev Ent := List Str × Nat
def entD (e : Ent) : DL.D := .tup [.tup (e.1.map .str), .int (e.2 : Nat)]
def EntOk (e : Ent) : Prop := e.1.length ≤ 5 ∧ (∀ x ∈ e.1, Lbl x) ∧ e.2 < 1000
def numT (n : Nat) : Str := Str.ofString (toString ((n : Nat) : Int))
def lineS (e : Ent) : Str := (wname e.1 ++ Str.ofString " ") ++ numT e.2
def numOf (d : Str) : Nat := ((PySem.intText? d).getD 0).toNat
def rowV (r : Str) : Option Ent := match Txt.split r " " with
  | [c, d] => if d ∈ NUMS 1000 ∧ (parts c).all labelB = true ∧ (parts c).length ≤ 5 then some (parts c, numOf d) else none
  | _ => none
def ovD : Option Ent → DL.D
  | some e => entD e
  | none => .non
theorem part_len {r c : Str} {y : Str} (h : c ∈ Txt.split r y) : c.length ≤ r.length := PyProof.Rows.part_short h
theorem parts_ok {c : Str} (hc : Gd c) : ∀ p ∈ parts c, p.length ≤ c.length ∧ PyData.strOk p = true := by
  unfold parts
  split
  · intro p hp; cases hp
  · intro p hp
    refine ⟨part_len hp, strOk_iff.mpr ?_⟩
    rw [dot_eq] at hp
    exact split_all hc p hp
theorem nums_num {d : Str} (h : d ∈ NUMS 1000) : PySem.intText? d = some ((numOf d : Nat) : Int) ∧ numOf d < 1000 ∧ figB d = true ∧ d.length ≤ 3 := by
  obtain ⟨h1, h2, k, h3, h4, h5⟩ := mem_fig h
  have e : numOf d = k := by unfold numOf; rw [h5]; rfl
  rw [e]
  refine ⟨h5, h3, h1, ?_⟩
  unfold figB at h1
  rw [Bool.and_eq_true, Bool.and_eq_true, decide_eq_true_eq, decide_eq_true_eq] at h1
  exact h1.2.1
theorem lrow_eq {r : Str} (hl : r.length + 2 ≤ sizeLine) (hg : Gd r) : lRowR [.str r] = .ok (ovD (rowV r)) := by
  show (if r.length + 2 ≤ sizeLine then (match Txt.split r " " with
    | [c, d] => if PyData.strOk d = true then (if d ∈ NUMS 1000 then lRow2 c d else .ok .non) else .no
    | _ => .ok .non) else .no : PR DL.D) = _
  rw [if_pos hl]
  unfold rowV
  have hm : ∀ p ∈ Txt.split r (Str.ofString " "), Gd p ∧ p.length ≤ r.length := fun p hp => ⟨by rw [sp_eq] at hp; exact split_all hg p hp, part_len hp⟩
  match hs : Txt.split r (Str.ofString " ") with
  | [] => rfl
  | [_] => rfl
  | _ :: _ :: _ :: _ => rfl
  | [c, d] =>
    rw [hs] at hm
    obtain ⟨c1, c2⟩ := hm c (by simp)
    obtain ⟨d1, d2⟩ := hm d (by simp)
    show (if PyData.strOk d = true then (if d ∈ NUMS 1000 then lRow2 c d else .ok .non) else .no : PR DL.D) = .ok (ovD (if d ∈ NUMS 1000 ∧ (parts c).all labelB = true ∧ (parts c).length ≤ 5 then some (parts c, numOf d) else none))
    rw [if_pos (strOk_iff.mpr d1)]
    by_cases hd : d ∈ NUMS 1000
    · rw [if_pos hd]
      obtain ⟨n1, n2, n3, n4⟩ := nums_num hd
      unfold lRow2
      have hp := parts_ok c1
      rw [if_pos ⟨.inr (by omega), fun p hq => ⟨by have := (hp p hq).1; omega, (hp p hq).2⟩, by omega⟩]
      have el : (parts c).all lblB = (parts c).all labelB := by
        congr 1
        funext z
        exact lblB_eq z
      rw [el]
      by_cases ha : (parts c).all labelB = true
      · rw [if_pos ha]
        by_cases h5 : (parts c).length ≤ 5
        · rw [if_pos (by omega), if_pos ⟨hd, ha, h5⟩, n1]
          rfl
        · rw [if_neg (by omega), if_neg (fun z => h5 z.2.2)]
          rfl
      · rw [if_neg ha, if_neg (fun z => ha z.2.1)]
        rfl
    · rw [if_neg hd, if_neg (fun z => hd z.1)]
      rfl
theorem rname_eq {c : Str} (h : c.length + 2 ≤ sizeLine) : rnameR [.str c] = .ok (.tup ((parts c).map .str)) := by
  show (if c = "." then .ok (.tup []) else if c.length + 2 ≤ sizeLine then .ok (.tup ((Txt.split c ".").map .str)) else .no : PR DL.D) = _
  unfold parts
  by_cases hc : c = Str.ofString "."
  · rw [if_pos hc, if_pos hc]; rfl
  · rw [if_neg hc, if_neg hc, if_pos h]
theorem log_small {n : Nat} (h : n < 1000) : n.log2 < 1920 := by
  by_cases z : n = 0
  · subst z; decide
  · have : n.log2 < 10 := (Nat.log2_lt z).mpr (by omega)
    omega
theorem rnum_eq {d : Str} (h : d.length ≤ sizeLine) : rnumR [.str d] = .ok (if d ∈ NUMS 1000 then .int (numOf d : Nat) else .non) := by
  show (if d.length ≤ sizeLine then (if figB d = true then (match PySem.intText? d with
    | some n => if n.natAbs.log2 < 1920 then .ok (if d = toString n then .int n else .non) else .no
    | none => .no) else .ok .non) else .no : PR DL.D) = _
  rw [if_pos h]
  by_cases hf : figB d = true
  · rw [if_pos hf]
    obtain ⟨n, e, h1, h2⟩ := fig_int hf
    rw [e]
    show (if n.natAbs.log2 < 1920 then .ok (if d = toString n then .int n else .non) else .no : PR DL.D) = _
    rw [if_pos (log_small (by omega))]
    have hi := fig_mem hf e
    by_cases hd : d ∈ NUMS 1000
    · have hs := hi.mpr hd
      rw [if_pos hs, if_pos hd]
      unfold numOf
      rw [e]
      show PR.ok (DL.D.int n) = PR.ok (.int ((n.toNat : Nat) : Int))
      rw [Int.toNat_of_nonneg h1]
    · rw [if_neg (fun z => hd (hi.mp z)), if_neg hd]
  · rw [if_neg hf, if_neg (fun z => hf (nums_num z).2.2.1)]
theorem name_eq {ps : List Str} (h : ∀ p ∈ ps, p.length ≤ sizeLine) : nameR [.tup (ps.map .str)] = .ok (.bl (decide (ps.length ≤ 5) && ps.all labelB)) := by
  show (if (ps.map DL.D.str).length ≤ 5 then (if (ps.map DL.D.str).all okL = true then .ok (.bl ((ps.map DL.D.str).all labelP)) else .no) else .ok (.bl false) : PR DL.D) = _
  rw [List.length_map]
  by_cases h5 : ps.length ≤ 5
  · rw [if_pos h5, decide_eq_true h5, Bool.true_and, if_pos, List.all_map]
    · rfl
    · rw [List.all_map, List.all_eq_true]
      exact fun p hp => decide_eq_true (h p hp)
  · rw [if_neg h5, decide_eq_false h5, Bool.false_and]
theorem num_eq {n : Nat} (h : n < 1000) : numR [.int (n : Nat)] = .ok (.bl true) := by
  show PR.ok (DL.D.bl (decide (0 ≤ (n : Int)) && decide ((n : Int) ≤ 999))) = _
  rw [decide_eq_true (by omega), decide_eq_true (by omega)]
  rfl
theorem prow_eq {C : Addr} {r : Str} {i : Nat} (hl : r.length + 2 ≤ sizeLine) (hi : (i : Int).natAbs.log2 < 1000) : rowR C [.int (i : Nat), .str r] = match rowV r with
    | some e => .ok (entD e)
    | none => .er (.ref C, some [("row", .int (i : Nat))]) := by
  unfold rowR
  dsimp only
  rw [if_pos ⟨hl, hi⟩]
  unfold rowV
  have hm : ∀ p ∈ Txt.split r (Str.ofString " "), p.length ≤ r.length := fun p hp => part_len hp
  match hs : Txt.split r (Str.ofString " ") with
  | [] => rfl
  | [_] => rfl
  | _ :: _ :: _ :: _ => rfl
  | [c, d] =>
    rw [hs] at hm
    have c1 := hm c (by simp)
    have d1 := hm d (by simp)
    have hp : ∀ p ∈ parts c, p.length ≤ sizeLine := fun p hp => by
      unfold parts at hp
      split at hp
      · cases hp
      · have := part_len hp; omega
    dsimp only
    rw [rname_eq (by omega), rnum_eq (by omega)]
    dsimp only
    rw [name_eq hp]
    by_cases ha : (parts c).length ≤ 5 ∧ (parts c).all labelB = true
    · have hb : (decide ((parts c).length ≤ 5) && (parts c).all labelB) = true := by rw [decide_eq_true ha.1, ha.2]; rfl
      rw [hb]
      by_cases hd : d ∈ NUMS 1000
      · rw [if_pos hd, if_pos ⟨hd, ha.2, ha.1⟩]
        dsimp only
        show (match numR [.int (numOf d : Nat)] with
          | .ok (.bl true) => .ok (.tup [.tup ((parts c).map .str), .int (numOf d : Nat)])
          | .ok (.bl false) => .er (.ref C, some [("row", .int (i : Nat))])
          | _ => .no : PR DL.D) = _
        rw [num_eq (nums_num hd).2.1]
        rfl
      · rw [if_neg hd, if_neg (show ¬ (d ∈ NUMS 1000 ∧ (parts c).all labelB = true ∧ (parts c).length ≤ 5) from fun z => hd z.1)]
        rfl
    · have : (decide ((parts c).length ≤ 5) && (parts c).all labelB) = false := by
        cases h : (decide ((parts c).length ≤ 5) && (parts c).all labelB) with
        | false => rfl
        | true =>
          rw [Bool.and_eq_true, decide_eq_true_eq] at h
          exact absurd h ha
      rw [this, if_neg (show ¬ (d ∈ NUMS 1000 ∧ (parts c).all labelB = true ∧ (parts c).length ≤ 5) from fun z => ha ⟨z.2.2, z.2.1⟩)]
theorem lbl_of {x : Str} (h : labelB x = true) : Lbl x := by
  unfold labelB at h
  rw [Bool.and_eq_true, Bool.and_eq_true, decide_eq_true_eq, decide_eq_true_eq, List.all_eq_true] at h
  exact ⟨h.1, h.2.1, fun c hc => of_decide_eq_true (h.2.2 c hc)⟩
theorem of_lbl {x : Str} (h : Lbl x) : labelB x = true := by
  unfold labelB
  rw [decide_eq_true h.1, decide_eq_true h.2.1, Bool.true_and, Bool.true_and, List.all_eq_true]
  exact fun c hc => decide_eq_true (h.2.2 c hc)
theorem rowV_ok {r : Str} {e : Ent} (h : rowV r = some e) : EntOk e := by
  unfold rowV at h
  split at h
  · split at h
    · rename_i c d _ hc
      cases h
      exact ⟨hc.2.2, fun x hx => lbl_of (List.all_eq_true.mp hc.2.1 x hx), (nums_num hc.1).2.1⟩
    · cases h
  · cases h
theorem num_mem {n : Nat} (h : n < 1000) : numT n ∈ NUMS 1000 := List.mem_map.mpr ⟨n, List.mem_range.mpr h, rfl⟩
theorem num_of {n : Nat} (h : n < 1000) : numOf (numT n) = n := by
  have hb := List.all_eq_true.mp numB_all n (List.mem_range.mpr h)
  unfold numB at hb
  rw [Bool.and_eq_true, Bool.and_eq_true, decide_eq_true_eq] at hb
  unfold numOf numT
  rw [hb.1.2]
  rfl
theorem fig_sign {d : Str} (h : figB d = true) {c : Nat} (hc : c ∈ d.cps.toList) : 48 ≤ c ∧ c ≤ 57 := by
  unfold figB at h
  rw [Bool.and_eq_true, Bool.and_eq_true, List.all_eq_true] at h
  have := of_decide_eq_true (h.2.2 c hc)
  rw [fig_digs] at this
  simp [digs] at this
  omega
theorem num_all {n : Nat} (h : n < 1000) : AllS (fun c => 48 ≤ c ∧ c ≤ 57) (numT n) := fun c hc => fig_sign (nums_num (num_mem h)).2.2.1 hc
theorem lbl_all {x : Str} (h : Lbl x) : AllS (fun c => 97 ≤ c ∧ c ≤ 122) x := fun c hc => (let_mem c).mp (h.2.2 c hc)
theorem all_imp {P Q : Nat → Prop} {z : Str} (h : AllS P z) (k : ∀ c, P c → Q c) : AllS Q z := fun c hc => k c (h c hc)
theorem wname_all {ns : List Str} (h : ∀ x ∈ ns, Lbl x) : AllS (fun c => c = 46 ∨ (97 ≤ c ∧ c ≤ 122)) (wname ns) := by
  unfold wname
  split
  · intro c hc
    have hc : c ∈ [46] := hc
    exact .inl (List.mem_singleton.mp hc)
  · rw [join_eq, dot_eq]
    exact join_all (P := fun c => c = 46 ∨ (97 ≤ c ∧ c ≤ 122)) (.inl rfl) _ fun p hp => all_imp (lbl_all (h p hp)) fun c hc => .inr hc
theorem line_join {e : Ent} : lineS e = Str.join ⟨#[32]⟩ [wname e.1, numT e.2] := by
  unfold lineS
  rw [sp_eq]
  rfl
theorem line_split {e : Ent} (h : EntOk e) : Txt.split (lineS e) (Str.ofString " ") = [wname e.1, numT e.2] := by
  rw [line_join, sp_eq]
  refine split_join (by simp) fun p hp => ?_
  rcases List.mem_cons.mp hp with rfl | hp
  · intro z
    have := wname_all h.2.1 _ z
    omega
  · rw [List.mem_singleton.mp hp]
    intro z
    have := num_all h.2.2 _ z
    omega
theorem dd_split : Txt.split (⟨#[46]⟩ : Str) ⟨#[46]⟩ = [Str.empty, Str.empty] := by decide +kernel
theorem wname_parts {ns : List Str} (h : ∀ x ∈ ns, Lbl x) : parts (wname ns) = ns := by
  by_cases hn : ns = []
  · subst hn; rfl
  · have ew : wname ns = Str.join ⟨#[46]⟩ ns := by
      unfold wname
      rw [if_neg hn, join_eq, dot_eq]
    have es : Txt.split (Str.join ⟨#[46]⟩ ns) ⟨#[46]⟩ = ns := split_join hn fun p hp z => by
      have := lbl_all (h p hp) _ z
      omega
    have ne : ¬ wname ns = Str.ofString "." := fun z => by
      rw [ew, dot_eq] at z
      rw [z, dd_split] at es
      have := (h Str.empty (by rw [← es]; simp)).1
      exact absurd this (by decide)
    unfold parts
    rw [if_neg ne, ew, dot_eq, es]
theorem rowV_line {e : Ent} (h : EntOk e) : rowV (lineS e) = some e := by
  unfold rowV
  rw [line_split h]
  show (if numT e.2 ∈ NUMS 1000 ∧ (parts (wname e.1)).all labelB = true ∧ (parts (wname e.1)).length ≤ 5 then some (parts (wname e.1), numOf (numT e.2)) else none) = _
  rw [wname_parts h.2.1, num_of h.2.2, if_pos ⟨num_mem h.2.2, List.all_eq_true.mpr fun x hx => of_lbl (h.2.1 x hx), h.1⟩]
theorem wt_lbls : ∀ {ns : List Str}, (∀ x ∈ ns, Lbl x) → wt ns ≤ 4 * ns.length
  | [], _ => Nat.le_refl _
  | n :: ns, h => by
    have h1 := (h n List.mem_cons_self).2.1
    have h2 := wt_lbls (ns := ns) fun x hx => h x (List.mem_cons_of_mem _ hx)
    rw [wt_cons, List.length_cons]
    omega
theorem wname_len {ns : List Str} (h : ∀ x ∈ ns, Lbl x) (h5 : ns.length ≤ 5) : (wname ns).length ≤ 20 := by
  unfold wname
  split
  · show 1 ≤ 20
    omega
  · rw [join_eq, dot_eq]
    have := join_le (c := 46) ns
    have := wt_lbls h
    omega
theorem line_len {e : Ent} (h : EntOk e) : (lineS e).length ≤ 24 := by
  unfold lineS
  rw [append_len, append_len]
  have h1 := wname_len h.2.1 h.1
  have h2 := (nums_num (num_mem h.2.2)).2.2.2
  have h3 : (Str.ofString " ").length = 1 := by decide
  omega
theorem line_all {e : Ent} (h : EntOk e) : AllS (fun c => c ≠ 10 ∧ c < 0x110000) (lineS e) := by
  unfold lineS
  refine append_all (append_all (all_imp (wname_all h.2.1) fun c hc => by omega) ?_) (all_imp (num_all h.2.2) fun c hc => by omega)
  intro c hc
  have hc : c ∈ [32] := hc
  rw [List.mem_singleton.mp hc]
  decide
def textS (es : List Ent) : Str := Txt.join "\n" (es.map lineS)
theorem wt_lines : ∀ {es : List Ent}, (∀ e ∈ es, EntOk e) → wt (es.map lineS) ≤ 25 * es.length
  | [], _ => Nat.le_refl _
  | e :: es, h => by
    have h1 := line_len (h e List.mem_cons_self)
    have h2 := wt_lines (es := es) fun x hx => h x (List.mem_cons_of_mem _ hx)
    rw [List.map_cons, wt_cons, List.length_cons]
    omega
theorem text_len {es : List Ent} (h : ∀ e ∈ es, EntOk e) : (textS es).length ≤ 25 * es.length := by
  unfold textS
  rw [join_eq, nl_eq]
  have := join_le (c := 10) (es.map lineS)
  have := wt_lines h
  omega
theorem text_good {es : List Ent} (h : ∀ e ∈ es, EntOk e) : Gd (textS es) := by
  unfold textS
  rw [join_eq, nl_eq]
  refine join_all (P := fun c => c < 0x110000) (by decide) _ fun p hp => ?_
  obtain ⟨e, he, rfl⟩ := List.mem_map.mp hp
  exact all_imp (line_all (h e he)) fun c hc => hc.2
theorem text_split {es : List Ent} (h : ∀ e ∈ es, EntOk e) (hn : es ≠ []) : Txt.split (textS es) (Str.ofString "\n") = es.map lineS := by
  unfold textS
  rw [join_eq, nl_eq]
  refine split_join (by simpa using hn) fun p hp z => ?_
  obtain ⟨e, he, rfl⟩ := List.mem_map.mp hp
  exact (line_all (h e he) _ z).1 rfl
theorem text_ne {es : List Ent} (h : ∀ e ∈ es, EntOk e) (hn : es ≠ []) : textS es ≠ Str.ofString "" := fun z => by
  have e := text_split h hn
  rw [z] at e
  have e2 : Txt.split (Str.ofString "") (Str.ofString "\n") = [Str.empty] := by decide +kernel
  rw [e2] at e
  match es, h, hn, e with
  | e1 :: r, h, _, e =>
    have := (List.cons.inj e).1
    have h1 := rowV_line (h e1 List.mem_cons_self)
    rw [← this] at h1
    have h2 : rowV Str.empty = none := by decide +kernel
    rw [h2] at h1
    cases h1
end Hb
set_option maxRecDepth 100000
set_option maxHeartbeats 1000000
namespace Hb
open PySem L2 DL
inductive Pl : Nat → DL.D → Prop where
  | non {m} : Pl (m + 1) .non
  | str {m x} : Pl (m + 1) (.str x)
  | int {m i} : Pl (m + 1) (.int i)
  | tup {m} {xs : List DL.D} (h : ∀ x ∈ xs, Pl m x) (l : xs.length ≤ 100000) : Pl (m + 1) (.tup xs)
  | lis {m} {xs : List DL.D} (h : ∀ x ∈ xs, Pl m x) (l : xs.length ≤ 100000) : Pl (m + 1) (.lis xs)
theorem allR_refl {g : List DL.D → PR DL.D} : ∀ xs : List DL.D, (∀ x ∈ xs, g [x, x] = .ok (.bl true)) → allR g xs xs = .ok (.bl true)
  | [], _ => rfl
  | x :: xs, h => by
    unfold allR
    rw [h x List.mem_cons_self]
    exact allR_refl xs fun y hy => h y (List.mem_cons_of_mem _ hy)
theorem like_refl : ∀ {m : Nat} {d : DL.D}, Pl m d → likeN m [d, d] = .ok (.bl true)
  | m + 1, d, h => by
    cases h with
    | non => rfl
    | str => show PR.ok (DL.D.bl (decide _)) = _; rw [decide_eq_true rfl]
    | int => show PR.ok (DL.D.bl (decide _)) = _; rw [decide_eq_true rfl]
    | @tup _ xs h l =>
      show (if xs.length = xs.length then (if xs.length ≤ 100000 then allR (likeN m) xs xs else .no) else .ok (.bl false) : PR DL.D) = _
      rw [if_pos rfl, if_pos l]
      exact allR_refl xs fun x hx => like_refl (h x hx)
    | @lis _ xs h l =>
      show (if xs.length = xs.length then (if xs.length ≤ 100000 then allR (likeN m) xs xs else .no) else .ok (.bl false) : PR DL.D) = _
      rw [if_pos rfl, if_pos l]
      exact allR_refl xs fun x hx => like_refl (h x hx)
theorem pl_ent {m : Nat} {e : Ent} (h : EntOk e) : Pl (m + 3) (entD e) := by
  refine .tup (fun x hx => ?_) (by show 2 ≤ 100000; omega)
  rcases List.mem_cons.mp hx with rfl | hx
  · refine .tup (fun y hy => ?_) (by rw [List.length_map]; have := h.1; omega)
    obtain ⟨z, _, rfl⟩ := List.mem_map.mp hy
    exact .str
  · rw [List.mem_singleton.mp hx]
    exact .int
theorem pl_ents {m : Nat} {es : List Ent} (h : ∀ e ∈ es, EntOk e) (l : es.length ≤ 100000) : Pl (m + 4) (.lis (es.map entD)) :=
  .lis (fun x hx => by obtain ⟨e, he, rfl⟩ := List.mem_map.mp hx; exact pl_ent (h e he)) (by rw [List.length_map]; exact l)
def fstN : List (Option Ent) → Option Nat
  | [] => none
  | none :: _ => some 0
  | some _ :: r => (fstN r).map (· + 1)
theorem fstN_n {r : List (Option Ent)} : fstN (none :: r) = some 0 := rfl
theorem fstN_s {e : Ent} {r : List (Option Ent)} : fstN (some e :: r) = (fstN r).map (· + 1) := rfl
theorem fstN_none : ∀ {vs : List (Option Ent)}, fstN vs = none → ∃ es : List Ent, vs = es.map some
  | [], _ => ⟨[], rfl⟩
  | none :: _, h => by cases h
  | some e :: r, h => by
    unfold fstN at h
    obtain ⟨es, rfl⟩ := fstN_none (vs := r) (Option.map_eq_none_iff.mp h)
    exact ⟨e :: es, rfl⟩
theorem fstN_some : ∀ es : List Ent, fstN (es.map some) = none
  | [] => rfl
  | e :: es => by
    rw [List.map_cons]
    unfold fstN
    rw [fstN_some es]
    rfl
theorem fstN_lt : ∀ {vs : List (Option Ent)} {j : Nat}, fstN vs = some j → j < vs.length
  | [], j, h => by cases h
  | none :: _, j, h => by cases h; exact Nat.zero_lt_succ _
  | some e :: r, j, h => by
    unfold fstN at h
    obtain ⟨i, h1, rfl⟩ := Option.map_eq_some_iff.mp h
    have := fstN_lt h1
    rw [List.length_cons]
    omega
def ovP : Option Ent → PyData
  | some e => .tuple [.tuple (e.1.map .str), .int (e.2 : Nat)]
  | none => .none
theorem pds_ov : ∀ vs : List (Option Ent), pds (vs.map ovD) = some (vs.map ovP)
  | [] => by rw [List.map_nil, pds]; rfl
  | v :: vs => by
    have e : pd (ovD v) = some (ovP v) := by
      cases v with
      | none => rw [ovD, pd]; rfl
      | some e =>
        rw [ovD, entD, pd, pds, pd, pds_strs, pds, pd, pds]
        rfl
    rw [List.map_cons, pds, e, pds_ov vs]
    rfl
theorem lbl_ok {x : Str} (h : Lbl x) : PyData.strOk x = true := strOk_iff.mpr (all_imp (lbl_all h) fun c hc => by omega)
theorem canLay_ov {v : Option Ent} (h : ∀ e, v = some e → EntOk e) : (ovP v).canLay0 = true ∧ (ovP v).depth ≤ 2 := by
  cases v with
  | none => exact ⟨rfl, Nat.zero_le _⟩
  | some e =>
    have hl := canLay_strs e.1 fun z hz => by rw [PyData.canLay0]; exact lbl_ok ((h e rfl).2.1 z hz)
    refine ⟨?_, ?_⟩
    · rw [ovP, PyData.canLay0, PyData.canLayAll0, PyData.canLay0, hl, PyData.canLayAll0, PyData.canLay0, PyData.canLayAll0]
      rfl
    · rw [ovP, PyData.depth, PyData.depthAll, PyData.depth, depth_strs, PyData.depthAll, PyData.depth, PyData.depthAll]
      decide
theorem shaped_ov {vs : List (Option Ent)} (h : ∀ e, some e ∈ vs → EntOk e) : SeqAt.shaped (.list (vs.map ovP)) = true := by
  have key : ∀ vs : List (Option Ent), (∀ e, some e ∈ vs → EntOk e) → PyData.canLayAll0 (vs.map ovP) = true ∧ PyData.depthAll (vs.map ovP) ≤ 2 := by
    intro vs
    induction vs with
    | nil => intro _; rw [List.map_nil, PyData.canLayAll0, PyData.depthAll]; exact ⟨rfl, Nat.zero_le _⟩
    | cons v vs ih =>
      intro h
      obtain ⟨i1, i2⟩ := ih fun e he => h e (List.mem_cons_of_mem _ he)
      obtain ⟨k1, k2⟩ := canLay_ov (v := v) fun e he => h e (by rw [he]; exact List.mem_cons_self)
      rw [List.map_cons, PyData.canLayAll0, PyData.depthAll, k1, i1]
      exact ⟨rfl, Nat.max_le.mpr ⟨k2, i2⟩⟩
  obtain ⟨k1, k2⟩ := key vs h
  unfold SeqAt.shaped
  rw [PyData.canLay0, k1, PyData.depth, Bool.true_and]
  exact decide_eq_true (by omega)
theorem eqv_non (v : Option Ent) : PyData.eqv (ovP v) .none = v.isNone := by
  cases v <;> simp [ovP, PyData.eqv]
theorem shaped_non : SeqAt.shaped .none = true := by
  unfold SeqAt.shaped
  rw [PyData.canLay0, PyData.depth]
  rfl
theorem find_ov : ∀ vs : List (Option Ent), findD .none (vs.map ovP) = fstN vs
  | [] => rfl
  | v :: vs => by
    rw [List.map_cons]
    unfold findD
    rw [eqv_non, find_ov vs]
    cases v with
    | none => rfl
    | some e => rfl
theorem any_ov : ∀ vs : List (Option Ent), ((vs.map ovP).any fun z => PyData.eqv z .none) = (fstN vs).isSome
  | [] => rfl
  | v :: vs => by
    rw [List.map_cons, List.any_cons, any_ov vs, eqv_non]
    cases v with
    | none => rfl
    | some e => rw [fstN_s, Option.isSome_map]; rfl
theorem in_ov {vs : List (Option Ent)} {S : Sto} (h : ∀ e, some e ∈ vs → EntOk e) : gIn false .non (.lis (vs.map ovD)) S = some (.bl (fstN vs).isSome) := by
  have ei : inD S .non (.lis (vs.map ovD)) = some (fstN vs).isSome := by
    show (match pd .non, pd (.lis (vs.map ovD)) with
      | some a, some (.list bs) => if SeqAt.shaped a = true ∧ SeqAt.shaped (.list bs) = true then some (bs.any fun z => PyData.eqv z a) else none
      | _, _ => none) = _
    rw [pd, pd, pds_ov]
    show (if SeqAt.shaped .none = true ∧ SeqAt.shaped (.list (vs.map ovP)) = true then some ((vs.map ovP).any fun z => PyData.eqv z .none) else none) = _
    rw [if_pos ⟨shaped_non, shaped_ov h⟩, any_ov]
  unfold gIn
  rw [ei]
  rfl
theorem index_ov {vs : List (Option Ent)} {S : Sto} {j : Nat} (h : ∀ e, some e ∈ vs → EntOk e) (hj : fstN vs = some j) : gIndex (.lis (vs.map ovD)) [.non] S = some (.int (j : Nat)) := by
  show ((some (vs.map ovD)).bind fun xs => (pds xs).bind fun ps => (dataD S .non).bind fun p => if SeqAt.shaped (.list ps) = true ∧ SeqAt.shaped p = true then (findD p ps).map fun j => DL.D.int (j : Nat) else none) = _
  have e3 : dataD S .non = some .none := by simp [dataD, pd]
  rw [Option.bind_some, pds_ov, Option.bind_some, e3, Option.bind_some, if_pos ⟨shaped_ov h, shaped_non⟩, find_ov, hj]
  rfl
theorem eq_ents {es : List Ent} {S : Sto} (h : ∀ e ∈ es, EntOk e) : gEq true (.lis (es.map entD)) (.lis (es.map entD)) S = some (.bl false) := by
  have e0 : es.map entD = (es.map some).map ovD := by rw [List.map_map]; rfl
  have hs : ∀ e, some e ∈ es.map some → EntOk e := fun e he => by
    obtain ⟨e', h', q⟩ := List.mem_map.mp he
    cases q
    exact h e h'
  have sh := shaped_ov hs
  show ((dataD S (.lis (es.map entD))).bind fun a => (dataD S (.lis (es.map entD))).bind fun b => if SeqAt.shaped a = true ∧ SeqAt.shaped b = true then some (DL.D.bl (if true = true then !PyData.eqv a b else PyData.eqv a b)) else none) = _
  have ed : dataD S (.lis (es.map entD)) = some (.list ((es.map some).map ovP)) := by
    rw [e0]
    show pd _ = _
    rw [pd, pds_ov]
    rfl
  rw [ed, Option.bind_some, Option.bind_some, if_pos ⟨sh, sh⟩, if_pos rfl, PySem.SeqAt.eqv_refl _ (SeqAt.canLay_of_shaped sh)]
  rfl
theorem seq_rows {C : Addr} : ∀ (rows : List Str) (k : Nat), (∀ r ∈ rows, r.length + 2 ≤ sizeLine) → k + rows.length ≤ 1000000 → seqR (rowF C) ((rows.map DL.D.str).mapIdx fun i d => .tup [.int ((i + k : Nat) : Int), d]) = match fstN (rows.map rowV) with
    | none => .ok ((rows.map rowV).map ovD)
    | some j => .er (.ref C, some [("row", .int ((j + k : Nat) : Int))])
  | [], k, _, _ => rfl
  | r :: rows, k, h, hk => by
    rw [List.length_cons] at hk
    have hi : ((k : Nat) : Int).natAbs.log2 < 1000 := by
      rw [Int.natAbs_natCast]
      by_cases z : k = 0
      · subst z; decide
      · have : k.log2 < 20 := (Nat.log2_lt z).mpr (by omega)
        omega
    have ih := seq_rows (C := C) rows (k + 1) (fun x hx => h x (List.mem_cons_of_mem _ hx)) (by omega)
    have ef : (fun (i : Nat) (d : DL.D) => DL.D.tup [.int ((i + 1 + k : Nat) : Int), d]) = fun i d => .tup [.int ((i + (k + 1) : Nat) : Int), d] := by
      funext i d
      congr 4
      omega
    rw [List.map_cons, List.mapIdx_cons, Nat.zero_add, ef, List.map_cons]
    unfold seqR
    have e1 : rowF C (.tup [.int (k : Nat), .str r]) = rowR C [.int (k : Nat), .str r] := rfl
    rw [e1, prow_eq (h r List.mem_cons_self) hi, ih]
    cases ev : rowV r with
    | none =>
      rw [fstN_n]
      show PR.er (Value.ref C, some [(Str.ofString "row", DL.D.int ((k : Nat) : Int))]) = PR.er (Value.ref C, some [(Str.ofString "row", DL.D.int ((0 + k : Nat) : Int))])
      rw [Nat.zero_add]
    | some e =>
      rw [fstN_s]
      cases ef : fstN (rows.map rowV) with
      | none => rfl
      | some j =>
        show PR.er (Value.ref C, some [(Str.ofString "row", DL.D.int ((j + (k + 1) : Nat) : Int))]) = PR.er (Value.ref C, some [(Str.ofString "row", DL.D.int ((j + 1 + k : Nat) : Int))])
        congr 6
        omega
def valsT (z : Str) : List (Option Ent) := if z = "" then [] else (Txt.split z "\n").map rowV
theorem valsT_ok {z : Str} {e : Ent} (h : some e ∈ valsT z) : EntOk e := by
  unfold valsT at h
  split at h
  · cases h
  · obtain ⟨r, _, hr⟩ := List.mem_map.mp h
    exact rowV_ok hr
theorem read_eq {C : Addr} {z : Str} (hz : z.length ≤ 900000) : readR C z = match fstN (valsT z) with
    | none => .ok ((valsT z).map ovD)
    | some j => .er (.ref C, some [("row", .int (j : Nat))]) := by
  have big : (1000000 : Nat) ≤ sizeLine := by decide
  unfold readR valsT
  by_cases h : z = Str.ofString ""
  · rw [if_pos h, if_pos h]; rfl
  · rw [if_neg h, if_neg h]
    have := seq_rows (C := C) (Txt.split z (Str.ofString "\n")) 0 (fun r hr => by have := part_len hr; omega) (by have := PyProof.Rows.split_le z (Str.ofString "\n"); omega)
    simp only [Nat.add_zero] at this
    exact this
theorem vals_text {es : List Ent} (h : ∀ e ∈ es, EntOk e) : valsT (textS es) = es.map some := by
  unfold valsT
  by_cases hn : es = []
  · subst hn; rfl
  · rw [if_neg (text_ne h hn), text_split h hn, List.map_map]
    exact List.map_congr_left fun e he => rowV_line (h e he)
theorem seqR_ok {h : DL.D → PR DL.D} {g : DL.D → DL.D} : ∀ xs : List DL.D, (∀ x ∈ xs, h x = .ok (g x)) → seqR h xs = .ok (xs.map g)
  | [], _ => rfl
  | x :: xs, k => by
    unfold seqR
    rw [k x List.mem_cons_self, seqR_ok xs fun y hy => k y (List.mem_cons_of_mem _ hy)]
    rfl
theorem seqR_er {h : DL.D → PR DL.D} {y : DL.D} {c : XD} {zs : List DL.D} (hy : h y = .er c) : ∀ xs : List DL.D, (∀ x ∈ xs, ∃ d, h x = .ok d) → seqR h (xs ++ y :: zs) = .er c
  | [], _ => by
    rw [List.nil_append]
    unfold seqR
    rw [hy]
  | x :: xs, k => by
    obtain ⟨d, e⟩ := k x List.mem_cons_self
    rw [List.cons_append]
    unfold seqR
    rw [e, seqR_er hy xs fun z hz => k z (List.mem_cons_of_mem _ hz)]
theorem empty_app (s : Str) : Str.empty ++ s = s := by
  have : (Str.empty ++ s).cps.toList = s.cps.toList := by show (#[] ++ s.cps).toList = _; simp
  exact str_ext this
theorem line_eq (e : Ent) : line (wname e.1) (e.2 : Nat) = lineS e := by
  unfold line lineS numT
  rw [empty_app]
theorem check_name_ok {C : Addr} {e : Ent} (h : EntOk e) : checkR C nameR [.tup (e.1.map .str)] = .ok .non := by
  have big : (1000 : Nat) ≤ sizeLine := by decide
  unfold checkR
  rw [name_eq fun p hp => by have := (h.2.1 p hp).2.1; omega, decide_eq_true h.1, Bool.true_and, List.all_eq_true.mpr fun x hx => of_lbl (h.2.1 x hx)]
theorem check_num_ok {C : Addr} {e : Ent} (h : EntOk e) : checkR C numR [.int (e.2 : Nat)] = .ok .non := by
  unfold checkR
  rw [num_eq h.2.2]
theorem lineR_ok {C1 C2 : Addr} {e : Ent} (h : EntOk e) : lineR C1 C2 (entD e) = .ok (.str (lineS e)) := by
  have big : (1000 : Nat) ≤ sizeLine := by decide
  have ew : wnameR [.tup (e.1.map .str)] = .ok (.str (wname e.1)) := by
    show (match strsD (e.1.map DL.D.str) with
      | some ys => if (ys.map (·.length)).sum + ys.length ≤ 16777216 then .ok (.str (wname ys)) else .no
      | none => .no : PR DL.D) = _
    rw [strsD_map]
    show (if (e.1.map (·.length)).sum + e.1.length ≤ 16777216 then .ok (.str (wname e.1)) else .no : PR DL.D) = _
    rw [sum_wt, if_pos]
    have := wt_lbls h.2.1
    have := h.1
    omega
  have lo : lineOk (wname e.1) (e.2 : Nat) := by
    have h1 := wname_len h.2.1 h.1
    have h2 := line_len h
    have h3 : (Str.ofString " ").length = 1 := by decide
    refine ⟨by omega, log_small (by rw [Int.natAbs_natCast]; exact h.2.2), by rw [empty_app]; omega, by rw [empty_app, append_len]; omega, by rw [line_eq]; omega⟩
  unfold lineR entD
  dsimp only
  rw [check_name_ok h, check_num_ok h, ew]
  dsimp only
  rw [if_pos lo, line_eq]
theorem written_eq {C1 C2 : Addr} {es : List Ent} (h : ∀ e ∈ es, EntOk e) (l : es.length ≤ 100000) : writtenR C1 C2 [.lis (es.map entD)] = .ok (.str (textS es)) := by
  have big : (1000000 : Nat) ≤ sizeLine := by decide
  have es1 : seqR (lineR C1 C2) (es.map entD) = .ok ((es.map lineS).map .str) := by
    have : ∀ es : List Ent, (∀ e ∈ es, EntOk e) → seqR (lineR C1 C2) (es.map entD) = .ok ((es.map lineS).map .str) := by
      intro es
      induction es with
      | nil => intro _; rfl
      | cons e es ih =>
        intro h
        rw [List.map_cons]
        unfold seqR
        rw [lineR_ok (h e List.mem_cons_self), ih fun x hx => h x (List.mem_cons_of_mem _ hx)]
        rfl
    exact this es h
  show (if (es.map entD).length ≤ sizeLine then (match seqR (lineR C1 C2) (es.map entD) with
    | .ok lines => joinR lines
    | .er c => .er c
    | .no => .no) else .no) = _
  rw [List.length_map, if_pos (by omega), es1]
  show joinR ((es.map lineS).map .str) = _
  unfold joinR
  rw [strsD_map]
  show (if ((es.map lineS).map (·.length)).sum + (es.map lineS).length ≤ 16777216 then .ok (.str (Txt.join "\n" (es.map lineS))) else .no : PR DL.D) = _
  rw [sum_wt, if_pos]
  · rfl
  · have := wt_lines h; omega
theorem written_er {C1 C2 : Addr} {es : List Ent} {y : DL.D} {c : XD} {zs : List DL.D} {k : Nat} (h : ∀ e ∈ es, EntOk e) (l : es.length + zs.length ≤ 100000) (hy : lineR C1 C2 y = .er c) : writtenR C1 C2 [.lis ((es.map entD).take k ++ y :: zs)] = .er c := by
  have big : (1000000 : Nat) ≤ sizeLine := by decide
  show (if ((es.map entD).take k ++ y :: zs).length ≤ sizeLine then (match seqR (lineR C1 C2) ((es.map entD).take k ++ y :: zs) with
    | .ok lines => joinR lines
    | .er c => .er c
    | .no => .no) else .no) = _
  rw [if_pos (by rw [List.length_append, List.length_take, List.length_map, List.length_cons]; omega), seqR_er hy _ fun x hx => by
    obtain ⟨e, he, rfl⟩ := List.mem_map.mp (List.mem_of_mem_take hx)
    exact ⟨_, lineR_ok (h e he)⟩]
def BADS : List (DL.D × Str) := [(.tup [.tup [.str "A"], .int 1], "name"), (.tup [.tup [.str "a"], .int 1000], "number"), (.tup [.tup (List.replicate 6 (.str "a")), .int (-1)], "name"), (.tup [.tup [.str "a"], .int (-1)], "number"), (.tup [.tup [.str ""], .int 1000], "name"), (.tup [.tup [.str "a"], .non], "number"), (.tup [.int 5, .int 5], "name")]
theorem bads_er {C1 C2 : Addr} {p : DL.D × Str} (h : p ∈ BADS) : (p.2 = "name" ∧ lineR C1 C2 p.1 = .er (.ref C1, none)) ∨ (p.2 = "number" ∧ lineR C1 C2 p.1 = .er (.ref C2, none)) := by
  simp only [BADS, List.mem_cons, List.mem_nil_iff, or_false] at h
  rcases h with rfl | rfl | rfl | rfl | rfl | rfl | rfl
  · exact .inl ⟨rfl, rfl⟩
  · exact .inr ⟨rfl, rfl⟩
  · exact .inl ⟨rfl, rfl⟩
  · exact .inr ⟨rfl, rfl⟩
  · exact .inl ⟨rfl, rfl⟩
  · exact .inr ⟨rfl, rfl⟩
  · exact .inl ⟨rfl, rfl⟩
end Hb
set_option maxRecDepth 100000
set_option maxHeartbeats 2000000
namespace Hb
open PySem L2 DL
def passS : Stmt := .Pass ⟨0, 0, 0, 0⟩
def turnBody : List Stmt := match (defBody (top 41)).getD 1 passS with
  | .For _ _ b _ _ => b
  | _ => []
def noE : Expr := .Constant .none 0 ⟨0, 0, 0, 0⟩
def lamE0 : Expr := match turnBody.getD 11 passS with
  | .If (.BoolOp _ [_, .UnaryOp _ (.Call _ [.Call _ [l] _ _, _] _ _) _] _) _ _ _ => l
  | _ => noE
def lamE1 : Expr := match turnBody.getD 16 passS with
  | .If (.Compare (.Call _ [l] _ _) _ _ _) _ _ _ => l
  | _ => noE
def lamP : Expr → Arguments
  | .Lambda p _ _ _ => p
  | _ => ⟨[], [], none, [], [], none, []⟩
def lamB : Expr → Expr
  | .Lambda _ b _ _ => b
  | _ => noE
def lamS : Expr → Scope
  | .Lambda _ _ s _ => s
  | _ => ⟨.function, [], false, false, []⟩
def lawQ : Str := (PyProof.Rows.envOfC "law" (defScope (top 41)) 0 0 (.ref 0)).qual
def LL0 : LamD := ⟨lawQ ++ "<lambda>", lamP lamE0, lamB lamE0, lamS lamE0, []⟩
def LL1 : LamD := ⟨lawQ ++ "<lambda>", lamP lamE1, lamB lamE1, lamS lamE1, [0]⟩
theorem lamS0 : LamS LL0 [] ["_law_text"] := by
  refine ⟨rfl, rfl, rfl, by decide +kernel, fun p hp => (by cases hp), by decide +kernel, fun y hy => ?_, by decide, rfl, by decide, fun F pm ctv e => ?_⟩
  · rw [List.mem_singleton.mp hy]
    decide +kernel
  · obtain ⟨l, clo, code, dfl⟩ := F
    obtain rfl : l = LL0 := e
    refine ⟨fun e1 _ => ?_, fun t e1 its hl => ?_⟩
    · obtain rfl : dfl = none := e1
      rfl
    · obtain rfl : dfl = some t := e1
      obtain rfl : its = [] := List.length_eq_zero_iff.mp hl
      exact ⟨_, rfl, rfl⟩
theorem lamS1 : LamS LL1 ["_law_a"] ["_law_worse"] := by
  refine ⟨rfl, rfl, rfl, by decide +kernel, fun p hp => ?_, by decide +kernel, fun y hy => ?_, by decide, rfl, by decide, fun F pm ctv e => ?_⟩
  · rw [List.mem_singleton.mp hp]
    decide +kernel
  · rw [List.mem_singleton.mp hy]
    decide +kernel
  · obtain ⟨l, clo, code, dfl⟩ := F
    obtain rfl : l = LL1 := e
    refine ⟨fun e1 e2 => ?_, fun t e1 its hl => ?_⟩
    · cases e2
    · obtain rfl : dfl = some t := e1
      match its, hl with
      | [u], _ => exact ⟨_, rfl, rfl⟩
def readZ (C : Addr) (ds : List DL.D) : PR DL.D := match ds with
  | [.str z] => if z.length + 2 ≤ sizeLine ∧ (Txt.split z "\n").length ≤ sizeLine then (match readR C z with
    | .ok xs => .ok (.lis xs)
    | .er c => .er c
    | .no => .no) else .no
  | _ => .no
section
variable {X : Cx} {wx : WD} {k : Nat} {f C : Addr} {fr : FA} {x : Str} {p pos : Pos} {e : Expr} {es : List Expr}
theorem fe_read (F : FnD X.prog X.w X.K X.mg X.base k f (spRead C)) (hr : Room k X.A) (hg : Gl X x) (hm : X.mg x = some (.ref f)) (tk : TakesD X wx) (ha : FAs X wx (e :: es) fr) (hdb : (x == ("__debug__" : Str)) = false := by decide)
    (he : starEach (e :: es) X.env = (false, eval e X.env) :: starEach es X.env := by rfl) (hpl : (backTo pos (starEach es X.env)).any (·.1) = false := by rfl) : FE X wx (.Call (.Name x p) (e :: es) [] pos) (fCall 1 (pur (readZ C)) fr) :=
  de_weak (de_frz (de_call F hr hg hm tk ha hdb he hpl)) upF_mono fun δ S Q q => by
    unfold upF fCall at q
    rw [fin_bnd] at q
    refine fin_mono (fun _ _ z => z) (fun ds S1 q1 => ?_) q
    show spRead C ds S1 (frzK Q) _
    by_cases l : ds.length = 1
    · rw [if_pos l] at q1
      refine ⟨l, ?_⟩
      match ds, l with
      | [d], _ =>
        cases d with
        | str z =>
          have q1 : fin (PR.out (if z.length + 2 ≤ sizeLine ∧ (Txt.split z "\n").length ≤ sizeLine then (match readR C z with
            | .ok xs => .ok (.lis xs)
            | .er c => .er c
            | .no => .no) else .no : PR DL.D) S1) (fun c S' => wx c δ S') Q := q1
          by_cases hc : z.length + 2 ≤ sizeLine ∧ (Txt.split z "\n").length ≤ sizeLine
          · rw [if_pos hc] at q1
            refine ⟨hc.1, hc.2, ?_⟩
            cases er : readR C z with
            | ok xs =>
              rw [er] at q1
              intro p hp
              simp only [frzK, sup_same]
              rw [dlS_sup hp]
              exact q1
            | er c => rw [er] at q1; exact q1
            | no => rw [er] at q1; exact q1.elim
          · rw [if_neg hc] at q1; exact q1.elim
        | _ => exact q1.elim
    · rw [if_neg l] at q1; exact q1.elim
end
def spLam1 (C1 C2 : Addr) : DSp := fun ds S Q E => ∃ x, ds = [.int 0, x] ∧ spO 1 (pur (writtenR C1 C2)) [x] S Q E
theorem spLam1_mono {C1 C2 : Addr} : MonoSp (spLam1 C1 C2) := fun ds S Q Q' E E' h h' ⟨x, e, q⟩ => ⟨x, e, spO_mono _ _ _ _ _ _ h h' q⟩
section
variable {P : Program} {w : World} {K : PySem.W.Frag} {mg : Str → Option Value} {base : Heap} {k : Nat} {f C C1 C2 : Addr}
theorem lam0_ok (m_read : mg "read" = some (.ref f)) (F_read : FnD P w K mg base k f (spRead C)) : FnL P w K mg base k LL0 [] ["_law_text"] (spRead C) := by
  refine lam_ok lamS0 spRead_mono spRead_len fun X clo f' c' A outer s H E wx eX hr tk => ?_
  subst eX
  refine ⟨_, de_call F_read hr (by rfl) m_read tk (da_cons (dv 0) da_nil), fun ds S Q h => ?_⟩
  match ds, h.1 with
  | [d], _ => exact spRead_mono _ _ _ _ _ _ (fun d S' z => ⟨S', Less.refl, z⟩) (fun c S' z => ⟨S', Less.refl, z⟩) h
theorem lam1_ok (m_written : mg "written" = some (.ref f)) (F_written : FnD P w K mg base k f (spO 1 (pur (writtenR C1 C2)))) : FnL P w K mg base k LL1 ["_law_a"] ["_law_worse"] (spLam1 C1 C2) := by
  refine lam_ok lamS1 spLam1_mono (fun ds S Q E ⟨x, e, _⟩ => by rw [e]; rfl) fun X clo f' c' A outer s H E wx eX hr tk => ?_
  subst eX
  refine ⟨_, de_call F_written hr (by rfl) m_written tk (da_cons (dv 1) da_nil), fun ds S Q h => ?_⟩
  obtain ⟨x, rfl, h⟩ := h
  exact spO_mono _ _ _ _ _ _ (fun d S' z => ⟨S', Less.refl, z⟩) (fun c S' z => ⟨S', Less.refl, z⟩) h
end
end Hb
set_option maxRecDepth 100000
set_option maxHeartbeats 1000000
namespace Hb
open PySem L2 DL
theorem strs_of {ls : List Str} : ∀ {xs : List DL.D}, (∀ x ∈ xs, x ∈ ls.map DL.D.str) → ∃ ns : List Str, xs = ns.map .str ∧ ∀ n ∈ ns, n ∈ ls
  | [], _ => ⟨[], rfl, fun n h => by cases h⟩
  | x :: xs, h => by
    obtain ⟨n, hn, rfl⟩ := List.mem_map.mp (h x List.mem_cons_self)
    obtain ⟨ns, rfl, k⟩ := strs_of fun y hy => h y (List.mem_cons_of_mem _ hy)
    exact ⟨n :: ns, rfl, fun m hm => (List.mem_cons.mp hm).elim (fun e => e ▸ hn) (k m)⟩
theorem ev_ent {δ : DEnv} {S : Sto} {a : Addr} {ls : List Str} (e1 : δ[1]? = some (some (.ref a))) (e3 : δ[3]? = some (some (.lis (ls.map .str)))) (d : Dc S a) (h1 : 0 < ls.length) (h2 : ls.length ≤ 1000) (hl : ∀ x ∈ ls, Lbl x) :
    ∃ (e : Ent) (S' : Sto), fTup (fCons (fCall 2 gName (fCons (fVar 1) (fCons (fVar 3) fNil))) (fCons (DL.fSub (fLst (fCons (fC (.int 0)) (fCons (fC (.int 999)) (fCons (fCall 2 gNext (fCons (fVar 1) (fCons (fC (.int 1000)) fNil))) fNil)))) (fCall 2 gNext (fCons (fVar 1) (fCons (fC (.int 3)) fNil)))) fNil)) δ S = .ok (entD e) S' ∧ EntOk e ∧ Dc S' a ∧ Off a S S' := by
  have big : (1000 : Nat) ≤ sizeLine := by decide
  obtain ⟨xs, S1, en, hx, l5, d1, o1⟩ := name_ok (ls := ls.map .str) d (by rw [List.length_map]; exact h1) (by rw [List.length_map]; exact h2)
  obtain ⟨ns, rfl, hn⟩ := strs_of hx
  rw [List.length_map] at l5
  obtain ⟨v, S2, ev, hv, d2, o2⟩ := ev_next (δ := δ) (i := 1) (fn := fC (.int 1000)) (n := 1000) e1 fC_ok d1 (by decide) (by decide)
  obtain ⟨q, S3, eq, hq, d3, o3⟩ := ev_next (δ := δ) (i := 1) (fn := fC (.int 3)) (n := 3) e1 fC_ok d2 (by decide) (by decide)
  have hm : ∃ m : Nat, m < 1000 ∧ DL.gSub (.lis [.int 0, .int 999, .int (v : Nat)]) (.int (q : Nat)) S3 = some (.int (m : Nat)) := by
    have : q = 0 ∨ q = 1 ∨ q = 2 := by omega
    rcases this with rfl | rfl | rfl
    · exact ⟨0, by decide, rfl⟩
    · exact ⟨999, by decide, rfl⟩
    · exact ⟨v, by omega, rfl⟩
  obtain ⟨m, hm, em⟩ := hm
  refine ⟨(ns, m), S3, ?_, ⟨l5, fun x hx => hl x (hn x hx), hm⟩, d3, (o1.trans o2).trans o3⟩
  exact fTup_ok (fTwo_ok (S1 := S1) (S2 := S3) (fCall_ok (fTwo_ok (S1 := S) (S2 := S) (fVar_ok e1) (fVar_ok e3)) rfl en) (fSub_ok (S1 := S2) (S2 := S3) (fLst_ok (fThree_ok (S1 := S1) (S2 := S1) (S3 := S2) fC_ok fC_ok ev) (by show 3 ≤ sizeLine; omega)) eq em)) (by show 2 ≤ sizeLine; omega)
theorem eq_unit {ns : List Str} {S : Sto} (h : ∀ x ∈ ns, Lbl x) : gEq true (.tup (ns.map .str)) (.tup []) S = some (.bl (!ns.isEmpty)) := by
  have e0 : pds ([] : List DL.D) = some [] := by rw [pds]
  have hl := canLay_strs ns fun z hz => by rw [PyData.canLay0]; exact lbl_ok (h z hz)
  have s1 : SeqAt.shaped (.tuple (ns.map PyData.str)) = true := by
    unfold SeqAt.shaped
    rw [PyData.canLay0, hl, PyData.depth, depth_strs]
    rfl
  have s2 : SeqAt.shaped (.tuple []) = true := by
    unfold SeqAt.shaped
    rw [PyData.canLay0, PyData.canLayAll0, PyData.depth, PyData.depthAll]
    rfl
  have ee : PyData.eqv (.tuple (ns.map PyData.str)) (.tuple []) = ns.isEmpty := by
    cases ns with
    | nil => rw [List.map_nil, PyData.eqv, PyData.eqvAll]; rfl
    | cons z zs => rw [List.map_cons, PyData.eqv, PyData.eqvAll]; rfl
  show ((pd (.tup (ns.map DL.D.str))).bind fun a => (pd (.tup [])).bind fun b => if SeqAt.shaped a = true ∧ SeqAt.shaped b = true then some (DL.D.bl (if true = true then !PyData.eqv a b else PyData.eqv a b)) else none) = _
  rw [pd, pds_strs, pd, e0]
  show (if SeqAt.shaped (.tuple (ns.map PyData.str)) = true ∧ SeqAt.shaped (.tuple []) = true then some (DL.D.bl (if true = true then !PyData.eqv (.tuple (ns.map PyData.str)) (.tuple []) else _)) else none) = _
  rw [if_pos ⟨s1, s2⟩, if_pos rfl, ee]
theorem join_tup {y : Str} {ps : List Str} {S : Sto} (hy : y.length = 1) (h : wt ps ≤ 16777216) : fJoin (.str y) [.tup (ps.map .str)] S = some (.str (Txt.join y ps)) := by
  show (Option.bind (some (ps.map DL.D.str)) fun xs => (strsD xs).bind fun ys => if (ys.map (·.length)).sum + ys.length * y.length ≤ 16777216 then some (DL.D.str (Txt.join y ys)) else none) = _
  rw [Option.bind_some, strsD_map, Option.bind_some, hy, Nat.mul_one, sum_wt, if_pos h]
def wordD : DL.D → DL.D
  | .tup [.tup xs, _] => match strsD xs with
    | some ns => .str (wname ns)
    | none => .non
  | _ => .non
theorem ev_words {o0 o1 o2 o3 o5 o6 o7 o8 o9 o10 o11 o12 o13 o14 o15 o16 o17 o18 o19 : Option DL.D} {S : Sto} {es : List Ent} (h : ∀ e ∈ es, EntOk e) (l : es.length ≤ 1000) :
    fLc (fAny (fVar 4)) (.tp [.nm 7, .nm 8]) fYes (fIf (tst (fBin (gEq true) (fVar 7) (fTup fNil))) (fBM "str" fJoin (fC (.str ".")) (fCons (fVar 7) fNil)) (fC (.str "."))) [7, 8] [o0, o1, o2, o3, some (.lis (es.map entD)), o5, o6, o7, o8, o9, o10, o11, o12, o13, o14, o15, o16, o17, o18, o19] S = .ok (.lis (es.map fun e => .str (wname e.1))) S := by
  have big : (1000 : Nat) ≤ sizeLine := by decide
  have := fLc_pure (fi := fAny (fVar 4)) (s := .of (es.map entD)) (p := .tp [.nm 7, .nm 8]) (fe := fIf (tst (fBin (gEq true) (fVar 7) (fTup fNil))) (fBM "str" fJoin (fC (.str ".")) (fCons (fVar 7) fNil)) (fC (.str "."))) (vs := [7, 8]) (h := wordD) (δ := [o0, o1, o2, o3, some (.lis (es.map entD)), o5, o6, o7, o8, o9, o10, o11, o12, o13, o14, o15, o16, o17, o18, o19]) (S := S) rfl rfl (by show (es.map entD).length ≤ _; rw [List.length_map]; omega) (fun x hx => by
    have hx : x ∈ es.map entD := hx
    obtain ⟨e, he, rfl⟩ := List.mem_map.mp hx
    have he := h e he
    refine ⟨[o0, o1, o2, o3, some (.lis (es.map entD)), o5, o6, some (.tup (e.1.map .str)), some (.int (e.2 : Nat)), o9, o10, o11, o12, o13, o14, o15, o16, o17, o18, o19], rfl, ?_⟩
    have ew : wordD (entD e) = .str (wname e.1) := by
      show (match strsD (e.1.map DL.D.str) with
        | some ns => DL.D.str (wname ns)
        | none => .non) = _
      rw [strsD_map]
    rw [ew]
    have et := eq_unit (S := S) he.2.1
    have hw := wt_lbls he.2.1
    have h5 := he.1
    unfold wname
    by_cases hn : e.1 = []
    · rw [if_pos hn]
      rw [hn] at et ⊢
      exact fIf_f (S1 := S) (tst_ok (fBin_ok (S1 := S) (S2 := S) (fVar_ok rfl) rfl et)) fC_ok
    · rw [if_neg hn]
      have hb : e.1.isEmpty = false := by
        cases hh : e.1 with
        | nil => exact absurd hh hn
        | cons _ _ => rfl
      rw [hb] at et
      exact fIf_t (S1 := S) (tst_ok (fBin_ok (S1 := S) (S2 := S) (fVar_ok rfl) rfl et)) (fBM_ok (S1 := S) (S2 := S) fC_ok rfl (fOne_ok (fVar_ok rfl)) (join_tup rfl (by omega))))
  rw [this]
  have em : (SrcF.of (es.map entD)).items.map wordD = es.map fun e => .str (wname e.1) := by
    show (es.map entD).map wordD = _
    rw [List.map_map]
    refine List.map_congr_left fun e _ => ?_
    show (match strsD (e.1.map DL.D.str) with
      | some ns => DL.D.str (wname ns)
      | none => .non) = _
    rw [strsD_map]
  rw [em]
theorem get_of {α : Type} {xs : List α} {i : Nat} (h : i < xs.length) : xs[i]? = some xs[i] := List.getElem?_eq_getElem h
def rowD (es : List Ent) : DL.D → DL.D
  | .int i => match es[i.toNat]? with
    | some e => .str (lineS e)
    | none => .non
  | _ => .non
theorem rowD_at {es : List Ent} {i : Nat} (h : i < es.length) : rowD es (.int (i : Nat)) = .str (lineS es[i]) := by
  show (match es[((i : Nat) : Int).toNat]? with
    | some e => DL.D.str (lineS e)
    | none => .non) = _
  rw [Int.toNat_natCast, get_of h]
theorem rng_row {es : List Ent} : (rngD 0 es.length).map (rowD es) = (es.map lineS).map .str := by
  unfold rngD
  rw [List.map_map, List.map_map]
  apply List.ext_getElem
  · simp
  · intro i h1 h2
    have hi : i < es.length := by simpa using h2
    simp only [List.getElem_map, List.getElem_range]
    show rowD es (.int (0 + (i : Int))) = DL.D.str (lineS es[i])
    rw [Int.zero_add, rowD_at hi]
theorem ev_text {o0 o1 o2 o3 o5 o7 o8 o9 o10 o11 o12 o13 o14 o15 o16 o17 o18 o19 : Option DL.D} {S : Sto} {es : List Ent} (h : ∀ e ∈ es, EntOk e) (l : es.length ≤ 1000) :
    fBM "str" fJoin (fC (.str "\n")) (fCons (fLc (fR1 (fCons (fCB gLen (fCons (fVar 4) fNil)) fNil)) (.nm 5) fYes (fBin gAdd (fBin gAdd (DL.fSub (fVar 6) (fVar 5)) (fC (.str " "))) (fCB fStr (fCons (DL.fSub (DL.fSub (fVar 4) (fVar 5)) (fC (.int 1))) fNil))) [5]) fNil) [o0, o1, o2, o3, some (.lis (es.map entD)), o5, some (.lis (es.map fun e => .str (wname e.1))), o7, o8, o9, o10, o11, o12, o13, o14, o15, o16, o17, o18, o19] S = .ok (.str (textS es)) S := by
  have big : (1000 : Nat) ≤ sizeLine := by decide
  have ef : fR1 (fCons (fCB gLen (fCons (fVar 4) fNil)) fNil) [o0, o1, o2, o3, some (.lis (es.map entD)), o5, some (.lis (es.map fun e => .str (wname e.1))), o7, o8, o9, o10, o11, o12, o13, o14, o15, o16, o17, o18, o19] S = .ok (.of (rngD 0 es.length)) S := by
    have := fR1_ok (fr := fCons (fCB gLen (fCons (fVar 4) fNil)) fNil) (δ := [o0, o1, o2, o3, some (.lis (es.map entD)), o5, some (.lis (es.map fun e => .str (wname e.1))), o7, o8, o9, o10, o11, o12, o13, o14, o15, o16, o17, o18, o19]) (S := S) (S1 := S) (j := ((es.map entD).length : Nat)) (fOne_ok (fCB_ok (fOne_ok (fVar_ok rfl)) len_ev)) (by omega) (by rw [List.length_map]; omega)
    rw [Int.toNat_natCast, List.length_map] at this
    exact this
  have := fLc_pure (s := .of (rngD 0 es.length)) (p := .nm 5) (fe := fBin gAdd (fBin gAdd (DL.fSub (fVar 6) (fVar 5)) (fC (.str " "))) (fCB fStr (fCons (DL.fSub (DL.fSub (fVar 4) (fVar 5)) (fC (.int 1))) fNil))) (vs := [5]) (h := rowD es) ef rfl (by show (rngD 0 es.length).length ≤ _; unfold rngD; rw [List.length_map, List.length_range]; omega) (fun x hx => by
    have hx : x ∈ rngD 0 es.length := hx
    unfold rngD at hx
    obtain ⟨i, hi, rfl⟩ := List.mem_map.mp hx
    have hi := List.mem_range.mp hi
    rw [Int.zero_add]
    refine ⟨[o0, o1, o2, o3, some (.lis (es.map entD)), some (.int (i : Nat)), some (.lis (es.map fun e => .str (wname e.1))), o7, o8, o9, o10, o11, o12, o13, o14, o15, o16, o17, o18, o19], rfl, ?_⟩
    rw [rowD_at hi]
    have he := h es[i] (List.getElem_mem hi)
    have h1 := wname_len he.2.1 he.1
    have h2 := line_len he
    have h3 : (Str.ofString " ").length = 1 := by decide
    have e6 : (es.map fun e => DL.D.str (wname e.1))[i]? = some (.str (wname es[i].1)) := by rw [List.getElem?_map, get_of hi]; rfl
    have e4 : (es.map entD)[i]? = some (entD es[i]) := by rw [List.getElem?_map, get_of hi]; rfl
    have en : fStr [.int (es[i].2 : Nat)] S = some (.str (numT es[i].2)) := by
      show (if ((es[i].2 : Nat) : Int).natAbs.log2 < 1920 then some (DL.D.str (toString ((es[i].2 : Nat) : Int))) else none) = _
      rw [if_pos (log_small (by rw [Int.natAbs_natCast]; exact he.2.2))]
      rfl
    refine fBin_ok (S1 := S) (S2 := S) (x := .str (wname es[i].1 ++ Str.ofString " ")) (y := .str (numT es[i].2)) (fBin_ok (S1 := S) (S2 := S) (fSub_ok (S1 := S) (S2 := S) (fVar_ok rfl) (fVar_ok rfl) (sub_ev e6)) fC_ok ?_) (fCB_ok (S1 := S) (fOne_ok (x := .int (es[i].2 : Nat)) (fSub_ok (S1 := S) (S2 := S) (fSub_ok (S1 := S) (S2 := S) (fVar_ok rfl) (fVar_ok rfl) (sub_ev e4)) fC_ok rfl)) en) ?_
    · show (if (wname es[i].1).length + (Str.ofString " ").length ≤ sizeLine then some (DL.D.str (wname es[i].1 ++ Str.ofString " ")) else none) = _
      rw [if_pos (by omega)]
    · show (if (wname es[i].1 ++ Str.ofString " ").length + (numT es[i].2).length ≤ sizeLine then some (DL.D.str ((wname es[i].1 ++ Str.ofString " ") ++ numT es[i].2)) else none) = _
      have h4 : (lineS es[i]).length = (wname es[i].1 ++ Str.ofString " ").length + (numT es[i].2).length := append_len
      rw [if_pos (by omega)]
      rfl)
  refine fBM_ok (S1 := S) (S2 := S) (x := .str "\n") fC_ok rfl (fOne_ok (x := .lis ((es.map lineS).map .str)) ?_) (join_ev rfl (by have := wt_lines h; omega))
  rw [this]
  show Out.ok (DL.D.lis ((rngD 0 es.length).map (rowD es))) S = _
  rw [rng_row]
end Hb
set_option maxRecDepth 100000
set_option maxHeartbeats 1000000
namespace Hb
open PySem L2 DL
theorem readZ_eq {C : Addr} {z : Str} (hz : z.length ≤ 900000) : readZ C [.str z] = match fstN (valsT z) with
    | none => .ok (.lis ((valsT z).map ovD))
    | some j => .er (.ref C, some [("row", .int (j : Nat))]) := by
  have big : (1000000 : Nat) ≤ sizeLine := by decide
  show (if z.length + 2 ≤ sizeLine ∧ (Txt.split z "\n").length ≤ sizeLine then (match readR C z with
    | .ok xs => .ok (.lis xs)
    | .er c => .er c
    | .no => .no) else .no : PR DL.D) = _
  rw [if_pos ⟨by omega, by have := PyProof.Rows.split_le z (Str.ofString "\n"); omega⟩, read_eq hz]
  cases fstN (valsT z) <;> rfl
theorem ev_like {δ : DEnv} {S S1 S2 : Sto} {fa fb : FV} {d : DL.D} (ha : fa δ S = .ok d S1) (hb : fb δ S1 = .ok d S2) (h : Pl 5 d) : fNot (tst (fCall 2 (pur (likeN 5)) (fCons fa (fCons fb fNil)))) δ S = .ok false S2 := by
  refine fNot_ok (b := true) (tst_ok (fCall_ok (fTwo_ok ha hb) rfl ?_))
  rw [pur_eq, like_refl h]
  rfl
theorem ents_map {es : List Ent} : (es.map some).map ovD = es.map entD := by rw [List.map_map]; rfl
theorem ev_test {δ : DEnv} {S : Sto} {es : List Ent} {C C1 C2 : Addr} (h : ∀ e ∈ es, EntOk e) (l : es.length ≤ 1000) (e4 : δ[4]? = some (some (.lis (es.map entD)))) (e9 : δ[9]? = some (some (.str (textS es)))) (e10 : δ[10]? = some (some (.lis (es.map entD)))) :
    fOr (fNot (tst (fCall 2 (pur (likeN 5)) (fCons (fCall 1 (pur (writtenR C1 C2)) (fCons (fVar 10) fNil)) (fCons (fVar 9) fNil))))) (fOr (fNot (tst (fCall 2 (pur (likeN 5)) (fCons (fCall 1 (pur (readZ C)) (fCons (fVar 9) fNil)) (fCons (fVar 4) fNil))))) (tst (fBin (gEq true) (fVar 10) (fVar 4)))) δ S = .ok false S := by
  have ht := text_len h
  have ew : fCall 1 (pur (writtenR C1 C2)) (fCons (fVar 10) fNil) δ S = .ok (.str (textS es)) S := fCall_ok (fOne_ok (fVar_ok e10)) rfl (by rw [pur_eq, written_eq h (by omega)]; rfl)
  have er : fCall 1 (pur (readZ C)) (fCons (fVar 9) fNil) δ S = .ok (.lis (es.map entD)) S := fCall_ok (fOne_ok (fVar_ok e9)) rfl (by
    rw [pur_eq, readZ_eq (by omega), vals_text h, fstN_some]
    show PR.out (.ok (DL.D.lis ((es.map some).map ovD))) S = _
    rw [ents_map]
    rfl)
  refine fOr_f (S1 := S) (ev_like ew (fVar_ok e9) .str) (fOr_f (S1 := S) (ev_like er (fVar_ok e4) (pl_ents (m := 1) h (by omega))) ?_)
  exact tst_ok (fBin_ok (S1 := S) (S2 := S) (fVar_ok e10) (fVar_ok e4) (eq_ents h))
def rowO : DL.D → DL.D
  | .str r => ovD (rowV r)
  | _ => .non
theorem ev_some {o0 o1 o2 o3 o4 o5 o6 o7 o8 o10 o11 o12 o13 o14 o15 o16 o17 o18 o19 : Option DL.D} {S : Sto} {z : Str} (hz : z.length ≤ 900000) (hg : Gd z) :
    fIf (tst (fBin (gEq true) (fVar 9) (fC (.str "")))) (fLc (fAny (fBM "str" (fun x => lisO (fSplit x)) (fVar 9) (fCons (fC (.str "\n")) fNil))) (.nm 13) fYes (fCall 1 (pur lRowR) (fCons (fVar 13) fNil)) [13]) (fLst fNil) [o0, o1, o2, o3, o4, o5, o6, o7, o8, some (.str z), o10, o11, o12, o13, o14, o15, o16, o17, o18, o19] S = .ok (.lis ((valsT z).map ovD)) S := by
  have big : (1000000 : Nat) ≤ sizeLine := by decide
  have et : tst (fBin (gEq true) (fVar 9) (fC (.str ""))) [o0, o1, o2, o3, o4, o5, o6, o7, o8, some (.str z), o10, o11, o12, o13, o14, o15, o16, o17, o18, o19] S = .ok (!decide (z = Str.ofString "")) S := tst_ok (fBin_ok (S1 := S) (S2 := S) (fVar_ok rfl) fC_ok rfl)
  unfold valsT
  by_cases hc : z = Str.ofString ""
  · rw [decide_eq_true hc] at et
    rw [if_pos hc]
    exact fIf_f et rfl
  · rw [decide_eq_false hc] at et
    rw [if_neg hc]
    refine fIf_t et ?_
    have hs := PyProof.Rows.split_le z (Str.ofString "\n")
    have ef : fAny (fBM "str" (fun x => lisO (fSplit x)) (fVar 9) (fCons (fC (.str "\n")) fNil)) [o0, o1, o2, o3, o4, o5, o6, o7, o8, some (.str z), o10, o11, o12, o13, o14, o15, o16, o17, o18, o19] S = .ok (.of ((Txt.split z "\n").map .str)) S := by
      unfold fAny
      rw [fBM_ok (S1 := S) (S2 := S) (x := .str z) (fVar_ok rfl) rfl (fOne_ok fC_ok) (split_ev rfl (by omega))]
      rfl
    have := fLc_pure (s := .of ((Txt.split z "\n").map .str)) (p := .nm 13) (fe := fCall 1 (pur lRowR) (fCons (fVar 13) fNil)) (vs := [13]) (h := rowO) ef rfl (by show ((Txt.split z "\n").map DL.D.str).length ≤ _; rw [List.length_map]; omega) (fun x hx => by
      have hx : x ∈ (Txt.split z (Str.ofString "\n")).map DL.D.str := hx
      obtain ⟨r, hr, rfl⟩ := List.mem_map.mp hx
      refine ⟨[o0, o1, o2, o3, o4, o5, o6, o7, o8, some (.str z), o10, o11, o12, some (.str r), o14, o15, o16, o17, o18, o19], rfl, fCall_ok (fOne_ok (fVar_ok rfl)) rfl ?_⟩
      rw [pur_eq, lrow_eq (by have := part_len hr; omega) (by rw [nl_eq] at hr; exact split_all hg r hr)]
      rfl)
    rw [this]
    show Out.ok (DL.D.lis (((Txt.split z (Str.ofString "\n")).map DL.D.str).map rowO)) S = Out.ok (DL.D.lis (((Txt.split z (Str.ofString "\n")).map rowV).map ovD)) S
    rw [List.map_map, List.map_map]
    rfl
def dueD (z : Str) : DL.D := match fstN (valsT z) with
  | none => .lis ((valsT z).map ovD)
  | some j => .tup [.str "refused", .str "text", .int (j : Nat)]
theorem ev_due {δ : DEnv} {S : Sto} {z : Str} (e12 : δ[12]? = some (some (.lis ((valsT z).map ovD)))) :
    fIf (tst (fBin (gIn false) (fC .non) (fVar 12))) (fTup (fCons (fC (.str "refused")) (fCons (fC (.str "text")) (fCons (fBM "list" gIndex (fVar 12) (fCons (fC .non) fNil)) fNil)))) (fVar 12) δ S = .ok (dueD z) S := by
  have big : (100 : Nat) ≤ sizeLine := by decide
  have hv : ∀ e, some e ∈ valsT z → EntOk e := fun e he => valsT_ok he
  have et : tst (fBin (gIn false) (fC .non) (fVar 12)) δ S = .ok (fstN (valsT z)).isSome S := tst_ok (fBin_ok (S1 := S) (S2 := S) fC_ok (fVar_ok e12) (in_ov hv))
  unfold dueD
  cases ef : fstN (valsT z) with
  | none =>
    rw [ef] at et
    exact fIf_f et (fVar_ok e12)
  | some j =>
    rw [ef] at et
    exact fIf_t et (fTup_ok (fThree_ok (S1 := S) (S2 := S) (S3 := S) fC_ok fC_ok (fBM_ok (S1 := S) (S2 := S) (fVar_ok e12) rfl (fOne_ok fC_ok) (index_ov hv ef))) (by show 3 ≤ sizeLine; omega))
theorem pl_due {z : Str} (hz : z.length ≤ 900000) (hs : (valsT z).length ≤ 100000) : Pl 5 (dueD z) := by
  unfold dueD
  cases ef : fstN (valsT z) with
  | none =>
    obtain ⟨es, e⟩ := fstN_none ef
    have he : ∀ x ∈ es, EntOk x := fun x hx => valsT_ok (z := z) (by rw [e]; exact List.mem_map.mpr ⟨x, hx, rfl⟩)
    show Pl 5 (.lis ((valsT z).map ovD))
    rw [e] at hs ⊢
    rw [ents_map]
    exact pl_ents (m := 1) he (by rw [List.length_map] at hs; exact hs)
  | some j =>
    refine .tup (fun x hx => ?_) (by show 3 ≤ 100000; omega)
    simp only [List.mem_cons, List.mem_nil_iff, or_false] at hx
    rcases hx with rfl | rfl | rfl
    · exact .str
    · exact .str
    · exact .int
def TabI (P : Addr) (S : Sto) : Prop := ∃ cs, S P = some (.tab cs) ∧ ∀ c ∈ cs, S c = some (.code LL0.qual)
def Iv (P a : Addr) (S : Sto) : Prop := Dc S a ∧ TabI P S
theorem Iv.less {P a : Addr} {S S' : Sto} (h : Iv P a S) (l : Less S S') : Iv P a S' := by
  obtain ⟨⟨ns, i, m, r, e, hi⟩, cs, e1, e2⟩ := h
  exact ⟨⟨ns, i, m, r, l _ _ e, hi⟩, cs, l _ _ e1, fun c hc => l _ _ (e2 c hc)⟩
theorem Iv.off {P a : Addr} {S S' : Sto} (h : Iv P a S) (d : Dc S' a) (o : Off a S S') : Iv P a S' := by
  obtain ⟨⟨ns, i, m, r, e, hi⟩, cs, e1, e2⟩ := h
  refine ⟨d, cs, ?_, fun c hc => ?_⟩
  · rw [o P fun z => by rw [z, e] at e1; cases e1]; exact e1
  · rw [o c fun z => by have := e2 c hc; rw [z, e] at this; cases this]; exact e2 c hc
theorem Iv.lam {P a : Addr} {S : Sto} {cs : List Addr} {f c' : Addr} {F : FnB} (d : Dc S a) (eP : S P = some (.tab cs)) (ec : ∀ c ∈ cs, S c = some (.code LL0.qual)) (nf : S f = none) (hc : c' ∈ cs ∨ S c' = none) (ne : c' ≠ f) :
    Iv P a (lamSto S P cs c' LL0.qual f F) ∧ lamSto S P cs c' LL0.qual f F f = some (.fn F) ∧ lamSto S P cs c' LL0.qual f F c' = some (.code LL0.qual) := by
  obtain ⟨ns, i, m, r, e, hi⟩ := d
  have hP : P ≠ f := fun z => by rw [z, nf] at eP; cases eP
  have hPc : P ≠ c' := fun z => by
    rcases hc with h | h
    · have := ec c' h; rw [← z, eP] at this; cases this
    · rw [← z, eP] at h; cases h
  have ha : a ≠ f := fun z => by rw [z, nf] at e; cases e
  have haP : a ≠ P := fun z => by rw [z, eP] at e; cases e
  have hac : a ≠ c' := fun z => by
    rcases hc with h | h
    · have := ec c' h; rw [← z, e] at this; cases this
    · rw [← z, e] at h; cases h
  unfold lamSto
  refine ⟨⟨⟨ns, i, m, r, by rw [sup_ne ha, sup_ne hac, sup_ne haP]; exact e, hi⟩, c' :: cs, by rw [sup_ne hP, sup_ne hPc, sup_same], fun c h => ?_⟩, sup_same, by rw [sup_ne ne, sup_same]⟩
  by_cases hcc : c = c'
  · subst hcc
    rw [sup_ne ne, sup_same]
  · have h1 := ec c ((List.mem_cons.mp h).resolve_left hcc)
    have n1 : c ≠ f := fun z => by rw [z, nf] at h1; cases h1
    have n2 : c ≠ P := fun z => by rw [z, eP] at h1; cases h1
    rw [sup_ne n1, sup_ne hcc, sup_ne n2]
    exact h1
theorem back_less {S1 : Sto} {c0 : Addr} {o : DO} {T : Sto} (n0 : S1 c0 = none) (l : Less (hidS [c0] (sup S1 c0 o)) T) : Less S1 (uad [c0] (bckS [c0] (sup S1 c0 o) T)) := fun b u e => by
  have hb : b ≠ c0 := fun z => by rw [z, n0] at e; cases e
  have hm : b ∉ [c0] := fun z => hb (List.mem_singleton.mp z)
  unfold uad bckS
  rw [if_neg hm, if_neg hm]
  refine l b u ?_
  unfold hidS
  rw [if_neg hm, sup_ne hb]
  exact e
theorem dlS_less {S S' : Sto} {p : Addr} (l : Less S S') (n : S p = none) : Less S (dlS S' p) := fun b u e => by
  unfold dlS
  rw [if_neg fun z => by rw [z, n] at e; cases e]
  exact l b u e
theorem clo0 (cells : List (Str × Addr)) : cloFrom cells LL0.scope.names [] = [(Str.ofString "_law_text", (cells.lookup (Str.ofString "_law_text")).getD 0)] := rfl
theorem clo1 (cells : List (Str × Addr)) : cloFrom cells LL1.scope.names [] = [(Str.ofString "_law_worse", (cells.lookup (Str.ofString "_law_worse")).getD 0)] := rfl
section
variable {Pr : Program} {w : World} {K : PySem.W.Frag} {mg : Str → Option Value} {base : Heap} {k : Nat} {cells : List (Str × Addr)} {wx : WD} {P a C C1 C2 : Addr} {δ : DEnv} {S : Sto} {Q : DK}
theorem told0 {z : Str} (I : Iv P a S) (hd : δ[9]? = some (some (.str z))) (hz : z.length ≤ 900000) (FL : FnL Pr w K mg base k LL0 [] ["_law_text"] (spRead (He.ga K "BadText"))) (hQ : ∀ S', Iv P a S' → Q (dueD z) S') :
    dFrz (dCallC cells [("_law_text", 9)] (spTold Pr w K mg base k) wx (dCons (dLam P LL0 cells) dNil)) δ S Q := by
  have big : (1000000 : Nat) ≤ sizeLine := by decide
  obtain ⟨dc, cs, eP, ec⟩ := I
  refine ⟨cs, eP, ec, fun f c' dfl nf hc' ne => ?_⟩
  obtain ⟨I1, ef, ec'⟩ := Iv.lam (F := ⟨LL0, cloFrom cells LL0.scope.names [], c', dfl⟩) dc eP ec nf hc' ne
  generalize lamSto S P cs c' LL0.qual f ⟨LL0, cloFrom cells LL0.scope.names [], c', dfl⟩ = S1 at I1 ef ec'
  show ∃ vals, capV δ [("_law_text", 9)] = some vals ∧ _
  refine ⟨[.str z], by simp [capV, hd], fun nd fr => ?_⟩
  have ecap : capC cells [("_law_text", 9)] = [(cells.lookup (Str.ofString "_law_text")).getD 0] := rfl
  rw [ecap] at fr ⊢
  generalize hc0 : (cells.lookup (Str.ofString "_law_text")).getD 0 = c0 at fr ⊢
  have n0 : S1 c0 = none := fr c0 (List.mem_singleton.mpr rfl)
  have nfc : f ≠ c0 := fun z => by rw [z, n0] at ef; cases ef
  have ncc : c' ≠ c0 := fun z => by rw [z, n0] at ec'; cases ec'
  show spTold Pr w K mg base k [.ref f] (sup S1 c0 (.cell (.str z))) _ _
  have eclo : (FnB.mk LL0 (cloFrom cells LL0.scope.names []) c' dfl).clo = [(Str.ofString "_law_text", c0)] := by
    show cloFrom cells LL0.scope.names [] = _
    rw [clo0, hc0]
  refine ⟨f, ⟨LL0, cloFrom cells LL0.scope.names [], c', dfl⟩, [], ["_law_text"], spRead (He.ga K "BadText"), [.str z], rfl, by rw [sup_ne nfc]; exact ef, by rw [sup_ne ncc]; exact ec', FL, ?_, ?_, ?_⟩
  · rw [eclo]
    simp [capsD, sup_same]
  · rw [eclo]
    intro c hc
    have hc : c ∈ [c0] := hc
    rw [List.mem_singleton.mp hc]
    exact ⟨_, sup_same⟩
  · rw [eclo]
    show spRead (He.ga K "BadText") [.str z] (hidS [c0] (sup S1 c0 (.cell (.str z)))) _ _
    refine ⟨rfl, by omega, by have := PyProof.Rows.split_le z (Str.ofString "\n"); omega, ?_⟩
    rw [read_eq hz]
    unfold dueD at hQ
    cases efn : fstN (valsT z) with
    | none =>
      rw [efn] at hQ
      intro p hp hn
      show frzK Q (.ref p) (uad [c0] (bckS [c0] (sup S1 c0 (.cell (.str z))) (sup (hidS [c0] (sup S1 c0 (.cell (.str z)))) p (.lst ((valsT z).map ovD)))))
      have hpc : p ≠ c0 := fun q => by
        have := hn c0 (List.mem_singleton.mpr rfl)
        rw [← q, sup_same] at this
        cases this
      have l := back_less (o := .cell (.str z)) n0 (T := sup (hidS [c0] (sup S1 c0 (.cell (.str z)))) p (.lst ((valsT z).map ovD))) (Less.refl.sup hp)
      have np : S1 p = none := by
        unfold hidS at hp
        rw [if_neg fun q => hpc (List.mem_singleton.mp q), sup_ne hpc] at hp
        exact hp
      have e1 : uad [c0] (bckS [c0] (sup S1 c0 (.cell (.str z))) (sup (hidS [c0] (sup S1 c0 (.cell (.str z)))) p (.lst ((valsT z).map ovD)))) p = some (.lst ((valsT z).map ovD)) := by
        unfold uad bckS
        rw [if_neg fun q => hpc (List.mem_singleton.mp q), if_neg fun q => hpc (List.mem_singleton.mp q), sup_same]
      unfold frzK
      dsimp only
      rw [e1]
      exact hQ _ (I1.less (dlS_less l np))
    | some j =>
      rw [efn] at hQ
      intro dd hdd hn
      refine ⟨.tup [.str "refused", .str "text", .int (j : Nat)], ⟨("BadText", "text", some "row"), by simp [errW], rfl, ⟨_, sup_same⟩, ?_⟩, ?_⟩
      · unfold toldV
        dsimp only
        rw [sup_same]
        rfl
      · exact hQ _ (I1.less (back_less (o := .cell (.str z)) n0 (Less.refl.sup hdd)))
theorem told1 {y : DL.D} {wd : Str × Str} (I : Iv P a S) (hd : δ[19]? = some (some y)) (FL : FnL Pr w K mg base k LL1 ["_law_a"] ["_law_worse"] (spLam1 C1 C2)) (hw : (wd.1, wd.2, (none : Option Str)) ∈ errW) (hy : writtenR C1 C2 [y] = .er (.ref (He.ga K wd.1), none)) (hQ : ∀ S', Iv P a S' → Q (.tup [.str "refused", .str wd.2]) S') :
    dCallC cells [("_law_worse", 19)] (spTold Pr w K mg base k) wx (dCons (dLam P LL1 cells) dNil) δ S Q := by
  obtain ⟨dc, cs, eP, ec⟩ := I
  refine ⟨cs, eP, ec, fun f c' dfl nf hc' ne => ?_⟩
  obtain ⟨I1, ef, ec'⟩ := Iv.lam (F := ⟨LL1, cloFrom cells LL1.scope.names [], c', dfl⟩) dc eP ec nf hc' ne
  have eS : lamSto S P cs c' LL1.qual f ⟨LL1, cloFrom cells LL1.scope.names [], c', dfl⟩ = lamSto S P cs c' LL0.qual f ⟨LL1, cloFrom cells LL1.scope.names [], c', dfl⟩ := rfl
  rw [eS]
  generalize lamSto S P cs c' LL0.qual f ⟨LL1, cloFrom cells LL1.scope.names [], c', dfl⟩ = S1 at I1 ef ec'
  show ∃ vals, capV δ [("_law_worse", 19)] = some vals ∧ _
  refine ⟨[y], by simp [capV, hd], fun nd fr => ?_⟩
  have ecap : capC cells [("_law_worse", 19)] = [(cells.lookup (Str.ofString "_law_worse")).getD 0] := rfl
  rw [ecap] at fr ⊢
  generalize hc0 : (cells.lookup (Str.ofString "_law_worse")).getD 0 = c0 at fr ⊢
  have n0 : S1 c0 = none := fr c0 (List.mem_singleton.mpr rfl)
  have nfc : f ≠ c0 := fun z => by rw [z, n0] at ef; cases ef
  have ncc : c' ≠ c0 := fun z => by rw [z, n0] at ec'; cases ec'
  show spTold Pr w K mg base k [.ref f] (sup S1 c0 (.cell y)) _ _
  have eclo : (FnB.mk LL1 (cloFrom cells LL1.scope.names []) c' dfl).clo = [(Str.ofString "_law_worse", c0)] := by
    show cloFrom cells LL1.scope.names [] = _
    rw [clo1, hc0]
  refine ⟨f, ⟨LL1, cloFrom cells LL1.scope.names [], c', dfl⟩, ["_law_a"], ["_law_worse"], spLam1 C1 C2, [y], rfl, by rw [sup_ne nfc]; exact ef, by rw [sup_ne ncc]; exact ec', FL, ?_, ?_, ?_⟩
  · rw [eclo]
    simp [capsD, sup_same]
  · rw [eclo]
    intro c hc
    have hc : c ∈ [c0] := hc
    rw [List.mem_singleton.mp hc]
    exact ⟨_, sup_same⟩
  · rw [eclo]
    refine ⟨y, rfl, rfl, ?_⟩
    rw [pur_eq, hy]
    intro hn
    refine ⟨.tup [.str "refused", .str wd.2], ⟨(wd.1, wd.2, none), hw, rfl, trivial, rfl⟩, ?_⟩
    exact hQ _ (I1.less (back_less (o := .cell y) n0 Less.refl))
end
end Hb
set_option maxRecDepth 100000
set_option maxHeartbeats 2000000
namespace Hb
open PySem L2 DL
theorem Iv.sup {P a q : Addr} {S : Sto} {l l' : List DL.D} (h : Iv P a S) (hq : S q = some (.lst l)) (ne : a ≠ q) : Iv P a (sup S q (.lst l')) := by
  obtain ⟨⟨ns, i, m, r, e, hi⟩, cs, e1, e2⟩ := h
  refine ⟨⟨ns, i, m, r, by rw [sup_ne ne]; exact e, hi⟩, cs, ?_, fun c hc => ?_⟩
  · rw [sup_ne fun z => by rw [z, hq] at e1; cases e1]; exact e1
  · rw [sup_ne fun z => by have := e2 c hc; rw [z, hq] at this; cases this]; exact e2 c hc
theorem Iv.dl {P a q : Addr} {S : Sto} {l : List DL.D} (h : Iv P a S) (hq : S q = some (.lst l)) (ne : a ≠ q) : Iv P a (dlS S q) := by
  obtain ⟨⟨ns, i, m, r, e, hi⟩, cs, e1, e2⟩ := h
  refine ⟨⟨ns, i, m, r, by unfold dlS; rw [if_neg ne]; exact e, hi⟩, cs, ?_, fun c hc => ?_⟩
  · unfold dlS; rw [if_neg fun z => by rw [z, hq] at e1; cases e1]; exact e1
  · unfold dlS; rw [if_neg fun z => by have := e2 c hc; rw [z, hq] at this; cases this]; exact e2 c hc
section
variable {w wx : WD} {D1 : DEnds} {v u : TDS} {S : Sto} {P a q : Addr}
theorem stm_labels {δ : DEnv} (I : Iv P a S) (e1 : δ[1]? = some (some (.ref a))) (hv : ∀ (ls : List Str) S', (∀ x ∈ ls, Lbl x) → 0 < ls.length → ls.length ≤ 8 → Iv P a S' → v D1 (δ.set 3 (some (.lis (ls.map .str)))) S') :
    sSeq (sAsg (dFrz (dCall spLabels wx (upAs w (fCons (fVar 1) fNil)))) (gN 3)) v D1 δ S := by
  show fin (fCons (fVar 1) fNil δ S) _ _
  rw [fOne_ok (fVar_ok e1), fin_ok]
  refine ⟨a, rfl, I.1, fun ns S' p h1 h2 h3 d o hp => ?_⟩
  simp only [frzK, sup_same]
  rw [dlS_sup hp]
  exact hv ns S' h1 (List.length_pos_iff.mpr h2) h3 (I.off d o)
theorem stm_entries {o0 o2 o5 o6 o7 o8 o9 o10 o11 o12 o13 o14 o15 o16 o17 o18 o19 : Option DL.D} {ls : List Str} (I : Iv P a S) (hq : S q = some (.lst [])) (ne : a ≠ q) (hl : ∀ x ∈ ls, Lbl x) (l1 : 0 < ls.length) (l2 : ls.length ≤ 8)
    (hv : ∀ (es : List Ent) S' (o5 : Option DL.D), (∀ e ∈ es, EntOk e) → es.length ≤ 11 → Iv P a S' → v D1 [o0, some (.ref a), o2, some (.lis (ls.map .str)), some (.lis (es.map entD)), o5, o6, o7, o8, o9, o10, o11, o12, o13, o14, o15, o16, o17, o18, o19] S') :
    sSeq (sFrzAt 4 (sFor (upI' w (fR1 (fCons (fCall 2 gNext (fCons (fVar 1) (fCons (fC (.int 12)) fNil))) fNil))) (.nm 5) (sDrop (dBM "list" (fun x => rAppendD x) (upF w (fVar 4)) (upAs w (fCons (fTup (fCons (fCall 2 gName (fCons (fVar 1) (fCons (fVar 3) fNil))) (fCons (DL.fSub (fLst (fCons (fC (.int 0)) (fCons (fC (.int 999)) (fCons (fCall 2 gNext (fCons (fVar 1) (fCons (fC (.int 1000)) fNil))) fNil)))) (fCall 2 gNext (fCons (fVar 1) (fCons (fC (.int 3)) fNil)))) fNil))) fNil)))))) v D1 [o0, some (.ref a), o2, some (.lis (ls.map .str)), some (.ref q), o5, o6, o7, o8, o9, o10, o11, o12, o13, o14, o15, o16, o17, o18, o19] S := by
  have big : (1000 : Nat) ≤ sizeLine := by decide
  obtain ⟨n, S1, e1, n1, d1, o1⟩ := ev_next (δ := [o0, some (.ref a), o2, some (.lis (ls.map .str)), some (.ref q), o5, o6, o7, o8, o9, o10, o11, o12, o13, o14, o15, o16, o17, o18, o19]) (S := S) (i := 1) (fn := fC (.int 12)) (n := 12) rfl fC_ok I.1 (by decide) (by decide)
  show fin (fR1 _ _ _) _ _
  rw [fR1_ok (fOne_ok e1) (by omega) (by omega), Int.toNat_natCast]
  show dLoop (fun S => (SrcF.of (rngD 0 n)).ck S = true) (.nm 5) _ _ (rngD 0 n) [o0, some (.ref a), o2, some (.lis (ls.map .str)), some (.ref q), o5, o6, o7, o8, o9, o10, o11, o12, o13, o14, o15, o16, o17, o18, o19] S1
  suffices go : ∀ (xs : List DL.D) (acc : List Ent) (o5 : Option DL.D) (S' : Sto), S' q = some (.lst (acc.map entD)) → (∀ e ∈ acc, EntOk e) → acc.length + xs.length ≤ 11 → Iv P a S' →
      dLoop (fun S => (SrcF.of (rngD 0 n)).ck S = true) (.nm 5) _ { D1 with nx := frzAt 4 (v D1) } xs [o0, some (.ref a), o2, some (.lis (ls.map .str)), some (.ref q), o5, o6, o7, o8, o9, o10, o11, o12, o13, o14, o15, o16, o17, o18, o19] S' from
    go (rngD 0 n) [] o5 S1 (by rw [o1 q (Ne.symm ne), hq]; rfl) (fun e he => by cases he) (by
      unfold rngD
      rw [List.length_map, List.length_range]
      show 0 + n ≤ 11
      omega) (I.off d1 o1)
  intro xs
  induction xs with
  | nil =>
    intro acc o5 S' h1 h2 h3 h4
    refine ⟨rfl, ?_⟩
    show frzAt 4 (v D1) [o0, some (.ref a), o2, some (.lis (ls.map .str)), some (.ref q), o5, o6, o7, o8, o9, o10, o11, o12, o13, o14, o15, o16, o17, o18, o19] S'
    unfold frzAt
    show (match S' q with
      | some (.lst xs) => v D1 [o0, some (.ref a), o2, some (.lis (ls.map .str)), some (.lis xs), o5, o6, o7, o8, o9, o10, o11, o12, o13, o14, o15, o16, o17, o18, o19] (dlS S' q)
      | _ => v D1 [o0, some (.ref a), o2, some (.lis (ls.map .str)), some (.ref q), o5, o6, o7, o8, o9, o10, o11, o12, o13, o14, o15, o16, o17, o18, o19] S')
    rw [h1]
    exact hv acc _ _ h2 (by simp at h3; exact h3) (h4.dl h1 ne)
  | cons x xs ih =>
    intro acc o5 S' h1 h2 h3 h4
    refine ⟨rfl, ?_⟩
    rw [List.length_cons] at h3
    obtain ⟨e, S2, ee, he, d2, off2⟩ := ev_ent (δ := [o0, some (.ref a), o2, some (.lis (ls.map .str)), some (.ref q), some x, o6, o7, o8, o9, o10, o11, o12, o13, o14, o15, o16, o17, o18, o19]) (S := S') rfl rfl h4.1 l1 (by omega) hl
    show sDrop _ _ [o0, some (.ref a), o2, some (.lis (ls.map .str)), some (.ref q), some x, o6, o7, o8, o9, o10, o11, o12, o13, o14, o15, o16, o17, o18, o19] S'
    show tyM S' (.ref q) = some "list" ∧ fin (fCons _ fNil [o0, some (.ref a), o2, some (.lis (ls.map .str)), some (.ref q), some x, o6, o7, o8, o9, o10, o11, o12, o13, o14, o15, o16, o17, o18, o19] S') _ _
    refine ⟨by simp only [tyM, h1], ?_⟩
    rw [fOne_ok ee, fin_ok]
    have hq2 : S2 q = some (.lst (acc.map entD)) := by rw [off2 q (Ne.symm ne)]; exact h1
    unfold rAppendD
    dsimp only
    rw [hq2]
    refine ⟨by rw [List.length_map]; omega, ?_⟩
    exact ih (acc ++ [e]) (some x) _ (by rw [sup_same, List.map_append]; rfl) (fun y hy => (List.mem_append.mp hy).elim (h2 y) fun z => by rw [List.mem_singleton.mp z]; exact he) (by rw [List.length_append, List.length_singleton]; omega) ((h4.off d2 off2).sup hq2 ne)
theorem stm_spoil {δ : DEnv} {es : List Ent} {C : Addr} (h : ∀ e ∈ es, EntOk e) (l : es.length ≤ 1000) (e9 : δ[9]? = some (some (.str (textS es)))) (I : Iv P a S) (hv : ∀ S', Iv P a S' → v D1 δ S') :
    sSeq (sDrop (dBM "list" (fun x => rAppendD x) (dCall (spRead C) wx (upAs w (fCons (fVar 9) fNil))) (upAs w (fCons (fC (.int 0)) fNil)))) v D1 δ S := by
  have big : (1000000 : Nat) ≤ sizeLine := by decide
  have ht := text_len h
  show fin (fCons (fVar 9) fNil δ S) _ _
  rw [fOne_ok (fVar_ok e9), fin_ok]
  refine ⟨rfl, by omega, by have := PyProof.Rows.split_le (textS es) (Str.ofString "\n"); omega, ?_⟩
  rw [read_eq (by omega), vals_text h, fstN_some]
  intro p hp
  refine ⟨by simp only [tyM, sup_same], ?_⟩
  show fin (fCons (fC (.int 0)) fNil δ (DL.sup S p (.lst ((es.map some).map ovD)))) _ _
  rw [fOne_ok fC_ok, fin_ok]
  unfold rAppendD
  dsimp only
  rw [sup_same]
  refine ⟨by rw [List.length_map, List.length_map]; omega, ?_⟩
  rw [sup_sup]
  exact hv _ (I.less (Less.refl.sup hp))
def cB : Nat → Nat
  | 0 => 20000
  | 1 => 4990
  | 2 => 1237
  | _ => 299
theorem stm_change {o0 o2 o3 o4 o5 o6 o7 o8 o10 o11 o12 o13 o14 o15 o16 o17 o18 o19 : Option DL.D} {z : Str} (I : Iv P a S) (hz : z.length ≤ 299) (hg : Gd z)
    (hv : ∀ (z' : Str) S' (o11 : Option DL.D), z'.length ≤ 20000 → Gd z' → Iv P a S' → v D1 [o0, some (.ref a), o2, o3, o4, o5, o6, o7, o8, some (.str z'), o10, o11, o12, o13, o14, o15, o16, o17, o18, o19] S') :
    sSeq (sFor (upI' w (fR1 (fCons (fCall 2 gNext (fCons (fVar 1) (fCons (fC (.int 4)) fNil))) fNil))) (.nm 11) (sAsg (dCall spChanged wx (upAs w (fCons (fVar 1) (fCons (fVar 9) fNil)))) (gN 9))) v D1 [o0, some (.ref a), o2, o3, o4, o5, o6, o7, o8, some (.str z), o10, o11, o12, o13, o14, o15, o16, o17, o18, o19] S := by
  obtain ⟨n, S1, e1, n1, d1, o1⟩ := ev_next (δ := [o0, some (.ref a), o2, o3, o4, o5, o6, o7, o8, some (.str z), o10, o11, o12, o13, o14, o15, o16, o17, o18, o19]) (S := S) (i := 1) (fn := fC (.int 4)) (n := 4) rfl fC_ok I.1 (by decide) (by decide)
  show fin (fR1 _ _ _) _ _
  rw [fR1_ok (fOne_ok e1) (by omega) (by omega), Int.toNat_natCast]
  show dLoop (fun S => (SrcF.of (rngD 0 n)).ck S = true) (.nm 11) _ _ (rngD 0 n) [o0, some (.ref a), o2, o3, o4, o5, o6, o7, o8, some (.str z), o10, o11, o12, o13, o14, o15, o16, o17, o18, o19] S1
  suffices go : ∀ (xs : List DL.D) (z : Str) (o11 : Option DL.D) (S' : Sto), xs.length ≤ 3 → z.length ≤ cB xs.length → Gd z → Iv P a S' →
      dLoop (fun S => (SrcF.of (rngD 0 n)).ck S = true) (.nm 11) _ { D1 with nx := v D1 } xs [o0, some (.ref a), o2, o3, o4, o5, o6, o7, o8, some (.str z), o10, o11, o12, o13, o14, o15, o16, o17, o18, o19] S' from by
    have hn : (rngD 0 n).length = n := by unfold rngD; rw [List.length_map, List.length_range]
    refine go (rngD 0 n) z o11 S1 (by omega) ?_ hg (I.off d1 o1)
    rw [hn]
    have : n = 0 ∨ n = 1 ∨ n = 2 ∨ n = 3 := by omega
    rcases this with rfl | rfl | rfl | rfl <;> simp only [cB] <;> omega
  intro xs
  induction xs with
  | nil =>
    intro z o11 S' h0 h1 h2 h3
    exact ⟨rfl, hv z S' o11 h1 h2 h3⟩
  | cons x xs ih =>
    intro z o11 S' h0 h1 h2 h3
    refine ⟨rfl, ?_⟩
    rw [List.length_cons] at h0 h1
    have hc : 4 * cB (xs.length + 1) + 40 ≤ cB xs.length ∧ cB (xs.length + 1) ≤ 100000 := by
      have : xs.length = 0 ∨ xs.length = 1 ∨ xs.length = 2 := by omega
      rcases this with e | e | e <;> rw [e] <;> simp [cB]
    show sAsg _ _ _ [o0, some (.ref a), o2, o3, o4, o5, o6, o7, o8, some (.str z), o10, some x, o12, o13, o14, o15, o16, o17, o18, o19] S'
    unfold sAsg dCall upAs
    dsimp only
    rw [fTwo_ok (S1 := S') (S2 := S') (fVar_ok rfl) (fVar_ok rfl), fin_ok]
    refine ⟨a, z, rfl, h3.1, by omega, h2, fun z' S2 k1 k2 k3 k4 => ?_⟩
    exact ih z' (some x) S2 (by omega) (by omega) k2 (h3.off k3 k4)
theorem stm_told0 {δ : DEnv} {z : Str} {te : TDE} (hz : z.length ≤ 20000) (e9 : δ[9]? = some (some (.str z))) (e14 : δ[14]? = some (some (dueD z))) (I : Iv P a S) (ht : ∀ Q : DK, (∀ S', Iv P a S' → Q (dueD z) S') → te δ S Q) (hv : ∀ S', Iv P a S' → v D1 δ S') :
    sSeq (sIf (dAnd (upB w (tst (fBin (fOrd (fun i j => decide (i ≤ j)) fun i j => !DL.ltS j i) (fCB gLen (fCons (fVar 9) fNil)) (fC (.int 600))))) (dNot (dTB (dCall (spO 2 (pur (likeN 5))) wx (dCons te (dCons (upF w (fVar 14)) dNil)))))) u sNext) v D1 δ S := by
  have big : (1000000 : Nat) ≤ sizeLine := by decide
  have hs : (valsT z).length ≤ 100000 := by
    unfold valsT
    split
    · exact Nat.zero_le _
    · rw [List.length_map]
      have := PyProof.Rows.split_le z (Str.ofString "\n")
      omega
  have el : gLen [.str z] S = some (.int (z.length : Nat)) := by
    show (lenD S (.str z)).map _ = _
    simp only [lenD]
    rw [if_pos (by omega)]
    rfl
  have et : tst (fBin (fOrd (fun i j => decide (i ≤ j)) fun i j => !DL.ltS j i) (fCB gLen (fCons (fVar 9) fNil)) (fC (.int 600))) δ S = .ok (decide ((z.length : Int) ≤ 600)) S := tst_ok (fBin_ok (S1 := S) (S2 := S) (fCB_ok (S1 := S) (fOne_ok (fVar_ok e9)) el) fC_ok rfl)
  show fin (tst _ δ S) _ _
  rw [et, fin_ok]
  by_cases c : (z.length : Int) ≤ 600
  · rw [decide_eq_true c, if_pos rfl]
    refine ht _ fun S' I' => ?_
    show fin (fVar 14 δ S') _ _
    rw [fVar_ok e14, fin_ok]
    refine ⟨rfl, ?_⟩
    rw [pur_eq, like_refl (pl_due (by omega) hs)]
    exact hv S' I'
  · rw [decide_eq_false c]
    exact hv S I
theorem eqd_refused {x y : Str} {S : Sto} {Q : DK} (h1 : PyData.strOk x = true) (h2 : PyData.strOk y = true) (hQ : Q (.bl false) S) : rEqD' true (.tup [.str x, .str y]) (.tup [.str x, .str y]) S Q := by
  have e : dataD S (.tup [.str x, .str y]) = some (.tuple [.str x, .str y]) := by simp [dataD, pd, pds]
  have hs : SeqAt.shaped (.tuple [.str x, .str y]) = true := by simp [SeqAt.shaped, PyData.canLay0, PyData.canLayAll0, PyData.depth, PyData.depthAll, h1, h2]
  show (match dataD S (.tup [.str x, .str y]), dataD S (.tup [.str x, .str y]) with
    | some a, some b => SeqAt.shaped a = true ∧ SeqAt.shaped b = true ∧ Q (.bl (if true = true then !PyData.eqv a b else PyData.eqv a b)) S
    | _, _ => False)
  rw [e]
  refine ⟨hs, hs, ?_⟩
  rw [if_pos rfl, PySem.SeqAt.eqv_refl _ (SeqAt.canLay_of_shaped hs)]
  exact hQ
theorem stm_told1 {δ : DEnv} {wd : Str} {te : TDE} (hw : PyData.strOk wd = true) (e18 : δ[18]? = some (some (.str wd))) (ht : ∀ Q : DK, (∀ S', Iv P a S' → Q (.tup [.str "refused", .str wd]) S') → te δ S Q) (hv : ∀ S', Iv P a S' → D1.nx δ S') :
    sIf (dTB (dBin (rEqD' true) te (upF w (fTup (fCons (fC (.str "refused")) (fCons (fVar 18) fNil)))))) u sNext D1 δ S := by
  have big : (100 : Nat) ≤ sizeLine := by decide
  refine ht _ fun S' I' => ?_
  show fin (fTup _ δ S') _ _
  rw [fTup_ok (fTwo_ok (S1 := S') (S2 := S') fC_ok (fVar_ok e18)) (by show 2 ≤ sizeLine; omega), fin_ok]
  exact eqd_refused (by decide +kernel) hw (hv S' I')
end
theorem ev_worse {δ : DEnv} {S : Sto} {es : List Ent} {k : Nat} {y : DL.D} (l : es.length ≤ 1000) (e4 : δ[4]? = some (some (.lis (es.map entD)))) (e15 : δ[15]? = some (some (.int (k : Nat)))) (e17 : δ[17]? = some (some y)) :
    fBin gAdd (fBin gAdd (fBin gAdd (fSl (fVar 4) fNoEnd (fEnd (fVar 15))) (fLst (fCons (fVar 17) fNil))) (fSl (fVar 4) (fEnd (fVar 15)) fNoEnd)) (fLst (fCons (fTup (fCons (fTup (fCons (fC (.str "A")) fNil)) (fCons (fNeg (fC (.int 1))) fNil))) fNil)) δ S = .ok (.lis ((es.map entD).take k ++ y :: ((es.map entD).drop k ++ [.tup [.tup [.str "A"], .int (-1)]]))) S := by
  have big : (10000 : Nat) ≤ sizeLine := by decide
  have e : (es.map entD).take k ++ y :: ((es.map entD).drop k ++ [.tup [.tup [.str "A"], .int (-1)]]) = (((es.map entD).take k ++ [y]) ++ (es.map entD).drop k) ++ [.tup [.tup [.str "A"], .int (-1)]] := by simp
  rw [e]
  refine fBin_ok (S1 := S) (S2 := S) (x := .lis (((es.map entD).take k ++ [y]) ++ (es.map entD).drop k)) (y := .lis [.tup [.tup [.str "A"], .int (-1)]]) (fBin_ok (S1 := S) (S2 := S) (x := .lis ((es.map entD).take k ++ [y])) (y := .lis ((es.map entD).drop k)) (fBin_ok (S1 := S) (S2 := S) (x := .lis ((es.map entD).take k)) (y := .lis [y]) (fSl_ok (S1 := S) (S2 := S) (S3 := S) (fVar_ok e4) rfl (fEnd_ok (fVar_ok e15)) ?_) (fLst_ok (fOne_ok (fVar_ok e17)) (by show 1 ≤ sizeLine; omega)) (add_ev ?_)) (fSl_ok (S1 := S) (S2 := S) (S3 := S) (fVar_ok e4) (fEnd_ok (fVar_ok e15)) rfl ?_) (add_ev ?_)) (fLst_ok (fOne_ok (fTup_ok (fTwo_ok (S1 := S) (S2 := S) (fTup_ok (fOne_ok fC_ok) (by show 1 ≤ sizeLine; omega)) (fNeg_ok fC_ok)) (by show 2 ≤ sizeLine; omega))) (by show 1 ≤ sizeLine; omega)) (add_ev ?_)
  · rw [sl_ev, cutD_take]
  · rw [List.length_take, List.length_map]; show _ + 1 ≤ _; omega
  · rw [sl_ev, cutD_drop]
  · rw [List.length_append, List.length_take, List.length_drop, List.length_map]; show _ + 1 + _ ≤ _; omega
  · rw [List.length_append, List.length_append, List.length_take, List.length_drop, List.length_map]; show _ + 1 + _ + 1 ≤ _; omega
end Hb
set_option maxRecDepth 100000
set_option maxHeartbeats 4000000
namespace Hb
open PySem L2 DL
theorem mg_join : MGm fJoin := fun x ds S S' d l e => by
  unfold fJoin at e ⊢
  split at e
  · rename_i y z
    obtain ⟨xs, e1, e2⟩ := Option.bind_eq_some_iff.mp e
    have e3 : itemsD S' z = some xs := by
      cases z with
      | ref r =>
        simp only [itemsD] at e1 ⊢
        cases es : S r with
        | none => rw [es] at e1; cases e1
        | some o => rw [l _ _ es]; rw [es] at e1; exact e1
      | _ => exact e1
    rw [e3]
    exact e2
  · cases e
theorem frF_bms {g : DL.D → List DL.D → Sto → Option DL.D} {fo : FV} {fr : FA} (m : MGm g) (h : FrF fo) (hr : FrF fr) : FrF (fBM "str" g fo fr) := frF_bm m (fun S S' x l e => by
  cases x with
  | ref r =>
    simp only [tyM] at e
    split at e <;> first | (exfalso; revert e; decide) | cases e
  | _ => exact e) h hr
theorem scLaw : FnScope ["_law_script", "_law_d", "_law_turn", "_law_labels_here", "_law_entries", "_law_k", "_law_words", "_law_name_here", "_law_number", "_law_text", "_law_handed", "_law_change", "_law_some", "_law_line", "_law_due", "_law_at", "_law_odd", "_law_bad", "_law_word", "_law_worse"] ["_law_script"] (defScope (top 41)) := ⟨rfl, rfl, rfl, by decide +kernel, rfl, by decide +kernel, by decide +kernel⟩
abbrev caps0 : List (Str × Nat) := [("_law_text", 9)]
abbrev caps1 : List (Str × Nat) := [("_law_worse", 19)]
theorem lfree0 : ∀ y ∈ LL0.scope.names, y.2 = .free → (defScope (top 41)).names.lookup y.1 = some .cell ∨ (defScope (top 41)).names.lookup y.1 = some .free := by decide +kernel
theorem lfree1 : ∀ y ∈ LL1.scope.names, y.2 = .free → (defScope (top 41)).names.lookup y.1 = some .cell ∨ (defScope (top 41)).names.lookup y.1 = some .free := by decide +kernel
theorem lcell0 : (defScope (top 41)).names.lookup (Str.ofString "_law_text") = some .cell := by decide +kernel
theorem lcell1 : (defScope (top 41)).names.lookup (Str.ofString "_law_worse") = some .cell := by decide +kernel
def badT (p : DL.D × Str) : DL.D := .tup [p.1, .str p.2]
def spLawT (P : Addr) (n : Nat) : DSp := fun ds S Q _ => ∃ ns : List Int, ds = [.fro (ns.map .int)] ∧ ns.length ≤ n ∧ S P = some (.tab []) ∧ ∀ S', Q (.bl true) S'
theorem spLawT_mono {P : Addr} {n : Nat} : MonoSp (spLawT P n) := fun ds S Q Q' E E' h _ ⟨ns, e, l, t, q⟩ => ⟨ns, e, l, t, fun S' => h _ _ (q S')⟩
theorem spLawT_len {P : Addr} {n : Nat} : ∀ ds S Q E, spLawT P n ds S Q E → ds.length = 1 := fun ds S Q E ⟨ns, e, _⟩ => by rw [e]; rfl
theorem callS_ok {sp : DSp} {w wx : WD} {fr : FA} {δ : DEnv} {S S1 : Sto} {ds : List DL.D} {i : Nat} {v : TDS} {D1 : DEnds} (e : fr δ S = .ok ds S1) (h : sp ds S1 (fun d S2 => v D1 (δ.set i (some d)) S2) fun c S2 => wx c δ S2) : sSeq (sAsg (dCall sp wx (upAs w fr)) (gN i)) v D1 δ S := by
  unfold sSeq sAsg dCall upAs
  rw [e]
  exact h
theorem for_ok {w : WD} {fi : DEnv → Sto → Out SrcF} {δ : DEnv} {S S1 : Sto} {sr : SrcF} {p : Pat} {tb v : TDS} {D1 : DEnds} (e : fi δ S = .ok sr S1) (h : dLoop (fun S => sr.ck S = true) p tb { D1 with nx := v D1 } sr.items δ S1) : sSeq (sFor (upI' w fi) p tb) v D1 δ S := by
  unfold sSeq sFor upI'
  rw [e]
  exact h
structure Wr (p : Prop) : Prop where
  out : p
section
variable {w wx : WD} {D1 : DEnds} {v u : TDS} {S S1 : Sto} {P a q : Addr} {δ δ' : DEnv} {f : FV} {t : FB} {r : DL.D} {i : Nat}
theorem Wr.asg (e : f δ S = .ok r S1) (hδ : δ.set i (some r) = δ') (h : Wr (v D1 δ' S1)) : Wr (sSeq (sAsg (upF w f) (gN i)) v D1 δ S) := ⟨asg_ok e (by rw [hδ]; exact h.out)⟩
theorem Wr.ifF (e : t δ S = .ok false S1) (h : Wr (v D1 δ S1)) : Wr (sSeq (sIf (upB w t) u sNext) v D1 δ S) := ⟨ifF_ok e h.out⟩
theorem Wr.labels (I : Iv P a S) (e1 : δ[1]? = some (some (.ref a))) {g : List Str → DEnv} (hg : ∀ ls, δ.set 3 (some (.lis (ls.map .str))) = g ls) (hv : ∀ (ls : List Str) S', (∀ x ∈ ls, Lbl x) → 0 < ls.length → ls.length ≤ 8 → Iv P a S' → Wr (v D1 (g ls) S')) :
    Wr (sSeq (sAsg (dFrz (dCall spLabels wx (upAs w (fCons (fVar 1) fNil)))) (gN 3)) v D1 δ S) := ⟨stm_labels I e1 fun ls S' h1 h2 h3 h4 => by rw [hg]; exact (hv ls S' h1 h2 h3 h4).out⟩
theorem Wr.empty {g : Addr → DEnv} (hg : ∀ p, δ.set i (some (.ref p)) = g p) (hv : ∀ p, S p = none → Wr (v D1 (g p) (DL.sup S p (.lst [])))) : Wr (sSeq (sAsg (dLst (upAs w fNil)) (gN i)) v D1 δ S) := ⟨by
  refine ⟨by show 0 ≤ sizeLine; omega, fun p hn => ?_⟩
  have := (hv p hn).out
  rw [← hg] at this
  exact this⟩
theorem Wr.entries {o0 o2 o5 o6 o7 o8 o9 o10 o11 o12 o13 o14 o15 o16 o17 o18 o19 : Option DL.D} {ls : List Str} (I : Iv P a S) (hq : S q = some (.lst [])) (ne : a ≠ q) (hl : ∀ x ∈ ls, Lbl x) (l1 : 0 < ls.length) (l2 : ls.length ≤ 8)
    (hv : ∀ (es : List Ent) S' (o5 : Option DL.D), (∀ e ∈ es, EntOk e) → es.length ≤ 11 → Iv P a S' → Wr (v D1 [o0, some (.ref a), o2, some (.lis (ls.map .str)), some (.lis (es.map entD)), o5, o6, o7, o8, o9, o10, o11, o12, o13, o14, o15, o16, o17, o18, o19] S')) :
    Wr (sSeq (sFrzAt 4 (sFor (upI' w (fR1 (fCons (fCall 2 gNext (fCons (fVar 1) (fCons (fC (.int 12)) fNil))) fNil))) (.nm 5) (sDrop (dBM "list" (fun x => rAppendD x) (upF w (fVar 4)) (upAs w (fCons (fTup (fCons (fCall 2 gName (fCons (fVar 1) (fCons (fVar 3) fNil))) (fCons (DL.fSub (fLst (fCons (fC (.int 0)) (fCons (fC (.int 999)) (fCons (fCall 2 gNext (fCons (fVar 1) (fCons (fC (.int 1000)) fNil))) fNil)))) (fCall 2 gNext (fCons (fVar 1) (fCons (fC (.int 3)) fNil)))) fNil))) fNil)))))) v D1 [o0, some (.ref a), o2, some (.lis (ls.map .str)), some (.ref q), o5, o6, o7, o8, o9, o10, o11, o12, o13, o14, o15, o16, o17, o18, o19] S) :=
  ⟨stm_entries I hq ne hl l1 l2 fun es S' p5 h1 h2 h3 => (hv es S' p5 h1 h2 h3).out⟩
theorem Wr.spoil {es : List Ent} {C : Addr} (h : ∀ e ∈ es, EntOk e) (l : es.length ≤ 1000) (e9 : δ[9]? = some (some (.str (textS es)))) (I : Iv P a S) (hv : ∀ S', Iv P a S' → Wr (v D1 δ S')) :
    Wr (sSeq (sDrop (dBM "list" (fun x => rAppendD x) (dCall (spRead C) wx (upAs w (fCons (fVar 9) fNil))) (upAs w (fCons (fC (.int 0)) fNil)))) v D1 δ S) := ⟨stm_spoil h l e9 I fun S' h => (hv S' h).out⟩
theorem Wr.change {o0 o2 o3 o4 o5 o6 o7 o8 o10 o11 o12 o13 o14 o15 o16 o17 o18 o19 : Option DL.D} {z : Str} (I : Iv P a S) (hz : z.length ≤ 299) (hg : Gd z)
    (hv : ∀ (z' : Str) S' (o11 : Option DL.D), z'.length ≤ 20000 → Gd z' → Iv P a S' → Wr (v D1 [o0, some (.ref a), o2, o3, o4, o5, o6, o7, o8, some (.str z'), o10, o11, o12, o13, o14, o15, o16, o17, o18, o19] S')) :
    Wr (sSeq (sFor (upI' w (fR1 (fCons (fCall 2 gNext (fCons (fVar 1) (fCons (fC (.int 4)) fNil))) fNil))) (.nm 11) (sAsg (dCall spChanged wx (upAs w (fCons (fVar 1) (fCons (fVar 9) fNil)))) (gN 9))) v D1 [o0, some (.ref a), o2, o3, o4, o5, o6, o7, o8, some (.str z), o10, o11, o12, o13, o14, o15, o16, o17, o18, o19] S) := ⟨stm_change I hz hg fun z' S' p h1 h2 h3 => (hv z' S' p h1 h2 h3).out⟩
theorem Wr.told0 {z : Str} {te : TDE} (hz : z.length ≤ 20000) (e9 : δ[9]? = some (some (.str z))) (e14 : δ[14]? = some (some (dueD z))) (I : Iv P a S) (ht : ∀ Q : DK, (∀ S', Iv P a S' → Q (dueD z) S') → te δ S Q) (hv : ∀ S', Iv P a S' → Wr (v D1 δ S')) :
    Wr (sSeq (sIf (dAnd (upB w (tst (fBin (fOrd (fun i j => decide (i ≤ j)) fun i j => !DL.ltS j i) (fCB gLen (fCons (fVar 9) fNil)) (fC (.int 600))))) (dNot (dTB (dCall (spO 2 (pur (likeN 5))) wx (dCons te (dCons (upF w (fVar 14)) dNil)))))) u sNext) v D1 δ S) := ⟨stm_told0 hz e9 e14 I ht fun S' h => (hv S' h).out⟩
theorem Wr.pair {x y : DL.D} {j : Nat} (e : f δ S = .ok (.tup [x, y]) S1) (hδ : (δ.set i (some x)).set j (some y) = δ') (h : Wr (v D1 δ' S1)) : Wr (sSeq (sAsg (upF w f) (gTp 2 (gCs (gN i) (gCs (gN j) gN0)))) v D1 δ S) := ⟨by
  unfold sSeq sAsg upF
  rw [e]
  exact ⟨rfl, by rw [← hδ] at h; exact h.out⟩⟩
theorem Wr.told1 {wd : Str} {te : TDE} (hw : PyData.strOk wd = true) (e18 : δ[18]? = some (some (.str wd))) (ht : ∀ Q : DK, (∀ S', Iv P a S' → Q (.tup [.str "refused", .str wd]) S') → te δ S Q) (hv : ∀ S', Iv P a S' → D1.nx δ S') :
    Wr (sIf (dTB (dBin (rEqD' true) te (upF w (fTup (fCons (fC (.str "refused")) (fCons (fVar 18) fNil)))))) u sNext D1 δ S) := ⟨stm_told1 hw e18 ht hv⟩
end
section
variable {Pr : Program} {w : World} {K : PySem.W.Frag} {mg : Str → Option Value} {base : Heap} {f : Addr} {fd : FuncData}
theorem ok_law {c P f1 f2 f3 f4 f5 f6 f7 f8 f9 f10 : Addr} (F : Fun K "law" "law" (top 41) f fd) (hc : fd.code = .ref c) (TB : LamX.TabB base mg c P)
    (b_range : mg "range" = none) (b_len : mg "len" = none) (b_str : mg "str" = none) (b_list : mg "list" = none)
    (m__law_dice : mg "_law_dice" = some (.ref f1)) (F__law_dice : FnD Pr w K mg base 59 f1 spDice)
    (m__law_labels : mg "_law_labels" = some (.ref f2)) (F__law_labels : FnD Pr w K mg base 59 f2 spLabels)
    (m__law_next : mg "_law_next" = some (.ref f3)) (F__law_next : FnD Pr w K mg base 59 f3 (spO 2 gNext))
    (m__law_name : mg "_law_name" = some (.ref f4)) (F__law_name : FnD Pr w K mg base 59 f4 (spO 2 gName))
    (m__law_like : mg "_law_like" = some (.ref f5)) (F__law_like : FnD Pr w K mg base 59 f5 (spO 2 (pur (likeN 5))))
    (m_written : mg "written" = some (.ref f6)) (F_written : FnD Pr w K mg base 57 f6 (spO 1 (pur (writtenR (He.ga K "BadName") (He.ga K "BadNumber")))))
    (m_read : mg "read" = some (.ref f7)) (F_read : FnD Pr w K mg base 57 f7 (spRead (He.ga K "BadText")))
    (m__law_changed : mg "_law_changed" = some (.ref f8)) (F__law_changed : FnD Pr w K mg base 59 f8 spChanged)
    (m__law_row : mg "_law_row" = some (.ref f9)) (F__law_row : FnD Pr w K mg base 59 f9 (spO 1 (pur lRowR)))
    (m__law_told : mg "_law_told" = some (.ref f10)) (F__law_told : FnD Pr w K mg base 59 f10 (spTold Pr w K mg base 57)) :
    FnOk Pr w K mg base (L2.CX Pr w) 60 f fd ["_law_script"] (upSp Pr w K (spLawT P 63)) := by
  have FL0 := lam0_ok m_read F_read
  have FL1 := lam1_ok m_written F_written
  replace F_read := F_read.up (k := 59) (by omega)
  replace F_written := F_written.up (k := 59) (by omega)
  refine fnXc_ok (k := 59) F hc scLaw spLawT_mono spLawT_len fun X A outer s H E wx eX hr tk po => ?_
  have hu : X.A.units + 64 < cLine := by have := hr.un; omega
  have hu65 : X.A.units + 65 < cLine := by have := hr.un; omega
  have LT0 : LamT X LL0 c P := by subst eX; exact ⟨TB, rfl, rfl, lfree0⟩
  have LT1 : LamT X LL1 c P := by subst eX; exact ⟨TB, rfl, rfl, lfree1⟩
  have hcap0 : ∀ p ∈ caps0, X.N[p.2]? = some p.1 ∧ X.env.scope.names.lookup p.1 = some .cell := fun p hp => by subst eX; rw [List.mem_singleton.mp hp]; exact ⟨rfl, lcell0⟩
  have hcap1 : ∀ p ∈ caps1, X.N[p.2]? = some p.1 ∧ X.env.scope.names.lookup p.1 = some .cell := fun p hp => by subst eX; rw [List.mem_singleton.mp hp]; exact ⟨rfl, lcell1⟩
  have hnd0 : (caps0.map (·.1)).Nodup := by decide
  have hnd1 : (caps1.map (·.1)).Nodup := by decide
  subst eX
  have sc := @scLaw
  have G__law_row := @frG_pur lRowR
  refine ⟨_, (dss_cons (ds_set (i := 1) sc.nd rfl (by first | exact .inl rfl | exact .inr rfl) (de_call F__law_dice hr (by rfl) m__law_dice tk (fa_w (fun c _ S => dnX wx c S) (fa_cons (fv 0) fa_nil))))
      (dss_cons (ds_for po rfl (fi_w (fun c _ S => dnX wx c S) (fi_range1 (by rfl) b_range (fa_cons fe_int fa_nil))) (pp_name (i := 2) sc.nd rfl (by first | exact .inl rfl | exact .inr rfl)) (dss_cons (ds_set (i := 3) sc.nd rfl (by first | exact .inl rfl | exact .inr rfl) (de_frz (de_call F__law_labels hr (by rfl) m__law_labels tk (fa_w (fun c _ S => dnX wx c S) (fa_cons (fv 1) fa_nil)))))
      (dss_cons (ds_set (i := 4) sc.nd rfl (by first | exact .inl rfl | exact .inr rfl) (de_lst (fa_w (fun c _ S => dnX wx c S) fa_nil)))
      (dss_cons (ds_frzAt 4 (ds_for po rfl (fi_w (fun c _ S => dnX wx c S) (fi_range1 (by rfl) b_range (fa_cons (fe_call F__law_next hr (by rfl) m__law_next tk (fa_cons (fv 1) (fa_cons fe_int fa_nil))) fa_nil))) (pp_name (i := 5) sc.nd rfl (by first | exact .inl rfl | exact .inr rfl)) (dss_one (ds_expr (de_bm PySem.F.plainAttrs_list PySem.F.slot_list_append PySem.F.type_list_append dmt_append (fe_w (fun c _ S => dnX wx c S) (fv 4)) (fa_w (fun c _ S => dnX wx c S) (fa_cons (fe_tup (fa_cons (fe_call F__law_name hr (by rfl) m__law_name tk (fa_cons (fv 1) (fa_cons (fv 3) fa_nil))) (fa_cons (fe_sub hu (fe_lst (fa_cons fe_int (fa_cons fe_int (fa_cons (fe_call F__law_next hr (by rfl) m__law_next tk (fa_cons (fv 1) (fa_cons fe_int fa_nil))) fa_nil)))) (fe_call F__law_next hr (by rfl) m__law_next tk (fa_cons (fv 1) (fa_cons fe_int fa_nil)))) fa_nil))) fa_nil)))))))
      (dss_cons (ds_set (i := 6) sc.nd rfl (by first | exact .inl rfl | exact .inr rfl) (fe_w (fun c _ S => dnX wx c S) (fe_lc rfl sc.nd (fi_any (fv 4)) (own := [("_law_name_here", 7), ("_law_number", 8)]) (blk_ok (N := ["_law_script", "_law_d", "_law_turn", "_law_labels_here", "_law_entries", "_law_k", "_law_words", "_law_name_here", "_law_number", "_law_text", "_law_handed", "_law_change", "_law_some", "_law_line", "_law_due", "_law_at", "_law_odd", "_law_bad", "_law_word", "_law_worse"]) (sc := (defScope (top 41))) (by rfl) (by decide +kernel)) (by decide +kernel) (fun _ _ _ _ _ => (pp_tup rfl (pp_cons (pp_name (i := 7) sc.nd rfl (by first | exact .inl rfl | exact .inr rfl)) (pp_cons (pp_name (i := 8) sc.nd rfl (by first | exact .inl rfl | exact .inr rfl)) pp_nil)))) (fun _ _ _ _ _ => fts_nil) (fun _ _ _ _ _ => (fe_if (ft_cmp (fop_ne hu) (fv 7) (fe_tup fa_nil) (by with_unfolding_all rfl)) (fe_bm PySem.F.plainAttrs_str PySem.F.slot_str_join PySem.F.type_str_join dmt_join fe_str (fa_cons (fv 7) fa_nil)) fe_str)) frF_yes (frF_if (frF_tst (frF_bin mg_eq frF_var (frF_tup frF_nil))) (frF_bms mg_join frF_c (frF_cons frF_var frF_nil)) frF_c))))
      (dss_cons (ds_set (i := 9) sc.nd rfl (by first | exact .inl rfl | exact .inr rfl) (fe_w (fun c _ S => dnX wx c S) (fe_bm PySem.F.plainAttrs_str PySem.F.slot_str_join PySem.F.type_str_join dmt_join fe_str (fa_cons (fe_lc rfl sc.nd (fi_range1 (by rfl) b_range (fa_cons (fe_callB fcall_len (by rfl) b_len (by rfl) (fa_cons (fv 4) fa_nil)) fa_nil)) (own := [("_law_k", 5)]) (blk_ok (N := ["_law_script", "_law_d", "_law_turn", "_law_labels_here", "_law_entries", "_law_k", "_law_words", "_law_name_here", "_law_number", "_law_text", "_law_handed", "_law_change", "_law_some", "_law_line", "_law_due", "_law_at", "_law_odd", "_law_bad", "_law_word", "_law_worse"]) (sc := (defScope (top 41))) (by rfl) (by decide +kernel)) (by decide +kernel) (fun _ _ _ _ _ => (pp_name (i := 5) sc.nd rfl (by first | exact .inl rfl | exact .inr rfl))) (fun _ _ _ _ _ => fts_nil) (fun _ _ _ _ _ => (fe_op fop_add (fe_op fop_add (fe_sub hu (fv 6) (fv 5)) fe_str) (fe_callTy dcall_str (by rfl) b_str (by rfl) (fa_cons (fe_sub hu (fe_sub hu (fv 4) (fv 5)) fe_int) fa_nil)))) frF_yes (frF_bin mg_add (frF_bin mg_add (frF_sub mg_sub frF_var frF_var) frF_c) (frF_cb mg_str (frF_cons (frF_sub mg_sub (frF_sub mg_sub frF_var frF_var) frF_c) frF_nil)))) fa_nil))))
      (dss_cons (ds_set (i := 10) sc.nd rfl (by first | exact .inl rfl | exact .inr rfl) (fe_w (fun c _ S => dnX wx c S) (fe_callTyL dcall_list (by rfl) b_list (by rfl) (fa_cons (fv 4) fa_nil))))
      (dss_cons (ds_if (ft_w (fun c _ S => dnX wx c S) (fw_or (ft_not (ft_val (fe_call F__law_like hr (by rfl) m__law_like tk (fa_cons (fe_call F_written hr (by rfl) m_written tk (fa_cons (fv 10) fa_nil)) (fa_cons (fv 9) fa_nil))))) (fw_or (ft_not (ft_val (fe_call F__law_like hr (by rfl) m__law_like tk (fa_cons (fe_read F_read hr (by rfl) m_read tk (fa_cons (fv 9) fa_nil)) (fa_cons (fv 4) fa_nil))))) (fw_or1 (ft_cmp (fop_ne hu) (fv 10) (fv 4) (by with_unfolding_all rfl))))).dt) (dss_one (ds_ret (fe_w (fun c _ S => dnX wx c S) fe_bl))) dss_nil)
      (dss_cons (ds_expr (de_bm PySem.F.plainAttrs_list PySem.F.slot_list_append PySem.F.type_list_append dmt_append (de_call F_read hr (by rfl) m_read tk (fa_w (fun c _ S => dnX wx c S) (fa_cons (fv 9) fa_nil))) (fa_w (fun c _ S => dnX wx c S) (fa_cons fe_int fa_nil))))
      (dss_cons (ds_for po rfl (fi_w (fun c _ S => dnX wx c S) (fi_range1 (by rfl) b_range (fa_cons (fe_call F__law_next hr (by rfl) m__law_next tk (fa_cons (fv 1) (fa_cons fe_int fa_nil))) fa_nil))) (pp_name (i := 11) sc.nd rfl (by first | exact .inl rfl | exact .inr rfl)) (dss_one (ds_set (i := 9) sc.nd rfl (by first | exact .inl rfl | exact .inr rfl) (de_call F__law_changed hr (by rfl) m__law_changed tk (fa_w (fun c _ S => dnX wx c S) (fa_cons (fv 1) (fa_cons (fv 9) fa_nil)))))))
      (dss_cons (ds_set (i := 12) sc.nd rfl (by first | exact .inl rfl | exact .inr rfl) (fe_w (fun c _ S => dnX wx c S) (fe_if (ft_cmp (fop_ne hu) (fv 9) fe_str (by with_unfolding_all rfl)) (fe_lc rfl sc.nd (fi_any (fe_bmL PySem.F.plainAttrs_str PySem.F.slot_str_split PySem.F.type_str_split dmt_split (fv 9) (fa_cons fe_str fa_nil))) (own := [("_law_line", 13)]) (blk_ok (N := ["_law_script", "_law_d", "_law_turn", "_law_labels_here", "_law_entries", "_law_k", "_law_words", "_law_name_here", "_law_number", "_law_text", "_law_handed", "_law_change", "_law_some", "_law_line", "_law_due", "_law_at", "_law_odd", "_law_bad", "_law_word", "_law_worse"]) (sc := (defScope (top 41))) (by rfl) (by decide +kernel)) (by decide +kernel) (fun _ _ _ _ _ => (pp_name (i := 13) sc.nd rfl (by first | exact .inl rfl | exact .inr rfl))) (fun _ _ _ _ _ => fts_nil) (fun _ _ _ _ _ => (fe_call F__law_row hr (by rfl) m__law_row TakesD.none (fa_cons (fv 13) fa_nil))) frF_yes (frF_call G__law_row (frF_cons frF_var frF_nil))) (fe_lst fa_nil))))
      (dss_cons (ds_set (i := 14) sc.nd rfl (by first | exact .inl rfl | exact .inr rfl) (fe_w (fun c _ S => dnX wx c S) (fe_if (ft_cmp (fop_in hu65) fe_non (fv 12) (by with_unfolding_all rfl)) (fe_tup (fa_cons fe_str (fa_cons fe_str (fa_cons (fe_bm PySem.F.plainAttrs_list PySem.F.slot_list_index PySem.F.type_list_index (fmt_index hu65) (fv 12) (fa_cons fe_non fa_nil)) fa_nil)))) (fv 12))))
      (dss_cons (ds_if (dw_and (ft_w (fun c _ S => dnX wx c S) (ft_cmp dop_leA (fe_callB fcall_len (by rfl) b_len (by rfl) (fa_cons (fv 9) fa_nil)) fe_int (by with_unfolding_all rfl))) (dw_and1 (dt_not (dt_val (de_call F__law_like hr (by rfl) m__law_like tk (da_cons (de_frz (de_callC (caps := caps0) F__law_told hr (by rfl) m__law_told tk (da_cons (de_lam0 LT0) da_nil) (fun _ => rfl) hcap0 hnd0)) (da_cons (fe_w (fun c _ S => dnX wx c S) (fv 14)) da_nil))))))).dt (dss_one (ds_ret (fe_w (fun c _ S => dnX wx c S) fe_bl))) dss_nil)
      (dss_cons (ds_set (i := 15) sc.nd rfl (by first | exact .inl rfl | exact .inr rfl) (fe_w (fun c _ S => dnX wx c S) (fe_call F__law_next hr (by rfl) m__law_next tk (fa_cons (fv 1) (fa_cons (fe_op fop_add (fe_callB fcall_len (by rfl) b_len (by rfl) (fa_cons (fv 4) fa_nil)) fe_int) fa_nil)))))
      (dss_cons (ds_set (i := 16) sc.nd rfl (by first | exact .inl rfl | exact .inr rfl) (fe_w (fun c _ S => dnX wx c S) (fe_lst (fa_cons (fe_tup (fa_cons (fe_tup (fa_cons (fe_tup (fa_cons fe_str fa_nil)) (fa_cons fe_int fa_nil))) (fa_cons fe_str fa_nil))) (fa_cons (fe_tup (fa_cons (fe_tup (fa_cons (fe_tup (fa_cons fe_str fa_nil)) (fa_cons fe_int fa_nil))) (fa_cons fe_str fa_nil))) (fa_cons (fe_tup (fa_cons (fe_tup (fa_cons (fe_op fop_mulS (fe_tup (fa_cons fe_str fa_nil)) fe_int) (fa_cons (fe_neg fe_int) fa_nil))) (fa_cons fe_str fa_nil))) (fa_cons (fe_tup (fa_cons (fe_tup (fa_cons (fe_tup (fa_cons fe_str fa_nil)) (fa_cons (fe_neg fe_int) fa_nil))) (fa_cons fe_str fa_nil))) fa_nil)))))))
      (dss_cons (ds_asg (fe_w (fun c _ S => dnX wx c S) (fe_sub hu (fe_op fop_add (fv 16) (fe_lst (fa_cons (fe_tup (fa_cons (fe_tup (fa_cons (fe_tup (fa_cons fe_str fa_nil)) (fa_cons fe_int fa_nil))) (fa_cons fe_str fa_nil))) (fa_cons (fe_tup (fa_cons (fe_tup (fa_cons (fe_tup (fa_cons fe_str fa_nil)) (fa_cons fe_non fa_nil))) (fa_cons fe_str fa_nil))) (fa_cons (fe_tup (fa_cons (fe_tup (fa_cons fe_int (fa_cons fe_int fa_nil))) (fa_cons fe_str fa_nil))) fa_nil))))) (fe_call F__law_next hr (by rfl) m__law_next tk (fa_cons (fv 1) (fa_cons fe_int fa_nil))))) (dg_tup rfl (dgs_cons (dg_name (i := 17) sc.nd rfl (by first | exact .inl rfl | exact .inr rfl)) (dgs_cons (dg_name (i := 18) sc.nd rfl (by first | exact .inl rfl | exact .inr rfl)) dgs_nil))))
      (dss_cons (ds_set (i := 19) sc.nd rfl (by first | exact .inl rfl | exact .inr rfl) (fe_w (fun c _ S => dnX wx c S) (fe_op fop_add (fe_op fop_add (fe_op fop_add (fe_slice (fv 4) fo_none (fo_some (fv 15))) (fe_lst (fa_cons (fv 17) fa_nil))) (fe_slice (fv 4) (fo_some (fv 15)) fo_none)) (fe_lst (fa_cons (fe_tup (fa_cons (fe_tup (fa_cons fe_str fa_nil)) (fa_cons (fe_neg fe_int) fa_nil))) fa_nil)))))
      (dss_one (ds_if (dt_cmp (dop_ne hu) (de_callC (caps := caps1) F__law_told hr (by rfl) m__law_told tk (da_cons (de_lam1 LT1) da_nil) (fun _ => rfl) hcap1 hnd1) (fe_w (fun c _ S => dnX wx c S) (fe_tup (fa_cons fe_str (fa_cons (fv 18) fa_nil)))) (by with_unfolding_all rfl)) (dss_one (ds_ret (fe_w (fun c _ S => dnX wx c S) fe_bl))) dss_nil)))))))))))))))))))
      (dss_one (ds_ret (fe_w (fun c _ S => dnX wx c S) fe_bl))))), fun ds S Q h => ?_⟩
  clear F__law_dice F__law_labels F__law_next F__law_name F__law_like F_written F_read F__law_changed F__law_row F__law_told sc hcap0 hcap1 hnd0 hnd1 LT0 LT1 hu hu65 hr tk po
  obtain ⟨ns, rfl, hl, hP, hq⟩ := h
  have big : (1000000 : Nat) ≤ sizeLine := by decide
  -- the dice
  refine callS_ok (S1 := S) (ds := [.fro (ns.map .int)]) (fOne_ok (fVar_ok rfl)) ⟨ns, rfl, hl, fun a ha => ?_⟩
  have hPa : P ≠ a := fun z => by rw [z, ha] at hP; cases hP
  have I0 : Iv P a (DL.sup S a (.lst [.fro (ns.map .int), .int 0, .int (if 2 < ns.length then mixF ns 0 else 0), .int 0])) := ⟨⟨ns, _, _, _, sup_same, by decide⟩, [], by rw [sup_ne hPa]; exact hP, fun c hc => by cases hc⟩
  generalize DL.sup S a (.lst [.fro (ns.map .int), .int 0, .int (if 2 < ns.length then mixF ns 0 else 0), .int 0]) = S0 at I0
  -- five turns
  refine for_ok (S1 := S0) (fR1_ok (S1 := S0) (j := 5) (fOne_ok fC_ok) (by decide) (by decide)) ?_
  show dLoop (fun S => (SrcF.of (rngD 0 5)).ck S = true) (.nm 2) _ _ (rngD 0 5) [some (DL.D.fro (ns.map .int)), some (.ref a), none, none, none, none, none, none, none, none, none, none, none, none, none, none, none, none, none, none] S0
  generalize rngD 0 5 = xs
  generalize ho0 : some (DL.D.fro (ns.map .int)) = o0
  clear ho0 ha hPa hP hl
  suffices go : ∀ (xs : List DL.D) (o2 o3 o4 o5 o6 o7 o8 o9 o10 o11 o12 o13 o14 o15 o16 o17 o18 o19 : Option DL.D) (S' : Sto), Iv P a S' → dLoop (fun S => (SrcF.of (rngD 0 5)).ck S = true) (.nm 2) _ _ xs [o0, some (.ref a), o2, o3, o4, o5, o6, o7, o8, o9, o10, o11, o12, o13, o14, o15, o16, o17, o18, o19] S' from go xs none none none none none none none none none none none none none none none none none none S0 I0
  clear I0
  intro xs
  induction xs with
  | nil =>
    intro o2 o3 o4 o5 o6 o7 o8 o9 o10 o11 o12 o13 o14 o15 o16 o17 o18 o19 S' I
    exact ⟨rfl, ⟨S', Less.refl, hq S'⟩⟩
  | cons x xs ih =>
    intro o2 o3 o4 o5 o6 o7 o8 o9 o10 o11 o12 o13 o14 o15 o16 o17 o18 o19 S' I
    refine ⟨rfl, ?_⟩
    show sSeq _ _ _ [o0, some (.ref a), some x, o3, o4, o5, o6, o7, o8, o9, o10, o11, o12, o13, o14, o15, o16, o17, o18, o19] S'
    refine Wr.out ?_
    refine Wr.labels I rfl (g := fun ls => [o0, some (.ref a), some x, some (.lis (ls.map .str)), o4, o5, o6, o7, o8, o9, o10, o11, o12, o13, o14, o15, o16, o17, o18, o19]) (fun ls => rfl) fun ls S1 g1 g2 g3 I1 => ?_
    refine Wr.empty (g := fun q => [o0, some (.ref a), some x, some (.lis (ls.map .str)), some (.ref q), o5, o6, o7, o8, o9, o10, o11, o12, o13, o14, o15, o16, o17, o18, o19]) (fun q => rfl) fun q hn => ?_
    have ne : a ≠ q := fun z => by
      obtain ⟨_, _, _, _, e, _⟩ := I1.1
      rw [z, hn] at e
      cases e
    refine Wr.entries (I1.less (Less.refl.sup hn)) sup_same ne g1 g2 g3 fun es S3 p5 he hle I3 => ?_
    -- words, text, handed
    have l1000 : es.length ≤ 1000 := by omega
    refine Wr.asg (δ' := [o0, some (.ref a), some x, some (.lis (ls.map .str)), some (.lis (es.map entD)), p5, some (.lis (es.map fun e => .str (wname e.1))), o7, o8, o9, o10, o11, o12, o13, o14, o15, o16, o17, o18, o19]) (S1 := S3) (ev_words he l1000) rfl ?_
    refine Wr.asg (δ' := [o0, some (.ref a), some x, some (.lis (ls.map .str)), some (.lis (es.map entD)), p5, some (.lis (es.map fun e => .str (wname e.1))), o7, o8, some (.str (textS es)), o10, o11, o12, o13, o14, o15, o16, o17, o18, o19]) (S1 := S3) (ev_text he l1000) rfl ?_
    refine Wr.asg (δ' := [o0, some (.ref a), some x, some (.lis (ls.map .str)), some (.lis (es.map entD)), p5, some (.lis (es.map fun e => .str (wname e.1))), o7, o8, some (.str (textS es)), some (.lis (es.map entD)), o11, o12, o13, o14, o15, o16, o17, o18, o19]) (S1 := S3) (r := .lis (es.map entD)) (fCB_ok (fOne_ok (fVar_ok rfl)) rfl) rfl ?_
    refine Wr.ifF (S1 := S3) (ev_test he l1000 rfl rfl rfl) ?_
    refine Wr.spoil he l1000 rfl I3 fun S4 I4 => ?_
    have ht := text_len he
    refine Wr.change I4 (by omega) (text_good he) fun z S5 p11 hz hg I5 => ?_
    refine Wr.asg (δ' := [o0, some (.ref a), some x, some (.lis (ls.map .str)), some (.lis (es.map entD)), p5, some (.lis (es.map fun e => .str (wname e.1))), o7, o8, some (.str z), some (.lis (es.map entD)), p11, some (.lis ((valsT z).map ovD)), o13, o14, o15, o16, o17, o18, o19]) (S1 := S5) (ev_some (by omega) hg) rfl ?_
    refine Wr.asg (δ' := [o0, some (.ref a), some x, some (.lis (ls.map .str)), some (.lis (es.map entD)), p5, some (.lis (es.map fun e => .str (wname e.1))), o7, o8, some (.str z), some (.lis (es.map entD)), p11, some (.lis ((valsT z).map ovD)), o13, some (dueD z), o15, o16, o17, o18, o19]) (S1 := S5) (ev_due rfl) rfl ?_
    refine Wr.told0 hz rfl rfl I5 (fun Q hQ => told0 I5 rfl (by omega) FL0 hQ) fun S6 I6 => ?_
    -- at
    obtain ⟨k, S7, e7, k7, d7, off7⟩ := ev_next (δ := [o0, some (.ref a), some x, some (.lis (ls.map .str)), some (.lis (es.map entD)), p5, some (.lis (es.map fun e => .str (wname e.1))), o7, o8, some (.str z), some (.lis (es.map entD)), p11, some (.lis ((valsT z).map ovD)), o13, some (dueD z), o15, o16, o17, o18, o19]) (S := S6) (i := 1) (fn := fBin gAdd (fCB gLen (fCons (fVar 4) fNil)) (fC (.int 1))) (n := ((es.map entD).length : Nat) + 1) rfl (fBin_ok (S1 := S6) (S2 := S6) (fCB_ok (S1 := S6) (fOne_ok (fVar_ok rfl)) len_ev) fC_ok rfl) I6.1 (by omega) (by rw [List.length_map]; omega)
    refine Wr.asg (δ' := [o0, some (.ref a), some x, some (.lis (ls.map .str)), some (.lis (es.map entD)), p5, some (.lis (es.map fun e => .str (wname e.1))), o7, o8, some (.str z), some (.lis (es.map entD)), p11, some (.lis ((valsT z).map ovD)), o13, some (dueD z), some (.int (k : Nat)), o16, o17, o18, o19]) (S1 := S7) e7 rfl ?_
    have I7 := I6.off d7 off7
    -- odd
    refine Wr.asg (δ' := [o0, some (.ref a), some x, some (.lis (ls.map .str)), some (.lis (es.map entD)), p5, some (.lis (es.map fun e => .str (wname e.1))), o7, o8, some (.str z), some (.lis (es.map entD)), p11, some (.lis ((valsT z).map ovD)), o13, some (dueD z), some (.int (k : Nat)), some (.lis ((BADS.take 4).map badT)), o17, o18, o19]) (S1 := S7) (r := .lis ((BADS.take 4).map badT)) rfl rfl ?_
    obtain ⟨m, S8, e8, m8, d8, off8⟩ := ev_next (δ := [o0, some (.ref a), some x, some (.lis (ls.map .str)), some (.lis (es.map entD)), p5, some (.lis (es.map fun e => .str (wname e.1))), o7, o8, some (.str z), some (.lis (es.map entD)), p11, some (.lis ((valsT z).map ovD)), o13, some (dueD z), some (.int (k : Nat)), some (.lis ((BADS.take 4).map badT)), o17, o18, o19]) (S := S7) (i := 1) (fn := fC (.int 7)) (n := 7) rfl fC_ok I7.1 (by decide) (by decide)
    have I8 := I7.off d8 off8
    have hm : m < BADS.length := by show m < 7; omega
    have mb := List.getElem_mem hm
    have egm : (BADS.map badT)[m]? = some (badT BADS[m]) := by rw [List.getElem?_map, get_of hm]; rfl
    generalize BADS[m] = bd at mb egm
    refine Wr.pair (δ' := [o0, some (.ref a), some x, some (.lis (ls.map .str)), some (.lis (es.map entD)), p5, some (.lis (es.map fun e => .str (wname e.1))), o7, o8, some (.str z), some (.lis (es.map entD)), p11, some (.lis ((valsT z).map ovD)), o13, some (dueD z), some (.int (k : Nat)), some (.lis ((BADS.take 4).map badT)), some bd.1, some (.str bd.2), o19]) (S1 := S8) (x := bd.1) (y := .str bd.2) (fSub_ok (S1 := S7) (S2 := S8) (x := .lis (BADS.map badT)) rfl e8 (sub_ev egm)) rfl ?_
    refine Wr.asg (δ' := [o0, some (.ref a), some x, some (.lis (ls.map .str)), some (.lis (es.map entD)), p5, some (.lis (es.map fun e => .str (wname e.1))), o7, o8, some (.str z), some (.lis (es.map entD)), p11, some (.lis ((valsT z).map ovD)), o13, some (dueD z), some (.int (k : Nat)), some (.lis ((BADS.take 4).map badT)), some bd.1, some (.str bd.2), some (.lis ((es.map entD).take k ++ bd.1 :: ((es.map entD).drop k ++ [.tup [.tup [.str "A"], .int (-1)]])))]) (S1 := S8) (ev_worse l1000 rfl rfl rfl) rfl ?_
    have hlw : es.length + ((es.map entD).drop k ++ [DL.D.tup [.tup [.str "A"], .int (-1)]]).length ≤ 100000 := by
      rw [List.length_append, List.length_drop, List.length_map]
      show es.length + (es.length - k + 1) ≤ 100000
      omega
    rcases bads_er (C1 := He.ga K "BadName") (C2 := He.ga K "BadNumber") mb with ⟨ew, er⟩ | ⟨ew, er⟩
    · rw [ew]
      refine Wr.told1 (wd := "name") (by decide +kernel) rfl (fun Q hQ => told1 (wd := ("BadName", "name")) I8 rfl FL1 (by simp [errW]) (written_er he hlw er) hQ) fun S9 I9 => ?_
      exact ih _ _ _ _ _ _ _ _ _ _ _ _ _ _ _ _ _ _ S9 I9
    · rw [ew]
      refine Wr.told1 (wd := "number") (by decide +kernel) rfl (fun Q hQ => told1 (wd := ("BadNumber", "number")) I8 rfl FL1 (by simp [errW]) (written_er he hlw er) hQ) fun S9 I9 => ?_
      exact ih _ _ _ _ _ _ _ _ _ _ _ _ _ _ _ _ _ _ S9 I9
end
end Hb
set_option maxRecDepth 100000
set_option maxHeartbeats 1000000
namespace Hb
open PySem L2 DL
def spL (K : PySem.W.Frag) (P : Addr) (n : Nat) : Sp := fun vs H Q _ => ∃ (a : Addr) (ns : List Int), vs = [.ref a] ∧ ns.length ≤ n ∧ H P = some (.tbl #[]) ∧ SqL K H a (ns.map V.int) ∧ ∀ H', Q (.bl true) H'
section
variable {Pr : Program} {w : World} {K : PySem.W.Frag} {mg : Str → Option Value} {base : Heap} {k n : Nat} {f P : Addr} {fd : FuncData}
theorem up_law {H : Hp} {a : Addr} {ns : List Int} {Q : VK} {E : XK} (l : ns.length ≤ n) (hT : H P = some (.tbl #[])) (hS : SqF K H a (ns.map V.int)) (q : ∀ H', Q (.bl true) H') : upSp Pr w K (spLawT P n) [.ref a] H Q E := by
  refine ⟨[.fro (ns.map .int)], fun b => if b = P then some (.tab []) else none, fun b o e => ?_, Dvs.cons (dv_fro.mpr ⟨a, _, rfl, hS, dvs_ints ns⟩) Dvs.nil, ns, rfl, l, if_pos rfl, fun S' v H' _ hv _ => ?_⟩
  · have e : (if b = P then some (DO.tab []) else none) = some o := e
    by_cases hb : b = P
    · rw [if_pos hb] at e
      cases e
      subst hb
      exact ⟨#[], hT, True.intro, fun pos cv h => by cases h⟩
    · rw [if_neg hb] at e
      cases e
  · rw [dv_bl.mp hv]
    exact q H'
theorem law_lock (F : FnOk Pr w K mg base (L2.CX Pr w) k f fd ["_law_script"] (upSp Pr w K (spLawT P n))) : FnOk Pr w K mg base L2.CX0 k f fd ["_law_script"] (spL K P n) := by
  refine ⟨fun vs H Q E ⟨a, ns, e, _⟩ => by rw [e]; rfl, fun A outer s H args us vs Q E hr he hb hv ⟨a, ns, e, l, hT, hS, q⟩ => ?_⟩
  subst e
  have old : SqF K H a (ns.map V.int) → codeAny (model Pr w) A (.call (.ref f) args) (CR L2.CX0 outer Pr w H s Q E) s := fun hF => by
    refine codeAny_mono (F.run A outer s H args us _ Q (fun _ _ _ => False) hr he hb hv (up_law l hT hF q)) fun r s' hq => ?_
    cases r with
    | error e =>
      obtain ⟨_, _, _, _, _, _, _, _, _, _, _, _, z⟩ := hq
      exact z.elim
    | ok fl => cases fl <;> exact hq
  rcases hS with (h | ⟨o, h⟩) | h
  · obtain ⟨hx, its, m, rv, ho⟩ := he.hok a _ h
    have ne : ∀ b u, H b = some u → (∀ xs, u ≠ .lst xs) → b ≠ a := fun b u e k z => by rw [z, h] at e; cases e; exact k _ rfl
    have nn : ∀ b, H b = none → b ≠ a := fun b e z => by rw [z, h] at e; cases e
    have e2 : Env0 Pr w K mg base A outer s (upd H a (.frz { cls := .type "list", data := .seq its.toArray m } (.lst (ns.map V.int)))) := by
      refine ⟨he.frames, he.mod, fun b o e => ⟨(he.bs b o e).1, ?_⟩, he.bsz, he.funs, fun b hb => ?_, fun b u e => ?_, he.bare⟩
      · rw [upd_ne (nn b (he.bs b o e).2)]; exact (he.bs b o e).2
      · rw [upd_ne (nn b (he.frf b hb))]; exact he.frf b hb
      · have st : ∀ u, H b = some u → ObjOk Pr w (upd H a (.frz { cls := .type "list", data := .seq its.toArray m } (.lst (ns.map V.int)))) s.heap b u := fun u e => (he.hok b u e).stay (fun c v _ q => q) (fun c q => by rw [upd_ne (ne c _ q fun _ z => nomatch z)]; exact q) fun c xs q => by rw [upd_ne (ne c _ q fun _ z => nomatch z)]; exact q
        by_cases hb : b = a
        · subst hb
          rw [upd_same] at e
          cases e
          exact ⟨ho, st _ h⟩
        · rw [upd_ne hb] at e
          exact st u e
    have hT2 : upd H a (.frz { cls := .type "list", data := .seq its.toArray m } (.lst (ns.map V.int))) P = some (.tbl #[]) := by rw [upd_ne (ne P _ hT fun _ z => nomatch z)]; exact hT
    refine codeAny_mono (F.run A outer s _ args us _ Q (fun _ _ _ => False) hr e2 hb hv (up_law l hT2 (.inl ⟨_, upd_same⟩) q)) fun r s' hq => ?_
    cases r with
    | error e =>
      obtain ⟨_, _, _, _, _, _, _, _, _, _, _, _, z⟩ := hq
      exact z.elim
    | ok fl =>
      cases fl with
      | ret u =>
        obtain ⟨v, H', k1, k2, un, k4, k5, k6⟩ := hq
        refine ⟨v, H', k1, k2, ⟨fun b o e z => un.keep b o e (by rw [upd_ne (nn b z)]; exact z), fun b o e z => un.slot b o e (by rw [upd_ne (nn b z)]; exact z), fun b o e z => un.free b o e (by rw [upd_ne (nn b z)]; exact z), un.there, fun b xs z => un.tups b xs (by rw [upd_ne (ne b _ z fun _ y => nomatch y)]; exact z), fun b o u z => un.frzs b o u (by rw [upd_ne (ne b _ z fun _ y => nomatch y)]; exact z), fun b ps z => un.tbls b ps (by rw [upd_ne (ne b _ z fun _ y => nomatch y)]; exact z)⟩, k4, k5, k6⟩
      | next => exact hq
      | brk => exact hq
      | cont => exact hq
  · exact old (.inl ⟨o, h⟩)
  · exact old (.inr (.inr h))
theorem like_zero (F : Fun K "_law_like" "_law_like" (top 35) f fd) (b : Binds K fd ["_law_found", "_law_due"] []) : FnD Pr w K mg base k f (spO 2 (pur (likeN 0))) :=
  ⟨spO_mono, ⟨fd, ["_law_found", "_law_due"], ⟨fun vs H Q E ⟨ds, S, _, r, h⟩ => by rw [← r.length]; exact h.1, fun A outer s H args us vs Q E hr he hb hv ⟨ds, S, _, r, h⟩ => h.2.elim⟩, b⟩, F.kp⟩
def oexB (K : PySem.W.Frag) (C : Addr) : Bool := (match K.lookup C with
    | some ⟨.type "type", _, .cls cd, sl⟩ => (match cd.mro, sl.toList with
      | .ref C' :: bm, [_, _, _, _, some (.builtin n), _] => decide (C' = C) && (decide (n = "ValueError.__new__") && (cd.hasDict && (!cd.hasDel && PySem.HandSPX.refsVE bm)))
      | _, _ => false)
    | _ => false) && (decide (PySem.W.findIn K (.ref C) "__setattr__" = some (some (.builtin "object.__setattr__"))) && (decide (PySem.W.subIn K (.ref C) (.type "BaseException") = some true) && (decide (PySem.W.typeIn K (.ref C) = some (.type "type")) && PySem.W.keepIn K (.ref C))))
theorem oex_ok {C : Addr} (h : oexB K C = true) : OexC K C := by
  unfold oexB at h
  simp only [Bool.and_eq_true, decide_eq_true_eq] at h
  obtain ⟨h1, h2, h3, h4, h5⟩ := h
  refine ⟨?_, h2, h3, h4, h5⟩
  split at h1
  · rename_i dd cd sl hk
    split at h1
    · rename_i C' bm k0 k1 k2 k3 nm k5 hm hs
      simp only [Bool.and_eq_true, decide_eq_true_eq, Bool.not_eq_true'] at h1
      obtain ⟨e1, e2, e3, e4, e5⟩ := h1
      obtain ⟨nm1, bs, mro, ns, qn, hd, sn, sub, ab, col, del⟩ := cd
      dsimp only at hm e3 e4
      subst hm e1 e2 e3 e4
      have hsl : sl = #[k0, k1, k2, k3, some (.builtin "ValueError.__new__"), k5] := by
        obtain ⟨l⟩ := sl
        have hs : l = _ := hs
        rw [hs]
      subst hsl
      exact ⟨_, _, _, _, _, _, _, _, _, _, _, _, _, _, _, hk, e5⟩
    · cases h1
  · cases h1
end
end Hb
set_option maxRecDepth 100000
namespace DL
open PySem PySem.Spec PyProof.Rows L2 He
def asC (g : Addr → Option Obj) (n : Nat) : List Addr := asD g n ++ [cStatics]
def seenC (n : Nat) (fa : List Fa) (fn : List DefD) (tf : List Defn) (ex : PySem.W.Frag → Bool) (g : Addr → Option Obj) : AlX :=
  (obsT fa fn [] (frT g (asC g n)), ex (frT g (asC g n)) && tabsB g tf (frT g (asC g n)))
theorem told_facts {fa : List Fa} {fn : List DefD} {tf : List Defn} {ex : PySem.W.Frag → Bool} {w : World} {h : Heap} {as : List Addr} (e : (obsT fa fn [] (frT h.get? as), ex (frT h.get? as) && tabsB h.get? tf (frT h.get? as)) = valX fn [] w) :
    SaysX fa fn [] tf ex w h (frT h.get? as) := by
  have z1 : obsT fa fn [] (frT h.get? as) = valT fn [] w := congrArg Prod.fst e
  have z2 : (ex (frT h.get? as) && tabsB h.get? tf (frT h.get? as)) = true := congrArg Prod.snd e
  rw [Bool.and_eq_true] at z2
  have all : ∀ p ∈ tf, PySem.W.codeHdIn (frT h.get? as) (cT (frT h.get? as) p).1 (cT (frT h.get? as) p).2 = true ∧ ∃ o, h.get? (cT (frT h.get? as) p).2 = some o ∧ emptyTab o = true := fun p hp => by
    have z3 := List.all_eq_true.mp z2.2 p hp
    rw [Bool.and_eq_true] at z3
    refine ⟨z3.1, ?_⟩
    have z4 := z3.2
    split at z4
    · rename_i o eo
      exact ⟨o, eo, z4⟩
    · cases z4
  refine ⟨z1, z2.1, fun p hp => (all p hp).1, fun p hp => ?_, fun p hp => ?_⟩
  · obtain ⟨_, o, eo, et⟩ := all p hp
    exact frT_none eo et
  · obtain ⟨_, o, eo, et⟩ := all p hp
    rw [eo, emptyTab_eq et]
def hookC (n : Nat) (fa : List Fa) (fn : List DefD) (tf : List Defn) (ex : PySem.W.Frag → Bool) : PySem.W.Hook where
  α := AlX
  obs := fun st => seenC n fa fn tf ex st.heap.get?
  val := fun w => valX fn [] w
  says := fun w hp => ∃ F : PySem.W.Frag, F.In hp ∧ SaysX fa fn [] tf ex w hp F
  of := fun _ _ q => ⟨_, frT_in, told_facts q⟩
  keeps := fun _ _ _ ⟨F, hF, q⟩ st => ⟨F, PySem.W.Frag.In.keeps hF st, q.t, q.more, q.hd, q.out, fun p hp => st _ _ (q.empty p hp)⟩
theorem seenC_eq {n : Nat} {fa : List Fa} {fn : List DefD} {tf : List Defn} {ex : PySem.W.Frag → Bool} {g : Addr → Option Obj} {st : Shared} (q : ∀ a, g a = st.heap.get? a) : seenC n fa fn tf ex g = (hookC n fa fn tf ex).obs st := by
  have e : g = st.heap.get? := funext q
  rw [e]
  rfl
end DL
set_option maxRecDepth 100000
set_option maxHeartbeats 0
namespace Hd
open PySem PySem.Spec PyProof.Rows L2 DL Hb
def dD (x : PySem.Str) (i : Nat) : He.DefD := ⟨(x, none), x, x, defArgs (top i), defBody (top i), defScope (top i), [], []⟩
def fn : List He.DefD := [dD "is_whole" 16, dD "is_between" 17, dD "is_label" 18, dD "is_name" 19, dD "check_name" 20, dD "is_number" 21, dD "check_number" 22, dD "written" 26, dD "written_name" 27, dD "read" 28, dD "read_row" 29, dD "read_name" 30, dD "read_number" 31,
  dD "_law_dice" 33, dD "_law_next" 34, dD "_law_like" 35, dD "_law_name" 36, dD "_law_labels" 37, dD "_law_told" 38, dD "_law_row" 39, dD "_law_changed" 40, dD "law" 41, ⟨("BadText", some "__init__"), "__init__", "BadText.__init__", defArgs (initOf 10), defBody (initOf 10), defScope (initOf 10), [], []⟩]
def fa : List He.Fa := [.glo "is_whole", .glo "is_between", .glo "is_label", .glo "is_name", .glo "check_name", .glo "is_number", .glo "check_number", .glo "written", .glo "written_name", .glo "read", .glo "read_row", .glo "read_name", .glo "read_number",
  .glo "_law_dice", .glo "_law_next", .glo "_law_like", .glo "_law_name", .glo "_law_labels", .glo "_law_told", .glo "_law_row", .glo "_law_changed", .glo "law", .glo "BookError", .glo "BadHouse", .glo "BadName", .glo "BadNumber", .glo "NotHome", .glo "BadCut", .glo "Full", .glo "BadTables", .glo "BadLog", .glo "BadText",
  .free "len", .free "isinstance", .free "int", .free "bool", .free "str", .free "all", .free "tuple", .free "list", .free "range", .free "sorted", .free "set", .free "enumerate", .free "ValueError",
  .int "MOST_LABELS" 5, .int "MOST_LETTERS" 3, .int "MOST_NUMBER" 999, .int "MOST_FIGURES" 3, .str "LETTERS" "abcdefghijklmnopqrstuvwxyz", .str "FIGURES" "0123456789", .exc "BadName", .exc "BadNumber", .meth "BadText" "__init__"]
def ex (K : PySem.W.Frag) : Bool := errsB K && (iniB K (He.ga K "BookError") && oexB K (He.ga K "BadText"))
def tf : List He.Defn := [("law", none)]
def n0 : List PySem.Str := ["__name__", "BookError", "BadHouse", "BadName", "BadNumber", "NotHome", "BadCut", "Full", "BadTables", "BadLog", "BadText", "LETTERS", "MOST_LABELS", "MOST_LETTERS", "MOST_NUMBER", "is_whole", "is_between", "is_label", "is_name", "check_name", "is_number", "check_number", "FIGURES", "MOST_FIGURES", "written", "written_name", "read", "read_row", "read_name", "read_number"]
def n1 : List PySem.Str := ["_law_dice", "_law_next", "_law_like", "_law_name", "_law_labels", "_law_told", "_law_row", "_law_changed"]
def names : List PySem.Str := n0 ++ n1
abbrev R : PySem.W.OpenRow := PySem.W.OpenLaw.row PySem.Challenge.rw_headbook_k10_texts
abbrev hk : PySem.W.Hook := hookC 8 fa fn tf ex
def ob (s : PySem.W.SharedT) : He.AlX := seenC 8 fa fn tf ex (HandSHeadRun.getT s)
theorem ob_eq (s : PySem.W.SharedT) : ob s = hk.obs s.abs := seenC_eq (HandSHeadRun.getT_eq s)
theorem run (w : World) : HandSHeadRun.RunEq R (PySem.W.view R.prog [41]) hk ob 6000 names w := by
  intro os
  kernel_rfl
end Hd
set_option maxRecDepth 100000
set_option maxHeartbeats 0
namespace Hd
open PySem PySem.Spec PyProof.Rows L2 DL Hb
theorem facts {Pr : Program} {w : World} {K : PySem.W.Frag} {h : Heap} {mg : PySem.Str → Option Value} {f : Addr} (X : K.In h) (G : h.Ns mainGlobals mg) (hfa : mg ("law" : PySem.Str) = some (.ref f)) (c : He.SaysX fa fn [] tf ex w h K) :
    ∃ (fd : FuncData), (∀ (s : Shared) (v : Value), BindsTo s fd ⟨[v], []⟩ [("_law_script", v)]) ∧
      ∀ base : Heap, K.In base → base.Ns mainGlobals mg → LamX.TabB base mg (He.cT K ("law", none)).1 (He.cT K ("law", none)).2 → FnOk Pr w K mg base L2.CX0 60 f fd ["_law_script"] (spL K (He.cT K ("law", none)).2 63) := by
  have cd := c.t.d
  have hex := c.more
  unfold ex at hex
  rw [Bool.and_eq_true, Bool.and_eq_true] at hex
  obtain ⟨x1, x2, x3⟩ := hex
  have EO := errs_ok x1
  have IO := ini_ok x2
  have OO := oex_ok x3
  have m_is_whole := He.glo_ok X G (x := "is_whole") (cd.fact 0 (f := .glo "is_whole") rfl)
  have m_is_between := He.glo_ok X G (x := "is_between") (cd.fact 1 (f := .glo "is_between") rfl)
  have m_is_label := He.glo_ok X G (x := "is_label") (cd.fact 2 (f := .glo "is_label") rfl)
  have m_is_name := He.glo_ok X G (x := "is_name") (cd.fact 3 (f := .glo "is_name") rfl)
  have m_check_name := He.glo_ok X G (x := "check_name") (cd.fact 4 (f := .glo "check_name") rfl)
  have m_is_number := He.glo_ok X G (x := "is_number") (cd.fact 5 (f := .glo "is_number") rfl)
  have m_check_number := He.glo_ok X G (x := "check_number") (cd.fact 6 (f := .glo "check_number") rfl)
  have m_written := He.glo_ok X G (x := "written") (cd.fact 7 (f := .glo "written") rfl)
  have m_written_name := He.glo_ok X G (x := "written_name") (cd.fact 8 (f := .glo "written_name") rfl)
  have m_read := He.glo_ok X G (x := "read") (cd.fact 9 (f := .glo "read") rfl)
  have m_read_row := He.glo_ok X G (x := "read_row") (cd.fact 10 (f := .glo "read_row") rfl)
  have m_read_name := He.glo_ok X G (x := "read_name") (cd.fact 11 (f := .glo "read_name") rfl)
  have m_read_number := He.glo_ok X G (x := "read_number") (cd.fact 12 (f := .glo "read_number") rfl)
  have m__law_dice := He.glo_ok X G (x := "_law_dice") (cd.fact 13 (f := .glo "_law_dice") rfl)
  have m__law_next := He.glo_ok X G (x := "_law_next") (cd.fact 14 (f := .glo "_law_next") rfl)
  have m__law_like := He.glo_ok X G (x := "_law_like") (cd.fact 15 (f := .glo "_law_like") rfl)
  have m__law_name := He.glo_ok X G (x := "_law_name") (cd.fact 16 (f := .glo "_law_name") rfl)
  have m__law_labels := He.glo_ok X G (x := "_law_labels") (cd.fact 17 (f := .glo "_law_labels") rfl)
  have m__law_told := He.glo_ok X G (x := "_law_told") (cd.fact 18 (f := .glo "_law_told") rfl)
  have m__law_row := He.glo_ok X G (x := "_law_row") (cd.fact 19 (f := .glo "_law_row") rfl)
  have m__law_changed := He.glo_ok X G (x := "_law_changed") (cd.fact 20 (f := .glo "_law_changed") rfl)
  have m_law := He.glo_ok X G (x := "law") (cd.fact 21 (f := .glo "law") rfl)
  have m_BookError := He.glo_ok X G (x := "BookError") (cd.fact 22 (f := .glo "BookError") rfl)
  have m_BadHouse := He.glo_ok X G (x := "BadHouse") (cd.fact 23 (f := .glo "BadHouse") rfl)
  have m_BadName := He.glo_ok X G (x := "BadName") (cd.fact 24 (f := .glo "BadName") rfl)
  have m_BadNumber := He.glo_ok X G (x := "BadNumber") (cd.fact 25 (f := .glo "BadNumber") rfl)
  have m_NotHome := He.glo_ok X G (x := "NotHome") (cd.fact 26 (f := .glo "NotHome") rfl)
  have m_BadCut := He.glo_ok X G (x := "BadCut") (cd.fact 27 (f := .glo "BadCut") rfl)
  have m_Full := He.glo_ok X G (x := "Full") (cd.fact 28 (f := .glo "Full") rfl)
  have m_BadTables := He.glo_ok X G (x := "BadTables") (cd.fact 29 (f := .glo "BadTables") rfl)
  have m_BadLog := He.glo_ok X G (x := "BadLog") (cd.fact 30 (f := .glo "BadLog") rfl)
  have m_BadText := He.glo_ok X G (x := "BadText") (cd.fact 31 (f := .glo "BadText") rfl)
  have b_len := He.free_ok X G (x := "len") (cd.fact 32 (f := .free "len") rfl)
  have b_isinstance := He.free_ok X G (x := "isinstance") (cd.fact 33 (f := .free "isinstance") rfl)
  have b_int := He.free_ok X G (x := "int") (cd.fact 34 (f := .free "int") rfl)
  have b_bool := He.free_ok X G (x := "bool") (cd.fact 35 (f := .free "bool") rfl)
  have b_str := He.free_ok X G (x := "str") (cd.fact 36 (f := .free "str") rfl)
  have b_all := He.free_ok X G (x := "all") (cd.fact 37 (f := .free "all") rfl)
  have b_tuple := He.free_ok X G (x := "tuple") (cd.fact 38 (f := .free "tuple") rfl)
  have b_list := He.free_ok X G (x := "list") (cd.fact 39 (f := .free "list") rfl)
  have b_range := He.free_ok X G (x := "range") (cd.fact 40 (f := .free "range") rfl)
  have b_sorted := He.free_ok X G (x := "sorted") (cd.fact 41 (f := .free "sorted") rfl)
  have b_set := He.free_ok X G (x := "set") (cd.fact 42 (f := .free "set") rfl)
  have b_enumerate := He.free_ok X G (x := "enumerate") (cd.fact 43 (f := .free "enumerate") rfl)
  have b_ValueError := He.free_ok X G (x := "ValueError") (cd.fact 44 (f := .free "ValueError") rfl)
  obtain ⟨t_MOST_LABELS, c_MOST_LABELS⟩ := He.int_ok X G (cd.fact 45 (f := .int "MOST_LABELS" 5) rfl)
  obtain ⟨t_MOST_LETTERS, c_MOST_LETTERS⟩ := He.int_ok X G (cd.fact 46 (f := .int "MOST_LETTERS" 3) rfl)
  obtain ⟨t_MOST_NUMBER, c_MOST_NUMBER⟩ := He.int_ok X G (cd.fact 47 (f := .int "MOST_NUMBER" 999) rfl)
  obtain ⟨t_MOST_FIGURES, c_MOST_FIGURES⟩ := He.int_ok X G (cd.fact 48 (f := .int "MOST_FIGURES" 3) rfl)
  obtain ⟨t_LETTERS, c_LETTERS⟩ := He.str_ok X G (cd.fact 49 (f := .str "LETTERS" "abcdefghijklmnopqrstuvwxyz") rfl)
  obtain ⟨t_FIGURES, c_FIGURES⟩ := He.str_ok X G (cd.fact 50 (f := .str "FIGURES" "0123456789") rfl)
  have EN := errC_of X G (cd.fact 24 (f := .glo "BadName") rfl) (cd.fact 51 (f := .exc "BadName") rfl)
  have EU := errC_of X G (cd.fact 25 (f := .glo "BadNumber") rfl) (cd.fact 52 (f := .exc "BadNumber") rfl)
  have MI := He.meth_ok (cd.fact 53 (f := .meth "BadText" "__init__") rfl)
  obtain ⟨fd_is_whole, D_is_whole⟩ := cd.def_ 0 (d := dD "is_whole" 16) rfl
  have B_is_whole : Binds K fd_is_whole ["value"] [] := D_is_whole.bindsN (ps := ["value"]) fun _ _ _ _ _ _ us hl => match us, hl with | [_], _ => rfl
  have U_is_whole : Fun K "is_whole" "is_whole" (top 16) (He.ga K "is_whole") fd_is_whole := fun_of D_is_whole
  obtain ⟨fd_is_between, D_is_between⟩ := cd.def_ 1 (d := dD "is_between" 17) rfl
  have B_is_between : Binds K fd_is_between ["value", "low", "high"] [] := D_is_between.bindsN (ps := ["value", "low", "high"]) fun _ _ _ _ _ _ us hl => match us, hl with | [_, _, _], _ => rfl
  have U_is_between : Fun K "is_between" "is_between" (top 17) (He.ga K "is_between") fd_is_between := fun_of D_is_between
  obtain ⟨fd_is_label, D_is_label⟩ := cd.def_ 2 (d := dD "is_label" 18) rfl
  have B_is_label : Binds K fd_is_label ["value"] [] := D_is_label.bindsN (ps := ["value"]) fun _ _ _ _ _ _ us hl => match us, hl with | [_], _ => rfl
  have U_is_label : Fun K "is_label" "is_label" (top 18) (He.ga K "is_label") fd_is_label := fun_of D_is_label
  obtain ⟨fd_is_name, D_is_name⟩ := cd.def_ 3 (d := dD "is_name" 19) rfl
  have B_is_name : Binds K fd_is_name ["value"] [] := D_is_name.bindsN (ps := ["value"]) fun _ _ _ _ _ _ us hl => match us, hl with | [_], _ => rfl
  have U_is_name : Fun K "is_name" "is_name" (top 19) (He.ga K "is_name") fd_is_name := fun_of D_is_name
  obtain ⟨fd_check_name, D_check_name⟩ := cd.def_ 4 (d := dD "check_name" 20) rfl
  have B_check_name : Binds K fd_check_name ["value"] [] := D_check_name.bindsN (ps := ["value"]) fun _ _ _ _ _ _ us hl => match us, hl with | [_], _ => rfl
  have U_check_name : Fun K "check_name" "check_name" (top 20) (He.ga K "check_name") fd_check_name := fun_of D_check_name
  obtain ⟨fd_is_number, D_is_number⟩ := cd.def_ 5 (d := dD "is_number" 21) rfl
  have B_is_number : Binds K fd_is_number ["value"] [] := D_is_number.bindsN (ps := ["value"]) fun _ _ _ _ _ _ us hl => match us, hl with | [_], _ => rfl
  have U_is_number : Fun K "is_number" "is_number" (top 21) (He.ga K "is_number") fd_is_number := fun_of D_is_number
  obtain ⟨fd_check_number, D_check_number⟩ := cd.def_ 6 (d := dD "check_number" 22) rfl
  have B_check_number : Binds K fd_check_number ["value"] [] := D_check_number.bindsN (ps := ["value"]) fun _ _ _ _ _ _ us hl => match us, hl with | [_], _ => rfl
  have U_check_number : Fun K "check_number" "check_number" (top 22) (He.ga K "check_number") fd_check_number := fun_of D_check_number
  obtain ⟨fd_written, D_written⟩ := cd.def_ 7 (d := dD "written" 26) rfl
  have B_written : Binds K fd_written ["entries"] [] := D_written.bindsN (ps := ["entries"]) fun _ _ _ _ _ _ us hl => match us, hl with | [_], _ => rfl
  have U_written : Fun K "written" "written" (top 26) (He.ga K "written") fd_written := fun_of D_written
  obtain ⟨fd_written_name, D_written_name⟩ := cd.def_ 8 (d := dD "written_name" 27) rfl
  have B_written_name : Binds K fd_written_name ["name"] [] := D_written_name.bindsN (ps := ["name"]) fun _ _ _ _ _ _ us hl => match us, hl with | [_], _ => rfl
  have U_written_name : Fun K "written_name" "written_name" (top 27) (He.ga K "written_name") fd_written_name := fun_of D_written_name
  obtain ⟨fd_read, D_read⟩ := cd.def_ 9 (d := dD "read" 28) rfl
  have B_read : Binds K fd_read ["text"] [] := D_read.bindsN (ps := ["text"]) fun _ _ _ _ _ _ us hl => match us, hl with | [_], _ => rfl
  have U_read : Fun K "read" "read" (top 28) (He.ga K "read") fd_read := fun_of D_read
  obtain ⟨fd_read_row, D_read_row⟩ := cd.def_ 10 (d := dD "read_row" 29) rfl
  have B_read_row : Binds K fd_read_row ["at", "row"] [] := D_read_row.bindsN (ps := ["at", "row"]) fun _ _ _ _ _ _ us hl => match us, hl with | [_, _], _ => rfl
  have U_read_row : Fun K "read_row" "read_row" (top 29) (He.ga K "read_row") fd_read_row := fun_of D_read_row
  obtain ⟨fd_read_name, D_read_name⟩ := cd.def_ 11 (d := dD "read_name" 30) rfl
  have B_read_name : Binds K fd_read_name ["word"] [] := D_read_name.bindsN (ps := ["word"]) fun _ _ _ _ _ _ us hl => match us, hl with | [_], _ => rfl
  have U_read_name : Fun K "read_name" "read_name" (top 30) (He.ga K "read_name") fd_read_name := fun_of D_read_name
  obtain ⟨fd_read_number, D_read_number⟩ := cd.def_ 12 (d := dD "read_number" 31) rfl
  have B_read_number : Binds K fd_read_number ["word"] [] := D_read_number.bindsN (ps := ["word"]) fun _ _ _ _ _ _ us hl => match us, hl with | [_], _ => rfl
  have U_read_number : Fun K "read_number" "read_number" (top 31) (He.ga K "read_number") fd_read_number := fun_of D_read_number
  obtain ⟨fd__law_dice, D__law_dice⟩ := cd.def_ 13 (d := dD "_law_dice" 33) rfl
  have B__law_dice : Binds K fd__law_dice ["_law_script"] [] := D__law_dice.bindsN (ps := ["_law_script"]) fun _ _ _ _ _ _ us hl => match us, hl with | [_], _ => rfl
  have U__law_dice : Fun K "_law_dice" "_law_dice" (top 33) (He.ga K "_law_dice") fd__law_dice := fun_of D__law_dice
  obtain ⟨fd__law_next, D__law_next⟩ := cd.def_ 14 (d := dD "_law_next" 34) rfl
  have B__law_next : Binds K fd__law_next ["_law_dice_here", "_law_many"] [] := D__law_next.bindsN (ps := ["_law_dice_here", "_law_many"]) fun _ _ _ _ _ _ us hl => match us, hl with | [_, _], _ => rfl
  have U__law_next : Fun K "_law_next" "_law_next" (top 34) (He.ga K "_law_next") fd__law_next := fun_of D__law_next
  obtain ⟨fd__law_like, D__law_like⟩ := cd.def_ 15 (d := dD "_law_like" 35) rfl
  have B__law_like : Binds K fd__law_like ["_law_found", "_law_due"] [] := D__law_like.bindsN (ps := ["_law_found", "_law_due"]) fun _ _ _ _ _ _ us hl => match us, hl with | [_, _], _ => rfl
  have U__law_like : Fun K "_law_like" "_law_like" (top 35) (He.ga K "_law_like") fd__law_like := fun_of D__law_like
  obtain ⟨fd__law_name, D__law_name⟩ := cd.def_ 16 (d := dD "_law_name" 36) rfl
  have B__law_name : Binds K fd__law_name ["_law_d", "_law_labels_here"] [] := D__law_name.bindsN (ps := ["_law_d", "_law_labels_here"]) fun _ _ _ _ _ _ us hl => match us, hl with | [_, _], _ => rfl
  have U__law_name : Fun K "_law_name" "_law_name" (top 36) (He.ga K "_law_name") fd__law_name := fun_of D__law_name
  obtain ⟨fd__law_labels, D__law_labels⟩ := cd.def_ 17 (d := dD "_law_labels" 37) rfl
  have B__law_labels : Binds K fd__law_labels ["_law_d"] [] := D__law_labels.bindsN (ps := ["_law_d"]) fun _ _ _ _ _ _ us hl => match us, hl with | [_], _ => rfl
  have U__law_labels : Fun K "_law_labels" "_law_labels" (top 37) (He.ga K "_law_labels") fd__law_labels := fun_of D__law_labels
  obtain ⟨fd__law_told, D__law_told⟩ := cd.def_ 18 (d := dD "_law_told" 38) rfl
  have B__law_told : Binds K fd__law_told ["_law_work"] [] := D__law_told.bindsN (ps := ["_law_work"]) fun _ _ _ _ _ _ us hl => match us, hl with | [_], _ => rfl
  have U__law_told : Fun K "_law_told" "_law_told" (top 38) (He.ga K "_law_told") fd__law_told := fun_of D__law_told
  obtain ⟨fd__law_row, D__law_row⟩ := cd.def_ 19 (d := dD "_law_row" 39) rfl
  have B__law_row : Binds K fd__law_row ["_law_line"] [] := D__law_row.bindsN (ps := ["_law_line"]) fun _ _ _ _ _ _ us hl => match us, hl with | [_], _ => rfl
  have U__law_row : Fun K "_law_row" "_law_row" (top 39) (He.ga K "_law_row") fd__law_row := fun_of D__law_row
  obtain ⟨fd__law_changed, D__law_changed⟩ := cd.def_ 20 (d := dD "_law_changed" 40) rfl
  have B__law_changed : Binds K fd__law_changed ["_law_d", "_law_text"] [] := D__law_changed.bindsN (ps := ["_law_d", "_law_text"]) fun _ _ _ _ _ _ us hl => match us, hl with | [_, _], _ => rfl
  have U__law_changed : Fun K "_law_changed" "_law_changed" (top 40) (He.ga K "_law_changed") fd__law_changed := fun_of D__law_changed
  obtain ⟨fd_law, D_law⟩ := cd.def_ 21 (d := dD "law" 41) rfl
  have B_law : Binds K fd_law ["_law_script"] [] := D_law.bindsN (ps := ["_law_script"]) fun _ _ _ _ _ _ us hl => match us, hl with | [_], _ => rfl
  have U_law : Fun K "law" "law" (top 41) (He.ga K "law") fd_law := fun_of D_law
  obtain ⟨fd_ini, D_ini⟩ := cd.def_ 22 (d := ⟨("BadText", some "__init__"), "__init__", "BadText.__init__", defArgs (initOf 10), defBody (initOf 10), defScope (initOf 10), [], []⟩) rfl
  have B_ini : Binds K fd_ini ["self", "row"] [] := D_ini.bindsN (ps := ["self", "row"]) fun _ _ _ _ _ _ us hl => match us, hl with | [_, _], _ => rfl
  have U_ini : Fun K "__init__" "BadText.__init__" (initOf 10) (He.ma K (He.ga K "BadText") "__init__") fd_ini := fun_of D_ini
  have EM : ErrM K mg := ⟨m_BookError, fun x hx => by
    simp only [errW, List.map_cons, List.map_nil, List.mem_cons, List.mem_nil_iff, or_false] at hx
    rcases hx with rfl | rfl | rfl | rfl | rfl | rfl | rfl | rfl | rfl
    · exact m_BadHouse
    · exact m_BadName
    · exact m_BadNumber
    · exact m_NotHome
    · exact m_BadCut
    · exact m_Full
    · exact m_BadTables
    · exact m_BadLog
    · exact m_BadText⟩
  have ef : f = He.ga K "law" := by
    have e := hfa.symm.trans m_law
    cases e
    rfl
  subst ef
  have hcode : fd_law.code = .ref (He.cT K ("law", none)).1 := by
    obtain ⟨oc, od, dV, kV, doc, pm, an, cdv, ct, osl, e, lk, hcd, _, _⟩ := D_law.ex
    obtain ⟨c0, e0⟩ := He.codeIn_ref hcd
    have e1 : fd_law.code = .ref c0 := by rw [e]; exact e0
    have e2 := He.codeOf_eq (K := K) (p := ("law", none)) lk e1
    rw [e1]
    show Value.ref c0 = .ref (He.codeOf K ("law", none))
    rw [e2]
  refine ⟨fd_law, fun s v => by
    have := FunD.bindsA (ps := ["_law_script"]) D_law (fun _ _ _ _ _ _ us hl => match us, hl with | [_], _ => rfl) s [v] rfl
    exact this, fun base KB GB TB => law_lock ?_⟩
  have W_whole : FnD Pr w K mg base 1 _ _ := ok_whole (k := 0) U_is_whole B_is_whole b_isinstance b_int b_bool
  have W_between : FnD Pr w K mg base 2 _ _ := ok_between (k := 0) U_is_between B_is_between m_is_whole W_whole
  have W_label : FnD Pr w K mg base 1 _ _ := ok_label (k := 0) U_is_label B_is_label b_isinstance b_str b_len b_all c_MOST_LETTERS c_LETTERS
  have W_name : FnD Pr w K mg base 2 _ _ := ok_name (k := 0) U_is_name B_is_name b_isinstance b_tuple b_len b_all c_MOST_LABELS m_is_label W_label
  have W_cname : FnD Pr w K mg base 3 _ _ := ok_check_name (k := 0) U_check_name B_check_name m_is_name W_name EN.q EN.m EN.k EN.r
  have W_number : FnD Pr w K mg base 3 _ _ := ok_number (k := 0) U_is_number B_is_number c_MOST_NUMBER m_is_between W_between
  have W_cnumber : FnD Pr w K mg base 4 _ _ := ok_check_number (k := 0) U_check_number B_check_number m_is_number W_number EU.q EU.m EU.k EU.r
  have W_wname : FnD Pr w K mg base 1 _ _ := ok_wname (k := 0) U_written_name B_written_name
  have W_written : FnD Pr w K mg base 5 _ _ := ok_written (k := 0) U_written B_written m_check_name (W_cname.up (by omega)) m_check_number W_cnumber m_written_name (W_wname.up (by omega))
  have W_rname : FnD Pr w K mg base 1 _ _ := ok_rname (k := 0) U_read_name B_read_name b_tuple
  have W_rnum : FnD Pr w K mg base 1 _ _ := ok_rnum (k := 0) U_read_number B_read_number b_int b_str b_len b_all c_MOST_FIGURES c_FIGURES
  have ER : Era Pr w K mg base 3 (He.ga K "BadText") "row" := era_row (k := 2) U_ini B_ini m_BookError IO OO (EO.row "BadText" (by decide)) MI.1 (beq_iff_eq.mp MI.fn)
  have W_row : FnD Pr w K mg base 5 _ _ := ok_row (k := 0) U_read_row B_read_row b_len m_read_name (W_rname.up (by omega)) m_read_number (W_rnum.up (by omega)) m_is_name (W_name.up (by omega)) m_is_number (W_number.up (by omega)) ER m_BadText
  have W_read : FnD Pr w K mg base 6 _ _ := ok_read (k := 0) U_read B_read b_enumerate m_read_row W_row
  have W_next : FnD Pr w K mg base 1 _ _ := ok_next (k := 0) U__law_next B__law_next b_len
  have W_dice : FnD Pr w K mg base 1 _ _ := ok_dice (k := 0) U__law_dice B__law_dice b_len b_int
  have W_name2 : FnD Pr w K mg base 2 _ _ := ok_name2 (k := 0) U__law_name B__law_name b_tuple b_range b_len m__law_next W_next
  have W_labels : FnD Pr w K mg base 2 _ _ := ok_labels (k := 0) U__law_labels B__law_labels b_range b_sorted b_set m__law_next W_next
  have W_changed : FnD Pr w K mg base 2 _ _ := ok_changed (k := 0) U__law_changed B__law_changed b_len m__law_next W_next
  have W_lrow : FnD Pr w K mg base 1 _ _ := ok_lrow (k := 0) U__law_row B__law_row b_len b_range b_str b_int b_tuple
  have W_told : FnD Pr w K mg base 59 _ _ := ok_told (k := 57) U__law_told B__law_told EO EM b_isinstance b_ValueError
  have L0 : FnD Pr w K mg base 0 _ _ := like_zero (k := 0) U__law_like B__law_like
  have L1 : FnD Pr w K mg base 1 _ (spO 2 (pur (likeN 1))) := step_like U__law_like B__law_like b_len b_range b_isinstance b_int b_str b_bool b_tuple b_list m__law_like L0
  have L2 : FnD Pr w K mg base 2 _ (spO 2 (pur (likeN 2))) := step_like U__law_like B__law_like b_len b_range b_isinstance b_int b_str b_bool b_tuple b_list m__law_like L1
  have L3 : FnD Pr w K mg base 3 _ (spO 2 (pur (likeN 3))) := step_like U__law_like B__law_like b_len b_range b_isinstance b_int b_str b_bool b_tuple b_list m__law_like L2
  have L4 : FnD Pr w K mg base 4 _ (spO 2 (pur (likeN 4))) := step_like U__law_like B__law_like b_len b_range b_isinstance b_int b_str b_bool b_tuple b_list m__law_like L3
  have L5 : FnD Pr w K mg base 5 _ (spO 2 (pur (likeN 5))) := step_like U__law_like B__law_like b_len b_range b_isinstance b_int b_str b_bool b_tuple b_list m__law_like L4
  exact ok_law U_law hcode TB b_range b_len b_str b_list m__law_dice (W_dice.up (by omega)) m__law_labels (W_labels.up (by omega)) m__law_next (W_next.up (by omega)) m__law_name (W_name2.up (by omega)) m__law_like (L5.up (by omega)) m_written (W_written.up (by omega)) m_read (W_read.up (by omega)) m__law_changed (W_changed.up (by omega)) m__law_row (W_lrow.up (by omega)) m__law_told W_told
end Hd
set_option maxRecDepth 100000
set_option maxHeartbeats 0
open PySem PySem.W PySem.Calls PyProof.Rows
theorem PySem.Challenge.cw_headbook_k10_texts_holds : PySem.Challenge.rw_headbook_k10_texts.Holds := by
  w_on; o_law
  refine HandSHeadRun.head_any (r := OpenLaw.row PySem.Challenge.rw_headbook_k10_texts) (q := view (OpenLaw.row PySem.Challenge.rw_headbook_k10_texts).prog [41]) (H := Hd.hk) (ob := Hd.ob) (M := 6000) (loose := Hd.names) (d := HandSHeadRun.topDef (OpenLaw.row PySem.Challenge.rw_headbook_k10_texts).prog 41) (kwd := []) Hd.ob_eq
    (by kernel_rfl) (fun s => by kernel_rfl) Hd.run (by kernel_rfl) (by kernel_rfl) (by kernel_rfl) (by rfl) (by first | assumption | decide +kernel) (by decide +kernel) ⟨rfl, rfl, rfl, rfl, rfl, by decide +kernel⟩ ?hw ?hc
  case hw => w_witness2
  case hc =>
    refine LamX.walk_ofTsE (l := PySem.Challenge.rw_headbook_k10_texts) (n := 63) (k := 60) (x := "_law_script") (CX := fun _ => L2.CX0) rfl (by decide) (by kernel_rfl) ⟨rfl, by decide, by decide⟩ ?F (fun _ _ _ _ _ z => z)
    intro w mg fa h Y G hmg0
    obtain ⟨K, KX, c⟩ := Y
    have hmg : mg ("law" : PySem.Str) = some (.ref fa) := by
      have e : (HandSHeadRun.topDef (OpenLaw.row PySem.Challenge.rw_headbook_k10_texts).prog 41).name = ("law" : PySem.Str) := by kernel_rfl
      rw [← e]
      exact hmg0
    obtain ⟨fd, hb, hF⟩ := Hd.facts (Pr := (PySem.Challenge.rw_headbook_k10_texts).prog) (w := w) KX G hmg c
    have m0 : (("law", none) : He.Defn) ∈ Hd.tf := List.mem_singleton.mpr rfl
    refine ⟨K, KX, fd, [He.cT K ("law", none)], Hb.spL K (He.cT K ("law", none)).2 63, fun p hp => ?_, fun p hp => ?_, fun p hp => ?_, hb, fun H a ns l _ hT hS => ⟨a, ns, rfl, l, hT _ (List.mem_singleton.mpr rfl), hS, fun H' => rfl⟩, fun base KB GB TB => hF base KB GB (TB _ (List.mem_singleton.mpr rfl))⟩
    · rw [List.mem_singleton.mp hp]; exact c.empty _ m0
    · rw [List.mem_singleton.mp hp]; exact c.out _ m0
    · rw [List.mem_singleton.mp hp]; exact PySem.W.codeHd_of_K KX (c.hd _ m0)
