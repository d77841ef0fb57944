import PyProof.Rows.All
import Wide.All
import OpenK.AllK
import Wide.FinOn
import HandS.ForMost
import HandS.Walk
import HandS.TupAny
import HandS.Star
import HandS.Defaults
import HandS.TupLe
import HandS.WordsExc
import HandS.Flow
import KE.GoesEnumKw
import HandS.Codes
import HandS.Style
import HandS.Dict
import HandS.More
import HandS.ExcInit
import HandS.ExcField
import HandS.Replace
import HandS.ExcIs
import PySem.Challenge.RW_bornroots_k11_pages_and_full_books
set_option Elab.async false
set_option linter.all false
set_option maxRecDepth 100000
namespace DV
open PySem PySem.Spec PyProof.Rows L2

/-- pure data -/
inductive D where
  | non | bl (b : Bool) | int (i : Int) | str (x : Str) | ty (n : String) | ref (a : Addr)
  | tup (ds : List D) | lst (ds : List D) | lsr (ds : List D) | dct (kvs : List (Key × D)) | dcT (kvs : List (List Key × D)) | obj (C : Addr) (fs : List (Str × D))
/-- a value: pure data, or the n-th of the things that may change -/
inductive SV where | d (x : D) | m (n : Nat)
/-- what stands in a thing that may change -/
inductive MO where
  | lst (xs : List SV) | dct (kvs : List (Key × SV)) | dcT (kvs : List (List Key × SV)) | obj (C : Addr) (fs : List (Str × SV)) | dead
  /-- a dict while it is walked -/
  | ldc (o : Obj) (ws : List (Key × V)) (kvs : List (Key × SV)) | ldcT (o : Obj) (ws : List (List Key × V)) (kvs : List (List Key × SV))

abbrev DEnv := List (Option SV)
abbrev DSt := List MO

/-- a tuple that stands in the heap (a written one is no such) -/
def TupE (K : PySem.W.Frag) (G : Hp) (a : Addr) (xs : List V) : Prop :=
  G a = some (.tup xs)
theorem TupE.sqt {K : PySem.W.Frag} {G : Hp} {a : Addr} {xs : List V} (h : TupE K G a xs) : SqT K G a xs := .inl (.inl h)
mutual
inductive Rep (K : PySem.W.Frag) (G : Hp) : V → D → Prop
  | non : Rep K G .non .non
  | bl (b : Bool) : Rep K G (.bl b) (.bl b)
  | int (i : Int) : Rep K G (.int i) (.int i)
  | str (x : Str) : Rep K G (.str x) (.str x)
  | ty (n : String) : Rep K G (.ty n) (.ty n)
  | ref (a : Addr) : Rep K G (.ref a) (.ref a)
  | tup {a : Addr} {xs : List V} {ds : List D} : TupE K G a xs → Reps K G xs ds → Rep K G (.ref a) (.tup ds)
  | lst {a : Addr} {xs : List V} {ds : List D} : G a = some (.lst xs) → Reps K G xs ds → Rep K G (.ref a) (.lst ds)
  | lsr {a : Addr} {xs : List V} {ds : List D} : SqL K G a xs → Reps K G xs ds → Rep K G (.ref a) (.lsr ds)
  | dct {a : Addr} {ws : List (Key × V)} {kvs : List (Key × D)} : Rd G a (.dK ws) → ws.map Prod.fst = kvs.map Prod.fst → Reps K G (ws.map Prod.snd) (kvs.map Prod.snd) → Rep K G (.ref a) (.dct kvs)
  | dcT {a : Addr} {ws : List (List Key × V)} {kvs : List (List Key × D)} : Rd G a (.dT ws) → ws.map Prod.fst = kvs.map Prod.fst → Reps K G (ws.map Prod.snd) (kvs.map Prod.snd) → Rep K G (.ref a) (.dcT kvs)
  | obj {a C dx : Addr} {ws : List (Str × V)} {fs : List (Str × D)} : G a = some (.ins C dx ws) → ws.map Prod.fst = fs.map Prod.fst → Reps K G (ws.map Prod.snd) (fs.map Prod.snd) → Rep K G (.ref a) (.obj C fs)
inductive Reps (K : PySem.W.Frag) (G : Hp) : List V → List D → Prop
  | nil : Reps K G [] []
  | cons {v : V} {vs : List V} {d : D} {ds : List D} : Rep K G v d → Reps K G vs ds → Reps K G (v :: vs) (d :: ds)
end

/-- G' knows all that G knows -/
def Sub (G G' : Hp) : Prop := ∀ a o, G a = some o → G' a = some o
theorem Sub.refl (G : Hp) : Sub G G := fun _ _ h => h
theorem Sub.trans {G G1 G2 : Hp} (a : Sub G G1) (b : Sub G1 G2) : Sub G G2 := fun c o h => b c o (a c o h)
theorem Sub.rd {G G' : Hp} {a : Addr} {u : HO} (e : Sub G G') (h : Rd G a u) : Rd G' a u := by
  rcases h with h | ⟨o, h⟩
  · exact .inl (e _ _ h)
  · exact .inr ⟨o, e _ _ h⟩
theorem Sub.sql {K : PySem.W.Frag} {G G' : Hp} {a : Addr} {xs : List V} (e : Sub G G') (h : SqL K G a xs) : SqL K G' a xs := by
  rcases h with h | h
  · exact .inl (e.rd h)
  · exact .inr h
theorem Sub.tupE {K : PySem.W.Frag} {G G' : Hp} {a : Addr} {xs : List V} (e : Sub G G') (h : TupE K G a xs) : TupE K G' a xs := e _ _ h
theorem Sub.sqt {K : PySem.W.Frag} {G G' : Hp} {a : Addr} {xs : List V} (e : Sub G G') (h : SqT K G a xs) : SqT K G' a xs := by
  rcases h with h | h
  · exact .inl (e.rd h)
  · exact .inr h

mutual
theorem Rep.mono {K : PySem.W.Frag} {G G' : Hp} (e : Sub G G') : ∀ {v : V} {d : D}, Rep K G v d → Rep K G' v d
  | _, _, .non => .non
  | _, _, .bl b => .bl b
  | _, _, .int i => .int i
  | _, _, .str x => .str x
  | _, _, .ty n => .ty n
  | _, _, .ref a => .ref a
  | _, _, .tup h r => .tup (e.tupE h) (Reps.mono e r)
  | _, _, .lst h r => .lst (e _ _ h) (Reps.mono e r)
  | _, _, .lsr h r => .lsr (e.sql h) (Reps.mono e r)
  | _, _, .dct h k r => .dct (e.rd h) k (Reps.mono e r)
  | _, _, .dcT h k r => .dcT (e.rd h) k (Reps.mono e r)
  | _, _, .obj h k r => .obj (e _ _ h) k (Reps.mono e r)
theorem Reps.mono {K : PySem.W.Frag} {G G' : Hp} (e : Sub G G') : ∀ {vs : List V} {ds : List D}, Reps K G vs ds → Reps K G' vs ds
  | _, _, .nil => .nil
  | _, _, .cons h r => .cons (Rep.mono e h) (Reps.mono e r)
end

section
variable {K : PySem.W.Frag} {G : Hp}
theorem Reps.length : ∀ {vs : List V} {ds : List D}, Reps K G vs ds → vs.length = ds.length
  | _, _, .nil => rfl
  | _, _, .cons _ r => congrArg (· + 1) (Reps.length r)
theorem Reps.get : ∀ {vs : List V} {ds : List D} {i : Nat} {x : D}, Reps K G vs ds → ds[i]? = some x → ∃ v, vs[i]? = some v ∧ Rep K G v x
  | _, _, _, _, .nil, e => by simp at e
  | _, _, 0, _, .cons r _, e => by simp at e; subst e; exact ⟨_, rfl, r⟩
  | _, _, i + 1, x, .cons _ t, e => by
    obtain ⟨u, h1, h2⟩ := Reps.get (i := i) (x := x) t (by simpa using e)
    exact ⟨u, by simpa using h1, h2⟩
theorem Reps.getV : ∀ {vs : List V} {ds : List D} {i : Nat} {v : V}, Reps K G vs ds → vs[i]? = some v → ∃ x, ds[i]? = some x ∧ Rep K G v x
  | _, _, _, _, .nil, e => by simp at e
  | _, _, 0, _, .cons r _, e => by simp at e; subst e; exact ⟨_, rfl, r⟩
  | _, _, i + 1, x, .cons _ t, e => by
    obtain ⟨u, h1, h2⟩ := Reps.getV (i := i) (v := x) t (by simpa using e)
    exact ⟨u, by simpa using h1, h2⟩
theorem Reps.append : ∀ {vs ws : List V} {ds es : List D}, Reps K G vs ds → Reps K G ws es → Reps K G (vs ++ ws) (ds ++ es)
  | _, _, _, _, .nil, s => s
  | _, _, _, _, .cons r t, s => .cons r (Reps.append t s)
theorem Reps.take : ∀ {vs : List V} {ds : List D} (n : Nat), Reps K G vs ds → Reps K G (vs.take n) (ds.take n)
  | _, _, 0, _ => .nil
  | _, _, _ + 1, .nil => .nil
  | _, _, n + 1, .cons r t => .cons r (Reps.take n t)
theorem Reps.drop : ∀ {vs : List V} {ds : List D} (n : Nat), Reps K G vs ds → Reps K G (vs.drop n) (ds.drop n)
  | _, _, 0, r => r
  | _, _, _ + 1, .nil => .nil
  | _, _, n + 1, .cons _ t => Reps.drop n t
theorem Reps.rev {vs : List V} {ds : List D} (h : Reps K G vs ds) : Reps K G vs.reverse ds.reverse := by
  match vs, ds, h with
  | _, _, .nil => exact .nil
  | _, _, .cons r t => rw [List.reverse_cons, List.reverse_cons]; exact (Reps.rev t).append (.cons r .nil)
theorem Reps.ints {ns : List Int} : Reps K G (ns.map V.int) (ns.map D.int) := by
  induction ns with
  | nil => exact .nil
  | cons n r ih => exact .cons (.int n) ih
theorem Reps.ints_inv : ∀ {vs : List V} {ns : List Int}, Reps K G vs (ns.map D.int) → vs = ns.map V.int
  | _, [], .nil => rfl
  | _, n :: ns, .cons r t => by
    cases r
    rw [Reps.ints_inv t]
    rfl
end

/-! ### things that may change -/
/-- where they stand, by their numbers; the lists that are being made -/
structure Mk where
  ids : List (Option Addr)
  hid : List Addr
/-- a locked dict is seen as a dict -/
def unf : HO → HO
  | .frz _ (.dK ws) => .dK ws
  | .frz _ (.dT ws) => .dT ws
  | o => o
def isDO : HO → Bool
  | .dK _ => true
  | .dT _ => true
  | _ => false
theorem unf_ex {o u : HO} (h : unf o = u) (n : isDO u = false) : o = u := by
  unfold unf at h
  split at h
  · subst h; cases n
  · subst h; cases n
  · exact h
theorem unf_rd {o u : HO} (h : unf o = u) : o = u ∨ ∃ k, o = .frz k u := by
  unfold unf at h
  split at h
  · subst h; exact .inr ⟨_, rfl⟩
  · subst h; exact .inr ⟨_, rfl⟩
  · exact .inl h
/-- the heap without these -/
def wo (M : Mk) (H : Hp) : Hp := fun a => if some a ∈ M.ids ∨ a ∈ M.hid then none else (H a).map unf
theorem wo_some {M : Mk} {H : Hp} {a : Addr} {o : HO} (h : H a = some o) (n : some a ∉ M.ids) (n' : a ∉ M.hid) : wo M H a = some (unf o) := by
  unfold wo
  rw [if_neg (fun z => z.elim n n'), h]
  rfl
theorem wo_in {M : Mk} {H : Hp} {a : Addr} {u : HO} (h : wo M H a = some u) : ∃ o, H a = some o ∧ unf o = u ∧ some a ∉ M.ids ∧ a ∉ M.hid := by
  unfold wo at h
  split at h
  · cases h
  · rename_i q
    obtain ⟨o, h1, h2⟩ := Option.map_eq_some_iff.mp h
    exact ⟨o, h1, h2, fun z => q (.inl z), fun z => q (.inr z)⟩
/-- what G knows of H, whose dicts may be locked -/
structure SubW (G H : Hp) : Prop where
  at_ : ∀ a u, G a = some u → ∃ o, H a = some o ∧ unf o = u
theorem SubW.ex {G H : Hp} (e : SubW G H) {a : Addr} {u : HO} (h : G a = some u) (n : isDO u = false) : H a = some u := by
  obtain ⟨o, h1, h2⟩ := e.at_ a u h
  rw [h1, unf_ex h2 n]
theorem SubW.rd0 {G H : Hp} (e : SubW G H) {a : Addr} {u : HO} (h : G a = some u) : Rd H a u := by
  obtain ⟨o, h1, h2⟩ := e.at_ a u h
  rcases unf_rd h2 with rfl | ⟨k, rfl⟩
  · exact .inl h1
  · exact .inr ⟨k, h1⟩
theorem SubW.rd {G H : Hp} (e : SubW G H) {a : Addr} {u : HO} (h : Rd G a u) : Rd H a u := by
  rcases h with h | ⟨k, h⟩
  · exact e.rd0 h
  · exact .inr ⟨k, e.ex h rfl⟩
theorem SubW.sql {K : PySem.W.Frag} {G H : Hp} {a : Addr} {xs : List V} (e : SubW G H) (h : SqL K G a xs) : SqL K H a xs := by
  rcases h with h | h
  · exact .inl (e.rd h)
  · exact .inr h
theorem SubW.sqt {K : PySem.W.Frag} {G H : Hp} {a : Addr} {xs : List V} (e : SubW G H) (h : SqT K G a xs) : SqT K H a xs := by
  rcases h with h | h
  · exact .inl (e.rd h)
  · exact .inr h
theorem wo_sub (M : Mk) (H : Hp) : SubW (wo M H) H := ⟨fun a u h => by
  obtain ⟨o, h1, h2, _⟩ := wo_in h
  exact ⟨o, h1, h2⟩⟩

inductive SRep (K : PySem.W.Frag) (M : Mk) (G : Hp) : V → SV → Prop
  | d {v : V} {x : D} : Rep K G v x → SRep K M G v (.d x)
  | m {n : Nat} {a : Addr} : M.ids[n]? = some (some a) → SRep K M G (.ref a) (.m n)
inductive SReps (K : PySem.W.Frag) (M : Mk) (G : Hp) : List V → List SV → Prop
  | nil : SReps K M G [] []
  | cons {v : V} {vs : List V} {x : SV} {xs : List SV} : SRep K M G v x → SReps K M G vs xs → SReps K M G (v :: vs) (x :: xs)
/-- the ids keep their addresses -/
def Ids (M M' : Mk) : Prop := ∀ (n : Nat) (a : Addr), M.ids[n]? = some (some a) → M'.ids[n]? = some (some a)
theorem Ids.refl (M : Mk) : Ids M M := fun _ _ h => h
theorem Ids.trans {M M1 M2 : Mk} (a : Ids M M1) (b : Ids M1 M2) : Ids M M2 := fun n c h => b n c (a n c h)
theorem SRep.mono {K : PySem.W.Frag} {M M' : Mk} {G G' : Hp} (i : Ids M M') (e : Sub G G') {v : V} {x : SV} (h : SRep K M G v x) : SRep K M' G' v x := by
  cases h with
  | d h => exact .d (h.mono e)
  | m h => exact .m (i _ _ h)
theorem SReps.mono {K : PySem.W.Frag} {M M' : Mk} {G G' : Hp} (i : Ids M M') (e : Sub G G') : ∀ {vs : List V} {xs : List SV}, SReps K M G vs xs → SReps K M' G' vs xs
  | _, _, .nil => .nil
  | _, _, .cons h r => .cons (h.mono i e) (SReps.mono i e r)
section
variable {K : PySem.W.Frag} {M : Mk} {G : Hp}
theorem SReps.length : ∀ {vs : List V} {ds : List SV}, SReps K M G vs ds → vs.length = ds.length
  | _, _, .nil => rfl
  | _, _, .cons _ r => congrArg (· + 1) (SReps.length r)
theorem SReps.get : ∀ {vs : List V} {ds : List SV} {i : Nat} {x : SV}, SReps K M G vs ds → ds[i]? = some x → ∃ v, vs[i]? = some v ∧ SRep K M G v x
  | _, _, _, _, .nil, e => by simp at e
  | _, _, 0, _, .cons r _, e => by simp at e; subst e; exact ⟨_, rfl, r⟩
  | _, _, i + 1, x, .cons _ t, e => by
    obtain ⟨u, h1, h2⟩ := SReps.get (i := i) (x := x) t (by simpa using e)
    exact ⟨u, by simpa using h1, h2⟩
theorem SReps.getV : ∀ {vs : List V} {ds : List SV} {i : Nat} {v : V}, SReps K M G vs ds → vs[i]? = some v → ∃ x, ds[i]? = some x ∧ SRep K M G v x
  | _, _, _, _, .nil, e => by simp at e
  | _, _, 0, _, .cons r _, e => by simp at e; subst e; exact ⟨_, rfl, r⟩
  | _, _, i + 1, x, .cons _ t, e => by
    obtain ⟨u, h1, h2⟩ := SReps.getV (i := i) (v := x) t (by simpa using e)
    exact ⟨u, by simpa using h1, h2⟩
theorem SReps.append : ∀ {vs ws : List V} {ds es : List SV}, SReps K M G vs ds → SReps K M G ws es → SReps K M G (vs ++ ws) (ds ++ es)
  | _, _, _, _, .nil, s => s
  | _, _, _, _, .cons r t, s => .cons r (SReps.append t s)
theorem SReps.set {v : V} {x : SV} (r : SRep K M G v x) : ∀ {vs : List V} {xs : List SV} (i : Nat), SReps K M G vs xs → SReps K M G (vs.set i v) (xs.set i x)
  | _, _, _, .nil => .nil
  | _, _, 0, .cons _ t => .cons r t
  | _, _, i + 1, .cons q t => .cons q (SReps.set r i t)
/-- all of it pure -/
theorem SReps.pure : ∀ {vs : List V} {ds : List D}, SReps K M G vs (ds.map SV.d) → Reps K G vs ds
  | _, [], .nil => .nil
  | _, d :: ds, .cons r t => by
    cases r with
    | d h => exact .cons h (SReps.pure t)
theorem SReps.of : ∀ {vs : List V} {ds : List D}, Reps K G vs ds → SReps K M G vs (ds.map SV.d)
  | _, _, .nil => .nil
  | _, _, .cons r t => .cons (.d r) (SReps.of t)
end
/-- what stands at a -/
def MRep (K : PySem.W.Frag) (M : Mk) (G H : Hp) (a : Addr) : MO → Prop
  | .lst xs => ∃ vs, H a = some (.lst vs) ∧ SReps K M G vs xs
  | .dct kvs => ∃ ws : List (Key × V), H a = some (.dK ws) ∧ ws.map Prod.fst = kvs.map Prod.fst ∧ SReps K M G (ws.map Prod.snd) (kvs.map Prod.snd)
  | .dcT kvs => ∃ ws : List (List Key × V), H a = some (.dT ws) ∧ ws.map Prod.fst = kvs.map Prod.fst ∧ SReps K M G (ws.map Prod.snd) (kvs.map Prod.snd)
  | .obj C fs => ∃ (dx : Addr) (ws : List (Str × V)), H a = some (.ins C dx ws) ∧ ws.map Prod.fst = fs.map Prod.fst ∧ SReps K M G (ws.map Prod.snd) (fs.map Prod.snd)
  | .ldc o ws kvs => H a = some (.frz o (.dK ws)) ∧ ws.map Prod.fst = kvs.map Prod.fst ∧ SReps K M G (ws.map Prod.snd) (kvs.map Prod.snd)
  | .ldcT o ws kvs => H a = some (.frz o (.dT ws)) ∧ ws.map Prod.fst = kvs.map Prod.fst ∧ SReps K M G (ws.map Prod.snd) (kvs.map Prod.snd)
  | .dead => False
theorem MRep.mono {K : PySem.W.Frag} {M M' : Mk} {G G' H H' : Hp} {a : Addr} (i : Ids M M') (e : Sub G G') (ha : ∀ o, H a = some o → H' a = some o) : ∀ {mo : MO}, MRep K M G H a mo → MRep K M' G' H' a mo
  | .lst _, ⟨vs, h, r⟩ => ⟨vs, ha _ h, r.mono i e⟩
  | .dct _, ⟨ws, h, k, r⟩ => ⟨ws, ha _ h, k, r.mono i e⟩
  | .dcT _, ⟨ws, h, k, r⟩ => ⟨ws, ha _ h, k, r.mono i e⟩
  | .obj _ _, ⟨dx, ws, h, k, r⟩ => ⟨dx, ws, ha _ h, k, r.mono i e⟩
  | .ldc _ _ _, ⟨h, k, r⟩ => ⟨ha _ h, k, r.mono i e⟩
  | .ldcT _ _ _, ⟨h, k, r⟩ => ⟨ha _ h, k, r.mono i e⟩
  | .dead, h => h.elim
theorem MRep.some {K : PySem.W.Frag} {M : Mk} {G H : Hp} {a : Addr} : ∀ {mo : MO}, MRep K M G H a mo → ∃ o, H a = some o
  | .lst _, ⟨_, h, _⟩ => ⟨_, h⟩
  | .dct _, ⟨_, h, _⟩ => ⟨_, h⟩
  | .dcT _, ⟨_, h, _⟩ => ⟨_, h⟩
  | .obj _ _, ⟨_, _, h, _⟩ => ⟨_, h⟩
  | .ldc _ _ _, ⟨h, _⟩ => ⟨_, h⟩
  | .ldcT _ _ _, ⟨h, _⟩ => ⟨_, h⟩
  | .dead, h => h.elim

def noTup : HO → Bool
  | .tup _ => false
  | _ => true
/-- the heap is what the store says -/
structure Wd (K : PySem.W.Frag) (M : Mk) (H : Hp) (μ : DSt) : Prop where
  len : M.ids.length = μ.length
  inj : ∀ (i j : Nat) (a : Addr), M.ids[i]? = some (some a) → M.ids[j]? = some (some a) → i = j
  ob : ∀ (n : Nat) (a : Addr), M.ids[n]? = some (some a) → ∃ mo, μ[n]? = some mo ∧ MRep K M (wo M H) H a mo
  hid : ∀ a ∈ M.hid, some a ∉ M.ids ∧ ∃ o, H a = some o ∧ noTup o = true
  al : ∀ n, n < M.ids.length → ∃ a, M.ids[n]? = some (some a)
/-- later -/
structure Le (M : Mk) (H : Hp) (M' : Mk) (H' : Hp) : Prop where
  ids : Ids M M'
  len : M.ids.length ≤ M'.ids.length
  sub : Sub (wo M H) (wo M' H')
  all : ∀ a, H a ≠ none → H' a ≠ none
  hid : ∀ a ∈ M.hid, a ∈ M'.hid ∧ H' a = H a
  fz : ∀ a o u, H a = some (.frz o u) → some a ∉ M.ids → a ∉ M.hid → H' a = some (.frz o u)
theorem Le.refl (M : Mk) (H : Hp) : Le M H M H := ⟨Ids.refl M, Nat.le_refl _, Sub.refl _, fun _ h => h, fun _ h => ⟨h, rfl⟩, fun _ _ _ h _ _ => h⟩
/-- what is no such thing stays so -/
theorem Sub.out {M M' : Mk} {H H' : Hp} (e : Sub (wo M H) (wo M' H')) {a : Addr} {o : HO} (h : H a = some o) (n : some a ∉ M.ids) (n' : a ∉ M.hid) : some a ∉ M'.ids ∧ a ∉ M'.hid := by
  obtain ⟨_, _, _, h1, h2⟩ := wo_in (e _ _ (wo_some h n n'))
  exact ⟨h1, h2⟩
theorem Le.trans {M M1 M2 : Mk} {H H1 H2 : Hp} (a : Le M H M1 H1) (b : Le M1 H1 M2 H2) : Le M H M2 H2 :=
  ⟨a.ids.trans b.ids, Nat.le_trans a.len b.len, a.sub.trans b.sub, fun c h => b.all c (a.all c h), fun c h => ⟨(b.hid c (a.hid c h).1).1, ((b.hid c (a.hid c h).1).2).trans (a.hid c h).2⟩,
   fun c o u h n n' => b.fz c o u (a.fz c o u h n n') (a.sub.out h n n').1 (a.sub.out h n n').2⟩
theorem Le.srep {K : PySem.W.Frag} {M M' : Mk} {H H' : Hp} (l : Le M H M' H') {v : V} {x : SV} (h : SRep K M (wo M H) v x) : SRep K M' (wo M' H') v x := h.mono l.ids l.sub
theorem Le.sreps {K : PySem.W.Frag} {M M' : Mk} {H H' : Hp} (l : Le M H M' H') {v : List V} {x : List SV} (h : SReps K M (wo M H) v x) : SReps K M' (wo M' H') v x := h.mono l.ids l.sub
theorem mem_of_get {M : Mk} {n : Nat} {a : Addr} (h : M.ids[n]? = some (some a)) : some a ∈ M.ids := List.mem_of_getElem? h
theorem get_of_mem {M : Mk} {a : Addr} (h : some a ∈ M.ids) : ∃ n : Nat, M.ids[n]? = some (some a) := List.getElem?_of_mem h
theorem upd_some {H : Hp} {p : Addr} {o : HO} : ∀ a, H a ≠ none → upd H p o a ≠ none := fun a ha => by
  by_cases e : a = p
  · rw [e, upd_same]; intro z; cases z
  · rw [upd_ne e]; exact ha
section
variable {K : PySem.W.Frag} {M : Mk} {H : Hp} {μ : DSt} {p : Addr} {o : HO}
theorem Wd.fresh (W : Wd K M H μ) (h : H p = none) : some p ∉ M.ids := fun hm => by
  obtain ⟨n, e⟩ := get_of_mem hm
  obtain ⟨mo, _, r⟩ := W.ob n p e
  obtain ⟨o, ho⟩ := r.some
  rw [h] at ho
  cases ho
theorem Wd.freshH (W : Wd K M H μ) (h : H p = none) : p ∉ M.hid := fun hm => by
  obtain ⟨o, e, _⟩ := (W.hid p hm).2
  rw [h] at e
  cases e
theorem hid_upd {a : Addr} (h : ∃ o, H a = some o ∧ noTup o = true) (n : a ≠ p) : ∃ u, upd H p o a = some u ∧ noTup u = true := by
  rw [upd_ne n]
  exact h
theorem hid_upd' {a : Addr} (h : ∃ o, H a = some o ∧ noTup o = true) (n : noTup o = true) : ∃ u, upd H p o a = some u ∧ noTup u = true := by
  by_cases e : a = p
  · rw [e, upd_same]
    exact ⟨o, rfl, n⟩
  · exact hid_upd h e
theorem wo_new (h : H p = none) : Sub (wo M H) (wo M (upd H p o)) := fun a u e => by
  obtain ⟨o', e1, rfl, e2, e3⟩ := wo_in e
  exact wo_some (by rw [upd_ne (ne_of_none e1 h)]; exact e1) e2 e3
theorem le_new (W : Wd K M H μ) (h : H p = none) : Le M H M (upd H p o) := ⟨Ids.refl M, Nat.le_refl _, wo_new h, upd_some, fun a ha => ⟨ha, upd_ne fun z => W.freshH h (z ▸ ha)⟩, fun a o u e _ _ => by rw [upd_ne (ne_of_none e h)]; exact e⟩
theorem wo_at (W : Wd K M H μ) (h : H p = none) : wo M (upd H p o) p = some (unf o) := wo_some upd_same (W.fresh h) (W.freshH h)
theorem wd_new (W : Wd K M H μ) (h : H p = none) : Wd K M (upd H p o) μ := by
  refine ⟨W.len, W.inj, fun n a e => ?_, fun a ha => ⟨(W.hid a ha).1, hid_upd (W.hid a ha).2 fun z => W.freshH h (z ▸ ha)⟩, W.al⟩
  obtain ⟨mo, h1, r⟩ := W.ob n a e
  exact ⟨mo, h1, r.mono (Ids.refl M) (wo_new h) fun o q => by rw [upd_ne (ne_of_none q h)]; exact q⟩
/-- a thing changes -/
theorem wo_set (hm : some p ∈ M.ids ∨ p ∈ M.hid) : wo M (upd H p o) = wo M H := by
  funext a
  unfold wo
  by_cases e : some a ∈ M.ids ∨ a ∈ M.hid
  · rw [if_pos e, if_pos e]
  · rw [if_neg e, if_neg e, upd_ne]
    intro z
    subst z
    exact e hm
theorem le_set (W : Wd K M H μ) (hm : some p ∈ M.ids) : Le M H M (upd H p o) := ⟨Ids.refl M, Nat.le_refl _, by rw [wo_set (.inl hm)]; exact Sub.refl _, upd_some, fun a ha => ⟨ha, upd_ne fun z => (W.hid a ha).1 (z ▸ hm)⟩, fun a o u e n _ => by rw [upd_ne (show a ≠ p from fun z => n (z ▸ hm))]; exact e⟩
theorem wd_set {n : Nat} {mo : MO} (W : Wd K M H μ) (hn : M.ids[n]? = some (some p)) (r : MRep K M (wo M H) (upd H p o) p mo) : Wd K M (upd H p o) (μ.set n mo) := by
  refine ⟨by rw [List.length_set]; exact W.len, W.inj, fun j a e => ?_, fun a ha => ⟨(W.hid a ha).1, hid_upd (W.hid a ha).2 fun z => (W.hid a ha).1 (z ▸ mem_of_get hn)⟩, W.al⟩
  by_cases hj : j = n
  · subst hj
    rw [hn] at e
    cases e
    refine ⟨mo, ?_, by rw [wo_set (.inl (mem_of_get hn))]; exact r⟩
    have hl : j < μ.length := by
      rw [← W.len]
      exact (List.getElem?_eq_some_iff.mp hn).1
    rw [List.getElem?_set_self hl]
  · obtain ⟨mo', h1, r'⟩ := W.ob j a e
    refine ⟨mo', by rw [List.getElem?_set_ne (Ne.symm hj)]; exact h1, ?_⟩
    rw [wo_set (.inl (mem_of_get hn))]
    exact r'.mono (Ids.refl M) (Sub.refl _) fun o q => by
      rw [upd_ne]
      · exact q
      · intro z
        subst z
        exact hj (W.inj j n a e hn)
/-- a list that is being made changes -/
theorem wd_hid (W : Wd K M H μ) (hp : p ∈ M.hid) (ho : noTup o = true := by rfl) : Wd K M (upd H p o) μ := by
  refine ⟨W.len, W.inj, fun j a e => ?_, fun a ha => ⟨(W.hid a ha).1, hid_upd' (W.hid a ha).2 ho⟩, W.al⟩
  obtain ⟨mo', h1, r'⟩ := W.ob j a e
  refine ⟨mo', h1, ?_⟩
  rw [wo_set (.inr hp)]
  exact r'.mono (Ids.refl M) (Sub.refl _) fun o q => by
    rw [upd_ne]
    · exact q
    · intro z
      subst z
      exact (W.hid a hp).1 (mem_of_get e)
/-- a new thing that may change -/
def Mk.add (M : Mk) (p : Addr) : Mk := ⟨M.ids ++ [some p], M.hid⟩
theorem wo_newm (h : H p = none) : Sub (wo M H) (wo (M.add p) (upd H p o)) := fun a u e => by
  obtain ⟨o', e1, rfl, e2, e3⟩ := wo_in e
  have hne := ne_of_none e1 h
  refine wo_some (by rw [upd_ne hne]; exact e1) (fun hm => ?_) e3
  rcases List.mem_append.mp hm with hm | hm
  · exact e2 hm
  · have hm' := List.mem_singleton.mp hm
    exact hne (Option.some.inj hm')
theorem ids_newm : Ids M (M.add p) := fun n a e => by
  show (M.ids ++ [some p])[n]? = _
  rw [List.getElem?_append_left (List.getElem?_eq_some_iff.mp e).1]
  exact e
theorem le_newm (W : Wd K M H μ) (h : H p = none) : Le M H (M.add p) (upd H p o) := ⟨ids_newm, by show _ ≤ (M.ids ++ [some p]).length; rw [List.length_append]; exact Nat.le_add_right _ _, wo_newm h, upd_some, fun a ha => ⟨ha, upd_ne fun z => W.freshH h (z ▸ ha)⟩, fun a o u e _ _ => by rw [upd_ne (ne_of_none e h)]; exact e⟩
theorem at_newm : (M.add p).ids[M.ids.length]? = some (some p) := by
  show (M.ids ++ [some p])[M.ids.length]? = _
  rw [List.getElem?_append_right (Nat.le_refl _), Nat.sub_self]
  rfl
theorem wd_newm {mo : MO} (W : Wd K M H μ) (h : H p = none) (r : MRep K (M.add p) (wo (M.add p) (upd H p o)) (upd H p o) p mo) : Wd K (M.add p) (upd H p o) (μ ++ [mo]) := by
  have at_ : ∀ (j : Nat) (a : Addr), (M.add p).ids[j]? = some (some a) → (M.ids[j]? = some (some a) ∧ a ≠ p) ∨ (j = M.ids.length ∧ a = p) := fun j a e => by
    have e' : (M.ids ++ [some p])[j]? = some (some a) := e
    by_cases hj : j < M.ids.length
    · rw [List.getElem?_append_left hj] at e'
      refine .inl ⟨e', fun z => ?_⟩
      rw [z] at e'
      exact W.fresh h (mem_of_get e')
    · rw [List.getElem?_append_right (Nat.le_of_not_lt hj)] at e'
      have hk : j - M.ids.length = 0 := by
        have := (List.getElem?_eq_some_iff.mp e').1
        simp only [List.length_singleton] at this
        omega
      rw [hk] at e'
      exact .inr ⟨by omega, by simpa using e'.symm⟩
  refine ⟨by show (M.ids ++ [some p]).length = _; rw [List.length_append, List.length_append, W.len]; rfl, fun i j a e1 e2 => ?_, fun j a e => ?_, fun a ha => ⟨fun hm => ?_, hid_upd (W.hid a ha).2 fun z => W.freshH h (z ▸ ha)⟩, fun n hn => ?_⟩
  · rcases at_ i a e1 with ⟨a1, n1⟩ | ⟨a1, b1⟩
    · rcases at_ j a e2 with ⟨a2, _⟩ | ⟨_, b2⟩
      · exact W.inj i j a a1 a2
      · exact absurd b2 n1
    · rcases at_ j a e2 with ⟨_, n2⟩ | ⟨a2, _⟩
      · exact absurd b1 n2
      · omega
  · rcases at_ j a e with ⟨a1, n1⟩ | ⟨a1, b1⟩
    · obtain ⟨mo', h1, r'⟩ := W.ob j a a1
      refine ⟨mo', by rw [List.getElem?_append_left (List.getElem?_eq_some_iff.mp h1).1]; exact h1, r'.mono ids_newm (wo_newm h) fun o q => by rw [upd_ne n1]; exact q⟩
    · subst b1
      refine ⟨mo, ?_, r⟩
      rw [a1, W.len, List.getElem?_append_right (Nat.le_refl _), Nat.sub_self]
      rfl
  · rcases List.mem_append.mp (show some a ∈ M.ids ++ [some p] from hm) with hm | hm
    · exact (W.hid a ha).1 hm
    · have hm' := Option.some.inj (List.mem_singleton.mp hm)
      subst hm'
      exact W.freshH h ha
  · have hn : n < (M.ids ++ [some p]).length := hn
    by_cases z : n < M.ids.length
    · obtain ⟨a, ha⟩ := W.al n z
      exact ⟨a, ids_newm n a ha⟩
    · have e : n = M.ids.length := by
        rw [List.length_append, List.length_singleton] at hn
        omega
      rw [e]
      exact ⟨p, at_newm⟩
/-- a list that is being made -/
def Mk.hide (M : Mk) (p : Addr) : Mk := ⟨M.ids, p :: M.hid⟩
theorem le_hide (W : Wd K M H μ) (h : H p = none) : Le M H (M.hide p) (upd H p o) := by
  refine ⟨Ids.refl _, Nat.le_refl _, fun a u e => ?_, upd_some, fun a ha => ⟨List.mem_cons_of_mem _ ha, upd_ne fun z => W.freshH h (z ▸ ha)⟩, fun a o u e _ _ => by rw [upd_ne (ne_of_none e h)]; exact e⟩
  obtain ⟨o', e1, rfl, e2, e3⟩ := wo_in e
  have hne := ne_of_none e1 h
  refine wo_some (by rw [upd_ne hne]; exact e1) e2 fun hm => ?_
  rcases List.mem_cons.mp hm with hm | hm
  · exact hne hm
  · exact e3 hm
theorem wd_hide (W : Wd K M H μ) (h : H p = none) (ho : noTup o = true := by rfl) : Wd K (M.hide p) (upd H p o) μ := by
  refine ⟨W.len, W.inj, fun n a e => ?_, fun a ha => ?_, W.al⟩
  · obtain ⟨mo, h1, r⟩ := W.ob n a e
    exact ⟨mo, h1, r.mono (M := M) (M' := M.hide p) (fun _ _ z => z) (le_hide W h).sub fun o q => by rw [upd_ne (ne_of_none q h)]; exact q⟩
  · rcases List.mem_cons.mp ha with hm | hm
    · rw [hm]
      exact ⟨W.fresh h, o, upd_same, ho⟩
    · exact ⟨(W.hid a hm).1, hid_upd' (W.hid a hm).2 ho⟩
/-- it is made: what was hidden in M0 alone stays hidden -/
theorem le_made {M0 : Mk} {H0 : Hp} (l : Le (M0.hide p) H0 M H) (hs : Sub (wo M0 H0) (wo (M0.hide p) H0)) : Le M0 H0 ⟨M.ids, M0.hid⟩ H := by
  refine ⟨l.ids, l.len, fun a u e => ?_, l.all, fun a ha => ⟨ha, (l.hid a (List.mem_cons_of_mem _ ha)).2⟩, fun a o u e n n' => ?_⟩
  · obtain ⟨o', e1, rfl, e2, _⟩ := wo_in (l.sub _ _ (hs _ _ e))
    obtain ⟨_, _, _, _, e3⟩ := wo_in e
    exact wo_some e1 e2 e3
  · refine l.fz a o u e n fun z => ?_
    rcases List.mem_cons.mp z with z | z
    · obtain ⟨_, _, _, _, e3⟩ := wo_in (hs _ _ (wo_some e n n'))
      exact e3 (z ▸ List.mem_cons_self ..)
    · exact n' z
theorem wd_made {hs : List Addr} (W : Wd K M H μ) (h : ∀ a ∈ hs, a ∈ M.hid) : Wd K ⟨M.ids, hs⟩ H μ := by
  have sb : Sub (wo M H) (wo ⟨M.ids, hs⟩ H) := fun a u e => by
    obtain ⟨o', e1, rfl, e2, e3⟩ := wo_in e
    exact wo_some e1 e2 fun z => e3 (h a z)
  refine ⟨W.len, W.inj, fun n a e => ?_, fun a ha => W.hid a (h a ha), W.al⟩
  obtain ⟨mo, h1, r⟩ := W.ob n a e
  exact ⟨mo, h1, r.mono (M := M) (M' := ⟨M.ids, hs⟩) (fun _ _ z => z) sb fun _ z => z⟩
end
end DV

set_option Elab.async false
set_option linter.all false
set_option maxRecDepth 100000
namespace DV
open PySem PySem.Spec PyProof.Rows L2

abbrev DK := SV → DSt → Prop
abbrev DTE := DEnv → DSt → DK → Prop
abbrev DTA := DEnv → DSt → (List SV → DSt → Prop) → Prop
abbrev DTT := DEnv → DSt → (Bool → DSt → Prop) → Prop
abbrev DX := Value → List (Str × D) → DSt → Prop
structure DEnds where
  nx : DEnv → DSt → Prop
  rt : DK
  bk : DEnv → DSt → Prop := fun _ _ => False
  ct : DEnv → DSt → Prop := fun _ _ => False
  fl : Nat := 0
abbrev DTS := DEnds → DEnv → DSt → Prop
abbrev DSp := List SV → DSt → DK → DX → Prop

structure EnvR (K : PySem.W.Frag) (M : Mk) (G : Hp) (σ : L2.St) (ε : DEnv) : Prop where
  len : σ.length = ε.length
  at_ : ∀ (i : Nat) (x : SV), ε[i]? = some (some x) → ∃ v, σ[i]? = some (some v) ∧ SRep K M G v x
def XRep (K : PySem.W.Frag) (G H : Hp) : Option Addr → List (Str × D) → Prop
  | none, fs => fs = []
  | some d, fs => ∃ ws : List (Str × V), G d = some (.xd ws) ∧ ws.map Prod.fst = fs.map Prod.fst ∧ Reps K G (ws.map Prod.snd) (fs.map Prod.snd)
/-- the entry; what is wished of errors -/
structure Bs where
  K : PySem.W.Frag
  E : XK
  Ψ : DX
  ES : L2.St → XK := fun _ => E
  ΨS : DEnv → DX := fun _ => Ψ
  J : Mk → Hp → Prop := fun _ _ => True
/-- where one came from -/
structure Ba (B : Bs) where
  M0 : Mk
  H0 : Hp
  hE : ∀ (cls : Value) (dp : Option Addr) (M : Mk) (H : Hp) (fs : List (Str × D)) (μ : DSt), Le M0 H0 M H → Wd B.K M H μ → XRep B.K (wo M H) H dp fs → B.Ψ cls fs μ → B.E cls dp H
  hS : ∀ (σ : L2.St) (ε : DEnv) (cls : Value) (dp : Option Addr) (M : Mk) (H : Hp) (fs : List (Str × D)) (μ : DSt), Le M0 H0 M H → Wd B.K M H μ → EnvR B.K M (wo M H) σ ε → XRep B.K (wo M H) H dp fs → B.ΨS ε cls fs μ → B.ES σ cls dp H
  hJ : ∀ (M : Mk) (H : Hp), Le M0 H0 M H → B.J M H
def Ba.move {B : Bs} (b : Ba B) {M : Mk} {H : Hp} (l : Le b.M0 b.H0 M H) : Ba B := ⟨M, H, fun cls dp M' H' fs μ l' => b.hE cls dp M' H' fs μ (l.trans l'), fun σ ε cls dp M' H' fs μ l' => b.hS σ ε cls dp M' H' fs μ (l.trans l'), fun M' H' l' => b.hJ M' H' (l.trans l')⟩
structure At {B : Bs} (bb : Ba B) (M : Mk) (σ : L2.St) (H : Hp) (ε : DEnv) (μ : DSt) : Prop where
  le : Le bb.M0 bb.H0 M H
  wd : Wd B.K M H μ
  env : EnvR B.K M (wo M H) σ ε
/-- what is known of a value -/
abbrev Rv (B : Bs) (M : Mk) (H : Hp) (v : V) (x : SV) : Prop := SRep B.K M (wo M H) v x
abbrev Rvs (B : Bs) (M : Mk) (H : Hp) (v : List V) (x : List SV) : Prop := SReps B.K M (wo M H) v x

section
variable {B : Bs} {bb : Ba B} {M M' : Mk} {σ : L2.St} {H H' : Hp} {ε : DEnv} {μ μ' : DSt}
theorem EnvR.mono {K : PySem.W.Frag} {G G' : Hp} (i : Ids M M') (e : Sub G G') (h : EnvR K M G σ ε) : EnvR K M' G' σ ε := ⟨h.len, fun n x q => by
  obtain ⟨v, h1, r⟩ := h.at_ n x q
  exact ⟨v, h1, r.mono i e⟩⟩
theorem At.next (a : At bb M σ H ε μ) (l : Le M H M' H') (w : Wd B.K M' H' μ') : At bb M' σ H' ε μ' := ⟨a.le.trans l, w, a.env.mono l.ids l.sub⟩
theorem EnvR.set {K : PySem.W.Frag} {G : Hp} {v : V} {x : SV} (h : EnvR K M G σ ε) (i : Nat) (r : SRep K M G v x) : EnvR K M G (σ.set i (some v)) (ε.set i (some x)) := by
  refine ⟨by rw [List.length_set, List.length_set]; exact h.len, fun n y q => ?_⟩
  by_cases e : i = n
  · subst e
    have hl : i < ε.length := by
      have := (List.getElem?_eq_some_iff.mp q).1
      rw [List.length_set] at this
      exact this
    rw [List.getElem?_set_self hl] at q
    cases q
    exact ⟨v, List.getElem?_set_self (by rw [h.len]; exact hl), r⟩
  · rw [List.getElem?_set_ne e] at q
    rw [List.getElem?_set_ne e]
    exact h.at_ n y q
theorem At.set {v : V} {x : SV} (a : At bb M σ H ε μ) (i : Nat) (r : Rv B M H v x) : At bb M (σ.set i (some v)) H (ε.set i (some x)) μ := ⟨a.le, a.wd, a.env.set i r⟩
end

/-! ### the judgements -/
def SimE (B : Bs) (te : TE) (t : DTE) : Prop := ∀ (bb : Ba B) (M : Mk) (σ : L2.St) (H : Hp) (ε : DEnv) (μ : DSt) (Φ : DK) (Q : VK), At bb M σ H ε μ →
  (∀ v M' H' x μ', Le M H M' H' → Wd B.K M' H' μ' → Rv B M' H' v x → Φ x μ' → Q v H') → t ε μ Φ → te σ H Q
def SimA (B : Bs) (te : TA) (t : DTA) : Prop := ∀ (bb : Ba B) (M : Mk) (σ : L2.St) (H : Hp) (ε : DEnv) (μ : DSt) (Φ : List SV → DSt → Prop) (Q : List V → Hp → Prop), At bb M σ H ε μ →
  (∀ v M' H' x μ', Le M H M' H' → Wd B.K M' H' μ' → Rvs B M' H' v x → Φ x μ' → Q v H') → t ε μ Φ → te σ H Q
def SimT (B : Bs) (te : TT) (t : DTT) : Prop := ∀ (bb : Ba B) (M : Mk) (σ : L2.St) (H : Hp) (ε : DEnv) (μ : DSt) (Φ : Bool → DSt → Prop) (Q : Bool → Hp → Prop), At bb M σ H ε μ →
  (∀ b M' H' μ', Le M H M' H' → Wd B.K M' H' μ' → Φ b μ' → Q b H') → t ε μ Φ → te σ H Q
structure EndsR {B : Bs} (bb : Ba B) (Φ : DEnds) (D : Ends) : Prop where
  nx : ∀ M σ H ε μ, At bb M σ H ε μ → Φ.nx ε μ → D.nx σ H
  rt : ∀ v M H x μ, Le bb.M0 bb.H0 M H → Wd B.K M H μ → Rv B M H v x → Φ.rt x μ → D.rt v H
  bk : ∀ M σ H ε μ, At bb M σ H ε μ → Φ.bk ε μ → D.bk σ H
  ct : ∀ M σ H ε μ, At bb M σ H ε μ → Φ.ct ε μ → D.ct σ H
  fl : bb.M0.ids.length ≤ Φ.fl
def SimS (B : Bs) (ts : TS) (t : DTS) : Prop := ∀ (bb : Ba B) (M : Mk) (σ : L2.St) (H : Hp) (ε : DEnv) (μ : DSt) (Φ : DEnds) (D : Ends), At bb M σ H ε μ → EndsR bb Φ D → t Φ ε μ → ts D σ H
/-- a two-place operation by values -/
def SimR (B : Bs) (r : R2) (t : SV → SV → DSt → DK → Prop) : Prop := ∀ (M : Mk) (H : Hp) (μ : DSt) (v w : V) (x y : SV) (Φ : DK) (Q : VK), Wd B.K M H μ → Rv B M H v x → Rv B M H w y →
  (∀ v M' H' x μ', Le M H M' H' → Wd B.K M' H' μ' → Rv B M' H' v x → Φ x μ' → Q v H') → t x y μ Φ → r v w H Q
def SimC (B : Bs) (r : List V → Hp → VK → Prop) (t : List SV → DSt → DK → Prop) : Prop := ∀ (M : Mk) (H : Hp) (μ : DSt) (v : List V) (x : List SV) (Φ : DK) (Q : VK), Wd B.K M H μ → Rvs B M H v x →
  (∀ v M' H' x μ', Le M H M' H' → Wd B.K M' H' μ' → Rv B M' H' v x → Φ x μ' → Q v H') → t x μ Φ → r v H Q

structure DE (X : Cx) (B : Bs) (e : Expr) (u : TE) (t : DTE) : Prop where
  p : PE X e u
  s : SimE B u t
structure DA (X : Cx) (B : Bs) (e : List Expr) (u : TA) (t : DTA) : Prop where
  p : PA X e u
  s : SimA B u t
structure DT (X : Cx) (B : Bs) (e : Expr) (u : TT) (t : DTT) : Prop where
  p : PT X e u
  s : SimT B u t
structure DW (X : Cx) (B : Bs) (e : Expr) (u : TT) (t : DTT) : Prop where
  p : PW X e u
  s : SimT B u t
structure DS (X : Cx) (B : Bs) (e : Stmt) (u : TS) (t : DTS) : Prop where
  p : PS X e u
  s : SimS B u t
structure DSs (X : Cx) (B : Bs) (e : List Stmt) (u : TS) (t : DTS) : Prop where
  p : PSs X e u
  s : SimS B u t
abbrev DTG := SV → DEnv → DSt → (DEnv → DSt → Prop) → Prop
abbrev DTGs := List SV → DEnv → DSt → (DEnv → DSt → Prop) → Prop
def SimG (B : Bs) (u : TG) (g : DTG) : Prop := ∀ (bb : Ba B) (M : Mk) (σ : L2.St) (H : Hp) (ε : DEnv) (μ : DSt) (v : V) (x : SV) (Φ : DEnv → DSt → Prop) (Q : L2.St → Hp → Prop), At bb M σ H ε μ → Rv B M H v x →
    (∀ M' σ' H' ε' μ', Le M H M' H' → At bb M' σ' H' ε' μ' → Φ ε' μ' → Q σ' H') → g x ε μ Φ → u v σ H Q
def SimGs (B : Bs) (u : TGs) (g : DTGs) : Prop := ∀ (bb : Ba B) (M : Mk) (σ : L2.St) (H : Hp) (ε : DEnv) (μ : DSt) (v : List V) (x : List SV) (Φ : DEnv → DSt → Prop) (Q : L2.St → Hp → Prop), At bb M σ H ε μ → Rvs B M H v x →
    (∀ M' σ' H' ε' μ', Le M H M' H' → At bb M' σ' H' ε' μ' → Φ ε' μ' → Q σ' H') → g x ε μ Φ → u v σ H Q
structure DG (X : Cx) (B : Bs) (e : Expr) (u : TG) (g : DTG) : Prop where
  p : PG X e u
  s : SimG B u g
structure DGs (X : Cx) (B : Bs) (e : List Expr) (u : TGs) (g : DTGs) : Prop where
  p : PGs X e u
  s : SimGs B u g
/-! ### cases -/
def bcase (k : Bool) (a b : Prop) : Prop := match k with
  | true => a
  | false => b
def svb (x : SV) (f : Bool → Prop) : Prop := match x with
  | .d (.bl k) => f k
  | _ => False
def svi (x : SV) (f : Int → Prop) : Prop := match x with
  | .d (.int k) => f k
  | _ => False
theorem svb_inv {B : Bs} {M : Mk} {H : Hp} {v : V} {x : SV} {f : Bool → Prop} (r : Rv B M H v x) (h : svb x f) : ∃ k, v = .bl k ∧ x = .d (.bl k) ∧ f k := by
  unfold svb at h
  split at h
  · cases r with
    | d r => cases r; exact ⟨_, rfl, rfl, h⟩
  · exact h.elim
theorem svi_inv {B : Bs} {M : Mk} {H : Hp} {v : V} {x : SV} {f : Int → Prop} (r : Rv B M H v x) (h : svi x f) : ∃ k, v = .int k ∧ x = .d (.int k) ∧ f k := by
  unfold svi at h
  split at h
  · cases r with
    | d r => cases r; exact ⟨_, rfl, rfl, h⟩
  · exact h.elim
/-! ### expressions -/
section
variable {X : Cx} {B : Bs} {a b c e : Expr} {es : List Expr} {pos : Pos} {ta tb tc te : DTE} {tl : DTA} {ua ub uc ue : TE} {ul : TA}
def lk : DEnv → Nat → (SV → Prop) → Prop
  | [], _, _ => False
  | o :: _, 0, Φ => match o with
    | some x => Φ x
    | none => False
  | _ :: r, n + 1, Φ => lk r n Φ
theorem lk_get : ∀ {ε : DEnv} {i : Nat} {Φ : SV → Prop}, lk ε i Φ → ∃ x, ε[i]? = some (some x) ∧ Φ x
  | [], _, _, h => h.elim
  | some x :: _, 0, _, h => ⟨x, rfl, h⟩
  | none :: _, 0, _, h => (show False from h).elim
  | _ :: r, n + 1, _, h => by
    obtain ⟨x, h1, h2⟩ := lk_get (ε := r) (i := n) h
    exact ⟨x, by simpa using h1, h2⟩
def dVar (i : Nat) : DTE := fun ε μ Φ => lk ε i fun x => Φ x μ
theorem de_var {i : Nat} (h : PE X e (tVar i)) : DE X B e (tVar i) (dVar i) := ⟨h, fun bb M σ H ε μ Φ Q a k h => by
  obtain ⟨x, h1, h2⟩ := lk_get h
  obtain ⟨v, h3, r⟩ := a.env.at_ i x h1
  exact ⟨v, h3, k v M H x μ (Le.refl M H) a.wd r h2⟩⟩
def dC (d : D) : DTE := fun _ μ Φ => Φ (.d d) μ
theorem de_c {v : V} {d : D} (h : PE X e (tC v)) (r : ∀ K G, Rep K G v d) : DE X B e (tC v) (dC d) := ⟨h, fun bb M σ H ε μ Φ Q a k h => k v M H _ μ (Le.refl M H) a.wd (.d (r _ _)) h⟩
theorem de_int {i : Int} {j} : DE X B (.Constant (.int i) j pos) (tC (.int i)) (dC (.int i)) := de_c pe_int fun _ _ => .int i
theorem de_bl {i : Bool} {j} : DE X B (.Constant (.bool i) j pos) (tC (.bl i)) (dC (.bl i)) := de_c pe_bl fun _ _ => .bl i
theorem de_non {j} : DE X B (.Constant .none j pos) (tC .non) (dC .non) := de_c pe_non fun _ _ => .non
theorem de_str {i : Str} {j} : DE X B (.Constant (.str i) j pos) (tC (.str i)) (dC (.str i)) := de_c pe_str fun _ _ => .str i
/-- a constant of the module -/
theorem de_glob {x : Str} {v : V} {u : Value} {d : D} (hg : Gl X x) (hm : X.mg x = some u) (r : RelV v u) (rd : ∀ K G, Rep K G v d) (hd : (x == ("__debug__" : Str)) = false := by decide) : DE X B (.Name x pos) (tC v) (dC d) := de_c (pe_glob hg hm r hd) rd

def dOp (r : SV → SV → DSt → DK → Prop) (ta tb : DTE) : DTE := fun ε μ Φ => ta ε μ fun x μ1 => tb ε μ1 fun y μ2 => r x y μ2 Φ
theorem sim_op {r : R2} {rd : SV → SV → DSt → DK → Prop} {ua ub : TE} (hr : SimR B r rd) (ha : SimE B ua ta) (hb : SimE B ub tb) : SimE B (tOp r ua ub) (dOp rd ta tb) := fun bb M σ H ε μ Φ Q a k h =>
  ha bb M σ H ε μ _ _ a (fun v M1 H1 x μ1 l1 w1 r1 h1 => hb bb M1 σ H1 ε μ1 _ _ (a.next l1 w1) (fun w M2 H2 y μ2 l2 w2 r2 h2 =>
    hr M2 H2 μ2 v w x y Φ Q w2 (l2.srep r1) r2 (fun u M3 H3 z μ3 l3 => k u M3 H3 z μ3 ((l1.trans l2).trans l3)) h2) h1) h
theorem de_op {op : Operator} {r : R2} {rd : SV → SV → DSt → DK → Prop} (ho : OpR X (binaryOp op) r) (hr : SimR B r rd) (ha : DE X B a ua ta) (hb : DE X B b ub tb) : DE X B (.BinOp a op b pos) (tOp r ua ub) (dOp rd ta tb) :=
  have ⟨pa, sa⟩ := ha; have ⟨pb, sb⟩ := hb; ⟨pe_op ho pa pb, sim_op hr sa sb⟩
theorem de_cmp {op : CmpOp} {r : R2} {rd : SV → SV → DSt → DK → Prop} (ho : OpR X (compareOp op) r) (hr : SimR B r rd) (ha : DE X B a ua ta) (hb : DE X B b ub tb) (hm : behindInMarks op b = false) : DE X B (.Compare a [op] [b] pos) (tOp r ua ub) (dOp rd ta tb) :=
  have ⟨pa, sa⟩ := ha; have ⟨pb, sb⟩ := hb; ⟨pe_cmpR ho pa pb hm, sim_op hr sa sb⟩
def dTest (t : DTE) : DTT := fun ε μ Φ => t ε μ fun x μ1 => svb x fun k => Φ k μ1
theorem sim_test {ua : TE} (ha : SimE B ua ta) : SimT B (tTest ua) (dTest ta) := fun bb M σ H ε μ Φ Q a k h =>
  ha bb M σ H ε μ _ _ a (fun v M1 H1 x μ1 l1 w1 r1 h1 => by
    obtain ⟨c, e1, _, h1⟩ := svb_inv r1 h1
    exact ⟨c, e1, k _ M1 H1 μ1 l1 w1 h1⟩) h
theorem sim_B {ua : TE} (ha : SimE B ua ta) : SimT B (tB ua) (dTest ta) := fun bb M σ H ε μ Φ Q a k h =>
  ha bb M σ H ε μ _ _ a (fun v M1 H1 x μ1 l1 w1 r1 h1 => by
    obtain ⟨c, e1, _, h1⟩ := svb_inv r1 h1
    exact ⟨c, e1, k _ M1 H1 μ1 l1 w1 h1⟩) h
theorem dt_cmp {op : CmpOp} {r : R2} {rd : SV → SV → DSt → DK → Prop} (ho : OpR X (compareOp op) r) (hr : SimR B r rd) (ha : DE X B a ua ta) (hb : DE X B b ub tb) (hm : behindInMarks op b = false) : DT X B (.Compare a [op] [b] pos) (tTest (tOp r ua ub)) (dTest (dOp rd ta tb)) :=
  have ⟨pa, sa⟩ := ha; have ⟨pb, sb⟩ := hb; ⟨pt_cmpR ho pa pb hm, sim_test (sim_op hr sa sb)⟩
theorem dt_val (h : DE X B e ue te) (he : ∀ whole, isTrue e X.env whole = (do let v ← whole; standAt e.pos; holding [v] (truthy v)) := by intro _; rfl) : DT X B e (tB ue) (dTest te) :=
  have ⟨pa, sa⟩ := h; ⟨pt_val pa he, sim_B sa⟩
def dAnd (t u : DTT) : DTT := fun ε μ Φ => t ε μ fun k μ1 => bcase k (u ε μ1 Φ) (Φ false μ1)
def dOr (t u : DTT) : DTT := fun ε μ Φ => t ε μ fun k μ1 => bcase k (Φ true μ1) (u ε μ1 Φ)
def dNot (t : DTT) : DTT := fun ε μ Φ => t ε μ fun k μ1 => Φ (!k) μ1
theorem sim_and {t u : TT} {dt du : DTT} (h1 : SimT B t dt) (h2 : SimT B u du) : SimT B (tAnd t u) (dAnd dt du) := fun bb M σ H ε μ Φ Q a k h =>
  h1 bb M σ H ε μ _ _ a (fun c M1 H1 μ1 l1 w1 q => by
    cases c with
    | true => exact h2 bb M1 σ H1 ε μ1 _ _ (a.next l1 w1) (fun c M2 H2 μ2 l2 => k c M2 H2 μ2 (l1.trans l2)) q
    | false => exact k _ M1 H1 μ1 l1 w1 q) h
theorem sim_or {t u : TT} {dt du : DTT} (h1 : SimT B t dt) (h2 : SimT B u du) : SimT B (tOr t u) (dOr dt du) := fun bb M σ H ε μ Φ Q a k h =>
  h1 bb M σ H ε μ _ _ a (fun c M1 H1 μ1 l1 w1 q => by
    cases c with
    | false => exact h2 bb M1 σ H1 ε μ1 _ _ (a.next l1 w1) (fun c M2 H2 μ2 l2 => k c M2 H2 μ2 (l1.trans l2)) q
    | true => exact k _ M1 H1 μ1 l1 w1 q) h
theorem sim_not {t : TT} {dt : DTT} (h1 : SimT B t dt) : SimT B (tNot t) (dNot dt) := fun bb M σ H ε μ Φ Q a k h =>
  h1 bb M σ H ε μ _ _ a (fun c M1 H1 μ1 l1 w1 q => k _ M1 H1 μ1 l1 w1 q) h
theorem dw_and1 {u : TT} {t : DTT} (ha : DT X B a u t) : DW X B (.BoolOp .And [a] pos) u t := have ⟨p, s⟩ := ha; ⟨pw_and1 p, s⟩
theorem dw_or1 {u : TT} {t : DTT} (ha : DT X B a u t) : DW X B (.BoolOp .Or [a] pos) u t := have ⟨p, s⟩ := ha; ⟨pw_or1 p, s⟩
theorem dw_and {t u : DTT} {vt vu : TT} {rest : List Expr} (ha : DT X B a vt t) (hb : DW X B (.BoolOp .And (b :: rest) pos) vu u) : DW X B (.BoolOp .And (a :: b :: rest) pos) (tAnd vt vu) (dAnd t u) :=
  have ⟨p, s⟩ := ha; have ⟨p', s'⟩ := hb; ⟨pw_and p p', sim_and s s'⟩
theorem dw_or {t u : DTT} {vt vu : TT} {rest : List Expr} (ha : DT X B a vt t) (hb : DW X B (.BoolOp .Or (b :: rest) pos) vu u) : DW X B (.BoolOp .Or (a :: b :: rest) pos) (tOr vt vu) (dOr t u) :=
  have ⟨p, s⟩ := ha; have ⟨p', s'⟩ := hb; ⟨pw_or p p', sim_or s s'⟩
theorem DW.dt {u : TT} {t : DTT} (h : DW X B e u t) : DT X B e u t := have ⟨p, s⟩ := h; ⟨p.pt, s⟩
theorem dt_not {vt : TT} {t : DTT} (ha : DT X B a vt t) : DT X B (.UnaryOp .Not a pos) (tNot vt) (dNot t) := have ⟨p, s⟩ := ha; ⟨pt_not p, sim_not s⟩
def dAndV (t u : DTE) : DTE := fun ε μ Φ => t ε μ fun x μ1 => svb x fun k => bcase k (u ε μ1 Φ) (Φ (.d (.bl false)) μ1)
def dOrV (t u : DTE) : DTE := fun ε μ Φ => t ε μ fun x μ1 => svb x fun k => bcase k (Φ (.d (.bl true)) μ1) (u ε μ1 Φ)
def dNotV (t : DTE) : DTE := fun ε μ Φ => t ε μ fun x μ1 => svb x fun k => Φ (.d (.bl (!k))) μ1
def dIf (t : DTT) (u w : DTE) : DTE := fun ε μ Φ => t ε μ fun k μ1 => bcase k (u ε μ1 Φ) (w ε μ1 Φ)
theorem Rv.bl_inv {M : Mk} {H : Hp} {v : V} {k : Bool} (h : Rv B M H v (.d (.bl k))) : v = .bl k := by
  cases h with
  | d r => cases r; rfl
theorem Rv.int_inv {M : Mk} {H : Hp} {v : V} {k : Int} (h : Rv B M H v (.d (.int k))) : v = .int k := by
  cases h with
  | d r => cases r; rfl
theorem Rv.str_inv {M : Mk} {H : Hp} {v : V} {k : Str} (h : Rv B M H v (.d (.str k))) : v = .str k := by
  cases h with
  | d r => cases r; rfl
theorem Rv.non_inv {M : Mk} {H : Hp} {v : V} (h : Rv B M H v (.d .non)) : v = .non := by
  cases h with
  | d r => cases r; rfl
theorem Rv.tup_invE {M : Mk} {H : Hp} {v : V} {ds : List D} (h : Rv B M H v (.d (.tup ds))) : ∃ p xs, v = .ref p ∧ TupE B.K (wo M H) p xs ∧ Reps B.K (wo M H) xs ds := by
  cases h with
  | d r => cases r with
    | tup h1 h2 => exact ⟨_, _, rfl, h1, h2⟩
theorem Rv.tup_inv {M : Mk} {H : Hp} {v : V} {ds : List D} (h : Rv B M H v (.d (.tup ds))) : ∃ p xs, v = .ref p ∧ SqT B.K (wo M H) p xs ∧ Reps B.K (wo M H) xs ds := by
  obtain ⟨p, xs, e, h1, h2⟩ := h.tup_invE
  exact ⟨p, xs, e, h1.sqt, h2⟩
theorem Rv.lst_inv {M : Mk} {H : Hp} {v : V} {ds : List D} (h : Rv B M H v (.d (.lst ds))) : ∃ p xs, v = .ref p ∧ wo M H p = some (.lst xs) ∧ Reps B.K (wo M H) xs ds := by
  cases h with
  | d r => cases r with
    | lst h1 h2 => exact ⟨_, _, rfl, h1, h2⟩
theorem Rv.lsr_inv {M : Mk} {H : Hp} {v : V} {ds : List D} (h : Rv B M H v (.d (.lsr ds))) : ∃ p xs, v = .ref p ∧ SqL B.K (wo M H) p xs ∧ Reps B.K (wo M H) xs ds := by
  cases h with
  | d r => cases r with
    | lsr h1 h2 => exact ⟨_, _, rfl, h1, h2⟩
theorem Rv.m_inv {M : Mk} {H : Hp} {μ : DSt} {v : V} {n : Nat} {mo : MO} (w : Wd B.K M H μ) (h : Rv B M H v (.m n)) (hm : μ[n]? = some mo) : ∃ p, v = .ref p ∧ M.ids[n]? = some (some p) ∧ MRep B.K M (wo M H) H p mo := by
  cases h with
  | m h1 =>
    obtain ⟨mo', h2, r⟩ := w.ob _ _ h1
    rw [hm] at h2
    cases h2
    exact ⟨_, rfl, h1, r⟩
theorem de_one {op} (h : DE X B a ue te) : DE X B (.BoolOp op [a] pos) ue te := have ⟨p, s⟩ := h; ⟨pe_one p, s⟩
theorem de_and {rest : List Expr} (ha : DE X B a ua ta) (hb : DE X B (.BoolOp .And (b :: rest) pos) ub tb) : DE X B (.BoolOp .And (a :: b :: rest) pos) (tAndV ua ub) (dAndV ta tb) :=
  have ⟨p, s⟩ := ha; have ⟨p', s'⟩ := hb; ⟨pe_and p p', fun bb M σ H ε μ Φ Q a k h => s bb M σ H ε μ _ _ a (fun v M1 H1 x μ1 l1 w1 r1 h1 => by
    obtain ⟨c, e1, _, h1⟩ := svb_inv r1 h1
    cases c with
    | true => exact ⟨true, e1, s' bb M1 σ H1 ε μ1 _ _ (a.next l1 w1) (fun c M2 H2 x μ2 l2 => k c M2 H2 x μ2 (l1.trans l2)) h1⟩
    | false => exact ⟨false, e1, k _ M1 H1 _ μ1 l1 w1 (.d (.bl false)) h1⟩) h⟩
theorem de_or {rest : List Expr} (ha : DE X B a ua ta) (hb : DE X B (.BoolOp .Or (b :: rest) pos) ub tb) : DE X B (.BoolOp .Or (a :: b :: rest) pos) (tOrV ua ub) (dOrV ta tb) :=
  have ⟨p, s⟩ := ha; have ⟨p', s'⟩ := hb; ⟨pe_or p p', fun bb M σ H ε μ Φ Q a k h => s bb M σ H ε μ _ _ a (fun v M1 H1 x μ1 l1 w1 r1 h1 => by
    obtain ⟨c, e1, _, h1⟩ := svb_inv r1 h1
    cases c with
    | false => exact ⟨false, e1, s' bb M1 σ H1 ε μ1 _ _ (a.next l1 w1) (fun c M2 H2 x μ2 l2 => k c M2 H2 x μ2 (l1.trans l2)) h1⟩
    | true => exact ⟨true, e1, k _ M1 H1 _ μ1 l1 w1 (.d (.bl true)) h1⟩) h⟩
theorem de_not (ha : DE X B a ua ta) : DE X B (.UnaryOp .Not a pos) (tNotV ua) (dNotV ta) :=
  have ⟨p, s⟩ := ha; ⟨pe_not p, fun bb M σ H ε μ Φ Q a k h => s bb M σ H ε μ _ _ a (fun v M1 H1 x μ1 l1 w1 r1 h1 => by
    obtain ⟨c, e1, _, h1⟩ := svb_inv r1 h1
    exact ⟨_, e1, k _ M1 H1 _ μ1 l1 w1 (.d (.bl _)) h1⟩) h⟩
theorem de_ifExp {vt : TT} {t : DTT} (hc : DT X B c vt t) (ha : DE X B a ua ta) (hb : DE X B b ub tb) : DE X B (.IfExp c a b pos) (tIf vt ua ub) (dIf t ta tb) :=
  have ⟨p, s⟩ := hc; have ⟨pa, sa⟩ := ha; have ⟨pb, sb⟩ := hb; ⟨pe_ifExp p pa pb, fun bb M σ H ε μ Φ Q a k h => s bb M σ H ε μ _ _ a (fun c M1 H1 μ1 l1 w1 q => by
    cases c with
    | true => exact sa bb M1 σ H1 ε μ1 _ _ (a.next l1 w1) (fun c M2 H2 x μ2 l2 => k c M2 H2 x μ2 (l1.trans l2)) q
    | false => exact sb bb M1 σ H1 ε μ1 _ _ (a.next l1 w1) (fun c M2 H2 x μ2 l2 => k c M2 H2 x μ2 (l1.trans l2)) q) h⟩

/-! arguments, displays -/
def dNil : DTA := fun _ μ Φ => Φ [] μ
def dCons (ta : DTE) (tr : DTA) : DTA := fun ε μ Φ => ta ε μ fun x μ1 => tr ε μ1 fun xs μ2 => Φ (x :: xs) μ2
theorem da_nil : DA X B [] tNil dNil := ⟨pa_nil, fun bb M σ H ε μ Φ Q a k h => k [] M H [] μ (Le.refl M H) a.wd .nil h⟩
theorem sim_cons (s : SimE B ua ta) (s' : SimA B ul tl) : SimA B (tCons ua ul) (dCons ta tl) := fun bb M σ H ε μ Φ Q a k h =>
  s bb M σ H ε μ _ _ a (fun v M1 H1 x μ1 l1 w1 r1 h1 => s' bb M1 σ H1 ε μ1 _ _ (a.next l1 w1) (fun vs M2 H2 xs μ2 l2 w2 r2 h2 => k _ M2 H2 _ μ2 (l1.trans l2) w2 (.cons (l2.srep r1) r2) h2) h1) h
theorem da_cons (ha : DE X B e ue te) (hr : DA X B es ul tl) (hs : starEach (e :: es) X.env = (false, eval e X.env) :: starEach es X.env := by rfl) : DA X B (e :: es) (tCons ue ul) (dCons te tl) :=
  have ⟨p, s⟩ := ha; have ⟨p', s'⟩ := hr; ⟨pa_cons p p' hs, sim_cons s s'⟩
/-- all of them pure -/
def pures : List SV → Option (List D)
  | [] => some []
  | .d x :: r => match pures r with
    | some ds => some (x :: ds)
    | none => none
  | .m _ :: _ => none
theorem pures_eq : ∀ {xs : List SV} {ds : List D}, pures xs = some ds → xs = ds.map SV.d
  | [], ds, h => by
    cases h
    rfl
  | .d x :: r, ds, h => by
    unfold pures at h
    split at h
    · rename_i es he
      cases h
      rw [pures_eq he]
      rfl
    · cases h
  | .m _ :: _, ds, h => by
    unfold pures at h
    cases h
theorem pures_map : ∀ ds : List D, pures (ds.map SV.d) = some ds
  | [] => rfl
  | d :: r => by
    show (match pures (r.map SV.d) with | some ds => some (d :: ds) | none => none) = some (d :: r)
    rw [pures_map r]
def dTup (t : DTA) : DTE := fun ε μ Φ => t ε μ fun xs μ1 => match pures xs with
  | some ds => ds.length ≤ sizeLine ∧ Φ (.d (.tup ds)) μ1
  | none => False
theorem de_tup {x1} (h : DA X B es ul tl) : DE X B (.Tuple es x1 pos) (tTup ul) (dTup tl) := have ⟨p, s⟩ := h; ⟨pe_tup p, fun bb M σ H ε μ Φ Q a k h =>
  s bb M σ H ε μ _ _ a (fun vs M1 H1 xs μ1 l1 w1 r1 h1 => by
    split at h1
    · rename_i ds he
      obtain ⟨h1, h2⟩ := h1
      rw [pures_eq he] at r1
      have r := r1.pure
      refine ⟨by rw [r.length]; exact h1, fun p hp => k _ M1 _ _ μ1 (l1.trans (le_new w1 hp)) (wd_new w1 hp) (.d (.tup (wo_at w1 hp) (r.mono (wo_new hp)))) h2⟩
    · exact h1.elim) h⟩
def dLst (t : DTA) : DTE := fun ε μ Φ => t ε μ fun xs μ1 => match pures xs with
  | some ds => ds.length ≤ sizeLine ∧ Φ (.d (.lst ds)) μ1
  | none => False
theorem de_lst (h : DA X B es ul tl) : DE X B (.List es pos) (tLst ul) (dLst tl) := have ⟨p, s⟩ := h; ⟨pe_lst p, fun bb M σ H ε μ Φ Q a k h =>
  s bb M σ H ε μ _ _ a (fun vs M1 H1 xs μ1 l1 w1 r1 h1 => by
    split at h1
    · rename_i ds he
      obtain ⟨h1, h2⟩ := h1
      rw [pures_eq he] at r1
      have r := r1.pure
      refine ⟨by rw [r.length]; exact h1, fun p hp => k _ M1 _ _ μ1 (l1.trans (le_new w1 hp)) (wd_new w1 hp) (.d (.lst (wo_at w1 hp) (r.mono (wo_new hp)))) h2⟩
    · exact h1.elim) h⟩
/-- a list that will change -/
def dLstM (t : DTA) : DTE := fun ε μ Φ => t ε μ fun xs μ1 => xs.length ≤ sizeLine ∧ Φ (.m μ1.length) (μ1 ++ [.lst xs])
theorem de_lstM (h : DA X B es ul tl) : DE X B (.List es pos) (tLst ul) (dLstM tl) := have ⟨p, s⟩ := h; ⟨pe_lst p, fun bb M σ H ε μ Φ Q a k h =>
  s bb M σ H ε μ _ _ a (fun vs M1 H1 xs μ1 l1 w1 r1 h1 => by
    obtain ⟨h1, h2⟩ := h1
    refine ⟨by rw [r1.length]; exact h1, fun p hp => k _ (M1.add p) _ _ _ (l1.trans (le_newm w1 hp)) (wd_newm (mo := .lst xs) w1 hp ⟨vs, upd_same, r1.mono ids_newm (wo_newm hp)⟩) (.m (by rw [← w1.len]; exact at_newm)) h2⟩) h⟩
end
end DV

set_option Elab.async false
set_option linter.all false
set_option maxRecDepth 100000
namespace DV
open PySem PySem.Spec PyProof.Rows L2

/-! ### operators -/
section
variable {X : Cx} {B : Bs} {a b c e : Expr} {es : List Expr} {pos : Pos} {ta tb tc te : DTE} {tl : DTA} {ua ub uc ue : TE} {ul : TA}
def rUnion (r r' : R2) : R2 := fun x y H Q => r x y H Q ∨ r' x y H Q
theorem op_union {f : Value → Value → Sem Value} {r r' : R2} (h : OpR X f r) (h' : OpR X f r') : OpR X f (rUnion r r') := fun pins s σ H x y v u Q I rx ry q => by
  rcases q with q | q
  · exact h pins s σ H x y v u Q I rx ry q
  · exact h' pins s σ H x y v u Q I rx ry q
/-- two ints -/
def dI (C : Int → Int → Prop) (g : Int → Int → D) : SV → SV → DSt → DK → Prop
  | .d (.int i), .d (.int j), μ, Φ => C i j ∧ Φ (.d (g i j)) μ
  | _, _, _, _ => False
theorem sim_I {C : Int → Int → Prop} {g : Int → Int → V} {gd : Int → Int → D} (hg : ∀ K G i j, Rep K G (g i j) (gd i j)) : SimR B (rI C g) (dI C gd) := fun M H μ v w x y Φ Q W rx ry k h => by
  unfold dI at h
  split at h
  · exact ⟨_, _, rx.int_inv, ry.int_inv, h.1, k _ M H _ μ (Le.refl M H) W (.d (hg _ _ _ _)) h.2⟩
  · exact h.elim
def dI0 (g : Int → Int → D) : SV → SV → DSt → DK → Prop
  | .d (.int i), .d (.int j), μ, Φ => Φ (.d (g i j)) μ
  | _, _, _, _ => False
theorem sim_I0 {g : Int → Int → V} {gd : Int → Int → D} (hg : ∀ K G i j, Rep K G (g i j) (gd i j)) : SimR B (rI0 g) (dI0 gd) := fun M H μ v w x y Φ Q W rx ry k h => by
  unfold dI0 at h
  split at h
  · exact ⟨_, _, rx.int_inv, ry.int_inv, k _ M H _ μ (Le.refl M H) W (.d (hg _ _ _ _)) h⟩
  · exact h.elim
/-- + of ints, tuples, lists, texts -/
def dPlus : SV → SV → DSt → DK → Prop
  | .d (.int i), .d (.int j), μ, Φ => Φ (.d (.int (i + j))) μ
  | .d (.tup xs), .d (.tup ys), μ, Φ => xs.length + ys.length ≤ sizeLine ∧ Φ (.d (.tup (xs ++ ys))) μ
  | .d (.lst xs), .d (.lst ys), μ, Φ => xs.length + ys.length ≤ sizeLine ∧ Φ (.d (.lst (xs ++ ys))) μ
  | .d (.str x), .d (.str y), μ, Φ => x.length + y.length ≤ sizeLine ∧ Φ (.d (.str (x ++ y))) μ
  | _, _, _, _ => False
def rPlus (K : PySem.W.Frag) : R2 := rUnion (rI0 fun i j => .int (i + j)) (rUnion (rCatA K) (rUnion rCat (fun x y H Q => ∃ i j, x = .str i ∧ y = .str j ∧ i.length + j.length ≤ sizeLine ∧ Q (.str (i ++ j)) H)))
theorem op_plus : OpR X (binaryOp .Add) (rPlus X.K) := op_union op_add (op_union op_catA (op_union op_cat op_add_str))
theorem sim_plus : SimR B (rPlus B.K) dPlus := fun M H μ v w x y Φ Q W rx ry k h => by
  unfold dPlus at h
  split at h
  · exact .inl ⟨_, _, rx.int_inv, ry.int_inv, k _ M H _ μ (Le.refl M H) W (.d (.int _)) h⟩
  · rename_i xs ys
    obtain ⟨z, h⟩ := h
    obtain ⟨p, us, rfl, hp, rp⟩ := rx.tup_invE
    obtain ⟨q, ws, rfl, hq, rq⟩ := ry.tup_invE
    refine .inr (.inl ⟨p, q, us, ws, rfl, rfl, (wo_sub M H).sqt hp.sqt, (wo_sub M H).sqt hq.sqt, by rw [rp.length, rq.length]; exact z, fun e => ?_, fun e1 e2 => ?_, fun e1 e2 r hr => ?_⟩)
    · refine k _ M H _ μ (Le.refl M H) W (.d (.tup hq ?_)) h
      have := rp.append rq
      rw [e] at this
      exact this
    · refine k _ M H _ μ (Le.refl M H) W (.d (.tup hp ?_)) h
      have := rp.append rq
      rw [e2, List.append_nil] at this
      exact this
    · exact k _ M _ _ μ (le_new W hr) (wd_new W hr) (.d (.tup (wo_at W hr) ((rp.append rq).mono (wo_new hr)))) h
  · obtain ⟨z, h⟩ := h
    obtain ⟨p, us, rfl, hp, rp⟩ := rx.lst_inv
    obtain ⟨q, ws, rfl, hq, rq⟩ := ry.lst_inv
    refine .inr (.inr (.inl ⟨p, q, us, ws, rfl, rfl, (wo_sub M H).ex hp rfl, (wo_sub M H).ex hq rfl, by rw [rp.length, rq.length]; exact z, fun r hr => ?_⟩))
    exact k _ M _ _ μ (le_new W hr) (wd_new W hr) (.d (.lst (wo_at W hr) ((rp.append rq).mono (wo_new hr)))) h
  · obtain ⟨z, h⟩ := h
    exact .inr (.inr (.inr ⟨_, _, rx.str_inv, ry.str_inv, z, k _ M H _ μ (Le.refl M H) W (.d (.str _)) h⟩))
  · exact h.elim

/-! equality of data -/
mutual
def D.py : D → Option PyData
  | .non => some .none
  | .bl b => some (.bool b)
  | .int i => some (.int i)
  | .str x => some (.str x)
  | .tup ds => match D.pys ds with
    | some ps => some (.tuple ps)
    | none => none
  | .lst ds => match D.pys ds with
    | some ps => some (.list ps)
    | none => none
  | _ => none
def D.pys : List D → Option (List PyData)
  | [] => some []
  | d :: ds => match D.py d, D.pys ds with
    | some p, some ps => some (p :: ps)
    | _, _ => none
end
theorem py_tup {ds : List D} {p : PyData} (h : (D.tup ds).py = some p) : ∃ ps, D.pys ds = some ps ∧ p = .tuple ps := by
  unfold D.py at h
  split at h
  · rename_i ps hp
    exact ⟨ps, hp, (Option.some.inj h).symm⟩
  · cases h
theorem py_lst {ds : List D} {p : PyData} (h : (D.lst ds).py = some p) : ∃ ps, D.pys ds = some ps ∧ p = .list ps := by
  unfold D.py at h
  split at h
  · rename_i ps hp
    exact ⟨ps, hp, (Option.some.inj h).symm⟩
  · cases h
theorem pys_cons {d : D} {ds : List D} {p : List PyData} (h : D.pys (d :: ds) = some p) : ∃ q ps, d.py = some q ∧ D.pys ds = some ps ∧ p = q :: ps := by
  unfold D.pys at h
  split at h
  · rename_i q ps h1 h2
    exact ⟨q, ps, h1, h2, (Option.some.inj h).symm⟩
  · cases h
theorem py_no {d : D} {p : PyData} (h : d.py = some p) (hn : d.py = none) : False := by
  rw [hn] at h
  cases h
mutual
theorem Rep.dp {K : PySem.W.Frag} {G : Hp} : ∀ {v : V} {d : D}, Rep K G v d → ∀ p : PyData, d.py = some p → Dp K G v p
  | _, _, .non, p, h => Option.some.inj (show some PyData.none = some p from h) ▸ .non
  | _, _, .bl b, p, h => Option.some.inj (show some (PyData.bool b) = some p from h) ▸ .bl b
  | _, _, .int b, p, h => Option.some.inj (show some (PyData.int b) = some p from h) ▸ .int b
  | _, _, .str b, p, h => Option.some.inj (show some (PyData.str b) = some p from h) ▸ .str b
  | _, _, .tup h1 r, p, h => by
    obtain ⟨ps, hp, rfl⟩ := py_tup h
    exact .tup h1.sqt (Reps.dp r ps hp)
  | _, _, .lst h1 r, p, h => by
    obtain ⟨ps, hp, rfl⟩ := py_lst h
    exact .lst (.inl (.inl h1)) (Reps.dp r ps hp)
  | _, _, .ty _, _, h => (py_no h rfl).elim
  | _, _, .ref _, _, h => (py_no h rfl).elim
  | _, _, .lsr _ _, _, h => (py_no h rfl).elim
  | _, _, .dct _ _ _, _, h => (py_no h rfl).elim
  | _, _, .dcT _ _ _, _, h => (py_no h rfl).elim
  | _, _, .obj _ _ _, _, h => (py_no h rfl).elim
theorem Reps.dp {K : PySem.W.Frag} {G : Hp} : ∀ {v : List V} {d : List D}, Reps K G v d → ∀ p : List PyData, D.pys d = some p → DpAll K G v p
  | _, _, .nil, p, h => Option.some.inj (show some ([] : List PyData) = some p from h) ▸ .nil
  | _, _, .cons r1 r2, p, h => by
    obtain ⟨q, ps, h1, h2, rfl⟩ := pys_cons h
    exact .cons (Rep.dp r1 q h1) (Reps.dp r2 ps h2)
end
mutual
theorem Dp.mono {K : PySem.W.Frag} {G G' : Hp} (e : Sub G G') : ∀ {v : V} {p : PyData}, Dp K G v p → Dp K G' v p
  | _, _, .non => .non
  | _, _, .bl b => .bl b
  | _, _, .int i => .int i
  | _, _, .str x => .str x
  | _, _, .lst h r => .lst (e.sql h) (DpAll.mono e r)
  | _, _, .tup h r => .tup (e.sqt h) (DpAll.mono e r)
theorem DpAll.mono {K : PySem.W.Frag} {G G' : Hp} (e : Sub G G') : ∀ {v : List V} {p : List PyData}, DpAll K G v p → DpAll K G' v p
  | _, _, .nil => .nil
  | _, _, .cons h r => .cons (Dp.mono e h) (DpAll.mono e r)
end
mutual
theorem Dp.monoW {K : PySem.W.Frag} {G G' : Hp} (e : SubW G G') : ∀ {v : V} {p : PyData}, Dp K G v p → Dp K G' v p
  | _, _, .non => .non
  | _, _, .bl b => .bl b
  | _, _, .int i => .int i
  | _, _, .str x => .str x
  | _, _, .lst h r => .lst (e.sql h) (DpAll.monoW e r)
  | _, _, .tup h r => .tup (e.sqt h) (DpAll.monoW e r)
theorem DpAll.monoW {K : PySem.W.Frag} {G G' : Hp} (e : SubW G G') : ∀ {v : List V} {p : List PyData}, DpAll K G v p → DpAll K G' v p
  | _, _, .nil => .nil
  | _, _, .cons h r => .cons (Dp.monoW e h) (DpAll.monoW e r)
end
/-- what can be compared, as what -/
def Ced (d : D) (p : PyData) : Prop := d.py = some p ∧ SeqAt.shaped p = true
/-- a value that is compared: pure, or a list that may change with pure items -/
def Cv (μ : DSt) : SV → PyData → Prop
  | .d x, p => Ced x p
  | .m n, p => ∃ ds, μ[n]? = some (.lst (ds.map SV.d)) ∧ Ced (.lst ds) p
def dEqD (neg : Bool) : SV → SV → DSt → DK → Prop := fun x y μ Φ => ∃ p q, Cv μ x p ∧ Cv μ y q ∧ Φ (.d (.bl (if neg then !PyData.eqv p q else PyData.eqv p q))) μ
theorem cv_dp {M : Mk} {H : Hp} {μ : DSt} {v : V} {x : SV} {p : PyData} (W : Wd B.K M H μ) (r : Rv B M H v x) (h : Cv μ x p) : Dp B.K H v p ∧ SeqAt.shaped p = true := by
  cases x with
  | d x =>
    cases r with
    | d r => exact ⟨Dp.monoW (wo_sub M H) (r.dp _ h.1), h.2⟩
  | m n =>
    obtain ⟨ds, hm, hc⟩ := h
    obtain ⟨q, rfl, hq, mr⟩ := r.m_inv W hm
    obtain ⟨vs, hv, rs⟩ := mr
    refine ⟨?_, hc.2⟩
    obtain ⟨ps, hp, rfl⟩ := py_lst hc.1
    exact .lst (.inl (.inl hv)) (DpAll.monoW (wo_sub M H) (rs.pure.dp _ hp))
theorem sim_eqD : SimR B (rEqD B.K) (dEqD false) := fun M H μ v w x y Φ Q W rx ry k h => by
  obtain ⟨p, q, hp, hq, h⟩ := h
  exact ⟨p, q, (cv_dp W rx hp).1, (cv_dp W ry hq).1, (cv_dp W rx hp).2, (cv_dp W ry hq).2, k _ M H _ μ (Le.refl M H) W (.d (.bl _)) h⟩
theorem sim_neD : SimR B (rNeD B.K) (dEqD true) := fun M H μ v w x y Φ Q W rx ry k h => by
  obtain ⟨p, q, hp, hq, h⟩ := h
  exact ⟨p, q, (cv_dp W rx hp).1, (cv_dp W ry hq).1, (cv_dp W rx hp).2, (cv_dp W ry hq).2, k _ M H _ μ (Le.refl M H) W (.d (.bl _)) h⟩
/-- is, is not of truth values -/
def dIsB (neg : Bool) : SV → SV → DSt → DK → Prop
  | .d (.bl i), .d (.bl j), μ, Φ => Φ (.d (.bl (if neg then !decide (i = j) else decide (i = j)))) μ
  | _, _, _, _ => False
theorem sim_isB : SimR B (fun x y H Q => ∃ a b, x = .bl a ∧ y = .bl b ∧ Q (.bl (decide (a = b))) H) (dIsB false) := fun M H μ v w x y Φ Q W rx ry k h => by
  unfold dIsB at h
  split at h
  · exact ⟨_, _, rx.bl_inv, ry.bl_inv, k _ M H _ μ (Le.refl M H) W (.d (.bl _)) h⟩
  · exact h.elim
theorem sim_isnotB : SimR B (fun x y H Q => ∃ a b, x = .bl a ∧ y = .bl b ∧ Q (.bl (!decide (a = b))) H) (dIsB true) := fun M H μ v w x y Φ Q W rx ry k h => by
  unfold dIsB at h
  split at h
  · exact ⟨_, _, rx.bl_inv, ry.bl_inv, k _ M H _ μ (Le.refl M H) W (.d (.bl _)) h⟩
  · exact h.elim
/-- is None, is not None -/
def svIsNon : SV → Bool
  | .d .non => true
  | _ => false
theorem svIsNon_eq {M : Mk} {H : Hp} {v : V} {x : SV} (r : Rv B M H v x) : decide (v = .non) = svIsNon x := by
  cases r with
  | d r => cases r <;> rfl
  | m h => rfl
def dIsN (neg : Bool) : SV → SV → DSt → DK → Prop := fun x y μ Φ => match y with
  | .d .non => Φ (.d (.bl (if neg then !svIsNon x else svIsNon x))) μ
  | _ => False
theorem sim_isN : SimR B (fun x y H Q => y = .non ∧ Q (.bl (decide (x = .non))) H) (dIsN false) := fun M H μ v w x y Φ Q W rx ry k h => by
  unfold dIsN at h
  split at h
  · exact ⟨ry.non_inv, k _ M H _ μ (Le.refl M H) W (.d (by rw [svIsNon_eq rx]; exact .bl _)) h⟩
  · exact h.elim
theorem sim_isnotN : SimR B (fun x y H Q => y = .non ∧ Q (.bl (!decide (x = .non))) H) (dIsN true) := fun M H μ v w x y Φ Q W rx ry k h => by
  unfold dIsN at h
  split at h
  · exact ⟨ry.non_inv, k _ M H _ μ (Le.refl M H) W (.d (by rw [svIsNon_eq rx]; exact .bl _)) h⟩
  · exact h.elim
/-! in a list or tuple of flat things -/
def flatD : D → Bool
  | .non => true
  | .bl _ => true
  | .int _ => true
  | .str _ => true
  | _ => false
def eqFD : D → D → Bool
  | .non, .non => true
  | .bl a, .bl b => a == b
  | .bl a, .int b => (if a then 1 else 0) == b
  | .int a, .bl b => a == (if b then 1 else 0)
  | .int a, .int b => a == b
  | .str a, .str b => a == b
  | _, _ => false
theorem flat_rep {K : PySem.W.Frag} {G : Hp} {v : V} {d : D} (r : Rep K G v d) (h : flatD d = true) : flatV v = true := by
  cases r <;> first | rfl | cases h
theorem eqF_rep {K : PySem.W.Frag} {G : Hp} {v w : V} {d f : D} (r : Rep K G v d) (s : Rep K G w f) (h : flatD d = true) (h' : flatD f = true) : eqV v w = eqFD d f := by
  cases r <;> first | (cases h; done) | (cases s <;> first | (cases h'; done) | rfl)
def inD (x : D) (xs : List D) : Bool := xs.any fun y => eqFD y x
theorem in_rep {K : PySem.W.Frag} {G : Hp} {v : V} {d : D} (r : Rep K G v d) (h : flatD d = true) : ∀ {vs : List V} {ds : List D}, Reps K G vs ds → ds.all flatD = true → inV v vs = inD d ds ∧ vs.all flatV = true
  | _, _, .nil, _ => ⟨rfl, rfl⟩
  | _, _, .cons (v := u) (vs := us) (d := f) (ds := fs) r1 r2, hf => by
    rw [List.all_cons, Bool.and_eq_true] at hf
    obtain ⟨i1, i2⟩ := in_rep r h r2 hf.2
    constructor
    · show (eqV u v || inV v us) = (eqFD f d || inD d fs)
      rw [i1, eqF_rep r1 r hf.1 h]
    · rw [List.all_cons, i2, flat_rep r1 hf.1]
      rfl
def dIn (neg : Bool) : SV → SV → DSt → DK → Prop := fun x y μ Φ => ∃ d ds, x = .d d ∧ (y = .d (.tup ds) ∨ y = .d (.lst ds) ∨ y = .d (.lsr ds) ∨ ∃ n, y = .m n ∧ μ[n]? = some (.lst (ds.map SV.d))) ∧ flatD d = true ∧ ds.all flatD = true ∧
  Φ (.d (.bl (if neg then !inD d ds else inD d ds))) μ
theorem sim_in (neg : Bool) : SimR B (rIn B.K neg) (dIn neg) := fun M H μ v w x y Φ Q W rx ry k h => by
  obtain ⟨d, ds, rfl, hy, fd, fs, h⟩ := h
  cases rx with
  | d rx =>
    have fin : ∀ (p : Addr) (xs : List V), w = .ref p → (SqL B.K H p xs ∨ SqT B.K H p xs) → Reps B.K (wo M H) xs ds → rIn B.K neg v w H Q := fun p xs e hs r => by
      obtain ⟨i1, i2⟩ := in_rep rx fd r fs
      exact ⟨p, xs, e, hs, flat_rep rx fd, i2, k _ M H _ μ (Le.refl M H) W (.d (by rw [i1]; exact .bl _)) h⟩
    rcases hy with rfl | rfl | rfl | ⟨n, rfl, hm⟩
    · obtain ⟨q, ws, e, hq, rq⟩ := ry.tup_inv
      exact fin q ws e (.inr ((wo_sub M H).sqt hq)) rq
    · obtain ⟨q, ws, e, hq, rq⟩ := ry.lst_inv
      exact fin q ws e (.inl (.inl (.inl ((wo_sub M H).ex hq rfl)))) rq
    · obtain ⟨q, ws, e, hq, rq⟩ := ry.lsr_inv
      exact fin q ws e (.inl ((wo_sub M H).sql hq)) rq
    · obtain ⟨q, e, hq, vs, hv, rs⟩ := ry.m_inv W hm
      exact fin q vs e (.inl (.inl (.inl hv))) rs.pure

/-! ### items and slices -/
def dIx : SV → SV → DSt → DK → Prop
  | .d (.tup ds), .d (.int i), μ, Φ => ∃ x, atI ds i = some x ∧ Φ (.d x) μ
  | .d (.lst ds), .d (.int i), μ, Φ => ∃ x, atI ds i = some x ∧ Φ (.d x) μ
  | .d (.lsr ds), .d (.int i), μ, Φ => ∃ x, atI ds i = some x ∧ Φ (.d x) μ
  | .m n, .d (.int i), μ, Φ => ∃ xs x, μ[n]? = some (.lst xs) ∧ atI xs i = some x ∧ Φ x μ
  | .d (.str z), .d (.int i), μ, Φ => ∃ c, z.length ≤ sizeLine ∧ atI z.cps.toList i = some c ∧ Φ (.d (.str ⟨#[c]⟩)) μ
  | _, _, _, _ => False
theorem atI_rep {K : PySem.W.Frag} {G : Hp} {vs : List V} {ds : List D} {i : Int} {x : D} (r : Reps K G vs ds) (h : atI ds i = some x) : ∃ v, atI vs i = some v ∧ Rep K G v x := by
  unfold atI at h ⊢
  rw [r.length]
  cases e : ixN ds.length i with
  | none => rw [e] at h; cases h
  | some j =>
    rw [e] at h
    exact r.get h
theorem atI_srep {K : PySem.W.Frag} {M : Mk} {G : Hp} {vs : List V} {ds : List SV} {i : Int} {x : SV} (r : SReps K M G vs ds) (h : atI ds i = some x) : ∃ v, atI vs i = some v ∧ SRep K M G v x := by
  unfold atI at h ⊢
  rw [r.length]
  cases e : ixN ds.length i with
  | none => rw [e] at h; cases h
  | some j =>
    rw [e] at h
    exact r.get h
theorem sim_ix : SimR B (rIx B.K) dIx := fun M H μ v w x y Φ Q W rx ry k h => by
  unfold dIx at h
  split at h
  · obtain ⟨x, ha, h⟩ := h
    obtain ⟨q, ws, rfl, hq, rq⟩ := rx.tup_inv
    obtain ⟨v, hv, rv⟩ := atI_rep rq ha
    exact .inr (.inl ⟨q, ws, _, v, rfl, ry.int_inv, (wo_sub M H).sqt hq, hv, k _ M H _ μ (Le.refl M H) W (.d rv) h⟩)
  · obtain ⟨x, ha, h⟩ := h
    obtain ⟨q, ws, rfl, hq, rq⟩ := rx.lst_inv
    obtain ⟨v, hv, rv⟩ := atI_rep rq ha
    exact .inl ⟨q, ws, _, v, rfl, ry.int_inv, .inl (.inl ((wo_sub M H).ex hq rfl)), hv, k _ M H _ μ (Le.refl M H) W (.d rv) h⟩
  · obtain ⟨x, ha, h⟩ := h
    obtain ⟨q, ws, rfl, hq, rq⟩ := rx.lsr_inv
    obtain ⟨v, hv, rv⟩ := atI_rep rq ha
    exact .inl ⟨q, ws, _, v, rfl, ry.int_inv, (wo_sub M H).sql hq, hv, k _ M H _ μ (Le.refl M H) W (.d rv) h⟩
  · obtain ⟨xs, x, hm, ha, h⟩ := h
    obtain ⟨q, rfl, hq, vs, hv, rs⟩ := rx.m_inv W hm
    obtain ⟨v, hv', rv⟩ := atI_srep rs ha
    exact .inl ⟨q, vs, _, v, rfl, ry.int_inv, .inl (.inl hv), hv', k _ M H _ μ (Le.refl M H) W rv h⟩
  · obtain ⟨c, hz, ha, h⟩ := h
    exact .inr (.inr ⟨_, _, c, rx.str_inv, ry.int_inv, hz, ha, k _ M H _ μ (Le.refl M H) W (.d (.str _)) h⟩)
  · exact h.elim
theorem de_ix (ha : DE X B a ua ta) (hb : DE X B b ub tb) (hK : B.K = X.K := by rfl) (hs : PlainIx b := by exact fun _ _ => rfl) : DE X B (.Subscript a b pos) (tOp (rIx B.K) ua ub) (dOp dIx ta tb) := by
  obtain ⟨Kb, Eb, Ψb⟩ := B
  have hK : Kb = X.K := hK
  subst hK
  have hK : X.K = X.K := rfl
  exact have ⟨pa, sa⟩ := ha; have ⟨pb, sb⟩ := hb; ⟨pe_ix ix_seq pa pb hs, sim_op (by rw [← hK]; exact sim_ix) sa sb⟩
/-- a part of a slice -/
def dPart (o : Option DTE) : DEnv → DSt → (Option Int → DSt → Prop) → Prop := fun ε μ Φ => match o with
  | none => Φ none μ
  | some t => t ε μ fun x μ1 => svi x fun i => Φ (some i) μ1
def SimO (B : Bs) (te : TO) (t : DEnv → DSt → (Option Int → DSt → Prop) → Prop) : Prop := ∀ (bb : Ba B) (M : Mk) (σ : L2.St) (H : Hp) (ε : DEnv) (μ : DSt) (Φ : Option Int → DSt → Prop) (Q : Option Int → Hp → Prop), At bb M σ H ε μ →
  (∀ b M' H' μ', Le M H M' H' → Wd B.K M' H' μ' → Φ b μ' → Q b H') → t ε μ Φ → te σ H Q
structure DO (X : Cx) (B : Bs) (e : Option Expr) (u : TO) (t : DEnv → DSt → (Option Int → DSt → Prop) → Prop) : Prop where
  p : PO X e u
  s : SimO B u t
theorem do_none : DO X B none tNoPart (dPart none) := ⟨po_none, fun bb M σ H ε μ Φ Q a k h => k none M H μ (Le.refl M H) a.wd h⟩
theorem do_some (h : DE X B e ue te) : DO X B (some e) (tPart ue) (dPart (some te)) := have ⟨p, s⟩ := h; ⟨po_some p, fun bb M σ H ε μ Φ Q a k h =>
  s bb M σ H ε μ _ _ a (fun v M1 H1 x μ1 l1 w1 r1 h1 => by
    obtain ⟨i, e1, _, h1⟩ := svi_inv r1 h1
    exact ⟨i, e1, k _ M1 H1 μ1 l1 w1 h1⟩) h⟩
def cut {α : Type} (xs : List α) (lo hi : Option Int) : List α := (xs.drop (HT.sIx xs.length 0 lo)).take (HT.sIx xs.length xs.length hi - HT.sIx xs.length 0 lo)
theorem cut_rep {K : PySem.W.Frag} {G : Hp} {vs : List V} {ds : List D} (r : Reps K G vs ds) (lo hi : Option Int) : Reps K G (cutV vs lo hi) (cut ds lo hi) := by
  unfold cutV cut
  rw [r.length]
  exact (r.drop _).take _
def dSl (ta : DTE) (tl th : DEnv → DSt → (Option Int → DSt → Prop) → Prop) : DTE := fun ε μ Φ => ta ε μ fun x μ1 => tl ε μ1 fun lo μ2 => th ε μ2 fun hi μ3 => match x with
  | .d (.tup ds) => Φ (.d (.tup (cut ds lo hi))) μ3
  | .d (.lst ds) => Φ (.d (.lst (cut ds lo hi))) μ3
  | .d (.lsr ds) => Φ (.d (.lst (cut ds lo hi))) μ3
  | .m n => ∃ ds, μ3[n]? = some (.lst (ds.map SV.d)) ∧ Φ (.d (.lst (cut ds lo hi))) μ3
  | _ => False
theorem cut_all {vs : List V} {lo hi : Option Int} (h : HT.sIx vs.length 0 lo = 0 ∧ HT.sIx vs.length vs.length hi = vs.length) : cutV vs lo hi = vs := by
  unfold cutV
  rw [h.1, h.2, List.drop_zero, Nat.sub_zero, List.take_length]
theorem de_slice {lo hi : Option Expr} {p2 : Pos} {vl vh : TO} {tl th : DEnv → DSt → (Option Int → DSt → Prop) → Prop} (ha : DE X B e ue te) (hl : DO X B lo vl tl) (hh : DO X B hi vh th) (hK : B.K = X.K := by rfl) :
    DE X B (.Subscript e (.Slice lo hi none p2) pos) (tSl (fun x lo hi H Q => rSlL B.K x lo hi H Q ∨ rSlA B.K x lo hi H Q) ue vl vh) (dSl te tl th) := by
  obtain ⟨Kb, Eb, Ψb⟩ := B
  have hK : Kb = X.K := hK
  subst hK
  have hK : X.K = X.K := rfl
  exact have ⟨pa, sa⟩ := ha; have ⟨pl, sl⟩ := hl; have ⟨ph, sh⟩ := hh; ⟨pe_slice (sl_list.or sl_tupA) pa pl ph, fun bb M σ H ε μ Φ Q a k h =>
    sa bb M σ H ε μ _ _ a (fun v M1 H1 x μ1 l1 w1 r1 h1 => sl bb M1 σ H1 ε μ1 _ _ (a.next l1 w1) (fun lo M2 H2 μ2 l2 w2 h2 => sh bb M2 σ H2 ε μ2 _ _ (a.next (l1.trans l2) w2) (fun hi M3 H3 μ3 l3 w3 h3 => by
      have l13 := (l1.trans l2).trans l3
      have r3 := (l2.trans l3).srep r1
      rw [← hK]
      split at h3
      · obtain ⟨p, us, rfl, hp, rp⟩ := Rv.tup_invE r3
        refine .inr ⟨p, us, rfl, (wo_sub M3 H3).sqt hp.sqt, fun hc => ?_, fun hc q hq => ?_⟩
        · refine k _ M3 H3 _ μ3 l13 w3 (.d (.tup hp ?_)) h3
          have := cut_rep rp lo hi
          rw [cut_all hc] at this
          exact this
        · exact k _ M3 _ _ μ3 (l13.trans (le_new w3 hq)) (wd_new w3 hq) (.d (.tup (wo_at w3 hq) ((cut_rep rp lo hi).mono (wo_new hq)))) h3
      · obtain ⟨p, us, rfl, hp, rp⟩ := Rv.lst_inv r3
        exact .inl ⟨p, us, rfl, .inl (.inl ((wo_sub M3 H3).ex hp rfl)), fun q hq => k _ M3 _ _ μ3 (l13.trans (le_new w3 hq)) (wd_new w3 hq) (.d (.lst (wo_at w3 hq) ((cut_rep rp lo hi).mono (wo_new hq)))) h3⟩
      · obtain ⟨p, us, rfl, hp, rp⟩ := Rv.lsr_inv r3
        exact .inl ⟨p, us, rfl, (wo_sub M3 H3).sql hp, fun q hq => k _ M3 _ _ μ3 (l13.trans (le_new w3 hq)) (wd_new w3 hq) (.d (.lst (wo_at w3 hq) ((cut_rep rp lo hi).mono (wo_new hq)))) h3⟩
      · obtain ⟨ds, hm, h3⟩ := h3
        obtain ⟨p, rfl, hp, vs, hv, rs⟩ := Rv.m_inv w3 r3 hm
        exact .inl ⟨p, vs, rfl, .inl (.inl hv), fun q hq => k _ M3 _ _ μ3 (l13.trans (le_new w3 hq)) (wd_new w3 hq) (.d (.lst (wo_at w3 hq) ((cut_rep rs.pure lo hi).mono (wo_new hq)))) h3⟩
      · exact h3.elim) h2) h1) h⟩
end
end DV

set_option Elab.async false
set_option linter.all false
set_option maxRecDepth 100000
namespace DV
open PySem PySem.Spec PyProof.Rows L2

section
variable {X : Cx} {B : Bs} {a b c e : Expr} {es : List Expr} {pos : Pos} {ta tb tc te : DTE} {tl : DTA} {ua ub uc ue : TE} {ul : TA}
variable {st : Stmt} {rest body : List Stmt} {vs vr vb : TS} {ds dr db : DTS}
/-! ### statements -/
theorem EndsR.nx' {bb : Ba B} {Φ : DEnds} {D : Ends} {n : DEnv → DSt → Prop} {n' : L2.St → Hp → Prop} (E : EndsR bb Φ D) (h : ∀ M σ H ε μ, At bb M σ H ε μ → n ε μ → n' σ H) : EndsR bb { Φ with nx := n } { D with nx := n' } := ⟨h, E.rt, E.bk, E.ct, E.fl⟩
def dNext : DTS := fun Φ ε μ => Φ.nx ε μ
def dSeq (t u : DTS) : DTS := fun Φ ε μ => t { Φ with nx := u Φ } ε μ
theorem dss_nil : DSs X B [] tNext dNext := ⟨pss_nil, fun bb M σ H ε μ Φ D a E h => E.nx M σ H ε μ a h⟩
theorem dss_one (h : DS X B st vs ds) : DSs X B [st] vs ds := ⟨pss_one h.p, h.s⟩
theorem dss_cons (h : DS X B st vs ds) (hr : DSs X B rest vr dr) : DSs X B (st :: rest) (tSeq vs vr) (dSeq ds dr) := ⟨pss_cons h.p hr.p, fun bb M σ H ε μ Φ D a E q =>
  h.s bb M σ H ε μ _ _ a (E.nx' fun M1 σ1 H1 ε1 μ1 a1 q1 => hr.s bb M1 σ1 H1 ε1 μ1 Φ D a1 E q1) q⟩
theorem ds_pass : DS X B (.Pass pos) tNext dNext := ⟨ps_pass, fun bb M σ H ε μ Φ D a E h => E.nx M σ H ε μ a h⟩
def dBreak : DTS := fun Φ ε μ => Φ.bk ε μ
def dCont : DTS := fun Φ ε μ => Φ.ct ε μ
theorem ds_break : DS X B (.Break pos) tBreak dBreak := ⟨ps_break, fun bb M σ H ε μ Φ D a E h => E.bk M σ H ε μ a h⟩
theorem ds_cont : DS X B (.Continue pos) tCont dCont := ⟨ps_continue, fun bb M σ H ε μ Φ D a E h => E.ct M σ H ε μ a h⟩
def dDrop (t : DTE) : DTS := fun Φ ε μ => t ε μ fun _ μ1 => Φ.nx ε μ1
theorem ds_expr (h : DE X B e ue te) (hs : swapsWith e none pos.line X.env = pure false := by rfl) : DS X B (.Expr e pos) (tDrop ue) (dDrop te) := ⟨ps_expr h.p hs, fun bb M σ H ε μ Φ D a E q =>
  h.s bb M σ H ε μ _ _ a (fun v M1 H1 x μ1 l1 w1 r1 q1 => E.nx M1 σ H1 ε μ1 (a.next l1 w1) q1) q⟩
def dRet (t : DTE) : DTS := fun Φ ε μ => t ε μ Φ.rt
theorem ds_ret (h : DE X B e ue te) : DS X B (.Return (some e) pos) (tRet ue) (dRet te) := ⟨ps_ret h.p, fun bb M σ H ε μ Φ D a E q =>
  h.s bb M σ H ε μ _ _ a (fun v M1 H1 x μ1 l1 w1 r1 q1 => E.rt v M1 H1 x μ1 (a.le.trans l1) w1 r1 q1) q⟩
def dRetN : DTS := fun Φ _ μ => Φ.rt (.d .non) μ
theorem ds_retN : DS X B (.Return none pos) tRetN dRetN := ⟨ps_retN, fun bb M σ H ε μ Φ D a E q => E.rt _ M H _ μ a.le a.wd (.d .non) q⟩
def dIfS (c : DTT) (t u : DTS) : DTS := fun Φ ε μ => c ε μ fun k μ1 => bcase k (t Φ ε μ1) (u Φ ε μ1)
theorem ds_if {l1 l2 : List Stmt} {vc : TT} {dc : DTT} {v1 v2 : TS} {d1 d2 : DTS} (hc : DT X B c vc dc) (h1 : DSs X B l1 v1 d1) (h2 : DSs X B l2 v2 d2) : DS X B (.If c l1 l2 pos) (tIfS vc v1 v2) (dIfS dc d1 d2) := ⟨ps_if hc.p h1.p h2.p, fun bb M σ H ε μ Φ D a E q =>
  hc.s bb M σ H ε μ _ _ a (fun k M1 H1 μ1 l1 w1 q1 => by
    cases k with
    | true => exact h1.s bb M1 σ H1 ε μ1 Φ D (a.next l1 w1) E q1
    | false => exact h2.s bb M1 σ H1 ε μ1 Φ D (a.next l1 w1) E q1) q⟩
theorem ds_never : DS X B st tNever (fun _ _ _ => False) := ⟨ps_never, fun bb M σ H ε μ Φ D a E q => q.elim⟩
/-! targets -/
def dgN (i : Nat) : DTG := fun x ε μ Φ => Φ (ε.set i (some x)) μ
theorem dg_name {i : Nat} {x : Str} (hN : X.N.Nodup) (hi : X.N[i]? = some x) (hx : Loc X.env.scope x) (hf : X.fn x = true ∨ X.env.scope.names.lookup x = some .local := by first | exact .inl rfl | exact .inr rfl | assumption) : DG X B (.Name x pos) (gName i) (dgN i) :=
  ⟨pg_name hN hi hx hf, fun bb M σ H ε μ v x Φ Q a r k h => k M _ H _ μ (Le.refl M H) (a.set i r) h⟩
def dgNil : DTGs := fun xs ε μ Φ => match xs with
  | [] => Φ ε μ
  | _ => False
def dgCons (t : DTG) (u : DTGs) : DTGs := fun xs ε μ Φ => match xs with
  | x :: r => t x ε μ fun ε1 μ1 => u r ε1 μ1 Φ
  | [] => False
theorem dgs_nil : DGs X B [] gNil dgNil := ⟨pgs_nil, fun bb M σ H ε μ v x Φ Q a r k h => by
  cases r with
  | nil => exact ⟨rfl, k M σ H ε μ (Le.refl M H) a h⟩
  | cons _ _ => exact (show False from h).elim⟩
theorem dgs_cons {vt : TG} {dt : DTG} {vu : TGs} {du : DTGs} (h1 : DG X B e vt dt) (h2 : DGs X B es vu du) (hs : (assignEach (e :: es) X.env).map (·.2) = assign e X.env :: (assignEach es X.env).map (·.2) := by rfl) : DGs X B (e :: es) (gCons vt vu) (dgCons dt du) :=
  ⟨pgs_cons h1.p h2.p hs, fun bb M σ H ε μ v x Φ Q a r k h => by
    cases r with
    | nil => exact (show False from h).elim
    | cons r1 r2 => exact ⟨_, _, rfl, h1.s bb M σ H ε μ _ _ _ _ a r1 (fun M1 σ1 H1 ε1 μ1 l1 a1 q1 => h2.s bb M1 σ1 H1 ε1 μ1 _ _ _ _ a1 (l1.sreps r2) (fun M2 σ2 H2 ε2 μ2 l2 => k M2 σ2 H2 ε2 μ2 (l1.trans l2)) q1) h⟩⟩
def dgTup (n : Nat) (t : DTGs) : DTG := fun x ε μ Φ => match x with
  | .d (.tup ds) => ds.length = n ∧ t (ds.map SV.d) ε μ Φ
  | _ => False
theorem dg_tup {k : Nat} {vt : TGs} {dt : DTGs} {n : Nat} (hc : X.calm = true) (h : DGs X B es vt dt) (hK : B.K = X.K := by rfl)
    (hn : (assignEach es X.env).length = n := by rfl) (hst : (assignEach es X.env).findIdx? (·.1) = none := by rfl) : DG X B (.Tuple es k pos) (gTup X.K n vt) (dgTup n dt) :=
  ⟨pg_tup hc h.p hn hst, fun bb M σ H ε μ v x Φ Q a r k q => by
    unfold dgTup at q
    split at q
    · obtain ⟨hl, q⟩ := q
      obtain ⟨p, us, rfl, hp, rp⟩ := r.tup_inv
      exact ⟨p, us, rfl, by rw [← hK]; exact (wo_sub M H).sqt hp, by rw [rp.length]; exact hl, h.s bb M σ H ε μ _ _ _ _ a (SReps.of rp) k q⟩
    · exact q.elim⟩
/-- o[i] = v, o a list that may change -/
def dgSub (to_ ti : DTE) : DTG := fun x ε μ Φ => to_ ε μ fun o μ1 => ti ε μ1 fun i μ2 => match o, i with
  | .m n, .d (.int k) => ∃ xs j, μ2[n]? = some (.lst xs) ∧ ixN xs.length k = some j ∧ Φ ε (μ2.set n (.lst (xs.set j x)))
  | _, _ => False
theorem dg_sub (ho : DE X B a ua ta) (hi : DE X B b ub tb)
    (ha : ∀ v, assign (.Subscript a b pos) X.env v = (do
      let ov ← holding [v] (eval a X.env)
      let iv ← holding [v, ov] (eval b X.env)
      standAt pos
      holding [v, ov, iv] (setItem ov iv v)
      release [v, ov, iv] []) := by intro _; rfl) : DG X B (.Subscript a b pos) (gSub ua ub rSetL) (dgSub ta tb) :=
  ⟨pg_sub ho.p hi.p set_list ha, fun bb M σ H ε μ v x Φ Q a r k q =>
    ho.s bb M σ H ε μ _ _ a (fun vo M1 H1 xo μ1 l1 w1 r1 q1 => hi.s bb M1 σ H1 ε μ1 _ _ (a.next l1 w1) (fun vi M2 H2 xi μ2 l2 w2 r2 q2 => by
      split at q2
      · obtain ⟨xs, j, hm, hj, q2⟩ := q2
        obtain ⟨p, rfl, hp, us, hv, rs⟩ := Rv.m_inv w2 (l2.srep r1) hm
        have hn := mem_of_get hp
        refine ⟨p, us, _, j, rfl, r2.int_inv, hv, by rw [rs.length]; exact hj, ?_⟩
        have w3 := wd_set (μ := μ2) (o := .lst (us.set j v)) (mo := .lst (xs.set j x)) w2 hp ⟨us.set j v, upd_same, rs.set ((l1.trans l2).srep r) j⟩
        have l3 := le_set (o := .lst (us.set j v)) w2 hn
        exact k M2 σ _ ε _ ((l1.trans l2).trans l3) (a.next ((l1.trans l2).trans l3) w3) q2
      · exact q2.elim) q1) q⟩
def dAsg (t : DTE) (g : DTG) : DTS := fun Φ ε μ => t ε μ fun x μ1 => g x ε μ1 Φ.nx
theorem ds_asg {vg : TG} {dg : DTG} (he : DE X B e ue te) (hg : DG X B a vg dg) (hs : swapsWithSole [a] e pos.line X.env = pure false := by rfl) (hw : swappedStores [a] e X.env = pure none := by rfl)
    (h1 : (assignEach [a] X.env).map (·.2) = [assign a X.env] := by rfl) : DS X B (.Assign [a] e pos) (tAsg ue vg) (dAsg te dg) :=
  ⟨ps_asg he.p hg.p hs hw h1, fun bb M σ H ε μ Φ D a E q => he.s bb M σ H ε μ _ _ a (fun v M1 H1 x μ1 l1 w1 r1 q1 =>
    hg.s bb M1 σ H1 ε μ1 _ _ _ _ (a.next l1 w1) r1 (fun M2 σ2 H2 ε2 μ2 l2 a2 q2 => E.nx M2 σ2 H2 ε2 μ2 a2 q2) q1) q⟩
/-- x, y = a, b -/
def dPar (i j : Nat) (t : DTA) : DTS := fun Φ ε μ => t ε μ fun xs μ1 => match xs with
  | [x, y] => Φ.nx ((ε.set i (some x)).set j (some y)) μ1
  | _ => False
theorem ds_par {i j : Nat} {x y : Str} {px py pt : Pos} {kt k2 pt2} (hc : X.calm = true) (hN : X.N.Nodup) (hi : X.N[i]? = some x) (hj : X.N[j]? = some y) (hij : i ≠ j)
    (hx : X.env.scope.names.lookup x = some .local) (hy : X.env.scope.names.lookup y = some .local) (ha : DA X B [a, b] ul tl)
    (hw : swappedStores [.Tuple [.Name x px, .Name y py] kt pt] (.Tuple [a, b] k2 pt2) X.env = pure (some [x, y]))
    (hs : swapsWithSole [.Tuple [.Name x px, .Name y py] kt pt] (.Tuple [a, b] k2 pt2) pos.line X.env = pure false := by rfl) :
    DS X B (.Assign [.Tuple [.Name x px, .Name y py] kt pt] (.Tuple [a, b] k2 pt2) pos) (tPar i j ul) (dPar i j tl) :=
  ⟨ps_par hc hN hi hj hij hx hy ha.p hw hs, fun bb M σ H ε μ Φ D a E q => ha.s bb M σ H ε μ _ _ a (fun v M1 H1 x μ1 l1 w1 r1 q1 => by
    split at q1
    · cases r1 with
      | cons ra r2 => cases r2 with
        | cons rb r3 =>
          cases r3
          exact ⟨_, _, rfl, E.nx M1 _ H1 _ μ1 (((a.next l1 w1).set i ra).set j rb) q1⟩
    · exact q1.elim) q⟩
/-- x += e -/
def dAug (i : Nat) (t : DTE) (r : SV → SV → DSt → DK → Prop) : DTS := fun Φ ε μ => lk ε i fun x => t ε μ fun y μ1 => r x y μ1 fun z μ2 => Φ.nx (ε.set i (some z)) μ2
theorem ds_aug {i : Nat} {x : Str} {op : Operator} {ti : TIp} {rd : SV → SV → DSt → DK → Prop} {pos' : Pos} (hN : X.N.Nodup) (hi : X.N[i]? = some x) (hx : Loc X.env.scope x) (he : DE X B e ue te) (ho : PIp X op ti) (hr : SimR B ti rd)
    (hf : X.fn x = true ∨ X.env.scope.names.lookup x = some .local := by first | exact .inl rfl | exact .inr rfl | assumption) : DS X B (.AugAssign (.Name x pos') op e pos) (tAug i ue ti) (dAug i te rd) :=
  ⟨ps_aug hN hi hx he.p ho hf, fun bb M σ H ε μ Φ D a E q => by
    obtain ⟨x, h1, h2⟩ := lk_get q
    obtain ⟨v, h3, r⟩ := a.env.at_ i x h1
    exact ⟨v, h3, he.s bb M σ H ε μ _ _ a (fun w M1 H1 y μ1 l1 w1 r1 q1 => hr M1 H1 μ1 _ _ _ _ _ _ w1 (l1.srep r) r1 (fun u M2 H2 z μ2 l2 w2 r2 q2 => E.nx M2 _ H2 _ μ2 ((a.next (l1.trans l2) w2).set i r2) q2) q1) h2⟩⟩
theorem sim_ipI {f : Int → Int → Int} : SimR B (ipI f) (dI0 fun i j => .int (f i j)) := fun M H μ v w x y Φ Q W rx ry k h => by
  unfold dI0 at h
  split at h
  · exact ⟨_, _, rx.int_inv, ry.int_inv, k _ M H _ μ (Le.refl M H) W (.d (.int _)) h⟩
  · exact h.elim
/-! while -/
def dWhile (c : DTT) (t : DTS) : DTS := fun Φ ε μ => ∃ W : Nat → DEnv → DSt → Prop, (∃ m, W m ε μ) ∧ ∀ m ε μ, W m ε μ → c ε μ fun k μ1 => bcase k (t { Φ with nx := fun ε2 μ2 => ∃ m', m' < m ∧ W m' ε2 μ2, ct := fun ε2 μ2 => ∃ m', m' < m ∧ W m' ε2 μ2, bk := Φ.nx } ε μ1) (Φ.nx ε μ1)
theorem ds_while {vc : TT} {dc : DTT} (hp : PassesOwn (model X.prog X.w) X.A X.env X.xe) (hc : DT X B c vc dc) (hb : DSs X B body vb db) : DS X B (.While c body [] pos) (tWhile vc vb) (dWhile dc db) :=
  ⟨ps_while hp hc.p hb.p, fun bb M σ H ε μ Φ D a E q => by
    obtain ⟨W, ⟨m0, w0⟩, hw⟩ := q
    refine ⟨fun m σ H => ∃ M ε μ, At bb M σ H ε μ ∧ W m ε μ, ⟨m0, M, ε, μ, a, w0⟩, fun m σ H ⟨M, ε, μ, a, w⟩ => ?_⟩
    refine hc.s bb M σ H ε μ _ _ a (fun k M1 H1 μ1 l1 w1 q1 => ?_) (hw m ε μ w)
    cases k with
    | true =>
      refine ⟨fun σ' H' => ∃ m', m' < m ∧ ∃ M ε μ, At bb M σ' H' ε μ ∧ W m' ε μ, fun σ' H' z => z, ?_⟩
      have nxt : ∀ M σ H ε μ, At bb M σ H ε μ → (∃ m', m' < m ∧ W m' ε μ) → ∃ m', m' < m ∧ ∃ M ε μ, At bb M σ H ε μ ∧ W m' ε μ := fun M σ H ε μ a ⟨m', h1, h2⟩ => ⟨m', h1, M, ε, μ, a, h2⟩
      exact hb.s bb M1 σ H1 ε μ1 { Φ with nx := fun ε2 μ2 => ∃ m', m' < m ∧ W m' ε2 μ2, ct := fun ε2 μ2 => ∃ m', m' < m ∧ W m' ε2 μ2, bk := Φ.nx } _ (a.next l1 w1) ⟨nxt, E.rt, E.nx, nxt, E.fl⟩ q1
    | false => exact E.nx M1 σ H1 ε μ1 (a.next l1 w1) q1⟩
/-! ### walks -/
structure WalkD (B : Bs) (J : It) (xs : List SV) (G : DSt → Prop) (M1 : Mk) (H1 : Hp) : Prop where
  go : ∀ M H μ i, Le M1 H1 M H → Wd B.K M H μ → G μ → i < xs.length → J.go i H
  stop : ∀ M H μ, Le M1 H1 M H → Wd B.K M H μ → G μ → J.stop xs.length H
  yld : ∀ M H μ i v H', Le M1 H1 M H → Wd B.K M H μ → G μ → i < xs.length → J.yld i H v H' → ∃ x, xs[i]? = some x ∧ Le M H M H' ∧ Wd B.K M H' μ ∧ Rv B M H' v x
abbrev DTI := DEnv → DSt → (List SV → (DSt → Prop) → DSt → Prop) → Prop
def SimI (B : Bs) (wi : TI) (t : DTI) : Prop := ∀ (bb : Ba B) (M : Mk) (σ : L2.St) (H : Hp) (ε : DEnv) (μ : DSt) (Φ : List SV → (DSt → Prop) → DSt → Prop) (R : It → Hp → Prop), At bb M σ H ε μ →
  (∀ J M' H' xs G μ', Le M H M' H' → Wd B.K M' H' μ' → WalkD B J xs G M' H' → Φ xs G μ' → R J H') → t ε μ Φ → wi σ H R
structure DI (X : Cx) (B : Bs) (tg e : Expr) (u : TI) (t : DTI) : Prop where
  p : PI X tg e u
  s : SimI B u t
def dFor (ti : DTI) (g : DTG) (tb : DTS) : DTS := fun Φ ε μ => ti ε μ fun xs G μ1 => ∃ I : Nat → DEnv → DSt → Prop, I 0 ε μ1 ∧ (∀ i ε μ, i ≤ xs.length → I i ε μ → G μ) ∧
  (∀ i x ε μ, xs[i]? = some x → I i ε μ → g x ε μ fun ε2 μ2 => tb { Φ with nx := I (i + 1), ct := I (i + 1), bk := Φ.nx, fl := μ1.length } ε2 μ2) ∧ ∀ ε μ, I xs.length ε μ → Φ.nx ε μ
theorem ds_for {iter : Expr} {vi : TI} {di : DTI} {vg : TG} {dg : DTG} (hp : PassesOwn (model X.prog X.w) X.A X.env X.xe) (hc : X.calm = true) (hi : DI X B a iter vi di) (hg : DG X B a vg dg) (hb : DSs X B body vb db)
    (hs : ∀ x, foldedSetIterable iter X.env x = pure x := by intro _; rfl) : DS X B (.For a iter body [] pos) (tFor vi vg vb) (dFor di dg db) :=
  ⟨ps_for hp hc hi.p hg.p hb.p hs, fun bb M σ H ε μ Φ D a E q => hi.s bb M σ H ε μ _ _ a (fun J M1 H1 xs G μ1 l1 w1 wk q1 => by
    obtain ⟨I, i0, iG, is, ie⟩ := q1
    let b1 := bb.move (a.le.trans l1)
    have a1 : At b1 M1 σ H1 ε μ1 := ⟨Le.refl _ _, w1, (a.next l1 w1).env⟩
    have back : ∀ {M σ H ε μ}, At b1 M σ H ε μ → At bb M σ H ε μ := fun z => ⟨(a.le.trans l1).trans z.le, z.wd, z.env⟩
    refine ⟨fun i m σ H => m = xs.length - i ∧ i ≤ xs.length ∧ ∃ M ε μ, At b1 M σ H ε μ ∧ I i ε μ, ⟨xs.length, by simp, Nat.zero_le _, M1, ε, μ1, a1, i0⟩, ?_⟩
    rintro i m σ H ⟨rfl, hi, M, ε, μ, az, iz⟩
    have hG := iG i ε μ hi iz
    by_cases hlt : i < xs.length
    · have nxt : ∀ M σ H ε μ, At b1 M σ H ε μ → I (i + 1) ε μ → ∃ M ε μ, At b1 M σ H ε μ ∧ I (i + 1) ε μ := fun M σ H ε μ a z => ⟨M, ε, μ, a, z⟩
      refine .inr ⟨wk.go M H μ i az.le az.wd hG hlt, fun σ H => ∃ M ε μ, At b1 M σ H ε μ ∧ I (i + 1) ε μ, fun σ' H' z => ⟨xs.length - (i + 1), by omega, rfl, hlt, z⟩, fun v H' hy => ?_⟩
      obtain ⟨x, hx, l2, w2, r2⟩ := wk.yld M H μ i v H' az.le az.wd hG hlt hy
      refine hg.s b1 M σ H' ε μ v x _ _ (az.next l2 w2) r2 (fun M3 σ3 H3 ε3 μ3 l3 a3 q3 => ?_) (is i x ε μ hx iz)
      exact hb.s b1 M3 σ3 H3 ε3 μ3 { Φ with nx := I (i + 1), ct := I (i + 1), bk := Φ.nx, fl := μ1.length } _ a3 ⟨nxt, fun v M H x μ l => E.rt v M H x μ ((a.le.trans l1).trans l), fun M σ H ε μ z => E.nx M σ H ε μ (back z), nxt, Nat.le_of_eq w1.len⟩ q3
    · have e : i = xs.length := by omega
      subst e
      exact .inl ⟨wk.stop M H μ az.le az.wd hG, E.nx M σ H ε μ (back az) (ie ε μ iz)⟩) q⟩
/-! which -/
/-- over a list or a tuple as it stands; a list that may change: while it stands -/
def diSeq (t : DTE) : DTI := fun ε μ Φ => t ε μ fun x μ1 => match x with
  | .d (.lst ds) => Φ (ds.map SV.d) (fun _ => True) μ1
  | .d (.lsr ds) => Φ (ds.map SV.d) (fun _ => True) μ1
  | .m n => ∃ xs, μ1[n]? = some (.lst xs) ∧ Φ xs (fun μ => μ[n]? = some (.lst xs)) μ1
  | _ => False
theorem walkd_l {p : Addr} {us : List V} {ds : List D} {M1 : Mk} {H1 : Hp} (hq : SqL B.K (wo M1 H1) p us) (r : Reps B.K (wo M1 H1) us ds) : WalkD B (Itl B.K p) (ds.map SV.d) (fun _ => True) M1 H1 := by
  have hl : (ds.map SV.d).length = us.length := by rw [List.length_map, r.length]
  have hq' : ∀ {M H}, Sub (wo M1 H1) (wo M H) → SqL B.K H p us := fun s => (wo_sub _ _).sql (s.sql hq)
  refine ⟨fun M H μ i s _ _ h => walk_list.goes i H (by rw [← hl]; exact h) (hq' s.sub), fun M H μ s _ _ => by rw [hl]; exact walk_list.stops H (hq' s.sub), fun M H μ i v H' s w _ h y => ?_⟩
  obtain ⟨rfl, hv⟩ := walk_list.yields i H v H' (by rw [← hl]; exact h) (hq' s.sub) y
  obtain ⟨x, hx, rx⟩ := r.getV hv
  exact ⟨.d x, by rw [List.getElem?_map, hx]; rfl, Le.refl M _, w, .d (rx.mono s.sub)⟩
theorem walkd_m {p : Addr} {n : Nat} {xs : List SV} {M1 : Mk} {H1 : Hp} (hp : M1.ids[n]? = some (some p)) : WalkD B (Itl B.K p) xs (fun μ => μ[n]? = some (.lst xs)) M1 H1 := by
  have key : ∀ {M H μ}, Ids M1 M → Wd B.K M H μ → μ[n]? = some (.lst xs) → ∃ us, H p = some (.lst us) ∧ SReps B.K M (wo M H) us xs := fun j w g => by
    obtain ⟨mo, h1, r⟩ := w.ob n p (j n p hp)
    rw [g] at h1
    cases h1
    exact r
  refine ⟨fun M H μ i s w g h => ?_, fun M H μ s w g => ?_, fun M H μ i v H' s w g h y => ?_⟩
  · obtain ⟨us, hu, ru⟩ := key s.ids w g
    exact walk_list.goes i H (by rw [ru.length]; exact h) (.inl (.inl hu))
  · obtain ⟨us, hu, ru⟩ := key s.ids w g
    rw [← ru.length]
    exact walk_list.stops H (.inl (.inl hu))
  · obtain ⟨us, hu, ru⟩ := key s.ids w g
    obtain ⟨rfl, hv⟩ := walk_list.yields i H v H' (by rw [ru.length]; exact h) (.inl (.inl hu)) y
    obtain ⟨x, hx, rx⟩ := ru.getV hv
    exact ⟨x, hx, Le.refl M _, w, rx⟩
theorem di_seq {tg : Expr} (h : DE X B e ue te) (hK : B.K = X.K := by rfl) : DI X B tg e (iList B.K ue) (diSeq te) := by
  obtain ⟨Kb, Eb, Ψb⟩ := B
  have hK : Kb = X.K := hK
  subst hK
  have hK : X.K = X.K := rfl
  exact ⟨pi_list h.p, fun bb M σ H ε μ Φ R a k q => h.s bb M σ H ε μ _ _ a (fun v M1 H1 x μ1 l1 w1 r1 q1 => by
  rw [← hK]
  split at q1
  · obtain ⟨p, us, rfl, hp, rp⟩ := r1.lst_inv
    exact ⟨p, rfl, ⟨us, .inl (.inl ((wo_sub M1 H1).ex hp rfl))⟩, k _ M1 H1 _ _ μ1 l1 w1 (walkd_l (.inl (.inl hp)) rp) q1⟩
  · obtain ⟨p, us, rfl, hp, rp⟩ := r1.lsr_inv
    exact ⟨p, rfl, ⟨us, (wo_sub M1 H1).sql hp⟩, k _ M1 H1 _ _ μ1 l1 w1 (walkd_l hp rp) q1⟩
  · obtain ⟨xs, hm, q1⟩ := q1
    obtain ⟨p, rfl, hp, us, hu, ru⟩ := r1.m_inv w1 hm
    exact ⟨p, rfl, ⟨us, .inl (.inl hu)⟩, k _ M1 H1 _ _ μ1 l1 w1 (walkd_m hp) q1⟩
  · exact q1.elim) q⟩
def diTup (t : DTE) : DTI := fun ε μ Φ => t ε μ fun x μ1 => match x with
  | .d (.tup ds) => Φ (ds.map SV.d) (fun _ => True) μ1
  | _ => False
theorem walkd_t {p : Addr} {us : List V} {ds : List D} {M1 : Mk} {H1 : Hp} (hq : SqT B.K (wo M1 H1) p us) (r : Reps B.K (wo M1 H1) us ds) : WalkD B (Itt B.K p) (ds.map SV.d) (fun _ => True) M1 H1 := by
  have hl : (ds.map SV.d).length = us.length := by rw [List.length_map, r.length]
  have hq' : ∀ {M H}, Sub (wo M1 H1) (wo M H) → SqT B.K H p us := fun s => (wo_sub _ _).sqt (s.sqt hq)
  refine ⟨fun M H μ i s _ _ h => walk_tup.goes i H (by rw [← hl]; exact h) (hq' s.sub), fun M H μ s _ _ => by rw [hl]; exact walk_tup.stops H (hq' s.sub), fun M H μ i v H' s w _ h y => ?_⟩
  obtain ⟨rfl, hv⟩ := walk_tup.yields i H v H' (by rw [← hl]; exact h) (hq' s.sub) y
  obtain ⟨x, hx, rx⟩ := r.getV hv
  exact ⟨.d x, by rw [List.getElem?_map, hx]; rfl, Le.refl M _, w, .d (rx.mono s.sub)⟩
theorem di_tup {tg : Expr} (h : DE X B e ue te) (hK : B.K = X.K := by rfl) : DI X B tg e (iTup B.K ue) (diTup te) := by
  obtain ⟨Kb, Eb, Ψb⟩ := B
  have hK : Kb = X.K := hK
  subst hK
  have hK : X.K = X.K := rfl
  exact ⟨pi_tup h.p, fun bb M σ H ε μ Φ R a k q => h.s bb M σ H ε μ _ _ a (fun v M1 H1 x μ1 l1 w1 r1 q1 => by
  rw [← hK]
  split at q1
  · obtain ⟨p, us, rfl, hp, rp⟩ := r1.tup_inv
    exact ⟨p, rfl, ⟨us, (wo_sub M1 H1).sqt hp⟩, k _ M1 H1 _ _ μ1 l1 w1 (walkd_t hp rp) q1⟩
  · exact q1.elim) q⟩
/-- lo, lo + 1, .. n of them -/
def rangeD (lo : Int) (n : Nat) : List SV := (List.range n).map fun i => .d (.int (lo + (i : Nat)))
theorem rangeD_len {lo : Int} {n : Nat} : (rangeD lo n).length = n := by unfold rangeD; rw [List.length_map, List.length_range]
theorem rangeD_get {lo : Int} {n i : Nat} (h : i < n) : (rangeD lo n)[i]? = some (.d (.int (lo + (i : Nat)))) := by
  unfold rangeD
  rw [List.getElem?_map, List.getElem?_range h]
  rfl
theorem walkd_r {lo : Int} {n : Nat} {M1 : Mk} {H1 : Hp} : WalkD B (Itr lo n) (rangeD lo n) (fun _ => True) M1 H1 := by
  refine ⟨fun M H μ i s _ _ h => walk_range.goes i H (by rw [rangeD_len] at h; exact h) trivial, fun M H μ s _ _ => by rw [rangeD_len]; exact walk_range.stops H trivial, fun M H μ i v H' s w _ h y => ?_⟩
  rw [rangeD_len] at h
  obtain ⟨rfl, rfl⟩ := walk_range.yields i H v H' h trivial y
  exact ⟨_, rangeD_get h, Le.refl M _, w, .d (.int _)⟩
def diR1 (t : DTA) : DTI := fun ε μ Φ => t ε μ fun xs μ1 => match xs with
  | [.d (.int n)] => (-(2 ^ 62) ≤ n ∧ n < 2 ^ 62) ∧ Φ (rangeD 0 n.toNat) (fun _ => True) μ1
  | _ => False
theorem SReps.int1 {M : Mk} {H : Hp} {vs : List V} {n : Int} (r : Rvs B M H vs [.d (.int n)]) : vs = [.int n] := by
  cases r with
  | cons r1 r2 =>
    cases r2
    rw [Rv.int_inv r1]
theorem SReps.int2 {M : Mk} {H : Hp} {vs : List V} {n m : Int} (r : Rvs B M H vs [.d (.int n), .d (.int m)]) : vs = [.int n, .int m] := by
  cases r with
  | cons r1 r2 => cases r2 with
    | cons r2 r3 =>
      cases r3
      rw [Rv.int_inv r1, Rv.int_inv r2]
theorem di_range1 {tg : Expr} {p : Pos} (hg : Gl X "range") (hm : X.mg "range" = none) (h : DA X B [a] ul tl) (hs : starEach [a] X.env = [(false, eval a X.env)] := by rfl) : DI X B tg (.Call (.Name "range" p) [a] [] pos) (iRng1 ul) (diR1 tl) :=
  ⟨pi_range1 hg hm h.p hs, fun bb M σ H ε μ Φ R a k q => h.s bb M σ H ε μ _ _ a (fun v M1 H1 x μ1 l1 w1 r1 q1 => by
    split at q1
    · exact ⟨_, SReps.int1 r1, q1.1.1, q1.1.2, k _ M1 H1 _ _ μ1 l1 w1 walkd_r q1.2⟩
    · exact q1.elim) q⟩
def diR2 (t : DTA) : DTI := fun ε μ Φ => t ε μ fun xs μ1 => match xs with
  | [.d (.int i), .d (.int j)] => (-(2 ^ 62) ≤ i ∧ i < 2 ^ 62 ∧ -(2 ^ 62) ≤ j ∧ j < 2 ^ 62) ∧ Φ (rangeD i (j - i).toNat) (fun _ => True) μ1
  | _ => False
theorem di_range2 {tg : Expr} {p : Pos} (hg : Gl X "range") (hm : X.mg "range" = none) (h : DA X B [a, b] ul tl) (hs : starEach [a, b] X.env = [(false, eval a X.env), (false, eval b X.env)] := by rfl) (hs2 : starEach [b] X.env = [(false, eval b X.env)] := by rfl) :
    DI X B tg (.Call (.Name "range" p) [a, b] [] pos) (iRng2 ul) (diR2 tl) :=
  ⟨pi_range2 hg hm h.p hs hs2, fun bb M σ H ε μ Φ R a k q => h.s bb M σ H ε μ _ _ a (fun v M1 H1 x μ1 l1 w1 r1 q1 => by
    split at q1
    · exact ⟨_, _, SReps.int2 r1, q1.1, k _ M1 H1 _ _ μ1 l1 w1 walkd_r q1.2⟩
    · exact q1.elim) q⟩
/-- the items with their numbers -/
def enumD (lo : Int) (ds : List D) : List SV := (List.range ds.length).map fun i => .d (.tup [.int (lo + (i : Nat)), ds.getD i .non])
theorem enumD_len {lo : Int} {ds : List D} : (enumD lo ds).length = ds.length := by unfold enumD; rw [List.length_map, List.length_range]
theorem enumD_get {lo : Int} {ds : List D} {i : Nat} {x : D} (h : ds[i]? = some x) : (enumD lo ds)[i]? = some (.d (.tup [.int (lo + (i : Nat)), x])) := by
  have hl := (List.getElem?_eq_some_iff.mp h).1
  unfold enumD
  rw [List.getElem?_map, List.getElem?_range hl]
  simp [h]
end
end DV

set_option Elab.async false
set_option linter.all false
set_option maxRecDepth 100000
namespace DV
open PySem PySem.Spec PyProof.Rows L2

theorem wpAny_pyNext_enum_endL {prog : Program} {w : World} {A : Around} {E : Value → Shared → Prop} {s : Shared} {e it l : Addr} {i : Nat} {c : Int} {items : Array Value} {old : Value} {Q : Option Value → Shared → Prop} (hh : A.handled = none)
    (he : IsEnum s.heap e it c old) (hit : s.heap.IsListIter it l i) (hl : s.heap.IsList l items) (hx : items[i]? = none)
    (hQ : ∀ h', Heap.ExtBut it s.heap h' → Q none { s with heap := h' }) : wpAny (model prog w) A (pyNext (.ref e)) Q E s := by
  have hT : s.TypeIs (.ref e) "enumerate" := ⟨_, he, rfl⟩
  unfold pyNext
  refine wpAny_bind (wpAny_attempt (wpAny_callSpecial?_slot (name := Str.ofString "__next__") hT F.slot_enumerate_next
    (wpAny_call_entry F.slot_enumerate_next hT F.entry_enumerate_next ?_ (F.args_enumerate_next_1 _))))
  show wpAny _ _ (field (.ref e) 2 >>= _) _ _ _
  refine wpAny_bind (wpAny_field he rfl (x := .ref it) rfl ?_)
  refine wpAny_bind (wpAny_nextOf_list_end hh hit hl hx fun h' x he' hx' => ?_)
  obtain ⟨o, ho, hc⟩ := hx'
  refine wpAny_bind (wpAny_isInstance (T := "StopIteration") (b := true) ⟨o, ho, hc⟩ isSubtype_stop ?_)
  exact wpAny_pure (hQ _ he')

theorem wpAny_pyNext_enum_endT {prog : Program} {w : World} {A : Around} {E : Value → Shared → Prop} {s : Shared} {e it l : Addr} {i : Nat} {c : Int} {items : Array Value} {old : Value} {Q : Option Value → Shared → Prop} (hh : A.handled = none)
    (he : IsEnum s.heap e it c old) (hit : s.heap.IsTupleIter it l i) (hl : s.heap.IsTuple l items) (hx : items[i]? = none)
    (hQ : ∀ h', Heap.ExtBut it s.heap h' → Q none { s with heap := h' }) : wpAny (model prog w) A (pyNext (.ref e)) Q E s := by
  have hT : s.TypeIs (.ref e) "enumerate" := ⟨_, he, rfl⟩
  unfold pyNext
  refine wpAny_bind (wpAny_attempt (wpAny_callSpecial?_slot (name := Str.ofString "__next__") hT F.slot_enumerate_next
    (wpAny_call_entry F.slot_enumerate_next hT F.entry_enumerate_next ?_ (F.args_enumerate_next_1 _))))
  show wpAny _ _ (field (.ref e) 2 >>= _) _ _ _
  refine wpAny_bind (wpAny_field he rfl (x := .ref it) rfl ?_)
  refine wpAny_bind (wpAny_nextOf_tuple_end hh hit hl hx fun h' x he' hx' => ?_)
  obtain ⟨o, ho, hc⟩ := hx'
  refine wpAny_bind (wpAny_isInstance (T := "StopIteration") (b := true) ⟨o, ho, hc⟩ isSubtype_stop ?_)
  exact wpAny_pure (hQ _ he')

/-- enumerate over the list at a, from c0 -/
def IteL (K : PySem.W.Frag) (a : Addr) (c0 : Int) : It :=
  ⟨fun i H => ∃ (xs : List V) (x : V), SqL K H a xs ∧ xs[i]? = some x, fun i H v H' => ∃ T x, v = .ref T ∧ H T = none ∧ H' = upd H T (.tup [.int (c0 + (i : Nat)), x]) ∧ ∀ xs, SqL K H a xs → xs[i]? = some x, fun i H => ∃ xs : List V, SqL K H a xs ∧ xs.length ≤ i⟩
theorem turn_enumL {P : Program} {w : World} {K : PySem.W.Frag} {elts : List Expr} {kk : Nat} {tpos : Pos} (a e it : Addr) (c0 : Int) (hai : a ≠ it) (hae : a ≠ e) :
    Turn P w K (.Tuple elts kk tpos) (IteL K a c0) [e, it] e (fun i h => (∃ old, IsEnum h e it (c0 + (i : Nat)) old) ∧ h.IsListIter it a i ∧ e ≠ it) where
  mem := by simp
  obj := fun i h st b hb => by
    obtain ⟨⟨old, he⟩, ⟨o, ho, hc, hd⟩, _⟩ := st
    have e' : b = e ∨ b = it := by simpa using hb
    rcases e' with z | z
    · rw [z]; exact ⟨_, he, fun v q => nomatch q⟩
    · rw [z]; exact ⟨o, ho, fun v q => by rw [hd] at q; cases q⟩
  keep := fun i h h' st k => let ⟨⟨old, he⟩, hi, hne⟩ := st; ⟨⟨old, k e (by simp) _ he⟩, hi.at fun o q => k it (by simp) o q, hne⟩
  item := by
    intro X hP hw hK hc i pins s σ H E I hf st hg
    subst hP hw hK
    obtain ⟨⟨old, he⟩, hit, hne⟩ := st
    obtain ⟨xs, x, hq, hx⟩ := hg
    obtain ⟨its, rv, p, hz⟩ := I.list hq
    obtain ⟨u, hu, ru⟩ := rv.get hx
    have hel : e < s.heap.objs.size := Heap.lt_size he
    have hil : it < s.heap.objs.size := by obtain ⟨_, q, _⟩ := hit; exact Heap.lt_size q
    have hi' : i < its.toArray.size := by simpa using (List.getElem?_eq_some_iff.mp hu).1
    refine wpAny_pyNext_enum_itemC (Draws.list (show X.A.in1.handled = none from I.ok.hd hc) it a hai its.toArray) he ⟨hit, p.isList⟩ hi' hne (by simp [hne, Ne.symm hae]) fun x' h' tk hP' ho hit' hT hsz hk => ?_
    have hxu : x' = u := by
      have h1 : its[i]? = some x' := by simpa using hP'
      rw [hu] at h1
      exact (Option.some.inj h1).symm
    rw [hxu] at hT ho
    refine ⟨_, rfl, wpAny_letOwnedTupleGo_enum (s := { s with heap := h', toks := tk + 1 }) ho fun h'' he' sb => ?_⟩
    have hT2 : h''.get? s.heap.objs.size = some { cls := .type "tuple", data := .seq #[.int (c0 + (i : Nat)) tk, u] } := (sb.2 _ (Nat.ne_of_gt hel)).trans hT
    have new : ObjOk X.prog X.w (upd H s.heap.objs.size (.tup [.int (c0 + (i : Nat)), x])) h'' s.heap.objs.size (.tup [.int (c0 + (i : Nat)), x]) :=
      ⟨by show 2 ≤ sizeLine; decide, [.int (c0 + (i : Nat)) tk, u], .cons ⟨_, rfl⟩ (.cons ru .nil), ⟨_, hT2, rfl, _, rfl⟩⟩
    have I1 : Inv X pins σ (upd H s.heap.objs.size (.tup [.int (c0 + (i : Nat)), x])) { s with heap := h'', toks := tk + 1 } :=
      I.turnedNew (ch := [e, it]) (fun b ob hb q => (sb.2 b (fun z => hb (by simp [z]))).trans (hk b ob (fun z => hb (by simp [z])) (fun z => hb (by simp [z])) q)) hf (Nat.le_refl _) new
    refine ⟨.ref s.heap.objs.size, _, I1, rfl, ⟨_, x, rfl, I.hok.fresh (Nat.le_refl _), rfl, fun ys hy => by rw [I.list_inj hy hq]; exact hx⟩, ⟨⟨u, ?_⟩, hit'.1.at fun o q => (sb.2 it (Ne.symm hne)).trans q, hne⟩, fun b hb => ?_⟩
    · have e1 : c0 + ((i + 1 : Nat) : Int) = c0 + (i : Int) + 1 := by omega
      rw [e1]; exact he'
    · have hb' : b < s.heap.objs.size := by
        have e' : b = e ∨ b = it := by simpa using hb
        rcases e' with z | z
        · rw [z]; exact hel
        · rw [z]; exact hil
      rw [upd_ne (Nat.ne_of_lt hb')]
      exact (hf b hb).1
  done := by
    intro X hP hw hK hc i pins s σ H E I hf st hg
    subst hP hw hK
    obtain ⟨⟨old, he⟩, hit, hne⟩ := st
    obtain ⟨xs, hq, hx⟩ := hg
    obtain ⟨its, rv, p, hz⟩ := I.list hq
    obtain ⟨f0, f1, f2, f3, f4, f5⟩ := hf it (by simp)
    have hl := rv.length
    exact wpAny_pyNext_enum_endL (I.ok.hd hc) he hit p.isList (by simp; omega) fun h' eb => ⟨rfl, I.turned (t' := s.toks) (fun b o hb q => eb b o hb q) f0 f1 f3 f4 f5⟩
  self := fun A i s Q E st h => let ⟨⟨_, he⟩, _⟩ := st; wpAny_pyIter_enum he h

/-- enumerate over the tuple at a, from c0 -/
def IteT (K : PySem.W.Frag) (a : Addr) (c0 : Int) : It :=
  ⟨fun i H => ∃ (xs : List V) (x : V), SqT K H a xs ∧ xs[i]? = some x, fun i H v H' => ∃ T x, v = .ref T ∧ H T = none ∧ H' = upd H T (.tup [.int (c0 + (i : Nat)), x]) ∧ ∀ xs, SqT K H a xs → xs[i]? = some x, fun i H => ∃ xs : List V, SqT K H a xs ∧ xs.length ≤ i⟩
theorem turn_enumT {P : Program} {w : World} {K : PySem.W.Frag} {elts : List Expr} {kk : Nat} {tpos : Pos} (a e it : Addr) (c0 : Int) (hai : a ≠ it) (hae : a ≠ e) :
    Turn P w K (.Tuple elts kk tpos) (IteT K a c0) [e, it] e (fun i h => (∃ old, IsEnum h e it (c0 + (i : Nat)) old) ∧ h.IsTupleIter it a i ∧ e ≠ it) where
  mem := by simp
  obj := fun i h st b hb => by
    obtain ⟨⟨old, he⟩, ⟨o, ho, hc, hd⟩, _⟩ := st
    have e' : b = e ∨ b = it := by simpa using hb
    rcases e' with z | z
    · rw [z]; exact ⟨_, he, fun v q => nomatch q⟩
    · rw [z]; exact ⟨o, ho, fun v q => by rw [hd] at q; cases q⟩
  keep := fun i h h' st k => let ⟨⟨old, he⟩, hi, hne⟩ := st; ⟨⟨old, k e (by simp) _ he⟩, hi.at fun o q => k it (by simp) o q, hne⟩
  item := by
    intro X hP hw hK hc i pins s σ H E I hf st hg
    subst hP hw hK
    obtain ⟨⟨old, he⟩, hit, hne⟩ := st
    obtain ⟨xs, x, hq, hx⟩ := hg
    obtain ⟨its, rv, p, hz⟩ := I.tuple hq
    obtain ⟨u, hu, ru⟩ := rv.get hx
    have hel : e < s.heap.objs.size := Heap.lt_size he
    have hil : it < s.heap.objs.size := by obtain ⟨_, q, _⟩ := hit; exact Heap.lt_size q
    have hi' : i < its.toArray.size := by simpa using (List.getElem?_eq_some_iff.mp hu).1
    refine wpAny_pyNext_enum_itemC (Draws.tuple (show X.A.in1.handled = none from I.ok.hd hc) it a hai its.toArray) he ⟨hit, (show s.heap.IsTuple a its.toArray from p)⟩ hi' hne (by simp [hne, Ne.symm hae]) fun x' h' tk hP' ho hit' hT hsz hk => ?_
    have hxu : x' = u := by
      have h1 : its[i]? = some x' := by simpa using hP'
      rw [hu] at h1
      exact (Option.some.inj h1).symm
    rw [hxu] at hT ho
    refine ⟨_, rfl, wpAny_letOwnedTupleGo_enum (s := { s with heap := h', toks := tk + 1 }) ho fun h'' he' sb => ?_⟩
    have hT2 : h''.get? s.heap.objs.size = some { cls := .type "tuple", data := .seq #[.int (c0 + (i : Nat)) tk, u] } := (sb.2 _ (Nat.ne_of_gt hel)).trans hT
    have new : ObjOk X.prog X.w (upd H s.heap.objs.size (.tup [.int (c0 + (i : Nat)), x])) h'' s.heap.objs.size (.tup [.int (c0 + (i : Nat)), x]) :=
      ⟨by show 2 ≤ sizeLine; decide, [.int (c0 + (i : Nat)) tk, u], .cons ⟨_, rfl⟩ (.cons ru .nil), ⟨_, hT2, rfl, _, rfl⟩⟩
    have I1 : Inv X pins σ (upd H s.heap.objs.size (.tup [.int (c0 + (i : Nat)), x])) { s with heap := h'', toks := tk + 1 } :=
      I.turnedNew (ch := [e, it]) (fun b ob hb q => (sb.2 b (fun z => hb (by simp [z]))).trans (hk b ob (fun z => hb (by simp [z])) (fun z => hb (by simp [z])) q)) hf (Nat.le_refl _) new
    refine ⟨.ref s.heap.objs.size, _, I1, rfl, ⟨_, x, rfl, I.hok.fresh (Nat.le_refl _), rfl, fun ys hy => by rw [I.tuple_inj hy hq]; exact hx⟩, ⟨⟨u, ?_⟩, hit'.1.at fun o q => (sb.2 it (Ne.symm hne)).trans q, hne⟩, fun b hb => ?_⟩
    · have e1 : c0 + ((i + 1 : Nat) : Int) = c0 + (i : Int) + 1 := by omega
      rw [e1]; exact he'
    · have hb' : b < s.heap.objs.size := by
        have e' : b = e ∨ b = it := by simpa using hb
        rcases e' with z | z
        · rw [z]; exact hel
        · rw [z]; exact hil
      rw [upd_ne (Nat.ne_of_lt hb')]
      exact (hf b hb).1
  done := by
    intro X hP hw hK hc i pins s σ H E I hf st hg
    subst hP hw hK
    obtain ⟨⟨old, he⟩, hit, hne⟩ := st
    obtain ⟨xs, hq, hx⟩ := hg
    obtain ⟨its, rv, p, hz⟩ := I.tuple hq
    obtain ⟨f0, f1, f2, f3, f4, f5⟩ := hf it (by simp)
    have hl := rv.length
    exact wpAny_pyNext_enum_endT (I.ok.hd hc) he hit (show s.heap.IsTuple a its.toArray from p) (by simp; omega) fun h' eb => ⟨rfl, I.turned (t' := s.toks) (fun b o hb q => eb b o hb q) f0 f1 f3 f4 f5⟩
  self := fun A i s Q E st h => let ⟨⟨_, he⟩, _⟩ := st; wpAny_pyIter_enum he h

/-- one of both -/
def iEnumK (K : PySem.W.Frag) (c0 : Int) (ta : TA) : TI := fun σ H R => ta σ H fun vs H1 => ∃ a xs, vs = [.ref a] ∧ ((SqL K H1 a xs ∧ R (IteL K a c0) H1) ∨ (SqT K H1 a xs ∧ R (IteT K a c0) H1))
theorem PlainL.ne_of {h : Heap} {a b : Addr} {xs : Array Value} {o : Obj} (p : PlainL h a xs) (e : h.get? b = some o) (n : o.cls ≠ .type "list") : a ≠ b := by
  obtain ⟨o', n', e', c, _⟩ := p
  rintro rfl
  rw [e] at e'
  cases e'
  exact n c
theorem IsTup.ne_of {h : Heap} {a b : Addr} {xs : Array Value} {o : Obj} (p : IsTup h a xs) (e : h.get? b = some o) (n : o.cls ≠ .type "tuple") : a ≠ b := by
  obtain ⟨o', e', c, _⟩ := p
  rintro rfl
  rw [e] at e'
  cases e'
  exact n c
theorem callWith_type_kw {M : Model} {A : Around} {E : Value → Shared → Prop} {s : Shared} {env : Env} {pos : Pos} {T : String} {e : Expr} {rest : List Expr} {kws : List Keyword} {Q : Value → Shared → Prop}
    (h : wpAny M A (spliced (backTo pos (starEach (e :: rest) env))) (fun vs s₁ => wpAny M A (evalAll ((backToKw pos (keywordEach kws env)).map (·.2)))
      (fun kvs s₂ => wpAny M A (call (.type T) vs (((backToKw pos (keywordEach kws env)).filterMap (·.1)).zip kvs)) Q E s₂) E s₁) E s)
    (he : backTo pos (starEach (e :: rest) env) = (false, eval e env) :: backTo pos (starEach rest env) := by rfl)
    (hplain : (backTo pos (starEach (e :: rest) env)).any (·.1) = false := by rfl)
    (hall : (backToKw pos (keywordEach kws env)).all (·.1.isSome) = true := by rfl)
    (hkw : (backToKw pos (keywordEach kws env)).any (·.1.isNone) = false := by rfl) :
    wpAny M A (callWith pos (.type T) [] (backTo pos (starEach (e :: rest) env)) (backToKw pos (keywordEach kws env))) Q E s := by
  unfold callWith
  rw [he] at h ⊢
  rw [he] at hplain
  refine wpAny_bind (wpAny_holding (wpAny_mono (evalArgs_kwB (Q := fun a s₁ => wpAny M A (call (.type T) a.pos a.kw) Q E s₁) hall h) (fun a s₁ h₁ => wpAny_bind (wpAny_standAt ?_)) fun _ _ x => x))
  simp only [hplain, hkw, Bool.or_false]
  refine wpAny_bind (wpAny_pure ?_)
  exact wpAny_bind (wpAny_mono h₁ (fun r s₂ hr => wpAny_bind (wpAny_holding (wpAny_point (wpAny_pure hr)))) fun _ _ x => x)
set_option maxHeartbeats 1000000 in
theorem meets_enum0 {v : Value} {o : Obj} {H : Heap → Prop} (B : Begins v o H) :
    Meets (Builtin.«enumerate.__new__» ⟨[.type "enumerate", v], []⟩) (fun _ R s => H s.heap ∧
      R (.ok (.ret (.ref (s.heap.push o).objs.size))) { s with heap := (s.heap.push o).push { cls := .type "enumerate", data := .fields #[.none, .bool false, .ref s.heap.objs.size, rawInt 0, .none, .none] } }) :=
  .of_wp fun prog w A R s h => by
    obtain ⟨hp, g, d, tk, os⟩ := s; obtain ⟨h1, h⟩ := h
    have hsub := sub_enumerate
    have q1 : ∀ {A' : Around} {E : Value → Shared → Prop} {Q : Value → Shared → Prop}, Q (.ref hp.objs.size) ⟨hp.push o, g, d, tk, os⟩ → wpAny (model prog w) A' (pyIter v) Q E ⟨hp, g, d, tk, os⟩ :=
      fun q => B.iter prog w _ _ ⟨hp, g, d, tk, os⟩ _ h1 q
    wp_walk using q1
    refine wpAny_stack_any fun st => wpAny_pure ?_
    split
    · rename_i c _ _ _ _ _
      cases (c == Value.type "enumerate")
      · wp_walk using q1
        exact ⟨_, rfl, h⟩
      · wp_walk using q1
        exact ⟨_, rfl, h⟩
    · wp_walk using q1
      exact ⟨_, rfl, h⟩
section
variable {X : Cx} {e : Expr} {te : TE} {p pos tpos cpos kpos : Pos} {elts : List Expr} {kk : Nat}
theorem enum_go {pins : List (Addr × Obj)} {σ : L2.St} {H1 : Hp} {s1 : Shared} {us : List Value} {vs : List V} {c0 : Int} {kw : List (Str × Value)} {R : It → Hp → Prop} (I1 : Inv X pins σ H1 s1) (r : Vals vs us)
    (hcall : ∀ (u : Value), us = [u] → ∀ (o : Obj) (Hh : Heap → Prop) (B : Begins u o Hh), Hh s1.heap → ∀ Q : Value → Shared → Prop, (∀ h', IsEnum h' (s1.heap.objs.size + 1) s1.heap.objs.size c0 .none → h'.get? s1.heap.objs.size = some o → h'.objs.size = s1.heap.objs.size + 2 →
      (∀ b o, s1.heap.get? b = some o → h'.get? b = some o) → Q (.ref (s1.heap.objs.size + 1)) { s1 with heap := h' }) → wpAny (model X.prog X.w) X.A (call (.type "enumerate") [u] kw) Q X.xe s1)
    (h : ∃ a xs, vs = [.ref a] ∧ ((SqL X.K H1 a xs ∧ R (IteL X.K a c0) H1) ∨ (SqT X.K H1 a xs ∧ R (IteT X.K a c0) H1))) :
    wpAny (model X.prog X.w) X.A (call (.type "enumerate") us kw) (fun v s => wpAny (model X.prog X.w) X.A (pyIter v) (PIE X pins σ (.Tuple elts kk tpos) R) X.xe s) X.xe s1 := by
  obtain ⟨a, xs, rfl, q⟩ := h
  cases r with
  | cons r rr =>
  cases rr
  cases r
  have fin : ∀ h' : Heap, (∀ b o, s1.heap.get? b = some o → h'.get? b = some o) → ∀ b ∈ [s1.heap.objs.size + 1, s1.heap.objs.size], FpOk X pins H1 b := fun h' hk b hb => by
    have e' : b = s1.heap.objs.size + 1 ∨ b = s1.heap.objs.size := by simpa using hb
    have hle : s1.heap.objs.size ≤ b := by
      rcases e' with z | z
      · rw [z]; exact Nat.le_add_right _ _
      · rw [z]; exact Nat.le_refl _
    exact I1.fpOk hle (I1.hok.fresh hle)
  rcases q with ⟨hq, q⟩ | ⟨hq, q⟩
  · obtain ⟨its, rv, p', hz⟩ := I1.list hq
    refine hcall _ rfl _ _ (begins_list a its.toArray) p'.isList _ fun h' he hit hsz hk => wpAny_pyIter_enum he ?_
    have I2 : Inv X pins σ H1 { s1 with heap := h' } := I1.kept (t' := s1.toks) hk
    have hlt : a < s1.heap.objs.size := by obtain ⟨o, n, e, _⟩ := p'; exact Heap.lt_size e
    exact ⟨s1.heap.objs.size + 1, [s1.heap.objs.size + 1, s1.heap.objs.size], _, _, H1, rfl, I2, turn_enumL a (s1.heap.objs.size + 1) s1.heap.objs.size c0 (Nat.ne_of_lt hlt) (Nat.ne_of_lt (Nat.lt_succ_of_lt hlt)),
      ⟨⟨.none, by rw [show c0 + ((0 : Nat) : Int) = c0 by omega]; exact he⟩, ⟨_, hit, rfl, rfl⟩, Nat.succ_ne_self _⟩, fin h' hk, q⟩
  · obtain ⟨its, rv, p', hz⟩ := I1.tuple hq
    refine hcall _ rfl _ _ (begins_tuple a its.toArray) (show s1.heap.IsTuple a its.toArray from p') _ fun h' he hit hsz hk => wpAny_pyIter_enum he ?_
    have I2 : Inv X pins σ H1 { s1 with heap := h' } := I1.kept (t' := s1.toks) hk
    have hlt : a < s1.heap.objs.size := by obtain ⟨o, e, _⟩ := p'; exact Heap.lt_size e
    exact ⟨s1.heap.objs.size + 1, [s1.heap.objs.size + 1, s1.heap.objs.size], _, _, H1, rfl, I2, turn_enumT a (s1.heap.objs.size + 1) s1.heap.objs.size c0 (Nat.ne_of_lt hlt) (Nat.ne_of_lt (Nat.lt_succ_of_lt hlt)),
      ⟨⟨.none, by rw [show c0 + ((0 : Nat) : Int) = c0 by omega]; exact he⟩, ⟨_, hit, rfl, rfl⟩, Nat.succ_ne_self _⟩, fin h' hk, q⟩
/-- enumerate(e, start=k) -/
theorem pi_enumS {ta : TA} {k : Int} {j : Nat} (hg : Gl X "enumerate") (hm : X.mg "enumerate" = none) (hk : -(2 ^ 63) ≤ k ∧ k < 2 ^ 63) (ha : PA X [e] ta) (hs : starEach [e] X.env = [(false, eval e X.env)] := by rfl) :
    PI X (.Tuple elts kk tpos) (.Call (.Name "enumerate" p) [e] [⟨some "start", .Constant (.int k) j cpos, kpos⟩] pos) (iEnumK X.K k ta) := by
  refine ⟨fun pins s σ H R I h => ?_⟩
  refine wpAny_Call_Name_kw (ld_blt I hg hm boot_enumerate (callWith_type_kw (thn (ha.run pos pins s σ H _ I h) fun us s1 ⟨vs, H1, I1, r1, q1⟩ => ?_) (by rw [hs]; rfl) (by rw [hs]; rfl) rfl rfl))
  refine thn ((pk_cons (kpos := kpos) (nm := some "start") (pe_int (X := X) (i := k) (j := j) (pos := cpos)) pk_nil).run pos pins s1 σ H1 (fun ws H2 => ws = [.int k] ∧ H2 = H1) I1 ⟨rfl, rfl⟩) fun ws s2 ⟨zs, H2, I2, rz, ez, eh⟩ => ?_
  subst eh
  rw [ez] at rz
  cases rz with
  | cons r rr =>
    cases rr
    obtain ⟨t, rfl⟩ := r
    exact enum_go I2 r1 (fun u eu o Hh B hb Q hQ => enum_begins_start B hb hk.1 hk.2 hQ) q1
/-- enumerate(e) -/
theorem pi_enum0 {ta : TA} (hg : Gl X "enumerate") (hm : X.mg "enumerate" = none) (ha : PA X [e] ta) (hs : starEach [e] X.env = [(false, eval e X.env)] := by rfl) :
    PI X (.Tuple elts kk tpos) (.Call (.Name "enumerate" p) [e] [] pos) (iEnumK X.K 0 ta) := by
  refine ⟨fun pins s σ H R I h => ?_⟩
  refine Call_ (ld_blt I hg hm boot_enumerate (PyProof.Rows.callWith_type1 (thn (ha.run pos pins s σ H _ I h) fun us s1 ⟨vs, H1, I1, r1, q1⟩ => ?_) hs rfl))
  exact enum_go I1 r1 (fun u eu o Hh B hb Q hQ => by
    refine callType_new F.called_enumerate (by decide) (F.typeCall_enumerate_1 _) (F.newCall_enumerate_1 _) (fun obj => F.args_object_init_2 obj _) F.entry_enumerate_new (meets_enum0 B) ⟨hb, ?_⟩
    have hz : (s1.heap.push o).objs.size = s1.heap.objs.size + 1 := Heap.size_push ..
    show _ ∧ _
    rw [hz]
    have he : IsEnum ((s1.heap.push o).push { cls := .type "enumerate", data := .fields #[.none, .bool false, .ref s1.heap.objs.size, rawInt 0, .none, .none] }) (s1.heap.objs.size + 1) s1.heap.objs.size 0 .none := by
      have := Heap.get?_push_size (s1.heap.push o) (o := { cls := .type "enumerate", data := .fields #[.none, .bool false, .ref s1.heap.objs.size, rawInt 0, .none, .none] }) rfl
      rw [hz] at this; exact this
    exact ⟨⟨_, he, rfl⟩, hQ _ he (Heap.get?_push_of_some _ (Heap.get?_push_size _ B.free)) (by rw [Heap.size_push, hz]) fun b o x => Heap.get?_push_of_some _ (Heap.get?_push_of_some _ x)⟩) q1
end
end DV

set_option Elab.async false
set_option linter.all false
set_option maxRecDepth 100000
namespace DV
open PySem PySem.Spec PyProof.Rows L2

section
variable {X : Cx} {B : Bs} {a b c e : Expr} {es : List Expr} {pos : Pos} {ta tb tc te : DTE} {tl : DTA} {ua ub uc ue : TE} {ul : TA}
variable {st : Stmt} {rest body : List Stmt} {vs vr vb : TS} {ds dr db : DTS}
/-! ### enumerate -/
def diEnum (c0 : Int) (t : DTA) : DTI := fun ε μ Φ => t ε μ fun xs μ1 => match xs with
  | [.d (.lst ds)] => Φ (enumD c0 ds) (fun _ => True) μ1
  | [.d (.lsr ds)] => Φ (enumD c0 ds) (fun _ => True) μ1
  | [.d (.tup ds)] => Φ (enumD c0 ds) (fun _ => True) μ1
  | [.m n] => ∃ ds, μ1[n]? = some (.lst (ds.map SV.d)) ∧ Φ (enumD c0 ds) (fun μ => μ[n]? = some (.lst (ds.map SV.d))) μ1
  | _ => False
theorem walkd_eL {p : Addr} {us : List V} {ds : List D} {M1 : Mk} {H1 : Hp} {c0 : Int} (hq : SqL B.K (wo M1 H1) p us) (r : Reps B.K (wo M1 H1) us ds) : WalkD B (IteL B.K p c0) (enumD c0 ds) (fun _ => True) M1 H1 := by
  have hq' : ∀ {M H}, Sub (wo M1 H1) (wo M H) → SqL B.K H p us := fun s => (wo_sub _ _).sql (s.sql hq)
  refine ⟨fun M H μ i s _ _ h => ?_, fun M H μ s _ _ => ⟨us, hq' s.sub, by rw [enumD_len, r.length]; exact Nat.le_refl _⟩, fun M H μ i v H' s w _ h y => ?_⟩
  · rw [enumD_len, ← r.length] at h
    exact ⟨us, us[i], hq' s.sub, List.getElem?_eq_getElem h⟩
  · obtain ⟨T, x, rfl, hT, rfl, hx⟩ := y
    obtain ⟨d, hd, rd⟩ := r.getV (hx us (hq' s.sub))
    exact ⟨_, enumD_get hd, le_new w hT, wd_new w hT, .d (.tup (wo_at w hT) ((Reps.cons (.int _) (.cons (rd.mono s.sub) .nil)).mono (wo_new hT)))⟩
theorem walkd_eT {p : Addr} {us : List V} {ds : List D} {M1 : Mk} {H1 : Hp} {c0 : Int} (hq : SqT B.K (wo M1 H1) p us) (r : Reps B.K (wo M1 H1) us ds) : WalkD B (IteT B.K p c0) (enumD c0 ds) (fun _ => True) M1 H1 := by
  have hq' : ∀ {M H}, Sub (wo M1 H1) (wo M H) → SqT B.K H p us := fun s => (wo_sub _ _).sqt (s.sqt hq)
  refine ⟨fun M H μ i s _ _ h => ?_, fun M H μ s _ _ => ⟨us, hq' s.sub, by rw [enumD_len, r.length]; exact Nat.le_refl _⟩, fun M H μ i v H' s w _ h y => ?_⟩
  · rw [enumD_len, ← r.length] at h
    exact ⟨us, us[i], hq' s.sub, List.getElem?_eq_getElem h⟩
  · obtain ⟨T, x, rfl, hT, rfl, hx⟩ := y
    obtain ⟨d, hd, rd⟩ := r.getV (hx us (hq' s.sub))
    exact ⟨_, enumD_get hd, le_new w hT, wd_new w hT, .d (.tup (wo_at w hT) ((Reps.cons (.int _) (.cons (rd.mono s.sub) .nil)).mono (wo_new hT)))⟩
theorem walkd_eM {p : Addr} {n : Nat} {ds : List D} {M1 : Mk} {H1 : Hp} {c0 : Int} (hp : M1.ids[n]? = some (some p)) : WalkD B (IteL B.K p c0) (enumD c0 ds) (fun μ => μ[n]? = some (.lst (ds.map SV.d))) M1 H1 := by
  have key : ∀ {M H μ}, Ids M1 M → Wd B.K M H μ → μ[n]? = some (.lst (ds.map SV.d)) → ∃ us, SqL B.K H p us ∧ Reps B.K (wo M H) us ds := fun j w g => by
    obtain ⟨mo, h1, r⟩ := w.ob n p (j n p hp)
    rw [g] at h1
    cases h1
    obtain ⟨us, hu, ru⟩ := r
    exact ⟨us, .inl (.inl hu), ru.pure⟩
  refine ⟨fun M H μ i s w g h => ?_, fun M H μ s w g => ?_, fun M H μ i v H' s w g h y => ?_⟩
  · obtain ⟨us, hu, ru⟩ := key s.ids w g
    rw [enumD_len, ← ru.length] at h
    exact ⟨us, us[i], hu, List.getElem?_eq_getElem h⟩
  · obtain ⟨us, hu, ru⟩ := key s.ids w g
    exact ⟨us, hu, by rw [enumD_len, ru.length]; exact Nat.le_refl _⟩
  · obtain ⟨us, hu, ru⟩ := key s.ids w g
    obtain ⟨T, x, rfl, hT, rfl, hx⟩ := y
    obtain ⟨d, hd, rd⟩ := ru.getV (hx us hu)
    exact ⟨_, enumD_get hd, le_new w hT, wd_new w hT, .d (.tup (wo_at w hT) ((Reps.cons (.int _) (.cons rd .nil)).mono (wo_new hT)))⟩
theorem sim_enum {c0 : Int} (h : SimA B ul tl) : SimI B (iEnumK B.K c0 ul) (diEnum c0 tl) := fun bb M σ H ε μ Φ R a k q => h bb M σ H ε μ _ _ a (fun v M1 H1 x μ1 l1 w1 r1 q1 => by
  split at q1
  · cases r1 with
    | cons r1 r2 =>
      cases r2
      obtain ⟨p, us, rfl, hp, rp⟩ := Rv.lst_inv r1
      exact ⟨p, us, rfl, .inl ⟨.inl (.inl ((wo_sub M1 H1).ex hp rfl)), k _ M1 H1 _ _ μ1 l1 w1 (walkd_eL (.inl (.inl hp)) rp) q1⟩⟩
  · cases r1 with
    | cons r1 r2 =>
      cases r2
      obtain ⟨p, us, rfl, hp, rp⟩ := Rv.lsr_inv r1
      exact ⟨p, us, rfl, .inl ⟨(wo_sub M1 H1).sql hp, k _ M1 H1 _ _ μ1 l1 w1 (walkd_eL hp rp) q1⟩⟩
  · cases r1 with
    | cons r1 r2 =>
      cases r2
      obtain ⟨p, us, rfl, hp, rp⟩ := Rv.tup_inv r1
      exact ⟨p, us, rfl, .inr ⟨(wo_sub M1 H1).sqt hp, k _ M1 H1 _ _ μ1 l1 w1 (walkd_eT hp rp) q1⟩⟩
  · cases r1 with
    | cons r1 r2 =>
      cases r2
      obtain ⟨ds, hm, q1⟩ := q1
      obtain ⟨p, rfl, hp, us, hu, ru⟩ := Rv.m_inv w1 r1 hm
      exact ⟨p, us, rfl, .inl ⟨.inl (.inl hu), k _ M1 H1 _ _ μ1 l1 w1 (walkd_eM hp) q1⟩⟩
  · exact q1.elim) q
theorem di_enum {elts : List Expr} {kk : Nat} {tpos p : Pos} (hg : Gl X "enumerate") (hm : X.mg "enumerate" = none) (ha : DA X B [e] ul tl) (hK : B.K = X.K := by rfl) (hs : starEach [e] X.env = [(false, eval e X.env)] := by rfl) :
    DI X B (.Tuple elts kk tpos) (.Call (.Name "enumerate" p) [e] [] pos) (iEnumK B.K 0 ul) (diEnum 0 tl) := by
  obtain ⟨Kb, Eb, Ψb⟩ := B
  have hK : Kb = X.K := hK
  subst hK
  have hK : X.K = X.K := rfl
  exact ⟨pi_enum0 hg hm ha.p hs, by rw [← hK]; exact sim_enum ha.s⟩
theorem di_enumS {elts : List Expr} {kk : Nat} {tpos p cpos kpos : Pos} {k : Int} {j : Nat} (hg : Gl X "enumerate") (hm : X.mg "enumerate" = none) (hk : -(2 ^ 63) ≤ k ∧ k < 2 ^ 63) (ha : DA X B [e] ul tl) (hK : B.K = X.K := by rfl) (hs : starEach [e] X.env = [(false, eval e X.env)] := by rfl) :
    DI X B (.Tuple elts kk tpos) (.Call (.Name "enumerate" p) [e] [⟨some "start", .Constant (.int k) j cpos, kpos⟩] pos) (iEnumK B.K k ul) (diEnum k tl) := by
  obtain ⟨Kb, Eb, Ψb⟩ := B
  have hK : Kb = X.K := hK
  subst hK
  have hK : X.K = X.K := rfl
  exact ⟨pi_enumS hg hm hk ha.p hs, by rw [← hK]; exact sim_enum ha.s⟩

/-! ### comprehensions -/
def dwipe (ε : DEnv) : List Nat → DEnv
  | [] => ε
  | v :: vs => (dwipe ε vs).set v none
theorem EnvR.unset {K : PySem.W.Frag} {M : Mk} {G : Hp} {σ : L2.St} {ε : DEnv} (h : EnvR K M G σ ε) (v : Nat) : EnvR K M G (σ.set v none) (ε.set v none) := by
  refine ⟨by rw [List.length_set, List.length_set]; exact h.len, fun n y q => ?_⟩
  by_cases e : v = n
  · subst e
    have hl := (List.getElem?_eq_some_iff.mp q).1
    rw [List.length_set] at hl
    rw [List.getElem?_set_self hl] at q
    cases q
  · rw [List.getElem?_set_ne e] at q
    rw [List.getElem?_set_ne e]
    exact h.at_ n y q
theorem EnvR.wipe {K : PySem.W.Frag} {M : Mk} {G : Hp} {σ : L2.St} {ε : DEnv} (h : EnvR K M G σ ε) : ∀ vs : List Nat, EnvR K M G (L2.wipe σ vs) (dwipe ε vs)
  | [] => h
  | v :: vs => (EnvR.wipe h vs).unset v
theorem wipe_get (σ : L2.St) (i : Nat) : ∀ vs : List Nat, (L2.wipe σ vs)[i]? = if i ∈ vs ∧ i < σ.length then some none else σ[i]?
  | [] => by simp [L2.wipe]
  | v :: vs => by
    show ((L2.wipe σ vs).set v none)[i]? = _
    rw [List.getElem?_set, wipe_get σ i vs, wipe_length]
    by_cases e : v = i
    · subst e
      by_cases hl : v < σ.length
      · simp [hl]
      · simp [hl]
    · have e' : ¬ i = v := fun z => e z.symm
      simp [e, e']
theorem wipe_set {σ : L2.St} {i : Nat} {x : Option V} {vs : List Nat} (h : i ∈ vs) : L2.wipe (σ.set i x) vs = L2.wipe σ vs := by
  refine List.ext_getElem? fun j => ?_
  rw [wipe_get, wipe_get, List.length_set]
  by_cases hj : j ∈ vs ∧ j < σ.length
  · rw [if_pos hj, if_pos hj]
  · rw [if_neg hj, if_neg hj, List.getElem?_set]
    by_cases e : i = j
    · subst e
      have : ¬ i < σ.length := fun z => hj ⟨h, z⟩
      simp [this]
    · simp [e]
theorem wipe_wipe {σ : L2.St} {vs : List Nat} : L2.wipe (L2.wipe σ vs) vs = L2.wipe σ vs := by
  refine List.ext_getElem? fun j => ?_
  rw [wipe_get, wipe_get, wipe_length]
  by_cases hj : j ∈ vs ∧ j < σ.length
  · rw [if_pos hj, if_pos hj]
  · rw [if_neg hj]
/-- a target that stores into these slots alone -/
def GW (vs : List Nat) (g : TG) : Prop := ∀ (v : V) (σ σ0 : L2.St) (H : Hp) (Q : L2.St → Hp → Prop), L2.wipe σ vs = L2.wipe σ0 vs → g v σ H Q → g v σ H fun σ2 H2 => L2.wipe σ2 vs = L2.wipe σ0 vs ∧ Q σ2 H2
def GWs (vs : List Nat) (g : TGs) : Prop := ∀ (v : List V) (σ σ0 : L2.St) (H : Hp) (Q : L2.St → Hp → Prop), L2.wipe σ vs = L2.wipe σ0 vs → g v σ H Q → g v σ H fun σ2 H2 => L2.wipe σ2 vs = L2.wipe σ0 vs ∧ Q σ2 H2
theorem gw_name {i : Nat} {vs : List Nat} (h : i ∈ vs) : GW vs (gName i) := fun v σ σ0 H Q e q => ⟨(wipe_set h).trans e, q⟩
/-- a name is stored, then on -/
theorem gws_nil {vs : List Nat} : GWs vs gNil := fun v σ σ0 H Q e q => ⟨q.1, e, q.2⟩
theorem gws_cons {i : Nat} {vs : List Nat} {u : TGs} (h : i ∈ vs) (h2 : GWs vs u) : GWs vs (gCons (gName i) u) := fun v σ σ0 H Q e q => by
  obtain ⟨x, r, e1, q⟩ := q
  exact ⟨x, r, e1, h2 r (σ.set i (some x)) σ0 H Q ((wipe_set h).trans e) q⟩
theorem gw_tup {K : PySem.W.Frag} {n : Nat} {vs : List Nat} {u : TGs} (h : GWs vs u) : GW vs (gTup K n u) := fun v σ σ0 H Q e q => by
  obtain ⟨p, xs, e1, e2, e3, q⟩ := q
  exact ⟨p, xs, e1, e2, e3, h xs σ σ0 H Q e q⟩
def dLc (ti : DTI) (g : DTG) (tt : DTT) (te : DTE) (ws : List Nat) : DTE := fun ε μ Φ => ti ε μ fun xs G μ1 => ∃ I : Nat → List D → DSt → Prop, I 0 [] μ1 ∧ (∀ i acc μ, i ≤ xs.length → I i acc μ → G μ ∧ acc.length < sizeLine) ∧
  (∀ i x acc μ, xs[i]? = some x → I i acc μ → g x (dwipe ε ws) μ fun ε2 μ2 => tt ε2 μ2 fun b μ3 => bcase b (te ε2 μ3 fun y μ4 => match y with
      | .d d => I (i + 1) (acc ++ [d]) μ4
      | .m _ => False) (I (i + 1) acc μ3)) ∧ ∀ acc μ, I xs.length acc μ → Φ (.d (.lst acc)) μ
theorem sim_lc {vi : TI} {di : DTI} {vg : TG} {dg : DTG} {vt : TT} {dt : DTT} {ws : List Nat} (hi : SimI B vi di) (hg : SimG B vg dg) (hw : GW ws vg) (ht : SimT B vt dt) (he : SimE B ue te) : SimE B (tLc vi vg vt ue ws) (dLc di dg dt te ws) :=
  fun bb M σ H ε μ Φ Q a k q => hi bb M σ H ε μ _ _ a (fun J M1 H1 xs G μ1 l1 w1 wk q1 Dl hD => by
    obtain ⟨I, i0, iG, is, ie⟩ := q1
    have a1 := a.next l1 w1
    have hD' : ∀ b, b ∈ M1.hid → b ≠ Dl := fun b hb z => w1.freshH hD (z ▸ hb)
    refine ⟨fun i m H => m = xs.length - i ∧ i ≤ xs.length ∧ ∃ M μ acc us, Le M1 H1 M H ∧ Dl ∈ M.hid ∧ Wd B.K M H μ ∧ H Dl = some (.lst us) ∧ Reps B.K (wo M H) us acc ∧ I i acc μ,
      ⟨xs.length, by simp, Nat.zero_le _, M1.hide Dl, μ1, [], [], le_hide w1 hD, List.mem_cons_self .., wd_hide w1 hD, upd_same, .nil, i0⟩, ?_⟩
    rintro i m H2 ⟨rfl, hi, M2, μ2, acc, us, l2, h2, w2, e2, r2, iz⟩
    obtain ⟨hG, hz⟩ := iG i acc μ2 hi iz
    by_cases hlt : i < xs.length
    · refine .inr ⟨wk.go M2 H2 μ2 i l2 w2 hG hlt, fun H => ∃ M μ acc us, Le M1 H1 M H ∧ Dl ∈ M.hid ∧ Wd B.K M H μ ∧ H Dl = some (.lst us) ∧ Reps B.K (wo M H) us acc ∧ I (i + 1) acc μ, fun H' z => ⟨xs.length - (i + 1), by omega, rfl, hlt, z⟩, fun v H3 hy => ?_⟩
      obtain ⟨x, hx, l3, w3, r3⟩ := wk.yld M2 H2 μ2 i v H3 l2 w2 hG hlt hy
      have a3 : At bb M2 (L2.wipe σ ws) H3 (dwipe ε ws) μ2 := ⟨(a1.le.trans l2).trans l3, w3, ((a1.env.mono (l2.trans l3).ids (l2.trans l3).sub).wipe ws)⟩
      have q3 := hg bb M2 (L2.wipe σ ws) H3 (dwipe ε ws) μ2 v x _ _ a3 r3 (fun M4 σ4 H4 ε4 μ4 l4 a4 q4 => (?_ : (fun σ4 H4 => vt σ4 H4 fun b H5 => if b = true then ue σ4 H5 fun y H6 => ∃ acc, H6 Dl = some (.lst acc) ∧ acc.length < sizeLine ∧ ∃ M μ acc' us, Le M1 H1 M (upd H6 Dl (.lst (acc ++ [y]))) ∧ Dl ∈ M.hid ∧ Wd B.K M (upd H6 Dl (.lst (acc ++ [y]))) μ ∧ (upd H6 Dl (.lst (acc ++ [y]))) Dl = some (.lst us) ∧ Reps B.K (wo M (upd H6 Dl (.lst (acc ++ [y])))) us acc' ∧ I (i + 1) acc' μ else ∃ M μ acc us, Le M1 H1 M H5 ∧ Dl ∈ M.hid ∧ Wd B.K M H5 μ ∧ H5 Dl = some (.lst us) ∧ Reps B.K (wo M H5) us acc ∧ I (i + 1) acc μ) σ4 H4)) (is i x acc μ2 hx iz)
      · have q5 := hw v (L2.wipe σ ws) σ H3 _ wipe_wipe q3
        exact q5
      · refine ht bb M4 σ4 H4 ε4 μ4 _ _ a4 (fun b M5 H5 μ5 l5 w5 q5 => ?_) q4
        have l25 := (l3.trans l4).trans l5
        have hd5 := l25.hid Dl h2
        cases b with
        | false =>
          refine (if_neg Bool.false_ne_true).mpr ?_
          exact ⟨M5, μ5, acc, us, l2.trans l25, hd5.1, w5, by rw [hd5.2]; exact e2, r2.mono l25.sub, q5⟩
        | true =>
          refine (if_pos rfl).mpr ?_
          refine he bb M5 σ4 H5 ε4 μ5 _ _ (a4.next l5 w5) (fun y M6 H6 sy μ6 l6 w6 r6 q6 => ?_) q5
          have l26 := l25.trans l6
          have hd6 := l26.hid Dl h2
          split at q6
          · rename_i d
            cases r6 with
            | d r6 =>
            refine ⟨us, by rw [hd6.2]; exact e2, by rw [r2.length]; exact hz, M6, μ6, acc ++ [d], us ++ [y], ?_, hd6.1, wd_hid w6 hd6.1, upd_same, ?_, q6⟩
            · have lz := l2.trans l26
              exact ⟨lz.ids, lz.len, by rw [wo_set (.inr hd6.1)]; exact lz.sub, fun b hb => upd_some _ (lz.all b hb), fun b hb => ⟨(lz.hid b hb).1, by rw [upd_ne (hD' b hb)]; exact (lz.hid b hb).2⟩, fun b o u e n n' => by rw [upd_ne (fun z => by rw [z, hD] at e; cases e)]; exact lz.fz b o u e n n'⟩
            · rw [wo_set (.inr hd6.1)]
              exact (r2.mono l26.sub).append (.cons r6 .nil)
          · exact q6.elim
    · have e : i = xs.length := by omega
      subst e
      refine .inl ⟨wk.stop M2 H2 μ2 l2 w2 hG, ?_⟩
      have hh : ∀ b ∈ M1.hid, b ∈ M2.hid := fun b hb => (l2.hid b hb).1
      have sb : Sub (wo M2 H2) (wo ⟨M2.ids, M1.hid⟩ H2) := fun b o z => by
        obtain ⟨o', z1, rfl, z2, z3⟩ := wo_in z
        exact wo_some z1 z2 fun y => z3 (hh b y)
      refine k (.ref Dl) ⟨M2.ids, M1.hid⟩ H2 (.d (.lst acc)) μ2 (l1.trans ⟨l2.ids, l2.len, l2.sub.trans sb, l2.all, fun b hb => ⟨hb, (l2.hid b hb).2⟩, l2.fz⟩) (wd_made w2 hh) (.d (.lst (wo_some e2 (w2.hid Dl h2).1 fun z => hD' Dl z rfl) (r2.mono sb))) (ie acc μ2 iz)) q
structure DTs (X : Cx) (B : Bs) (e : List Expr) (u : TT) (t : DTT) : Prop where
  p : PTs X e u
  s : SimT B u t
def dYes : DTT := fun _ μ Φ => Φ true μ
theorem dts_nil : DTs X B [] tYes dYes := ⟨pts_nil, fun bb M σ H ε μ Φ Q a k h => k true M H μ (Le.refl M H) a.wd h⟩
theorem dts_one {vt : TT} {dt : DTT} (h : DT X B c vt dt) : DTs X B [c] vt dt := ⟨pts_one h.p, h.s⟩
theorem de_lc {elt tg iter : Expr} {ifs : List Expr} {scope : Scope} {own : List (Str × Nat)} {vi : TI} {di : DTI} {vg : TG} {dg : DTG} {vt : TT} {dt : DTT} (hc : X.calm = true) (hN : X.N.Nodup) (hi : DI X B tg iter vi di) (ok : BlkOk X.N X.env.scope scope own)
    (hg : ∀ (s : Shared) (H : Hp) (C : Addr) (cl : List (Str × Addr)) (fp : List Addr), DG (X.blk s H scope (compEnvC scope cl C X.env) fp) B tg vg dg) (hw : GW (own.map (·.2)) vg)
    (ht : ∀ (s : Shared) (H : Hp) (C : Addr) (cl : List (Str × Addr)) (fp : List Addr), DTs (X.blk s H scope (compEnvC scope cl C X.env) fp) B ifs vt dt)
    (he : ∀ (s : Shared) (H : Hp) (C : Addr) (cl : List (Str × Addr)) (fp : List Addr), DE (X.blk s H scope (compEnvC scope cl C X.env) fp) B elt ue te) (hs : ∀ x, foldedSetIterable iter X.env x = pure x := by intro _; rfl) :
    DE X B (.ListComp elt [⟨tg, iter, ifs, 0⟩] scope pos) (tLc vi vg vt ue (own.map (·.2))) (dLc di dg dt te (own.map (·.2))) :=
  ⟨pe_lc hc hN hi.p ok (fun s H C cl fp => (hg s H C cl fp).p) (fun s H C cl fp => (ht s H C cl fp).p) (fun s H C cl fp => (he s H C cl fp).p) hs,
   sim_lc hi.s (hg X.s_0 X.H_0 0 [] []).s hw (ht X.s_0 X.H_0 0 [] []).s (he X.s_0 X.H_0 0 [] []).s⟩
end
end DV

set_option Elab.async false
set_option linter.all false
set_option maxRecDepth 100000
namespace DV
open PySem PySem.Spec PyProof.Rows L2

/-! ### defs -/
/-- a promise over data as a promise over the heap -/
def toSp (K : PySem.W.Frag) (d : DSp) : Sp := fun vs H Q E => ∃ (M : Mk) (μ : DSt) (xs : List SV) (Φ : DK) (Ψ : DX), Wd K M H μ ∧ SReps K M (wo M H) vs xs ∧
  (∀ v M' H' x μ', Le M H M' H' → Wd K M' H' μ' → SRep K M' (wo M' H') v x → Φ x μ' → Q v H') ∧
  (∀ (cls : Value) (dp : Option Addr) (M' : Mk) (H' : Hp) (fs : List (Str × D)) (μ' : DSt), Le M H M' H' → Wd K M' H' μ' → XRep K (wo M' H') H' dp fs → Ψ cls fs μ' → E cls dp H') ∧ d xs μ Φ Ψ
def dstart : Nat → List SV → DEnv
  | 0, _ => []
  | n + 1, [] => none :: dstart n []
  | n + 1, x :: xs => some x :: dstart n xs
theorem dstart_len : ∀ (n : Nat) (xs : List SV), (dstart n xs).length = n
  | 0, _ => rfl
  | n + 1, [] => congrArg (· + 1) (dstart_len n [])
  | n + 1, _ :: xs => congrArg (· + 1) (dstart_len n xs)
theorem dstart_get : ∀ (n : Nat) (xs : List SV) (i : Nat) (x : SV), (dstart n xs)[i]? = some (some x) → xs[i]? = some x
  | 0, _, _, _, h => by simp [dstart] at h
  | n + 1, [], 0, x, h => by simp [dstart] at h
  | n + 1, [], i + 1, x, h => by
    have h : (dstart n [])[i]? = some (some x) := by simpa [dstart] using h
    have := dstart_get n [] i x h
    simp at this
  | n + 1, y :: xs, 0, x, h => by simpa [dstart] using h
  | n + 1, y :: xs, i + 1, x, h => by
    have h : (dstart n xs)[i]? = some (some x) := by simpa [dstart] using h
    have := dstart_get n xs i x h
    simpa using this
theorem start_env {K : PySem.W.Frag} {M : Mk} {G : Hp} {N : List Str} {vs : List V} {xs : List SV} (r : SReps K M G vs xs) (hl : xs.length ≤ N.length) : EnvR K M G (L2.start N vs) (dstart N.length xs) := by
  unfold L2.start
  refine ⟨?_, fun i x q => ?_⟩
  · rw [dstart_len]
    simp only [List.length_append, List.length_map, List.length_replicate, r.length]
    omega
  · have hx := dstart_get _ _ _ _ q
    obtain ⟨v, hv, rv⟩ := r.get hx
    refine ⟨v, ?_, rv⟩
    rw [List.getElem?_append_left (by rw [List.length_map]; exact (List.getElem?_eq_some_iff.mp hv).1), List.getElem?_map, hv]
    rfl
section
variable {P : Program} {w : World} {K : PySem.W.Frag} {mg : Str → Option Value} {base : Heap}
/-- THE RULE for a def that raises nothing -/
theorem dfn {x qual : Str} {st : Stmt} {f : Addr} {fd : FuncData} {N ps : List Str} {k : Nat} {d : DSp} (F : Fun K x qual st f fd) (S : FnScope N ps (defScope st)) (len : ∀ xs μ Φ Ψ, d xs μ Φ Ψ → xs.length = ps.length) (hN : ps.length ≤ N.length)
    (hbody : ∀ (cdv : Value) (A : Around) (outer : List Env) (s : Shared) (H : Hp) (E : XK) (Ψ : DX), Room k (A.deeper (envOfC qual (defScope st) s.heap.objs.size f cdv)) →
      ∃ u t, DSs (cxOf CX0 P w K mg base N qual (defScope st) f cdv A outer s H E).nox { K := K, E := E, Ψ := Ψ } (defBody st) u t ∧ ∀ xs μ Φ, d xs μ Φ Ψ → t { nx := fun _ μ => Φ (.d .non) μ, rt := Φ, fl := μ.length } (dstart N.length xs) μ) : FnOk P w K mg base CX0 (k + 1) f fd ps (toSp K d) := by
  refine F.ok S (fun vs H Q E h => ?_) (fun cdv A outer s H vs Q E hr h => ?_)
  · obtain ⟨M, μ, xs, Φ, Ψ, _, r, _, _, q⟩ := h
    rw [r.length]
    exact len _ _ _ _ q
  · obtain ⟨M, μ, xs, Φ, Ψ, W, r, kq, ke, q⟩ := h
    obtain ⟨u, t, hd, ht⟩ := hbody cdv A outer s H E Ψ hr
    refine ⟨u, hd.p, ?_⟩
    let bb : Ba { K := K, E := E, Ψ := Ψ } := ⟨M, H, ke, fun _ _ cls dp M' H' fs μ l w _ => ke cls dp M' H' fs μ l w, fun _ _ _ => trivial⟩
    refine hd.s bb M (L2.start N vs) H (dstart N.length xs) μ _ _ ⟨Le.refl M H, W, start_env r (by rw [len _ _ _ _ q]; exact hN)⟩ ⟨?_, ?_, ?_, ?_, Nat.le_of_eq W.len⟩ (ht xs μ Φ q)
    · exact fun M1 σ1 H1 ε1 μ1 a1 q1 => kq .non M1 H1 _ μ1 a1.le a1.wd (.d .non) q1
    · exact fun v M1 H1 x μ1 l1 w1 r1 q1 => kq v M1 H1 x μ1 l1 w1 r1 q1
    · exact fun M1 σ1 H1 ε1 μ1 a1 q1 => q1.elim
    · exact fun M1 σ1 H1 ε1 μ1 a1 q1 => q1.elim
end
section
variable {X : Cx} {B : Bs} {a b c e : Expr} {es : List Expr} {pos p : Pos} {ta tb tc te : DTE} {tl : DTA} {ua ub uc ue : TE} {ul : TA}
variable {CX : CXT} {k : Nat} {f : Addr} {fd : FuncData} {ps : List Str} {d : DSp} {x : Str}
/-- a call -/
def dCall (d : DSp) (Ψ : DX) (t : DTA) : DTE := fun ε μ Φ => t ε μ fun xs μ1 => d xs μ1 Φ Ψ
theorem sim_call (h : SimA B ul tl) : SimE B (tCall (toSp B.K d) [] B.E ul) (dCall d B.Ψ tl) := fun bb M σ H ε μ Φ Q a k q => h bb M σ H ε μ _ _ a (fun vs M1 H1 xs μ1 l1 w1 r1 q1 => by
  rw [List.append_nil]
  exact ⟨M1, μ1, xs, Φ, B.Ψ, w1, r1, fun v M2 H2 y μ2 l2 => k v M2 H2 y μ2 (l1.trans l2), fun cls dp M2 H2 fs μ2 l2 => bb.hE cls dp M2 H2 fs μ2 ((a.le.trans l1).trans l2), q1⟩) q
theorem passes0 {E : XK} : Passes CX0 X E := fun _ _ _ _ _ _ _ h => h.elim
theorem de_call (F : FnOk X.prog X.w X.K X.mg X.base CX k f fd ps (toSp X.K d)) (hr : Room k X.A) (hg : Gl X x) (hm : X.mg x = some (.ref f)) (hk : PySem.W.keepIn X.K (.ref f) = true) (hb : Binds X.K fd ps []) (hx : Passes CX X B.E) (ha : DA X B (e :: es) ul tl)
    (hK : B.K = X.K := by rfl) (hdb : (x == ("__debug__" : Str)) = false := by decide) (he : starEach (e :: es) X.env = (false, eval e X.env) :: starEach es X.env := by rfl) (hpl : (backTo pos (starEach es X.env)).any (·.1) = false := by rfl) :
    DE X B (.Call (.Name x p) (e :: es) [] pos) (tCall (toSp B.K d) [] B.E ul) (dCall d B.Ψ tl) := by
  obtain ⟨Kb, Eb, Ψb⟩ := B
  have hK : Kb = X.K := hK
  subst hK
  have hK : X.K = X.K := rfl
  exact ⟨pe_call F hr hg hm hk hb .nil hx ha.p hdb he hpl, by rw [← hK]; exact sim_call ha.s⟩
theorem de_call0 (F : FnOk X.prog X.w X.K X.mg X.base CX k f fd ps (toSp X.K d)) (hr : Room k X.A) (hg : Gl X x) (hm : X.mg x = some (.ref f)) (hk : PySem.W.keepIn X.K (.ref f) = true) (hb : Binds X.K fd ps []) (hx : Passes CX X B.E)
    (hK : B.K = X.K := by rfl) (hdb : (x == ("__debug__" : Str)) = false := by decide) :
    DE X B (.Call (.Name x p) [] [] pos) (tCall (toSp B.K d) [] B.E tNil) (dCall d B.Ψ dNil) := by
  obtain ⟨Kb, Eb, Ψb⟩ := B
  have hK : Kb = X.K := hK
  subst hK
  have hK : X.K = X.K := rfl
  exact ⟨pe_call0 F hr hg hm hk hb .nil hx hdb, by rw [← hK]; exact sim_call (fun bb M σ H ε μ Φ Q a k h => k [] M H [] μ (Le.refl M H) a.wd .nil h)⟩
/-- a built-in by its name -/
def dCB (r : List SV → DSt → DK → Prop) (t : DTA) : DTE := fun ε μ Φ => t ε μ fun xs μ1 => r xs μ1 Φ
theorem sim_cb {r : List V → Hp → VK → Prop} {rd : List SV → DSt → DK → Prop} (hr : SimC B r rd) (h : SimA B ul tl) : SimE B (tCB r ul) (dCB rd tl) := fun bb M σ H ε μ Φ Q a k q => h bb M σ H ε μ _ _ a (fun vs M1 H1 xs μ1 l1 w1 r1 q1 =>
  hr M1 H1 μ1 vs xs Φ Q w1 r1 (fun v M2 H2 y μ2 l2 => k v M2 H2 y μ2 (l1.trans l2)) q1) q
theorem de_cb {id : String} {r : List V → Hp → VK → Prop} {rd : List SV → DSt → DK → Prop} (hc : CallR X (.builtin id) r) (hr : SimC B r rd) (hg : Gl X x) (hm : X.mg x = none) (hv : bootBuiltins x = some (.builtin id)) (ha : DA X B (e :: es) ul tl)
    (h : PE X (.Call (.Name x p) (e :: es) [] pos) (tCB r ul)) : DE X B (.Call (.Name x p) (e :: es) [] pos) (tCB r ul) (dCB rd tl) := ⟨h, sim_cb hr ha.s⟩
theorem de_cb' {r : List V → Hp → VK → Prop} {rd : List SV → DSt → DK → Prop} (hr : SimC B r rd) (ha : SimA B ul tl) (h : PE X e (tCB r ul)) : DE X B e (tCB r ul) (dCB rd tl) := ⟨h, sim_cb hr ha⟩
/-! the built-ins -/
def dInt : List SV → DSt → DK → Prop
  | [.d (.int i)], μ, Φ => Φ (.d (.int i)) μ
  | [.d (.bl k)], μ, Φ => Φ (.d (.int (if k then 1 else 0))) μ
  | _, _, _ => False
theorem one_inv {M : Mk} {H : Hp} {v : List V} {x : SV} (r : Rvs B M H v [x]) : ∃ u, v = [u] ∧ Rv B M H u x := by
  cases r with
  | cons r1 r2 =>
    cases r2
    exact ⟨_, rfl, r1⟩
theorem two_inv {M : Mk} {H : Hp} {v : List V} {x y : SV} (r : Rvs B M H v [x, y]) : ∃ u w, v = [u, w] ∧ Rv B M H u x ∧ Rv B M H w y := by
  cases r with
  | cons r1 r2 => cases r2 with
    | cons r2 r3 =>
      cases r3
      exact ⟨_, _, rfl, r1, r2⟩
theorem sim_int : SimC B (fun xs H Q => (∃ i, xs = [.int i] ∧ Q (.int i) H) ∨ ∃ k, xs = [.bl k] ∧ Q (.int (if k then 1 else 0)) H) dInt := fun M H μ v x Φ Q W r k h => by
  unfold dInt at h
  split at h
  · obtain ⟨u, rfl, r1⟩ := one_inv r
    rw [r1.int_inv]
    exact .inl ⟨_, rfl, k _ M H _ μ (Le.refl M H) W (.d (.int _)) h⟩
  · obtain ⟨u, rfl, r1⟩ := one_inv r
    rw [r1.bl_inv]
    exact .inr ⟨_, rfl, k _ M H _ μ (Le.refl M H) W (.d (.int _)) h⟩
  · exact h.elim
def dMax2 : List SV → DSt → DK → Prop
  | [.d (.int i), .d (.int j)], μ, Φ => Φ (.d (.int (if j > i then j else i))) μ
  | _, _, _ => False
def dMin2 : List SV → DSt → DK → Prop
  | [.d (.int i), .d (.int j)], μ, Φ => Φ (.d (.int (if j < i then j else i))) μ
  | _, _, _ => False
theorem sim_max2 : SimC B (fun xs H Q => ∃ i j, xs = [.int i, .int j] ∧ Q (.int (if j > i then j else i)) H) dMax2 := fun M H μ v x Φ Q W r k h => by
  unfold dMax2 at h
  split at h
  · obtain ⟨u, w, rfl, r1, r2⟩ := two_inv r
    rw [r1.int_inv, r2.int_inv]
    exact ⟨_, _, rfl, k _ M H _ μ (Le.refl M H) W (.d (.int _)) h⟩
  · exact h.elim
theorem sim_min2 : SimC B (fun xs H Q => ∃ i j, xs = [.int i, .int j] ∧ Q (.int (if j < i then j else i)) H) dMin2 := fun M H μ v x Φ Q W r k h => by
  unfold dMin2 at h
  split at h
  · obtain ⟨u, w, rfl, r1, r2⟩ := two_inv r
    rw [r1.int_inv, r2.int_inv]
    exact ⟨_, _, rfl, k _ M H _ μ (Le.refl M H) W (.d (.int _)) h⟩
  · exact h.elim
def dLen : List SV → DSt → DK → Prop
  | [.d (.tup ds)], μ, Φ => Φ (.d (.int (ds.length : Nat))) μ
  | [.d (.lst ds)], μ, Φ => Φ (.d (.int (ds.length : Nat))) μ
  | [.d (.lsr ds)], μ, Φ => Φ (.d (.int (ds.length : Nat))) μ
  | [.d (.str z)], μ, Φ => z.length ≤ sizeLine ∧ Φ (.d (.int (z.length : Nat))) μ
  | [.m n], μ, Φ => ∃ xs, μ[n]? = some (.lst xs) ∧ Φ (.d (.int (xs.length : Nat))) μ
  | _, _, _ => False
theorem sim_len : SimC B (fun xs H Q => ∃ x n, xs = [x] ∧ LenV B.K x H n ∧ Q (.int n) H) dLen := fun M H μ v x Φ Q W r k h => by
  unfold dLen at h
  split at h
  · obtain ⟨u, rfl, r1⟩ := one_inv r
    obtain ⟨q, us, rfl, hq, rq⟩ := r1.tup_inv
    exact ⟨_, _, rfl, .inr ⟨us, (wo_sub M H).sqt hq, rfl⟩, k _ M H _ μ (Le.refl M H) W (.d (by rw [rq.length]; exact .int _)) h⟩
  · obtain ⟨u, rfl, r1⟩ := one_inv r
    obtain ⟨q, us, rfl, hq, rq⟩ := r1.lst_inv
    exact ⟨_, _, rfl, .inl ⟨us, .inl (.inl ((wo_sub M H).ex hq rfl)), rfl⟩, k _ M H _ μ (Le.refl M H) W (.d (by rw [rq.length]; exact .int _)) h⟩
  · obtain ⟨u, rfl, r1⟩ := one_inv r
    obtain ⟨q, us, rfl, hq, rq⟩ := r1.lsr_inv
    exact ⟨_, _, rfl, .inl ⟨us, (wo_sub M H).sql hq, rfl⟩, k _ M H _ μ (Le.refl M H) W (.d (by rw [rq.length]; exact .int _)) h⟩
  · obtain ⟨u, rfl, r1⟩ := one_inv r
    rw [r1.str_inv]
    exact ⟨_, _, rfl, ⟨h.1, rfl⟩, k _ M H _ μ (Le.refl M H) W (.d (.int _)) h.2⟩
  · obtain ⟨u, rfl, r1⟩ := one_inv r
    obtain ⟨xs, hm, h⟩ := h
    obtain ⟨q, rfl, hq, us, hu, ru⟩ := r1.m_inv W hm
    exact ⟨_, _, rfl, .inl ⟨us, .inl (.inl hu), rfl⟩, k _ M H _ μ (Le.refl M H) W (.d (by rw [ru.length]; exact .int _)) h⟩
  · exact h.elim
def dTuple : List SV → DSt → DK → Prop
  | [.d (.tup ds)], μ, Φ => Φ (.d (.tup ds)) μ
  | [.d (.lst ds)], μ, Φ => Φ (.d (.tup ds)) μ
  | [.m n], μ, Φ => ∃ ds, μ[n]? = some (.lst (ds.map SV.d)) ∧ Φ (.d (.tup ds)) μ
  | _, _, _ => False
theorem sim_tuple : SimC B (fun xs H Q => ∃ p ys, xs = [.ref p] ∧ ((SqL B.K H p ys ∧ ∀ l, H l = none → Q (.ref l) (upd H l (.tup ys))) ∨ (SqT B.K H p ys ∧ Q (.ref p) H))) dTuple := fun M H μ v x Φ Q W r k h => by
  unfold dTuple at h
  split at h
  · obtain ⟨u, rfl, r1⟩ := one_inv r
    obtain ⟨q, us, rfl, hq, rq⟩ := r1.tup_invE
    exact ⟨q, us, rfl, .inr ⟨(wo_sub M H).sqt hq.sqt, k _ M H _ μ (Le.refl M H) W (.d (.tup hq rq)) h⟩⟩
  · obtain ⟨u, rfl, r1⟩ := one_inv r
    obtain ⟨q, us, rfl, hq, rq⟩ := r1.lst_inv
    exact ⟨q, us, rfl, .inl ⟨.inl (.inl ((wo_sub M H).ex hq rfl)), fun l hl => k _ M _ _ μ (le_new W hl) (wd_new W hl) (.d (.tup (wo_at W hl) (rq.mono (wo_new hl)))) h⟩⟩
  · obtain ⟨u, rfl, r1⟩ := one_inv r
    obtain ⟨ds, hm, h⟩ := h
    obtain ⟨q, rfl, hq, us, hu, ru⟩ := r1.m_inv W hm
    exact ⟨q, us, rfl, .inl ⟨.inl (.inl hu), fun l hl => k _ M _ _ μ (le_new W hl) (wd_new W hl) (.d (.tup (wo_at W hl) (ru.pure.mono (wo_new hl)))) h⟩⟩
  · exact h.elim
def seqOf : SV → DSt → List D → Prop
  | .d (.tup ds), _, es => es = ds
  | .d (.lst ds), _, es => es = ds
  | .d (.lsr ds), _, es => es = ds
  | .m n, μ, es => μ[n]? = some (.lst (es.map SV.d))
  | _, _, _ => False
theorem seq_inv {M : Mk} {H : Hp} {μ : DSt} {v : V} {x : SV} {ds : List D} (W : Wd B.K M H μ) (r : Rv B M H v x) (h : seqOf x μ ds) : ∃ p us, v = .ref p ∧ (SqL B.K H p us ∨ SqT B.K H p us) ∧ Reps B.K (wo M H) us ds := by
  unfold seqOf at h
  split at h
  · subst h
    obtain ⟨q, us, e, hq, rq⟩ := r.tup_inv
    exact ⟨q, us, e, .inr ((wo_sub M H).sqt hq), rq⟩
  · subst h
    obtain ⟨q, us, e, hq, rq⟩ := r.lst_inv
    exact ⟨q, us, e, .inl (.inl (.inl ((wo_sub M H).ex hq rfl))), rq⟩
  · subst h
    obtain ⟨q, us, e, hq, rq⟩ := r.lsr_inv
    exact ⟨q, us, e, .inl ((wo_sub M H).sql hq), rq⟩
  · obtain ⟨q, e, hq, us, hu, ru⟩ := r.m_inv W h
    exact ⟨q, us, e, .inl (.inl (.inl hu)), ru.pure⟩
  · exact h.elim
/-- list(..): a list that stays -/
def dList : List SV → DSt → DK → Prop
  | [x], μ, Φ => ∃ ds, seqOf x μ ds ∧ Φ (.d (.lst ds)) μ
  | _, _, _ => False
theorem sim_list : SimC B (fun xs H Q => ∃ p ys, xs = [.ref p] ∧ (SqL B.K H p ys ∨ SqT B.K H p ys) ∧ ∀ l, H l = none → Q (.ref l) (upd H l (.lst ys))) dList := fun M H μ v x Φ Q W r k h => by
  unfold dList at h
  split at h
  · obtain ⟨u, rfl, r1⟩ := one_inv r
    obtain ⟨ds, hs, h⟩ := h
    obtain ⟨q, us, rfl, hq, rq⟩ := seq_inv W r1 hs
    exact ⟨q, us, rfl, hq, fun l hl => k _ M _ _ μ (le_new W hl) (wd_new W hl) (.d (.lst (wo_at W hl) (rq.mono (wo_new hl)))) h⟩
  · exact h.elim
/-- .. that changes -/
def dListM : List SV → DSt → DK → Prop
  | [x], μ, Φ => ∃ ds, seqOf x μ ds ∧ Φ (.m μ.length) (μ ++ [.lst (ds.map SV.d)])
  | _, _, _ => False
theorem sim_listM : SimC B (fun xs H Q => ∃ p ys, xs = [.ref p] ∧ (SqL B.K H p ys ∨ SqT B.K H p ys) ∧ ∀ l, H l = none → Q (.ref l) (upd H l (.lst ys))) dListM := fun M H μ v x Φ Q W r k h => by
  unfold dListM at h
  split at h
  · obtain ⟨u, rfl, r1⟩ := one_inv r
    obtain ⟨ds, hs, h⟩ := h
    obtain ⟨q, us, rfl, hq, rq⟩ := seq_inv W r1 hs
    exact ⟨q, us, rfl, hq, fun l hl => k _ (M.add l) _ _ _ (le_newm W hl) (wd_newm (mo := .lst (ds.map SV.d)) W hl ⟨us, upd_same, (SReps.of rq).mono ids_newm (wo_newm hl)⟩) (.m (by rw [← W.len]; exact at_newm)) h⟩
  · exact h.elim
/-! a star among the arguments -/
def dStar (t : DTE) (tr : DTA) : DTA := fun ε μ Φ => t ε μ fun x μ1 => ∃ ds, seqOf x μ1 ds ∧ tr ε μ1 fun ys μ2 => Φ (ds.map SV.d ++ ys) μ2
theorem da_star {p : Pos} (ha : DE X B e ue te) (hr : DA X B es ul tl) (hK : B.K = X.K := by rfl) (hs : starEach (.Starred e p :: es) X.env = (true, eval e X.env) :: starEach es X.env := by rfl) : DA X B (.Starred e p :: es) (StX.tStar B.K ue ul) (dStar te tl) := by
  obtain ⟨Kb, Eb, Ψb⟩ := B
  have hK : Kb = X.K := hK
  subst hK
  have hK : X.K = X.K := rfl
  exact ⟨StX.pa_star ha.p hr.p hs, fun bb M σ H ε μ Φ Q a k q =>
  ha.s bb M σ H ε μ _ _ a (fun v M1 H1 x μ1 l1 w1 r1 q1 => by
    obtain ⟨ds, hs, q1⟩ := q1
    obtain ⟨p, us, rfl, hp, rp⟩ := seq_inv w1 r1 hs
    rw [← hK]
    exact ⟨p, us, rfl, hp.symm, hr.s bb M1 σ H1 ε μ1 _ _ (a.next l1 w1) (fun ws M2 H2 ys μ2 l2 w2 r2 q2 => k _ M2 H2 _ μ2 (l1.trans l2) w2 ((SReps.of (rp.mono l2.sub)).append r2) q2) q1⟩) q⟩
/-! xs.append(x) -/
def dApp (to_ t : DTE) : DTE := fun ε μ Φ => to_ ε μ fun o μ1 => match o with
  | .m n => (∃ xs, μ1[n]? = some (.lst xs)) ∧ t ε μ1 fun x μ2 => ∃ xs, μ2[n]? = some (.lst xs) ∧ xs.length < sizeLine ∧ Φ (.d .non) (μ2.set n (.lst (xs ++ [x])))
  | _ => False
theorem de_app {apos : Pos} (ho : DE X B a ua ta) (he : DE X B b ub tb) (h : PE X e (tBM X.K "list" rAppend ua (tCons ub tNil))) (hK : B.K = X.K := by rfl) : DE X B e (tBM B.K "list" rAppend ua (tCons ub tNil)) (dApp ta tb) := by
  obtain ⟨Kb, Eb, Ψb⟩ := B
  have hK : Kb = X.K := hK
  subst hK
  have hK : X.K = X.K := rfl
  exact ⟨h, fun bb M σ H ε μ Φ Q a k q =>
  ho.s bb M σ H ε μ _ _ a (fun v M1 H1 x μ1 l1 w1 r1 q1 => by
    split at q1
    · rename_i n
      obtain ⟨⟨xs, hm⟩, q1⟩ := q1
      obtain ⟨p, rfl, hp, us, hu, ru⟩ := r1.m_inv w1 hm
      refine ⟨.inl ⟨rfl, us, .inl (.inl hu)⟩, he.s bb M1 σ H1 ε μ1 _ _ (a.next l1 w1) (fun w M2 H2 y μ2 l2 w2 r2 q2 => ?_) q1⟩
      obtain ⟨ys, hm2, hz, q2⟩ := q2
      obtain ⟨p2, e2, hp2, us2, hu2, ru2⟩ := Rv.m_inv w2 (l2.srep r1) hm2
      cases e2
      refine ⟨p, us2, w, rfl, rfl, hu2, by rw [ru2.length]; exact hz, ?_⟩
      have w3 := wd_set (μ := μ2) (o := .lst (us2 ++ [w])) (mo := .lst (ys ++ [y])) w2 hp2 ⟨us2 ++ [w], upd_same, ru2.append (.cons r2 .nil)⟩
      exact k _ M2 _ _ _ ((l1.trans l2).trans (le_set w2 (mem_of_get hp2))) w3 (.d .non) q2
    · exact q1.elim) q⟩
/-! a thing that changed comes to rest -/
def SV.clo (n : Nat) : SV → Prop
  | .d _ => True
  | .m k => k < n
def MO.clo (n : Nat) : MO → Prop
  | .lst xs => ∀ x ∈ xs, x.clo n
  | .dct kvs => ∀ x ∈ kvs.map Prod.snd, x.clo n
  | .dcT kvs => ∀ x ∈ kvs.map Prod.snd, x.clo n
  | .obj _ fs => ∀ x ∈ fs.map Prod.snd, x.clo n
  | .ldc _ _ kvs => ∀ x ∈ kvs.map Prod.snd, x.clo n
  | .ldcT _ _ kvs => ∀ x ∈ kvs.map Prod.snd, x.clo n
  | .dead => True
inductive Rest : MO → D → Prop
  | lst (ds : List D) : Rest (.lst (ds.map SV.d)) (.lst ds)
  | dct (kvs : List (Key × D)) : Rest (.dct (kvs.map fun p => (p.1, SV.d p.2))) (.dct kvs)
  | dcT (kvs : List (List Key × D)) : Rest (.dcT (kvs.map fun p => (p.1, SV.d p.2))) (.dcT kvs)
  | obj (C : Addr) (fs : List (Str × D)) : Rest (.obj C (fs.map fun p => (p.1, SV.d p.2))) (.obj C fs)
theorem map_fst_d {κ : Type} (kvs : List (κ × D)) : (kvs.map fun p => (p.1, SV.d p.2)).map Prod.fst = kvs.map Prod.fst := by
  rw [List.map_map]
  rfl
theorem map_snd_d {κ : Type} (kvs : List (κ × D)) : (kvs.map fun p => (p.1, SV.d p.2)).map Prod.snd = (kvs.map Prod.snd).map SV.d := by
  rw [List.map_map, List.map_map]
  rfl
theorem Rest.rep {K : PySem.W.Frag} {M : Mk} {G G' H : Hp} {p : Addr} {mo : MO} {d : D} (h : Rest mo d) (r : MRep K M G H p mo) (e : Sub G G') (hp : ∀ o, H p = some o → G' p = some (unf o)) : Rep K G' (.ref p) d := by
  cases h with
  | lst ds =>
    obtain ⟨us, hu, ru⟩ := r
    exact .lst (hp _ hu) (ru.pure.mono e)
  | dct kvs =>
    obtain ⟨ws, hw, hk, rw_⟩ := r
    rw [map_fst_d] at hk
    rw [map_snd_d] at rw_
    exact .dct (.inl (hp _ hw)) hk (rw_.pure.mono e)
  | dcT kvs =>
    obtain ⟨ws, hw, hk, rw_⟩ := r
    rw [map_fst_d] at hk
    rw [map_snd_d] at rw_
    exact .dcT (.inl (hp _ hw)) hk (rw_.pure.mono e)
  | obj C fs =>
    obtain ⟨dx, ws, hw, hk, rw_⟩ := r
    rw [map_fst_d] at hk
    rw [map_snd_d] at rw_
    exact .obj (hp _ hw) hk (rw_.pure.mono e)
def frz (n : Nat) (d : D) (ε : DEnv) : DEnv := ε.map fun o => match o with
  | some (.m k) => if k = n then some (.d d) else some (.m k)
  | o => o
def dFz (t : DTS) : DTS := fun Φ ε μ => ∃ (μ0 : DSt) (mo : MO) (d : D), μ = μ0 ++ [mo] ∧ Rest mo d ∧ Φ.fl ≤ μ0.length ∧ (∀ mo ∈ μ0, mo.clo μ0.length) ∧ t Φ (frz μ0.length d ε) μ0
def Mk.cut (M : Mk) (n : Nat) : Mk := ⟨M.ids.take n, M.hid⟩
theorem cut_get {M : Mk} {n j : Nat} {a : Addr} (h : (M.cut n).ids[j]? = some (some a)) : M.ids[j]? = some (some a) ∧ j < n := by
  have h : (M.ids.take n)[j]? = some (some a) := h
  rw [List.getElem?_take] at h
  split at h
  · exact ⟨h, by assumption⟩
  · cases h
theorem get_cut {M : Mk} {n j : Nat} {a : Addr} (h : M.ids[j]? = some (some a)) (hj : j < n) : (M.cut n).ids[j]? = some (some a) := by
  show (M.ids.take n)[j]? = _
  rw [List.getElem?_take, if_pos hj]
  exact h
theorem sreps_cut {K : PySem.W.Frag} {M : Mk} {G G' : Hp} {n : Nat} (e : Sub G G') : ∀ {vs : List V} {xs : List SV}, SReps K M G vs xs → (∀ x ∈ xs, x.clo n) → SReps K (M.cut n) G' vs xs
  | _, _, .nil, _ => .nil
  | _, _, .cons h r, hc => by
    refine .cons ?_ (sreps_cut e r fun x hx => hc x (List.mem_cons_of_mem _ hx))
    cases h with
    | d h => exact .d (h.mono e)
    | m h => exact .m (get_cut h (hc _ (List.mem_cons_self ..)))
theorem mrep_cut {K : PySem.W.Frag} {M : Mk} {G G' H : Hp} {n : Nat} {p : Addr} (e : Sub G G') : ∀ {mo : MO}, MRep K M G H p mo → mo.clo n → MRep K (M.cut n) G' H p mo
  | .lst _, ⟨vs, h, r⟩, c => ⟨vs, h, sreps_cut e r c⟩
  | .dct _, ⟨ws, h, k, r⟩, c => ⟨ws, h, k, sreps_cut e r c⟩
  | .dcT _, ⟨ws, h, k, r⟩, c => ⟨ws, h, k, sreps_cut e r c⟩
  | .obj _ _, ⟨dx, ws, h, k, r⟩, c => ⟨dx, ws, h, k, sreps_cut e r c⟩
  | .ldc _ _ _, ⟨h, k, r⟩, c => ⟨h, k, sreps_cut e r c⟩
  | .ldcT _ _ _, ⟨h, k, r⟩, c => ⟨h, k, sreps_cut e r c⟩
  | .dead, h, _ => h.elim
theorem al_cut {K : PySem.W.Frag} {M : Mk} {H : Hp} {μ : DSt} {n j : Nat} (W : Wd K M H μ) (h : j < (M.cut n).ids.length) : ∃ a, (M.cut n).ids[j]? = some (some a) := by
  have h : j < (M.ids.take n).length := h
  rw [List.length_take] at h
  obtain ⟨a, ha⟩ := W.al j (by omega)
  exact ⟨a, get_cut ha (by omega)⟩
theorem sim_fz {vs : TS} {ds : DTS} (h : SimS B vs ds) : SimS B vs (dFz ds) := fun bb M σ H ε μ Φ D a E q => by
  obtain ⟨μ0, mo, d, rfl, hd, hf, hc, q⟩ := q
  have hl : M.ids.length = μ0.length + 1 := by
    rw [a.wd.len, List.length_append]
    rfl
  have sb : Sub (wo M H) (wo (M.cut μ0.length) H) := fun b o z => by
    obtain ⟨o', z1, rfl, z2, z3⟩ := wo_in z
    exact wo_some z1 (fun y => z2 (List.mem_of_mem_take y)) z3
  have hM0 : bb.M0.ids.length ≤ μ0.length := Nat.le_trans E.fl hf
  have at0 : ∀ {j : Nat} {b : Addr} {mo : MO}, j < μ0.length → (μ0 ++ [mo])[j]? = μ0[j]? := fun hj => List.getElem?_append_left hj
  refine h bb (M.cut μ0.length) σ H _ μ0 Φ D ⟨⟨fun j b z => ?_, ?_, a.le.sub.trans sb, a.le.all, a.le.hid, a.le.fz⟩, ⟨?_, fun i j b z1 z2 => a.wd.inj i j b (cut_get z1).1 (cut_get z2).1, fun j b z => ?_, fun b hb => ⟨fun y => (a.wd.hid b hb).1 (List.mem_of_mem_take y), (a.wd.hid b hb).2⟩, fun j hj => al_cut a.wd hj⟩, ⟨?_, fun i x z => ?_⟩⟩ E q
  · exact get_cut (a.le.ids j b z) (Nat.lt_of_lt_of_le (List.getElem?_eq_some_iff.mp z).1 hM0)
  · show _ ≤ (M.ids.take μ0.length).length
    rw [List.length_take, hl]
    omega
  · show (M.ids.take μ0.length).length = _
    rw [List.length_take, hl]
    omega
  · obtain ⟨z1, z2⟩ := cut_get z
    obtain ⟨mo', h1, r⟩ := a.wd.ob j b z1
    rw [at0 (b := b) z2] at h1
    exact ⟨mo', h1, mrep_cut sb r (hc mo' (List.mem_of_getElem? h1))⟩
  · show σ.length = (ε.map _).length
    rw [List.length_map]
    exact a.env.len
  · have z : (ε.map fun o => match o with | some (.m k) => if k = μ0.length then some (.d d) else some (.m k) | o => o)[i]? = some (some x) := z
    rw [List.getElem?_map] at z
    obtain ⟨o, ho, z⟩ := Option.map_eq_some_iff.mp z
    cases o with
    | none => cases z
    | some y =>
      obtain ⟨v, hv, rv⟩ := a.env.at_ i y ho
      refine ⟨v, hv, ?_⟩
      cases rv with
      | d rv =>
        have z : some (SV.d _) = some x := z
        cases z
        exact .d (rv.mono sb)
      | @m k b hk =>
        have z : (if k = μ0.length then some (SV.d d) else some (SV.m k)) = some x := z
        by_cases e : k = μ0.length
        · rw [if_pos e] at z
          cases z
          obtain ⟨mo', h1, r⟩ := a.wd.ob k b hk
          rw [e, List.getElem?_append_right (Nat.le_refl _), Nat.sub_self] at h1
          cases h1
          obtain ⟨oo, hoo⟩ := r.some
          refine .d (hd.rep r sb fun o ho' => wo_some ho' (fun y => ?_) fun y => (a.wd.hid b y).1 (mem_of_get hk))
          obtain ⟨j, hj⟩ := List.getElem?_of_mem y
          have := a.wd.inj j k b (cut_get (M := M) (n := μ0.length) hj).1 hk
          have h2 := (cut_get (M := M) (n := μ0.length) hj).2
          omega
        · rw [if_neg e] at z
          cases z
          refine .m (get_cut hk ?_)
          have := (List.getElem?_eq_some_iff.mp hk).1
          omega
theorem dss_fz {sts : List Stmt} {vs : TS} {ds : DTS} (h : DSs X B sts vs ds) : DSs X B sts vs (dFz ds) := ⟨h.p, sim_fz h.s⟩
/-! what stands in the store is known there -/
def Clo (μ : DSt) : Prop := ∀ mo ∈ μ, mo.clo μ.length
theorem sreps_clo {K : PySem.W.Frag} {M : Mk} {G : Hp} : ∀ {vs : List V} {xs : List SV}, SReps K M G vs xs → ∀ x ∈ xs, x.clo M.ids.length
  | _, _, .nil, _, h => by cases h
  | _, _, .cons r t, x, h => by
    rcases List.mem_cons.mp h with h | h
    · subst h
      cases r with
      | d r => exact trivial
      | m r => exact (List.getElem?_eq_some_iff.mp r).1
    · exact sreps_clo t x h
theorem mrep_clo {K : PySem.W.Frag} {M : Mk} {G H : Hp} {p : Addr} : ∀ {mo : MO}, MRep K M G H p mo → mo.clo M.ids.length
  | .lst _, ⟨vs, h, r⟩ => sreps_clo r
  | .dct _, ⟨ws, h, k, r⟩ => sreps_clo r
  | .dcT _, ⟨ws, h, k, r⟩ => sreps_clo r
  | .obj _ _, ⟨dx, ws, h, k, r⟩ => sreps_clo r
  | .ldc _ _ _, ⟨h, k, r⟩ => sreps_clo r
  | .ldcT _ _ _, ⟨h, k, r⟩ => sreps_clo r
  | .dead, h => h.elim
theorem Wd.clo {K : PySem.W.Frag} {M : Mk} {H : Hp} {μ : DSt} (W : Wd K M H μ) : Clo μ := fun mo hm => by
  obtain ⟨n, hn⟩ := List.getElem?_of_mem hm
  obtain ⟨a, ha⟩ := W.al n (by rw [W.len]; exact (List.getElem?_eq_some_iff.mp hn).1)
  obtain ⟨mo', h1, r⟩ := W.ob n a ha
  rw [hn] at h1
  cases h1
  rw [← W.len]
  exact mrep_clo r
def dClo (t : DTS) : DTS := fun Φ ε μ => Clo μ → t Φ ε μ
theorem dss_clo {sts : List Stmt} {vs : TS} {ds : DTS} (h : DSs X B sts vs ds) : DSs X B sts vs (dClo ds) := ⟨h.p, fun bb M σ H ε μ Φ D a E q => h.s bb M σ H ε μ Φ D a E (q a.wd.clo)⟩
/-! the newest thing comes to rest, wherever it is told -/
def SV.frz (n : Nat) (d : D) : SV → SV
  | .d x => .d x
  | .m k => if k = n then .d d else .m k
def MO.frz (n : Nat) (d : D) : MO → MO
  | .lst xs => .lst (xs.map (SV.frz n d))
  | .dct kvs => .dct (kvs.map fun p => (p.1, p.2.frz n d))
  | .dcT kvs => .dcT (kvs.map fun p => (p.1, p.2.frz n d))
  | .obj C fs => .obj C (fs.map fun p => (p.1, p.2.frz n d))
  | .ldc o ws kvs => .ldc o ws (kvs.map fun p => (p.1, p.2.frz n d))
  | .ldcT o ws kvs => .ldcT o ws (kvs.map fun p => (p.1, p.2.frz n d))
  | .dead => .dead
theorem SV.frz_clo {n : Nat} {d : D} : ∀ {x : SV}, x.clo n → x.frz n d = x
  | .d _, _ => rfl
  | .m k, h => if_neg (Nat.ne_of_lt h)
theorem MO.frz_clo {n : Nat} {d : D} {mo : MO} (h : mo.clo n) : mo.frz n d = mo := by
  have key : ∀ {κ : Type} (kvs : List (κ × SV)), (∀ x ∈ kvs.map Prod.snd, x.clo n) → (kvs.map fun p => (p.1, p.2.frz n d)) = kvs := fun kvs h => by
    refine (List.map_congr_left fun p hp => ?_).trans (List.map_id _)
    show (p.1, p.2.frz n d) = p
    rw [SV.frz_clo (h p.2 (List.mem_map.mpr ⟨p, hp, rfl⟩))]
  cases mo with
  | lst xs => exact congrArg MO.lst ((List.map_congr_left fun x hx => SV.frz_clo (h x hx)).trans (List.map_id _))
  | dct kvs => exact congrArg MO.dct (key kvs h)
  | dcT kvs => exact congrArg MO.dcT (key kvs h)
  | obj C fs => exact congrArg (MO.obj C) (key fs h)
  | ldc o ws kvs => exact congrArg (MO.ldc o ws) (key kvs h)
  | ldcT o ws kvs => exact congrArg (MO.ldcT o ws) (key kvs h)
  | dead => rfl
theorem map_frz_clo {n : Nat} {d : D} {μ : DSt} (h : ∀ mo ∈ μ, mo.clo n) : μ.map (MO.frz n d) = μ := (List.map_congr_left fun x hx => MO.frz_clo (h x hx)).trans (List.map_id _)
theorem SV.clo.le {n m : Nat} (hl : n ≤ m) : ∀ {x : SV}, x.clo n → x.clo m
  | .d _, _ => trivial
  | .m k, h => Nat.lt_of_lt_of_le h hl
theorem MO.clo.le {n m : Nat} (hl : n ≤ m) {mo : MO} (h : mo.clo n) : mo.clo m := by
  cases mo with
  | dead => trivial
  | _ => exact fun x hx => (h x hx).le hl
def dFzS (t : DTS) : DTS := fun Φ ε μ => ∃ (μ0 : DSt) (mo : MO) (d : D), μ = μ0 ++ [mo] ∧ Rest mo d ∧ Φ.fl ≤ μ0.length ∧ t Φ (frz μ0.length d ε) (μ0.map (MO.frz μ0.length d))
theorem srep_frz {K : PySem.W.Frag} {M : Mk} {G G' : Hp} {n : Nat} {d : D} {p : Addr} {v : V} {x : SV} (e : Sub G G') (hp : M.ids[n]? = some (some p)) (hl : M.ids.length = n + 1) (rd : Rep K G' (.ref p) d) (h : SRep K M G v x) : SRep K (M.cut n) G' v (x.frz n d) := by
  cases h with
  | d h => exact .d (h.mono e)
  | @m k b hk =>
    show SRep K (M.cut n) G' (.ref b) (if k = n then .d d else .m k)
    by_cases z : k = n
    · rw [if_pos z]
      subst z
      rw [hp] at hk
      cases hk
      exact .d rd
    · rw [if_neg z]
      have := (List.getElem?_eq_some_iff.mp hk).1
      exact .m (get_cut hk (by omega))
theorem sreps_frz {K : PySem.W.Frag} {M : Mk} {G G' : Hp} {n : Nat} {d : D} {p : Addr} (e : Sub G G') (hp : M.ids[n]? = some (some p)) (hl : M.ids.length = n + 1) (rd : Rep K G' (.ref p) d) : ∀ {vs : List V} {xs : List SV}, SReps K M G vs xs → SReps K (M.cut n) G' vs (xs.map (SV.frz n d))
  | _, _, .nil => .nil
  | _, _, .cons h r => .cons (srep_frz e hp hl rd h) (sreps_frz e hp hl rd r)
theorem fst_frz {κ : Type} {n : Nat} {d : D} (kvs : List (κ × SV)) : (kvs.map fun p => (p.1, p.2.frz n d)).map Prod.fst = kvs.map Prod.fst := by
  rw [List.map_map]
  rfl
theorem snd_frz {κ : Type} {n : Nat} {d : D} (kvs : List (κ × SV)) : (kvs.map fun p => (p.1, p.2.frz n d)).map Prod.snd = (kvs.map Prod.snd).map (SV.frz n d) := by
  rw [List.map_map, List.map_map]
  rfl
theorem mrep_frz {K : PySem.W.Frag} {M : Mk} {G G' H : Hp} {n : Nat} {d : D} {p q : Addr} (e : Sub G G') (hp : M.ids[n]? = some (some p)) (hl : M.ids.length = n + 1) (rd : Rep K G' (.ref p) d) : ∀ {mo : MO}, MRep K M G H q mo → MRep K (M.cut n) G' H q (mo.frz n d)
  | .lst _, ⟨vs, h, r⟩ => ⟨vs, h, sreps_frz e hp hl rd r⟩
  | .dct _, ⟨ws, h, k, r⟩ => ⟨ws, h, by rw [fst_frz]; exact k, by rw [snd_frz]; exact sreps_frz e hp hl rd r⟩
  | .dcT _, ⟨ws, h, k, r⟩ => ⟨ws, h, by rw [fst_frz]; exact k, by rw [snd_frz]; exact sreps_frz e hp hl rd r⟩
  | .obj _ _, ⟨dx, ws, h, k, r⟩ => ⟨dx, ws, h, by rw [fst_frz]; exact k, by rw [snd_frz]; exact sreps_frz e hp hl rd r⟩
  | .ldc _ _ _, ⟨h, k, r⟩ => ⟨h, by rw [fst_frz]; exact k, by rw [snd_frz]; exact sreps_frz e hp hl rd r⟩
  | .ldcT _ _ _, ⟨h, k, r⟩ => ⟨h, by rw [fst_frz]; exact k, by rw [snd_frz]; exact sreps_frz e hp hl rd r⟩
  | .dead, h => h.elim
theorem sim_fzS {vs : TS} {ds : DTS} (h : SimS B vs ds) : SimS B vs (dFzS ds) := fun bb M σ H ε μ Φ D a E q => by
  obtain ⟨μ0, mo, d, rfl, hd, hf, q⟩ := q
  have hl : M.ids.length = μ0.length + 1 := by
    rw [a.wd.len, List.length_append]
    rfl
  have sb : Sub (wo M H) (wo (M.cut μ0.length) H) := fun b o z => by
    obtain ⟨o', z1, rfl, z2, z3⟩ := wo_in z
    exact wo_some z1 (fun y => z2 (List.mem_of_mem_take y)) z3
  have hM0 : bb.M0.ids.length ≤ μ0.length := Nat.le_trans E.fl hf
  obtain ⟨p, hp⟩ := a.wd.al μ0.length (by omega)
  have rd : Rep B.K (wo (M.cut μ0.length) H) (.ref p) d := by
    obtain ⟨mo', h1, r⟩ := a.wd.ob _ _ hp
    rw [List.getElem?_append_right (Nat.le_refl _), Nat.sub_self] at h1
    cases h1
    refine hd.rep r sb fun o ho' => wo_some ho' (fun y => ?_) fun y => (a.wd.hid p y).1 (mem_of_get hp)
    obtain ⟨j, hj⟩ := List.getElem?_of_mem y
    have := a.wd.inj j μ0.length p (cut_get (M := M) (n := μ0.length) hj).1 hp
    have h2 := (cut_get (M := M) (n := μ0.length) hj).2
    omega
  refine h bb (M.cut μ0.length) σ H _ (μ0.map (MO.frz μ0.length d)) Φ D ⟨⟨fun j b z => ?_, ?_, a.le.sub.trans sb, a.le.all, a.le.hid, a.le.fz⟩, ⟨?_, fun i j b z1 z2 => a.wd.inj i j b (cut_get z1).1 (cut_get z2).1, fun j b z => ?_, fun b hb => ⟨fun y => (a.wd.hid b hb).1 (List.mem_of_mem_take y), (a.wd.hid b hb).2⟩, fun j hj => al_cut a.wd hj⟩, ⟨?_, fun i x z => ?_⟩⟩ E q
  · exact get_cut (a.le.ids j b z) (Nat.lt_of_lt_of_le (List.getElem?_eq_some_iff.mp z).1 hM0)
  · show _ ≤ (M.ids.take μ0.length).length
    rw [List.length_take, hl]
    omega
  · show (M.ids.take μ0.length).length = _
    rw [List.length_take, hl, List.length_map]
    omega
  · obtain ⟨z1, z2⟩ := cut_get z
    obtain ⟨mo', h1, r⟩ := a.wd.ob j b z1
    rw [List.getElem?_append_left z2] at h1
    exact ⟨_, by rw [List.getElem?_map, h1]; rfl, mrep_frz sb hp hl rd r⟩
  · show σ.length = (ε.map _).length
    rw [List.length_map]
    exact a.env.len
  · have z : (ε.map fun o => match o with | some (.m k) => if k = μ0.length then some (.d d) else some (.m k) | o => o)[i]? = some (some x) := z
    rw [List.getElem?_map] at z
    obtain ⟨o, ho, z⟩ := Option.map_eq_some_iff.mp z
    cases o with
    | none => cases z
    | some y =>
      obtain ⟨v, hv, rv⟩ := a.env.at_ i y ho
      refine ⟨v, hv, ?_⟩
      have r2 := srep_frz sb hp hl rd rv
      have e : some (y.frz μ0.length d) = some x := by
        rw [← z]
        cases y with
        | d y => rfl
        | m k =>
          show some (if k = μ0.length then SV.d d else SV.m k) = if k = μ0.length then some (.d d) else some (.m k)
          split <;> rfl
      rw [← Option.some.inj e]
      exact r2
theorem dss_fzS {sts : List Stmt} {vs : TS} {ds : DTS} (h : DSs X B sts vs ds) : DSs X B sts vs (dFzS ds) := ⟨h.p, sim_fzS h.s⟩
end
end DV

set_option Elab.async false
set_option linter.all false
set_option maxRecDepth 100000
namespace DV
open PySem PySem.Spec PyProof.Rows L2

section
variable {X : Cx} {B : Bs} {a b c e : Expr} {es : List Expr} {pos p : Pos} {ta tb tc te : DTE} {tl : DTA} {ua ub uc ue : TE} {ul : TA}
/-! ### operators by their names -/
abbrev dSub := dI0 fun i j => .int (i - j)
abbrev dMul := dI CMul fun i j => .int (i * j)
abbrev dFdiv := dI CDiv fun i j => .int (i / j)
abbrev dMod := dI (fun _ j => 0 < j) fun i j => .int (i % j)
abbrev dPow := dI CPow fun i j => .int (i ^ j.toNat)
abbrev dLt := dI0 fun i j => .bl (decide (i < j))
abbrev dLe := dI0 fun i j => .bl (decide (i ≤ j))
abbrev dGt := dI0 fun i j => .bl (decide (j < i))
abbrev dGe := dI0 fun i j => .bl (decide (j ≤ i))
theorem de_add (ha : DE X B a ua ta) (hb : DE X B b ub tb) (hK : B.K = X.K := by rfl) : DE X B (.BinOp a .Add b pos) (tOp (rPlus B.K) ua ub) (dOp dPlus ta tb) := by
  obtain ⟨Kb, Eb, Ψb⟩ := B
  have hK : Kb = X.K := hK
  subst hK
  have hK : X.K = X.K := rfl
  exact de_op op_plus (by rw [← hK]; exact sim_plus) ha hb
theorem de_sub (ha : DE X B a ua ta) (hb : DE X B b ub tb) : DE X B (.BinOp a .Sub b pos) (tOp (rI0 fun i j => .int (i - j)) ua ub) (dOp dSub ta tb) := de_op op_sub (sim_I0 fun _ _ _ _ => .int _) ha hb
theorem de_mul (ha : DE X B a ua ta) (hb : DE X B b ub tb) : DE X B (.BinOp a .Mult b pos) (tOp (rI CMul fun i j => .int (i * j)) ua ub) (dOp dMul ta tb) := de_op op_mul (sim_I fun _ _ _ _ => .int _) ha hb
theorem de_fdiv (ha : DE X B a ua ta) (hb : DE X B b ub tb) : DE X B (.BinOp a .FloorDiv b pos) (tOp (rI CDiv fun i j => .int (i / j)) ua ub) (dOp dFdiv ta tb) := de_op op_fdiv (sim_I fun _ _ _ _ => .int _) ha hb
theorem de_mod (ha : DE X B a ua ta) (hb : DE X B b ub tb) : DE X B (.BinOp a .Mod b pos) (tOp (rI (fun _ j => 0 < j) fun i j => .int (i % j)) ua ub) (dOp dMod ta tb) := de_op op_mod (sim_I fun _ _ _ _ => .int _) ha hb
theorem de_pow (ha : DE X B a ua ta) (hb : DE X B b ub tb) : DE X B (.BinOp a .Pow b pos) (tOp (rI CPow fun i j => .int (i ^ j.toNat)) ua ub) (dOp dPow ta tb) := de_op op_pow (sim_I fun _ _ _ _ => .int _) ha hb
theorem de_lt (ha : DE X B a ua ta) (hb : DE X B b ub tb) : DE X B (.Compare a [.Lt] [b] pos) (tOp (rI0 fun i j => .bl (decide (i < j))) ua ub) (dOp dLt ta tb) := de_cmp op_lt (sim_I0 fun _ _ _ _ => .bl _) ha hb (nomark _)
theorem de_le (ha : DE X B a ua ta) (hb : DE X B b ub tb) : DE X B (.Compare a [.LtE] [b] pos) (tOp (rI0 fun i j => .bl (decide (i ≤ j))) ua ub) (dOp dLe ta tb) := de_cmp op_le (sim_I0 fun _ _ _ _ => .bl _) ha hb (nomark _)
theorem de_gt (ha : DE X B a ua ta) (hb : DE X B b ub tb) : DE X B (.Compare a [.Gt] [b] pos) (tOp (rI0 fun i j => .bl (decide (j < i))) ua ub) (dOp dGt ta tb) := de_cmp op_gt (sim_I0 fun _ _ _ _ => .bl _) ha hb (nomark _)
theorem de_ge (ha : DE X B a ua ta) (hb : DE X B b ub tb) : DE X B (.Compare a [.GtE] [b] pos) (tOp (rI0 fun i j => .bl (decide (j ≤ i))) ua ub) (dOp dGe ta tb) := de_cmp op_ge (sim_I0 fun _ _ _ _ => .bl _) ha hb (nomark _)
theorem de_eq (hu : X.A.units + 64 < cLine) (ha : DE X B a ua ta) (hb : DE X B b ub tb) (hK : B.K = X.K := by rfl) : DE X B (.Compare a [.Eq] [b] pos) (tOp (rEqD B.K) ua ub) (dOp (dEqD false) ta tb) := by
  obtain ⟨Kb, Eb, Ψb⟩ := B
  have hK : Kb = X.K := hK
  subst hK
  have hK : X.K = X.K := rfl
  exact de_cmp (op_eqD hu) (by rw [← hK]; exact sim_eqD) ha hb (nomark _)
theorem de_ne (hu : X.A.units + 64 < cLine) (ha : DE X B a ua ta) (hb : DE X B b ub tb) (hK : B.K = X.K := by rfl) : DE X B (.Compare a [.NotEq] [b] pos) (tOp (rNeD B.K) ua ub) (dOp (dEqD true) ta tb) := by
  obtain ⟨Kb, Eb, Ψb⟩ := B
  have hK : Kb = X.K := hK
  subst hK
  have hK : X.K = X.K := rfl
  exact de_cmp (op_neD hu) (by rw [← hK]; exact sim_neD) ha hb (nomark _)
theorem de_isN (ha : DE X B a ua ta) (hb : DE X B b ub tb) : DE X B (.Compare a [.Is] [b] pos) (tOp (fun x y H Q => y = .non ∧ Q (.bl (decide (x = .non))) H) ua ub) (dOp (dIsN false) ta tb) := de_cmp op_isN sim_isN ha hb (nomark _)
theorem de_isnotN (ha : DE X B a ua ta) (hb : DE X B b ub tb) : DE X B (.Compare a [.IsNot] [b] pos) (tOp (fun x y H Q => y = .non ∧ Q (.bl (!decide (x = .non))) H) ua ub) (dOp (dIsN true) ta tb) := de_cmp op_notN sim_isnotN ha hb (nomark _)
theorem de_isB (ha : DE X B a ua ta) (hb : DE X B b ub tb) : DE X B (.Compare a [.Is] [b] pos) (tOp (fun x y H Q => ∃ a b, x = .bl a ∧ y = .bl b ∧ Q (.bl (decide (a = b))) H) ua ub) (dOp (dIsB false) ta tb) := de_cmp op_is_bl sim_isB ha hb (nomark _)
theorem de_isnotB (ha : DE X B a ua ta) (hb : DE X B b ub tb) : DE X B (.Compare a [.IsNot] [b] pos) (tOp (fun x y H Q => ∃ a b, x = .bl a ∧ y = .bl b ∧ Q (.bl (!decide (a = b))) H) ua ub) (dOp (dIsB true) ta tb) := de_cmp op_isnot_bl sim_isnotB ha hb (nomark _)
theorem de_in (ha : DE X B a ua ta) (hb : DE X B b ub tb) (hm : behindInMarks .In b = false) (hK : B.K = X.K := by rfl) : DE X B (.Compare a [.In] [b] pos) (tOp (rIn B.K false) ua ub) (dOp (dIn false) ta tb) := by
  obtain ⟨Kb, Eb, Ψb⟩ := B
  have hK : Kb = X.K := hK
  subst hK
  have hK : X.K = X.K := rfl
  exact de_cmp op_in_seq (by rw [← hK]; exact sim_in false) ha hb hm
theorem de_notin (ha : DE X B a ua ta) (hb : DE X B b ub tb) (hm : behindInMarks .NotIn b = false) (hK : B.K = X.K := by rfl) : DE X B (.Compare a [.NotIn] [b] pos) (tOp (rIn B.K true) ua ub) (dOp (dIn true) ta tb) := by
  obtain ⟨Kb, Eb, Ψb⟩ := B
  have hK : Kb = X.K := hK
  subst hK
  have hK : X.K = X.K := rfl
  exact de_cmp op_notIn_seq (by rw [← hK]; exact sim_in true) ha hb hm
/-- a comparison as a test -/
theorem dt_of {op : CmpOp} {r : R2} {rd : SV → SV → DSt → DK → Prop} (ho : OpR X (compareOp op) r) (hr : SimR B r rd) (ha : DE X B a ua ta) (hb : DE X B b ub tb) (hm : behindInMarks op b = false) : DT X B (.Compare a [op] [b] pos) (tTest (tOp r ua ub)) (dTest (dOp rd ta tb)) := dt_cmp ho hr ha hb hm
/-- a < b < c -/
def dChain (r r' : SV → SV → DSt → DK → Prop) (ta tb tc : DTE) : DTE := fun ε μ Φ => ta ε μ fun x μ1 => tb ε μ1 fun y μ2 => r x y μ2 fun z μ3 => svb z fun k => bcase k (tc ε μ3 fun w μ4 => r' y w μ4 Φ) (Φ (.d (.bl false)) μ3)
theorem de_chain {op op' : CmpOp} {r r' : R2} {rd rd' : SV → SV → DSt → DK → Prop} (hr : SimR B r rd) (hr' : SimR B r' rd') (ha : DE X B a ua ta) (hb : DE X B b ub tb) (hc : DE X B c uc tc)
    (h : PE X e (tChain r r' ua ub uc)) : DE X B e (tChain r r' ua ub uc) (dChain rd rd' ta tb tc) := ⟨h, fun bb M σ H ε μ Φ Q a k q =>
  ha.s bb M σ H ε μ _ _ a (fun v M1 H1 x μ1 l1 w1 r1 q1 => hb.s bb M1 σ H1 ε μ1 _ _ (a.next l1 w1) (fun w M2 H2 y μ2 l2 w2 r2 q2 => hr M2 H2 μ2 _ _ _ _ _ _ w2 (l2.srep r1) r2 (fun z M3 H3 sz μ3 l3 w3 r3 q3 => by
    have l13 := (l1.trans l2).trans l3
    obtain ⟨c, e1, _, q3⟩ := svb_inv r3 q3
    cases c with
    | true =>
      refine ⟨true, e1, ?_⟩
      show (if true = true then _ else _)
      rw [if_pos rfl]
      exact hc.s bb M3 σ H3 ε μ3 _ _ (a.next l13 w3) (fun u M4 H4 su μ4 l4 w4 r4 q4 => hr' M4 H4 μ4 _ _ _ _ _ _ w4 ((l3.trans l4).srep r2) r4 (fun v M5 H5 x μ5 l5 => k v M5 H5 x μ5 ((l13.trans l4).trans l5)) q4) q3
    | false =>
      refine ⟨false, e1, ?_⟩
      show (if false = true then _ else _)
      rw [if_neg Bool.false_ne_true]
      exact k _ M3 H3 _ μ3 l13 w3 (.d (.bl false)) q3) q2) q1) q⟩
/-! ### truth of any value -/
def dTru : SV → DSt → Option Bool
  | .d .non, _ => some false
  | .d (.bl k), _ => some k
  | .d (.int i), _ => some (i != 0)
  | .d (.tup ds), _ => some (!ds.isEmpty)
  | .d (.lst ds), _ => some (!ds.isEmpty)
  | .d (.lsr ds), _ => some (!ds.isEmpty)
  | .m n, μ => match μ[n]? with
    | some (.lst xs) => some (!xs.isEmpty)
    | _ => none
  | _, _ => none
/-! ### built-ins -/
section
variable {x : Str} {id : String} {T : String} {r : List V → Hp → VK → Prop} {rd : List SV → DSt → DK → Prop}
theorem de_B (hc : CallR X (.builtin id) r) (hr : SimC B r rd) (hg : Gl X x) (hm : X.mg x = none) (hv : bootBuiltins x = some (.builtin id)) (ha : DA X B (e :: es) ul tl) (hn : x ≠ "__name__" := by decide) (hdb : (x == ("__debug__" : Str)) = false := by decide)
    (he : starEach (e :: es) X.env = (false, eval e X.env) :: starEach es X.env := by rfl) (hpl : (backTo pos (starEach es X.env)).any (·.1) = false := by rfl) : DE X B (.Call (.Name x p) (e :: es) [] pos) (tCB r ul) (dCB rd tl) := ⟨pe_callB hc hg hm hv ha.p hn hdb he hpl, sim_cb hr ha.s⟩
theorem de_Ty (hc : CallR X (.type T) r) (hr : SimC B r rd) (hg : Gl X x) (hm : X.mg x = none) (hv : bootBuiltins x = some (.type T)) (ha : DA X B (e :: es) ul tl) (hn : x ≠ "__name__" := by decide) (hdb : (x == ("__debug__" : Str)) = false := by decide)
    (he : starEach (e :: es) X.env = (false, eval e X.env) :: starEach es X.env := by rfl) (hpl : (backTo pos (starEach es X.env)).any (·.1) = false := by rfl) : DE X B (.Call (.Name x p) (e :: es) [] pos) (tCB r ul) (dCB rd tl) := ⟨pe_callTy hc hg hm hv ha.p hn hdb he hpl, sim_cb hr ha.s⟩
end
theorem de_append {o : Expr} {apos cpos : Pos} (ho : DE X B o ua ta) (he : DE X B a ub tb) (hK : B.K = X.K := by rfl) (hbase : attributeBase o "append" X.env (eval o X.env) = eval o X.env := by rfl)
    (hfew : ((backTo cpos (starEach [a] X.env)).all (fun x => !x.1) && (backToKw cpos (keywordEach [] X.env)).all (fun x => x.1.isSome) && decide ([a].length + ([] : List Keyword).length + (if ([] : List Keyword).isEmpty then 0 else 1) < 30)) = true := by rfl)
    (hline : (apos.endLine == cpos.line) = true := by rfl) (hs : starEach [a] X.env = (false, eval a X.env) :: starEach [] X.env := by rfl) (hplain : (backTo cpos (starEach [] X.env)).any (·.1) = false := by rfl) :
    DE X B (.Call (.Attribute o "append" apos) [a] [] cpos) (tBM B.K "list" rAppend ua (tCons ub tNil)) (dApp ta tb) := by
  obtain ⟨Kb, Eb, Ψb⟩ := B
  have hK : Kb = X.K := hK
  subst hK
  have hK : X.K = X.K := rfl
  exact de_app (apos := apos) ho he (pe_bm PySem.F.plainAttrs_list PySem.F.slot_list_append PySem.F.type_list_append mt_append ho.p (pa_cons he.p pa_nil hs) hbase hfew hline hs hplain) hK
end

/-! ### a def that can be called -/
structure Callee (P : Program) (w : World) (K : PySem.W.Frag) (mg : Str → Option Value) (base : Heap) (x : Str) (lvl : Nat) (ps : List Str) (d : DSp) : Prop where
  ex : ∃ f fd, FnOk P w K mg base CX0 lvl f fd ps (toSp K d) ∧ mg x = some (.ref f) ∧ PySem.W.keepIn K (.ref f) = true ∧ Binds K fd ps []
section
variable {X : Cx} {B : Bs} {e : Expr} {es : List Expr} {pos p : Pos} {tl : DTA} {ul : TA} {lvl : Nat} {ps : List Str} {d : DSp} {x : Str}
theorem de_c1 (C : Callee X.prog X.w X.K X.mg X.base x lvl ps d) (hr : Room lvl X.A) (hg : Gl X x) (ha : DA X B (e :: es) ul tl)
    (hK : B.K = X.K := by rfl) (hdb : (x == ("__debug__" : Str)) = false := by decide) (he : starEach (e :: es) X.env = (false, eval e X.env) :: starEach es X.env := by rfl) (hpl : (backTo pos (starEach es X.env)).any (·.1) = false := by rfl) :
    DE X B (.Call (.Name x p) (e :: es) [] pos) (tCall (toSp B.K d) [] B.E ul) (dCall d B.Ψ tl) := by
  obtain ⟨Kb, Eb, Ψb⟩ := B
  have hK : Kb = X.K := hK
  subst hK
  have hK : X.K = X.K := rfl
  obtain ⟨f, fd, F, hm, hk, hb⟩ := C.ex
  exact de_call F hr hg hm hk hb passes0 ha hK hdb he hpl
end
/-- the def as it stands -/
structure DefAt (K : PySem.W.Frag) (mg : Str → Option Value) (x : Str) (st : Stmt) : Prop where
  ex : ∃ f fd, Fun K x x st f fd ∧ mg x = some (.ref f)
theorem callee_mk {P : Program} {w : World} {K : PySem.W.Frag} {mg : Str → Option Value} {base : Heap} {x : Str} {st : Stmt} {lvl : Nat} {ps : List Str} {d : DSp} (D : DefAt K mg x st) (hb : ∀ f fd, Fun K x x st f fd → Binds K fd ps [])
    (h : ∀ f fd, Fun K x x st f fd → FnOk P w K mg base CX0 lvl f fd ps (toSp K d)) : Callee P w K mg base x lvl ps d := by
  obtain ⟨f, fd, F, hm⟩ := D.ex
  exact ⟨f, fd, h f fd F, hm, F.kp, hb f fd F⟩
end DV

set_option Elab.async false
set_option linter.all false
set_option maxRecDepth 100000
namespace DV
open PySem PySem.Spec PyProof.Rows L2

section
variable {X : Cx} {B : Bs} {a b c e : Expr} {es : List Expr} {pos p : Pos} {ta tb tc te : DTE} {tl tk : DTA} {ua ub uc ue : TE} {ul uk : TA}
theorem dt_lt (ha : DE X B a ua ta) (hb : DE X B b ub tb) : DT X B (.Compare a [.Lt] [b] pos) (tTest (tOp (rI0 fun i j => .bl (decide (i < j))) ua ub)) (dTest (dOp dLt ta tb)) := dt_cmp op_lt (sim_I0 fun _ _ _ _ => .bl _) ha hb (nomark _)
theorem dt_le (ha : DE X B a ua ta) (hb : DE X B b ub tb) : DT X B (.Compare a [.LtE] [b] pos) (tTest (tOp (rI0 fun i j => .bl (decide (i ≤ j))) ua ub)) (dTest (dOp dLe ta tb)) := dt_cmp op_le (sim_I0 fun _ _ _ _ => .bl _) ha hb (nomark _)
theorem dt_gt (ha : DE X B a ua ta) (hb : DE X B b ub tb) : DT X B (.Compare a [.Gt] [b] pos) (tTest (tOp (rI0 fun i j => .bl (decide (j < i))) ua ub)) (dTest (dOp dGt ta tb)) := dt_cmp op_gt (sim_I0 fun _ _ _ _ => .bl _) ha hb (nomark _)
theorem dt_ge (ha : DE X B a ua ta) (hb : DE X B b ub tb) : DT X B (.Compare a [.GtE] [b] pos) (tTest (tOp (rI0 fun i j => .bl (decide (j ≤ i))) ua ub)) (dTest (dOp dGe ta tb)) := dt_cmp op_ge (sim_I0 fun _ _ _ _ => .bl _) ha hb (nomark _)
theorem dt_eq (hu : X.A.units + 64 < cLine) (ha : DE X B a ua ta) (hb : DE X B b ub tb) (hK : B.K = X.K := by rfl) : DT X B (.Compare a [.Eq] [b] pos) (tTest (tOp (rEqD B.K) ua ub)) (dTest (dOp (dEqD false) ta tb)) := by
  obtain ⟨Kb, Eb, Ψb⟩ := B
  have hK : Kb = X.K := hK
  subst hK
  have hK : X.K = X.K := rfl
  exact dt_cmp (op_eqD hu) (by rw [← hK]; exact sim_eqD) ha hb (nomark _)
theorem dt_ne (hu : X.A.units + 64 < cLine) (ha : DE X B a ua ta) (hb : DE X B b ub tb) (hK : B.K = X.K := by rfl) : DT X B (.Compare a [.NotEq] [b] pos) (tTest (tOp (rNeD B.K) ua ub)) (dTest (dOp (dEqD true) ta tb)) := by
  obtain ⟨Kb, Eb, Ψb⟩ := B
  have hK : Kb = X.K := hK
  subst hK
  have hK : X.K = X.K := rfl
  exact dt_cmp (op_neD hu) (by rw [← hK]; exact sim_neD) ha hb (nomark _)
theorem dt_isN (ha : DE X B a ua ta) (hb : DE X B b ub tb) : DT X B (.Compare a [.Is] [b] pos) (tTest (tOp (fun x y H Q => y = .non ∧ Q (.bl (decide (x = .non))) H) ua ub)) (dTest (dOp (dIsN false) ta tb)) := dt_cmp op_isN sim_isN ha hb (nomark _)
theorem dt_isnotN (ha : DE X B a ua ta) (hb : DE X B b ub tb) : DT X B (.Compare a [.IsNot] [b] pos) (tTest (tOp (fun x y H Q => y = .non ∧ Q (.bl (!decide (x = .non))) H) ua ub)) (dTest (dOp (dIsN true) ta tb)) := dt_cmp op_notN sim_isnotN ha hb (nomark _)
theorem dt_isB (ha : DE X B a ua ta) (hb : DE X B b ub tb) : DT X B (.Compare a [.Is] [b] pos) (tTest (tOp (fun x y H Q => ∃ a b, x = .bl a ∧ y = .bl b ∧ Q (.bl (decide (a = b))) H) ua ub)) (dTest (dOp (dIsB false) ta tb)) := dt_cmp op_is_bl sim_isB ha hb (nomark _)
theorem dt_isnotB (ha : DE X B a ua ta) (hb : DE X B b ub tb) : DT X B (.Compare a [.IsNot] [b] pos) (tTest (tOp (fun x y H Q => ∃ a b, x = .bl a ∧ y = .bl b ∧ Q (.bl (!decide (a = b))) H) ua ub)) (dTest (dOp (dIsB true) ta tb)) := dt_cmp op_isnot_bl sim_isnotB ha hb (nomark _)
theorem dt_in (ha : DE X B a ua ta) (hb : DE X B b ub tb) (hm : behindInMarks .In b = false) (hK : B.K = X.K := by rfl) : DT X B (.Compare a [.In] [b] pos) (tTest (tOp (rIn B.K false) ua ub)) (dTest (dOp (dIn false) ta tb)) := by
  obtain ⟨Kb, Eb, Ψb⟩ := B
  have hK : Kb = X.K := hK
  subst hK
  have hK : X.K = X.K := rfl
  exact dt_cmp op_in_seq (by rw [← hK]; exact sim_in false) ha hb hm
theorem dt_notin (ha : DE X B a ua ta) (hb : DE X B b ub tb) (hm : behindInMarks .NotIn b = false) (hK : B.K = X.K := by rfl) : DT X B (.Compare a [.NotIn] [b] pos) (tTest (tOp (rIn B.K true) ua ub)) (dTest (dOp (dIn true) ta tb)) := by
  obtain ⟨Kb, Eb, Ψb⟩ := B
  have hK : Kb = X.K := hK
  subst hK
  have hK : X.K = X.K := rfl
  exact dt_cmp op_notIn_seq (by rw [← hK]; exact sim_in true) ha hb hm
/-- -a -/
def dNeg (t : DTE) : DTE := fun ε μ Φ => t ε μ fun x μ1 => svi x fun i => Φ (.d (.int (-i))) μ1
theorem de_neg (ha : DE X B a ua ta) : DE X B (.UnaryOp .USub a pos) (tUn (rU fun i => .int (-i)) ua) (dNeg ta) := ⟨pe_un un_neg ha.p, fun bb M σ H ε μ Φ Q a k q => ha.s bb M σ H ε μ _ _ a (fun v M1 H1 x μ1 l1 w1 r1 q1 => by
  obtain ⟨i, e1, _, q1⟩ := svi_inv r1 q1
  exact ⟨i, e1, k _ M1 H1 _ μ1 l1 w1 (.d (.int _)) q1⟩) q⟩
theorem de_globI {x : Str} {k : Int} (hg : Gl X x) (hm : ∃ t, X.mg x = some (.int k t)) (hd : (x == ("__debug__" : Str)) = false := by decide) : DE X B (.Name x pos) (tC (.int k)) (dC (.int k)) := by
  obtain ⟨t, hm⟩ := hm
  exact de_glob hg hm ⟨t, rfl⟩ (fun _ _ => .int k) hd
/-! calls with defaults and keywords -/
section
variable {lvl n : Nat} {ks : List Str} {dv : List V} {dd : List D} {d : DSp} {x : Str} {kws : List Keyword}
structure CalleeP (P : Program) (w : World) (K : PySem.W.Frag) (mg : Str → Option Value) (base : Heap) (x : Str) (lvl : Nat) (dv : List V) (dd : List D) (d : DSp) : Prop where
  ex : ∃ f fd ps ds, FnOk P w K mg base CX0 lvl f fd ps (toSp K d) ∧ mg x = some (.ref f) ∧ PySem.W.keepIn K (.ref f) = true ∧ Binds K fd ps ds ∧ Vals dv ds ∧ ∀ G, Reps K G dv dd
def dCallD (d : DSp) (dd : List D) (Ψ : DX) (t : DTA) : DTE := fun ε μ Φ => t ε μ fun xs μ1 => d (xs ++ dd.map SV.d) μ1 Φ Ψ
theorem de_cd (C : CalleeP X.prog X.w X.K X.mg X.base x lvl dv dd d) (hr : Room lvl X.A) (hg : Gl X x) (ha : DA X B (e :: es) ul tl)
    (hK : B.K = X.K := by rfl) (hdb : (x == ("__debug__" : Str)) = false := by decide) (he : starEach (e :: es) X.env = (false, eval e X.env) :: starEach es X.env := by rfl) (hpl : (backTo pos (starEach es X.env)).any (·.1) = false := by rfl) :
    DE X B (.Call (.Name x p) (e :: es) [] pos) (tCall (toSp B.K d) dv B.E ul) (dCallD d dd B.Ψ tl) := by
  obtain ⟨Kb, Eb, Ψb⟩ := B
  have hK : Kb = X.K := hK
  subst hK
  have hK : X.K = X.K := rfl
  obtain ⟨f, fd, ps, ds, F, hm, hk, hb, hv, hd⟩ := C.ex
  refine ⟨pe_call F hr hg hm hk hb hv passes0 ha.p hdb he hpl, fun bb M σ H ε μ Φ Q a k q => ha.s bb M σ H ε μ _ _ a (fun vs M1 H1 xs μ1 l1 w1 r1 q1 => ?_) q⟩
  rw [← hK]
  exact ⟨M1, μ1, xs ++ dd.map SV.d, Φ, Ψb, w1, r1.append (SReps.of (by rw [hK]; exact hd _)), fun v M2 H2 y μ2 l2 => k v M2 H2 y μ2 (l1.trans l2), fun cls dp M2 H2 fs μ2 l2 => bb.hE cls dp M2 H2 fs μ2 ((a.le.trans l1).trans l2), q1⟩
structure DKw (X : Cx) (B : Bs) (e : List Keyword) (u : TA) (t : DTA) : Prop where
  p : PK X e u
  s : SimA B u t
theorem dk_nil : DKw X B [] tNil dNil := ⟨pk_nil, fun bb M σ H ε μ Φ Q a k h => k [] M H [] μ (Le.refl M H) a.wd .nil h⟩
theorem dk_cons {nm : Option Str} {kpos : Pos} (ha : DE X B e ue te) (hr : DKw X B kws uk tk) : DKw X B (⟨nm, e, kpos⟩ :: kws) (tCons ue uk) (dCons te tk) := ⟨pk_cons ha.p hr.p, sim_cons ha.s hr.s⟩
/-- n by position, then the named ones in the parameters' order, then defaults -/
structure CalleeK (P : Program) (w : World) (K : PySem.W.Frag) (mg : Str → Option Value) (base : Heap) (x : Str) (lvl : Nat) (n : Nat) (ks : List Str) (dv : List V) (dd : List D) (d : DSp) : Prop where
  ex : ∃ f fd ps g, FnOk P w K mg base CX0 lvl f fd ps (toSp K d) ∧ mg x = some (.ref f) ∧ PySem.W.keepIn K (.ref f) = true ∧ KBn K fd ps n ks g (fun vs zs => vs ++ zs ++ dv) ∧ ∀ G, Reps K G dv dd
def dCallK (n m : Nat) (d : DSp) (dd : List D) (Ψ : DX) (t tk : DTA) : DTE := fun ε μ Φ => t ε μ fun xs μ1 => tk ε μ1 fun zs μ2 => xs.length = n ∧ zs.length = m ∧ d (xs ++ zs ++ dd.map SV.d) μ2 Φ Ψ
theorem de_ck (C : CalleeK X.prog X.w X.K X.mg X.base x lvl n ks dv dd d) (hr : Room lvl X.A) (hg : Gl X x) (ha : DA X B (e :: es) ul tl) (hkw : DKw X B kws uk tk)
    (hK : B.K = X.K := by rfl) (hall : (backToKw pos (keywordEach kws X.env)).all (·.1.isSome) = true := by rfl) (hks : (backToKw pos (keywordEach kws X.env)).filterMap (·.1) = ks := by rfl)
    (hdb : (x == ("__debug__" : Str)) = false := by decide) (he : starEach (e :: es) X.env = (false, eval e X.env) :: starEach es X.env := by rfl)
    (hpl : ((backTo pos (starEach (e :: es) X.env)).any (·.1) || (backToKw pos (keywordEach kws X.env)).any (·.1.isNone)) = false := by rfl) :
    DE X B (.Call (.Name x p) (e :: es) kws pos) (tCallN n ks.length (toSp B.K d) (fun vs zs => vs ++ zs ++ dv) B.E ul uk) (dCallK n ks.length d dd B.Ψ tl tk) := by
  obtain ⟨Kb, Eb, Ψb⟩ := B
  have hK : Kb = X.K := hK
  subst hK
  have hK : X.K = X.K := rfl
  obtain ⟨f, fd, ps, g, F, hm, hk, hb, hd⟩ := C.ex
  refine ⟨pe_callN F hr hg hm hk hb passes0 ha.p hkw.p hall hks hdb he hpl, fun bb M σ H ε μ Φ Q a k q => ha.s bb M σ H ε μ _ _ a (fun vs M1 H1 xs μ1 l1 w1 r1 q1 => hkw.s bb M1 σ H1 ε μ1 _ _ (a.next l1 w1) (fun ws M2 H2 zs μ2 l2 w2 r2 q2 => ?_) q1) q⟩
  obtain ⟨e1, e2, q2⟩ := q2
  refine ⟨by rw [r1.length]; exact e1, by rw [r2.length]; exact e2, ?_⟩
  rw [← hK]
  exact ⟨M2, μ2, xs ++ zs ++ dd.map SV.d, Φ, Ψb, w2, ((l2.sreps r1).append r2).append (SReps.of (by rw [hK]; exact hd _)), fun v M3 H3 y μ3 l3 => k v M3 H3 y μ3 ((l1.trans l2).trans l3), fun cls dp M3 H3 fs μ3 l3 => bb.hE cls dp M3 H3 fs μ3 (((a.le.trans l1).trans l2).trans l3), q2⟩
theorem de_c0 {ps : List Str} (C : Callee X.prog X.w X.K X.mg X.base x lvl ps d) (hr : Room lvl X.A) (hg : Gl X x) (hK : B.K = X.K := by rfl) (hdb : (x == ("__debug__" : Str)) = false := by decide) :
    DE X B (.Call (.Name x p) [] [] pos) (tCall (toSp B.K d) [] B.E tNil) (dCall d B.Ψ dNil) := by
  obtain ⟨Kb, Eb, Ψb⟩ := B
  have hK : Kb = X.K := hK
  subst hK
  have hK : X.K = X.K := rfl
  obtain ⟨f, fd, F, hm, hk, hb⟩ := C.ex
  exact de_call0 F hr hg hm hk hb passes0 hK hdb
end
/-! a word between two statements -/
def dCut (t u : DTS) : DTS := fun Φ ε μ => ∃ Mid : DEnv → DSt → Prop, t { Φ with nx := Mid } ε μ ∧ ∀ ε' μ', Mid ε' μ' → u Φ ε' μ'
theorem dss_cut {st : Stmt} {rest : List Stmt} {vs vr : TS} {ds dr : DTS} (h : DS X B st vs ds) (hr : DSs X B rest vr dr) : DSs X B (st :: rest) (tSeq vs vr) (dCut ds dr) := ⟨pss_cons h.p hr.p, fun bb M σ H ε μ Φ D a E q => by
  obtain ⟨Mid, q1, q2⟩ := q
  exact h.s bb M σ H ε μ { Φ with nx := Mid } _ a (E.nx' fun M1 σ1 H1 ε1 μ1 a1 q3 => hr.s bb M1 σ1 H1 ε1 μ1 Φ D a1 E (q2 ε1 μ1 q3)) q1⟩
/-! y = [..] -/
theorem ds_setLc {i : Nat} {y : Str} {py spos : Pos} {elt tg iter : Expr} {ifs : List Expr} {scope : Scope} {own : List (Str × Nat)} {vi : TI} {di : DTI} {vg : TG} {dg : DTG} {vt : TT} {dt : DTT} (hc : X.calm = true) (hN : X.N.Nodup) (hy : X.N[i]? = some y) (hyl : X.env.scope.names.lookup y = some .local)
    (hsw : swapsWith (.ListComp elt [⟨tg, iter, ifs, 0⟩] scope pos) (some (.Name y py)) spos.line X.env = pure true) (hi : DI X B tg iter vi di) (ok : BlkOk X.N X.env.scope scope own)
    (hg : ∀ (s : Shared) (H : Hp) (C : Addr) (cl : List (Str × Addr)) (fp : List Addr), DG (X.blk s H scope (compEnvC scope cl C X.env) fp) B tg vg dg) (hw : GW (own.map (·.2)) vg)
    (ht : ∀ (s : Shared) (H : Hp) (C : Addr) (cl : List (Str × Addr)) (fp : List Addr), DTs (X.blk s H scope (compEnvC scope cl C X.env) fp) B ifs vt dt)
    (he : ∀ (s : Shared) (H : Hp) (C : Addr) (cl : List (Str × Addr)) (fp : List Addr), DE (X.blk s H scope (compEnvC scope cl C X.env) fp) B elt ue te) (hs : ∀ x, foldedSetIterable iter X.env x = pure x := by intro _; rfl) :
    DS X B (.Assign [.Name y py] (.ListComp elt [⟨tg, iter, ifs, 0⟩] scope pos) spos) (tAsg (tLc vi vg vt ue (own.map (·.2))) (gName i)) (dAsg (dLc di dg dt te (own.map (·.2))) (dgN i)) :=
  ⟨ps_setLc hc hN hy hyl hsw hi.p ok (fun s H C cl fp => (hg s H C cl fp).p) (fun s H C cl fp => (ht s H C cl fp).p) (fun s H C cl fp => (he s H C cl fp).p) hs,
   fun bb M σ H ε μ Φ D a E q => sim_lc hi.s (hg X.s_0 X.H_0 0 [] []).s hw (ht X.s_0 X.H_0 0 [] []).s (he X.s_0 X.H_0 0 [] []).s bb M σ H ε μ _ _ a (fun v M1 H1 x μ1 l1 w1 r1 q1 => E.nx M1 _ H1 _ μ1 ((a.next l1 w1).set i r1) q1) q⟩
end
/-! binding with defaults and keywords -/
section
variable {K : PySem.W.Frag} {x qual : Str} {params : Arguments} {body : List Stmt} {scope : Scope} {dvs : List V} {kws : List (Str × V)} {f : Addr} {fd : FuncData} {ps : List Str}
theorem kbn_of (F : FunD K x qual params body scope dvs kws f fd) (n j : Nat) (ks : List Str) (hd : dvs ≠ [])
    (h : ∀ (T : Addr) (kV doc pm : Value) (an : Option Addr) (cdv ct : Value) (us its ws : List Value), us.length = n → its.length = dvs.length → ws.length = ks.length →
      ∃ k, bindArgs (PySem.W.fnOf x qual params body scope (.ref T) kV doc pm an cdv ct) ⟨us, ks.zip ws⟩ = seqItems? (.ref T) >>= k ∧ k (some its.toArray) = pure (ps.zip (us ++ ws ++ its.drop j))) :
    ∃ g, KBn K fd ps n ks g (fun vs zs => vs ++ zs ++ dvs.drop j) := by
  obtain ⟨oc, od, dV, kV, doc, pm, an, cdv, ct, osl, rfl, lk, hcd, hD, hK⟩ := F.ex
  rcases hD with ⟨e, _⟩ | ⟨_, T, o, its, m, rfl, lT, oT, rT⟩
  · exact absurd e hd
  · refine ⟨fun us ws => us ++ ws ++ its.drop j, ⟨fun s us ws X l1 l2 => ?_, fun r1 r2 => (r1.append r2).append (rT.drop j)⟩⟩
    obtain ⟨k, e1, e2⟩ := h T kV doc pm an cdv ct us its ws l1 rT.length.symm l2
    refine BindsTo.of_looks fun M => ?_
    rw [e1]
    exact looks_items X lT oT (.of_pure e2)
end
end DV

set_option Elab.async false
set_option linter.all false
set_option maxRecDepth 100000
namespace DV
open PySem PySem.Spec PyProof.Rows L2

/-! ### one step -/
section
variable {Φ : DEnds} {ε : DEnv} {μ : DSt} {k : DK} {ta tb tc : DTE} {t u : DTS} {g : DTG} {tl tk : DTA} {b : Bool} {tt uu : DTT} {kb : Bool → DSt → Prop} {ka : List SV → DSt → Prop} {A C : Prop}
theorem l_seq (h : t { Φ with nx := u Φ } ε μ) : dSeq t u Φ ε μ := h
theorem l_asg (h : ta ε μ fun x μ1 => g x ε μ1 Φ.nx) : dAsg ta g Φ ε μ := h
theorem l_ret (h : ta ε μ Φ.rt) : dRet ta Φ ε μ := h
theorem l_retN (h : Φ.rt (.d .non) μ) : dRetN Φ ε μ := h
theorem l_next (h : Φ.nx ε μ) : dNext Φ ε μ := h
theorem l_break (h : Φ.bk ε μ) : dBreak Φ ε μ := h
theorem l_cont (h : Φ.ct ε μ) : dCont Φ ε μ := h
theorem l_drop (h : ta ε μ fun _ μ1 => Φ.nx ε μ1) : dDrop ta Φ ε μ := h
theorem l_ifS (h : tt ε μ fun k μ1 => bcase k (t Φ ε μ1) (u Φ ε μ1)) : dIfS tt t u Φ ε μ := h
def parK (i j : Nat) (Φ : DEnds) (ε : DEnv) (xs : List SV) (μ : DSt) : Prop := match xs with
  | [x, y] => Φ.nx ((ε.set i (some x)).set j (some y)) μ
  | _ => False
theorem l_par {i j : Nat} (h : tl ε μ (parK i j Φ ε)) : dPar i j tl Φ ε μ := h
theorem l_parK {i j : Nat} {x y : SV} (h : Φ.nx ((ε.set i (some x)).set j (some y)) μ) : parK i j Φ ε [x, y] μ := h
theorem lk_of : ∀ {ε : DEnv} {i : Nat} {x : SV} {f : SV → Prop}, ε[i]? = some (some x) → f x → lk ε i f
  | [], _, _, _, h, _ => by simp at h
  | o :: _, 0, x, f, h, q => by
    have h : o = some x := by simpa using h
    subst h
    exact q
  | _ :: r, n + 1, x, f, h, q => lk_of (ε := r) (i := n) (by simpa using h) q
theorem l_aug {i : Nat} {r : SV → SV → DSt → DK → Prop} {x : SV} (h : ε[i]? = some (some x)) (q : ta ε μ fun y μ1 => r x y μ1 fun z μ2 => Φ.nx (ε.set i (some z)) μ2) : dAug i ta r Φ ε μ := lk_of h q
theorem l_var {i : Nat} {x : SV} (h : ε[i]? = some (some x)) (q : k x μ) : dVar i ε μ k := lk_of h q
theorem l_c {d : D} (h : k (.d d) μ) : dC d ε μ k := h
theorem l_op {r : SV → SV → DSt → DK → Prop} (h : ta ε μ fun x μ1 => tb ε μ1 fun y μ2 => r x y μ2 k) : dOp r ta tb ε μ k := h
theorem l_test (h : ta ε μ fun x μ1 => svb x fun c => kb c μ1) : dTest ta ε μ kb := h
theorem l_and (h : tt ε μ fun c μ1 => bcase c (uu ε μ1 kb) (kb false μ1)) : dAnd tt uu ε μ kb := h
theorem l_or (h : tt ε μ fun c μ1 => bcase c (kb true μ1) (uu ε μ1 kb)) : dOr tt uu ε μ kb := h
theorem l_not (h : tt ε μ fun c μ1 => kb (!c) μ1) : dNot tt ε μ kb := h
theorem l_andV (h : ta ε μ fun x μ1 => svb x fun c => bcase c (tb ε μ1 k) (k (.d (.bl false)) μ1)) : dAndV ta tb ε μ k := h
theorem l_orV (h : ta ε μ fun x μ1 => svb x fun c => bcase c (k (.d (.bl true)) μ1) (tb ε μ1 k)) : dOrV ta tb ε μ k := h
theorem l_notV (h : ta ε μ fun x μ1 => svb x fun c => k (.d (.bl (!c))) μ1) : dNotV ta ε μ k := h
theorem l_if (h : tt ε μ fun c μ1 => bcase c (ta ε μ1 k) (tb ε μ1 k)) : dIf tt ta tb ε μ k := h
theorem l_nil (h : ka [] μ) : dNil ε μ ka := h
theorem l_cons (h : ta ε μ fun x μ1 => tl ε μ1 fun xs μ2 => ka (x :: xs) μ2) : dCons ta tl ε μ ka := h
def starK (tl : DTA) (ε : DEnv) (ka : List SV → DSt → Prop) (x : SV) (μ1 : DSt) : Prop := ∃ ds, seqOf x μ1 ds ∧ tl ε μ1 fun ys μ2 => ka (ds.map SV.d ++ ys) μ2
theorem l_star (h : ta ε μ (starK tl ε ka)) : dStar ta tl ε μ ka := h
theorem l_starT {ds : List D} (h : tl ε μ fun ys μ2 => ka (ds.map SV.d ++ ys) μ2) : starK tl ε ka (.d (.tup ds)) μ := ⟨ds, rfl, h⟩
theorem l_starL {ds : List D} (h : tl ε μ fun ys μ2 => ka (ds.map SV.d ++ ys) μ2) : starK tl ε ka (.d (.lst ds)) μ := ⟨ds, rfl, h⟩
def tupK (k : DK) (xs : List SV) (μ : DSt) : Prop := match pures xs with
  | some ds => ds.length ≤ sizeLine ∧ k (.d (.tup ds)) μ
  | none => False
def lstK (k : DK) (xs : List SV) (μ : DSt) : Prop := match pures xs with
  | some ds => ds.length ≤ sizeLine ∧ k (.d (.lst ds)) μ
  | none => False
def lstMK (k : DK) (xs : List SV) (μ : DSt) : Prop := xs.length ≤ sizeLine ∧ k (.m μ.length) (μ ++ [.lst xs])
theorem l_tup (h : tl ε μ (tupK k)) : dTup tl ε μ k := h
theorem l_lst (h : tl ε μ (lstK k)) : dLst tl ε μ k := h
theorem l_lstM (h : tl ε μ (lstMK k)) : dLstM tl ε μ k := h
theorem l_tupK {xs : List SV} {ds : List D} (e : pures xs = some ds) (hz : ds.length ≤ sizeLine) (h : k (.d (.tup ds)) μ) : tupK k xs μ := by
  unfold tupK
  rw [e]
  exact ⟨hz, h⟩
theorem l_lstK {xs : List SV} {ds : List D} (e : pures xs = some ds) (hz : ds.length ≤ sizeLine) (h : k (.d (.lst ds)) μ) : lstK k xs μ := by
  unfold lstK
  rw [e]
  exact ⟨hz, h⟩
theorem l_tupK' {xs : List SV} (ds : List D) (e : xs = ds.map SV.d) (hz : ds.length ≤ sizeLine) (h : k (.d (.tup ds)) μ) : tupK k xs μ := l_tupK (by rw [e]; exact pures_map ds) hz h
theorem l_lstK' {xs : List SV} (ds : List D) (e : xs = ds.map SV.d) (hz : ds.length ≤ sizeLine) (h : k (.d (.lst ds)) μ) : lstK k xs μ := l_lstK (by rw [e]; exact pures_map ds) hz h
theorem szle {n : Nat} (h : n ≤ 100000) : n ≤ sizeLine := Nat.le_trans h (by decide)
theorem szlt {n : Nat} (h : n < 100000) : n < sizeLine := Nat.lt_of_lt_of_le h (by decide)
theorem l_lstMK {xs : List SV} (hz : xs.length ≤ sizeLine) (h : k (.m μ.length) (μ ++ [.lst xs])) : lstMK k xs μ := ⟨hz, h⟩
theorem pures_app : ∀ {xs ys : List SV} {ds es : List D}, pures xs = some ds → pures ys = some es → pures (xs ++ ys) = some (ds ++ es) := fun {xs ys ds es} h1 h2 => by
  rw [pures_eq h1, pures_eq h2, ← List.map_append]
  exact pures_map _
theorem l_cb {r : List SV → DSt → DK → Prop} (h : tl ε μ fun xs μ1 => r xs μ1 k) : dCB r tl ε μ k := h
theorem l_call {d : DSp} {Ψ : DX} (h : tl ε μ fun xs μ1 => d xs μ1 k Ψ) : dCall d Ψ tl ε μ k := h
theorem l_callD {d : DSp} {Ψ : DX} {dd : List D} (h : tl ε μ fun xs μ1 => d (xs ++ dd.map SV.d) μ1 k Ψ) : dCallD d dd Ψ tl ε μ k := h
theorem l_callK {d : DSp} {Ψ : DX} {dd : List D} {n m : Nat} (h : tl ε μ fun xs μ1 => tk ε μ1 fun zs μ2 => xs.length = n ∧ zs.length = m ∧ d (xs ++ zs ++ dd.map SV.d) μ2 k Ψ) : dCallK n m d dd Ψ tl tk ε μ k := h
theorem l_svb {f : Bool → Prop} {c : Bool} (h : f c) : svb (.d (.bl c)) f := h
theorem l_svi {f : Int → Prop} {c : Int} (h : f c) : svi (.d (.int c)) f := h
theorem l_bt (h : A) : bcase true A C := h
theorem l_bf (h : C) : bcase false A C := h
theorem l_bnt (h : C) : bcase (!true) A C := h
theorem l_bnf (h : A) : bcase (!false) A C := h
theorem l_cut {Mid : DEnv → DSt → Prop} (h : t { Φ with nx := Mid } ε μ) (h2 : ∀ ε' μ', Mid ε' μ' → u Φ ε' μ') : dCut t u Φ ε μ := ⟨Mid, h, h2⟩
theorem l_b {c : Bool} (h1 : c = true → A) (h2 : c = false → C) : bcase c A C := by
  cases c with
  | true => exact h1 rfl
  | false => exact h2 rfl
theorem l_bd {p : Prop} [Decidable p] (h1 : p → A) (h2 : ¬ p → C) : bcase (decide p) A C := l_b (fun h => h1 (of_decide_eq_true h)) fun h => h2 (of_decide_eq_false h)
theorem l_bnd {p : Prop} [Decidable p] (h1 : ¬ p → A) (h2 : p → C) : bcase (!decide p) A C := l_b (fun h => h1 (by simpa using h)) fun h => h2 (by simpa using h)
theorem l_bne {p : Prop} [Decidable p] (h1 : p) (h2 : C) : bcase (!decide p) A C := l_bnd (fun h => absurd h1 h) fun _ => h2
theorem l_bT {c : Bool} (h1 : c = true) (h2 : A) : bcase c A C := by
  subst h1
  exact h2
theorem l_bF {c : Bool} (h1 : c = false) (h2 : C) : bcase c A C := by
  subst h1
  exact h2
theorem l_dgN {i : Nat} {x : SV} {f : DEnv → DSt → Prop} (h : f (ε.set i (some x)) μ) : dgN i x ε μ f := h
theorem l_dgTup {n : Nat} {s : DTGs} {ds : List D} {f : DEnv → DSt → Prop} (hl : ds.length = n) (h : s (ds.map SV.d) ε μ f) : dgTup n s (.d (.tup ds)) ε μ f := ⟨hl, h⟩
theorem l_dgTup2 {s : DTGs} {a b : D} {f : DEnv → DSt → Prop} (h : s [.d a, .d b] ε μ f) : dgTup 2 s (.d (.tup [a, b])) ε μ f := ⟨rfl, h⟩
theorem l_dgTup3 {s : DTGs} {a b c : D} {f : DEnv → DSt → Prop} (h : s [.d a, .d b, .d c] ε μ f) : dgTup 3 s (.d (.tup [a, b, c])) ε μ f := ⟨rfl, h⟩
theorem l_dgTup4 {s : DTGs} {a b c d : D} {f : DEnv → DSt → Prop} (h : s [.d a, .d b, .d c, .d d] ε μ f) : dgTup 4 s (.d (.tup [a, b, c, d])) ε μ f := ⟨rfl, h⟩
theorem cmul_l {i j : Int} (h1 : -(2 ^ 64) < i) (h2 : i < 2 ^ 64) : CMul i j := .inl ⟨h1, h2⟩
theorem cmul_r {i j : Int} (h1 : -(2 ^ 64) < j) (h2 : j < 2 ^ 64) : CMul i j := .inr ⟨h1, h2⟩
theorem cmul_b {i : Int} {c : Bool} : CMul i (if c then 1 else 0) := by
  cases c
  · exact cmul_r (by decide) (by decide)
  · exact cmul_r (by decide) (by decide)
theorem cpow_of {i j : Int} (h1 : 0 ≤ j) (h2 : j ≤ 1000000) (h3 : i.natAbs < 2 ^ 64) : CPow i j := ⟨h1, h2, h3⟩
theorem cdiv_of {i j : Int} (h1 : 0 < j) (h2 : j < 1073741824) : CDiv i j := ⟨h1, h2⟩
theorem l_dgCons {s : DTGs} {x : SV} {r : List SV} {f : DEnv → DSt → Prop} (h : g x ε μ fun ε1 μ1 => s r ε1 μ1 f) : dgCons g s (x :: r) ε μ f := h
theorem l_dgNil {f : DEnv → DSt → Prop} (h : f ε μ) : dgNil [] ε μ f := h
def subK (x : SV) (ε : DEnv) (f : DEnv → DSt → Prop) (o i : SV) (μ2 : DSt) : Prop := match o, i with
  | .m n, .d (.int k) => ∃ xs j, μ2[n]? = some (.lst xs) ∧ ixN xs.length k = some j ∧ f ε (μ2.set n (.lst (xs.set j x)))
  | _, _ => False
theorem l_dgSub {x : SV} {f : DEnv → DSt → Prop} (h : ta ε μ fun o μ1 => tb ε μ1 fun i μ2 => subK x ε f o i μ2) : dgSub ta tb x ε μ f := h
theorem l_subK {x : SV} {f : DEnv → DSt → Prop} {n j : Nat} {i : Int} {xs : List SV} (hm : μ[n]? = some (.lst xs)) (hj : ixN xs.length i = some j) (h : f ε (μ.set n (.lst (xs.set j x)))) : subK x ε f (.m n) (.d (.int i)) μ := ⟨xs, j, hm, hj, h⟩
theorem l_yes (h : kb true μ) : dYes ε μ kb := h
/-! operators -/
theorem l_I {P : Int → Int → Prop} {f : Int → Int → D} {i j : Int} (hc : P i j) (h : k (.d (f i j)) μ) : dI P f (.d (.int i)) (.d (.int j)) μ k := ⟨hc, h⟩
theorem l_I0 {f : Int → Int → D} {i j : Int} (h : k (.d (f i j)) μ) : dI0 f (.d (.int i)) (.d (.int j)) μ k := h
theorem l_mod {i j : Int} (hc : 0 < j) (h : k (.d (.int (i % j))) μ) : dMod (.d (.int i)) (.d (.int j)) μ k := ⟨hc, h⟩
theorem l_fdiv {i j : Int} (hc : CDiv i j) (h : k (.d (.int (i / j))) μ) : dFdiv (.d (.int i)) (.d (.int j)) μ k := ⟨hc, h⟩
theorem l_mul {i j : Int} (hc : CMul i j) (h : k (.d (.int (i * j))) μ) : dMul (.d (.int i)) (.d (.int j)) μ k := ⟨hc, h⟩
theorem l_pow {i j : Int} (hc : CPow i j) (h : k (.d (.int (i ^ j.toNat))) μ) : dPow (.d (.int i)) (.d (.int j)) μ k := ⟨hc, h⟩
theorem l_plusI {i j : Int} (h : k (.d (.int (i + j))) μ) : dPlus (.d (.int i)) (.d (.int j)) μ k := h
theorem l_plusT {i j : List D} (hc : i.length + j.length ≤ sizeLine) (h : k (.d (.tup (i ++ j))) μ) : dPlus (.d (.tup i)) (.d (.tup j)) μ k := ⟨hc, h⟩
theorem l_plusL {i j : List D} (hc : i.length + j.length ≤ sizeLine) (h : k (.d (.lst (i ++ j))) μ) : dPlus (.d (.lst i)) (.d (.lst j)) μ k := ⟨hc, h⟩
theorem l_neg (h : ta ε μ fun x μ1 => svi x fun i => k (.d (.int (-i))) μ1) : dNeg ta ε μ k := h
theorem l_int {i : Int} (h : k (.d (.int i)) μ) : dInt [.d (.int i)] μ k := h
theorem l_intb {c : Bool} (h : k (.d (.int (if c then 1 else 0))) μ) : dInt [.d (.bl c)] μ k := h
theorem l_max2 {i j : Int} (h : k (.d (.int (if j > i then j else i))) μ) : dMax2 [.d (.int i), .d (.int j)] μ k := h
theorem l_min2 {i j : Int} (h : k (.d (.int (if j < i then j else i))) μ) : dMin2 [.d (.int i), .d (.int j)] μ k := h
theorem l_lenT {ds : List D} (h : k (.d (.int (ds.length : Nat))) μ) : dLen [.d (.tup ds)] μ k := h
theorem l_lenL {ds : List D} (h : k (.d (.int (ds.length : Nat))) μ) : dLen [.d (.lst ds)] μ k := h
theorem l_lenR {ds : List D} (h : k (.d (.int (ds.length : Nat))) μ) : dLen [.d (.lsr ds)] μ k := h
theorem l_tupleT {ds : List D} (h : k (.d (.tup ds)) μ) : dTuple [.d (.tup ds)] μ k := h
theorem l_tupleL {ds : List D} (h : k (.d (.tup ds)) μ) : dTuple [.d (.lst ds)] μ k := h
theorem l_listT {ds : List D} (h : k (.d (.lst ds)) μ) : dList [.d (.tup ds)] μ k := ⟨ds, rfl, h⟩
theorem l_listL {ds : List D} (h : k (.d (.lst ds)) μ) : dList [.d (.lst ds)] μ k := ⟨ds, rfl, h⟩
theorem l_listMT {ds : List D} (h : k (.m μ.length) (μ ++ [.lst (ds.map SV.d)])) : dListM [.d (.tup ds)] μ k := ⟨ds, rfl, h⟩
theorem l_listML {ds : List D} (h : k (.m μ.length) (μ ++ [.lst (ds.map SV.d)])) : dListM [.d (.lst ds)] μ k := ⟨ds, rfl, h⟩
theorem l_tupleM {n : Nat} {ds : List D} (hm : μ[n]? = some (.lst (ds.map SV.d))) (h : k (.d (.tup ds)) μ) : dTuple [.m n] μ k := ⟨ds, hm, h⟩
theorem l_isB {i j : Bool} (h : k (.d (.bl (decide (i = j)))) μ) : dIsB false (.d (.bl i)) (.d (.bl j)) μ k := h
theorem l_isnotB {i j : Bool} (h : k (.d (.bl (!decide (i = j)))) μ) : dIsB true (.d (.bl i)) (.d (.bl j)) μ k := h
theorem l_isN {x : SV} (h : k (.d (.bl (svIsNon x))) μ) : dIsN false x (.d .non) μ k := h
theorem l_isnotN {x : SV} (h : k (.d (.bl (!svIsNon x))) μ) : dIsN true x (.d .non) μ k := h
theorem l_ixT {ds : List D} {i : Int} {x : D} (ha : atI ds i = some x) (h : k (.d x) μ) : dIx (.d (.tup ds)) (.d (.int i)) μ k := ⟨x, ha, h⟩
theorem l_ixL {ds : List D} {i : Int} {x : D} (ha : atI ds i = some x) (h : k (.d x) μ) : dIx (.d (.lst ds)) (.d (.int i)) μ k := ⟨x, ha, h⟩
theorem l_ixR {ds : List D} {i : Int} {x : D} (ha : atI ds i = some x) (h : k (.d x) μ) : dIx (.d (.lsr ds)) (.d (.int i)) μ k := ⟨x, ha, h⟩
theorem l_ixM {xs : List SV} {n : Nat} {i : Int} {x : SV} (hm : μ[n]? = some (.lst xs)) (ha : atI xs i = some x) (h : k x μ) : dIx (.m n) (.d (.int i)) μ k := ⟨xs, x, hm, ha, h⟩
def slK (k : DK) (x : SV) (lo hi : Option Int) (μ3 : DSt) : Prop := match x with
  | .d (.tup ds) => k (.d (.tup (cut ds lo hi))) μ3
  | .d (.lst ds) => k (.d (.lst (cut ds lo hi))) μ3
  | .d (.lsr ds) => k (.d (.lst (cut ds lo hi))) μ3
  | .m n => ∃ ds, μ3[n]? = some (.lst (ds.map SV.d)) ∧ k (.d (.lst (cut ds lo hi))) μ3
  | _ => False
theorem l_sl {tlo thi : DEnv → DSt → (Option Int → DSt → Prop) → Prop} (h : ta ε μ fun x μ1 => tlo ε μ1 fun lo μ2 => thi ε μ2 fun hi μ3 => slK k x lo hi μ3) : dSl ta tlo thi ε μ k := h
theorem l_slT {ds : List D} {lo hi : Option Int} (h : k (.d (.tup (cut ds lo hi))) μ) : slK k (.d (.tup ds)) lo hi μ := h
theorem l_slL {ds : List D} {lo hi : Option Int} (h : k (.d (.lst (cut ds lo hi))) μ) : slK k (.d (.lst ds)) lo hi μ := h
theorem l_part0 {f : Option Int → DSt → Prop} (h : f none μ) : dPart none ε μ f := h
theorem l_part1 {f : Option Int → DSt → Prop} (h : ta ε μ fun x μ1 => svi x fun i => f (some i) μ1) : dPart (some ta) ε μ f := h
/-! loops -/
def forK (g : DTG) (tb : DTS) (Φ : DEnds) (ε : DEnv) (xs : List SV) (G : DSt → Prop) (μ1 : DSt) : Prop := ∃ I : Nat → DEnv → DSt → Prop, I 0 ε μ1 ∧ (∀ i ε μ, i ≤ xs.length → I i ε μ → G μ) ∧
  (∀ i x ε μ, xs[i]? = some x → I i ε μ → g x ε μ fun ε2 μ2 => tb { Φ with nx := I (i + 1), ct := I (i + 1), bk := Φ.nx, fl := μ1.length } ε2 μ2) ∧ ∀ ε μ, I xs.length ε μ → Φ.nx ε μ
theorem l_for {ti : DTI} (h : ti ε μ (forK g t Φ ε)) : dFor ti g t Φ ε μ := h
def enK (c0 : Int) (f : List SV → (DSt → Prop) → DSt → Prop) (xs : List SV) (μ1 : DSt) : Prop := match xs with
  | [.d (.lst ds)] => f (enumD c0 ds) (fun _ => True) μ1
  | [.d (.lsr ds)] => f (enumD c0 ds) (fun _ => True) μ1
  | [.d (.tup ds)] => f (enumD c0 ds) (fun _ => True) μ1
  | [.m n] => ∃ ds, μ1[n]? = some (.lst (ds.map SV.d)) ∧ f (enumD c0 ds) (fun μ => μ[n]? = some (.lst (ds.map SV.d))) μ1
  | _ => False
theorem l_enum {c0 : Int} {f : List SV → (DSt → Prop) → DSt → Prop} (h : tl ε μ (enK c0 f)) : diEnum c0 tl ε μ f := h
theorem l_enT {c0 : Int} {ds : List D} {f : List SV → (DSt → Prop) → DSt → Prop} (h : f (enumD c0 ds) (fun _ => True) μ) : enK c0 f [.d (.tup ds)] μ := h
theorem l_enL {c0 : Int} {ds : List D} {f : List SV → (DSt → Prop) → DSt → Prop} (h : f (enumD c0 ds) (fun _ => True) μ) : enK c0 f [.d (.lst ds)] μ := h
def sqK (f : List SV → (DSt → Prop) → DSt → Prop) (x : SV) (μ1 : DSt) : Prop := match x with
  | .d (.lst ds) => f (ds.map SV.d) (fun _ => True) μ1
  | .d (.lsr ds) => f (ds.map SV.d) (fun _ => True) μ1
  | .m n => ∃ xs, μ1[n]? = some (.lst xs) ∧ f xs (fun μ => μ[n]? = some (.lst xs)) μ1
  | _ => False
theorem l_seqI {f : List SV → (DSt → Prop) → DSt → Prop} (h : ta ε μ (sqK f)) : diSeq ta ε μ f := h
theorem l_sqL {ds : List D} {f : List SV → (DSt → Prop) → DSt → Prop} (h : f (ds.map SV.d) (fun _ => True) μ) : sqK f (.d (.lst ds)) μ := h
def tpK (f : List SV → (DSt → Prop) → DSt → Prop) (x : SV) (μ1 : DSt) : Prop := match x with
  | .d (.tup ds) => f (ds.map SV.d) (fun _ => True) μ1
  | _ => False
theorem l_tupI {f : List SV → (DSt → Prop) → DSt → Prop} (h : ta ε μ (tpK f)) : diTup ta ε μ f := h
theorem l_tpT {ds : List D} {f : List SV → (DSt → Prop) → DSt → Prop} (h : f (ds.map SV.d) (fun _ => True) μ) : tpK f (.d (.tup ds)) μ := h
def r1K (f : List SV → (DSt → Prop) → DSt → Prop) (xs : List SV) (μ1 : DSt) : Prop := match xs with
  | [.d (.int n)] => (-(2 ^ 62) ≤ n ∧ n < 2 ^ 62) ∧ f (rangeD 0 n.toNat) (fun _ => True) μ1
  | _ => False
theorem l_rng1 {f : List SV → (DSt → Prop) → DSt → Prop} (h : tl ε μ (r1K f)) : diR1 tl ε μ f := h
theorem l_r1 {n : Int} {f : List SV → (DSt → Prop) → DSt → Prop} (hn : -(2 ^ 62) ≤ n ∧ n < 2 ^ 62) (h : f (rangeD 0 n.toNat) (fun _ => True) μ) : r1K f [.d (.int n)] μ := ⟨hn, h⟩
def r2K (f : List SV → (DSt → Prop) → DSt → Prop) (xs : List SV) (μ1 : DSt) : Prop := match xs with
  | [.d (.int i), .d (.int j)] => (-(2 ^ 62) ≤ i ∧ i < 2 ^ 62 ∧ -(2 ^ 62) ≤ j ∧ j < 2 ^ 62) ∧ f (rangeD i (j - i).toNat) (fun _ => True) μ1
  | _ => False
theorem l_rng2 {f : List SV → (DSt → Prop) → DSt → Prop} (h : tl ε μ (r2K f)) : diR2 tl ε μ f := h
theorem l_r2 {i j : Int} {f : List SV → (DSt → Prop) → DSt → Prop} (hn : -(2 ^ 62) ≤ i ∧ i < 2 ^ 62 ∧ -(2 ^ 62) ≤ j ∧ j < 2 ^ 62) (h : f (rangeD i (j - i).toNat) (fun _ => True) μ) : r2K f [.d (.int i), .d (.int j)] μ := ⟨hn, h⟩
/-- over the numbers from lo on -/
theorem for_rng {lo : Int} {n : Nat} (I : Nat → DEnv → DSt → Prop) (h0 : I 0 ε μ) (hs : ∀ (i : Nat) ε' μ', i < n → I i ε' μ' → g (.d (.int (lo + (i : Nat)))) ε' μ' fun ε2 μ2 => t { Φ with nx := I (i + 1), ct := I (i + 1), bk := Φ.nx, fl := μ.length } ε2 μ2)
    (hd : ∀ ε' μ', I n ε' μ' → Φ.nx ε' μ') : forK g t Φ ε (rangeD lo n) (fun _ => True) μ := ⟨I, h0, fun _ _ _ _ _ => trivial, fun i x ε' μ' hx hI => by
  have hl := (List.getElem?_eq_some_iff.mp hx).1
  rw [rangeD_len] at hl
  rw [rangeD_get hl] at hx
  cases hx
  exact hs i ε' μ' hl hI, fun ε' μ' hI => hd ε' μ' (by rw [rangeD_len] at hI; exact hI)⟩
theorem for_enum {c0 : Int} {ds : List D} (I : Nat → DEnv → DSt → Prop) (h0 : I 0 ε μ) (hs : ∀ (i : Nat) x ε' μ', ds[i]? = some x → I i ε' μ' → g (.d (.tup [.int (c0 + (i : Nat)), x])) ε' μ' fun ε2 μ2 => t { Φ with nx := I (i + 1), ct := I (i + 1), bk := Φ.nx, fl := μ.length } ε2 μ2)
    (hd : ∀ ε' μ', I ds.length ε' μ' → Φ.nx ε' μ') : forK g t Φ ε (enumD c0 ds) (fun _ => True) μ := ⟨I, h0, fun _ _ _ _ _ => trivial, fun i x ε' μ' hx hI => by
  have hl := (List.getElem?_eq_some_iff.mp hx).1
  rw [enumD_len] at hl
  rw [enumD_get (List.getElem?_eq_getElem hl)] at hx
  cases hx
  exact hs i _ ε' μ' (List.getElem?_eq_getElem hl) hI, fun ε' μ' hI => hd ε' μ' (by rw [enumD_len] at hI; exact hI)⟩
theorem for_seq {ds : List D} (I : Nat → DEnv → DSt → Prop) (h0 : I 0 ε μ) (hs : ∀ (i : Nat) x ε' μ', ds[i]? = some x → I i ε' μ' → g (.d x) ε' μ' fun ε2 μ2 => t { Φ with nx := I (i + 1), ct := I (i + 1), bk := Φ.nx, fl := μ.length } ε2 μ2)
    (hd : ∀ ε' μ', I ds.length ε' μ' → Φ.nx ε' μ') : forK g t Φ ε (ds.map SV.d) (fun _ => True) μ := ⟨I, h0, fun _ _ _ _ _ => trivial, fun i x ε' μ' hx hI => by
  rw [List.getElem?_map] at hx
  obtain ⟨y, hy, e⟩ := Option.map_eq_some_iff.mp hx
  cases e
  exact hs i y ε' μ' hy hI, fun ε' μ' hI => hd ε' μ' (by rw [List.length_map] at hI; exact hI)⟩
/-! comprehensions -/
def elK (I : Nat → List D → DSt → Prop) (i : Nat) (acc : List D) (y : SV) (μ4 : DSt) : Prop := match y with
  | .d d => I (i + 1) (acc ++ [d]) μ4
  | .m _ => False
theorem l_elK {I : Nat → List D → DSt → Prop} {i : Nat} {acc : List D} {d : D} (h : I (i + 1) (acc ++ [d]) μ) : elK I i acc (.d d) μ := h
def lcK (g : DTG) (tt : DTT) (te : DTE) (ws : List Nat) (k : DK) (ε : DEnv) (xs : List SV) (G : DSt → Prop) (μ1 : DSt) : Prop := ∃ I : Nat → List D → DSt → Prop, I 0 [] μ1 ∧ (∀ i acc μ, i ≤ xs.length → I i acc μ → G μ ∧ acc.length < sizeLine) ∧
  (∀ i x acc μ, xs[i]? = some x → I i acc μ → g x (dwipe ε ws) μ fun ε2 μ2 => tt ε2 μ2 fun b μ3 => bcase b (te ε2 μ3 (elK I i acc)) (I (i + 1) acc μ3)) ∧ ∀ acc μ, I xs.length acc μ → k (.d (.lst acc)) μ
theorem l_lc {ti : DTI} {ws : List Nat} (h : ti ε μ (lcK g tt ta ws k ε)) : dLc ti g tt ta ws ε μ k := h
theorem lc_rng {lo : Int} {n : Nat} {ws : List Nat} (I : Nat → List D → DSt → Prop) (h0 : I 0 [] μ) (hz : ∀ i acc μ', i ≤ n → I i acc μ' → acc.length < sizeLine)
    (hs : ∀ (i : Nat) acc μ', i < n → I i acc μ' → g (.d (.int (lo + (i : Nat)))) (dwipe ε ws) μ' fun ε2 μ2 => tt ε2 μ2 fun b μ3 => bcase b (ta ε2 μ3 (elK I i acc)) (I (i + 1) acc μ3)) (hd : ∀ acc μ', I n acc μ' → k (.d (.lst acc)) μ') :
    lcK g tt ta ws k ε (rangeD lo n) (fun _ => True) μ := ⟨I, h0, fun i acc μ' hi hI => ⟨trivial, hz i acc μ' (by rw [rangeD_len] at hi; exact hi) hI⟩, fun i x acc μ' hx hI => by
  have hl := (List.getElem?_eq_some_iff.mp hx).1
  rw [rangeD_len] at hl
  rw [rangeD_get hl] at hx
  cases hx
  exact hs i acc μ' hl hI, fun acc μ' hI => hd acc μ' (by rw [rangeD_len] at hI; exact hI)⟩
theorem lc_seq {ds : List D} {ws : List Nat} (I : Nat → List D → DSt → Prop) (h0 : I 0 [] μ) (hz : ∀ i acc μ', i ≤ ds.length → I i acc μ' → acc.length < sizeLine)
    (hs : ∀ (i : Nat) x acc μ', ds[i]? = some x → I i acc μ' → g (.d x) (dwipe ε ws) μ' fun ε2 μ2 => tt ε2 μ2 fun b μ3 => bcase b (ta ε2 μ3 (elK I i acc)) (I (i + 1) acc μ3)) (hd : ∀ acc μ', I ds.length acc μ' → k (.d (.lst acc)) μ') :
    lcK g tt ta ws k ε (ds.map SV.d) (fun _ => True) μ := ⟨I, h0, fun i acc μ' hi hI => ⟨trivial, hz i acc μ' (by rw [List.length_map] at hi; exact hi) hI⟩, fun i x acc μ' hx hI => by
  rw [List.getElem?_map] at hx
  obtain ⟨y, hy, e⟩ := Option.map_eq_some_iff.mp hx
  cases e
  exact hs i y acc μ' hy hI, fun acc μ' hI => hd acc μ' (by rw [List.length_map] at hI; exact hI)⟩
/-! append -/
def appK (t : DTE) (ε : DEnv) (k : DK) (o : SV) (μ1 : DSt) : Prop := match o with
  | .m n => (∃ xs, μ1[n]? = some (.lst xs)) ∧ t ε μ1 fun x μ2 => ∃ xs, μ2[n]? = some (.lst xs) ∧ xs.length < sizeLine ∧ k (.d .non) (μ2.set n (.lst (xs ++ [x])))
  | _ => False
theorem l_app (h : ta ε μ (appK tb ε k)) : dApp ta tb ε μ k := h
def appE (k : DK) (n : Nat) (x : SV) (μ2 : DSt) : Prop := ∃ xs, μ2[n]? = some (.lst xs) ∧ xs.length < sizeLine ∧ k (.d .non) (μ2.set n (.lst (xs ++ [x])))
theorem l_appK {n : Nat} {xs : List SV} (hm : μ[n]? = some (.lst xs)) (h : ta ε μ (appE k n)) : appK ta ε k (.m n) μ := ⟨⟨xs, hm⟩, h⟩
theorem l_appE {n : Nat} {x : SV} {xs : List SV} (hm : μ[n]? = some (.lst xs)) (hz : xs.length < sizeLine) (h : k (.d .non) (μ.set n (.lst (xs ++ [x])))) : appE k n x μ := ⟨xs, hm, hz, h⟩
theorem l_fz {μ0 : DSt} {mo : MO} {d : D} (h1 : Rest mo d) (h2 : Φ.fl ≤ μ0.length) (h3 : ∀ mo ∈ μ0, mo.clo μ0.length) (h : t Φ (frz μ0.length d ε) μ0) : dFz t Φ ε (μ0 ++ [mo]) := ⟨μ0, mo, d, rfl, h1, h2, h3, h⟩
end

/-! ### equality of ints, of their lists and tuples -/
abbrev dints (ns : List Int) : List D := ns.map D.int
theorem dints_app (a b : List Int) : dints (a ++ b) = dints a ++ dints b := List.map_append
theorem pys_ints : ∀ ns : List Int, D.pys (dints ns) = some (ns.map PyData.int)
  | [] => rfl
  | n :: r => by
    show (match D.py (.int n), D.pys (dints r) with
      | some p, some ps => some (p :: ps)
      | _, _ => none) = some (PyData.int n :: r.map PyData.int)
    rw [pys_ints r]
    rfl
theorem canLay_ints : ∀ ns : List Int, PyData.canLayAll0 (ns.map PyData.int) = true
  | [] => rfl
  | n :: r => by
    show (PyData.canLay0 (.int n) && PyData.canLayAll0 (r.map PyData.int)) = true
    rw [canLay_ints r]
    rfl
theorem depth_ints : ∀ ns : List Int, PyData.depthAll (ns.map PyData.int) = 0
  | [] => rfl
  | n :: r => by
    show max (PyData.depth (.int n)) (PyData.depthAll (r.map PyData.int)) = 0
    rw [depth_ints r]
    rfl
theorem eqv_ints : ∀ ns ms : List Int, PyData.eqvAll (ns.map PyData.int) (ms.map PyData.int) = decide (ns = ms)
  | [], [] => rfl
  | [], _ :: _ => rfl
  | _ :: _, [] => rfl
  | n :: r, m :: q => by
    show (PyData.eqv (.int n) (.int m) && PyData.eqvAll (r.map PyData.int) (q.map PyData.int)) = decide (n :: r = m :: q)
    rw [eqv_ints r q]
    show ((n == m) && decide (r = q)) = decide (n :: r = m :: q)
    rw [Bool.eq_iff_iff]
    simp
theorem ced_int (i : Int) : Ced (.int i) (.int i) := ⟨rfl, rfl⟩
theorem ced_bl (i : Bool) : Ced (.bl i) (.bool i) := ⟨rfl, rfl⟩
theorem ced_tup (ns : List Int) : Ced (.tup (dints ns)) (.tuple (ns.map .int)) := by
  constructor
  · show (match D.pys (dints ns) with
      | some ps => some (PyData.tuple ps)
      | none => none) = _
    rw [pys_ints]
  · show (PyData.canLayAll0 (ns.map PyData.int) && decide (PyData.depthAll (ns.map PyData.int) + 1 ≤ 64)) = true
    rw [canLay_ints, depth_ints]
    rfl
theorem ced_lst (ns : List Int) : Ced (.lst (dints ns)) (.list (ns.map .int)) := by
  constructor
  · show (match D.pys (dints ns) with
      | some ps => some (PyData.list ps)
      | none => none) = _
    rw [pys_ints]
  · show (PyData.canLayAll0 (ns.map PyData.int) && decide (PyData.depthAll (ns.map PyData.int) + 1 ≤ 64)) = true
    rw [canLay_ints, depth_ints]
    rfl
section
variable {μ : DSt} {k : DK}
theorem e_int {i j : Int} (h : k (.d (.bl (decide (i = j)))) μ) : dEqD false (.d (.int i)) (.d (.int j)) μ k := ⟨_, _, ced_int i, ced_int j, by
  show k (.d (.bl (i == j))) μ
  rw [show (i == j) = decide (i = j) by rw [Bool.eq_iff_iff]; simp]
  exact h⟩
theorem n_int {i j : Int} (h : k (.d (.bl (!decide (i = j)))) μ) : dEqD true (.d (.int i)) (.d (.int j)) μ k := ⟨_, _, ced_int i, ced_int j, by
  show k (.d (.bl (!(i == j)))) μ
  rw [show (i == j) = decide (i = j) by rw [Bool.eq_iff_iff]; simp]
  exact h⟩
theorem e_tup {i j : List Int} (h : k (.d (.bl (decide (i = j)))) μ) : dEqD false (.d (.tup (dints i))) (.d (.tup (dints j))) μ k := ⟨_, _, ced_tup i, ced_tup j, by
  show k (.d (.bl (PyData.eqvAll _ _))) μ
  rw [eqv_ints]
  exact h⟩
theorem n_tup {i j : List Int} (h : k (.d (.bl (!decide (i = j)))) μ) : dEqD true (.d (.tup (dints i))) (.d (.tup (dints j))) μ k := ⟨_, _, ced_tup i, ced_tup j, by
  show k (.d (.bl (!PyData.eqvAll _ _))) μ
  rw [eqv_ints]
  exact h⟩
theorem e_lst {i j : List Int} (h : k (.d (.bl (decide (i = j)))) μ) : dEqD false (.d (.lst (dints i))) (.d (.lst (dints j))) μ k := ⟨_, _, ced_lst i, ced_lst j, by
  show k (.d (.bl (PyData.eqvAll _ _))) μ
  rw [eqv_ints]
  exact h⟩
theorem n_lst {i j : List Int} (h : k (.d (.bl (!decide (i = j)))) μ) : dEqD true (.d (.lst (dints i))) (.d (.lst (dints j))) μ k := ⟨_, _, ced_lst i, ced_lst j, by
  show k (.d (.bl (!PyData.eqvAll _ _))) μ
  rw [eqv_ints]
  exact h⟩
end
/-! items and cuts of ints -/
theorem atI_map {α β : Type} (f : α → β) (xs : List α) (i : Int) : atI (xs.map f) i = (atI xs i).map f := by
  unfold atI
  rw [List.length_map]
  cases ixN xs.length i with
  | none => rfl
  | some j => show (xs.map f)[j]? = (xs[j]?).map f; rw [List.getElem?_map]
theorem atI_ints {ns : List Int} {i : Int} {x : Int} (h : atI ns i = some x) : atI (dints ns) i = some (.int x) := by
  rw [atI_map, h]
  rfl
theorem atI_nat' {α : Type} {xs : List α} {j : Nat} {x : α} (h : xs[j]? = some x) : atI xs (j : Int) = some x := by
  have hl := (List.getElem?_eq_some_iff.mp h).1
  unfold atI ixN
  rw [if_pos (by omega), if_pos (by omega)]
  simpa using h
theorem atI_neg1 {α : Type} {xs : List α} {x : α} (h : xs[xs.length - 1]? = some x) : atI xs (-1) = some x := by
  have hl := (List.getElem?_eq_some_iff.mp h).1
  unfold atI ixN
  rw [if_neg (by omega), if_pos (by omega)]
  have e : (-1 + (xs.length : Int)).toNat = xs.length - 1 := by omega
  show (xs[(-1 + (xs.length : Int)).toNat]?) = some x
  rw [e]
  exact h
theorem cut_map {α β : Type} (f : α → β) (xs : List α) (lo hi : Option Int) : cut (xs.map f) lo hi = (cut xs lo hi).map f := by
  unfold cut
  rw [List.length_map, List.map_take, List.map_drop]
theorem cut_le {α : Type} (xs : List α) (lo hi : Option Int) : (cut xs lo hi).length ≤ xs.length := by
  unfold cut
  rw [List.length_take, List.length_drop]
  omega
theorem cut_to {α : Type} {xs : List α} {j : Nat} (h : j ≤ xs.length) : cut xs none (some (j : Int)) = xs.take j := by
  unfold cut
  rw [HT.sIx_none, HT.sIx_nat, Nat.min_eq_left h]
  rfl
theorem cut_from {α : Type} {xs : List α} {j : Nat} (h : j ≤ xs.length) : cut xs (some (j : Int)) none = xs.drop j := by
  unfold cut
  rw [HT.sIx_none, HT.sIx_nat, Nat.min_eq_left h, List.take_of_length_le (by rw [List.length_drop]; omega)]
theorem cut_set {α : Type} {xs : List α} {j : Nat} (y : α) (h : j < xs.length) : cut xs none (some (j : Int)) ++ [y] ++ cut xs (some ((j : Int) + 1)) none = xs.set j y := by
  rw [cut_to (Nat.le_of_lt h), show ((j : Int) + 1) = ((j + 1 : Nat) : Int) by rfl, cut_from h, List.set_eq_take_append_cons_drop, if_pos h, List.append_assoc]
  rfl
theorem ixN_nat' {n j : Nat} (h : j < n) : ixN n (j : Int) = some j := by
  unfold ixN
  rw [if_pos (by omega), if_pos (by omega)]
  simp
theorem dints_set (ns : List Int) (j : Nat) (y : Int) : (dints ns).set j (.int y) = dints (ns.set j y) := List.map_set.symm
theorem sv_set (ds : List D) (j : Nat) (y : D) : (ds.map SV.d).set j (.d y) = (ds.set j y).map SV.d := List.map_set.symm
end DV

set_option Elab.async false
set_option linter.all false
set_option maxRecDepth 100000
namespace DV
open PySem PySem.Spec PyProof.Rows L2

/-! ### the ends -/
def p_lawOf : DSp := fun xs μ Φ _ => ∃ ns : List Int, xs = [.d (.lsr (dints ns))] ∧ ns.length ≤ 63 ∧ μ = [] ∧ ∀ μ', Φ (.d (.bl true)) μ'
theorem wo_nil {K : PySem.W.Frag} {H : Hp} {a : Addr} {xs : List V} (h : SqL K H a xs) : SqL K (wo ⟨[], []⟩ H) a xs := by
  have key : ∀ {o : HO}, H a = some o → wo ⟨[], []⟩ H a = some (unf o) := fun h => wo_some h (fun z => by cases z) fun z => by cases z
  rcases h with (h | ⟨o, h⟩) | h
  · exact .inl (.inl (key h))
  · exact .inl (.inr ⟨o, key h⟩)
  · exact .inr h
theorem law_hsp {K : PySem.W.Frag} {H : Hp} {a : Addr} {ns : List Int} (hl : ns.length ≤ 63) (hS : SqL K H a (ns.map V.int)) : toSp K p_lawOf [.ref a] H (fun v _ => v = .bl true) fun _ _ _ => False := by
  refine ⟨⟨[], []⟩, [], [.d (.lsr (dints ns))], fun x _ => x = .d (.bl true), fun _ _ _ => False, ⟨rfl, fun i j a h => ?_, fun n a h => ?_, fun a h => ?_, fun n h => absurd h (Nat.not_lt_zero n)⟩, .cons (.d (.lsr (wo_nil hS) Reps.ints)) .nil, fun v M' H' x μ' _ _ r hx => ?_, fun _ _ _ _ _ _ _ _ _ h => h, ns, rfl, hl, rfl, fun _ => rfl⟩
  · cases h
  · cases h
  · cases h
  · subst hx
    cases r with
    | d r => cases r; rfl
theorem walk_dv {l : PySem.W.OpenLaw} {q : Program} {loose : List Str} {XP : (Str → Option Value) → Heap → Prop} {YP : World → Heap → Prop} {d : DefRec} {K : Params → PySem.W.Frag} {lvl : Nat} (hn : l.most = some 63) (hdf : d.params.defaults = []) (hr : Room lvl callerA)
    (hY : ∀ (w : World) (h : Heap), YP w h → (K w.params).In h)
    (F : ∀ (w : World) (mg : Str → Option Value) (fa : Addr) (h : Heap), (K w.params).In h → h.Ns mainGlobals mg → mg d.name = some (.ref fa) →
      ∃ fd : FuncData, (∀ (s : Shared) (u : Value), BindsTo s fd ⟨[u], []⟩ [("_law_script", u)]) ∧
        ∀ base : Heap, (K w.params).In base → base.Ns mainGlobals mg → FnOk l.prog w (K w.params) mg base CX0 lvl fa fd ["_law_script"] (toSp (K w.params) p_lawOf)) :
    PySem.W.WalkO q loose XP YP l.row.toRowW d [] (fun f vs => PySem.call f vs) :=
  L2.walk_of (n := 63) (k := lvl) (x := "_law_script") (CX := fun _ => CX0) (sp := fun w => toSp (K w.params) p_lawOf) hn (by decide) hdf hr hY F (fun _ _ a ns hl _ hS => law_hsp hl hS) fun _ _ _ _ _ z => z
theorem DefAt.of {x : Str} {st : Stmt} {K : PySem.W.Frag} {h : Heap} {mg : Str → Option Value} {f : Addr} {od an : Option Addr} {sl : Array (Option Value)} {oc kV dc pm cd ct : Value} (X : K.In h) (G : h.Ns mainGlobals mg)
    (a : PySem.W.nsIn K mainGlobals x = some (some (.ref f))) (l : K.lookup f = some ⟨oc, od, .func (PySem.W.fnOf x x (defArgs st) (defBody st) (defScope st) .none kV dc pm an cd ct), sl⟩) (c : PySem.W.codeIn K cd x = true) (k : PySem.W.keepIn K (.ref f) = true) : DefAt K mg x st :=
  ⟨f, _, fun_mk (st := st) l c k, PySem.W.mg_of X G a⟩
/-- a def with defaults as it stands -/
structure DefD (K : PySem.W.Frag) (mg : Str → Option Value) (x : Str) (st : Stmt) (dvs : List V) : Prop where
  ex : ∃ f fd, FunD K x x (defArgs st) (defBody st) (defScope st) dvs [] f fd ∧ mg x = some (.ref f)
theorem DefD.of {x : Str} {st : Stmt} {K : PySem.W.Frag} {h : Heap} {mg : Str → Option Value} {f T : Addr} {od an : Option Addr} {sl : Array (Option Value)} {oc kV dc pm cd ct : Value} {dvs : List V} {o : Obj} {its : List Value} {n : Nat} (X : K.In h) (G : h.Ns mainGlobals mg)
    (a : PySem.W.nsIn K mainGlobals x = some (some (.ref f))) (l : K.lookup f = some ⟨oc, od, .func (PySem.W.fnOf x x (defArgs st) (defBody st) (defScope st) (.ref T) kV dc pm an cd ct), sl⟩) (c : PySem.W.codeIn K cd x = true) (k : PySem.W.keepIn K (.ref f) = true)
    (hd : dvs ≠ []) (lT : K.lookup T = some o) (oT : o.data = .seq its.toArray n) (rT : Vals dvs its) : DefD K mg x st dvs :=
  ⟨f, _, ⟨⟨oc, od, .ref T, kV, dc, pm, an, cd, ct, sl, rfl, l, c, .inr ⟨hd, T, o, its, n, rfl, lT, oT, rT⟩, .inl rfl⟩, k⟩, PySem.W.mg_of X G a⟩
section
variable {P : Program} {w : World} {K : PySem.W.Frag} {mg : Str → Option Value} {base : Heap}
/-- the rule for a def with defaults -/
theorem dfnD {x qual : Str} {params : Arguments} {body : List Stmt} {scope : Scope} {dvs : List V} {kws : List (Str × V)} {f : Addr} {fd : FuncData} {N ps : List Str} {k : Nat} {d : DSp} (F : FunD K x qual params body scope dvs kws f fd) (S : FnScope N ps scope) (len : ∀ xs μ Φ Ψ, d xs μ Φ Ψ → xs.length = ps.length) (hN : ps.length ≤ N.length)
    (hbody : ∀ (cdv : Value) (A : Around) (outer : List Env) (s : Shared) (H : Hp) (E : XK) (Ψ : DX), Room k (A.deeper (envOfC qual scope s.heap.objs.size f cdv)) →
      ∃ u t, DSs (cxOf CX0 P w K mg base N qual scope f cdv A outer s H E).nox { K := K, E := E, Ψ := Ψ } body u t ∧ ∀ xs μ Φ, d xs μ Φ Ψ → t { nx := fun _ μ => Φ (.d .non) μ, rt := Φ, fl := μ.length } (dstart N.length xs) μ) : FnOk P w K mg base CX0 (k + 1) f fd ps (toSp K d) := by
  refine F.ok S (fun vs H Q E h => ?_) (fun cdv A outer s H vs Q E hr h => ?_)
  · obtain ⟨M, μ, xs, Φ, Ψ, _, r, _, _, q⟩ := h
    rw [r.length]
    exact len _ _ _ _ q
  · obtain ⟨M, μ, xs, Φ, Ψ, W, r, kq, ke, q⟩ := h
    obtain ⟨u, t, hd, ht⟩ := hbody cdv A outer s H E Ψ hr
    refine ⟨u, hd.p.nox, ?_⟩
    let bb : Ba { K := K, E := E, Ψ := Ψ } := ⟨M, H, ke, fun _ _ cls dp M' H' fs μ l w _ => ke cls dp M' H' fs μ l w, fun _ _ _ => trivial⟩
    refine hd.s bb M (L2.start N vs) H (dstart N.length xs) μ _ _ ⟨Le.refl M H, W, start_env r (by rw [len _ _ _ _ q]; exact hN)⟩ ⟨?_, ?_, ?_, ?_, Nat.le_of_eq W.len⟩ (ht xs μ Φ q)
    · exact fun M1 σ1 H1 ε1 μ1 a1 q1 => kq .non M1 H1 _ μ1 a1.le a1.wd (.d .non) q1
    · exact fun v M1 H1 x μ1 l1 w1 r1 q1 => kq v M1 H1 x μ1 l1 w1 r1 q1
    · exact fun M1 σ1 H1 ε1 μ1 a1 q1 => q1.elim
    · exact fun M1 σ1 H1 ε1 μ1 a1 q1 => q1.elim
end
end DV

set_option Elab.async false
set_option linter.all false
set_option maxRecDepth 100000
namespace DV
open PySem PySem.Spec PyProof.Rows L2
section
variable {X : Cx} {B : Bs} {a b e : Expr} {pos : Pos} {ta tb te : DTE} {ua ub ue : TE}
/-! a sum of lists that goes on to change -/
def dPlusM : SV → SV → DSt → DK → Prop
  | .d (.lst xs), .d (.lst ys), μ, Φ => xs.length + ys.length ≤ sizeLine ∧ Φ (.m μ.length) (μ ++ [.lst ((xs ++ ys).map SV.d)])
  | _, _, _, _ => False
theorem sim_plusM : SimR B (rPlus B.K) dPlusM := fun M H μ v w x y Φ Q W rx ry k h => by
  unfold dPlusM at h
  split at h
  · rename_i xs ys
    obtain ⟨z, h⟩ := h
    obtain ⟨p, us, rfl, hp, rp⟩ := rx.lst_inv
    obtain ⟨q, ws, rfl, hq, rq⟩ := ry.lst_inv
    refine .inr (.inr (.inl ⟨p, q, us, ws, rfl, rfl, (wo_sub M H).ex hp rfl, (wo_sub M H).ex hq rfl, by rw [rp.length, rq.length]; exact z, fun l hl => ?_⟩))
    exact k _ (M.add l) _ _ _ (le_newm W hl) (wd_newm (mo := .lst ((xs ++ ys).map SV.d)) W hl ⟨_, upd_same, (SReps.of (rp.append rq)).mono ids_newm (wo_newm hl)⟩) (.m (by rw [← W.len]; exact at_newm)) h
  · exact h.elim
theorem de_addM (ha : DE X B a ua ta) (hb : DE X B b ub tb) (hK : B.K = X.K := by rfl) : DE X B (.BinOp a .Add b pos) (tOp (rPlus B.K) ua ub) (dOp dPlusM ta tb) := by
  obtain ⟨Kb, Eb, Ψb⟩ := B
  have hK : Kb = X.K := hK
  subst hK
  exact de_op op_plus sim_plusM ha hb
/-! xs[::-1] -/
theorem Reps.reverse {K : PySem.W.Frag} {G : Hp} : ∀ {vs : List V} {ds : List D}, Reps K G vs ds → Reps K G vs.reverse ds.reverse
  | _, _, .nil => .nil
  | _, _, .cons h r => by
    rw [List.reverse_cons, List.reverse_cons]
    exact (Reps.reverse r).append (.cons h .nil)
def revK (k : DK) (x : SV) (μ : DSt) : Prop := match x with
  | .d (.lst ds) => k (.d (.lst ds.reverse)) μ
  | _ => False
def dRev (t : DTE) : DTE := fun ε μ k => t ε μ (revK k)
theorem de_revL {k : Nat} {p1 p2 p3 : Pos} (he : DE X B e ue te) (hK : B.K = X.K := by rfl) : DE X B (.Subscript e (.Slice none none (some (.UnaryOp .USub (.Constant (.int 1) k p1) p2)) p3) pos) (tRevL B.K ue) (dRev te) := by
  obtain ⟨Kb, Eb, Ψb⟩ := B
  have hK : Kb = X.K := hK
  subst hK
  refine ⟨pe_revL he.p, fun bb M σ H ε μ Φ Q a k q => he.s bb M σ H ε μ _ _ a (fun v M1 H1 x μ1 l1 w1 r1 q1 => ?_) q⟩
  unfold revK at q1
  split at q1
  · obtain ⟨q, us, rfl, hq, rq⟩ := r1.lst_inv
    exact ⟨q, us, rfl, .inl (.inl ((wo_sub M1 H1).ex hq rfl)), fun l hl => k _ M1 _ _ μ1 (l1.trans (le_new w1 hl)) (wd_new w1 hl) (.d (.lst (wo_at w1 hl) (rq.reverse.mono (wo_new hl)))) q1⟩
  · exact q1.elim
end
section
variable {ε : DEnv} {μ : DSt} {k : DK} {ta : DTE}
theorem l_plusM {i j : List D} (hc : i.length + j.length ≤ sizeLine) (h : k (.m μ.length) (μ ++ [.lst ((i ++ j).map SV.d)])) : dPlusM (.d (.lst i)) (.d (.lst j)) μ k := ⟨hc, h⟩
theorem l_rev (h : ta ε μ (revK k)) : dRev ta ε μ k := h
theorem l_revK {ds : List D} (h : k (.d (.lst ds.reverse)) μ) : revK k (.d (.lst ds)) μ := h
theorem l_slM {n : Nat} {ds : List D} {lo hi : Option Int} (hm : μ[n]? = some (.lst (ds.map SV.d))) (h : k (.d (.lst (cut ds lo hi))) μ) : slK k (.m n) lo hi μ := ⟨ds, hm, h⟩
end
end DV

set_option Elab.async false
set_option linter.all false
set_option maxRecDepth 100000
namespace DV
open PySem PySem.Spec PyProof.Rows L2
/-! ### dicts -/
section
variable {κ α : Type} [DecidableEq κ]
def lookK (kvs : List (κ × α)) (k : κ) : Option α := (kvs.find? fun kv => decide (kv.1 = k)).map (·.2)
def setK (kvs : List (κ × α)) (k : κ) (v : α) : List (κ × α) :=
  if kvs.any fun kv => decide (kv.1 = k) then kvs.map fun kv => if kv.1 = k then (kv.1, v) else kv else kvs ++ [(k, v)]
theorem lookK_nil {k : κ} : lookK ([] : List (κ × α)) k = none := rfl
theorem lookK_pos {p : κ × α} {r : List (κ × α)} {k : κ} (e : p.1 = k) : lookK (p :: r) k = some p.2 := by simp [lookK, List.find?_cons, e]
theorem lookK_neg {p : κ × α} {r : List (κ × α)} {k : κ} (e : ¬ p.1 = k) : lookK (p :: r) k = lookK r k := by simp [lookK, List.find?_cons, e]
theorem lookK_any (k : κ) : ∀ kvs : List (κ × α), (kvs.any fun kv => decide (kv.1 = k)) = (lookK kvs k).isSome
  | [] => rfl
  | p :: r => by
    rw [List.any_cons]
    by_cases e : p.1 = k
    · rw [lookK_pos e, decide_eq_true e]
      rfl
    · rw [lookK_neg e, decide_eq_false e, Bool.false_or]
      exact lookK_any k r
theorem lookK_map (k j : κ) (y : α) : ∀ kvs : List (κ × α), lookK (kvs.map fun kv => if kv.1 = k then (kv.1, y) else kv) j = (lookK kvs j).map fun x => if j = k then y else x
  | [] => rfl
  | p :: r => by
    rw [List.map_cons]
    by_cases e : p.1 = j
    · rw [lookK_pos e]
      by_cases e2 : p.1 = k
      · rw [if_pos e2, lookK_pos (p := (p.1, y)) (show (p.1, y).1 = j from e), ← e]
        simp [e2]
      · rw [if_neg e2, lookK_pos e, ← e]
        simp [e2]
    · rw [lookK_neg e, lookK_neg, lookK_map k j y r]
      split <;> exact e
theorem lookK_snoc (k j : κ) (y : α) : ∀ kvs : List (κ × α), lookK kvs k = none → lookK (kvs ++ [(k, y)]) j = if j = k then some y else lookK kvs j
  | [], _ => by
    by_cases e : j = k
    · rw [if_pos e]
      exact lookK_pos (p := (k, y)) e.symm
    · rw [if_neg e]
      exact lookK_neg (p := (k, y)) (fun z => e z.symm)
  | p :: r, h => by
    by_cases e : p.1 = k
    · rw [lookK_pos e] at h
      cases h
    · rw [lookK_neg e] at h
      rw [List.cons_append]
      by_cases e2 : p.1 = j
      · rw [lookK_pos e2, lookK_pos e2, if_neg (fun z => e (e2.trans z))]
      · rw [lookK_neg e2, lookK_neg e2]
        exact lookK_snoc k j y r h
theorem lookK_set (kvs : List (κ × α)) (k j : κ) (y : α) : lookK (setK kvs k y) j = if j = k then some y else lookK kvs j := by
  unfold setK
  rw [lookK_any]
  cases h : lookK kvs k with
  | none =>
    rw [if_neg (by simp)]
    exact lookK_snoc k j y kvs h
  | some x =>
    rw [if_pos (show (some x).isSome = true from rfl), lookK_map]
    by_cases e : j = k
    · subst e
      rw [h, if_pos rfl]
      simp
    · rw [if_neg e]
      cases lookK kvs j <;> simp [e]
end
section
variable {κ : Type} [DecidableEq κ] {K : PySem.W.Frag} {M : Mk} {G : Hp}
/-- the same keys, values that stand for each other -/
inductive KR (K : PySem.W.Frag) (M : Mk) (G : Hp) : List (κ × V) → List (κ × SV) → Prop
  | nil : KR K M G [] []
  | cons {k : κ} {v : V} {x : SV} {ws : List (κ × V)} {kvs : List (κ × SV)} : SRep K M G v x → KR K M G ws kvs → KR K M G ((k, v) :: ws) ((k, x) :: kvs)
theorem KR.of : ∀ {ws : List (κ × V)} {kvs : List (κ × SV)}, ws.map Prod.fst = kvs.map Prod.fst → SReps K M G (ws.map Prod.snd) (kvs.map Prod.snd) → KR K M G ws kvs
  | [], [], _, _ => .nil
  | (k, v) :: ws, (k2, x) :: kvs, h, r => by
    have h1 : k = k2 := (List.cons.inj h).1
    subst h1
    cases r with
    | cons r1 r2 => exact .cons r1 (KR.of (List.cons.inj h).2 r2)
  | [], _ :: _, h, _ => by cases h
  | _ :: _, [], h, _ => by cases h
theorem KR.keys : ∀ {ws : List (κ × V)} {kvs : List (κ × SV)}, KR K M G ws kvs → ws.map Prod.fst = kvs.map Prod.fst
  | _, _, .nil => rfl
  | _, _, .cons (k := k) _ t => congrArg (k :: ·) (KR.keys t)
theorem KR.vals : ∀ {ws : List (κ × V)} {kvs : List (κ × SV)}, KR K M G ws kvs → SReps K M G (ws.map Prod.snd) (kvs.map Prod.snd)
  | _, _, .nil => .nil
  | _, _, .cons r t => .cons r (KR.vals t)
theorem KR.length : ∀ {ws : List (κ × V)} {kvs : List (κ × SV)}, KR K M G ws kvs → ws.length = kvs.length
  | _, _, .nil => rfl
  | _, _, .cons _ t => congrArg (· + 1) (KR.length t)
theorem KR.none {k : κ} : ∀ {ws : List (κ × V)} {kvs : List (κ × SV)}, KR K M G ws kvs → lookK kvs k = none → valV ws k = none
  | _, _, .nil, _ => rfl
  | _, _, .cons (k := k2) r t, h => by
    by_cases e : k2 = k
    · rw [lookK_pos (show (k2, _).1 = k from e)] at h
      cases h
    · rw [lookK_neg (show ¬ (k2, _).1 = k from e)] at h
      rw [valV_neg (show ¬ (k2, _).1 = k from e)]
      exact KR.none t h
theorem KR.some {k : κ} {x : SV} : ∀ {ws : List (κ × V)} {kvs : List (κ × SV)}, KR K M G ws kvs → lookK kvs k = some x → ∃ v, valV ws k = some v ∧ SRep K M G v x
  | _, _, .nil, h => by cases h
  | _, _, .cons (k := k2) r t, h => by
    by_cases e : k2 = k
    · rw [lookK_pos (show (k2, _).1 = k from e)] at h
      cases h
      exact ⟨_, valV_pos (show (k2, _).1 = k from e), r⟩
    · rw [lookK_neg (show ¬ (k2, _).1 = k from e)] at h
      rw [valV_neg (show ¬ (k2, _).1 = k from e)]
      exact KR.some t h
theorem KR.any {k : κ} : ∀ {ws : List (κ × V)} {kvs : List (κ × SV)}, KR K M G ws kvs → (ws.any fun kv => decide (kv.1 = k)) = (kvs.any fun kv => decide (kv.1 = k))
  | _, _, .nil => rfl
  | _, _, .cons (k := k2) r t => by
    rw [List.any_cons, List.any_cons, KR.any t]
theorem KR.mapp {k : κ} {v : V} {x : SV} (rv : SRep K M G v x) : ∀ {ws : List (κ × V)} {kvs : List (κ × SV)}, KR K M G ws kvs → KR K M G (ws.map fun kv => if kv.1 = k then (kv.1, v) else kv) (kvs.map fun kv => if kv.1 = k then (kv.1, x) else kv)
  | _, _, .nil => .nil
  | _, _, .cons (k := k2) r t => by
    rw [List.map_cons, List.map_cons]
    by_cases e : k2 = k
    · rw [if_pos (show (k2, _).1 = k from e), if_pos (show (k2, _).1 = k from e)]
      exact .cons rv (KR.mapp rv t)
    · rw [if_neg (show ¬ (k2, _).1 = k from e), if_neg (show ¬ (k2, _).1 = k from e)]
      exact .cons r (KR.mapp rv t)
theorem KR.snoc {k : κ} {v : V} {x : SV} (rv : SRep K M G v x) : ∀ {ws : List (κ × V)} {kvs : List (κ × SV)}, KR K M G ws kvs → KR K M G (ws ++ [(k, v)]) (kvs ++ [(k, x)])
  | _, _, .nil => .cons rv .nil
  | _, _, .cons r t => .cons r (KR.snoc rv t)
theorem KR.put {k : κ} {v : V} {x : SV} (rv : SRep K M G v x) {ws : List (κ × V)} {kvs : List (κ × SV)} (h : KR K M G ws kvs) : KR K M G (putK ws k v) (setK kvs k x) := by
  unfold putK setK
  rw [h.any (k := k)]
  split
  · exact h.mapp rv
  · exact h.snoc rv
end
theorem lookK_mapv {κ : Type} [DecidableEq κ] (k : κ) : ∀ kvs : List (κ × D), lookK (kvs.map fun p => (p.1, SV.d p.2)) k = (lookK kvs k).map SV.d
  | [] => rfl
  | p :: r => by
    rw [List.map_cons]
    by_cases e : p.1 = k
    · rw [lookK_pos e, lookK_pos (p := (p.1, SV.d p.2)) (show (p.1, SV.d p.2).1 = k from e)]
      rfl
    · rw [lookK_neg e, lookK_neg (p := (p.1, SV.d p.2)) (show ¬ (p.1, SV.d p.2).1 = k from e)]
      exact lookK_mapv k r
def keyD : D → Option Key
  | .int i => some (.inl i)
  | .str x => some (.inr x)
  | _ => none
def keysD : List D → Option (List Key)
  | [] => some []
  | d :: ds => match keyD d, keysD ds with
    | some q, some qs => some (q :: qs)
    | _, _ => none
theorem key_rep {K : PySem.W.Frag} {G : Hp} {v : V} {d : D} {q : Key} (r : Rep K G v d) (h : keyD d = some q) : v = kV q := by
  cases r <;> cases h <;> rfl
theorem keys_rep {K : PySem.W.Frag} {G : Hp} : ∀ {vs : List V} {ds : List D} {q : List Key}, Reps K G vs ds → keysD ds = some q → vs = q.map kV
  | _, _, q, .nil, h => by
    have h : some [] = some q := h
    cases h
    rfl
  | _, _, q, .cons (d := d) (ds := ds) r t, h => by
    unfold keysD at h
    split at h
    · rename_i k ks h1 h2
      cases h
      rw [key_rep r h1, keys_rep t h2]
      rfl
    · cases h
section
variable {X : Cx} {B : Bs} {o i value e : Expr} {pos pos' : Pos} {td ti tv te : DTE} {ud ui uv ue : TE}
theorem Rv.dct_inv {M : Mk} {H : Hp} {v : V} {kvs : List (Key × D)} (h : Rv B M H v (.d (.dct kvs))) : ∃ p ws, v = .ref p ∧ Rd (wo M H) p (.dK ws) ∧ KR B.K M (wo M H) ws (kvs.map fun p => (p.1, SV.d p.2)) := by
  cases h with
  | d h => cases h with
    | dct h1 h2 h3 => exact ⟨_, _, rfl, h1, KR.of (by rw [map_fst_d]; exact h2) (by rw [map_snd_d]; exact SReps.of h3)⟩
theorem Rv.key_inv {M : Mk} {H : Hp} {v : V} {d : D} {q : Key} (h : Rv B M H v (.d d)) (k : keyD d = some q) : v = kV q := by
  cases h with
  | d h => exact key_rep h k
/-! {} -/
def dNewD : DTE := fun _ μ Φ => Φ (.d (.dct [])) μ
def dNewDM : DTE := fun _ μ Φ => Φ (.m μ.length) (μ ++ [.dct []])
theorem de_dnew : DE X B (.Dict [] [] pos) tDNewK dNewD := ⟨pe_dnewK, fun bb M σ H ε μ Φ Q a k q p hp => k _ M _ _ μ (le_new a.wd hp) (wd_new a.wd hp) (.d (.dct (.inl (wo_at a.wd hp)) rfl .nil)) q⟩
def dNewDT : DTE := fun _ μ Φ => Φ (.m μ.length) (μ ++ [.dcT []])
theorem de_dnewT : DE X B (.Dict [] [] pos) tDNewT dNewDT := ⟨pe_dnewT, fun bb M σ H ε μ Φ Q a k q p hp =>
  k _ (M.add p) _ _ _ (le_newm a.wd hp) (wd_newm (mo := .dcT []) a.wd hp ⟨[], upd_same, rfl, .nil⟩) (.m (by rw [← a.wd.len]; exact at_newm)) q⟩
theorem de_dnewM : DE X B (.Dict [] [] pos) tDNewK dNewDM := ⟨pe_dnewK, fun bb M σ H ε μ Φ Q a k q p hp =>
  k _ (M.add p) _ _ _ (le_newm a.wd hp) (wd_newm (mo := .dct []) a.wd hp ⟨[], upd_same, rfl, .nil⟩) (.m (by rw [← a.wd.len]; exact at_newm)) q⟩
/-! what stands at a key -/
def atKey (x y : SV) (μ : DSt) (f : Option SV → Prop) : Prop := match x, y with
  | .d (.dct kvs), .d k => ∃ q, keyD k = some q ∧ f ((lookK kvs q).map SV.d)
  | .d (.dcT kvs), .d (.tup ds) => ∃ q, keysD ds = some q ∧ f ((lookK kvs q).map SV.d)
  | .m n, .d (.tup ds) => ∃ kvs q, (μ[n]? = some (.dcT kvs) ∨ ∃ o ws, μ[n]? = some (.ldcT o ws kvs)) ∧ keysD ds = some q ∧ f (lookK kvs q)
  | .m n, .d k => ∃ kvs q, (μ[n]? = some (.dct kvs) ∨ ∃ o ws, μ[n]? = some (.ldc o ws kvs)) ∧ keyD k = some q ∧ f (lookK kvs q)
  | _, _ => False
theorem Rv.dcT_inv {M : Mk} {H : Hp} {v : V} {kvs : List (List Key × D)} (h : Rv B M H v (.d (.dcT kvs))) : ∃ p ws, v = .ref p ∧ Rd (wo M H) p (.dT ws) ∧ KR B.K M (wo M H) ws (kvs.map fun p => (p.1, SV.d p.2)) := by
  cases h with
  | d h => cases h with
    | dcT h1 h2 h3 => exact ⟨_, _, rfl, h1, KR.of (by rw [map_fst_d]; exact h2) (by rw [map_snd_d]; exact SReps.of h3)⟩
theorem Rv.tkey_inv {M : Mk} {H : Hp} {v : V} {ds : List D} {q : List Key} (h : Rv B M H v (.d (.tup ds))) (k : keysD ds = some q) : ∃ b, v = .ref b ∧ H b = some (.tup (q.map kV)) := by
  obtain ⟨p, xs, e, h1, h2⟩ := h.tup_invE
  rw [keys_rep h2 k] at h1
  exact ⟨p, e, (wo_sub M H).ex h1 rfl⟩
theorem Rv.mdT_inv {M : Mk} {H : Hp} {μ : DSt} {v : V} {n : Nat} {kvs : List (List Key × SV)} (W : Wd B.K M H μ) (r : Rv B M H v (.m n)) (h : μ[n]? = some (.dcT kvs) ∨ ∃ o ws, μ[n]? = some (.ldcT o ws kvs)) :
    ∃ p ws, v = .ref p ∧ Rd H p (.dT ws) ∧ KR B.K M (wo M H) ws kvs := by
  rcases h with hm | ⟨o, ws, hm⟩
  · obtain ⟨p, rfl, hp, ws, hw, hk, hr⟩ := r.m_inv W hm
    exact ⟨p, ws, rfl, .inl hw, KR.of hk hr⟩
  · obtain ⟨p, rfl, hp, hw, hk, hr⟩ := r.m_inv W hm
    exact ⟨p, ws, rfl, .inr ⟨o, hw⟩, KR.of hk hr⟩
/-- a dict that may change, walked or not -/
theorem Rv.md_inv {M : Mk} {H : Hp} {μ : DSt} {v : V} {n : Nat} {kvs : List (Key × SV)} (W : Wd B.K M H μ) (r : Rv B M H v (.m n)) (h : μ[n]? = some (.dct kvs) ∨ ∃ o ws, μ[n]? = some (.ldc o ws kvs)) :
    ∃ p ws, v = .ref p ∧ Rd H p (.dK ws) ∧ KR B.K M (wo M H) ws kvs := by
  rcases h with hm | ⟨o, ws, hm⟩
  · obtain ⟨p, rfl, hp, ws, hw, hk, hr⟩ := r.m_inv W hm
    exact ⟨p, ws, rfl, .inl hw, KR.of hk hr⟩
  · obtain ⟨p, rfl, hp, hw, hk, hr⟩ := r.m_inv W hm
    exact ⟨p, ws, rfl, .inr ⟨o, hw⟩, KR.of hk hr⟩
theorem at_inv {M : Mk} {H : Hp} {μ : DSt} {u v : V} {x y : SV} {f : Option SV → Prop} (W : Wd B.K M H μ) (rx : Rv B M H u x) (ry : Rv B M H v y) (h : atKey x y μ f) :
    ∃ a o z, u = .ref a ∧ DGet H a v o ∧ f z ∧ ((o = none ∧ z = none) ∨ ∃ v' x', o = some v' ∧ z = some x' ∧ Rv B M H v' x') := by
  unfold atKey at h
  split at h
  · rename_i kvs kk
    obtain ⟨q, hq, h⟩ := h
    obtain ⟨p, ws, rfl, hp, r⟩ := rx.dct_inv
    obtain rfl := ry.key_inv hq
    rw [← lookK_mapv] at h
    refine ⟨p, valV ws q, _, rfl, .inl ⟨ws, q, (wo_sub M H).rd hp, rfl, rfl⟩, h, ?_⟩
    cases e : lookK (kvs.map fun p => (p.1, SV.d p.2)) q with
    | none => exact .inl ⟨r.none e, rfl⟩
    | some x' =>
      obtain ⟨v', h1, h2⟩ := r.some e
      exact .inr ⟨v', x', h1, rfl, h2⟩
  · rename_i kvs ds
    obtain ⟨q, hq, h⟩ := h
    obtain ⟨p, ws, rfl, hp, r⟩ := rx.dcT_inv
    obtain ⟨b, rfl, hb⟩ := ry.tkey_inv hq
    rw [← lookK_mapv] at h
    refine ⟨p, valV ws q, _, rfl, .inr ⟨ws, q, b, (wo_sub M H).rd hp, rfl, hb, rfl⟩, h, ?_⟩
    cases e : lookK (kvs.map fun p => (p.1, SV.d p.2)) q with
    | none => exact .inl ⟨r.none e, rfl⟩
    | some x' =>
      obtain ⟨v', h1, h2⟩ := r.some e
      exact .inr ⟨v', x', h1, rfl, h2⟩
  · obtain ⟨kvs, q, hm, hq, h⟩ := h
    obtain ⟨p, ws, rfl, hw, r⟩ := rx.mdT_inv W hm
    obtain ⟨b, rfl, hb⟩ := ry.tkey_inv hq
    refine ⟨p, valV ws q, _, rfl, .inr ⟨ws, q, b, hw, rfl, hb, rfl⟩, h, ?_⟩
    cases e : lookK kvs q with
    | none => exact .inl ⟨r.none e, rfl⟩
    | some x' =>
      obtain ⟨v', h1, h2⟩ := r.some e
      exact .inr ⟨v', x', h1, rfl, h2⟩
  · obtain ⟨kvs, q, hm, hq, h⟩ := h
    obtain ⟨p, ws, rfl, hw, r⟩ := rx.md_inv W hm
    obtain rfl := ry.key_inv hq
    refine ⟨p, valV ws q, _, rfl, .inl ⟨ws, q, hw, rfl, rfl⟩, h, ?_⟩
    cases e : lookK kvs q with
    | none => exact .inl ⟨r.none e, rfl⟩
    | some x' =>
      obtain ⟨v', h1, h2⟩ := r.some e
      exact .inr ⟨v', x', h1, rfl, h2⟩
  · exact h.elim
/-- d[k], there -/
def someK (Φ : DK) (μ : DSt) : Option SV → Prop
  | some z => Φ z μ
  | none => False
def dDGet (td ty : DTE) : DTE := fun ε μ Φ => td ε μ fun x μ1 => ty ε μ1 fun y μ2 => atKey x y μ2 (someK Φ μ2)
theorem de_dget (hu : X.A.units + 1 < cLine) (hd : DE X B o ud td) (hi : DE X B i ui ti) (hs : NoSl i := by exact fun _ _ => rfl) : DE X B (.Subscript o i pos) (tDGet ud ui) (dDGet td ti) := ⟨pe_dget hu hd.p hi.p hs, fun bb M σ H ε μ Φ Q a k q =>
  hd.s bb M σ H ε μ _ _ a (fun u M1 H1 x μ1 l1 w1 r1 q1 => hi.s bb M1 σ H1 ε μ1 _ _ (a.next l1 w1) (fun v M2 H2 y μ2 l2 w2 r2 q2 => by
    obtain ⟨p, ov, z, e1, g, hz, hc⟩ := at_inv w2 (l2.srep r1) r2 q2
    rcases hc with ⟨_, rfl⟩ | ⟨v', x', rfl, rfl, r3⟩
    · exact hz.elim
    · exact ⟨p, v', e1, g, k v' M2 H2 x' μ2 (l1.trans l2) w2 r3 hz⟩) q1) q⟩
/-- k in d -/
def dDIn (neg : Bool) (ty td : DTE) : DTE := fun ε μ Φ => ty ε μ fun y μ1 => td ε μ1 fun x μ2 => atKey x y μ2 fun o => Φ (.d (.bl (if neg then !o.isSome else o.isSome))) μ2
theorem sim_din (hi : SimE B ui ti) (hd : SimE B ud td) : SimE B (tDIn ui ud) (dDIn false ti td) := fun bb M σ H ε μ Φ Q a k q =>
  hi bb M σ H ε μ _ _ a (fun v M1 H1 y μ1 l1 w1 r1 q1 => hd bb M1 σ H1 ε μ1 _ _ (a.next l1 w1) (fun u M2 H2 x μ2 l2 w2 r2 q2 => by
    obtain ⟨p, ov, z, e1, g, hz, hc⟩ := at_inv w2 r2 (l2.srep r1) q2
    have e : z.isSome = ov.isSome := by
      rcases hc with ⟨rfl, rfl⟩ | ⟨v', x', rfl, rfl, r3⟩ <;> rfl
    have hz : Φ (.d (.bl z.isSome)) μ2 := hz
    rw [e] at hz
    exact ⟨p, ov, e1, g, k _ M2 H2 _ μ2 (l1.trans l2) w2 (.d (.bl _)) hz⟩) q1) q
theorem sim_dnotin (hi : SimE B ui ti) (hd : SimE B ud td) : SimE B (tDNotIn ui ud) (dDIn true ti td) := fun bb M σ H ε μ Φ Q a k q =>
  hi bb M σ H ε μ _ _ a (fun v M1 H1 y μ1 l1 w1 r1 q1 => hd bb M1 σ H1 ε μ1 _ _ (a.next l1 w1) (fun u M2 H2 x μ2 l2 w2 r2 q2 => by
    obtain ⟨p, ov, z, e1, g, hz, hc⟩ := at_inv w2 r2 (l2.srep r1) q2
    have e : z.isSome = ov.isSome := by
      rcases hc with ⟨rfl, rfl⟩ | ⟨v', x', rfl, rfl, r3⟩ <;> rfl
    have hz : Φ (.d (.bl (!z.isSome))) μ2 := hz
    rw [e] at hz
    exact ⟨p, ov, e1, g, k _ M2 H2 _ μ2 (l1.trans l2) w2 (.d (.bl _)) hz⟩) q1) q
/-- d[k] = v -/
def putK' (Φ : DEnds) (ε : DEnv) (z x y : SV) (μ : DSt) : Prop := match x, y with
  | .m n, .d (.tup ds) => ∃ kvs q, μ[n]? = some (.dcT kvs) ∧ keysD ds = some q ∧ kvs.length < sizeLine ∧ Φ.nx ε (μ.set n (.dcT (setK kvs q z)))
  | .m n, .d k => ∃ kvs q, μ[n]? = some (.dct kvs) ∧ keyD k = some q ∧ kvs.length < sizeLine ∧ Φ.nx ε (μ.set n (.dct (setK kvs q z)))
  | _, _ => False
def dDPut (td ty tv : DTE) : DTS := fun Φ ε μ => tv ε μ fun z μ1 => td ε μ1 fun x μ2 => ty ε μ2 fun y μ3 => putK' Φ ε z x y μ3
theorem ds_dput (hu : X.A.units + 1 < cLine) (hd : DE X B o ud td) (hi : DE X B i ui ti) (hv : DE X B value uv tv) (hs : swapsWith value (some (.Subscript o i pos')) pos.line X.env = pure false := by rfl) :
    DS X B (.Assign [.Subscript o i pos'] value pos) (sDPut ud ui uv) (dDPut td ti tv) := ⟨ps_dput hu hd.p hi.p hv.p hs, fun bb M σ H ε μ Φ D a E q =>
  hv.s bb M σ H ε μ _ _ a (fun v M1 H1 z μ1 l1 w1 r1 q1 => hd.s bb M1 σ H1 ε μ1 _ _ (a.next l1 w1) (fun u M2 H2 x μ2 l2 w2 r2 q2 => hi.s bb M2 σ H2 ε μ2 _ _ ((a.next l1 w1).next l2 w2) (fun t M3 H3 y μ3 l3 w3 r3 q3 => by
    unfold putK' at q3
    split at q3
    · obtain ⟨kvs, q, hm, hq, hz, q3⟩ := q3
      obtain ⟨p, rfl, hp, ws, hw, hk, hr⟩ := Rv.m_inv w3 (l3.srep r2) hm
      obtain ⟨b, rfl, hb⟩ := Rv.tkey_inv r3 hq
      have r := KR.of hk hr
      have rp := r.put (k := q) ((l2.trans l3).srep r1)
      refine ⟨p, _, rfl, .t hw hb (by rw [r.length]; exact hz), E.nx M3 σ _ ε _ ?_ q3⟩
      have a3 := ((a.next l1 w1).next l2 w2).next l3 w3
      exact a3.next (le_set w3 (mem_of_get hp)) (wd_set (o := .dT (putK ws q v)) (mo := .dcT (setK kvs q z)) w3 hp ⟨_, upd_same, rp.keys, rp.vals⟩)
    · obtain ⟨kvs, q, hm, hq, hz, q3⟩ := q3
      obtain ⟨p, rfl, hp, ws, hw, hk, hr⟩ := Rv.m_inv w3 (l3.srep r2) hm
      obtain rfl := Rv.key_inv r3 hq
      have r := KR.of hk hr
      have rp := r.put (k := q) ((l2.trans l3).srep r1)
      refine ⟨p, _, rfl, .k hw (by rw [r.length]; exact hz), E.nx M3 σ _ ε _ ?_ q3⟩
      have a3 := ((a.next l1 w1).next l2 w2).next l3 w3
      exact a3.next (le_set w3 (mem_of_get hp)) (wd_set (o := .dK (putK ws q v)) (mo := .dct (setK kvs q z)) w3 hp ⟨_, upd_same, rp.keys, rp.vals⟩)
    · exact q3.elim) q2) q1) q⟩
/-- d.get(k, e) -/
def getOr (Φ : DK) (w : SV) (μ : DSt) (o : Option SV) : Prop := Φ (o.getD w) μ
def isDict (x : SV) (μ : DSt) : Prop := match x with
  | .d (.dct _) => True
  | .d (.dcT _) => True
  | .m n => (∃ kvs, μ[n]? = some (.dct kvs) ∨ ∃ o ws, μ[n]? = some (.ldc o ws kvs)) ∨ ∃ kvs, μ[n]? = some (.dcT kvs) ∨ ∃ o ws, μ[n]? = some (.ldcT o ws kvs)
  | _ => False
def dDGet2 (td ty tx : DTE) : DTE := fun ε μ Φ => td ε μ fun x μ1 => isDict x μ1 ∧ ty ε μ1 fun y μ2 => tx ε μ2 fun w μ3 => atKey x y μ3 (getOr Φ w μ3)
theorem isD_inv {M : Mk} {H : Hp} {μ : DSt} {u : V} {x : SV} (W : Wd B.K M H μ) (r : Rv B M H u x) (h : isDict x μ) : ∃ a, u = .ref a ∧ IsD H a := by
  unfold isDict at h
  split at h
  · obtain ⟨p, ws, rfl, hp, _⟩ := r.dct_inv
    exact ⟨p, rfl, .inl ⟨ws, (wo_sub M H).rd hp⟩⟩
  · obtain ⟨p, ws, rfl, hp, _⟩ := r.dcT_inv
    exact ⟨p, rfl, .inr ⟨ws, (wo_sub M H).rd hp⟩⟩
  · rcases h with ⟨kvs, hm⟩ | ⟨kvs, hm⟩
    · obtain ⟨p, ws, rfl, hw, _⟩ := r.md_inv W hm
      exact ⟨p, rfl, .inl ⟨ws, hw⟩⟩
    · obtain ⟨p, ws, rfl, hw, _⟩ := r.mdT_inv W hm
      exact ⟨p, rfl, .inr ⟨ws, hw⟩⟩
  · exact h.elim
theorem sim_dget2 (hd : SimE B ud td) (hi : SimE B ui ti) (he : SimE B ue te) : SimE B (tDGet2 ud ui ue) (dDGet2 td ti te) := fun bb M σ H ε μ Φ Q a k q =>
  hd bb M σ H ε μ _ _ a (fun u M1 H1 x μ1 l1 w1 r1 q1 => by
    obtain ⟨p0, e0, d0⟩ := isD_inv w1 r1 q1.1
    refine ⟨p0, e0, d0, hi bb M1 σ H1 ε μ1 _ _ (a.next l1 w1) (fun v M2 H2 y μ2 l2 w2 r2 q2 => he bb M2 σ H2 ε μ2 _ _ ((a.next l1 w1).next l2 w2) (fun t M3 H3 w μ3 l3 w3 r3 q3 => ?_) q2) q1.2⟩
    obtain ⟨p, ov, z, e1, g, hz, hc⟩ := at_inv w3 ((l2.trans l3).srep r1) (l3.srep r2) q3
    rw [e0] at e1
    cases e1
    refine ⟨ov, g, k _ M3 H3 (z.getD w) μ3 ((l1.trans l2).trans l3) w3 ?_ hz⟩
    rcases hc with ⟨rfl, rfl⟩ | ⟨v', x', rfl, rfl, r4⟩
    · exact r3
    · exact r4) q
/-! a walk over a dict: it is locked -/
def dLock (i : Nat) (t : DTS) : DTS := fun Φ ε μ => ∃ n kvs, ε[i]? = some (some (.m n)) ∧ μ[n]? = some (.dct kvs) ∧ ∀ (od : Obj) (ws : List (Key × V)),
  t { nx := fun ε' μ' => μ'[n]? = some (.ldc od ws kvs) ∧ Φ.nx ε' (μ'.set n (.dct kvs)), rt := fun x μ' => μ'[n]? = some (.ldc od ws kvs) ∧ Φ.rt x (μ'.set n (.dct kvs)),
      bk := fun ε' μ' => μ'[n]? = some (.ldc od ws kvs) ∧ Φ.bk ε' (μ'.set n (.dct kvs)), ct := fun ε' μ' => μ'[n]? = some (.ldc od ws kvs) ∧ Φ.ct ε' (μ'.set n (.dct kvs)), fl := μ.length } ε (μ.set n (.ldc od ws kvs))
theorem ds_lock {i : Nat} {st : Stmt} {u : TS} {t : DTS} (h : DS X B st u t) : DS X B st (tLock u) (dLock i t) := ⟨ps_lock h.p, fun bb M σ H ε μ Φ D a E q => by
  obtain ⟨n, kvs, he, hm, q⟩ := q
  obtain ⟨v, hv, rv⟩ := a.env.at_ i _ he
  obtain ⟨p, rfl, hp, ws, hw, hk, hr⟩ := Rv.m_inv a.wd rv hm
  refine ⟨p, .dK ws, hw, trivial, fun od => ?_⟩
  have lk : Le M H M (upd H p (.frz od (.dK ws))) := le_set a.wd (mem_of_get hp)
  have wk : Wd B.K M (upd H p (.frz od (.dK ws))) (μ.set n (.ldc od ws kvs)) := wd_set (mo := .ldc od ws kvs) a.wd hp ⟨upd_same, hk, hr⟩
  have a1 := a.next lk wk
  let b1 := bb.move (a.le.trans lk)
  have a2 : At b1 M σ (upd H p (.frz od (.dK ws))) ε (μ.set n (.ldc od ws kvs)) := ⟨Le.refl _ _, wk, a1.env⟩
  have un : ∀ {M' : Mk} {H' : Hp} {μ' : DSt}, Le M (upd H p (.frz od (.dK ws))) M' H' → Wd B.K M' H' μ' → μ'[n]? = some (.ldc od ws kvs) → H' p = some (.frz od (.dK ws)) ∧ Le M' H' M' (upd H' p (.dK ws)) ∧ Wd B.K M' (upd H' p (.dK ws)) (μ'.set n (.dct kvs)) := fun l w hm2 => by
    have hp2 := l.ids n p hp
    obtain ⟨mo, h1, r⟩ := w.ob n p hp2
    rw [hm2] at h1
    cases h1
    obtain ⟨e1, e2, e3⟩ := r
    exact ⟨e1, le_set w (mem_of_get hp2), wd_set (mo := .dct kvs) w hp2 ⟨ws, upd_same, e2, e3⟩⟩
  have l0 := a.le.trans lk
  refine h.s b1 M σ _ ε _ _ _ a2 ⟨fun M' σ' H' ε' μ' z q2 => ?_, fun v M' H' x μ' l w r q2 => ?_, fun M' σ' H' ε' μ' z q2 => ?_, fun M' σ' H' ε' μ' z q2 => ?_, ?_⟩ (q od ws)
  · obtain ⟨e1, l2, w2⟩ := un z.le z.wd q2.1
    exact ⟨e1, E.nx M' σ' _ ε' _ (At.next ⟨l0.trans z.le, z.wd, z.env⟩ l2 w2) q2.2⟩
  · obtain ⟨e1, l2, w2⟩ := un l w q2.1
    exact ⟨e1, E.rt v M' _ x _ ((l0.trans l).trans l2) w2 (l2.srep r) q2.2⟩
  · obtain ⟨e1, l2, w2⟩ := un z.le z.wd q2.1
    exact ⟨e1, E.bk M' σ' _ ε' _ (At.next ⟨l0.trans z.le, z.wd, z.env⟩ l2 w2) q2.2⟩
  · obtain ⟨e1, l2, w2⟩ := un z.le z.wd q2.1
    exact ⟨e1, E.ct M' σ' _ ε' _ (At.next ⟨l0.trans z.le, z.wd, z.env⟩ l2 w2) q2.2⟩
  · show M.ids.length ≤ μ.length
    exact Nat.le_of_eq a.wd.len⟩
def kD : Key → D
  | .inl i => .int i
  | .inr x => .str x
theorem kD_rep {K : PySem.W.Frag} {G : Hp} : ∀ k : Key, Rep K G (kV k) (kD k)
  | .inl i => .int i
  | .inr x => .str x
def diKeys (t : DTE) : DTI := fun ε μ Φ => t ε μ fun x μ1 => match x with
  | .m n => ∃ od ws kvs, μ1[n]? = some (.ldc od ws kvs) ∧ Φ (kvs.map fun p => SV.d (kD p.1)) (fun μ => μ[n]? = some (.ldc od ws kvs)) μ1
  | _ => False
theorem walkd_keys {p : Addr} {n : Nat} {od : Obj} {ws : List (Key × V)} {kvs : List (Key × SV)} {M1 : Mk} {H1 : Hp} (hp : M1.ids[n]? = some (some p)) (hk : ws.map Prod.fst = kvs.map Prod.fst) :
    WalkD B (Itk p od ws) (kvs.map fun p => SV.d (kD p.1)) (fun μ => μ[n]? = some (.ldc od ws kvs)) M1 H1 := by
  have hl : ws.length = kvs.length := by
    have := congrArg List.length hk
    simpa using this
  have key : ∀ {M H μ}, Ids M1 M → Wd B.K M H μ → μ[n]? = some (.ldc od ws kvs) → H p = some (.frz od (.dK ws)) := fun j w g => by
    obtain ⟨mo, h1, r⟩ := w.ob n p (j n p hp)
    rw [g] at h1
    cases h1
    exact r.1
  refine ⟨fun M H μ i s w g h => ?_, fun M H μ s w g => ?_, fun M H μ i v H' s w g h y => ?_⟩
  · rw [List.length_map] at h
    exact ⟨key s.ids w g, by rw [hl]; exact h⟩
  · rw [List.length_map]
    exact ⟨key s.ids w g, Nat.le_of_eq hl⟩
  · obtain ⟨rfl, k, z, hz, rfl⟩ := y
    have e : (kvs.map Prod.fst)[i]? = some k := by
      rw [← hk, List.getElem?_map, hz]
      rfl
    rw [List.getElem?_map] at e
    obtain ⟨pr, hpr, e⟩ := Option.map_eq_some_iff.mp e
    subst e
    exact ⟨_, by rw [List.getElem?_map, hpr]; rfl, Le.refl _ _, w, .d (kD_rep _)⟩
theorem di_keys {tg : Expr} (h : DE X B e ue te) : DI X B tg e (iKeys ue) (diKeys te) := ⟨pi_keys h.p, fun bb M σ H ε μ Φ R a k q => h.s bb M σ H ε μ _ _ a (fun v M1 H1 x μ1 l1 w1 r1 q1 => by
  split at q1
  · obtain ⟨od, ws, kvs, hm, q1⟩ := q1
    obtain ⟨p, rfl, hp, hw, hk, hr⟩ := r1.m_inv w1 hm
    exact ⟨p, od, rfl, .inl ⟨ws, hw, k _ M1 H1 _ _ μ1 l1 w1 (walkd_keys hp hk) q1⟩⟩
  · exact q1.elim) q⟩
end
end DV

set_option Elab.async false
set_option linter.all false
set_option maxRecDepth 100000
namespace DV
open PySem PySem.Spec PyProof.Rows L2
/-! ### objects: fields, methods, making -/
def putG {α : Type} (f : Str) (v : α) : List (Str × α) → List (Str × α)
  | [] => [(f, v)]
  | (g, x) :: r => if g = f then (g, v) :: r else (g, x) :: putG f v r
section
variable {K : PySem.W.Frag} {M : Mk} {G : Hp}
theorem KR.lookup {f : Str} {x : SV} : ∀ {ws : List (Str × V)} {kvs : List (Str × SV)}, KR K M G ws kvs → kvs.lookup f = Option.some x → ∃ v, ws.lookup f = Option.some v ∧ SRep K M G v x
  | _, _, .nil, h => by cases h
  | _, _, .cons (k := k) r t, h => by
    rw [List.lookup_cons] at h ⊢
    cases e : f == k with
    | true =>
      rw [e] at h
      cases h
      exact ⟨_, rfl, r⟩
    | false =>
      rw [e] at h
      exact KR.lookup t h
theorem KR.lookup_none {f : Str} : ∀ {ws : List (Str × V)} {kvs : List (Str × SV)}, KR K M G ws kvs → kvs.lookup f = Option.none → ws.lookup f = Option.none
  | _, _, .nil, h => rfl
  | _, _, .cons (k := k) r t, h => by
    rw [List.lookup_cons] at h ⊢
    cases e : f == k with
    | true =>
      rw [e] at h
      cases h
    | false =>
      rw [e] at h
      exact KR.lookup_none t h
theorem KR.putF {f : Str} {v : V} {x : SV} (rv : SRep K M G v x) : ∀ {ws : List (Str × V)} {kvs : List (Str × SV)}, KR K M G ws kvs → KR K M G (L2.putF f v ws) (putG f x kvs)
  | _, _, .nil => .cons rv .nil
  | _, _, .cons (k := k) (v := v0) (x := x0) (ws := ws) (kvs := kvs) r t => by
    show KR K M G (if k = f then (k, v) :: ws else (k, v0) :: L2.putF f v ws) (if k = f then (k, x) :: kvs else (k, x0) :: putG f x kvs)
    by_cases e : k = f
    · rw [if_pos e, if_pos e]
      exact .cons rv t
    · rw [if_neg e, if_neg e]
      exact .cons r (KR.putF rv t)
theorem lookup_mapv (f : Str) : ∀ kvs : List (Str × D), (kvs.map fun p => (p.1, SV.d p.2)).lookup f = (kvs.lookup f).map SV.d
  | [] => rfl
  | (k, d) :: r => by
    rw [List.map_cons, List.lookup_cons, List.lookup_cons]
    cases f == k with
    | true => rfl
    | false => exact lookup_mapv f r
end
section
variable {X : Cx} {B : Bs} {o value e : Expr} {es : List Expr} {pos pos' : Pos} {td tv te : DTE} {tl : DTA} {ud uv ue : TE} {ul : TA}
theorem Rv.obj_inv {M : Mk} {H : Hp} {v : V} {C : Addr} {fs : List (Str × D)} (h : Rv B M H v (.d (.obj C fs))) : ∃ p dx ws, v = .ref p ∧ H p = some (.ins C dx ws) ∧ KR B.K M (wo M H) ws (fs.map fun p => (p.1, SV.d p.2)) := by
  cases h with
  | d h => cases h with
    | obj h1 h2 h3 => exact ⟨_, _, _, rfl, (wo_sub M H).ex h1 rfl, KR.of (by rw [map_fst_d]; exact h2) (by rw [map_snd_d]; exact SReps.of h3)⟩
theorem Rv.mobj_inv {M : Mk} {H : Hp} {μ : DSt} {v : V} {n : Nat} {C : Addr} {fs : List (Str × SV)} (W : Wd B.K M H μ) (r : Rv B M H v (.m n)) (h : μ[n]? = some (.obj C fs)) :
    ∃ p dx ws, v = .ref p ∧ M.ids[n]? = some (some p) ∧ H p = some (.ins C dx ws) ∧ KR B.K M (wo M H) ws fs := by
  obtain ⟨p, rfl, hp, dx, ws, hw, hk, hr⟩ := r.m_inv W h
  exact ⟨p, dx, ws, rfl, hp, hw, KR.of hk hr⟩
/-- what stands in the field f -/
def atFld (K : PySem.W.Frag) (f : Str) (x : SV) (μ : DSt) (k : SV → Prop) : Prop := match x with
  | .d (.obj C fs) => ∃ z, Cls K C ∧ NoAttr K C f ∧ fs.lookup f = some z ∧ k (.d z)
  | .m n => ∃ C fs z, μ[n]? = some (.obj C fs) ∧ Cls K C ∧ NoAttr K C f ∧ fs.lookup f = some z ∧ k z
  | _ => False
def dFld (K : PySem.W.Frag) (f : Str) (t : DTE) : DTE := fun ε μ Φ => t ε μ fun x μ1 => atFld K f x μ1 fun z => Φ z μ1
theorem de_fld {f : Str} (h : DE X B o ud td) (hK : B.K = X.K := by rfl) (hb : attributeBase o f X.env (eval o X.env) = eval o X.env := by rfl) : DE X B (.Attribute o f pos) (tFld B.K ud f) (dFld B.K f td) := by
  obtain ⟨Kb, Eb, Ψb⟩ := B
  have hK : Kb = X.K := hK
  subst hK
  refine ⟨pe_fld h.p hb, fun bb M σ H ε μ Φ Q a k q => h.s bb M σ H ε μ _ _ a (fun v M1 H1 x μ1 l1 w1 r1 q1 => ?_) q⟩
  unfold atFld at q1
  split at q1
  · obtain ⟨z, c, na, hl, q1⟩ := q1
    obtain ⟨p, dx, ws, rfl, hp, r⟩ := r1.obj_inv
    obtain ⟨v', h1, h2⟩ := r.lookup (f := f) (x := .d z) (by rw [lookup_mapv, hl]; rfl)
    exact ⟨p, _, dx, ws, v', rfl, hp, c, na, h1, k v' M1 H1 _ μ1 l1 w1 h2 q1⟩
  · obtain ⟨C, fs, z, hm, c, na, hl, q1⟩ := q1
    obtain ⟨p, dx, ws, rfl, hpi, hp, r⟩ := r1.mobj_inv w1 hm
    obtain ⟨v', h1, h2⟩ := r.lookup hl
    exact ⟨p, _, dx, ws, v', rfl, hp, c, na, h1, k v' M1 H1 _ μ1 l1 w1 h2 q1⟩
  · exact q1.elim
/-- o.f = v -/
def putFld (K : PySem.W.Frag) (f : Str) (Φ : DEnds) (ε : DEnv) (z x : SV) (μ : DSt) : Prop := match x with
  | .m n => ∃ C fs, μ[n]? = some (.obj C fs) ∧ Cls K C ∧ NoAttr K C f ∧ fs.length < 1000 ∧ Φ.nx ε (μ.set n (.obj C (putG f z fs)))
  | _ => False
def dSFld (K : PySem.W.Frag) (f : Str) (td tv : DTE) : DTS := fun Φ ε μ => tv ε μ fun z μ1 => td ε μ1 fun x μ2 => putFld K f Φ ε z x μ2
theorem ds_fld {f : Str} (hd : DE X B o ud td) (hv : DE X B value uv tv) (hK : B.K = X.K := by rfl) (hs : swapsWith value (some (.Attribute o f pos')) pos.line X.env = pure false := by rfl) :
    DS X B (.Assign [.Attribute o f pos'] value pos) (sFld B.K ud uv f) (dSFld B.K f td tv) := by
  obtain ⟨Kb, Eb, Ψb⟩ := B
  have hK : Kb = X.K := hK
  subst hK
  refine ⟨ps_fld hd.p hv.p hs, fun bb M σ H ε μ Φ D a E q => hv.s bb M σ H ε μ _ _ a (fun v M1 H1 z μ1 l1 w1 r1 q1 => hd.s bb M1 σ H1 ε μ1 _ _ (a.next l1 w1) (fun u M2 H2 x μ2 l2 w2 r2 q2 => ?_) q1) q⟩
  unfold putFld at q2
  split at q2
  · obtain ⟨C, fs, hm, c, na, hz, q2⟩ := q2
    obtain ⟨p, dx, ws, rfl, hpi, hp, r⟩ := r2.mobj_inv w2 hm
    have rp := r.putF (f := f) (l2.srep r1)
    refine ⟨p, C, dx, ws, rfl, hp, c, na, by rw [r.length]; exact hz, E.nx M2 σ _ ε _ ?_ q2⟩
    exact ((a.next l1 w1).next l2 w2).next (le_set w2 (mem_of_get hpi)) (wd_set (o := .ins C dx (L2.putF f v ws)) (mo := .obj C (putG f z fs)) w2 hpi ⟨dx, _, upd_same, rp.keys, rp.vals⟩)
  · exact q2.elim
/-! a method that may be called -/
structure CalleeM (P : Program) (w : World) (K : PySem.W.Frag) (mg : Str → Option Value) (base : Heap) (C : Addr) (m : Str) (lvl : Nat) (dv : List V) (dd : List D) (d : DSp) : Prop where
  ex : ∃ f fd ps ds, FnOk P w K mg base CX0 lvl f fd ps (toSp K d) ∧ Cls K C ∧ Meth K C m f ∧ Binds K fd ps ds ∧ Vals dv ds ∧ ∀ G, Reps K G dv dd
def isObj (C : Addr) (m : Str) (x : SV) (μ : DSt) : Prop := match x with
  | .d (.obj C' fs) => C' = C ∧ fs.lookup m = none
  | .m n => ∃ fs, μ[n]? = some (.obj C fs) ∧ fs.lookup m = none
  | _ => False
def dMeth (C : Addr) (m : Str) (d : DSp) (dd : List D) (Ψ : DX) (to_ : DTE) (t : DTA) : DTE := fun ε μ Φ => to_ ε μ fun x μ1 => isObj C m x μ1 ∧ t ε μ1 fun xs μ2 => d (x :: (xs ++ dd.map SV.d)) μ2 Φ Ψ
theorem isObj_inv {M : Mk} {H : Hp} {μ : DSt} {v : V} {x : SV} {C : Addr} {m : Str} (W : Wd B.K M H μ) (r : Rv B M H v x) (h : isObj C m x μ) : ∃ p dx ws, v = .ref p ∧ H p = some (.ins C dx ws) ∧ ws.lookup m = none := by
  unfold isObj at h
  split at h
  · obtain ⟨rfl, h⟩ := h
    obtain ⟨p, dx, ws, rfl, hp, r⟩ := r.obj_inv
    exact ⟨p, dx, ws, rfl, hp, r.lookup_none (by rw [lookup_mapv, h]; rfl)⟩
  · obtain ⟨fs, hm, h⟩ := h
    obtain ⟨p, dx, ws, rfl, _, hp, r⟩ := r.mobj_inv W hm
    exact ⟨p, dx, ws, rfl, hp, r.lookup_none h⟩
  · exact h.elim
theorem sim_meth {C : Addr} {m : Str} {d : DSp} {dv : List V} {dd : List D} (ho : SimE B ud td) (h : SimA B ul tl) (hd : ∀ G, Reps B.K G dv dd) : SimE B (tMeth C m (toSp B.K d) dv B.E ud ul) (dMeth C m d dd B.Ψ td tl) := fun bb M σ H ε μ Φ Q a k q =>
  ho bb M σ H ε μ _ _ a (fun v M1 H1 x μ1 l1 w1 r1 q1 => by
    obtain ⟨p, dx, ws, e, hp, hl⟩ := isObj_inv w1 r1 q1.1
    refine ⟨p, dx, ws, e, hp, hl, h bb M1 σ H1 ε μ1 _ _ (a.next l1 w1) (fun vs M2 H2 xs μ2 l2 w2 r2 q2 => ?_) q1.2⟩
    exact ⟨M2, μ2, x :: (xs ++ dd.map SV.d), Φ, B.Ψ, w2, .cons (l2.srep r1) (r2.append (SReps.of (hd _))), fun v M3 H3 y μ3 l3 => k v M3 H3 y μ3 ((l1.trans l2).trans l3), fun cls dp M3 H3 fs μ3 l3 => bb.hE cls dp M3 H3 fs μ3 ((a.le.trans (l1.trans l2)).trans l3), q2⟩) q
theorem de_meth {C : Addr} {m : Str} {apos : Pos} {lvl : Nat} {dv : List V} {dd : List D} {d : DSp} {pl : Sem Bool} (hC : CalleeM X.prog X.w X.K X.mg X.base C m lvl dv dd d) (hr : Room lvl X.A) (ho : DE X B o ud td) (ha : DA X B (e :: es) ul tl)
    (hK : B.K = X.K := by rfl) (hst : starEach (e :: es) X.env = (false, eval e X.env) :: starEach es X.env := by rfl) (hpl : (backTo pos (starEach es X.env)).any (·.1) = false := by rfl)
    (ht : eval (.Call (.Attribute o m apos) (e :: es) [] pos) X.env = (do
      let ov ← eval o X.env
      standAt apos.atName
      let (f, first) ← holding [ov] (getMethod ov m pl)
      callWith pos f first (backTo pos (starEach (e :: es) X.env)) (backToKw pos (keywordEach [] X.env))) := by rfl) :
    DE X B (.Call (.Attribute o m apos) (e :: es) [] pos) (tMeth C m (toSp B.K d) dv B.E ud ul) (dMeth C m d dd B.Ψ td tl) := by
  obtain ⟨Kb, Eb, Ψb⟩ := B
  have hK : Kb = X.K := hK
  subst hK
  obtain ⟨f, fd, ps, ds, F, c, hm, hb, hv, hd⟩ := hC.ex
  exact ⟨pe_meth (pl := pl) ho.p c hm F hr hb hv passes0 ha.p hst hpl ht, sim_meth ho.s ha.s hd⟩
theorem de_meth0 {C : Addr} {m : Str} {apos : Pos} {lvl : Nat} {dv : List V} {dd : List D} {d : DSp} {pl : Sem Bool} (hC : CalleeM X.prog X.w X.K X.mg X.base C m lvl dv dd d) (hr : Room lvl X.A) (ho : DE X B o ud td)
    (hK : B.K = X.K := by rfl)
    (ht : eval (.Call (.Attribute o m apos) [] [] pos) X.env = (do
      let ov ← eval o X.env
      standAt apos.atName
      let (f, first) ← holding [ov] (getMethod ov m pl)
      callWith pos f first (backTo pos (starEach [] X.env)) (backToKw pos (keywordEach [] X.env))) := by rfl) :
    DE X B (.Call (.Attribute o m apos) [] [] pos) (tMeth C m (toSp B.K d) dv B.E ud tNil) (dMeth C m d dd B.Ψ td dNil) := by
  obtain ⟨Kb, Eb, Ψb⟩ := B
  have hK : Kb = X.K := hK
  subst hK
  obtain ⟨f, fd, ps, ds, F, c, hm, hb, hv, hd⟩ := hC.ex
  exact ⟨pe_meth0 (pl := pl) ho.p c hm F hr hb hv passes0 ht, sim_meth ho.s (fun bb M σ H ε μ Φ Q a k h => k [] M H [] μ (Le.refl M H) a.wd .nil h) hd⟩
/-! C(..) -/
structure CalleeI (P : Program) (w : World) (K : PySem.W.Frag) (mg : Str → Option Value) (base : Heap) (x : Str) (C : Addr) (lvl : Nat) (dv : List V) (dd : List D) (d : DSp) : Prop where
  ex : ∃ f fd ps ds, FnOk P w K mg base CX0 lvl f fd ps (toSp K d) ∧ mg x = some (.ref C) ∧ L2.Mk K C f ∧ Binds K fd ps ds ∧ Vals dv ds ∧ ∀ G, Reps K G dv dd
def dMake (C : Addr) (d : DSp) (dd : List D) (Ψ : DX) (t : DTA) : DTE := fun ε μ Φ => t ε μ fun xs μ1 => d (.m μ1.length :: (xs ++ dd.map SV.d)) (μ1 ++ [.obj C []]) (fun y μ2 => y = .d .non ∧ Φ (.m μ1.length) μ2) Ψ
theorem sim_make {C : Addr} {d : DSp} {dv : List V} {dd : List D} (h : SimA B ul tl) (hd : ∀ G, Reps B.K G dv dd) : SimE B (tMake C (toSp B.K d) dv B.E ul) (dMake C d dd B.Ψ tl) := fun bb M σ H ε μ Φ Q a k q =>
  h bb M σ H ε μ _ _ a (fun vs M1 H1 xs μ1 l1 w1 r1 q1 x dx hx hdx hne => by
    have l2 := le_new (o := .own x) w1 hdx
    have w2 := wd_new (o := .own x) w1 hdx
    have hx2 : upd H1 dx (.own x) x = none := by rw [upd_ne (Ne.symm hne)]; exact hx
    have l3 := le_newm (o := .ins C dx []) w2 hx2
    have w3 : Wd B.K (M1.add x) (upd (upd H1 dx (.own x)) x (.ins C dx [])) (μ1 ++ [.obj C []]) := wd_newm (mo := .obj C []) w2 hx2 ⟨dx, [], upd_same, rfl, .nil⟩
    have l23 := l2.trans l3
    have hi : (M1.add x).ids[μ1.length]? = some (some x) := by rw [← w1.len]; exact at_newm
    refine ⟨M1.add x, μ1 ++ [.obj C []], .m μ1.length :: (xs ++ dd.map SV.d), fun y μ2 => y = .d .non ∧ Φ (.m μ1.length) μ2, B.Ψ, w3, .cons (.m hi) ((l23.sreps r1).append (SReps.of (hd _))), fun v M' H' y μ' l w r q2 => ?_, fun cls dp M3 H3 fs μ3 l => bb.hE cls dp M3 H3 fs μ3 ((a.le.trans (l1.trans l23)).trans l), q1⟩
    obtain ⟨rfl, q2⟩ := q2
    refine ⟨?_, k _ M' H' _ μ' ((l1.trans l23).trans l) w (.m (l.ids _ _ hi)) q2⟩
    cases r with
    | d r => cases r; rfl) q
theorem de_make {C : Addr} {x : Str} {p : Pos} {lvl : Nat} {dv : List V} {dd : List D} {d : DSp} (hC : CalleeI X.prog X.w X.K X.mg X.base x C lvl dv dd d) (hr : Room (lvl + 1) X.A) (hg : Gl X x) (ha : DA X B (e :: es) ul tl)
    (hK : B.K = X.K := by rfl) (hdb : (x == ("__debug__" : Str)) = false := by decide) (he : starEach (e :: es) X.env = (false, eval e X.env) :: starEach es X.env := by rfl) (hpl : (backTo pos (starEach es X.env)).any (·.1) = false := by rfl) :
    DE X B (.Call (.Name x p) (e :: es) [] pos) (tMake C (toSp B.K d) dv B.E ul) (dMake C d dd B.Ψ tl) := by
  obtain ⟨Kb, Eb, Ψb⟩ := B
  have hK : Kb = X.K := hK
  subst hK
  obtain ⟨f, fd, ps, ds, F, hm, mk, hb, hv, hd⟩ := hC.ex
  exact ⟨pe_make mk F hr hg hm hb hv passes0 ha.p hdb he hpl, sim_make ha.s hd⟩
theorem de_make0 {C : Addr} {x : Str} {p : Pos} {lvl : Nat} {dv : List V} {dd : List D} {d : DSp} (hC : CalleeI X.prog X.w X.K X.mg X.base x C lvl dv dd d) (hr : Room (lvl + 1) X.A) (hg : Gl X x)
    (hK : B.K = X.K := by rfl) (hdb : (x == ("__debug__" : Str)) = false := by decide) :
    DE X B (.Call (.Name x p) [] [] pos) (tMake C (toSp B.K d) dv B.E tNil) (dMake C d dd B.Ψ dNil) := by
  obtain ⟨Kb, Eb, Ψb⟩ := B
  have hK : Kb = X.K := hK
  subst hK
  obtain ⟨f, fd, ps, ds, F, hm, mk, hb, hv, hd⟩ := hC.ex
  exact ⟨pe_make0 mk F hr hg hm hb hv passes0 hdb, sim_make (fun bb M σ H ε μ Φ Q a k h => k [] M H [] μ (Le.refl M H) a.wd .nil h) hd⟩
/-! dicts by name -/
theorem de_din {i : Expr} {ti : DTE} {ui : TE} (hu : X.A.units + 1 < cLine) (hi : DE X B i ui ti) (hd : DE X B o ud td) (hm : behindInMarks .In o = false) : DE X B (.Compare i [.In] [o] pos) (tDIn ui ud) (dDIn false ti td) := ⟨pe_cmp (pc_din hu hi.p hd.p) hm, sim_din hi.s hd.s⟩
theorem de_dnotin {i : Expr} {ti : DTE} {ui : TE} (hu : X.A.units + 1 < cLine) (hi : DE X B i ui ti) (hd : DE X B o ud td) (hm : behindInMarks .NotIn o = false) : DE X B (.Compare i [.NotIn] [o] pos) (tDNotIn ui ud) (dDIn true ti td) := ⟨pe_cmp (pc_dnotin hu hi.p hd.p) hm, sim_dnotin hi.s hd.s⟩
theorem dt_din {i : Expr} {ti : DTE} {ui : TE} (hu : X.A.units + 1 < cLine) (hi : DE X B i ui ti) (hd : DE X B o ud td) (hm : behindInMarks .In o = false) : DT X B (.Compare i [.In] [o] pos) (tB (tDIn ui ud)) (dTest (dDIn false ti td)) := ⟨pt_cmp (pc_din hu hi.p hd.p) hm, sim_B (sim_din hi.s hd.s)⟩
theorem dt_dnotin {i : Expr} {ti : DTE} {ui : TE} (hu : X.A.units + 1 < cLine) (hi : DE X B i ui ti) (hd : DE X B o ud td) (hm : behindInMarks .NotIn o = false) : DT X B (.Compare i [.NotIn] [o] pos) (tB (tDNotIn ui ud)) (dTest (dDIn true ti td)) := ⟨pt_cmp (pc_dnotin hu hi.p hd.p) hm, sim_B (sim_dnotin hi.s hd.s)⟩
theorem de_get2 {i : Expr} {ti : DTE} {ui : TE} {apos cpos : Pos} (hu : X.A.units + 1 < cLine) (hd : DE X B o ud td) (hi : DE X B i ui ti) (he : DE X B e ue te)
    (h1 : attributeBase o "get" X.env (eval o X.env) = eval o X.env := by rfl)
    (h2 : ((backTo cpos (starEach [i, e] X.env)).all (fun x => !x.1) && (backToKw cpos (keywordEach [] X.env)).all (fun x => x.1.isSome)
      && decide (([i, e] : List Expr).length + ([] : List Keyword).length + (if ([] : List Keyword).isEmpty then 0 else 1) < 30)) = true := by rfl)
    (h3 : (apos.endLine == cpos.line) = true := by rfl) (h4 : backTo cpos (starEach [i, e] X.env) = [(false, eval i X.env), (false, eval e X.env)] := by rfl) :
    DE X B (.Call (.Attribute o "get" apos) [i, e] [] cpos) (tDGet2 ud ui ue) (dDGet2 td ti te) := ⟨pe_dget2 hu hd.p hi.p he.p ⟨h1, h2, h3, h4⟩, sim_dget2 hd.s hi.s he.s⟩
/-- dict(d): a new one, that may change -/
def dDictM : List SV → DSt → DK → Prop
  | [.d (.dct kvs)], μ, Φ => Φ (.m μ.length) (μ ++ [.dct (kvs.map fun p => (p.1, SV.d p.2))])
  | [.m n], μ, Φ => ∃ kvs, μ[n]? = some (.dct kvs) ∧ Φ (.m μ.length) (μ ++ [.dct kvs])
  | _, _, _ => False
theorem sim_dictM : SimC B (fun xs H Q => ∃ (a : Addr) (kvs : List (Key × V)), xs = [.ref a] ∧ Rd H a (.dK kvs) ∧ ∀ p, H p = none → Q (.ref p) (upd H p (.dK kvs))) dDictM := fun M H μ v x Φ Q W r k h => by
  unfold dDictM at h
  split at h
  · obtain ⟨u, rfl, r1⟩ := one_inv r
    obtain ⟨p, ws, rfl, hp, kr⟩ := r1.dct_inv
    refine ⟨p, ws, rfl, (wo_sub M H).rd hp, fun l hl => k _ (M.add l) _ _ _ (le_newm W hl) (wd_newm (mo := .dct _) W hl ⟨ws, upd_same, kr.keys, (kr.vals).mono ids_newm (wo_newm hl)⟩) (.m (by rw [← W.len]; exact at_newm)) h⟩
  · obtain ⟨u, rfl, r1⟩ := one_inv r
    obtain ⟨kvs, hm, h⟩ := h
    obtain ⟨p, rfl, hp, ws, hw, hk, hr⟩ := r1.m_inv W hm
    exact ⟨p, ws, rfl, .inl hw, fun l hl => k _ (M.add l) _ _ _ (le_newm W hl) (wd_newm (mo := .dct kvs) W hl ⟨ws, upd_same, hk, hr.mono ids_newm (wo_newm hl)⟩) (.m (by rw [← W.len]; exact at_newm)) h⟩
  · exact h.elim
end
/-! steps -/
section
variable {Φ : DEnds} {ε : DEnv} {μ : DSt} {k : DK} {td ti te tv : DTE}
theorem l_dget (h : td ε μ fun x μ1 => ti ε μ1 fun y μ2 => atKey x y μ2 (someK k μ2)) : dDGet td ti ε μ k := h
theorem l_dgetM {n : Nat} {kvs : List (Key × SV)} {d : D} {q : Key} {z : SV} (hm : μ[n]? = some (.dct kvs)) (hq : keyD d = some q) (hz : lookK kvs q = some z) (h : k z μ) : atKey (.m n) (.d d) μ (someK k μ) := by
  cases d
  case int => exact ⟨kvs, q, .inl hm, hq, by rw [hz]; exact h⟩
  case str => exact ⟨kvs, q, .inl hm, hq, by rw [hz]; exact h⟩
  all_goals cases hq
theorem l_dgetL {n : Nat} {od : Obj} {ws : List (Key × V)} {kvs : List (Key × SV)} {d : D} {q : Key} {z : SV} (hm : μ[n]? = some (.ldc od ws kvs)) (hq : keyD d = some q) (hz : lookK kvs q = some z) (h : k z μ) : atKey (.m n) (.d d) μ (someK k μ) := by
  cases d
  case int => exact ⟨kvs, q, .inr ⟨od, ws, hm⟩, hq, by rw [hz]; exact h⟩
  case str => exact ⟨kvs, q, .inr ⟨od, ws, hm⟩, hq, by rw [hz]; exact h⟩
  all_goals cases hq
theorem l_atM {f : Option SV → Prop} {n : Nat} {kvs : List (Key × SV)} {d : D} {q : Key} (hm : μ[n]? = some (.dct kvs)) (hq : keyD d = some q) (h : f (lookK kvs q)) : atKey (.m n) (.d d) μ f := by
  cases d
  case int => exact ⟨kvs, q, .inl hm, hq, h⟩
  case str => exact ⟨kvs, q, .inl hm, hq, h⟩
  all_goals cases hq
theorem l_atD {f : Option SV → Prop} {kvs : List (Key × D)} {d : D} {q : Key} (hq : keyD d = some q) (h : f ((lookK kvs q).map SV.d)) : atKey (.d (.dct kvs)) (.d d) μ f := ⟨q, hq, h⟩
theorem l_din {neg : Bool} (h : ti ε μ fun y μ1 => td ε μ1 fun x μ2 => atKey x y μ2 fun o => k (.d (.bl (if neg then !o.isSome else o.isSome))) μ2) : dDIn neg ti td ε μ k := h
theorem l_dput (h : tv ε μ fun z μ1 => td ε μ1 fun x μ2 => ti ε μ2 fun y μ3 => putK' Φ ε z x y μ3) : dDPut td ti tv Φ ε μ := h
theorem l_putM {n : Nat} {kvs : List (Key × SV)} {d : D} {q : Key} {z : SV} (hm : μ[n]? = some (.dct kvs)) (hq : keyD d = some q) (hz : kvs.length < sizeLine) (h : Φ.nx ε (μ.set n (.dct (setK kvs q z)))) : putK' Φ ε z (.m n) (.d d) μ := by
  cases d
  case int => exact ⟨kvs, q, hm, hq, hz, h⟩
  case str => exact ⟨kvs, q, hm, hq, hz, h⟩
  all_goals cases hq
theorem l_dnewM (h : k (.m μ.length) (μ ++ [.dct []])) : dNewDM ε μ k := h
theorem l_dnew (h : k (.d (.dct [])) μ) : dNewD ε μ k := h
theorem l_get2 (h : td ε μ fun x μ1 => isDict x μ1 ∧ ti ε μ1 fun y μ2 => te ε μ2 fun w μ3 => atKey x y μ3 (getOr k w μ3)) : dDGet2 td ti te ε μ k := h
theorem l_fld {K : PySem.W.Frag} {f : Str} (h : td ε μ fun x μ1 => atFld K f x μ1 fun z => k z μ1) : dFld K f td ε μ k := h
theorem l_fldD {K : PySem.W.Frag} {f : Str} {C : Addr} {fs : List (Str × D)} {z : D} {g : SV → Prop} (c : Cls K C) (na : NoAttr K C f) (hl : fs.lookup f = some z) (h : g (.d z)) : atFld K f (.d (.obj C fs)) μ g := ⟨z, c, na, hl, h⟩
theorem l_fldM {K : PySem.W.Frag} {f : Str} {n : Nat} {C : Addr} {fs : List (Str × SV)} {z : SV} {g : SV → Prop} (hm : μ[n]? = some (.obj C fs)) (c : Cls K C) (na : NoAttr K C f) (hl : fs.lookup f = some z) (h : g z) : atFld K f (.m n) μ g := ⟨C, fs, z, hm, c, na, hl, h⟩
theorem l_sfld {K : PySem.W.Frag} {f : Str} (h : tv ε μ fun z μ1 => td ε μ1 fun x μ2 => putFld K f Φ ε z x μ2) : dSFld K f td tv Φ ε μ := h
theorem l_sfldM {K : PySem.W.Frag} {f : Str} {n : Nat} {C : Addr} {fs : List (Str × SV)} {z : SV} (hm : μ[n]? = some (.obj C fs)) (c : Cls K C) (na : NoAttr K C f) (hz : fs.length < 1000) (h : Φ.nx ε (μ.set n (.obj C (putG f z fs)))) : putFld K f Φ ε z (.m n) μ := ⟨C, fs, hm, c, na, hz, h⟩
theorem l_atMT {f : Option SV → Prop} {n : Nat} {kvs : List (List Key × SV)} {ds : List D} {q : List Key} (hm : μ[n]? = some (.dcT kvs)) (hq : keysD ds = some q) (h : f (lookK kvs q)) : atKey (.m n) (.d (.tup ds)) μ f := ⟨kvs, q, .inl hm, hq, h⟩
theorem l_putMT {n : Nat} {kvs : List (List Key × SV)} {ds : List D} {q : List Key} {z : SV} (hm : μ[n]? = some (.dcT kvs)) (hq : keysD ds = some q) (hz : kvs.length < sizeLine) (h : Φ.nx ε (μ.set n (.dcT (setK kvs q z)))) : putK' Φ ε z (.m n) (.d (.tup ds)) μ := ⟨kvs, q, hm, hq, hz, h⟩
theorem l_dnewT (h : k (.m μ.length) (μ ++ [.dcT []])) : dNewDT ε μ k := h
end
end DV

set_option Elab.async false
set_option linter.all false
set_option maxRecDepth 100000
namespace DV
open PySem PySem.Spec PyProof.Rows L2
/-! ### errors of the program's own classes: C(what), C over ValueError, its __init__ stores self.what -/
/-- the promise of such an __init__ -/
def spWhat (K : PySem.W.Frag) (fl : Str) : Sp := fun vs H Q _ => ∃ (a C : Addr) (v : V), vs = [.ref a, v] ∧ H a = some (exo a C none) ∧ OexC K C ∧ PySem.W.findIn K (.ref C) fl = some none ∧
  ∀ dx, H dx = none → dx ≠ a → Q .non (upd (upd H dx (exd dx [(fl, v)])) a (exo a C (some dx)))
section
variable {P : Program} {w : World} {K : PySem.W.Frag} {mg : Str → Option Value} {base : Heap}
theorem ok_what {f : Addr} {fd : FuncData} {qual : Str} {st : Stmt} {fl : Str} {p1 p2 p3 p4 : Pos} (F : Fun K "__init__" qual st f fd) (S : FnScope ["self", fl] ["self", fl] (defScope st))
    (hb : defBody st = [.Assign [.Attribute (.Name "self" p1) fl p2] (.Name fl p3) p4])
    (h : ∀ (cdv : Value) (A : Around) (outer : List Env) (s : Shared) (H : Hp) (E : XK), PSs (cxOf CX0 P w K mg base ["self", fl] qual (defScope st) f cdv A outer s H E).nox (defBody st) (tOst K fl (tVar 0) (tVar 1))) :
    FnOk P w K mg base CX0 1 f fd ["self", fl] (spWhat K fl) := by
  refine F.ok S (fun vs H Q E h => ?_) (fun cdv A outer s H vs Q E hr h' => ?_)
  · obtain ⟨a, C, v, rfl, _⟩ := h
    rfl
  · obtain ⟨a, C, v, rfl, e, T, hno, k⟩ := h'
    refine ⟨_, (h cdv A outer s H E), ?_⟩
    exact ⟨_, rfl, _, rfl, a, C, rfl, T, hno, .inl ⟨e, fun dx n ne => k dx n ne⟩⟩
end
def dRaise (C : Addr) (fl : Str) (Ψ : DX) (t : DTA) : DTS := fun _ ε μ => t ε μ fun xs μ1 => ∃ x, xs = [.d x] ∧ Ψ (.ref C) [(fl, x)] μ1
section
variable {X : Cx} {B : Bs} {e : Expr} {pos pos2 p : Pos} {tl : DTA} {ul : TA} {x fl : Str} {C fI : Addr} {k : Nat} {fd : FuncData} {ps : List Str}
theorem sim_raise (h : SimA B ul tl) (hC : OexC B.K C) (hno : PySem.W.findIn B.K (.ref C) fl = some none) : SimS B (fun _ σ H => tMkO C (spWhat B.K fl) [] ul σ H fun cls d H' => B.E cls d H') (dRaise C fl B.Ψ tl) := fun bb M σ H ε μ Φ D a E q =>
  h bb M σ H ε μ _ _ a (fun vs M1 H1 xs μ1 l1 w1 r1 q1 => by
    obtain ⟨y, rfl, q1⟩ := q1
    obtain ⟨v, rfl, rv⟩ := one_inv r1
    refine ⟨(by show 1 ≤ 1000; decide), fun p hp => ?_⟩
    refine ⟨p, C, v, rfl, upd_same, hC, hno, fun dx hd ne => ⟨rfl, dx, [(fl, v)], upd_same, ?_, ?_, ?_⟩⟩
    · rw [upd_ne ne, upd_same]
    · rw [upd_ne ne] at hd
      exact hd
    · rw [upd_ne ne] at hd
      have eh : upd (del (upd (upd (upd H1 p (exo p C none)) dx (exd dx [(fl, v)])) p (exo p C (some dx))) p) dx (.xd [(fl, v)]) = upd H1 dx (.xd [(fl, v)]) := by
        funext b
        by_cases hb : b = dx
        · rw [hb, upd_same, upd_same]
        · rw [upd_ne hb, upd_ne hb]
          by_cases hp2 : b = p
          · rw [hp2, del_same, hp]
          · rw [del_ne hp2, upd_ne hp2, upd_ne hb, upd_ne hp2]
      rw [eh]
      have l2 := le_new (o := .xd [(fl, v)]) w1 hd
      have w2 := wd_new (o := .xd [(fl, v)]) w1 hd
      refine bb.hE (.ref C) (some dx) M1 _ [(fl, y)] μ1 ((a.le.trans l1).trans l2) w2 ⟨[(fl, v)], wo_at w1 hd, rfl, .cons ?_ .nil⟩ q1
      cases rv with
      | d rv => exact rv.mono (wo_new hd)) q
/-- raise C(e) -/
theorem ds_raise (hC : OexC X.K C) (iC : PySem.W.findIn X.K (.ref C) "__init__" = some (some (.ref fI))) (tI : PySem.W.typeIn X.K (.ref fI) = some (.type "function")) (hno : PySem.W.findIn X.K (.ref C) fl = some none)
    (F1 : FnOk X.prog X.w X.K X.mg X.base CX0 k fI fd ps (spWhat X.K fl)) (hr : Room (k + 1) X.A) (hb : Binds X.K fd ps []) (hg : Gl X x) (hm : X.mg x = some (.ref C)) (hc : X.calm = true) (tk : Takes X (fun cls d _ H => B.E cls d H)) (ha : DA X B [e] ul tl)
    (hK : B.K = X.K := by rfl) (hdb : (x == ("__debug__" : Str)) = false := by decide) (he : starEach [e] X.env = (false, eval e X.env) :: starEach [] X.env := by rfl) (hpl : (backTo pos (starEach [] X.env)).any (·.1) = false := by rfl) :
    DS X B (.Raise (some (.Call (.Name x p) [e] [] pos)) none pos2) (fun _ σ H => tMkO C (spWhat B.K fl) [] ul σ H fun cls d H' => B.E cls d H') (dRaise C fl B.Ψ tl) := by
  obtain ⟨Kb, Eb, Ψb⟩ := B
  have hK : Kb = X.K := hK
  subst hK
  exact ⟨ps_raise hc tk (pmk_oex hC iC tI F1 hr hb .nil passes0 hg hm ha.p hdb he hpl), sim_raise ha.s hC hno⟩
end
section
variable {P : Program} {w : World} {K : PySem.W.Frag} {mg : Str → Option Value} {base : Heap}
/-- THE RULE for a def that may raise -/
theorem dfnX {x qual : Str} {st : Stmt} {f : Addr} {fd : FuncData} {N ps : List Str} {k : Nat} {d : DSp} (F : Fun K x qual st f fd) (S : FnScope N ps (defScope st)) (len : ∀ xs μ Φ Ψ, d xs μ Φ Ψ → xs.length = ps.length) (hN : ps.length ≤ N.length)
    (hbody : ∀ (cdv : Value) (A : Around) (outer : List Env) (s : Shared) (H : Hp) (E : XK) (Ψ : DX), Room k (A.deeper (envOfC qual (defScope st) s.heap.objs.size f cdv)) →
      ∃ u t, DSs (cxOf (L2.CX P w) P w K mg base N qual (defScope st) f cdv A outer s H E) { K := K, E := E, Ψ := Ψ } (defBody st) u t ∧ ∀ xs μ Φ, d xs μ Φ Ψ → t { nx := fun _ μ => Φ (.d .non) μ, rt := Φ, fl := μ.length } (dstart N.length xs) μ) : FnOk P w K mg base (L2.CX P w) (k + 1) f fd ps (toSp K d) := by
  refine F.okX S (fun vs H Q E h => ?_) (fun cdv A outer s H vs Q E hr h => ?_)
  · obtain ⟨M, μ, xs, Φ, Ψ, _, r, _, _, q⟩ := h
    rw [r.length]
    exact len _ _ _ _ q
  · obtain ⟨M, μ, xs, Φ, Ψ, W, r, kq, ke, q⟩ := h
    obtain ⟨u, t, hd, ht⟩ := hbody cdv A outer s H E Ψ hr
    refine ⟨u, hd.p, ?_⟩
    let bb : Ba { K := K, E := E, Ψ := Ψ } := ⟨M, H, ke, fun _ _ cls dp M' H' fs μ l w _ => ke cls dp M' H' fs μ l w, fun _ _ _ => trivial⟩
    refine hd.s bb M (L2.start N vs) H (dstart N.length xs) μ _ _ ⟨Le.refl M H, W, start_env r (by rw [len _ _ _ _ q]; exact hN)⟩ ⟨?_, ?_, ?_, ?_, Nat.le_of_eq W.len⟩ (ht xs μ Φ q)
    · exact fun M1 σ1 H1 ε1 μ1 a1 q1 => kq .non M1 H1 _ μ1 a1.le a1.wd (.d .non) q1
    · exact fun v M1 H1 x μ1 l1 w1 r1 q1 => kq v M1 H1 x μ1 l1 w1 r1 q1
    · exact fun M1 σ1 H1 ε1 μ1 a1 q1 => q1.elim
    · exact fun M1 σ1 H1 ε1 μ1 a1 q1 => q1.elim
end
/-! calls of defs that may raise -/
structure CalleeX (P : Program) (w : World) (K : PySem.W.Frag) (mg : Str → Option Value) (base : Heap) (x : Str) (lvl : Nat) (ps : List Str) (d : DSp) : Prop where
  ex : ∃ f fd, FnOk P w K mg base (L2.CX P w) lvl f fd ps (toSp K d) ∧ mg x = some (.ref f) ∧ PySem.W.keepIn K (.ref f) = true ∧ Binds K fd ps []
def dCallS (d : DSp) (ΨS : DEnv → DX) (t : DTA) : DTE := fun ε μ Φ => t ε μ fun xs μ1 => d xs μ1 Φ (ΨS ε)
section
variable {X : Cx} {B : Bs} {e : Expr} {es : List Expr} {pos p : Pos} {tl : DTA} {ul : TA} {lvl : Nat} {ps : List Str} {d : DSp} {x : Str}
theorem sim_callS (h : SimA B ul tl) : SimE B (tCallS (toSp B.K d) B.ES ul) (dCallS d B.ΨS tl) := fun bb M σ H ε μ Φ Q a k q => h bb M σ H ε μ _ _ a (fun vs M1 H1 xs μ1 l1 w1 r1 q1 =>
  ⟨M1, μ1, xs, Φ, B.ΨS ε, w1, r1, fun v M2 H2 y μ2 l2 => k v M2 H2 y μ2 (l1.trans l2), fun cls dp M2 H2 fs μ2 l2 w2 xr => bb.hS σ ε cls dp M2 H2 fs μ2 ((a.le.trans l1).trans l2) w2 (a.env.mono (l1.trans l2).ids (l1.trans l2).sub) xr, q1⟩) q
/-- in a try: what is raised meets the except clause, the slots as they stand -/
theorem de_cS (C : CalleeX X.prog X.w X.K X.mg X.base x lvl ps d) (hr : Room lvl X.A) (hg : Gl X x) (hx : ∀ σ, PassesAt (L2.CX X.prog X.w) X σ (B.ES σ)) (ha : DA X B (e :: es) ul tl)
    (hK : B.K = X.K := by rfl) (hdb : (x == ("__debug__" : Str)) = false := by decide) (he : starEach (e :: es) X.env = (false, eval e X.env) :: starEach es X.env := by rfl) (hpl : (backTo pos (starEach es X.env)).any (·.1) = false := by rfl) :
    DE X B (.Call (.Name x p) (e :: es) [] pos) (tCallS (toSp B.K d) B.ES ul) (dCallS d B.ΨS tl) := by
  obtain ⟨f, fd, F, hm, hk, hb⟩ := C.ex
  refine ⟨?_, sim_callS ha.s⟩
  rw [hK]
  exact pe_callS F hr hg hm hk hb hx ha.p hdb he hpl
/-- elsewhere: what is raised leaves the def -/
theorem de_cX (C : CalleeX X.prog X.w X.K X.mg X.base x lvl ps d) (hr : Room lvl X.A) (hg : Gl X x) (hx : Passes (L2.CX X.prog X.w) X B.E) (ha : DA X B (e :: es) ul tl)
    (hK : B.K = X.K := by rfl) (hdb : (x == ("__debug__" : Str)) = false := by decide) (he : starEach (e :: es) X.env = (false, eval e X.env) :: starEach es X.env := by rfl) (hpl : (backTo pos (starEach es X.env)).any (·.1) = false := by rfl) :
    DE X B (.Call (.Name x p) (e :: es) [] pos) (tCall (toSp B.K d) [] B.E ul) (dCall d B.Ψ tl) := by
  obtain ⟨f, fd, F, hm, hk, hb⟩ := C.ex
  exact de_call F hr hg hm hk hb hx ha hK hdb he hpl
end
/-! try: body, except x as n: suite -/
theorem EnvR.wipe1 {K : PySem.W.Frag} {M : Mk} {G : Hp} {σ : L2.St} {ε : DEnv} (h : EnvR K M G σ ε) (i : Nat) : EnvR K M G (σ.set i none) (ε.set i none) := by
  refine ⟨by rw [List.length_set, List.length_set]; exact h.len, fun n x q => ?_⟩
  by_cases e : i = n
  · subst e
    by_cases hl : i < ε.length
    · rw [List.getElem?_set_self hl] at q
      cases q
    · rw [List.getElem?_eq_none (by rw [List.length_set]; omega)] at q
      cases q
  · rw [List.getElem?_set_ne e] at q
    rw [List.getElem?_set_ne e]
    exact h.at_ n x q
theorem XRep.mono {K : PySem.W.Frag} {G G' H H' : Hp} (e : Sub G G') : ∀ {d : Option Addr} {fs : List (Str × D)}, XRep K G H d fs → XRep K G' H' d fs
  | none, _, h => h
  | some _, _, ⟨ws, h, k, r⟩ => ⟨ws, e _ _ h, k, r.mono e⟩
def dTryAs (K : PySem.W.Frag) (c : Value) (i : Nat) (Ψ : DX) (db : (DEnv → DX) → DTS) (dsu : Addr → Value → List (Str × D) → DTS) : DTS := fun Φ ε μ =>
  db (fun ε' cls fs μ' => ∃ b, PySem.W.exmOne K cls c = some b ∧
    (b = true → ∀ a, dsu a cls fs { nx := fun ε2 μ2 => Φ.nx (ε2.set i none) μ2, rt := Φ.rt, bk := fun ε2 μ2 => Φ.bk (ε2.set i none) μ2, ct := fun ε2 μ2 => Φ.ct (ε2.set i none) μ2, fl := μ'.length } (ε'.set i (some (.d (.ref a)))) μ') ∧
    (b = false → Ψ cls fs μ')) Φ ε μ
section
variable {X : Cx} {B : Bs} {x n : Str} {c : Value} {i : Nat} {body suite : List Stmt} {b₀ : Stmt} {np pos pos' : Pos} {tb : WX → TS} {ts : Addr → Value → Option Addr → TS} {db : (DEnv → DX) → DTS} {dsu : Addr → Value → List (Str × D) → DTS}
theorem ds_tryAs (hs : X.stack = X.env :: X.outer) (hf : X.env.frame = some X.env.locals) (hN : X.N.Nodup) (hi : X.N[i]? = some n) (hln : X.env.kindOf n = some .local) (hc : Names X x c) (tk : Takes X (fun cls d _ H => B.E cls d H))
    (hb : ∀ (W : WX) (ΨS : DEnv → DX) (pn : List (Addr × Obj)) (xe : Value → Shared → Prop), Takes (X.tr pn xe) W → PassesOwn (model X.prog X.w) X.A X.env xe → DSs (X.tr pn xe) { K := B.K, E := B.E, Ψ := B.Ψ, ES := fun σ cls d H => W cls d σ H, ΨS := ΨS, J := B.J } body (tb W) (db ΨS))
    (hb0 : ∀ (W : WX) (ΨS : DEnv → DX), SimS { K := B.K, E := B.E, Ψ := B.Ψ, ES := fun σ cls d H => W cls d σ H, ΨS := ΨS, J := B.J } (tb W) (db ΨS))
    (hsu : ∀ (a : Addr) (oe : Obj) (cls : Value) (d : Option Addr) (pn : List (Addr × Obj)) (fs : List (Str × D)), Zc cls d oe → (∃ vs, oe.data = .fields vs) →
      DSs (X.suite a ((a, oe) :: pn)) { K := B.K, E := B.E, Ψ := B.Ψ, ES := B.ES, ΨS := B.ΨS, J := fun M H => B.J M H ∧ XRep B.K (wo M H) H d fs } (b₀ :: suite) (ts a cls d) (dsu a cls fs))
    (hK : B.K = X.K := by rfl) :
    DS X B (.Try body [.ExceptHandler (some (.Name x np)) (some n) (b₀ :: suite) pos'] [] [] pos) (fun D σ H => tb (wAs X.K c i ts (fun cls d _ H => B.E cls d H) D) D σ H) (dTryAs B.K c i B.Ψ db dsu) := by
  refine ⟨ps_try_as hs hf hN hi hln hc tk (fun W pn xe t p => (hb W (fun _ => B.Ψ) pn xe t p).p) (fun a oe cls d pn hz hd => (hsu a oe cls d pn [] hz hd).p), fun bb M σ H ε μ Φ D a E q => ?_⟩
  let bw : Ba { K := B.K, E := B.E, Ψ := B.Ψ, ES := fun σ cls d H => wAs X.K c i ts (fun cls d _ H => B.E cls d H) D cls d σ H, ΨS := fun ε' cls fs μ' => ∃ b, PySem.W.exmOne B.K cls c = some b ∧
    (b = true → ∀ a, dsu a cls fs { nx := fun ε2 μ2 => Φ.nx (ε2.set i none) μ2, rt := Φ.rt, bk := fun ε2 μ2 => Φ.bk (ε2.set i none) μ2, ct := fun ε2 μ2 => Φ.ct (ε2.set i none) μ2, fl := μ'.length } (ε'.set i (some (.d (.ref a)))) μ') ∧
    (b = false → B.Ψ cls fs μ'), J := B.J } := ⟨bb.M0, bb.H0, bb.hE, fun σ' ε' cls dp M' H' fs μ' l w ev xr hq => by
      obtain ⟨b, hb1, hy, hn⟩ := hq
      refine ⟨b, by rw [← hK]; exact hb1, fun e ad hna => ?_, fun e => bb.hE cls dp M' H' fs μ' l w xr (hn e)⟩
      let bs : Ba { K := B.K, E := B.E, Ψ := B.Ψ, ES := B.ES, ΨS := B.ΨS, J := fun M H => B.J M H ∧ XRep B.K (wo M H) H dp fs } := ⟨M', H', fun cls dp M2 H2 fs μ2 l2 => bb.hE cls dp M2 H2 fs μ2 (l.trans l2), fun σ ε cls dp M2 H2 fs μ2 l2 => bb.hS σ ε cls dp M2 H2 fs μ2 (l.trans l2), fun M2 H2 l2 => ⟨bb.hJ M2 H2 (l.trans l2), xr.mono l2.sub⟩⟩
      have back : ∀ {M2 σ2 H2 ε2 μ2}, At bs M2 σ2 H2 ε2 μ2 → At bb M2 (σ2.set i none) H2 (ε2.set i none) μ2 := fun z => ⟨l.trans z.le, z.wd, z.env.wipe1 i⟩
      refine (hsu ad { cls := cls, dict := dp, data := .fields #[] } cls dp [] fs ⟨rfl, rfl⟩ ⟨_, rfl⟩).s bs M' (σ'.set i (some (.ref ad))) H' (ε'.set i (some (.d (.ref ad)))) μ' { nx := fun ε2 μ2 => Φ.nx (ε2.set i none) μ2, rt := Φ.rt, bk := fun ε2 μ2 => Φ.bk (ε2.set i none) μ2, ct := fun ε2 μ2 => Φ.ct (ε2.set i none) μ2, fl := μ'.length } _ ⟨Le.refl _ _, w, ev.set i (.d (.ref ad))⟩ ⟨fun M2 σ2 H2 ε2 μ2 z q2 => E.nx M2 _ H2 _ μ2 (back z) q2, fun v M2 H2 y μ2 l2 => E.rt v M2 H2 y μ2 (l.trans l2), fun M2 σ2 H2 ε2 μ2 z q2 => E.bk M2 _ H2 _ μ2 (back z) q2, fun M2 σ2 H2 ε2 μ2 z q2 => E.ct M2 _ H2 _ μ2 (back z) q2, Nat.le_of_eq w.len⟩ (hy e ad), bb.hJ⟩
  exact hb0 _ _ bw M σ H ε μ Φ D ⟨a.le, a.wd, a.env⟩ ⟨fun M2 σ2 H2 ε2 μ2 z => E.nx M2 σ2 H2 ε2 μ2 ⟨z.le, z.wd, z.env⟩, E.rt, fun M2 σ2 H2 ε2 μ2 z => E.bk M2 σ2 H2 ε2 μ2 ⟨z.le, z.wd, z.env⟩, fun M2 σ2 H2 ε2 μ2 z => E.ct M2 σ2 H2 ε2 μ2 ⟨z.le, z.wd, z.env⟩, E.fl⟩ q
end
/-! err.f in the suite -/
def dXf (a : Addr) (cls : Value) (fs : List (Str × D)) (C : Addr) (f : Str) (t : DTE) : DTE := fun ε μ Φ => t ε μ fun x μ1 => x = .d (.ref a) ∧ cls = .ref C ∧ ∃ z, fs.lookup f = some z ∧ Φ (.d z) μ1
theorem reps_lookup {K : PySem.W.Frag} {G : Hp} {f : Str} {z : D} : ∀ {ws : List (Str × V)} {fs : List (Str × D)}, ws.map Prod.fst = fs.map Prod.fst → Reps K G (ws.map Prod.snd) (fs.map Prod.snd) → fs.lookup f = some z → ∃ v, ws.lookup f = some v ∧ Rep K G v z
  | [], [], _, _, h => by cases h
  | (k, v) :: ws, (k2, d) :: fs, hk, r, h => by
    have h1 : k = k2 := (List.cons.inj hk).1
    subst h1
    rw [List.lookup_cons] at h ⊢
    cases r with
    | cons r1 r2 =>
      cases e : f == k with
      | true =>
        rw [e] at h
        cases h
        exact ⟨_, rfl, r1⟩
      | false =>
        rw [e] at h
        exact reps_lookup (List.cons.inj hk).2 r2 h
  | [], _ :: _, h, _, _ => by cases h
  | _ :: _, [], h, _, _ => by cases h
theorem de_xf {X : Cx} {B : Bs} {a C : Addr} {oe : Obj} {cls : Value} {d : Option Addr} {fs : List (Str × D)} {pn : List (Addr × Obj)} {e : Expr} {te : DTE} {ue : TE} {pos : Pos} {f : Str} (T : XfC X.K C) (hno : PySem.W.findIn X.K (.ref C) f = some none)
    (hz : Zc cls d oe) (hf : ∃ vs, oe.data = .fields vs) (he : DE (X.suite a ((a, oe) :: pn)) B e ue te) (hJ : ∀ M H, B.J M H → XRep B.K (wo M H) H d fs) (hb : attributeBase e f X.env (eval e X.env) = eval e X.env := by rfl) :
    DE (X.suite a ((a, oe) :: pn)) B (.Attribute e f pos) (tXf a cls d C f ue) (dXf a cls fs C f te) := ⟨pe_xf T hno hz hf he.p hb, fun bb M σ H ε μ Φ Q az k q => he.s bb M σ H ε μ _ _ az (fun v M1 H1 x μ1 l1 w1 r1 q1 => by
  obtain ⟨rfl, hc, z, hl, q1⟩ := q1
  have xr := hJ M1 H1 (bb.hJ M1 H1 (az.le.trans l1))
  have e1 : v = .ref a := by
    cases r1 with
    | d r => cases r; rfl
  cases d with
  | none =>
    have xr : fs = [] := xr
    rw [xr] at hl
    cases hl
  | some dd =>
    obtain ⟨ws, hw, hk, hr⟩ := xr
    obtain ⟨u, hu, ru⟩ := reps_lookup hk hr hl
    exact ⟨e1, hc, dd, ws, u, rfl, (wo_sub M1 H1).ex hw rfl, hu, k u M1 H1 (.d z) μ1 l1 w1 (.d ru) q1⟩) q⟩
end DV

set_option Elab.async false
set_option linter.all false
set_option maxRecDepth 100000
/-! isinstance of a caught error that bears fields -/
namespace DVx
open PySem PySem.W PySem.Spec PySem.Calls PyProof.Rows
section
variable {prog : Program} {w : World} {K : Frag} {x D : Addr} {ox : Obj} {od : Option Obj}
theorem found_data {n : Str} {a g : Value} (q1 : (clsIn K D).isSome = true) (q2 : findIn K (.ref D) n = some (some a)) (q3 : specialIn K a "__get__" = some (some g)) (q4 : takesIn K a = some true) : findObj K D od n = some (.bind g a) := by
  obtain ⟨z, q1⟩ := Option.isSome_iff_exists.mp q1
  simp [findObj, q1, q2, q3, q4]
theorem cls_isSome (C : L2.ExcC K D) : (clsIn K D).isSome = true := by
  obtain ⟨z, q, _⟩ := any_some C.hd
  simp [q]
theorem exc_class {A : Around} {E : Value → Shared → Prop} {s : Shared} {Q : Option Value → Shared → Prop} (C : L2.ExcC K D) (Kin : K.In s.heap) (at_ : InstAt s.heap x ox D od) (q : Q (some (.ref D)) { s with toks := s.toks + 1 }) : wpAny (model prog w) A (getAttr? (.ref x) "__class__") Q E s := by
  have fo : findObj K D od "__class__" = some (.bind (.builtin "getset_descriptor.__get__") (.builtin "object.__class__")) := found_data (cls_isSome C) C.ha C.hn C.ht
  obtain ⟨hp, gs, dr, tk, os⟩ := s
  have l0 := at_.type (M := model prog w)
  have l1 := looks_findIn (M := model prog w) Kin C.hg
  have l2 := looks_findIn (M := model prog w) Kin C.hk
  have l3 := looks_find (M := model prog w) Kin at_ fo
  have n2 : (Value.builtin "BaseException.__getattribute__" == Value.builtin "object.__getattribute__") = false := by decide +kernel
  have n1 : (onTheHeap (Value.ref D) && Value.builtin "BaseException.__getattribute__" == Value.builtin "object.__getattribute__") = false := by rw [n2]; rfl
  have n0 : (false && onTheHeap (Value.builtin "BaseException.__getattribute__")) = false := rfl
  unfold getAttr? getAttrBy? getAttrBy
  refine wpAny_bind (wpAny_mkText (wpAny_bind (wpAny_attempt (wpAny_holding (wpAny_bind (l0.at (wpAny_bind (l1.at ?_))))))))
  show wpAny _ _ (if (onTheHeap (Value.ref D) && Value.builtin "BaseException.__getattribute__" == Value.builtin "object.__getattribute__") = true then _ else _) _ _ _
  rw [n1, if_neg Bool.false_ne_true]; unfold getAttrByItsOwn hookBefore
  refine wpAny_bind ?_; rw [if_pos (show onTheHeap (Value.ref D) = true from rfl)]
  refine l2.at ?_; refine wpAny_bind (wpAny_attempt (wpAny_holding ?_)); unfold callGetattribute
  rw [n0, if_neg Bool.false_ne_true]; unfold boundAndCalled; rw [PySem.F.excAttr_ValueError.ga.bind (.ref x)]
  refine wpAny_bind (wpAny_pure ?_); show wpAny _ _ (call (.builtin "BaseException.__getattribute__") [.ref x, .str "__class__" tk]) _ _ _
  refine wpAny_call (codeAny_call_builtin PySem.F.excAttr_ValueError.ga.plain PySem.F.entry_bexc_ga ?_)
  have sub : Looks (model prog w) hp (isInstance (.ref x) (.type "BaseException")) true := l0.andThen (looks_subIn Kin C.hs)
  refine @check_slot (model prog w) _ _ ⟨hp, gs, dr, tk + 1, os⟩ "BaseException.__getattribute__" "BaseException" "__getattribute__" (.ref x) [.str "__class__" tk] [] _ (by decide +kernel) (by decide +kernel) sub (PySem.F.args_bexc_ga (.ref x) (.str "__class__" tk)) ?_
  unfold Builtin.«object.__getattribute__»; refine wpAny_bind (wpAny_of_eq (a := ((Value.ref x : Value), [Value.str "__class__" tk])) (by first | rfl | (simp only [slotArgs]; rfl)) ?_)
  refine wpAny_bind (wpAny_pure (wpAny_bind (l0.at (wpAny_bind (l3.at ?_))))); show wpAny _ _ (holding [Value.builtin "object.__class__"] (call (.builtin "getset_descriptor.__get__") [.builtin "object.__class__", .ref x, .ref D]) >>= ret) _ _ _
  refine wpAny_bind (wpAny_holding (wpAny_call (class_get (s := ⟨hp, gs, dr, tk + 1, os⟩) (ox := ox) (od := od) Kin at_ C.hm ?_))); refine wpAny_pure ?_
  show wpAny _ _ (handedOut (.ref D)) _ _ _; rw [handedOut_of (v := .ref D) rfl]
  first | exact wpAny_pure (wpAny_pure q) | exact wpAny_pure q | exact wpAny_pure (wpAny_bind (wpAny_pure (wpAny_pure q)))
theorem kit_exc (C : L2.ExcC K D) : KitX K (.ref x) (.ref D) (fun h => InstAt h x ox D od) where
  ty := fun _ _ _ at_ => at_.type
  ca := fun Kin at_ q => exc_class C Kin at_ q
  it := fun _ _ Kin _ => by
    obtain ⟨z, q⟩ := Option.isSome_iff_exists.mp (cls_isSome C)
    unfold clsIn at q; split at q
    · rename_i q1
      intro A' Q' E' s' k q
      exact (by unfold isType loadHead; exact wpAny_bind (wpAny_loadPart (k _ _ (Kin _ _ q1)) (wpAny_pure q)))
    · cases q
  ne := fun h tp dd its n sl Kin htp => by
    obtain ⟨z, q⟩ := Option.isSome_iff_exists.mp (cls_isSome C)
    refine Bool.eq_false_iff.mpr fun b => ?_
    obtain rfl : D = tp := Value.ref.inj (beq_iff_eq.mp b)
    unfold clsIn at q; split at q
    · rename_i q1
      cases (Kin _ _ q1).symm.trans htp
    · cases q
end
/-- list.extend of any tuple -/
theorem ext_tup (l b : Addr) (xs ys : Array Value) (n m : Nat) (dd : Option Addr) (sl : Array (Option Value)) (hz : xs.size + ys.size ≤ sizeLine) :
    Meets (Builtin.«list.extend» ⟨[.ref l, .ref b], []⟩) (fun _ R s => s.heap.get? l = some { cls := .type "list", data := .seq xs n } ∧ s.heap.get? b = some ⟨.type "tuple", dd, .seq ys m, sl⟩ ∧ R (.ok (.ret .none)) { s with heap := s.heap.update l (Obj.mapSeq (· ++ ys)), toks := s.toks }) := .of_wp fun prog w A R s q => by
  obtain ⟨hp, g, d, tk, os⟩ := s
  obtain ⟨hl, hb, q⟩ := q
  have f1 := PySem.AutoSeq1.idx_int; have f2 := PySem.AutoSeq1.sub_tuple_tuple; have f3 := PySem.AutoSeq1.sub_list_list; have f4 := PySem.AutoSeq1.sub_tuple_list; have f5 := PySem.AutoSeq1.sub_list_tuple
  have z0 : ¬ (!xs.isEmpty && Builtin.List.listTooLong (xs.size + ys.size)) = true := by rw [L2.notLongL hz, Bool.and_false]; exact Bool.false_ne_true
  have z1 : xs.size ≤ sizeLine := by omega
  have z2 : (xs ++ ys).size ≤ sizeLine + 1 := by rw [Array.size_append]; omega
  wp_walk using (wpAny_updateSeq hl rfl (hz := z1) (_hz' := z2)), PySem.AutoSeq1.wpAny_loadPart' hl, PySem.AutoSeq1.wpAny_loadPart' hb
  exact ⟨_, rfl, q⟩
end DVx
namespace L2
open PySem PySem.Spec PyProof.Rows
/-- isinstance(e, c), e the caught error, its own dict at dd -/
def rIsF (K : PySem.W.Frag) (D a dd : Addr) : List V → Hp → VK → Prop := fun xs H Q => (∃ fs, H dd = some (.xd fs)) ∧ rIsE K D a xs H Q
theorem call_isF {X : Cx} {a D dd : Addr} {oe : Obj} {pn : List (Addr × Obj)} (C : ExcC X.K D) (hz : Zc (.ref D) (some dd) oe) (hf : ∃ vs, oe.data = .fields vs) : CallR (X.suite a ((a, oe) :: pn)) (.builtin "isinstance") (rIsF X.K D a dd) := by
  rintro pins s σ H xs us Q I r ⟨⟨fs, hdd⟩, c, cv, b, rfl, known, e, q⟩
  cases r with
  | cons rx rr => cases rr with
    | cons rt rr =>
      cases rr; cases rx
      cases known _ rt
      obtain ⟨got, _⟩ := I.pin (a, oe) (List.mem_append_left _ List.mem_cons_self)
      obtain ⟨vs, hv⟩ := hf
      obtain ⟨mA, hns, _⟩ := (show ObjOk X.prog X.w H s.heap dd (.xd fs) from I.hok dd _ hdd)
      obtain ⟨od, ho, _⟩ := lookIn_ns hns
      have J : PySem.W.InstAt s.heap a oe D (some od) := ⟨got, hz.1, by unfold PySem.W.notCls; rw [hv] <;> rfl, by rw [hz.2]; exact ho⟩
      exact PySem.W.kia_one (DVx.kit_exc C) I.kIn J e (fun z => nomatch z) fun tk => ⟨.bl b, H, I.kept (t' := tk) fun _ _ z => z, rfl, q⟩
/-- l.extend(e), e a list or a tuple -/
def rExtA (K : PySem.W.Frag) : V → List V → Hp → VK → Prop := fun x vs H Q => ∃ l b xs zs, x = .ref l ∧ vs = [.ref b] ∧ H l = some (.lst xs) ∧ (H b = some (.lst zs) ∨ SqT K H b zs) ∧ xs.length + zs.length ≤ sizeLine ∧ Q .non (upd H l (.lst (xs ++ zs)))
theorem mt_extA {X : Cx} : MtM X "list.extend" (rExtA X.K) := by
  rintro pins s σ H x vs v us Q I rx rv ⟨l, b, xs, zs, rfl, rfl, hl, hb, hz, q⟩
  rcases hb with hb | hb
  · exact mt_extend pins s σ H _ _ _ _ _ I rx rv ⟨l, b, xs, zs, rfl, rfl, hl, hb, hz, q⟩
  cases rx
  obtain ⟨u, rfl, ru⟩ := rv.one
  cases ru
  obtain ⟨z, its, n, r, len, e⟩ := I.lstM hl
  obtain ⟨its2, r2, ⟨⟨oc, od, oda, osl⟩, hg, rfl, m, rfl⟩, z2⟩ := I.tuple hb
  have hsz : its.toArray.size + its2.toArray.size ≤ sizeLine := by
    have := r2.length
    simp only [List.size_toArray]
    omega
  refine call_meets F.slot_list_extend ⟨_, e, rfl⟩ F.entry_list_extend (F.args_list_extend_2 _ _) (DVx.ext_tup l b its.toArray its2.toArray n m od osl hsz) ⟨e, hg, .non, _, I.lset (its' := its ++ its2) hl e (by simp) (r.append r2) ?_, rfl, q⟩
  rw [List.length_append]
  omega
end L2

set_option Elab.async false
set_option linter.all false
set_option maxRecDepth 100000
namespace DV
open PySem PySem.Spec PyProof.Rows L2
section
variable {X : Cx} {B : Bs} {a b c e o : Expr} {es : List Expr} {pos p apos cpos : Pos} {ta tb tc te td : DTE} {tl : DTA} {ua ub uc ue ud : TE} {ul : TA}
/-! a text's signs -/
def signs (z : Str) : List D := z.cps.toList.map fun c => .str ⟨#[c]⟩
def diStr (t : DTE) : DTI := fun ε μ Φ => t ε μ fun x μ1 => match x with
  | .d (.str z) => Φ ((signs z).map SV.d) (fun _ => True) μ1
  | _ => False
theorem walkd_s {z : Str} {M1 : Mk} {H1 : Hp} : WalkD B (Its z) ((signs z).map SV.d) (fun _ => True) M1 H1 := by
  have hl : ((signs z).map SV.d).length = z.cps.size := by simp [signs]
  refine ⟨fun M H μ i l w g h => by rw [hl] at h; exact h, fun M H μ l w g => Nat.le_of_eq hl.symm, fun M H μ i v H' l w g h y => ?_⟩
  obtain ⟨rfl, c, hc, rfl⟩ := y
  refine ⟨.d (.str ⟨#[c]⟩), ?_, Le.refl M _, w, .d (.str _)⟩
  rw [List.getElem?_map, signs, List.getElem?_map, Array.getElem?_toList, hc]
  rfl
theorem di_str {tg : Expr} (h : DE X B e ue te) : DI X B tg e (iStr ue) (diStr te) := ⟨pi_str h.p, fun bb M σ H ε μ Φ R at_ k q => h.s bb M σ H ε μ _ _ at_ (fun v M1 H1 x μ1 l1 w1 r1 q1 => by
  split at q1
  · exact ⟨_, r1.str_inv, k _ M1 H1 _ _ μ1 l1 w1 walkd_s q1⟩
  · exact q1.elim) q⟩
theorem de_globS {x : Str} {z : Str} (hg : Gl X x) (hm : ∃ t, X.mg x = some (.str z t)) (hd : (x == ("__debug__" : Str)) = false := by decide) : DE X B (.Name x pos) (tC (.str z)) (dC (.str z)) := by
  obtain ⟨t, hm⟩ := hm
  exact de_glob hg hm ⟨t, rfl⟩ (fun _ _ => .str z) hd
/-- a class of one's own, by its name -/
theorem de_globR {x : Str} {C : Addr} (hg : Gl X x) (hm : X.mg x = some (.ref C)) (hd : (x == ("__debug__" : Str)) = false := by decide) : DE X B (.Name x pos) (tC (.ref C)) (dC (.ref C)) := de_glob hg hm rfl (fun _ _ => .ref C) hd
/-- a built-in class -/
theorem de_bty {x : Str} {T : String} (hg : Gl X x) (hm : X.mg x = none) (hv : bootBuiltins x = some (.type T)) (hn : x ≠ "__name__" := by decide) (hd : (x == ("__debug__" : Str)) = false := by decide) : DE X B (.Name x pos) (tC (.ty T)) (dC (.ty T)) := de_c (pe_bltn hg hm hv rfl hn hd) fun _ _ => .ty T
/-! s.index(t), found -/
def sindexK (k : DK) (x y : SV) (μ : DSt) : Prop := match x, y with
  | .d (.str s), .d (.str t) => ∃ i rest, Builtin.Str.occurrences s t 0 s.length 1 = i :: rest ∧ k (.d (.int (i : Nat))) μ
  | _, _ => False
def isStr : SV → Prop
  | .d (.str _) => True
  | _ => False
def dSindex (to_ t : DTE) : DTE := fun ε μ k => to_ ε μ fun x μ1 => isStr x ∧ t ε μ1 (sindexK k x)
theorem isStr_inv {M : Mk} {H : Hp} {v : V} {x : SV} (r : Rv B M H v x) (h : isStr x) : ∃ z, x = .d (.str z) ∧ v = .str z := by
  unfold isStr at h
  split at h
  · exact ⟨_, rfl, r.str_inv⟩
  · exact h.elim
theorem de_sindex (ho : DE X B o ud td) (he : DE X B a ua ta) (hbase : attributeBase o "index" X.env (eval o X.env) = eval o X.env := by rfl)
    (hfew : ((backTo cpos (starEach [a] X.env)).all (fun x => !x.1) && (backToKw cpos (keywordEach [] X.env)).all (fun x => x.1.isSome) && decide ([a].length + ([] : List Keyword).length + (if ([] : List Keyword).isEmpty then 0 else 1) < 30)) = true := by rfl)
    (hline : (apos.endLine == cpos.line) = true := by rfl) (hs : starEach [a] X.env = (false, eval a X.env) :: starEach [] X.env := by rfl) (hplain : (backTo cpos (starEach [] X.env)).any (·.1) = false := by rfl) :
    DE X B (.Call (.Attribute o "index" apos) [a] [] cpos) (tBM X.K "str" (fun x xs H Q => ∃ a b i rest, x = .str a ∧ xs = [.str b] ∧ Builtin.Str.occurrences a b 0 a.length 1 = i :: rest ∧ Q (.int (i : Nat)) H) ud (tCons ua tNil)) (dSindex td ta) :=
  ⟨pe_bm PySem.F.plainAttrs_str PySem.F.slot_str_index PySem.F.type_str_index mt_sindex ho.p (pa_cons he.p pa_nil hs) hbase hfew hline hs hplain, fun bb M σ H ε μ Φ Q at_ k q =>
  ho.s bb M σ H ε μ _ _ at_ (fun v M1 H1 x μ1 l1 w1 r1 q1 => by
    obtain ⟨z, rfl, rfl⟩ := isStr_inv r1 q1.1
    refine ⟨rfl, he.s bb M1 σ H1 ε μ1 _ _ (at_.next l1 w1) (fun w M2 H2 y μ2 l2 w2 r2 q2 => ?_) q1.2⟩
    unfold sindexK at q2
    split at q2
    · rename_i e1
      cases e1
      obtain ⟨i, rest, ho, q2⟩ := q2
      obtain rfl := r2.str_inv
      exact ⟨_, _, i, rest, rfl, rfl, ho, k _ M2 H2 _ μ2 (l1.trans l2) w2 (.d (.int _)) q2⟩
    · exact q2.elim) q⟩
/-! dicts with int and text keys, whatever they are -/
def dctOf (x : SV) (μ : DSt) (kvs : List (Key × SV)) : Prop := match x with
  | .d (.dct ws) => kvs = ws.map fun p => (p.1, SV.d p.2)
  | .m n => μ[n]? = some (.dct kvs) ∨ ∃ o ws, μ[n]? = some (.ldc o ws kvs)
  | _ => False
theorem dctOf_inv {M : Mk} {H : Hp} {μ : DSt} {v : V} {x : SV} {kvs : List (Key × SV)} (W : Wd B.K M H μ) (r : Rv B M H v x) (h : dctOf x μ kvs) : ∃ p ws, v = .ref p ∧ Rd H p (.dK ws) ∧ KR B.K M (wo M H) ws kvs := by
  unfold dctOf at h
  split at h
  · subst h
    obtain ⟨p, ws, rfl, hp, kr⟩ := r.dct_inv
    exact ⟨p, ws, rfl, (wo_sub M H).rd hp, kr⟩
  · exact r.md_inv W h
  · exact h.elim
def dLenD : List SV → DSt → DK → Prop
  | [x], μ, Φ => ∃ kvs, dctOf x μ kvs ∧ Φ (.d (.int (kvs.length : Nat))) μ
  | _, _, _ => False
theorem call_lenR : CallR X (.builtin "len") (fun xs H Q => ∃ a kvs, xs = [V.ref a] ∧ Rd H a (.dK kvs) ∧ Q (.int kvs.length) H) := by
  intro pins s σ H xs us Q I r h
  obtain ⟨a, kvs, rfl, ha, q⟩ := h
  obtain ⟨u, rfl, ru⟩ := vals1 r
  cases ru
  exact d_len I ha fun t s' I' => ⟨.int kvs.length, H, I', ⟨t, rfl⟩, q⟩
theorem sim_lenD : SimC B (fun xs H Q => ∃ a kvs, xs = [V.ref a] ∧ Rd H a (.dK kvs) ∧ Q (.int kvs.length) H) dLenD := fun M H μ v x Φ Q W r k h => by
  unfold dLenD at h
  split at h
  · obtain ⟨kvs, hd, h⟩ := h
    obtain ⟨u, rfl, r1⟩ := one_inv r
    obtain ⟨p, ws, rfl, hp, kr⟩ := dctOf_inv W r1 hd
    exact ⟨p, ws, rfl, hp, k _ M H _ μ (Le.refl M H) W (.d (by rw [kr.length]; exact .int _)) h⟩
  · exact h.elim
def dSortedDI : List SV → DSt → DK → Prop
  | [x], μ, Φ => ∃ kvs ks, dctOf x μ kvs ∧ kvs.map Prod.fst = ks.map Sum.inl ∧ ks.length < 64 ∧ ∀ ys : List Int, ys.Perm ks → ys.Pairwise (· ≤ ·) → Φ (.d (.lst (dints ys))) μ
  | _, _, _ => False
theorem sim_sortedDI : SimC B (fun xs H Q => ∃ (a : Addr) (kvs : List (Key × V)) (ks : List Int), xs = [.ref a] ∧ Rd H a (.dK kvs) ∧ kvs.map (·.1) = ks.map Sum.inl ∧ ks.length < 64 ∧
    ∀ (ys : List Int) (p : Addr), ys.Perm ks → ys.Pairwise (· ≤ ·) → H p = none → Q (.ref p) (upd H p (.lst (ys.map V.int)))) dSortedDI := fun M H μ v x Φ Q W r k h => by
  unfold dSortedDI at h
  split at h
  · obtain ⟨kvs, ks, hd, hk, hz, h⟩ := h
    obtain ⟨u, rfl, r1⟩ := one_inv r
    obtain ⟨p, ws, rfl, hp, kr⟩ := dctOf_inv W r1 hd
    exact ⟨p, ws, ks, rfl, hp, kr.keys.trans hk, hz, fun ys l h1 h2 hl => k _ M _ _ μ (le_new W hl) (wd_new W hl) (.d (.lst (wo_at W hl) Reps.ints)) (h ys h1 h2)⟩
  · exact h.elim
/-! l.extend(e) -/
def extSeq (x : SV) (μ : DSt) (ys : List SV) : Prop := match x with
  | .d (.tup ds) => ys = ds.map SV.d
  | .d (.lst ds) => ys = ds.map SV.d
  | .m n => μ[n]? = some (.lst ys)
  | _ => False
def extK (k : DK) (n : Nat) (x : SV) (μ : DSt) : Prop := ∃ xs ys, μ[n]? = some (.lst xs) ∧ extSeq x μ ys ∧ xs.length + ys.length ≤ sizeLine ∧ k (.d .non) (μ.set n (.lst (xs ++ ys)))
def dExt (to_ t : DTE) : DTE := fun ε μ k => to_ ε μ fun o μ1 => match o with
  | .m n => (∃ xs, μ1[n]? = some (.lst xs)) ∧ t ε μ1 (extK k n)
  | _ => False
theorem de_extend (ho : DE X B o ud td) (he : DE X B a ua ta) (hK : B.K = X.K := by rfl) (hbase : attributeBase o "extend" X.env (eval o X.env) = eval o X.env := by rfl)
    (hfew : ((backTo cpos (starEach [a] X.env)).all (fun x => !x.1) && (backToKw cpos (keywordEach [] X.env)).all (fun x => x.1.isSome) && decide ([a].length + ([] : List Keyword).length + (if ([] : List Keyword).isEmpty then 0 else 1) < 30)) = true := by rfl)
    (hline : (apos.endLine == cpos.line) = true := by rfl) (hs : starEach [a] X.env = (false, eval a X.env) :: starEach [] X.env := by rfl) (hplain : (backTo cpos (starEach [] X.env)).any (·.1) = false := by rfl) :
    DE X B (.Call (.Attribute o "extend" apos) [a] [] cpos) (tBM X.K "list" (rExtA X.K) ud (tCons ua tNil)) (dExt td ta) := by
  refine ⟨pe_bm PySem.F.plainAttrs_list PySem.F.slot_list_extend PySem.F.type_list_extend mt_extA ho.p (pa_cons he.p pa_nil hs) hbase hfew hline hs hplain, fun bb M σ H ε μ Φ Q at_ k q =>
  ho.s bb M σ H ε μ _ _ at_ (fun v M1 H1 x μ1 l1 w1 r1 q1 => ?_) q⟩
  split at q1
  · rename_i n
    obtain ⟨⟨xs, hm⟩, q1⟩ := q1
    obtain ⟨p, rfl, hp, us, hu, ru⟩ := r1.m_inv w1 hm
    refine ⟨.inl ⟨rfl, us, .inl (.inl hu)⟩, he.s bb M1 σ H1 ε μ1 _ _ (at_.next l1 w1) (fun w M2 H2 y μ2 l2 w2 r2 q2 => ?_) q1⟩
    obtain ⟨xs2, ys, hm2, hy, hz, q2⟩ := q2
    obtain ⟨p2, e2, hp2, us2, hu2, ru2⟩ := Rv.m_inv w2 (l2.srep r1) hm2
    cases e2
    have fin : ∀ (c : Addr) (ws : List V), w = .ref c → (H2 c = some (.lst ws) ∨ SqT X.K H2 c ws) → SReps B.K M2 (wo M2 H2) ws ys → rExtA X.K (.ref p) [w] H2 Q := fun c ws ew hc rw_ => by
      refine ⟨p, c, us2, ws, rfl, by rw [ew], hu2, hc, by rw [ru2.length, rw_.length]; exact hz, ?_⟩
      have w3 := wd_set (μ := μ2) (o := .lst (us2 ++ ws)) (mo := .lst (xs2 ++ ys)) w2 hp2 ⟨us2 ++ ws, upd_same, ru2.append rw_⟩
      exact k _ M2 _ _ _ ((l1.trans l2).trans (le_set w2 (mem_of_get hp2))) w3 (.d .non) q2
    unfold extSeq at hy
    split at hy
    · subst hy
      obtain ⟨c, ws, rfl, hc, rc⟩ := r2.tup_inv
      exact fin c ws rfl (.inr (by rw [← hK]; exact (wo_sub M2 H2).sqt hc)) (SReps.of rc)
    · subst hy
      obtain ⟨c, ws, rfl, hc, rc⟩ := r2.lst_inv
      exact fin c ws rfl (.inl ((wo_sub M2 H2).ex hc rfl)) (SReps.of rc)
    · obtain ⟨c, rfl, _, ws, hc, rc⟩ := Rv.m_inv w2 r2 hy
      exact fin c ws rfl (.inl hc) rc
    · exact hy.elim
  · exact q1.elim
/-! range with a step -/
def rangeC (lo c : Int) (n : Nat) : List SV := (List.range n).map fun i => .d (.int (lo + (i : Nat) * c))
theorem rangeC_len {lo c : Int} {n : Nat} : (rangeC lo c n).length = n := by unfold rangeC; rw [List.length_map, List.length_range]
theorem rangeC_get {lo c : Int} {n i : Nat} (h : i < n) : (rangeC lo c n)[i]? = some (.d (.int (lo + (i : Nat) * c))) := by
  unfold rangeC
  rw [List.getElem?_map, List.getElem?_range h]
  rfl
theorem walkd_rc {lo c : Int} {n : Nat} {M1 : Mk} {H1 : Hp} : WalkD B (Itc lo c n) (rangeC lo c n) (fun _ => True) M1 H1 := by
  refine ⟨fun M H μ i l w g h => by rw [rangeC_len] at h; exact h, fun M H μ l w g => Nat.le_of_eq rangeC_len.symm, fun M H μ i v H' l w g h y => ?_⟩
  rw [rangeC_len] at h
  obtain ⟨rfl, rfl⟩ := y
  exact ⟨_, rangeC_get h, Le.refl M _, w, .d (.int _)⟩
def diR3 (t : DTA) : DTI := fun ε μ Φ => t ε μ fun xs μ1 => match xs with
  | [.d (.int i), .d (.int j), .d (.int c)] => ∃ n, RgC i j c n ∧ Φ (rangeC i c n) (fun _ => True) μ1
  | _ => False
theorem di_range3 {tg : Expr} (hg : Gl X "range") (hm : X.mg "range" = none) (h : DA X B [a, b, c] ul tl) (hs : starEach [a, b, c] X.env = (false, eval a X.env) :: starEach [b, c] X.env := by rfl) (hpl : (backTo pos (starEach [b, c] X.env)).any (·.1) = false := by rfl) : DI X B tg (.Call (.Name "range" p) [a, b, c] [] pos) (iRng3 ul) (diR3 tl) :=
  ⟨pi_range3 hg hm h.p hs hpl, fun bb M σ H ε μ Φ R at_ k q => h.s bb M σ H ε μ _ _ at_ (fun v M1 H1 x μ1 l1 w1 r1 q1 => by
    split at q1
    · obtain ⟨n, hn, q1⟩ := q1
      cases r1 with
      | cons r1 r2 => cases r2 with
        | cons r2 r3 => cases r3 with
          | cons r3 r4 =>
            cases r4
            rw [Rv.int_inv r1, Rv.int_inv r2, Rv.int_inv r3]
            exact ⟨_, _, _, n, rfl, hn, k _ M1 H1 _ _ μ1 l1 w1 walkd_rc q1⟩
    · exact q1.elim) q⟩
/-! o.f as a target -/
theorem pg_fld {f : Str} (ho : PE X o ud) : PG X (.Attribute o f pos) (fun v σ H Q => ud σ H fun x H1 => ∃ a C dx fs, x = .ref a ∧ H1 a = some (.ins C dx fs) ∧ Cls X.K C ∧ NoAttr X.K C f ∧ fs.length < 1000 ∧ Q σ (upd H1 a (.ins C dx (L2.putF f v fs)))) := by
  refine ⟨fun pins s σ H v u Q I r h => ?_⟩
  rw [PySem.assign_Attribute]
  refine wpAny_bind (wpAny_holding (thn (ho.run pins s σ H _ I h) fun ov s1 ⟨x, H1, I1, rx, a, C, dx, fs, ex, ea, c, n, l, q⟩ => ?_))
  subst ex
  obtain rfl : ov = Value.ref a := rx
  refine wpAny_bind (wpAny_standAt (wpAny_bind (wpAny_holding (setattr_ok I1 ea c n l r fun s3 I3 => ?_))))
  exact wpAny_release ⟨σ, _, I3, q⟩
def fldK (K : PySem.W.Frag) (f : Str) (z : SV) (ε : DEnv) (Φ : DEnv → DSt → Prop) (x : SV) (μ : DSt) : Prop := match x with
  | .m n => ∃ C fs, μ[n]? = some (.obj C fs) ∧ Cls K C ∧ NoAttr K C f ∧ fs.length < 1000 ∧ Φ ε (μ.set n (.obj C (putG f z fs)))
  | _ => False
def dgFld (K : PySem.W.Frag) (f : Str) (t : DTE) : DTG := fun z ε μ Φ => t ε μ (fldK K f z ε Φ)
theorem dg_fld {f : Str} (hd : DE X B o ud td) (hK : B.K = X.K := by rfl) : DG X B (.Attribute o f pos) (fun v σ H Q => ud σ H fun x H1 => ∃ a C dx fs, x = .ref a ∧ H1 a = some (.ins C dx fs) ∧ Cls X.K C ∧ NoAttr X.K C f ∧ fs.length < 1000 ∧ Q σ (upd H1 a (.ins C dx (L2.putF f v fs)))) (dgFld B.K f td) :=
  ⟨pg_fld hd.p, fun bb M σ H ε μ v z Φ Q at_ r k q => hd.s bb M σ H ε μ _ _ at_ (fun u M2 H2 x μ2 l2 w2 r2 q2 => by
    unfold fldK at q2
    split at q2
    · obtain ⟨C, fs, hm, c, na, hz, q2⟩ := q2
      obtain ⟨p, dx, ws, rfl, hpi, hp, kr⟩ := r2.mobj_inv w2 hm
      have rp := kr.putF (f := f) (l2.srep r)
      have l3 := le_set (o := .ins C dx (L2.putF f v ws)) w2 (mem_of_get hpi)
      refine ⟨p, C, dx, ws, rfl, hp, by rw [← hK]; exact c, by rw [← hK]; exact na, by rw [kr.length]; exact hz, ?_⟩
      exact k M2 σ _ ε _ (l2.trans l3) ((at_.next l2 w2).next l3 (wd_set (o := .ins C dx (L2.putF f v ws)) (mo := .obj C (putG f z fs)) w2 hpi ⟨dx, _, upd_same, rp.keys, rp.vals⟩)) q2
    · exact q2.elim) q⟩
/-! xs * n -/
def dRep : SV → SV → DSt → DK → Prop
  | .d (.lst ds), .d (.int n), μ, Φ => -(2 ^ 63) ≤ n ∧ n < 2 ^ 63 ∧ ds.length * n.toNat ≤ sizeLine ∧ Φ (.d (.lst (List.replicate n.toNat ds).flatten)) μ
  | _, _, _, _ => False
theorem Reps.rep {K : PySem.W.Frag} {G : Hp} {vs : List V} {ds : List D} (r : Reps K G vs ds) : ∀ n : Nat, Reps K G (List.replicate n vs).flatten (List.replicate n ds).flatten
  | 0 => .nil
  | n + 1 => by
    rw [List.replicate_succ, List.replicate_succ, List.flatten_cons, List.flatten_cons]
    exact r.append (Reps.rep r n)
theorem sim_rep : SimR B rRep dRep := fun M H μ v w x y Φ Q W rx ry k h => by
  unfold dRep at h
  split at h
  · obtain ⟨h1, h2, h3, h⟩ := h
    obtain ⟨p, us, rfl, hp, rp⟩ := rx.lst_inv
    exact ⟨p, _, us, rfl, ry.int_inv, (wo_sub M H).ex hp rfl, h1, h2, by rw [rp.length]; exact h3, fun l hl => k _ M _ _ μ (le_new W hl) (wd_new W hl) (.d (.lst (wo_at W hl) ((rp.rep _).mono (wo_new hl)))) h⟩
  · exact h.elim
theorem de_rep (ha : DE X B a ua ta) (hb : DE X B b ub tb) : DE X B (.BinOp a .Mult b pos) (tOp rRep ua ub) (dOp dRep ta tb) := de_op op_rep sim_rep ha hb
/-! calls of defs that may raise and here never do -/
def DX0 : DX := fun _ _ _ => False
theorem de_cN {lvl : Nat} {ps : List Str} {d : DSp} {x : Str} (C : CalleeX X.prog X.w X.K X.mg X.base x lvl ps d) (hr : Room lvl X.A) (hg : Gl X x) (ha : DA X B (e :: es) ul tl)
    (hK : B.K = X.K := by rfl) (hdb : (x == ("__debug__" : Str)) = false := by decide) (he : starEach (e :: es) X.env = (false, eval e X.env) :: starEach es X.env := by rfl) (hpl : (backTo pos (starEach es X.env)).any (·.1) = false := by rfl) :
    DE X B (.Call (.Name x p) (e :: es) [] pos) (tCall (toSp B.K d) [] (fun _ _ _ => False) ul) (dCall d DX0 tl) := by
  obtain ⟨Kb, Eb, Ψb⟩ := B
  have hK : Kb = X.K := hK
  subst hK
  obtain ⟨f, fd, F, hm, hk, hb⟩ := C.ex
  refine ⟨pe_call F hr hg hm hk hb .nil (fun _ _ _ _ _ _ _ z => ?_) ha.p hdb he hpl, fun bb M σ H ε μ Φ Q at_ k q => ha.s bb M σ H ε μ _ _ at_ (fun vs M1 H1 xs μ1 l1 w1 r1 q1 => ?_) q⟩
  · obtain ⟨_, _, _, _, _, _, _, _, _, _, _, _, z⟩ := z
    exact z.elim
  · rw [List.append_nil]
    exact ⟨M1, μ1, xs, Φ, DX0, w1, r1, fun v M2 H2 y μ2 l2 => k v M2 H2 y μ2 (l1.trans l2), fun cls dp M2 H2 fs μ2 _ _ _ z => z, q1⟩
end
/-! isinstance(e, C) of the caught error -/
def rIsG (K : PySem.W.Frag) (D a : Addr) (cls : Value) (d : Option Addr) : List V → Hp → VK → Prop := fun xs H Q => cls = .ref D ∧ ∃ dd, d = some dd ∧ rIsF K D a dd xs H Q
theorem call_isG {X : Cx} {a D : Addr} {oe : Obj} {cls : Value} {d : Option Addr} {pn : List (Addr × Obj)} (C : ExcC X.K D) (hz : Zc cls d oe) (hf : ∃ vs, oe.data = .fields vs) : CallR (X.suite a ((a, oe) :: pn)) (.builtin "isinstance") (rIsG X.K D a cls d) := by
  rintro pins s σ H xs us Q I r ⟨rfl, dd, rfl, h⟩
  exact call_isF C hz hf pins s σ H xs us Q I r h
def isFK (K : PySem.W.Frag) (D a : Addr) (cls : Value) (fs : List (Str × DV.D)) (k : DK) (xs : List SV) (μ : DSt) : Prop := match xs with
  | [.d (.ref b), .d c] => fs ≠ [] ∧ b = a ∧ cls = .ref D ∧ ∃ (cv : Value) (r : Bool), (c = .ty "ValueError" ∧ cv = .type "ValueError" ∨ ∃ C, c = .ref C ∧ cv = .ref C) ∧ PySem.W.kitOne K (.ref D) cv = some r ∧ k (.d (.bl r)) μ
  | _ => False
def dIsF (K : PySem.W.Frag) (D a : Addr) (cls : Value) (fs : List (Str × DV.D)) (t : DTA) : DTE := fun ε μ k => t ε μ (isFK K D a cls fs k)
theorem de_isF {X : Cx} {B : Bs} {a D : Addr} {oe : Obj} {cls : Value} {d : Option Addr} {fs : List (Str × DV.D)} {pn : List (Addr × Obj)} {e c : Expr} {p pos : Pos} {tl : DTA} {ul : TA} (C : ExcC X.K D) (hz : Zc cls d oe) (hf : ∃ vs, oe.data = .fields vs)
    (hg : Gl X "isinstance") (hm : X.mg "isinstance" = none) (ha : DA (X.suite a ((a, oe) :: pn)) B [e, c] ul tl) (hJ : ∀ M H, B.J M H → XRep B.K (wo M H) H d fs) (hK : B.K = X.K := by rfl)
    (he : starEach [e, c] X.env = (false, eval e X.env) :: starEach [c] X.env := by rfl) (hpl : (backTo pos (starEach [c] X.env)).any (·.1) = false := by rfl) :
    DE (X.suite a ((a, oe) :: pn)) B (.Call (.Name "isinstance" p) [e, c] [] pos) (tCB (rIsG X.K D a cls d) ul) (dIsF B.K D a cls fs tl) := by
  refine ⟨pe_callB (X := X.suite a ((a, oe) :: pn)) (call_isG C hz hf) hg hm (by decide +kernel) ha.p (by decide) (by decide) he hpl, fun bb M σ H ε μ Φ Q az k q => ha.s bb M σ H ε μ _ _ az (fun vs M1 H1 xs μ1 l1 w1 r1 q1 => ?_) q⟩
  unfold isFK at q1
  split at q1
  · obtain ⟨hne, rfl, rfl, cv, r, hc, hk, q1⟩ := q1
    obtain ⟨u, w, rfl, ru, rw_⟩ := two_inv r1
    have xr := hJ M1 H1 (bb.hJ M1 H1 (az.le.trans l1))
    obtain rfl : u = .ref _ := by cases ru with | d r => cases r; rfl
    cases d with
    | none => exact absurd xr hne
    | some dd =>
      obtain ⟨ws, hw, _, _⟩ := xr
      refine ⟨rfl, dd, rfl, ⟨ws, (wo_sub M1 H1).ex hw rfl⟩, w, cv, r, rfl, fun v rv => ?_, by rw [← hK]; exact hk, k _ M1 H1 _ μ1 l1 w1 (.d (.bl _)) q1⟩
      rcases hc with ⟨rfl, rfl⟩ | ⟨C, rfl, rfl⟩
      · cases rw_ with | d r => cases r; exact rv
      · cases rw_ with | d r => cases r; exact rv
  · exact q1.elim
end DV

set_option Elab.async false
set_option linter.all false
set_option maxRecDepth 100000
namespace DV
open PySem PySem.Spec PyProof.Rows L2
/-- a place for what a body raises -/
theorem tr_xe {X : Cx} (hs : X.stack = X.env :: X.outer) (hf : X.env.frame = some X.env.locals) (pn : List (Addr × Obj)) (W : WX) : ∃ xe, Takes (X.tr pn xe) W ∧ PassesOwn (model X.prog X.w) X.A X.env xe := by
  refine ⟨fun e s => wpAny (model X.prog X.w) X.A (noteFrame e X.env) (fun _ s2 => wpAny (model X.prog X.w) X.A (setFlight e none) (fun _ _ => True) X.xe s2) X.xe s, fun u s' xx => ?_, PassesOwn.looking⟩
  obtain ⟨a, Bh, sI, pins', σ', H', cls, d, rfl, J', nb, up, sky, na, os, ag, _⟩ := xx
  have sky' : Sky Bh (X.env :: X.outer) a (Zc cls d) X.env.locals s'.heap := by rw [← hs]; exact sky
  have hfr : X.A.frames = some (X.env :: X.outer) := by rw [← hs]; exact J'.ok.frames
  exact Sky.land Zc.steady hfr hf sky' fun _ _ _ => trivial
section
variable {X : Cx} {B : Bs} {x n : Str} {c : Value} {i : Nat} {body suite : List Stmt} {b₀ : Stmt} {np pos pos' : Pos} {tb : WX → TS} {ts : Addr → Value → Option Addr → TS} {db : (DEnv → DX) → DTS} {dsu : Addr → Value → List (Str × D) → DTS}
theorem ds_try (hs : X.stack = X.env :: X.outer) (hf : X.env.frame = some X.env.locals) (hN : X.N.Nodup) (hi : X.N[i]? = some n) (hln : X.env.kindOf n = some .local) (hc : Names X x c) (tk : Takes X (fun cls d _ H => B.E cls d H))
    (hb : ∀ (W : WX) (ΨS : DEnv → DX) (pn : List (Addr × Obj)) (xe : Value → Shared → Prop), Takes (X.tr pn xe) W → PassesOwn (model X.prog X.w) X.A X.env xe → DSs (X.tr pn xe) { K := B.K, E := B.E, Ψ := B.Ψ, ES := fun σ cls d H => W cls d σ H, ΨS := ΨS, J := B.J } body (tb W) (db ΨS))
    (hsu : ∀ (a : Addr) (oe : Obj) (cls : Value) (d : Option Addr) (pn : List (Addr × Obj)) (fs : List (Str × D)), Zc cls d oe → (∃ vs, oe.data = .fields vs) →
      DSs (X.suite a ((a, oe) :: pn)) { K := B.K, E := B.E, Ψ := B.Ψ, ES := B.ES, ΨS := B.ΨS, J := fun M H => B.J M H ∧ XRep B.K (wo M H) H d fs } (b₀ :: suite) (ts a cls d) (dsu a cls fs))
    (hK : B.K = X.K := by rfl) :
    DS X B (.Try body [.ExceptHandler (some (.Name x np)) (some n) (b₀ :: suite) pos'] [] [] pos) (fun D σ H => tb (wAs X.K c i ts (fun cls d _ H => B.E cls d H) D) D σ H) (dTryAs B.K c i B.Ψ db dsu) :=
  ds_tryAs hs hf hN hi hln hc tk hb (fun W ΨS => by
    obtain ⟨xe, t, p⟩ := tr_xe hs hf [] W
    exact (hb W ΨS [] xe t p).s) hsu hK
end
/-! rules within a try's body: the base by its parts -/
section
variable {X : Cx} {K : PySem.W.Frag} {E : XK} {Ψ : DX} {ES : L2.St → XK} {ΨS : DEnv → DX} {J : DV.Mk → Hp → Prop} {a b e : Expr} {es : List Expr} {pos p : Pos} {tl : DTA} {ul : TA} {lvl : Nat} {ps : List Str} {d : DSp} {x : Str} {ta tb : DTE} {ua ub : TE}
theorem de_cS2 (C : CalleeX X.prog X.w X.K X.mg X.base x lvl ps d) (hr : Room lvl X.A) (hg : Gl X x) (hx : ∀ σ, PassesAt (L2.CX X.prog X.w) X σ (ES σ)) (ha : DA X ⟨K, E, Ψ, ES, ΨS, J⟩ (e :: es) ul tl)
    (hK : K = X.K := by rfl) (hdb : (x == ("__debug__" : Str)) = false := by decide) (he : starEach (e :: es) X.env = (false, eval e X.env) :: starEach es X.env := by rfl) (hpl : (backTo pos (starEach es X.env)).any (·.1) = false := by rfl) :
    DE X ⟨K, E, Ψ, ES, ΨS, J⟩ (.Call (.Name x p) (e :: es) [] pos) (tCallS (toSp K d) ES ul) (dCallS d ΨS tl) := de_cS (B := ⟨K, E, Ψ, ES, ΨS, J⟩) C hr hg hx ha hK hdb he hpl
theorem de_c12 (C : Callee X.prog X.w X.K X.mg X.base x lvl ps d) (hr : Room lvl X.A) (hg : Gl X x) (ha : DA X ⟨K, E, Ψ, ES, ΨS, J⟩ (e :: es) ul tl)
    (hK : K = X.K := by rfl) (hdb : (x == ("__debug__" : Str)) = false := by decide) (he : starEach (e :: es) X.env = (false, eval e X.env) :: starEach es X.env := by rfl) (hpl : (backTo pos (starEach es X.env)).any (·.1) = false := by rfl) :
    DE X ⟨K, E, Ψ, ES, ΨS, J⟩ (.Call (.Name x p) (e :: es) [] pos) (tCall (toSp K d) [] E ul) (dCall d Ψ tl) := de_c1 (B := ⟨K, E, Ψ, ES, ΨS, J⟩) C hr hg ha hK hdb he hpl
theorem de_eq2 (hu : X.A.units + 64 < cLine) (ha : DE X ⟨K, E, Ψ, ES, ΨS, J⟩ a ua ta) (hb : DE X ⟨K, E, Ψ, ES, ΨS, J⟩ b ub tb) (hK : K = X.K := by rfl) : DE X ⟨K, E, Ψ, ES, ΨS, J⟩ (.Compare a [.Eq] [b] pos) (tOp (rEqD K) ua ub) (dOp (dEqD false) ta tb) := de_eq (B := ⟨K, E, Ψ, ES, ΨS, J⟩) hu ha hb hK
theorem de_isF2 {D : Addr} {aa : Addr} {oe : Obj} {cls : Value} {dd : Option Addr} {fs : List (Str × DV.D)} {pn : List (Addr × Obj)} {e c : Expr} (C : ExcC X.K D) (hz : Zc cls dd oe) (hf : ∃ vs, oe.data = .fields vs)
    (hg : Gl X "isinstance") (hm : X.mg "isinstance" = none) (ha : DA (X.suite aa ((aa, oe) :: pn)) ⟨K, E, Ψ, ES, ΨS, J⟩ [e, c] ul tl) (hJ : ∀ M H, J M H → XRep K (wo M H) H dd fs) (hK : K = X.K := by rfl)
    (he : starEach [e, c] X.env = (false, eval e X.env) :: starEach [c] X.env := by rfl) (hpl : (backTo pos (starEach [c] X.env)).any (·.1) = false := by rfl) :
    DE (X.suite aa ((aa, oe) :: pn)) ⟨K, E, Ψ, ES, ΨS, J⟩ (.Call (.Name "isinstance" p) [e, c] [] pos) (tCB (rIsG X.K D aa cls dd) ul) (dIsF K D aa cls fs tl) := de_isF (B := ⟨K, E, Ψ, ES, ΨS, J⟩) C hz hf hg hm ha hJ hK he hpl
end
/-- as de_not; its word at the end keeps the wish back until the reading is known -/
theorem de_notX {X : Cx} {B : Bs} {a : Expr} {pos : Pos} {ua : TE} {ta : DTE} (ha : DE X B a ua ta) (hq : True := by trivial) : DE X B (.UnaryOp .Not a pos) (tNotV ua) (dNotV ta) := de_not ha
/-- the rule for a def that raises nothing, a try in it -/
theorem dfnT {P : Program} {w : World} {K : PySem.W.Frag} {mg : Str → Option Value} {base : Heap} {x qual : Str} {st : Stmt} {f : Addr} {fd : FuncData} {N ps : List Str} {k : Nat} {d : DSp} (F : Fun K x qual st f fd) (S : FnScope N ps (defScope st)) (len : ∀ xs μ Φ Ψ, d xs μ Φ Ψ → xs.length = ps.length) (hN : ps.length ≤ N.length)
    (hbody : ∀ (cdv : Value) (A : Around) (outer : List Env) (s : Shared) (H : Hp) (E : XK), Room k (A.deeper (envOfC qual (defScope st) s.heap.objs.size f cdv)) →
      ∃ u t, DSs (cxOf CX0 P w K mg base N qual (defScope st) f cdv A outer s H E).nox { K := K, E := fun _ _ _ => False, Ψ := DX0 } (defBody st) u t ∧ ∀ xs μ Φ Ψ, d xs μ Φ Ψ → t { nx := fun _ μ => Φ (.d .non) μ, rt := Φ, fl := μ.length } (dstart N.length xs) μ) : FnOk P w K mg base CX0 (k + 1) f fd ps (toSp K d) := by
  refine F.ok S (fun vs H Q E h => ?_) (fun cdv A outer s H vs Q E hr h => ?_)
  · obtain ⟨M, μ, xs, Φ, Ψ, _, r, _, _, q⟩ := h
    rw [r.length]
    exact len _ _ _ _ q
  · obtain ⟨M, μ, xs, Φ, Ψ, W, r, kq, ke, q⟩ := h
    obtain ⟨u, t, hd, ht⟩ := hbody cdv A outer s H E hr
    refine ⟨u, hd.p, ?_⟩
    let bb : Ba { K := K, E := fun _ _ _ => False, Ψ := DX0 } := ⟨M, H, fun _ _ _ _ _ _ _ _ _ z => z, fun _ _ _ _ _ _ _ _ _ _ _ _ z => z, fun _ _ _ => trivial⟩
    refine hd.s bb M (L2.start N vs) H (dstart N.length xs) μ _ _ ⟨Le.refl M H, W, start_env r (by rw [len _ _ _ _ q]; exact hN)⟩ ⟨?_, ?_, ?_, ?_, Nat.le_of_eq W.len⟩ (ht xs μ Φ Ψ q)
    · exact fun M1 σ1 H1 ε1 μ1 a1 q1 => kq .non M1 H1 _ μ1 a1.le a1.wd (.d .non) q1
    · exact fun v M1 H1 x μ1 l1 w1 r1 q1 => kq v M1 H1 x μ1 l1 w1 r1 q1
    · exact fun M1 σ1 H1 ε1 μ1 a1 q1 => q1.elim
    · exact fun M1 σ1 H1 ε1 μ1 a1 q1 => q1.elim
end DV

set_option Elab.async false
set_option linter.all false
set_option maxRecDepth 100000
namespace DV
open PySem PySem.Spec PyProof.Rows L2
section
variable {Φ : DEnds} {ε : DEnv} {μ : DSt} {k : DK} {ta tb tc td : DTE} {t u : DTS} {g : DTG} {tl tk : DTA} {b : Bool} {tt uu : DTT} {A C : Prop}
/-! steps -/
def strK (f : List SV → (DSt → Prop) → DSt → Prop) (x : SV) (μ1 : DSt) : Prop := match x with
  | .d (.str z) => f ((signs z).map SV.d) (fun _ => True) μ1
  | _ => False
theorem l_strI {f : List SV → (DSt → Prop) → DSt → Prop} (h : ta ε μ (strK f)) : diStr ta ε μ f := h
theorem l_strK {z : Str} {f : List SV → (DSt → Prop) → DSt → Prop} (h : f ((signs z).map SV.d) (fun _ => True) μ) : strK f (.d (.str z)) μ := h
def sxK (tb : DTE) (ε : DEnv) (k : DK) (x : SV) (μ : DSt) : Prop := isStr x ∧ tb ε μ (sindexK k x)
theorem l_sindex (h : ta ε μ (sxK tb ε k)) : dSindex ta tb ε μ k := h
theorem l_sxK {z : Str} (h : tb ε μ (sindexK k (.d (.str z)))) : sxK tb ε k (.d (.str z)) μ := ⟨trivial, h⟩
theorem l_sindexK {s z : Str} {i : Nat} {rest : List Nat} (e : Builtin.Str.occurrences s z 0 s.length 1 = i :: rest) (h : k (.d (.int (i : Nat))) μ) : sindexK k (.d (.str s)) (.d (.str z)) μ := ⟨i, rest, e, h⟩
theorem l_lenDD {kvs : List (Key × D)} (h : k (.d (.int (kvs.length : Nat))) μ) : dLenD [.d (.dct kvs)] μ k := ⟨_, rfl, by rw [List.length_map]; exact h⟩
theorem l_lenDM {n : Nat} {kvs : List (Key × SV)} (hm : μ[n]? = some (.dct kvs)) (h : k (.d (.int (kvs.length : Nat))) μ) : dLenD [.m n] μ k := ⟨kvs, .inl hm, h⟩
theorem l_sortedD {kvs : List (Key × D)} {ks : List Int} (hk : kvs.map Prod.fst = ks.map Sum.inl) (hz : ks.length < 64) (h : ∀ ys : List Int, ys.Perm ks → ys.Pairwise (· ≤ ·) → k (.d (.lst (dints ys))) μ) : dSortedDI [.d (.dct kvs)] μ k := ⟨_, ks, rfl, by rw [map_fst_d]; exact hk, hz, h⟩
def extK0 (t : DTE) (ε : DEnv) (k : DK) (o : SV) (μ1 : DSt) : Prop := match o with
  | .m n => (∃ xs, μ1[n]? = some (.lst xs)) ∧ t ε μ1 (extK k n)
  | _ => False
theorem l_ext (h : ta ε μ (extK0 tb ε k)) : dExt ta tb ε μ k := h
theorem l_extM {n : Nat} {xs : List SV} (hm : μ[n]? = some (.lst xs)) (h : tb ε μ (extK k n)) : extK0 tb ε k (.m n) μ := ⟨⟨xs, hm⟩, h⟩
theorem l_extT {n : Nat} {xs : List SV} {ds : List D} (hm : μ[n]? = some (.lst xs)) (hz : xs.length + ds.length ≤ sizeLine) (h : k (.d .non) (μ.set n (.lst (xs ++ ds.map SV.d)))) : extK k n (.d (.tup ds)) μ := ⟨xs, _, hm, rfl, by rw [List.length_map]; exact hz, h⟩
theorem l_extL {n : Nat} {xs : List SV} {ds : List D} (hm : μ[n]? = some (.lst xs)) (hz : xs.length + ds.length ≤ sizeLine) (h : k (.d .non) (μ.set n (.lst (xs ++ ds.map SV.d)))) : extK k n (.d (.lst ds)) μ := ⟨xs, _, hm, rfl, by rw [List.length_map]; exact hz, h⟩
def r3K (f : List SV → (DSt → Prop) → DSt → Prop) (xs : List SV) (μ1 : DSt) : Prop := match xs with
  | [.d (.int i), .d (.int j), .d (.int c)] => ∃ n, RgC i j c n ∧ f (rangeC i c n) (fun _ => True) μ1
  | _ => False
theorem l_rng3 {f : List SV → (DSt → Prop) → DSt → Prop} (h : tl ε μ (r3K f)) : diR3 tl ε μ f := h
theorem rgC_of {i j c : Int} {n : Nat} (hc : 0 < c) (hc2 : c < 1073741824) (hi : -(2 ^ 62) ≤ i) (hi2 : i < 2 ^ 62) (hj : -(2 ^ 62) ≤ j) (hj2 : j < 2 ^ 62) (hn : (n : Int) = if i < j then (j - i - 1) / c + 1 else 0) : RgC i j c n := by
  refine ⟨by omega, by omega, ?_, ?_⟩
  · have hq : i < j → (j - i - 1) / c ≤ j - i - 1 ∧ 0 ≤ (j - i - 1) / c := fun h => ⟨by
      exact Int.ediv_le_self c (by omega), Int.ediv_nonneg (by omega) (by omega)⟩
    unfold Builtin.Range.small Builtin.Range.rangeSize
    rw [if_pos hc]
    simp only [Builtin.Range.rangeFitsLong, Bool.and_eq_true, Bool.or_eq_true, decide_eq_true_eq, beq_iff_eq, hc, if_true]
    split
    · rename_i h
      have := hq h
      omega
    · omega
  · unfold Builtin.Range.rangeSize
    rw [if_pos hc, hn]
theorem l_r3 {i j c : Int} {n : Nat} {f : List SV → (DSt → Prop) → DSt → Prop} (hn : RgC i j c n) (h : f (rangeC i c n) (fun _ => True) μ) : r3K f [.d (.int i), .d (.int j), .d (.int c)] μ := ⟨n, hn, h⟩
theorem l_dgFld {K : PySem.W.Frag} {f : Str} {z : SV} {F : DEnv → DSt → Prop} (h : ta ε μ (fldK K f z ε F)) : dgFld K f ta z ε μ F := h
theorem l_fldK {K : PySem.W.Frag} {f : Str} {z : SV} {F : DEnv → DSt → Prop} {n : Nat} {C : Addr} {fs : List (Str × SV)} (hm : μ[n]? = some (.obj C fs)) (c : Cls K C) (na : NoAttr K C f) (hz : fs.length < 1000) (h : F ε (μ.set n (.obj C (putG f z fs)))) : fldK K f z ε F (.m n) μ := ⟨C, fs, hm, c, na, hz, h⟩
theorem l_rep {ds : List D} {n : Int} (h1 : -(2 ^ 63) ≤ n) (h2 : n < 2 ^ 63) (hz : ds.length * n.toNat ≤ sizeLine) (h : k (.d (.lst (List.replicate n.toNat ds).flatten)) μ) : dRep (.d (.lst ds)) (.d (.int n)) μ k := ⟨h1, h2, hz, h⟩
theorem l_make {C0 : Addr} {d : DSp} {dd : List D} {Ψ : DX} (h : tl ε μ fun xs μ1 => d (.m μ1.length :: (xs ++ dd.map SV.d)) (μ1 ++ [.obj C0 []]) (fun y μ2 => y = .d .non ∧ k (.m μ1.length) μ2) Ψ) : dMake C0 d dd Ψ tl ε μ k := h
theorem l_raise {C0 : Addr} {fl : Str} {Ψ : DX} (h : tl ε μ fun xs μ1 => ∃ x, xs = [.d x] ∧ Ψ (.ref C0) [(fl, x)] μ1) : dRaise C0 fl Ψ tl Φ ε μ := h
theorem l_xf {a : Addr} {cls : Value} {fs : List (Str × D)} {C0 : Addr} {f : Str} (h : ta ε μ fun x μ1 => x = .d (.ref a) ∧ cls = .ref C0 ∧ ∃ z, fs.lookup f = some z ∧ k (.d z) μ1) : dXf a cls fs C0 f ta ε μ k := h
theorem l_isF {K : PySem.W.Frag} {C0 a : Addr} {cls : Value} {fs : List (Str × D)} (h : tl ε μ (isFK K C0 a cls fs k)) : dIsF K C0 a cls fs tl ε μ k := h
theorem l_isFR {K : PySem.W.Frag} {C0 a D0 : Addr} {r : Bool} {f : Str × D} {fs : List (Str × D)} (e : PySem.W.kitOne K (.ref C0) (.ref D0) = some r) (h : k (.d (.bl r)) μ) : isFK K C0 a (.ref C0) (f :: fs) k [.d (.ref a), .d (.ref D0)] μ := ⟨List.cons_ne_nil _ _, rfl, rfl, .ref D0, r, .inr ⟨D0, rfl, rfl⟩, e, h⟩
theorem l_isFV {K : PySem.W.Frag} {C0 a : Addr} {r : Bool} {f : Str × D} {fs : List (Str × D)} (e : PySem.W.kitOne K (.ref C0) (.type "ValueError") = some r) (h : k (.d (.bl r)) μ) : isFK K C0 a (.ref C0) (f :: fs) k [.d (.ref a), .d (.ty "ValueError")] μ := ⟨List.cons_ne_nil _ _, rfl, rfl, .type "ValueError", r, .inl ⟨rfl, rfl⟩, e, h⟩
theorem l_callS {d : DSp} {ΨS : DEnv → DX} (h : tl ε μ fun xs μ1 => d xs μ1 k (ΨS ε)) : dCallS d ΨS tl ε μ k := h
theorem l_clo (h : Clo μ → t Φ ε μ) : dClo t Φ ε μ := h
theorem l_fzS {μ0 μ0' : DSt} {mo : MO} {d : D} {ε' : DEnv} (h1 : Rest mo d) (h2 : Φ.fl ≤ μ0.length) (e1 : frz μ0.length d ε = ε') (e2 : μ0.map (MO.frz μ0.length d) = μ0') (h : t Φ ε' μ0') : dFzS t Φ ε (μ0 ++ [mo]) := ⟨μ0, mo, d, rfl, h1, h2, by rw [e1, e2]; exact h⟩
/-- what was there ahead is not told anew -/
theorem frz_old {n : Nat} {d : D} (h : Clo μ) (hn : μ.length ≤ n) : μ.map (MO.frz n d) = μ := map_frz_clo fun mo hm => (h mo hm).le hn
/-! comprehensions without effects -/
theorem lc_det {xs : List SV} {ws : List Nat} (F : Nat → D) (hz : xs.length < sizeLine)
    (hs : ∀ (i : Nat) x (I : Nat → List D → DSt → Prop) acc, xs[i]? = some x → I (i + 1) (acc ++ [F i]) μ → g x (dwipe ε ws) μ fun ε2 μ2 => tt ε2 μ2 fun b μ3 => bcase b (ta ε2 μ3 (elK I i acc)) (I (i + 1) acc μ3)) (hd : k (.d (.lst ((List.range xs.length).map F))) μ) :
    lcK g tt ta ws k ε xs (fun _ => True) μ := by
  refine ⟨fun i acc μ' => acc = (List.range i).map F ∧ μ' = μ, ⟨rfl, rfl⟩, fun i acc μ' hi hI => ⟨trivial, by rw [hI.1, List.length_map, List.length_range]; omega⟩, fun i x acc μ' hx hI => ?_, fun acc μ' hI => by rw [hI.1, hI.2]; exact hd⟩
  obtain ⟨rfl, rfl⟩ := hI
  exact hs i x _ _ hx ⟨by rw [List.range_succ, List.map_append]; rfl, rfl⟩
theorem lc_mapD {ds : List D} {ws : List Nat} (F : D → D) (hz : ds.length < sizeLine)
    (hs : ∀ (i : Nat) x (I : Nat → List D → DSt → Prop) acc, ds[i]? = some x → I (i + 1) (acc ++ [F x]) μ → g (.d x) (dwipe ε ws) μ fun ε2 μ2 => tt ε2 μ2 fun b μ3 => bcase b (ta ε2 μ3 (elK I i acc)) (I (i + 1) acc μ3)) (hd : k (.d (.lst (ds.map F))) μ) :
    lcK g tt ta ws k ε (ds.map SV.d) (fun _ => True) μ := by
  refine ⟨fun i acc μ' => acc = (ds.take i).map F ∧ μ' = μ, ⟨rfl, rfl⟩, fun i acc μ' hi hI => ⟨trivial, by rw [hI.1, List.length_map, List.length_take]; omega⟩, fun i x acc μ' hx hI => ?_, fun acc μ' hI => by rw [hI.1, hI.2, List.length_map, List.take_length]; exact hd⟩
  obtain ⟨rfl, rfl⟩ := hI
  rw [List.getElem?_map] at hx
  obtain ⟨y, hy, e⟩ := Option.map_eq_some_iff.mp hx
  cases e
  refine hs i y _ _ hy ⟨?_, rfl⟩
  have hl := (List.getElem?_eq_some_iff.mp hy)
  obtain ⟨hl, e⟩ := hl
  rw [List.take_succ_eq_append_getElem hl, List.map_append, e]
  rfl
/-- some of them -/
theorem lc_filD {ds : List D} {ws : List Nat} (p : D → Bool) (F : D → D) (hz : ds.length < sizeLine)
    (hs : ∀ (i : Nat) x (I : Nat → List D → DSt → Prop) acc, ds[i]? = some x → (p x = true → I (i + 1) (acc ++ [F x]) μ) → (p x = false → I (i + 1) acc μ) → g (.d x) (dwipe ε ws) μ fun ε2 μ2 => tt ε2 μ2 fun b μ3 => bcase b (ta ε2 μ3 (elK I i acc)) (I (i + 1) acc μ3)) (hd : k (.d (.lst ((ds.filter p).map F))) μ) :
    lcK g tt ta ws k ε (ds.map SV.d) (fun _ => True) μ := by
  refine ⟨fun i acc μ' => acc = ((ds.take i).filter p).map F ∧ μ' = μ, ⟨rfl, rfl⟩, fun i acc μ' hi hI => ⟨trivial, ?_⟩, fun i x acc μ' hx hI => ?_, fun acc μ' hI => by rw [hI.1, hI.2, List.length_map, List.take_length]; exact hd⟩
  · rw [hI.1, List.length_map]
    have := List.length_filter_le p (ds.take i)
    rw [List.length_take] at this
    omega
  obtain ⟨rfl, rfl⟩ := hI
  rw [List.getElem?_map] at hx
  obtain ⟨y, hy, e⟩ := Option.map_eq_some_iff.mp hx
  cases e
  have hl := (List.getElem?_eq_some_iff.mp hy)
  obtain ⟨hl, e⟩ := hl
  refine hs i y _ _ hy (fun hp => ⟨?_, rfl⟩) fun hp => ⟨?_, rfl⟩
  · rw [List.take_succ_eq_append_getElem hl, List.filter_append, List.map_append, e, List.filter_cons_of_pos hp]
    rfl
  · rw [List.take_succ_eq_append_getElem hl, List.filter_append, e, List.filter_cons_of_neg (by rw [hp]; exact Bool.false_ne_true)]
    simp
end
/-! ### the store's end -/
theorem at_app0 {μ0 l : DSt} {x : MO} : (μ0 ++ x :: l)[μ0.length]? = some x := by
  rw [List.getElem?_append_right (Nat.le_refl _), Nat.sub_self]
  rfl
theorem at_app {μ0 l : DSt} {i : Nat} : (μ0 ++ l)[μ0.length + i]? = l[i]? := by
  rw [List.getElem?_append_right (Nat.le_add_right _ _), Nat.add_sub_cancel_left]
theorem set_app0 {μ0 l : DSt} {x y : MO} : (μ0 ++ x :: l).set μ0.length y = μ0 ++ y :: l := by
  rw [List.set_append_right _ _ (Nat.le_refl _), Nat.sub_self]
  rfl
theorem set_app {μ0 l : DSt} {i : Nat} {y : MO} : (μ0 ++ l).set (μ0.length + i) y = μ0 ++ l.set i y := by
  rw [List.set_append_right _ _ (Nat.le_add_right _ _), Nat.add_sub_cancel_left]
theorem putG_lt {α : Type} {f : Str} {v : α} {n : Nat} : ∀ {fs : List (Str × α)}, fs.length < n → (putG f v fs).length < n + 1
  | [], h => by show 1 < n + 1; exact Nat.succ_lt_succ (Nat.lt_of_le_of_lt (Nat.zero_le _) h)
  | (g, x) :: r, h => by
    show (if g = f then (g, v) :: r else (g, x) :: putG f v r).length < n + 1
    split
    · exact Nat.lt_succ_of_lt h
    · rw [List.length_cons]
      cases n with
      | zero => exact absurd h (Nat.not_lt_zero _)
      | succ n => exact Nat.succ_lt_succ (putG_lt (n := n) (Nat.lt_of_succ_lt_succ h))
section
variable {K : PySem.W.Frag} {f : Str} {Φ : DEnds} {ε : DEnv} {μ0 l : DSt} {C : Addr} {fs : List (Str × SV)} {z : SV}
theorem l_sfldA (c : Cls K C) (na : NoAttr K C f) (hz : fs.length < 1000) (h : Φ.nx ε (μ0 ++ .obj C (putG f z fs) :: l)) : putFld K f Φ ε z (.m μ0.length) (μ0 ++ .obj C fs :: l) := l_sfldM at_app0 c na hz (by rw [set_app0]; exact h)
theorem l_fldA {g : SV → Prop} (c : Cls K C) (na : NoAttr K C f) (hl : fs.lookup f = some z) (h : g z) : atFld K f (.m μ0.length) (μ0 ++ .obj C fs :: l) g := l_fldM at_app0 c na hl h
theorem l_fldKA {F : DEnv → DSt → Prop} (c : Cls K C) (na : NoAttr K C f) (hz : fs.length < 1000) (h : F ε (μ0 ++ .obj C (putG f z fs) :: l)) : fldK K f z ε F (.m μ0.length) (μ0 ++ .obj C fs :: l) := l_fldK at_app0 c na hz (by rw [set_app0]; exact h)
end
theorem setK_new {κ α : Type} [DecidableEq κ] {kvs : List (κ × α)} {q : κ} {y : α} (h : ∀ p ∈ kvs, p.1 ≠ q) : setK kvs q y = kvs ++ [(q, y)] := by
  unfold setK
  rw [if_neg]
  intro z
  obtain ⟨p, hp, e⟩ := List.any_eq_true.mp z
  exact h p hp (of_decide_eq_true e)
section
variable {Φ : DEnds} {ε : DEnv} {μ0 l : DSt} {k : DK} {kvs : List (Key × SV)} {i : Nat} {d : D} {q : Key} {z : SV}
/-- a dict in the store's end -/
theorem l_putA (hm : l[i]? = some (.dct kvs)) (hq : keyD d = some q) (hz : kvs.length < sizeLine) (h : Φ.nx ε (μ0 ++ l.set i (.dct (setK kvs q z)))) : putK' Φ ε z (.m (μ0.length + i)) (.d d) (μ0 ++ l) := l_putM (by rw [at_app]; exact hm) hq hz (by rw [set_app]; exact h)
end
section
variable {Φ : DEnds} {ε ε' : DEnv} {μ0 l0 l l' : DSt} {t : DTS} {mo : MO} {d : D}
theorem l_fzA (l : DSt) (mo : MO) (d : D) (hc : Clo μ0) (e0 : l0 = l ++ [mo]) (h1 : Rest mo d) (h2 : Φ.fl ≤ μ0.length + l.length) (e1 : frz (μ0.length + l.length) d ε = ε') (e2 : l.map (MO.frz (μ0.length + l.length) d) = l') (h : t Φ ε' (μ0 ++ l')) : dFzS t Φ ε (μ0 ++ l0) := by
  subst e0
  rw [← List.append_assoc]
  refine l_fzS (μ0' := μ0 ++ l') (ε' := ε') h1 (by rw [List.length_append]; exact h2) (by rw [List.length_append]; exact e1) ?_ h
  rw [List.map_append, List.length_append, e2, frz_old hc (Nat.le_add_right _ _)]
theorem frz_pure {κ : Type} {n : Nat} (ws : List (κ × D)) : (ws.map fun p => (p.1, SV.d p.2)).map (fun p => (p.1, p.2.frz n d)) = ws.map fun p => (p.1, SV.d p.2) := by
  rw [List.map_map]
  rfl
end
abbrev pureK (ws : List (Key × D)) : List (Key × SV) := ws.map fun p => (p.1, SV.d p.2)
theorem l_dgetD {μ : DSt} {k : DK} {kvs : List (Key × D)} {d z : D} {q : Key} (hq : keyD d = some q) (hz : lookK kvs q = some z) (h : k (.d z) μ) : atKey (.d (.dct kvs)) (.d d) μ (someK k μ) := l_atD hq (by rw [hz]; exact h)
/-! isinstance's answers of own classes -/
theorem kit_ref {K : PySem.W.Frag} {t C : Addr} {b : Bool} (hdct : PySem.W.hasDictIn K C = true) (ht : PySem.W.typeIn K (.ref C) = some (.type "type")) (h4 : PySem.W.subIn K (.ref t) (.ref C) = some b) (hr : (Value.ref t == Value.ref C) = true → b = true) : PySem.W.kitOne K (.ref t) (.ref C) = some b := by
  obtain ⟨cd, hc, _⟩ := PySem.W.any_some hdct
  have e2 : ((PySem.W.clsIn K C).isSome && PySem.W.typeIn K (.ref C) == some (.type "type")) = true := by rw [hc, ht] <;> rfl
  show (if (Value.ref t == Value.ref C) = true then some true else (if ((PySem.W.clsIn K C).isSome && PySem.W.typeIn K (.ref C) == some (.type "type")) = true then PySem.W.subIn K (.ref t) (.ref C) else none)) = some b
  by_cases e : (Value.ref t == Value.ref C) = true
  · rw [if_pos e, hr e]
  · rw [if_neg e, if_pos e2]
    exact h4
theorem kit_ty {K : PySem.W.Frag} {t : Addr} {b : Bool} (h4 : PySem.W.subIn K (.ref t) (.type "ValueError") = some b) : PySem.W.kitOne K (.ref t) (.type "ValueError") = some b := by
  show (if (Value.ref t == Value.type "ValueError") = true then some true else (if PySem.W.kitMeta "ValueError" = true then PySem.W.subIn K (.ref t) (.type "ValueError") else none)) = some b
  rw [if_neg (by rw [show (Value.ref t == Value.type "ValueError") = false from rfl]; decide), if_pos (by decide +kernel)]
  exact h4
end DV

set_option Elab.async false
set_option linter.all false
set_option maxRecDepth 100000
set_option maxHeartbeats 1000000
open PySem PySem.Spec PyProof.Rows L2 DV
local macro_rules | `(tactic| walk_at "s1") => `(tactic| first
  | with_reducible (first
  | refine l_seq ?_ | refine l_var rfl ?_ | refine l_c ?_ | refine l_op ?_ | refine l_cons ?_ | refine l_nil ?_ | refine l_asg ?_ | refine l_dgN ?_ | refine l_ret ?_ | refine l_call ?_ | refine l_cb ?_ | refine l_test ?_ | refine l_svb ?_ | refine l_ifS ?_
  | refine l_and ?_ | refine l_or ?_ | refine l_not ?_ | refine l_bt ?_ | refine l_bf ?_ | refine l_bnt ?_ | refine l_bnf ?_ | refine l_I0 ?_ | refine l_plusI ?_ | refine l_int ?_ | refine l_intb ?_ | refine l_svi ?_ | refine l_part0 ?_ | refine l_part1 ?_ | refine l_sl ?_ | refine l_neg ?_
  | refine l_tup ?_ | refine l_lst ?_ | refine l_lstM ?_ | refine l_star ?_ | refine l_starT ?_ | refine l_starL ?_ | refine l_callD ?_ | refine l_callK ?_ | refine l_andV ?_ | refine l_orV ?_ | refine l_notV ?_ | refine l_if ?_ | refine l_max2 ?_ | refine l_min2 ?_ | refine l_lenT ?_ | refine l_lenL ?_ | refine l_lenR ?_
  | refine l_tupleT ?_ | refine l_tupleL ?_ | refine l_listT ?_ | refine l_listL ?_ | refine l_isB ?_ | refine l_isnotB ?_ | refine l_isN ?_ | refine l_isnotN ?_ | refine l_next ?_ | refine l_break ?_ | refine l_cont ?_ | refine l_drop ?_ | refine l_retN ?_ | refine l_par ?_ | refine l_aug rfl ?_
  | refine l_dgTup2 ?_ | refine l_dgTup3 ?_ | refine l_dgTup4 ?_ | refine l_dgCons ?_ | refine l_dgNil ?_ | refine l_dgSub ?_ | refine l_yes ?_
  | refine l_parK ?_ | refine l_slT ?_ | refine l_slL ?_ | refine l_for ?_ | refine l_enum ?_ | refine l_enT ?_ | refine l_enL ?_ | refine l_seqI ?_ | refine l_sqL ?_ | refine l_tupI ?_ | refine l_tpT ?_ | refine l_rng1 ?_ | refine l_rng2 ?_ | refine l_lc ?_ | refine l_elK ?_ | refine l_app ?_
  | refine l_strI ?_ | refine l_strK ?_ | refine l_sindex ?_ | refine l_sxK ?_ | refine l_lenDD ?_ | refine l_ext ?_ | refine l_rng3 ?_ | refine l_dgFld ?_ | refine l_make ?_ | refine l_raise ?_ | refine l_xf ?_ | refine l_isF ?_ | refine l_callS ?_ | refine l_fld ?_ | refine l_sfld ?_ | refine l_dput ?_ | refine l_dget ?_ | refine l_din ?_ | refine l_dnewM ?_ | refine l_dnew ?_ | refine l_get2 ?_
  | refine l_rev ?_ | refine l_revK ?_ | refine e_int ?_ | refine n_int ?_ | refine e_tup ?_ | refine n_tup ?_ | refine e_lst ?_ | refine n_lst ?_)
  | ((with_reducible refine l_tupK rfl ?c ?_); (case c => first | decide | (simp only [List.length_cons, List.length_nil]; decide)))
  | ((with_reducible refine l_lstK rfl ?c ?_); (case c => first | decide | (simp only [List.length_cons, List.length_nil]; decide)))
  | ((with_reducible refine l_lstMK ?c ?_); (case c => first | decide | (simp only [List.length_cons, List.length_nil]; decide)))
  | ((with_reducible refine l_mod ?c ?_); (case c => first | decide | omega))
  | ((with_reducible refine l_fdiv (cdiv_of ?c ?d) ?_); (case c => first | decide | omega); (case d => first | decide | omega))
  | (with_reducible refine l_mul cmul_b ?_)
  | ((with_reducible refine l_pow (cpow_of ?c ?d ?e) ?_); (case c => decide); (case d => decide); (case e => decide))
  | ((with_reducible refine l_mul (cmul_l ?c ?d) ?_); (case c => first | decide | omega); (case d => first | decide | omega))
  | ((with_reducible refine l_mul (cmul_r ?c ?d) ?_); (case c => first | decide | omega); (case d => first | decide | omega))
  | ((with_reducible refine l_r1 ⟨?c, ?d⟩ ?_); (case c => first | decide | omega); (case d => first | decide | omega)))
local macro_rules | `(tactic| walk_at "s") => `(tactic| repeat walk_at "s1")

namespace K11
def top (i : Nat) : Stmt := PySem.Challenge.pw_bornroots_k11_pages_and_full_books.main.body.getD i (.Pass ⟨0, 0, 0, 0⟩)
abbrev s_head_place : Stmt := top 7
abbrev NN_head_place : List Str := ["area"]
theorem sc_head_place : FnScope NN_head_place ["area"] (defScope s_head_place) := ⟨rfl, rfl, rfl, by decide +kernel, rfl, by decide +kernel, by decide +kernel⟩
abbrev s_page_place : Stmt := top 8
abbrev NN_page_place : List Str := ["area", "i"]
theorem sc_page_place : FnScope NN_page_place ["area", "i"] (defScope s_page_place) := ⟨rfl, rfl, rfl, by decide +kernel, rfl, by decide +kernel, by decide +kernel⟩
abbrev s_name_number : Stmt := top 11
abbrev NN_name_number : List Str := ["name", "number", "letter"]
theorem sc_name_number : FnScope NN_name_number ["name"] (defScope s_name_number) := ⟨rfl, rfl, rfl, by decide +kernel, rfl, by decide +kernel, by decide +kernel⟩
abbrev s_name_of : Stmt := top 12
abbrev NN_name_of : List Str := ["number", "name"]
theorem sc_name_of : FnScope NN_name_of ["number"] (defScope s_name_of) := ⟨rfl, rfl, rfl, by decide +kernel, rfl, by decide +kernel, by decide +kernel⟩
abbrev s_Root___init__ : Stmt := inClass (top 14) 0
abbrev NN_Root___init__ : List Str := ["self", "ident", "volume", "snap", "prev", "time", "mark", "top", "dead"]
theorem sc_Root___init__ : FnScope NN_Root___init__ ["self", "ident", "volume", "snap", "prev", "time", "mark", "top", "dead"] (defScope s_Root___init__) := ⟨rfl, rfl, rfl, by decide +kernel, rfl, by decide +kernel, by decide +kernel⟩
abbrev s_Volume___init__ : Stmt := inClass (top 15) 0
abbrev NN_Volume___init__ : List Str := ["self", "name", "quota", "head"]
theorem sc_Volume___init__ : FnScope NN_Volume___init__ ["self", "name", "quota", "head"] (defScope s_Volume___init__) := ⟨rfl, rfl, rfl, by decide +kernel, rfl, by decide +kernel, by decide +kernel⟩
abbrev s_Book___init__ : Stmt := inClass (top 16) 0
abbrev NN_Book___init__ : List Str := ["self"]
theorem sc_Book___init__ : FnScope NN_Book___init__ ["self"] (defScope s_Book___init__) := ⟨rfl, rfl, rfl, by decide +kernel, rfl, by decide +kernel, by decide +kernel⟩
abbrev s_book_numbers : Stmt := top 21
abbrev NN_book_numbers : List Str := ["book", "numbers", "head", "ident", "volume"]
theorem sc_book_numbers : FnScope NN_book_numbers ["book"] (defScope s_book_numbers) := ⟨rfl, rfl, rfl, by decide +kernel, rfl, by decide +kernel, by decide +kernel⟩
abbrev s_book_of : Stmt := top 22
abbrev NN_book_of : List Str := ["numbers", "book", "at", "_", "volumes", "roots", "root", "code", "quota", "head"]
theorem sc_book_of : FnScope NN_book_of ["numbers"] (defScope s_book_of) := ⟨rfl, rfl, rfl, by decide +kernel, rfl, by decide +kernel, by decide +kernel⟩
abbrev s_pages_of : Stmt := top 23
abbrev NN_pages_of : List Str := ["numbers", "at"]
theorem sc_pages_of : FnScope NN_pages_of ["numbers"] (defScope s_pages_of) := ⟨rfl, rfl, rfl, by decide +kernel, rfl, by decide +kernel, by decide +kernel⟩
abbrev s_need_fitting : Stmt := top 24
abbrev NN_need_fitting : List Str := ["book", "many"]
theorem sc_need_fitting : FnScope NN_need_fitting ["book"] (defScope s_need_fitting) := ⟨rfl, rfl, rfl, by decide +kernel, rfl, by decide +kernel, by decide +kernel⟩
abbrev s__root_numbers : Stmt := top 25
abbrev NN__root_numbers : List Str := ["root", "code", "numbers", "pair"]
theorem sc__root_numbers : FnScope NN__root_numbers ["root"] (defScope s__root_numbers) := ⟨rfl, rfl, rfl, by decide +kernel, rfl, by decide +kernel, by decide +kernel⟩
abbrev s__root_at : Stmt := top 26
abbrev NN__root_at : List Str := ["numbers", "at", "begin", "dead", "snap", "ident", "volume", "code", "prev", "time", "tag", "number", "address", "birth", "many", "i"]
theorem sc__root_at : FnScope NN__root_at ["numbers", "at"] (defScope s__root_at) := ⟨rfl, rfl, rfl, by decide +kernel, rfl, by decide +kernel, by decide +kernel⟩
abbrev s_check_of : Stmt := top 30
abbrev NN_check_of : List Str := ["numbers", "total", "i", "number"]
theorem sc_check_of : FnScope NN_check_of ["numbers"] (defScope s_check_of) := ⟨rfl, rfl, rfl, by decide +kernel, rfl, by decide +kernel, by decide +kernel⟩
abbrev s_made_row : Stmt := top 31
abbrev NN_made_row : List Str := ["kind", "place", "number", "payload", "ahead"]
theorem sc_made_row : FnScope NN_made_row ["kind", "place", "number", "payload"] (defScope s_made_row) := ⟨rfl, rfl, rfl, by decide +kernel, rfl, by decide +kernel, by decide +kernel⟩
abbrev s_page_rows : Stmt := top 33
abbrev NN_page_rows : List Str := ["area", "number", "numbers", "rows", "i", "page", "place"]
theorem sc_page_rows : FnScope NN_page_rows ["area", "number", "numbers"] (defScope s_page_rows) := ⟨rfl, rfl, rfl, by decide +kernel, rfl, by decide +kernel, by decide +kernel⟩
abbrev s__law_pool : Stmt := top 35
abbrev NN__law_pool : List Str := ["_law_script", "_law_k", "_law_cell", "_law_big", "_law_mixed"]
theorem sc__law_pool : FnScope NN__law_pool ["_law_script", "_law_k"] (defScope s__law_pool) := ⟨rfl, rfl, rfl, by decide +kernel, rfl, by decide +kernel, by decide +kernel⟩
abbrev s__law_take : Stmt := top 36
abbrev NN__law_take : List Str := ["_law_source", "_law_top_it", "_law_drawn"]
theorem sc__law_take : FnScope NN__law_take ["_law_source", "_law_top_it"] (defScope s__law_take) := ⟨rfl, rfl, rfl, by decide +kernel, rfl, by decide +kernel, by decide +kernel⟩
abbrev s__law_one : Stmt := top 37
abbrev NN__law_one : List Str := ["_law_source", "_law_things"]
theorem sc__law_one : FnScope NN__law_one ["_law_source", "_law_things"] (defScope s__law_one) := ⟨rfl, rfl, rfl, by decide +kernel, rfl, by decide +kernel, by decide +kernel⟩
abbrev s__law_numbers : Stmt := top 38
abbrev NN__law_numbers : List Str := ["_law_many", "_law_heads", "_law_dead", "_law_found", "_law_head", "_law_at"]
theorem sc__law_numbers : FnScope NN__law_numbers ["_law_many"] (defScope s__law_numbers) := ⟨rfl, rfl, rfl, by decide +kernel, rfl, by decide +kernel, by decide +kernel⟩
abbrev s__law_fitting : Stmt := top 39
abbrev NN__law_fitting : List Str := ["_law_book", "e"]
theorem sc__law_fitting : FnScope NN__law_fitting ["_law_book"] (defScope s__law_fitting) := ⟨rfl, rfl, rfl, by decide +kernel, rfl, by decide +kernel, by decide +kernel⟩
abbrev s__law_size : Stmt := top 40
abbrev NN__law_size : List Str := ["_law_source", "_law_many"]
theorem sc__law_size : FnScope NN__law_size ["_law_source"] (defScope s__law_size) := ⟨rfl, rfl, rfl, by decide +kernel, rfl, by decide +kernel, by decide +kernel⟩
abbrev s_law : Stmt := top 41
abbrev NN_law : List Str := ["_law_script", "_law_k", "_law_source", "_law_many", "_law_numbers_here", "_law_book", "_law_pages", "_law_flat", "_law_page", "_law_at", "_law_spot", "_law_row"]
theorem sc_law : FnScope NN_law ["_law_script"] (defScope s_law) := ⟨rfl, rfl, rfl, by decide +kernel, rfl, by decide +kernel, by decide +kernel⟩
abbrev s_Refused___init__ : Stmt := inClass (top 2) 0
theorem sc_Refused___init__ : FnScope ["self", "what"] ["self", "what"] (defScope s_Refused___init__) := ⟨rfl, rfl, rfl, by decide +kernel, rfl, by decide +kernel, by decide +kernel⟩
structure Cs where
  Refused : Addr
  NoRoom : Addr
  BookFull : Addr
  Root : Addr
  Volume : Addr
  Book : Addr
  einit : Addr
  efd : FuncData
structure Txt (K : PySem.W.Frag) (mg : Str → Option Value) (cs : Cs) : Prop where
  b_ValueError : mg "ValueError" = none
  b_enumerate : mg "enumerate" = none
  b_int : mg "int" = none
  b_isinstance : mg "isinstance" = none
  b_len : mg "len" = none
  b_max : mg "max" = none
  b_min : mg "min" = none
  b_range : mg "range" = none
  b_sorted : mg "sorted" = none
  b_tuple : mg "tuple" = none
  g_LETTERS : ∃ t, mg "LETTERS" = some (.str "abcdefghijklmnopqrstuvwxyz" t)
  g_MODULUS : ∃ t, mg "MODULUS" = some (.int 1000003 t)
  g_PAGE : ∃ t, mg "PAGE" = some (.int 2 t)
  g_PAGES : ∃ t, mg "PAGES" = some (.int 10 t)
  g_PAGE_NUMBERS : ∃ t, mg "PAGE_NUMBERS" = some (.int 60 t)
  g_ROOT_NUMBERS : ∃ t, mg "ROOT_NUMBERS" = some (.int 10 t)
  g_VOLUME_NUMBERS : ∃ t, mg "VOLUME_NUMBERS" = some (.int 3 t)
  mg_Refused : mg "Refused" = some (.ref cs.Refused)
  ox_Refused : OexC K cs.Refused
  ie_Refused : PySem.W.findIn K (.ref cs.Refused) "__init__" = some (some (.ref cs.einit))
  na_Refused_what : PySem.W.findIn K (.ref cs.Refused) "what" = some none
  ec_Refused : ExcC K cs.Refused
  xf_Refused : XfC K cs.Refused
  mg_NoRoom : mg "NoRoom" = some (.ref cs.NoRoom)
  ox_NoRoom : OexC K cs.NoRoom
  ie_NoRoom : PySem.W.findIn K (.ref cs.NoRoom) "__init__" = some (some (.ref cs.einit))
  na_NoRoom_what : PySem.W.findIn K (.ref cs.NoRoom) "what" = some none
  ec_NoRoom : ExcC K cs.NoRoom
  xf_NoRoom : XfC K cs.NoRoom
  mg_BookFull : mg "BookFull" = some (.ref cs.BookFull)
  ox_BookFull : OexC K cs.BookFull
  ie_BookFull : PySem.W.findIn K (.ref cs.BookFull) "__init__" = some (some (.ref cs.einit))
  na_BookFull_what : PySem.W.findIn K (.ref cs.BookFull) "what" = some none
  ec_BookFull : ExcC K cs.BookFull
  xf_BookFull : XfC K cs.BookFull
  mg_Root : mg "Root" = some (.ref cs.Root)
  cl_Root : Cls K cs.Root
  na_Root_ident : NoAttr K cs.Root "ident"
  na_Root_volume : NoAttr K cs.Root "volume"
  na_Root_snap : NoAttr K cs.Root "snap"
  na_Root_prev : NoAttr K cs.Root "prev"
  na_Root_time : NoAttr K cs.Root "time"
  na_Root_mark : NoAttr K cs.Root "mark"
  na_Root_top : NoAttr K cs.Root "top"
  na_Root_dead : NoAttr K cs.Root "dead"
  mg_Volume : mg "Volume" = some (.ref cs.Volume)
  cl_Volume : Cls K cs.Volume
  na_Volume_name : NoAttr K cs.Volume "name"
  na_Volume_quota : NoAttr K cs.Volume "quota"
  na_Volume_head : NoAttr K cs.Volume "head"
  mg_Book : mg "Book" = some (.ref cs.Book)
  cl_Book : Cls K cs.Book
  na_Book_next_id : NoAttr K cs.Book "next_id"
  na_Book_volumes : NoAttr K cs.Book "volumes"
  na_Book_roots : NoAttr K cs.Book "roots"
  exm_BookFull_BookFull : PySem.W.exmOne K (.ref cs.BookFull) (.ref cs.BookFull) = some true
  kit_BookFull_NoRoom : PySem.W.kitOne K (.ref cs.BookFull) (.ref cs.NoRoom) = some false
  kit_BookFull_Refused : PySem.W.kitOne K (.ref cs.BookFull) (.ref cs.Refused) = some true
  kit_BookFull_ValueError : PySem.W.kitOne K (.ref cs.BookFull) (.type "ValueError") = some true
  ti : PySem.W.typeIn K (.ref cs.einit) = some (.type "function")
  be : Binds K cs.efd ["self", "what"] []
  fe : Fun K "__init__" "Refused.__init__" s_Refused___init__ cs.einit cs.efd
theorem F1 {P : Program} {w : World} {K : PySem.W.Frag} {mg : Str → Option Value} {base : Heap} {cs : Cs} (T : Txt K mg cs) : FnOk P w K mg base CX0 1 cs.einit cs.efd ["self", "what"] (spWhat K "what") := ok_what T.fe sc_Refused___init__ rfl fun cdv A outer s H E => pss_one (ps_ost (pv 0) (pv 1))
def wsum (k : Int) : List Int → Int
  | [] => 0
  | n :: r => k * n + wsum (k + 1) r
theorem wsum_snoc (k : Int) : ∀ (ns : List Int) (x : Int), wsum k (ns ++ [x]) = wsum k ns + (k + ns.length) * x
  | [], x => by simp [wsum]
  | n :: r, x => by
    show k * n + wsum (k + 1) (r ++ [x]) = k * n + wsum (k + 1) r + (k + ((r.length + 1 : Nat) : Int)) * x
    rw [wsum_snoc (k + 1) r x]
    have e : k + ((r.length + 1 : Nat) : Int) = k + 1 + (r.length : Int) := by omega
    rw [e]
    omega
def chk (ns : List Int) : Int := wsum 1 ns % 1000003
def row (a : List Int) : List Int := a ++ [chk a]
def goodB (r : List Int) : Bool := decide (5 ≤ r.length) && (decide (r[3]? = some ((r.length : Int) - 5)) && decide (r[r.length - 1]? = some (chk r.dropLast)))
theorem good_len {r : List Int} (h : goodB r = true) : 5 ≤ r.length := by
  unfold goodB at h
  rw [Bool.and_eq_true] at h
  exact of_decide_eq_true h.1
theorem cut_init {α : Type} {r : List α} (h : 0 < r.length) : cut r none (some (-1)) = r.dropLast := by
  have e : HT.sIx r.length r.length (some (-1)) = r.length - 1 := by
    show (if (-1 : Int) < 0 then (-1 + (r.length : Int)).toNat else min (-1 : Int).toNat r.length) = r.length - 1
    rw [if_pos (by decide)]
    omega
  unfold cut
  rw [e]
  show List.take (r.length - 1 - 0) (List.drop 0 r) = r.dropLast
  rw [List.drop_zero, Nat.sub_zero, List.dropLast_eq_take]

/-! ### the draws -/
theorem b01 (c : Bool) : 0 ≤ (if c then 1 else 0 : Int) := by
  cases c <;> decide
def src (a b : Int) : MO := .lst [.d (.int a), .d (.int b)]
def Sok (a b : Int) : Prop := 0 ≤ a ∧ 0 ≤ b ∧ b < 2147483647
def p__law_pool (cs : Cs) : DSp := fun xs μ Φ _ => ∃ ns k, xs = [.d (.lsr (dints ns)), .d (.int k)] ∧ 0 ≤ k ∧ k ≤ 100 ∧ ∀ a b, Sok a b → Φ (.m μ.length) (μ ++ [src a b])
def p__law_take (cs : Cs) : DSp := fun xs μ Φ _ => ∃ a b t rest, xs = [.m 0, .d (.int t)] ∧ μ = src a b :: rest ∧ Sok a b ∧ 0 < t ∧ t < 1073741824 ∧ ∀ a' b' r, Sok a' b' → 0 ≤ r → r < t → Φ (.d (.int r)) (src a' b' :: rest)
def p__law_one (cs : Cs) : DSp := fun xs μ Φ _ => ∃ a b ds rest, xs = [.m 0, .d (.lst ds)] ∧ μ = src a b :: rest ∧ Sok a b ∧ 0 < ds.length ∧ ds.length < 1000000 ∧ ∀ a' b' d, Sok a' b' → d ∈ ds → Φ (.d d) (src a' b' :: rest)

/-! ### names and their numbers -/
/-- the text of these letters (1 .. 26) -/
def lets (l : List Nat) : Str := ⟨(l.map (· + 96)).toArray⟩
def numb (l : List Nat) : Int := l.foldl (fun (a : Int) (x : Nat) => 27 * a + x) 0
def GoodL (l : List Nat) : Prop := ∀ x ∈ l, 1 ≤ x ∧ x ≤ 26
abbrev ABC : Str := "abcdefghijklmnopqrstuvwxyz"
theorem abc_ix : ∀ x : Fin 26, Builtin.Str.occurrences ABC ⟨#[x.val + 97]⟩ 0 ABC.length 1 = [x.val] := by decide +kernel
theorem abc_at : ∀ x : Fin 26, atI ABC.cps.toList (x.val : Int) = some (x.val + 97) := by decide +kernel
theorem abc_neg : atI ABC.cps.toList (-1) = some 122 := by decide +kernel
theorem abc_len : ABC.length ≤ sizeLine := by decide +kernel
theorem numb_snoc (l : List Nat) (x : Nat) : numb (l ++ [x]) = 27 * numb l + x := by
  unfold numb
  rw [List.foldl_append]
  rfl
theorem numb_nonneg0 : ∀ (l : List Nat) (a : Int), 0 ≤ a → 0 ≤ l.foldl (fun (a : Int) (x : Nat) => 27 * a + x) a
  | [], _, h => h
  | x :: l, a, h => numb_nonneg0 l (27 * a + x) (by omega)
theorem numb_nonneg (l : List Nat) : 0 ≤ numb l := numb_nonneg0 l 0 (by decide)
theorem signs_lets (l : List Nat) : DV.signs (lets l) = l.map fun x => D.str ⟨#[x + 96]⟩ := by
  unfold DV.signs lets
  rw [List.toList_toArray, List.map_map]
  rfl
theorem numb_pos {l : List Nat} {x : Nat} (h : GoodL (l ++ [x])) : 0 < numb (l ++ [x]) := by
  rw [numb_snoc]
  have := numb_nonneg l
  have := h x (by simp)
  omega
theorem str_app (x y : Str) : x ++ y = ⟨x.cps ++ y.cps⟩ := rfl
theorem lets_cons (x : Nat) (l : List Nat) : (⟨#[x + 96]⟩ : Str) ++ lets l = lets (x :: l) := by
  rw [str_app]
  unfold lets
  congr 1
  simp
theorem lets_len (l : List Nat) : (lets l).length = l.length := by
  unfold lets Str.length
  simp

theorem take_step {ns : List Int} {i : Nat} {x : D} (hl : ns.length ≤ 1000) (hx : (dints ns)[i]? = some x) : ∃ n, x = .int n ∧ ns.take (i + 1) = ns.take i ++ [n] ∧ i < 1000 ∧ (ns.take i).length = i := by
  rw [List.getElem?_map] at hx
  obtain ⟨n, hn, e⟩ := Option.map_eq_some_iff.mp hx
  have hil := (List.getElem?_eq_some_iff.mp hn).1
  refine ⟨n, e.symm, ?_, by omega, by rw [List.length_take]; omega⟩
  rw [List.take_add_one, hn]
  rfl
def p_check_of (cs : Cs) : DSp := fun xs μ Φ _ => ∃ ns, (xs = [.d (.tup (dints ns))] ∨ xs = [.d (.lst (dints ns))]) ∧ ns.length ≤ 1000 ∧ Φ (.d (.int (chk ns))) μ
def p_made_row (cs : Cs) : DSp := fun xs μ Φ _ => ∃ kind place number pl, (xs = [.d (.int kind), .d (.int place), .d (.int number), .d (.tup (dints pl))] ∨ xs = [.d (.int kind), .d (.int place), .d (.int number), .d (.lst (dints pl))]) ∧ pl.length ≤ 900 ∧
  Φ (.d (.tup (dints (row (kind :: place :: number :: (pl.length : Int) :: pl))))) μ

/-! ### pages -/
theorem cut_nn {α : Type} (xs : List α) (a b : Nat) : cut xs (some (a : Int)) (some (b : Int)) = (xs.drop a).take (b - a) := by
  unfold cut
  rw [HT.sIx_nat, HT.sIx_nat]
  by_cases h : a ≤ xs.length
  · rw [Nat.min_eq_left h]
    by_cases h2 : b ≤ xs.length
    · rw [Nat.min_eq_left h2]
    · rw [Nat.min_eq_right (by omega), List.take_of_length_le (by rw [List.length_drop]; omega), List.take_of_length_le (by rw [List.length_drop]; omega)]
  · rw [Nat.min_eq_right (show xs.length ≤ a by omega), List.drop_of_length_le (Nat.le_refl xs.length), List.drop_of_length_le (show xs.length ≤ a by omega)]
    simp
/-- parts of sixty -/
def chunks (c : Nat) : Nat → List Int → List (List Int)
  | 0, _ => []
  | n + 1, xs => xs.take c :: chunks c n (xs.drop c)
def nPages (n : Nat) : Nat := (n + 59) / 60
def pagesOf (ns : List Int) : List (List Int) := chunks 60 (nPages ns.length) ns
def p_pages_of (cs : Cs) : DSp := fun xs μ Φ _ => ∃ ns, xs = [.d (.tup (dints ns))] ∧ ns.length ≤ 900 ∧ Φ (.d (.lst ((pagesOf ns).map fun p => .tup (dints p)))) μ
theorem chunks_get (c : Nat) : ∀ (n : Nat) (xs : List Int) (i : Nat), i < n → (chunks c n xs)[i]? = some ((xs.drop (c * i)).take c)
  | 0, _, _, h => absurd h (Nat.not_lt_zero _)
  | n + 1, xs, 0, _ => by simp [chunks]
  | n + 1, xs, i + 1, h => by
    show (chunks c n (xs.drop c))[i]? = _
    rw [chunks_get c n _ i (by omega), List.drop_drop]
    congr 3
    rw [Nat.mul_succ]
    omega
theorem chunks_len (c : Nat) : ∀ (n : Nat) (xs : List Int), (chunks c n xs).length = n
  | 0, _ => rfl
  | n + 1, xs => congrArg (· + 1) (chunks_len c n _)
theorem chunks_range (c n : Nat) (xs : List Int) : chunks c n xs = (List.range n).map fun i => (xs.drop (c * i)).take c := by
  refine List.ext_getElem? fun i => ?_
  by_cases h : i < n
  · rw [chunks_get c n xs i h, List.getElem?_map, List.getElem?_range h]
    rfl
  · rw [List.getElem?_eq_none (by rw [chunks_len]; omega), List.getElem?_eq_none (by rw [List.length_map, List.length_range]; omega)]
/-! ### a book's numbers -/
structure VolR where
  nm : List Nat
  quota : Int
  head : Int
structure RootR where
  ident : Int
  vol : Int
  snap : List Nat
  prev : Int
  time : Int
  mt : Int
  mn : Int
  ta : Int
  tb : Int
  dead : List (Int × Int)
def vnums (v : VolR) : List Int := [numb v.nm, v.quota, v.head]
def flat2 (ps : List (Int × Int)) : List Int := ps.flatMap fun p => [p.1, p.2]
def rnums (r : RootR) : List Int := [r.ident, r.vol, numb r.snap, r.prev, r.time, r.mt, r.mn, r.ta, r.tb, (r.dead.length : Nat)] ++ flat2 r.dead
def enc (nx : Int) (vs : List VolR) (rs : List RootR) : List Int := [nx, (vs.length : Nat), (rs.length : Nat)] ++ vs.flatMap vnums ++ rs.flatMap rnums
theorem flat2_len (ps : List (Int × Int)) : (flat2 ps).length = 2 * ps.length := by
  induction ps with
  | nil => rfl
  | cons p r ih =>
    show ([p.1, p.2] ++ flat2 r).length = _
    rw [List.length_append, ih, List.length_cons]
    simp only [List.length_cons, List.length_nil]
    omega
theorem rnums_len (r : RootR) : (rnums r).length = 10 + 2 * r.dead.length := by
  unfold rnums
  rw [List.length_append, flat2_len]
  rfl
def volF (v : VolR) : List (Str × D) := [("name", .str (lets v.nm)), ("quota", .int v.quota), ("head", .int v.head)]
def snapD (l : List Nat) : D := if l = [] then .non else .str (lets l)
def pairsD (ps : List (Int × Int)) : List D := ps.map fun p => .tup (dints [p.1, p.2])
def rootF (r : RootR) : List (Str × D) := [("ident", .int r.ident), ("volume", .int r.vol), ("snap", snapD r.snap), ("prev", .int r.prev), ("time", .int r.time), ("mark", .tup (dints [r.mt, r.mn])), ("top", .tup (dints [r.ta, r.tb])), ("dead", .tup (pairsD r.dead))]
def volD (cs : Cs) (v : VolR) : D := .obj cs.Volume (volF v)
def rootD (cs : Cs) (r : RootR) : D := .obj cs.Root (rootF r)
def volsD (cs : Cs) (vs : List VolR) : List (Key × D) := vs.map fun v => (.inl v.head, volD cs v)
def rootsD (cs : Cs) (rs : List RootR) : List (Key × D) := rs.map fun r => (.inl r.ident, rootD cs r)
def bookD (cs : Cs) (nx : Int) (vs : List VolR) (rs : List RootR) : D := .obj cs.Book [("next_id", .int nx), ("volumes", .dct (volsD cs vs)), ("roots", .dct (rootsD cs rs))]
abbrev pure_ (fs : List (Str × D)) : List (Str × SV) := fs.map fun p => (p.1, SV.d p.2)
structure RootOk (r : RootR) : Prop where
  nm : GoodL r.snap
  nml : r.snap.length ≤ 4
  dl : r.dead.length ≤ 330
structure VolOk (v : VolR) : Prop where
  nm : GoodL v.nm
  nml : v.nm.length ≤ 4
structure BookOk (vs : List VolR) (rs : List RootR) : Prop where
  v : ∀ v ∈ vs, VolOk v
  r : ∀ r ∈ rs, RootOk r
  vl : vs.length ≤ 60
  rl : rs.length ≤ 60
  va : (vs.map VolR.head).Pairwise (· < ·)
  ra : (rs.map RootR.ident).Pairwise (· < ·)
  len : (rs.flatMap rnums).length ≤ 900
def p_Root___init__ (cs : Cs) : DSp := fun xs μ Φ _ => ∃ (μ0 : DSt) (r : RootR), μ = μ0 ++ [.obj cs.Root []] ∧ xs = [.m μ0.length, .d (.int r.ident), .d (.int r.vol), .d (snapD r.snap), .d (.int r.prev), .d (.int r.time), .d (.tup (dints [r.mt, r.mn])), .d (.tup (dints [r.ta, r.tb])), .d (.lst (pairsD r.dead))] ∧ Φ (.d .non) (μ0 ++ [.obj cs.Root (pure_ (rootF r))])
def p_Volume___init__ (cs : Cs) : DSp := fun xs μ Φ _ => ∃ (μ0 : DSt) (v : VolR), μ = μ0 ++ [.obj cs.Volume []] ∧ xs = [.m μ0.length, .d (.str (lets v.nm)), .d (.int v.quota), .d (.int v.head)] ∧ Φ (.d .non) (μ0 ++ [.obj cs.Volume (pure_ (volF v))])
def p_Book___init__ (cs : Cs) : DSp := fun xs μ Φ _ => ∃ μ0 : DSt, μ = μ0 ++ [.obj cs.Book []] ∧ xs = [.m μ0.length] ∧ Φ (.d .non) (μ0 ++ [.obj cs.Book [("next_id", .d (.int 1)), ("volumes", .m (μ0.length + 1)), ("roots", .m (μ0.length + 2))], .dct [], .dct []])
def p__root_at (cs : Cs) : DSp := fun xs μ Φ _ => ∃ pre post r, xs = [.d (.tup (dints (pre ++ rnums r ++ post))), .d (.int (pre.length : Nat))] ∧ RootOk r ∧ pre.length ≤ 2000 ∧ post.length ≤ 2000 ∧ Φ (.m μ.length) (μ ++ [.obj cs.Root (pure_ (rootF r))])
def p_book_of (cs : Cs) : DSp := fun xs μ Φ _ => ∃ nx vs rs, xs = [.d (.tup (dints (enc nx vs rs)))] ∧ BookOk vs rs ∧ Φ (.d (bookD cs nx vs rs)) μ
def p_book_numbers (cs : Cs) : DSp := fun xs μ Φ _ => ∃ nx vs rs, xs = [.d (bookD cs nx vs rs)] ∧ BookOk vs rs ∧ Φ (.d (.tup (dints (enc nx vs rs)))) μ
def p__root_numbers (cs : Cs) : DSp := fun xs μ Φ _ => ∃ r, xs = [.d (rootD cs r)] ∧ RootOk r ∧ Φ (.d (.lst (dints (rnums r)))) μ
def p_need_fitting (cs : Cs) : DSp := fun xs μ Φ Ψ => ∃ nx vs rs, xs = [.d (bookD cs nx vs rs)] ∧ BookOk vs rs ∧ ((enc nx vs rs).length ≤ 600 → Φ (.d .non) μ) ∧ (600 < (enc nx vs rs).length → Ψ (.ref cs.BookFull) [("what", .int ((enc nx vs rs).length : Nat))] μ)
theorem flat2_get : ∀ (ps : List (Int × Int)) (i : Nat) (p : Int × Int), ps[i]? = some p → (flat2 ps)[2 * i]? = some p.1 ∧ (flat2 ps)[2 * i + 1]? = some p.2
  | [], _, _, h => by simp at h
  | q :: r, 0, p, h => by
    have h : q = p := by simpa using h
    subst h
    exact ⟨rfl, rfl⟩
  | q :: r, i + 1, p, h => by
    obtain ⟨h1, h2⟩ := flat2_get r i p (by simpa using h)
    rw [show 2 * (i + 1) = 2 * i + 1 + 1 by omega]
    exact ⟨h1, h2⟩
theorem at_mid {pre a b post : List Int} {j : Nat} (h : j < b.length) : (pre ++ (a ++ b) ++ post)[pre.length + a.length + j]? = b[j]? := by
  rw [List.append_assoc, List.getElem?_append_right (by omega), List.append_assoc, List.getElem?_append_right (by omega), List.getElem?_append_left (by omega)]
  congr 1
  omega
theorem numb_zero {l : List Nat} (h : GoodL l) : numb l = 0 ↔ l = [] := by
  constructor
  · intro e
    rcases List.eq_nil_or_concat l with rfl | ⟨p, x, rfl⟩
    · rfl
    · rw [List.concat_eq_append] at e h
      have := numb_pos h
      omega
  · rintro rfl
    rfl
theorem pairs_range (ps : List (Int × Int)) (d : Int × Int) : (List.range ps.length).map (fun i => D.tup (dints [(ps.getD i d).1, (ps.getD i d).2])) = pairsD ps := by
  unfold pairsD
  refine List.ext_getElem? fun i => ?_
  rw [List.getElem?_map, List.getElem?_map]
  by_cases h : i < ps.length
  · rw [List.getElem?_range h, List.getElem?_eq_getElem h]
    simp [h]
  · rw [List.getElem?_eq_none (by rw [List.length_range]; omega), List.getElem?_eq_none (by omega)]
    rfl
def ten (r : RootR) : List Int := [r.ident, r.vol, numb r.snap, r.prev, r.time, r.mt, r.mn, r.ta, r.tb, (r.dead.length : Nat)]
theorem rnums_ten (r : RootR) : rnums r = ten r ++ flat2 r.dead := rfl

def p_head_place (cs : Cs) : DSp := fun xs μ Φ _ => ∃ a : Int, xs = [.d (.int a)] ∧ 0 ≤ a ∧ a ≤ 2 ∧ Φ (.d (.int (11 * a))) μ
def p_page_place (cs : Cs) : DSp := fun xs μ Φ _ => ∃ a i : Int, xs = [.d (.int a), .d (.int i)] ∧ 0 ≤ a ∧ a ≤ 2 ∧ Φ (.d (.int (11 * a + i))) μ
def p_name_number (cs : Cs) : DSp := fun xs μ Φ _ => ∃ l, xs = [.d (.str (lets l))] ∧ GoodL l ∧ l.length ≤ 1000 ∧ Φ (.d (.int (numb l))) μ
def p_name_of (cs : Cs) : DSp := fun xs μ Φ _ => ∃ l, xs = [.d (.int (numb l))] ∧ GoodL l ∧ l.length ≤ 1000 ∧ Φ (.d (.str (lets l))) μ
section
variable {P : Program} {w : World} {K : PySem.W.Frag} {mg : Str → Option Value} {base : Heap}
theorem ok_head_place {f : Addr} {fd : FuncData} {cs : Cs} (T : Txt K mg cs)  (F : Fun K "head_place" "head_place" s_head_place f fd) : FnOk P w K mg base CX0 1 f fd ["area"] (toSp K (p_head_place cs)) := by
  refine dfn F sc_head_place ?len (by decide) fun cdv A outer s H E Ψ hr => ⟨_, _, (dss_one (ds_ret (de_mul (de_add de_int (de_globI (by rfl) T.g_PAGES)) (de_var (pv 0))))), ?rd⟩
  case len => rintro xs μ Φ Ψ ⟨a, rfl, _⟩; rfl
  case rd =>
    rintro xs μ Φ ⟨a, rfl, h0, h2, k⟩
    dsimp only [NN_head_place, List.length, dstart]
    walk_at "s"
    exact k
theorem c_head_place {cs : Cs} (T : Txt K mg cs)  (D : DefAt K mg "head_place" s_head_place) : Callee P w K mg base "head_place" 1 ["area"] (p_head_place cs) := callee_mk D (fun f fd F => F.binds fun _ _ _ _ _ _ us hl => match us, hl with | [_], _ => rfl) fun f fd F => ok_head_place T  F
theorem ok_page_place {f : Addr} {fd : FuncData} {cs : Cs} (T : Txt K mg cs) (C_head_place : Callee P w K mg base "head_place" 1 ["area"] (p_head_place cs)) (F : Fun K "page_place" "page_place" s_page_place f fd) : FnOk P w K mg base CX0 2 f fd ["area", "i"] (toSp K (p_page_place cs)) := by
  refine dfn F sc_page_place ?len (by decide) fun cdv A outer s H E Ψ hr => ⟨_, _, (dss_one (ds_ret (de_add (de_c1 C_head_place (hr.mono (by decide)) (by rfl) (da_cons (de_var (pv 0)) da_nil)) (de_var (pv 1))))), ?rd⟩
  case len => rintro xs μ Φ Ψ ⟨a, i, rfl, _⟩; rfl
  case rd =>
    rintro xs μ Φ ⟨a, i, rfl, h0, h2, k⟩
    dsimp only [NN_page_place, List.length, dstart]
    walk_at "s"
    refine ⟨a, rfl, h0, h2, ?_⟩
    walk_at "s"
    exact k
theorem c_page_place {cs : Cs} (T : Txt K mg cs) (C_head_place : Callee P w K mg base "head_place" 1 ["area"] (p_head_place cs)) (D : DefAt K mg "page_place" s_page_place) : Callee P w K mg base "page_place" 2 ["area", "i"] (p_page_place cs) := callee_mk D (fun f fd F => F.binds fun _ _ _ _ _ _ us hl => match us, hl with | [_, _], _ => rfl) fun f fd F => ok_page_place T C_head_place F
theorem ok_name_number {f : Addr} {fd : FuncData} {cs : Cs} (T : Txt K mg cs)  (F : Fun K "name_number" "name_number" s_name_number f fd) : FnOk P w K mg base CX0 1 f fd ["name"] (toSp K (p_name_number cs)) := by
  refine dfn F sc_name_number ?len (by decide) fun cdv A outer s H E Ψ hr => ⟨_, _, (dss_cons (ds_asg de_int (dg_name (i := 1) sc_name_number.nd rfl (.inl rfl)))
  (dss_cons (ds_for PassesOwn.never rfl (di_str (de_var (pv 0))) (dg_name (i := 2) sc_name_number.nd rfl (.inl rfl))
  (dss_one (ds_asg (de_add (de_add (de_mul de_int (de_var (pv 1))) (de_sindex (de_globS (by rfl) T.g_LETTERS) (de_var (pv 2)))) de_int) (dg_name (i := 1) sc_name_number.nd rfl (.inl rfl)))))
  (dss_one (ds_ret (de_var (pv 1)))))), ?rd⟩
  case len => rintro xs μ Φ Ψ ⟨l, rfl, _⟩; rfl
  case rd =>
    rintro xs μ Φ ⟨l, rfl, hg, hl, k⟩
    dsimp only [NN_name_number, List.length, dstart]
    walk_at "s"
    rw [signs_lets]
    refine for_seq (fun i ε μ' => ∃ o1, ε = [some _, some (.d (.int (numb (l.take i)))), o1] ∧ μ' = μ) ⟨none, rfl, rfl⟩ ?_ ?_
    · rintro i x ε μ' hx ⟨o1, rfl, rfl⟩
      rw [List.getElem?_map] at hx
      obtain ⟨y, hy, rfl⟩ := Option.map_eq_some_iff.mp hx
      have hl := (List.getElem?_eq_some_iff.mp hy)
      obtain ⟨hl, e⟩ := hl
      have hb := hg y (List.mem_of_getElem? hy)
      walk_at "s"
      have oc := abc_ix ⟨y - 1, by omega⟩
      rw [show (y - 1 + 97) = y + 96 by omega] at oc
      refine l_sindexK oc ?_
      walk_at "s"
      rw [List.take_succ_eq_append_getElem hl, e, numb_snoc]
      rw [show 27 * numb (List.take i l) + (((⟨y - 1, by omega⟩ : Fin 26).val : Int)) + 1 = 27 * numb (List.take i l) + (y : Int) by show 27 * numb (List.take i l) + (((y - 1 : Nat)) : Int) + 1 = _; omega]
      exact ⟨_, rfl, rfl⟩
    · rintro ε μ' ⟨o1, rfl, rfl⟩
      walk_at "s"
      rw [List.length_map, List.take_length]
      exact k
theorem c_name_number {cs : Cs} (T : Txt K mg cs)  (D : DefAt K mg "name_number" s_name_number) : Callee P w K mg base "name_number" 1 ["name"] (p_name_number cs) := callee_mk D (fun f fd F => F.binds fun _ _ _ _ _ _ us hl => match us, hl with | [_], _ => rfl) fun f fd F => ok_name_number T  F
theorem ok_name_of {f : Addr} {fd : FuncData} {cs : Cs} (T : Txt K mg cs)  (F : Fun K "name_of" "name_of" s_name_of f fd) : FnOk P w K mg base CX0 1 f fd ["number"] (toSp K (p_name_of cs)) := by
  refine dfn F sc_name_of ?len (by decide) fun cdv A outer s H E Ψ hr => ⟨_, _, (dss_cons (ds_asg de_str (dg_name (i := 1) sc_name_of.nd rfl (.inl rfl)))
  (dss_cons (ds_while PassesOwn.never (dt_gt (de_var (pv 0)) de_int)
  (dss_cons (ds_asg (de_add (de_ix (de_globS (by rfl) T.g_LETTERS) (de_sub (de_mod (de_var (pv 0)) de_int) de_int)) (de_var (pv 1))) (dg_name (i := 1) sc_name_of.nd rfl (.inl rfl)))
  (dss_one (ds_asg (de_fdiv (de_var (pv 0)) de_int) (dg_name (i := 0) sc_name_of.nd rfl (.inl rfl))))))
  (dss_one (ds_ret (de_var (pv 1)))))), ?rd⟩
  case len => rintro xs μ Φ Ψ ⟨l, rfl, _⟩; rfl
  case rd =>
    rintro xs μ Φ ⟨l, rfl, hg, hl, k⟩
    dsimp only [NN_name_of, List.length, dstart]
    walk_at "s"
    refine ⟨fun m ε μ' => ∃ p q, l = p ++ q ∧ m = p.length ∧ ε = [some (.d (.int (numb p))), some (.d (.str (lets q)))] ∧ μ' = μ, ⟨l.length, l, [], by simp, rfl, rfl, rfl⟩, ?_⟩
    rintro m ε μ' ⟨p, q, rfl, rfl, rfl, rfl⟩
    walk_at "s"
    refine l_bd (fun h => ?_) fun h => ?_
    · obtain ⟨p, x, rfl⟩ : ∃ p' x, p = p' ++ [x] := by
        rcases List.eq_nil_or_concat p with rfl | ⟨p', x, rfl⟩
        · exact absurd h (by decide)
        · exact ⟨p', x, List.concat_eq_append⟩
      have hb := hg x (by simp)
      have hn := numb_snoc p x
      walk_at "s"
      have e1 : numb (p ++ [x]) % 27 - 1 = if x = 27 then -1 else ((x - 1 : Nat) : Int) := by
        rw [hn, if_neg (by omega)]
        omega
      rw [if_neg (by omega)] at e1
      have ha := abc_at ⟨x - 1, by omega⟩
      refine ⟨_, abc_len, by rw [e1]; exact ha, ?_⟩
      rw [show x - 1 + 97 = x + 96 by omega]
      refine ⟨?_, ?_⟩
      · rw [lets_len]
        simp only [List.length_append, List.length_cons, List.length_nil] at hl ⊢
        show 1 + _ ≤ _
        exact szle (by omega)
      walk_at "s"
      have e2 : numb (p ++ [x]) / 27 = numb p := by rw [hn]; omega
      rw [e2, lets_cons]
      exact ⟨p.length, by simp, p, x :: q, by simp, rfl, rfl, rfl⟩
    · rcases List.eq_nil_or_concat p with rfl | ⟨p', x, rfl⟩
      · walk_at "s"
        exact k
      · exact absurd (numb_pos (l := p') (x := x) fun y hy => hg y (by rw [List.concat_eq_append]; exact List.mem_append_left _ hy)) (by rw [← List.concat_eq_append]; exact h)
theorem c_name_of {cs : Cs} (T : Txt K mg cs)  (D : DefAt K mg "name_of" s_name_of) : Callee P w K mg base "name_of" 1 ["number"] (p_name_of cs) := callee_mk D (fun f fd F => F.binds fun _ _ _ _ _ _ us hl => match us, hl with | [_], _ => rfl) fun f fd F => ok_name_of T  F
theorem ok_check_of {f : Addr} {fd : FuncData} {cs : Cs} (T : Txt K mg cs)  (F : Fun K "check_of" "check_of" s_check_of f fd) : FnOk P w K mg base CX0 1 f fd ["numbers"] (toSp K (p_check_of cs)) := by
  refine dfn F sc_check_of ?len (by decide) fun cdv A outer s H E Ψ hr => ⟨_, _, (dss_cons (ds_asg de_int (dg_name (i := 1) sc_check_of.nd rfl (.inl rfl)))
  (dss_cons (ds_for PassesOwn.never rfl (di_enumS (by rfl) T.b_enumerate (by decide) (da_cons (de_var (pv 0)) da_nil)) (dg_tup (n := 2) rfl (dgs_cons (dg_name (i := 2) sc_check_of.nd rfl (.inl rfl)) (dgs_cons (dg_name (i := 3) sc_check_of.nd rfl (.inl rfl)) dgs_nil)))
  (dss_one (ds_aug (i := 1) sc_check_of.nd rfl (.inl rfl) (de_mul (de_var (pv 2)) (de_var (pv 3))) ip_add sim_ipI)))
  (dss_one (ds_ret (de_mod (de_var (pv 1)) (de_globI (by rfl) T.g_MODULUS)))))), ?rd⟩
  case len => rintro xs μ Φ Ψ ⟨ns, rfl | rfl, _⟩ <;> rfl
  case rd =>
    rintro xs μ Φ ⟨ns, h, hl, k⟩
    rcases h with rfl | rfl
    all_goals
      dsimp only [NN_check_of, List.length, dstart]
      walk_at "s"
      refine for_enum (fun i ε μ' => ∃ o1 o2, ε = [some _, some (.d (.int (wsum 1 (ns.take i)))), o1, o2] ∧ μ' = μ) ⟨none, none, rfl, rfl⟩ ?_ ?_
      · rintro i x ε μ' hx ⟨o1, o2, rfl, rfl⟩
        obtain ⟨n, rfl, h1, h2, h3⟩ := take_step hl hx
        walk_at "s"
        rw [show wsum 1 (ns.take (i + 1)) = wsum 1 (ns.take i) + (1 + (i : Int)) * n by rw [h1, wsum_snoc, h3]]
        exact ⟨_, _, rfl, rfl⟩
      · rintro ε μ' ⟨o1, o2, rfl, rfl⟩
        walk_at "s"
        rw [List.length_map, List.take_length]
        exact k
theorem c_check_of {cs : Cs} (T : Txt K mg cs)  (D : DefAt K mg "check_of" s_check_of) : Callee P w K mg base "check_of" 1 ["numbers"] (p_check_of cs) := callee_mk D (fun f fd F => F.binds fun _ _ _ _ _ _ us hl => match us, hl with | [_], _ => rfl) fun f fd F => ok_check_of T  F
theorem ok_made_row {f : Addr} {fd : FuncData} {cs : Cs} (T : Txt K mg cs) (C_check_of : Callee P w K mg base "check_of" 1 ["numbers"] (p_check_of cs)) (F : Fun K "made_row" "made_row" s_made_row f fd) : FnOk P w K mg base CX0 2 f fd ["kind", "place", "number", "payload"] (toSp K (p_made_row cs)) := by
  refine dfn F sc_made_row ?len (by decide) fun cdv A outer s H E Ψ hr => ⟨_, _, (dss_cons (ds_asg (de_tup (da_cons (de_var (pv 0)) (da_cons (de_var (pv 1)) (da_cons (de_var (pv 2)) (da_cons (de_B call_len sim_len (by rfl) T.b_len (by decide +kernel) (da_cons (de_var (pv 3)) da_nil)) (da_star (de_var (pv 3)) da_nil)))))) (dg_name (i := 4) sc_made_row.nd rfl (.inl rfl)))
  (dss_one (ds_ret (de_tup (da_star (de_var (pv 4)) (da_cons (de_c1 C_check_of (hr.mono (by decide)) (by rfl) (da_cons (de_var (pv 4)) da_nil)) da_nil)))))), ?rd⟩
  case len => rintro xs μ Φ Ψ ⟨a, b, c, ns, rfl | rfl, _⟩ <;> rfl
  case rd =>
    rintro xs μ Φ ⟨kind, place, number, pl, h, hl, k⟩
    rcases h with rfl | rfl
    all_goals
      dsimp only [NN_made_row, List.length, dstart]
      walk_at "s"
      refine l_tupK' (dints (kind :: place :: number :: ((pl.length : Nat) : Int) :: pl)) (by simp) (szle (by simp only [List.length_map, List.length_cons]; omega)) ?_
      walk_at "s"
      refine ⟨_, .inl rfl, by simp only [List.length_cons]; omega, ?_⟩
      refine l_tupK' (dints (row (kind :: place :: number :: ((pl.length : Nat) : Int) :: pl))) (by simp [row]) (szle (by simp only [List.length_map, row, List.length_append, List.length_cons, List.length_nil]; omega)) ?_
      exact k
theorem c_made_row {cs : Cs} (T : Txt K mg cs) (C_check_of : Callee P w K mg base "check_of" 1 ["numbers"] (p_check_of cs)) (D : DefAt K mg "made_row" s_made_row) : Callee P w K mg base "made_row" 2 ["kind", "place", "number", "payload"] (p_made_row cs) := callee_mk D (fun f fd F => F.binds fun _ _ _ _ _ _ us hl => match us, hl with | [_, _, _, _], _ => rfl) fun f fd F => ok_made_row T C_check_of F

theorem ok__law_pool {f : Addr} {fd : FuncData} {cs : Cs} (T : Txt K mg cs)  (F : Fun K "_law_pool" "_law_pool" s__law_pool f fd) : FnOk P w K mg base CX0 1 f fd ["_law_script", "_law_k"] (toSp K (p__law_pool cs)) := by
  refine dfn F sc__law_pool ?len (by decide) fun cdv A outer s H E Ψ hr => ⟨_, _, (dss_cons (ds_asg de_int (dg_name (i := 2) sc__law_pool.nd rfl (.inl rfl)))
  (dss_cut (ds_if (dt_lt (de_var (pv 1)) (de_B call_len sim_len (by rfl) T.b_len (by decide +kernel) (da_cons (de_var (pv 0)) da_nil))) (dss_one (ds_asg (de_ix (de_var (pv 0)) (de_var (pv 1))) (dg_name (i := 2) sc__law_pool.nd rfl (.inl rfl)))) dss_nil)
  (dss_cons (ds_asg (de_B (call_max2 rfl) sim_max2 (by rfl) T.b_max (by decide +kernel) (da_cons (de_Ty call_int1 sim_int (by rfl) T.b_int (by decide +kernel) (da_cons (de_var (pv 2)) da_nil)) (da_cons (de_Ty call_int1 sim_int (by rfl) T.b_int (by decide +kernel) (da_cons (de_sub (de_neg de_int) (de_var (pv 2))) da_nil)) da_nil))) (dg_name (i := 3) sc__law_pool.nd rfl (.inl rfl)))
  (dss_cons (ds_asg (de_mod (de_Ty call_int1 sim_int (by rfl) T.b_int (by decide +kernel) (da_cons (de_mul (de_add (de_add (de_add (de_mod (de_Ty call_int1 sim_int (by rfl) T.b_int (by decide +kernel) (da_cons (de_var (pv 3)) da_nil)) de_int) (de_mul (de_mul de_int (de_var (pv 1))) (de_var (pv 1)))) (de_mul de_int (de_var (pv 1)))) de_int) de_int) da_nil)) de_int) (dg_name (i := 4) sc__law_pool.nd rfl (.inl rfl)))
  (dss_one (ds_ret (de_lstM (da_cons (de_mul (de_var (pv 3)) (de_Ty call_int1 sim_int (by rfl) T.b_int (by decide +kernel) (da_cons (de_ge (de_var (pv 3)) (de_pow de_int de_int)) da_nil))) (da_cons (de_var (pv 4)) da_nil))))))))), ?rd⟩
  case len => rintro xs μ Φ Ψ ⟨ns, k, rfl, _⟩; rfl
  case rd =>
    rintro xs μ Φ ⟨ns, kk, rfl, hk0, hk1, k⟩
    dsimp only [NN__law_pool, List.length, dstart]
    have hsq : 0 ≤ 7919 * kk * kk ∧ 7919 * kk * kk ≤ 79190000 := by
      have h1 : 7919 * kk * kk ≤ 7919 * kk * 100 := Int.mul_le_mul_of_nonneg_left hk1 (by omega)
      have h2 : 0 ≤ 7919 * kk * kk := Int.mul_nonneg (by omega) hk0
      omega
    walk_at "s"
    refine l_cut (Mid := fun ε' μ' => ∃ c : Int, ε' = [some (.d (.lsr (dints ns))), some (.d (.int kk)), some (.d (.int c)), none, none] ∧ μ' = μ) ?_ ?_
    · walk_at "s"
      rw [List.length_map]
      refine l_bd (fun h => ?_) fun h => ?_
      · walk_at "s"
        obtain ⟨n, rfl⟩ := Int.eq_ofNat_of_zero_le hk0
        have hn : ns[n]? = some (ns[n]'(by omega)) := List.getElem?_eq_getElem (by omega)
        refine l_ixR (atI_ints (atI_nat' hn)) ?_
        walk_at "s"
        exact ⟨_, rfl, rfl⟩
      · walk_at "s"
        exact ⟨_, rfl, rfl⟩
    · rintro ε' μ' ⟨c, rfl, rfl⟩
      walk_at "s"
      refine k _ _ ⟨?_, Int.emod_nonneg _ (by decide), Int.emod_lt_of_pos _ (by decide)⟩
      refine Int.mul_nonneg ?_ ?_
      · split <;> omega
      · exact b01 _
theorem c__law_pool {cs : Cs} (T : Txt K mg cs)  (D : DefAt K mg "_law_pool" s__law_pool) : Callee P w K mg base "_law_pool" 1 ["_law_script", "_law_k"] (p__law_pool cs) := callee_mk D (fun f fd F => F.binds fun _ _ _ _ _ _ us hl => match us, hl with | [_, _], _ => rfl) fun f fd F => ok__law_pool T  F
theorem ok__law_take {f : Addr} {fd : FuncData} {cs : Cs} (T : Txt K mg cs)  (F : Fun K "_law_take" "_law_take" s__law_take f fd) : FnOk P w K mg base CX0 1 f fd ["_law_source", "_law_top_it"] (toSp K (p__law_take cs)) := by
  refine dfn F sc__law_take ?len (by decide) fun cdv A outer s H E Ψ hr => ⟨_, _, (dss_cons (ds_if (dt_gt (de_ix (de_var (pv 0)) de_int) de_int) (dss_cons (ds_asg (de_mod (de_Ty call_int1 sim_int (by rfl) T.b_int (by decide +kernel) (da_cons (de_ix (de_var (pv 0)) de_int) da_nil)) (de_var (pv 1))) (dg_name (i := 2) sc__law_take.nd rfl (.inl rfl)))
  (dss_cons (ds_asg (de_fdiv (de_ix (de_var (pv 0)) de_int) (de_var (pv 1))) (dg_sub (de_var (pv 0)) de_int))
  (dss_one (ds_ret (de_var (pv 2)))))) dss_nil)
  (dss_cons (ds_asg (de_mod (de_Ty call_int1 sim_int (by rfl) T.b_int (by decide +kernel) (da_cons (de_add (de_mul (de_ix (de_var (pv 0)) de_int) de_int) de_int) da_nil)) de_int) (dg_sub (de_var (pv 0)) de_int))
  (dss_one (ds_ret (de_mod (de_Ty call_int1 sim_int (by rfl) T.b_int (by decide +kernel) (da_cons (de_fdiv (de_mod (de_Ty call_int1 sim_int (by rfl) T.b_int (by decide +kernel) (da_cons (de_mul (de_ix (de_var (pv 0)) de_int) (de_ix (de_var (pv 0)) de_int)) da_nil)) de_int) de_int) da_nil)) (de_var (pv 1))))))), ?rd⟩
  case len => rintro xs μ Φ Ψ ⟨a, b, t, rest, rfl, _⟩; rfl
  case rd =>
    rintro xs μ Φ ⟨a, b, t, rest, rfl, rfl, ⟨ha, hb, hb2⟩, ht, ht2, k⟩
    dsimp only [NN__law_take, List.length, dstart]
    walk_at "s"
    refine l_ixM rfl rfl ?_
    walk_at "s"
    refine l_bd (fun h => ?_) fun h => ?_
    · walk_at "s"
      refine l_ixM rfl rfl ?_
      walk_at "s"
      refine l_ixM rfl rfl ?_
      walk_at "s"
      refine l_subK rfl rfl ?_
      walk_at "s"
      exact k _ _ _ ⟨Int.ediv_nonneg ha (by omega), hb, hb2⟩ (Int.emod_nonneg _ (by omega)) (Int.emod_lt_of_pos _ ht)
    · walk_at "s"
      refine l_ixM rfl rfl ?_
      walk_at "s"
      refine l_subK rfl rfl ?_
      walk_at "s"
      refine l_ixM rfl rfl ?_
      walk_at "s"
      refine l_ixM rfl rfl ?_
      have b1 := Int.emod_nonneg (b * 39373 + 7) (show (2147483647 : Int) ≠ 0 by decide)
      have b2 := Int.emod_lt_of_pos (b * 39373 + 7) (show (0 : Int) < 2147483647 by decide)
      walk_at "s"
      exact k _ _ _ ⟨ha, b1, b2⟩ (Int.emod_nonneg _ (by omega)) (Int.emod_lt_of_pos _ ht)
theorem c__law_take {cs : Cs} (T : Txt K mg cs)  (D : DefAt K mg "_law_take" s__law_take) : Callee P w K mg base "_law_take" 1 ["_law_source", "_law_top_it"] (p__law_take cs) := callee_mk D (fun f fd F => F.binds fun _ _ _ _ _ _ us hl => match us, hl with | [_, _], _ => rfl) fun f fd F => ok__law_take T  F
theorem ok__law_one {f : Addr} {fd : FuncData} {cs : Cs} (T : Txt K mg cs) (C__law_take : Callee P w K mg base "_law_take" 1 ["_law_source", "_law_top_it"] (p__law_take cs)) (F : Fun K "_law_one" "_law_one" s__law_one f fd) : FnOk P w K mg base CX0 2 f fd ["_law_source", "_law_things"] (toSp K (p__law_one cs)) := by
  refine dfn F sc__law_one ?len (by decide) fun cdv A outer s H E Ψ hr => ⟨_, _, (dss_one (ds_ret (de_ix (de_var (pv 1)) (de_c1 C__law_take (hr.mono (by decide)) (by rfl) (da_cons (de_var (pv 0)) (da_cons (de_B call_len sim_len (by rfl) T.b_len (by decide +kernel) (da_cons (de_var (pv 1)) da_nil)) da_nil)))))), ?rd⟩
  case len => rintro xs μ Φ Ψ ⟨a, b, ds, rest, rfl, _⟩; rfl
  case rd =>
    rintro xs μ Φ ⟨a, b, ds, rest, rfl, rfl, hs, h0, h1, k⟩
    dsimp only [NN__law_one, List.length, dstart]
    walk_at "s"
    refine ⟨a, b, _, rest, rfl, rfl, hs, by omega, by omega, fun a' b' r hs' hr0 hr1 => ?_⟩
    obtain ⟨n, rfl⟩ := Int.eq_ofNat_of_zero_le hr0
    have hn : ds[n]? = some (ds[n]'(by omega)) := List.getElem?_eq_getElem (by omega)
    refine l_ixL (atI_nat' hn) ?_
    exact k a' b' _ hs' (List.getElem_mem _)
theorem c__law_one {cs : Cs} (T : Txt K mg cs) (C__law_take : Callee P w K mg base "_law_take" 1 ["_law_source", "_law_top_it"] (p__law_take cs)) (D : DefAt K mg "_law_one" s__law_one) : Callee P w K mg base "_law_one" 2 ["_law_source", "_law_things"] (p__law_one cs) := callee_mk D (fun f fd F => F.binds fun _ _ _ _ _ _ us hl => match us, hl with | [_, _], _ => rfl) fun f fd F => ok__law_one T C__law_take F

end
end K11

set_option Elab.async false
set_option linter.all false
set_option maxRecDepth 100000
set_option maxHeartbeats 1000000
open PySem PySem.Spec PyProof.Rows L2 DV
local macro_rules | `(tactic| walk_at "s1") => `(tactic| first
  | with_reducible (first
  | refine l_seq ?_ | refine l_var rfl ?_ | refine l_c ?_ | refine l_op ?_ | refine l_cons ?_ | refine l_nil ?_ | refine l_asg ?_ | refine l_dgN ?_ | refine l_ret ?_ | refine l_call ?_ | refine l_cb ?_ | refine l_test ?_ | refine l_svb ?_ | refine l_ifS ?_
  | refine l_and ?_ | refine l_or ?_ | refine l_not ?_ | refine l_bt ?_ | refine l_bf ?_ | refine l_bnt ?_ | refine l_bnf ?_ | refine l_I0 ?_ | refine l_plusI ?_ | refine l_int ?_ | refine l_intb ?_ | refine l_svi ?_ | refine l_part0 ?_ | refine l_part1 ?_ | refine l_sl ?_ | refine l_neg ?_
  | refine l_tup ?_ | refine l_lst ?_ | refine l_lstM ?_ | refine l_star ?_ | refine l_starT ?_ | refine l_starL ?_ | refine l_callD ?_ | refine l_callK ?_ | refine l_andV ?_ | refine l_orV ?_ | refine l_notV ?_ | refine l_if ?_ | refine l_max2 ?_ | refine l_min2 ?_ | refine l_lenT ?_ | refine l_lenL ?_ | refine l_lenR ?_
  | refine l_tupleT ?_ | refine l_tupleL ?_ | refine l_listT ?_ | refine l_listL ?_ | refine l_isB ?_ | refine l_isnotB ?_ | refine l_isN ?_ | refine l_isnotN ?_ | refine l_next ?_ | refine l_break ?_ | refine l_cont ?_ | refine l_drop ?_ | refine l_retN ?_ | refine l_par ?_ | refine l_aug rfl ?_
  | refine l_dgTup2 ?_ | refine l_dgTup3 ?_ | refine l_dgTup4 ?_ | refine l_dgCons ?_ | refine l_dgNil ?_ | refine l_dgSub ?_ | refine l_yes ?_
  | refine l_parK ?_ | refine l_slT ?_ | refine l_slL ?_ | refine l_for ?_ | refine l_enum ?_ | refine l_enT ?_ | refine l_enL ?_ | refine l_seqI ?_ | refine l_sqL ?_ | refine l_tupI ?_ | refine l_tpT ?_ | refine l_rng1 ?_ | refine l_rng2 ?_ | refine l_lc ?_ | refine l_elK ?_ | refine l_app ?_
  | refine l_strI ?_ | refine l_strK ?_ | refine l_sindex ?_ | refine l_sxK ?_ | refine l_lenDD ?_ | refine l_ext ?_ | refine l_rng3 ?_ | refine l_dgFld ?_ | refine l_make ?_ | refine l_raise ?_ | refine l_xf ?_ | refine l_isF ?_ | refine l_callS ?_ | refine l_fld ?_ | refine l_sfld ?_ | refine l_dput ?_ | refine l_dget ?_ | refine l_din ?_ | refine l_dnewM ?_ | refine l_dnew ?_ | refine l_get2 ?_
  | refine l_rev ?_ | refine l_revK ?_ | refine e_int ?_ | refine n_int ?_ | refine e_tup ?_ | refine n_tup ?_ | refine e_lst ?_ | refine n_lst ?_)
  | ((with_reducible refine l_tupK rfl ?c ?_); (case c => first | decide | (simp only [List.length_cons, List.length_nil]; decide)))
  | ((with_reducible refine l_lstK rfl ?c ?_); (case c => first | decide | (simp only [List.length_cons, List.length_nil]; decide)))
  | ((with_reducible refine l_lstMK ?c ?_); (case c => first | decide | (simp only [List.length_cons, List.length_nil]; decide)))
  | ((with_reducible refine l_mod ?c ?_); (case c => first | decide | omega))
  | ((with_reducible refine l_fdiv (cdiv_of ?c ?d) ?_); (case c => first | decide | omega); (case d => first | decide | omega))
  | (with_reducible refine l_mul cmul_b ?_)
  | ((with_reducible refine l_pow (cpow_of ?c ?d ?e) ?_); (case c => decide); (case d => decide); (case e => decide))
  | ((with_reducible refine l_mul (cmul_l ?c ?d) ?_); (case c => first | decide | omega); (case d => first | decide | omega))
  | ((with_reducible refine l_mul (cmul_r ?c ?d) ?_); (case c => first | decide | omega); (case d => first | decide | omega))
  | ((with_reducible refine l_r1 ⟨?c, ?d⟩ ?_); (case c => first | decide | omega); (case d => first | decide | omega)))
local macro_rules | `(tactic| walk_at "s") => `(tactic| repeat walk_at "s1")

namespace K11
section
variable {P : Program} {w : World} {K : PySem.W.Frag} {mg : Str → Option Value} {base : Heap}
theorem ok_pages_of {f : Addr} {fd : FuncData} {cs : Cs} (T : Txt K mg cs)  (F : Fun K "pages_of" "pages_of" s_pages_of f fd) : FnOk P w K mg base CX0 1 f fd ["numbers"] (toSp K (p_pages_of cs)) := by
  refine dfn F sc_pages_of ?len (by decide) fun cdv A outer s H E Ψ hr => ⟨_, _, (dss_one (ds_ret (de_lc (own := [("at", 1)]) rfl sc_pages_of.nd (di_range3 (by rfl) T.b_range (da_cons de_int (da_cons (de_B call_len sim_len (by rfl) T.b_len (by decide +kernel) (da_cons (de_var (pv 0)) da_nil)) (da_cons (de_globI (by rfl) T.g_PAGE_NUMBERS) da_nil)))) (blkOk_by (N := NN_pages_of) (sc := defScope s_pages_of) (by decide +kernel)) (fun _ _ _ _ _ => (dg_name (i := 1) sc_pages_of.nd rfl (.inl rfl))) (gw_name (by decide)) (fun _ _ _ _ _ => dts_nil) (fun _ _ _ _ _ => (de_Ty call_tuple_of sim_tuple (by rfl) T.b_tuple (by decide +kernel) (da_cons (de_slice (de_var (pv 0)) (do_some (de_var (pv 1))) (do_some (de_add (de_var (pv 1)) (de_globI (by rfl) T.g_PAGE_NUMBERS)))) da_nil)))))), ?rd⟩
  case len => rintro xs μ Φ Ψ ⟨ns, rfl, _⟩; rfl
  case rd =>
    rintro xs μ Φ ⟨ns, rfl, hl, k⟩
    dsimp only [NN_pages_of, List.length, dstart]
    walk_at "s"
    rw [List.length_map]
    refine l_r3 (n := nPages ns.length) (rgC_of (by decide) (by decide) (by decide) (by decide) (by omega) (by omega) ?_) ?_
    · unfold nPages
      split <;> omega
    refine lc_det (fun i => .tup (dints ((ns.drop (60 * i)).take 60))) (by rw [rangeC_len]; exact szlt (by unfold nPages; omega)) ?_ ?_
    · intro i x I acc hx hI
      have hi := (List.getElem?_eq_some_iff.mp hx).1
      rw [rangeC_len] at hi
      rw [rangeC_get hi] at hx
      cases hx
      walk_at "s"
      rw [show (0 + ((i : Nat) : Int) * 60) = ((60 * i : Nat) : Int) by omega, show (((60 * i : Nat) : Int) + 60) = ((60 * i + 60 : Nat) : Int) by omega, cut_map, cut_nn, Nat.add_sub_cancel_left]
      exact hI
    · rw [rangeC_len]
      unfold pagesOf at k
      rw [chunks_range, List.map_map] at k
      exact k
theorem c_pages_of {cs : Cs} (T : Txt K mg cs)  (D : DefAt K mg "pages_of" s_pages_of) : Callee P w K mg base "pages_of" 1 ["numbers"] (p_pages_of cs) := callee_mk D (fun f fd F => F.binds fun _ _ _ _ _ _ us hl => match us, hl with | [_], _ => rfl) fun f fd F => ok_pages_of T  F
theorem ok_Volume___init__ {f : Addr} {fd : FuncData} {cs : Cs} (T : Txt K mg cs)  (F : Fun K "__init__" "Volume.__init__" s_Volume___init__ f fd) : FnOk P w K mg base CX0 1 f fd ["self", "name", "quota", "head"] (toSp K (p_Volume___init__ cs)) := by
  refine dfn F sc_Volume___init__ ?len (by decide) fun cdv A outer s H E Ψ hr => ⟨_, _, (dss_cons (ds_fld (de_var (pv 0)) (de_var (pv 1)))
  (dss_cons (ds_fld (de_var (pv 0)) (de_var (pv 2)))
  (dss_one (ds_fld (de_var (pv 0)) (de_var (pv 3)))))), ?rd⟩
  case len => rintro xs μ Φ Ψ ⟨μ0, v, rfl, rfl, _⟩; rfl
  case rd =>
    rintro xs μ Φ ⟨μ0, v, rfl, rfl, k⟩
    dsimp only [NN_Volume___init__, List.length, dstart]
    walk_at "s"
    refine l_sfldA T.cl_Volume T.na_Volume_name (by decide) ?_
    walk_at "s"
    refine l_sfldA T.cl_Volume T.na_Volume_quota (putG_lt (by decide)) ?_
    walk_at "s"
    refine l_sfldA T.cl_Volume T.na_Volume_head (putG_lt (putG_lt (by decide))) ?_
    walk_at "s"
    exact k
theorem ok_Root___init__ {f : Addr} {fd : FuncData} {cs : Cs} (T : Txt K mg cs)  (F : Fun K "__init__" "Root.__init__" s_Root___init__ f fd) : FnOk P w K mg base CX0 1 f fd ["self", "ident", "volume", "snap", "prev", "time", "mark", "top", "dead"] (toSp K (p_Root___init__ cs)) := by
  refine dfn F sc_Root___init__ ?len (by decide) fun cdv A outer s H E Ψ hr => ⟨_, _, (dss_cons (ds_fld (de_var (pv 0)) (de_var (pv 1)))
  (dss_cons (ds_fld (de_var (pv 0)) (de_var (pv 2)))
  (dss_cons (ds_fld (de_var (pv 0)) (de_var (pv 3)))
  (dss_cons (ds_fld (de_var (pv 0)) (de_var (pv 4)))
  (dss_cons (ds_fld (de_var (pv 0)) (de_var (pv 5)))
  (dss_cons (ds_fld (de_var (pv 0)) (de_Ty call_tuple_of sim_tuple (by rfl) T.b_tuple (by decide +kernel) (da_cons (de_var (pv 6)) da_nil)))
  (dss_cons (ds_fld (de_var (pv 0)) (de_Ty call_tuple_of sim_tuple (by rfl) T.b_tuple (by decide +kernel) (da_cons (de_var (pv 7)) da_nil)))
  (dss_one (ds_fld (de_var (pv 0)) (de_Ty call_tuple_of sim_tuple (by rfl) T.b_tuple (by decide +kernel) (da_cons (de_var (pv 8)) da_nil))))))))))), ?rd⟩
  case len => rintro xs μ Φ Ψ ⟨μ0, r, rfl, rfl, _⟩; rfl
  case rd =>
    rintro xs μ Φ ⟨μ0, r, rfl, rfl, k⟩
    dsimp only [NN_Root___init__, List.length, dstart]
    walk_at "s"
    refine l_sfldA T.cl_Root T.na_Root_ident (by decide) ?_
    walk_at "s"
    refine l_sfldA T.cl_Root T.na_Root_volume (putG_lt (by decide)) ?_
    walk_at "s"
    refine l_sfldA T.cl_Root T.na_Root_snap (putG_lt (putG_lt (by decide))) ?_
    walk_at "s"
    refine l_sfldA T.cl_Root T.na_Root_prev (putG_lt (putG_lt (putG_lt (by decide)))) ?_
    walk_at "s"
    refine l_sfldA T.cl_Root T.na_Root_time (putG_lt (putG_lt (putG_lt (putG_lt (by decide))))) ?_
    walk_at "s"
    refine l_sfldA T.cl_Root T.na_Root_mark (putG_lt (putG_lt (putG_lt (putG_lt (putG_lt (by decide)))))) ?_
    walk_at "s"
    refine l_sfldA T.cl_Root T.na_Root_top (putG_lt (putG_lt (putG_lt (putG_lt (putG_lt (putG_lt (by decide))))))) ?_
    walk_at "s"
    refine l_sfldA T.cl_Root T.na_Root_dead (putG_lt (putG_lt (putG_lt (putG_lt (putG_lt (putG_lt (putG_lt (by decide)))))))) ?_
    walk_at "s"
    exact k
theorem ok_Book___init__ {f : Addr} {fd : FuncData} {cs : Cs} (T : Txt K mg cs)  (F : Fun K "__init__" "Book.__init__" s_Book___init__ f fd) : FnOk P w K mg base CX0 1 f fd ["self"] (toSp K (p_Book___init__ cs)) := by
  refine dfn F sc_Book___init__ ?len (by decide) fun cdv A outer s H E Ψ hr => ⟨_, _, (dss_cons (ds_fld (de_var (pv 0)) de_int)
  (dss_cons (ds_fld (de_var (pv 0)) de_dnewM)
  (dss_one (ds_fld (de_var (pv 0)) de_dnewM)))), ?rd⟩
  case len => rintro xs μ Φ Ψ ⟨μ0, rfl, rfl, _⟩; rfl
  case rd =>
    rintro xs μ Φ ⟨μ0, rfl, rfl, k⟩
    dsimp only [NN_Book___init__, List.length, dstart]
    walk_at "s"
    refine l_sfldA T.cl_Book T.na_Book_next_id (by decide) ?_
    walk_at "s"
    simp only [List.append_assoc, List.cons_append, List.nil_append, List.length_append, List.length_cons, List.length_nil, Nat.zero_add]
    refine l_sfldA T.cl_Book T.na_Book_volumes (putG_lt (by decide)) ?_
    walk_at "s"
    simp only [List.append_assoc, List.cons_append, List.nil_append, List.length_append, List.length_cons, List.length_nil, Nat.zero_add]
    refine l_sfldA T.cl_Book T.na_Book_roots (putG_lt (putG_lt (by decide))) ?_
    walk_at "s"
    exact k
theorem ok__root_at {f : Addr} {fd : FuncData} {cs : Cs} (T : Txt K mg cs) (I_Root : CalleeI P w K mg base "Root" cs.Root 1 [] [] (p_Root___init__ cs)) (C_name_of : Callee P w K mg base "name_of" 1 ["number"] (p_name_of cs)) (F : Fun K "_root_at" "_root_at" s__root_at f fd) : FnOk P w K mg base CX0 3 f fd ["numbers", "at"] (toSp K (p__root_at cs)) := by
  refine dfn F sc__root_at ?len (by decide) fun cdv A outer s H E Ψ hr => ⟨_, _, (dss_cons (ds_asg (de_slice (de_var (pv 0)) (do_some (de_var (pv 1))) (do_some (de_add (de_var (pv 1)) (de_globI (by rfl) T.g_ROOT_NUMBERS)))) (dg_tup (n := 10) rfl (dgs_cons (dg_name (i := 5) sc__root_at.nd rfl (.inl rfl)) (dgs_cons (dg_name (i := 6) sc__root_at.nd rfl (.inl rfl)) (dgs_cons (dg_name (i := 7) sc__root_at.nd rfl (.inl rfl)) (dgs_cons (dg_name (i := 8) sc__root_at.nd rfl (.inl rfl)) (dgs_cons (dg_name (i := 9) sc__root_at.nd rfl (.inl rfl)) (dgs_cons (dg_name (i := 10) sc__root_at.nd rfl (.inl rfl)) (dgs_cons (dg_name (i := 11) sc__root_at.nd rfl (.inl rfl)) (dgs_cons (dg_name (i := 12) sc__root_at.nd rfl (.inl rfl)) (dgs_cons (dg_name (i := 13) sc__root_at.nd rfl (.inl rfl)) (dgs_cons (dg_name (i := 14) sc__root_at.nd rfl (.inl rfl)) dgs_nil))))))))))))
  (dss_cons (ds_asg (de_add (de_var (pv 1)) (de_globI (by rfl) T.g_ROOT_NUMBERS)) (dg_name (i := 2) sc__root_at.nd rfl (.inl rfl)))
  (dss_cons (ds_setLc (i := 3) (own := [("i", 15)]) rfl sc__root_at.nd rfl rfl (sw_true rfl rfl rfl (by decide +kernel)) (di_range3 (by rfl) T.b_range (da_cons (de_var (pv 2)) (da_cons (de_add (de_var (pv 2)) (de_mul de_int (de_var (pv 14)))) (da_cons de_int da_nil)))) (blkOk_by (N := NN__root_at) (sc := defScope s__root_at) (by decide +kernel)) (fun _ _ _ _ _ => (dg_name (i := 15) sc__root_at.nd rfl (.inl rfl))) (gw_name (by decide)) (fun _ _ _ _ _ => dts_nil) (fun _ _ _ _ _ => (de_tup (da_cons (de_ix (de_var (pv 0)) (de_var (pv 15))) (da_cons (de_ix (de_var (pv 0)) (de_add (de_var (pv 15)) de_int)) da_nil)))))
  (dss_cons (ds_asg (de_ifExp (dt_eq hr.units (de_var (pv 7)) de_int) de_non (de_c1 C_name_of (hr.mono (by decide)) (by rfl) (da_cons (de_var (pv 7)) da_nil))) (dg_name (i := 4) sc__root_at.nd rfl (.inl rfl)))
  (dss_one (ds_ret (de_make I_Root (hr.mono (by decide)) (by rfl) (da_cons (de_var (pv 5)) (da_cons (de_var (pv 6)) (da_cons (de_var (pv 4)) (da_cons (de_var (pv 8)) (da_cons (de_var (pv 9)) (da_cons (de_tup (da_cons (de_var (pv 10)) (da_cons (de_var (pv 11)) da_nil))) (da_cons (de_tup (da_cons (de_var (pv 12)) (da_cons (de_var (pv 13)) da_nil))) (da_cons (de_var (pv 3)) da_nil))))))))))))))), ?rd⟩
  case len => rintro xs μ Φ Ψ ⟨pre, post, r, rfl, _⟩; rfl
  case rd =>
    rintro xs μ Φ ⟨pre, post, r, rfl, hr1, hp, hq, k⟩
    dsimp only [NN__root_at, List.length, dstart]
    have e1 : cut (dints (pre ++ rnums r ++ post)) (some ((pre.length : Nat) : Int)) (some (((pre.length : Nat) : Int) + 10)) = dints (ten r) := by
      rw [show (((pre.length : Nat) : Int) + 10) = ((pre.length + 10 : Nat) : Int) by omega, cut_map, cut_nn, Nat.add_sub_cancel_left, List.append_assoc, List.drop_left, rnums_ten, List.append_assoc]
      rfl
    walk_at "s"
    rw [e1]
    refine l_dgTup rfl ?_
    simp only [ten, List.map]
    walk_at "s"
    have hd := hr1.dl
    refine l_r3 (n := r.dead.length) (rgC_of (by decide) (by decide) (by omega) (by omega) (by omega) (by omega) (by split <;> omega)) ?_
    refine lc_det (fun i => D.tup (dints [(r.dead.getD i (0, 0)).1, (r.dead.getD i (0, 0)).2])) (by rw [rangeC_len]; exact szlt (by omega)) ?_ ?_
    · intro i x I acc hx hI
      have hi := (List.getElem?_eq_some_iff.mp hx).1
      rw [rangeC_len] at hi
      rw [rangeC_get hi] at hx
      cases hx
      obtain ⟨g1, g2⟩ := flat2_get r.dead i _ (List.getElem?_eq_getElem hi)
      have fl := flat2_len r.dead
      have m1 : (pre ++ rnums r ++ post)[pre.length + 10 + 2 * i]? = _ := (at_mid (pre := pre) (a := ten r) (b := flat2 r.dead) (post := post) (j := 2 * i) (by omega)).trans g1
      have m2 : (pre ++ rnums r ++ post)[pre.length + 10 + (2 * i + 1)]? = _ := (at_mid (pre := pre) (a := ten r) (b := flat2 r.dead) (post := post) (j := 2 * i + 1) (by omega)).trans g2
      walk_at "s"
      rw [show ((pre.length : Nat) : Int) + 10 + ((i : Nat) : Int) * 2 = ((pre.length + 10 + 2 * i : Nat) : Int) by omega]
      refine l_ixT (atI_ints (atI_nat' m1)) ?_
      walk_at "s"
      rw [show ((pre.length + 10 + 2 * i : Nat) : Int) + 1 = ((pre.length + 10 + (2 * i + 1) : Nat) : Int) by omega]
      refine l_ixT (atI_ints (atI_nat' m2)) ?_
      walk_at "s"
      rw [List.getD_eq_getElem?_getD, List.getElem?_eq_getElem hi] at hI
      exact hI
    · rw [rangeC_len, pairs_range]
      walk_at "s"
      have fin : ∀ (ε : DEnv), ε = [some (.d (.tup (dints (pre ++ rnums r ++ post)))), some (.d (.int (pre.length : Nat))), some (.d (.int r.ident)), some (.d (.int r.vol)), some (.d (.int (numb r.snap))), some (.d (.int r.prev)), some (.d (.int r.time)), some (.d (.int r.mt)), some (.d (.int r.mn)), some (.d (.int r.ta)), some (.d (.int r.tb)), some (.d (.int (r.dead.length : Nat))), some (.d (.int (((pre.length : Nat) : Int) + 10))), some (.d (.lst (pairsD r.dead))), some (.d (snapD r.snap)), none] → True := fun _ _ => trivial
      refine l_bd (fun h => ?_) fun h => ?_
      · have z := (numb_zero hr1.nm).mp h
        walk_at "s"
        refine ⟨μ, r, rfl, by unfold snapD; rw [if_pos z]; rfl, rfl, k⟩
      · have z : ¬ r.snap = [] := fun z => h ((numb_zero hr1.nm).mpr z)
        walk_at "s"
        refine ⟨r.snap, rfl, hr1.nm, by have := hr1.nml; omega, ?_⟩
        walk_at "s"
        refine ⟨μ, r, rfl, by unfold snapD; rw [if_neg z]; rfl, rfl, k⟩
theorem c__root_at {cs : Cs} (T : Txt K mg cs) (I_Root : CalleeI P w K mg base "Root" cs.Root 1 [] [] (p_Root___init__ cs)) (C_name_of : Callee P w K mg base "name_of" 1 ["number"] (p_name_of cs)) (D : DefAt K mg "_root_at" s__root_at) : Callee P w K mg base "_root_at" 3 ["numbers", "at"] (p__root_at cs) := callee_mk D (fun f fd F => F.binds fun _ _ _ _ _ _ us hl => match us, hl with | [_, _], _ => rfl) fun f fd F => ok__root_at T I_Root C_name_of F

end
end K11

set_option Elab.async false
set_option linter.all false
set_option maxRecDepth 100000
set_option maxHeartbeats 1000000
open PySem PySem.Spec PyProof.Rows L2 DV
local macro_rules | `(tactic| walk_at "s1") => `(tactic| first
  | with_reducible (first
  | refine l_seq ?_ | refine l_var rfl ?_ | refine l_c ?_ | refine l_op ?_ | refine l_cons ?_ | refine l_nil ?_ | refine l_asg ?_ | refine l_dgN ?_ | refine l_ret ?_ | refine l_call ?_ | refine l_cb ?_ | refine l_test ?_ | refine l_svb ?_ | refine l_ifS ?_
  | refine l_and ?_ | refine l_or ?_ | refine l_not ?_ | refine l_bt ?_ | refine l_bf ?_ | refine l_bnt ?_ | refine l_bnf ?_ | refine l_I0 ?_ | refine l_plusI ?_ | refine l_int ?_ | refine l_intb ?_ | refine l_svi ?_ | refine l_part0 ?_ | refine l_part1 ?_ | refine l_sl ?_ | refine l_neg ?_
  | refine l_tup ?_ | refine l_lst ?_ | refine l_lstM ?_ | refine l_star ?_ | refine l_starT ?_ | refine l_starL ?_ | refine l_callD ?_ | refine l_callK ?_ | refine l_andV ?_ | refine l_orV ?_ | refine l_notV ?_ | refine l_if ?_ | refine l_max2 ?_ | refine l_min2 ?_ | refine l_lenT ?_ | refine l_lenL ?_ | refine l_lenR ?_
  | refine l_tupleT ?_ | refine l_tupleL ?_ | refine l_listT ?_ | refine l_listL ?_ | refine l_isB ?_ | refine l_isnotB ?_ | refine l_isN ?_ | refine l_isnotN ?_ | refine l_next ?_ | refine l_break ?_ | refine l_cont ?_ | refine l_drop ?_ | refine l_retN ?_ | refine l_par ?_ | refine l_aug rfl ?_
  | refine l_dgTup2 ?_ | refine l_dgTup3 ?_ | refine l_dgTup4 ?_ | refine l_dgCons ?_ | refine l_dgNil ?_ | refine l_dgSub ?_ | refine l_yes ?_
  | refine l_parK ?_ | refine l_slT ?_ | refine l_slL ?_ | refine l_for ?_ | refine l_enum ?_ | refine l_enT ?_ | refine l_enL ?_ | refine l_seqI ?_ | refine l_sqL ?_ | refine l_tupI ?_ | refine l_tpT ?_ | refine l_rng1 ?_ | refine l_rng2 ?_ | refine l_lc ?_ | refine l_elK ?_ | refine l_app ?_
  | refine l_strI ?_ | refine l_strK ?_ | refine l_sindex ?_ | refine l_sxK ?_ | refine l_lenDD ?_ | refine l_ext ?_ | refine l_rng3 ?_ | refine l_dgFld ?_ | refine l_make ?_ | refine l_raise ?_ | refine l_xf ?_ | refine l_isF ?_ | refine l_callS ?_ | refine l_fld ?_ | refine l_sfld ?_ | refine l_dput ?_ | refine l_dget ?_ | refine l_din ?_ | refine l_dnewM ?_ | refine l_dnew ?_ | refine l_get2 ?_
  | refine l_rev ?_ | refine l_revK ?_ | refine e_int ?_ | refine n_int ?_ | refine e_tup ?_ | refine n_tup ?_ | refine e_lst ?_ | refine n_lst ?_)
  | ((with_reducible refine l_tupK rfl ?c ?_); (case c => first | decide | (simp only [List.length_cons, List.length_nil]; decide)))
  | ((with_reducible refine l_lstK rfl ?c ?_); (case c => first | decide | (simp only [List.length_cons, List.length_nil]; decide)))
  | ((with_reducible refine l_lstMK ?c ?_); (case c => first | decide | (simp only [List.length_cons, List.length_nil]; decide)))
  | ((with_reducible refine l_mod ?c ?_); (case c => first | decide | omega))
  | ((with_reducible refine l_fdiv (cdiv_of ?c ?d) ?_); (case c => first | decide | omega); (case d => first | decide | omega))
  | (with_reducible refine l_mul cmul_b ?_)
  | ((with_reducible refine l_pow (cpow_of ?c ?d ?e) ?_); (case c => decide); (case d => decide); (case e => decide))
  | ((with_reducible refine l_mul (cmul_l ?c ?d) ?_); (case c => first | decide | omega); (case d => first | decide | omega))
  | ((with_reducible refine l_mul (cmul_r ?c ?d) ?_); (case c => first | decide | omega); (case d => first | decide | omega))
  | ((with_reducible refine l_r1 ⟨?c, ?d⟩ ?_); (case c => first | decide | omega); (case d => first | decide | omega)))
local macro_rules | `(tactic| walk_at "s") => `(tactic| repeat walk_at "s1")

namespace K11
section
variable {P : Program} {w : World} {K : PySem.W.Frag} {mg : Str → Option Value} {base : Heap}
theorem setv (cs : Cs) (vs : List VolR) (h : (vs.map VolR.head).Pairwise (· < ·)) (i : Nat) (v : VolR) (e : vs[i]? = some v) (y : SV) : setK ((volsD cs (vs.take i)).map fun p => (p.1, SV.d p.2)) (.inl v.head) y = ((volsD cs (vs.take i)).map fun p => (p.1, SV.d p.2)) ++ [(.inl v.head, y)] := by
  refine setK_new fun p hp => ?_
  obtain ⟨q, hq, rfl⟩ := List.mem_map.mp hp
  obtain ⟨u, hu, rfl⟩ := List.mem_map.mp hq
  obtain ⟨j, hj, rfl⟩ := List.getElem_of_mem hu
  rw [List.length_take] at hj
  intro z
  have z : ((vs.take i)[j]'(by rw [List.length_take]; exact hj)).head = v.head := Sum.inl.inj z
  obtain ⟨hi, e⟩ := List.getElem?_eq_some_iff.mp e
  have := List.pairwise_iff_getElem.mp h j i (by rw [List.length_map]; omega) (by rw [List.length_map]; omega) (by omega)
  rw [List.getElem_map, List.getElem_map, e, ← z, List.getElem_take] at this
  exact absurd this (Int.lt_irrefl _)
theorem setr (cs : Cs) (rs : List RootR) (h : (rs.map RootR.ident).Pairwise (· < ·)) (i : Nat) (v : RootR) (e : rs[i]? = some v) (y : SV) : setK ((rootsD cs (rs.take i)).map fun p => (p.1, SV.d p.2)) (.inl v.ident) y = ((rootsD cs (rs.take i)).map fun p => (p.1, SV.d p.2)) ++ [(.inl v.ident, y)] := by
  refine setK_new fun p hp => ?_
  obtain ⟨q, hq, rfl⟩ := List.mem_map.mp hp
  obtain ⟨u, hu, rfl⟩ := List.mem_map.mp hq
  obtain ⟨j, hj, rfl⟩ := List.getElem_of_mem hu
  rw [List.length_take] at hj
  intro z
  have z : ((rs.take i)[j]'(by rw [List.length_take]; exact hj)).ident = v.ident := Sum.inl.inj z
  obtain ⟨hi, e⟩ := List.getElem?_eq_some_iff.mp e
  have := List.pairwise_iff_getElem.mp h j i (by rw [List.length_map]; omega) (by rw [List.length_map]; omega) (by omega)
  rw [List.getElem_map, List.getElem_map, e, ← z, List.getElem_take] at this
  exact absurd this (Int.lt_irrefl _)
def bk (cs : Cs) (n : Nat) (nx : Int) : MO := .obj cs.Book [("next_id", .d (.int nx)), ("volumes", .m (n + 1)), ("roots", .m (n + 2))]
theorem flat_drop {α : Type} (f : α → List Int) (c : Nat) (hf : ∀ a, (f a).length = c) : ∀ (xs : List α) (i : Nat), i ≤ xs.length → (xs.flatMap f).drop (c * i) = (xs.drop i).flatMap f
  | _, 0, _ => by rw [Nat.mul_zero]; rfl
  | [], i + 1, h => absurd h (by simp)
  | x :: r, i + 1, h => by
    rw [List.flatMap_cons, List.drop_succ_cons, ← flat_drop f c hf r i (by simpa using h), Nat.mul_succ, Nat.add_comm (c * i) c, ← List.drop_drop, List.drop_left' (hf x)]
theorem vflat_len (vs : List VolR) : (vs.flatMap vnums).length = 3 * vs.length := by
  induction vs with
  | nil => rfl
  | cons v r ih =>
    rw [List.flatMap_cons, List.length_append, ih, List.length_cons]
    show 3 + _ = _
    omega
theorem enc_vol {nx : Int} {vs : List VolR} {rs : List RootR} {i : Nat} {v : VolR} (h : vs[i]? = some v) : ((enc nx vs rs).drop (3 + 3 * i)).take 3 = vnums v := by
  obtain ⟨hi, e⟩ := List.getElem?_eq_some_iff.mp h
  unfold enc
  rw [List.append_assoc, ← List.drop_drop, List.drop_left' (i := 3) rfl, List.drop_append_of_le_length, flat_drop vnums 3 (fun _ => rfl) vs i (by omega), List.drop_eq_getElem_cons hi, e]
  · rfl
  · rw [vflat_len]
    omega
def preN (nx : Int) (vs : List VolR) (rs : List RootR) (i : Nat) : List Int := [nx, (vs.length : Nat), (rs.length : Nat)] ++ vs.flatMap vnums ++ (rs.take i).flatMap rnums
theorem preN_len0 {nx : Int} {vs : List VolR} {rs : List RootR} : (preN nx vs rs 0).length = 3 + 3 * vs.length := by
  unfold preN
  rw [List.length_append, List.length_append, vflat_len]
  rfl
theorem preN_succ {nx : Int} {vs : List VolR} {rs : List RootR} {i : Nat} {r : RootR} (h : rs[i]? = some r) : (preN nx vs rs (i + 1)).length = (preN nx vs rs i).length + (10 + 2 * r.dead.length) := by
  obtain ⟨hi, e⟩ := List.getElem?_eq_some_iff.mp h
  unfold preN
  rw [List.take_succ_eq_append_getElem hi, List.flatMap_append, List.length_append, List.length_append (bs := (rs.take i).flatMap rnums), List.length_append (bs := [rs[i]].flatMap rnums), e]
  show _ + (_ + (rnums r ++ []).length) = _
  rw [List.append_nil, rnums_len]
  omega
theorem enc_root {nx : Int} {vs : List VolR} {rs : List RootR} {i : Nat} {r : RootR} (h : rs[i]? = some r) : enc nx vs rs = preN nx vs rs i ++ rnums r ++ (rs.drop (i + 1)).flatMap rnums := by
  obtain ⟨hi, e⟩ := List.getElem?_eq_some_iff.mp h
  have z : rs = rs.take i ++ r :: rs.drop (i + 1) := by rw [← e, ← List.drop_eq_getElem_cons hi, List.take_append_drop]
  unfold enc preN
  rw [show rs.flatMap rnums = (rs.take i ++ r :: rs.drop (i + 1)).flatMap rnums by rw [← z], List.flatMap_append, List.flatMap_cons]
  simp only [List.append_assoc]
theorem preN_le {nx : Int} {vs : List VolR} {rs : List RootR} {i : Nat} : (preN nx vs rs i).length + ((rs.drop i).flatMap rnums).length = 3 + 3 * vs.length + (rs.flatMap rnums).length := by
  have z : ((rs.take i).flatMap rnums).length + ((rs.drop i).flatMap rnums).length = (rs.flatMap rnums).length := by
    rw [← List.length_append, ← List.flatMap_append, List.take_append_drop]
  unfold preN
  rw [List.length_append, List.length_append, vflat_len, ← z]
  show 3 + 3 * vs.length + _ + _ = _
  omega
theorem frz_dct {n : Nat} {d : D} {A : List (Key × D)} : (MO.dct (pureK A)).frz n d = .dct (pureK A) := congrArg MO.dct (frz_pure A)
theorem frz_bk {cs : Cs} {n m : Nat} {nx : Int} {d : D} (h : n + 2 < m) : (bk cs n nx).frz m d = bk cs n nx := by
  show MO.obj cs.Book [_, (_, if n + 1 = m then _ else _), (_, if n + 2 = m then _ else _)] = _
  rw [if_neg (by omega), if_neg (by omega)]
  rfl
theorem frz_v {cs : Cs} {n m : Nat} {nx : Int} {A : List (Key × D)} {R : List (Key × SV)} {q : Key} {d : D} (e : m = n + 3) (hR : (R.map fun p => (p.1, p.2.frz m d)) = R) : [bk cs n nx, .dct (pureK A ++ [(q, .m m)]), .dct R].map (MO.frz m d) = [bk cs n nx, .dct (pureK (A ++ [(q, d)])), .dct R] := by
  subst e
  have h1 : (bk cs n nx).frz (n + 3) d = bk cs n nx := by
    unfold bk
    simp [MO.frz, SV.frz]
  have h2 : (MO.dct (pureK A ++ [(q, .m (n + 3))])).frz (n + 3) d = .dct (pureK (A ++ [(q, d)])) := congrArg MO.dct (by
    rw [List.map_append, frz_pure]
    simp [SV.frz, pureK])
  have h3 : (MO.dct R).frz (n + 3) d = .dct R := congrArg MO.dct hR
  show [_, _, _] = _
  rw [h1, h2, h3]
theorem volsD_succ {cs : Cs} {vs : List VolR} {i : Nat} (h : i < vs.length) : volsD cs (vs.take (i + 1)) = volsD cs (vs.take i) ++ [(.inl vs[i].head, volD cs vs[i])] := by
  unfold volsD
  rw [List.take_succ_eq_append_getElem h, List.map_append]
  rfl
theorem rootsD_succ {cs : Cs} {rs : List RootR} {i : Nat} (h : i < rs.length) : rootsD cs (rs.take (i + 1)) = rootsD cs (rs.take i) ++ [(.inl rs[i].ident, rootD cs rs[i])] := by
  unfold rootsD
  rw [List.take_succ_eq_append_getElem h, List.map_append]
  rfl
theorem ok_book_of {f : Addr} {fd : FuncData} {cs : Cs} (T : Txt K mg cs) (I_Book : CalleeI P w K mg base "Book" cs.Book 1 [] [] (p_Book___init__ cs)) (I_Volume : CalleeI P w K mg base "Volume" cs.Volume 1 [] [] (p_Volume___init__ cs)) (C__root_at : Callee P w K mg base "_root_at" 3 ["numbers", "at"] (p__root_at cs)) (C_name_of : Callee P w K mg base "name_of" 1 ["number"] (p_name_of cs)) (F : Fun K "book_of" "book_of" s_book_of f fd) : FnOk P w K mg base CX0 4 f fd ["numbers"] (toSp K (p_book_of cs)) := by
  refine dfn F sc_book_of ?len (by decide) fun cdv A outer s H E Ψ hr => ⟨_, _, (dss_clo (dss_cons (ds_asg (de_make0 I_Book (hr.mono (by decide)) (by rfl)) (dg_name (i := 1) sc_book_of.nd rfl (.inl rfl)))
  (dss_cons (ds_asg (de_slice (de_var (pv 0)) do_none (do_some de_int)) (dg_tup (n := 3) rfl (dgs_cons (dg_fld (de_var (pv 1))) (dgs_cons (dg_name (i := 4) sc_book_of.nd rfl (.inl rfl)) (dgs_cons (dg_name (i := 5) sc_book_of.nd rfl (.inl rfl)) dgs_nil)))))
  (dss_cons (ds_asg de_int (dg_name (i := 2) sc_book_of.nd rfl (.inl rfl)))
  (dss_cons (ds_for PassesOwn.never rfl (di_range1 (by rfl) T.b_range (da_cons (de_var (pv 4)) da_nil)) (dg_name (i := 3) sc_book_of.nd rfl (.inl rfl))
  (dss_cons (ds_asg (de_slice (de_var (pv 0)) (do_some (de_var (pv 2))) (do_some (de_add (de_var (pv 2)) (de_globI (by rfl) T.g_VOLUME_NUMBERS)))) (dg_tup (n := 3) rfl (dgs_cons (dg_name (i := 7) sc_book_of.nd rfl (.inl rfl)) (dgs_cons (dg_name (i := 8) sc_book_of.nd rfl (.inl rfl)) (dgs_cons (dg_name (i := 9) sc_book_of.nd rfl (.inl rfl)) dgs_nil)))))
  (dss_cons (ds_dput (hu_of hr) (de_fld (de_var (pv 1))) (de_var (pv 9)) (de_make I_Volume (hr.mono (by decide)) (by rfl) (da_cons (de_c1 C_name_of (hr.mono (by decide)) (by rfl) (da_cons (de_var (pv 7)) da_nil)) (da_cons (de_var (pv 8)) (da_cons (de_var (pv 9)) da_nil)))))
  (dss_fzS (dss_one (ds_aug (i := 2) sc_book_of.nd rfl (.inl rfl) (de_globI (by rfl) T.g_VOLUME_NUMBERS) ip_add sim_ipI))))))
  (dss_cons (ds_for PassesOwn.never rfl (di_range1 (by rfl) T.b_range (da_cons (de_var (pv 5)) da_nil)) (dg_name (i := 3) sc_book_of.nd rfl (.inl rfl))
  (dss_cons (ds_asg (de_c1 C__root_at (hr.mono (by decide)) (by rfl) (da_cons (de_var (pv 0)) (da_cons (de_var (pv 2)) da_nil))) (dg_name (i := 6) sc_book_of.nd rfl (.inl rfl)))
  (dss_fzS (dss_cons (ds_dput (hu_of hr) (de_fld (de_var (pv 1))) (de_fld (de_var (pv 6))) (de_var (pv 6)))
  (dss_one (ds_aug (i := 2) sc_book_of.nd rfl (.inl rfl) (de_add (de_globI (by rfl) T.g_ROOT_NUMBERS) (de_mul de_int (de_B call_len sim_len (by rfl) T.b_len (by decide +kernel) (da_cons (de_fld (de_var (pv 6))) da_nil)))) ip_add sim_ipI))))))
  (dss_fzS (dss_fzS (dss_fzS (dss_one (ds_ret (de_var (pv 1))))))))))))), ?rd⟩
  case len => rintro xs μ Φ Ψ ⟨nx, vs, rs, rfl, _⟩; rfl
  case rd =>
    rintro xs μ Φ ⟨nx, vs, rs, rfl, ok, k⟩
    dsimp only [NN_book_of, List.length, dstart]
    refine l_clo fun hclo => ?_
    walk_at "s"
    refine ⟨μ, rfl, rfl, rfl, ?_⟩
    walk_at "s"
    have e1 : cut (dints (enc nx vs rs)) none (some 3) = dints [nx, (vs.length : Nat), (rs.length : Nat)] := by
      rw [show (3 : Int) = ((3 : Nat) : Int) by rfl, cut_to (by simp [enc])]
      rfl
    rw [e1]
    simp only [List.map]
    walk_at "s"
    refine l_fldKA T.cl_Book T.na_Book_next_id (by show 3 < 1000; decide) ?_
    walk_at "s"
    have hvl := ok.vl
    have hrl := ok.rl
    refine l_r1 (by omega) ?_
    refine for_rng (fun i ε μ' => ∃ at_ o3 o6 o7 o8 o9, ε = [some (.d (.tup (dints (enc nx vs rs)))), some (.m μ.length), some (.d (.int at_)), o3, some (.d (.int (vs.length : Nat))), some (.d (.int (rs.length : Nat))), o6, o7, o8, o9] ∧ at_ = 3 + 3 * (i : Int) ∧ μ' = μ ++ [bk cs μ.length nx, .dct (pureK (volsD cs (vs.take i))), .dct []]) ⟨_, none, none, none, none, none, rfl, rfl, rfl⟩ ?_ ?_
    · rintro i ε μ' hi ⟨at_, o3, o6, o7, o8, o9, rfl, rfl, rfl⟩
      have hi : i < vs.length := by omega
      have hv := List.getElem?_eq_getElem hi
      have vok := ok.v _ (List.getElem_mem hi)
      walk_at "s"
      rw [show (3 + 3 * (i : Int)) = ((3 + 3 * i : Nat) : Int) by omega, show ((3 + 3 * i : Nat) : Int) + 3 = ((3 + 3 * i + 3 : Nat) : Int) by omega, cut_map, cut_nn, Nat.add_sub_cancel_left, enc_vol hv]
      simp only [vnums, List.map]
      walk_at "s"
      refine ⟨vs[i].nm, rfl, vok.nm, by have := vok.nml; omega, ?_⟩
      walk_at "s"
      refine ⟨_, vs[i], rfl, rfl, rfl, ?_⟩
      simp only [List.append_assoc, List.cons_append, List.nil_append, List.length_append, List.length_cons, List.length_nil, Nat.zero_add, Nat.reduceAdd]
      walk_at "s"
      refine l_fldA T.cl_Book T.na_Book_volumes rfl ?_
      walk_at "s"
      refine l_putA rfl rfl (szlt (by simp [volsD]; omega)) ?_
      rw [setv cs vs ok.va i _ hv]
      refine l_fzA [bk cs μ.length nx, .dct (pureK (volsD cs (vs.take i)) ++ [(.inl vs[i].head, .m (μ.length + 3))]), .dct []] (.obj cs.Volume (pure_ (volF vs[i]))) (volD cs vs[i]) hclo rfl (Rest.obj _ _) (by simp) (by simp [frz]; rfl) (frz_v rfl rfl) ?_
      walk_at "s"
      rw [← volsD_succ hi]
      exact ⟨_, _, _, _, _, _, rfl, by omega, rfl⟩
    · rintro ε μ' ⟨at_, o3, o6, o7, o8, o9, rfl, rfl, rfl⟩
      rw [show (3 + 3 * (((vs.length : Nat) : Int).toNat : Int)) = (((preN nx vs rs 0).length : Nat) : Int) by rw [preN_len0]; omega, show List.take ((vs.length : Nat) : Int).toNat vs = vs by rw [show ((vs.length : Nat) : Int).toNat = vs.length by omega, List.take_length]]
      walk_at "s"
      refine for_rng (fun i ε μ' => ∃ at_ o3 o6 o7 o8 o9, ε = [some (.d (.tup (dints (enc nx vs rs)))), some (.m μ.length), some (.d (.int at_)), o3, some (.d (.int (vs.length : Nat))), some (.d (.int (rs.length : Nat))), o6, o7, o8, o9] ∧ at_ = (((preN nx vs rs i).length : Nat) : Int) ∧ μ' = μ ++ [bk cs μ.length nx, .dct (pureK (volsD cs vs)), .dct (pureK (rootsD cs (rs.take i)))]) ⟨_, o3, o6, o7, o8, o9, rfl, rfl, rfl⟩ ?_ ?_
      · rintro i ε μ' hi ⟨at_, o3, o6, o7, o8, o9, rfl, rfl, rfl⟩
        have hi : i < rs.length := by omega
        have hv := List.getElem?_eq_getElem hi
        have rok := ok.r _ (List.getElem_mem hi)
        have hle := preN_le (nx := nx) (vs := vs) (rs := rs) (i := i)
        have hle2 := preN_le (nx := nx) (vs := vs) (rs := rs) (i := i + 1)
        have hlen := ok.len
        walk_at "s"
        refine ⟨preN nx vs rs i, _, rs[i], by rw [enc_root hv], rok, by omega, by omega, ?_⟩
        simp only [List.append_assoc, List.cons_append, List.nil_append, List.length_append, List.length_cons, List.length_nil, Nat.zero_add, Nat.reduceAdd]
        walk_at "s"
        refine l_fzA [bk cs μ.length nx, .dct (pureK (volsD cs vs)), .dct (pureK (rootsD cs (rs.take i)))] (.obj cs.Root (pure_ (rootF rs[i]))) (rootD cs rs[i]) hclo rfl (Rest.obj _ _) (by simp) (by simp [frz]; rfl) (l' := [bk cs μ.length nx, .dct (pureK (volsD cs vs)), .dct (pureK (rootsD cs (rs.take i)))]) ?_ ?_
        · show [_, _, _] = _
          rw [frz_dct, frz_dct, frz_bk (by simp)]
        walk_at "s"
        refine l_fldA T.cl_Book T.na_Book_roots rfl ?_
        walk_at "s"
        refine l_fldD T.cl_Root T.na_Root_ident rfl ?_
        refine l_putA (i := 2) rfl rfl (szlt (by simp [rootsD]; omega)) ?_
        rw [setr cs rs ok.ra i _ hv]
        walk_at "s"
        refine l_fldD T.cl_Root T.na_Root_dead rfl ?_
        walk_at "s"
        refine ⟨_, _, _, _, _, _, rfl, ?_, ?_⟩
        · rw [preN_succ hv, show (pairsD rs[i].dead).length = rs[i].dead.length by simp [pairsD]]
          omega
        · rw [rootsD_succ hi]
          show μ ++ [_, _, _] = _
          unfold pureK
          rw [List.map_append]
          rfl
      · rintro ε μ' ⟨at_, o3, o6, o7, o8, o9, rfl, rfl, rfl⟩
        rw [show List.take ((rs.length : Nat) : Int).toNat rs = rs by rw [show ((rs.length : Nat) : Int).toNat = rs.length by omega, List.take_length]]
        refine l_fzA [bk cs μ.length nx, .dct (pureK (volsD cs vs))] (.dct (pureK (rootsD cs rs))) (.dct (rootsD cs rs)) hclo rfl (Rest.dct _) (by simp) rfl (l' := [.obj cs.Book [("next_id", .d (.int nx)), ("volumes", .m (μ.length + 1)), ("roots", .d (.dct (rootsD cs rs)))], .dct (pureK (volsD cs vs))]) ?_ ?_
        · show [MO.obj cs.Book [_, (_, if μ.length + 1 = μ.length + 2 then _ else _), (_, if μ.length + 2 = μ.length + 2 then _ else _)], _] = _
          rw [frz_dct, if_neg (by omega), if_pos rfl]
          rfl
        refine l_fzA [.obj cs.Book [("next_id", .d (.int nx)), ("volumes", .m (μ.length + 1)), ("roots", .d (.dct (rootsD cs rs)))]] (.dct (pureK (volsD cs vs))) (.dct (volsD cs vs)) hclo rfl (Rest.dct _) (by simp) rfl (l' := [.obj cs.Book (pure_ [("next_id", .int nx), ("volumes", .dct (volsD cs vs)), ("roots", .dct (rootsD cs rs))])]) ?_ ?_
        · show [MO.obj cs.Book [_, (_, if μ.length + 1 = μ.length + 1 then _ else _), _]] = _
          rw [if_pos rfl]
          rfl
        refine l_fzA [] _ (bookD cs nx vs rs) hclo rfl (Rest.obj _ _) (by simp) (by simp [frz]; rfl) rfl ?_
        walk_at "s"
        rw [List.map_nil, List.append_nil]
        exact k
theorem c_book_of {cs : Cs} (T : Txt K mg cs) (I_Book : CalleeI P w K mg base "Book" cs.Book 1 [] [] (p_Book___init__ cs)) (I_Volume : CalleeI P w K mg base "Volume" cs.Volume 1 [] [] (p_Volume___init__ cs)) (C__root_at : Callee P w K mg base "_root_at" 3 ["numbers", "at"] (p__root_at cs)) (C_name_of : Callee P w K mg base "name_of" 1 ["number"] (p_name_of cs)) (D : DefAt K mg "book_of" s_book_of) : Callee P w K mg base "book_of" 4 ["numbers"] (p_book_of cs) := callee_mk D (fun f fd F => F.binds fun _ _ _ _ _ _ us hl => match us, hl with | [_], _ => rfl) fun f fd F => ok_book_of T I_Book I_Volume C__root_at C_name_of F

end
end K11

set_option Elab.async false
set_option linter.all false
set_option maxRecDepth 100000
set_option maxHeartbeats 1000000
open PySem PySem.Spec PyProof.Rows L2 DV
local macro_rules | `(tactic| walk_at "s1") => `(tactic| first
  | with_reducible (first
  | refine l_seq ?_ | refine l_var rfl ?_ | refine l_c ?_ | refine l_op ?_ | refine l_cons ?_ | refine l_nil ?_ | refine l_asg ?_ | refine l_dgN ?_ | refine l_ret ?_ | refine l_call ?_ | refine l_cb ?_ | refine l_test ?_ | refine l_svb ?_ | refine l_ifS ?_
  | refine l_and ?_ | refine l_or ?_ | refine l_not ?_ | refine l_bt ?_ | refine l_bf ?_ | refine l_bnt ?_ | refine l_bnf ?_ | refine l_I0 ?_ | refine l_plusI ?_ | refine l_int ?_ | refine l_intb ?_ | refine l_svi ?_ | refine l_part0 ?_ | refine l_part1 ?_ | refine l_sl ?_ | refine l_neg ?_
  | refine l_tup ?_ | refine l_lst ?_ | refine l_lstM ?_ | refine l_star ?_ | refine l_starT ?_ | refine l_starL ?_ | refine l_callD ?_ | refine l_callK ?_ | refine l_andV ?_ | refine l_orV ?_ | refine l_notV ?_ | refine l_if ?_ | refine l_max2 ?_ | refine l_min2 ?_ | refine l_lenT ?_ | refine l_lenL ?_ | refine l_lenR ?_
  | refine l_tupleT ?_ | refine l_tupleL ?_ | refine l_listT ?_ | refine l_listL ?_ | refine l_isB ?_ | refine l_isnotB ?_ | refine l_isN ?_ | refine l_isnotN ?_ | refine l_next ?_ | refine l_break ?_ | refine l_cont ?_ | refine l_drop ?_ | refine l_retN ?_ | refine l_par ?_ | refine l_aug rfl ?_
  | refine l_dgTup2 ?_ | refine l_dgTup3 ?_ | refine l_dgTup4 ?_ | refine l_dgCons ?_ | refine l_dgNil ?_ | refine l_dgSub ?_ | refine l_yes ?_
  | refine l_parK ?_ | refine l_slT ?_ | refine l_slL ?_ | refine l_for ?_ | refine l_enum ?_ | refine l_enT ?_ | refine l_enL ?_ | refine l_seqI ?_ | refine l_sqL ?_ | refine l_tupI ?_ | refine l_tpT ?_ | refine l_rng1 ?_ | refine l_rng2 ?_ | refine l_lc ?_ | refine l_elK ?_ | refine l_app ?_
  | refine l_strI ?_ | refine l_strK ?_ | refine l_sindex ?_ | refine l_sxK ?_ | refine l_lenDD ?_ | refine l_ext ?_ | refine l_rng3 ?_ | refine l_dgFld ?_ | refine l_make ?_ | refine l_raise ?_ | refine l_xf ?_ | refine l_isF ?_ | refine l_callS ?_ | refine l_fld ?_ | refine l_sfld ?_ | refine l_dput ?_ | refine l_dget ?_ | refine l_din ?_ | refine l_dnewM ?_ | refine l_dnew ?_ | refine l_get2 ?_
  | refine l_rev ?_ | refine l_revK ?_ | refine e_int ?_ | refine n_int ?_ | refine e_tup ?_ | refine n_tup ?_ | refine e_lst ?_ | refine n_lst ?_)
  | ((with_reducible refine l_tupK rfl ?c ?_); (case c => first | decide | (simp only [List.length_cons, List.length_nil]; decide)))
  | ((with_reducible refine l_lstK rfl ?c ?_); (case c => first | decide | (simp only [List.length_cons, List.length_nil]; decide)))
  | ((with_reducible refine l_lstMK ?c ?_); (case c => first | decide | (simp only [List.length_cons, List.length_nil]; decide)))
  | ((with_reducible refine l_mod ?c ?_); (case c => first | decide | omega))
  | ((with_reducible refine l_fdiv (cdiv_of ?c ?d) ?_); (case c => first | decide | omega); (case d => first | decide | omega))
  | (with_reducible refine l_mul cmul_b ?_)
  | ((with_reducible refine l_pow (cpow_of ?c ?d ?e) ?_); (case c => decide); (case d => decide); (case e => decide))
  | ((with_reducible refine l_mul (cmul_l ?c ?d) ?_); (case c => first | decide | omega); (case d => first | decide | omega))
  | ((with_reducible refine l_mul (cmul_r ?c ?d) ?_); (case c => first | decide | omega); (case d => first | decide | omega))
  | ((with_reducible refine l_r1 ⟨?c, ?d⟩ ?_); (case c => first | decide | omega); (case d => first | decide | omega)))
local macro_rules | `(tactic| walk_at "s") => `(tactic| repeat walk_at "s1")

namespace K11
section
variable {P : Program} {w : World} {K : PySem.W.Frag} {mg : Str → Option Value} {base : Heap}
theorem perm_sorted {ys ks : List Int} (h : ys.Perm ks) (h1 : ys.Pairwise (· ≤ ·)) (h2 : ks.Pairwise (· < ·)) : ys = ks :=
  h.eq_of_pairwise (le := (· ≤ ·)) (fun a b _ _ hab hba => Int.le_antisymm hab hba) h1 (h2.imp fun h => Int.le_of_lt h)
theorem lookK_map {α : Type} (f : α → Int) (g : α → D) : ∀ (xs : List α) (i : Nat) (x : α), (xs.map f).Pairwise (· < ·) → xs[i]? = some x → lookK (xs.map fun a => ((.inl (f a) : Key), g a)) (.inl (f x)) = some (g x)
  | [], _, _, _, h => by simp at h
  | y :: r, 0, x, _, h => by
    have h : y = x := by simpa using h
    subst h
    exact lookK_pos rfl
  | y :: r, i + 1, x, hp, h => by
    have h : r[i]? = some x := by simpa using h
    rw [List.map_cons, List.pairwise_cons] at hp
    have hne := hp.1 (f x) (List.mem_map.mpr ⟨x, List.mem_of_getElem? h, rfl⟩)
    rw [List.map_cons, lookK_neg]
    · exact lookK_map f g r i x hp.2 h
    · intro z
      have z : f y = f x := Sum.inl.inj z
      omega
theorem flat2_snoc (ps : List (Int × Int)) (p : Int × Int) : flat2 (ps ++ [p]) = flat2 ps ++ [p.1, p.2] := by
  unfold flat2
  rw [List.flatMap_append]
  rfl
theorem ok__root_numbers {f : Addr} {fd : FuncData} {cs : Cs} (T : Txt K mg cs) (C_name_number : Callee P w K mg base "name_number" 1 ["name"] (p_name_number cs)) (F : Fun K "_root_numbers" "_root_numbers" s__root_numbers f fd) : FnOk P w K mg base CX0 2 f fd ["root"] (toSp K (p__root_numbers cs)) := by
  refine dfn F sc__root_numbers ?len (by decide) fun cdv A outer s H E Ψ hr => ⟨_, _, (dss_clo (dss_cut (ds_asg (de_ifExp (dt_isN (de_fld (de_var (pv 0))) de_non) de_int (de_c1 C_name_number (hr.mono (by decide)) (by rfl) (da_cons (de_fld (de_var (pv 0))) da_nil))) (dg_name (i := 1) sc__root_numbers.nd rfl (.inl rfl)))
  (dss_cons (ds_asg (de_lstM (da_cons (de_fld (de_var (pv 0))) (da_cons (de_fld (de_var (pv 0))) (da_cons (de_var (pv 1)) (da_cons (de_fld (de_var (pv 0))) (da_cons (de_fld (de_var (pv 0))) (da_star (de_fld (de_var (pv 0))) (da_star (de_fld (de_var (pv 0))) (da_cons (de_B call_len sim_len (by rfl) T.b_len (by decide +kernel) (da_cons (de_fld (de_var (pv 0))) da_nil)) da_nil))))))))) (dg_name (i := 2) sc__root_numbers.nd rfl (.inl rfl)))
  (dss_cons (ds_for PassesOwn.never rfl (di_tup (de_fld (de_var (pv 0)))) (dg_name (i := 3) sc__root_numbers.nd rfl (.inl rfl))
  (dss_one (ds_expr (de_extend (de_var (pv 2)) (de_var (pv 3))))))
  (dss_fzS (dss_one (ds_ret (de_var (pv 2))))))))), ?rd⟩
  case len => rintro xs μ Φ Ψ ⟨r, rfl, _⟩; rfl
  case rd =>
    rintro xs μ Φ ⟨r, rfl, ok, k⟩
    dsimp only [NN__root_numbers, List.length, dstart]
    have hdl := ok.dl
    refine l_clo fun hclo => ?_
    refine l_cut (Mid := fun ε' μ' => ε' = [some (.d (rootD cs r)), some (.d (.int (numb r.snap))), none, none] ∧ μ' = μ) ?_ ?_
    · walk_at "s"
      refine l_fldD T.cl_Root T.na_Root_snap rfl ?_
      walk_at "s"
      by_cases z : r.snap = []
      · refine l_bT (by unfold snapD; rw [if_pos z]; rfl) ?_
        walk_at "s"
        rw [z]
        exact ⟨rfl, rfl⟩
      · refine l_bF (by unfold snapD; rw [if_neg z]; rfl) ?_
        walk_at "s"
        refine l_fldD T.cl_Root T.na_Root_snap rfl ?_
        walk_at "s"
        refine ⟨r.snap, by unfold snapD; rw [if_neg z], ok.nm, by have := ok.nml; omega, ?_⟩
        walk_at "s"
        exact ⟨rfl, rfl⟩
    · rintro ε' μ' ⟨rfl, rfl⟩
      walk_at "s"
      refine l_fldD T.cl_Root T.na_Root_ident rfl ?_
      walk_at "s"
      refine l_fldD T.cl_Root T.na_Root_volume rfl ?_
      walk_at "s"
      refine l_fldD T.cl_Root T.na_Root_prev rfl ?_
      walk_at "s"
      refine l_fldD T.cl_Root T.na_Root_time rfl ?_
      walk_at "s"
      refine l_fldD T.cl_Root T.na_Root_mark rfl ?_
      walk_at "s"
      refine l_fldD T.cl_Root T.na_Root_top rfl ?_
      walk_at "s"
      refine l_fldD T.cl_Root T.na_Root_dead rfl ?_
      walk_at "s"
      refine l_lstMK (szle (by simp)) ?_
      walk_at "s"
      refine l_fldD T.cl_Root T.na_Root_dead rfl ?_
      walk_at "s"
      refine for_seq (fun i ε μ2 => ∃ o3, ε = [some (.d (rootD cs r)), some (.d (.int (numb r.snap))), some (.m μ'.length), o3] ∧ μ2 = μ' ++ [.lst ((dints (ten r ++ flat2 (r.dead.take i))).map SV.d)]) ⟨none, rfl, ?_⟩ ?_ ?_
      · rw [show (pairsD r.dead).length = r.dead.length by simp [pairsD]]
        rfl
      · rintro i x ε μ2 hx ⟨o3, rfl, rfl⟩
        unfold pairsD at hx
        rw [List.getElem?_map] at hx
        obtain ⟨p, hp, rfl⟩ := Option.map_eq_some_iff.mp hx
        obtain ⟨hi, e⟩ := List.getElem?_eq_some_iff.mp hp
        walk_at "s"
        refine l_extM at_app0 ?_
        walk_at "s"
        refine l_extT at_app0 (szle ?_) ?_
        · simp only [List.length_map, List.length_append, flat2_len, List.length_take]
          show 10 + _ + 2 ≤ _
          omega
        rw [set_app0]
        walk_at "s"
        refine ⟨_, rfl, ?_⟩
        rw [List.take_succ_eq_append_getElem hi, e, flat2_snoc]
        simp only [dints, List.map_append, List.append_assoc]
      · rintro ε μ2 ⟨o3, rfl, rfl⟩
        rw [show (pairsD r.dead).length = r.dead.length by simp [pairsD], List.take_length, ← rnums_ten]
        refine l_fzA [] (.lst ((dints (rnums r)).map SV.d)) (.lst (dints (rnums r))) hclo rfl (Rest.lst _) (by simp) (by simp [frz]; rfl) rfl ?_
        walk_at "s"
        rw [List.map_nil, List.append_nil]
        exact k
theorem c__root_numbers {cs : Cs} (T : Txt K mg cs) (C_name_number : Callee P w K mg base "name_number" 1 ["name"] (p_name_number cs)) (D : DefAt K mg "_root_numbers" s__root_numbers) : Callee P w K mg base "_root_numbers" 2 ["root"] (p__root_numbers cs) := callee_mk D (fun f fd F => F.binds fun _ _ _ _ _ _ us hl => match us, hl with | [_], _ => rfl) fun f fd F => ok__root_numbers T C_name_number F
theorem ok_book_numbers {f : Addr} {fd : FuncData} {cs : Cs} (T : Txt K mg cs) (C__root_numbers : Callee P w K mg base "_root_numbers" 2 ["root"] (p__root_numbers cs)) (C_name_number : Callee P w K mg base "name_number" 1 ["name"] (p_name_number cs)) (F : Fun K "book_numbers" "book_numbers" s_book_numbers f fd) : FnOk P w K mg base CX0 3 f fd ["book"] (toSp K (p_book_numbers cs)) := by
  refine dfn F sc_book_numbers ?len (by decide) fun cdv A outer s H E Ψ hr => ⟨_, _, (dss_clo (dss_cons (ds_asg (de_lstM (da_cons (de_fld (de_var (pv 0))) (da_cons (de_B call_lenR sim_lenD (by rfl) T.b_len (by decide +kernel) (da_cons (de_fld (de_var (pv 0))) da_nil)) (da_cons (de_B call_lenR sim_lenD (by rfl) T.b_len (by decide +kernel) (da_cons (de_fld (de_var (pv 0))) da_nil)) da_nil)))) (dg_name (i := 1) sc_book_numbers.nd rfl (.inl rfl)))
  (dss_cons (ds_for PassesOwn.never rfl (di_seq (de_B (call_sortedDI rfl) sim_sortedDI (by rfl) T.b_sorted (by decide +kernel) (da_cons (de_fld (de_var (pv 0))) da_nil))) (dg_name (i := 2) sc_book_numbers.nd rfl (.inl rfl))
  (dss_cons (ds_asg (de_dget (hu_of hr) (de_fld (de_var (pv 0))) (de_var (pv 2))) (dg_name (i := 4) sc_book_numbers.nd rfl (.inl rfl)))
  (dss_one (ds_expr (de_extend (de_var (pv 1)) (de_tup (da_cons (de_c1 C_name_number (hr.mono (by decide)) (by rfl) (da_cons (de_fld (de_var (pv 4))) da_nil)) (da_cons (de_fld (de_var (pv 4))) (da_cons (de_fld (de_var (pv 4))) da_nil)))))))))
  (dss_cons (ds_for PassesOwn.never rfl (di_seq (de_B (call_sortedDI rfl) sim_sortedDI (by rfl) T.b_sorted (by decide +kernel) (da_cons (de_fld (de_var (pv 0))) da_nil))) (dg_name (i := 3) sc_book_numbers.nd rfl (.inl rfl))
  (dss_one (ds_expr (de_extend (de_var (pv 1)) (de_c1 C__root_numbers (hr.mono (by decide)) (by rfl) (da_cons (de_dget (hu_of hr) (de_fld (de_var (pv 0))) (de_var (pv 3))) da_nil))))))
  (dss_fzS (dss_one (ds_ret (de_Ty call_tuple_of sim_tuple (by rfl) T.b_tuple (by decide +kernel) (da_cons (de_var (pv 1)) da_nil))))))))), ?rd⟩
  case len => rintro xs μ Φ Ψ ⟨nx, vs, rs, rfl, _⟩; rfl
  case rd =>
    rintro xs μ Φ ⟨nx, vs, rs, rfl, ok, k⟩
    dsimp only [NN_book_numbers, List.length, dstart]
    have hvl := ok.vl
    have hrl := ok.rl
    have hlen := ok.len
    refine l_clo fun hclo => ?_
    walk_at "s"
    refine l_fldD T.cl_Book T.na_Book_next_id rfl ?_
    walk_at "s"
    refine l_fldD T.cl_Book T.na_Book_volumes rfl ?_
    walk_at "s"
    refine l_fldD T.cl_Book T.na_Book_roots rfl ?_
    walk_at "s"
    refine l_fldD T.cl_Book T.na_Book_volumes rfl ?_
    walk_at "s"
    refine l_sortedD (ks := vs.map VolR.head) (by simp [volsD]) (by rw [List.length_map]; omega) fun ys hp hs => ?_
    obtain rfl := perm_sorted hp hs ok.va
    walk_at "s"
    refine for_seq (fun i ε μ2 => ∃ o2 o4, ε = [some (.d (bookD cs nx vs rs)), some (.m μ.length), o2, none, o4] ∧ μ2 = μ ++ [.lst ((dints ([nx, (vs.length : Nat), (rs.length : Nat)] ++ (vs.take i).flatMap vnums)).map SV.d)]) ⟨none, none, rfl, ?_⟩ ?_ ?_
    · rw [show (volsD cs vs).length = vs.length by simp [volsD], show (rootsD cs rs).length = rs.length by simp [rootsD]]
      rfl
    · rintro i x ε μ2 hx ⟨o2, o4, rfl, rfl⟩
      rw [List.getElem?_map, List.getElem?_map] at hx
      obtain ⟨y, hy, rfl⟩ := Option.map_eq_some_iff.mp hx
      obtain ⟨v, hv, rfl⟩ := Option.map_eq_some_iff.mp hy
      obtain ⟨hi, e⟩ := List.getElem?_eq_some_iff.mp hv
      have vok := ok.v v (List.mem_of_getElem? hv)
      walk_at "s"
      refine l_fldD T.cl_Book T.na_Book_volumes rfl ?_
      walk_at "s"
      refine l_dgetD rfl (lookK_map VolR.head (volD cs) vs i v ok.va hv) ?_
      walk_at "s"
      refine l_extM at_app0 ?_
      walk_at "s"
      refine l_fldD T.cl_Volume T.na_Volume_name rfl ?_
      walk_at "s"
      refine ⟨v.nm, rfl, vok.nm, by have := vok.nml; omega, ?_⟩
      walk_at "s"
      refine l_fldD T.cl_Volume T.na_Volume_quota rfl ?_
      walk_at "s"
      refine l_fldD T.cl_Volume T.na_Volume_head rfl ?_
      walk_at "s"
      refine l_extT at_app0 (szle ?_) ?_
      · simp only [List.length_map, List.length_append, vflat_len, List.length_take]
        show 3 + _ + 3 ≤ _
        omega
      rw [set_app0]
      walk_at "s"
      refine ⟨_, _, rfl, ?_⟩
      rw [List.take_succ_eq_append_getElem hi, e, List.flatMap_append, show [v].flatMap vnums = vnums v by simp]
      simp only [dints, List.map_append, List.append_assoc]
      rfl
    · rintro ε μ2 ⟨o2, o4, rfl, rfl⟩
      rw [List.length_map, List.length_map, List.take_length]
      walk_at "s"
      refine l_fldD T.cl_Book T.na_Book_roots rfl ?_
      walk_at "s"
      refine l_sortedD (ks := rs.map RootR.ident) (by simp [rootsD]) (by rw [List.length_map]; omega) fun ys hp hs => ?_
      obtain rfl := perm_sorted hp hs ok.ra
      walk_at "s"
      refine for_seq (fun i ε μ2 => ∃ o2 o3 o4, ε = [some (.d (bookD cs nx vs rs)), some (.m μ.length), o2, o3, o4] ∧ μ2 = μ ++ [.lst ((dints ([nx, (vs.length : Nat), (rs.length : Nat)] ++ vs.flatMap vnums ++ (rs.take i).flatMap rnums)).map SV.d)]) ⟨_, _, _, rfl, by rw [show (rs.take 0).flatMap rnums = [] by rfl, List.append_nil]⟩ ?_ ?_
      · rintro i x ε μ2 hx ⟨o2, o3, o4, rfl, rfl⟩
        rw [List.getElem?_map, List.getElem?_map] at hx
        obtain ⟨y, hy, rfl⟩ := Option.map_eq_some_iff.mp hx
        obtain ⟨v, hv, rfl⟩ := Option.map_eq_some_iff.mp hy
        obtain ⟨hi, e⟩ := List.getElem?_eq_some_iff.mp hv
        have rok := ok.r v (List.mem_of_getElem? hv)
        have hle := preN_le (nx := nx) (vs := vs) (rs := rs) (i := i + 1)
        have hsu := preN_succ (nx := nx) (vs := vs) hv
        walk_at "s"
        refine l_extM at_app0 ?_
        walk_at "s"
        refine l_fldD T.cl_Book T.na_Book_roots rfl ?_
        walk_at "s"
        refine l_dgetD rfl (lookK_map RootR.ident (rootD cs) rs i v ok.ra hv) ?_
        walk_at "s"
        refine ⟨v, rfl, rok, ?_⟩
        refine l_extL at_app0 (szle ?_) ?_
        · rw [List.length_map, List.length_map, List.length_map, rnums_len]
          unfold preN at hle hsu
          omega
        rw [set_app0]
        walk_at "s"
        refine ⟨_, _, _, rfl, ?_⟩
        rw [List.take_succ_eq_append_getElem hi, e, List.flatMap_append, show [v].flatMap rnums = rnums v by simp]
        simp only [dints, List.map_append, List.append_assoc]
      · rintro ε μ2 ⟨o2, o3, o4, rfl, rfl⟩
        rw [List.length_map, List.length_map, List.take_length]
        refine l_fzA [] (.lst ((dints (enc nx vs rs)).map SV.d)) (.lst (dints (enc nx vs rs))) hclo rfl (Rest.lst _) (by simp) (by simp [frz]; rfl) rfl ?_
        walk_at "s"
        rw [List.map_nil, List.append_nil]
        exact k
theorem c_book_numbers {cs : Cs} (T : Txt K mg cs) (C__root_numbers : Callee P w K mg base "_root_numbers" 2 ["root"] (p__root_numbers cs)) (C_name_number : Callee P w K mg base "name_number" 1 ["name"] (p_name_number cs)) (D : DefAt K mg "book_numbers" s_book_numbers) : Callee P w K mg base "book_numbers" 3 ["book"] (p_book_numbers cs) := callee_mk D (fun f fd F => F.binds fun _ _ _ _ _ _ us hl => match us, hl with | [_], _ => rfl) fun f fd F => ok_book_numbers T C__root_numbers C_name_number F
theorem ok_need_fitting {f : Addr} {fd : FuncData} {cs : Cs} (T : Txt K mg cs) (C_book_numbers : Callee P w K mg base "book_numbers" 3 ["book"] (p_book_numbers cs)) (F : Fun K "need_fitting" "need_fitting" s_need_fitting f fd) : FnOk P w K mg base (L2.CX P w) 4 f fd ["book"] (toSp K (p_need_fitting cs)) := by
  refine dfnX F sc_need_fitting ?len (by decide) fun cdv A outer s H E Ψ hr => ⟨_, _, (dss_cons (ds_asg (de_B call_len sim_len (by rfl) T.b_len (by decide +kernel) (da_cons (de_c1 C_book_numbers (hr.mono (by decide)) (by rfl) (da_cons (de_var (pv 0)) da_nil)) da_nil)) (dg_name (i := 1) sc_need_fitting.nd rfl (.inl rfl)))
  (dss_one (ds_if (dt_gt (de_var (pv 1)) (de_mul (de_globI (by rfl) T.g_PAGES) (de_globI (by rfl) T.g_PAGE_NUMBERS))) (dss_one (ds_raise T.ox_BookFull T.ie_BookFull T.ti T.na_BookFull_what (F1 T) (hr.mono (by decide)) T.be (by rfl) T.mg_BookFull rfl (takes_of rfl rfl rfl rfl) (da_cons (de_var (pv 1)) da_nil))) dss_nil))), ?rd⟩
  case len => rintro xs μ Φ Ψ ⟨nx, vs, rs, rfl, _⟩; rfl
  case rd =>
    rintro xs μ Φ ⟨nx, vs, rs, rfl, ok, k1, k2⟩
    dsimp only [NN_need_fitting, List.length, dstart]
    walk_at "s"
    refine ⟨nx, vs, rs, rfl, ok, ?_⟩
    walk_at "s"
    rw [List.length_map]
    refine l_bd (fun h => ?_) fun h => ?_
    · walk_at "s"
      exact ⟨_, rfl, k2 (by omega)⟩
    · walk_at "s"
      exact k1 (by omega)
theorem c_need_fitting {cs : Cs} (T : Txt K mg cs) (C_book_numbers : Callee P w K mg base "book_numbers" 3 ["book"] (p_book_numbers cs)) (D : DefAt K mg "need_fitting" s_need_fitting) : CalleeX P w K mg base "need_fitting" 4 ["book"] (p_need_fitting cs) := by
  obtain ⟨f, fd, F, hm⟩ := D.ex
  exact ⟨f, fd, ok_need_fitting T C_book_numbers F, hm, F.kp, F.binds fun _ _ _ _ _ _ us hl => match us, hl with | [_], _ => rfl⟩

end
end K11

set_option Elab.async false
set_option linter.all false
set_option maxRecDepth 100000
set_option maxHeartbeats 1000000
open PySem PySem.Spec PyProof.Rows L2 DV
local macro_rules | `(tactic| walk_at "s1") => `(tactic| first
  | with_reducible (first
  | refine l_seq ?_ | refine l_var rfl ?_ | refine l_c ?_ | refine l_op ?_ | refine l_cons ?_ | refine l_nil ?_ | refine l_asg ?_ | refine l_dgN ?_ | refine l_ret ?_ | refine l_call ?_ | refine l_cb ?_ | refine l_test ?_ | refine l_svb ?_ | refine l_ifS ?_
  | refine l_and ?_ | refine l_or ?_ | refine l_not ?_ | refine l_bt ?_ | refine l_bf ?_ | refine l_bnt ?_ | refine l_bnf ?_ | refine l_I0 ?_ | refine l_plusI ?_ | refine l_int ?_ | refine l_intb ?_ | refine l_svi ?_ | refine l_part0 ?_ | refine l_part1 ?_ | refine l_sl ?_ | refine l_neg ?_
  | refine l_tup ?_ | refine l_lst ?_ | refine l_lstM ?_ | refine l_star ?_ | refine l_starT ?_ | refine l_starL ?_ | refine l_callD ?_ | refine l_callK ?_ | refine l_andV ?_ | refine l_orV ?_ | refine l_notV ?_ | refine l_if ?_ | refine l_max2 ?_ | refine l_min2 ?_ | refine l_lenT ?_ | refine l_lenL ?_ | refine l_lenR ?_
  | refine l_tupleT ?_ | refine l_tupleL ?_ | refine l_listT ?_ | refine l_listL ?_ | refine l_isB ?_ | refine l_isnotB ?_ | refine l_isN ?_ | refine l_isnotN ?_ | refine l_next ?_ | refine l_break ?_ | refine l_cont ?_ | refine l_drop ?_ | refine l_retN ?_ | refine l_par ?_ | refine l_aug rfl ?_
  | refine l_dgTup2 ?_ | refine l_dgTup3 ?_ | refine l_dgTup4 ?_ | refine l_dgCons ?_ | refine l_dgNil ?_ | refine l_dgSub ?_ | refine l_yes ?_
  | refine l_parK ?_ | refine l_slT ?_ | refine l_slL ?_ | refine l_for ?_ | refine l_enum ?_ | refine l_enT ?_ | refine l_enL ?_ | refine l_seqI ?_ | refine l_sqL ?_ | refine l_tupI ?_ | refine l_tpT ?_ | refine l_rng1 ?_ | refine l_rng2 ?_ | refine l_lc ?_ | refine l_elK ?_ | refine l_app ?_
  | refine l_strI ?_ | refine l_strK ?_ | refine l_sindex ?_ | refine l_sxK ?_ | refine l_lenDD ?_ | refine l_ext ?_ | refine l_rng3 ?_ | refine l_dgFld ?_ | refine l_make ?_ | refine l_raise ?_ | refine l_xf ?_ | refine l_isF ?_ | refine l_callS ?_ | refine l_fld ?_ | refine l_sfld ?_ | refine l_dput ?_ | refine l_dget ?_ | refine l_din ?_ | refine l_dnewM ?_ | refine l_dnew ?_ | refine l_get2 ?_
  | refine l_rev ?_ | refine l_revK ?_ | refine e_int ?_ | refine n_int ?_ | refine e_tup ?_ | refine n_tup ?_ | refine e_lst ?_ | refine n_lst ?_)
  | ((with_reducible refine l_tupK rfl ?c ?_); (case c => first | decide | (simp only [List.length_cons, List.length_nil]; decide)))
  | ((with_reducible refine l_lstK rfl ?c ?_); (case c => first | decide | (simp only [List.length_cons, List.length_nil]; decide)))
  | ((with_reducible refine l_lstMK ?c ?_); (case c => first | decide | (simp only [List.length_cons, List.length_nil]; decide)))
  | ((with_reducible refine l_mod ?c ?_); (case c => first | decide | omega))
  | ((with_reducible refine l_fdiv (cdiv_of ?c ?d) ?_); (case c => first | decide | omega); (case d => first | decide | omega))
  | (with_reducible refine l_mul cmul_b ?_)
  | ((with_reducible refine l_pow (cpow_of ?c ?d ?e) ?_); (case c => decide); (case d => decide); (case e => decide))
  | ((with_reducible refine l_mul (cmul_l ?c ?d) ?_); (case c => first | decide | omega); (case d => first | decide | omega))
  | ((with_reducible refine l_mul (cmul_r ?c ?d) ?_); (case c => first | decide | omega); (case d => first | decide | omega))
  | ((with_reducible refine l_r1 ⟨?c, ?d⟩ ?_); (case c => first | decide | omega); (case d => first | decide | omega)))
local macro_rules | `(tactic| walk_at "s") => `(tactic| repeat walk_at "s1")

namespace K11
def prow (area number : Int) (q : List Int × Nat) : D := .tup [.int (11 * area + (1 + (q.2 : Int))), .tup (dints (row (2 :: (11 * area + (1 + (q.2 : Int))) :: number :: ((q.1.length : Nat) : Int) :: q.1)))]
def p_page_rows (cs : Cs) : DSp := fun xs μ Φ _ => ∃ area number ns, xs = [.d (.int area), .d (.int number), .d (.tup (dints ns))] ∧ 0 ≤ area ∧ area ≤ 2 ∧ ns.length ≤ 900 ∧ Φ (.d (.lst ((pagesOf ns).zipIdx.map (prow area number)))) μ
theorem zipIdx_take {ps : List (List Int)} {i : Nat} {p : List Int} (h : ps[i]? = some p) : (ps.take (i + 1)).zipIdx = (ps.take i).zipIdx ++ [(p, i)] := by
  obtain ⟨hi, e⟩ := List.getElem?_eq_some_iff.mp h
  rw [List.take_succ_eq_append_getElem hi, List.zipIdx_append, e, List.length_take, Nat.min_eq_left (by omega)]
  simp
theorem page_le {ns : List Int} {p : List Int} (h : p ∈ pagesOf ns) : p.length ≤ 60 := by
  unfold pagesOf at h
  rw [chunks_range] at h
  obtain ⟨i, _, rfl⟩ := List.mem_map.mp h
  rw [List.length_take]
  omega
theorem pages_len {ns : List Int} (h : ns.length ≤ 900) : (pagesOf ns).length ≤ 15 := by
  unfold pagesOf nPages
  rw [chunks_len]
  omega
/-! the law's book -/
def vsOf (h : Nat) : List VolR := (List.range h).map fun i => ⟨[i + 1], 0, ((i + 1 : Nat) : Int)⟩
def prs (d : Nat) : List (Int × Int) := (List.range d).map fun (j : Nat) => (41 + (j : Int), 1 + (j : Int))
def rOf (d i : Nat) : RootR := ⟨((i + 1 : Nat) : Int), ((i + 1 : Nat) : Int), [], 0, 0, 0, 0, 41 + ((i + 1 : Nat) : Int), 5, if i = 0 then prs d else []⟩
def rsOf (h d : Nat) : List RootR := (List.range h).map (rOf d)
def encOf (h d : Nat) : List Int := enc (if h = 0 then 7 else ((h : Nat) : Int) + 1) (vsOf h) (rsOf h d)
/-- many, heads, dead pairs -/
def Hd (n : Int) (h d : Nat) : Prop := (n = 3 ∧ h = 0 ∧ d = 0) ∨ (h = 1 ∧ n = 16 + 2 * (d : Int) ∧ d ≤ 320) ∨ (h = 2 ∧ n = 29 + 2 * (d : Int) ∧ d ≤ 320)
theorem prs_len (d : Nat) : (prs d).length = d := by simp [prs]
theorem enc_len (nx : Int) (vs : List VolR) (rs : List RootR) : (enc nx vs rs).length = 3 + 3 * vs.length + (rs.flatMap rnums).length := by
  unfold enc
  rw [List.length_append, List.length_append, vflat_len]
  rfl
theorem hd_len {n : Int} {h d : Nat} (H : Hd n h d) : (((encOf h d).length : Nat) : Int) = n := by
  unfold encOf
  rw [enc_len]
  rcases H with ⟨rfl, rfl, rfl⟩ | ⟨rfl, e, _⟩ | ⟨rfl, e, _⟩
  · rfl
  · simp [vsOf, rsOf, List.range_succ, rnums_len, rOf, prs_len]
    omega
  · simp [vsOf, rsOf, List.range_succ, rnums_len, rOf, prs_len]
    omega
theorem hd_ok {n : Int} {h d : Nat} (H : Hd n h d) (hd : d ≤ 330) : BookOk (vsOf h) (rsOf h d) := by
  have hh : h ≤ 2 ∧ d ≤ 320 := by rcases H with ⟨_, rfl, rfl⟩ | ⟨rfl, _, _⟩ | ⟨rfl, _, _⟩ <;> omega
  refine ⟨fun v hv => ?_, fun r hr => ?_, by simp [vsOf]; omega, by simp [rsOf]; omega, ?_, ?_, ?_⟩
  · obtain ⟨i, hi, rfl⟩ := List.mem_map.mp hv
    have := List.mem_range.mp hi
    exact ⟨fun x hx => by rw [List.mem_singleton.mp hx]; omega, by show 1 ≤ 4; decide⟩
  · obtain ⟨i, hi, rfl⟩ := List.mem_map.mp hr
    refine ⟨fun x hx => absurd hx (by simp [rOf]), by show 0 ≤ 4; decide, ?_⟩
    show (if i = 0 then prs d else []).length ≤ 330
    split
    · rw [prs_len]; omega
    · decide
  · rcases H with ⟨_, rfl, rfl⟩ | ⟨rfl, _, _⟩ | ⟨rfl, _, _⟩ <;> simp [vsOf, List.range_succ]
  · rcases H with ⟨_, rfl, rfl⟩ | ⟨rfl, _, _⟩ | ⟨rfl, _, _⟩ <;> simp [rsOf, rOf, List.range_succ]
  · have := hd_len H
    unfold encOf at this
    rw [enc_len] at this
    rcases H with ⟨_, rfl, rfl⟩ | ⟨rfl, _, _⟩ | ⟨rfl, _, _⟩ <;> omega
theorem vsOf_succ (i : Nat) : vsOf (i + 1) = vsOf i ++ [⟨[i + 1], 0, ((i + 1 : Nat) : Int)⟩] := by simp [vsOf, List.range_succ]
theorem rsOf_succ (i d : Nat) : rsOf (i + 1) d = rsOf i d ++ [rOf d i] := by simp [rsOf, List.range_succ]
theorem prs_succ (d : Nat) : prs (d + 1) = prs d ++ [(41 + (d : Int), 1 + (d : Int))] := by simp [prs, List.range_succ]
theorem vsOf_len (i : Nat) : (vsOf i).length = i := by simp [vsOf]
theorem rsOf_len (i d : Nat) : (rsOf i d).length = i := by simp [rsOf]
theorem Hd.more {n : Int} {h d : Nat} (H : Hd n h d) : (n = 3 ∧ h = 0 ∧ d = 0) ∨ (n = 3 + 13 * (h : Int) + 2 * (d : Int) ∧ (h = 1 ∧ n % 2 = 0 ∨ h = 2 ∧ n % 2 = 1) ∧ d ≤ 320) := by
  rcases H with h | ⟨rfl, e, z⟩ | ⟨rfl, e, z⟩
  · exact .inl h
  · exact .inr ⟨by omega, .inl ⟨rfl, by omega⟩, z⟩
  · exact .inr ⟨by omega, .inr ⟨rfl, by omega⟩, z⟩
/-- the numbers of the first volumes and roots -/
def lawNs (h i j d : Nat) : List Int := [((h : Nat) : Int) + 1, (h : Nat), (h : Nat)] ++ (vsOf i).flatMap vnums ++ (rsOf j d).flatMap rnums
theorem numb1 (x : Nat) : numb [x] = x := by simp [numb]
theorem lawNs_v (h i d : Nat) : lawNs h (i + 1) 0 d = lawNs h i 0 d ++ [1 + (i : Int), 0, 1 + (i : Int)] := by
  unfold lawNs
  rw [vsOf_succ, List.flatMap_append, show rsOf 0 d = [] from rfl, List.flatMap_nil, List.append_nil, List.append_nil, ← List.append_assoc]
  congr 1
  simp [vnums, numb1]
  omega
/-- a law's root ahead of its dead pairs -/
def tenL (i d : Nat) : List Int := [1 + (i : Int), 1 + (i : Int), 0, 0, 0, 0, 0, 41 + (1 + (i : Int)), 5, (d : Nat)]
theorem lawNs_r0 (h d : Nat) : lawNs h h 1 d = lawNs h h 0 d ++ tenL 0 d ++ flat2 (prs d) := by
  unfold lawNs
  rw [rsOf_succ, show rsOf 0 d = [] from rfl, List.nil_append, List.flatMap_nil, List.append_nil, show [rOf d 0].flatMap rnums = rnums (rOf d 0) by simp, List.append_assoc _ (tenL 0 d)]
  congr 1
  unfold rnums
  rw [show (rOf d 0).dead = prs d from rfl, prs_len]
  rfl
theorem lawNs_r (h i d : Nat) (hi : i ≠ 0) : lawNs h h (i + 1) d = lawNs h h i d ++ tenL i 0 := by
  unfold lawNs
  rw [rsOf_succ, List.flatMap_append, ← List.append_assoc]
  congr 1
  rw [show [rOf d i].flatMap rnums = rnums (rOf d i) by simp]
  unfold rnums
  rw [show (rOf d i).dead = [] from if_neg hi, show (rOf d i).snap = [] from rfl]
  simp [rOf, tenL, flat2, numb]
  omega
theorem lawNs_end {n : Int} {h d : Nat} (hh : h ≠ 0) : lawNs h h h d = encOf h d := by
  unfold lawNs encOf enc
  rw [vsOf_len, rsOf_len, if_neg hh]
theorem rs_flat (d : Nat) : ∀ j, ((rsOf j d).flatMap rnums).length = 10 * j + (if j = 0 then 0 else 2 * d)
  | 0 => rfl
  | 1 => by simp [rsOf, List.range_succ, rnums_len, rOf, prs_len]
  | j + 2 => by
    rw [rsOf_succ, List.flatMap_append, List.length_append, rs_flat d (j + 1)]
    simp [rnums_len, rOf]
    omega
theorem lawNs_len (h i j d : Nat) : (lawNs h i j d).length ≤ 3 + 3 * i + 10 * j + 2 * d := by
  unfold lawNs
  rw [List.length_append, List.length_append, vflat_len, rs_flat, vsOf_len]
  show 3 + _ + _ ≤ _
  split <;> omega
def p__law_numbers (cs : Cs) : DSp := fun xs μ Φ _ => ∃ n h d, xs = [.d (.int n)] ∧ Hd n h d ∧ Φ (.d (.tup (dints (encOf h d)))) μ
def fitD (n : Nat) : List D := if n ≤ 600 then [.str "fits"] else [.str "full", .int (n : Nat), .bl true]
def p__law_fitting (cs : Cs) : DSp := fun xs μ Φ _ => ∃ nx vs rs, xs = [.d (bookD cs nx vs rs)] ∧ BookOk vs rs ∧ Φ (.d (.tup (fitD (enc nx vs rs).length))) μ
def p__law_size (cs : Cs) : DSp := fun xs μ Φ _ => ∃ a b rest, xs = [.m 0] ∧ μ = src a b :: rest ∧ Sok a b ∧ ∀ a' b' n, Sok a' b' → (n = 3 ∨ 16 ≤ n ∧ n ≤ 642) → Φ (.d (.int n)) (src a' b' :: rest)
abbrev p_law : DSp := p_lawOf

section
variable {P : Program} {w : World} {K : PySem.W.Frag} {mg : Str → Option Value} {base : Heap}
theorem ok_page_rows {f : Addr} {fd : FuncData} {cs : Cs} (T : Txt K mg cs) (C_made_row : Callee P w K mg base "made_row" 2 ["kind", "place", "number", "payload"] (p_made_row cs)) (C_page_place : Callee P w K mg base "page_place" 2 ["area", "i"] (p_page_place cs)) (C_pages_of : Callee P w K mg base "pages_of" 1 ["numbers"] (p_pages_of cs)) (F : Fun K "page_rows" "page_rows" s_page_rows f fd) : FnOk P w K mg base CX0 3 f fd ["area", "number", "numbers"] (toSp K (p_page_rows cs)) := by
  refine dfn F sc_page_rows ?len (by decide) fun cdv A outer s H E Ψ hr => ⟨_, _, (dss_clo (dss_cons (ds_asg (de_lstM da_nil) (dg_name (i := 3) sc_page_rows.nd rfl (.inl rfl)))
  (dss_cons (ds_for PassesOwn.never rfl (di_enumS (by rfl) T.b_enumerate (by decide) (da_cons (de_c1 C_pages_of (hr.mono (by decide)) (by rfl) (da_cons (de_var (pv 2)) da_nil)) da_nil)) (dg_tup (n := 2) rfl (dgs_cons (dg_name (i := 4) sc_page_rows.nd rfl (.inl rfl)) (dgs_cons (dg_name (i := 5) sc_page_rows.nd rfl (.inl rfl)) dgs_nil)))
  (dss_cons (ds_asg (de_c1 C_page_place (hr.mono (by decide)) (by rfl) (da_cons (de_var (pv 0)) (da_cons (de_var (pv 4)) da_nil))) (dg_name (i := 6) sc_page_rows.nd rfl (.inl rfl)))
  (dss_one (ds_expr (de_append (de_var (pv 3)) (de_tup (da_cons (de_var (pv 6)) (da_cons (de_c1 C_made_row (hr.mono (by decide)) (by rfl) (da_cons (de_globI (by rfl) T.g_PAGE) (da_cons (de_var (pv 6)) (da_cons (de_var (pv 1)) (da_cons (de_var (pv 5)) da_nil))))) da_nil))))))))
  (dss_fzS (dss_one (ds_ret (de_var (pv 3)))))))), ?rd⟩
  case len => rintro xs μ Φ Ψ ⟨area, number, ns, rfl, _⟩; rfl
  case rd =>
    rintro xs μ Φ ⟨area, number, ns, rfl, h0, h2, hl, k⟩
    dsimp only [NN_page_rows, List.length, dstart]
    refine l_clo fun hclo => ?_
    walk_at "s"
    refine ⟨ns, rfl, hl, ?_⟩
    walk_at "s"
    have hpl := pages_len hl
    refine for_enum (fun i ε μ2 => ∃ o4 o5 o6, ε = [some _, some _, some _, some (.m μ.length), o4, o5, o6] ∧ μ2 = μ ++ [.lst ((((pagesOf ns).take i).zipIdx.map (prow area number)).map SV.d)]) ⟨none, none, none, rfl, rfl⟩ ?_ ?_
    · rintro i x ε μ2 hx ⟨o4, o5, o6, rfl, rfl⟩
      rw [List.getElem?_map] at hx
      obtain ⟨p, hp, rfl⟩ := Option.map_eq_some_iff.mp hx
      have hp60 := page_le (List.mem_of_getElem? hp)
      have hi := (List.getElem?_eq_some_iff.mp hp).1
      walk_at "s"
      refine ⟨area, _, rfl, h0, h2, ?_⟩
      walk_at "s"
      refine l_appK at_app0 ?_
      walk_at "s"
      refine ⟨2, _, number, p, .inl rfl, by omega, ?_⟩
      walk_at "s"
      refine l_appE at_app0 (szlt (by simp; omega)) ?_
      rw [set_app0]
      walk_at "s"
      refine ⟨_, _, _, rfl, ?_⟩
      rw [zipIdx_take hp, List.map_append, List.map_append]
      rfl
    · rintro ε μ2 ⟨o4, o5, o6, rfl, rfl⟩
      rw [List.length_map, List.take_length]
      refine l_fzA [] (.lst (((pagesOf ns).zipIdx.map (prow area number)).map SV.d)) (.lst ((pagesOf ns).zipIdx.map (prow area number))) hclo rfl (Rest.lst _) (by simp) (by simp [frz]; rfl) rfl ?_
      walk_at "s"
      rw [List.map_nil, List.append_nil]
      exact k
theorem c_page_rows {cs : Cs} (T : Txt K mg cs) (C_made_row : Callee P w K mg base "made_row" 2 ["kind", "place", "number", "payload"] (p_made_row cs)) (C_page_place : Callee P w K mg base "page_place" 2 ["area", "i"] (p_page_place cs)) (C_pages_of : Callee P w K mg base "pages_of" 1 ["numbers"] (p_pages_of cs)) (D : DefAt K mg "page_rows" s_page_rows) : Callee P w K mg base "page_rows" 3 ["area", "number", "numbers"] (p_page_rows cs) := callee_mk D (fun f fd F => F.binds fun _ _ _ _ _ _ us hl => match us, hl with | [_, _, _], _ => rfl) fun f fd F => ok_page_rows T C_made_row C_page_place C_pages_of F
theorem ok__law_fitting {f : Addr} {fd : FuncData} {cs : Cs} (T : Txt K mg cs) (C_need_fitting : CalleeX P w K mg base "need_fitting" 4 ["book"] (p_need_fitting cs)) (F : Fun K "_law_fitting" "_law_fitting" s__law_fitting f fd) : FnOk P w K mg base CX0 5 f fd ["_law_book"] (toSp K (p__law_fitting cs)) := by
  refine dfnT F sc__law_fitting ?len (by decide) fun cdv A outer s H E hr => ⟨_, _, (dss_one (ds_try (i := 1) (c := .ref cs.BookFull) (by rfl) (by rfl) sc__law_fitting.nd (by rfl) (by rfl) (by exact ⟨rfl, by decide, .inl T.mg_BookFull⟩) takes0 (fun W ΨS pn xe tk ps => (dss_one (ds_ret (de_and (de_isN (de_cS2 C_need_fitting (hr.mono (by decide)) (by rfl) (fun σ => passAt tk σ) (da_cons (de_var (pv 0)) da_nil)) de_non) (de_one (de_tup (da_cons de_str da_nil)))))))
  (fun a oe cls d pn fs hz hf => (dss_one (ds_ret (de_tup (da_cons de_str (da_cons (de_xf (a := a) (cls := cls) (d := d) (fs := fs) (oe := oe) (pn := pn) T.xf_BookFull T.na_BookFull_what hz hf (de_var (pv 1)) (fun _ _ z => z.2)) (da_cons (de_and (de_isF2 (cls := cls) (dd := d) (fs := fs) (aa := a) (oe := oe) (pn := pn) T.ec_BookFull hz hf (by rfl) T.b_isinstance (da_cons (de_var (pv 1)) (da_cons (de_globR (by rfl) T.mg_Refused) da_nil)) (fun _ _ z => z.2)) (de_and (de_isF2 (cls := cls) (dd := d) (fs := fs) (aa := a) (oe := oe) (pn := pn) T.ec_BookFull hz hf (by rfl) T.b_isinstance (da_cons (de_var (pv 1)) (da_cons (de_bty (T := "ValueError") (by rfl) T.b_ValueError (by decide +kernel)) da_nil)) (fun _ _ z => z.2)) (de_one (de_notX (de_isF2 (cls := cls) (dd := d) (fs := fs) (aa := a) (oe := oe) (pn := pn) T.ec_BookFull hz hf (by rfl) T.b_isinstance (da_cons (de_var (pv 1)) (da_cons (de_globR (by rfl) T.mg_NoRoom) da_nil)) (fun _ _ z => z.2)))))) da_nil))))))))), ?rd⟩
  case len => rintro xs μ Φ Ψ ⟨nx, vs, rs, rfl, _⟩; rfl
  case rd =>
    rintro xs μ Φ Ψ ⟨nx, vs, rs, rfl, ok, k⟩
    dsimp only [NN__law_fitting, List.length, dstart]
    unfold fitD at k
    unfold dTryAs
    walk_at "s"
    refine ⟨nx, vs, rs, rfl, ok, fun h => ?_, fun h => ?_⟩
    · rw [if_pos h] at k
      walk_at "s"
      show bcase true _ _
      walk_at "s"
      exact k
    · rw [if_neg (by omega)] at k
      refine ⟨true, T.exm_BookFull_BookFull, fun _ a => ?_, fun h => absurd h (by decide)⟩
      walk_at "s"
      refine ⟨rfl, rfl, _, rfl, ?_⟩
      walk_at "s"
      refine l_isFR T.kit_BookFull_Refused ?_
      walk_at "s"
      refine l_isFV T.kit_BookFull_ValueError ?_
      walk_at "s"
      refine l_isFR T.kit_BookFull_NoRoom ?_
      walk_at "s"
      exact k
theorem c__law_fitting {cs : Cs} (T : Txt K mg cs) (C_need_fitting : CalleeX P w K mg base "need_fitting" 4 ["book"] (p_need_fitting cs)) (D : DefAt K mg "_law_fitting" s__law_fitting) : Callee P w K mg base "_law_fitting" 5 ["_law_book"] (p__law_fitting cs) := callee_mk D (fun f fd F => F.binds fun _ _ _ _ _ _ us hl => match us, hl with | [_], _ => rfl) fun f fd F => ok__law_fitting T C_need_fitting F
theorem ok__law_numbers {f : Addr} {fd : FuncData} {cs : Cs} (T : Txt K mg cs)  (F : Fun K "_law_numbers" "_law_numbers" s__law_numbers f fd) : FnOk P w K mg base CX0 1 f fd ["_law_many"] (toSp K (p__law_numbers cs)) := by
  refine dfn F sc__law_numbers ?len (by decide) fun cdv A outer s H E Ψ hr => ⟨_, _, (dss_clo (dss_cons (ds_if (dt_lt (de_var (pv 0)) de_int) (dss_one (ds_ret (de_tup (da_cons de_int (da_cons de_int (da_cons de_int da_nil)))))) dss_nil)
  (dss_cut (ds_asg (de_ifExp (dt_eq hr.units (de_mod (de_Ty call_int1 sim_int (by rfl) T.b_int (by decide +kernel) (da_cons (de_var (pv 0)) da_nil)) de_int) de_int) de_int de_int) (dg_name (i := 1) sc__law_numbers.nd rfl (.inl rfl)))
  (dss_cons (ds_asg (de_fdiv (de_sub (de_sub (de_var (pv 0)) de_int) (de_mul de_int (de_var (pv 1)))) de_int) (dg_name (i := 2) sc__law_numbers.nd rfl (.inl rfl)))
  (dss_cons (ds_asg (de_lst (da_cons (de_add (de_var (pv 1)) de_int) (da_cons (de_var (pv 1)) (da_cons (de_var (pv 1)) da_nil)))) (dg_name (i := 3) sc__law_numbers.nd rfl (.inl rfl)))
  (dss_cons (ds_for PassesOwn.never rfl (di_range2 (by rfl) T.b_range (da_cons de_int (da_cons (de_add (de_var (pv 1)) de_int) da_nil))) (dg_name (i := 4) sc__law_numbers.nd rfl (.inl rfl))
  (dss_one (ds_asg (de_add (de_var (pv 3)) (de_lst (da_cons (de_var (pv 4)) (da_cons de_int (da_cons (de_var (pv 4)) da_nil))))) (dg_name (i := 3) sc__law_numbers.nd rfl (.inl rfl)))))
  (dss_cons (ds_for PassesOwn.never rfl (di_range2 (by rfl) T.b_range (da_cons de_int (da_cons (de_add (de_var (pv 1)) de_int) da_nil))) (dg_name (i := 4) sc__law_numbers.nd rfl (.inl rfl))
  (dss_cons (ds_asg (de_addM (de_var (pv 3)) (de_lst (da_cons (de_var (pv 4)) (da_cons (de_var (pv 4)) (da_cons de_int (da_cons de_int (da_cons de_int (da_cons de_int (da_cons de_int (da_cons (de_add de_int (de_var (pv 4))) (da_cons de_int (da_cons (de_ifExp (dt_eq hr.units (de_var (pv 4)) de_int) (de_var (pv 2)) de_int) da_nil)))))))))))) (dg_name (i := 3) sc__law_numbers.nd rfl (.inl rfl)))
  (dss_cons (ds_if (dt_eq hr.units (de_var (pv 4)) de_int) (dss_one (ds_for PassesOwn.never rfl (di_range1 (by rfl) T.b_range (da_cons (de_var (pv 2)) da_nil)) (dg_name (i := 5) sc__law_numbers.nd rfl (.inl rfl))
  (dss_one (ds_expr (de_extend (de_var (pv 3)) (de_lst (da_cons (de_add de_int (de_var (pv 5))) (da_cons (de_add de_int (de_var (pv 5))) da_nil)))))))) dss_nil)
  (dss_fzS dss_nil))))
  (dss_one (ds_ret (de_Ty call_tuple_of sim_tuple (by rfl) T.b_tuple (by decide +kernel) (da_cons (de_var (pv 3)) da_nil))))))))))), ?rd⟩
  case len => rintro xs μ Φ Ψ ⟨n, h, d, rfl, _⟩; rfl
  case rd =>
    rintro xs μ Φ ⟨n, h, d, rfl, hd, k⟩
    dsimp only [NN__law_numbers, List.length, dstart]
    refine l_clo fun hclo => ?_
    walk_at "s"
    rcases hd.more with ⟨rfl, rfl, rfl⟩ | ⟨e, hh, hd3⟩
    · show bcase true _ _
      walk_at "s"
      exact k
    · rw [decide_eq_false (show ¬ n < 16 by omega)]
      walk_at "s"
      refine l_cut (Mid := fun ε' μ' => ε' = [some (.d (.int n)), some (.d (.int (h : Nat))), none, none, none, none] ∧ μ' = μ) ?_ ?_
      · walk_at "s"
        rcases hh with ⟨rfl, z⟩ | ⟨rfl, z⟩
        · rw [decide_eq_true z]
          walk_at "s"
          exact ⟨rfl, rfl⟩
        · rw [decide_eq_false (by omega)]
          walk_at "s"
          exact ⟨rfl, rfl⟩
      · rintro ε' μ' ⟨rfl, rfl⟩
        have hdd : (n - 3 - 13 * (h : Int)) / 2 = (d : Nat) := by omega
        walk_at "s"
        rw [hdd]
        walk_at "s"
        refine l_r2 (by omega) ?_
        rw [show ((h : Int) + 1 - 1).toNat = h by omega]
        refine for_rng (fun i ε μ2 => ∃ o4, ε = [some (.d (.int n)), some (.d (.int (h : Nat))), some (.d (.int (d : Nat))), some (.d (.lst (dints (lawNs h i 0 d)))), o4, none] ∧ μ2 = μ') ⟨none, rfl, rfl⟩ ?_ ?_
        · rintro i ε μ2 hi ⟨o4, rfl, rfl⟩
          walk_at "s"
          have hl := lawNs_len h i 0 d
          refine l_plusL (szle ?_) ?_
          · rw [List.length_map]
            show _ + 3 ≤ _
            omega
          walk_at "s"
          refine ⟨some (.d (.int (1 + (i : Nat)))), ?_, rfl⟩
          rw [lawNs_v, dints_app]
          rfl
        · rintro ε μ2 ⟨o4, rfl, rfl⟩
          walk_at "s"
          refine l_r2 (by omega) ?_
          rw [show ((h : Int) + 1 - 1).toNat = h by omega]
          refine for_rng (fun i ε μ3 => ∃ o4 o5, ε = [some (.d (.int n)), some (.d (.int (h : Nat))), some (.d (.int (d : Nat))), some (.d (.lst (dints (lawNs h h i d)))), o4, o5] ∧ μ3 = μ2) ⟨o4, none, rfl, rfl⟩ ?_ ?_
          · rintro i ε μ3 hi ⟨o4, o5, rfl, rfl⟩
            have hl := lawNs_len h h i d
            walk_at "s"
            by_cases hi0 : i = 0
            · subst hi0
              rw [decide_eq_true (show (1 : Int) + (0 : Nat) = 1 by decide)]
              walk_at "s"
              refine l_plusM (szle ?_) ?_
              · rw [List.length_map]
                show _ + 10 ≤ _
                omega
              walk_at "s"
              rw [decide_eq_true (show (1 : Int) + (0 : Nat) = 1 by decide)]
              walk_at "s"
              rw [show (d : Int).toNat = d by omega]
              refine for_rng (fun j ε μ4 => ∃ o5, ε = [some (.d (.int n)), some (.d (.int (h : Nat))), some (.d (.int (d : Nat))), some (.m μ3.length), some (.d (.int (1 + (0 : Nat)))), o5] ∧ μ4 = μ3 ++ [.lst ((dints (lawNs h h 0 d ++ tenL 0 d ++ flat2 (prs j))).map SV.d)]) ⟨o5, rfl, ?_⟩ ?_ ?_
              · rw [show flat2 (prs 0) = [] from rfl, List.append_nil, dints_app]
                rfl
              · rintro j ε μ4 hj ⟨o6, rfl, rfl⟩
                walk_at "s"
                have hl := lawNs_len h h 0 d
                refine l_extM at_app0 ?_
                walk_at "s"
                refine l_extL at_app0 (szle ?_) ?_
                · simp only [List.length_map, List.length_append, flat2_len, prs_len]
                  show _ + 10 + _ + 2 ≤ _
                  omega
                rw [set_app0]
                walk_at "s"
                refine ⟨some (.d (.int (0 + (j : Nat)))), rfl, ?_⟩
                rw [prs_succ, flat2_snoc, ← List.append_assoc, Int.zero_add]
                simp only [dints, List.map_append]
                rfl
              · rintro ε μ4 ⟨o6, rfl, rfl⟩
                walk_at "s"
                refine l_fzA [] (.lst ((dints (lawNs h h 1 d)).map SV.d)) (.lst (dints (lawNs h h 1 d))) hclo ?_ (Rest.lst _) (by simp) (by simp [frz]; rfl) rfl ?_
                · rw [lawNs_r0]
                  rfl
                walk_at "s"
                rw [List.map_nil, List.append_nil]
                exact ⟨_, _, rfl, rfl⟩
            · rw [decide_eq_false (show ¬ ((1 : Int) + (i : Nat) = 1) by omega)]
              walk_at "s"
              refine l_plusM (szle ?_) ?_
              · rw [List.length_map]
                show _ + 10 ≤ _
                omega
              walk_at "s"
              rw [decide_eq_false (show ¬ ((1 : Int) + (i : Nat) = 1) by omega)]
              walk_at "s"
              refine l_fzA [] (.lst ((dints (lawNs h h (i + 1) d)).map SV.d)) (.lst (dints (lawNs h h (i + 1) d))) hclo ?_ (Rest.lst _) (by simp) (by simp [frz]; rfl) rfl ?_
              · rw [lawNs_r h i d hi0, dints_app]
                rfl
              walk_at "s"
              rw [List.map_nil, List.append_nil]
              exact ⟨_, _, rfl, rfl⟩
          · rintro ε μ3 ⟨o4, o5, rfl, rfl⟩
            walk_at "s"
            rw [lawNs_end (n := n) (by omega)]
            walk_at "s"
            exact k
theorem c__law_numbers {cs : Cs} (T : Txt K mg cs)  (D : DefAt K mg "_law_numbers" s__law_numbers) : Callee P w K mg base "_law_numbers" 1 ["_law_many"] (p__law_numbers cs) := callee_mk D (fun f fd F => F.binds fun _ _ _ _ _ _ us hl => match us, hl with | [_], _ => rfl) fun f fd F => ok__law_numbers T  F
theorem ok__law_size {f : Addr} {fd : FuncData} {cs : Cs} (T : Txt K mg cs) (C__law_one : Callee P w K mg base "_law_one" 2 ["_law_source", "_law_things"] (p__law_one cs)) (C__law_take : Callee P w K mg base "_law_take" 1 ["_law_source", "_law_top_it"] (p__law_take cs)) (F : Fun K "_law_size" "_law_size" s__law_size f fd) : FnOk P w K mg base CX0 3 f fd ["_law_source"] (toSp K (p__law_size cs)) := by
  refine dfn F sc__law_size ?len (by decide) fun cdv A outer s H E Ψ hr => ⟨_, _, (dss_cons (ds_asg (de_c1 C__law_one (hr.mono (by decide)) (by rfl) (da_cons (de_var (pv 0)) (da_cons (de_lst (da_cons de_int (da_cons de_int (da_cons de_int (da_cons de_int (da_cons de_int (da_cons de_int (da_cons de_int (da_cons de_int (da_cons de_int (da_cons de_int (da_cons de_int (da_cons de_int (da_cons de_int (da_cons de_int (da_cons de_int (da_cons de_int (da_cons (de_add de_int (de_c1 C__law_take (hr.mono (by decide)) (by rfl) (da_cons (de_var (pv 0)) (da_cons de_int da_nil)))) da_nil)))))))))))))))))) da_nil))) (dg_name (i := 1) sc__law_size.nd rfl (.inl rfl)))
  (dss_one (ds_ret (de_ifExp (DW.dt (dw_and (dt_gt (de_var (pv 1)) de_int) (dw_and (dt_lt (de_var (pv 1)) de_int) (dw_and1 (dt_eq hr.units (de_mod (de_Ty call_int1 sim_int (by rfl) T.b_int (by decide +kernel) (da_cons (de_var (pv 1)) da_nil)) de_int) de_int))))) (de_add (de_var (pv 1)) de_int) (de_var (pv 1)))))), ?rd⟩
  case len => rintro xs μ Φ Ψ ⟨a, b, rest, rfl, _⟩; rfl
  case rd =>
    rintro xs μ Φ ⟨a, b, rest, rfl, rfl, ok, k⟩
    dsimp only [NN__law_size, List.length, dstart]
    walk_at "s"
    refine ⟨a, b, 625, rest, rfl, rfl, ok, by decide, by decide, fun a1 b1 r ok1 r0 r1 => ?_⟩
    walk_at "s"
    refine ⟨a1, b1, _, rest, rfl, rfl, ok1, by simp, by simp, fun a2 b2 d ok2 hd => ?_⟩
    have hn : ∃ n : Int, d = .int n ∧ (n = 3 ∨ 16 ≤ n ∧ n ≤ 640) := by
      simp only [List.mem_cons, List.not_mem_nil, or_false] at hd
      rcases hd with rfl | rfl | rfl | rfl | rfl | rfl | rfl | rfl | rfl | rfl | rfl | rfl | rfl | rfl | rfl | rfl | rfl <;> exact ⟨_, rfl, by omega⟩
    obtain ⟨n, rfl, hn⟩ := hn
    walk_at "s"
    refine l_bd (fun h1 => ?_) fun h1 => ?_
    · walk_at "s"
      refine l_bd (fun h2 => ?_) fun h2 => ?_
      · walk_at "s"
        refine l_bd (fun h3 => ?_) fun h3 => ?_
        · walk_at "s"
          exact k _ _ _ ok2 (by omega)
        · walk_at "s"
          exact k _ _ _ ok2 (by omega)
      · walk_at "s"
        exact k _ _ _ ok2 (by omega)
    · walk_at "s"
      exact k _ _ _ ok2 (by omega)
theorem c__law_size {cs : Cs} (T : Txt K mg cs) (C__law_one : Callee P w K mg base "_law_one" 2 ["_law_source", "_law_things"] (p__law_one cs)) (C__law_take : Callee P w K mg base "_law_take" 1 ["_law_source", "_law_top_it"] (p__law_take cs)) (D : DefAt K mg "_law_size" s__law_size) : Callee P w K mg base "_law_size" 3 ["_law_source"] (p__law_size cs) := callee_mk D (fun f fd F => F.binds fun _ _ _ _ _ _ us hl => match us, hl with | [_], _ => rfl) fun f fd F => ok__law_size T C__law_one C__law_take F

end
end K11

set_option Elab.async false
set_option linter.all false
set_option maxRecDepth 100000
set_option maxHeartbeats 1000000
open PySem PySem.Spec PyProof.Rows L2 DV
local macro_rules | `(tactic| walk_at "s1") => `(tactic| first
  | with_reducible (first
  | refine l_seq ?_ | refine l_var rfl ?_ | refine l_c ?_ | refine l_op ?_ | refine l_cons ?_ | refine l_nil ?_ | refine l_asg ?_ | refine l_dgN ?_ | refine l_ret ?_ | refine l_call ?_ | refine l_cb ?_ | refine l_test ?_ | refine l_svb ?_ | refine l_ifS ?_
  | refine l_and ?_ | refine l_or ?_ | refine l_not ?_ | refine l_bt ?_ | refine l_bf ?_ | refine l_bnt ?_ | refine l_bnf ?_ | refine l_I0 ?_ | refine l_plusI ?_ | refine l_int ?_ | refine l_intb ?_ | refine l_svi ?_ | refine l_part0 ?_ | refine l_part1 ?_ | refine l_sl ?_ | refine l_neg ?_
  | refine l_tup ?_ | refine l_lst ?_ | refine l_lstM ?_ | refine l_star ?_ | refine l_starT ?_ | refine l_starL ?_ | refine l_callD ?_ | refine l_callK ?_ | refine l_andV ?_ | refine l_orV ?_ | refine l_notV ?_ | refine l_if ?_ | refine l_max2 ?_ | refine l_min2 ?_ | refine l_lenT ?_ | refine l_lenL ?_ | refine l_lenR ?_
  | refine l_tupleT ?_ | refine l_tupleL ?_ | refine l_listT ?_ | refine l_listL ?_ | refine l_isB ?_ | refine l_isnotB ?_ | refine l_isN ?_ | refine l_isnotN ?_ | refine l_next ?_ | refine l_break ?_ | refine l_cont ?_ | refine l_drop ?_ | refine l_retN ?_ | refine l_par ?_ | refine l_aug rfl ?_
  | refine l_dgTup2 ?_ | refine l_dgTup3 ?_ | refine l_dgTup4 ?_ | refine l_dgCons ?_ | refine l_dgNil ?_ | refine l_dgSub ?_ | refine l_yes ?_
  | refine l_parK ?_ | refine l_slT ?_ | refine l_slL ?_ | refine l_for ?_ | refine l_enum ?_ | refine l_enT ?_ | refine l_enL ?_ | refine l_seqI ?_ | refine l_sqL ?_ | refine l_tupI ?_ | refine l_tpT ?_ | refine l_rng1 ?_ | refine l_rng2 ?_ | refine l_lc ?_ | refine l_elK ?_ | refine l_app ?_
  | refine l_strI ?_ | refine l_strK ?_ | refine l_sindex ?_ | refine l_sxK ?_ | refine l_lenDD ?_ | refine l_ext ?_ | refine l_rng3 ?_ | refine l_dgFld ?_ | refine l_make ?_ | refine l_raise ?_ | refine l_xf ?_ | refine l_isF ?_ | refine l_callS ?_ | refine l_fld ?_ | refine l_sfld ?_ | refine l_dput ?_ | refine l_dget ?_ | refine l_din ?_ | refine l_dnewM ?_ | refine l_dnew ?_ | refine l_get2 ?_
  | refine l_rev ?_ | refine l_revK ?_ | refine e_int ?_ | refine n_int ?_ | refine e_tup ?_ | refine n_tup ?_ | refine e_lst ?_ | refine n_lst ?_)
  | ((with_reducible refine l_tupK rfl ?c ?_); (case c => first | decide | (simp only [List.length_cons, List.length_nil]; decide)))
  | ((with_reducible refine l_lstK rfl ?c ?_); (case c => first | decide | (simp only [List.length_cons, List.length_nil]; decide)))
  | ((with_reducible refine l_lstMK ?c ?_); (case c => first | decide | (simp only [List.length_cons, List.length_nil]; decide)))
  | ((with_reducible refine l_mod ?c ?_); (case c => first | decide | omega))
  | ((with_reducible refine l_fdiv (cdiv_of ?c ?d) ?_); (case c => first | decide | omega); (case d => first | decide | omega))
  | (with_reducible refine l_mul cmul_b ?_)
  | ((with_reducible refine l_pow (cpow_of ?c ?d ?e) ?_); (case c => decide); (case d => decide); (case e => decide))
  | ((with_reducible refine l_mul (cmul_l ?c ?d) ?_); (case c => first | decide | omega); (case d => first | decide | omega))
  | ((with_reducible refine l_mul (cmul_r ?c ?d) ?_); (case c => first | decide | omega); (case d => first | decide | omega))
  | ((with_reducible refine l_r1 ⟨?c, ?d⟩ ?_); (case c => first | decide | omega); (case d => first | decide | omega)))
local macro_rules | `(tactic| walk_at "s") => `(tactic| repeat walk_at "s1")

namespace K11
theorem n_refl {μ : DSt} {k : DK} {x : D} {p : PyData} (h : Ced x p) (he : PyData.eqv p p = true) (hk : k (.d (.bl false)) μ) : dEqD true (.d x) (.d x) μ k := ⟨p, p, h, h, by
  show k (.d (.bl (!PyData.eqv p p))) μ
  rw [he]
  exact hk⟩
abbrev pgD (ps : List (List Int)) : List D := ps.map fun p => .tup (dints p)
abbrev pgP (ps : List (List Int)) : List PyData := ps.map fun p => .tuple (p.map .int)
theorem pys_pg : ∀ ps : List (List Int), D.pys (pgD ps) = some (pgP ps)
  | [] => rfl
  | p :: r => by
    show (match D.py (.tup (dints p)), D.pys (pgD r) with
      | some p, some ps => some (p :: ps)
      | _, _ => none) = _
    rw [(ced_tup p).1, pys_pg r]
    rfl
theorem lay_pg : ∀ ps : List (List Int), PyData.canLayAll0 (pgP ps) = true
  | [] => rfl
  | p :: r => by
    show (PyData.canLayAll0 (p.map PyData.int) && PyData.canLayAll0 (pgP r)) = true
    rw [canLay_ints, lay_pg r]
    rfl
theorem depth_pg : ∀ ps : List (List Int), PyData.depthAll (pgP ps) ≤ 1
  | [] => Nat.zero_le _
  | p :: r => by
    show max (PyData.depthAll (p.map PyData.int) + 1) (PyData.depthAll (pgP r)) ≤ 1
    rw [depth_ints]
    have := depth_pg r
    omega
theorem eqv_intsR (p : List Int) : PyData.eqvAll (p.map PyData.int) (p.map PyData.int) = true := by
  rw [eqv_ints]
  exact decide_eq_true rfl
theorem eqv_pg : ∀ ps : List (List Int), PyData.eqvAll (pgP ps) (pgP ps) = true
  | [] => rfl
  | p :: r => by
    show (PyData.eqvAll (p.map PyData.int) (p.map PyData.int) && PyData.eqvAll (pgP r) (pgP r)) = true
    rw [eqv_intsR, eqv_pg r]
    rfl
theorem ced_pg (ps : List (List Int)) : Ced (.lst (pgD ps)) (.list (pgP ps)) := by
  constructor
  · show (match D.pys (pgD ps) with
      | some ps => some (PyData.list ps)
      | none => none) = _
    rw [pys_pg]
  · show (PyData.canLayAll0 (pgP ps) && decide (PyData.depthAll (pgP ps) + 1 ≤ 64)) = true
    have := depth_pg ps
    rw [lay_pg, decide_eq_true (by omega)]
    rfl
theorem n_pg {μ : DSt} {k : DK} {ps : List (List Int)} (hk : k (.d (.bl false)) μ) : dEqD true (.d (.lst (pgD ps))) (.d (.lst (pgD ps))) μ k := n_refl (ced_pg ps) (eqv_pg ps) hk
theorem n_fits {μ : DSt} {k : DK} (hk : k (.d (.bl false)) μ) : dEqD true (.d (.tup [.str "fits"])) (.d (.tup [.str "fits"])) μ k := n_refl (p := .tuple [.str "fits"]) ⟨rfl, by decide +kernel⟩ (by decide +kernel) hk
theorem n_full {μ : DSt} {k : DK} {n : Int} (hk : k (.d (.bl false)) μ) : dEqD true (.d (.tup [.str "full", .int n, .bl true])) (.d (.tup [.str "full", .int n, .bl true])) μ k := n_refl (p := .tuple [.str "full", .int n, .bool true]) ⟨rfl, by
  show ((PyData.canLay0 (.str "full") && (true && (true && true))) && true) = true
  rw [show PyData.canLay0 (.str "full") = true by decide +kernel]
  rfl⟩ (by
  show (PyData.eqv (.str "full") (.str "full") && ((n == n) && true)) = true
  rw [show PyData.eqv (.str "full") (.str "full") = true by decide +kernel]
  simp) hk
theorem hd_ex {n : Int} (h : n = 3 ∨ 16 ≤ n ∧ n ≤ 642) (h2 : n = 3 ∨ n % 2 = 0 ∨ 29 ≤ n) : ∃ h d, Hd n h d := by
  rcases h with rfl | ⟨a, b⟩
  · exact ⟨0, 0, .inl ⟨rfl, rfl, rfl⟩⟩
  · by_cases e : n % 2 = 0
    · exact ⟨1, ((n - 16) / 2).toNat, .inr (.inl ⟨rfl, by omega, by omega⟩)⟩
    · exact ⟨2, ((n - 29) / 2).toNat, .inr (.inr ⟨rfl, by omega, by omega⟩)⟩
theorem hd_d {n : Int} {h d : Nat} (H : Hd n h d) : d ≤ 320 ∧ 3 ≤ n ∧ n ≤ 669 := by
  rcases H with ⟨e, _, _⟩ | ⟨_, e, _⟩ | ⟨_, e, _⟩ <;> omega
/-! pages -/
theorem pages_rng {ns : List Int} (h : 0 < ns.length) : pagesOf ns = (List.range ((ns.length - 1) / 60 + 1)).map fun i => (ns.drop (60 * i)).take 60 := by
  unfold pagesOf nPages
  rw [chunks_range, show (ns.length + 59) / 60 = (ns.length - 1) / 60 + 1 by omega]
theorem pages_init {ns : List Int} (h : 0 < ns.length) : (pagesOf ns).dropLast.map (fun p => ((p.length : Nat) : Int)) = List.replicate ((ns.length - 1) / 60) 60 := by
  rw [pages_rng h, List.range_succ, List.map_append, List.map_singleton, List.dropLast_concat, List.map_map]
  refine List.eq_replicate_iff.mpr ⟨by simp, fun x hx => ?_⟩
  obtain ⟨i, hi, rfl⟩ := List.mem_map.mp hx
  have := List.mem_range.mp hi
  show ((((ns.drop (60 * i)).take 60).length : Nat) : Int) = 60
  rw [List.length_take, List.length_drop]
  omega
theorem pages_last {ns : List Int} (h : 0 < ns.length) : (pagesOf ns)[(pagesOf ns).length - 1]? = some ((ns.drop (60 * ((ns.length - 1) / 60))).take 60) := by
  rw [pages_rng h, List.length_map, List.length_range, Nat.add_sub_cancel, List.getElem?_map, List.getElem?_range (by omega)]
  rfl
theorem chunks_flat (c : Nat) : ∀ (n : Nat) (xs : List Int), (chunks c n xs).flatten = xs.take (c * n)
  | 0, xs => by simp [chunks]
  | n + 1, xs => by
    show xs.take c ++ (chunks c n (xs.drop c)).flatten = _
    rw [chunks_flat c n, ← List.take_add, Nat.mul_succ, Nat.add_comm]
theorem pages_flat (ns : List Int) : (pagesOf ns).flatten = ns := by
  unfold pagesOf nPages
  rw [chunks_flat]
  exact List.take_of_length_le (by omega)
theorem rep_flat (k : Nat) (x : Int) : (List.replicate k [D.int x]).flatten = dints (List.replicate k x) := by
  induction k with
  | zero => rfl
  | succ k ih =>
    rw [List.replicate_succ, List.replicate_succ]
    show [D.int x] ++ _ = _
    rw [ih]
    rfl
theorem cut_row (a b c d z : Int) (p : List Int) : cut (a :: b :: c :: d :: (p ++ [z])) (some 4) (some (-1)) = p := by
  have e : HT.sIx (p.length + 5) (p.length + 5) (some (-1)) = p.length + 4 := by
    show (if (-1 : Int) < 0 then (-1 + ((p.length + 5 : Nat) : Int)).toNat else min (-1 : Int).toNat (p.length + 5)) = p.length + 4
    rw [if_pos (by decide)]
    omega
  have e2 : HT.sIx (p.length + 5) 0 (some 4) = 4 := by
    rw [show (4 : Int) = ((4 : Nat) : Int) by rfl, HT.sIx_nat]
    omega
  unfold cut
  rw [show (a :: b :: c :: d :: (p ++ [z])).length = p.length + 5 by simp, e, e2]
  show List.take (p.length + 4 - 4) (p ++ [z]) = p
  rw [Nat.add_sub_cancel, List.take_left]
def lenF : D → D
  | .tup ds => .int (ds.length : Nat)
  | _ => .non
def midF : D → D
  | .tup [_, .tup r] => .tup (cut r (some 4) (some (-1)))
  | _ => .non
theorem lenF_pg (ps : List (List Int)) : (pgD ps).map lenF = dints (ps.map fun p => ((p.length : Nat) : Int)) := by
  unfold pgD dints
  rw [List.map_map, List.map_map]
  refine List.map_congr_left fun p _ => ?_
  show D.int (((dints p).length : Nat) : Int) = _
  rw [List.length_map]
  rfl
theorem midF_row (q : List Int × Nat) : midF (prow 1 9 q) = .tup (dints q.1) := by
  show D.tup (cut (dints (row _)) (some 4) (some (-1))) = _
  rw [cut_map]
  exact congrArg (fun z => D.tup (List.map D.int z)) (cut_row _ _ _ _ _ _)
theorem midF_rows (ps : List (List Int)) : (ps.zipIdx.map (prow 1 9)).map midF = pgD ps := by
  have e : midF ∘ prow 1 9 = (fun p => D.tup (dints p)) ∘ Prod.fst := funext fun q => midF_row q
  rw [List.map_map, e, ← List.map_map, List.zipIdx_map_fst]
theorem n_fitsY {μ : DSt} {k : DK} {m : Nat} {n : Int} (e : (m : Int) = n) (h : n ≤ 600) (hk : k (.d (.bl false)) μ) : dEqD true (.d (.tup (fitD m))) (.d (.tup [.str "fits"])) μ k := by
  unfold fitD
  rw [if_pos (by omega)]
  exact n_fits hk
theorem n_fullY {μ : DSt} {k : DK} {m : Nat} {n : Int} (e : (m : Int) = n) (h : ¬ n ≤ 600) (hk : k (.d (.bl false)) μ) : dEqD true (.d (.tup (fitD m))) (.d (.tup [.str "full", .int n, .bl true])) μ k := by
  subst e
  unfold fitD
  rw [if_neg (by omega)]
  exact n_full hk
theorem flat_succ {P : List (List Int)} {j : Nat} {p : List Int} (h : P[j]? = some p) : (P.take (j + 1)).flatten = (P.take j).flatten ++ p := by
  obtain ⟨hj, e⟩ := List.getElem?_eq_some_iff.mp h
  rw [List.take_succ_eq_append_getElem hj, List.flatten_append, e]
  simp
theorem flat_pre (P : List (List Int)) (j : Nat) : (P.take j).flatten.length ≤ P.flatten.length := by
  have := congrArg List.length (congrArg List.flatten (List.take_append_drop j P))
  rw [List.flatten_append, List.length_append] at this
  omega
theorem flat_le {P : List (List Int)} {j : Nat} {p : List Int} (h : P[j]? = some p) : (P.take j).flatten.length + p.length ≤ P.flatten.length := by
  have := flat_pre P (j + 1)
  rw [flat_succ h, List.length_append] at this
  exact this
theorem cut_pg {P : List (List Int)} (h : 0 < P.length) : cut (pgD P) none (some (-1)) = pgD P.dropLast := by
  rw [cut_init (by rw [List.length_map]; exact h)]
  exact List.map_dropLast.symm
theorem pages_pos {ns : List Int} (h : 0 < ns.length) : 0 < (pagesOf ns).length := by
  rw [pages_rng h, List.length_map, List.length_range]
  omega

section
variable {P : Program} {w : World} {K : PySem.W.Frag} {mg : Str → Option Value} {base : Heap}
theorem ok_law {f : Addr} {fd : FuncData} {cs : Cs} (T : Txt K mg cs) (C__law_fitting : Callee P w K mg base "_law_fitting" 5 ["_law_book"] (p__law_fitting cs)) (C__law_numbers : Callee P w K mg base "_law_numbers" 1 ["_law_many"] (p__law_numbers cs)) (C__law_pool : Callee P w K mg base "_law_pool" 1 ["_law_script", "_law_k"] (p__law_pool cs)) (C__law_size : Callee P w K mg base "_law_size" 3 ["_law_source"] (p__law_size cs)) (C_book_numbers : Callee P w K mg base "book_numbers" 3 ["book"] (p_book_numbers cs)) (C_book_of : Callee P w K mg base "book_of" 4 ["numbers"] (p_book_of cs)) (C_page_rows : Callee P w K mg base "page_rows" 3 ["area", "number", "numbers"] (p_page_rows cs)) (C_pages_of : Callee P w K mg base "pages_of" 1 ["numbers"] (p_pages_of cs)) (F : Fun K "law" "law" s_law f fd) : FnOk P w K mg base CX0 6 f fd ["_law_script"] (toSp K p_law) := by
  refine dfn F sc_law ?len (by decide) fun cdv A outer s H E Ψ hr => ⟨_, _, (dss_cons (ds_for PassesOwn.never rfl (di_range1 (by rfl) T.b_range (da_cons (de_B (call_max2 rfl) sim_max2 (by rfl) T.b_max (by decide +kernel) (da_cons de_int (da_cons (de_B (call_min2 rfl) sim_min2 (by rfl) T.b_min (by decide +kernel) (da_cons (de_B call_len sim_len (by rfl) T.b_len (by decide +kernel) (da_cons (de_var (pv 0)) da_nil)) (da_cons de_int da_nil))) da_nil))) da_nil)) (dg_name (i := 1) sc_law.nd rfl (.inl rfl))
  (dss_cons (ds_asg (de_c1 C__law_pool (hr.mono (by decide)) (by rfl) (da_cons (de_var (pv 0)) (da_cons (de_var (pv 1)) da_nil))) (dg_name (i := 2) sc_law.nd rfl (.inl rfl)))
  (dss_cons (ds_asg (de_c1 C__law_size (hr.mono (by decide)) (by rfl) (da_cons (de_var (pv 2)) da_nil)) (dg_name (i := 3) sc_law.nd rfl (.inl rfl)))
  (dss_cut (ds_asg (de_ifExp (DW.dt (dw_and (dt_lt (de_var (pv 3)) de_int) (dw_and (dt_gt (de_var (pv 3)) de_int) (dw_and1 (dt_eq hr.units (de_mod (de_Ty call_int1 sim_int (by rfl) T.b_int (by decide +kernel) (da_cons (de_var (pv 3)) da_nil)) de_int) de_int))))) de_int (de_var (pv 3))) (dg_name (i := 3) sc_law.nd rfl (.inl rfl)))
  (dss_cons (ds_asg (de_c1 C__law_numbers (hr.mono (by decide)) (by rfl) (da_cons (de_var (pv 3)) da_nil)) (dg_name (i := 4) sc_law.nd rfl (.inr rfl)))
  (dss_cons (ds_asg (de_c1 C_book_of (hr.mono (by decide)) (by rfl) (da_cons (de_var (pv 4)) da_nil)) (dg_name (i := 5) sc_law.nd rfl (.inl rfl)))
  (dss_cons (ds_if (DW.dt (dw_or (dt_ne hr.units (de_B call_len sim_len (by rfl) T.b_len (by decide +kernel) (da_cons (de_var (pv 4)) da_nil)) (de_var (pv 3))) (dw_or1 (dt_ne hr.units (de_c1 C_book_numbers (hr.mono (by decide)) (by rfl) (da_cons (de_var (pv 5)) da_nil)) (de_var (pv 4)))))) (dss_one (ds_ret de_bl)) dss_nil)
  (dss_cut (ds_if (dt_ne hr.units (de_c1 C__law_fitting (hr.mono (by decide)) (by rfl) (da_cons (de_var (pv 5)) da_nil)) (de_ifExp (dt_le (de_var (pv 3)) de_int) (de_tup (da_cons de_str da_nil)) (de_tup (da_cons de_str (da_cons (de_var (pv 3)) (da_cons de_bl da_nil)))))) (dss_one (ds_ret de_bl)) dss_nil)
  (dss_cut (ds_asg (de_ifExp (dt_le (de_var (pv 3)) de_int) (de_c1 C_pages_of (hr.mono (by decide)) (by rfl) (da_cons (de_var (pv 4)) da_nil)) (de_lc (own := [("_law_at", 9)]) rfl sc_law.nd (di_range3 (by rfl) T.b_range (da_cons de_int (da_cons (de_var (pv 3)) (da_cons de_int da_nil)))) (blkOk_by (N := NN_law) (sc := defScope s_law) (by decide +kernel)) (fun _ _ _ _ _ => (dg_name (i := 9) sc_law.nd rfl (.inl rfl))) (gw_name (by decide)) (fun _ _ _ _ _ => dts_nil) (fun _ _ _ _ _ => (de_slice (de_var (pv 4)) (do_some (de_var (pv 9))) (do_some (de_add (de_var (pv 9)) de_int)))))) (dg_name (i := 6) sc_law.nd rfl (.inl rfl)))
  (dss_cons (ds_if (DW.dt (dw_or (dt_ne hr.units (de_lc (own := [("_law_page", 8)]) rfl sc_law.nd (di_seq (de_slice (de_var (pv 6)) do_none (do_some (de_neg de_int)))) (blkOk_by (N := NN_law) (sc := defScope s_law) (by decide +kernel)) (fun _ _ _ _ _ => (dg_name (i := 8) sc_law.nd rfl (.inl rfl))) (gw_name (by decide)) (fun _ _ _ _ _ => dts_nil) (fun _ _ _ _ _ => (de_B call_len sim_len (by rfl) T.b_len (by decide +kernel) (da_cons (de_var (pv 8)) da_nil)))) (de_rep (de_lst (da_cons de_int da_nil)) (de_fdiv (de_sub (de_var (pv 3)) de_int) de_int))) (dw_or1 (dt_ne hr.units (de_B call_len sim_len (by rfl) T.b_len (by decide +kernel) (da_cons (de_ix (de_var (pv 6)) (de_neg de_int)) da_nil)) (de_sub (de_var (pv 3)) (de_mul de_int (de_fdiv (de_sub (de_var (pv 3)) de_int) de_int))))))) (dss_one (ds_ret de_bl)) dss_nil)
  (dss_cons (ds_asg (de_lstM da_nil) (dg_name (i := 7) sc_law.nd rfl (.inl rfl)))
  (dss_cons (ds_for PassesOwn.never rfl (di_seq (de_var (pv 6))) (dg_name (i := 8) sc_law.nd rfl (.inl rfl))
  (dss_one (ds_expr (de_extend (de_var (pv 7)) (de_var (pv 8))))))
  (dss_cut (ds_if (DW.dt (dw_or (dt_ne hr.units (de_Ty call_tuple_of sim_tuple (by rfl) T.b_tuple (by decide +kernel) (da_cons (de_var (pv 7)) da_nil)) (de_var (pv 4))) (dw_or1 (dt_ne hr.units (de_c1 C__law_fitting (hr.mono (by decide)) (by rfl) (da_cons (de_var (pv 5)) da_nil)) (de_ifExp (dt_le (de_var (pv 3)) de_int) (de_tup (da_cons de_str da_nil)) (de_tup (da_cons de_str (da_cons (de_var (pv 3)) (da_cons de_bl da_nil))))))))) (dss_one (ds_ret de_bl)) dss_nil)
  (dss_cut (ds_if (DW.dt (dw_or (dt_ne hr.units (de_c1 C_book_numbers (hr.mono (by decide)) (by rfl) (da_cons (de_var (pv 5)) da_nil)) (de_var (pv 4))) (dw_or1 (dt_ne hr.units (de_c1 C__law_fitting (hr.mono (by decide)) (by rfl) (da_cons (de_var (pv 5)) da_nil)) (de_ifExp (dt_le (de_var (pv 3)) de_int) (de_tup (da_cons de_str da_nil)) (de_tup (da_cons de_str (da_cons (de_var (pv 3)) (da_cons de_bl da_nil))))))))) (dss_one (ds_ret de_bl)) dss_nil)
  (dss_cut (ds_if (DW.dt (dw_and (dt_le (de_var (pv 3)) de_int) (dw_and1 (dt_ne hr.units (de_lc (own := [("_law_spot", 10), ("_law_row", 11)]) rfl sc_law.nd (di_seq (de_c1 C_page_rows (hr.mono (by decide)) (by rfl) (da_cons de_int (da_cons de_int (da_cons (de_var (pv 4)) da_nil))))) (blkOk_by (N := NN_law) (sc := defScope s_law) (by decide +kernel)) (fun _ _ _ _ _ => (dg_tup (n := 2) rfl (dgs_cons (dg_name (i := 10) sc_law.nd rfl (.inl rfl)) (dgs_cons (dg_name (i := 11) sc_law.nd rfl (.inl rfl)) dgs_nil)))) (gw_tup (gws_cons (by decide) (gws_cons (by decide) gws_nil))) (fun _ _ _ _ _ => dts_nil) (fun _ _ _ _ _ => (de_slice (de_var (pv 11)) (do_some de_int) (do_some (de_neg de_int))))) (de_var (pv 6)))))) (dss_one (ds_ret de_bl)) dss_nil)
  (dss_fzS (dss_fzS dss_nil)))))))))))))))))
  (dss_one (ds_ret de_bl))), ?rd⟩
  case len => rintro xs μ Φ Ψ ⟨ns, rfl, _⟩; rfl
  case rd =>
    rintro xs μ Φ ⟨ns, rfl, hns, rfl, kk⟩
    dsimp only [NN_law, List.length, dstart]
    walk_at "s"
    rw [List.length_map]
    generalize hq : (if (if (2 : Int) < ((ns.length : Nat) : Int) then (2 : Int) else ((ns.length : Nat) : Int)) > 1 then (if (2 : Int) < ((ns.length : Nat) : Int) then (2 : Int) else ((ns.length : Nat) : Int)) else 1) = q
    have hq3 : 0 ≤ q ∧ q ≤ 2 := by
      subst hq
      split <;> split <;> omega
    walk_at "s"
    refine for_rng (fun i ε μ' => ∃ o1 o2 o3 o4 o5 o6 o7 o8 o9 o10 o11, ε = [some (.d (.lsr (dints ns))), o1, o2, o3, o4, o5, o6, o7, o8, o9, o10, o11] ∧ μ' = []) ⟨_, _, _, _, _, _, _, _, _, _, _, rfl, rfl⟩ ?_ ?_
    · rintro i ε μ' hi ⟨o1, o2, o3, o4, o5, o6, o7, o8, o9, o10, o11, rfl, rfl⟩
      walk_at "s"
      refine ⟨ns, _, rfl, by omega, by omega, fun a b hs => ?_⟩
      show dgN _ _ _ [src a b] _
      walk_at "s"
      refine ⟨a, b, [], rfl, rfl, hs, fun a1 b1 n0 hs1 hn0 => ?_⟩
      walk_at "s"
      refine l_cut (Mid := fun ε' μ' => ∃ n h d, Hd n h d ∧ ε' = [some (.d (.lsr (dints ns))), some (.d (.int (0 + (i : Nat)))), some (.m 0), some (.d (.int n)), o4, o5, o6, o7, o8, o9, o10, o11] ∧ μ' = [src a1 b1]) ?_ ?_
      · walk_at "s"
        refine l_bd (fun h1 => ?_) fun h1 => ?_
        · walk_at "s"
          refine l_bd (fun h2 => ?_) fun h2 => ?_
          · walk_at "s"
            refine l_bd (fun h3 => ?_) fun h3 => ?_
            · walk_at "s"
              exact ⟨_, 2, 0, .inr (.inr ⟨rfl, rfl, by decide⟩), rfl, rfl⟩
            · walk_at "s"
              obtain ⟨h, d, hd⟩ := hd_ex hn0 (by omega)
              exact ⟨_, h, d, hd, rfl, rfl⟩
          · walk_at "s"
            obtain ⟨h, d, hd⟩ := hd_ex hn0 (by omega)
            exact ⟨_, h, d, hd, rfl, rfl⟩
        · walk_at "s"
          obtain ⟨h, d, hd⟩ := hd_ex hn0 (by omega)
          exact ⟨_, h, d, hd, rfl, rfl⟩
      rintro ε' μ' ⟨n, h, d, hd, rfl, rfl⟩
      obtain ⟨hd3, hn3, hnT⟩ := hd_d hd
      have hlen := hd_len hd
      have bok := hd_ok hd (by omega)
      walk_at "s"
      refine ⟨n, h, d, rfl, hd, ?_⟩
      walk_at "s"
      refine ⟨_, vsOf h, rsOf h d, rfl, bok, ?_⟩
      walk_at "s"
      refine l_bne (by rw [List.length_map]; exact hlen) ?_
      walk_at "s"
      refine ⟨_, vsOf h, rsOf h d, rfl, bok, ?_⟩
      walk_at "s"
      refine l_bne rfl ?_
      walk_at "s"
      refine l_cut (Mid := fun ε' μ' => ε' = [some (.d (.lsr (dints ns))), some (.d (.int (0 + (i : Nat)))), some (.m 0), some (.d (.int n)), some (.d (.tup (dints (encOf h d)))), some (.d (bookD cs (if h = 0 then 7 else ((h : Nat) : Int) + 1) (vsOf h) (rsOf h d))), o6, o7, o8, o9, o10, o11] ∧ μ' = [src a1 b1]) ?_ ?_
      · walk_at "s"
        refine ⟨_, vsOf h, rsOf h d, rfl, bok, ?_⟩
        walk_at "s"
        refine l_bd (fun h6 => ?_) fun h6 => ?_
        · walk_at "s"
          refine n_fitsY hlen h6 ?_
          walk_at "s"
          exact ⟨rfl, rfl⟩
        · walk_at "s"
          refine n_fullY hlen h6 ?_
          walk_at "s"
          exact ⟨rfl, rfl⟩
      rintro ε' μ' ⟨rfl, rfl⟩
      refine l_cut (Mid := fun ε' μ' => ∃ o9, ε' = [some (.d (.lsr (dints ns))), some (.d (.int (0 + (i : Nat)))), some (.m 0), some (.d (.int n)), some (.d (.tup (dints (encOf h d)))), some (.d (bookD cs (if h = 0 then 7 else ((h : Nat) : Int) + 1) (vsOf h) (rsOf h d))), some (.d (.lst (pgD (pagesOf (encOf h d))))), o7, o8, o9, o10, o11] ∧ μ' = [src a1 b1]) ?_ ?_
      · walk_at "s"
        refine l_bd (fun h6 => ?_) fun h6 => ?_
        · walk_at "s"
          refine ⟨_, rfl, by omega, ?_⟩
          walk_at "s"
          exact ⟨_, rfl, rfl⟩
        · walk_at "s"
          refine l_r3 (n := ((encOf h d).length - 1) / 60 + 1) (rgC_of (by decide) (by decide) (by decide) (by decide) (by omega) (by omega) (by rw [if_pos (by omega)]; omega)) ?_
          refine lc_det (fun i => .tup (dints (((encOf h d).drop (60 * i)).take 60))) (by rw [rangeC_len]; exact szlt (by omega)) ?_ ?_
          · intro i x I acc hx hI
            have hi := (List.getElem?_eq_some_iff.mp hx).1
            rw [rangeC_len] at hi
            rw [rangeC_get hi] at hx
            cases hx
            walk_at "s"
            rw [show (0 + ((i : Nat) : Int) * 60) = ((60 * i : Nat) : Int) by omega, show (((60 * i : Nat) : Int) + 60) = ((60 * i + 60 : Nat) : Int) by omega, cut_map, cut_nn, Nat.add_sub_cancel_left]
            exact hI
          · rw [rangeC_len]
            walk_at "s"
            refine ⟨o9, ?_, rfl⟩
            rw [pages_rng (by omega)]
            unfold pgD
            rw [List.map_map]
            rfl
      rintro ε' μ' ⟨p9, rfl, rfl⟩
      have q0 : 0 < (encOf h d).length := by omega
      walk_at "s"
      rw [cut_pg (pages_pos q0)]
      refine lc_mapD lenF ?_ ?_ ?_
      · rw [List.length_map, List.length_dropLast, pages_rng q0, List.length_map, List.length_range]
        exact szlt (by omega)
      · intro i x I acc hx hI
        obtain ⟨p, _, rfl⟩ := List.mem_map.mp (List.mem_of_getElem? hx)
        walk_at "s"
        exact hI
      walk_at "s"
      refine l_rep (by omega) (by omega) (by show 1 * _ ≤ _; exact szle (by omega)) ?_
      rw [rep_flat, lenF_pg, pages_init q0, show ((n - 1) / 60).toNat = ((encOf h d).length - 1) / 60 by omega]
      walk_at "s"
      refine l_bne rfl ?_
      walk_at "s"
      refine l_ixL (x := .tup (dints (((encOf h d).drop (60 * (((encOf h d).length - 1) / 60))).take 60))) (atI_neg1 (by rw [List.length_map, List.getElem?_map, pages_last q0]; rfl)) ?_
      walk_at "s"
      refine l_bne (by rw [List.length_map, List.length_take, List.length_drop]; omega) ?_
      walk_at "s"
      refine for_seq (fun j ε μ2 => ∃ o8, ε = [some (.d (.lsr (dints ns))), some (.d (.int (0 + (i : Nat)))), some (.m 0), some (.d (.int n)), some (.d (.tup (dints (encOf h d)))), some (.d (bookD cs (if h = 0 then 7 else ((h : Nat) : Int) + 1) (vsOf h) (rsOf h d))), some (.d (.lst (pgD (pagesOf (encOf h d))))), some (.m 1), o8, p9, o10, o11] ∧ μ2 = [src a1 b1, .lst ((dints (((pagesOf (encOf h d)).take j).flatten)).map SV.d)]) ⟨o8, rfl, rfl⟩ ?_ ?_
      · rintro j x ε μ2 hx ⟨p8, rfl, rfl⟩
        unfold pgD at hx
        rw [List.getElem?_map] at hx
        obtain ⟨p, hp, rfl⟩ := Option.map_eq_some_iff.mp hx
        have hfl := flat_le hp
        rw [pages_flat] at hfl
        walk_at "s"
        refine l_extM rfl ?_
        walk_at "s"
        refine l_extT rfl (szle (by rw [List.length_map, List.length_map, List.length_map]; omega)) ?_
        walk_at "s"
        refine ⟨_, rfl, ?_⟩
        rw [flat_succ hp, dints_app, List.map_append]
        rfl
      rintro ε μ2 ⟨p8, rfl, rfl⟩
      rw [List.length_map, List.take_length, pages_flat]
      refine l_cut (Mid := fun ε' μ' => ε' = [some (.d (.lsr (dints ns))), some (.d (.int (0 + (i : Nat)))), some (.m 0), some (.d (.int n)), some (.d (.tup (dints (encOf h d)))), some (.d (bookD cs (if h = 0 then 7 else ((h : Nat) : Int) + 1) (vsOf h) (rsOf h d))), some (.d (.lst (pgD (pagesOf (encOf h d))))), some (.m 1), p8, p9, o10, o11] ∧ μ' = [src a1 b1, .lst ((dints (encOf h d)).map SV.d)]) ?_ ?_
      · walk_at "s"
        refine l_tupleM rfl ?_
        walk_at "s"
        refine l_bne rfl ?_
        walk_at "s"
        refine ⟨_, vsOf h, rsOf h d, rfl, bok, ?_⟩
        walk_at "s"
        refine l_bd (fun h6 => ?_) fun h6 => ?_
        · walk_at "s"
          refine n_fitsY hlen h6 ?_
          walk_at "s"
          exact ⟨rfl, rfl⟩
        · walk_at "s"
          refine n_fullY hlen h6 ?_
          walk_at "s"
          exact ⟨rfl, rfl⟩
      rintro ε' μ' ⟨rfl, rfl⟩
      refine l_cut (Mid := fun ε' μ' => ε' = [some (.d (.lsr (dints ns))), some (.d (.int (0 + (i : Nat)))), some (.m 0), some (.d (.int n)), some (.d (.tup (dints (encOf h d)))), some (.d (bookD cs (if h = 0 then 7 else ((h : Nat) : Int) + 1) (vsOf h) (rsOf h d))), some (.d (.lst (pgD (pagesOf (encOf h d))))), some (.m 1), p8, p9, o10, o11] ∧ μ' = [src a1 b1, .lst ((dints (encOf h d)).map SV.d)]) ?_ ?_
      · walk_at "s"
        refine ⟨_, vsOf h, rsOf h d, rfl, bok, ?_⟩
        walk_at "s"
        refine l_bne rfl ?_
        walk_at "s"
        refine ⟨_, vsOf h, rsOf h d, rfl, bok, ?_⟩
        walk_at "s"
        refine l_bd (fun h6 => ?_) fun h6 => ?_
        · walk_at "s"
          refine n_fitsY hlen h6 ?_
          walk_at "s"
          exact ⟨rfl, rfl⟩
        · walk_at "s"
          refine n_fullY hlen h6 ?_
          walk_at "s"
          exact ⟨rfl, rfl⟩
      rintro ε' μ' ⟨rfl, rfl⟩
      refine l_cut (Mid := fun ε' μ' => ε' = [some (.d (.lsr (dints ns))), some (.d (.int (0 + (i : Nat)))), some (.m 0), some (.d (.int n)), some (.d (.tup (dints (encOf h d)))), some (.d (bookD cs (if h = 0 then 7 else ((h : Nat) : Int) + 1) (vsOf h) (rsOf h d))), some (.d (.lst (pgD (pagesOf (encOf h d))))), some (.m 1), p8, p9, o10, o11] ∧ μ' = [src a1 b1, .lst ((dints (encOf h d)).map SV.d)]) ?_ ?_
      · walk_at "s"
        refine l_bd (fun h6 => ?_) fun h6 => ?_
        · walk_at "s"
          refine ⟨1, 9, _, rfl, by decide, by decide, by omega, ?_⟩
          walk_at "s"
          refine lc_mapD midF ?_ ?_ ?_
          · rw [List.length_map, List.length_zipIdx, pages_rng q0, List.length_map, List.length_range]
            exact szlt (by omega)
          · intro j x I acc hx hI
            obtain ⟨z, _, rfl⟩ := List.mem_map.mp (List.mem_of_getElem? hx)
            have hI' : I (j + 1) (acc ++ [.tup (cut (dints (row (2 :: (11 * 1 + (1 + (z.2 : Int))) :: 9 :: ((z.1.length : Nat) : Int) :: z.1))) (some 4) (some (-1)))]) _ := hI
            unfold prow
            walk_at "s"
            exact hI'
          rw [midF_rows]
          walk_at "s"
          refine n_pg ?_
          walk_at "s"
          exact ⟨rfl, rfl⟩
        · walk_at "s"
          exact ⟨rfl, rfl⟩
      rintro ε' μ' ⟨rfl, rfl⟩
      show dFzS _ _ _ ([src a1 b1] ++ [.lst ((dints (encOf h d)).map SV.d)])
      refine l_fzS (μ0' := [src a1 b1]) (d := .lst (dints (encOf h d))) (Rest.lst _) (by simp) (by simp [frz]; rfl) rfl ?_
      show dFzS _ _ _ ([] ++ [src a1 b1])
      refine l_fzS (μ0' := []) (d := .lst (dints [a1, b1])) (Rest.lst [.int a1, .int b1]) (by simp) (by simp [frz]; rfl) rfl ?_
      walk_at "s"
      exact ⟨_, _, _, _, _, _, _, _, _, _, _, rfl, rfl⟩
    · rintro ε μ' ⟨o1, o2, o3, o4, o5, o6, o7, o8, o9, o10, o11, rfl, rfl⟩
      walk_at "s"
      exact kk _

end
end K11

set_option Elab.async false
set_option linter.all false
set_option maxRecDepth 100000
set_option maxHeartbeats 1000000
open PySem PySem.Spec PyProof.Rows L2 DV
local macro_rules | `(tactic| walk_at "s1") => `(tactic| first
  | with_reducible (first
  | refine l_seq ?_ | refine l_var rfl ?_ | refine l_c ?_ | refine l_op ?_ | refine l_cons ?_ | refine l_nil ?_ | refine l_asg ?_ | refine l_dgN ?_ | refine l_ret ?_ | refine l_call ?_ | refine l_cb ?_ | refine l_test ?_ | refine l_svb ?_ | refine l_ifS ?_
  | refine l_and ?_ | refine l_or ?_ | refine l_not ?_ | refine l_bt ?_ | refine l_bf ?_ | refine l_bnt ?_ | refine l_bnf ?_ | refine l_I0 ?_ | refine l_plusI ?_ | refine l_int ?_ | refine l_intb ?_ | refine l_svi ?_ | refine l_part0 ?_ | refine l_part1 ?_ | refine l_sl ?_ | refine l_neg ?_
  | refine l_tup ?_ | refine l_lst ?_ | refine l_lstM ?_ | refine l_star ?_ | refine l_starT ?_ | refine l_starL ?_ | refine l_callD ?_ | refine l_callK ?_ | refine l_andV ?_ | refine l_orV ?_ | refine l_notV ?_ | refine l_if ?_ | refine l_max2 ?_ | refine l_min2 ?_ | refine l_lenT ?_ | refine l_lenL ?_ | refine l_lenR ?_
  | refine l_tupleT ?_ | refine l_tupleL ?_ | refine l_listT ?_ | refine l_listL ?_ | refine l_isB ?_ | refine l_isnotB ?_ | refine l_isN ?_ | refine l_isnotN ?_ | refine l_next ?_ | refine l_break ?_ | refine l_cont ?_ | refine l_drop ?_ | refine l_retN ?_ | refine l_par ?_ | refine l_aug rfl ?_
  | refine l_dgTup2 ?_ | refine l_dgTup3 ?_ | refine l_dgTup4 ?_ | refine l_dgCons ?_ | refine l_dgNil ?_ | refine l_dgSub ?_ | refine l_yes ?_
  | refine l_parK ?_ | refine l_slT ?_ | refine l_slL ?_ | refine l_for ?_ | refine l_enum ?_ | refine l_enT ?_ | refine l_enL ?_ | refine l_seqI ?_ | refine l_sqL ?_ | refine l_tupI ?_ | refine l_tpT ?_ | refine l_rng1 ?_ | refine l_rng2 ?_ | refine l_lc ?_ | refine l_elK ?_ | refine l_app ?_
  | refine l_strI ?_ | refine l_strK ?_ | refine l_sindex ?_ | refine l_sxK ?_ | refine l_lenDD ?_ | refine l_ext ?_ | refine l_rng3 ?_ | refine l_dgFld ?_ | refine l_make ?_ | refine l_raise ?_ | refine l_xf ?_ | refine l_isF ?_ | refine l_callS ?_ | refine l_fld ?_ | refine l_sfld ?_ | refine l_dput ?_ | refine l_dget ?_ | refine l_din ?_ | refine l_dnewM ?_ | refine l_dnew ?_ | refine l_get2 ?_
  | refine l_rev ?_ | refine l_revK ?_ | refine e_int ?_ | refine n_int ?_ | refine e_tup ?_ | refine n_tup ?_ | refine e_lst ?_ | refine n_lst ?_)
  | ((with_reducible refine l_tupK rfl ?c ?_); (case c => first | decide | (simp only [List.length_cons, List.length_nil]; decide)))
  | ((with_reducible refine l_lstK rfl ?c ?_); (case c => first | decide | (simp only [List.length_cons, List.length_nil]; decide)))
  | ((with_reducible refine l_lstMK ?c ?_); (case c => first | decide | (simp only [List.length_cons, List.length_nil]; decide)))
  | ((with_reducible refine l_mod ?c ?_); (case c => first | decide | omega))
  | ((with_reducible refine l_fdiv (cdiv_of ?c ?d) ?_); (case c => first | decide | omega); (case d => first | decide | omega))
  | (with_reducible refine l_mul cmul_b ?_)
  | ((with_reducible refine l_pow (cpow_of ?c ?d ?e) ?_); (case c => decide); (case d => decide); (case e => decide))
  | ((with_reducible refine l_mul (cmul_l ?c ?d) ?_); (case c => first | decide | omega); (case d => first | decide | omega))
  | ((with_reducible refine l_mul (cmul_r ?c ?d) ?_); (case c => first | decide | omega); (case d => first | decide | omega))
  | ((with_reducible refine l_r1 ⟨?c, ?d⟩ ?_); (case c => first | decide | omega); (case d => first | decide | omega)))
local macro_rules | `(tactic| walk_at "s") => `(tactic| repeat walk_at "s1")

namespace K11
theorem all_mk {l : PySem.W.OpenLaw} {w : World} {K : PySem.W.Frag} {h : Heap} {mg : Str → Option Value} {fa fL : Addr} (X : K.In h) (G : h.Ns mainGlobals mg) (hfa : mg "law" = some (.ref fa))
    {od an : Option Addr} {sl : Array (Option Value)} {oc kV dc pm cd ct : Value}
    {A_Refused A_NoRoom A_BookFull A_Root A_Volume A_Book A_einit : Addr} {A_efd : FuncData} {ode ane : Option Addr} {sle : Array (Option Value)} {oce kVe dce pme cde cte : Value} {nm_Refused q_Refused : Str} {N_Refused : Addr} {bs_Refused bm_Refused : List Value} {sn_Refused : List Str} {sub_Refused : List Value} {ab_Refused : Bool} {col_Refused : _} {dd_Refused : _} {k0_Refused : _} {k1_Refused : _} {k2_Refused : _} {k3_Refused : _} {k5_Refused : _} {nm_NoRoom q_NoRoom : Str} {N_NoRoom : Addr} {bs_NoRoom bm_NoRoom : List Value} {sn_NoRoom : List Str} {sub_NoRoom : List Value} {ab_NoRoom : Bool} {col_NoRoom : _} {dd_NoRoom : _} {k0_NoRoom : _} {k1_NoRoom : _} {k2_NoRoom : _} {k3_NoRoom : _} {k5_NoRoom : _} {nm_BookFull q_BookFull : Str} {N_BookFull : Addr} {bs_BookFull bm_BookFull : List Value} {sn_BookFull : List Str} {sub_BookFull : List Value} {ab_BookFull : Bool} {col_BookFull : _} {dd_BookFull : _} {k0_BookFull : _} {k1_BookFull : _} {k2_BookFull : _} {k3_BookFull : _} {k5_BookFull : _} {f_Root___init__ : Addr} {od_Root___init__ an_Root___init__ : Option Addr} {sl_Root___init__ : Array (Option Value)} {oc_Root___init__ kV_Root___init__ dc_Root___init__ pm_Root___init__ cd_Root___init__ ct_Root___init__ : Value} {f_Volume___init__ : Addr} {od_Volume___init__ an_Volume___init__ : Option Addr} {sl_Volume___init__ : Array (Option Value)} {oc_Volume___init__ kV_Volume___init__ dc_Volume___init__ pm_Volume___init__ cd_Volume___init__ ct_Volume___init__ : Value} {f_Book___init__ : Addr} {od_Book___init__ an_Book___init__ : Option Addr} {sl_Book___init__ : Array (Option Value)} {oc_Book___init__ kV_Book___init__ dc_Book___init__ pm_Book___init__ cd_Book___init__ ct_Book___init__ : Value}
    (b_ValueError : mg "ValueError" = none)
    (b_enumerate : mg "enumerate" = none)
    (b_int : mg "int" = none)
    (b_isinstance : mg "isinstance" = none)
    (b_len : mg "len" = none)
    (b_max : mg "max" = none)
    (b_min : mg "min" = none)
    (b_range : mg "range" = none)
    (b_sorted : mg "sorted" = none)
    (b_tuple : mg "tuple" = none)
    (g_LETTERS : ∃ t, mg "LETTERS" = some (.str "abcdefghijklmnopqrstuvwxyz" t))
    (g_MODULUS : ∃ t, mg "MODULUS" = some (.int 1000003 t))
    (g_PAGE : ∃ t, mg "PAGE" = some (.int 2 t))
    (g_PAGES : ∃ t, mg "PAGES" = some (.int 10 t))
    (g_PAGE_NUMBERS : ∃ t, mg "PAGE_NUMBERS" = some (.int 60 t))
    (g_ROOT_NUMBERS : ∃ t, mg "ROOT_NUMBERS" = some (.int 10 t))
    (g_VOLUME_NUMBERS : ∃ t, mg "VOLUME_NUMBERS" = some (.int 3 t))
    (D_head_place : DefAt K mg "head_place" s_head_place)
    (D_page_place : DefAt K mg "page_place" s_page_place)
    (D_name_number : DefAt K mg "name_number" s_name_number)
    (D_name_of : DefAt K mg "name_of" s_name_of)
    (D_book_numbers : DefAt K mg "book_numbers" s_book_numbers)
    (D_book_of : DefAt K mg "book_of" s_book_of)
    (D_pages_of : DefAt K mg "pages_of" s_pages_of)
    (D_need_fitting : DefAt K mg "need_fitting" s_need_fitting)
    (D__root_numbers : DefAt K mg "_root_numbers" s__root_numbers)
    (D__root_at : DefAt K mg "_root_at" s__root_at)
    (D_check_of : DefAt K mg "check_of" s_check_of)
    (D_made_row : DefAt K mg "made_row" s_made_row)
    (D_page_rows : DefAt K mg "page_rows" s_page_rows)
    (D__law_pool : DefAt K mg "_law_pool" s__law_pool)
    (D__law_take : DefAt K mg "_law_take" s__law_take)
    (D__law_one : DefAt K mg "_law_one" s__law_one)
    (D__law_numbers : DefAt K mg "_law_numbers" s__law_numbers)
    (D__law_fitting : DefAt K mg "_law_fitting" s__law_fitting)
    (D__law_size : DefAt K mg "_law_size" s__law_size)
    (a_Refused : PySem.W.nsIn K mainGlobals "Refused" = some (some (.ref A_Refused)))
    (ol_Refused : K.lookup A_Refused = some (excClassObj nm_Refused q_Refused A_Refused N_Refused bs_Refused bm_Refused true sn_Refused sub_Refused ab_Refused col_Refused dd_Refused k0_Refused k1_Refused k2_Refused k3_Refused k5_Refused "ValueError.__new__"))
    (orf_Refused : PySem.HandSPX.refsVE bm_Refused = true)
    (osa_Refused : PySem.W.findIn K (.ref A_Refused) "__setattr__" = some (some (.builtin "object.__setattr__")))
    (oex_Refused : PySem.W.subIn K (.ref A_Refused) (.type "BaseException") = some true)
    (oty_Refused : PySem.W.typeIn K (.ref A_Refused) = some (.type "type"))
    (okc_Refused : PySem.W.keepIn K (.ref A_Refused) = true)
    (ie_Refused : PySem.W.findIn K (.ref A_Refused) "__init__" = some (some (.ref A_einit)))
    (nw_Refused : PySem.W.findIn K (.ref A_Refused) "what" = some none)
    (eg_Refused : PySem.W.findIn K (.ref A_Refused) "__getattribute__" = some (some (.builtin "BaseException.__getattribute__")))
    (ek_Refused : PySem.W.findIn K (.ref A_Refused) "__getattr__" = some none)
    (ed_Refused : PySem.W.hasDictIn K A_Refused = true)
    (ea_Refused : PySem.W.findIn K (.ref A_Refused) "__class__" = some (some (.builtin "object.__class__")))
    (em_Refused : PySem.W.mroIn K A_Refused (.type "object") = some true)
    (a_NoRoom : PySem.W.nsIn K mainGlobals "NoRoom" = some (some (.ref A_NoRoom)))
    (ol_NoRoom : K.lookup A_NoRoom = some (excClassObj nm_NoRoom q_NoRoom A_NoRoom N_NoRoom bs_NoRoom bm_NoRoom true sn_NoRoom sub_NoRoom ab_NoRoom col_NoRoom dd_NoRoom k0_NoRoom k1_NoRoom k2_NoRoom k3_NoRoom k5_NoRoom "ValueError.__new__"))
    (orf_NoRoom : PySem.HandSPX.refsVE bm_NoRoom = true)
    (osa_NoRoom : PySem.W.findIn K (.ref A_NoRoom) "__setattr__" = some (some (.builtin "object.__setattr__")))
    (oex_NoRoom : PySem.W.subIn K (.ref A_NoRoom) (.type "BaseException") = some true)
    (oty_NoRoom : PySem.W.typeIn K (.ref A_NoRoom) = some (.type "type"))
    (okc_NoRoom : PySem.W.keepIn K (.ref A_NoRoom) = true)
    (ie_NoRoom : PySem.W.findIn K (.ref A_NoRoom) "__init__" = some (some (.ref A_einit)))
    (nw_NoRoom : PySem.W.findIn K (.ref A_NoRoom) "what" = some none)
    (eg_NoRoom : PySem.W.findIn K (.ref A_NoRoom) "__getattribute__" = some (some (.builtin "BaseException.__getattribute__")))
    (ek_NoRoom : PySem.W.findIn K (.ref A_NoRoom) "__getattr__" = some none)
    (ed_NoRoom : PySem.W.hasDictIn K A_NoRoom = true)
    (ea_NoRoom : PySem.W.findIn K (.ref A_NoRoom) "__class__" = some (some (.builtin "object.__class__")))
    (em_NoRoom : PySem.W.mroIn K A_NoRoom (.type "object") = some true)
    (a_BookFull : PySem.W.nsIn K mainGlobals "BookFull" = some (some (.ref A_BookFull)))
    (ol_BookFull : K.lookup A_BookFull = some (excClassObj nm_BookFull q_BookFull A_BookFull N_BookFull bs_BookFull bm_BookFull true sn_BookFull sub_BookFull ab_BookFull col_BookFull dd_BookFull k0_BookFull k1_BookFull k2_BookFull k3_BookFull k5_BookFull "ValueError.__new__"))
    (orf_BookFull : PySem.HandSPX.refsVE bm_BookFull = true)
    (osa_BookFull : PySem.W.findIn K (.ref A_BookFull) "__setattr__" = some (some (.builtin "object.__setattr__")))
    (oex_BookFull : PySem.W.subIn K (.ref A_BookFull) (.type "BaseException") = some true)
    (oty_BookFull : PySem.W.typeIn K (.ref A_BookFull) = some (.type "type"))
    (okc_BookFull : PySem.W.keepIn K (.ref A_BookFull) = true)
    (ie_BookFull : PySem.W.findIn K (.ref A_BookFull) "__init__" = some (some (.ref A_einit)))
    (nw_BookFull : PySem.W.findIn K (.ref A_BookFull) "what" = some none)
    (eg_BookFull : PySem.W.findIn K (.ref A_BookFull) "__getattribute__" = some (some (.builtin "BaseException.__getattribute__")))
    (ek_BookFull : PySem.W.findIn K (.ref A_BookFull) "__getattr__" = some none)
    (ed_BookFull : PySem.W.hasDictIn K A_BookFull = true)
    (ea_BookFull : PySem.W.findIn K (.ref A_BookFull) "__class__" = some (some (.builtin "object.__class__")))
    (em_BookFull : PySem.W.mroIn K A_BookFull (.type "object") = some true)
    (a_Root : PySem.W.nsIn K mainGlobals "Root" = some (some (.ref A_Root)))
    (pg_Root : PySem.W.plainGet K A_Root Str.empty = true)
    (hd_Root : PySem.W.hasDictIn K A_Root = true)
    (po_Root : PySem.W.plainOver K A_Root = true)
    (sa_Root : PySem.W.findIn K (.ref A_Root) "__setattr__" = some (some (.builtin "object.__setattr__")))
    (mk_Root : PySem.W.makesIn K A_Root = true)
    (kc_Root : PySem.W.keepIn K (.ref A_Root) = true)
    (na_Root_ident : PySem.W.findIn K (.ref A_Root) "ident" = some none)
    (na_Root_volume : PySem.W.findIn K (.ref A_Root) "volume" = some none)
    (na_Root_snap : PySem.W.findIn K (.ref A_Root) "snap" = some none)
    (na_Root_prev : PySem.W.findIn K (.ref A_Root) "prev" = some none)
    (na_Root_time : PySem.W.findIn K (.ref A_Root) "time" = some none)
    (na_Root_mark : PySem.W.findIn K (.ref A_Root) "mark" = some none)
    (na_Root_top : PySem.W.findIn K (.ref A_Root) "top" = some none)
    (na_Root_dead : PySem.W.findIn K (.ref A_Root) "dead" = some none)
    (a_Volume : PySem.W.nsIn K mainGlobals "Volume" = some (some (.ref A_Volume)))
    (pg_Volume : PySem.W.plainGet K A_Volume Str.empty = true)
    (hd_Volume : PySem.W.hasDictIn K A_Volume = true)
    (po_Volume : PySem.W.plainOver K A_Volume = true)
    (sa_Volume : PySem.W.findIn K (.ref A_Volume) "__setattr__" = some (some (.builtin "object.__setattr__")))
    (mk_Volume : PySem.W.makesIn K A_Volume = true)
    (kc_Volume : PySem.W.keepIn K (.ref A_Volume) = true)
    (na_Volume_name : PySem.W.findIn K (.ref A_Volume) "name" = some none)
    (na_Volume_quota : PySem.W.findIn K (.ref A_Volume) "quota" = some none)
    (na_Volume_head : PySem.W.findIn K (.ref A_Volume) "head" = some none)
    (a_Book : PySem.W.nsIn K mainGlobals "Book" = some (some (.ref A_Book)))
    (pg_Book : PySem.W.plainGet K A_Book Str.empty = true)
    (hd_Book : PySem.W.hasDictIn K A_Book = true)
    (po_Book : PySem.W.plainOver K A_Book = true)
    (sa_Book : PySem.W.findIn K (.ref A_Book) "__setattr__" = some (some (.builtin "object.__setattr__")))
    (mk_Book : PySem.W.makesIn K A_Book = true)
    (kc_Book : PySem.W.keepIn K (.ref A_Book) = true)
    (na_Book_next_id : PySem.W.findIn K (.ref A_Book) "next_id" = some none)
    (na_Book_volumes : PySem.W.findIn K (.ref A_Book) "volumes" = some none)
    (na_Book_roots : PySem.W.findIn K (.ref A_Book) "roots" = some none)
    (xn : PySem.W.specialIn K (.builtin "object.__class__") "__get__" = some (some (.builtin "getset_descriptor.__get__")))
    (xt : PySem.W.takesIn K (.builtin "object.__class__") = some true)
    (ti : PySem.W.typeIn K (.ref A_einit) = some (.type "function"))
    (einL : K.lookup A_einit = some ⟨oce, ode, .func (PySem.W.fnOf "__init__" "Refused.__init__" (defArgs s_Refused___init__) (defBody s_Refused___init__) (defScope s_Refused___init__) .none kVe dce pme ane cde cte), sle⟩)
    (einD : A_efd = PySem.W.fnOf "__init__" "Refused.__init__" (defArgs s_Refused___init__) (defBody s_Refused___init__) (defScope s_Refused___init__) .none kVe dce pme ane cde cte)
    (einC : PySem.W.codeIn K cde "Refused.__init__" = true)
    (einK : PySem.W.keepIn K (.ref A_einit) = true)
    (exs_BookFull_BookFull : PySem.W.subIn K (.ref A_BookFull) (.ref A_BookFull) = some true)
    (kis_BookFull_NoRoom : PySem.W.subIn K (.ref A_BookFull) (.ref A_NoRoom) = some false)
    (neq_BookFull_NoRoom : (Value.ref A_BookFull == Value.ref A_NoRoom) = false)
    (kis_BookFull_Refused : PySem.W.subIn K (.ref A_BookFull) (.ref A_Refused) = some true)
    (kis_BookFull_ValueError : PySem.W.subIn K (.ref A_BookFull) (.type "ValueError") = some true)
    (a_Root___init__ : PySem.W.findIn K (.ref A_Root) "__init__" = some (some (.ref f_Root___init__)))
    (i_Root___init__ : PySem.W.isFn K (.ref f_Root___init__) = true)
    (l_Root___init__ : K.lookup f_Root___init__ = some ⟨oc_Root___init__, od_Root___init__, .func (PySem.W.fnOf "__init__" "Root.__init__" (defArgs s_Root___init__) (defBody s_Root___init__) (defScope s_Root___init__) .none kV_Root___init__ dc_Root___init__ pm_Root___init__ an_Root___init__ cd_Root___init__ ct_Root___init__), sl_Root___init__⟩)
    (c_Root___init__ : PySem.W.codeIn K cd_Root___init__ "Root.__init__" = true)
    (k_Root___init__ : PySem.W.keepIn K (.ref f_Root___init__) = true)
    (a_Volume___init__ : PySem.W.findIn K (.ref A_Volume) "__init__" = some (some (.ref f_Volume___init__)))
    (i_Volume___init__ : PySem.W.isFn K (.ref f_Volume___init__) = true)
    (l_Volume___init__ : K.lookup f_Volume___init__ = some ⟨oc_Volume___init__, od_Volume___init__, .func (PySem.W.fnOf "__init__" "Volume.__init__" (defArgs s_Volume___init__) (defBody s_Volume___init__) (defScope s_Volume___init__) .none kV_Volume___init__ dc_Volume___init__ pm_Volume___init__ an_Volume___init__ cd_Volume___init__ ct_Volume___init__), sl_Volume___init__⟩)
    (c_Volume___init__ : PySem.W.codeIn K cd_Volume___init__ "Volume.__init__" = true)
    (k_Volume___init__ : PySem.W.keepIn K (.ref f_Volume___init__) = true)
    (a_Book___init__ : PySem.W.findIn K (.ref A_Book) "__init__" = some (some (.ref f_Book___init__)))
    (i_Book___init__ : PySem.W.isFn K (.ref f_Book___init__) = true)
    (l_Book___init__ : K.lookup f_Book___init__ = some ⟨oc_Book___init__, od_Book___init__, .func (PySem.W.fnOf "__init__" "Book.__init__" (defArgs s_Book___init__) (defBody s_Book___init__) (defScope s_Book___init__) .none kV_Book___init__ dc_Book___init__ pm_Book___init__ an_Book___init__ cd_Book___init__ ct_Book___init__), sl_Book___init__⟩)
    (c_Book___init__ : PySem.W.codeIn K cd_Book___init__ "Book.__init__" = true)
    (k_Book___init__ : PySem.W.keepIn K (.ref f_Book___init__) = true)
    (aL : PySem.W.nsIn K mainGlobals "law" = some (some (.ref fL))) (lL : K.lookup fL = some ⟨oc, od, .func (PySem.W.fnOf "law" "law" (defArgs s_law) (defBody s_law) (defScope s_law) .none kV dc pm an cd ct), sl⟩) (cL : PySem.W.codeIn K cd "law" = true) (kL : PySem.W.keepIn K (.ref fL) = true) :
    ∃ fd : FuncData, (∀ (s : Shared) (v : Value), BindsTo s fd ⟨[v], []⟩ [("_law_script", v)]) ∧ ∀ base : Heap, K.In base → base.Ns mainGlobals mg → FnOk l.prog w K mg base CX0 6 fa fd ["_law_script"] (toSp K p_lawOf) := by
  have e := hfa.symm.trans (PySem.W.mg_of X G aL)
  cases e
  have T : Txt K mg (⟨A_Refused, A_NoRoom, A_BookFull, A_Root, A_Volume, A_Book, A_einit, A_efd⟩ : Cs) := ⟨b_ValueError,
    b_enumerate,
    b_int,
    b_isinstance,
    b_len,
    b_max,
    b_min,
    b_range,
    b_sorted,
    b_tuple,
    g_LETTERS,
    g_MODULUS,
    g_PAGE,
    g_PAGES,
    g_PAGE_NUMBERS,
    g_ROOT_NUMBERS,
    g_VOLUME_NUMBERS,
    PySem.W.mg_of X G a_Refused,
    ⟨⟨_, _, _, _, _, _, _, _, _, _, _, _, _, _, _, ol_Refused, orf_Refused⟩, osa_Refused, oex_Refused, oty_Refused, okc_Refused⟩,
    ie_Refused,
    nw_Refused,
    ⟨eg_Refused, ek_Refused, oex_Refused, ed_Refused, ea_Refused, xn, xt, em_Refused⟩,
    ⟨eg_Refused, ek_Refused, oex_Refused, ed_Refused⟩,
    PySem.W.mg_of X G a_NoRoom,
    ⟨⟨_, _, _, _, _, _, _, _, _, _, _, _, _, _, _, ol_NoRoom, orf_NoRoom⟩, osa_NoRoom, oex_NoRoom, oty_NoRoom, okc_NoRoom⟩,
    ie_NoRoom,
    nw_NoRoom,
    ⟨eg_NoRoom, ek_NoRoom, oex_NoRoom, ed_NoRoom, ea_NoRoom, xn, xt, em_NoRoom⟩,
    ⟨eg_NoRoom, ek_NoRoom, oex_NoRoom, ed_NoRoom⟩,
    PySem.W.mg_of X G a_BookFull,
    ⟨⟨_, _, _, _, _, _, _, _, _, _, _, _, _, _, _, ol_BookFull, orf_BookFull⟩, osa_BookFull, oex_BookFull, oty_BookFull, okc_BookFull⟩,
    ie_BookFull,
    nw_BookFull,
    ⟨eg_BookFull, ek_BookFull, oex_BookFull, ed_BookFull, ea_BookFull, xn, xt, em_BookFull⟩,
    ⟨eg_BookFull, ek_BookFull, oex_BookFull, ed_BookFull⟩,
    PySem.W.mg_of X G a_Root,
    ⟨pg_Root, hd_Root, po_Root, sa_Root⟩,
    na_Root_ident,
    na_Root_volume,
    na_Root_snap,
    na_Root_prev,
    na_Root_time,
    na_Root_mark,
    na_Root_top,
    na_Root_dead,
    PySem.W.mg_of X G a_Volume,
    ⟨pg_Volume, hd_Volume, po_Volume, sa_Volume⟩,
    na_Volume_name,
    na_Volume_quota,
    na_Volume_head,
    PySem.W.mg_of X G a_Book,
    ⟨pg_Book, hd_Book, po_Book, sa_Book⟩,
    na_Book_next_id,
    na_Book_volumes,
    na_Book_roots,
    PySem.W.exm_ref oex_BookFull ed_BookFull oty_BookFull exs_BookFull_BookFull,
    DV.kit_ref ed_NoRoom oty_NoRoom kis_BookFull_NoRoom (fun h => absurd (h.symm.trans neq_BookFull_NoRoom) (by decide)),
    DV.kit_ref ed_Refused oty_Refused kis_BookFull_Refused (fun _ => rfl),
    DV.kit_ty kis_BookFull_ValueError,
    ti,
    by rw [einD]; exact (fun_mk (st := s_Refused___init__) einL einC einK).binds (ps := ["self", "what"]) fun _ _ _ _ _ _ us hl => match us, hl with | [_, _], _ => rfl,
    by rw [einD]; exact fun_mk (st := s_Refused___init__) einL einC einK⟩
  have F := fun_mk (st := s_law) lL cL kL
  refine ⟨PySem.W.fnOf "law" "law" (defArgs s_law) (defBody s_law) (defScope s_law) .none kV dc pm an cd ct, fun s v => .of_eq rfl, fun base _ _ => ?_⟩
  have C_head_place : Callee l.prog w K mg base "head_place" 1 ["area"] (p_head_place (⟨A_Refused, A_NoRoom, A_BookFull, A_Root, A_Volume, A_Book, A_einit, A_efd⟩ : Cs)) := c_head_place T  D_head_place
  have C_name_number : Callee l.prog w K mg base "name_number" 1 ["name"] (p_name_number (⟨A_Refused, A_NoRoom, A_BookFull, A_Root, A_Volume, A_Book, A_einit, A_efd⟩ : Cs)) := c_name_number T  D_name_number
  have C_name_of : Callee l.prog w K mg base "name_of" 1 ["number"] (p_name_of (⟨A_Refused, A_NoRoom, A_BookFull, A_Root, A_Volume, A_Book, A_einit, A_efd⟩ : Cs)) := c_name_of T  D_name_of
  have F_Root___init__ := fun_mk (st := s_Root___init__) l_Root___init__ c_Root___init__ k_Root___init__
  have I_Root : CalleeI l.prog w K mg base "Root" A_Root 1 [] [] (p_Root___init__ (⟨A_Refused, A_NoRoom, A_BookFull, A_Root, A_Volume, A_Book, A_einit, A_efd⟩ : Cs)) := ⟨_, _, _, [], ok_Root___init__ T  F_Root___init__, T.mg_Root, ⟨mk_Root, a_Root___init__, i_Root___init__, kc_Root⟩, (F_Root___init__.binds (ps := ["self", "ident", "volume", "snap", "prev", "time", "mark", "top", "dead"]) fun _ _ _ _ _ _ us hl => match us, hl with | [_, _, _, _, _, _, _, _, _], _ => rfl), .nil, fun _ => .nil⟩
  have F_Volume___init__ := fun_mk (st := s_Volume___init__) l_Volume___init__ c_Volume___init__ k_Volume___init__
  have I_Volume : CalleeI l.prog w K mg base "Volume" A_Volume 1 [] [] (p_Volume___init__ (⟨A_Refused, A_NoRoom, A_BookFull, A_Root, A_Volume, A_Book, A_einit, A_efd⟩ : Cs)) := ⟨_, _, _, [], ok_Volume___init__ T  F_Volume___init__, T.mg_Volume, ⟨mk_Volume, a_Volume___init__, i_Volume___init__, kc_Volume⟩, (F_Volume___init__.binds (ps := ["self", "name", "quota", "head"]) fun _ _ _ _ _ _ us hl => match us, hl with | [_, _, _, _], _ => rfl), .nil, fun _ => .nil⟩
  have F_Book___init__ := fun_mk (st := s_Book___init__) l_Book___init__ c_Book___init__ k_Book___init__
  have I_Book : CalleeI l.prog w K mg base "Book" A_Book 1 [] [] (p_Book___init__ (⟨A_Refused, A_NoRoom, A_BookFull, A_Root, A_Volume, A_Book, A_einit, A_efd⟩ : Cs)) := ⟨_, _, _, [], ok_Book___init__ T  F_Book___init__, T.mg_Book, ⟨mk_Book, a_Book___init__, i_Book___init__, kc_Book⟩, (F_Book___init__.binds (ps := ["self"]) fun _ _ _ _ _ _ us hl => match us, hl with | [_], _ => rfl), .nil, fun _ => .nil⟩
  have C_pages_of : Callee l.prog w K mg base "pages_of" 1 ["numbers"] (p_pages_of (⟨A_Refused, A_NoRoom, A_BookFull, A_Root, A_Volume, A_Book, A_einit, A_efd⟩ : Cs)) := c_pages_of T  D_pages_of
  have C_check_of : Callee l.prog w K mg base "check_of" 1 ["numbers"] (p_check_of (⟨A_Refused, A_NoRoom, A_BookFull, A_Root, A_Volume, A_Book, A_einit, A_efd⟩ : Cs)) := c_check_of T  D_check_of
  have C__law_pool : Callee l.prog w K mg base "_law_pool" 1 ["_law_script", "_law_k"] (p__law_pool (⟨A_Refused, A_NoRoom, A_BookFull, A_Root, A_Volume, A_Book, A_einit, A_efd⟩ : Cs)) := c__law_pool T  D__law_pool
  have C__law_take : Callee l.prog w K mg base "_law_take" 1 ["_law_source", "_law_top_it"] (p__law_take (⟨A_Refused, A_NoRoom, A_BookFull, A_Root, A_Volume, A_Book, A_einit, A_efd⟩ : Cs)) := c__law_take T  D__law_take
  have C__law_numbers : Callee l.prog w K mg base "_law_numbers" 1 ["_law_many"] (p__law_numbers (⟨A_Refused, A_NoRoom, A_BookFull, A_Root, A_Volume, A_Book, A_einit, A_efd⟩ : Cs)) := c__law_numbers T  D__law_numbers
  have C_page_place : Callee l.prog w K mg base "page_place" 2 ["area", "i"] (p_page_place (⟨A_Refused, A_NoRoom, A_BookFull, A_Root, A_Volume, A_Book, A_einit, A_efd⟩ : Cs)) := c_page_place T C_head_place D_page_place
  have C__root_numbers : Callee l.prog w K mg base "_root_numbers" 2 ["root"] (p__root_numbers (⟨A_Refused, A_NoRoom, A_BookFull, A_Root, A_Volume, A_Book, A_einit, A_efd⟩ : Cs)) := c__root_numbers T C_name_number D__root_numbers
  have C_made_row : Callee l.prog w K mg base "made_row" 2 ["kind", "place", "number", "payload"] (p_made_row (⟨A_Refused, A_NoRoom, A_BookFull, A_Root, A_Volume, A_Book, A_einit, A_efd⟩ : Cs)) := c_made_row T C_check_of D_made_row
  have C__law_one : Callee l.prog w K mg base "_law_one" 2 ["_law_source", "_law_things"] (p__law_one (⟨A_Refused, A_NoRoom, A_BookFull, A_Root, A_Volume, A_Book, A_einit, A_efd⟩ : Cs)) := c__law_one T C__law_take D__law_one
  have C_book_numbers : Callee l.prog w K mg base "book_numbers" 3 ["book"] (p_book_numbers (⟨A_Refused, A_NoRoom, A_BookFull, A_Root, A_Volume, A_Book, A_einit, A_efd⟩ : Cs)) := c_book_numbers T C__root_numbers C_name_number D_book_numbers
  have C__root_at : Callee l.prog w K mg base "_root_at" 3 ["numbers", "at"] (p__root_at (⟨A_Refused, A_NoRoom, A_BookFull, A_Root, A_Volume, A_Book, A_einit, A_efd⟩ : Cs)) := c__root_at T I_Root C_name_of D__root_at
  have C_page_rows : Callee l.prog w K mg base "page_rows" 3 ["area", "number", "numbers"] (p_page_rows (⟨A_Refused, A_NoRoom, A_BookFull, A_Root, A_Volume, A_Book, A_einit, A_efd⟩ : Cs)) := c_page_rows T C_made_row C_page_place C_pages_of D_page_rows
  have C__law_size : Callee l.prog w K mg base "_law_size" 3 ["_law_source"] (p__law_size (⟨A_Refused, A_NoRoom, A_BookFull, A_Root, A_Volume, A_Book, A_einit, A_efd⟩ : Cs)) := c__law_size T C__law_one C__law_take D__law_size
  have C_book_of : Callee l.prog w K mg base "book_of" 4 ["numbers"] (p_book_of (⟨A_Refused, A_NoRoom, A_BookFull, A_Root, A_Volume, A_Book, A_einit, A_efd⟩ : Cs)) := c_book_of T I_Book I_Volume C__root_at C_name_of D_book_of
  have C_need_fitting : CalleeX l.prog w K mg base "need_fitting" 4 ["book"] (p_need_fitting (⟨A_Refused, A_NoRoom, A_BookFull, A_Root, A_Volume, A_Book, A_einit, A_efd⟩ : Cs)) := c_need_fitting T C_book_numbers D_need_fitting
  have C__law_fitting : Callee l.prog w K mg base "_law_fitting" 5 ["_law_book"] (p__law_fitting (⟨A_Refused, A_NoRoom, A_BookFull, A_Root, A_Volume, A_Book, A_einit, A_efd⟩ : Cs)) := c__law_fitting T C_need_fitting D__law_fitting
  exact ok_law T C__law_fitting C__law_numbers C__law_pool C__law_size C_book_numbers C_book_of C_page_rows C_pages_of F
end K11
open PySem PySem.W PyProof.Rows
set_option maxRecDepth 100000 in
set_option maxHeartbeats 0 in
theorem PySem.Challenge.cw_bornroots_k11_pages_and_full_books_holds : PySem.Challenge.rw_bornroots_k11_pages_and_full_books.Holds := by
  w_on; o_law; k_head; (case hw => w_witness2)
  k_fill
  refine DV.walk_dv (l := PySem.Challenge.rw_bornroots_k11_pages_and_full_books) (lvl := 6) rfl rfl ⟨rfl, by decide, by decide⟩ (fun w h Y => PySem.W.kIn_of Y) ?F
  case F =>
    intro w mg fa h KX G hmg
    refine' K11.all_mk KX G hmg ?b_ValueError ?b_enumerate ?b_int ?b_isinstance ?b_len ?b_max ?b_min ?b_range ?b_sorted ?b_tuple ?g_LETTERS ?g_MODULUS ?g_PAGE ?g_PAGES ?g_PAGE_NUMBERS ?g_ROOT_NUMBERS ?g_VOLUME_NUMBERS ?D_head_place ?D_page_place ?D_name_number ?D_name_of ?D_book_numbers ?D_book_of ?D_pages_of ?D_need_fitting ?D__root_numbers ?D__root_at ?D_check_of ?D_made_row ?D_page_rows ?D__law_pool ?D__law_take ?D__law_one ?D__law_numbers ?D__law_fitting ?D__law_size ?a_Refused ?ol_Refused ?orf_Refused ?osa_Refused ?oex_Refused ?oty_Refused ?okc_Refused ?ie_Refused ?nw_Refused ?eg_Refused ?ek_Refused ?ed_Refused ?ea_Refused ?em_Refused ?a_NoRoom ?ol_NoRoom ?orf_NoRoom ?osa_NoRoom ?oex_NoRoom ?oty_NoRoom ?okc_NoRoom ?ie_NoRoom ?nw_NoRoom ?eg_NoRoom ?ek_NoRoom ?ed_NoRoom ?ea_NoRoom ?em_NoRoom ?a_BookFull ?ol_BookFull ?orf_BookFull ?osa_BookFull ?oex_BookFull ?oty_BookFull ?okc_BookFull ?ie_BookFull ?nw_BookFull ?eg_BookFull ?ek_BookFull ?ed_BookFull ?ea_BookFull ?em_BookFull ?a_Root ?pg_Root ?hd_Root ?po_Root ?sa_Root ?mk_Root ?kc_Root ?na_Root_ident ?na_Root_volume ?na_Root_snap ?na_Root_prev ?na_Root_time ?na_Root_mark ?na_Root_top ?na_Root_dead ?a_Volume ?pg_Volume ?hd_Volume ?po_Volume ?sa_Volume ?mk_Volume ?kc_Volume ?na_Volume_name ?na_Volume_quota ?na_Volume_head ?a_Book ?pg_Book ?hd_Book ?po_Book ?sa_Book ?mk_Book ?kc_Book ?na_Book_next_id ?na_Book_volumes ?na_Book_roots ?xn ?xt ?ti ?einL ?einD ?einC ?einK ?exs_BookFull_BookFull ?kis_BookFull_NoRoom ?neq_BookFull_NoRoom ?kis_BookFull_Refused ?kis_BookFull_ValueError ?a_Root___init__ ?i_Root___init__ ?l_Root___init__ ?c_Root___init__ ?k_Root___init__ ?a_Volume___init__ ?i_Volume___init__ ?l_Volume___init__ ?c_Volume___init__ ?k_Volume___init__ ?a_Book___init__ ?i_Book___init__ ?l_Book___init__ ?c_Book___init__ ?k_Book___init__ ?aL ?lL ?cL ?kL
    (case b_ValueError => refine' PySem.W.mg_none_of KX G ?z_ValueError; (case z_ValueError => k_is))
    (case b_enumerate => refine' PySem.W.mg_none_of KX G ?z_enumerate; (case z_enumerate => k_is))
    (case b_int => refine' PySem.W.mg_none_of KX G ?z_int; (case z_int => k_is))
    (case b_isinstance => refine' PySem.W.mg_none_of KX G ?z_isinstance; (case z_isinstance => k_is))
    (case b_len => refine' PySem.W.mg_none_of KX G ?z_len; (case z_len => k_is))
    (case b_max => refine' PySem.W.mg_none_of KX G ?z_max; (case z_max => k_is))
    (case b_min => refine' PySem.W.mg_none_of KX G ?z_min; (case z_min => k_is))
    (case b_range => refine' PySem.W.mg_none_of KX G ?z_range; (case z_range => k_is))
    (case b_sorted => refine' PySem.W.mg_none_of KX G ?z_sorted; (case z_sorted => k_is))
    (case b_tuple => refine' PySem.W.mg_none_of KX G ?z_tuple; (case z_tuple => k_is))
    (case g_LETTERS => have zz := PySem.W.mg_of KX G (n := "LETTERS") (v := _) (by k_is); exact ⟨_, zz⟩)
    (case g_MODULUS => have zz := PySem.W.mg_of KX G (n := "MODULUS") (v := _) (by k_is); exact ⟨_, zz⟩)
    (case g_PAGE => have zz := PySem.W.mg_of KX G (n := "PAGE") (v := _) (by k_is); exact ⟨_, zz⟩)
    (case g_PAGES => have zz := PySem.W.mg_of KX G (n := "PAGES") (v := _) (by k_is); exact ⟨_, zz⟩)
    (case g_PAGE_NUMBERS => have zz := PySem.W.mg_of KX G (n := "PAGE_NUMBERS") (v := _) (by k_is); exact ⟨_, zz⟩)
    (case g_ROOT_NUMBERS => have zz := PySem.W.mg_of KX G (n := "ROOT_NUMBERS") (v := _) (by k_is); exact ⟨_, zz⟩)
    (case g_VOLUME_NUMBERS => have zz := PySem.W.mg_of KX G (n := "VOLUME_NUMBERS") (v := _) (by k_is); exact ⟨_, zz⟩)
    (case D_head_place => refine' DV.DefAt.of KX G ?a_Dhead_place ?l_Dhead_place ?c_Dhead_place ?k_Dhead_place; (case a_Dhead_place => k_is); (case l_Dhead_place => k_is); (case c_Dhead_place => k_is); (case k_Dhead_place => k_is))
    (case D_page_place => refine' DV.DefAt.of KX G ?a_Dpage_place ?l_Dpage_place ?c_Dpage_place ?k_Dpage_place; (case a_Dpage_place => k_is); (case l_Dpage_place => k_is); (case c_Dpage_place => k_is); (case k_Dpage_place => k_is))
    (case D_name_number => refine' DV.DefAt.of KX G ?a_Dname_number ?l_Dname_number ?c_Dname_number ?k_Dname_number; (case a_Dname_number => k_is); (case l_Dname_number => k_is); (case c_Dname_number => k_is); (case k_Dname_number => k_is))
    (case D_name_of => refine' DV.DefAt.of KX G ?a_Dname_of ?l_Dname_of ?c_Dname_of ?k_Dname_of; (case a_Dname_of => k_is); (case l_Dname_of => k_is); (case c_Dname_of => k_is); (case k_Dname_of => k_is))
    (case D_book_numbers => refine' DV.DefAt.of KX G ?a_Dbook_numbers ?l_Dbook_numbers ?c_Dbook_numbers ?k_Dbook_numbers; (case a_Dbook_numbers => k_is); (case l_Dbook_numbers => k_is); (case c_Dbook_numbers => k_is); (case k_Dbook_numbers => k_is))
    (case D_book_of => refine' DV.DefAt.of KX G ?a_Dbook_of ?l_Dbook_of ?c_Dbook_of ?k_Dbook_of; (case a_Dbook_of => k_is); (case l_Dbook_of => k_is); (case c_Dbook_of => k_is); (case k_Dbook_of => k_is))
    (case D_pages_of => refine' DV.DefAt.of KX G ?a_Dpages_of ?l_Dpages_of ?c_Dpages_of ?k_Dpages_of; (case a_Dpages_of => k_is); (case l_Dpages_of => k_is); (case c_Dpages_of => k_is); (case k_Dpages_of => k_is))
    (case D_need_fitting => refine' DV.DefAt.of KX G ?a_Dneed_fitting ?l_Dneed_fitting ?c_Dneed_fitting ?k_Dneed_fitting; (case a_Dneed_fitting => k_is); (case l_Dneed_fitting => k_is); (case c_Dneed_fitting => k_is); (case k_Dneed_fitting => k_is))
    (case D__root_numbers => refine' DV.DefAt.of KX G ?a_D_root_numbers ?l_D_root_numbers ?c_D_root_numbers ?k_D_root_numbers; (case a_D_root_numbers => k_is); (case l_D_root_numbers => k_is); (case c_D_root_numbers => k_is); (case k_D_root_numbers => k_is))
    (case D__root_at => refine' DV.DefAt.of KX G ?a_D_root_at ?l_D_root_at ?c_D_root_at ?k_D_root_at; (case a_D_root_at => k_is); (case l_D_root_at => k_is); (case c_D_root_at => k_is); (case k_D_root_at => k_is))
    (case D_check_of => refine' DV.DefAt.of KX G ?a_Dcheck_of ?l_Dcheck_of ?c_Dcheck_of ?k_Dcheck_of; (case a_Dcheck_of => k_is); (case l_Dcheck_of => k_is); (case c_Dcheck_of => k_is); (case k_Dcheck_of => k_is))
    (case D_made_row => refine' DV.DefAt.of KX G ?a_Dmade_row ?l_Dmade_row ?c_Dmade_row ?k_Dmade_row; (case a_Dmade_row => k_is); (case l_Dmade_row => k_is); (case c_Dmade_row => k_is); (case k_Dmade_row => k_is))
    (case D_page_rows => refine' DV.DefAt.of KX G ?a_Dpage_rows ?l_Dpage_rows ?c_Dpage_rows ?k_Dpage_rows; (case a_Dpage_rows => k_is); (case l_Dpage_rows => k_is); (case c_Dpage_rows => k_is); (case k_Dpage_rows => k_is))
    (case D__law_pool => refine' DV.DefAt.of KX G ?a_D_law_pool ?l_D_law_pool ?c_D_law_pool ?k_D_law_pool; (case a_D_law_pool => k_is); (case l_D_law_pool => k_is); (case c_D_law_pool => k_is); (case k_D_law_pool => k_is))
    (case D__law_take => refine' DV.DefAt.of KX G ?a_D_law_take ?l_D_law_take ?c_D_law_take ?k_D_law_take; (case a_D_law_take => k_is); (case l_D_law_take => k_is); (case c_D_law_take => k_is); (case k_D_law_take => k_is))
    (case D__law_one => refine' DV.DefAt.of KX G ?a_D_law_one ?l_D_law_one ?c_D_law_one ?k_D_law_one; (case a_D_law_one => k_is); (case l_D_law_one => k_is); (case c_D_law_one => k_is); (case k_D_law_one => k_is))
    (case D__law_numbers => refine' DV.DefAt.of KX G ?a_D_law_numbers ?l_D_law_numbers ?c_D_law_numbers ?k_D_law_numbers; (case a_D_law_numbers => k_is); (case l_D_law_numbers => k_is); (case c_D_law_numbers => k_is); (case k_D_law_numbers => k_is))
    (case D__law_fitting => refine' DV.DefAt.of KX G ?a_D_law_fitting ?l_D_law_fitting ?c_D_law_fitting ?k_D_law_fitting; (case a_D_law_fitting => k_is); (case l_D_law_fitting => k_is); (case c_D_law_fitting => k_is); (case k_D_law_fitting => k_is))
    (case D__law_size => refine' DV.DefAt.of KX G ?a_D_law_size ?l_D_law_size ?c_D_law_size ?k_D_law_size; (case a_D_law_size => k_is); (case l_D_law_size => k_is); (case c_D_law_size => k_is); (case k_D_law_size => k_is))
    (case a_Refused => k_is)
    (case ol_Refused => k_is)
    (case orf_Refused => decide +kernel)
    (case osa_Refused => k_is)
    (case oex_Refused => k_is)
    (case oty_Refused => k_is)
    (case okc_Refused => k_is)
    (case ie_Refused => k_is)
    (case nw_Refused => k_is)
    (case eg_Refused => k_is)
    (case ek_Refused => k_is)
    (case ed_Refused => k_is)
    (case ea_Refused => k_is)
    (case em_Refused => k_is)
    (case a_NoRoom => k_is)
    (case ol_NoRoom => k_is)
    (case orf_NoRoom => decide +kernel)
    (case osa_NoRoom => k_is)
    (case oex_NoRoom => k_is)
    (case oty_NoRoom => k_is)
    (case okc_NoRoom => k_is)
    (case ie_NoRoom => k_is)
    (case nw_NoRoom => k_is)
    (case eg_NoRoom => k_is)
    (case ek_NoRoom => k_is)
    (case ed_NoRoom => k_is)
    (case ea_NoRoom => k_is)
    (case em_NoRoom => k_is)
    (case a_BookFull => k_is)
    (case ol_BookFull => k_is)
    (case orf_BookFull => decide +kernel)
    (case osa_BookFull => k_is)
    (case oex_BookFull => k_is)
    (case oty_BookFull => k_is)
    (case okc_BookFull => k_is)
    (case ie_BookFull => k_is)
    (case nw_BookFull => k_is)
    (case eg_BookFull => k_is)
    (case ek_BookFull => k_is)
    (case ed_BookFull => k_is)
    (case ea_BookFull => k_is)
    (case em_BookFull => k_is)
    (case a_Root => k_is)
    (case pg_Root => k_is)
    (case hd_Root => k_is)
    (case po_Root => k_is)
    (case sa_Root => k_is)
    (case mk_Root => k_is)
    (case kc_Root => k_is)
    (case na_Root_ident => k_is)
    (case na_Root_volume => k_is)
    (case na_Root_snap => k_is)
    (case na_Root_prev => k_is)
    (case na_Root_time => k_is)
    (case na_Root_mark => k_is)
    (case na_Root_top => k_is)
    (case na_Root_dead => k_is)
    (case a_Volume => k_is)
    (case pg_Volume => k_is)
    (case hd_Volume => k_is)
    (case po_Volume => k_is)
    (case sa_Volume => k_is)
    (case mk_Volume => k_is)
    (case kc_Volume => k_is)
    (case na_Volume_name => k_is)
    (case na_Volume_quota => k_is)
    (case na_Volume_head => k_is)
    (case a_Book => k_is)
    (case pg_Book => k_is)
    (case hd_Book => k_is)
    (case po_Book => k_is)
    (case sa_Book => k_is)
    (case mk_Book => k_is)
    (case kc_Book => k_is)
    (case na_Book_next_id => k_is)
    (case na_Book_volumes => k_is)
    (case na_Book_roots => k_is)
    (case xn => k_is)
    (case xt => k_is)
    (case ti => k_is)
    (case einL => k_is)
    (case einD => rfl)
    (case einC => k_is)
    (case einK => k_is)
    (case exs_BookFull_BookFull => k_is)
    (case kis_BookFull_NoRoom => k_is)
    (case neq_BookFull_NoRoom => decide +kernel)
    (case kis_BookFull_Refused => k_is)
    (case kis_BookFull_ValueError => k_is)
    (case a_Root___init__ => k_is)
    (case i_Root___init__ => k_is)
    (case l_Root___init__ => k_is)
    (case c_Root___init__ => k_is)
    (case k_Root___init__ => k_is)
    (case a_Volume___init__ => k_is)
    (case i_Volume___init__ => k_is)
    (case l_Volume___init__ => k_is)
    (case c_Volume___init__ => k_is)
    (case k_Volume___init__ => k_is)
    (case a_Book___init__ => k_is)
    (case i_Book___init__ => k_is)
    (case l_Book___init__ => k_is)
    (case c_Book___init__ => k_is)
    (case k_Book___init__ => k_is)
    (case aL => k_is); (case lL => k_is); (case cL => k_is); (case kL => k_is)
