import PyProof.Rows.All
import Wide.All
import OpenK.AllK
import Wide.FinOn
import HandS.ForMost
import HandS.Walk
import HandS.TupAny
import HandS.Star
import HandS.Defaults
import HandS.TupLe
import HandS.WordsExc
import HandS.Flow
import KE.GoesEnumKw
import HandS.Codes
import HandS.Style
import PySem.Challenge.RW_bornroots_k01_halves_not_good
set_option Elab.async false
set_option linter.all false
set_option maxRecDepth 100000
namespace DV
open PySem PySem.Spec PyProof.Rows L2

/-- pure data -/
inductive D where
  | non | bl (b : Bool) | int (i : Int) | str (x : Str) | ty (n : String) | ref (a : Addr)
  | tup (ds : List D) | lst (ds : List D) | lsr (ds : List D) | dct (kvs : List (Key × D)) | dcT (kvs : List (List Key × D)) | obj (C : Addr) (fs : List (Str × D))
/-- a value: pure data, or the n-th of the things that may change -/
inductive SV where | d (x : D) | m (n : Nat)
/-- what stands in a thing that may change -/
inductive MO where
  | lst (xs : List SV) | dct (kvs : List (Key × SV)) | dcT (kvs : List (List Key × SV)) | obj (C : Addr) (fs : List (Str × SV)) | dead

abbrev DEnv := List (Option SV)
abbrev DSt := List MO

mutual
inductive Rep (K : PySem.W.Frag) (G : Hp) : V → D → Prop
  | non : Rep K G .non .non
  | bl (b : Bool) : Rep K G (.bl b) (.bl b)
  | int (i : Int) : Rep K G (.int i) (.int i)
  | str (x : Str) : Rep K G (.str x) (.str x)
  | ty (n : String) : Rep K G (.ty n) (.ty n)
  | ref (a : Addr) : Rep K G (.ref a) (.ref a)
  | tup {a : Addr} {xs : List V} {ds : List D} : SqT K G a xs → Reps K G xs ds → Rep K G (.ref a) (.tup ds)
  | lst {a : Addr} {xs : List V} {ds : List D} : G a = some (.lst xs) → Reps K G xs ds → Rep K G (.ref a) (.lst ds)
  | lsr {a : Addr} {xs : List V} {ds : List D} : SqL K G a xs → Reps K G xs ds → Rep K G (.ref a) (.lsr ds)
  | dct {a : Addr} {ws : List (Key × V)} {kvs : List (Key × D)} : Rd G a (.dK ws) → ws.map Prod.fst = kvs.map Prod.fst → Reps K G (ws.map Prod.snd) (kvs.map Prod.snd) → Rep K G (.ref a) (.dct kvs)
  | dcT {a : Addr} {ws : List (List Key × V)} {kvs : List (List Key × D)} : Rd G a (.dT ws) → ws.map Prod.fst = kvs.map Prod.fst → Reps K G (ws.map Prod.snd) (kvs.map Prod.snd) → Rep K G (.ref a) (.dcT kvs)
  | obj {a C dx : Addr} {ws : List (Str × V)} {fs : List (Str × D)} : G a = some (.ins C dx ws) → ws.map Prod.fst = fs.map Prod.fst → Reps K G (ws.map Prod.snd) (fs.map Prod.snd) → Rep K G (.ref a) (.obj C fs)
inductive Reps (K : PySem.W.Frag) (G : Hp) : List V → List D → Prop
  | nil : Reps K G [] []
  | cons {v : V} {vs : List V} {d : D} {ds : List D} : Rep K G v d → Reps K G vs ds → Reps K G (v :: vs) (d :: ds)
end

/-- G' knows all that G knows -/
def Sub (G G' : Hp) : Prop := ∀ a o, G a = some o → G' a = some o
theorem Sub.refl (G : Hp) : Sub G G := fun _ _ h => h
theorem Sub.trans {G G1 G2 : Hp} (a : Sub G G1) (b : Sub G1 G2) : Sub G G2 := fun c o h => b c o (a c o h)
theorem Sub.rd {G G' : Hp} {a : Addr} {u : HO} (e : Sub G G') (h : Rd G a u) : Rd G' a u := by
  rcases h with h | ⟨o, h⟩
  · exact .inl (e _ _ h)
  · exact .inr ⟨o, e _ _ h⟩
theorem Sub.sql {K : PySem.W.Frag} {G G' : Hp} {a : Addr} {xs : List V} (e : Sub G G') (h : SqL K G a xs) : SqL K G' a xs := by
  rcases h with h | h
  · exact .inl (e.rd h)
  · exact .inr h
theorem Sub.sqt {K : PySem.W.Frag} {G G' : Hp} {a : Addr} {xs : List V} (e : Sub G G') (h : SqT K G a xs) : SqT K G' a xs := by
  rcases h with h | h
  · exact .inl (e.rd h)
  · exact .inr h

mutual
theorem Rep.mono {K : PySem.W.Frag} {G G' : Hp} (e : Sub G G') : ∀ {v : V} {d : D}, Rep K G v d → Rep K G' v d
  | _, _, .non => .non
  | _, _, .bl b => .bl b
  | _, _, .int i => .int i
  | _, _, .str x => .str x
  | _, _, .ty n => .ty n
  | _, _, .ref a => .ref a
  | _, _, .tup h r => .tup (e.sqt h) (Reps.mono e r)
  | _, _, .lst h r => .lst (e _ _ h) (Reps.mono e r)
  | _, _, .lsr h r => .lsr (e.sql h) (Reps.mono e r)
  | _, _, .dct h k r => .dct (e.rd h) k (Reps.mono e r)
  | _, _, .dcT h k r => .dcT (e.rd h) k (Reps.mono e r)
  | _, _, .obj h k r => .obj (e _ _ h) k (Reps.mono e r)
theorem Reps.mono {K : PySem.W.Frag} {G G' : Hp} (e : Sub G G') : ∀ {vs : List V} {ds : List D}, Reps K G vs ds → Reps K G' vs ds
  | _, _, .nil => .nil
  | _, _, .cons h r => .cons (Rep.mono e h) (Reps.mono e r)
end

section
variable {K : PySem.W.Frag} {G : Hp}
theorem Reps.length : ∀ {vs : List V} {ds : List D}, Reps K G vs ds → vs.length = ds.length
  | _, _, .nil => rfl
  | _, _, .cons _ r => congrArg (· + 1) (Reps.length r)
theorem Reps.get : ∀ {vs : List V} {ds : List D} {i : Nat} {x : D}, Reps K G vs ds → ds[i]? = some x → ∃ v, vs[i]? = some v ∧ Rep K G v x
  | _, _, _, _, .nil, e => by simp at e
  | _, _, 0, _, .cons r _, e => by simp at e; subst e; exact ⟨_, rfl, r⟩
  | _, _, i + 1, x, .cons _ t, e => by
    obtain ⟨u, h1, h2⟩ := Reps.get (i := i) (x := x) t (by simpa using e)
    exact ⟨u, by simpa using h1, h2⟩
theorem Reps.getV : ∀ {vs : List V} {ds : List D} {i : Nat} {v : V}, Reps K G vs ds → vs[i]? = some v → ∃ x, ds[i]? = some x ∧ Rep K G v x
  | _, _, _, _, .nil, e => by simp at e
  | _, _, 0, _, .cons r _, e => by simp at e; subst e; exact ⟨_, rfl, r⟩
  | _, _, i + 1, x, .cons _ t, e => by
    obtain ⟨u, h1, h2⟩ := Reps.getV (i := i) (v := x) t (by simpa using e)
    exact ⟨u, by simpa using h1, h2⟩
theorem Reps.append : ∀ {vs ws : List V} {ds es : List D}, Reps K G vs ds → Reps K G ws es → Reps K G (vs ++ ws) (ds ++ es)
  | _, _, _, _, .nil, s => s
  | _, _, _, _, .cons r t, s => .cons r (Reps.append t s)
theorem Reps.take : ∀ {vs : List V} {ds : List D} (n : Nat), Reps K G vs ds → Reps K G (vs.take n) (ds.take n)
  | _, _, 0, _ => .nil
  | _, _, _ + 1, .nil => .nil
  | _, _, n + 1, .cons r t => .cons r (Reps.take n t)
theorem Reps.drop : ∀ {vs : List V} {ds : List D} (n : Nat), Reps K G vs ds → Reps K G (vs.drop n) (ds.drop n)
  | _, _, 0, r => r
  | _, _, _ + 1, .nil => .nil
  | _, _, n + 1, .cons _ t => Reps.drop n t
theorem Reps.rev {vs : List V} {ds : List D} (h : Reps K G vs ds) : Reps K G vs.reverse ds.reverse := by
  match vs, ds, h with
  | _, _, .nil => exact .nil
  | _, _, .cons r t => rw [List.reverse_cons, List.reverse_cons]; exact (Reps.rev t).append (.cons r .nil)
theorem Reps.ints {ns : List Int} : Reps K G (ns.map V.int) (ns.map D.int) := by
  induction ns with
  | nil => exact .nil
  | cons n r ih => exact .cons (.int n) ih
theorem Reps.ints_inv : ∀ {vs : List V} {ns : List Int}, Reps K G vs (ns.map D.int) → vs = ns.map V.int
  | _, [], .nil => rfl
  | _, n :: ns, .cons r t => by
    cases r
    rw [Reps.ints_inv t]
    rfl
end

/-! ### things that may change -/
/-- where they stand, by their numbers; the lists that are being made -/
structure Mk where
  ids : List (Option Addr)
  hid : List Addr
/-- the heap without these -/
def wo (M : Mk) (H : Hp) : Hp := fun a => if some a ∈ M.ids ∨ a ∈ M.hid then none else H a
theorem wo_sub (M : Mk) (H : Hp) : Sub (wo M H) H := fun a o h => by
  unfold wo at h
  split at h
  · cases h
  · exact h
theorem wo_some {M : Mk} {H : Hp} {a : Addr} {o : HO} (h : H a = some o) (n : some a ∉ M.ids) (n' : a ∉ M.hid) : wo M H a = some o := by
  unfold wo
  rw [if_neg (fun z => z.elim n n')]
  exact h
theorem wo_in {M : Mk} {H : Hp} {a : Addr} {o : HO} (h : wo M H a = some o) : H a = some o ∧ some a ∉ M.ids ∧ a ∉ M.hid := by
  unfold wo at h
  split at h
  · cases h
  · rename_i q
    exact ⟨h, fun z => q (.inl z), fun z => q (.inr z)⟩

inductive SRep (K : PySem.W.Frag) (M : Mk) (G : Hp) : V → SV → Prop
  | d {v : V} {x : D} : Rep K G v x → SRep K M G v (.d x)
  | m {n : Nat} {a : Addr} : M.ids[n]? = some (some a) → SRep K M G (.ref a) (.m n)
inductive SReps (K : PySem.W.Frag) (M : Mk) (G : Hp) : List V → List SV → Prop
  | nil : SReps K M G [] []
  | cons {v : V} {vs : List V} {x : SV} {xs : List SV} : SRep K M G v x → SReps K M G vs xs → SReps K M G (v :: vs) (x :: xs)
/-- the ids keep their addresses -/
def Ids (M M' : Mk) : Prop := ∀ (n : Nat) (a : Addr), M.ids[n]? = some (some a) → M'.ids[n]? = some (some a)
theorem Ids.refl (M : Mk) : Ids M M := fun _ _ h => h
theorem Ids.trans {M M1 M2 : Mk} (a : Ids M M1) (b : Ids M1 M2) : Ids M M2 := fun n c h => b n c (a n c h)
theorem SRep.mono {K : PySem.W.Frag} {M M' : Mk} {G G' : Hp} (i : Ids M M') (e : Sub G G') {v : V} {x : SV} (h : SRep K M G v x) : SRep K M' G' v x := by
  cases h with
  | d h => exact .d (h.mono e)
  | m h => exact .m (i _ _ h)
theorem SReps.mono {K : PySem.W.Frag} {M M' : Mk} {G G' : Hp} (i : Ids M M') (e : Sub G G') : ∀ {vs : List V} {xs : List SV}, SReps K M G vs xs → SReps K M' G' vs xs
  | _, _, .nil => .nil
  | _, _, .cons h r => .cons (h.mono i e) (SReps.mono i e r)
section
variable {K : PySem.W.Frag} {M : Mk} {G : Hp}
theorem SReps.length : ∀ {vs : List V} {ds : List SV}, SReps K M G vs ds → vs.length = ds.length
  | _, _, .nil => rfl
  | _, _, .cons _ r => congrArg (· + 1) (SReps.length r)
theorem SReps.get : ∀ {vs : List V} {ds : List SV} {i : Nat} {x : SV}, SReps K M G vs ds → ds[i]? = some x → ∃ v, vs[i]? = some v ∧ SRep K M G v x
  | _, _, _, _, .nil, e => by simp at e
  | _, _, 0, _, .cons r _, e => by simp at e; subst e; exact ⟨_, rfl, r⟩
  | _, _, i + 1, x, .cons _ t, e => by
    obtain ⟨u, h1, h2⟩ := SReps.get (i := i) (x := x) t (by simpa using e)
    exact ⟨u, by simpa using h1, h2⟩
theorem SReps.getV : ∀ {vs : List V} {ds : List SV} {i : Nat} {v : V}, SReps K M G vs ds → vs[i]? = some v → ∃ x, ds[i]? = some x ∧ SRep K M G v x
  | _, _, _, _, .nil, e => by simp at e
  | _, _, 0, _, .cons r _, e => by simp at e; subst e; exact ⟨_, rfl, r⟩
  | _, _, i + 1, x, .cons _ t, e => by
    obtain ⟨u, h1, h2⟩ := SReps.getV (i := i) (v := x) t (by simpa using e)
    exact ⟨u, by simpa using h1, h2⟩
theorem SReps.append : ∀ {vs ws : List V} {ds es : List SV}, SReps K M G vs ds → SReps K M G ws es → SReps K M G (vs ++ ws) (ds ++ es)
  | _, _, _, _, .nil, s => s
  | _, _, _, _, .cons r t, s => .cons r (SReps.append t s)
theorem SReps.set {v : V} {x : SV} (r : SRep K M G v x) : ∀ {vs : List V} {xs : List SV} (i : Nat), SReps K M G vs xs → SReps K M G (vs.set i v) (xs.set i x)
  | _, _, _, .nil => .nil
  | _, _, 0, .cons _ t => .cons r t
  | _, _, i + 1, .cons q t => .cons q (SReps.set r i t)
/-- all of it pure -/
theorem SReps.pure : ∀ {vs : List V} {ds : List D}, SReps K M G vs (ds.map SV.d) → Reps K G vs ds
  | _, [], .nil => .nil
  | _, d :: ds, .cons r t => by
    cases r with
    | d h => exact .cons h (SReps.pure t)
theorem SReps.of : ∀ {vs : List V} {ds : List D}, Reps K G vs ds → SReps K M G vs (ds.map SV.d)
  | _, _, .nil => .nil
  | _, _, .cons r t => .cons (.d r) (SReps.of t)
end
/-- what stands at a -/
def MRep (K : PySem.W.Frag) (M : Mk) (G H : Hp) (a : Addr) : MO → Prop
  | .lst xs => ∃ vs, H a = some (.lst vs) ∧ SReps K M G vs xs
  | .dct kvs => ∃ ws : List (Key × V), H a = some (.dK ws) ∧ ws.map Prod.fst = kvs.map Prod.fst ∧ SReps K M G (ws.map Prod.snd) (kvs.map Prod.snd)
  | .dcT kvs => ∃ ws : List (List Key × V), H a = some (.dT ws) ∧ ws.map Prod.fst = kvs.map Prod.fst ∧ SReps K M G (ws.map Prod.snd) (kvs.map Prod.snd)
  | .obj C fs => ∃ (dx : Addr) (ws : List (Str × V)), H a = some (.ins C dx ws) ∧ ws.map Prod.fst = fs.map Prod.fst ∧ SReps K M G (ws.map Prod.snd) (fs.map Prod.snd)
  | .dead => False
theorem MRep.mono {K : PySem.W.Frag} {M M' : Mk} {G G' H H' : Hp} {a : Addr} (i : Ids M M') (e : Sub G G') (ha : ∀ o, H a = some o → H' a = some o) : ∀ {mo : MO}, MRep K M G H a mo → MRep K M' G' H' a mo
  | .lst _, ⟨vs, h, r⟩ => ⟨vs, ha _ h, r.mono i e⟩
  | .dct _, ⟨ws, h, k, r⟩ => ⟨ws, ha _ h, k, r.mono i e⟩
  | .dcT _, ⟨ws, h, k, r⟩ => ⟨ws, ha _ h, k, r.mono i e⟩
  | .obj _ _, ⟨dx, ws, h, k, r⟩ => ⟨dx, ws, ha _ h, k, r.mono i e⟩
  | .dead, h => h.elim
theorem MRep.some {K : PySem.W.Frag} {M : Mk} {G H : Hp} {a : Addr} : ∀ {mo : MO}, MRep K M G H a mo → ∃ o, H a = some o
  | .lst _, ⟨_, h, _⟩ => ⟨_, h⟩
  | .dct _, ⟨_, h, _⟩ => ⟨_, h⟩
  | .dcT _, ⟨_, h, _⟩ => ⟨_, h⟩
  | .obj _ _, ⟨_, _, h, _⟩ => ⟨_, h⟩
  | .dead, h => h.elim

/-- the heap is what the store says -/
structure Wd (K : PySem.W.Frag) (M : Mk) (H : Hp) (μ : DSt) : Prop where
  len : M.ids.length = μ.length
  inj : ∀ (i j : Nat) (a : Addr), M.ids[i]? = some (some a) → M.ids[j]? = some (some a) → i = j
  ob : ∀ (n : Nat) (a : Addr), M.ids[n]? = some (some a) → ∃ mo, μ[n]? = some mo ∧ MRep K M (wo M H) H a mo
  hid : ∀ a ∈ M.hid, some a ∉ M.ids ∧ H a ≠ none
/-- later -/
structure Le (M : Mk) (H : Hp) (M' : Mk) (H' : Hp) : Prop where
  ids : Ids M M'
  len : M.ids.length ≤ M'.ids.length
  sub : Sub (wo M H) (wo M' H')
  all : ∀ a, H a ≠ none → H' a ≠ none
  hid : ∀ a ∈ M.hid, a ∈ M'.hid ∧ H' a = H a
theorem Le.refl (M : Mk) (H : Hp) : Le M H M H := ⟨Ids.refl M, Nat.le_refl _, Sub.refl _, fun _ h => h, fun _ h => ⟨h, rfl⟩⟩
theorem Le.trans {M M1 M2 : Mk} {H H1 H2 : Hp} (a : Le M H M1 H1) (b : Le M1 H1 M2 H2) : Le M H M2 H2 :=
  ⟨a.ids.trans b.ids, Nat.le_trans a.len b.len, a.sub.trans b.sub, fun c h => b.all c (a.all c h), fun c h => ⟨(b.hid c (a.hid c h).1).1, ((b.hid c (a.hid c h).1).2).trans (a.hid c h).2⟩⟩
theorem Le.srep {K : PySem.W.Frag} {M M' : Mk} {H H' : Hp} (l : Le M H M' H') {v : V} {x : SV} (h : SRep K M (wo M H) v x) : SRep K M' (wo M' H') v x := h.mono l.ids l.sub
theorem Le.sreps {K : PySem.W.Frag} {M M' : Mk} {H H' : Hp} (l : Le M H M' H') {v : List V} {x : List SV} (h : SReps K M (wo M H) v x) : SReps K M' (wo M' H') v x := h.mono l.ids l.sub
theorem mem_of_get {M : Mk} {n : Nat} {a : Addr} (h : M.ids[n]? = some (some a)) : some a ∈ M.ids := List.mem_of_getElem? h
theorem get_of_mem {M : Mk} {a : Addr} (h : some a ∈ M.ids) : ∃ n : Nat, M.ids[n]? = some (some a) := List.getElem?_of_mem h
theorem upd_some {H : Hp} {p : Addr} {o : HO} : ∀ a, H a ≠ none → upd H p o a ≠ none := fun a ha => by
  by_cases e : a = p
  · rw [e, upd_same]; intro z; cases z
  · rw [upd_ne e]; exact ha
section
variable {K : PySem.W.Frag} {M : Mk} {H : Hp} {μ : DSt} {p : Addr} {o : HO}
theorem Wd.fresh (W : Wd K M H μ) (h : H p = none) : some p ∉ M.ids := fun hm => by
  obtain ⟨n, e⟩ := get_of_mem hm
  obtain ⟨mo, _, r⟩ := W.ob n p e
  obtain ⟨o, ho⟩ := r.some
  rw [h] at ho
  cases ho
theorem Wd.freshH (W : Wd K M H μ) (h : H p = none) : p ∉ M.hid := fun hm => (W.hid p hm).2 h
theorem wo_new (h : H p = none) : Sub (wo M H) (wo M (upd H p o)) := fun a u e => by
  obtain ⟨e1, e2, e3⟩ := wo_in e
  exact wo_some (by rw [upd_ne (ne_of_none e1 h)]; exact e1) e2 e3
theorem le_new (W : Wd K M H μ) (h : H p = none) : Le M H M (upd H p o) := ⟨Ids.refl M, Nat.le_refl _, wo_new h, upd_some, fun a ha => ⟨ha, upd_ne fun z => W.freshH h (z ▸ ha)⟩⟩
theorem wo_at (W : Wd K M H μ) (h : H p = none) : wo M (upd H p o) p = some o := wo_some upd_same (W.fresh h) (W.freshH h)
theorem wd_new (W : Wd K M H μ) (h : H p = none) : Wd K M (upd H p o) μ := by
  refine ⟨W.len, W.inj, fun n a e => ?_, fun a ha => ⟨(W.hid a ha).1, upd_some _ (W.hid a ha).2⟩⟩
  obtain ⟨mo, h1, r⟩ := W.ob n a e
  exact ⟨mo, h1, r.mono (Ids.refl M) (wo_new h) fun o q => by rw [upd_ne (ne_of_none q h)]; exact q⟩
/-- a thing changes -/
theorem wo_set (hm : some p ∈ M.ids ∨ p ∈ M.hid) : wo M (upd H p o) = wo M H := by
  funext a
  unfold wo
  by_cases e : some a ∈ M.ids ∨ a ∈ M.hid
  · rw [if_pos e, if_pos e]
  · rw [if_neg e, if_neg e, upd_ne]
    intro z
    subst z
    exact e hm
theorem le_set (W : Wd K M H μ) (hm : some p ∈ M.ids) : Le M H M (upd H p o) := ⟨Ids.refl M, Nat.le_refl _, by rw [wo_set (.inl hm)]; exact Sub.refl _, upd_some, fun a ha => ⟨ha, upd_ne fun z => (W.hid a ha).1 (z ▸ hm)⟩⟩
theorem wd_set {n : Nat} {mo : MO} (W : Wd K M H μ) (hn : M.ids[n]? = some (some p)) (r : MRep K M (wo M H) (upd H p o) p mo) : Wd K M (upd H p o) (μ.set n mo) := by
  refine ⟨by rw [List.length_set]; exact W.len, W.inj, fun j a e => ?_, fun a ha => ⟨(W.hid a ha).1, upd_some _ (W.hid a ha).2⟩⟩
  by_cases hj : j = n
  · subst hj
    rw [hn] at e
    cases e
    refine ⟨mo, ?_, by rw [wo_set (.inl (mem_of_get hn))]; exact r⟩
    have hl : j < μ.length := by
      rw [← W.len]
      exact (List.getElem?_eq_some_iff.mp hn).1
    rw [List.getElem?_set_self hl]
  · obtain ⟨mo', h1, r'⟩ := W.ob j a e
    refine ⟨mo', by rw [List.getElem?_set_ne (Ne.symm hj)]; exact h1, ?_⟩
    rw [wo_set (.inl (mem_of_get hn))]
    exact r'.mono (Ids.refl M) (Sub.refl _) fun o q => by
      rw [upd_ne]
      · exact q
      · intro z
        subst z
        exact hj (W.inj j n a e hn)
/-- a list that is being made changes -/
theorem wd_hid (W : Wd K M H μ) (hp : p ∈ M.hid) : Wd K M (upd H p o) μ := by
  refine ⟨W.len, W.inj, fun j a e => ?_, fun a ha => ⟨(W.hid a ha).1, upd_some _ (W.hid a ha).2⟩⟩
  obtain ⟨mo', h1, r'⟩ := W.ob j a e
  refine ⟨mo', h1, ?_⟩
  rw [wo_set (.inr hp)]
  exact r'.mono (Ids.refl M) (Sub.refl _) fun o q => by
    rw [upd_ne]
    · exact q
    · intro z
      subst z
      exact (W.hid a hp).1 (mem_of_get e)
/-- a new thing that may change -/
def Mk.add (M : Mk) (p : Addr) : Mk := ⟨M.ids ++ [some p], M.hid⟩
theorem wo_newm (h : H p = none) : Sub (wo M H) (wo (M.add p) (upd H p o)) := fun a u e => by
  obtain ⟨e1, e2, e3⟩ := wo_in e
  have hne := ne_of_none e1 h
  refine wo_some (by rw [upd_ne hne]; exact e1) (fun hm => ?_) e3
  rcases List.mem_append.mp hm with hm | hm
  · exact e2 hm
  · have hm' := List.mem_singleton.mp hm
    exact hne (Option.some.inj hm')
theorem ids_newm : Ids M (M.add p) := fun n a e => by
  show (M.ids ++ [some p])[n]? = _
  rw [List.getElem?_append_left (List.getElem?_eq_some_iff.mp e).1]
  exact e
theorem le_newm (W : Wd K M H μ) (h : H p = none) : Le M H (M.add p) (upd H p o) := ⟨ids_newm, by show _ ≤ (M.ids ++ [some p]).length; rw [List.length_append]; exact Nat.le_add_right _ _, wo_newm h, upd_some, fun a ha => ⟨ha, upd_ne fun z => W.freshH h (z ▸ ha)⟩⟩
theorem at_newm : (M.add p).ids[M.ids.length]? = some (some p) := by
  show (M.ids ++ [some p])[M.ids.length]? = _
  rw [List.getElem?_append_right (Nat.le_refl _), Nat.sub_self]
  rfl
theorem wd_newm {mo : MO} (W : Wd K M H μ) (h : H p = none) (r : MRep K (M.add p) (wo (M.add p) (upd H p o)) (upd H p o) p mo) : Wd K (M.add p) (upd H p o) (μ ++ [mo]) := by
  have at_ : ∀ (j : Nat) (a : Addr), (M.add p).ids[j]? = some (some a) → (M.ids[j]? = some (some a) ∧ a ≠ p) ∨ (j = M.ids.length ∧ a = p) := fun j a e => by
    have e' : (M.ids ++ [some p])[j]? = some (some a) := e
    by_cases hj : j < M.ids.length
    · rw [List.getElem?_append_left hj] at e'
      refine .inl ⟨e', fun z => ?_⟩
      rw [z] at e'
      exact W.fresh h (mem_of_get e')
    · rw [List.getElem?_append_right (Nat.le_of_not_lt hj)] at e'
      have hk : j - M.ids.length = 0 := by
        have := (List.getElem?_eq_some_iff.mp e').1
        simp only [List.length_singleton] at this
        omega
      rw [hk] at e'
      exact .inr ⟨by omega, by simpa using e'.symm⟩
  refine ⟨by show (M.ids ++ [some p]).length = _; rw [List.length_append, List.length_append, W.len]; rfl, fun i j a e1 e2 => ?_, fun j a e => ?_, fun a ha => ⟨fun hm => ?_, upd_some _ (W.hid a ha).2⟩⟩
  · rcases at_ i a e1 with ⟨a1, n1⟩ | ⟨a1, b1⟩
    · rcases at_ j a e2 with ⟨a2, _⟩ | ⟨_, b2⟩
      · exact W.inj i j a a1 a2
      · exact absurd b2 n1
    · rcases at_ j a e2 with ⟨_, n2⟩ | ⟨a2, _⟩
      · exact absurd b1 n2
      · omega
  · rcases at_ j a e with ⟨a1, n1⟩ | ⟨a1, b1⟩
    · obtain ⟨mo', h1, r'⟩ := W.ob j a a1
      refine ⟨mo', by rw [List.getElem?_append_left (List.getElem?_eq_some_iff.mp h1).1]; exact h1, r'.mono ids_newm (wo_newm h) fun o q => by rw [upd_ne n1]; exact q⟩
    · subst b1
      refine ⟨mo, ?_, r⟩
      rw [a1, W.len, List.getElem?_append_right (Nat.le_refl _), Nat.sub_self]
      rfl
  · rcases List.mem_append.mp (show some a ∈ M.ids ++ [some p] from hm) with hm | hm
    · exact (W.hid a ha).1 hm
    · have hm' := Option.some.inj (List.mem_singleton.mp hm)
      subst hm'
      exact W.freshH h ha
/-- a list that is being made -/
def Mk.hide (M : Mk) (p : Addr) : Mk := ⟨M.ids, p :: M.hid⟩
theorem le_hide (W : Wd K M H μ) (h : H p = none) : Le M H (M.hide p) (upd H p o) := by
  refine ⟨Ids.refl _, Nat.le_refl _, fun a u e => ?_, upd_some, fun a ha => ⟨List.mem_cons_of_mem _ ha, upd_ne fun z => W.freshH h (z ▸ ha)⟩⟩
  obtain ⟨e1, e2, e3⟩ := wo_in e
  have hne := ne_of_none e1 h
  refine wo_some (by rw [upd_ne hne]; exact e1) e2 fun hm => ?_
  rcases List.mem_cons.mp hm with hm | hm
  · exact hne hm
  · exact e3 hm
theorem wd_hide (W : Wd K M H μ) (h : H p = none) : Wd K (M.hide p) (upd H p o) μ := by
  refine ⟨W.len, W.inj, fun n a e => ?_, fun a ha => ?_⟩
  · obtain ⟨mo, h1, r⟩ := W.ob n a e
    exact ⟨mo, h1, r.mono (M := M) (M' := M.hide p) (fun _ _ z => z) (le_hide W h).sub fun o q => by rw [upd_ne (ne_of_none q h)]; exact q⟩
  · rcases List.mem_cons.mp ha with hm | hm
    · rw [hm]
      exact ⟨W.fresh h, by rw [upd_same]; intro z; cases z⟩
    · exact ⟨(W.hid a hm).1, upd_some _ (W.hid a hm).2⟩
/-- it is made: what was hidden in M0 alone stays hidden -/
theorem le_made {M0 : Mk} {H0 : Hp} (l : Le (M0.hide p) H0 M H) (hs : Sub (wo M0 H0) (wo (M0.hide p) H0)) : Le M0 H0 ⟨M.ids, M0.hid⟩ H := by
  refine ⟨l.ids, l.len, fun a u e => ?_, l.all, fun a ha => ⟨ha, (l.hid a (List.mem_cons_of_mem _ ha)).2⟩⟩
  obtain ⟨e1, e2, _⟩ := wo_in (l.sub _ _ (hs _ _ e))
  exact wo_some e1 e2 (wo_in e).2.2
theorem wd_made {hs : List Addr} (W : Wd K M H μ) (h : ∀ a ∈ hs, a ∈ M.hid) : Wd K ⟨M.ids, hs⟩ H μ := by
  have sb : Sub (wo M H) (wo ⟨M.ids, hs⟩ H) := fun a u e => by
    obtain ⟨e1, e2, e3⟩ := wo_in e
    exact wo_some e1 e2 fun z => e3 (h a z)
  refine ⟨W.len, W.inj, fun n a e => ?_, fun a ha => W.hid a (h a ha)⟩
  obtain ⟨mo, h1, r⟩ := W.ob n a e
  exact ⟨mo, h1, r.mono (M := M) (M' := ⟨M.ids, hs⟩) (fun _ _ z => z) sb fun _ z => z⟩
end
end DV

set_option Elab.async false
set_option linter.all false
set_option maxRecDepth 100000
namespace DV
open PySem PySem.Spec PyProof.Rows L2

abbrev DK := SV → DSt → Prop
abbrev DTE := DEnv → DSt → DK → Prop
abbrev DTA := DEnv → DSt → (List SV → DSt → Prop) → Prop
abbrev DTT := DEnv → DSt → (Bool → DSt → Prop) → Prop
abbrev DX := Value → List (Str × D) → DSt → Prop
structure DEnds where
  nx : DEnv → DSt → Prop
  rt : DK
  bk : DEnv → DSt → Prop := fun _ _ => False
  ct : DEnv → DSt → Prop := fun _ _ => False
  fl : Nat := 0
abbrev DTS := DEnds → DEnv → DSt → Prop
abbrev DSp := List SV → DSt → DK → DX → Prop

structure EnvR (K : PySem.W.Frag) (M : Mk) (G : Hp) (σ : L2.St) (ε : DEnv) : Prop where
  len : σ.length = ε.length
  at_ : ∀ (i : Nat) (x : SV), ε[i]? = some (some x) → ∃ v, σ[i]? = some (some v) ∧ SRep K M G v x
def XRep (K : PySem.W.Frag) (G H : Hp) : Option Addr → List (Str × D) → Prop
  | none, fs => fs = []
  | some d, fs => ∃ ws : List (Str × V), H d = some (.xd ws) ∧ ws.map Prod.fst = fs.map Prod.fst ∧ Reps K G (ws.map Prod.snd) (fs.map Prod.snd)
/-- the entry; what is wished of errors -/
structure Bs where
  K : PySem.W.Frag
  E : XK
  Ψ : DX
/-- where one came from -/
structure Ba (B : Bs) where
  M0 : Mk
  H0 : Hp
  hE : ∀ (cls : Value) (dp : Option Addr) (M : Mk) (H : Hp) (fs : List (Str × D)) (μ : DSt), Le M0 H0 M H → Wd B.K M H μ → XRep B.K (wo M H) H dp fs → B.Ψ cls fs μ → B.E cls dp H
def Ba.move {B : Bs} (b : Ba B) {M : Mk} {H : Hp} (l : Le b.M0 b.H0 M H) : Ba B := ⟨M, H, fun cls dp M' H' fs μ l' => b.hE cls dp M' H' fs μ (l.trans l')⟩
structure At {B : Bs} (bb : Ba B) (M : Mk) (σ : L2.St) (H : Hp) (ε : DEnv) (μ : DSt) : Prop where
  le : Le bb.M0 bb.H0 M H
  wd : Wd B.K M H μ
  env : EnvR B.K M (wo M H) σ ε
/-- what is known of a value -/
abbrev Rv (B : Bs) (M : Mk) (H : Hp) (v : V) (x : SV) : Prop := SRep B.K M (wo M H) v x
abbrev Rvs (B : Bs) (M : Mk) (H : Hp) (v : List V) (x : List SV) : Prop := SReps B.K M (wo M H) v x

section
variable {B : Bs} {bb : Ba B} {M M' : Mk} {σ : L2.St} {H H' : Hp} {ε : DEnv} {μ μ' : DSt}
theorem EnvR.mono {K : PySem.W.Frag} {G G' : Hp} (i : Ids M M') (e : Sub G G') (h : EnvR K M G σ ε) : EnvR K M' G' σ ε := ⟨h.len, fun n x q => by
  obtain ⟨v, h1, r⟩ := h.at_ n x q
  exact ⟨v, h1, r.mono i e⟩⟩
theorem At.next (a : At bb M σ H ε μ) (l : Le M H M' H') (w : Wd B.K M' H' μ') : At bb M' σ H' ε μ' := ⟨a.le.trans l, w, a.env.mono l.ids l.sub⟩
theorem EnvR.set {K : PySem.W.Frag} {G : Hp} {v : V} {x : SV} (h : EnvR K M G σ ε) (i : Nat) (r : SRep K M G v x) : EnvR K M G (σ.set i (some v)) (ε.set i (some x)) := by
  refine ⟨by rw [List.length_set, List.length_set]; exact h.len, fun n y q => ?_⟩
  by_cases e : i = n
  · subst e
    have hl : i < ε.length := by
      have := (List.getElem?_eq_some_iff.mp q).1
      rw [List.length_set] at this
      exact this
    rw [List.getElem?_set_self hl] at q
    cases q
    exact ⟨v, List.getElem?_set_self (by rw [h.len]; exact hl), r⟩
  · rw [List.getElem?_set_ne e] at q
    rw [List.getElem?_set_ne e]
    exact h.at_ n y q
theorem At.set {v : V} {x : SV} (a : At bb M σ H ε μ) (i : Nat) (r : Rv B M H v x) : At bb M (σ.set i (some v)) H (ε.set i (some x)) μ := ⟨a.le, a.wd, a.env.set i r⟩
end

/-! ### the judgements -/
def SimE (B : Bs) (te : TE) (t : DTE) : Prop := ∀ (bb : Ba B) (M : Mk) (σ : L2.St) (H : Hp) (ε : DEnv) (μ : DSt) (Φ : DK) (Q : VK), At bb M σ H ε μ →
  (∀ v M' H' x μ', Le M H M' H' → Wd B.K M' H' μ' → Rv B M' H' v x → Φ x μ' → Q v H') → t ε μ Φ → te σ H Q
def SimA (B : Bs) (te : TA) (t : DTA) : Prop := ∀ (bb : Ba B) (M : Mk) (σ : L2.St) (H : Hp) (ε : DEnv) (μ : DSt) (Φ : List SV → DSt → Prop) (Q : List V → Hp → Prop), At bb M σ H ε μ →
  (∀ v M' H' x μ', Le M H M' H' → Wd B.K M' H' μ' → Rvs B M' H' v x → Φ x μ' → Q v H') → t ε μ Φ → te σ H Q
def SimT (B : Bs) (te : TT) (t : DTT) : Prop := ∀ (bb : Ba B) (M : Mk) (σ : L2.St) (H : Hp) (ε : DEnv) (μ : DSt) (Φ : Bool → DSt → Prop) (Q : Bool → Hp → Prop), At bb M σ H ε μ →
  (∀ b M' H' μ', Le M H M' H' → Wd B.K M' H' μ' → Φ b μ' → Q b H') → t ε μ Φ → te σ H Q
structure EndsR {B : Bs} (bb : Ba B) (Φ : DEnds) (D : Ends) : Prop where
  nx : ∀ M σ H ε μ, At bb M σ H ε μ → Φ.nx ε μ → D.nx σ H
  rt : ∀ v M H x μ, Le bb.M0 bb.H0 M H → Wd B.K M H μ → Rv B M H v x → Φ.rt x μ → D.rt v H
  bk : ∀ M σ H ε μ, At bb M σ H ε μ → Φ.bk ε μ → D.bk σ H
  ct : ∀ M σ H ε μ, At bb M σ H ε μ → Φ.ct ε μ → D.ct σ H
  fl : bb.M0.ids.length ≤ Φ.fl
def SimS (B : Bs) (ts : TS) (t : DTS) : Prop := ∀ (bb : Ba B) (M : Mk) (σ : L2.St) (H : Hp) (ε : DEnv) (μ : DSt) (Φ : DEnds) (D : Ends), At bb M σ H ε μ → EndsR bb Φ D → t Φ ε μ → ts D σ H
/-- a two-place operation by values -/
def SimR (B : Bs) (r : R2) (t : SV → SV → DSt → DK → Prop) : Prop := ∀ (M : Mk) (H : Hp) (μ : DSt) (v w : V) (x y : SV) (Φ : DK) (Q : VK), Wd B.K M H μ → Rv B M H v x → Rv B M H w y →
  (∀ v M' H' x μ', Le M H M' H' → Wd B.K M' H' μ' → Rv B M' H' v x → Φ x μ' → Q v H') → t x y μ Φ → r v w H Q
def SimC (B : Bs) (r : List V → Hp → VK → Prop) (t : List SV → DSt → DK → Prop) : Prop := ∀ (M : Mk) (H : Hp) (μ : DSt) (v : List V) (x : List SV) (Φ : DK) (Q : VK), Wd B.K M H μ → Rvs B M H v x →
  (∀ v M' H' x μ', Le M H M' H' → Wd B.K M' H' μ' → Rv B M' H' v x → Φ x μ' → Q v H') → t x μ Φ → r v H Q

structure DE (X : Cx) (B : Bs) (e : Expr) (u : TE) (t : DTE) : Prop where
  p : PE X e u
  s : SimE B u t
structure DA (X : Cx) (B : Bs) (e : List Expr) (u : TA) (t : DTA) : Prop where
  p : PA X e u
  s : SimA B u t
structure DT (X : Cx) (B : Bs) (e : Expr) (u : TT) (t : DTT) : Prop where
  p : PT X e u
  s : SimT B u t
structure DW (X : Cx) (B : Bs) (e : Expr) (u : TT) (t : DTT) : Prop where
  p : PW X e u
  s : SimT B u t
structure DS (X : Cx) (B : Bs) (e : Stmt) (u : TS) (t : DTS) : Prop where
  p : PS X e u
  s : SimS B u t
structure DSs (X : Cx) (B : Bs) (e : List Stmt) (u : TS) (t : DTS) : Prop where
  p : PSs X e u
  s : SimS B u t
abbrev DTG := SV → DEnv → DSt → (DEnv → DSt → Prop) → Prop
abbrev DTGs := List SV → DEnv → DSt → (DEnv → DSt → Prop) → Prop
def SimG (B : Bs) (u : TG) (g : DTG) : Prop := ∀ (bb : Ba B) (M : Mk) (σ : L2.St) (H : Hp) (ε : DEnv) (μ : DSt) (v : V) (x : SV) (Φ : DEnv → DSt → Prop) (Q : L2.St → Hp → Prop), At bb M σ H ε μ → Rv B M H v x →
    (∀ M' σ' H' ε' μ', Le M H M' H' → At bb M' σ' H' ε' μ' → Φ ε' μ' → Q σ' H') → g x ε μ Φ → u v σ H Q
def SimGs (B : Bs) (u : TGs) (g : DTGs) : Prop := ∀ (bb : Ba B) (M : Mk) (σ : L2.St) (H : Hp) (ε : DEnv) (μ : DSt) (v : List V) (x : List SV) (Φ : DEnv → DSt → Prop) (Q : L2.St → Hp → Prop), At bb M σ H ε μ → Rvs B M H v x →
    (∀ M' σ' H' ε' μ', Le M H M' H' → At bb M' σ' H' ε' μ' → Φ ε' μ' → Q σ' H') → g x ε μ Φ → u v σ H Q
structure DG (X : Cx) (B : Bs) (e : Expr) (u : TG) (g : DTG) : Prop where
  p : PG X e u
  s : SimG B u g
structure DGs (X : Cx) (B : Bs) (e : List Expr) (u : TGs) (g : DTGs) : Prop where
  p : PGs X e u
  s : SimGs B u g
/-! ### cases -/
def bcase (k : Bool) (a b : Prop) : Prop := match k with
  | true => a
  | false => b
def svb (x : SV) (f : Bool → Prop) : Prop := match x with
  | .d (.bl k) => f k
  | _ => False
def svi (x : SV) (f : Int → Prop) : Prop := match x with
  | .d (.int k) => f k
  | _ => False
theorem svb_inv {B : Bs} {M : Mk} {H : Hp} {v : V} {x : SV} {f : Bool → Prop} (r : Rv B M H v x) (h : svb x f) : ∃ k, v = .bl k ∧ x = .d (.bl k) ∧ f k := by
  unfold svb at h
  split at h
  · cases r with
    | d r => cases r; exact ⟨_, rfl, rfl, h⟩
  · exact h.elim
theorem svi_inv {B : Bs} {M : Mk} {H : Hp} {v : V} {x : SV} {f : Int → Prop} (r : Rv B M H v x) (h : svi x f) : ∃ k, v = .int k ∧ x = .d (.int k) ∧ f k := by
  unfold svi at h
  split at h
  · cases r with
    | d r => cases r; exact ⟨_, rfl, rfl, h⟩
  · exact h.elim
/-! ### expressions -/
section
variable {X : Cx} {B : Bs} {a b c e : Expr} {es : List Expr} {pos : Pos} {ta tb tc te : DTE} {tl : DTA} {ua ub uc ue : TE} {ul : TA}
def lk : DEnv → Nat → (SV → Prop) → Prop
  | [], _, _ => False
  | o :: _, 0, Φ => match o with
    | some x => Φ x
    | none => False
  | _ :: r, n + 1, Φ => lk r n Φ
theorem lk_get : ∀ {ε : DEnv} {i : Nat} {Φ : SV → Prop}, lk ε i Φ → ∃ x, ε[i]? = some (some x) ∧ Φ x
  | [], _, _, h => h.elim
  | some x :: _, 0, _, h => ⟨x, rfl, h⟩
  | none :: _, 0, _, h => (show False from h).elim
  | _ :: r, n + 1, _, h => by
    obtain ⟨x, h1, h2⟩ := lk_get (ε := r) (i := n) h
    exact ⟨x, by simpa using h1, h2⟩
def dVar (i : Nat) : DTE := fun ε μ Φ => lk ε i fun x => Φ x μ
theorem de_var {i : Nat} (h : PE X e (tVar i)) : DE X B e (tVar i) (dVar i) := ⟨h, fun bb M σ H ε μ Φ Q a k h => by
  obtain ⟨x, h1, h2⟩ := lk_get h
  obtain ⟨v, h3, r⟩ := a.env.at_ i x h1
  exact ⟨v, h3, k v M H x μ (Le.refl M H) a.wd r h2⟩⟩
def dC (d : D) : DTE := fun _ μ Φ => Φ (.d d) μ
theorem de_c {v : V} {d : D} (h : PE X e (tC v)) (r : ∀ K G, Rep K G v d) : DE X B e (tC v) (dC d) := ⟨h, fun bb M σ H ε μ Φ Q a k h => k v M H _ μ (Le.refl M H) a.wd (.d (r _ _)) h⟩
theorem de_int {i : Int} {j} : DE X B (.Constant (.int i) j pos) (tC (.int i)) (dC (.int i)) := de_c pe_int fun _ _ => .int i
theorem de_bl {i : Bool} {j} : DE X B (.Constant (.bool i) j pos) (tC (.bl i)) (dC (.bl i)) := de_c pe_bl fun _ _ => .bl i
theorem de_non {j} : DE X B (.Constant .none j pos) (tC .non) (dC .non) := de_c pe_non fun _ _ => .non
theorem de_str {i : Str} {j} : DE X B (.Constant (.str i) j pos) (tC (.str i)) (dC (.str i)) := de_c pe_str fun _ _ => .str i
/-- a constant of the module -/
theorem de_glob {x : Str} {v : V} {u : Value} {d : D} (hg : Gl X x) (hm : X.mg x = some u) (r : RelV v u) (rd : ∀ K G, Rep K G v d) (hd : (x == ("__debug__" : Str)) = false := by decide) : DE X B (.Name x pos) (tC v) (dC d) := de_c (pe_glob hg hm r hd) rd

def dOp (r : SV → SV → DSt → DK → Prop) (ta tb : DTE) : DTE := fun ε μ Φ => ta ε μ fun x μ1 => tb ε μ1 fun y μ2 => r x y μ2 Φ
theorem sim_op {r : R2} {rd : SV → SV → DSt → DK → Prop} {ua ub : TE} (hr : SimR B r rd) (ha : SimE B ua ta) (hb : SimE B ub tb) : SimE B (tOp r ua ub) (dOp rd ta tb) := fun bb M σ H ε μ Φ Q a k h =>
  ha bb M σ H ε μ _ _ a (fun v M1 H1 x μ1 l1 w1 r1 h1 => hb bb M1 σ H1 ε μ1 _ _ (a.next l1 w1) (fun w M2 H2 y μ2 l2 w2 r2 h2 =>
    hr M2 H2 μ2 v w x y Φ Q w2 (l2.srep r1) r2 (fun u M3 H3 z μ3 l3 => k u M3 H3 z μ3 ((l1.trans l2).trans l3)) h2) h1) h
theorem de_op {op : Operator} {r : R2} {rd : SV → SV → DSt → DK → Prop} (ho : OpR X (binaryOp op) r) (hr : SimR B r rd) (ha : DE X B a ua ta) (hb : DE X B b ub tb) : DE X B (.BinOp a op b pos) (tOp r ua ub) (dOp rd ta tb) :=
  have ⟨pa, sa⟩ := ha; have ⟨pb, sb⟩ := hb; ⟨pe_op ho pa pb, sim_op hr sa sb⟩
theorem de_cmp {op : CmpOp} {r : R2} {rd : SV → SV → DSt → DK → Prop} (ho : OpR X (compareOp op) r) (hr : SimR B r rd) (ha : DE X B a ua ta) (hb : DE X B b ub tb) (hm : behindInMarks op b = false) : DE X B (.Compare a [op] [b] pos) (tOp r ua ub) (dOp rd ta tb) :=
  have ⟨pa, sa⟩ := ha; have ⟨pb, sb⟩ := hb; ⟨pe_cmpR ho pa pb hm, sim_op hr sa sb⟩
def dTest (t : DTE) : DTT := fun ε μ Φ => t ε μ fun x μ1 => svb x fun k => Φ k μ1
theorem sim_test {ua : TE} (ha : SimE B ua ta) : SimT B (tTest ua) (dTest ta) := fun bb M σ H ε μ Φ Q a k h =>
  ha bb M σ H ε μ _ _ a (fun v M1 H1 x μ1 l1 w1 r1 h1 => by
    obtain ⟨c, e1, _, h1⟩ := svb_inv r1 h1
    exact ⟨c, e1, k _ M1 H1 μ1 l1 w1 h1⟩) h
theorem sim_B {ua : TE} (ha : SimE B ua ta) : SimT B (tB ua) (dTest ta) := fun bb M σ H ε μ Φ Q a k h =>
  ha bb M σ H ε μ _ _ a (fun v M1 H1 x μ1 l1 w1 r1 h1 => by
    obtain ⟨c, e1, _, h1⟩ := svb_inv r1 h1
    exact ⟨c, e1, k _ M1 H1 μ1 l1 w1 h1⟩) h
theorem dt_cmp {op : CmpOp} {r : R2} {rd : SV → SV → DSt → DK → Prop} (ho : OpR X (compareOp op) r) (hr : SimR B r rd) (ha : DE X B a ua ta) (hb : DE X B b ub tb) (hm : behindInMarks op b = false) : DT X B (.Compare a [op] [b] pos) (tTest (tOp r ua ub)) (dTest (dOp rd ta tb)) :=
  have ⟨pa, sa⟩ := ha; have ⟨pb, sb⟩ := hb; ⟨pt_cmpR ho pa pb hm, sim_test (sim_op hr sa sb)⟩
theorem dt_val (h : DE X B e ue te) (he : ∀ whole, isTrue e X.env whole = (do let v ← whole; standAt e.pos; holding [v] (truthy v)) := by intro _; rfl) : DT X B e (tB ue) (dTest te) :=
  have ⟨pa, sa⟩ := h; ⟨pt_val pa he, sim_B sa⟩
def dAnd (t u : DTT) : DTT := fun ε μ Φ => t ε μ fun k μ1 => bcase k (u ε μ1 Φ) (Φ false μ1)
def dOr (t u : DTT) : DTT := fun ε μ Φ => t ε μ fun k μ1 => bcase k (Φ true μ1) (u ε μ1 Φ)
def dNot (t : DTT) : DTT := fun ε μ Φ => t ε μ fun k μ1 => Φ (!k) μ1
theorem sim_and {t u : TT} {dt du : DTT} (h1 : SimT B t dt) (h2 : SimT B u du) : SimT B (tAnd t u) (dAnd dt du) := fun bb M σ H ε μ Φ Q a k h =>
  h1 bb M σ H ε μ _ _ a (fun c M1 H1 μ1 l1 w1 q => by
    cases c with
    | true => exact h2 bb M1 σ H1 ε μ1 _ _ (a.next l1 w1) (fun c M2 H2 μ2 l2 => k c M2 H2 μ2 (l1.trans l2)) q
    | false => exact k _ M1 H1 μ1 l1 w1 q) h
theorem sim_or {t u : TT} {dt du : DTT} (h1 : SimT B t dt) (h2 : SimT B u du) : SimT B (tOr t u) (dOr dt du) := fun bb M σ H ε μ Φ Q a k h =>
  h1 bb M σ H ε μ _ _ a (fun c M1 H1 μ1 l1 w1 q => by
    cases c with
    | false => exact h2 bb M1 σ H1 ε μ1 _ _ (a.next l1 w1) (fun c M2 H2 μ2 l2 => k c M2 H2 μ2 (l1.trans l2)) q
    | true => exact k _ M1 H1 μ1 l1 w1 q) h
theorem sim_not {t : TT} {dt : DTT} (h1 : SimT B t dt) : SimT B (tNot t) (dNot dt) := fun bb M σ H ε μ Φ Q a k h =>
  h1 bb M σ H ε μ _ _ a (fun c M1 H1 μ1 l1 w1 q => k _ M1 H1 μ1 l1 w1 q) h
theorem dw_and1 {u : TT} {t : DTT} (ha : DT X B a u t) : DW X B (.BoolOp .And [a] pos) u t := have ⟨p, s⟩ := ha; ⟨pw_and1 p, s⟩
theorem dw_or1 {u : TT} {t : DTT} (ha : DT X B a u t) : DW X B (.BoolOp .Or [a] pos) u t := have ⟨p, s⟩ := ha; ⟨pw_or1 p, s⟩
theorem dw_and {t u : DTT} {vt vu : TT} {rest : List Expr} (ha : DT X B a vt t) (hb : DW X B (.BoolOp .And (b :: rest) pos) vu u) : DW X B (.BoolOp .And (a :: b :: rest) pos) (tAnd vt vu) (dAnd t u) :=
  have ⟨p, s⟩ := ha; have ⟨p', s'⟩ := hb; ⟨pw_and p p', sim_and s s'⟩
theorem dw_or {t u : DTT} {vt vu : TT} {rest : List Expr} (ha : DT X B a vt t) (hb : DW X B (.BoolOp .Or (b :: rest) pos) vu u) : DW X B (.BoolOp .Or (a :: b :: rest) pos) (tOr vt vu) (dOr t u) :=
  have ⟨p, s⟩ := ha; have ⟨p', s'⟩ := hb; ⟨pw_or p p', sim_or s s'⟩
theorem DW.dt {u : TT} {t : DTT} (h : DW X B e u t) : DT X B e u t := have ⟨p, s⟩ := h; ⟨p.pt, s⟩
theorem dt_not {vt : TT} {t : DTT} (ha : DT X B a vt t) : DT X B (.UnaryOp .Not a pos) (tNot vt) (dNot t) := have ⟨p, s⟩ := ha; ⟨pt_not p, sim_not s⟩
def dAndV (t u : DTE) : DTE := fun ε μ Φ => t ε μ fun x μ1 => svb x fun k => bcase k (u ε μ1 Φ) (Φ (.d (.bl false)) μ1)
def dOrV (t u : DTE) : DTE := fun ε μ Φ => t ε μ fun x μ1 => svb x fun k => bcase k (Φ (.d (.bl true)) μ1) (u ε μ1 Φ)
def dNotV (t : DTE) : DTE := fun ε μ Φ => t ε μ fun x μ1 => svb x fun k => Φ (.d (.bl (!k))) μ1
def dIf (t : DTT) (u w : DTE) : DTE := fun ε μ Φ => t ε μ fun k μ1 => bcase k (u ε μ1 Φ) (w ε μ1 Φ)
theorem Rv.bl_inv {M : Mk} {H : Hp} {v : V} {k : Bool} (h : Rv B M H v (.d (.bl k))) : v = .bl k := by
  cases h with
  | d r => cases r; rfl
theorem Rv.int_inv {M : Mk} {H : Hp} {v : V} {k : Int} (h : Rv B M H v (.d (.int k))) : v = .int k := by
  cases h with
  | d r => cases r; rfl
theorem Rv.str_inv {M : Mk} {H : Hp} {v : V} {k : Str} (h : Rv B M H v (.d (.str k))) : v = .str k := by
  cases h with
  | d r => cases r; rfl
theorem Rv.non_inv {M : Mk} {H : Hp} {v : V} (h : Rv B M H v (.d .non)) : v = .non := by
  cases h with
  | d r => cases r; rfl
theorem Rv.tup_inv {M : Mk} {H : Hp} {v : V} {ds : List D} (h : Rv B M H v (.d (.tup ds))) : ∃ p xs, v = .ref p ∧ SqT B.K (wo M H) p xs ∧ Reps B.K (wo M H) xs ds := by
  cases h with
  | d r => cases r with
    | tup h1 h2 => exact ⟨_, _, rfl, h1, h2⟩
theorem Rv.lst_inv {M : Mk} {H : Hp} {v : V} {ds : List D} (h : Rv B M H v (.d (.lst ds))) : ∃ p xs, v = .ref p ∧ wo M H p = some (.lst xs) ∧ Reps B.K (wo M H) xs ds := by
  cases h with
  | d r => cases r with
    | lst h1 h2 => exact ⟨_, _, rfl, h1, h2⟩
theorem Rv.lsr_inv {M : Mk} {H : Hp} {v : V} {ds : List D} (h : Rv B M H v (.d (.lsr ds))) : ∃ p xs, v = .ref p ∧ SqL B.K (wo M H) p xs ∧ Reps B.K (wo M H) xs ds := by
  cases h with
  | d r => cases r with
    | lsr h1 h2 => exact ⟨_, _, rfl, h1, h2⟩
theorem Rv.m_inv {M : Mk} {H : Hp} {μ : DSt} {v : V} {n : Nat} {mo : MO} (w : Wd B.K M H μ) (h : Rv B M H v (.m n)) (hm : μ[n]? = some mo) : ∃ p, v = .ref p ∧ M.ids[n]? = some (some p) ∧ MRep B.K M (wo M H) H p mo := by
  cases h with
  | m h1 =>
    obtain ⟨mo', h2, r⟩ := w.ob _ _ h1
    rw [hm] at h2
    cases h2
    exact ⟨_, rfl, h1, r⟩
theorem de_one {op} (h : DE X B a ue te) : DE X B (.BoolOp op [a] pos) ue te := have ⟨p, s⟩ := h; ⟨pe_one p, s⟩
theorem de_and {rest : List Expr} (ha : DE X B a ua ta) (hb : DE X B (.BoolOp .And (b :: rest) pos) ub tb) : DE X B (.BoolOp .And (a :: b :: rest) pos) (tAndV ua ub) (dAndV ta tb) :=
  have ⟨p, s⟩ := ha; have ⟨p', s'⟩ := hb; ⟨pe_and p p', fun bb M σ H ε μ Φ Q a k h => s bb M σ H ε μ _ _ a (fun v M1 H1 x μ1 l1 w1 r1 h1 => by
    obtain ⟨c, e1, _, h1⟩ := svb_inv r1 h1
    cases c with
    | true => exact ⟨true, e1, s' bb M1 σ H1 ε μ1 _ _ (a.next l1 w1) (fun c M2 H2 x μ2 l2 => k c M2 H2 x μ2 (l1.trans l2)) h1⟩
    | false => exact ⟨false, e1, k _ M1 H1 _ μ1 l1 w1 (.d (.bl false)) h1⟩) h⟩
theorem de_or {rest : List Expr} (ha : DE X B a ua ta) (hb : DE X B (.BoolOp .Or (b :: rest) pos) ub tb) : DE X B (.BoolOp .Or (a :: b :: rest) pos) (tOrV ua ub) (dOrV ta tb) :=
  have ⟨p, s⟩ := ha; have ⟨p', s'⟩ := hb; ⟨pe_or p p', fun bb M σ H ε μ Φ Q a k h => s bb M σ H ε μ _ _ a (fun v M1 H1 x μ1 l1 w1 r1 h1 => by
    obtain ⟨c, e1, _, h1⟩ := svb_inv r1 h1
    cases c with
    | false => exact ⟨false, e1, s' bb M1 σ H1 ε μ1 _ _ (a.next l1 w1) (fun c M2 H2 x μ2 l2 => k c M2 H2 x μ2 (l1.trans l2)) h1⟩
    | true => exact ⟨true, e1, k _ M1 H1 _ μ1 l1 w1 (.d (.bl true)) h1⟩) h⟩
theorem de_not (ha : DE X B a ua ta) : DE X B (.UnaryOp .Not a pos) (tNotV ua) (dNotV ta) :=
  have ⟨p, s⟩ := ha; ⟨pe_not p, fun bb M σ H ε μ Φ Q a k h => s bb M σ H ε μ _ _ a (fun v M1 H1 x μ1 l1 w1 r1 h1 => by
    obtain ⟨c, e1, _, h1⟩ := svb_inv r1 h1
    exact ⟨_, e1, k _ M1 H1 _ μ1 l1 w1 (.d (.bl _)) h1⟩) h⟩
theorem de_ifExp {vt : TT} {t : DTT} (hc : DT X B c vt t) (ha : DE X B a ua ta) (hb : DE X B b ub tb) : DE X B (.IfExp c a b pos) (tIf vt ua ub) (dIf t ta tb) :=
  have ⟨p, s⟩ := hc; have ⟨pa, sa⟩ := ha; have ⟨pb, sb⟩ := hb; ⟨pe_ifExp p pa pb, fun bb M σ H ε μ Φ Q a k h => s bb M σ H ε μ _ _ a (fun c M1 H1 μ1 l1 w1 q => by
    cases c with
    | true => exact sa bb M1 σ H1 ε μ1 _ _ (a.next l1 w1) (fun c M2 H2 x μ2 l2 => k c M2 H2 x μ2 (l1.trans l2)) q
    | false => exact sb bb M1 σ H1 ε μ1 _ _ (a.next l1 w1) (fun c M2 H2 x μ2 l2 => k c M2 H2 x μ2 (l1.trans l2)) q) h⟩

/-! arguments, displays -/
def dNil : DTA := fun _ μ Φ => Φ [] μ
def dCons (ta : DTE) (tr : DTA) : DTA := fun ε μ Φ => ta ε μ fun x μ1 => tr ε μ1 fun xs μ2 => Φ (x :: xs) μ2
theorem da_nil : DA X B [] tNil dNil := ⟨pa_nil, fun bb M σ H ε μ Φ Q a k h => k [] M H [] μ (Le.refl M H) a.wd .nil h⟩
theorem sim_cons (s : SimE B ua ta) (s' : SimA B ul tl) : SimA B (tCons ua ul) (dCons ta tl) := fun bb M σ H ε μ Φ Q a k h =>
  s bb M σ H ε μ _ _ a (fun v M1 H1 x μ1 l1 w1 r1 h1 => s' bb M1 σ H1 ε μ1 _ _ (a.next l1 w1) (fun vs M2 H2 xs μ2 l2 w2 r2 h2 => k _ M2 H2 _ μ2 (l1.trans l2) w2 (.cons (l2.srep r1) r2) h2) h1) h
theorem da_cons (ha : DE X B e ue te) (hr : DA X B es ul tl) (hs : starEach (e :: es) X.env = (false, eval e X.env) :: starEach es X.env := by rfl) : DA X B (e :: es) (tCons ue ul) (dCons te tl) :=
  have ⟨p, s⟩ := ha; have ⟨p', s'⟩ := hr; ⟨pa_cons p p' hs, sim_cons s s'⟩
/-- all of them pure -/
def pures : List SV → Option (List D)
  | [] => some []
  | .d x :: r => match pures r with
    | some ds => some (x :: ds)
    | none => none
  | .m _ :: _ => none
theorem pures_eq : ∀ {xs : List SV} {ds : List D}, pures xs = some ds → xs = ds.map SV.d
  | [], ds, h => by
    cases h
    rfl
  | .d x :: r, ds, h => by
    unfold pures at h
    split at h
    · rename_i es he
      cases h
      rw [pures_eq he]
      rfl
    · cases h
  | .m _ :: _, ds, h => by
    unfold pures at h
    cases h
theorem pures_map : ∀ ds : List D, pures (ds.map SV.d) = some ds
  | [] => rfl
  | d :: r => by
    show (match pures (r.map SV.d) with | some ds => some (d :: ds) | none => none) = some (d :: r)
    rw [pures_map r]
def dTup (t : DTA) : DTE := fun ε μ Φ => t ε μ fun xs μ1 => match pures xs with
  | some ds => ds.length ≤ sizeLine ∧ Φ (.d (.tup ds)) μ1
  | none => False
theorem de_tup {x1} (h : DA X B es ul tl) : DE X B (.Tuple es x1 pos) (tTup ul) (dTup tl) := have ⟨p, s⟩ := h; ⟨pe_tup p, fun bb M σ H ε μ Φ Q a k h =>
  s bb M σ H ε μ _ _ a (fun vs M1 H1 xs μ1 l1 w1 r1 h1 => by
    split at h1
    · rename_i ds he
      obtain ⟨h1, h2⟩ := h1
      rw [pures_eq he] at r1
      have r := r1.pure
      refine ⟨by rw [r.length]; exact h1, fun p hp => k _ M1 _ _ μ1 (l1.trans (le_new w1 hp)) (wd_new w1 hp) (.d (.tup (.inl (.inl (wo_at w1 hp))) (r.mono (wo_new hp)))) h2⟩
    · exact h1.elim) h⟩
def dLst (t : DTA) : DTE := fun ε μ Φ => t ε μ fun xs μ1 => match pures xs with
  | some ds => ds.length ≤ sizeLine ∧ Φ (.d (.lst ds)) μ1
  | none => False
theorem de_lst (h : DA X B es ul tl) : DE X B (.List es pos) (tLst ul) (dLst tl) := have ⟨p, s⟩ := h; ⟨pe_lst p, fun bb M σ H ε μ Φ Q a k h =>
  s bb M σ H ε μ _ _ a (fun vs M1 H1 xs μ1 l1 w1 r1 h1 => by
    split at h1
    · rename_i ds he
      obtain ⟨h1, h2⟩ := h1
      rw [pures_eq he] at r1
      have r := r1.pure
      refine ⟨by rw [r.length]; exact h1, fun p hp => k _ M1 _ _ μ1 (l1.trans (le_new w1 hp)) (wd_new w1 hp) (.d (.lst (wo_at w1 hp) (r.mono (wo_new hp)))) h2⟩
    · exact h1.elim) h⟩
/-- a list that will change -/
def dLstM (t : DTA) : DTE := fun ε μ Φ => t ε μ fun xs μ1 => xs.length ≤ sizeLine ∧ Φ (.m μ1.length) (μ1 ++ [.lst xs])
theorem de_lstM (h : DA X B es ul tl) : DE X B (.List es pos) (tLst ul) (dLstM tl) := have ⟨p, s⟩ := h; ⟨pe_lst p, fun bb M σ H ε μ Φ Q a k h =>
  s bb M σ H ε μ _ _ a (fun vs M1 H1 xs μ1 l1 w1 r1 h1 => by
    obtain ⟨h1, h2⟩ := h1
    refine ⟨by rw [r1.length]; exact h1, fun p hp => k _ (M1.add p) _ _ _ (l1.trans (le_newm w1 hp)) (wd_newm (mo := .lst xs) w1 hp ⟨vs, upd_same, r1.mono ids_newm (wo_newm hp)⟩) (.m (by rw [← w1.len]; exact at_newm)) h2⟩) h⟩
end
end DV

set_option Elab.async false
set_option linter.all false
set_option maxRecDepth 100000
namespace DV
open PySem PySem.Spec PyProof.Rows L2

/-! ### operators -/
section
variable {X : Cx} {B : Bs} {a b c e : Expr} {es : List Expr} {pos : Pos} {ta tb tc te : DTE} {tl : DTA} {ua ub uc ue : TE} {ul : TA}
def rUnion (r r' : R2) : R2 := fun x y H Q => r x y H Q ∨ r' x y H Q
theorem op_union {f : Value → Value → Sem Value} {r r' : R2} (h : OpR X f r) (h' : OpR X f r') : OpR X f (rUnion r r') := fun pins s σ H x y v u Q I rx ry q => by
  rcases q with q | q
  · exact h pins s σ H x y v u Q I rx ry q
  · exact h' pins s σ H x y v u Q I rx ry q
/-- two ints -/
def dI (C : Int → Int → Prop) (g : Int → Int → D) : SV → SV → DSt → DK → Prop
  | .d (.int i), .d (.int j), μ, Φ => C i j ∧ Φ (.d (g i j)) μ
  | _, _, _, _ => False
theorem sim_I {C : Int → Int → Prop} {g : Int → Int → V} {gd : Int → Int → D} (hg : ∀ K G i j, Rep K G (g i j) (gd i j)) : SimR B (rI C g) (dI C gd) := fun M H μ v w x y Φ Q W rx ry k h => by
  unfold dI at h
  split at h
  · exact ⟨_, _, rx.int_inv, ry.int_inv, h.1, k _ M H _ μ (Le.refl M H) W (.d (hg _ _ _ _)) h.2⟩
  · exact h.elim
def dI0 (g : Int → Int → D) : SV → SV → DSt → DK → Prop
  | .d (.int i), .d (.int j), μ, Φ => Φ (.d (g i j)) μ
  | _, _, _, _ => False
theorem sim_I0 {g : Int → Int → V} {gd : Int → Int → D} (hg : ∀ K G i j, Rep K G (g i j) (gd i j)) : SimR B (rI0 g) (dI0 gd) := fun M H μ v w x y Φ Q W rx ry k h => by
  unfold dI0 at h
  split at h
  · exact ⟨_, _, rx.int_inv, ry.int_inv, k _ M H _ μ (Le.refl M H) W (.d (hg _ _ _ _)) h⟩
  · exact h.elim
/-- + of ints, tuples, lists, texts -/
def dPlus : SV → SV → DSt → DK → Prop
  | .d (.int i), .d (.int j), μ, Φ => Φ (.d (.int (i + j))) μ
  | .d (.tup xs), .d (.tup ys), μ, Φ => xs.length + ys.length ≤ sizeLine ∧ Φ (.d (.tup (xs ++ ys))) μ
  | .d (.lst xs), .d (.lst ys), μ, Φ => xs.length + ys.length ≤ sizeLine ∧ Φ (.d (.lst (xs ++ ys))) μ
  | .d (.str x), .d (.str y), μ, Φ => x.length + y.length ≤ sizeLine ∧ Φ (.d (.str (x ++ y))) μ
  | _, _, _, _ => False
def rPlus (K : PySem.W.Frag) : R2 := rUnion (rI0 fun i j => .int (i + j)) (rUnion (rCatA K) (rUnion rCat (fun x y H Q => ∃ i j, x = .str i ∧ y = .str j ∧ i.length + j.length ≤ sizeLine ∧ Q (.str (i ++ j)) H)))
theorem op_plus : OpR X (binaryOp .Add) (rPlus X.K) := op_union op_add (op_union op_catA (op_union op_cat op_add_str))
theorem sim_plus : SimR B (rPlus B.K) dPlus := fun M H μ v w x y Φ Q W rx ry k h => by
  unfold dPlus at h
  split at h
  · exact .inl ⟨_, _, rx.int_inv, ry.int_inv, k _ M H _ μ (Le.refl M H) W (.d (.int _)) h⟩
  · rename_i xs ys
    obtain ⟨z, h⟩ := h
    obtain ⟨p, us, rfl, hp, rp⟩ := rx.tup_inv
    obtain ⟨q, ws, rfl, hq, rq⟩ := ry.tup_inv
    refine .inr (.inl ⟨p, q, us, ws, rfl, rfl, (wo_sub M H).sqt hp, (wo_sub M H).sqt hq, by rw [rp.length, rq.length]; exact z, fun e => ?_, fun e1 e2 => ?_, fun e1 e2 r hr => ?_⟩)
    · refine k _ M H _ μ (Le.refl M H) W (.d (.tup hq ?_)) h
      have := rp.append rq
      rw [e] at this
      exact this
    · refine k _ M H _ μ (Le.refl M H) W (.d (.tup hp ?_)) h
      have := rp.append rq
      rw [e2, List.append_nil] at this
      exact this
    · exact k _ M _ _ μ (le_new W hr) (wd_new W hr) (.d (.tup (.inl (.inl (wo_at W hr))) ((rp.append rq).mono (wo_new hr)))) h
  · obtain ⟨z, h⟩ := h
    obtain ⟨p, us, rfl, hp, rp⟩ := rx.lst_inv
    obtain ⟨q, ws, rfl, hq, rq⟩ := ry.lst_inv
    refine .inr (.inr (.inl ⟨p, q, us, ws, rfl, rfl, (wo_sub M H) _ _ hp, (wo_sub M H) _ _ hq, by rw [rp.length, rq.length]; exact z, fun r hr => ?_⟩))
    exact k _ M _ _ μ (le_new W hr) (wd_new W hr) (.d (.lst (wo_at W hr) ((rp.append rq).mono (wo_new hr)))) h
  · obtain ⟨z, h⟩ := h
    exact .inr (.inr (.inr ⟨_, _, rx.str_inv, ry.str_inv, z, k _ M H _ μ (Le.refl M H) W (.d (.str _)) h⟩))
  · exact h.elim

/-! equality of data -/
mutual
def D.py : D → Option PyData
  | .non => some .none
  | .bl b => some (.bool b)
  | .int i => some (.int i)
  | .str x => some (.str x)
  | .tup ds => match D.pys ds with
    | some ps => some (.tuple ps)
    | none => none
  | .lst ds => match D.pys ds with
    | some ps => some (.list ps)
    | none => none
  | _ => none
def D.pys : List D → Option (List PyData)
  | [] => some []
  | d :: ds => match D.py d, D.pys ds with
    | some p, some ps => some (p :: ps)
    | _, _ => none
end
theorem py_tup {ds : List D} {p : PyData} (h : (D.tup ds).py = some p) : ∃ ps, D.pys ds = some ps ∧ p = .tuple ps := by
  unfold D.py at h
  split at h
  · rename_i ps hp
    exact ⟨ps, hp, (Option.some.inj h).symm⟩
  · cases h
theorem py_lst {ds : List D} {p : PyData} (h : (D.lst ds).py = some p) : ∃ ps, D.pys ds = some ps ∧ p = .list ps := by
  unfold D.py at h
  split at h
  · rename_i ps hp
    exact ⟨ps, hp, (Option.some.inj h).symm⟩
  · cases h
theorem pys_cons {d : D} {ds : List D} {p : List PyData} (h : D.pys (d :: ds) = some p) : ∃ q ps, d.py = some q ∧ D.pys ds = some ps ∧ p = q :: ps := by
  unfold D.pys at h
  split at h
  · rename_i q ps h1 h2
    exact ⟨q, ps, h1, h2, (Option.some.inj h).symm⟩
  · cases h
theorem py_no {d : D} {p : PyData} (h : d.py = some p) (hn : d.py = none) : False := by
  rw [hn] at h
  cases h
mutual
theorem Rep.dp {K : PySem.W.Frag} {G : Hp} : ∀ {v : V} {d : D}, Rep K G v d → ∀ p : PyData, d.py = some p → Dp K G v p
  | _, _, .non, p, h => Option.some.inj (show some PyData.none = some p from h) ▸ .non
  | _, _, .bl b, p, h => Option.some.inj (show some (PyData.bool b) = some p from h) ▸ .bl b
  | _, _, .int b, p, h => Option.some.inj (show some (PyData.int b) = some p from h) ▸ .int b
  | _, _, .str b, p, h => Option.some.inj (show some (PyData.str b) = some p from h) ▸ .str b
  | _, _, .tup h1 r, p, h => by
    obtain ⟨ps, hp, rfl⟩ := py_tup h
    exact .tup h1 (Reps.dp r ps hp)
  | _, _, .lst h1 r, p, h => by
    obtain ⟨ps, hp, rfl⟩ := py_lst h
    exact .lst (.inl (.inl h1)) (Reps.dp r ps hp)
  | _, _, .ty _, _, h => (py_no h rfl).elim
  | _, _, .ref _, _, h => (py_no h rfl).elim
  | _, _, .lsr _ _, _, h => (py_no h rfl).elim
  | _, _, .dct _ _ _, _, h => (py_no h rfl).elim
  | _, _, .dcT _ _ _, _, h => (py_no h rfl).elim
  | _, _, .obj _ _ _, _, h => (py_no h rfl).elim
theorem Reps.dp {K : PySem.W.Frag} {G : Hp} : ∀ {v : List V} {d : List D}, Reps K G v d → ∀ p : List PyData, D.pys d = some p → DpAll K G v p
  | _, _, .nil, p, h => Option.some.inj (show some ([] : List PyData) = some p from h) ▸ .nil
  | _, _, .cons r1 r2, p, h => by
    obtain ⟨q, ps, h1, h2, rfl⟩ := pys_cons h
    exact .cons (Rep.dp r1 q h1) (Reps.dp r2 ps h2)
end
mutual
theorem Dp.mono {K : PySem.W.Frag} {G G' : Hp} (e : Sub G G') : ∀ {v : V} {p : PyData}, Dp K G v p → Dp K G' v p
  | _, _, .non => .non
  | _, _, .bl b => .bl b
  | _, _, .int i => .int i
  | _, _, .str x => .str x
  | _, _, .lst h r => .lst (e.sql h) (DpAll.mono e r)
  | _, _, .tup h r => .tup (e.sqt h) (DpAll.mono e r)
theorem DpAll.mono {K : PySem.W.Frag} {G G' : Hp} (e : Sub G G') : ∀ {v : List V} {p : List PyData}, DpAll K G v p → DpAll K G' v p
  | _, _, .nil => .nil
  | _, _, .cons h r => .cons (Dp.mono e h) (DpAll.mono e r)
end
/-- what can be compared, as what -/
def Ced (d : D) (p : PyData) : Prop := d.py = some p ∧ SeqAt.shaped p = true
/-- a value that is compared: pure, or a list that may change with pure items -/
def Cv (μ : DSt) : SV → PyData → Prop
  | .d x, p => Ced x p
  | .m n, p => ∃ ds, μ[n]? = some (.lst (ds.map SV.d)) ∧ Ced (.lst ds) p
def dEqD (neg : Bool) : SV → SV → DSt → DK → Prop := fun x y μ Φ => ∃ p q, Cv μ x p ∧ Cv μ y q ∧ Φ (.d (.bl (if neg then !PyData.eqv p q else PyData.eqv p q))) μ
theorem cv_dp {M : Mk} {H : Hp} {μ : DSt} {v : V} {x : SV} {p : PyData} (W : Wd B.K M H μ) (r : Rv B M H v x) (h : Cv μ x p) : Dp B.K H v p ∧ SeqAt.shaped p = true := by
  cases x with
  | d x =>
    cases r with
    | d r => exact ⟨Dp.mono (wo_sub M H) (r.dp _ h.1), h.2⟩
  | m n =>
    obtain ⟨ds, hm, hc⟩ := h
    obtain ⟨q, rfl, hq, mr⟩ := r.m_inv W hm
    obtain ⟨vs, hv, rs⟩ := mr
    refine ⟨?_, hc.2⟩
    obtain ⟨ps, hp, rfl⟩ := py_lst hc.1
    exact .lst (.inl (.inl hv)) (DpAll.mono (wo_sub M H) (rs.pure.dp _ hp))
theorem sim_eqD : SimR B (rEqD B.K) (dEqD false) := fun M H μ v w x y Φ Q W rx ry k h => by
  obtain ⟨p, q, hp, hq, h⟩ := h
  exact ⟨p, q, (cv_dp W rx hp).1, (cv_dp W ry hq).1, (cv_dp W rx hp).2, (cv_dp W ry hq).2, k _ M H _ μ (Le.refl M H) W (.d (.bl _)) h⟩
theorem sim_neD : SimR B (rNeD B.K) (dEqD true) := fun M H μ v w x y Φ Q W rx ry k h => by
  obtain ⟨p, q, hp, hq, h⟩ := h
  exact ⟨p, q, (cv_dp W rx hp).1, (cv_dp W ry hq).1, (cv_dp W rx hp).2, (cv_dp W ry hq).2, k _ M H _ μ (Le.refl M H) W (.d (.bl _)) h⟩
/-- is, is not of truth values -/
def dIsB (neg : Bool) : SV → SV → DSt → DK → Prop
  | .d (.bl i), .d (.bl j), μ, Φ => Φ (.d (.bl (if neg then !decide (i = j) else decide (i = j)))) μ
  | _, _, _, _ => False
theorem sim_isB : SimR B (fun x y H Q => ∃ a b, x = .bl a ∧ y = .bl b ∧ Q (.bl (decide (a = b))) H) (dIsB false) := fun M H μ v w x y Φ Q W rx ry k h => by
  unfold dIsB at h
  split at h
  · exact ⟨_, _, rx.bl_inv, ry.bl_inv, k _ M H _ μ (Le.refl M H) W (.d (.bl _)) h⟩
  · exact h.elim
theorem sim_isnotB : SimR B (fun x y H Q => ∃ a b, x = .bl a ∧ y = .bl b ∧ Q (.bl (!decide (a = b))) H) (dIsB true) := fun M H μ v w x y Φ Q W rx ry k h => by
  unfold dIsB at h
  split at h
  · exact ⟨_, _, rx.bl_inv, ry.bl_inv, k _ M H _ μ (Le.refl M H) W (.d (.bl _)) h⟩
  · exact h.elim
/-- is None, is not None -/
def svIsNon : SV → Bool
  | .d .non => true
  | _ => false
theorem svIsNon_eq {M : Mk} {H : Hp} {v : V} {x : SV} (r : Rv B M H v x) : decide (v = .non) = svIsNon x := by
  cases r with
  | d r => cases r <;> rfl
  | m h => rfl
def dIsN (neg : Bool) : SV → SV → DSt → DK → Prop := fun x y μ Φ => match y with
  | .d .non => Φ (.d (.bl (if neg then !svIsNon x else svIsNon x))) μ
  | _ => False
theorem sim_isN : SimR B (fun x y H Q => y = .non ∧ Q (.bl (decide (x = .non))) H) (dIsN false) := fun M H μ v w x y Φ Q W rx ry k h => by
  unfold dIsN at h
  split at h
  · exact ⟨ry.non_inv, k _ M H _ μ (Le.refl M H) W (.d (by rw [svIsNon_eq rx]; exact .bl _)) h⟩
  · exact h.elim
theorem sim_isnotN : SimR B (fun x y H Q => y = .non ∧ Q (.bl (!decide (x = .non))) H) (dIsN true) := fun M H μ v w x y Φ Q W rx ry k h => by
  unfold dIsN at h
  split at h
  · exact ⟨ry.non_inv, k _ M H _ μ (Le.refl M H) W (.d (by rw [svIsNon_eq rx]; exact .bl _)) h⟩
  · exact h.elim
/-! in a list or tuple of flat things -/
def flatD : D → Bool
  | .non => true
  | .bl _ => true
  | .int _ => true
  | .str _ => true
  | _ => false
def eqFD : D → D → Bool
  | .non, .non => true
  | .bl a, .bl b => a == b
  | .bl a, .int b => (if a then 1 else 0) == b
  | .int a, .bl b => a == (if b then 1 else 0)
  | .int a, .int b => a == b
  | .str a, .str b => a == b
  | _, _ => false
theorem flat_rep {K : PySem.W.Frag} {G : Hp} {v : V} {d : D} (r : Rep K G v d) (h : flatD d = true) : flatV v = true := by
  cases r <;> first | rfl | cases h
theorem eqF_rep {K : PySem.W.Frag} {G : Hp} {v w : V} {d f : D} (r : Rep K G v d) (s : Rep K G w f) (h : flatD d = true) (h' : flatD f = true) : eqV v w = eqFD d f := by
  cases r <;> first | (cases h; done) | (cases s <;> first | (cases h'; done) | rfl)
def inD (x : D) (xs : List D) : Bool := xs.any fun y => eqFD y x
theorem in_rep {K : PySem.W.Frag} {G : Hp} {v : V} {d : D} (r : Rep K G v d) (h : flatD d = true) : ∀ {vs : List V} {ds : List D}, Reps K G vs ds → ds.all flatD = true → inV v vs = inD d ds ∧ vs.all flatV = true
  | _, _, .nil, _ => ⟨rfl, rfl⟩
  | _, _, .cons (v := u) (vs := us) (d := f) (ds := fs) r1 r2, hf => by
    rw [List.all_cons, Bool.and_eq_true] at hf
    obtain ⟨i1, i2⟩ := in_rep r h r2 hf.2
    constructor
    · show (eqV u v || inV v us) = (eqFD f d || inD d fs)
      rw [i1, eqF_rep r1 r hf.1 h]
    · rw [List.all_cons, i2, flat_rep r1 hf.1]
      rfl
def dIn (neg : Bool) : SV → SV → DSt → DK → Prop := fun x y μ Φ => ∃ d ds, x = .d d ∧ (y = .d (.tup ds) ∨ y = .d (.lst ds) ∨ y = .d (.lsr ds) ∨ ∃ n, y = .m n ∧ μ[n]? = some (.lst (ds.map SV.d))) ∧ flatD d = true ∧ ds.all flatD = true ∧
  Φ (.d (.bl (if neg then !inD d ds else inD d ds))) μ
theorem sim_in (neg : Bool) : SimR B (rIn B.K neg) (dIn neg) := fun M H μ v w x y Φ Q W rx ry k h => by
  obtain ⟨d, ds, rfl, hy, fd, fs, h⟩ := h
  cases rx with
  | d rx =>
    have fin : ∀ (p : Addr) (xs : List V), w = .ref p → (SqL B.K H p xs ∨ SqT B.K H p xs) → Reps B.K (wo M H) xs ds → rIn B.K neg v w H Q := fun p xs e hs r => by
      obtain ⟨i1, i2⟩ := in_rep rx fd r fs
      exact ⟨p, xs, e, hs, flat_rep rx fd, i2, k _ M H _ μ (Le.refl M H) W (.d (by rw [i1]; exact .bl _)) h⟩
    rcases hy with rfl | rfl | rfl | ⟨n, rfl, hm⟩
    · obtain ⟨q, ws, e, hq, rq⟩ := ry.tup_inv
      exact fin q ws e (.inr ((wo_sub M H).sqt hq)) rq
    · obtain ⟨q, ws, e, hq, rq⟩ := ry.lst_inv
      exact fin q ws e (.inl (.inl (.inl (wo_sub M H _ _ hq)))) rq
    · obtain ⟨q, ws, e, hq, rq⟩ := ry.lsr_inv
      exact fin q ws e (.inl ((wo_sub M H).sql hq)) rq
    · obtain ⟨q, e, hq, vs, hv, rs⟩ := ry.m_inv W hm
      exact fin q vs e (.inl (.inl (.inl hv))) rs.pure

/-! ### items and slices -/
def dIx : SV → SV → DSt → DK → Prop
  | .d (.tup ds), .d (.int i), μ, Φ => ∃ x, atI ds i = some x ∧ Φ (.d x) μ
  | .d (.lst ds), .d (.int i), μ, Φ => ∃ x, atI ds i = some x ∧ Φ (.d x) μ
  | .d (.lsr ds), .d (.int i), μ, Φ => ∃ x, atI ds i = some x ∧ Φ (.d x) μ
  | .m n, .d (.int i), μ, Φ => ∃ xs x, μ[n]? = some (.lst xs) ∧ atI xs i = some x ∧ Φ x μ
  | .d (.str z), .d (.int i), μ, Φ => ∃ c, z.length ≤ sizeLine ∧ atI z.cps.toList i = some c ∧ Φ (.d (.str ⟨#[c]⟩)) μ
  | _, _, _, _ => False
theorem atI_rep {K : PySem.W.Frag} {G : Hp} {vs : List V} {ds : List D} {i : Int} {x : D} (r : Reps K G vs ds) (h : atI ds i = some x) : ∃ v, atI vs i = some v ∧ Rep K G v x := by
  unfold atI at h ⊢
  rw [r.length]
  cases e : ixN ds.length i with
  | none => rw [e] at h; cases h
  | some j =>
    rw [e] at h
    exact r.get h
theorem atI_srep {K : PySem.W.Frag} {M : Mk} {G : Hp} {vs : List V} {ds : List SV} {i : Int} {x : SV} (r : SReps K M G vs ds) (h : atI ds i = some x) : ∃ v, atI vs i = some v ∧ SRep K M G v x := by
  unfold atI at h ⊢
  rw [r.length]
  cases e : ixN ds.length i with
  | none => rw [e] at h; cases h
  | some j =>
    rw [e] at h
    exact r.get h
theorem sim_ix : SimR B (rIx B.K) dIx := fun M H μ v w x y Φ Q W rx ry k h => by
  unfold dIx at h
  split at h
  · obtain ⟨x, ha, h⟩ := h
    obtain ⟨q, ws, rfl, hq, rq⟩ := rx.tup_inv
    obtain ⟨v, hv, rv⟩ := atI_rep rq ha
    exact .inr (.inl ⟨q, ws, _, v, rfl, ry.int_inv, (wo_sub M H).sqt hq, hv, k _ M H _ μ (Le.refl M H) W (.d rv) h⟩)
  · obtain ⟨x, ha, h⟩ := h
    obtain ⟨q, ws, rfl, hq, rq⟩ := rx.lst_inv
    obtain ⟨v, hv, rv⟩ := atI_rep rq ha
    exact .inl ⟨q, ws, _, v, rfl, ry.int_inv, .inl (.inl (wo_sub M H _ _ hq)), hv, k _ M H _ μ (Le.refl M H) W (.d rv) h⟩
  · obtain ⟨x, ha, h⟩ := h
    obtain ⟨q, ws, rfl, hq, rq⟩ := rx.lsr_inv
    obtain ⟨v, hv, rv⟩ := atI_rep rq ha
    exact .inl ⟨q, ws, _, v, rfl, ry.int_inv, (wo_sub M H).sql hq, hv, k _ M H _ μ (Le.refl M H) W (.d rv) h⟩
  · obtain ⟨xs, x, hm, ha, h⟩ := h
    obtain ⟨q, rfl, hq, vs, hv, rs⟩ := rx.m_inv W hm
    obtain ⟨v, hv', rv⟩ := atI_srep rs ha
    exact .inl ⟨q, vs, _, v, rfl, ry.int_inv, .inl (.inl hv), hv', k _ M H _ μ (Le.refl M H) W rv h⟩
  · obtain ⟨c, hz, ha, h⟩ := h
    exact .inr (.inr ⟨_, _, c, rx.str_inv, ry.int_inv, hz, ha, k _ M H _ μ (Le.refl M H) W (.d (.str _)) h⟩)
  · exact h.elim
theorem de_ix (ha : DE X B a ua ta) (hb : DE X B b ub tb) (hK : B.K = X.K := by rfl) (hs : PlainIx b := by exact fun _ _ => rfl) : DE X B (.Subscript a b pos) (tOp (rIx B.K) ua ub) (dOp dIx ta tb) := by
  obtain ⟨Kb, Eb, Ψb⟩ := B
  have hK : Kb = X.K := hK
  subst hK
  have hK : X.K = X.K := rfl
  exact have ⟨pa, sa⟩ := ha; have ⟨pb, sb⟩ := hb; ⟨pe_ix ix_seq pa pb hs, sim_op (by rw [← hK]; exact sim_ix) sa sb⟩
/-- a part of a slice -/
def dPart (o : Option DTE) : DEnv → DSt → (Option Int → DSt → Prop) → Prop := fun ε μ Φ => match o with
  | none => Φ none μ
  | some t => t ε μ fun x μ1 => svi x fun i => Φ (some i) μ1
def SimO (B : Bs) (te : TO) (t : DEnv → DSt → (Option Int → DSt → Prop) → Prop) : Prop := ∀ (bb : Ba B) (M : Mk) (σ : L2.St) (H : Hp) (ε : DEnv) (μ : DSt) (Φ : Option Int → DSt → Prop) (Q : Option Int → Hp → Prop), At bb M σ H ε μ →
  (∀ b M' H' μ', Le M H M' H' → Wd B.K M' H' μ' → Φ b μ' → Q b H') → t ε μ Φ → te σ H Q
structure DO (X : Cx) (B : Bs) (e : Option Expr) (u : TO) (t : DEnv → DSt → (Option Int → DSt → Prop) → Prop) : Prop where
  p : PO X e u
  s : SimO B u t
theorem do_none : DO X B none tNoPart (dPart none) := ⟨po_none, fun bb M σ H ε μ Φ Q a k h => k none M H μ (Le.refl M H) a.wd h⟩
theorem do_some (h : DE X B e ue te) : DO X B (some e) (tPart ue) (dPart (some te)) := have ⟨p, s⟩ := h; ⟨po_some p, fun bb M σ H ε μ Φ Q a k h =>
  s bb M σ H ε μ _ _ a (fun v M1 H1 x μ1 l1 w1 r1 h1 => by
    obtain ⟨i, e1, _, h1⟩ := svi_inv r1 h1
    exact ⟨i, e1, k _ M1 H1 μ1 l1 w1 h1⟩) h⟩
def cut {α : Type} (xs : List α) (lo hi : Option Int) : List α := (xs.drop (HT.sIx xs.length 0 lo)).take (HT.sIx xs.length xs.length hi - HT.sIx xs.length 0 lo)
theorem cut_rep {K : PySem.W.Frag} {G : Hp} {vs : List V} {ds : List D} (r : Reps K G vs ds) (lo hi : Option Int) : Reps K G (cutV vs lo hi) (cut ds lo hi) := by
  unfold cutV cut
  rw [r.length]
  exact (r.drop _).take _
def dSl (ta : DTE) (tl th : DEnv → DSt → (Option Int → DSt → Prop) → Prop) : DTE := fun ε μ Φ => ta ε μ fun x μ1 => tl ε μ1 fun lo μ2 => th ε μ2 fun hi μ3 => match x with
  | .d (.tup ds) => Φ (.d (.tup (cut ds lo hi))) μ3
  | .d (.lst ds) => Φ (.d (.lst (cut ds lo hi))) μ3
  | .d (.lsr ds) => Φ (.d (.lst (cut ds lo hi))) μ3
  | .m n => ∃ ds, μ3[n]? = some (.lst (ds.map SV.d)) ∧ Φ (.d (.lst (cut ds lo hi))) μ3
  | _ => False
theorem cut_all {vs : List V} {lo hi : Option Int} (h : HT.sIx vs.length 0 lo = 0 ∧ HT.sIx vs.length vs.length hi = vs.length) : cutV vs lo hi = vs := by
  unfold cutV
  rw [h.1, h.2, List.drop_zero, Nat.sub_zero, List.take_length]
theorem de_slice {lo hi : Option Expr} {p2 : Pos} {vl vh : TO} {tl th : DEnv → DSt → (Option Int → DSt → Prop) → Prop} (ha : DE X B e ue te) (hl : DO X B lo vl tl) (hh : DO X B hi vh th) (hK : B.K = X.K := by rfl) :
    DE X B (.Subscript e (.Slice lo hi none p2) pos) (tSl (fun x lo hi H Q => rSlL B.K x lo hi H Q ∨ rSlA B.K x lo hi H Q) ue vl vh) (dSl te tl th) := by
  obtain ⟨Kb, Eb, Ψb⟩ := B
  have hK : Kb = X.K := hK
  subst hK
  have hK : X.K = X.K := rfl
  exact have ⟨pa, sa⟩ := ha; have ⟨pl, sl⟩ := hl; have ⟨ph, sh⟩ := hh; ⟨pe_slice (sl_list.or sl_tupA) pa pl ph, fun bb M σ H ε μ Φ Q a k h =>
    sa bb M σ H ε μ _ _ a (fun v M1 H1 x μ1 l1 w1 r1 h1 => sl bb M1 σ H1 ε μ1 _ _ (a.next l1 w1) (fun lo M2 H2 μ2 l2 w2 h2 => sh bb M2 σ H2 ε μ2 _ _ (a.next (l1.trans l2) w2) (fun hi M3 H3 μ3 l3 w3 h3 => by
      have l13 := (l1.trans l2).trans l3
      have r3 := (l2.trans l3).srep r1
      rw [← hK]
      split at h3
      · obtain ⟨p, us, rfl, hp, rp⟩ := Rv.tup_inv r3
        refine .inr ⟨p, us, rfl, (wo_sub M3 H3).sqt hp, fun hc => ?_, fun hc q hq => ?_⟩
        · refine k _ M3 H3 _ μ3 l13 w3 (.d (.tup hp ?_)) h3
          have := cut_rep rp lo hi
          rw [cut_all hc] at this
          exact this
        · exact k _ M3 _ _ μ3 (l13.trans (le_new w3 hq)) (wd_new w3 hq) (.d (.tup (.inl (.inl (wo_at w3 hq))) ((cut_rep rp lo hi).mono (wo_new hq)))) h3
      · obtain ⟨p, us, rfl, hp, rp⟩ := Rv.lst_inv r3
        exact .inl ⟨p, us, rfl, .inl (.inl (wo_sub M3 H3 _ _ hp)), fun q hq => k _ M3 _ _ μ3 (l13.trans (le_new w3 hq)) (wd_new w3 hq) (.d (.lst (wo_at w3 hq) ((cut_rep rp lo hi).mono (wo_new hq)))) h3⟩
      · obtain ⟨p, us, rfl, hp, rp⟩ := Rv.lsr_inv r3
        exact .inl ⟨p, us, rfl, (wo_sub M3 H3).sql hp, fun q hq => k _ M3 _ _ μ3 (l13.trans (le_new w3 hq)) (wd_new w3 hq) (.d (.lst (wo_at w3 hq) ((cut_rep rp lo hi).mono (wo_new hq)))) h3⟩
      · obtain ⟨ds, hm, h3⟩ := h3
        obtain ⟨p, rfl, hp, vs, hv, rs⟩ := Rv.m_inv w3 r3 hm
        exact .inl ⟨p, vs, rfl, .inl (.inl hv), fun q hq => k _ M3 _ _ μ3 (l13.trans (le_new w3 hq)) (wd_new w3 hq) (.d (.lst (wo_at w3 hq) ((cut_rep rs.pure lo hi).mono (wo_new hq)))) h3⟩
      · exact h3.elim) h2) h1) h⟩
end
end DV

set_option Elab.async false
set_option linter.all false
set_option maxRecDepth 100000
namespace DV
open PySem PySem.Spec PyProof.Rows L2

section
variable {X : Cx} {B : Bs} {a b c e : Expr} {es : List Expr} {pos : Pos} {ta tb tc te : DTE} {tl : DTA} {ua ub uc ue : TE} {ul : TA}
variable {st : Stmt} {rest body : List Stmt} {vs vr vb : TS} {ds dr db : DTS}
/-! ### statements -/
theorem EndsR.nx' {bb : Ba B} {Φ : DEnds} {D : Ends} {n : DEnv → DSt → Prop} {n' : L2.St → Hp → Prop} (E : EndsR bb Φ D) (h : ∀ M σ H ε μ, At bb M σ H ε μ → n ε μ → n' σ H) : EndsR bb { Φ with nx := n } { D with nx := n' } := ⟨h, E.rt, E.bk, E.ct, E.fl⟩
def dNext : DTS := fun Φ ε μ => Φ.nx ε μ
def dSeq (t u : DTS) : DTS := fun Φ ε μ => t { Φ with nx := u Φ } ε μ
theorem dss_nil : DSs X B [] tNext dNext := ⟨pss_nil, fun bb M σ H ε μ Φ D a E h => E.nx M σ H ε μ a h⟩
theorem dss_one (h : DS X B st vs ds) : DSs X B [st] vs ds := ⟨pss_one h.p, h.s⟩
theorem dss_cons (h : DS X B st vs ds) (hr : DSs X B rest vr dr) : DSs X B (st :: rest) (tSeq vs vr) (dSeq ds dr) := ⟨pss_cons h.p hr.p, fun bb M σ H ε μ Φ D a E q =>
  h.s bb M σ H ε μ _ _ a (E.nx' fun M1 σ1 H1 ε1 μ1 a1 q1 => hr.s bb M1 σ1 H1 ε1 μ1 Φ D a1 E q1) q⟩
theorem ds_pass : DS X B (.Pass pos) tNext dNext := ⟨ps_pass, fun bb M σ H ε μ Φ D a E h => E.nx M σ H ε μ a h⟩
def dBreak : DTS := fun Φ ε μ => Φ.bk ε μ
def dCont : DTS := fun Φ ε μ => Φ.ct ε μ
theorem ds_break : DS X B (.Break pos) tBreak dBreak := ⟨ps_break, fun bb M σ H ε μ Φ D a E h => E.bk M σ H ε μ a h⟩
theorem ds_cont : DS X B (.Continue pos) tCont dCont := ⟨ps_continue, fun bb M σ H ε μ Φ D a E h => E.ct M σ H ε μ a h⟩
def dDrop (t : DTE) : DTS := fun Φ ε μ => t ε μ fun _ μ1 => Φ.nx ε μ1
theorem ds_expr (h : DE X B e ue te) (hs : swapsWith e none pos.line X.env = pure false := by rfl) : DS X B (.Expr e pos) (tDrop ue) (dDrop te) := ⟨ps_expr h.p hs, fun bb M σ H ε μ Φ D a E q =>
  h.s bb M σ H ε μ _ _ a (fun v M1 H1 x μ1 l1 w1 r1 q1 => E.nx M1 σ H1 ε μ1 (a.next l1 w1) q1) q⟩
def dRet (t : DTE) : DTS := fun Φ ε μ => t ε μ Φ.rt
theorem ds_ret (h : DE X B e ue te) : DS X B (.Return (some e) pos) (tRet ue) (dRet te) := ⟨ps_ret h.p, fun bb M σ H ε μ Φ D a E q =>
  h.s bb M σ H ε μ _ _ a (fun v M1 H1 x μ1 l1 w1 r1 q1 => E.rt v M1 H1 x μ1 (a.le.trans l1) w1 r1 q1) q⟩
def dRetN : DTS := fun Φ _ μ => Φ.rt (.d .non) μ
theorem ds_retN : DS X B (.Return none pos) tRetN dRetN := ⟨ps_retN, fun bb M σ H ε μ Φ D a E q => E.rt _ M H _ μ a.le a.wd (.d .non) q⟩
def dIfS (c : DTT) (t u : DTS) : DTS := fun Φ ε μ => c ε μ fun k μ1 => bcase k (t Φ ε μ1) (u Φ ε μ1)
theorem ds_if {l1 l2 : List Stmt} {vc : TT} {dc : DTT} {v1 v2 : TS} {d1 d2 : DTS} (hc : DT X B c vc dc) (h1 : DSs X B l1 v1 d1) (h2 : DSs X B l2 v2 d2) : DS X B (.If c l1 l2 pos) (tIfS vc v1 v2) (dIfS dc d1 d2) := ⟨ps_if hc.p h1.p h2.p, fun bb M σ H ε μ Φ D a E q =>
  hc.s bb M σ H ε μ _ _ a (fun k M1 H1 μ1 l1 w1 q1 => by
    cases k with
    | true => exact h1.s bb M1 σ H1 ε μ1 Φ D (a.next l1 w1) E q1
    | false => exact h2.s bb M1 σ H1 ε μ1 Φ D (a.next l1 w1) E q1) q⟩
theorem ds_never : DS X B st tNever (fun _ _ _ => False) := ⟨ps_never, fun bb M σ H ε μ Φ D a E q => q.elim⟩
/-! targets -/
def dgN (i : Nat) : DTG := fun x ε μ Φ => Φ (ε.set i (some x)) μ
theorem dg_name {i : Nat} {x : Str} (hN : X.N.Nodup) (hi : X.N[i]? = some x) (hx : Loc X.env.scope x) (hf : X.fn x = true ∨ X.env.scope.names.lookup x = some .local := by first | exact .inl rfl | exact .inr rfl | assumption) : DG X B (.Name x pos) (gName i) (dgN i) :=
  ⟨pg_name hN hi hx hf, fun bb M σ H ε μ v x Φ Q a r k h => k M _ H _ μ (Le.refl M H) (a.set i r) h⟩
def dgNil : DTGs := fun xs ε μ Φ => match xs with
  | [] => Φ ε μ
  | _ => False
def dgCons (t : DTG) (u : DTGs) : DTGs := fun xs ε μ Φ => match xs with
  | x :: r => t x ε μ fun ε1 μ1 => u r ε1 μ1 Φ
  | [] => False
theorem dgs_nil : DGs X B [] gNil dgNil := ⟨pgs_nil, fun bb M σ H ε μ v x Φ Q a r k h => by
  cases r with
  | nil => exact ⟨rfl, k M σ H ε μ (Le.refl M H) a h⟩
  | cons _ _ => exact (show False from h).elim⟩
theorem dgs_cons {vt : TG} {dt : DTG} {vu : TGs} {du : DTGs} (h1 : DG X B e vt dt) (h2 : DGs X B es vu du) (hs : (assignEach (e :: es) X.env).map (·.2) = assign e X.env :: (assignEach es X.env).map (·.2) := by rfl) : DGs X B (e :: es) (gCons vt vu) (dgCons dt du) :=
  ⟨pgs_cons h1.p h2.p hs, fun bb M σ H ε μ v x Φ Q a r k h => by
    cases r with
    | nil => exact (show False from h).elim
    | cons r1 r2 => exact ⟨_, _, rfl, h1.s bb M σ H ε μ _ _ _ _ a r1 (fun M1 σ1 H1 ε1 μ1 l1 a1 q1 => h2.s bb M1 σ1 H1 ε1 μ1 _ _ _ _ a1 (l1.sreps r2) (fun M2 σ2 H2 ε2 μ2 l2 => k M2 σ2 H2 ε2 μ2 (l1.trans l2)) q1) h⟩⟩
def dgTup (n : Nat) (t : DTGs) : DTG := fun x ε μ Φ => match x with
  | .d (.tup ds) => ds.length = n ∧ t (ds.map SV.d) ε μ Φ
  | _ => False
theorem dg_tup {k : Nat} {vt : TGs} {dt : DTGs} {n : Nat} (hc : X.calm = true) (h : DGs X B es vt dt) (hK : B.K = X.K := by rfl)
    (hn : (assignEach es X.env).length = n := by rfl) (hst : (assignEach es X.env).findIdx? (·.1) = none := by rfl) : DG X B (.Tuple es k pos) (gTup X.K n vt) (dgTup n dt) :=
  ⟨pg_tup hc h.p hn hst, fun bb M σ H ε μ v x Φ Q a r k q => by
    unfold dgTup at q
    split at q
    · obtain ⟨hl, q⟩ := q
      obtain ⟨p, us, rfl, hp, rp⟩ := r.tup_inv
      exact ⟨p, us, rfl, by rw [← hK]; exact (wo_sub M H).sqt hp, by rw [rp.length]; exact hl, h.s bb M σ H ε μ _ _ _ _ a (SReps.of rp) k q⟩
    · exact q.elim⟩
/-- o[i] = v, o a list that may change -/
def dgSub (to_ ti : DTE) : DTG := fun x ε μ Φ => to_ ε μ fun o μ1 => ti ε μ1 fun i μ2 => match o, i with
  | .m n, .d (.int k) => ∃ xs j, μ2[n]? = some (.lst xs) ∧ ixN xs.length k = some j ∧ Φ ε (μ2.set n (.lst (xs.set j x)))
  | _, _ => False
theorem dg_sub (ho : DE X B a ua ta) (hi : DE X B b ub tb)
    (ha : ∀ v, assign (.Subscript a b pos) X.env v = (do
      let ov ← holding [v] (eval a X.env)
      let iv ← holding [v, ov] (eval b X.env)
      standAt pos
      holding [v, ov, iv] (setItem ov iv v)
      release [v, ov, iv] []) := by intro _; rfl) : DG X B (.Subscript a b pos) (gSub ua ub rSetL) (dgSub ta tb) :=
  ⟨pg_sub ho.p hi.p set_list ha, fun bb M σ H ε μ v x Φ Q a r k q =>
    ho.s bb M σ H ε μ _ _ a (fun vo M1 H1 xo μ1 l1 w1 r1 q1 => hi.s bb M1 σ H1 ε μ1 _ _ (a.next l1 w1) (fun vi M2 H2 xi μ2 l2 w2 r2 q2 => by
      split at q2
      · obtain ⟨xs, j, hm, hj, q2⟩ := q2
        obtain ⟨p, rfl, hp, us, hv, rs⟩ := Rv.m_inv w2 (l2.srep r1) hm
        have hn := mem_of_get hp
        refine ⟨p, us, _, j, rfl, r2.int_inv, hv, by rw [rs.length]; exact hj, ?_⟩
        have w3 := wd_set (μ := μ2) (o := .lst (us.set j v)) (mo := .lst (xs.set j x)) w2 hp ⟨us.set j v, upd_same, rs.set ((l1.trans l2).srep r) j⟩
        have l3 := le_set (o := .lst (us.set j v)) w2 hn
        exact k M2 σ _ ε _ ((l1.trans l2).trans l3) (a.next ((l1.trans l2).trans l3) w3) q2
      · exact q2.elim) q1) q⟩
def dAsg (t : DTE) (g : DTG) : DTS := fun Φ ε μ => t ε μ fun x μ1 => g x ε μ1 Φ.nx
theorem ds_asg {vg : TG} {dg : DTG} (he : DE X B e ue te) (hg : DG X B a vg dg) (hs : swapsWithSole [a] e pos.line X.env = pure false := by rfl) (hw : swappedStores [a] e X.env = pure none := by rfl)
    (h1 : (assignEach [a] X.env).map (·.2) = [assign a X.env] := by rfl) : DS X B (.Assign [a] e pos) (tAsg ue vg) (dAsg te dg) :=
  ⟨ps_asg he.p hg.p hs hw h1, fun bb M σ H ε μ Φ D a E q => he.s bb M σ H ε μ _ _ a (fun v M1 H1 x μ1 l1 w1 r1 q1 =>
    hg.s bb M1 σ H1 ε μ1 _ _ _ _ (a.next l1 w1) r1 (fun M2 σ2 H2 ε2 μ2 l2 a2 q2 => E.nx M2 σ2 H2 ε2 μ2 a2 q2) q1) q⟩
/-- x, y = a, b -/
def dPar (i j : Nat) (t : DTA) : DTS := fun Φ ε μ => t ε μ fun xs μ1 => match xs with
  | [x, y] => Φ.nx ((ε.set i (some x)).set j (some y)) μ1
  | _ => False
theorem ds_par {i j : Nat} {x y : Str} {px py pt : Pos} {kt k2 pt2} (hc : X.calm = true) (hN : X.N.Nodup) (hi : X.N[i]? = some x) (hj : X.N[j]? = some y) (hij : i ≠ j)
    (hx : X.env.scope.names.lookup x = some .local) (hy : X.env.scope.names.lookup y = some .local) (ha : DA X B [a, b] ul tl)
    (hw : swappedStores [.Tuple [.Name x px, .Name y py] kt pt] (.Tuple [a, b] k2 pt2) X.env = pure (some [x, y]))
    (hs : swapsWithSole [.Tuple [.Name x px, .Name y py] kt pt] (.Tuple [a, b] k2 pt2) pos.line X.env = pure false := by rfl) :
    DS X B (.Assign [.Tuple [.Name x px, .Name y py] kt pt] (.Tuple [a, b] k2 pt2) pos) (tPar i j ul) (dPar i j tl) :=
  ⟨ps_par hc hN hi hj hij hx hy ha.p hw hs, fun bb M σ H ε μ Φ D a E q => ha.s bb M σ H ε μ _ _ a (fun v M1 H1 x μ1 l1 w1 r1 q1 => by
    split at q1
    · cases r1 with
      | cons ra r2 => cases r2 with
        | cons rb r3 =>
          cases r3
          exact ⟨_, _, rfl, E.nx M1 _ H1 _ μ1 (((a.next l1 w1).set i ra).set j rb) q1⟩
    · exact q1.elim) q⟩
/-- x += e -/
def dAug (i : Nat) (t : DTE) (r : SV → SV → DSt → DK → Prop) : DTS := fun Φ ε μ => lk ε i fun x => t ε μ fun y μ1 => r x y μ1 fun z μ2 => Φ.nx (ε.set i (some z)) μ2
theorem ds_aug {i : Nat} {x : Str} {op : Operator} {ti : TIp} {rd : SV → SV → DSt → DK → Prop} {pos' : Pos} (hN : X.N.Nodup) (hi : X.N[i]? = some x) (hx : Loc X.env.scope x) (he : DE X B e ue te) (ho : PIp X op ti) (hr : SimR B ti rd)
    (hf : X.fn x = true ∨ X.env.scope.names.lookup x = some .local := by first | exact .inl rfl | exact .inr rfl | assumption) : DS X B (.AugAssign (.Name x pos') op e pos) (tAug i ue ti) (dAug i te rd) :=
  ⟨ps_aug hN hi hx he.p ho hf, fun bb M σ H ε μ Φ D a E q => by
    obtain ⟨x, h1, h2⟩ := lk_get q
    obtain ⟨v, h3, r⟩ := a.env.at_ i x h1
    exact ⟨v, h3, he.s bb M σ H ε μ _ _ a (fun w M1 H1 y μ1 l1 w1 r1 q1 => hr M1 H1 μ1 _ _ _ _ _ _ w1 (l1.srep r) r1 (fun u M2 H2 z μ2 l2 w2 r2 q2 => E.nx M2 _ H2 _ μ2 ((a.next (l1.trans l2) w2).set i r2) q2) q1) h2⟩⟩
theorem sim_ipI {f : Int → Int → Int} : SimR B (ipI f) (dI0 fun i j => .int (f i j)) := fun M H μ v w x y Φ Q W rx ry k h => by
  unfold dI0 at h
  split at h
  · exact ⟨_, _, rx.int_inv, ry.int_inv, k _ M H _ μ (Le.refl M H) W (.d (.int _)) h⟩
  · exact h.elim
/-! while -/
def dWhile (c : DTT) (t : DTS) : DTS := fun Φ ε μ => ∃ W : Nat → DEnv → DSt → Prop, (∃ m, W m ε μ) ∧ ∀ m ε μ, W m ε μ → c ε μ fun k μ1 => bcase k (t { Φ with nx := fun ε2 μ2 => ∃ m', m' < m ∧ W m' ε2 μ2, ct := fun ε2 μ2 => ∃ m', m' < m ∧ W m' ε2 μ2, bk := Φ.nx } ε μ1) (Φ.nx ε μ1)
theorem ds_while {vc : TT} {dc : DTT} (hp : PassesOwn (model X.prog X.w) X.A X.env X.xe) (hc : DT X B c vc dc) (hb : DSs X B body vb db) : DS X B (.While c body [] pos) (tWhile vc vb) (dWhile dc db) :=
  ⟨ps_while hp hc.p hb.p, fun bb M σ H ε μ Φ D a E q => by
    obtain ⟨W, ⟨m0, w0⟩, hw⟩ := q
    refine ⟨fun m σ H => ∃ M ε μ, At bb M σ H ε μ ∧ W m ε μ, ⟨m0, M, ε, μ, a, w0⟩, fun m σ H ⟨M, ε, μ, a, w⟩ => ?_⟩
    refine hc.s bb M σ H ε μ _ _ a (fun k M1 H1 μ1 l1 w1 q1 => ?_) (hw m ε μ w)
    cases k with
    | true =>
      refine ⟨fun σ' H' => ∃ m', m' < m ∧ ∃ M ε μ, At bb M σ' H' ε μ ∧ W m' ε μ, fun σ' H' z => z, ?_⟩
      have nxt : ∀ M σ H ε μ, At bb M σ H ε μ → (∃ m', m' < m ∧ W m' ε μ) → ∃ m', m' < m ∧ ∃ M ε μ, At bb M σ H ε μ ∧ W m' ε μ := fun M σ H ε μ a ⟨m', h1, h2⟩ => ⟨m', h1, M, ε, μ, a, h2⟩
      exact hb.s bb M1 σ H1 ε μ1 { Φ with nx := fun ε2 μ2 => ∃ m', m' < m ∧ W m' ε2 μ2, ct := fun ε2 μ2 => ∃ m', m' < m ∧ W m' ε2 μ2, bk := Φ.nx } _ (a.next l1 w1) ⟨nxt, E.rt, E.nx, nxt, E.fl⟩ q1
    | false => exact E.nx M1 σ H1 ε μ1 (a.next l1 w1) q1⟩
/-! ### walks -/
structure WalkD (B : Bs) (J : It) (xs : List SV) (G : DSt → Prop) (M1 : Mk) (H1 : Hp) : Prop where
  go : ∀ M H μ i, Sub (wo M1 H1) (wo M H) → Ids M1 M → Wd B.K M H μ → G μ → i < xs.length → J.go i H
  stop : ∀ M H μ, Sub (wo M1 H1) (wo M H) → Ids M1 M → Wd B.K M H μ → G μ → J.stop xs.length H
  yld : ∀ M H μ i v H', Sub (wo M1 H1) (wo M H) → Ids M1 M → Wd B.K M H μ → G μ → i < xs.length → J.yld i H v H' → ∃ x, xs[i]? = some x ∧ Le M H M H' ∧ Wd B.K M H' μ ∧ Rv B M H' v x
abbrev DTI := DEnv → DSt → (List SV → (DSt → Prop) → DSt → Prop) → Prop
def SimI (B : Bs) (wi : TI) (t : DTI) : Prop := ∀ (bb : Ba B) (M : Mk) (σ : L2.St) (H : Hp) (ε : DEnv) (μ : DSt) (Φ : List SV → (DSt → Prop) → DSt → Prop) (R : It → Hp → Prop), At bb M σ H ε μ →
  (∀ J M' H' xs G μ', Le M H M' H' → Wd B.K M' H' μ' → WalkD B J xs G M' H' → Φ xs G μ' → R J H') → t ε μ Φ → wi σ H R
structure DI (X : Cx) (B : Bs) (tg e : Expr) (u : TI) (t : DTI) : Prop where
  p : PI X tg e u
  s : SimI B u t
def dFor (ti : DTI) (g : DTG) (tb : DTS) : DTS := fun Φ ε μ => ti ε μ fun xs G μ1 => ∃ I : Nat → DEnv → DSt → Prop, I 0 ε μ1 ∧ (∀ i ε μ, i ≤ xs.length → I i ε μ → G μ) ∧
  (∀ i x ε μ, xs[i]? = some x → I i ε μ → g x ε μ fun ε2 μ2 => tb { Φ with nx := I (i + 1), ct := I (i + 1), bk := Φ.nx, fl := μ1.length } ε2 μ2) ∧ ∀ ε μ, I xs.length ε μ → Φ.nx ε μ
theorem ds_for {iter : Expr} {vi : TI} {di : DTI} {vg : TG} {dg : DTG} (hp : PassesOwn (model X.prog X.w) X.A X.env X.xe) (hc : X.calm = true) (hi : DI X B a iter vi di) (hg : DG X B a vg dg) (hb : DSs X B body vb db)
    (hs : ∀ x, foldedSetIterable iter X.env x = pure x := by intro _; rfl) : DS X B (.For a iter body [] pos) (tFor vi vg vb) (dFor di dg db) :=
  ⟨ps_for hp hc hi.p hg.p hb.p hs, fun bb M σ H ε μ Φ D a E q => hi.s bb M σ H ε μ _ _ a (fun J M1 H1 xs G μ1 l1 w1 wk q1 => by
    obtain ⟨I, i0, iG, is, ie⟩ := q1
    let b1 := bb.move (a.le.trans l1)
    have a1 : At b1 M1 σ H1 ε μ1 := ⟨Le.refl _ _, w1, (a.next l1 w1).env⟩
    have back : ∀ {M σ H ε μ}, At b1 M σ H ε μ → At bb M σ H ε μ := fun z => ⟨(a.le.trans l1).trans z.le, z.wd, z.env⟩
    refine ⟨fun i m σ H => m = xs.length - i ∧ i ≤ xs.length ∧ ∃ M ε μ, At b1 M σ H ε μ ∧ I i ε μ, ⟨xs.length, by simp, Nat.zero_le _, M1, ε, μ1, a1, i0⟩, ?_⟩
    rintro i m σ H ⟨rfl, hi, M, ε, μ, az, iz⟩
    have hG := iG i ε μ hi iz
    by_cases hlt : i < xs.length
    · have nxt : ∀ M σ H ε μ, At b1 M σ H ε μ → I (i + 1) ε μ → ∃ M ε μ, At b1 M σ H ε μ ∧ I (i + 1) ε μ := fun M σ H ε μ a z => ⟨M, ε, μ, a, z⟩
      refine .inr ⟨wk.go M H μ i az.le.sub az.le.ids az.wd hG hlt, fun σ H => ∃ M ε μ, At b1 M σ H ε μ ∧ I (i + 1) ε μ, fun σ' H' z => ⟨xs.length - (i + 1), by omega, rfl, hlt, z⟩, fun v H' hy => ?_⟩
      obtain ⟨x, hx, l2, w2, r2⟩ := wk.yld M H μ i v H' az.le.sub az.le.ids az.wd hG hlt hy
      refine hg.s b1 M σ H' ε μ v x _ _ (az.next l2 w2) r2 (fun M3 σ3 H3 ε3 μ3 l3 a3 q3 => ?_) (is i x ε μ hx iz)
      exact hb.s b1 M3 σ3 H3 ε3 μ3 { Φ with nx := I (i + 1), ct := I (i + 1), bk := Φ.nx, fl := μ1.length } _ a3 ⟨nxt, fun v M H x μ l => E.rt v M H x μ ((a.le.trans l1).trans l), fun M σ H ε μ z => E.nx M σ H ε μ (back z), nxt, Nat.le_of_eq w1.len⟩ q3
    · have e : i = xs.length := by omega
      subst e
      exact .inl ⟨wk.stop M H μ az.le.sub az.le.ids az.wd hG, E.nx M σ H ε μ (back az) (ie ε μ iz)⟩) q⟩
/-! which -/
/-- over a list or a tuple as it stands; a list that may change: while it stands -/
def diSeq (t : DTE) : DTI := fun ε μ Φ => t ε μ fun x μ1 => match x with
  | .d (.lst ds) => Φ (ds.map SV.d) (fun _ => True) μ1
  | .d (.lsr ds) => Φ (ds.map SV.d) (fun _ => True) μ1
  | .m n => ∃ xs, μ1[n]? = some (.lst xs) ∧ Φ xs (fun μ => μ[n]? = some (.lst xs)) μ1
  | _ => False
theorem walkd_l {p : Addr} {us : List V} {ds : List D} {M1 : Mk} {H1 : Hp} (hq : SqL B.K (wo M1 H1) p us) (r : Reps B.K (wo M1 H1) us ds) : WalkD B (Itl B.K p) (ds.map SV.d) (fun _ => True) M1 H1 := by
  have hl : (ds.map SV.d).length = us.length := by rw [List.length_map, r.length]
  have hq' : ∀ {M H}, Sub (wo M1 H1) (wo M H) → SqL B.K H p us := fun s => (wo_sub _ _).sql (s.sql hq)
  refine ⟨fun M H μ i s _ _ _ h => walk_list.goes i H (by rw [← hl]; exact h) (hq' s), fun M H μ s _ _ _ => by rw [hl]; exact walk_list.stops H (hq' s), fun M H μ i v H' s j w _ h y => ?_⟩
  obtain ⟨rfl, hv⟩ := walk_list.yields i H v H' (by rw [← hl]; exact h) (hq' s) y
  obtain ⟨x, hx, rx⟩ := r.getV hv
  exact ⟨.d x, by rw [List.getElem?_map, hx]; rfl, Le.refl M _, w, .d (rx.mono s)⟩
theorem walkd_m {p : Addr} {n : Nat} {xs : List SV} {M1 : Mk} {H1 : Hp} (hp : M1.ids[n]? = some (some p)) : WalkD B (Itl B.K p) xs (fun μ => μ[n]? = some (.lst xs)) M1 H1 := by
  have key : ∀ {M H μ}, Ids M1 M → Wd B.K M H μ → μ[n]? = some (.lst xs) → ∃ us, H p = some (.lst us) ∧ SReps B.K M (wo M H) us xs := fun j w g => by
    obtain ⟨mo, h1, r⟩ := w.ob n p (j n p hp)
    rw [g] at h1
    cases h1
    exact r
  refine ⟨fun M H μ i s j w g h => ?_, fun M H μ s j w g => ?_, fun M H μ i v H' s j w g h y => ?_⟩
  · obtain ⟨us, hu, ru⟩ := key j w g
    exact walk_list.goes i H (by rw [ru.length]; exact h) (.inl (.inl hu))
  · obtain ⟨us, hu, ru⟩ := key j w g
    rw [← ru.length]
    exact walk_list.stops H (.inl (.inl hu))
  · obtain ⟨us, hu, ru⟩ := key j w g
    obtain ⟨rfl, hv⟩ := walk_list.yields i H v H' (by rw [ru.length]; exact h) (.inl (.inl hu)) y
    obtain ⟨x, hx, rx⟩ := ru.getV hv
    exact ⟨x, hx, Le.refl M _, w, rx⟩
theorem di_seq {tg : Expr} (h : DE X B e ue te) (hK : B.K = X.K := by rfl) : DI X B tg e (iList B.K ue) (diSeq te) := by
  obtain ⟨Kb, Eb, Ψb⟩ := B
  have hK : Kb = X.K := hK
  subst hK
  have hK : X.K = X.K := rfl
  exact ⟨pi_list h.p, fun bb M σ H ε μ Φ R a k q => h.s bb M σ H ε μ _ _ a (fun v M1 H1 x μ1 l1 w1 r1 q1 => by
  rw [← hK]
  split at q1
  · obtain ⟨p, us, rfl, hp, rp⟩ := r1.lst_inv
    exact ⟨p, rfl, ⟨us, .inl (.inl (wo_sub M1 H1 _ _ hp))⟩, k _ M1 H1 _ _ μ1 l1 w1 (walkd_l (.inl (.inl hp)) rp) q1⟩
  · obtain ⟨p, us, rfl, hp, rp⟩ := r1.lsr_inv
    exact ⟨p, rfl, ⟨us, (wo_sub M1 H1).sql hp⟩, k _ M1 H1 _ _ μ1 l1 w1 (walkd_l hp rp) q1⟩
  · obtain ⟨xs, hm, q1⟩ := q1
    obtain ⟨p, rfl, hp, us, hu, ru⟩ := r1.m_inv w1 hm
    exact ⟨p, rfl, ⟨us, .inl (.inl hu)⟩, k _ M1 H1 _ _ μ1 l1 w1 (walkd_m hp) q1⟩
  · exact q1.elim) q⟩
def diTup (t : DTE) : DTI := fun ε μ Φ => t ε μ fun x μ1 => match x with
  | .d (.tup ds) => Φ (ds.map SV.d) (fun _ => True) μ1
  | _ => False
theorem walkd_t {p : Addr} {us : List V} {ds : List D} {M1 : Mk} {H1 : Hp} (hq : SqT B.K (wo M1 H1) p us) (r : Reps B.K (wo M1 H1) us ds) : WalkD B (Itt B.K p) (ds.map SV.d) (fun _ => True) M1 H1 := by
  have hl : (ds.map SV.d).length = us.length := by rw [List.length_map, r.length]
  have hq' : ∀ {M H}, Sub (wo M1 H1) (wo M H) → SqT B.K H p us := fun s => (wo_sub _ _).sqt (s.sqt hq)
  refine ⟨fun M H μ i s _ _ _ h => walk_tup.goes i H (by rw [← hl]; exact h) (hq' s), fun M H μ s _ _ _ => by rw [hl]; exact walk_tup.stops H (hq' s), fun M H μ i v H' s j w _ h y => ?_⟩
  obtain ⟨rfl, hv⟩ := walk_tup.yields i H v H' (by rw [← hl]; exact h) (hq' s) y
  obtain ⟨x, hx, rx⟩ := r.getV hv
  exact ⟨.d x, by rw [List.getElem?_map, hx]; rfl, Le.refl M _, w, .d (rx.mono s)⟩
theorem di_tup {tg : Expr} (h : DE X B e ue te) (hK : B.K = X.K := by rfl) : DI X B tg e (iTup B.K ue) (diTup te) := by
  obtain ⟨Kb, Eb, Ψb⟩ := B
  have hK : Kb = X.K := hK
  subst hK
  have hK : X.K = X.K := rfl
  exact ⟨pi_tup h.p, fun bb M σ H ε μ Φ R a k q => h.s bb M σ H ε μ _ _ a (fun v M1 H1 x μ1 l1 w1 r1 q1 => by
  rw [← hK]
  split at q1
  · obtain ⟨p, us, rfl, hp, rp⟩ := r1.tup_inv
    exact ⟨p, rfl, ⟨us, (wo_sub M1 H1).sqt hp⟩, k _ M1 H1 _ _ μ1 l1 w1 (walkd_t hp rp) q1⟩
  · exact q1.elim) q⟩
/-- lo, lo + 1, .. n of them -/
def rangeD (lo : Int) (n : Nat) : List SV := (List.range n).map fun i => .d (.int (lo + (i : Nat)))
theorem rangeD_len {lo : Int} {n : Nat} : (rangeD lo n).length = n := by unfold rangeD; rw [List.length_map, List.length_range]
theorem rangeD_get {lo : Int} {n i : Nat} (h : i < n) : (rangeD lo n)[i]? = some (.d (.int (lo + (i : Nat)))) := by
  unfold rangeD
  rw [List.getElem?_map, List.getElem?_range h]
  rfl
theorem walkd_r {lo : Int} {n : Nat} {M1 : Mk} {H1 : Hp} : WalkD B (Itr lo n) (rangeD lo n) (fun _ => True) M1 H1 := by
  refine ⟨fun M H μ i s _ _ _ h => walk_range.goes i H (by rw [rangeD_len] at h; exact h) trivial, fun M H μ s _ _ _ => by rw [rangeD_len]; exact walk_range.stops H trivial, fun M H μ i v H' s j w _ h y => ?_⟩
  rw [rangeD_len] at h
  obtain ⟨rfl, rfl⟩ := walk_range.yields i H v H' h trivial y
  exact ⟨_, rangeD_get h, Le.refl M _, w, .d (.int _)⟩
def diR1 (t : DTA) : DTI := fun ε μ Φ => t ε μ fun xs μ1 => match xs with
  | [.d (.int n)] => (-(2 ^ 62) ≤ n ∧ n < 2 ^ 62) ∧ Φ (rangeD 0 n.toNat) (fun _ => True) μ1
  | _ => False
theorem SReps.int1 {M : Mk} {H : Hp} {vs : List V} {n : Int} (r : Rvs B M H vs [.d (.int n)]) : vs = [.int n] := by
  cases r with
  | cons r1 r2 =>
    cases r2
    rw [Rv.int_inv r1]
theorem SReps.int2 {M : Mk} {H : Hp} {vs : List V} {n m : Int} (r : Rvs B M H vs [.d (.int n), .d (.int m)]) : vs = [.int n, .int m] := by
  cases r with
  | cons r1 r2 => cases r2 with
    | cons r2 r3 =>
      cases r3
      rw [Rv.int_inv r1, Rv.int_inv r2]
theorem di_range1 {tg : Expr} {p : Pos} (hg : Gl X "range") (hm : X.mg "range" = none) (h : DA X B [a] ul tl) (hs : starEach [a] X.env = [(false, eval a X.env)] := by rfl) : DI X B tg (.Call (.Name "range" p) [a] [] pos) (iRng1 ul) (diR1 tl) :=
  ⟨pi_range1 hg hm h.p hs, fun bb M σ H ε μ Φ R a k q => h.s bb M σ H ε μ _ _ a (fun v M1 H1 x μ1 l1 w1 r1 q1 => by
    split at q1
    · exact ⟨_, SReps.int1 r1, q1.1.1, q1.1.2, k _ M1 H1 _ _ μ1 l1 w1 walkd_r q1.2⟩
    · exact q1.elim) q⟩
def diR2 (t : DTA) : DTI := fun ε μ Φ => t ε μ fun xs μ1 => match xs with
  | [.d (.int i), .d (.int j)] => (-(2 ^ 62) ≤ i ∧ i < 2 ^ 62 ∧ -(2 ^ 62) ≤ j ∧ j < 2 ^ 62) ∧ Φ (rangeD i (j - i).toNat) (fun _ => True) μ1
  | _ => False
theorem di_range2 {tg : Expr} {p : Pos} (hg : Gl X "range") (hm : X.mg "range" = none) (h : DA X B [a, b] ul tl) (hs : starEach [a, b] X.env = [(false, eval a X.env), (false, eval b X.env)] := by rfl) (hs2 : starEach [b] X.env = [(false, eval b X.env)] := by rfl) :
    DI X B tg (.Call (.Name "range" p) [a, b] [] pos) (iRng2 ul) (diR2 tl) :=
  ⟨pi_range2 hg hm h.p hs hs2, fun bb M σ H ε μ Φ R a k q => h.s bb M σ H ε μ _ _ a (fun v M1 H1 x μ1 l1 w1 r1 q1 => by
    split at q1
    · exact ⟨_, _, SReps.int2 r1, q1.1, k _ M1 H1 _ _ μ1 l1 w1 walkd_r q1.2⟩
    · exact q1.elim) q⟩
/-- the items with their numbers -/
def enumD (lo : Int) (ds : List D) : List SV := (List.range ds.length).map fun i => .d (.tup [.int (lo + (i : Nat)), ds.getD i .non])
theorem enumD_len {lo : Int} {ds : List D} : (enumD lo ds).length = ds.length := by unfold enumD; rw [List.length_map, List.length_range]
theorem enumD_get {lo : Int} {ds : List D} {i : Nat} {x : D} (h : ds[i]? = some x) : (enumD lo ds)[i]? = some (.d (.tup [.int (lo + (i : Nat)), x])) := by
  have hl := (List.getElem?_eq_some_iff.mp h).1
  unfold enumD
  rw [List.getElem?_map, List.getElem?_range hl]
  simp [h]
end
end DV

set_option Elab.async false
set_option linter.all false
set_option maxRecDepth 100000
namespace DV
open PySem PySem.Spec PyProof.Rows L2

theorem wpAny_pyNext_enum_endL {prog : Program} {w : World} {A : Around} {E : Value → Shared → Prop} {s : Shared} {e it l : Addr} {i : Nat} {c : Int} {items : Array Value} {old : Value} {Q : Option Value → Shared → Prop} (hh : A.handled = none)
    (he : IsEnum s.heap e it c old) (hit : s.heap.IsListIter it l i) (hl : s.heap.IsList l items) (hx : items[i]? = none)
    (hQ : ∀ h', Heap.ExtBut it s.heap h' → Q none { s with heap := h' }) : wpAny (model prog w) A (pyNext (.ref e)) Q E s := by
  have hT : s.TypeIs (.ref e) "enumerate" := ⟨_, he, rfl⟩
  unfold pyNext
  refine wpAny_bind (wpAny_attempt (wpAny_callSpecial?_slot (name := Str.ofString "__next__") hT F.slot_enumerate_next
    (wpAny_call_entry F.slot_enumerate_next hT F.entry_enumerate_next ?_ (F.args_enumerate_next_1 _))))
  show wpAny _ _ (field (.ref e) 2 >>= _) _ _ _
  refine wpAny_bind (wpAny_field he rfl (x := .ref it) rfl ?_)
  refine wpAny_bind (wpAny_nextOf_list_end hh hit hl hx fun h' x he' hx' => ?_)
  obtain ⟨o, ho, hc⟩ := hx'
  refine wpAny_bind (wpAny_isInstance (T := "StopIteration") (b := true) ⟨o, ho, hc⟩ isSubtype_stop ?_)
  exact wpAny_pure (hQ _ he')

theorem wpAny_pyNext_enum_endT {prog : Program} {w : World} {A : Around} {E : Value → Shared → Prop} {s : Shared} {e it l : Addr} {i : Nat} {c : Int} {items : Array Value} {old : Value} {Q : Option Value → Shared → Prop} (hh : A.handled = none)
    (he : IsEnum s.heap e it c old) (hit : s.heap.IsTupleIter it l i) (hl : s.heap.IsTuple l items) (hx : items[i]? = none)
    (hQ : ∀ h', Heap.ExtBut it s.heap h' → Q none { s with heap := h' }) : wpAny (model prog w) A (pyNext (.ref e)) Q E s := by
  have hT : s.TypeIs (.ref e) "enumerate" := ⟨_, he, rfl⟩
  unfold pyNext
  refine wpAny_bind (wpAny_attempt (wpAny_callSpecial?_slot (name := Str.ofString "__next__") hT F.slot_enumerate_next
    (wpAny_call_entry F.slot_enumerate_next hT F.entry_enumerate_next ?_ (F.args_enumerate_next_1 _))))
  show wpAny _ _ (field (.ref e) 2 >>= _) _ _ _
  refine wpAny_bind (wpAny_field he rfl (x := .ref it) rfl ?_)
  refine wpAny_bind (wpAny_nextOf_tuple_end hh hit hl hx fun h' x he' hx' => ?_)
  obtain ⟨o, ho, hc⟩ := hx'
  refine wpAny_bind (wpAny_isInstance (T := "StopIteration") (b := true) ⟨o, ho, hc⟩ isSubtype_stop ?_)
  exact wpAny_pure (hQ _ he')

/-- enumerate over the list at a, from c0 -/
def IteL (K : PySem.W.Frag) (a : Addr) (c0 : Int) : It :=
  ⟨fun i H => ∃ (xs : List V) (x : V), SqL K H a xs ∧ xs[i]? = some x, fun i H v H' => ∃ T x, v = .ref T ∧ H T = none ∧ H' = upd H T (.tup [.int (c0 + (i : Nat)), x]) ∧ ∀ xs, SqL K H a xs → xs[i]? = some x, fun i H => ∃ xs : List V, SqL K H a xs ∧ xs.length ≤ i⟩
theorem turn_enumL {P : Program} {w : World} {K : PySem.W.Frag} {elts : List Expr} {kk : Nat} {tpos : Pos} (a e it : Addr) (c0 : Int) (hai : a ≠ it) (hae : a ≠ e) :
    Turn P w K (.Tuple elts kk tpos) (IteL K a c0) [e, it] e (fun i h => (∃ old, IsEnum h e it (c0 + (i : Nat)) old) ∧ h.IsListIter it a i ∧ e ≠ it) where
  mem := by simp
  obj := fun i h st b hb => by
    obtain ⟨⟨old, he⟩, ⟨o, ho, hc, hd⟩, _⟩ := st
    have e' : b = e ∨ b = it := by simpa using hb
    rcases e' with z | z
    · rw [z]; exact ⟨_, he, fun v q => nomatch q⟩
    · rw [z]; exact ⟨o, ho, fun v q => by rw [hd] at q; cases q⟩
  keep := fun i h h' st k => let ⟨⟨old, he⟩, hi, hne⟩ := st; ⟨⟨old, k e (by simp) _ he⟩, hi.at fun o q => k it (by simp) o q, hne⟩
  item := by
    intro X hP hw hK hc i pins s σ H E I hf st hg
    subst hP hw hK
    obtain ⟨⟨old, he⟩, hit, hne⟩ := st
    obtain ⟨xs, x, hq, hx⟩ := hg
    obtain ⟨its, rv, p, hz⟩ := I.list hq
    obtain ⟨u, hu, ru⟩ := rv.get hx
    have hel : e < s.heap.objs.size := Heap.lt_size he
    have hil : it < s.heap.objs.size := by obtain ⟨_, q, _⟩ := hit; exact Heap.lt_size q
    have hi' : i < its.toArray.size := by simpa using (List.getElem?_eq_some_iff.mp hu).1
    refine wpAny_pyNext_enum_itemC (Draws.list (show X.A.in1.handled = none from I.ok.hd hc) it a hai its.toArray) he ⟨hit, p.isList⟩ hi' hne (by simp [hne, Ne.symm hae]) fun x' h' tk hP' ho hit' hT hsz hk => ?_
    have hxu : x' = u := by
      have h1 : its[i]? = some x' := by simpa using hP'
      rw [hu] at h1
      exact (Option.some.inj h1).symm
    rw [hxu] at hT ho
    refine ⟨_, rfl, wpAny_letOwnedTupleGo_enum (s := { s with heap := h', toks := tk + 1 }) ho fun h'' he' sb => ?_⟩
    have hT2 : h''.get? s.heap.objs.size = some { cls := .type "tuple", data := .seq #[.int (c0 + (i : Nat)) tk, u] } := (sb.2 _ (Nat.ne_of_gt hel)).trans hT
    have new : ObjOk X.prog X.w (upd H s.heap.objs.size (.tup [.int (c0 + (i : Nat)), x])) h'' s.heap.objs.size (.tup [.int (c0 + (i : Nat)), x]) :=
      ⟨by show 2 ≤ sizeLine; decide, [.int (c0 + (i : Nat)) tk, u], .cons ⟨_, rfl⟩ (.cons ru .nil), ⟨_, hT2, rfl, _, rfl⟩⟩
    have I1 : Inv X pins σ (upd H s.heap.objs.size (.tup [.int (c0 + (i : Nat)), x])) { s with heap := h'', toks := tk + 1 } :=
      I.turnedNew (ch := [e, it]) (fun b ob hb q => (sb.2 b (fun z => hb (by simp [z]))).trans (hk b ob (fun z => hb (by simp [z])) (fun z => hb (by simp [z])) q)) hf (Nat.le_refl _) new
    refine ⟨.ref s.heap.objs.size, _, I1, rfl, ⟨_, x, rfl, I.hok.fresh (Nat.le_refl _), rfl, fun ys hy => by rw [I.list_inj hy hq]; exact hx⟩, ⟨⟨u, ?_⟩, hit'.1.at fun o q => (sb.2 it (Ne.symm hne)).trans q, hne⟩, fun b hb => ?_⟩
    · have e1 : c0 + ((i + 1 : Nat) : Int) = c0 + (i : Int) + 1 := by omega
      rw [e1]; exact he'
    · have hb' : b < s.heap.objs.size := by
        have e' : b = e ∨ b = it := by simpa using hb
        rcases e' with z | z
        · rw [z]; exact hel
        · rw [z]; exact hil
      rw [upd_ne (Nat.ne_of_lt hb')]
      exact (hf b hb).1
  done := by
    intro X hP hw hK hc i pins s σ H E I hf st hg
    subst hP hw hK
    obtain ⟨⟨old, he⟩, hit, hne⟩ := st
    obtain ⟨xs, hq, hx⟩ := hg
    obtain ⟨its, rv, p, hz⟩ := I.list hq
    obtain ⟨f0, f1, f2, f3, f4, f5⟩ := hf it (by simp)
    have hl := rv.length
    exact wpAny_pyNext_enum_endL (I.ok.hd hc) he hit p.isList (by simp; omega) fun h' eb => ⟨rfl, I.turned (t' := s.toks) (fun b o hb q => eb b o hb q) f0 f1 f3 f4 f5⟩
  self := fun A i s Q E st h => let ⟨⟨_, he⟩, _⟩ := st; wpAny_pyIter_enum he h

/-- enumerate over the tuple at a, from c0 -/
def IteT (K : PySem.W.Frag) (a : Addr) (c0 : Int) : It :=
  ⟨fun i H => ∃ (xs : List V) (x : V), SqT K H a xs ∧ xs[i]? = some x, fun i H v H' => ∃ T x, v = .ref T ∧ H T = none ∧ H' = upd H T (.tup [.int (c0 + (i : Nat)), x]) ∧ ∀ xs, SqT K H a xs → xs[i]? = some x, fun i H => ∃ xs : List V, SqT K H a xs ∧ xs.length ≤ i⟩
theorem turn_enumT {P : Program} {w : World} {K : PySem.W.Frag} {elts : List Expr} {kk : Nat} {tpos : Pos} (a e it : Addr) (c0 : Int) (hai : a ≠ it) (hae : a ≠ e) :
    Turn P w K (.Tuple elts kk tpos) (IteT K a c0) [e, it] e (fun i h => (∃ old, IsEnum h e it (c0 + (i : Nat)) old) ∧ h.IsTupleIter it a i ∧ e ≠ it) where
  mem := by simp
  obj := fun i h st b hb => by
    obtain ⟨⟨old, he⟩, ⟨o, ho, hc, hd⟩, _⟩ := st
    have e' : b = e ∨ b = it := by simpa using hb
    rcases e' with z | z
    · rw [z]; exact ⟨_, he, fun v q => nomatch q⟩
    · rw [z]; exact ⟨o, ho, fun v q => by rw [hd] at q; cases q⟩
  keep := fun i h h' st k => let ⟨⟨old, he⟩, hi, hne⟩ := st; ⟨⟨old, k e (by simp) _ he⟩, hi.at fun o q => k it (by simp) o q, hne⟩
  item := by
    intro X hP hw hK hc i pins s σ H E I hf st hg
    subst hP hw hK
    obtain ⟨⟨old, he⟩, hit, hne⟩ := st
    obtain ⟨xs, x, hq, hx⟩ := hg
    obtain ⟨its, rv, p, hz⟩ := I.tuple hq
    obtain ⟨u, hu, ru⟩ := rv.get hx
    have hel : e < s.heap.objs.size := Heap.lt_size he
    have hil : it < s.heap.objs.size := by obtain ⟨_, q, _⟩ := hit; exact Heap.lt_size q
    have hi' : i < its.toArray.size := by simpa using (List.getElem?_eq_some_iff.mp hu).1
    refine wpAny_pyNext_enum_itemC (Draws.tuple (show X.A.in1.handled = none from I.ok.hd hc) it a hai its.toArray) he ⟨hit, (show s.heap.IsTuple a its.toArray from p)⟩ hi' hne (by simp [hne, Ne.symm hae]) fun x' h' tk hP' ho hit' hT hsz hk => ?_
    have hxu : x' = u := by
      have h1 : its[i]? = some x' := by simpa using hP'
      rw [hu] at h1
      exact (Option.some.inj h1).symm
    rw [hxu] at hT ho
    refine ⟨_, rfl, wpAny_letOwnedTupleGo_enum (s := { s with heap := h', toks := tk + 1 }) ho fun h'' he' sb => ?_⟩
    have hT2 : h''.get? s.heap.objs.size = some { cls := .type "tuple", data := .seq #[.int (c0 + (i : Nat)) tk, u] } := (sb.2 _ (Nat.ne_of_gt hel)).trans hT
    have new : ObjOk X.prog X.w (upd H s.heap.objs.size (.tup [.int (c0 + (i : Nat)), x])) h'' s.heap.objs.size (.tup [.int (c0 + (i : Nat)), x]) :=
      ⟨by show 2 ≤ sizeLine; decide, [.int (c0 + (i : Nat)) tk, u], .cons ⟨_, rfl⟩ (.cons ru .nil), ⟨_, hT2, rfl, _, rfl⟩⟩
    have I1 : Inv X pins σ (upd H s.heap.objs.size (.tup [.int (c0 + (i : Nat)), x])) { s with heap := h'', toks := tk + 1 } :=
      I.turnedNew (ch := [e, it]) (fun b ob hb q => (sb.2 b (fun z => hb (by simp [z]))).trans (hk b ob (fun z => hb (by simp [z])) (fun z => hb (by simp [z])) q)) hf (Nat.le_refl _) new
    refine ⟨.ref s.heap.objs.size, _, I1, rfl, ⟨_, x, rfl, I.hok.fresh (Nat.le_refl _), rfl, fun ys hy => by rw [I.tuple_inj hy hq]; exact hx⟩, ⟨⟨u, ?_⟩, hit'.1.at fun o q => (sb.2 it (Ne.symm hne)).trans q, hne⟩, fun b hb => ?_⟩
    · have e1 : c0 + ((i + 1 : Nat) : Int) = c0 + (i : Int) + 1 := by omega
      rw [e1]; exact he'
    · have hb' : b < s.heap.objs.size := by
        have e' : b = e ∨ b = it := by simpa using hb
        rcases e' with z | z
        · rw [z]; exact hel
        · rw [z]; exact hil
      rw [upd_ne (Nat.ne_of_lt hb')]
      exact (hf b hb).1
  done := by
    intro X hP hw hK hc i pins s σ H E I hf st hg
    subst hP hw hK
    obtain ⟨⟨old, he⟩, hit, hne⟩ := st
    obtain ⟨xs, hq, hx⟩ := hg
    obtain ⟨its, rv, p, hz⟩ := I.tuple hq
    obtain ⟨f0, f1, f2, f3, f4, f5⟩ := hf it (by simp)
    have hl := rv.length
    exact wpAny_pyNext_enum_endT (I.ok.hd hc) he hit (show s.heap.IsTuple a its.toArray from p) (by simp; omega) fun h' eb => ⟨rfl, I.turned (t' := s.toks) (fun b o hb q => eb b o hb q) f0 f1 f3 f4 f5⟩
  self := fun A i s Q E st h => let ⟨⟨_, he⟩, _⟩ := st; wpAny_pyIter_enum he h

/-- one of both -/
def iEnumK (K : PySem.W.Frag) (c0 : Int) (ta : TA) : TI := fun σ H R => ta σ H fun vs H1 => ∃ a xs, vs = [.ref a] ∧ ((SqL K H1 a xs ∧ R (IteL K a c0) H1) ∨ (SqT K H1 a xs ∧ R (IteT K a c0) H1))
theorem PlainL.ne_of {h : Heap} {a b : Addr} {xs : Array Value} {o : Obj} (p : PlainL h a xs) (e : h.get? b = some o) (n : o.cls ≠ .type "list") : a ≠ b := by
  obtain ⟨o', n', e', c, _⟩ := p
  rintro rfl
  rw [e] at e'
  cases e'
  exact n c
theorem IsTup.ne_of {h : Heap} {a b : Addr} {xs : Array Value} {o : Obj} (p : IsTup h a xs) (e : h.get? b = some o) (n : o.cls ≠ .type "tuple") : a ≠ b := by
  obtain ⟨o', e', c, _⟩ := p
  rintro rfl
  rw [e] at e'
  cases e'
  exact n c
theorem callWith_type_kw {M : Model} {A : Around} {E : Value → Shared → Prop} {s : Shared} {env : Env} {pos : Pos} {T : String} {e : Expr} {rest : List Expr} {kws : List Keyword} {Q : Value → Shared → Prop}
    (h : wpAny M A (spliced (backTo pos (starEach (e :: rest) env))) (fun vs s₁ => wpAny M A (evalAll ((backToKw pos (keywordEach kws env)).map (·.2)))
      (fun kvs s₂ => wpAny M A (call (.type T) vs (((backToKw pos (keywordEach kws env)).filterMap (·.1)).zip kvs)) Q E s₂) E s₁) E s)
    (he : backTo pos (starEach (e :: rest) env) = (false, eval e env) :: backTo pos (starEach rest env) := by rfl)
    (hplain : (backTo pos (starEach (e :: rest) env)).any (·.1) = false := by rfl)
    (hall : (backToKw pos (keywordEach kws env)).all (·.1.isSome) = true := by rfl)
    (hkw : (backToKw pos (keywordEach kws env)).any (·.1.isNone) = false := by rfl) :
    wpAny M A (callWith pos (.type T) [] (backTo pos (starEach (e :: rest) env)) (backToKw pos (keywordEach kws env))) Q E s := by
  unfold callWith
  rw [he] at h ⊢
  rw [he] at hplain
  refine wpAny_bind (wpAny_holding (wpAny_mono (evalArgs_kwB (Q := fun a s₁ => wpAny M A (call (.type T) a.pos a.kw) Q E s₁) hall h) (fun a s₁ h₁ => wpAny_bind (wpAny_standAt ?_)) fun _ _ x => x))
  simp only [hplain, hkw, Bool.or_false]
  refine wpAny_bind (wpAny_pure ?_)
  exact wpAny_bind (wpAny_mono h₁ (fun r s₂ hr => wpAny_bind (wpAny_holding (wpAny_point (wpAny_pure hr)))) fun _ _ x => x)
set_option maxHeartbeats 1000000 in
theorem meets_enum0 {v : Value} {o : Obj} {H : Heap → Prop} (B : Begins v o H) :
    Meets (Builtin.«enumerate.__new__» ⟨[.type "enumerate", v], []⟩) (fun _ R s => H s.heap ∧
      R (.ok (.ret (.ref (s.heap.push o).objs.size))) { s with heap := (s.heap.push o).push { cls := .type "enumerate", data := .fields #[.none, .bool false, .ref s.heap.objs.size, rawInt 0, .none, .none] } }) :=
  .of_wp fun prog w A R s h => by
    obtain ⟨hp, g, d, tk, os⟩ := s; obtain ⟨h1, h⟩ := h
    have hsub := sub_enumerate
    have q1 : ∀ {A' : Around} {E : Value → Shared → Prop} {Q : Value → Shared → Prop}, Q (.ref hp.objs.size) ⟨hp.push o, g, d, tk, os⟩ → wpAny (model prog w) A' (pyIter v) Q E ⟨hp, g, d, tk, os⟩ :=
      fun q => B.iter prog w _ _ ⟨hp, g, d, tk, os⟩ _ h1 q
    wp_walk using q1
    refine wpAny_stack_any fun st => wpAny_pure ?_
    split
    · rename_i c _ _ _ _ _
      cases (c == Value.type "enumerate")
      · wp_walk using q1
        exact ⟨_, rfl, h⟩
      · wp_walk using q1
        exact ⟨_, rfl, h⟩
    · wp_walk using q1
      exact ⟨_, rfl, h⟩
section
variable {X : Cx} {e : Expr} {te : TE} {p pos tpos cpos kpos : Pos} {elts : List Expr} {kk : Nat}
theorem enum_go {pins : List (Addr × Obj)} {σ : L2.St} {H1 : Hp} {s1 : Shared} {us : List Value} {vs : List V} {c0 : Int} {kw : List (Str × Value)} {R : It → Hp → Prop} (I1 : Inv X pins σ H1 s1) (r : Vals vs us)
    (hcall : ∀ (u : Value), us = [u] → ∀ (o : Obj) (Hh : Heap → Prop) (B : Begins u o Hh), Hh s1.heap → ∀ Q : Value → Shared → Prop, (∀ h', IsEnum h' (s1.heap.objs.size + 1) s1.heap.objs.size c0 .none → h'.get? s1.heap.objs.size = some o → h'.objs.size = s1.heap.objs.size + 2 →
      (∀ b o, s1.heap.get? b = some o → h'.get? b = some o) → Q (.ref (s1.heap.objs.size + 1)) { s1 with heap := h' }) → wpAny (model X.prog X.w) X.A (call (.type "enumerate") [u] kw) Q X.xe s1)
    (h : ∃ a xs, vs = [.ref a] ∧ ((SqL X.K H1 a xs ∧ R (IteL X.K a c0) H1) ∨ (SqT X.K H1 a xs ∧ R (IteT X.K a c0) H1))) :
    wpAny (model X.prog X.w) X.A (call (.type "enumerate") us kw) (fun v s => wpAny (model X.prog X.w) X.A (pyIter v) (PIE X pins σ (.Tuple elts kk tpos) R) X.xe s) X.xe s1 := by
  obtain ⟨a, xs, rfl, q⟩ := h
  cases r with
  | cons r rr =>
  cases rr
  cases r
  have fin : ∀ h' : Heap, (∀ b o, s1.heap.get? b = some o → h'.get? b = some o) → ∀ b ∈ [s1.heap.objs.size + 1, s1.heap.objs.size], FpOk X pins H1 b := fun h' hk b hb => by
    have e' : b = s1.heap.objs.size + 1 ∨ b = s1.heap.objs.size := by simpa using hb
    have hle : s1.heap.objs.size ≤ b := by
      rcases e' with z | z
      · rw [z]; exact Nat.le_add_right _ _
      · rw [z]; exact Nat.le_refl _
    exact I1.fpOk hle (I1.hok.fresh hle)
  rcases q with ⟨hq, q⟩ | ⟨hq, q⟩
  · obtain ⟨its, rv, p', hz⟩ := I1.list hq
    refine hcall _ rfl _ _ (begins_list a its.toArray) p'.isList _ fun h' he hit hsz hk => wpAny_pyIter_enum he ?_
    have I2 : Inv X pins σ H1 { s1 with heap := h' } := I1.kept (t' := s1.toks) hk
    have hlt : a < s1.heap.objs.size := by obtain ⟨o, n, e, _⟩ := p'; exact Heap.lt_size e
    exact ⟨s1.heap.objs.size + 1, [s1.heap.objs.size + 1, s1.heap.objs.size], _, _, H1, rfl, I2, turn_enumL a (s1.heap.objs.size + 1) s1.heap.objs.size c0 (Nat.ne_of_lt hlt) (Nat.ne_of_lt (Nat.lt_succ_of_lt hlt)),
      ⟨⟨.none, by rw [show c0 + ((0 : Nat) : Int) = c0 by omega]; exact he⟩, ⟨_, hit, rfl, rfl⟩, Nat.succ_ne_self _⟩, fin h' hk, q⟩
  · obtain ⟨its, rv, p', hz⟩ := I1.tuple hq
    refine hcall _ rfl _ _ (begins_tuple a its.toArray) (show s1.heap.IsTuple a its.toArray from p') _ fun h' he hit hsz hk => wpAny_pyIter_enum he ?_
    have I2 : Inv X pins σ H1 { s1 with heap := h' } := I1.kept (t' := s1.toks) hk
    have hlt : a < s1.heap.objs.size := by obtain ⟨o, e, _⟩ := p'; exact Heap.lt_size e
    exact ⟨s1.heap.objs.size + 1, [s1.heap.objs.size + 1, s1.heap.objs.size], _, _, H1, rfl, I2, turn_enumT a (s1.heap.objs.size + 1) s1.heap.objs.size c0 (Nat.ne_of_lt hlt) (Nat.ne_of_lt (Nat.lt_succ_of_lt hlt)),
      ⟨⟨.none, by rw [show c0 + ((0 : Nat) : Int) = c0 by omega]; exact he⟩, ⟨_, hit, rfl, rfl⟩, Nat.succ_ne_self _⟩, fin h' hk, q⟩
/-- enumerate(e, start=k) -/
theorem pi_enumS {ta : TA} {k : Int} {j : Nat} (hg : Gl X "enumerate") (hm : X.mg "enumerate" = none) (hk : -(2 ^ 63) ≤ k ∧ k < 2 ^ 63) (ha : PA X [e] ta) (hs : starEach [e] X.env = [(false, eval e X.env)] := by rfl) :
    PI X (.Tuple elts kk tpos) (.Call (.Name "enumerate" p) [e] [⟨some "start", .Constant (.int k) j cpos, kpos⟩] pos) (iEnumK X.K k ta) := by
  refine ⟨fun pins s σ H R I h => ?_⟩
  refine wpAny_Call_Name_kw (ld_blt I hg hm boot_enumerate (callWith_type_kw (thn (ha.run pos pins s σ H _ I h) fun us s1 ⟨vs, H1, I1, r1, q1⟩ => ?_) (by rw [hs]; rfl) (by rw [hs]; rfl) rfl rfl))
  refine thn ((pk_cons (kpos := kpos) (nm := some "start") (pe_int (X := X) (i := k) (j := j) (pos := cpos)) pk_nil).run pos pins s1 σ H1 (fun ws H2 => ws = [.int k] ∧ H2 = H1) I1 ⟨rfl, rfl⟩) fun ws s2 ⟨zs, H2, I2, rz, ez, eh⟩ => ?_
  subst eh
  rw [ez] at rz
  cases rz with
  | cons r rr =>
    cases rr
    obtain ⟨t, rfl⟩ := r
    exact enum_go I2 r1 (fun u eu o Hh B hb Q hQ => enum_begins_start B hb hk.1 hk.2 hQ) q1
/-- enumerate(e) -/
theorem pi_enum0 {ta : TA} (hg : Gl X "enumerate") (hm : X.mg "enumerate" = none) (ha : PA X [e] ta) (hs : starEach [e] X.env = [(false, eval e X.env)] := by rfl) :
    PI X (.Tuple elts kk tpos) (.Call (.Name "enumerate" p) [e] [] pos) (iEnumK X.K 0 ta) := by
  refine ⟨fun pins s σ H R I h => ?_⟩
  refine Call_ (ld_blt I hg hm boot_enumerate (PyProof.Rows.callWith_type1 (thn (ha.run pos pins s σ H _ I h) fun us s1 ⟨vs, H1, I1, r1, q1⟩ => ?_) hs rfl))
  exact enum_go I1 r1 (fun u eu o Hh B hb Q hQ => by
    refine callType_new F.called_enumerate (by decide) (F.typeCall_enumerate_1 _) (F.newCall_enumerate_1 _) (fun obj => F.args_object_init_2 obj _) F.entry_enumerate_new (meets_enum0 B) ⟨hb, ?_⟩
    have hz : (s1.heap.push o).objs.size = s1.heap.objs.size + 1 := Heap.size_push ..
    show _ ∧ _
    rw [hz]
    have he : IsEnum ((s1.heap.push o).push { cls := .type "enumerate", data := .fields #[.none, .bool false, .ref s1.heap.objs.size, rawInt 0, .none, .none] }) (s1.heap.objs.size + 1) s1.heap.objs.size 0 .none := by
      have := Heap.get?_push_size (s1.heap.push o) (o := { cls := .type "enumerate", data := .fields #[.none, .bool false, .ref s1.heap.objs.size, rawInt 0, .none, .none] }) rfl
      rw [hz] at this; exact this
    exact ⟨⟨_, he, rfl⟩, hQ _ he (Heap.get?_push_of_some _ (Heap.get?_push_size _ B.free)) (by rw [Heap.size_push, hz]) fun b o x => Heap.get?_push_of_some _ (Heap.get?_push_of_some _ x)⟩) q1
end
end DV

set_option Elab.async false
set_option linter.all false
set_option maxRecDepth 100000
namespace DV
open PySem PySem.Spec PyProof.Rows L2

section
variable {X : Cx} {B : Bs} {a b c e : Expr} {es : List Expr} {pos : Pos} {ta tb tc te : DTE} {tl : DTA} {ua ub uc ue : TE} {ul : TA}
variable {st : Stmt} {rest body : List Stmt} {vs vr vb : TS} {ds dr db : DTS}
/-! ### enumerate -/
def diEnum (c0 : Int) (t : DTA) : DTI := fun ε μ Φ => t ε μ fun xs μ1 => match xs with
  | [.d (.lst ds)] => Φ (enumD c0 ds) (fun _ => True) μ1
  | [.d (.lsr ds)] => Φ (enumD c0 ds) (fun _ => True) μ1
  | [.d (.tup ds)] => Φ (enumD c0 ds) (fun _ => True) μ1
  | [.m n] => ∃ ds, μ1[n]? = some (.lst (ds.map SV.d)) ∧ Φ (enumD c0 ds) (fun μ => μ[n]? = some (.lst (ds.map SV.d))) μ1
  | _ => False
theorem walkd_eL {p : Addr} {us : List V} {ds : List D} {M1 : Mk} {H1 : Hp} {c0 : Int} (hq : SqL B.K (wo M1 H1) p us) (r : Reps B.K (wo M1 H1) us ds) : WalkD B (IteL B.K p c0) (enumD c0 ds) (fun _ => True) M1 H1 := by
  have hq' : ∀ {M H}, Sub (wo M1 H1) (wo M H) → SqL B.K H p us := fun s => (wo_sub _ _).sql (s.sql hq)
  refine ⟨fun M H μ i s _ _ _ h => ?_, fun M H μ s _ _ _ => ⟨us, hq' s, by rw [enumD_len, r.length]; exact Nat.le_refl _⟩, fun M H μ i v H' s j w _ h y => ?_⟩
  · rw [enumD_len, ← r.length] at h
    exact ⟨us, us[i], hq' s, List.getElem?_eq_getElem h⟩
  · obtain ⟨T, x, rfl, hT, rfl, hx⟩ := y
    obtain ⟨d, hd, rd⟩ := r.getV (hx us (hq' s))
    exact ⟨_, enumD_get hd, le_new w hT, wd_new w hT, .d (.tup (.inl (.inl (wo_at w hT))) ((Reps.cons (.int _) (.cons (rd.mono s) .nil)).mono (wo_new hT)))⟩
theorem walkd_eT {p : Addr} {us : List V} {ds : List D} {M1 : Mk} {H1 : Hp} {c0 : Int} (hq : SqT B.K (wo M1 H1) p us) (r : Reps B.K (wo M1 H1) us ds) : WalkD B (IteT B.K p c0) (enumD c0 ds) (fun _ => True) M1 H1 := by
  have hq' : ∀ {M H}, Sub (wo M1 H1) (wo M H) → SqT B.K H p us := fun s => (wo_sub _ _).sqt (s.sqt hq)
  refine ⟨fun M H μ i s _ _ _ h => ?_, fun M H μ s _ _ _ => ⟨us, hq' s, by rw [enumD_len, r.length]; exact Nat.le_refl _⟩, fun M H μ i v H' s j w _ h y => ?_⟩
  · rw [enumD_len, ← r.length] at h
    exact ⟨us, us[i], hq' s, List.getElem?_eq_getElem h⟩
  · obtain ⟨T, x, rfl, hT, rfl, hx⟩ := y
    obtain ⟨d, hd, rd⟩ := r.getV (hx us (hq' s))
    exact ⟨_, enumD_get hd, le_new w hT, wd_new w hT, .d (.tup (.inl (.inl (wo_at w hT))) ((Reps.cons (.int _) (.cons (rd.mono s) .nil)).mono (wo_new hT)))⟩
theorem walkd_eM {p : Addr} {n : Nat} {ds : List D} {M1 : Mk} {H1 : Hp} {c0 : Int} (hp : M1.ids[n]? = some (some p)) : WalkD B (IteL B.K p c0) (enumD c0 ds) (fun μ => μ[n]? = some (.lst (ds.map SV.d))) M1 H1 := by
  have key : ∀ {M H μ}, Ids M1 M → Wd B.K M H μ → μ[n]? = some (.lst (ds.map SV.d)) → ∃ us, SqL B.K H p us ∧ Reps B.K (wo M H) us ds := fun j w g => by
    obtain ⟨mo, h1, r⟩ := w.ob n p (j n p hp)
    rw [g] at h1
    cases h1
    obtain ⟨us, hu, ru⟩ := r
    exact ⟨us, .inl (.inl hu), ru.pure⟩
  refine ⟨fun M H μ i s j w g h => ?_, fun M H μ s j w g => ?_, fun M H μ i v H' s j w g h y => ?_⟩
  · obtain ⟨us, hu, ru⟩ := key j w g
    rw [enumD_len, ← ru.length] at h
    exact ⟨us, us[i], hu, List.getElem?_eq_getElem h⟩
  · obtain ⟨us, hu, ru⟩ := key j w g
    exact ⟨us, hu, by rw [enumD_len, ru.length]; exact Nat.le_refl _⟩
  · obtain ⟨us, hu, ru⟩ := key j w g
    obtain ⟨T, x, rfl, hT, rfl, hx⟩ := y
    obtain ⟨d, hd, rd⟩ := ru.getV (hx us hu)
    exact ⟨_, enumD_get hd, le_new w hT, wd_new w hT, .d (.tup (.inl (.inl (wo_at w hT))) ((Reps.cons (.int _) (.cons rd .nil)).mono (wo_new hT)))⟩
theorem sim_enum {c0 : Int} (h : SimA B ul tl) : SimI B (iEnumK B.K c0 ul) (diEnum c0 tl) := fun bb M σ H ε μ Φ R a k q => h bb M σ H ε μ _ _ a (fun v M1 H1 x μ1 l1 w1 r1 q1 => by
  split at q1
  · cases r1 with
    | cons r1 r2 =>
      cases r2
      obtain ⟨p, us, rfl, hp, rp⟩ := Rv.lst_inv r1
      exact ⟨p, us, rfl, .inl ⟨.inl (.inl (wo_sub M1 H1 _ _ hp)), k _ M1 H1 _ _ μ1 l1 w1 (walkd_eL (.inl (.inl hp)) rp) q1⟩⟩
  · cases r1 with
    | cons r1 r2 =>
      cases r2
      obtain ⟨p, us, rfl, hp, rp⟩ := Rv.lsr_inv r1
      exact ⟨p, us, rfl, .inl ⟨(wo_sub M1 H1).sql hp, k _ M1 H1 _ _ μ1 l1 w1 (walkd_eL hp rp) q1⟩⟩
  · cases r1 with
    | cons r1 r2 =>
      cases r2
      obtain ⟨p, us, rfl, hp, rp⟩ := Rv.tup_inv r1
      exact ⟨p, us, rfl, .inr ⟨(wo_sub M1 H1).sqt hp, k _ M1 H1 _ _ μ1 l1 w1 (walkd_eT hp rp) q1⟩⟩
  · cases r1 with
    | cons r1 r2 =>
      cases r2
      obtain ⟨ds, hm, q1⟩ := q1
      obtain ⟨p, rfl, hp, us, hu, ru⟩ := Rv.m_inv w1 r1 hm
      exact ⟨p, us, rfl, .inl ⟨.inl (.inl hu), k _ M1 H1 _ _ μ1 l1 w1 (walkd_eM hp) q1⟩⟩
  · exact q1.elim) q
theorem di_enum {elts : List Expr} {kk : Nat} {tpos p : Pos} (hg : Gl X "enumerate") (hm : X.mg "enumerate" = none) (ha : DA X B [e] ul tl) (hK : B.K = X.K := by rfl) (hs : starEach [e] X.env = [(false, eval e X.env)] := by rfl) :
    DI X B (.Tuple elts kk tpos) (.Call (.Name "enumerate" p) [e] [] pos) (iEnumK B.K 0 ul) (diEnum 0 tl) := by
  obtain ⟨Kb, Eb, Ψb⟩ := B
  have hK : Kb = X.K := hK
  subst hK
  have hK : X.K = X.K := rfl
  exact ⟨pi_enum0 hg hm ha.p hs, by rw [← hK]; exact sim_enum ha.s⟩
theorem di_enumS {elts : List Expr} {kk : Nat} {tpos p cpos kpos : Pos} {k : Int} {j : Nat} (hg : Gl X "enumerate") (hm : X.mg "enumerate" = none) (hk : -(2 ^ 63) ≤ k ∧ k < 2 ^ 63) (ha : DA X B [e] ul tl) (hK : B.K = X.K := by rfl) (hs : starEach [e] X.env = [(false, eval e X.env)] := by rfl) :
    DI X B (.Tuple elts kk tpos) (.Call (.Name "enumerate" p) [e] [⟨some "start", .Constant (.int k) j cpos, kpos⟩] pos) (iEnumK B.K k ul) (diEnum k tl) := by
  obtain ⟨Kb, Eb, Ψb⟩ := B
  have hK : Kb = X.K := hK
  subst hK
  have hK : X.K = X.K := rfl
  exact ⟨pi_enumS hg hm hk ha.p hs, by rw [← hK]; exact sim_enum ha.s⟩

/-! ### comprehensions -/
def dwipe (ε : DEnv) : List Nat → DEnv
  | [] => ε
  | v :: vs => (dwipe ε vs).set v none
theorem EnvR.unset {K : PySem.W.Frag} {M : Mk} {G : Hp} {σ : L2.St} {ε : DEnv} (h : EnvR K M G σ ε) (v : Nat) : EnvR K M G (σ.set v none) (ε.set v none) := by
  refine ⟨by rw [List.length_set, List.length_set]; exact h.len, fun n y q => ?_⟩
  by_cases e : v = n
  · subst e
    have hl := (List.getElem?_eq_some_iff.mp q).1
    rw [List.length_set] at hl
    rw [List.getElem?_set_self hl] at q
    cases q
  · rw [List.getElem?_set_ne e] at q
    rw [List.getElem?_set_ne e]
    exact h.at_ n y q
theorem EnvR.wipe {K : PySem.W.Frag} {M : Mk} {G : Hp} {σ : L2.St} {ε : DEnv} (h : EnvR K M G σ ε) : ∀ vs : List Nat, EnvR K M G (L2.wipe σ vs) (dwipe ε vs)
  | [] => h
  | v :: vs => (EnvR.wipe h vs).unset v
theorem wipe_get (σ : L2.St) (i : Nat) : ∀ vs : List Nat, (L2.wipe σ vs)[i]? = if i ∈ vs ∧ i < σ.length then some none else σ[i]?
  | [] => by simp [L2.wipe]
  | v :: vs => by
    show ((L2.wipe σ vs).set v none)[i]? = _
    rw [List.getElem?_set, wipe_get σ i vs, wipe_length]
    by_cases e : v = i
    · subst e
      by_cases hl : v < σ.length
      · simp [hl]
      · simp [hl]
    · have e' : ¬ i = v := fun z => e z.symm
      simp [e, e']
theorem wipe_set {σ : L2.St} {i : Nat} {x : Option V} {vs : List Nat} (h : i ∈ vs) : L2.wipe (σ.set i x) vs = L2.wipe σ vs := by
  refine List.ext_getElem? fun j => ?_
  rw [wipe_get, wipe_get, List.length_set]
  by_cases hj : j ∈ vs ∧ j < σ.length
  · rw [if_pos hj, if_pos hj]
  · rw [if_neg hj, if_neg hj, List.getElem?_set]
    by_cases e : i = j
    · subst e
      have : ¬ i < σ.length := fun z => hj ⟨h, z⟩
      simp [this]
    · simp [e]
theorem wipe_wipe {σ : L2.St} {vs : List Nat} : L2.wipe (L2.wipe σ vs) vs = L2.wipe σ vs := by
  refine List.ext_getElem? fun j => ?_
  rw [wipe_get, wipe_get, wipe_length]
  by_cases hj : j ∈ vs ∧ j < σ.length
  · rw [if_pos hj, if_pos hj]
  · rw [if_neg hj]
/-- a target that stores into these slots alone -/
def GW (vs : List Nat) (g : TG) : Prop := ∀ (v : V) (σ σ0 : L2.St) (H : Hp) (Q : L2.St → Hp → Prop), L2.wipe σ vs = L2.wipe σ0 vs → g v σ H Q → g v σ H fun σ2 H2 => L2.wipe σ2 vs = L2.wipe σ0 vs ∧ Q σ2 H2
def GWs (vs : List Nat) (g : TGs) : Prop := ∀ (v : List V) (σ σ0 : L2.St) (H : Hp) (Q : L2.St → Hp → Prop), L2.wipe σ vs = L2.wipe σ0 vs → g v σ H Q → g v σ H fun σ2 H2 => L2.wipe σ2 vs = L2.wipe σ0 vs ∧ Q σ2 H2
theorem gw_name {i : Nat} {vs : List Nat} (h : i ∈ vs) : GW vs (gName i) := fun v σ σ0 H Q e q => ⟨(wipe_set h).trans e, q⟩
/-- a name is stored, then on -/
theorem gws_nil {vs : List Nat} : GWs vs gNil := fun v σ σ0 H Q e q => ⟨q.1, e, q.2⟩
theorem gws_cons {i : Nat} {vs : List Nat} {u : TGs} (h : i ∈ vs) (h2 : GWs vs u) : GWs vs (gCons (gName i) u) := fun v σ σ0 H Q e q => by
  obtain ⟨x, r, e1, q⟩ := q
  exact ⟨x, r, e1, h2 r (σ.set i (some x)) σ0 H Q ((wipe_set h).trans e) q⟩
theorem gw_tup {K : PySem.W.Frag} {n : Nat} {vs : List Nat} {u : TGs} (h : GWs vs u) : GW vs (gTup K n u) := fun v σ σ0 H Q e q => by
  obtain ⟨p, xs, e1, e2, e3, q⟩ := q
  exact ⟨p, xs, e1, e2, e3, h xs σ σ0 H Q e q⟩
def dLc (ti : DTI) (g : DTG) (tt : DTT) (te : DTE) (ws : List Nat) : DTE := fun ε μ Φ => ti ε μ fun xs G μ1 => ∃ I : Nat → List D → DSt → Prop, I 0 [] μ1 ∧ (∀ i acc μ, i ≤ xs.length → I i acc μ → G μ ∧ acc.length < sizeLine) ∧
  (∀ i x acc μ, xs[i]? = some x → I i acc μ → g x (dwipe ε ws) μ fun ε2 μ2 => tt ε2 μ2 fun b μ3 => bcase b (te ε2 μ3 fun y μ4 => match y with
      | .d d => I (i + 1) (acc ++ [d]) μ4
      | .m _ => False) (I (i + 1) acc μ3)) ∧ ∀ acc μ, I xs.length acc μ → Φ (.d (.lst acc)) μ
theorem sim_lc {vi : TI} {di : DTI} {vg : TG} {dg : DTG} {vt : TT} {dt : DTT} {ws : List Nat} (hi : SimI B vi di) (hg : SimG B vg dg) (hw : GW ws vg) (ht : SimT B vt dt) (he : SimE B ue te) : SimE B (tLc vi vg vt ue ws) (dLc di dg dt te ws) :=
  fun bb M σ H ε μ Φ Q a k q => hi bb M σ H ε μ _ _ a (fun J M1 H1 xs G μ1 l1 w1 wk q1 Dl hD => by
    obtain ⟨I, i0, iG, is, ie⟩ := q1
    have a1 := a.next l1 w1
    have hD' : ∀ b, b ∈ M1.hid → b ≠ Dl := fun b hb z => w1.freshH hD (z ▸ hb)
    refine ⟨fun i m H => m = xs.length - i ∧ i ≤ xs.length ∧ ∃ M μ acc us, Le M1 H1 M H ∧ Dl ∈ M.hid ∧ Wd B.K M H μ ∧ H Dl = some (.lst us) ∧ Reps B.K (wo M H) us acc ∧ I i acc μ,
      ⟨xs.length, by simp, Nat.zero_le _, M1.hide Dl, μ1, [], [], le_hide w1 hD, List.mem_cons_self .., wd_hide w1 hD, upd_same, .nil, i0⟩, ?_⟩
    rintro i m H2 ⟨rfl, hi, M2, μ2, acc, us, l2, h2, w2, e2, r2, iz⟩
    obtain ⟨hG, hz⟩ := iG i acc μ2 hi iz
    by_cases hlt : i < xs.length
    · refine .inr ⟨wk.go M2 H2 μ2 i l2.sub l2.ids w2 hG hlt, fun H => ∃ M μ acc us, Le M1 H1 M H ∧ Dl ∈ M.hid ∧ Wd B.K M H μ ∧ H Dl = some (.lst us) ∧ Reps B.K (wo M H) us acc ∧ I (i + 1) acc μ, fun H' z => ⟨xs.length - (i + 1), by omega, rfl, hlt, z⟩, fun v H3 hy => ?_⟩
      obtain ⟨x, hx, l3, w3, r3⟩ := wk.yld M2 H2 μ2 i v H3 l2.sub l2.ids w2 hG hlt hy
      have a3 : At bb M2 (L2.wipe σ ws) H3 (dwipe ε ws) μ2 := ⟨(a1.le.trans l2).trans l3, w3, ((a1.env.mono (l2.trans l3).ids (l2.trans l3).sub).wipe ws)⟩
      have q3 := hg bb M2 (L2.wipe σ ws) H3 (dwipe ε ws) μ2 v x _ _ a3 r3 (fun M4 σ4 H4 ε4 μ4 l4 a4 q4 => (?_ : (fun σ4 H4 => vt σ4 H4 fun b H5 => if b = true then ue σ4 H5 fun y H6 => ∃ acc, H6 Dl = some (.lst acc) ∧ acc.length < sizeLine ∧ ∃ M μ acc' us, Le M1 H1 M (upd H6 Dl (.lst (acc ++ [y]))) ∧ Dl ∈ M.hid ∧ Wd B.K M (upd H6 Dl (.lst (acc ++ [y]))) μ ∧ (upd H6 Dl (.lst (acc ++ [y]))) Dl = some (.lst us) ∧ Reps B.K (wo M (upd H6 Dl (.lst (acc ++ [y])))) us acc' ∧ I (i + 1) acc' μ else ∃ M μ acc us, Le M1 H1 M H5 ∧ Dl ∈ M.hid ∧ Wd B.K M H5 μ ∧ H5 Dl = some (.lst us) ∧ Reps B.K (wo M H5) us acc ∧ I (i + 1) acc μ) σ4 H4)) (is i x acc μ2 hx iz)
      · have q5 := hw v (L2.wipe σ ws) σ H3 _ wipe_wipe q3
        exact q5
      · refine ht bb M4 σ4 H4 ε4 μ4 _ _ a4 (fun b M5 H5 μ5 l5 w5 q5 => ?_) q4
        have l25 := (l3.trans l4).trans l5
        have hd5 := l25.hid Dl h2
        cases b with
        | false =>
          refine (if_neg Bool.false_ne_true).mpr ?_
          exact ⟨M5, μ5, acc, us, l2.trans l25, hd5.1, w5, by rw [hd5.2]; exact e2, r2.mono l25.sub, q5⟩
        | true =>
          refine (if_pos rfl).mpr ?_
          refine he bb M5 σ4 H5 ε4 μ5 _ _ (a4.next l5 w5) (fun y M6 H6 sy μ6 l6 w6 r6 q6 => ?_) q5
          have l26 := l25.trans l6
          have hd6 := l26.hid Dl h2
          split at q6
          · rename_i d
            cases r6 with
            | d r6 =>
            refine ⟨us, by rw [hd6.2]; exact e2, by rw [r2.length]; exact hz, M6, μ6, acc ++ [d], us ++ [y], ?_, hd6.1, wd_hid w6 hd6.1, upd_same, ?_, q6⟩
            · have lz := l2.trans l26
              exact ⟨lz.ids, lz.len, by rw [wo_set (.inr hd6.1)]; exact lz.sub, fun b hb => upd_some _ (lz.all b hb), fun b hb => ⟨(lz.hid b hb).1, by rw [upd_ne (hD' b hb)]; exact (lz.hid b hb).2⟩⟩
            · rw [wo_set (.inr hd6.1)]
              exact (r2.mono l26.sub).append (.cons r6 .nil)
          · exact q6.elim
    · have e : i = xs.length := by omega
      subst e
      refine .inl ⟨wk.stop M2 H2 μ2 l2.sub l2.ids w2 hG, ?_⟩
      have hh : ∀ b ∈ M1.hid, b ∈ M2.hid := fun b hb => (l2.hid b hb).1
      have sb : Sub (wo M2 H2) (wo ⟨M2.ids, M1.hid⟩ H2) := fun b o z => by
        obtain ⟨z1, z2, z3⟩ := wo_in z
        exact wo_some z1 z2 fun y => z3 (hh b y)
      refine k (.ref Dl) ⟨M2.ids, M1.hid⟩ H2 (.d (.lst acc)) μ2 (l1.trans ⟨l2.ids, l2.len, l2.sub.trans sb, l2.all, fun b hb => ⟨hb, (l2.hid b hb).2⟩⟩) (wd_made w2 hh) (.d (.lst (wo_some e2 (w2.hid Dl h2).1 fun z => hD' Dl z rfl) (r2.mono sb))) (ie acc μ2 iz)) q
structure DTs (X : Cx) (B : Bs) (e : List Expr) (u : TT) (t : DTT) : Prop where
  p : PTs X e u
  s : SimT B u t
def dYes : DTT := fun _ μ Φ => Φ true μ
theorem dts_nil : DTs X B [] tYes dYes := ⟨pts_nil, fun bb M σ H ε μ Φ Q a k h => k true M H μ (Le.refl M H) a.wd h⟩
theorem dts_one {vt : TT} {dt : DTT} (h : DT X B c vt dt) : DTs X B [c] vt dt := ⟨pts_one h.p, h.s⟩
theorem de_lc {elt tg iter : Expr} {ifs : List Expr} {scope : Scope} {own : List (Str × Nat)} {vi : TI} {di : DTI} {vg : TG} {dg : DTG} {vt : TT} {dt : DTT} (hc : X.calm = true) (hN : X.N.Nodup) (hi : DI X B tg iter vi di) (ok : BlkOk X.N X.env.scope scope own)
    (hg : ∀ (s : Shared) (H : Hp) (C : Addr) (cl : List (Str × Addr)) (fp : List Addr), DG (X.blk s H scope (compEnvC scope cl C X.env) fp) B tg vg dg) (hw : GW (own.map (·.2)) vg)
    (ht : ∀ (s : Shared) (H : Hp) (C : Addr) (cl : List (Str × Addr)) (fp : List Addr), DTs (X.blk s H scope (compEnvC scope cl C X.env) fp) B ifs vt dt)
    (he : ∀ (s : Shared) (H : Hp) (C : Addr) (cl : List (Str × Addr)) (fp : List Addr), DE (X.blk s H scope (compEnvC scope cl C X.env) fp) B elt ue te) (hs : ∀ x, foldedSetIterable iter X.env x = pure x := by intro _; rfl) :
    DE X B (.ListComp elt [⟨tg, iter, ifs, 0⟩] scope pos) (tLc vi vg vt ue (own.map (·.2))) (dLc di dg dt te (own.map (·.2))) :=
  ⟨pe_lc hc hN hi.p ok (fun s H C cl fp => (hg s H C cl fp).p) (fun s H C cl fp => (ht s H C cl fp).p) (fun s H C cl fp => (he s H C cl fp).p) hs,
   sim_lc hi.s (hg X.s_0 X.H_0 0 [] []).s hw (ht X.s_0 X.H_0 0 [] []).s (he X.s_0 X.H_0 0 [] []).s⟩
end
end DV

set_option Elab.async false
set_option linter.all false
set_option maxRecDepth 100000
namespace DV
open PySem PySem.Spec PyProof.Rows L2

/-! ### defs -/
/-- a promise over data as a promise over the heap -/
def toSp (K : PySem.W.Frag) (d : DSp) : Sp := fun vs H Q E => ∃ (M : Mk) (μ : DSt) (xs : List SV) (Φ : DK) (Ψ : DX), Wd K M H μ ∧ SReps K M (wo M H) vs xs ∧
  (∀ v M' H' x μ', Le M H M' H' → Wd K M' H' μ' → SRep K M' (wo M' H') v x → Φ x μ' → Q v H') ∧
  (∀ (cls : Value) (dp : Option Addr) (M' : Mk) (H' : Hp) (fs : List (Str × D)) (μ' : DSt), Le M H M' H' → Wd K M' H' μ' → XRep K (wo M' H') H' dp fs → Ψ cls fs μ' → E cls dp H') ∧ d xs μ Φ Ψ
def dstart : Nat → List SV → DEnv
  | 0, _ => []
  | n + 1, [] => none :: dstart n []
  | n + 1, x :: xs => some x :: dstart n xs
theorem dstart_len : ∀ (n : Nat) (xs : List SV), (dstart n xs).length = n
  | 0, _ => rfl
  | n + 1, [] => congrArg (· + 1) (dstart_len n [])
  | n + 1, _ :: xs => congrArg (· + 1) (dstart_len n xs)
theorem dstart_get : ∀ (n : Nat) (xs : List SV) (i : Nat) (x : SV), (dstart n xs)[i]? = some (some x) → xs[i]? = some x
  | 0, _, _, _, h => by simp [dstart] at h
  | n + 1, [], 0, x, h => by simp [dstart] at h
  | n + 1, [], i + 1, x, h => by
    have h : (dstart n [])[i]? = some (some x) := by simpa [dstart] using h
    have := dstart_get n [] i x h
    simp at this
  | n + 1, y :: xs, 0, x, h => by simpa [dstart] using h
  | n + 1, y :: xs, i + 1, x, h => by
    have h : (dstart n xs)[i]? = some (some x) := by simpa [dstart] using h
    have := dstart_get n xs i x h
    simpa using this
theorem start_env {K : PySem.W.Frag} {M : Mk} {G : Hp} {N : List Str} {vs : List V} {xs : List SV} (r : SReps K M G vs xs) (hl : xs.length ≤ N.length) : EnvR K M G (L2.start N vs) (dstart N.length xs) := by
  unfold L2.start
  refine ⟨?_, fun i x q => ?_⟩
  · rw [dstart_len]
    simp only [List.length_append, List.length_map, List.length_replicate, r.length]
    omega
  · have hx := dstart_get _ _ _ _ q
    obtain ⟨v, hv, rv⟩ := r.get hx
    refine ⟨v, ?_, rv⟩
    rw [List.getElem?_append_left (by rw [List.length_map]; exact (List.getElem?_eq_some_iff.mp hv).1), List.getElem?_map, hv]
    rfl
section
variable {P : Program} {w : World} {K : PySem.W.Frag} {mg : Str → Option Value} {base : Heap}
/-- THE RULE for a def that raises nothing -/
theorem dfn {x qual : Str} {st : Stmt} {f : Addr} {fd : FuncData} {N ps : List Str} {k : Nat} {d : DSp} (F : Fun K x qual st f fd) (S : FnScope N ps (defScope st)) (len : ∀ xs μ Φ Ψ, d xs μ Φ Ψ → xs.length = ps.length) (hN : ps.length ≤ N.length)
    (hbody : ∀ (cdv : Value) (A : Around) (outer : List Env) (s : Shared) (H : Hp) (E : XK) (Ψ : DX), Room k (A.deeper (envOfC qual (defScope st) s.heap.objs.size f cdv)) →
      ∃ u t, DSs (cxOf CX0 P w K mg base N qual (defScope st) f cdv A outer s H E).nox ⟨K, E, Ψ⟩ (defBody st) u t ∧ ∀ xs μ Φ, d xs μ Φ Ψ → t { nx := fun _ μ => Φ (.d .non) μ, rt := Φ, fl := μ.length } (dstart N.length xs) μ) : FnOk P w K mg base CX0 (k + 1) f fd ps (toSp K d) := by
  refine F.ok S (fun vs H Q E h => ?_) (fun cdv A outer s H vs Q E hr h => ?_)
  · obtain ⟨M, μ, xs, Φ, Ψ, _, r, _, _, q⟩ := h
    rw [r.length]
    exact len _ _ _ _ q
  · obtain ⟨M, μ, xs, Φ, Ψ, W, r, kq, ke, q⟩ := h
    obtain ⟨u, t, hd, ht⟩ := hbody cdv A outer s H E Ψ hr
    refine ⟨u, hd.p, ?_⟩
    let bb : Ba ⟨K, E, Ψ⟩ := ⟨M, H, ke⟩
    refine hd.s bb M (L2.start N vs) H (dstart N.length xs) μ _ _ ⟨Le.refl M H, W, start_env r (by rw [len _ _ _ _ q]; exact hN)⟩ ⟨?_, ?_, ?_, ?_, Nat.le_of_eq W.len⟩ (ht xs μ Φ q)
    · exact fun M1 σ1 H1 ε1 μ1 a1 q1 => kq .non M1 H1 _ μ1 a1.le a1.wd (.d .non) q1
    · exact fun v M1 H1 x μ1 l1 w1 r1 q1 => kq v M1 H1 x μ1 l1 w1 r1 q1
    · exact fun M1 σ1 H1 ε1 μ1 a1 q1 => q1.elim
    · exact fun M1 σ1 H1 ε1 μ1 a1 q1 => q1.elim
end
section
variable {X : Cx} {B : Bs} {a b c e : Expr} {es : List Expr} {pos p : Pos} {ta tb tc te : DTE} {tl : DTA} {ua ub uc ue : TE} {ul : TA}
variable {CX : CXT} {k : Nat} {f : Addr} {fd : FuncData} {ps : List Str} {d : DSp} {x : Str}
/-- a call -/
def dCall (d : DSp) (Ψ : DX) (t : DTA) : DTE := fun ε μ Φ => t ε μ fun xs μ1 => d xs μ1 Φ Ψ
theorem sim_call (h : SimA B ul tl) : SimE B (tCall (toSp B.K d) [] B.E ul) (dCall d B.Ψ tl) := fun bb M σ H ε μ Φ Q a k q => h bb M σ H ε μ _ _ a (fun vs M1 H1 xs μ1 l1 w1 r1 q1 => by
  rw [List.append_nil]
  exact ⟨M1, μ1, xs, Φ, B.Ψ, w1, r1, fun v M2 H2 y μ2 l2 => k v M2 H2 y μ2 (l1.trans l2), fun cls dp M2 H2 fs μ2 l2 => bb.hE cls dp M2 H2 fs μ2 ((a.le.trans l1).trans l2), q1⟩) q
theorem passes0 {E : XK} : Passes CX0 X E := fun _ _ _ _ _ _ _ h => h.elim
theorem de_call (F : FnOk X.prog X.w X.K X.mg X.base CX k f fd ps (toSp X.K d)) (hr : Room k X.A) (hg : Gl X x) (hm : X.mg x = some (.ref f)) (hk : PySem.W.keepIn X.K (.ref f) = true) (hb : Binds X.K fd ps []) (hx : Passes CX X B.E) (ha : DA X B (e :: es) ul tl)
    (hK : B.K = X.K := by rfl) (hdb : (x == ("__debug__" : Str)) = false := by decide) (he : starEach (e :: es) X.env = (false, eval e X.env) :: starEach es X.env := by rfl) (hpl : (backTo pos (starEach es X.env)).any (·.1) = false := by rfl) :
    DE X B (.Call (.Name x p) (e :: es) [] pos) (tCall (toSp B.K d) [] B.E ul) (dCall d B.Ψ tl) := by
  obtain ⟨Kb, Eb, Ψb⟩ := B
  have hK : Kb = X.K := hK
  subst hK
  have hK : X.K = X.K := rfl
  exact ⟨pe_call F hr hg hm hk hb .nil hx ha.p hdb he hpl, by rw [← hK]; exact sim_call ha.s⟩
theorem de_call0 (F : FnOk X.prog X.w X.K X.mg X.base CX k f fd ps (toSp X.K d)) (hr : Room k X.A) (hg : Gl X x) (hm : X.mg x = some (.ref f)) (hk : PySem.W.keepIn X.K (.ref f) = true) (hb : Binds X.K fd ps []) (hx : Passes CX X B.E)
    (hK : B.K = X.K := by rfl) (hdb : (x == ("__debug__" : Str)) = false := by decide) :
    DE X B (.Call (.Name x p) [] [] pos) (tCall (toSp B.K d) [] B.E tNil) (dCall d B.Ψ dNil) := by
  obtain ⟨Kb, Eb, Ψb⟩ := B
  have hK : Kb = X.K := hK
  subst hK
  have hK : X.K = X.K := rfl
  exact ⟨pe_call0 F hr hg hm hk hb .nil hx hdb, by rw [← hK]; exact sim_call (fun bb M σ H ε μ Φ Q a k h => k [] M H [] μ (Le.refl M H) a.wd .nil h)⟩
/-- a built-in by its name -/
def dCB (r : List SV → DSt → DK → Prop) (t : DTA) : DTE := fun ε μ Φ => t ε μ fun xs μ1 => r xs μ1 Φ
theorem sim_cb {r : List V → Hp → VK → Prop} {rd : List SV → DSt → DK → Prop} (hr : SimC B r rd) (h : SimA B ul tl) : SimE B (tCB r ul) (dCB rd tl) := fun bb M σ H ε μ Φ Q a k q => h bb M σ H ε μ _ _ a (fun vs M1 H1 xs μ1 l1 w1 r1 q1 =>
  hr M1 H1 μ1 vs xs Φ Q w1 r1 (fun v M2 H2 y μ2 l2 => k v M2 H2 y μ2 (l1.trans l2)) q1) q
theorem de_cb {id : String} {r : List V → Hp → VK → Prop} {rd : List SV → DSt → DK → Prop} (hc : CallR X (.builtin id) r) (hr : SimC B r rd) (hg : Gl X x) (hm : X.mg x = none) (hv : bootBuiltins x = some (.builtin id)) (ha : DA X B (e :: es) ul tl)
    (h : PE X (.Call (.Name x p) (e :: es) [] pos) (tCB r ul)) : DE X B (.Call (.Name x p) (e :: es) [] pos) (tCB r ul) (dCB rd tl) := ⟨h, sim_cb hr ha.s⟩
theorem de_cb' {r : List V → Hp → VK → Prop} {rd : List SV → DSt → DK → Prop} (hr : SimC B r rd) (ha : SimA B ul tl) (h : PE X e (tCB r ul)) : DE X B e (tCB r ul) (dCB rd tl) := ⟨h, sim_cb hr ha⟩
/-! the built-ins -/
def dInt : List SV → DSt → DK → Prop
  | [.d (.int i)], μ, Φ => Φ (.d (.int i)) μ
  | [.d (.bl k)], μ, Φ => Φ (.d (.int (if k then 1 else 0))) μ
  | _, _, _ => False
theorem one_inv {M : Mk} {H : Hp} {v : List V} {x : SV} (r : Rvs B M H v [x]) : ∃ u, v = [u] ∧ Rv B M H u x := by
  cases r with
  | cons r1 r2 =>
    cases r2
    exact ⟨_, rfl, r1⟩
theorem two_inv {M : Mk} {H : Hp} {v : List V} {x y : SV} (r : Rvs B M H v [x, y]) : ∃ u w, v = [u, w] ∧ Rv B M H u x ∧ Rv B M H w y := by
  cases r with
  | cons r1 r2 => cases r2 with
    | cons r2 r3 =>
      cases r3
      exact ⟨_, _, rfl, r1, r2⟩
theorem sim_int : SimC B (fun xs H Q => (∃ i, xs = [.int i] ∧ Q (.int i) H) ∨ ∃ k, xs = [.bl k] ∧ Q (.int (if k then 1 else 0)) H) dInt := fun M H μ v x Φ Q W r k h => by
  unfold dInt at h
  split at h
  · obtain ⟨u, rfl, r1⟩ := one_inv r
    rw [r1.int_inv]
    exact .inl ⟨_, rfl, k _ M H _ μ (Le.refl M H) W (.d (.int _)) h⟩
  · obtain ⟨u, rfl, r1⟩ := one_inv r
    rw [r1.bl_inv]
    exact .inr ⟨_, rfl, k _ M H _ μ (Le.refl M H) W (.d (.int _)) h⟩
  · exact h.elim
def dMax2 : List SV → DSt → DK → Prop
  | [.d (.int i), .d (.int j)], μ, Φ => Φ (.d (.int (if j > i then j else i))) μ
  | _, _, _ => False
def dMin2 : List SV → DSt → DK → Prop
  | [.d (.int i), .d (.int j)], μ, Φ => Φ (.d (.int (if j < i then j else i))) μ
  | _, _, _ => False
theorem sim_max2 : SimC B (fun xs H Q => ∃ i j, xs = [.int i, .int j] ∧ Q (.int (if j > i then j else i)) H) dMax2 := fun M H μ v x Φ Q W r k h => by
  unfold dMax2 at h
  split at h
  · obtain ⟨u, w, rfl, r1, r2⟩ := two_inv r
    rw [r1.int_inv, r2.int_inv]
    exact ⟨_, _, rfl, k _ M H _ μ (Le.refl M H) W (.d (.int _)) h⟩
  · exact h.elim
theorem sim_min2 : SimC B (fun xs H Q => ∃ i j, xs = [.int i, .int j] ∧ Q (.int (if j < i then j else i)) H) dMin2 := fun M H μ v x Φ Q W r k h => by
  unfold dMin2 at h
  split at h
  · obtain ⟨u, w, rfl, r1, r2⟩ := two_inv r
    rw [r1.int_inv, r2.int_inv]
    exact ⟨_, _, rfl, k _ M H _ μ (Le.refl M H) W (.d (.int _)) h⟩
  · exact h.elim
def dLen : List SV → DSt → DK → Prop
  | [.d (.tup ds)], μ, Φ => Φ (.d (.int (ds.length : Nat))) μ
  | [.d (.lst ds)], μ, Φ => Φ (.d (.int (ds.length : Nat))) μ
  | [.d (.lsr ds)], μ, Φ => Φ (.d (.int (ds.length : Nat))) μ
  | [.d (.str z)], μ, Φ => z.length ≤ sizeLine ∧ Φ (.d (.int (z.length : Nat))) μ
  | [.m n], μ, Φ => ∃ xs, μ[n]? = some (.lst xs) ∧ Φ (.d (.int (xs.length : Nat))) μ
  | _, _, _ => False
theorem sim_len : SimC B (fun xs H Q => ∃ x n, xs = [x] ∧ LenV B.K x H n ∧ Q (.int n) H) dLen := fun M H μ v x Φ Q W r k h => by
  unfold dLen at h
  split at h
  · obtain ⟨u, rfl, r1⟩ := one_inv r
    obtain ⟨q, us, rfl, hq, rq⟩ := r1.tup_inv
    exact ⟨_, _, rfl, .inr ⟨us, (wo_sub M H).sqt hq, rfl⟩, k _ M H _ μ (Le.refl M H) W (.d (by rw [rq.length]; exact .int _)) h⟩
  · obtain ⟨u, rfl, r1⟩ := one_inv r
    obtain ⟨q, us, rfl, hq, rq⟩ := r1.lst_inv
    exact ⟨_, _, rfl, .inl ⟨us, .inl (.inl (wo_sub M H _ _ hq)), rfl⟩, k _ M H _ μ (Le.refl M H) W (.d (by rw [rq.length]; exact .int _)) h⟩
  · obtain ⟨u, rfl, r1⟩ := one_inv r
    obtain ⟨q, us, rfl, hq, rq⟩ := r1.lsr_inv
    exact ⟨_, _, rfl, .inl ⟨us, (wo_sub M H).sql hq, rfl⟩, k _ M H _ μ (Le.refl M H) W (.d (by rw [rq.length]; exact .int _)) h⟩
  · obtain ⟨u, rfl, r1⟩ := one_inv r
    rw [r1.str_inv]
    exact ⟨_, _, rfl, ⟨h.1, rfl⟩, k _ M H _ μ (Le.refl M H) W (.d (.int _)) h.2⟩
  · obtain ⟨u, rfl, r1⟩ := one_inv r
    obtain ⟨xs, hm, h⟩ := h
    obtain ⟨q, rfl, hq, us, hu, ru⟩ := r1.m_inv W hm
    exact ⟨_, _, rfl, .inl ⟨us, .inl (.inl hu), rfl⟩, k _ M H _ μ (Le.refl M H) W (.d (by rw [ru.length]; exact .int _)) h⟩
  · exact h.elim
def dTuple : List SV → DSt → DK → Prop
  | [.d (.tup ds)], μ, Φ => Φ (.d (.tup ds)) μ
  | [.d (.lst ds)], μ, Φ => Φ (.d (.tup ds)) μ
  | [.m n], μ, Φ => ∃ ds, μ[n]? = some (.lst (ds.map SV.d)) ∧ Φ (.d (.tup ds)) μ
  | _, _, _ => False
theorem sim_tuple : SimC B (fun xs H Q => ∃ p ys, xs = [.ref p] ∧ ((SqL B.K H p ys ∧ ∀ l, H l = none → Q (.ref l) (upd H l (.tup ys))) ∨ (SqT B.K H p ys ∧ Q (.ref p) H))) dTuple := fun M H μ v x Φ Q W r k h => by
  unfold dTuple at h
  split at h
  · obtain ⟨u, rfl, r1⟩ := one_inv r
    obtain ⟨q, us, rfl, hq, rq⟩ := r1.tup_inv
    exact ⟨q, us, rfl, .inr ⟨(wo_sub M H).sqt hq, k _ M H _ μ (Le.refl M H) W (.d (.tup hq rq)) h⟩⟩
  · obtain ⟨u, rfl, r1⟩ := one_inv r
    obtain ⟨q, us, rfl, hq, rq⟩ := r1.lst_inv
    exact ⟨q, us, rfl, .inl ⟨.inl (.inl (wo_sub M H _ _ hq)), fun l hl => k _ M _ _ μ (le_new W hl) (wd_new W hl) (.d (.tup (.inl (.inl (wo_at W hl))) (rq.mono (wo_new hl)))) h⟩⟩
  · obtain ⟨u, rfl, r1⟩ := one_inv r
    obtain ⟨ds, hm, h⟩ := h
    obtain ⟨q, rfl, hq, us, hu, ru⟩ := r1.m_inv W hm
    exact ⟨q, us, rfl, .inl ⟨.inl (.inl hu), fun l hl => k _ M _ _ μ (le_new W hl) (wd_new W hl) (.d (.tup (.inl (.inl (wo_at W hl))) (ru.pure.mono (wo_new hl)))) h⟩⟩
  · exact h.elim
def seqOf : SV → DSt → List D → Prop
  | .d (.tup ds), _, es => es = ds
  | .d (.lst ds), _, es => es = ds
  | .d (.lsr ds), _, es => es = ds
  | .m n, μ, es => μ[n]? = some (.lst (es.map SV.d))
  | _, _, _ => False
theorem seq_inv {M : Mk} {H : Hp} {μ : DSt} {v : V} {x : SV} {ds : List D} (W : Wd B.K M H μ) (r : Rv B M H v x) (h : seqOf x μ ds) : ∃ p us, v = .ref p ∧ (SqL B.K H p us ∨ SqT B.K H p us) ∧ Reps B.K (wo M H) us ds := by
  unfold seqOf at h
  split at h
  · subst h
    obtain ⟨q, us, e, hq, rq⟩ := r.tup_inv
    exact ⟨q, us, e, .inr ((wo_sub M H).sqt hq), rq⟩
  · subst h
    obtain ⟨q, us, e, hq, rq⟩ := r.lst_inv
    exact ⟨q, us, e, .inl (.inl (.inl (wo_sub M H _ _ hq))), rq⟩
  · subst h
    obtain ⟨q, us, e, hq, rq⟩ := r.lsr_inv
    exact ⟨q, us, e, .inl ((wo_sub M H).sql hq), rq⟩
  · obtain ⟨q, e, hq, us, hu, ru⟩ := r.m_inv W h
    exact ⟨q, us, e, .inl (.inl (.inl hu)), ru.pure⟩
  · exact h.elim
/-- list(..): a list that stays -/
def dList : List SV → DSt → DK → Prop
  | [x], μ, Φ => ∃ ds, seqOf x μ ds ∧ Φ (.d (.lst ds)) μ
  | _, _, _ => False
theorem sim_list : SimC B (fun xs H Q => ∃ p ys, xs = [.ref p] ∧ (SqL B.K H p ys ∨ SqT B.K H p ys) ∧ ∀ l, H l = none → Q (.ref l) (upd H l (.lst ys))) dList := fun M H μ v x Φ Q W r k h => by
  unfold dList at h
  split at h
  · obtain ⟨u, rfl, r1⟩ := one_inv r
    obtain ⟨ds, hs, h⟩ := h
    obtain ⟨q, us, rfl, hq, rq⟩ := seq_inv W r1 hs
    exact ⟨q, us, rfl, hq, fun l hl => k _ M _ _ μ (le_new W hl) (wd_new W hl) (.d (.lst (wo_at W hl) (rq.mono (wo_new hl)))) h⟩
  · exact h.elim
/-- .. that changes -/
def dListM : List SV → DSt → DK → Prop
  | [x], μ, Φ => ∃ ds, seqOf x μ ds ∧ Φ (.m μ.length) (μ ++ [.lst (ds.map SV.d)])
  | _, _, _ => False
theorem sim_listM : SimC B (fun xs H Q => ∃ p ys, xs = [.ref p] ∧ (SqL B.K H p ys ∨ SqT B.K H p ys) ∧ ∀ l, H l = none → Q (.ref l) (upd H l (.lst ys))) dListM := fun M H μ v x Φ Q W r k h => by
  unfold dListM at h
  split at h
  · obtain ⟨u, rfl, r1⟩ := one_inv r
    obtain ⟨ds, hs, h⟩ := h
    obtain ⟨q, us, rfl, hq, rq⟩ := seq_inv W r1 hs
    exact ⟨q, us, rfl, hq, fun l hl => k _ (M.add l) _ _ _ (le_newm W hl) (wd_newm (mo := .lst (ds.map SV.d)) W hl ⟨us, upd_same, (SReps.of rq).mono ids_newm (wo_newm hl)⟩) (.m (by rw [← W.len]; exact at_newm)) h⟩
  · exact h.elim
/-! a star among the arguments -/
def dStar (t : DTE) (tr : DTA) : DTA := fun ε μ Φ => t ε μ fun x μ1 => ∃ ds, seqOf x μ1 ds ∧ tr ε μ1 fun ys μ2 => Φ (ds.map SV.d ++ ys) μ2
theorem da_star {p : Pos} (ha : DE X B e ue te) (hr : DA X B es ul tl) (hK : B.K = X.K := by rfl) (hs : starEach (.Starred e p :: es) X.env = (true, eval e X.env) :: starEach es X.env := by rfl) : DA X B (.Starred e p :: es) (StX.tStar B.K ue ul) (dStar te tl) := by
  obtain ⟨Kb, Eb, Ψb⟩ := B
  have hK : Kb = X.K := hK
  subst hK
  have hK : X.K = X.K := rfl
  exact ⟨StX.pa_star ha.p hr.p hs, fun bb M σ H ε μ Φ Q a k q =>
  ha.s bb M σ H ε μ _ _ a (fun v M1 H1 x μ1 l1 w1 r1 q1 => by
    obtain ⟨ds, hs, q1⟩ := q1
    obtain ⟨p, us, rfl, hp, rp⟩ := seq_inv w1 r1 hs
    rw [← hK]
    exact ⟨p, us, rfl, hp.symm, hr.s bb M1 σ H1 ε μ1 _ _ (a.next l1 w1) (fun ws M2 H2 ys μ2 l2 w2 r2 q2 => k _ M2 H2 _ μ2 (l1.trans l2) w2 ((SReps.of (rp.mono l2.sub)).append r2) q2) q1⟩) q⟩
/-! xs.append(x) -/
def dApp (to_ t : DTE) : DTE := fun ε μ Φ => to_ ε μ fun o μ1 => match o with
  | .m n => (∃ xs, μ1[n]? = some (.lst xs)) ∧ t ε μ1 fun x μ2 => ∃ xs, μ2[n]? = some (.lst xs) ∧ xs.length < sizeLine ∧ Φ (.d .non) (μ2.set n (.lst (xs ++ [x])))
  | _ => False
theorem de_app {apos : Pos} (ho : DE X B a ua ta) (he : DE X B b ub tb) (h : PE X e (tBM X.K "list" rAppend ua (tCons ub tNil))) (hK : B.K = X.K := by rfl) : DE X B e (tBM B.K "list" rAppend ua (tCons ub tNil)) (dApp ta tb) := by
  obtain ⟨Kb, Eb, Ψb⟩ := B
  have hK : Kb = X.K := hK
  subst hK
  have hK : X.K = X.K := rfl
  exact ⟨h, fun bb M σ H ε μ Φ Q a k q =>
  ho.s bb M σ H ε μ _ _ a (fun v M1 H1 x μ1 l1 w1 r1 q1 => by
    split at q1
    · rename_i n
      obtain ⟨⟨xs, hm⟩, q1⟩ := q1
      obtain ⟨p, rfl, hp, us, hu, ru⟩ := r1.m_inv w1 hm
      refine ⟨.inl ⟨rfl, us, .inl (.inl hu)⟩, he.s bb M1 σ H1 ε μ1 _ _ (a.next l1 w1) (fun w M2 H2 y μ2 l2 w2 r2 q2 => ?_) q1⟩
      obtain ⟨ys, hm2, hz, q2⟩ := q2
      obtain ⟨p2, e2, hp2, us2, hu2, ru2⟩ := Rv.m_inv w2 (l2.srep r1) hm2
      cases e2
      refine ⟨p, us2, w, rfl, rfl, hu2, by rw [ru2.length]; exact hz, ?_⟩
      have w3 := wd_set (μ := μ2) (o := .lst (us2 ++ [w])) (mo := .lst (ys ++ [y])) w2 hp2 ⟨us2 ++ [w], upd_same, ru2.append (.cons r2 .nil)⟩
      exact k _ M2 _ _ _ ((l1.trans l2).trans (le_set w2 (mem_of_get hp2))) w3 (.d .non) q2
    · exact q1.elim) q⟩
/-! a thing that changed comes to rest -/
def SV.clo (n : Nat) : SV → Prop
  | .d _ => True
  | .m k => k < n
def MO.clo (n : Nat) : MO → Prop
  | .lst xs => ∀ x ∈ xs, x.clo n
  | .dct kvs => ∀ x ∈ kvs.map Prod.snd, x.clo n
  | .dcT kvs => ∀ x ∈ kvs.map Prod.snd, x.clo n
  | .obj _ fs => ∀ x ∈ fs.map Prod.snd, x.clo n
  | .dead => True
inductive Rest : MO → D → Prop
  | lst (ds : List D) : Rest (.lst (ds.map SV.d)) (.lst ds)
  | dct (kvs : List (Key × D)) : Rest (.dct (kvs.map fun p => (p.1, SV.d p.2))) (.dct kvs)
  | dcT (kvs : List (List Key × D)) : Rest (.dcT (kvs.map fun p => (p.1, SV.d p.2))) (.dcT kvs)
  | obj (C : Addr) (fs : List (Str × D)) : Rest (.obj C (fs.map fun p => (p.1, SV.d p.2))) (.obj C fs)
theorem map_fst_d {κ : Type} (kvs : List (κ × D)) : (kvs.map fun p => (p.1, SV.d p.2)).map Prod.fst = kvs.map Prod.fst := by
  rw [List.map_map]
  rfl
theorem map_snd_d {κ : Type} (kvs : List (κ × D)) : (kvs.map fun p => (p.1, SV.d p.2)).map Prod.snd = (kvs.map Prod.snd).map SV.d := by
  rw [List.map_map, List.map_map]
  rfl
theorem Rest.rep {K : PySem.W.Frag} {M : Mk} {G G' H : Hp} {p : Addr} {mo : MO} {d : D} (h : Rest mo d) (r : MRep K M G H p mo) (e : Sub G G') (hp : ∀ o, H p = some o → G' p = some o) : Rep K G' (.ref p) d := by
  cases h with
  | lst ds =>
    obtain ⟨us, hu, ru⟩ := r
    exact .lst (hp _ hu) (ru.pure.mono e)
  | dct kvs =>
    obtain ⟨ws, hw, hk, rw_⟩ := r
    rw [map_fst_d] at hk
    rw [map_snd_d] at rw_
    exact .dct (.inl (hp _ hw)) hk (rw_.pure.mono e)
  | dcT kvs =>
    obtain ⟨ws, hw, hk, rw_⟩ := r
    rw [map_fst_d] at hk
    rw [map_snd_d] at rw_
    exact .dcT (.inl (hp _ hw)) hk (rw_.pure.mono e)
  | obj C fs =>
    obtain ⟨dx, ws, hw, hk, rw_⟩ := r
    rw [map_fst_d] at hk
    rw [map_snd_d] at rw_
    exact .obj (hp _ hw) hk (rw_.pure.mono e)
def frz (n : Nat) (d : D) (ε : DEnv) : DEnv := ε.map fun o => match o with
  | some (.m k) => if k = n then some (.d d) else some (.m k)
  | o => o
def dFz (t : DTS) : DTS := fun Φ ε μ => ∃ (μ0 : DSt) (mo : MO) (d : D), μ = μ0 ++ [mo] ∧ Rest mo d ∧ Φ.fl ≤ μ0.length ∧ (∀ mo ∈ μ0, mo.clo μ0.length) ∧ t Φ (frz μ0.length d ε) μ0
def Mk.cut (M : Mk) (n : Nat) : Mk := ⟨M.ids.take n, M.hid⟩
theorem cut_get {M : Mk} {n j : Nat} {a : Addr} (h : (M.cut n).ids[j]? = some (some a)) : M.ids[j]? = some (some a) ∧ j < n := by
  have h : (M.ids.take n)[j]? = some (some a) := h
  rw [List.getElem?_take] at h
  split at h
  · exact ⟨h, by assumption⟩
  · cases h
theorem get_cut {M : Mk} {n j : Nat} {a : Addr} (h : M.ids[j]? = some (some a)) (hj : j < n) : (M.cut n).ids[j]? = some (some a) := by
  show (M.ids.take n)[j]? = _
  rw [List.getElem?_take, if_pos hj]
  exact h
theorem sreps_cut {K : PySem.W.Frag} {M : Mk} {G G' : Hp} {n : Nat} (e : Sub G G') : ∀ {vs : List V} {xs : List SV}, SReps K M G vs xs → (∀ x ∈ xs, x.clo n) → SReps K (M.cut n) G' vs xs
  | _, _, .nil, _ => .nil
  | _, _, .cons h r, hc => by
    refine .cons ?_ (sreps_cut e r fun x hx => hc x (List.mem_cons_of_mem _ hx))
    cases h with
    | d h => exact .d (h.mono e)
    | m h => exact .m (get_cut h (hc _ (List.mem_cons_self ..)))
theorem mrep_cut {K : PySem.W.Frag} {M : Mk} {G G' H : Hp} {n : Nat} {p : Addr} (e : Sub G G') : ∀ {mo : MO}, MRep K M G H p mo → mo.clo n → MRep K (M.cut n) G' H p mo
  | .lst _, ⟨vs, h, r⟩, c => ⟨vs, h, sreps_cut e r c⟩
  | .dct _, ⟨ws, h, k, r⟩, c => ⟨ws, h, k, sreps_cut e r c⟩
  | .dcT _, ⟨ws, h, k, r⟩, c => ⟨ws, h, k, sreps_cut e r c⟩
  | .obj _ _, ⟨dx, ws, h, k, r⟩, c => ⟨dx, ws, h, k, sreps_cut e r c⟩
  | .dead, h, _ => h.elim
theorem sim_fz {vs : TS} {ds : DTS} (h : SimS B vs ds) : SimS B vs (dFz ds) := fun bb M σ H ε μ Φ D a E q => by
  obtain ⟨μ0, mo, d, rfl, hd, hf, hc, q⟩ := q
  have hl : M.ids.length = μ0.length + 1 := by
    rw [a.wd.len, List.length_append]
    rfl
  have sb : Sub (wo M H) (wo (M.cut μ0.length) H) := fun b o z => by
    obtain ⟨z1, z2, z3⟩ := wo_in z
    exact wo_some z1 (fun y => z2 (List.mem_of_mem_take y)) z3
  have hM0 : bb.M0.ids.length ≤ μ0.length := Nat.le_trans E.fl hf
  have at0 : ∀ {j : Nat} {b : Addr} {mo : MO}, j < μ0.length → (μ0 ++ [mo])[j]? = μ0[j]? := fun hj => List.getElem?_append_left hj
  refine h bb (M.cut μ0.length) σ H _ μ0 Φ D ⟨⟨fun j b z => ?_, ?_, a.le.sub.trans sb, a.le.all, a.le.hid⟩, ⟨?_, fun i j b z1 z2 => a.wd.inj i j b (cut_get z1).1 (cut_get z2).1, fun j b z => ?_, fun b hb => ⟨fun y => (a.wd.hid b hb).1 (List.mem_of_mem_take y), (a.wd.hid b hb).2⟩⟩, ⟨?_, fun i x z => ?_⟩⟩ E q
  · exact get_cut (a.le.ids j b z) (Nat.lt_of_lt_of_le (List.getElem?_eq_some_iff.mp z).1 hM0)
  · show _ ≤ (M.ids.take μ0.length).length
    rw [List.length_take, hl]
    omega
  · show (M.ids.take μ0.length).length = _
    rw [List.length_take, hl]
    omega
  · obtain ⟨z1, z2⟩ := cut_get z
    obtain ⟨mo', h1, r⟩ := a.wd.ob j b z1
    rw [at0 (b := b) z2] at h1
    exact ⟨mo', h1, mrep_cut sb r (hc mo' (List.mem_of_getElem? h1))⟩
  · show σ.length = (ε.map _).length
    rw [List.length_map]
    exact a.env.len
  · have z : (ε.map fun o => match o with | some (.m k) => if k = μ0.length then some (.d d) else some (.m k) | o => o)[i]? = some (some x) := z
    rw [List.getElem?_map] at z
    obtain ⟨o, ho, z⟩ := Option.map_eq_some_iff.mp z
    cases o with
    | none => cases z
    | some y =>
      obtain ⟨v, hv, rv⟩ := a.env.at_ i y ho
      refine ⟨v, hv, ?_⟩
      cases rv with
      | d rv =>
        have z : some (SV.d _) = some x := z
        cases z
        exact .d (rv.mono sb)
      | @m k b hk =>
        have z : (if k = μ0.length then some (SV.d d) else some (SV.m k)) = some x := z
        by_cases e : k = μ0.length
        · rw [if_pos e] at z
          cases z
          obtain ⟨mo', h1, r⟩ := a.wd.ob k b hk
          rw [e, List.getElem?_append_right (Nat.le_refl _), Nat.sub_self] at h1
          cases h1
          obtain ⟨oo, hoo⟩ := r.some
          refine .d (hd.rep r sb fun o ho' => wo_some ho' (fun y => ?_) fun y => (a.wd.hid b y).1 (mem_of_get hk))
          obtain ⟨j, hj⟩ := List.getElem?_of_mem y
          have := a.wd.inj j k b (cut_get (M := M) (n := μ0.length) hj).1 hk
          have h2 := (cut_get (M := M) (n := μ0.length) hj).2
          omega
        · rw [if_neg e] at z
          cases z
          refine .m (get_cut hk ?_)
          have := (List.getElem?_eq_some_iff.mp hk).1
          omega
theorem dss_fz {sts : List Stmt} {vs : TS} {ds : DTS} (h : DSs X B sts vs ds) : DSs X B sts vs (dFz ds) := ⟨h.p, sim_fz h.s⟩
end
end DV

set_option Elab.async false
set_option linter.all false
set_option maxRecDepth 100000
namespace DV
open PySem PySem.Spec PyProof.Rows L2

section
variable {X : Cx} {B : Bs} {a b c e : Expr} {es : List Expr} {pos p : Pos} {ta tb tc te : DTE} {tl : DTA} {ua ub uc ue : TE} {ul : TA}
/-! ### operators by their names -/
abbrev dSub := dI0 fun i j => .int (i - j)
abbrev dMul := dI CMul fun i j => .int (i * j)
abbrev dFdiv := dI CDiv fun i j => .int (i / j)
abbrev dMod := dI (fun _ j => 0 < j) fun i j => .int (i % j)
abbrev dPow := dI CPow fun i j => .int (i ^ j.toNat)
abbrev dLt := dI0 fun i j => .bl (decide (i < j))
abbrev dLe := dI0 fun i j => .bl (decide (i ≤ j))
abbrev dGt := dI0 fun i j => .bl (decide (j < i))
abbrev dGe := dI0 fun i j => .bl (decide (j ≤ i))
theorem de_add (ha : DE X B a ua ta) (hb : DE X B b ub tb) (hK : B.K = X.K := by rfl) : DE X B (.BinOp a .Add b pos) (tOp (rPlus B.K) ua ub) (dOp dPlus ta tb) := by
  obtain ⟨Kb, Eb, Ψb⟩ := B
  have hK : Kb = X.K := hK
  subst hK
  have hK : X.K = X.K := rfl
  exact de_op op_plus (by rw [← hK]; exact sim_plus) ha hb
theorem de_sub (ha : DE X B a ua ta) (hb : DE X B b ub tb) : DE X B (.BinOp a .Sub b pos) (tOp (rI0 fun i j => .int (i - j)) ua ub) (dOp dSub ta tb) := de_op op_sub (sim_I0 fun _ _ _ _ => .int _) ha hb
theorem de_mul (ha : DE X B a ua ta) (hb : DE X B b ub tb) : DE X B (.BinOp a .Mult b pos) (tOp (rI CMul fun i j => .int (i * j)) ua ub) (dOp dMul ta tb) := de_op op_mul (sim_I fun _ _ _ _ => .int _) ha hb
theorem de_fdiv (ha : DE X B a ua ta) (hb : DE X B b ub tb) : DE X B (.BinOp a .FloorDiv b pos) (tOp (rI CDiv fun i j => .int (i / j)) ua ub) (dOp dFdiv ta tb) := de_op op_fdiv (sim_I fun _ _ _ _ => .int _) ha hb
theorem de_mod (ha : DE X B a ua ta) (hb : DE X B b ub tb) : DE X B (.BinOp a .Mod b pos) (tOp (rI (fun _ j => 0 < j) fun i j => .int (i % j)) ua ub) (dOp dMod ta tb) := de_op op_mod (sim_I fun _ _ _ _ => .int _) ha hb
theorem de_pow (ha : DE X B a ua ta) (hb : DE X B b ub tb) : DE X B (.BinOp a .Pow b pos) (tOp (rI CPow fun i j => .int (i ^ j.toNat)) ua ub) (dOp dPow ta tb) := de_op op_pow (sim_I fun _ _ _ _ => .int _) ha hb
theorem de_lt (ha : DE X B a ua ta) (hb : DE X B b ub tb) : DE X B (.Compare a [.Lt] [b] pos) (tOp (rI0 fun i j => .bl (decide (i < j))) ua ub) (dOp dLt ta tb) := de_cmp op_lt (sim_I0 fun _ _ _ _ => .bl _) ha hb (nomark _)
theorem de_le (ha : DE X B a ua ta) (hb : DE X B b ub tb) : DE X B (.Compare a [.LtE] [b] pos) (tOp (rI0 fun i j => .bl (decide (i ≤ j))) ua ub) (dOp dLe ta tb) := de_cmp op_le (sim_I0 fun _ _ _ _ => .bl _) ha hb (nomark _)
theorem de_gt (ha : DE X B a ua ta) (hb : DE X B b ub tb) : DE X B (.Compare a [.Gt] [b] pos) (tOp (rI0 fun i j => .bl (decide (j < i))) ua ub) (dOp dGt ta tb) := de_cmp op_gt (sim_I0 fun _ _ _ _ => .bl _) ha hb (nomark _)
theorem de_ge (ha : DE X B a ua ta) (hb : DE X B b ub tb) : DE X B (.Compare a [.GtE] [b] pos) (tOp (rI0 fun i j => .bl (decide (j ≤ i))) ua ub) (dOp dGe ta tb) := de_cmp op_ge (sim_I0 fun _ _ _ _ => .bl _) ha hb (nomark _)
theorem de_eq (hu : X.A.units + 64 < cLine) (ha : DE X B a ua ta) (hb : DE X B b ub tb) (hK : B.K = X.K := by rfl) : DE X B (.Compare a [.Eq] [b] pos) (tOp (rEqD B.K) ua ub) (dOp (dEqD false) ta tb) := by
  obtain ⟨Kb, Eb, Ψb⟩ := B
  have hK : Kb = X.K := hK
  subst hK
  have hK : X.K = X.K := rfl
  exact de_cmp (op_eqD hu) (by rw [← hK]; exact sim_eqD) ha hb (nomark _)
theorem de_ne (hu : X.A.units + 64 < cLine) (ha : DE X B a ua ta) (hb : DE X B b ub tb) (hK : B.K = X.K := by rfl) : DE X B (.Compare a [.NotEq] [b] pos) (tOp (rNeD B.K) ua ub) (dOp (dEqD true) ta tb) := by
  obtain ⟨Kb, Eb, Ψb⟩ := B
  have hK : Kb = X.K := hK
  subst hK
  have hK : X.K = X.K := rfl
  exact de_cmp (op_neD hu) (by rw [← hK]; exact sim_neD) ha hb (nomark _)
theorem de_isN (ha : DE X B a ua ta) (hb : DE X B b ub tb) : DE X B (.Compare a [.Is] [b] pos) (tOp (fun x y H Q => y = .non ∧ Q (.bl (decide (x = .non))) H) ua ub) (dOp (dIsN false) ta tb) := de_cmp op_isN sim_isN ha hb (nomark _)
theorem de_isnotN (ha : DE X B a ua ta) (hb : DE X B b ub tb) : DE X B (.Compare a [.IsNot] [b] pos) (tOp (fun x y H Q => y = .non ∧ Q (.bl (!decide (x = .non))) H) ua ub) (dOp (dIsN true) ta tb) := de_cmp op_notN sim_isnotN ha hb (nomark _)
theorem de_isB (ha : DE X B a ua ta) (hb : DE X B b ub tb) : DE X B (.Compare a [.Is] [b] pos) (tOp (fun x y H Q => ∃ a b, x = .bl a ∧ y = .bl b ∧ Q (.bl (decide (a = b))) H) ua ub) (dOp (dIsB false) ta tb) := de_cmp op_is_bl sim_isB ha hb (nomark _)
theorem de_isnotB (ha : DE X B a ua ta) (hb : DE X B b ub tb) : DE X B (.Compare a [.IsNot] [b] pos) (tOp (fun x y H Q => ∃ a b, x = .bl a ∧ y = .bl b ∧ Q (.bl (!decide (a = b))) H) ua ub) (dOp (dIsB true) ta tb) := de_cmp op_isnot_bl sim_isnotB ha hb (nomark _)
theorem de_in (ha : DE X B a ua ta) (hb : DE X B b ub tb) (hm : behindInMarks .In b = false) (hK : B.K = X.K := by rfl) : DE X B (.Compare a [.In] [b] pos) (tOp (rIn B.K false) ua ub) (dOp (dIn false) ta tb) := by
  obtain ⟨Kb, Eb, Ψb⟩ := B
  have hK : Kb = X.K := hK
  subst hK
  have hK : X.K = X.K := rfl
  exact de_cmp op_in_seq (by rw [← hK]; exact sim_in false) ha hb hm
theorem de_notin (ha : DE X B a ua ta) (hb : DE X B b ub tb) (hm : behindInMarks .NotIn b = false) (hK : B.K = X.K := by rfl) : DE X B (.Compare a [.NotIn] [b] pos) (tOp (rIn B.K true) ua ub) (dOp (dIn true) ta tb) := by
  obtain ⟨Kb, Eb, Ψb⟩ := B
  have hK : Kb = X.K := hK
  subst hK
  have hK : X.K = X.K := rfl
  exact de_cmp op_notIn_seq (by rw [← hK]; exact sim_in true) ha hb hm
/-- a comparison as a test -/
theorem dt_of {op : CmpOp} {r : R2} {rd : SV → SV → DSt → DK → Prop} (ho : OpR X (compareOp op) r) (hr : SimR B r rd) (ha : DE X B a ua ta) (hb : DE X B b ub tb) (hm : behindInMarks op b = false) : DT X B (.Compare a [op] [b] pos) (tTest (tOp r ua ub)) (dTest (dOp rd ta tb)) := dt_cmp ho hr ha hb hm
/-- a < b < c -/
def dChain (r r' : SV → SV → DSt → DK → Prop) (ta tb tc : DTE) : DTE := fun ε μ Φ => ta ε μ fun x μ1 => tb ε μ1 fun y μ2 => r x y μ2 fun z μ3 => svb z fun k => bcase k (tc ε μ3 fun w μ4 => r' y w μ4 Φ) (Φ (.d (.bl false)) μ3)
theorem de_chain {op op' : CmpOp} {r r' : R2} {rd rd' : SV → SV → DSt → DK → Prop} (hr : SimR B r rd) (hr' : SimR B r' rd') (ha : DE X B a ua ta) (hb : DE X B b ub tb) (hc : DE X B c uc tc)
    (h : PE X e (tChain r r' ua ub uc)) : DE X B e (tChain r r' ua ub uc) (dChain rd rd' ta tb tc) := ⟨h, fun bb M σ H ε μ Φ Q a k q =>
  ha.s bb M σ H ε μ _ _ a (fun v M1 H1 x μ1 l1 w1 r1 q1 => hb.s bb M1 σ H1 ε μ1 _ _ (a.next l1 w1) (fun w M2 H2 y μ2 l2 w2 r2 q2 => hr M2 H2 μ2 _ _ _ _ _ _ w2 (l2.srep r1) r2 (fun z M3 H3 sz μ3 l3 w3 r3 q3 => by
    have l13 := (l1.trans l2).trans l3
    obtain ⟨c, e1, _, q3⟩ := svb_inv r3 q3
    cases c with
    | true =>
      refine ⟨true, e1, ?_⟩
      show (if true = true then _ else _)
      rw [if_pos rfl]
      exact hc.s bb M3 σ H3 ε μ3 _ _ (a.next l13 w3) (fun u M4 H4 su μ4 l4 w4 r4 q4 => hr' M4 H4 μ4 _ _ _ _ _ _ w4 ((l3.trans l4).srep r2) r4 (fun v M5 H5 x μ5 l5 => k v M5 H5 x μ5 ((l13.trans l4).trans l5)) q4) q3
    | false =>
      refine ⟨false, e1, ?_⟩
      show (if false = true then _ else _)
      rw [if_neg Bool.false_ne_true]
      exact k _ M3 H3 _ μ3 l13 w3 (.d (.bl false)) q3) q2) q1) q⟩
/-! ### truth of any value -/
def dTru : SV → DSt → Option Bool
  | .d .non, _ => some false
  | .d (.bl k), _ => some k
  | .d (.int i), _ => some (i != 0)
  | .d (.tup ds), _ => some (!ds.isEmpty)
  | .d (.lst ds), _ => some (!ds.isEmpty)
  | .d (.lsr ds), _ => some (!ds.isEmpty)
  | .m n, μ => match μ[n]? with
    | some (.lst xs) => some (!xs.isEmpty)
    | _ => none
  | _, _ => none
/-! ### built-ins -/
section
variable {x : Str} {id : String} {T : String} {r : List V → Hp → VK → Prop} {rd : List SV → DSt → DK → Prop}
theorem de_B (hc : CallR X (.builtin id) r) (hr : SimC B r rd) (hg : Gl X x) (hm : X.mg x = none) (hv : bootBuiltins x = some (.builtin id)) (ha : DA X B (e :: es) ul tl) (hn : x ≠ "__name__" := by decide) (hdb : (x == ("__debug__" : Str)) = false := by decide)
    (he : starEach (e :: es) X.env = (false, eval e X.env) :: starEach es X.env := by rfl) (hpl : (backTo pos (starEach es X.env)).any (·.1) = false := by rfl) : DE X B (.Call (.Name x p) (e :: es) [] pos) (tCB r ul) (dCB rd tl) := ⟨pe_callB hc hg hm hv ha.p hn hdb he hpl, sim_cb hr ha.s⟩
theorem de_Ty (hc : CallR X (.type T) r) (hr : SimC B r rd) (hg : Gl X x) (hm : X.mg x = none) (hv : bootBuiltins x = some (.type T)) (ha : DA X B (e :: es) ul tl) (hn : x ≠ "__name__" := by decide) (hdb : (x == ("__debug__" : Str)) = false := by decide)
    (he : starEach (e :: es) X.env = (false, eval e X.env) :: starEach es X.env := by rfl) (hpl : (backTo pos (starEach es X.env)).any (·.1) = false := by rfl) : DE X B (.Call (.Name x p) (e :: es) [] pos) (tCB r ul) (dCB rd tl) := ⟨pe_callTy hc hg hm hv ha.p hn hdb he hpl, sim_cb hr ha.s⟩
end
theorem de_append {o : Expr} {apos cpos : Pos} (ho : DE X B o ua ta) (he : DE X B a ub tb) (hK : B.K = X.K := by rfl) (hbase : attributeBase o "append" X.env (eval o X.env) = eval o X.env := by rfl)
    (hfew : ((backTo cpos (starEach [a] X.env)).all (fun x => !x.1) && (backToKw cpos (keywordEach [] X.env)).all (fun x => x.1.isSome) && decide ([a].length + ([] : List Keyword).length + (if ([] : List Keyword).isEmpty then 0 else 1) < 30)) = true := by rfl)
    (hline : (apos.endLine == cpos.line) = true := by rfl) (hs : starEach [a] X.env = (false, eval a X.env) :: starEach [] X.env := by rfl) (hplain : (backTo cpos (starEach [] X.env)).any (·.1) = false := by rfl) :
    DE X B (.Call (.Attribute o "append" apos) [a] [] cpos) (tBM B.K "list" rAppend ua (tCons ub tNil)) (dApp ta tb) := by
  obtain ⟨Kb, Eb, Ψb⟩ := B
  have hK : Kb = X.K := hK
  subst hK
  have hK : X.K = X.K := rfl
  exact de_app (apos := apos) ho he (pe_bm PySem.F.plainAttrs_list PySem.F.slot_list_append PySem.F.type_list_append mt_append ho.p (pa_cons he.p pa_nil hs) hbase hfew hline hs hplain) hK
end

/-! ### a def that can be called -/
structure Callee (P : Program) (w : World) (K : PySem.W.Frag) (mg : Str → Option Value) (base : Heap) (x : Str) (lvl : Nat) (ps : List Str) (d : DSp) : Prop where
  ex : ∃ f fd, FnOk P w K mg base CX0 lvl f fd ps (toSp K d) ∧ mg x = some (.ref f) ∧ PySem.W.keepIn K (.ref f) = true ∧ Binds K fd ps []
section
variable {X : Cx} {B : Bs} {e : Expr} {es : List Expr} {pos p : Pos} {tl : DTA} {ul : TA} {lvl : Nat} {ps : List Str} {d : DSp} {x : Str}
theorem de_c1 (C : Callee X.prog X.w X.K X.mg X.base x lvl ps d) (hr : Room lvl X.A) (hg : Gl X x) (ha : DA X B (e :: es) ul tl)
    (hK : B.K = X.K := by rfl) (hdb : (x == ("__debug__" : Str)) = false := by decide) (he : starEach (e :: es) X.env = (false, eval e X.env) :: starEach es X.env := by rfl) (hpl : (backTo pos (starEach es X.env)).any (·.1) = false := by rfl) :
    DE X B (.Call (.Name x p) (e :: es) [] pos) (tCall (toSp B.K d) [] B.E ul) (dCall d B.Ψ tl) := by
  obtain ⟨Kb, Eb, Ψb⟩ := B
  have hK : Kb = X.K := hK
  subst hK
  have hK : X.K = X.K := rfl
  obtain ⟨f, fd, F, hm, hk, hb⟩ := C.ex
  exact de_call F hr hg hm hk hb passes0 ha hK hdb he hpl
end
/-- the def as it stands -/
structure DefAt (K : PySem.W.Frag) (mg : Str → Option Value) (x : Str) (st : Stmt) : Prop where
  ex : ∃ f fd, Fun K x x st f fd ∧ mg x = some (.ref f)
theorem callee_mk {P : Program} {w : World} {K : PySem.W.Frag} {mg : Str → Option Value} {base : Heap} {x : Str} {st : Stmt} {lvl : Nat} {ps : List Str} {d : DSp} (D : DefAt K mg x st) (hb : ∀ f fd, Fun K x x st f fd → Binds K fd ps [])
    (h : ∀ f fd, Fun K x x st f fd → FnOk P w K mg base CX0 lvl f fd ps (toSp K d)) : Callee P w K mg base x lvl ps d := by
  obtain ⟨f, fd, F, hm⟩ := D.ex
  exact ⟨f, fd, h f fd F, hm, F.kp, hb f fd F⟩
end DV

set_option Elab.async false
set_option linter.all false
set_option maxRecDepth 100000
namespace DV
open PySem PySem.Spec PyProof.Rows L2

section
variable {X : Cx} {B : Bs} {a b c e : Expr} {es : List Expr} {pos p : Pos} {ta tb tc te : DTE} {tl tk : DTA} {ua ub uc ue : TE} {ul uk : TA}
theorem dt_lt (ha : DE X B a ua ta) (hb : DE X B b ub tb) : DT X B (.Compare a [.Lt] [b] pos) (tTest (tOp (rI0 fun i j => .bl (decide (i < j))) ua ub)) (dTest (dOp dLt ta tb)) := dt_cmp op_lt (sim_I0 fun _ _ _ _ => .bl _) ha hb (nomark _)
theorem dt_le (ha : DE X B a ua ta) (hb : DE X B b ub tb) : DT X B (.Compare a [.LtE] [b] pos) (tTest (tOp (rI0 fun i j => .bl (decide (i ≤ j))) ua ub)) (dTest (dOp dLe ta tb)) := dt_cmp op_le (sim_I0 fun _ _ _ _ => .bl _) ha hb (nomark _)
theorem dt_gt (ha : DE X B a ua ta) (hb : DE X B b ub tb) : DT X B (.Compare a [.Gt] [b] pos) (tTest (tOp (rI0 fun i j => .bl (decide (j < i))) ua ub)) (dTest (dOp dGt ta tb)) := dt_cmp op_gt (sim_I0 fun _ _ _ _ => .bl _) ha hb (nomark _)
theorem dt_ge (ha : DE X B a ua ta) (hb : DE X B b ub tb) : DT X B (.Compare a [.GtE] [b] pos) (tTest (tOp (rI0 fun i j => .bl (decide (j ≤ i))) ua ub)) (dTest (dOp dGe ta tb)) := dt_cmp op_ge (sim_I0 fun _ _ _ _ => .bl _) ha hb (nomark _)
theorem dt_eq (hu : X.A.units + 64 < cLine) (ha : DE X B a ua ta) (hb : DE X B b ub tb) (hK : B.K = X.K := by rfl) : DT X B (.Compare a [.Eq] [b] pos) (tTest (tOp (rEqD B.K) ua ub)) (dTest (dOp (dEqD false) ta tb)) := by
  obtain ⟨Kb, Eb, Ψb⟩ := B
  have hK : Kb = X.K := hK
  subst hK
  have hK : X.K = X.K := rfl
  exact dt_cmp (op_eqD hu) (by rw [← hK]; exact sim_eqD) ha hb (nomark _)
theorem dt_ne (hu : X.A.units + 64 < cLine) (ha : DE X B a ua ta) (hb : DE X B b ub tb) (hK : B.K = X.K := by rfl) : DT X B (.Compare a [.NotEq] [b] pos) (tTest (tOp (rNeD B.K) ua ub)) (dTest (dOp (dEqD true) ta tb)) := by
  obtain ⟨Kb, Eb, Ψb⟩ := B
  have hK : Kb = X.K := hK
  subst hK
  have hK : X.K = X.K := rfl
  exact dt_cmp (op_neD hu) (by rw [← hK]; exact sim_neD) ha hb (nomark _)
theorem dt_isN (ha : DE X B a ua ta) (hb : DE X B b ub tb) : DT X B (.Compare a [.Is] [b] pos) (tTest (tOp (fun x y H Q => y = .non ∧ Q (.bl (decide (x = .non))) H) ua ub)) (dTest (dOp (dIsN false) ta tb)) := dt_cmp op_isN sim_isN ha hb (nomark _)
theorem dt_isnotN (ha : DE X B a ua ta) (hb : DE X B b ub tb) : DT X B (.Compare a [.IsNot] [b] pos) (tTest (tOp (fun x y H Q => y = .non ∧ Q (.bl (!decide (x = .non))) H) ua ub)) (dTest (dOp (dIsN true) ta tb)) := dt_cmp op_notN sim_isnotN ha hb (nomark _)
theorem dt_isB (ha : DE X B a ua ta) (hb : DE X B b ub tb) : DT X B (.Compare a [.Is] [b] pos) (tTest (tOp (fun x y H Q => ∃ a b, x = .bl a ∧ y = .bl b ∧ Q (.bl (decide (a = b))) H) ua ub)) (dTest (dOp (dIsB false) ta tb)) := dt_cmp op_is_bl sim_isB ha hb (nomark _)
theorem dt_isnotB (ha : DE X B a ua ta) (hb : DE X B b ub tb) : DT X B (.Compare a [.IsNot] [b] pos) (tTest (tOp (fun x y H Q => ∃ a b, x = .bl a ∧ y = .bl b ∧ Q (.bl (!decide (a = b))) H) ua ub)) (dTest (dOp (dIsB true) ta tb)) := dt_cmp op_isnot_bl sim_isnotB ha hb (nomark _)
theorem dt_in (ha : DE X B a ua ta) (hb : DE X B b ub tb) (hm : behindInMarks .In b = false) (hK : B.K = X.K := by rfl) : DT X B (.Compare a [.In] [b] pos) (tTest (tOp (rIn B.K false) ua ub)) (dTest (dOp (dIn false) ta tb)) := by
  obtain ⟨Kb, Eb, Ψb⟩ := B
  have hK : Kb = X.K := hK
  subst hK
  have hK : X.K = X.K := rfl
  exact dt_cmp op_in_seq (by rw [← hK]; exact sim_in false) ha hb hm
theorem dt_notin (ha : DE X B a ua ta) (hb : DE X B b ub tb) (hm : behindInMarks .NotIn b = false) (hK : B.K = X.K := by rfl) : DT X B (.Compare a [.NotIn] [b] pos) (tTest (tOp (rIn B.K true) ua ub)) (dTest (dOp (dIn true) ta tb)) := by
  obtain ⟨Kb, Eb, Ψb⟩ := B
  have hK : Kb = X.K := hK
  subst hK
  have hK : X.K = X.K := rfl
  exact dt_cmp op_notIn_seq (by rw [← hK]; exact sim_in true) ha hb hm
/-- -a -/
def dNeg (t : DTE) : DTE := fun ε μ Φ => t ε μ fun x μ1 => svi x fun i => Φ (.d (.int (-i))) μ1
theorem de_neg (ha : DE X B a ua ta) : DE X B (.UnaryOp .USub a pos) (tUn (rU fun i => .int (-i)) ua) (dNeg ta) := ⟨pe_un un_neg ha.p, fun bb M σ H ε μ Φ Q a k q => ha.s bb M σ H ε μ _ _ a (fun v M1 H1 x μ1 l1 w1 r1 q1 => by
  obtain ⟨i, e1, _, q1⟩ := svi_inv r1 q1
  exact ⟨i, e1, k _ M1 H1 _ μ1 l1 w1 (.d (.int _)) q1⟩) q⟩
theorem de_globI {x : Str} {k : Int} (hg : Gl X x) (hm : ∃ t, X.mg x = some (.int k t)) (hd : (x == ("__debug__" : Str)) = false := by decide) : DE X B (.Name x pos) (tC (.int k)) (dC (.int k)) := by
  obtain ⟨t, hm⟩ := hm
  exact de_glob hg hm ⟨t, rfl⟩ (fun _ _ => .int k) hd
/-! calls with defaults and keywords -/
section
variable {lvl n : Nat} {ks : List Str} {dv : List V} {dd : List D} {d : DSp} {x : Str} {kws : List Keyword}
structure CalleeP (P : Program) (w : World) (K : PySem.W.Frag) (mg : Str → Option Value) (base : Heap) (x : Str) (lvl : Nat) (dv : List V) (dd : List D) (d : DSp) : Prop where
  ex : ∃ f fd ps ds, FnOk P w K mg base CX0 lvl f fd ps (toSp K d) ∧ mg x = some (.ref f) ∧ PySem.W.keepIn K (.ref f) = true ∧ Binds K fd ps ds ∧ Vals dv ds ∧ ∀ G, Reps K G dv dd
def dCallD (d : DSp) (dd : List D) (Ψ : DX) (t : DTA) : DTE := fun ε μ Φ => t ε μ fun xs μ1 => d (xs ++ dd.map SV.d) μ1 Φ Ψ
theorem de_cd (C : CalleeP X.prog X.w X.K X.mg X.base x lvl dv dd d) (hr : Room lvl X.A) (hg : Gl X x) (ha : DA X B (e :: es) ul tl)
    (hK : B.K = X.K := by rfl) (hdb : (x == ("__debug__" : Str)) = false := by decide) (he : starEach (e :: es) X.env = (false, eval e X.env) :: starEach es X.env := by rfl) (hpl : (backTo pos (starEach es X.env)).any (·.1) = false := by rfl) :
    DE X B (.Call (.Name x p) (e :: es) [] pos) (tCall (toSp B.K d) dv B.E ul) (dCallD d dd B.Ψ tl) := by
  obtain ⟨Kb, Eb, Ψb⟩ := B
  have hK : Kb = X.K := hK
  subst hK
  have hK : X.K = X.K := rfl
  obtain ⟨f, fd, ps, ds, F, hm, hk, hb, hv, hd⟩ := C.ex
  refine ⟨pe_call F hr hg hm hk hb hv passes0 ha.p hdb he hpl, fun bb M σ H ε μ Φ Q a k q => ha.s bb M σ H ε μ _ _ a (fun vs M1 H1 xs μ1 l1 w1 r1 q1 => ?_) q⟩
  rw [← hK]
  exact ⟨M1, μ1, xs ++ dd.map SV.d, Φ, Ψb, w1, r1.append (SReps.of (by rw [hK]; exact hd _)), fun v M2 H2 y μ2 l2 => k v M2 H2 y μ2 (l1.trans l2), fun cls dp M2 H2 fs μ2 l2 => bb.hE cls dp M2 H2 fs μ2 ((a.le.trans l1).trans l2), q1⟩
structure DKw (X : Cx) (B : Bs) (e : List Keyword) (u : TA) (t : DTA) : Prop where
  p : PK X e u
  s : SimA B u t
theorem dk_nil : DKw X B [] tNil dNil := ⟨pk_nil, fun bb M σ H ε μ Φ Q a k h => k [] M H [] μ (Le.refl M H) a.wd .nil h⟩
theorem dk_cons {nm : Option Str} {kpos : Pos} (ha : DE X B e ue te) (hr : DKw X B kws uk tk) : DKw X B (⟨nm, e, kpos⟩ :: kws) (tCons ue uk) (dCons te tk) := ⟨pk_cons ha.p hr.p, sim_cons ha.s hr.s⟩
/-- n by position, then the named ones in the parameters' order, then defaults -/
structure CalleeK (P : Program) (w : World) (K : PySem.W.Frag) (mg : Str → Option Value) (base : Heap) (x : Str) (lvl : Nat) (n : Nat) (ks : List Str) (dv : List V) (dd : List D) (d : DSp) : Prop where
  ex : ∃ f fd ps g, FnOk P w K mg base CX0 lvl f fd ps (toSp K d) ∧ mg x = some (.ref f) ∧ PySem.W.keepIn K (.ref f) = true ∧ KBn K fd ps n ks g (fun vs zs => vs ++ zs ++ dv) ∧ ∀ G, Reps K G dv dd
def dCallK (n m : Nat) (d : DSp) (dd : List D) (Ψ : DX) (t tk : DTA) : DTE := fun ε μ Φ => t ε μ fun xs μ1 => tk ε μ1 fun zs μ2 => xs.length = n ∧ zs.length = m ∧ d (xs ++ zs ++ dd.map SV.d) μ2 Φ Ψ
theorem de_ck (C : CalleeK X.prog X.w X.K X.mg X.base x lvl n ks dv dd d) (hr : Room lvl X.A) (hg : Gl X x) (ha : DA X B (e :: es) ul tl) (hkw : DKw X B kws uk tk)
    (hK : B.K = X.K := by rfl) (hall : (backToKw pos (keywordEach kws X.env)).all (·.1.isSome) = true := by rfl) (hks : (backToKw pos (keywordEach kws X.env)).filterMap (·.1) = ks := by rfl)
    (hdb : (x == ("__debug__" : Str)) = false := by decide) (he : starEach (e :: es) X.env = (false, eval e X.env) :: starEach es X.env := by rfl)
    (hpl : ((backTo pos (starEach (e :: es) X.env)).any (·.1) || (backToKw pos (keywordEach kws X.env)).any (·.1.isNone)) = false := by rfl) :
    DE X B (.Call (.Name x p) (e :: es) kws pos) (tCallN n ks.length (toSp B.K d) (fun vs zs => vs ++ zs ++ dv) B.E ul uk) (dCallK n ks.length d dd B.Ψ tl tk) := by
  obtain ⟨Kb, Eb, Ψb⟩ := B
  have hK : Kb = X.K := hK
  subst hK
  have hK : X.K = X.K := rfl
  obtain ⟨f, fd, ps, g, F, hm, hk, hb, hd⟩ := C.ex
  refine ⟨pe_callN F hr hg hm hk hb passes0 ha.p hkw.p hall hks hdb he hpl, fun bb M σ H ε μ Φ Q a k q => ha.s bb M σ H ε μ _ _ a (fun vs M1 H1 xs μ1 l1 w1 r1 q1 => hkw.s bb M1 σ H1 ε μ1 _ _ (a.next l1 w1) (fun ws M2 H2 zs μ2 l2 w2 r2 q2 => ?_) q1) q⟩
  obtain ⟨e1, e2, q2⟩ := q2
  refine ⟨by rw [r1.length]; exact e1, by rw [r2.length]; exact e2, ?_⟩
  rw [← hK]
  exact ⟨M2, μ2, xs ++ zs ++ dd.map SV.d, Φ, Ψb, w2, ((l2.sreps r1).append r2).append (SReps.of (by rw [hK]; exact hd _)), fun v M3 H3 y μ3 l3 => k v M3 H3 y μ3 ((l1.trans l2).trans l3), fun cls dp M3 H3 fs μ3 l3 => bb.hE cls dp M3 H3 fs μ3 (((a.le.trans l1).trans l2).trans l3), q2⟩
theorem de_c0 {ps : List Str} (C : Callee X.prog X.w X.K X.mg X.base x lvl ps d) (hr : Room lvl X.A) (hg : Gl X x) (hK : B.K = X.K := by rfl) (hdb : (x == ("__debug__" : Str)) = false := by decide) :
    DE X B (.Call (.Name x p) [] [] pos) (tCall (toSp B.K d) [] B.E tNil) (dCall d B.Ψ dNil) := by
  obtain ⟨Kb, Eb, Ψb⟩ := B
  have hK : Kb = X.K := hK
  subst hK
  have hK : X.K = X.K := rfl
  obtain ⟨f, fd, F, hm, hk, hb⟩ := C.ex
  exact de_call0 F hr hg hm hk hb passes0 hK hdb
end
/-! a word between two statements -/
def dCut (t u : DTS) : DTS := fun Φ ε μ => ∃ Mid : DEnv → DSt → Prop, t { Φ with nx := Mid } ε μ ∧ ∀ ε' μ', Mid ε' μ' → u Φ ε' μ'
theorem dss_cut {st : Stmt} {rest : List Stmt} {vs vr : TS} {ds dr : DTS} (h : DS X B st vs ds) (hr : DSs X B rest vr dr) : DSs X B (st :: rest) (tSeq vs vr) (dCut ds dr) := ⟨pss_cons h.p hr.p, fun bb M σ H ε μ Φ D a E q => by
  obtain ⟨Mid, q1, q2⟩ := q
  exact h.s bb M σ H ε μ { Φ with nx := Mid } _ a (E.nx' fun M1 σ1 H1 ε1 μ1 a1 q3 => hr.s bb M1 σ1 H1 ε1 μ1 Φ D a1 E (q2 ε1 μ1 q3)) q1⟩
/-! y = [..] -/
theorem ds_setLc {i : Nat} {y : Str} {py spos : Pos} {elt tg iter : Expr} {ifs : List Expr} {scope : Scope} {own : List (Str × Nat)} {vi : TI} {di : DTI} {vg : TG} {dg : DTG} {vt : TT} {dt : DTT} (hc : X.calm = true) (hN : X.N.Nodup) (hy : X.N[i]? = some y) (hyl : X.env.scope.names.lookup y = some .local)
    (hsw : swapsWith (.ListComp elt [⟨tg, iter, ifs, 0⟩] scope pos) (some (.Name y py)) spos.line X.env = pure true) (hi : DI X B tg iter vi di) (ok : BlkOk X.N X.env.scope scope own)
    (hg : ∀ (s : Shared) (H : Hp) (C : Addr) (cl : List (Str × Addr)) (fp : List Addr), DG (X.blk s H scope (compEnvC scope cl C X.env) fp) B tg vg dg) (hw : GW (own.map (·.2)) vg)
    (ht : ∀ (s : Shared) (H : Hp) (C : Addr) (cl : List (Str × Addr)) (fp : List Addr), DTs (X.blk s H scope (compEnvC scope cl C X.env) fp) B ifs vt dt)
    (he : ∀ (s : Shared) (H : Hp) (C : Addr) (cl : List (Str × Addr)) (fp : List Addr), DE (X.blk s H scope (compEnvC scope cl C X.env) fp) B elt ue te) (hs : ∀ x, foldedSetIterable iter X.env x = pure x := by intro _; rfl) :
    DS X B (.Assign [.Name y py] (.ListComp elt [⟨tg, iter, ifs, 0⟩] scope pos) spos) (tAsg (tLc vi vg vt ue (own.map (·.2))) (gName i)) (dAsg (dLc di dg dt te (own.map (·.2))) (dgN i)) :=
  ⟨ps_setLc hc hN hy hyl hsw hi.p ok (fun s H C cl fp => (hg s H C cl fp).p) (fun s H C cl fp => (ht s H C cl fp).p) (fun s H C cl fp => (he s H C cl fp).p) hs,
   fun bb M σ H ε μ Φ D a E q => sim_lc hi.s (hg X.s_0 X.H_0 0 [] []).s hw (ht X.s_0 X.H_0 0 [] []).s (he X.s_0 X.H_0 0 [] []).s bb M σ H ε μ _ _ a (fun v M1 H1 x μ1 l1 w1 r1 q1 => E.nx M1 _ H1 _ μ1 ((a.next l1 w1).set i r1) q1) q⟩
end
/-! binding with defaults and keywords -/
section
variable {K : PySem.W.Frag} {x qual : Str} {params : Arguments} {body : List Stmt} {scope : Scope} {dvs : List V} {kws : List (Str × V)} {f : Addr} {fd : FuncData} {ps : List Str}
theorem kbn_of (F : FunD K x qual params body scope dvs kws f fd) (n j : Nat) (ks : List Str) (hd : dvs ≠ [])
    (h : ∀ (T : Addr) (kV doc pm : Value) (an : Option Addr) (cdv ct : Value) (us its ws : List Value), us.length = n → its.length = dvs.length → ws.length = ks.length →
      ∃ k, bindArgs (PySem.W.fnOf x qual params body scope (.ref T) kV doc pm an cdv ct) ⟨us, ks.zip ws⟩ = seqItems? (.ref T) >>= k ∧ k (some its.toArray) = pure (ps.zip (us ++ ws ++ its.drop j))) :
    ∃ g, KBn K fd ps n ks g (fun vs zs => vs ++ zs ++ dvs.drop j) := by
  obtain ⟨oc, od, dV, kV, doc, pm, an, cdv, ct, osl, rfl, lk, hcd, hD, hK⟩ := F.ex
  rcases hD with ⟨e, _⟩ | ⟨_, T, o, its, m, rfl, lT, oT, rT⟩
  · exact absurd e hd
  · refine ⟨fun us ws => us ++ ws ++ its.drop j, ⟨fun s us ws X l1 l2 => ?_, fun r1 r2 => (r1.append r2).append (rT.drop j)⟩⟩
    obtain ⟨k, e1, e2⟩ := h T kV doc pm an cdv ct us its ws l1 rT.length.symm l2
    refine BindsTo.of_looks fun M => ?_
    rw [e1]
    exact looks_items X lT oT (.of_pure e2)
end
end DV

set_option Elab.async false
set_option linter.all false
set_option maxRecDepth 100000
namespace DV
open PySem PySem.Spec PyProof.Rows L2

/-! ### one step -/
section
variable {Φ : DEnds} {ε : DEnv} {μ : DSt} {k : DK} {ta tb tc : DTE} {t u : DTS} {g : DTG} {tl tk : DTA} {b : Bool} {tt uu : DTT} {kb : Bool → DSt → Prop} {ka : List SV → DSt → Prop} {A C : Prop}
theorem l_seq (h : t { Φ with nx := u Φ } ε μ) : dSeq t u Φ ε μ := h
theorem l_asg (h : ta ε μ fun x μ1 => g x ε μ1 Φ.nx) : dAsg ta g Φ ε μ := h
theorem l_ret (h : ta ε μ Φ.rt) : dRet ta Φ ε μ := h
theorem l_retN (h : Φ.rt (.d .non) μ) : dRetN Φ ε μ := h
theorem l_next (h : Φ.nx ε μ) : dNext Φ ε μ := h
theorem l_break (h : Φ.bk ε μ) : dBreak Φ ε μ := h
theorem l_cont (h : Φ.ct ε μ) : dCont Φ ε μ := h
theorem l_drop (h : ta ε μ fun _ μ1 => Φ.nx ε μ1) : dDrop ta Φ ε μ := h
theorem l_ifS (h : tt ε μ fun k μ1 => bcase k (t Φ ε μ1) (u Φ ε μ1)) : dIfS tt t u Φ ε μ := h
def parK (i j : Nat) (Φ : DEnds) (ε : DEnv) (xs : List SV) (μ : DSt) : Prop := match xs with
  | [x, y] => Φ.nx ((ε.set i (some x)).set j (some y)) μ
  | _ => False
theorem l_par {i j : Nat} (h : tl ε μ (parK i j Φ ε)) : dPar i j tl Φ ε μ := h
theorem l_parK {i j : Nat} {x y : SV} (h : Φ.nx ((ε.set i (some x)).set j (some y)) μ) : parK i j Φ ε [x, y] μ := h
theorem lk_of : ∀ {ε : DEnv} {i : Nat} {x : SV} {f : SV → Prop}, ε[i]? = some (some x) → f x → lk ε i f
  | [], _, _, _, h, _ => by simp at h
  | o :: _, 0, x, f, h, q => by
    have h : o = some x := by simpa using h
    subst h
    exact q
  | _ :: r, n + 1, x, f, h, q => lk_of (ε := r) (i := n) (by simpa using h) q
theorem l_aug {i : Nat} {r : SV → SV → DSt → DK → Prop} {x : SV} (h : ε[i]? = some (some x)) (q : ta ε μ fun y μ1 => r x y μ1 fun z μ2 => Φ.nx (ε.set i (some z)) μ2) : dAug i ta r Φ ε μ := lk_of h q
theorem l_var {i : Nat} {x : SV} (h : ε[i]? = some (some x)) (q : k x μ) : dVar i ε μ k := lk_of h q
theorem l_c {d : D} (h : k (.d d) μ) : dC d ε μ k := h
theorem l_op {r : SV → SV → DSt → DK → Prop} (h : ta ε μ fun x μ1 => tb ε μ1 fun y μ2 => r x y μ2 k) : dOp r ta tb ε μ k := h
theorem l_test (h : ta ε μ fun x μ1 => svb x fun c => kb c μ1) : dTest ta ε μ kb := h
theorem l_and (h : tt ε μ fun c μ1 => bcase c (uu ε μ1 kb) (kb false μ1)) : dAnd tt uu ε μ kb := h
theorem l_or (h : tt ε μ fun c μ1 => bcase c (kb true μ1) (uu ε μ1 kb)) : dOr tt uu ε μ kb := h
theorem l_not (h : tt ε μ fun c μ1 => kb (!c) μ1) : dNot tt ε μ kb := h
theorem l_andV (h : ta ε μ fun x μ1 => svb x fun c => bcase c (tb ε μ1 k) (k (.d (.bl false)) μ1)) : dAndV ta tb ε μ k := h
theorem l_orV (h : ta ε μ fun x μ1 => svb x fun c => bcase c (k (.d (.bl true)) μ1) (tb ε μ1 k)) : dOrV ta tb ε μ k := h
theorem l_notV (h : ta ε μ fun x μ1 => svb x fun c => k (.d (.bl (!c))) μ1) : dNotV ta ε μ k := h
theorem l_if (h : tt ε μ fun c μ1 => bcase c (ta ε μ1 k) (tb ε μ1 k)) : dIf tt ta tb ε μ k := h
theorem l_nil (h : ka [] μ) : dNil ε μ ka := h
theorem l_cons (h : ta ε μ fun x μ1 => tl ε μ1 fun xs μ2 => ka (x :: xs) μ2) : dCons ta tl ε μ ka := h
def starK (tl : DTA) (ε : DEnv) (ka : List SV → DSt → Prop) (x : SV) (μ1 : DSt) : Prop := ∃ ds, seqOf x μ1 ds ∧ tl ε μ1 fun ys μ2 => ka (ds.map SV.d ++ ys) μ2
theorem l_star (h : ta ε μ (starK tl ε ka)) : dStar ta tl ε μ ka := h
theorem l_starT {ds : List D} (h : tl ε μ fun ys μ2 => ka (ds.map SV.d ++ ys) μ2) : starK tl ε ka (.d (.tup ds)) μ := ⟨ds, rfl, h⟩
theorem l_starL {ds : List D} (h : tl ε μ fun ys μ2 => ka (ds.map SV.d ++ ys) μ2) : starK tl ε ka (.d (.lst ds)) μ := ⟨ds, rfl, h⟩
def tupK (k : DK) (xs : List SV) (μ : DSt) : Prop := match pures xs with
  | some ds => ds.length ≤ sizeLine ∧ k (.d (.tup ds)) μ
  | none => False
def lstK (k : DK) (xs : List SV) (μ : DSt) : Prop := match pures xs with
  | some ds => ds.length ≤ sizeLine ∧ k (.d (.lst ds)) μ
  | none => False
def lstMK (k : DK) (xs : List SV) (μ : DSt) : Prop := xs.length ≤ sizeLine ∧ k (.m μ.length) (μ ++ [.lst xs])
theorem l_tup (h : tl ε μ (tupK k)) : dTup tl ε μ k := h
theorem l_lst (h : tl ε μ (lstK k)) : dLst tl ε μ k := h
theorem l_lstM (h : tl ε μ (lstMK k)) : dLstM tl ε μ k := h
theorem l_tupK {xs : List SV} {ds : List D} (e : pures xs = some ds) (hz : ds.length ≤ sizeLine) (h : k (.d (.tup ds)) μ) : tupK k xs μ := by
  unfold tupK
  rw [e]
  exact ⟨hz, h⟩
theorem l_lstK {xs : List SV} {ds : List D} (e : pures xs = some ds) (hz : ds.length ≤ sizeLine) (h : k (.d (.lst ds)) μ) : lstK k xs μ := by
  unfold lstK
  rw [e]
  exact ⟨hz, h⟩
theorem l_tupK' {xs : List SV} (ds : List D) (e : xs = ds.map SV.d) (hz : ds.length ≤ sizeLine) (h : k (.d (.tup ds)) μ) : tupK k xs μ := l_tupK (by rw [e]; exact pures_map ds) hz h
theorem l_lstK' {xs : List SV} (ds : List D) (e : xs = ds.map SV.d) (hz : ds.length ≤ sizeLine) (h : k (.d (.lst ds)) μ) : lstK k xs μ := l_lstK (by rw [e]; exact pures_map ds) hz h
theorem szle {n : Nat} (h : n ≤ 100000) : n ≤ sizeLine := Nat.le_trans h (by decide)
theorem szlt {n : Nat} (h : n < 100000) : n < sizeLine := Nat.lt_of_lt_of_le h (by decide)
theorem l_lstMK {xs : List SV} (hz : xs.length ≤ sizeLine) (h : k (.m μ.length) (μ ++ [.lst xs])) : lstMK k xs μ := ⟨hz, h⟩
theorem pures_app : ∀ {xs ys : List SV} {ds es : List D}, pures xs = some ds → pures ys = some es → pures (xs ++ ys) = some (ds ++ es) := fun {xs ys ds es} h1 h2 => by
  rw [pures_eq h1, pures_eq h2, ← List.map_append]
  exact pures_map _
theorem l_cb {r : List SV → DSt → DK → Prop} (h : tl ε μ fun xs μ1 => r xs μ1 k) : dCB r tl ε μ k := h
theorem l_call {d : DSp} {Ψ : DX} (h : tl ε μ fun xs μ1 => d xs μ1 k Ψ) : dCall d Ψ tl ε μ k := h
theorem l_callD {d : DSp} {Ψ : DX} {dd : List D} (h : tl ε μ fun xs μ1 => d (xs ++ dd.map SV.d) μ1 k Ψ) : dCallD d dd Ψ tl ε μ k := h
theorem l_callK {d : DSp} {Ψ : DX} {dd : List D} {n m : Nat} (h : tl ε μ fun xs μ1 => tk ε μ1 fun zs μ2 => xs.length = n ∧ zs.length = m ∧ d (xs ++ zs ++ dd.map SV.d) μ2 k Ψ) : dCallK n m d dd Ψ tl tk ε μ k := h
theorem l_svb {f : Bool → Prop} {c : Bool} (h : f c) : svb (.d (.bl c)) f := h
theorem l_svi {f : Int → Prop} {c : Int} (h : f c) : svi (.d (.int c)) f := h
theorem l_bt (h : A) : bcase true A C := h
theorem l_bf (h : C) : bcase false A C := h
theorem l_bnt (h : C) : bcase (!true) A C := h
theorem l_bnf (h : A) : bcase (!false) A C := h
theorem l_cut {Mid : DEnv → DSt → Prop} (h : t { Φ with nx := Mid } ε μ) (h2 : ∀ ε' μ', Mid ε' μ' → u Φ ε' μ') : dCut t u Φ ε μ := ⟨Mid, h, h2⟩
theorem l_b {c : Bool} (h1 : c = true → A) (h2 : c = false → C) : bcase c A C := by
  cases c with
  | true => exact h1 rfl
  | false => exact h2 rfl
theorem l_bd {p : Prop} [Decidable p] (h1 : p → A) (h2 : ¬ p → C) : bcase (decide p) A C := l_b (fun h => h1 (of_decide_eq_true h)) fun h => h2 (of_decide_eq_false h)
theorem l_bnd {p : Prop} [Decidable p] (h1 : ¬ p → A) (h2 : p → C) : bcase (!decide p) A C := l_b (fun h => h1 (by simpa using h)) fun h => h2 (by simpa using h)
theorem l_bne {p : Prop} [Decidable p] (h1 : p) (h2 : C) : bcase (!decide p) A C := l_bnd (fun h => absurd h1 h) fun _ => h2
theorem l_bT {c : Bool} (h1 : c = true) (h2 : A) : bcase c A C := by
  subst h1
  exact h2
theorem l_bF {c : Bool} (h1 : c = false) (h2 : C) : bcase c A C := by
  subst h1
  exact h2
theorem l_dgN {i : Nat} {x : SV} {f : DEnv → DSt → Prop} (h : f (ε.set i (some x)) μ) : dgN i x ε μ f := h
theorem l_dgTup {n : Nat} {s : DTGs} {ds : List D} {f : DEnv → DSt → Prop} (hl : ds.length = n) (h : s (ds.map SV.d) ε μ f) : dgTup n s (.d (.tup ds)) ε μ f := ⟨hl, h⟩
theorem l_dgTup2 {s : DTGs} {a b : D} {f : DEnv → DSt → Prop} (h : s [.d a, .d b] ε μ f) : dgTup 2 s (.d (.tup [a, b])) ε μ f := ⟨rfl, h⟩
theorem l_dgTup3 {s : DTGs} {a b c : D} {f : DEnv → DSt → Prop} (h : s [.d a, .d b, .d c] ε μ f) : dgTup 3 s (.d (.tup [a, b, c])) ε μ f := ⟨rfl, h⟩
theorem l_dgTup4 {s : DTGs} {a b c d : D} {f : DEnv → DSt → Prop} (h : s [.d a, .d b, .d c, .d d] ε μ f) : dgTup 4 s (.d (.tup [a, b, c, d])) ε μ f := ⟨rfl, h⟩
theorem cmul_l {i j : Int} (h1 : -(2 ^ 64) < i) (h2 : i < 2 ^ 64) : CMul i j := .inl ⟨h1, h2⟩
theorem cmul_r {i j : Int} (h1 : -(2 ^ 64) < j) (h2 : j < 2 ^ 64) : CMul i j := .inr ⟨h1, h2⟩
theorem cmul_b {i : Int} {c : Bool} : CMul i (if c then 1 else 0) := by
  cases c
  · exact cmul_r (by decide) (by decide)
  · exact cmul_r (by decide) (by decide)
theorem cpow_of {i j : Int} (h1 : 0 ≤ j) (h2 : j ≤ 1000000) (h3 : i.natAbs < 2 ^ 64) : CPow i j := ⟨h1, h2, h3⟩
theorem cdiv_of {i j : Int} (h1 : 0 < j) (h2 : j < 1073741824) : CDiv i j := ⟨h1, h2⟩
theorem l_dgCons {s : DTGs} {x : SV} {r : List SV} {f : DEnv → DSt → Prop} (h : g x ε μ fun ε1 μ1 => s r ε1 μ1 f) : dgCons g s (x :: r) ε μ f := h
theorem l_dgNil {f : DEnv → DSt → Prop} (h : f ε μ) : dgNil [] ε μ f := h
def subK (x : SV) (ε : DEnv) (f : DEnv → DSt → Prop) (o i : SV) (μ2 : DSt) : Prop := match o, i with
  | .m n, .d (.int k) => ∃ xs j, μ2[n]? = some (.lst xs) ∧ ixN xs.length k = some j ∧ f ε (μ2.set n (.lst (xs.set j x)))
  | _, _ => False
theorem l_dgSub {x : SV} {f : DEnv → DSt → Prop} (h : ta ε μ fun o μ1 => tb ε μ1 fun i μ2 => subK x ε f o i μ2) : dgSub ta tb x ε μ f := h
theorem l_subK {x : SV} {f : DEnv → DSt → Prop} {n j : Nat} {i : Int} {xs : List SV} (hm : μ[n]? = some (.lst xs)) (hj : ixN xs.length i = some j) (h : f ε (μ.set n (.lst (xs.set j x)))) : subK x ε f (.m n) (.d (.int i)) μ := ⟨xs, j, hm, hj, h⟩
theorem l_yes (h : kb true μ) : dYes ε μ kb := h
/-! operators -/
theorem l_I {P : Int → Int → Prop} {f : Int → Int → D} {i j : Int} (hc : P i j) (h : k (.d (f i j)) μ) : dI P f (.d (.int i)) (.d (.int j)) μ k := ⟨hc, h⟩
theorem l_I0 {f : Int → Int → D} {i j : Int} (h : k (.d (f i j)) μ) : dI0 f (.d (.int i)) (.d (.int j)) μ k := h
theorem l_mod {i j : Int} (hc : 0 < j) (h : k (.d (.int (i % j))) μ) : dMod (.d (.int i)) (.d (.int j)) μ k := ⟨hc, h⟩
theorem l_fdiv {i j : Int} (hc : CDiv i j) (h : k (.d (.int (i / j))) μ) : dFdiv (.d (.int i)) (.d (.int j)) μ k := ⟨hc, h⟩
theorem l_mul {i j : Int} (hc : CMul i j) (h : k (.d (.int (i * j))) μ) : dMul (.d (.int i)) (.d (.int j)) μ k := ⟨hc, h⟩
theorem l_pow {i j : Int} (hc : CPow i j) (h : k (.d (.int (i ^ j.toNat))) μ) : dPow (.d (.int i)) (.d (.int j)) μ k := ⟨hc, h⟩
theorem l_plusI {i j : Int} (h : k (.d (.int (i + j))) μ) : dPlus (.d (.int i)) (.d (.int j)) μ k := h
theorem l_plusT {i j : List D} (hc : i.length + j.length ≤ sizeLine) (h : k (.d (.tup (i ++ j))) μ) : dPlus (.d (.tup i)) (.d (.tup j)) μ k := ⟨hc, h⟩
theorem l_plusL {i j : List D} (hc : i.length + j.length ≤ sizeLine) (h : k (.d (.lst (i ++ j))) μ) : dPlus (.d (.lst i)) (.d (.lst j)) μ k := ⟨hc, h⟩
theorem l_neg (h : ta ε μ fun x μ1 => svi x fun i => k (.d (.int (-i))) μ1) : dNeg ta ε μ k := h
theorem l_int {i : Int} (h : k (.d (.int i)) μ) : dInt [.d (.int i)] μ k := h
theorem l_intb {c : Bool} (h : k (.d (.int (if c then 1 else 0))) μ) : dInt [.d (.bl c)] μ k := h
theorem l_max2 {i j : Int} (h : k (.d (.int (if j > i then j else i))) μ) : dMax2 [.d (.int i), .d (.int j)] μ k := h
theorem l_min2 {i j : Int} (h : k (.d (.int (if j < i then j else i))) μ) : dMin2 [.d (.int i), .d (.int j)] μ k := h
theorem l_lenT {ds : List D} (h : k (.d (.int (ds.length : Nat))) μ) : dLen [.d (.tup ds)] μ k := h
theorem l_lenL {ds : List D} (h : k (.d (.int (ds.length : Nat))) μ) : dLen [.d (.lst ds)] μ k := h
theorem l_lenR {ds : List D} (h : k (.d (.int (ds.length : Nat))) μ) : dLen [.d (.lsr ds)] μ k := h
theorem l_tupleT {ds : List D} (h : k (.d (.tup ds)) μ) : dTuple [.d (.tup ds)] μ k := h
theorem l_tupleL {ds : List D} (h : k (.d (.tup ds)) μ) : dTuple [.d (.lst ds)] μ k := h
theorem l_listT {ds : List D} (h : k (.d (.lst ds)) μ) : dList [.d (.tup ds)] μ k := ⟨ds, rfl, h⟩
theorem l_listL {ds : List D} (h : k (.d (.lst ds)) μ) : dList [.d (.lst ds)] μ k := ⟨ds, rfl, h⟩
theorem l_listMT {ds : List D} (h : k (.m μ.length) (μ ++ [.lst (ds.map SV.d)])) : dListM [.d (.tup ds)] μ k := ⟨ds, rfl, h⟩
theorem l_listML {ds : List D} (h : k (.m μ.length) (μ ++ [.lst (ds.map SV.d)])) : dListM [.d (.lst ds)] μ k := ⟨ds, rfl, h⟩
theorem l_tupleM {n : Nat} {ds : List D} (hm : μ[n]? = some (.lst (ds.map SV.d))) (h : k (.d (.tup ds)) μ) : dTuple [.m n] μ k := ⟨ds, hm, h⟩
theorem l_isB {i j : Bool} (h : k (.d (.bl (decide (i = j)))) μ) : dIsB false (.d (.bl i)) (.d (.bl j)) μ k := h
theorem l_isnotB {i j : Bool} (h : k (.d (.bl (!decide (i = j)))) μ) : dIsB true (.d (.bl i)) (.d (.bl j)) μ k := h
theorem l_isN {x : SV} (h : k (.d (.bl (svIsNon x))) μ) : dIsN false x (.d .non) μ k := h
theorem l_isnotN {x : SV} (h : k (.d (.bl (!svIsNon x))) μ) : dIsN true x (.d .non) μ k := h
theorem l_ixT {ds : List D} {i : Int} {x : D} (ha : atI ds i = some x) (h : k (.d x) μ) : dIx (.d (.tup ds)) (.d (.int i)) μ k := ⟨x, ha, h⟩
theorem l_ixL {ds : List D} {i : Int} {x : D} (ha : atI ds i = some x) (h : k (.d x) μ) : dIx (.d (.lst ds)) (.d (.int i)) μ k := ⟨x, ha, h⟩
theorem l_ixR {ds : List D} {i : Int} {x : D} (ha : atI ds i = some x) (h : k (.d x) μ) : dIx (.d (.lsr ds)) (.d (.int i)) μ k := ⟨x, ha, h⟩
theorem l_ixM {xs : List SV} {n : Nat} {i : Int} {x : SV} (hm : μ[n]? = some (.lst xs)) (ha : atI xs i = some x) (h : k x μ) : dIx (.m n) (.d (.int i)) μ k := ⟨xs, x, hm, ha, h⟩
def slK (k : DK) (x : SV) (lo hi : Option Int) (μ3 : DSt) : Prop := match x with
  | .d (.tup ds) => k (.d (.tup (cut ds lo hi))) μ3
  | .d (.lst ds) => k (.d (.lst (cut ds lo hi))) μ3
  | .d (.lsr ds) => k (.d (.lst (cut ds lo hi))) μ3
  | .m n => ∃ ds, μ3[n]? = some (.lst (ds.map SV.d)) ∧ k (.d (.lst (cut ds lo hi))) μ3
  | _ => False
theorem l_sl {tlo thi : DEnv → DSt → (Option Int → DSt → Prop) → Prop} (h : ta ε μ fun x μ1 => tlo ε μ1 fun lo μ2 => thi ε μ2 fun hi μ3 => slK k x lo hi μ3) : dSl ta tlo thi ε μ k := h
theorem l_slT {ds : List D} {lo hi : Option Int} (h : k (.d (.tup (cut ds lo hi))) μ) : slK k (.d (.tup ds)) lo hi μ := h
theorem l_slL {ds : List D} {lo hi : Option Int} (h : k (.d (.lst (cut ds lo hi))) μ) : slK k (.d (.lst ds)) lo hi μ := h
theorem l_part0 {f : Option Int → DSt → Prop} (h : f none μ) : dPart none ε μ f := h
theorem l_part1 {f : Option Int → DSt → Prop} (h : ta ε μ fun x μ1 => svi x fun i => f (some i) μ1) : dPart (some ta) ε μ f := h
/-! loops -/
def forK (g : DTG) (tb : DTS) (Φ : DEnds) (ε : DEnv) (xs : List SV) (G : DSt → Prop) (μ1 : DSt) : Prop := ∃ I : Nat → DEnv → DSt → Prop, I 0 ε μ1 ∧ (∀ i ε μ, i ≤ xs.length → I i ε μ → G μ) ∧
  (∀ i x ε μ, xs[i]? = some x → I i ε μ → g x ε μ fun ε2 μ2 => tb { Φ with nx := I (i + 1), ct := I (i + 1), bk := Φ.nx, fl := μ1.length } ε2 μ2) ∧ ∀ ε μ, I xs.length ε μ → Φ.nx ε μ
theorem l_for {ti : DTI} (h : ti ε μ (forK g t Φ ε)) : dFor ti g t Φ ε μ := h
def enK (c0 : Int) (f : List SV → (DSt → Prop) → DSt → Prop) (xs : List SV) (μ1 : DSt) : Prop := match xs with
  | [.d (.lst ds)] => f (enumD c0 ds) (fun _ => True) μ1
  | [.d (.lsr ds)] => f (enumD c0 ds) (fun _ => True) μ1
  | [.d (.tup ds)] => f (enumD c0 ds) (fun _ => True) μ1
  | [.m n] => ∃ ds, μ1[n]? = some (.lst (ds.map SV.d)) ∧ f (enumD c0 ds) (fun μ => μ[n]? = some (.lst (ds.map SV.d))) μ1
  | _ => False
theorem l_enum {c0 : Int} {f : List SV → (DSt → Prop) → DSt → Prop} (h : tl ε μ (enK c0 f)) : diEnum c0 tl ε μ f := h
theorem l_enT {c0 : Int} {ds : List D} {f : List SV → (DSt → Prop) → DSt → Prop} (h : f (enumD c0 ds) (fun _ => True) μ) : enK c0 f [.d (.tup ds)] μ := h
theorem l_enL {c0 : Int} {ds : List D} {f : List SV → (DSt → Prop) → DSt → Prop} (h : f (enumD c0 ds) (fun _ => True) μ) : enK c0 f [.d (.lst ds)] μ := h
def sqK (f : List SV → (DSt → Prop) → DSt → Prop) (x : SV) (μ1 : DSt) : Prop := match x with
  | .d (.lst ds) => f (ds.map SV.d) (fun _ => True) μ1
  | .d (.lsr ds) => f (ds.map SV.d) (fun _ => True) μ1
  | .m n => ∃ xs, μ1[n]? = some (.lst xs) ∧ f xs (fun μ => μ[n]? = some (.lst xs)) μ1
  | _ => False
theorem l_seqI {f : List SV → (DSt → Prop) → DSt → Prop} (h : ta ε μ (sqK f)) : diSeq ta ε μ f := h
theorem l_sqL {ds : List D} {f : List SV → (DSt → Prop) → DSt → Prop} (h : f (ds.map SV.d) (fun _ => True) μ) : sqK f (.d (.lst ds)) μ := h
def tpK (f : List SV → (DSt → Prop) → DSt → Prop) (x : SV) (μ1 : DSt) : Prop := match x with
  | .d (.tup ds) => f (ds.map SV.d) (fun _ => True) μ1
  | _ => False
theorem l_tupI {f : List SV → (DSt → Prop) → DSt → Prop} (h : ta ε μ (tpK f)) : diTup ta ε μ f := h
theorem l_tpT {ds : List D} {f : List SV → (DSt → Prop) → DSt → Prop} (h : f (ds.map SV.d) (fun _ => True) μ) : tpK f (.d (.tup ds)) μ := h
def r1K (f : List SV → (DSt → Prop) → DSt → Prop) (xs : List SV) (μ1 : DSt) : Prop := match xs with
  | [.d (.int n)] => (-(2 ^ 62) ≤ n ∧ n < 2 ^ 62) ∧ f (rangeD 0 n.toNat) (fun _ => True) μ1
  | _ => False
theorem l_rng1 {f : List SV → (DSt → Prop) → DSt → Prop} (h : tl ε μ (r1K f)) : diR1 tl ε μ f := h
theorem l_r1 {n : Int} {f : List SV → (DSt → Prop) → DSt → Prop} (hn : -(2 ^ 62) ≤ n ∧ n < 2 ^ 62) (h : f (rangeD 0 n.toNat) (fun _ => True) μ) : r1K f [.d (.int n)] μ := ⟨hn, h⟩
def r2K (f : List SV → (DSt → Prop) → DSt → Prop) (xs : List SV) (μ1 : DSt) : Prop := match xs with
  | [.d (.int i), .d (.int j)] => (-(2 ^ 62) ≤ i ∧ i < 2 ^ 62 ∧ -(2 ^ 62) ≤ j ∧ j < 2 ^ 62) ∧ f (rangeD i (j - i).toNat) (fun _ => True) μ1
  | _ => False
theorem l_rng2 {f : List SV → (DSt → Prop) → DSt → Prop} (h : tl ε μ (r2K f)) : diR2 tl ε μ f := h
theorem l_r2 {i j : Int} {f : List SV → (DSt → Prop) → DSt → Prop} (hn : -(2 ^ 62) ≤ i ∧ i < 2 ^ 62 ∧ -(2 ^ 62) ≤ j ∧ j < 2 ^ 62) (h : f (rangeD i (j - i).toNat) (fun _ => True) μ) : r2K f [.d (.int i), .d (.int j)] μ := ⟨hn, h⟩
/-- over the numbers from lo on -/
theorem for_rng {lo : Int} {n : Nat} (I : Nat → DEnv → DSt → Prop) (h0 : I 0 ε μ) (hs : ∀ (i : Nat) ε' μ', i < n → I i ε' μ' → g (.d (.int (lo + (i : Nat)))) ε' μ' fun ε2 μ2 => t { Φ with nx := I (i + 1), ct := I (i + 1), bk := Φ.nx, fl := μ.length } ε2 μ2)
    (hd : ∀ ε' μ', I n ε' μ' → Φ.nx ε' μ') : forK g t Φ ε (rangeD lo n) (fun _ => True) μ := ⟨I, h0, fun _ _ _ _ _ => trivial, fun i x ε' μ' hx hI => by
  have hl := (List.getElem?_eq_some_iff.mp hx).1
  rw [rangeD_len] at hl
  rw [rangeD_get hl] at hx
  cases hx
  exact hs i ε' μ' hl hI, fun ε' μ' hI => hd ε' μ' (by rw [rangeD_len] at hI; exact hI)⟩
theorem for_enum {c0 : Int} {ds : List D} (I : Nat → DEnv → DSt → Prop) (h0 : I 0 ε μ) (hs : ∀ (i : Nat) x ε' μ', ds[i]? = some x → I i ε' μ' → g (.d (.tup [.int (c0 + (i : Nat)), x])) ε' μ' fun ε2 μ2 => t { Φ with nx := I (i + 1), ct := I (i + 1), bk := Φ.nx, fl := μ.length } ε2 μ2)
    (hd : ∀ ε' μ', I ds.length ε' μ' → Φ.nx ε' μ') : forK g t Φ ε (enumD c0 ds) (fun _ => True) μ := ⟨I, h0, fun _ _ _ _ _ => trivial, fun i x ε' μ' hx hI => by
  have hl := (List.getElem?_eq_some_iff.mp hx).1
  rw [enumD_len] at hl
  rw [enumD_get (List.getElem?_eq_getElem hl)] at hx
  cases hx
  exact hs i _ ε' μ' (List.getElem?_eq_getElem hl) hI, fun ε' μ' hI => hd ε' μ' (by rw [enumD_len] at hI; exact hI)⟩
theorem for_seq {ds : List D} (I : Nat → DEnv → DSt → Prop) (h0 : I 0 ε μ) (hs : ∀ (i : Nat) x ε' μ', ds[i]? = some x → I i ε' μ' → g (.d x) ε' μ' fun ε2 μ2 => t { Φ with nx := I (i + 1), ct := I (i + 1), bk := Φ.nx, fl := μ.length } ε2 μ2)
    (hd : ∀ ε' μ', I ds.length ε' μ' → Φ.nx ε' μ') : forK g t Φ ε (ds.map SV.d) (fun _ => True) μ := ⟨I, h0, fun _ _ _ _ _ => trivial, fun i x ε' μ' hx hI => by
  rw [List.getElem?_map] at hx
  obtain ⟨y, hy, e⟩ := Option.map_eq_some_iff.mp hx
  cases e
  exact hs i y ε' μ' hy hI, fun ε' μ' hI => hd ε' μ' (by rw [List.length_map] at hI; exact hI)⟩
/-! comprehensions -/
def elK (I : Nat → List D → DSt → Prop) (i : Nat) (acc : List D) (y : SV) (μ4 : DSt) : Prop := match y with
  | .d d => I (i + 1) (acc ++ [d]) μ4
  | .m _ => False
theorem l_elK {I : Nat → List D → DSt → Prop} {i : Nat} {acc : List D} {d : D} (h : I (i + 1) (acc ++ [d]) μ) : elK I i acc (.d d) μ := h
def lcK (g : DTG) (tt : DTT) (te : DTE) (ws : List Nat) (k : DK) (ε : DEnv) (xs : List SV) (G : DSt → Prop) (μ1 : DSt) : Prop := ∃ I : Nat → List D → DSt → Prop, I 0 [] μ1 ∧ (∀ i acc μ, i ≤ xs.length → I i acc μ → G μ ∧ acc.length < sizeLine) ∧
  (∀ i x acc μ, xs[i]? = some x → I i acc μ → g x (dwipe ε ws) μ fun ε2 μ2 => tt ε2 μ2 fun b μ3 => bcase b (te ε2 μ3 (elK I i acc)) (I (i + 1) acc μ3)) ∧ ∀ acc μ, I xs.length acc μ → k (.d (.lst acc)) μ
theorem l_lc {ti : DTI} {ws : List Nat} (h : ti ε μ (lcK g tt ta ws k ε)) : dLc ti g tt ta ws ε μ k := h
theorem lc_rng {lo : Int} {n : Nat} {ws : List Nat} (I : Nat → List D → DSt → Prop) (h0 : I 0 [] μ) (hz : ∀ i acc μ', i ≤ n → I i acc μ' → acc.length < sizeLine)
    (hs : ∀ (i : Nat) acc μ', i < n → I i acc μ' → g (.d (.int (lo + (i : Nat)))) (dwipe ε ws) μ' fun ε2 μ2 => tt ε2 μ2 fun b μ3 => bcase b (ta ε2 μ3 (elK I i acc)) (I (i + 1) acc μ3)) (hd : ∀ acc μ', I n acc μ' → k (.d (.lst acc)) μ') :
    lcK g tt ta ws k ε (rangeD lo n) (fun _ => True) μ := ⟨I, h0, fun i acc μ' hi hI => ⟨trivial, hz i acc μ' (by rw [rangeD_len] at hi; exact hi) hI⟩, fun i x acc μ' hx hI => by
  have hl := (List.getElem?_eq_some_iff.mp hx).1
  rw [rangeD_len] at hl
  rw [rangeD_get hl] at hx
  cases hx
  exact hs i acc μ' hl hI, fun acc μ' hI => hd acc μ' (by rw [rangeD_len] at hI; exact hI)⟩
theorem lc_seq {ds : List D} {ws : List Nat} (I : Nat → List D → DSt → Prop) (h0 : I 0 [] μ) (hz : ∀ i acc μ', i ≤ ds.length → I i acc μ' → acc.length < sizeLine)
    (hs : ∀ (i : Nat) x acc μ', ds[i]? = some x → I i acc μ' → g (.d x) (dwipe ε ws) μ' fun ε2 μ2 => tt ε2 μ2 fun b μ3 => bcase b (ta ε2 μ3 (elK I i acc)) (I (i + 1) acc μ3)) (hd : ∀ acc μ', I ds.length acc μ' → k (.d (.lst acc)) μ') :
    lcK g tt ta ws k ε (ds.map SV.d) (fun _ => True) μ := ⟨I, h0, fun i acc μ' hi hI => ⟨trivial, hz i acc μ' (by rw [List.length_map] at hi; exact hi) hI⟩, fun i x acc μ' hx hI => by
  rw [List.getElem?_map] at hx
  obtain ⟨y, hy, e⟩ := Option.map_eq_some_iff.mp hx
  cases e
  exact hs i y acc μ' hy hI, fun acc μ' hI => hd acc μ' (by rw [List.length_map] at hI; exact hI)⟩
/-! append -/
def appK (t : DTE) (ε : DEnv) (k : DK) (o : SV) (μ1 : DSt) : Prop := match o with
  | .m n => (∃ xs, μ1[n]? = some (.lst xs)) ∧ t ε μ1 fun x μ2 => ∃ xs, μ2[n]? = some (.lst xs) ∧ xs.length < sizeLine ∧ k (.d .non) (μ2.set n (.lst (xs ++ [x])))
  | _ => False
theorem l_app (h : ta ε μ (appK tb ε k)) : dApp ta tb ε μ k := h
def appE (k : DK) (n : Nat) (x : SV) (μ2 : DSt) : Prop := ∃ xs, μ2[n]? = some (.lst xs) ∧ xs.length < sizeLine ∧ k (.d .non) (μ2.set n (.lst (xs ++ [x])))
theorem l_appK {n : Nat} {xs : List SV} (hm : μ[n]? = some (.lst xs)) (h : ta ε μ (appE k n)) : appK ta ε k (.m n) μ := ⟨⟨xs, hm⟩, h⟩
theorem l_appE {n : Nat} {x : SV} {xs : List SV} (hm : μ[n]? = some (.lst xs)) (hz : xs.length < sizeLine) (h : k (.d .non) (μ.set n (.lst (xs ++ [x])))) : appE k n x μ := ⟨xs, hm, hz, h⟩
theorem l_fz {μ0 : DSt} {mo : MO} {d : D} (h1 : Rest mo d) (h2 : Φ.fl ≤ μ0.length) (h3 : ∀ mo ∈ μ0, mo.clo μ0.length) (h : t Φ (frz μ0.length d ε) μ0) : dFz t Φ ε (μ0 ++ [mo]) := ⟨μ0, mo, d, rfl, h1, h2, h3, h⟩
end

/-! ### equality of ints, of their lists and tuples -/
abbrev dints (ns : List Int) : List D := ns.map D.int
theorem dints_app (a b : List Int) : dints (a ++ b) = dints a ++ dints b := List.map_append
theorem pys_ints : ∀ ns : List Int, D.pys (dints ns) = some (ns.map PyData.int)
  | [] => rfl
  | n :: r => by
    show (match D.py (.int n), D.pys (dints r) with
      | some p, some ps => some (p :: ps)
      | _, _ => none) = some (PyData.int n :: r.map PyData.int)
    rw [pys_ints r]
    rfl
theorem canLay_ints : ∀ ns : List Int, PyData.canLayAll0 (ns.map PyData.int) = true
  | [] => rfl
  | n :: r => by
    show (PyData.canLay0 (.int n) && PyData.canLayAll0 (r.map PyData.int)) = true
    rw [canLay_ints r]
    rfl
theorem depth_ints : ∀ ns : List Int, PyData.depthAll (ns.map PyData.int) = 0
  | [] => rfl
  | n :: r => by
    show max (PyData.depth (.int n)) (PyData.depthAll (r.map PyData.int)) = 0
    rw [depth_ints r]
    rfl
theorem eqv_ints : ∀ ns ms : List Int, PyData.eqvAll (ns.map PyData.int) (ms.map PyData.int) = decide (ns = ms)
  | [], [] => rfl
  | [], _ :: _ => rfl
  | _ :: _, [] => rfl
  | n :: r, m :: q => by
    show (PyData.eqv (.int n) (.int m) && PyData.eqvAll (r.map PyData.int) (q.map PyData.int)) = decide (n :: r = m :: q)
    rw [eqv_ints r q]
    show ((n == m) && decide (r = q)) = decide (n :: r = m :: q)
    rw [Bool.eq_iff_iff]
    simp
theorem ced_int (i : Int) : Ced (.int i) (.int i) := ⟨rfl, rfl⟩
theorem ced_bl (i : Bool) : Ced (.bl i) (.bool i) := ⟨rfl, rfl⟩
theorem ced_tup (ns : List Int) : Ced (.tup (dints ns)) (.tuple (ns.map .int)) := by
  constructor
  · show (match D.pys (dints ns) with
      | some ps => some (PyData.tuple ps)
      | none => none) = _
    rw [pys_ints]
  · show (PyData.canLayAll0 (ns.map PyData.int) && decide (PyData.depthAll (ns.map PyData.int) + 1 ≤ 64)) = true
    rw [canLay_ints, depth_ints]
    rfl
theorem ced_lst (ns : List Int) : Ced (.lst (dints ns)) (.list (ns.map .int)) := by
  constructor
  · show (match D.pys (dints ns) with
      | some ps => some (PyData.list ps)
      | none => none) = _
    rw [pys_ints]
  · show (PyData.canLayAll0 (ns.map PyData.int) && decide (PyData.depthAll (ns.map PyData.int) + 1 ≤ 64)) = true
    rw [canLay_ints, depth_ints]
    rfl
section
variable {μ : DSt} {k : DK}
theorem e_int {i j : Int} (h : k (.d (.bl (decide (i = j)))) μ) : dEqD false (.d (.int i)) (.d (.int j)) μ k := ⟨_, _, ced_int i, ced_int j, by
  show k (.d (.bl (i == j))) μ
  rw [show (i == j) = decide (i = j) by rw [Bool.eq_iff_iff]; simp]
  exact h⟩
theorem n_int {i j : Int} (h : k (.d (.bl (!decide (i = j)))) μ) : dEqD true (.d (.int i)) (.d (.int j)) μ k := ⟨_, _, ced_int i, ced_int j, by
  show k (.d (.bl (!(i == j)))) μ
  rw [show (i == j) = decide (i = j) by rw [Bool.eq_iff_iff]; simp]
  exact h⟩
theorem e_tup {i j : List Int} (h : k (.d (.bl (decide (i = j)))) μ) : dEqD false (.d (.tup (dints i))) (.d (.tup (dints j))) μ k := ⟨_, _, ced_tup i, ced_tup j, by
  show k (.d (.bl (PyData.eqvAll _ _))) μ
  rw [eqv_ints]
  exact h⟩
theorem n_tup {i j : List Int} (h : k (.d (.bl (!decide (i = j)))) μ) : dEqD true (.d (.tup (dints i))) (.d (.tup (dints j))) μ k := ⟨_, _, ced_tup i, ced_tup j, by
  show k (.d (.bl (!PyData.eqvAll _ _))) μ
  rw [eqv_ints]
  exact h⟩
theorem e_lst {i j : List Int} (h : k (.d (.bl (decide (i = j)))) μ) : dEqD false (.d (.lst (dints i))) (.d (.lst (dints j))) μ k := ⟨_, _, ced_lst i, ced_lst j, by
  show k (.d (.bl (PyData.eqvAll _ _))) μ
  rw [eqv_ints]
  exact h⟩
theorem n_lst {i j : List Int} (h : k (.d (.bl (!decide (i = j)))) μ) : dEqD true (.d (.lst (dints i))) (.d (.lst (dints j))) μ k := ⟨_, _, ced_lst i, ced_lst j, by
  show k (.d (.bl (!PyData.eqvAll _ _))) μ
  rw [eqv_ints]
  exact h⟩
end
/-! items and cuts of ints -/
theorem atI_map {α β : Type} (f : α → β) (xs : List α) (i : Int) : atI (xs.map f) i = (atI xs i).map f := by
  unfold atI
  rw [List.length_map]
  cases ixN xs.length i with
  | none => rfl
  | some j => show (xs.map f)[j]? = (xs[j]?).map f; rw [List.getElem?_map]
theorem atI_ints {ns : List Int} {i : Int} {x : Int} (h : atI ns i = some x) : atI (dints ns) i = some (.int x) := by
  rw [atI_map, h]
  rfl
theorem atI_nat' {α : Type} {xs : List α} {j : Nat} {x : α} (h : xs[j]? = some x) : atI xs (j : Int) = some x := by
  have hl := (List.getElem?_eq_some_iff.mp h).1
  unfold atI ixN
  rw [if_pos (by omega), if_pos (by omega)]
  simpa using h
theorem atI_neg1 {α : Type} {xs : List α} {x : α} (h : xs[xs.length - 1]? = some x) : atI xs (-1) = some x := by
  have hl := (List.getElem?_eq_some_iff.mp h).1
  unfold atI ixN
  rw [if_neg (by omega), if_pos (by omega)]
  have e : (-1 + (xs.length : Int)).toNat = xs.length - 1 := by omega
  show (xs[(-1 + (xs.length : Int)).toNat]?) = some x
  rw [e]
  exact h
theorem cut_map {α β : Type} (f : α → β) (xs : List α) (lo hi : Option Int) : cut (xs.map f) lo hi = (cut xs lo hi).map f := by
  unfold cut
  rw [List.length_map, List.map_take, List.map_drop]
theorem cut_le {α : Type} (xs : List α) (lo hi : Option Int) : (cut xs lo hi).length ≤ xs.length := by
  unfold cut
  rw [List.length_take, List.length_drop]
  omega
theorem cut_to {α : Type} {xs : List α} {j : Nat} (h : j ≤ xs.length) : cut xs none (some (j : Int)) = xs.take j := by
  unfold cut
  rw [HT.sIx_none, HT.sIx_nat, Nat.min_eq_left h]
  rfl
theorem cut_from {α : Type} {xs : List α} {j : Nat} (h : j ≤ xs.length) : cut xs (some (j : Int)) none = xs.drop j := by
  unfold cut
  rw [HT.sIx_none, HT.sIx_nat, Nat.min_eq_left h, List.take_of_length_le (by rw [List.length_drop]; omega)]
theorem cut_set {α : Type} {xs : List α} {j : Nat} (y : α) (h : j < xs.length) : cut xs none (some (j : Int)) ++ [y] ++ cut xs (some ((j : Int) + 1)) none = xs.set j y := by
  rw [cut_to (Nat.le_of_lt h), show ((j : Int) + 1) = ((j + 1 : Nat) : Int) by rfl, cut_from h, List.set_eq_take_append_cons_drop, if_pos h, List.append_assoc]
  rfl
theorem ixN_nat' {n j : Nat} (h : j < n) : ixN n (j : Int) = some j := by
  unfold ixN
  rw [if_pos (by omega), if_pos (by omega)]
  simp
theorem dints_set (ns : List Int) (j : Nat) (y : Int) : (dints ns).set j (.int y) = dints (ns.set j y) := List.map_set.symm
theorem sv_set (ds : List D) (j : Nat) (y : D) : (ds.map SV.d).set j (.d y) = (ds.set j y).map SV.d := List.map_set.symm
end DV

set_option Elab.async false
set_option linter.all false
set_option maxRecDepth 100000
namespace DV
open PySem PySem.Spec PyProof.Rows L2

/-! ### the ends -/
def p_lawOf : DSp := fun xs μ Φ _ => ∃ ns : List Int, xs = [.d (.lsr (dints ns))] ∧ ns.length ≤ 63 ∧ μ = [] ∧ ∀ μ', Φ (.d (.bl true)) μ'
theorem wo_nil {H : Hp} : wo ⟨[], []⟩ H = H := by
  funext a
  unfold wo
  rw [if_neg]
  rintro (h | h) <;> cases h
theorem law_hsp {K : PySem.W.Frag} {H : Hp} {a : Addr} {ns : List Int} (hl : ns.length ≤ 63) (hS : SqL K H a (ns.map V.int)) : toSp K p_lawOf [.ref a] H (fun v _ => v = .bl true) fun _ _ _ => False := by
  refine ⟨⟨[], []⟩, [], [.d (.lsr (dints ns))], fun x _ => x = .d (.bl true), fun _ _ _ => False, ⟨rfl, fun i j a h => ?_, fun n a h => ?_, fun a h => ?_⟩, .cons (.d (.lsr (by rw [wo_nil]; exact hS) Reps.ints)) .nil, fun v M' H' x μ' _ _ r hx => ?_, fun _ _ _ _ _ _ _ _ _ h => h, ns, rfl, hl, rfl, fun _ => rfl⟩
  · cases h
  · cases h
  · cases h
  · subst hx
    cases r with
    | d r => cases r; rfl
theorem walk_dv {l : PySem.W.OpenLaw} {q : Program} {loose : List Str} {XP : (Str → Option Value) → Heap → Prop} {YP : World → Heap → Prop} {d : DefRec} {K : Params → PySem.W.Frag} {lvl : Nat} (hn : l.most = some 63) (hdf : d.params.defaults = []) (hr : Room lvl callerA)
    (hY : ∀ (w : World) (h : Heap), YP w h → (K w.params).In h)
    (F : ∀ (w : World) (mg : Str → Option Value) (fa : Addr) (h : Heap), (K w.params).In h → h.Ns mainGlobals mg → mg d.name = some (.ref fa) →
      ∃ fd : FuncData, (∀ (s : Shared) (u : Value), BindsTo s fd ⟨[u], []⟩ [("_law_script", u)]) ∧
        ∀ base : Heap, (K w.params).In base → base.Ns mainGlobals mg → FnOk l.prog w (K w.params) mg base CX0 lvl fa fd ["_law_script"] (toSp (K w.params) p_lawOf)) :
    PySem.W.WalkO q loose XP YP l.row.toRowW d [] (fun f vs => PySem.call f vs) :=
  L2.walk_of (n := 63) (k := lvl) (x := "_law_script") (CX := fun _ => CX0) (sp := fun w => toSp (K w.params) p_lawOf) hn (by decide) hdf hr hY F (fun _ _ a ns hl _ hS => law_hsp hl hS) fun _ _ _ _ _ z => z
theorem DefAt.of {x : Str} {st : Stmt} {K : PySem.W.Frag} {h : Heap} {mg : Str → Option Value} {f : Addr} {od an : Option Addr} {sl : Array (Option Value)} {oc kV dc pm cd ct : Value} (X : K.In h) (G : h.Ns mainGlobals mg)
    (a : PySem.W.nsIn K mainGlobals x = some (some (.ref f))) (l : K.lookup f = some ⟨oc, od, .func (PySem.W.fnOf x x (defArgs st) (defBody st) (defScope st) .none kV dc pm an cd ct), sl⟩) (c : PySem.W.codeIn K cd x = true) (k : PySem.W.keepIn K (.ref f) = true) : DefAt K mg x st :=
  ⟨f, _, fun_mk (st := st) l c k, PySem.W.mg_of X G a⟩
/-- a def with defaults as it stands -/
structure DefD (K : PySem.W.Frag) (mg : Str → Option Value) (x : Str) (st : Stmt) (dvs : List V) : Prop where
  ex : ∃ f fd, FunD K x x (defArgs st) (defBody st) (defScope st) dvs [] f fd ∧ mg x = some (.ref f)
theorem DefD.of {x : Str} {st : Stmt} {K : PySem.W.Frag} {h : Heap} {mg : Str → Option Value} {f T : Addr} {od an : Option Addr} {sl : Array (Option Value)} {oc kV dc pm cd ct : Value} {dvs : List V} {o : Obj} {its : List Value} {n : Nat} (X : K.In h) (G : h.Ns mainGlobals mg)
    (a : PySem.W.nsIn K mainGlobals x = some (some (.ref f))) (l : K.lookup f = some ⟨oc, od, .func (PySem.W.fnOf x x (defArgs st) (defBody st) (defScope st) (.ref T) kV dc pm an cd ct), sl⟩) (c : PySem.W.codeIn K cd x = true) (k : PySem.W.keepIn K (.ref f) = true)
    (hd : dvs ≠ []) (lT : K.lookup T = some o) (oT : o.data = .seq its.toArray n) (rT : Vals dvs its) : DefD K mg x st dvs :=
  ⟨f, _, ⟨⟨oc, od, .ref T, kV, dc, pm, an, cd, ct, sl, rfl, l, c, .inr ⟨hd, T, o, its, n, rfl, lT, oT, rT⟩, .inl rfl⟩, k⟩, PySem.W.mg_of X G a⟩
section
variable {P : Program} {w : World} {K : PySem.W.Frag} {mg : Str → Option Value} {base : Heap}
/-- the rule for a def with defaults -/
theorem dfnD {x qual : Str} {params : Arguments} {body : List Stmt} {scope : Scope} {dvs : List V} {kws : List (Str × V)} {f : Addr} {fd : FuncData} {N ps : List Str} {k : Nat} {d : DSp} (F : FunD K x qual params body scope dvs kws f fd) (S : FnScope N ps scope) (len : ∀ xs μ Φ Ψ, d xs μ Φ Ψ → xs.length = ps.length) (hN : ps.length ≤ N.length)
    (hbody : ∀ (cdv : Value) (A : Around) (outer : List Env) (s : Shared) (H : Hp) (E : XK) (Ψ : DX), Room k (A.deeper (envOfC qual scope s.heap.objs.size f cdv)) →
      ∃ u t, DSs (cxOf CX0 P w K mg base N qual scope f cdv A outer s H E).nox ⟨K, E, Ψ⟩ body u t ∧ ∀ xs μ Φ, d xs μ Φ Ψ → t { nx := fun _ μ => Φ (.d .non) μ, rt := Φ, fl := μ.length } (dstart N.length xs) μ) : FnOk P w K mg base CX0 (k + 1) f fd ps (toSp K d) := by
  refine F.ok S (fun vs H Q E h => ?_) (fun cdv A outer s H vs Q E hr h => ?_)
  · obtain ⟨M, μ, xs, Φ, Ψ, _, r, _, _, q⟩ := h
    rw [r.length]
    exact len _ _ _ _ q
  · obtain ⟨M, μ, xs, Φ, Ψ, W, r, kq, ke, q⟩ := h
    obtain ⟨u, t, hd, ht⟩ := hbody cdv A outer s H E Ψ hr
    refine ⟨u, hd.p.nox, ?_⟩
    let bb : Ba ⟨K, E, Ψ⟩ := ⟨M, H, ke⟩
    refine hd.s bb M (L2.start N vs) H (dstart N.length xs) μ _ _ ⟨Le.refl M H, W, start_env r (by rw [len _ _ _ _ q]; exact hN)⟩ ⟨?_, ?_, ?_, ?_, Nat.le_of_eq W.len⟩ (ht xs μ Φ q)
    · exact fun M1 σ1 H1 ε1 μ1 a1 q1 => kq .non M1 H1 _ μ1 a1.le a1.wd (.d .non) q1
    · exact fun v M1 H1 x μ1 l1 w1 r1 q1 => kq v M1 H1 x μ1 l1 w1 r1 q1
    · exact fun M1 σ1 H1 ε1 μ1 a1 q1 => q1.elim
    · exact fun M1 σ1 H1 ε1 μ1 a1 q1 => q1.elim
end
end DV

set_option Elab.async false
set_option linter.all false
set_option maxRecDepth 100000
namespace DV
open PySem PySem.Spec PyProof.Rows L2
section
variable {X : Cx} {B : Bs} {a b e : Expr} {pos : Pos} {ta tb te : DTE} {ua ub ue : TE}
/-! a sum of lists that goes on to change -/
def dPlusM : SV → SV → DSt → DK → Prop
  | .d (.lst xs), .d (.lst ys), μ, Φ => xs.length + ys.length ≤ sizeLine ∧ Φ (.m μ.length) (μ ++ [.lst ((xs ++ ys).map SV.d)])
  | _, _, _, _ => False
theorem sim_plusM : SimR B (rPlus B.K) dPlusM := fun M H μ v w x y Φ Q W rx ry k h => by
  unfold dPlusM at h
  split at h
  · rename_i xs ys
    obtain ⟨z, h⟩ := h
    obtain ⟨p, us, rfl, hp, rp⟩ := rx.lst_inv
    obtain ⟨q, ws, rfl, hq, rq⟩ := ry.lst_inv
    refine .inr (.inr (.inl ⟨p, q, us, ws, rfl, rfl, (wo_sub M H) _ _ hp, (wo_sub M H) _ _ hq, by rw [rp.length, rq.length]; exact z, fun l hl => ?_⟩))
    exact k _ (M.add l) _ _ _ (le_newm W hl) (wd_newm (mo := .lst ((xs ++ ys).map SV.d)) W hl ⟨_, upd_same, (SReps.of (rp.append rq)).mono ids_newm (wo_newm hl)⟩) (.m (by rw [← W.len]; exact at_newm)) h
  · exact h.elim
theorem de_addM (ha : DE X B a ua ta) (hb : DE X B b ub tb) (hK : B.K = X.K := by rfl) : DE X B (.BinOp a .Add b pos) (tOp (rPlus B.K) ua ub) (dOp dPlusM ta tb) := by
  obtain ⟨Kb, Eb, Ψb⟩ := B
  have hK : Kb = X.K := hK
  subst hK
  exact de_op op_plus sim_plusM ha hb
/-! xs[::-1] -/
theorem Reps.reverse {K : PySem.W.Frag} {G : Hp} : ∀ {vs : List V} {ds : List D}, Reps K G vs ds → Reps K G vs.reverse ds.reverse
  | _, _, .nil => .nil
  | _, _, .cons h r => by
    rw [List.reverse_cons, List.reverse_cons]
    exact (Reps.reverse r).append (.cons h .nil)
def revK (k : DK) (x : SV) (μ : DSt) : Prop := match x with
  | .d (.lst ds) => k (.d (.lst ds.reverse)) μ
  | _ => False
def dRev (t : DTE) : DTE := fun ε μ k => t ε μ (revK k)
theorem de_revL {k : Nat} {p1 p2 p3 : Pos} (he : DE X B e ue te) (hK : B.K = X.K := by rfl) : DE X B (.Subscript e (.Slice none none (some (.UnaryOp .USub (.Constant (.int 1) k p1) p2)) p3) pos) (tRevL B.K ue) (dRev te) := by
  obtain ⟨Kb, Eb, Ψb⟩ := B
  have hK : Kb = X.K := hK
  subst hK
  refine ⟨pe_revL he.p, fun bb M σ H ε μ Φ Q a k q => he.s bb M σ H ε μ _ _ a (fun v M1 H1 x μ1 l1 w1 r1 q1 => ?_) q⟩
  unfold revK at q1
  split at q1
  · obtain ⟨q, us, rfl, hq, rq⟩ := r1.lst_inv
    exact ⟨q, us, rfl, .inl (.inl (wo_sub M1 H1 _ _ hq)), fun l hl => k _ M1 _ _ μ1 (l1.trans (le_new w1 hl)) (wd_new w1 hl) (.d (.lst (wo_at w1 hl) (rq.reverse.mono (wo_new hl)))) q1⟩
  · exact q1.elim
end
section
variable {ε : DEnv} {μ : DSt} {k : DK} {ta : DTE}
theorem l_plusM {i j : List D} (hc : i.length + j.length ≤ sizeLine) (h : k (.m μ.length) (μ ++ [.lst ((i ++ j).map SV.d)])) : dPlusM (.d (.lst i)) (.d (.lst j)) μ k := ⟨hc, h⟩
theorem l_rev (h : ta ε μ (revK k)) : dRev ta ε μ k := h
theorem l_revK {ds : List D} (h : k (.d (.lst ds.reverse)) μ) : revK k (.d (.lst ds)) μ := h
theorem l_slM {n : Nat} {ds : List D} {lo hi : Option Int} (hm : μ[n]? = some (.lst (ds.map SV.d))) (h : k (.d (.lst (cut ds lo hi))) μ) : slK k (.m n) lo hi μ := ⟨ds, hm, h⟩
end
end DV

set_option Elab.async false
set_option linter.all false
set_option maxRecDepth 100000
set_option maxHeartbeats 1000000
open PySem PySem.Spec PyProof.Rows L2 DV
local macro_rules | `(tactic| walk_at "s1") => `(tactic| first
  | with_reducible (first
  | refine l_seq ?_ | refine l_var rfl ?_ | refine l_c ?_ | refine l_op ?_ | refine l_cons ?_ | refine l_nil ?_ | refine l_asg ?_ | refine l_dgN ?_ | refine l_ret ?_ | refine l_call ?_ | refine l_cb ?_ | refine l_test ?_ | refine l_svb ?_ | refine l_ifS ?_
  | refine l_and ?_ | refine l_or ?_ | refine l_not ?_ | refine l_bt ?_ | refine l_bf ?_ | refine l_bnt ?_ | refine l_bnf ?_ | refine l_I0 ?_ | refine l_plusI ?_ | refine l_int ?_ | refine l_intb ?_ | refine l_svi ?_ | refine l_part0 ?_ | refine l_part1 ?_ | refine l_sl ?_ | refine l_neg ?_
  | refine l_tup ?_ | refine l_lst ?_ | refine l_lstM ?_ | refine l_star ?_ | refine l_starT ?_ | refine l_starL ?_ | refine l_callD ?_ | refine l_callK ?_ | refine l_andV ?_ | refine l_orV ?_ | refine l_notV ?_ | refine l_if ?_ | refine l_max2 ?_ | refine l_min2 ?_ | refine l_lenT ?_ | refine l_lenL ?_ | refine l_lenR ?_
  | refine l_tupleT ?_ | refine l_tupleL ?_ | refine l_listT ?_ | refine l_listL ?_ | refine l_isB ?_ | refine l_isnotB ?_ | refine l_isN ?_ | refine l_isnotN ?_ | refine l_next ?_ | refine l_break ?_ | refine l_cont ?_ | refine l_drop ?_ | refine l_retN ?_ | refine l_par ?_ | refine l_aug rfl ?_
  | refine l_dgTup2 ?_ | refine l_dgTup3 ?_ | refine l_dgTup4 ?_ | refine l_dgCons ?_ | refine l_dgNil ?_ | refine l_dgSub ?_ | refine l_yes ?_
  | refine l_parK ?_ | refine l_slT ?_ | refine l_slL ?_ | refine l_for ?_ | refine l_enum ?_ | refine l_enT ?_ | refine l_enL ?_ | refine l_seqI ?_ | refine l_sqL ?_ | refine l_tupI ?_ | refine l_tpT ?_ | refine l_rng1 ?_ | refine l_rng2 ?_ | refine l_lc ?_ | refine l_elK ?_ | refine l_app ?_
  | refine l_rev ?_ | refine l_revK ?_ | refine e_int ?_ | refine n_int ?_ | refine e_tup ?_ | refine n_tup ?_ | refine e_lst ?_ | refine n_lst ?_)
  | ((with_reducible refine l_tupK rfl ?c ?_); (case c => first | decide | (simp only [List.length_cons, List.length_nil]; decide)))
  | ((with_reducible refine l_lstK rfl ?c ?_); (case c => first | decide | (simp only [List.length_cons, List.length_nil]; decide)))
  | ((with_reducible refine l_lstMK ?c ?_); (case c => first | decide | (simp only [List.length_cons, List.length_nil]; decide)))
  | ((with_reducible refine l_mod ?c ?_); (case c => first | decide | omega))
  | ((with_reducible refine l_fdiv (cdiv_of ?c ?d) ?_); (case c => first | decide | omega); (case d => first | decide | omega))
  | (with_reducible refine l_mul cmul_b ?_)
  | ((with_reducible refine l_pow (cpow_of ?c ?d ?e) ?_); (case c => decide); (case d => decide); (case e => decide))
  | ((with_reducible refine l_mul (cmul_l ?c ?d) ?_); (case c => first | decide | omega); (case d => first | decide | omega))
  | ((with_reducible refine l_mul (cmul_r ?c ?d) ?_); (case c => first | decide | omega); (case d => first | decide | omega))
  | ((with_reducible refine l_r1 ⟨?c, ?d⟩ ?_); (case c => first | decide | omega); (case d => first | decide | omega)))
local macro_rules | `(tactic| walk_at "s") => `(tactic| repeat walk_at "s1")

namespace K01
def top (i : Nat) : Stmt := PySem.Challenge.pw_bornroots_k01_halves_not_good.main.body.getD i (.Pass ⟨0, 0, 0, 0⟩)
abbrev s_check_of : Stmt := top 2
abbrev NN_check_of : List Str := ["numbers", "total", "i", "number"]
theorem sc_check_of : FnScope NN_check_of ["numbers"] (defScope s_check_of) := ⟨rfl, rfl, rfl, by decide +kernel, rfl, by decide +kernel, by decide +kernel⟩
abbrev s_made_row : Stmt := top 3
abbrev NN_made_row : List Str := ["kind", "place", "number", "payload", "ahead"]
theorem sc_made_row : FnScope NN_made_row ["kind", "place", "number", "payload"] (defScope s_made_row) := ⟨rfl, rfl, rfl, by decide +kernel, rfl, by decide +kernel, by decide +kernel⟩
abbrev s_is_good : Stmt := top 4
abbrev NN_is_good : List Str := ["row"]
theorem sc_is_good : FnScope NN_is_good ["row"] (defScope s_is_good) := ⟨rfl, rfl, rfl, by decide +kernel, rfl, by decide +kernel, by decide +kernel⟩
abbrev s_half_of : Stmt := top 5
abbrev NN_half_of : List Str := ["row"]
theorem sc_half_of : FnScope NN_half_of ["row"] (defScope s_half_of) := ⟨rfl, rfl, rfl, by decide +kernel, rfl, by decide +kernel, by decide +kernel⟩
abbrev s_digit_of : Stmt := top 7
abbrev NN_digit_of : List Str := ["mask", "j"]
theorem sc_digit_of : FnScope NN_digit_of ["mask", "j"] (defScope s_digit_of) := ⟨rfl, rfl, rfl, by decide +kernel, rfl, by decide +kernel, by decide +kernel⟩
abbrev s_left_by : Stmt := top 8
abbrev NN_left_by : List Str := ["row", "before", "digit"]
theorem sc_left_by : FnScope NN_left_by ["row", "before", "digit"] (defScope s_left_by) := ⟨rfl, rfl, rfl, by decide +kernel, rfl, by decide +kernel, by decide +kernel⟩
abbrev s__law_pool : Stmt := top 10
abbrev NN__law_pool : List Str := ["_law_script", "_law_k", "_law_cell", "_law_big", "_law_mixed"]
theorem sc__law_pool : FnScope NN__law_pool ["_law_script", "_law_k"] (defScope s__law_pool) := ⟨rfl, rfl, rfl, by decide +kernel, rfl, by decide +kernel, by decide +kernel⟩
abbrev s__law_take : Stmt := top 11
abbrev NN__law_take : List Str := ["_law_source", "_law_top_it", "_law_drawn"]
theorem sc__law_take : FnScope NN__law_take ["_law_source", "_law_top_it"] (defScope s__law_take) := ⟨rfl, rfl, rfl, by decide +kernel, rfl, by decide +kernel, by decide +kernel⟩
abbrev s__law_one : Stmt := top 12
abbrev NN__law_one : List Str := ["_law_source", "_law_things"]
theorem sc__law_one : FnScope NN__law_one ["_law_source", "_law_things"] (defScope s__law_one) := ⟨rfl, rfl, rfl, by decide +kernel, rfl, by decide +kernel, by decide +kernel⟩
abbrev s__law_check : Stmt := top 13
abbrev NN__law_check : List Str := ["_law_numbers", "_law_total", "_law_at", "_law_one_here"]
theorem sc__law_check : FnScope NN__law_check ["_law_numbers"] (defScope s__law_check) := ⟨rfl, rfl, rfl, by decide +kernel, rfl, by decide +kernel, by decide +kernel⟩
abbrev s__law_number : Stmt := top 14
abbrev NN__law_number : List Str := ["_law_source"]
theorem sc__law_number : FnScope NN__law_number ["_law_source"] (defScope s__law_number) := ⟨rfl, rfl, rfl, by decide +kernel, rfl, by decide +kernel, by decide +kernel⟩
abbrev s__law_parts : Stmt := top 15
abbrev NN__law_parts : List Str := ["_law_source", "_law_many", "_law_ahead", "_law_turn"]
theorem sc__law_parts : FnScope NN__law_parts ["_law_source"] (defScope s__law_parts) := ⟨rfl, rfl, rfl, by decide +kernel, rfl, by decide +kernel, by decide +kernel⟩
abbrev s_law : Stmt := top 16
abbrev NN_law : List Str := ["_law_script", "_law_k", "_law_source", "_law_ahead", "_law_row", "_law_many", "_law_half", "_law_digit", "_law_before", "_law_spot", "_law_digits", "_law_mask", "_law_at", "_law_turn"]
theorem sc_law : FnScope NN_law ["_law_script"] (defScope s_law) := ⟨rfl, rfl, rfl, by decide +kernel, rfl, by decide +kernel, by decide +kernel⟩
structure Txt (K : PySem.W.Frag) (mg : Str → Option Value) : Prop where
  b_enumerate : mg "enumerate" = none
  b_int : mg "int" = none
  b_len : mg "len" = none
  b_max : mg "max" = none
  b_min : mg "min" = none
  b_range : mg "range" = none
  b_tuple : mg "tuple" = none
  g_MODULUS : ∃ t, mg "MODULUS" = some (.int 1000003 t)
/-! ### the mathematics -/
def wsum (k : Int) : List Int → Int
  | [] => 0
  | n :: r => k * n + wsum (k + 1) r
theorem wsum_snoc (k : Int) : ∀ (ns : List Int) (x : Int), wsum k (ns ++ [x]) = wsum k ns + (k + ns.length) * x
  | [], x => by simp [wsum]
  | n :: r, x => by
    show k * n + wsum (k + 1) (r ++ [x]) = k * n + wsum (k + 1) r + (k + ((r.length + 1 : Nat) : Int)) * x
    rw [wsum_snoc (k + 1) r x]
    have e : k + ((r.length + 1 : Nat) : Int) = k + 1 + (r.length : Int) := by omega
    rw [e]
    omega
def chk (ns : List Int) : Int := wsum 1 ns % 1000003
def row (a : List Int) : List Int := a ++ [chk a]
def goodB (r : List Int) : Bool := decide (5 ≤ r.length) && (decide (r[3]? = some ((r.length : Int) - 5)) && decide (r[r.length - 1]? = some (chk r.dropLast)))
theorem good_len {r : List Int} (h : goodB r = true) : 5 ≤ r.length := by
  unfold goodB at h
  rw [Bool.and_eq_true] at h
  exact of_decide_eq_true h.1
theorem cut_init {α : Type} {r : List α} (h : 0 < r.length) : cut r none (some (-1)) = r.dropLast := by
  have e : HT.sIx r.length r.length (some (-1)) = r.length - 1 := by
    show (if (-1 : Int) < 0 then (-1 + (r.length : Int)).toNat else min (-1 : Int).toNat r.length) = r.length - 1
    rw [if_pos (by decide)]
    omega
  unfold cut
  rw [e]
  show List.take (r.length - 1 - 0) (List.drop 0 r) = r.dropLast
  rw [List.drop_zero, Nat.sub_zero, List.dropLast_eq_take]
theorem b01 (c : Bool) : 0 ≤ (if c then 1 else 0 : Int) := by
  cases c <;> decide
theorem wsum_set : ∀ (ns : List Int) (j : Nat) (k x y : Int), ns[j]? = some x → wsum k (ns.set j y) = wsum k ns + (k + (j : Int)) * (y - x)
  | [], _, _, _, _, h => by simp at h
  | n :: r, 0, k, x, y, h => by
    have h : n = x := by simpa using h
    subst h
    show k * y + wsum (k + 1) r = k * n + wsum (k + 1) r + (k + 0) * (y - n)
    rw [Int.add_zero, Int.mul_sub]
    omega
  | n :: r, j + 1, k, x, y, h => by
    have h : r[j]? = some x := by simpa using h
    show k * n + wsum (k + 1) (r.set j y) = k * n + wsum (k + 1) r + (k + ((j + 1 : Nat) : Int)) * (y - x)
    rw [wsum_set r j (k + 1) x y h]
    have e : k + ((j + 1 : Nat) : Int) = k + 1 + (j : Int) := by omega
    rw [e]
    omega
theorem cop : ∀ w : Fin 66, w.val = 0 ∨ Nat.Coprime 1000003 w.val := by decide +kernel
theorem no_dvd {w : Nat} {d : Int} (h0 : 1 ≤ w) (h1 : w ≤ 65) (hd : 1 ≤ d) (hd2 : d < 1000003) : ((w : Int) * d) % 1000003 ≠ 0 := by
  intro h
  obtain ⟨n, rfl⟩ := Int.eq_ofNat_of_zero_le (show 0 ≤ d by omega)
  have h : 1000003 ∣ w * n := by
    have h2 : (1000003 : Int) ∣ ((w * n : Nat) : Int) := by
      rw [Int.natCast_mul]
      exact Int.dvd_of_emod_eq_zero h
    exact Int.natCast_dvd_natCast.mp h2
  have c : Nat.Coprime 1000003 w := by
    rcases cop ⟨w, by omega⟩ with e | e
    · have : w = 0 := e
      omega
    · exact e
  have := Nat.le_of_dvd (by omega) (c.dvd_of_dvd_mul_left h)
  omega
theorem chk_set {ns : List Int} {j : Nat} {x d : Int} (hl : ns.length ≤ 64) (hx : ns[j]? = some x) (h1 : 1 ≤ d) (h2 : d < 1000003) : chk (ns.set j ((x + d) % 1000003)) ≠ chk ns := by
  have hj := (List.getElem?_eq_some_iff.mp hx).1
  unfold chk
  rw [wsum_set ns j 1 x _ hx]
  intro h
  have e : ((1 : Int) + (j : Int)) = ((j + 1 : Nat) : Int) := by omega
  rw [e] at h
  refine no_dvd (w := j + 1) (d := d) (by omega) (by omega) h1 h2 ?_
  have h3 := Int.emod_emod_of_dvd (wsum 1 ns) (Int.dvd_refl 1000003)
  have q := Int.emod_add_mul_ediv (x + d) 1000003
  generalize hz : (x + d) % 1000003 = z at *
  generalize (x + d) / 1000003 = u at *
  have e2 : z - x = d - 1000003 * u := by omega
  rw [e2, Int.mul_sub] at h
  have e3 : ((j + 1 : Nat) : Int) * (1000003 * u) = 1000003 * (((j + 1 : Nat) : Int) * u) := by rw [Int.mul_left_comm]
  rw [e3] at h
  generalize ((j + 1 : Nat) : Int) * u = v at *
  generalize ((j + 1 : Nat) : Int) * d = y at *
  omega
def src (a b : Int) : MO := .lst [.d (.int a), .d (.int b)]
def Sok (a b : Int) : Prop := 0 ≤ a ∧ 0 ≤ b ∧ b < 2147483647
theorem take_step {ns : List Int} {i : Nat} {x : D} (hl : ns.length ≤ 1000) (hx : (dints ns)[i]? = some x) : ∃ n, x = .int n ∧ ns.take (i + 1) = ns.take i ++ [n] ∧ i < 1000 ∧ (ns.take i).length = i := by
  rw [List.getElem?_map] at hx
  obtain ⟨n, hn, e⟩ := Option.map_eq_some_iff.mp hx
  have hil := (List.getElem?_eq_some_iff.mp hn).1
  refine ⟨n, e.symm, ?_, by omega, by rw [List.length_take]; omega⟩
  rw [List.take_add_one, hn]
  rfl
/-! ### the promises -/
def p_check_of : DSp := fun xs μ Φ _ => ∃ ns, (xs = [.d (.tup (dints ns))] ∨ xs = [.d (.lst (dints ns))]) ∧ ns.length ≤ 1000 ∧ Φ (.d (.int (chk ns))) μ
def p__law_check : DSp := p_check_of
def p_made_row : DSp := fun xs μ Φ _ => ∃ kind place number pl, (xs = [.d (.int kind), .d (.int place), .d (.int number), .d (.tup (dints pl))] ∨ xs = [.d (.int kind), .d (.int place), .d (.int number), .d (.lst (dints pl))]) ∧ pl.length ≤ 900 ∧
  Φ (.d (.tup (dints (row (kind :: place :: number :: (pl.length : Int) :: pl))))) μ
def p_is_good : DSp := fun xs μ Φ _ => ∃ r, xs = [.d (.tup (dints r))] ∧ r.length ≤ 900 ∧ Φ (.d (.bl (goodB r))) μ
def p__law_pool : DSp := fun xs μ Φ _ => ∃ ns k, xs = [.d (.lsr (dints ns)), .d (.int k)] ∧ 0 ≤ k ∧ k ≤ 100 ∧ ∀ a b, Sok a b → Φ (.m μ.length) (μ ++ [src a b])
def p__law_take : DSp := fun xs μ Φ _ => ∃ a b t rest, xs = [.m 0, .d (.int t)] ∧ μ = src a b :: rest ∧ Sok a b ∧ 0 < t ∧ t < 1073741824 ∧ ∀ a' b' r, Sok a' b' → 0 ≤ r → r < t → Φ (.d (.int r)) (src a' b' :: rest)
def p__law_one : DSp := fun xs μ Φ _ => ∃ a b ds rest, xs = [.m 0, .d (.lst ds)] ∧ μ = src a b :: rest ∧ Sok a b ∧ 0 < ds.length ∧ ds.length < 1000000 ∧ ∀ a' b' d, Sok a' b' → d ∈ ds → Φ (.d d) (src a' b' :: rest)
def p__law_number : DSp := fun xs μ Φ _ => ∃ a b rest, xs = [.m 0] ∧ μ = src a b :: rest ∧ Sok a b ∧ ∀ a' b' n, Sok a' b' → 0 ≤ n → n < 1000003 → Φ (.d (.int n)) (src a' b' :: rest)
def Small (ns : List Int) : Prop := ∀ n ∈ ns, 0 ≤ n ∧ n < 1000003
structure Parts (a : List Int) : Prop where
  ex : ∃ k p n pl, a = k :: p :: n :: ((pl.length : Nat) : Int) :: pl ∧ 1 ≤ k ∧ k ≤ 5 ∧ pl.length ≤ 60
  small : Small a
def Bad (r b : List Int) : Prop := ∃ (j : Nat) (x d : Int), r[j]? = some x ∧ 1 ≤ d ∧ d < 1000003 ∧ b = r.set j ((x + d) % 1000003)
theorem goodB_row {a : List Int} (h : Parts a) : goodB (row a) = true := by
  obtain ⟨⟨k, p, n, pl, rfl, _, _, _⟩, _⟩ := h
  unfold goodB row
  have e : (k :: p :: n :: ((pl.length : Nat) : Int) :: pl ++ [chk (k :: p :: n :: ((pl.length : Nat) : Int) :: pl)]).length = pl.length + 5 := by
    rw [List.length_append]
    rfl
  rw [e, List.dropLast_concat, show pl.length + 5 - 1 = (k :: p :: n :: ((pl.length : Nat) : Int) :: pl).length by rfl, List.getElem?_concat_length]
  rw [Bool.and_eq_true, Bool.and_eq_true]
  refine ⟨decide_eq_true (by omega), decide_eq_true ?_, decide_eq_true rfl⟩
  show some ((pl.length : Nat) : Int) = _
  congr 1
  omega
theorem bad_row {a b : List Int} (h : Parts a) (hb : Bad (row a) b) : goodB b = false ∧ 5 ≤ b.length ∧ b.length ≤ 65 := by
  obtain ⟨j, x, d, hx, h1, h2, rfl⟩ := hb
  obtain ⟨⟨k, p, n, pl, e, _, _, hpl⟩, _⟩ := h
  have hl : a.length ≤ 64 ∧ 4 ≤ a.length := by
    rw [e]
    simp only [List.length_cons]
    omega
  have hrl : (row a).length = a.length + 1 := by
    unfold row
    rw [List.length_append]
    rfl
  have hj := (List.getElem?_eq_some_iff.mp hx).1
  refine ⟨?_, by rw [List.length_set]; omega, by rw [List.length_set]; omega⟩
  unfold goodB
  rw [List.length_set, hrl, Nat.add_sub_cancel, Bool.and_eq_false_iff, Bool.and_eq_false_iff]
  refine .inr (.inr (decide_eq_false ?_))
  by_cases e : j = a.length
  · subst e
    have hxx : x = chk a := by
      unfold row at hx
      rw [List.getElem?_concat_length] at hx
      exact (Option.some.inj hx).symm
    have e1 : (row a).set a.length ((x + d) % 1000003) = a ++ [(x + d) % 1000003] := by
      unfold row
      rw [List.set_append_right _ _ (Nat.le_refl _), Nat.sub_self]
      rfl
    rw [e1, List.getElem?_concat_length, List.dropLast_concat]
    intro h
    have h := Option.some.inj h
    have c1 : 0 ≤ chk a := Int.emod_nonneg _ (by decide)
    have c2 : chk a < 1000003 := Int.emod_lt_of_pos _ (by decide)
    omega
  · have hja : j < a.length := by omega
    have hxa : a[j]? = some x := by
      unfold row at hx
      rwa [List.getElem?_append_left hja] at hx
    have e1 : (row a).set j ((x + d) % 1000003) = a.set j ((x + d) % 1000003) ++ [chk a] := by
      unfold row
      rw [List.set_append_left _ _ hja]
    rw [e1, List.dropLast_concat]
    have e2 : (a.set j ((x + d) % 1000003) ++ [chk a])[a.length]? = some (chk a) := by
      have := List.getElem?_concat_length (l := a.set j ((x + d) % 1000003)) (a := chk a)
      rwa [List.length_set] at this
    rw [e2]
    intro h
    exact chk_set hl.1 hxa h1 h2 (Option.some.inj h).symm
def p__law_parts : DSp := fun xs μ Φ _ => ∃ a b rest, xs = [.m 0] ∧ μ = src a b :: rest ∧ Sok a b ∧ ∀ a' b' ps, Sok a' b' → Parts ps → Φ (.m (rest.length + 1)) (src a' b' :: (rest ++ [.lst ((dints ps).map SV.d)]))
def half (r : List Int) : List Int := cut r none (some (((r.length : Nat) : Int) / 2))
def p_half_of : DSp := fun xs μ Φ _ => ∃ r, xs = [.d (.tup (dints r))] ∧ r.length ≤ 900 ∧ Φ (.d (.tup (dints (half r)))) μ
def dig : Int → Nat → Int
  | m, 0 => m % 3
  | m, j + 1 => dig (m / 3) j
def p_digit_of : DSp := fun xs μ Φ _ => ∃ (m : Int) (j : Nat), xs = [.d (.int m), .d (.int (j : Int))] ∧ 0 ≤ m ∧ Φ (.d (.int (dig m j))) μ
def p_left_by : DSp := fun xs μ Φ _ => ∃ r bf dg, xs = [.d (.tup (dints r)), .d (.tup (dints bf)), .d (.int dg)] ∧ r.length ≤ 900 ∧ Φ (.d (.tup (dints (if dg = 0 then r else if dg = 1 then bf else half r)))) μ
theorem dig0 : ∀ j : Nat, dig 0 j = 0
  | 0 => rfl
  | j + 1 => dig0 j
def val (ds : List Int) : Int := ds.foldr (fun x y => 3 * y + x) 0
def Dig (ds : List Int) : Prop := ∀ d ∈ ds, 0 ≤ d ∧ d < 3
theorem val_nn : ∀ {ds : List Int}, Dig ds → 0 ≤ val ds
  | [], _ => by decide
  | d :: r, h => by
    have h1 := val_nn (ds := r) fun x hx => h x (List.mem_cons_of_mem _ hx)
    have h2 := h d (List.mem_cons_self ..)
    show 0 ≤ 3 * val r + d
    omega
theorem dig_val : ∀ {ds : List Int} (i : Nat), Dig ds → dig (val ds) i = ds.getD i 0
  | [], i, _ => by
    show dig 0 i = _
    rw [dig0]
    rfl
  | d :: r, 0, h => by
    have h2 := h d (List.mem_cons_self ..)
    show (3 * val r + d) % 3 = d
    omega
  | d :: r, i + 1, h => by
    have h2 := h d (List.mem_cons_self ..)
    show dig ((3 * val r + d) / 3) i = r.getD i 0
    rw [show (3 * val r + d) / 3 = val r by omega]
    exact dig_val i fun x hx => h x (List.mem_cons_of_mem _ hx)
theorem getD_app {ds : List Int} {i : Nat} {x : Int} (h : (ds ++ [0, 0])[i]? = some x) : ds.getD i 0 = x := by
  rw [List.getD_eq_getElem?_getD]
  by_cases hi : i < ds.length
  · rw [List.getElem?_append_left hi] at h
    rw [h]
    rfl
  · rw [List.getElem?_append_right (by omega)] at h
    rw [List.getElem?_eq_none (by omega)]
    have hm := List.mem_of_getElem? h
    simp only [List.mem_cons, List.not_mem_nil, or_false] at hm
    show (0 : Int) = x
    omega
theorem rev_step {ds : List Int} {i : Nat} {x : D} (hx : (dints ds).reverse[i]? = some x) : ∃ n, x = .int n ∧ (ds.reverse.take (i + 1)).foldl (fun y x => 3 * y + x) 0 = 3 * (ds.reverse.take i).foldl (fun y x => 3 * y + x) 0 + n := by
  rw [← List.map_reverse, List.getElem?_map] at hx
  obtain ⟨n, hn, e⟩ := Option.map_eq_some_iff.mp hx
  refine ⟨n, e.symm, ?_⟩
  rw [List.take_add_one, hn, List.foldl_append]
  rfl
theorem parts_set {ps : List Int} {j : Nat} {v : Int} (h : Parts ps) (h4 : 4 ≤ j) (h0 : 0 ≤ v) (h1 : v < 1000003) : Parts (ps.set j v) := by
  obtain ⟨⟨k, p, n, pl, rfl, e1, e2, e3⟩, sm⟩ := h
  obtain ⟨i, rfl⟩ : ∃ i, j = i + 4 := ⟨j - 4, by omega⟩
  refine ⟨⟨k, p, n, pl.set i v, ?_, e1, e2, by rw [List.length_set]; exact e3⟩, fun x hx => ?_⟩
  · rw [List.length_set]
    rfl
  · rcases List.mem_or_eq_of_mem_set hx with hx | rfl
    · exact sm x hx
    · exact ⟨h0, h1⟩
theorem short_bad {ps : List Int} {m : Nat} (h : Parts ps) (hm : m < (row ps).length) : goodB ((row ps).take m) = false := by
  obtain ⟨⟨k, p, n, pl, rfl, e1, e2, e3⟩, sm⟩ := h
  have hl : (row (k :: p :: n :: ((pl.length : Nat) : Int) :: pl)).length = pl.length + 5 := by
    unfold row
    rw [List.length_append]
    rfl
  rw [hl] at hm
  unfold goodB
  rw [List.length_take, hl, Nat.min_eq_left (by omega)]
  by_cases h5 : 5 ≤ m
  · rw [Bool.and_eq_false_iff, Bool.and_eq_false_iff]
    refine .inr (.inl (decide_eq_false ?_))
    rw [List.getElem?_take_of_lt (by omega)]
    intro h
    have h : some ((pl.length : Nat) : Int) = some ((m : Int) - 5) := h
    have := Option.some.inj h
    omega
  · rw [decide_eq_false h5, Bool.false_and]
theorem atI_sv {ds : List D} {i : Int} {x : D} (h : atI ds i = some x) : atI (ds.map SV.d) i = some (.d x) := by
  rw [atI_map, h]
  rfl
theorem ixN_eq {n j : Nat} {i : Int} (h : i = (j : Int)) (hj : j < n) : ixN n i = some j := by
  subst h
  exact ixN_nat' hj
def frz1 (d : D) (o : Option SV) : Option SV := match o with
  | some (.m k) => if k = 1 then some (.d d) else some (.m k)
  | o => o
abbrev p_law : DSp := p_lawOf
section
variable {P : Program} {w : World} {K : PySem.W.Frag} {mg : Str → Option Value} {base : Heap}
theorem ok_check_of {f : Addr} {fd : FuncData} (T : Txt K mg)  (F : Fun K "check_of" "check_of" s_check_of f fd) : FnOk P w K mg base CX0 1 f fd ["numbers"] (toSp K p_check_of) := by
  refine dfn F sc_check_of ?len (by decide) fun cdv A outer s H E Ψ hr => ⟨_, _, (dss_cons (ds_asg de_int (dg_name (i := 1) sc_check_of.nd rfl (.inl rfl)))
  (dss_cons (ds_for PassesOwn.never rfl (di_enumS (by rfl) T.b_enumerate (by decide) (da_cons (de_var (pv 0)) da_nil)) (dg_tup (n := 2) rfl (dgs_cons (dg_name (i := 2) sc_check_of.nd rfl (.inl rfl)) (dgs_cons (dg_name (i := 3) sc_check_of.nd rfl (.inl rfl)) dgs_nil)))
  (dss_one (ds_aug (i := 1) sc_check_of.nd rfl (.inl rfl) (de_mul (de_var (pv 2)) (de_var (pv 3))) ip_add sim_ipI)))
  (dss_one (ds_ret (de_mod (de_var (pv 1)) (de_globI (by rfl) T.g_MODULUS)))))), ?rd⟩
  case len => rintro xs μ Φ Ψ ⟨ns, rfl | rfl, _⟩ <;> rfl
  case rd =>
    rintro xs μ Φ ⟨ns, h, hl, k⟩
    rcases h with rfl | rfl
    all_goals
      dsimp only [NN_check_of, List.length, dstart]
      walk_at "s"
      refine for_enum (fun i ε μ' => ∃ o1 o2, ε = [some _, some (.d (.int (wsum 1 (ns.take i)))), o1, o2] ∧ μ' = μ) ⟨none, none, rfl, rfl⟩ ?_ ?_
      · rintro i x ε μ' hx ⟨o1, o2, rfl, rfl⟩
        obtain ⟨n, rfl, h1, h2, h3⟩ := take_step hl hx
        walk_at "s"
        rw [show wsum 1 (ns.take (i + 1)) = wsum 1 (ns.take i) + (1 + (i : Int)) * n by rw [h1, wsum_snoc, h3]]
        exact ⟨_, _, rfl, rfl⟩
      · rintro ε μ' ⟨o1, o2, rfl, rfl⟩
        walk_at "s"
        rw [List.length_map, List.take_length]
        exact k
theorem c_check_of (T : Txt K mg)  (D : DefAt K mg "check_of" s_check_of) : Callee P w K mg base "check_of" 1 ["numbers"] p_check_of := callee_mk D (fun f fd F => F.binds fun _ _ _ _ _ _ us hl => match us, hl with | [_], _ => rfl) fun f fd F => ok_check_of T  F
theorem ok__law_check {f : Addr} {fd : FuncData} (T : Txt K mg)  (F : Fun K "_law_check" "_law_check" s__law_check f fd) : FnOk P w K mg base CX0 1 f fd ["_law_numbers"] (toSp K p__law_check) := by
  refine dfn F sc__law_check ?len (by decide) fun cdv A outer s H E Ψ hr => ⟨_, _, (dss_cons (ds_asg de_int (dg_name (i := 1) sc__law_check.nd rfl (.inl rfl)))
  (dss_cons (ds_for PassesOwn.never rfl (di_enum (by rfl) T.b_enumerate (da_cons (de_var (pv 0)) da_nil)) (dg_tup (n := 2) rfl (dgs_cons (dg_name (i := 2) sc__law_check.nd rfl (.inl rfl)) (dgs_cons (dg_name (i := 3) sc__law_check.nd rfl (.inl rfl)) dgs_nil)))
  (dss_one (ds_asg (de_add (de_var (pv 1)) (de_mul (de_add (de_var (pv 2)) de_int) (de_var (pv 3)))) (dg_name (i := 1) sc__law_check.nd rfl (.inl rfl)))))
  (dss_one (ds_ret (de_mod (de_Ty call_int1 sim_int (by rfl) T.b_int (by decide +kernel) (da_cons (de_var (pv 1)) da_nil)) de_int))))), ?rd⟩
  case len => rintro xs μ Φ Ψ ⟨ns, rfl | rfl, _⟩ <;> rfl
  case rd =>
    rintro xs μ Φ ⟨ns, h, hl, k⟩
    rcases h with rfl | rfl
    all_goals
      dsimp only [NN__law_check, List.length, dstart]
      walk_at "s"
      refine for_enum (fun i ε μ' => ∃ o1 o2, ε = [some _, some (.d (.int (wsum 1 (ns.take i)))), o1, o2] ∧ μ' = μ) ⟨none, none, rfl, rfl⟩ ?_ ?_
      · rintro i x ε μ' hx ⟨o1, o2, rfl, rfl⟩
        obtain ⟨n, rfl, h1, h2, h3⟩ := take_step hl hx
        walk_at "s"
        rw [show wsum 1 (ns.take (i + 1)) = wsum 1 (ns.take i) + (0 + (i : Int) + 1) * n by rw [h1, wsum_snoc, h3, show (0 + (i : Int) + 1) = 1 + (i : Int) by omega]]
        exact ⟨_, _, rfl, rfl⟩
      · rintro ε μ' ⟨o1, o2, rfl, rfl⟩
        walk_at "s"
        rw [List.length_map, List.take_length]
        exact k
theorem c__law_check (T : Txt K mg)  (D : DefAt K mg "_law_check" s__law_check) : Callee P w K mg base "_law_check" 1 ["_law_numbers"] p__law_check := callee_mk D (fun f fd F => F.binds fun _ _ _ _ _ _ us hl => match us, hl with | [_], _ => rfl) fun f fd F => ok__law_check T  F
theorem ok_made_row {f : Addr} {fd : FuncData} (T : Txt K mg) (C_check_of : Callee P w K mg base "check_of" 1 ["numbers"] p_check_of) (F : Fun K "made_row" "made_row" s_made_row f fd) : FnOk P w K mg base CX0 2 f fd ["kind", "place", "number", "payload"] (toSp K p_made_row) := by
  refine dfn F sc_made_row ?len (by decide) fun cdv A outer s H E Ψ hr => ⟨_, _, (dss_cons (ds_asg (de_tup (da_cons (de_var (pv 0)) (da_cons (de_var (pv 1)) (da_cons (de_var (pv 2)) (da_cons (de_B call_len sim_len (by rfl) T.b_len (by decide +kernel) (da_cons (de_var (pv 3)) da_nil)) (da_star (de_var (pv 3)) da_nil)))))) (dg_name (i := 4) sc_made_row.nd rfl (.inl rfl)))
  (dss_one (ds_ret (de_tup (da_star (de_var (pv 4)) (da_cons (de_c1 C_check_of (hr.mono (by decide)) (by rfl) (da_cons (de_var (pv 4)) da_nil)) da_nil)))))), ?rd⟩
  case len => rintro xs μ Φ Ψ ⟨a, b, c, ns, rfl | rfl, _⟩ <;> rfl
  case rd =>
    rintro xs μ Φ ⟨kind, place, number, pl, h, hl, k⟩
    rcases h with rfl | rfl
    all_goals
      dsimp only [NN_made_row, List.length, dstart]
      walk_at "s"
      refine l_tupK' (dints (kind :: place :: number :: ((pl.length : Nat) : Int) :: pl)) (by simp) (szle (by simp only [List.length_map, List.length_cons]; omega)) ?_
      walk_at "s"
      refine ⟨_, .inl rfl, by simp only [List.length_cons]; omega, ?_⟩
      refine l_tupK' (dints (row (kind :: place :: number :: ((pl.length : Nat) : Int) :: pl))) (by simp [row]) (szle (by simp only [List.length_map, row, List.length_append, List.length_cons, List.length_nil]; omega)) ?_
      exact k
theorem c_made_row (T : Txt K mg) (C_check_of : Callee P w K mg base "check_of" 1 ["numbers"] p_check_of) (D : DefAt K mg "made_row" s_made_row) : Callee P w K mg base "made_row" 2 ["kind", "place", "number", "payload"] p_made_row := callee_mk D (fun f fd F => F.binds fun _ _ _ _ _ _ us hl => match us, hl with | [_, _, _, _], _ => rfl) fun f fd F => ok_made_row T C_check_of F
theorem ok_is_good {f : Addr} {fd : FuncData} (T : Txt K mg) (C_check_of : Callee P w K mg base "check_of" 1 ["numbers"] p_check_of) (F : Fun K "is_good" "is_good" s_is_good f fd) : FnOk P w K mg base CX0 2 f fd ["row"] (toSp K p_is_good) := by
  refine dfn F sc_is_good ?len (by decide) fun cdv A outer s H E Ψ hr => ⟨_, _, (dss_one (ds_ret (de_and (de_ge (de_B call_len sim_len (by rfl) T.b_len (by decide +kernel) (da_cons (de_var (pv 0)) da_nil)) de_int) (de_and (de_eq hr.units (de_ix (de_var (pv 0)) de_int) (de_sub (de_B call_len sim_len (by rfl) T.b_len (by decide +kernel) (da_cons (de_var (pv 0)) da_nil)) de_int)) (de_one (de_eq hr.units (de_ix (de_var (pv 0)) (de_neg de_int)) (de_c1 C_check_of (hr.mono (by decide)) (by rfl) (da_cons (de_slice (de_var (pv 0)) do_none (do_some (de_neg de_int))) da_nil)))))))), ?rd⟩
  case len => rintro xs μ Φ Ψ ⟨ns, rfl, _⟩; rfl
  case rd =>
    rintro xs μ Φ ⟨r, rfl, hl, k⟩
    dsimp only [NN_is_good, List.length, dstart]
    walk_at "s"
    unfold goodB at k
    rw [List.length_map]
    refine l_bd (fun h5 => ?_) fun h5 => ?_
    · rw [decide_eq_true (show 5 ≤ r.length by omega), Bool.true_and] at k
      walk_at "s"
      have h3 : r[3]? = some r[3] := List.getElem?_eq_getElem (by omega)
      refine l_ixT (atI_ints (atI_nat' (j := 3) h3)) ?_
      walk_at "s"
      rw [List.length_map]
      refine l_bd (fun e3 => ?_) fun e3 => ?_
      · rw [decide_eq_true (show r[3]? = some ((r.length : Int) - 5) by rw [h3, e3]), Bool.true_and] at k
        walk_at "s"
        have h1 : r[r.length - 1]? = some (r[r.length - 1]'(by omega)) := List.getElem?_eq_getElem (by omega)
        refine l_ixT (atI_ints (atI_neg1 h1)) ?_
        walk_at "s"
        refine ⟨r.dropLast, .inl ?_, by rw [List.length_dropLast]; omega, ?_⟩
        · rw [cut_map, cut_init (by omega)]
        · walk_at "s"
          rw [h1] at k
          rw [show decide (r[r.length - 1]'(by omega) = chk r.dropLast) = decide (some (r[r.length - 1]'(by omega)) = some (chk r.dropLast)) by simp]
          exact k
      · rw [decide_eq_false (show ¬ r[3]? = some ((r.length : Int) - 5) by rw [h3]; exact fun e => e3 (Option.some.inj e)), Bool.false_and] at k
        exact k
    · rw [decide_eq_false (show ¬ 5 ≤ r.length by omega), Bool.false_and] at k
      exact k
theorem c_is_good (T : Txt K mg) (C_check_of : Callee P w K mg base "check_of" 1 ["numbers"] p_check_of) (D : DefAt K mg "is_good" s_is_good) : Callee P w K mg base "is_good" 2 ["row"] p_is_good := callee_mk D (fun f fd F => F.binds fun _ _ _ _ _ _ us hl => match us, hl with | [_], _ => rfl) fun f fd F => ok_is_good T C_check_of F
theorem ok_half_of {f : Addr} {fd : FuncData} (T : Txt K mg)  (F : Fun K "half_of" "half_of" s_half_of f fd) : FnOk P w K mg base CX0 1 f fd ["row"] (toSp K p_half_of) := by
  refine dfn F sc_half_of ?len (by decide) fun cdv A outer s H E Ψ hr => ⟨_, _, (dss_one (ds_ret (de_Ty call_tuple_of sim_tuple (by rfl) T.b_tuple (by decide +kernel) (da_cons (de_slice (de_var (pv 0)) do_none (do_some (de_fdiv (de_B call_len sim_len (by rfl) T.b_len (by decide +kernel) (da_cons (de_var (pv 0)) da_nil)) de_int))) da_nil)))), ?rd⟩
  case len => rintro xs μ Φ Ψ ⟨r, rfl, _⟩; rfl
  case rd =>
    rintro xs μ Φ ⟨r, rfl, hl, k⟩
    dsimp only [NN_half_of, List.length, dstart]
    walk_at "s"
    rw [List.length_map, cut_map]
    exact k
theorem c_half_of (T : Txt K mg)  (D : DefAt K mg "half_of" s_half_of) : Callee P w K mg base "half_of" 1 ["row"] p_half_of := callee_mk D (fun f fd F => F.binds fun _ _ _ _ _ _ us hl => match us, hl with | [_], _ => rfl) fun f fd F => ok_half_of T  F
theorem ok_digit_of {f : Addr} {fd : FuncData} (T : Txt K mg)  (F : Fun K "digit_of" "digit_of" s_digit_of f fd) : FnOk P w K mg base CX0 1 f fd ["mask", "j"] (toSp K p_digit_of) := by
  refine dfn F sc_digit_of ?len (by decide) fun cdv A outer s H E Ψ hr => ⟨_, _, (dss_cons (ds_while PassesOwn.never (DW.dt (dw_and (dt_gt (de_var (pv 1)) de_int) (dw_and1 (dt_gt (de_var (pv 0)) de_int))))
  (dss_cons (ds_asg (de_fdiv (de_var (pv 0)) de_int) (dg_name (i := 0) sc_digit_of.nd rfl (.inl rfl)))
  (dss_one (ds_asg (de_sub (de_var (pv 1)) de_int) (dg_name (i := 1) sc_digit_of.nd rfl (.inl rfl))))))
  (dss_one (ds_ret (de_mod (de_var (pv 0)) de_int)))), ?rd⟩
  case len => rintro xs μ Φ Ψ ⟨m, j, rfl, _⟩; rfl
  case rd =>
    rintro xs μ Φ ⟨m, j, rfl, hm, k⟩
    dsimp only [NN_digit_of, List.length, dstart]
    walk_at "s"
    refine ⟨fun z ε μ' => ∃ m' : Int, ε = [some (.d (.int m')), some (.d (.int (z : Int)))] ∧ 0 ≤ m' ∧ dig m' z = dig m j ∧ μ' = μ, ⟨j, m, rfl, hm, rfl, rfl⟩, ?_⟩
    rintro z ε μ' ⟨m', rfl, hm', e, rfl⟩
    walk_at "s"
    refine l_bd (fun hz => ?_) fun hz => ?_
    · walk_at "s"
      obtain ⟨y, rfl⟩ : ∃ y, z = y + 1 := ⟨z - 1, by omega⟩
      refine l_bd (fun h0 => ?_) fun h0 => ?_
      · walk_at "s"
        exact ⟨y, by omega, m' / 3, by rw [show (((y + 1 : Nat) : Int) - 1) = (y : Int) by omega]; rfl, by omega, e, rfl⟩
      · have : m' = 0 := by omega
        subst this
        rw [dig0] at e
        rw [← e] at k
        walk_at "s"
        exact k
    · have : z = 0 := by omega
      subst this
      rw [← e] at k
      walk_at "s"
      exact k
theorem c_digit_of (T : Txt K mg)  (D : DefAt K mg "digit_of" s_digit_of) : Callee P w K mg base "digit_of" 1 ["mask", "j"] p_digit_of := callee_mk D (fun f fd F => F.binds fun _ _ _ _ _ _ us hl => match us, hl with | [_, _], _ => rfl) fun f fd F => ok_digit_of T  F
theorem ok_left_by {f : Addr} {fd : FuncData} (T : Txt K mg) (C_half_of : Callee P w K mg base "half_of" 1 ["row"] p_half_of) (F : Fun K "left_by" "left_by" s_left_by f fd) : FnOk P w K mg base CX0 2 f fd ["row", "before", "digit"] (toSp K p_left_by) := by
  refine dfn F sc_left_by ?len (by decide) fun cdv A outer s H E Ψ hr => ⟨_, _, (dss_cons (ds_if (dt_eq hr.units (de_var (pv 2)) de_int) (dss_one (ds_ret (de_var (pv 0)))) dss_nil)
  (dss_cons (ds_if (dt_eq hr.units (de_var (pv 2)) de_int) (dss_one (ds_ret (de_var (pv 1)))) dss_nil)
  (dss_one (ds_ret (de_c1 C_half_of (hr.mono (by decide)) (by rfl) (da_cons (de_var (pv 0)) da_nil)))))), ?rd⟩
  case len => rintro xs μ Φ Ψ ⟨r, bf, dg, rfl, _⟩; rfl
  case rd =>
    rintro xs μ Φ ⟨r, bf, dg, rfl, hl, k⟩
    dsimp only [NN_left_by, List.length, dstart]
    walk_at "s"
    refine l_bd (fun h => ?_) fun h => ?_
    · rw [if_pos h] at k
      walk_at "s"
      exact k
    · rw [if_neg h] at k
      walk_at "s"
      refine l_bd (fun h => ?_) fun h => ?_
      · rw [if_pos h] at k
        walk_at "s"
        exact k
      · rw [if_neg h] at k
        walk_at "s"
        exact ⟨r, rfl, hl, k⟩
theorem c_left_by (T : Txt K mg) (C_half_of : Callee P w K mg base "half_of" 1 ["row"] p_half_of) (D : DefAt K mg "left_by" s_left_by) : Callee P w K mg base "left_by" 2 ["row", "before", "digit"] p_left_by := callee_mk D (fun f fd F => F.binds fun _ _ _ _ _ _ us hl => match us, hl with | [_, _, _], _ => rfl) fun f fd F => ok_left_by T C_half_of F
theorem ok__law_pool {f : Addr} {fd : FuncData} (T : Txt K mg)  (F : Fun K "_law_pool" "_law_pool" s__law_pool f fd) : FnOk P w K mg base CX0 1 f fd ["_law_script", "_law_k"] (toSp K p__law_pool) := by
  refine dfn F sc__law_pool ?len (by decide) fun cdv A outer s H E Ψ hr => ⟨_, _, (dss_cons (ds_asg de_int (dg_name (i := 2) sc__law_pool.nd rfl (.inl rfl)))
  (dss_cut (ds_if (dt_lt (de_var (pv 1)) (de_B call_len sim_len (by rfl) T.b_len (by decide +kernel) (da_cons (de_var (pv 0)) da_nil))) (dss_one (ds_asg (de_ix (de_var (pv 0)) (de_var (pv 1))) (dg_name (i := 2) sc__law_pool.nd rfl (.inl rfl)))) dss_nil)
  (dss_cons (ds_asg (de_B (call_max2 rfl) sim_max2 (by rfl) T.b_max (by decide +kernel) (da_cons (de_Ty call_int1 sim_int (by rfl) T.b_int (by decide +kernel) (da_cons (de_var (pv 2)) da_nil)) (da_cons (de_Ty call_int1 sim_int (by rfl) T.b_int (by decide +kernel) (da_cons (de_sub (de_neg de_int) (de_var (pv 2))) da_nil)) da_nil))) (dg_name (i := 3) sc__law_pool.nd rfl (.inl rfl)))
  (dss_cons (ds_asg (de_mod (de_Ty call_int1 sim_int (by rfl) T.b_int (by decide +kernel) (da_cons (de_mul (de_add (de_add (de_add (de_mod (de_Ty call_int1 sim_int (by rfl) T.b_int (by decide +kernel) (da_cons (de_var (pv 3)) da_nil)) de_int) (de_mul (de_mul de_int (de_var (pv 1))) (de_var (pv 1)))) (de_mul de_int (de_var (pv 1)))) de_int) de_int) da_nil)) de_int) (dg_name (i := 4) sc__law_pool.nd rfl (.inl rfl)))
  (dss_one (ds_ret (de_lstM (da_cons (de_mul (de_var (pv 3)) (de_Ty call_int1 sim_int (by rfl) T.b_int (by decide +kernel) (da_cons (de_ge (de_var (pv 3)) (de_pow de_int de_int)) da_nil))) (da_cons (de_var (pv 4)) da_nil))))))))), ?rd⟩
  case len => rintro xs μ Φ Ψ ⟨ns, k, rfl, _⟩; rfl
  case rd =>
    rintro xs μ Φ ⟨ns, kk, rfl, hk0, hk1, k⟩
    dsimp only [NN__law_pool, List.length, dstart]
    have hsq : 0 ≤ 7919 * kk * kk ∧ 7919 * kk * kk ≤ 79190000 := by
      have h1 : 7919 * kk * kk ≤ 7919 * kk * 100 := Int.mul_le_mul_of_nonneg_left hk1 (by omega)
      have h2 : 0 ≤ 7919 * kk * kk := Int.mul_nonneg (by omega) hk0
      omega
    walk_at "s"
    refine l_cut (Mid := fun ε' μ' => ∃ c : Int, ε' = [some (.d (.lsr (dints ns))), some (.d (.int kk)), some (.d (.int c)), none, none] ∧ μ' = μ) ?_ ?_
    · walk_at "s"
      rw [List.length_map]
      refine l_bd (fun h => ?_) fun h => ?_
      · walk_at "s"
        obtain ⟨n, rfl⟩ := Int.eq_ofNat_of_zero_le hk0
        have hn : ns[n]? = some (ns[n]'(by omega)) := List.getElem?_eq_getElem (by omega)
        refine l_ixR (atI_ints (atI_nat' hn)) ?_
        walk_at "s"
        exact ⟨_, rfl, rfl⟩
      · walk_at "s"
        exact ⟨_, rfl, rfl⟩
    · rintro ε' μ' ⟨c, rfl, rfl⟩
      walk_at "s"
      refine k _ _ ⟨?_, Int.emod_nonneg _ (by decide), Int.emod_lt_of_pos _ (by decide)⟩
      refine Int.mul_nonneg ?_ ?_
      · split <;> omega
      · exact b01 _
theorem c__law_pool (T : Txt K mg)  (D : DefAt K mg "_law_pool" s__law_pool) : Callee P w K mg base "_law_pool" 1 ["_law_script", "_law_k"] p__law_pool := callee_mk D (fun f fd F => F.binds fun _ _ _ _ _ _ us hl => match us, hl with | [_, _], _ => rfl) fun f fd F => ok__law_pool T  F
theorem ok__law_take {f : Addr} {fd : FuncData} (T : Txt K mg)  (F : Fun K "_law_take" "_law_take" s__law_take f fd) : FnOk P w K mg base CX0 1 f fd ["_law_source", "_law_top_it"] (toSp K p__law_take) := by
  refine dfn F sc__law_take ?len (by decide) fun cdv A outer s H E Ψ hr => ⟨_, _, (dss_cons (ds_if (dt_gt (de_ix (de_var (pv 0)) de_int) de_int) (dss_cons (ds_asg (de_mod (de_Ty call_int1 sim_int (by rfl) T.b_int (by decide +kernel) (da_cons (de_ix (de_var (pv 0)) de_int) da_nil)) (de_var (pv 1))) (dg_name (i := 2) sc__law_take.nd rfl (.inl rfl)))
  (dss_cons (ds_asg (de_fdiv (de_ix (de_var (pv 0)) de_int) (de_var (pv 1))) (dg_sub (de_var (pv 0)) de_int))
  (dss_one (ds_ret (de_var (pv 2)))))) dss_nil)
  (dss_cons (ds_asg (de_mod (de_Ty call_int1 sim_int (by rfl) T.b_int (by decide +kernel) (da_cons (de_add (de_mul (de_ix (de_var (pv 0)) de_int) de_int) de_int) da_nil)) de_int) (dg_sub (de_var (pv 0)) de_int))
  (dss_one (ds_ret (de_mod (de_Ty call_int1 sim_int (by rfl) T.b_int (by decide +kernel) (da_cons (de_fdiv (de_mod (de_Ty call_int1 sim_int (by rfl) T.b_int (by decide +kernel) (da_cons (de_mul (de_ix (de_var (pv 0)) de_int) (de_ix (de_var (pv 0)) de_int)) da_nil)) de_int) de_int) da_nil)) (de_var (pv 1))))))), ?rd⟩
  case len => rintro xs μ Φ Ψ ⟨a, b, t, rest, rfl, _⟩; rfl
  case rd =>
    rintro xs μ Φ ⟨a, b, t, rest, rfl, rfl, ⟨ha, hb, hb2⟩, ht, ht2, k⟩
    dsimp only [NN__law_take, List.length, dstart]
    walk_at "s"
    refine l_ixM rfl rfl ?_
    walk_at "s"
    refine l_bd (fun h => ?_) fun h => ?_
    · walk_at "s"
      refine l_ixM rfl rfl ?_
      walk_at "s"
      refine l_ixM rfl rfl ?_
      walk_at "s"
      refine l_subK rfl rfl ?_
      walk_at "s"
      exact k _ _ _ ⟨Int.ediv_nonneg ha (by omega), hb, hb2⟩ (Int.emod_nonneg _ (by omega)) (Int.emod_lt_of_pos _ ht)
    · walk_at "s"
      refine l_ixM rfl rfl ?_
      walk_at "s"
      refine l_subK rfl rfl ?_
      walk_at "s"
      refine l_ixM rfl rfl ?_
      walk_at "s"
      refine l_ixM rfl rfl ?_
      have b1 := Int.emod_nonneg (b * 39373 + 7) (show (2147483647 : Int) ≠ 0 by decide)
      have b2 := Int.emod_lt_of_pos (b * 39373 + 7) (show (0 : Int) < 2147483647 by decide)
      walk_at "s"
      exact k _ _ _ ⟨ha, b1, b2⟩ (Int.emod_nonneg _ (by omega)) (Int.emod_lt_of_pos _ ht)
theorem c__law_take (T : Txt K mg)  (D : DefAt K mg "_law_take" s__law_take) : Callee P w K mg base "_law_take" 1 ["_law_source", "_law_top_it"] p__law_take := callee_mk D (fun f fd F => F.binds fun _ _ _ _ _ _ us hl => match us, hl with | [_, _], _ => rfl) fun f fd F => ok__law_take T  F
theorem ok__law_one {f : Addr} {fd : FuncData} (T : Txt K mg) (C__law_take : Callee P w K mg base "_law_take" 1 ["_law_source", "_law_top_it"] p__law_take) (F : Fun K "_law_one" "_law_one" s__law_one f fd) : FnOk P w K mg base CX0 2 f fd ["_law_source", "_law_things"] (toSp K p__law_one) := by
  refine dfn F sc__law_one ?len (by decide) fun cdv A outer s H E Ψ hr => ⟨_, _, (dss_one (ds_ret (de_ix (de_var (pv 1)) (de_c1 C__law_take (hr.mono (by decide)) (by rfl) (da_cons (de_var (pv 0)) (da_cons (de_B call_len sim_len (by rfl) T.b_len (by decide +kernel) (da_cons (de_var (pv 1)) da_nil)) da_nil)))))), ?rd⟩
  case len => rintro xs μ Φ Ψ ⟨a, b, ds, rest, rfl, _⟩; rfl
  case rd =>
    rintro xs μ Φ ⟨a, b, ds, rest, rfl, rfl, hs, h0, h1, k⟩
    dsimp only [NN__law_one, List.length, dstart]
    walk_at "s"
    refine ⟨a, b, _, rest, rfl, rfl, hs, by omega, by omega, fun a' b' r hs' hr0 hr1 => ?_⟩
    obtain ⟨n, rfl⟩ := Int.eq_ofNat_of_zero_le hr0
    have hn : ds[n]? = some (ds[n]'(by omega)) := List.getElem?_eq_getElem (by omega)
    refine l_ixL (atI_nat' hn) ?_
    exact k a' b' _ hs' (List.getElem_mem _)
theorem c__law_one (T : Txt K mg) (C__law_take : Callee P w K mg base "_law_take" 1 ["_law_source", "_law_top_it"] p__law_take) (D : DefAt K mg "_law_one" s__law_one) : Callee P w K mg base "_law_one" 2 ["_law_source", "_law_things"] p__law_one := callee_mk D (fun f fd F => F.binds fun _ _ _ _ _ _ us hl => match us, hl with | [_, _], _ => rfl) fun f fd F => ok__law_one T C__law_take F
theorem ok__law_number {f : Addr} {fd : FuncData} (T : Txt K mg) (C__law_one : Callee P w K mg base "_law_one" 2 ["_law_source", "_law_things"] p__law_one) (C__law_take : Callee P w K mg base "_law_take" 1 ["_law_source", "_law_top_it"] p__law_take) (F : Fun K "_law_number" "_law_number" s__law_number f fd) : FnOk P w K mg base CX0 3 f fd ["_law_source"] (toSp K p__law_number) := by
  refine dfn F sc__law_number ?len (by decide) fun cdv A outer s H E Ψ hr => ⟨_, _, (dss_one (ds_ret (de_c1 C__law_one (hr.mono (by decide)) (by rfl) (da_cons (de_var (pv 0)) (da_cons (de_lst (da_cons de_int (da_cons de_int (da_cons de_int (da_cons de_int (da_cons de_int (da_cons (de_c1 C__law_take (hr.mono (by decide)) (by rfl) (da_cons (de_var (pv 0)) (da_cons de_int da_nil))) da_nil))))))) da_nil))))), ?rd⟩
  case len => rintro xs μ Φ Ψ ⟨a, b, rest, rfl, _⟩; rfl
  case rd =>
    rintro xs μ Φ ⟨a, b, rest, rfl, rfl, hs, k⟩
    dsimp only [NN__law_number, List.length, dstart]
    walk_at "s"
    refine ⟨a, b, _, rest, rfl, rfl, hs, by decide, by decide, fun a1 b1 r h1 hr0 hr1 => ?_⟩
    walk_at "s"
    refine ⟨a1, b1, _, rest, rfl, rfl, h1, by simp only [List.length_cons, List.length_nil]; decide, by simp only [List.length_cons, List.length_nil]; decide, fun a2 b2 d h2 hd => ?_⟩
    simp only [List.mem_cons, List.not_mem_nil, or_false] at hd
    rcases hd with rfl | rfl | rfl | rfl | rfl | rfl
    all_goals exact k a2 b2 _ h2 (by omega) (by omega)
theorem c__law_number (T : Txt K mg) (C__law_one : Callee P w K mg base "_law_one" 2 ["_law_source", "_law_things"] p__law_one) (C__law_take : Callee P w K mg base "_law_take" 1 ["_law_source", "_law_top_it"] p__law_take) (D : DefAt K mg "_law_number" s__law_number) : Callee P w K mg base "_law_number" 3 ["_law_source"] p__law_number := callee_mk D (fun f fd F => F.binds fun _ _ _ _ _ _ us hl => match us, hl with | [_], _ => rfl) fun f fd F => ok__law_number T C__law_one C__law_take F
theorem ok__law_parts {f : Addr} {fd : FuncData} (T : Txt K mg) (C__law_number : Callee P w K mg base "_law_number" 3 ["_law_source"] p__law_number) (C__law_one : Callee P w K mg base "_law_one" 2 ["_law_source", "_law_things"] p__law_one) (C__law_take : Callee P w K mg base "_law_take" 1 ["_law_source", "_law_top_it"] p__law_take) (F : Fun K "_law_parts" "_law_parts" s__law_parts f fd) : FnOk P w K mg base CX0 4 f fd ["_law_source"] (toSp K p__law_parts) := by
  refine dfn F sc__law_parts ?len (by decide) fun cdv A outer s H E Ψ hr => ⟨_, _, (dss_cons (ds_asg (de_c1 C__law_one (hr.mono (by decide)) (by rfl) (da_cons (de_var (pv 0)) (da_cons (de_lst (da_cons de_int (da_cons de_int (da_cons de_int (da_cons de_int (da_cons (de_c1 C__law_take (hr.mono (by decide)) (by rfl) (da_cons (de_var (pv 0)) (da_cons de_int da_nil))) da_nil)))))) da_nil))) (dg_name (i := 1) sc__law_parts.nd rfl (.inl rfl)))
  (dss_cons (ds_asg (de_lst (da_cons (de_add de_int (de_c1 C__law_take (hr.mono (by decide)) (by rfl) (da_cons (de_var (pv 0)) (da_cons de_int da_nil)))) (da_cons (de_c1 C__law_number (hr.mono (by decide)) (by rfl) (da_cons (de_var (pv 0)) da_nil)) (da_cons (de_c1 C__law_number (hr.mono (by decide)) (by rfl) (da_cons (de_var (pv 0)) da_nil)) (da_cons (de_var (pv 1)) da_nil))))) (dg_name (i := 2) sc__law_parts.nd rfl (.inl rfl)))
  (dss_one (ds_ret (de_addM (de_var (pv 2)) (de_lc (own := [("_law_turn", 3)]) rfl sc__law_parts.nd (di_range1 (by rfl) T.b_range (da_cons (de_var (pv 1)) da_nil)) (blkOk_by (N := NN__law_parts) (sc := defScope s__law_parts) (by decide +kernel)) (fun _ _ _ _ _ => (dg_name (i := 3) sc__law_parts.nd rfl (.inl rfl))) (gw_name (by decide)) (fun _ _ _ _ _ => dts_nil) (fun _ _ _ _ _ => (de_c1 C__law_number (hr.mono (by decide)) (by rfl) (da_cons (de_var (pv 0)) da_nil))))))))), ?rd⟩
  case len => rintro xs μ Φ Ψ ⟨a, b, rest, rfl, _⟩; rfl
  case rd =>
    rintro xs μ Φ ⟨a, b, rest, rfl, rfl, hs, k⟩
    dsimp only [NN__law_parts, List.length, dstart]
    walk_at "s"
    refine ⟨a, b, _, rest, rfl, rfl, hs, by decide, by decide, fun a1 b1 r h1 hr0 hr1 => ?_⟩
    walk_at "s"
    refine ⟨a1, b1, _, rest, rfl, rfl, h1, by simp only [List.length_cons, List.length_nil]; decide, by simp only [List.length_cons, List.length_nil]; decide, fun a2 b2 d h2 hd => ?_⟩
    have hm : ∃ m : Nat, d = .int m ∧ m ≤ 60 := by
      simp only [List.mem_cons, List.not_mem_nil, or_false] at hd
      rcases hd with rfl | rfl | rfl | rfl | rfl
      · exact ⟨0, rfl, by decide⟩
      · exact ⟨1, rfl, by decide⟩
      · exact ⟨2, rfl, by decide⟩
      · exact ⟨60, rfl, by decide⟩
      · exact ⟨r.toNat, by rw [Int.toNat_of_nonneg hr0], by omega⟩
    obtain ⟨m, rfl, hm⟩ := hm
    walk_at "s"
    refine ⟨a2, b2, _, rest, rfl, rfl, h2, by decide, by decide, fun a3 b3 q h3 hq0 hq1 => ?_⟩
    walk_at "s"
    refine ⟨a3, b3, rest, rfl, rfl, h3, fun a4 b4 n1 h4 hn0 hn1 => ?_⟩
    walk_at "s"
    refine ⟨a4, b4, rest, rfl, rfl, h4, fun a5 b5 n2 h5 hp0 hp1 => ?_⟩
    walk_at "s"
    refine lc_rng (fun i acc μ' => ∃ a' b' ns, Sok a' b' ∧ μ' = src a' b' :: rest ∧ acc = dints ns ∧ ns.length = i ∧ Small ns) ⟨a5, b5, [], h5, rfl, rfl, rfl, fun _ h => by cases h⟩ ?_ ?_ ?_
    · rintro i acc μ' hi ⟨a', b', ns, _, _, rfl, hl, _⟩
      exact szlt (by rw [List.length_map]; omega)
    · rintro i acc μ' hi ⟨a', b', ns, h', rfl, rfl, hl, hsm⟩
      walk_at "s"
      refine ⟨a', b', rest, rfl, rfl, h', fun a6 b6 n h6 hn0 hn1 => ?_⟩
      walk_at "s"
      exact ⟨a6, b6, ns ++ [n], h6, rfl, (dints_app ns [n]).symm, by rw [List.length_append, hl]; rfl, fun x hx => (List.mem_append.mp hx).elim (hsm x) fun h => by rw [List.mem_singleton.mp h]; exact ⟨hn0, hn1⟩⟩
    · rintro acc μ' ⟨a', b', ns, h', rfl, rfl, hl, hsm⟩
      walk_at "s"
      refine l_plusM (szle (by simp only [List.length_map, List.length_cons, List.length_nil]; omega)) ?_
      have em : (m : Int) = ((ns.length : Nat) : Int) := by omega
      rw [em]
      refine k a' b' ((1 + q) :: n1 :: n2 :: ((ns.length : Nat) : Int) :: ns) h' ⟨⟨_, _, _, ns, rfl, by omega, by omega, by omega⟩, ?_⟩
      intro x hx
      simp only [List.mem_cons] at hx
      rcases hx with rfl | rfl | rfl | rfl | hx
      · omega
      · exact ⟨hn0, hn1⟩
      · exact ⟨hp0, hp1⟩
      · omega
      · exact hsm x hx
theorem c__law_parts (T : Txt K mg) (C__law_number : Callee P w K mg base "_law_number" 3 ["_law_source"] p__law_number) (C__law_one : Callee P w K mg base "_law_one" 2 ["_law_source", "_law_things"] p__law_one) (C__law_take : Callee P w K mg base "_law_take" 1 ["_law_source", "_law_top_it"] p__law_take) (D : DefAt K mg "_law_parts" s__law_parts) : Callee P w K mg base "_law_parts" 4 ["_law_source"] p__law_parts := callee_mk D (fun f fd F => F.binds fun _ _ _ _ _ _ us hl => match us, hl with | [_], _ => rfl) fun f fd F => ok__law_parts T C__law_number C__law_one C__law_take F
theorem ok_law {f : Addr} {fd : FuncData} (T : Txt K mg) (C__law_check : Callee P w K mg base "_law_check" 1 ["_law_numbers"] p__law_check) (C__law_one : Callee P w K mg base "_law_one" 2 ["_law_source", "_law_things"] p__law_one) (C__law_parts : Callee P w K mg base "_law_parts" 4 ["_law_source"] p__law_parts) (C__law_pool : Callee P w K mg base "_law_pool" 1 ["_law_script", "_law_k"] p__law_pool) (C__law_take : Callee P w K mg base "_law_take" 1 ["_law_source", "_law_top_it"] p__law_take) (C_digit_of : Callee P w K mg base "digit_of" 1 ["mask", "j"] p_digit_of) (C_half_of : Callee P w K mg base "half_of" 1 ["row"] p_half_of) (C_is_good : Callee P w K mg base "is_good" 2 ["row"] p_is_good) (C_left_by : Callee P w K mg base "left_by" 2 ["row", "before", "digit"] p_left_by) (C_made_row : Callee P w K mg base "made_row" 2 ["kind", "place", "number", "payload"] p_made_row) (F : Fun K "law" "law" s_law f fd) : FnOk P w K mg base CX0 5 f fd ["_law_script"] (toSp K p_law) := by
  refine dfn F sc_law ?len (by decide) fun cdv A outer s H E Ψ hr => ⟨_, _, (dss_cons (ds_for PassesOwn.never rfl (di_range1 (by rfl) T.b_range (da_cons (de_B (call_max2 rfl) sim_max2 (by rfl) T.b_max (by decide +kernel) (da_cons de_int (da_cons (de_B (call_min2 rfl) sim_min2 (by rfl) T.b_min (by decide +kernel) (da_cons (de_B call_len sim_len (by rfl) T.b_len (by decide +kernel) (da_cons (de_var (pv 0)) da_nil)) (da_cons de_int da_nil))) da_nil))) da_nil)) (dg_name (i := 1) sc_law.nd rfl (.inl rfl))
  (dss_cons (ds_asg (de_c1 C__law_pool (hr.mono (by decide)) (by rfl) (da_cons (de_var (pv 0)) (da_cons (de_var (pv 1)) da_nil))) (dg_name (i := 2) sc_law.nd rfl (.inr rfl)))
  (dss_cons (ds_asg (de_c1 C__law_parts (hr.mono (by decide)) (by rfl) (da_cons (de_var (pv 2)) da_nil)) (dg_name (i := 3) sc_law.nd rfl (.inl rfl)))
  (dss_cut (ds_if (dt_gt (de_ix (de_var (pv 3)) de_int) de_int) (dss_cons (ds_asg (de_add de_int (de_c1 C__law_take (hr.mono (by decide)) (by rfl) (da_cons (de_var (pv 2)) (da_cons (de_ix (de_var (pv 3)) de_int) da_nil)))) (dg_name (i := 9) sc_law.nd rfl (.inl rfl)))
  (dss_one (ds_asg (de_c1 C__law_check (hr.mono (by decide)) (by rfl) (da_cons (de_slice (de_var (pv 3)) do_none (do_some (de_var (pv 9)))) da_nil)) (dg_sub (de_var (pv 3)) (de_var (pv 9)))))) dss_nil)
  (dss_fz (dss_cons (ds_asg (de_c1 C_made_row (hr.mono (by decide)) (by rfl) (da_cons (de_ix (de_var (pv 3)) de_int) (da_cons (de_ix (de_var (pv 3)) de_int) (da_cons (de_ix (de_var (pv 3)) de_int) (da_cons (de_slice (de_var (pv 3)) (do_some de_int) do_none) da_nil))))) (dg_name (i := 4) sc_law.nd rfl (.inl rfl)))
  (dss_cons (ds_if (DW.dt (dw_or (dt_ne hr.units (de_var (pv 4)) (de_Ty call_tuple_of sim_tuple (by rfl) T.b_tuple (by decide +kernel) (da_cons (de_add (de_var (pv 3)) (de_lst (da_cons (de_c1 C__law_check (hr.mono (by decide)) (by rfl) (da_cons (de_var (pv 3)) da_nil)) da_nil))) da_nil))) (dw_or1 (dt_isnotB (de_c1 C_is_good (hr.mono (by decide)) (by rfl) (da_cons (de_var (pv 4)) da_nil)) de_bl)))) (dss_one (ds_ret de_bl)) dss_nil)
  (dss_cons (ds_for PassesOwn.never rfl (di_range1 (by rfl) T.b_range (da_cons (de_B call_len sim_len (by rfl) T.b_len (by decide +kernel) (da_cons (de_var (pv 4)) da_nil)) da_nil)) (dg_name (i := 5) sc_law.nd rfl (.inl rfl))
  (dss_one (ds_if (dt_isnotB (de_c1 C_is_good (hr.mono (by decide)) (by rfl) (da_cons (de_slice (de_var (pv 4)) do_none (do_some (de_var (pv 5)))) da_nil)) de_bl) (dss_one (ds_ret de_bl)) dss_nil)))
  (dss_cons (ds_asg (de_slice (de_var (pv 4)) do_none (do_some (de_fdiv (de_B call_len sim_len (by rfl) T.b_len (by decide +kernel) (da_cons (de_var (pv 4)) da_nil)) de_int))) (dg_name (i := 6) sc_law.nd rfl (.inl rfl)))
  (dss_cons (ds_if (DW.dt (dw_or (dt_ne hr.units (de_c1 C_half_of (hr.mono (by decide)) (by rfl) (da_cons (de_var (pv 4)) da_nil)) (de_var (pv 6))) (dw_or (dt_ne hr.units (de_c1 C_half_of (hr.mono (by decide)) (by rfl) (da_cons (de_c1 C_made_row (hr.mono (by decide)) (by rfl) (da_cons de_int (da_cons de_int (da_cons de_int (da_cons (de_tup da_nil) da_nil))))) da_nil)) (de_tup (da_cons de_int (da_cons de_int da_nil)))) (dw_or1 (dt_ne hr.units (de_c1 C_half_of (hr.mono (by decide)) (by rfl) (da_cons (de_c1 C_made_row (hr.mono (by decide)) (by rfl) (da_cons de_int (da_cons de_int (da_cons de_int (da_cons (de_tup (da_cons de_int da_nil)) da_nil))))) da_nil)) (de_tup (da_cons de_int (da_cons de_int (da_cons de_int da_nil))))))))) (dss_one (ds_ret de_bl)) dss_nil)
  (dss_cons (ds_par (i := 10) (j := 11) rfl sc_law.nd rfl rfl (by decide) rfl rfl (da_cons (de_lc (own := [("_law_turn", 13)]) rfl sc_law.nd (di_range1 (by rfl) T.b_range (da_cons (de_c1 C__law_take (hr.mono (by decide)) (by rfl) (da_cons (de_var (pv 2)) (da_cons de_int da_nil))) da_nil)) (blkOk_by (N := NN_law) (sc := defScope s_law) (by decide +kernel)) (fun _ _ _ _ _ => (dg_name (i := 13) sc_law.nd rfl (.inl rfl))) (gw_name (by decide)) (fun _ _ _ _ _ => dts_nil) (fun _ _ _ _ _ => (de_c1 C__law_take (hr.mono (by decide)) (by rfl) (da_cons (de_var (pv 2)) (da_cons de_int da_nil))))) (da_cons de_int da_nil)) (by rfl))
  (dss_cons (ds_for PassesOwn.never rfl (di_seq (de_revL (de_var (pv 10)))) (dg_name (i := 7) sc_law.nd rfl (.inl rfl))
  (dss_one (ds_asg (de_add (de_mul de_int (de_var (pv 11))) (de_var (pv 7))) (dg_name (i := 11) sc_law.nd rfl (.inl rfl)))))
  (dss_cons (ds_for PassesOwn.never rfl (di_enum (by rfl) T.b_enumerate (da_cons (de_add (de_var (pv 10)) (de_lst (da_cons de_int (da_cons de_int da_nil)))) da_nil)) (dg_tup (n := 2) rfl (dgs_cons (dg_name (i := 12) sc_law.nd rfl (.inl rfl)) (dgs_cons (dg_name (i := 7) sc_law.nd rfl (.inl rfl)) dgs_nil)))
  (dss_one (ds_if (DW.dt (dw_or (dt_ne hr.units (de_c1 C_digit_of (hr.mono (by decide)) (by rfl) (da_cons (de_var (pv 11)) (da_cons (de_var (pv 12)) da_nil))) (de_var (pv 7))) (dw_or1 (dt_ne hr.units (de_c1 C_digit_of (hr.mono (by decide)) (by rfl) (da_cons (de_var (pv 11)) (da_cons (de_add de_int (de_var (pv 12))) da_nil))) de_int)))) (dss_one (ds_ret de_bl)) dss_nil)))
  (dss_cons (ds_asg (de_c1 C__law_one (hr.mono (by decide)) (by rfl) (da_cons (de_var (pv 2)) (da_cons (de_lst (da_cons (de_tup da_nil) (da_cons (de_tup (da_cons de_int (da_cons de_int da_nil))) (da_cons (de_slice (de_var (pv 4)) do_none (do_some de_int)) da_nil)))) da_nil))) (dg_name (i := 8) sc_law.nd rfl (.inl rfl)))
  (dss_cons (ds_if (DW.dt (dw_or (dt_ne hr.units (de_c1 C_left_by (hr.mono (by decide)) (by rfl) (da_cons (de_var (pv 4)) (da_cons (de_var (pv 8)) (da_cons de_int da_nil)))) (de_var (pv 4))) (dw_or (dt_ne hr.units (de_c1 C_left_by (hr.mono (by decide)) (by rfl) (da_cons (de_var (pv 4)) (da_cons (de_var (pv 8)) (da_cons de_int da_nil)))) (de_var (pv 8))) (dw_or1 (dt_ne hr.units (de_c1 C_left_by (hr.mono (by decide)) (by rfl) (da_cons (de_var (pv 4)) (da_cons (de_var (pv 8)) (da_cons de_int da_nil)))) (de_var (pv 6))))))) (dss_one (ds_ret de_bl)) dss_nil)
  (dss_fz dss_nil))))))))))))))))
  (dss_one (ds_ret de_bl))), ?rd⟩
  case len => rintro xs μ Φ Ψ ⟨ns, rfl, _⟩; rfl
  case rd =>
    rintro xs μ Φ ⟨ns, rfl, hns, rfl, k⟩
    dsimp only [NN_law, List.length, dstart]
    walk_at "s"
    rw [List.length_map]
    generalize hq : (if (if (3 : Int) < ((ns.length : Nat) : Int) then (3 : Int) else ((ns.length : Nat) : Int)) > 1 then (if (3 : Int) < ((ns.length : Nat) : Int) then (3 : Int) else ((ns.length : Nat) : Int)) else 1) = q
    have hq3 : 0 ≤ q ∧ q ≤ 3 := by
      subst hq
      split <;> split <;> omega
    walk_at "s"
    refine for_rng (fun i ε μ' => ∃ o1 o2 o3 o4 o5 o6 o7 o8 o9 o10 o11 o12 o13, ε = [some (.d (.lsr (dints ns))), o1, o2, o3, o4, o5, o6, o7, o8, o9, o10, o11, o12, o13] ∧ μ' = []) ⟨_, _, _, _, _, _, _, _, _, _, _, _, _, rfl, rfl⟩ ?_ ?_
    · rintro i ε μ' hi ⟨o1, o2, o3, o4, o5, o6, o7, o8, o9, o10, o11, o12, o13, rfl, rfl⟩
      walk_at "s"
      refine ⟨ns, _, rfl, by omega, by omega, fun a b hs => ?_⟩
      show dgN _ _ _ [src a b] _
      walk_at "s"
      refine ⟨a, b, [], rfl, rfl, hs, fun a1 b1 ps0 h1 hP0 => ?_⟩
      show dgN _ (.m 1) _ [src a1 b1, .lst ((dints ps0).map SV.d)] _
      walk_at "s"
      refine l_cut (Mid := fun ε' μ' => ∃ o1 o4 o5 o6 o7 o8 o9 o10 o11 o12 o13 a' b' ps, ε' = [some (.d (.lsr (dints ns))), o1, some (.m 0), some (.m 1), o4, o5, o6, o7, o8, o9, o10, o11, o12, o13] ∧ μ' = [src a' b', .lst ((dints ps).map SV.d)] ∧ Sok a' b' ∧ Parts ps) ?_ ?_
      · have hP' := hP0
        obtain ⟨⟨kd, pc, nm, pl, hps, hk1, hk5, hpl⟩, hsm⟩ := hP'
        have hlen : ps0.length = pl.length + 4 := by rw [hps]; rfl
        have g3 : ps0[3]? = some ((pl.length : Nat) : Int) := by rw [hps]; rfl
        walk_at "s"
        refine l_ixM rfl (atI_sv (atI_ints (atI_nat' (j := 3) g3))) ?_
        walk_at "s"
        refine l_bd (fun hc => ?_) fun hc => ?_
        · walk_at "s"
          refine l_ixM rfl (atI_sv (atI_ints (atI_nat' (j := 3) g3))) ?_
          walk_at "s"
          refine ⟨a1, b1, _, _, rfl, rfl, h1, by omega, by omega, fun a2 b2 t h2 ht0 ht1 => ?_⟩
          walk_at "s"
          refine l_slM rfl ?_
          walk_at "s"
          have c4 := cut_le ps0 none (some (4 + t))
          rw [cut_map]
          refine ⟨_, .inr rfl, by omega, ?_⟩
          walk_at "s"
          refine l_subK rfl (ixN_eq (j := 4 + t.toNat) (by omega) (by simp only [List.length_map]; omega)) ?_
          rw [sv_set, dints_set]
          walk_at "s"
          exact ⟨_, _, _, _, _, _, _, _, _, _, _, a2, b2, ps0.set (4 + t.toNat) _, rfl, rfl, h2, parts_set hP0 (by omega) (Int.emod_nonneg _ (by decide)) (Int.emod_lt_of_pos _ (by decide))⟩
        · walk_at "s"
          exact ⟨_, _, _, _, _, _, _, _, _, _, _, a1, b1, ps0, rfl, rfl, h1, hP0⟩
      rintro ε' μ' ⟨p1, p4, p5, p6, p7, p8, p9, p10, p11, p12, p13, a3, b3, ps, rfl, rfl, h3, hP⟩
      have hP' := hP
      obtain ⟨⟨kd, pc, nm, pl, rfl, hk1, hk5, hpl⟩, hsm⟩ := hP'
      generalize hps : (kd :: pc :: nm :: ((pl.length : Nat) : Int) :: pl) = ps at *
      have hlen : ps.length = pl.length + 4 := by rw [← hps]; rfl
      have g0 : ps[0]? = some kd := by rw [← hps]; rfl
      have g1 : ps[1]? = some pc := by rw [← hps]; rfl
      have g2 : ps[2]? = some nm := by rw [← hps]; rfl
      have gG := goodB_row hP
      have rlen : (row ps).length = ps.length + 1 := by
        unfold row
        rw [List.length_append]
        rfl
      have g4 : cut ps (some 4) none = pl := by
        rw [show (4 : Int) = ((4 : Nat) : Int) by rfl, cut_from (by omega), ← hps]
        rfl
      show dFz _ _ _ ([src a3 b3] ++ [.lst ((dints ps).map SV.d)])
      refine l_fz (.lst _) (Nat.zero_le _) ?_ ?_
      · intro mo hmo
        rw [List.mem_singleton.mp hmo]
        intro x hx
        simp only [List.mem_cons, List.not_mem_nil, or_false] at hx
        rcases hx with rfl | rfl <;> trivial
      dsimp only [frz, List.map_cons, List.map_nil, List.length_cons, List.length_nil]
      walk_at "s"
      refine l_ixL (atI_ints (atI_nat' (j := 0) g0)) ?_
      walk_at "s"
      refine l_ixL (atI_ints (atI_nat' (j := 1) g1)) ?_
      walk_at "s"
      refine l_ixL (atI_ints (atI_nat' (j := 2) g2)) ?_
      walk_at "s"
      rw [cut_map, g4]
      refine ⟨kd, pc, nm, pl, .inr rfl, by omega, ?_⟩
      walk_at "s"
      rw [hps]
      refine ⟨ps, .inr rfl, by omega, ?_⟩
      walk_at "s"
      refine l_plusL (szle (by simp only [List.length_map, List.length_cons, List.length_nil]; omega)) ?_
      walk_at "s"
      rw [show dints ps ++ [.int (chk ps)] = dints (row ps) from (dints_app ps [chk ps]).symm]
      walk_at "s"
      refine l_bne rfl ?_
      walk_at "s"
      refine ⟨_, rfl, by omega, ?_⟩
      walk_at "s"
      refine l_bne gG ?_
      walk_at "s"
      rw [List.length_map]
      walk_at "s"
      rw [Int.toNat_natCast]
      refine for_rng (fun i ε μ' => ∃ o1 o3 o5 o6 o7 o8 o9 o10 o11 o12 o13, ε = [some (.d (.lsr (dints ns))), o1, some (.m 0), o3, some (.d (.tup (dints (row ps)))), o5, o6, o7, o8, o9, o10, o11, o12, o13] ∧ μ' = [src a3 b3]) ⟨_, _, _, _, _, _, _, _, _, _, _, rfl, rfl⟩ ?_ ?_
      · rintro i ε μ' hi ⟨c1, c3, c5, c6, c7, c8, c9, c10, c11, c12, c13, rfl, rfl⟩
        walk_at "s"
        rw [cut_map, Int.zero_add, cut_to (by omega)]
        refine ⟨_, rfl, by rw [List.length_take]; omega, ?_⟩
        walk_at "s"
        refine l_bne (short_bad hP hi) ?_
        walk_at "s"
        exact ⟨_, _, _, _, _, _, _, _, _, _, _, rfl, rfl⟩
      rintro ε μ' ⟨c1, c3, c5, c6, c7, c8, c9, c10, c11, c12, c13, rfl, rfl⟩
      walk_at "s"
      rw [List.length_map, cut_map, show cut (row ps) none (some (((row ps).length : Int) / 2)) = half (row ps) from rfl]
      walk_at "s"
      refine ⟨row ps, rfl, by omega, ?_⟩
      walk_at "s"
      refine l_bne rfl ?_
      walk_at "s"
      refine ⟨5, 41, 2, [], .inl rfl, by decide, ?_⟩
      walk_at "s"
      refine ⟨_, rfl, by decide, ?_⟩
      walk_at "s"
      refine n_tup (j := [5, 41]) ?_
      walk_at "s"
      refine l_bne (by decide +kernel) ?_
      walk_at "s"
      refine ⟨5, 41, 2, [7], .inl rfl, by decide, ?_⟩
      walk_at "s"
      refine ⟨_, rfl, by decide, ?_⟩
      walk_at "s"
      refine n_tup (j := [5, 41, 2]) ?_
      walk_at "s"
      refine l_bne (by decide +kernel) ?_
      walk_at "s"
      refine ⟨a3, b3, _, _, rfl, rfl, h3, by decide, by decide, fun a4 b4 t h4 ht0 ht1 => ?_⟩
      walk_at "s"
      refine lc_rng (fun i acc μ' => ∃ a' b' ds, Sok a' b' ∧ μ' = [src a' b'] ∧ acc = dints ds ∧ ds.length = i ∧ Dig ds) ⟨a4, b4, [], h4, rfl, rfl, rfl, fun _ h => by cases h⟩ ?_ ?_ ?_
      · rintro i acc μ' hi ⟨a', b', ds, _, _, rfl, hl, _⟩
        exact szlt (by rw [List.length_map]; omega)
      · rintro i acc μ' hi ⟨a', b', ds, h', rfl, rfl, hl, hd⟩
        walk_at "s"
        refine ⟨a', b', _, _, rfl, rfl, h', by decide, by decide, fun a6 b6 n h6 hn0 hn1 => ?_⟩
        walk_at "s"
        exact ⟨a6, b6, ds ++ [n], h6, rfl, (dints_app ds [n]).symm, by rw [List.length_append, hl]; rfl, fun x hx => (List.mem_append.mp hx).elim (hd x) fun h => by rw [List.mem_singleton.mp h]; exact ⟨hn0, hn1⟩⟩
      rintro acc μ' ⟨a5, b5, ds, h5, rfl, rfl, hdl, hds⟩
      walk_at "s"
      refine for_seq (fun i ε μ' => ∃ o1 o3 o5 o7 o8 o9 o12 o13, ε = [some (.d (.lsr (dints ns))), o1, some (.m 0), o3, some (.d (.tup (dints (row ps)))), o5, some (.d (.tup (dints (half (row ps))))), o7, o8, o9, some (.d (.lst (dints ds))), some (.d (.int ((ds.reverse.take i).foldl (fun y x => 3 * y + x) 0))), o12, o13] ∧ μ' = [src a5 b5]) ⟨_, _, _, _, _, _, _, _, rfl, rfl⟩ ?_ ?_
      · rintro i x ε μ' hx ⟨c1, c3, c5, c7, c8, c9, c12, c13, rfl, rfl⟩
        obtain ⟨n, rfl, e⟩ := rev_step hx
        walk_at "s"
        rw [← e]
        exact ⟨_, _, _, _, _, _, _, _, rfl, rfl⟩
      rintro ε μ' ⟨c1, c3, c5, c7, c8, c9, c12, c13, rfl, rfl⟩
      have em : List.foldl (fun y x => 3 * y + x) 0 (ds.reverse.take (dints ds).reverse.length) = val ds := by
        rw [List.length_reverse, List.length_map, List.take_of_length_le (by rw [List.length_reverse]; exact Nat.le_refl _), List.foldl_reverse]
        rfl
      rw [em]
      walk_at "s"
      refine l_plusL (szle (by simp only [List.length_map, List.length_cons, List.length_nil]; omega)) ?_
      rw [show dints ds ++ [.int 0, .int 0] = dints (ds ++ [0, 0]) from (dints_app ds [0, 0]).symm]
      walk_at "s"
      refine for_enum (fun i ε μ' => ∃ o1 o3 o5 o7 o8 o9 o12 o13, ε = [some (.d (.lsr (dints ns))), o1, some (.m 0), o3, some (.d (.tup (dints (row ps)))), o5, some (.d (.tup (dints (half (row ps))))), o7, o8, o9, some (.d (.lst (dints ds))), some (.d (.int (val ds))), o12, o13] ∧ μ' = [src a5 b5]) ⟨_, _, _, _, _, _, _, _, rfl, rfl⟩ ?_ ?_
      · rintro i x ε μ' hx ⟨c1, c3, c5, c7, c8, c9, c12, c13, rfl, rfl⟩
        rw [List.getElem?_map] at hx
        obtain ⟨n, hn, rfl⟩ := Option.map_eq_some_iff.mp hx
        walk_at "s"
        refine ⟨val ds, i, by rw [Int.zero_add], val_nn hds, ?_⟩
        walk_at "s"
        refine l_bne (by rw [dig_val i hds]; exact getD_app hn) ?_
        walk_at "s"
        refine ⟨val ds, 60 + i, by rw [show (60 + (0 + (i : Int))) = ((60 + i : Nat) : Int) by omega], val_nn hds, ?_⟩
        walk_at "s"
        refine l_bne (by
          rw [dig_val _ hds, List.getD_eq_getElem?_getD, List.getElem?_eq_none (by omega)]
          rfl) ?_
        walk_at "s"
        exact ⟨_, _, _, _, _, _, _, _, rfl, rfl⟩
      rintro ε μ' ⟨c1, c3, c5, c7, c8, c9, c12, c13, rfl, rfl⟩
      walk_at "s"
      refine ⟨a5, b5, _, _, rfl, rfl, h5, by simp only [List.length_cons, List.length_nil]; decide, by simp only [List.length_cons, List.length_nil]; decide, fun a6 b6 d h6 hd => ?_⟩
      have hd : ∃ bf, d = .tup (dints bf) := by
        simp only [List.mem_cons, List.not_mem_nil, or_false] at hd
        rcases hd with rfl | rfl | rfl
        · exact ⟨[], rfl⟩
        · exact ⟨[3, 3], rfl⟩
        · exact ⟨_, by rw [cut_map]⟩
      obtain ⟨bf, rfl⟩ := hd
      walk_at "s"
      refine ⟨row ps, bf, 0, rfl, by omega, ?_⟩
      walk_at "s"
      refine l_bne (by simp) ?_
      walk_at "s"
      refine ⟨row ps, bf, 1, rfl, by omega, ?_⟩
      walk_at "s"
      refine l_bne (by simp) ?_
      walk_at "s"
      refine ⟨row ps, bf, 2, rfl, by omega, ?_⟩
      walk_at "s"
      refine l_bne (by simp) ?_
      walk_at "s"
      show dFz _ _ _ ([] ++ [src a6 b6])
      refine l_fz (.lst [.int a6, .int b6]) (Nat.le_refl 0) (fun mo hmo => by cases hmo) ?_
      walk_at "s"
      exact ⟨_, _, _, _, _, _, _, _, _, _, _, _, _, rfl, rfl⟩
    · rintro ε μ' ⟨o1, o2, o3, o4, o5, o6, o7, o8, o9, o10, o11, o12, o13, rfl, rfl⟩
      walk_at "s"
      exact k _
end
theorem all_mk {l : PySem.W.OpenLaw} {w : World} {K : PySem.W.Frag} {h : Heap} {mg : Str → Option Value} {fa fL : Addr} (X : K.In h) (G : h.Ns mainGlobals mg) (hfa : mg "law" = some (.ref fa))
    {od an : Option Addr} {sl : Array (Option Value)} {oc kV dc pm cd ct : Value}
    (b_enumerate : mg "enumerate" = none)
    (b_int : mg "int" = none)
    (b_len : mg "len" = none)
    (b_max : mg "max" = none)
    (b_min : mg "min" = none)
    (b_range : mg "range" = none)
    (b_tuple : mg "tuple" = none)
    (g_MODULUS : ∃ t, mg "MODULUS" = some (.int 1000003 t))
    (D_check_of : DefAt K mg "check_of" s_check_of)
    (D_made_row : DefAt K mg "made_row" s_made_row)
    (D_is_good : DefAt K mg "is_good" s_is_good)
    (D_half_of : DefAt K mg "half_of" s_half_of)
    (D_digit_of : DefAt K mg "digit_of" s_digit_of)
    (D_left_by : DefAt K mg "left_by" s_left_by)
    (D__law_pool : DefAt K mg "_law_pool" s__law_pool)
    (D__law_take : DefAt K mg "_law_take" s__law_take)
    (D__law_one : DefAt K mg "_law_one" s__law_one)
    (D__law_check : DefAt K mg "_law_check" s__law_check)
    (D__law_number : DefAt K mg "_law_number" s__law_number)
    (D__law_parts : DefAt K mg "_law_parts" s__law_parts)
    (aL : PySem.W.nsIn K mainGlobals "law" = some (some (.ref fL))) (lL : K.lookup fL = some ⟨oc, od, .func (PySem.W.fnOf "law" "law" (defArgs s_law) (defBody s_law) (defScope s_law) .none kV dc pm an cd ct), sl⟩) (cL : PySem.W.codeIn K cd "law" = true) (kL : PySem.W.keepIn K (.ref fL) = true) :
    ∃ fd : FuncData, (∀ (s : Shared) (v : Value), BindsTo s fd ⟨[v], []⟩ [("_law_script", v)]) ∧ ∀ base : Heap, K.In base → base.Ns mainGlobals mg → FnOk l.prog w K mg base CX0 5 fa fd ["_law_script"] (toSp K p_lawOf) := by
  have e := hfa.symm.trans (PySem.W.mg_of X G aL)
  cases e
  have T : Txt K mg := ⟨b_enumerate, b_int, b_len, b_max, b_min, b_range, b_tuple, g_MODULUS⟩
  have F := fun_mk (st := s_law) lL cL kL
  refine ⟨PySem.W.fnOf "law" "law" (defArgs s_law) (defBody s_law) (defScope s_law) .none kV dc pm an cd ct, fun s v => .of_eq rfl, fun base _ _ => ?_⟩
  have C_check_of : Callee l.prog w K mg base "check_of" 1 ["numbers"] p_check_of := c_check_of T  D_check_of
  have C_half_of : Callee l.prog w K mg base "half_of" 1 ["row"] p_half_of := c_half_of T  D_half_of
  have C_digit_of : Callee l.prog w K mg base "digit_of" 1 ["mask", "j"] p_digit_of := c_digit_of T  D_digit_of
  have C__law_pool : Callee l.prog w K mg base "_law_pool" 1 ["_law_script", "_law_k"] p__law_pool := c__law_pool T  D__law_pool
  have C__law_take : Callee l.prog w K mg base "_law_take" 1 ["_law_source", "_law_top_it"] p__law_take := c__law_take T  D__law_take
  have C__law_check : Callee l.prog w K mg base "_law_check" 1 ["_law_numbers"] p__law_check := c__law_check T  D__law_check
  have C_made_row : Callee l.prog w K mg base "made_row" 2 ["kind", "place", "number", "payload"] p_made_row := c_made_row T C_check_of D_made_row
  have C_is_good : Callee l.prog w K mg base "is_good" 2 ["row"] p_is_good := c_is_good T C_check_of D_is_good
  have C_left_by : Callee l.prog w K mg base "left_by" 2 ["row", "before", "digit"] p_left_by := c_left_by T C_half_of D_left_by
  have C__law_one : Callee l.prog w K mg base "_law_one" 2 ["_law_source", "_law_things"] p__law_one := c__law_one T C__law_take D__law_one
  have C__law_number : Callee l.prog w K mg base "_law_number" 3 ["_law_source"] p__law_number := c__law_number T C__law_one C__law_take D__law_number
  have C__law_parts : Callee l.prog w K mg base "_law_parts" 4 ["_law_source"] p__law_parts := c__law_parts T C__law_number C__law_one C__law_take D__law_parts
  exact ok_law T C__law_check C__law_one C__law_parts C__law_pool C__law_take C_digit_of C_half_of C_is_good C_left_by C_made_row F
end K01
open PySem PySem.W PyProof.Rows
set_option maxRecDepth 100000 in
set_option maxHeartbeats 0 in
theorem PySem.Challenge.cw_bornroots_k01_halves_not_good_holds : PySem.Challenge.rw_bornroots_k01_halves_not_good.Holds := by
  w_on; o_law; k_head; (case hw => w_witness2)
  k_fill
  refine DV.walk_dv (l := PySem.Challenge.rw_bornroots_k01_halves_not_good) (lvl := 5) rfl rfl ⟨rfl, by decide, by decide⟩ (fun w h Y => PySem.W.kIn_of Y) ?F
  case F =>
    intro w mg fa h KX G hmg
    refine' K01.all_mk KX G hmg ?b_enumerate ?b_int ?b_len ?b_max ?b_min ?b_range ?b_tuple ?g_MODULUS ?D_check_of ?D_made_row ?D_is_good ?D_half_of ?D_digit_of ?D_left_by ?D__law_pool ?D__law_take ?D__law_one ?D__law_check ?D__law_number ?D__law_parts ?aL ?lL ?cL ?kL
    (case b_enumerate => refine' PySem.W.mg_none_of KX G ?z_enumerate; (case z_enumerate => k_is))
    (case b_int => refine' PySem.W.mg_none_of KX G ?z_int; (case z_int => k_is))
    (case b_len => refine' PySem.W.mg_none_of KX G ?z_len; (case z_len => k_is))
    (case b_max => refine' PySem.W.mg_none_of KX G ?z_max; (case z_max => k_is))
    (case b_min => refine' PySem.W.mg_none_of KX G ?z_min; (case z_min => k_is))
    (case b_range => refine' PySem.W.mg_none_of KX G ?z_range; (case z_range => k_is))
    (case b_tuple => refine' PySem.W.mg_none_of KX G ?z_tuple; (case z_tuple => k_is))
    (case g_MODULUS => have zz := PySem.W.mg_of KX G (n := "MODULUS") (v := _) (by k_is); exact ⟨_, zz⟩)
    (case D_check_of => refine' DV.DefAt.of KX G ?a_check_of ?l_check_of ?c_check_of ?k_check_of; (case a_check_of => k_is); (case l_check_of => k_is); (case c_check_of => k_is); (case k_check_of => k_is))
    (case D_made_row => refine' DV.DefAt.of KX G ?a_made_row ?l_made_row ?c_made_row ?k_made_row; (case a_made_row => k_is); (case l_made_row => k_is); (case c_made_row => k_is); (case k_made_row => k_is))
    (case D_is_good => refine' DV.DefAt.of KX G ?a_is_good ?l_is_good ?c_is_good ?k_is_good; (case a_is_good => k_is); (case l_is_good => k_is); (case c_is_good => k_is); (case k_is_good => k_is))
    (case D_half_of => refine' DV.DefAt.of KX G ?a_half_of ?l_half_of ?c_half_of ?k_half_of; (case a_half_of => k_is); (case l_half_of => k_is); (case c_half_of => k_is); (case k_half_of => k_is))
    (case D_digit_of => refine' DV.DefAt.of KX G ?a_digit_of ?l_digit_of ?c_digit_of ?k_digit_of; (case a_digit_of => k_is); (case l_digit_of => k_is); (case c_digit_of => k_is); (case k_digit_of => k_is))
    (case D_left_by => refine' DV.DefAt.of KX G ?a_left_by ?l_left_by ?c_left_by ?k_left_by; (case a_left_by => k_is); (case l_left_by => k_is); (case c_left_by => k_is); (case k_left_by => k_is))
    (case D__law_pool => refine' DV.DefAt.of KX G ?a__law_pool ?l__law_pool ?c__law_pool ?k__law_pool; (case a__law_pool => k_is); (case l__law_pool => k_is); (case c__law_pool => k_is); (case k__law_pool => k_is))
    (case D__law_take => refine' DV.DefAt.of KX G ?a__law_take ?l__law_take ?c__law_take ?k__law_take; (case a__law_take => k_is); (case l__law_take => k_is); (case c__law_take => k_is); (case k__law_take => k_is))
    (case D__law_one => refine' DV.DefAt.of KX G ?a__law_one ?l__law_one ?c__law_one ?k__law_one; (case a__law_one => k_is); (case l__law_one => k_is); (case c__law_one => k_is); (case k__law_one => k_is))
    (case D__law_check => refine' DV.DefAt.of KX G ?a__law_check ?l__law_check ?c__law_check ?k__law_check; (case a__law_check => k_is); (case l__law_check => k_is); (case c__law_check => k_is); (case k__law_check => k_is))
    (case D__law_number => refine' DV.DefAt.of KX G ?a__law_number ?l__law_number ?c__law_number ?k__law_number; (case a__law_number => k_is); (case l__law_number => k_is); (case c__law_number => k_is); (case k__law_number => k_is))
    (case D__law_parts => refine' DV.DefAt.of KX G ?a__law_parts ?l__law_parts ?c__law_parts ?k__law_parts; (case a__law_parts => k_is); (case l__law_parts => k_is); (case c__law_parts => k_is); (case k__law_parts => k_is))
    (case aL => k_is); (case lL => k_is); (case cL => k_is); (case kL => k_is)
