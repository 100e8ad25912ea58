import PyProof.Rows.All
import Wide.All
import OpenK.AllK
import Wide.FinOn
import HandS.ForMost
import HandS.IsInst
import HandS.TupMul
import HandS.TupAny
import HandS.Style
import HandS.Text
import HandS.Deep
import HandS.Steps
import PySem.Challenge.RW_weandthey_k23_bounds_of_programs
set_option Elab.async false
set_option linter.all false
set_option maxRecDepth 100000
namespace DL
open PySem L2

/-- data without addresses: a tuple is its items; loc: a list of the store; scr: the script -/
inductive D where
  | non | bl (b : Bool) | int (i : Int) | str (x : Str) | tup (ds : List D) | loc (i : Nat) | scr (ns : List Int)
/-- what stands in the store -/
inductive Ob where
  | lst (ds : List D) | dct (kvs : List (Key × D))
abbrev Sto := List Ob
abbrev Mp := List Addr
abbrev DEnv := List (Option D)

/-- the script: locked, or an object of the module -/
def ScrAt (K : PySem.W.Frag) (H : Hp) (a : Addr) (xs : List V) : Prop :=
  (∃ o, H a = some (.frz o (.lst xs))) ∨
  ∃ (o : Obj) (its : Array Value) (n : Nat), K.lookup a = some o ∧ o.cls = .type "list" ∧
    o.dict = none ∧ o.data = .seq its n ∧ its.size ≤ sizeLine ∧ Vals xs its.toList
theorem ScrAt.sqL {K : PySem.W.Frag} {H : Hp} {a : Addr} {xs : List V} (h : ScrAt K H a xs) : SqL K H a xs := by
  rcases h with ⟨o, h⟩ | h
  · exact .inl (.inr ⟨o, h⟩)
  · exact .inr h
mutual
inductive Dv (K : PySem.W.Frag) (H : Hp) (m : Mp) : V → D → Prop
  | non : Dv K H m .non .non
  | bl (b : Bool) : Dv K H m (.bl b) (.bl b)
  | int (i : Int) : Dv K H m (.int i) (.int i)
  | str (x : Str) : Dv K H m (.str x) (.str x)
  | tup {a : Addr} {vs : List V} {ds : List D} : SqT K H a vs → DvA K H m vs ds → Dv K H m (.ref a) (.tup ds)
  | loc {i : Nat} {a : Addr} : m[i]? = some a → Dv K H m (.ref a) (.loc i)
  | scr {a : Addr} {ns : List Int} : ScrAt K H a (ns.map V.int) → Dv K H m (.ref a) (.scr ns)
inductive DvA (K : PySem.W.Frag) (H : Hp) (m : Mp) : List V → List D → Prop
  | nil : DvA K H m [] []
  | cons {v : V} {vs : List V} {d : D} {ds : List D} : Dv K H m v d → DvA K H m vs ds → DvA K H m (v :: vs) (d :: ds)
end

/-- what may not change: tuples and locked things stay -/
structure Kp (H H' : Hp) : Prop where
  tup : ∀ a xs, H a = some (.tup xs) → H' a = some (.tup xs)
  frz : ∀ a o u, H a = some (.frz o u) → H' a = some (.frz o u)
theorem Kp.refl (H : Hp) : Kp H H := ⟨fun _ _ h => h, fun _ _ _ h => h⟩
theorem Kp.trans {H H1 H2 : Hp} (a : Kp H H1) (b : Kp H1 H2) : Kp H H2 := ⟨fun c xs h => b.tup _ _ (a.tup _ _ h), fun c o u h => b.frz _ _ _ (a.frz _ _ _ h)⟩
theorem Kp.new {H : Hp} {p : Addr} {o : HO} (h : H p = none) : Kp H (upd H p o) :=
  ⟨fun a xs e => by rw [upd_ne (ne_of_none e h)]; exact e, fun a x u e => by rw [upd_ne (ne_of_none e h)]; exact e⟩
theorem Kp.put {H : Hp} {p : Addr} {o : HO} {xs : List V} (h : H p = some (.lst xs)) : Kp H (upd H p o) :=
  ⟨fun a ys e => by rw [upd_ne (ne_of e h (fun z => HO.noConfusion z))]; exact e, fun a x u e => by rw [upd_ne (ne_of e h (fun z => HO.noConfusion z))]; exact e⟩
theorem Kp.putK {H : Hp} {p : Addr} {o : HO} {xs : List (Key × V)} (h : H p = some (.dK xs)) : Kp H (upd H p o) :=
  ⟨fun a ys e => by rw [upd_ne (ne_of e h (fun z => HO.noConfusion z))]; exact e, fun a x u e => by rw [upd_ne (ne_of e h (fun z => HO.noConfusion z))]; exact e⟩
theorem Kp.sqT {K : PySem.W.Frag} {H H' : Hp} {a : Addr} {vs : List V} (k : Kp H H') (h : SqT K H a vs) : SqT K H' a vs := by
  rcases h with (h | ⟨o, h⟩) | h
  · exact .inl (.inl (k.tup _ _ h))
  · exact .inl (.inr ⟨o, k.frz _ _ _ h⟩)
  · exact .inr h
/-- the map grows at its end alone -/
def Gr (m m' : Mp) : Prop := ∃ z, m' = m ++ z
theorem Gr.refl (m : Mp) : Gr m m := ⟨[], (List.append_nil m).symm⟩
theorem Gr.trans {m m1 m2 : Mp} (a : Gr m m1) (b : Gr m1 m2) : Gr m m2 := by
  obtain ⟨x, rfl⟩ := a
  obtain ⟨y, rfl⟩ := b
  exact ⟨x ++ y, List.append_assoc ..⟩
theorem Gr.at {m m' : Mp} {i : Nat} {a : Addr} (g : Gr m m') (h : m[i]? = some a) : m'[i]? = some a := by
  obtain ⟨z, rfl⟩ := g
  obtain ⟨hi, _⟩ := List.getElem?_eq_some_iff.mp h
  rw [List.getElem?_append_left hi]
  exact h
section
variable {K : PySem.W.Frag} {H H' : Hp} {m m' : Mp}
mutual
theorem Dv.mono (k : Kp H H') (g : Gr m m') : ∀ (d : D) (v : V), Dv K H m v d → Dv K H' m' v d
  | .non, _, h => by cases h; exact .non
  | .bl b, _, h => by cases h; exact .bl b
  | .int i, _, h => by cases h; exact .int i
  | .str x, _, h => by cases h; exact .str x
  | .tup ds, _, h => by
    cases h with
    | tup s q => exact .tup (k.sqT s) (DvA.mono k g ds _ q)
  | .loc i, _, h => by
    cases h with
    | loc e => exact .loc (g.at e)
  | .scr ns, _, h => by
    cases h with
    | scr e =>
      rcases e with ⟨o, e⟩ | e
      · exact .scr (.inl ⟨o, k.frz _ _ _ e⟩)
      · exact .scr (.inr e)
theorem DvA.mono (k : Kp H H') (g : Gr m m') : ∀ (ds : List D) (vs : List V), DvA K H m vs ds → DvA K H' m' vs ds
  | [], _, h => by cases h; exact .nil
  | d :: ds, _, h => by
    cases h with
    | cons h1 h2 => exact .cons (Dv.mono k g d _ h1) (DvA.mono k g ds _ h2)
end
theorem DvA.length : ∀ {vs : List V} {ds : List D}, DvA K H m vs ds → vs.length = ds.length
  | _, _, .nil => rfl
  | _, _, .cons _ t => congrArg (· + 1) (DvA.length t)
theorem DvA.get : ∀ {vs : List V} {ds : List D} {i : Nat} {d : D}, DvA K H m vs ds → ds[i]? = some d → ∃ v, vs[i]? = some v ∧ Dv K H m v d
  | _, _, _, _, .nil, e => by simp at e
  | _, _, 0, _, .cons r _, e => by simp at e; subst e; exact ⟨_, rfl, r⟩
  | _, _, i + 1, d, .cons _ t, e => by
    obtain ⟨v, h1, h2⟩ := DvA.get (i := i) (d := d) t (by simpa using e)
    exact ⟨v, by simpa using h1, h2⟩
theorem DvA.getV : ∀ {vs : List V} {ds : List D} {i : Nat} {v : V}, DvA K H m vs ds → vs[i]? = some v → ∃ d, ds[i]? = some d ∧ Dv K H m v d
  | _, _, _, _, .nil, e => by simp at e
  | _, _, 0, _, .cons r _, e => by simp at e; subst e; exact ⟨_, rfl, r⟩
  | _, _, i + 1, d, .cons _ t, e => by
    obtain ⟨v, h1, h2⟩ := DvA.getV (i := i) t (by simpa using e)
    exact ⟨v, by simpa using h1, h2⟩
theorem DvA.append : ∀ {vs us : List V} {ds es : List D}, DvA K H m vs ds → DvA K H m us es → DvA K H m (vs ++ us) (ds ++ es)
  | _, _, _, _, .nil, s => s
  | _, _, _, _, .cons r t, s => .cons r (DvA.append t s)
theorem DvA.take : ∀ {vs : List V} {ds : List D} (n : Nat), DvA K H m vs ds → DvA K H m (vs.take n) (ds.take n)
  | _, _, 0, _ => .nil
  | _, _, _ + 1, .nil => .nil
  | _, _, n + 1, .cons r t => .cons r (DvA.take n t)
theorem DvA.drop : ∀ {vs : List V} {ds : List D} (n : Nat), DvA K H m vs ds → DvA K H m (vs.drop n) (ds.drop n)
  | _, _, 0, r => r
  | _, _, _ + 1, .nil => .nil
  | _, _, n + 1, .cons _ t => DvA.drop n t
theorem DvA.set {v : V} {d : D} (r : Dv K H m v d) : ∀ {vs : List V} {ds : List D} (i : Nat), DvA K H m vs ds → DvA K H m (vs.set i v) (ds.set i d)
  | _, _, _, .nil => .nil
  | _, _, 0, .cons _ t => .cons r t
  | _, _, i + 1, .cons q t => .cons q (DvA.set r i t)
theorem DvA.reverse : ∀ {vs : List V} {ds : List D}, DvA K H m vs ds → DvA K H m vs.reverse ds.reverse
  | _, _, .nil => .nil
  | _, _, .cons r t => by
    rw [List.reverse_cons, List.reverse_cons]
    exact DvA.append (DvA.reverse t) (.cons r .nil)
theorem DvA.dropLast : ∀ {vs : List V} {ds : List D}, DvA K H m vs ds → DvA K H m vs.dropLast ds.dropLast
  | _, _, .nil => .nil
  | _, _, .cons _ .nil => .nil
  | _, _, .cons r (.cons q t) => .cons r (DvA.dropLast (.cons q t))
theorem DvA.rep {vs : List V} {ds : List D} (h : DvA K H m vs ds) : ∀ k : Nat, DvA K H m (List.replicate k vs).flatten (List.replicate k ds).flatten
  | 0 => .nil
  | k + 1 => by
    rw [List.replicate_succ, List.replicate_succ, List.flatten_cons, List.flatten_cons]
    exact DvA.append h (DvA.rep h k)
theorem DvA.ints : ∀ (ns : List Int), DvA K H m (ns.map V.int) (ns.map D.int)
  | [] => .nil
  | n :: r => .cons (.int n) (DvA.ints r)
theorem DvA.of_ints : ∀ {vs : List V} {ns : List Int}, DvA K H m vs (ns.map D.int) → vs = ns.map V.int
  | _, [], h => by cases h; rfl
  | _, n :: r, h => by
    cases h with
    | cons h1 h2 => cases h1; rw [DvA.of_ints h2]; rfl
theorem DvA.of_bls : ∀ {vs : List V} {ns : List Bool}, DvA K H m vs (ns.map D.bl) → vs = ns.map V.bl
  | _, [], h => by cases h; rfl
  | _, n :: r, h => by
    cases h with
    | cons h1 h2 => cases h1; rw [DvA.of_bls h2]; rfl
theorem DvA.of_strs : ∀ {vs : List V} {ns : List Str}, DvA K H m vs (ns.map D.str) → vs = ns.map V.str
  | _, [], h => by cases h; rfl
  | _, n :: r, h => by
    cases h with
    | cons h1 h2 => cases h1; rw [DvA.of_strs h2]; rfl
end

def ObR (K : PySem.W.Frag) (H : Hp) (m : Mp) (a : Addr) : Ob → Prop
  | .lst ds => ∃ vs, H a = some (.lst vs) ∧ DvA K H m vs ds
  | .dct kvs => ∃ kws : List (Key × V), H a = some (.dK kws) ∧ kws.map (·.1) = kvs.map (·.1) ∧ DvA K H m (kws.map (·.2)) (kvs.map (·.2))
theorem ObR.some {K : PySem.W.Frag} {H : Hp} {m : Mp} {a : Addr} {o : Ob} (h : ObR K H m a o) : H a ≠ none := by
  cases o with
  | lst ds => obtain ⟨vs, e, _⟩ := h; rw [e]; exact fun z => nomatch z
  | dct kvs => obtain ⟨vs, e, _⟩ := h; rw [e]; exact fun z => nomatch z
theorem ObR.mono {K : PySem.W.Frag} {H H' : Hp} {m m' : Mp} {a : Addr} {o : Ob} (k : Kp H H') (g : Gr m m') (e : H' a = H a) (h : ObR K H m a o) : ObR K H' m' a o := by
  cases o with
  | lst ds => obtain ⟨vs, q, r⟩ := h; exact ⟨vs, e.trans q, DvA.mono k g _ _ r⟩
  | dct kvs => obtain ⟨vs, q, n, r⟩ := h; exact ⟨vs, e.trans q, n, DvA.mono k g _ _ r⟩
/-- the store is held by the heap, by the map -/
structure Rel (K : PySem.W.Frag) (H : Hp) (m : Mp) (S : Sto) : Prop where
  len : m.length = S.length
  nd : m.Nodup
  ob : ∀ (i : Nat) (a : Addr) (o : Ob), m[i]? = some a → S[i]? = some o → ObR K H m a o
section
variable {K : PySem.W.Frag} {H : Hp} {m : Mp} {S : Sto}
theorem Rel.out (R : Rel K H m S) {p : Addr} (h : H p = none) : p ∉ m := fun hp => by
  obtain ⟨i, hi⟩ := List.getElem?_of_mem hp
  obtain ⟨hl, _⟩ := List.getElem?_eq_some_iff.mp hi
  have hl' : i < S.length := R.len ▸ hl
  have hs : S[i]? = some S[i] := List.getElem?_eq_getElem hl'
  exact (R.ob i p _ hi hs).some h
theorem Rel.ne (R : Rel K H m S) {p a : Addr} {i : Nat} (h : H p = none) (e : m[i]? = some a) : a ≠ p := fun z => R.out h (z ▸ List.mem_of_getElem? e)
/-- a new object that the store does not know -/
theorem Rel.new (R : Rel K H m S) {p : Addr} {o : HO} (h : H p = none) : Rel K (upd H p o) m S :=
  ⟨R.len, R.nd, fun i a ob e s => (R.ob i a ob e s).mono (.new h) (.refl m) (upd_ne (R.ne h e))⟩
/-- a new list -/
theorem Rel.push (R : Rel K H m S) {p : Addr} {vs : List V} {ds : List D} (h : H p = none) (r : DvA K H m vs ds) : Rel K (upd H p (.lst vs)) (m ++ [p]) (S ++ [.lst ds]) := by
  have k : Kp H (upd H p (.lst vs)) := .new h
  have g : Gr m (m ++ [p]) := ⟨[p], rfl⟩
  refine ⟨by rw [List.length_append, List.length_append, R.len]; rfl, ?_, fun i a o e s => ?_⟩
  · rw [List.nodup_append]
    exact ⟨R.nd, List.nodup_cons.mpr ⟨List.not_mem_nil, List.nodup_nil⟩, fun a ha b hb z => R.out h (by rw [List.mem_singleton.mp hb] at z; exact z ▸ ha)⟩
  · by_cases hi : i < m.length
    · rw [List.getElem?_append_left hi] at e
      rw [List.getElem?_append_left (R.len ▸ hi)] at s
      exact (R.ob i a o e s).mono k g (upd_ne (R.ne h e))
    · have hl : i < (m ++ [p]).length := (List.getElem?_eq_some_iff.mp e).1
      have hi' : i = m.length := by rw [List.length_append, List.length_singleton] at hl; omega
      subst hi'
      rw [List.getElem?_append_right (Nat.le_refl _), Nat.sub_self] at e
      rw [R.len, List.getElem?_append_right (Nat.le_refl _), Nat.sub_self] at s
      cases e
      cases s
      exact ⟨vs, upd_same, DvA.mono k g _ _ r⟩
theorem Rel.at (R : Rel K H m S) {i : Nat} {a : Addr} {o : Ob} (e : m[i]? = some a) (s : S[i]? = some o) : ObR K H m a o := R.ob i a o e s
/-- a list written -/
theorem Rel.put (R : Rel K H m S) {i : Nat} {a : Addr} {xs vs : List V} {ds : List D} (e : m[i]? = some a) (h : H a = some (.lst xs)) (r : DvA K H m vs ds) : Rel K (upd H a (.lst vs)) m (S.set i (.lst ds)) := by
  have k : Kp H (upd H a (.lst vs)) := .put h
  refine ⟨by rw [List.length_set]; exact R.len, R.nd, fun j b o e' s => ?_⟩
  by_cases hj : j = i
  · subst hj
    rw [e] at e'
    cases e'
    have hl : j < S.length := R.len ▸ (List.getElem?_eq_some_iff.mp e).1
    rw [List.getElem?_set_self hl] at s
    cases s
    exact ⟨vs, upd_same, DvA.mono k (.refl m) _ _ r⟩
  · rw [List.getElem?_set_ne (fun z => hj z.symm)] at s
    have hne : b ≠ a := fun z => hj (by
      subst z
      exact nodup_at R.nd e' e)
    exact (R.ob j b o e' s).mono k (.refl m) (upd_ne hne)
where
  nodup_at {l : List Addr} (nd : l.Nodup) {i j : Nat} {x : Addr} (a : l[i]? = some x) (b : l[j]? = some x) : i = j := by
    obtain ⟨h1, e1⟩ := List.getElem?_eq_some_iff.mp a
    obtain ⟨h2, e2⟩ := List.getElem?_eq_some_iff.mp b
    exact (List.getElem_inj nd).mp (e1.trans e2.symm)
end

/-- slots -/
structure EnvR (K : PySem.W.Frag) (H : Hp) (m : Mp) (σ : L2.St) (δ : DEnv) : Prop where
  len : σ.length = δ.length
  at_ : ∀ (i : Nat) (d : D), δ[i]? = some (some d) → ∃ v, σ[i]? = some (some v) ∧ Dv K H m v d
section
variable {K : PySem.W.Frag} {H H' : Hp} {m m' : Mp} {σ : L2.St} {δ : DEnv}
theorem EnvR.mono (k : Kp H H') (g : Gr m m') (e : EnvR K H m σ δ) : EnvR K H' m' σ δ :=
  ⟨e.len, fun i d h => let ⟨v, a, b⟩ := e.at_ i d h; ⟨v, a, Dv.mono k g _ _ b⟩⟩
theorem EnvR.set (e : EnvR K H m σ δ) (i : Nat) {v : V} {d : D} (r : Dv K H m v d) : EnvR K H m (σ.set i (some v)) (δ.set i (some d)) := by
  refine ⟨by rw [List.length_set, List.length_set]; exact e.len, fun j d' h => ?_⟩
  by_cases hj : j = i
  · subst hj
    have hl : j < δ.length := by
      have := (List.getElem?_eq_some_iff.mp h).1
      rwa [List.length_set] at this
    rw [List.getElem?_set_self hl] at h
    cases h
    exact ⟨v, by rw [List.getElem?_set_self (e.len ▸ hl)], r⟩
  · rw [List.getElem?_set_ne (fun z => hj z.symm)] at h
    obtain ⟨w, a, b⟩ := e.at_ j d' h
    exact ⟨w, by rw [List.getElem?_set_ne (fun z => hj z.symm)]; exact a, b⟩
end
end DL

set_option Elab.async false
set_option linter.all false
set_option maxRecDepth 100000
namespace DL
open PySem L2 PyProof.Rows

/-- a def's promise where no repr is under way -/
structure FnG (P : Program) (w : World) (K : PySem.W.Frag) (mg : Str → Option Value) (base : Heap)
    (CX : CXT) (k : Nat) (f : Addr) (fd : FuncData) (ps : List Str) (sp : Sp) : Prop where
  len : ∀ vs H Q E, sp vs H Q E → vs.length = ps.length
  run : ∀ (A : Around) (outer : List Env) (s : Shared) (H : Hp) (args : Args) (us : List Value) (vs : List V) (Q : VK) (E : XK),
    A.guards = some [] → Room k A → Env0 P w K mg base A outer s H → BindsTo s fd args (ps.zip us) →
    Vals vs us → sp vs H Q E → codeAny (model P w) A (.call (.ref f) args) (CR CX outer P w H s Q E) s
section
variable {P : Program} {w : World} {K : PySem.W.Frag} {mg : Str → Option Value} {base : Heap}
variable {CX : CXT} {j k : Nat} {f : Addr} {fd : FuncData} {ps : List Str} {sp sp' : Sp}
theorem FnG.mono (F : FnG P w K mg base CX j f fd ps sp) (h : j ≤ k) : FnG P w K mg base CX k f fd ps sp :=
  ⟨F.len, fun A o s H ar us vs Q E hg hr => F.run A o s H ar us vs Q E hg (hr.mono h)⟩
theorem FnG.imp (F : FnG P w K mg base CX k f fd ps sp) (h : ∀ vs H Q E, sp' vs H Q E → sp vs H Q E) :
    FnG P w K mg base CX k f fd ps sp' :=
  ⟨fun vs H Q E q => F.len vs H Q E (h _ _ _ _ q),
   fun A o s H ar us vs Q E hg hr he hb hv hs => F.run A o s H ar us vs Q E hg hr he hb hv (h _ _ _ _ hs)⟩
theorem guards_deeper {A : Around} (env : Env) (h : A.guards = some []) : (A.deeper env).guards = some [] := h

/-- from a body to the promise -/
theorem fnG_of {nm qual : Str} {prm : Arguments} {body : List Stmt} {sc : Scope} {dV kV doc pm cdv ct oc : Value}
    {an od : Option Addr} {osl : Array (Option Value)} {N : List Str}
    (lk : K.lookup f = some ⟨oc, od, .func (PySem.W.fnOf nm qual prm body sc dV kV doc pm an cdv ct), osl⟩)
    (hcd : PySem.W.codeIn K cdv qual = true) (S : FnScope N ps sc) (len : ∀ vs H Q E, sp vs H Q E → vs.length = ps.length)
    (hb0 : ∀ (A : Around) (outer : List Env) (s : Shared) (H : Hp) (vs : List V) (Q : VK) (E : XK),
      (A.deeper (envOfC qual sc s.heap.objs.size f cdv)).guards = some [] → Room k (A.deeper (envOfC qual sc s.heap.objs.size f cdv)) → sp vs H Q E →
      ∃ t, PSs (cxOf CX P w K mg base N qual sc f cdv A outer s H E) body t ∧
        t { nx := fun _ H' => Q .non H', rt := Q } (start N vs) H) :
    FnG P w K mg base CX (k + 1) f (PySem.W.fnOf nm qual prm body sc dV kV doc pm an cdv ct) ps sp := by
  refine ⟨len, fun A outer s H ar us vs Q E hgd hr e0 hb r hsp => ?_⟩
  have hlen := len _ _ _ _ hsp
  have KX : K.In s.heap := e0.mod.kin.keeps (fun b o e => (e0.bs b o e).1)
  have nol : s.heap.NoLimit := e0.mod.nolimit.keeps (fun b o e => (e0.bs b o e).1)
  have kinds : ∀ y ∈ ps.zip us, sc.names.lookup y.1 = some .local ∨
      (sc.names.lookup y.1 = some .cell ∧ ((cellsFrom (s.heap.objs.size + 1) sc.names []).lookup y.1).isSome = true) := by
    rintro ⟨n, v⟩ hy
    rcases S.par n (List.of_mem_zip hy).1 with q | q
    · exact .inl q
    · exact .inr ⟨q, PySem.W.cellsFrom_some _ _ _ (.inl q)⟩
  refine codeAny_call_function hr.depth (KX _ _ lk) rfl S.co S.gen rfl
    (PySem.W.codeRec_of KX hcd) (hb _ _ _ _ (wpAny_newFunctionEnv_cells S.kind kinds fun env he s1 x => ?_))
  subst he
  refine ⟨nol.keeps x.toInCall.keep, codeAny_func ?_⟩
  obtain ⟨t, ht, hq⟩ := hb0 A outer s H vs Q E (guards_deeper _ hgd) (hr.deeper _) hsp
  have J0 : Inv (cxOf CX P w K mg base N qual sc f cdv A outer s H E) [] (start N vs) H s1 :=
    inv_start S hr.hd e0 hlen r x
  refine wpAny_mono (ht.run [] s1 (start N vs) H _ J0 hq) ?_ (fun e s' hs => hs)
  intro fl s' hs
  match fl, hs with
  | .ret u, hs =>
    obtain ⟨v, σ', H', J, rv, q⟩ := hs
    exact ⟨v, H', J.os, J.bare, J.base, J.hok, rv, q⟩
  | .next, hs =>
    obtain ⟨σ', H', J, q⟩ := hs
    exact ⟨V.non, H', J.os, J.bare, J.base, J.hok, rfl, q⟩
  | .brk, hs =>
    obtain ⟨_, _, _, q⟩ := hs
    exact q.elim
  | .cont, hs =>
    obtain ⟨_, _, _, q⟩ := hs
    exact q.elim
/-- the context of a def's body -/
abbrev cxD (P : Program) (w : World) (K : PySem.W.Frag) (mg : Str → Option Value) (base : Heap) (N : List Str) (qual : Str) (st : Stmt) (f : Addr)
    (cdv : Value) (A : Around) (outer : List Env) (s : Shared) (H : Hp) (E : XK) : Cx :=
  (cxOf CX0 P w K mg base N qual (defScope st) f cdv A outer s H E).nox
/-- a def of the text -/
theorem funG {x qual : Str} {st : Stmt} {N : List Str} (F : Fun K x qual st f fd) (S : FnScope N ps (defScope st))
    (len : ∀ vs H Q E, sp vs H Q E → vs.length = ps.length)
    (hb0 : ∀ (cdv : Value) (A : Around) (outer : List Env) (s : Shared) (H : Hp) (E : XK),
      (cxD P w K mg base N qual st f cdv A outer s H E).A.guards = some [] → Room k (cxD P w K mg base N qual st f cdv A outer s H E).A →
      ∃ t, PSs (cxD P w K mg base N qual st f cdv A outer s H E) (defBody st) t ∧
        ∀ (H : Hp) (vs : List V) (Q : VK) (E : XK), sp vs H Q E → t { nx := fun _ H' => Q .non H', rt := Q } (start N vs) H) :
    FnG P w K mg base CX0 (k + 1) f fd ps sp := by
  obtain ⟨oc, od, kV, doc, pm, an, cdv, ct, osl, rfl, lk, hcd⟩ := F.ex
  refine fnG_of lk hcd S len (fun A outer s H vs Q E hg hr hsp => ?_)
  obtain ⟨t, h, q⟩ := hb0 cdv A outer s H E hg hr
  exact ⟨t, h.nox, q H vs Q E hsp⟩
end
section
variable {X : Cx} {CX : CXT} {k : Nat} {f : Addr} {fd : FuncData} {ps : List Str} {sp : Sp}
variable {dvs : List V} {ds : List Value} {E : XK} {x : Str} {p pos : Pos} {e : Expr} {es : List Expr} {t : TA}
theorem run_fnG {pins : List (Addr × Obj)} {σ : L2.St} {H : Hp} {s : Shared} {Q : VK} {us : List Value} {vs : List V}
    (F : FnG X.prog X.w X.K X.mg X.base CX k f fd ps sp) (hgd : X.A.guards = some []) (hr : Room k X.A)
    (hb : Binds X.K fd ps ds) (hd : Vals dvs ds) (hx : Passes CX X E) (I : Inv X pins σ H s) (r : Vals vs us)
    (h : sp (vs ++ dvs) H Q E) : wpAny (model X.prog X.w) X.A (call (.ref f) us) (EP X pins σ Q) X.xe s := by
  have r2 := Vals.append r hd
  have hl : (us ++ ds).length = ps.length := r2.length.symm.trans (F.len _ _ _ _ h)
  have go := F.run X.A X.stack s H ⟨us, []⟩ (us ++ ds) (vs ++ dvs) Q E hgd hr I.env0 (hb s us I.kIn hl) r2 h
  refine wpAny_call (codeAny_mono go ?_)
  intro res s' hq
  match res, hq with
  | .error er, hq => exact hx pins σ H s er s' I hq
  | .ok (.ret u), hq => exact I.after hq
  | .ok .next, hq => exact False.elim hq
  | .ok .brk, hq => exact False.elim hq
  | .ok .cont, hq => exact False.elim hq
theorem pe_callG (F : FnG X.prog X.w X.K X.mg X.base CX k f fd ps sp) (hgd : X.A.guards = some []) (hr : Room k X.A) (hg : Gl X x)
    (hm : X.mg x = some (.ref f)) (hk : PySem.W.keepIn X.K (.ref f) = true) (hb : Binds X.K fd ps ds) (hd : Vals dvs ds) (hx : Passes CX X E)
    (ha : PA X (e :: es) t) (hdb : (x == ("__debug__" : Str)) = false := by decide)
    (he : starEach (e :: es) X.env = (false, eval e X.env) :: starEach es X.env := by rfl)
    (hpl : (backTo pos (starEach es X.env)).any (·.1) = false := by rfl) :
    PE X (.Call (.Name x p) (e :: es) [] pos) (tCall sp dvs E t) := by
  constructor
  intro pins s σ H Q I h
  refine wpAny_Call_Name_kw (ld_glob I hg hm (PySem.W.callWith_K (h₀ := X.base) I.ok.mod.kin hk
    (thn (ha.run pos pins s σ H _ I h) ?_) he hpl) hdb)
  rintro us s1 ⟨vs, H1, I1, r, q⟩
  exact ⟨I1.kIn, run_fnG F hgd hr hb hd hx I1 r q⟩
end

/-- the law's own call, from an abstract heap that knows the script at most -/
theorem lawG0 {P : Program} {w : World} {K : PySem.W.Frag} {mg mb : Str → Option Value} {CX : CXT} {k : Nat} {fa a : Addr}
    {fd : FuncData} {x : Str} {sp : Sp} {s₁ : Shared} {vs : List Value} {H : Hp}
    (KX : K.In s₁.heap) (hns : s₁.heap.Ns mainGlobals mg) (hb : s₁.heap.Ns builtinsNs mb)
    (hbb : ∀ x : Str, x ≠ "__name__" → mb x = bootBuiltins x) (hlim : s₁.heap.NoLimit) (hg : s₁.gens = #[])
    (ha : s₁.heap.get? a = some { cls := .type "list", data := .seq vs.toArray }) (hr : Room k callerA)
    (hok : HOk P w H s₁.heap) (Hn : ∀ b, H b ≠ none → b = a ∧ K.lookup a = none ∧ ∃ o u, H a = some (.frz o u))
    (F : ∀ base : Heap, K.In base → base.Ns mainGlobals mg → FnG P w K mg base CX k fa fd [x] sp)
    (hbind : ∀ (s : Shared) (u : Value), BindsTo s fd ⟨[u], []⟩ [(x, u)])
    (hsp : sp [.ref a] H (fun v _ => v = .bl true) fun _ _ _ => False)
    (hCX : ∀ H e s', CX [] H s₁ (fun _ _ _ => False) e s' → False) :
    codeAny (model P w) callerA (.call (.ref fa) ⟨[.ref a], []⟩)
      (fun r s' => r = .ok (.ret (.bool true)) ∧ OldK s₁.heap s'.heap ∧ s'.os = s₁.os ∧ AllBare s'.gens) s₁ := by
  have no : ∀ b, (b = a → K.lookup a = none → False) → H b = none := fun b z => by
    cases q : H b with
    | none => rfl
    | some u =>
      obtain ⟨e, e2, _⟩ := Hn b (by rw [q]; exact fun z => nomatch z)
      exact (z e e2).elim
  have nsK : ∀ {b : Addr} {m : Str → Option Value}, s₁.heap.Ns b m → (hidT s₁.heap H).Ns b m := by
    rintro b m ⟨o, es, ep, e, d, r⟩
    refine ⟨o, es, ep, hidT_get e (no b (fun z _ => ?_)), d, r⟩
    subst z
    rw [ha] at e
    cases e
    exact nomatch (show Data.seq vs.toArray _ = Data.dict es ep from d)
  have hKb : K.In (hidT s₁.heap H) := fun b o e => hidT_get (KX b o e) (no b (fun z z2 => by rw [z, z2] at e; cases e))
  have hM : Mod K mg (hidT s₁.heap H) := ⟨hKb, nsK hns, ⟨mb, nsK hb, hbb⟩, let ⟨mc, h1, h2⟩ := hlim; ⟨mc, nsK h1, h2⟩⟩
  have e0 : Env0 P w K mg (hidT s₁.heap H) callerA [] s₁ H :=
    ⟨rfl, hM, fun b o e => of_hidT e, Nat.le_of_eq (hidT_size _ _), trivial, fun b hb => (List.not_mem_nil hb).elim, hok, .of_eq hg⟩
  have go := (F _ hKb (nsK hns)).run callerA [] s₁ H ⟨[.ref a], []⟩ [.ref a] [.ref a] _ _ rfl hr e0 (hbind s₁ (.ref a)) (.cons rfl .nil) hsp
  refine codeAny_mono go ?_
  intro res s' h
  match res, h with
  | .error e, h => exact (hCX H e s' h).elim
  | .ok .next, h => exact False.elim h
  | .ok .brk, h => exact False.elim h
  | .ok .cont, h => exact False.elim h
  | .ok (.ret u), h =>
    obtain ⟨v, H', os, bare, un, hok', r', q⟩ := h
    obtain rfl : v = .bl true := q
    obtain rfl : u = Value.bool true := r'
    refine ⟨rfl, OldK.of_keep (fun b o e => ?_), os, bare⟩
    by_cases hba : H b = none
    · exact un.keep b o e hba (fun z => List.not_mem_nil z) List.not_mem_nil
    · obtain ⟨rfl, _, ob, u, Ha⟩ := Hn b hba
      obtain ⟨e1, _⟩ := hok b _ Ha
      obtain ⟨e2, _⟩ := hok' b _ (un.frzs b ob _ Ha)
      rw [e] at e1
      cases e1
      exact e2
theorem lawG {P : Program} {w : World} {K : PySem.W.Frag} {mg mb : Str → Option Value} {CX : CXT} {k : Nat} {fa a : Addr}
    {fd : FuncData} {x : Str} {sp : Sp} {s₁ : Shared} {vs : List Value} {ns : List Int}
    (KX : K.In s₁.heap) (hns : s₁.heap.Ns mainGlobals mg) (hb : s₁.heap.Ns builtinsNs mb)
    (hbb : ∀ x : Str, x ≠ "__name__" → mb x = bootBuiltins x) (hlim : s₁.heap.NoLimit) (hg : s₁.gens = #[])
    (ha : s₁.heap.get? a = some { cls := .type "list", data := .seq vs.toArray }) (hi : IntsAre vs ns)
    (hl : ns.length ≤ sizeLine) (hr : Room k callerA)
    (F : ∀ base : Heap, K.In base → base.Ns mainGlobals mg → FnG P w K mg base CX k fa fd [x] sp)
    (hbind : ∀ (s : Shared) (u : Value), BindsTo s fd ⟨[u], []⟩ [(x, u)])
    (hsp : ∀ (H : Hp), ScrAt K H a (ns.map V.int) → sp [.ref a] H (fun v _ => v = .bl true) fun _ _ _ => False)
    (hCX : ∀ H e s', CX [] H s₁ (fun _ _ _ => False) e s' → False) :
    codeAny (model P w) callerA (.call (.ref fa) ⟨[.ref a], []⟩)
      (fun r s' => r = .ok (.ret (.bool true)) ∧ OldK s₁.heap s'.heap ∧ s'.os = s₁.os ∧ AllBare s'.gens) s₁ := by
  have rv := vals_ints hi
  cases hk : K.lookup a with
  | some o =>
    have e := KX a o hk
    rw [ha] at e
    cases e
    refine lawG0 (H := fun _ => none) KX hns hb hbb hlim hg ha hr (fun b u z => nomatch z) (fun b z => (z rfl).elim) F hbind (hsp _ (.inr ?_)) hCX
    exact ⟨_, vs.toArray, _, hk, rfl, rfl, rfl, by rw [List.size_toArray, hi.length]; exact hl, by simpa using rv⟩
  | none =>
    let ob : Obj := { cls := .type "list", data := .seq vs.toArray }
    let H : Hp := fun b => if b = a then some (.frz ob (.lst (ns.map V.int))) else none
    have Ha : H a = some (.frz ob (.lst (ns.map V.int))) := if_pos rfl
    have Hn : ∀ b, b ≠ a → H b = none := fun b hb => if_neg hb
    refine lawG0 (H := H) KX hns hb hbb hlim hg ha hr (fun b u z => ?_) (fun b z => ?_) F hbind (hsp _ (.inl ⟨_, Ha⟩)) hCX
    · by_cases e : b = a
      · subst e
        rw [Ha] at z
        cases z
        exact ⟨ha, by rw [List.length_map]; exact hl, vs, _, rv, ha⟩
      · rw [Hn b e] at z
        cases z
    · by_cases e : b = a
      · exact ⟨e, hk, _, _, Ha⟩
      · exact (z (Hn b e)).elim
/-- the goal that the head leaves -/
theorem walkG {l : PySem.W.OpenLaw} {n k : Nat} {q : Program} {loose : List Str} {XP : (Str → Option Value) → Heap → Prop} {YP : World → Heap → Prop}
    {d : DefRec} {K : Params → PySem.W.Frag} {CX : World → CXT} {sp : World → Sp} {x : Str}
    (hn : l.most = some n) (hn2 : n ≤ sizeLine) (hdf : d.params.defaults = []) (hr : Room k callerA)
    (hY : ∀ (w : World) (h : Heap), YP w h → (K w.params).In h)
    (F : ∀ (w : World) (mg : Str → Option Value) (fa : Addr) (h : Heap), (K w.params).In h → h.Ns mainGlobals mg → mg d.name = some (.ref fa) →
      ∃ fd : FuncData, (∀ (s : Shared) (u : Value), BindsTo s fd ⟨[u], []⟩ [(x, u)]) ∧
      ∀ base : Heap, (K w.params).In base → base.Ns mainGlobals mg → FnG l.prog w (K w.params) mg base (CX w) k fa fd [x] (sp w))
    (hsp : ∀ (w : World) (H : Hp) (a : Addr) (ns : List Int), ns.length ≤ n → ScrAt (K w.params) H a (ns.map V.int) →
      sp w [.ref a] H (fun v _ => v = .bl true) fun _ _ _ => False)
    (hCX : ∀ (w : World) (H : Hp) (s : Shared) (e : Value) (s' : Shared), CX w [] H s (fun _ _ _ => False) e s' → False) :
    PySem.W.WalkO q loose XP YP l.row.toRowW d [] (fun f vs => PySem.call f vs) := by
  refine Att.attach_call hn hdf ?_
  intro w s₀ s₁ mg mb fa o pm cd doc a vs ns G Y ho hd hcd hmg hobj hints hlen hg
  have KX := hY w _ Y
  obtain ⟨fd, hb, hF⟩ := F w mg fa _ KX G.T.g hmg
  exact lawG KX G.T.g G.T.b G.T.builtins G.T.nolimit hg hobj hints (Nat.le_trans hlen hn2) hr hF hb
    (fun H hS => hsp w H a ns hlen hS) (fun H e s' => hCX w H s₁ e s')
end DL

set_option Elab.async false
set_option linter.all false
set_option maxRecDepth 100000
set_option maxHeartbeats 1000000
namespace DL
open PySem L2 PyProof.Rows

abbrev DK := D → Sto → Prop
abbrev DE := DEnv → Sto → DK → Prop
abbrev DT := DEnv → Sto → (Bool → Sto → Prop) → Prop
abbrev DA := DEnv → Sto → (List D → Sto → Prop) → Prop
def Cont (K : PySem.W.Frag) (H : Hp) (m : Mp) (Q' : DK) (Q : VK) : Prop :=
  ∀ d S' v H' m', Q' d S' → Kp H H' → Gr m m' → Rel K H' m' S' → Dv K H' m' v d → Q v H'
def ContB (K : PySem.W.Frag) (H : Hp) (m : Mp) (Q' : Bool → Sto → Prop) (Q : Bool → Hp → Prop) : Prop :=
  ∀ b S' H' m', Q' b S' → Kp H H' → Gr m m' → Rel K H' m' S' → Q b H'
def ContA (K : PySem.W.Frag) (H : Hp) (m : Mp) (Q' : List D → Sto → Prop) (Q : List V → Hp → Prop) : Prop :=
  ∀ ds S' vs H' m', Q' ds S' → Kp H H' → Gr m m' → Rel K H' m' S' → DvA K H' m' vs ds → Q vs H'
def SimE (K : PySem.W.Frag) (te : TE) (t : DE) : Prop := ∀ (σ : L2.St) (H : Hp) (m : Mp) (S : Sto) (δ : DEnv) (Q : VK) (Q' : DK),
  Rel K H m S → EnvR K H m σ δ → t δ S Q' → Cont K H m Q' Q → te σ H Q
def SimT (K : PySem.W.Frag) (te : TT) (t : DT) : Prop := ∀ (σ : L2.St) (H : Hp) (m : Mp) (S : Sto) (δ : DEnv) (Q : Bool → Hp → Prop) (Q' : Bool → Sto → Prop),
  Rel K H m S → EnvR K H m σ δ → t δ S Q' → ContB K H m Q' Q → te σ H Q
def SimA (K : PySem.W.Frag) (te : TA) (t : DA) : Prop := ∀ (σ : L2.St) (H : Hp) (m : Mp) (S : Sto) (δ : DEnv) (Q : List V → Hp → Prop) (Q' : List D → Sto → Prop),
  Rel K H m S → EnvR K H m σ δ → t δ S Q' → ContA K H m Q' Q → te σ H Q
structure PD (X : Cx) (e : Expr) (te : TE) (t : DE) : Prop where
  pe : PE X e te
  sim : SimE X.K te t
structure PTD (X : Cx) (e : Expr) (te : TT) (t : DT) : Prop where
  pe : PT X e te
  sim : SimT X.K te t
structure PWD (X : Cx) (e : Expr) (te : TT) (t : DT) : Prop where
  pe : PW X e te
  sim : SimT X.K te t
structure PAD (X : Cx) (e : List Expr) (te : TA) (t : DA) : Prop where
  pe : PA X e te
  sim : SimA X.K te t
structure OpD (X : Cx) (f : Value → Value → Sem Value) (r : R2) (r' : D → D → Sto → DK → Prop) : Prop where
  op : OpR X f r
  sim : ∀ (H : Hp) (m : Mp) (S : Sto) (x y : D) (vx vy : V) (Q : VK) (Q' : DK), Rel X.K H m S → Dv X.K H m vx x → Dv X.K H m vy y → r' x y S Q' → Cont X.K H m Q' Q → r vx vy H Q
structure CallD (X : Cx) (f : Value) (r : List V → Hp → VK → Prop) (r' : List D → Sto → DK → Prop) : Prop where
  op : CallR X f r
  sim : ∀ (H : Hp) (m : Mp) (S : Sto) (xs : List D) (vs : List V) (Q : VK) (Q' : DK), Rel X.K H m S → DvA X.K H m vs xs → r' xs S Q' → Cont X.K H m Q' Q → r vs H Q

section
variable {K : PySem.W.Frag} {H H' : Hp} {m m' : Mp} {S : Sto} {Q' : DK} {Q : VK}
theorem Cont.mono (k : Kp H H') (g : Gr m m') (c : Cont K H m Q' Q) : Cont K H' m' Q' Q := fun d S' v H2 m2 q k2 g2 R r => c d S' v H2 m2 q (k.trans k2) (g.trans g2) R r
theorem ContB.mono {Q' : Bool → Sto → Prop} {Q : Bool → Hp → Prop} (k : Kp H H') (g : Gr m m') (c : ContB K H m Q' Q) : ContB K H' m' Q' Q := fun b S' H2 m2 q k2 g2 R => c b S' H2 m2 q (k.trans k2) (g.trans g2) R
theorem ContA.mono {Q' : List D → Sto → Prop} {Q : List V → Hp → Prop} (k : Kp H H') (g : Gr m m') (c : ContA K H m Q' Q) : ContA K H' m' Q' Q := fun d S' v H2 m2 q k2 g2 R r => c d S' v H2 m2 q (k.trans k2) (g.trans g2) R r
theorem Cont.same {v : V} {d : D} (c : Cont K H m Q' Q) (R : Rel K H m S) (q : Q' d S) (r : Dv K H m v d) : Q v H := c d S v H m q (.refl H) (.refl m) R r
theorem Cont.newL {vs : List V} {ds : List D} (c : Cont K H m Q' Q) (R : Rel K H m S) (r : DvA K H m vs ds) (q : Q' (.loc S.length) (S ++ [.lst ds])) : ∀ p, H p = none → Q (.ref p) (upd H p (.lst vs)) := fun p hp =>
  c (.loc S.length) _ _ _ (m ++ [p]) q (.new hp) ⟨[p], rfl⟩ (R.push hp r) (.loc (by rw [← R.len, List.getElem?_append_right (Nat.le_refl _), Nat.sub_self]; rfl))
theorem Cont.newT {vs : List V} {ds : List D} (c : Cont K H m Q' Q) (R : Rel K H m S) (r : DvA K H m vs ds) (q : Q' (.tup ds) S) : ∀ p, H p = none → Q (.ref p) (upd H p (.tup vs)) := fun p hp =>
  c (.tup ds) _ _ _ m q (.new hp) (.refl m) (R.new hp) (.tup (SqT.of upd_same) (DvA.mono (.new hp) (.refl m) _ _ r))
theorem Rel.lst (R : Rel K H m S) {i : Nat} {v : V} {ds : List D} (d : Dv K H m v (.loc i)) (s : S[i]? = some (.lst ds)) : ∃ a vs, v = .ref a ∧ m[i]? = some a ∧ H a = some (.lst vs) ∧ DvA K H m vs ds := by
  cases d with
  | loc e =>
    obtain ⟨vs, h, r⟩ := R.ob i _ _ e s
    exact ⟨_, vs, rfl, e, h, r⟩
theorem small5 {n : Nat} (h : n ≤ 100000) : n ≤ sizeLine := Nat.le_trans h (by decide)
theorem small5' {n : Nat} (h : n < 100000) : n < sizeLine := Nat.lt_of_lt_of_le h (by decide)
theorem DvA.atI {vs : List V} {ds : List D} {i : Int} {d : D} (r : DvA K H m vs ds) (h : atI ds i = some d) : ∃ v, L2.atI vs i = some v ∧ Dv K H m v d := by
  unfold L2.atI at h ⊢
  rw [r.length]
  cases e : ixN ds.length i with
  | none => rw [e] at h; cases h
  | some j =>
    rw [e] at h
    have h' : ds[j]? = some d := h
    obtain ⟨v, h1, h2⟩ := r.get h'
    exact ⟨v, h1, h2⟩
theorem DvA.cut {vs : List V} {ds : List D} (lo hi : Option Int) (r : DvA K H m vs ds) : DvA K H m (cutV vs lo hi) ((ds.drop (HT.sIx ds.length 0 lo)).take (HT.sIx ds.length ds.length hi - HT.sIx ds.length 0 lo)) := by
  unfold cutV
  rw [r.length]
  exact (r.drop _).take _
end

/-! ### names, constants -/
section
variable {X : Cx} {pos : Pos}
@[simp] def dVar (i : Nat) : DE := fun δ S Q => ∃ d, δ[i]? = some (some d) ∧ Q d S
@[simp] def dC (d : D) : DE := fun _ S Q => Q d S
theorem sim_var {K : PySem.W.Frag} {i : Nat} : SimE K (tVar i) (dVar i) := fun σ H m S δ Q Q' R e ⟨d, h, q⟩ c =>
  let ⟨v, h1, h2⟩ := e.at_ i d h
  ⟨v, h1, c.same R q h2⟩
theorem dv (i : Nat) {x : Str} {pos : Pos} (hN : X.N[i]? = some x := by rfl) (hv : Vis X.env.scope x := by first | exact Or.inl rfl | exact Or.inr (Or.inl rfl) | exact Or.inr (Or.inr rfl)) (hd : (x == ("__debug__" : Str)) = false := by decide)
    (hcd : (x == ("__classdict__" : Str)) = false := by decide) : PD X (.Name x pos) (tVar i) (dVar i) := ⟨pe_var hN hv hd hcd, sim_var⟩
theorem sim_c {K : PySem.W.Frag} {v : V} {d : D} (h : ∀ H m, Dv K H m v d) : SimE K (tC v) (dC d) := fun σ H m S δ Q Q' R e q c => c.same R q (h H m)
theorem d_int {i j} : PD X (.Constant (.int i) j pos) (tC (.int i)) (dC (.int i)) := ⟨pe_int, sim_c fun _ _ => .int i⟩
theorem d_bl {b j} : PD X (.Constant (.bool b) j pos) (tC (.bl b)) (dC (.bl b)) := ⟨pe_bl, sim_c fun _ _ => .bl b⟩
theorem d_non {j} : PD X (.Constant .none j pos) (tC .non) (dC .non) := ⟨pe_non, sim_c fun _ _ => .non⟩
theorem d_str {x j} : PD X (.Constant (.str x) j pos) (tC (.str x)) (dC (.str x)) := ⟨pe_str, sim_c fun _ _ => .str x⟩
/-- a constant of the module -/
structure GlD (K : PySem.W.Frag) (mg : Str → Option Value) (x : Str) (v : V) (d : D) : Prop where
  ex : ∃ u, mg x = some u ∧ RelV v u
  dv : ∀ H m, Dv K H m v d
theorem d_glob {x : Str} {v : V} {d : D} (hg : Gl X x) (g : GlD X.K X.mg x v d) (hd : (x == ("__debug__" : Str)) = false := by decide) : PD X (.Name x pos) (tC v) (dC d) :=
  let ⟨_, hm, r⟩ := g.ex
  ⟨pe_glob hg hm r hd, sim_c g.dv⟩
end

/-! ### argument lists, displays -/
section
variable {X : Cx} {pos : Pos} {e : Expr} {es : List Expr} {te : TE} {t : DE} {ta : TA} {u : DA}
@[simp] def dNil : DA := fun _ S Q => Q [] S
@[simp] def dCons (t : DE) (u : DA) : DA := fun δ S Q => t δ S fun d S1 => u δ S1 fun ds S2 => Q (d :: ds) S2
theorem da_nil : PAD X [] tNil dNil := ⟨pa_nil, fun σ H m S δ Q Q' R e q c => c [] S [] H m q (.refl H) (.refl m) R .nil⟩
theorem sim_cons {K : PySem.W.Frag} (h : SimE K te t) (hr : SimA K ta u) : SimA K (tCons te ta) (dCons t u) := fun σ H m S δ Q Q' R e q c =>
  h σ H m S δ _ _ R e q fun d S1 v H1 m1 q1 k1 g1 R1 r1 =>
    hr σ H1 m1 S1 δ _ _ R1 (e.mono k1 g1) q1 fun ds S2 vs H2 m2 q2 k2 g2 R2 r2 => c _ _ _ _ m2 q2 (k1.trans k2) (g1.trans g2) R2 (.cons (Dv.mono k2 g2 _ _ r1) r2)
theorem da_cons (h : PD X e te t) (hr : PAD X es ta u) (hs : starEach (e :: es) X.env = (false, eval e X.env) :: starEach es X.env := by rfl) : PAD X (e :: es) (tCons te ta) (dCons t u) :=
  ⟨pa_cons h.pe hr.pe hs, sim_cons h.sim hr.sim⟩
@[simp] def dTup (u : DA) : DE := fun δ S Q => u δ S fun ds S1 => ds.length ≤ 100000 ∧ Q (.tup ds) S1
@[simp] def dLst (u : DA) : DE := fun δ S Q => u δ S fun ds S1 => ds.length ≤ 100000 ∧ Q (.loc S1.length) (S1 ++ [.lst ds])
theorem d_tup {x1} (h : PAD X es ta u) : PD X (.Tuple es x1 pos) (tTup ta) (dTup u) := ⟨pe_tup h.pe, fun σ H m S δ Q Q' R e q c =>
  h.sim σ H m S δ _ _ R e q fun ds S1 vs H1 m1 ⟨hl, q1⟩ k1 g1 R1 r1 => ⟨by rw [r1.length]; exact small5 hl, (c.mono k1 g1).newT R1 r1 q1⟩⟩
theorem d_lst (h : PAD X es ta u) : PD X (.List es pos) (tLst ta) (dLst u) := ⟨pe_lst h.pe, fun σ H m S δ Q Q' R e q c =>
  h.sim σ H m S δ _ _ R e q fun ds S1 vs H1 m1 ⟨hl, q1⟩ k1 g1 R1 r1 => ⟨by rw [r1.length]; exact small5 hl, (c.mono k1 g1).newL R1 r1 q1⟩⟩
end

/-! ### operators -/
section
variable {X : Cx} {pos : Pos} {a b c : Expr} {ta tb tc : TE} {t u w : DE} {r r2 : R2} {r' r2' : D → D → Sto → DK → Prop} {f : Value → Value → Sem Value}
@[simp] def dOp (r' : D → D → Sto → DK → Prop) (t u : DE) : DE := fun δ S Q => t δ S fun x S1 => u δ S1 fun y S2 => r' x y S2 Q
theorem sim_op {K : PySem.W.Frag} (h1 : SimE K ta t) (h2 : SimE K tb u) (h3 : ∀ (H : Hp) (m : Mp) (S : Sto) (x y : D) (vx vy : V) (Q : VK) (Q' : DK), Rel K H m S → Dv K H m vx x → Dv K H m vy y → r' x y S Q' → Cont K H m Q' Q → r vx vy H Q) :
    SimE K (tOp r ta tb) (dOp r' t u) := fun σ H m S δ Q Q' R e q c =>
  h1 σ H m S δ _ _ R e q fun x S1 vx H1 m1 q1 k1 g1 R1 r1 =>
    h2 σ H1 m1 S1 δ _ _ R1 (e.mono k1 g1) q1 fun y S2 vy H2 m2 q2 k2 g2 R2 r2 =>
      h3 H2 m2 S2 x y vx vy Q Q' R2 (Dv.mono k2 g2 _ _ r1) r2 q2 (c.mono (k1.trans k2) (g1.trans g2))
theorem d_op {op : Operator} (o : OpD X (binaryOp op) r r') (h1 : PD X a ta t) (h2 : PD X b tb u) : PD X (.BinOp a op b pos) (tOp r ta tb) (dOp r' t u) := ⟨pe_op o.op h1.pe h2.pe, sim_op h1.sim h2.sim o.sim⟩
theorem d_cmp {op : CmpOp} (o : OpD X (compareOp op) r r') (h1 : PD X a ta t) (h2 : PD X b tb u) (hm : behindInMarks op b = false) : PD X (.Compare a [op] [b] pos) (tOp r ta tb) (dOp r' t u) := ⟨pe_cmpR o.op h1.pe h2.pe hm, sim_op h1.sim h2.sim o.sim⟩
@[simp] def dTest (t : DE) : DT := fun δ S Q => t δ S fun d S1 => ∃ k, d = .bl k ∧ Q k S1
theorem sim_test {K : PySem.W.Frag} (h : SimE K ta t) : SimT K (tTest ta) (dTest t) := fun σ H m S δ Q Q' R e q c =>
  h σ H m S δ _ _ R e q fun d S1 v H1 m1 ⟨k, ek, q1⟩ k1 g1 R1 r1 => by
    subst ek
    cases r1
    exact ⟨k, rfl, c k S1 H1 m1 q1 k1 g1 R1⟩
theorem sim_B {K : PySem.W.Frag} (h : SimE K ta t) : SimT K (tB ta) (dTest t) := sim_test h
theorem dt_cmp {op : CmpOp} (o : OpD X (compareOp op) r r') (h1 : PD X a ta t) (h2 : PD X b tb u) (hm : behindInMarks op b = false) : PTD X (.Compare a [op] [b] pos) (tTest (tOp r ta tb)) (dTest (dOp r' t u)) :=
  ⟨pt_cmpR o.op h1.pe h2.pe hm, sim_test (sim_op h1.sim h2.sim o.sim)⟩
@[simp] def dChain (r' r2' : D → D → Sto → DK → Prop) (t u w : DE) : DE := fun δ S Q => t δ S fun x S1 => u δ S1 fun y S2 => r' x y S2 fun z S3 => ∃ k, z = .bl k ∧ (if k = true then w δ S3 fun z2 S4 => r2' y z2 S4 Q else Q (.bl false) S3)
theorem sim_chain {K : PySem.W.Frag} (h1 : SimE K ta t) (h2 : SimE K tb u) (h0 : SimE K tc w) (h3 : ∀ (H : Hp) (m : Mp) (S : Sto) (x y : D) (vx vy : V) (Q : VK) (Q' : DK), Rel K H m S → Dv K H m vx x → Dv K H m vy y → r' x y S Q' → Cont K H m Q' Q → r vx vy H Q)
    (h4 : ∀ (H : Hp) (m : Mp) (S : Sto) (x y : D) (vx vy : V) (Q : VK) (Q' : DK), Rel K H m S → Dv K H m vx x → Dv K H m vy y → r2' x y S Q' → Cont K H m Q' Q → r2 vx vy H Q) :
    SimE K (tChain r r2 ta tb tc) (dChain r' r2' t u w) := by
  intro σ H m S δ Q Q' R e q c
  refine h1 σ H m S δ _ _ R e q ?_
  intro x S1 vx H1 m1 q1 k1 g1 R1 r1
  refine h2 σ H1 m1 S1 δ _ _ R1 (e.mono k1 g1) q1 ?_
  intro y S2 vy H2 m2 q2 k2 g2 R2 ry
  refine h3 H2 m2 S2 x y vx vy _ _ R2 (Dv.mono k2 g2 _ _ r1) ry q2 ?_
  intro z S3 vz H3 m3 q3 k3 g3 R3 r3
  obtain ⟨k, ek, q3⟩ := q3
  subst ek
  cases r3
  refine ⟨k, rfl, ?_⟩
  have kk := (k1.trans k2).trans k3
  have gg := (g1.trans g2).trans g3
  cases k with
  | false => exact c _ _ _ _ m3 q3 kk gg R3 (.bl false)
  | true =>
    refine h0 σ H3 m3 S3 δ _ _ R3 (e.mono kk gg) q3 ?_
    intro z2 S4 v2 H4 m4 q4 k4 g4 R4 r4
    exact h4 H4 m4 S4 y z2 vy v2 Q Q' R4 (Dv.mono (k3.trans k4) (g3.trans g4) _ _ ry) r4 q4 (c.mono (kk.trans k4) (gg.trans g4))
theorem d_chain {op op' : CmpOp} (o : OpD X (compareOp op) r r') (o' : OpD X (compareOp op') r2 r2') (h1 : PD X a ta t) (h2 : PD X b tb u) (h3 : PD X c tc w) (hm : lastMarks [op, op'] [b, c] = false := by with_unfolding_all rfl) :
    PD X (.Compare a [op, op'] [b, c] pos) (tChain r r2 ta tb tc) (dChain r' r2' t u w) := ⟨pe_chain o.op o'.op h1.pe h2.pe h3.pe hm, sim_chain h1.sim h2.sim h3.sim o.sim o'.sim⟩
theorem dt_chain {op op' : CmpOp} (o : OpD X (compareOp op) r r') (o' : OpD X (compareOp op') r2 r2') (h1 : PD X a ta t) (h2 : PD X b tb u) (h3 : PD X c tc w) (hm : lastMarks [op, op'] [b, c] = false := by with_unfolding_all rfl) :
    PTD X (.Compare a [op, op'] [b, c] pos) (tTest (tChain r r2 ta tb tc)) (dTest (dChain r' r2' t u w)) := ⟨pt_chain o.op o'.op h1.pe h2.pe h3.pe hm, sim_test (sim_chain h1.sim h2.sim h3.sim o.sim o'.sim)⟩
theorem dt_val {e : Expr} (h : PD X e ta t) (he : ∀ whole, isTrue e X.env whole = (do let v ← whole; standAt e.pos; holding [v] (truthy v)) := by intro _; rfl) : PTD X e (tB ta) (dTest t) := ⟨pt_val h.pe he, sim_B h.sim⟩

/-! ### and, or, not -/
variable {tA tB' : TT} {dA dB : DT} {rest : List Expr}
@[simp] def dAnd (t u : DT) : DT := fun δ S Q => t δ S fun k S1 => if k = true then u δ S1 Q else Q false S1
@[simp] def dOr (t u : DT) : DT := fun δ S Q => t δ S fun k S1 => if k = true then Q true S1 else u δ S1 Q
@[simp] def dNot (t : DT) : DT := fun δ S Q => t δ S fun k S1 => Q (!k) S1
theorem dw_and1 (h : PTD X a tA dA) : PWD X (.BoolOp .And [a] pos) tA dA := ⟨pw_and1 h.pe, h.sim⟩
theorem dw_or1 (h : PTD X a tA dA) : PWD X (.BoolOp .Or [a] pos) tA dA := ⟨pw_or1 h.pe, h.sim⟩
theorem dw_and (h : PTD X a tA dA) (h2 : PWD X (.BoolOp .And (b :: rest) pos) tB' dB) : PWD X (.BoolOp .And (a :: b :: rest) pos) (tAnd tA tB') (dAnd dA dB) := ⟨pw_and h.pe h2.pe, fun σ H m S δ Q Q' R e q c =>
  h.sim σ H m S δ _ _ R e q fun k S1 H1 m1 q1 k1 g1 R1 => by
    cases k with
    | true => exact h2.sim σ H1 m1 S1 δ _ _ R1 (e.mono k1 g1) q1 (c.mono k1 g1)
    | false => exact c false S1 H1 m1 q1 k1 g1 R1⟩
theorem dw_or (h : PTD X a tA dA) (h2 : PWD X (.BoolOp .Or (b :: rest) pos) tB' dB) : PWD X (.BoolOp .Or (a :: b :: rest) pos) (tOr tA tB') (dOr dA dB) := ⟨pw_or h.pe h2.pe, fun σ H m S δ Q Q' R e q c =>
  h.sim σ H m S δ _ _ R e q fun k S1 H1 m1 q1 k1 g1 R1 => by
    cases k with
    | false => exact h2.sim σ H1 m1 S1 δ _ _ R1 (e.mono k1 g1) q1 (c.mono k1 g1)
    | true => exact c true S1 H1 m1 q1 k1 g1 R1⟩
theorem dt_w (h : PWD X a tA dA) : PTD X a tA dA := ⟨h.pe.pt, h.sim⟩
theorem dt_not (h : PTD X a tA dA) : PTD X (.UnaryOp .Not a pos) (tNot tA) (dNot dA) := ⟨pt_not h.pe, fun σ H m S δ Q Q' R e q c =>
  h.sim σ H m S δ _ _ R e q fun k S1 H1 m1 q1 k1 g1 R1 => c (!k) S1 H1 m1 q1 k1 g1 R1⟩
@[simp] def dAndV (t u : DE) : DE := fun δ S Q => t δ S fun x S1 => ∃ k, x = .bl k ∧ if k = true then u δ S1 Q else Q (.bl false) S1
@[simp] def dOrV (t u : DE) : DE := fun δ S Q => t δ S fun x S1 => ∃ k, x = .bl k ∧ if k = true then Q (.bl true) S1 else u δ S1 Q
@[simp] def dNotV (t : DE) : DE := fun δ S Q => t δ S fun x S1 => ∃ k, x = .bl k ∧ Q (.bl (!k)) S1
theorem d_one {op} (h : PD X a ta t) : PD X (.BoolOp op [a] pos) ta t := ⟨pe_one h.pe, h.sim⟩
theorem d_and (h : PD X a ta t) (h2 : PD X (.BoolOp .And (b :: rest) pos) tb u) : PD X (.BoolOp .And (a :: b :: rest) pos) (tAndV ta tb) (dAndV t u) := ⟨pe_and h.pe h2.pe, fun σ H m S δ Q Q' R e q c =>
  h.sim σ H m S δ _ _ R e q fun x S1 v H1 m1 ⟨k, ek, q1⟩ k1 g1 R1 r1 => by
    subst ek
    cases r1
    refine ⟨k, rfl, ?_⟩
    cases k with
    | true => exact h2.sim σ H1 m1 S1 δ _ _ R1 (e.mono k1 g1) q1 (c.mono k1 g1)
    | false => exact c _ S1 _ H1 m1 q1 k1 g1 R1 (.bl false)⟩
theorem d_or (h : PD X a ta t) (h2 : PD X (.BoolOp .Or (b :: rest) pos) tb u) : PD X (.BoolOp .Or (a :: b :: rest) pos) (tOrV ta tb) (dOrV t u) := ⟨pe_or h.pe h2.pe, fun σ H m S δ Q Q' R e q c =>
  h.sim σ H m S δ _ _ R e q fun x S1 v H1 m1 ⟨k, ek, q1⟩ k1 g1 R1 r1 => by
    subst ek
    cases r1
    refine ⟨k, rfl, ?_⟩
    cases k with
    | false => exact h2.sim σ H1 m1 S1 δ _ _ R1 (e.mono k1 g1) q1 (c.mono k1 g1)
    | true => exact c _ S1 _ H1 m1 q1 k1 g1 R1 (.bl true)⟩
theorem d_not (h : PD X a ta t) : PD X (.UnaryOp .Not a pos) (tNotV ta) (dNotV t) := ⟨pe_not h.pe, fun σ H m S δ Q Q' R e q c =>
  h.sim σ H m S δ _ _ R e q fun x S1 v H1 m1 ⟨k, ek, q1⟩ k1 g1 R1 r1 => by
    subst ek
    cases r1
    exact ⟨k, rfl, c _ S1 _ H1 m1 q1 k1 g1 R1 (.bl (!k))⟩⟩
@[simp] def dIf (t : DT) (u w : DE) : DE := fun δ S Q => t δ S fun k S1 => if k = true then u δ S1 Q else w δ S1 Q
theorem d_ifExp {c : Expr} (h : PTD X c tA dA) (h1 : PD X a ta t) (h2 : PD X b tb u) : PD X (.IfExp c a b pos) (tIf tA ta tb) (dIf dA t u) := ⟨pe_ifExp h.pe h1.pe h2.pe, fun σ H m S δ Q Q' R e q c =>
  h.sim σ H m S δ _ _ R e q fun k S1 H1 m1 q1 k1 g1 R1 => by
    cases k with
    | true => exact h1.sim σ H1 m1 S1 δ _ _ R1 (e.mono k1 g1) q1 (c.mono k1 g1)
    | false => exact h2.sim σ H1 m1 S1 δ _ _ R1 (e.mono k1 g1) q1 (c.mono k1 g1)⟩
@[simp] def dNeg (t : DE) : DE := fun δ S Q => t δ S fun x S1 => ∃ i, x = .int i ∧ Q (.int (-i)) S1
theorem d_neg (h : PD X a ta t) : PD X (.UnaryOp .USub a pos) (tUn (rU fun i => .int (-i)) ta) (dNeg t) := ⟨pe_un un_neg h.pe, fun σ H m S δ Q Q' R e q c =>
  h.sim σ H m S δ _ _ R e q fun x S1 v H1 m1 ⟨i, ei, q1⟩ k1 g1 R1 r1 => by
    subst ei
    cases r1
    exact ⟨i, rfl, c _ S1 _ H1 m1 q1 k1 g1 R1 (.int (-i))⟩⟩
end
end DL

set_option Elab.async false
set_option linter.all false
set_option maxRecDepth 100000
set_option maxHeartbeats 1000000
namespace DL
open PySem L2 PyProof.Rows

/-! ### a value as plain data -/
mutual
inductive PyOf (S : Sto) : D → PyData → Prop
  | non : PyOf S .non .none
  | bl (b : Bool) : PyOf S (.bl b) (.bool b)
  | int (i : Int) : PyOf S (.int i) (.int i)
  | str (x : Str) : PyOf S (.str x) (.str x)
  | tup {ds : List D} {ps : List PyData} : PyOfA S ds ps → PyOf S (.tup ds) (.tuple ps)
  | lst {i : Nat} {ds : List D} {ps : List PyData} : S[i]? = some (.lst ds) → PyOfA S ds ps → PyOf S (.loc i) (.list ps)
inductive PyOfA (S : Sto) : List D → List PyData → Prop
  | nil : PyOfA S [] []
  | cons {d : D} {ds : List D} {p : PyData} {ps : List PyData} : PyOf S d p → PyOfA S ds ps → PyOfA S (d :: ds) (p :: ps)
end
section
variable {K : PySem.W.Frag} {H : Hp} {m : Mp} {S : Sto}
mutual
theorem dp_of (R : Rel K H m S) : ∀ (p : PyData) (d : D) (v : V), PyOf S d p → Dv K H m v d → Dp K H v p
  | .none, _, _, h, r => by cases h; cases r; exact .non
  | .bool b, _, _, h, r => by cases h; cases r; exact .bl b
  | .int i, _, _, h, r => by cases h; cases r; exact .int i
  | .str x, _, _, h, r => by cases h; cases r; exact .str x
  | .tuple ps, _, _, h, r => by
    cases h with
    | tup ha =>
      cases r with
      | tup hs hr => exact .tup hs (dpA_of R ps _ _ ha hr)
  | .list ps, _, _, h, r => by
    cases h with
    | lst hs ha =>
      obtain ⟨a, vs, rfl, _, hH, hr⟩ := R.lst r hs
      exact .lst (SqL.of hH) (dpA_of R ps _ _ ha hr)
  | .dict _, _, _, h, _ => by cases h
theorem dpA_of (R : Rel K H m S) : ∀ (ps : List PyData) (ds : List D) (vs : List V), PyOfA S ds ps → DvA K H m vs ds → DpAll K H vs ps
  | [], _, _, h, r => by cases h; cases r; exact .nil
  | p :: ps, _, _, h, r => by
    cases h with
    | cons h1 h2 =>
      cases r with
      | cons r1 r2 => exact .cons (dp_of R p _ _ h1 r1) (dpA_of R ps _ _ h2 r2)
end
end

section
variable {X : Cx} {f : Value → Value → Sem Value} {r r2 : R2} {r' r2' : D → D → Sto → DK → Prop}
theorem OpD.or (h : OpD X f r r') (h2 : OpD X f r2 r2') : OpD X f (fun x y H Q => r x y H Q ∨ r2 x y H Q) (fun x y S Q => r' x y S Q ∨ r2' x y S Q) :=
  ⟨h.op.or h2.op, fun H m S x y vx vy Q Q' R rx ry q c => q.elim (fun q => .inl (h.sim H m S x y vx vy Q Q' R rx ry q c)) fun q => .inr (h2.sim H m S x y vx vy Q Q' R rx ry q c)⟩
theorem OpD.imp {s' : D → D → Sto → DK → Prop} (h : OpD X f r r') (i : ∀ x y S Q, s' x y S Q → r' x y S Q) : OpD X f r s' := ⟨h.op, fun H m S x y vx vy Q Q' R rx ry q c => h.sim H m S x y vx vy Q Q' R rx ry (i _ _ _ _ q) c⟩
/-- two ints -/
@[simp] def rdI (C : Int → Int → Prop) (g : Int → Int → D) : D → D → Sto → DK → Prop := fun x y S Q => ∃ i j, x = .int i ∧ y = .int j ∧ C i j ∧ Q (g i j) S
theorem od_I {C : Int → Int → Prop} {g : Int → Int → V} {g' : Int → Int → D} (o : OpR X f (rI C g)) (hg : ∀ i j H m, Dv X.K H m (g i j) (g' i j)) : OpD X f (rI C g) (rdI C g') := ⟨o, fun H m S x y vx vy Q Q' R rx ry q c => by
  obtain ⟨i, j, rfl, rfl, hc, q⟩ := q
  cases rx
  cases ry
  exact ⟨i, j, rfl, rfl, hc, c.same R q (hg i j H m)⟩⟩
@[simp] def rdI0 (g : Int → Int → D) : D → D → Sto → DK → Prop := fun x y S Q => ∃ i j, x = .int i ∧ y = .int j ∧ Q (g i j) S
theorem od_I0 {g : Int → Int → V} {g' : Int → Int → D} (o : OpR X f (rI0 g)) (hg : ∀ i j H m, Dv X.K H m (g i j) (g' i j)) : OpD X f (rI0 g) (rdI0 g') := ⟨o, fun H m S x y vx vy Q Q' R rx ry q c => by
  obtain ⟨i, j, rfl, rfl, q⟩ := q
  cases rx
  cases ry
  exact ⟨i, j, rfl, rfl, c.same R q (hg i j H m)⟩⟩
theorem od_sub : OpD X (binaryOp .Sub) (rI0 fun i j => .int (i - j)) (rdI0 fun i j => .int (i - j)) := od_I0 op_sub fun _ _ _ _ => .int _
theorem od_mod : OpD X (binaryOp .Mod) (rI (fun _ j => 0 < j) fun i j => .int (i % j)) (rdI (fun _ j => 0 < j) fun i j => .int (i % j)) := od_I op_mod fun _ _ _ _ => .int _
theorem od_fdiv : OpD X (binaryOp .FloorDiv) (rI CDiv fun i j => .int (i / j)) (rdI CDiv fun i j => .int (i / j)) := od_I op_fdiv fun _ _ _ _ => .int _
theorem od_pow : OpD X (binaryOp .Pow) (rI CPow fun i j => .int (i ^ j.toNat)) (rdI CPow fun i j => .int (i ^ j.toNat)) := od_I op_pow fun _ _ _ _ => .int _
theorem od_lt : OpD X (compareOp .Lt) (rI0 fun i j => .bl (decide (i < j))) (rdI0 fun i j => .bl (decide (i < j))) := od_I0 op_lt fun _ _ _ _ => .bl _
theorem od_le : OpD X (compareOp .LtE) (rI0 fun i j => .bl (decide (i ≤ j))) (rdI0 fun i j => .bl (decide (i ≤ j))) := od_I0 op_le fun _ _ _ _ => .bl _
theorem od_gt : OpD X (compareOp .Gt) (rI0 fun i j => .bl (decide (j < i))) (rdI0 fun i j => .bl (decide (j < i))) := od_I0 op_gt fun _ _ _ _ => .bl _
theorem od_ge : OpD X (compareOp .GtE) (rI0 fun i j => .bl (decide (j ≤ i))) (rdI0 fun i j => .bl (decide (j ≤ i))) := od_I0 op_ge fun _ _ _ _ => .bl _
/-- + -/
def rdCatT : D → D → Sto → DK → Prop := fun x y S Q => ∃ a b, x = .tup a ∧ y = .tup b ∧ a.length + b.length ≤ 100000 ∧ Q (.tup (a ++ b)) S
theorem od_catT : OpD X (binaryOp .Add) (rCatA X.K) rdCatT := ⟨op_catA, fun H m S x y vx vy Q Q' R rx ry q c => by
  obtain ⟨a, b, rfl, rfl, hl, q⟩ := q
  cases rx with
  | tup s1 d1 =>
    cases ry with
    | tup s2 d2 =>
      refine ⟨_, _, _, _, rfl, rfl, s1, s2, by rw [d1.length, d2.length]; exact small5 hl, fun e => ?_, fun _ e => ?_, fun _ _ => c.newT R (d1.append d2) q⟩
      · subst e
        cases d1
        exact c.same R q (.tup s2 d2)
      · subst e
        cases d2
        rw [List.append_nil] at q
        exact c.same R q (.tup s1 d1)⟩
def rdCatS : D → D → Sto → DK → Prop := fun x y S Q => ∃ a b, x = .str a ∧ y = .str b ∧ a.length + b.length ≤ 100000 ∧ Q (.str (a ++ b)) S
theorem od_catS : OpD X (binaryOp .Add) (fun x y H Q => ∃ i j, x = .str i ∧ y = .str j ∧ i.length + j.length ≤ sizeLine ∧ Q (.str (i ++ j)) H) rdCatS := ⟨op_add_str, fun H m S x y vx vy Q Q' R rx ry q c => by
  obtain ⟨a, b, rfl, rfl, hl, q⟩ := q
  cases rx
  cases ry
  exact ⟨a, b, rfl, rfl, small5 hl, c.same R q (.str _)⟩⟩
def rdCatL : D → D → Sto → DK → Prop := fun x y S Q => ∃ i j a b, x = .loc i ∧ y = .loc j ∧ S[i]? = some (.lst a) ∧ S[j]? = some (.lst b) ∧ a.length + b.length ≤ 100000 ∧ Q (.loc S.length) (S ++ [.lst (a ++ b)])
theorem od_catL : OpD X (binaryOp .Add) rCat rdCatL := ⟨op_cat, fun H m S x y vx vy Q Q' R rx ry q c => by
  obtain ⟨i, j, a, b, rfl, rfl, s1, s2, hl, q⟩ := q
  obtain ⟨p1, vs1, rfl, _, h1, d1⟩ := R.lst rx s1
  obtain ⟨p2, vs2, rfl, _, h2, d2⟩ := R.lst ry s2
  exact ⟨p1, p2, _, _, rfl, rfl, h1, h2, by rw [d1.length, d2.length]; exact small5 hl, c.newL R (d1.append d2) q⟩⟩
@[simp] def rdAdd : D → D → Sto → DK → Prop := fun x y S Q => match x, y with
  | .int i, .int j => Q (.int (i + j)) S
  | .tup a, .tup b => a.length + b.length ≤ 100000 ∧ Q (.tup (a ++ b)) S
  | .str a, .str b => a.length + b.length ≤ 100000 ∧ Q (.str (a ++ b)) S
  | .loc i, .loc j => ∃ a b, S[i]? = some (.lst a) ∧ S[j]? = some (.lst b) ∧ a.length + b.length ≤ 100000 ∧ Q (.loc S.length) (S ++ [.lst (a ++ b)])
  | _, _ => False
def vStrCat : R2 := fun x y H Q => ∃ i j, x = .str i ∧ y = .str j ∧ i.length + j.length ≤ sizeLine ∧ Q (.str (i ++ j)) H
def vAdd (K : PySem.W.Frag) : R2 := fun x y H Q => rI0 (fun i j => .int (i + j)) x y H Q ∨ (rCatA K x y H Q ∨ (vStrCat x y H Q ∨ rCat x y H Q))
theorem od_add : OpD X (binaryOp .Add) (vAdd X.K) rdAdd := ((od_I0 (g' := fun i j => .int (i + j)) op_add fun _ _ _ _ => .int _).or (od_catT.or (od_catS.or od_catL))).imp fun x y S Q q => by
  unfold rdAdd at q
  split at q
  · exact .inl ⟨_, _, rfl, rfl, q⟩
  · exact .inr (.inl ⟨_, _, rfl, rfl, q⟩)
  · exact .inr (.inr (.inl ⟨_, _, rfl, rfl, q⟩))
  · obtain ⟨a, b, q⟩ := q
    exact .inr (.inr (.inr ⟨_, _, a, b, rfl, rfl, q⟩))
  · exact q.elim
/-- * -/
def rdRepL : D → D → Sto → DK → Prop := fun x y S Q => ∃ i k a, x = .loc i ∧ y = .int k ∧ S[i]? = some (.lst a) ∧ -1000 ≤ k ∧ k ≤ 1000 ∧ a.length ≤ 100 ∧ Q (.loc S.length) (S ++ [.lst (List.replicate k.toNat a).flatten])
theorem od_repL : OpD X (binaryOp .Mult) rRep rdRepL := ⟨op_rep, fun H m S x y vx vy Q Q' R rx ry q c => by
  obtain ⟨i, k, a, rfl, rfl, s1, k1, k2, hl, q⟩ := q
  obtain ⟨p1, vs1, rfl, _, h1, d1⟩ := R.lst rx s1
  cases ry
  refine ⟨p1, k, _, rfl, rfl, h1, by omega, by omega, ?_, c.newL R (d1.rep _) q⟩
  rw [d1.length]
  have a1 : a.length * k.toNat ≤ 100 * 1000 := Nat.mul_le_mul hl (by omega)
  exact small5 a1⟩

/-- tuple * 0, tuple * 1 -/
theorem tuple_mul1 (l : Addr) (items : Array Value) (n : Nat) (dd : Option Addr) (sl : Array (Option Value)) (x : Int) (u : Tok) (c0 : (decide (x < -(2 ^ 63)) || decide (x ≥ 2 ^ 63)) = false) (c1 : (items.isEmpty || x == 1) = true) :
    Meets (Builtin.«tuple.__mul__» ⟨[.ref l, .int x u], []⟩) (fun _ R s => s.heap.get? l = some { cls := .type "tuple", dict := dd, data := .seq items n, slots := sl } ∧ R (.ok (.ret (Value.ref l))) s) :=
  .of_wp fun prog w A R s h => by
    obtain ⟨hp, g, d, tk, os⟩ := s
    obtain ⟨hl, h⟩ := h
    have f1 := AutoSeq1.idx_int
    wp_walk using wpAny_loadPart' hl
    refine wpAny_ite_false (decide_eq_false (by rw [c0]; exact Bool.false_ne_true)) ?_
    wp_walk using wpAny_loadPart' hl
    exact ⟨_, rfl, h⟩
theorem tuple_mul0 (l : Addr) (items : Array Value) (n : Nat) (dd : Option Addr) (sl : Array (Option Value)) (x : Int) (u : Tok) (c0 : (decide (x < -(2 ^ 63)) || decide (x ≥ 2 ^ 63)) = false) (c1 : (items.isEmpty || x == 1) = false) (c2 : (decide (x ≤ 0) || items.isEmpty) = true) :
    Meets (Builtin.«tuple.__mul__» ⟨[.ref l, .int x u], []⟩) (fun _ R s => s.heap.get? l = some { cls := .type "tuple", dict := dd, data := .seq items n, slots := sl } ∧ R (.ok (.ret (Value.ref s.heap.objs.size))) { s with heap := s.heap.push { cls := Value.type "tuple", data := Data.seq #[] }, toks := s.toks }) :=
  .of_wp fun prog w A R s h => by
    obtain ⟨hp, g, d, tk, os⟩ := s
    obtain ⟨hl, h⟩ := h
    have f1 := AutoSeq1.idx_int
    wp_walk using wpAny_loadPart' hl
    repeat (first
      | (refine wpAny_ite_false (decide_eq_false (by rw [c0]; exact Bool.false_ne_true)) ?_; wp_walk using wpAny_loadPart' hl)
      | (refine wpAny_ite_false (decide_eq_false (by rw [c1]; exact Bool.false_ne_true)) ?_; wp_walk using wpAny_loadPart' hl)
      | (refine wpAny_ite_true (decide_eq_true c2) ?_; wp_walk using wpAny_loadPart' hl)
      | (refine wpAny_ite_false (decide_eq_false (by decide)) ?_; wp_walk using wpAny_loadPart' hl))
    exact ⟨_, rfl, h⟩
/-- tuple * int, any count -/
def rRepA (K : PySem.W.Frag) : R2 := fun x y H Q => ∃ l k xs, x = .ref l ∧ y = .int k ∧ SqT K H l xs ∧ xs ≠ [] ∧ 0 ≤ k ∧ k ≤ 2000 ∧ xs.length ≤ 40 ∧
  (k = 1 → Q (.ref l) H) ∧ (k ≠ 1 → ∀ p, H p = none → Q (.ref p) (upd H p (.tup (List.replicate k.toNat xs).flatten)))
theorem op_repA : OpR X (binaryOp .Mult) (rRepA X.K) := by
  intro pins s σ H x y v u Q I rx ry h
  obtain ⟨l, k, xs, rfl, rfl, hT, hne, h1, h2, hz, q1, q2⟩ := h
  cases rx
  obtain ⟨t, rfl⟩ := ry
  obtain ⟨its, r, ⟨⟨cls, dd, data, sl⟩, ho, hc, n, hd⟩, hs⟩ := I.tuple hT
  simp only at hc hd
  subst hc hd
  have hle : its.length = xs.length := r.length.symm
  have hpos : 0 < xs.length := List.length_pos_iff.mpr hne
  have hi : its.toArray.isEmpty = false := by
    cases its with
    | nil => rw [← hle] at hpos; exact absurd hpos (Nat.lt_irrefl 0)
    | cons a b => rfl
  have c0 : (decide (k < -(2 ^ 63)) || decide (k ≥ 2 ^ 63)) = false := by
    rw [decide_eq_false (by omega), decide_eq_false (by omega)] <;> rfl
  refine wpAny_binaryOp_repeat_ref (T := "tuple") (U := "int") (by decide) ⟨_, ho, rfl⟩ (fun s' => typeIs_int s' k t) noFill_tuple_mul F.fills_int_mul
    F.slot_int_rmul repeat_tuple F.slot_int_index.lookup (call_meets F.slot_int_rmul (typeIs_int s k t) F.entry_int_rmul (F.args_int_rmul_2 _ _)
      (int_rmul_tuple k t l its.toArray n dd sl) ⟨ho, rfl, ⟨_, ho, rfl⟩, ?_⟩)
  by_cases k1 : k = 1
  · refine call_meets F.slot_tuple_mul ⟨_, ho, rfl⟩ F.entry_tuple_mul (F.args_tuple_mul_2 _ _) (tuple_mul1 l its.toArray n dd sl k t c0 (by rw [k1]; simp)) ⟨ho, ?_⟩
    exact ⟨.ref l, H, I, rfl, q1 k1⟩
  · have c1 : (its.toArray.isEmpty || k == 1) = false := by rw [hi, Bool.false_or]; exact beq_eq_false_iff_ne.mpr k1
    by_cases k0 : k = 0
    · refine call_meets F.slot_tuple_mul ⟨_, ho, rfl⟩ F.entry_tuple_mul (F.args_tuple_mul_2 _ _) (tuple_mul0 l its.toArray n dd sl k t c0 c1 (by rw [k0]; simp)) ⟨ho, ?_⟩
      refine ⟨.ref s.heap.objs.size, _, I.laid (t' := s.toks) (o := .tup (List.replicate k.toNat xs).flatten) (fun b ob q => Heap.get?_push_of_some _ q) (Nat.le_refl _) ?_, rfl, q2 k1 _ (I.hok.fresh (Nat.le_refl _))⟩
      subst k0
      exact ⟨Nat.zero_le _, [], .nil, IsTup.new _ _⟩
    · have hm : k.toNat * xs.length ≤ 2000 * 40 := Nat.mul_le_mul (by omega) hz
      have flen : (List.replicate k.toNat its).flatten.length ≤ sizeLine := by
        rw [PyProof.Rows.lm_len_rep_flat, hle]
        exact small5 (by omega)
      have hm2 : ((its.toArray.size : Nat) : Int) * k ≤ 80000 := by
        rw [List.size_toArray, hle, Int.mul_comm]
        have e : k = ((k.toNat : Nat) : Int) := by omega
        have h3 := Int.ofNat_le.mpr (show k.toNat * xs.length ≤ 80000 from hm)
        rw [Int.natCast_mul] at h3
        rw [e]
        exact h3
      have c2 : (decide (k ≤ 0) || its.toArray.isEmpty) = false := by
        rw [hi, Bool.or_false]
        exact decide_eq_false (by omega)
      have c4 : Builtin.Tuple.tupleTooMany (((its.toArray.size : Nat) : Int) * k) = false := by
        unfold Builtin.Tuple.tupleTooMany
        rw [sizeLine_eq]
        exact decide_eq_false (by omega)
      refine call_meets F.slot_tuple_mul ⟨_, ho, rfl⟩ F.entry_tuple_mul (F.args_tuple_mul_2 _ _)
        (tuple_mulW l its.toArray n dd sl k t c0 c1 c2 (by omega) c4 (by rw [size_rep, List.size_toArray]; exact flen)) ⟨ho, ?_⟩
      rw [size_rep]
      refine ⟨.ref s.heap.objs.size, _, I.laid (t' := s.toks) (o := .tup (List.replicate k.toNat xs).flatten) (fun b ob q => Heap.get?_push_of_some _ q) (Nat.le_refl _) ?_, rfl, q2 k1 _ (I.hok.fresh (Nat.le_refl _))⟩
      refine ⟨?_, _, r.rep k.toNat, IsTup.new _ _⟩
      rw [PyProof.Rows.lm_len_rep_flat]
      exact small5 (by omega)
def rdRepT : D → D → Sto → DK → Prop := fun x y S Q => ∃ a k, x = .tup a ∧ y = .int k ∧ a ≠ [] ∧ 0 ≤ k ∧ k ≤ 2000 ∧ a.length ≤ 40 ∧ Q (.tup (List.replicate k.toNat a).flatten) S
theorem od_repT : OpD X (binaryOp .Mult) (rRepA X.K) rdRepT := ⟨op_repA, fun H m S x y vx vy Q Q' R rx ry q c => by
  obtain ⟨a, k, rfl, rfl, ha, k0, k1, hl, q⟩ := q
  cases ry
  cases rx with
  | tup s1 d1 =>
    refine ⟨_, k, _, rfl, rfl, s1, fun e => ha (by subst e; cases d1; rfl), k0, k1, by rw [d1.length]; exact hl, fun e => ?_, fun _ => c.newT R (d1.rep _) q⟩
    subst e
    have e2 : (List.replicate (1 : Int).toNat a).flatten = a := by simp
    rw [e2] at q
    exact c.same R q (.tup s1 d1)⟩
@[simp] def rdMul : D → D → Sto → DK → Prop := fun x y S Q => match x, y with
  | .int i, .int j => CMul i j ∧ Q (.int (i * j)) S
  | .tup a, .int k => a ≠ [] ∧ 0 ≤ k ∧ k ≤ 2000 ∧ a.length ≤ 40 ∧ Q (.tup (List.replicate k.toNat a).flatten) S
  | .loc i, .int k => ∃ a, S[i]? = some (.lst a) ∧ -1000 ≤ k ∧ k ≤ 1000 ∧ a.length ≤ 100 ∧ Q (.loc S.length) (S ++ [.lst (List.replicate k.toNat a).flatten])
  | _, _ => False
def vMul (K : PySem.W.Frag) : R2 := fun x y H Q => rI CMul (fun i j => .int (i * j)) x y H Q ∨ (rRepA K x y H Q ∨ rRep x y H Q)
theorem od_mul : OpD X (binaryOp .Mult) (vMul X.K) rdMul := ((od_I (g' := fun i j => .int (i * j)) op_mul fun _ _ _ _ => .int _).or (od_repT.or od_repL)).imp fun x y S Q q => by
  unfold rdMul at q
  split at q
  · exact .inl ⟨_, _, rfl, rfl, q⟩
  · exact .inr (.inl ⟨_, _, rfl, rfl, q⟩)
  · obtain ⟨a, q⟩ := q
    exact .inr (.inr ⟨_, _, a, rfl, rfl, q⟩)
  · exact q.elim
/-- ==, != -/
@[simp] def scD : D → D → Option Bool
  | .int i, .int j => some (decide (i = j))
  | .str i, .str j => some (decide (i = j))
  | .non, .non => some true
  | .non, .str _ => some false | .non, .int _ => some false | .str _, .non => some false | .int _, .non => some false
  | .int _, .str _ => some false | .str _, .int _ => some false | .bl _, .str _ => some false
  | _, _ => none
theorem scD_ok {K : PySem.W.Frag} {H : Hp} {m : Mp} {x y : D} {vx vy : V} {b : Bool} (h : scD x y = some b) (rx : Dv K H m vx x) (ry : Dv K H m vy y) : scal vx vy = true ∧ decide (vx = vy) = b := by
  unfold scD at h
  split at h <;> first | (cases h; cases rx; cases ry; exact ⟨rfl, by simp⟩) | cases h
def rdEqP (f : Bool → Bool) : D → D → Sto → DK → Prop := fun x y S Q => ∃ p q, PyOf S x p ∧ PyOf S y q ∧ SeqAt.shaped p = true ∧ SeqAt.shaped q = true ∧ Q (.bl (f (PyData.eqv p q))) S
@[simp] def rdEq (f : Bool → Bool) : D → D → Sto → DK → Prop := fun x y S Q => match scD x y with
  | some b => Q (.bl (f b)) S
  | none => rdEqP f x y S Q
def vEq (K : PySem.W.Frag) : R2 := fun x y H Q => rEq x y H Q ∨ rEqD K x y H Q
def vNe (K : PySem.W.Frag) : R2 := fun x y H Q => rNe x y H Q ∨ rNeD K x y H Q
theorem od_eq (hu : X.A.units + 64 < cLine) : OpD X (compareOp .Eq) (vEq X.K) (rdEq id) := ⟨op_eq.or (op_eqD hu), fun H m S x y vx vy Q Q' R rx ry q c => by
  unfold rdEq at q
  split at q
  · rename_i b hb
    obtain ⟨h1, h2⟩ := scD_ok hb rx ry
    exact .inl ⟨h1, by rw [h2]; exact c.same R q (.bl b)⟩
  · obtain ⟨p, p2, h1, h2, h3, h4, q⟩ := q
    exact .inr ⟨p, p2, dp_of R p x vx h1 rx, dp_of R p2 y vy h2 ry, h3, h4, c.same R q (.bl _)⟩⟩
theorem od_ne (hu : X.A.units + 64 < cLine) : OpD X (compareOp .NotEq) (vNe X.K) (rdEq not) := ⟨op_ne.or (op_neD hu), fun H m S x y vx vy Q Q' R rx ry q c => by
  unfold rdEq at q
  split at q
  · rename_i b hb
    obtain ⟨h1, h2⟩ := scD_ok hb rx ry
    exact .inl ⟨h1, by rw [h2]; exact c.same R q (.bl _)⟩
  · obtain ⟨p, p2, h1, h2, h3, h4, q⟩ := q
    exact .inr ⟨p, p2, dp_of R p x vx h1 rx, dp_of R p2 y vy h2 ry, h3, h4, c.same R q (.bl _)⟩⟩
/-- in, not in -/
def rInT (K : PySem.W.Frag) (f : Bool → Bool) : R2 := fun x y H Q => ∃ d ds, Dp K H x d ∧ Dp K H y (.tuple ds) ∧ SeqAt.shaped d = true ∧ SeqAt.shaped (.tuple ds) = true ∧ Q (.bl (f (ds.any fun z => PyData.eqv z d))) H
theorem op_inT (hu : X.A.units + 65 < cLine) : OpR X (compareOp .In) (rInT X.K id) := by
  intro pins s σ H x y v u Q I rx ry h
  obtain ⟨d, ds, hd, he, sd, se, q⟩ := h
  obtain ⟨as, r1⟩ := Dp.reads I d x v hd rx
  obtain ⟨bs, r2⟩ := Dp.reads I (.tuple ds) y u he ry
  have e2 : PyData.canLayAll0 ds = true := SeqAt.canLay_of_shaped se
  exact SeqAt.in_tuple_reads r2 r1 e2 (SeqAt.canLay_of_shaped sd) (room_in_shaped sd hu) ⟨.bl _, H, I, rfl, q⟩
theorem op_notInT (hu : X.A.units + 65 < cLine) : OpR X (compareOp .NotIn) (rInT X.K not) := by
  intro pins s σ H x y v u Q I rx ry h
  obtain ⟨d, ds, hd, he, sd, se, q⟩ := h
  obtain ⟨as, r1⟩ := Dp.reads I d x v hd rx
  obtain ⟨bs, r2⟩ := Dp.reads I (.tuple ds) y u he ry
  have e2 : PyData.canLayAll0 ds = true := SeqAt.canLay_of_shaped se
  exact SeqAt.notIn_tuple_reads r2 r1 e2 (SeqAt.canLay_of_shaped sd) (room_in_shaped sd hu) ⟨.bl _, H, I, rfl, q⟩
def rdIn (f : Bool → Bool) : D → D → Sto → DK → Prop := fun x y S Q => match y with
  | .str z => ∃ c : Nat, x = .str ⟨#[c]⟩ ∧ Q (.bl (f (decide (c ∈ z.cps.toList)))) S
  | .tup ds => ∃ p ps, PyOf S x p ∧ PyOfA S ds ps ∧ SeqAt.shaped p = true ∧ SeqAt.shaped (.tuple ps) = true ∧ Q (.bl (f (ps.any fun z => PyData.eqv z p))) S
  | .loc i => ∃ p ps, PyOf S x p ∧ PyOf S (.loc i) (.list ps) ∧ SeqAt.shaped p = true ∧ SeqAt.shaped (.list ps) = true ∧ Q (.bl (f (ps.any fun z => PyData.eqv z p))) S
  | _ => False
def vIn (K : PySem.W.Frag) : R2 := fun x y H Q => rInS x y H Q ∨ (rInT K id x y H Q ∨ rInD K x y H Q)
def vNotIn (K : PySem.W.Frag) : R2 := fun x y H Q => rNotInS x y H Q ∨ (rInT K not x y H Q ∨ rNotInD K x y H Q)
theorem od_in (hu : X.A.units + 65 < cLine) : OpD X (compareOp .In) (vIn X.K) (rdIn id) := ⟨op_inS.or ((op_inT hu).or (op_inD hu)), fun H m S x y vx vy Q Q' R rx ry q c => by
  cases y with
  | str z =>
    obtain ⟨k, rfl, q⟩ := q
    cases rx
    cases ry
    exact .inl ⟨k, z, rfl, rfl, c.same R q (.bl _)⟩
  | tup ds =>
    obtain ⟨p, ps, h1, h2, h3, h4, q⟩ := q
    exact .inr (.inl ⟨p, ps, dp_of R p x vx h1 rx, dp_of R _ _ vy (.tup h2) ry, h3, h4, c.same R q (.bl _)⟩)
  | loc i =>
    obtain ⟨p, ps, h1, h2, h3, h4, q⟩ := q
    exact .inr (.inr ⟨p, ps, dp_of R p x vx h1 rx, dp_of R _ _ vy h2 ry, h3, h4, c.same R q (.bl _)⟩)
  | _ => exact (q : False).elim⟩
theorem od_notin (hu : X.A.units + 65 < cLine) : OpD X (compareOp .NotIn) (vNotIn X.K) (rdIn not) := ⟨op_notInS.or ((op_notInT hu).or (op_notInD hu)), fun H m S x y vx vy Q Q' R rx ry q c => by
  cases y with
  | str z =>
    obtain ⟨k, rfl, q⟩ := q
    cases rx
    cases ry
    exact .inl ⟨k, z, rfl, rfl, c.same R q (.bl _)⟩
  | tup ds =>
    obtain ⟨p, ps, h1, h2, h3, h4, q⟩ := q
    exact .inr (.inl ⟨p, ps, dp_of R p x vx h1 rx, dp_of R _ _ vy (.tup h2) ry, h3, h4, c.same R q (.bl _)⟩)
  | loc i =>
    obtain ⟨p, ps, h1, h2, h3, h4, q⟩ := q
    exact .inr (.inr ⟨p, ps, dp_of R p x vx h1 rx, dp_of R _ _ vy h2 ry, h3, h4, c.same R q (.bl _)⟩)
  | _ => exact (q : False).elim⟩
/-- is None -/
@[simp] def isNonD : D → Bool | .non => true | _ => false
@[simp] def rdIsN (f : Bool → Bool) : D → D → Sto → DK → Prop := fun x y S Q => y = .non ∧ Q (.bl (f (isNonD x))) S
theorem non_dec {K : PySem.W.Frag} {H : Hp} {m : Mp} {x : D} {v : V} (r : Dv K H m v x) : decide (v = .non) = isNonD x := by
  cases r <;> simp [isNonD]
theorem od_is : OpD X (compareOp .Is) rIsN (rdIsN id) := ⟨op_isN, fun H m S x y vx vy Q Q' R rx ry q c => by
  obtain ⟨rfl, q⟩ := q
  cases ry
  exact ⟨rfl, by rw [non_dec rx]; exact c.same R q (.bl _)⟩⟩
theorem od_isnot : OpD X (compareOp .IsNot) rNotN (rdIsN not) := ⟨op_notN, fun H m S x y vx vy Q Q' R rx ry q c => by
  obtain ⟨rfl, q⟩ := q
  cases ry
  exact ⟨rfl, by rw [non_dec rx]; exact c.same R q (.bl _)⟩⟩
end
end DL

set_option Elab.async false
set_option linter.all false
set_option maxRecDepth 100000
set_option maxHeartbeats 1000000
namespace DL
open PySem L2 PyProof.Rows

/-! ### items, slices -/
section
variable {X : Cx} {pos : Pos} {a b : Expr} {ta tb : TE} {t u : DE}
@[simp] def rdIx : D → D → Sto → DK → Prop := fun x y S Q => match x, y with
  | .tup ds, .int i => ∃ d, atI ds i = some d ∧ Q d S
  | .loc l, .int i => ∃ ds d, S[l]? = some (.lst ds) ∧ atI ds i = some d ∧ Q d S
  | .str z, .int i => ∃ c, z.length ≤ 100000 ∧ atI z.cps.toList i = some c ∧ Q (.str ⟨#[c]⟩) S
  | _, _ => False
theorem sim_ix {K : PySem.W.Frag} (H : Hp) (m : Mp) (S : Sto) (x y : D) (vx vy : V) (Q : VK) (Q' : DK) (R : Rel K H m S) (rx : Dv K H m vx x) (ry : Dv K H m vy y) (q : rdIx x y S Q') (c : Cont K H m Q' Q) : rIx K vx vy H Q := by
  unfold rdIx at q
  split at q
  · obtain ⟨d, h, q⟩ := q
    cases ry
    cases rx with
    | tup s1 d1 =>
      obtain ⟨v, h1, h2⟩ := d1.atI h
      exact .inr (.inl ⟨_, _, _, v, rfl, rfl, s1, h1, c.same R q h2⟩)
  · obtain ⟨ds, d, s1, h, q⟩ := q
    cases ry
    obtain ⟨p1, vs1, rfl, _, h1, d1⟩ := R.lst rx s1
    obtain ⟨v, h2, h3⟩ := d1.atI h
    exact .inl ⟨_, _, _, v, rfl, rfl, SqL.of h1, h2, c.same R q h3⟩
  · obtain ⟨k, hl, h, q⟩ := q
    cases ry
    cases rx
    exact .inr (.inr ⟨_, _, k, rfl, rfl, small5 hl, h, c.same R q (.str _)⟩)
  · exact q.elim
theorem d_ix (h1 : PD X a ta t) (h2 : PD X b tb u) (hs : PlainIx b) : PD X (.Subscript a b pos) (tOp (rIx X.K) ta tb) (dOp rdIx t u) := ⟨pe_ix ix_seq h1.pe h2.pe hs, sim_op h1.sim h2.sim sim_ix⟩
abbrev DO := DEnv → Sto → (Option Int → Sto → Prop) → Prop
def SimO (K : PySem.W.Frag) (te : TO) (t : DO) : Prop := ∀ (σ : L2.St) (H : Hp) (m : Mp) (S : Sto) (δ : DEnv) (Q : Option Int → Hp → Prop) (Q' : Option Int → Sto → Prop),
  Rel K H m S → EnvR K H m σ δ → t δ S Q' → (∀ o S' H' m', Q' o S' → Kp H H' → Gr m m' → Rel K H' m' S' → Q o H') → te σ H Q
structure POD (X : Cx) (e : Option Expr) (te : TO) (t : DO) : Prop where
  pe : PO X e te
  sim : SimO X.K te t
@[simp] def dNoPart : DO := fun _ S Q => Q none S
@[simp] def dPart (t : DE) : DO := fun δ S Q => t δ S fun x S1 => ∃ i, x = .int i ∧ Q (some i) S1
theorem do_none : POD X none tNoPart dNoPart := ⟨po_none, fun σ H m S δ Q Q' R e q c => c none S H m q (.refl H) (.refl m) R⟩
theorem do_some (h : PD X a ta t) : POD X (some a) (tPart ta) (dPart t) := ⟨po_some h.pe, fun σ H m S δ Q Q' R e q c =>
  h.sim σ H m S δ _ _ R e q fun d S1 v H1 m1 ⟨i, ei, q1⟩ k1 g1 R1 r1 => by
    subst ei
    cases r1
    exact ⟨i, rfl, c _ S1 H1 m1 q1 k1 g1 R1⟩⟩
def cutD (ds : List D) (lo hi : Option Int) : List D := (ds.drop (HT.sIx ds.length 0 lo)).take (HT.sIx ds.length ds.length hi - HT.sIx ds.length 0 lo)
@[simp] def rdSl : D → Option Int → Option Int → Sto → DK → Prop := fun x lo hi S Q => match x with
  | .tup ds => Q (.tup (cutD ds lo hi)) S
  | .loc i => ∃ ds, S[i]? = some (.lst ds) ∧ Q (.loc S.length) (S ++ [.lst (cutD ds lo hi)])
  | .scr ns => Q (.loc S.length) (S ++ [.lst (cutD (ns.map .int) lo hi)])
  | _ => False
def vSl (K : PySem.W.Frag) : V → Option Int → Option Int → Hp → VK → Prop := fun x lo hi H Q => rSlA K x lo hi H Q ∨ rSlL K x lo hi H Q
@[simp] def dSl (t : DE) (l u : DO) : DE := fun δ S Q => t δ S fun x S1 => l δ S1 fun lo S2 => u δ S2 fun hi S3 => rdSl x lo hi S3 Q
theorem sim_sl {K : PySem.W.Frag} (H : Hp) (m : Mp) (S : Sto) (x : D) (lo hi : Option Int) (vx : V) (Q : VK) (Q' : DK) (R : Rel K H m S) (rx : Dv K H m vx x) (q : rdSl x lo hi S Q') (c : Cont K H m Q' Q) : vSl K vx lo hi H Q := by
  unfold rdSl at q
  split at q
  · cases rx with
    | tup s1 d1 =>
      refine .inl ⟨_, _, rfl, s1, fun ⟨e1, e2⟩ => ?_, fun _ => c.newT R (d1.cut lo hi) q⟩
      rw [d1.length] at e1 e2
      unfold cutD at q
      rw [e1, e2, List.drop_zero, Nat.sub_zero, List.take_length] at q
      exact c.same R q (.tup s1 d1)
  · obtain ⟨ds, s1, q⟩ := q
    obtain ⟨p1, vs1, rfl, _, h1, d1⟩ := R.lst rx s1
    exact .inr ⟨_, _, rfl, SqL.of h1, c.newL R (d1.cut lo hi) q⟩
  · cases rx with
    | scr s1 => exact .inr ⟨_, _, rfl, s1.sqL, c.newL R ((DvA.ints _).cut lo hi) q⟩
  · exact q.elim
theorem d_slice {lo hi : Option Expr} {tl th : TO} {dl dh : DO} {p2 : Pos} (h : PD X a ta t) (hl : POD X lo tl dl) (hh : POD X hi th dh) :
    PD X (.Subscript a (.Slice lo hi none p2) pos) (tSl (vSl X.K) ta tl th) (dSl t dl dh) := ⟨pe_slice (sl_tupA.or sl_list) h.pe hl.pe hh.pe, fun σ H m S δ Q Q' R e q c =>
  h.sim σ H m S δ _ _ R e q fun x S1 v H1 m1 q1 k1 g1 R1 r1 =>
    hl.sim σ H1 m1 S1 δ _ _ R1 (e.mono k1 g1) q1 fun o S2 H2 m2 q2 k2 g2 R2 =>
      hh.sim σ H2 m2 S2 δ _ _ R2 (e.mono (k1.trans k2) (g1.trans g2)) q2 fun o2 S3 H3 m3 q3 k3 g3 R3 =>
        sim_sl H3 m3 S3 x o o2 v Q Q' R3 (Dv.mono (k2.trans k3) (g2.trans g3) _ _ r1) q3 (c.mono ((k1.trans k2).trans k3) ((g1.trans g2).trans g3))⟩
@[simp] def dRevL (t : DE) : DE := fun δ S Q => t δ S fun x S1 => ∃ i ds, x = .loc i ∧ S1[i]? = some (.lst ds) ∧ Q (.loc S1.length) (S1 ++ [.lst ds.reverse])
theorem d_revL {k : Nat} {p1 p2 p3 : Pos} (h : PD X a ta t) : PD X (.Subscript a (.Slice none none (some (.UnaryOp .USub (.Constant (.int 1) k p1) p2)) p3) pos) (tRevL X.K ta) (dRevL t) := ⟨pe_revL h.pe, fun σ H m S δ Q Q' R e q c =>
  h.sim σ H m S δ _ _ R e q fun x S1 v H1 m1 ⟨i, ds, ei, s1, q1⟩ k1 g1 R1 r1 => by
    subst ei
    obtain ⟨p1, vs1, rfl, _, h1, d1⟩ := R1.lst r1 s1
    exact ⟨p1, vs1, rfl, SqL.of h1, (c.mono k1 g1).newL R1 d1.reverse q1⟩⟩
end

/-! ### calls of built-ins -/
section
variable {X : Cx} {pos p : Pos} {e : Expr} {es : List Expr} {ta : TA} {u : DA} {r r2 : List V → Hp → VK → Prop} {r' r2' : List D → Sto → DK → Prop} {x : Str} {f : Value}
theorem CallD.or (h : CallD X f r r') (h2 : CallD X f r2 r2') : CallD X f (fun xs H Q => r xs H Q ∨ r2 xs H Q) (fun xs S Q => r' xs S Q ∨ r2' xs S Q) :=
  ⟨h.op.or h2.op, fun H m S xs vs Q Q' R rx q c => q.elim (fun q => .inl (h.sim H m S xs vs Q Q' R rx q c)) fun q => .inr (h2.sim H m S xs vs Q Q' R rx q c)⟩
@[simp] def dCB (r' : List D → Sto → DK → Prop) (u : DA) : DE := fun δ S Q => u δ S fun ds S1 => r' ds S1 Q
theorem sim_cb {K : PySem.W.Frag} (h : SimA K ta u) (h2 : ∀ (H : Hp) (m : Mp) (S : Sto) (xs : List D) (vs : List V) (Q : VK) (Q' : DK), Rel K H m S → DvA K H m vs xs → r' xs S Q' → Cont K H m Q' Q → r vs H Q) : SimE K (tCB r ta) (dCB r' u) := fun σ H m S δ Q Q' R e q c =>
  h σ H m S δ _ _ R e q fun ds S1 vs H1 m1 q1 k1 g1 R1 r1 => h2 H1 m1 S1 ds vs Q Q' R1 r1 q1 (c.mono k1 g1)
theorem d_callB {id : String} (c : CallD X (.builtin id) r r') (hg : Gl X x) (hm : X.mg x = none) (hv : bootBuiltins x = some (.builtin id)) (ha : PAD X (e :: es) ta u) (hn : x ≠ "__name__" := by decide) (hdb : (x == ("__debug__" : Str)) = false := by decide)
    (he : starEach (e :: es) X.env = (false, eval e X.env) :: starEach es X.env := by rfl) (hpl : (backTo pos (starEach es X.env)).any (·.1) = false := by rfl) : PD X (.Call (.Name x p) (e :: es) [] pos) (tCB r ta) (dCB r' u) :=
  ⟨pe_callB c.op hg hm hv ha.pe hn hdb he hpl, sim_cb ha.sim c.sim⟩
theorem d_callTy {T : String} (c : CallD X (.type T) r r') (hg : Gl X x) (hm : X.mg x = none) (hv : bootBuiltins x = some (.type T)) (ha : PAD X (e :: es) ta u) (hn : x ≠ "__name__" := by decide) (hdb : (x == ("__debug__" : Str)) = false := by decide)
    (he : starEach (e :: es) X.env = (false, eval e X.env) :: starEach es X.env := by rfl) (hpl : (backTo pos (starEach es X.env)).any (·.1) = false := by rfl) : PD X (.Call (.Name x p) (e :: es) [] pos) (tCB r ta) (dCB r' u) :=
  ⟨pe_callTy c.op hg hm hv ha.pe hn hdb he hpl, sim_cb ha.sim c.sim⟩
/-- len -/
@[simp] def rdLen : List D → Sto → DK → Prop := fun xs S Q => match xs with
  | [.tup ds] => Q (.int ds.length) S
  | [.str z] => z.length ≤ 100000 ∧ Q (.int z.length) S
  | [.loc i] => ∃ ds, S[i]? = some (.lst ds) ∧ Q (.int ds.length) S
  | _ => False
def vLen (K : PySem.W.Frag) : List V → Hp → VK → Prop := fun xs H Q => (∃ p ys, xs = [.ref p] ∧ (SqL K H p ys ∨ SqT K H p ys) ∧ Q (.int ys.length) H) ∨ ∃ z, xs = [.str z] ∧ z.length ≤ sizeLine ∧ Q (.int z.length) H
theorem cd_len : CallD X (.builtin "len") (vLen X.K) rdLen := ⟨call_len_seq.or call_len_str, fun H m S xs vs Q Q' R rx q c => by
  unfold rdLen at q
  split at q
  · cases rx with
    | cons r1 r2 =>
      cases r2
      cases r1 with
      | tup s1 d1 => exact .inl ⟨_, _, rfl, .inr s1, by rw [d1.length]; exact c.same R q (.int _)⟩
  · obtain ⟨hz, q⟩ := q
    cases rx with
    | cons r1 r2 =>
      cases r2
      cases r1
      exact .inr ⟨_, rfl, small5 hz, c.same R q (.int _)⟩
  · obtain ⟨ds, s1, q⟩ := q
    cases rx with
    | cons r1 r2 =>
      cases r2
      obtain ⟨p1, vs1, rfl, _, h1, d1⟩ := R.lst r1 s1
      exact .inl ⟨_, _, rfl, .inl (SqL.of h1), by rw [d1.length]; exact c.same R q (.int _)⟩
  · exact q.elim⟩
theorem cd_abs : CallD X (.builtin "abs") (fun xs H Q => ∃ i, xs = [.int i] ∧ Q (.int (if i < 0 then -i else i)) H) (fun xs S Q => ∃ i, xs = [.int i] ∧ Q (.int (if i < 0 then -i else i)) S) := ⟨call_abs, fun H m S xs vs Q Q' R rx q c => by
  obtain ⟨i, rfl, q⟩ := q
  cases rx with
  | cons r1 r2 =>
    cases r2
    cases r1
    exact ⟨i, rfl, c.same R q (.int _)⟩⟩
@[simp] def rdInt : List D → Sto → DK → Prop := fun xs S Q => match xs with
  | [.int i] => Q (.int i) S
  | [.bl k] => Q (.int (if k then 1 else 0)) S
  | _ => False
theorem cd_int : CallD X (.type "int") (fun xs H Q => (∃ i, xs = [.int i] ∧ Q (.int i) H) ∨ ∃ k, xs = [.bl k] ∧ Q (.int (if k then 1 else 0)) H) rdInt := ⟨call_int1, fun H m S xs vs Q Q' R rx q c => by
  unfold rdInt at q
  split at q
  · cases rx with
    | cons r1 r2 =>
      cases r2
      cases r1
      exact .inl ⟨_, rfl, c.same R q (.int _)⟩
  · cases rx with
    | cons r1 r2 =>
      cases r2
      cases r1
      exact .inr ⟨_, rfl, c.same R q (.int _)⟩
  · exact q.elim⟩
theorem cd_sum (hc : X.calm = true) : CallD X (.builtin "sum") (rSum X.K) (fun xs S Q => ∃ i ns, xs = [.loc i] ∧ S[i]? = some (.lst (List.map D.int ns)) ∧ Q (.int ns.sum) S) := ⟨cr_sum hc, fun H m S xs vs Q Q' R rx q c => by
  obtain ⟨i, ns, rfl, s1, q⟩ := q
  cases rx with
  | cons r1 r2 =>
    cases r2
    obtain ⟨p1, vs1, rfl, _, h1, d1⟩ := R.lst r1 s1
    rw [d1.of_ints] at h1
    exact ⟨p1, ns, rfl, SqL.of h1, c.same R q (.int _)⟩⟩
theorem cd_all (hc : X.calm = true) : CallD X (.builtin "all") (rAll X.K) (fun xs S Q => ∃ i bs, xs = [.loc i] ∧ S[i]? = some (.lst (List.map D.bl bs)) ∧ Q (.bl (bs.all id)) S) := ⟨cr_all hc, fun H m S xs vs Q Q' R rx q c => by
  obtain ⟨i, ns, rfl, s1, q⟩ := q
  cases rx with
  | cons r1 r2 =>
    cases r2
    obtain ⟨p1, vs1, rfl, _, h1, d1⟩ := R.lst r1 s1
    rw [d1.of_bls] at h1
    exact ⟨p1, ns, rfl, SqL.of h1, c.same R q (.bl _)⟩⟩
def vTupleOf (K : PySem.W.Frag) : List V → Hp → VK → Prop := fun xs H Q => ∃ p ys, xs = [.ref p] ∧ ((SqL K H p ys ∧ ∀ l, H l = none → Q (.ref l) (upd H l (.tup ys))) ∨ (SqT K H p ys ∧ Q (.ref p) H))
@[simp] def rdTupleOf : List D → Sto → DK → Prop := fun xs S Q => match xs with
  | [.loc i] => ∃ ds, S[i]? = some (.lst ds) ∧ Q (.tup ds) S
  | [.tup ds] => Q (.tup ds) S
  | _ => False
theorem cd_tupleOf : CallD X (.type "tuple") (vTupleOf X.K) rdTupleOf := ⟨call_tuple_of, fun H m S xs vs Q Q' R rx q c => by
  unfold rdTupleOf at q
  split at q
  · obtain ⟨ds, s1, q⟩ := q
    cases rx with
    | cons r1 r2 =>
      cases r2
      obtain ⟨p1, vs1, rfl, _, h1, d1⟩ := R.lst r1 s1
      exact ⟨p1, vs1, rfl, .inl ⟨SqL.of h1, c.newT R d1 q⟩⟩
  · cases rx with
    | cons r1 r2 =>
      cases r2
      cases r1 with
      | tup s1 d1 => exact ⟨_, _, rfl, .inr ⟨s1, c.same R q (.tup s1 d1)⟩⟩
  · exact q.elim⟩
def vListOf (K : PySem.W.Frag) : List V → Hp → VK → Prop := fun xs H Q => ∃ p ys, xs = [.ref p] ∧ (SqL K H p ys ∨ SqT K H p ys) ∧ ∀ l, H l = none → Q (.ref l) (upd H l (.lst ys))
@[simp] def rdListOf : List D → Sto → DK → Prop := fun xs S Q => match xs with
  | [.loc i] => ∃ ds, S[i]? = some (.lst ds) ∧ Q (.loc S.length) (S ++ [.lst ds])
  | [.tup ds] => Q (.loc S.length) (S ++ [.lst ds])
  | _ => False
theorem cd_listOf : CallD X (.type "list") (vListOf X.K) rdListOf := ⟨call_list_of, fun H m S xs vs Q Q' R rx q c => by
  unfold rdListOf at q
  split at q
  · obtain ⟨ds, s1, q⟩ := q
    cases rx with
    | cons r1 r2 =>
      cases r2
      obtain ⟨p1, vs1, rfl, _, h1, d1⟩ := R.lst r1 s1
      exact ⟨p1, vs1, rfl, .inl (SqL.of h1), c.newL R d1 q⟩
  · cases rx with
    | cons r1 r2 =>
      cases r2
      cases r1 with
      | tup s1 d1 => exact ⟨_, _, rfl, .inr s1, c.newL R d1 q⟩
  · exact q.elim⟩
/-- repr -/
def vRepr (K : PySem.W.Frag) : List V → Hp → VK → Prop := fun xs H Q => ∃ x p, xs = [x] ∧ Dp K H x p ∧ p.showable = true ∧ p.hasDict = false ∧ p.shown.length ≤ sizeLine ∧ p.depth ≤ 60 ∧ Q (.str p.shown) H
theorem call_repr (hg : X.A.guards = some []) (hu : X.A.units + 64 < cLine) : CallR X (.builtin "repr") (vRepr X.K) := by
  intro pins s σ H xs us Q I r h
  obtain ⟨x, p, rfl, hd, hs, hn, hz, hp, q⟩ := h
  obtain ⟨u, rfl, r1⟩ := vals1 r
  obtain ⟨as, rd⟩ := Dp.reads I p x u hd r1
  have fin : ∀ (h' : Heap) (t : Tok) (tk : Nat), (∀ b o, s.heap.get? b = some o → h'.get? b = some o) → EP X pins σ Q (.str p.shown t) { s with heap := h', toks := tk } :=
    fun h' t tk hk => ⟨.str p.shown, H, I.kept hk, ⟨t, rfl⟩, q⟩
  cases p with
  | none =>
    cases rd
    have e : PyData.shown .none = ("None" : Str) := by simp [PyData.shown]
    rw [e] at fin
    exact PySem.P.repr_of_none (fin s.heap _ _ fun _ _ z => z)
  | bool b =>
    cases rd
    have e : PyData.shown (.bool b) = (if b then ("True" : Str) else ("False" : Str)) := by simp only [PyData.shown]
    rw [e] at fin
    exact PySem.P.repr_of_bool (fin s.heap _ _ fun _ _ z => z)
  | int i =>
    cases rd
    have e : PyData.shown (.int i) = ((toString i : String) : Str) := by simp only [PyData.shown]
    rw [e] at fin
    exact PySem.P.repr_of_int (by simpa only [PyData.showable, decide_eq_true_eq] using hs) (fin s.heap _ _ fun _ _ z => z)
  | str z =>
    cases rd
    have e : PyData.shown (.str z) = reprText z := by simp only [PyData.shown]
    rw [e] at fin hz
    exact PySem.P.repr_of_str (fin s.heap _ _ fun _ _ z => z) hz
  | list l =>
    cases rd with
    | list h1 h2 h3 h4 => exact repr_of_reads' (.list h1 h2 h3 h4) hs (PyData.noDict_hsm hn) hg (by omega) (fun _ _ z => z) (fun h' t tk hk => fin h' t tk hk) hz
  | tuple l =>
    cases rd with
    | tuple h1 h2 h3 h4 => exact repr_of_reads' (.tuple h1 h2 h3 h4) hs (PyData.noDict_hsm hn) hg (by omega) (fun _ _ z => z) (fun h' t tk hk => fin h' t tk hk) hz
  | dict l => cases hd
theorem cd_repr (hg : X.A.guards = some []) (hu : X.A.units + 64 < cLine) : CallD X (.builtin "repr") (vRepr X.K) (fun xs S Q => ∃ d p, xs = [d] ∧ PyOf S d p ∧ p.showable = true ∧ p.hasDict = false ∧ p.shown.length ≤ sizeLine ∧ p.depth ≤ 60 ∧ Q (.str p.shown) S) :=
  ⟨call_repr hg hu, fun H m S xs vs Q Q' R rx q c => by
    obtain ⟨d, p, rfl, h1, h2, h3, h4, h5, q⟩ := q
    cases rx with
    | cons r1 r2 =>
      cases r2
      exact ⟨_, p, rfl, dp_of R p d _ h1 r1, h2, h3, h4, h5, c.same R q (.str _)⟩⟩
/-- isinstance(x, T) -/
@[simp] def tyD (S : Sto) : D → String
  | .non => "NoneType" | .bl _ => "bool" | .int _ => "int" | .str _ => "str" | .tup _ => "tuple" | .scr _ => "list"
  | .loc i => match S[i]? with | some (.lst _) => "list" | some (.dct _) => "dict" | none => "none"
theorem ty_of {K : PySem.W.Frag} {H : Hp} {m : Mp} {S : Sto} {d : D} {v : V} (R : Rel K H m S) (r : Dv K H m v d) : TyX K H v (.type (tyD S d)) := by
  cases r with
  | non => exact .base .non
  | bl b => exact .base (.bl b)
  | int i => exact .base (.int i)
  | str x => exact .base (.str x)
  | tup s1 d1 =>
    rcases s1 with (h | ⟨o, h⟩) | ⟨o, its, n, h, hc, _⟩
    · exact .base (.tup h)
    · exact .fTuple h
    · exact .kTuple h hc
  | @loc i a e =>
    have hl : i < S.length := R.len ▸ (List.getElem?_eq_some_iff.mp e).1
    have hs : S[i]? = some S[i] := List.getElem?_eq_getElem hl
    have ob := R.ob i a _ e hs
    have et : tyD S (.loc i) = match S[i]? with | some (.lst _) => "list" | some (.dct _) => "dict" | none => "none" := rfl
    rw [et, hs]
    cases hS : S[i] with
    | lst ds =>
      rw [hS] at ob
      obtain ⟨vs, h, _⟩ := ob
      exact .base (.lst h)
    | dct kvs =>
      rw [hS] at ob
      obtain ⟨vs, h, _⟩ := ob
      exact .base (.dK h)
  | scr h =>
    rcases h with ⟨o, h⟩ | ⟨o, its, n, h, hc, _⟩
    · exact .base (.frz h)
    · exact .kList h hc
@[simp] def dIsi (T : String) (t : DE) : DE := fun δ S Q => t δ S fun d S1 => ∃ b, kitB (tyD S1 d) T = some b ∧ Q (.bl b) S1
theorem d_isi {a : Expr} {te : TE} {t : DE} {T : String} {x : Str} {pT : Pos} (hg : Gl X "isinstance") (hm : X.mg "isinstance" = none) (hv : bootBuiltins "isinstance" = some (.builtin "isinstance")) (h : PD X a te t)
    (hgT : Gl X x) (hmT : X.mg x = none) (hvT : bootBuiltins x = some (.type T)) (hnT : x ≠ "__name__" := by decide) (hdT : (x == ("__debug__" : Str)) = false := by decide)
    (he1 : starEach [a, .Name x pT] X.env = (false, eval a X.env) :: starEach [.Name x pT] X.env := by rfl) (he2 : starEach [.Name x pT] X.env = (false, eval (.Name x pT) X.env) :: starEach [] X.env := by rfl)
    (hpl : (backTo pos (starEach [.Name x pT] X.env)).any (·.1) = false := by rfl) :
    PD X (.Call (.Name "isinstance" p) [a, .Name x pT] [] pos) (tCB (rIsi X.K) (tCons te (tCons (tC (.ty T)) tNil))) (dIsi T t) :=
  ⟨pe_callB call_isi hg hm hv (pa_cons h.pe (pa_cons (pe_bltn hgT hmT hvT rfl hnT hdT) pa_nil he2) he1) (by decide) (by decide) he1 hpl, fun σ H m S δ Q Q' R e q c =>
    h.sim σ H m S δ _ _ R e q fun d S1 v H1 m1 ⟨b, hb, q1⟩ k1 g1 R1 r1 =>
      ⟨v, .ty T, .type (tyD S1 d), .type T, b, rfl, .ty T, ty_of R1 r1, kit_ty hb, (c.mono k1 g1).same R1 q1 (.bl b)⟩⟩
end
end DL

set_option Elab.async false
set_option linter.all false
set_option maxRecDepth 100000
set_option maxHeartbeats 1000000
namespace DL
open PySem L2 PyProof.Rows

/-! ### a def's promise over data -/
abbrev DSp := List D → Sto → DK → Prop
def toSp (K : PySem.W.Frag) (c : DSp) : Sp := fun vs H Q _ => ∃ m S ds Q', Rel K H m S ∧ DvA K H m vs ds ∧ c ds S Q' ∧ Cont K H m Q' Q
/-- the def x of the module keeps c, by level k -/
structure DefD (P : Program) (w : World) (K : PySem.W.Frag) (mg : Str → Option Value) (base : Heap) (k : Nat) (x : Str) (n : Nat) (c : DSp) : Prop where
  ex : ∃ f fd ps, ps.length = n ∧ FnG P w K mg base CX0 k f fd ps (toSp K c) ∧ mg x = some (.ref f) ∧ PySem.W.keepIn K (.ref f) = true ∧ Binds K fd ps []
theorem DefD.mono {P : Program} {w : World} {K : PySem.W.Frag} {mg : Str → Option Value} {base : Heap} {j k n : Nat} {x : Str} {c : DSp} (F : DefD P w K mg base j x n c) (h : j ≤ k) : DefD P w K mg base k x n c :=
  let ⟨f, fd, ps, h1, h2, h3, h4, h5⟩ := F.ex
  ⟨f, fd, ps, h1, h2.mono h, h3, h4, h5⟩
theorem DefD.imp {P : Program} {w : World} {K : PySem.W.Frag} {mg : Str → Option Value} {base : Heap} {k n : Nat} {x : Str} {c c' : DSp} (F : DefD P w K mg base k x n c) (h : ∀ ds S Q, c' ds S Q → c ds S Q) : DefD P w K mg base k x n c' :=
  let ⟨f, fd, ps, h1, h2, h3, h4, h5⟩ := F.ex
  ⟨f, fd, ps, h1, h2.imp fun vs H Q E ⟨m, S, ds, Q', a, b, c, d⟩ => ⟨m, S, ds, Q', a, b, h _ _ _ c, d⟩, h3, h4, h5⟩
section
variable {X : Cx} {pos p : Pos} {e : Expr} {es : List Expr} {ta : TA} {u : DA} {x : Str} {k n : Nat} {c : DSp}
@[simp] def dCall (c : DSp) (u : DA) : DE := fun δ S Q => u δ S fun ds S1 => c ds S1 Q
theorem d_call (F : DefD X.prog X.w X.K X.mg X.base k x n c) (hgd : X.A.guards = some []) (hr : Room k X.A) (hg : Gl X x) (ha : PAD X (e :: es) ta u) (hdb : (x == ("__debug__" : Str)) = false := by decide)
    (he : starEach (e :: es) X.env = (false, eval e X.env) :: starEach es X.env := by rfl) (hpl : (backTo pos (starEach es X.env)).any (·.1) = false := by rfl) :
    PD X (.Call (.Name x p) (e :: es) [] pos) (tCall (toSp X.K c) [] E0 ta) (dCall c u) := by
  obtain ⟨f, fd, ps, h1, h2, h3, h4, h5⟩ := F.ex
  refine ⟨pe_callG h2 hgd hr hg h3 h4 h5 .nil pass0 ha.pe hdb he hpl, fun σ H m S δ Q Q' R e q c' => ?_⟩
  refine ha.sim σ H m S δ _ _ R e q fun ds S1 vs H1 m1 q1 k1 g1 R1 r1 => ?_
  rw [List.append_nil]
  exact ⟨m1, S1, ds, Q', R1, r1, q1, c'.mono k1 g1⟩
end

/-! ### methods of lists -/
section
variable {X : Cx} {pos p : Pos} {o e : Expr} {te ta : TE} {t u : DE}
theorem Cont.put {K : PySem.W.Frag} {H : Hp} {m : Mp} {S : Sto} {Q' : DK} {Q : VK} {i : Nat} {a : Addr} {xs vs : List V} {ds : List D} {d : D} {v : V} (c : Cont K H m Q' Q) (R : Rel K H m S) (e : m[i]? = some a) (h : H a = some (.lst xs)) (r : DvA K H m vs ds)
    (q : Q' d (S.set i (.lst ds))) (hv : Dv K H m v d) : Q v (upd H a (.lst vs)) := c d _ v _ m q (.put h) (.refl m) (R.put e h r) (Dv.mono (.put h) (.refl m) _ _ hv)
@[simp] def dApp (t u : DE) : DE := fun δ S Q => t δ S fun x S1 => ∃ i, x = .loc i ∧ (∃ ds, S1[i]? = some (.lst ds)) ∧ u δ S1 fun y S2 => ∃ ds, S2[i]? = some (.lst ds) ∧ ds.length < 100000 ∧ Q .non (S2.set i (.lst (ds ++ [y])))
theorem d_append {apos : Pos} (h : PD X o te t) (h2 : PD X e ta u) (hbase : attributeBase o "append" X.env (eval o X.env) = eval o X.env := by rfl)
    (hfew : ((backTo pos (starEach [e] X.env)).all (fun x => !x.1) && (backToKw pos (keywordEach [] X.env)).all (fun x => x.1.isSome) && decide (([e] : List Expr).length + ([] : List Keyword).length + (if ([] : List Keyword).isEmpty then 0 else 1) < 30)) = true := by rfl)
    (hline : (apos.endLine == pos.line) = true := by rfl) (hs : starEach [e] X.env = (false, eval e X.env) :: starEach [] X.env := by rfl) (hplain : (backTo pos (starEach [] X.env)).any (·.1) = false := by rfl) :
    PD X (.Call (.Attribute o "append" apos) [e] [] pos) (tBM X.K "list" rAppend te (tCons ta tNil)) (dApp t u) := ⟨pe_bm PySem.F.plainAttrs_list PySem.F.slot_list_append PySem.F.type_list_append mt_append h.pe (pa_cons h2.pe pa_nil hs) hbase hfew hline hs hplain, fun σ H m S δ Q Q' R ev q c =>
  h.sim σ H m S δ _ _ R ev q fun x S1 v H1 m1 ⟨i, ei, ⟨ds, s1⟩, q1⟩ k1 g1 R1 r1 => by
    subst ei
    obtain ⟨a, vs, rfl, em, hH, _⟩ := R1.lst r1 s1
    refine ⟨.inl ⟨rfl, vs, SqL.of hH⟩, h2.sim σ H1 m1 S1 δ _ _ R1 (ev.mono k1 g1) q1 fun y S2 vy H2 m2 ⟨ds2, s2, hl, q2⟩ k2 g2 R2 r2 => ?_⟩
    obtain ⟨a2, vs2, ea, em2, hH2, d2⟩ := R2.lst (.loc (g2.at em)) s2
    cases ea
    exact ⟨a, vs2, vy, rfl, rfl, hH2, by rw [d2.length]; exact small5' hl, (c.mono (k1.trans k2) (g1.trans g2)).put R2 em2 hH2 (d2.append (.cons r2 .nil)) q2 .non⟩⟩
@[simp] def dExt (t u : DE) : DE := fun δ S Q => t δ S fun x S1 => ∃ i, x = .loc i ∧ (∃ ds, S1[i]? = some (.lst ds)) ∧ u δ S1 fun y S2 => ∃ j ds es, y = .loc j ∧ S2[i]? = some (.lst ds) ∧ S2[j]? = some (.lst es) ∧ ds.length + es.length ≤ 100000 ∧ Q .non (S2.set i (.lst (ds ++ es)))
theorem d_extend {apos : Pos} (h : PD X o te t) (h2 : PD X e ta u) (hbase : attributeBase o "extend" X.env (eval o X.env) = eval o X.env := by rfl)
    (hfew : ((backTo pos (starEach [e] X.env)).all (fun x => !x.1) && (backToKw pos (keywordEach [] X.env)).all (fun x => x.1.isSome) && decide (([e] : List Expr).length + ([] : List Keyword).length + (if ([] : List Keyword).isEmpty then 0 else 1) < 30)) = true := by rfl)
    (hline : (apos.endLine == pos.line) = true := by rfl) (hs : starEach [e] X.env = (false, eval e X.env) :: starEach [] X.env := by rfl) (hplain : (backTo pos (starEach [] X.env)).any (·.1) = false := by rfl) :
    PD X (.Call (.Attribute o "extend" apos) [e] [] pos) (tBM X.K "list" rExtend te (tCons ta tNil)) (dExt t u) := ⟨pe_bm PySem.F.plainAttrs_list PySem.F.slot_list_extend PySem.F.type_list_extend mt_extend h.pe (pa_cons h2.pe pa_nil hs) hbase hfew hline hs hplain, fun σ H m S δ Q Q' R ev q c =>
  h.sim σ H m S δ _ _ R ev q fun x S1 v H1 m1 ⟨i, ei, ⟨ds, s1⟩, q1⟩ k1 g1 R1 r1 => by
    subst ei
    obtain ⟨a, vs, rfl, em, hH, _⟩ := R1.lst r1 s1
    refine ⟨.inl ⟨rfl, vs, SqL.of hH⟩, h2.sim σ H1 m1 S1 δ _ _ R1 (ev.mono k1 g1) q1 fun y S2 vy H2 m2 ⟨j, ds2, es2, ej, s2, s3, hl, q2⟩ k2 g2 R2 r2 => ?_⟩
    subst ej
    obtain ⟨a2, vs2, ea, em2, hH2, d2⟩ := R2.lst (.loc (g2.at em)) s2
    cases ea
    obtain ⟨a3, vs3, rfl, em3, hH3, d3⟩ := R2.lst r2 s3
    exact ⟨a, a3, vs2, vs3, rfl, rfl, hH2, hH3, by rw [d2.length, d3.length]; exact small5 hl, (c.mono (k1.trans k2) (g1.trans g2)).put R2 em2 hH2 (d2.append d3) q2 .non⟩⟩
@[simp] def dPop (t : DE) : DE := fun δ S Q => t δ S fun x S1 => ∃ i ds d, x = .loc i ∧ S1[i]? = some (.lst ds) ∧ ds[ds.length - 1]? = some d ∧ Q d (S1.set i (.lst ds.dropLast))
theorem d_pop {apos : Pos} (h : PD X o te t) (hbase : attributeBase o "pop" X.env (eval o X.env) = eval o X.env := by rfl) (hline : (apos.endLine == pos.line) = true := by rfl) :
    PD X (.Call (.Attribute o "pop" apos) [] [] pos) (tBM0 X.K "list" rPop te) (dPop t) := ⟨pe_bm0 PySem.F.plainAttrs_list PySem.F.slot_list_pop PySem.F.type_list_pop mt_pop h.pe hbase hline, fun σ H m S δ Q Q' R ev q c =>
  h.sim σ H m S δ _ _ R ev q fun x S1 v H1 m1 ⟨i, ds, d, ei, s1, hd, q1⟩ k1 g1 R1 r1 => by
    subst ei
    obtain ⟨a, vs, rfl, em, hH, d1⟩ := R1.lst r1 s1
    obtain ⟨w, hw, rw'⟩ := d1.get hd
    rw [← d1.length] at hw
    exact ⟨.inl ⟨rfl, vs, SqL.of hH⟩, a, vs, w, rfl, rfl, hH, hw, (c.mono k1 g1).put R1 em hH d1.dropLast q1 rw'⟩⟩
end

/-! ### statements -/
structure DEnds where
  nx : DEnv → Sto → Prop
  rt : DK
  bk : DEnv → Sto → Prop := fun _ _ => False
  ct : DEnv → Sto → Prop := fun _ _ => False
abbrev DS := DEnds → DEnv → Sto → Prop
def ContS (K : PySem.W.Frag) (H : Hp) (m : Mp) (Q' : DEnv → Sto → Prop) (Q : L2.St → Hp → Prop) : Prop :=
  ∀ δ' S' σ' H' m', Q' δ' S' → Kp H H' → Gr m m' → Rel K H' m' S' → EnvR K H' m' σ' δ' → Q σ' H'
theorem ContS.mono {K : PySem.W.Frag} {H H' : Hp} {m m' : Mp} {Q' : DEnv → Sto → Prop} {Q : L2.St → Hp → Prop} (k : Kp H H') (g : Gr m m') (c : ContS K H m Q' Q) : ContS K H' m' Q' Q := fun δ S' σ H2 m2 q k2 g2 R r => c δ S' σ H2 m2 q (k.trans k2) (g.trans g2) R r
structure EndsR (K : PySem.W.Frag) (H : Hp) (m : Mp) (D' : DEnds) (D : Ends) : Prop where
  nx : ContS K H m D'.nx D.nx
  rt : Cont K H m D'.rt D.rt
  bk : ContS K H m D'.bk D.bk
  ct : ContS K H m D'.ct D.ct
theorem EndsR.mono {K : PySem.W.Frag} {H H' : Hp} {m m' : Mp} {D' : DEnds} {D : Ends} (k : Kp H H') (g : Gr m m') (c : EndsR K H m D' D) : EndsR K H' m' D' D := ⟨c.nx.mono k g, c.rt.mono k g, c.bk.mono k g, c.ct.mono k g⟩
def SimS (K : PySem.W.Frag) (ts : TS) (t : DS) : Prop := ∀ (σ : L2.St) (H : Hp) (m : Mp) (S : Sto) (δ : DEnv) (D : Ends) (D' : DEnds), Rel K H m S → EnvR K H m σ δ → t D' δ S → EndsR K H m D' D → ts D σ H
structure PSD (X : Cx) (st : Stmt) (ts : TS) (t : DS) : Prop where
  pe : PS X st ts
  sim : SimS X.K ts t
structure PSsD (X : Cx) (st : List Stmt) (ts : TS) (t : DS) : Prop where
  pe : PSs X st ts
  sim : SimS X.K ts t
abbrev DG := D → DEnv → Sto → (DEnv → Sto → Prop) → Prop
def SimG (K : PySem.W.Frag) (g : TG) (g' : DG) : Prop := ∀ (σ : L2.St) (H : Hp) (m : Mp) (S : Sto) (δ : DEnv) (x : D) (v : V) (Q : L2.St → Hp → Prop) (Q' : DEnv → Sto → Prop), Rel K H m S → EnvR K H m σ δ → Dv K H m v x → g' x δ S Q' → ContS K H m Q' Q → g v σ H Q
structure PGD (X : Cx) (tg : Expr) (g : TG) (g' : DG) : Prop where
  pe : PG X tg g
  sim : SimG X.K g g'
section
variable {X : Cx} {st : Stmt} {rest a b : List Stmt} {ts us : TS} {t u : DS} {e : Expr} {te : TE} {de : DE} {pos : Pos}
@[simp] def sNext : DS := fun D δ S => D.nx δ S
@[simp] def sSeq (t u : DS) : DS := fun D δ S => t { D with nx := u D } δ S
theorem s_nil : PSsD X [] tNext sNext := ⟨pss_nil, fun σ H m S δ D D' R e q c => c.nx δ S σ H m q (.refl H) (.refl m) R e⟩
theorem s_cons (h1 : PSD X st ts t) (h2 : PSsD X rest us u) : PSsD X (st :: rest) (tSeq ts us) (sSeq t u) := ⟨pss_cons h1.pe h2.pe, fun σ H m S δ D D' R e q c =>
  h1.sim σ H m S δ _ _ R e q ⟨fun δ' S' σ' H' m' q' k g R' e' => h2.sim σ' H' m' S' δ' D D' R' e' q' (c.mono k g), c.rt, c.bk, c.ct⟩⟩
theorem s_one (h1 : PSD X st ts t) : PSsD X [st] ts t := ⟨pss_one h1.pe, h1.sim⟩
@[simp] def sBreak : DS := fun D δ S => D.bk δ S
@[simp] def sCont : DS := fun D δ S => D.ct δ S
theorem s_break : PSD X (.Break pos) tBreak sBreak := ⟨ps_break, fun σ H m S δ D D' R e q c => c.bk δ S σ H m q (.refl H) (.refl m) R e⟩
theorem s_continue : PSD X (.Continue pos) tCont sCont := ⟨ps_continue, fun σ H m S δ D D' R e q c => c.ct δ S σ H m q (.refl H) (.refl m) R e⟩
theorem s_pass : PSD X (.Pass pos) tNext sNext := ⟨ps_pass, fun σ H m S δ D D' R e q c => c.nx δ S σ H m q (.refl H) (.refl m) R e⟩
@[simp] def sDrop (t : DE) : DS := fun D δ S => t δ S fun _ S1 => D.nx δ S1
theorem s_expr (h : PD X e te de) (hs : swapsWith e none pos.line X.env = pure false := by rfl) : PSD X (.Expr e pos) (tDrop te) (sDrop de) := ⟨ps_expr h.pe hs, fun σ H m S δ D D' R ev q c =>
  h.sim σ H m S δ _ _ R ev q fun d S1 v H1 m1 q1 k1 g1 R1 r1 => c.nx δ S1 σ H1 m1 q1 k1 g1 R1 (ev.mono k1 g1)⟩
@[simp] def sRet (t : DE) : DS := fun D δ S => t δ S D.rt
theorem s_ret (h : PD X e te de) : PSD X (.Return (some e) pos) (tRet te) (sRet de) := ⟨ps_ret h.pe, fun σ H m S δ D D' R ev q c => h.sim σ H m S δ _ _ R ev q c.rt⟩
@[simp] def sIf (c : DT) (t u : DS) : DS := fun D δ S => c δ S fun k S1 => if k = true then t D δ S1 else u D δ S1
theorem s_if {c : Expr} {tc : TT} {dc : DT} (hc : PTD X c tc dc) (ha : PSsD X a ts t) (hb : PSsD X b us u) : PSD X (.If c a b pos) (tIfS tc ts us) (sIf dc t u) := ⟨ps_if hc.pe ha.pe hb.pe, fun σ H m S δ D D' R ev q c =>
  hc.sim σ H m S δ _ _ R ev q fun k S1 H1 m1 q1 k1 g1 R1 => by
    cases k with
    | true => exact ha.sim σ H1 m1 S1 δ D D' R1 (ev.mono k1 g1) q1 (c.mono k1 g1)
    | false => exact hb.sim σ H1 m1 S1 δ D D' R1 (ev.mono k1 g1) q1 (c.mono k1 g1)⟩
/-- targets -/
@[simp] def gdName (i : Nat) : DG := fun x δ S Q => Q (δ.set i (some x)) S
theorem sim_gName {K : PySem.W.Frag} {i : Nat} : SimG K (gName i) (gdName i) := fun σ H m S δ x v Q Q' R e r q c => c _ S _ H m q (.refl H) (.refl m) R (e.set i r)
theorem g_name {i : Nat} {x : Str} (hN : X.N.Nodup) (hi : X.N[i]? = some x) (hx : Loc X.env.scope x) (hf : X.fn x = true ∨ X.env.scope.names.lookup x = some .local) : PGD X (.Name x pos) (gName i) (gdName i) := ⟨pg_name hN hi hx hf, sim_gName⟩
/-- (a, b) = a tuple of two -/
@[simp] def gd2 (g h : DG) : DG := fun x δ S Q => match x with | .tup [d1, d2] => g d1 δ S fun δ1 S1 => h d2 δ1 S1 Q | _ => False
theorem g_two {e1 e2 : Expr} {k : Nat} {g h : TG} {g' h' : DG} (hc : X.calm = true) (h1 : PGD X e1 g g') (h2 : PGD X e2 h h') (hs1 : (assignEach [e1, e2] X.env).map (·.2) = assign e1 X.env :: (assignEach [e2] X.env).map (·.2) := by rfl)
    (hs2 : (assignEach [e2] X.env).map (·.2) = assign e2 X.env :: (assignEach [] X.env).map (·.2) := by rfl) (hn : (assignEach [e1, e2] X.env).length = 2 := by rfl) (hst : (assignEach [e1, e2] X.env).findIdx? (·.1) = none := by rfl) :
    PGD X (.Tuple [e1, e2] k pos) (gTup X.K 2 (gCons g (gCons h gNil))) (gd2 g' h') := ⟨pg_tup hc (pgs_cons h1.pe (pgs_cons h2.pe pgs_nil hs2) hs1) hn hst, fun σ H m S δ x v Q Q' R e r q c => by
  unfold gd2 at q
  split at q
  case h_2 => exact q.elim
  rename_i d1 d2
  cases r with
  | tup s r =>
    cases r with
    | cons r1 r2 =>
      cases r2 with
      | cons r2 r3 =>
        cases r3
        refine ⟨_, _, rfl, s, rfl, _, _, rfl, h1.sim σ H m S δ d1 _ _ _ R e r1 q ?_⟩
        intro δ1 S1 σ1 H1 m1 q1 k1 g1 R1 e1
        refine ⟨_, _, rfl, h2.sim σ1 H1 m1 S1 δ1 d2 _ _ _ R1 e1 (Dv.mono k1 g1 _ _ r2) q1 ?_⟩
        intro δ2 S2 σ2 H2 m2 q2 k2 g2 R2 e2
        exact ⟨rfl, c δ2 S2 σ2 H2 m2 q2 (k1.trans k2) (g1.trans g2) R2 e2⟩⟩
/-- o[i] = .. of a list -/
@[simp] def gdSub (to ti : DE) : DG := fun x δ S Q => to δ S fun o S1 => ti δ S1 fun i S2 => ∃ l k ds j, o = .loc l ∧ i = .int k ∧ S2[l]? = some (.lst ds) ∧ ixN ds.length k = some j ∧ Q δ (S2.set l (.lst (ds.set j x)))
theorem g_sub {o i : Expr} {to ti : TE} {d1 d2 : DE} (ho : PD X o to d1) (hi : PD X i ti d2)
    (ha : ∀ v, assign (.Subscript o i pos) X.env v = (do
      let ov ← holding [v] (eval o X.env)
      let iv ← holding [v, ov] (eval i X.env)
      standAt pos
      holding [v, ov, iv] (setItem ov iv v)
      release [v, ov, iv] []) := by intro _; rfl) : PGD X (.Subscript o i pos) (gSub to ti rSetL) (gdSub d1 d2) := ⟨pg_sub ho.pe hi.pe set_list ha, fun σ H m S δ x v Q Q' R e r q c => by
  refine ho.sim σ H m S δ _ _ R e q ?_
  intro do_ S1 vo H1 m1 q1 k1 g1 R1 r1
  refine hi.sim σ H1 m1 S1 δ _ _ R1 (e.mono k1 g1) q1 ?_
  intro di S2 vi H2 m2 q2 k2 g2 R2 r2
  obtain ⟨l, k, ds, j, rfl, rfl, s2, hj, q2⟩ := q2
  cases r2
  obtain ⟨a, vs, rfl, em, hH, d2⟩ := R2.lst (Dv.mono k2 g2 _ _ r1) s2
  have kk := (k1.trans k2)
  refine ⟨a, vs, k, j, rfl, rfl, hH, by rw [d2.length]; exact hj, ?_⟩
  have r' := Dv.mono kk (g1.trans g2) _ _ r
  exact c δ _ σ _ m2 q2 (kk.trans (.put hH)) (g1.trans g2) (R2.put em hH (d2.set r' j)) ((e.mono kk (g1.trans g2)).mono (.put hH) (.refl m2))⟩
@[simp] def sAsg (t : DE) (g : DG) : DS := fun D δ S => t δ S fun x S1 => g x δ S1 D.nx
theorem sim_asg {K : PySem.W.Frag} {g : TG} {g' : DG} (h : SimE K te de) (hg : SimG K g g') : SimS K (tAsg te g) (sAsg de g') := fun σ H m S δ D D' R ev q c =>
  h σ H m S δ _ _ R ev q fun d S1 v H1 m1 q1 k1 g1 R1 r1 => hg σ H1 m1 S1 δ d v _ _ R1 (ev.mono k1 g1) r1 q1 (c.nx.mono k1 g1)
theorem s_asg {tg : Expr} {g : TG} {g' : DG} (he : PD X e te de) (hg : PGD X tg g g') (hs : swapsWithSole [tg] e pos.line X.env = pure false := by rfl) (hw : swappedStores [tg] e X.env = pure none := by rfl)
    (h1 : (assignEach [tg] X.env).map (·.2) = [assign tg X.env] := by rfl) : PSD X (.Assign [tg] e pos) (tAsg te g) (sAsg de g') := ⟨ps_asg he.pe hg.pe hs hw h1, sim_asg he.sim hg.sim⟩
theorem s_set {i : Nat} {x : Str} {pos' : Pos} (hN : X.N.Nodup) (hi : X.N[i]? = some x) (hx : Loc X.env.scope x) (hf : X.fn x = true ∨ X.env.scope.names.lookup x = some .local) (he : PD X e te de) (hs : swapsWith e (some (.Name x pos')) pos.line X.env = pure false := by rfl) :
    PSD X (.Assign [.Name x pos'] e pos) (tAsg te (gName i)) (sAsg de (gdName i)) := ⟨ps_set hN hi hx he.pe hs hf, sim_asg he.sim sim_gName⟩
/-- a, b = x, y -/
@[simp] def sPar (i j : Nat) (u : DA) : DS := fun D δ S => u δ S fun ds S1 => match ds with | [d1, d2] => D.nx ((δ.set i (some d1)).set j (some d2)) S1 | _ => False
theorem s_par {i j : Nat} {x y : Str} {a b : Expr} {ta : TA} {u : DA} {px py pt : Pos} {kt k2 pt2} (hc : X.calm = true) (hN : X.N.Nodup) (hi : X.N[i]? = some x) (hj : X.N[j]? = some y) (hij : i ≠ j)
    (hx : X.env.scope.names.lookup x = some .local) (hy : X.env.scope.names.lookup y = some .local) (ha : PAD X [a, b] ta u)
    (hw : swappedStores [.Tuple [.Name x px, .Name y py] kt pt] (.Tuple [a, b] k2 pt2) X.env = pure (some [x, y]) := by rfl)
    (hs : swapsWithSole [.Tuple [.Name x px, .Name y py] kt pt] (.Tuple [a, b] k2 pt2) pos.line X.env = pure false := by rfl) :
    PSD X (.Assign [.Tuple [.Name x px, .Name y py] kt pt] (.Tuple [a, b] k2 pt2) pos) (tPar i j ta) (sPar i j u) := ⟨ps_par hc hN hi hj hij hx hy ha.pe hw hs, fun σ H m S δ D D' R ev q c =>
  ha.sim σ H m S δ _ _ R ev q fun ds S1 vs H1 m1 q1 k1 g1 R1 r1 => by
    split at q1
    case h_2 => exact q1.elim
    cases r1 with
    | cons r1 r2 =>
      cases r2 with
      | cons r2 r3 =>
        cases r3
        exact ⟨_, _, rfl, c.nx _ S1 _ H1 m1 q1 k1 g1 R1 (((ev.mono k1 g1).set i r1).set j r2)⟩⟩
/-- name += e, ints -/
@[simp] def sAugI (i : Nat) (f : Int → Int → Int) (t : DE) : DS := fun D δ S => ∃ n, δ[i]? = some (some (.int n)) ∧ t δ S fun d S1 => ∃ k, d = .int k ∧ D.nx (δ.set i (some (.int (f n k)))) S1
theorem s_augI {i : Nat} {x : Str} {op : Operator} {f : Int → Int → Int} {pos' : Pos} (hN : X.N.Nodup) (hi : X.N[i]? = some x) (hx : Loc X.env.scope x) (hf : X.fn x = true ∨ X.env.scope.names.lookup x = some .local) (he : PD X e te de) (ho : PIp X op (ipI f)) :
    PSD X (.AugAssign (.Name x pos') op e pos) (tAug i te (ipI f)) (sAugI i f de) := ⟨ps_aug hN hi hx he.pe ho hf, fun σ H m S δ D D' R ev ⟨n, en, q⟩ c => by
  obtain ⟨v, h1, h2⟩ := ev.at_ i _ en
  cases h2
  refine ⟨_, h1, he.sim σ H m S δ _ _ R ev q ?_⟩
  intro d S1 v1 H1 m1 q1 k1 g1 R1 r1
  obtain ⟨k, rfl, q1⟩ := q1
  cases r1
  exact ⟨n, k, rfl, rfl, c.nx _ S1 _ H1 m1 q1 k1 g1 R1 ((ev.mono k1 g1).set i (.int _))⟩⟩
end
end DL

set_option Elab.async false
set_option linter.all false
set_option maxRecDepth 100000
set_option maxHeartbeats 1000000
namespace DL
open PySem L2 PyProof.Rows

/-! ### what is walked -/
structure ItOk (K : PySem.W.Frag) (H0 : Hp) (m0 : Mp) (items : List D) (st : Sto → Prop) (J : It) : Prop where
  go : ∀ (i : Nat) (H : Hp) (m : Mp) (S : Sto), Kp H0 H → Gr m0 m → Rel K H m S → st S → i < items.length → J.go i H
  yld : ∀ (i : Nat) (H : Hp) (m : Mp) (S : Sto) (x : V) (H' : Hp), Kp H0 H → Gr m0 m → Rel K H m S → st S → i < items.length → J.yld i H x H' → ∃ d, items[i]? = some d ∧ Kp H H' ∧ Rel K H' m S ∧ Dv K H' m x d
  stop : ∀ (i : Nat) (H : Hp) (m : Mp) (S : Sto), Kp H0 H → Gr m0 m → Rel K H m S → st S → items.length ≤ i → J.stop i H
abbrev DI := DEnv → Sto → (List D → (Sto → Prop) → Sto → Prop) → Prop
def SimI (K : PySem.W.Frag) (wi : TI) (di : DI) : Prop := ∀ (σ : L2.St) (H : Hp) (m : Mp) (S : Sto) (δ : DEnv) (R : It → Hp → Prop) (R' : List D → (Sto → Prop) → Sto → Prop),
  Rel K H m S → EnvR K H m σ δ → di δ S R' → (∀ items st S' H' m' J, R' items st S' → Kp H H' → Gr m m' → Rel K H' m' S' → ItOk K H' m' items st J → R J H') → wi σ H R
structure PID (X : Cx) (tg iter : Expr) (wi : TI) (di : DI) : Prop where
  pe : PI X tg iter wi
  sim : SimI X.K wi di
section
variable {X : Cx} {tg l : Expr} {te : TE} {de : DE} {pos p : Pos}
theorem it_tup {K : PySem.W.Frag} {H : Hp} {m : Mp} {a : Addr} {vs : List V} {ds : List D} (s : SqT K H a vs) (r : DvA K H m vs ds) : ItOk K H m ds (fun _ => True) (Itt K a) where
  go := fun i H' m' S k g R _ hi => ⟨vs, vs[i]'(by rw [r.length]; exact hi), k.sqT s, List.getElem?_eq_getElem _⟩
  yld := fun i H' m' S x H2 k g R _ hi ⟨e, y⟩ => by
    subst e
    obtain ⟨d, h1, h2⟩ := r.getV (y vs (k.sqT s))
    exact ⟨d, h1, .refl _, R, Dv.mono k g _ _ h2⟩
  stop := fun i H' m' S k g R _ hi => ⟨vs, k.sqT s, by rw [r.length]; exact hi⟩
theorem it_lst {K : PySem.W.Frag} {H : Hp} {m : Mp} {a : Addr} {j : Nat} {ds : List D} (e : m[j]? = some a) : ItOk K H m ds (fun S => S[j]? = some (.lst ds)) (Itl K a) where
  go := fun i H' m' S k g R hs hi => by
    obtain ⟨vs, h, r⟩ := R.ob j a _ (g.at e) hs
    exact ⟨vs, vs[i]'(by rw [r.length]; exact hi), SqL.of h, List.getElem?_eq_getElem _⟩
  yld := fun i H' m' S x H2 k g R hs hi ⟨e2, y⟩ => by
    subst e2
    obtain ⟨vs, h, r⟩ := R.ob j a _ (g.at e) hs
    obtain ⟨d, h1, h2⟩ := r.getV (y vs (SqL.of h))
    exact ⟨d, h1, .refl _, R, h2⟩
  stop := fun i H' m' S k g R hs hi => by
    obtain ⟨vs, h, r⟩ := R.ob j a _ (g.at e) hs
    exact ⟨vs, SqL.of h, by rw [r.length]; exact hi⟩
def signsD (z : Str) : List D := z.cps.toList.map fun c => .str ⟨#[c]⟩
theorem it_str {K : PySem.W.Frag} {H : Hp} {m : Mp} (z : Str) : ItOk K H m (signsD z) (fun _ => True) (Its z) where
  go := fun i H' m' S k g R _ hi => by
    unfold signsD at hi
    rw [List.length_map, Array.length_toList] at hi
    exact hi
  yld := fun i H' m' S x H2 k g R _ hi ⟨e, c, hc, ex⟩ => by
    subst e ex
    refine ⟨.str ⟨#[c]⟩, ?_, .refl _, R, .str _⟩
    unfold signsD
    rw [List.getElem?_map, Array.getElem?_toList, hc]
    rfl
  stop := fun i H' m' S k g R _ hi => by
    unfold signsD at hi
    rw [List.length_map, Array.length_toList] at hi
    exact hi
def rangeD (lo : Int) (n : Nat) : List D := (List.range n).map fun i => .int (lo + (i : Nat))
theorem it_rng {K : PySem.W.Frag} {H : Hp} {m : Mp} (lo : Int) (n : Nat) : ItOk K H m (rangeD lo n) (fun _ => True) (Itr lo n) where
  go := fun i H' m' S k g R _ hi => by
    unfold rangeD at hi
    rw [List.length_map, List.length_range] at hi
    exact hi
  yld := fun i H' m' S x H2 k g R _ hi ⟨e, ex⟩ => by
    subst e ex
    unfold rangeD at hi ⊢
    rw [List.length_map, List.length_range] at hi
    refine ⟨.int (lo + i), ?_, .refl _, R, .int _⟩
    rw [List.getElem?_map, List.getElem?_range hi]
    rfl
  stop := fun i H' m' S k g R _ hi => by
    unfold rangeD at hi
    rw [List.length_map, List.length_range] at hi
    exact hi
/-- a tuple, a list or a text, by its value -/
def iAny (K : PySem.W.Frag) (tl : TE) : TI := fun σ H R => tl σ H fun x H1 => (∃ a xs, x = .ref a ∧ SqT K H1 a xs ∧ R (Itt K a) H1) ∨ (∃ a xs, x = .ref a ∧ SqL K H1 a xs ∧ R (Itl K a) H1) ∨ ∃ z, x = .str z ∧ R (Its z) H1
theorem pi_any (hl : PE X l te) : PI X tg l (iAny X.K te) := by
  constructor
  intro pins s σ H R I h
  refine thn (hl.run pins s σ H _ I h) ?_
  rintro v s1 ⟨x, H1, I1, r1, ⟨a, xs, rfl, hq, q⟩ | ⟨a, xs, rfl, hq, q⟩ | ⟨z, rfl, q⟩⟩
  · cases r1
    obtain ⟨its, rv, p, hz⟩ := I1.tuple hq
    exact wpAny_pyIter_tuple (show s1.heap.IsTuple a its.toArray from p)
      (pi_one (tk := s1.toks) I1 _ (turn_tuple a _) ⟨_, Heap.get?_push_size _ rfl, rfl, rfl⟩ q)
  · cases r1
    obtain ⟨its, rv, p, hz⟩ := I1.list hq
    exact wpAny_pyIter_list p.isList (pi_one (tk := s1.toks) I1 _ (turn_list a _) ⟨_, Heap.get?_push_size _ rfl, rfl, rfl⟩ q)
  · obtain ⟨t, rfl⟩ := r1
    cases ha : z.cps.all (· < 128)
    · exact wpAny_pyIter_wide ha (pi_one (tk := s1.toks) I1 _ (turn_str _ z t "str_iterator" (.inr rfl)) ⟨_, Heap.get?_push_size _ rfl, rfl, rfl⟩ q)
    · exact wpAny_pyIter_ascii ha (pi_one (tk := s1.toks) I1 _ (turn_str _ z t "str_ascii_iterator" (.inl rfl)) ⟨_, Heap.get?_push_size _ rfl, rfl, rfl⟩ q)
@[simp] def diAny (t : DE) : DI := fun δ S R => t δ S fun d S1 => match d with
  | .tup ds => R ds (fun _ => True) S1
  | .str z => R (signsD z) (fun _ => True) S1
  | .loc j => ∃ ds, S1[j]? = some (.lst ds) ∧ R ds (fun S => S[j]? = some (.lst ds)) S1
  | _ => False
theorem i_any (h : PD X l te de) : PID X tg l (iAny X.K te) (diAny de) := ⟨pi_any h.pe, fun σ H m S δ R R' Rl e q c =>
  h.sim σ H m S δ _ _ Rl e q fun d S1 v H1 m1 q1 k1 g1 R1 r1 => by
    cases d with
    | tup ds =>
      cases r1 with
      | tup s d1 => exact .inl ⟨_, _, rfl, s, c _ _ S1 H1 m1 _ q1 k1 g1 R1 (it_tup s d1)⟩
    | str z =>
      cases r1
      exact .inr (.inr ⟨z, rfl, c _ _ S1 H1 m1 _ q1 k1 g1 R1 (it_str z)⟩)
    | loc j =>
      obtain ⟨ds, s1, q1⟩ := q1
      obtain ⟨a, vs, rfl, em, hH, d1⟩ := R1.lst r1 s1
      exact .inr (.inl ⟨a, vs, rfl, SqL.of hH, c _ _ S1 H1 m1 _ q1 k1 g1 R1 (it_lst em)⟩)
    | _ => exact (q1 : False).elim⟩
@[simp] def diRng1 (u : DA) : DI := fun δ S R => u δ S fun ds S1 => ∃ j : Int, ds = [.int j] ∧ -1000000 ≤ j ∧ j ≤ 1000000 ∧ R (rangeD 0 j.toNat) (fun _ => True) S1
theorem i_rng1 {a : Expr} {ta : TA} {u : DA} (hg : Gl X "range") (hm : X.mg "range" = none) (ha : PAD X [a] ta u) (hs : starEach [a] X.env = [(false, eval a X.env)] := by rfl) : PID X tg (.Call (.Name "range" p) [a] [] pos) (iRng1 ta) (diRng1 u) :=
  ⟨pi_range1 hg hm ha.pe hs, fun σ H m S δ R R' Rl e q c => ha.sim σ H m S δ _ _ Rl e q fun ds S1 vs H1 m1 ⟨j, ej, h1, h2, q1⟩ k1 g1 R1 r1 => by
    subst ej
    cases r1 with
    | cons r1 r2 =>
      cases r2
      cases r1
      exact ⟨j, rfl, by omega, by omega, c _ _ S1 H1 m1 _ q1 k1 g1 R1 (it_rng 0 _)⟩⟩
@[simp] def diRng2 (u : DA) : DI := fun δ S R => u δ S fun ds S1 => match ds with | [.int i, .int j] => -1000000 ≤ i ∧ i ≤ 1000000 ∧ -1000000 ≤ j ∧ j ≤ 1000000 ∧ R (rangeD i (j - i).toNat) (fun _ => True) S1 | _ => False
theorem i_rng2 {a b : Expr} {ta : TA} {u : DA} (hg : Gl X "range") (hm : X.mg "range" = none) (ha : PAD X [a, b] ta u) (hs : starEach [a, b] X.env = [(false, eval a X.env), (false, eval b X.env)] := by rfl) (hs2 : starEach [b] X.env = [(false, eval b X.env)] := by rfl) :
    PID X tg (.Call (.Name "range" p) [a, b] [] pos) (iRng2 ta) (diRng2 u) :=
  ⟨pi_range2 hg hm ha.pe hs hs2, fun σ H m S δ R R' Rl e q c => ha.sim σ H m S δ _ _ Rl e q fun ds S1 vs H1 m1 q1 k1 g1 R1 r1 => by
    split at q1
    case h_2 => exact q1.elim
    rename_i i j
    obtain ⟨h1, h2, h3, h4, q1⟩ := q1
    cases r1 with
    | cons r1 r2 =>
      cases r2 with
      | cons r2 r3 =>
        cases r3
        cases r1
        cases r2
        exact ⟨i, j, rfl, ⟨by omega, by omega, by omega, by omega⟩, c _ _ S1 H1 m1 _ q1 k1 g1 R1 (it_rng i _)⟩⟩
/-- enumerate(list) -/
def enumD (ds : List D) : List D := ds.zipIdx.map fun p => .tup [.int (p.2 : Nat), p.1]
theorem enumD_at {ds : List D} {i : Nat} {d : D} (h : ds[i]? = some d) : (enumD ds)[i]? = some (.tup [.int (i : Nat), d]) := by
  unfold enumD
  rw [List.getElem?_map, List.getElem?_zipIdx, h]
  simp
theorem enumD_len (ds : List D) : (enumD ds).length = ds.length := by
  unfold enumD
  rw [List.length_map, List.length_zipIdx]
theorem it_enum {K : PySem.W.Frag} {H : Hp} {m : Mp} {a : Addr} {j : Nat} {ds : List D} (e : m[j]? = some a) : ItOk K H m (enumD ds) (fun S => S[j]? = some (.lst ds)) (Ite K a) where
  go := fun i H' m' S k g R hs hi => by
    rw [enumD_len] at hi
    obtain ⟨vs, h, r⟩ := R.ob j a _ (g.at e) hs
    exact ⟨vs, vs[i]'(by rw [r.length]; exact hi), SqL.of h, List.getElem?_eq_getElem _⟩
  yld := fun i H' m' S x H2 k g R hs hi ⟨T, y, ex, hT, eH, hy⟩ => by
    subst ex eH
    obtain ⟨vs, h, r⟩ := R.ob j a _ (g.at e) hs
    obtain ⟨d, h1, h2⟩ := r.getV (hy vs (SqL.of h))
    exact ⟨_, enumD_at h1, .new hT, R.new hT, .tup (SqT.of upd_same) (.cons (.int _) (.cons (Dv.mono (.new hT) (.refl _) _ _ h2) .nil))⟩
  stop := fun i H' m' S k g R hs hi => by
    rw [enumD_len] at hi
    obtain ⟨vs, h, r⟩ := R.ob j a _ (g.at e) hs
    exact ⟨vs, SqL.of h, by rw [r.length]; exact hi⟩
@[simp] def diEnum (u : DA) : DI := fun δ S R => u δ S fun xs S1 => ∃ j ds, xs = [.loc j] ∧ S1[j]? = some (.lst ds) ∧ R (enumD ds) (fun S => S[j]? = some (.lst ds)) S1
theorem i_enum {a : Expr} {ta : TA} {u : DA} {elts : List Expr} {kk : Nat} {tpos : Pos} (hg : Gl X "enumerate") (hm : X.mg "enumerate" = none) (ha : PAD X [a] ta u) (hs : starEach [a] X.env = [(false, eval a X.env)] := by rfl) :
    PID X (.Tuple elts kk tpos) (.Call (.Name "enumerate" p) [a] [] pos) (iEnum X.K ta) (diEnum u) :=
  ⟨pi_enum hg hm ha.pe hs, fun σ H m S δ R R' Rl e q c => ha.sim σ H m S δ _ _ Rl e q fun xs S1 vs H1 m1 ⟨j, ds, ej, s1, q1⟩ k1 g1 R1 r1 => by
    subst ej
    cases r1 with
    | cons r1 r2 =>
      cases r2
      obtain ⟨a, vs, rfl, em, hH, d1⟩ := R1.lst r1 s1
      exact ⟨a, vs, rfl, SqL.of hH, c _ _ S1 H1 m1 _ q1 k1 g1 R1 (it_enum em)⟩⟩
end

/-! ### for -/
def forL (st : Sto → Prop) (g : DG) (tb : DS) : List D → DS
  | [], D, δ, S => st S ∧ D.nx δ S
  | x :: xs, D, δ, S => st S ∧ g x δ S fun δ2 S2 => tb { D with nx := forL st g tb xs D, ct := forL st g tb xs D, bk := D.nx } δ2 S2
@[simp] def sFor (di : DI) (g : DG) (tb : DS) : DS := fun D δ S => di δ S fun items st S1 => forL st g tb items D δ S1
theorem sim_for {K : PySem.W.Frag} {wi : TI} {di : DI} {g : TG} {g' : DG} {tb : TS} {tb' : DS} (hi : SimI K wi di) (hg : SimG K g g') (hb : SimS K tb tb') : SimS K (tFor wi g tb) (sFor di g' tb') := by
  intro σ H m S δ D D' R e q c
  refine hi σ H m S δ _ _ R e q ?_
  intro items st S1 H1 m1 J q1 k1 g1 R1 J1
  refine ⟨fun i n σ H => n = items.length - i ∧ i ≤ items.length ∧ ∃ m S δ, Kp H1 H ∧ Gr m1 m ∧ Rel K H m S ∧ EnvR K H m σ δ ∧ forL st g' tb' (items.drop i) D' δ S,
    ⟨items.length, rfl, Nat.zero_le _, m1, S1, δ, .refl _, .refl _, R1, e.mono k1 g1, q1⟩, ?_⟩
  rintro i n σ2 H2 ⟨rfl, hle, m2, S2, δ2, k2, g2, R2, e2, q2⟩
  by_cases hlt : i < items.length
  · rw [List.drop_eq_getElem_cons hlt] at q2
    obtain ⟨hst, q2⟩ := q2
    refine .inr ⟨J1.go i H2 m2 S2 k2 g2 R2 hst hlt, fun σ H => ∃ m S δ, Kp H1 H ∧ Gr m1 m ∧ Rel K H m S ∧ EnvR K H m σ δ ∧ forL st g' tb' (items.drop (i + 1)) D' δ S,
      fun σ' H' h => ⟨items.length - (i + 1), by omega, rfl, hlt, h⟩, fun x H' y => ?_⟩
    obtain ⟨d, hd, k3, R3, r3⟩ := J1.yld i H2 m2 S2 x H' k2 g2 R2 hst hlt y
    rw [List.getElem?_eq_getElem hlt] at hd
    cases hd
    refine hg σ2 H' m2 S2 δ2 _ x _ _ R3 (e2.mono k3 (.refl _)) r3 q2 ?_
    intro δ4 S4 σ4 H4 m4 q4 k4 g4 R4 e4
    have kk : Kp H1 H4 := (k2.trans k3).trans k4
    have gg : Gr m1 m4 := g2.trans g4
    have again : ContS K H4 m4 (forL st g' tb' (items.drop (i + 1)) D') (fun σ H => ∃ m S δ, Kp H1 H ∧ Gr m1 m ∧ Rel K H m S ∧ EnvR K H m σ δ ∧ forL st g' tb' (items.drop (i + 1)) D' δ S) :=
      fun δ5 S5 σ5 H5 m5 q5 k5 g5 R5 e5 => ⟨m5, S5, δ5, kk.trans k5, gg.trans g5, R5, e5, q5⟩
    have cc := c.mono (k1.trans kk) (g1.trans gg)
    exact hb σ4 H4 m4 S4 δ4 _ _ R4 e4 q4 ⟨again, cc.rt, cc.nx, again⟩
  · have ei : i = items.length := by omega
    subst ei
    rw [List.drop_length] at q2
    obtain ⟨hst, q2⟩ := q2
    exact .inl ⟨J1.stop _ H2 m2 S2 k2 g2 R2 hst (Nat.le_refl _), c.nx δ2 S2 σ2 H2 m2 q2 (k1.trans k2) (g1.trans g2) R2 e2⟩
theorem s_for {X : Cx} {tg iter : Expr} {body : List Stmt} {wi : TI} {di : DI} {g : TG} {g' : DG} {tb : TS} {tb' : DS} {pos : Pos} (hp : PassesOwn (model X.prog X.w) X.A X.env X.xe) (hc : X.calm = true) (hi : PID X tg iter wi di) (hg : PGD X tg g g') (hb : PSsD X body tb tb')
    (hs : ∀ x, foldedSetIterable iter X.env x = pure x := by intro _; rfl) : PSD X (.For tg iter body [] pos) (tFor wi g tb) (sFor di g' tb') := ⟨ps_for hp hc hi.pe hg.pe hb.pe hs, sim_for hi.sim hg.sim hb.sim⟩

/-! ### while -/
def whileL (c : DT) (tb : DS) : Nat → DS
  | 0, _, _, _ => False
  | n + 1, D, δ, S => c δ S fun b S1 => if b = true then tb { D with nx := whileL c tb n D, ct := whileL c tb n D, bk := D.nx } δ S1 else D.nx δ S1
def sWhile (c : DT) (tb : DS) : DS := fun D δ S => ∃ n, whileL c tb n D δ S
theorem sim_while {K : PySem.W.Frag} {c : TT} {c' : DT} {tb : TS} {tb' : DS} (hc : SimT K c c') (hb : SimS K tb tb') : SimS K (tWhile c tb) (sWhile c' tb') := by
  intro σ H m S δ D D' R e ⟨n0, q⟩ cc
  refine ⟨fun n σ H2 => ∃ m2 S δ, Kp H H2 ∧ Gr m m2 ∧ Rel K H2 m2 S ∧ EnvR K H2 m2 σ δ ∧ whileL c' tb' n D' δ S, ⟨n0, m, S, δ, .refl _, .refl _, R, e, q⟩, ?_⟩
  rintro n σ2 H2 ⟨m2, S2, δ2, k2, g2, R2, e2, q2⟩
  cases n with
  | zero => exact q2.elim
  | succ n =>
    refine hc σ2 H2 m2 S2 δ2 _ _ R2 e2 q2 ?_
    intro b S3 H3 m3 q3 k3 g3 R3
    have kk := k2.trans k3
    have gg := g2.trans g3
    cases b with
    | false =>
      exact cc.nx δ2 S3 σ2 H3 m3 q3 kk gg R3 (e2.mono k3 g3)
    | true =>
      refine ⟨fun σ H2 => ∃ m2 S δ, Kp H H2 ∧ Gr m m2 ∧ Rel K H2 m2 S ∧ EnvR K H2 m2 σ δ ∧ whileL c' tb' n D' δ S, fun σ' H' h => ⟨n, Nat.lt_succ_self n, h⟩, ?_⟩
      have again : ContS K H3 m3 (whileL c' tb' n D') (fun σ H2 => ∃ m2 S δ, Kp H H2 ∧ Gr m m2 ∧ Rel K H2 m2 S ∧ EnvR K H2 m2 σ δ ∧ whileL c' tb' n D' δ S) :=
        fun δ5 S5 σ5 H5 m5 q5 k5 g5 R5 e5 => ⟨m5, S5, δ5, kk.trans k5, gg.trans g5, R5, e5, q5⟩
      have c2 := cc.mono kk gg
      exact hb σ2 H3 m3 S3 δ2 _ _ R3 (e2.mono k3 g3) q3 ⟨again, c2.rt, c2.nx, again⟩
theorem s_while {X : Cx} {c : Expr} {body : List Stmt} {tc : TT} {dc : DT} {tb : TS} {tb' : DS} {pos : Pos} (hp : PassesOwn (model X.prog X.w) X.A X.env X.xe) (hc : PTD X c tc dc) (hb : PSsD X body tb tb') : PSD X (.While c body [] pos) (tWhile tc tb) (sWhile dc tb') :=
  ⟨ps_while hp hc.pe hb.pe, sim_while hc.sim hb.sim⟩

/-! ### list comprehensions -/
def lcL (st : Sto → Prop) (i l : Nat) (tt : DT) (te : DE) : List D → DEnv → Sto → DK → Prop
  | [], _, S, Q => st S ∧ Q (.loc l) S
  | x :: xs, δ, S, Q => st S ∧ tt (δ.set i (some x)) S fun b S2 => if b = true then te (δ.set i (some x)) S2 fun y S3 => ∃ acc, S3[l]? = some (.lst acc) ∧ acc.length < 100000 ∧ lcL st i l tt te xs δ (S3.set l (.lst (acc ++ [y]))) Q else lcL st i l tt te xs δ S2 Q
@[simp] def dLc (di : DI) (i : Nat) (tt : DT) (te : DE) : DE := fun δ S Q => di δ S fun items st S1 => lcL st i S1.length tt te items (δ.set i none) (S1 ++ [.lst []]) Q
@[simp] def dYes : DT := fun _ S Q => Q true S
theorem EnvR.wipe {K : PySem.W.Frag} {H : Hp} {m : Mp} {σ : L2.St} {δ : DEnv} (e : EnvR K H m σ δ) (i : Nat) : EnvR K H m (L2.wipe σ [i]) (δ.set i none) := by
  show EnvR K H m (σ.set i none) (δ.set i none)
  refine ⟨by rw [List.length_set, List.length_set]; exact e.len, fun j d h => ?_⟩
  by_cases hj : j = i
  · subst hj
    by_cases hl : j < δ.length
    · rw [List.getElem?_set_self hl] at h
      cases h
    · rw [List.getElem?_eq_none (by rw [List.length_set]; omega)] at h
      cases h
  · rw [List.getElem?_set_ne (fun z => hj z.symm)] at h
    obtain ⟨v, a, b⟩ := e.at_ j d h
    exact ⟨v, by rw [List.getElem?_set_ne (fun z => hj z.symm)]; exact a, b⟩
theorem sim_lc {K : PySem.W.Frag} {wi : TI} {di : DI} {tt : TT} {tt' : DT} {te : TE} {te' : DE} {i : Nat} (hi : SimI K wi di) (ht : SimT K tt tt') (he : SimE K te te') : SimE K (tLc wi (gName i) tt te [i]) (dLc di i tt' te') := by
  intro σ H m S δ Q Q' R e q c
  refine hi σ H m S δ _ _ R e q ?_
  intro items st S1 H1 m1 J q1 k1 g1 R1 J1 DD hD
  have kD : Kp H1 (upd H1 DD (.lst [])) := .new hD
  have gD : Gr m1 (m1 ++ [DD]) := ⟨[DD], rfl⟩
  have RD : Rel K (upd H1 DD (.lst [])) (m1 ++ [DD]) (S1 ++ [.lst []]) := R1.push hD .nil
  have mD : (m1 ++ [DD])[S1.length]? = some DD := by rw [← R1.len, List.getElem?_append_right (Nat.le_refl _), Nat.sub_self]; rfl
  refine ⟨fun j n H => n = items.length - j ∧ j ≤ items.length ∧ ∃ m S, Kp (upd H1 DD (.lst [])) H ∧ Gr (m1 ++ [DD]) m ∧ Rel K H m S ∧ lcL st i S1.length tt' te' (items.drop j) (δ.set i none) S Q',
    ⟨items.length, rfl, Nat.zero_le _, m1 ++ [DD], _, .refl _, .refl _, RD, q1⟩, ?_⟩
  rintro j n H2 ⟨rfl, hle, m2, S2, k2, g2, R2, q2⟩
  by_cases hlt : j < items.length
  · rw [List.drop_eq_getElem_cons hlt] at q2
    obtain ⟨hst, q2⟩ := q2
    refine .inr ⟨J1.go j H2 m2 S2 (kD.trans k2) (gD.trans g2) R2 hst hlt, fun H => ∃ m S, Kp (upd H1 DD (.lst [])) H ∧ Gr (m1 ++ [DD]) m ∧ Rel K H m S ∧ lcL st i S1.length tt' te' (items.drop (j + 1)) (δ.set i none) S Q',
      fun H' h => ⟨items.length - (j + 1), by omega, rfl, hlt, h⟩, fun x H' y => ?_⟩
    obtain ⟨d, hd, k3, R3, r3⟩ := J1.yld j H2 m2 S2 x H' (kD.trans k2) (gD.trans g2) R2 hst hlt y
    rw [List.getElem?_eq_getElem hlt] at hd
    cases hd
    have k13 : Kp H1 H' := (kD.trans k2).trans k3
    have g13 : Gr m1 m2 := gD.trans g2
    have e3 : EnvR K H' m2 ((L2.wipe σ [i]).set i (some x)) ((δ.set i none).set i (some items[j])) := ((e.mono (k1.trans k13) (g1.trans g13)).wipe i).set i r3
    refine ⟨?_, ht _ H' m2 S2 _ _ _ R3 e3 q2 ?_⟩
    · show (((σ.set i none).set i (some x)).set i none) = σ.set i none
      rw [List.set_set, List.set_set]
    · intro b S4 H4 m4 q4 k4 g4 R4
      cases b with
      | false => exact ⟨m4, S4, (k2.trans k3).trans k4, g2.trans g4, R4, q4⟩
      | true =>
        refine he _ H4 m4 S4 _ _ _ R4 (e3.mono k4 g4) q4 ?_
        intro y2 S5 v5 H5 m5 q5 k5 g5 R5 r5
        obtain ⟨acc, s5, hl5, q5⟩ := q5
        have em : m5[S1.length]? = some DD := ((g2.trans g4).trans g5).at mD
        obtain ⟨vs, hH5, d5⟩ := R5.ob _ _ _ em s5
        refine ⟨vs, hH5, by rw [d5.length]; exact small5' hl5, m5, _, (((k2.trans k3).trans k4).trans k5).trans (.put hH5), (g2.trans g4).trans g5, R5.put em hH5 (d5.append (.cons r5 .nil)), q5⟩
  · have ei : j = items.length := by omega
    subst ei
    rw [List.drop_length] at q2
    obtain ⟨hst, q2⟩ := q2
    refine .inl ⟨J1.stop _ H2 m2 S2 (kD.trans k2) (gD.trans g2) R2 hst (Nat.le_refl _), ?_⟩
    exact c (.loc S1.length) S2 (.ref DD) H2 m2 q2 ((k1.trans kD).trans k2) ((g1.trans gD).trans g2) R2 (.loc (g2.at mD))
section
variable {X : Cx} {elt tg iter : Expr} {ifs : List Expr} {scope : Scope} {y x : Str} {i j : Nat} {pos spos px py : Pos} {wi : TI} {di : DI} {tt : TT} {tt' : DT} {te : TE} {te' : DE}
structure PTsD (X : Cx) (ifs : List Expr) (tt : TT) (t : DT) : Prop where
  pe : PTs X ifs tt
  sim : SimT X.K tt t
theorem dts_nil : PTsD X [] tYes dYes := ⟨pts_nil, fun σ H m S δ Q Q' R e q c => c true S H m q (.refl H) (.refl m) R⟩
theorem dts_one {c : Expr} {t : TT} {t' : DT} (h : PTD X c t t') : PTsD X [c] t t' := ⟨pts_one h.pe, h.sim⟩
theorem d_lc (hc : X.calm = true) (hN : X.N.Nodup) (hi : PID X (.Name x px) iter wi di) (ok : BlkOk X.N X.env.scope scope [(x, i)])
    (hg : ∀ (s : Shared) (H : Hp) (C : Addr) (cl : List (Str × Addr)) (fp : List Addr), PG (X.blk s H scope (compEnvC scope cl C X.env) fp) (.Name x px) (gName i))
    (ht : ∀ (s : Shared) (H : Hp) (C : Addr) (cl : List (Str × Addr)) (fp : List Addr), PTsD (X.blk s H scope (compEnvC scope cl C X.env) fp) ifs tt tt')
    (he : ∀ (s : Shared) (H : Hp) (C : Addr) (cl : List (Str × Addr)) (fp : List Addr), PD (X.blk s H scope (compEnvC scope cl C X.env) fp) elt te te') (hs : ∀ x, foldedSetIterable iter X.env x = pure x := by intro _; rfl) (s0 : Shared) :
    PD X (.ListComp elt [⟨.Name x px, iter, ifs, 0⟩] scope pos) (tLc wi (gName i) tt te [i]) (dLc di i tt' te') :=
  ⟨pe_lc (own := [(x, i)]) hc hN hi.pe ok hg (fun s H C cl fp => (ht s H C cl fp).pe) (fun s H C cl fp => (he s H C cl fp).pe) hs,
   sim_lc hi.sim (ht s0 (fun _ => none) 0 [] []).sim (he s0 (fun _ => none) 0 [] []).sim⟩
theorem s_setLc (hc : X.calm = true) (hN : X.N.Nodup) (hy : X.N[j]? = some y) (hyl : X.env.scope.names.lookup y = some .local) (hsw : swapsWith (.ListComp elt [⟨.Name x px, iter, ifs, 0⟩] scope pos) (some (.Name y py)) spos.line X.env = pure true)
    (hi : PID X (.Name x px) iter wi di) (ok : BlkOk X.N X.env.scope scope [(x, i)])
    (hg : ∀ (s : Shared) (H : Hp) (C : Addr) (cl : List (Str × Addr)) (fp : List Addr), PG (X.blk s H scope (compEnvC scope cl C X.env) fp) (.Name x px) (gName i))
    (ht : ∀ (s : Shared) (H : Hp) (C : Addr) (cl : List (Str × Addr)) (fp : List Addr), PTsD (X.blk s H scope (compEnvC scope cl C X.env) fp) ifs tt tt')
    (he : ∀ (s : Shared) (H : Hp) (C : Addr) (cl : List (Str × Addr)) (fp : List Addr), PD (X.blk s H scope (compEnvC scope cl C X.env) fp) elt te te') (hs : ∀ x, foldedSetIterable iter X.env x = pure x := by intro _; rfl) (s0 : Shared) :
    PSD X (.Assign [.Name y py] (.ListComp elt [⟨.Name x px, iter, ifs, 0⟩] scope pos) spos) (tAsg (tLc wi (gName i) tt te [i]) (gName j)) (sAsg (dLc di i tt' te') (gdName j)) :=
  ⟨ps_setLc (own := [(x, i)]) hc hN hy hyl hsw hi.pe ok hg (fun s H C cl fp => (ht s H C cl fp).pe) (fun s H C cl fp => (he s H C cl fp).pe) hs,
   sim_asg (sim_lc hi.sim (ht s0 (fun _ => none) 0 [] []).sim (he s0 (fun _ => none) 0 [] []).sim) sim_gName⟩
end

/-! ### a def -/
@[simp] def startD (n : Nat) (ds : List D) : DEnv := ds.map some ++ List.replicate (n - ds.length) none
theorem envR_start {K : PySem.W.Frag} {H : Hp} {m : Mp} {vs : List V} {ds : List D} (N : List Str) (r : DvA K H m vs ds) : EnvR K H m (start N vs) (startD N.length ds) := by
  unfold L2.start startD
  refine ⟨by rw [List.length_append, List.length_append, List.length_map, List.length_map, List.length_replicate, List.length_replicate, r.length], fun i d h => ?_⟩
  by_cases hi : i < ds.length
  · rw [List.getElem?_append_left (by rw [List.length_map]; exact hi), List.getElem?_map] at h
    obtain ⟨d', hd, e⟩ := Option.map_eq_some_iff.mp h
    cases e
    obtain ⟨v, h1, h2⟩ := r.get hd
    refine ⟨v, ?_, h2⟩
    rw [List.getElem?_append_left (by rw [List.length_map, r.length]; exact hi), List.getElem?_map, h1]
    rfl
  · rw [List.getElem?_append_right (by rw [List.length_map]; omega)] at h
    rw [List.getElem?_replicate] at h
    split at h <;> cases h
theorem defD {P : Program} {w : World} {K : PySem.W.Frag} {mg : Str → Option Value} {base : Heap} {k n : Nat} {x qual : Str} {st : Stmt} {f : Addr} {fd : FuncData} {ps N : List Str} {c : DSp}
    (F : Fun K x qual st f fd) (S : FnScope N ps (defScope st)) (hm : mg x = some (.ref f)) (hb : Binds K fd ps []) (hn : ps.length = n) (len : ∀ ds S Q, c ds S Q → ds.length = n)
    (hb0 : ∀ (cdv : Value) (A : Around) (outer : List Env) (s : Shared) (H : Hp) (E : XK),
      (cxD P w K mg base N qual st f cdv A outer s H E).A.guards = some [] → Room k (cxD P w K mg base N qual st f cdv A outer s H E).A →
      ∃ ts t, PSsD (cxD P w K mg base N qual st f cdv A outer s H E) (defBody st) ts t ∧ ∀ (ds : List D) (S : Sto) (Q : DK), c ds S Q → t { nx := fun _ S' => Q .non S', rt := Q } (startD N.length ds) S) :
    DefD P w K mg base (k + 1) x n c := by
  refine ⟨f, fd, ps, hn, funG F S (fun vs H Q E ⟨m, S', ds, Q', R, r, hc, ct⟩ => by rw [r.length, len _ _ _ hc, hn]) ?_, hm, F.kp, hb⟩
  intro cdv A outer s H E hg hr
  obtain ⟨ts, t, h, q⟩ := hb0 cdv A outer s H E hg hr
  refine ⟨ts, h.pe, ?_⟩
  rintro H vs Q E ⟨m, S', ds, Q', R, r, hc, ct⟩
  exact h.sim _ H m S' _ _ _ R (envR_start N r) (q ds S' Q' hc)
    ⟨fun δ' S2 σ' H' m' q' k g R' e' => ct _ S2 _ H' m' q' k g R' .non, ct, fun δ' S2 σ' H' m' q' _ _ _ _ => q'.elim, fun δ' S2 σ' H' m' q' _ _ _ _ => q'.elim⟩
end DL

set_option Elab.async false
set_option linter.all false
set_option maxRecDepth 100000
set_option maxHeartbeats 1000000
namespace DL
open PySem L2 PyProof.Rows
/-! ### dicts -/
def valD (kvs : List (Key × D)) (k : Key) : Option D := (kvs.find? fun kv => decide (kv.1 = k)).map (·.2)
theorem val_rel {K : PySem.W.Frag} {H : Hp} {m : Mp} {k : Key} : ∀ {kws : List (Key × V)} {kvs : List (Key × D)}, kws.map (·.1) = kvs.map (·.1) → DvA K H m (kws.map (·.2)) (kvs.map (·.2)) →
    (valV kws k = none ∧ valD kvs k = none) ∨ ∃ v d, valV kws k = some v ∧ valD kvs k = some d ∧ Dv K H m v d
  | [], [], _, _ => .inl ⟨rfl, rfl⟩
  | [], _ :: _, h, _ => by cases h
  | _ :: _, [], h, _ => by cases h
  | (a, v) :: r, (b, d) :: s, h, q => by
    have h1 : a = b := (List.cons.inj h).1
    have h2 : r.map (·.1) = s.map (·.1) := (List.cons.inj h).2
    subst h1
    cases q with
    | cons q1 q2 =>
      by_cases e : a = k
      · exact .inr ⟨v, d, by simp [valV, e], by simp [valD, e], q1⟩
      · have e1 : valV ((a, v) :: r) k = valV r k := by simp [valV, e]
        have e2 : valD ((a, d) :: s) k = valD s k := by simp [valD, e]
        rw [e1, e2]
        exact val_rel h2 q2
theorem Rel.pushK {K : PySem.W.Frag} {H : Hp} {m : Mp} {S : Sto} (R : Rel K H m S) {p : Addr} {kws : List (Key × V)} {kvs : List (Key × D)} (h : H p = none) (hk : kws.map (·.1) = kvs.map (·.1)) (r : DvA K H m (kws.map (·.2)) (kvs.map (·.2))) :
    Rel K (upd H p (.dK kws)) (m ++ [p]) (S ++ [.dct kvs]) := by
  have k : Kp H (upd H p (.dK kws)) := .new h
  have g : Gr m (m ++ [p]) := ⟨[p], rfl⟩
  refine ⟨by rw [List.length_append, List.length_append, R.len]; rfl, ?_, fun i a o e s => ?_⟩
  · rw [List.nodup_append]
    exact ⟨R.nd, List.nodup_cons.mpr ⟨List.not_mem_nil, List.nodup_nil⟩, fun a ha b hb z => R.out h (by rw [List.mem_singleton.mp hb] at z; exact z ▸ ha)⟩
  · by_cases hi : i < m.length
    · rw [List.getElem?_append_left hi] at e
      rw [List.getElem?_append_left (R.len ▸ hi)] at s
      exact (R.ob i a o e s).mono k g (upd_ne (R.ne h e))
    · have hl : i < (m ++ [p]).length := (List.getElem?_eq_some_iff.mp e).1
      have hi' : i = m.length := by rw [List.length_append, List.length_singleton] at hl; omega
      subst hi'
      rw [List.getElem?_append_right (Nat.le_refl _), Nat.sub_self] at e
      rw [R.len, List.getElem?_append_right (Nat.le_refl _), Nat.sub_self] at s
      cases e
      cases s
      exact ⟨kws, upd_same, hk, DvA.mono k g _ _ r⟩
/-- {'a': 1, ..}: texts to ints, all written -/
def cKV (cs : List (Str × Int)) : List (Key × V) := cs.map fun p => (Sum.inr p.1, .int p.2)
def cKD (cs : List (Str × Int)) : List (Key × D) := cs.map fun p => (Sum.inr p.1, .int p.2)
def cTr (cs : List (Str × Int)) : List (TE × TE) := cs.map fun p => (tC (.str p.1), tC (.int p.2))
theorem tPairs_c {σ : L2.St} {H : Hp} : ∀ (cs : List (Str × Int)) {Q : List (V × V) → Hp → Prop}, Q ((cKV cs).map fun kv => (kV kv.1, kv.2)) H → tPairs (cTr cs) σ H Q
  | [], _, q => q
  | p :: r, _, q => by
    show tPairs (cTr r) σ H _
    exact tPairs_c r q
theorem cK_snd {K : PySem.W.Frag} {H : Hp} {m : Mp} : ∀ cs : List (Str × Int), DvA K H m ((cKV cs).map (·.2)) ((cKD cs).map (·.2))
  | [] => .nil
  | p :: r => .cons (.int _) (cK_snd r)
theorem cK_fst : ∀ cs : List (Str × Int), (cKV cs).map (·.1) = (cKD cs).map (·.1)
  | [] => rfl
  | p :: r => congrArg (Sum.inr p.1 :: ·) (cK_fst r)
section
variable {X : Cx} {pos : Pos} {keys : List (Option Expr)} {values : List Expr}
@[simp] def dDict (cs : List (Str × Int)) : DE := fun _ S Q => Q (.loc S.length) (S ++ [.dct (cKD cs)])
theorem d_dict (cs : List (Str × Int)) (h : PPs X pos keys values (cTr cs)) (hall : keys.all (·.isSome) = true) (hl : keys.length = values.length) (h0 : keys ≠ []) (h15 : keys.length ≤ 15) (hc : cs.length ≤ 15) (hm : mergeK [] (cKV cs) = cKV cs) :
    PD X (.Dict keys values pos) (tDisp (cTr cs)) (dDict cs) := ⟨pe_disp h hall hl h0 h15, fun σ H m S δ Q Q' R e q c p hp => by
  refine tPairs_c cs ⟨upd_same, cKV cs, rfl, by unfold cKV; rw [List.length_map]; exact hc, ?_⟩
  rw [upd_upd, hm]
  exact c _ _ _ _ (m ++ [p]) q (.new hp) ⟨[p], rfl⟩ (R.pushK hp (cK_fst cs) (cK_snd cs)) (.loc (by rw [← R.len, List.getElem?_append_right (Nat.le_refl _), Nat.sub_self]; rfl))⟩
@[simp] def dGet2 (t u w : DE) : DE := fun δ S Q => t δ S fun x S1 => ∃ i, x = .loc i ∧ (∃ kvs, S1[i]? = some (.dct kvs)) ∧ u δ S1 fun y S2 => w δ S2 fun z S3 => ∃ kvs s, S3[i]? = some (.dct kvs) ∧ y = .str s ∧ Q ((valD kvs (.inr s)).getD z) S3
theorem d_get2 {o e f : Expr} {td ty tx : TE} {t u w : DE} {apos : Pos} (hu : X.A.units + 1 < cLine) (ho : PD X o td t) (he : PD X e ty u) (hf : PD X f tx w) (mm : M2 X o "get" apos e f pos) :
    PD X (.Call (.Attribute o "get" apos) [e, f] [] pos) (tDGet2 td ty tx) (dGet2 t u w) := ⟨pe_dget2 hu ho.pe he.pe hf.pe mm, fun σ H m S δ Q Q' R ev q c => by
  refine ho.sim σ H m S δ _ _ R ev q ?_
  rintro x S1 v H1 m1 ⟨i, rfl, ⟨kvs, s1⟩, q1⟩ k1 g1 R1 r1
  cases r1 with
  | loc em =>
    obtain ⟨kws, hH, hk, r⟩ := R1.ob i _ _ em s1
    refine ⟨_, rfl, .inl ⟨kws, .inl hH⟩, he.sim σ H1 m1 S1 δ _ _ R1 (ev.mono k1 g1) q1 ?_⟩
    intro y S2 vy H2 m2 q2 k2 g2 R2 r2
    refine hf.sim σ H2 m2 S2 δ _ _ R2 (ev.mono (k1.trans k2) (g1.trans g2)) q2 ?_
    rintro z S3 vz H3 m3 ⟨kvs3, s, s3, rfl, q3⟩ k3 g3 R3 r3
    cases r2
    have em3 := (g2.trans g3).at em
    obtain ⟨kws3, hH3, hk3, r3'⟩ := R3.ob i _ _ em3 s3
    have cc := c.mono ((k1.trans k2).trans k3) ((g1.trans g2).trans g3)
    refine ⟨_, DGet.k (k := Sum.inr s) hH3, ?_⟩
    rcases val_rel (k := Sum.inr s) hk3 r3' with ⟨e1, e2⟩ | ⟨v, d, e1, e2, dd⟩
    · rw [e1]
      rw [e2] at q3
      exact cc.same R3 q3 r3
    · rw [e1]
      rw [e2] at q3
      exact cc.same R3 q3 dd⟩
end
end DL

set_option Elab.async false
set_option linter.all false
set_option maxRecDepth 100000
namespace DL
open PySem L2 PyProof.Rows
theorem bt_len : bootBuiltins "len" = some (.builtin "len") := by decide +kernel
theorem bt_abs : bootBuiltins "abs" = some (.builtin "abs") := by decide +kernel
theorem bt_sum : bootBuiltins "sum" = some (.builtin "sum") := by decide +kernel
theorem bt_all : bootBuiltins "all" = some (.builtin "all") := by decide +kernel
theorem bt_repr : bootBuiltins "repr" = some (.builtin "repr") := by decide +kernel
theorem bt_isinstance : bootBuiltins "isinstance" = some (.builtin "isinstance") := by decide +kernel
theorem bt_int : bootBuiltins "int" = some (.type "int") := by decide +kernel
theorem bt_str : bootBuiltins "str" = some (.type "str") := by decide +kernel
theorem bt_bool : bootBuiltins "bool" = some (.type "bool") := by decide +kernel
theorem bt_tuple : bootBuiltins "tuple" = some (.type "tuple") := by decide +kernel
theorem bt_list : bootBuiltins "list" = some (.type "list") := by decide +kernel
theorem bt_dict : bootBuiltins "dict" = some (.type "dict") := by decide +kernel
theorem u65 {k : Nat} {A : Around} (r : Room k A) : A.units + 65 < cLine := by have := r.un; omega
def vAbs : List V → Hp → VK → Prop := fun xs H Q => ∃ i, xs = [.int i] ∧ Q (.int (if i < 0 then -i else i)) H
def vInt : List V → Hp → VK → Prop := fun xs H Q => (∃ i, xs = [.int i] ∧ Q (.int i) H) ∨ ∃ k, xs = [.bl k] ∧ Q (.int (if k then 1 else 0)) H
def rdAbs : List D → Sto → DK → Prop := fun xs S Q => ∃ i, xs = [.int i] ∧ Q (.int (if i < 0 then -i else i)) S
def rdSum : List D → Sto → DK → Prop := fun xs S Q => ∃ i ns, xs = [.loc i] ∧ S[i]? = some (.lst (List.map D.int ns)) ∧ Q (.int ns.sum) S
def rdAll : List D → Sto → DK → Prop := fun xs S Q => ∃ i bs, xs = [.loc i] ∧ S[i]? = some (.lst (List.map D.bl bs)) ∧ Q (.bl (bs.all id)) S
def rdRepr : List D → Sto → DK → Prop := fun xs S Q => ∃ d p, xs = [d] ∧ PyOf S d p ∧ p.showable = true ∧ p.hasDict = false ∧ p.shown.length ≤ sizeLine ∧ p.depth ≤ 60 ∧ Q (.str p.shown) S
end DL

set_option Elab.async false
set_option linter.all false
set_option maxRecDepth 100000
namespace DL
open PySem L2 PyProof.Rows
theorem map_toNat_inj : ∀ {a b : List Char}, a.map Char.toNat = b.map Char.toNat → a = b
  | [], [], _ => rfl
  | [], _ :: _, h => by cases h
  | _ :: _, [], h => by cases h
  | x :: a, y :: b, h => by
    have h1 : x.toNat = y.toNat := (List.cons.inj h).1
    have h2 := map_toNat_inj (List.cons.inj h).2
    have h3 : x = y := Char.ext (UInt32.toNat_inj.mp h1)
    rw [h3, h2]
@[simp] theorem str_inj (a b : String) : (Str.ofString a = Str.ofString b) = (a = b) := by
  apply propext
  constructor
  · intro h
    rw [Str.ofString_eq_toList, Str.ofString_eq_toList] at h
    have h2 : (a.toList.map Char.toNat).toArray = (b.toList.map Char.toNat).toArray := congrArg Str.cps h
    have h3 : a.toList.map Char.toNat = b.toList.map Char.toNat := by simpa using congrArg Array.toList h2
    exact String.toList_inj.mp (map_toNat_inj h3)
  · intro h
    rw [h]
@[simp] theorem kb1 : kitB "int" "int" = some true := by decide +kernel
@[simp] theorem kb2 : kitB "int" "bool" = some false := by decide +kernel
@[simp] theorem kb3 : kitB "int" "str" = some false := by decide +kernel
@[simp] theorem kb4 : kitB "int" "tuple" = some false := by decide +kernel
@[simp] theorem kb5 : kitB "bool" "int" = some true := by decide +kernel
@[simp] theorem kb6 : kitB "bool" "bool" = some true := by decide +kernel
@[simp] theorem kb7 : kitB "bool" "str" = some false := by decide +kernel
@[simp] theorem kb8 : kitB "bool" "tuple" = some false := by decide +kernel
@[simp] theorem kb9 : kitB "str" "int" = some false := by decide +kernel
@[simp] theorem kb10 : kitB "str" "bool" = some false := by decide +kernel
@[simp] theorem kb11 : kitB "str" "str" = some true := by decide +kernel
@[simp] theorem kb12 : kitB "str" "tuple" = some false := by decide +kernel
@[simp] theorem kb13 : kitB "tuple" "int" = some false := by decide +kernel
@[simp] theorem kb14 : kitB "tuple" "bool" = some false := by decide +kernel
@[simp] theorem kb15 : kitB "tuple" "str" = some false := by decide +kernel
@[simp] theorem kb16 : kitB "tuple" "tuple" = some true := by decide +kernel
@[simp] theorem kb17 : kitB "NoneType" "int" = some false := by decide +kernel
@[simp] theorem kb18 : kitB "NoneType" "bool" = some false := by decide +kernel
@[simp] theorem kb19 : kitB "NoneType" "str" = some false := by decide +kernel
@[simp] theorem kb20 : kitB "NoneType" "tuple" = some false := by decide +kernel
@[simp] theorem kb21 : kitB "list" "int" = some false := by decide +kernel
@[simp] theorem kb22 : kitB "list" "bool" = some false := by decide +kernel
@[simp] theorem kb23 : kitB "list" "str" = some false := by decide +kernel
@[simp] theorem kb24 : kitB "list" "tuple" = some false := by decide +kernel
@[simp] theorem kb25 : kitB "dict" "int" = some false := by decide +kernel
@[simp] theorem kb26 : kitB "dict" "bool" = some false := by decide +kernel
@[simp] theorem kb27 : kitB "dict" "str" = some false := by decide +kernel
@[simp] theorem kb28 : kitB "dict" "tuple" = some false := by decide +kernel
theorem pyA_strs {S : Sto} : ∀ ys : List Str, PyOfA S (ys.map D.str) (ys.map PyData.str)
  | [] => .nil
  | y :: r => .cons (.str y) (pyA_strs r)
theorem lay_strs : ∀ ys : List Str, ys.all PyData.strOk = true → PyData.canLayAll0 (ys.map PyData.str) = true
  | [], _ => by simp [PyData.canLayAll0]
  | y :: r, h => by
    rw [List.all_cons, Bool.and_eq_true] at h
    simp [PyData.canLayAll0, PyData.canLay0, h.1, lay_strs r h.2]
theorem dep_strs : ∀ ys : List Str, PyData.depthAll (ys.map PyData.str) = 0
  | [] => by simp [PyData.depthAll]
  | y :: r => by simp [PyData.depthAll, PyData.depth, dep_strs r]
theorem any_strs (x : Str) : ∀ ys : List Str, ((ys.map PyData.str).any fun z => PyData.eqv z (.str x)) = ys.any fun y => y == x
  | [] => rfl
  | y :: r => by
    rw [List.map_cons, List.any_cons, List.any_cons, any_strs x r]
    simp [PyData.eqv]
theorem shaped_str {x : Str} (h : PyData.strOk x = true) : SeqAt.shaped (.str x) = true := by simp [SeqAt.shaped, PyData.canLay0, PyData.depth, h]
theorem in_strs {f : Bool → Bool} {x : Str} {ys : List Str} {S : Sto} {Q : DK} (hx : PyData.strOk x = true) (hy : ys.all PyData.strOk = true) (q : Q (.bl (f (ys.any fun y => y == x))) S) : rdIn f (.str x) (.tup (ys.map D.str)) S Q := by
  refine ⟨.str x, ys.map PyData.str, .str x, pyA_strs ys, shaped_str hx, ?_, ?_⟩
  · simp [SeqAt.shaped, PyData.canLay0, PyData.depth, lay_strs ys hy, dep_strs ys]
  · rw [any_strs]
    exact q
/-- (text, int) in (pairs) -/
def prP (p : Str × Int) : PyData := .tuple [.str p.1, .int p.2]
def prD (p : Str × Int) : D := .tup [.str p.1, .int p.2]
theorem py_pr {S : Sto} (p : Str × Int) : PyOf S (prD p) (prP p) := .tup (.cons (.str _) (.cons (.int _) .nil))
theorem pyA_prs {S : Sto} : ∀ ys : List (Str × Int), PyOfA S (ys.map prD) (ys.map prP)
  | [] => .nil
  | y :: r => .cons (py_pr y) (pyA_prs r)
theorem lay_prs : ∀ ys : List (Str × Int), (ys.all fun p => PyData.strOk p.1) = true → PyData.canLayAll0 (ys.map prP) = true
  | [], _ => by simp [PyData.canLayAll0]
  | y :: r, h => by
    rw [List.all_cons, Bool.and_eq_true] at h
    simp [PyData.canLayAll0, PyData.canLay0, prP, h.1, lay_prs r h.2]
theorem dep_prs : ∀ ys : List (Str × Int), PyData.depthAll (ys.map prP) ≤ 1
  | [] => by simp [PyData.depthAll]
  | y :: r => by
    have := dep_prs r
    simp [PyData.depthAll, PyData.depth, prP]
    omega
theorem any_prs (x : Str × Int) : ∀ ys : List (Str × Int), ((ys.map prP).any fun z => PyData.eqv z (prP x)) = ys.any fun y => y.1 == x.1 && y.2 == x.2
  | [] => rfl
  | y :: r => by
    rw [List.map_cons, List.any_cons, List.any_cons, any_prs x r]
    simp [PyData.eqv, PyData.eqvAll, prP]
theorem in_prs {f : Bool → Bool} {x : Str × Int} {ys : List (Str × Int)} {S : Sto} {Q : DK} (hx : PyData.strOk x.1 = true) (hy : (ys.all fun p => PyData.strOk p.1) = true) (q : Q (.bl (f (ys.any fun y => y.1 == x.1 && y.2 == x.2))) S) : rdIn f (prD x) (.tup (ys.map prD)) S Q := by
  refine ⟨prP x, ys.map prP, py_pr x, pyA_prs ys, ?_, ?_, ?_⟩
  · simp [SeqAt.shaped, PyData.canLay0, PyData.canLayAll0, PyData.depth, PyData.depthAll, prP, hx]
  · have := dep_prs ys
    simp [SeqAt.shaped, PyData.canLay0, PyData.depth, lay_prs ys hy]
    omega
  · rw [any_prs]
    exact q
theorem DefD.never {P : Program} {w : World} {K : PySem.W.Frag} {mg : Str → Option Value} {base : Heap} {x qual : Str} {st : Stmt} {f : Addr} {fd : FuncData} {ps : List Str} (F : Fun K x qual st f fd) (hm : mg x = some (.ref f)) (hb : Binds K fd ps []) (k : Nat) :
    DefD P w K mg base k x ps.length (fun _ _ _ => False) :=
  ⟨f, fd, ps, rfl, ⟨fun vs H Q E ⟨_, _, _, _, _, _, h, _⟩ => h.elim, fun A o s H ar us vs Q E _ _ _ _ _ ⟨_, _, _, _, _, _, h, _⟩ => h.elim⟩, hm, F.kp, hb⟩
@[simp] theorem atI_0 {α : Type} (x : α) (r : List α) : atI (x :: r) 0 = some x := atI_nat (j := 0) rfl
@[simp] theorem atI_1 {α : Type} (x y : α) (r : List α) : atI (x :: y :: r) 1 = some y := atI_nat (j := 1) rfl
@[simp] theorem atI_2 {α : Type} (x y z : α) (r : List α) : atI (x :: y :: z :: r) 2 = some z := atI_nat (j := 2) rfl
@[simp] theorem atI_3 {α : Type} (x y z w : α) (r : List α) : atI (x :: y :: z :: w :: r) 3 = some w := atI_nat (j := 3) rfl
@[simp] theorem atI_4 {α : Type} (x y z w v : α) (r : List α) : atI (x :: y :: z :: w :: v :: r) 4 = some v := atI_nat (j := 4) rfl
theorem cutD_from (ds : List D) (k : Nat) : cutD ds (some (k : Int)) none = ds.drop k := by
  unfold cutD
  rw [HT.sIx_nat, HT.sIx_none]
  by_cases h : k ≤ ds.length
  · rw [Nat.min_eq_left h]
    exact List.take_of_length_le (by rw [List.length_drop]; omega)
  · rw [Nat.min_eq_right (by omega), List.drop_length, List.drop_eq_nil_of_le (by omega)]
    exact List.take_nil
@[simp] theorem cutD_1 (ds : List D) : cutD ds (some 1) none = ds.drop 1 := cutD_from ds 1
@[simp] theorem cutD_2 (ds : List D) : cutD ds (some 2) none = ds.drop 2 := cutD_from ds 2
theorem cutD_to (ds : List D) (k : Nat) : cutD ds none (some (k : Int)) = ds.take k := by
  unfold cutD
  rw [HT.sIx_nat, HT.sIx_none, List.drop_zero, Nat.sub_zero]
  by_cases h : k ≤ ds.length
  · rw [Nat.min_eq_left h]
  · rw [Nat.min_eq_right (by omega), List.take_length, List.take_of_length_le (by omega)]
/-- the store has grown -/
def Ext (S S' : Sto) : Prop := ∃ z, S' = S ++ z
theorem Ext.refl (S : Sto) : Ext S S := ⟨[], (List.append_nil S).symm⟩
theorem Ext.trans {S S1 S2 : Sto} (a : Ext S S1) (b : Ext S1 S2) : Ext S S2 := by
  obtain ⟨x, rfl⟩ := a
  obtain ⟨y, rfl⟩ := b
  exact ⟨x ++ y, List.append_assoc ..⟩
theorem Ext.new (S : Sto) (o : Ob) : Ext S (S ++ [o]) := ⟨[o], rfl⟩
theorem Ext.at {S S' : Sto} {i : Nat} {o : Ob} (e : Ext S S') (h : S[i]? = some o) : S'[i]? = some o := by
  obtain ⟨z, rfl⟩ := e
  obtain ⟨hi, _⟩ := List.getElem?_eq_some_iff.mp h
  rw [List.getElem?_append_left hi]
  exact h
theorem Ext.len {S S' : Sto} (e : Ext S S') : S.length ≤ S'.length := by
  obtain ⟨z, rfl⟩ := e
  rw [List.length_append]
  omega
def Gq (Q : DK) (d : D) (S : Sto) : Prop := ∀ S', Ext S S' → Q d S'
theorem Gq.up {Q : DK} {d : D} {S S1 : Sto} (h : Gq Q d S) (e : Ext S S1) : Gq Q d S1 := fun S2 e2 => h S2 (e.trans e2)
theorem Gq.now {Q : DK} {d : D} {S : Sto} (h : Gq Q d S) : Q d S := h S (.refl S)
theorem at_end (S : Sto) (o : Ob) : (S ++ [o])[S.length]? = some o := by rw [List.getElem?_append_right (Nat.le_refl _), Nat.sub_self]; rfl
theorem set_end (S : Sto) (o o2 : Ob) : (S ++ [o]).set S.length o2 = S ++ [o2] := by
  rw [List.set_append_right (h := Nat.le_refl _), Nat.sub_self]
  rfl
theorem all_bs {S : Sto} {Q : DK} (bs : List Bool) (h : bs.all id = true) (q : Gq Q (.bl true) S) : rdAll [.loc S.length] (S ++ [.lst (bs.map D.bl)]) Q :=
  ⟨S.length, bs, rfl, at_end S _, by rw [h]; exact q _ (.new _ _)⟩
end DL

set_option Elab.async false
set_option linter.all false
set_option maxHeartbeats 400000
namespace DL
open PySem L2
/-- the def itself, not only by its name -/
theorem fnD {P : Program} {w : World} {K : PySem.W.Frag} {mg : Str → Option Value} {base : Heap} {k n : Nat} {x qual : Str} {st : Stmt} {f : Addr} {fd : FuncData} {ps N : List Str} {c : DSp}
    (F : Fun K x qual st f fd) (S : FnScope N ps (defScope st)) (hn : ps.length = n) (len : ∀ ds S Q, c ds S Q → ds.length = n)
    (hb0 : ∀ (cdv : Value) (A : Around) (outer : List Env) (s : Shared) (H : Hp) (E : XK),
      (cxD P w K mg base N qual st f cdv A outer s H E).A.guards = some [] → Room k (cxD P w K mg base N qual st f cdv A outer s H E).A →
      ∃ ts t, PSsD (cxD P w K mg base N qual st f cdv A outer s H E) (defBody st) ts t ∧ ∀ (ds : List D) (S : Sto) (Q : DK), c ds S Q → t { nx := fun _ S' => Q .non S', rt := Q } (startD N.length ds) S) :
    FnG P w K mg base CX0 (k + 1) f fd ps (toSp K c) := by
  refine funG F S (fun vs H Q E ⟨m, S', ds, Q', R, r, hc, ct⟩ => by rw [r.length, len _ _ _ hc, hn]) ?_
  intro cdv A outer s H E hg hr
  obtain ⟨ts, t, h, q⟩ := hb0 cdv A outer s H E hg hr
  refine ⟨ts, h.pe, ?_⟩
  rintro H vs Q E ⟨m, S', ds, Q', R, r, hc, ct⟩
  exact h.sim _ H m S' _ _ _ R (envR_start N r) (q ds S' Q' hc)
    ⟨fun δ' S2 σ' H' m' q' k g R' e' => ct _ S2 _ H' m' q' k g R' .non, ct, fun δ' S2 σ' H' m' q' _ _ _ _ => q'.elim, fun δ' S2 σ' H' m' q' _ _ _ _ => q'.elim⟩
/-- a def of the module -/
structure Dfn (K : PySem.W.Frag) (mg : Str → Option Value) (x : Str) (st : Stmt) (ps : List Str) : Prop where
  ex : ∃ f fd, Fun K x x st f fd ∧ mg x = some (.ref f) ∧ Binds K fd ps []
end DL
namespace DL
open PySem L2
theorem dfn_mk {K : PySem.W.Frag} {h : Heap} {mg : Str → Option Value} {x : Str} {st : Stmt} {ps : List Str} {f : Addr} {oc kV dc pm cd ct : Value} {od an : Option Addr} {sl : Array (Option Value)} (X : K.In h) (G : h.Ns mainGlobals mg)
    (hb : ∀ (kV doc pm : Value) (an : Option Addr) (cdv ct : Value) (us : List Value), us.length = ps.length → bindArgs (PySem.W.fnOf x x (defArgs st) (defBody st) (defScope st) Value.none kV doc pm an cdv ct) { pos := us } = pure (ps.zip us))
    (a : PySem.W.nsIn K mainGlobals x = some (some (.ref f))) (l : K.lookup f = some ⟨oc, od, .func (PySem.W.fnOf x x (defArgs st) (defBody st) (defScope st) .none kV dc pm an cd ct), sl⟩) (c : PySem.W.codeIn K cd x = true) (k : PySem.W.keepIn K (.ref f) = true) : Dfn K mg x st ps := by
  have F := fun_mk (st := st) l c k
  exact ⟨f, _, F, PySem.W.mg_of X G a, F.binds hb⟩
theorem int_mk {K : PySem.W.Frag} {h : Heap} {mg : Str → Option Value} {x : Str} {i : Int} {t : Tok} (X : K.In h) (G : h.Ns mainGlobals mg) (a : PySem.W.nsIn K mainGlobals x = some (some (.int i t))) : GlD K mg x (.int i) (.int i) := ⟨⟨_, PySem.W.mg_of X G a, ⟨_, rfl⟩⟩, fun _ _ => .int i⟩
theorem str_mk {K : PySem.W.Frag} {h : Heap} {mg : Str → Option Value} {x : Str} {i : Str} {t : Tok} (X : K.In h) (G : h.Ns mainGlobals mg) (a : PySem.W.nsIn K mainGlobals x = some (some (.str i t))) : GlD K mg x (.str i) (.str i) := ⟨⟨_, PySem.W.mg_of X G a, ⟨_, rfl⟩⟩, fun _ _ => .str i⟩
/-- a value of the module's top -/
inductive KvA (K : PySem.W.Frag) : List Value → List D → Prop
  | nil : KvA K [] []
  | int {i : Int} {t : Tok} {us ds} : KvA K us ds → KvA K (.int i t :: us) (.int i :: ds)
  | str {i : Str} {t : Tok} {us ds} : KvA K us ds → KvA K (.str i t :: us) (.str i :: ds)
  | tup {a : Addr} {od : Option Addr} {n : Nat} {sl : Array (Option Value)} {ws us : List Value} {es ds : List D} : K.lookup a = some ⟨.type "tuple", od, .seq ⟨ws⟩ n, sl⟩ → ws.length ≤ sizeLine → KvA K ws es → KvA K us ds → KvA K (.ref a :: us) (.tup es :: ds)
theorem KvA.ok {K : PySem.W.Frag} {us : List Value} {ds : List D} (h : KvA K us ds) : ∃ vs, Vals vs us ∧ ∀ H m, DvA K H m vs ds := by
  induction h with
  | nil => exact ⟨[], .nil, fun _ _ => .nil⟩
  | int h ih =>
    obtain ⟨vs, a, b⟩ := ih
    exact ⟨.int _ :: vs, .cons ⟨_, rfl⟩ a, fun H m => .cons (.int _) (b H m)⟩
  | str h ih =>
    obtain ⟨vs, a, b⟩ := ih
    exact ⟨.str _ :: vs, .cons ⟨_, rfl⟩ a, fun H m => .cons (.str _) (b H m)⟩
  | tup hl hz h1 h2 ih1 ih2 =>
    obtain ⟨vs, a, b⟩ := ih1
    obtain ⟨vs2, a2, b2⟩ := ih2
    exact ⟨.ref _ :: vs2, .cons rfl a2, fun H m => .cons (.tup (.inr ⟨_, _, _, hl, rfl, rfl, hz, a⟩) (b H m)) (b2 H m)⟩
theorem tup_mk {K : PySem.W.Frag} {h : Heap} {mg : Str → Option Value} {x : Str} {a : Addr} {od : Option Addr} {n : Nat} {sl : Array (Option Value)} {ws : List Value} {es : List D} (X : K.In h) (G : h.Ns mainGlobals mg)
    (e : PySem.W.nsIn K mainGlobals x = some (some (.ref a))) (hl : K.lookup a = some ⟨.type "tuple", od, .seq ⟨ws⟩ n, sl⟩) (hz : ws.length ≤ sizeLine) (hk : KvA K ws es) : ∃ a, GlD K mg x (.ref a) (.tup es) := by
  obtain ⟨vs, p, q⟩ := hk.ok
  exact ⟨a, ⟨_, PySem.W.mg_of X G e, rfl⟩, fun H m => .tup (.inr ⟨_, _, _, hl, rfl, rfl, hz, p⟩) (q H m)⟩
/-- the goal that the head leaves, with the law's contract: a script, and true behind it -/
def c_law : DSp := fun ds S Q => ∃ ns : List Int, ds = [.scr ns] ∧ ns.length ≤ 63 ∧ ∀ S', Q (.bl true) S'
theorem walkD {l : PySem.W.OpenLaw} {k : Nat} {q : Program} {loose : List Str} {XP : (Str → Option Value) → Heap → Prop} {YP : World → Heap → Prop}
    {d : DefRec} {K : Params → PySem.W.Frag} {x : Str} (hn : l.most = some 63) (hdf : d.params.defaults = []) (hr : Room k callerA) (hY : ∀ (w : World) (h : Heap), YP w h → (K w.params).In h)
    (F : ∀ (w : World) (mg : Str → Option Value) (fa : Addr) (h : Heap), (K w.params).In h → h.Ns mainGlobals mg → mg d.name = some (.ref fa) →
      ∃ fd : FuncData, (∀ (s : Shared) (u : Value), BindsTo s fd ⟨[u], []⟩ [(x, u)]) ∧
      ∀ base : Heap, (K w.params).In base → base.Ns mainGlobals mg → FnG l.prog w (K w.params) mg base CX0 k fa fd [x] (toSp (K w.params) c_law)) :
    PySem.W.WalkO q loose XP YP l.row.toRowW d [] (fun f vs => PySem.call f vs) :=
  walkG (n := 63) (k := k) (x := x) (CX := fun _ => CX0) (sp := fun w => toSp (K w.params) c_law) hn (by decide) hdf hr hY F
    (fun w H a ns hl hS => ⟨[], [], [.scr ns], fun d _ => d = .bl true, ⟨rfl, .nil, fun i _ _ e _ => by simp at e⟩, .cons (.scr hS) .nil, ⟨ns, rfl, hl, fun _ => rfl⟩, fun d S' v H' m' e _ _ _ r => by cases e; cases r; rfl⟩) (fun _ _ _ _ _ z => z)
theorem top_mk {P : Program} {w : World} {K : PySem.W.Frag} {h : Heap} {mg : Str → Option Value} {x y : Str} {st : Stmt} {k : Nat} {f fa : Addr} {oc kV dc pm cd ct : Value} {od an : Option Addr} {sl : Array (Option Value)} (X : K.In h) (G : h.Ns mainGlobals mg) (hfa : mg x = some (.ref fa))
    (hb : ∀ (kV doc pm : Value) (an : Option Addr) (cdv ct u : Value), bindArgs (PySem.W.fnOf x x (defArgs st) (defBody st) (defScope st) Value.none kV doc pm an cdv ct) { pos := [u] } = pure [(y, u)])
    (hF : ∀ (f : Addr) (fd : FuncData), Fun K x x st f fd → ∀ base : Heap, FnG P w K mg base CX0 k f fd [y] (toSp K c_law))
    (a : PySem.W.nsIn K mainGlobals x = some (some (.ref f))) (l : K.lookup f = some ⟨oc, od, .func (PySem.W.fnOf x x (defArgs st) (defBody st) (defScope st) .none kV dc pm an cd ct), sl⟩) (c : PySem.W.codeIn K cd x = true) (kp : PySem.W.keepIn K (.ref f) = true) :
    ∃ fd : FuncData, (∀ (s : Shared) (u : Value), BindsTo s fd ⟨[u], []⟩ [(y, u)]) ∧ ∀ base : Heap, K.In base → base.Ns mainGlobals mg → FnG P w K mg base CX0 k fa fd [y] (toSp K c_law) := by
  have e := hfa.symm.trans (PySem.W.mg_of X G a)
  cases e
  exact ⟨_, fun s u => .of_eq (hb _ _ _ _ _ _ u), fun base _ _ => hF f _ (fun_mk (st := st) l c kp) base⟩
end DL

set_option Elab.async false
set_option linter.all false
set_option maxRecDepth 100000
set_option maxHeartbeats 4000000
namespace K23
open PySem L2 DL PyProof.Rows
def top (i : Nat) : Stmt := PySem.Challenge.pw_weandthey_k23_bounds_of_programs.main.body.getD i (.Pass ⟨0, 0, 0, 0⟩)
section
variable {P : Program} {w : World} {K : PySem.W.Frag} {mg : Str → Option Value} {base : Heap}
abbrev k_LETTERS : D := .str "abcdefghijklmnopqrstuvwxyz"
abbrev k_DIGITS : D := .str "0123456789"
abbrev k_WORDS : D := .tup [.str "set", .str "pay", .str "stop", .str "if", .str "else", .str "we", .str "they", .str "or", .str "repeat", .str "pass", .str "rest", .str "of", .str "not", .str "program"]
abbrev k_MAX_NAME : D := .int 8
abbrev k_MAX_FACTOR : D := .int 9
abbrev k_EXPRESSIONS : D := .tup [.tup [.str "plus", .int 3], .tup [.str "minus", .int 3], .tup [.str "times", .int 3]]
abbrev k_MAX_CONSTANT : D := .int 99
abbrev k_MAX_BY : D := .int 6
abbrev k_MAX_DEEP : D := .int 3
abbrev k_TESTS : D := .tup [.tup [.str "less", .int 3], .tup [.str "rest", .int 4], .tup [.str "not", .int 2]]
abbrev k_MAX_TIMES : D := .int 8
abbrev k_MAX_NOTS : D := .int 2
abbrev k_STATEMENTS : D := .tup [.tup [.str "set", .int 3], .tup [.str "pay", .int 2], .tup [.str "if", .int 4], .tup [.str "we", .int 3], .tup [.str "they", .int 3], .tup [.str "repeat", .int 3], .tup [.str "stop", .int 1]]
abbrev k_MAX_NEST : D := .int 3
abbrev k_MAX_COMPARINGS : D := .int 2
abbrev k_MAX_RESTS : D := .int 2
abbrev k_MAX_CHOICES : D := .int 4
abbrev k_KINDS : D := .tup [.str "set", .str "pay", .str "less", .str "rest", .str "we", .str "they", .str "repeat", .str "stop"]
abbrev k_MAX_WEIGHT : D := .int 30
abbrev k_MAX_PLACES : D := .int 24
/-- the built-in names are not bound by the module -/
structure Blt (mg : Str → Option Value) : Prop where
  abs : mg "abs" = none
  all : mg "all" = none
  bool : mg "bool" = none
  enumerate : mg "enumerate" = none
  int : mg "int" = none
  isinstance : mg "isinstance" = none
  len : mg "len" = none
  range : mg "range" = none
  repr : mg "repr" = none
  str : mg "str" = none
  sum : mg "sum" = none
  tuple : mg "tuple" = none
/-- the constants of the module -/
structure Cst (K : PySem.W.Frag) (mg : Str → Option Value) : Prop where
  LETTERS : GlD K mg "LETTERS" (V.str "abcdefghijklmnopqrstuvwxyz") k_LETTERS
  DIGITS : GlD K mg "DIGITS" (V.str "0123456789") k_DIGITS
  WORDS_ : ∃ a, GlD K mg "WORDS" (.ref a) k_WORDS
  MAX_NAME : GlD K mg "MAX_NAME" (V.int 8) k_MAX_NAME
  MAX_FACTOR : GlD K mg "MAX_FACTOR" (V.int 9) k_MAX_FACTOR
  EXPRESSIONS_ : ∃ a, GlD K mg "EXPRESSIONS" (.ref a) k_EXPRESSIONS
  MAX_CONSTANT : GlD K mg "MAX_CONSTANT" (V.int 99) k_MAX_CONSTANT
  MAX_BY : GlD K mg "MAX_BY" (V.int 6) k_MAX_BY
  MAX_DEEP : GlD K mg "MAX_DEEP" (V.int 3) k_MAX_DEEP
  TESTS_ : ∃ a, GlD K mg "TESTS" (.ref a) k_TESTS
  MAX_TIMES : GlD K mg "MAX_TIMES" (V.int 8) k_MAX_TIMES
  MAX_NOTS : GlD K mg "MAX_NOTS" (V.int 2) k_MAX_NOTS
  STATEMENTS_ : ∃ a, GlD K mg "STATEMENTS" (.ref a) k_STATEMENTS
  MAX_NEST : GlD K mg "MAX_NEST" (V.int 3) k_MAX_NEST
  MAX_COMPARINGS : GlD K mg "MAX_COMPARINGS" (V.int 2) k_MAX_COMPARINGS
  MAX_RESTS : GlD K mg "MAX_RESTS" (V.int 2) k_MAX_RESTS
  MAX_CHOICES : GlD K mg "MAX_CHOICES" (V.int 4) k_MAX_CHOICES
  KINDS_ : ∃ a, GlD K mg "KINDS" (.ref a) k_KINDS
  MAX_WEIGHT : GlD K mg "MAX_WEIGHT" (V.int 30) k_MAX_WEIGHT
  MAX_PLACES : GlD K mg "MAX_PLACES" (V.int 24) k_MAX_PLACES
/-! is_integer -/
abbrev st_is_integer : Stmt := top 21
abbrev N_is_integer : List Str := ["value"]
theorem sc_is_integer : FnScope N_is_integer ["value"] (defScope st_is_integer) := ⟨rfl, rfl, rfl, by decide +kernel, rfl, by decide +kernel, by decide +kernel⟩
def rd_is_integer : DS :=
    (sRet (dAndV (dIsi "int" (dVar 0)) (dNotV (dIsi "bool" (dVar 0)))))
theorem ok_is_integer {k : Nat} {c : DSp} {f : Addr} {fd : FuncData} (F : Fun K "is_integer" "is_integer" st_is_integer f fd) (hm : mg "is_integer" = some (.ref f)) (hb : Binds K fd ["value"] []) (B : Blt mg)
    (len : ∀ ds S Q, c ds S Q → ds.length = 1) (hc : ∀ ds S Q, c ds S Q → rd_is_integer { nx := fun _ S' => Q .non S', rt := Q } (startD 1 ds) S) :
    DefD P w K mg base (k + 1) "is_integer" 1 c := by
  exact defD F sc_is_integer hm hb rfl len (fun cdv A outer s H E hg hr => ⟨_, _, (s_one (s_ret (d_and (d_isi rfl B.isinstance bt_isinstance (dv 0) rfl B.int bt_int) (d_one (d_not (d_isi rfl B.isinstance bt_isinstance (dv 0) rfl B.bool bt_bool)))))), fun ds S Q h => hc ds S Q h⟩)
/-! is_within -/
abbrev st_is_within : Stmt := top 22
abbrev N_is_within : List Str := ["value", "low", "high"]
theorem sc_is_within : FnScope N_is_within ["value", "low", "high"] (defScope st_is_within) := ⟨rfl, rfl, rfl, by decide +kernel, rfl, by decide +kernel, by decide +kernel⟩
def rd_is_within (c_is_integer : DSp) : DS :=
    (sRet (dAndV (dCall c_is_integer (dCons (dVar 0) dNil)) (dChain (rdI0 fun i j => .bl (decide (i ≤ j))) (rdI0 fun i j => .bl (decide (i ≤ j))) (dVar 1) (dVar 0) (dVar 2))))
theorem ok_is_within {k : Nat} {c : DSp} {f : Addr} {fd : FuncData} (F : Fun K "is_within" "is_within" st_is_within f fd) (hm : mg "is_within" = some (.ref f)) (hb : Binds K fd ["value", "low", "high"] []) {c_is_integer : DSp} (F_is_integer : DefD P w K mg base k "is_integer" 1 c_is_integer)
    (len : ∀ ds S Q, c ds S Q → ds.length = 3) (hc : ∀ ds S Q, c ds S Q → rd_is_within c_is_integer { nx := fun _ S' => Q .non S', rt := Q } (startD 3 ds) S) :
    DefD P w K mg base (k + 1) "is_within" 3 c := by
  exact defD F sc_is_within hm hb rfl len (fun cdv A outer s H E hg hr => ⟨_, _, (s_one (s_ret (d_and (d_call F_is_integer (by exact hg) (by exact hr) rfl (da_cons (dv 0) da_nil)) (d_one (d_chain od_le od_le (dv 1) (dv 0) (dv 2)))))), fun ds S Q h => hc ds S Q h⟩)
/-! is_name -/
abbrev st_is_name : Stmt := top 23
abbrev N_is_name : List Str := ["value", "sign"]
theorem sc_is_name : FnScope N_is_name ["value"] (defScope st_is_name) := ⟨rfl, rfl, rfl, by decide +kernel, rfl, by decide +kernel, by decide +kernel⟩
def rd_is_name : DS :=
    (sSeq (sIf (dOr (dNot (dTest (dIsi "str" (dVar 0)))) (dNot (dTest (dChain (rdI0 fun i j => .bl (decide (i ≤ j))) (rdI0 fun i j => .bl (decide (i ≤ j))) (dC (.int 1)) (dCB rdLen (dCons (dVar 0) dNil)) (dC k_MAX_NAME))))) (sRet (dC (.bl false))) sNext)
    (sSeq (sIf (dOr (dTest (dOp (rdIn id) (dVar 0) (dC k_WORDS))) (dTest (dOp (rdIn not) (dOp rdIx (dVar 0) (dC (.int 0))) (dC k_LETTERS)))) (sRet (dC (.bl false))) sNext)
    (sRet (dCB rdAll (dCons (dLc (diAny (dVar 0)) 1 dYes (dOrV (dOp (rdIn id) (dVar 1) (dC k_LETTERS)) (dOp (rdIn id) (dVar 1) (dC k_DIGITS)))) dNil)))))
theorem ok_is_name {k : Nat} {c : DSp} {f : Addr} {fd : FuncData} (F : Fun K "is_name" "is_name" st_is_name f fd) (hm : mg "is_name" = some (.ref f)) (hb : Binds K fd ["value"] []) (B : Blt mg) (C : Cst K mg)
    (len : ∀ ds S Q, c ds S Q → ds.length = 1) (hc : ∀ ds S Q, c ds S Q → rd_is_name { nx := fun _ S' => Q .non S', rt := Q } (startD 2 ds) S) :
    DefD P w K mg base (k + 1) "is_name" 1 c := by
  obtain ⟨a_WORDS, C_WORDS⟩ := C.WORDS_
  exact defD F sc_is_name hm hb rfl len (fun cdv A outer s H E hg hr => ⟨_, _, (s_cons (s_if (dt_w (dw_or (dt_not (dt_val (d_isi rfl B.isinstance bt_isinstance (dv 0) rfl B.str bt_str))) (dw_or1 (dt_not (dt_chain od_le od_le d_int (d_callB cd_len rfl B.len bt_len (da_cons (dv 0) da_nil)) (d_glob rfl C.MAX_NAME)))))) (s_one (s_ret d_bl)) s_nil) (s_cons (s_if (dt_w (dw_or (dt_cmp (od_in (by exact u65 hr)) (dv 0) (d_glob rfl C_WORDS) (by rfl)) (dw_or1 (dt_cmp (od_notin (by exact u65 hr)) (d_ix (dv 0) d_int (fun _ _ => rfl)) (d_glob rfl C.LETTERS) (by rfl))))) (s_one (s_ret d_bl)) s_nil) (s_one (s_ret (d_callB (cd_all rfl) rfl B.all bt_all (da_cons (d_lc rfl sc_is_name.nd (tt := tYes) (tt' := dYes) (te := (tOrV (tOp (vIn K) (tVar 1) (tC (.str "abcdefghijklmnopqrstuvwxyz"))) (tOp (vIn K) (tVar 1) (tC (.str "0123456789"))))) (te' := (dOrV (dOp (rdIn id) (dVar 1) (dC k_LETTERS)) (dOp (rdIn id) (dVar 1) (dC k_DIGITS)))) (i_any (dv 0)) (blkOk_by (N := N_is_name) (sc := defScope st_is_name) (by decide +kernel)) (fun _ _ _ _ _ => pg_name (i := 1) sc_is_name.nd rfl (Or.inl rfl)) (fun _ _ _ _ _ => dts_nil) (fun _ _ _ _ _ => (d_or (d_cmp (od_in (by exact u65 hr)) (dv 1) (d_glob rfl C.LETTERS) (by rfl)) (d_one (d_cmp (od_in (by exact u65 hr)) (dv 1) (d_glob rfl C.DIGITS) (by rfl))))) (s0 := s)) da_nil)))))), fun ds S Q h => hc ds S Q h⟩)
/-! has_form -/
abbrev st_has_form : Stmt := top 24
abbrev N_has_form : List Str := ["value", "forms"]
theorem sc_has_form : FnScope N_has_form ["value", "forms"] (defScope st_has_form) := ⟨rfl, rfl, rfl, by decide +kernel, rfl, by decide +kernel, by decide +kernel⟩
def rd_has_form : DS :=
    (sRet (dAndV (dIsi "tuple" (dVar 0)) (dAndV (dOp (rdI0 fun i j => .bl (decide (j < i))) (dCB rdLen (dCons (dVar 0) dNil)) (dC (.int 0))) (dOp (rdIn id) (dTup (dCons (dOp rdIx (dVar 0) (dC (.int 0))) (dCons (dCB rdLen (dCons (dVar 0) dNil)) dNil))) (dVar 1)))))
theorem ok_has_form {k : Nat} {c : DSp} {f : Addr} {fd : FuncData} (F : Fun K "has_form" "has_form" st_has_form f fd) (hm : mg "has_form" = some (.ref f)) (hb : Binds K fd ["value", "forms"] []) (B : Blt mg)
    (len : ∀ ds S Q, c ds S Q → ds.length = 2) (hc : ∀ ds S Q, c ds S Q → rd_has_form { nx := fun _ S' => Q .non S', rt := Q } (startD 2 ds) S) :
    DefD P w K mg base (k + 1) "has_form" 2 c := by
  exact defD F sc_has_form hm hb rfl len (fun cdv A outer s H E hg hr => ⟨_, _, (s_one (s_ret (d_and (d_isi rfl B.isinstance bt_isinstance (dv 0) rfl B.tuple bt_tuple) (d_and (d_cmp od_gt (d_callB cd_len rfl B.len bt_len (da_cons (dv 0) da_nil)) d_int (nomark _)) (d_one (d_cmp (od_in (by exact u65 hr)) (d_tup (da_cons (d_ix (dv 0) d_int (fun _ _ => rfl)) (da_cons (d_callB cd_len rfl B.len bt_len (da_cons (dv 0) da_nil)) da_nil))) (dv 1) (by rfl))))))), fun ds S Q h => hc ds S Q h⟩)
/-! is_expression -/
abbrev st_is_expression : Stmt := top 25
abbrev N_is_expression : List Str := ["value", "deep"]
theorem sc_is_expression : FnScope N_is_expression ["value", "deep"] (defScope st_is_expression) := ⟨rfl, rfl, rfl, by decide +kernel, rfl, by decide +kernel, by decide +kernel⟩
def rd_is_expression (c_is_expression c_is_within c_has_form c_is_name : DSp) : DS :=
    (sSeq (sIf (dTest (dOp (rdEq id) (dVar 1) (dC (.int 0)))) (sRet (dC (.bl false))) sNext)
    (sSeq (sIf (dOr (dTest (dCall c_is_within (dCons (dVar 0) (dCons (dNeg (dC k_MAX_CONSTANT)) (dCons (dC k_MAX_CONSTANT) dNil))))) (dTest (dCall c_is_name (dCons (dVar 0) dNil)))) (sRet (dC (.bl true))) sNext)
    (sSeq (sIf (dOr (dNot (dTest (dCall c_has_form (dCons (dVar 0) (dCons (dC k_EXPRESSIONS) dNil))))) (dNot (dTest (dCall c_is_expression (dCons (dOp rdIx (dVar 0) (dC (.int 2))) (dCons (dOp (rdI0 fun i j => .int (i - j)) (dVar 1) (dC (.int 1))) dNil)))))) (sRet (dC (.bl false))) sNext)
    (sSeq (sIf (dTest (dOp (rdEq id) (dOp rdIx (dVar 0) (dC (.int 0))) (dC (.str "times")))) (sRet (dCall c_is_within (dCons (dOp rdIx (dVar 0) (dC (.int 1))) (dCons (dNeg (dC k_MAX_FACTOR)) (dCons (dC k_MAX_FACTOR) dNil))))) sNext)
    (sRet (dCall c_is_expression (dCons (dOp rdIx (dVar 0) (dC (.int 1))) (dCons (dOp (rdI0 fun i j => .int (i - j)) (dVar 1) (dC (.int 1))) dNil))))))))
theorem ok_is_expression {k : Nat} {c : DSp} {f : Addr} {fd : FuncData} (F : Fun K "is_expression" "is_expression" st_is_expression f fd) (hm : mg "is_expression" = some (.ref f)) (hb : Binds K fd ["value", "deep"] []) (C : Cst K mg) {c_is_expression : DSp} (F_is_expression : DefD P w K mg base k "is_expression" 2 c_is_expression) {c_is_within : DSp} (F_is_within : DefD P w K mg base k "is_within" 3 c_is_within) {c_has_form : DSp} (F_has_form : DefD P w K mg base k "has_form" 2 c_has_form) {c_is_name : DSp} (F_is_name : DefD P w K mg base k "is_name" 1 c_is_name)
    (len : ∀ ds S Q, c ds S Q → ds.length = 2) (hc : ∀ ds S Q, c ds S Q → rd_is_expression c_is_expression c_is_within c_has_form c_is_name { nx := fun _ S' => Q .non S', rt := Q } (startD 2 ds) S) :
    DefD P w K mg base (k + 1) "is_expression" 2 c := by
  obtain ⟨a_EXPRESSIONS, C_EXPRESSIONS⟩ := C.EXPRESSIONS_
  exact defD F sc_is_expression hm hb rfl len (fun cdv A outer s H E hg hr => ⟨_, _, (s_cons (s_if (dt_cmp (od_eq (by exact hr.units)) (dv 1) d_int (nomark _)) (s_one (s_ret d_bl)) s_nil) (s_cons (s_if (dt_w (dw_or (dt_val (d_call F_is_within (by exact hg) (by exact hr) rfl (da_cons (dv 0) (da_cons (d_neg (d_glob rfl C.MAX_CONSTANT)) (da_cons (d_glob rfl C.MAX_CONSTANT) da_nil))))) (dw_or1 (dt_val (d_call F_is_name (by exact hg) (by exact hr) rfl (da_cons (dv 0) da_nil)))))) (s_one (s_ret d_bl)) s_nil) (s_cons (s_if (dt_w (dw_or (dt_not (dt_val (d_call F_has_form (by exact hg) (by exact hr) rfl (da_cons (dv 0) (da_cons (d_glob rfl C_EXPRESSIONS) da_nil))))) (dw_or1 (dt_not (dt_val (d_call F_is_expression (by exact hg) (by exact hr) rfl (da_cons (d_ix (dv 0) d_int (fun _ _ => rfl)) (da_cons (d_op od_sub (dv 1) d_int) da_nil)))))))) (s_one (s_ret d_bl)) s_nil) (s_cons (s_if (dt_cmp (od_eq (by exact hr.units)) (d_ix (dv 0) d_int (fun _ _ => rfl)) d_str (nomark _)) (s_one (s_ret (d_call F_is_within (by exact hg) (by exact hr) rfl (da_cons (d_ix (dv 0) d_int (fun _ _ => rfl)) (da_cons (d_neg (d_glob rfl C.MAX_FACTOR)) (da_cons (d_glob rfl C.MAX_FACTOR) da_nil)))))) s_nil) (s_one (s_ret (d_call F_is_expression (by exact hg) (by exact hr) rfl (da_cons (d_ix (dv 0) d_int (fun _ _ => rfl)) (da_cons (d_op od_sub (dv 1) d_int) da_nil))))))))), fun ds S Q h => hc ds S Q h⟩)
/-! is_test -/
abbrev st_is_test : Stmt := top 26
abbrev N_is_test : List Str := ["value", "nots"]
theorem sc_is_test : FnScope N_is_test ["value", "nots"] (defScope st_is_test) := ⟨rfl, rfl, rfl, by decide +kernel, rfl, by decide +kernel, by decide +kernel⟩
def rd_is_test (c_is_within c_is_expression c_is_test c_has_form : DSp) : DS :=
    (sSeq (sIf (dNot (dTest (dCall c_has_form (dCons (dVar 0) (dCons (dC k_TESTS) dNil))))) (sRet (dC (.bl false))) sNext)
    (sSeq (sIf (dTest (dOp (rdEq id) (dOp rdIx (dVar 0) (dC (.int 0))) (dC (.str "not")))) (sRet (dAndV (dOp (rdI0 fun i j => .bl (decide (j < i))) (dVar 1) (dC (.int 0))) (dCall c_is_test (dCons (dOp rdIx (dVar 0) (dC (.int 1))) (dCons (dOp (rdI0 fun i j => .int (i - j)) (dVar 1) (dC (.int 1))) dNil))))) sNext)
    (sSeq (sIf (dNot (dTest (dCall c_is_expression (dCons (dOp rdIx (dVar 0) (dC (.int 1))) (dCons (dC k_MAX_DEEP) dNil))))) (sRet (dC (.bl false))) sNext)
    (sSeq (sIf (dTest (dOp (rdEq id) (dOp rdIx (dVar 0) (dC (.int 0))) (dC (.str "less")))) (sRet (dCall c_is_expression (dCons (dOp rdIx (dVar 0) (dC (.int 2))) (dCons (dC k_MAX_DEEP) dNil)))) sNext)
    (sRet (dAndV (dCall c_is_within (dCons (dOp rdIx (dVar 0) (dC (.int 2))) (dCons (dC (.int 2)) (dCons (dC k_MAX_BY) dNil)))) (dCall c_is_within (dCons (dOp rdIx (dVar 0) (dC (.int 3))) (dCons (dC (.int 0)) (dCons (dOp (rdI0 fun i j => .int (i - j)) (dOp rdIx (dVar 0) (dC (.int 2))) (dC (.int 1))) dNil))))))))))
theorem ok_is_test {k : Nat} {c : DSp} {f : Addr} {fd : FuncData} (F : Fun K "is_test" "is_test" st_is_test f fd) (hm : mg "is_test" = some (.ref f)) (hb : Binds K fd ["value", "nots"] []) (C : Cst K mg) {c_is_within : DSp} (F_is_within : DefD P w K mg base k "is_within" 3 c_is_within) {c_is_expression : DSp} (F_is_expression : DefD P w K mg base k "is_expression" 2 c_is_expression) {c_is_test : DSp} (F_is_test : DefD P w K mg base k "is_test" 2 c_is_test) {c_has_form : DSp} (F_has_form : DefD P w K mg base k "has_form" 2 c_has_form)
    (len : ∀ ds S Q, c ds S Q → ds.length = 2) (hc : ∀ ds S Q, c ds S Q → rd_is_test c_is_within c_is_expression c_is_test c_has_form { nx := fun _ S' => Q .non S', rt := Q } (startD 2 ds) S) :
    DefD P w K mg base (k + 1) "is_test" 2 c := by
  obtain ⟨a_TESTS, C_TESTS⟩ := C.TESTS_
  exact defD F sc_is_test hm hb rfl len (fun cdv A outer s H E hg hr => ⟨_, _, (s_cons (s_if (dt_not (dt_val (d_call F_has_form (by exact hg) (by exact hr) rfl (da_cons (dv 0) (da_cons (d_glob rfl C_TESTS) da_nil))))) (s_one (s_ret d_bl)) s_nil) (s_cons (s_if (dt_cmp (od_eq (by exact hr.units)) (d_ix (dv 0) d_int (fun _ _ => rfl)) d_str (nomark _)) (s_one (s_ret (d_and (d_cmp od_gt (dv 1) d_int (nomark _)) (d_one (d_call F_is_test (by exact hg) (by exact hr) rfl (da_cons (d_ix (dv 0) d_int (fun _ _ => rfl)) (da_cons (d_op od_sub (dv 1) d_int) da_nil))))))) s_nil) (s_cons (s_if (dt_not (dt_val (d_call F_is_expression (by exact hg) (by exact hr) rfl (da_cons (d_ix (dv 0) d_int (fun _ _ => rfl)) (da_cons (d_glob rfl C.MAX_DEEP) da_nil))))) (s_one (s_ret d_bl)) s_nil) (s_cons (s_if (dt_cmp (od_eq (by exact hr.units)) (d_ix (dv 0) d_int (fun _ _ => rfl)) d_str (nomark _)) (s_one (s_ret (d_call F_is_expression (by exact hg) (by exact hr) rfl (da_cons (d_ix (dv 0) d_int (fun _ _ => rfl)) (da_cons (d_glob rfl C.MAX_DEEP) da_nil))))) s_nil) (s_one (s_ret (d_and (d_call F_is_within (by exact hg) (by exact hr) rfl (da_cons (d_ix (dv 0) d_int (fun _ _ => rfl)) (da_cons d_int (da_cons (d_glob rfl C.MAX_BY) da_nil)))) (d_one (d_call F_is_within (by exact hg) (by exact hr) rfl (da_cons (d_ix (dv 0) d_int (fun _ _ => rfl)) (da_cons d_int (da_cons (d_op od_sub (d_ix (dv 0) d_int (fun _ _ => rfl)) d_int) da_nil)))))))))))), fun ds S Q h => hc ds S Q h⟩)
/-! blocks_of -/
abbrev st_blocks_of : Stmt := top 27
abbrev N_blocks_of : List Str := ["statement"]
theorem sc_blocks_of : FnScope N_blocks_of ["statement"] (defScope st_blocks_of) := ⟨rfl, rfl, rfl, by decide +kernel, rfl, by decide +kernel, by decide +kernel⟩
def rd_blocks_of : DS :=
    (sSeq (sIf (dTest (dOp (rdIn id) (dOp rdIx (dVar 0) (dC (.int 0))) (dTup (dCons (dC (.str "we")) (dCons (dC (.str "they")) dNil))))) (sRet (dSl (dVar 0) (dPart (dC (.int 1))) dNoPart)) sNext)
    (sSeq (sIf (dTest (dOp (rdIn id) (dOp rdIx (dVar 0) (dC (.int 0))) (dTup (dCons (dC (.str "if")) (dCons (dC (.str "repeat")) dNil))))) (sRet (dSl (dVar 0) (dPart (dC (.int 2))) dNoPart)) sNext)
    (sRet (dTup dNil))))
theorem ok_blocks_of {k : Nat} {c : DSp} {f : Addr} {fd : FuncData} (F : Fun K "blocks_of" "blocks_of" st_blocks_of f fd) (hm : mg "blocks_of" = some (.ref f)) (hb : Binds K fd ["statement"] [])
    (len : ∀ ds S Q, c ds S Q → ds.length = 1) (hc : ∀ ds S Q, c ds S Q → rd_blocks_of { nx := fun _ S' => Q .non S', rt := Q } (startD 1 ds) S) :
    DefD P w K mg base (k + 1) "blocks_of" 1 c := by
  exact defD F sc_blocks_of hm hb rfl len (fun cdv A outer s H E hg hr => ⟨_, _, (s_cons (s_if (dt_cmp (od_in (by exact u65 hr)) (d_ix (dv 0) d_int (fun _ _ => rfl)) (d_tup (da_cons d_str (da_cons d_str da_nil))) (by rfl)) (s_one (s_ret (d_slice (dv 0) (do_some d_int) do_none))) s_nil) (s_cons (s_if (dt_cmp (od_in (by exact u65 hr)) (d_ix (dv 0) d_int (fun _ _ => rfl)) (d_tup (da_cons d_str (da_cons d_str da_nil))) (by rfl)) (s_one (s_ret (d_slice (dv 0) (do_some d_int) do_none))) s_nil) (s_one (s_ret (d_tup da_nil))))), fun ds S Q h => hc ds S Q h⟩)
/-! is_statement -/
abbrev st_is_statement : Stmt := top 28
abbrev N_is_statement : List Str := ["value", "block"]
theorem sc_is_statement : FnScope N_is_statement ["value"] (defScope st_is_statement) := ⟨rfl, rfl, rfl, by decide +kernel, rfl, by decide +kernel, by decide +kernel⟩
def rd_is_statement (c_blocks_of c_is_within c_is_test c_is_expression c_is_name c_has_form : DSp) : DS :=
    (sSeq (sIf (dNot (dTest (dCall c_has_form (dCons (dVar 0) (dCons (dC k_STATEMENTS) dNil))))) (sRet (dC (.bl false))) sNext)
    (sSeq (sIf (dTest (dOp (rdEq id) (dOp rdIx (dVar 0) (dC (.int 0))) (dC (.str "set")))) (sRet (dAndV (dCall c_is_name (dCons (dOp rdIx (dVar 0) (dC (.int 1))) dNil)) (dCall c_is_expression (dCons (dOp rdIx (dVar 0) (dC (.int 2))) (dCons (dC k_MAX_DEEP) dNil))))) sNext)
    (sSeq (sIf (dTest (dOp (rdEq id) (dOp rdIx (dVar 0) (dC (.int 0))) (dC (.str "pay")))) (sRet (dCall c_is_expression (dCons (dOp rdIx (dVar 0) (dC (.int 1))) (dCons (dC k_MAX_DEEP) dNil)))) sNext)
    (sSeq (sIf (dAnd (dTest (dOp (rdEq id) (dOp rdIx (dVar 0) (dC (.int 0))) (dC (.str "if")))) (dNot (dTest (dCall c_is_test (dCons (dOp rdIx (dVar 0) (dC (.int 1))) (dCons (dC k_MAX_NOTS) dNil)))))) (sRet (dC (.bl false))) sNext)
    (sSeq (sIf (dAnd (dTest (dOp (rdEq id) (dOp rdIx (dVar 0) (dC (.int 0))) (dC (.str "repeat")))) (dNot (dTest (dCall c_is_within (dCons (dOp rdIx (dVar 0) (dC (.int 1))) (dCons (dC (.int 1)) (dCons (dC k_MAX_TIMES) dNil))))))) (sRet (dC (.bl false))) sNext)
    (sRet (dCB rdAll (dCons (dLc (diAny (dCall c_blocks_of (dCons (dVar 0) dNil))) 1 dYes (dIsi "tuple" (dVar 1))) dNil))))))))
theorem ok_is_statement {k : Nat} {c : DSp} {f : Addr} {fd : FuncData} (F : Fun K "is_statement" "is_statement" st_is_statement f fd) (hm : mg "is_statement" = some (.ref f)) (hb : Binds K fd ["value"] []) (B : Blt mg) (C : Cst K mg) {c_blocks_of : DSp} (F_blocks_of : DefD P w K mg base k "blocks_of" 1 c_blocks_of) {c_is_within : DSp} (F_is_within : DefD P w K mg base k "is_within" 3 c_is_within) {c_is_test : DSp} (F_is_test : DefD P w K mg base k "is_test" 2 c_is_test) {c_is_expression : DSp} (F_is_expression : DefD P w K mg base k "is_expression" 2 c_is_expression) {c_is_name : DSp} (F_is_name : DefD P w K mg base k "is_name" 1 c_is_name) {c_has_form : DSp} (F_has_form : DefD P w K mg base k "has_form" 2 c_has_form)
    (len : ∀ ds S Q, c ds S Q → ds.length = 1) (hc : ∀ ds S Q, c ds S Q → rd_is_statement c_blocks_of c_is_within c_is_test c_is_expression c_is_name c_has_form { nx := fun _ S' => Q .non S', rt := Q } (startD 2 ds) S) :
    DefD P w K mg base (k + 1) "is_statement" 1 c := by
  obtain ⟨a_STATEMENTS, C_STATEMENTS⟩ := C.STATEMENTS_
  exact defD F sc_is_statement hm hb rfl len (fun cdv A outer s H E hg hr => ⟨_, _, (s_cons (s_if (dt_not (dt_val (d_call F_has_form (by exact hg) (by exact hr) rfl (da_cons (dv 0) (da_cons (d_glob rfl C_STATEMENTS) da_nil))))) (s_one (s_ret d_bl)) s_nil) (s_cons (s_if (dt_cmp (od_eq (by exact hr.units)) (d_ix (dv 0) d_int (fun _ _ => rfl)) d_str (nomark _)) (s_one (s_ret (d_and (d_call F_is_name (by exact hg) (by exact hr) rfl (da_cons (d_ix (dv 0) d_int (fun _ _ => rfl)) da_nil)) (d_one (d_call F_is_expression (by exact hg) (by exact hr) rfl (da_cons (d_ix (dv 0) d_int (fun _ _ => rfl)) (da_cons (d_glob rfl C.MAX_DEEP) da_nil))))))) s_nil) (s_cons (s_if (dt_cmp (od_eq (by exact hr.units)) (d_ix (dv 0) d_int (fun _ _ => rfl)) d_str (nomark _)) (s_one (s_ret (d_call F_is_expression (by exact hg) (by exact hr) rfl (da_cons (d_ix (dv 0) d_int (fun _ _ => rfl)) (da_cons (d_glob rfl C.MAX_DEEP) da_nil))))) s_nil) (s_cons (s_if (dt_w (dw_and (dt_cmp (od_eq (by exact hr.units)) (d_ix (dv 0) d_int (fun _ _ => rfl)) d_str (nomark _)) (dw_and1 (dt_not (dt_val (d_call F_is_test (by exact hg) (by exact hr) rfl (da_cons (d_ix (dv 0) d_int (fun _ _ => rfl)) (da_cons (d_glob rfl C.MAX_NOTS) da_nil)))))))) (s_one (s_ret d_bl)) s_nil) (s_cons (s_if (dt_w (dw_and (dt_cmp (od_eq (by exact hr.units)) (d_ix (dv 0) d_int (fun _ _ => rfl)) d_str (nomark _)) (dw_and1 (dt_not (dt_val (d_call F_is_within (by exact hg) (by exact hr) rfl (da_cons (d_ix (dv 0) d_int (fun _ _ => rfl)) (da_cons d_int (da_cons (d_glob rfl C.MAX_TIMES) da_nil))))))))) (s_one (s_ret d_bl)) s_nil) (s_one (s_ret (d_callB (cd_all rfl) rfl B.all bt_all (da_cons (d_lc rfl sc_is_statement.nd (tt := tYes) (tt' := dYes) (te := (tCB (rIsi K) (tCons (tVar 1) (tCons (tC (.ty "tuple")) tNil)))) (te' := (dIsi "tuple" (dVar 1))) (i_any (d_call F_blocks_of (by exact hg) (by exact hr) rfl (da_cons (dv 0) da_nil))) (blkOk_by (N := N_is_statement) (sc := defScope st_is_statement) (by decide +kernel)) (fun _ _ _ _ _ => pg_name (i := 1) sc_is_statement.nd rfl (Or.inl rfl)) (fun _ _ _ _ _ => dts_nil) (fun _ _ _ _ _ => (d_isi rfl B.isinstance bt_isinstance (dv 1) rfl B.tuple bt_tuple)) (s0 := s)) da_nil))))))))), fun ds S Q h => hc ds S Q h⟩)
/-! fault_in -/
abbrev st_fault_in : Stmt := top 29
abbrev N_fault_in : List Str := ["block", "place", "depth", "item", "inner", "word"]
theorem sc_fault_in : FnScope N_fault_in ["block", "place", "depth"] (defScope st_fault_in) := ⟨rfl, rfl, rfl, by decide +kernel, rfl, by decide +kernel, by decide +kernel⟩
def rd_fault_in (c_blocks_of c_fault_in c_is_statement : DSp) : DS :=
    (sSeq (sFor (diAny (dVar 0)) (gdName 3) (sSeq (sIf (dTest (dOp (rdI0 fun i j => .bl (decide (j < i))) (dVar 2) (dC k_MAX_NEST))) (sRet (dTup (dCons (dVar 1) (dCons (dC (.str "nest")) dNil)))) sNext)
    (sSeq (sIf (dNot (dTest (dCall c_is_statement (dCons (dVar 3) dNil)))) (sRet (dTup (dCons (dVar 1) (dCons (dC (.str "statement")) dNil)))) sNext)
    (sSeq (sAugI 1 (fun i j => i + j) (dC (.int 1)))
    (sFor (diAny (dCall c_blocks_of (dCons (dVar 3) dNil))) (gdName 4) (sSeq (sAsg (dCall c_fault_in (dCons (dVar 4) (dCons (dVar 1) (dCons (dOp rdAdd (dVar 2) (dC (.int 1))) dNil)))) (gd2 (gdName 1) (gdName 5)))
    (sIf (dTest (dOp (rdIsN not) (dVar 5) (dC .non))) (sRet (dTup (dCons (dVar 1) (dCons (dVar 5) dNil)))) sNext)))))))
    (sRet (dTup (dCons (dVar 1) (dCons (dC .non) dNil)))))
theorem ok_fault_in {k : Nat} {c : DSp} {f : Addr} {fd : FuncData} (F : Fun K "fault_in" "fault_in" st_fault_in f fd) (hm : mg "fault_in" = some (.ref f)) (hb : Binds K fd ["block", "place", "depth"] []) (C : Cst K mg) {c_blocks_of : DSp} (F_blocks_of : DefD P w K mg base k "blocks_of" 1 c_blocks_of) {c_fault_in : DSp} (F_fault_in : DefD P w K mg base k "fault_in" 3 c_fault_in) {c_is_statement : DSp} (F_is_statement : DefD P w K mg base k "is_statement" 1 c_is_statement)
    (len : ∀ ds S Q, c ds S Q → ds.length = 3) (hc : ∀ ds S Q, c ds S Q → rd_fault_in c_blocks_of c_fault_in c_is_statement { nx := fun _ S' => Q .non S', rt := Q } (startD 6 ds) S) :
    DefD P w K mg base (k + 1) "fault_in" 3 c := by
  exact defD F sc_fault_in hm hb rfl len (fun cdv A outer s H E hg hr => ⟨_, _, (s_cons (s_for PassesOwn.never rfl (i_any (dv 0)) (g_name (i := 3) sc_fault_in.nd rfl (.inl rfl) (.inl rfl)) (s_cons (s_if (dt_cmp od_gt (dv 2) (d_glob rfl C.MAX_NEST) (nomark _)) (s_one (s_ret (d_tup (da_cons (dv 1) (da_cons d_str da_nil))))) s_nil) (s_cons (s_if (dt_not (dt_val (d_call F_is_statement (by exact hg) (by exact hr) rfl (da_cons (dv 3) da_nil)))) (s_one (s_ret (d_tup (da_cons (dv 1) (da_cons d_str da_nil))))) s_nil) (s_cons (s_augI (i := 1) sc_fault_in.nd rfl (.inl rfl) (.inl rfl) d_int ip_add) (s_one (s_for PassesOwn.never rfl (i_any (d_call F_blocks_of (by exact hg) (by exact hr) rfl (da_cons (dv 3) da_nil))) (g_name (i := 4) sc_fault_in.nd rfl (.inl rfl) (.inl rfl)) (s_cons (s_asg (d_call F_fault_in (by exact hg) (by exact hr) rfl (da_cons (dv 4) (da_cons (dv 1) (da_cons (d_op od_add (dv 2) d_int) da_nil)))) (g_two rfl (g_name (i := 1) sc_fault_in.nd rfl (.inl rfl) (.inl rfl)) (g_name (i := 5) sc_fault_in.nd rfl (.inl rfl) (.inl rfl)))) (s_one (s_if (dt_cmp od_isnot (dv 5) d_non (nomark _)) (s_one (s_ret (d_tup (da_cons (dv 1) (da_cons (dv 5) da_nil))))) s_nil))))))))) (s_one (s_ret (d_tup (da_cons (dv 1) (da_cons d_non da_nil)))))), fun ds S Q h => hc ds S Q h⟩)
/-! kind_of -/
abbrev st_kind_of : Stmt := top 30
abbrev N_kind_of : List Str := ["statement", "test"]
theorem sc_kind_of : FnScope N_kind_of ["statement"] (defScope st_kind_of) := ⟨rfl, rfl, rfl, by decide +kernel, rfl, by decide +kernel, by decide +kernel⟩
def rd_kind_of : DS :=
    (sSeq (sIf (dTest (dOp (rdEq not) (dOp rdIx (dVar 0) (dC (.int 0))) (dC (.str "if")))) (sRet (dOp rdIx (dVar 0) (dC (.int 0)))) sNext)
    (sSeq (sAsg (dOp rdIx (dVar 0) (dC (.int 1))) (gdName 1))
    (sSeq (sWhile (dTest (dOp (rdEq id) (dOp rdIx (dVar 1) (dC (.int 0))) (dC (.str "not")))) (sAsg (dOp rdIx (dVar 1) (dC (.int 1))) (gdName 1)))
    (sRet (dOp rdIx (dVar 1) (dC (.int 0)))))))
theorem ok_kind_of {k : Nat} {c : DSp} {f : Addr} {fd : FuncData} (F : Fun K "kind_of" "kind_of" st_kind_of f fd) (hm : mg "kind_of" = some (.ref f)) (hb : Binds K fd ["statement"] [])
    (len : ∀ ds S Q, c ds S Q → ds.length = 1) (hc : ∀ ds S Q, c ds S Q → rd_kind_of { nx := fun _ S' => Q .non S', rt := Q } (startD 2 ds) S) :
    DefD P w K mg base (k + 1) "kind_of" 1 c := by
  exact defD F sc_kind_of hm hb rfl len (fun cdv A outer s H E hg hr => ⟨_, _, (s_cons (s_if (dt_cmp (od_ne (by exact hr.units)) (d_ix (dv 0) d_int (fun _ _ => rfl)) d_str (nomark _)) (s_one (s_ret (d_ix (dv 0) d_int (fun _ _ => rfl)))) s_nil) (s_cons (s_set (i := 1) sc_kind_of.nd rfl (.inl rfl) (.inl rfl) (d_ix (dv 0) d_int (fun _ _ => rfl))) (s_cons (s_while PassesOwn.never (dt_cmp (od_eq (by exact hr.units)) (d_ix (dv 1) d_int (fun _ _ => rfl)) d_str (nomark _)) (s_one (s_set (i := 1) sc_kind_of.nd rfl (.inl rfl) (.inl rfl) (d_ix (dv 1) d_int (fun _ _ => rfl))))) (s_one (s_ret (d_ix (dv 1) d_int (fun _ _ => rfl))))))), fun ds S Q h => hc ds S Q h⟩)
/-! counted -/
abbrev st_counted : Stmt := top 31
abbrev N_counted : List Str := ["block", "kinds", "total", "statement", "times", "inner"]
theorem sc_counted : FnScope N_counted ["block", "kinds"] (defScope st_counted) := ⟨rfl, rfl, rfl, by decide +kernel, rfl, by decide +kernel, by decide +kernel⟩
def rd_counted (c_kind_of c_blocks_of c_counted : DSp) : DS :=
    (sSeq (sAsg (dC (.int 0)) (gdName 2))
    (sSeq (sFor (diAny (dVar 0)) (gdName 3) (sSeq (sAsg (dIf (dTest (dOp (rdEq id) (dOp rdIx (dVar 3) (dC (.int 0))) (dC (.str "repeat")))) (dOp rdIx (dVar 3) (dC (.int 1))) (dC (.int 1))) (gdName 4))
    (sSeq (sAugI 2 (fun i j => i + j) (dOp rdMul (dVar 4) (dCB rdSum (dCons (dLc (diAny (dCall c_blocks_of (dCons (dVar 3) dNil))) 5 dYes (dCall c_counted (dCons (dVar 5) (dCons (dVar 1) dNil)))) dNil))))
    (sIf (dTest (dOp (rdIn id) (dCall c_kind_of (dCons (dVar 3) dNil)) (dVar 1))) (sAugI 2 (fun i j => i + j) (dC (.int 1))) sNext))))
    (sRet (dVar 2))))
theorem ok_counted {k : Nat} {c : DSp} {f : Addr} {fd : FuncData} (F : Fun K "counted" "counted" st_counted f fd) (hm : mg "counted" = some (.ref f)) (hb : Binds K fd ["block", "kinds"] []) (B : Blt mg) {c_kind_of : DSp} (F_kind_of : DefD P w K mg base k "kind_of" 1 c_kind_of) {c_blocks_of : DSp} (F_blocks_of : DefD P w K mg base k "blocks_of" 1 c_blocks_of) {c_counted : DSp} (F_counted : DefD P w K mg base k "counted" 2 c_counted)
    (len : ∀ ds S Q, c ds S Q → ds.length = 2) (hc : ∀ ds S Q, c ds S Q → rd_counted c_kind_of c_blocks_of c_counted { nx := fun _ S' => Q .non S', rt := Q } (startD 6 ds) S) :
    DefD P w K mg base (k + 1) "counted" 2 c := by
  exact defD F sc_counted hm hb rfl len (fun cdv A outer s H E hg hr => ⟨_, _, (s_cons (s_set (i := 2) sc_counted.nd rfl (.inl rfl) (.inl rfl) d_int) (s_cons (s_for PassesOwn.never rfl (i_any (dv 0)) (g_name (i := 3) sc_counted.nd rfl (.inl rfl) (.inl rfl)) (s_cons (s_set (i := 4) sc_counted.nd rfl (.inl rfl) (.inl rfl) (d_ifExp (dt_cmp (od_eq (by exact hr.units)) (d_ix (dv 3) d_int (fun _ _ => rfl)) d_str (nomark _)) (d_ix (dv 3) d_int (fun _ _ => rfl)) d_int)) (s_cons (s_augI (i := 2) sc_counted.nd rfl (.inl rfl) (.inl rfl) (d_op od_mul (dv 4) (d_callB (cd_sum rfl) rfl B.sum bt_sum (da_cons (d_lc rfl sc_counted.nd (tt := tYes) (tt' := dYes) (te := (tCall (toSp K c_counted) [] E0 (tCons (tVar 5) (tCons (tVar 1) tNil)))) (te' := (dCall c_counted (dCons (dVar 5) (dCons (dVar 1) dNil)))) (i_any (d_call F_blocks_of (by exact hg) (by exact hr) rfl (da_cons (dv 3) da_nil))) (blkOk_by (N := N_counted) (sc := defScope st_counted) (by decide +kernel)) (fun _ _ _ _ _ => pg_name (i := 5) sc_counted.nd rfl (Or.inl rfl)) (fun _ _ _ _ _ => dts_nil) (fun _ _ _ _ _ => (d_call F_counted (by exact hg) (by exact hr) rfl (da_cons (dv 5) (da_cons (dv 1) da_nil)))) (s0 := s)) da_nil))) ip_add) (s_one (s_if (dt_cmp (od_in (by exact u65 hr)) (d_call F_kind_of (by exact hg) (by exact hr) rfl (da_cons (dv 3) da_nil)) (dv 1) (by rfl)) (s_one (s_augI (i := 2) sc_counted.nd rfl (.inl rfl) (.inl rfl) d_int ip_add)) s_nil))))) (s_one (s_ret (dv 2))))), fun ds S Q h => hc ds S Q h⟩)
/-! bound_passed -/
abbrev st_bound_passed : Stmt := top 32
abbrev N_bound_passed : List Str := ["program", "places"]
theorem sc_bound_passed : FnScope N_bound_passed ["program", "places"] (defScope st_bound_passed) := ⟨rfl, rfl, rfl, by decide +kernel, rfl, by decide +kernel, by decide +kernel⟩
def rd_bound_passed (c_counted : DSp) : DS :=
    (sSeq (sIf (dTest (dOp (rdI0 fun i j => .bl (decide (j < i))) (dVar 1) (dC k_MAX_PLACES))) (sRet (dC (.str "places"))) sNext)
    (sSeq (sIf (dTest (dOp (rdI0 fun i j => .bl (decide (j < i))) (dCall c_counted (dCons (dVar 0) (dCons (dC k_KINDS) dNil))) (dC k_MAX_WEIGHT))) (sRet (dC (.str "weight"))) sNext)
    (sSeq (sIf (dTest (dOp (rdI0 fun i j => .bl (decide (j < i))) (dCall c_counted (dCons (dVar 0) (dCons (dTup (dCons (dC (.str "we")) (dCons (dC (.str "they")) dNil))) dNil))) (dC k_MAX_CHOICES))) (sRet (dC (.str "choices"))) sNext)
    (sSeq (sIf (dTest (dOp (rdI0 fun i j => .bl (decide (j < i))) (dCall c_counted (dCons (dVar 0) (dCons (dTup (dCons (dC (.str "rest")) dNil)) dNil))) (dC k_MAX_RESTS))) (sRet (dC (.str "rests"))) sNext)
    (sSeq (sIf (dTest (dOp (rdI0 fun i j => .bl (decide (j < i))) (dCall c_counted (dCons (dVar 0) (dCons (dTup (dCons (dC (.str "less")) dNil)) dNil))) (dC k_MAX_COMPARINGS))) (sRet (dC (.str "comparings"))) sNext)
    (sRet (dC .non)))))))
theorem ok_bound_passed {k : Nat} {c : DSp} {f : Addr} {fd : FuncData} (F : Fun K "bound_passed" "bound_passed" st_bound_passed f fd) (hm : mg "bound_passed" = some (.ref f)) (hb : Binds K fd ["program", "places"] []) (C : Cst K mg) {c_counted : DSp} (F_counted : DefD P w K mg base k "counted" 2 c_counted)
    (len : ∀ ds S Q, c ds S Q → ds.length = 2) (hc : ∀ ds S Q, c ds S Q → rd_bound_passed c_counted { nx := fun _ S' => Q .non S', rt := Q } (startD 2 ds) S) :
    DefD P w K mg base (k + 1) "bound_passed" 2 c := by
  obtain ⟨a_KINDS, C_KINDS⟩ := C.KINDS_
  exact defD F sc_bound_passed hm hb rfl len (fun cdv A outer s H E hg hr => ⟨_, _, (s_cons (s_if (dt_cmp od_gt (dv 1) (d_glob rfl C.MAX_PLACES) (nomark _)) (s_one (s_ret d_str)) s_nil) (s_cons (s_if (dt_cmp od_gt (d_call F_counted (by exact hg) (by exact hr) rfl (da_cons (dv 0) (da_cons (d_glob rfl C_KINDS) da_nil))) (d_glob rfl C.MAX_WEIGHT) (nomark _)) (s_one (s_ret d_str)) s_nil) (s_cons (s_if (dt_cmp od_gt (d_call F_counted (by exact hg) (by exact hr) rfl (da_cons (dv 0) (da_cons (d_tup (da_cons d_str (da_cons d_str da_nil))) da_nil))) (d_glob rfl C.MAX_CHOICES) (nomark _)) (s_one (s_ret d_str)) s_nil) (s_cons (s_if (dt_cmp od_gt (d_call F_counted (by exact hg) (by exact hr) rfl (da_cons (dv 0) (da_cons (d_tup (da_cons d_str da_nil)) da_nil))) (d_glob rfl C.MAX_RESTS) (nomark _)) (s_one (s_ret d_str)) s_nil) (s_cons (s_if (dt_cmp od_gt (d_call F_counted (by exact hg) (by exact hr) rfl (da_cons (dv 0) (da_cons (d_tup (da_cons d_str da_nil)) da_nil))) (d_glob rfl C.MAX_COMPARINGS) (nomark _)) (s_one (s_ret d_str)) s_nil) (s_one (s_ret d_non))))))), fun ds S Q h => hc ds S Q h⟩)
/-! program_error -/
abbrev st_program_error : Stmt := top 33
abbrev N_program_error : List Str := ["value", "place", "word"]
theorem sc_program_error : FnScope N_program_error ["value"] (defScope st_program_error) := ⟨rfl, rfl, rfl, by decide +kernel, rfl, by decide +kernel, by decide +kernel⟩
def rd_program_error (c_bound_passed c_fault_in : DSp) : DS :=
    (sSeq (sIf (dNot (dTest (dIsi "tuple" (dVar 0)))) (sRet (dTup (dCons (dC .non) (dCons (dC (.str "program")) dNil)))) sNext)
    (sSeq (sAsg (dCall c_fault_in (dCons (dVar 0) (dCons (dC (.int 0)) (dCons (dC (.int 0)) dNil)))) (gd2 (gdName 1) (gdName 2)))
    (sSeq (sIf (dTest (dOp (rdIsN not) (dVar 2) (dC .non))) (sRet (dTup (dCons (dVar 1) (dCons (dVar 2) dNil)))) sNext)
    (sSeq (sAsg (dCall c_bound_passed (dCons (dVar 0) (dCons (dVar 1) dNil))) (gdName 2))
    (sRet (dIf (dTest (dOp (rdIsN id) (dVar 2) (dC .non))) (dC .non) (dTup (dCons (dC .non) (dCons (dVar 2) dNil)))))))))
theorem ok_program_error {k : Nat} {c : DSp} {f : Addr} {fd : FuncData} (F : Fun K "program_error" "program_error" st_program_error f fd) (hm : mg "program_error" = some (.ref f)) (hb : Binds K fd ["value"] []) (B : Blt mg) {c_bound_passed : DSp} (F_bound_passed : DefD P w K mg base k "bound_passed" 2 c_bound_passed) {c_fault_in : DSp} (F_fault_in : DefD P w K mg base k "fault_in" 3 c_fault_in)
    (len : ∀ ds S Q, c ds S Q → ds.length = 1) (hc : ∀ ds S Q, c ds S Q → rd_program_error c_bound_passed c_fault_in { nx := fun _ S' => Q .non S', rt := Q } (startD 3 ds) S) :
    DefD P w K mg base (k + 1) "program_error" 1 c := by
  exact defD F sc_program_error hm hb rfl len (fun cdv A outer s H E hg hr => ⟨_, _, (s_cons (s_if (dt_not (dt_val (d_isi rfl B.isinstance bt_isinstance (dv 0) rfl B.tuple bt_tuple))) (s_one (s_ret (d_tup (da_cons d_non (da_cons d_str da_nil))))) s_nil) (s_cons (s_asg (d_call F_fault_in (by exact hg) (by exact hr) rfl (da_cons (dv 0) (da_cons d_int (da_cons d_int da_nil)))) (g_two rfl (g_name (i := 1) sc_program_error.nd rfl (.inl rfl) (.inl rfl)) (g_name (i := 2) sc_program_error.nd rfl (.inl rfl) (.inl rfl)))) (s_cons (s_if (dt_cmp od_isnot (dv 2) d_non (nomark _)) (s_one (s_ret (d_tup (da_cons (dv 1) (da_cons (dv 2) da_nil))))) s_nil) (s_cons (s_set (i := 2) sc_program_error.nd rfl (.inl rfl) (.inl rfl) (d_call F_bound_passed (by exact hg) (by exact hr) rfl (da_cons (dv 0) (da_cons (dv 1) da_nil)))) (s_one (s_ret (d_ifExp (dt_cmp od_is (dv 2) d_non (nomark _)) d_non (d_tup (da_cons d_non (da_cons (dv 2) da_nil)))))))))), fun ds S Q h => hc ds S Q h⟩)
/-! weight -/
abbrev st_weight : Stmt := top 34
abbrev N_weight : List Str := ["program"]
theorem sc_weight : FnScope N_weight ["program"] (defScope st_weight) := ⟨rfl, rfl, rfl, by decide +kernel, rfl, by decide +kernel, by decide +kernel⟩
def rd_weight (c_counted : DSp) : DS :=
    (sRet (dCall c_counted (dCons (dVar 0) (dCons (dC k_KINDS) dNil))))
theorem ok_weight {k : Nat} {c : DSp} {f : Addr} {fd : FuncData} (F : Fun K "weight" "weight" st_weight f fd) (hm : mg "weight" = some (.ref f)) (hb : Binds K fd ["program"] []) (C : Cst K mg) {c_counted : DSp} (F_counted : DefD P w K mg base k "counted" 2 c_counted)
    (len : ∀ ds S Q, c ds S Q → ds.length = 1) (hc : ∀ ds S Q, c ds S Q → rd_weight c_counted { nx := fun _ S' => Q .non S', rt := Q } (startD 1 ds) S) :
    DefD P w K mg base (k + 1) "weight" 1 c := by
  obtain ⟨a_KINDS, C_KINDS⟩ := C.KINDS_
  exact defD F sc_weight hm hb rfl len (fun cdv A outer s H E hg hr => ⟨_, _, (s_one (s_ret (d_call F_counted (by exact hg) (by exact hr) rfl (da_cons (dv 0) (da_cons (d_glob rfl C_KINDS) da_nil))))), fun ds S Q h => hc ds S Q h⟩)
/-! _law_deck -/
abbrev st__law_deck : Stmt := top 36
abbrev N__law_deck : List Str := ["_law_script", "_law_cell"]
theorem sc__law_deck : FnScope N__law_deck ["_law_script"] (defScope st__law_deck) := ⟨rfl, rfl, rfl, by decide +kernel, rfl, by decide +kernel, by decide +kernel⟩
def rd__law_deck : DS :=
    (sRet (dLst (dCons (dLc (diAny (dSl (dVar 0) dNoPart (dPart (dC (.int 63))))) 1 dYes (dCB rdAbs (dCons (dVar 1) dNil))) (dCons (dC (.int 0)) dNil))))
theorem ok__law_deck {k : Nat} {c : DSp} {f : Addr} {fd : FuncData} (F : Fun K "_law_deck" "_law_deck" st__law_deck f fd) (hm : mg "_law_deck" = some (.ref f)) (hb : Binds K fd ["_law_script"] []) (B : Blt mg)
    (len : ∀ ds S Q, c ds S Q → ds.length = 1) (hc : ∀ ds S Q, c ds S Q → rd__law_deck { nx := fun _ S' => Q .non S', rt := Q } (startD 2 ds) S) :
    DefD P w K mg base (k + 1) "_law_deck" 1 c := by
  exact defD F sc__law_deck hm hb rfl len (fun cdv A outer s H E hg hr => ⟨_, _, (s_one (s_ret (d_lst (da_cons (d_lc rfl sc__law_deck.nd (tt := tYes) (tt' := dYes) (te := (tCB vAbs (tCons (tVar 1) tNil))) (te' := (dCB rdAbs (dCons (dVar 1) dNil))) (i_any (d_slice (dv 0) do_none (do_some d_int))) (blkOk_by (N := N__law_deck) (sc := defScope st__law_deck) (by decide +kernel)) (fun _ _ _ _ _ => pg_name (i := 1) sc__law_deck.nd rfl (Or.inl rfl)) (fun _ _ _ _ _ => dts_nil) (fun _ _ _ _ _ => (d_callB cd_abs rfl B.abs bt_abs (da_cons (dv 1) da_nil))) (s0 := s)) (da_cons d_int da_nil))))), fun ds S Q h => hc ds S Q h⟩)
/-! _law_draw -/
abbrev st__law_draw : Stmt := top 37
abbrev N__law_draw : List Str := ["_law_deck_here", "_law_many", "_law_cell", "_law_at", "_law_mixed"]
theorem sc__law_draw : FnScope N__law_draw ["_law_deck_here", "_law_many"] (defScope st__law_draw) := ⟨rfl, rfl, rfl, by decide +kernel, rfl, by decide +kernel, by decide +kernel⟩
def rd__law_draw : DS :=
    (sSeq (sAsg (dOp rdAdd (dOp rdIx (dVar 0) (dC (.int 1))) (dC (.int 1))) (gdSub (dVar 0) (dC (.int 1))))
    (sSeq (sAsg (dTup (dCons (dC (.int 0)) (dCons (dNeg (dC (.int 1))) dNil))) (gd2 (gdName 2) (gdName 3)))
    (sSeq (sIf (dTest (dOp (rdI0 fun i j => .bl (decide (j < i))) (dCB rdLen (dCons (dOp rdIx (dVar 0) (dC (.int 0))) dNil)) (dC (.int 0)))) (sSeq (sAsg (dOp (rdI (fun _ j => 0 < j) fun i j => .int (i % j)) (dCB rdInt (dCons (dOp rdIx (dVar 0) (dC (.int 1))) dNil)) (dCB rdLen (dCons (dOp rdIx (dVar 0) (dC (.int 0))) dNil))) (gdName 3))
    (sAsg (dOp rdIx (dOp rdIx (dVar 0) (dC (.int 0))) (dVar 3)) (gdName 2))) sNext)
    (sSeq (sIf (dTest (dOp (rdI0 fun i j => .bl (decide (j ≤ i))) (dVar 2) (dOp (rdI CPow fun i j => .int (i ^ j.toNat)) (dC (.int 10)) (dC (.int 18))))) (sSeq (sAsg (dOp (rdI CDiv fun i j => .int (i / j)) (dCB rdInt (dCons (dVar 2) dNil)) (dVar 1)) (gdSub (dOp rdIx (dVar 0) (dC (.int 0))) (dVar 3)))
    (sRet (dOp (rdI (fun _ j => 0 < j) fun i j => .int (i % j)) (dCB rdInt (dCons (dVar 2) dNil)) (dVar 1)))) sNext)
    (sSeq (sAsg (dOp rdAdd (dOp rdAdd (dOp (rdI (fun _ j => 0 < j) fun i j => .int (i % j)) (dCB rdInt (dCons (dVar 2) dNil)) (dC (.int 2147483563))) (dOp rdMul (dC (.int 8117)) (dOp rdIx (dVar 0) (dC (.int 1))))) (dC (.int 3))) (gdName 4))
    (sRet (dOp (rdI (fun _ j => 0 < j) fun i j => .int (i % j)) (dCB rdInt (dCons (dOp (rdI (fun _ j => 0 < j) fun i j => .int (i % j)) (dCB rdInt (dCons (dOp (rdI CPow fun i j => .int (i ^ j.toNat)) (dVar 4) (dC (.int 5))) dNil)) (dC (.int 2147483629))) dNil)) (dVar 1))))))))
theorem ok__law_draw {k : Nat} {c : DSp} {f : Addr} {fd : FuncData} (F : Fun K "_law_draw" "_law_draw" st__law_draw f fd) (hm : mg "_law_draw" = some (.ref f)) (hb : Binds K fd ["_law_deck_here", "_law_many"] []) (B : Blt mg)
    (len : ∀ ds S Q, c ds S Q → ds.length = 2) (hc : ∀ ds S Q, c ds S Q → rd__law_draw { nx := fun _ S' => Q .non S', rt := Q } (startD 5 ds) S) :
    DefD P w K mg base (k + 1) "_law_draw" 2 c := by
  exact defD F sc__law_draw hm hb rfl len (fun cdv A outer s H E hg hr => ⟨_, _, (s_cons (s_asg (d_op od_add (d_ix (dv 0) d_int (fun _ _ => rfl)) d_int) (g_sub (dv 0) d_int)) (s_cons (s_asg (d_tup (da_cons d_int (da_cons (d_neg d_int) da_nil))) (g_two rfl (g_name (i := 2) sc__law_draw.nd rfl (.inl rfl) (.inl rfl)) (g_name (i := 3) sc__law_draw.nd rfl (.inl rfl) (.inl rfl)))) (s_cons (s_if (dt_cmp od_gt (d_callB cd_len rfl B.len bt_len (da_cons (d_ix (dv 0) d_int (fun _ _ => rfl)) da_nil)) d_int (nomark _)) (s_cons (s_set (i := 3) sc__law_draw.nd rfl (.inl rfl) (.inl rfl) (d_op od_mod (d_callTy cd_int rfl B.int bt_int (da_cons (d_ix (dv 0) d_int (fun _ _ => rfl)) da_nil)) (d_callB cd_len rfl B.len bt_len (da_cons (d_ix (dv 0) d_int (fun _ _ => rfl)) da_nil)))) (s_one (s_set (i := 2) sc__law_draw.nd rfl (.inl rfl) (.inl rfl) (d_ix (d_ix (dv 0) d_int (fun _ _ => rfl)) (dv 3) (fun _ _ => rfl))))) s_nil) (s_cons (s_if (dt_cmp od_ge (dv 2) (d_op od_pow d_int d_int) (nomark _)) (s_cons (s_asg (d_op od_fdiv (d_callTy cd_int rfl B.int bt_int (da_cons (dv 2) da_nil)) (dv 1)) (g_sub (d_ix (dv 0) d_int (fun _ _ => rfl)) (dv 3))) (s_one (s_ret (d_op od_mod (d_callTy cd_int rfl B.int bt_int (da_cons (dv 2) da_nil)) (dv 1))))) s_nil) (s_cons (s_set (i := 4) sc__law_draw.nd rfl (.inl rfl) (.inl rfl) (d_op od_add (d_op od_add (d_op od_mod (d_callTy cd_int rfl B.int bt_int (da_cons (dv 2) da_nil)) d_int) (d_op od_mul d_int (d_ix (dv 0) d_int (fun _ _ => rfl)))) d_int)) (s_one (s_ret (d_op od_mod (d_callTy cd_int rfl B.int bt_int (da_cons (d_op od_mod (d_callTy cd_int rfl B.int bt_int (da_cons (d_op od_pow (dv 4) d_int) da_nil)) d_int) da_nil)) (dv 1))))))))), fun ds S Q h => hc ds S Q h⟩)
/-! _law_one -/
abbrev st__law_one : Stmt := top 38
abbrev N__law_one : List Str := ["_law_deck_here", "_law_items"]
theorem sc__law_one : FnScope N__law_one ["_law_deck_here", "_law_items"] (defScope st__law_one) := ⟨rfl, rfl, rfl, by decide +kernel, rfl, by decide +kernel, by decide +kernel⟩
def rd__law_one (c__law_draw : DSp) : DS :=
    (sRet (dOp rdIx (dVar 1) (dCall c__law_draw (dCons (dVar 0) (dCons (dCB rdLen (dCons (dVar 1) dNil)) dNil)))))
theorem ok__law_one {k : Nat} {c : DSp} {f : Addr} {fd : FuncData} (F : Fun K "_law_one" "_law_one" st__law_one f fd) (hm : mg "_law_one" = some (.ref f)) (hb : Binds K fd ["_law_deck_here", "_law_items"] []) (B : Blt mg) {c__law_draw : DSp} (F__law_draw : DefD P w K mg base k "_law_draw" 2 c__law_draw)
    (len : ∀ ds S Q, c ds S Q → ds.length = 2) (hc : ∀ ds S Q, c ds S Q → rd__law_one c__law_draw { nx := fun _ S' => Q .non S', rt := Q } (startD 2 ds) S) :
    DefD P w K mg base (k + 1) "_law_one" 2 c := by
  exact defD F sc__law_one hm hb rfl len (fun cdv A outer s H E hg hr => ⟨_, _, (s_one (s_ret (d_ix (dv 1) (d_call F__law_draw (by exact hg) (by exact hr) rfl (da_cons (dv 0) (da_cons (d_callB cd_len rfl B.len bt_len (da_cons (dv 1) da_nil)) da_nil))) (fun _ _ => rfl)))), fun ds S Q h => hc ds S Q h⟩)
/-! _law_parts -/
abbrev st__law_parts : Stmt := top 39
abbrev N__law_parts : List Str := ["_law_row"]
theorem sc__law_parts : FnScope N__law_parts ["_law_row"] (defScope st__law_parts) := ⟨rfl, rfl, rfl, by decide +kernel, rfl, by decide +kernel, by decide +kernel⟩
def rd__law_parts : DS :=
    (sSeq (sIf (dTest (dOp (rdIn id) (dOp rdIx (dVar 0) (dC (.int 0))) (dTup (dCons (dC (.str "we")) (dCons (dC (.str "they")) dNil))))) (sRet (dSl (dVar 0) (dPart (dC (.int 1))) dNoPart)) sNext)
    (sRet (dIf (dTest (dOp (rdIn id) (dOp rdIx (dVar 0) (dC (.int 0))) (dTup (dCons (dC (.str "if")) (dCons (dC (.str "repeat")) dNil))))) (dSl (dVar 0) (dPart (dC (.int 2))) dNoPart) (dTup dNil))))
theorem ok__law_parts {k : Nat} {c : DSp} {f : Addr} {fd : FuncData} (F : Fun K "_law_parts" "_law_parts" st__law_parts f fd) (hm : mg "_law_parts" = some (.ref f)) (hb : Binds K fd ["_law_row"] [])
    (len : ∀ ds S Q, c ds S Q → ds.length = 1) (hc : ∀ ds S Q, c ds S Q → rd__law_parts { nx := fun _ S' => Q .non S', rt := Q } (startD 1 ds) S) :
    DefD P w K mg base (k + 1) "_law_parts" 1 c := by
  exact defD F sc__law_parts hm hb rfl len (fun cdv A outer s H E hg hr => ⟨_, _, (s_cons (s_if (dt_cmp (od_in (by exact u65 hr)) (d_ix (dv 0) d_int (fun _ _ => rfl)) (d_tup (da_cons d_str (da_cons d_str da_nil))) (by rfl)) (s_one (s_ret (d_slice (dv 0) (do_some d_int) do_none))) s_nil) (s_one (s_ret (d_ifExp (dt_cmp (od_in (by exact u65 hr)) (d_ix (dv 0) d_int (fun _ _ => rfl)) (d_tup (da_cons d_str (da_cons d_str da_nil))) (by rfl)) (d_slice (dv 0) (do_some d_int) do_none) (d_tup da_nil))))), fun ds S Q h => hc ds S Q h⟩)
/-! _law_whole -/
abbrev st__law_whole : Stmt := top 40
abbrev N__law_whole : List Str := ["_law_value", "_law_least", "_law_most"]
theorem sc__law_whole : FnScope N__law_whole ["_law_value", "_law_least", "_law_most"] (defScope st__law_whole) := ⟨rfl, rfl, rfl, by decide +kernel, rfl, by decide +kernel, by decide +kernel⟩
def rd__law_whole : DS :=
    (sRet (dAndV (dIsi "int" (dVar 0)) (dAndV (dNotV (dIsi "bool" (dVar 0))) (dChain (rdI0 fun i j => .bl (decide (i ≤ j))) (rdI0 fun i j => .bl (decide (i ≤ j))) (dVar 1) (dVar 0) (dVar 2)))))
theorem ok__law_whole {k : Nat} {c : DSp} {f : Addr} {fd : FuncData} (F : Fun K "_law_whole" "_law_whole" st__law_whole f fd) (hm : mg "_law_whole" = some (.ref f)) (hb : Binds K fd ["_law_value", "_law_least", "_law_most"] []) (B : Blt mg)
    (len : ∀ ds S Q, c ds S Q → ds.length = 3) (hc : ∀ ds S Q, c ds S Q → rd__law_whole { nx := fun _ S' => Q .non S', rt := Q } (startD 3 ds) S) :
    DefD P w K mg base (k + 1) "_law_whole" 3 c := by
  exact defD F sc__law_whole hm hb rfl len (fun cdv A outer s H E hg hr => ⟨_, _, (s_one (s_ret (d_and (d_isi rfl B.isinstance bt_isinstance (dv 0) rfl B.int bt_int) (d_and (d_not (d_isi rfl B.isinstance bt_isinstance (dv 0) rfl B.bool bt_bool)) (d_one (d_chain od_le od_le (dv 1) (dv 0) (dv 2))))))), fun ds S Q h => hc ds S Q h⟩)
/-! _law_is_name -/
abbrev st__law_is_name : Stmt := top 41
abbrev N__law_is_name : List Str := ["_law_value", "_law_kept", "_law_sign"]
theorem sc__law_is_name : FnScope N__law_is_name ["_law_value"] (defScope st__law_is_name) := ⟨rfl, rfl, rfl, by decide +kernel, rfl, by decide +kernel, by decide +kernel⟩
def rd__law_is_name : DS :=
    (sSeq (sIf (dOr (dNot (dTest (dIsi "str" (dVar 0)))) (dOr (dNot (dTest (dChain (rdI0 fun i j => .bl (decide (i ≤ j))) (rdI0 fun i j => .bl (decide (i ≤ j))) (dC (.int 1)) (dCB rdLen (dCons (dVar 0) dNil)) (dC (.int 8))))) (dTest (dOp (rdIn id) (dOp rdIx (dVar 0) (dC (.int 0))) (dC (.str "0123456789")))))) (sRet (dC (.bl false))) sNext)
    (sSeq (sIf (dTest (dOp (rdEq not) (dLc (diAny (dVar 0)) 2 (dTest (dOp (rdIn not) (dVar 2) (dC (.str "abcdefghijklmnopqrstuvwxyz0123456789")))) (dVar 2)) (dLst dNil))) (sRet (dC (.bl false))) sNext)
    (sSeq (sAsg (dLst (dCons (dC (.str "set")) (dCons (dC (.str "pay")) (dCons (dC (.str "stop")) (dCons (dC (.str "if")) (dCons (dC (.str "else")) (dCons (dC (.str "we")) (dCons (dC (.str "they")) (dCons (dC (.str "or")) (dCons (dC (.str "repeat")) (dCons (dC (.str "pass")) (dCons (dC (.str "rest")) (dCons (dC (.str "of")) (dCons (dC (.str "not")) (dCons (dC (.str "program")) dNil))))))))))))))) (gdName 1))
    (sRet (dOp (rdIn not) (dVar 0) (dVar 1))))))
theorem ok__law_is_name {k : Nat} {c : DSp} {f : Addr} {fd : FuncData} (F : Fun K "_law_is_name" "_law_is_name" st__law_is_name f fd) (hm : mg "_law_is_name" = some (.ref f)) (hb : Binds K fd ["_law_value"] []) (B : Blt mg)
    (len : ∀ ds S Q, c ds S Q → ds.length = 1) (hc : ∀ ds S Q, c ds S Q → rd__law_is_name { nx := fun _ S' => Q .non S', rt := Q } (startD 3 ds) S) :
    DefD P w K mg base (k + 1) "_law_is_name" 1 c := by
  exact defD F sc__law_is_name hm hb rfl len (fun cdv A outer s H E hg hr => ⟨_, _, (s_cons (s_if (dt_w (dw_or (dt_not (dt_val (d_isi rfl B.isinstance bt_isinstance (dv 0) rfl B.str bt_str))) (dw_or (dt_not (dt_chain od_le od_le d_int (d_callB cd_len rfl B.len bt_len (da_cons (dv 0) da_nil)) d_int)) (dw_or1 (dt_cmp (od_in (by exact u65 hr)) (d_ix (dv 0) d_int (fun _ _ => rfl)) d_str (by rfl)))))) (s_one (s_ret d_bl)) s_nil) (s_cons (s_if (dt_cmp (od_ne (by exact hr.units)) (d_lc rfl sc__law_is_name.nd (tt := (tTest (tOp (vNotIn K) (tVar 2) (tC (.str "abcdefghijklmnopqrstuvwxyz0123456789"))))) (tt' := (dTest (dOp (rdIn not) (dVar 2) (dC (.str "abcdefghijklmnopqrstuvwxyz0123456789"))))) (te := (tVar 2)) (te' := (dVar 2)) (i_any (dv 0)) (blkOk_by (N := N__law_is_name) (sc := defScope st__law_is_name) (by decide +kernel)) (fun _ _ _ _ _ => pg_name (i := 2) sc__law_is_name.nd rfl (Or.inl rfl)) (fun _ _ _ _ _ => (dts_one (dt_cmp (od_notin (by exact u65 hr)) (dv 2) d_str (by rfl)))) (fun _ _ _ _ _ => (dv 2)) (s0 := s)) (d_lst da_nil) (nomark _)) (s_one (s_ret d_bl)) s_nil) (s_cons (s_set (i := 1) sc__law_is_name.nd rfl (.inl rfl) (.inl rfl) (d_lst (da_cons d_str (da_cons d_str (da_cons d_str (da_cons d_str (da_cons d_str (da_cons d_str (da_cons d_str (da_cons d_str (da_cons d_str (da_cons d_str (da_cons d_str (da_cons d_str (da_cons d_str (da_cons d_str da_nil)))))))))))))))) (s_one (s_ret (d_cmp (od_notin (by exact u65 hr)) (dv 0) (dv 1) (by rfl))))))), fun ds S Q h => hc ds S Q h⟩)
/-! _law_is_expression -/
abbrev st__law_is_expression : Stmt := top 42
abbrev N__law_is_expression : List Str := ["_law_value", "_law_deep"]
theorem sc__law_is_expression : FnScope N__law_is_expression ["_law_value", "_law_deep"] (defScope st__law_is_expression) := ⟨rfl, rfl, rfl, by decide +kernel, rfl, by decide +kernel, by decide +kernel⟩
def rd__law_is_expression (c__law_is_expression c__law_whole c__law_is_name : DSp) : DS :=
    (sSeq (sIf (dNot (dTest (dIsi "tuple" (dVar 0)))) (sRet (dAndV (dOp (rdI0 fun i j => .bl (decide (j < i))) (dVar 1) (dC (.int 0))) (dOrV (dCall c__law_is_name (dCons (dVar 0) dNil)) (dCall c__law_whole (dCons (dVar 0) (dCons (dNeg (dC (.int 99))) (dCons (dC (.int 99)) dNil))))))) sNext)
    (sSeq (sIf (dOr (dTest (dOp (rdEq id) (dVar 1) (dC (.int 0)))) (dOr (dTest (dOp (rdEq not) (dCB rdLen (dCons (dVar 0) dNil)) (dC (.int 3)))) (dNot (dTest (dIsi "str" (dOp rdIx (dVar 0) (dC (.int 0)))))))) (sRet (dC (.bl false))) sNext)
    (sSeq (sIf (dTest (dOp (rdEq id) (dOp rdIx (dVar 0) (dC (.int 0))) (dC (.str "times")))) (sRet (dAndV (dCall c__law_whole (dCons (dOp rdIx (dVar 0) (dC (.int 1))) (dCons (dNeg (dC (.int 9))) (dCons (dC (.int 9)) dNil)))) (dCall c__law_is_expression (dCons (dOp rdIx (dVar 0) (dC (.int 2))) (dCons (dOp (rdI0 fun i j => .int (i - j)) (dVar 1) (dC (.int 1))) dNil))))) sNext)
    (sSeq (sIf (dTest (dOp (rdIn not) (dOp rdIx (dVar 0) (dC (.int 0))) (dLst (dCons (dC (.str "plus")) (dCons (dC (.str "minus")) dNil))))) (sRet (dC (.bl false))) sNext)
    (sRet (dAndV (dCall c__law_is_expression (dCons (dOp rdIx (dVar 0) (dC (.int 1))) (dCons (dOp (rdI0 fun i j => .int (i - j)) (dVar 1) (dC (.int 1))) dNil))) (dCall c__law_is_expression (dCons (dOp rdIx (dVar 0) (dC (.int 2))) (dCons (dOp (rdI0 fun i j => .int (i - j)) (dVar 1) (dC (.int 1))) dNil)))))))))
theorem ok__law_is_expression {k : Nat} {c : DSp} {f : Addr} {fd : FuncData} (F : Fun K "_law_is_expression" "_law_is_expression" st__law_is_expression f fd) (hm : mg "_law_is_expression" = some (.ref f)) (hb : Binds K fd ["_law_value", "_law_deep"] []) (B : Blt mg) {c__law_is_expression : DSp} (F__law_is_expression : DefD P w K mg base k "_law_is_expression" 2 c__law_is_expression) {c__law_whole : DSp} (F__law_whole : DefD P w K mg base k "_law_whole" 3 c__law_whole) {c__law_is_name : DSp} (F__law_is_name : DefD P w K mg base k "_law_is_name" 1 c__law_is_name)
    (len : ∀ ds S Q, c ds S Q → ds.length = 2) (hc : ∀ ds S Q, c ds S Q → rd__law_is_expression c__law_is_expression c__law_whole c__law_is_name { nx := fun _ S' => Q .non S', rt := Q } (startD 2 ds) S) :
    DefD P w K mg base (k + 1) "_law_is_expression" 2 c := by
  exact defD F sc__law_is_expression hm hb rfl len (fun cdv A outer s H E hg hr => ⟨_, _, (s_cons (s_if (dt_not (dt_val (d_isi rfl B.isinstance bt_isinstance (dv 0) rfl B.tuple bt_tuple))) (s_one (s_ret (d_and (d_cmp od_gt (dv 1) d_int (nomark _)) (d_one (d_or (d_call F__law_is_name (by exact hg) (by exact hr) rfl (da_cons (dv 0) da_nil)) (d_one (d_call F__law_whole (by exact hg) (by exact hr) rfl (da_cons (dv 0) (da_cons (d_neg d_int) (da_cons d_int da_nil)))))))))) s_nil) (s_cons (s_if (dt_w (dw_or (dt_cmp (od_eq (by exact hr.units)) (dv 1) d_int (nomark _)) (dw_or (dt_cmp (od_ne (by exact hr.units)) (d_callB cd_len rfl B.len bt_len (da_cons (dv 0) da_nil)) d_int (nomark _)) (dw_or1 (dt_not (dt_val (d_isi rfl B.isinstance bt_isinstance (d_ix (dv 0) d_int (fun _ _ => rfl)) rfl B.str bt_str))))))) (s_one (s_ret d_bl)) s_nil) (s_cons (s_if (dt_cmp (od_eq (by exact hr.units)) (d_ix (dv 0) d_int (fun _ _ => rfl)) d_str (nomark _)) (s_one (s_ret (d_and (d_call F__law_whole (by exact hg) (by exact hr) rfl (da_cons (d_ix (dv 0) d_int (fun _ _ => rfl)) (da_cons (d_neg d_int) (da_cons d_int da_nil)))) (d_one (d_call F__law_is_expression (by exact hg) (by exact hr) rfl (da_cons (d_ix (dv 0) d_int (fun _ _ => rfl)) (da_cons (d_op od_sub (dv 1) d_int) da_nil))))))) s_nil) (s_cons (s_if (dt_cmp (od_notin (by exact u65 hr)) (d_ix (dv 0) d_int (fun _ _ => rfl)) (d_lst (da_cons d_str (da_cons d_str da_nil))) (by rfl)) (s_one (s_ret d_bl)) s_nil) (s_one (s_ret (d_and (d_call F__law_is_expression (by exact hg) (by exact hr) rfl (da_cons (d_ix (dv 0) d_int (fun _ _ => rfl)) (da_cons (d_op od_sub (dv 1) d_int) da_nil))) (d_one (d_call F__law_is_expression (by exact hg) (by exact hr) rfl (da_cons (d_ix (dv 0) d_int (fun _ _ => rfl)) (da_cons (d_op od_sub (dv 1) d_int) da_nil))))))))))), fun ds S Q h => hc ds S Q h⟩)
/-! _law_is_rest -/
abbrev st__law_is_rest : Stmt := top 43
abbrev N__law_is_rest : List Str := ["_law_value"]
theorem sc__law_is_rest : FnScope N__law_is_rest ["_law_value"] (defScope st__law_is_rest) := ⟨rfl, rfl, rfl, by decide +kernel, rfl, by decide +kernel, by decide +kernel⟩
def rd__law_is_rest (c__law_whole c__law_is_expression : DSp) : DS :=
    (sSeq (sIf (dOr (dNot (dTest (dCall c__law_is_expression (dCons (dOp rdIx (dVar 0) (dC (.int 1))) (dCons (dC (.int 3)) dNil))))) (dNot (dTest (dCall c__law_whole (dCons (dOp rdIx (dVar 0) (dC (.int 2))) (dCons (dC (.int 2)) (dCons (dC (.int 6)) dNil))))))) (sRet (dC (.bl false))) sNext)
    (sRet (dCall c__law_whole (dCons (dOp rdIx (dVar 0) (dC (.int 3))) (dCons (dC (.int 0)) (dCons (dOp (rdI0 fun i j => .int (i - j)) (dOp rdIx (dVar 0) (dC (.int 2))) (dC (.int 1))) dNil))))))
theorem ok__law_is_rest {k : Nat} {c : DSp} {f : Addr} {fd : FuncData} (F : Fun K "_law_is_rest" "_law_is_rest" st__law_is_rest f fd) (hm : mg "_law_is_rest" = some (.ref f)) (hb : Binds K fd ["_law_value"] []) {c__law_whole : DSp} (F__law_whole : DefD P w K mg base k "_law_whole" 3 c__law_whole) {c__law_is_expression : DSp} (F__law_is_expression : DefD P w K mg base k "_law_is_expression" 2 c__law_is_expression)
    (len : ∀ ds S Q, c ds S Q → ds.length = 1) (hc : ∀ ds S Q, c ds S Q → rd__law_is_rest c__law_whole c__law_is_expression { nx := fun _ S' => Q .non S', rt := Q } (startD 1 ds) S) :
    DefD P w K mg base (k + 1) "_law_is_rest" 1 c := by
  exact defD F sc__law_is_rest hm hb rfl len (fun cdv A outer s H E hg hr => ⟨_, _, (s_cons (s_if (dt_w (dw_or (dt_not (dt_val (d_call F__law_is_expression (by exact hg) (by exact hr) rfl (da_cons (d_ix (dv 0) d_int (fun _ _ => rfl)) (da_cons d_int da_nil))))) (dw_or1 (dt_not (dt_val (d_call F__law_whole (by exact hg) (by exact hr) rfl (da_cons (d_ix (dv 0) d_int (fun _ _ => rfl)) (da_cons d_int (da_cons d_int da_nil))))))))) (s_one (s_ret d_bl)) s_nil) (s_one (s_ret (d_call F__law_whole (by exact hg) (by exact hr) rfl (da_cons (d_ix (dv 0) d_int (fun _ _ => rfl)) (da_cons d_int (da_cons (d_op od_sub (d_ix (dv 0) d_int (fun _ _ => rfl)) d_int) da_nil))))))), fun ds S Q h => hc ds S Q h⟩)
/-! _law_is_test -/
abbrev st__law_is_test : Stmt := top 44
abbrev N__law_is_test : List Str := ["_law_value", "_law_nots"]
theorem sc__law_is_test : FnScope N__law_is_test ["_law_value", "_law_nots"] (defScope st__law_is_test) := ⟨rfl, rfl, rfl, by decide +kernel, rfl, by decide +kernel, by decide +kernel⟩
def rd__law_is_test (c__law_is_expression c__law_is_rest c__law_is_test : DSp) : DS :=
    (sSeq (sIf (dOr (dNot (dTest (dIsi "tuple" (dVar 0)))) (dOr (dTest (dOp (rdEq id) (dVar 0) (dTup dNil))) (dNot (dTest (dIsi "str" (dOp rdIx (dVar 0) (dC (.int 0)))))))) (sRet (dC (.bl false))) sNext)
    (sSeq (sIf (dTest (dOp (rdEq not) (dCB rdLen (dCons (dVar 0) dNil)) (dGet2 (dDict [("less", 3), ("rest", 4), ("not", 2)]) (dOp rdIx (dVar 0) (dC (.int 0))) (dC (.int 0))))) (sRet (dC (.bl false))) sNext)
    (sSeq (sIf (dTest (dOp (rdEq id) (dOp rdIx (dVar 0) (dC (.int 0))) (dC (.str "not")))) (sRet (dAndV (dOp (rdI0 fun i j => .bl (decide (j < i))) (dVar 1) (dC (.int 0))) (dCall c__law_is_test (dCons (dOp rdIx (dVar 0) (dC (.int 1))) (dCons (dOp (rdI0 fun i j => .int (i - j)) (dVar 1) (dC (.int 1))) dNil))))) sNext)
    (sSeq (sIf (dTest (dOp (rdEq id) (dOp rdIx (dVar 0) (dC (.int 0))) (dC (.str "rest")))) (sRet (dCall c__law_is_rest (dCons (dVar 0) dNil))) sNext)
    (sRet (dAndV (dCall c__law_is_expression (dCons (dOp rdIx (dVar 0) (dC (.int 1))) (dCons (dC (.int 3)) dNil))) (dCall c__law_is_expression (dCons (dOp rdIx (dVar 0) (dC (.int 2))) (dCons (dC (.int 3)) dNil)))))))))
theorem ok__law_is_test {k : Nat} {c : DSp} {f : Addr} {fd : FuncData} (F : Fun K "_law_is_test" "_law_is_test" st__law_is_test f fd) (hm : mg "_law_is_test" = some (.ref f)) (hb : Binds K fd ["_law_value", "_law_nots"] []) (B : Blt mg) {c__law_is_expression : DSp} (F__law_is_expression : DefD P w K mg base k "_law_is_expression" 2 c__law_is_expression) {c__law_is_rest : DSp} (F__law_is_rest : DefD P w K mg base k "_law_is_rest" 1 c__law_is_rest) {c__law_is_test : DSp} (F__law_is_test : DefD P w K mg base k "_law_is_test" 2 c__law_is_test)
    (len : ∀ ds S Q, c ds S Q → ds.length = 2) (hc : ∀ ds S Q, c ds S Q → rd__law_is_test c__law_is_expression c__law_is_rest c__law_is_test { nx := fun _ S' => Q .non S', rt := Q } (startD 2 ds) S) :
    DefD P w K mg base (k + 1) "_law_is_test" 2 c := by
  exact defD F sc__law_is_test hm hb rfl len (fun cdv A outer s H E hg hr => ⟨_, _, (s_cons (s_if (dt_w (dw_or (dt_not (dt_val (d_isi rfl B.isinstance bt_isinstance (dv 0) rfl B.tuple bt_tuple))) (dw_or (dt_cmp (od_eq (by exact hr.units)) (dv 0) (d_tup da_nil) (nomark _)) (dw_or1 (dt_not (dt_val (d_isi rfl B.isinstance bt_isinstance (d_ix (dv 0) d_int (fun _ _ => rfl)) rfl B.str bt_str))))))) (s_one (s_ret d_bl)) s_nil) (s_cons (s_if (dt_cmp (od_ne (by exact hr.units)) (d_callB cd_len rfl B.len bt_len (da_cons (dv 0) da_nil)) (d_get2 (by exact hu_of hr) (d_dict [("less", 3), ("rest", 4), ("not", 2)] (pps_cons pe_str pe_int (pps_cons pe_str pe_int (pps_cons pe_str pe_int pps_nil))) rfl rfl (fun h => nomatch h) (Nat.le_of_ble_eq_true rfl) (Nat.le_of_ble_eq_true rfl) (by decide +kernel)) (d_ix (dv 0) d_int (fun _ _ => rfl)) d_int ⟨rfl, rfl, rfl, rfl⟩) (nomark _)) (s_one (s_ret d_bl)) s_nil) (s_cons (s_if (dt_cmp (od_eq (by exact hr.units)) (d_ix (dv 0) d_int (fun _ _ => rfl)) d_str (nomark _)) (s_one (s_ret (d_and (d_cmp od_gt (dv 1) d_int (nomark _)) (d_one (d_call F__law_is_test (by exact hg) (by exact hr) rfl (da_cons (d_ix (dv 0) d_int (fun _ _ => rfl)) (da_cons (d_op od_sub (dv 1) d_int) da_nil))))))) s_nil) (s_cons (s_if (dt_cmp (od_eq (by exact hr.units)) (d_ix (dv 0) d_int (fun _ _ => rfl)) d_str (nomark _)) (s_one (s_ret (d_call F__law_is_rest (by exact hg) (by exact hr) rfl (da_cons (dv 0) da_nil)))) s_nil) (s_one (s_ret (d_and (d_call F__law_is_expression (by exact hg) (by exact hr) rfl (da_cons (d_ix (dv 0) d_int (fun _ _ => rfl)) (da_cons d_int da_nil))) (d_one (d_call F__law_is_expression (by exact hg) (by exact hr) rfl (da_cons (d_ix (dv 0) d_int (fun _ _ => rfl)) (da_cons d_int da_nil))))))))))), fun ds S Q h => hc ds S Q h⟩)
/-! _law_is_statement -/
abbrev st__law_is_statement : Stmt := top 45
abbrev N__law_is_statement : List Str := ["_law_value", "_law_sizes", "_law_part_here"]
theorem sc__law_is_statement : FnScope N__law_is_statement ["_law_value"] (defScope st__law_is_statement) := ⟨rfl, rfl, rfl, by decide +kernel, rfl, by decide +kernel, by decide +kernel⟩
def rd__law_is_statement (c__law_parts c__law_whole c__law_is_test c__law_is_expression c__law_is_name : DSp) : DS :=
    (sSeq (sIf (dOr (dNot (dTest (dIsi "tuple" (dVar 0)))) (dOr (dTest (dOp (rdEq id) (dVar 0) (dTup dNil))) (dNot (dTest (dIsi "str" (dOp rdIx (dVar 0) (dC (.int 0)))))))) (sRet (dC (.bl false))) sNext)
    (sSeq (sAsg (dDict [("set", 3), ("pay", 2), ("stop", 1), ("if", 4), ("we", 3), ("they", 3), ("repeat", 3)]) (gdName 1))
    (sSeq (sIf (dTest (dOp (rdEq not) (dCB rdLen (dCons (dVar 0) dNil)) (dGet2 (dVar 1) (dOp rdIx (dVar 0) (dC (.int 0))) (dC (.int 0))))) (sRet (dC (.bl false))) sNext)
    (sSeq (sIf (dTest (dOp (rdEq id) (dOp rdIx (dVar 0) (dC (.int 0))) (dC (.str "set")))) (sRet (dAndV (dCall c__law_is_name (dCons (dOp rdIx (dVar 0) (dC (.int 1))) dNil)) (dCall c__law_is_expression (dCons (dOp rdIx (dVar 0) (dC (.int 2))) (dCons (dC (.int 3)) dNil))))) sNext)
    (sSeq (sIf (dTest (dOp (rdEq id) (dOp rdIx (dVar 0) (dC (.int 0))) (dC (.str "pay")))) (sRet (dCall c__law_is_expression (dCons (dOp rdIx (dVar 0) (dC (.int 1))) (dCons (dC (.int 3)) dNil)))) sNext)
    (sSeq (sIf (dAnd (dTest (dOp (rdEq id) (dOp rdIx (dVar 0) (dC (.int 0))) (dC (.str "if")))) (dNot (dTest (dCall c__law_is_test (dCons (dOp rdIx (dVar 0) (dC (.int 1))) (dCons (dC (.int 2)) dNil)))))) (sRet (dC (.bl false))) sNext)
    (sSeq (sIf (dAnd (dTest (dOp (rdEq id) (dOp rdIx (dVar 0) (dC (.int 0))) (dC (.str "repeat")))) (dNot (dTest (dCall c__law_whole (dCons (dOp rdIx (dVar 0) (dC (.int 1))) (dCons (dC (.int 1)) (dCons (dC (.int 8)) dNil))))))) (sRet (dC (.bl false))) sNext)
    (sRet (dOp (rdEq id) (dLc (diAny (dCall c__law_parts (dCons (dVar 0) dNil))) 2 (dNot (dTest (dIsi "tuple" (dVar 2)))) (dVar 2)) (dLst dNil))))))))))
theorem ok__law_is_statement {k : Nat} {c : DSp} {f : Addr} {fd : FuncData} (F : Fun K "_law_is_statement" "_law_is_statement" st__law_is_statement f fd) (hm : mg "_law_is_statement" = some (.ref f)) (hb : Binds K fd ["_law_value"] []) (B : Blt mg) {c__law_parts : DSp} (F__law_parts : DefD P w K mg base k "_law_parts" 1 c__law_parts) {c__law_whole : DSp} (F__law_whole : DefD P w K mg base k "_law_whole" 3 c__law_whole) {c__law_is_test : DSp} (F__law_is_test : DefD P w K mg base k "_law_is_test" 2 c__law_is_test) {c__law_is_expression : DSp} (F__law_is_expression : DefD P w K mg base k "_law_is_expression" 2 c__law_is_expression) {c__law_is_name : DSp} (F__law_is_name : DefD P w K mg base k "_law_is_name" 1 c__law_is_name)
    (len : ∀ ds S Q, c ds S Q → ds.length = 1) (hc : ∀ ds S Q, c ds S Q → rd__law_is_statement c__law_parts c__law_whole c__law_is_test c__law_is_expression c__law_is_name { nx := fun _ S' => Q .non S', rt := Q } (startD 3 ds) S) :
    DefD P w K mg base (k + 1) "_law_is_statement" 1 c := by
  exact defD F sc__law_is_statement hm hb rfl len (fun cdv A outer s H E hg hr => ⟨_, _, (s_cons (s_if (dt_w (dw_or (dt_not (dt_val (d_isi rfl B.isinstance bt_isinstance (dv 0) rfl B.tuple bt_tuple))) (dw_or (dt_cmp (od_eq (by exact hr.units)) (dv 0) (d_tup da_nil) (nomark _)) (dw_or1 (dt_not (dt_val (d_isi rfl B.isinstance bt_isinstance (d_ix (dv 0) d_int (fun _ _ => rfl)) rfl B.str bt_str))))))) (s_one (s_ret d_bl)) s_nil) (s_cons (s_set (i := 1) sc__law_is_statement.nd rfl (.inl rfl) (.inl rfl) (d_dict [("set", 3), ("pay", 2), ("stop", 1), ("if", 4), ("we", 3), ("they", 3), ("repeat", 3)] (pps_cons pe_str pe_int (pps_cons pe_str pe_int (pps_cons pe_str pe_int (pps_cons pe_str pe_int (pps_cons pe_str pe_int (pps_cons pe_str pe_int (pps_cons pe_str pe_int pps_nil))))))) rfl rfl (fun h => nomatch h) (Nat.le_of_ble_eq_true rfl) (Nat.le_of_ble_eq_true rfl) (by decide +kernel))) (s_cons (s_if (dt_cmp (od_ne (by exact hr.units)) (d_callB cd_len rfl B.len bt_len (da_cons (dv 0) da_nil)) (d_get2 (by exact hu_of hr) (dv 1) (d_ix (dv 0) d_int (fun _ _ => rfl)) d_int ⟨rfl, rfl, rfl, rfl⟩) (nomark _)) (s_one (s_ret d_bl)) s_nil) (s_cons (s_if (dt_cmp (od_eq (by exact hr.units)) (d_ix (dv 0) d_int (fun _ _ => rfl)) d_str (nomark _)) (s_one (s_ret (d_and (d_call F__law_is_name (by exact hg) (by exact hr) rfl (da_cons (d_ix (dv 0) d_int (fun _ _ => rfl)) da_nil)) (d_one (d_call F__law_is_expression (by exact hg) (by exact hr) rfl (da_cons (d_ix (dv 0) d_int (fun _ _ => rfl)) (da_cons d_int da_nil))))))) s_nil) (s_cons (s_if (dt_cmp (od_eq (by exact hr.units)) (d_ix (dv 0) d_int (fun _ _ => rfl)) d_str (nomark _)) (s_one (s_ret (d_call F__law_is_expression (by exact hg) (by exact hr) rfl (da_cons (d_ix (dv 0) d_int (fun _ _ => rfl)) (da_cons d_int da_nil))))) s_nil) (s_cons (s_if (dt_w (dw_and (dt_cmp (od_eq (by exact hr.units)) (d_ix (dv 0) d_int (fun _ _ => rfl)) d_str (nomark _)) (dw_and1 (dt_not (dt_val (d_call F__law_is_test (by exact hg) (by exact hr) rfl (da_cons (d_ix (dv 0) d_int (fun _ _ => rfl)) (da_cons d_int da_nil)))))))) (s_one (s_ret d_bl)) s_nil) (s_cons (s_if (dt_w (dw_and (dt_cmp (od_eq (by exact hr.units)) (d_ix (dv 0) d_int (fun _ _ => rfl)) d_str (nomark _)) (dw_and1 (dt_not (dt_val (d_call F__law_whole (by exact hg) (by exact hr) rfl (da_cons (d_ix (dv 0) d_int (fun _ _ => rfl)) (da_cons d_int (da_cons d_int da_nil))))))))) (s_one (s_ret d_bl)) s_nil) (s_one (s_ret (d_cmp (od_eq (by exact hr.units)) (d_lc rfl sc__law_is_statement.nd (tt := (tNot (tB (tCB (rIsi K) (tCons (tVar 2) (tCons (tC (.ty "tuple")) tNil)))))) (tt' := (dNot (dTest (dIsi "tuple" (dVar 2))))) (te := (tVar 2)) (te' := (dVar 2)) (i_any (d_call F__law_parts (by exact hg) (by exact hr) rfl (da_cons (dv 0) da_nil))) (blkOk_by (N := N__law_is_statement) (sc := defScope st__law_is_statement) (by decide +kernel)) (fun _ _ _ _ _ => pg_name (i := 2) sc__law_is_statement.nd rfl (Or.inl rfl)) (fun _ _ _ _ _ => (dts_one (dt_not (dt_val (d_isi rfl B.isinstance bt_isinstance (dv 2) rfl B.tuple bt_tuple))))) (fun _ _ _ _ _ => (dv 2)) (s0 := s)) (d_lst da_nil) (nomark _))))))))))), fun ds S Q h => hc ds S Q h⟩)
/-! _law_counts -/
abbrev st__law_counts : Stmt := top 46
abbrev N__law_counts : List Str := ["_law_block", "_law_found", "_law_row", "_law_test", "_law_own", "_law_part_here", "_law_inner", "_law_times", "_law_k"]
theorem sc__law_counts : FnScope N__law_counts ["_law_block"] (defScope st__law_counts) := ⟨rfl, rfl, rfl, by decide +kernel, rfl, by decide +kernel, by decide +kernel⟩
def rd__law_counts (c__law_parts c__law_counts : DSp) : DS :=
    (sSeq (sAsg (dLst (dCons (dC (.int 0)) (dCons (dC (.int 0)) (dCons (dC (.int 0)) (dCons (dC (.int 0)) (dCons (dC (.int 0)) dNil)))))) (gdName 1))
    (sSeq (sFor (diAny (dVar 0)) (gdName 2) (sSeq (sAsg (dIf (dTest (dOp (rdEq id) (dOp rdIx (dVar 2) (dC (.int 0))) (dC (.str "if")))) (dOp rdIx (dVar 2) (dC (.int 1))) (dTup (dCons (dC (.str "none")) dNil))) (gdName 3))
    (sSeq (sWhile (dTest (dOp (rdEq id) (dOp rdIx (dVar 3) (dC (.int 0))) (dC (.str "not")))) (sAsg (dOp rdIx (dVar 3) (dC (.int 1))) (gdName 3)))
    (sSeq (sAsg (dLst (dCons (dC (.int 1)) (dCons (dC (.int 1)) (dCons (dCB rdInt (dCons (dOp (rdIn id) (dOp rdIx (dVar 2) (dC (.int 0))) (dTup (dCons (dC (.str "we")) (dCons (dC (.str "they")) dNil)))) dNil)) (dCons (dCB rdInt (dCons (dOp (rdEq id) (dOp rdIx (dVar 3) (dC (.int 0))) (dC (.str "rest"))) dNil)) (dCons (dCB rdInt (dCons (dOp (rdEq id) (dOp rdIx (dVar 3) (dC (.int 0))) (dC (.str "less"))) dNil)) dNil)))))) (gdName 4))
    (sSeq (sFor (diAny (dCall c__law_parts (dCons (dVar 2) dNil))) (gdName 5) (sSeq (sAsg (dTup (dCons (dCall c__law_counts (dCons (dVar 5) dNil)) (dCons (dIf (dTest (dOp (rdEq id) (dOp rdIx (dVar 2) (dC (.int 0))) (dC (.str "repeat")))) (dOp rdIx (dVar 2) (dC (.int 1))) (dC (.int 1))) dNil))) (gd2 (gdName 6) (gdName 7)))
    (sAsg (dOp rdAdd (dLst (dCons (dOp rdAdd (dOp rdIx (dVar 4) (dC (.int 0))) (dOp rdIx (dVar 6) (dC (.int 0)))) dNil)) (dLc (diRng2 (dCons (dC (.int 1)) (dCons (dC (.int 5)) dNil))) 8 dYes (dOp rdAdd (dOp rdIx (dVar 4) (dVar 8)) (dOp rdMul (dVar 7) (dOp rdIx (dVar 6) (dVar 8)))))) (gdName 4))))
    (sAsg (dLc (diRng1 (dCons (dC (.int 5)) dNil)) 8 dYes (dOp rdAdd (dOp rdIx (dVar 1) (dVar 8)) (dOp rdIx (dVar 4) (dVar 8)))) (gdName 1)))))))
    (sRet (dVar 1))))
theorem ok__law_counts {k : Nat} {c : DSp} {f : Addr} {fd : FuncData} (F : Fun K "_law_counts" "_law_counts" st__law_counts f fd) (hm : mg "_law_counts" = some (.ref f)) (hb : Binds K fd ["_law_block"] []) (B : Blt mg) {c__law_parts : DSp} (F__law_parts : DefD P w K mg base k "_law_parts" 1 c__law_parts) {c__law_counts : DSp} (F__law_counts : DefD P w K mg base k "_law_counts" 1 c__law_counts)
    (len : ∀ ds S Q, c ds S Q → ds.length = 1) (hc : ∀ ds S Q, c ds S Q → rd__law_counts c__law_parts c__law_counts { nx := fun _ S' => Q .non S', rt := Q } (startD 9 ds) S) :
    DefD P w K mg base (k + 1) "_law_counts" 1 c := by
  exact defD F sc__law_counts hm hb rfl len (fun cdv A outer s H E hg hr => ⟨_, _, (s_cons (s_set (i := 1) sc__law_counts.nd rfl (.inr rfl) (.inl rfl) (d_lst (da_cons d_int (da_cons d_int (da_cons d_int (da_cons d_int (da_cons d_int da_nil))))))) (s_cons (s_for PassesOwn.never rfl (i_any (dv 0)) (g_name (i := 2) sc__law_counts.nd rfl (.inl rfl) (.inl rfl)) (s_cons (s_set (i := 3) sc__law_counts.nd rfl (.inl rfl) (.inl rfl) (d_ifExp (dt_cmp (od_eq (by exact hr.units)) (d_ix (dv 2) d_int (fun _ _ => rfl)) d_str (nomark _)) (d_ix (dv 2) d_int (fun _ _ => rfl)) (d_tup (da_cons d_str da_nil)))) (s_cons (s_while PassesOwn.never (dt_cmp (od_eq (by exact hr.units)) (d_ix (dv 3) d_int (fun _ _ => rfl)) d_str (nomark _)) (s_one (s_set (i := 3) sc__law_counts.nd rfl (.inl rfl) (.inl rfl) (d_ix (dv 3) d_int (fun _ _ => rfl))))) (s_cons (s_set (i := 4) sc__law_counts.nd rfl (.inr rfl) (.inl rfl) (d_lst (da_cons d_int (da_cons d_int (da_cons (d_callTy cd_int rfl B.int bt_int (da_cons (d_cmp (od_in (by exact u65 hr)) (d_ix (dv 2) d_int (fun _ _ => rfl)) (d_tup (da_cons d_str (da_cons d_str da_nil))) (by rfl)) da_nil)) (da_cons (d_callTy cd_int rfl B.int bt_int (da_cons (d_cmp (od_eq (by exact hr.units)) (d_ix (dv 3) d_int (fun _ _ => rfl)) d_str (nomark _)) da_nil)) (da_cons (d_callTy cd_int rfl B.int bt_int (da_cons (d_cmp (od_eq (by exact hr.units)) (d_ix (dv 3) d_int (fun _ _ => rfl)) d_str (nomark _)) da_nil)) da_nil))))))) (s_cons (s_for PassesOwn.never rfl (i_any (d_call F__law_parts (by exact hg) (by exact hr) rfl (da_cons (dv 2) da_nil))) (g_name (i := 5) sc__law_counts.nd rfl (.inl rfl) (.inl rfl)) (s_cons (s_asg (d_tup (da_cons (d_call F__law_counts (by exact hg) (by exact hr) rfl (da_cons (dv 5) da_nil)) (da_cons (d_ifExp (dt_cmp (od_eq (by exact hr.units)) (d_ix (dv 2) d_int (fun _ _ => rfl)) d_str (nomark _)) (d_ix (dv 2) d_int (fun _ _ => rfl)) d_int) da_nil))) (g_two rfl (g_name (i := 6) sc__law_counts.nd rfl (.inr rfl) (.inl rfl)) (g_name (i := 7) sc__law_counts.nd rfl (.inr rfl) (.inl rfl)))) (s_one (s_set (i := 4) sc__law_counts.nd rfl (.inr rfl) (.inl rfl) (d_op od_add (d_lst (da_cons (d_op od_add (d_ix (dv 4) d_int (fun _ _ => rfl)) (d_ix (dv 6) d_int (fun _ _ => rfl))) da_nil)) (d_lc rfl sc__law_counts.nd (tt := tYes) (tt' := dYes) (te := (tOp (vAdd K) (tOp (rIx K) (tVar 4) (tVar 8)) (tOp (vMul K) (tVar 7) (tOp (rIx K) (tVar 6) (tVar 8))))) (te' := (dOp rdAdd (dOp rdIx (dVar 4) (dVar 8)) (dOp rdMul (dVar 7) (dOp rdIx (dVar 6) (dVar 8))))) (i_rng2 rfl B.range (da_cons d_int (da_cons d_int da_nil))) (blkOk_by (N := N__law_counts) (sc := defScope st__law_counts) (by decide +kernel)) (fun _ _ _ _ _ => pg_name (i := 8) sc__law_counts.nd rfl (Or.inl rfl)) (fun _ _ _ _ _ => dts_nil) (fun _ _ _ _ _ => (d_op od_add (d_ix (dv 4) (dv 8) (fun _ _ => rfl)) (d_op od_mul (dv 7) (d_ix (dv 6) (dv 8) (fun _ _ => rfl))))) (s0 := s))))))) (s_one (s_set (i := 1) sc__law_counts.nd rfl (.inr rfl) (.inl rfl) (d_lc rfl sc__law_counts.nd (tt := tYes) (tt' := dYes) (te := (tOp (vAdd K) (tOp (rIx K) (tVar 1) (tVar 8)) (tOp (rIx K) (tVar 4) (tVar 8)))) (te' := (dOp rdAdd (dOp rdIx (dVar 1) (dVar 8)) (dOp rdIx (dVar 4) (dVar 8)))) (i_rng1 rfl B.range (da_cons d_int da_nil)) (blkOk_by (N := N__law_counts) (sc := defScope st__law_counts) (by decide +kernel)) (fun _ _ _ _ _ => pg_name (i := 8) sc__law_counts.nd rfl (Or.inl rfl)) (fun _ _ _ _ _ => dts_nil) (fun _ _ _ _ _ => (d_op od_add (d_ix (dv 1) (dv 8) (fun _ _ => rfl)) (d_ix (dv 4) (dv 8) (fun _ _ => rfl)))) (s0 := s))))))))) (s_one (s_ret (dv 1))))), fun ds S Q h => hc ds S Q h⟩)
/-! _law_error -/
abbrev st__law_error : Stmt := top 47
abbrev N__law_error : List Str := ["_law_value", "_law_left", "_law_place", "_law_depth", "_law_row", "_law_inner", "_law_part_here", "_law_found", "_law_k", "_law_word", "_law_item"]
theorem sc__law_error : FnScope N__law_error ["_law_value"] (defScope st__law_error) := ⟨rfl, rfl, rfl, by decide +kernel, rfl, by decide +kernel, by decide +kernel⟩
def rd__law_error (c__law_counts c__law_parts c__law_is_statement : DSp) : DS :=
    (sSeq (sIf (dNot (dTest (dIsi "tuple" (dVar 0)))) (sRet (dTup (dCons (dC .non) (dCons (dC (.str "program")) dNil)))) sNext)
    (sSeq (sPar 1 2 (dCons (dRevL (dLc (diAny (dVar 0)) 10 dYes (dTup (dCons (dC (.int 0)) (dCons (dVar 10) dNil))))) (dCons (dC (.int 0)) dNil)))
    (sSeq (sWhile (dTest (dOp (rdEq not) (dVar 1) (dLst dNil))) (sSeq (sAsg (dPop (dVar 1)) (gd2 (gdName 3) (gdName 4)))
    (sSeq (sIf (dTest (dOp (rdI0 fun i j => .bl (decide (j < i))) (dVar 3) (dC (.int 3)))) (sRet (dTup (dCons (dVar 2) (dCons (dC (.str "nest")) dNil)))) sNext)
    (sSeq (sIf (dNot (dTest (dCall c__law_is_statement (dCons (dVar 4) dNil)))) (sRet (dTup (dCons (dVar 2) (dCons (dC (.str "statement")) dNil)))) sNext)
    (sSeq (sAsg (dLst dNil) (gdName 5))
    (sSeq (sFor (diAny (dCall c__law_parts (dCons (dVar 4) dNil))) (gdName 6) (sDrop (dExt (dVar 5) (dLc (diAny (dVar 6)) 10 dYes (dTup (dCons (dOp rdAdd (dVar 3) (dC (.int 1))) (dCons (dVar 10) dNil)))))))
    (sSeq (sDrop (dExt (dVar 1) (dRevL (dVar 5))))
    (sAsg (dOp rdAdd (dVar 2) (dC (.int 1))) (gdName 2)))))))))
    (sSeq (sAsg (dCall c__law_counts (dCons (dVar 0) dNil)) (gdName 7))
    (sSeq (sFor (diEnum (dCons (dLst (dCons (dC (.str "places")) (dCons (dC (.str "weight")) (dCons (dC (.str "choices")) (dCons (dC (.str "rests")) (dCons (dC (.str "comparings")) dNil)))))) dNil)) (gd2 (gdName 8) (gdName 9)) (sIf (dTest (dOp (rdI0 fun i j => .bl (decide (j < i))) (dOp rdIx (dVar 7) (dVar 8)) (dOp rdIx (dLst (dCons (dC (.int 24)) (dCons (dC (.int 30)) (dCons (dC (.int 4)) (dCons (dC (.int 2)) (dCons (dC (.int 2)) dNil)))))) (dVar 8)))) (sRet (dTup (dCons (dC .non) (dCons (dVar 9) dNil)))) sNext))
    (sRet (dC .non)))))))
theorem ok__law_error {k : Nat} {c : DSp} {f : Addr} {fd : FuncData} (F : Fun K "_law_error" "_law_error" st__law_error f fd) (hm : mg "_law_error" = some (.ref f)) (hb : Binds K fd ["_law_value"] []) (B : Blt mg) {c__law_counts : DSp} (F__law_counts : DefD P w K mg base k "_law_counts" 1 c__law_counts) {c__law_parts : DSp} (F__law_parts : DefD P w K mg base k "_law_parts" 1 c__law_parts) {c__law_is_statement : DSp} (F__law_is_statement : DefD P w K mg base k "_law_is_statement" 1 c__law_is_statement)
    (len : ∀ ds S Q, c ds S Q → ds.length = 1) (hc : ∀ ds S Q, c ds S Q → rd__law_error c__law_counts c__law_parts c__law_is_statement { nx := fun _ S' => Q .non S', rt := Q } (startD 11 ds) S) :
    DefD P w K mg base (k + 1) "_law_error" 1 c := by
  exact defD F sc__law_error hm hb rfl len (fun cdv A outer s H E hg hr => ⟨_, _, (s_cons (s_if (dt_not (dt_val (d_isi rfl B.isinstance bt_isinstance (dv 0) rfl B.tuple bt_tuple))) (s_one (s_ret (d_tup (da_cons d_non (da_cons d_str da_nil))))) s_nil) (s_cons (s_par (i := 1) (j := 2) rfl sc__law_error.nd rfl rfl (by decide) rfl rfl (da_cons (d_revL (d_lc rfl sc__law_error.nd (tt := tYes) (tt' := dYes) (te := (tTup (tCons (tC (.int 0)) (tCons (tVar 10) tNil)))) (te' := (dTup (dCons (dC (.int 0)) (dCons (dVar 10) dNil)))) (i_any (dv 0)) (blkOk_by (N := N__law_error) (sc := defScope st__law_error) (by decide +kernel)) (fun _ _ _ _ _ => pg_name (i := 10) sc__law_error.nd rfl (Or.inl rfl)) (fun _ _ _ _ _ => dts_nil) (fun _ _ _ _ _ => (d_tup (da_cons d_int (da_cons (dv 10) da_nil)))) (s0 := s))) (da_cons d_int da_nil))) (s_cons (s_while PassesOwn.never (dt_cmp (od_ne (by exact hr.units)) (dv 1) (d_lst da_nil) (nomark _)) (s_cons (s_asg (d_pop (dv 1)) (g_two rfl (g_name (i := 3) sc__law_error.nd rfl (.inr rfl) (.inl rfl)) (g_name (i := 4) sc__law_error.nd rfl (.inl rfl) (.inl rfl)))) (s_cons (s_if (dt_cmp od_gt (dv 3) d_int (nomark _)) (s_one (s_ret (d_tup (da_cons (dv 2) (da_cons d_str da_nil))))) s_nil) (s_cons (s_if (dt_not (dt_val (d_call F__law_is_statement (by exact hg) (by exact hr) rfl (da_cons (dv 4) da_nil)))) (s_one (s_ret (d_tup (da_cons (dv 2) (da_cons d_str da_nil))))) s_nil) (s_cons (s_set (i := 5) sc__law_error.nd rfl (.inl rfl) (.inl rfl) (d_lst da_nil)) (s_cons (s_for PassesOwn.never rfl (i_any (d_call F__law_parts (by exact hg) (by exact hr) rfl (da_cons (dv 4) da_nil))) (g_name (i := 6) sc__law_error.nd rfl (.inl rfl) (.inl rfl)) (s_one (s_expr (d_extend (dv 5) (d_lc rfl sc__law_error.nd (tt := tYes) (tt' := dYes) (te := (tTup (tCons (tOp (vAdd K) (tVar 3) (tC (.int 1))) (tCons (tVar 10) tNil)))) (te' := (dTup (dCons (dOp rdAdd (dVar 3) (dC (.int 1))) (dCons (dVar 10) dNil)))) (i_any (dv 6)) (blkOk_by (N := N__law_error) (sc := defScope st__law_error) (by decide +kernel)) (fun _ _ _ _ _ => pg_name (i := 10) sc__law_error.nd rfl (Or.inl rfl)) (fun _ _ _ _ _ => dts_nil) (fun _ _ _ _ _ => (d_tup (da_cons (d_op od_add (dv 3) d_int) (da_cons (dv 10) da_nil)))) (s0 := s)))))) (s_cons (s_expr (d_extend (dv 1) (d_revL (dv 5)))) (s_one (s_set (i := 2) sc__law_error.nd rfl (.inl rfl) (.inl rfl) (d_op od_add (dv 2) d_int)))))))))) (s_cons (s_set (i := 7) sc__law_error.nd rfl (.inl rfl) (.inl rfl) (d_call F__law_counts (by exact hg) (by exact hr) rfl (da_cons (dv 0) da_nil))) (s_cons (s_for PassesOwn.never rfl (i_enum rfl B.enumerate (da_cons (d_lst (da_cons d_str (da_cons d_str (da_cons d_str (da_cons d_str (da_cons d_str da_nil)))))) da_nil)) (g_two rfl (g_name (i := 8) sc__law_error.nd rfl (.inl rfl) (.inl rfl)) (g_name (i := 9) sc__law_error.nd rfl (.inl rfl) (.inl rfl))) (s_one (s_if (dt_cmp od_gt (d_ix (dv 7) (dv 8) (fun _ _ => rfl)) (d_ix (d_lst (da_cons d_int (da_cons d_int (da_cons d_int (da_cons d_int (da_cons d_int da_nil)))))) (dv 8) (fun _ _ => rfl)) (nomark _)) (s_one (s_ret (d_tup (da_cons d_non (da_cons (dv 9) da_nil))))) s_nil))) (s_one (s_ret d_non))))))), fun ds S Q h => hc ds S Q h⟩)
/-! _law_part -/
abbrev st__law_part : Stmt := top 48
abbrev N__law_part : List Str := ["_law_deck_here", "_law_rows", "_law_block", "_law_k", "_law_way"]
theorem sc__law_part : FnScope N__law_part ["_law_deck_here"] (defScope st__law_part) := ⟨rfl, rfl, rfl, by decide +kernel, rfl, by decide +kernel, by decide +kernel⟩
def rd__law_part (c__law_draw c__law_one : DSp) : DS :=
    (sSeq (sAsg (dOp rdAdd (dOp rdMul (dLst (dCons (dTup (dCons (dC (.str "pay")) (dCons (dC (.int 1)) dNil))) dNil)) (dCall c__law_draw (dCons (dVar 0) (dCons (dC (.int 9)) dNil)))) (dOp rdMul (dLst (dCons (dTup (dCons (dC (.str "set")) (dCons (dC (.str "a")) (dCons (dC (.str "n")) dNil)))) dNil)) (dCall c__law_draw (dCons (dVar 0) (dCons (dC (.int 3)) dNil))))) (gdName 1))
    (sSeq (sAsg (dOp rdAdd (dVar 1) (dOp rdMul (dLst (dCons (dTup (dCons (dC (.str "if")) (dCons (dTup (dCons (dC (.str "less")) (dCons (dC (.str "a")) (dCons (dC (.str "n")) dNil)))) (dCons (dTup dNil) (dCons (dTup dNil) dNil))))) dNil)) (dCall c__law_draw (dCons (dVar 0) (dCons (dC (.int 3)) dNil))))) (gdName 1))
    (sSeq (sAsg (dOp rdAdd (dVar 1) (dOp rdMul (dLst (dCons (dTup (dCons (dC (.str "if")) (dCons (dTup (dCons (dC (.str "not")) (dCons (dTup (dCons (dC (.str "rest")) (dCons (dC (.str "a")) (dCons (dC (.int 2)) (dCons (dC (.int 1)) dNil))))) dNil))) (dCons (dTup (dCons (dTup (dCons (dC (.str "pay")) (dCons (dC (.str "a")) dNil))) dNil)) (dCons (dTup dNil) dNil))))) dNil)) (dCall c__law_draw (dCons (dVar 0) (dCons (dC (.int 2)) dNil))))) (gdName 1))
    (sSeq (sAsg (dOp rdAdd (dOp rdAdd (dVar 1) (dOp rdMul (dLst (dCons (dTup (dCons (dC (.str "we")) (dCons (dTup dNil) (dCons (dTup (dCons (dTup (dCons (dC (.str "pay")) (dCons (dC (.str "a")) dNil))) dNil)) dNil)))) dNil)) (dCall c__law_draw (dCons (dVar 0) (dCons (dC (.int 3)) dNil))))) (dOp rdMul (dLst (dCons (dTup (dCons (dC (.str "they")) (dCons (dTup (dCons (dTup (dCons (dC (.str "stop")) dNil)) dNil)) (dCons (dTup dNil) dNil)))) dNil)) (dCall c__law_draw (dCons (dVar 0) (dCons (dC (.int 3)) dNil))))) (gdName 1))
    (sSeq (sAsg (dCB rdTupleOf (dCons (dVar 1) dNil)) (gdName 2))
    (sSeq (sFor (diRng1 (dCons (dCall c__law_draw (dCons (dVar 0) (dCons (dC (.int 4)) dNil))) dNil)) (gdName 3) (sSeq (sAsg (dTup (dCons (dTup (dCons (dC (.str "repeat")) (dCons (dCall c__law_one (dCons (dVar 0) (dCons (dLst (dCons (dC (.int 1)) (dCons (dC (.int 1)) (dCons (dC (.int 1)) (dCons (dC (.int 2)) (dCons (dC (.int 2)) (dCons (dC (.int 3)) (dCons (dC (.int 8)) dNil)))))))) dNil))) (dCons (dVar 2) dNil)))) dNil)) (gdName 2))
    (sSeq (sAsg (dCall c__law_draw (dCons (dVar 0) (dCons (dC (.int 6)) dNil))) (gdName 4))
    (sIf (dTest (dOp (rdI0 fun i j => .bl (decide (i < j))) (dVar 4) (dC (.int 2)))) (sAsg (dOp rdIx (dLst (dCons (dTup (dCons (dTup (dCons (dC (.str "if")) (dCons (dTup (dCons (dC (.str "less")) (dCons (dC (.int 1)) (dCons (dC (.str "n")) dNil)))) (dCons (dTup dNil) (dCons (dVar 2) dNil))))) dNil)) (dCons (dTup (dCons (dTup (dCons (dC (.str "we")) (dCons (dVar 2) (dCons (dTup dNil) dNil)))) dNil)) dNil))) (dVar 4)) (gdName 2)) sNext))))
    (sRet (dVar 2))))))))
theorem ok__law_part {k : Nat} {c : DSp} {f : Addr} {fd : FuncData} (F : Fun K "_law_part" "_law_part" st__law_part f fd) (hm : mg "_law_part" = some (.ref f)) (hb : Binds K fd ["_law_deck_here"] []) (B : Blt mg) {c__law_draw : DSp} (F__law_draw : DefD P w K mg base k "_law_draw" 2 c__law_draw) {c__law_one : DSp} (F__law_one : DefD P w K mg base k "_law_one" 2 c__law_one)
    (len : ∀ ds S Q, c ds S Q → ds.length = 1) (hc : ∀ ds S Q, c ds S Q → rd__law_part c__law_draw c__law_one { nx := fun _ S' => Q .non S', rt := Q } (startD 5 ds) S) :
    DefD P w K mg base (k + 1) "_law_part" 1 c := by
  exact defD F sc__law_part hm hb rfl len (fun cdv A outer s H E hg hr => ⟨_, _, (s_cons (s_set (i := 1) sc__law_part.nd rfl (.inl rfl) (.inl rfl) (d_op od_add (d_op od_mul (d_lst (da_cons (d_tup (da_cons d_str (da_cons d_int da_nil))) da_nil)) (d_call F__law_draw (by exact hg) (by exact hr) rfl (da_cons (dv 0) (da_cons d_int da_nil)))) (d_op od_mul (d_lst (da_cons (d_tup (da_cons d_str (da_cons d_str (da_cons d_str da_nil)))) da_nil)) (d_call F__law_draw (by exact hg) (by exact hr) rfl (da_cons (dv 0) (da_cons d_int da_nil)))))) (s_cons (s_set (i := 1) sc__law_part.nd rfl (.inl rfl) (.inl rfl) (d_op od_add (dv 1) (d_op od_mul (d_lst (da_cons (d_tup (da_cons d_str (da_cons (d_tup (da_cons d_str (da_cons d_str (da_cons d_str da_nil)))) (da_cons (d_tup da_nil) (da_cons (d_tup da_nil) da_nil))))) da_nil)) (d_call F__law_draw (by exact hg) (by exact hr) rfl (da_cons (dv 0) (da_cons d_int da_nil)))))) (s_cons (s_set (i := 1) sc__law_part.nd rfl (.inl rfl) (.inl rfl) (d_op od_add (dv 1) (d_op od_mul (d_lst (da_cons (d_tup (da_cons d_str (da_cons (d_tup (da_cons d_str (da_cons (d_tup (da_cons d_str (da_cons d_str (da_cons d_int (da_cons d_int da_nil))))) da_nil))) (da_cons (d_tup (da_cons (d_tup (da_cons d_str (da_cons d_str da_nil))) da_nil)) (da_cons (d_tup da_nil) da_nil))))) da_nil)) (d_call F__law_draw (by exact hg) (by exact hr) rfl (da_cons (dv 0) (da_cons d_int da_nil)))))) (s_cons (s_set (i := 1) sc__law_part.nd rfl (.inl rfl) (.inl rfl) (d_op od_add (d_op od_add (dv 1) (d_op od_mul (d_lst (da_cons (d_tup (da_cons d_str (da_cons (d_tup da_nil) (da_cons (d_tup (da_cons (d_tup (da_cons d_str (da_cons d_str da_nil))) da_nil)) da_nil)))) da_nil)) (d_call F__law_draw (by exact hg) (by exact hr) rfl (da_cons (dv 0) (da_cons d_int da_nil))))) (d_op od_mul (d_lst (da_cons (d_tup (da_cons d_str (da_cons (d_tup (da_cons (d_tup (da_cons d_str da_nil)) da_nil)) (da_cons (d_tup da_nil) da_nil)))) da_nil)) (d_call F__law_draw (by exact hg) (by exact hr) rfl (da_cons (dv 0) (da_cons d_int da_nil)))))) (s_cons (s_set (i := 2) sc__law_part.nd rfl (.inl rfl) (.inl rfl) (d_callTy cd_tupleOf rfl B.tuple bt_tuple (da_cons (dv 1) da_nil))) (s_cons (s_for PassesOwn.never rfl (i_rng1 rfl B.range (da_cons (d_call F__law_draw (by exact hg) (by exact hr) rfl (da_cons (dv 0) (da_cons d_int da_nil))) da_nil)) (g_name (i := 3) sc__law_part.nd rfl (.inl rfl) (.inl rfl)) (s_cons (s_set (i := 2) sc__law_part.nd rfl (.inl rfl) (.inl rfl) (d_tup (da_cons (d_tup (da_cons d_str (da_cons (d_call F__law_one (by exact hg) (by exact hr) rfl (da_cons (dv 0) (da_cons (d_lst (da_cons d_int (da_cons d_int (da_cons d_int (da_cons d_int (da_cons d_int (da_cons d_int (da_cons d_int da_nil)))))))) da_nil))) (da_cons (dv 2) da_nil)))) da_nil))) (s_cons (s_set (i := 4) sc__law_part.nd rfl (.inl rfl) (.inl rfl) (d_call F__law_draw (by exact hg) (by exact hr) rfl (da_cons (dv 0) (da_cons d_int da_nil)))) (s_one (s_if (dt_cmp od_lt (dv 4) d_int (nomark _)) (s_one (s_set (i := 2) sc__law_part.nd rfl (.inl rfl) (.inl rfl) (d_ix (d_lst (da_cons (d_tup (da_cons (d_tup (da_cons d_str (da_cons (d_tup (da_cons d_str (da_cons d_int (da_cons d_str da_nil)))) (da_cons (d_tup da_nil) (da_cons (dv 2) da_nil))))) da_nil)) (da_cons (d_tup (da_cons (d_tup (da_cons d_str (da_cons (dv 2) (da_cons (d_tup da_nil) da_nil)))) da_nil)) da_nil))) (dv 4) (fun _ _ => rfl)))) s_nil))))) (s_one (s_ret (dv 2))))))))), fun ds S Q h => hc ds S Q h⟩)
/-! _law_up_to -/
abbrev st__law_up_to : Stmt := top 49
abbrev N__law_up_to : List Str := ["_law_deck_here", "_law_way", "_law_more", "_law_block", "_law_k"]
theorem sc__law_up_to : FnScope N__law_up_to ["_law_deck_here"] (defScope st__law_up_to) := ⟨rfl, rfl, rfl, by decide +kernel, rfl, by decide +kernel, by decide +kernel⟩
def rd__law_up_to (c__law_one c__law_draw : DSp) : DS :=
    (sSeq (sPar 1 2 (dCons (dCall c__law_draw (dCons (dVar 0) (dCons (dC (.int 7)) dNil))) (dCons (dCall c__law_draw (dCons (dVar 0) (dCons (dC (.int 2)) dNil))) dNil)))
    (sSeq (sIf (dTest (dOp (rdEq id) (dVar 1) (dC (.int 0)))) (sRet (dOp rdMul (dTup (dCons (dTup (dCons (dC (.str "pay")) (dCons (dC (.int 1)) dNil))) dNil)) (dOp rdAdd (dC (.int 24)) (dVar 2)))) sNext)
    (sSeq (sIf (dTest (dOp (rdEq id) (dVar 1) (dC (.int 1)))) (sRet (dOp rdAdd (dTup (dCons (dTup (dCons (dC (.str "repeat")) (dCons (dC (.int 4)) (dCons (dOp rdMul (dTup (dCons (dTup (dCons (dC (.str "pay")) (dCons (dC (.int 1)) dNil))) dNil)) (dC (.int 6))) dNil)))) dNil)) (dOp rdMul (dTup (dCons (dTup (dCons (dC (.str "pay")) (dCons (dC (.int 1)) dNil))) dNil)) (dOp rdAdd (dC (.int 5)) (dVar 2))))) sNext)
    (sSeq (sIf (dTest (dOp (rdEq id) (dVar 1) (dC (.int 2)))) (sRet (dTup (dCons (dTup (dCons (dC (.str "repeat")) (dCons (dOp rdAdd (dC (.int 2)) (dVar 2)) (dCons (dTup (dCons (dTup (dCons (dC (.str "if")) (dCons (dTup (dCons (dC (.str "not")) (dCons (dTup (dCons (dC (.str "rest")) (dCons (dC (.str "a")) (dCons (dC (.int 6)) (dCons (dC (.int 5)) dNil))))) dNil))) (dCons (dTup dNil) (dCons (dTup dNil) dNil))))) dNil)) dNil)))) dNil))) sNext)
    (sSeq (sIf (dTest (dOp (rdEq id) (dVar 1) (dC (.int 3)))) (sRet (dTup (dCons (dTup (dCons (dC (.str "repeat")) (dCons (dOp rdAdd (dC (.int 2)) (dVar 2)) (dCons (dTup (dCons (dTup (dCons (dC (.str "if")) (dCons (dTup (dCons (dC (.str "not")) (dCons (dTup (dCons (dC (.str "less")) (dCons (dC (.str "a")) (dCons (dC (.int 1)) dNil)))) dNil))) (dCons (dTup dNil) (dCons (dTup dNil) dNil))))) dNil)) dNil)))) dNil))) sNext)
    (sSeq (sIf (dTest (dOp (rdEq id) (dVar 1) (dC (.int 4)))) (sRet (dTup (dCons (dTup (dCons (dC (.str "repeat")) (dCons (dOp rdAdd (dC (.int 4)) (dVar 2)) (dCons (dTup (dCons (dTup (dCons (dCall c__law_one (dCons (dVar 0) (dCons (dLst (dCons (dC (.str "we")) (dCons (dC (.str "they")) dNil))) dNil))) (dCons (dTup dNil) (dCons (dTup dNil) dNil)))) dNil)) dNil)))) dNil))) sNext)
    (sSeq (sIf (dTest (dOp (rdEq id) (dVar 1) (dC (.int 5)))) (sRet (dTup (dCons (dTup (dCons (dC (.str "we")) (dCons (dTup (dCons (dTup (dCons (dC (.str "they")) (dCons (dTup dNil) (dCons (dTup dNil) dNil)))) dNil)) (dCons (dTup (dCons (dTup (dCons (dC (.str "they")) (dCons (dTup dNil) (dCons (dTup dNil) dNil)))) dNil)) dNil)))) (dCons (dTup (dCons (dC (.str "they")) (dCons (dTup dNil) (dCons (dOp rdMul (dTup (dCons (dTup (dCons (dC (.str "we")) (dCons (dTup dNil) (dCons (dTup dNil) dNil)))) dNil)) (dVar 2)) dNil)))) dNil)))) sNext)
    (sSeq (sAsg (dTup (dCons (dTup (dCons (dC (.str "pay")) (dCons (dC (.str "a")) dNil))) dNil)) (gdName 3))
    (sSeq (sFor (diRng1 (dCons (dOp rdAdd (dC (.int 3)) (dVar 2)) dNil)) (gdName 4) (sAsg (dCall c__law_one (dCons (dVar 0) (dCons (dLst (dCons (dTup (dCons (dTup (dCons (dC (.str "repeat")) (dCons (dC (.int 1)) (dCons (dVar 3) dNil)))) dNil)) (dCons (dTup (dCons (dTup (dCons (dC (.str "they")) (dCons (dTup dNil) (dCons (dVar 3) dNil)))) dNil)) dNil))) dNil))) (gdName 3)))
    (sRet (dVar 3)))))))))))
theorem ok__law_up_to {k : Nat} {c : DSp} {f : Addr} {fd : FuncData} (F : Fun K "_law_up_to" "_law_up_to" st__law_up_to f fd) (hm : mg "_law_up_to" = some (.ref f)) (hb : Binds K fd ["_law_deck_here"] []) (B : Blt mg) {c__law_one : DSp} (F__law_one : DefD P w K mg base k "_law_one" 2 c__law_one) {c__law_draw : DSp} (F__law_draw : DefD P w K mg base k "_law_draw" 2 c__law_draw)
    (len : ∀ ds S Q, c ds S Q → ds.length = 1) (hc : ∀ ds S Q, c ds S Q → rd__law_up_to c__law_one c__law_draw { nx := fun _ S' => Q .non S', rt := Q } (startD 5 ds) S) :
    DefD P w K mg base (k + 1) "_law_up_to" 1 c := by
  exact defD F sc__law_up_to hm hb rfl len (fun cdv A outer s H E hg hr => ⟨_, _, (s_cons (s_par (i := 1) (j := 2) rfl sc__law_up_to.nd rfl rfl (by decide) rfl rfl (da_cons (d_call F__law_draw (by exact hg) (by exact hr) rfl (da_cons (dv 0) (da_cons d_int da_nil))) (da_cons (d_call F__law_draw (by exact hg) (by exact hr) rfl (da_cons (dv 0) (da_cons d_int da_nil))) da_nil))) (s_cons (s_if (dt_cmp (od_eq (by exact hr.units)) (dv 1) d_int (nomark _)) (s_one (s_ret (d_op od_mul (d_tup (da_cons (d_tup (da_cons d_str (da_cons d_int da_nil))) da_nil)) (d_op od_add d_int (dv 2))))) s_nil) (s_cons (s_if (dt_cmp (od_eq (by exact hr.units)) (dv 1) d_int (nomark _)) (s_one (s_ret (d_op od_add (d_tup (da_cons (d_tup (da_cons d_str (da_cons d_int (da_cons (d_op od_mul (d_tup (da_cons (d_tup (da_cons d_str (da_cons d_int da_nil))) da_nil)) d_int) da_nil)))) da_nil)) (d_op od_mul (d_tup (da_cons (d_tup (da_cons d_str (da_cons d_int da_nil))) da_nil)) (d_op od_add d_int (dv 2)))))) s_nil) (s_cons (s_if (dt_cmp (od_eq (by exact hr.units)) (dv 1) d_int (nomark _)) (s_one (s_ret (d_tup (da_cons (d_tup (da_cons d_str (da_cons (d_op od_add d_int (dv 2)) (da_cons (d_tup (da_cons (d_tup (da_cons d_str (da_cons (d_tup (da_cons d_str (da_cons (d_tup (da_cons d_str (da_cons d_str (da_cons d_int (da_cons d_int da_nil))))) da_nil))) (da_cons (d_tup da_nil) (da_cons (d_tup da_nil) da_nil))))) da_nil)) da_nil)))) da_nil)))) s_nil) (s_cons (s_if (dt_cmp (od_eq (by exact hr.units)) (dv 1) d_int (nomark _)) (s_one (s_ret (d_tup (da_cons (d_tup (da_cons d_str (da_cons (d_op od_add d_int (dv 2)) (da_cons (d_tup (da_cons (d_tup (da_cons d_str (da_cons (d_tup (da_cons d_str (da_cons (d_tup (da_cons d_str (da_cons d_str (da_cons d_int da_nil)))) da_nil))) (da_cons (d_tup da_nil) (da_cons (d_tup da_nil) da_nil))))) da_nil)) da_nil)))) da_nil)))) s_nil) (s_cons (s_if (dt_cmp (od_eq (by exact hr.units)) (dv 1) d_int (nomark _)) (s_one (s_ret (d_tup (da_cons (d_tup (da_cons d_str (da_cons (d_op od_add d_int (dv 2)) (da_cons (d_tup (da_cons (d_tup (da_cons (d_call F__law_one (by exact hg) (by exact hr) rfl (da_cons (dv 0) (da_cons (d_lst (da_cons d_str (da_cons d_str da_nil))) da_nil))) (da_cons (d_tup da_nil) (da_cons (d_tup da_nil) da_nil)))) da_nil)) da_nil)))) da_nil)))) s_nil) (s_cons (s_if (dt_cmp (od_eq (by exact hr.units)) (dv 1) d_int (nomark _)) (s_one (s_ret (d_tup (da_cons (d_tup (da_cons d_str (da_cons (d_tup (da_cons (d_tup (da_cons d_str (da_cons (d_tup da_nil) (da_cons (d_tup da_nil) da_nil)))) da_nil)) (da_cons (d_tup (da_cons (d_tup (da_cons d_str (da_cons (d_tup da_nil) (da_cons (d_tup da_nil) da_nil)))) da_nil)) da_nil)))) (da_cons (d_tup (da_cons d_str (da_cons (d_tup da_nil) (da_cons (d_op od_mul (d_tup (da_cons (d_tup (da_cons d_str (da_cons (d_tup da_nil) (da_cons (d_tup da_nil) da_nil)))) da_nil)) (dv 2)) da_nil)))) da_nil))))) s_nil) (s_cons (s_set (i := 3) sc__law_up_to.nd rfl (.inl rfl) (.inl rfl) (d_tup (da_cons (d_tup (da_cons d_str (da_cons d_str da_nil))) da_nil))) (s_cons (s_for PassesOwn.never rfl (i_rng1 rfl B.range (da_cons (d_op od_add d_int (dv 2)) da_nil)) (g_name (i := 4) sc__law_up_to.nd rfl (.inl rfl) (.inl rfl)) (s_one (s_set (i := 3) sc__law_up_to.nd rfl (.inl rfl) (.inl rfl) (d_call F__law_one (by exact hg) (by exact hr) rfl (da_cons (dv 0) (da_cons (d_lst (da_cons (d_tup (da_cons (d_tup (da_cons d_str (da_cons d_int (da_cons (dv 3) da_nil)))) da_nil)) (da_cons (d_tup (da_cons (d_tup (da_cons d_str (da_cons (d_tup da_nil) (da_cons (dv 3) da_nil)))) da_nil)) da_nil))) da_nil)))))) (s_one (s_ret (dv 3)))))))))))), fun ds S Q h => hc ds S Q h⟩)
/-! law -/
abbrev st_law : Stmt := top 50
abbrev N_law : List Str := ["_law_script", "_law_deck_here", "_law_turn", "_law_part_here", "_law_value", "_law_due"]
theorem sc_law : FnScope N_law ["_law_script"] (defScope st_law) := ⟨rfl, rfl, rfl, by decide +kernel, rfl, by decide +kernel, by decide +kernel⟩
def rd_law (c_program_error c_weight c__law_up_to c__law_part c__law_counts c__law_error c__law_draw c__law_deck : DSp) : DS :=
    (sSeq (sAsg (dCall c__law_deck (dCons (dVar 0) dNil)) (gdName 1))
    (sSeq (sIf (dTest (dOp (rdEq not) (dCB rdRepr (dCons (dCall c_program_error (dCons (dOp rdMul (dTup (dCons (dTup (dCons (dC (.str "pay")) (dCons (dC (.int 1)) dNil))) dNil)) (dOp rdAdd (dC (.int 1000)) (dCall c__law_draw (dCons (dVar 1) (dCons (dC (.int 200)) dNil))))) dNil)) dNil)) (dCB rdRepr (dCons (dTup (dCons (dC .non) (dCons (dC (.str "places")) dNil))) dNil)))) (sRet (dC (.bl false))) sNext)
    (sSeq (sFor (diRng1 (dCons (dC (.int 8)) dNil)) (gdName 2) (sSeq (sAsg (dCall c__law_part (dCons (dVar 1) dNil)) (gdName 3))
    (sFor (diAny (dLst (dCons (dVar 3) (dCons (dCall c__law_up_to (dCons (dVar 1) dNil)) (dCons (dOp rdAdd (dVar 3) (dCall c__law_up_to (dCons (dVar 1) dNil))) (dCons (dOp rdAdd (dCall c__law_up_to (dCons (dVar 1) dNil)) (dCall c__law_part (dCons (dVar 1) dNil))) dNil)))))) (gdName 4) (sSeq (sAsg (dCall c__law_error (dCons (dVar 4) dNil)) (gdName 5))
    (sSeq (sIf (dTest (dOp (rdEq not) (dCB rdRepr (dCons (dCall c_program_error (dCons (dVar 4) dNil)) dNil)) (dCB rdRepr (dCons (dVar 5) dNil)))) (sRet (dC (.bl false))) sNext)
    (sIf (dAnd (dTest (dOp (rdIsN id) (dVar 5) (dC .non))) (dTest (dOp (rdEq not) (dCB rdRepr (dCons (dCall c_weight (dCons (dVar 4) dNil)) dNil)) (dCB rdRepr (dCons (dOp rdIx (dCall c__law_counts (dCons (dVar 4) dNil)) (dC (.int 1))) dNil))))) (sRet (dC (.bl false))) sNext))))))
    (sRet (dAndV (dOp (rdIsN id) (dCall c_program_error (dCons (dTup dNil) dNil)) (dC .non)) (dOp (rdEq id) (dCB rdRepr (dCons (dCall c_weight (dCons (dTup dNil) dNil)) dNil)) (dC (.str "0"))))))))
end
end K23

set_option Elab.async false
set_option linter.all false
set_option maxRecDepth 100000
set_option maxHeartbeats 4000000
namespace K23
open PySem L2 DL PyProof.Rows
section
variable {P : Program} {w : World} {K : PySem.W.Frag} {mg : Str → Option Value} {base : Heap}
theorem fn_law {k : Nat} {c : DSp} {f : Addr} {fd : FuncData} (F : Fun K "law" "law" st_law f fd) (B : Blt mg) {c_program_error : DSp} (F_program_error : DefD P w K mg base k "program_error" 1 c_program_error) {c_weight : DSp} (F_weight : DefD P w K mg base k "weight" 1 c_weight) {c__law_up_to : DSp} (F__law_up_to : DefD P w K mg base k "_law_up_to" 1 c__law_up_to) {c__law_part : DSp} (F__law_part : DefD P w K mg base k "_law_part" 1 c__law_part) {c__law_counts : DSp} (F__law_counts : DefD P w K mg base k "_law_counts" 1 c__law_counts) {c__law_error : DSp} (F__law_error : DefD P w K mg base k "_law_error" 1 c__law_error) {c__law_draw : DSp} (F__law_draw : DefD P w K mg base k "_law_draw" 2 c__law_draw) {c__law_deck : DSp} (F__law_deck : DefD P w K mg base k "_law_deck" 1 c__law_deck)
    (len : ∀ ds S Q, c ds S Q → ds.length = 1) (hc : ∀ ds S Q, c ds S Q → rd_law c_program_error c_weight c__law_up_to c__law_part c__law_counts c__law_error c__law_draw c__law_deck { nx := fun _ S' => Q .non S', rt := Q } (startD 6 ds) S) :
    FnG P w K mg base CX0 (k + 1) f fd ["_law_script"] (toSp K c) := by
  exact fnD F sc_law rfl len (fun cdv A outer s H E hg hr => ⟨_, _, (s_cons (s_set (i := 1) sc_law.nd rfl (.inl rfl) (.inl rfl) (d_call F__law_deck (by exact hg) (by exact hr) rfl (da_cons (dv 0) da_nil))) (s_cons (s_if (dt_cmp (od_ne (by exact hr.units)) (d_callB (cd_repr (by exact hg) (by exact hr.units)) rfl B.repr bt_repr (da_cons (d_call F_program_error (by exact hg) (by exact hr) rfl (da_cons (d_op od_mul (d_tup (da_cons (d_tup (da_cons d_str (da_cons d_int da_nil))) da_nil)) (d_op od_add d_int (d_call F__law_draw (by exact hg) (by exact hr) rfl (da_cons (dv 1) (da_cons d_int da_nil))))) da_nil)) da_nil)) (d_callB (cd_repr (by exact hg) (by exact hr.units)) rfl B.repr bt_repr (da_cons (d_tup (da_cons d_non (da_cons d_str da_nil))) da_nil)) (nomark _)) (s_one (s_ret d_bl)) s_nil) (s_cons (s_for PassesOwn.never rfl (i_rng1 rfl B.range (da_cons d_int da_nil)) (g_name (i := 2) sc_law.nd rfl (.inl rfl) (.inl rfl)) (s_cons (s_set (i := 3) sc_law.nd rfl (.inl rfl) (.inl rfl) (d_call F__law_part (by exact hg) (by exact hr) rfl (da_cons (dv 1) da_nil))) (s_one (s_for PassesOwn.never rfl (i_any (d_lst (da_cons (dv 3) (da_cons (d_call F__law_up_to (by exact hg) (by exact hr) rfl (da_cons (dv 1) da_nil)) (da_cons (d_op od_add (dv 3) (d_call F__law_up_to (by exact hg) (by exact hr) rfl (da_cons (dv 1) da_nil))) (da_cons (d_op od_add (d_call F__law_up_to (by exact hg) (by exact hr) rfl (da_cons (dv 1) da_nil)) (d_call F__law_part (by exact hg) (by exact hr) rfl (da_cons (dv 1) da_nil))) da_nil)))))) (g_name (i := 4) sc_law.nd rfl (.inl rfl) (.inl rfl)) (s_cons (s_set (i := 5) sc_law.nd rfl (.inl rfl) (.inl rfl) (d_call F__law_error (by exact hg) (by exact hr) rfl (da_cons (dv 4) da_nil))) (s_cons (s_if (dt_cmp (od_ne (by exact hr.units)) (d_callB (cd_repr (by exact hg) (by exact hr.units)) rfl B.repr bt_repr (da_cons (d_call F_program_error (by exact hg) (by exact hr) rfl (da_cons (dv 4) da_nil)) da_nil)) (d_callB (cd_repr (by exact hg) (by exact hr.units)) rfl B.repr bt_repr (da_cons (dv 5) da_nil)) (nomark _)) (s_one (s_ret d_bl)) s_nil) (s_one (s_if (dt_w (dw_and (dt_cmp od_is (dv 5) d_non (nomark _)) (dw_and1 (dt_cmp (od_ne (by exact hr.units)) (d_callB (cd_repr (by exact hg) (by exact hr.units)) rfl B.repr bt_repr (da_cons (d_call F_weight (by exact hg) (by exact hr) rfl (da_cons (dv 4) da_nil)) da_nil)) (d_callB (cd_repr (by exact hg) (by exact hr.units)) rfl B.repr bt_repr (da_cons (d_ix (d_call F__law_counts (by exact hg) (by exact hr) rfl (da_cons (dv 4) da_nil)) d_int (fun _ _ => rfl)) da_nil)) (nomark _))))) (s_one (s_ret d_bl)) s_nil)))))))) (s_one (s_ret (d_and (d_cmp od_is (d_call F_program_error (by exact hg) (by exact hr) rfl (da_cons (d_tup da_nil) da_nil)) d_non (nomark _)) (d_one (d_cmp (od_eq (by exact hr.units)) (d_callB (cd_repr (by exact hg) (by exact hr.units)) rfl B.repr bt_repr (da_cons (d_call F_weight (by exact hg) (by exact hr) rfl (da_cons (d_tup da_nil) da_nil)) da_nil)) d_str (nomark _))))))))), fun ds S Q h => hc ds S Q h⟩)
end
end K23

set_option Elab.async false
set_option linter.all false
set_option maxRecDepth 100000
set_option maxHeartbeats 2000000
namespace K23
open PySem L2 DL
/-! ### the data of this law -/
inductive Tt where | l1 | l2 | l3 | r1 | r2
inductive Ee where | one | a | n
def Ee.d : Ee → D
  | .one => .int 1 | .a => .str "a" | .n => .str "n"
def Tt.d : Tt → D
  | .l1 => .tup [.str "less", .str "a", .str "n"]
  | .l2 => .tup [.str "less", .int 1, .str "n"]
  | .l3 => .tup [.str "not", .tup [.str "less", .str "a", .int 1]]
  | .r1 => .tup [.str "not", .tup [.str "rest", .str "a", .int 2, .int 1]]
  | .r2 => .tup [.str "not", .tup [.str "rest", .str "a", .int 6, .int 5]]
def Tt.rest : Tt → Bool | .r1 => true | .r2 => true | _ => false
inductive Sm where
  | pay (e : Ee) | set | stop | iff (t : Tt) (y n : List Sm) | we (a b : List Sm) | they (a b : List Sm) | rep (k : Nat) (b : List Sm)
mutual
def Sm.d : Sm → D
  | .pay e => .tup [.str "pay", e.d]
  | .set => .tup [.str "set", .str "a", .str "n"]
  | .stop => .tup [.str "stop"]
  | .iff t y n => .tup [.str "if", t.d, .tup (dAll y), .tup (dAll n)]
  | .we a b => .tup [.str "we", .tup (dAll a), .tup (dAll b)]
  | .they a b => .tup [.str "they", .tup (dAll a), .tup (dAll b)]
  | .rep k b => .tup [.str "repeat", .int (k : Int), .tup (dAll b)]
def dAll : List Sm → List D
  | [] => []
  | s :: r => s.d :: dAll r
end
def Sm.blocks : Sm → List (List Sm)
  | .iff _ y n => [y, n] | .we a b => [a, b] | .they a b => [a, b] | .rep _ b => [b] | _ => []
mutual
/-- 1 to 8 times, everywhere -/
def Sm.ok : Sm → Prop
  | .iff _ y n => okA y ∧ okA n
  | .we a b => okA a ∧ okA b
  | .they a b => okA a ∧ okA b
  | .rep k b => 1 ≤ k ∧ k ≤ 8 ∧ okA b
  | .pay _ => True | .set => True | .stop => True
def okA : List Sm → Prop
  | [] => True
  | s :: r => s.ok ∧ okA r
end
theorem dAll_map : ∀ b : List Sm, dAll b = b.map Sm.d
  | [] => by simp [dAll]
  | s :: r => by simp [dAll, dAll_map r]
theorem dAll_len (b : List Sm) : (dAll b).length = b.length := by rw [dAll_map, List.length_map]
def c_is_integer : DSp := fun ds S Q => (∃ i, ds = [.int i] ∧ Q (.bl true) S) ∨ ∃ s, ds = [.str s] ∧ Q (.bl false) S
theorem len_is_integer : ∀ ds S Q, c_is_integer ds S Q → ds.length = 1 := by
  rintro ds S Q (⟨i, rfl, _⟩ | ⟨i, rfl, _⟩) <;> rfl
def c_is_within : DSp := fun ds S Q => (∃ i lo hi, ds = [.int i, .int lo, .int hi] ∧ Q (.bl (decide (lo ≤ i) && decide (i ≤ hi))) S) ∨ ∃ s lo hi, ds = [.str s, .int lo, .int hi] ∧ Q (.bl false) S
theorem len_is_within : ∀ ds S Q, c_is_within ds S Q → ds.length = 3 := by
  rintro ds S Q (⟨i, lo, hi, rfl, _⟩ | ⟨i, lo, hi, rfl, _⟩) <;> rfl
theorem wi_i (i lo hi : Int) (S : Sto) (Q : DK) : c_is_within [.int i, .int lo, .int hi] S Q = Q (.bl (decide (lo ≤ i) && decide (i ≤ hi))) S := by
  apply propext
  constructor
  · rintro (⟨a, b, c, h, q⟩ | ⟨a, b, c, h, q⟩)
    · cases h
      exact q
    · cases h
  · intro q
    exact .inl ⟨i, lo, hi, rfl, q⟩
theorem wi_s (s : Str) (lo hi : Int) (S : Sto) (Q : DK) : c_is_within [.str s, .int lo, .int hi] S Q = Q (.bl false) S := by
  apply propext
  constructor
  · rintro (⟨a, b, c, h, q⟩ | ⟨a, b, c, h, q⟩)
    · cases h
    · cases h
      exact q
  · intro q
    exact .inr ⟨s, lo, hi, rfl, q⟩
/-- the names "a" and "n" -/
def c_is_name : DSp := fun ds S Q => (ds = [.str "a"] ∨ ds = [.str "n"]) ∧ Gq Q (.bl true) S
theorem len_is_name : ∀ ds S Q, c_is_name ds S Q → ds.length = 1 := by
  rintro ds S Q ⟨rfl | rfl, _⟩ <;> rfl
theorem sg_a : (Str.ofString "a") = ⟨#[97]⟩ := by decide +kernel
theorem sg_n : (Str.ofString "n") = ⟨#[110]⟩ := by decide +kernel
def words : List Str := ["set", "pay", "stop", "if", "else", "we", "they", "or", "repeat", "pass", "rest", "of", "not", "program"]
/-- the length and the first word of a statement, test or expression among the forms -/
def c_has_form : DSp := fun ds S Q => ∃ (w : String) (r : List D) (ys : List (Str × Int)), ds = [.tup (.str w :: r), .tup (ys.map prD)] ∧ PyData.strOk w = true ∧ (ys.all fun p => PyData.strOk p.1) = true ∧
  Q (.bl (ys.any fun y => y.1 == (w : Str) && y.2 == (r.length + 1 : Int))) S
theorem len_has_form : ∀ ds S Q, c_has_form ds S Q → ds.length = 2 := by
  rintro ds S Q ⟨w, r, ys, rfl, _⟩
  rfl
def forms_S : List (Str × Int) := [("set", 3), ("pay", 2), ("if", 4), ("we", 3), ("they", 3), ("repeat", 3), ("stop", 1)]
def forms_T : List (Str × Int) := [("less", 3), ("rest", 4), ("not", 2)]
theorem k_S : k_STATEMENTS = .tup (forms_S.map prD) := rfl
theorem k_T : k_TESTS = .tup (forms_T.map prD) := rfl
theorem hf {S : Sto} {Q : DK} {w : String} {r : List D} {ys : List (Str × Int)} (n : Nat) (hn : r.length = n) (h1 : PyData.strOk w = true) (h2 : (ys.all fun p => PyData.strOk p.1) = true) (h3 : (ys.any fun y => y.1 == (w : Str) && y.2 == (n + 1 : Int)) = true) (q : Q (.bl true) S) :
    c_has_form [.tup (.str w :: r), .tup (ys.map prD)] S Q := ⟨w, r, ys, rfl, h1, h2, by rw [hn, h3]; exact q⟩
def c_is_expression : DSp := fun ds S Q => ∃ e : Ee, ds = [e.d, .int 3] ∧ Gq Q (.bl true) S
theorem len_is_expression : ∀ ds S Q, c_is_expression ds S Q → ds.length = 2 := by
  rintro ds S Q ⟨e, rfl, _⟩
  rfl
def c_is_test0 : DSp := fun ds S Q => ∃ t : Tt, ds = [t.d, .int 2] ∧ Gq Q (.bl true) S
/-- a test below one "not" -/
def c_is_test1 : DSp := fun ds S Q => (ds = [.tup [.str "less", .str "a", .int 1], .int 1] ∨ ds = [.tup [.str "rest", .str "a", .int 2, .int 1], .int 1] ∨ ds = [.tup [.str "rest", .str "a", .int 6, .int 5], .int 1]) ∧ Gq Q (.bl true) S
theorem len_is_test0 : ∀ ds S Q, c_is_test0 ds S Q → ds.length = 2 := by
  rintro ds S Q ⟨e, rfl, _⟩
  rfl
theorem len_is_test1 : ∀ ds S Q, c_is_test1 ds S Q → ds.length = 2 := by
  rintro ds S Q ⟨rfl | rfl | rfl, _⟩ <;> rfl
theorem ex_a {S : Sto} {Q : DK} (q : Gq Q (.bl true) S) : c_is_expression [.str "a", .int 3] S Q := ⟨.a, rfl, q⟩
theorem ex_n {S : Sto} {Q : DK} (q : Gq Q (.bl true) S) : c_is_expression [.str "n", .int 3] S Q := ⟨.n, rfl, q⟩
theorem ex_1 {S : Sto} {Q : DK} (q : Gq Q (.bl true) S) : c_is_expression [.int 1, .int 3] S Q := ⟨.one, rfl, q⟩
def c_blocks_of : DSp := fun ds S Q => ∃ s : Sm, ds = [s.d] ∧ Q (.tup (s.blocks.map fun b => .tup (dAll b))) S
theorem len_blocks_of : ∀ ds S Q, c_blocks_of ds S Q → ds.length = 1 := by
  rintro ds S Q ⟨e, rfl, _⟩
  rfl
def c_is_statement : DSp := fun ds S Q => ∃ s : Sm, ds = [s.d] ∧ s.ok ∧ Gq Q (.bl true) S
theorem len_is_statement : ∀ ds S Q, c_is_statement ds S Q → ds.length = 1 := by
  rintro ds S Q ⟨e, rfl, _⟩
  rfl
mutual
def fS : Sm → Int → Nat → Int × Bool
  | .iff _ y n, p, d => match fB y p d with
    | (p1, true) => (p1, true)
    | (p1, false) => fB n p1 d
  | .we y n, p, d => match fB y p d with
    | (p1, true) => (p1, true)
    | (p1, false) => fB n p1 d
  | .they y n, p, d => match fB y p d with
    | (p1, true) => (p1, true)
    | (p1, false) => fB n p1 d
  | .rep _ b, p, d => fB b p d
  | .pay _, p, _ => (p, false) | .set, p, _ => (p, false) | .stop, p, _ => (p, false)
def fB : List Sm → Int → Nat → Int × Bool
  | [], p, _ => (p, false)
  | s :: r, p, d => if 3 < d then (p, true) else match fS s (p + 1) (d + 1) with
    | (p1, true) => (p1, true)
    | (p1, false) => fB r p1 d
end
def fBs : List (List Sm) → Int → Nat → Int × Bool
  | [], p, _ => (p, false)
  | b :: bs, p, d => match fB b p d with
    | (p1, true) => (p1, true)
    | (p1, false) => fBs bs p1 d
def fD : Int × Bool → D
  | (p, true) => .tup [.int p, .str "nest"]
  | (p, false) => .tup [.int p, .non]
def c_fault_in (j : Nat) : DSp := fun ds S Q => ∃ (b : List Sm) (p : Int) (d : Nat), ds = [.tup (dAll b), .int p, .int (d : Int)] ∧ okA b ∧ 5 ≤ d + j ∧ Gq Q (fD (fB b p d)) S
theorem len_fault_in (j : Nat) : ∀ ds S Q, c_fault_in j ds S Q → ds.length = 3 := by
  rintro ds S Q ⟨b, p, d, rfl, _⟩
  rfl

/-! ### counting -/
def kindW : Sm → String
  | .pay _ => "pay" | .set => "set" | .stop => "stop" | .we _ _ => "we" | .they _ _ => "they" | .rep _ _ => "repeat"
  | .iff t _ _ => if t.rest then "rest" else "less"
mutual
def iS (κ : Sm → Bool) : Sm → Int
  | .iff _ y n => cB κ y + cB κ n
  | .we y n => cB κ y + cB κ n
  | .they y n => cB κ y + cB κ n
  | .rep k b => (k : Int) * cB κ b
  | .pay _ => 0 | .set => 0 | .stop => 0
def cB (κ : Sm → Bool) : List Sm → Int
  | [] => 0
  | s :: r => iS κ s + (if κ s then 1 else 0) + cB κ r
end
mutual
def hS : Sm → Nat
  | .iff _ y n => max (hB y) (hB n)
  | .we y n => max (hB y) (hB n)
  | .they y n => max (hB y) (hB n)
  | .rep _ b => hB b
  | .pay _ => 0 | .set => 0 | .stop => 0
def hB : List Sm → Nat
  | [] => 0
  | s :: r => max (hS s + 1) (hB r)
end
def kin (ys : List Str) : Sm → Bool := fun s => ys.any fun y => y == (kindW s : Str)
def c_kind_of : DSp := fun ds S Q => ∃ s : Sm, ds = [s.d] ∧ Q (.str (kindW s)) S
def c_counted (j : Nat) : DSp := fun ds S Q => ∃ (b : List Sm) (ys : List Str), ds = [.tup (dAll b), .tup (ys.map D.str)] ∧ okA b ∧ hB b < j ∧ ys.all PyData.strOk = true ∧ Gq Q (.int (cB (kin ys) b)) S
theorem len_kind_of : ∀ ds S Q, c_kind_of ds S Q → ds.length = 1 := by
  rintro ds S Q ⟨s, rfl, _⟩
  rfl
theorem len_counted (j : Nat) : ∀ ds S Q, c_counted j ds S Q → ds.length = 2 := by
  rintro ds S Q ⟨b, ys, rfl, _⟩
  rfl
mutual
/-- how many statements -/
def pS : Sm → Int
  | .iff _ y n => pB y + pB n
  | .we y n => pB y + pB n
  | .they y n => pB y + pB n
  | .rep _ b => pB b
  | .pay _ => 0 | .set => 0 | .stop => 0
def pB : List Sm → Int
  | [] => 0
  | s :: r => 1 + pS s + pB r
end
def kAll : List Str := ["set", "pay", "less", "rest", "we", "they", "repeat", "stop"]
def cW (b : List Sm) : Int := cB (kin kAll) b
def cC (b : List Sm) : Int := cB (kin ["we", "they"]) b
def cR (b : List Sm) : Int := cB (kin ["rest"]) b
def cL (b : List Sm) : Int := cB (kin ["less"]) b
def boundW (b : List Sm) : Option String :=
  if 24 < pB b then some "places" else if 30 < cW b then some "weight" else if 4 < cC b then some "choices" else if 2 < cR b then some "rests" else if 2 < cL b then some "comparings" else none
def bD : Option String → D
  | none => .non
  | some w => .str w
def resD (b : List Sm) : D := match fB b 0 0 with
  | (p, true) => .tup [.int p, .str "nest"]
  | (_, false) => match boundW b with
    | none => .non
    | some w => .tup [.non, .str w]
/-- the program itself -/
def c_program_error : DSp := fun ds S Q => ∃ b : List Sm, ds = [.tup (dAll b)] ∧ okA b ∧ Gq Q (resD b) S
def c_weight : DSp := fun ds S Q => ∃ b : List Sm, ds = [.tup (dAll b)] ∧ okA b ∧ hB b < 5 ∧ Gq Q (.int (cW b)) S
def c_bound_passed : DSp := fun ds S Q => ∃ b : List Sm, ds = [.tup (dAll b), .int (pB b)] ∧ okA b ∧ hB b < 5 ∧ Gq Q (bD (boundW b)) S
theorem len_program_error : ∀ ds S Q, c_program_error ds S Q → ds.length = 1 := by
  rintro ds S Q ⟨b, rfl, _⟩
  rfl
theorem len_weight : ∀ ds S Q, c_weight ds S Q → ds.length = 1 := by
  rintro ds S Q ⟨b, rfl, _⟩
  rfl
theorem len_bound_passed : ∀ ds S Q, c_bound_passed ds S Q → ds.length = 2 := by
  rintro ds S Q ⟨b, rfl, _⟩
  rfl
theorem ext_set {S0 S1 : Sto} {l : Nat} {o : Ob} (e : Ext S0 S1) (h : S0.length ≤ l) : Ext S0 (S1.set l o) := by
  obtain ⟨z, rfl⟩ := e
  rw [List.set_append_right (h := h)]
  exact ⟨_, rfl⟩
/-- [te for x in as]: each element by itself -/
theorem lc_map {α : Type} (g h : α → D) (S0 : Sto) (l i : Nat) (te : DE) (δ : DEnv) (hl : S0.length ≤ l) : ∀ (as : List α) (acc : List D) (S : Sto) (Q : DK), Ext S0 S → S[l]? = some (.lst acc) → acc.length + as.length < 100000 →
    (∀ x ∈ as, ∀ (S : Sto) (Q : DK), Ext S0 S → Gq Q (h x) S → te (δ.set i (some (g x))) S Q) → (∀ S', Ext S0 S' → S'[l]? = some (.lst (acc ++ as.map h)) → Q (.loc l) S') → lcL (fun _ => True) i l dYes te (as.map g) δ S Q
  | [], acc, S, Q, e, s, _, _, q => by
    refine ⟨trivial, q S e ?_⟩
    rw [List.map_nil, List.append_nil]
    exact s
  | x :: r, acc, S, Q, e, s, hz, hx, q => by
    rw [List.length_cons] at hz
    refine ⟨trivial, ?_⟩
    dsimp only [dYes]
    rw [if_pos rfl]
    refine hx x List.mem_cons_self S _ e fun S1 e1 => ⟨acc, e1.at s, by omega, ?_⟩
    have hlt : l < S1.length := (List.getElem?_eq_some_iff.mp (e1.at s)).1
    refine lc_map g h S0 l i te δ hl r (acc ++ [h x]) _ Q (ext_set (e.trans e1) hl) (by rw [List.getElem?_set_self hlt]) (by rw [List.length_append, List.length_singleton]; omega) (fun y hy => hx y (List.mem_cons_of_mem _ hy)) fun S' e' s' => q S' e' ?_
    rw [s', List.append_assoc]
    rfl

/-! ### the law's own defs -/
def c__law_is_rest : DSp := fun ds S Q => (ds = [.tup [.str "rest", .str "a", .int 2, .int 1]] ∨ ds = [.tup [.str "rest", .str "a", .int 6, .int 5]]) ∧ Gq Q (.bl true) S
theorem len__law_is_rest : ∀ ds S Q, c__law_is_rest ds S Q → ds.length = 1 := by
  rintro ds S Q ⟨rfl | rfl, _⟩ <;> rfl
def c__law_is_statement : DSp := fun ds S Q => ∃ s : Sm, ds = [s.d] ∧ s.ok ∧ hS s ≤ 25 ∧ Gq Q (.bl true) S
theorem len__law_is_statement : ∀ ds S Q, c__law_is_statement ds S Q → ds.length = 1 := by
  rintro ds S Q ⟨s, rfl, _⟩
  rfl
def Ee.p : Ee → PyData
  | .one => .int 1 | .a => .str "a" | .n => .str "n"
def Tt.p : Tt → PyData
  | .l1 => .tuple [.str "less", .str "a", .str "n"]
  | .l2 => .tuple [.str "less", .int 1, .str "n"]
  | .l3 => .tuple [.str "not", .tuple [.str "less", .str "a", .int 1]]
  | .r1 => .tuple [.str "not", .tuple [.str "rest", .str "a", .int 2, .int 1]]
  | .r2 => .tuple [.str "not", .tuple [.str "rest", .str "a", .int 6, .int 5]]
mutual
def Sm.p : Sm → PyData
  | .pay e => .tuple [.str "pay", e.p]
  | .set => .tuple [.str "set", .str "a", .str "n"]
  | .stop => .tuple [.str "stop"]
  | .iff t y n => .tuple [.str "if", t.p, .tuple (pAll y), .tuple (pAll n)]
  | .we a b => .tuple [.str "we", .tuple (pAll a), .tuple (pAll b)]
  | .they a b => .tuple [.str "they", .tuple (pAll a), .tuple (pAll b)]
  | .rep k b => .tuple [.str "repeat", .int (k : Int), .tuple (pAll b)]
def pAll : List Sm → List PyData
  | [] => []
  | s :: r => s.p :: pAll r
end
theorem py_E {S : Sto} (e : Ee) : PyOf S e.d e.p := by
  cases e
  · exact .int 1
  · exact .str _
  · exact .str _
theorem py_T {S : Sto} (t : Tt) : PyOf S t.d t.p := by
  cases t
  · exact .tup (.cons (.str _) (.cons (.str _) (.cons (.str _) .nil)))
  · exact .tup (.cons (.str _) (.cons (.int _) (.cons (.str _) .nil)))
  · exact .tup (.cons (.str _) (.cons (.tup (.cons (.str _) (.cons (.str _) (.cons (.int _) .nil)))) .nil))
  · exact .tup (.cons (.str _) (.cons (.tup (.cons (.str _) (.cons (.str _) (.cons (.int _) (.cons (.int _) .nil))))) .nil))
  · exact .tup (.cons (.str _) (.cons (.tup (.cons (.str _) (.cons (.str _) (.cons (.int _) (.cons (.int _) .nil))))) .nil))
mutual
theorem py_S {S : Sto} : ∀ s : Sm, PyOf S s.d s.p
  | .pay e => by rw [Sm.d, Sm.p]; exact .tup (.cons (.str _) (.cons (py_E e) .nil))
  | .set => by rw [Sm.d, Sm.p]; exact .tup (.cons (.str _) (.cons (.str _) (.cons (.str _) .nil)))
  | .stop => by rw [Sm.d, Sm.p]; exact .tup (.cons (.str _) .nil)
  | .iff t y n => by rw [Sm.d, Sm.p]; exact .tup (.cons (.str _) (.cons (py_T t) (.cons (.tup (py_A y)) (.cons (.tup (py_A n)) .nil))))
  | .we y n => by rw [Sm.d, Sm.p]; exact .tup (.cons (.str _) (.cons (.tup (py_A y)) (.cons (.tup (py_A n)) .nil)))
  | .they y n => by rw [Sm.d, Sm.p]; exact .tup (.cons (.str _) (.cons (.tup (py_A y)) (.cons (.tup (py_A n)) .nil)))
  | .rep k b => by rw [Sm.d, Sm.p]; exact .tup (.cons (.str _) (.cons (.int _) (.cons (.tup (py_A b)) .nil)))
theorem py_A {S : Sto} : ∀ b : List Sm, PyOfA S (dAll b) (pAll b)
  | [] => by rw [dAll, pAll]; exact .nil
  | s :: r => by rw [dAll, pAll]; exact .cons (py_S s) (py_A r)
end
theorem so (x : String) (h : PyData.strOk x = true) : PyData.canLay0 (.str x) = true := by simp [PyData.canLay0, h]
theorem lay_E (e : Ee) : e.p.canLay0 = true ∧ e.p.depth = 0 := by
  cases e <;> simp only [Ee.p, PyData.canLay0, PyData.depth, and_true] <;> decide +kernel
theorem lay_T (t : Tt) : t.p.canLay0 = true ∧ t.p.depth ≤ 2 := by
  cases t <;> simp [Tt.p, PyData.canLay0, PyData.canLayAll0, PyData.depth, PyData.depthAll] <;> decide +kernel
theorem w1 : PyData.strOk "pay" = true := by decide +kernel
theorem w2 : PyData.strOk "set" = true := by decide +kernel
theorem w3 : PyData.strOk "stop" = true := by decide +kernel
theorem w4 : PyData.strOk "if" = true := by decide +kernel
theorem w5 : PyData.strOk "we" = true := by decide +kernel
theorem w6 : PyData.strOk "they" = true := by decide +kernel
theorem w7 : PyData.strOk "repeat" = true := by decide +kernel
theorem w8 : PyData.strOk "a" = true := by decide +kernel
theorem w9 : PyData.strOk "n" = true := by decide +kernel
mutual
theorem lay_S : ∀ s : Sm, s.p.canLay0 = true ∧ s.p.depth ≤ 2 * hS s + 3
  | .pay e => by
    have h := lay_E e
    simp [Sm.p, PyData.canLay0, PyData.canLayAll0, PyData.depth, PyData.depthAll, w1, h.1, h.2]
  | .set => by simp [Sm.p, PyData.canLay0, PyData.canLayAll0, PyData.depth, PyData.depthAll, w2, w8, w9]
  | .stop => by simp [Sm.p, PyData.canLay0, PyData.canLayAll0, PyData.depth, PyData.depthAll, w3]
  | .iff t y n => by
    have h := lay_T t
    have h1 := lay_A y
    have h2 := lay_A n
    simp only [Sm.p, PyData.canLay0, PyData.canLayAll0, PyData.depth, PyData.depthAll, hS, w4, h.1, h1.1, h2.1, Bool.and_self, true_and]
    have := h.2
    have := h1.2
    have := h2.2
    omega
  | .we y n => by
    have h1 := lay_A y
    have h2 := lay_A n
    simp only [Sm.p, PyData.canLay0, PyData.canLayAll0, PyData.depth, PyData.depthAll, hS, w5, h1.1, h2.1, Bool.and_self, true_and]
    have := h1.2
    have := h2.2
    omega
  | .they y n => by
    have h1 := lay_A y
    have h2 := lay_A n
    simp only [Sm.p, PyData.canLay0, PyData.canLayAll0, PyData.depth, PyData.depthAll, hS, w6, h1.1, h2.1, Bool.and_self, true_and]
    have := h1.2
    have := h2.2
    omega
  | .rep k b => by
    have h1 := lay_A b
    simp only [Sm.p, PyData.canLay0, PyData.canLayAll0, PyData.depth, PyData.depthAll, hS, w7, h1.1, Bool.and_self, true_and]
    have := h1.2
    omega
theorem lay_A : ∀ b : List Sm, PyData.canLayAll0 (pAll b) = true ∧ PyData.depthAll (pAll b) ≤ 2 * hB b + 1
  | [] => by simp [pAll, PyData.canLayAll0, PyData.depthAll]
  | s :: r => by
    have h1 := lay_S s
    have h2 := lay_A r
    simp only [pAll, PyData.canLayAll0, PyData.depthAll, hB, h1.1, h2.1, Bool.and_self, true_and]
    have := h1.2
    have := h2.2
    omega
end
theorem shaped_S {s : Sm} (h : hS s ≤ 25) : SeqAt.shaped s.p = true := by
  have := lay_S s
  simp only [SeqAt.shaped, this.1, Bool.true_and]
  exact decide_eq_true (by omega)
theorem shaped_nilT : SeqAt.shaped (.tuple []) = true := by simp [SeqAt.shaped, PyData.canLay0, PyData.canLayAll0, PyData.depth, PyData.depthAll]
theorem shaped_nilL : SeqAt.shaped (.list []) = true := by simp [SeqAt.shaped, PyData.canLay0, PyData.canLayAll0, PyData.depth, PyData.depthAll]
/-- a statement or a test is not () -/
theorem ne_nil {ds : List D} {x : D} {ps : List PyData} {S : Sto} {Q : DK} (h : PyOfA S (x :: ds) ps) (hs : SeqAt.shaped (.tuple ps) = true) (q : Q (.bl false) S) : rdEq id (.tup (x :: ds)) (.tup []) S Q := by
  refine ⟨.tuple ps, .tuple [], .tup h, .tup .nil, hs, shaped_nilT, ?_⟩
  cases h with
  | cons h1 h2 =>
    have e : ∀ (p : PyData) (l : List PyData), PyData.eqv (.tuple (p :: l)) (.tuple []) = false := fun p l => by simp [PyData.eqv, PyData.eqvAll]
    rw [e]
    exact q

def vec (a b c d e : Int) : List D := [.int a, .int b, .int c, .int d, .int e]
def c__law_counts (j : Nat) : DSp := fun ds S Q => ∃ b : List Sm, ds = [.tup (dAll b)] ∧ okA b ∧ hB b < j ∧ ∀ S' l, Ext S S' → S'[l]? = some (.lst (vec (pB b) (cW b) (cC b) (cR b) (cL b))) → Q (.loc l) S'
theorem len__law_counts (j : Nat) : ∀ ds S Q, c__law_counts j ds S Q → ds.length = 1 := by
  rintro ds S Q ⟨b, rfl, _⟩
  rfl
end K23

set_option Elab.async false
set_option linter.all false
set_option maxRecDepth 100000
set_option maxHeartbeats 2000000
namespace K23
open PySem L2 DL
/-! ### program: the small ones -/
theorem r_is_integer : ∀ ds S Q, c_is_integer ds S Q → rd_is_integer { nx := fun _ S' => Q .non S', rt := Q } (startD 1 ds) S := by
  rintro ds S Q (⟨i, rfl, q⟩ | ⟨i, rfl, q⟩) <;> simp [rd_is_integer, q]
theorem r_is_within : ∀ ds S Q, c_is_within ds S Q → rd_is_within c_is_integer { nx := fun _ S' => Q .non S', rt := Q } (startD 3 ds) S := by
  rintro ds S Q (⟨i, lo, hi, rfl, q⟩ | ⟨i, lo, hi, rfl, q⟩)
  · simp [rd_is_within, c_is_integer]
    by_cases h : lo ≤ i
    · simp [h] at q ⊢
      exact q
    · simp [h] at q ⊢
      exact q
  · simp [rd_is_within, c_is_integer, q]
theorem rn_one (c : Nat) (S : Sto) (Q : DK) (h1 : (words.any fun y => y == ⟨#[c]⟩) = false) (h2 : c ∈ (Str.ofString "abcdefghijklmnopqrstuvwxyz").cps.toList) (h3 : PyData.strOk ⟨#[c]⟩ = true) (q : Gq Q (.bl true) S) :
    rd_is_name { nx := fun _ S' => Q .non S', rt := Q } (startD 2 [.str ⟨#[c]⟩]) S := by
  have hl : (Str.length ⟨#[c]⟩ : Nat) = 1 := rfl
  simp only [rd_is_name, sSeq, sIf, dOr, dNot, dTest, dIsi, dVar, startD, tyD, kb11, dChain, dC, dCB, dCons, dNil, rdLen, rdI0, sRet, sNext, dOp]
  refine ⟨_, rfl, true, rfl, true, rfl, ?_⟩
  simp [hl]
  refine in_strs (ys := words) h3 (by decide +kernel) ?_
  rw [h1]
  simp
  refine ⟨c, rfl, ?_⟩
  simp [h2]
  simp [signsD, lcL]
  refine ⟨c, rfl, .inr ⟨?_, [], at_end _ _, by decide, ?_⟩⟩
  · rw [decide_eq_true h2]
    rfl
  · rw [set_end]
    exact all_bs [true] rfl q
theorem r_is_name : ∀ ds S Q, c_is_name ds S Q → rd_is_name { nx := fun _ S' => Q .non S', rt := Q } (startD 2 ds) S := by
  rintro ds S Q ⟨rfl | rfl, q⟩
  · rw [sg_a]
    exact rn_one 97 S Q (by decide +kernel) (by decide +kernel) (by decide +kernel) q
  · rw [sg_n]
    exact rn_one 110 S Q (by decide +kernel) (by decide +kernel) (by decide +kernel) q
theorem r_has_form : ∀ ds S Q, c_has_form ds S Q → rd_has_form { nx := fun _ S' => Q .non S', rt := Q } (startD 2 ds) S := by
  rintro ds S Q ⟨w, r, ys, rfl, h1, h2, q⟩
  simp [rd_has_form]
  exact in_prs (x := ((w : Str), (r.length + 1 : Int))) h1 h2 q
theorem r_is_expression {c0 : DSp} : ∀ ds S Q, c_is_expression ds S Q → rd_is_expression c0 c_is_within c_has_form c_is_name { nx := fun _ S' => Q .non S', rt := Q } (startD 2 ds) S := by
  rintro ds S Q ⟨e, rfl, q⟩
  cases e with
  | one => simp [rd_is_expression, Ee.d, wi_i, q.now]
  | a =>
    simp [rd_is_expression, Ee.d, wi_s, c_is_name]
    intro S1 e1
    simp
    exact q S1 e1
  | n =>
    simp [rd_is_expression, Ee.d, wi_s, c_is_name]
    intro S1 e1
    simp
    exact q S1 e1
theorem r_is_test1 {c0 : DSp} : ∀ ds S Q, c_is_test1 ds S Q → rd_is_test c_is_within c_is_expression c0 c_has_form { nx := fun _ S' => Q .non S', rt := Q } (startD 2 ds) S := by
  rintro ds S Q ⟨rfl | rfl | rfl, q⟩
  · simp [rd_is_test]
    refine hf (ys := forms_T) _ rfl (by decide +kernel) (by decide +kernel) (by decide +kernel) ?_
    simp
    refine ex_a fun S1 e1 => ?_
    simp
    exact ex_1 (q.up e1)
  · simp [rd_is_test]
    refine hf (ys := forms_T) _ rfl (by decide +kernel) (by decide +kernel) (by decide +kernel) ?_
    simp
    refine ex_a fun S1 e1 => ?_
    simp [wi_i]
    exact q S1 e1
  · simp [rd_is_test]
    refine hf (ys := forms_T) _ rfl (by decide +kernel) (by decide +kernel) (by decide +kernel) ?_
    simp
    refine ex_a fun S1 e1 => ?_
    simp [wi_i]
    exact q S1 e1
theorem r_is_test0 : ∀ ds S Q, c_is_test0 ds S Q → rd_is_test c_is_within c_is_expression c_is_test1 c_has_form { nx := fun _ S' => Q .non S', rt := Q } (startD 2 ds) S := by
  rintro ds S Q ⟨t, rfl, q⟩
  cases t
  · simp [rd_is_test, Tt.d]
    refine hf (ys := forms_T) _ rfl (by decide +kernel) (by decide +kernel) (by decide +kernel) ?_
    simp
    refine ex_a fun S1 e1 => ?_
    simp
    exact ex_n (q.up e1)
  · simp [rd_is_test, Tt.d]
    refine hf (ys := forms_T) _ rfl (by decide +kernel) (by decide +kernel) (by decide +kernel) ?_
    simp
    refine ex_1 fun S1 e1 => ?_
    simp
    exact ex_n (q.up e1)
  all_goals
    simp [rd_is_test, Tt.d]
    refine hf (ys := forms_T) _ rfl (by decide +kernel) (by decide +kernel) (by decide +kernel) ?_
    simp [c_is_test1]
    exact q
theorem r_blocks_of : ∀ ds S Q, c_blocks_of ds S Q → rd_blocks_of { nx := fun _ S' => Q .non S', rt := Q } (startD 1 ds) S := by
  rintro ds S Q ⟨s, rfl, q⟩
  cases s <;>
  · simp [rd_blocks_of, Sm.d]
    refine in_strs (ys := ["we", "they"]) (by decide +kernel) (by decide +kernel) ?_
    simp
    first
      | exact q
      | (refine in_strs (ys := ["if", "repeat"]) (by decide +kernel) (by decide +kernel) ?_
         simp
         exact q)
end K23

set_option Elab.async false
set_option linter.all false
set_option maxRecDepth 100000
set_option maxHeartbeats 2000000
namespace K23
open PySem L2 DL
theorem r_is_statement : ∀ ds S Q, c_is_statement ds S Q → rd_is_statement c_blocks_of c_is_within c_is_test0 c_is_expression c_is_name c_has_form { nx := fun _ S' => Q .non S', rt := Q } (startD 2 ds) S := by
  rintro ds S Q ⟨s, rfl, hok, q⟩
  cases s with
  | pay e =>
    simp [rd_is_statement, Sm.d]
    refine hf (ys := forms_S) 1 rfl (by decide +kernel) (by decide +kernel) (by decide +kernel) ?_
    simp
    exact ⟨e, rfl, q⟩
  | set =>
    simp [rd_is_statement, Sm.d]
    refine hf (ys := forms_S) 2 rfl (by decide +kernel) (by decide +kernel) (by decide +kernel) ?_
    simp
    refine ⟨.inl rfl, fun S1 e1 => ?_⟩
    simp
    exact ex_n (q.up e1)
  | stop =>
    simp [rd_is_statement, Sm.d]
    refine hf (ys := forms_S) 0 rfl (by decide +kernel) (by decide +kernel) (by decide +kernel) ?_
    simp
    refine ⟨.stop, rfl, ?_⟩
    simp [Sm.blocks, lcL]
    exact all_bs [] rfl q
  | we a b =>
    simp [rd_is_statement, Sm.d]
    refine hf (ys := forms_S) 2 rfl (by decide +kernel) (by decide +kernel) (by decide +kernel) ?_
    simp
    refine ⟨.we a b, by simp [Sm.d], ?_⟩
    simp [Sm.blocks, lcL]
    exact all_bs [true, true] rfl q
  | they a b =>
    simp [rd_is_statement, Sm.d]
    refine hf (ys := forms_S) 2 rfl (by decide +kernel) (by decide +kernel) (by decide +kernel) ?_
    simp
    refine ⟨.they a b, by simp [Sm.d], ?_⟩
    simp [Sm.blocks, lcL]
    exact all_bs [true, true] rfl q
  | iff t y n =>
    simp [rd_is_statement, Sm.d]
    refine hf (ys := forms_S) 3 rfl (by decide +kernel) (by decide +kernel) (by decide +kernel) ?_
    simp
    refine ⟨t, rfl, fun S1 e1 => ?_⟩
    simp
    refine ⟨.iff t y n, by simp [Sm.d], ?_⟩
    simp [Sm.blocks, lcL]
    exact all_bs [true, true] rfl (q.up e1)
  | rep k b =>
    simp only [Sm.ok] at hok
    have h1 : (1 : Int) ≤ (k : Int) := by omega
    have h2 : (k : Int) ≤ 8 := by omega
    simp [rd_is_statement, Sm.d]
    refine hf (ys := forms_S) 2 rfl (by decide +kernel) (by decide +kernel) (by decide +kernel) ?_
    simp [wi_i, h1, h2]
    refine ⟨.rep k b, by simp [Sm.d], ?_⟩
    simp [Sm.blocks, lcL]
    exact all_bs [true] rfl q
end K23

set_option Elab.async false
set_option linter.all false
set_option maxRecDepth 100000
set_option maxHeartbeats 2000000
namespace K23
open PySem L2 DL
theorem fS_blocks (s : Sm) (p : Int) (d : Nat) : fS s p d = fBs s.blocks p d := by
  have two : ∀ y n : List Sm, (match fB y p d with | (p1, true) => (p1, true) | (p1, false) => fB n p1 d) = fBs [y, n] p d := by
    intro y n
    simp only [fBs]
    rcases fB y p d with ⟨p1, _ | _⟩
    · simp only
      rcases fB n p1 d with ⟨p2, _ | _⟩ <;> rfl
    · rfl
  have one : ∀ b : List Sm, fB b p d = fBs [b] p d := by
    intro b
    simp only [fBs]
    rcases fB b p d with ⟨p1, _ | _⟩ <;> rfl
  cases s with
  | iff t y n => simp only [fS, Sm.blocks]; exact two y n
  | we y n => simp only [fS, Sm.blocks]; exact two y n
  | they y n => simp only [fS, Sm.blocks]; exact two y n
  | rep k b => simp only [fS, Sm.blocks]; exact one b
  | pay e => simp only [fS, Sm.blocks, fBs]
  | set => simp only [fS, Sm.blocks, fBs]
  | stop => simp only [fS, Sm.blocks, fBs]
theorem ok_blocks {s : Sm} (h : s.ok) : ∀ b ∈ s.blocks, okA b := by
  cases s <;> simp [Sm.blocks, Sm.ok] at h ⊢ <;> simp_all
abbrev inBody (j : Nat) : DS := (sSeq (sAsg (dCall (c_fault_in j) (dCons (dVar 4) (dCons (dVar 1) (dCons (dOp rdAdd (dVar 2) (dC (.int 1))) dNil)))) (gd2 (gdName 1) (gdName 5)))
    (sIf (dTest (dOp (rdIsN not) (dVar 5) (dC .non))) (sRet (dTup (dCons (dVar 1) (dCons (dVar 5) dNil)))) sNext))
theorem in_loop (j d : Nat) (hj : 4 ≤ d + j) (b0 it : D) (NX : DEnv → Sto → Prop) (Q : DK) (Dd : DEnds) (hnx : Dd.nx = NX) (hrt : Dd.rt = Q) : ∀ (bs : List (List Sm)) (p : Int) (S : Sto) (x4 x5 : Option D), (∀ b ∈ bs, okA b) →
    (∀ p1, fBs bs p (d + 1) = (p1, true) → Gq Q (fD (p1, true)) S) →
    (∀ p1, fBs bs p (d + 1) = (p1, false) → ∀ S1, Ext S S1 → ∀ y4 y5, NX [some b0, some (.int p1), some (.int (d : Int)), some it, y4, y5] S1) →
    forL (fun _ => True) (gdName 4) (inBody j) (bs.map fun b => .tup (dAll b)) Dd [some b0, some (.int p), some (.int (d : Int)), some it, x4, x5] S
  | [], p, S, x4, x5, _, _, h2 => by
    simp [forL, hnx]
    exact h2 p rfl S (.refl S) x4 x5
  | b :: bs, p, S, x4, x5, hok, h1, h2 => by
    simp [forL]
    refine ⟨b, p, d + 1, by simp, hok b List.mem_cons_self, by omega, fun S1 e1 => ?_⟩
    cases hf : fB b p (d + 1) with
    | mk p1 k =>
      cases k with
      | true =>
        simp [fD, hrt, isNonD]
        exact h1 p1 (by simp [fBs, hf]) S1 e1
      | false =>
        simp [fD, isNonD]
        exact in_loop j d hj b0 it NX Q Dd hnx hrt bs p1 S1 _ _ (fun b hb => hok b (List.mem_cons_of_mem _ hb))
          (fun p2 h => (h1 p2 (by simp [fBs, hf, h])).up e1) (fun p2 h S2 e2 => h2 p2 (by simp [fBs, hf, h]) S2 (e1.trans e2))
theorem out_loop (j d : Nat) (hj : 4 ≤ d + j) (b0 : D) (Q : DK) (Dd : DEnds) (hrt : Dd.rt = Q) (hnx : Dd.nx = fun δ S => sRet (dTup (dCons (dVar 1) (dCons (dC .non) dNil))) Dd δ S) : ∀ (b : List Sm) (p : Int) (S : Sto) (x3 x4 x5 : Option D), okA b → Gq Q (fD (fB b p d)) S →
    forL (fun _ => True) (gdName 3) (sSeq (sIf (dTest (dOp (rdI0 fun i j => .bl (decide (j < i))) (dVar 2) (dC k_MAX_NEST))) (sRet (dTup (dCons (dVar 1) (dCons (dC (.str "nest")) dNil)))) sNext)
    (sSeq (sIf (dNot (dTest (dCall c_is_statement (dCons (dVar 3) dNil)))) (sRet (dTup (dCons (dVar 1) (dCons (dC (.str "statement")) dNil)))) sNext)
    (sSeq (sAugI 1 (fun i j => i + j) (dC (.int 1)))
    (sFor (diAny (dCall c_blocks_of (dCons (dVar 3) dNil))) (gdName 4) (inBody j))))) (dAll b) Dd [some b0, some (.int p), some (.int (d : Int)), x3, x4, x5] S
  | [], p, S, x3, x4, x5, _, q => by
    rw [dAll, forL, hnx]
    simp [hrt]
    have := q.now
    simp [fB, fD] at this
    exact this
  | s :: r, p, S, x3, x4, x5, hok, q => by
    simp only [okA] at hok
    rw [dAll, forL]
    by_cases hd : 3 < d
    · have hd' : (3 : Int) < (d : Int) := by omega
      have := q.now
      simp [fB, hd, fD] at this
      simp [hd', hrt]
      exact this
    · have hd' : ¬ (3 : Int) < (d : Int) := by omega
      simp [hd']
      refine ⟨s, rfl, hok.1, fun S1 e1 => ?_⟩
      simp
      refine ⟨s, rfl, ?_⟩
      have q1 := q.up e1
      have ef : fB (s :: r) p d = match fBs s.blocks (p + 1) (d + 1) with | (p1, true) => (p1, true) | (p1, false) => fB r p1 d := by
        rw [fB, if_neg hd, fS_blocks]
        try (rcases fBs s.blocks (p + 1) (d + 1) with ⟨p1, _ | _⟩ <;> rfl)
      refine in_loop j d hj b0 s.d _ Q _ (by rfl) (by exact hrt) s.blocks (p + 1) S1 x4 x5 (ok_blocks hok.1) (fun p1 h => ?_) (fun p1 h S2 e2 y4 y5 => ?_)
      · rw [ef, h] at q1
        exact q1
      · rw [ef, h] at q1
        exact out_loop j d hj b0 Q Dd hrt hnx r p1 S2 _ _ _ hok.2 (q1.up e2)
theorem r_fault_in (j : Nat) : ∀ ds S Q, c_fault_in (j + 1) ds S Q → rd_fault_in c_blocks_of (c_fault_in j) c_is_statement { nx := fun _ S' => Q .non S', rt := Q } (startD 6 ds) S := by
  rintro ds S Q ⟨b, p, d, rfl, hok, hj, q⟩
  have := out_loop j d (by omega) (.tup (dAll b)) Q { nx := fun δ S => sRet (dTup (dCons (dVar 1) (dCons (dC .non) dNil))) { nx := fun _ S' => Q .non S', rt := Q } δ S, rt := Q } rfl rfl b p S none none none hok q
  simp only [rd_fault_in, sSeq, sFor, diAny, dVar, startD]
  exact ⟨_, rfl, this⟩
theorem r_fault_0 : ∀ ds S Q, c_fault_in 0 ds S Q → c_fault_in 1 ds S Q := by
  rintro ds S Q ⟨b, p, d, rfl, hok, hj, q⟩
  exact ⟨b, p, d, rfl, hok, by omega, q⟩
end K23

set_option Elab.async false
set_option linter.all false
set_option maxRecDepth 100000
set_option maxHeartbeats 2000000
namespace K23
open PySem L2 DL
theorem r_kind_of : ∀ ds S Q, c_kind_of ds S Q → rd_kind_of { nx := fun _ S' => Q .non S', rt := Q } (startD 2 ds) S := by
  rintro ds S Q ⟨s, rfl, q⟩
  cases s with
  | iff t y n =>
    cases t <;> simp [rd_kind_of, Sm.d, Tt.d]
    · exact ⟨1, by simp [whileL]; exact q⟩
    · exact ⟨1, by simp [whileL]; exact q⟩
    · exact ⟨2, by simp [whileL]; exact q⟩
    · exact ⟨2, by simp [whileL]; exact q⟩
    · exact ⟨2, by simp [whileL]; exact q⟩
  | _ =>
    simp [rd_kind_of, Sm.d]
    exact q
theorem hB_blocks {s : Sm} {j : Nat} (h : hS s < j) : ∀ b ∈ s.blocks, hB b < j := by
  cases s <;> simp [Sm.blocks, hS] at h ⊢ <;> omega
theorem ok_blocks2 {s : Sm} (h : s.ok) : ∀ b ∈ s.blocks, okA b := by
  cases s <;> simp [Sm.blocks, Sm.ok] at h ⊢ <;> simp_all
def timesI : Sm → Int | .rep k _ => (k : Int) | _ => 1
theorem iS_sum (κ : Sm → Bool) (s : Sm) : timesI s * (s.blocks.map (cB κ)).sum = iS κ s := by
  cases s <;> simp [timesI, Sm.blocks, iS]
theorem times_ok {s : Sm} (h : s.ok) : 1 ≤ timesI s ∧ timesI s ≤ 8 := by
  cases s <;> simp [timesI, Sm.ok] at h ⊢ <;> omega
theorem str_kind (s : Sm) : PyData.strOk (kindW s) = true := by
  cases s with
  | iff t y n => cases t <;> (simp only [kindW, Tt.rest]; decide +kernel)
  | _ => simp only [kindW]; decide +kernel
theorem kinds_in {s : Sm} {ys : List Str} {S : Sto} {Q : DK} (hy : ys.all PyData.strOk = true) (q : Q (.bl (kin ys s)) S) : rdIn id (.str (kindW s)) (.tup (ys.map D.str)) S Q :=
  in_strs (str_kind s) hy q
abbrev tTail (j : Nat) : DS := (sSeq (sAugI 2 (fun i j => i + j) (dOp rdMul (dVar 4) (dCB rdSum (dCons (dLc (diAny (dCall c_blocks_of (dCons (dVar 3) dNil))) 5 dYes (dCall (c_counted j) (dCons (dVar 5) (dCons (dVar 1) dNil)))) dNil))))
    (sIf (dTest (dOp (rdIn id) (dCall c_kind_of (dCons (dVar 3) dNil)) (dVar 1))) (sAugI 2 (fun i j => i + j) (dC (.int 1))) sNext))
abbrev tTimes : DS := (sAsg (dIf (dTest (dOp (rdEq id) (dOp rdIx (dVar 3) (dC (.int 0))) (dC (.str "repeat")))) (dOp rdIx (dVar 3) (dC (.int 1))) (dC (.int 1))) (gdName 4))
theorem times_is (Dd : DEnds) (x0 x1 x2 x4 x5 : Option D) (s : Sm) (S : Sto) (h : Dd.nx [x0, x1, x2, some s.d, some (.int (timesI s)), x5] S) : tTimes Dd [x0, x1, x2, some s.d, x4, x5] S := by
  cases s <;> simp [Sm.d, timesI] at h ⊢ <;> exact h
theorem cnt_loop (j : Nat) (b0 : D) (ys : List Str) (hy : ys.all PyData.strOk = true) (Q : DK) (Dd : DEnds) (hnx : Dd.nx = fun δ S => sRet (dVar 2) Dd δ S) (hrt : Dd.rt = Q) : ∀ (b : List Sm) (n : Int) (S : Sto) (x3 x4 x5 : Option D), okA b → hB b < j + 1 → Gq Q (.int (n + cB (kin ys) b)) S →
    forL (fun _ => True) (gdName 3) (sSeq tTimes (tTail j)) (dAll b) Dd [some b0, some (.tup (ys.map D.str)), some (.int n), x3, x4, x5] S
  | [], n, S, x3, x4, x5, _, _, q => by
    rw [dAll, forL, hnx]
    simp [hrt]
    have := q.now
    simp [cB] at this
    exact this
  | s :: r, n, S, x3, x4, x5, hok, hh, q => by
    simp only [okA] at hok
    simp only [hB] at hh
    rw [dAll, forL]
    refine ⟨trivial, ?_⟩
    show sSeq tTimes (tTail j) _ [some b0, some (.tup (ys.map D.str)), some (.int n), some s.d, x4, x5] S
    refine times_is _ _ _ _ _ _ s S ?_
    simp only [tTail, sSeq, sAugI, dOp, dVar, dCB, dCons, dNil, dLc, diAny, dCall, c_blocks_of]
    refine ⟨n, rfl, _, rfl, s.d, rfl, s, rfl, ?_⟩
    refine lc_map (fun b => .tup (dAll b)) (fun b => .int (cB (kin ys) b)) S S.length 5 _ _ (Nat.le_refl _) s.blocks [] _ _ (.new S _) (at_end S _) ?_ (fun b hb S2 Q2 _ q2 => ?_) (fun S' e' s' => ?_)
    · cases s <;> simp [Sm.blocks]
    · refine ⟨_, rfl, _, rfl, b, ys, rfl, ok_blocks2 hok.1 b hb, hB_blocks (by omega) b hb, hy, q2⟩
    · refine ⟨S.length, s.blocks.map (cB (kin ys)), rfl, ?_, ?_⟩
      · rw [s', List.map_map]
        rfl
      · have ht := times_ok hok.1
        refine ⟨.inl ⟨by omega, by omega⟩, _, rfl, ?_⟩
        rw [iS_sum]
        refine ⟨_, rfl, s, rfl, _, rfl, kinds_in hy ?_⟩
        have qe := q.up e'
        simp only [cB] at qe
        cases hk : kin ys s with
        | true =>
          refine ⟨true, rfl, ?_⟩
          rw [hk] at qe
          simp at qe
          refine ⟨_, rfl, _, rfl, cnt_loop j b0 ys hy Q Dd hnx hrt r _ S' _ _ _ hok.2 (by omega) ?_⟩
          rw [show n + iS (kin ys) s + 1 + cB (kin ys) r = n + (iS (kin ys) s + 1 + cB (kin ys) r) by omega]
          exact qe
        | false =>
          refine ⟨false, rfl, ?_⟩
          rw [hk] at qe
          simp at qe
          refine cnt_loop j b0 ys hy Q Dd hnx hrt r _ S' _ _ _ hok.2 (by omega) ?_
          rw [show n + iS (kin ys) s + cB (kin ys) r = n + (iS (kin ys) s + cB (kin ys) r) by omega]
          exact qe
theorem r_counted (j : Nat) : ∀ ds S Q, c_counted (j + 1) ds S Q → rd_counted c_kind_of c_blocks_of (c_counted j) { nx := fun _ S' => Q .non S', rt := Q } (startD 6 ds) S := by
  rintro ds S Q ⟨b, ys, rfl, hok, hh, hy, q⟩
  have := cnt_loop j (.tup (dAll b)) ys hy Q { nx := fun δ S => sRet (dVar 2) { nx := fun _ S' => Q .non S', rt := Q } δ S, rt := Q } rfl rfl b 0 S none none none hok hh (by rw [Int.zero_add]; exact q)
  simp only [rd_counted, sSeq, sFor, sAsg, dC, gdName, diAny, dVar, startD]
  exact ⟨_, rfl, this⟩
end K23

set_option Elab.async false
set_option linter.all false
set_option maxRecDepth 100000
set_option maxHeartbeats 2000000
namespace K23
open PySem L2 DL
mutual
theorem fS_f : ∀ (s : Sm) (p : Int) (d : Nat) (p1 : Int), fS s p d = (p1, false) → d ≤ 4 → hS s + d ≤ 4 ∧ p1 = p + pS s
  | .iff _ y n, p, d, p1, h, hd => by
    simp only [fS] at h
    cases e : fB y p d with
    | mk p2 k =>
      rw [e] at h
      cases k with
      | true => simp at h
      | false =>
        have h1 := fB_f y p d p2 e hd
        have h2 := fB_f n p2 d p1 h hd
        simp only [hS, pS]
        omega
  | .we y n, p, d, p1, h, hd => by
    simp only [fS] at h
    cases e : fB y p d with
    | mk p2 k =>
      rw [e] at h
      cases k with
      | true => simp at h
      | false =>
        have h1 := fB_f y p d p2 e hd
        have h2 := fB_f n p2 d p1 h hd
        simp only [hS, pS]
        omega
  | .they y n, p, d, p1, h, hd => by
    simp only [fS] at h
    cases e : fB y p d with
    | mk p2 k =>
      rw [e] at h
      cases k with
      | true => simp at h
      | false =>
        have h1 := fB_f y p d p2 e hd
        have h2 := fB_f n p2 d p1 h hd
        simp only [hS, pS]
        omega
  | .rep _ b, p, d, p1, h, hd => by
    simp only [fS] at h
    have h1 := fB_f b p d p1 h hd
    simp only [hS, pS]
    exact h1
  | .pay _, p, d, p1, h, hd => by
    simp only [fS, Prod.mk.injEq, and_true] at h
    simp only [hS, pS]
    omega
  | .set, p, d, p1, h, hd => by
    simp only [fS, Prod.mk.injEq, and_true] at h
    simp only [hS, pS]
    omega
  | .stop, p, d, p1, h, hd => by
    simp only [fS, Prod.mk.injEq, and_true] at h
    simp only [hS, pS]
    omega
theorem fB_f : ∀ (b : List Sm) (p : Int) (d : Nat) (p1 : Int), fB b p d = (p1, false) → d ≤ 4 → hB b + d ≤ 4 ∧ p1 = p + pB b
  | [], p, d, p1, h, hd => by
    simp only [fB, Prod.mk.injEq, and_true] at h
    simp only [hB, pB]
    omega
  | s :: r, p, d, p1, h, hd => by
    simp only [fB] at h
    by_cases h3 : 3 < d
    · simp [h3] at h
    · rw [if_neg h3] at h
      cases e : fS s (p + 1) (d + 1) with
      | mk p2 k =>
        rw [e] at h
        cases k with
        | true => simp at h
        | false =>
          have h1 := fS_f s (p + 1) (d + 1) p2 e (by omega)
          have h2 := fB_f r p2 d p1 h hd
          simp only [hB, pB]
          omega
end
theorem k_K : k_KINDS = .tup (kAll.map D.str) := rfl
theorem r_weight : ∀ ds S Q, c_weight ds S Q → rd_weight (c_counted 5) { nx := fun _ S' => Q .non S', rt := Q } (startD 1 ds) S := by
  rintro ds S Q ⟨b, rfl, hok, hh, q⟩
  simp only [rd_weight, sRet, dCall, dCons, dVar, dC, dNil, startD]
  exact ⟨_, rfl, b, kAll, rfl, hok, hh, by decide +kernel, q⟩
theorem r_bound_passed : ∀ ds S Q, c_bound_passed ds S Q → rd_bound_passed (c_counted 5) { nx := fun _ S' => Q .non S', rt := Q } (startD 2 ds) S := by
  rintro ds S Q ⟨b, rfl, hok, hh, q⟩
  simp [rd_bound_passed]
  by_cases h1 : 24 < pB b
  · simp [boundW, h1, bD] at q
    simp [h1]
    exact q.now
  simp only [boundW, if_neg h1] at q
  simp [h1]
  refine ⟨b, kAll, rfl, hok, hh, by decide +kernel, fun S1 e1 => ?_⟩
  have q1 := q.up e1
  by_cases h2 : 30 < cW b
  · simp [h2, bD] at q1
    have h2' : 30 < cB (kin kAll) b := h2
    simp [h2']
    exact q1.now
  simp only [if_neg h2] at q1
  have h2' : ¬ 30 < cB (kin kAll) b := h2
  simp [h2']
  refine ⟨b, ["we", "they"], rfl, hok, hh, by decide +kernel, fun S2 e2 => ?_⟩
  have q2 := q1.up e2
  by_cases h3 : 4 < cC b
  · simp [h3, bD] at q2
    have h3' : 4 < cB (kin ["we", "they"]) b := h3
    simp [h3']
    exact q2.now
  simp only [if_neg h3] at q2
  have h3' : ¬ 4 < cB (kin ["we", "they"]) b := h3
  simp [h3']
  refine ⟨b, ["rest"], rfl, hok, hh, by decide +kernel, fun S3 e3 => ?_⟩
  have q3 := q2.up e3
  by_cases h4 : 2 < cR b
  · simp [h4, bD] at q3
    have h4' : 2 < cB (kin ["rest"]) b := h4
    simp [h4']
    exact q3.now
  simp only [if_neg h4] at q3
  have h4' : ¬ 2 < cB (kin ["rest"]) b := h4
  simp [h4']
  refine ⟨b, ["less"], rfl, hok, hh, by decide +kernel, fun S4 e4 => ?_⟩
  have q4 := q3.up e4
  by_cases h5 : 2 < cL b
  · simp [h5, bD] at q4
    have h5' : 2 < cB (kin ["less"]) b := h5
    simp [h5']
    exact q4.now
  simp [h5, bD] at q4
  have h5' : ¬ 2 < cB (kin ["less"]) b := h5
  simp [h5']
  exact q4.now
theorem r_program_error : ∀ ds S Q, c_program_error ds S Q → rd_program_error c_bound_passed (c_fault_in 5) { nx := fun _ S' => Q .non S', rt := Q } (startD 3 ds) S := by
  rintro ds S Q ⟨b, rfl, hok, q⟩
  simp [rd_program_error]
  refine ⟨b, 0, 0, by simp, hok, by omega, fun S1 e1 => ?_⟩
  have q1 := q.up e1
  unfold resD at q1
  cases e : fB b 0 0 with
  | mk p k =>
    rw [e] at q1
    cases k with
    | true =>
      simp [fD, isNonD]
      exact q1.now
    | false =>
      have hf := fB_f b 0 0 p e (by omega)
      have hp : p = pB b := by omega
      subst hp
      simp [fD, isNonD]
      refine ⟨b, rfl, hok, by omega, fun S2 e2 => ?_⟩
      have q2 := q1.up e2
      simp only at q2
      cases hb : boundW b with
      | none =>
        rw [hb] at q2
        simp [bD, isNonD]
        exact q2.now
      | some w =>
        rw [hb] at q2
        simp [bD, isNonD]
        exact q2.now
end K23

set_option Elab.async false
set_option linter.all false
set_option maxRecDepth 100000
set_option maxHeartbeats 2000000
namespace K23
open PySem L2 DL
theorem r__law_parts : ∀ ds S Q, c_blocks_of ds S Q → rd__law_parts { nx := fun _ S' => Q .non S', rt := Q } (startD 1 ds) S := by
  rintro ds S Q ⟨s, rfl, q⟩
  cases s <;>
  · simp [rd__law_parts, Sm.d]
    refine in_strs (ys := ["we", "they"]) (by decide +kernel) (by decide +kernel) ?_
    simp
    first
      | exact q
      | (refine in_strs (ys := ["if", "repeat"]) (by decide +kernel) (by decide +kernel) ?_
         simp
         exact q)
theorem r__law_whole : ∀ ds S Q, c_is_within ds S Q → rd__law_whole { nx := fun _ S' => Q .non S', rt := Q } (startD 3 ds) S := by
  rintro ds S Q (⟨i, lo, hi, rfl, q⟩ | ⟨i, lo, hi, rfl, q⟩)
  · simp [rd__law_whole]
    by_cases h : lo ≤ i
    · simp [h] at q ⊢
      exact q
    · simp [h] at q ⊢
      exact q
  · simp [rd__law_whole, q]
def lwords : List Str := words
theorem rl_one (c : Nat) (S : Sto) (Q : DK) (h1 : (words.any fun y => y == ⟨#[c]⟩) = false) (h2 : c ∈ (Str.ofString "abcdefghijklmnopqrstuvwxyz0123456789").cps.toList) (h4 : c ∉ (Str.ofString "0123456789").cps.toList) (h3 : PyData.strOk ⟨#[c]⟩ = true) (q : Gq Q (.bl true) S) :
    rd__law_is_name { nx := fun _ S' => Q .non S', rt := Q } (startD 3 [.str ⟨#[c]⟩]) S := by
  have hl : (Str.length ⟨#[c]⟩ : Nat) = 1 := rfl
  simp [rd__law_is_name, hl]
  refine ⟨c, rfl, ?_⟩
  simp [h4]
  simp [signsD, lcL]
  refine ⟨c, rfl, ?_⟩
  simp [h2]
  refine ⟨.list [], .list [], .lst (i := S.length) (ds := []) ?_ .nil, .lst (i := S.length + 1) (ds := []) ?_ .nil, shaped_nilL, shaped_nilL, ?_⟩
  · rw [List.getElem?_append_right (Nat.le_refl _), Nat.sub_self]
    rfl
  · rw [List.getElem?_append_right (by omega), Nat.add_sub_cancel_left]
    rfl
  · have e : PyData.eqv (.list []) (.list []) = true := by simp [PyData.eqv, PyData.eqvAll]
    rw [e]
    simp
    refine ⟨.str ⟨#[c]⟩, words.map PyData.str, .str _, .lst (ds := words.map D.str) ?_ (pyA_strs words), shaped_str h3, ?_, ?_⟩
    · rw [List.getElem?_append_right (by omega), Nat.add_sub_cancel_left]
      rfl
    · simp only [SeqAt.shaped, PyData.canLay0, PyData.depth, lay_strs words (by decide +kernel), dep_strs words, Bool.true_and]
      decide
    · rw [any_strs, h1]
      exact q _ ⟨_, rfl⟩
theorem r__law_is_name : ∀ ds S Q, c_is_name ds S Q → rd__law_is_name { nx := fun _ S' => Q .non S', rt := Q } (startD 3 ds) S := by
  rintro ds S Q ⟨rfl | rfl, q⟩
  · rw [sg_a]
    exact rl_one 97 S Q (by decide +kernel) (by decide +kernel) (by decide +kernel) (by decide +kernel) q
  · rw [sg_n]
    exact rl_one 110 S Q (by decide +kernel) (by decide +kernel) (by decide +kernel) (by decide +kernel) q
def c_ln : DSp := fun ds S Q => (∃ i : Int, ds = [.int i] ∧ Q (.bl false) S) ∨ c_is_name ds S Q
theorem r_ln : ∀ ds S Q, c_ln ds S Q → rd__law_is_name { nx := fun _ S' => Q .non S', rt := Q } (startD 3 ds) S := by
  rintro ds S Q (⟨i, rfl, q⟩ | h)
  · simp [rd__law_is_name, q]
  · exact r__law_is_name ds S Q h
theorem len_ln : ∀ ds S Q, c_ln ds S Q → ds.length = 1 := by
  rintro ds S Q (⟨i, rfl, q⟩ | h)
  · rfl
  · exact len_is_name ds S Q h
theorem r__law_is_expression {c0 : DSp} : ∀ ds S Q, c_is_expression ds S Q → rd__law_is_expression c0 c_is_within c_ln { nx := fun _ S' => Q .non S', rt := Q } (startD 2 ds) S := by
  rintro ds S Q ⟨e, rfl, q⟩
  cases e with
  | one =>
    simp [rd__law_is_expression, Ee.d]
    refine .inl ⟨1, rfl, ?_⟩
    simp [wi_i, q.now]
  | a =>
    simp [rd__law_is_expression, Ee.d]
    refine .inr ⟨.inl rfl, fun S1 e1 => ?_⟩
    simp
    exact q S1 e1
  | n =>
    simp [rd__law_is_expression, Ee.d]
    refine .inr ⟨.inr rfl, fun S1 e1 => ?_⟩
    simp
    exact q S1 e1
theorem r__law_is_rest : ∀ ds S Q, c__law_is_rest ds S Q → rd__law_is_rest c_is_within c_is_expression { nx := fun _ S' => Q .non S', rt := Q } (startD 1 ds) S := by
  rintro ds S Q ⟨rfl | rfl, q⟩
  · simp [rd__law_is_rest]
    refine ex_a fun S1 e1 => ?_
    simp [wi_i]
    exact q S1 e1
  · simp [rd__law_is_rest]
    refine ex_a fun S1 e1 => ?_
    simp [wi_i]
    exact q S1 e1
theorem vd (cs : List (Str × Int)) (k : String) (v : Int) (h : (valD (cKD cs) (.inr (k : Str))) = some (.int v)) (z : D) : (valD (cKD cs) (.inr (k : Str))).getD z = .int v := by rw [h]; rfl
def tsizes : List (Str × Int) := [("less", 3), ("rest", 4), ("not", 2)]
def ssizes : List (Str × Int) := [("set", 3), ("pay", 2), ("stop", 1), ("if", 4), ("we", 3), ("they", 3), ("repeat", 3)]
theorem v_less : valD (cKD tsizes) (.inr ("less" : Str)) = some (.int 3) := by simp [valD, cKD, tsizes]
theorem v_rest : valD (cKD tsizes) (.inr ("rest" : Str)) = some (.int 4) := by simp [valD, cKD, tsizes]
theorem v_not : valD (cKD tsizes) (.inr ("not" : Str)) = some (.int 2) := by simp [valD, cKD, tsizes]
theorem u_set : valD (cKD ssizes) (.inr ("set" : Str)) = some (.int 3) := by simp [valD, cKD, ssizes]
theorem u_pay : valD (cKD ssizes) (.inr ("pay" : Str)) = some (.int 2) := by simp [valD, cKD, ssizes]
theorem u_stop : valD (cKD ssizes) (.inr ("stop" : Str)) = some (.int 1) := by simp [valD, cKD, ssizes]
theorem u_if : valD (cKD ssizes) (.inr ("if" : Str)) = some (.int 4) := by simp [valD, cKD, ssizes]
theorem u_we : valD (cKD ssizes) (.inr ("we" : Str)) = some (.int 3) := by simp [valD, cKD, ssizes]
theorem u_they : valD (cKD ssizes) (.inr ("they" : Str)) = some (.int 3) := by simp [valD, cKD, ssizes]
theorem u_repeat : valD (cKD ssizes) (.inr ("repeat" : Str)) = some (.int 3) := by simp [valD, cKD, ssizes]
/-- the head of the law's is_test: not (), the size -/
theorem test_head {ds : List D} {ps : List PyData} {w : String} {v : Int} {S : Sto} {Q : DK} {n : Int} {c0 c1 c2 : DSp} (h : PyOfA S (.str w :: ds) ps) (hs : SeqAt.shaped (.tuple ps) = true) (hv : valD (cKD tsizes) (.inr (w : Str)) = some (.int v)) (hl : (ds.length : Int) + 1 = v)
    (q : ∀ S1, Ext S S1 → (sSeq (sIf (dTest (dOp (rdEq id) (dOp rdIx (dVar 0) (dC (.int 0))) (dC (.str "not")))) (sRet (dAndV (dOp (rdI0 fun i j => .bl (decide (j < i))) (dVar 1) (dC (.int 0))) (dCall c2 (dCons (dOp rdIx (dVar 0) (dC (.int 1))) (dCons (dOp (rdI0 fun i j => .int (i - j)) (dVar 1) (dC (.int 1))) dNil))))) sNext)
    (sSeq (sIf (dTest (dOp (rdEq id) (dOp rdIx (dVar 0) (dC (.int 0))) (dC (.str "rest")))) (sRet (dCall c1 (dCons (dVar 0) dNil))) sNext)
    (sRet (dAndV (dCall c0 (dCons (dOp rdIx (dVar 0) (dC (.int 1))) (dCons (dC (.int 3)) dNil))) (dCall c0 (dCons (dOp rdIx (dVar 0) (dC (.int 2))) (dCons (dC (.int 3)) dNil))))))) { nx := fun _ S' => Q .non S', rt := Q } [some (.tup (.str w :: ds)), some (.int n)] S1) :
    rd__law_is_test c0 c1 c2 { nx := fun _ S' => Q .non S', rt := Q } [some (.tup (.str w :: ds)), some (.int n)] S := by
  unfold rd__law_is_test
  rw [sSeq, sIf]
  simp only [dOr, dNot, dTest, dIsi, dVar]
  refine ⟨_, rfl, true, by simp, true, rfl, ?_⟩
  simp only [Bool.not_true, Bool.false_eq_true, if_false]
  simp only [dOp, dVar, dTup, dNil]
  refine ⟨_, rfl, by simp, ne_nil h hs ?_⟩
  refine ⟨false, rfl, ?_⟩
  simp only [Bool.false_eq_true, if_false]
  refine ⟨_, rfl, _, atI_0 _ _, true, by simp, true, rfl, ?_⟩
  simp only [Bool.not_true, Bool.false_eq_true, if_false, sNext]
  rw [sSeq, sIf]
  simp only [dTest, dOp, dCB, dCons, dVar, dNil, rdLen, dGet2, dDict]
  refine ⟨_, rfl, S.length, rfl, ⟨_, at_end S _⟩, _, rfl, _, atI_0 _ _, _, w, at_end S _, rfl, ?_⟩
  have hv' : (valD (cKD [("less", 3), ("rest", 4), ("not", 2)]) (.inr (w : Str))) = some (.int v) := hv
  rw [hv']
  have hd : decide (((D.str (w : Str) :: ds).length : Int) = v) = true := decide_eq_true (by rw [List.length_cons]; omega)
  simp only [Option.getD_some, rdEq, scD, hd, Bool.not_true]
  refine ⟨false, rfl, ?_⟩
  simp only [Bool.false_eq_true, if_false, sNext]
  exact q _ (.new S _)
theorem sh1 {ps : List PyData} (h : PyData.canLayAll0 ps = true) (h2 : PyData.depthAll ps ≤ 63) : SeqAt.shaped (.tuple ps) = true := by
  simp only [SeqAt.shaped, PyData.canLay0, PyData.depth, h, Bool.true_and]
  exact decide_eq_true (by omega)
theorem r__law_is_test1 {c0 : DSp} : ∀ ds S Q, c_is_test1 ds S Q → rd__law_is_test c_is_expression c__law_is_rest c0 { nx := fun _ S' => Q .non S', rt := Q } (startD 2 ds) S := by
  rintro ds S Q ⟨rfl | rfl | rfl, q⟩
  · refine test_head (ps := [.str "less", .str "a", .int 1]) (.cons (.str _) (.cons (.str _) (.cons (.int _) .nil))) (sh1 (by decide +kernel) (by decide +kernel)) v_less rfl fun S1 e1 => ?_
    simp
    refine ex_a fun S2 e2 => ?_
    simp
    exact ex_1 (q.up (e1.trans e2))
  · refine test_head (ps := [.str "rest", .str "a", .int 2, .int 1]) (.cons (.str _) (.cons (.str _) (.cons (.int _) (.cons (.int _) .nil)))) (sh1 (by decide +kernel) (by decide +kernel)) v_rest rfl fun S1 e1 => ?_
    simp
    exact ⟨.inl rfl, q.up e1⟩
  · refine test_head (ps := [.str "rest", .str "a", .int 6, .int 5]) (.cons (.str _) (.cons (.str _) (.cons (.int _) (.cons (.int _) .nil)))) (sh1 (by decide +kernel) (by decide +kernel)) v_rest rfl fun S1 e1 => ?_
    simp
    exact ⟨.inr rfl, q.up e1⟩
theorem r__law_is_test0 : ∀ ds S Q, c_is_test0 ds S Q → rd__law_is_test c_is_expression c__law_is_rest c_is_test1 { nx := fun _ S' => Q .non S', rt := Q } (startD 2 ds) S := by
  rintro ds S Q ⟨t, rfl, q⟩
  have hp := py_T (S := S) t
  have hs : SeqAt.shaped t.p = true := by
    have := lay_T t
    simp only [SeqAt.shaped, this.1, Bool.true_and]
    exact decide_eq_true (by omega)
  cases t
  · cases hp with
    | tup hp =>
      refine test_head hp hs v_less rfl fun S1 e1 => ?_
      simp
      refine ex_a fun S2 e2 => ?_
      simp
      exact ex_n (q.up (e1.trans e2))
  · cases hp with
    | tup hp =>
      refine test_head hp hs v_less rfl fun S1 e1 => ?_
      simp
      refine ex_1 fun S2 e2 => ?_
      simp
      exact ex_n (q.up (e1.trans e2))
  · cases hp with
    | tup hp =>
      refine test_head hp hs v_not rfl fun S1 e1 => ?_
      simp
      exact ⟨.inl rfl, q.up e1⟩
  · cases hp with
    | tup hp =>
      refine test_head hp hs v_not rfl fun S1 e1 => ?_
      simp
      exact ⟨.inr (.inl rfl), q.up e1⟩
  · cases hp with
    | tup hp =>
      refine test_head hp hs v_not rfl fun S1 e1 => ?_
      simp
      exact ⟨.inr (.inr rfl), q.up e1⟩
end K23

set_option Elab.async false
set_option linter.all false
set_option maxRecDepth 100000
set_option maxHeartbeats 2000000
namespace K23
open PySem L2 DL
abbrev stTail : DS := (sSeq (sIf (dTest (dOp (rdEq id) (dOp rdIx (dVar 0) (dC (.int 0))) (dC (.str "set")))) (sRet (dAndV (dCall c_ln (dCons (dOp rdIx (dVar 0) (dC (.int 1))) dNil)) (dCall c_is_expression (dCons (dOp rdIx (dVar 0) (dC (.int 2))) (dCons (dC (.int 3)) dNil))))) sNext)
    (sSeq (sIf (dTest (dOp (rdEq id) (dOp rdIx (dVar 0) (dC (.int 0))) (dC (.str "pay")))) (sRet (dCall c_is_expression (dCons (dOp rdIx (dVar 0) (dC (.int 1))) (dCons (dC (.int 3)) dNil)))) sNext)
    (sSeq (sIf (dAnd (dTest (dOp (rdEq id) (dOp rdIx (dVar 0) (dC (.int 0))) (dC (.str "if")))) (dNot (dTest (dCall c_is_test0 (dCons (dOp rdIx (dVar 0) (dC (.int 1))) (dCons (dC (.int 2)) dNil)))))) (sRet (dC (.bl false))) sNext)
    (sSeq (sIf (dAnd (dTest (dOp (rdEq id) (dOp rdIx (dVar 0) (dC (.int 0))) (dC (.str "repeat")))) (dNot (dTest (dCall c_is_within (dCons (dOp rdIx (dVar 0) (dC (.int 1))) (dCons (dC (.int 1)) (dCons (dC (.int 8)) dNil))))))) (sRet (dC (.bl false))) sNext)
    (sRet (dOp (rdEq id) (dLc (diAny (dCall c_blocks_of (dCons (dVar 0) dNil))) 2 (dNot (dTest (dIsi "tuple" (dVar 2)))) (dVar 2)) (dLst dNil)))))))
theorem st_head {ds : List D} {ps : List PyData} {w : String} {v : Int} {S : Sto} {Q : DK} (h : PyOfA S (.str w :: ds) ps) (hs : SeqAt.shaped (.tuple ps) = true) (hv : valD (cKD ssizes) (.inr (w : Str)) = some (.int v)) (hl : (ds.length : Int) + 1 = v)
    (q : ∀ S1 x, Ext S S1 → stTail { nx := fun _ S' => Q .non S', rt := Q } [some (.tup (.str w :: ds)), some x, none] S1) :
    rd__law_is_statement c_blocks_of c_is_within c_is_test0 c_is_expression c_ln { nx := fun _ S' => Q .non S', rt := Q } [some (.tup (.str w :: ds)), none, none] S := by
  unfold rd__law_is_statement
  rw [sSeq, sIf]
  simp only [dOr, dNot, dTest, dIsi, dVar]
  refine ⟨_, rfl, true, by simp, true, rfl, ?_⟩
  simp only [Bool.not_true, Bool.false_eq_true, if_false]
  simp only [dOp, dVar, dTup, dNil]
  refine ⟨_, rfl, by simp, ne_nil h hs ?_⟩
  refine ⟨false, rfl, ?_⟩
  simp only [Bool.false_eq_true, if_false]
  refine ⟨_, rfl, _, atI_0 _ _, true, by simp, true, rfl, ?_⟩
  simp only [Bool.not_true, Bool.false_eq_true, if_false, sNext]
  rw [sSeq]
  simp only [sAsg, dDict, gdName]
  rw [sSeq, sIf]
  simp only [dTest, dOp, dCB, dCons, dVar, dNil, rdLen, dGet2, dDict]
  refine ⟨_, rfl, _, rfl, S.length, rfl, ⟨_, at_end S _⟩, _, rfl, _, atI_0 _ _, _, w, at_end S _, rfl, ?_⟩
  have hv' : (valD (cKD [("set", 3), ("pay", 2), ("stop", 1), ("if", 4), ("we", 3), ("they", 3), ("repeat", 3)]) (.inr (w : Str))) = some (.int v) := hv
  rw [hv']
  have hd : decide (((D.str (w : Str) :: ds).length : Int) = v) = true := decide_eq_true (by rw [List.length_cons]; omega)
  simp only [Option.getD_some, rdEq, scD, hd, Bool.not_true]
  refine ⟨false, rfl, ?_⟩
  simp only [Bool.false_eq_true, if_false, sNext]
  exact q _ _ (.new S _)
/-- the last row: no part is anything but a tuple -/
theorem no_part {S0 : Sto} (l : Nat) (δ : DEnv) (h2 : 2 < δ.length) : ∀ (bs : List (List Sm)) (S : Sto) (Q : DK), Q (.loc l) S → lcL (fun _ => True) 2 l (dNot (dTest (dIsi "tuple" (dVar 2)))) (dVar 2) (bs.map fun b => .tup (dAll b)) δ S Q
  | [], S, Q, q => ⟨trivial, q⟩
  | b :: bs, S, Q, q => by
    refine ⟨trivial, ?_⟩
    simp only [dNot, dTest, dIsi, dVar]
    refine ⟨_, by rw [List.getElem?_set_self h2], true, by simp, true, rfl, ?_⟩
    simp only [Bool.not_true, Bool.false_eq_true, if_false]
    exact no_part (S0 := S0) l δ h2 bs S Q q
theorem parts_end {s : Sm} {S : Sto} {Q : DK} {x : D} (q : Gq Q (.bl true) S) :
    (dOp (rdEq id) (dLc (diAny (dCall c_blocks_of (dCons (dVar 0) dNil))) 2 (dNot (dTest (dIsi "tuple" (dVar 2)))) (dVar 2)) (dLst dNil)) [some s.d, some x, none] S Q := by
  simp only [dOp, dLc, diAny, dCall, dCons, dVar, dNil, dLst]
  refine ⟨_, rfl, s, rfl, ?_⟩
  refine no_part (S0 := S) _ _ (by simp) s.blocks _ _ ?_
  refine ⟨by simp, .list [], .list [], .lst (i := S.length) (ds := []) ?_ .nil, .lst (ds := []) (at_end _ _) .nil, shaped_nilL, shaped_nilL, ?_⟩
  · rw [List.append_assoc, List.getElem?_append_right (Nat.le_refl _), Nat.sub_self]
    rfl
  · have e : PyData.eqv (.list []) (.list []) = true := by simp [PyData.eqv, PyData.eqvAll]
    rw [e]
    exact q _ ⟨_, by rw [List.append_assoc]⟩
theorem r__law_is_statement : ∀ ds S Q, c__law_is_statement ds S Q → rd__law_is_statement c_blocks_of c_is_within c_is_test0 c_is_expression c_ln { nx := fun _ S' => Q .non S', rt := Q } (startD 3 ds) S := by
  rintro ds S Q ⟨s, rfl, hok, hh, q⟩
  have hp := py_S (S := S) s
  have hs := shaped_S hh
  have pe : ∀ (S1 : Sto) (x : D), Ext S S1 → (dOp (rdEq id) (dLc (diAny (dCall c_blocks_of (dCons (dVar 0) dNil))) 2 (dNot (dTest (dIsi "tuple" (dVar 2)))) (dVar 2)) (dLst dNil)) [some s.d, some x, none] S1 Q := fun S1 x e1 => parts_end (q.up e1)
  cases s with
  | pay e =>
    rw [Sm.d, Sm.p] at hp
    rw [Sm.p] at hs
    rw [Sm.d]
    cases hp with
    | tup hp =>
      refine st_head hp hs u_pay rfl fun S1 x e1 => ?_
      simp
      exact ⟨e, rfl, q.up e1⟩
  | set =>
    rw [Sm.d, Sm.p] at hp
    rw [Sm.p] at hs
    rw [Sm.d]
    cases hp with
    | tup hp =>
      refine st_head hp hs u_set rfl fun S1 x e1 => ?_
      simp
      refine .inr ⟨.inl rfl, fun S2 e2 => ?_⟩
      simp
      exact ex_n (q.up (e1.trans e2))
  | stop =>
    rw [Sm.d, Sm.p] at hp
    rw [Sm.p] at hs
    rw [Sm.d] at pe ⊢
    cases hp with
    | tup hp =>
      refine st_head hp hs u_stop rfl fun S1 x e1 => ?_
      have := pe S1 x e1
      simp at this ⊢
      exact this
  | we a b =>
    rw [Sm.d, Sm.p] at hp
    rw [Sm.p] at hs
    rw [Sm.d] at pe ⊢
    cases hp with
    | tup hp =>
      refine st_head hp hs u_we rfl fun S1 x e1 => ?_
      have := pe S1 x e1
      simp at this ⊢
      exact this
  | they a b =>
    rw [Sm.d, Sm.p] at hp
    rw [Sm.p] at hs
    rw [Sm.d] at pe ⊢
    cases hp with
    | tup hp =>
      refine st_head hp hs u_they rfl fun S1 x e1 => ?_
      have := pe S1 x e1
      simp at this ⊢
      exact this
  | iff t y n =>
    rw [Sm.d, Sm.p] at hp
    rw [Sm.p] at hs
    rw [Sm.d] at pe ⊢
    cases hp with
    | tup hp =>
      refine st_head hp hs u_if rfl fun S1 x e1 => ?_
      simp
      refine ⟨t, rfl, fun S2 e2 => ?_⟩
      have := pe S2 x (e1.trans e2)
      simp at this ⊢
      exact this
  | rep k b =>
    simp only [Sm.ok] at hok
    have h1 : (1 : Int) ≤ (k : Int) := by omega
    have h2 : (k : Int) ≤ 8 := by omega
    rw [Sm.d, Sm.p] at hp
    rw [Sm.p] at hs
    rw [Sm.d] at pe ⊢
    cases hp with
    | tup hp =>
      refine st_head hp hs u_repeat rfl fun S1 x e1 => ?_
      have := pe S1 x e1
      simp [wi_i, h1, h2] at this ⊢
      exact this
end K23

set_option Elab.async false
set_option linter.all false
set_option maxRecDepth 100000
set_option maxHeartbeats 2000000
namespace K23
open PySem L2 DL
def timesJ : Sm → Int | .rep k _ => (k : Int) | _ => 1
def b2 (b : Bool) : Int := if b then 1 else 0
def tEnd : Sm → D
  | .iff t _ _ => match t with
    | .l1 => .tup [.str "less", .str "a", .str "n"]
    | .l2 => .tup [.str "less", .int 1, .str "n"]
    | .l3 => .tup [.str "less", .str "a", .int 1]
    | .r1 => .tup [.str "rest", .str "a", .int 2, .int 1]
    | .r2 => .tup [.str "rest", .str "a", .int 6, .int 5]
  | _ => .tup [.str "none"]
abbrev hdA : DS := (sSeq (sAsg (dIf (dTest (dOp (rdEq id) (dOp rdIx (dVar 2) (dC (.int 0))) (dC (.str "if")))) (dOp rdIx (dVar 2) (dC (.int 1))) (dTup (dCons (dC (.str "none")) dNil))) (gdName 3))
    (sWhile (dTest (dOp (rdEq id) (dOp rdIx (dVar 3) (dC (.int 0))) (dC (.str "not")))) (sAsg (dOp rdIx (dVar 3) (dC (.int 1))) (gdName 3))))
theorem hdA_is (Dd : DEnds) (x0 x1 x3 x4 x5 x6 x7 x8 : Option D) (s : Sm) (S : Sto) (h : Dd.nx [x0, x1, some s.d, some (tEnd s), x4, x5, x6, x7, x8] S) : hdA Dd [x0, x1, some s.d, x3, x4, x5, x6, x7, x8] S := by
  cases s with
  | iff t y n =>
    cases t <;> simp [Sm.d, Tt.d, tEnd] at h ⊢
    · exact ⟨1, by simp [whileL]; exact h⟩
    · exact ⟨1, by simp [whileL]; exact h⟩
    · exact ⟨2, by simp [whileL]; exact h⟩
    · exact ⟨2, by simp [whileL]; exact h⟩
    · exact ⟨2, by simp [whileL]; exact h⟩
  | _ =>
    simp [Sm.d, tEnd] at h ⊢
    exact ⟨1, by simp [whileL]; exact h⟩
abbrev ownE : DE := (dLst (dCons (dC (.int 1)) (dCons (dC (.int 1)) (dCons (dCB rdInt (dCons (dOp (rdIn id) (dOp rdIx (dVar 2) (dC (.int 0))) (dTup (dCons (dC (.str "we")) (dCons (dC (.str "they")) dNil)))) dNil)) (dCons (dCB rdInt (dCons (dOp (rdEq id) (dOp rdIx (dVar 3) (dC (.int 0))) (dC (.str "rest"))) dNil)) (dCons (dCB rdInt (dCons (dOp (rdEq id) (dOp rdIx (dVar 3) (dC (.int 0))) (dC (.str "less"))) dNil)) dNil))))))
/-- x[k] of a list of five -/
theorem at5 {S : Sto} {l : Nat} {a b c d e : Int} (s : S[l]? = some (.lst (vec a b c d e))) {k v : Int} {Q : DK} (h : atI (vec a b c d e) k = some (.int v)) (q : Q (.int v) S) : rdIx (.loc l) (.int k) S Q := ⟨_, _, s, h, q⟩
def v5 (a b c d e : Int) : Int → Int := fun k => if k = 0 then a else if k = 1 then b else if k = 2 then c else if k = 3 then d else e
theorem at_v5 (a b c d e : Int) {k : Int} (h : k ∈ ([0, 1, 2, 3, 4] : List Int)) : atI (vec a b c d e) k = some (.int (v5 a b c d e k)) := by
  simp at h
  rcases h with rfl | rfl | rfl | rfl | rfl <;> simp [vec, v5]
/-- [own[k] + times * inner[k] for k in range(1, 5)] -/
theorem comp14 (S : Sto) (lo li : Nat) (a b c d e a' b' c' d' e' t : Int) (x0 x1 x2 x3 x5 x8 : Option D) (Q : DK) (h1 : S[lo]? = some (.lst (vec a b c d e))) (h2 : S[li]? = some (.lst (vec a' b' c' d' e'))) (ht : 1 ≤ t ∧ t ≤ 8)
    (q : ∀ S' l, Ext S S' → S'[l]? = some (.lst [.int (b + t * b'), .int (c + t * c'), .int (d + t * d'), .int (e + t * e')]) → Q (.loc l) S') :
    (dLc (diRng2 (dCons (dC (.int 1)) (dCons (dC (.int 5)) dNil))) 8 dYes (dOp rdAdd (dOp rdIx (dVar 4) (dVar 8)) (dOp rdMul (dVar 7) (dOp rdIx (dVar 6) (dVar 8))))) [x0, x1, x2, x3, some (.loc lo), x5, some (.loc li), some (.int t), x8] S Q := by
  simp only [dLc, diRng2, dCons, dC, dNil]
  refine ⟨by decide, by decide, by decide, by decide, ?_⟩
  have er : rangeD 1 ((5 : Int) - 1).toNat = ([1, 2, 3, 4] : List Int).map D.int := by simp [rangeD, List.range, List.range.loop]
  rw [er]
  refine lc_map D.int (fun k => .int (v5 a b c d e k + t * v5 a' b' c' d' e' k)) S S.length 8 _ _ (Nat.le_refl _) [1, 2, 3, 4] [] _ _ (.new S _) (at_end S _) (by decide) (fun k hk S1 Q1 e1 q1 => ?_) (fun S' e' s' => q S' _ e' ?_)
  · have hk5 : k ∈ ([0, 1, 2, 3, 4] : List Int) := by
      simp at hk ⊢
      omega
    simp only [dOp, dVar]
    refine ⟨_, rfl, _, rfl, at5 (e1.at h1) (at_v5 _ _ _ _ _ hk5) ?_⟩
    refine ⟨_, rfl, _, rfl, _, rfl, at5 (e1.at h2) (at_v5 _ _ _ _ _ hk5) ⟨.inl ⟨by omega, by omega⟩, ?_⟩⟩
    exact q1.now
  · rw [s']
    simp [v5]
/-- [found[k] + own[k] for k in range(5)] -/
theorem comp05 (S : Sto) (lf lo : Nat) (a b c d e a' b' c' d' e' : Int) (x0 x2 x3 x5 x6 x7 x8 : Option D) (Q : DK) (h1 : S[lf]? = some (.lst (vec a b c d e))) (h2 : S[lo]? = some (.lst (vec a' b' c' d' e')))
    (q : ∀ S' l, Ext S S' → S'[l]? = some (.lst (vec (a + a') (b + b') (c + c') (d + d') (e + e'))) → Q (.loc l) S') :
    (dLc (diRng1 (dCons (dC (.int 5)) dNil)) 8 dYes (dOp rdAdd (dOp rdIx (dVar 1) (dVar 8)) (dOp rdIx (dVar 4) (dVar 8)))) [x0, some (.loc lf), x2, x3, some (.loc lo), x5, x6, x7, x8] S Q := by
  simp only [dLc, diRng1, dCons, dC, dNil]
  refine ⟨5, rfl, by decide, by decide, ?_⟩
  have er : rangeD 0 (5 : Int).toNat = ([0, 1, 2, 3, 4] : List Int).map D.int := by simp [rangeD, List.range, List.range.loop]
  rw [er]
  refine lc_map D.int (fun k => .int (v5 a b c d e k + v5 a' b' c' d' e' k)) S S.length 8 _ _ (Nat.le_refl _) [0, 1, 2, 3, 4] [] _ _ (.new S _) (at_end S _) (by decide) (fun k hk S1 Q1 e1 q1 => ?_) (fun S' e' s' => q S' _ e' ?_)
  · simp only [dOp, dVar]
    refine ⟨_, rfl, _, rfl, at5 (e1.at h1) (at_v5 _ _ _ _ _ hk) ?_⟩
    exact ⟨_, rfl, _, rfl, at5 (e1.at h2) (at_v5 _ _ _ _ _ hk) q1.now⟩
  · rw [s']
    simp [v5, vec]
end K23

set_option Elab.async false
set_option linter.all false
set_option maxRecDepth 100000
set_option maxHeartbeats 2000000
namespace K23
open PySem L2 DL
theorem own_is (x0 x1 x4 x5 x6 x7 x8 : Option D) (s : Sm) (S : Sto) (Q : DK) (h : Q (.loc S.length) (S ++ [.lst (vec 1 1 (b2 (kin ["we", "they"] s)) (b2 (kin ["rest"] s)) (b2 (kin ["less"] s)))])) : ownE [x0, x1, some s.d, some (tEnd s), x4, x5, x6, x7, x8] S Q := by
  cases s with
  | iff t y n =>
    cases t <;>
    · simp [Sm.d, tEnd]
      refine in_strs (ys := ["we", "they"]) (by decide +kernel) (by decide +kernel) ?_
      simp [vec, b2, kin, kindW, Tt.rest] at h ⊢
      exact h
  | _ =>
    simp [Sm.d, tEnd]
    refine in_strs (ys := ["we", "they"]) (by decide +kernel) (by decide +kernel) ?_
    simp [vec, b2, kin, kindW] at h ⊢
    exact h
theorem asg_seq (E : DE) (v : Nat) (REST : DS) (Dd : DEnds) (δ : DEnv) (S : Sto) (h : E δ S (fun x S1 => REST Dd (δ.set v (some x)) S1)) : sSeq (sAsg E (gdName v)) REST Dd δ S := h
theorem row_own (REST : DS) (Dd : DEnds) (x0 x1 x4 x5 x6 x7 x8 : Option D) (s : Sm) (S : Sto) (h : REST Dd [x0, x1, some s.d, some (tEnd s), some (.loc S.length), x5, x6, x7, x8] (S ++ [.lst (vec 1 1 (b2 (kin ["we", "they"] s)) (b2 (kin ["rest"] s)) (b2 (kin ["less"] s)))])) :
    sSeq (sAsg ownE (gdName 4)) REST Dd [x0, x1, some s.d, some (tEnd s), x4, x5, x6, x7, x8] S :=
  asg_seq ownE 4 REST Dd _ S (own_is x0 x1 x4 x5 x6 x7 x8 s S _ h)
end K23

set_option Elab.async false
set_option linter.all false
set_option maxRecDepth 100000
set_option maxHeartbeats 400000
namespace K23
open PySem L2 DL
/-- the vector of a row of blocks, times t -/
def sumsB (f : List Sm → Int) (bs : List (List Sm)) : Int := (bs.map f).sum
theorem sumsB_cons (f : List Sm → Int) (b : List Sm) (bs : List (List Sm)) : sumsB f (b :: bs) = f b + sumsB f bs := by simp [sumsB]
abbrev partB (j : Nat) : DS := (sSeq (sAsg (dTup (dCons (dCall (c__law_counts j) (dCons (dVar 5) dNil)) (dCons (dIf (dTest (dOp (rdEq id) (dOp rdIx (dVar 2) (dC (.int 0))) (dC (.str "repeat")))) (dOp rdIx (dVar 2) (dC (.int 1))) (dC (.int 1))) dNil))) (gd2 (gdName 6) (gdName 7)))
    (sAsg (dOp rdAdd (dLst (dCons (dOp rdAdd (dOp rdIx (dVar 4) (dC (.int 0))) (dOp rdIx (dVar 6) (dC (.int 0)))) dNil)) (dLc (diRng2 (dCons (dC (.int 1)) (dCons (dC (.int 5)) dNil))) 8 dYes (dOp rdAdd (dOp rdIx (dVar 4) (dVar 8)) (dOp rdMul (dVar 7) (dOp rdIx (dVar 6) (dVar 8)))))) (gdName 4)))
theorem timesE (x0 x1 x3 x4 x5 x6 x7 x8 : Option D) (s : Sm) (S : Sto) (Q : DK) (h : Q (.int (timesJ s)) S) :
    (dIf (dTest (dOp (rdEq id) (dOp rdIx (dVar 2) (dC (.int 0))) (dC (.str "repeat")))) (dOp rdIx (dVar 2) (dC (.int 1))) (dC (.int 1))) [x0, x1, some s.d, x3, x4, x5, x6, x7, x8] S Q := by
  cases s <;> simp [Sm.d, timesJ] at h ⊢ <;> exact h
theorem timesJ_ok {s : Sm} (h : s.ok) : 1 ≤ timesJ s ∧ timesJ s ≤ 8 := by
  cases s <;> simp [timesJ, Sm.ok] at h ⊢ <;> omega
theorem part_loop (j : Nat) (s : Sm) (hs : s.ok) (x0 x1 x3 : Option D) (Dd : DEnds) (NX : DEnv → Sto → Prop) (hnx : Dd.nx = NX) : ∀ (bs : List (List Sm)) (S : Sto) (lo : Nat) (a b c d e : Int) (x5 x6 x7 x8 : Option D), (∀ b ∈ bs, okA b ∧ hB b < j) →
    S[lo]? = some (.lst (vec a b c d e)) →
    (∀ S' l y5 y6 y7 y8, Ext S S' → S'[l]? = some (.lst (vec (a + sumsB pB bs) (b + timesJ s * sumsB cW bs) (c + timesJ s * sumsB cC bs) (d + timesJ s * sumsB cR bs) (e + timesJ s * sumsB cL bs))) → NX [x0, x1, some s.d, x3, some (.loc l), y5, y6, y7, y8] S') →
    forL (fun _ => True) (gdName 5) (partB j) (bs.map fun b => .tup (dAll b)) Dd [x0, x1, some s.d, x3, some (.loc lo), x5, x6, x7, x8] S
  | [], S, lo, a, b, c, d, e, x5, x6, x7, x8, _, h, q => by
    refine ⟨trivial, ?_⟩
    rw [hnx]
    refine q S lo _ _ _ _ (.refl S) ?_
    simp [sumsB]
    exact h
  | p :: bs, S, lo, a, b, c, d, e, x5, x6, x7, x8, hok, h, q => by
    have hp := hok p List.mem_cons_self
    have ht := timesJ_ok hs
    refine ⟨trivial, ?_⟩
    show sSeq _ _ _ [x0, x1, some s.d, x3, some (.loc lo), some (.tup (dAll p)), x6, x7, x8] S
    rw [sSeq]
    simp only [sAsg, dTup, dCons, dCall, dVar, dNil]
    refine ⟨_, rfl, p, rfl, hp.1, hp.2, fun S1 l1 e1 s1 => ?_⟩
    refine timesE _ _ _ _ _ _ _ _ s S1 _ ?_
    refine ⟨by simp, ?_⟩
    show (dOp rdAdd (dLst (dCons (dOp rdAdd (dOp rdIx (dVar 4) (dC (.int 0))) (dOp rdIx (dVar 6) (dC (.int 0)))) dNil)) (dLc (diRng2 (dCons (dC (.int 1)) (dCons (dC (.int 5)) dNil))) 8 dYes (dOp rdAdd (dOp rdIx (dVar 4) (dVar 8)) (dOp rdMul (dVar 7) (dOp rdIx (dVar 6) (dVar 8))))))
      [x0, x1, some s.d, x3, some (.loc lo), some (.tup (dAll p)), some (.loc l1), some (.int (timesJ s)), x8] S1 _
    have h1 := e1.at h
    simp only [dOp, dLst, dCons, dNil, dVar, dC]
    refine ⟨_, rfl, at5 (k := 0) h1 (at_v5 _ _ _ _ _ (by simp)) ⟨_, rfl, at5 (k := 0) s1 (at_v5 _ _ _ _ _ (by simp)) ?_⟩⟩
    simp only [rdAdd]
    refine ⟨by simp, ?_⟩
    refine comp14 _ lo l1 a b c d e (pB p) (cW p) (cC p) (cR p) (cL p) (timesJ s) _ _ _ _ _ _ _ ((Ext.new S1 _).at h1) ((Ext.new S1 _).at s1) ht fun S2 l2 e2 s2 => ?_
    refine ⟨_, _, e2.at (at_end S1 _), s2, by simp, ?_⟩
    refine part_loop j s hs x0 x1 x3 Dd NX hnx bs _ _ (a + pB p) (b + timesJ s * cW p) (c + timesJ s * cC p) (d + timesJ s * cR p) (e + timesJ s * cL p) _ _ _ _ (fun b hb => hok b (List.mem_cons_of_mem _ hb)) (at_end S2 _) fun S3 l3 y5 y6 y7 y8 e3 s3 => ?_
    refine q S3 l3 y5 y6 y7 y8 (((e1.trans (.new S1 _)).trans e2).trans ((Ext.new S2 _).trans e3)) ?_
    rw [s3]
    simp only [sumsB_cons, Int.mul_add, Int.add_assoc]
abbrev cntB (j : Nat) : DS := (sSeq (sAsg (dIf (dTest (dOp (rdEq id) (dOp rdIx (dVar 2) (dC (.int 0))) (dC (.str "if")))) (dOp rdIx (dVar 2) (dC (.int 1))) (dTup (dCons (dC (.str "none")) dNil))) (gdName 3))
    (sSeq (sWhile (dTest (dOp (rdEq id) (dOp rdIx (dVar 3) (dC (.int 0))) (dC (.str "not")))) (sAsg (dOp rdIx (dVar 3) (dC (.int 1))) (gdName 3)))
    (sSeq (sAsg ownE (gdName 4))
    (sSeq (sFor (diAny (dCall c_blocks_of (dCons (dVar 2) dNil))) (gdName 5) (partB j))
    (sAsg (dLc (diRng1 (dCons (dC (.int 5)) dNil)) 8 dYes (dOp rdAdd (dOp rdIx (dVar 1) (dVar 8)) (dOp rdIx (dVar 4) (dVar 8)))) (gdName 1))))))
theorem sums_iS (κ : Sm → Bool) (s : Sm) : timesJ s * sumsB (cB κ) s.blocks = iS κ s := by
  cases s <;> simp [timesJ, sumsB, Sm.blocks, iS]
theorem sums_pS (s : Sm) : sumsB pB s.blocks = pS s := by
  cases s <;> simp [sumsB, Sm.blocks, pS]
theorem kin_all (s : Sm) : kin kAll s = true := by
  cases s with
  | iff t y n => cases t <;> simp [kin, kAll, kindW, Tt.rest]
  | _ => simp [kin, kAll, kindW]
theorem hB_blocksJ {s : Sm} {j : Nat} (h : hS s < j) : ∀ b ∈ s.blocks, hB b < j := by
  cases s <;> simp [Sm.blocks, hS] at h ⊢ <;> omega
theorem ok_blocksJ {s : Sm} (h : s.ok) : ∀ b ∈ s.blocks, okA b := by
  cases s <;> simp [Sm.blocks, Sm.ok] at h ⊢ <;> simp_all
theorem row_head (REST : DS) (Dd : DEnds) (x0 x1 x3 x4 x5 x6 x7 x8 : Option D) (s : Sm) (S : Sto) (h : REST Dd [x0, x1, some s.d, some (tEnd s), x4, x5, x6, x7, x8] S) :
    sSeq (sAsg (dIf (dTest (dOp (rdEq id) (dOp rdIx (dVar 2) (dC (.int 0))) (dC (.str "if")))) (dOp rdIx (dVar 2) (dC (.int 1))) (dTup (dCons (dC (.str "none")) dNil))) (gdName 3))
    (sSeq (sWhile (dTest (dOp (rdEq id) (dOp rdIx (dVar 3) (dC (.int 0))) (dC (.str "not")))) (sAsg (dOp rdIx (dVar 3) (dC (.int 1))) (gdName 3))) REST) Dd [x0, x1, some s.d, x3, x4, x5, x6, x7, x8] S :=
  hdA_is { Dd with nx := REST Dd } x0 x1 x3 x4 x5 x6 x7 x8 s S h
theorem row_parts (j : Nat) (REST : DS) (Dd : DEnds) (x0 x1 x3 : Option D) (lo : Nat) (x5 x6 x7 x8 : Option D) (s : Sm) (hs : s.ok) (hh : hS s < j) (S : Sto) (a b c d e : Int) (h : S[lo]? = some (.lst (vec a b c d e)))
    (q : ∀ S' l y5 y6 y7 y8, Ext S S' → S'[l]? = some (.lst (vec (a + pS s) (b + iS (kin kAll) s) (c + iS (kin ["we", "they"]) s) (d + iS (kin ["rest"]) s) (e + iS (kin ["less"]) s))) → REST Dd [x0, x1, some s.d, x3, some (.loc l), y5, y6, y7, y8] S') :
    sSeq (sFor (diAny (dCall c_blocks_of (dCons (dVar 2) dNil))) (gdName 5) (partB j)) REST Dd [x0, x1, some s.d, x3, some (.loc lo), x5, x6, x7, x8] S := by
  have q1 := sums_pS s
  have q2 : timesJ s * sumsB cW s.blocks = iS (kin kAll) s := sums_iS (kin kAll) s
  have q3 : timesJ s * sumsB cC s.blocks = iS (kin ["we", "they"]) s := sums_iS (kin ["we", "they"]) s
  have q4 : timesJ s * sumsB cR s.blocks = iS (kin ["rest"]) s := sums_iS (kin ["rest"]) s
  have q5 : timesJ s * sumsB cL s.blocks = iS (kin ["less"]) s := sums_iS (kin ["less"]) s
  rw [← q1, ← q2, ← q3, ← q4, ← q5] at q
  have go := part_loop j s hs x0 x1 x3 { Dd with nx := REST Dd } (REST Dd) rfl s.blocks S lo a b c d e x5 x6 x7 x8 (fun b hb => ⟨ok_blocksJ hs b hb, hB_blocksJ hh b hb⟩) h q
  exact ⟨_, rfl, s, rfl, go⟩
theorem row_sum (Dd : DEnds) (x0 x2 x3 x5 x6 x7 x8 : Option D) (lf lo : Nat) (S : Sto) (a b c d e a' b' c' d' e' : Int) (h1 : S[lf]? = some (.lst (vec a b c d e))) (h2 : S[lo]? = some (.lst (vec a' b' c' d' e')))
    (q : ∀ S' l, Ext S S' → S'[l]? = some (.lst (vec (a + a') (b + b') (c + c') (d + d') (e + e'))) → Dd.nx [x0, some (.loc l), x2, x3, some (.loc lo), x5, x6, x7, x8] S') :
    (sAsg (dLc (diRng1 (dCons (dC (.int 5)) dNil)) 8 dYes (dOp rdAdd (dOp rdIx (dVar 1) (dVar 8)) (dOp rdIx (dVar 4) (dVar 8)))) (gdName 1)) Dd [x0, some (.loc lf), x2, x3, some (.loc lo), x5, x6, x7, x8] S :=
  comp05 S lf lo a b c d e a' b' c' d' e' x0 x2 x3 x5 x6 x7 x8 _ h1 h2 q
theorem row_all (j : Nat) (Dd : DEnds) (x0 x3 x4 x5 x6 x7 x8 : Option D) (lf : Nat) (s : Sm) (hs : s.ok) (hh : hS s < j) (S : Sto) (a b c d e : Int) (h : S[lf]? = some (.lst (vec a b c d e)))
    (q : ∀ S' l y3 y4 y5 y6 y7 y8, Ext S S' → S'[l]? = some (.lst (vec (a + (1 + pS s)) (b + (1 + iS (kin kAll) s)) (c + (b2 (kin ["we", "they"] s) + iS (kin ["we", "they"]) s)) (d + (b2 (kin ["rest"] s) + iS (kin ["rest"]) s)) (e + (b2 (kin ["less"] s) + iS (kin ["less"]) s)))) →
      Dd.nx [x0, some (.loc l), some s.d, y3, y4, y5, y6, y7, y8] S') : cntB j Dd [x0, some (.loc lf), some s.d, x3, x4, x5, x6, x7, x8] S := by
  refine row_head _ Dd _ _ _ _ _ _ _ _ s S ?_
  refine row_own _ Dd _ _ _ _ _ _ _ s S ?_
  refine row_parts j _ Dd _ _ _ _ _ _ _ _ s hs hh _ _ _ _ _ _ (at_end S _) ?_
  intro S1 l1 y5 y6 y7 y8 e1 s1
  have e1' := (Ext.new S _).trans e1
  refine row_sum Dd _ _ _ _ _ _ _ lf l1 S1 a b c d e _ _ _ _ _ (e1'.at h) s1 ?_
  intro S2 l2 e2 s2
  exact q S2 l2 _ _ _ _ _ _ (e1'.trans e2) s2
theorem counts_loop (j : Nat) (b0 : D) (Q : DK) (Dd : DEnds) (hnx : Dd.nx = fun δ S => sRet (dVar 1) Dd δ S) (hrt : Dd.rt = Q) : ∀ (bl : List Sm) (S : Sto) (lf : Nat) (a b c d e : Int) (x2 x3 x4 x5 x6 x7 x8 : Option D), okA bl → hB bl < j + 1 →
    S[lf]? = some (.lst (vec a b c d e)) →
    (∀ S' l, Ext S S' → S'[l]? = some (.lst (vec (a + pB bl) (b + cW bl) (c + cC bl) (d + cR bl) (e + cL bl))) → Q (.loc l) S') →
    forL (fun _ => True) (gdName 2) (cntB j) (dAll bl) Dd [some b0, some (.loc lf), x2, x3, x4, x5, x6, x7, x8] S
  | [], S, lf, a, b, c, d, e, x2, x3, x4, x5, x6, x7, x8, _, _, h, q => by
    rw [dAll, forL, hnx]
    refine ⟨trivial, ?_⟩
    simp only [sRet, dVar]
    refine ⟨_, rfl, ?_⟩
    rw [hrt]
    refine q S lf (.refl S) ?_
    simp [pB, cW, cC, cR, cL, cB]
    exact h
  | s :: r, S, lf, a, b, c, d, e, x2, x3, x4, x5, x6, x7, x8, hok, hh, h, q => by
    simp only [okA] at hok
    simp only [hB] at hh
    rw [dAll, forL]
    refine ⟨trivial, ?_⟩
    refine row_all j _ (some b0) x3 x4 x5 x6 x7 x8 lf s hok.1 (by omega) S a b c d e h ?_
    intro S1 l1 y3 y4 y5 y6 y7 y8 e1 s1
    refine counts_loop j b0 Q Dd hnx hrt r S1 l1 _ _ _ _ _ _ _ _ _ _ _ _ hok.2 (by omega) s1 ?_
    intro S3 l3 e3 s3
    refine q S3 l3 (e1.trans e3) ?_
    rw [s3]
    have hk := kin_all s
    have c1 : cW (s :: r) = iS (kin kAll) s + 1 + cW r := by simp only [cW, cB, hk, if_true]
    have c2 : cC (s :: r) = iS (kin ["we", "they"]) s + b2 (kin ["we", "they"] s) + cC r := by simp only [cC, cB, b2]
    have c3 : cR (s :: r) = iS (kin ["rest"]) s + b2 (kin ["rest"] s) + cR r := by simp only [cR, cB, b2]
    have c4 : cL (s :: r) = iS (kin ["less"]) s + b2 (kin ["less"] s) + cL r := by simp only [cL, cB, b2]
    have c5 : pB (s :: r) = 1 + pS s + pB r := by simp only [pB]
    rw [c1, c2, c3, c4, c5]
    have f : ∀ a b c d e a' b' c' d' e' : Int, a = a' → b = b' → c = c' → d = d' → e = e' → some (Ob.lst (vec a b c d e)) = some (Ob.lst (vec a' b' c' d' e')) := by
      rintro _ _ _ _ _ _ _ _ _ _ rfl rfl rfl rfl rfl
      rfl
    refine f _ _ _ _ _ _ _ _ _ _ ?_ ?_ ?_ ?_ ?_ <;> omega
theorem r__law_counts (j : Nat) : ∀ ds S Q, c__law_counts (j + 1) ds S Q → rd__law_counts c_blocks_of (c__law_counts j) { nx := fun _ S' => Q .non S', rt := Q } (startD 9 ds) S := by
  rintro ds S Q ⟨b, rfl, hok, hh, q⟩
  have := counts_loop j (.tup (dAll b)) Q { nx := fun δ S => sRet (dVar 1) { nx := fun _ S' => Q .non S', rt := Q } δ S, rt := Q } rfl rfl b (S ++ [.lst (vec 0 0 0 0 0)]) S.length 0 0 0 0 0 none none none none none none none hok hh (at_end S _)
    (fun S' l e s => q S' l ((Ext.new S _).trans e) (by simpa using s))
  unfold rd__law_counts
  rw [sSeq]
  simp only [sAsg, dLst, dCons, dC, dNil, gdName]
  refine ⟨by simp, ?_⟩
  rw [sSeq]
  simp only [sFor, diAny, dVar, startD]
  exact ⟨_, rfl, this⟩
end K23

set_option Elab.async false
set_option linter.all false
set_option maxRecDepth 100000
set_option maxHeartbeats 400000
namespace K23
open PySem L2 DL
/-! ### the deck -/
/-- the deck at i, its cells at j, n numbers drawn -/
structure Dk (S : Sto) (i j : Nat) (n : Int) : Prop where
  ne : i ≠ j
  deck : S[i]? = some (.lst [.loc j, .int n])
  cells : ∃ cs : List Int, S[j]? = some (.lst (cs.map D.int)) ∧ (∀ c ∈ cs, 0 ≤ c) ∧ cs.length ≤ 63
  pos : 0 ≤ n
/-- all but the deck stays -/
structure Ch (i j : Nat) (S S' : Sto) : Prop where
  len : S.length ≤ S'.length
  at_ : ∀ (l : Nat) (o : Ob), l ≠ i → l ≠ j → S[l]? = some o → S'[l]? = some o
theorem Ch.refl (i j : Nat) (S : Sto) : Ch i j S S := ⟨Nat.le_refl _, fun _ _ _ _ h => h⟩
theorem Ch.trans {i j : Nat} {S S1 S2 : Sto} (a : Ch i j S S1) (b : Ch i j S1 S2) : Ch i j S S2 := ⟨Nat.le_trans a.len b.len, fun l o h1 h2 h => b.at_ l o h1 h2 (a.at_ l o h1 h2 h)⟩
theorem Ch.ext {i j : Nat} {S S1 : Sto} (e : Ext S S1) : Ch i j S S1 := ⟨e.len, fun l o _ _ h => e.at h⟩
theorem Ch.set {i j : Nat} {S : Sto} {l : Nat} {o : Ob} (h : l = i ∨ l = j) : Ch i j S (S.set l o) := ⟨by rw [List.length_set]; exact Nat.le_refl _, fun m o' h1 h2 h' => by
  rw [List.getElem?_set_ne (fun z => by subst z; rcases h with h | h; exact h1 h; exact h2 h)]
  exact h'⟩
theorem Dk.ext {S S1 : Sto} {i j : Nat} {n : Int} (d : Dk S i j n) (e : Ext S S1) : Dk S1 i j n := ⟨d.ne, e.at d.deck, let ⟨cs, h, r⟩ := d.cells; ⟨cs, e.at h, r⟩, d.pos⟩
def c__law_draw : DSp := fun ds S Q => ∃ (i j : Nat) (n many : Int), ds = [.loc i, .int many] ∧ Dk S i j n ∧ n < 1000000 ∧ 0 < many ∧ many ≤ 1000000000 ∧
  ∀ k S', 0 ≤ k → k < many → Dk S' i j (n + 1) → Ch i j S S' → S'.length = S.length → Q (.int k) S'
theorem len__law_draw : ∀ ds S Q, c__law_draw ds S Q → ds.length = 2 := by
  rintro ds S Q ⟨i, j, n, many, rfl, _⟩
  rfl
theorem Dk.upd {S : Sto} {i j : Nat} {n : Int} (d : Dk S i j n) : Dk (S.set i (.lst [.loc j, .int (n + 1)])) i j (n + 1) := by
  have hl : i < S.length := (List.getElem?_eq_some_iff.mp d.deck).1
  obtain ⟨cs, h, r⟩ := d.cells
  exact ⟨d.ne, by rw [List.getElem?_set_self hl], ⟨cs, by rw [List.getElem?_set_ne d.ne]; exact h, r⟩, by have := d.pos; omega⟩
theorem atI_mod {α : Type} {l : List α} {k : Int} (h : 0 < l.length) (h0 : 0 ≤ k) (h1 : k < l.length) : ∃ v, atI l k = some v ∧ v ∈ l := by
  obtain ⟨m, rfl⟩ := Int.eq_ofNat_of_zero_le h0
  have hm : m < l.length := by omega
  exact ⟨l[m], atI_nat (List.getElem?_eq_getElem hm), List.getElem_mem hm⟩
theorem p18 : ((10 : Int) ^ (18 : Int).toNat) = 1000000000000000000 := by decide
theorem ixL {S : Sto} {l : Nat} {ds : List D} {k : Int} {d : D} {Q : DK} (s : S[l]? = some (.lst ds)) (h : atI ds k = some d) (q : Q d S) : rdIx (.loc l) (.int k) S Q := ⟨_, _, s, h, q⟩
abbrev mixT : DS := (sSeq (sAsg (dOp rdAdd (dOp rdAdd (dOp (rdI (fun _ j => 0 < j) fun i j => .int (i % j)) (dCB rdInt (dCons (dVar 2) dNil)) (dC (.int 2147483563))) (dOp rdMul (dC (.int 8117)) (dOp rdIx (dVar 0) (dC (.int 1))))) (dC (.int 3))) (gdName 4))
    (sRet (dOp (rdI (fun _ j => 0 < j) fun i j => .int (i % j)) (dCB rdInt (dCons (dOp (rdI (fun _ j => 0 < j) fun i j => .int (i % j)) (dCB rdInt (dCons (dOp (rdI CPow fun i j => .int (i ^ j.toNat)) (dVar 4) (dC (.int 5))) dNil)) (dC (.int 2147483629))) dNil)) (dVar 1))))
theorem mixed_tail {S : Sto} {Q : DK} {i j : Nat} {n many cell : Int} (x3 : Option D) (Dd : DEnds) (hrt : Dd.rt = Q) (hd : Dk S i j n) (hn : n ≤ 1000000) (hm : 0 < many) (q : ∀ k, 0 ≤ k → k < many → Q (.int k) S) :
    mixT Dd [some (.loc i), some (.int many), some (.int cell), x3, none] S := by
  have hp := hd.pos
  have c0 := Int.emod_nonneg cell (show (2147483563 : Int) ≠ 0 by decide)
  have c1 := Int.emod_lt_of_pos cell (show (0 : Int) < 2147483563 by decide)
  simp only [mixT, sSeq, sAsg, dOp, dCB, dCons, dNil, dVar, dC]
  refine ⟨_, rfl, cell, 2147483563, rfl, rfl, (by show (0 : Int) < _; decide), _, rfl, ixL hd.deck (atI_1 _ _ _) ⟨.inl ⟨by decide, by decide⟩, ?_⟩⟩
  simp only [rdAdd, gdName, sRet, dOp, dCB, dCons, dNil, dVar, dC]
  refine ⟨_, rfl, _, 5, rfl, rfl, ⟨by decide, by decide, by omega⟩, _, 2147483629, rfl, rfl, (by show (0 : Int) < _; decide), ?_⟩
  simp only [rdInt]
  refine ⟨_, rfl, _, many, rfl, rfl, hm, ?_⟩
  rw [hrt]
  exact q _ (Int.emod_nonneg _ (by omega)) (Int.emod_lt_of_pos _ hm)
theorem Dk.cell {S : Sto} {i j : Nat} {n : Int} (d : Dk S i j n) {cs : List Int} (h : S[j]? = some (.lst (cs.map D.int))) (ds : List Int) (hp : ∀ c ∈ ds, 0 ≤ c) (hl : ds.length ≤ 63) : Dk (S.set j (.lst (ds.map D.int))) i j n := by
  have hjl : j < S.length := (List.getElem?_eq_some_iff.mp h).1
  exact ⟨d.ne, by rw [List.getElem?_set_ne (fun z => d.ne z.symm)]; exact d.deck, ⟨ds, by rw [List.getElem?_set_self hjl], hp, hl⟩, d.pos⟩
abbrev bigT : DS := (sSeq (sIf (dTest (dOp (rdI0 fun i j => .bl (decide (j ≤ i))) (dVar 2) (dOp (rdI CPow fun i j => .int (i ^ j.toNat)) (dC (.int 10)) (dC (.int 18))))) (sSeq (sAsg (dOp (rdI CDiv fun i j => .int (i / j)) (dCB rdInt (dCons (dVar 2) dNil)) (dVar 1)) (gdSub (dOp rdIx (dVar 0) (dC (.int 0))) (dVar 3)))
    (sRet (dOp (rdI (fun _ j => 0 < j) fun i j => .int (i % j)) (dCB rdInt (dCons (dVar 2) dNil)) (dVar 1)))) sNext) mixT)
theorem big_tail {S : Sto} {Q : DK} {i j : Nat} {n many cell at_ : Int} {cs : List Int} (Dd : DEnds) (hrt : Dd.rt = Q) (hd : Dk S i j n) (hn : n ≤ 1000000) (hm : 0 < many) (hm2 : many ≤ 1000000000) (hc : S[j]? = some (.lst (cs.map D.int))) (hcp : ∀ c ∈ cs, 0 ≤ c) (hcl : cs.length ≤ 63)
    (ha : 1000000000000000000 ≤ cell → 0 ≤ at_ ∧ at_ < cs.length) (q : ∀ k S', 0 ≤ k → k < many → Dk S' i j n → Ch i j S S' → S'.length = S.length → Q (.int k) S') :
    bigT Dd [some (.loc i), some (.int many), some (.int cell), some (.int at_), none] S := by
  rw [bigT, sSeq]
  simp only [sIf, dTest, dOp, dVar, dC]
  refine ⟨_, rfl, 10, 18, rfl, rfl, ⟨by decide, by decide, by decide⟩, cell, _, rfl, rfl, _, rfl, ?_⟩
  rw [p18]
  by_cases hb : 1000000000000000000 ≤ cell
  · rw [decide_eq_true hb, if_pos rfl]
    obtain ⟨h0, h1⟩ := ha hb
    rw [sSeq]
    simp only [sAsg, dOp, dCB, dCons, dNil, dVar, dC, gdSub]
    refine ⟨_, rfl, ?_⟩
    simp only [rdInt]
    refine ⟨_, rfl, cell, many, rfl, rfl, ⟨hm, by omega⟩, _, rfl, ixL hd.deck (atI_0 _ _) ⟨_, rfl, ?_⟩⟩
    obtain ⟨m, rfl⟩ := Int.eq_ofNat_of_zero_le h0
    have hm' : m < cs.length := by omega
    refine ⟨j, (m : Int), cs.map D.int, m, rfl, rfl, hc, ?_, ?_⟩
    · unfold ixN
      rw [List.length_map, if_pos (by omega), if_pos (by omega)]
      simp
    · simp only [sRet, dOp, dCB, dCons, dNil, dVar]
      refine ⟨_, rfl, ?_⟩
      simp only [rdInt]
      refine ⟨_, rfl, cell, many, rfl, rfl, hm, ?_⟩
      rw [hrt, show (cs.map D.int).set m (.int (cell / many)) = (cs.set m (cell / many)).map D.int by rw [List.map_set]]
      refine q _ _ (Int.emod_nonneg _ (by omega)) (Int.emod_lt_of_pos _ hm) (hd.cell hc _ (fun c hc' => ?_) (by rw [List.length_set]; exact hcl)) (.set (.inr rfl)) (List.length_set ..)
      rcases List.mem_or_eq_of_mem_set hc' with h | h
      · exact hcp c h
      · rw [h]
        exact Int.ediv_nonneg (by omega) (by omega)
  · rw [decide_eq_false hb, if_neg (by decide), sNext]
    exact mixed_tail _ Dd hrt hd hn hm fun k k0 k1 => q k S k0 k1 hd (.refl _ _ _) rfl
theorem r__law_draw : ∀ ds S Q, c__law_draw ds S Q → rd__law_draw { nx := fun _ S' => Q .non S', rt := Q } (startD 5 ds) S := by
  rintro ds S Q ⟨i, j, n, many, rfl, hd, hn, hm, hm2, q⟩
  have hil : i < S.length := (List.getElem?_eq_some_iff.mp hd.deck).1
  have hp := hd.pos
  obtain ⟨cs, hc, hcp, hcl⟩ := hd.cells
  have hc1 : (S.set i (.lst [.loc j, .int (n + 1)]))[j]? = some (.lst (cs.map D.int)) := by rw [List.getElem?_set_ne hd.ne]; exact hc
  have d1 := hd.upd
  show rd__law_draw _ [some (.loc i), some (.int many), none, none, none] S
  unfold rd__law_draw
  rw [sSeq]
  simp only [sAsg, dOp, dVar, dC, gdSub]
  refine ⟨_, rfl, ixL hd.deck (atI_1 _ _ _) ?_⟩
  simp only [rdAdd]
  refine ⟨_, rfl, i, 1, _, 1, rfl, rfl, hd.deck, rfl, ?_⟩
  rw [sSeq]
  simp only [sAsg, dTup, dCons, dNil, dC, dNeg]
  refine ⟨1, rfl, by simp, ?_⟩
  simp only [gd2, gdName, List.set]
  rw [sSeq]
  simp only [sIf, dTest, dOp, dVar, dC, dCB, dCons, dNil]
  refine ⟨_, rfl, ixL d1.deck (atI_0 _ _) ⟨_, hc1, _, _, rfl, rfl, _, rfl, ?_⟩⟩
  have q' : ∀ k S', 0 ≤ k → k < many → Dk S' i j (n + 1) → Ch i j (S.set i (.lst [.loc j, .int (n + 1)])) S' → S'.length = (S.set i (.lst [.loc j, .int (n + 1)])).length → Q (.int k) S' :=
    fun k S' h0 h1 h2 h3 h4 => q k S' h0 h1 h2 (Ch.trans (.set (.inl rfl)) h3) (by rw [h4, List.length_set])
  by_cases hz : (0 : Int) < ((cs.map D.int).length : Int)
  · rw [decide_eq_true hz, if_pos rfl, sSeq]
    have hz' : (0 : Int) < (cs.length : Int) := by rw [List.length_map] at hz; exact hz
    simp only [sAsg, dOp, dVar, dC, dCB, dCons, dNil, gdName]
    refine ⟨_, rfl, ixL d1.deck (atI_1 _ _ _) ?_⟩
    simp only [rdInt]
    refine ⟨_, rfl, ixL d1.deck (atI_0 _ _) ⟨_, hc1, n + 1, _, rfl, rfl, hz, ?_⟩⟩
    rw [List.length_map]
    have m0 := Int.emod_nonneg (n + 1) (show (cs.length : Int) ≠ 0 by omega)
    have m1 := Int.emod_lt_of_pos (n + 1) hz'
    obtain ⟨v, hv, hvm⟩ := atI_mod (l := cs) (by omega) m0 m1
    refine ⟨_, rfl, ixL d1.deck (atI_0 _ _) ⟨_, rfl, ixL (d := .int v) hc1 ?_ ?_⟩⟩
    · unfold atI at hv ⊢
      rw [List.length_map]
      cases e : ixN cs.length ((n + 1) % (cs.length : Int)) with
      | none => rw [e] at hv; cases hv
      | some m =>
        rw [e] at hv
        have hv' : cs[m]? = some v := hv
        show (cs.map D.int)[m]? = some (.int v)
        rw [List.getElem?_map, hv']
        rfl
    · exact big_tail (cs := cs) _ rfl d1 (by omega) hm hm2 hc1 hcp hcl (fun _ => ⟨m0, m1⟩) q'
  · rw [decide_eq_false hz, if_neg (by decide), sNext]
    exact big_tail (cs := cs) _ rfl d1 (by omega) hm hm2 hc1 hcp hcl (fun h => absurd h (by decide)) q'
end K23

set_option Elab.async false
set_option linter.all false
set_option maxRecDepth 100000
set_option maxHeartbeats 1000000
namespace K23
open PySem L2 DL
/-! ### the deck made -/
theorem lc_mapS {α : Type} (st : Sto → Prop) (g h : α → D) (S0 : Sto) (l i : Nat) (te : DE) (δ : DEnv) (hl : S0.length ≤ l) (hst : ∀ S, Ext S0 S → st S) : ∀ (as : List α) (acc : List D) (S : Sto) (Q : DK), Ext S0 S → S[l]? = some (.lst acc) → acc.length + as.length < 100000 →
    (∀ x ∈ as, ∀ (S : Sto) (Q : DK), Ext S0 S → Gq Q (h x) S → te (δ.set i (some (g x))) S Q) → (∀ S', Ext S0 S' → S'[l]? = some (.lst (acc ++ as.map h)) → Q (.loc l) S') → lcL st i l dYes te (as.map g) δ S Q
  | [], acc, S, Q, e, s, _, _, q => by
    refine ⟨hst S e, q S e ?_⟩
    rw [List.map_nil, List.append_nil]
    exact s
  | x :: r, acc, S, Q, e, s, hz, hx, q => by
    rw [List.length_cons] at hz
    refine ⟨hst S e, ?_⟩
    dsimp only [dYes]
    rw [if_pos rfl]
    refine hx x List.mem_cons_self S _ e fun S1 e1 => ⟨acc, e1.at s, by omega, ?_⟩
    have hlt : l < S1.length := (List.getElem?_eq_some_iff.mp (e1.at s)).1
    refine lc_mapS st g h S0 l i te δ hl hst r (acc ++ [h x]) _ Q (ext_set (e.trans e1) hl) (by rw [List.getElem?_set_self hlt]) (by rw [List.length_append, List.length_singleton]; omega) (fun y hy => hx y (List.mem_cons_of_mem _ hy)) fun S' e' s' => q S' e' ?_
    rw [s', List.append_assoc]
    rfl
def c__law_deck : DSp := fun ds S Q => ∃ ns : List Int, ds = [.scr ns] ∧ ns.length ≤ 63 ∧ ∀ S' i j, Ext S S' → Dk S' i j 0 → Q (.loc i) S'
theorem len__law_deck : ∀ ds S Q, c__law_deck ds S Q → ds.length = 1 := by
  rintro ds S Q ⟨ns, rfl, _⟩
  rfl
def absI (i : Int) : Int := if i < 0 then -i else i
theorem r__law_deck : ∀ ds S Q, c__law_deck ds S Q → rd__law_deck { nx := fun _ S' => Q .non S', rt := Q } (startD 2 ds) S := by
  rintro ds S Q ⟨ns, rfl, hn, q⟩
  show rd__law_deck _ [some (.scr ns), none] S
  simp only [rd__law_deck, sRet, dLst, dCons, dNil, dC, dLc, diAny, dSl, dVar, dNoPart, dPart]
  refine ⟨_, rfl, 63, rfl, ?_⟩
  simp only [rdSl]
  have ec : cutD (ns.map D.int) none (some 63) = ns.map D.int := by
    rw [show (some 63 : Option Int) = some ((63 : Nat) : Int) from rfl, cutD_to, List.take_of_length_le (by rw [List.length_map]; exact hn)]
  rw [ec]
  refine ⟨_, at_end S _, ?_⟩
  refine lc_mapS _ D.int (fun i => .int (absI i)) (S ++ [.lst (ns.map D.int)]) _ 1 _ _ (Nat.le_refl _) (fun S' e => e.at (at_end S _)) ns [] _ _ (.new _ _) (at_end _ _) ?_ (fun x hx S1 Q1 e1 q1 => ?_) (fun S2 e2 s2 => ?_)
  · simp
    omega
  · simp only [dCB, dCons, dNil, dVar, rdAbs]
    exact ⟨_, rfl, x, rfl, q1.now⟩
  · refine ⟨by simp, q _ S2.length (S ++ [Ob.lst (ns.map D.int)]).length (((Ext.new S _).trans e2).trans (.new _ _)) ?_⟩
    have hlt : (S ++ [Ob.lst (ns.map D.int)]).length < S2.length := (List.getElem?_eq_some_iff.mp s2).1
    refine ⟨by omega, at_end _ _, ⟨ns.map absI, ?_, ?_, by rw [List.length_map]; exact hn⟩, by decide⟩
    · rw [(Ext.new S2 _).at s2, List.nil_append, List.map_map]
      rfl
    · intro c hc
      obtain ⟨x, _, rfl⟩ := List.mem_map.mp hc
      unfold absI
      split <;> omega
/-! ### one of a list -/
def c__law_one : DSp := fun ds S Q => ∃ (i j l : Nat) (n : Int) (xs : List D), ds = [.loc i, .loc l] ∧ Dk S i j n ∧ n < 1000000 ∧ S[l]? = some (.lst xs) ∧ l ≠ i ∧ l ≠ j ∧ 0 < xs.length ∧ xs.length ≤ 1000 ∧
  ∀ d S', d ∈ xs → Dk S' i j (n + 1) → Ch i j S S' → Q d S'
theorem len__law_one : ∀ ds S Q, c__law_one ds S Q → ds.length = 2 := by
  rintro ds S Q ⟨i, j, l, n, xs, rfl, _⟩
  rfl
theorem r__law_one : ∀ ds S Q, c__law_one ds S Q → rd__law_one c__law_draw { nx := fun _ S' => Q .non S', rt := Q } (startD 2 ds) S := by
  rintro ds S Q ⟨i, j, l, n, xs, rfl, hd, hn, hs, h1, h2, h3, h4, q⟩
  show rd__law_one c__law_draw _ [some (.loc i), some (.loc l)] S
  simp only [rd__law_one, sRet, dOp, dVar, dCall, dCons, dNil, dCB]
  refine ⟨_, rfl, _, rfl, _, rfl, _, hs, ?_⟩
  refine ⟨i, j, n, (xs.length : Int), rfl, hd, hn, by omega, by omega, fun k S' k0 k1 d' c' _ => ?_⟩
  obtain ⟨v, hv, hm⟩ := atI_mod h3 k0 k1
  exact ixL (c'.at_ l _ h1 h2 hs) hv (q v S' hm d' c')
/-! ### sizes -/
theorem okA_app : ∀ {a b : List Sm}, okA a → okA b → okA (a ++ b)
  | [], _, _, h => h
  | s :: r, b, h, h2 => by
    simp only [okA] at h
    rw [List.cons_append]
    simp only [okA]
    exact ⟨h.1, okA_app h.2 h2⟩
theorem pB_app : ∀ a b : List Sm, pB (a ++ b) = pB a + pB b
  | [], b => by simp [pB]
  | s :: r, b => by
    rw [List.cons_append]
    simp only [pB, pB_app r b]
    omega
theorem hB_app : ∀ a b : List Sm, hB (a ++ b) = max (hB a) (hB b)
  | [], b => by simp [hB]
  | s :: r, b => by
    rw [List.cons_append]
    simp only [hB, hB_app r b]
    omega
theorem dAll_app (a b : List Sm) : dAll (a ++ b) = dAll a ++ dAll b := by rw [dAll_map, dAll_map, dAll_map, List.map_append]
mutual
theorem pS_pos : ∀ s : Sm, 0 ≤ pS s
  | .iff _ y n => by have h1 := pB_pos y; have h2 := pB_pos n; simp only [pS]; omega
  | .we y n => by have h1 := pB_pos y; have h2 := pB_pos n; simp only [pS]; omega
  | .they y n => by have h1 := pB_pos y; have h2 := pB_pos n; simp only [pS]; omega
  | .rep _ b => by have h1 := pB_pos b; simp only [pS]; omega
  | .pay _ => by simp [pS]
  | .set => by simp [pS]
  | .stop => by simp [pS]
theorem pB_pos : ∀ b : List Sm, (b.length : Int) ≤ pB b
  | [] => by simp [pB]
  | s :: r => by
    have h1 := pS_pos s
    have h2 := pB_pos r
    simp only [pB, List.length_cons]
    omega
end
structure Fine (K H : Nat) (b : List Sm) : Prop where
  ok : okA b
  sz : pB b ≤ K
  ht : hB b ≤ H
theorem Fine.app {K K' H : Nat} {a b : List Sm} (x : Fine K H a) (y : Fine K' H b) : Fine (K + K') H (a ++ b) := ⟨okA_app x.ok y.ok, by rw [pB_app]; have := x.sz; have := y.sz; omega, by rw [hB_app]; have := x.ht; have := y.ht; omega⟩
theorem Fine.len {K H : Nat} {b : List Sm} (x : Fine K H b) : b.length ≤ K := by have := pB_pos b; have := x.sz; omega
theorem Fine.mono {K K' H H' : Nat} {b : List Sm} (x : Fine K H b) (h : K ≤ K') (h' : H ≤ H') : Fine K' H' b := ⟨x.ok, by have := x.sz; omega, Nat.le_trans x.ht h'⟩
theorem fine_rep {s : Sm} {m c H : Nat} (h : s.ok) (hp : 1 + pS s ≤ c) (hh : hS s + 1 ≤ H) : ∀ k : Nat, k ≤ m → Fine (m * c) H (List.replicate k s)
  | 0, _ => ⟨by simp [okA], by simp only [List.replicate, pB]; exact Int.natCast_nonneg _, by simp [hB]⟩
  | k + 1, hk => by
    have := fine_rep (m := k) h hp hh k (Nat.le_refl _)
    have e : m * c = k * c + (m - k) * c := by rw [← Nat.add_mul]; congr 1; omega
    have e2 : c ≤ (m - k) * c := Nat.le_mul_of_pos_left c (by omega)
    rw [List.replicate_succ]
    refine ⟨by simp only [okA]; exact ⟨h, this.ok⟩, ?_, ?_⟩
    · simp only [pB]
      have h1 := this.sz
      rw [e]
      omega
    · simp only [hB]
      have := this.ht
      omega
theorem rep_d (k : Nat) (s : Sm) : (List.replicate k [s.d]).flatten = dAll (List.replicate k s) := by
  rw [dAll_map, List.map_replicate]
  induction k with
  | zero => rfl
  | succ k ih => rw [List.replicate_succ, List.flatten_cons, ih, List.replicate_succ]; rfl
end K23

set_option Elab.async false
set_option linter.all false
set_option maxRecDepth 100000
set_option maxHeartbeats 1000000
namespace K23
open PySem L2 DL
/-- an expression that makes a new list of statements, drawing c numbers at most -/
def Mk (i j : Nat) (I : Sto → Prop) (T : DE) (δ : DEnv) (c : Nat) (K : Nat) : Prop := ∀ (S : Sto) (n : Int) (Q : DK), I S → Dk S i j n → n + c ≤ 1000000 →
  (∀ (rows : List Sm) (S' : Sto) (l : Nat) (n' : Int), Fine K 2 rows → Dk S' i j n' → n' ≤ n + c → Ch i j S S' → l ≠ i → l ≠ j → S'[l]? = some (.lst (dAll rows)) → Q (.loc l) S') → T δ S Q
theorem Dk.lt {S : Sto} {i j : Nat} {n : Int} (d : Dk S i j n) : i < S.length ∧ j < S.length := by
  obtain ⟨cs, h, _⟩ := d.cells
  exact ⟨(List.getElem?_eq_some_iff.mp d.deck).1, (List.getElem?_eq_some_iff.mp h).1⟩
theorem mk_rep {i j : Nat} {I : Sto → Prop} {E : DE} {δ : DEnv} {s : Sm} {m : Nat} (hδ : δ[0]? = some (some (.loc i))) (hE : ∀ S (Q : DK), Q s.d S → E δ S Q) (hok : s.ok) (hp : 1 + pS s ≤ 2) (hh : hS s + 1 ≤ 2) (hm : 0 < m) (hm9 : m ≤ 9) :
    Mk i j I (dOp rdMul (dLst (dCons E dNil)) (dCall c__law_draw (dCons (dVar 0) (dCons (dC (.int (m : Int))) dNil)))) δ 1 18 := by
  intro S n Q _ hd hn q
  simp only [dOp, dLst, dCons, dNil, dCall, dVar, dC]
  refine hE S _ ⟨by simp, _, hδ, ?_⟩
  have e1 : Ext S (S ++ [.lst [s.d]]) := .new S _
  have lt := hd.lt
  refine ⟨i, j, n, (m : Int), rfl, hd.ext e1, by omega, by omega, by omega, fun k S' k0 k1 d' c' l' => ?_⟩
  simp only [rdMul]
  have hs : S'[S.length]? = some (.lst [s.d]) := c'.at_ _ _ (by omega) (by omega) (at_end S _)
  refine ⟨_, hs, by omega, by omega, by simp, ?_⟩
  rw [rep_d]
  have lt' := d'.lt
  exact q _ _ S'.length (n + 1) ((fine_rep (m := 9) (c := 2) hok (by omega) hh k.toNat (by omega)).mono (by omega) (by omega)) (d'.ext (.new _ _)) (by omega) ((Ch.ext e1).trans (c'.trans (.ext (.new _ _)))) (by omega) (by omega) (at_end _ _)
theorem mk_add {i j : Nat} {I : Sto → Prop} {T U : DE} {δ : DEnv} {c1 c2 K1 K2 : Nat} (hI : ∀ S S', Ch i j S S' → I S → I S') (h1 : Mk i j I T δ c1 K1) (h2 : Mk i j I U δ c2 K2) (hk : K1 + K2 ≤ 1000) : Mk i j I (dOp rdAdd T U) δ (c1 + c2) (K1 + K2) := by
  intro S n Q hi hd hn q
  simp only [dOp]
  refine h1 S n _ hi hd (by omega) fun r1 S1 l1 n1 f1 d1 b1 ch1 a1 a2 s1 => ?_
  refine h2 S1 n1 _ (hI _ _ ch1 hi) d1 (by omega) fun r2 S2 l2 n2 f2 d2 b2 ch2 a3 a4 s2 => ?_
  simp only [rdAdd]
  have lt := d2.lt
  have := f1.len
  have := f2.len
  refine ⟨_, _, ch2.at_ _ _ a1 a2 s1, s2, by rw [dAll_len, dAll_len]; omega, ?_⟩
  rw [← dAll_app]
  exact q _ _ S2.length n2 (f1.app f2) (d2.ext (.new _ _)) (by omega) (ch1.trans (ch2.trans (.ext (.new _ _)))) (by omega) (by omega) (at_end _ _)
theorem mk_var {i j v l : Nat} {r0 : List Sm} {K : Nat} {δ : DEnv} (hδ : δ[v]? = some (some (.loc l))) (h1 : l ≠ i) (h2 : l ≠ j) (f : Fine K 2 r0) : Mk i j (fun S => S[l]? = some (.lst (dAll r0))) (dVar v) δ 0 K := by
  intro S n Q hi hd hn q
  exact ⟨_, hδ, q r0 S l n f hd (by omega) (.refl _ _ _) h1 h2 hi⟩
theorem mk_I {i j : Nat} {I : Sto → Prop} {T : DE} {δ : DEnv} {c K : Nat} (h : Mk i j (fun _ => True) T δ c K) : Mk i j I T δ c K := fun S n Q _ hd hn q => h S n Q trivial hd hn q
/-! ### the statements that are written -/
abbrev E_pay1 : DE := (dTup (dCons (dC (.str "pay")) (dCons (dC (.int 1)) dNil)))
theorem e_pay1 {δ : DEnv} (S : Sto) (Q : DK) (q : Q (Sm.pay .one).d S) : E_pay1 δ S Q := by
  simp only [E_pay1, dTup, dCons, dC, dNil]
  rw [Sm.d, Ee.d] at q
  exact ⟨by simp, q⟩
abbrev E_payA : DE := (dTup (dCons (dC (.str "pay")) (dCons (dC (.str "a")) dNil)))
abbrev E_set : DE := (dTup (dCons (dC (.str "set")) (dCons (dC (.str "a")) (dCons (dC (.str "n")) dNil))))
theorem e_set {δ : DEnv} (S : Sto) (Q : DK) (q : Q Sm.set.d S) : E_set δ S Q := by
  simp only [E_set, dTup, dCons, dC, dNil]
  rw [Sm.d] at q
  exact ⟨by simp, q⟩
abbrev E_if1 : DE := (dTup (dCons (dC (.str "if")) (dCons (dTup (dCons (dC (.str "less")) (dCons (dC (.str "a")) (dCons (dC (.str "n")) dNil)))) (dCons (dTup dNil) (dCons (dTup dNil) dNil)))))
theorem e_if1 {δ : DEnv} (S : Sto) (Q : DK) (q : Q (Sm.iff .l1 [] []).d S) : E_if1 δ S Q := by
  simp only [E_if1, dTup, dCons, dC, dNil]
  simp only [Sm.d, Tt.d, dAll] at q
  exact ⟨by simp, by simp, by simp, by simp, q⟩
abbrev E_if2 : DE := (dTup (dCons (dC (.str "if")) (dCons (dTup (dCons (dC (.str "not")) (dCons (dTup (dCons (dC (.str "rest")) (dCons (dC (.str "a")) (dCons (dC (.int 2)) (dCons (dC (.int 1)) dNil))))) dNil))) (dCons (dTup (dCons (dTup (dCons (dC (.str "pay")) (dCons (dC (.str "a")) dNil))) dNil)) (dCons (dTup dNil) dNil)))))
theorem e_if2 {δ : DEnv} (S : Sto) (Q : DK) (q : Q (Sm.iff .r1 [.pay .a] []).d S) : E_if2 δ S Q := by
  simp only [E_if2, dTup, dCons, dC, dNil]
  simp only [Sm.d, Tt.d, dAll, Ee.d] at q
  exact ⟨by simp, by simp, by simp, by simp, by simp, by simp, q⟩
abbrev E_we : DE := (dTup (dCons (dC (.str "we")) (dCons (dTup dNil) (dCons (dTup (dCons (dTup (dCons (dC (.str "pay")) (dCons (dC (.str "a")) dNil))) dNil)) dNil))))
theorem e_we {δ : DEnv} (S : Sto) (Q : DK) (q : Q (Sm.we [] [.pay .a]).d S) : E_we δ S Q := by
  simp only [E_we, dTup, dCons, dC, dNil]
  simp only [Sm.d, dAll, Ee.d] at q
  exact ⟨by simp, by simp, by simp, by simp, q⟩
abbrev E_they : DE := (dTup (dCons (dC (.str "they")) (dCons (dTup (dCons (dTup (dCons (dC (.str "stop")) dNil)) dNil)) (dCons (dTup dNil) dNil))))
theorem e_they {δ : DEnv} (S : Sto) (Q : DK) (q : Q (Sm.they [.stop] []).d S) : E_they δ S Q := by
  simp only [E_they, dTup, dCons, dC, dNil]
  simp only [Sm.d, dAll] at q
  exact ⟨by simp, by simp, by simp, by simp, q⟩
end K23

set_option Elab.async false
set_option linter.all false
set_option maxRecDepth 100000
set_option maxHeartbeats 1000000
namespace K23
open PySem L2 DL
theorem seq_asg (E : DE) (v : Nat) (REST : DS) (Dd : DEnds) (δ : DEnv) (S : Sto) (h : E δ S (fun x S1 => REST Dd (δ.set v (some x)) S1)) : sSeq (sAsg E (gdName v)) REST Dd δ S := h
theorem end_asg (E : DE) (v : Nat) (Dd : DEnds) (δ : DEnv) (S : Sto) (h : E δ S (fun x S1 => Dd.nx (δ.set v (some x)) S1)) : sAsg E (gdName v) Dd δ S := h
def c__law_part : DSp := fun ds S Q => ∃ (i j : Nat) (n : Int), ds = [.loc i] ∧ Dk S i j n ∧ n + 30 ≤ 1000000 ∧ ∀ b S' n', Fine 130 10 b → Dk S' i j n' → n' ≤ n + 30 → Ch i j S S' → Q (.tup (dAll b)) S'
theorem len__law_part : ∀ ds S Q, c__law_part ds S Q → ds.length = 1 := by
  rintro ds S Q ⟨i, j, n, rfl, _⟩
  rfl
theorem f_rep {K H : Nat} {b : List Sm} (f : Fine K H b) (k : Nat) (h1 : 1 ≤ k) (h8 : k ≤ 8) : Fine (K + 1) (H + 1) [.rep k b] := by
  refine ⟨by simp only [okA, Sm.ok]; exact ⟨⟨h1, h8, f.ok⟩, trivial⟩, ?_, ?_⟩
  · simp only [pB, pS]; have := f.sz; omega
  · simp only [hB, hS]; have := f.ht; omega
theorem f_if {K H : Nat} {b : List Sm} (f : Fine K H b) : Fine (K + 1) (H + 1) [.iff .l2 [] b] := by
  refine ⟨by simp only [okA, Sm.ok]; exact ⟨⟨trivial, f.ok⟩, trivial⟩, ?_, ?_⟩
  · simp only [pB, pS]; have := f.sz; omega
  · simp only [hB, hS]; have := f.ht; omega
theorem f_we {K H : Nat} {b : List Sm} (f : Fine K H b) : Fine (K + 1) (H + 1) [.we b []] := by
  refine ⟨by simp only [okA, Sm.ok]; exact ⟨⟨f.ok, trivial⟩, trivial⟩, ?_, ?_⟩
  · simp only [pB, pS]; have := f.sz; omega
  · simp only [hB, hS]; have := f.ht; omega
theorem f_they {K H : Nat} {b : List Sm} (f : Fine K H b) : Fine (K + 1) (H + 1) [.they [] b] := by
  refine ⟨by simp only [okA, Sm.ok]; exact ⟨⟨trivial, f.ok⟩, trivial⟩, ?_, ?_⟩
  · simp only [pB, pS]; have := f.sz; omega
  · simp only [hB, hS]; have := f.ht; omega
abbrev E_repX : DE := (dTup (dCons (dTup (dCons (dC (.str "repeat")) (dCons (dCall c__law_one (dCons (dVar 0) (dCons (dLst (dCons (dC (.int 1)) (dCons (dC (.int 1)) (dCons (dC (.int 1)) (dCons (dC (.int 2)) (dCons (dC (.int 2)) (dCons (dC (.int 3)) (dCons (dC (.int 8)) dNil)))))))) dNil))) (dCons (dVar 2) dNil)))) dNil))
theorem e_repX {δ : DEnv} {i j : Nat} {b : List Sm} {K H : Nat} (f : Fine K H b) (h0 : δ[0]? = some (some (.loc i))) (h2 : δ[2]? = some (some (.tup (dAll b)))) (S : Sto) (n : Int) (Q : DK) (hd : Dk S i j n) (hn : n < 1000000)
    (q : ∀ b' S', Fine (K + 1) (H + 1) b' → Dk S' i j (n + 1) → Ch i j S S' → Q (.tup (dAll b')) S') : E_repX δ S Q := by
  have lt := hd.lt
  simp only [E_repX, dTup, dCons, dC, dNil, dCall, dVar, dLst]
  refine ⟨_, h0, by simp, i, j, S.length, n, _, rfl, hd.ext (.new S _), hn, at_end S _, by omega, by omega, by simp, by simp, fun d S' hm d' c' => ?_⟩
  refine ⟨_, h2, by simp, by simp, ?_⟩
  have hk : ∃ k : Nat, d = .int (k : Int) ∧ 1 ≤ k ∧ k ≤ 8 := by
    simp only [List.mem_cons, List.not_mem_nil, or_false] at hm
    rcases hm with rfl | rfl | rfl | rfl | rfl | rfl | rfl
    · exact ⟨1, rfl, by omega, by omega⟩
    · exact ⟨1, rfl, by omega, by omega⟩
    · exact ⟨1, rfl, by omega, by omega⟩
    · exact ⟨2, rfl, by omega, by omega⟩
    · exact ⟨2, rfl, by omega, by omega⟩
    · exact ⟨3, rfl, by omega, by omega⟩
    · exact ⟨8, rfl, by omega, by omega⟩
  obtain ⟨k, rfl, k1, k8⟩ := hk
  have := q [.rep k b] S' (f_rep f k k1 k8) d' ((Ch.ext (.new S _)).trans c')
  simp only [dAll, Sm.d] at this
  exact this
abbrev E_pick : DE := (dOp rdIx (dLst (dCons (dTup (dCons (dTup (dCons (dC (.str "if")) (dCons (dTup (dCons (dC (.str "less")) (dCons (dC (.int 1)) (dCons (dC (.str "n")) dNil)))) (dCons (dTup dNil) (dCons (dVar 2) dNil))))) dNil)) (dCons (dTup (dCons (dTup (dCons (dC (.str "we")) (dCons (dVar 2) (dCons (dTup dNil) dNil)))) dNil)) dNil))) (dVar 4))
theorem e_pick {δ : DEnv} {b : List Sm} {K H : Nat} {way : Int} (f : Fine K H b) (h2 : δ[2]? = some (some (.tup (dAll b)))) (h4 : δ[4]? = some (some (.int way))) (w0 : 0 ≤ way) (w1 : way < 2) (S : Sto) (Q : DK)
    (q : ∀ b' S', Fine (K + 1) (H + 1) b' → Ext S S' → Q (.tup (dAll b')) S') : E_pick δ S Q := by
  simp only [E_pick, dOp, dLst, dTup, dCons, dC, dNil, dVar]
  refine ⟨by simp, by simp, _, h2, by simp, by simp, _, h2, by simp, by simp, by simp, by simp, _, h4, ?_⟩
  have q1 := q _ (S ++ [Ob.lst [.tup (dAll [.iff .l2 [] b]), .tup (dAll [.we b []])]]) (f_if f) (.new _ _)
  have q2 := q _ (S ++ [Ob.lst [.tup (dAll [.iff .l2 [] b]), .tup (dAll [.we b []])]]) (f_we f) (.new _ _)
  simp only [dAll, Sm.d, Tt.d] at q1 q2
  have hw : way = 0 ∨ way = 1 := by omega
  rcases hw with rfl | rfl
  · exact ixL (at_end S _) (atI_0 _ _) q1
  · exact ixL (at_end S _) (atI_1 _ _ _) q2
abbrev partL : DS := (sSeq (sAsg E_repX (gdName 2))
    (sSeq (sAsg (dCall c__law_draw (dCons (dVar 0) (dCons (dC (.int 6)) dNil))) (gdName 4))
    (sIf (dTest (dOp (rdI0 fun i j => .bl (decide (i < j))) (dVar 4) (dC (.int 2)))) (sAsg E_pick (gdName 2)) sNext)))
theorem if_gen (c : DT) (t u : DS) (Dd : DEnds) (δ : DEnv) (S : Sto) (h : c δ S fun k S1 => if k = true then t Dd δ S1 else u Dd δ S1) : sIf c t u Dd δ S := h
theorem for_gen (di : DI) (g : DG) (tb : DS) (REST : DS) (Dd : DEnds) (δ : DEnv) (S : Sto) (h : di δ S fun items st S1 => forL st g tb items { Dd with nx := REST Dd } δ S1) : sSeq (sFor di g tb) REST Dd δ S := h
theorem rng_gen {E : DE} {δ : DEnv} {S : Sto} {R : List D → (Sto → Prop) → Sto → Prop} (h : E δ S fun d S1 => ∃ j : Int, d = .int j ∧ -1000000 ≤ j ∧ j ≤ 1000000 ∧ R (rangeD 0 j.toNat) (fun _ => True) S1) (hE : ∀ (Q Q' : DK), (∀ d S, Q d S → Q' d S) → E δ S Q → E δ S Q') : diRng1 (dCons E dNil) δ S R :=
  hE _ _ (fun d S1 ⟨j, hj, a, b, c⟩ => ⟨j, by rw [hj], a, b, c⟩) h
theorem draw_gen {i j : Nat} {n m : Int} {δ : DEnv} {S : Sto} {Q : DK} (h0 : δ[0]? = some (some (.loc i))) (hd : Dk S i j n) (hn : n < 1000000) (hm : 0 < m) (hm2 : m ≤ 1000000000) (q : ∀ k S', 0 ≤ k → k < m → Dk S' i j (n + 1) → Ch i j S S' → Q (.int k) S') :
    dCall c__law_draw (dCons (dVar 0) (dCons (dC (.int m)) dNil)) δ S Q := ⟨_, h0, i, j, n, m, rfl, hd, hn, hm, hm2, fun k S' a b c d _ => q k S' a b c d⟩
theorem part_loop2 {i j : Nat} (Dd : DEnds) : ∀ (xs : List D) (b : List Sm) (K H : Nat) (S : Sto) (n : Int) (x1 x3 x4 : Option D), Fine K H b → Dk S i j n → n + 2 * xs.length ≤ 1000000 →
    (∀ b' S' n' y3 y4, Fine (K + 2 * xs.length) (H + 2 * xs.length) b' → Dk S' i j n' → n' ≤ n + 2 * xs.length → Ch i j S S' → Dd.nx [some (.loc i), x1, some (.tup (dAll b')), y3, y4] S') →
    forL (fun _ => True) (gdName 3) partL xs Dd [some (.loc i), x1, some (.tup (dAll b)), x3, x4] S
  | [], b, K, H, S, n, x1, x3, x4, f, hd, _, q => ⟨trivial, q b S n _ _ (f.mono (by simp) (by simp)) hd (by simp) (.refl _ _ _)⟩
  | x :: xs, b, K, H, S, n, x1, x3, x4, f, hd, hn, q => by
    rw [List.length_cons] at hn
    refine ⟨trivial, ?_⟩
    refine seq_asg E_repX 2 _ _ _ S (e_repX f rfl rfl S n _ hd (by omega) fun b1 S1 f1 d1 c1 => ?_)
    refine seq_asg _ 4 _ _ _ S1 (draw_gen rfl d1 (by omega) (by decide) (by decide) fun way S2 w0 w1 d2 c2 => ?_)
    have lt := c2.len
    refine if_gen _ _ _ _ _ S2 ⟨_, rfl, way, 2, rfl, rfl, _, rfl, ?_⟩
    have next : ∀ (b3 : List Sm) (S3 : Sto) (y4 : Option D), Fine (K + 2) (H + 2) b3 → Dk S3 i j (n + 1 + 1) → Ch i j S S3 → forL (fun _ => True) (gdName 3) partL xs Dd [some (.loc i), x1, some (.tup (dAll b3)), some x, y4] S3 := by
      intro b3 S3 y4 f3 d3 c3
      refine part_loop2 Dd xs b3 (K + 2) (H + 2) S3 (n + 1 + 1) x1 (some x) y4 f3 d3 (by omega) fun b' S' n' y3 y4 f' d' hn' c' => ?_
      exact q b' S' n' y3 y4 (f'.mono (by rw [List.length_cons]; omega) (by rw [List.length_cons]; omega)) d' (by rw [List.length_cons]; omega) (c3.trans c')
    by_cases hw : way < 2
    · rw [decide_eq_true hw]
      dsimp only
      rw [if_pos rfl]
      refine end_asg E_pick 2 _ _ S2 (e_pick f1 rfl rfl w0 hw S2 _ fun b3 S3 f3 e3 => ?_)
      exact next b3 S3 _ f3 (d2.ext e3) ((c1.trans c2).trans (.ext e3))
    · rw [decide_eq_false hw]
      dsimp only
      rw [if_neg (by decide)]
      exact next b1 S2 _ (f1.mono (by omega) (by omega)) d2 (c1.trans c2)
theorem r__law_part : ∀ ds S Q, c__law_part ds S Q → rd__law_part c__law_draw c__law_one { nx := fun _ S' => Q .non S', rt := Q } (startD 5 ds) S := by
  rintro ds S Q ⟨i, j, n, rfl, hd, hn, q⟩
  show rd__law_part c__law_draw c__law_one _ [some (.loc i), none, none, none, none] S
  unfold rd__law_part
  have okp : (Sm.pay .one).ok := by simp [Sm.ok]
  refine seq_asg _ 1 _ _ _ S ?_
  have m1 : Mk i j (fun _ => True) (dOp rdMul (dLst (dCons E_pay1 dNil)) (dCall c__law_draw (dCons (dVar 0) (dCons (dC (.int ((9 : Nat) : Int))) dNil)))) [some (.loc i), none, none, none, none] 1 18 := mk_rep (s := .pay .one) rfl (fun S Q q => e_pay1 S Q q) okp (by simp [pS]) (by simp [hS]) (by omega) (by omega)
  have m2 : Mk i j (fun _ => True) (dOp rdMul (dLst (dCons E_set dNil)) (dCall c__law_draw (dCons (dVar 0) (dCons (dC (.int ((3 : Nat) : Int))) dNil)))) [some (.loc i), none, none, none, none] 1 18 := mk_rep (s := .set) rfl (fun S Q q => e_set S Q q) (by simp [Sm.ok]) (by simp [pS]) (by simp [hS]) (by omega) (by omega)
  refine (mk_add (fun _ _ _ _ => trivial) m1 m2 (by omega)) S n _ trivial hd (by omega) fun r1 S1 l1 n1 f1 d1 b1 ch1 a1 a2 s1 => ?_
  refine seq_asg _ 1 _ _ _ S1 ?_
  have stab : ∀ (l : Nat) (r : List Sm), l ≠ i → l ≠ j → ∀ S S' : Sto, Ch i j S S' → S[l]? = some (.lst (dAll r)) → S'[l]? = some (.lst (dAll r)) := fun l r h1 h2 S S' c h => c.at_ _ _ h1 h2 h
  have m3 : Mk i j (fun _ => True) (dOp rdMul (dLst (dCons E_if1 dNil)) (dCall c__law_draw (dCons (dVar 0) (dCons (dC (.int ((3 : Nat) : Int))) dNil)))) [some (.loc i), some (.loc l1), none, none, none] 1 18 := mk_rep (s := .iff .l1 [] []) rfl (fun S Q q => e_if1 S Q q) (by simp [Sm.ok, okA]) (by simp [pS, pB]) (by simp [hS, hB]) (by omega) (by omega)
  refine (mk_add (stab l1 r1 a1 a2) (mk_var (v := 1) rfl a1 a2 f1) (mk_I m3) (by omega)) S1 n1 _ s1 d1 (by omega) fun r2 S2 l2 n2 f2 d2 b2 ch2 a3 a4 s2 => ?_
  refine seq_asg _ 1 _ _ _ S2 ?_
  have m4 : Mk i j (fun _ => True) (dOp rdMul (dLst (dCons E_if2 dNil)) (dCall c__law_draw (dCons (dVar 0) (dCons (dC (.int ((2 : Nat) : Int))) dNil)))) [some (.loc i), some (.loc l2), none, none, none] 1 18 := mk_rep (s := .iff .r1 [.pay .a] []) rfl (fun S Q q => e_if2 S Q q) (by simp [Sm.ok, okA]) (by simp [pS, pB]) (by simp [hS, hB]) (by omega) (by omega)
  refine (mk_add (stab l2 r2 a3 a4) (mk_var (v := 1) rfl a3 a4 f2) (mk_I m4) (by omega)) S2 n2 _ s2 d2 (by omega) fun r3 S3 l3 n3 f3 d3 b3 ch3 a5 a6 s3 => ?_
  refine seq_asg _ 1 _ _ _ S3 ?_
  have m5 : Mk i j (fun _ => True) (dOp rdMul (dLst (dCons E_we dNil)) (dCall c__law_draw (dCons (dVar 0) (dCons (dC (.int ((3 : Nat) : Int))) dNil)))) [some (.loc i), some (.loc l3), none, none, none] 1 18 := mk_rep (s := .we [] [.pay .a]) rfl (fun S Q q => e_we S Q q) (by simp [Sm.ok, okA]) (by simp [pS, pB]) (by simp [hS, hB]) (by omega) (by omega)
  have m6 : Mk i j (fun _ => True) (dOp rdMul (dLst (dCons E_they dNil)) (dCall c__law_draw (dCons (dVar 0) (dCons (dC (.int ((3 : Nat) : Int))) dNil)))) [some (.loc i), some (.loc l3), none, none, none] 1 18 := mk_rep (s := .they [.stop] []) rfl (fun S Q q => e_they S Q q) (by simp [Sm.ok, okA]) (by simp [pS, pB]) (by simp [hS, hB]) (by omega) (by omega)
  refine (mk_add (stab l3 r3 a5 a6) (mk_add (stab l3 r3 a5 a6) (mk_var (v := 1) rfl a5 a6 f3) (mk_I m5) (by omega)) (mk_I m6) (by omega)) S3 n3 _ s3 d3 (by omega) fun r4 S4 l4 n4 f4 d4 b4 ch4 a7 a8 s4 => ?_
  refine seq_asg _ 2 _ _ _ S4 ⟨_, rfl, _, s4, ?_⟩
  have cc := ((ch1.trans ch2).trans ch3).trans ch4
  refine for_gen _ _ _ _ _ _ S4 ?_
  refine draw_gen (δ := [some (.loc i), some (.loc l4), some (.tup (dAll r4)), none, none]) rfl d4 (by omega) (by decide) (by decide) fun k S5 k0 k1 d5 ch5 => ⟨k, rfl, by omega, by omega, ?_⟩
  have hlen : (rangeD 0 k.toNat).length ≤ 3 := by
    unfold rangeD
    rw [List.length_map, List.length_range]
    omega
  refine part_loop2 _ (rangeD 0 k.toNat) r4 _ _ S5 (n4 + 1) _ _ _ f4 d5 (by omega) fun b' S' n' y3 y4 f' d' hn' c' => ?_
  simp only [sRet, dVar]
  exact ⟨_, rfl, q b' S' n' (f'.mono (by omega) (by omega)) d' (by omega) (cc.trans (ch5.trans c'))⟩
end K23

set_option Elab.async false
set_option linter.all false
set_option maxRecDepth 100000
set_option maxHeartbeats 1000000
namespace K23
open PySem L2 DL
def ent (x : Nat × Sm) : D := .tup [.int (x.1 : Int), x.2.d]
def entP (x : Nat × Sm) : PyData := .tuple [.int (x.1 : Int), x.2.p]
theorem py_ents {S : Sto} : ∀ l : List (Nat × Sm), PyOfA S (l.map ent) (l.map entP)
  | [] => .nil
  | x :: r => .cons (.tup (.cons (.int _) (.cons (py_S x.2) .nil))) (py_ents r)
theorem lay_ents : ∀ l : List (Nat × Sm), (∀ x ∈ l, hS x.2 ≤ 12) → PyData.canLayAll0 (l.map entP) = true ∧ PyData.depthAll (l.map entP) ≤ 30
  | [], _ => by simp [PyData.canLayAll0, PyData.depthAll]
  | x :: r, h => by
    have h1 := lay_S x.2
    have h2 := lay_ents r (fun y hy => h y (List.mem_cons_of_mem _ hy))
    have h3 := h x List.mem_cons_self
    simp only [List.map_cons, entP, PyData.canLayAll0, PyData.canLay0, PyData.depthAll, PyData.depth, h1.1, Bool.true_and, Bool.and_true]
    have := h1.2
    have := h2.2
    refine ⟨h2.1, ?_⟩
    have e : (0 : Nat) ≤ 0 := Nat.le_refl 0
    omega
theorem left_test {S : Sto} {Q : DK} {l l2 : Nat} {xs : List (Nat × Sm)} (h : S[l]? = some (.lst (xs.map ent))) (h2 : S[l2]? = some (.lst [])) (hb : ∀ x ∈ xs, hS x.2 ≤ 12) (q : Q (.bl (!xs.isEmpty)) S) : rdEq not (.loc l) (.loc l2) S Q := by
  have hl := lay_ents xs hb
  refine ⟨.list (xs.map entP), .list [], .lst h (py_ents xs), .lst h2 .nil, ?_, shaped_nilL, ?_⟩
  · simp only [SeqAt.shaped, PyData.canLay0, PyData.depth, hl.1, Bool.true_and]
    exact decide_eq_true (by have := hl.2; omega)
  · have e : PyData.eqv (.list (xs.map entP)) (.list []) = xs.isEmpty := by cases xs <;> simp [PyData.eqv, PyData.eqvAll]
    rw [e]
    exact q
def eK : List (Nat × Sm) → Int → Int × Bool
  | [], p => (p, false)
  | (d, s) :: r, p => if 3 < d then (p, true) else match fS s (p + 1) (d + 1) with
    | (p1, true) => (p1, true)
    | (p1, false) => eK r p1
def at_ (d : Nat) (b : List Sm) : List (Nat × Sm) := b.map fun s => (d, s)
theorem eK_app (d : Nat) (r : List (Nat × Sm)) : ∀ (b : List Sm) (p : Int), eK (at_ d b ++ r) p = match fB b p d with | (p1, true) => (p1, true) | (p1, false) => eK r p1
  | [], p => by simp [at_, fB]
  | s :: b, p => by
    have ih := eK_app d r b
    simp only [at_, List.map_cons, List.cons_append, eK, fB]
    by_cases h : 3 < d
    · simp [h]
    · simp only [if_neg h]
      rcases fS s (p + 1) (d + 1) with ⟨p1, _ | _⟩
      · exact ih p1
      · rfl
theorem eK_blocks (d : Nat) (r : List (Nat × Sm)) : ∀ (bs : List (List Sm)) (p : Int), eK (at_ d bs.flatten ++ r) p = match fBs bs p d with | (p1, true) => (p1, true) | (p1, false) => eK r p1
  | [], p => by simp [at_, fBs]
  | b :: bs, p => by
    have ih := eK_blocks d r bs
    have e : at_ d (b :: bs).flatten ++ r = at_ d b ++ (at_ d bs.flatten ++ r) := by simp [at_]
    rw [e, eK_app]
    simp only [fBs]
    rcases fB b p d with ⟨p1, _ | _⟩
    · exact ih p1
    · rfl
theorem eK_step {d : Nat} {s : Sm} {r : List (Nat × Sm)} {p : Int} (h : ¬ 3 < d) : eK ((d, s) :: r) p = eK (at_ (d + 1) s.blocks.flatten ++ r) (p + 1) := by
  rw [eK_blocks, eK, if_neg h, fS_blocks]
def szK (l : List (Nat × Sm)) : Int := pB (l.map (·.2))
theorem szK_step {d : Nat} {s : Sm} {r : List (Nat × Sm)} : szK (at_ (d + 1) s.blocks.flatten ++ r) = szK ((d, s) :: r) - 1 := by
  have e : (at_ (d + 1) s.blocks.flatten ++ r).map (·.2) = s.blocks.flatten ++ r.map (·.2) := by
    unfold at_
    rw [List.map_append, List.map_map, show (fun x : Nat × Sm => x.2) ∘ (fun s : Sm => (d + 1, s)) = id from rfl, List.map_id]
  have e2 : pB s.blocks.flatten = pS s := by
    cases s <;> simp [Sm.blocks, pS, pB, pB_app]
  unfold szK
  rw [e, pB_app, e2]
  simp only [List.map_cons, pB]
  omega
theorem blocks_fine {s : Sm} (h : s.ok) (hh : hS s ≤ 12) : ∀ y ∈ s.blocks.flatten, y.ok ∧ hS y ≤ 12 := by
  have all : ∀ b : List Sm, okA b → hB b ≤ 12 → ∀ y ∈ b, y.ok ∧ hS y ≤ 12 := by
    intro b
    induction b with
    | nil => intro _ _ y hy; cases hy
    | cons x r ih =>
      intro h1 h2 y hy
      simp only [okA] at h1
      simp only [hB] at h2
      rcases List.mem_cons.mp hy with rfl | hy
      · exact ⟨h1.1, by omega⟩
      · exact ih h1.2 (by omega) y hy
  intro y hy
  obtain ⟨b, hb, hy⟩ := List.mem_flatten.mp hy
  refine all b (ok_blocks h b hb) ?_ y hy
  cases s <;> simp [Sm.blocks, hS] at hb hh <;> rcases hb with rfl | rfl <;> omega
end K23

set_option Elab.async false
set_option linter.all false
set_option maxRecDepth 100000
set_option maxHeartbeats 1000000
namespace K23
open PySem L2 DL
theorem ch1_ext {l : Nat} {S S1 : Sto} (e : Ext S S1) : Ch l l S S1 := .ext e
theorem ext_ch {l : Nat} {S0 S S' : Sto} (e : Ext S0 S) (h : S0.length ≤ l) (c : Ch l l S S') : Ext S0 S' := by
  refine ⟨S'.drop S0.length, ?_⟩
  have hl := c.len
  have he := e.len
  apply List.ext_getElem?
  intro k
  by_cases hk : k < S0.length
  · rw [List.getElem?_append_left hk]
    have h1 : S0[k]? = some S0[k] := List.getElem?_eq_getElem hk
    rw [h1]
    exact c.at_ k _ (by omega) (by omega) (e.at h1)
  · rw [List.getElem?_append_right (by omega), List.getElem?_drop]
    congr 1
    omega
abbrev inB : DS := (sDrop (dExt (dVar 5) (dLc (diAny (dVar 6)) 10 dYes (dTup (dCons (dOp rdAdd (dVar 3) (dC (.int 1))) (dCons (dVar 10) dNil))))))
theorem in_step (d : Nat) (b : List Sm) (hb : b.length ≤ 5000) (acc : List (Nat × Sm)) (ha : acc.length ≤ 5000) (S : Sto) (li : Nat) (x0 x1 x2 x4 x7 x8 x9 x10 : Option D) (Dd : DEnds) (h : S[li]? = some (.lst (acc.map ent)))
    (q : ∀ S', Ch li li S S' → S'[li]? = some (.lst ((acc ++ at_ (d + 1) b).map ent)) → Dd.nx [x0, x1, x2, some (.int (d : Int)), x4, some (.loc li), some (.tup (dAll b)), x7, x8, x9, x10] S') :
    inB Dd [x0, x1, x2, some (.int (d : Int)), x4, some (.loc li), some (.tup (dAll b)), x7, x8, x9, x10] S := by
  have hlt : li < S.length := (List.getElem?_eq_some_iff.mp h).1
  simp only [inB, sDrop, dExt, dVar, dLc, diAny]
  refine ⟨_, rfl, li, rfl, ⟨_, h⟩, _, rfl, ?_⟩
  rw [dAll_map]
  refine lc_map Sm.d (fun s => ent (d + 1, s)) S S.length 10 _ _ (Nat.le_refl _) b [] _ _ (.new S _) (at_end S _) (by simp; omega) (fun s _ S1 Q1 e1 q1 => ?_) (fun S' e' s' => ?_)
  · simp only [dTup, dCons, dNil, dOp, dVar, dC]
    refine ⟨_, rfl, _, rfl, by simp, ?_⟩
    exact q1.now
  · refine ⟨_, _, _, rfl, e'.at h, s', by rw [List.length_map, List.nil_append, List.length_map]; omega, ?_⟩
    have hl2 : li < S'.length := Nat.lt_of_lt_of_le hlt e'.len
    have qq := q _ ((ch1_ext e').trans (.set (l := li) (o := Ob.lst (List.map ent acc ++ ([] ++ List.map (fun s => ent (d + 1, s)) b))) (.inl rfl))) (by
      rw [List.getElem?_set_self hl2, List.nil_append, List.map_append]
      congr 3
      simp [at_])
    rw [dAll_map] at qq
    exact qq
theorem in_loopE (d : Nat) (li : Nat) (x0 x1 x2 x4 x7 x8 x9 x10 : Option D) (Dd : DEnds) : ∀ (bs : List (List Sm)) (acc : List (Nat × Sm)) (S : Sto) (x6 : Option D), (∀ b ∈ bs, b.length ≤ 2000) → acc.length + 2000 * bs.length ≤ 5000 → S[li]? = some (.lst (acc.map ent)) →
    (∀ S' y6, Ch li li S S' → S'[li]? = some (.lst ((acc ++ at_ (d + 1) bs.flatten).map ent)) → Dd.nx [x0, x1, x2, some (.int (d : Int)), x4, some (.loc li), y6, x7, x8, x9, x10] S') →
    forL (fun _ => True) (gdName 6) inB (bs.map fun b => .tup (dAll b)) Dd [x0, x1, x2, some (.int (d : Int)), x4, some (.loc li), x6, x7, x8, x9, x10] S
  | [], acc, S, x6, _, _, h, q => ⟨trivial, q S _ (.refl _ _ _) (by simpa [at_] using h)⟩
  | b :: bs, acc, S, x6, hb, hz, h, q => by
    rw [List.length_cons] at hz
    have hb0 := hb b List.mem_cons_self
    refine ⟨trivial, ?_⟩
    refine in_step d b (by omega) acc (by omega) S li _ _ _ _ _ _ _ _ _ h fun S1 c1 s1 => ?_
    refine in_loopE d li x0 x1 x2 x4 x7 x8 x9 x10 Dd bs (acc ++ at_ (d + 1) b) S1 _ (fun b hb' => hb b (List.mem_cons_of_mem _ hb')) (by rw [List.length_append]; simp only [at_, List.length_map]; omega) s1 fun S2 y6 c2 s2 => ?_
    refine q S2 y6 (c1.trans c2) ?_
    rw [s2]
    simp [at_]
theorem seq_drop (E : DE) (REST : DS) (Dd : DEnds) (δ : DEnv) (S : Sto) (h : E δ S (fun _ S1 => REST Dd δ S1)) : sSeq (sDrop E) REST Dd δ S := h
theorem seq_if (c : DT) (t u : DS) (REST : DS) (Dd : DEnds) (δ : DEnv) (S : Sto) (h : c δ S fun k S1 => if k = true then t { Dd with nx := REST Dd } δ S1 else u { Dd with nx := REST Dd } δ S1) : sSeq (sIf c t u) REST Dd δ S := h
theorem seq_g2 (E : DE) (v w : Nat) (REST : DS) (Dd : DEnds) (δ : DEnv) (S : Sto) (h : E δ S (fun x S1 => gd2 (gdName v) (gdName w) x δ S1 (REST Dd))) : sSeq (sAsg E (gd2 (gdName v) (gdName w))) REST Dd δ S := h
abbrev errB : DS := (sSeq (sAsg (dPop (dVar 1)) (gd2 (gdName 3) (gdName 4)))
    (sSeq (sIf (dTest (dOp (rdI0 fun i j => .bl (decide (j < i))) (dVar 3) (dC (.int 3)))) (sRet (dTup (dCons (dVar 2) (dCons (dC (.str "nest")) dNil)))) sNext)
    (sSeq (sIf (dNot (dTest (dCall c__law_is_statement (dCons (dVar 4) dNil)))) (sRet (dTup (dCons (dVar 2) (dCons (dC (.str "statement")) dNil)))) sNext)
    (sSeq (sAsg (dLst dNil) (gdName 5))
    (sSeq (sFor (diAny (dCall c_blocks_of (dCons (dVar 4) dNil))) (gdName 6) inB)
    (sSeq (sDrop (dExt (dVar 1) (dRevL (dVar 5))))
    (sAsg (dOp rdAdd (dVar 2) (dC (.int 1))) (gdName 2))))))))
theorem last_rev {α : Type} (x : α) (r : List α) : (x :: r).reverse[(x :: r).reverse.length - 1]? = some x ∧ (x :: r).reverse.dropLast = r.reverse := by
  rw [List.reverse_cons]
  constructor
  · rw [List.length_append, List.length_singleton, Nat.add_sub_cancel, List.getElem?_append_right (Nat.le_refl _), Nat.sub_self]
    rfl
  · rw [List.dropLast_concat]
theorem err_row (d : Nat) (s : Sm) (r : List (Nat × Sm)) (p : Int) (hs : s.ok) (hh : hS s ≤ 12) (hz : szK ((d, s) :: r) ≤ 2000) (S : Sto) (l : Nat) (x0 x3 x4 x5 x6 x7 x8 x9 x10 : Option D) (Dd : DEnds) (h : S[l]? = some (.lst ((((d, s) :: r).reverse).map ent)))
    (qn : 3 < d → ∀ S', Ch l l S S' → Dd.rt (.tup [.int p, .str "nest"]) S')
    (qc : ¬ 3 < d → ∀ S' y3 y4 y5 y6, Ch l l S S' → S'[l]? = some (.lst (((at_ (d + 1) s.blocks.flatten ++ r).reverse).map ent)) → Dd.nx [x0, some (.loc l), some (.int (p + 1)), y3, y4, y5, y6, x7, x8, x9, x10] S') :
    errB Dd [x0, some (.loc l), some (.int p), x3, x4, x5, x6, x7, x8, x9, x10] S := by
  have hlt : l < S.length := (List.getElem?_eq_some_iff.mp h).1
  have lr := last_rev (d, s) r
  refine seq_g2 _ 3 4 _ Dd _ S ?_
  refine ⟨_, rfl, l, _, ent (d, s), rfl, h, ?_, ?_⟩
  · rw [List.length_map, List.getElem?_map, lr.1]
    rfl
  rw [← List.map_dropLast, lr.2]
  have c1 : Ch l l S (S.set l (.lst (r.reverse.map ent))) := .set (.inl rfl)
  have s1 : (S.set l (.lst (r.reverse.map ent)))[l]? = some (.lst (r.reverse.map ent)) := by rw [List.getElem?_set_self hlt]
  generalize S.set l (.lst (r.reverse.map ent)) = S1 at c1 s1
  dsimp only [gd2, ent, gdName, List.set]
  refine seq_if _ _ _ _ Dd _ S1 ?_
  refine ⟨_, rfl, (d : Int), 3, rfl, rfl, _, rfl, ?_⟩
  by_cases hd : 3 < d
  · have hd' : (3 : Int) < (d : Int) := by omega
    rw [decide_eq_true hd']
    dsimp only
    rw [if_pos rfl]
    exact ⟨_, rfl, by simp, qn hd S1 c1⟩
  have hd' : ¬ (3 : Int) < (d : Int) := by omega
  rw [decide_eq_false hd']
  dsimp only
  rw [if_neg (by decide)]
  dsimp only [sNext]
  refine seq_if _ _ _ _ Dd _ S1 ?_
  refine ⟨_, rfl, s, rfl, hs, by omega, fun S2 e2 => ⟨true, rfl, ?_⟩⟩
  dsimp only
  rw [if_neg (by decide)]
  dsimp only [sNext]
  refine seq_asg _ 5 _ Dd _ S2 ⟨by simp, ?_⟩
  have c3 : Ch l l S (S2 ++ [Ob.lst []]) := c1.trans (.ext (e2.trans (.new _ _)))
  have s3 : (S2 ++ [Ob.lst []])[l]? = some (.lst (r.reverse.map ent)) := (e2.trans (.new _ _)).at s1
  have l3 : (S2 ++ [Ob.lst []])[S2.length]? = some (.lst (([] : List (Nat × Sm)).map ent)) := at_end S2 _
  have hlt2 : l < S2.length := Nat.lt_of_lt_of_le (List.getElem?_eq_some_iff.mp s1).1 e2.len
  have hSl : S.length ≤ S2.length := Nat.le_trans c1.len e2.len
  dsimp only [List.set]
  generalize hli : S2.length = li at l3 hlt2 hSl
  generalize S2 ++ [Ob.lst []] = S3 at c3 s3 l3
  refine for_gen _ _ _ _ Dd _ S3 ?_
  refine ⟨_, rfl, s, rfl, ?_⟩
  have hps : pS s ≤ 2000 := by
    have h1 : szK ((d, s) :: r) = 1 + pS s + szK r := by simp only [szK, List.map_cons, pB]
    have h2 : 0 ≤ szK r := Int.le_trans (Int.natCast_nonneg _) (pB_pos _)
    omega
  have hbl : ∀ b ∈ s.blocks, b.length ≤ 2000 := by
    have two : ∀ y n : List Sm, pB y + pB n ≤ 2000 → y.length ≤ 2000 ∧ n.length ≤ 2000 := fun y n hh => by
      have := pB_pos y
      have := pB_pos n
      omega
    intro b hb
    cases s with
    | iff t y n => simp only [pS] at hps; simp [Sm.blocks] at hb; have := two y n hps; rcases hb with rfl | rfl; exact this.1; exact this.2
    | we y n => simp only [pS] at hps; simp [Sm.blocks] at hb; have := two y n hps; rcases hb with rfl | rfl; exact this.1; exact this.2
    | they y n => simp only [pS] at hps; simp [Sm.blocks] at hb; have := two y n hps; rcases hb with rfl | rfl; exact this.1; exact this.2
    | rep k y => simp only [pS] at hps; simp [Sm.blocks] at hb; subst hb; have := pB_pos b; omega
    | _ => simp [Sm.blocks] at hb
  have hb2 : s.blocks.length ≤ 2 := by cases s <;> simp [Sm.blocks]
  refine in_loopE d li _ _ _ _ _ _ _ _ _ s.blocks [] S3 _ hbl (by simp; omega) l3 fun S4 y6 c4 s4 => ?_
  rw [List.nil_append] at s4
  have s4l : S4[l]? = some (.lst (r.reverse.map ent)) := c4.at_ l _ (by omega) (by omega) s3
  have hfl : (s.blocks.flatten.length : Int) ≤ pS s := by
    have e2 : pB s.blocks.flatten = pS s := by cases s <;> simp [Sm.blocks, pS, pB, pB_app]
    rw [← e2]
    exact pB_pos _
  dsimp only
  refine seq_drop _ _ Dd _ S4 ?_
  refine ⟨_, rfl, l, rfl, ⟨_, s4l⟩, _, rfl, li, _, rfl, s4, ?_⟩
  have hrl : (r.length : Int) ≤ 2000 := by
    have h1 : szK ((d, s) :: r) = 1 + pS s + szK r := by simp only [szK, List.map_cons, pB]
    have h2 := pB_pos (r.map (·.2))
    have h3 := pS_pos s
    rw [List.length_map] at h2
    have h4 : szK r = pB (r.map (·.2)) := rfl
    omega
  have l5 : l < S4.length := (List.getElem?_eq_some_iff.mp s4l).1
  refine ⟨_, _, _, rfl, (Ext.new S4 _).at s4l, at_end S4 _, ?_, ?_⟩
  · simp only [List.length_map, List.length_reverse, at_]
    omega
  refine end_asg _ 2 Dd _ _ ⟨_, rfl, ?_⟩
  refine qc hd _ _ _ _ _ ?_ ?_
  · refine ⟨?_, fun m o h1 h2 hm => ?_⟩
    · have := c3.len
      have := c4.len
      rw [List.length_set, List.length_append]
      omega
    · have hml : m < S.length := (List.getElem?_eq_some_iff.mp hm).1
      rw [List.getElem?_set_ne (fun z => h1 z.symm)]
      exact (Ext.new S4 _).at (c4.at_ m o (by omega) (by omega) (c3.at_ m o h1 h2 hm))
  · rw [List.getElem?_set_self (by rw [List.length_append]; omega), List.reverse_append, List.map_append]
    simp
end K23

set_option Elab.async false
set_option linter.all false
set_option maxRecDepth 100000
set_option maxHeartbeats 1000000
namespace K23
open PySem L2 DL
abbrev errC : DT := (dTest (dOp (rdEq not) (dVar 1) (dLst dNil)))
theorem err_loop (x0 : Option D) (l : Nat) (Dd : DEnds) : ∀ (n : Nat) (stk : List (Nat × Sm)) (p : Int) (S : Sto) (x3 x4 x5 x6 x7 x8 x9 x10 : Option D), szK stk < n → szK stk ≤ 2000 → (∀ x ∈ stk, x.2.ok ∧ hS x.2 ≤ 12) → S[l]? = some (.lst (stk.reverse.map ent)) →
    (∀ p1, eK stk p = (p1, true) → ∀ S', Ch l l S S' → Dd.rt (.tup [.int p1, .str "nest"]) S') →
    (∀ p1, eK stk p = (p1, false) → ∀ S' y2 y3 y4 y5 y6, Ch l l S S' → Dd.nx [x0, some (.loc l), y2, y3, y4, y5, y6, x7, x8, x9, x10] S') →
    whileL errC errB n Dd [x0, some (.loc l), some (.int p), x3, x4, x5, x6, x7, x8, x9, x10] S
  | 0, stk, p, S, x3, x4, x5, x6, x7, x8, x9, x10, h, _, _, _, _, _ => by
    have : 0 ≤ szK stk := Int.le_trans (Int.natCast_nonneg _) (pB_pos _)
    exact absurd h (by omega)
  | n + 1, stk, p, S, x3, x4, x5, x6, x7, x8, x9, x10, h, hz, hok, hs, qn, qc => by
    show errC _ _ _
    refine ⟨_, rfl, by simp, ?_⟩
    refine left_test (xs := stk.reverse) ((Ext.new S _).at hs) (at_end S _) (fun x hx => (hok x (List.mem_reverse.mp hx)).2) ⟨_, rfl, ?_⟩
    have s1 := (Ext.new S (Ob.lst [])).at hs
    have c1 : Ch l l S (S ++ [Ob.lst []]) := .ext (.new _ _)
    generalize S ++ [Ob.lst []] = S1 at s1 c1
    cases stk with
    | nil =>
      dsimp only [List.reverse_nil, List.isEmpty, Bool.not_true]
      rw [if_neg (by decide)]
      exact qc p rfl S1 _ _ _ _ _ c1
    | cons x r =>
      obtain ⟨d, s⟩ := x
      have e : (!((d, s) :: r).reverse.isEmpty) = true := by simp
      rw [e]
      dsimp only
      rw [if_pos rfl]
      have hx := hok (d, s) List.mem_cons_self
      refine err_row d s r p hx.1 hx.2 hz S1 l _ _ _ _ _ _ _ _ _ _ s1 (fun hd S' c' => ?_) (fun hd S' y3 y4 y5 y6 c' s' => ?_)
      · exact qn p (by simp [eK, hd]) S' (c1.trans c')
      · have hsz := szK_step (d := d) (s := s) (r := r)
        have ek := eK_step (s := s) (r := r) (p := p) hd
        refine err_loop x0 l Dd n (at_ (d + 1) s.blocks.flatten ++ r) (p + 1) S' _ _ _ _ _ _ _ _ (by omega) (by omega) (fun x hx' => ?_) s' (fun p1 h1 S2 c2 => ?_) (fun p1 h1 S2 y2 y3 y4 y5 y6 c2 => ?_)
        · rcases List.mem_append.mp hx' with hm | hm
          · obtain ⟨y, hy, rfl⟩ := List.mem_map.mp hm
            exact blocks_fine hx.1 hx.2 y hy
          · exact hok x (List.mem_cons_of_mem _ hm)
        · exact qn p1 (by rw [ek]; exact h1) S2 ((c1.trans c').trans c2)
        · exact qc p1 (by rw [ek]; exact h1) S2 _ _ _ _ _ ((c1.trans c').trans c2)
def c__law_error : DSp := fun ds S Q => ∃ b : List Sm, ds = [.tup (dAll b)] ∧ Fine 2000 12 b ∧ Gq Q (resD b) S
theorem len__law_error : ∀ ds S Q, c__law_error ds S Q → ds.length = 1 := by
  rintro ds S Q ⟨b, rfl, _⟩
  rfl
abbrev wordsB : DS := (sIf (dTest (dOp (rdI0 fun i j => .bl (decide (j < i))) (dOp rdIx (dVar 7) (dVar 8)) (dOp rdIx (dLst (dCons (dC (.int 24)) (dCons (dC (.int 30)) (dCons (dC (.int 4)) (dCons (dC (.int 2)) (dCons (dC (.int 2)) dNil)))))) (dVar 8)))) (sRet (dTup (dCons (dC .non) (dCons (dVar 9) dNil)))) sNext)
/-- one bound looked at -/
theorem word_step (S : Sto) (lf : Nat) (a b c d e : Int) (k v m : Int) (w : D) (x0 x1 x2 x3 x4 x5 x6 x10 : Option D) (Dd : DEnds) (h : S[lf]? = some (.lst (vec a b c d e))) (hv : atI (vec a b c d e) k = some (.int v)) (hm : atI (vec 24 30 4 2 2) k = some (.int m))
    (q1 : m < v → ∀ S', Ext S S' → Dd.rt (.tup [.non, w]) S') (q2 : ¬ m < v → ∀ S', Ext S S' → Dd.nx [x0, x1, x2, x3, x4, x5, x6, some (.loc lf), some (.int k), some w, x10] S') :
    wordsB Dd [x0, x1, x2, x3, x4, x5, x6, some (.loc lf), some (.int k), some w, x10] S := by
  refine if_gen _ _ _ Dd _ S ?_
  refine ⟨_, rfl, _, rfl, ixL h hv ?_⟩
  refine ⟨by simp, _, rfl, ixL (at_end S _) hm ⟨v, m, rfl, rfl, _, rfl, ?_⟩⟩
  by_cases hlt : m < v
  · rw [decide_eq_true hlt]
    dsimp only
    rw [if_pos rfl]
    exact ⟨_, rfl, by simp, q1 hlt _ (.new _ _)⟩
  · rw [decide_eq_false hlt]
    dsimp only
    rw [if_neg (by decide)]
    exact q2 hlt _ (.new _ _)
end K23

set_option Elab.async false
set_option linter.all false
set_option maxRecDepth 100000
set_option maxHeartbeats 1000000
namespace K23
open PySem L2 DL
theorem seq_par (i j : Nat) (u : DA) (REST : DS) (Dd : DEnds) (δ : DEnv) (S : Sto) (h : u δ S fun ds S1 => match ds with | [d1, d2] => REST Dd ((δ.set i (some d1)).set j (some d2)) S1 | _ => False) : sSeq (sPar i j u) REST Dd δ S := h
theorem seq_while (c : DT) (tb REST : DS) (Dd : DEnds) (δ : DEnv) (S : Sto) (h : ∃ n, whileL c tb n { Dd with nx := REST Dd } δ S) : sSeq (sWhile c tb) REST Dd δ S := h
theorem eK_top (b : List Sm) : eK (at_ 0 b) 0 = fB b 0 0 := by
  have := eK_app 0 [] b 0
  rw [List.append_nil] at this
  rw [this]
  rcases fB b 0 0 with ⟨p1, _ | _⟩ <;> rfl
def wordL : List D := [.str "places", .str "weight", .str "choices", .str "rests", .str "comparings"]
abbrev lastB : DS := (sSeq (sFor (diEnum (dCons (dLst (dCons (dC (.str "places")) (dCons (dC (.str "weight")) (dCons (dC (.str "choices")) (dCons (dC (.str "rests")) (dCons (dC (.str "comparings")) dNil)))))) dNil)) (gd2 (gdName 8) (gdName 9)) wordsB)
    (sRet (dC .non)))
theorem last_rows (b : List Sm) (p : Int) (hf : fB b 0 0 = (p, false)) (S : Sto) (lf : Nat) (x0 x1 x2 x3 x4 x5 x6 x8 x9 x10 : Option D) (Q : DK) (Dd : DEnds) (hrt : Dd.rt = Q) (h : S[lf]? = some (.lst (vec (pB b) (cW b) (cC b) (cR b) (cL b)))) (q : Gq Q (resD b) S) :
    lastB Dd [x0, x1, x2, x3, x4, x5, x6, some (.loc lf), x8, x9, x10] S := by
  refine for_gen _ _ _ _ Dd _ S ?_
  refine ⟨by simp, S.length, wordL, rfl, at_end S _, ?_⟩
  have st : ∀ S', Ext (S ++ [Ob.lst wordL]) S' → S'[S.length]? = some (.lst wordL) := fun S' e => e.at (at_end S _)
  have q0 := q.up (Ext.new S (Ob.lst wordL))
  have h0 := (Ext.new S (Ob.lst wordL)).at h
  show forL _ _ _ [.tup [.int 0, .str "places"], .tup [.int 1, .str "weight"], .tup [.int 2, .str "choices"], .tup [.int 3, .str "rests"], .tup [.int 4, .str "comparings"]] _ _ (S ++ [Ob.lst wordL])
  generalize S ++ [Ob.lst wordL] = S0 at q0 h0 st
  refine ⟨st _ (.refl _), ?_⟩
  refine word_step S0 lf _ _ _ _ _ 0 (pB b) 24 (.str "places") _ _ _ _ _ _ _ _ _ h0 (atI_0 _ _) (atI_0 _ _) (fun hg S' e' => ?_) (fun hl1 S1 e1 => ?_)
  · have er : resD b = .tup [.non, .str "places"] := by simp [resD, hf, boundW, hg]
    rw [er] at q0
    dsimp only
    rw [hrt]
    exact q0 S' e'
  refine ⟨st _ e1, ?_⟩
  refine word_step S1 lf _ _ _ _ _ 1 (cW b) 30 (.str "weight") _ _ _ _ _ _ _ _ _ (e1.at h0) (atI_1 _ _ _) (atI_1 _ _ _) (fun hg S' e' => ?_) (fun hl2 S2 e2 => ?_)
  · have er : resD b = .tup [.non, .str "weight"] := by simp [resD, hf, boundW, hl1, hg]
    rw [er] at q0
    dsimp only
    rw [hrt]
    exact q0 S' (e1.trans e')
  refine ⟨st _ (e1.trans e2), ?_⟩
  refine word_step S2 lf _ _ _ _ _ 2 (cC b) 4 (.str "choices") _ _ _ _ _ _ _ _ _ ((e1.trans e2).at h0) (atI_2 _ _ _ _) (atI_2 _ _ _ _) (fun hg S' e' => ?_) (fun hl3 S3 e3 => ?_)
  · have er : resD b = .tup [.non, .str "choices"] := by simp [resD, hf, boundW, hl1, hl2, hg]
    rw [er] at q0
    dsimp only
    rw [hrt]
    exact q0 S' ((e1.trans e2).trans e')
  have e123 := (e1.trans e2).trans e3
  refine ⟨st _ e123, ?_⟩
  refine word_step S3 lf _ _ _ _ _ 3 (cR b) 2 (.str "rests") _ _ _ _ _ _ _ _ _ (e123.at h0) (atI_3 _ _ _ _ _) (atI_3 _ _ _ _ _) (fun hg S' e' => ?_) (fun hl4 S4 e4 => ?_)
  · have er : resD b = .tup [.non, .str "rests"] := by simp [resD, hf, boundW, hl1, hl2, hl3, hg]
    rw [er] at q0
    dsimp only
    rw [hrt]
    exact q0 S' (e123.trans e')
  have e1234 := e123.trans e4
  refine ⟨st _ e1234, ?_⟩
  refine word_step S4 lf _ _ _ _ _ 4 (cL b) 2 (.str "comparings") _ _ _ _ _ _ _ _ _ (e1234.at h0) (atI_4 _ _ _ _ _ _) (atI_4 _ _ _ _ _ _) (fun hg S' e' => ?_) (fun hl5 S5 e5 => ?_)
  · have er : resD b = .tup [.non, .str "comparings"] := by simp [resD, hf, boundW, hl1, hl2, hl3, hl4, hg]
    rw [er] at q0
    dsimp only
    rw [hrt]
    exact q0 S' (e1234.trans e')
  refine ⟨st _ (e1234.trans e5), ?_⟩
  have er : resD b = .non := by simp [resD, hf, boundW, hl1, hl2, hl3, hl4, hl5]
  rw [er] at q0
  show Dd.rt .non S5
  rw [hrt]
  exact q0 S5 (e1234.trans e5)
theorem r__law_error : ∀ ds S Q, c__law_error ds S Q → rd__law_error (c__law_counts 5) c_blocks_of c__law_is_statement { nx := fun _ S' => Q .non S', rt := Q } (startD 11 ds) S := by
  rintro ds S Q ⟨b, rfl, f, q⟩
  have hlen := f.len
  show rd__law_error _ _ _ _ [some (.tup (dAll b)), none, none, none, none, none, none, none, none, none, none] S
  unfold rd__law_error
  refine seq_if _ _ _ _ _ _ S ?_
  refine ⟨_, rfl, true, by simp, true, rfl, ?_⟩
  dsimp only
  rw [if_neg (by decide)]
  dsimp only [sNext]
  refine seq_par 1 2 _ _ _ _ S ?_
  simp only [dCons, dNil, dRevL, dLc, diAny, dVar, dC]
  refine ⟨_, rfl, ?_⟩
  have key : ∀ xs : List D, xs = b.map Sm.d → lcL (fun _ => True) 10 S.length dYes (dTup (dCons (dC (.int 0)) (dCons (dVar 10) dNil))) xs ([some (.tup (dAll b)), none, none, none, none, none, none, none, none, none, none].set 10 none) (S ++ [Ob.lst []]) fun x S1 =>
      ∃ i ds, x = .loc i ∧ S1[i]? = some (.lst ds) ∧ (sSeq (sWhile errC errB) (sSeq (sAsg (dCall (c__law_counts 5) (dCons (dVar 0) dNil)) (gdName 7)) lastB)) { nx := fun _ S' => Q .non S', rt := Q } ((([some (.tup (dAll b)), none, none, none, none, none, none, none, none, none, none] : DEnv).set 1 (some (.loc S1.length))).set 2 (some (.int 0))) (S1 ++ [Ob.lst ds.reverse]) := by
    rintro xs rfl
    refine lc_map Sm.d (fun s => ent (0, s)) S S.length 10 _ _ (Nat.le_refl _) b [] _ _ (.new S _) (at_end S _) (by simp; omega) (fun s _ S1 Q1 e1 q1 => ?_) (fun S1 e1 s1 => ?_)
    · simp only [dTup, dCons, dNil, dVar, dC]
      exact ⟨_, rfl, by simp, q1.now⟩
    · refine ⟨_, _, rfl, s1, ?_⟩
      have el : ([] ++ b.map fun s => ent (0, s)).reverse = (at_ 0 b).reverse.map ent := by simp [at_, List.map_reverse]
      rw [el]
      refine seq_while _ _ _ _ _ _ ⟨(pB b).toNat + 1, ?_⟩
      have hb0 := pB_pos b
      have hsz : szK (at_ 0 b) = pB b := by
        unfold szK at_
        rw [List.map_map, show (fun x : Nat × Sm => x.2) ∘ (fun s : Sm => (0, s)) = id from rfl, List.map_id]
      have hall : ∀ b : List Sm, okA b → hB b ≤ 12 → ∀ y ∈ b, y.ok ∧ hS y ≤ 12 := by
        intro b
        induction b with
        | nil => intro _ _ y hy; cases hy
        | cons x r ih =>
          intro h1 h2 y hy
          simp only [okA] at h1
          simp only [hB] at h2
          rcases List.mem_cons.mp hy with rfl | hy
          · exact ⟨h1.1, by omega⟩
          · exact ih h1.2 (by omega) y hy
      have ee : ∀ S', Ch S1.length S1.length (S1 ++ [Ob.lst ((at_ 0 b).reverse.map ent)]) S' → Ext S S' := fun S' c => ext_ch (e1.trans (.new _ _)) e1.len c
      refine err_loop _ S1.length _ _ (at_ 0 b) 0 _ _ _ _ _ _ _ _ _ (by have := f.sz; omega) (by rw [hsz]; exact f.sz) (fun x hx => ?_) (at_end S1 _) (fun p1 hp S' c' => ?_) (fun p1 hp S' y2 y3 y4 y5 y6 c' => ?_)
      · obtain ⟨y, hy, rfl⟩ := List.mem_map.mp hx
        exact hall b f.ok f.ht y hy
      · rw [eK_top] at hp
        have er : resD b = .tup [.int p1, .str "nest"] := by simp [resD, hp]
        rw [er] at q
        exact q S' (ee S' c')
      · rw [eK_top] at hp
        have hf := fB_f b 0 0 p1 hp (by omega)
        dsimp only
        refine seq_asg _ 7 _ _ _ S' ?_
        refine ⟨_, rfl, b, rfl, f.ok, by omega, fun S2 l2 e2 s2 => ?_⟩
        exact last_rows b p1 hp S2 l2 _ _ _ _ _ _ _ _ _ _ Q _ rfl s2 (q.up ((ee S' c').trans e2))
  exact key _ (dAll_map b)
end K23

set_option Elab.async false
set_option linter.all false
set_option maxRecDepth 100000
set_option maxHeartbeats 1000000
namespace K23
open PySem L2 DL
def c__law_up_to : DSp := fun ds S Q => ∃ (i j : Nat) (n : Int), ds = [.loc i] ∧ Dk S i j n ∧ n + 30 ≤ 1000000 ∧ ∀ b S' n', Fine 40 10 b → Dk S' i j n' → n' ≤ n + 30 → Ch i j S S' → Q (.tup (dAll b)) S'
theorem len__law_up_to : ∀ ds S Q, c__law_up_to ds S Q → ds.length = 1 := by
  rintro ds S Q ⟨i, j, n, rfl, _⟩
  rfl
theorem eq_no {w c : Int} (h : w ≠ c) (t REST : DS) (Dd : DEnds) (δ : DEnv) (S : Sto) (hδ : δ[1]? = some (some (.int w))) (hr : REST Dd δ S) : sSeq (sIf (dTest (dOp (rdEq id) (dVar 1) (dC (.int c)))) t sNext) REST Dd δ S := by
  simp only [sSeq, sIf, dTest, dOp, dVar, dC]
  refine ⟨_, hδ, ?_⟩
  simp only [rdEq, scD, decide_eq_false h]
  exact ⟨false, rfl, by simpa using hr⟩
theorem eq_yes {w c : Int} (h : w = c) (E : DE) (REST : DS) (Dd : DEnds) (δ : DEnv) (S : Sto) (hδ : δ[1]? = some (some (.int w))) (hr : E δ S Dd.rt) : sSeq (sIf (dTest (dOp (rdEq id) (dVar 1) (dC (.int c)))) (sRet E) sNext) REST Dd δ S := by
  simp only [sSeq, sIf, dTest, dOp, dVar, dC]
  refine ⟨_, hδ, ?_⟩
  simp only [rdEq, scD, decide_eq_true h]
  exact ⟨true, rfl, by simpa using hr⟩
theorem fine_pays (k : Nat) (h : k ≤ 30) : Fine 30 1 (List.replicate k (Sm.pay .one)) := (fine_rep (m := 30) (c := 1) (by simp [Sm.ok]) (by simp [pS]) (by simp [hS]) k h).mono (by omega) (Nat.le_refl _)
theorem mulT {s : Sm} {k : Int} (h0 : 0 ≤ k) (h1 : k ≤ 2000) {S : Sto} {Q : DK} (q : Q (.tup (dAll (List.replicate k.toNat s))) S) : rdMul (.tup [s.d]) (.int k) S Q := by
  rw [← rep_d] at q
  exact ⟨by simp, h0, h1, by simp, q⟩
theorem pay1_d : (Sm.pay .one).d = .tup [.str "pay", .int 1] := by rw [Sm.d, Ee.d]
theorem fine_one {s : Sm} {K H : Nat} (h : s.ok) (hp : 1 + pS s ≤ K) (hh : hS s + 1 ≤ H) : Fine K H [s] := ⟨by simp only [okA]; exact ⟨h, trivial⟩, by simp only [pB]; omega, by simp only [hB]; omega⟩
abbrev payT : DE := (dTup (dCons (dTup (dCons (dC (.str "pay")) (dCons (dC (.int 1)) dNil))) dNil))
theorem w0 {δ : DEnv} {m : Int} (hδ : δ[2]? = some (some (.int m))) (m0 : 0 ≤ m) (m1 : m < 2) (S : Sto) (Q : DK) (q : ∀ b, Fine 40 10 b → Q (.tup (dAll b)) S) : (dOp rdMul payT (dOp rdAdd (dC (.int 24)) (dVar 2))) δ S Q := by
  simp only [dOp, dTup, dCons, dC, dNil, dVar]
  refine ⟨by simp, by simp, _, hδ, ?_⟩
  simp only [rdAdd]
  rw [← pay1_d]
  exact mulT (by omega) (by omega) (q _ ((fine_pays _ (by omega)).mono (by omega) (by omega)))
theorem w1' {δ : DEnv} {m : Int} (hδ : δ[2]? = some (some (.int m))) (m0 : 0 ≤ m) (m1 : m < 2) (S : Sto) (Q : DK) (q : ∀ b, Fine 40 10 b → Q (.tup (dAll b)) S) :
    (dOp rdAdd (dTup (dCons (dTup (dCons (dC (.str "repeat")) (dCons (dC (.int 4)) (dCons (dOp rdMul payT (dC (.int 6))) dNil)))) dNil)) (dOp rdMul payT (dOp rdAdd (dC (.int 5)) (dVar 2)))) δ S Q := by
  simp only [dOp, dTup, dCons, dC, dNil, dVar]
  refine ⟨by simp, by simp, ?_⟩
  rw [← pay1_d]
  refine mulT (by omega) (by omega) ⟨by simp, by simp, by simp, by simp, _, hδ, ?_⟩
  simp only [rdAdd]
  refine mulT (by omega) (by omega) ⟨by simp [dAll_len]; omega, ?_⟩
  have f1 : Fine 8 2 [.rep 4 (List.replicate 6 (Sm.pay .one))] := fine_one (by simp [Sm.ok, okA, List.replicate]) (by simp [pS, pB, List.replicate]) (by simp [hS, hB, List.replicate])
  have f2 := (fine_pays (5 + m).toNat (by omega)).mono (Nat.le_refl _) (show 1 ≤ 2 by omega)
  have := q _ ((f1.app f2).mono (by omega) (by omega))
  rw [dAll_app] at this
  simp only [dAll, Sm.d] at this ⊢
  exact this
theorem w2' {δ : DEnv} {m : Int} (hδ : δ[2]? = some (some (.int m))) (m0 : 0 ≤ m) (m1 : m < 2) (S : Sto) (Q : DK) (q : ∀ b, Fine 40 10 b → Q (.tup (dAll b)) S) :
    (dTup (dCons (dTup (dCons (dC (.str "repeat")) (dCons (dOp rdAdd (dC (.int 2)) (dVar 2)) (dCons (dTup (dCons (dTup (dCons (dC (.str "if")) (dCons (dTup (dCons (dC (.str "not")) (dCons (dTup (dCons (dC (.str "rest")) (dCons (dC (.str "a")) (dCons (dC (.int 6)) (dCons (dC (.int 5)) dNil))))) dNil))) (dCons (dTup dNil) (dCons (dTup dNil) dNil))))) dNil)) dNil)))) dNil)) δ S Q := by
  simp only [dOp, dTup, dCons, dC, dNil, dVar]
  refine ⟨_, hδ, ?_⟩
  simp only [rdAdd]
  refine ⟨by simp, by simp, by simp, by simp, by simp, by simp, by simp, by simp, ?_⟩
  have := q [.rep (2 + m).toNat [.iff .r2 [] []]] (fine_one (by simp [Sm.ok, okA]; omega) (by simp [pS, pB]) (by simp [hS, hB]))
  simp only [dAll, Sm.d, Tt.d] at this
  rw [show (((2 + m).toNat : Nat) : Int) = 2 + m by omega] at this
  exact this
theorem w3' {δ : DEnv} {m : Int} (hδ : δ[2]? = some (some (.int m))) (m0 : 0 ≤ m) (m1 : m < 2) (S : Sto) (Q : DK) (q : ∀ b, Fine 40 10 b → Q (.tup (dAll b)) S) :
    (dTup (dCons (dTup (dCons (dC (.str "repeat")) (dCons (dOp rdAdd (dC (.int 2)) (dVar 2)) (dCons (dTup (dCons (dTup (dCons (dC (.str "if")) (dCons (dTup (dCons (dC (.str "not")) (dCons (dTup (dCons (dC (.str "less")) (dCons (dC (.str "a")) (dCons (dC (.int 1)) dNil)))) dNil))) (dCons (dTup dNil) (dCons (dTup dNil) dNil))))) dNil)) dNil)))) dNil)) δ S Q := by
  simp only [dOp, dTup, dCons, dC, dNil, dVar]
  refine ⟨_, hδ, ?_⟩
  simp only [rdAdd]
  refine ⟨by simp, by simp, by simp, by simp, by simp, by simp, by simp, by simp, ?_⟩
  have := q [.rep (2 + m).toNat [.iff .l3 [] []]] (fine_one (by simp [Sm.ok, okA]; omega) (by simp [pS, pB]) (by simp [hS, hB]))
  simp only [dAll, Sm.d, Tt.d] at this
  rw [show (((2 + m).toNat : Nat) : Int) = 2 + m by omega] at this
  exact this
theorem w4' {δ : DEnv} {i j : Nat} {n m : Int} (h0 : δ[0]? = some (some (.loc i))) (hδ : δ[2]? = some (some (.int m))) (m0 : 0 ≤ m) (m1 : m < 2) (S : Sto) (Q : DK) (hd : Dk S i j n) (hn : n < 1000000) (q : ∀ b S', Fine 40 10 b → Dk S' i j (n + 1) → Ch i j S S' → Q (.tup (dAll b)) S') :
    (dTup (dCons (dTup (dCons (dC (.str "repeat")) (dCons (dOp rdAdd (dC (.int 4)) (dVar 2)) (dCons (dTup (dCons (dTup (dCons (dCall c__law_one (dCons (dVar 0) (dCons (dLst (dCons (dC (.str "we")) (dCons (dC (.str "they")) dNil))) dNil))) (dCons (dTup dNil) (dCons (dTup dNil) dNil)))) dNil)) dNil)))) dNil)) δ S Q := by
  have lt := hd.lt
  simp only [dOp, dTup, dCons, dC, dNil, dVar, dCall, dLst]
  refine ⟨_, hδ, ?_⟩
  simp only [rdAdd]
  refine ⟨_, h0, by simp, i, j, S.length, n, _, rfl, hd.ext (.new S _), hn, at_end S _, by omega, by omega, by simp, by simp, fun d S' hm d' c' => ?_⟩
  refine ⟨by simp, by simp, by simp, by simp, by simp, by simp, ?_⟩
  have cc : Ch i j S S' := (Ch.ext (.new S _)).trans c'
  simp only [List.mem_cons, List.not_mem_nil, or_false] at hm
  rcases hm with rfl | rfl
  · have := q [.rep (4 + m).toNat [.we [] []]] S' (fine_one (by simp [Sm.ok, okA]; omega) (by simp [pS, pB]) (by simp [hS, hB])) d' cc
    simp only [dAll, Sm.d] at this
    rw [show (((4 + m).toNat : Nat) : Int) = 4 + m by omega] at this
    exact this
  · have := q [.rep (4 + m).toNat [.they [] []]] S' (fine_one (by simp [Sm.ok, okA]; omega) (by simp [pS, pB]) (by simp [hS, hB])) d' cc
    simp only [dAll, Sm.d] at this
    rw [show (((4 + m).toNat : Nat) : Int) = 4 + m by omega] at this
    exact this
theorem we_d : (Sm.we [] []).d = .tup [.str "we", .tup [], .tup []] := by simp only [Sm.d, dAll]
theorem w5' {δ : DEnv} {m : Int} (hδ : δ[2]? = some (some (.int m))) (m0 : 0 ≤ m) (m1 : m < 2) (S : Sto) (Q : DK) (q : ∀ b, Fine 40 10 b → Q (.tup (dAll b)) S) :
    (dTup (dCons (dTup (dCons (dC (.str "we")) (dCons (dTup (dCons (dTup (dCons (dC (.str "they")) (dCons (dTup dNil) (dCons (dTup dNil) dNil)))) dNil)) (dCons (dTup (dCons (dTup (dCons (dC (.str "they")) (dCons (dTup dNil) (dCons (dTup dNil) dNil)))) dNil)) dNil)))) (dCons (dTup (dCons (dC (.str "they")) (dCons (dTup dNil) (dCons (dOp rdMul (dTup (dCons (dTup (dCons (dC (.str "we")) (dCons (dTup dNil) (dCons (dTup dNil) dNil)))) dNil)) (dVar 2)) dNil)))) dNil))) δ S Q := by
  simp only [dOp, dTup, dCons, dC, dNil, dVar]
  refine ⟨by simp, by simp, by simp, by simp, by simp, by simp, by simp, by simp, by simp, by simp, by simp, by simp, by simp, by simp, _, hδ, ?_⟩
  rw [← we_d]
  refine mulT (by omega) (by omega) ⟨by simp, by simp, ?_⟩
  have f1 : Fine 3 2 [.we [.they [] []] [.they [] []]] := fine_one (by simp [Sm.ok, okA]) (by simp [pS, pB]) (by simp [hS, hB])
  have fr := fine_rep (s := .we [] []) (m := 2) (c := 1) (H := 1) (by simp [Sm.ok, okA]) (by simp [pS, pB]) (by simp [hS, hB]) m.toNat (by omega)
  have f2 := f_they fr
  have := q _ ((f1.app (f2.mono (Nat.le_refl _) (by omega))).mono (by omega) (by omega))
  simp only [List.cons_append, List.nil_append, dAll, Sm.d] at this ⊢
  exact this
abbrev oneB : DE := (dCall c__law_one (dCons (dVar 0) (dCons (dLst (dCons (dTup (dCons (dTup (dCons (dC (.str "repeat")) (dCons (dC (.int 1)) (dCons (dVar 3) dNil)))) dNil)) (dCons (dTup (dCons (dTup (dCons (dC (.str "they")) (dCons (dTup dNil) (dCons (dVar 3) dNil)))) dNil)) dNil))) dNil)))
theorem e_oneB {δ : DEnv} {i j : Nat} {b : List Sm} {K H : Nat} (f : Fine K H b) (h0 : δ[0]? = some (some (.loc i))) (h3 : δ[3]? = some (some (.tup (dAll b)))) (S : Sto) (n : Int) (Q : DK) (hd : Dk S i j n) (hn : n < 1000000)
    (q : ∀ b' S', Fine (K + 1) (H + 1) b' → Dk S' i j (n + 1) → Ch i j S S' → Q (.tup (dAll b')) S') : oneB δ S Q := by
  have lt := hd.lt
  simp only [oneB, dTup, dCons, dC, dNil, dCall, dVar, dLst]
  refine ⟨_, h0, _, h3, by simp, by simp, by simp, _, h3, by simp, by simp, by simp, i, j, S.length, n, _, rfl, hd.ext (.new S _), hn, at_end S _, by omega, by omega, by simp, by simp, fun d S' hm d' c' => ?_⟩
  have cc : Ch i j S S' := (Ch.ext (.new S _)).trans c'
  simp only [List.mem_cons, List.not_mem_nil, or_false] at hm
  rcases hm with rfl | rfl
  · have := q [.rep 1 b] S' (f_rep f 1 (by omega) (by omega)) d' cc
    simp only [dAll, Sm.d] at this
    exact this
  · have := q [.they [] b] S' (f_they f) d' cc
    simp only [dAll, Sm.d] at this
    exact this
theorem up_loop {i j : Nat} (Dd : DEnds) (x1 x2 : Option D) : ∀ (xs : List D) (b : List Sm) (K H : Nat) (S : Sto) (n : Int) (x4 : Option D), Fine K H b → Dk S i j n → n + xs.length ≤ 1000000 →
    (∀ b' S' n' y4, Fine (K + xs.length) (H + xs.length) b' → Dk S' i j n' → n' ≤ n + xs.length → Ch i j S S' → Dd.nx [some (.loc i), x1, x2, some (.tup (dAll b')), y4] S') →
    forL (fun _ => True) (gdName 4) (sAsg oneB (gdName 3)) xs Dd [some (.loc i), x1, x2, some (.tup (dAll b)), x4] S
  | [], b, K, H, S, n, x4, f, hd, _, q => ⟨trivial, q b S n _ (f.mono (by simp) (by simp)) hd (by simp) (.refl _ _ _)⟩
  | x :: xs, b, K, H, S, n, x4, f, hd, hn, q => by
    rw [List.length_cons] at hn
    refine ⟨trivial, ?_⟩
    refine end_asg oneB 3 _ _ S (e_oneB f rfl rfl S n _ hd (by omega) fun b1 S1 f1 d1 c1 => ?_)
    refine up_loop Dd x1 x2 xs b1 (K + 1) (H + 1) S1 (n + 1) _ f1 d1 (by omega) fun b' S' n' y4 f' d' hn' c' => ?_
    exact q b' S' n' y4 (f'.mono (by rw [List.length_cons]; omega) (by rw [List.length_cons]; omega)) d' (by rw [List.length_cons]; omega) (c1.trans c')
theorem seq_par2 (i j : Nat) (u : DA) (REST : DS) (Dd : DEnds) (δ : DEnv) (S : Sto) (h : u δ S fun ds S1 => match ds with | [d1, d2] => REST Dd ((δ.set i (some d1)).set j (some d2)) S1 | _ => False) : sSeq (sPar i j u) REST Dd δ S := h
theorem r__law_up_to : ∀ ds S Q, c__law_up_to ds S Q → rd__law_up_to c__law_one c__law_draw { nx := fun _ S' => Q .non S', rt := Q } (startD 5 ds) S := by
  rintro ds S Q ⟨i, j, n, rfl, hd, hn, q⟩
  show rd__law_up_to _ _ _ [some (.loc i), none, none, none, none] S
  unfold rd__law_up_to
  refine seq_par2 1 2 _ _ _ _ S ?_
  simp only [dCons, dNil]
  refine draw_gen (δ := [some (.loc i), none, none, none, none]) rfl hd (by omega) (by decide) (by decide) fun w S1 a0 a1 d1 c1 => ?_
  refine draw_gen (δ := [some (.loc i), none, none, none, none]) rfl d1 (by omega) (by decide) (by decide) fun m S2 m0 m1 d2 c2 => ?_
  dsimp only [List.set]
  have cc := c1.trans c2
  have q2 : ∀ b, Fine 40 10 b → Q (.tup (dAll b)) S2 := fun b f => q b S2 _ f d2 (by omega) cc
  have hw : w = 0 ∨ w = 1 ∨ w = 2 ∨ w = 3 ∨ w = 4 ∨ w = 5 ∨ w = 6 := by omega
  rcases hw with rfl | rfl | rfl | rfl | rfl | rfl | rfl
  · exact eq_yes rfl _ _ _ _ S2 rfl (w0 rfl m0 m1 S2 _ q2)
  · refine eq_no (by decide) _ _ _ _ S2 rfl ?_
    exact eq_yes rfl _ _ _ _ S2 rfl (w1' rfl m0 m1 S2 _ q2)
  · refine eq_no (by decide) _ _ _ _ S2 rfl ?_
    refine eq_no (by decide) _ _ _ _ S2 rfl ?_
    exact eq_yes rfl _ _ _ _ S2 rfl (w2' rfl m0 m1 S2 _ q2)
  · refine eq_no (by decide) _ _ _ _ S2 rfl ?_
    refine eq_no (by decide) _ _ _ _ S2 rfl ?_
    refine eq_no (by decide) _ _ _ _ S2 rfl ?_
    exact eq_yes rfl _ _ _ _ S2 rfl (w3' rfl m0 m1 S2 _ q2)
  · refine eq_no (by decide) _ _ _ _ S2 rfl ?_
    refine eq_no (by decide) _ _ _ _ S2 rfl ?_
    refine eq_no (by decide) _ _ _ _ S2 rfl ?_
    refine eq_no (by decide) _ _ _ _ S2 rfl ?_
    exact eq_yes rfl _ _ _ _ S2 rfl (w4' (i := i) (j := j) rfl rfl m0 m1 S2 _ d2 (by omega) fun b S' f d' c' => q b S' _ f d' (by omega) (cc.trans c'))
  · refine eq_no (by decide) _ _ _ _ S2 rfl ?_
    refine eq_no (by decide) _ _ _ _ S2 rfl ?_
    refine eq_no (by decide) _ _ _ _ S2 rfl ?_
    refine eq_no (by decide) _ _ _ _ S2 rfl ?_
    refine eq_no (by decide) _ _ _ _ S2 rfl ?_
    exact eq_yes rfl _ _ _ _ S2 rfl (w5' rfl m0 m1 S2 _ q2)
  · refine eq_no (by decide) _ _ _ _ S2 rfl ?_
    refine eq_no (by decide) _ _ _ _ S2 rfl ?_
    refine eq_no (by decide) _ _ _ _ S2 rfl ?_
    refine eq_no (by decide) _ _ _ _ S2 rfl ?_
    refine eq_no (by decide) _ _ _ _ S2 rfl ?_
    refine eq_no (by decide) _ _ _ _ S2 rfl ?_
    refine seq_asg _ 3 _ _ _ S2 ⟨by simp, by simp, ?_⟩
    dsimp only [List.set]
    refine for_gen _ _ _ _ _ _ S2 ?_
    refine ⟨_, rfl, 3 + m, rfl, by omega, by omega, ?_⟩
    have hlen : (rangeD 0 (3 + m).toNat).length ≤ 4 := by
      unfold rangeD
      rw [List.length_map, List.length_range]
      omega
    have f0 : Fine 1 1 [Sm.pay .a] := fine_one (by simp [Sm.ok]) (by simp [pS]) (by simp [hS])
    have e0 : ([D.tup [D.str (Str.ofString "pay"), D.str (Str.ofString "a")]] : List D) = dAll [Sm.pay .a] := by simp only [dAll, Sm.d, Ee.d]
    rw [e0]
    refine up_loop _ _ _ (rangeD 0 (3 + m).toNat) [Sm.pay .a] 1 1 S2 _ _ f0 d2 (by omega) fun b' S' n' y4 f' d' hn' c' => ?_
    exact ⟨_, rfl, q b' S' n' (f'.mono (by omega) (by omega)) d' (by omega) (cc.trans c')⟩
end K23

set_option Elab.async false
set_option linter.all false
set_option maxRecDepth 100000
set_option maxHeartbeats 1000000
namespace K23
open PySem L2 DL
/-! ### what is shown -/
structure RD (d : D) : Prop where
  ex : ∃ P : PyData, (∀ S, PyOf S d P) ∧ P.showable = true ∧ P.hasDict = false ∧ P.shown.length ≤ sizeLine ∧ P.depth ≤ 60
theorem nest_len : ∀ p : Nat, p < 300 → (PyData.tuple [.int (p : Int), .str "nest"]).shown.length ≤ sizeLine := by decide +kernel
theorem small_log : ∀ p : Nat, p < 300 → ((p : Int)).natAbs.log2 < 1920 := by decide +kernel
theorem int_len : ∀ p : Nat, p < 300 → (PyData.int (p : Int)).shown.length ≤ sizeLine := by decide +kernel
theorem rd_nest (p : Int) (h0 : 0 ≤ p) (h1 : p < 300) : RD (.tup [.int p, .str "nest"]) := by
  obtain ⟨m, rfl⟩ := Int.eq_ofNat_of_zero_le h0
  have hm : m < 300 := by omega
  refine ⟨.tuple [.int (m : Int), .str "nest"], fun S => .tup (.cons (.int _) (.cons (.str _) .nil)), ?_, ?_, nest_len m hm, ?_⟩
  · simp [PyData.showable, PyData.showableAll]
    exact small_log m hm
  · simp [PyData.hasDict, PyData.hasDictAll]
  · simp [PyData.depth, PyData.depthAll]
theorem rd_int (p : Int) (h0 : 0 ≤ p) (h1 : p < 300) : RD (.int p) := by
  obtain ⟨m, rfl⟩ := Int.eq_ofNat_of_zero_le h0
  have hm : m < 300 := by omega
  refine ⟨.int (m : Int), fun S => .int _, ?_, ?_, int_len m hm, ?_⟩
  · simp [PyData.showable]
    exact small_log m hm
  · simp [PyData.hasDict]
  · simp [PyData.depth]
theorem rd_non : RD .non := ⟨.none, fun S => .non, by decide +kernel, by decide +kernel, by decide +kernel, by decide +kernel⟩
theorem rd_word (w : String) (h : w = "places" ∨ w = "weight" ∨ w = "choices" ∨ w = "rests" ∨ w = "comparings") : RD (.tup [.non, .str w]) := by
  refine ⟨.tuple [.none, .str w], fun S => .tup (.cons .non (.cons (.str _) .nil)), ?_, ?_, ?_, ?_⟩
  · simp [PyData.showable, PyData.showableAll]
  · simp [PyData.hasDict, PyData.hasDictAll]
  · rcases h with rfl | rfl | rfl | rfl | rfl <;> decide +kernel
  · simp [PyData.depth, PyData.depthAll]
mutual
theorem fS_le : ∀ (s : Sm) (p : Int) (d : Nat), p ≤ (fS s p d).1 ∧ (fS s p d).1 ≤ p + pS s
  | .iff _ y n, p, d => by
    have h1 := fB_le y p d
    simp only [fS, pS]
    cases e : fB y p d with
    | mk p1 k =>
      rw [e] at h1
      have h2 := fB_le n p1 d
      have hn := pB_pos n
      cases k <;> simp only at h1 h2 ⊢ <;> omega
  | .we y n, p, d => by
    have h1 := fB_le y p d
    simp only [fS, pS]
    cases e : fB y p d with
    | mk p1 k =>
      rw [e] at h1
      have h2 := fB_le n p1 d
      have hn := pB_pos n
      cases k <;> simp only at h1 h2 ⊢ <;> omega
  | .they y n, p, d => by
    have h1 := fB_le y p d
    simp only [fS, pS]
    cases e : fB y p d with
    | mk p1 k =>
      rw [e] at h1
      have h2 := fB_le n p1 d
      have hn := pB_pos n
      cases k <;> simp only at h1 h2 ⊢ <;> omega
  | .rep _ b, p, d => by
    have h1 := fB_le b p d
    simp only [fS, pS]
    exact h1
  | .pay _, p, d => by simp [fS, pS]
  | .set, p, d => by simp [fS, pS]
  | .stop, p, d => by simp [fS, pS]
theorem fB_le : ∀ (b : List Sm) (p : Int) (d : Nat), p ≤ (fB b p d).1 ∧ (fB b p d).1 ≤ p + pB b
  | [], p, d => by simp [fB, pB]
  | s :: r, p, d => by
    have h1 := fS_le s (p + 1) (d + 1)
    have hr := pB_pos r
    have hs := pS_pos s
    simp only [fB, pB]
    by_cases h : 3 < d
    · rw [if_pos h]
      simp only
      omega
    · rw [if_neg h]
      cases e : fS s (p + 1) (d + 1) with
      | mk p1 k =>
        rw [e] at h1
        have h2 := fB_le r p1 d
        cases k <;> simp only at h1 h2 ⊢ <;> omega
end
mutual
theorem iS_nn (κ : Sm → Bool) : ∀ s : Sm, 0 ≤ iS κ s
  | .iff _ y n => by have h1 := cB_nn κ y; have h2 := cB_nn κ n; simp only [iS]; omega
  | .we y n => by have h1 := cB_nn κ y; have h2 := cB_nn κ n; simp only [iS]; omega
  | .they y n => by have h1 := cB_nn κ y; have h2 := cB_nn κ n; simp only [iS]; omega
  | .rep k b => by have h1 := cB_nn κ b; simp only [iS]; exact Int.mul_nonneg (by omega) h1
  | .pay _ => by simp [iS]
  | .set => by simp [iS]
  | .stop => by simp [iS]
theorem cB_nn (κ : Sm → Bool) : ∀ b : List Sm, 0 ≤ cB κ b
  | [] => by simp [cB]
  | s :: r => by
    have h1 := iS_nn κ s
    have h2 := cB_nn κ r
    simp only [cB]
    split <;> omega
end
theorem rd_res {b : List Sm} (h : pB b < 300) : RD (resD b) := by
  unfold resD
  cases e : fB b 0 0 with
  | mk p k =>
    have hl := fB_le b 0 0
    rw [e] at hl
    cases k with
    | true => exact rd_nest p hl.1 (by have := hl.2; simp only at this; omega)
    | false =>
      simp only
      cases hb : boundW b with
      | none => exact rd_non
      | some w =>
        refine rd_word w ?_
        unfold boundW at hb
        repeat' split at hb
        all_goals first | (cases hb; simp) | cases hb
end K23

set_option Elab.async false
set_option linter.all false
set_option maxRecDepth 100000
set_option maxHeartbeats 1000000
namespace K23
open PySem L2 DL
theorem rep1 {d : D} (r : RD d) : ∃ x : Str, ∀ (S : Sto) (Q : DK), Q (.str x) S → rdRepr [d] S Q := by
  obtain ⟨P, h1, h2, h3, h4, h5⟩ := r.ex
  exact ⟨P.shown, fun S Q q => ⟨d, P, rfl, h1 S, h2, h3, h4, h5, q⟩⟩
theorem eqS (f : Bool → Bool) (x : Str) (S : Sto) (Q : DK) (q : Q (.bl (f true)) S) : rdEq f (.str x) (.str x) S Q := by
  show Q (.bl (f (decide (x = x)))) S
  rw [decide_eq_true rfl]
  exact q
/-- repr(A) != repr(B), both the same data -/
theorem ne_reprs (A B : DA) (f : Bool → Bool) (d : D) (r : RD d) (δ : DEnv) (S : Sto) (Q : DK)
    (hA : ∀ Q1 : List D → Sto → Prop, (∀ S1, Ext S S1 → Q1 [d] S1) → A δ S Q1) (hB : ∀ S1, Ext S S1 → ∀ Q1 : List D → Sto → Prop, (∀ S2, Ext S1 S2 → Q1 [d] S2) → B δ S1 Q1)
    (q : ∀ S1, Ext S S1 → Q (.bl (f true)) S1) : dOp (rdEq f) (dCB rdRepr A) (dCB rdRepr B) δ S Q := by
  obtain ⟨x, hx⟩ := rep1 r
  refine hA _ fun S1 e1 => hx S1 _ ?_
  exact hB S1 e1 _ fun S2 e2 => hx S2 _ (eqS f x S2 Q (q S2 (e1.trans e2)))
theorem ne_reprsP (Pr : Sto → Prop) (A B : DA) (f : Bool → Bool) (d : D) (r : RD d) (δ : DEnv) (S : Sto) (Q : DK)
    (hA : ∀ Q1 : List D → Sto → Prop, (∀ S1, Pr S1 → Q1 [d] S1) → A δ S Q1) (hB : ∀ S1, Pr S1 → ∀ Q1 : List D → Sto → Prop, Q1 [d] S1 → B δ S1 Q1)
    (q : ∀ S1, Pr S1 → Q (.bl (f true)) S1) : dOp (rdEq f) (dCB rdRepr A) (dCB rdRepr B) δ S Q := by
  obtain ⟨x, hx⟩ := rep1 r
  refine hA _ fun S1 e1 => hx S1 _ ?_
  exact hB S1 e1 _ (hx S1 _ (eqS f x S1 Q (q S1 e1)))
abbrev valB : DS := (sSeq (sAsg (dCall c__law_error (dCons (dVar 4) dNil)) (gdName 5))
    (sSeq (sIf (dTest (dOp (rdEq not) (dCB rdRepr (dCons (dCall c_program_error (dCons (dVar 4) dNil)) dNil)) (dCB rdRepr (dCons (dVar 5) dNil)))) (sRet (dC (.bl false))) sNext)
    (sIf (dAnd (dTest (dOp (rdIsN id) (dVar 5) (dC .non))) (dTest (dOp (rdEq not) (dCB rdRepr (dCons (dCall c_weight (dCons (dVar 4) dNil)) dNil)) (dCB rdRepr (dCons (dOp rdIx (dCall (c__law_counts 5) (dCons (dVar 4) dNil)) (dC (.int 1))) dNil))))) (sRet (dC (.bl false))) sNext)))
theorem res_non {b : List Sm} (h : isNonD (resD b) = true) : fB b 0 0 = ((fB b 0 0).1, false) ∧ boundW b = none := by
  unfold resD at h
  cases e : fB b 0 0 with
  | mk p k =>
    rw [e] at h
    cases k with
    | true => simp [isNonD] at h
    | false =>
      refine ⟨rfl, ?_⟩
      cases hb : boundW b with
      | none => rfl
      | some w => rw [hb] at h; simp [isNonD] at h
theorem cW_le {b : List Sm} (h : boundW b = none) : cW b ≤ 30 := by
  unfold boundW at h
  by_cases h1 : 24 < pB b
  · rw [if_pos h1] at h; cases h
  · rw [if_neg h1] at h
    by_cases h2 : 30 < cW b
    · rw [if_pos h2] at h; cases h
    · omega
theorem val_step (b : List Sm) (f : Fine 200 10 b) (Dd : DEnds) (x0 x1 x2 x3 x5 : Option D) (S : Sto) (q : ∀ S', Ext S S' → Dd.nx [x0, x1, x2, x3, some (.tup (dAll b)), some (resD b)] S') :
    valB Dd [x0, x1, x2, x3, some (.tup (dAll b)), x5] S := by
  have rr : RD (resD b) := rd_res (by have := f.sz; omega)
  refine seq_asg _ 5 _ _ _ S ?_
  refine ⟨_, rfl, b, rfl, f.mono (by omega) (by omega), fun S1 e1 => ?_⟩
  show sSeq _ _ Dd [x0, x1, x2, x3, some (.tup (dAll b)), some (resD b)] S1
  refine seq_if _ _ _ _ _ _ S1 ?_
  refine ne_reprs _ _ not (resD b) rr _ S1 _ (fun Q1 q1 => ?_) (fun S2 e2 Q1 q1 => ?_) (fun S2 e2 => ?_)
  · exact ⟨_, rfl, b, rfl, f.ok, fun S2 e2 => q1 S2 e2⟩
  · exact ⟨_, rfl, q1 S2 (.refl _)⟩
  refine ⟨false, rfl, ?_⟩
  dsimp only
  rw [if_neg (by decide)]
  dsimp only [sNext]
  refine if_gen _ _ _ _ _ S2 ?_
  refine ⟨_, rfl, rfl, _, rfl, ?_⟩
  cases hn : isNonD (resD b) with
  | false =>
    dsimp only [id]
    rw [if_neg (by decide), if_neg (by decide)]
    exact q S2 (e1.trans e2)
  | true =>
    dsimp only [id]
    rw [if_pos rfl]
    obtain ⟨hf, hb⟩ := res_non hn
    have hh := fB_f b 0 0 _ hf (by omega)
    have h0 := cB_nn (kin kAll) b
    have h1 := cW_le hb
    refine ne_reprs _ _ not (.int (cW b)) (rd_int _ h0 (by omega)) _ S2 _ (fun Q1 q1 => ?_) (fun S3 e3 Q1 q1 => ?_) (fun S3 e3 => ?_)
    · exact ⟨_, rfl, b, rfl, f.ok, by omega, fun S3 e3 => q1 S3 e3⟩
    · exact ⟨_, rfl, b, rfl, f.ok, by omega, fun S4 l e4 s4 => ⟨_, _, s4, atI_1 _ _ _, q1 S4 e4⟩⟩
    refine ⟨false, rfl, ?_⟩
    dsimp only
    rw [if_neg (by decide)]
    exact q S3 ((e1.trans e2).trans e3)
theorem vals_loop (l : Nat) (Dd : DEnds) (x0 x1 x2 x3 : Option D) (ds : List D) : ∀ (bs : List (List Sm)) (S : Sto) (x4 x5 : Option D), (∀ b ∈ bs, Fine 200 10 b) → S[l]? = some (.lst ds) →
    (∀ S' y4 y5, Ext S S' → Dd.nx [x0, x1, x2, x3, y4, y5] S') →
    forL (fun S => S[l]? = some (.lst ds)) (gdName 4) valB (bs.map fun b => .tup (dAll b)) Dd [x0, x1, x2, x3, x4, x5] S
  | [], S, x4, x5, _, s, q => ⟨s, q S _ _ (.refl _)⟩
  | b :: bs, S, x4, x5, h, s, q => by
    refine ⟨s, ?_⟩
    refine val_step b (h b List.mem_cons_self) _ x0 x1 x2 x3 x5 S fun S' e => ?_
    exact vals_loop l Dd x0 x1 x2 x3 ds bs S' _ _ (fun y hy => h y (List.mem_cons_of_mem _ hy)) (e.at s) fun S2 y4 y5 e2 => q S2 y4 y5 (e.trans e2)
theorem part1 {i j : Nat} {n : Int} {δ : DEnv} {S : Sto} {Q : DK} (h1 : δ[1]? = some (some (.loc i))) (hd : Dk S i j n) (hn : n + 30 ≤ 1000000) (q : ∀ b S' n', Fine 130 10 b → Dk S' i j n' → n' ≤ n + 30 → Ch i j S S' → Q (.tup (dAll b)) S') :
    dCall c__law_part (dCons (dVar 1) dNil) δ S Q := ⟨_, h1, i, j, n, rfl, hd, hn, q⟩
theorem upto1 {i j : Nat} {n : Int} {δ : DEnv} {S : Sto} {Q : DK} (h1 : δ[1]? = some (some (.loc i))) (hd : Dk S i j n) (hn : n + 30 ≤ 1000000) (q : ∀ b S' n', Fine 40 10 b → Dk S' i j n' → n' ≤ n + 30 → Ch i j S S' → Q (.tup (dAll b)) S') :
    dCall c__law_up_to (dCons (dVar 1) dNil) δ S Q := ⟨_, h1, i, j, n, rfl, hd, hn, q⟩
theorem add_b {a b : List Sm} {S : Sto} {Q : DK} (fa : Fine 130 10 a) (fb : Fine 130 10 b) (q : Q (.tup (dAll (a ++ b))) S) : rdAdd (.tup (dAll a)) (.tup (dAll b)) S Q := by
  have h1 := fa.len
  have h2 := fb.len
  rw [dAll_app] at q
  exact ⟨by rw [dAll_len, dAll_len]; omega, q⟩
theorem for_end (di : DI) (g : DG) (tb : DS) (Dd : DEnds) (δ : DEnv) (S : Sto) (h : di δ S fun items st S1 => forL st g tb items Dd δ S1) : sFor di g tb Dd δ S := h
abbrev turnB : DS := (sSeq (sAsg (dCall c__law_part (dCons (dVar 1) dNil)) (gdName 3))
    (sFor (diAny (dLst (dCons (dVar 3) (dCons (dCall c__law_up_to (dCons (dVar 1) dNil)) (dCons (dOp rdAdd (dVar 3) (dCall c__law_up_to (dCons (dVar 1) dNil))) (dCons (dOp rdAdd (dCall c__law_up_to (dCons (dVar 1) dNil)) (dCall c__law_part (dCons (dVar 1) dNil))) dNil)))))) (gdName 4) valB))
theorem turns_loop {i j : Nat} (Dd : DEnds) (x0 : Option D) : ∀ (xs : List D) (S : Sto) (n : Int) (x2 x3 x4 x5 : Option D), Dk S i j n → n + 150 * xs.length ≤ 1000000 →
    (∀ S' y2 y3 y4 y5, Dd.nx [x0, some (.loc i), y2, y3, y4, y5] S') →
    forL (fun _ => True) (gdName 2) turnB xs Dd [x0, some (.loc i), x2, x3, x4, x5] S
  | [], S, n, x2, x3, x4, x5, hd, hn, q => ⟨trivial, q S _ _ _ _⟩
  | x :: xs, S, n, x2, x3, x4, x5, hd, hn, q => by
    rw [List.length_cons] at hn
    refine ⟨trivial, ?_⟩
    show turnB _ [x0, some (.loc i), some x, x3, x4, x5] S
    refine seq_asg _ 3 _ _ _ S (part1 rfl hd (by omega) fun p S1 n1 fp d1 h1 c1 => ?_)
    show sFor _ _ _ _ [x0, some (.loc i), some x, some (.tup (dAll p)), x4, x5] S1
    refine for_end _ _ _ _ _ S1 ?_
    refine ⟨_, rfl, ?_⟩
    refine upto1 (δ := [x0, some (.loc i), some x, some (.tup (dAll p)), x4, x5]) rfl d1 (by omega) fun u S2 n2 fu d2 h2 c2 => ?_
    refine ⟨_, rfl, ?_⟩
    refine upto1 (δ := [x0, some (.loc i), some x, some (.tup (dAll p)), x4, x5]) rfl d2 (by omega) fun v S3 n3 fv d3 h3 c3 => ?_
    refine add_b fp (fv.mono (by omega) (by omega)) ?_
    refine upto1 (δ := [x0, some (.loc i), some x, some (.tup (dAll p)), x4, x5]) rfl d3 (by omega) fun r S4 n4 fr d4 h4 c4 => ?_
    refine part1 (δ := [x0, some (.loc i), some x, some (.tup (dAll p)), x4, x5]) rfl d4 (by omega) fun s S5 n5 fs d5 h5 c5 => ?_
    refine add_b (fr.mono (by omega) (by omega)) fs ?_
    refine ⟨by simp, _, at_end S5 _, ?_⟩
    refine vals_loop S5.length _ _ _ _ _ _ [p, u, p ++ v, r ++ s] _ _ _ (fun b hb => ?_) (at_end S5 _) fun S6 y4 y5 e6 => ?_
    · simp only [List.mem_cons, List.not_mem_nil, or_false] at hb
      rcases hb with rfl | rfl | rfl | rfl
      · exact fp.mono (by omega) (by omega)
      · exact fu.mono (by omega) (by omega)
      · exact (fp.app fv).mono (by omega) (by omega)
      · exact (fr.app fs).mono (by omega) (by omega)
    · exact turns_loop Dd x0 xs S6 n5 _ _ _ _ (d5.ext (Ext.trans (.new _ _) e6)) (by omega) q
theorem pays_pB : ∀ k : Nat, pB (List.replicate k (Sm.pay .one)) = (k : Int)
  | 0 => by simp [pB]
  | k + 1 => by
    have := pays_pB k
    simp only [List.replicate_succ, pB, pS, this]
    omega
theorem pays_fB : ∀ (k : Nat) (p : Int), (fB (List.replicate k (Sm.pay .one)) p 0).2 = false
  | 0, p => by simp [fB]
  | k + 1, p => by
    have := pays_fB k (p + 1)
    simp only [List.replicate_succ, fB, fS, if_neg (show ¬ 3 < 0 by omega)]
    exact this
theorem pays_ok : ∀ k : Nat, okA (List.replicate k (Sm.pay .one))
  | 0 => by simp [okA]
  | k + 1 => by
    simp only [List.replicate_succ, okA, Sm.ok]
    exact ⟨trivial, pays_ok k⟩
theorem pays_res (k : Nat) (h : 24 < k) : resD (List.replicate k (Sm.pay .one)) = .tup [.non, .str "places"] := by
  have h1 := pays_fB k 0
  have h2 : boundW (List.replicate k (Sm.pay .one)) = some "places" := by
    unfold boundW
    rw [pays_pB, if_pos (by omega)]
  unfold resD
  cases e : fB (List.replicate k (Sm.pay .one)) 0 0 with
  | mk p f =>
    rw [e] at h1
    cases h1
    simp only [h2]
theorem res_nil : resD [] = .non := by
  have : boundW [] = none := by simp [boundW, pB, cW, cC, cR, cL, cB]
  simp [resD, fB, this]
theorem len_law : ∀ ds S Q, c_law ds S Q → ds.length = 1 := by
  rintro ds S Q ⟨ns, rfl, _⟩
  rfl
theorem draw1 {i j : Nat} {n m : Int} {δ : DEnv} {S : Sto} {Q : DK} (h0 : δ[1]? = some (some (.loc i))) (hd : Dk S i j n) (hn : n < 1000000) (hm : 0 < m) (hm2 : m ≤ 1000000000) (q : ∀ k S', 0 ≤ k → k < m → Dk S' i j (n + 1) → Q (.int k) S') :
    dCall c__law_draw (dCons (dVar 1) (dCons (dC (.int m)) dNil)) δ S Q := ⟨_, h0, i, j, n, m, rfl, hd, hn, hm, hm2, fun k S' a b c _ _ => q k S' a b c⟩
abbrev firstE : DE := (dCall c_program_error (dCons (dOp rdMul payT (dOp rdAdd (dC (.int 1000)) (dCall c__law_draw (dCons (dVar 1) (dCons (dC (.int 200)) dNil))))) dNil))
theorem first_e {i j : Nat} {δ : DEnv} {S : Sto} {Q : DK} (h0 : δ[1]? = some (some (.loc i))) (hd : Dk S i j 0) (q : ∀ S', Dk S' i j 1 → Q (.tup [.non, .str "places"]) S') : firstE δ S Q := by
  refine ⟨by simp, by simp, ?_⟩
  refine draw1 h0 hd (by omega) (by decide) (by decide) fun k S1 k0 k1 d1 => ?_
  simp only [rdAdd, dNil]
  rw [← pay1_d]
  refine mulT (by omega) (by omega) ⟨_, rfl, pays_ok _, ?_⟩
  rw [pays_res _ (by omega)]
  exact fun S2 e2 => q S2 (d1.ext e2)
theorem words_0 : PyData.shown (.int 0) = "0" := by decide +kernel
theorem r_law : ∀ ds S Q, c_law ds S Q → rd_law c_program_error c_weight c__law_up_to c__law_part (c__law_counts 5) c__law_error c__law_draw c__law_deck { nx := fun _ S' => Q .non S', rt := Q } (startD 6 ds) S := by
  rintro ds S Q ⟨ns, rfl, hn, q⟩
  show rd_law _ _ _ _ _ _ _ _ _ [some (.scr ns), none, none, none, none, none] S
  unfold rd_law
  refine seq_asg _ 1 _ _ _ S ⟨_, rfl, ns, rfl, hn, fun S1 i j e1 d1 => ?_⟩
  show sSeq _ _ _ [some (.scr ns), some (.loc i), none, none, none, none] S1
  refine seq_if _ _ _ _ _ _ S1 ?_
  refine ne_reprsP (fun S' => Dk S' i j 1) _ _ not _ (rd_word "places" (.inl rfl)) _ S1 _ (fun Q1 q1 => ?_) (fun S2 d2 Q1 q1 => ?_) (fun S2 d2 => ⟨false, rfl, ?_⟩)
  · exact first_e (δ := [some (.scr ns), some (.loc i), none, none, none, none]) rfl d1 q1
  · exact ⟨by simp, q1⟩
  dsimp only
  rw [if_neg (by decide)]
  dsimp only [sNext]
  refine for_gen _ _ _ _ _ _ S2 ⟨8, rfl, by decide, by decide, ?_⟩
  refine turns_loop _ _ _ S2 1 _ _ _ _ d2 (by simp [rangeD]) fun S3 y2 y3 y4 y5 => ?_
  refine ⟨by simp, [], rfl, trivial, fun S4 e4 => ?_⟩
  rw [res_nil]
  refine ⟨rfl, true, rfl, ?_⟩
  rw [if_pos rfl]
  refine ⟨by simp, [], rfl, trivial, by simp [hB], fun S5 e5 => ?_⟩
  have e0 : cW [] = 0 := by simp [cW, cB]
  rw [e0]
  obtain ⟨P, h1, h2, h3, h4, h5⟩ := (rd_int 0 (by omega) (by omega)).ex
  refine ⟨_, .int 0, rfl, .int 0, by decide +kernel, by decide +kernel, by decide +kernel, by decide +kernel, ?_⟩
  rw [words_0]
  exact eqS id _ S5 Q (q S5)
end K23

set_option Elab.async false
set_option linter.all false
set_option maxRecDepth 100000
set_option maxHeartbeats 1000000
namespace K23
open PySem L2 DL
theorem r_fault_b {c0 : DSp} : ∀ ds S Q, c_fault_in 1 ds S Q → rd_fault_in c_blocks_of c0 c_is_statement { nx := fun _ S' => Q .non S', rt := Q } (startD 6 ds) S := by
  rintro ds S Q ⟨b, p, d, rfl, hok, hj, q⟩
  simp only [rd_fault_in, sSeq, sFor, diAny, dVar, startD]
  refine ⟨_, rfl, ?_⟩
  show forL (fun _ => True) (gdName 3) _ (dAll b) _ _ S
  have hd : 3 < d := by omega
  have hd' : (3 : Int) < (d : Int) := by omega
  cases b with
  | nil =>
    rw [dAll, forL]
    have := q.now
    simp [fB, fD] at this
    simp
    exact this
  | cons s r =>
    rw [dAll, forL]
    have := q.now
    simp [fB, hd, fD] at this
    simp [hd']
    exact this
structure Tops (K : PySem.W.Frag) (mg : Str → Option Value) : Prop where
  B : Blt mg
  C : Cst K mg
  d_is_integer : Dfn K mg "is_integer" st_is_integer ["value"]
  d_is_within : Dfn K mg "is_within" st_is_within ["value", "low", "high"]
  d_is_name : Dfn K mg "is_name" st_is_name ["value"]
  d_has_form : Dfn K mg "has_form" st_has_form ["value", "forms"]
  d_is_expression : Dfn K mg "is_expression" st_is_expression ["value", "deep"]
  d_is_test : Dfn K mg "is_test" st_is_test ["value", "nots"]
  d_blocks_of : Dfn K mg "blocks_of" st_blocks_of ["statement"]
  d_is_statement : Dfn K mg "is_statement" st_is_statement ["value"]
  d_fault_in : Dfn K mg "fault_in" st_fault_in ["block", "place", "depth"]
  d_kind_of : Dfn K mg "kind_of" st_kind_of ["statement"]
  d_counted : Dfn K mg "counted" st_counted ["block", "kinds"]
  d_bound_passed : Dfn K mg "bound_passed" st_bound_passed ["program", "places"]
  d_program_error : Dfn K mg "program_error" st_program_error ["value"]
  d_weight : Dfn K mg "weight" st_weight ["program"]
  d__law_deck : Dfn K mg "_law_deck" st__law_deck ["_law_script"]
  d__law_draw : Dfn K mg "_law_draw" st__law_draw ["_law_deck_here", "_law_many"]
  d__law_one : Dfn K mg "_law_one" st__law_one ["_law_deck_here", "_law_items"]
  d__law_parts : Dfn K mg "_law_parts" st__law_parts ["_law_row"]
  d__law_whole : Dfn K mg "_law_whole" st__law_whole ["_law_value", "_law_least", "_law_most"]
  d__law_is_name : Dfn K mg "_law_is_name" st__law_is_name ["_law_value"]
  d__law_is_expression : Dfn K mg "_law_is_expression" st__law_is_expression ["_law_value", "_law_deep"]
  d__law_is_rest : Dfn K mg "_law_is_rest" st__law_is_rest ["_law_value"]
  d__law_is_test : Dfn K mg "_law_is_test" st__law_is_test ["_law_value", "_law_nots"]
  d__law_is_statement : Dfn K mg "_law_is_statement" st__law_is_statement ["_law_value"]
  d__law_counts : Dfn K mg "_law_counts" st__law_counts ["_law_block"]
  d__law_error : Dfn K mg "_law_error" st__law_error ["_law_value"]
  d__law_part : Dfn K mg "_law_part" st__law_part ["_law_deck_here"]
  d__law_up_to : Dfn K mg "_law_up_to" st__law_up_to ["_law_deck_here"]
theorem law_ok {P : Program} {w : World} {K : PySem.W.Frag} {mg : Str → Option Value} {base : Heap} (T : Tops K mg) {f : Addr} {fd : FuncData} (F : Fun K "law" "law" st_law f fd) : FnG P w K mg base CX0 15 f fd ["_law_script"] (toSp K c_law) := by
  have B := T.B
  have C := T.C
  obtain ⟨f_is_integer, e_is_integer, F_is_integer, m_is_integer, b_is_integer⟩ := T.d_is_integer.ex
  have D_is_integer : DefD P w K mg base 1 "is_integer" 1 c_is_integer := ok_is_integer (k := 0) F_is_integer m_is_integer b_is_integer B  len_is_integer r_is_integer
  obtain ⟨f_is_within, e_is_within, F_is_within, m_is_within, b_is_within⟩ := T.d_is_within.ex
  have D_is_within : DefD P w K mg base 2 "is_within" 3 c_is_within := ok_is_within (k := 1) F_is_within m_is_within b_is_within (D_is_integer.mono (by decide)) len_is_within r_is_within
  obtain ⟨f_is_name, e_is_name, F_is_name, m_is_name, b_is_name⟩ := T.d_is_name.ex
  have D_is_name : DefD P w K mg base 1 "is_name" 1 c_is_name := ok_is_name (k := 0) F_is_name m_is_name b_is_name B C  len_is_name r_is_name
  obtain ⟨f_has_form, e_has_form, F_has_form, m_has_form, b_has_form⟩ := T.d_has_form.ex
  have D_has_form : DefD P w K mg base 1 "has_form" 2 c_has_form := ok_has_form (k := 0) F_has_form m_has_form b_has_form B  len_has_form r_has_form
  obtain ⟨f_is_expression, e_is_expression, F_is_expression, m_is_expression, b_is_expression⟩ := T.d_is_expression.ex
  have D_ie0 : DefD P w K mg base 1 "is_expression" 2 (fun _ _ _ => False) := (DefD.never F_is_expression m_is_expression b_is_expression 1).imp (fun _ _ _ h => h)
  have D_is_expression : DefD P w K mg base 3 "is_expression" 2 c_is_expression := ok_is_expression (k := 2) F_is_expression m_is_expression b_is_expression C (D_ie0.mono (by decide)) (D_is_within.mono (by decide)) (D_has_form.mono (by decide)) (D_is_name.mono (by decide)) len_is_expression r_is_expression
  obtain ⟨f_is_test, e_is_test, F_is_test, m_is_test, b_is_test⟩ := T.d_is_test.ex
  have D_it0 : DefD P w K mg base 1 "is_test" 2 (fun _ _ _ => False) := (DefD.never F_is_test m_is_test b_is_test 1).imp (fun _ _ _ h => h)
  have D_it1 : DefD P w K mg base 4 "is_test" 2 c_is_test1 := ok_is_test (k := 3) F_is_test m_is_test b_is_test C (D_is_within.mono (by decide)) (D_is_expression.mono (by decide)) (D_it0.mono (by decide)) (D_has_form.mono (by decide)) len_is_test1 r_is_test1
  have D_is_test : DefD P w K mg base 5 "is_test" 2 c_is_test0 := ok_is_test (k := 4) F_is_test m_is_test b_is_test C (D_is_within.mono (by decide)) (D_is_expression.mono (by decide)) (D_it1.mono (by decide)) (D_has_form.mono (by decide)) len_is_test0 r_is_test0
  obtain ⟨f_blocks_of, e_blocks_of, F_blocks_of, m_blocks_of, b_blocks_of⟩ := T.d_blocks_of.ex
  have D_blocks_of : DefD P w K mg base 1 "blocks_of" 1 c_blocks_of := ok_blocks_of (k := 0) F_blocks_of m_blocks_of b_blocks_of  len_blocks_of r_blocks_of
  obtain ⟨f_is_statement, e_is_statement, F_is_statement, m_is_statement, b_is_statement⟩ := T.d_is_statement.ex
  have D_is_statement : DefD P w K mg base 6 "is_statement" 1 c_is_statement := ok_is_statement (k := 5) F_is_statement m_is_statement b_is_statement B C (D_blocks_of.mono (by decide)) (D_is_within.mono (by decide)) (D_is_test.mono (by decide)) (D_is_expression.mono (by decide)) (D_is_name.mono (by decide)) (D_has_form.mono (by decide)) len_is_statement r_is_statement
  obtain ⟨f_fault_in, e_fault_in, F_fault_in, m_fault_in, b_fault_in⟩ := T.d_fault_in.ex
  have D_fi0 : DefD P w K mg base 1 "fault_in" 3 (fun _ _ _ => False) := (DefD.never F_fault_in m_fault_in b_fault_in 1).imp (fun _ _ _ h => h)
  have D_fi1 : DefD P w K mg base 7 "fault_in" 3 (c_fault_in 1) := ok_fault_in (k := 6) F_fault_in m_fault_in b_fault_in C (D_blocks_of.mono (by decide)) (D_fi0.mono (by decide)) (D_is_statement.mono (by decide)) (len_fault_in 1) r_fault_b
  have D_fi2 : DefD P w K mg base 8 "fault_in" 3 (c_fault_in 2) := ok_fault_in (k := 7) F_fault_in m_fault_in b_fault_in C (D_blocks_of.mono (by decide)) (D_fi1.mono (by decide)) (D_is_statement.mono (by decide)) (len_fault_in 2) (r_fault_in 1)
  have D_fi3 : DefD P w K mg base 9 "fault_in" 3 (c_fault_in 3) := ok_fault_in (k := 8) F_fault_in m_fault_in b_fault_in C (D_blocks_of.mono (by decide)) (D_fi2.mono (by decide)) (D_is_statement.mono (by decide)) (len_fault_in 3) (r_fault_in 2)
  have D_fi4 : DefD P w K mg base 10 "fault_in" 3 (c_fault_in 4) := ok_fault_in (k := 9) F_fault_in m_fault_in b_fault_in C (D_blocks_of.mono (by decide)) (D_fi3.mono (by decide)) (D_is_statement.mono (by decide)) (len_fault_in 4) (r_fault_in 3)
  have D_fi5 : DefD P w K mg base 11 "fault_in" 3 (c_fault_in 5) := ok_fault_in (k := 10) F_fault_in m_fault_in b_fault_in C (D_blocks_of.mono (by decide)) (D_fi4.mono (by decide)) (D_is_statement.mono (by decide)) (len_fault_in 5) (r_fault_in 4)
  obtain ⟨f_kind_of, e_kind_of, F_kind_of, m_kind_of, b_kind_of⟩ := T.d_kind_of.ex
  have D_kind_of : DefD P w K mg base 1 "kind_of" 1 c_kind_of := ok_kind_of (k := 0) F_kind_of m_kind_of b_kind_of  len_kind_of r_kind_of
  obtain ⟨f_counted, e_counted, F_counted, m_counted, b_counted⟩ := T.d_counted.ex
  have D_ct0 : DefD P w K mg base 1 "counted" 2 (c_counted 0) := (DefD.never F_counted m_counted b_counted 1).imp (fun _ _ _ ⟨_, _, _, _, h, _⟩ => absurd h (Nat.not_lt_zero _))
  have D_ct1 : DefD P w K mg base 2 "counted" 2 (c_counted 1) := ok_counted (k := 1) F_counted m_counted b_counted B (D_kind_of.mono (by decide)) (D_blocks_of.mono (by decide)) (D_ct0.mono (by decide)) (len_counted 1) (r_counted 0)
  have D_ct2 : DefD P w K mg base 3 "counted" 2 (c_counted 2) := ok_counted (k := 2) F_counted m_counted b_counted B (D_kind_of.mono (by decide)) (D_blocks_of.mono (by decide)) (D_ct1.mono (by decide)) (len_counted 2) (r_counted 1)
  have D_ct3 : DefD P w K mg base 4 "counted" 2 (c_counted 3) := ok_counted (k := 3) F_counted m_counted b_counted B (D_kind_of.mono (by decide)) (D_blocks_of.mono (by decide)) (D_ct2.mono (by decide)) (len_counted 3) (r_counted 2)
  have D_ct4 : DefD P w K mg base 5 "counted" 2 (c_counted 4) := ok_counted (k := 4) F_counted m_counted b_counted B (D_kind_of.mono (by decide)) (D_blocks_of.mono (by decide)) (D_ct3.mono (by decide)) (len_counted 4) (r_counted 3)
  have D_ct5 : DefD P w K mg base 6 "counted" 2 (c_counted 5) := ok_counted (k := 5) F_counted m_counted b_counted B (D_kind_of.mono (by decide)) (D_blocks_of.mono (by decide)) (D_ct4.mono (by decide)) (len_counted 5) (r_counted 4)
  obtain ⟨f_bound_passed, e_bound_passed, F_bound_passed, m_bound_passed, b_bound_passed⟩ := T.d_bound_passed.ex
  have D_bound_passed : DefD P w K mg base 7 "bound_passed" 2 c_bound_passed := ok_bound_passed (k := 6) F_bound_passed m_bound_passed b_bound_passed C (D_ct5.mono (by decide)) len_bound_passed r_bound_passed
  obtain ⟨f_weight, e_weight, F_weight, m_weight, b_weight⟩ := T.d_weight.ex
  have D_weight : DefD P w K mg base 7 "weight" 1 c_weight := ok_weight (k := 6) F_weight m_weight b_weight C (D_ct5.mono (by decide)) len_weight r_weight
  obtain ⟨f_program_error, e_program_error, F_program_error, m_program_error, b_program_error⟩ := T.d_program_error.ex
  have D_program_error : DefD P w K mg base 12 "program_error" 1 c_program_error := ok_program_error (k := 11) F_program_error m_program_error b_program_error B (D_bound_passed.mono (by decide)) (D_fi5.mono (by decide)) len_program_error r_program_error
  obtain ⟨f__law_parts, e__law_parts, F__law_parts, m__law_parts, b__law_parts⟩ := T.d__law_parts.ex
  have D__law_parts : DefD P w K mg base 1 "_law_parts" 1 c_blocks_of := ok__law_parts (k := 0) F__law_parts m__law_parts b__law_parts  len_blocks_of r__law_parts
  obtain ⟨f__law_whole, e__law_whole, F__law_whole, m__law_whole, b__law_whole⟩ := T.d__law_whole.ex
  have D__law_whole : DefD P w K mg base 1 "_law_whole" 3 c_is_within := ok__law_whole (k := 0) F__law_whole m__law_whole b__law_whole B  len_is_within r__law_whole
  obtain ⟨f__law_is_name, e__law_is_name, F__law_is_name, m__law_is_name, b__law_is_name⟩ := T.d__law_is_name.ex
  have D__law_is_name : DefD P w K mg base 1 "_law_is_name" 1 c_ln := ok__law_is_name (k := 0) F__law_is_name m__law_is_name b__law_is_name B  len_ln r_ln
  obtain ⟨f__law_is_expression, e__law_is_expression, F__law_is_expression, m__law_is_expression, b__law_is_expression⟩ := T.d__law_is_expression.ex
  have D_lie0 : DefD P w K mg base 1 "_law_is_expression" 2 (fun _ _ _ => False) := (DefD.never F__law_is_expression m__law_is_expression b__law_is_expression 1).imp (fun _ _ _ h => h)
  have D__law_is_expression : DefD P w K mg base 2 "_law_is_expression" 2 c_is_expression := ok__law_is_expression (k := 1) F__law_is_expression m__law_is_expression b__law_is_expression B (D_lie0.mono (by decide)) (D__law_whole.mono (by decide)) (D__law_is_name.mono (by decide)) len_is_expression r__law_is_expression
  obtain ⟨f__law_is_rest, e__law_is_rest, F__law_is_rest, m__law_is_rest, b__law_is_rest⟩ := T.d__law_is_rest.ex
  have D__law_is_rest : DefD P w K mg base 3 "_law_is_rest" 1 c__law_is_rest := ok__law_is_rest (k := 2) F__law_is_rest m__law_is_rest b__law_is_rest (D__law_whole.mono (by decide)) (D__law_is_expression.mono (by decide)) len__law_is_rest r__law_is_rest
  obtain ⟨f__law_is_test, e__law_is_test, F__law_is_test, m__law_is_test, b__law_is_test⟩ := T.d__law_is_test.ex
  have D_lit0 : DefD P w K mg base 1 "_law_is_test" 2 (fun _ _ _ => False) := (DefD.never F__law_is_test m__law_is_test b__law_is_test 1).imp (fun _ _ _ h => h)
  have D_lit1 : DefD P w K mg base 4 "_law_is_test" 2 c_is_test1 := ok__law_is_test (k := 3) F__law_is_test m__law_is_test b__law_is_test B (D__law_is_expression.mono (by decide)) (D__law_is_rest.mono (by decide)) (D_lit0.mono (by decide)) len_is_test1 r__law_is_test1
  have D__law_is_test : DefD P w K mg base 5 "_law_is_test" 2 c_is_test0 := ok__law_is_test (k := 4) F__law_is_test m__law_is_test b__law_is_test B (D__law_is_expression.mono (by decide)) (D__law_is_rest.mono (by decide)) (D_lit1.mono (by decide)) len_is_test0 r__law_is_test0
  obtain ⟨f__law_is_statement, e__law_is_statement, F__law_is_statement, m__law_is_statement, b__law_is_statement⟩ := T.d__law_is_statement.ex
  have D__law_is_statement : DefD P w K mg base 6 "_law_is_statement" 1 c__law_is_statement := ok__law_is_statement (k := 5) F__law_is_statement m__law_is_statement b__law_is_statement B (D__law_parts.mono (by decide)) (D__law_whole.mono (by decide)) (D__law_is_test.mono (by decide)) (D__law_is_expression.mono (by decide)) (D__law_is_name.mono (by decide)) len__law_is_statement r__law_is_statement
  obtain ⟨f__law_counts, e__law_counts, F__law_counts, m__law_counts, b__law_counts⟩ := T.d__law_counts.ex
  have D_lc0 : DefD P w K mg base 1 "_law_counts" 1 (c__law_counts 0) := (DefD.never F__law_counts m__law_counts b__law_counts 1).imp (fun _ _ _ ⟨_, _, _, h, _⟩ => absurd h (Nat.not_lt_zero _))
  have D_lc1 : DefD P w K mg base 2 "_law_counts" 1 (c__law_counts 1) := ok__law_counts (k := 1) F__law_counts m__law_counts b__law_counts B (D__law_parts.mono (by decide)) (D_lc0.mono (by decide)) (len__law_counts 1) (r__law_counts 0)
  have D_lc2 : DefD P w K mg base 3 "_law_counts" 1 (c__law_counts 2) := ok__law_counts (k := 2) F__law_counts m__law_counts b__law_counts B (D__law_parts.mono (by decide)) (D_lc1.mono (by decide)) (len__law_counts 2) (r__law_counts 1)
  have D_lc3 : DefD P w K mg base 4 "_law_counts" 1 (c__law_counts 3) := ok__law_counts (k := 3) F__law_counts m__law_counts b__law_counts B (D__law_parts.mono (by decide)) (D_lc2.mono (by decide)) (len__law_counts 3) (r__law_counts 2)
  have D_lc4 : DefD P w K mg base 5 "_law_counts" 1 (c__law_counts 4) := ok__law_counts (k := 4) F__law_counts m__law_counts b__law_counts B (D__law_parts.mono (by decide)) (D_lc3.mono (by decide)) (len__law_counts 4) (r__law_counts 3)
  have D_lc5 : DefD P w K mg base 6 "_law_counts" 1 (c__law_counts 5) := ok__law_counts (k := 5) F__law_counts m__law_counts b__law_counts B (D__law_parts.mono (by decide)) (D_lc4.mono (by decide)) (len__law_counts 5) (r__law_counts 4)
  obtain ⟨f__law_error, e__law_error, F__law_error, m__law_error, b__law_error⟩ := T.d__law_error.ex
  have D__law_error : DefD P w K mg base 7 "_law_error" 1 c__law_error := ok__law_error (k := 6) F__law_error m__law_error b__law_error B (D_lc5.mono (by decide)) (D__law_parts.mono (by decide)) (D__law_is_statement.mono (by decide)) len__law_error r__law_error
  obtain ⟨f__law_deck, e__law_deck, F__law_deck, m__law_deck, b__law_deck⟩ := T.d__law_deck.ex
  have D__law_deck : DefD P w K mg base 1 "_law_deck" 1 c__law_deck := ok__law_deck (k := 0) F__law_deck m__law_deck b__law_deck B  len__law_deck r__law_deck
  obtain ⟨f__law_draw, e__law_draw, F__law_draw, m__law_draw, b__law_draw⟩ := T.d__law_draw.ex
  have D__law_draw : DefD P w K mg base 1 "_law_draw" 2 c__law_draw := ok__law_draw (k := 0) F__law_draw m__law_draw b__law_draw B  len__law_draw r__law_draw
  obtain ⟨f__law_one, e__law_one, F__law_one, m__law_one, b__law_one⟩ := T.d__law_one.ex
  have D__law_one : DefD P w K mg base 2 "_law_one" 2 c__law_one := ok__law_one (k := 1) F__law_one m__law_one b__law_one B (D__law_draw.mono (by decide)) len__law_one r__law_one
  obtain ⟨f__law_part, e__law_part, F__law_part, m__law_part, b__law_part⟩ := T.d__law_part.ex
  have D__law_part : DefD P w K mg base 3 "_law_part" 1 c__law_part := ok__law_part (k := 2) F__law_part m__law_part b__law_part B (D__law_draw.mono (by decide)) (D__law_one.mono (by decide)) len__law_part r__law_part
  obtain ⟨f__law_up_to, e__law_up_to, F__law_up_to, m__law_up_to, b__law_up_to⟩ := T.d__law_up_to.ex
  have D__law_up_to : DefD P w K mg base 3 "_law_up_to" 1 c__law_up_to := ok__law_up_to (k := 2) F__law_up_to m__law_up_to b__law_up_to B (D__law_one.mono (by decide)) (D__law_draw.mono (by decide)) len__law_up_to r__law_up_to
  exact fn_law (k := 14) F B (D_program_error.mono (by decide)) (D_weight.mono (by decide)) (D__law_up_to.mono (by decide)) (D__law_part.mono (by decide)) (D_lc5.mono (by decide)) (D__law_error.mono (by decide)) (D__law_draw.mono (by decide)) (D__law_deck.mono (by decide)) len_law r_law
end K23

set_option Elab.async false
set_option linter.all false
set_option maxRecDepth 100000
set_option maxHeartbeats 4000000
namespace K23
open PySem L2 DL
theorem bn_is_integer (kV doc pm : Value) (an : Option Addr) (cdv ct : Value) (us : List Value) (hl : us.length = (["value"] : List Str).length) : bindArgs (PySem.W.fnOf "is_integer" "is_integer" (defArgs st_is_integer) (defBody st_is_integer) (defScope st_is_integer) Value.none kV doc pm an cdv ct) { pos := us } = pure ((["value"] : List Str).zip us) := match us, hl with | [_], _ => rfl
theorem bn_is_within (kV doc pm : Value) (an : Option Addr) (cdv ct : Value) (us : List Value) (hl : us.length = (["value", "low", "high"] : List Str).length) : bindArgs (PySem.W.fnOf "is_within" "is_within" (defArgs st_is_within) (defBody st_is_within) (defScope st_is_within) Value.none kV doc pm an cdv ct) { pos := us } = pure ((["value", "low", "high"] : List Str).zip us) := match us, hl with | [_, _, _], _ => rfl
theorem bn_is_name (kV doc pm : Value) (an : Option Addr) (cdv ct : Value) (us : List Value) (hl : us.length = (["value"] : List Str).length) : bindArgs (PySem.W.fnOf "is_name" "is_name" (defArgs st_is_name) (defBody st_is_name) (defScope st_is_name) Value.none kV doc pm an cdv ct) { pos := us } = pure ((["value"] : List Str).zip us) := match us, hl with | [_], _ => rfl
theorem bn_has_form (kV doc pm : Value) (an : Option Addr) (cdv ct : Value) (us : List Value) (hl : us.length = (["value", "forms"] : List Str).length) : bindArgs (PySem.W.fnOf "has_form" "has_form" (defArgs st_has_form) (defBody st_has_form) (defScope st_has_form) Value.none kV doc pm an cdv ct) { pos := us } = pure ((["value", "forms"] : List Str).zip us) := match us, hl with | [_, _], _ => rfl
theorem bn_is_expression (kV doc pm : Value) (an : Option Addr) (cdv ct : Value) (us : List Value) (hl : us.length = (["value", "deep"] : List Str).length) : bindArgs (PySem.W.fnOf "is_expression" "is_expression" (defArgs st_is_expression) (defBody st_is_expression) (defScope st_is_expression) Value.none kV doc pm an cdv ct) { pos := us } = pure ((["value", "deep"] : List Str).zip us) := match us, hl with | [_, _], _ => rfl
theorem bn_is_test (kV doc pm : Value) (an : Option Addr) (cdv ct : Value) (us : List Value) (hl : us.length = (["value", "nots"] : List Str).length) : bindArgs (PySem.W.fnOf "is_test" "is_test" (defArgs st_is_test) (defBody st_is_test) (defScope st_is_test) Value.none kV doc pm an cdv ct) { pos := us } = pure ((["value", "nots"] : List Str).zip us) := match us, hl with | [_, _], _ => rfl
theorem bn_blocks_of (kV doc pm : Value) (an : Option Addr) (cdv ct : Value) (us : List Value) (hl : us.length = (["statement"] : List Str).length) : bindArgs (PySem.W.fnOf "blocks_of" "blocks_of" (defArgs st_blocks_of) (defBody st_blocks_of) (defScope st_blocks_of) Value.none kV doc pm an cdv ct) { pos := us } = pure ((["statement"] : List Str).zip us) := match us, hl with | [_], _ => rfl
theorem bn_is_statement (kV doc pm : Value) (an : Option Addr) (cdv ct : Value) (us : List Value) (hl : us.length = (["value"] : List Str).length) : bindArgs (PySem.W.fnOf "is_statement" "is_statement" (defArgs st_is_statement) (defBody st_is_statement) (defScope st_is_statement) Value.none kV doc pm an cdv ct) { pos := us } = pure ((["value"] : List Str).zip us) := match us, hl with | [_], _ => rfl
theorem bn_fault_in (kV doc pm : Value) (an : Option Addr) (cdv ct : Value) (us : List Value) (hl : us.length = (["block", "place", "depth"] : List Str).length) : bindArgs (PySem.W.fnOf "fault_in" "fault_in" (defArgs st_fault_in) (defBody st_fault_in) (defScope st_fault_in) Value.none kV doc pm an cdv ct) { pos := us } = pure ((["block", "place", "depth"] : List Str).zip us) := match us, hl with | [_, _, _], _ => rfl
theorem bn_kind_of (kV doc pm : Value) (an : Option Addr) (cdv ct : Value) (us : List Value) (hl : us.length = (["statement"] : List Str).length) : bindArgs (PySem.W.fnOf "kind_of" "kind_of" (defArgs st_kind_of) (defBody st_kind_of) (defScope st_kind_of) Value.none kV doc pm an cdv ct) { pos := us } = pure ((["statement"] : List Str).zip us) := match us, hl with | [_], _ => rfl
theorem bn_counted (kV doc pm : Value) (an : Option Addr) (cdv ct : Value) (us : List Value) (hl : us.length = (["block", "kinds"] : List Str).length) : bindArgs (PySem.W.fnOf "counted" "counted" (defArgs st_counted) (defBody st_counted) (defScope st_counted) Value.none kV doc pm an cdv ct) { pos := us } = pure ((["block", "kinds"] : List Str).zip us) := match us, hl with | [_, _], _ => rfl
theorem bn_bound_passed (kV doc pm : Value) (an : Option Addr) (cdv ct : Value) (us : List Value) (hl : us.length = (["program", "places"] : List Str).length) : bindArgs (PySem.W.fnOf "bound_passed" "bound_passed" (defArgs st_bound_passed) (defBody st_bound_passed) (defScope st_bound_passed) Value.none kV doc pm an cdv ct) { pos := us } = pure ((["program", "places"] : List Str).zip us) := match us, hl with | [_, _], _ => rfl
theorem bn_program_error (kV doc pm : Value) (an : Option Addr) (cdv ct : Value) (us : List Value) (hl : us.length = (["value"] : List Str).length) : bindArgs (PySem.W.fnOf "program_error" "program_error" (defArgs st_program_error) (defBody st_program_error) (defScope st_program_error) Value.none kV doc pm an cdv ct) { pos := us } = pure ((["value"] : List Str).zip us) := match us, hl with | [_], _ => rfl
theorem bn_weight (kV doc pm : Value) (an : Option Addr) (cdv ct : Value) (us : List Value) (hl : us.length = (["program"] : List Str).length) : bindArgs (PySem.W.fnOf "weight" "weight" (defArgs st_weight) (defBody st_weight) (defScope st_weight) Value.none kV doc pm an cdv ct) { pos := us } = pure ((["program"] : List Str).zip us) := match us, hl with | [_], _ => rfl
theorem bn__law_deck (kV doc pm : Value) (an : Option Addr) (cdv ct : Value) (us : List Value) (hl : us.length = (["_law_script"] : List Str).length) : bindArgs (PySem.W.fnOf "_law_deck" "_law_deck" (defArgs st__law_deck) (defBody st__law_deck) (defScope st__law_deck) Value.none kV doc pm an cdv ct) { pos := us } = pure ((["_law_script"] : List Str).zip us) := match us, hl with | [_], _ => rfl
theorem bn__law_draw (kV doc pm : Value) (an : Option Addr) (cdv ct : Value) (us : List Value) (hl : us.length = (["_law_deck_here", "_law_many"] : List Str).length) : bindArgs (PySem.W.fnOf "_law_draw" "_law_draw" (defArgs st__law_draw) (defBody st__law_draw) (defScope st__law_draw) Value.none kV doc pm an cdv ct) { pos := us } = pure ((["_law_deck_here", "_law_many"] : List Str).zip us) := match us, hl with | [_, _], _ => rfl
theorem bn__law_one (kV doc pm : Value) (an : Option Addr) (cdv ct : Value) (us : List Value) (hl : us.length = (["_law_deck_here", "_law_items"] : List Str).length) : bindArgs (PySem.W.fnOf "_law_one" "_law_one" (defArgs st__law_one) (defBody st__law_one) (defScope st__law_one) Value.none kV doc pm an cdv ct) { pos := us } = pure ((["_law_deck_here", "_law_items"] : List Str).zip us) := match us, hl with | [_, _], _ => rfl
theorem bn__law_parts (kV doc pm : Value) (an : Option Addr) (cdv ct : Value) (us : List Value) (hl : us.length = (["_law_row"] : List Str).length) : bindArgs (PySem.W.fnOf "_law_parts" "_law_parts" (defArgs st__law_parts) (defBody st__law_parts) (defScope st__law_parts) Value.none kV doc pm an cdv ct) { pos := us } = pure ((["_law_row"] : List Str).zip us) := match us, hl with | [_], _ => rfl
theorem bn__law_whole (kV doc pm : Value) (an : Option Addr) (cdv ct : Value) (us : List Value) (hl : us.length = (["_law_value", "_law_least", "_law_most"] : List Str).length) : bindArgs (PySem.W.fnOf "_law_whole" "_law_whole" (defArgs st__law_whole) (defBody st__law_whole) (defScope st__law_whole) Value.none kV doc pm an cdv ct) { pos := us } = pure ((["_law_value", "_law_least", "_law_most"] : List Str).zip us) := match us, hl with | [_, _, _], _ => rfl
theorem bn__law_is_name (kV doc pm : Value) (an : Option Addr) (cdv ct : Value) (us : List Value) (hl : us.length = (["_law_value"] : List Str).length) : bindArgs (PySem.W.fnOf "_law_is_name" "_law_is_name" (defArgs st__law_is_name) (defBody st__law_is_name) (defScope st__law_is_name) Value.none kV doc pm an cdv ct) { pos := us } = pure ((["_law_value"] : List Str).zip us) := match us, hl with | [_], _ => rfl
theorem bn__law_is_expression (kV doc pm : Value) (an : Option Addr) (cdv ct : Value) (us : List Value) (hl : us.length = (["_law_value", "_law_deep"] : List Str).length) : bindArgs (PySem.W.fnOf "_law_is_expression" "_law_is_expression" (defArgs st__law_is_expression) (defBody st__law_is_expression) (defScope st__law_is_expression) Value.none kV doc pm an cdv ct) { pos := us } = pure ((["_law_value", "_law_deep"] : List Str).zip us) := match us, hl with | [_, _], _ => rfl
theorem bn__law_is_rest (kV doc pm : Value) (an : Option Addr) (cdv ct : Value) (us : List Value) (hl : us.length = (["_law_value"] : List Str).length) : bindArgs (PySem.W.fnOf "_law_is_rest" "_law_is_rest" (defArgs st__law_is_rest) (defBody st__law_is_rest) (defScope st__law_is_rest) Value.none kV doc pm an cdv ct) { pos := us } = pure ((["_law_value"] : List Str).zip us) := match us, hl with | [_], _ => rfl
theorem bn__law_is_test (kV doc pm : Value) (an : Option Addr) (cdv ct : Value) (us : List Value) (hl : us.length = (["_law_value", "_law_nots"] : List Str).length) : bindArgs (PySem.W.fnOf "_law_is_test" "_law_is_test" (defArgs st__law_is_test) (defBody st__law_is_test) (defScope st__law_is_test) Value.none kV doc pm an cdv ct) { pos := us } = pure ((["_law_value", "_law_nots"] : List Str).zip us) := match us, hl with | [_, _], _ => rfl
theorem bn__law_is_statement (kV doc pm : Value) (an : Option Addr) (cdv ct : Value) (us : List Value) (hl : us.length = (["_law_value"] : List Str).length) : bindArgs (PySem.W.fnOf "_law_is_statement" "_law_is_statement" (defArgs st__law_is_statement) (defBody st__law_is_statement) (defScope st__law_is_statement) Value.none kV doc pm an cdv ct) { pos := us } = pure ((["_law_value"] : List Str).zip us) := match us, hl with | [_], _ => rfl
theorem bn__law_counts (kV doc pm : Value) (an : Option Addr) (cdv ct : Value) (us : List Value) (hl : us.length = (["_law_block"] : List Str).length) : bindArgs (PySem.W.fnOf "_law_counts" "_law_counts" (defArgs st__law_counts) (defBody st__law_counts) (defScope st__law_counts) Value.none kV doc pm an cdv ct) { pos := us } = pure ((["_law_block"] : List Str).zip us) := match us, hl with | [_], _ => rfl
theorem bn__law_error (kV doc pm : Value) (an : Option Addr) (cdv ct : Value) (us : List Value) (hl : us.length = (["_law_value"] : List Str).length) : bindArgs (PySem.W.fnOf "_law_error" "_law_error" (defArgs st__law_error) (defBody st__law_error) (defScope st__law_error) Value.none kV doc pm an cdv ct) { pos := us } = pure ((["_law_value"] : List Str).zip us) := match us, hl with | [_], _ => rfl
theorem bn__law_part (kV doc pm : Value) (an : Option Addr) (cdv ct : Value) (us : List Value) (hl : us.length = (["_law_deck_here"] : List Str).length) : bindArgs (PySem.W.fnOf "_law_part" "_law_part" (defArgs st__law_part) (defBody st__law_part) (defScope st__law_part) Value.none kV doc pm an cdv ct) { pos := us } = pure ((["_law_deck_here"] : List Str).zip us) := match us, hl with | [_], _ => rfl
theorem bn__law_up_to (kV doc pm : Value) (an : Option Addr) (cdv ct : Value) (us : List Value) (hl : us.length = (["_law_deck_here"] : List Str).length) : bindArgs (PySem.W.fnOf "_law_up_to" "_law_up_to" (defArgs st__law_up_to) (defBody st__law_up_to) (defScope st__law_up_to) Value.none kV doc pm an cdv ct) { pos := us } = pure ((["_law_deck_here"] : List Str).zip us) := match us, hl with | [_], _ => rfl
theorem bn_law (kV doc pm : Value) (an : Option Addr) (cdv ct u : Value) : bindArgs (PySem.W.fnOf "law" "law" (defArgs st_law) (defBody st_law) (defScope st_law) Value.none kV doc pm an cdv ct) { pos := [u] } = pure [(("_law_script" : Str), u)] := rfl
theorem finish {P : Program} {w : World} {K : PySem.W.Frag} {h : Heap} {mg : Str → Option Value} {f fa : Addr} {oc kV dc pm cd ct : Value} {od an : Option Addr} {sl : Array (Option Value)} (X : K.In h) (G : h.Ns mainGlobals mg) (hfa : mg "law" = some (.ref fa)) (T : Tops K mg)
    (a : PySem.W.nsIn K mainGlobals "law" = some (some (.ref f))) (l : K.lookup f = some ⟨oc, od, .func (PySem.W.fnOf "law" "law" (defArgs st_law) (defBody st_law) (defScope st_law) .none kV dc pm an cd ct), sl⟩) (c : PySem.W.codeIn K cd "law" = true) (kp : PySem.W.keepIn K (.ref f) = true) :
    ∃ fd : FuncData, (∀ (s : Shared) (u : Value), BindsTo s fd ⟨[u], []⟩ [("_law_script", u)]) ∧ ∀ base : Heap, K.In base → base.Ns mainGlobals mg → FnG P w K mg base CX0 15 fa fd ["_law_script"] (toSp K c_law) :=
  top_mk X G hfa bn_law (fun f fd F base => law_ok T F) a l c kp
end K23
open PySem PySem.W PyProof.Rows
set_option maxRecDepth 100000 in
set_option maxHeartbeats 0 in
theorem PySem.Challenge.cw_weandthey_k23_bounds_of_programs_holds : PySem.Challenge.rw_weandthey_k23_bounds_of_programs.Holds := by
  w_on; o_law; k_head; (case hw => w_witness2)
  k_fill
  refine DL.walkD (l := PySem.Challenge.rw_weandthey_k23_bounds_of_programs) (k := 15) (x := "_law_script") rfl rfl ⟨rfl, by decide, by decide⟩ (fun w h Y => PySem.W.kIn_of Y) ?F
  case F =>
    intro w mg fa h KX G hmg
    refine' K23.finish KX G hmg ?T ?a ?l ?c ?k
    (case a => k_is); (case l => k_is); (case c => k_is); (case k => k_is)
    case T =>
      refine ⟨?B, ?C, ?d_is_integer, ?d_is_within, ?d_is_name, ?d_has_form, ?d_is_expression, ?d_is_test, ?d_blocks_of, ?d_is_statement, ?d_fault_in, ?d_kind_of, ?d_counted, ?d_bound_passed, ?d_program_error, ?d_weight, ?d__law_deck, ?d__law_draw, ?d__law_one, ?d__law_parts, ?d__law_whole, ?d__law_is_name, ?d__law_is_expression, ?d__law_is_rest, ?d__law_is_test, ?d__law_is_statement, ?d__law_counts, ?d__law_error, ?d__law_part, ?d__law_up_to⟩
      case B => refine ⟨?_, ?_, ?_, ?_, ?_, ?_, ?_, ?_, ?_, ?_, ?_, ?_⟩ <;> refine PySem.W.mg_none_of KX G ?_ <;> k_is
      case C =>
        refine ⟨?_, ?_, ?_, ?_, ?_, ?_, ?_, ?_, ?_, ?_, ?_, ?_, ?_, ?_, ?_, ?_, ?_, ?_, ?_, ?_⟩
        · refine' DL.str_mk KX G ?e2; (case e2 => k_is)
        · refine' DL.str_mk KX G ?e3; (case e3 => k_is)
        · refine' DL.tup_mk KX G ?e4 ?l4 ?z4 ?k4
          (case e4 => k_is); (case l4 => k_is); (case z4 => decide +kernel)
          (case k4 => repeat' (first | exact .nil | refine .str ?_ | refine .int ?_))
        · refine' DL.int_mk KX G ?e5; (case e5 => k_is)
        · refine' DL.int_mk KX G ?e6; (case e6 => k_is)
        · refine' DL.tup_mk KX G ?e7 ?l7 ?z7 ?k7
          (case e7 => k_is); (case l7 => k_is); (case z7 => decide +kernel)
          case k7 =>
            refine' DL.KvA.tup ?l8 ?z8 ?k8 ?r8; (case l8 => k_is); (case z8 => decide +kernel); (case k8 => exact .str (.int .nil))
            refine' DL.KvA.tup ?l9 ?z9 ?k9 ?r9; (case l9 => k_is); (case z9 => decide +kernel); (case k9 => exact .str (.int .nil))
            refine' DL.KvA.tup ?l10 ?z10 ?k10 ?r10; (case l10 => k_is); (case z10 => decide +kernel); (case k10 => exact .str (.int .nil))
            exact .nil
        · refine' DL.int_mk KX G ?e11; (case e11 => k_is)
        · refine' DL.int_mk KX G ?e12; (case e12 => k_is)
        · refine' DL.int_mk KX G ?e13; (case e13 => k_is)
        · refine' DL.tup_mk KX G ?e14 ?l14 ?z14 ?k14
          (case e14 => k_is); (case l14 => k_is); (case z14 => decide +kernel)
          case k14 =>
            refine' DL.KvA.tup ?l15 ?z15 ?k15 ?r15; (case l15 => k_is); (case z15 => decide +kernel); (case k15 => exact .str (.int .nil))
            refine' DL.KvA.tup ?l16 ?z16 ?k16 ?r16; (case l16 => k_is); (case z16 => decide +kernel); (case k16 => exact .str (.int .nil))
            refine' DL.KvA.tup ?l17 ?z17 ?k17 ?r17; (case l17 => k_is); (case z17 => decide +kernel); (case k17 => exact .str (.int .nil))
            exact .nil
        · refine' DL.int_mk KX G ?e18; (case e18 => k_is)
        · refine' DL.int_mk KX G ?e19; (case e19 => k_is)
        · refine' DL.tup_mk KX G ?e20 ?l20 ?z20 ?k20
          (case e20 => k_is); (case l20 => k_is); (case z20 => decide +kernel)
          case k20 =>
            refine' DL.KvA.tup ?l21 ?z21 ?k21 ?r21; (case l21 => k_is); (case z21 => decide +kernel); (case k21 => exact .str (.int .nil))
            refine' DL.KvA.tup ?l22 ?z22 ?k22 ?r22; (case l22 => k_is); (case z22 => decide +kernel); (case k22 => exact .str (.int .nil))
            refine' DL.KvA.tup ?l23 ?z23 ?k23 ?r23; (case l23 => k_is); (case z23 => decide +kernel); (case k23 => exact .str (.int .nil))
            refine' DL.KvA.tup ?l24 ?z24 ?k24 ?r24; (case l24 => k_is); (case z24 => decide +kernel); (case k24 => exact .str (.int .nil))
            refine' DL.KvA.tup ?l25 ?z25 ?k25 ?r25; (case l25 => k_is); (case z25 => decide +kernel); (case k25 => exact .str (.int .nil))
            refine' DL.KvA.tup ?l26 ?z26 ?k26 ?r26; (case l26 => k_is); (case z26 => decide +kernel); (case k26 => exact .str (.int .nil))
            refine' DL.KvA.tup ?l27 ?z27 ?k27 ?r27; (case l27 => k_is); (case z27 => decide +kernel); (case k27 => exact .str (.int .nil))
            exact .nil
        · refine' DL.int_mk KX G ?e28; (case e28 => k_is)
        · refine' DL.int_mk KX G ?e29; (case e29 => k_is)
        · refine' DL.int_mk KX G ?e30; (case e30 => k_is)
        · refine' DL.int_mk KX G ?e31; (case e31 => k_is)
        · refine' DL.tup_mk KX G ?e32 ?l32 ?z32 ?k32
          (case e32 => k_is); (case l32 => k_is); (case z32 => decide +kernel)
          (case k32 => repeat' (first | exact .nil | refine .str ?_ | refine .int ?_))
        · refine' DL.int_mk KX G ?e33; (case e33 => k_is)
        · refine' DL.int_mk KX G ?e34; (case e34 => k_is)
      case d_is_integer => refine' DL.dfn_mk KX G K23.bn_is_integer ?a35 ?l35 ?c35 ?k35; (case a35 => k_is); (case l35 => k_is); (case c35 => k_is); (case k35 => k_is)
      case d_is_within => refine' DL.dfn_mk KX G K23.bn_is_within ?a36 ?l36 ?c36 ?k36; (case a36 => k_is); (case l36 => k_is); (case c36 => k_is); (case k36 => k_is)
      case d_is_name => refine' DL.dfn_mk KX G K23.bn_is_name ?a37 ?l37 ?c37 ?k37; (case a37 => k_is); (case l37 => k_is); (case c37 => k_is); (case k37 => k_is)
      case d_has_form => refine' DL.dfn_mk KX G K23.bn_has_form ?a38 ?l38 ?c38 ?k38; (case a38 => k_is); (case l38 => k_is); (case c38 => k_is); (case k38 => k_is)
      case d_is_expression => refine' DL.dfn_mk KX G K23.bn_is_expression ?a39 ?l39 ?c39 ?k39; (case a39 => k_is); (case l39 => k_is); (case c39 => k_is); (case k39 => k_is)
      case d_is_test => refine' DL.dfn_mk KX G K23.bn_is_test ?a40 ?l40 ?c40 ?k40; (case a40 => k_is); (case l40 => k_is); (case c40 => k_is); (case k40 => k_is)
      case d_blocks_of => refine' DL.dfn_mk KX G K23.bn_blocks_of ?a41 ?l41 ?c41 ?k41; (case a41 => k_is); (case l41 => k_is); (case c41 => k_is); (case k41 => k_is)
      case d_is_statement => refine' DL.dfn_mk KX G K23.bn_is_statement ?a42 ?l42 ?c42 ?k42; (case a42 => k_is); (case l42 => k_is); (case c42 => k_is); (case k42 => k_is)
      case d_fault_in => refine' DL.dfn_mk KX G K23.bn_fault_in ?a43 ?l43 ?c43 ?k43; (case a43 => k_is); (case l43 => k_is); (case c43 => k_is); (case k43 => k_is)
      case d_kind_of => refine' DL.dfn_mk KX G K23.bn_kind_of ?a ?l ?c ?k; (case a => k_is); (case l => k_is); (case c => k_is); (case k => k_is)
      case d_counted => refine' DL.dfn_mk KX G K23.bn_counted ?a45 ?l45 ?c45 ?k45; (case a45 => k_is); (case l45 => k_is); (case c45 => k_is); (case k45 => k_is)
      case d_bound_passed => refine' DL.dfn_mk KX G K23.bn_bound_passed ?a ?l ?c ?k; (case a => k_is); (case l => k_is); (case c => k_is); (case k => k_is)
      case d_program_error => refine' DL.dfn_mk KX G K23.bn_program_error ?a47 ?l47 ?c47 ?k47; (case a47 => k_is); (case l47 => k_is); (case c47 => k_is); (case k47 => k_is)
      case d_weight => refine' DL.dfn_mk KX G K23.bn_weight ?a48 ?l48 ?c48 ?k48; (case a48 => k_is); (case l48 => k_is); (case c48 => k_is); (case k48 => k_is)
      case d__law_deck => refine' DL.dfn_mk KX G K23.bn__law_deck ?a49 ?l49 ?c49 ?k49; (case a49 => k_is); (case l49 => k_is); (case c49 => k_is); (case k49 => k_is)
      case d__law_draw => refine' DL.dfn_mk KX G K23.bn__law_draw ?a50 ?l50 ?c50 ?k50; (case a50 => k_is); (case l50 => k_is); (case c50 => k_is); (case k50 => k_is)
      case d__law_one => refine' DL.dfn_mk KX G K23.bn__law_one ?a51 ?l51 ?c51 ?k51; (case a51 => k_is); (case l51 => k_is); (case c51 => k_is); (case k51 => k_is)
      case d__law_parts => refine' DL.dfn_mk KX G K23.bn__law_parts ?a52 ?l52 ?c52 ?k52; (case a52 => k_is); (case l52 => k_is); (case c52 => k_is); (case k52 => k_is)
      case d__law_whole => refine' DL.dfn_mk KX G K23.bn__law_whole ?a53 ?l53 ?c53 ?k53; (case a53 => k_is); (case l53 => k_is); (case c53 => k_is); (case k53 => k_is)
      case d__law_is_name => refine' DL.dfn_mk KX G K23.bn__law_is_name ?a54 ?l54 ?c54 ?k54; (case a54 => k_is); (case l54 => k_is); (case c54 => k_is); (case k54 => k_is)
      case d__law_is_expression => refine' DL.dfn_mk KX G K23.bn__law_is_expression ?a55 ?l55 ?c55 ?k55; (case a55 => k_is); (case l55 => k_is); (case c55 => k_is); (case k55 => k_is)
      case d__law_is_rest => refine' DL.dfn_mk KX G K23.bn__law_is_rest ?a56 ?l56 ?c56 ?k56; (case a56 => k_is); (case l56 => k_is); (case c56 => k_is); (case k56 => k_is)
      case d__law_is_test => refine' DL.dfn_mk KX G K23.bn__law_is_test ?a57 ?l57 ?c57 ?k57; (case a57 => k_is); (case l57 => k_is); (case c57 => k_is); (case k57 => k_is)
      case d__law_is_statement => refine' DL.dfn_mk KX G K23.bn__law_is_statement ?a58 ?l58 ?c58 ?k58; (case a58 => k_is); (case l58 => k_is); (case c58 => k_is); (case k58 => k_is)
      case d__law_counts => refine' DL.dfn_mk KX G K23.bn__law_counts ?a59 ?l59 ?c59 ?k59; (case a59 => k_is); (case l59 => k_is); (case c59 => k_is); (case k59 => k_is)
      case d__law_error => refine' DL.dfn_mk KX G K23.bn__law_error ?a60 ?l60 ?c60 ?k60; (case a60 => k_is); (case l60 => k_is); (case c60 => k_is); (case k60 => k_is)
      case d__law_part => refine' DL.dfn_mk KX G K23.bn__law_part ?a61 ?l61 ?c61 ?k61; (case a61 => k_is); (case l61 => k_is); (case c61 => k_is); (case k61 => k_is)
      case d__law_up_to => refine' DL.dfn_mk KX G K23.bn__law_up_to ?a62 ?l62 ?c62 ?k62; (case a62 => k_is); (case l62 => k_is); (case c62 => k_is); (case k62 => k_is)
