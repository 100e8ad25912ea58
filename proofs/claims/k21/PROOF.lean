import PyProof.Rows.All
import Wide.All
import OpenK.AllK
import Wide.FinOn
import HandS.ForMost
import HandS.IsInst
import HandS.TupMul
import HandS.TupAny
import HandS.Style
import HandS.Text
import HandS.Deep
import HandS.Steps
import PyProof.NeKinds
import HandS.Star
import HandS.Wide
import HandS.NoneIn
import PySem.Challenge.RW_weandthey_k21_single_statements
set_option Elab.async false
set_option linter.all false
set_option maxRecDepth 100000
namespace DL
open PySem L2

/-- data without addresses: a tuple is its items; loc: a list of the store; scr: the script -/
inductive D where
  | non | bl (b : Bool) | int (i : Int) | str (x : Str) | tup (ds : List D) | loc (i : Nat) | scr (ns : List Int)
/-- what stands in the store -/
inductive Ob where
  | lst (ds : List D) | dct (kvs : List (Key × D))
abbrev Sto := List Ob
abbrev Mp := List Addr
abbrev DEnv := List (Option D)

/-- the script: locked, or an object of the module -/
def ScrAt (K : PySem.W.Frag) (H : Hp) (a : Addr) (xs : List V) : Prop :=
  (∃ o, H a = some (.frz o (.lst xs))) ∨
  ∃ (o : Obj) (its : Array Value) (n : Nat), K.lookup a = some o ∧ o.cls = .type "list" ∧
    o.dict = none ∧ o.data = .seq its n ∧ its.size ≤ sizeLine ∧ Vals xs its.toList
theorem ScrAt.sqL {K : PySem.W.Frag} {H : Hp} {a : Addr} {xs : List V} (h : ScrAt K H a xs) : SqL K H a xs := by
  rcases h with ⟨o, h⟩ | h
  · exact .inl (.inr ⟨o, h⟩)
  · exact .inr h
mutual
inductive Dv (K : PySem.W.Frag) (H : Hp) (m : Mp) : V → D → Prop
  | non : Dv K H m .non .non
  | bl (b : Bool) : Dv K H m (.bl b) (.bl b)
  | int (i : Int) : Dv K H m (.int i) (.int i)
  | str (x : Str) : Dv K H m (.str x) (.str x)
  | tup {a : Addr} {vs : List V} {ds : List D} : SqT K H a vs → DvA K H m vs ds → Dv K H m (.ref a) (.tup ds)
  | loc {i : Nat} {a : Addr} : m[i]? = some a → Dv K H m (.ref a) (.loc i)
  | scr {a : Addr} {ns : List Int} : ScrAt K H a (ns.map V.int) → Dv K H m (.ref a) (.scr ns)
inductive DvA (K : PySem.W.Frag) (H : Hp) (m : Mp) : List V → List D → Prop
  | nil : DvA K H m [] []
  | cons {v : V} {vs : List V} {d : D} {ds : List D} : Dv K H m v d → DvA K H m vs ds → DvA K H m (v :: vs) (d :: ds)
end

/-- what may not change: tuples and locked things stay -/
structure Kp (H H' : Hp) : Prop where
  tup : ∀ a xs, H a = some (.tup xs) → H' a = some (.tup xs)
  frz : ∀ a o u, H a = some (.frz o u) → H' a = some (.frz o u)
theorem Kp.refl (H : Hp) : Kp H H := ⟨fun _ _ h => h, fun _ _ _ h => h⟩
theorem Kp.trans {H H1 H2 : Hp} (a : Kp H H1) (b : Kp H1 H2) : Kp H H2 := ⟨fun c xs h => b.tup _ _ (a.tup _ _ h), fun c o u h => b.frz _ _ _ (a.frz _ _ _ h)⟩
theorem Kp.new {H : Hp} {p : Addr} {o : HO} (h : H p = none) : Kp H (upd H p o) :=
  ⟨fun a xs e => by rw [upd_ne (ne_of_none e h)]; exact e, fun a x u e => by rw [upd_ne (ne_of_none e h)]; exact e⟩
theorem Kp.put {H : Hp} {p : Addr} {o : HO} {xs : List V} (h : H p = some (.lst xs)) : Kp H (upd H p o) :=
  ⟨fun a ys e => by rw [upd_ne (ne_of e h (fun z => HO.noConfusion z))]; exact e, fun a x u e => by rw [upd_ne (ne_of e h (fun z => HO.noConfusion z))]; exact e⟩
theorem Kp.putK {H : Hp} {p : Addr} {o : HO} {xs : List (Key × V)} (h : H p = some (.dK xs)) : Kp H (upd H p o) :=
  ⟨fun a ys e => by rw [upd_ne (ne_of e h (fun z => HO.noConfusion z))]; exact e, fun a x u e => by rw [upd_ne (ne_of e h (fun z => HO.noConfusion z))]; exact e⟩
theorem Kp.sqT {K : PySem.W.Frag} {H H' : Hp} {a : Addr} {vs : List V} (k : Kp H H') (h : SqT K H a vs) : SqT K H' a vs := by
  rcases h with (h | ⟨o, h⟩) | h
  · exact .inl (.inl (k.tup _ _ h))
  · exact .inl (.inr ⟨o, k.frz _ _ _ h⟩)
  · exact .inr h
/-- the map grows at its end alone -/
def Gr (m m' : Mp) : Prop := ∃ z, m' = m ++ z
theorem Gr.refl (m : Mp) : Gr m m := ⟨[], (List.append_nil m).symm⟩
theorem Gr.trans {m m1 m2 : Mp} (a : Gr m m1) (b : Gr m1 m2) : Gr m m2 := by
  obtain ⟨x, rfl⟩ := a
  obtain ⟨y, rfl⟩ := b
  exact ⟨x ++ y, List.append_assoc ..⟩
theorem Gr.at {m m' : Mp} {i : Nat} {a : Addr} (g : Gr m m') (h : m[i]? = some a) : m'[i]? = some a := by
  obtain ⟨z, rfl⟩ := g
  obtain ⟨hi, _⟩ := List.getElem?_eq_some_iff.mp h
  rw [List.getElem?_append_left hi]
  exact h
section
variable {K : PySem.W.Frag} {H H' : Hp} {m m' : Mp}
mutual
theorem Dv.mono (k : Kp H H') (g : Gr m m') : ∀ (d : D) (v : V), Dv K H m v d → Dv K H' m' v d
  | .non, _, h => by cases h; exact .non
  | .bl b, _, h => by cases h; exact .bl b
  | .int i, _, h => by cases h; exact .int i
  | .str x, _, h => by cases h; exact .str x
  | .tup ds, _, h => by
    cases h with
    | tup s q => exact .tup (k.sqT s) (DvA.mono k g ds _ q)
  | .loc i, _, h => by
    cases h with
    | loc e => exact .loc (g.at e)
  | .scr ns, _, h => by
    cases h with
    | scr e =>
      rcases e with ⟨o, e⟩ | e
      · exact .scr (.inl ⟨o, k.frz _ _ _ e⟩)
      · exact .scr (.inr e)
theorem DvA.mono (k : Kp H H') (g : Gr m m') : ∀ (ds : List D) (vs : List V), DvA K H m vs ds → DvA K H' m' vs ds
  | [], _, h => by cases h; exact .nil
  | d :: ds, _, h => by
    cases h with
    | cons h1 h2 => exact .cons (Dv.mono k g d _ h1) (DvA.mono k g ds _ h2)
end
theorem DvA.length : ∀ {vs : List V} {ds : List D}, DvA K H m vs ds → vs.length = ds.length
  | _, _, .nil => rfl
  | _, _, .cons _ t => congrArg (· + 1) (DvA.length t)
theorem DvA.get : ∀ {vs : List V} {ds : List D} {i : Nat} {d : D}, DvA K H m vs ds → ds[i]? = some d → ∃ v, vs[i]? = some v ∧ Dv K H m v d
  | _, _, _, _, .nil, e => by simp at e
  | _, _, 0, _, .cons r _, e => by simp at e; subst e; exact ⟨_, rfl, r⟩
  | _, _, i + 1, d, .cons _ t, e => by
    obtain ⟨v, h1, h2⟩ := DvA.get (i := i) (d := d) t (by simpa using e)
    exact ⟨v, by simpa using h1, h2⟩
theorem DvA.getV : ∀ {vs : List V} {ds : List D} {i : Nat} {v : V}, DvA K H m vs ds → vs[i]? = some v → ∃ d, ds[i]? = some d ∧ Dv K H m v d
  | _, _, _, _, .nil, e => by simp at e
  | _, _, 0, _, .cons r _, e => by simp at e; subst e; exact ⟨_, rfl, r⟩
  | _, _, i + 1, d, .cons _ t, e => by
    obtain ⟨v, h1, h2⟩ := DvA.getV (i := i) t (by simpa using e)
    exact ⟨v, by simpa using h1, h2⟩
theorem DvA.append : ∀ {vs us : List V} {ds es : List D}, DvA K H m vs ds → DvA K H m us es → DvA K H m (vs ++ us) (ds ++ es)
  | _, _, _, _, .nil, s => s
  | _, _, _, _, .cons r t, s => .cons r (DvA.append t s)
theorem DvA.take : ∀ {vs : List V} {ds : List D} (n : Nat), DvA K H m vs ds → DvA K H m (vs.take n) (ds.take n)
  | _, _, 0, _ => .nil
  | _, _, _ + 1, .nil => .nil
  | _, _, n + 1, .cons r t => .cons r (DvA.take n t)
theorem DvA.drop : ∀ {vs : List V} {ds : List D} (n : Nat), DvA K H m vs ds → DvA K H m (vs.drop n) (ds.drop n)
  | _, _, 0, r => r
  | _, _, _ + 1, .nil => .nil
  | _, _, n + 1, .cons _ t => DvA.drop n t
theorem DvA.set {v : V} {d : D} (r : Dv K H m v d) : ∀ {vs : List V} {ds : List D} (i : Nat), DvA K H m vs ds → DvA K H m (vs.set i v) (ds.set i d)
  | _, _, _, .nil => .nil
  | _, _, 0, .cons _ t => .cons r t
  | _, _, i + 1, .cons q t => .cons q (DvA.set r i t)
theorem DvA.reverse : ∀ {vs : List V} {ds : List D}, DvA K H m vs ds → DvA K H m vs.reverse ds.reverse
  | _, _, .nil => .nil
  | _, _, .cons r t => by
    rw [List.reverse_cons, List.reverse_cons]
    exact DvA.append (DvA.reverse t) (.cons r .nil)
theorem DvA.dropLast : ∀ {vs : List V} {ds : List D}, DvA K H m vs ds → DvA K H m vs.dropLast ds.dropLast
  | _, _, .nil => .nil
  | _, _, .cons _ .nil => .nil
  | _, _, .cons r (.cons q t) => .cons r (DvA.dropLast (.cons q t))
theorem DvA.rep {vs : List V} {ds : List D} (h : DvA K H m vs ds) : ∀ k : Nat, DvA K H m (List.replicate k vs).flatten (List.replicate k ds).flatten
  | 0 => .nil
  | k + 1 => by
    rw [List.replicate_succ, List.replicate_succ, List.flatten_cons, List.flatten_cons]
    exact DvA.append h (DvA.rep h k)
theorem DvA.ints : ∀ (ns : List Int), DvA K H m (ns.map V.int) (ns.map D.int)
  | [] => .nil
  | n :: r => .cons (.int n) (DvA.ints r)
theorem DvA.of_ints : ∀ {vs : List V} {ns : List Int}, DvA K H m vs (ns.map D.int) → vs = ns.map V.int
  | _, [], h => by cases h; rfl
  | _, n :: r, h => by
    cases h with
    | cons h1 h2 => cases h1; rw [DvA.of_ints h2]; rfl
theorem DvA.of_bls : ∀ {vs : List V} {ns : List Bool}, DvA K H m vs (ns.map D.bl) → vs = ns.map V.bl
  | _, [], h => by cases h; rfl
  | _, n :: r, h => by
    cases h with
    | cons h1 h2 => cases h1; rw [DvA.of_bls h2]; rfl
theorem DvA.of_strs : ∀ {vs : List V} {ns : List Str}, DvA K H m vs (ns.map D.str) → vs = ns.map V.str
  | _, [], h => by cases h; rfl
  | _, n :: r, h => by
    cases h with
    | cons h1 h2 => cases h1; rw [DvA.of_strs h2]; rfl
end

def ObR (K : PySem.W.Frag) (H : Hp) (m : Mp) (a : Addr) : Ob → Prop
  | .lst ds => ∃ vs, H a = some (.lst vs) ∧ DvA K H m vs ds
  | .dct kvs => ∃ kws : List (Key × V), H a = some (.dK kws) ∧ kws.map (·.1) = kvs.map (·.1) ∧ DvA K H m (kws.map (·.2)) (kvs.map (·.2))
theorem ObR.some {K : PySem.W.Frag} {H : Hp} {m : Mp} {a : Addr} {o : Ob} (h : ObR K H m a o) : H a ≠ none := by
  cases o with
  | lst ds => obtain ⟨vs, e, _⟩ := h; rw [e]; exact fun z => nomatch z
  | dct kvs => obtain ⟨vs, e, _⟩ := h; rw [e]; exact fun z => nomatch z
theorem ObR.mono {K : PySem.W.Frag} {H H' : Hp} {m m' : Mp} {a : Addr} {o : Ob} (k : Kp H H') (g : Gr m m') (e : H' a = H a) (h : ObR K H m a o) : ObR K H' m' a o := by
  cases o with
  | lst ds => obtain ⟨vs, q, r⟩ := h; exact ⟨vs, e.trans q, DvA.mono k g _ _ r⟩
  | dct kvs => obtain ⟨vs, q, n, r⟩ := h; exact ⟨vs, e.trans q, n, DvA.mono k g _ _ r⟩
/-- the store is held by the heap, by the map -/
structure Rel (K : PySem.W.Frag) (H : Hp) (m : Mp) (S : Sto) : Prop where
  len : m.length = S.length
  nd : m.Nodup
  ob : ∀ (i : Nat) (a : Addr) (o : Ob), m[i]? = some a → S[i]? = some o → ObR K H m a o
section
variable {K : PySem.W.Frag} {H : Hp} {m : Mp} {S : Sto}
theorem Rel.out (R : Rel K H m S) {p : Addr} (h : H p = none) : p ∉ m := fun hp => by
  obtain ⟨i, hi⟩ := List.getElem?_of_mem hp
  obtain ⟨hl, _⟩ := List.getElem?_eq_some_iff.mp hi
  have hl' : i < S.length := R.len ▸ hl
  have hs : S[i]? = some S[i] := List.getElem?_eq_getElem hl'
  exact (R.ob i p _ hi hs).some h
theorem Rel.ne (R : Rel K H m S) {p a : Addr} {i : Nat} (h : H p = none) (e : m[i]? = some a) : a ≠ p := fun z => R.out h (z ▸ List.mem_of_getElem? e)
/-- a new object that the store does not know -/
theorem Rel.new (R : Rel K H m S) {p : Addr} {o : HO} (h : H p = none) : Rel K (upd H p o) m S :=
  ⟨R.len, R.nd, fun i a ob e s => (R.ob i a ob e s).mono (.new h) (.refl m) (upd_ne (R.ne h e))⟩
/-- a new list -/
theorem Rel.push (R : Rel K H m S) {p : Addr} {vs : List V} {ds : List D} (h : H p = none) (r : DvA K H m vs ds) : Rel K (upd H p (.lst vs)) (m ++ [p]) (S ++ [.lst ds]) := by
  have k : Kp H (upd H p (.lst vs)) := .new h
  have g : Gr m (m ++ [p]) := ⟨[p], rfl⟩
  refine ⟨by rw [List.length_append, List.length_append, R.len]; rfl, ?_, fun i a o e s => ?_⟩
  · rw [List.nodup_append]
    exact ⟨R.nd, List.nodup_cons.mpr ⟨List.not_mem_nil, List.nodup_nil⟩, fun a ha b hb z => R.out h (by rw [List.mem_singleton.mp hb] at z; exact z ▸ ha)⟩
  · by_cases hi : i < m.length
    · rw [List.getElem?_append_left hi] at e
      rw [List.getElem?_append_left (R.len ▸ hi)] at s
      exact (R.ob i a o e s).mono k g (upd_ne (R.ne h e))
    · have hl : i < (m ++ [p]).length := (List.getElem?_eq_some_iff.mp e).1
      have hi' : i = m.length := by rw [List.length_append, List.length_singleton] at hl; omega
      subst hi'
      rw [List.getElem?_append_right (Nat.le_refl _), Nat.sub_self] at e
      rw [R.len, List.getElem?_append_right (Nat.le_refl _), Nat.sub_self] at s
      cases e
      cases s
      exact ⟨vs, upd_same, DvA.mono k g _ _ r⟩
theorem Rel.at (R : Rel K H m S) {i : Nat} {a : Addr} {o : Ob} (e : m[i]? = some a) (s : S[i]? = some o) : ObR K H m a o := R.ob i a o e s
/-- a list written -/
theorem Rel.put (R : Rel K H m S) {i : Nat} {a : Addr} {xs vs : List V} {ds : List D} (e : m[i]? = some a) (h : H a = some (.lst xs)) (r : DvA K H m vs ds) : Rel K (upd H a (.lst vs)) m (S.set i (.lst ds)) := by
  have k : Kp H (upd H a (.lst vs)) := .put h
  refine ⟨by rw [List.length_set]; exact R.len, R.nd, fun j b o e' s => ?_⟩
  by_cases hj : j = i
  · subst hj
    rw [e] at e'
    cases e'
    have hl : j < S.length := R.len ▸ (List.getElem?_eq_some_iff.mp e).1
    rw [List.getElem?_set_self hl] at s
    cases s
    exact ⟨vs, upd_same, DvA.mono k (.refl m) _ _ r⟩
  · rw [List.getElem?_set_ne (fun z => hj z.symm)] at s
    have hne : b ≠ a := fun z => hj (by
      subst z
      exact nodup_at R.nd e' e)
    exact (R.ob j b o e' s).mono k (.refl m) (upd_ne hne)
where
  nodup_at {l : List Addr} (nd : l.Nodup) {i j : Nat} {x : Addr} (a : l[i]? = some x) (b : l[j]? = some x) : i = j := by
    obtain ⟨h1, e1⟩ := List.getElem?_eq_some_iff.mp a
    obtain ⟨h2, e2⟩ := List.getElem?_eq_some_iff.mp b
    exact (List.getElem_inj nd).mp (e1.trans e2.symm)
end

/-- slots -/
structure EnvR (K : PySem.W.Frag) (H : Hp) (m : Mp) (σ : L2.St) (δ : DEnv) : Prop where
  len : σ.length = δ.length
  at_ : ∀ (i : Nat) (d : D), δ[i]? = some (some d) → ∃ v, σ[i]? = some (some v) ∧ Dv K H m v d
section
variable {K : PySem.W.Frag} {H H' : Hp} {m m' : Mp} {σ : L2.St} {δ : DEnv}
theorem EnvR.mono (k : Kp H H') (g : Gr m m') (e : EnvR K H m σ δ) : EnvR K H' m' σ δ :=
  ⟨e.len, fun i d h => let ⟨v, a, b⟩ := e.at_ i d h; ⟨v, a, Dv.mono k g _ _ b⟩⟩
theorem EnvR.set (e : EnvR K H m σ δ) (i : Nat) {v : V} {d : D} (r : Dv K H m v d) : EnvR K H m (σ.set i (some v)) (δ.set i (some d)) := by
  refine ⟨by rw [List.length_set, List.length_set]; exact e.len, fun j d' h => ?_⟩
  by_cases hj : j = i
  · subst hj
    have hl : j < δ.length := by
      have := (List.getElem?_eq_some_iff.mp h).1
      rwa [List.length_set] at this
    rw [List.getElem?_set_self hl] at h
    cases h
    exact ⟨v, by rw [List.getElem?_set_self (e.len ▸ hl)], r⟩
  · rw [List.getElem?_set_ne (fun z => hj z.symm)] at h
    obtain ⟨w, a, b⟩ := e.at_ j d' h
    exact ⟨w, by rw [List.getElem?_set_ne (fun z => hj z.symm)]; exact a, b⟩
end
end DL

set_option Elab.async false
set_option linter.all false
set_option maxRecDepth 100000
namespace DL
open PySem L2 PyProof.Rows

/-- a def's promise where no repr is under way -/
structure FnG (P : Program) (w : World) (K : PySem.W.Frag) (mg : Str → Option Value) (base : Heap)
    (CX : CXT) (k : Nat) (f : Addr) (fd : FuncData) (ps : List Str) (sp : Sp) : Prop where
  len : ∀ vs H Q E, sp vs H Q E → vs.length = ps.length
  run : ∀ (A : Around) (outer : List Env) (s : Shared) (H : Hp) (args : Args) (us : List Value) (vs : List V) (Q : VK) (E : XK),
    A.guards = some [] → Room k A → Env0 P w K mg base A outer s H → BindsTo s fd args (ps.zip us) →
    Vals vs us → sp vs H Q E → codeAny (model P w) A (.call (.ref f) args) (CR CX outer P w H s Q E) s
section
variable {P : Program} {w : World} {K : PySem.W.Frag} {mg : Str → Option Value} {base : Heap}
variable {CX : CXT} {j k : Nat} {f : Addr} {fd : FuncData} {ps : List Str} {sp sp' : Sp}
theorem FnG.mono (F : FnG P w K mg base CX j f fd ps sp) (h : j ≤ k) : FnG P w K mg base CX k f fd ps sp :=
  ⟨F.len, fun A o s H ar us vs Q E hg hr => F.run A o s H ar us vs Q E hg (hr.mono h)⟩
theorem FnG.imp (F : FnG P w K mg base CX k f fd ps sp) (h : ∀ vs H Q E, sp' vs H Q E → sp vs H Q E) :
    FnG P w K mg base CX k f fd ps sp' :=
  ⟨fun vs H Q E q => F.len vs H Q E (h _ _ _ _ q),
   fun A o s H ar us vs Q E hg hr he hb hv hs => F.run A o s H ar us vs Q E hg hr he hb hv (h _ _ _ _ hs)⟩
theorem guards_deeper {A : Around} (env : Env) (h : A.guards = some []) : (A.deeper env).guards = some [] := h

/-- from a body to the promise -/
theorem fnG_of {nm qual : Str} {prm : Arguments} {body : List Stmt} {sc : Scope} {dV kV doc pm cdv ct oc : Value}
    {an od : Option Addr} {osl : Array (Option Value)} {N : List Str}
    (lk : K.lookup f = some ⟨oc, od, .func (PySem.W.fnOf nm qual prm body sc dV kV doc pm an cdv ct), osl⟩)
    (hcd : PySem.W.codeIn K cdv qual = true) (S : FnScope N ps sc) (len : ∀ vs H Q E, sp vs H Q E → vs.length = ps.length)
    (hb0 : ∀ (A : Around) (outer : List Env) (s : Shared) (H : Hp) (vs : List V) (Q : VK) (E : XK),
      (A.deeper (envOfC qual sc s.heap.objs.size f cdv)).guards = some [] → Room k (A.deeper (envOfC qual sc s.heap.objs.size f cdv)) → sp vs H Q E →
      ∃ t, PSs (cxOf CX P w K mg base N qual sc f cdv A outer s H E) body t ∧
        t { nx := fun _ H' => Q .non H', rt := Q } (start N vs) H) :
    FnG P w K mg base CX (k + 1) f (PySem.W.fnOf nm qual prm body sc dV kV doc pm an cdv ct) ps sp := by
  refine ⟨len, fun A outer s H ar us vs Q E hgd hr e0 hb r hsp => ?_⟩
  have hlen := len _ _ _ _ hsp
  have KX : K.In s.heap := e0.mod.kin.keeps (fun b o e => (e0.bs b o e).1)
  have nol : s.heap.NoLimit := e0.mod.nolimit.keeps (fun b o e => (e0.bs b o e).1)
  have kinds : ∀ y ∈ ps.zip us, sc.names.lookup y.1 = some .local ∨
      (sc.names.lookup y.1 = some .cell ∧ ((cellsFrom (s.heap.objs.size + 1) sc.names []).lookup y.1).isSome = true) := by
    rintro ⟨n, v⟩ hy
    rcases S.par n (List.of_mem_zip hy).1 with q | q
    · exact .inl q
    · exact .inr ⟨q, PySem.W.cellsFrom_some _ _ _ (.inl q)⟩
  refine codeAny_call_function hr.depth (KX _ _ lk) rfl S.co S.gen rfl
    (PySem.W.codeRec_of KX hcd) (hb _ _ _ _ (wpAny_newFunctionEnv_cells S.kind kinds fun env he s1 x => ?_))
  subst he
  refine ⟨nol.keeps x.toInCall.keep, codeAny_func ?_⟩
  obtain ⟨t, ht, hq⟩ := hb0 A outer s H vs Q E (guards_deeper _ hgd) (hr.deeper _) hsp
  have J0 : Inv (cxOf CX P w K mg base N qual sc f cdv A outer s H E) [] (start N vs) H s1 :=
    inv_start S hr.hd e0 hlen r x
  refine wpAny_mono (ht.run [] s1 (start N vs) H _ J0 hq) ?_ (fun e s' hs => hs)
  intro fl s' hs
  match fl, hs with
  | .ret u, hs =>
    obtain ⟨v, σ', H', J, rv, q⟩ := hs
    exact ⟨v, H', J.os, J.bare, J.base, J.hok, rv, q⟩
  | .next, hs =>
    obtain ⟨σ', H', J, q⟩ := hs
    exact ⟨V.non, H', J.os, J.bare, J.base, J.hok, rfl, q⟩
  | .brk, hs =>
    obtain ⟨_, _, _, q⟩ := hs
    exact q.elim
  | .cont, hs =>
    obtain ⟨_, _, _, q⟩ := hs
    exact q.elim
/-- the context of a def's body -/
abbrev cxD (P : Program) (w : World) (K : PySem.W.Frag) (mg : Str → Option Value) (base : Heap) (N : List Str) (qual : Str) (st : Stmt) (f : Addr)
    (cdv : Value) (A : Around) (outer : List Env) (s : Shared) (H : Hp) (E : XK) : Cx :=
  (cxOf CX0 P w K mg base N qual (defScope st) f cdv A outer s H E).nox
/-- a def of the text -/
theorem funG {x qual : Str} {st : Stmt} {N : List Str} (F : Fun K x qual st f fd) (S : FnScope N ps (defScope st))
    (len : ∀ vs H Q E, sp vs H Q E → vs.length = ps.length)
    (hb0 : ∀ (cdv : Value) (A : Around) (outer : List Env) (s : Shared) (H : Hp) (E : XK),
      (cxD P w K mg base N qual st f cdv A outer s H E).A.guards = some [] → Room k (cxD P w K mg base N qual st f cdv A outer s H E).A →
      ∃ t, PSs (cxD P w K mg base N qual st f cdv A outer s H E) (defBody st) t ∧
        ∀ (H : Hp) (vs : List V) (Q : VK) (E : XK), sp vs H Q E → t { nx := fun _ H' => Q .non H', rt := Q } (start N vs) H) :
    FnG P w K mg base CX0 (k + 1) f fd ps sp := by
  obtain ⟨oc, od, kV, doc, pm, an, cdv, ct, osl, rfl, lk, hcd⟩ := F.ex
  refine fnG_of lk hcd S len (fun A outer s H vs Q E hg hr hsp => ?_)
  obtain ⟨t, h, q⟩ := hb0 cdv A outer s H E hg hr
  exact ⟨t, h.nox, q H vs Q E hsp⟩
end
section
variable {X : Cx} {CX : CXT} {k : Nat} {f : Addr} {fd : FuncData} {ps : List Str} {sp : Sp}
variable {dvs : List V} {ds : List Value} {E : XK} {x : Str} {p pos : Pos} {e : Expr} {es : List Expr} {t : TA}
theorem run_fnG {pins : List (Addr × Obj)} {σ : L2.St} {H : Hp} {s : Shared} {Q : VK} {us : List Value} {vs : List V}
    (F : FnG X.prog X.w X.K X.mg X.base CX k f fd ps sp) (hgd : X.A.guards = some []) (hr : Room k X.A)
    (hb : Binds X.K fd ps ds) (hd : Vals dvs ds) (hx : Passes CX X E) (I : Inv X pins σ H s) (r : Vals vs us)
    (h : sp (vs ++ dvs) H Q E) : wpAny (model X.prog X.w) X.A (call (.ref f) us) (EP X pins σ Q) X.xe s := by
  have r2 := Vals.append r hd
  have hl : (us ++ ds).length = ps.length := r2.length.symm.trans (F.len _ _ _ _ h)
  have go := F.run X.A X.stack s H ⟨us, []⟩ (us ++ ds) (vs ++ dvs) Q E hgd hr I.env0 (hb s us I.kIn hl) r2 h
  refine wpAny_call (codeAny_mono go ?_)
  intro res s' hq
  match res, hq with
  | .error er, hq => exact hx pins σ H s er s' I hq
  | .ok (.ret u), hq => exact I.after hq
  | .ok .next, hq => exact False.elim hq
  | .ok .brk, hq => exact False.elim hq
  | .ok .cont, hq => exact False.elim hq
theorem pe_callG (F : FnG X.prog X.w X.K X.mg X.base CX k f fd ps sp) (hgd : X.A.guards = some []) (hr : Room k X.A) (hg : Gl X x)
    (hm : X.mg x = some (.ref f)) (hk : PySem.W.keepIn X.K (.ref f) = true) (hb : Binds X.K fd ps ds) (hd : Vals dvs ds) (hx : Passes CX X E)
    (ha : PA X (e :: es) t) (hdb : (x == ("__debug__" : Str)) = false := by decide)
    (he : starEach (e :: es) X.env = (false, eval e X.env) :: starEach es X.env := by rfl)
    (hpl : (backTo pos (starEach es X.env)).any (·.1) = false := by rfl) :
    PE X (.Call (.Name x p) (e :: es) [] pos) (tCall sp dvs E t) := by
  constructor
  intro pins s σ H Q I h
  refine wpAny_Call_Name_kw (ld_glob I hg hm (PySem.W.callWith_K (h₀ := X.base) I.ok.mod.kin hk
    (thn (ha.run pos pins s σ H _ I h) ?_) he hpl) hdb)
  rintro us s1 ⟨vs, H1, I1, r, q⟩
  exact ⟨I1.kIn, run_fnG F hgd hr hb hd hx I1 r q⟩
end

/-- the law's own call, from an abstract heap that knows the script at most -/
theorem lawG0 {P : Program} {w : World} {K : PySem.W.Frag} {mg mb : Str → Option Value} {CX : CXT} {k : Nat} {fa a : Addr}
    {fd : FuncData} {x : Str} {sp : Sp} {s₁ : Shared} {vs : List Value} {H : Hp}
    (KX : K.In s₁.heap) (hns : s₁.heap.Ns mainGlobals mg) (hb : s₁.heap.Ns builtinsNs mb)
    (hbb : ∀ x : Str, x ≠ "__name__" → mb x = bootBuiltins x) (hlim : s₁.heap.NoLimit) (hg : s₁.gens = #[])
    (ha : s₁.heap.get? a = some { cls := .type "list", data := .seq vs.toArray }) (hr : Room k callerA)
    (hok : HOk P w H s₁.heap) (Hn : ∀ b, H b ≠ none → b = a ∧ K.lookup a = none ∧ ∃ o u, H a = some (.frz o u))
    (F : ∀ base : Heap, K.In base → base.Ns mainGlobals mg → FnG P w K mg base CX k fa fd [x] sp)
    (hbind : ∀ (s : Shared) (u : Value), BindsTo s fd ⟨[u], []⟩ [(x, u)])
    (hsp : sp [.ref a] H (fun v _ => v = .bl true) fun _ _ _ => False)
    (hCX : ∀ H e s', CX [] H s₁ (fun _ _ _ => False) e s' → False) :
    codeAny (model P w) callerA (.call (.ref fa) ⟨[.ref a], []⟩)
      (fun r s' => r = .ok (.ret (.bool true)) ∧ OldK s₁.heap s'.heap ∧ s'.os = s₁.os ∧ AllBare s'.gens) s₁ := by
  have no : ∀ b, (b = a → K.lookup a = none → False) → H b = none := fun b z => by
    cases q : H b with
    | none => rfl
    | some u =>
      obtain ⟨e, e2, _⟩ := Hn b (by rw [q]; exact fun z => nomatch z)
      exact (z e e2).elim
  have nsK : ∀ {b : Addr} {m : Str → Option Value}, s₁.heap.Ns b m → (hidT s₁.heap H).Ns b m := by
    rintro b m ⟨o, es, ep, e, d, r⟩
    refine ⟨o, es, ep, hidT_get e (no b (fun z _ => ?_)), d, r⟩
    subst z
    rw [ha] at e
    cases e
    exact nomatch (show Data.seq vs.toArray _ = Data.dict es ep from d)
  have hKb : K.In (hidT s₁.heap H) := fun b o e => hidT_get (KX b o e) (no b (fun z z2 => by rw [z, z2] at e; cases e))
  have hM : Mod K mg (hidT s₁.heap H) := ⟨hKb, nsK hns, ⟨mb, nsK hb, hbb⟩, let ⟨mc, h1, h2⟩ := hlim; ⟨mc, nsK h1, h2⟩⟩
  have e0 : Env0 P w K mg (hidT s₁.heap H) callerA [] s₁ H :=
    ⟨rfl, hM, fun b o e => of_hidT e, Nat.le_of_eq (hidT_size _ _), trivial, fun b hb => (List.not_mem_nil hb).elim, hok, .of_eq hg⟩
  have go := (F _ hKb (nsK hns)).run callerA [] s₁ H ⟨[.ref a], []⟩ [.ref a] [.ref a] _ _ rfl hr e0 (hbind s₁ (.ref a)) (.cons rfl .nil) hsp
  refine codeAny_mono go ?_
  intro res s' h
  match res, h with
  | .error e, h => exact (hCX H e s' h).elim
  | .ok .next, h => exact False.elim h
  | .ok .brk, h => exact False.elim h
  | .ok .cont, h => exact False.elim h
  | .ok (.ret u), h =>
    obtain ⟨v, H', os, bare, un, hok', r', q⟩ := h
    obtain rfl : v = .bl true := q
    obtain rfl : u = Value.bool true := r'
    refine ⟨rfl, OldK.of_keep (fun b o e => ?_), os, bare⟩
    by_cases hba : H b = none
    · exact un.keep b o e hba (fun z => List.not_mem_nil z) List.not_mem_nil
    · obtain ⟨rfl, _, ob, u, Ha⟩ := Hn b hba
      obtain ⟨e1, _⟩ := hok b _ Ha
      obtain ⟨e2, _⟩ := hok' b _ (un.frzs b ob _ Ha)
      rw [e] at e1
      cases e1
      exact e2
theorem lawG {P : Program} {w : World} {K : PySem.W.Frag} {mg mb : Str → Option Value} {CX : CXT} {k : Nat} {fa a : Addr}
    {fd : FuncData} {x : Str} {sp : Sp} {s₁ : Shared} {vs : List Value} {ns : List Int}
    (KX : K.In s₁.heap) (hns : s₁.heap.Ns mainGlobals mg) (hb : s₁.heap.Ns builtinsNs mb)
    (hbb : ∀ x : Str, x ≠ "__name__" → mb x = bootBuiltins x) (hlim : s₁.heap.NoLimit) (hg : s₁.gens = #[])
    (ha : s₁.heap.get? a = some { cls := .type "list", data := .seq vs.toArray }) (hi : IntsAre vs ns)
    (hl : ns.length ≤ sizeLine) (hr : Room k callerA)
    (F : ∀ base : Heap, K.In base → base.Ns mainGlobals mg → FnG P w K mg base CX k fa fd [x] sp)
    (hbind : ∀ (s : Shared) (u : Value), BindsTo s fd ⟨[u], []⟩ [(x, u)])
    (hsp : ∀ (H : Hp), ScrAt K H a (ns.map V.int) → sp [.ref a] H (fun v _ => v = .bl true) fun _ _ _ => False)
    (hCX : ∀ H e s', CX [] H s₁ (fun _ _ _ => False) e s' → False) :
    codeAny (model P w) callerA (.call (.ref fa) ⟨[.ref a], []⟩)
      (fun r s' => r = .ok (.ret (.bool true)) ∧ OldK s₁.heap s'.heap ∧ s'.os = s₁.os ∧ AllBare s'.gens) s₁ := by
  have rv := vals_ints hi
  cases hk : K.lookup a with
  | some o =>
    have e := KX a o hk
    rw [ha] at e
    cases e
    refine lawG0 (H := fun _ => none) KX hns hb hbb hlim hg ha hr (fun b u z => nomatch z) (fun b z => (z rfl).elim) F hbind (hsp _ (.inr ?_)) hCX
    exact ⟨_, vs.toArray, _, hk, rfl, rfl, rfl, by rw [List.size_toArray, hi.length]; exact hl, by simpa using rv⟩
  | none =>
    let ob : Obj := { cls := .type "list", data := .seq vs.toArray }
    let H : Hp := fun b => if b = a then some (.frz ob (.lst (ns.map V.int))) else none
    have Ha : H a = some (.frz ob (.lst (ns.map V.int))) := if_pos rfl
    have Hn : ∀ b, b ≠ a → H b = none := fun b hb => if_neg hb
    refine lawG0 (H := H) KX hns hb hbb hlim hg ha hr (fun b u z => ?_) (fun b z => ?_) F hbind (hsp _ (.inl ⟨_, Ha⟩)) hCX
    · by_cases e : b = a
      · subst e
        rw [Ha] at z
        cases z
        exact ⟨ha, by rw [List.length_map]; exact hl, vs, _, rv, ha⟩
      · rw [Hn b e] at z
        cases z
    · by_cases e : b = a
      · exact ⟨e, hk, _, _, Ha⟩
      · exact (z (Hn b e)).elim
/-- the goal that the head leaves -/
theorem walkG {l : PySem.W.OpenLaw} {n k : Nat} {q : Program} {loose : List Str} {XP : (Str → Option Value) → Heap → Prop} {YP : World → Heap → Prop}
    {d : DefRec} {K : Params → PySem.W.Frag} {CX : World → CXT} {sp : World → Sp} {x : Str}
    (hn : l.most = some n) (hn2 : n ≤ sizeLine) (hdf : d.params.defaults = []) (hr : Room k callerA)
    (hY : ∀ (w : World) (h : Heap), YP w h → (K w.params).In h)
    (F : ∀ (w : World) (mg : Str → Option Value) (fa : Addr) (h : Heap), (K w.params).In h → h.Ns mainGlobals mg → mg d.name = some (.ref fa) →
      ∃ fd : FuncData, (∀ (s : Shared) (u : Value), BindsTo s fd ⟨[u], []⟩ [(x, u)]) ∧
      ∀ base : Heap, (K w.params).In base → base.Ns mainGlobals mg → FnG l.prog w (K w.params) mg base (CX w) k fa fd [x] (sp w))
    (hsp : ∀ (w : World) (H : Hp) (a : Addr) (ns : List Int), ns.length ≤ n → ScrAt (K w.params) H a (ns.map V.int) →
      sp w [.ref a] H (fun v _ => v = .bl true) fun _ _ _ => False)
    (hCX : ∀ (w : World) (H : Hp) (s : Shared) (e : Value) (s' : Shared), CX w [] H s (fun _ _ _ => False) e s' → False) :
    PySem.W.WalkO q loose XP YP l.row.toRowW d [] (fun f vs => PySem.call f vs) := by
  refine Att.attach_call hn hdf ?_
  intro w s₀ s₁ mg mb fa o pm cd doc a vs ns G Y ho hd hcd hmg hobj hints hlen hg
  have KX := hY w _ Y
  obtain ⟨fd, hb, hF⟩ := F w mg fa _ KX G.T.g hmg
  exact lawG KX G.T.g G.T.b G.T.builtins G.T.nolimit hg hobj hints (Nat.le_trans hlen hn2) hr hF hb
    (fun H hS => hsp w H a ns hlen hS) (fun H e s' => hCX w H s₁ e s')
end DL

set_option Elab.async false
set_option linter.all false
set_option maxRecDepth 100000
set_option maxHeartbeats 1000000
namespace DL
open PySem L2 PyProof.Rows

abbrev DK := D → Sto → Prop
abbrev DE := DEnv → Sto → DK → Prop
abbrev DT := DEnv → Sto → (Bool → Sto → Prop) → Prop
abbrev DA := DEnv → Sto → (List D → Sto → Prop) → Prop
def Cont (K : PySem.W.Frag) (H : Hp) (m : Mp) (Q' : DK) (Q : VK) : Prop :=
  ∀ d S' v H' m', Q' d S' → Kp H H' → Gr m m' → Rel K H' m' S' → Dv K H' m' v d → Q v H'
def ContB (K : PySem.W.Frag) (H : Hp) (m : Mp) (Q' : Bool → Sto → Prop) (Q : Bool → Hp → Prop) : Prop :=
  ∀ b S' H' m', Q' b S' → Kp H H' → Gr m m' → Rel K H' m' S' → Q b H'
def ContA (K : PySem.W.Frag) (H : Hp) (m : Mp) (Q' : List D → Sto → Prop) (Q : List V → Hp → Prop) : Prop :=
  ∀ ds S' vs H' m', Q' ds S' → Kp H H' → Gr m m' → Rel K H' m' S' → DvA K H' m' vs ds → Q vs H'
def SimE (K : PySem.W.Frag) (te : TE) (t : DE) : Prop := ∀ (σ : L2.St) (H : Hp) (m : Mp) (S : Sto) (δ : DEnv) (Q : VK) (Q' : DK),
  Rel K H m S → EnvR K H m σ δ → t δ S Q' → Cont K H m Q' Q → te σ H Q
def SimT (K : PySem.W.Frag) (te : TT) (t : DT) : Prop := ∀ (σ : L2.St) (H : Hp) (m : Mp) (S : Sto) (δ : DEnv) (Q : Bool → Hp → Prop) (Q' : Bool → Sto → Prop),
  Rel K H m S → EnvR K H m σ δ → t δ S Q' → ContB K H m Q' Q → te σ H Q
def SimA (K : PySem.W.Frag) (te : TA) (t : DA) : Prop := ∀ (σ : L2.St) (H : Hp) (m : Mp) (S : Sto) (δ : DEnv) (Q : List V → Hp → Prop) (Q' : List D → Sto → Prop),
  Rel K H m S → EnvR K H m σ δ → t δ S Q' → ContA K H m Q' Q → te σ H Q
structure PD (X : Cx) (e : Expr) (te : TE) (t : DE) : Prop where
  pe : PE X e te
  sim : SimE X.K te t
structure PTD (X : Cx) (e : Expr) (te : TT) (t : DT) : Prop where
  pe : PT X e te
  sim : SimT X.K te t
structure PWD (X : Cx) (e : Expr) (te : TT) (t : DT) : Prop where
  pe : PW X e te
  sim : SimT X.K te t
structure PAD (X : Cx) (e : List Expr) (te : TA) (t : DA) : Prop where
  pe : PA X e te
  sim : SimA X.K te t
structure OpD (X : Cx) (f : Value → Value → Sem Value) (r : R2) (r' : D → D → Sto → DK → Prop) : Prop where
  op : OpR X f r
  sim : ∀ (H : Hp) (m : Mp) (S : Sto) (x y : D) (vx vy : V) (Q : VK) (Q' : DK), Rel X.K H m S → Dv X.K H m vx x → Dv X.K H m vy y → r' x y S Q' → Cont X.K H m Q' Q → r vx vy H Q
structure CallD (X : Cx) (f : Value) (r : List V → Hp → VK → Prop) (r' : List D → Sto → DK → Prop) : Prop where
  op : CallR X f r
  sim : ∀ (H : Hp) (m : Mp) (S : Sto) (xs : List D) (vs : List V) (Q : VK) (Q' : DK), Rel X.K H m S → DvA X.K H m vs xs → r' xs S Q' → Cont X.K H m Q' Q → r vs H Q

section
variable {K : PySem.W.Frag} {H H' : Hp} {m m' : Mp} {S : Sto} {Q' : DK} {Q : VK}
theorem Cont.mono (k : Kp H H') (g : Gr m m') (c : Cont K H m Q' Q) : Cont K H' m' Q' Q := fun d S' v H2 m2 q k2 g2 R r => c d S' v H2 m2 q (k.trans k2) (g.trans g2) R r
theorem ContB.mono {Q' : Bool → Sto → Prop} {Q : Bool → Hp → Prop} (k : Kp H H') (g : Gr m m') (c : ContB K H m Q' Q) : ContB K H' m' Q' Q := fun b S' H2 m2 q k2 g2 R => c b S' H2 m2 q (k.trans k2) (g.trans g2) R
theorem ContA.mono {Q' : List D → Sto → Prop} {Q : List V → Hp → Prop} (k : Kp H H') (g : Gr m m') (c : ContA K H m Q' Q) : ContA K H' m' Q' Q := fun d S' v H2 m2 q k2 g2 R r => c d S' v H2 m2 q (k.trans k2) (g.trans g2) R r
theorem Cont.same {v : V} {d : D} (c : Cont K H m Q' Q) (R : Rel K H m S) (q : Q' d S) (r : Dv K H m v d) : Q v H := c d S v H m q (.refl H) (.refl m) R r
theorem Cont.newL {vs : List V} {ds : List D} (c : Cont K H m Q' Q) (R : Rel K H m S) (r : DvA K H m vs ds) (q : Q' (.loc S.length) (S ++ [.lst ds])) : ∀ p, H p = none → Q (.ref p) (upd H p (.lst vs)) := fun p hp =>
  c (.loc S.length) _ _ _ (m ++ [p]) q (.new hp) ⟨[p], rfl⟩ (R.push hp r) (.loc (by rw [← R.len, List.getElem?_append_right (Nat.le_refl _), Nat.sub_self]; rfl))
theorem Cont.newT {vs : List V} {ds : List D} (c : Cont K H m Q' Q) (R : Rel K H m S) (r : DvA K H m vs ds) (q : Q' (.tup ds) S) : ∀ p, H p = none → Q (.ref p) (upd H p (.tup vs)) := fun p hp =>
  c (.tup ds) _ _ _ m q (.new hp) (.refl m) (R.new hp) (.tup (SqT.of upd_same) (DvA.mono (.new hp) (.refl m) _ _ r))
theorem Rel.lst (R : Rel K H m S) {i : Nat} {v : V} {ds : List D} (d : Dv K H m v (.loc i)) (s : S[i]? = some (.lst ds)) : ∃ a vs, v = .ref a ∧ m[i]? = some a ∧ H a = some (.lst vs) ∧ DvA K H m vs ds := by
  cases d with
  | loc e =>
    obtain ⟨vs, h, r⟩ := R.ob i _ _ e s
    exact ⟨_, vs, rfl, e, h, r⟩
theorem small5 {n : Nat} (h : n ≤ 100000) : n ≤ sizeLine := Nat.le_trans h (by decide)
theorem small5' {n : Nat} (h : n < 100000) : n < sizeLine := Nat.lt_of_lt_of_le h (by decide)
theorem DvA.atI {vs : List V} {ds : List D} {i : Int} {d : D} (r : DvA K H m vs ds) (h : atI ds i = some d) : ∃ v, L2.atI vs i = some v ∧ Dv K H m v d := by
  unfold L2.atI at h ⊢
  rw [r.length]
  cases e : ixN ds.length i with
  | none => rw [e] at h; cases h
  | some j =>
    rw [e] at h
    have h' : ds[j]? = some d := h
    obtain ⟨v, h1, h2⟩ := r.get h'
    exact ⟨v, h1, h2⟩
theorem DvA.cut {vs : List V} {ds : List D} (lo hi : Option Int) (r : DvA K H m vs ds) : DvA K H m (cutV vs lo hi) ((ds.drop (HT.sIx ds.length 0 lo)).take (HT.sIx ds.length ds.length hi - HT.sIx ds.length 0 lo)) := by
  unfold cutV
  rw [r.length]
  exact (r.drop _).take _
end

/-! ### names, constants -/
section
variable {X : Cx} {pos : Pos}
@[simp] def dVar (i : Nat) : DE := fun δ S Q => ∃ d, δ[i]? = some (some d) ∧ Q d S
@[simp] def dC (d : D) : DE := fun _ S Q => Q d S
theorem sim_var {K : PySem.W.Frag} {i : Nat} : SimE K (tVar i) (dVar i) := fun σ H m S δ Q Q' R e ⟨d, h, q⟩ c =>
  let ⟨v, h1, h2⟩ := e.at_ i d h
  ⟨v, h1, c.same R q h2⟩
theorem dv (i : Nat) {x : Str} {pos : Pos} (hN : X.N[i]? = some x := by rfl) (hv : Vis X.env.scope x := by first | exact Or.inl rfl | exact Or.inr (Or.inl rfl) | exact Or.inr (Or.inr rfl)) (hd : (x == ("__debug__" : Str)) = false := by decide)
    (hcd : (x == ("__classdict__" : Str)) = false := by decide) : PD X (.Name x pos) (tVar i) (dVar i) := ⟨pe_var hN hv hd hcd, sim_var⟩
theorem sim_c {K : PySem.W.Frag} {v : V} {d : D} (h : ∀ H m, Dv K H m v d) : SimE K (tC v) (dC d) := fun σ H m S δ Q Q' R e q c => c.same R q (h H m)
theorem d_int {i j} : PD X (.Constant (.int i) j pos) (tC (.int i)) (dC (.int i)) := ⟨pe_int, sim_c fun _ _ => .int i⟩
theorem d_bl {b j} : PD X (.Constant (.bool b) j pos) (tC (.bl b)) (dC (.bl b)) := ⟨pe_bl, sim_c fun _ _ => .bl b⟩
theorem d_non {j} : PD X (.Constant .none j pos) (tC .non) (dC .non) := ⟨pe_non, sim_c fun _ _ => .non⟩
theorem d_str {x j} : PD X (.Constant (.str x) j pos) (tC (.str x)) (dC (.str x)) := ⟨pe_str, sim_c fun _ _ => .str x⟩
/-- a constant of the module -/
structure GlD (K : PySem.W.Frag) (mg : Str → Option Value) (x : Str) (v : V) (d : D) : Prop where
  ex : ∃ u, mg x = some u ∧ RelV v u
  dv : ∀ H m, Dv K H m v d
theorem d_glob {x : Str} {v : V} {d : D} (hg : Gl X x) (g : GlD X.K X.mg x v d) (hd : (x == ("__debug__" : Str)) = false := by decide) : PD X (.Name x pos) (tC v) (dC d) :=
  let ⟨_, hm, r⟩ := g.ex
  ⟨pe_glob hg hm r hd, sim_c g.dv⟩
end

/-! ### argument lists, displays -/
section
variable {X : Cx} {pos : Pos} {e : Expr} {es : List Expr} {te : TE} {t : DE} {ta : TA} {u : DA}
@[simp] def dNil : DA := fun _ S Q => Q [] S
@[simp] def dCons (t : DE) (u : DA) : DA := fun δ S Q => t δ S fun d S1 => u δ S1 fun ds S2 => Q (d :: ds) S2
theorem da_nil : PAD X [] tNil dNil := ⟨pa_nil, fun σ H m S δ Q Q' R e q c => c [] S [] H m q (.refl H) (.refl m) R .nil⟩
theorem sim_cons {K : PySem.W.Frag} (h : SimE K te t) (hr : SimA K ta u) : SimA K (tCons te ta) (dCons t u) := fun σ H m S δ Q Q' R e q c =>
  h σ H m S δ _ _ R e q fun d S1 v H1 m1 q1 k1 g1 R1 r1 =>
    hr σ H1 m1 S1 δ _ _ R1 (e.mono k1 g1) q1 fun ds S2 vs H2 m2 q2 k2 g2 R2 r2 => c _ _ _ _ m2 q2 (k1.trans k2) (g1.trans g2) R2 (.cons (Dv.mono k2 g2 _ _ r1) r2)
theorem da_cons (h : PD X e te t) (hr : PAD X es ta u) (hs : starEach (e :: es) X.env = (false, eval e X.env) :: starEach es X.env := by rfl) : PAD X (e :: es) (tCons te ta) (dCons t u) :=
  ⟨pa_cons h.pe hr.pe hs, sim_cons h.sim hr.sim⟩
@[simp] def dTup (u : DA) : DE := fun δ S Q => u δ S fun ds S1 => ds.length ≤ 100000 ∧ Q (.tup ds) S1
@[simp] def dLst (u : DA) : DE := fun δ S Q => u δ S fun ds S1 => ds.length ≤ 100000 ∧ Q (.loc S1.length) (S1 ++ [.lst ds])
theorem d_tup {x1} (h : PAD X es ta u) : PD X (.Tuple es x1 pos) (tTup ta) (dTup u) := ⟨pe_tup h.pe, fun σ H m S δ Q Q' R e q c =>
  h.sim σ H m S δ _ _ R e q fun ds S1 vs H1 m1 ⟨hl, q1⟩ k1 g1 R1 r1 => ⟨by rw [r1.length]; exact small5 hl, (c.mono k1 g1).newT R1 r1 q1⟩⟩
theorem d_lst (h : PAD X es ta u) : PD X (.List es pos) (tLst ta) (dLst u) := ⟨pe_lst h.pe, fun σ H m S δ Q Q' R e q c =>
  h.sim σ H m S δ _ _ R e q fun ds S1 vs H1 m1 ⟨hl, q1⟩ k1 g1 R1 r1 => ⟨by rw [r1.length]; exact small5 hl, (c.mono k1 g1).newL R1 r1 q1⟩⟩
end

/-! ### operators -/
section
variable {X : Cx} {pos : Pos} {a b c : Expr} {ta tb tc : TE} {t u w : DE} {r r2 : R2} {r' r2' : D → D → Sto → DK → Prop} {f : Value → Value → Sem Value}
@[simp] def dOp (r' : D → D → Sto → DK → Prop) (t u : DE) : DE := fun δ S Q => t δ S fun x S1 => u δ S1 fun y S2 => r' x y S2 Q
theorem sim_op {K : PySem.W.Frag} (h1 : SimE K ta t) (h2 : SimE K tb u) (h3 : ∀ (H : Hp) (m : Mp) (S : Sto) (x y : D) (vx vy : V) (Q : VK) (Q' : DK), Rel K H m S → Dv K H m vx x → Dv K H m vy y → r' x y S Q' → Cont K H m Q' Q → r vx vy H Q) :
    SimE K (tOp r ta tb) (dOp r' t u) := fun σ H m S δ Q Q' R e q c =>
  h1 σ H m S δ _ _ R e q fun x S1 vx H1 m1 q1 k1 g1 R1 r1 =>
    h2 σ H1 m1 S1 δ _ _ R1 (e.mono k1 g1) q1 fun y S2 vy H2 m2 q2 k2 g2 R2 r2 =>
      h3 H2 m2 S2 x y vx vy Q Q' R2 (Dv.mono k2 g2 _ _ r1) r2 q2 (c.mono (k1.trans k2) (g1.trans g2))
theorem d_op {op : Operator} (o : OpD X (binaryOp op) r r') (h1 : PD X a ta t) (h2 : PD X b tb u) : PD X (.BinOp a op b pos) (tOp r ta tb) (dOp r' t u) := ⟨pe_op o.op h1.pe h2.pe, sim_op h1.sim h2.sim o.sim⟩
theorem d_cmp {op : CmpOp} (o : OpD X (compareOp op) r r') (h1 : PD X a ta t) (h2 : PD X b tb u) (hm : behindInMarks op b = false) : PD X (.Compare a [op] [b] pos) (tOp r ta tb) (dOp r' t u) := ⟨pe_cmpR o.op h1.pe h2.pe hm, sim_op h1.sim h2.sim o.sim⟩
@[simp] def dTest (t : DE) : DT := fun δ S Q => t δ S fun d S1 => ∃ k, d = .bl k ∧ Q k S1
theorem sim_test {K : PySem.W.Frag} (h : SimE K ta t) : SimT K (tTest ta) (dTest t) := fun σ H m S δ Q Q' R e q c =>
  h σ H m S δ _ _ R e q fun d S1 v H1 m1 ⟨k, ek, q1⟩ k1 g1 R1 r1 => by
    subst ek
    cases r1
    exact ⟨k, rfl, c k S1 H1 m1 q1 k1 g1 R1⟩
theorem sim_B {K : PySem.W.Frag} (h : SimE K ta t) : SimT K (tB ta) (dTest t) := sim_test h
theorem dt_cmp {op : CmpOp} (o : OpD X (compareOp op) r r') (h1 : PD X a ta t) (h2 : PD X b tb u) (hm : behindInMarks op b = false) : PTD X (.Compare a [op] [b] pos) (tTest (tOp r ta tb)) (dTest (dOp r' t u)) :=
  ⟨pt_cmpR o.op h1.pe h2.pe hm, sim_test (sim_op h1.sim h2.sim o.sim)⟩
@[simp] def dChain (r' r2' : D → D → Sto → DK → Prop) (t u w : DE) : DE := fun δ S Q => t δ S fun x S1 => u δ S1 fun y S2 => r' x y S2 fun z S3 => ∃ k, z = .bl k ∧ (if k = true then w δ S3 fun z2 S4 => r2' y z2 S4 Q else Q (.bl false) S3)
theorem sim_chain {K : PySem.W.Frag} (h1 : SimE K ta t) (h2 : SimE K tb u) (h0 : SimE K tc w) (h3 : ∀ (H : Hp) (m : Mp) (S : Sto) (x y : D) (vx vy : V) (Q : VK) (Q' : DK), Rel K H m S → Dv K H m vx x → Dv K H m vy y → r' x y S Q' → Cont K H m Q' Q → r vx vy H Q)
    (h4 : ∀ (H : Hp) (m : Mp) (S : Sto) (x y : D) (vx vy : V) (Q : VK) (Q' : DK), Rel K H m S → Dv K H m vx x → Dv K H m vy y → r2' x y S Q' → Cont K H m Q' Q → r2 vx vy H Q) :
    SimE K (tChain r r2 ta tb tc) (dChain r' r2' t u w) := by
  intro σ H m S δ Q Q' R e q c
  refine h1 σ H m S δ _ _ R e q ?_
  intro x S1 vx H1 m1 q1 k1 g1 R1 r1
  refine h2 σ H1 m1 S1 δ _ _ R1 (e.mono k1 g1) q1 ?_
  intro y S2 vy H2 m2 q2 k2 g2 R2 ry
  refine h3 H2 m2 S2 x y vx vy _ _ R2 (Dv.mono k2 g2 _ _ r1) ry q2 ?_
  intro z S3 vz H3 m3 q3 k3 g3 R3 r3
  obtain ⟨k, ek, q3⟩ := q3
  subst ek
  cases r3
  refine ⟨k, rfl, ?_⟩
  have kk := (k1.trans k2).trans k3
  have gg := (g1.trans g2).trans g3
  cases k with
  | false => exact c _ _ _ _ m3 q3 kk gg R3 (.bl false)
  | true =>
    refine h0 σ H3 m3 S3 δ _ _ R3 (e.mono kk gg) q3 ?_
    intro z2 S4 v2 H4 m4 q4 k4 g4 R4 r4
    exact h4 H4 m4 S4 y z2 vy v2 Q Q' R4 (Dv.mono (k3.trans k4) (g3.trans g4) _ _ ry) r4 q4 (c.mono (kk.trans k4) (gg.trans g4))
theorem d_chain {op op' : CmpOp} (o : OpD X (compareOp op) r r') (o' : OpD X (compareOp op') r2 r2') (h1 : PD X a ta t) (h2 : PD X b tb u) (h3 : PD X c tc w) (hm : lastMarks [op, op'] [b, c] = false := by with_unfolding_all rfl) :
    PD X (.Compare a [op, op'] [b, c] pos) (tChain r r2 ta tb tc) (dChain r' r2' t u w) := ⟨pe_chain o.op o'.op h1.pe h2.pe h3.pe hm, sim_chain h1.sim h2.sim h3.sim o.sim o'.sim⟩
theorem dt_chain {op op' : CmpOp} (o : OpD X (compareOp op) r r') (o' : OpD X (compareOp op') r2 r2') (h1 : PD X a ta t) (h2 : PD X b tb u) (h3 : PD X c tc w) (hm : lastMarks [op, op'] [b, c] = false := by with_unfolding_all rfl) :
    PTD X (.Compare a [op, op'] [b, c] pos) (tTest (tChain r r2 ta tb tc)) (dTest (dChain r' r2' t u w)) := ⟨pt_chain o.op o'.op h1.pe h2.pe h3.pe hm, sim_test (sim_chain h1.sim h2.sim h3.sim o.sim o'.sim)⟩
theorem dt_val {e : Expr} (h : PD X e ta t) (he : ∀ whole, isTrue e X.env whole = (do let v ← whole; standAt e.pos; holding [v] (truthy v)) := by intro _; rfl) : PTD X e (tB ta) (dTest t) := ⟨pt_val h.pe he, sim_B h.sim⟩

/-! ### and, or, not -/
variable {tA tB' : TT} {dA dB : DT} {rest : List Expr}
@[simp] def dAnd (t u : DT) : DT := fun δ S Q => t δ S fun k S1 => if k = true then u δ S1 Q else Q false S1
@[simp] def dOr (t u : DT) : DT := fun δ S Q => t δ S fun k S1 => if k = true then Q true S1 else u δ S1 Q
@[simp] def dNot (t : DT) : DT := fun δ S Q => t δ S fun k S1 => Q (!k) S1
theorem dw_and1 (h : PTD X a tA dA) : PWD X (.BoolOp .And [a] pos) tA dA := ⟨pw_and1 h.pe, h.sim⟩
theorem dw_or1 (h : PTD X a tA dA) : PWD X (.BoolOp .Or [a] pos) tA dA := ⟨pw_or1 h.pe, h.sim⟩
theorem dw_and (h : PTD X a tA dA) (h2 : PWD X (.BoolOp .And (b :: rest) pos) tB' dB) : PWD X (.BoolOp .And (a :: b :: rest) pos) (tAnd tA tB') (dAnd dA dB) := ⟨pw_and h.pe h2.pe, fun σ H m S δ Q Q' R e q c =>
  h.sim σ H m S δ _ _ R e q fun k S1 H1 m1 q1 k1 g1 R1 => by
    cases k with
    | true => exact h2.sim σ H1 m1 S1 δ _ _ R1 (e.mono k1 g1) q1 (c.mono k1 g1)
    | false => exact c false S1 H1 m1 q1 k1 g1 R1⟩
theorem dw_or (h : PTD X a tA dA) (h2 : PWD X (.BoolOp .Or (b :: rest) pos) tB' dB) : PWD X (.BoolOp .Or (a :: b :: rest) pos) (tOr tA tB') (dOr dA dB) := ⟨pw_or h.pe h2.pe, fun σ H m S δ Q Q' R e q c =>
  h.sim σ H m S δ _ _ R e q fun k S1 H1 m1 q1 k1 g1 R1 => by
    cases k with
    | false => exact h2.sim σ H1 m1 S1 δ _ _ R1 (e.mono k1 g1) q1 (c.mono k1 g1)
    | true => exact c true S1 H1 m1 q1 k1 g1 R1⟩
theorem dt_w (h : PWD X a tA dA) : PTD X a tA dA := ⟨h.pe.pt, h.sim⟩
theorem dt_not (h : PTD X a tA dA) : PTD X (.UnaryOp .Not a pos) (tNot tA) (dNot dA) := ⟨pt_not h.pe, fun σ H m S δ Q Q' R e q c =>
  h.sim σ H m S δ _ _ R e q fun k S1 H1 m1 q1 k1 g1 R1 => c (!k) S1 H1 m1 q1 k1 g1 R1⟩
@[simp] def dAndV (t u : DE) : DE := fun δ S Q => t δ S fun x S1 => ∃ k, x = .bl k ∧ if k = true then u δ S1 Q else Q (.bl false) S1
@[simp] def dOrV (t u : DE) : DE := fun δ S Q => t δ S fun x S1 => ∃ k, x = .bl k ∧ if k = true then Q (.bl true) S1 else u δ S1 Q
@[simp] def dNotV (t : DE) : DE := fun δ S Q => t δ S fun x S1 => ∃ k, x = .bl k ∧ Q (.bl (!k)) S1
theorem d_one {op} (h : PD X a ta t) : PD X (.BoolOp op [a] pos) ta t := ⟨pe_one h.pe, h.sim⟩
theorem d_and (h : PD X a ta t) (h2 : PD X (.BoolOp .And (b :: rest) pos) tb u) : PD X (.BoolOp .And (a :: b :: rest) pos) (tAndV ta tb) (dAndV t u) := ⟨pe_and h.pe h2.pe, fun σ H m S δ Q Q' R e q c =>
  h.sim σ H m S δ _ _ R e q fun x S1 v H1 m1 ⟨k, ek, q1⟩ k1 g1 R1 r1 => by
    subst ek
    cases r1
    refine ⟨k, rfl, ?_⟩
    cases k with
    | true => exact h2.sim σ H1 m1 S1 δ _ _ R1 (e.mono k1 g1) q1 (c.mono k1 g1)
    | false => exact c _ S1 _ H1 m1 q1 k1 g1 R1 (.bl false)⟩
theorem d_or (h : PD X a ta t) (h2 : PD X (.BoolOp .Or (b :: rest) pos) tb u) : PD X (.BoolOp .Or (a :: b :: rest) pos) (tOrV ta tb) (dOrV t u) := ⟨pe_or h.pe h2.pe, fun σ H m S δ Q Q' R e q c =>
  h.sim σ H m S δ _ _ R e q fun x S1 v H1 m1 ⟨k, ek, q1⟩ k1 g1 R1 r1 => by
    subst ek
    cases r1
    refine ⟨k, rfl, ?_⟩
    cases k with
    | false => exact h2.sim σ H1 m1 S1 δ _ _ R1 (e.mono k1 g1) q1 (c.mono k1 g1)
    | true => exact c _ S1 _ H1 m1 q1 k1 g1 R1 (.bl true)⟩
theorem d_not (h : PD X a ta t) : PD X (.UnaryOp .Not a pos) (tNotV ta) (dNotV t) := ⟨pe_not h.pe, fun σ H m S δ Q Q' R e q c =>
  h.sim σ H m S δ _ _ R e q fun x S1 v H1 m1 ⟨k, ek, q1⟩ k1 g1 R1 r1 => by
    subst ek
    cases r1
    exact ⟨k, rfl, c _ S1 _ H1 m1 q1 k1 g1 R1 (.bl (!k))⟩⟩
@[simp] def dIf (t : DT) (u w : DE) : DE := fun δ S Q => t δ S fun k S1 => if k = true then u δ S1 Q else w δ S1 Q
theorem d_ifExp {c : Expr} (h : PTD X c tA dA) (h1 : PD X a ta t) (h2 : PD X b tb u) : PD X (.IfExp c a b pos) (tIf tA ta tb) (dIf dA t u) := ⟨pe_ifExp h.pe h1.pe h2.pe, fun σ H m S δ Q Q' R e q c =>
  h.sim σ H m S δ _ _ R e q fun k S1 H1 m1 q1 k1 g1 R1 => by
    cases k with
    | true => exact h1.sim σ H1 m1 S1 δ _ _ R1 (e.mono k1 g1) q1 (c.mono k1 g1)
    | false => exact h2.sim σ H1 m1 S1 δ _ _ R1 (e.mono k1 g1) q1 (c.mono k1 g1)⟩
@[simp] def dNeg (t : DE) : DE := fun δ S Q => t δ S fun x S1 => ∃ i, x = .int i ∧ Q (.int (-i)) S1
theorem d_neg (h : PD X a ta t) : PD X (.UnaryOp .USub a pos) (tUn (rU fun i => .int (-i)) ta) (dNeg t) := ⟨pe_un un_neg h.pe, fun σ H m S δ Q Q' R e q c =>
  h.sim σ H m S δ _ _ R e q fun x S1 v H1 m1 ⟨i, ei, q1⟩ k1 g1 R1 r1 => by
    subst ei
    cases r1
    exact ⟨i, rfl, c _ S1 _ H1 m1 q1 k1 g1 R1 (.int (-i))⟩⟩
end
end DL

set_option Elab.async false
set_option linter.all false
set_option maxRecDepth 100000
set_option maxHeartbeats 1000000
namespace DL
open PySem L2 PyProof.Rows

/-! ### a value as plain data -/
mutual
inductive PyOf (S : Sto) : D → PyData → Prop
  | non : PyOf S .non .none
  | bl (b : Bool) : PyOf S (.bl b) (.bool b)
  | int (i : Int) : PyOf S (.int i) (.int i)
  | str (x : Str) : PyOf S (.str x) (.str x)
  | tup {ds : List D} {ps : List PyData} : PyOfA S ds ps → PyOf S (.tup ds) (.tuple ps)
  | lst {i : Nat} {ds : List D} {ps : List PyData} : S[i]? = some (.lst ds) → PyOfA S ds ps → PyOf S (.loc i) (.list ps)
inductive PyOfA (S : Sto) : List D → List PyData → Prop
  | nil : PyOfA S [] []
  | cons {d : D} {ds : List D} {p : PyData} {ps : List PyData} : PyOf S d p → PyOfA S ds ps → PyOfA S (d :: ds) (p :: ps)
end
section
variable {K : PySem.W.Frag} {H : Hp} {m : Mp} {S : Sto}
mutual
theorem dp_of (R : Rel K H m S) : ∀ (p : PyData) (d : D) (v : V), PyOf S d p → Dv K H m v d → Dp K H v p
  | .none, _, _, h, r => by cases h; cases r; exact .non
  | .bool b, _, _, h, r => by cases h; cases r; exact .bl b
  | .int i, _, _, h, r => by cases h; cases r; exact .int i
  | .str x, _, _, h, r => by cases h; cases r; exact .str x
  | .tuple ps, _, _, h, r => by
    cases h with
    | tup ha =>
      cases r with
      | tup hs hr => exact .tup hs (dpA_of R ps _ _ ha hr)
  | .list ps, _, _, h, r => by
    cases h with
    | lst hs ha =>
      obtain ⟨a, vs, rfl, _, hH, hr⟩ := R.lst r hs
      exact .lst (SqL.of hH) (dpA_of R ps _ _ ha hr)
  | .dict _, _, _, h, _ => by cases h
theorem dpA_of (R : Rel K H m S) : ∀ (ps : List PyData) (ds : List D) (vs : List V), PyOfA S ds ps → DvA K H m vs ds → DpAll K H vs ps
  | [], _, _, h, r => by cases h; cases r; exact .nil
  | p :: ps, _, _, h, r => by
    cases h with
    | cons h1 h2 =>
      cases r with
      | cons r1 r2 => exact .cons (dp_of R p _ _ h1 r1) (dpA_of R ps _ _ h2 r2)
end
end

section
variable {X : Cx} {f : Value → Value → Sem Value} {r r2 : R2} {r' r2' : D → D → Sto → DK → Prop}
theorem OpD.or (h : OpD X f r r') (h2 : OpD X f r2 r2') : OpD X f (fun x y H Q => r x y H Q ∨ r2 x y H Q) (fun x y S Q => r' x y S Q ∨ r2' x y S Q) :=
  ⟨h.op.or h2.op, fun H m S x y vx vy Q Q' R rx ry q c => q.elim (fun q => .inl (h.sim H m S x y vx vy Q Q' R rx ry q c)) fun q => .inr (h2.sim H m S x y vx vy Q Q' R rx ry q c)⟩
theorem OpD.imp {s' : D → D → Sto → DK → Prop} (h : OpD X f r r') (i : ∀ x y S Q, s' x y S Q → r' x y S Q) : OpD X f r s' := ⟨h.op, fun H m S x y vx vy Q Q' R rx ry q c => h.sim H m S x y vx vy Q Q' R rx ry (i _ _ _ _ q) c⟩
/-- two ints -/
@[simp] def rdI (C : Int → Int → Prop) (g : Int → Int → D) : D → D → Sto → DK → Prop := fun x y S Q => ∃ i j, x = .int i ∧ y = .int j ∧ C i j ∧ Q (g i j) S
theorem od_I {C : Int → Int → Prop} {g : Int → Int → V} {g' : Int → Int → D} (o : OpR X f (rI C g)) (hg : ∀ i j H m, Dv X.K H m (g i j) (g' i j)) : OpD X f (rI C g) (rdI C g') := ⟨o, fun H m S x y vx vy Q Q' R rx ry q c => by
  obtain ⟨i, j, rfl, rfl, hc, q⟩ := q
  cases rx
  cases ry
  exact ⟨i, j, rfl, rfl, hc, c.same R q (hg i j H m)⟩⟩
@[simp] def rdI0 (g : Int → Int → D) : D → D → Sto → DK → Prop := fun x y S Q => ∃ i j, x = .int i ∧ y = .int j ∧ Q (g i j) S
theorem od_I0 {g : Int → Int → V} {g' : Int → Int → D} (o : OpR X f (rI0 g)) (hg : ∀ i j H m, Dv X.K H m (g i j) (g' i j)) : OpD X f (rI0 g) (rdI0 g') := ⟨o, fun H m S x y vx vy Q Q' R rx ry q c => by
  obtain ⟨i, j, rfl, rfl, q⟩ := q
  cases rx
  cases ry
  exact ⟨i, j, rfl, rfl, c.same R q (hg i j H m)⟩⟩
theorem od_sub : OpD X (binaryOp .Sub) (rI0 fun i j => .int (i - j)) (rdI0 fun i j => .int (i - j)) := od_I0 op_sub fun _ _ _ _ => .int _
theorem od_mod : OpD X (binaryOp .Mod) (rI (fun _ j => 0 < j) fun i j => .int (i % j)) (rdI (fun _ j => 0 < j) fun i j => .int (i % j)) := od_I op_mod fun _ _ _ _ => .int _
theorem od_fdiv : OpD X (binaryOp .FloorDiv) (rI CDiv fun i j => .int (i / j)) (rdI CDiv fun i j => .int (i / j)) := od_I op_fdiv fun _ _ _ _ => .int _
theorem od_pow : OpD X (binaryOp .Pow) (rI CPow fun i j => .int (i ^ j.toNat)) (rdI CPow fun i j => .int (i ^ j.toNat)) := od_I op_pow fun _ _ _ _ => .int _
theorem od_lt : OpD X (compareOp .Lt) (rI0 fun i j => .bl (decide (i < j))) (rdI0 fun i j => .bl (decide (i < j))) := od_I0 op_lt fun _ _ _ _ => .bl _
theorem od_le : OpD X (compareOp .LtE) (rI0 fun i j => .bl (decide (i ≤ j))) (rdI0 fun i j => .bl (decide (i ≤ j))) := od_I0 op_le fun _ _ _ _ => .bl _
theorem od_gt : OpD X (compareOp .Gt) (rI0 fun i j => .bl (decide (j < i))) (rdI0 fun i j => .bl (decide (j < i))) := od_I0 op_gt fun _ _ _ _ => .bl _
theorem od_ge : OpD X (compareOp .GtE) (rI0 fun i j => .bl (decide (j ≤ i))) (rdI0 fun i j => .bl (decide (j ≤ i))) := od_I0 op_ge fun _ _ _ _ => .bl _
/-- + -/
def rdCatT : D → D → Sto → DK → Prop := fun x y S Q => ∃ a b, x = .tup a ∧ y = .tup b ∧ a.length + b.length ≤ 100000 ∧ Q (.tup (a ++ b)) S
theorem od_catT : OpD X (binaryOp .Add) (rCatA X.K) rdCatT := ⟨op_catA, fun H m S x y vx vy Q Q' R rx ry q c => by
  obtain ⟨a, b, rfl, rfl, hl, q⟩ := q
  cases rx with
  | tup s1 d1 =>
    cases ry with
    | tup s2 d2 =>
      refine ⟨_, _, _, _, rfl, rfl, s1, s2, by rw [d1.length, d2.length]; exact small5 hl, fun e => ?_, fun _ e => ?_, fun _ _ => c.newT R (d1.append d2) q⟩
      · subst e
        cases d1
        exact c.same R q (.tup s2 d2)
      · subst e
        cases d2
        rw [List.append_nil] at q
        exact c.same R q (.tup s1 d1)⟩
def rdCatS : D → D → Sto → DK → Prop := fun x y S Q => ∃ a b, x = .str a ∧ y = .str b ∧ a.length + b.length ≤ 100000 ∧ Q (.str (a ++ b)) S
theorem od_catS : OpD X (binaryOp .Add) (fun x y H Q => ∃ i j, x = .str i ∧ y = .str j ∧ i.length + j.length ≤ sizeLine ∧ Q (.str (i ++ j)) H) rdCatS := ⟨op_add_str, fun H m S x y vx vy Q Q' R rx ry q c => by
  obtain ⟨a, b, rfl, rfl, hl, q⟩ := q
  cases rx
  cases ry
  exact ⟨a, b, rfl, rfl, small5 hl, c.same R q (.str _)⟩⟩
def rdCatL : D → D → Sto → DK → Prop := fun x y S Q => ∃ i j a b, x = .loc i ∧ y = .loc j ∧ S[i]? = some (.lst a) ∧ S[j]? = some (.lst b) ∧ a.length + b.length ≤ 100000 ∧ Q (.loc S.length) (S ++ [.lst (a ++ b)])
theorem od_catL : OpD X (binaryOp .Add) rCat rdCatL := ⟨op_cat, fun H m S x y vx vy Q Q' R rx ry q c => by
  obtain ⟨i, j, a, b, rfl, rfl, s1, s2, hl, q⟩ := q
  obtain ⟨p1, vs1, rfl, _, h1, d1⟩ := R.lst rx s1
  obtain ⟨p2, vs2, rfl, _, h2, d2⟩ := R.lst ry s2
  exact ⟨p1, p2, _, _, rfl, rfl, h1, h2, by rw [d1.length, d2.length]; exact small5 hl, c.newL R (d1.append d2) q⟩⟩
@[simp] def rdAdd : D → D → Sto → DK → Prop := fun x y S Q => match x, y with
  | .int i, .int j => Q (.int (i + j)) S
  | .tup a, .tup b => a.length + b.length ≤ 100000 ∧ Q (.tup (a ++ b)) S
  | .str a, .str b => a.length + b.length ≤ 100000 ∧ Q (.str (a ++ b)) S
  | .loc i, .loc j => ∃ a b, S[i]? = some (.lst a) ∧ S[j]? = some (.lst b) ∧ a.length + b.length ≤ 100000 ∧ Q (.loc S.length) (S ++ [.lst (a ++ b)])
  | _, _ => False
def vStrCat : R2 := fun x y H Q => ∃ i j, x = .str i ∧ y = .str j ∧ i.length + j.length ≤ sizeLine ∧ Q (.str (i ++ j)) H
def vAdd (K : PySem.W.Frag) : R2 := fun x y H Q => rI0 (fun i j => .int (i + j)) x y H Q ∨ (rCatA K x y H Q ∨ (vStrCat x y H Q ∨ rCat x y H Q))
theorem od_add : OpD X (binaryOp .Add) (vAdd X.K) rdAdd := ((od_I0 (g' := fun i j => .int (i + j)) op_add fun _ _ _ _ => .int _).or (od_catT.or (od_catS.or od_catL))).imp fun x y S Q q => by
  unfold rdAdd at q
  split at q
  · exact .inl ⟨_, _, rfl, rfl, q⟩
  · exact .inr (.inl ⟨_, _, rfl, rfl, q⟩)
  · exact .inr (.inr (.inl ⟨_, _, rfl, rfl, q⟩))
  · obtain ⟨a, b, q⟩ := q
    exact .inr (.inr (.inr ⟨_, _, a, b, rfl, rfl, q⟩))
  · exact q.elim
/-- * -/
def rdRepL : D → D → Sto → DK → Prop := fun x y S Q => ∃ i k a, x = .loc i ∧ y = .int k ∧ S[i]? = some (.lst a) ∧ -1000 ≤ k ∧ k ≤ 1000 ∧ a.length ≤ 100 ∧ Q (.loc S.length) (S ++ [.lst (List.replicate k.toNat a).flatten])
theorem od_repL : OpD X (binaryOp .Mult) rRep rdRepL := ⟨op_rep, fun H m S x y vx vy Q Q' R rx ry q c => by
  obtain ⟨i, k, a, rfl, rfl, s1, k1, k2, hl, q⟩ := q
  obtain ⟨p1, vs1, rfl, _, h1, d1⟩ := R.lst rx s1
  cases ry
  refine ⟨p1, k, _, rfl, rfl, h1, by omega, by omega, ?_, c.newL R (d1.rep _) q⟩
  rw [d1.length]
  have a1 : a.length * k.toNat ≤ 100 * 1000 := Nat.mul_le_mul hl (by omega)
  exact small5 a1⟩

/-- tuple * 0, tuple * 1 -/
theorem tuple_mul1 (l : Addr) (items : Array Value) (n : Nat) (dd : Option Addr) (sl : Array (Option Value)) (x : Int) (u : Tok) (c0 : (decide (x < -(2 ^ 63)) || decide (x ≥ 2 ^ 63)) = false) (c1 : (items.isEmpty || x == 1) = true) :
    Meets (Builtin.«tuple.__mul__» ⟨[.ref l, .int x u], []⟩) (fun _ R s => s.heap.get? l = some { cls := .type "tuple", dict := dd, data := .seq items n, slots := sl } ∧ R (.ok (.ret (Value.ref l))) s) :=
  .of_wp fun prog w A R s h => by
    obtain ⟨hp, g, d, tk, os⟩ := s
    obtain ⟨hl, h⟩ := h
    have f1 := AutoSeq1.idx_int
    wp_walk using wpAny_loadPart' hl
    refine wpAny_ite_false (decide_eq_false (by rw [c0]; exact Bool.false_ne_true)) ?_
    wp_walk using wpAny_loadPart' hl
    exact ⟨_, rfl, h⟩
theorem tuple_mul0 (l : Addr) (items : Array Value) (n : Nat) (dd : Option Addr) (sl : Array (Option Value)) (x : Int) (u : Tok) (c0 : (decide (x < -(2 ^ 63)) || decide (x ≥ 2 ^ 63)) = false) (c1 : (items.isEmpty || x == 1) = false) (c2 : (decide (x ≤ 0) || items.isEmpty) = true) :
    Meets (Builtin.«tuple.__mul__» ⟨[.ref l, .int x u], []⟩) (fun _ R s => s.heap.get? l = some { cls := .type "tuple", dict := dd, data := .seq items n, slots := sl } ∧ R (.ok (.ret (Value.ref s.heap.objs.size))) { s with heap := s.heap.push { cls := Value.type "tuple", data := Data.seq #[] }, toks := s.toks }) :=
  .of_wp fun prog w A R s h => by
    obtain ⟨hp, g, d, tk, os⟩ := s
    obtain ⟨hl, h⟩ := h
    have f1 := AutoSeq1.idx_int
    wp_walk using wpAny_loadPart' hl
    repeat (first
      | (refine wpAny_ite_false (decide_eq_false (by rw [c0]; exact Bool.false_ne_true)) ?_; wp_walk using wpAny_loadPart' hl)
      | (refine wpAny_ite_false (decide_eq_false (by rw [c1]; exact Bool.false_ne_true)) ?_; wp_walk using wpAny_loadPart' hl)
      | (refine wpAny_ite_true (decide_eq_true c2) ?_; wp_walk using wpAny_loadPart' hl)
      | (refine wpAny_ite_false (decide_eq_false (by decide)) ?_; wp_walk using wpAny_loadPart' hl))
    exact ⟨_, rfl, h⟩
/-- tuple * int, any count -/
def rRepA (K : PySem.W.Frag) : R2 := fun x y H Q => ∃ l k xs, x = .ref l ∧ y = .int k ∧ SqT K H l xs ∧ xs ≠ [] ∧ 0 ≤ k ∧ k ≤ 2000 ∧ xs.length ≤ 40 ∧
  (k = 1 → Q (.ref l) H) ∧ (k ≠ 1 → ∀ p, H p = none → Q (.ref p) (upd H p (.tup (List.replicate k.toNat xs).flatten)))
theorem op_repA : OpR X (binaryOp .Mult) (rRepA X.K) := by
  intro pins s σ H x y v u Q I rx ry h
  obtain ⟨l, k, xs, rfl, rfl, hT, hne, h1, h2, hz, q1, q2⟩ := h
  cases rx
  obtain ⟨t, rfl⟩ := ry
  obtain ⟨its, r, ⟨⟨cls, dd, data, sl⟩, ho, hc, n, hd⟩, hs⟩ := I.tuple hT
  simp only at hc hd
  subst hc hd
  have hle : its.length = xs.length := r.length.symm
  have hpos : 0 < xs.length := List.length_pos_iff.mpr hne
  have hi : its.toArray.isEmpty = false := by
    cases its with
    | nil => rw [← hle] at hpos; exact absurd hpos (Nat.lt_irrefl 0)
    | cons a b => rfl
  have c0 : (decide (k < -(2 ^ 63)) || decide (k ≥ 2 ^ 63)) = false := by
    rw [decide_eq_false (by omega), decide_eq_false (by omega)] <;> rfl
  refine wpAny_binaryOp_repeat_ref (T := "tuple") (U := "int") (by decide) ⟨_, ho, rfl⟩ (fun s' => typeIs_int s' k t) noFill_tuple_mul F.fills_int_mul
    F.slot_int_rmul repeat_tuple F.slot_int_index.lookup (call_meets F.slot_int_rmul (typeIs_int s k t) F.entry_int_rmul (F.args_int_rmul_2 _ _)
      (int_rmul_tuple k t l its.toArray n dd sl) ⟨ho, rfl, ⟨_, ho, rfl⟩, ?_⟩)
  by_cases k1 : k = 1
  · refine call_meets F.slot_tuple_mul ⟨_, ho, rfl⟩ F.entry_tuple_mul (F.args_tuple_mul_2 _ _) (tuple_mul1 l its.toArray n dd sl k t c0 (by rw [k1]; simp)) ⟨ho, ?_⟩
    exact ⟨.ref l, H, I, rfl, q1 k1⟩
  · have c1 : (its.toArray.isEmpty || k == 1) = false := by rw [hi, Bool.false_or]; exact beq_eq_false_iff_ne.mpr k1
    by_cases k0 : k = 0
    · refine call_meets F.slot_tuple_mul ⟨_, ho, rfl⟩ F.entry_tuple_mul (F.args_tuple_mul_2 _ _) (tuple_mul0 l its.toArray n dd sl k t c0 c1 (by rw [k0]; simp)) ⟨ho, ?_⟩
      refine ⟨.ref s.heap.objs.size, _, I.laid (t' := s.toks) (o := .tup (List.replicate k.toNat xs).flatten) (fun b ob q => Heap.get?_push_of_some _ q) (Nat.le_refl _) ?_, rfl, q2 k1 _ (I.hok.fresh (Nat.le_refl _))⟩
      subst k0
      exact ⟨Nat.zero_le _, [], .nil, IsTup.new _ _⟩
    · have hm : k.toNat * xs.length ≤ 2000 * 40 := Nat.mul_le_mul (by omega) hz
      have flen : (List.replicate k.toNat its).flatten.length ≤ sizeLine := by
        rw [PyProof.Rows.lm_len_rep_flat, hle]
        exact small5 (by omega)
      have hm2 : ((its.toArray.size : Nat) : Int) * k ≤ 80000 := by
        rw [List.size_toArray, hle, Int.mul_comm]
        have e : k = ((k.toNat : Nat) : Int) := by omega
        have h3 := Int.ofNat_le.mpr (show k.toNat * xs.length ≤ 80000 from hm)
        rw [Int.natCast_mul] at h3
        rw [e]
        exact h3
      have c2 : (decide (k ≤ 0) || its.toArray.isEmpty) = false := by
        rw [hi, Bool.or_false]
        exact decide_eq_false (by omega)
      have c4 : Builtin.Tuple.tupleTooMany (((its.toArray.size : Nat) : Int) * k) = false := by
        unfold Builtin.Tuple.tupleTooMany
        rw [sizeLine_eq]
        exact decide_eq_false (by omega)
      refine call_meets F.slot_tuple_mul ⟨_, ho, rfl⟩ F.entry_tuple_mul (F.args_tuple_mul_2 _ _)
        (tuple_mulW l its.toArray n dd sl k t c0 c1 c2 (by omega) c4 (by rw [size_rep, List.size_toArray]; exact flen)) ⟨ho, ?_⟩
      rw [size_rep]
      refine ⟨.ref s.heap.objs.size, _, I.laid (t' := s.toks) (o := .tup (List.replicate k.toNat xs).flatten) (fun b ob q => Heap.get?_push_of_some _ q) (Nat.le_refl _) ?_, rfl, q2 k1 _ (I.hok.fresh (Nat.le_refl _))⟩
      refine ⟨?_, _, r.rep k.toNat, IsTup.new _ _⟩
      rw [PyProof.Rows.lm_len_rep_flat]
      exact small5 (by omega)
def rdRepT : D → D → Sto → DK → Prop := fun x y S Q => ∃ a k, x = .tup a ∧ y = .int k ∧ a ≠ [] ∧ 0 ≤ k ∧ k ≤ 2000 ∧ a.length ≤ 40 ∧ Q (.tup (List.replicate k.toNat a).flatten) S
theorem od_repT : OpD X (binaryOp .Mult) (rRepA X.K) rdRepT := ⟨op_repA, fun H m S x y vx vy Q Q' R rx ry q c => by
  obtain ⟨a, k, rfl, rfl, ha, k0, k1, hl, q⟩ := q
  cases ry
  cases rx with
  | tup s1 d1 =>
    refine ⟨_, k, _, rfl, rfl, s1, fun e => ha (by subst e; cases d1; rfl), k0, k1, by rw [d1.length]; exact hl, fun e => ?_, fun _ => c.newT R (d1.rep _) q⟩
    subst e
    have e2 : (List.replicate (1 : Int).toNat a).flatten = a := by simp
    rw [e2] at q
    exact c.same R q (.tup s1 d1)⟩
@[simp] def rdMul : D → D → Sto → DK → Prop := fun x y S Q => match x, y with
  | .int i, .int j => CMul i j ∧ Q (.int (i * j)) S
  | .tup a, .int k => a ≠ [] ∧ 0 ≤ k ∧ k ≤ 2000 ∧ a.length ≤ 40 ∧ Q (.tup (List.replicate k.toNat a).flatten) S
  | .loc i, .int k => ∃ a, S[i]? = some (.lst a) ∧ -1000 ≤ k ∧ k ≤ 1000 ∧ a.length ≤ 100 ∧ Q (.loc S.length) (S ++ [.lst (List.replicate k.toNat a).flatten])
  | _, _ => False
def vMul (K : PySem.W.Frag) : R2 := fun x y H Q => rI CMul (fun i j => .int (i * j)) x y H Q ∨ (rRepA K x y H Q ∨ rRep x y H Q)
theorem od_mul : OpD X (binaryOp .Mult) (vMul X.K) rdMul := ((od_I (g' := fun i j => .int (i * j)) op_mul fun _ _ _ _ => .int _).or (od_repT.or od_repL)).imp fun x y S Q q => by
  unfold rdMul at q
  split at q
  · exact .inl ⟨_, _, rfl, rfl, q⟩
  · exact .inr (.inl ⟨_, _, rfl, rfl, q⟩)
  · obtain ⟨a, q⟩ := q
    exact .inr (.inr ⟨_, _, a, rfl, rfl, q⟩)
  · exact q.elim
/-- ==, != -/
@[simp] def scD : D → D → Option Bool
  | .int i, .int j => some (decide (i = j))
  | .str i, .str j => some (decide (i = j))
  | .non, .non => some true
  | .non, .str _ => some false | .non, .int _ => some false | .str _, .non => some false | .int _, .non => some false
  | .int _, .str _ => some false | .str _, .int _ => some false | .bl _, .str _ => some false
  | _, _ => none
theorem scD_ok {K : PySem.W.Frag} {H : Hp} {m : Mp} {x y : D} {vx vy : V} {b : Bool} (h : scD x y = some b) (rx : Dv K H m vx x) (ry : Dv K H m vy y) : scal vx vy = true ∧ decide (vx = vy) = b := by
  unfold scD at h
  split at h <;> first | (cases h; cases rx; cases ry; exact ⟨rfl, by simp⟩) | cases h
def rdEqP (f : Bool → Bool) : D → D → Sto → DK → Prop := fun x y S Q => ∃ p q, PyOf S x p ∧ PyOf S y q ∧ SeqAt.shaped p = true ∧ SeqAt.shaped q = true ∧ Q (.bl (f (PyData.eqv p q))) S
@[simp] def rdEq (f : Bool → Bool) : D → D → Sto → DK → Prop := fun x y S Q => match scD x y with
  | some b => Q (.bl (f b)) S
  | none => rdEqP f x y S Q
def vEq (K : PySem.W.Frag) : R2 := fun x y H Q => rEq x y H Q ∨ rEqD K x y H Q
def vNe (K : PySem.W.Frag) : R2 := fun x y H Q => rNe x y H Q ∨ rNeD K x y H Q
theorem od_eq (hu : X.A.units + 64 < cLine) : OpD X (compareOp .Eq) (vEq X.K) (rdEq id) := ⟨op_eq.or (op_eqD hu), fun H m S x y vx vy Q Q' R rx ry q c => by
  unfold rdEq at q
  split at q
  · rename_i b hb
    obtain ⟨h1, h2⟩ := scD_ok hb rx ry
    exact .inl ⟨h1, by rw [h2]; exact c.same R q (.bl b)⟩
  · obtain ⟨p, p2, h1, h2, h3, h4, q⟩ := q
    exact .inr ⟨p, p2, dp_of R p x vx h1 rx, dp_of R p2 y vy h2 ry, h3, h4, c.same R q (.bl _)⟩⟩
theorem od_ne (hu : X.A.units + 64 < cLine) : OpD X (compareOp .NotEq) (vNe X.K) (rdEq not) := ⟨op_ne.or (op_neD hu), fun H m S x y vx vy Q Q' R rx ry q c => by
  unfold rdEq at q
  split at q
  · rename_i b hb
    obtain ⟨h1, h2⟩ := scD_ok hb rx ry
    exact .inl ⟨h1, by rw [h2]; exact c.same R q (.bl _)⟩
  · obtain ⟨p, p2, h1, h2, h3, h4, q⟩ := q
    exact .inr ⟨p, p2, dp_of R p x vx h1 rx, dp_of R p2 y vy h2 ry, h3, h4, c.same R q (.bl _)⟩⟩
/-- in, not in -/
def rInT (K : PySem.W.Frag) (f : Bool → Bool) : R2 := fun x y H Q => ∃ d ds, Dp K H x d ∧ Dp K H y (.tuple ds) ∧ SeqAt.shaped d = true ∧ SeqAt.shaped (.tuple ds) = true ∧ Q (.bl (f (ds.any fun z => PyData.eqv z d))) H
theorem op_inT (hu : X.A.units + 65 < cLine) : OpR X (compareOp .In) (rInT X.K id) := by
  intro pins s σ H x y v u Q I rx ry h
  obtain ⟨d, ds, hd, he, sd, se, q⟩ := h
  obtain ⟨as, r1⟩ := Dp.reads I d x v hd rx
  obtain ⟨bs, r2⟩ := Dp.reads I (.tuple ds) y u he ry
  have e2 : PyData.canLayAll0 ds = true := SeqAt.canLay_of_shaped se
  exact SeqAt.in_tuple_reads r2 r1 e2 (SeqAt.canLay_of_shaped sd) (room_in_shaped sd hu) ⟨.bl _, H, I, rfl, q⟩
theorem op_notInT (hu : X.A.units + 65 < cLine) : OpR X (compareOp .NotIn) (rInT X.K not) := by
  intro pins s σ H x y v u Q I rx ry h
  obtain ⟨d, ds, hd, he, sd, se, q⟩ := h
  obtain ⟨as, r1⟩ := Dp.reads I d x v hd rx
  obtain ⟨bs, r2⟩ := Dp.reads I (.tuple ds) y u he ry
  have e2 : PyData.canLayAll0 ds = true := SeqAt.canLay_of_shaped se
  exact SeqAt.notIn_tuple_reads r2 r1 e2 (SeqAt.canLay_of_shaped sd) (room_in_shaped sd hu) ⟨.bl _, H, I, rfl, q⟩
def rdIn (f : Bool → Bool) : D → D → Sto → DK → Prop := fun x y S Q => match y with
  | .str z => ∃ c : Nat, x = .str ⟨#[c]⟩ ∧ Q (.bl (f (decide (c ∈ z.cps.toList)))) S
  | .tup ds => ∃ p ps, PyOf S x p ∧ PyOfA S ds ps ∧ SeqAt.shaped p = true ∧ SeqAt.shaped (.tuple ps) = true ∧ Q (.bl (f (ps.any fun z => PyData.eqv z p))) S
  | .loc i => ∃ p ps, PyOf S x p ∧ PyOf S (.loc i) (.list ps) ∧ SeqAt.shaped p = true ∧ SeqAt.shaped (.list ps) = true ∧ Q (.bl (f (ps.any fun z => PyData.eqv z p))) S
  | _ => False
def vIn (K : PySem.W.Frag) : R2 := fun x y H Q => rInS x y H Q ∨ (rInT K id x y H Q ∨ rInD K x y H Q)
def vNotIn (K : PySem.W.Frag) : R2 := fun x y H Q => rNotInS x y H Q ∨ (rInT K not x y H Q ∨ rNotInD K x y H Q)
theorem od_in (hu : X.A.units + 65 < cLine) : OpD X (compareOp .In) (vIn X.K) (rdIn id) := ⟨op_inS.or ((op_inT hu).or (op_inD hu)), fun H m S x y vx vy Q Q' R rx ry q c => by
  cases y with
  | str z =>
    obtain ⟨k, rfl, q⟩ := q
    cases rx
    cases ry
    exact .inl ⟨k, z, rfl, rfl, c.same R q (.bl _)⟩
  | tup ds =>
    obtain ⟨p, ps, h1, h2, h3, h4, q⟩ := q
    exact .inr (.inl ⟨p, ps, dp_of R p x vx h1 rx, dp_of R _ _ vy (.tup h2) ry, h3, h4, c.same R q (.bl _)⟩)
  | loc i =>
    obtain ⟨p, ps, h1, h2, h3, h4, q⟩ := q
    exact .inr (.inr ⟨p, ps, dp_of R p x vx h1 rx, dp_of R _ _ vy h2 ry, h3, h4, c.same R q (.bl _)⟩)
  | _ => exact (q : False).elim⟩
theorem od_notin (hu : X.A.units + 65 < cLine) : OpD X (compareOp .NotIn) (vNotIn X.K) (rdIn not) := ⟨op_notInS.or ((op_notInT hu).or (op_notInD hu)), fun H m S x y vx vy Q Q' R rx ry q c => by
  cases y with
  | str z =>
    obtain ⟨k, rfl, q⟩ := q
    cases rx
    cases ry
    exact .inl ⟨k, z, rfl, rfl, c.same R q (.bl _)⟩
  | tup ds =>
    obtain ⟨p, ps, h1, h2, h3, h4, q⟩ := q
    exact .inr (.inl ⟨p, ps, dp_of R p x vx h1 rx, dp_of R _ _ vy (.tup h2) ry, h3, h4, c.same R q (.bl _)⟩)
  | loc i =>
    obtain ⟨p, ps, h1, h2, h3, h4, q⟩ := q
    exact .inr (.inr ⟨p, ps, dp_of R p x vx h1 rx, dp_of R _ _ vy h2 ry, h3, h4, c.same R q (.bl _)⟩)
  | _ => exact (q : False).elim⟩
/-- is None -/
@[simp] def isNonD : D → Bool | .non => true | _ => false
@[simp] def rdIsN (f : Bool → Bool) : D → D → Sto → DK → Prop := fun x y S Q => y = .non ∧ Q (.bl (f (isNonD x))) S
theorem non_dec {K : PySem.W.Frag} {H : Hp} {m : Mp} {x : D} {v : V} (r : Dv K H m v x) : decide (v = .non) = isNonD x := by
  cases r <;> simp [isNonD]
theorem od_is : OpD X (compareOp .Is) rIsN (rdIsN id) := ⟨op_isN, fun H m S x y vx vy Q Q' R rx ry q c => by
  obtain ⟨rfl, q⟩ := q
  cases ry
  exact ⟨rfl, by rw [non_dec rx]; exact c.same R q (.bl _)⟩⟩
theorem od_isnot : OpD X (compareOp .IsNot) rNotN (rdIsN not) := ⟨op_notN, fun H m S x y vx vy Q Q' R rx ry q c => by
  obtain ⟨rfl, q⟩ := q
  cases ry
  exact ⟨rfl, by rw [non_dec rx]; exact c.same R q (.bl _)⟩⟩
end
end DL

set_option Elab.async false
set_option linter.all false
set_option maxRecDepth 100000
set_option maxHeartbeats 1000000
namespace DL
open PySem L2 PyProof.Rows

/-! ### items, slices -/
section
variable {X : Cx} {pos : Pos} {a b : Expr} {ta tb : TE} {t u : DE}
@[simp] def rdIx : D → D → Sto → DK → Prop := fun x y S Q => match x, y with
  | .tup ds, .int i => ∃ d, atI ds i = some d ∧ Q d S
  | .loc l, .int i => ∃ ds d, S[l]? = some (.lst ds) ∧ atI ds i = some d ∧ Q d S
  | .str z, .int i => ∃ c, z.length ≤ 100000 ∧ atI z.cps.toList i = some c ∧ Q (.str ⟨#[c]⟩) S
  | _, _ => False
theorem sim_ix {K : PySem.W.Frag} (H : Hp) (m : Mp) (S : Sto) (x y : D) (vx vy : V) (Q : VK) (Q' : DK) (R : Rel K H m S) (rx : Dv K H m vx x) (ry : Dv K H m vy y) (q : rdIx x y S Q') (c : Cont K H m Q' Q) : rIx K vx vy H Q := by
  unfold rdIx at q
  split at q
  · obtain ⟨d, h, q⟩ := q
    cases ry
    cases rx with
    | tup s1 d1 =>
      obtain ⟨v, h1, h2⟩ := d1.atI h
      exact .inr (.inl ⟨_, _, _, v, rfl, rfl, s1, h1, c.same R q h2⟩)
  · obtain ⟨ds, d, s1, h, q⟩ := q
    cases ry
    obtain ⟨p1, vs1, rfl, _, h1, d1⟩ := R.lst rx s1
    obtain ⟨v, h2, h3⟩ := d1.atI h
    exact .inl ⟨_, _, _, v, rfl, rfl, SqL.of h1, h2, c.same R q h3⟩
  · obtain ⟨k, hl, h, q⟩ := q
    cases ry
    cases rx
    exact .inr (.inr ⟨_, _, k, rfl, rfl, small5 hl, h, c.same R q (.str _)⟩)
  · exact q.elim
theorem d_ix (h1 : PD X a ta t) (h2 : PD X b tb u) (hs : PlainIx b) : PD X (.Subscript a b pos) (tOp (rIx X.K) ta tb) (dOp rdIx t u) := ⟨pe_ix ix_seq h1.pe h2.pe hs, sim_op h1.sim h2.sim sim_ix⟩
abbrev DO := DEnv → Sto → (Option Int → Sto → Prop) → Prop
def SimO (K : PySem.W.Frag) (te : TO) (t : DO) : Prop := ∀ (σ : L2.St) (H : Hp) (m : Mp) (S : Sto) (δ : DEnv) (Q : Option Int → Hp → Prop) (Q' : Option Int → Sto → Prop),
  Rel K H m S → EnvR K H m σ δ → t δ S Q' → (∀ o S' H' m', Q' o S' → Kp H H' → Gr m m' → Rel K H' m' S' → Q o H') → te σ H Q
structure POD (X : Cx) (e : Option Expr) (te : TO) (t : DO) : Prop where
  pe : PO X e te
  sim : SimO X.K te t
@[simp] def dNoPart : DO := fun _ S Q => Q none S
@[simp] def dPart (t : DE) : DO := fun δ S Q => t δ S fun x S1 => ∃ i, x = .int i ∧ Q (some i) S1
theorem do_none : POD X none tNoPart dNoPart := ⟨po_none, fun σ H m S δ Q Q' R e q c => c none S H m q (.refl H) (.refl m) R⟩
theorem do_some (h : PD X a ta t) : POD X (some a) (tPart ta) (dPart t) := ⟨po_some h.pe, fun σ H m S δ Q Q' R e q c =>
  h.sim σ H m S δ _ _ R e q fun d S1 v H1 m1 ⟨i, ei, q1⟩ k1 g1 R1 r1 => by
    subst ei
    cases r1
    exact ⟨i, rfl, c _ S1 H1 m1 q1 k1 g1 R1⟩⟩
def cutD (ds : List D) (lo hi : Option Int) : List D := (ds.drop (HT.sIx ds.length 0 lo)).take (HT.sIx ds.length ds.length hi - HT.sIx ds.length 0 lo)
@[simp] def rdSl : D → Option Int → Option Int → Sto → DK → Prop := fun x lo hi S Q => match x with
  | .tup ds => Q (.tup (cutD ds lo hi)) S
  | .loc i => ∃ ds, S[i]? = some (.lst ds) ∧ Q (.loc S.length) (S ++ [.lst (cutD ds lo hi)])
  | .scr ns => Q (.loc S.length) (S ++ [.lst (cutD (ns.map .int) lo hi)])
  | _ => False
def vSl (K : PySem.W.Frag) : V → Option Int → Option Int → Hp → VK → Prop := fun x lo hi H Q => rSlA K x lo hi H Q ∨ rSlL K x lo hi H Q
@[simp] def dSl (t : DE) (l u : DO) : DE := fun δ S Q => t δ S fun x S1 => l δ S1 fun lo S2 => u δ S2 fun hi S3 => rdSl x lo hi S3 Q
theorem sim_sl {K : PySem.W.Frag} (H : Hp) (m : Mp) (S : Sto) (x : D) (lo hi : Option Int) (vx : V) (Q : VK) (Q' : DK) (R : Rel K H m S) (rx : Dv K H m vx x) (q : rdSl x lo hi S Q') (c : Cont K H m Q' Q) : vSl K vx lo hi H Q := by
  unfold rdSl at q
  split at q
  · cases rx with
    | tup s1 d1 =>
      refine .inl ⟨_, _, rfl, s1, fun ⟨e1, e2⟩ => ?_, fun _ => c.newT R (d1.cut lo hi) q⟩
      rw [d1.length] at e1 e2
      unfold cutD at q
      rw [e1, e2, List.drop_zero, Nat.sub_zero, List.take_length] at q
      exact c.same R q (.tup s1 d1)
  · obtain ⟨ds, s1, q⟩ := q
    obtain ⟨p1, vs1, rfl, _, h1, d1⟩ := R.lst rx s1
    exact .inr ⟨_, _, rfl, SqL.of h1, c.newL R (d1.cut lo hi) q⟩
  · cases rx with
    | scr s1 => exact .inr ⟨_, _, rfl, s1.sqL, c.newL R ((DvA.ints _).cut lo hi) q⟩
  · exact q.elim
theorem d_slice {lo hi : Option Expr} {tl th : TO} {dl dh : DO} {p2 : Pos} (h : PD X a ta t) (hl : POD X lo tl dl) (hh : POD X hi th dh) :
    PD X (.Subscript a (.Slice lo hi none p2) pos) (tSl (vSl X.K) ta tl th) (dSl t dl dh) := ⟨pe_slice (sl_tupA.or sl_list) h.pe hl.pe hh.pe, fun σ H m S δ Q Q' R e q c =>
  h.sim σ H m S δ _ _ R e q fun x S1 v H1 m1 q1 k1 g1 R1 r1 =>
    hl.sim σ H1 m1 S1 δ _ _ R1 (e.mono k1 g1) q1 fun o S2 H2 m2 q2 k2 g2 R2 =>
      hh.sim σ H2 m2 S2 δ _ _ R2 (e.mono (k1.trans k2) (g1.trans g2)) q2 fun o2 S3 H3 m3 q3 k3 g3 R3 =>
        sim_sl H3 m3 S3 x o o2 v Q Q' R3 (Dv.mono (k2.trans k3) (g2.trans g3) _ _ r1) q3 (c.mono ((k1.trans k2).trans k3) ((g1.trans g2).trans g3))⟩
@[simp] def dRevL (t : DE) : DE := fun δ S Q => t δ S fun x S1 => ∃ i ds, x = .loc i ∧ S1[i]? = some (.lst ds) ∧ Q (.loc S1.length) (S1 ++ [.lst ds.reverse])
theorem d_revL {k : Nat} {p1 p2 p3 : Pos} (h : PD X a ta t) : PD X (.Subscript a (.Slice none none (some (.UnaryOp .USub (.Constant (.int 1) k p1) p2)) p3) pos) (tRevL X.K ta) (dRevL t) := ⟨pe_revL h.pe, fun σ H m S δ Q Q' R e q c =>
  h.sim σ H m S δ _ _ R e q fun x S1 v H1 m1 ⟨i, ds, ei, s1, q1⟩ k1 g1 R1 r1 => by
    subst ei
    obtain ⟨p1, vs1, rfl, _, h1, d1⟩ := R1.lst r1 s1
    exact ⟨p1, vs1, rfl, SqL.of h1, (c.mono k1 g1).newL R1 d1.reverse q1⟩⟩
end

/-! ### calls of built-ins -/
section
variable {X : Cx} {pos p : Pos} {e : Expr} {es : List Expr} {ta : TA} {u : DA} {r r2 : List V → Hp → VK → Prop} {r' r2' : List D → Sto → DK → Prop} {x : Str} {f : Value}
theorem CallD.or (h : CallD X f r r') (h2 : CallD X f r2 r2') : CallD X f (fun xs H Q => r xs H Q ∨ r2 xs H Q) (fun xs S Q => r' xs S Q ∨ r2' xs S Q) :=
  ⟨h.op.or h2.op, fun H m S xs vs Q Q' R rx q c => q.elim (fun q => .inl (h.sim H m S xs vs Q Q' R rx q c)) fun q => .inr (h2.sim H m S xs vs Q Q' R rx q c)⟩
@[simp] def dCB (r' : List D → Sto → DK → Prop) (u : DA) : DE := fun δ S Q => u δ S fun ds S1 => r' ds S1 Q
theorem sim_cb {K : PySem.W.Frag} (h : SimA K ta u) (h2 : ∀ (H : Hp) (m : Mp) (S : Sto) (xs : List D) (vs : List V) (Q : VK) (Q' : DK), Rel K H m S → DvA K H m vs xs → r' xs S Q' → Cont K H m Q' Q → r vs H Q) : SimE K (tCB r ta) (dCB r' u) := fun σ H m S δ Q Q' R e q c =>
  h σ H m S δ _ _ R e q fun ds S1 vs H1 m1 q1 k1 g1 R1 r1 => h2 H1 m1 S1 ds vs Q Q' R1 r1 q1 (c.mono k1 g1)
theorem d_callB {id : String} (c : CallD X (.builtin id) r r') (hg : Gl X x) (hm : X.mg x = none) (hv : bootBuiltins x = some (.builtin id)) (ha : PAD X (e :: es) ta u) (hn : x ≠ "__name__" := by decide) (hdb : (x == ("__debug__" : Str)) = false := by decide)
    (he : starEach (e :: es) X.env = (false, eval e X.env) :: starEach es X.env := by rfl) (hpl : (backTo pos (starEach es X.env)).any (·.1) = false := by rfl) : PD X (.Call (.Name x p) (e :: es) [] pos) (tCB r ta) (dCB r' u) :=
  ⟨pe_callB c.op hg hm hv ha.pe hn hdb he hpl, sim_cb ha.sim c.sim⟩
theorem d_callTy {T : String} (c : CallD X (.type T) r r') (hg : Gl X x) (hm : X.mg x = none) (hv : bootBuiltins x = some (.type T)) (ha : PAD X (e :: es) ta u) (hn : x ≠ "__name__" := by decide) (hdb : (x == ("__debug__" : Str)) = false := by decide)
    (he : starEach (e :: es) X.env = (false, eval e X.env) :: starEach es X.env := by rfl) (hpl : (backTo pos (starEach es X.env)).any (·.1) = false := by rfl) : PD X (.Call (.Name x p) (e :: es) [] pos) (tCB r ta) (dCB r' u) :=
  ⟨pe_callTy c.op hg hm hv ha.pe hn hdb he hpl, sim_cb ha.sim c.sim⟩
/-- len -/
@[simp] def rdLen : List D → Sto → DK → Prop := fun xs S Q => match xs with
  | [.tup ds] => Q (.int ds.length) S
  | [.str z] => z.length ≤ 100000 ∧ Q (.int z.length) S
  | [.loc i] => ∃ ds, S[i]? = some (.lst ds) ∧ Q (.int ds.length) S
  | _ => False
def vLen (K : PySem.W.Frag) : List V → Hp → VK → Prop := fun xs H Q => (∃ p ys, xs = [.ref p] ∧ (SqL K H p ys ∨ SqT K H p ys) ∧ Q (.int ys.length) H) ∨ ∃ z, xs = [.str z] ∧ z.length ≤ sizeLine ∧ Q (.int z.length) H
theorem cd_len : CallD X (.builtin "len") (vLen X.K) rdLen := ⟨call_len_seq.or call_len_str, fun H m S xs vs Q Q' R rx q c => by
  unfold rdLen at q
  split at q
  · cases rx with
    | cons r1 r2 =>
      cases r2
      cases r1 with
      | tup s1 d1 => exact .inl ⟨_, _, rfl, .inr s1, by rw [d1.length]; exact c.same R q (.int _)⟩
  · obtain ⟨hz, q⟩ := q
    cases rx with
    | cons r1 r2 =>
      cases r2
      cases r1
      exact .inr ⟨_, rfl, small5 hz, c.same R q (.int _)⟩
  · obtain ⟨ds, s1, q⟩ := q
    cases rx with
    | cons r1 r2 =>
      cases r2
      obtain ⟨p1, vs1, rfl, _, h1, d1⟩ := R.lst r1 s1
      exact .inl ⟨_, _, rfl, .inl (SqL.of h1), by rw [d1.length]; exact c.same R q (.int _)⟩
  · exact q.elim⟩
theorem cd_abs : CallD X (.builtin "abs") (fun xs H Q => ∃ i, xs = [.int i] ∧ Q (.int (if i < 0 then -i else i)) H) (fun xs S Q => ∃ i, xs = [.int i] ∧ Q (.int (if i < 0 then -i else i)) S) := ⟨call_abs, fun H m S xs vs Q Q' R rx q c => by
  obtain ⟨i, rfl, q⟩ := q
  cases rx with
  | cons r1 r2 =>
    cases r2
    cases r1
    exact ⟨i, rfl, c.same R q (.int _)⟩⟩
@[simp] def rdInt : List D → Sto → DK → Prop := fun xs S Q => match xs with
  | [.int i] => Q (.int i) S
  | [.bl k] => Q (.int (if k then 1 else 0)) S
  | _ => False
theorem cd_int : CallD X (.type "int") (fun xs H Q => (∃ i, xs = [.int i] ∧ Q (.int i) H) ∨ ∃ k, xs = [.bl k] ∧ Q (.int (if k then 1 else 0)) H) rdInt := ⟨call_int1, fun H m S xs vs Q Q' R rx q c => by
  unfold rdInt at q
  split at q
  · cases rx with
    | cons r1 r2 =>
      cases r2
      cases r1
      exact .inl ⟨_, rfl, c.same R q (.int _)⟩
  · cases rx with
    | cons r1 r2 =>
      cases r2
      cases r1
      exact .inr ⟨_, rfl, c.same R q (.int _)⟩
  · exact q.elim⟩
theorem cd_sum (hc : X.calm = true) : CallD X (.builtin "sum") (rSum X.K) (fun xs S Q => ∃ i ns, xs = [.loc i] ∧ S[i]? = some (.lst (List.map D.int ns)) ∧ Q (.int ns.sum) S) := ⟨cr_sum hc, fun H m S xs vs Q Q' R rx q c => by
  obtain ⟨i, ns, rfl, s1, q⟩ := q
  cases rx with
  | cons r1 r2 =>
    cases r2
    obtain ⟨p1, vs1, rfl, _, h1, d1⟩ := R.lst r1 s1
    rw [d1.of_ints] at h1
    exact ⟨p1, ns, rfl, SqL.of h1, c.same R q (.int _)⟩⟩
theorem cd_all (hc : X.calm = true) : CallD X (.builtin "all") (rAll X.K) (fun xs S Q => ∃ i bs, xs = [.loc i] ∧ S[i]? = some (.lst (List.map D.bl bs)) ∧ Q (.bl (bs.all id)) S) := ⟨cr_all hc, fun H m S xs vs Q Q' R rx q c => by
  obtain ⟨i, ns, rfl, s1, q⟩ := q
  cases rx with
  | cons r1 r2 =>
    cases r2
    obtain ⟨p1, vs1, rfl, _, h1, d1⟩ := R.lst r1 s1
    rw [d1.of_bls] at h1
    exact ⟨p1, ns, rfl, SqL.of h1, c.same R q (.bl _)⟩⟩
def vTupleOf (K : PySem.W.Frag) : List V → Hp → VK → Prop := fun xs H Q => ∃ p ys, xs = [.ref p] ∧ ((SqL K H p ys ∧ ∀ l, H l = none → Q (.ref l) (upd H l (.tup ys))) ∨ (SqT K H p ys ∧ Q (.ref p) H))
@[simp] def rdTupleOf : List D → Sto → DK → Prop := fun xs S Q => match xs with
  | [.loc i] => ∃ ds, S[i]? = some (.lst ds) ∧ Q (.tup ds) S
  | [.tup ds] => Q (.tup ds) S
  | _ => False
theorem cd_tupleOf : CallD X (.type "tuple") (vTupleOf X.K) rdTupleOf := ⟨call_tuple_of, fun H m S xs vs Q Q' R rx q c => by
  unfold rdTupleOf at q
  split at q
  · obtain ⟨ds, s1, q⟩ := q
    cases rx with
    | cons r1 r2 =>
      cases r2
      obtain ⟨p1, vs1, rfl, _, h1, d1⟩ := R.lst r1 s1
      exact ⟨p1, vs1, rfl, .inl ⟨SqL.of h1, c.newT R d1 q⟩⟩
  · cases rx with
    | cons r1 r2 =>
      cases r2
      cases r1 with
      | tup s1 d1 => exact ⟨_, _, rfl, .inr ⟨s1, c.same R q (.tup s1 d1)⟩⟩
  · exact q.elim⟩
def vListOf (K : PySem.W.Frag) : List V → Hp → VK → Prop := fun xs H Q => ∃ p ys, xs = [.ref p] ∧ (SqL K H p ys ∨ SqT K H p ys) ∧ ∀ l, H l = none → Q (.ref l) (upd H l (.lst ys))
@[simp] def rdListOf : List D → Sto → DK → Prop := fun xs S Q => match xs with
  | [.loc i] => ∃ ds, S[i]? = some (.lst ds) ∧ Q (.loc S.length) (S ++ [.lst ds])
  | [.tup ds] => Q (.loc S.length) (S ++ [.lst ds])
  | _ => False
theorem cd_listOf : CallD X (.type "list") (vListOf X.K) rdListOf := ⟨call_list_of, fun H m S xs vs Q Q' R rx q c => by
  unfold rdListOf at q
  split at q
  · obtain ⟨ds, s1, q⟩ := q
    cases rx with
    | cons r1 r2 =>
      cases r2
      obtain ⟨p1, vs1, rfl, _, h1, d1⟩ := R.lst r1 s1
      exact ⟨p1, vs1, rfl, .inl (SqL.of h1), c.newL R d1 q⟩
  · cases rx with
    | cons r1 r2 =>
      cases r2
      cases r1 with
      | tup s1 d1 => exact ⟨_, _, rfl, .inr s1, c.newL R d1 q⟩
  · exact q.elim⟩
/-- repr -/
def vRepr (K : PySem.W.Frag) : List V → Hp → VK → Prop := fun xs H Q => ∃ x p, xs = [x] ∧ Dp K H x p ∧ p.showable = true ∧ p.hasDict = false ∧ p.shown.length ≤ sizeLine ∧ p.depth ≤ 60 ∧ Q (.str p.shown) H
theorem call_repr (hg : X.A.guards = some []) (hu : X.A.units + 64 < cLine) : CallR X (.builtin "repr") (vRepr X.K) := by
  intro pins s σ H xs us Q I r h
  obtain ⟨x, p, rfl, hd, hs, hn, hz, hp, q⟩ := h
  obtain ⟨u, rfl, r1⟩ := vals1 r
  obtain ⟨as, rd⟩ := Dp.reads I p x u hd r1
  have fin : ∀ (h' : Heap) (t : Tok) (tk : Nat), (∀ b o, s.heap.get? b = some o → h'.get? b = some o) → EP X pins σ Q (.str p.shown t) { s with heap := h', toks := tk } :=
    fun h' t tk hk => ⟨.str p.shown, H, I.kept hk, ⟨t, rfl⟩, q⟩
  cases p with
  | none =>
    cases rd
    have e : PyData.shown .none = ("None" : Str) := by simp [PyData.shown]
    rw [e] at fin
    exact PySem.P.repr_of_none (fin s.heap _ _ fun _ _ z => z)
  | bool b =>
    cases rd
    have e : PyData.shown (.bool b) = (if b then ("True" : Str) else ("False" : Str)) := by simp only [PyData.shown]
    rw [e] at fin
    exact PySem.P.repr_of_bool (fin s.heap _ _ fun _ _ z => z)
  | int i =>
    cases rd
    have e : PyData.shown (.int i) = ((toString i : String) : Str) := by simp only [PyData.shown]
    rw [e] at fin
    exact PySem.P.repr_of_int (by simpa only [PyData.showable, decide_eq_true_eq] using hs) (fin s.heap _ _ fun _ _ z => z)
  | str z =>
    cases rd
    have e : PyData.shown (.str z) = reprText z := by simp only [PyData.shown]
    rw [e] at fin hz
    exact PySem.P.repr_of_str (fin s.heap _ _ fun _ _ z => z) hz
  | list l =>
    cases rd with
    | list h1 h2 h3 h4 => exact repr_of_reads' (.list h1 h2 h3 h4) hs (PyData.noDict_hsm hn) hg (by omega) (fun _ _ z => z) (fun h' t tk hk => fin h' t tk hk) hz
  | tuple l =>
    cases rd with
    | tuple h1 h2 h3 h4 => exact repr_of_reads' (.tuple h1 h2 h3 h4) hs (PyData.noDict_hsm hn) hg (by omega) (fun _ _ z => z) (fun h' t tk hk => fin h' t tk hk) hz
  | dict l => cases hd
theorem cd_repr (hg : X.A.guards = some []) (hu : X.A.units + 64 < cLine) : CallD X (.builtin "repr") (vRepr X.K) (fun xs S Q => ∃ d p, xs = [d] ∧ PyOf S d p ∧ p.showable = true ∧ p.hasDict = false ∧ p.shown.length ≤ sizeLine ∧ p.depth ≤ 60 ∧ Q (.str p.shown) S) :=
  ⟨call_repr hg hu, fun H m S xs vs Q Q' R rx q c => by
    obtain ⟨d, p, rfl, h1, h2, h3, h4, h5, q⟩ := q
    cases rx with
    | cons r1 r2 =>
      cases r2
      exact ⟨_, p, rfl, dp_of R p d _ h1 r1, h2, h3, h4, h5, c.same R q (.str _)⟩⟩
/-- isinstance(x, T) -/
@[simp] def tyD (S : Sto) : D → String
  | .non => "NoneType" | .bl _ => "bool" | .int _ => "int" | .str _ => "str" | .tup _ => "tuple" | .scr _ => "list"
  | .loc i => match S[i]? with | some (.lst _) => "list" | some (.dct _) => "dict" | none => "none"
theorem ty_of {K : PySem.W.Frag} {H : Hp} {m : Mp} {S : Sto} {d : D} {v : V} (R : Rel K H m S) (r : Dv K H m v d) : TyX K H v (.type (tyD S d)) := by
  cases r with
  | non => exact .base .non
  | bl b => exact .base (.bl b)
  | int i => exact .base (.int i)
  | str x => exact .base (.str x)
  | tup s1 d1 =>
    rcases s1 with (h | ⟨o, h⟩) | ⟨o, its, n, h, hc, _⟩
    · exact .base (.tup h)
    · exact .fTuple h
    · exact .kTuple h hc
  | @loc i a e =>
    have hl : i < S.length := R.len ▸ (List.getElem?_eq_some_iff.mp e).1
    have hs : S[i]? = some S[i] := List.getElem?_eq_getElem hl
    have ob := R.ob i a _ e hs
    have et : tyD S (.loc i) = match S[i]? with | some (.lst _) => "list" | some (.dct _) => "dict" | none => "none" := rfl
    rw [et, hs]
    cases hS : S[i] with
    | lst ds =>
      rw [hS] at ob
      obtain ⟨vs, h, _⟩ := ob
      exact .base (.lst h)
    | dct kvs =>
      rw [hS] at ob
      obtain ⟨vs, h, _⟩ := ob
      exact .base (.dK h)
  | scr h =>
    rcases h with ⟨o, h⟩ | ⟨o, its, n, h, hc, _⟩
    · exact .base (.frz h)
    · exact .kList h hc
@[simp] def dIsi (T : String) (t : DE) : DE := fun δ S Q => t δ S fun d S1 => ∃ b, kitB (tyD S1 d) T = some b ∧ Q (.bl b) S1
theorem d_isi {a : Expr} {te : TE} {t : DE} {T : String} {x : Str} {pT : Pos} (hg : Gl X "isinstance") (hm : X.mg "isinstance" = none) (hv : bootBuiltins "isinstance" = some (.builtin "isinstance")) (h : PD X a te t)
    (hgT : Gl X x) (hmT : X.mg x = none) (hvT : bootBuiltins x = some (.type T)) (hnT : x ≠ "__name__" := by decide) (hdT : (x == ("__debug__" : Str)) = false := by decide)
    (he1 : starEach [a, .Name x pT] X.env = (false, eval a X.env) :: starEach [.Name x pT] X.env := by rfl) (he2 : starEach [.Name x pT] X.env = (false, eval (.Name x pT) X.env) :: starEach [] X.env := by rfl)
    (hpl : (backTo pos (starEach [.Name x pT] X.env)).any (·.1) = false := by rfl) :
    PD X (.Call (.Name "isinstance" p) [a, .Name x pT] [] pos) (tCB (rIsi X.K) (tCons te (tCons (tC (.ty T)) tNil))) (dIsi T t) :=
  ⟨pe_callB call_isi hg hm hv (pa_cons h.pe (pa_cons (pe_bltn hgT hmT hvT rfl hnT hdT) pa_nil he2) he1) (by decide) (by decide) he1 hpl, fun σ H m S δ Q Q' R e q c =>
    h.sim σ H m S δ _ _ R e q fun d S1 v H1 m1 ⟨b, hb, q1⟩ k1 g1 R1 r1 =>
      ⟨v, .ty T, .type (tyD S1 d), .type T, b, rfl, .ty T, ty_of R1 r1, kit_ty hb, (c.mono k1 g1).same R1 q1 (.bl b)⟩⟩
end
end DL

set_option Elab.async false
set_option linter.all false
set_option maxRecDepth 100000
set_option maxHeartbeats 1000000
namespace DL
open PySem L2 PyProof.Rows

/-! ### a def's promise over data -/
abbrev DSp := List D → Sto → DK → Prop
def toSp (K : PySem.W.Frag) (c : DSp) : Sp := fun vs H Q _ => ∃ m S ds Q', Rel K H m S ∧ DvA K H m vs ds ∧ c ds S Q' ∧ Cont K H m Q' Q
/-- the def x of the module keeps c, by level k -/
structure DefD (P : Program) (w : World) (K : PySem.W.Frag) (mg : Str → Option Value) (base : Heap) (k : Nat) (x : Str) (n : Nat) (c : DSp) : Prop where
  ex : ∃ f fd ps, ps.length = n ∧ FnG P w K mg base CX0 k f fd ps (toSp K c) ∧ mg x = some (.ref f) ∧ PySem.W.keepIn K (.ref f) = true ∧ Binds K fd ps []
theorem DefD.mono {P : Program} {w : World} {K : PySem.W.Frag} {mg : Str → Option Value} {base : Heap} {j k n : Nat} {x : Str} {c : DSp} (F : DefD P w K mg base j x n c) (h : j ≤ k) : DefD P w K mg base k x n c :=
  let ⟨f, fd, ps, h1, h2, h3, h4, h5⟩ := F.ex
  ⟨f, fd, ps, h1, h2.mono h, h3, h4, h5⟩
theorem DefD.imp {P : Program} {w : World} {K : PySem.W.Frag} {mg : Str → Option Value} {base : Heap} {k n : Nat} {x : Str} {c c' : DSp} (F : DefD P w K mg base k x n c) (h : ∀ ds S Q, c' ds S Q → c ds S Q) : DefD P w K mg base k x n c' :=
  let ⟨f, fd, ps, h1, h2, h3, h4, h5⟩ := F.ex
  ⟨f, fd, ps, h1, h2.imp fun vs H Q E ⟨m, S, ds, Q', a, b, c, d⟩ => ⟨m, S, ds, Q', a, b, h _ _ _ c, d⟩, h3, h4, h5⟩
section
variable {X : Cx} {pos p : Pos} {e : Expr} {es : List Expr} {ta : TA} {u : DA} {x : Str} {k n : Nat} {c : DSp}
@[simp] def dCall (c : DSp) (u : DA) : DE := fun δ S Q => u δ S fun ds S1 => c ds S1 Q
theorem d_call (F : DefD X.prog X.w X.K X.mg X.base k x n c) (hgd : X.A.guards = some []) (hr : Room k X.A) (hg : Gl X x) (ha : PAD X (e :: es) ta u) (hdb : (x == ("__debug__" : Str)) = false := by decide)
    (he : starEach (e :: es) X.env = (false, eval e X.env) :: starEach es X.env := by rfl) (hpl : (backTo pos (starEach es X.env)).any (·.1) = false := by rfl) :
    PD X (.Call (.Name x p) (e :: es) [] pos) (tCall (toSp X.K c) [] E0 ta) (dCall c u) := by
  obtain ⟨f, fd, ps, h1, h2, h3, h4, h5⟩ := F.ex
  refine ⟨pe_callG h2 hgd hr hg h3 h4 h5 .nil pass0 ha.pe hdb he hpl, fun σ H m S δ Q Q' R e q c' => ?_⟩
  refine ha.sim σ H m S δ _ _ R e q fun ds S1 vs H1 m1 q1 k1 g1 R1 r1 => ?_
  rw [List.append_nil]
  exact ⟨m1, S1, ds, Q', R1, r1, q1, c'.mono k1 g1⟩
end

/-! ### methods of lists -/
section
variable {X : Cx} {pos p : Pos} {o e : Expr} {te ta : TE} {t u : DE}
theorem Cont.put {K : PySem.W.Frag} {H : Hp} {m : Mp} {S : Sto} {Q' : DK} {Q : VK} {i : Nat} {a : Addr} {xs vs : List V} {ds : List D} {d : D} {v : V} (c : Cont K H m Q' Q) (R : Rel K H m S) (e : m[i]? = some a) (h : H a = some (.lst xs)) (r : DvA K H m vs ds)
    (q : Q' d (S.set i (.lst ds))) (hv : Dv K H m v d) : Q v (upd H a (.lst vs)) := c d _ v _ m q (.put h) (.refl m) (R.put e h r) (Dv.mono (.put h) (.refl m) _ _ hv)
@[simp] def dApp (t u : DE) : DE := fun δ S Q => t δ S fun x S1 => ∃ i, x = .loc i ∧ (∃ ds, S1[i]? = some (.lst ds)) ∧ u δ S1 fun y S2 => ∃ ds, S2[i]? = some (.lst ds) ∧ ds.length < 100000 ∧ Q .non (S2.set i (.lst (ds ++ [y])))
theorem d_append {apos : Pos} (h : PD X o te t) (h2 : PD X e ta u) (hbase : attributeBase o "append" X.env (eval o X.env) = eval o X.env := by rfl)
    (hfew : ((backTo pos (starEach [e] X.env)).all (fun x => !x.1) && (backToKw pos (keywordEach [] X.env)).all (fun x => x.1.isSome) && decide (([e] : List Expr).length + ([] : List Keyword).length + (if ([] : List Keyword).isEmpty then 0 else 1) < 30)) = true := by rfl)
    (hline : (apos.endLine == pos.line) = true := by rfl) (hs : starEach [e] X.env = (false, eval e X.env) :: starEach [] X.env := by rfl) (hplain : (backTo pos (starEach [] X.env)).any (·.1) = false := by rfl) :
    PD X (.Call (.Attribute o "append" apos) [e] [] pos) (tBM X.K "list" rAppend te (tCons ta tNil)) (dApp t u) := ⟨pe_bm PySem.F.plainAttrs_list PySem.F.slot_list_append PySem.F.type_list_append mt_append h.pe (pa_cons h2.pe pa_nil hs) hbase hfew hline hs hplain, fun σ H m S δ Q Q' R ev q c =>
  h.sim σ H m S δ _ _ R ev q fun x S1 v H1 m1 ⟨i, ei, ⟨ds, s1⟩, q1⟩ k1 g1 R1 r1 => by
    subst ei
    obtain ⟨a, vs, rfl, em, hH, _⟩ := R1.lst r1 s1
    refine ⟨.inl ⟨rfl, vs, SqL.of hH⟩, h2.sim σ H1 m1 S1 δ _ _ R1 (ev.mono k1 g1) q1 fun y S2 vy H2 m2 ⟨ds2, s2, hl, q2⟩ k2 g2 R2 r2 => ?_⟩
    obtain ⟨a2, vs2, ea, em2, hH2, d2⟩ := R2.lst (.loc (g2.at em)) s2
    cases ea
    exact ⟨a, vs2, vy, rfl, rfl, hH2, by rw [d2.length]; exact small5' hl, (c.mono (k1.trans k2) (g1.trans g2)).put R2 em2 hH2 (d2.append (.cons r2 .nil)) q2 .non⟩⟩
@[simp] def dExt (t u : DE) : DE := fun δ S Q => t δ S fun x S1 => ∃ i, x = .loc i ∧ (∃ ds, S1[i]? = some (.lst ds)) ∧ u δ S1 fun y S2 => ∃ j ds es, y = .loc j ∧ S2[i]? = some (.lst ds) ∧ S2[j]? = some (.lst es) ∧ ds.length + es.length ≤ 100000 ∧ Q .non (S2.set i (.lst (ds ++ es)))
theorem d_extend {apos : Pos} (h : PD X o te t) (h2 : PD X e ta u) (hbase : attributeBase o "extend" X.env (eval o X.env) = eval o X.env := by rfl)
    (hfew : ((backTo pos (starEach [e] X.env)).all (fun x => !x.1) && (backToKw pos (keywordEach [] X.env)).all (fun x => x.1.isSome) && decide (([e] : List Expr).length + ([] : List Keyword).length + (if ([] : List Keyword).isEmpty then 0 else 1) < 30)) = true := by rfl)
    (hline : (apos.endLine == pos.line) = true := by rfl) (hs : starEach [e] X.env = (false, eval e X.env) :: starEach [] X.env := by rfl) (hplain : (backTo pos (starEach [] X.env)).any (·.1) = false := by rfl) :
    PD X (.Call (.Attribute o "extend" apos) [e] [] pos) (tBM X.K "list" rExtend te (tCons ta tNil)) (dExt t u) := ⟨pe_bm PySem.F.plainAttrs_list PySem.F.slot_list_extend PySem.F.type_list_extend mt_extend h.pe (pa_cons h2.pe pa_nil hs) hbase hfew hline hs hplain, fun σ H m S δ Q Q' R ev q c =>
  h.sim σ H m S δ _ _ R ev q fun x S1 v H1 m1 ⟨i, ei, ⟨ds, s1⟩, q1⟩ k1 g1 R1 r1 => by
    subst ei
    obtain ⟨a, vs, rfl, em, hH, _⟩ := R1.lst r1 s1
    refine ⟨.inl ⟨rfl, vs, SqL.of hH⟩, h2.sim σ H1 m1 S1 δ _ _ R1 (ev.mono k1 g1) q1 fun y S2 vy H2 m2 ⟨j, ds2, es2, ej, s2, s3, hl, q2⟩ k2 g2 R2 r2 => ?_⟩
    subst ej
    obtain ⟨a2, vs2, ea, em2, hH2, d2⟩ := R2.lst (.loc (g2.at em)) s2
    cases ea
    obtain ⟨a3, vs3, rfl, em3, hH3, d3⟩ := R2.lst r2 s3
    exact ⟨a, a3, vs2, vs3, rfl, rfl, hH2, hH3, by rw [d2.length, d3.length]; exact small5 hl, (c.mono (k1.trans k2) (g1.trans g2)).put R2 em2 hH2 (d2.append d3) q2 .non⟩⟩
@[simp] def dPop (t : DE) : DE := fun δ S Q => t δ S fun x S1 => ∃ i ds d, x = .loc i ∧ S1[i]? = some (.lst ds) ∧ ds[ds.length - 1]? = some d ∧ Q d (S1.set i (.lst ds.dropLast))
theorem d_pop {apos : Pos} (h : PD X o te t) (hbase : attributeBase o "pop" X.env (eval o X.env) = eval o X.env := by rfl) (hline : (apos.endLine == pos.line) = true := by rfl) :
    PD X (.Call (.Attribute o "pop" apos) [] [] pos) (tBM0 X.K "list" rPop te) (dPop t) := ⟨pe_bm0 PySem.F.plainAttrs_list PySem.F.slot_list_pop PySem.F.type_list_pop mt_pop h.pe hbase hline, fun σ H m S δ Q Q' R ev q c =>
  h.sim σ H m S δ _ _ R ev q fun x S1 v H1 m1 ⟨i, ds, d, ei, s1, hd, q1⟩ k1 g1 R1 r1 => by
    subst ei
    obtain ⟨a, vs, rfl, em, hH, d1⟩ := R1.lst r1 s1
    obtain ⟨w, hw, rw'⟩ := d1.get hd
    rw [← d1.length] at hw
    exact ⟨.inl ⟨rfl, vs, SqL.of hH⟩, a, vs, w, rfl, rfl, hH, hw, (c.mono k1 g1).put R1 em hH d1.dropLast q1 rw'⟩⟩
end

/-! ### statements -/
structure DEnds where
  nx : DEnv → Sto → Prop
  rt : DK
  bk : DEnv → Sto → Prop := fun _ _ => False
  ct : DEnv → Sto → Prop := fun _ _ => False
abbrev DS := DEnds → DEnv → Sto → Prop
def ContS (K : PySem.W.Frag) (H : Hp) (m : Mp) (Q' : DEnv → Sto → Prop) (Q : L2.St → Hp → Prop) : Prop :=
  ∀ δ' S' σ' H' m', Q' δ' S' → Kp H H' → Gr m m' → Rel K H' m' S' → EnvR K H' m' σ' δ' → Q σ' H'
theorem ContS.mono {K : PySem.W.Frag} {H H' : Hp} {m m' : Mp} {Q' : DEnv → Sto → Prop} {Q : L2.St → Hp → Prop} (k : Kp H H') (g : Gr m m') (c : ContS K H m Q' Q) : ContS K H' m' Q' Q := fun δ S' σ H2 m2 q k2 g2 R r => c δ S' σ H2 m2 q (k.trans k2) (g.trans g2) R r
structure EndsR (K : PySem.W.Frag) (H : Hp) (m : Mp) (D' : DEnds) (D : Ends) : Prop where
  nx : ContS K H m D'.nx D.nx
  rt : Cont K H m D'.rt D.rt
  bk : ContS K H m D'.bk D.bk
  ct : ContS K H m D'.ct D.ct
theorem EndsR.mono {K : PySem.W.Frag} {H H' : Hp} {m m' : Mp} {D' : DEnds} {D : Ends} (k : Kp H H') (g : Gr m m') (c : EndsR K H m D' D) : EndsR K H' m' D' D := ⟨c.nx.mono k g, c.rt.mono k g, c.bk.mono k g, c.ct.mono k g⟩
def SimS (K : PySem.W.Frag) (ts : TS) (t : DS) : Prop := ∀ (σ : L2.St) (H : Hp) (m : Mp) (S : Sto) (δ : DEnv) (D : Ends) (D' : DEnds), Rel K H m S → EnvR K H m σ δ → t D' δ S → EndsR K H m D' D → ts D σ H
structure PSD (X : Cx) (st : Stmt) (ts : TS) (t : DS) : Prop where
  pe : PS X st ts
  sim : SimS X.K ts t
structure PSsD (X : Cx) (st : List Stmt) (ts : TS) (t : DS) : Prop where
  pe : PSs X st ts
  sim : SimS X.K ts t
abbrev DG := D → DEnv → Sto → (DEnv → Sto → Prop) → Prop
def SimG (K : PySem.W.Frag) (g : TG) (g' : DG) : Prop := ∀ (σ : L2.St) (H : Hp) (m : Mp) (S : Sto) (δ : DEnv) (x : D) (v : V) (Q : L2.St → Hp → Prop) (Q' : DEnv → Sto → Prop), Rel K H m S → EnvR K H m σ δ → Dv K H m v x → g' x δ S Q' → ContS K H m Q' Q → g v σ H Q
structure PGD (X : Cx) (tg : Expr) (g : TG) (g' : DG) : Prop where
  pe : PG X tg g
  sim : SimG X.K g g'
section
variable {X : Cx} {st : Stmt} {rest a b : List Stmt} {ts us : TS} {t u : DS} {e : Expr} {te : TE} {de : DE} {pos : Pos}
@[simp] def sNext : DS := fun D δ S => D.nx δ S
@[simp] def sSeq (t u : DS) : DS := fun D δ S => t { D with nx := u D } δ S
theorem s_nil : PSsD X [] tNext sNext := ⟨pss_nil, fun σ H m S δ D D' R e q c => c.nx δ S σ H m q (.refl H) (.refl m) R e⟩
theorem s_cons (h1 : PSD X st ts t) (h2 : PSsD X rest us u) : PSsD X (st :: rest) (tSeq ts us) (sSeq t u) := ⟨pss_cons h1.pe h2.pe, fun σ H m S δ D D' R e q c =>
  h1.sim σ H m S δ _ _ R e q ⟨fun δ' S' σ' H' m' q' k g R' e' => h2.sim σ' H' m' S' δ' D D' R' e' q' (c.mono k g), c.rt, c.bk, c.ct⟩⟩
theorem s_one (h1 : PSD X st ts t) : PSsD X [st] ts t := ⟨pss_one h1.pe, h1.sim⟩
@[simp] def sBreak : DS := fun D δ S => D.bk δ S
@[simp] def sCont : DS := fun D δ S => D.ct δ S
theorem s_break : PSD X (.Break pos) tBreak sBreak := ⟨ps_break, fun σ H m S δ D D' R e q c => c.bk δ S σ H m q (.refl H) (.refl m) R e⟩
theorem s_continue : PSD X (.Continue pos) tCont sCont := ⟨ps_continue, fun σ H m S δ D D' R e q c => c.ct δ S σ H m q (.refl H) (.refl m) R e⟩
theorem s_pass : PSD X (.Pass pos) tNext sNext := ⟨ps_pass, fun σ H m S δ D D' R e q c => c.nx δ S σ H m q (.refl H) (.refl m) R e⟩
@[simp] def sDrop (t : DE) : DS := fun D δ S => t δ S fun _ S1 => D.nx δ S1
theorem s_expr (h : PD X e te de) (hs : swapsWith e none pos.line X.env = pure false := by rfl) : PSD X (.Expr e pos) (tDrop te) (sDrop de) := ⟨ps_expr h.pe hs, fun σ H m S δ D D' R ev q c =>
  h.sim σ H m S δ _ _ R ev q fun d S1 v H1 m1 q1 k1 g1 R1 r1 => c.nx δ S1 σ H1 m1 q1 k1 g1 R1 (ev.mono k1 g1)⟩
@[simp] def sRet (t : DE) : DS := fun D δ S => t δ S D.rt
theorem s_ret (h : PD X e te de) : PSD X (.Return (some e) pos) (tRet te) (sRet de) := ⟨ps_ret h.pe, fun σ H m S δ D D' R ev q c => h.sim σ H m S δ _ _ R ev q c.rt⟩
@[simp] def sIf (c : DT) (t u : DS) : DS := fun D δ S => c δ S fun k S1 => if k = true then t D δ S1 else u D δ S1
theorem s_if {c : Expr} {tc : TT} {dc : DT} (hc : PTD X c tc dc) (ha : PSsD X a ts t) (hb : PSsD X b us u) : PSD X (.If c a b pos) (tIfS tc ts us) (sIf dc t u) := ⟨ps_if hc.pe ha.pe hb.pe, fun σ H m S δ D D' R ev q c =>
  hc.sim σ H m S δ _ _ R ev q fun k S1 H1 m1 q1 k1 g1 R1 => by
    cases k with
    | true => exact ha.sim σ H1 m1 S1 δ D D' R1 (ev.mono k1 g1) q1 (c.mono k1 g1)
    | false => exact hb.sim σ H1 m1 S1 δ D D' R1 (ev.mono k1 g1) q1 (c.mono k1 g1)⟩
/-- targets -/
@[simp] def gdName (i : Nat) : DG := fun x δ S Q => Q (δ.set i (some x)) S
theorem sim_gName {K : PySem.W.Frag} {i : Nat} : SimG K (gName i) (gdName i) := fun σ H m S δ x v Q Q' R e r q c => c _ S _ H m q (.refl H) (.refl m) R (e.set i r)
theorem g_name {i : Nat} {x : Str} (hN : X.N.Nodup) (hi : X.N[i]? = some x) (hx : Loc X.env.scope x) (hf : X.fn x = true ∨ X.env.scope.names.lookup x = some .local) : PGD X (.Name x pos) (gName i) (gdName i) := ⟨pg_name hN hi hx hf, sim_gName⟩
/-- (a, b) = a tuple of two -/
@[simp] def gd2 (g h : DG) : DG := fun x δ S Q => match x with | .tup [d1, d2] => g d1 δ S fun δ1 S1 => h d2 δ1 S1 Q | _ => False
theorem g_two {e1 e2 : Expr} {k : Nat} {g h : TG} {g' h' : DG} (hc : X.calm = true) (h1 : PGD X e1 g g') (h2 : PGD X e2 h h') (hs1 : (assignEach [e1, e2] X.env).map (·.2) = assign e1 X.env :: (assignEach [e2] X.env).map (·.2) := by rfl)
    (hs2 : (assignEach [e2] X.env).map (·.2) = assign e2 X.env :: (assignEach [] X.env).map (·.2) := by rfl) (hn : (assignEach [e1, e2] X.env).length = 2 := by rfl) (hst : (assignEach [e1, e2] X.env).findIdx? (·.1) = none := by rfl) :
    PGD X (.Tuple [e1, e2] k pos) (gTup X.K 2 (gCons g (gCons h gNil))) (gd2 g' h') := ⟨pg_tup hc (pgs_cons h1.pe (pgs_cons h2.pe pgs_nil hs2) hs1) hn hst, fun σ H m S δ x v Q Q' R e r q c => by
  unfold gd2 at q
  split at q
  case h_2 => exact q.elim
  rename_i d1 d2
  cases r with
  | tup s r =>
    cases r with
    | cons r1 r2 =>
      cases r2 with
      | cons r2 r3 =>
        cases r3
        refine ⟨_, _, rfl, s, rfl, _, _, rfl, h1.sim σ H m S δ d1 _ _ _ R e r1 q ?_⟩
        intro δ1 S1 σ1 H1 m1 q1 k1 g1 R1 e1
        refine ⟨_, _, rfl, h2.sim σ1 H1 m1 S1 δ1 d2 _ _ _ R1 e1 (Dv.mono k1 g1 _ _ r2) q1 ?_⟩
        intro δ2 S2 σ2 H2 m2 q2 k2 g2 R2 e2
        exact ⟨rfl, c δ2 S2 σ2 H2 m2 q2 (k1.trans k2) (g1.trans g2) R2 e2⟩⟩
/-- o[i] = .. of a list -/
@[simp] def gdSub (to ti : DE) : DG := fun x δ S Q => to δ S fun o S1 => ti δ S1 fun i S2 => ∃ l k ds j, o = .loc l ∧ i = .int k ∧ S2[l]? = some (.lst ds) ∧ ixN ds.length k = some j ∧ Q δ (S2.set l (.lst (ds.set j x)))
theorem g_sub {o i : Expr} {to ti : TE} {d1 d2 : DE} (ho : PD X o to d1) (hi : PD X i ti d2)
    (ha : ∀ v, assign (.Subscript o i pos) X.env v = (do
      let ov ← holding [v] (eval o X.env)
      let iv ← holding [v, ov] (eval i X.env)
      standAt pos
      holding [v, ov, iv] (setItem ov iv v)
      release [v, ov, iv] []) := by intro _; rfl) : PGD X (.Subscript o i pos) (gSub to ti rSetL) (gdSub d1 d2) := ⟨pg_sub ho.pe hi.pe set_list ha, fun σ H m S δ x v Q Q' R e r q c => by
  refine ho.sim σ H m S δ _ _ R e q ?_
  intro do_ S1 vo H1 m1 q1 k1 g1 R1 r1
  refine hi.sim σ H1 m1 S1 δ _ _ R1 (e.mono k1 g1) q1 ?_
  intro di S2 vi H2 m2 q2 k2 g2 R2 r2
  obtain ⟨l, k, ds, j, rfl, rfl, s2, hj, q2⟩ := q2
  cases r2
  obtain ⟨a, vs, rfl, em, hH, d2⟩ := R2.lst (Dv.mono k2 g2 _ _ r1) s2
  have kk := (k1.trans k2)
  refine ⟨a, vs, k, j, rfl, rfl, hH, by rw [d2.length]; exact hj, ?_⟩
  have r' := Dv.mono kk (g1.trans g2) _ _ r
  exact c δ _ σ _ m2 q2 (kk.trans (.put hH)) (g1.trans g2) (R2.put em hH (d2.set r' j)) ((e.mono kk (g1.trans g2)).mono (.put hH) (.refl m2))⟩
@[simp] def sAsg (t : DE) (g : DG) : DS := fun D δ S => t δ S fun x S1 => g x δ S1 D.nx
theorem sim_asg {K : PySem.W.Frag} {g : TG} {g' : DG} (h : SimE K te de) (hg : SimG K g g') : SimS K (tAsg te g) (sAsg de g') := fun σ H m S δ D D' R ev q c =>
  h σ H m S δ _ _ R ev q fun d S1 v H1 m1 q1 k1 g1 R1 r1 => hg σ H1 m1 S1 δ d v _ _ R1 (ev.mono k1 g1) r1 q1 (c.nx.mono k1 g1)
theorem s_asg {tg : Expr} {g : TG} {g' : DG} (he : PD X e te de) (hg : PGD X tg g g') (hs : swapsWithSole [tg] e pos.line X.env = pure false := by rfl) (hw : swappedStores [tg] e X.env = pure none := by rfl)
    (h1 : (assignEach [tg] X.env).map (·.2) = [assign tg X.env] := by rfl) : PSD X (.Assign [tg] e pos) (tAsg te g) (sAsg de g') := ⟨ps_asg he.pe hg.pe hs hw h1, sim_asg he.sim hg.sim⟩
theorem s_set {i : Nat} {x : Str} {pos' : Pos} (hN : X.N.Nodup) (hi : X.N[i]? = some x) (hx : Loc X.env.scope x) (hf : X.fn x = true ∨ X.env.scope.names.lookup x = some .local) (he : PD X e te de) (hs : swapsWith e (some (.Name x pos')) pos.line X.env = pure false := by rfl) :
    PSD X (.Assign [.Name x pos'] e pos) (tAsg te (gName i)) (sAsg de (gdName i)) := ⟨ps_set hN hi hx he.pe hs hf, sim_asg he.sim sim_gName⟩
/-- a, b = x, y -/
@[simp] def sPar (i j : Nat) (u : DA) : DS := fun D δ S => u δ S fun ds S1 => match ds with | [d1, d2] => D.nx ((δ.set i (some d1)).set j (some d2)) S1 | _ => False
theorem s_par {i j : Nat} {x y : Str} {a b : Expr} {ta : TA} {u : DA} {px py pt : Pos} {kt k2 pt2} (hc : X.calm = true) (hN : X.N.Nodup) (hi : X.N[i]? = some x) (hj : X.N[j]? = some y) (hij : i ≠ j)
    (hx : X.env.scope.names.lookup x = some .local) (hy : X.env.scope.names.lookup y = some .local) (ha : PAD X [a, b] ta u)
    (hw : swappedStores [.Tuple [.Name x px, .Name y py] kt pt] (.Tuple [a, b] k2 pt2) X.env = pure (some [x, y]) := by rfl)
    (hs : swapsWithSole [.Tuple [.Name x px, .Name y py] kt pt] (.Tuple [a, b] k2 pt2) pos.line X.env = pure false := by rfl) :
    PSD X (.Assign [.Tuple [.Name x px, .Name y py] kt pt] (.Tuple [a, b] k2 pt2) pos) (tPar i j ta) (sPar i j u) := ⟨ps_par hc hN hi hj hij hx hy ha.pe hw hs, fun σ H m S δ D D' R ev q c =>
  ha.sim σ H m S δ _ _ R ev q fun ds S1 vs H1 m1 q1 k1 g1 R1 r1 => by
    split at q1
    case h_2 => exact q1.elim
    cases r1 with
    | cons r1 r2 =>
      cases r2 with
      | cons r2 r3 =>
        cases r3
        exact ⟨_, _, rfl, c.nx _ S1 _ H1 m1 q1 k1 g1 R1 (((ev.mono k1 g1).set i r1).set j r2)⟩⟩
/-- name += e, ints -/
@[simp] def sAugI (i : Nat) (f : Int → Int → Int) (t : DE) : DS := fun D δ S => ∃ n, δ[i]? = some (some (.int n)) ∧ t δ S fun d S1 => ∃ k, d = .int k ∧ D.nx (δ.set i (some (.int (f n k)))) S1
theorem s_augI {i : Nat} {x : Str} {op : Operator} {f : Int → Int → Int} {pos' : Pos} (hN : X.N.Nodup) (hi : X.N[i]? = some x) (hx : Loc X.env.scope x) (hf : X.fn x = true ∨ X.env.scope.names.lookup x = some .local) (he : PD X e te de) (ho : PIp X op (ipI f)) :
    PSD X (.AugAssign (.Name x pos') op e pos) (tAug i te (ipI f)) (sAugI i f de) := ⟨ps_aug hN hi hx he.pe ho hf, fun σ H m S δ D D' R ev ⟨n, en, q⟩ c => by
  obtain ⟨v, h1, h2⟩ := ev.at_ i _ en
  cases h2
  refine ⟨_, h1, he.sim σ H m S δ _ _ R ev q ?_⟩
  intro d S1 v1 H1 m1 q1 k1 g1 R1 r1
  obtain ⟨k, rfl, q1⟩ := q1
  cases r1
  exact ⟨n, k, rfl, rfl, c.nx _ S1 _ H1 m1 q1 k1 g1 R1 ((ev.mono k1 g1).set i (.int _))⟩⟩
end
end DL

set_option Elab.async false
set_option linter.all false
set_option maxRecDepth 100000
set_option maxHeartbeats 1000000
namespace DL
open PySem L2 PyProof.Rows

/-! ### what is walked -/
structure ItOk (K : PySem.W.Frag) (H0 : Hp) (m0 : Mp) (items : List D) (st : Sto → Prop) (J : It) : Prop where
  go : ∀ (i : Nat) (H : Hp) (m : Mp) (S : Sto), Kp H0 H → Gr m0 m → Rel K H m S → st S → i < items.length → J.go i H
  yld : ∀ (i : Nat) (H : Hp) (m : Mp) (S : Sto) (x : V) (H' : Hp), Kp H0 H → Gr m0 m → Rel K H m S → st S → i < items.length → J.yld i H x H' → ∃ d, items[i]? = some d ∧ Kp H H' ∧ Rel K H' m S ∧ Dv K H' m x d
  stop : ∀ (i : Nat) (H : Hp) (m : Mp) (S : Sto), Kp H0 H → Gr m0 m → Rel K H m S → st S → items.length ≤ i → J.stop i H
abbrev DI := DEnv → Sto → (List D → (Sto → Prop) → Sto → Prop) → Prop
def SimI (K : PySem.W.Frag) (wi : TI) (di : DI) : Prop := ∀ (σ : L2.St) (H : Hp) (m : Mp) (S : Sto) (δ : DEnv) (R : It → Hp → Prop) (R' : List D → (Sto → Prop) → Sto → Prop),
  Rel K H m S → EnvR K H m σ δ → di δ S R' → (∀ items st S' H' m' J, R' items st S' → Kp H H' → Gr m m' → Rel K H' m' S' → ItOk K H' m' items st J → R J H') → wi σ H R
structure PID (X : Cx) (tg iter : Expr) (wi : TI) (di : DI) : Prop where
  pe : PI X tg iter wi
  sim : SimI X.K wi di
section
variable {X : Cx} {tg l : Expr} {te : TE} {de : DE} {pos p : Pos}
theorem it_tup {K : PySem.W.Frag} {H : Hp} {m : Mp} {a : Addr} {vs : List V} {ds : List D} (s : SqT K H a vs) (r : DvA K H m vs ds) : ItOk K H m ds (fun _ => True) (Itt K a) where
  go := fun i H' m' S k g R _ hi => ⟨vs, vs[i]'(by rw [r.length]; exact hi), k.sqT s, List.getElem?_eq_getElem _⟩
  yld := fun i H' m' S x H2 k g R _ hi ⟨e, y⟩ => by
    subst e
    obtain ⟨d, h1, h2⟩ := r.getV (y vs (k.sqT s))
    exact ⟨d, h1, .refl _, R, Dv.mono k g _ _ h2⟩
  stop := fun i H' m' S k g R _ hi => ⟨vs, k.sqT s, by rw [r.length]; exact hi⟩
theorem it_lst {K : PySem.W.Frag} {H : Hp} {m : Mp} {a : Addr} {j : Nat} {ds : List D} (e : m[j]? = some a) : ItOk K H m ds (fun S => S[j]? = some (.lst ds)) (Itl K a) where
  go := fun i H' m' S k g R hs hi => by
    obtain ⟨vs, h, r⟩ := R.ob j a _ (g.at e) hs
    exact ⟨vs, vs[i]'(by rw [r.length]; exact hi), SqL.of h, List.getElem?_eq_getElem _⟩
  yld := fun i H' m' S x H2 k g R hs hi ⟨e2, y⟩ => by
    subst e2
    obtain ⟨vs, h, r⟩ := R.ob j a _ (g.at e) hs
    obtain ⟨d, h1, h2⟩ := r.getV (y vs (SqL.of h))
    exact ⟨d, h1, .refl _, R, h2⟩
  stop := fun i H' m' S k g R hs hi => by
    obtain ⟨vs, h, r⟩ := R.ob j a _ (g.at e) hs
    exact ⟨vs, SqL.of h, by rw [r.length]; exact hi⟩
def signsD (z : Str) : List D := z.cps.toList.map fun c => .str ⟨#[c]⟩
theorem it_str {K : PySem.W.Frag} {H : Hp} {m : Mp} (z : Str) : ItOk K H m (signsD z) (fun _ => True) (Its z) where
  go := fun i H' m' S k g R _ hi => by
    unfold signsD at hi
    rw [List.length_map, Array.length_toList] at hi
    exact hi
  yld := fun i H' m' S x H2 k g R _ hi ⟨e, c, hc, ex⟩ => by
    subst e ex
    refine ⟨.str ⟨#[c]⟩, ?_, .refl _, R, .str _⟩
    unfold signsD
    rw [List.getElem?_map, Array.getElem?_toList, hc]
    rfl
  stop := fun i H' m' S k g R _ hi => by
    unfold signsD at hi
    rw [List.length_map, Array.length_toList] at hi
    exact hi
def rangeD (lo : Int) (n : Nat) : List D := (List.range n).map fun i => .int (lo + (i : Nat))
theorem it_rng {K : PySem.W.Frag} {H : Hp} {m : Mp} (lo : Int) (n : Nat) : ItOk K H m (rangeD lo n) (fun _ => True) (Itr lo n) where
  go := fun i H' m' S k g R _ hi => by
    unfold rangeD at hi
    rw [List.length_map, List.length_range] at hi
    exact hi
  yld := fun i H' m' S x H2 k g R _ hi ⟨e, ex⟩ => by
    subst e ex
    unfold rangeD at hi ⊢
    rw [List.length_map, List.length_range] at hi
    refine ⟨.int (lo + i), ?_, .refl _, R, .int _⟩
    rw [List.getElem?_map, List.getElem?_range hi]
    rfl
  stop := fun i H' m' S k g R _ hi => by
    unfold rangeD at hi
    rw [List.length_map, List.length_range] at hi
    exact hi
/-- a tuple, a list or a text, by its value -/
def iAny (K : PySem.W.Frag) (tl : TE) : TI := fun σ H R => tl σ H fun x H1 => (∃ a xs, x = .ref a ∧ SqT K H1 a xs ∧ R (Itt K a) H1) ∨ (∃ a xs, x = .ref a ∧ SqL K H1 a xs ∧ R (Itl K a) H1) ∨ ∃ z, x = .str z ∧ R (Its z) H1
theorem pi_any (hl : PE X l te) : PI X tg l (iAny X.K te) := by
  constructor
  intro pins s σ H R I h
  refine thn (hl.run pins s σ H _ I h) ?_
  rintro v s1 ⟨x, H1, I1, r1, ⟨a, xs, rfl, hq, q⟩ | ⟨a, xs, rfl, hq, q⟩ | ⟨z, rfl, q⟩⟩
  · cases r1
    obtain ⟨its, rv, p, hz⟩ := I1.tuple hq
    exact wpAny_pyIter_tuple (show s1.heap.IsTuple a its.toArray from p)
      (pi_one (tk := s1.toks) I1 _ (turn_tuple a _) ⟨_, Heap.get?_push_size _ rfl, rfl, rfl⟩ q)
  · cases r1
    obtain ⟨its, rv, p, hz⟩ := I1.list hq
    exact wpAny_pyIter_list p.isList (pi_one (tk := s1.toks) I1 _ (turn_list a _) ⟨_, Heap.get?_push_size _ rfl, rfl, rfl⟩ q)
  · obtain ⟨t, rfl⟩ := r1
    cases ha : z.cps.all (· < 128)
    · exact wpAny_pyIter_wide ha (pi_one (tk := s1.toks) I1 _ (turn_str _ z t "str_iterator" (.inr rfl)) ⟨_, Heap.get?_push_size _ rfl, rfl, rfl⟩ q)
    · exact wpAny_pyIter_ascii ha (pi_one (tk := s1.toks) I1 _ (turn_str _ z t "str_ascii_iterator" (.inl rfl)) ⟨_, Heap.get?_push_size _ rfl, rfl, rfl⟩ q)
@[simp] def diAny (t : DE) : DI := fun δ S R => t δ S fun d S1 => match d with
  | .tup ds => R ds (fun _ => True) S1
  | .str z => R (signsD z) (fun _ => True) S1
  | .loc j => ∃ ds, S1[j]? = some (.lst ds) ∧ R ds (fun S => S[j]? = some (.lst ds)) S1
  | _ => False
theorem i_any (h : PD X l te de) : PID X tg l (iAny X.K te) (diAny de) := ⟨pi_any h.pe, fun σ H m S δ R R' Rl e q c =>
  h.sim σ H m S δ _ _ Rl e q fun d S1 v H1 m1 q1 k1 g1 R1 r1 => by
    cases d with
    | tup ds =>
      cases r1 with
      | tup s d1 => exact .inl ⟨_, _, rfl, s, c _ _ S1 H1 m1 _ q1 k1 g1 R1 (it_tup s d1)⟩
    | str z =>
      cases r1
      exact .inr (.inr ⟨z, rfl, c _ _ S1 H1 m1 _ q1 k1 g1 R1 (it_str z)⟩)
    | loc j =>
      obtain ⟨ds, s1, q1⟩ := q1
      obtain ⟨a, vs, rfl, em, hH, d1⟩ := R1.lst r1 s1
      exact .inr (.inl ⟨a, vs, rfl, SqL.of hH, c _ _ S1 H1 m1 _ q1 k1 g1 R1 (it_lst em)⟩)
    | _ => exact (q1 : False).elim⟩
@[simp] def diRng1 (u : DA) : DI := fun δ S R => u δ S fun ds S1 => ∃ j : Int, ds = [.int j] ∧ -1000000 ≤ j ∧ j ≤ 1000000 ∧ R (rangeD 0 j.toNat) (fun _ => True) S1
theorem i_rng1 {a : Expr} {ta : TA} {u : DA} (hg : Gl X "range") (hm : X.mg "range" = none) (ha : PAD X [a] ta u) (hs : starEach [a] X.env = [(false, eval a X.env)] := by rfl) : PID X tg (.Call (.Name "range" p) [a] [] pos) (iRng1 ta) (diRng1 u) :=
  ⟨pi_range1 hg hm ha.pe hs, fun σ H m S δ R R' Rl e q c => ha.sim σ H m S δ _ _ Rl e q fun ds S1 vs H1 m1 ⟨j, ej, h1, h2, q1⟩ k1 g1 R1 r1 => by
    subst ej
    cases r1 with
    | cons r1 r2 =>
      cases r2
      cases r1
      exact ⟨j, rfl, by omega, by omega, c _ _ S1 H1 m1 _ q1 k1 g1 R1 (it_rng 0 _)⟩⟩
@[simp] def diRng2 (u : DA) : DI := fun δ S R => u δ S fun ds S1 => match ds with | [.int i, .int j] => -1000000 ≤ i ∧ i ≤ 1000000 ∧ -1000000 ≤ j ∧ j ≤ 1000000 ∧ R (rangeD i (j - i).toNat) (fun _ => True) S1 | _ => False
theorem i_rng2 {a b : Expr} {ta : TA} {u : DA} (hg : Gl X "range") (hm : X.mg "range" = none) (ha : PAD X [a, b] ta u) (hs : starEach [a, b] X.env = [(false, eval a X.env), (false, eval b X.env)] := by rfl) (hs2 : starEach [b] X.env = [(false, eval b X.env)] := by rfl) :
    PID X tg (.Call (.Name "range" p) [a, b] [] pos) (iRng2 ta) (diRng2 u) :=
  ⟨pi_range2 hg hm ha.pe hs hs2, fun σ H m S δ R R' Rl e q c => ha.sim σ H m S δ _ _ Rl e q fun ds S1 vs H1 m1 q1 k1 g1 R1 r1 => by
    split at q1
    case h_2 => exact q1.elim
    rename_i i j
    obtain ⟨h1, h2, h3, h4, q1⟩ := q1
    cases r1 with
    | cons r1 r2 =>
      cases r2 with
      | cons r2 r3 =>
        cases r3
        cases r1
        cases r2
        exact ⟨i, j, rfl, ⟨by omega, by omega, by omega, by omega⟩, c _ _ S1 H1 m1 _ q1 k1 g1 R1 (it_rng i _)⟩⟩
/-- enumerate(list) -/
def enumD (ds : List D) : List D := ds.zipIdx.map fun p => .tup [.int (p.2 : Nat), p.1]
theorem enumD_at {ds : List D} {i : Nat} {d : D} (h : ds[i]? = some d) : (enumD ds)[i]? = some (.tup [.int (i : Nat), d]) := by
  unfold enumD
  rw [List.getElem?_map, List.getElem?_zipIdx, h]
  simp
theorem enumD_len (ds : List D) : (enumD ds).length = ds.length := by
  unfold enumD
  rw [List.length_map, List.length_zipIdx]
theorem it_enum {K : PySem.W.Frag} {H : Hp} {m : Mp} {a : Addr} {j : Nat} {ds : List D} (e : m[j]? = some a) : ItOk K H m (enumD ds) (fun S => S[j]? = some (.lst ds)) (Ite K a) where
  go := fun i H' m' S k g R hs hi => by
    rw [enumD_len] at hi
    obtain ⟨vs, h, r⟩ := R.ob j a _ (g.at e) hs
    exact ⟨vs, vs[i]'(by rw [r.length]; exact hi), SqL.of h, List.getElem?_eq_getElem _⟩
  yld := fun i H' m' S x H2 k g R hs hi ⟨T, y, ex, hT, eH, hy⟩ => by
    subst ex eH
    obtain ⟨vs, h, r⟩ := R.ob j a _ (g.at e) hs
    obtain ⟨d, h1, h2⟩ := r.getV (hy vs (SqL.of h))
    exact ⟨_, enumD_at h1, .new hT, R.new hT, .tup (SqT.of upd_same) (.cons (.int _) (.cons (Dv.mono (.new hT) (.refl _) _ _ h2) .nil))⟩
  stop := fun i H' m' S k g R hs hi => by
    rw [enumD_len] at hi
    obtain ⟨vs, h, r⟩ := R.ob j a _ (g.at e) hs
    exact ⟨vs, SqL.of h, by rw [r.length]; exact hi⟩
@[simp] def diEnum (u : DA) : DI := fun δ S R => u δ S fun xs S1 => ∃ j ds, xs = [.loc j] ∧ S1[j]? = some (.lst ds) ∧ R (enumD ds) (fun S => S[j]? = some (.lst ds)) S1
theorem i_enum {a : Expr} {ta : TA} {u : DA} {elts : List Expr} {kk : Nat} {tpos : Pos} (hg : Gl X "enumerate") (hm : X.mg "enumerate" = none) (ha : PAD X [a] ta u) (hs : starEach [a] X.env = [(false, eval a X.env)] := by rfl) :
    PID X (.Tuple elts kk tpos) (.Call (.Name "enumerate" p) [a] [] pos) (iEnum X.K ta) (diEnum u) :=
  ⟨pi_enum hg hm ha.pe hs, fun σ H m S δ R R' Rl e q c => ha.sim σ H m S δ _ _ Rl e q fun xs S1 vs H1 m1 ⟨j, ds, ej, s1, q1⟩ k1 g1 R1 r1 => by
    subst ej
    cases r1 with
    | cons r1 r2 =>
      cases r2
      obtain ⟨a, vs, rfl, em, hH, d1⟩ := R1.lst r1 s1
      exact ⟨a, vs, rfl, SqL.of hH, c _ _ S1 H1 m1 _ q1 k1 g1 R1 (it_enum em)⟩⟩
end

/-! ### for -/
def forL (st : Sto → Prop) (g : DG) (tb : DS) : List D → DS
  | [], D, δ, S => st S ∧ D.nx δ S
  | x :: xs, D, δ, S => st S ∧ g x δ S fun δ2 S2 => tb { D with nx := forL st g tb xs D, ct := forL st g tb xs D, bk := D.nx } δ2 S2
@[simp] def sFor (di : DI) (g : DG) (tb : DS) : DS := fun D δ S => di δ S fun items st S1 => forL st g tb items D δ S1
theorem sim_for {K : PySem.W.Frag} {wi : TI} {di : DI} {g : TG} {g' : DG} {tb : TS} {tb' : DS} (hi : SimI K wi di) (hg : SimG K g g') (hb : SimS K tb tb') : SimS K (tFor wi g tb) (sFor di g' tb') := by
  intro σ H m S δ D D' R e q c
  refine hi σ H m S δ _ _ R e q ?_
  intro items st S1 H1 m1 J q1 k1 g1 R1 J1
  refine ⟨fun i n σ H => n = items.length - i ∧ i ≤ items.length ∧ ∃ m S δ, Kp H1 H ∧ Gr m1 m ∧ Rel K H m S ∧ EnvR K H m σ δ ∧ forL st g' tb' (items.drop i) D' δ S,
    ⟨items.length, rfl, Nat.zero_le _, m1, S1, δ, .refl _, .refl _, R1, e.mono k1 g1, q1⟩, ?_⟩
  rintro i n σ2 H2 ⟨rfl, hle, m2, S2, δ2, k2, g2, R2, e2, q2⟩
  by_cases hlt : i < items.length
  · rw [List.drop_eq_getElem_cons hlt] at q2
    obtain ⟨hst, q2⟩ := q2
    refine .inr ⟨J1.go i H2 m2 S2 k2 g2 R2 hst hlt, fun σ H => ∃ m S δ, Kp H1 H ∧ Gr m1 m ∧ Rel K H m S ∧ EnvR K H m σ δ ∧ forL st g' tb' (items.drop (i + 1)) D' δ S,
      fun σ' H' h => ⟨items.length - (i + 1), by omega, rfl, hlt, h⟩, fun x H' y => ?_⟩
    obtain ⟨d, hd, k3, R3, r3⟩ := J1.yld i H2 m2 S2 x H' k2 g2 R2 hst hlt y
    rw [List.getElem?_eq_getElem hlt] at hd
    cases hd
    refine hg σ2 H' m2 S2 δ2 _ x _ _ R3 (e2.mono k3 (.refl _)) r3 q2 ?_
    intro δ4 S4 σ4 H4 m4 q4 k4 g4 R4 e4
    have kk : Kp H1 H4 := (k2.trans k3).trans k4
    have gg : Gr m1 m4 := g2.trans g4
    have again : ContS K H4 m4 (forL st g' tb' (items.drop (i + 1)) D') (fun σ H => ∃ m S δ, Kp H1 H ∧ Gr m1 m ∧ Rel K H m S ∧ EnvR K H m σ δ ∧ forL st g' tb' (items.drop (i + 1)) D' δ S) :=
      fun δ5 S5 σ5 H5 m5 q5 k5 g5 R5 e5 => ⟨m5, S5, δ5, kk.trans k5, gg.trans g5, R5, e5, q5⟩
    have cc := c.mono (k1.trans kk) (g1.trans gg)
    exact hb σ4 H4 m4 S4 δ4 _ _ R4 e4 q4 ⟨again, cc.rt, cc.nx, again⟩
  · have ei : i = items.length := by omega
    subst ei
    rw [List.drop_length] at q2
    obtain ⟨hst, q2⟩ := q2
    exact .inl ⟨J1.stop _ H2 m2 S2 k2 g2 R2 hst (Nat.le_refl _), c.nx δ2 S2 σ2 H2 m2 q2 (k1.trans k2) (g1.trans g2) R2 e2⟩
theorem s_for {X : Cx} {tg iter : Expr} {body : List Stmt} {wi : TI} {di : DI} {g : TG} {g' : DG} {tb : TS} {tb' : DS} {pos : Pos} (hp : PassesOwn (model X.prog X.w) X.A X.env X.xe) (hc : X.calm = true) (hi : PID X tg iter wi di) (hg : PGD X tg g g') (hb : PSsD X body tb tb')
    (hs : ∀ x, foldedSetIterable iter X.env x = pure x := by intro _; rfl) : PSD X (.For tg iter body [] pos) (tFor wi g tb) (sFor di g' tb') := ⟨ps_for hp hc hi.pe hg.pe hb.pe hs, sim_for hi.sim hg.sim hb.sim⟩

/-! ### while -/
def whileL (c : DT) (tb : DS) : Nat → DS
  | 0, _, _, _ => False
  | n + 1, D, δ, S => c δ S fun b S1 => if b = true then tb { D with nx := whileL c tb n D, ct := whileL c tb n D, bk := D.nx } δ S1 else D.nx δ S1
def sWhile (c : DT) (tb : DS) : DS := fun D δ S => ∃ n, whileL c tb n D δ S
theorem sim_while {K : PySem.W.Frag} {c : TT} {c' : DT} {tb : TS} {tb' : DS} (hc : SimT K c c') (hb : SimS K tb tb') : SimS K (tWhile c tb) (sWhile c' tb') := by
  intro σ H m S δ D D' R e ⟨n0, q⟩ cc
  refine ⟨fun n σ H2 => ∃ m2 S δ, Kp H H2 ∧ Gr m m2 ∧ Rel K H2 m2 S ∧ EnvR K H2 m2 σ δ ∧ whileL c' tb' n D' δ S, ⟨n0, m, S, δ, .refl _, .refl _, R, e, q⟩, ?_⟩
  rintro n σ2 H2 ⟨m2, S2, δ2, k2, g2, R2, e2, q2⟩
  cases n with
  | zero => exact q2.elim
  | succ n =>
    refine hc σ2 H2 m2 S2 δ2 _ _ R2 e2 q2 ?_
    intro b S3 H3 m3 q3 k3 g3 R3
    have kk := k2.trans k3
    have gg := g2.trans g3
    cases b with
    | false =>
      exact cc.nx δ2 S3 σ2 H3 m3 q3 kk gg R3 (e2.mono k3 g3)
    | true =>
      refine ⟨fun σ H2 => ∃ m2 S δ, Kp H H2 ∧ Gr m m2 ∧ Rel K H2 m2 S ∧ EnvR K H2 m2 σ δ ∧ whileL c' tb' n D' δ S, fun σ' H' h => ⟨n, Nat.lt_succ_self n, h⟩, ?_⟩
      have again : ContS K H3 m3 (whileL c' tb' n D') (fun σ H2 => ∃ m2 S δ, Kp H H2 ∧ Gr m m2 ∧ Rel K H2 m2 S ∧ EnvR K H2 m2 σ δ ∧ whileL c' tb' n D' δ S) :=
        fun δ5 S5 σ5 H5 m5 q5 k5 g5 R5 e5 => ⟨m5, S5, δ5, kk.trans k5, gg.trans g5, R5, e5, q5⟩
      have c2 := cc.mono kk gg
      exact hb σ2 H3 m3 S3 δ2 _ _ R3 (e2.mono k3 g3) q3 ⟨again, c2.rt, c2.nx, again⟩
theorem s_while {X : Cx} {c : Expr} {body : List Stmt} {tc : TT} {dc : DT} {tb : TS} {tb' : DS} {pos : Pos} (hp : PassesOwn (model X.prog X.w) X.A X.env X.xe) (hc : PTD X c tc dc) (hb : PSsD X body tb tb') : PSD X (.While c body [] pos) (tWhile tc tb) (sWhile dc tb') :=
  ⟨ps_while hp hc.pe hb.pe, sim_while hc.sim hb.sim⟩

/-! ### list comprehensions -/
def lcL (st : Sto → Prop) (i l : Nat) (tt : DT) (te : DE) : List D → DEnv → Sto → DK → Prop
  | [], _, S, Q => st S ∧ Q (.loc l) S
  | x :: xs, δ, S, Q => st S ∧ tt (δ.set i (some x)) S fun b S2 => if b = true then te (δ.set i (some x)) S2 fun y S3 => ∃ acc, S3[l]? = some (.lst acc) ∧ acc.length < 100000 ∧ lcL st i l tt te xs δ (S3.set l (.lst (acc ++ [y]))) Q else lcL st i l tt te xs δ S2 Q
@[simp] def dLc (di : DI) (i : Nat) (tt : DT) (te : DE) : DE := fun δ S Q => di δ S fun items st S1 => lcL st i S1.length tt te items (δ.set i none) (S1 ++ [.lst []]) Q
@[simp] def dYes : DT := fun _ S Q => Q true S
theorem EnvR.wipe {K : PySem.W.Frag} {H : Hp} {m : Mp} {σ : L2.St} {δ : DEnv} (e : EnvR K H m σ δ) (i : Nat) : EnvR K H m (L2.wipe σ [i]) (δ.set i none) := by
  show EnvR K H m (σ.set i none) (δ.set i none)
  refine ⟨by rw [List.length_set, List.length_set]; exact e.len, fun j d h => ?_⟩
  by_cases hj : j = i
  · subst hj
    by_cases hl : j < δ.length
    · rw [List.getElem?_set_self hl] at h
      cases h
    · rw [List.getElem?_eq_none (by rw [List.length_set]; omega)] at h
      cases h
  · rw [List.getElem?_set_ne (fun z => hj z.symm)] at h
    obtain ⟨v, a, b⟩ := e.at_ j d h
    exact ⟨v, by rw [List.getElem?_set_ne (fun z => hj z.symm)]; exact a, b⟩
theorem sim_lc {K : PySem.W.Frag} {wi : TI} {di : DI} {tt : TT} {tt' : DT} {te : TE} {te' : DE} {i : Nat} (hi : SimI K wi di) (ht : SimT K tt tt') (he : SimE K te te') : SimE K (tLc wi (gName i) tt te [i]) (dLc di i tt' te') := by
  intro σ H m S δ Q Q' R e q c
  refine hi σ H m S δ _ _ R e q ?_
  intro items st S1 H1 m1 J q1 k1 g1 R1 J1 DD hD
  have kD : Kp H1 (upd H1 DD (.lst [])) := .new hD
  have gD : Gr m1 (m1 ++ [DD]) := ⟨[DD], rfl⟩
  have RD : Rel K (upd H1 DD (.lst [])) (m1 ++ [DD]) (S1 ++ [.lst []]) := R1.push hD .nil
  have mD : (m1 ++ [DD])[S1.length]? = some DD := by rw [← R1.len, List.getElem?_append_right (Nat.le_refl _), Nat.sub_self]; rfl
  refine ⟨fun j n H => n = items.length - j ∧ j ≤ items.length ∧ ∃ m S, Kp (upd H1 DD (.lst [])) H ∧ Gr (m1 ++ [DD]) m ∧ Rel K H m S ∧ lcL st i S1.length tt' te' (items.drop j) (δ.set i none) S Q',
    ⟨items.length, rfl, Nat.zero_le _, m1 ++ [DD], _, .refl _, .refl _, RD, q1⟩, ?_⟩
  rintro j n H2 ⟨rfl, hle, m2, S2, k2, g2, R2, q2⟩
  by_cases hlt : j < items.length
  · rw [List.drop_eq_getElem_cons hlt] at q2
    obtain ⟨hst, q2⟩ := q2
    refine .inr ⟨J1.go j H2 m2 S2 (kD.trans k2) (gD.trans g2) R2 hst hlt, fun H => ∃ m S, Kp (upd H1 DD (.lst [])) H ∧ Gr (m1 ++ [DD]) m ∧ Rel K H m S ∧ lcL st i S1.length tt' te' (items.drop (j + 1)) (δ.set i none) S Q',
      fun H' h => ⟨items.length - (j + 1), by omega, rfl, hlt, h⟩, fun x H' y => ?_⟩
    obtain ⟨d, hd, k3, R3, r3⟩ := J1.yld j H2 m2 S2 x H' (kD.trans k2) (gD.trans g2) R2 hst hlt y
    rw [List.getElem?_eq_getElem hlt] at hd
    cases hd
    have k13 : Kp H1 H' := (kD.trans k2).trans k3
    have g13 : Gr m1 m2 := gD.trans g2
    have e3 : EnvR K H' m2 ((L2.wipe σ [i]).set i (some x)) ((δ.set i none).set i (some items[j])) := ((e.mono (k1.trans k13) (g1.trans g13)).wipe i).set i r3
    refine ⟨?_, ht _ H' m2 S2 _ _ _ R3 e3 q2 ?_⟩
    · show (((σ.set i none).set i (some x)).set i none) = σ.set i none
      rw [List.set_set, List.set_set]
    · intro b S4 H4 m4 q4 k4 g4 R4
      cases b with
      | false => exact ⟨m4, S4, (k2.trans k3).trans k4, g2.trans g4, R4, q4⟩
      | true =>
        refine he _ H4 m4 S4 _ _ _ R4 (e3.mono k4 g4) q4 ?_
        intro y2 S5 v5 H5 m5 q5 k5 g5 R5 r5
        obtain ⟨acc, s5, hl5, q5⟩ := q5
        have em : m5[S1.length]? = some DD := ((g2.trans g4).trans g5).at mD
        obtain ⟨vs, hH5, d5⟩ := R5.ob _ _ _ em s5
        refine ⟨vs, hH5, by rw [d5.length]; exact small5' hl5, m5, _, (((k2.trans k3).trans k4).trans k5).trans (.put hH5), (g2.trans g4).trans g5, R5.put em hH5 (d5.append (.cons r5 .nil)), q5⟩
  · have ei : j = items.length := by omega
    subst ei
    rw [List.drop_length] at q2
    obtain ⟨hst, q2⟩ := q2
    refine .inl ⟨J1.stop _ H2 m2 S2 (kD.trans k2) (gD.trans g2) R2 hst (Nat.le_refl _), ?_⟩
    exact c (.loc S1.length) S2 (.ref DD) H2 m2 q2 ((k1.trans kD).trans k2) ((g1.trans gD).trans g2) R2 (.loc (g2.at mD))
section
variable {X : Cx} {elt tg iter : Expr} {ifs : List Expr} {scope : Scope} {y x : Str} {i j : Nat} {pos spos px py : Pos} {wi : TI} {di : DI} {tt : TT} {tt' : DT} {te : TE} {te' : DE}
structure PTsD (X : Cx) (ifs : List Expr) (tt : TT) (t : DT) : Prop where
  pe : PTs X ifs tt
  sim : SimT X.K tt t
theorem dts_nil : PTsD X [] tYes dYes := ⟨pts_nil, fun σ H m S δ Q Q' R e q c => c true S H m q (.refl H) (.refl m) R⟩
theorem dts_one {c : Expr} {t : TT} {t' : DT} (h : PTD X c t t') : PTsD X [c] t t' := ⟨pts_one h.pe, h.sim⟩
theorem d_lc (hc : X.calm = true) (hN : X.N.Nodup) (hi : PID X (.Name x px) iter wi di) (ok : BlkOk X.N X.env.scope scope [(x, i)])
    (hg : ∀ (s : Shared) (H : Hp) (C : Addr) (cl : List (Str × Addr)) (fp : List Addr), PG (X.blk s H scope (compEnvC scope cl C X.env) fp) (.Name x px) (gName i))
    (ht : ∀ (s : Shared) (H : Hp) (C : Addr) (cl : List (Str × Addr)) (fp : List Addr), PTsD (X.blk s H scope (compEnvC scope cl C X.env) fp) ifs tt tt')
    (he : ∀ (s : Shared) (H : Hp) (C : Addr) (cl : List (Str × Addr)) (fp : List Addr), PD (X.blk s H scope (compEnvC scope cl C X.env) fp) elt te te') (hs : ∀ x, foldedSetIterable iter X.env x = pure x := by intro _; rfl) (s0 : Shared) :
    PD X (.ListComp elt [⟨.Name x px, iter, ifs, 0⟩] scope pos) (tLc wi (gName i) tt te [i]) (dLc di i tt' te') :=
  ⟨pe_lc (own := [(x, i)]) hc hN hi.pe ok hg (fun s H C cl fp => (ht s H C cl fp).pe) (fun s H C cl fp => (he s H C cl fp).pe) hs,
   sim_lc hi.sim (ht s0 (fun _ => none) 0 [] []).sim (he s0 (fun _ => none) 0 [] []).sim⟩
theorem s_setLc (hc : X.calm = true) (hN : X.N.Nodup) (hy : X.N[j]? = some y) (hyl : X.env.scope.names.lookup y = some .local) (hsw : swapsWith (.ListComp elt [⟨.Name x px, iter, ifs, 0⟩] scope pos) (some (.Name y py)) spos.line X.env = pure true)
    (hi : PID X (.Name x px) iter wi di) (ok : BlkOk X.N X.env.scope scope [(x, i)])
    (hg : ∀ (s : Shared) (H : Hp) (C : Addr) (cl : List (Str × Addr)) (fp : List Addr), PG (X.blk s H scope (compEnvC scope cl C X.env) fp) (.Name x px) (gName i))
    (ht : ∀ (s : Shared) (H : Hp) (C : Addr) (cl : List (Str × Addr)) (fp : List Addr), PTsD (X.blk s H scope (compEnvC scope cl C X.env) fp) ifs tt tt')
    (he : ∀ (s : Shared) (H : Hp) (C : Addr) (cl : List (Str × Addr)) (fp : List Addr), PD (X.blk s H scope (compEnvC scope cl C X.env) fp) elt te te') (hs : ∀ x, foldedSetIterable iter X.env x = pure x := by intro _; rfl) (s0 : Shared) :
    PSD X (.Assign [.Name y py] (.ListComp elt [⟨.Name x px, iter, ifs, 0⟩] scope pos) spos) (tAsg (tLc wi (gName i) tt te [i]) (gName j)) (sAsg (dLc di i tt' te') (gdName j)) :=
  ⟨ps_setLc (own := [(x, i)]) hc hN hy hyl hsw hi.pe ok hg (fun s H C cl fp => (ht s H C cl fp).pe) (fun s H C cl fp => (he s H C cl fp).pe) hs,
   sim_asg (sim_lc hi.sim (ht s0 (fun _ => none) 0 [] []).sim (he s0 (fun _ => none) 0 [] []).sim) sim_gName⟩
end

/-! ### a def -/
@[simp] def startD (n : Nat) (ds : List D) : DEnv := ds.map some ++ List.replicate (n - ds.length) none
theorem envR_start {K : PySem.W.Frag} {H : Hp} {m : Mp} {vs : List V} {ds : List D} (N : List Str) (r : DvA K H m vs ds) : EnvR K H m (start N vs) (startD N.length ds) := by
  unfold L2.start startD
  refine ⟨by rw [List.length_append, List.length_append, List.length_map, List.length_map, List.length_replicate, List.length_replicate, r.length], fun i d h => ?_⟩
  by_cases hi : i < ds.length
  · rw [List.getElem?_append_left (by rw [List.length_map]; exact hi), List.getElem?_map] at h
    obtain ⟨d', hd, e⟩ := Option.map_eq_some_iff.mp h
    cases e
    obtain ⟨v, h1, h2⟩ := r.get hd
    refine ⟨v, ?_, h2⟩
    rw [List.getElem?_append_left (by rw [List.length_map, r.length]; exact hi), List.getElem?_map, h1]
    rfl
  · rw [List.getElem?_append_right (by rw [List.length_map]; omega)] at h
    rw [List.getElem?_replicate] at h
    split at h <;> cases h
theorem defD {P : Program} {w : World} {K : PySem.W.Frag} {mg : Str → Option Value} {base : Heap} {k n : Nat} {x qual : Str} {st : Stmt} {f : Addr} {fd : FuncData} {ps N : List Str} {c : DSp}
    (F : Fun K x qual st f fd) (S : FnScope N ps (defScope st)) (hm : mg x = some (.ref f)) (hb : Binds K fd ps []) (hn : ps.length = n) (len : ∀ ds S Q, c ds S Q → ds.length = n)
    (hb0 : ∀ (cdv : Value) (A : Around) (outer : List Env) (s : Shared) (H : Hp) (E : XK),
      (cxD P w K mg base N qual st f cdv A outer s H E).A.guards = some [] → Room k (cxD P w K mg base N qual st f cdv A outer s H E).A →
      ∃ ts t, PSsD (cxD P w K mg base N qual st f cdv A outer s H E) (defBody st) ts t ∧ ∀ (ds : List D) (S : Sto) (Q : DK), c ds S Q → t { nx := fun _ S' => Q .non S', rt := Q } (startD N.length ds) S) :
    DefD P w K mg base (k + 1) x n c := by
  refine ⟨f, fd, ps, hn, funG F S (fun vs H Q E ⟨m, S', ds, Q', R, r, hc, ct⟩ => by rw [r.length, len _ _ _ hc, hn]) ?_, hm, F.kp, hb⟩
  intro cdv A outer s H E hg hr
  obtain ⟨ts, t, h, q⟩ := hb0 cdv A outer s H E hg hr
  refine ⟨ts, h.pe, ?_⟩
  rintro H vs Q E ⟨m, S', ds, Q', R, r, hc, ct⟩
  exact h.sim _ H m S' _ _ _ R (envR_start N r) (q ds S' Q' hc)
    ⟨fun δ' S2 σ' H' m' q' k g R' e' => ct _ S2 _ H' m' q' k g R' .non, ct, fun δ' S2 σ' H' m' q' _ _ _ _ => q'.elim, fun δ' S2 σ' H' m' q' _ _ _ _ => q'.elim⟩
end DL

set_option Elab.async false
set_option linter.all false
set_option maxRecDepth 100000
set_option maxHeartbeats 1000000
namespace DL
open PySem L2 PyProof.Rows
/-! ### dicts -/
def valD (kvs : List (Key × D)) (k : Key) : Option D := (kvs.find? fun kv => decide (kv.1 = k)).map (·.2)
theorem val_rel {K : PySem.W.Frag} {H : Hp} {m : Mp} {k : Key} : ∀ {kws : List (Key × V)} {kvs : List (Key × D)}, kws.map (·.1) = kvs.map (·.1) → DvA K H m (kws.map (·.2)) (kvs.map (·.2)) →
    (valV kws k = none ∧ valD kvs k = none) ∨ ∃ v d, valV kws k = some v ∧ valD kvs k = some d ∧ Dv K H m v d
  | [], [], _, _ => .inl ⟨rfl, rfl⟩
  | [], _ :: _, h, _ => by cases h
  | _ :: _, [], h, _ => by cases h
  | (a, v) :: r, (b, d) :: s, h, q => by
    have h1 : a = b := (List.cons.inj h).1
    have h2 : r.map (·.1) = s.map (·.1) := (List.cons.inj h).2
    subst h1
    cases q with
    | cons q1 q2 =>
      by_cases e : a = k
      · exact .inr ⟨v, d, by simp [valV, e], by simp [valD, e], q1⟩
      · have e1 : valV ((a, v) :: r) k = valV r k := by simp [valV, e]
        have e2 : valD ((a, d) :: s) k = valD s k := by simp [valD, e]
        rw [e1, e2]
        exact val_rel h2 q2
theorem Rel.pushK {K : PySem.W.Frag} {H : Hp} {m : Mp} {S : Sto} (R : Rel K H m S) {p : Addr} {kws : List (Key × V)} {kvs : List (Key × D)} (h : H p = none) (hk : kws.map (·.1) = kvs.map (·.1)) (r : DvA K H m (kws.map (·.2)) (kvs.map (·.2))) :
    Rel K (upd H p (.dK kws)) (m ++ [p]) (S ++ [.dct kvs]) := by
  have k : Kp H (upd H p (.dK kws)) := .new h
  have g : Gr m (m ++ [p]) := ⟨[p], rfl⟩
  refine ⟨by rw [List.length_append, List.length_append, R.len]; rfl, ?_, fun i a o e s => ?_⟩
  · rw [List.nodup_append]
    exact ⟨R.nd, List.nodup_cons.mpr ⟨List.not_mem_nil, List.nodup_nil⟩, fun a ha b hb z => R.out h (by rw [List.mem_singleton.mp hb] at z; exact z ▸ ha)⟩
  · by_cases hi : i < m.length
    · rw [List.getElem?_append_left hi] at e
      rw [List.getElem?_append_left (R.len ▸ hi)] at s
      exact (R.ob i a o e s).mono k g (upd_ne (R.ne h e))
    · have hl : i < (m ++ [p]).length := (List.getElem?_eq_some_iff.mp e).1
      have hi' : i = m.length := by rw [List.length_append, List.length_singleton] at hl; omega
      subst hi'
      rw [List.getElem?_append_right (Nat.le_refl _), Nat.sub_self] at e
      rw [R.len, List.getElem?_append_right (Nat.le_refl _), Nat.sub_self] at s
      cases e
      cases s
      exact ⟨kws, upd_same, hk, DvA.mono k g _ _ r⟩
/-- {'a': 1, ..}: texts to ints, all written -/
def cKV (cs : List (Str × Int)) : List (Key × V) := cs.map fun p => (Sum.inr p.1, .int p.2)
def cKD (cs : List (Str × Int)) : List (Key × D) := cs.map fun p => (Sum.inr p.1, .int p.2)
def cTr (cs : List (Str × Int)) : List (TE × TE) := cs.map fun p => (tC (.str p.1), tC (.int p.2))
theorem tPairs_c {σ : L2.St} {H : Hp} : ∀ (cs : List (Str × Int)) {Q : List (V × V) → Hp → Prop}, Q ((cKV cs).map fun kv => (kV kv.1, kv.2)) H → tPairs (cTr cs) σ H Q
  | [], _, q => q
  | p :: r, _, q => by
    show tPairs (cTr r) σ H _
    exact tPairs_c r q
theorem cK_snd {K : PySem.W.Frag} {H : Hp} {m : Mp} : ∀ cs : List (Str × Int), DvA K H m ((cKV cs).map (·.2)) ((cKD cs).map (·.2))
  | [] => .nil
  | p :: r => .cons (.int _) (cK_snd r)
theorem cK_fst : ∀ cs : List (Str × Int), (cKV cs).map (·.1) = (cKD cs).map (·.1)
  | [] => rfl
  | p :: r => congrArg (Sum.inr p.1 :: ·) (cK_fst r)
section
variable {X : Cx} {pos : Pos} {keys : List (Option Expr)} {values : List Expr}
@[simp] def dDict (cs : List (Str × Int)) : DE := fun _ S Q => Q (.loc S.length) (S ++ [.dct (cKD cs)])
theorem d_dict (cs : List (Str × Int)) (h : PPs X pos keys values (cTr cs)) (hall : keys.all (·.isSome) = true) (hl : keys.length = values.length) (h0 : keys ≠ []) (h15 : keys.length ≤ 15) (hc : cs.length ≤ 15) (hm : mergeK [] (cKV cs) = cKV cs) :
    PD X (.Dict keys values pos) (tDisp (cTr cs)) (dDict cs) := ⟨pe_disp h hall hl h0 h15, fun σ H m S δ Q Q' R e q c p hp => by
  refine tPairs_c cs ⟨upd_same, cKV cs, rfl, by unfold cKV; rw [List.length_map]; exact hc, ?_⟩
  rw [upd_upd, hm]
  exact c _ _ _ _ (m ++ [p]) q (.new hp) ⟨[p], rfl⟩ (R.pushK hp (cK_fst cs) (cK_snd cs)) (.loc (by rw [← R.len, List.getElem?_append_right (Nat.le_refl _), Nat.sub_self]; rfl))⟩
@[simp] def dGet2 (t u w : DE) : DE := fun δ S Q => t δ S fun x S1 => ∃ i, x = .loc i ∧ (∃ kvs, S1[i]? = some (.dct kvs)) ∧ u δ S1 fun y S2 => w δ S2 fun z S3 => ∃ kvs s, S3[i]? = some (.dct kvs) ∧ y = .str s ∧ Q ((valD kvs (.inr s)).getD z) S3
theorem d_get2 {o e f : Expr} {td ty tx : TE} {t u w : DE} {apos : Pos} (hu : X.A.units + 1 < cLine) (ho : PD X o td t) (he : PD X e ty u) (hf : PD X f tx w) (mm : M2 X o "get" apos e f pos) :
    PD X (.Call (.Attribute o "get" apos) [e, f] [] pos) (tDGet2 td ty tx) (dGet2 t u w) := ⟨pe_dget2 hu ho.pe he.pe hf.pe mm, fun σ H m S δ Q Q' R ev q c => by
  refine ho.sim σ H m S δ _ _ R ev q ?_
  rintro x S1 v H1 m1 ⟨i, rfl, ⟨kvs, s1⟩, q1⟩ k1 g1 R1 r1
  cases r1 with
  | loc em =>
    obtain ⟨kws, hH, hk, r⟩ := R1.ob i _ _ em s1
    refine ⟨_, rfl, .inl ⟨kws, .inl hH⟩, he.sim σ H1 m1 S1 δ _ _ R1 (ev.mono k1 g1) q1 ?_⟩
    intro y S2 vy H2 m2 q2 k2 g2 R2 r2
    refine hf.sim σ H2 m2 S2 δ _ _ R2 (ev.mono (k1.trans k2) (g1.trans g2)) q2 ?_
    rintro z S3 vz H3 m3 ⟨kvs3, s, s3, rfl, q3⟩ k3 g3 R3 r3
    cases r2
    have em3 := (g2.trans g3).at em
    obtain ⟨kws3, hH3, hk3, r3'⟩ := R3.ob i _ _ em3 s3
    have cc := c.mono ((k1.trans k2).trans k3) ((g1.trans g2).trans g3)
    refine ⟨_, DGet.k (k := Sum.inr s) hH3, ?_⟩
    rcases val_rel (k := Sum.inr s) hk3 r3' with ⟨e1, e2⟩ | ⟨v, d, e1, e2, dd⟩
    · rw [e1]
      rw [e2] at q3
      exact cc.same R3 q3 r3
    · rw [e1]
      rw [e2] at q3
      exact cc.same R3 q3 dd⟩
end
end DL

set_option Elab.async false
set_option linter.all false
set_option maxRecDepth 100000
namespace DL
open PySem L2 PyProof.Rows
theorem bt_len : bootBuiltins "len" = some (.builtin "len") := by decide +kernel
theorem bt_abs : bootBuiltins "abs" = some (.builtin "abs") := by decide +kernel
theorem bt_sum : bootBuiltins "sum" = some (.builtin "sum") := by decide +kernel
theorem bt_all : bootBuiltins "all" = some (.builtin "all") := by decide +kernel
theorem bt_repr : bootBuiltins "repr" = some (.builtin "repr") := by decide +kernel
theorem bt_isinstance : bootBuiltins "isinstance" = some (.builtin "isinstance") := by decide +kernel
theorem bt_int : bootBuiltins "int" = some (.type "int") := by decide +kernel
theorem bt_str : bootBuiltins "str" = some (.type "str") := by decide +kernel
theorem bt_bool : bootBuiltins "bool" = some (.type "bool") := by decide +kernel
theorem bt_tuple : bootBuiltins "tuple" = some (.type "tuple") := by decide +kernel
theorem bt_list : bootBuiltins "list" = some (.type "list") := by decide +kernel
theorem bt_dict : bootBuiltins "dict" = some (.type "dict") := by decide +kernel
theorem u65 {k : Nat} {A : Around} (r : Room k A) : A.units + 65 < cLine := by have := r.un; omega
def vAbs : List V → Hp → VK → Prop := fun xs H Q => ∃ i, xs = [.int i] ∧ Q (.int (if i < 0 then -i else i)) H
def vInt : List V → Hp → VK → Prop := fun xs H Q => (∃ i, xs = [.int i] ∧ Q (.int i) H) ∨ ∃ k, xs = [.bl k] ∧ Q (.int (if k then 1 else 0)) H
def rdAbs : List D → Sto → DK → Prop := fun xs S Q => ∃ i, xs = [.int i] ∧ Q (.int (if i < 0 then -i else i)) S
def rdSum : List D → Sto → DK → Prop := fun xs S Q => ∃ i ns, xs = [.loc i] ∧ S[i]? = some (.lst (List.map D.int ns)) ∧ Q (.int ns.sum) S
def rdAll : List D → Sto → DK → Prop := fun xs S Q => ∃ i bs, xs = [.loc i] ∧ S[i]? = some (.lst (List.map D.bl bs)) ∧ Q (.bl (bs.all id)) S
def rdRepr : List D → Sto → DK → Prop := fun xs S Q => ∃ d p, xs = [d] ∧ PyOf S d p ∧ p.showable = true ∧ p.hasDict = false ∧ p.shown.length ≤ sizeLine ∧ p.depth ≤ 60 ∧ Q (.str p.shown) S
end DL

set_option Elab.async false
set_option linter.all false
set_option maxRecDepth 100000
namespace DL
open PySem L2 PyProof.Rows
theorem map_toNat_inj : ∀ {a b : List Char}, a.map Char.toNat = b.map Char.toNat → a = b
  | [], [], _ => rfl
  | [], _ :: _, h => by cases h
  | _ :: _, [], h => by cases h
  | x :: a, y :: b, h => by
    have h1 : x.toNat = y.toNat := (List.cons.inj h).1
    have h2 := map_toNat_inj (List.cons.inj h).2
    have h3 : x = y := Char.ext (UInt32.toNat_inj.mp h1)
    rw [h3, h2]
@[simp] theorem str_inj (a b : String) : (Str.ofString a = Str.ofString b) = (a = b) := by
  apply propext
  constructor
  · intro h
    rw [Str.ofString_eq_toList, Str.ofString_eq_toList] at h
    have h2 : (a.toList.map Char.toNat).toArray = (b.toList.map Char.toNat).toArray := congrArg Str.cps h
    have h3 : a.toList.map Char.toNat = b.toList.map Char.toNat := by simpa using congrArg Array.toList h2
    exact String.toList_inj.mp (map_toNat_inj h3)
  · intro h
    rw [h]
@[simp] theorem kb1 : kitB "int" "int" = some true := by decide +kernel
@[simp] theorem kb2 : kitB "int" "bool" = some false := by decide +kernel
@[simp] theorem kb3 : kitB "int" "str" = some false := by decide +kernel
@[simp] theorem kb4 : kitB "int" "tuple" = some false := by decide +kernel
@[simp] theorem kb5 : kitB "bool" "int" = some true := by decide +kernel
@[simp] theorem kb6 : kitB "bool" "bool" = some true := by decide +kernel
@[simp] theorem kb7 : kitB "bool" "str" = some false := by decide +kernel
@[simp] theorem kb8 : kitB "bool" "tuple" = some false := by decide +kernel
@[simp] theorem kb9 : kitB "str" "int" = some false := by decide +kernel
@[simp] theorem kb10 : kitB "str" "bool" = some false := by decide +kernel
@[simp] theorem kb11 : kitB "str" "str" = some true := by decide +kernel
@[simp] theorem kb12 : kitB "str" "tuple" = some false := by decide +kernel
@[simp] theorem kb13 : kitB "tuple" "int" = some false := by decide +kernel
@[simp] theorem kb14 : kitB "tuple" "bool" = some false := by decide +kernel
@[simp] theorem kb15 : kitB "tuple" "str" = some false := by decide +kernel
@[simp] theorem kb16 : kitB "tuple" "tuple" = some true := by decide +kernel
@[simp] theorem kb17 : kitB "NoneType" "int" = some false := by decide +kernel
@[simp] theorem kb18 : kitB "NoneType" "bool" = some false := by decide +kernel
@[simp] theorem kb19 : kitB "NoneType" "str" = some false := by decide +kernel
@[simp] theorem kb20 : kitB "NoneType" "tuple" = some false := by decide +kernel
@[simp] theorem kb21 : kitB "list" "int" = some false := by decide +kernel
@[simp] theorem kb22 : kitB "list" "bool" = some false := by decide +kernel
@[simp] theorem kb23 : kitB "list" "str" = some false := by decide +kernel
@[simp] theorem kb24 : kitB "list" "tuple" = some false := by decide +kernel
@[simp] theorem kb25 : kitB "dict" "int" = some false := by decide +kernel
@[simp] theorem kb26 : kitB "dict" "bool" = some false := by decide +kernel
@[simp] theorem kb27 : kitB "dict" "str" = some false := by decide +kernel
@[simp] theorem kb28 : kitB "dict" "tuple" = some false := by decide +kernel
theorem pyA_strs {S : Sto} : ∀ ys : List Str, PyOfA S (ys.map D.str) (ys.map PyData.str)
  | [] => .nil
  | y :: r => .cons (.str y) (pyA_strs r)
theorem lay_strs : ∀ ys : List Str, ys.all PyData.strOk = true → PyData.canLayAll0 (ys.map PyData.str) = true
  | [], _ => by simp [PyData.canLayAll0]
  | y :: r, h => by
    rw [List.all_cons, Bool.and_eq_true] at h
    simp [PyData.canLayAll0, PyData.canLay0, h.1, lay_strs r h.2]
theorem dep_strs : ∀ ys : List Str, PyData.depthAll (ys.map PyData.str) = 0
  | [] => by simp [PyData.depthAll]
  | y :: r => by simp [PyData.depthAll, PyData.depth, dep_strs r]
theorem any_strs (x : Str) : ∀ ys : List Str, ((ys.map PyData.str).any fun z => PyData.eqv z (.str x)) = ys.any fun y => y == x
  | [] => rfl
  | y :: r => by
    rw [List.map_cons, List.any_cons, List.any_cons, any_strs x r]
    simp [PyData.eqv]
theorem shaped_str {x : Str} (h : PyData.strOk x = true) : SeqAt.shaped (.str x) = true := by simp [SeqAt.shaped, PyData.canLay0, PyData.depth, h]
theorem in_strs {f : Bool → Bool} {x : Str} {ys : List Str} {S : Sto} {Q : DK} (hx : PyData.strOk x = true) (hy : ys.all PyData.strOk = true) (q : Q (.bl (f (ys.any fun y => y == x))) S) : rdIn f (.str x) (.tup (ys.map D.str)) S Q := by
  refine ⟨.str x, ys.map PyData.str, .str x, pyA_strs ys, shaped_str hx, ?_, ?_⟩
  · simp [SeqAt.shaped, PyData.canLay0, PyData.depth, lay_strs ys hy, dep_strs ys]
  · rw [any_strs]
    exact q
/-- (text, int) in (pairs) -/
def prP (p : Str × Int) : PyData := .tuple [.str p.1, .int p.2]
def prD (p : Str × Int) : D := .tup [.str p.1, .int p.2]
theorem py_pr {S : Sto} (p : Str × Int) : PyOf S (prD p) (prP p) := .tup (.cons (.str _) (.cons (.int _) .nil))
theorem pyA_prs {S : Sto} : ∀ ys : List (Str × Int), PyOfA S (ys.map prD) (ys.map prP)
  | [] => .nil
  | y :: r => .cons (py_pr y) (pyA_prs r)
theorem lay_prs : ∀ ys : List (Str × Int), (ys.all fun p => PyData.strOk p.1) = true → PyData.canLayAll0 (ys.map prP) = true
  | [], _ => by simp [PyData.canLayAll0]
  | y :: r, h => by
    rw [List.all_cons, Bool.and_eq_true] at h
    simp [PyData.canLayAll0, PyData.canLay0, prP, h.1, lay_prs r h.2]
theorem dep_prs : ∀ ys : List (Str × Int), PyData.depthAll (ys.map prP) ≤ 1
  | [] => by simp [PyData.depthAll]
  | y :: r => by
    have := dep_prs r
    simp [PyData.depthAll, PyData.depth, prP]
    omega
theorem any_prs (x : Str × Int) : ∀ ys : List (Str × Int), ((ys.map prP).any fun z => PyData.eqv z (prP x)) = ys.any fun y => y.1 == x.1 && y.2 == x.2
  | [] => rfl
  | y :: r => by
    rw [List.map_cons, List.any_cons, List.any_cons, any_prs x r]
    simp [PyData.eqv, PyData.eqvAll, prP]
theorem in_prs {f : Bool → Bool} {x : Str × Int} {ys : List (Str × Int)} {S : Sto} {Q : DK} (hx : PyData.strOk x.1 = true) (hy : (ys.all fun p => PyData.strOk p.1) = true) (q : Q (.bl (f (ys.any fun y => y.1 == x.1 && y.2 == x.2))) S) : rdIn f (prD x) (.tup (ys.map prD)) S Q := by
  refine ⟨prP x, ys.map prP, py_pr x, pyA_prs ys, ?_, ?_, ?_⟩
  · simp [SeqAt.shaped, PyData.canLay0, PyData.canLayAll0, PyData.depth, PyData.depthAll, prP, hx]
  · have := dep_prs ys
    simp [SeqAt.shaped, PyData.canLay0, PyData.depth, lay_prs ys hy]
    omega
  · rw [any_prs]
    exact q
theorem DefD.never {P : Program} {w : World} {K : PySem.W.Frag} {mg : Str → Option Value} {base : Heap} {x qual : Str} {st : Stmt} {f : Addr} {fd : FuncData} {ps : List Str} (F : Fun K x qual st f fd) (hm : mg x = some (.ref f)) (hb : Binds K fd ps []) (k : Nat) :
    DefD P w K mg base k x ps.length (fun _ _ _ => False) :=
  ⟨f, fd, ps, rfl, ⟨fun vs H Q E ⟨_, _, _, _, _, _, h, _⟩ => h.elim, fun A o s H ar us vs Q E _ _ _ _ _ ⟨_, _, _, _, _, _, h, _⟩ => h.elim⟩, hm, F.kp, hb⟩
@[simp] theorem atI_0 {α : Type} (x : α) (r : List α) : atI (x :: r) 0 = some x := atI_nat (j := 0) rfl
@[simp] theorem atI_1 {α : Type} (x y : α) (r : List α) : atI (x :: y :: r) 1 = some y := atI_nat (j := 1) rfl
@[simp] theorem atI_2 {α : Type} (x y z : α) (r : List α) : atI (x :: y :: z :: r) 2 = some z := atI_nat (j := 2) rfl
@[simp] theorem atI_3 {α : Type} (x y z w : α) (r : List α) : atI (x :: y :: z :: w :: r) 3 = some w := atI_nat (j := 3) rfl
@[simp] theorem atI_4 {α : Type} (x y z w v : α) (r : List α) : atI (x :: y :: z :: w :: v :: r) 4 = some v := atI_nat (j := 4) rfl
theorem cutD_from (ds : List D) (k : Nat) : cutD ds (some (k : Int)) none = ds.drop k := by
  unfold cutD
  rw [HT.sIx_nat, HT.sIx_none]
  by_cases h : k ≤ ds.length
  · rw [Nat.min_eq_left h]
    exact List.take_of_length_le (by rw [List.length_drop]; omega)
  · rw [Nat.min_eq_right (by omega), List.drop_length, List.drop_eq_nil_of_le (by omega)]
    exact List.take_nil
@[simp] theorem cutD_1 (ds : List D) : cutD ds (some 1) none = ds.drop 1 := cutD_from ds 1
@[simp] theorem cutD_2 (ds : List D) : cutD ds (some 2) none = ds.drop 2 := cutD_from ds 2
theorem cutD_to (ds : List D) (k : Nat) : cutD ds none (some (k : Int)) = ds.take k := by
  unfold cutD
  rw [HT.sIx_nat, HT.sIx_none, List.drop_zero, Nat.sub_zero]
  by_cases h : k ≤ ds.length
  · rw [Nat.min_eq_left h]
  · rw [Nat.min_eq_right (by omega), List.take_length, List.take_of_length_le (by omega)]
/-- the store has grown -/
def Ext (S S' : Sto) : Prop := ∃ z, S' = S ++ z
theorem Ext.refl (S : Sto) : Ext S S := ⟨[], (List.append_nil S).symm⟩
theorem Ext.trans {S S1 S2 : Sto} (a : Ext S S1) (b : Ext S1 S2) : Ext S S2 := by
  obtain ⟨x, rfl⟩ := a
  obtain ⟨y, rfl⟩ := b
  exact ⟨x ++ y, List.append_assoc ..⟩
theorem Ext.new (S : Sto) (o : Ob) : Ext S (S ++ [o]) := ⟨[o], rfl⟩
theorem Ext.at {S S' : Sto} {i : Nat} {o : Ob} (e : Ext S S') (h : S[i]? = some o) : S'[i]? = some o := by
  obtain ⟨z, rfl⟩ := e
  obtain ⟨hi, _⟩ := List.getElem?_eq_some_iff.mp h
  rw [List.getElem?_append_left hi]
  exact h
theorem Ext.len {S S' : Sto} (e : Ext S S') : S.length ≤ S'.length := by
  obtain ⟨z, rfl⟩ := e
  rw [List.length_append]
  omega
def Gq (Q : DK) (d : D) (S : Sto) : Prop := ∀ S', Ext S S' → Q d S'
theorem Gq.up {Q : DK} {d : D} {S S1 : Sto} (h : Gq Q d S) (e : Ext S S1) : Gq Q d S1 := fun S2 e2 => h S2 (e.trans e2)
theorem Gq.now {Q : DK} {d : D} {S : Sto} (h : Gq Q d S) : Q d S := h S (.refl S)
theorem at_end (S : Sto) (o : Ob) : (S ++ [o])[S.length]? = some o := by rw [List.getElem?_append_right (Nat.le_refl _), Nat.sub_self]; rfl
theorem set_end (S : Sto) (o o2 : Ob) : (S ++ [o]).set S.length o2 = S ++ [o2] := by
  rw [List.set_append_right (h := Nat.le_refl _), Nat.sub_self]
  rfl
theorem all_bs {S : Sto} {Q : DK} (bs : List Bool) (h : bs.all id = true) (q : Gq Q (.bl true) S) : rdAll [.loc S.length] (S ++ [.lst (bs.map D.bl)]) Q :=
  ⟨S.length, bs, rfl, at_end S _, by rw [h]; exact q _ (.new _ _)⟩
end DL

set_option Elab.async false
set_option linter.all false
set_option maxHeartbeats 400000
namespace DL
open PySem L2
/-- the def itself, not only by its name -/
theorem fnD {P : Program} {w : World} {K : PySem.W.Frag} {mg : Str → Option Value} {base : Heap} {k n : Nat} {x qual : Str} {st : Stmt} {f : Addr} {fd : FuncData} {ps N : List Str} {c : DSp}
    (F : Fun K x qual st f fd) (S : FnScope N ps (defScope st)) (hn : ps.length = n) (len : ∀ ds S Q, c ds S Q → ds.length = n)
    (hb0 : ∀ (cdv : Value) (A : Around) (outer : List Env) (s : Shared) (H : Hp) (E : XK),
      (cxD P w K mg base N qual st f cdv A outer s H E).A.guards = some [] → Room k (cxD P w K mg base N qual st f cdv A outer s H E).A →
      ∃ ts t, PSsD (cxD P w K mg base N qual st f cdv A outer s H E) (defBody st) ts t ∧ ∀ (ds : List D) (S : Sto) (Q : DK), c ds S Q → t { nx := fun _ S' => Q .non S', rt := Q } (startD N.length ds) S) :
    FnG P w K mg base CX0 (k + 1) f fd ps (toSp K c) := by
  refine funG F S (fun vs H Q E ⟨m, S', ds, Q', R, r, hc, ct⟩ => by rw [r.length, len _ _ _ hc, hn]) ?_
  intro cdv A outer s H E hg hr
  obtain ⟨ts, t, h, q⟩ := hb0 cdv A outer s H E hg hr
  refine ⟨ts, h.pe, ?_⟩
  rintro H vs Q E ⟨m, S', ds, Q', R, r, hc, ct⟩
  exact h.sim _ H m S' _ _ _ R (envR_start N r) (q ds S' Q' hc)
    ⟨fun δ' S2 σ' H' m' q' k g R' e' => ct _ S2 _ H' m' q' k g R' .non, ct, fun δ' S2 σ' H' m' q' _ _ _ _ => q'.elim, fun δ' S2 σ' H' m' q' _ _ _ _ => q'.elim⟩
/-- a def of the module -/
structure Dfn (K : PySem.W.Frag) (mg : Str → Option Value) (x : Str) (st : Stmt) (ps : List Str) : Prop where
  ex : ∃ f fd, Fun K x x st f fd ∧ mg x = some (.ref f) ∧ Binds K fd ps []
end DL
namespace DL
open PySem L2
theorem dfn_mk {K : PySem.W.Frag} {h : Heap} {mg : Str → Option Value} {x : Str} {st : Stmt} {ps : List Str} {f : Addr} {oc kV dc pm cd ct : Value} {od an : Option Addr} {sl : Array (Option Value)} (X : K.In h) (G : h.Ns mainGlobals mg)
    (hb : ∀ (kV doc pm : Value) (an : Option Addr) (cdv ct : Value) (us : List Value), us.length = ps.length → bindArgs (PySem.W.fnOf x x (defArgs st) (defBody st) (defScope st) Value.none kV doc pm an cdv ct) { pos := us } = pure (ps.zip us))
    (a : PySem.W.nsIn K mainGlobals x = some (some (.ref f))) (l : K.lookup f = some ⟨oc, od, .func (PySem.W.fnOf x x (defArgs st) (defBody st) (defScope st) .none kV dc pm an cd ct), sl⟩) (c : PySem.W.codeIn K cd x = true) (k : PySem.W.keepIn K (.ref f) = true) : Dfn K mg x st ps := by
  have F := fun_mk (st := st) l c k
  exact ⟨f, _, F, PySem.W.mg_of X G a, F.binds hb⟩
theorem int_mk {K : PySem.W.Frag} {h : Heap} {mg : Str → Option Value} {x : Str} {i : Int} {t : Tok} (X : K.In h) (G : h.Ns mainGlobals mg) (a : PySem.W.nsIn K mainGlobals x = some (some (.int i t))) : GlD K mg x (.int i) (.int i) := ⟨⟨_, PySem.W.mg_of X G a, ⟨_, rfl⟩⟩, fun _ _ => .int i⟩
theorem str_mk {K : PySem.W.Frag} {h : Heap} {mg : Str → Option Value} {x : Str} {i : Str} {t : Tok} (X : K.In h) (G : h.Ns mainGlobals mg) (a : PySem.W.nsIn K mainGlobals x = some (some (.str i t))) : GlD K mg x (.str i) (.str i) := ⟨⟨_, PySem.W.mg_of X G a, ⟨_, rfl⟩⟩, fun _ _ => .str i⟩
/-- a value of the module's top -/
inductive KvA (K : PySem.W.Frag) : List Value → List D → Prop
  | nil : KvA K [] []
  | int {i : Int} {t : Tok} {us ds} : KvA K us ds → KvA K (.int i t :: us) (.int i :: ds)
  | str {i : Str} {t : Tok} {us ds} : KvA K us ds → KvA K (.str i t :: us) (.str i :: ds)
  | tup {a : Addr} {od : Option Addr} {n : Nat} {sl : Array (Option Value)} {ws us : List Value} {es ds : List D} : K.lookup a = some ⟨.type "tuple", od, .seq ⟨ws⟩ n, sl⟩ → ws.length ≤ sizeLine → KvA K ws es → KvA K us ds → KvA K (.ref a :: us) (.tup es :: ds)
theorem KvA.ok {K : PySem.W.Frag} {us : List Value} {ds : List D} (h : KvA K us ds) : ∃ vs, Vals vs us ∧ ∀ H m, DvA K H m vs ds := by
  induction h with
  | nil => exact ⟨[], .nil, fun _ _ => .nil⟩
  | int h ih =>
    obtain ⟨vs, a, b⟩ := ih
    exact ⟨.int _ :: vs, .cons ⟨_, rfl⟩ a, fun H m => .cons (.int _) (b H m)⟩
  | str h ih =>
    obtain ⟨vs, a, b⟩ := ih
    exact ⟨.str _ :: vs, .cons ⟨_, rfl⟩ a, fun H m => .cons (.str _) (b H m)⟩
  | tup hl hz h1 h2 ih1 ih2 =>
    obtain ⟨vs, a, b⟩ := ih1
    obtain ⟨vs2, a2, b2⟩ := ih2
    exact ⟨.ref _ :: vs2, .cons rfl a2, fun H m => .cons (.tup (.inr ⟨_, _, _, hl, rfl, rfl, hz, a⟩) (b H m)) (b2 H m)⟩
theorem tup_mk {K : PySem.W.Frag} {h : Heap} {mg : Str → Option Value} {x : Str} {a : Addr} {od : Option Addr} {n : Nat} {sl : Array (Option Value)} {ws : List Value} {es : List D} (X : K.In h) (G : h.Ns mainGlobals mg)
    (e : PySem.W.nsIn K mainGlobals x = some (some (.ref a))) (hl : K.lookup a = some ⟨.type "tuple", od, .seq ⟨ws⟩ n, sl⟩) (hz : ws.length ≤ sizeLine) (hk : KvA K ws es) : ∃ a, GlD K mg x (.ref a) (.tup es) := by
  obtain ⟨vs, p, q⟩ := hk.ok
  exact ⟨a, ⟨_, PySem.W.mg_of X G e, rfl⟩, fun H m => .tup (.inr ⟨_, _, _, hl, rfl, rfl, hz, p⟩) (q H m)⟩
/-- the goal that the head leaves, with the law's contract: a script, and true behind it -/
def c_law : DSp := fun ds S Q => ∃ ns : List Int, ds = [.scr ns] ∧ ns.length ≤ 63 ∧ ∀ S', Q (.bl true) S'
theorem walkD {l : PySem.W.OpenLaw} {k : Nat} {q : Program} {loose : List Str} {XP : (Str → Option Value) → Heap → Prop} {YP : World → Heap → Prop}
    {d : DefRec} {K : Params → PySem.W.Frag} {x : Str} (hn : l.most = some 63) (hdf : d.params.defaults = []) (hr : Room k callerA) (hY : ∀ (w : World) (h : Heap), YP w h → (K w.params).In h)
    (F : ∀ (w : World) (mg : Str → Option Value) (fa : Addr) (h : Heap), (K w.params).In h → h.Ns mainGlobals mg → mg d.name = some (.ref fa) →
      ∃ fd : FuncData, (∀ (s : Shared) (u : Value), BindsTo s fd ⟨[u], []⟩ [(x, u)]) ∧
      ∀ base : Heap, (K w.params).In base → base.Ns mainGlobals mg → FnG l.prog w (K w.params) mg base CX0 k fa fd [x] (toSp (K w.params) c_law)) :
    PySem.W.WalkO q loose XP YP l.row.toRowW d [] (fun f vs => PySem.call f vs) :=
  walkG (n := 63) (k := k) (x := x) (CX := fun _ => CX0) (sp := fun w => toSp (K w.params) c_law) hn (by decide) hdf hr hY F
    (fun w H a ns hl hS => ⟨[], [], [.scr ns], fun d _ => d = .bl true, ⟨rfl, .nil, fun i _ _ e _ => by simp at e⟩, .cons (.scr hS) .nil, ⟨ns, rfl, hl, fun _ => rfl⟩, fun d S' v H' m' e _ _ _ r => by cases e; cases r; rfl⟩) (fun _ _ _ _ _ z => z)
theorem top_mk {P : Program} {w : World} {K : PySem.W.Frag} {h : Heap} {mg : Str → Option Value} {x y : Str} {st : Stmt} {k : Nat} {f fa : Addr} {oc kV dc pm cd ct : Value} {od an : Option Addr} {sl : Array (Option Value)} (X : K.In h) (G : h.Ns mainGlobals mg) (hfa : mg x = some (.ref fa))
    (hb : ∀ (kV doc pm : Value) (an : Option Addr) (cdv ct u : Value), bindArgs (PySem.W.fnOf x x (defArgs st) (defBody st) (defScope st) Value.none kV doc pm an cdv ct) { pos := [u] } = pure [(y, u)])
    (hF : ∀ (f : Addr) (fd : FuncData), Fun K x x st f fd → ∀ base : Heap, FnG P w K mg base CX0 k f fd [y] (toSp K c_law))
    (a : PySem.W.nsIn K mainGlobals x = some (some (.ref f))) (l : K.lookup f = some ⟨oc, od, .func (PySem.W.fnOf x x (defArgs st) (defBody st) (defScope st) .none kV dc pm an cd ct), sl⟩) (c : PySem.W.codeIn K cd x = true) (kp : PySem.W.keepIn K (.ref f) = true) :
    ∃ fd : FuncData, (∀ (s : Shared) (u : Value), BindsTo s fd ⟨[u], []⟩ [(y, u)]) ∧ ∀ base : Heap, K.In base → base.Ns mainGlobals mg → FnG P w K mg base CX0 k fa fd [y] (toSp K c_law) := by
  have e := hfa.symm.trans (PySem.W.mg_of X G a)
  cases e
  exact ⟨_, fun s u => .of_eq (hb _ _ _ _ _ _ u), fun base _ _ => hF f _ (fun_mk (st := st) l c kp) base⟩
end DL

set_option Elab.async false
set_option linter.all false
set_option maxRecDepth 100000
set_option maxHeartbeats 1000000
namespace DL
open PySem L2 PyProof.Rows
/-! ### readings as functions: what a piece gives, if it gives something -/
abbrev FE := DEnv → Sto → Option (D × Sto)
abbrev FT := DEnv → Sto → Option (Bool × Sto)
abbrev FA := DEnv → Sto → Option (List D × Sto)
abbrev FO := DEnv → Sto → Option (Option Int × Sto)
abbrev FG := D → DEnv → Sto → Option (DEnv × Sto)
abbrev FI := DEnv → Sto → Option ((List D × Option (Nat × List D)) × Sto)
inductive Fl where
  | nx (δ : DEnv) | rt (d : D) | bk (δ : DEnv) | ct (δ : DEnv)
abbrev FS := DEnv → Sto → Option (Fl × Sto)
abbrev Fn := List D → Sto → Option (D × Sto)
abbrev FOp := D → D → Sto → Option (D × Sto)
def DEnds.fin (Z : DEnds) : Fl → Sto → Prop
  | .nx δ, S => Z.nx δ S | .rt d, S => Z.rt d S | .bk δ, S => Z.bk δ S | .ct δ, S => Z.ct δ S
def stOk : Option (Nat × List D) → Sto → Prop
  | none, _ => True
  | some p, S => S[p.1]? = some (.lst p.2)
def toE (f : FE) : DE := fun δ S Q => ∃ p, f δ S = some p ∧ Q p.1 p.2
def toT (f : FT) : DT := fun δ S Q => ∃ p, f δ S = some p ∧ Q p.1 p.2
def toA (f : FA) : DA := fun δ S Q => ∃ p, f δ S = some p ∧ Q p.1 p.2
def toO (f : FO) : DO := fun δ S Q => ∃ p, f δ S = some p ∧ Q p.1 p.2
def toG (f : FG) : DG := fun x δ S Q => ∃ p, f x δ S = some p ∧ Q p.1 p.2
def toI (f : FI) : DI := fun δ S R => ∃ p, f δ S = some p ∧ R p.1.1 (stOk p.1.2) p.2
def toS (f : FS) : DS := fun Z δ S => ∃ p, f δ S = some p ∧ Z.fin p.1 p.2
def toR (f : FOp) : D → D → Sto → DK → Prop := fun x y S Q => ∃ p, f x y S = some p ∧ Q p.1 p.2
def toC (f : Fn) : DSp := fun ds S Q => ∃ p, f ds S = some p ∧ Q p.1 p.2
section
variable {K : PySem.W.Frag}
theorem SimE.imp {te : TE} {t t' : DE} (h : SimE K te t) (i : ∀ δ S Q, t' δ S Q → t δ S Q) : SimE K te t' := fun σ H m S δ Q Q' R e q c => h σ H m S δ Q Q' R e (i _ _ _ q) c
theorem SimT.imp {te : TT} {t t' : DT} (h : SimT K te t) (i : ∀ δ S Q, t' δ S Q → t δ S Q) : SimT K te t' := fun σ H m S δ Q Q' R e q c => h σ H m S δ Q Q' R e (i _ _ _ q) c
theorem SimA.imp {te : TA} {t t' : DA} (h : SimA K te t) (i : ∀ δ S Q, t' δ S Q → t δ S Q) : SimA K te t' := fun σ H m S δ Q Q' R e q c => h σ H m S δ Q Q' R e (i _ _ _ q) c
theorem SimO.imp {te : TO} {t t' : DO} (h : SimO K te t) (i : ∀ δ S Q, t' δ S Q → t δ S Q) : SimO K te t' := fun σ H m S δ Q Q' R e q c => h σ H m S δ Q Q' R e (i _ _ _ q) c
theorem SimI.imp {te : TI} {t t' : DI} (h : SimI K te t) (i : ∀ δ S Q, t' δ S Q → t δ S Q) : SimI K te t' := fun σ H m S δ Q Q' R e q c => h σ H m S δ Q Q' R e (i _ _ _ q) c
theorem SimS.imp {te : TS} {t t' : DS} (h : SimS K te t) (i : ∀ Z δ S, t' Z δ S → t Z δ S) : SimS K te t' := fun σ H m S δ Z Z' R e q c => h σ H m S δ Z Z' R e (i _ _ _ q) c
theorem SimG.imp {te : TG} {t t' : DG} (h : SimG K te t) (i : ∀ x δ S Q, t' x δ S Q → t x δ S Q) : SimG K te t' := fun σ H m S δ x v Q Q' R e r q c => h σ H m S δ x v Q Q' R e r (i _ _ _ _ q) c
end
section
variable {X : Cx}
theorem PD.imp {e : Expr} {te : TE} {t t' : DE} (h : PD X e te t) (i : ∀ δ S Q, t' δ S Q → t δ S Q) : PD X e te t' := ⟨h.pe, h.sim.imp i⟩
theorem PTD.imp {e : Expr} {te : TT} {t t' : DT} (h : PTD X e te t) (i : ∀ δ S Q, t' δ S Q → t δ S Q) : PTD X e te t' := ⟨h.pe, h.sim.imp i⟩
theorem PWD.imp {e : Expr} {te : TT} {t t' : DT} (h : PWD X e te t) (i : ∀ δ S Q, t' δ S Q → t δ S Q) : PWD X e te t' := ⟨h.pe, h.sim.imp i⟩
theorem PTsD.imp {e : List Expr} {te : TT} {t t' : DT} (h : PTsD X e te t) (i : ∀ δ S Q, t' δ S Q → t δ S Q) : PTsD X e te t' := ⟨h.pe, h.sim.imp i⟩
theorem PAD.imp {e : List Expr} {te : TA} {t t' : DA} (h : PAD X e te t) (i : ∀ δ S Q, t' δ S Q → t δ S Q) : PAD X e te t' := ⟨h.pe, h.sim.imp i⟩
theorem POD.imp {e : Option Expr} {te : TO} {t t' : DO} (h : POD X e te t) (i : ∀ δ S Q, t' δ S Q → t δ S Q) : POD X e te t' := ⟨h.pe, h.sim.imp i⟩
theorem PID.imp {tg e : Expr} {te : TI} {t t' : DI} (h : PID X tg e te t) (i : ∀ δ S Q, t' δ S Q → t δ S Q) : PID X tg e te t' := ⟨h.pe, h.sim.imp i⟩
theorem PSD.imp {e : Stmt} {te : TS} {t t' : DS} (h : PSD X e te t) (i : ∀ Z δ S, t' Z δ S → t Z δ S) : PSD X e te t' := ⟨h.pe, h.sim.imp i⟩
theorem PSsD.imp {e : List Stmt} {te : TS} {t t' : DS} (h : PSsD X e te t) (i : ∀ Z δ S, t' Z δ S → t Z δ S) : PSsD X e te t' := ⟨h.pe, h.sim.imp i⟩
theorem PGD.imp {e : Expr} {te : TG} {t t' : DG} (h : PGD X e te t) (i : ∀ x δ S Q, t' x δ S Q → t x δ S Q) : PGD X e te t' := ⟨h.pe, h.sim.imp i⟩
/-- an operator that gives what g gives -/
theorem OpD.imp' {f : Value → Value → Sem Value} {r : R2} {r' r2 : D → D → Sto → DK → Prop} (h : OpD X f r r') (i : ∀ x y S Q, r2 x y S Q → r' x y S Q) : OpD X f r r2 := ⟨h.op, fun H m S x y vx vy Q Q' R rx ry q c => h.sim H m S x y vx vy Q Q' R rx ry (i _ _ _ _ q) c⟩
theorem CallD.imp' {f : Value} {r : List V → Hp → VK → Prop} {r' r2 : List D → Sto → DK → Prop} (h : CallD X f r r') (i : ∀ xs S Q, r2 xs S Q → r' xs S Q) : CallD X f r r2 := ⟨h.op, fun H m S xs vs Q Q' R rx q c => h.sim H m S xs vs Q Q' R rx (i _ _ _ q) c⟩
end

/-! ### names, constants, displays -/
def fVar (i : Nat) (δ : DEnv) (S : Sto) : Option (D × Sto) := (δ[i]?).bind fun o => o.bind fun d => some (d, S)
def fC (d : D) (δ : DEnv) (S : Sto) : Option (D × Sto) := some (d, S)
def fNil (δ : DEnv) (S : Sto) : Option (List D × Sto) := some ([], S)
def fCons (f : FE) (g : FA) (δ : DEnv) (S : Sto) : Option (List D × Sto) := (f δ S).bind fun p => (g δ p.2).bind fun q => some (p.1 :: q.1, q.2)
def fTup (g : FA) (δ : DEnv) (S : Sto) : Option (D × Sto) := (g δ S).bind fun p => if p.1.length ≤ 100000 then some (.tup p.1, p.2) else none
def fLst (g : FA) (δ : DEnv) (S : Sto) : Option (D × Sto) := (g δ S).bind fun p => if p.1.length ≤ 100000 then some (.loc p.2.length, p.2 ++ [.lst p.1]) else none
section
variable {X : Cx} {pos : Pos} {e : Expr} {es : List Expr} {te : TE} {f : FE} {ta : TA} {g : FA}
theorem xv (i : Nat) {x : Str} {pos : Pos} (hN : X.N[i]? = some x := by rfl) (hv : Vis X.env.scope x := by first | exact Or.inl rfl | exact Or.inr (Or.inl rfl) | exact Or.inr (Or.inr rfl)) (hd : (x == ("__debug__" : Str)) = false := by decide)
    (hcd : (x == ("__classdict__" : Str)) = false := by decide) : PD X (.Name x pos) (tVar i) (toE (fVar i)) := (dv i hN hv hd hcd).imp (by
  rintro δ S Q ⟨p, h, q⟩
  simp only [fVar, Option.bind_eq_some_iff] at h
  obtain ⟨o, h1, d, h2, h3⟩ := h
  cases h3
  subst h2
  exact ⟨d, h1, q⟩)
theorem imp_C {d : D} : ∀ δ S Q, toE (fC d) δ S Q → dC d δ S Q := by
  rintro δ S Q ⟨p, h, q⟩
  cases h
  exact q
theorem x_int {i j} : PD X (.Constant (.int i) j pos) (tC (.int i)) (toE (fC (.int i))) := d_int.imp imp_C
theorem x_bl {b j} : PD X (.Constant (.bool b) j pos) (tC (.bl b)) (toE (fC (.bl b))) := d_bl.imp imp_C
theorem x_non {j} : PD X (.Constant .none j pos) (tC .non) (toE (fC .non)) := d_non.imp imp_C
theorem x_str {x j} : PD X (.Constant (.str x) j pos) (tC (.str x)) (toE (fC (.str x))) := d_str.imp imp_C
theorem x_glob {x : Str} {v : V} {d : D} (hg : Gl X x) (g : GlD X.K X.mg x v d) (hd : (x == ("__debug__" : Str)) = false := by decide) : PD X (.Name x pos) (tC v) (toE (fC d)) := (d_glob hg g hd).imp imp_C
theorem xa_nil : PAD X [] tNil (toA fNil) := da_nil.imp (by
  rintro δ S Q ⟨p, h, q⟩
  cases h
  exact q)
theorem xa_cons (h : PD X e te (toE f)) (hr : PAD X es ta (toA g)) (hs : starEach (e :: es) X.env = (false, eval e X.env) :: starEach es X.env := by rfl) : PAD X (e :: es) (tCons te ta) (toA (fCons f g)) := (da_cons h hr hs).imp (by
  rintro δ S Q ⟨p, h, q⟩
  simp only [fCons, Option.bind_eq_some_iff] at h
  obtain ⟨a, h1, b, h2, h3⟩ := h
  cases h3
  exact ⟨a, h1, b, h2, q⟩)
theorem x_tup {x1} (h : PAD X es ta (toA g)) : PD X (.Tuple es x1 pos) (tTup ta) (toE (fTup g)) := (d_tup h).imp (by
  rintro δ S Q ⟨p, h, q⟩
  simp only [fTup, Option.bind_eq_some_iff] at h
  obtain ⟨a, h1, h2⟩ := h
  split at h2
  · cases h2
    exact ⟨a, h1, by assumption, q⟩
  · cases h2)
theorem x_lst (h : PAD X es ta (toA g)) : PD X (.List es pos) (tLst ta) (toE (fLst g)) := (d_lst h).imp (by
  rintro δ S Q ⟨p, h, q⟩
  simp only [fLst, Option.bind_eq_some_iff] at h
  obtain ⟨a, h1, h2⟩ := h
  split at h2
  · cases h2
    exact ⟨a, h1, by assumption, q⟩
  · cases h2)
end

/-! ### operators -/
def fOp (o : FOp) (f g : FE) (δ : DEnv) (S : Sto) : Option (D × Sto) := (f δ S).bind fun p => (g δ p.2).bind fun q => o p.1 q.1 q.2
def asB : Option (D × Sto) → Option (Bool × Sto)
  | some (.bl b, S) => some (b, S)
  | _ => none
@[simp] theorem asB_bl (b : Bool) (S : Sto) : asB (some (.bl b, S)) = some (b, S) := rfl
@[simp] theorem asB_none : asB none = none := rfl
theorem asB_some {o : Option (D × Sto)} {p : Bool × Sto} (h : asB o = some p) : o = some (.bl p.1, p.2) := by
  unfold asB at h
  split at h
  · cases h; rfl
  · cases h
def fTest (f : FE) (δ : DEnv) (S : Sto) : Option (Bool × Sto) := asB (f δ S)
def fChain (o o2 : FOp) (f g h : FE) (δ : DEnv) (S : Sto) : Option (D × Sto) := (f δ S).bind fun p => (g δ p.2).bind fun q => (asB (o p.1 q.1 q.2)).bind fun k => if k.1 = true then (h δ k.2).bind fun z => o2 q.1 z.1 z.2 else some (.bl false, k.2)
section
variable {X : Cx} {pos : Pos} {a b c : Expr} {ta tb tc : TE} {f g h : FE} {r r2 : R2} {o o2 : FOp}
theorem x_op {op : Operator} (ho : OpD X (binaryOp op) r (toR o)) (h1 : PD X a ta (toE f)) (h2 : PD X b tb (toE g)) : PD X (.BinOp a op b pos) (tOp r ta tb) (toE (fOp o f g)) := (d_op ho h1 h2).imp (by
  rintro δ S Q ⟨p, h, q⟩
  simp only [fOp, Option.bind_eq_some_iff] at h
  obtain ⟨a, h1, b, h2, h3⟩ := h
  exact ⟨a, h1, b, h2, p, h3, q⟩)
theorem x_cmp {op : CmpOp} (ho : OpD X (compareOp op) r (toR o)) (h1 : PD X a ta (toE f)) (h2 : PD X b tb (toE g)) (hm : behindInMarks op b = false) : PD X (.Compare a [op] [b] pos) (tOp r ta tb) (toE (fOp o f g)) := (d_cmp ho h1 h2 hm).imp (by
  rintro δ S Q ⟨p, h, q⟩
  simp only [fOp, Option.bind_eq_some_iff] at h
  obtain ⟨a, h1, b, h2, h3⟩ := h
  exact ⟨a, h1, b, h2, p, h3, q⟩)
theorem xt_cmp {op : CmpOp} (ho : OpD X (compareOp op) r (toR o)) (h1 : PD X a ta (toE f)) (h2 : PD X b tb (toE g)) (hm : behindInMarks op b = false) : PTD X (.Compare a [op] [b] pos) (tTest (tOp r ta tb)) (toT (fTest (fOp o f g))) := (dt_cmp ho h1 h2 hm).imp (by
  rintro δ S Q ⟨p, h, q⟩
  have h := asB_some h
  simp only [fOp, Option.bind_eq_some_iff] at h
  obtain ⟨a, h1, b, h2, h3⟩ := h
  exact ⟨a, h1, b, h2, _, h3, p.1, rfl, q⟩)
theorem imp_chain : ∀ δ S Q, toE (fChain o o2 f g h) δ S Q → dChain (toR o) (toR o2) (toE f) (toE g) (toE h) δ S Q := by
  rintro δ S Q ⟨p, h, q⟩
  simp only [fChain, Option.bind_eq_some_iff] at h
  obtain ⟨a, h1, b, h2, k, h3, h4⟩ := h
  refine ⟨a, h1, b, h2, _, asB_some h3, k.1, rfl, ?_⟩
  by_cases hk : k.1 = true
  · rw [if_pos hk] at h4 ⊢
    simp only [Option.bind_eq_some_iff] at h4
    obtain ⟨c, h5, h6⟩ := h4
    exact ⟨c, h5, p, h6, q⟩
  · rw [if_neg hk] at h4 ⊢
    cases h4
    exact q
theorem x_chain {op op' : CmpOp} (ho : OpD X (compareOp op) r (toR o)) (ho' : OpD X (compareOp op') r2 (toR o2)) (h1 : PD X a ta (toE f)) (h2 : PD X b tb (toE g)) (h3 : PD X c tc (toE h)) (hm : lastMarks [op, op'] [b, c] = false := by with_unfolding_all rfl) :
    PD X (.Compare a [op, op'] [b, c] pos) (tChain r r2 ta tb tc) (toE (fChain o o2 f g h)) := (d_chain ho ho' h1 h2 h3 hm).imp imp_chain
theorem xt_chain {op op' : CmpOp} (ho : OpD X (compareOp op) r (toR o)) (ho' : OpD X (compareOp op') r2 (toR o2)) (h1 : PD X a ta (toE f)) (h2 : PD X b tb (toE g)) (h3 : PD X c tc (toE h)) (hm : lastMarks [op, op'] [b, c] = false := by with_unfolding_all rfl) :
    PTD X (.Compare a [op, op'] [b, c] pos) (tTest (tChain r r2 ta tb tc)) (toT (fTest (fChain o o2 f g h))) := (dt_chain ho ho' h1 h2 h3 hm).imp (by
  rintro δ S Q ⟨p, h, q⟩
  exact imp_chain δ S _ ⟨_, asB_some h, p.1, rfl, q⟩)
theorem xt_val {e : Expr} (h : PD X e ta (toE f)) (he : ∀ whole, isTrue e X.env whole = (do let v ← whole; standAt e.pos; holding [v] (truthy v)) := by intro _; rfl) : PTD X e (tB ta) (toT (fTest f)) := (dt_val h he).imp (by
  rintro δ S Q ⟨p, h, q⟩
  exact ⟨_, asB_some h, p.1, rfl, q⟩)
end
/-! ### and, or, not -/
def fAnd (f g : FT) (δ : DEnv) (S : Sto) : Option (Bool × Sto) := (f δ S).bind fun p => if p.1 = true then g δ p.2 else some (false, p.2)
def fOr (f g : FT) (δ : DEnv) (S : Sto) : Option (Bool × Sto) := (f δ S).bind fun p => if p.1 = true then some (true, p.2) else g δ p.2
def fNot (f : FT) (δ : DEnv) (S : Sto) : Option (Bool × Sto) := (f δ S).bind fun p => some (!p.1, p.2)
def fAndV (f g : FE) (δ : DEnv) (S : Sto) : Option (D × Sto) := (asB (f δ S)).bind fun p => if p.1 = true then g δ p.2 else some (.bl false, p.2)
def fOrV (f g : FE) (δ : DEnv) (S : Sto) : Option (D × Sto) := (asB (f δ S)).bind fun p => if p.1 = true then some (.bl true, p.2) else g δ p.2
def fNotV (f : FE) (δ : DEnv) (S : Sto) : Option (D × Sto) := (asB (f δ S)).bind fun p => some (.bl (!p.1), p.2)
def fIfE (c : FT) (f g : FE) (δ : DEnv) (S : Sto) : Option (D × Sto) := (c δ S).bind fun p => if p.1 = true then f δ p.2 else g δ p.2
def asI : Option (D × Sto) → Option (Int × Sto)
  | some (.int b, S) => some (b, S)
  | _ => none
@[simp] theorem asI_int (b : Int) (S : Sto) : asI (some (.int b, S)) = some (b, S) := rfl
@[simp] theorem asI_none : asI none = none := rfl
theorem asI_some {o : Option (D × Sto)} {p : Int × Sto} (h : asI o = some p) : o = some (.int p.1, p.2) := by
  unfold asI at h
  split at h
  · cases h; rfl
  · cases h
def fNeg (f : FE) (δ : DEnv) (S : Sto) : Option (D × Sto) := (asI (f δ S)).bind fun p => some (.int (-p.1), p.2)
section
variable {X : Cx} {pos : Pos} {a b c : Expr} {rest : List Expr} {ta tb : TE} {f g : FE} {tA tB' : TT} {u v : FT}
theorem xw_and1 (h : PTD X a tA (toT u)) : PWD X (.BoolOp .And [a] pos) tA (toT u) := dw_and1 h
theorem xw_or1 (h : PTD X a tA (toT u)) : PWD X (.BoolOp .Or [a] pos) tA (toT u) := dw_or1 h
theorem xw_and (h : PTD X a tA (toT u)) (h2 : PWD X (.BoolOp .And (b :: rest) pos) tB' (toT v)) : PWD X (.BoolOp .And (a :: b :: rest) pos) (tAnd tA tB') (toT (fAnd u v)) := (dw_and h h2).imp (by
  rintro δ S Q ⟨p, h, q⟩
  simp only [fAnd, Option.bind_eq_some_iff] at h
  obtain ⟨k, h1, h2⟩ := h
  refine ⟨k, h1, ?_⟩
  by_cases hk : k.1 = true
  · rw [if_pos hk] at h2 ⊢
    exact ⟨p, h2, q⟩
  · rw [if_neg hk] at h2 ⊢
    cases h2
    exact q)
theorem xw_or (h : PTD X a tA (toT u)) (h2 : PWD X (.BoolOp .Or (b :: rest) pos) tB' (toT v)) : PWD X (.BoolOp .Or (a :: b :: rest) pos) (tOr tA tB') (toT (fOr u v)) := (dw_or h h2).imp (by
  rintro δ S Q ⟨p, h, q⟩
  simp only [fOr, Option.bind_eq_some_iff] at h
  obtain ⟨k, h1, h2⟩ := h
  refine ⟨k, h1, ?_⟩
  by_cases hk : k.1 = true
  · rw [if_pos hk] at h2 ⊢
    cases h2
    exact q
  · rw [if_neg hk] at h2 ⊢
    exact ⟨p, h2, q⟩)
theorem xt_w (h : PWD X a tA (toT u)) : PTD X a tA (toT u) := dt_w h
theorem xt_not (h : PTD X a tA (toT u)) : PTD X (.UnaryOp .Not a pos) (tNot tA) (toT (fNot u)) := (dt_not h).imp (by
  rintro δ S Q ⟨p, h, q⟩
  simp only [fNot, Option.bind_eq_some_iff] at h
  obtain ⟨k, h1, h2⟩ := h
  cases h2
  exact ⟨k, h1, q⟩)
theorem x_one {op} (h : PD X a ta (toE f)) : PD X (.BoolOp op [a] pos) ta (toE f) := d_one h
theorem x_and (h : PD X a ta (toE f)) (h2 : PD X (.BoolOp .And (b :: rest) pos) tb (toE g)) : PD X (.BoolOp .And (a :: b :: rest) pos) (tAndV ta tb) (toE (fAndV f g)) := (d_and h h2).imp (by
  rintro δ S Q ⟨p, h, q⟩
  simp only [fAndV, Option.bind_eq_some_iff] at h
  obtain ⟨k, h1, h2⟩ := h
  refine ⟨_, asB_some h1, k.1, rfl, ?_⟩
  by_cases hk : k.1 = true
  · rw [if_pos hk] at h2 ⊢
    exact ⟨p, h2, q⟩
  · rw [if_neg hk] at h2 ⊢
    cases h2
    exact q)
theorem x_or (h : PD X a ta (toE f)) (h2 : PD X (.BoolOp .Or (b :: rest) pos) tb (toE g)) : PD X (.BoolOp .Or (a :: b :: rest) pos) (tOrV ta tb) (toE (fOrV f g)) := (d_or h h2).imp (by
  rintro δ S Q ⟨p, h, q⟩
  simp only [fOrV, Option.bind_eq_some_iff] at h
  obtain ⟨k, h1, h2⟩ := h
  refine ⟨_, asB_some h1, k.1, rfl, ?_⟩
  by_cases hk : k.1 = true
  · rw [if_pos hk] at h2 ⊢
    cases h2
    exact q
  · rw [if_neg hk] at h2 ⊢
    exact ⟨p, h2, q⟩)
theorem x_not (h : PD X a ta (toE f)) : PD X (.UnaryOp .Not a pos) (tNotV ta) (toE (fNotV f)) := (d_not h).imp (by
  rintro δ S Q ⟨p, h, q⟩
  simp only [fNotV, Option.bind_eq_some_iff] at h
  obtain ⟨k, h1, h2⟩ := h
  cases h2
  exact ⟨_, asB_some h1, k.1, rfl, q⟩)
theorem x_ifExp (h : PTD X c tA (toT u)) (h1 : PD X a ta (toE f)) (h2 : PD X b tb (toE g)) : PD X (.IfExp c a b pos) (tIf tA ta tb) (toE (fIfE u f g)) := (d_ifExp h h1 h2).imp (by
  rintro δ S Q ⟨p, h, q⟩
  simp only [fIfE, Option.bind_eq_some_iff] at h
  obtain ⟨k, h1, h2⟩ := h
  refine ⟨k, h1, ?_⟩
  by_cases hk : k.1 = true
  · rw [if_pos hk] at h2 ⊢
    exact ⟨p, h2, q⟩
  · rw [if_neg hk] at h2 ⊢
    exact ⟨p, h2, q⟩)
theorem x_neg (h : PD X a ta (toE f)) : PD X (.UnaryOp .USub a pos) (tUn (rU fun i => .int (-i)) ta) (toE (fNeg f)) := (d_neg h).imp (by
  rintro δ S Q ⟨p, h, q⟩
  simp only [fNeg, Option.bind_eq_some_iff] at h
  obtain ⟨k, h1, h2⟩ := h
  cases h2
  exact ⟨_, asI_some h1, k.1, rfl, q⟩)
end
end DL

set_option Elab.async false
set_option linter.all false
set_option maxRecDepth 100000
set_option maxHeartbeats 1000000
namespace DL
open PySem L2 PyProof.Rows
/-! ### further rules of comparison -/
section
variable {X : Cx}
theorem range_all_true (n : Nat) : (List.range n).all (fun _ => true) = true := List.all_eq_true.mpr fun _ _ => rfl
def rEmp (K : PySem.W.Frag) (f : Bool → Bool) : R2 := fun x y H Q => ∃ a b xs, x = .ref a ∧ y = .ref b ∧ ((SqT K H a xs ∧ SqT K H b []) ∨ (SqL K H a xs ∧ SqL K H b [])) ∧ Q (.bl (f xs.isEmpty)) H
theorem emp_size {xs : List V} {its : List Value} (r : Vals xs its) : (its.toArray.size == 0) = xs.isEmpty := by
  cases r <;> simp
theorem op_eqEmp (hu : X.A.units + 64 < cLine) : OpR X (compareOp .Eq) (rEmp X.K id) := by
  intro pins s σ H x y v u Q I rx ry h
  obtain ⟨a, b, xs, rfl, rfl, h, q⟩ := h
  cases rx
  cases ry
  have fin : EP X pins σ Q (.bool xs.isEmpty) s := ⟨.bl _, H, I, rfl, q⟩
  rcases h with ⟨h1, h2⟩ | ⟨h1, h2⟩
  · obtain ⟨its, r, p, _⟩ := I.tuple h1
    obtain ⟨its2, r2, p2, _⟩ := I.tuple h2
    cases r2
    refine SeqAt.eq_tupleAt (e := fun _ => true) p p2 (by omega) (fun j _ hj => absurd hj (Nat.not_lt_zero j)) ?_
    have e : ((List.range (min its.toArray.size ([] : List Value).toArray.size)).all (fun _ => true) && its.toArray.size == ([] : List Value).toArray.size) = xs.isEmpty := by
      rw [range_all_true, Bool.true_and]
      exact emp_size r
    rw [e]
    exact fin
  · obtain ⟨its, r, p, _⟩ := I.list h1
    obtain ⟨its2, r2, p2, _⟩ := I.list h2
    cases r2
    cases r with
    | nil =>
      refine SeqAt.eq_listAt (e := fun _ => true) p.isList p2.isList rfl (by omega) (fun j _ hj => absurd hj (Nat.not_lt_zero j)) ?_
      exact fin
    | cons a b =>
      exact SeqAt.eq_list_lengthsAt p.isList p2.isList (by simp) (by omega) fin
theorem op_neEmp (hu : X.A.units + 64 < cLine) : OpR X (compareOp .NotEq) (rEmp X.K not) := by
  intro pins s σ H x y v u Q I rx ry h
  obtain ⟨a, b, xs, rfl, rfl, h, q⟩ := h
  cases rx
  cases ry
  have fin : EP X pins σ Q (.bool (!xs.isEmpty)) s := ⟨.bl _, H, I, rfl, q⟩
  rcases h with ⟨h1, h2⟩ | ⟨h1, h2⟩
  · obtain ⟨its, r, p, _⟩ := I.tuple h1
    obtain ⟨its2, r2, p2, _⟩ := I.tuple h2
    cases r2
    refine SeqAt.RcNeAt.tuples (e := fun _ => true) p p2 (by omega) (fun j _ hj => absurd hj (Nat.not_lt_zero j)) _ _ _ _ ?_
    have e : (!((List.range (min its.toArray.size ([] : List Value).toArray.size)).all (fun _ => true) && its.toArray.size == ([] : List Value).toArray.size)) = (!xs.isEmpty) := by
      rw [range_all_true, Bool.true_and]
      exact congrArg not (emp_size r)
    rw [e]
    exact fin
  · obtain ⟨its, r, p, _⟩ := I.list h1
    obtain ⟨its2, r2, p2, _⟩ := I.list h2
    cases r2
    cases r with
    | nil =>
      refine SeqAt.RcNeAt.lists (e := fun _ => true) p.isList p2.isList rfl (by omega) (fun j _ hj => absurd hj (Nat.not_lt_zero j)) _ _ _ _ ?_
      exact fin
    | cons a b =>
      exact SeqAt.RcNeAt.lists_lengths p.isList p2.isList (by simp) (by omega) _ _ _ _ fin
/-- a text among texts -/
def rInStrs (K : PySem.W.Frag) (f : Bool → Bool) : R2 := fun x y H Q => ∃ (z : Str) (b : Addr) (ys : List Str), x = .str z ∧ y = .ref b ∧ (SqT K H b (ys.map V.str) ∨ SqL K H b (ys.map V.str)) ∧ Q (.bl (f (ys.any (· == z)))) H
def eStr (z : Str) : Value → Bool
  | .str s _ => s == z
  | _ => false
theorem vals_strs {z : Str} : ∀ {ys : List Str} {its : List Value}, Vals (ys.map V.str) its → its.any (eStr z) = ys.any (· == z) ∧ ∀ y ∈ its, ∃ s t, y = Value.str s t
  | [], _, h => by cases h; exact ⟨rfl, fun y h => nomatch h⟩
  | y :: r, _, h => by
    cases h with
    | cons h1 h2 =>
      obtain ⟨t, rfl⟩ := h1
      obtain ⟨e1, e2⟩ := vals_strs (z := z) h2
      refine ⟨by rw [List.any_cons, List.any_cons, e1]; rfl, fun y hy => ?_⟩
      rcases List.mem_cons.mp hy with h | h
      · exact ⟨_, _, h⟩
      · exact e2 y h
theorem op_inStrs : OpR X (compareOp .In) (rInStrs X.K id) := by
  intro pins s σ H x y v u Q I rx ry h
  obtain ⟨z, b, ys, rfl, rfl, h, q⟩ := h
  obtain ⟨t, rfl⟩ := rx
  cases ry
  rcases h with h | h
  · obtain ⟨its, r, p, _⟩ := I.tuple h
    obtain ⟨e1, e2⟩ := vals_strs (z := z) r
    refine SeqAt.in_tupleAt (eStr z) p (fun y hy => ?_) ?_
    · obtain ⟨s', t', rfl⟩ := e2 y (by simpa using hy)
      exact SeqAt.EqAt.str_str s' t' z t
    · rw [← Array.any_toList, e1]
      exact ⟨.bl _, H, I, rfl, q⟩
  · obtain ⟨its, r, p, _⟩ := I.list h
    obtain ⟨e1, e2⟩ := vals_strs (z := z) r
    refine SeqAt.in_listAt (eStr z) p.isList (fun y hy => ?_) ?_
    · obtain ⟨s', t', rfl⟩ := e2 y (by simpa using hy)
      exact SeqAt.EqAt.str_str s' t' z t
    · rw [← Array.any_toList, e1]
      exact ⟨.bl _, H, I, rfl, q⟩
theorem op_notInStrs : OpR X (compareOp .NotIn) (rInStrs X.K not) := by
  intro pins s σ H x y v u Q I rx ry h
  obtain ⟨z, b, ys, rfl, rfl, h, q⟩ := h
  obtain ⟨t, rfl⟩ := rx
  cases ry
  rcases h with h | h
  · obtain ⟨its, r, p, _⟩ := I.tuple h
    obtain ⟨e1, e2⟩ := vals_strs (z := z) r
    refine SeqAt.notIn_tupleAt (eStr z) p (fun y hy => ?_) ?_
    · obtain ⟨s', t', rfl⟩ := e2 y (by simpa using hy)
      exact SeqAt.EqAt.str_str s' t' z t
    · rw [← Array.any_toList, e1]
      exact ⟨.bl _, H, I, rfl, q⟩
  · obtain ⟨its, r, p, _⟩ := I.list h
    obtain ⟨e1, e2⟩ := vals_strs (z := z) r
    refine SeqAt.notIn_listAt (eStr z) p.isList (fun y hy => ?_) ?_
    · obtain ⟨s', t', rfl⟩ := e2 y (by simpa using hy)
      exact SeqAt.EqAt.str_str s' t' z t
    · rw [← Array.any_toList, e1]
      exact ⟨.bl _, H, I, rfl, q⟩
end
/-! ### a pair (anything, int) among pairs (text, int) -/
theorem str_eq_declines_dict (b : Str) (u : Tok) (l : Addr) (dd : Option Addr) (es : Array DictEntry) (n : Nat) (sl : Array (Option Value)) :
    Meets (Builtin.«str.__eq__» ⟨[.str b u, .ref l], []⟩) (fun _ R s => s.heap.get? l = some { cls := .type "dict", dict := dd, data := .dict es n, slots := sl } ∧ R (.ok (.ret .notImplemented)) s) :=
  .of_wp fun prog w A R s h => by
    obtain ⟨hp, g, d, tk, os⟩ := s
    obtain ⟨hl, h⟩ := h
    wp_walk using wpAny_load hl
    exact ⟨_, rfl, h⟩
theorem dict_eq_declines_str (b : Str) (u : Tok) (l : Addr) (dd : Option Addr) (es : Array DictEntry) (n : Nat) (sl : Array (Option Value)) :
    Meets (Builtin.«dict.__eq__» ⟨[.ref l, .str b u], []⟩) (fun _ R s => s.heap.get? l = some { cls := .type "dict", dict := dd, data := .dict es n, slots := sl } ∧ R (.ok (.ret .notImplemented)) s) :=
  .of_wp fun prog w A R s h => by
    obtain ⟨hp, g, d, tk, os⟩ := s
    obtain ⟨hl, h⟩ := h
    wp_walk using wpAny_load hl
    refine wpAny_of_eq F.sub_str_dict ?_
    wp_walk
    exact ⟨_, rfl, h⟩
theorem eq_str_dict {A : Around} {s : Shared} {l : Addr} {dd : Option Addr} {es : Array DictEntry} {n : Nat} {sl : Array (Option Value)} (b : Str) (u : Tok) (ho : s.heap.get? l = some { cls := .type "dict", dict := dd, data := .dict es n, slots := sl }) (hu : A.units < cLine) : SeqAt.EqAt A s (.str b u) (.ref l) false := fun prog w E Q h => by
  unfold eqBool
  refine wpAny_holding ?_
  refine wpAny_ite_split (fun hab => absurd (eq_of_beq hab) nofun) (fun _ => ?_)
  refine wpAny_bind (SeqAt.rc_eq_decline_or (k := false) (typeIs_str s b u) ⟨_, ho, rfl⟩ (by decide) F.sub_dict_str F.slot_str_eq F.slot_dict_eq_refl
    (fun _ hq => call_meets F.slot_str_eq (typeIs_str s b u) F.entry_str_eq (F.args_str_eq_2 _ _) (str_eq_declines_dict b u l dd es n sl) ⟨ho, hq⟩)
    (fun _ hq => call_meets F.slot_dict_eq_refl ⟨_, ho, rfl⟩ F.entry_dict_eq (F.args_dict_eq_2 _ _) (dict_eq_declines_str b u l dd es n sl) ⟨ho, hq⟩)
    (fun _ hq => wpAny_of_eq (rfl : isSame (.str b u) (.ref l) = pure false) hq) (.inr hu) (wpAny_truthy_bool h))
/-- what may stand in a pair's first place -/
def HdOk (K : PySem.W.Frag) (H : Hp) : V → Prop
  | .non => True | .bl _ => True | .int _ => True | .str _ => True
  | .ref a => (∃ xs, SqT K H a xs) ∨ (∃ xs, SqL K H a xs) ∨ ∃ kvs, H a = some (.dK kvs)
  | _ => False
def hEq (s : Str) : V → Bool
  | .str z => s == z
  | _ => false
theorem hd_eq {X : Cx} {pins : List (Addr × Obj)} {σ : L2.St} {H : Hp} {s : Shared} {A : Around} (I : Inv X pins σ H s) (hu : A.units < cLine) {h : V} {v : Value} (ok : HdOk X.K H h) (r : RelV h v) (b : Str) (t : Tok) : SeqAt.EqAt A s (.str b t) v (hEq b h) := by
  cases h with
  | non => cases r; exact SeqAt.EqAt.str_none b t
  | bl k => cases r; exact SeqAt.EqAt.str_bool b t k
  | int i => obtain ⟨u, rfl⟩ := r; exact SeqAt.EqAt.str_int b t i u
  | str z => obtain ⟨u, rfl⟩ := r; exact SeqAt.EqAt.str_str b t z u
  | ref a =>
    cases r
    rcases ok with ⟨xs, h⟩ | ⟨xs, h⟩ | ⟨kvs, h⟩
    · obtain ⟨its, _, p, _⟩ := I.tuple h
      exact SeqAt.EqAt.str_tuple b t p hu
    · obtain ⟨its, _, p, _⟩ := I.list h
      exact SeqAt.EqAt.str_list b t p.isList hu
    · obtain ⟨_, ya, va, ra, ⟨⟨cls, dd, data, sl⟩, es, ep, ho, hx, hd, _⟩⟩ := (show ObjOk X.prog X.w H s.heap a (.dK kvs) from I.hok a _ h)
      have hc : cls = .type "dict" := hx.1
      simp only at hd
      subst hc hd
      exact eq_str_dict b t ho hu
  | _ => exact ok.elim
theorem tup_same {X : Cx} {pins : List (Addr × Obj)} {σ : L2.St} {H : Hp} {s : Shared} (I : Inv X pins σ H s) {c : Addr} {xs ys : List V} (h1 : SqT X.K H c xs) (h2 : SqT X.K H c ys) : ∃ its, Vals xs its ∧ Vals ys its := by
  obtain ⟨its, r, ⟨o, e, _, n, d⟩, _⟩ := I.tuple h1
  obtain ⟨its2, r2, ⟨o2, e2, _, n2, d2⟩, _⟩ := I.tuple h2
  rw [e] at e2
  cases e2
  rw [d] at d2
  have h : its.toArray = its2.toArray := by injection d2
  have h' : its = its2 := by simpa using congrArg Array.toList h
  subst h'
  exact ⟨its, r, r2⟩
theorem two_same {X : Cx} {pins : List (Addr × Obj)} {σ : L2.St} {H : Hp} {s : Shared} (I : Inv X pins σ H s) {c : Addr} {h : V} {n m : Int} {z : Str} (h1 : SqT X.K H c [h, .int n]) (h2 : SqT X.K H c [.str z, .int m]) : h = .str z ∧ n = m := by
  obtain ⟨its, r1, r2⟩ := tup_same I h1 h2
  cases r2 with
  | cons a2 b2 =>
    cases b2 with
    | cons c2 d2 =>
      cases d2
      obtain ⟨t, rfl⟩ := a2
      obtain ⟨t2, rfl⟩ := c2
      cases r1 with
      | cons a1 b1 =>
        cases b1 with
        | cons c1 d1 =>
          obtain ⟨t3, e3⟩ := c1
          cases e3
          refine ⟨?_, rfl⟩
          cases h <;> first | (obtain ⟨_, e⟩ := a1; cases e; done) | (obtain ⟨_, e⟩ := a1; cases e; rfl) | cases a1
def rInPrs (K : PySem.W.Frag) : R2 := fun x y H Q => ∃ (a b : Addr) (h : V) (n : Int) (qs : List (Addr × Str × Int)), x = .ref a ∧ y = .ref b ∧ SqT K H a [h, .int n] ∧ HdOk K H h ∧ SqT K H b (qs.map fun q => .ref q.1) ∧
  (∀ q ∈ qs, SqT K H q.1 [.str q.2.1, .int q.2.2]) ∧ Q (.bl (qs.any fun q => hEq q.2.1 h && q.2.2 == n)) H
theorem vals_refs {e : Value → Bool} {g : (Addr × Str × Int) → Bool} : ∀ {qs : List (Addr × Str × Int)} {its : List Value}, Vals (qs.map fun q => V.ref q.1) its → (∀ q ∈ qs, e (.ref q.1) = g q) → its.any e = qs.any g ∧ ∀ y ∈ its, ∃ q ∈ qs, y = Value.ref q.1
  | [], _, h, _ => by cases h; exact ⟨rfl, fun y h => nomatch h⟩
  | q :: r, _, h, he => by
    cases h with
    | cons h1 h2 =>
      cases h1
      obtain ⟨e1, e2⟩ := vals_refs h2 (fun q hq => he q (List.mem_cons_of_mem _ hq))
      refine ⟨by rw [List.any_cons, List.any_cons, e1, he q List.mem_cons_self], fun y hy => ?_⟩
      rcases List.mem_cons.mp hy with h | h
      · exact ⟨q, List.mem_cons_self, h⟩
      · obtain ⟨q', a, b⟩ := e2 y h
        exact ⟨q', List.mem_cons_of_mem _ a, b⟩
open Classical in
noncomputable def ePr (K : PySem.W.Frag) (H : Hp) (h : V) (n : Int) : Value → Bool
  | .ref c => decide (∃ s m, SqT K H c [.str s, .int m] ∧ (hEq s h && m == n) = true)
  | _ => false
theorem pr_eq {X : Cx} {pins : List (Addr × Obj)} {σ : L2.St} {H : Hp} {s : Shared} {A : Around} (I : Inv X pins σ H s) (hu : A.units + 3 < cLine) {h : V} {a c : Addr} {n m : Int} {z : Str} (ok : HdOk X.K H h) (h1 : SqT X.K H a [h, .int n]) (h2 : SqT X.K H c [.str z, .int m]) :
    SeqAt.EqAt A s (.ref c) (.ref a) (hEq z h && m == n) := by
  by_cases hca : c = a
  · subst hca
    obtain ⟨rfl, rfl⟩ := two_same I h1 h2
    have e : (hEq z (.str z) && n == n) = true := by simp [hEq]
    rw [e]
    exact SeqAt.EqAt.same _
  · obtain ⟨its, r, p, _⟩ := I.tuple h1
    obtain ⟨its2, r2, p2, _⟩ := I.tuple h2
    cases r2 with
    | cons a2 b2 =>
      cases b2 with
      | cons c2 d2 =>
        cases d2
        obtain ⟨t, rfl⟩ := a2
        obtain ⟨t2, rfl⟩ := c2
        cases r with
        | cons a1 b1 =>
          cases b1 with
          | cons c1 d1 =>
            cases d1
            obtain ⟨t3, rfl⟩ := c1
            have key := SeqAt.RcAt.tuples (A := A) (e := fun j => if j = 0 then hEq z h else m == n) p2 p (by omega) (fun j hj hj2 => by
              have hj' : j < 2 := hj
              match j, hj' with
              | 0, _ => exact hd_eq I (by show A.units + 1 < cLine; omega) ok a1 z t
              | 1, _ => exact SeqAt.EqAt.int_int m t2 n t3)
            refine SeqAt.EqAt.of_refs hca ?_
            have e : ((List.range (min 2 2)).all (fun j => if j = 0 then hEq z h else m == n) && (2 : Nat) == 2) = (hEq z h && m == n) := by
              have : List.range (min 2 2) = [0, 1] := rfl
              rw [this]
              simp
            rw [← e]
            exact key
open Classical in
theorem op_inPrs {X : Cx} (hu : X.A.units + 65 < cLine) : OpR X (compareOp .In) (rInPrs X.K) := by
  intro pins s σ H x y v u Q I rx ry h
  obtain ⟨a, b, h, n, qs, rfl, rfl, h1, ok, h2, h3, q⟩ := h
  cases rx
  cases ry
  obtain ⟨its, r, p, _⟩ := I.tuple h2
  have he : ∀ q ∈ qs, ePr X.K H h n (.ref q.1) = (hEq q.2.1 h && q.2.2 == n) := fun q hq => by
    unfold ePr
    cases e : (hEq q.2.1 h && q.2.2 == n) with
    | true => exact decide_eq_true ⟨_, _, h3 q hq, e⟩
    | false =>
      refine decide_eq_false ?_
      rintro ⟨z, m, hz, ez⟩
      obtain ⟨e1, e2⟩ := two_same I hz (h3 q hq)
      cases e1
      subst e2
      rw [e] at ez
      cases ez
  obtain ⟨e1, e2⟩ := vals_refs (e := ePr X.K H h n) (g := fun q => hEq q.2.1 h && q.2.2 == n) r he
  refine SeqAt.in_tupleAt (ePr X.K H h n) p (fun y hy => ?_) ?_
  · obtain ⟨q, hq, rfl⟩ := e2 y (by simpa using hy)
    rw [he q hq]
    exact pr_eq I (by show X.A.units + 1 + 3 < cLine; omega) ok h1 (h3 q hq)
  · rw [← Array.any_toList, e1]
    exact ⟨.bl _, H, I, rfl, q⟩
end DL

set_option Elab.async false
set_option linter.all false
set_option maxRecDepth 100000
set_option maxHeartbeats 1000000
namespace DL
open PySem L2 PyProof.Rows
/-! ### operators by functions -/
open Classical in
noncomputable def oI (C : Int → Int → Prop) (g : Int → Int → D) (x y : D) (S : Sto) : Option (D × Sto) := match x, y with
  | .int i, .int j => if C i j then some (g i j, S) else none
  | _, _ => none
def oI0 (g : Int → Int → D) (x y : D) (S : Sto) : Option (D × Sto) := match x, y with
  | .int i, .int j => some (g i j, S)
  | _, _ => none
theorem oI_int {C : Int → Int → Prop} {g : Int → Int → D} {i j : Int} {S : Sto} (h : C i j) : oI C g (.int i) (.int j) S = some (g i j, S) := by
  unfold oI
  exact if_pos h
def oAdd (x y : D) (S : Sto) : Option (D × Sto) := match x, y with
  | .int i, .int j => some (.int (i + j), S)
  | .tup a, .tup b => if a.length + b.length ≤ 100000 then some (.tup (a ++ b), S) else none
  | .str a, .str b => if a.length + b.length ≤ 100000 then some (.str (a ++ b), S) else none
  | .loc i, .loc j => match S[i]?, S[j]? with
    | some (.lst a), some (.lst b) => if a.length + b.length ≤ 100000 then some (.loc S.length, S ++ [.lst (a ++ b)]) else none
    | _, _ => none
  | _, _ => none
open Classical in
noncomputable def oMul (x y : D) (S : Sto) : Option (D × Sto) := match x, y with
  | .int i, .int j => if CMul i j then some (.int (i * j), S) else none
  | .tup a, .int k => if a ≠ [] ∧ 0 ≤ k ∧ k ≤ 2000 ∧ a.length ≤ 40 then some (.tup (List.replicate k.toNat a).flatten, S) else none
  | .loc i, .int k => match S[i]? with
    | some (.lst a) => if -1000 ≤ k ∧ k ≤ 1000 ∧ a.length ≤ 100 then some (.loc S.length, S ++ [.lst (List.replicate k.toNat a).flatten]) else none
    | _ => none
  | _, _ => none
@[simp] theorem oMul_int {i j : Int} {S : Sto} (h : CMul i j) : oMul (.int i) (.int j) S = some (.int (i * j), S) := by
  unfold oMul
  simp [h]
def emp (S : Sto) : D → D → Option Bool
  | .tup a, .tup [] => some a.isEmpty
  | .loc i, .loc j => match S[i]?, S[j]? with
    | some (.lst a), some (.lst []) => some a.isEmpty
    | _, _ => none
  | _, _ => none
def oEq (f : Bool → Bool) (x y : D) (S : Sto) : Option (D × Sto) := match emp S x y with
  | some b => some (.bl (f b), S)
  | none => match scD x y with
    | some b => some (.bl (f b), S)
    | none => none
@[simp] theorem oEq_int {f : Bool → Bool} {i j : Int} {S : Sto} : oEq f (.int i) (.int j) S = some (.bl (f (decide (i = j))), S) := rfl
@[simp] theorem oEq_str {f : Bool → Bool} {i j : Str} {S : Sto} : oEq f (.str i) (.str j) S = some (.bl (f (decide (i = j))), S) := rfl
@[simp] theorem oEq_nilT {f : Bool → Bool} {a : List D} {S : Sto} : oEq f (.tup a) (.tup []) S = some (.bl (f a.isEmpty), S) := rfl
@[simp] def asStrs : List D → Option (List Str)
  | [] => some []
  | .str s :: r => (asStrs r).map (s :: ·)
  | _ => none
@[simp] theorem asStrs_map : ∀ ys : List Str, asStrs (ys.map D.str) = some ys
  | [] => rfl
  | y :: r => by simp [asStrs_map r]
@[simp] def asPrs : List D → Option (List (Str × Int))
  | [] => some []
  | .tup [.str s, .int m] :: r => (asPrs r).map ((s, m) :: ·)
  | _ => none
@[simp] def hEqD (s : Str) : D → Bool
  | .str z => s == z
  | _ => false
@[simp] def hOkD (S : Sto) : D → Bool
  | .loc i => (S[i]?).isSome
  | .scr _ => false
  | _ => true
def oIn (x y : D) (S : Sto) : Option (D × Sto) := match x, y with
  | .str w, .str z => match w.cps.toList with
    | [c] => some (.bl (decide (c ∈ z.cps.toList)), S)
    | _ => none
  | .str s, .tup ds => (asStrs ds).map fun ys => (.bl (ys.any (· == s)), S)
  | .str s, .loc i => match S[i]? with
    | some (.lst ds) => (asStrs ds).map fun ys => (.bl (ys.any (· == s)), S)
    | _ => none
  | .tup [h, .int n], .tup ds => if hOkD S h = true then (asPrs ds).map fun ys => (.bl (ys.any fun y => hEqD y.1 h && y.2 == n), S) else none
  | _, _ => none
def oNotIn (x y : D) (S : Sto) : Option (D × Sto) := match x, y with
  | .str w, .str z => match w.cps.toList with
    | [c] => some (.bl (!decide (c ∈ z.cps.toList)), S)
    | _ => none
  | .str s, .tup ds => (asStrs ds).map fun ys => (.bl (!ys.any (· == s)), S)
  | .str s, .loc i => match S[i]? with
    | some (.lst ds) => (asStrs ds).map fun ys => (.bl (!ys.any (· == s)), S)
    | _ => none
  | _, _ => none
def oIs (f : Bool → Bool) (x y : D) (S : Sto) : Option (D × Sto) := match y with
  | .non => some (.bl (f (isNonD x)), S)
  | _ => none
def oIx (x y : D) (S : Sto) : Option (D × Sto) := match x, y with
  | .tup ds, .int i => (atI ds i).bind fun d => some (d, S)
  | .loc l, .int i => match S[l]? with
    | some (.lst ds) => (atI ds i).bind fun d => some (d, S)
    | _ => none
  | .str z, .int i => if z.length ≤ 100000 then (atI z.cps.toList i).bind fun c => some (.str ⟨#[c]⟩, S) else none
  | _, _ => none
section
variable {X : Cx}
theorem eo_I {C : Int → Int → Prop} {g : Int → Int → D} : ∀ x y S Q, toR (oI C g) x y S Q → rdI C g x y S Q := by
  rintro x y S Q ⟨p, h, q⟩
  unfold oI at h
  split at h
  · split at h
    · cases h
      exact ⟨_, _, rfl, rfl, by assumption, q⟩
    · cases h
  · cases h
theorem eo_I0 {g : Int → Int → D} : ∀ x y S Q, toR (oI0 g) x y S Q → rdI0 g x y S Q := by
  rintro x y S Q ⟨p, h, q⟩
  unfold oI0 at h
  split at h
  · cases h
    exact ⟨_, _, rfl, rfl, q⟩
  · cases h
theorem xo_add : OpD X (binaryOp .Add) (vAdd X.K) (toR oAdd) := od_add.imp' (by
  rintro x y S Q ⟨p, h, q⟩
  unfold oAdd at h
  split at h
  · cases h; exact q
  · split at h
    · cases h; exact ⟨by assumption, q⟩
    · cases h
  · split at h
    · cases h; exact ⟨by assumption, q⟩
    · cases h
  · split at h
    · split at h
      · cases h
        exact ⟨_, _, by assumption, by assumption, by assumption, q⟩
      · cases h
    · cases h
  · cases h)
theorem xo_mul : OpD X (binaryOp .Mult) (vMul X.K) (toR oMul) := od_mul.imp' (by
  rintro x y S Q ⟨p, h, q⟩
  unfold oMul at h
  split at h
  · split at h
    · cases h; exact ⟨by assumption, q⟩
    · cases h
  · split at h
    · rename_i hh
      cases h; exact ⟨hh.1, hh.2.1, hh.2.2.1, hh.2.2.2, q⟩
    · cases h
  · split at h
    · split at h
      · rename_i hs hh
        cases h; exact ⟨_, hs, hh.1, hh.2.1, hh.2.2, q⟩
      · cases h
    · cases h
  · cases h)
theorem xo_sub : OpD X (binaryOp .Sub) (rI0 fun i j => .int (i - j)) (toR (oI0 fun i j => .int (i - j))) := od_sub.imp' eo_I0
theorem xo_mod : OpD X (binaryOp .Mod) (rI (fun _ j => 0 < j) fun i j => .int (i % j)) (toR (oI (fun _ j => 0 < j) fun i j => .int (i % j))) := od_mod.imp' eo_I
theorem xo_fdiv : OpD X (binaryOp .FloorDiv) (rI CDiv fun i j => .int (i / j)) (toR (oI CDiv fun i j => .int (i / j))) := od_fdiv.imp' eo_I
theorem xo_pow : OpD X (binaryOp .Pow) (rI CPow fun i j => .int (i ^ j.toNat)) (toR (oI CPow fun i j => .int (i ^ j.toNat))) := od_pow.imp' eo_I
theorem xo_lt : OpD X (compareOp .Lt) (rI0 fun i j => .bl (decide (i < j))) (toR (oI0 fun i j => .bl (decide (i < j)))) := od_lt.imp' eo_I0
theorem xo_le : OpD X (compareOp .LtE) (rI0 fun i j => .bl (decide (i ≤ j))) (toR (oI0 fun i j => .bl (decide (i ≤ j)))) := od_le.imp' eo_I0
theorem xo_gt : OpD X (compareOp .Gt) (rI0 fun i j => .bl (decide (j < i))) (toR (oI0 fun i j => .bl (decide (j < i)))) := od_gt.imp' eo_I0
theorem xo_ge : OpD X (compareOp .GtE) (rI0 fun i j => .bl (decide (j ≤ i))) (toR (oI0 fun i j => .bl (decide (j ≤ i)))) := od_ge.imp' eo_I0
theorem xo_is : OpD X (compareOp .Is) rIsN (toR (oIs id)) := od_is.imp' (by
  rintro x y S Q ⟨p, h, q⟩
  unfold oIs at h
  split at h
  · cases h; exact ⟨rfl, q⟩
  · cases h)
theorem xo_isnot : OpD X (compareOp .IsNot) rNotN (toR (oIs not)) := od_isnot.imp' (by
  rintro x y S Q ⟨p, h, q⟩
  unfold oIs at h
  split at h
  · cases h; exact ⟨rfl, q⟩
  · cases h)
theorem emp_ok {K : PySem.W.Frag} {H : Hp} {m : Mp} {S : Sto} {x y : D} {vx vy : V} {b : Bool} {f : Bool → Bool} {Q : VK} (R : Rel K H m S) (rx : Dv K H m vx x) (ry : Dv K H m vy y) (h : emp S x y = some b) (q : Q (.bl (f b)) H) : rEmp K f vx vy H Q := by
  unfold emp at h
  split at h
  · cases h
    cases rx with
    | tup s1 d1 =>
      cases ry with
      | tup s2 d2 =>
        cases d2
        refine ⟨_, _, _, rfl, rfl, .inl ⟨s1, s2⟩, ?_⟩
        cases d1 <;> exact q
  · split at h
    · rename_i h1 h2
      cases h
      obtain ⟨p1, vs1, rfl, _, hH1, d1⟩ := R.lst rx h1
      obtain ⟨p2, vs2, rfl, _, hH2, d2⟩ := R.lst ry h2
      cases d2
      refine ⟨_, _, _, rfl, rfl, .inr ⟨SqL.of hH1, SqL.of hH2⟩, ?_⟩
      cases d1 <;> exact q
    · cases h
  · cases h
def vEqF (K : PySem.W.Frag) : R2 := fun x y H Q => rEmp K id x y H Q ∨ rEq x y H Q
def vNeF (K : PySem.W.Frag) : R2 := fun x y H Q => rEmp K not x y H Q ∨ rNe x y H Q
theorem xo_eq (hu : X.A.units + 64 < cLine) : OpD X (compareOp .Eq) (vEqF X.K) (toR (oEq id)) := ⟨(op_eqEmp hu).or op_eq, fun H m S x y vx vy Q Q' R rx ry ⟨p, h, q⟩ c => by
  unfold oEq at h
  split at h
  · rename_i b hb
    cases h
    exact .inl (emp_ok (f := id) R rx ry hb (c.same R q (.bl _)))
  · split at h
    · rename_i b hb
      cases h
      obtain ⟨h1, h2⟩ := scD_ok hb rx ry
      exact .inr ⟨h1, by rw [h2]; exact c.same R q (.bl b)⟩
    · cases h⟩
theorem xo_ne (hu : X.A.units + 64 < cLine) : OpD X (compareOp .NotEq) (vNeF X.K) (toR (oEq not)) := ⟨(op_neEmp hu).or op_ne, fun H m S x y vx vy Q Q' R rx ry ⟨p, h, q⟩ c => by
  unfold oEq at h
  split at h
  · rename_i b hb
    cases h
    exact .inl (emp_ok (f := not) R rx ry hb (c.same R q (.bl _)))
  · split at h
    · rename_i b hb
      cases h
      obtain ⟨h1, h2⟩ := scD_ok hb rx ry
      exact .inr ⟨h1, by rw [h2]; exact c.same R q (.bl _)⟩
    · cases h⟩
theorem strs_vs {K : PySem.W.Frag} {H : Hp} {m : Mp} : ∀ {ds : List D} {vs : List V} {ys : List Str}, DvA K H m vs ds → asStrs ds = some ys → vs = ys.map V.str
  | [], _, _, r, h => by cases r; cases h; rfl
  | .str s :: ds, _, _, r, h => by
    cases r with
    | cons r1 r2 =>
      cases r1
      simp only [asStrs, Option.map_eq_some_iff] at h
      obtain ⟨zs, h1, rfl⟩ := h
      rw [strs_vs r2 h1]
      rfl
  | .non :: _, _, _, _, h => by cases h
  | .bl _ :: _, _, _, _, h => by cases h
  | .int _ :: _, _, _, _, h => by cases h
  | .tup _ :: _, _, _, _, h => by cases h
  | .loc _ :: _, _, _, _, h => by cases h
  | .scr _ :: _, _, _, _, h => by cases h
theorem prs_vs {K : PySem.W.Frag} {H : Hp} {m : Mp} : ∀ {ds : List D} {vs : List V} {ys : List (Str × Int)}, DvA K H m vs ds → asPrs ds = some ys → ∃ qs : List (Addr × Str × Int), vs = qs.map (fun q => .ref q.1) ∧ (∀ q ∈ qs, SqT K H q.1 [.str q.2.1, .int q.2.2]) ∧ qs.map (·.2) = ys
  | [], _, _, r, h => by cases r; cases h; exact ⟨[], rfl, fun q h => absurd h List.not_mem_nil, rfl⟩
  | d :: ds, _, _, r, h => by
    unfold asPrs at h
    split at h
    · rename_i e; cases e
    · rename_i s n r' e
      cases e
      cases r with
      | cons r1 r2 =>
        simp only [Option.map_eq_some_iff] at h
        obtain ⟨zs, h1, rfl⟩ := h
        obtain ⟨qs, e1, e2, e3⟩ := prs_vs r2 h1
        cases r1 with
        | @tup a _ _ s1 d1 =>
          cases d1 with
          | cons a1 b1 =>
            cases b1 with
            | cons a2 b2 =>
              cases b2
              cases a1
              cases a2
              refine ⟨(a, _, _) :: qs, by rw [e1]; rfl, fun q hq => ?_, by rw [List.map_cons, e3]⟩
              rcases List.mem_cons.mp hq with h | h
              · rw [h]; exact s1
              · exact e2 q h
    · cases h
theorem hd_ok {K : PySem.W.Frag} {H : Hp} {m : Mp} {S : Sto} {d : D} {v : V} (R : Rel K H m S) (r : Dv K H m v d) (h : hOkD S d = true) : HdOk K H v ∧ ∀ s, hEq s v = hEqD s d := by
  cases r with
  | non => exact ⟨trivial, fun _ => rfl⟩
  | bl => exact ⟨trivial, fun _ => rfl⟩
  | int => exact ⟨trivial, fun _ => rfl⟩
  | str => exact ⟨trivial, fun _ => rfl⟩
  | tup s1 d1 => exact ⟨.inl ⟨_, s1⟩, fun _ => rfl⟩
  | loc e =>
    simp only [hOkD, Option.isSome_iff_exists] at h
    obtain ⟨o, ho⟩ := h
    have := R.ob _ _ _ e ho
    cases o with
    | lst ds => obtain ⟨vs, h1, _⟩ := this; exact ⟨.inr (.inl ⟨_, SqL.of h1⟩), fun _ => rfl⟩
    | dct kvs => obtain ⟨vs, h1, _⟩ := this; exact ⟨.inr (.inr ⟨_, h1⟩), fun _ => rfl⟩
  | scr _ => cases h
def vInF (K : PySem.W.Frag) : R2 := fun x y H Q => rInS x y H Q ∨ (rInStrs K id x y H Q ∨ rInPrs K x y H Q)
def vNotInF (K : PySem.W.Frag) : R2 := fun x y H Q => rNotInS x y H Q ∨ rInStrs K not x y H Q
theorem one_sign {w : Str} {c : Nat} (h : w.cps.toList = [c]) : w = ⟨#[c]⟩ := by
  obtain ⟨a⟩ := w
  have : a = #[c] := by
    apply Array.toList_inj.mp
    exact h
  rw [this]
theorem xo_in (hu : X.A.units + 65 < cLine) : OpD X (compareOp .In) (vInF X.K) (toR oIn) := ⟨op_inS.or (op_inStrs.or (op_inPrs hu)), fun H m S x y vx vy Q Q' R rx ry ⟨p, h, q⟩ c => by
  unfold oIn at h
  split at h
  · split at h
    · rename_i hc
      cases h
      have := one_sign hc
      subst this
      cases rx
      cases ry
      exact .inl ⟨_, _, rfl, rfl, c.same R q (.bl _)⟩
    · cases h
  · simp only [Option.map_eq_some_iff] at h
    obtain ⟨ys, h1, rfl⟩ := h
    cases rx
    cases ry with
    | tup s1 d1 =>
      have := strs_vs d1 h1
      subst this
      exact .inr (.inl ⟨_, _, ys, rfl, rfl, .inl s1, c.same R q (.bl _)⟩)
  · split at h
    · rename_i hs
      simp only [Option.map_eq_some_iff] at h
      obtain ⟨ys, h1, rfl⟩ := h
      cases rx
      obtain ⟨p1, vs1, rfl, _, hH1, d1⟩ := R.lst ry hs
      have := strs_vs d1 h1
      subst this
      exact .inr (.inl ⟨_, _, ys, rfl, rfl, .inr (SqL.of hH1), c.same R q (.bl _)⟩)
    · cases h
  · split at h
    · rename_i hk
      simp only [Option.map_eq_some_iff] at h
      obtain ⟨ys, h1, rfl⟩ := h
      cases ry with
      | tup s2 d2 =>
        cases rx with
        | tup s1 d1 =>
          cases d1 with
          | cons a1 b1 =>
            cases b1 with
            | cons a2 b2 =>
              cases b2
              cases a2
              obtain ⟨qs, e1, e2, e3⟩ := prs_vs d2 h1
              subst e1
              obtain ⟨k1, k2⟩ := hd_ok R a1 hk
              refine .inr (.inr ⟨_, _, _, _, qs, rfl, rfl, s1, k1, s2, e2, ?_⟩)
              have e := c.same R q (.bl _)
              rw [← e3, List.any_map] at e
              have k3 : ∀ n : Int, (fun q : Addr × Str × Int => hEq q.2.1 _ && q.2.2 == n) = ((fun y : Str × Int => hEqD y.1 _ && y.2 == n) ∘ fun x => x.2) := fun n => funext fun q => by rw [k2]; rfl
              rw [k3]
              exact e
    · cases h
  · cases h⟩
theorem xo_notin : OpD X (compareOp .NotIn) (vNotInF X.K) (toR oNotIn) := ⟨op_notInS.or op_notInStrs, fun H m S x y vx vy Q Q' R rx ry ⟨p, h, q⟩ c => by
  unfold oNotIn at h
  split at h
  · split at h
    · rename_i hc
      cases h
      have := one_sign hc
      subst this
      cases rx
      cases ry
      exact .inl ⟨_, _, rfl, rfl, c.same R q (.bl _)⟩
    · cases h
  · simp only [Option.map_eq_some_iff] at h
    obtain ⟨ys, h1, rfl⟩ := h
    cases rx
    cases ry with
    | tup s1 d1 =>
      have := strs_vs d1 h1
      subst this
      exact .inr ⟨_, _, ys, rfl, rfl, .inl s1, c.same R q (.bl _)⟩
  · split at h
    · rename_i hs
      simp only [Option.map_eq_some_iff] at h
      obtain ⟨ys, h1, rfl⟩ := h
      cases rx
      obtain ⟨p1, vs1, rfl, _, hH1, d1⟩ := R.lst ry hs
      have := strs_vs d1 h1
      subst this
      exact .inr ⟨_, _, ys, rfl, rfl, .inr (SqL.of hH1), c.same R q (.bl _)⟩
    · cases h
  · cases h⟩
end
end DL

set_option Elab.async false
set_option linter.all false
set_option maxRecDepth 100000
set_option maxHeartbeats 1000000
namespace DL
open PySem L2 PyProof.Rows
/-! ### items, slices, built-ins, calls -/
def fNoPart (δ : DEnv) (S : Sto) : Option (Option Int × Sto) := some (none, S)
def fPart (f : FE) (δ : DEnv) (S : Sto) : Option (Option Int × Sto) := (asI (f δ S)).bind fun p => some (some p.1, p.2)
def oSl (x : D) (lo hi : Option Int) (S : Sto) : Option (D × Sto) := match x with
  | .tup ds => some (.tup (cutD ds lo hi), S)
  | .loc i => match S[i]? with
    | some (.lst ds) => some (.loc S.length, S ++ [.lst (cutD ds lo hi)])
    | _ => none
  | .scr ns => some (.loc S.length, S ++ [.lst (cutD (ns.map .int) lo hi)])
  | _ => none
def fSl (f : FE) (l u : FO) (δ : DEnv) (S : Sto) : Option (D × Sto) := (f δ S).bind fun p => (l δ p.2).bind fun q => (u δ q.2).bind fun r => oSl p.1 q.1 r.1 r.2
def fRevL (f : FE) (δ : DEnv) (S : Sto) : Option (D × Sto) := (f δ S).bind fun p => match p.1 with
  | .loc i => match p.2[i]? with
    | some (.lst ds) => some (.loc p.2.length, p.2 ++ [.lst ds.reverse])
    | _ => none
  | _ => none
abbrev FB := List D → Sto → Option (D × Sto)
def fCB (b : FB) (g : FA) (δ : DEnv) (S : Sto) : Option (D × Sto) := (g δ S).bind fun p => b p.1 p.2
def bLen (xs : List D) (S : Sto) : Option (D × Sto) := match xs with
  | [.tup ds] => some (.int ds.length, S)
  | [.str z] => if z.length ≤ 100000 then some (.int z.length, S) else none
  | [.loc i] => match S[i]? with
    | some (.lst ds) => some (.int ds.length, S)
    | _ => none
  | _ => none
def bAbs (xs : List D) (S : Sto) : Option (D × Sto) := match xs with
  | [.int i] => some (.int (if i < 0 then -i else i), S)
  | _ => none
def bInt (xs : List D) (S : Sto) : Option (D × Sto) := match xs with
  | [.int i] => some (.int i, S)
  | [.bl k] => some (.int (if k then 1 else 0), S)
  | _ => none
@[simp] def asInts : List D → Option (List Int)
  | [] => some []
  | .int s :: r => (asInts r).map (s :: ·)
  | _ => none
@[simp] def asBls : List D → Option (List Bool)
  | [] => some []
  | .bl s :: r => (asBls r).map (s :: ·)
  | _ => none
theorem asInts_map : ∀ ys : List Int, asInts (ys.map D.int) = some ys
  | [] => rfl
  | y :: r => by simp [asInts_map r]
theorem asBls_map : ∀ ys : List Bool, asBls (ys.map D.bl) = some ys
  | [] => rfl
  | y :: r => by simp [asBls_map r]
theorem ints_of : ∀ {ds : List D} {ys : List Int}, asInts ds = some ys → ds = ys.map D.int
  | [], _, h => by cases h; rfl
  | .int s :: ds, _, h => by
    simp only [asInts, Option.map_eq_some_iff] at h
    obtain ⟨zs, h1, rfl⟩ := h
    rw [ints_of h1]
    rfl
  | .non :: _, _, h => by cases h
  | .bl _ :: _, _, h => by cases h
  | .str _ :: _, _, h => by cases h
  | .tup _ :: _, _, h => by cases h
  | .loc _ :: _, _, h => by cases h
  | .scr _ :: _, _, h => by cases h
theorem bls_of : ∀ {ds : List D} {ys : List Bool}, asBls ds = some ys → ds = ys.map D.bl
  | [], _, h => by cases h; rfl
  | .bl s :: ds, _, h => by
    simp only [asBls, Option.map_eq_some_iff] at h
    obtain ⟨zs, h1, rfl⟩ := h
    rw [bls_of h1]
    rfl
  | .non :: _, _, h => by cases h
  | .int _ :: _, _, h => by cases h
  | .str _ :: _, _, h => by cases h
  | .tup _ :: _, _, h => by cases h
  | .loc _ :: _, _, h => by cases h
  | .scr _ :: _, _, h => by cases h
def bSum (xs : List D) (S : Sto) : Option (D × Sto) := match xs with
  | [.loc i] => match S[i]? with
    | some (.lst ds) => (asInts ds).bind fun ns => some (.int ns.sum, S)
    | _ => none
  | _ => none
def bAll (xs : List D) (S : Sto) : Option (D × Sto) := match xs with
  | [.loc i] => match S[i]? with
    | some (.lst ds) => (asBls ds).bind fun ns => some (.bl (ns.all id), S)
    | _ => none
  | _ => none
def bTupleOf (xs : List D) (S : Sto) : Option (D × Sto) := match xs with
  | [.loc i] => match S[i]? with
    | some (.lst ds) => some (.tup ds, S)
    | _ => none
  | [.tup ds] => some (.tup ds, S)
  | _ => none
def bListOf (xs : List D) (S : Sto) : Option (D × Sto) := match xs with
  | [.loc i] => match S[i]? with
    | some (.lst ds) => some (.loc S.length, S ++ [.lst ds])
    | _ => none
  | [.tup ds] => some (.loc S.length, S ++ [.lst ds])
  | _ => none
mutual
theorem PyOf.det {S : Sto} : ∀ (p : PyData) (d : D) (q : PyData), PyOf S d p → PyOf S d q → p = q
  | .none, _, _, h, h2 => by cases h; cases h2; rfl
  | .bool b, _, _, h, h2 => by cases h; cases h2; rfl
  | .int i, _, _, h, h2 => by cases h; cases h2; rfl
  | .str x, _, _, h, h2 => by cases h; cases h2; rfl
  | .tuple ps, _, _, h, h2 => by
    cases h with
    | tup a =>
      cases h2 with
      | tup b => rw [PyOfA.det ps _ _ a b]
  | .list ps, _, _, h, h2 => by
    cases h with
    | lst e a =>
      cases h2 with
      | lst e2 b =>
        rw [e] at e2
        cases e2
        rw [PyOfA.det ps _ _ a b]
  | .dict kvs, _, _, h, h2 => by cases h
theorem PyOfA.det {S : Sto} : ∀ (p : List PyData) (d : List D) (q : List PyData), PyOfA S d p → PyOfA S d q → p = q
  | [], _, _, h, h2 => by cases h; cases h2; rfl
  | p :: ps, _, _, h, h2 => by
    cases h with
    | cons a b =>
      cases h2 with
      | cons a2 b2 => rw [PyOf.det p _ _ a a2, PyOfA.det ps _ _ b b2]
end
def Shows (S : Sto) (d : D) (p : PyData) : Prop := PyOf S d p ∧ p.showable = true ∧ p.hasDict = false ∧ p.shown.length ≤ sizeLine ∧ p.depth ≤ 60
open Classical in
noncomputable def bRepr (xs : List D) (S : Sto) : Option (D × Sto) := match xs with
  | [d] => if h : ∃ p, Shows S d p then some (.str h.choose.shown, S) else none
  | _ => none
open Classical in
theorem bRepr_eq {S : Sto} {d : D} {p : PyData} (h : Shows S d p) : bRepr [d] S = some (.str p.shown, S) := by
  have hh : ∃ p, Shows S d p := ⟨p, h⟩
  show (if h : ∃ p, Shows S d p then some (D.str h.choose.shown, S) else none) = _
  rw [dif_pos hh, PyOf.det _ _ _ hh.choose_spec.1 h.1]
def fIsi (T : String) (f : FE) (δ : DEnv) (S : Sto) : Option (D × Sto) := (f δ S).bind fun p => (kitB (tyD p.2 p.1) T).bind fun b => some (.bl b, p.2)
def fCall (c : Fn) (g : FA) (δ : DEnv) (S : Sto) : Option (D × Sto) := (g δ S).bind fun p => c p.1 p.2
section
variable {X : Cx} {pos p : Pos} {a b : Expr} {e : Expr} {es : List Expr} {te ta tb : TE} {f g : FE} {tA : TA} {u : FA} {x : Str}
theorem x_ix (h1 : PD X a ta (toE f)) (h2 : PD X b tb (toE g)) (hs : PlainIx b) : PD X (.Subscript a b pos) (tOp (rIx X.K) ta tb) (toE (fOp oIx f g)) := (d_ix h1 h2 hs).imp (by
  rintro δ S Q ⟨p, h, q⟩
  simp only [fOp, Option.bind_eq_some_iff] at h
  obtain ⟨a, h1, b, h2, h3⟩ := h
  refine ⟨a, h1, b, h2, ?_⟩
  unfold oIx at h3
  unfold rdIx
  split at h3
  · simp only [Option.bind_eq_some_iff] at h3
    obtain ⟨d, e1, e2⟩ := h3
    cases e2
    rename_i ha hb
    rw [ha, hb]
    exact ⟨d, e1, q⟩
  · rename_i ha hb
    rw [ha, hb]
    split at h3
    · rename_i hs
      simp only [Option.bind_eq_some_iff] at h3
      obtain ⟨d, e1, e2⟩ := h3
      cases e2
      exact ⟨_, d, hs, e1, q⟩
    · cases h3
  · rename_i ha hb
    rw [ha, hb]
    split at h3
    · simp only [Option.bind_eq_some_iff] at h3
      obtain ⟨d, e1, e2⟩ := h3
      cases e2
      exact ⟨d, by assumption, e1, q⟩
    · cases h3
  · cases h3)
theorem xp_none : POD X none tNoPart (toO fNoPart) := do_none.imp (by
  rintro δ S Q ⟨p, h, q⟩
  cases h
  exact q)
theorem xp_some (h : PD X a ta (toE f)) : POD X (some a) (tPart ta) (toO (fPart f)) := (do_some h).imp (by
  rintro δ S Q ⟨p, h, q⟩
  simp only [fPart, Option.bind_eq_some_iff] at h
  obtain ⟨k, h1, h2⟩ := h
  cases h2
  exact ⟨_, asI_some h1, k.1, rfl, q⟩)
theorem x_slice {lo hi : Option Expr} {tl th : TO} {dl dh : FO} {p2 : Pos} (h : PD X a ta (toE f)) (hl : POD X lo tl (toO dl)) (hh : POD X hi th (toO dh)) :
    PD X (.Subscript a (.Slice lo hi none p2) pos) (tSl (vSl X.K) ta tl th) (toE (fSl f dl dh)) := (d_slice h hl hh).imp (by
  rintro δ S Q ⟨p, h, q⟩
  simp only [fSl, Option.bind_eq_some_iff] at h
  obtain ⟨a, h1, b, h2, c, h3, h4⟩ := h
  refine ⟨a, h1, b, h2, c, h3, ?_⟩
  unfold oSl at h4
  unfold rdSl
  split at h4
  · rename_i ha
    try rw [ha]
    cases h4
    exact q
  · rename_i ha
    try rw [ha]
    split at h4
    · rename_i hs
      cases h4
      exact ⟨_, hs, q⟩
    · cases h4
  · rename_i ha
    try rw [ha]
    cases h4
    exact q
  · cases h4)
theorem x_revL {k : Nat} {p1 p2 p3 : Pos} (h : PD X a ta (toE f)) : PD X (.Subscript a (.Slice none none (some (.UnaryOp .USub (.Constant (.int 1) k p1) p2)) p3) pos) (tRevL X.K ta) (toE (fRevL f)) := (d_revL h).imp (by
  rintro δ S Q ⟨p, h, q⟩
  simp only [fRevL, Option.bind_eq_some_iff] at h
  obtain ⟨a, h1, h2⟩ := h
  refine ⟨a, h1, ?_⟩
  split at h2
  · rename_i ha
    rw [ha]
    split at h2
    · rename_i hs
      cases h2
      exact ⟨_, _, rfl, hs, q⟩
    · cases h2
  · cases h2)
def toB (b : FB) : List D → Sto → DK → Prop := fun xs S Q => ∃ p, b xs S = some p ∧ Q p.1 p.2
theorem imp_CB {b : FB} : ∀ δ S Q, toE (fCB b u) δ S Q → dCB (toB b) (toA u) δ S Q := by
  rintro δ S Q ⟨p, h, q⟩
  simp only [fCB, Option.bind_eq_some_iff] at h
  obtain ⟨a, h1, h2⟩ := h
  exact ⟨a, h1, p, h2, q⟩
theorem x_callB {r : List V → Hp → VK → Prop} {fb : FB} {id : String} (c : CallD X (.builtin id) r (toB fb)) (hg : Gl X x) (hm : X.mg x = none) (hv : bootBuiltins x = some (.builtin id)) (ha : PAD X (e :: es) tA (toA u)) (hn : x ≠ "__name__" := by decide) (hdb : (x == ("__debug__" : Str)) = false := by decide)
    (he : starEach (e :: es) X.env = (false, eval e X.env) :: starEach es X.env := by rfl) (hpl : (backTo pos (starEach es X.env)).any (·.1) = false := by rfl) : PD X (.Call (.Name x p) (e :: es) [] pos) (tCB r tA) (toE (fCB fb u)) :=
  (d_callB c hg hm hv ha hn hdb he hpl).imp imp_CB
theorem x_callTy {r : List V → Hp → VK → Prop} {fb : FB} {T : String} (c : CallD X (.type T) r (toB fb)) (hg : Gl X x) (hm : X.mg x = none) (hv : bootBuiltins x = some (.type T)) (ha : PAD X (e :: es) tA (toA u)) (hn : x ≠ "__name__" := by decide) (hdb : (x == ("__debug__" : Str)) = false := by decide)
    (he : starEach (e :: es) X.env = (false, eval e X.env) :: starEach es X.env := by rfl) (hpl : (backTo pos (starEach es X.env)).any (·.1) = false := by rfl) : PD X (.Call (.Name x p) (e :: es) [] pos) (tCB r tA) (toE (fCB fb u)) :=
  (d_callTy c hg hm hv ha hn hdb he hpl).imp imp_CB
theorem xb_len : CallD X (.builtin "len") (vLen X.K) (toB bLen) := cd_len.imp' (by
  rintro xs S Q ⟨p, h, q⟩
  unfold bLen at h
  split at h
  · cases h; exact q
  · split at h
    · cases h; exact ⟨by assumption, q⟩
    · cases h
  · split at h
    · rename_i hs
      cases h; exact ⟨_, hs, q⟩
    · cases h
  · cases h)
theorem xb_abs : CallD X (.builtin "abs") vAbs (toB bAbs) := cd_abs.imp' (by
  rintro xs S Q ⟨p, h, q⟩
  unfold bAbs at h
  split at h
  · cases h; exact ⟨_, rfl, q⟩
  · cases h)
theorem xb_int : CallD X (.type "int") vInt (toB bInt) := cd_int.imp' (by
  rintro xs S Q ⟨p, h, q⟩
  unfold bInt at h
  split at h
  · cases h; exact q
  · cases h; exact q
  · cases h)
theorem xb_tupleOf : CallD X (.type "tuple") (vTupleOf X.K) (toB bTupleOf) := cd_tupleOf.imp' (by
  rintro xs S Q ⟨p, h, q⟩
  unfold bTupleOf at h
  split at h
  · split at h
    · rename_i hs
      cases h; exact ⟨_, hs, q⟩
    · cases h
  · cases h; exact q
  · cases h)
theorem xb_listOf : CallD X (.type "list") (vListOf X.K) (toB bListOf) := cd_listOf.imp' (by
  rintro xs S Q ⟨p, h, q⟩
  unfold bListOf at h
  split at h
  · split at h
    · rename_i hs
      cases h; exact ⟨_, hs, q⟩
    · cases h
  · cases h; exact q
  · cases h)
theorem xb_sum (hc : X.calm = true) : CallD X (.builtin "sum") (rSum X.K) (toB bSum) := (cd_sum hc).imp' (by
  rintro xs S Q ⟨p, h, q⟩
  unfold bSum at h
  split at h
  · split at h
    · rename_i hs
      simp only [Option.bind_eq_some_iff] at h
      obtain ⟨ns, h1, h2⟩ := h
      cases h2
      exact ⟨_, ns, rfl, by rw [hs, ints_of h1], q⟩
    · cases h
  · cases h)
theorem xb_all (hc : X.calm = true) : CallD X (.builtin "all") (rAll X.K) (toB bAll) := (cd_all hc).imp' (by
  rintro xs S Q ⟨p, h, q⟩
  unfold bAll at h
  split at h
  · split at h
    · rename_i hs
      simp only [Option.bind_eq_some_iff] at h
      obtain ⟨ns, h1, h2⟩ := h
      cases h2
      exact ⟨_, ns, rfl, by rw [hs, bls_of h1], q⟩
    · cases h
  · cases h)
theorem xb_repr (hg : X.A.guards = some []) (hu : X.A.units + 64 < cLine) : CallD X (.builtin "repr") (vRepr X.K) (toB bRepr) := (cd_repr hg hu).imp' (by
  rintro xs S Q ⟨p, h, q⟩
  unfold bRepr at h
  split at h
  · split at h
    · rename_i hh
      cases h
      obtain ⟨h1, h2, h3, h4, h5⟩ := hh.choose_spec
      exact ⟨_, _, rfl, h1, h2, h3, h4, h5, q⟩
    · cases h
  · cases h)
theorem x_isi {T : String} {pT : Pos} (hg : Gl X "isinstance") (hm : X.mg "isinstance" = none) (hv : bootBuiltins "isinstance" = some (.builtin "isinstance")) (h : PD X a ta (toE f))
    (hgT : Gl X x) (hmT : X.mg x = none) (hvT : bootBuiltins x = some (.type T)) (hnT : x ≠ "__name__" := by decide) (hdT : (x == ("__debug__" : Str)) = false := by decide)
    (he1 : starEach [a, .Name x pT] X.env = (false, eval a X.env) :: starEach [.Name x pT] X.env := by rfl) (he2 : starEach [.Name x pT] X.env = (false, eval (.Name x pT) X.env) :: starEach [] X.env := by rfl)
    (hpl : (backTo pos (starEach [.Name x pT] X.env)).any (·.1) = false := by rfl) :
    PD X (.Call (.Name "isinstance" p) [a, .Name x pT] [] pos) (tCB (rIsi X.K) (tCons ta (tCons (tC (.ty T)) tNil))) (toE (fIsi T f)) := (d_isi hg hm hv h hgT hmT hvT hnT hdT he1 he2 hpl).imp (by
  rintro δ S Q ⟨p, h, q⟩
  simp only [fIsi, Option.bind_eq_some_iff] at h
  obtain ⟨a, h1, b, h2, h3⟩ := h
  cases h3
  exact ⟨a, h1, b, h2, q⟩)
theorem x_call {k n : Nat} {c : Fn} (F : DefD X.prog X.w X.K X.mg X.base k x n (toC c)) (hgd : X.A.guards = some []) (hr : Room k X.A) (hg : Gl X x) (ha : PAD X (e :: es) tA (toA u)) (hdb : (x == ("__debug__" : Str)) = false := by decide)
    (he : starEach (e :: es) X.env = (false, eval e X.env) :: starEach es X.env := by rfl) (hpl : (backTo pos (starEach es X.env)).any (·.1) = false := by rfl) :
    PD X (.Call (.Name x p) (e :: es) [] pos) (tCall (toSp X.K (toC c)) [] E0 tA) (toE (fCall c u)) := (d_call F hgd hr hg ha hdb he hpl).imp (by
  rintro δ S Q ⟨p, h, q⟩
  simp only [fCall, Option.bind_eq_some_iff] at h
  obtain ⟨a, h1, h2⟩ := h
  exact ⟨a, h1, p, h2, q⟩)
end
/-! ### methods of lists -/
def fApp (f g : FE) (δ : DEnv) (S : Sto) : Option (D × Sto) := (f δ S).bind fun p => match p.1 with
  | .loc i => match p.2[i]? with
    | some (.lst _) => (g δ p.2).bind fun q => match q.2[i]? with
      | some (.lst ds) => if ds.length < 100000 then some (.non, q.2.set i (.lst (ds ++ [q.1]))) else none
      | _ => none
    | _ => none
  | _ => none
def fExt (f g : FE) (δ : DEnv) (S : Sto) : Option (D × Sto) := (f δ S).bind fun p => match p.1 with
  | .loc i => match p.2[i]? with
    | some (.lst _) => (g δ p.2).bind fun q => match q.1 with
      | .loc j => match q.2[i]?, q.2[j]? with
        | some (.lst ds), some (.lst es) => if ds.length + es.length ≤ 100000 then some (.non, q.2.set i (.lst (ds ++ es))) else none
        | _, _ => none
      | _ => none
    | _ => none
  | _ => none
def fPop (f : FE) (δ : DEnv) (S : Sto) : Option (D × Sto) := (f δ S).bind fun p => match p.1 with
  | .loc i => match p.2[i]? with
    | some (.lst ds) => (ds[ds.length - 1]?).bind fun d => some (d, p.2.set i (.lst ds.dropLast))
    | _ => none
  | _ => none
def fDict (cs : List (Str × Int)) (δ : DEnv) (S : Sto) : Option (D × Sto) := some (.loc S.length, S ++ [.dct (cKD cs)])
def fGet2 (f g h : FE) (δ : DEnv) (S : Sto) : Option (D × Sto) := (f δ S).bind fun p => match p.1 with
  | .loc i => match p.2[i]? with
    | some (.dct _) => (g δ p.2).bind fun q => (h δ q.2).bind fun r => match r.2[i]?, q.1 with
      | some (.dct kvs), .str s => some ((valD kvs (.inr s)).getD r.1, r.2)
      | _, _ => none
    | _ => none
  | _ => none
section
variable {X : Cx} {pos p : Pos} {o e : Expr} {te ta : TE} {f g h : FE}
theorem x_append {apos : Pos} (h : PD X o te (toE f)) (h2 : PD X e ta (toE g)) (hbase : attributeBase o "append" X.env (eval o X.env) = eval o X.env := by rfl)
    (hfew : ((backTo pos (starEach [e] X.env)).all (fun x => !x.1) && (backToKw pos (keywordEach [] X.env)).all (fun x => x.1.isSome) && decide (([e] : List Expr).length + ([] : List Keyword).length + (if ([] : List Keyword).isEmpty then 0 else 1) < 30)) = true := by rfl)
    (hline : (apos.endLine == pos.line) = true := by rfl) (hs : starEach [e] X.env = (false, eval e X.env) :: starEach [] X.env := by rfl) (hplain : (backTo pos (starEach [] X.env)).any (·.1) = false := by rfl) :
    PD X (.Call (.Attribute o "append" apos) [e] [] pos) (tBM X.K "list" rAppend te (tCons ta tNil)) (toE (fApp f g)) := (d_append h h2 hbase hfew hline hs hplain).imp (by
  rintro δ S Q ⟨p, h, q⟩
  simp only [fApp, Option.bind_eq_some_iff] at h
  obtain ⟨a, h1, h2⟩ := h
  refine ⟨a, h1, ?_⟩
  split at h2
  case h_2 => cases h2
  rename_i i ha
  split at h2
  case h_2 => cases h2
  rename_i ds hs
  simp only [Option.bind_eq_some_iff] at h2
  obtain ⟨b, h3, h4⟩ := h2
  refine ⟨i, ha, ⟨ds, hs⟩, b, h3, ?_⟩
  split at h4
  case h_2 => cases h4
  split at h4
  · rename_i h5 h6
    cases h4
    exact ⟨_, h5, h6, q⟩
  · cases h4)
theorem x_extend {apos : Pos} (h : PD X o te (toE f)) (h2 : PD X e ta (toE g)) (hbase : attributeBase o "extend" X.env (eval o X.env) = eval o X.env := by rfl)
    (hfew : ((backTo pos (starEach [e] X.env)).all (fun x => !x.1) && (backToKw pos (keywordEach [] X.env)).all (fun x => x.1.isSome) && decide (([e] : List Expr).length + ([] : List Keyword).length + (if ([] : List Keyword).isEmpty then 0 else 1) < 30)) = true := by rfl)
    (hline : (apos.endLine == pos.line) = true := by rfl) (hs : starEach [e] X.env = (false, eval e X.env) :: starEach [] X.env := by rfl) (hplain : (backTo pos (starEach [] X.env)).any (·.1) = false := by rfl) :
    PD X (.Call (.Attribute o "extend" apos) [e] [] pos) (tBM X.K "list" rExtend te (tCons ta tNil)) (toE (fExt f g)) := (d_extend h h2 hbase hfew hline hs hplain).imp (by
  rintro δ S Q ⟨p, h, q⟩
  simp only [fExt, Option.bind_eq_some_iff] at h
  obtain ⟨a, h1, h2⟩ := h
  refine ⟨a, h1, ?_⟩
  split at h2
  case h_2 => cases h2
  rename_i i ha
  split at h2
  case h_2 => cases h2
  rename_i ds hs
  simp only [Option.bind_eq_some_iff] at h2
  obtain ⟨b, h3, h4⟩ := h2
  refine ⟨i, ha, ⟨ds, hs⟩, b, h3, ?_⟩
  split at h4
  case h_2 => cases h4
  rename_i j hb
  split at h4
  case h_2 => cases h4
  split at h4
  · rename_i h5 h7 h6
    cases h4
    exact ⟨j, _, _, hb, h5, h7, h6, q⟩
  · cases h4)
theorem x_pop {apos : Pos} (h : PD X o te (toE f)) (hbase : attributeBase o "pop" X.env (eval o X.env) = eval o X.env := by rfl) (hline : (apos.endLine == pos.line) = true := by rfl) :
    PD X (.Call (.Attribute o "pop" apos) [] [] pos) (tBM0 X.K "list" rPop te) (toE (fPop f)) := (d_pop h hbase hline).imp (by
  rintro δ S Q ⟨p, h, q⟩
  simp only [fPop, Option.bind_eq_some_iff] at h
  obtain ⟨a, h1, h2⟩ := h
  refine ⟨a, h1, ?_⟩
  split at h2
  case h_2 => cases h2
  rename_i i ha
  split at h2
  case h_2 => cases h2
  rename_i ds hs
  simp only [Option.bind_eq_some_iff] at h2
  obtain ⟨b, h3, h4⟩ := h2
  cases h4
  exact ⟨i, ds, b, ha, hs, h3, q⟩)
theorem x_dict {keys : List (Option Expr)} {values : List Expr} (cs : List (Str × Int)) (h : PPs X pos keys values (cTr cs)) (hall : keys.all (·.isSome) = true) (hl : keys.length = values.length) (h0 : keys ≠ []) (h15 : keys.length ≤ 15) (hc : cs.length ≤ 15) (hm : mergeK [] (cKV cs) = cKV cs) :
    PD X (.Dict keys values pos) (tDisp (cTr cs)) (toE (fDict cs)) := (d_dict cs h hall hl h0 h15 hc hm).imp (by
  rintro δ S Q ⟨p, h, q⟩
  cases h
  exact q)
theorem x_get2 {ef eg eh : Expr} {td ty tx : TE} {apos : Pos} (hu : X.A.units + 1 < cLine) (ho : PD X ef td (toE f)) (he : PD X eg ty (toE g)) (hf : PD X eh tx (toE h)) (mm : M2 X ef "get" apos eg eh pos) :
    PD X (.Call (.Attribute ef "get" apos) [eg, eh] [] pos) (tDGet2 td ty tx) (toE (fGet2 f g h)) := (d_get2 hu ho he hf mm).imp (by
  rintro δ S Q ⟨p, h, q⟩
  simp only [fGet2, Option.bind_eq_some_iff] at h
  obtain ⟨a, h1, h2⟩ := h
  refine ⟨a, h1, ?_⟩
  split at h2
  case h_2 => cases h2
  rename_i i ha
  split at h2
  case h_2 => cases h2
  rename_i kvs hs
  simp only [Option.bind_eq_some_iff] at h2
  obtain ⟨b, h3, c, h4, h5⟩ := h2
  refine ⟨i, ha, ⟨kvs, hs⟩, b, h3, c, h4, ?_⟩
  split at h5
  case h_2 => cases h5
  rename_i e1 e2
  cases h5
  exact ⟨_, _, e1, e2, q⟩)
end
end DL

set_option Elab.async false
set_option linter.all false
set_option maxRecDepth 100000
set_option maxHeartbeats 1000000
namespace DL
open PySem L2 PyProof.Rows
/-! ### statements -/
def fsNext (δ : DEnv) (S : Sto) : Option (Fl × Sto) := some (.nx δ, S)
def fsSeq (f g : FS) (δ : DEnv) (S : Sto) : Option (Fl × Sto) := (f δ S).bind fun p => match p.1 with
  | .nx δ' => g δ' p.2
  | .rt d => some (.rt d, p.2)
  | .bk δ' => some (.bk δ', p.2)
  | .ct δ' => some (.ct δ', p.2)
def fsBreak (δ : DEnv) (S : Sto) : Option (Fl × Sto) := some (.bk δ, S)
def fsCont (δ : DEnv) (S : Sto) : Option (Fl × Sto) := some (.ct δ, S)
def fsDrop (f : FE) (δ : DEnv) (S : Sto) : Option (Fl × Sto) := (f δ S).bind fun p => some (.nx δ, p.2)
def fsRet (f : FE) (δ : DEnv) (S : Sto) : Option (Fl × Sto) := (f δ S).bind fun p => some (.rt p.1, p.2)
def fsIf (c : FT) (f g : FS) (δ : DEnv) (S : Sto) : Option (Fl × Sto) := (c δ S).bind fun p => if p.1 = true then f δ p.2 else g δ p.2
def fgName (i : Nat) (x : D) (δ : DEnv) (S : Sto) : Option (DEnv × Sto) := some (δ.set i (some x), S)
def fg2 (g h : FG) (x : D) (δ : DEnv) (S : Sto) : Option (DEnv × Sto) := match x with
  | .tup [d1, d2] => (g d1 δ S).bind fun p => h d2 p.1 p.2
  | _ => none
def fgSub (f g : FE) (x : D) (δ : DEnv) (S : Sto) : Option (DEnv × Sto) := (f δ S).bind fun p => (g δ p.2).bind fun q => match p.1, q.1 with
  | .loc l, .int k => match q.2[l]? with
    | some (.lst ds) => (ixN ds.length k).bind fun j => some (δ, q.2.set l (.lst (ds.set j x)))
    | _ => none
  | _, _ => none
def fsAsg (f : FE) (g : FG) (δ : DEnv) (S : Sto) : Option (Fl × Sto) := (f δ S).bind fun p => (g p.1 δ p.2).bind fun q => some (.nx q.1, q.2)
def fsPar (i j : Nat) (u : FA) (δ : DEnv) (S : Sto) : Option (Fl × Sto) := (u δ S).bind fun p => match p.1 with
  | [d1, d2] => some (.nx ((δ.set i (some d1)).set j (some d2)), p.2)
  | _ => none
def fsAugI (i : Nat) (h : Int → Int → Int) (f : FE) (δ : DEnv) (S : Sto) : Option (Fl × Sto) := match δ[i]? with
  | some (some (.int n)) => (asI (f δ S)).bind fun p => some (.nx (δ.set i (some (.int (h n p.1)))), p.2)
  | _ => none
section
variable {X : Cx} {st : Stmt} {rest a b : List Stmt} {ts us : TS} {t u : FS} {e : Expr} {te : TE} {f : FE} {pos : Pos}
theorem xs_nil : PSsD X [] tNext (toS fsNext) := s_nil.imp (by
  rintro Z δ S ⟨p, h, q⟩
  cases h
  exact q)
theorem xs_pass : PSD X (.Pass pos) tNext (toS fsNext) := s_pass.imp (by
  rintro Z δ S ⟨p, h, q⟩
  cases h
  exact q)
theorem xs_break : PSD X (.Break pos) tBreak (toS fsBreak) := s_break.imp (by
  rintro Z δ S ⟨p, h, q⟩
  cases h
  exact q)
theorem xs_continue : PSD X (.Continue pos) tCont (toS fsCont) := s_continue.imp (by
  rintro Z δ S ⟨p, h, q⟩
  cases h
  exact q)
theorem xs_cons (h1 : PSD X st ts (toS t)) (h2 : PSsD X rest us (toS u)) : PSsD X (st :: rest) (tSeq ts us) (toS (fsSeq t u)) := (s_cons h1 h2).imp (by
  rintro Z δ S ⟨p, h, q⟩
  simp only [fsSeq, Option.bind_eq_some_iff] at h
  obtain ⟨⟨r, S1⟩, h1, h2⟩ := h
  refine ⟨(r, S1), h1, ?_⟩
  cases r with
  | nx δ' => exact ⟨p, h2, q⟩
  | rt d => cases h2; exact q
  | bk δ' => cases h2; exact q
  | ct δ' => cases h2; exact q)
theorem xs_one (h1 : PSD X st ts (toS t)) : PSsD X [st] ts (toS t) := s_one h1
theorem xs_expr (h : PD X e te (toE f)) (hs : swapsWith e none pos.line X.env = pure false := by rfl) : PSD X (.Expr e pos) (tDrop te) (toS (fsDrop f)) := (s_expr h hs).imp (by
  rintro Z δ S ⟨p, h, q⟩
  simp only [fsDrop, Option.bind_eq_some_iff] at h
  obtain ⟨a, h1, h2⟩ := h
  cases h2
  exact ⟨a, h1, q⟩)
theorem xs_ret (h : PD X e te (toE f)) : PSD X (.Return (some e) pos) (tRet te) (toS (fsRet f)) := (s_ret h).imp (by
  rintro Z δ S ⟨p, h, q⟩
  simp only [fsRet, Option.bind_eq_some_iff] at h
  obtain ⟨a, h1, h2⟩ := h
  cases h2
  exact ⟨a, h1, q⟩)
theorem xs_if {c : Expr} {tc : TT} {k : FT} (hc : PTD X c tc (toT k)) (ha : PSsD X a ts (toS t)) (hb : PSsD X b us (toS u)) : PSD X (.If c a b pos) (tIfS tc ts us) (toS (fsIf k t u)) := (s_if hc ha hb).imp (by
  rintro Z δ S ⟨p, h, q⟩
  simp only [fsIf, Option.bind_eq_some_iff] at h
  obtain ⟨k, h1, h2⟩ := h
  refine ⟨k, h1, ?_⟩
  by_cases hk : k.1 = true
  · rw [if_pos hk] at h2 ⊢
    exact ⟨p, h2, q⟩
  · rw [if_neg hk] at h2 ⊢
    exact ⟨p, h2, q⟩)
theorem imp_gName {i : Nat} : ∀ x δ S Q, toG (fgName i) x δ S Q → gdName i x δ S Q := by
  rintro x δ S Q ⟨p, h, q⟩
  cases h
  exact q
theorem xg_name {i : Nat} {x : Str} (hN : X.N.Nodup) (hi : X.N[i]? = some x) (hx : Loc X.env.scope x) (hf : X.fn x = true ∨ X.env.scope.names.lookup x = some .local) : PGD X (.Name x pos) (gName i) (toG (fgName i)) := (g_name hN hi hx hf).imp imp_gName
theorem xg_two {e1 e2 : Expr} {k : Nat} {g h : TG} {g' h' : FG} (hc : X.calm = true) (h1 : PGD X e1 g (toG g')) (h2 : PGD X e2 h (toG h')) (hs1 : (assignEach [e1, e2] X.env).map (·.2) = assign e1 X.env :: (assignEach [e2] X.env).map (·.2) := by rfl)
    (hs2 : (assignEach [e2] X.env).map (·.2) = assign e2 X.env :: (assignEach [] X.env).map (·.2) := by rfl) (hn : (assignEach [e1, e2] X.env).length = 2 := by rfl) (hst : (assignEach [e1, e2] X.env).findIdx? (·.1) = none := by rfl) :
    PGD X (.Tuple [e1, e2] k pos) (gTup X.K 2 (gCons g (gCons h gNil))) (toG (fg2 g' h')) := (g_two hc h1 h2 hs1 hs2 hn hst).imp (by
  rintro x δ S Q ⟨p, h, q⟩
  unfold fg2 at h
  unfold gd2
  split at h
  · simp only [Option.bind_eq_some_iff] at h
    obtain ⟨a, h1, h2⟩ := h
    exact ⟨a, h1, p, h2, q⟩
  · cases h)
theorem xg_sub {o i : Expr} {to ti : TE} {d1 d2 : FE} (ho : PD X o to (toE d1)) (hi : PD X i ti (toE d2))
    (ha : ∀ v, assign (.Subscript o i pos) X.env v = (do
      let ov ← holding [v] (eval o X.env)
      let iv ← holding [v, ov] (eval i X.env)
      standAt pos
      holding [v, ov, iv] (setItem ov iv v)
      release [v, ov, iv] []) := by intro _; rfl) : PGD X (.Subscript o i pos) (gSub to ti rSetL) (toG (fgSub d1 d2)) := (g_sub ho hi ha).imp (by
  rintro x δ S Q ⟨p, h, q⟩
  simp only [fgSub, Option.bind_eq_some_iff] at h
  obtain ⟨a, h1, b, h2, h3⟩ := h
  refine ⟨a, h1, b, h2, ?_⟩
  split at h3
  case h_2 => cases h3
  rename_i l k ha hb
  split at h3
  case h_2 => cases h3
  rename_i ds hs
  simp only [Option.bind_eq_some_iff] at h3
  obtain ⟨j, h4, h5⟩ := h3
  cases h5
  exact ⟨l, k, ds, j, ha, hb, hs, h4, q⟩)
theorem imp_asg {g : FG} : ∀ Z δ S, toS (fsAsg f g) Z δ S → sAsg (toE f) (toG g) Z δ S := by
  rintro Z δ S ⟨p, h, q⟩
  simp only [fsAsg, Option.bind_eq_some_iff] at h
  obtain ⟨a, h1, b, h2, h3⟩ := h
  cases h3
  exact ⟨a, h1, b, h2, q⟩
theorem xs_asg {tg : Expr} {g : TG} {g' : FG} (he : PD X e te (toE f)) (hg : PGD X tg g (toG g')) (hs : swapsWithSole [tg] e pos.line X.env = pure false := by rfl) (hw : swappedStores [tg] e X.env = pure none := by rfl)
    (h1 : (assignEach [tg] X.env).map (·.2) = [assign tg X.env] := by rfl) : PSD X (.Assign [tg] e pos) (tAsg te g) (toS (fsAsg f g')) := (s_asg he hg hs hw h1).imp imp_asg
theorem imp_set {i : Nat} : ∀ Z δ S, toS (fsAsg f (fgName i)) Z δ S → sAsg (toE f) (gdName i) Z δ S := by
  rintro Z δ S ⟨p, h, q⟩
  simp only [fsAsg, Option.bind_eq_some_iff] at h
  obtain ⟨a, h1, b, h2, h3⟩ := h
  cases h2
  cases h3
  exact ⟨a, h1, q⟩
theorem xs_set {i : Nat} {x : Str} {pos' : Pos} (hN : X.N.Nodup) (hi : X.N[i]? = some x) (hx : Loc X.env.scope x) (hf : X.fn x = true ∨ X.env.scope.names.lookup x = some .local) (he : PD X e te (toE f)) (hs : swapsWith e (some (.Name x pos')) pos.line X.env = pure false := by rfl) :
    PSD X (.Assign [.Name x pos'] e pos) (tAsg te (gName i)) (toS (fsAsg f (fgName i))) := (s_set hN hi hx hf he hs).imp imp_set
theorem xs_par {i j : Nat} {x y : Str} {a b : Expr} {ta : TA} {u : FA} {px py pt : Pos} {kt k2 pt2} (hc : X.calm = true) (hN : X.N.Nodup) (hi : X.N[i]? = some x) (hj : X.N[j]? = some y) (hij : i ≠ j)
    (hx : X.env.scope.names.lookup x = some .local) (hy : X.env.scope.names.lookup y = some .local) (ha : PAD X [a, b] ta (toA u))
    (hw : swappedStores [.Tuple [.Name x px, .Name y py] kt pt] (.Tuple [a, b] k2 pt2) X.env = pure (some [x, y]) := by rfl)
    (hs : swapsWithSole [.Tuple [.Name x px, .Name y py] kt pt] (.Tuple [a, b] k2 pt2) pos.line X.env = pure false := by rfl) :
    PSD X (.Assign [.Tuple [.Name x px, .Name y py] kt pt] (.Tuple [a, b] k2 pt2) pos) (tPar i j ta) (toS (fsPar i j u)) := (s_par hc hN hi hj hij hx hy ha hw hs).imp (by
  rintro Z δ S ⟨p, h, q⟩
  simp only [fsPar, Option.bind_eq_some_iff] at h
  obtain ⟨a, h1, h2⟩ := h
  refine ⟨a, h1, ?_⟩
  split at h2
  · rename_i ha
    rw [ha]
    cases h2
    exact q
  · cases h2)
theorem xs_augI {i : Nat} {x : Str} {op : Operator} {h : Int → Int → Int} {pos' : Pos} (hN : X.N.Nodup) (hi : X.N[i]? = some x) (hx : Loc X.env.scope x) (hf : X.fn x = true ∨ X.env.scope.names.lookup x = some .local) (he : PD X e te (toE f)) (ho : PIp X op (ipI h)) :
    PSD X (.AugAssign (.Name x pos') op e pos) (tAug i te (ipI h)) (toS (fsAugI i h f)) := (s_augI hN hi hx hf he ho).imp (by
  rintro Z δ S ⟨p, h, q⟩
  unfold fsAugI at h
  split at h
  · rename_i n hn
    simp only [Option.bind_eq_some_iff] at h
    obtain ⟨k, h1, h2⟩ := h
    cases h2
    exact ⟨n, hn, _, asI_some h1, k.1, rfl, q⟩
  · cases h)
end
/-! ### what is walked -/
def fiAny (f : FE) (δ : DEnv) (S : Sto) : Option ((List D × Option (Nat × List D)) × Sto) := (f δ S).bind fun p => match p.1 with
  | .tup ds => some ((ds, none), p.2)
  | .str z => some ((signsD z, none), p.2)
  | .loc j => match p.2[j]? with
    | some (.lst ds) => some ((ds, some (j, ds)), p.2)
    | _ => none
  | _ => none
def fiRng1 (u : FA) (δ : DEnv) (S : Sto) : Option ((List D × Option (Nat × List D)) × Sto) := (u δ S).bind fun p => match p.1 with
  | [.int j] => if -1000000 ≤ j ∧ j ≤ 1000000 then some ((rangeD 0 j.toNat, none), p.2) else none
  | _ => none
def fiRng2 (u : FA) (δ : DEnv) (S : Sto) : Option ((List D × Option (Nat × List D)) × Sto) := (u δ S).bind fun p => match p.1 with
  | [.int i, .int j] => if (-1000000 ≤ i ∧ i ≤ 1000000) ∧ -1000000 ≤ j ∧ j ≤ 1000000 then some ((rangeD i (j - i).toNat, none), p.2) else none
  | _ => none
def fiEnum (u : FA) (δ : DEnv) (S : Sto) : Option ((List D × Option (Nat × List D)) × Sto) := (u δ S).bind fun p => match p.1 with
  | [.loc j] => match p.2[j]? with
    | some (.lst ds) => some ((enumD ds, some (j, ds)), p.2)
    | _ => none
  | _ => none
section
variable {X : Cx} {tg l : Expr} {te : TE} {f : FE} {pos p : Pos}
theorem stOk_none : stOk none = fun _ => True := by funext S; rfl
theorem stOk_some (j : Nat) (ds : List D) : stOk (some (j, ds)) = fun S => S[j]? = some (.lst ds) := by funext S; rfl
theorem xi_any (h : PD X l te (toE f)) : PID X tg l (iAny X.K te) (toI (fiAny f)) := (i_any h).imp (by
  rintro δ S R ⟨p, h, q⟩
  simp only [fiAny, Option.bind_eq_some_iff] at h
  obtain ⟨a, h1, h2⟩ := h
  refine ⟨a, h1, ?_⟩
  split at h2
  · rename_i ha
    rw [ha]
    cases h2
    rw [stOk_none] at q
    exact q
  · rename_i ha
    rw [ha]
    cases h2
    rw [stOk_none] at q
    exact q
  · rename_i ha
    rw [ha]
    split at h2
    · rename_i hs
      cases h2
      rw [stOk_some] at q
      exact ⟨_, hs, q⟩
    · cases h2
  · cases h2)
theorem xi_rng1 {a : Expr} {ta : TA} {u : FA} (hg : Gl X "range") (hm : X.mg "range" = none) (ha : PAD X [a] ta (toA u)) (hs : starEach [a] X.env = [(false, eval a X.env)] := by rfl) : PID X tg (.Call (.Name "range" p) [a] [] pos) (iRng1 ta) (toI (fiRng1 u)) := (i_rng1 hg hm ha hs).imp (by
  rintro δ S R ⟨p, h, q⟩
  simp only [fiRng1, Option.bind_eq_some_iff] at h
  obtain ⟨a, h1, h2⟩ := h
  refine ⟨a, h1, ?_⟩
  split at h2
  · rename_i ha
    split at h2
    · rename_i hh
      cases h2
      rw [stOk_none] at q
      exact ⟨_, ha, hh.1, hh.2, q⟩
    · cases h2
  · cases h2)
theorem xi_rng2 {a b : Expr} {ta : TA} {u : FA} (hg : Gl X "range") (hm : X.mg "range" = none) (ha : PAD X [a, b] ta (toA u)) (hs : starEach [a, b] X.env = [(false, eval a X.env), (false, eval b X.env)] := by rfl) (hs2 : starEach [b] X.env = [(false, eval b X.env)] := by rfl) :
    PID X tg (.Call (.Name "range" p) [a, b] [] pos) (iRng2 ta) (toI (fiRng2 u)) := (i_rng2 hg hm ha hs hs2).imp (by
  rintro δ S R ⟨p, h, q⟩
  simp only [fiRng2, Option.bind_eq_some_iff] at h
  obtain ⟨a, h1, h2⟩ := h
  refine ⟨a, h1, ?_⟩
  split at h2
  · rename_i ha
    rw [ha]
    split at h2
    · rename_i hh
      cases h2
      rw [stOk_none] at q
      exact ⟨hh.1.1, hh.1.2, hh.2.1, hh.2.2, q⟩
    · cases h2
  · cases h2)
theorem xi_enum {a : Expr} {ta : TA} {u : FA} {elts : List Expr} {kk : Nat} {tpos : Pos} (hg : Gl X "enumerate") (hm : X.mg "enumerate" = none) (ha : PAD X [a] ta (toA u)) (hs : starEach [a] X.env = [(false, eval a X.env)] := by rfl) :
    PID X (.Tuple elts kk tpos) (.Call (.Name "enumerate" p) [a] [] pos) (iEnum X.K ta) (toI (fiEnum u)) := (i_enum hg hm ha hs).imp (by
  rintro δ S R ⟨p, h, q⟩
  simp only [fiEnum, Option.bind_eq_some_iff] at h
  obtain ⟨a, h1, h2⟩ := h
  refine ⟨a, h1, ?_⟩
  split at h2
  · rename_i ha
    split at h2
    · rename_i hs
      cases h2
      rw [stOk_some] at q
      exact ⟨_, _, ha, hs, q⟩
    · cases h2
  · cases h2)
end
/-! ### loops -/
open Classical in
noncomputable def forF (st : Option (Nat × List D)) (g : FG) (b : FS) : List D → FS
  | [], δ, S => if stOk st S then some (.nx δ, S) else none
  | x :: xs, δ, S => if stOk st S then (g x δ S).bind fun p => (b p.1 p.2).bind fun r => match r.1 with
      | .nx δ' => forF st g b xs δ' r.2
      | .ct δ' => forF st g b xs δ' r.2
      | .bk δ' => some (.nx δ', r.2)
      | .rt d => some (.rt d, r.2)
    else none
noncomputable def fsFor (i : FI) (g : FG) (b : FS) (δ : DEnv) (S : Sto) : Option (Fl × Sto) := (i δ S).bind fun p => forF p.1.2 g b p.1.1 δ p.2
def whileF (c : FT) (b : FS) : Nat → FS
  | 0, _, _ => none
  | n + 1, δ, S => (c δ S).bind fun p => if p.1 = true then (b δ p.2).bind fun r => match r.1 with
      | .nx δ' => whileF c b n δ' r.2
      | .ct δ' => whileF c b n δ' r.2
      | .bk δ' => some (.nx δ', r.2)
      | .rt d => some (.rt d, r.2)
    else some (.nx δ, p.2)
def fuelW : Nat := 1000000
def fsWhile (c : FT) (b : FS) : FS := whileF c b fuelW
open Classical in
noncomputable def lcF (st : Option (Nat × List D)) (i l : Nat) (t : FT) (e : FE) : List D → DEnv → Sto → Option (D × Sto)
  | [], _, S => if stOk st S then some (.loc l, S) else none
  | x :: xs, δ, S => if stOk st S then (t (δ.set i (some x)) S).bind fun p => if p.1 = true then (e (δ.set i (some x)) p.2).bind fun y => match y.2[l]? with
        | some (.lst acc) => if acc.length < 100000 then lcF st i l t e xs δ (y.2.set l (.lst (acc ++ [y.1]))) else none
        | _ => none
      else lcF st i l t e xs δ p.2
    else none
def fYes (δ : DEnv) (S : Sto) : Option (Bool × Sto) := some (true, S)
noncomputable def fLc (di : FI) (i : Nat) (t : FT) (e : FE) (δ : DEnv) (S : Sto) : Option (D × Sto) := (di δ S).bind fun p => lcF p.1.2 i p.2.length t e p.1.1 (δ.set i none) (p.2 ++ [.lst []])
theorem imp_forF {st : Option (Nat × List D)} {g : FG} {b : FS} : ∀ (xs : List D) Z δ S p, forF st g b xs δ S = some p → Z.fin p.1 p.2 → forL (stOk st) (toG g) (toS b) xs Z δ S
  | [], Z, δ, S, p, h, q => by
    unfold forF at h
    split at h
    · cases h
      exact ⟨by assumption, q⟩
    · cases h
  | x :: xs, Z, δ, S, p, h, q => by
    unfold forF at h
    split at h
    case isFalse => cases h
    rename_i hst
    simp only [Option.bind_eq_some_iff] at h
    obtain ⟨a, h1, ⟨r, S1⟩, h2, h3⟩ := h
    refine ⟨hst, a, h1, (r, S1), h2, ?_⟩
    cases r with
    | nx δ' => exact imp_forF xs Z δ' S1 p h3 q
    | ct δ' => exact imp_forF xs Z δ' S1 p h3 q
    | bk δ' => cases h3; exact q
    | rt d => cases h3; exact q
theorem imp_whileF {c : FT} {b : FS} : ∀ (n : Nat) Z δ S p, whileF c b n δ S = some p → Z.fin p.1 p.2 → whileL (toT c) (toS b) n Z δ S
  | 0, _, _, _, _, h, _ => by cases h
  | n + 1, Z, δ, S, p, h, q => by
    unfold whileF at h
    simp only [Option.bind_eq_some_iff] at h
    obtain ⟨a, h1, h2⟩ := h
    refine ⟨a, h1, ?_⟩
    by_cases hk : a.1 = true
    · rw [if_pos hk] at h2 ⊢
      simp only [Option.bind_eq_some_iff] at h2
      obtain ⟨⟨r, S1⟩, h3, h4⟩ := h2
      refine ⟨(r, S1), h3, ?_⟩
      cases r with
      | nx δ' => exact imp_whileF n Z δ' S1 p h4 q
      | ct δ' => exact imp_whileF n Z δ' S1 p h4 q
      | bk δ' => cases h4; exact q
      | rt d => cases h4; exact q
    · rw [if_neg hk] at h2 ⊢
      cases h2
      exact q
theorem imp_lcF {st : Option (Nat × List D)} {i l : Nat} {t : FT} {e : FE} : ∀ (xs : List D) δ S p (Q : DK), lcF st i l t e xs δ S = some p → Q p.1 p.2 → lcL (stOk st) i l (toT t) (toE e) xs δ S Q
  | [], δ, S, p, Q, h, q => by
    unfold lcF at h
    split at h
    · cases h
      exact ⟨by assumption, q⟩
    · cases h
  | x :: xs, δ, S, p, Q, h, q => by
    unfold lcF at h
    split at h
    case isFalse => cases h
    rename_i hst
    simp only [Option.bind_eq_some_iff] at h
    obtain ⟨a, h1, h2⟩ := h
    refine ⟨hst, a, h1, ?_⟩
    by_cases hk : a.1 = true
    · rw [if_pos hk] at h2 ⊢
      simp only [Option.bind_eq_some_iff] at h2
      obtain ⟨y, h3, h4⟩ := h2
      refine ⟨y, h3, ?_⟩
      split at h4
      case h_2 => cases h4
      rename_i acc hacc
      split at h4
      case isFalse => cases h4
      rename_i hl
      exact ⟨acc, hacc, hl, imp_lcF xs δ _ p Q h4 q⟩
    · rw [if_neg hk] at h2 ⊢
      exact imp_lcF xs δ _ p Q h2 q
section
variable {X : Cx} {elt tg iter : Expr} {ifs : List Expr} {scope : Scope} {y x : Str} {i j : Nat} {pos spos px py : Pos} {wi : TI} {di : FI} {tt : TT} {t : FT} {te : TE} {f : FE}
theorem xs_for {body : List Stmt} {g : TG} {g' : FG} {tb : TS} {b : FS} (hp : PassesOwn (model X.prog X.w) X.A X.env X.xe) (hc : X.calm = true) (hi : PID X tg iter wi (toI di)) (hg : PGD X tg g (toG g')) (hb : PSsD X body tb (toS b))
    (hs : ∀ x, foldedSetIterable iter X.env x = pure x := by intro _; rfl) : PSD X (.For tg iter body [] pos) (tFor wi g tb) (toS (fsFor di g' b)) := (s_for hp hc hi hg hb hs).imp (by
  rintro Z δ S ⟨p, h, q⟩
  simp only [fsFor, Option.bind_eq_some_iff] at h
  obtain ⟨a, h1, h2⟩ := h
  exact ⟨a, h1, imp_forF _ Z δ _ p h2 q⟩)
theorem xs_while {c : Expr} {body : List Stmt} {tb : TS} {b : FS} (hp : PassesOwn (model X.prog X.w) X.A X.env X.xe) (hc : PTD X c tt (toT t)) (hb : PSsD X body tb (toS b)) : PSD X (.While c body [] pos) (tWhile tt tb) (toS (fsWhile t b)) := (s_while hp hc hb).imp (by
  rintro Z δ S ⟨p, h, q⟩
  exact ⟨fuelW, imp_whileF fuelW Z δ S p h q⟩)
theorem xts_nil : PTsD X [] tYes (toT fYes) := dts_nil.imp (by
  rintro δ S Q ⟨p, h, q⟩
  cases h
  exact q)
theorem xts_one {c : Expr} (h : PTD X c tt (toT t)) : PTsD X [c] tt (toT t) := dts_one h
theorem imp_lc : ∀ δ S Q, toE (fLc di i t f) δ S Q → dLc (toI di) i (toT t) (toE f) δ S Q := by
  rintro δ S Q ⟨p, h, q⟩
  simp only [fLc, Option.bind_eq_some_iff] at h
  obtain ⟨a, h1, h2⟩ := h
  exact ⟨a, h1, imp_lcF _ _ _ p Q h2 q⟩
theorem x_lc (hc : X.calm = true) (hN : X.N.Nodup) (hi : PID X (.Name x px) iter wi (toI di)) (ok : BlkOk X.N X.env.scope scope [(x, i)])
    (hg : ∀ (s : Shared) (H : Hp) (C : Addr) (cl : List (Str × Addr)) (fp : List Addr), PG (X.blk s H scope (compEnvC scope cl C X.env) fp) (.Name x px) (gName i))
    (ht : ∀ (s : Shared) (H : Hp) (C : Addr) (cl : List (Str × Addr)) (fp : List Addr), PTsD (X.blk s H scope (compEnvC scope cl C X.env) fp) ifs tt (toT t))
    (he : ∀ (s : Shared) (H : Hp) (C : Addr) (cl : List (Str × Addr)) (fp : List Addr), PD (X.blk s H scope (compEnvC scope cl C X.env) fp) elt te (toE f)) (hs : ∀ x, foldedSetIterable iter X.env x = pure x := by intro _; rfl) (s0 : Shared) :
    PD X (.ListComp elt [⟨.Name x px, iter, ifs, 0⟩] scope pos) (tLc wi (gName i) tt te [i]) (toE (fLc di i t f)) := (d_lc hc hN hi ok hg ht he hs s0).imp imp_lc
theorem xs_setLc (hc : X.calm = true) (hN : X.N.Nodup) (hy : X.N[j]? = some y) (hyl : X.env.scope.names.lookup y = some .local) (hsw : swapsWith (.ListComp elt [⟨.Name x px, iter, ifs, 0⟩] scope pos) (some (.Name y py)) spos.line X.env = pure true)
    (hi : PID X (.Name x px) iter wi (toI di)) (ok : BlkOk X.N X.env.scope scope [(x, i)])
    (hg : ∀ (s : Shared) (H : Hp) (C : Addr) (cl : List (Str × Addr)) (fp : List Addr), PG (X.blk s H scope (compEnvC scope cl C X.env) fp) (.Name x px) (gName i))
    (ht : ∀ (s : Shared) (H : Hp) (C : Addr) (cl : List (Str × Addr)) (fp : List Addr), PTsD (X.blk s H scope (compEnvC scope cl C X.env) fp) ifs tt (toT t))
    (he : ∀ (s : Shared) (H : Hp) (C : Addr) (cl : List (Str × Addr)) (fp : List Addr), PD (X.blk s H scope (compEnvC scope cl C X.env) fp) elt te (toE f)) (hs : ∀ x, foldedSetIterable iter X.env x = pure x := by intro _; rfl) (s0 : Shared) :
    PSD X (.Assign [.Name y py] (.ListComp elt [⟨.Name x px, iter, ifs, 0⟩] scope pos) spos) (tAsg (tLc wi (gName i) tt te [i]) (gName j)) (toS (fsAsg (fLc di i t f) (fgName j))) := (s_setLc hc hN hy hyl hsw hi ok hg ht he hs s0).imp (by
  rintro Z δ S ⟨p, h, q⟩
  simp only [fsAsg, Option.bind_eq_some_iff] at h
  obtain ⟨a, h1, b, h2, h3⟩ := h
  cases h2
  cases h3
  exact imp_lc δ S _ ⟨a, h1, q⟩)
end
/-! ### a def -/
def retF : Option (Fl × Sto) → Option (D × Sto)
  | some (.rt d, S) => some (d, S)
  | some (.nx _, S) => some (.non, S)
  | _ => none
@[simp] theorem retF_rt (d : D) (S : Sto) : retF (some (.rt d, S)) = some (d, S) := rfl
@[simp] theorem retF_nx (δ : DEnv) (S : Sto) : retF (some (.nx δ, S)) = some (.non, S) := rfl
@[simp] theorem retF_none : retF none = none := rfl
def fDef (n N : Nat) (b : FS) (ds : List D) (S : Sto) : Option (D × Sto) := if ds.length = n then retF (b (startD N ds) S) else none
theorem fDef_eq {n N : Nat} {b : FS} {ds : List D} {S : Sto} (h : ds.length = n) : fDef n N b ds S = retF (b (startD N ds) S) := if_pos h
theorem imp_def {n N : Nat} {b : FS} : ∀ ds S Q, toC (fDef n N b) ds S Q → toS b { nx := fun _ S' => Q .non S', rt := Q } (startD N ds) S := by
  rintro ds S Q ⟨p, h, q⟩
  unfold fDef at h
  split at h
  case isFalse => cases h
  unfold retF at h
  split at h
  · rename_i d S1 hb
    cases h
    exact ⟨_, hb, q⟩
  · rename_i d S1 hb
    cases h
    exact ⟨_, hb, q⟩
  · cases h
theorem len_def {n N : Nat} {b : FS} : ∀ ds S Q, toC (fDef n N b) ds S Q → ds.length = n := by
  rintro ds S Q ⟨p, h, q⟩
  unfold fDef at h
  split at h
  · assumption
  · cases h
theorem defF {P : Program} {w : World} {K : PySem.W.Frag} {mg : Str → Option Value} {base : Heap} {k n M : Nat} {x qual : Str} {st : Stmt} {f : Addr} {fd : FuncData} {ps N : List Str} {b : FS}
    (F : Fun K x qual st f fd) (S : FnScope N ps (defScope st)) (hm : mg x = some (.ref f)) (hb : Binds K fd ps []) (hn : ps.length = n) (hM : N.length = M)
    (hb0 : ∀ (cdv : Value) (A : Around) (outer : List Env) (s : Shared) (H : Hp) (E : XK),
      (cxD P w K mg base N qual st f cdv A outer s H E).A.guards = some [] → Room k (cxD P w K mg base N qual st f cdv A outer s H E).A →
      ∃ ts, PSsD (cxD P w K mg base N qual st f cdv A outer s H E) (defBody st) ts (toS b)) :
    DefD P w K mg base (k + 1) x n (toC (fDef n M b)) := by
  subst hM
  exact defD F S hm hb hn len_def fun cdv A outer s H E hg hr =>
    let ⟨ts, h⟩ := hb0 cdv A outer s H E hg hr
    ⟨ts, _, h, fun ds S Q hc => imp_def ds S Q hc⟩
theorem fnF {P : Program} {w : World} {K : PySem.W.Frag} {mg : Str → Option Value} {base : Heap} {k n M : Nat} {x qual : Str} {st : Stmt} {f : Addr} {fd : FuncData} {ps N : List Str} {b : FS}
    (F : Fun K x qual st f fd) (S : FnScope N ps (defScope st)) (hn : ps.length = n) (hM : N.length = M)
    (hb0 : ∀ (cdv : Value) (A : Around) (outer : List Env) (s : Shared) (H : Hp) (E : XK),
      (cxD P w K mg base N qual st f cdv A outer s H E).A.guards = some [] → Room k (cxD P w K mg base N qual st f cdv A outer s H E).A →
      ∃ ts, PSsD (cxD P w K mg base N qual st f cdv A outer s H E) (defBody st) ts (toS b)) :
    FnG P w K mg base CX0 (k + 1) f fd ps (toSp K (toC (fDef n M b))) := by
  subst hM
  exact fnD F S hn len_def fun cdv A outer s H E hg hr =>
    let ⟨ts, h⟩ := hb0 cdv A outer s H E hg hr
    ⟨ts, _, h, fun ds S Q hc => imp_def ds S Q hc⟩
/-- a def that is never called -/
theorem defF_none {P : Program} {w : World} {K : PySem.W.Frag} {mg : Str → Option Value} {base : Heap} {x qual : Str} {st : Stmt} {f : Addr} {fd : FuncData} {ps : List Str} (F : Fun K x qual st f fd) (hm : mg x = some (.ref f)) (hb : Binds K fd ps []) (k : Nat) :
    DefD P w K mg base k x ps.length (toC fun _ _ => none) := (DefD.never F hm hb k).imp (by
  rintro ds S Q ⟨p, h, q⟩
  cases h)
end DL

set_option Elab.async false
set_option linter.all false
set_option maxRecDepth 100000
set_option maxHeartbeats 1000000
namespace DL
open PySem L2 PyProof.Rows
/-! ### more of Python -/
theorem bt_max : bootBuiltins "max" = some (.builtin "max") := by decide +kernel
theorem bt_min : bootBuiltins "min" = some (.builtin "min") := by decide +kernel
def bMax (xs : List D) (S : Sto) : Option (D × Sto) := match xs with
  | [.int i, .int j] => some (.int (if j > i then j else i), S)
  | _ => none
def bMin (xs : List D) (S : Sto) : Option (D × Sto) := match xs with
  | [.int i, .int j] => some (.int (if j < i then j else i), S)
  | _ => none
def fNewD (δ : DEnv) (S : Sto) : Option (D × Sto) := some (.loc S.length, S ++ [.dct []])
def fJoin (f g : FE) (δ : DEnv) (S : Sto) : Option (D × Sto) := (f δ S).bind fun p => (g δ p.2).bind fun q => match p.1, q.1 with
  | .str a, .loc i => match q.2[i]? with
    | some (.lst ds) => (asStrs ds).bind fun ys => if (ys.map (·.length)).sum + ys.length * a.length ≤ 16777216 then some (.str (Txt.join a ys), q.2) else none
    | _ => none
  | _, _ => none
section
variable {X : Cx} {pos p : Pos} {o e : Expr} {te ta : TE} {f g h : FE} {x : Str}
def vMax : List V → Hp → VK → Prop := fun xs H Q => ∃ i j, xs = [.int i, .int j] ∧ Q (.int (if j > i then j else i)) H
def vMin : List V → Hp → VK → Prop := fun xs H Q => ∃ i j, xs = [.int i, .int j] ∧ Q (.int (if j < i then j else i)) H
theorem xb_max (hc : X.calm = true) : CallD X (.builtin "max") vMax (toB bMax) := ⟨call_max2 hc, fun H m S xs vs Q Q' R rx ⟨p, h, q⟩ c => by
  unfold bMax at h
  split at h
  · cases h
    cases rx with
    | cons r1 r2 =>
      cases r2 with
      | cons r2 r3 =>
        cases r3
        cases r1
        cases r2
        exact ⟨_, _, rfl, c.same R q (.int _)⟩
  · cases h⟩
theorem xb_min (hc : X.calm = true) : CallD X (.builtin "min") vMin (toB bMin) := ⟨call_min2 hc, fun H m S xs vs Q Q' R rx ⟨p, h, q⟩ c => by
  unfold bMin at h
  split at h
  · cases h
    cases rx with
    | cons r1 r2 =>
      cases r2 with
      | cons r2 r3 =>
        cases r3
        cases r1
        cases r2
        exact ⟨_, _, rfl, c.same R q (.int _)⟩
  · cases h⟩
theorem x_newD : PD X (.Dict [] [] pos) tDNewK (toE fNewD) := ⟨pe_dnewK, fun σ H m S δ Q Q' R ev ⟨p, h, q⟩ c a ha => by
  cases h
  exact c _ _ _ _ (m ++ [a]) q (.new ha) ⟨[a], rfl⟩ (R.pushK (kws := []) (kvs := []) ha rfl .nil) (.loc (by rw [← R.len, List.getElem?_append_right (Nat.le_refl _), Nat.sub_self]; rfl))⟩
/-- f() -/
theorem pe_callG0 {CX : CXT} {k : Nat} {f : Addr} {fd : FuncData} {ps : List Str} {sp : Sp} {dvs : List V} {ds : List Value} {E : XK} (F : FnG X.prog X.w X.K X.mg X.base CX k f fd ps sp) (hgd : X.A.guards = some []) (hr : Room k X.A) (hg : Gl X x)
    (hm : X.mg x = some (.ref f)) (hk : PySem.W.keepIn X.K (.ref f) = true) (hb : Binds X.K fd ps ds) (hd : Vals dvs ds) (hx : Passes CX X E) (hdb : (x == ("__debug__" : Str)) = false := by decide) :
    PE X (.Call (.Name x p) [] [] pos) (tCall sp dvs E tNil) := by
  refine ⟨fun pins s σ H Q I h => ?_⟩
  refine wpAny_Call_Name_kw (ld_glob I hg hm ?_ hdb)
  exact PySem.W.callWith_K0 I.kIn hk (run_fnG (us := []) F hgd hr hb hd hx I .nil h)
def fCall0 (c : Fn) (δ : DEnv) (S : Sto) : Option (D × Sto) := c [] S
theorem x_call0 {k n : Nat} {c : Fn} (F : DefD X.prog X.w X.K X.mg X.base k x n (toC c)) (hgd : X.A.guards = some []) (hr : Room k X.A) (hg : Gl X x) (hdb : (x == ("__debug__" : Str)) = false := by decide) :
    PD X (.Call (.Name x p) [] [] pos) (tCall (toSp X.K (toC c)) [] E0 tNil) (toE (fCall0 c)) := by
  obtain ⟨f, fd, ps, h1, h2, h3, h4, h5⟩ := F.ex
  exact ⟨pe_callG0 h2 hgd hr hg h3 h4 h5 .nil pass0 hdb, fun σ H m S δ Q Q' R e q c' => ⟨m, S, [], Q', R, .nil, q, c'⟩⟩
def vJoin (K : PySem.W.Frag) : V → List V → Hp → VK → Prop := fun x xs H Q => ∃ a p, ∃ ys : List Str, x = .str a ∧ xs = [.ref p] ∧ (SqL K H p (ys.map V.str) ∨ SqT K H p (ys.map V.str)) ∧ (ys.map (·.length)).sum + ys.length * a.length ≤ 16777216 ∧ Q (.str (Txt.join a ys)) H
theorem x_join {apos : Pos} (h : PD X o te (toE f)) (h2 : PD X e ta (toE g)) (hbase : attributeBase o "join" X.env (eval o X.env) = eval o X.env := by rfl)
    (hfew : ((backTo pos (starEach [e] X.env)).all (fun x => !x.1) && (backToKw pos (keywordEach [] X.env)).all (fun x => x.1.isSome) && decide (([e] : List Expr).length + ([] : List Keyword).length + (if ([] : List Keyword).isEmpty then 0 else 1) < 30)) = true := by rfl)
    (hline : (apos.endLine == pos.line) = true := by rfl) (hs : starEach [e] X.env = (false, eval e X.env) :: starEach [] X.env := by rfl) (hplain : (backTo pos (starEach [] X.env)).any (·.1) = false := by rfl) :
    PD X (.Call (.Attribute o "join" apos) [e] [] pos) (tBM X.K "str" (vJoin X.K) te (tCons ta tNil)) (toE (fJoin f g)) := ⟨pe_bm PySem.F.plainAttrs_str PySem.F.slot_str_join PySem.F.type_str_join mt_join h.pe (pa_cons h2.pe pa_nil hs) hbase hfew hline hs hplain, fun σ H m S δ Q Q' R ev ⟨p, hp, q⟩ c => by
  simp only [fJoin, Option.bind_eq_some_iff] at hp
  obtain ⟨a, e1, b, e2, e3⟩ := hp
  refine h.sim σ H m S δ _ (fun d S' => (d, S') = a) R ev ⟨a, e1, rfl⟩ ?_
  rintro d S1 v H1 m1 rfl k1 g1 R1 r1
  split at e3
  case h_2 => cases e3
  rename_i z i ha hb
  have ha : d = .str z := ha
  subst ha
  cases r1
  refine ⟨rfl, h2.sim σ H1 m1 S1 δ _ (fun d S' => (d, S') = b) R1 (ev.mono k1 g1) ⟨b, e2, rfl⟩ ?_⟩
  rintro d2 S2 v2 H2 m2 rfl k2 g2 R2 r2
  have hb : d2 = .loc i := hb
  subst hb
  split at e3
  case h_2 => cases e3
  rename_i ds hs
  simp only [Option.bind_eq_some_iff] at e3
  obtain ⟨ys, e4, e5⟩ := e3
  split at e5
  case isFalse => cases e5
  rename_i hz
  cases e5
  obtain ⟨a2, vs2, rfl, em2, hH2, d2⟩ := R2.lst r2 hs
  have := strs_vs d2 e4
  subst this
  exact ⟨z, a2, ys, rfl, rfl, .inl (SqL.of hH2), hz, (c.mono (k1.trans k2) (g1.trans g2)).same R2 q (.str _)⟩⟩
end
end DL

set_option Elab.async false
set_option linter.all false
set_option maxRecDepth 100000
set_option maxHeartbeats 1000000
namespace DL
open PySem L2 PyProof.Rows
abbrev OSt := Option (Nat × List D)
abbrev OIn := Option Int
/-! ### how the readings are worked out: nothing behind a step is looked at before the step is done -/
@[simp] theorem fVar_ev {i : Nat} {δ : DEnv} {S : Sto} {d : D} (h : δ[i]? = some (some d)) : fVar i δ S = some (d, S) := by unfold fVar; rw [h]; rfl
@[simp] theorem fC_ev {d : D} {δ : DEnv} {S : Sto} : fC d δ S = some (d, S) := rfl
@[simp] theorem fNil_ev {δ : DEnv} {S : Sto} : fNil δ S = some ([], S) := rfl
def consK2 (x : D) : Option (List D × Sto) → Option (List D × Sto)
  | some (xs, S) => some (x :: xs, S)
  | none => none
@[simp] theorem consK2_1 {x : D} {S : Sto} {xs : List D} : consK2 x (some (xs, S)) = (some (x :: xs, S)) := rfl
@[simp] theorem consK2_2 {x : D} : consK2 x none = (none) := rfl
def consK (g : FA) (δ : DEnv) : Option (D × Sto) → Option (List D × Sto)
  | some (x, S) => consK2 x (g δ S)
  | none => none
@[simp] theorem consK_1 {g : FA} {δ : DEnv} {S : Sto} {x : D} : consK g δ (some (x, S)) = (consK2 x (g δ S)) := rfl
@[simp] theorem consK_2 {g : FA} {δ : DEnv} : consK g δ none = (none) := rfl
@[simp] theorem fCons_ev {f : FE} {g : FA} {δ : DEnv} {S : Sto} : fCons f g δ S = consK g δ (f δ S) := by
  unfold fCons
  cases f δ S with
  | none => rfl
  | some p => obtain ⟨x, S1⟩ := p; show (g δ S1).bind _ = consK2 x (g δ S1); cases g δ S1 <;> rfl
def tupK : Option (List D × Sto) → Option (D × Sto)
  | some (xs, S) => if xs.length ≤ 100000 then some (.tup xs, S) else none
  | none => none
@[simp] theorem tupK_1 {S : Sto} {xs : List D} : tupK  (some (xs, S)) = (if xs.length ≤ 100000 then some (.tup xs, S) else none) := rfl
@[simp] theorem tupK_2 : tupK  none = (none) := rfl
@[simp] theorem fTup_ev {g : FA} {δ : DEnv} {S : Sto} : fTup g δ S = tupK (g δ S) := by unfold fTup; cases g δ S <;> rfl
def lstK : Option (List D × Sto) → Option (D × Sto)
  | some (xs, S) => if xs.length ≤ 100000 then some (.loc S.length, S ++ [.lst xs]) else none
  | none => none
@[simp] theorem lstK_1 {S : Sto} {xs : List D} : lstK  (some (xs, S)) = (if xs.length ≤ 100000 then some (.loc S.length, S ++ [.lst xs]) else none) := rfl
@[simp] theorem lstK_2 : lstK  none = (none) := rfl
@[simp] theorem fLst_ev {g : FA} {δ : DEnv} {S : Sto} : fLst g δ S = lstK (g δ S) := by unfold fLst; cases g δ S <;> rfl
def opK2 (o : FOp) (x : D) : Option (D × Sto) → Option (D × Sto)
  | some (y, S) => o x y S
  | none => none
@[simp] theorem opK2_1 {o : FOp} {x : D} {S : Sto} {y : D} : opK2 o x (some (y, S)) = (o x y S) := rfl
@[simp] theorem opK2_2 {o : FOp} {x : D} : opK2 o x none = (none) := rfl
def opK (o : FOp) (g : FE) (δ : DEnv) : Option (D × Sto) → Option (D × Sto)
  | some (x, S) => opK2 o x (g δ S)
  | none => none
@[simp] theorem opK_1 {o : FOp} {g : FE} {δ : DEnv} {S : Sto} {x : D} : opK o g δ (some (x, S)) = (opK2 o x (g δ S)) := rfl
@[simp] theorem opK_2 {o : FOp} {g : FE} {δ : DEnv} : opK o g δ none = (none) := rfl
@[simp] theorem fOp_ev {o : FOp} {f g : FE} {δ : DEnv} {S : Sto} : fOp o f g δ S = opK o g δ (f δ S) := by
  unfold fOp
  cases f δ S with
  | none => rfl
  | some p => obtain ⟨x, S1⟩ := p; show (g δ S1).bind _ = opK2 o x (g δ S1); cases g δ S1 <;> rfl
@[simp] theorem fTest_ev {f : FE} {δ : DEnv} {S : Sto} : fTest f δ S = asB (f δ S) := rfl
def chK3 (o2 : FOp) (h : FE) (δ : DEnv) (y : D) : Option (Bool × Sto) → Option (D × Sto)
  | some (b, S) => if b = true then opK2 o2 y (h δ S) else some (.bl false, S)
  | none => none
@[simp] theorem chK3_1 {o2 : FOp} {h : FE} {δ : DEnv} {y : D} {S : Sto} {b : Bool} : chK3 o2 h δ y (some (b, S)) = (if b = true then opK2 o2 y (h δ S) else some (.bl false, S)) := rfl
@[simp] theorem chK3_2 {o2 : FOp} {h : FE} {δ : DEnv} {y : D} : chK3 o2 h δ y none = (none) := rfl
def chK2 (o o2 : FOp) (h : FE) (δ : DEnv) (x : D) : Option (D × Sto) → Option (D × Sto)
  | some (y, S) => chK3 o2 h δ y (asB (o x y S))
  | none => none
@[simp] theorem chK2_1 {o o2 : FOp} {h : FE} {δ : DEnv} {x : D} {S : Sto} {y : D} : chK2 o o2 h δ x (some (y, S)) = (chK3 o2 h δ y (asB (o x y S))) := rfl
@[simp] theorem chK2_2 {o o2 : FOp} {h : FE} {δ : DEnv} {x : D} : chK2 o o2 h δ x none = (none) := rfl
def chK (o o2 : FOp) (g h : FE) (δ : DEnv) : Option (D × Sto) → Option (D × Sto)
  | some (x, S) => chK2 o o2 h δ x (g δ S)
  | none => none
@[simp] theorem chK_1 {o o2 : FOp} {g h : FE} {δ : DEnv} {S : Sto} {x : D} : chK o o2 g h δ (some (x, S)) = (chK2 o o2 h δ x (g δ S)) := rfl
@[simp] theorem chK_2 {o o2 : FOp} {g h : FE} {δ : DEnv} : chK o o2 g h δ none = (none) := rfl
@[simp] theorem fChain_ev {o o2 : FOp} {f g h : FE} {δ : DEnv} {S : Sto} : fChain o o2 f g h δ S = chK o o2 g h δ (f δ S) := by
  unfold fChain
  cases f δ S with
  | none => rfl
  | some p =>
    obtain ⟨x, S1⟩ := p
    show (g δ S1).bind _ = chK2 o o2 h δ x (g δ S1)
    cases g δ S1 with
    | none => rfl
    | some q =>
      obtain ⟨y, S2⟩ := q
      show (asB (o x y S2)).bind _ = chK3 o2 h δ y (asB (o x y S2))
      cases asB (o x y S2) with
      | none => rfl
      | some r =>
        obtain ⟨b, S3⟩ := r
        show (if b = true then (h δ S3).bind _ else _) = if b = true then opK2 o2 y (h δ S3) else _
        cases h δ S3 <;> rfl
def andK (g : FT) (δ : DEnv) : Option (Bool × Sto) → Option (Bool × Sto)
  | some (b, S) => if b = true then g δ S else some (false, S)
  | none => none
@[simp] theorem andK_1 {g : FT} {δ : DEnv} {S : Sto} {b : Bool} : andK g δ (some (b, S)) = (if b = true then g δ S else some (false, S)) := rfl
@[simp] theorem andK_2 {g : FT} {δ : DEnv} : andK g δ none = (none) := rfl
@[simp] theorem fAnd_ev {f g : FT} {δ : DEnv} {S : Sto} : fAnd f g δ S = andK g δ (f δ S) := by unfold fAnd; cases f δ S <;> rfl
def orK (g : FT) (δ : DEnv) : Option (Bool × Sto) → Option (Bool × Sto)
  | some (b, S) => if b = true then some (true, S) else g δ S
  | none => none
@[simp] theorem orK_1 {g : FT} {δ : DEnv} {S : Sto} {b : Bool} : orK g δ (some (b, S)) = (if b = true then some (true, S) else g δ S) := rfl
@[simp] theorem orK_2 {g : FT} {δ : DEnv} : orK g δ none = (none) := rfl
@[simp] theorem fOr_ev {f g : FT} {δ : DEnv} {S : Sto} : fOr f g δ S = orK g δ (f δ S) := by unfold fOr; cases f δ S <;> rfl
def notK : Option (Bool × Sto) → Option (Bool × Sto)
  | some (b, S) => some (!b, S)
  | none => none
@[simp] theorem notK_1 {S : Sto} {b : Bool} : notK  (some (b, S)) = (some (!b, S)) := rfl
@[simp] theorem notK_2 : notK  none = (none) := rfl
@[simp] theorem fNot_ev {f : FT} {δ : DEnv} {S : Sto} : fNot f δ S = notK (f δ S) := by unfold fNot; cases f δ S <;> rfl
def andVK (g : FE) (δ : DEnv) : Option (Bool × Sto) → Option (D × Sto)
  | some (b, S) => if b = true then g δ S else some (.bl false, S)
  | none => none
@[simp] theorem andVK_1 {g : FE} {δ : DEnv} {S : Sto} {b : Bool} : andVK g δ (some (b, S)) = (if b = true then g δ S else some (.bl false, S)) := rfl
@[simp] theorem andVK_2 {g : FE} {δ : DEnv} : andVK g δ none = (none) := rfl
@[simp] theorem fAndV_ev {f g : FE} {δ : DEnv} {S : Sto} : fAndV f g δ S = andVK g δ (asB (f δ S)) := by unfold fAndV; cases asB (f δ S) <;> rfl
def orVK (g : FE) (δ : DEnv) : Option (Bool × Sto) → Option (D × Sto)
  | some (b, S) => if b = true then some (.bl true, S) else g δ S
  | none => none
@[simp] theorem orVK_1 {g : FE} {δ : DEnv} {S : Sto} {b : Bool} : orVK g δ (some (b, S)) = (if b = true then some (.bl true, S) else g δ S) := rfl
@[simp] theorem orVK_2 {g : FE} {δ : DEnv} : orVK g δ none = (none) := rfl
@[simp] theorem fOrV_ev {f g : FE} {δ : DEnv} {S : Sto} : fOrV f g δ S = orVK g δ (asB (f δ S)) := by unfold fOrV; cases asB (f δ S) <;> rfl
def notVK : Option (Bool × Sto) → Option (D × Sto)
  | some (b, S) => some (.bl (!b), S)
  | none => none
@[simp] theorem notVK_1 {S : Sto} {b : Bool} : notVK  (some (b, S)) = (some (.bl (!b), S)) := rfl
@[simp] theorem notVK_2 : notVK  none = (none) := rfl
@[simp] theorem fNotV_ev {f : FE} {δ : DEnv} {S : Sto} : fNotV f δ S = notVK (asB (f δ S)) := by unfold fNotV; cases asB (f δ S) <;> rfl
def ifEK (f g : FE) (δ : DEnv) : Option (Bool × Sto) → Option (D × Sto)
  | some (b, S) => if b = true then f δ S else g δ S
  | none => none
@[simp] theorem ifEK_1 {f g : FE} {δ : DEnv} {S : Sto} {b : Bool} : ifEK f g δ (some (b, S)) = (if b = true then f δ S else g δ S) := rfl
@[simp] theorem ifEK_2 {f g : FE} {δ : DEnv} : ifEK f g δ none = (none) := rfl
@[simp] theorem fIfE_ev {c : FT} {f g : FE} {δ : DEnv} {S : Sto} : fIfE c f g δ S = ifEK f g δ (c δ S) := by unfold fIfE; cases c δ S <;> rfl
def negK : Option (Int × Sto) → Option (D × Sto)
  | some (i, S) => some (.int (-i), S)
  | none => none
@[simp] theorem negK_1 {S : Sto} {i : Int} : negK  (some (i, S)) = (some (.int (-i), S)) := rfl
@[simp] theorem negK_2 : negK  none = (none) := rfl
@[simp] theorem fNeg_ev {f : FE} {δ : DEnv} {S : Sto} : fNeg f δ S = negK (asI (f δ S)) := by unfold fNeg; cases asI (f δ S) <;> rfl
@[simp] theorem fNoPart_ev {δ : DEnv} {S : Sto} : fNoPart δ S = some (none, S) := rfl
def partK : Option (Int × Sto) → Option (Option Int × Sto)
  | some (i, S) => some (some i, S)
  | none => none
@[simp] theorem partK_1 {S : Sto} {i : Int} : partK  (some (i, S)) = (some (some i, S)) := rfl
@[simp] theorem partK_2 : partK  none = (none) := rfl
@[simp] theorem fPart_ev {f : FE} {δ : DEnv} {S : Sto} : fPart f δ S = partK (asI (f δ S)) := by unfold fPart; cases asI (f δ S) <;> rfl
def slK3 (x : D) (lo : OIn) : Option (Option Int × Sto) → Option (D × Sto)
  | some (hi, S) => oSl x lo hi S
  | none => none
@[simp] theorem slK3_1 {x : D} {lo : OIn} {S : Sto} {hi : Option Int} : slK3 x lo (some (hi, S)) = (oSl x lo hi S) := rfl
@[simp] theorem slK3_2 {x : D} {lo : OIn} : slK3 x lo none = (none) := rfl
def slK2 (u : FO) (δ : DEnv) (x : D) : Option (Option Int × Sto) → Option (D × Sto)
  | some (lo, S) => slK3 x lo (u δ S)
  | none => none
@[simp] theorem slK2_1 {u : FO} {δ : DEnv} {x : D} {S : Sto} {lo : Option Int} : slK2 u δ x (some (lo, S)) = (slK3 x lo (u δ S)) := rfl
@[simp] theorem slK2_2 {u : FO} {δ : DEnv} {x : D} : slK2 u δ x none = (none) := rfl
def slK (l u : FO) (δ : DEnv) : Option (D × Sto) → Option (D × Sto)
  | some (x, S) => slK2 u δ x (l δ S)
  | none => none
@[simp] theorem slK_1 {l u : FO} {δ : DEnv} {S : Sto} {x : D} : slK l u δ (some (x, S)) = (slK2 u δ x (l δ S)) := rfl
@[simp] theorem slK_2 {l u : FO} {δ : DEnv} : slK l u δ none = (none) := rfl
@[simp] theorem fSl_ev {f : FE} {l u : FO} {δ : DEnv} {S : Sto} : fSl f l u δ S = slK l u δ (f δ S) := by
  unfold fSl
  cases f δ S with
  | none => rfl
  | some p =>
    obtain ⟨x, S1⟩ := p
    show (l δ S1).bind _ = slK2 u δ x (l δ S1)
    cases l δ S1 with
    | none => rfl
    | some q =>
      obtain ⟨y, S2⟩ := q
      show (u δ S2).bind _ = slK3 x y (u δ S2)
      cases u δ S2 <;> rfl
def revK : Option (D × Sto) → Option (D × Sto)
  | some (.loc i, S) => match S[i]? with
    | some (.lst ds) => some (.loc S.length, S ++ [.lst ds.reverse])
    | _ => none
  | _ => none
@[simp] theorem revK_1 {S : Sto} {i : Nat} : revK  (some (.loc i, S)) = (match S[i]? with
    | some (.lst ds) => some (.loc S.length, S ++ [.lst ds.reverse])
    | _ => none) := rfl
@[simp] theorem revK_2 : revK  none = (none) := rfl
@[simp] theorem fRevL_ev {f : FE} {δ : DEnv} {S : Sto} : fRevL f δ S = revK (f δ S) := by
  unfold fRevL
  cases f δ S with
  | none => rfl
  | some p => obtain ⟨x, S1⟩ := p; cases x <;> rfl
def cbK (b : FB) : Option (List D × Sto) → Option (D × Sto)
  | some (xs, S) => b xs S
  | none => none
@[simp] theorem cbK_1 {b : FB} {S : Sto} {xs : List D} : cbK b (some (xs, S)) = (b xs S) := rfl
@[simp] theorem cbK_2 {b : FB} : cbK b none = (none) := rfl
@[simp] theorem fCB_ev {b : FB} {g : FA} {δ : DEnv} {S : Sto} : fCB b g δ S = cbK b (g δ S) := by unfold fCB; cases g δ S <;> rfl
@[simp] theorem fCall_ev {c : Fn} {g : FA} {δ : DEnv} {S : Sto} : fCall c g δ S = cbK c (g δ S) := by unfold fCall; cases g δ S <;> rfl
@[simp] theorem fCall0_ev {c : Fn} {δ : DEnv} {S : Sto} : fCall0 c δ S = c [] S := rfl
def isiK (T : String) : Option (D × Sto) → Option (D × Sto)
  | some (d, S) => (kitB (tyD S d) T).map fun b => (.bl b, S)
  | none => none
@[simp] theorem isiK_1 {T : String} {S : Sto} {d : D} : isiK T (some (d, S)) = ((kitB (tyD S d) T).map fun b => (.bl b, S)) := rfl
@[simp] theorem isiK_2 {T : String} : isiK T none = (none) := rfl
@[simp] theorem fIsi_ev {T : String} {f : FE} {δ : DEnv} {S : Sto} : fIsi T f δ S = isiK T (f δ S) := by
  unfold fIsi
  cases f δ S with
  | none => rfl
  | some p => obtain ⟨x, S1⟩ := p; show (kitB (tyD S1 x) T).bind _ = (kitB (tyD S1 x) T).map _; cases kitB (tyD S1 x) T <;> rfl
def appK2 (i : Nat) : Option (D × Sto) → Option (D × Sto)
  | some (y, S) => match S[i]? with
    | some (.lst ds) => if ds.length < 100000 then some (.non, S.set i (.lst (ds ++ [y]))) else none
    | _ => none
  | none => none
@[simp] theorem appK2_1 {i : Nat} {S : Sto} {y : D} : appK2 i (some (y, S)) = (match S[i]? with
    | some (.lst ds) => if ds.length < 100000 then some (.non, S.set i (.lst (ds ++ [y]))) else none
    | _ => none) := rfl
@[simp] theorem appK2_2 {i : Nat} : appK2 i none = (none) := rfl
def appK (g : FE) (δ : DEnv) : Option (D × Sto) → Option (D × Sto)
  | some (.loc i, S) => match S[i]? with
    | some (.lst _) => appK2 i (g δ S)
    | _ => none
  | _ => none
@[simp] theorem appK_1 {g : FE} {δ : DEnv} {S : Sto} {i : Nat} : appK g δ (some (.loc i, S)) = (match S[i]? with
    | some (.lst _) => appK2 i (g δ S)
    | _ => none) := rfl
@[simp] theorem appK_2 {g : FE} {δ : DEnv} : appK g δ none = (none) := rfl
@[simp] theorem fApp_ev {f g : FE} {δ : DEnv} {S : Sto} : fApp f g δ S = appK g δ (f δ S) := by
  unfold fApp
  cases f δ S with
  | none => rfl
  | some p =>
    obtain ⟨x, S1⟩ := p
    cases x with
    | loc i =>
      show (match S1[i]? with | some (.lst _) => (g δ S1).bind _ | _ => none) = match S1[i]? with | some (.lst _) => appK2 i (g δ S1) | _ => none
      cases g δ S1 <;> rfl
    | _ => rfl
def extK2 (i : Nat) : Option (D × Sto) → Option (D × Sto)
  | some (.loc j, S) => match S[i]?, S[j]? with
    | some (.lst ds), some (.lst es) => if ds.length + es.length ≤ 100000 then some (.non, S.set i (.lst (ds ++ es))) else none
    | _, _ => none
  | _ => none
@[simp] theorem extK2_1 {i : Nat} {S : Sto} {j : Nat} : extK2 i (some (.loc j, S)) = (match S[i]?, S[j]? with
    | some (.lst ds), some (.lst es) => if ds.length + es.length ≤ 100000 then some (.non, S.set i (.lst (ds ++ es))) else none
    | _, _ => none) := rfl
@[simp] theorem extK2_2 {i : Nat} : extK2 i none = (none) := rfl
def extK (g : FE) (δ : DEnv) : Option (D × Sto) → Option (D × Sto)
  | some (.loc i, S) => match S[i]? with
    | some (.lst _) => extK2 i (g δ S)
    | _ => none
  | _ => none
@[simp] theorem extK_1 {g : FE} {δ : DEnv} {S : Sto} {i : Nat} : extK g δ (some (.loc i, S)) = (match S[i]? with
    | some (.lst _) => extK2 i (g δ S)
    | _ => none) := rfl
@[simp] theorem extK_2 {g : FE} {δ : DEnv} : extK g δ none = (none) := rfl
@[simp] theorem fExt_ev {f g : FE} {δ : DEnv} {S : Sto} : fExt f g δ S = extK g δ (f δ S) := by
  unfold fExt
  cases f δ S with
  | none => rfl
  | some p =>
    obtain ⟨x, S1⟩ := p
    cases x with
    | loc i =>
      show (match S1[i]? with | some (.lst _) => (g δ S1).bind _ | _ => none) = match S1[i]? with | some (.lst _) => extK2 i (g δ S1) | _ => none
      cases g δ S1 with
      | none => rfl
      | some q => obtain ⟨y, S2⟩ := q; cases y <;> rfl
    | _ => rfl
def popK : Option (D × Sto) → Option (D × Sto)
  | some (.loc i, S) => match S[i]? with
    | some (.lst ds) => (ds[ds.length - 1]?).map fun d => (d, S.set i (.lst ds.dropLast))
    | _ => none
  | _ => none
@[simp] theorem popK_1 {S : Sto} {i : Nat} : popK  (some (.loc i, S)) = (match S[i]? with
    | some (.lst ds) => (ds[ds.length - 1]?).map fun d => (d, S.set i (.lst ds.dropLast))
    | _ => none) := rfl
@[simp] theorem popK_2 : popK  none = (none) := rfl
@[simp] theorem fPop_ev {f : FE} {δ : DEnv} {S : Sto} : fPop f δ S = popK (f δ S) := by
  unfold fPop
  cases f δ S with
  | none => rfl
  | some p =>
    obtain ⟨x, S1⟩ := p
    cases x with
    | loc i =>
      show (match S1[i]? with | some (.lst ds) => (ds[ds.length - 1]?).bind _ | _ => none) = match S1[i]? with | some (.lst ds) => (ds[ds.length - 1]?).map _ | _ => none
      split
      · rename_i ds _
        cases ds[ds.length - 1]? <;> rfl
      · rfl
    | _ => rfl
@[simp] theorem fDict_ev {cs : List (Str × Int)} {δ : DEnv} {S : Sto} : fDict cs δ S = some (.loc S.length, S ++ [.dct (cKD cs)]) := rfl
@[simp] theorem fNewD_ev {δ : DEnv} {S : Sto} : fNewD δ S = some (.loc S.length, S ++ [.dct []]) := rfl
def getK3 (i : Nat) (y : D) : Option (D × Sto) → Option (D × Sto)
  | some (z, S) => match S[i]?, y with
    | some (.dct kvs), .str s => some ((valD kvs (.inr s)).getD z, S)
    | _, _ => none
  | none => none
@[simp] theorem getK3_1 {i : Nat} {y : D} {S : Sto} {z : D} : getK3 i y (some (z, S)) = (match S[i]?, y with
    | some (.dct kvs), .str s => some ((valD kvs (.inr s)).getD z, S)
    | _, _ => none) := rfl
@[simp] theorem getK3_2 {i : Nat} {y : D} : getK3 i y none = (none) := rfl
def getK2 (h : FE) (δ : DEnv) (i : Nat) : Option (D × Sto) → Option (D × Sto)
  | some (y, S) => getK3 i y (h δ S)
  | none => none
@[simp] theorem getK2_1 {h : FE} {δ : DEnv} {i : Nat} {S : Sto} {y : D} : getK2 h δ i (some (y, S)) = (getK3 i y (h δ S)) := rfl
@[simp] theorem getK2_2 {h : FE} {δ : DEnv} {i : Nat} : getK2 h δ i none = (none) := rfl
def getK (g h : FE) (δ : DEnv) : Option (D × Sto) → Option (D × Sto)
  | some (.loc i, S) => match S[i]? with
    | some (.dct _) => getK2 h δ i (g δ S)
    | _ => none
  | _ => none
@[simp] theorem getK_1 {g h : FE} {δ : DEnv} {S : Sto} {i : Nat} : getK g h δ (some (.loc i, S)) = (match S[i]? with
    | some (.dct _) => getK2 h δ i (g δ S)
    | _ => none) := rfl
@[simp] theorem getK_2 {g h : FE} {δ : DEnv} : getK g h δ none = (none) := rfl
@[simp] theorem fGet2_ev {f g h : FE} {δ : DEnv} {S : Sto} : fGet2 f g h δ S = getK g h δ (f δ S) := by
  unfold fGet2
  cases f δ S with
  | none => rfl
  | some p =>
    obtain ⟨x, S1⟩ := p
    cases x with
    | loc i =>
      show (match S1[i]? with | some (.dct _) => (g δ S1).bind _ | _ => none) = match S1[i]? with | some (.dct _) => getK2 h δ i (g δ S1) | _ => none
      cases g δ S1 with
      | none => rfl
      | some q =>
        obtain ⟨y, S2⟩ := q
        show (match S1[i]? with | some (.dct _) => (h δ S2).bind _ | _ => none) = match S1[i]? with | some (.dct _) => getK3 i y (h δ S2) | _ => none
        cases h δ S2 <;> rfl
    | _ => rfl
def joinK2 (x : D) : Option (D × Sto) → Option (D × Sto)
  | some (y, S) => match x, y with
    | .str a, .loc i => match S[i]? with
      | some (.lst ds) => (asStrs ds).bind fun ys => if (ys.map (·.length)).sum + ys.length * a.length ≤ 16777216 then some (.str (Txt.join a ys), S) else none
      | _ => none
    | _, _ => none
  | none => none
@[simp] theorem joinK2_1 {x : D} {S : Sto} {y : D} : joinK2 x (some (y, S)) = (match x, y with
    | .str a, .loc i => match S[i]? with
      | some (.lst ds) => (asStrs ds).bind fun ys => if (ys.map (·.length)).sum + ys.length * a.length ≤ 16777216 then some (.str (Txt.join a ys), S) else none
      | _ => none
    | _, _ => none) := rfl
@[simp] theorem joinK2_2 {x : D} : joinK2 x none = (none) := rfl
def joinK (g : FE) (δ : DEnv) : Option (D × Sto) → Option (D × Sto)
  | some (x, S) => joinK2 x (g δ S)
  | none => none
@[simp] theorem joinK_1 {g : FE} {δ : DEnv} {S : Sto} {x : D} : joinK g δ (some (x, S)) = (joinK2 x (g δ S)) := rfl
@[simp] theorem joinK_2 {g : FE} {δ : DEnv} : joinK g δ none = (none) := rfl
@[simp] theorem fJoin_ev {f g : FE} {δ : DEnv} {S : Sto} : fJoin f g δ S = joinK g δ (f δ S) := by
  unfold fJoin
  cases f δ S with
  | none => rfl
  | some p => obtain ⟨x, S1⟩ := p; show (g δ S1).bind _ = joinK2 x (g δ S1); cases g δ S1 <;> rfl
/-! statements -/
@[simp] theorem fsNext_ev {δ : DEnv} {S : Sto} : fsNext δ S = some (.nx δ, S) := rfl
@[simp] theorem fsBreak_ev {δ : DEnv} {S : Sto} : fsBreak δ S = some (.bk δ, S) := rfl
@[simp] theorem fsCont_ev {δ : DEnv} {S : Sto} : fsCont δ S = some (.ct δ, S) := rfl
def seqK (g : FS) : Option (Fl × Sto) → Option (Fl × Sto)
  | some (.nx δ, S) => g δ S
  | some (.rt d, S) => some (.rt d, S)
  | some (.bk δ, S) => some (.bk δ, S)
  | some (.ct δ, S) => some (.ct δ, S)
  | none => none
@[simp] theorem seqK_1 {g : FS} {S : Sto} {δ : DEnv} : seqK g (some (.nx δ, S)) = (g δ S) := rfl
@[simp] theorem seqK_2 {g : FS} {S : Sto} {d : D} : seqK g (some (.rt d, S)) = (some (.rt d, S)) := rfl
@[simp] theorem seqK_3 {g : FS} {S : Sto} {δ : DEnv} : seqK g (some (.bk δ, S)) = (some (.bk δ, S)) := rfl
@[simp] theorem seqK_4 {g : FS} {S : Sto} {δ : DEnv} : seqK g (some (.ct δ, S)) = (some (.ct δ, S)) := rfl
@[simp] theorem seqK_5 {g : FS} : seqK g none = (none) := rfl
@[simp] theorem fsSeq_ev {f g : FS} {δ : DEnv} {S : Sto} : fsSeq f g δ S = seqK g (f δ S) := by
  unfold fsSeq
  cases f δ S with
  | none => rfl
  | some p => obtain ⟨x, S1⟩ := p; cases x <;> rfl
def dropK (δ : DEnv) : Option (D × Sto) → Option (Fl × Sto)
  | some (_, S) => some (.nx δ, S)
  | none => none
@[simp] theorem dropK_1 {δ : DEnv} {S : Sto} {d : D} : dropK δ (some (d, S)) = (some (.nx δ, S)) := rfl
@[simp] theorem dropK_2 {δ : DEnv} : dropK δ none = (none) := rfl
@[simp] theorem fsDrop_ev {f : FE} {δ : DEnv} {S : Sto} : fsDrop f δ S = dropK δ (f δ S) := by unfold fsDrop; cases f δ S <;> rfl
def retK : Option (D × Sto) → Option (Fl × Sto)
  | some (d, S) => some (.rt d, S)
  | none => none
@[simp] theorem retK_1 {S : Sto} {d : D} : retK  (some (d, S)) = (some (.rt d, S)) := rfl
@[simp] theorem retK_2 : retK  none = (none) := rfl
@[simp] theorem fsRet_ev {f : FE} {δ : DEnv} {S : Sto} : fsRet f δ S = retK (f δ S) := by unfold fsRet; cases f δ S <;> rfl
def ifK (f g : FS) (δ : DEnv) : Option (Bool × Sto) → Option (Fl × Sto)
  | some (b, S) => if b = true then f δ S else g δ S
  | none => none
@[simp] theorem ifK_1 {f g : FS} {δ : DEnv} {S : Sto} {b : Bool} : ifK f g δ (some (b, S)) = (if b = true then f δ S else g δ S) := rfl
@[simp] theorem ifK_2 {f g : FS} {δ : DEnv} : ifK f g δ none = (none) := rfl
@[simp] theorem fsIf_ev {c : FT} {f g : FS} {δ : DEnv} {S : Sto} : fsIf c f g δ S = ifK f g δ (c δ S) := by unfold fsIf; cases c δ S <;> rfl
@[simp] theorem fgName_ev {i : Nat} {x : D} {δ : DEnv} {S : Sto} : fgName i x δ S = some (δ.set i (some x), S) := rfl
def g2K (h : FG) (d : D) : Option (DEnv × Sto) → Option (DEnv × Sto)
  | some (δ, S) => h d δ S
  | none => none
@[simp] theorem g2K_1 {h : FG} {d : D} {S : Sto} {δ : DEnv} : g2K h d (some (δ, S)) = (h d δ S) := rfl
@[simp] theorem g2K_2 {h : FG} {d : D} : g2K h d none = (none) := rfl
@[simp] theorem fg2_ev {g h : FG} {d1 d2 : D} {δ : DEnv} {S : Sto} : fg2 g h (.tup [d1, d2]) δ S = g2K h d2 (g d1 δ S) := by
  unfold fg2
  show (g d1 δ S).bind _ = _
  cases g d1 δ S <;> rfl
def subK2 (δ : DEnv) (x o : D) : Option (D × Sto) → Option (DEnv × Sto)
  | some (k, S) => match o, k with
    | .loc l, .int k => match S[l]? with
      | some (.lst ds) => (ixN ds.length k).bind fun j => some (δ, S.set l (.lst (ds.set j x)))
      | _ => none
    | _, _ => none
  | none => none
@[simp] theorem subK2_1 {δ : DEnv} {x o : D} {S : Sto} {k : D} : subK2 δ x o (some (k, S)) = (match o, k with
    | .loc l, .int k => match S[l]? with
      | some (.lst ds) => (ixN ds.length k).bind fun j => some (δ, S.set l (.lst (ds.set j x)))
      | _ => none
    | _, _ => none) := rfl
@[simp] theorem subK2_2 {δ : DEnv} {x o : D} : subK2 δ x o none = (none) := rfl
def subK (g : FE) (δ : DEnv) (x : D) : Option (D × Sto) → Option (DEnv × Sto)
  | some (o, S) => subK2 δ x o (g δ S)
  | none => none
@[simp] theorem subK_1 {g : FE} {δ : DEnv} {x : D} {S : Sto} {o : D} : subK g δ x (some (o, S)) = (subK2 δ x o (g δ S)) := rfl
@[simp] theorem subK_2 {g : FE} {δ : DEnv} {x : D} : subK g δ x none = (none) := rfl
@[simp] theorem fgSub_ev {f g : FE} {x : D} {δ : DEnv} {S : Sto} : fgSub f g x δ S = subK g δ x (f δ S) := by
  unfold fgSub
  cases f δ S with
  | none => rfl
  | some p =>
    obtain ⟨o, S1⟩ := p
    show (g δ S1).bind _ = subK2 δ x o (g δ S1)
    cases g δ S1 with
    | none => rfl
    | some q =>
      obtain ⟨k, S2⟩ := q
      rfl
def asgK2 : Option (DEnv × Sto) → Option (Fl × Sto)
  | some (δ, S) => some (.nx δ, S)
  | none => none
@[simp] theorem asgK2_1 {S : Sto} {δ : DEnv} : asgK2  (some (δ, S)) = (some (.nx δ, S)) := rfl
@[simp] theorem asgK2_2 : asgK2  none = (none) := rfl
def asgK (g : FG) (δ : DEnv) : Option (D × Sto) → Option (Fl × Sto)
  | some (x, S) => asgK2 (g x δ S)
  | none => none
@[simp] theorem asgK_1 {g : FG} {δ : DEnv} {S : Sto} {x : D} : asgK g δ (some (x, S)) = (asgK2 (g x δ S)) := rfl
@[simp] theorem asgK_2 {g : FG} {δ : DEnv} : asgK g δ none = (none) := rfl
@[simp] theorem fsAsg_ev {f : FE} {g : FG} {δ : DEnv} {S : Sto} : fsAsg f g δ S = asgK g δ (f δ S) := by
  unfold fsAsg
  cases f δ S with
  | none => rfl
  | some p => obtain ⟨x, S1⟩ := p; show (g x δ S1).bind _ = asgK2 (g x δ S1); cases g x δ S1 <;> rfl
def parK (i j : Nat) (δ : DEnv) : Option (List D × Sto) → Option (Fl × Sto)
  | some ([d1, d2], S) => some (.nx ((δ.set i (some d1)).set j (some d2)), S)
  | _ => none
@[simp] theorem parK_1 {i j : Nat} {δ : DEnv} {S : Sto} {d1 : D} {d2 : D} : parK i j δ (some ([d1, d2], S)) = (some (.nx ((δ.set i (some d1)).set j (some d2)), S)) := rfl
@[simp] theorem parK_2 {i j : Nat} {δ : DEnv} : parK i j δ none = (none) := rfl
@[simp] theorem fsPar_ev {i j : Nat} {u : FA} {δ : DEnv} {S : Sto} : fsPar i j u δ S = parK i j δ (u δ S) := by
  unfold fsPar parK
  cases u δ S with
  | none => rfl
  | some p =>
    obtain ⟨x, S1⟩ := p
    show (match x with | [d1, d2] => _ | _ => none) = _
    split
    · rfl
    · split
      · rename_i h _ _ _ _ e
        cases e
        exact absurd rfl (h _ _)
      · rfl
def augK (i : Nat) (h : Int → Int → Int) (δ : DEnv) (n : Int) : Option (Int × Sto) → Option (Fl × Sto)
  | some (k, S) => some (.nx (δ.set i (some (.int (h n k)))), S)
  | none => none
@[simp] theorem augK_1 {i : Nat} {h : Int → Int → Int} {δ : DEnv} {n : Int} {S : Sto} {k : Int} : augK i h δ n (some (k, S)) = (some (.nx (δ.set i (some (.int (h n k)))), S)) := rfl
@[simp] theorem augK_2 {i : Nat} {h : Int → Int → Int} {δ : DEnv} {n : Int} : augK i h δ n none = (none) := rfl
@[simp] theorem fsAugI_ev {i : Nat} {h : Int → Int → Int} {f : FE} {δ : DEnv} {S : Sto} {n : Int} (e : δ[i]? = some (some (.int n))) : fsAugI i h f δ S = augK i h δ n (asI (f δ S)) := by
  unfold fsAugI
  rw [e]
  show (asI (f δ S)).bind _ = _
  cases asI (f δ S) <;> rfl
/-! what is walked -/
def iAnyK : Option (D × Sto) → Option ((List D × Option (Nat × List D)) × Sto)
  | some (.tup ds, S) => some ((ds, none), S)
  | some (.str z, S) => some ((signsD z, none), S)
  | some (.loc j, S) => match S[j]? with
    | some (.lst ds) => some ((ds, some (j, ds)), S)
    | _ => none
  | _ => none
@[simp] theorem iAnyK_1 {S : Sto} {ds : List D} : iAnyK  (some (.tup ds, S)) = (some ((ds, none), S)) := rfl
@[simp] theorem iAnyK_2 {S : Sto} {z : Str} : iAnyK  (some (.str z, S)) = (some ((signsD z, none), S)) := rfl
@[simp] theorem iAnyK_3 {S : Sto} {j : Nat} : iAnyK  (some (.loc j, S)) = (match S[j]? with
    | some (.lst ds) => some ((ds, some (j, ds)), S)
    | _ => none) := rfl
@[simp] theorem iAnyK_4 : iAnyK  none = (none) := rfl
@[simp] theorem fiAny_ev {f : FE} {δ : DEnv} {S : Sto} : fiAny f δ S = iAnyK (f δ S) := by
  unfold fiAny
  cases f δ S with
  | none => rfl
  | some p => obtain ⟨x, S1⟩ := p; cases x <;> rfl
def rng1K : Option (List D × Sto) → Option ((List D × Option (Nat × List D)) × Sto)
  | some ([.int j], S) => if -1000000 ≤ j ∧ j ≤ 1000000 then some ((rangeD 0 j.toNat, none), S) else none
  | _ => none
@[simp] theorem rng1K_1 {S : Sto} {j : Int} : rng1K  (some ([.int j], S)) = (if -1000000 ≤ j ∧ j ≤ 1000000 then some ((rangeD 0 j.toNat, none), S) else none) := rfl
@[simp] theorem rng1K_2 : rng1K  none = (none) := rfl
@[simp] theorem fiRng1_ev {u : FA} {δ : DEnv} {S : Sto} : fiRng1 u δ S = rng1K (u δ S) := by
  unfold fiRng1 rng1K
  cases u δ S with
  | none => rfl
  | some p =>
    obtain ⟨x, S1⟩ := p
    show (match x with | [.int j] => _ | _ => none) = _
    split
    · rfl
    · split
      · rename_i h _ _ _ e
        cases e
        exact absurd rfl (h _)
      · rfl
def rng2K : Option (List D × Sto) → Option ((List D × Option (Nat × List D)) × Sto)
  | some ([.int i, .int j], S) => if (-1000000 ≤ i ∧ i ≤ 1000000) ∧ -1000000 ≤ j ∧ j ≤ 1000000 then some ((rangeD i (j - i).toNat, none), S) else none
  | _ => none
@[simp] theorem rng2K_1 {S : Sto} {i : Int} {j : Int} : rng2K  (some ([.int i, .int j], S)) = (if (-1000000 ≤ i ∧ i ≤ 1000000) ∧ -1000000 ≤ j ∧ j ≤ 1000000 then some ((rangeD i (j - i).toNat, none), S) else none) := rfl
@[simp] theorem rng2K_2 : rng2K  none = (none) := rfl
@[simp] theorem fiRng2_ev {u : FA} {δ : DEnv} {S : Sto} : fiRng2 u δ S = rng2K (u δ S) := by
  unfold fiRng2 rng2K
  cases u δ S with
  | none => rfl
  | some p =>
    obtain ⟨x, S1⟩ := p
    show (match x with | [.int i, .int j] => _ | _ => none) = _
    split
    · rfl
    · split
      · rename_i h _ _ _ _ e
        cases e
        exact absurd rfl (h _ _)
      · rfl
def enumK : Option (List D × Sto) → Option ((List D × Option (Nat × List D)) × Sto)
  | some ([.loc j], S) => match S[j]? with
    | some (.lst ds) => some ((enumD ds, some (j, ds)), S)
    | _ => none
  | _ => none
@[simp] theorem enumK_1 {S : Sto} {j : Nat} : enumK  (some ([.loc j], S)) = (match S[j]? with
    | some (.lst ds) => some ((enumD ds, some (j, ds)), S)
    | _ => none) := rfl
@[simp] theorem enumK_2 : enumK  none = (none) := rfl
@[simp] theorem fiEnum_ev {u : FA} {δ : DEnv} {S : Sto} : fiEnum u δ S = enumK (u δ S) := by
  unfold fiEnum enumK
  cases u δ S with
  | none => rfl
  | some p =>
    obtain ⟨x, S1⟩ := p
    show (match x with | [.loc j] => _ | _ => none) = _
    split
    · rfl
    · split
      · rename_i h _ _ _ e
        cases e
        exact absurd rfl (h _)
      · rfl
/-! loops -/
noncomputable def forK0 (g : FG) (b : FS) (δ : DEnv) : Option ((List D × Option (Nat × List D)) × Sto) → Option (Fl × Sto)
  | some ((xs, st), S) => forF st g b xs δ S
  | none => none
@[simp] theorem forK0_1 {g : FG} {b : FS} {δ : DEnv} {S : Sto} {st : Option (Nat × List D)} {xs : List D} : forK0 g b δ (some ((xs, st), S)) = (forF st g b xs δ S) := rfl
@[simp] theorem forK0_2 {g : FG} {b : FS} {δ : DEnv} : forK0 g b δ none = (none) := rfl
@[simp] theorem fsFor_ev {i : FI} {g : FG} {b : FS} {δ : DEnv} {S : Sto} : fsFor i g b δ S = forK0 g b δ (i δ S) := by unfold fsFor; cases i δ S <;> rfl
noncomputable def forK2 (st : OSt) (g : FG) (b : FS) (xs : List D) : Option (Fl × Sto) → Option (Fl × Sto)
  | some (.nx δ, S) => forF st g b xs δ S
  | some (.ct δ, S) => forF st g b xs δ S
  | some (.bk δ, S) => some (.nx δ, S)
  | some (.rt d, S) => some (.rt d, S)
  | none => none
@[simp] theorem forK2_1 {st : OSt} {g : FG} {b : FS} {xs : List D} {S : Sto} {δ : DEnv} : forK2 st g b xs (some (.nx δ, S)) = (forF st g b xs δ S) := rfl
@[simp] theorem forK2_2 {st : OSt} {g : FG} {b : FS} {xs : List D} {S : Sto} {δ : DEnv} : forK2 st g b xs (some (.ct δ, S)) = (forF st g b xs δ S) := rfl
@[simp] theorem forK2_3 {st : OSt} {g : FG} {b : FS} {xs : List D} {S : Sto} {δ : DEnv} : forK2 st g b xs (some (.bk δ, S)) = (some (.nx δ, S)) := rfl
@[simp] theorem forK2_4 {st : OSt} {g : FG} {b : FS} {xs : List D} {S : Sto} {d : D} : forK2 st g b xs (some (.rt d, S)) = (some (.rt d, S)) := rfl
@[simp] theorem forK2_5 {st : OSt} {g : FG} {b : FS} {xs : List D} : forK2 st g b xs none = (none) := rfl
noncomputable def forK (st : OSt) (g : FG) (b : FS) (xs : List D) : Option (DEnv × Sto) → Option (Fl × Sto)
  | some (δ, S) => forK2 st g b xs (b δ S)
  | none => none
@[simp] theorem forK_1 {st : OSt} {g : FG} {b : FS} {xs : List D} {S : Sto} {δ : DEnv} : forK st g b xs (some (δ, S)) = (forK2 st g b xs (b δ S)) := rfl
@[simp] theorem forK_2 {st : OSt} {g : FG} {b : FS} {xs : List D} : forK st g b xs none = (none) := rfl
theorem forF_nil {st : Option (Nat × List D)} {g : FG} {b : FS} {δ : DEnv} {S : Sto} (h : stOk st S) : forF st g b [] δ S = some (.nx δ, S) := if_pos h
theorem forF_cons {st : Option (Nat × List D)} {g : FG} {b : FS} {x : D} {xs : List D} {δ : DEnv} {S : Sto} (h : stOk st S) : forF st g b (x :: xs) δ S = forK st g b xs (g x δ S) := by
  rw [forF, if_pos h]
  cases g x δ S with
  | none => rfl
  | some p =>
    obtain ⟨δ1, S1⟩ := p
    show (b δ1 S1).bind _ = forK2 st g b xs (b δ1 S1)
    cases b δ1 S1 with
    | none => rfl
    | some r => obtain ⟨r, S2⟩ := r; cases r <;> rfl
@[simp] theorem stOk_n {S : Sto} : stOk none S := trivial
theorem stOk_s {S : Sto} {j : Nat} {ds : List D} (h : S[j]? = some (.lst ds)) : stOk (some (j, ds)) S := h
@[simp] theorem forF_nil0 {g : FG} {b : FS} {δ : DEnv} {S : Sto} : forF none g b [] δ S = some (.nx δ, S) := forF_nil stOk_n
@[simp] theorem forF_cons0 {g : FG} {b : FS} {x : D} {xs : List D} {δ : DEnv} {S : Sto} : forF none g b (x :: xs) δ S = forK none g b xs (g x δ S) := forF_cons stOk_n
def whK2 (c : FT) (b : FS) (n : Nat) : Option (Fl × Sto) → Option (Fl × Sto)
  | some (.nx δ, S) => whileF c b n δ S
  | some (.ct δ, S) => whileF c b n δ S
  | some (.bk δ, S) => some (.nx δ, S)
  | some (.rt d, S) => some (.rt d, S)
  | none => none
@[simp] theorem whK2_1 {c : FT} {b : FS} {n : Nat} {S : Sto} {δ : DEnv} : whK2 c b n (some (.nx δ, S)) = (whileF c b n δ S) := rfl
@[simp] theorem whK2_2 {c : FT} {b : FS} {n : Nat} {S : Sto} {δ : DEnv} : whK2 c b n (some (.ct δ, S)) = (whileF c b n δ S) := rfl
@[simp] theorem whK2_3 {c : FT} {b : FS} {n : Nat} {S : Sto} {δ : DEnv} : whK2 c b n (some (.bk δ, S)) = (some (.nx δ, S)) := rfl
@[simp] theorem whK2_4 {c : FT} {b : FS} {n : Nat} {S : Sto} {d : D} : whK2 c b n (some (.rt d, S)) = (some (.rt d, S)) := rfl
@[simp] theorem whK2_5 {c : FT} {b : FS} {n : Nat} : whK2 c b n none = (none) := rfl
def whK (c : FT) (b : FS) (n : Nat) (δ : DEnv) : Option (Bool × Sto) → Option (Fl × Sto)
  | some (k, S) => if k = true then whK2 c b n (b δ S) else some (.nx δ, S)
  | none => none
@[simp] theorem whK_1 {c : FT} {b : FS} {n : Nat} {δ : DEnv} {S : Sto} {k : Bool} : whK c b n δ (some (k, S)) = (if k = true then whK2 c b n (b δ S) else some (.nx δ, S)) := rfl
@[simp] theorem whK_2 {c : FT} {b : FS} {n : Nat} {δ : DEnv} : whK c b n δ none = (none) := rfl
theorem whileF_succ {c : FT} {b : FS} {n : Nat} {δ : DEnv} {S : Sto} : whileF c b (n + 1) δ S = whK c b n δ (c δ S) := by
  rw [whileF]
  cases c δ S with
  | none => rfl
  | some p =>
    obtain ⟨k, S1⟩ := p
    cases k with
    | false => rfl
    | true =>
      show (b δ S1).bind _ = whK2 c b n (b δ S1)
      cases b δ S1 with
      | none => rfl
      | some r => obtain ⟨r, S2⟩ := r; cases r <;> rfl
@[simp] theorem fsWhile_ev {c : FT} {b : FS} {δ : DEnv} {S : Sto} : fsWhile c b δ S = whileF c b fuelW δ S := rfl
noncomputable def lcK0 (i : Nat) (t : FT) (e : FE) (δ : DEnv) : Option ((List D × Option (Nat × List D)) × Sto) → Option (D × Sto)
  | some ((xs, st), S) => lcF st i S.length t e xs (δ.set i none) (S ++ [.lst []])
  | none => none
@[simp] theorem lcK0_1 {i : Nat} {t : FT} {e : FE} {δ : DEnv} {S : Sto} {st : Option (Nat × List D)} {xs : List D} : lcK0 i t e δ (some ((xs, st), S)) = (lcF st i S.length t e xs (δ.set i none) (S ++ [.lst []])) := rfl
@[simp] theorem lcK0_2 {i : Nat} {t : FT} {e : FE} {δ : DEnv} : lcK0 i t e δ none = (none) := rfl
@[simp] theorem fLc_ev {di : FI} {i : Nat} {t : FT} {e : FE} {δ : DEnv} {S : Sto} : fLc di i t e δ S = lcK0 i t e δ (di δ S) := by unfold fLc; cases di δ S <;> rfl
noncomputable def lcK2 (st : OSt) (i l : Nat) (t : FT) (e : FE) (xs : List D) (δ : DEnv) : Option (D × Sto) → Option (D × Sto)
  | some (y, S) => match S[l]? with
    | some (.lst acc) => if acc.length < 100000 then lcF st i l t e xs δ (S.set l (.lst (acc ++ [y]))) else none
    | _ => none
  | none => none
@[simp] theorem lcK2_1 {st : OSt} {i l : Nat} {t : FT} {e : FE} {xs : List D} {δ : DEnv} {S : Sto} {y : D} : lcK2 st i l t e xs δ (some (y, S)) = (match S[l]? with
    | some (.lst acc) => if acc.length < 100000 then lcF st i l t e xs δ (S.set l (.lst (acc ++ [y]))) else none
    | _ => none) := rfl
@[simp] theorem lcK2_2 {st : OSt} {i l : Nat} {t : FT} {e : FE} {xs : List D} {δ : DEnv} : lcK2 st i l t e xs δ none = (none) := rfl
noncomputable def lcK (st : OSt) (i l : Nat) (t : FT) (e : FE) (x : D) (xs : List D) (δ : DEnv) : Option (Bool × Sto) → Option (D × Sto)
  | some (b, S) => if b = true then lcK2 st i l t e xs δ (e (δ.set i (some x)) S) else lcF st i l t e xs δ S
  | none => none
@[simp] theorem lcK_1 {st : OSt} {i l : Nat} {t : FT} {e : FE} {x : D} {xs : List D} {δ : DEnv} {S : Sto} {b : Bool} : lcK st i l t e x xs δ (some (b, S)) = (if b = true then lcK2 st i l t e xs δ (e (δ.set i (some x)) S) else lcF st i l t e xs δ S) := rfl
@[simp] theorem lcK_2 {st : OSt} {i l : Nat} {t : FT} {e : FE} {x : D} {xs : List D} {δ : DEnv} : lcK st i l t e x xs δ none = (none) := rfl
theorem lcF_nil {st : Option (Nat × List D)} {i l : Nat} {t : FT} {e : FE} {δ : DEnv} {S : Sto} (h : stOk st S) : lcF st i l t e [] δ S = some (.loc l, S) := if_pos h
theorem lcF_cons {st : Option (Nat × List D)} {i l : Nat} {t : FT} {e : FE} {x : D} {xs : List D} {δ : DEnv} {S : Sto} (h : stOk st S) : lcF st i l t e (x :: xs) δ S = lcK st i l t e x xs δ (t (δ.set i (some x)) S) := by
  rw [lcF, if_pos h]
  cases t (δ.set i (some x)) S with
  | none => rfl
  | some p =>
    obtain ⟨k, S1⟩ := p
    cases k with
    | false => rfl
    | true =>
      show (e (δ.set i (some x)) S1).bind _ = lcK2 st i l t e xs δ (e (δ.set i (some x)) S1)
      cases e (δ.set i (some x)) S1 <;> rfl
@[simp] theorem lcF_nil0 {i l : Nat} {t : FT} {e : FE} {δ : DEnv} {S : Sto} : lcF none i l t e [] δ S = some (.loc l, S) := lcF_nil stOk_n
@[simp] theorem lcF_cons0 {i l : Nat} {t : FT} {e : FE} {x : D} {xs : List D} {δ : DEnv} {S : Sto} : lcF none i l t e (x :: xs) δ S = lcK none i l t e x xs δ (t (δ.set i (some x)) S) := lcF_cons stOk_n
@[simp] theorem fYes_ev {δ : DEnv} {S : Sto} : fYes δ S = some (true, S) := rfl
theorem fDef_ev {n N : Nat} {b : FS} {ds : List D} {S : Sto} (h : ds.length = n) : fDef n N b ds S = retF (b (startD N ds) S) := if_pos h
/-! operators -/
section
variable {i j : Int} {l k : Nat} {S : Sto} {a b : List D} {x y : Str} {d : D} {g : Int → Int → D} {f : Bool → Bool} {lo hi : Option Int}
@[simp] theorem oI0_ii : oI0 g (.int i) (.int j) S = some (g i j, S) := rfl
@[simp] theorem oAdd_ii : oAdd (.int i) (.int j) S = some (.int (i + j), S) := rfl
@[simp] theorem oAdd_tt : oAdd (.tup a) (.tup b) S = (if a.length + b.length ≤ 100000 then some (.tup (a ++ b), S) else none) := rfl
@[simp] theorem oAdd_ss : oAdd (.str x) (.str y) S = (if x.length + y.length ≤ 100000 then some (.str (x ++ y), S) else none) := rfl
@[simp] theorem oAdd_ll : oAdd (.loc l) (.loc k) S = (match S[l]?, S[k]? with
    | some (.lst a), some (.lst b) => if a.length + b.length ≤ 100000 then some (.loc S.length, S ++ [.lst (a ++ b)]) else none
    | _, _ => none) := rfl
@[simp] theorem oIs_n : oIs f d .non S = some (.bl (f (isNonD d)), S) := rfl
@[simp] theorem oIx_t : oIx (.tup a) (.int i) S = (atI a i).bind (fun d => some (d, S)) := rfl
@[simp] theorem oIx_l : oIx (.loc l) (.int i) S = (match S[l]? with
    | some (.lst ds) => (atI ds i).bind fun d => some (d, S)
    | _ => none) := rfl
@[simp] theorem oIx_s : oIx (.str x) (.int i) S = (if x.length ≤ 100000 then (atI x.cps.toList i).bind fun c => some (.str ⟨#[c]⟩, S) else none) := rfl
@[simp] theorem oSl_t : oSl (.tup a) lo hi S = some (.tup (cutD a lo hi), S) := rfl
@[simp] theorem oSl_l : oSl (.loc l) lo hi S = (match S[l]? with
    | some (.lst ds) => some (.loc S.length, S ++ [.lst (cutD ds lo hi)])
    | _ => none) := rfl
@[simp] theorem oSl_s {ns : List Int} : oSl (.scr ns) lo hi S = some (.loc S.length, S ++ [.lst (cutD (ns.map .int) lo hi)]) := rfl
@[simp] theorem bLen_t : bLen [.tup a] S = some (.int a.length, S) := rfl
@[simp] theorem bLen_s : bLen [.str x] S = (if x.length ≤ 100000 then some (.int x.length, S) else none) := rfl
@[simp] theorem bLen_l : bLen [.loc l] S = (match S[l]? with
    | some (.lst ds) => some (.int ds.length, S)
    | _ => none) := rfl
@[simp] theorem bAbs_i : bAbs [.int i] S = some (.int (if i < 0 then -i else i), S) := rfl
@[simp] theorem bInt_i : bInt [.int i] S = some (.int i, S) := rfl
@[simp] theorem bInt_b {b : Bool} : bInt [.bl b] S = some (.int (if b then 1 else 0), S) := rfl
@[simp] theorem bSum_l : bSum [.loc l] S = (match S[l]? with
    | some (.lst ds) => (asInts ds).bind fun ns => some (.int ns.sum, S)
    | _ => none) := rfl
@[simp] theorem bAll_l : bAll [.loc l] S = (match S[l]? with
    | some (.lst ds) => (asBls ds).bind fun ns => some (.bl (ns.all id), S)
    | _ => none) := rfl
@[simp] theorem bTupleOf_l : bTupleOf [.loc l] S = (match S[l]? with
    | some (.lst ds) => some (.tup ds, S)
    | _ => none) := rfl
@[simp] theorem bTupleOf_t : bTupleOf [.tup a] S = some (.tup a, S) := rfl
@[simp] theorem bListOf_l : bListOf [.loc l] S = (match S[l]? with
    | some (.lst ds) => some (.loc S.length, S ++ [.lst ds])
    | _ => none) := rfl
@[simp] theorem bListOf_t : bListOf [.tup a] S = some (.loc S.length, S ++ [.lst a]) := rfl
@[simp] theorem bMax_i : bMax [.int i, .int j] S = some (.int (if j > i then j else i), S) := rfl
@[simp] theorem bMin_i : bMin [.int i, .int j] S = some (.int (if j < i then j else i), S) := rfl
@[simp] theorem oMod_ii (h : 0 < j) : oI (fun _ j => 0 < j) g (.int i) (.int j) S = some (g i j, S) := oI_int h
theorem oEq_ll : oEq f (.loc l) (.loc k) S = (match S[l]?, S[k]? with
    | some (.lst a), some (.lst []) => some (.bl (f a.isEmpty), S)
    | _, _ => none) := by
  cases h : S[l]? with
  | none => simp [oEq, emp, h]
  | some o =>
    cases o with
    | dct _ => simp [oEq, emp, h]
    | lst a =>
      cases h2 : S[k]? with
      | none => simp [oEq, emp, h, h2]
      | some o2 =>
        cases o2 with
        | dct _ => simp [oEq, emp, h, h2]
        | lst b => cases b <;> simp [oEq, emp, h, h2]
@[simp] theorem oIn_st : oIn (.str x) (.tup a) S = (asStrs a).map (fun ys => (.bl (ys.any (· == x)), S)) := rfl
@[simp] theorem oIn_sl : oIn (.str x) (.loc l) S = (match S[l]? with
    | some (.lst ds) => (asStrs ds).map fun ys => (.bl (ys.any (· == x)), S)
    | _ => none) := rfl
@[simp] theorem oIn_ss {c : Nat} : oIn (.str ⟨#[c]⟩) (.str y) S = some (.bl (decide (c ∈ y.cps.toList)), S) := rfl
@[simp] theorem oIn_pr : oIn (.tup [d, .int i]) (.tup a) S = (if hOkD S d = true then (asPrs a).map fun ys => (.bl (ys.any fun y => hEqD y.1 d && y.2 == i), S) else none) := rfl
@[simp] theorem oNotIn_st : oNotIn (.str x) (.tup a) S = (asStrs a).map (fun ys => (.bl (!ys.any (· == x)), S)) := rfl
@[simp] theorem oNotIn_sl : oNotIn (.str x) (.loc l) S = (match S[l]? with
    | some (.lst ds) => (asStrs ds).map fun ys => (.bl (!ys.any (· == x)), S)
    | _ => none) := rfl
@[simp] theorem oNotIn_ss {c : Nat} : oNotIn (.str ⟨#[c]⟩) (.str y) S = some (.bl (!decide (c ∈ y.cps.toList)), S) := rfl
end
end DL

set_option Elab.async false
set_option linter.all false
set_option maxRecDepth 100000
set_option maxHeartbeats 1000000
namespace DL
open PySem L2 PyProof.Rows
/-! ### repr, dicts of texts and ints too -/
def dcK (l : List (Str × Int)) : List (Key × D) := l.map fun p => (.inr p.1, .int p.2)
def dcV (l : List (Str × Int)) : List (Key × V) := l.map fun p => (.inr p.1, .int p.2)
def dcP (l : List (Str × Int)) : List (PyData × PyData) := l.map fun p => (.str p.1, .int p.2)
mutual
inductive Dq (K : PySem.W.Frag) (H : Hp) : V → PyData → Prop
  | non : Dq K H .non .none
  | bl (b : Bool) : Dq K H (.bl b) (.bool b)
  | int (i : Int) : Dq K H (.int i) (.int i)
  | str (x : Str) : Dq K H (.str x) (.str x)
  | lst {a : Addr} {xs : List V} {ds : List PyData} : H a = some (.lst xs) → DqAll K H xs ds → Dq K H (.ref a) (.list ds)
  | tup {a : Addr} {xs : List V} {ds : List PyData} : SqT K H a xs → DqAll K H xs ds → Dq K H (.ref a) (.tuple ds)
  | dct {a : Addr} {l : List (Str × Int)} : H a = some (.dK (dcV l)) → Dq K H (.ref a) (.dict (dcP l))
inductive DqAll (K : PySem.W.Frag) (H : Hp) : List V → List PyData → Prop
  | nil : DqAll K H [] []
  | cons {v : V} {vs : List V} {d : PyData} {ds : List PyData} : Dq K H v d → DqAll K H vs ds → DqAll K H (v :: vs) (d :: ds)
end
section
variable {X : Cx} {pins : List (Addr × Obj)} {σ : L2.St} {H : Hp} {s : Shared}
theorem dict_reads {P : Program} {w : World} {h : Heap} : ∀ (l : List (Str × Int)) (es : List DictEntry) (vs : List (Key × Value)), KV (dcV l) vs → Pairs (mixKind P w) es vs → ReadsAll h (es.map (·.key)) ((dcP l).map (·.1)) [] ∧ ReadsAll h (es.map (·.val)) ((dcP l).map (·.2)) []
  | [], es, vs, r, p => by
    cases r
    cases p
    exact ⟨.nil, .nil⟩
  | (x, i) :: l, es, vs, r, p => by
    cases r with
    | @cons _ kv _ l2 r1 r2 =>
      cases p with
      | @cons e _ es _ p1 p2 p3 =>
        obtain ⟨q1, q2⟩ := dict_reads l _ _ r2 p3
        obtain ⟨e1, e2⟩ := r1
        have e1 : kv.1 = Sum.inr x := e1.symm
        rw [e1] at p1
        have p1 : keyIs (Sum.inr x) e.key = true := p1
        rcases keyIs_shape p1 with ⟨_, _, z, _⟩ | ⟨y, t, z, ek⟩
        · cases z
        cases z
        obtain ⟨t2, e2⟩ := e2
        rw [e2] at p2
        constructor
        · simp only [List.map_cons, dcP]
          rw [ek]
          exact ReadsAll.cons (as := []) (bs := []) (.str _ _) q1
        · simp only [List.map_cons, dcP]
          rw [p2]
          exact ReadsAll.cons (as := []) (bs := []) (.int _ _) q2
mutual
theorem Dq.reads (I : Inv X pins σ H s) : ∀ (d : PyData) (v : V) (u : Value), Dq X.K H v d → RelV v u → ∃ as, Reads s.heap u d as ∧ ∀ a ∈ as, H a ≠ none
  | .none, _, _, h, r => by
    cases h
    cases r
    exact ⟨_, Reads.none, by simp⟩
  | .bool b, _, _, h, r => by
    cases h
    cases r
    exact ⟨_, Reads.bool b, by simp⟩
  | .int i, _, _, h, r => by
    cases h
    obtain ⟨t, rfl⟩ := r
    exact ⟨_, Reads.int i t, by simp⟩
  | .str x, _, _, h, r => by
    cases h
    obtain ⟨t, rfl⟩ := r
    exact ⟨_, Reads.str x t, by simp⟩
  | .list ds, _, _, h, r => by
    cases h with
    | lst hs ha =>
      cases r
      obtain ⟨its, rv, ⟨o, n, ho, hc, _, hd⟩, _⟩ := I.list (SqL.of hs)
      obtain ⟨as, hr, hn⟩ := Dq.readsAll I ds _ its ha rv
      refine ⟨_, Reads.list ho hc hd hr, fun b hb => ?_⟩
      rcases List.mem_cons.mp hb with rfl | hb
      · rw [hs]; simp
      · exact hn b hb
  | .tuple ds, _, _, h, r => by
    cases h with
    | tup hs ha =>
      cases r
      obtain ⟨its, rv, ⟨o, ho, hc, n, hd⟩, _⟩ := I.tuple hs
      obtain ⟨as, hr, hn⟩ := Dq.readsAll I ds _ its ha rv
      exact ⟨_, Reads.tuple ho hc hd hr, hn⟩
  | .dict kvs, _, _, h, r => by
    cases h with
    | @dct a l hs =>
      cases r
      obtain ⟨_, _, vs, rel, o, es, ep, ho, hx, hd, _, hp, _⟩ := dk_of I.hok hs
      obtain ⟨q1, q2⟩ := dict_reads (h := s.heap) l es.toList vs rel hp
      refine ⟨_, Reads.dict ho hx.1 hd q1 q2, fun b hb => ?_⟩
      simp only [List.append_nil, List.mem_singleton] at hb
      subst hb
      rw [hs]; simp
theorem Dq.readsAll (I : Inv X pins σ H s) : ∀ (ds : List PyData) (vs : List V) (us : List Value), DqAll X.K H vs ds → Vals vs us → ∃ as, ReadsAll s.heap us ds as ∧ ∀ a ∈ as, H a ≠ none
  | [], _, _, h, r => by
    cases h
    cases r
    exact ⟨_, ReadsAll.nil, by simp⟩
  | d :: ds, _, _, h, r => by
    cases h with
    | cons h1 h2 =>
      cases r with
      | cons r1 r2 =>
        obtain ⟨as, q1, n1⟩ := Dq.reads I d _ _ h1 r1
        obtain ⟨bs, q2, n2⟩ := Dq.readsAll I ds _ _ h2 r2
        exact ⟨_, ReadsAll.cons q1 q2, fun b hb => (List.mem_append.mp hb).elim (n1 b) (n2 b)⟩
end
def HasSys (h : Heap) : Prop := ∃ m, h.Ns sysModules m
theorem sys_free (I : Inv X pins σ H s) (hs : HasSys X.base) : H sysModules = none := by
  obtain ⟨m, o, es, ep, ho, _⟩ := hs
  exact (I.bs _ o ho).2
end
section
variable {X : Cx}
def vReprD (K : PySem.W.Frag) : List V → Hp → VK → Prop := fun xs H Q => ∃ x p, xs = [x] ∧ Dq K H x p ∧ p.showable = true ∧ p.shown.length ≤ sizeLine ∧ p.depth ≤ 60 ∧ Q (.str p.shown) H
theorem call_reprD (hsy : HasSys X.base) (hg : X.A.guards = some []) (hu : X.A.units + 64 < cLine) : CallR X (.builtin "repr") (vReprD X.K) := by
  intro pins s σ H xs us Q I r h
  obtain ⟨x, p, rfl, hd, hs, hz, hp, q⟩ := h
  obtain ⟨u, rfl, r1⟩ := vals1 r
  obtain ⟨as, rd, hn⟩ := Dq.reads I p x u hd r1
  have hsm : sysModules ∉ as := fun z => hn _ z (sys_free I hsy)
  have fin : ∀ (h' : Heap) (t : Tok) (tk : Nat), (∀ b o, s.heap.get? b = some o → h'.get? b = some o) → EP X pins σ Q (.str p.shown t) { s with heap := h', toks := tk } :=
    fun h' t tk hk => ⟨.str p.shown, H, I.kept hk, ⟨t, rfl⟩, q⟩
  cases p with
  | none =>
    cases rd
    have e : PyData.shown .none = ("None" : Str) := by simp [PyData.shown]
    rw [e] at fin
    exact PySem.P.repr_of_none (fin s.heap _ _ fun _ _ z => z)
  | bool b =>
    cases rd
    have e : PyData.shown (.bool b) = (if b then ("True" : Str) else ("False" : Str)) := by simp only [PyData.shown]
    rw [e] at fin
    exact PySem.P.repr_of_bool (fin s.heap _ _ fun _ _ z => z)
  | int i =>
    cases rd
    have e : PyData.shown (.int i) = ((toString i : String) : Str) := by simp only [PyData.shown]
    rw [e] at fin
    exact PySem.P.repr_of_int (by simpa only [PyData.showable, decide_eq_true_eq] using hs) (fin s.heap _ _ fun _ _ z => z)
  | str z =>
    cases rd
    have e : PyData.shown (.str z) = reprText z := by simp only [PyData.shown]
    rw [e] at fin hz
    exact PySem.P.repr_of_str (fin s.heap _ _ fun _ _ z => z) hz
  | list l =>
    cases rd with
    | list h1 h2 h3 h4 => exact repr_of_reads' (.list h1 h2 h3 h4) hs (fun _ => hsm) hg (by omega) (fun _ _ z => z) (fun h' t tk hk => fin h' t tk hk) hz
  | tuple l =>
    cases rd with
    | tuple h1 h2 h3 h4 => exact repr_of_reads' (.tuple h1 h2 h3 h4) hs (fun _ => hsm) hg (by omega) (fun _ _ z => z) (fun h' t tk hk => fin h' t tk hk) hz
  | dict l =>
    cases rd with
    | dict h1 h2 h3 h4 h5 => exact repr_of_reads' (.dict h1 h2 h3 h4 h5) hs (fun _ => hsm) hg (by omega) (fun _ _ z => z) (fun h' t tk hk => fin h' t tk hk) hz
end
mutual
inductive PyQ (S : Sto) : D → PyData → Prop
  | non : PyQ S .non .none
  | bl (b : Bool) : PyQ S (.bl b) (.bool b)
  | int (i : Int) : PyQ S (.int i) (.int i)
  | str (x : Str) : PyQ S (.str x) (.str x)
  | tup {ds : List D} {ps : List PyData} : PyQA S ds ps → PyQ S (.tup ds) (.tuple ps)
  | lst {i : Nat} {ds : List D} {ps : List PyData} : S[i]? = some (.lst ds) → PyQA S ds ps → PyQ S (.loc i) (.list ps)
  | dct {i : Nat} {l : List (Str × Int)} : S[i]? = some (.dct (dcK l)) → PyQ S (.loc i) (.dict (dcP l))
inductive PyQA (S : Sto) : List D → List PyData → Prop
  | nil : PyQA S [] []
  | cons {d : D} {ds : List D} {p : PyData} {ps : List PyData} : PyQ S d p → PyQA S ds ps → PyQA S (d :: ds) (p :: ps)
end
section
variable {K : PySem.W.Frag} {H : Hp} {m : Mp} {S : Sto}
theorem kws_of : ∀ (l : List (Str × Int)) (kws : List (Key × V)), kws.map (·.1) = (dcK l).map (·.1) → DvA K H m (kws.map (·.2)) ((dcK l).map (·.2)) → kws = dcV l
  | [], kws, h, _ => by
    have : kws = [] := by simpa [dcK] using h
    rw [this]; rfl
  | (x, i) :: l, kws, h, r => by
    cases kws with
    | nil => simp [dcK] at h
    | cons p kws =>
      simp only [dcK, List.map_cons, List.cons.injEq] at h
      simp only [dcK, List.map_cons] at r
      cases r with
      | cons r1 r2 =>
        have e := kws_of l kws h.2 r2
        obtain ⟨k, v⟩ := p
        have h1 : k = Sum.inr x := h.1
        have r1 : Dv K H m v (.int i) := r1
        cases r1
        rw [e, h1]; rfl
mutual
theorem dq_of (R : Rel K H m S) : ∀ (p : PyData) (d : D) (v : V), PyQ S d p → Dv K H m v d → Dq K H v p
  | .none, _, _, h, r => by cases h; cases r; exact .non
  | .bool b, _, _, h, r => by cases h; cases r; exact .bl b
  | .int i, _, _, h, r => by cases h; cases r; exact .int i
  | .str x, _, _, h, r => by cases h; cases r; exact .str x
  | .tuple ps, _, _, h, r => by
    cases h with
    | tup ha =>
      cases r with
      | tup hs hr => exact .tup hs (dqA_of R ps _ _ ha hr)
  | .list ps, _, _, h, r => by
    cases h with
    | lst hs ha =>
      obtain ⟨a, vs, rfl, _, hH, hr⟩ := R.lst r hs
      exact .lst hH (dqA_of R ps _ _ ha hr)
  | .dict kvs, _, _, h, r => by
    cases h with
    | @dct i l hs =>
      cases r with
      | @loc _ a e =>
        obtain ⟨kws, hH, hk, hv⟩ := R.ob i a _ e hs
        rw [kws_of l kws hk hv] at hH
        exact .dct hH
theorem dqA_of (R : Rel K H m S) : ∀ (ps : List PyData) (ds : List D) (vs : List V), PyQA S ds ps → DvA K H m vs ds → DqAll K H vs ps
  | [], _, _, h, r => by cases h; cases r; exact .nil
  | p :: ps, _, _, h, r => by
    cases h with
    | cons h1 h2 =>
      cases r with
      | cons r1 r2 => exact .cons (dq_of R p _ _ h1 r1) (dqA_of R ps _ _ h2 r2)
end
end
def ShowsD (S : Sto) (d : D) (p : PyData) : Prop := PyQ S d p ∧ p.showable = true ∧ p.shown.length ≤ sizeLine ∧ p.depth ≤ 60
def unK (p : Key × D) : Str × Int := ((match p.1 with | .inr x => x | .inl _ => Str.ofString ""), (match p.2 with | .int i => i | _ => 0))
mutual
theorem pyq_fun {S : Sto} : ∀ (p q : PyData) (d : D), PyQ S d p → PyQ S d q → p = q
  | .none, _, _, h, r => by cases h; cases r; rfl
  | .bool b, _, _, h, r => by cases h; cases r; rfl
  | .int i, _, _, h, r => by cases h; cases r; rfl
  | .str x, _, _, h, r => by cases h; cases r; rfl
  | .tuple ps, _, _, h, r => by
    cases h with
    | tup ha => cases r with | tup hb => rw [pyqA_fun ps _ _ ha hb]
  | .list ps, _, _, h, r => by
    cases h with
    | lst hs ha =>
      cases r with
      | lst hs' hb => rw [hs] at hs'; cases hs'; rw [pyqA_fun ps _ _ ha hb]
      | dct hs' => rw [hs] at hs'; cases hs'
  | .dict kvs, _, _, h, r => by
    cases h with
    | dct hs =>
      cases r with
      | lst hs' hb => rw [hs] at hs'; cases hs'
      | @dct _ l' hs' =>
        rw [hs] at hs'
        rename_i l
        have e : dcK l = dcK l' := by injection hs' with z; injection z
        have : l = l' := by
          have := congrArg (List.map unK) e
          simpa [dcK, unK, Function.comp_def] using this
        rw [this]
theorem pyqA_fun {S : Sto} : ∀ (ps qs : List PyData) (ds : List D), PyQA S ds ps → PyQA S ds qs → ps = qs
  | [], _, _, h, r => by cases h; cases r; rfl
  | p :: ps, _, _, h, r => by
    cases h with
    | cons h1 h2 => cases r with | cons r1 r2 => rw [pyq_fun p _ _ h1 r1, pyqA_fun ps _ _ h2 r2]
end
open Classical in
noncomputable def bReprD (xs : List D) (S : Sto) : Option (D × Sto) := match xs with
  | [d] => if h : ∃ p, ShowsD S d p then some (.str h.choose.shown, S) else none
  | _ => none
open Classical in
theorem bReprD_eq {S : Sto} {d : D} {p : PyData} (h : ShowsD S d p) : bReprD [d] S = some (.str p.shown, S) := by
  have hh : ∃ p, ShowsD S d p := ⟨p, h⟩
  show (if h : ∃ p, ShowsD S d p then some (D.str h.choose.shown, S) else none) = _
  rw [dif_pos hh, pyq_fun _ _ _ hh.choose_spec.1 h.1]
section
variable {X : Cx}
theorem cd_reprD (hsy : HasSys X.base) (hg : X.A.guards = some []) (hu : X.A.units + 64 < cLine) : CallD X (.builtin "repr") (vReprD X.K) (fun xs S Q => ∃ d p, xs = [d] ∧ PyQ S d p ∧ p.showable = true ∧ p.shown.length ≤ sizeLine ∧ p.depth ≤ 60 ∧ Q (.str p.shown) S) :=
  ⟨call_reprD hsy hg hu, fun H m S xs vs Q Q' R rx q c => by
    obtain ⟨d, p, rfl, h1, h2, h4, h5, q⟩ := q
    cases rx with
    | cons r1 r2 =>
      cases r2
      exact ⟨_, p, rfl, dq_of R p d _ h1 r1, h2, h4, h5, c.same R q (.str _)⟩⟩
theorem xb_reprD (hsy : HasSys X.base) (hg : X.A.guards = some []) (hu : X.A.units + 64 < cLine) : CallD X (.builtin "repr") (vReprD X.K) (toB bReprD) := (cd_reprD hsy hg hu).imp' (by
  rintro xs S Q ⟨p, h, q⟩
  unfold bReprD at h
  split at h
  · split at h
    · rename_i hh
      cases h
      obtain ⟨h1, h2, h4, h5⟩ := hh.choose_spec
      exact ⟨_, _, rfl, h1, h2, h4, h5, q⟩
    · cases h
  · cases h)
end
end DL

set_option Elab.async false
set_option linter.all false
set_option maxRecDepth 100000
set_option maxHeartbeats 1000000
namespace DL
open PySem L2 PyProof.Rows
theorem lawS0 {P : Program} {w : World} {K : PySem.W.Frag} {mg mb : Str → Option Value} {CX : CXT} {k : Nat} {fa a : Addr}
    {fd : FuncData} {x : Str} {sp : Sp} {s₁ : Shared} {vs : List Value} {H : Hp}
    (KX : K.In s₁.heap) (hns : s₁.heap.Ns mainGlobals mg) (hb : s₁.heap.Ns builtinsNs mb)
    (hbb : ∀ x : Str, x ≠ "__name__" → mb x = bootBuiltins x) (hlim : s₁.heap.NoLimit) (hg : s₁.gens = #[])
    (ha : s₁.heap.get? a = some { cls := .type "list", data := .seq vs.toArray }) (hr : Room k callerA)
    (hok : HOk P w H s₁.heap) (Hn : ∀ b, H b ≠ none → b = a ∧ K.lookup a = none ∧ ∃ o u, H a = some (.frz o u))
    (hsys : HasSys s₁.heap) (F : ∀ base : Heap, K.In base → base.Ns mainGlobals mg → HasSys base → FnG P w K mg base CX k fa fd [x] sp)
    (hbind : ∀ (s : Shared) (u : Value), BindsTo s fd ⟨[u], []⟩ [(x, u)])
    (hsp : sp [.ref a] H (fun v _ => v = .bl true) fun _ _ _ => False)
    (hCX : ∀ H e s', CX [] H s₁ (fun _ _ _ => False) e s' → False) :
    codeAny (model P w) callerA (.call (.ref fa) ⟨[.ref a], []⟩)
      (fun r s' => r = .ok (.ret (.bool true)) ∧ OldK s₁.heap s'.heap ∧ s'.os = s₁.os ∧ AllBare s'.gens) s₁ := by
  have no : ∀ b, (b = a → K.lookup a = none → False) → H b = none := fun b z => by
    cases q : H b with
    | none => rfl
    | some u =>
      obtain ⟨e, e2, _⟩ := Hn b (by rw [q]; exact fun z => nomatch z)
      exact (z e e2).elim
  have nsK : ∀ {b : Addr} {m : Str → Option Value}, s₁.heap.Ns b m → (hidT s₁.heap H).Ns b m := by
    rintro b m ⟨o, es, ep, e, d, r⟩
    refine ⟨o, es, ep, hidT_get e (no b (fun z _ => ?_)), d, r⟩
    subst z
    rw [ha] at e
    cases e
    exact nomatch (show Data.seq vs.toArray _ = Data.dict es ep from d)
  have hKb : K.In (hidT s₁.heap H) := fun b o e => hidT_get (KX b o e) (no b (fun z z2 => by rw [z, z2] at e; cases e))
  have hM : Mod K mg (hidT s₁.heap H) := ⟨hKb, nsK hns, ⟨mb, nsK hb, hbb⟩, let ⟨mc, h1, h2⟩ := hlim; ⟨mc, nsK h1, h2⟩⟩
  have e0 : Env0 P w K mg (hidT s₁.heap H) callerA [] s₁ H :=
    ⟨rfl, hM, fun b o e => of_hidT e, Nat.le_of_eq (hidT_size _ _), trivial, fun b hb => (List.not_mem_nil hb).elim, hok, .of_eq hg⟩
  have go := (F _ hKb (nsK hns) (let ⟨m, h⟩ := hsys; ⟨m, nsK h⟩)).run callerA [] s₁ H ⟨[.ref a], []⟩ [.ref a] [.ref a] _ _ rfl hr e0 (hbind s₁ (.ref a)) (.cons rfl .nil) hsp
  refine codeAny_mono go ?_
  intro res s' h
  match res, h with
  | .error e, h => exact (hCX H e s' h).elim
  | .ok .next, h => exact False.elim h
  | .ok .brk, h => exact False.elim h
  | .ok .cont, h => exact False.elim h
  | .ok (.ret u), h =>
    obtain ⟨v, H', os, bare, un, hok', r', q⟩ := h
    obtain rfl : v = .bl true := q
    obtain rfl : u = Value.bool true := r'
    refine ⟨rfl, OldK.of_keep (fun b o e => ?_), os, bare⟩
    by_cases hba : H b = none
    · exact un.keep b o e hba (fun z => List.not_mem_nil z) List.not_mem_nil
    · obtain ⟨rfl, _, ob, u, Ha⟩ := Hn b hba
      obtain ⟨e1, _⟩ := hok b _ Ha
      obtain ⟨e2, _⟩ := hok' b _ (un.frzs b ob _ Ha)
      rw [e] at e1
      cases e1
      exact e2
theorem lawS {P : Program} {w : World} {K : PySem.W.Frag} {mg mb : Str → Option Value} {CX : CXT} {k : Nat} {fa a : Addr}
    {fd : FuncData} {x : Str} {sp : Sp} {s₁ : Shared} {vs : List Value} {ns : List Int}
    (KX : K.In s₁.heap) (hns : s₁.heap.Ns mainGlobals mg) (hb : s₁.heap.Ns builtinsNs mb)
    (hbb : ∀ x : Str, x ≠ "__name__" → mb x = bootBuiltins x) (hlim : s₁.heap.NoLimit) (hg : s₁.gens = #[])
    (ha : s₁.heap.get? a = some { cls := .type "list", data := .seq vs.toArray }) (hi : IntsAre vs ns)
    (hl : ns.length ≤ sizeLine) (hr : Room k callerA)
    (hsys : HasSys s₁.heap) (F : ∀ base : Heap, K.In base → base.Ns mainGlobals mg → HasSys base → FnG P w K mg base CX k fa fd [x] sp)
    (hbind : ∀ (s : Shared) (u : Value), BindsTo s fd ⟨[u], []⟩ [(x, u)])
    (hsp : ∀ (H : Hp), ScrAt K H a (ns.map V.int) → sp [.ref a] H (fun v _ => v = .bl true) fun _ _ _ => False)
    (hCX : ∀ H e s', CX [] H s₁ (fun _ _ _ => False) e s' → False) :
    codeAny (model P w) callerA (.call (.ref fa) ⟨[.ref a], []⟩)
      (fun r s' => r = .ok (.ret (.bool true)) ∧ OldK s₁.heap s'.heap ∧ s'.os = s₁.os ∧ AllBare s'.gens) s₁ := by
  have rv := vals_ints hi
  cases hk : K.lookup a with
  | some o =>
    have e := KX a o hk
    rw [ha] at e
    cases e
    refine lawS0 (H := fun _ => none) KX hns hb hbb hlim hg ha hr (fun b u z => nomatch z) (fun b z => (z rfl).elim) hsys F hbind (hsp _ (.inr ?_)) hCX
    exact ⟨_, vs.toArray, _, hk, rfl, rfl, rfl, by rw [List.size_toArray, hi.length]; exact hl, by simpa using rv⟩
  | none =>
    let ob : Obj := { cls := .type "list", data := .seq vs.toArray }
    let H : Hp := fun b => if b = a then some (.frz ob (.lst (ns.map V.int))) else none
    have Ha : H a = some (.frz ob (.lst (ns.map V.int))) := if_pos rfl
    have Hn : ∀ b, b ≠ a → H b = none := fun b hb => if_neg hb
    refine lawS0 (H := H) KX hns hb hbb hlim hg ha hr (fun b u z => ?_) (fun b z => ?_) hsys F hbind (hsp _ (.inl ⟨_, Ha⟩)) hCX
    · by_cases e : b = a
      · subst e
        rw [Ha] at z
        cases z
        exact ⟨ha, by rw [List.length_map]; exact hl, vs, _, rv, ha⟩
      · rw [Hn b e] at z
        cases z
    · by_cases e : b = a
      · exact ⟨e, hk, _, _, Ha⟩
      · exact (z (Hn b e)).elim
/-- the goal that the head leaves -/
theorem walkS {l : PySem.W.OpenLaw} {n k : Nat} {q : Program} {loose : List Str} {XP : (Str → Option Value) → Heap → Prop} {YP : World → Heap → Prop}
    {d : DefRec} {K : Params → PySem.W.Frag} {CX : World → CXT} {sp : World → Sp} {x : Str}
    (hq : importsNone q = true) (hn : l.most = some n) (hn2 : n ≤ sizeLine) (hdf : d.params.defaults = []) (hr : Room k callerA)
    (hY : ∀ (w : World) (h : Heap), YP w h → (K w.params).In h)
    (F : ∀ (w : World) (mg : Str → Option Value) (fa : Addr) (h : Heap), (K w.params).In h → h.Ns mainGlobals mg → mg d.name = some (.ref fa) →
      ∃ fd : FuncData, (∀ (s : Shared) (u : Value), BindsTo s fd ⟨[u], []⟩ [(x, u)]) ∧
      ∀ base : Heap, (K w.params).In base → base.Ns mainGlobals mg → HasSys base → FnG l.prog w (K w.params) mg base (CX w) k fa fd [x] (sp w))
    (hsp : ∀ (w : World) (H : Hp) (a : Addr) (ns : List Int), ns.length ≤ n → ScrAt (K w.params) H a (ns.map V.int) →
      sp w [.ref a] H (fun v _ => v = .bl true) fun _ _ _ => False)
    (hCX : ∀ (w : World) (H : Hp) (s : Shared) (e : Value) (s' : Shared), CX w [] H s (fun _ _ _ => False) e s' → False) :
    PySem.W.WalkO q loose XP YP l.row.toRowW d [] (fun f vs => PySem.call f vs) := by
  refine Att.attach_call hn hdf ?_
  intro w s₀ s₁ mg mb fa o pm cd doc a vs ns G Y ho hd hcd hmg hobj hints hlen hg
  have KX := hY w _ Y
  obtain ⟨fd, hb, hF⟩ := F w mg fa _ KX G.T.g hmg
  exact lawS KX G.T.g G.T.b G.T.builtins G.T.nolimit hg hobj hints (Nat.le_trans hlen hn2) hr (let ⟨m, h, _⟩ := (G.T.seer hq).mods; ⟨m, h⟩) hF hb
    (fun H hS => hsp w H a ns hlen hS) (fun H e s' => hCX w H s₁ e s')
theorem walkT {l : PySem.W.OpenLaw} {k : Nat} {q : Program} {loose : List Str} {XP : (Str → Option Value) → Heap → Prop} {YP : World → Heap → Prop}
    {d : DefRec} {K : Params → PySem.W.Frag} {x : Str} (hq : importsNone q = true) (hn : l.most = some 63) (hdf : d.params.defaults = []) (hr : Room k callerA) (hY : ∀ (w : World) (h : Heap), YP w h → (K w.params).In h)
    (F : ∀ (w : World) (mg : Str → Option Value) (fa : Addr) (h : Heap), (K w.params).In h → h.Ns mainGlobals mg → mg d.name = some (.ref fa) →
      ∃ fd : FuncData, (∀ (s : Shared) (u : Value), BindsTo s fd ⟨[u], []⟩ [(x, u)]) ∧
      ∀ base : Heap, (K w.params).In base → base.Ns mainGlobals mg → HasSys base → FnG l.prog w (K w.params) mg base CX0 k fa fd [x] (toSp (K w.params) c_law)) :
    PySem.W.WalkO q loose XP YP l.row.toRowW d [] (fun f vs => PySem.call f vs) :=
  walkS (n := 63) (k := k) (x := x) (CX := fun _ => CX0) (sp := fun w => toSp (K w.params) c_law) hq hn (by decide) hdf hr hY F
    (fun w H a ns hl hS => ⟨[], [], [.scr ns], fun d _ => d = .bl true, ⟨rfl, .nil, fun i _ _ e _ => by simp at e⟩, .cons (.scr hS) .nil, ⟨ns, rfl, hl, fun _ => rfl⟩, fun d S' v H' m' e _ _ _ r => by cases e; cases r; rfl⟩) (fun _ _ _ _ _ z => z)
theorem top_mkS {P : Program} {w : World} {K : PySem.W.Frag} {h : Heap} {mg : Str → Option Value} {x y : Str} {st : Stmt} {k : Nat} {f fa : Addr} {oc kV dc pm cd ct : Value} {od an : Option Addr} {sl : Array (Option Value)} (X : K.In h) (G : h.Ns mainGlobals mg) (hfa : mg x = some (.ref fa))
    (hb : ∀ (kV doc pm : Value) (an : Option Addr) (cdv ct u : Value), bindArgs (PySem.W.fnOf x x (defArgs st) (defBody st) (defScope st) Value.none kV doc pm an cdv ct) { pos := [u] } = pure [(y, u)])
    (hF : ∀ (f : Addr) (fd : FuncData), Fun K x x st f fd → ∀ base : Heap, HasSys base → FnG P w K mg base CX0 k f fd [y] (toSp K c_law))
    (a : PySem.W.nsIn K mainGlobals x = some (some (.ref f))) (l : K.lookup f = some ⟨oc, od, .func (PySem.W.fnOf x x (defArgs st) (defBody st) (defScope st) .none kV dc pm an cd ct), sl⟩) (c : PySem.W.codeIn K cd x = true) (kp : PySem.W.keepIn K (.ref f) = true) :
    ∃ fd : FuncData, (∀ (s : Shared) (u : Value), BindsTo s fd ⟨[u], []⟩ [(y, u)]) ∧ ∀ base : Heap, K.In base → base.Ns mainGlobals mg → HasSys base → FnG P w K mg base CX0 k fa fd [y] (toSp K c_law) := by
  have e := hfa.symm.trans (PySem.W.mg_of X G a)
  cases e
  exact ⟨_, fun s u => .of_eq (hb _ _ _ _ _ _ u), fun base _ _ => hF f _ (fun_mk (st := st) l c kp) base⟩

end DL

set_option Elab.async false
set_option linter.all false
set_option maxRecDepth 100000
set_option maxHeartbeats 1000000
namespace DL
open PySem L2 PyProof.Rows
/-! ### dicts that change, stars, truth, three at once -/
def putD (kvs : List (Key × D)) (k : Key) (v : D) : List (Key × D) :=
  if (kvs.any fun kv => decide (kv.1 = k)) = true then kvs.map (fun kv => if kv.1 = k then (kv.1, v) else kv) else kvs ++ [(k, v)]
section
variable {K : PySem.W.Frag} {H : Hp} {m : Mp}
theorem any_keys {α β : Type} {k : Key} : ∀ {a : List (Key × α)} {b : List (Key × β)}, a.map (·.1) = b.map (·.1) → (a.any fun kv => decide (kv.1 = k)) = (b.any fun kv => decide (kv.1 = k))
  | [], [], _ => rfl
  | [], _ :: _, h => by cases h
  | _ :: _, [], h => by cases h
  | x :: r, y :: s, h => by
    have h1 : x.1 = y.1 := (List.cons.inj h).1
    rw [List.any_cons, List.any_cons, h1, any_keys (List.cons.inj h).2]
theorem map_rel {k : Key} {v : V} {d : D} (r : Dv K H m v d) : ∀ {a : List (Key × V)} {b : List (Key × D)}, a.map (·.1) = b.map (·.1) → DvA K H m (a.map (·.2)) (b.map (·.2)) →
    (a.map fun kv => if kv.1 = k then (kv.1, v) else kv).map (·.1) = (b.map fun kv => if kv.1 = k then (kv.1, d) else kv).map (·.1) ∧
    DvA K H m ((a.map fun kv => if kv.1 = k then (kv.1, v) else kv).map (·.2)) ((b.map fun kv => if kv.1 = k then (kv.1, d) else kv).map (·.2))
  | [], [], _, _ => ⟨rfl, .nil⟩
  | [], _ :: _, h, _ => by cases h
  | _ :: _, [], h, _ => by cases h
  | (a, x) :: ra, (b, y) :: rb, h, q => by
    have h1 : a = b := (List.cons.inj h).1
    subst h1
    cases q with
    | cons q1 q2 =>
      obtain ⟨i1, i2⟩ := map_rel (k := k) r (List.cons.inj h).2 q2
      by_cases e : a = k
      · simp only [List.map_cons, if_pos e]
        exact ⟨by rw [i1], .cons r i2⟩
      · simp only [List.map_cons, if_neg e]
        exact ⟨by rw [i1], .cons q1 i2⟩
theorem put_rel {k : Key} {v : V} {d : D} (r : Dv K H m v d) {a : List (Key × V)} {b : List (Key × D)} (h : a.map (·.1) = b.map (·.1)) (q : DvA K H m (a.map (·.2)) (b.map (·.2))) :
    (putK a k v).map (·.1) = (putD b k d).map (·.1) ∧ DvA K H m ((putK a k v).map (·.2)) ((putD b k d).map (·.2)) := by
  unfold putK putD
  rw [any_keys (k := k) h]
  by_cases e : (b.any fun kv => decide (kv.1 = k)) = true
  · rw [if_pos e, if_pos e]
    exact map_rel r h q
  · rw [if_neg e, if_neg e]
    simp only [List.map_append, List.map_cons, List.map_nil]
    exact ⟨by rw [h], q.append (.cons r .nil)⟩
/-- a dict written -/
theorem Rel.setK {S : Sto} (R : Rel K H m S) {i : Nat} {a : Addr} {xs kws : List (Key × V)} {kvs : List (Key × D)} (e : m[i]? = some a) (h : H a = some (.dK xs)) (hk : kws.map (·.1) = kvs.map (·.1)) (r : DvA K H m (kws.map (·.2)) (kvs.map (·.2))) : Rel K (upd H a (.dK kws)) m (S.set i (.dct kvs)) := by
  have k : Kp H (upd H a (.dK kws)) := .putK h
  refine ⟨by rw [List.length_set]; exact R.len, R.nd, fun j b o e' s => ?_⟩
  by_cases hj : j = i
  · subst hj
    rw [e] at e'
    cases e'
    have hl : j < S.length := R.len ▸ (List.getElem?_eq_some_iff.mp e).1
    rw [List.getElem?_set_self hl] at s
    cases s
    exact ⟨kws, upd_same, hk, DvA.mono k (.refl m) _ _ r⟩
  · rw [List.getElem?_set_ne (fun z => hj z.symm)] at s
    have hne : b ≠ a := fun z => hj (by
      subst z
      exact Rel.put.nodup_at R.nd e' e)
    exact (R.ob j b o e' s).mono k (.refl m) (upd_ne hne)
theorem Rel.dct {S : Sto} (R : Rel K H m S) {i : Nat} {v : V} {kvs : List (Key × D)} (d : Dv K H m v (.loc i)) (s : S[i]? = some (.dct kvs)) : ∃ a kws, v = .ref a ∧ m[i]? = some a ∧ H a = some (.dK kws) ∧ kws.map (·.1) = kvs.map (·.1) ∧ DvA K H m (kws.map (·.2)) (kvs.map (·.2)) := by
  cases d with
  | loc e =>
    obtain ⟨vs, h, k, r⟩ := R.ob i _ _ e s
    exact ⟨_, vs, rfl, e, h, k, r⟩
end
/-- dict(d) -/
def bDictOf (xs : List D) (S : Sto) : Option (D × Sto) := match xs with
  | [.loc i] => match S[i]? with
    | some (.dct kvs) => some (.loc S.length, S ++ [.dct kvs])
    | _ => none
  | _ => none
/-- d[k] = v -/
def fsDPut (v d k : FE) (δ : DEnv) (S : Sto) : Option (Fl × Sto) := (v δ S).bind fun p => (d δ p.2).bind fun q => (k δ q.2).bind fun r => match q.1, r.1 with
  | .loc i, .str s => match r.2[i]? with
    | some (.dct kvs) => if kvs.length < 100000 then some (.nx δ, r.2.set i (.dct (putD kvs (.inr s) p.1))) else none
    | _ => none
  | _, _ => none
/-- d[k] -/
def oDGet (x y : D) (S : Sto) : Option (D × Sto) := match x, y with
  | .loc i, .str s => match S[i]? with
    | some (.dct kvs) => (valD kvs (.inr s)).bind fun v => some (v, S)
    | _ => none
  | _, _ => none
/-- whether it counts as true -/
def truD (S : Sto) : D → Option Bool
  | .non => some false
  | .bl b => some b
  | .int i => some (i != 0)
  | .tup ds => some (!ds.isEmpty)
  | .loc i => match S[i]? with
    | some (.lst ds) => some (!ds.isEmpty)
    | some (.dct kvs) => some (!kvs.isEmpty)
    | none => none
  | _ => none
def fTru (f : FE) (δ : DEnv) (S : Sto) : Option (Bool × Sto) := (f δ S).bind fun p => (truD p.2 p.1).bind fun b => some (b, p.2)
/-- *e ahead of others -/
def fStar (f : FE) (g : FA) (δ : DEnv) (S : Sto) : Option (List D × Sto) := (f δ S).bind fun p => match p.1 with
  | .tup ds => (g δ p.2).bind fun q => some (ds ++ q.1, q.2)
  | .loc i => match p.2[i]? with
    | some (.lst ds) => (g δ p.2).bind fun q => some (ds ++ q.1, q.2)
    | _ => none
  | _ => none
def fg3 (g h k : FG) (x : D) (δ : DEnv) (S : Sto) : Option (DEnv × Sto) := match x with
  | .tup [d1, d2, d3] => (g d1 δ S).bind fun p => (h d2 p.1 p.2).bind fun q => k d3 q.1 q.2
  | _ => none
/-- the greatest, the least of ints -/
def maxL : List Int → Int
  | [] => 0
  | a :: r => r.foldl max a
def minL : List Int → Int
  | [] => 0
  | a :: r => r.foldl min a
theorem foldl_max_ge : ∀ (r : List Int) (a : Int), a ≤ r.foldl max a ∧ (∀ y ∈ r, y ≤ r.foldl max a) ∧ (r.foldl max a = a ∨ r.foldl max a ∈ r)
  | [], a => ⟨Int.le_refl _, fun y h => absurd h List.not_mem_nil, .inl rfl⟩
  | x :: r, a => by
    obtain ⟨h1, h2, h3⟩ := foldl_max_ge r (max a x)
    rw [List.foldl_cons]
    refine ⟨Int.le_trans (Int.le_max_left _ _) h1, fun y hy => ?_, ?_⟩
    · rcases List.mem_cons.mp hy with rfl | h
      · exact Int.le_trans (Int.le_max_right _ _) h1
      · exact h2 y h
    · rcases h3 with h | h
      · rcases Int.le_total a x with hx | hx
        · rw [Int.max_eq_right hx] at h ⊢
          exact .inr (by rw [h]; exact List.mem_cons_self)
        · rw [Int.max_eq_left hx] at h ⊢
          exact .inl h
      · exact .inr (List.mem_cons_of_mem _ h)
theorem foldl_min_le : ∀ (r : List Int) (a : Int), r.foldl min a ≤ a ∧ (∀ y ∈ r, r.foldl min a ≤ y) ∧ (r.foldl min a = a ∨ r.foldl min a ∈ r)
  | [], a => ⟨Int.le_refl _, fun y h => absurd h List.not_mem_nil, .inl rfl⟩
  | x :: r, a => by
    obtain ⟨h1, h2, h3⟩ := foldl_min_le r (min a x)
    rw [List.foldl_cons]
    refine ⟨Int.le_trans h1 (Int.min_le_left _ _), fun y hy => ?_, ?_⟩
    · rcases List.mem_cons.mp hy with rfl | h
      · exact Int.le_trans h1 (Int.min_le_right _ _)
      · exact h2 y h
    · rcases h3 with h | h
      · rcases Int.le_total a x with hx | hx
        · rw [Int.min_eq_left hx] at h ⊢
          exact .inl h
        · rw [Int.min_eq_right hx] at h ⊢
          exact .inr (by rw [h]; exact List.mem_cons_self)
      · exact .inr (List.mem_cons_of_mem _ h)
theorem maxL_eq {ns : List Int} {m : Int} (h : m ∈ ns) (hm : ∀ y ∈ ns, y ≤ m) : m = maxL ns := by
  cases ns with
  | nil => cases h
  | cons a r =>
    obtain ⟨h1, h2, h3⟩ := foldl_max_ge r a
    apply Int.le_antisymm
    · rcases List.mem_cons.mp h with rfl | h
      · exact h1
      · exact h2 m h
    · show r.foldl max a ≤ m
      rcases h3 with h3 | h3
      · rw [h3]; exact hm _ List.mem_cons_self
      · exact hm _ (List.mem_cons_of_mem _ h3)
theorem minL_eq {ns : List Int} {m : Int} (h : m ∈ ns) (hm : ∀ y ∈ ns, m ≤ y) : m = minL ns := by
  cases ns with
  | nil => cases h
  | cons a r =>
    obtain ⟨h1, h2, h3⟩ := foldl_min_le r a
    apply Int.le_antisymm
    · show m ≤ r.foldl min a
      rcases h3 with h3 | h3
      · rw [h3]; exact hm _ List.mem_cons_self
      · exact hm _ (List.mem_cons_of_mem _ h3)
    · rcases List.mem_cons.mp h with rfl | h
      · exact h1
      · exact h2 m h
def bMaxL (xs : List D) (S : Sto) : Option (D × Sto) := match xs with
  | [.loc i] => match S[i]? with
    | some (.lst ds) => (asInts ds).bind fun ns => if ns.isEmpty then none else some (.int (maxL ns), S)
    | _ => none
  | _ => none
def bMinL (xs : List D) (S : Sto) : Option (D × Sto) := match xs with
  | [.loc i] => match S[i]? with
    | some (.lst ds) => (asInts ds).bind fun ns => if ns.isEmpty then none else some (.int (minL ns), S)
    | _ => none
  | _ => none
/-- {'a': e, ..}: the dict is laid first, then its values -/
def fDisp (ks : List Str) (u : FA) (δ : DEnv) (S : Sto) : Option (D × Sto) := (u δ (S ++ [.dct []])).bind fun p => if p.1.length = ks.length then match p.2[S.length]? with
    | some (.dct []) => some (.loc S.length, p.2.set S.length (.dct ((ks.map Sum.inr).zip p.1)))
    | _ => none
  else none
open Classical in
/-- tuple times int, also of no items -/
noncomputable def oMulE (x y : D) (S : Sto) : Option (D × Sto) := match x, y with
  | .tup [], .int k => if 0 ≤ k ∧ k ≤ 2000 then some (.tup [], S) else none
  | _, _ => oMul x y S
section
variable {X : Cx} {pos p : Pos} {a b : Expr} {e : Expr} {es : List Expr} {te ta tb : TE} {f g h : FE} {tA : TA} {u : FA}
def vDictOf : List V → Hp → VK → Prop := fun xs H Q => ∃ (a : Addr) (kvs : List (Key × V)), xs = [.ref a] ∧ Rd H a (.dK kvs) ∧ ∀ p, H p = none → Q (.ref p) (upd H p (.dK kvs))
theorem xb_dictOf : CallD X (.type "dict") vDictOf (toB bDictOf) := ⟨call_dictD, fun H m S xs vs Q Q' R rx ⟨p, h, q⟩ c => by
  unfold bDictOf at h
  split at h
  case h_2 => cases h
  rename_i i
  split at h
  case h_2 => cases h
  rename_i kvs hs
  cases h
  cases rx with
  | cons r1 r2 =>
    cases r2
    obtain ⟨a, kws, rfl, em, hH, hk, d⟩ := R.dct r1 hs
    exact ⟨a, kws, rfl, .inl hH, fun p hp => c _ _ _ _ (m ++ [p]) q (.new hp) ⟨[p], rfl⟩ (R.pushK hp hk d) (.loc (by rw [← R.len, List.getElem?_append_right (Nat.le_refl _), Nat.sub_self]; rfl))⟩⟩
theorem xs_dput {o i value : Expr} {td ty tv : TE} {d k v : FE} {pos' : Pos} (hu : X.A.units + 1 < cLine) (ho : PD X o td (toE d)) (hi : PD X i ty (toE k)) (hv : PD X value tv (toE v)) (hs : swapsWith value (some (.Subscript o i pos')) pos.line X.env = pure false := by rfl) :
    PSD X (.Assign [.Subscript o i pos'] value pos) (sDPut td ty tv) (toS (fsDPut v d k)) := ⟨ps_dput hu ho.pe hi.pe hv.pe hs, fun σ H m S δ Z Z' R ev ⟨p, h, q⟩ c => by
  simp only [fsDPut, Option.bind_eq_some_iff] at h
  obtain ⟨p1, h1, p2, h2, p3, h3, h4⟩ := h
  refine hv.sim σ H m S δ _ (fun d S' => (d, S') = p1) R ev ⟨p1, h1, rfl⟩ ?_
  rintro x S1 vx H1 m1 rfl k1 g1 R1 r1
  refine ho.sim σ H1 m1 S1 δ _ (fun d S' => (d, S') = p2) R1 (ev.mono k1 g1) ⟨p2, h2, rfl⟩ ?_
  rintro y S2 vy H2 m2 rfl k2 g2 R2 r2
  refine hi.sim σ H2 m2 S2 δ _ (fun d S' => (d, S') = p3) R2 ((ev.mono k1 g1).mono k2 g2) ⟨p3, h3, rfl⟩ ?_
  rintro z S3 vz H3 m3 rfl k3 g3 R3 r3
  split at h4
  case h_2 => cases h4
  rename_i i s e1 e2
  have e1 : y = .loc i := e1
  have e2 : z = .str s := e2
  subst e1 e2
  split at h4
  case h_2 => cases h4
  rename_i kvs hs
  split at h4
  case isFalse => cases h4
  rename_i hl
  cases h4
  cases r3
  obtain ⟨a, kws, rfl, em, hH, hk, d⟩ := R3.dct (Dv.mono k3 g3 _ _ r2) hs
  have rx := Dv.mono (k2.trans k3) (g2.trans g3) _ _ r1
  obtain ⟨n1, n2⟩ := put_rel (k := Sum.inr s) rx hk d
  have hlen : kws.length = kvs.length := by have := congrArg List.length hk; simpa using this
  refine ⟨a, _, rfl, DPut.k (k := Sum.inr s) hH (small5' (by omega)), ?_⟩
  have kk := (k1.trans k2).trans k3
  have gg := (g1.trans g2).trans g3
  exact c.nx δ _ σ _ m3 q (kk.trans (.putK hH)) gg (R3.setK em hH n1 n2) ((ev.mono kk gg).mono (.putK hH) (.refl m3))⟩
theorem x_dget {o i : Expr} {td ty : TE} {d k : FE} (hu : X.A.units + 1 < cLine) (ho : PD X o td (toE d)) (hi : PD X i ty (toE k)) (hs : NoSl i := by first | exact (fun _ _ => rfl) | rfl) : PD X (.Subscript o i pos) (tDGet td ty) (toE (fOp oDGet d k)) := ⟨pe_dget hu ho.pe hi.pe hs, fun σ H m S δ Q Q' R ev ⟨p, h, q⟩ c => by
  simp only [fOp, Option.bind_eq_some_iff] at h
  obtain ⟨p1, h1, p2, h2, h3⟩ := h
  refine ho.sim σ H m S δ _ (fun d S' => (d, S') = p1) R ev ⟨p1, h1, rfl⟩ ?_
  rintro x S1 vx H1 m1 rfl k1 g1 R1 r1
  refine hi.sim σ H1 m1 S1 δ _ (fun d S' => (d, S') = p2) R1 (ev.mono k1 g1) ⟨p2, h2, rfl⟩ ?_
  rintro y S2 vy H2 m2 rfl k2 g2 R2 r2
  unfold oDGet at h3
  split at h3
  case h_2 => cases h3
  rename_i i s e1 e2
  have e1 : x = .loc i := e1
  have e2 : y = .str s := e2
  subst e1 e2
  split at h3
  case h_2 => cases h3
  rename_i kvs hs
  simp only [Option.bind_eq_some_iff] at h3
  obtain ⟨w, h4, h5⟩ := h3
  cases h5
  cases r2
  obtain ⟨a, kws, rfl, em, hH, hk, dd⟩ := R2.dct (Dv.mono k2 g2 _ _ r1) hs
  rcases val_rel (k := Sum.inr s) hk dd with ⟨e1, e2⟩ | ⟨v, d, e1, e2, d3⟩
  · rw [e2] at h4; cases h4
  · rw [e2] at h4
    cases h4
    refine ⟨a, v, rfl, ?_, (c.mono (k1.trans k2) (g1.trans g2)).same R2 q d3⟩
    rw [← e1]
    exact DGet.k (k := Sum.inr s) hH⟩
def tTru (K : PySem.W.Frag) (ta : TE) : TT := fun σ H Q => ta σ H fun x H' => ∃ k, TruV K x H' k ∧ Q k H'
theorem tru_rel {K : PySem.W.Frag} {H : Hp} {m : Mp} {S : Sto} {d : D} {v : V} {k : Bool} (R : Rel K H m S) (r : Dv K H m v d) (h : truD S d = some k) : TruV K v H k := by
  unfold truD at h
  split at h
  · cases h; cases r; rfl
  · cases h; cases r; rfl
  · cases h; cases r; rfl
  · cases h
    cases r with
    | tup s1 d1 =>
      refine .inr (.inl ⟨_, s1, ?_⟩)
      cases d1 <;> rfl
  · split at h
    · rename_i ds hs
      cases h
      obtain ⟨a, vs, rfl, _, hH, d1⟩ := R.lst r hs
      refine .inl ⟨_, SqL.of hH, ?_⟩
      cases d1 <;> rfl
    · rename_i kvs hs
      cases h
      obtain ⟨a, kws, rfl, _, hH, hk, d1⟩ := R.dct r hs
      refine .inr (.inr ⟨_, hH, ?_⟩)
      cases kws <;> cases kvs <;> first | rfl | cases hk
    · cases h
  · cases h
theorem xt_tru {e : Expr} (h : PD X e ta (toE f)) (he : ∀ whole, isTrue e X.env whole = (do let v ← whole; standAt e.pos; holding [v] (truthy v)) := by intro _; rfl) : PTD X e (tTru X.K ta) (toT (fTru f)) := ⟨pt_truth h.pe he, fun σ H m S δ Q Q' R ev ⟨p, hp, q⟩ c => by
  simp only [fTru, Option.bind_eq_some_iff] at hp
  obtain ⟨p1, h1, b, h2, h3⟩ := hp
  cases h3
  refine h.sim σ H m S δ _ (fun d S' => (d, S') = p1) R ev ⟨p1, h1, rfl⟩ ?_
  rintro x S1 vx H1 m1 rfl k1 g1 R1 r1
  exact ⟨b, tru_rel R1 r1 h2, c b S1 H1 m1 q k1 g1 R1⟩⟩
theorem xa_star {sp : Pos} (h : PD X e te (toE f)) (hr : PAD X es tA (toA u)) (hs : starEach (.Starred e sp :: es) X.env = (true, eval e X.env) :: starEach es X.env := by rfl) : PAD X (.Starred e sp :: es) (StX.tStar X.K te tA) (toA (fStar f u)) := ⟨StX.pa_star h.pe hr.pe hs, fun σ H m S δ Q Q' R ev ⟨p, hp, q⟩ c => by
  simp only [fStar, Option.bind_eq_some_iff] at hp
  obtain ⟨p1, h1, h2⟩ := hp
  refine h.sim σ H m S δ _ (fun d S' => (d, S') = p1) R ev ⟨p1, h1, rfl⟩ ?_
  rintro x S1 vx H1 m1 rfl k1 g1 R1 r1
  split at h2
  · rename_i ds e1
    have e1 : x = .tup ds := e1
    subst e1
    simp only [Option.bind_eq_some_iff] at h2
    obtain ⟨p2, h3, h4⟩ := h2
    cases h4
    cases r1 with
    | tup s1 d1 =>
      refine ⟨_, _, rfl, .inl s1, hr.sim σ H1 m1 S1 δ _ (fun d S' => (d, S') = p2) R1 (ev.mono k1 g1) ⟨p2, h3, rfl⟩ ?_⟩
      rintro y S2 vy H2 m2 rfl k2 g2 R2 r2
      exact c _ _ _ _ m2 q (k1.trans k2) (g1.trans g2) R2 ((DvA.mono k2 g2 _ _ d1).append r2)
  · rename_i i e1
    have e1 : x = .loc i := e1
    subst e1
    split at h2
    case h_2 => cases h2
    rename_i ds hs
    simp only [Option.bind_eq_some_iff] at h2
    obtain ⟨p2, h3, h4⟩ := h2
    cases h4
    obtain ⟨a, vs, rfl, _, hH, d1⟩ := R1.lst r1 hs
    refine ⟨_, _, rfl, .inr (SqL.of hH), hr.sim σ H1 m1 S1 δ _ (fun d S' => (d, S') = p2) R1 (ev.mono k1 g1) ⟨p2, h3, rfl⟩ ?_⟩
    rintro y S2 vy H2 m2 rfl k2 g2 R2 r2
    exact c _ _ _ _ m2 q (k1.trans k2) (g1.trans g2) R2 ((DvA.mono k2 g2 _ _ d1).append r2)
  · cases h2⟩
theorem xg_three {e1 e2 e3 : Expr} {n : Nat} {g h k : TG} {g' h' k' : FG} (hc : X.calm = true) (h1 : PGD X e1 g (toG g')) (h2 : PGD X e2 h (toG h')) (h3 : PGD X e3 k (toG k'))
    (hs1 : (assignEach [e1, e2, e3] X.env).map (·.2) = assign e1 X.env :: (assignEach [e2, e3] X.env).map (·.2) := by rfl) (hs2 : (assignEach [e2, e3] X.env).map (·.2) = assign e2 X.env :: (assignEach [e3] X.env).map (·.2) := by rfl)
    (hs3 : (assignEach [e3] X.env).map (·.2) = assign e3 X.env :: (assignEach [] X.env).map (·.2) := by rfl) (hn : (assignEach [e1, e2, e3] X.env).length = 3 := by rfl) (hst : (assignEach [e1, e2, e3] X.env).findIdx? (·.1) = none := by rfl) :
    PGD X (.Tuple [e1, e2, e3] n pos) (gTup X.K 3 (gCons g (gCons h (gCons k gNil)))) (toG (fg3 g' h' k')) := ⟨pg_tup hc (pgs_cons h1.pe (pgs_cons h2.pe (pgs_cons h3.pe pgs_nil hs3) hs2) hs1) hn hst, fun σ H m S δ x v Q Q' R ev r ⟨p, hp, q⟩ c => by
  unfold fg3 at hp
  split at hp
  case h_2 => cases hp
  simp only [Option.bind_eq_some_iff] at hp
  obtain ⟨p1, e1, p2, e2, e3⟩ := hp
  cases r with
  | tup s r =>
    cases r with
    | cons r1 r2 =>
      cases r2 with
      | cons r2 r3 =>
        cases r3 with
        | cons r3 r4 =>
          cases r4
          refine ⟨_, _, rfl, s, rfl, _, _, rfl, h1.sim σ H m S δ _ _ _ (fun δ S => (δ, S) = p1) R ev r1 ⟨p1, e1, rfl⟩ ?_⟩
          rintro δ1 S1 σ1 H1 m1 rfl k1 g1 R1 v1
          refine ⟨_, _, rfl, h2.sim σ1 H1 m1 S1 δ1 _ _ _ (fun δ S => (δ, S) = p2) R1 v1 (Dv.mono k1 g1 _ _ r2) ⟨p2, e2, rfl⟩ ?_⟩
          rintro δ2 S2 σ2 H2 m2 rfl k2 g2 R2 v2
          refine ⟨_, _, rfl, h3.sim σ2 H2 m2 S2 δ2 _ _ _ (fun δ S => (δ, S) = p) R2 v2 (Dv.mono (k1.trans k2) (g1.trans g2) _ _ r3) ⟨p, e3, rfl⟩ ?_⟩
          rintro δ3 S3 σ3 H3 m3 rfl k3 g3 R3 v3
          exact ⟨rfl, c δ3 S3 σ3 H3 m3 q ((k1.trans k2).trans k3) ((g1.trans g2).trans g3) R3 v3⟩⟩
theorem xb_maxL (hc : X.calm = true) : CallD X (.builtin "max") (rMax X.K) (toB bMaxL) := ⟨cr_max hc, fun H m S xs vs Q Q' R rx ⟨p, h, q⟩ c => by
  unfold bMaxL at h
  split at h
  case h_2 => cases h
  rename_i i
  split at h
  case h_2 => cases h
  rename_i ds hs
  simp only [Option.bind_eq_some_iff] at h
  obtain ⟨ns, h1, h2⟩ := h
  split at h2
  case isTrue => cases h2
  rename_i hne
  cases h2
  cases rx with
  | cons r1 r2 =>
    cases r2
    obtain ⟨a, ws, rfl, em, hH, d⟩ := R.lst r1 hs
    rw [ints_of h1] at d
    have := d.of_ints
    subst this
    refine ⟨a, ns, rfl, SqL.of hH, by cases ns with | nil => exact absurd rfl hne | cons _ _ => exact Nat.zero_lt_succ _, fun m hm hle => ?_⟩
    rw [maxL_eq hm hle]
    exact c.same R q (.int _)⟩
theorem xb_minL (hc : X.calm = true) : CallD X (.builtin "min") (rMin X.K) (toB bMinL) := ⟨cr_min hc, fun H m S xs vs Q Q' R rx ⟨p, h, q⟩ c => by
  unfold bMinL at h
  split at h
  case h_2 => cases h
  rename_i i
  split at h
  case h_2 => cases h
  rename_i ds hs
  simp only [Option.bind_eq_some_iff] at h
  obtain ⟨ns, h1, h2⟩ := h
  split at h2
  case isTrue => cases h2
  rename_i hne
  cases h2
  cases rx with
  | cons r1 r2 =>
    cases r2
    obtain ⟨a, ws, rfl, em, hH, d⟩ := R.lst r1 hs
    rw [ints_of h1] at d
    have := d.of_ints
    subst this
    refine ⟨a, ns, rfl, SqL.of hH, by cases ns with | nil => exact absurd rfl hne | cons _ _ => exact Nat.zero_lt_succ _, fun m hm hle => ?_⟩
    rw [minL_eq hm hle]
    exact c.same R q (.int _)⟩
/-- pairs of a display -/
def zipK (ks : List Str) (vs : List V) : List (Key × V) := (ks.map Sum.inr).zip vs
structure PPD (X : Cx) (pos : Pos) (keys : List (Option Expr)) (values : List Expr) (trs : List (TE × TE)) (ks : List Str) (u : FA) : Prop where
  pe : PPs X pos keys values trs
  len : ∀ δ S q, u δ S = some q → q.1.length = ks.length
  sim : ∀ (σ : L2.St) (H : Hp) (m : Mp) (S : Sto) (δ : DEnv) (Q : List (V × V) → Hp → Prop) (q : List D × Sto), Rel X.K H m S → EnvR X.K H m σ δ → u δ S = some q →
    (∀ vs H' m', Kp H H' → Gr m m' → Rel X.K H' m' q.2 → DvA X.K H' m' vs q.1 → Q ((zipK ks vs).map fun kv => (kV kv.1, kv.2)) H') → tPairs trs σ H Q
theorem xpp_nil : PPD X pos [] [] [] [] fNil := ⟨pps_nil, fun δ S q h => by cases h; rfl, fun σ H m S δ Q q R ev h c => by
  cases h
  exact c [] H m (.refl H) (.refl m) R .nil⟩
theorem xpp_cons {k : Str} {j : Nat} {kp : Pos} {v : Expr} {ks : List (Option Expr)} {vs : List Expr} {tv : TE} {trs : List (TE × TE)} {names : List Str} {fv : FE} (hv : PD X v tv (toE fv)) (hr : PPD X pos ks vs trs names u) :
    PPD X pos (some (.Constant (.str k) j kp) :: ks) (v :: vs) ((tC (.str k), tv) :: trs) (k :: names) (fCons fv u) := ⟨pps_cons pe_str hv.pe hr.pe, fun δ S q h => by
  simp only [fCons, Option.bind_eq_some_iff] at h
  obtain ⟨p1, h1, p2, h2, h3⟩ := h
  cases h3
  simp only [List.length_cons, hr.len _ _ _ h2], fun σ H m S δ Q q R ev h c => by
  simp only [fCons, Option.bind_eq_some_iff] at h
  obtain ⟨p1, h1, p2, h2, h3⟩ := h
  cases h3
  refine hv.sim σ H m S δ _ (fun d S' => (d, S') = p1) R ev ⟨p1, h1, rfl⟩ ?_
  rintro x S1 vx H1 m1 rfl k1 g1 R1 r1
  refine hr.sim σ H1 m1 S1 δ _ p2 R1 (ev.mono k1 g1) h2 ?_
  intro ws H2 m2 k2 g2 R2 r2
  exact c (vx :: ws) H2 m2 (k1.trans k2) (g1.trans g2) R2 (.cons (Dv.mono k2 g2 _ _ r1) r2)⟩
theorem merge_new : ∀ (more acc : List (Key × V)), (acc.map (·.1) ++ more.map (·.1)).Nodup → mergeK acc more = acc ++ more
  | [], acc, _ => by simp [mergeK]
  | (k, v) :: r, acc, h => by
    have hk : (acc.any fun kv => decide (kv.1 = k)) = false := by
      rw [List.any_eq_false]
      intro x hx e
      rw [decide_eq_true_eq] at e
      rw [List.nodup_append] at h
      exact h.2.2 x.1 (List.mem_map_of_mem hx) k (by simp) e
    have e : mergeK acc ((k, v) :: r) = mergeK (acc ++ [(k, v)]) r := by
      show mergeK (putK acc k v) r = _
      unfold putK
      rw [hk]
      rfl
    rw [e, merge_new r (acc ++ [(k, v)]) (by simpa using h), List.append_assoc]
    rfl
theorem zip_fst {α : Type} : ∀ {ks : List Key} {vs : List α}, vs.length = ks.length → (ks.zip vs).map (·.1) = ks
  | [], [], _ => rfl
  | [], _ :: _, h => by cases h
  | _ :: _, [], h => by cases h
  | k :: ks, v :: vs, h => by simp only [List.zip_cons_cons, List.map_cons]; rw [zip_fst (by simpa using h)]
theorem zip_snd {α : Type} : ∀ {ks : List Key} {vs : List α}, vs.length = ks.length → (ks.zip vs).map (·.2) = vs
  | [], [], _ => rfl
  | [], _ :: _, h => by cases h
  | _ :: _, [], h => by cases h
  | k :: ks, v :: vs, h => by simp only [List.zip_cons_cons, List.map_cons]; rw [zip_snd (by simpa using h)]
theorem x_disp {keys : List (Option Expr)} {values : List Expr} {trs : List (TE × TE)} {ks : List Str} (h : PPD X pos keys values trs ks u) (hall : keys.all (·.isSome) = true) (hl : keys.length = values.length) (h0 : keys ≠ []) (h15 : keys.length ≤ 15) (hc : ks.length ≤ 15) (hnd : (ks.map (Sum.inr (α := Int))).Nodup) :
    PD X (.Dict keys values pos) (tDisp trs) (toE (fDisp ks u)) := ⟨pe_disp h.pe hall hl h0 h15, fun σ H m S δ Q Q' R ev ⟨p, hp, q⟩ c a ha => by
  simp only [fDisp, Option.bind_eq_some_iff] at hp
  obtain ⟨p1, h1, h2⟩ := hp
  split at h2
  case isFalse => cases h2
  rename_i hlen
  split at h2
  case h_2 => cases h2
  rename_i hs
  cases h2
  have R1 : Rel X.K (upd H a (.dK [])) (m ++ [a]) (S ++ [.dct []]) := R.pushK (kws := []) (kvs := []) ha rfl .nil
  have g1 : Gr m (m ++ [a]) := ⟨[a], rfl⟩
  have em : (m ++ [a])[S.length]? = some a := by rw [← R.len, List.getElem?_append_right (Nat.le_refl _), Nat.sub_self]; rfl
  refine h.sim σ _ _ _ δ _ p1 R1 (ev.mono (.new ha) g1) h1 ?_
  intro vs H' m' k2 g2 R2 r2
  have em2 := g2.at em
  obtain ⟨kws, hH, hk, _⟩ := R2.ob _ _ _ em2 hs
  have : kws = [] := by cases kws with | nil => rfl | cons _ _ => cases hk
  subst this
  have lv : vs.length = (ks.map (Sum.inr (α := Int))).length := by rw [r2.length, hlen, List.length_map]
  have lp : p1.1.length = (ks.map (Sum.inr (α := Int))).length := by rw [hlen, List.length_map]
  refine ⟨hH, zipK ks vs, rfl, ?_, ?_⟩
  · unfold zipK
    rw [List.length_zip, List.length_map]
    omega
  · have e : mergeK [] (zipK ks vs) = zipK ks vs := by
      rw [merge_new _ _ (by unfold zipK; rw [List.map_nil, List.nil_append, zip_fst lv]; exact hnd)]
      rfl
    rw [e]
    refine c _ _ _ _ m' q (((Kp.new ha).trans k2).trans (.putK hH)) (g1.trans g2) (R2.setK em2 hH ?_ ?_) (.loc em2)
    · unfold zipK
      rw [zip_fst lv, zip_fst lp]
    · unfold zipK
      rw [zip_snd lv, zip_snd lp]
      exact r2⟩
/-- () times anything -/
def rRepE (K : PySem.W.Frag) : R2 := fun x y H Q => ∃ l k, x = .ref l ∧ y = .int k ∧ SqT K H l [] ∧ 0 ≤ k ∧ k ≤ 2000 ∧ Q (.ref l) H
theorem op_repE : OpR X (binaryOp .Mult) (rRepE X.K) := by
  intro pins s σ H x y v u Q I rx ry h
  obtain ⟨l, k, rfl, rfl, hT, h1, h2, q⟩ := h
  cases rx
  obtain ⟨t, rfl⟩ := ry
  obtain ⟨its, r, ⟨⟨cls, dd, data, sl⟩, ho, hc, n, hd⟩, hs⟩ := I.tuple hT
  simp only at hc hd
  subst hc hd
  cases r
  have c0 : (decide (k < -(2 ^ 63)) || decide (k ≥ 2 ^ 63)) = false := by
    rw [decide_eq_false (by omega), decide_eq_false (by omega)] <;> rfl
  refine wpAny_binaryOp_repeat_ref (T := "tuple") (U := "int") (by decide) ⟨_, ho, rfl⟩ (fun s' => typeIs_int s' k t) noFill_tuple_mul F.fills_int_mul
    F.slot_int_rmul repeat_tuple F.slot_int_index.lookup (call_meets F.slot_int_rmul (typeIs_int s k t) F.entry_int_rmul (F.args_int_rmul_2 _ _)
      (int_rmul_tuple k t l ([] : List Value).toArray n dd sl) ⟨ho, rfl, ⟨_, ho, rfl⟩, ?_⟩)
  refine call_meets F.slot_tuple_mul ⟨_, ho, rfl⟩ F.entry_tuple_mul (F.args_tuple_mul_2 _ _) (tuple_mul1 l ([] : List Value).toArray n dd sl k t c0 (by simp)) ⟨ho, ?_⟩
  exact ⟨.ref l, H, I, rfl, q⟩
def vMulE (K : PySem.W.Frag) : R2 := fun x y H Q => rRepE K x y H Q ∨ vMul K x y H Q
theorem xo_mulE : OpD X (binaryOp .Mult) (vMulE X.K) (toR oMulE) := ⟨op_repE.or xo_mul.op, fun H m S x y vx vy Q Q' R rx ry ⟨p, h, q⟩ c => by
  unfold oMulE at h
  split at h
  · split at h
    case isFalse => cases h
    rename_i hh
    cases h
    cases ry
    cases rx with
    | tup s1 d1 =>
      cases d1
      exact .inl ⟨_, _, rfl, rfl, s1, hh.1, hh.2, c.same R q (.tup s1 .nil)⟩
  · exact .inr (xo_mul.sim H m S _ _ vx vy Q Q' R rx ry ⟨p, h, q⟩ c)⟩
end
end DL

set_option Elab.async false
set_option linter.all false
set_option maxRecDepth 100000
set_option maxHeartbeats 1000000
namespace DL
open PySem L2 PyProof.Rows
/-! ### t[::-1] of a tuple -/
section
variable {prog : Program} {w : World} {A : Around} {E : Value → Shared → Prop} {s : Shared}
theorem adjust_rev (n : Nat) : Builtin.Slice.sliceAdjust none none (-1) (n : Int) = ((n : Int) - 1, -1) := by
  unfold Builtin.Slice.sliceAdjust
  simp
theorem places_rev (n : Nat) : Builtin.Slice.slicePlaces ((n : Int) - 1) (-1) (-1) = n := by
  unfold Builtin.Slice.slicePlaces
  have h1 : ¬ ((-1 : Int) > 0) := by omega
  simp only [h1, if_false]
  cases n with
  | zero => simp
  | succ n =>
    rw [if_pos (by omega)]
    have e : (-(-1) : Int) = 1 := rfl
    rw [e, Int.ediv_one]
    omega
theorem fm_congr {α : Type} {f g : Nat → Option α} : ∀ l : List Nat, (∀ k ∈ l, f k = g k) → l.filterMap f = l.filterMap g
  | [], _ => rfl
  | k :: l, h => by
    rw [List.filterMap_cons, List.filterMap_cons, h k List.mem_cons_self, fm_congr l fun x hx => h x (List.mem_cons_of_mem _ hx)]
theorem fm_all {α : Type} : ∀ l : List α, (List.range l.length).filterMap (fun k => l[k]?) = l
  | [] => rfl
  | a :: l => by
    rw [List.length_cons, List.range_succ_eq_map, List.filterMap_cons, List.filterMap_map]
    show a :: (List.range l.length).filterMap (fun k => (a :: l)[k + 1]?) = a :: l
    congr 1
    exact fm_all l
theorem pick_rev (xs : Array Value) : ((List.range xs.size).filterMap fun (k : Nat) => xs[(((xs.size : Int) - 1) + (k : Int) * (-1)).toNat]?).toArray = xs.toList.reverse.toArray := by
  congr 1
  have e : (List.range xs.size).filterMap (fun (k : Nat) => xs[(((xs.size : Int) - 1) + (k : Int) * (-1)).toNat]?) = (List.range xs.size).filterMap (fun k => xs.toList.reverse[k]?) := by
    apply fm_congr
    intro k hk
    have hk : k < xs.size := List.mem_range.mp hk
    have e1 : (((xs.size : Int) - 1) + (k : Int) * (-1)).toNat = xs.size - 1 - k := by omega
    rw [e1, List.getElem?_reverse (by simpa using hk)]
    simp
  rw [e]
  have hl : xs.size = xs.toList.reverse.length := by simp
  rw [hl, fm_all]
theorem sliceApplied_rev {sl : Addr} {vl vu vs : Value} {n : Nat} {Q : Int × Int × Nat → Shared → Prop} (hs : s.heap.IsSliceOf sl vl vu vs) (pl : IsPart vl none) (pu : IsPart vu none) (ps : IsPart vs (some (-1)))
    (h : Q ((n : Int) - 1, -1, n) s) : wpAny (model prog w) A (Builtin.Slice.sliceApplied (.ref sl) (pure (n : Int))) Q E s := by
  obtain ⟨os, hos, hcs, hds⟩ := id hs
  unfold Builtin.Slice.sliceApplied Builtin.Slice.sliceFields
  refine wpAny_bind (wpAny_bind (wpAny_field hos hds (x := vl) rfl (wpAny_bind (wpAny_field hos hds (x := vu) rfl (wpAny_bind (wpAny_field hos hds (x := vs) rfl (wpAny_pure ?_)))))))
  refine wpAny_bind (HT.slicePart_ ps ?_)
  show wpAny _ _ (if ((-1 : Int) == 0) = true then _ else _) _ _ s
  rw [if_neg (by decide)]
  refine wpAny_bind (HT.slicePart_ pl (wpAny_bind (HT.slicePart_ pu (wpAny_bind (wpAny_pure ?_)))))
  show wpAny _ _ (match Builtin.Slice.sliceAdjust none none (-1) (n : Int) with | (lo, hi) => pure (lo, (-1 : Int), Builtin.Slice.slicePlaces lo hi (-1))) _ _ s
  rw [adjust_rev n]
  show wpAny _ _ (pure ((n : Int) - 1, (-1 : Int), Builtin.Slice.slicePlaces ((n : Int) - 1) (-1) (-1))) _ _ s
  rw [places_rev]
  exact wpAny_pure h
theorem getItem_tuple_rev {t sl : Addr} {items : Array Value} {vl vu vs : Value} {Q : Value → Shared → Prop} (ht : IsTup s.heap t items) (hs : s.heap.IsSliceOf sl vl vu vs) (pl : IsPart vl none) (pu : IsPart vu none) (ps : IsPart vs (some (-1)))
    (h : Q (.ref s.heap.objs.size) { s with heap := s.heap.push { cls := .type "tuple", data := .seq items.toList.reverse.toArray } })
    (hsz : items.size ≤ sizeLine) : wpAny (model prog w) A (getItem (.ref t) (.ref sl)) Q E s := by
  have htake : sizeOk (.seq items.toList.reverse.toArray) := by
    show items.toList.reverse.toArray.size ≤ sizeLine
    rw [List.size_toArray, List.length_reverse, Array.length_toList]
    omega
  obtain ⟨os, hos, hcs, hds⟩ := id hs
  have hTs : s.TypeIs (.ref sl) "slice" := ⟨os, hos, hcs⟩
  unfold getItem
  try with_reducible refine wpAny_holding ?_
  first | refine wpAny_bind (wpAny_pure ?_) | skip
  refine wpAny_bind (wpAny_sequenceKey ht.typeIs (by decide) ?_)
  refine wpAny_bind (wpAny_callSpecial?_slot (name := Str.ofString "__getitem__") ht.typeIs PyProof.Rows.slot_tuple_getitem
    (wpAny_call_entry PyProof.Rows.slot_tuple_getitem ht.typeIs entry_tuple_getitem ?_ (args_tuple_getitem _ _)))
  show wpAny _ _ (Builtin.Tuple.tupleItemsOf (.ref t) >>= _) _ _ s
  refine wpAny_bind (tupleItemsOf_ ht ?_)
  refine wpAny_bind (wpAny_typeOf hTs ?_)
  rw [if_pos (by decide)]
  refine wpAny_bind (sliceApplied_rev hs pl pu ps ?_)
  have hno : ¬ ((((items.size : Int) - 1) == 0 && (-1 : Int) == 1 && items.size == items.size) = true) := by simp
  show wpAny _ _ (if (((items.size : Int) - 1) == 0 && (-1 : Int) == 1 && items.size == items.size) = true then _ else _) _ _ s
  rw [if_neg hno, pick_rev]
  first
    | exact wpAny_bind (m := Builtin.Tuple.tupleExact _) (wpAny_newObj_type (wpAny_pure ⟨_, rfl, wpAny_pure h⟩) htake)
    | exact wpAny_bind (m := Builtin.Tuple.tupleExact _) (wpAny_newObj_type (wpAny_bind (wpAny_pure (wpAny_pure ⟨_, rfl, wpAny_pure h⟩))) htake)
    | exact wpAny_bind (wpAny_bind (m := Builtin.Tuple.tupleExact _) (wpAny_newObj_type (wpAny_pure (wpAny_pure ⟨_, rfl, wpAny_pure h⟩)) htake))
    | exact wpAny_bind (wpAny_bind (m := Builtin.Tuple.tupleExact _) (wpAny_newObj_type (wpAny_pure ⟨_, rfl, wpAny_pure h⟩) htake))
end
section
variable {X : Cx} {pos p : Pos} {a b : Expr} {e : Expr} {es : List Expr} {te ta tb : TE} {f g h : FE} {tA : TA} {u : FA}
def tRevT (K : PySem.W.Frag) (te : TE) : TE := fun σ H Q => te σ H fun x H1 => ∃ a xs, x = .ref a ∧ SqT K H1 a xs ∧ ∀ p, H1 p = none → Q (.ref p) (upd H1 p (.tup xs.reverse))
theorem pe_revT {k : Nat} {p1 p2 p3 : Pos} (he : PE X e te) : PE X (.Subscript e (.Slice none none (some (.UnaryOp .USub (.Constant (.int 1) k p1) p2)) p3) pos) (tRevT X.K te) := by
  refine ⟨fun pins s σ H Q I h => ?_⟩
  refine Subscript_ (thn (he.run pins s σ H _ I h) fun v s1 ⟨x, H1, I1, r1, q1⟩ => ?_)
  obtain ⟨a, xs, ex, hx, q⟩ := q1
  subst ex
  cases r1
  have hst : PO X (some (.UnaryOp .USub (.Constant (.int 1) k p1) p2)) (tPart (tUn (rU fun i => .int (-i)) (tC (.int 1)))) := po_some (pe_un un_neg pe_int)
  refine wpAny_Slice (thn (po_none.run pins s1 σ H1 (fun o H2 => o = none ∧ H2 = H1) I1 ⟨rfl, rfl⟩) fun vl s2 ⟨l, H2, I2, pl, el, e2⟩ => ?_)
  subst el e2
  refine thn (po_none.run pins s2 σ H2 (fun o H3 => o = none ∧ H3 = H2) I2 ⟨rfl, rfl⟩) fun vu s3 ⟨u, H3, I3, pu, eu, e3⟩ => ?_
  subst eu e3
  refine thn (hst.run pins s3 σ H3 (fun o H4 => o = some (-1) ∧ H4 = H3) I3 ⟨1, rfl, -1, rfl, rfl, rfl⟩) fun vs s4 ⟨o, H4, I4, ps, eo, e4⟩ => ?_
  subst eo e4
  have I5 : Inv X pins σ H4 { s4 with heap := s4.heap.push { cls := .type "slice", data := .fields #[vl, vu, vs] } } := I4.kept (t' := s4.toks) fun b ob q => Heap.get?_push_of_some _ q
  obtain ⟨its, r, ht, hz⟩ := I5.tuple hx
  have hlen := r.length
  show wpAny (model X.prog X.w) X.A (subscriptTail e (.Slice none none (some (.UnaryOp .USub (.Constant (.int 1) k p1) p2)) p3) (.ref a) (.ref s4.heap.objs.size)) (EP X pins σ Q) X.xe { s4 with heap := s4.heap.push { cls := .type "slice", data := .fields #[vl, vu, vs] } }
  refine tail_any (ops := [.ref a, .ref s4.heap.objs.size]) ht.typeIs (PyProof.Rows.slot_tuple_getitem.lookup) ?_ (by with_unfolding_all rfl)
  refine getItem_tuple_rev ht (Heap.IsSliceOf.new _ vl vu vs) pl pu ps ?_ (by rw [List.size_toArray]; omega)
  refine ⟨.ref _, _, I5.laid (t' := s4.toks) (o := .tup xs.reverse) (fun b ob q => Heap.get?_push_of_some _ q) (Nat.le_refl _) ?_, rfl, q _ (I5.hok.fresh (Nat.le_refl _))⟩
  exact ⟨by rw [List.length_reverse]; exact hz, _, r.reverse, IsTup.new _ _⟩
def fRevT (f : FE) (δ : DEnv) (S : Sto) : Option (D × Sto) := (f δ S).bind fun p => match p.1 with
  | .tup ds => some (.tup ds.reverse, p.2)
  | _ => none
theorem x_revT {k : Nat} {p1 p2 p3 : Pos} (h : PD X a ta (toE f)) : PD X (.Subscript a (.Slice none none (some (.UnaryOp .USub (.Constant (.int 1) k p1) p2)) p3) pos) (tRevT X.K ta) (toE (fRevT f)) := ⟨pe_revT h.pe, fun σ H m S δ Q Q' R ev ⟨p, hp, q⟩ c => by
  simp only [fRevT, Option.bind_eq_some_iff] at hp
  obtain ⟨p1, h1, h2⟩ := hp
  refine h.sim σ H m S δ _ (fun d S' => (d, S') = p1) R ev ⟨p1, h1, rfl⟩ ?_
  rintro x S1 vx H1 m1 rfl k1 g1 R1 r1
  split at h2
  case h_2 => cases h2
  rename_i ds e1
  have e1 : x = .tup ds := e1
  subst e1
  cases h2
  cases r1 with
  | tup s1 d1 => exact ⟨_, _, rfl, s1, (c.mono k1 g1).newT R1 d1.reverse q⟩⟩
/-! ### lists of texts compared -/
def oEqS (f : Bool → Bool) (x y : D) (S : Sto) : Option (D × Sto) := match x, y with
  | .loc i, .loc j => match S[i]?, S[j]? with
    | some (.lst a), some (.lst b) => (asStrs a).bind fun ys => (asStrs b).bind fun zs => some (.bl (f (decide (ys = zs))), S)
    | _, _ => none
  | _, _ => none
theorem strs_at {ys : List Str} : ∀ {its : List Value}, Vals (ys.map V.str) its → ∀ j (h : j < its.length) (h2 : j < ys.length), ∃ t, its[j] = Value.str ys[j] t := by
  induction ys with
  | nil => intro its r j h h2; exact absurd h2 (Nat.not_lt_zero j)
  | cons y ys ih =>
    intro its r j h h2
    cases r with
    | cons r1 r2 =>
      obtain ⟨t, rfl⟩ := r1
      cases j with
      | zero => exact ⟨t, rfl⟩
      | succ j => exact ih r2 j (by simpa using h) (by simpa using h2)
theorem all_eq {ys zs : List Str} (h : ys.length = zs.length) : (List.range ys.length).all (fun j => ys.getD j "" == zs.getD j "") = decide (ys = zs) := by
  by_cases e : ys = zs
  · subst e
    rw [decide_eq_true rfl, List.all_eq_true]
    intro j _
    exact beq_self_eq_true _
  · rw [decide_eq_false e, List.all_eq_false]
    by_cases hh : ∃ x, x ∈ List.range ys.length ∧ ¬ (ys.getD x "" == zs.getD x "") = true
    · exact hh
    · exfalso
      apply e
      apply List.ext_getElem h
      intro j h1 h2
      have hj : (ys.getD j "" == zs.getD j "") = true := by
        by_cases q : (ys.getD j "" == zs.getD j "") = true
        · exact q
        · exact absurd ⟨j, List.mem_range.mpr h1, q⟩ hh
      have := eq_of_beq hj
      simpa [List.getD, h1, h2] using this
def rStrs (K : PySem.W.Frag) (f : Bool → Bool) : R2 := fun x y H Q => ∃ a b, ∃ ys zs : List Str, x = .ref a ∧ y = .ref b ∧ SqL K H a (ys.map V.str) ∧ SqL K H b (zs.map V.str) ∧ Q (.bl (f (decide (ys = zs)))) H
theorem strs_pre {ys zs : List Str} {its its2 : List Value} (r : Vals (ys.map V.str) its) (r2 : Vals (zs.map V.str) its2) {A : Around} {s : Shared} (j : Nat) (h1 : j < its.toArray.size) (h2 : j < its2.toArray.size) : SeqAt.EqAt A s its.toArray[j] its2.toArray[j] (ys.getD j "" == zs.getD j "") := by
  have l1 : its.length = ys.length := by rw [← r.length, List.length_map]
  have l2 : its2.length = zs.length := by rw [← r2.length, List.length_map]
  have h1' : j < its.length := by simpa using h1
  have h2' : j < its2.length := by simpa using h2
  obtain ⟨t, e1⟩ := strs_at r j h1' (by omega)
  obtain ⟨t2, e2⟩ := strs_at r2 j h2' (by omega)
  have e3 : ys.getD j "" = ys[j]'(by omega) := by simp [List.getD, show j < ys.length by omega]
  have e4 : zs.getD j "" = zs[j]'(by omega) := by simp [List.getD, show j < zs.length by omega]
  simp only [List.getElem_toArray]
  rw [e1, e2, e3, e4]
  exact SeqAt.EqAt.str_str _ t _ t2
theorem op_eqStrs (hu : X.A.units + 64 < cLine) : OpR X (compareOp .Eq) (rStrs X.K id) := by
  intro pins s σ H x y v u Q I rx ry h
  obtain ⟨a, b, ys, zs, rfl, rfl, h1, h2, q⟩ := h
  cases rx
  cases ry
  obtain ⟨its, r, p, _⟩ := I.list h1
  obtain ⟨its2, r2, p2, _⟩ := I.list h2
  have l1 : its.length = ys.length := by rw [← r.length, List.length_map]
  have l2 : its2.length = zs.length := by rw [← r2.length, List.length_map]
  by_cases e : ys.length = zs.length
  · refine SeqAt.eq_listAt (e := fun j => ys.getD j "" == zs.getD j "") p.isList p2.isList (by simp; omega) (by omega) (fun j g1 g2 => strs_pre r r2 j g1 g2) ?_
    rw [List.size_toArray, l1, all_eq e]
    exact ⟨.bl _, H, I, rfl, q⟩
  · refine SeqAt.eq_list_lengthsAt p.isList p2.isList (by simp; omega) (by omega) ?_
    have : decide (ys = zs) = false := decide_eq_false fun z => e (by rw [z])
    rw [this] at q
    exact ⟨.bl _, H, I, rfl, q⟩
theorem op_neStrs (hu : X.A.units + 64 < cLine) : OpR X (compareOp .NotEq) (rStrs X.K not) := by
  intro pins s σ H x y v u Q I rx ry h
  obtain ⟨a, b, ys, zs, rfl, rfl, h1, h2, q⟩ := h
  cases rx
  cases ry
  obtain ⟨its, r, p, _⟩ := I.list h1
  obtain ⟨its2, r2, p2, _⟩ := I.list h2
  have l1 : its.length = ys.length := by rw [← r.length, List.length_map]
  have l2 : its2.length = zs.length := by rw [← r2.length, List.length_map]
  by_cases e : ys.length = zs.length
  · refine SeqAt.RcNeAt.lists (e := fun j => ys.getD j "" == zs.getD j "") p.isList p2.isList (by simp; omega) (by omega) (fun j g1 g2 => strs_pre r r2 j g1 g2) _ _ _ _ ?_
    rw [List.size_toArray, l1, all_eq e]
    exact ⟨.bl _, H, I, rfl, q⟩
  · refine SeqAt.RcNeAt.lists_lengths p.isList p2.isList (by simp; omega) (by omega) _ _ _ _ ?_
    have : decide (ys = zs) = false := decide_eq_false fun z => e (by rw [z])
    rw [this] at q
    exact ⟨.bl _, H, I, rfl, q⟩
theorem eqS_sim {g : Bool → Bool} (H : Hp) (m : Mp) (S : Sto) (x y : D) (vx vy : V) (Q : VK) (Q' : DK) (R : Rel X.K H m S) (rx : Dv X.K H m vx x) (ry : Dv X.K H m vy y) (h : toR (oEqS g) x y S Q') (c : Cont X.K H m Q' Q) : rStrs X.K g vx vy H Q := by
  obtain ⟨p, h, q⟩ := h
  unfold oEqS at h
  split at h
  case h_2 => cases h
  rename_i i j
  split at h
  case h_2 => cases h
  rename_i a b ha hb
  simp only [Option.bind_eq_some_iff] at h
  obtain ⟨ys, h1, zs, h2, h3⟩ := h
  cases h3
  obtain ⟨p1, vs1, rfl, _, hH1, d1⟩ := R.lst rx ha
  obtain ⟨p2, vs2, rfl, _, hH2, d2⟩ := R.lst ry hb
  have e1 := strs_vs d1 h1
  have e2 := strs_vs d2 h2
  subst e1 e2
  exact ⟨_, _, ys, zs, rfl, rfl, SqL.of hH1, SqL.of hH2, c.same R q (.bl _)⟩
theorem xo_eqS (hu : X.A.units + 64 < cLine) : OpD X (compareOp .Eq) (rStrs X.K id) (toR (oEqS id)) := ⟨op_eqStrs hu, eqS_sim⟩
theorem xo_neS (hu : X.A.units + 64 < cLine) : OpD X (compareOp .NotEq) (rStrs X.K not) (toR (oEqS not)) := ⟨op_neStrs hu, eqS_sim⟩
end
/-! ### worked out by simp -/
def revTK : Option (D × Sto) → Option (D × Sto)
  | some (.tup ds, S) => some (.tup ds.reverse, S)
  | _ => none
@[simp] theorem revTK_1 {S : Sto} {ds : List D} : revTK (some (.tup ds, S)) = some (.tup ds.reverse, S) := rfl
@[simp] theorem revTK_2 : revTK none = none := rfl
@[simp] theorem fRevT_ev {f : FE} {δ : DEnv} {S : Sto} : fRevT f δ S = revTK (f δ S) := by
  unfold fRevT
  cases f δ S with
  | none => rfl
  | some p => obtain ⟨x, S1⟩ := p; cases x <;> rfl
def dputK3 (δ : DEnv) (v o : D) : Option (D × Sto) → Option (Fl × Sto)
  | some (k, S) => match o, k with
    | .loc i, .str s => match S[i]? with
      | some (.dct kvs) => if kvs.length < 100000 then some (.nx δ, S.set i (.dct (putD kvs (.inr s) v))) else none
      | _ => none
    | _, _ => none
  | none => none
@[simp] theorem dputK3_1 {δ : DEnv} {v : D} {i : Nat} {s : Str} {S : Sto} : dputK3 δ v (.loc i) (some (.str s, S)) = (match S[i]? with
      | some (.dct kvs) => if kvs.length < 100000 then some (.nx δ, S.set i (.dct (putD kvs (.inr s) v))) else none
      | _ => none) := rfl
@[simp] theorem dputK3_2 {δ : DEnv} {v o : D} : dputK3 δ v o none = none := rfl
def dputK2 (k : FE) (δ : DEnv) (v : D) : Option (D × Sto) → Option (Fl × Sto)
  | some (o, S) => dputK3 δ v o (k δ S)
  | none => none
@[simp] theorem dputK2_1 {k : FE} {δ : DEnv} {v o : D} {S : Sto} : dputK2 k δ v (some (o, S)) = dputK3 δ v o (k δ S) := rfl
@[simp] theorem dputK2_2 {k : FE} {δ : DEnv} {v : D} : dputK2 k δ v none = none := rfl
def dputK (d k : FE) (δ : DEnv) : Option (D × Sto) → Option (Fl × Sto)
  | some (v, S) => dputK2 k δ v (d δ S)
  | none => none
@[simp] theorem dputK_1 {d k : FE} {δ : DEnv} {v : D} {S : Sto} : dputK d k δ (some (v, S)) = dputK2 k δ v (d δ S) := rfl
@[simp] theorem dputK_2 {d k : FE} {δ : DEnv} : dputK d k δ none = none := rfl
@[simp] theorem fsDPut_ev {v d k : FE} {δ : DEnv} {S : Sto} : fsDPut v d k δ S = dputK d k δ (v δ S) := by
  unfold fsDPut
  cases v δ S with
  | none => rfl
  | some p =>
    obtain ⟨x, S1⟩ := p
    show (d δ S1).bind _ = dputK2 k δ x (d δ S1)
    cases d δ S1 with
    | none => rfl
    | some p =>
      obtain ⟨o, S2⟩ := p
      show (k δ S2).bind _ = dputK3 δ x o (k δ S2)
      cases k δ S2 with
      | none => rfl
      | some p => obtain ⟨z, S3⟩ := p; rfl
@[simp] theorem oDGet_1 {i : Nat} {s : Str} {S : Sto} : oDGet (.loc i) (.str s) S = (match S[i]? with
    | some (.dct kvs) => (valD kvs (.inr s)).map fun v => (v, S)
    | _ => none) := by
  unfold oDGet
  simp only
  cases S[i]? with
  | none => rfl
  | some o =>
    cases o with
    | lst ds => rfl
    | dct kvs => show (valD kvs (.inr s)).bind _ = (valD kvs (.inr s)).map _; cases valD kvs (.inr s) <;> rfl
def truK : Option (D × Sto) → Option (Bool × Sto)
  | some (d, S) => (truD S d).map fun b => (b, S)
  | none => none
@[simp] theorem truK_1 {d : D} {S : Sto} : truK (some (d, S)) = (truD S d).map fun b => (b, S) := rfl
@[simp] theorem truK_2 : truK none = none := rfl
@[simp] theorem fTru_ev {f : FE} {δ : DEnv} {S : Sto} : fTru f δ S = truK (f δ S) := by
  unfold fTru
  cases f δ S with
  | none => rfl
  | some p => obtain ⟨x, S1⟩ := p; show (truD S1 x).bind _ = _; cases h : truD S1 x <;> simp [h]
@[simp] theorem truD_tup {S : Sto} {ds : List D} : truD S (.tup ds) = some (!ds.isEmpty) := rfl
def starK2 (ds : List D) : Option (List D × Sto) → Option (List D × Sto)
  | some (es, S) => some (ds ++ es, S)
  | none => none
@[simp] theorem starK2_1 {ds es : List D} {S : Sto} : starK2 ds (some (es, S)) = some (ds ++ es, S) := rfl
@[simp] theorem starK2_2 {ds : List D} : starK2 ds none = none := rfl
def starK (g : FA) (δ : DEnv) : Option (D × Sto) → Option (List D × Sto)
  | some (.tup ds, S) => starK2 ds (g δ S)
  | some (.loc i, S) => match S[i]? with
    | some (.lst ds) => starK2 ds (g δ S)
    | _ => none
  | _ => none
@[simp] theorem starK_1 {g : FA} {δ : DEnv} {ds : List D} {S : Sto} : starK g δ (some (.tup ds, S)) = starK2 ds (g δ S) := rfl
@[simp] theorem starK_2 {g : FA} {δ : DEnv} {i : Nat} {S : Sto} : starK g δ (some (.loc i, S)) = (match S[i]? with
    | some (.lst ds) => starK2 ds (g δ S)
    | _ => none) := rfl
@[simp] theorem starK_3 {g : FA} {δ : DEnv} : starK g δ none = none := rfl
@[simp] theorem fStar_ev {f : FE} {g : FA} {δ : DEnv} {S : Sto} : fStar f g δ S = starK g δ (f δ S) := by
  unfold fStar
  cases f δ S with
  | none => rfl
  | some p =>
    obtain ⟨x, S1⟩ := p
    cases x with
    | tup ds => show (g δ S1).bind _ = starK2 ds (g δ S1); cases g δ S1 <;> rfl
    | loc i =>
      show (match S1[i]? with | some (.lst ds) => _ | _ => none) = starK g δ (some (.loc i, S1))
      rw [starK_2]
      split
      · cases g δ S1 <;> rfl
      · rfl
    | _ => rfl
@[simp] theorem fg3_ev {g h k : FG} {d1 d2 d3 : D} {δ : DEnv} {S : Sto} : fg3 g h k (.tup [d1, d2, d3]) δ S = g2K k d3 (g2K h d2 (g d1 δ S)) := by
  unfold fg3
  show (g d1 δ S).bind _ = _
  cases g d1 δ S with
  | none => rfl
  | some p => obtain ⟨δ1, S1⟩ := p; show (h d2 δ1 S1).bind _ = g2K k d3 (h d2 δ1 S1); cases h d2 δ1 S1 <;> rfl
def dispK (ks : List Str) (l : Nat) : Option (List D × Sto) → Option (D × Sto)
  | some (ds, S) => if ds.length = ks.length then match S[l]? with
    | some (.dct []) => some (.loc l, S.set l (.dct ((ks.map Sum.inr).zip ds)))
    | _ => none
    else none
  | none => none
@[simp] theorem dispK_1 {ks : List Str} {l : Nat} {ds : List D} {S : Sto} : dispK ks l (some (ds, S)) = if ds.length = ks.length then match S[l]? with
    | some (.dct []) => some (.loc l, S.set l (.dct ((ks.map Sum.inr).zip ds)))
    | _ => none
    else none := rfl
@[simp] theorem dispK_2 {ks : List Str} {l : Nat} : dispK ks l none = none := rfl
@[simp] theorem fDisp_ev {ks : List Str} {u : FA} {δ : DEnv} {S : Sto} : fDisp ks u δ S = dispK ks S.length (u δ (S ++ [.dct []])) := by
  unfold fDisp
  cases u δ (S ++ [.dct []]) <;> rfl
@[simp] theorem bDictOf_1 {i : Nat} {S : Sto} : bDictOf [.loc i] S = (match S[i]? with
    | some (.dct kvs) => some (.loc S.length, S ++ [.dct kvs])
    | _ => none) := rfl
@[simp] theorem bMaxL_1 {i : Nat} {S : Sto} : bMaxL [.loc i] S = (match S[i]? with
    | some (.lst ds) => (asInts ds).bind fun ns => if ns.isEmpty then none else some (.int (maxL ns), S)
    | _ => none) := rfl
@[simp] theorem bMinL_1 {i : Nat} {S : Sto} : bMinL [.loc i] S = (match S[i]? with
    | some (.lst ds) => (asInts ds).bind fun ns => if ns.isEmpty then none else some (.int (minL ns), S)
    | _ => none) := rfl
theorem oMulE_tup {a : List D} {k : Int} {S : Sto} (h0 : 0 ≤ k) (h1 : k ≤ 2000) (h2 : a.length ≤ 40) : oMulE (.tup a) (.int k) S = some (.tup (List.replicate k.toNat a).flatten, S) := by
  cases a with
  | nil =>
    have : (List.replicate k.toNat ([] : List D)).flatten = [] := by
      generalize k.toNat = n
      induction n with
      | zero => rfl
      | succ n ih => rw [List.replicate_succ, List.flatten_cons, ih]; rfl
    rw [this]
    unfold oMulE
    simp [h0, h1]
  | cons x r =>
    unfold oMulE oMul
    simp only
    rw [if_pos ⟨by simp, h0, h1, h2⟩]
end DL

set_option Elab.async false
set_option linter.all false
set_option maxRecDepth 100000
set_option maxHeartbeats 1000000
namespace DL
open PySem L2 PyProof.Rows
section
variable {X : Cx}
/-! ### great products, ints among ints -/
theorem xo_mulW : OpD X (binaryOp .Mult) (rI CMulW fun i j => .int (i * j)) (toR (oI CMulW fun i j => .int (i * j))) := (od_I (g' := fun i j => .int (i * j)) op_mulW fun _ _ _ _ => .int _).imp' eo_I
def oNotInI (x y : D) (S : Sto) : Option (D × Sto) := match x, y with
  | .int i, .loc l => match S[l]? with
    | some (.lst ds) => (asInts ds).map fun ns => (.bl (!ns.any (· == i)), S)
    | _ => none
  | _, _ => none
def eInt (z : Int) : Value → Bool
  | .int s _ => s == z
  | _ => false
theorem vals_ints {z : Int} : ∀ {ys : List Int} {its : List Value}, Vals (ys.map V.int) its → its.any (eInt z) = ys.any (· == z) ∧ ∀ y ∈ its, ∃ s t, y = Value.int s t
  | [], _, h => by cases h; exact ⟨rfl, fun y h => nomatch h⟩
  | y :: r, _, h => by
    cases h with
    | cons h1 h2 =>
      obtain ⟨t, rfl⟩ := h1
      obtain ⟨e1, e2⟩ := vals_ints (z := z) h2
      refine ⟨by rw [List.any_cons, List.any_cons, e1]; rfl, fun y hy => ?_⟩
      rcases List.mem_cons.mp hy with h | h
      · exact ⟨_, _, h⟩
      · exact e2 y h
def rNotInI (K : PySem.W.Frag) : R2 := fun x y H Q => ∃ (z : Int) (b : Addr) (ys : List Int), x = .int z ∧ y = .ref b ∧ SqL K H b (ys.map V.int) ∧ Q (.bl (!ys.any (· == z))) H
theorem op_notInI : OpR X (compareOp .NotIn) (rNotInI X.K) := by
  intro pins s σ H x y v u Q I rx ry h
  obtain ⟨z, b, ys, rfl, rfl, h, q⟩ := h
  obtain ⟨t, rfl⟩ := rx
  cases ry
  obtain ⟨its, r, p, _⟩ := I.list h
  obtain ⟨e1, e2⟩ := vals_ints (z := z) r
  refine SeqAt.notIn_listAt (eInt z) p.isList (fun y hy => ?_) ?_
  · obtain ⟨s', t', rfl⟩ := e2 y (by simpa using hy)
    exact SeqAt.EqAt.int_int s' t' z t
  · rw [← Array.any_toList, e1]
    exact ⟨.bl _, H, I, rfl, q⟩
theorem xo_notinI : OpD X (compareOp .NotIn) (rNotInI X.K) (toR oNotInI) := ⟨op_notInI, fun H m S x y vx vy Q Q' R rx ry ⟨p, h, q⟩ c => by
  unfold oNotInI at h
  split at h
  case h_2 => cases h
  rename_i i l
  split at h
  case h_2 => cases h
  rename_i ds hs
  simp only [Option.map_eq_some_iff] at h
  obtain ⟨ys, h1, rfl⟩ := h
  cases rx
  obtain ⟨p1, vs1, rfl, _, hH1, d1⟩ := R.lst ry hs
  rw [ints_of h1] at d1
  have := d1.of_ints
  subst this
  exact ⟨_, _, ys, rfl, rfl, SqL.of hH1, c.same R q (.bl _)⟩⟩
end
@[simp] theorem oNotInI_1 {i : Int} {l : Nat} {S : Sto} : oNotInI (.int i) (.loc l) S = (match S[l]? with
    | some (.lst ds) => (asInts ds).map fun ns => (.bl (!ns.any (· == i)), S)
    | _ => none) := rfl
end DL

set_option Elab.async false
set_option linter.all false
set_option maxRecDepth 100000
set_option maxHeartbeats 1000000
namespace DL
open PySem L2 PyProof.Rows
/-! ### (a, b) = a list of two -/
def gdU2 (g h : DG) : DG := fun x δ S Q => ∃ l d1 d2, x = .loc l ∧ S[l]? = some (.lst [d1, d2]) ∧ g d1 δ S fun δ1 S1 => h d2 δ1 S1 Q
theorem g_u2 {X : Cx} {pos : Pos} {e1 e2 : Expr} {k : Nat} {g h : TG} {g' h' : DG} (hc : X.calm = true) (h1 : PGD X e1 g g') (h2 : PGD X e2 h h') (hs1 : (assignEach [e1, e2] X.env).map (·.2) = assign e1 X.env :: (assignEach [e2] X.env).map (·.2) := by rfl)
    (hs2 : (assignEach [e2] X.env).map (·.2) = assign e2 X.env :: (assignEach [] X.env).map (·.2) := by rfl) (hn : (assignEach [e1, e2] X.env).length = 2 := by rfl) (hst : (assignEach [e1, e2] X.env).findIdx? (·.1) = none := by rfl) :
    PGD X (.Tuple [e1, e2] k pos) (gUnl X.K 2 (gCons g (gCons h gNil))) (gdU2 g' h') := ⟨pg_unl hc (pgs_cons h1.pe (pgs_cons h2.pe pgs_nil hs2) hs1) hn hst, fun σ H m S δ x v Q Q' R e r q c => by
  obtain ⟨l, d1, d2, rfl, hl, q⟩ := q
  obtain ⟨a, vs, rfl, em, hH, dd⟩ := R.lst r hl
  cases dd with
  | cons r1 r2 =>
    cases r2 with
    | cons r2 r3 =>
      cases r3
      refine ⟨_, _, rfl, SqL.of hH, rfl, _, _, rfl, h1.sim σ H m S δ d1 _ _ _ R e r1 q ?_⟩
      intro δ1 S1 σ1 H1 m1 q1 k1 g1 R1 e1
      refine ⟨_, _, rfl, h2.sim σ1 H1 m1 S1 δ1 d2 _ _ _ R1 e1 (Dv.mono k1 g1 _ _ r2) q1 ?_⟩
      intro δ2 S2 σ2 H2 m2 q2 k2 g2 R2 e2
      exact ⟨rfl, c δ2 S2 σ2 H2 m2 q2 (k1.trans k2) (g1.trans g2) R2 e2⟩⟩
def fgU2 (g h : FG) (x : D) (δ : DEnv) (S : Sto) : Option (DEnv × Sto) := match x with
  | .loc l => match S[l]? with
    | some (.lst [d1, d2]) => (g d1 δ S).bind fun p => h d2 p.1 p.2
    | _ => none
  | _ => none
theorem xg_u2 {X : Cx} {pos : Pos} {e1 e2 : Expr} {k : Nat} {g h : TG} {g' h' : FG} (hc : X.calm = true) (h1 : PGD X e1 g (toG g')) (h2 : PGD X e2 h (toG h')) (hs1 : (assignEach [e1, e2] X.env).map (·.2) = assign e1 X.env :: (assignEach [e2] X.env).map (·.2) := by rfl)
    (hs2 : (assignEach [e2] X.env).map (·.2) = assign e2 X.env :: (assignEach [] X.env).map (·.2) := by rfl) (hn : (assignEach [e1, e2] X.env).length = 2 := by rfl) (hst : (assignEach [e1, e2] X.env).findIdx? (·.1) = none := by rfl) :
    PGD X (.Tuple [e1, e2] k pos) (gUnl X.K 2 (gCons g (gCons h gNil))) (toG (fgU2 g' h')) := (g_u2 hc h1 h2 hs1 hs2 hn hst).imp (by
  rintro x δ S Q ⟨p, h, q⟩
  unfold fgU2 at h
  split at h
  case h_2 => cases h
  rename_i l
  split at h
  case h_2 => cases h
  rename_i d1 d2 hl
  simp only [Option.bind_eq_some_iff] at h
  obtain ⟨a, h1, h2⟩ := h
  exact ⟨l, d1, d2, rfl, hl, a, h1, p, h2, q⟩)
theorem fgU2_ev {g h : FG} {l : Nat} {d1 d2 : D} {δ : DEnv} {S : Sto} (hl : S[l]? = some (.lst [d1, d2])) : fgU2 g h (.loc l) δ S = g2K h d2 (g d1 δ S) := by
  unfold fgU2 g2K
  simp only [hl]
  cases g d1 δ S <;> rfl
end DL

set_option Elab.async false
set_option linter.all false
set_option maxRecDepth 100000
set_option maxHeartbeats 4000000
namespace PG
open PySem L2 DL PyProof.Rows
/-! _law_deck -/
noncomputable def b__law_deck : FS :=
    (fsRet (fLst (fCons (fLc (fiAny (fSl (fVar 0) fNoPart (fPart (fC (.int 63))))) 1 fYes (fCB bAbs (fCons (fVar 1) fNil))) (fCons (fC (.int 0)) fNil))))
/-! _law_draw -/
noncomputable def b__law_draw : FS :=
    (fsSeq (fsAsg (fOp oAdd (fOp oIx (fVar 0) (fC (.int 1))) (fC (.int 1))) (fgSub (fVar 0) (fC (.int 1))))
    (fsSeq (fsAsg (fTup (fCons (fC (.int 0)) (fCons (fNeg (fC (.int 1))) fNil))) (fg2 (fgName 2) (fgName 3)))
    (fsSeq (fsIf (fTest (fOp (oI0 fun i j => .bl (decide (j < i))) (fCB bLen (fCons (fOp oIx (fVar 0) (fC (.int 0))) fNil)) (fC (.int 0)))) (fsSeq (fsAsg (fOp (oI (fun _ j => 0 < j) fun i j => .int (i % j)) (fCB bInt (fCons (fOp oIx (fVar 0) (fC (.int 1))) fNil)) (fCB bLen (fCons (fOp oIx (fVar 0) (fC (.int 0))) fNil))) (fgName 3))
    (fsAsg (fOp oIx (fOp oIx (fVar 0) (fC (.int 0))) (fVar 3)) (fgName 2))) fsNext)
    (fsSeq (fsIf (fTest (fOp (oI0 fun i j => .bl (decide (j ≤ i))) (fVar 2) (fOp (oI CPow fun i j => .int (i ^ j.toNat)) (fC (.int 10)) (fC (.int 18))))) (fsSeq (fsAsg (fOp (oI CDiv fun i j => .int (i / j)) (fCB bInt (fCons (fVar 2) fNil)) (fVar 1)) (fgSub (fOp oIx (fVar 0) (fC (.int 0))) (fVar 3)))
    (fsRet (fOp (oI (fun _ j => 0 < j) fun i j => .int (i % j)) (fCB bInt (fCons (fVar 2) fNil)) (fVar 1)))) fsNext)
    (fsSeq (fsAsg (fOp oAdd (fOp oAdd (fOp (oI (fun _ j => 0 < j) fun i j => .int (i % j)) (fCB bInt (fCons (fVar 2) fNil)) (fC (.int 2147483563))) (fOp oMul (fC (.int 8117)) (fOp oIx (fVar 0) (fC (.int 1))))) (fC (.int 3))) (fgName 4))
    (fsRet (fOp (oI (fun _ j => 0 < j) fun i j => .int (i % j)) (fCB bInt (fCons (fOp (oI (fun _ j => 0 < j) fun i j => .int (i % j)) (fCB bInt (fCons (fOp (oI CPow fun i j => .int (i ^ j.toNat)) (fVar 4) (fC (.int 5))) fNil)) (fC (.int 2147483629))) fNil)) (fVar 1))))))))
/-! _law_one -/
noncomputable def b__law_one (c0 : Fn) : FS :=
    (fsRet (fOp oIx (fVar 1) (fCall c0 (fCons (fVar 0) (fCons (fCB bLen (fCons (fVar 1) fNil)) fNil)))))
/-! _law_names -/
noncomputable def b__law_names (c0 c1 : Fn) : FS :=
    (fsSeq (fsAsg (fC (.str "abcdefghijklmnopqrstuvwxyz")) (fgName 1))
    (fsSeq (fsAsg (fOp oAdd (fVar 1) (fC (.str "0123456789"))) (fgName 2))
    (fsSeq (fsAsg (fLst (fCons (fC (.str "turns")) (fCons (fC (.str "items")) (fCons (fC (.str "total")) (fCons (fC (.str "plus")) (fCons (fC (.str "less")) (fCons (fC (.str "times")) (fCons (fC (.str "minus")) (fCons (fC (.str "worth")) (fCons (fC (.str "hands")) (fCons (fC (.str "rows")) (fCons (fC (.str "none")) (fCons (fC (.str "place")) fNil))))))))))))) (fgName 3))
    (fsSeq (fsPar 4 5 (fCons (fCall c0 (fCons (fVar 0) (fCons (fC (.int 60)) fNil))) (fCons (fCall c1 (fCons (fVar 0) (fCons (fLst (fCons (fC (.int 0)) (fCons (fC (.int 1)) (fCons (fC (.int 2)) (fCons (fC (.int 3)) (fCons (fC (.int 5)) (fCons (fC (.int 6)) (fCons (fC (.int 7)) fNil)))))))) fNil))) fNil)))
    (fsSeq (fsIf (fTest (fOp (oI0 fun i j => .bl (decide (i < j))) (fVar 4) (fC (.int 10)))) (fsRet (fOp oAdd (fLst (fCons (fC (.str "n")) fNil)) (fSl (fVar 3) (fPart (fVar 4)) (fPart (fOp oAdd (fVar 4) (fC (.int 3))))))) fsNext)
    (fsSeq (fsAsg (fJoin (fC (.str "")) (fLc (fiRng1 (fCons (fVar 5) fNil)) 8 fYes (fCall c1 (fCons (fVar 0) (fCons (fVar 1) fNil))))) (fgName 6))
    (fsSeq (fsAsg (fJoin (fC (.str "")) (fLc (fiRng1 (fCons (fCall c0 (fCons (fVar 0) (fCons (fOp (oI0 fun i j => .int (i - j)) (fC (.int 8)) (fVar 5)) fNil))) fNil)) 8 fYes (fCall c1 (fCons (fVar 0) (fCons (fVar 2) fNil))))) (fgName 7))
    (fsRet (fOp oAdd (fLst (fCons (fC (.str "n")) fNil)) (fLc (fiRng1 (fCons (fC (.int 3)) fNil)) 8 fYes (fOp oAdd (fOp oAdd (fVar 6) (fOp oIx (fC (.str "qxz")) (fVar 8))) (fVar 7))))))))))))
/-! _law_expression -/
noncomputable def b__law_expression (c0 c1 c2 : Fn) : FS :=
    (fsSeq (fsAsg (fIfE (fTest (fOp (oI0 fun i j => .bl (decide (j < i))) (fVar 2) (fC (.int 1)))) (fCall c2 (fCons (fVar 0) (fCons (fC (.int 7)) fNil))) (fCall c2 (fCons (fVar 0) (fCons (fC (.int 4)) fNil)))) (fgName 3))
    (fsSeq (fsIf (fTest (fOp (oEq id) (fVar 3) (fC (.int 0)))) (fsRet (fCall c1 (fCons (fVar 0) (fCons (fLst (fCons (fC (.int 0)) (fCons (fC (.int 1)) (fCons (fC (.int 2)) (fCons (fNeg (fC (.int 1))) (fCons (fC (.int 3)) (fCons (fNeg (fC (.int 5))) (fCons (fC (.int 99)) (fCons (fNeg (fC (.int 99))) (fCons (fOp (oI0 fun i j => .int (i - j)) (fCall c2 (fCons (fVar 0) (fCons (fC (.int 199)) fNil))) (fC (.int 99))) fNil)))))))))) fNil)))) fsNext)
    (fsSeq (fsIf (fTest (fOp (oI0 fun i j => .bl (decide (i < j))) (fVar 3) (fC (.int 4)))) (fsRet (fCall c1 (fCons (fVar 0) (fCons (fVar 1) fNil)))) fsNext)
    (fsSeq (fsIf (fTest (fOp (oEq id) (fVar 3) (fC (.int 6)))) (fsSeq (fsAsg (fCall c1 (fCons (fVar 0) (fCons (fLst (fCons (fNeg (fC (.int 9))) (fCons (fNeg (fC (.int 4))) (fCons (fNeg (fC (.int 3))) (fCons (fNeg (fC (.int 2))) (fCons (fNeg (fC (.int 1))) (fCons (fC (.int 0)) (fCons (fC (.int 2)) (fCons (fC (.int 3)) (fCons (fC (.int 9)) fNil)))))))))) fNil))) (fgName 4))
    (fsRet (fTup (fCons (fC (.str "times")) (fCons (fVar 4) (fCons (fCall c0 (fCons (fVar 0) (fCons (fVar 1) (fCons (fOp (oI0 fun i j => .int (i - j)) (fVar 2) (fC (.int 1))) fNil)))) fNil)))))) fsNext)
    (fsSeq (fsAsg (fCall c0 (fCons (fVar 0) (fCons (fVar 1) (fCons (fOp (oI0 fun i j => .int (i - j)) (fVar 2) (fC (.int 1))) fNil)))) (fgName 5))
    (fsRet (fTup (fCons (fOp oIx (fLst (fCons (fC (.str "plus")) (fCons (fC (.str "minus")) fNil))) (fOp (oI (fun _ j => 0 < j) fun i j => .int (i % j)) (fCB bInt (fCons (fVar 3) fNil)) (fC (.int 2)))) (fCons (fVar 5) (fCons (fCall c0 (fCons (fVar 0) (fCons (fVar 1) (fCons (fOp (oI0 fun i j => .int (i - j)) (fVar 2) (fC (.int 1))) fNil)))) fNil))))))))))
/-! _law_test -/
noncomputable def b__law_test (c0 c1 c2 : Fn) : FS :=
    (fsSeq (fsPar 4 5 (fCons (fOp (oI0 fun i j => .int (i - j)) (fCall c0 (fCons (fVar 0) (fCons (fC (.int 5)) fNil))) (fC (.int 2))) (fCons (fTup fNil) fNil)))
    (fsSeq (fsIf (fAnd (fTest (fOp (oEq id) (fCall c0 (fCons (fVar 0) (fCons (fC (.int 2)) fNil))) (fC (.int 0)))) (fTest (fOp (oI0 fun i j => .bl (decide (j ≤ i))) (fOp oIx (fVar 2) (fC (.int 3))) (fVar 3)))) (fsSeq (fsAsg (fOp (oI0 fun i j => .int (i - j)) (fOp oIx (fVar 2) (fC (.int 3))) (fVar 3)) (fgSub (fVar 2) (fC (.int 3))))
    (fsSeq (fsAsg (fOp oAdd (fC (.int 2)) (fCall c0 (fCons (fVar 0) (fCons (fC (.int 5)) fNil)))) (fgName 6))
    (fsAsg (fTup (fCons (fC (.str "rest")) (fCons (fCall c1 (fCons (fVar 0) (fCons (fVar 1) (fCons (fC (.int 3)) fNil)))) (fCons (fVar 6) (fCons (fCall c0 (fCons (fVar 0) (fCons (fVar 6) fNil))) fNil))))) (fgName 5)))) (fsIf (fTest (fOp (oI0 fun i j => .bl (decide (j ≤ i))) (fOp oIx (fVar 2) (fC (.int 4))) (fVar 3))) (fsSeq (fsAsg (fOp (oI0 fun i j => .int (i - j)) (fOp oIx (fVar 2) (fC (.int 4))) (fVar 3)) (fgSub (fVar 2) (fC (.int 4))))
    (fsSeq (fsAsg (fCall c1 (fCons (fVar 0) (fCons (fVar 1) (fCons (fC (.int 3)) fNil)))) (fgName 7))
    (fsAsg (fTup (fCons (fC (.str "less")) (fCons (fVar 7) (fCons (fCall c2 (fCons (fVar 0) (fCons (fLst (fCons (fOp (oI0 fun i j => .int (i - j)) (fCall c0 (fCons (fVar 0) (fCons (fC (.int 41)) fNil))) (fC (.int 20))) (fCons (fCall c1 (fCons (fVar 0) (fCons (fVar 1) (fCons (fC (.int 3)) fNil)))) fNil))) fNil))) fNil)))) (fgName 5)))) fsNext))
    (fsSeq (fsFor (fiRng1 (fCons (fIfE (fTest (fOp (oEq not) (fVar 5) (fTup fNil))) (fCB bMax (fCons (fC (.int 0)) (fCons (fVar 4) fNil))) (fC (.int 0))) fNil)) (fgName 8) (fsAsg (fTup (fCons (fC (.str "not")) (fCons (fVar 5) fNil))) (fgName 5)))
    (fsRet (fVar 5)))))
/-! _law_plain -/
noncomputable def b__law_plain (c0 c1 c2 : Fn) : FS :=
    (fsSeq (fsPar 2 3 (fCons (fCall c1 (fCons (fVar 0) (fCons (fC (.int 12)) fNil))) (fCons (fCall c2 (fCons (fVar 0) (fCons (fVar 1) fNil))) fNil)))
    (fsSeq (fsIf (fTest (fOp (oI0 fun i j => .bl (decide (i < j))) (fVar 2) (fC (.int 4)))) (fsRet (fTup (fCons (fC (.str "set")) (fCons (fVar 3) (fCons (fCall c0 (fCons (fVar 0) (fCons (fVar 1) (fCons (fC (.int 3)) fNil)))) fNil))))) fsNext)
    (fsSeq (fsIf (fTest (fOp (oEq id) (fVar 2) (fC (.int 4)))) (fsRet (fTup (fCons (fC (.str "set")) (fCons (fVar 3) (fCons (fVar 3) fNil))))) fsNext)
    (fsSeq (fsIf (fAnd (fTest (fOp (oEq id) (fVar 2) (fC (.int 5)))) (fTest (fOp (oEq id) (fCall c1 (fCons (fVar 0) (fCons (fC (.int 2)) fNil))) (fC (.int 0))))) (fsRet (fTup (fCons (fC (.str "stop")) fNil))) fsNext)
    (fsRet (fTup (fCons (fC (.str "pay")) (fCons (fCall c0 (fCons (fVar 0) (fCons (fVar 1) (fCons (fC (.int 3)) fNil)))) fNil))))))))
/-! _law_row -/
noncomputable def b__law_row (c0 c1 c2 c3 c4 : Fn) : FS :=
    (fsSeq (fsIf (fOr (fTest (fOp (oI0 fun i j => .bl (decide (i < j))) (fOp oIx (fVar 2) (fC (.int 0))) (fC (.int 1)))) (fTest (fOp (oI0 fun i j => .bl (decide (i < j))) (fOp oIx (fVar 2) (fC (.int 1))) (fVar 3)))) (fsRet (fTup fNil)) fsNext)
    (fsSeq (fsAsg (fTup (fCons (fOp (oI0 fun i j => .int (i - j)) (fOp oIx (fVar 2) (fC (.int 0))) (fC (.int 1))) (fCons (fOp (oI0 fun i j => .int (i - j)) (fOp oIx (fVar 2) (fC (.int 1))) (fVar 3)) fNil))) (fg2 (fgSub (fVar 2) (fC (.int 0))) (fgSub (fVar 2) (fC (.int 1)))))
    (fsSeq (fsAsg (fCall c4 (fCons (fVar 0) (fCons (fC (.int 9)) fNil))) (fgName 5))
    (fsSeq (fsAsg (fIfE (fTest (fOp (oEq id) (fVar 5) (fC (.int 0)))) (fCall c3 (fCons (fVar 0) (fCons (fVar 1) (fCons (fVar 2) (fCons (fVar 3) fNil))))) (fTup fNil)) (fgName 6))
    (fsSeq (fsIf (fTest (fOp (oEq not) (fVar 6) (fTup fNil))) (fsSeq (fsAsg (fCall c2 (fCons (fVar 0) (fCons (fVar 1) (fCons (fVar 2) (fCons (fVar 3) (fCons (fOp oAdd (fVar 4) (fC (.int 1))) fNil)))))) (fgName 7))
    (fsRet (fTup (fCons (fC (.str "if")) (fCons (fVar 6) (fCons (fVar 7) (fCons (fCall c2 (fCons (fVar 0) (fCons (fVar 1) (fCons (fVar 2) (fCons (fVar 3) (fCons (fOp oAdd (fVar 4) (fC (.int 1))) fNil)))))) fNil))))))) fsNext)
    (fsSeq (fsIf (fTest (fOp (oEq id) (fVar 5) (fC (.int 1)))) (fsSeq (fsAsg (fCall c1 (fCons (fVar 0) (fCons (fLst (fCons (fC (.int 1)) (fCons (fC (.int 1)) (fCons (fC (.int 2)) (fCons (fC (.int 2)) (fCons (fC (.int 3)) (fCons (fC (.int 4)) (fCons (fC (.int 8)) fNil)))))))) fNil))) (fgName 8))
    (fsRet (fTup (fCons (fC (.str "repeat")) (fCons (fVar 8) (fCons (fCall c2 (fCons (fVar 0) (fCons (fVar 1) (fCons (fVar 2) (fCons (fOp oMul (fVar 3) (fVar 8)) (fCons (fOp oAdd (fVar 4) (fC (.int 1))) fNil)))))) fNil)))))) fsNext)
    (fsSeq (fsIf (fAnd (fTest (fOp (oI0 fun i j => .bl (decide (i < j))) (fVar 5) (fC (.int 6)))) (fTest (fOp (oI0 fun i j => .bl (decide (j ≤ i))) (fOp oIx (fVar 2) (fC (.int 2))) (fVar 3)))) (fsSeq (fsAsg (fOp (oI0 fun i j => .int (i - j)) (fOp oIx (fVar 2) (fC (.int 2))) (fVar 3)) (fgSub (fVar 2) (fC (.int 2))))
    (fsSeq (fsAsg (fCall c2 (fCons (fVar 0) (fCons (fVar 1) (fCons (fVar 2) (fCons (fVar 3) (fCons (fOp oAdd (fVar 4) (fC (.int 1))) fNil)))))) (fgName 9))
    (fsRet (fTup (fCons (fCall c1 (fCons (fVar 0) (fCons (fLst (fCons (fC (.str "we")) (fCons (fC (.str "they")) fNil))) fNil))) (fCons (fVar 9) (fCons (fCall c2 (fCons (fVar 0) (fCons (fVar 1) (fCons (fVar 2) (fCons (fVar 3) (fCons (fOp oAdd (fVar 4) (fC (.int 1))) fNil)))))) fNil))))))) fsNext)
    (fsRet (fCall c0 (fCons (fVar 0) (fCons (fVar 1) fNil)))))))))))
/-! _law_block -/
noncomputable def b__law_block (c0 c1 : Fn) : FS :=
    (fsSeq (fsIf (fTest (fOp (oI0 fun i j => .bl (decide (j < i))) (fVar 4) (fC (.int 3)))) (fsRet (fTup fNil)) fsNext)
    (fsSeq (fsPar 5 6 (fCons (fOp oAdd (fCall c1 (fCons (fVar 0) (fCons (fC (.int 4)) fNil))) (fCB bInt (fCons (fOp (oEq id) (fVar 4) (fC (.int 0))) fNil))) (fCons (fLst fNil) fNil)))
    (fsSeq (fsFor (fiRng1 (fCons (fVar 5) fNil)) (fgName 7) (fsDrop (fApp (fVar 6) (fCall c0 (fCons (fVar 0) (fCons (fVar 1) (fCons (fVar 2) (fCons (fVar 3) (fCons (fVar 4) fNil)))))))))
    (fsRet (fCB bTupleOf (fCons (fLc (fiAny (fVar 6)) 8 (fTest (fOp (oEq not) (fVar 8) (fTup fNil))) (fVar 8)) fNil))))))
/-! _law_program -/
noncomputable def b__law_program (c0 c1 c2 : Fn) : FS :=
    (fsSeq (fsPar 2 3 (fCons (fLst (fCons (fC (.int 24)) (fCons (fC (.int 30)) (fCons (fC (.int 4)) (fCons (fC (.int 2)) (fCons (fC (.int 2)) fNil)))))) (fCons (fTup fNil) fNil)))
    (fsSeq (fsFor (fiRng1 (fCons (fOp oAdd (fC (.int 1)) (fCall c1 (fCons (fVar 0) (fCons (fC (.int 4)) fNil)))) fNil)) (fgName 4) (fsAsg (fOp oAdd (fVar 3) (fCall c2 (fCons (fVar 0) (fCons (fVar 1) (fCons (fVar 2) (fCons (fC (.int 1)) (fCons (fC (.int 0)) fNil))))))) (fgName 3)))
    (fsSeq (fsIf (fOr (fTest (fOp (oI0 fun i j => .bl (decide (i < j))) (fOp oIx (fVar 2) (fC (.int 0))) (fC (.int 1)))) (fOr (fTest (fOp (oI0 fun i j => .bl (decide (i < j))) (fOp oIx (fVar 2) (fC (.int 1))) (fC (.int 1)))) (fTest (fOp (oEq id) (fCall c1 (fCons (fVar 0) (fCons (fC (.int 4)) fNil))) (fC (.int 0)))))) (fsRet (fVar 3)) fsNext)
    (fsRet (fOp oAdd (fVar 3) (fTup (fCons (fTup (fCons (fC (.str "pay")) (fCons (fCall c0 (fCons (fVar 0) (fCons (fVar 1) (fCons (fC (.int 2)) fNil)))) fNil))) fNil)))))))
end PG

set_option Elab.async false
set_option linter.all false
set_option maxRecDepth 100000
set_option maxHeartbeats 1000000
namespace PG
open PySem L2 DL
/-! ### the deck -/
structure Dk (S : Sto) (i j : Nat) (n : Int) : Prop where
  ne : i ≠ j
  deck : S[i]? = some (.lst [.loc j, .int n])
  cells : ∃ cs : List Int, S[j]? = some (.lst (cs.map D.int)) ∧ (∀ c ∈ cs, 0 ≤ c) ∧ cs.length ≤ 63
  pos : 0 ≤ n
/-- all but the deck stays -/
structure Ch (i j : Nat) (S S' : Sto) : Prop where
  len : S.length ≤ S'.length
  at_ : ∀ (l : Nat) (o : Ob), l ≠ i → l ≠ j → S[l]? = some o → S'[l]? = some o
theorem Ch.refl (i j : Nat) (S : Sto) : Ch i j S S := ⟨Nat.le_refl _, fun _ _ _ _ h => h⟩
theorem Ch.trans {i j : Nat} {S S1 S2 : Sto} (a : Ch i j S S1) (b : Ch i j S1 S2) : Ch i j S S2 := ⟨Nat.le_trans a.len b.len, fun l o h1 h2 h => b.at_ l o h1 h2 (a.at_ l o h1 h2 h)⟩
theorem Ch.ext {i j : Nat} {S S1 : Sto} (e : Ext S S1) : Ch i j S S1 := ⟨e.len, fun l o _ _ h => e.at h⟩
theorem Ch.app {i j : Nat} (S z : Sto) : Ch i j S (S ++ z) := .ext ⟨z, rfl⟩
theorem Ch.set {i j : Nat} {S : Sto} {l : Nat} {o : Ob} (h : l = i ∨ l = j) : Ch i j S (S.set l o) := ⟨by rw [List.length_set]; exact Nat.le_refl _, fun m o' h1 h2 h' => by
  rw [List.getElem?_set_ne (fun z => by subst z; rcases h with h | h; exact h1 h; exact h2 h)]
  exact h'⟩
theorem Dk.ext {S S1 : Sto} {i j : Nat} {n : Int} (d : Dk S i j n) (e : Ext S S1) : Dk S1 i j n := ⟨d.ne, e.at d.deck, let ⟨cs, h, r⟩ := d.cells; ⟨cs, e.at h, r⟩, d.pos⟩
theorem Dk.app {S : Sto} {i j : Nat} {n : Int} (d : Dk S i j n) (z : Sto) : Dk (S ++ z) i j n := d.ext ⟨z, rfl⟩
theorem Dk.upd {S : Sto} {i j : Nat} {n : Int} (d : Dk S i j n) : Dk (S.set i (.lst [.loc j, .int (n + 1)])) i j (n + 1) := by
  have hl : i < S.length := (List.getElem?_eq_some_iff.mp d.deck).1
  obtain ⟨cs, h, r⟩ := d.cells
  exact ⟨d.ne, by rw [List.getElem?_set_self hl], ⟨cs, by rw [List.getElem?_set_ne d.ne]; exact h, r⟩, by have := d.pos; omega⟩
theorem Dk.cell {S : Sto} {i j : Nat} {n : Int} (d : Dk S i j n) {cs : List Int} (h : S[j]? = some (.lst (cs.map D.int))) (ds : List Int) (hp : ∀ c ∈ ds, 0 ≤ c) (hl : ds.length ≤ 63) : Dk (S.set j (.lst (ds.map D.int))) i j n := by
  have hjl : j < S.length := (List.getElem?_eq_some_iff.mp h).1
  exact ⟨d.ne, by rw [List.getElem?_set_ne (fun z => d.ne z.symm)]; exact d.deck, ⟨ds, by rw [List.getElem?_set_self hjl], hp, hl⟩, d.pos⟩
theorem Dk.il {S : Sto} {i j : Nat} {n : Int} (d : Dk S i j n) : i < S.length := (List.getElem?_eq_some_iff.mp d.deck).1
theorem Dk.jl {S : Sto} {i j : Nat} {n : Int} (d : Dk S i j n) : j < S.length := let ⟨_, h, _⟩ := d.cells; (List.getElem?_eq_some_iff.mp h).1
noncomputable def f_draw : Fn := fDef 2 5 b__law_draw
theorem atI_mod {α : Type} {l : List α} {k : Int} (h0 : 0 ≤ k) (h1 : k < l.length) : ∃ m, m < l.length ∧ k = (m : Int) ∧ ∃ v, l[m]? = some v ∧ atI l k = some v ∧ v ∈ l := by
  obtain ⟨m, rfl⟩ := Int.eq_ofNat_of_zero_le h0
  have hm : m < l.length := by omega
  exact ⟨m, hm, rfl, l[m], List.getElem?_eq_getElem hm, atI_nat (List.getElem?_eq_getElem hm), List.getElem_mem hm⟩
noncomputable abbrev drawT2 : FS := (fsSeq (fsIf (fTest (fOp (oI0 fun i j => .bl (decide (j ≤ i))) (fVar 2) (fOp (oI CPow fun i j => .int (i ^ j.toNat)) (fC (.int 10)) (fC (.int 18))))) (fsSeq (fsAsg (fOp (oI CDiv fun i j => .int (i / j)) (fCB bInt (fCons (fVar 2) fNil)) (fVar 1)) (fgSub (fOp oIx (fVar 0) (fC (.int 0))) (fVar 3)))
    (fsRet (fOp (oI (fun _ j => 0 < j) fun i j => .int (i % j)) (fCB bInt (fCons (fVar 2) fNil)) (fVar 1)))) fsNext)
    (fsSeq (fsAsg (fOp oAdd (fOp oAdd (fOp (oI (fun _ j => 0 < j) fun i j => .int (i % j)) (fCB bInt (fCons (fVar 2) fNil)) (fC (.int 2147483563))) (fOp oMul (fC (.int 8117)) (fOp oIx (fVar 0) (fC (.int 1))))) (fC (.int 3))) (fgName 4))
    (fsRet (fOp (oI (fun _ j => 0 < j) fun i j => .int (i % j)) (fCB bInt (fCons (fOp (oI (fun _ j => 0 < j) fun i j => .int (i % j)) (fCB bInt (fCons (fOp (oI CPow fun i j => .int (i ^ j.toNat)) (fVar 4) (fC (.int 5))) fNil)) (fC (.int 2147483629))) fNil)) (fVar 1)))))
theorem draw_tail {S : Sto} {i j : Nat} {n many cell at_ : Int} {cs : List Int} (hd : Dk S i j n) (hn : n ≤ 1000000000000) (hm : 0 < many) (hm2 : many ≤ 1000000000) (hc : S[j]? = some (.lst (cs.map D.int))) (hcp : ∀ c ∈ cs, 0 ≤ c) (hcl : cs.length ≤ 63)
    (ha : 1000000000000000000 ≤ cell → ∃ m : Nat, m < cs.length ∧ at_ = (m : Int)) :
    ∃ k S', retF (drawT2 [some (.loc i), some (.int many), some (.int cell), some (.int at_), none] S) = some (.int k, S') ∧ 0 ≤ k ∧ k < many ∧ Dk S' i j n ∧ Ch i j S S' ∧ S'.length = S.length := by
  have g1 := hd.deck
  have hp := hd.pos
  have p1 : oI CPow (fun i j => D.int (i ^ j.toNat)) (.int 10) (.int 18) S = some (.int 1000000000000000000, S) := oI_int (g := fun i j => D.int (i ^ j.toNat)) ⟨by decide, by decide, by decide⟩
  by_cases hb : 1000000000000000000 ≤ cell
  · obtain ⟨m, hm', rfl⟩ := ha hb
    have p2 : oI CDiv (fun i j => D.int (i / j)) (.int cell) (.int many) S = some (.int (cell / many), S) := oI_int (g := fun i j => D.int (i / j)) ⟨hm, by omega⟩
    have hx : ixN cs.length (m : Int) = some m := by
      unfold ixN
      rw [if_pos (by omega), if_pos (by omega)]
      simp
    refine ⟨cell % many, S.set j (.lst ((cs.map D.int).set m (.int (cell / many)))), by simp [drawT2, p1, hb, p2, g1, hc, hx, hm], Int.emod_nonneg _ (by omega), Int.emod_lt_of_pos _ hm, ?_, .set (.inr rfl), List.length_set ..⟩
    rw [show (cs.map D.int).set m (.int (cell / many)) = (cs.set m (cell / many)).map D.int by rw [List.map_set]]
    refine hd.cell hc _ (fun c hc' => ?_) (by rw [List.length_set]; exact hcl)
    rcases List.mem_or_eq_of_mem_set hc' with h | h
    · exact hcp c h
    · rw [h]
      exact Int.ediv_nonneg (by omega) (by omega)
  · have c0 := Int.emod_nonneg cell (show (2147483563 : Int) ≠ 0 by decide)
    have c1 := Int.emod_lt_of_pos cell (show (0 : Int) < 2147483563 by decide)
    have p3 : oMul (.int 8117) (.int n) S = some (.int (8117 * n), S) := oMul_int (.inl ⟨by decide, by decide⟩)
    have p4 : oI CPow (fun i j => D.int (i ^ j.toNat)) (.int (cell % 2147483563 + 8117 * n + 3)) (.int 5) S = some (.int ((cell % 2147483563 + 8117 * n + 3) ^ (5 : Int).toNat), S) := oI_int (g := fun i j => D.int (i ^ j.toNat)) ⟨by decide, by decide, by omega⟩
    exact ⟨_, S, by simp [drawT2, p1, hb, g1, p3, p4, hm]; rfl, Int.emod_nonneg _ (by omega), Int.emod_lt_of_pos _ hm, hd, .refl _ _ _, rfl⟩
theorem draw_ok {S : Sto} {i j : Nat} {n many : Int} (hd : Dk S i j n) (hn : n < 1000000000000) (hm : 0 < many) (hm2 : many ≤ 1000000000) :
    ∃ k S', f_draw [.loc i, .int many] S = some (.int k, S') ∧ 0 ≤ k ∧ k < many ∧ Dk S' i j (n + 1) ∧ Ch i j S S' ∧ S'.length = S.length := by
  obtain ⟨cs, hc, hcp, hcl⟩ := hd.cells
  have d1 := hd.upd
  have hc1 : (S.set i (.lst [.loc j, .int (n + 1)]))[j]? = some (.lst (cs.map D.int)) := by rw [List.getElem?_set_ne hd.ne]; exact hc
  have g1 := hd.deck
  have g2 := d1.deck
  have hne := hd.ne
  have il := hd.il
  have fin : ∀ k S', 0 ≤ k ∧ k < many ∧ Dk S' i j (n + 1) ∧ Ch i j (S.set i (.lst [.loc j, .int (n + 1)])) S' ∧ S'.length = (S.set i (.lst [.loc j, .int (n + 1)])).length → 0 ≤ k ∧ k < many ∧ Dk S' i j (n + 1) ∧ Ch i j S S' ∧ S'.length = S.length := by
    rintro k S' ⟨h1, h2, h3, h4, h5⟩
    exact ⟨h1, h2, h3, (Ch.set (.inl rfl)).trans h4, by rw [h5, List.length_set]⟩
  by_cases hz : 0 < cs.length
  · have m0 := Int.emod_nonneg (n + 1) (show (cs.length : Int) ≠ 0 by omega)
    have m1 := Int.emod_lt_of_pos (n + 1) (show (0 : Int) < (cs.length : Int) by omega)
    obtain ⟨m, hml, hme, v, hv, _, _⟩ := atI_mod (l := cs) m0 m1
    have hat : atI (cs.map D.int) ((m : Nat) : Int) = some (.int v) := atI_nat (by rw [List.getElem?_map, hv]; rfl)
    obtain ⟨k, S', h1, h2⟩ := draw_tail (cell := v) (at_ := (m : Int)) d1 (by omega) hm hm2 hc1 hcp hcl (fun _ => ⟨m, hml, rfl⟩)
    refine ⟨k, S', ?_, fin k S' h2⟩
    rw [← h1]
    simp [f_draw, fDef, b__law_draw, g1, g2, hc1, hz, ixN, hme, hat]
  · obtain ⟨k, S', h1, h2⟩ := draw_tail (cell := 0) (at_ := -1) d1 (by omega) hm hm2 hc1 hcp hcl (fun h => absurd h (by decide))
    refine ⟨k, S', ?_, fin k S' h2⟩
    rw [← h1]
    simp [f_draw, fDef, b__law_draw, g1, g2, hc1, hz, ixN]
/-! ### drawing from lists -/
def B : Int := 1000000000000
theorem Dk.setO {S : Sto} {i j l : Nat} {n : Int} {o : Ob} (d : Dk S i j n) (h1 : l ≠ i) (h2 : l ≠ j) : Dk (S.set l o) i j n := by
  obtain ⟨cs, h, r⟩ := d.cells
  exact ⟨d.ne, by rw [List.getElem?_set_ne h1]; exact d.deck, ⟨cs, by rw [List.getElem?_set_ne h2]; exact h, r⟩, d.pos⟩
theorem Ch.setN {i j l : Nat} {S0 S : Sto} {o : Ob} (c : Ch i j S0 S) (h : S0.length ≤ l) : Ch i j S0 (S.set l o) := ⟨by rw [List.length_set]; exact c.len, fun m o' h1 h2 h' => by
  have : m < S0.length := (List.getElem?_eq_some_iff.mp h').1
  rw [List.getElem?_set_ne (by omega)]
  exact c.at_ m o' h1 h2 h'⟩
noncomputable def f_one : Fn := fDef 2 2 (b__law_one f_draw)
theorem one_ok {S : Sto} {i j l : Nat} {n : Int} {ds : List D} (hd : Dk S i j n) (hn : n < B) (hl : S[l]? = some (.lst ds)) (h1 : l ≠ i) (h2 : l ≠ j) (h0 : 0 < ds.length) (hm : ds.length ≤ 1000000000) :
    ∃ d S', f_one [.loc i, .loc l] S = some (d, S') ∧ d ∈ ds ∧ Dk S' i j (n + 1) ∧ Ch i j S S' ∧ S'.length = S.length := by
  obtain ⟨k, S', e, k0, k1, d', c', hs⟩ := draw_ok (many := (ds.length : Int)) hd hn (by omega) (by omega)
  obtain ⟨m, hml, rfl, v, hv, ha, hvm⟩ := atI_mod k0 k1
  have hl' := c'.at_ l _ h1 h2 hl
  exact ⟨v, S', by simp [f_one, fDef, b__law_one, hl, e, hl', ha], hvm, d', c', hs⟩
theorem one_str {S : Sto} {i j : Nat} {n : Int} {z : Str} (hd : Dk S i j n) (hn : n < B) (h0 : 0 < z.cps.toList.length) (hm : z.cps.toList.length ≤ 100000) :
    ∃ c S', f_one [.loc i, .str z] S = some (.str ⟨#[c]⟩, S') ∧ c ∈ z.cps.toList ∧ Dk S' i j (n + 1) ∧ Ch i j S S' ∧ S'.length = S.length := by
  have hz : z.length = z.cps.toList.length := by rw [Array.length_toList]; rfl
  obtain ⟨k, S', e, k0, k1, d', c', hs⟩ := draw_ok (many := (z.length : Int)) hd hn (by omega) (by omega)
  rw [hz] at k1
  obtain ⟨m, hml, rfl, v, hv, ha, hvm⟩ := atI_mod k0 k1
  have hz2 : z.length ≤ 100000 := by omega
  exact ⟨v, S', by simp only [f_one, fDef, b__law_one]; simp [e, ha, hz2], hvm, d', c', hs⟩
theorem lc_draws {i j k l : Nat} {e : FE} {P : D → Prop} {c : Int} {S0 : Sto} (hl : S0.length ≤ l) (hi : i < S0.length) (hj : j < S0.length) (hc : 0 ≤ c) : ∀ (xs : List D) (δ : DEnv) (S : Sto) (acc : List D) (n : Int), Dk S i j n → Ch i j S0 S → S[l]? = some (.lst acc) → acc.length + xs.length < 100000 →
    (∀ x ∈ xs, ∀ S n, Dk S i j n → n + c ≤ B → Ch i j S0 S → ∃ y S' n', e (δ.set k (some x)) S = some (y, S') ∧ P y ∧ Dk S' i j n' ∧ n ≤ n' ∧ n' ≤ n + c ∧ Ch i j S S') → n + c * (xs.length : Int) ≤ B →
    ∃ ys S' n', lcF none k l fYes e xs δ S = some (.loc l, S') ∧ S'[l]? = some (.lst (acc ++ ys)) ∧ ys.length = xs.length ∧ (∀ y ∈ ys, P y) ∧ Dk S' i j n' ∧ n ≤ n' ∧ n' ≤ n + c * (xs.length : Int) ∧ Ch i j S0 S'
  | [], δ, S, acc, n, d, ch, h, _, _, _ => ⟨[], S, n, by simp, by simpa using h, rfl, fun y h => absurd h List.not_mem_nil, d, Int.le_refl _, by simp, ch⟩
  | x :: xs, δ, S, acc, n, d, ch, h, hz, he, hn => by
    have hx : c * ((x :: xs).length : Int) = c + c * (xs.length : Int) := by
      rw [List.length_cons, Int.natCast_add, Int.mul_add]
      simp
      omega
    have hcx : 0 ≤ c * (xs.length : Int) := Int.mul_nonneg hc (by omega)
    rw [List.length_cons] at hz
    obtain ⟨y, S1, n1, e1, p1, d1, l1, u1, c1⟩ := he x List.mem_cons_self S n d (by omega) ch
    have hl1 := c1.at_ l _ (by omega) (by omega) h
    have hlt : l < S1.length := (List.getElem?_eq_some_iff.mp hl1).1
    have d2 : Dk (S1.set l (.lst (acc ++ [y]))) i j n1 := d1.setO (by omega) (by omega)
    have c2 : Ch i j S0 (S1.set l (.lst (acc ++ [y]))) := (ch.trans c1).setN hl
    obtain ⟨ys, S', n', e', h', len', p', d', l', u', c'⟩ := lc_draws hl hi hj hc xs δ _ (acc ++ [y]) n1 d2 c2 (by rw [List.getElem?_set_self hlt]) (by rw [List.length_append, List.length_singleton]; omega) (fun z hz => he z (List.mem_cons_of_mem _ hz)) (by omega)
    refine ⟨y :: ys, S', n', ?_, by rw [h', List.append_assoc]; rfl, by rw [List.length_cons, List.length_cons, len'], fun z hz => ?_, d', by omega, by omega, c'⟩
    · have ha : acc.length < 100000 := by omega
      simp [e1, hl1, ha, e']
    · rcases List.mem_cons.mp hz with h | h
      · rw [h]; exact p1
      · exact p' z h
end PG

set_option Elab.async false
set_option linter.all false
set_option maxRecDepth 100000
set_option maxHeartbeats 1000000
namespace PG
open PySem L2 DL
/-! ### names -/
def lets : List Nat := (Str.ofString "abcdefghijklmnopqrstuvwxyz").cps.toList
def digs : List Nat := (Str.ofString "0123456789").cps.toList
def words : List Str := ["set", "pay", "stop", "if", "else", "we", "they", "or", "repeat", "pass", "rest", "of", "not", "program"]
def nameOk (s : Str) : Bool := decide (1 ≤ s.length) && decide (s.length ≤ 8) && !(words.any (· == s)) && (match s.cps.toList with | c :: _ => decide (c ∈ lets) | [] => false) && s.cps.toList.all fun c => decide (c ∈ lets) || decide (c ∈ digs)
def usual : List Str := ["turns", "items", "total", "plus", "less", "times", "minus", "worth", "hands", "rows", "none", "place"]
theorem usual_ok : (usual.all nameOk) = true := by decide +kernel
theorem n_ok : nameOk "n" = true := by decide +kernel
theorem words_qxz : (words.all fun w => w.cps.toList.all fun c => decide (c ≠ 113) && decide (c ≠ 120) && decide (c ≠ 122)) = true := by decide +kernel
theorem made_ok {l r : List Nat} {c : Nat} (hc : c = 113 ∨ c = 120 ∨ c = 122) (hl : ∀ x ∈ l, x ∈ lets) (hr : ∀ x ∈ r, x ∈ lets ∨ x ∈ digs) (hz : l.length + r.length ≤ 7) : nameOk ⟨(l ++ c :: r).toArray⟩ = true := by
  have hcl : c ∈ lets := by rcases hc with rfl | rfl | rfl <;> decide +kernel
  have hlen : (Str.length ⟨(l ++ c :: r).toArray⟩) = l.length + r.length + 1 := by
    show (l ++ c :: r).toArray.size = _
    simp
    omega
  have hw : (words.any (· == (⟨(l ++ c :: r).toArray⟩ : Str))) = false := by
    rw [List.any_eq_false]
    intro w hw
    have h := List.all_eq_true.mp words_qxz w hw
    intro e
    have e := eq_of_beq e
    rw [e] at h
    have h := List.all_eq_true.mp h c (by simp)
    rcases hc with rfl | rfl | rfl <;> simp at h
  unfold nameOk
  rw [hlen, hw]
  have ha : ((l ++ c :: r).toArray.toList.all fun c => decide (c ∈ lets) || decide (c ∈ digs)) = true := by
    rw [List.all_eq_true]
    intro x hx
    simp at hx
    rcases hx with h | h | h
    · simp [hl x h]
    · simp [h, hcl]
    · rcases hr x h with h | h <;> simp [h]
  have hf : (match (l ++ c :: r).toArray.toList with | c :: _ => decide (c ∈ lets) | [] => false) = true := by
    cases l with
    | nil => simp [hcl]
    | cons a b => simp [hl a List.mem_cons_self]
  show (decide (1 ≤ l.length + r.length + 1) && decide (l.length + r.length + 1 ≤ 8) && !false && (match (l ++ c :: r).toArray.toList with | c :: _ => decide (c ∈ lets) | [] => false) && ((l ++ c :: r).toArray.toList.all fun c => decide (c ∈ lets) || decide (c ∈ digs))) = true
  rw [ha, hf]
  simp
  omega
/-- the texts of single signs, joined -/
theorem join_signs : ∀ cs : List Nat, Txt.join (Str.ofString "") (cs.map fun c => (⟨#[c]⟩ : Str)) = ⟨cs.toArray⟩ := by
  intro cs
  have key : ∀ cs : List Nat, TL.joinL [] (cs.map fun c => [c]) = cs := by
    intro cs
    induction cs with
    | nil => rfl
    | cons a r ih =>
      cases r with
      | nil => rfl
      | cons b r => 
        show [a] ++ ([] ++ TL.joinL [] ((b :: r).map fun c => [c])) = _
        rw [ih]
        rfl
  rw [TL.join_eq]
  have h := TL.tl_join (Str.ofString "") (cs.map fun c => (⟨#[c]⟩ : Str))
  have e : TL.tl (Str.ofString "") = [] := by decide +kernel
  rw [e, List.map_map] at h
  have h2 : (TL.tl ∘ fun c => (⟨#[c]⟩ : Str)) = fun c => [c] := by funext c; rfl
  rw [h2, key] at h
  have h3 : (Str.join (Str.ofString "") (cs.map fun c => (⟨#[c]⟩ : Str))).cps.toList = cs := h
  cases hq : Str.join (Str.ofString "") (cs.map fun c => (⟨#[c]⟩ : Str)) with
  | mk a =>
    rw [hq] at h3
    have h4 : a.toList = cs := h3
    rw [← h4]
theorem signs_of {Q : Nat → Prop} : ∀ {ys : List D}, (∀ y ∈ ys, ∃ c, y = D.str ⟨#[c]⟩ ∧ Q c) → ∃ cs : List Nat, ys = cs.map (fun c => D.str ⟨#[c]⟩) ∧ ∀ c ∈ cs, Q c
  | [], _ => ⟨[], rfl, fun c h => absurd h List.not_mem_nil⟩
  | y :: ys, h => by
    obtain ⟨c, rfl, hc⟩ := h y List.mem_cons_self
    obtain ⟨cs, rfl, hcs⟩ := signs_of fun z hz => h z (List.mem_cons_of_mem _ hz)
    refine ⟨c :: cs, rfl, fun z hz => ?_⟩
    rcases List.mem_cons.mp hz with h | h
    · rw [h]; exact hc
    · exact hcs z h
theorem strs_of {Q : Str → Prop} : ∀ {ys : List D}, (∀ y ∈ ys, ∃ c, y = D.str c ∧ Q c) → ∃ cs : List Str, ys = cs.map D.str ∧ ∀ c ∈ cs, Q c
  | [], _ => ⟨[], rfl, fun c h => absurd h List.not_mem_nil⟩
  | y :: ys, h => by
    obtain ⟨c, rfl, hc⟩ := h y List.mem_cons_self
    obtain ⟨cs, rfl, hcs⟩ := strs_of fun z hz => h z (List.mem_cons_of_mem _ hz)
    refine ⟨c :: cs, rfl, fun z hz => ?_⟩
    rcases List.mem_cons.mp hz with h | h
    · rw [h]; exact hc
    · exact hcs z h
theorem one_sum : ∀ cs : List Nat, ((cs.map fun c => (⟨#[c]⟩ : Str)).map (·.length)).sum = cs.length
  | [] => rfl
  | c :: r => by
    rw [List.map_cons, List.map_cons, List.sum_cons, one_sum r, List.length_cons]
    show 1 + r.length = _
    omega
theorem e_len : (Str.ofString "").length = 0 := by decide +kernel
theorem join_lc {S : Sto} {l : Nat} {cs : List Nat} (h : S[l]? = some (.lst (cs.map fun c => D.str ⟨#[c]⟩))) (hz : cs.length ≤ 1000) : joinK2 (.str (Str.ofString "")) (some (.loc l, S)) = some (.str ⟨cs.toArray⟩, S) := by
  have e : (cs.map fun c => D.str ⟨#[c]⟩) = (cs.map fun c => (⟨#[c]⟩ : Str)).map D.str := by rw [List.map_map]; rfl
  rw [e] at h
  have hh : ((cs.map fun c => (⟨#[c]⟩ : Str)).map (·.length)).sum + (cs.map fun c => (⟨#[c]⟩ : Str)).length * (Str.ofString "").length ≤ 16777216 := by
    rw [one_sum, e_len]
    omega
  rw [joinK2_1]
  simp only [h, asStrs_map, Option.bind_some]
  rw [if_pos hh, join_signs]
theorem app_len (a b : Str) : (a ++ b).length = a.length + b.length := by
  show (a.cps ++ b.cps).size = _
  rw [Array.size_append]
  rfl
theorem app_made (l r : List Nat) (c : Nat) : ((⟨l.toArray⟩ : Str) ++ (⟨#[c]⟩ : Str)) ++ (⟨r.toArray⟩ : Str) = ⟨(l ++ c :: r).toArray⟩ := by
  apply congrArg Str.mk
  show l.toArray ++ #[c] ++ r.toArray = _
  simp
theorem qxz_c : (Str.ofString "qxz").cps.toList = [113, 120, 122] := by decide +kernel
theorem qxz_l : (Str.ofString "qxz").length ≤ 100000 := by decide +kernel
theorem sig_app : (Str.ofString "abcdefghijklmnopqrstuvwxyz" ++ Str.ofString "0123456789").cps.toList = lets ++ digs := by
  show (_ ++ _ : Array Nat).toList = _
  rw [Array.toList_append]
  rfl
theorem lets_len : (Str.ofString "abcdefghijklmnopqrstuvwxyz").cps.toList.length = 26 := by decide +kernel
theorem cut_map {α β : Type} (f : α → β) (l : List α) (a b : Nat) : ((l.map f).drop a).take b = ((l.drop a).take b).map f := by rw [← List.map_drop, ← List.map_take]
theorem usual_cut {a : Int} (h0 : 0 ≤ a) (h1 : a < 10) : ∃ zs : List Str, cutD (usual.map D.str) (some a) (some (a + 3)) = zs.map D.str ∧ zs.length = 3 ∧ ∀ z ∈ zs, nameOk z = true := by
  have hu : (usual.map D.str).length = 12 := rfl
  refine ⟨(usual.drop (HT.sIx 12 0 (some a))).take (HT.sIx 12 12 (some (a + 3)) - HT.sIx 12 0 (some a)), ?_, ?_, ?_⟩
  · unfold cutD
    rw [hu, cut_map]
  · have : a = 0 ∨ a = 1 ∨ a = 2 ∨ a = 3 ∨ a = 4 ∨ a = 5 ∨ a = 6 ∨ a = 7 ∨ a = 8 ∨ a = 9 := by omega
    rcases this with rfl | rfl | rfl | rfl | rfl | rfl | rfl | rfl | rfl | rfl <;> decide +kernel
  · intro z hz
    exact List.all_eq_true.mp usual_ok z (List.mem_of_mem_drop (List.mem_of_mem_take hz))
noncomputable def f_names : Fn := fDef 1 9 (b__law_names f_draw f_one)
theorem names_ok {S : Sto} {i j : Nat} {n : Int} (hd : Dk S i j n) (hn : n + 20 ≤ B) : ∃ (l : Nat) (zs : List Str) (S' : Sto) (n' : Int), f_names [.loc i] S = some (.loc l, S') ∧ S'[l]? = some (.lst (zs.map D.str)) ∧ zs.length = 4 ∧ (∀ z ∈ zs, nameOk z = true) ∧ S.length ≤ l ∧ Dk S' i j n' ∧ n ≤ n' ∧ n' ≤ n + 20 ∧ Ch i j S S' := by
  have il := hd.il
  have jl := hd.jl
  have q1 : (Str.ofString "abcdefghijklmnopqrstuvwxyz").length + (Str.ofString "0123456789").length ≤ 100000 := by decide +kernel
  have d1 := hd.app [.lst (usual.map D.str)]
  obtain ⟨at_, S2, e2, a0, a1, d2, c2, s2⟩ := draw_ok (many := 60) d1 (by unfold B at hn; omega) (by decide) (by decide)
  have d3 := d2.app [.lst [.int 0, .int 1, .int 2, .int 3, .int 5, .int 6, .int 7]]
  have h3 : (S2 ++ [Ob.lst [.int 0, .int 1, .int 2, .int 3, .int 5, .int 6, .int 7]])[S2.length]? = some (.lst [.int 0, .int 1, .int 2, .int 3, .int 5, .int 6, .int 7]) := by simp
  have i2 := d2.il
  have j2 := d2.jl
  obtain ⟨sz, S4, e4, m4, d4, c4, s4⟩ := one_ok d3 (by unfold B at hn ⊢; omega) h3 (by omega) (by omega) (by decide) (by decide)
  have w1 : (S ++ [Ob.lst (usual.map D.str)])[S.length]? = some (.lst (usual.map D.str)) := by simp
  have w4 : S4[S.length]? = some (.lst (usual.map D.str)) := c4.at_ _ _ (by omega) (by omega) ((Ext.new S2 _).at (c2.at_ _ _ (by omega) (by omega) w1))
  simp [usual] at e2
  by_cases ha : at_ < 10
  · have w5 : (S4 ++ [Ob.lst [.str (Str.ofString "n")]])[S.length]? = some (.lst (usual.map D.str)) := (Ext.new S4 _).at w4
    have ch4 : Ch i j S S4 := ((Ch.app _ _).trans c2).trans ((Ch.app _ _).trans c4)
    obtain ⟨zs, hz, hl, hok⟩ : ∃ zs : List Str, cutD (usual.map D.str) (some at_) (some (at_ + 3)) = zs.map D.str ∧ zs.length = 3 ∧ ∀ z ∈ zs, nameOk z = true := usual_cut a0 ha
    refine ⟨S4.length + 1 + 1, Str.ofString "n" :: zs, S4 ++ [.lst [.str (Str.ofString "n")]] ++ [.lst (zs.map D.str)] ++ [.lst ((Str.ofString "n" :: zs).map D.str)], n + 1 + 1, ?_, by rw [List.getElem?_append_right (by simp)]; simp, by simp [hl], ?_, ?_, ((d4.app _).app _).app _, by omega, by omega, ch4.trans (((Ch.app _ _).trans (.app _ _)).trans (.app _ _))⟩
    · have z1 : (S4 ++ [Ob.lst [.str (Str.ofString "n")]] ++ [Ob.lst (zs.map D.str)])[S4.length]? = some (.lst [.str (Str.ofString "n")]) := by simp
      have z2 : (S4 ++ [Ob.lst [.str (Str.ofString "n")]] ++ [Ob.lst (zs.map D.str)])[S4.length + 1]? = some (.lst (zs.map D.str)) := by
        rw [List.getElem?_append_right (by simp)]
        simp
      simp only [usual, List.map] at hz w5
      simp [f_names, fDef, b__law_names, q1, e2, e4, ha, w5, hz, z2, hl]
    · intro z hz
      rcases List.mem_cons.mp hz with h | h
      · rw [h]; exact n_ok
      · exact hok z h
    · have := ch4.len
      omega
  · obtain ⟨k, rfl, k0, k7⟩ : ∃ k : Int, sz = .int k ∧ 0 ≤ k ∧ k ≤ 7 := by
      simp at m4
      rcases m4 with h | h | h | h | h | h | h <;> exact ⟨_, h, by decide, by decide⟩
    have kb : -1000000 ≤ k ∧ k ≤ 1000000 := by omega
    have i4 := d4.il
    have j4 := d4.jl
    -- the letters on the left
    let δ : DEnv := [some (.loc i), some (.str (Str.ofString "abcdefghijklmnopqrstuvwxyz")), some (.str (Str.ofString "abcdefghijklmnopqrstuvwxyz" ++ Str.ofString "0123456789")), some (.loc S.length), some (.int at_), some (.int k), none, none, none]
    obtain ⟨ys, S5, n5, e5, h5, len5, p5, d5, l5, u5, c5⟩ := lc_draws (i := i) (j := j) (k := 8) (l := S4.length) (e := fCall f_one (fCons (fVar 0) (fCons (fVar 1) fNil))) (P := fun y => ∃ c, y = D.str ⟨#[c]⟩ ∧ c ∈ lets) (c := 1) (S0 := S4)
      (Nat.le_refl _) i4 j4 (by decide) (rangeD 0 k.toNat) δ (S4 ++ [.lst []]) [] (n + 1 + 1) (d4.app _) (.app _ _) (by simp) (by simp [rangeD]; omega) (fun x _ S n dS hS cS => by
        obtain ⟨c, S', e, hc, d', c', _⟩ := one_str (z := Str.ofString "abcdefghijklmnopqrstuvwxyz") dS (by omega) (by rw [lets_len]; decide) (by rw [lets_len]; decide)
        exact ⟨_, S', n + 1, by simp [δ, e], ⟨c, rfl, hc⟩, d', by omega, by omega, c'⟩) (by simp [rangeD]; unfold B at hn ⊢; omega)
    obtain ⟨cs, rfl, hcs⟩ := signs_of p5
    have lcs : cs.length = k.toNat := by simpa [rangeD] using len5
    rw [show (rangeD 0 k.toNat).length = k.toNat by simp [rangeD]] at u5
    have j5 := join_lc (S := S5) (l := S4.length) (cs := cs) (by simpa using h5) (by omega)
    -- how many on the right
    have i5 := d5.il
    have jj5 := d5.jl
    obtain ⟨m, S6, e6, m0, m1, d6, c6, s6⟩ := draw_ok (many := 8 - k) d5 (by unfold B at hn; omega) (by omega) (by omega)
    have mb : -1000000 ≤ m ∧ m ≤ 1000000 := by omega
    have i6 := d6.il
    have j6 := d6.jl
    let δ2 : DEnv := [some (.loc i), some (.str (Str.ofString "abcdefghijklmnopqrstuvwxyz")), some (.str (Str.ofString "abcdefghijklmnopqrstuvwxyz" ++ Str.ofString "0123456789")), some (.loc S.length), some (.int at_), some (.int k), some (.str ⟨cs.toArray⟩), none, none]
    obtain ⟨zs, S7, n7, e7, h7, len7, p7, d7, l7, u7, c7⟩ := lc_draws (i := i) (j := j) (k := 8) (l := S6.length) (e := fCall f_one (fCons (fVar 0) (fCons (fVar 2) fNil))) (P := fun y => ∃ c, y = D.str ⟨#[c]⟩ ∧ (c ∈ lets ∨ c ∈ digs)) (c := 1) (S0 := S6)
      (Nat.le_refl _) i6 j6 (by decide) (rangeD 0 m.toNat) δ2 (S6 ++ [.lst []]) [] (n5 + 1) (d6.app _) (.app _ _) (by simp) (by simp [rangeD]; omega) (fun x _ S n dS hS cS => by
        obtain ⟨c, S', e, hc, d', c', _⟩ := one_str (z := Str.ofString "abcdefghijklmnopqrstuvwxyz" ++ Str.ofString "0123456789") dS (by omega) (by rw [sig_app]; decide +kernel) (by rw [sig_app]; decide +kernel)
        refine ⟨_, S', n + 1, by simp [δ2, e], ⟨c, rfl, ?_⟩, d', by omega, by omega, c'⟩
        rw [sig_app] at hc
        exact List.mem_append.mp hc) (by simp [rangeD]; unfold B at hn ⊢; omega)
    obtain ⟨rs, rfl, hrs⟩ := signs_of p7
    have lrs : rs.length = m.toNat := by simpa [rangeD] using len7
    rw [show (rangeD 0 m.toNat).length = m.toNat by simp [rangeD]] at u7
    have j7 := join_lc (S := S7) (l := S6.length) (cs := rs) (by simpa using h7) (by omega)
    -- the three names
    let δ3 : DEnv := [some (.loc i), some (.str (Str.ofString "abcdefghijklmnopqrstuvwxyz")), some (.str (Str.ofString "abcdefghijklmnopqrstuvwxyz" ++ Str.ofString "0123456789")), some (.loc S.length), some (.int at_), some (.int k), some (.str ⟨cs.toArray⟩), some (.str ⟨rs.toArray⟩), none]
    have i7 := d7.il
    have j7' := d7.jl
    obtain ⟨ws, S9, n9, e9, h9, len9, p9, d9, l9, u9, c9⟩ := lc_draws (i := i) (j := j) (k := 8) (l := (S7 ++ [Ob.lst [.str (Str.ofString "n")]]).length) (e := (fOp oAdd (fOp oAdd (fVar 6) (fOp oIx (fC (.str (Str.ofString "qxz"))) (fVar 8))) (fVar 7))) (P := fun y => ∃ z, y = D.str z ∧ nameOk z = true) (c := 0) (S0 := S7 ++ [.lst [.str (Str.ofString "n")]])
      (Nat.le_refl _) (by simp; omega) (by simp; omega) (by decide) (rangeD 0 3) δ3 (S7 ++ [.lst [.str (Str.ofString "n")]] ++ [.lst []]) [] n7 ((d7.app _).app _) (.app _ _) (by simp) (by simp [rangeD]) (fun x hx S n dS hS cS => by
        obtain ⟨c, q, hq⟩ : ∃ c, (∀ S, oIx (.str (Str.ofString "qxz")) x S = some (.str ⟨#[c]⟩, S)) ∧ (c = 113 ∨ c = 120 ∨ c = 122) := by
          have e : rangeD 0 3 = [.int 0, .int 1, .int 2] := rfl
          rw [e] at hx
          simp at hx
          rcases hx with rfl | rfl | rfl
          · exact ⟨113, fun S => by rw [oIx_s, qxz_c, if_pos qxz_l]; simp, by decide⟩
          · exact ⟨120, fun S => by rw [oIx_s, qxz_c, if_pos qxz_l]; simp, by decide⟩
          · exact ⟨122, fun S => by rw [oIx_s, qxz_c, if_pos qxz_l]; simp, by decide⟩
        have a1 : Str.length ⟨cs.toArray⟩ + Str.length ⟨#[c]⟩ ≤ 100000 := by
          show cs.toArray.size + 1 ≤ _
          rw [List.size_toArray]
          omega
        have a2 : Str.length ((⟨cs.toArray⟩ : Str) ++ (⟨#[c]⟩ : Str)) + Str.length ⟨rs.toArray⟩ ≤ 100000 := by
          rw [app_len]
          show cs.toArray.size + 1 + rs.toArray.size ≤ _
          rw [List.size_toArray, List.size_toArray]
          omega
        refine ⟨_, S, n, by simp [δ3, q, a1, a2]; rfl, ⟨_, rfl, ?_⟩, dS, by omega, by omega, .refl _ _ _⟩
        rw [app_made]
        exact made_ok hq hcs hrs (by omega)) (by unfold B at hn ⊢; omega)
    obtain ⟨ns, rfl, hns⟩ := strs_of p9
    have chS : Ch i j S S7 := (((((Ch.app _ _).trans c2).trans (Ch.app _ _)).trans c4).trans c5).trans (c6.trans c7)
    refine ⟨S9.length, Str.ofString "n" :: ns, S9 ++ [.lst ((Str.ofString "n" :: ns).map D.str)], n9, ?_, by simp, by simpa [rangeD] using len9, ?_, ?_, d9.app _, by omega, by simp at u9; omega, ?_⟩
    · have hS9n : S9[S7.length]? = some (.lst [.str (Str.ofString "n")]) := c9.at_ _ _ (by omega) (by omega) (by simp)
      have hS9l : S9[S7.length + 1]? = some (.lst (ns.map D.str)) := by simpa using h9
      have l9' : ns.length = 3 := by simpa [rangeD] using len9
      simp at e9
      simp only [δ] at e5
      simp only [δ2] at e7
      simp only [δ3] at e9
      simp [f_names, fDef, b__law_names, q1, e2, e4, ha, kb, e5, j5, e6, mb, e7, j7, e9, hS9n, hS9l, l9']
      trace_state
    · intro z hz
      rcases List.mem_cons.mp hz with h | h
      · rw [h]; exact n_ok
      · exact hns z h
    · have := chS.len
      have := c9.len
      simp at this
      omega
    · exact (chS.trans ((Ch.app _ _).trans c9)).trans (.app _ _)
end PG

set_option Elab.async false
set_option linter.all false
set_option maxRecDepth 100000
set_option maxHeartbeats 1000000
namespace PG
open PySem L2 DL
/-! ### programs as data -/
inductive Ex where
  | int (i : Int) | nm (z : Str) | plus (a b : Ex) | minus (a b : Ex) | times (k : Int) (e : Ex)
inductive Te where
  | less (a b : Ex) | rest (e : Ex) (m r : Int) | no (t : Te)
inductive Sm where
  | set (z : Str) (e : Ex) | pay (e : Ex) | stop | iff (t : Te) (y n : List Sm) | we (a b : List Sm) | they (a b : List Sm) | rep (k : Int) (b : List Sm)
def Ex.d : Ex → D
  | .int i => .int i | .nm z => .str z
  | .plus a b => .tup [.str "plus", a.d, b.d] | .minus a b => .tup [.str "minus", a.d, b.d] | .times k e => .tup [.str "times", .int k, e.d]
def Te.d : Te → D
  | .less a b => .tup [.str "less", a.d, b.d] | .rest e m r => .tup [.str "rest", e.d, .int m, .int r] | .no t => .tup [.str "not", t.d]
mutual
def Sm.d : Sm → D
  | .set z e => .tup [.str "set", .str z, e.d]
  | .pay e => .tup [.str "pay", e.d]
  | .stop => .tup [.str "stop"]
  | .iff t y n => .tup [.str "if", t.d, .tup (dA y), .tup (dA n)]
  | .we a b => .tup [.str "we", .tup (dA a), .tup (dA b)]
  | .they a b => .tup [.str "they", .tup (dA a), .tup (dA b)]
  | .rep k b => .tup [.str "repeat", .int k, .tup (dA b)]
def dA : List Sm → List D
  | [] => []
  | s :: r => s.d :: dA r
end
theorem dA_map : ∀ b : List Sm, dA b = b.map Sm.d
  | [] => by simp [dA]
  | s :: r => by simp [dA, dA_map r]
def Ex.ok : Ex → Nat → Prop
  | .int i, d => 0 < d ∧ -99 ≤ i ∧ i ≤ 99
  | .nm z, d => 0 < d ∧ nameOk z = true
  | .plus a b, d => 0 < d ∧ a.ok (d - 1) ∧ b.ok (d - 1)
  | .minus a b, d => 0 < d ∧ a.ok (d - 1) ∧ b.ok (d - 1)
  | .times k e, d => 0 < d ∧ -9 ≤ k ∧ k ≤ 9 ∧ e.ok (d - 1)
def Te.ok : Te → Nat → Prop
  | .less a b, _ => a.ok 3 ∧ b.ok 3
  | .rest e m r, _ => e.ok 3 ∧ 2 ≤ m ∧ m ≤ 6 ∧ 0 ≤ r ∧ r < m
  | .no t, n => 0 < n ∧ t.ok (n - 1)
mutual
def Sm.ok : Sm → Prop
  | .set z e => nameOk z = true ∧ e.ok 3
  | .pay e => e.ok 3
  | .stop => True
  | .iff t y n => t.ok 2 ∧ okA y ∧ okA n
  | .we a b => okA a ∧ okA b
  | .they a b => okA a ∧ okA b
  | .rep k b => 1 ≤ k ∧ k ≤ 8 ∧ okA b
def okA : List Sm → Prop
  | [] => True
  | s :: r => s.ok ∧ okA r
end
theorem Ex.ok_mono : ∀ (e : Ex) {d d' : Nat}, e.ok d → d ≤ d' → e.ok d'
  | .int i, d, d', h, hd => ⟨by have := h.1; omega, h.2⟩
  | .nm z, d, d', h, hd => ⟨by have := h.1; omega, h.2⟩
  | .plus a b, d, d', h, hd => ⟨by have := h.1; omega, a.ok_mono h.2.1 (by omega), b.ok_mono h.2.2 (by omega)⟩
  | .minus a b, d, d', h, hd => ⟨by have := h.1; omega, a.ok_mono h.2.1 (by omega), b.ok_mono h.2.2 (by omega)⟩
  | .times k e, d, d', h, hd => ⟨by have := h.1; omega, h.2.1, h.2.2.1, e.ok_mono h.2.2.2 (by omega)⟩
/-! ### expressions drawn -/
structure Nms (S : Sto) (i j l : Nat) : Prop where
  ni : l ≠ i
  nj : l ≠ j
  at_ : ∃ zs : List Str, S[l]? = some (.lst (zs.map D.str)) ∧ 0 < zs.length ∧ zs.length ≤ 100 ∧ ∀ z ∈ zs, nameOk z = true
theorem Nms.ch {S S' : Sto} {i j l : Nat} (h : Nms S i j l) (c : Ch i j S S') : Nms S' i j l := ⟨h.ni, h.nj, let ⟨zs, a, b⟩ := h.at_; ⟨zs, c.at_ _ _ h.ni h.nj a, b⟩⟩
noncomputable def f_expression : Nat → Fn
  | 0 => fun _ _ => none
  | k + 1 => fDef 3 6 (b__law_expression (f_expression k) f_one f_draw)
def cE : Nat → Int
  | 0 => 3
  | d + 1 => 3 + 2 * cE d
theorem cE_pos : ∀ d, 3 ≤ cE d
  | 0 => by simp [cE]
  | d + 1 => by have := cE_pos d; simp only [cE]; omega
theorem name_one {S : Sto} {i j l : Nat} {n : Int} (hd : Dk S i j n) (hn : n < B) (hl : Nms S i j l) : ∃ z S', f_one [.loc i, .loc l] S = some (.str z, S') ∧ nameOk z = true ∧ Dk S' i j (n + 1) ∧ Ch i j S S' := by
  obtain ⟨zs, h1, h2, h3, h4⟩ := hl.at_
  obtain ⟨d, S', e, hm, d', c', _⟩ := one_ok hd hn h1 hl.ni hl.nj (by simpa using h2) (by simp; omega)
  obtain ⟨z, hz, rfl⟩ := List.mem_map.mp hm
  exact ⟨z, S', e, h4 z hz, d', c'⟩
theorem expression_ok {i j l : Nat} : ∀ (k : Nat) {S : Sto} {n : Int}, Dk S i j n → n + cE k ≤ B → Nms S i j l → ∃ (e : Ex) (S' : Sto) (n' : Int), f_expression (k + 1) [.loc i, .loc l, .int ((k + 1 : Nat) : Int)] S = some (e.d, S') ∧ e.ok (k + 1) ∧ Dk S' i j n' ∧ n ≤ n' ∧ n' ≤ n + cE k ∧ Ch i j S S' := by
  intro k
  induction k with
  | zero =>
    intro S n hd hn hl
    have hB : B = 1000000000000 := rfl
    simp only [cE] at hn
    obtain ⟨w, S1, e1, w0, w1, d1, c1, s1⟩ := draw_ok (many := 4) hd (by omega) (by decide) (by decide)
    by_cases hw : w = 0
    · subst hw
      obtain ⟨v, S2, e2, v0, v1, d2, c2, s2⟩ := draw_ok (many := 199) d1 (by omega) (by decide) (by decide)
      have i2 := d2.il
      have j2 := d2.jl
      obtain ⟨x, S3, e3, m3, d3, c3, s3⟩ := one_ok (l := S2.length) (ds := [.int 0, .int 1, .int 2, .int (-1), .int 3, .int (-5), .int 99, .int (-99), .int (v - 99)]) (d2.app [.lst [.int 0, .int 1, .int 2, .int (-1), .int 3, .int (-5), .int 99, .int (-99), .int (v - 99)]]) (by omega) (by simp) (by omega) (by omega) (by simp) (by simp)
      obtain ⟨y, rfl, y0, y1⟩ : ∃ y : Int, x = .int y ∧ -99 ≤ y ∧ y ≤ 99 := by
        simp at m3
        rcases m3 with h | h | h | h | h | h | h | h | h <;> exact ⟨_, h, by omega, by omega⟩
      refine ⟨.int y, S3, n + 1 + 1 + 1, ?_, ⟨by omega, y0, y1⟩, d3, by omega, by simp only [cE]; omega, (c1.trans c2).trans ((Ch.app _ _).trans c3)⟩
      simp [f_expression, fDef, b__law_expression, e1, e2, e3, Ex.d]
    · obtain ⟨z, S2, e2, hz, d2, c2⟩ := name_one d1 (by omega) (hl.ch c1)
      refine ⟨.nm z, S2, n + 1 + 1, ?_, ⟨by omega, hz⟩, d2, by omega, by simp only [cE]; omega, c1.trans c2⟩
      have hw4 : w < 4 := w1
      simp [f_expression, fDef, b__law_expression, e1, e2, Ex.d, hw, hw4]
  | succ k ih =>
    intro S n hd hn hl
    have hB : B = 1000000000000 := rfl
    have hp := cE_pos k
    simp only [cE] at hn
    obtain ⟨w, S1, e1, w0, w1, d1, c1, s1⟩ := draw_ok (many := 7) hd (by omega) (by decide) (by decide)
    have hk : (1 : Int) < (k : Int) + 1 + 1 := by omega
    have hk1 : (k : Int) + 1 + 1 - 1 = (k : Int) + 1 := by omega
    have ec : (((k + 1 : Nat)) : Int) = (k : Int) + 1 := rfl
    have ec2 : (((k + 1 + 1 : Nat)) : Int) = (k : Int) + 1 + 1 := rfl
    rw [ec2]
    by_cases hw : w = 0
    · subst hw
      obtain ⟨v, S2, e2, v0, v1, d2, c2, s2⟩ := draw_ok (many := 199) d1 (by omega) (by decide) (by decide)
      have i2 := d2.il
      have j2 := d2.jl
      obtain ⟨x, S3, e3, m3, d3, c3, s3⟩ := one_ok (l := S2.length) (ds := [.int 0, .int 1, .int 2, .int (-1), .int 3, .int (-5), .int 99, .int (-99), .int (v - 99)]) (d2.app [.lst [.int 0, .int 1, .int 2, .int (-1), .int 3, .int (-5), .int 99, .int (-99), .int (v - 99)]]) (by omega) (by simp) (by omega) (by omega) (by simp) (by simp)
      obtain ⟨y, rfl, y0, y1⟩ : ∃ y : Int, x = .int y ∧ -99 ≤ y ∧ y ≤ 99 := by
        simp at m3
        rcases m3 with h | h | h | h | h | h | h | h | h <;> exact ⟨_, h, by omega, by omega⟩
      refine ⟨.int y, S3, n + 1 + 1 + 1, ?_, ⟨by omega, y0, y1⟩, d3, by omega, by simp only [cE]; omega, (c1.trans c2).trans ((Ch.app _ _).trans c3)⟩
      rw [f_expression]
      simp [fDef, b__law_expression, hk, e1, e2, e3, Ex.d]
    · by_cases hw4 : w < 4
      · obtain ⟨z, S2, e2, hz, d2, c2⟩ := name_one d1 (by omega) (hl.ch c1)
        refine ⟨.nm z, S2, n + 1 + 1, ?_, ⟨by omega, hz⟩, d2, by omega, by simp only [cE]; omega, c1.trans c2⟩
        rw [f_expression]
        simp [fDef, b__law_expression, hk, e1, e2, Ex.d, hw, hw4]
      · by_cases hw6 : w = 6
        · subst hw6
          have i1 := d1.il
          have j1 := d1.jl
          obtain ⟨x, S3, e3, m3, d3, c3, s3⟩ := one_ok (l := S1.length) (ds := [.int (-9), .int (-4), .int (-3), .int (-2), .int (-1), .int 0, .int 2, .int 3, .int 9]) (d1.app [.lst [.int (-9), .int (-4), .int (-3), .int (-2), .int (-1), .int 0, .int 2, .int 3, .int 9]]) (by omega) (by simp) (by omega) (by omega) (by simp) (by simp)
          obtain ⟨y, rfl, y0, y1⟩ : ∃ y : Int, x = .int y ∧ -9 ≤ y ∧ y ≤ 9 := by
            simp at m3
            rcases m3 with h | h | h | h | h | h | h | h | h <;> exact ⟨_, h, by omega, by omega⟩
          have c13 : Ch i j S S3 := c1.trans ((Ch.app _ _).trans c3)
          obtain ⟨e, S4, n4, e4, ok4, d4, l4, u4, c4⟩ := ih d3 (by omega) (hl.ch c13)
          rw [ec] at e4
          refine ⟨.times y e, S4, n4, ?_, ⟨by omega, y0, y1, ok4⟩, d4, by omega, by simp only [cE]; omega, c13.trans c4⟩
          rw [f_expression]
          simp [fDef, b__law_expression, hk, hk1, e1, e3, e4, Ex.d]
        · obtain ⟨a, S2, n2, e2, ok2, d2, l2, u2, c2⟩ := ih d1 (by omega) (hl.ch c1)
          have d3 := d2.app [.lst [.str "plus", .str "minus"]]
          have c12 : Ch i j S (S2 ++ [.lst [.str "plus", .str "minus"]]) := (c1.trans c2).trans (.app _ _)
          obtain ⟨b, S4, n4, e4, ok4, d4, l4, u4, c4⟩ := ih d3 (by omega) (hl.ch c12)
          rw [ec] at e2 e4
          have hw45 : w = 4 ∨ w = 5 := by omega
          rcases hw45 with rfl | rfl
          · refine ⟨.plus a b, S4, n4, ?_, ⟨by omega, ok2, ok4⟩, d4, by omega, by simp only [cE]; omega, c12.trans c4⟩
            rw [f_expression]
            simp [fDef, b__law_expression, hk, hk1, e1, e2, e4, Ex.d]
          · refine ⟨.minus a b, S4, n4, ?_, ⟨by omega, ok2, ok4⟩, d4, by omega, by simp only [cE]; omega, c12.trans c4⟩
            rw [f_expression]
            simp [fDef, b__law_expression, hk, hk1, e1, e2, e4, Ex.d]
end PG

set_option Elab.async false
set_option linter.all false
set_option maxRecDepth 100000
set_option maxHeartbeats 1000000
namespace PG
open PySem L2 DL
/-! ### what is left -/
structure Lf where
  (a b c d e : Int)
def Lf.ds (v : Lf) : List D := [.int v.a, .int v.b, .int v.c, .int v.d, .int v.e]
/-- all but the deck and what is left stays -/
structure CL (i j q : Nat) (S S' : Sto) : Prop where
  len : S.length ≤ S'.length
  at_ : ∀ (l : Nat) (o : Ob), l ≠ i → l ≠ j → l ≠ q → S[l]? = some o → S'[l]? = some o
theorem CL.refl (i j q : Nat) (S : Sto) : CL i j q S S := ⟨Nat.le_refl _, fun _ _ _ _ _ h => h⟩
theorem CL.trans {i j q : Nat} {S S1 S2 : Sto} (a : CL i j q S S1) (b : CL i j q S1 S2) : CL i j q S S2 := ⟨Nat.le_trans a.len b.len, fun l o h1 h2 h3 h => b.at_ l o h1 h2 h3 (a.at_ l o h1 h2 h3 h)⟩
theorem Ch.cl {i j : Nat} {S S' : Sto} (c : Ch i j S S') (q : Nat) : CL i j q S S' := ⟨c.len, fun l o h1 h2 _ h => c.at_ l o h1 h2 h⟩
theorem CL.setQ {i j q : Nat} {S : Sto} {o : Ob} : CL i j q S (S.set q o) := ⟨by rw [List.length_set]; exact Nat.le_refl _, fun m o' h1 h2 h3 h' => by
  rw [List.getElem?_set_ne (fun z => h3 z.symm)]
  exact h'⟩
structure W (S : Sto) (i j l q : Nat) (n : Int) (v : Lf) : Prop where
  dk : Dk S i j n
  nm : Nms S i j l
  left : S[q]? = some (.lst v.ds)
  qi : q ≠ i
  qj : q ≠ j
  ql : q ≠ l
section
variable {S S' : Sto} {i j l q : Nat} {n n' : Int} {v v' : Lf}
theorem W.ch (w : W S i j l q n v) (c : Ch i j S S') (d : Dk S' i j n') : W S' i j l q n' v := ⟨d, w.nm.ch c, c.at_ _ _ w.qi w.qj w.left, w.qi, w.qj, w.ql⟩
theorem W.app (w : W S i j l q n v) (z : Sto) : W (S ++ z) i j l q n v := w.ch (.app _ _) (w.dk.app _)
theorem W.lt (w : W S i j l q n v) : q < S.length := (List.getElem?_eq_some_iff.mp w.left).1
theorem W.put (w : W S i j l q n v) (v' : Lf) : W (S.set q (.lst v'.ds)) i j l q n v' := by
  have hq := w.lt
  obtain ⟨zs, h, r⟩ := w.nm.at_
  exact ⟨w.dk.setO w.qi w.qj, ⟨w.nm.ni, w.nm.nj, zs, by rw [List.getElem?_set_ne w.ql]; exact h, r⟩, by rw [List.getElem?_set_self hq], w.qi, w.qj, w.ql⟩
theorem W.setO (w : W S i j l q n v) {m : Nat} {o : Ob} (h1 : m ≠ i) (h2 : m ≠ j) (h3 : m ≠ l) (h4 : m ≠ q) : W (S.set m o) i j l q n v := by
  obtain ⟨zs, h, r⟩ := w.nm.at_
  exact ⟨w.dk.setO h1 h2, ⟨w.nm.ni, w.nm.nj, zs, by rw [List.getElem?_set_ne h3]; exact h, r⟩, by rw [List.getElem?_set_ne h4]; exact w.left, w.qi, w.qj, w.ql⟩
end
theorem expr3_ok {S : Sto} {i j l : Nat} {n : Int} (hd : Dk S i j n) (hn : n + 21 ≤ B) (hl : Nms S i j l) : ∃ (e : Ex) (S' : Sto) (n' : Int), f_expression 3 [.loc i, .loc l, .int 3] S = some (e.d, S') ∧ e.ok 3 ∧ Dk S' i j n' ∧ n ≤ n' ∧ n' ≤ n + 21 ∧ Ch i j S S' := expression_ok 2 hd hn hl
theorem expr2_ok {S : Sto} {i j l : Nat} {n : Int} (hd : Dk S i j n) (hn : n + 9 ≤ B) (hl : Nms S i j l) : ∃ (e : Ex) (S' : Sto) (n' : Int), f_expression 2 [.loc i, .loc l, .int 2] S = some (e.d, S') ∧ e.ok 2 ∧ Dk S' i j n' ∧ n ≤ n' ∧ n' ≤ n + 9 ∧ Ch i j S S' := expression_ok 1 hd hn hl
/-! ### statements without blocks -/
noncomputable def f_plain : Fn := fDef 2 4 (b__law_plain (f_expression 3) f_draw f_one)
inductive Sm.Plain : Sm → Prop
  | set (z : Str) (e : Ex) : Sm.Plain (.set z e)
  | pay (e : Ex) : Sm.Plain (.pay e)
  | stop : Sm.Plain .stop
theorem plain_ok {S : Sto} {i j l : Nat} {n : Int} (hd : Dk S i j n) (hn : n + 24 ≤ B) (hl : Nms S i j l) : ∃ (s : Sm) (S' : Sto) (n' : Int), f_plain [.loc i, .loc l] S = some (s.d, S') ∧ s.ok ∧ s.Plain ∧ Dk S' i j n' ∧ n ≤ n' ∧ n' ≤ n + 24 ∧ Ch i j S S' := by
  have hB : B = 1000000000000 := rfl
  obtain ⟨w, S1, e1, w0, w1, d1, c1, s1⟩ := draw_ok (many := 12) hd (by omega) (by decide) (by decide)
  obtain ⟨z, S2, e2, hz, d2, c2⟩ := name_one d1 (by omega) (hl.ch c1)
  have c12 := c1.trans c2
  by_cases h4 : w < 4
  · obtain ⟨e, S3, n3, e3, ok3, d3, l3, u3, c3⟩ := expr3_ok d2 (by omega) (hl.ch c12)
    refine ⟨.set z e, S3, n3, ?_, by simp only [Sm.ok]; exact ⟨hz, ok3⟩, .set _ _, d3, by omega, by omega, c12.trans c3⟩
    simp [f_plain, fDef, b__law_plain, e1, e2, e3, h4, Sm.d]
  · by_cases h5 : w = 4
    · subst h5
      refine ⟨.set z (.nm z), S2, _, ?_, by simp only [Sm.ok, Ex.ok]; exact ⟨hz, by omega, hz⟩, .set _ _, d2, by omega, by omega, c12⟩
      simp [f_plain, fDef, b__law_plain, e1, e2, Sm.d, Ex.d]
    · by_cases h6 : w = 5
      · subst h6
        obtain ⟨x, S3, e3, x0, x1, d3, c3, s3⟩ := draw_ok (many := 2) d2 (by omega) (by decide) (by decide)
        by_cases hx : x = 0
        · subst hx
          refine ⟨.stop, S3, _, ?_, by simp only [Sm.ok], .stop, d3, by omega, by omega, c12.trans c3⟩
          simp [f_plain, fDef, b__law_plain, e1, e2, e3, Sm.d]
        · obtain ⟨e, S4, n4, e4, ok4, d4, l4, u4, c4⟩ := expr3_ok d3 (by omega) (hl.ch (c12.trans c3))
          refine ⟨.pay e, S4, n4, ?_, by simp only [Sm.ok]; exact ok4, .pay _, d4, by omega, by omega, (c12.trans c3).trans c4⟩
          simp [f_plain, fDef, b__law_plain, e1, e2, e3, e4, hx, Sm.d]
      · obtain ⟨e, S4, n4, e4, ok4, d4, l4, u4, c4⟩ := expr3_ok d2 (by omega) (hl.ch c12)
        refine ⟨.pay e, S4, n4, ?_, by simp only [Sm.ok]; exact ok4, .pay _, d4, by omega, by omega, c12.trans c4⟩
        simp [f_plain, fDef, b__law_plain, e1, e2, e4, h4, h5, h6, Sm.d]
/-! ### tests -/
noncomputable def f_test : Fn := fDef 4 9 (b__law_test f_draw (f_expression 3) f_one)
def Te.isRest : Te → Bool
  | .less _ _ => false
  | .rest _ _ _ => true
  | .no t => t.isRest
def teD : Option Te → D
  | none => .tup []
  | some t => t.d
def taken (v : Lf) (t : Int) : Option Te → Lf
  | none => v
  | some te => if te.isRest then { v with d := v.d - t } else { v with e := v.e - t }
def nots : Nat → Te → Te
  | 0, t => t
  | k + 1, t => .no (nots k t)
theorem nots_ok {t : Te} (h : t.ok 0) : ∀ k, (nots k t).ok k
  | 0 => h
  | k + 1 => ⟨by omega, nots_ok h k⟩
theorem Te.ok_mono : ∀ (e : Te) {d d' : Nat}, e.ok d → d ≤ d' → e.ok d'
  | .less a b, d, d', h, hd => h
  | .rest e m r, d, d', h, hd => h
  | .no t, d, d', h, hd => ⟨by have := h.1; omega, t.ok_mono h.2 (by omega)⟩
theorem nots_rest {t : Te} : ∀ k, (nots k t).isRest = t.isRest
  | 0 => rfl
  | k + 1 => nots_rest (t := t) k
theorem rng_0 : rangeD 0 0 = [] := rfl
theorem rng_1 : rangeD 0 1 = [.int 0] := rfl
theorem rng_2 : rangeD 0 2 = [.int 0, .int 1] := rfl
theorem d_ne : ∀ t : Te, ∃ x xs, t.d = .tup (x :: xs)
  | .less _ _ => ⟨_, _, rfl⟩
  | .rest _ _ _ => ⟨_, _, rfl⟩
  | .no _ => ⟨_, _, rfl⟩
/-- the tail: as many "not" as drawn -/
theorem test_tail {S : Sto} {x0 x1 x2 x3 y6 y7 : Option D} {m : Int} (t : Te) (h : t.ok 0) (m0 : -2 ≤ m) (m1 : m ≤ 2) : ∃ k, k ≤ 2 ∧ retF ((fsSeq (fsFor (fiRng1 (fCons (fIfE (fTest (fOp (oEq not) (fVar 5) (fTup fNil))) (fCB bMax (fCons (fC (.int 0)) (fCons (fVar 4) fNil))) (fC (.int 0))) fNil)) (fgName 8) (fsAsg (fTup (fCons (fC (.str "not")) (fCons (fVar 5) fNil))) (fgName 5)))
    (fsRet (fVar 5))) [x0, x1, x2, x3, some (.int m), some t.d, y6, y7, none] S) = some ((nots k t).d, S) := by
  obtain ⟨x, xs, hx⟩ := d_ne t
  have hm : m = 2 ∨ m = 1 ∨ m ≤ 0 := by omega
  rcases hm with rfl | rfl | hm
  · refine ⟨2, by omega, ?_⟩
    have e : (nots 2 t).d = .tup [.str "not", .tup [.str "not", .tup (x :: xs)]] := by simp only [nots, Te.d, hx]
    rw [e, hx]
    simp [rng_2]
  · refine ⟨1, by omega, ?_⟩
    have e : (nots 1 t).d = .tup [.str "not", .tup (x :: xs)] := by simp only [nots, Te.d, hx]
    rw [e, hx]
    simp [rng_1]
  · refine ⟨0, by omega, ?_⟩
    have e : (nots 0 t).d = .tup (x :: xs) := hx
    rw [e, hx]
    have hm' : ¬ (m > 0) := by omega
    simp [rng_0, hm']
theorem ix5 (v : Lf) : atI v.ds 0 = some (.int v.a) ∧ atI v.ds 1 = some (.int v.b) ∧ atI v.ds 2 = some (.int v.c) ∧ atI v.ds 3 = some (.int v.d) ∧ atI v.ds 4 = some (.int v.e) := ⟨rfl, rfl, rfl, rfl, rfl⟩
theorem ixN5 (v : Lf) : ixN v.ds.length 0 = some 0 ∧ ixN v.ds.length 1 = some 1 ∧ ixN v.ds.length 2 = some 2 ∧ ixN v.ds.length 3 = some 3 ∧ ixN v.ds.length 4 = some 4 := ⟨rfl, rfl, rfl, rfl, rfl⟩
theorem test_ok {S : Sto} {i j l q : Nat} {n t : Int} {v : Lf} (w : W S i j l q n v) (hn : n + 60 ≤ B) : ∃ (r : Option Te) (S' : Sto) (n' : Int), f_test [.loc i, .loc l, .loc q, .int t] S = some (teD r, S') ∧ W S' i j l q n' (taken v t r) ∧ n ≤ n' ∧ n' ≤ n + 60 ∧ CL i j q S S' ∧
    ∀ te, r = some te → te.ok 2 ∧ (te.isRest = true → t ≤ v.d) ∧ (te.isRest = false → t ≤ v.e) := by
  have hB : B = 1000000000000 := rfl
  obtain ⟨-, -, -, x3, x4⟩ := ix5 v
  obtain ⟨-, -, -, y3, y4⟩ := ixN5 v
  obtain ⟨m, S1, e1, m0, m1, d1, c1, s1⟩ := draw_ok (many := 5) w.dk (by omega) (by decide) (by decide)
  have w1 := w.ch c1 d1
  obtain ⟨h, S2, e2, h0, h1, d2, c2, s2⟩ := draw_ok (many := 2) d1 (by omega) (by decide) (by decide)
  have w2 := w1.ch c2 d2
  have g2 := w2.left
  have less : ¬ (h = 0 ∧ t ≤ v.d) → ∃ (r : Option Te) (S' : Sto) (n' : Int), f_test [.loc i, .loc l, .loc q, .int t] S = some (teD r, S') ∧ W S' i j l q n' (taken v t r) ∧ n ≤ n' ∧ n' ≤ n + 60 ∧ CL i j q S S' ∧
      ∀ te, r = some te → te.ok 2 ∧ (te.isRest = true → t ≤ v.d) ∧ (te.isRest = false → t ≤ v.e) := by
    intro hno
    by_cases he : t ≤ v.e
    · have w3 := w2.put { v with e := v.e - t }
      have g3 : v.ds.set 4 (.int (v.e - t)) = ({ v with e := v.e - t } : Lf).ds := rfl
      obtain ⟨a, S4, n4, e4, ok4, d4, l4, u4, c4⟩ := expr3_ok w3.dk (by omega) w3.nm
      have w4 := w3.ch c4 d4
      obtain ⟨k, S5, e5, k0, k1, d5, c5, s5⟩ := draw_ok (many := 41) d4 (by omega) (by decide) (by decide)
      have w5 := w4.ch c5 d5
      obtain ⟨b, S6, n6, e6, ok6, d6, l6, u6, c6⟩ := expr3_ok w5.dk (by omega) w5.nm
      have w6 := w5.ch c6 d6
      have i6 := d6.il
      have j6 := d6.jl
      obtain ⟨x, S7, e7, m7, d7, c7, s7⟩ := one_ok (l := S6.length) (ds := [.int (k - 20), b.d]) (d6.app [.lst [.int (k - 20), b.d]]) (by omega) (by simp) (by omega) (by omega) (by simp) (by simp)
      have w7 := (w6.app _).ch c7 d7
      obtain ⟨y, rfl, oky⟩ : ∃ y : Ex, x = y.d ∧ y.ok 3 := by
        simp at m7
        rcases m7 with h | h
        · exact ⟨.int (k - 20), h, by simp only [Ex.ok]; omega⟩
        · exact ⟨b, h, ok6⟩
      obtain ⟨z, z2, ez⟩ := test_tail (S := S7) (x0 := some (.loc i)) (x1 := some (.loc l)) (x2 := some (.loc q)) (x3 := some (.int t)) (y6 := none) (y7 := some a.d) (m := m - 2) (.less a y) ⟨ok4, oky⟩ (by omega) (by omega)
      have ht : taken v t (some (nots z (.less a y))) = { v with e := v.e - t } := by simp [taken, nots_rest, Te.isRest]
      refine ⟨some (nots z (.less a y)), S7, _, ?_, by rw [ht]; exact w7, by omega, by omega, ((c1.cl q).trans (c2.cl q)).trans (CL.setQ.trans ((c4.cl q).trans ((c5.cl q).trans ((c6.cl q).trans (((Ch.app _ _).cl q).trans (c7.cl q)))))), ?_⟩
      · rw [show teD (some (nots z (.less a y))) = (nots z (.less a y)).d from rfl, ← ez]
        by_cases hh : h = 0
        · have hd : ¬ t ≤ v.d := fun h => hno ⟨hh, h⟩
          simp [f_test, fDef, b__law_test, e1, e2, hh, g2, x3, x4, y4, hd, he, g3, e4, e5, e6, e7, Te.d]
        · simp [f_test, fDef, b__law_test, e1, e2, hh, g2, x3, x4, y4, he, g3, e4, e5, e6, e7, Te.d]
      · rintro te ⟨rfl⟩
        exact ⟨Te.ok_mono _ (nots_ok (t := .less a y) ⟨ok4, oky⟩ z) z2, fun h => by simp [nots_rest, Te.isRest] at h, fun _ => he⟩
    · refine ⟨none, S2, _, ?_, w2, by omega, by omega, (c1.cl q).trans (c2.cl q), fun te h => nomatch h⟩
      by_cases hh : h = 0
      · have hd : ¬ t ≤ v.d := fun h => hno ⟨hh, h⟩
        simp [f_test, fDef, b__law_test, e1, e2, hh, g2, x3, x4, hd, he, teD, rng_0]
      · simp [f_test, fDef, b__law_test, e1, e2, hh, g2, x3, x4, he, teD, rng_0]
  by_cases hh : h = 0 ∧ t ≤ v.d
  · obtain ⟨rfl, hd⟩ := hh
    have w3 := w2.put { v with d := v.d - t }
    have g3 : v.ds.set 3 (.int (v.d - t)) = ({ v with d := v.d - t } : Lf).ds := rfl
    obtain ⟨k, S4, e4, k0, k1, d4, c4, s4⟩ := draw_ok (many := 5) w3.dk (by omega) (by decide) (by decide)
    have w4 := w3.ch c4 d4
    obtain ⟨a, S5, n5, e5, ok5, d5, l5, u5, c5⟩ := expr3_ok w4.dk (by omega) w4.nm
    have w5 := w4.ch c5 d5
    obtain ⟨r, S6, e6, r0, r1, d6, c6, s6⟩ := draw_ok (many := 2 + k) d5 (by omega) (by omega) (by omega)
    have w6 := w5.ch c6 d6
    have okr : (Te.rest a (2 + k) r).ok 0 := ⟨ok5, by omega, by omega, by omega, by omega⟩
    obtain ⟨z, z2, ez⟩ := test_tail (S := S6) (x0 := some (.loc i)) (x1 := some (.loc l)) (x2 := some (.loc q)) (x3 := some (.int t)) (y6 := some (.int (2 + k))) (y7 := none) (m := m - 2) (.rest a (2 + k) r) okr (by omega) (by omega)
    have ht : taken v t (some (nots z (.rest a (2 + k) r))) = { v with d := v.d - t } := by simp [taken, nots_rest, Te.isRest]
    refine ⟨some (nots z (.rest a (2 + k) r)), S6, _, ?_, by rw [ht]; exact w6, by omega, by omega, ((c1.cl q).trans (c2.cl q)).trans (CL.setQ.trans ((c4.cl q).trans ((c5.cl q).trans (c6.cl q)))), ?_⟩
    · rw [show teD (some (nots z (.rest a (2 + k) r))) = (nots z (.rest a (2 + k) r)).d from rfl, ← ez]
      simp [f_test, fDef, b__law_test, e1, e2, g2, x3, y3, hd, g3, e4, e5, e6, Te.d]
    · rintro te ⟨rfl⟩
      exact ⟨Te.ok_mono _ (nots_ok okr z) z2, fun _ => hd, fun h => by simp [nots_rest, Te.isRest] at h⟩
  · exact less hh
end PG

set_option Elab.async false
set_option linter.all false
set_option maxRecDepth 100000
set_option maxHeartbeats 1000000
namespace PG
open PySem L2 DL
/-! ### what a program costs: places, weight, choices, rests, comparings -/
def Lf.add (x y : Lf) : Lf := ⟨x.a + y.a, x.b + y.b, x.c + y.c, x.d + y.d, x.e + y.e⟩
def Lf.scale (k : Int) (x : Lf) : Lf := ⟨x.a, k * x.b, k * x.c, k * x.d, k * x.e⟩
def u0 : Lf := ⟨0, 0, 0, 0, 0⟩
def u1 : Lf := ⟨1, 1, 0, 0, 0⟩
def uC : Lf := ⟨0, 0, 1, 0, 0⟩
def teC (t : Te) : Lf := if t.isRest then ⟨0, 0, 0, 1, 0⟩ else ⟨0, 0, 0, 0, 1⟩
mutual
def cS : Sm → Lf
  | .set _ _ => u1 | .pay _ => u1 | .stop => u1
  | .iff t y n => (u1.add (teC t)).add ((cA y).add (cA n))
  | .we a b => (u1.add uC).add ((cA a).add (cA b))
  | .they a b => (u1.add uC).add ((cA a).add (cA b))
  | .rep k b => u1.add ((cA b).scale k)
def cA : List Sm → Lf
  | [] => u0
  | s :: r => (cS s).add (cA r)
end
mutual
def hS : Sm → Nat
  | .iff _ y n => max (hA y) (hA n)
  | .we y n => max (hA y) (hA n)
  | .they y n => max (hA y) (hA n)
  | .rep _ b => hA b
  | .pay _ => 0 | .set _ _ => 0 | .stop => 0
def hA : List Sm → Nat
  | [] => 0
  | s :: r => max (hS s + 1) (hA r)
end
def Lf.take (v : Lf) (t : Int) (c : Lf) : Lf := ⟨v.a - c.a, v.b - t * c.b, v.c - t * c.c, v.d - t * c.d, v.e - t * c.e⟩
theorem Lf.ext {x y : Lf} (h1 : x.a = y.a) (h2 : x.b = y.b) (h3 : x.c = y.c) (h4 : x.d = y.d) (h5 : x.e = y.e) : x = y := by
  cases x; cases y; simp_all
theorem take_add (v : Lf) (t : Int) (x y : Lf) : (v.take t x).take t y = v.take t (x.add y) := by
  apply Lf.ext <;> simp only [Lf.take, Lf.add, Int.mul_add] <;> omega
theorem take_rep (v : Lf) (t k : Int) (x : Lf) : v.take (t * k) x = v.take t (x.scale k) := by
  apply Lf.ext <;> simp only [Lf.take, Lf.scale, Int.mul_assoc]
theorem take_u0 (v : Lf) (t : Int) : v.take t u0 = v := by
  apply Lf.ext <;> simp [Lf.take, u0]
theorem add_u0 (v : Lf) : v.add u0 = v := by
  apply Lf.ext <;> simp [Lf.add, u0]
theorem u0_add (v : Lf) : u0.add v = v := by
  apply Lf.ext <;> simp [Lf.add, u0]
theorem add_assoc (x y z : Lf) : (x.add y).add z = x.add (y.add z) := by
  apply Lf.ext <;> simp only [Lf.add] <;> omega
theorem taken_te (v : Lf) (t : Int) (te : Te) : taken v t (some te) = v.take t (teC te) := by
  by_cases h : te.isRest = true
  · simp [taken, teC, h, Lf.take]
  · simp [taken, teC, h, Lf.take]
structure Lf.nn (v : Lf) : Prop where
  a : 0 ≤ v.a
  b : 0 ≤ v.b
  c : 0 ≤ v.c
  d : 0 ≤ v.d
  e : 0 ≤ v.e
def rD : Option Sm → D
  | none => .tup []
  | some s => s.d
def rC : Option Sm → Lf
  | none => u0
  | some s => cS s
theorem sd_ne : ∀ s : Sm, ∃ x xs, s.d = .tup (x :: xs)
  | .set _ _ => ⟨_, _, by rw [Sm.d]⟩ | .pay _ => ⟨_, _, by rw [Sm.d]⟩ | .stop => ⟨_, _, by rw [Sm.d]⟩ | .iff _ _ _ => ⟨_, _, by rw [Sm.d]⟩ | .we _ _ => ⟨_, _, by rw [Sm.d]⟩ | .they _ _ => ⟨_, _, by rw [Sm.d]⟩ | .rep _ _ => ⟨_, _, by rw [Sm.d]⟩
noncomputable def f_rowOf (f : Fn) : Fn := fDef 5 10 (b__law_row f_plain f_one f f_test f_draw)
noncomputable def f_block : Nat → Fn
  | 0 => fun _ _ => none
  | k + 1 => fDef 5 9 (b__law_block (f_rowOf (f_block k)) f_draw)
def cK : Nat → Int
  | 0 => 0
  | k + 1 => 501 + 10 * cK k
theorem cK_pos : ∀ k, 0 ≤ cK k
  | 0 => by simp [cK]
  | k + 1 => by have := cK_pos k; simp only [cK]; omega
/-- what a block's def keeps -/
def BlockOk (f : Fn) (k : Nat) (d : Int) (T : Int) : Prop := ∀ ⦃S : Sto⦄ ⦃i j l q : Nat⦄ ⦃n t : Int⦄ ⦃v : Lf⦄, W S i j l q n v → v.nn → 1 ≤ t → t ≤ T → n + cK k ≤ B →
  ∃ (b : List Sm) (S' : Sto) (n' : Int), f [.loc i, .loc l, .loc q, .int t, .int d] S = some (.tup (dA b), S') ∧ W S' i j l q n' (v.take t (cA b)) ∧ (v.take t (cA b)).nn ∧ n ≤ n' ∧ n' ≤ n + cK k ∧ CL i j q S S' ∧ okA b ∧ hA b ≤ k
noncomputable abbrev rowT5 (f : Fn) : FS := (fsSeq (fsIf (fTest (fOp (oEq id) (fVar 5) (fC (.int 1)))) (fsSeq (fsAsg (fCall f_one (fCons (fVar 0) (fCons (fLst (fCons (fC (.int 1)) (fCons (fC (.int 1)) (fCons (fC (.int 2)) (fCons (fC (.int 2)) (fCons (fC (.int 3)) (fCons (fC (.int 4)) (fCons (fC (.int 8)) fNil)))))))) fNil))) (fgName 8))
    (fsRet (fTup (fCons (fC (.str "repeat")) (fCons (fVar 8) (fCons (fCall f (fCons (fVar 0) (fCons (fVar 1) (fCons (fVar 2) (fCons (fOp oMul (fVar 3) (fVar 8)) (fCons (fOp oAdd (fVar 4) (fC (.int 1))) fNil)))))) fNil)))))) fsNext)
    (fsSeq (fsIf (fAnd (fTest (fOp (oI0 fun i j => .bl (decide (i < j))) (fVar 5) (fC (.int 6)))) (fTest (fOp (oI0 fun i j => .bl (decide (j ≤ i))) (fOp oIx (fVar 2) (fC (.int 2))) (fVar 3)))) (fsSeq (fsAsg (fOp (oI0 fun i j => .int (i - j)) (fOp oIx (fVar 2) (fC (.int 2))) (fVar 3)) (fgSub (fVar 2) (fC (.int 2))))
    (fsSeq (fsAsg (fCall f (fCons (fVar 0) (fCons (fVar 1) (fCons (fVar 2) (fCons (fVar 3) (fCons (fOp oAdd (fVar 4) (fC (.int 1))) fNil)))))) (fgName 9))
    (fsRet (fTup (fCons (fCall f_one (fCons (fVar 0) (fCons (fLst (fCons (fC (.str "we")) (fCons (fC (.str "they")) fNil))) fNil))) (fCons (fVar 9) (fCons (fCall f (fCons (fVar 0) (fCons (fVar 1) (fCons (fVar 2) (fCons (fVar 3) (fCons (fOp oAdd (fVar 4) (fC (.int 1))) fNil)))))) fNil))))))) fsNext)
    (fsRet (fCall f_plain (fCons (fVar 0) (fCons (fVar 1) fNil))))))
theorem row_tail {f : Fn} {k : Nat} {d T : Int} (hT : T * 8 ≤ 1000000) (ih : BlockOk f k (d + 1) (T * 8)) {S : Sto} {i j l q : Nat} {n t m : Int} {v : Lf} (w : W S i j l q n v) (hv : v.nn) (ht : 1 ≤ t) (htT : t ≤ T) (hn : n + 39 + 2 * cK k ≤ B) (m0 : 0 ≤ m) :
    ∃ (s : Sm) (c : Lf) (S' : Sto) (n' : Int), retF (rowT5 f [some (.loc i), some (.loc l), some (.loc q), some (.int t), some (.int d), some (.int m), some (.tup []), none, none, none] S) = some (s.d, S') ∧ cS s = u1.add c ∧ W S' i j l q n' (v.take t c) ∧ (v.take t c).nn ∧ n ≤ n' ∧ n' ≤ n + 39 + 2 * cK k ∧ CL i j q S S' ∧ s.ok ∧ hS s ≤ k := by
  have hB : B = 1000000000000 := rfl
  have hkp := cK_pos k
  obtain ⟨x0, x1, x2, -, -⟩ := ix5 v
  obtain ⟨y0, y1, y2, -, -⟩ := ixN5 v
  have g0 := w.left
  by_cases h1 : m = 1
  · subst h1
    have iS := w.dk.il
    have jS := w.dk.jl
    obtain ⟨x, S1, e1, mm, d1, c1, z1⟩ := one_ok (l := S.length) (ds := [.int 1, .int 1, .int 2, .int 2, .int 3, .int 4, .int 8]) (w.dk.app [.lst [.int 1, .int 1, .int 2, .int 2, .int 3, .int 4, .int 8]]) (by omega) (by simp) (by omega) (by omega) (by simp) (by simp)
    obtain ⟨y, rfl, y0, y1⟩ : ∃ y : Int, x = .int y ∧ 1 ≤ y ∧ y ≤ 8 := by
      simp at mm
      rcases mm with h | h | h | h | h <;> exact ⟨_, h, by omega, by omega⟩
    have w1 := (w.app _).ch c1 d1
    have p1 : 1 ≤ t * y := Int.mul_le_mul ht y0 (by decide) (by omega)
    have p2 : t * y ≤ T * 8 := Int.mul_le_mul htT y1 (by omega) (by omega)
    have pm : oMul (.int t) (.int y) S1 = some (.int (t * y), S1) := oMul_int (.inl ⟨by omega, by omega⟩)
    obtain ⟨b, S2, n2, e2, w2, nn2, l2, u2, k2, ok2, h2⟩ := ih w1 hv p1 p2 (by omega)
    rw [take_rep] at w2 nn2
    refine ⟨.rep y b, (cA b).scale y, S2, n2, ?_, by rw [cS], w2, nn2, by omega, by omega, ((Ch.app _ _).cl q).trans ((c1.cl q).trans k2), by simp only [Sm.ok]; exact ⟨y0, y1, ok2⟩, by simp only [hS]; exact h2⟩
    simp [rowT5, e1, pm, e2, Sm.d]
  · by_cases h6 : m < 6 ∧ t ≤ v.c
    · obtain ⟨h6, hc⟩ := h6
      have v1 : v.take t uC = { v with c := v.c - t } := by apply Lf.ext <;> simp [Lf.take, uC]
      have hv1 : (v.take t uC).nn := by rw [v1]; exact ⟨hv.a, hv.b, by show 0 ≤ v.c - t; omega, hv.d, hv.e⟩
      have w1 : W (S.set q (.lst (v.take t uC).ds)) i j l q n (v.take t uC) := w.put _
      have s1 : v.ds.set 2 (.int (v.c - t)) = (v.take t uC).ds := by rw [v1]; rfl
      obtain ⟨b, S2, n2, e2, w2, nn2, l2, u2, k2, ok2, h2⟩ := ih w1 hv1 ht (by omega) (by omega)
      have i2 := w2.dk.il
      have j2 := w2.dk.jl
      obtain ⟨x, S3, e3, mm, d3, c3, z3⟩ := one_ok (l := S2.length) (ds := [.str "we", .str "they"]) (w2.dk.app [.lst [.str "we", .str "they"]]) (by omega) (by simp) (by omega) (by omega) (by simp) (by simp)
      have w3 := (w2.app _).ch c3 d3
      obtain ⟨b', S4, n4, e4, w4, nn4, l4, u4, k4, ok4, h4⟩ := ih w3 nn2 ht (by omega) (by omega)
      rw [take_add, take_add] at w4 nn4
      have kk : CL i j q S S4 := CL.setQ.trans (k2.trans (((Ch.app _ _).cl q).trans ((c3.cl q).trans k4)))
      simp at mm
      rcases mm with rfl | rfl
      · refine ⟨.we b b', uC.add ((cA b).add (cA b')), S4, n4, ?_, by rw [cS, add_assoc], w4, nn4, by omega, by omega, kk, by simp only [Sm.ok]; exact ⟨ok2, ok4⟩, by simp only [hS]; omega⟩
        simp [rowT5, h1, h6, g0, x2, y2, hc, s1, e2, e3, e4, Sm.d]
      · refine ⟨.they b b', uC.add ((cA b).add (cA b')), S4, n4, ?_, by rw [cS, add_assoc], w4, nn4, by omega, by omega, kk, by simp only [Sm.ok]; exact ⟨ok2, ok4⟩, by simp only [hS]; omega⟩
        simp [rowT5, h1, h6, g0, x2, y2, hc, s1, e2, e3, e4, Sm.d]
    · obtain ⟨s, S1, n1, e1, ok1, p1, d1, l1, u1', c1⟩ := plain_ok w.dk (by omega) w.nm
      have hc : cS s = u1 ∧ hS s = 0 := by cases p1 <;> simp [cS, hS]
      refine ⟨s, u0, S1, n1, ?_, by rw [add_u0]; exact hc.1, by rw [take_u0]; exact w.ch c1 d1, by rw [take_u0]; exact hv, by omega, by omega, c1.cl q, ok1, by rw [hc.2]; omega⟩
      by_cases hm6 : m < 6
      · have hc' : ¬ t ≤ v.c := fun h => h6 ⟨hm6, h⟩
        simp [rowT5, h1, hm6, g0, x2, hc', e1]
      · simp [rowT5, h1, hm6, e1]
theorem row_ok {f : Fn} {k : Nat} {d T : Int} (hT : T * 8 ≤ 1000000) (ih : BlockOk f k (d + 1) (T * 8)) {S : Sto} {i j l q : Nat} {n t : Int} {v : Lf} (w : W S i j l q n v) (hv : v.nn) (ht : 1 ≤ t) (htT : t ≤ T) (hn : n + 100 + 2 * cK k ≤ B) :
    ∃ (r : Option Sm) (S' : Sto) (n' : Int), f_rowOf f [.loc i, .loc l, .loc q, .int t, .int d] S = some (rD r, S') ∧ W S' i j l q n' (v.take t (rC r)) ∧ (v.take t (rC r)).nn ∧ n ≤ n' ∧ n' ≤ n + 100 + 2 * cK k ∧ CL i j q S S' ∧ ∀ s, r = some s → s.ok ∧ hS s ≤ k := by
  have hB : B = 1000000000000 := rfl
  have hkp := cK_pos k
  obtain ⟨x0, x1, x2, -, -⟩ := ix5 v
  have g0 := w.left
  by_cases h0 : v.a < 1
  · exact ⟨none, S, n, by simp [f_rowOf, fDef, b__law_row, g0, x0, h0, rD], by rw [rC, take_u0]; exact w, by rw [rC, take_u0]; exact hv, by omega, by omega, .refl _ _ _ _, fun s h => nomatch h⟩
  by_cases h1 : v.b < t
  · exact ⟨none, S, n, by simp [f_rowOf, fDef, b__law_row, g0, x0, x1, h0, h1, rD], by rw [rC, take_u0]; exact w, by rw [rC, take_u0]; exact hv, by omega, by omega, .refl _ _ _ _, fun s h => nomatch h⟩
  have v1 : v.take t u1 = { v with a := v.a - 1, b := v.b - t } := by apply Lf.ext <;> simp [Lf.take, u1]
  have hv1 : (v.take t u1).nn := by rw [v1]; exact ⟨by show 0 ≤ v.a - 1; omega, by show 0 ≤ v.b - t; omega, hv.c, hv.d, hv.e⟩
  have w1 : W (S.set q (.lst (v.take t u1).ds)) i j l q n (v.take t u1) := w.put _
  have s1 : (v.ds.set 0 (.int (v.a - 1))).set 1 (.int (v.b - t)) = (v.take t u1).ds := by rw [v1]; rfl
  have l1 : (S.set q (.lst (v.ds.set 0 (.int (v.a - 1)))))[q]? = some (.lst (v.ds.set 0 (.int (v.a - 1)))) := by rw [List.getElem?_set_self w.lt]
  obtain ⟨y0, y1, y2, -, -⟩ := ixN5 v
  have y1' : ixN (v.ds.set 0 (.int (v.a - 1))).length 1 = some 1 := rfl
  obtain ⟨m, S2, e2, m0, m1, d2, c2, z2⟩ := draw_ok (many := 9) w1.dk (by omega) (by decide) (by decide)
  have w2 := w1.ch c2 d2
  have k2 : CL i j q S S2 := CL.setQ.trans (c2.cl q)
  have k2' := k2
  by_cases hm : m = 0
  · subst hm
    obtain ⟨r, S3, n3, e3, w3, l3, u3, k3, hr⟩ := test_ok (t := t) w2 (by omega)
    cases r with
    | none =>
      obtain ⟨s, c, S', n', e', ec, w', nn', l', u', k', ok', h'⟩ := row_tail (m := 0) hT ih w3 hv1 ht htT (by omega) (by omega)
      refine ⟨some s, S', n', ?_, by rw [rC, ec, ← take_add]; exact w', by rw [rC, ec, ← take_add]; exact nn', by omega, by omega, (k2.trans k3).trans k', fun _ h => by cases h; exact ⟨ok', h'⟩⟩
      rw [show rD (some s) = s.d from rfl, ← e']
      simp [f_rowOf, fDef, b__law_row, g0, x0, x1, h0, h1, y0, y1, l1, y1', s1, e2, e3, teD]
    | some te =>
      obtain ⟨okt, hd, he⟩ := hr te rfl
      rw [taken_te] at w3
      have nn3 : ((v.take t u1).take t (teC te)).nn := by
        rw [← taken_te]
        unfold taken
        by_cases hh : te.isRest = true
        · have := hd hh
          simp only [hh, if_true]
          exact ⟨hv1.a, hv1.b, hv1.c, by show 0 ≤ (v.take t u1).d - t; omega, hv1.e⟩
        · have := he (by simpa using hh)
          simp only [hh]
          exact ⟨hv1.a, hv1.b, hv1.c, hv1.d, by show 0 ≤ (v.take t u1).e - t; omega⟩
      obtain ⟨b, S4, n4, e4, w4, nn4, l4, u4, k4, ok4, h4⟩ := ih w3 nn3 ht (by omega) (by omega)
      obtain ⟨b', S5, n5, e5, w5, nn5, l5, u5, k5, ok5, h5⟩ := ih w4 nn4 ht (by omega) (by omega)
      have ec : ((((v.take t u1).take t (teC te)).take t (cA b)).take t (cA b')) = v.take t (cS (.iff te b b')) := by
        rw [take_add, take_add, take_add, cS]
        rw [add_assoc]
      rw [ec] at w5 nn5
      obtain ⟨x, xs, hx⟩ := d_ne te
      refine ⟨some (.iff te b b'), S5, n5, ?_, w5, nn5, by omega, by omega, (k2.trans k3).trans (k4.trans k5), fun _ h => by cases h; exact ⟨by simp only [Sm.ok]; exact ⟨okt, ok4, ok5⟩, by simp only [hS]; omega⟩⟩
      simp [f_rowOf, fDef, b__law_row, g0, x0, x1, h0, h1, y0, y1, l1, y1', s1, e2, e3, teD, hx, e4, e5, rD, Sm.d]
  · obtain ⟨s, c, S', n', e', ec, w', nn', l', u', k', ok', h'⟩ := row_tail (m := m) hT ih w2 hv1 ht htT (by omega) (by omega)
    refine ⟨some s, S', n', ?_, by rw [rC, ec, ← take_add]; exact w', by rw [rC, ec, ← take_add]; exact nn', by omega, by omega, k2.trans k', fun _ h => by cases h; exact ⟨ok', h'⟩⟩
    rw [show rD (some s) = s.d from rfl, ← e']
    simp [f_rowOf, fDef, b__law_row, g0, x0, x1, h0, h1, y0, y1, l1, y1', s1, e2, hm]
/-! ### blocks -/
theorem cA_cons (s : Sm) (r : List Sm) : cA (s :: r) = (cS s).add (cA r) := by rw [cA]
theorem okA_cons (s : Sm) (r : List Sm) : okA (s :: r) = (s.ok ∧ okA r) := by rw [okA]
theorem hA_cons (s : Sm) (r : List Sm) : hA (s :: r) = max (hS s + 1) (hA r) := by rw [hA]
theorem cA_nil : cA [] = u0 := by rw [cA]
theorem okA_nil : okA [] = True := by rw [okA]
theorem hA_nil : hA [] = 0 := by rw [hA]
theorem cA_app : ∀ a b : List Sm, cA (a ++ b) = (cA a).add (cA b)
  | [], b => by rw [List.nil_append, cA_nil, u0_add]
  | s :: r, b => by rw [List.cons_append, cA_cons, cA_app r b, cA_cons, add_assoc]
theorem okA_app : ∀ a b : List Sm, okA (a ++ b) ↔ okA a ∧ okA b
  | [], b => by simp [okA_nil]
  | s :: r, b => by rw [List.cons_append, okA_cons, okA_cons, okA_app r b, and_assoc]
theorem hA_app : ∀ a b : List Sm, hA (a ++ b) = max (hA a) (hA b)
  | [], b => by simp [hA_nil]
  | s :: r, b => by rw [List.cons_append, hA_cons, hA_cons, hA_app r b]; omega
theorem dA_app (a b : List Sm) : dA (a ++ b) = dA a ++ dA b := by rw [dA_map, dA_map, dA_map, List.map_append]
noncomputable abbrev blockT (f : Fn) : FS := (fsDrop (fApp (fVar 6) (fCall f (fCons (fVar 0) (fCons (fVar 1) (fCons (fVar 2) (fCons (fVar 3) (fCons (fVar 4) fNil))))))))
theorem rows_loop {f : Fn} {k : Nat} {d T : Int} (hT : T * 8 ≤ 1000000) (ih : BlockOk f k (d + 1) (T * 8)) {i j l q r : Nat} {t : Int} {S0 : Sto} {x5 x8 : Option D} (ht : 1 ≤ t) (htT : t ≤ T) (hr : S0.length ≤ r) (hri : r ≠ i) (hrj : r ≠ j) (hrl : r ≠ l) (hrq : r ≠ q) :
    ∀ (xs : List D) (acc : List (Option Sm)) (S : Sto) (n : Int) (v : Lf) (x7 : Option D), W S i j l q n v → v.nn → CL i j q S0 S → S[r]? = some (.lst (acc.map rD)) → acc.length + xs.length < 100000 → n + (xs.length : Int) * (100 + 2 * cK k) ≤ B →
    ∃ (rs : List (Option Sm)) (S' : Sto) (n' : Int) (x7' : Option D), forF none (fgName 7) (blockT (f_rowOf f)) xs [some (.loc i), some (.loc l), some (.loc q), some (.int t), some (.int d), x5, some (.loc r), x7, x8] S = some (.nx [some (.loc i), some (.loc l), some (.loc q), some (.int t), some (.int d), x5, some (.loc r), x7', x8], S') ∧
      S'[r]? = some (.lst ((acc ++ rs).map rD)) ∧ W S' i j l q n' (v.take t (cA (rs.filterMap id))) ∧ (v.take t (cA (rs.filterMap id))).nn ∧ n ≤ n' ∧ n' ≤ n + (xs.length : Int) * (100 + 2 * cK k) ∧ CL i j q S0 S' ∧ okA (rs.filterMap id) ∧ hA (rs.filterMap id) ≤ k + 1 ∧ rs.length = xs.length
  | [], acc, S, n, v, x7, w, hv, cl, h, _, _ => ⟨[], S, n, x7, by simp, by simpa using h, by simp only [List.filterMap_nil, cA_nil, take_u0]; exact w, by simp only [List.filterMap_nil, cA_nil, take_u0]; exact hv, by omega, by simp, cl, by simp [okA_nil], by simp [hA_nil], rfl⟩
  | x :: xs, acc, S, n, v, x7, w, hv, cl, h, hz, hn => by
    have hkp := cK_pos k
    have hx : (((x :: xs).length : Nat) : Int) * (100 + 2 * cK k) = (100 + 2 * cK k) + (xs.length : Int) * (100 + 2 * cK k) := by
      rw [List.length_cons, Int.natCast_add, Int.add_mul]
      simp
      omega
    have hcx : 0 ≤ (xs.length : Int) * (100 + 2 * cK k) := Int.mul_nonneg (by omega) (by omega)
    rw [List.length_cons] at hz
    obtain ⟨rr, S1, n1, e1, w1, nn1, l1, u1', k1, ok1⟩ := row_ok hT ih w hv ht htT (by omega)
    have h1 := k1.at_ r _ hri hrj hrq h
    have hlt : r < S1.length := (List.getElem?_eq_some_iff.mp h1).1
    have w2 : W (S1.set r (.lst ((acc ++ [rr]).map rD))) i j l q n1 (v.take t (rC rr)) := w1.setO hri hrj hrl hrq
    have cl2 : CL i j q S0 (S1.set r (.lst ((acc ++ [rr]).map rD))) := ⟨by rw [List.length_set]; exact Nat.le_trans cl.len k1.len, fun m o a1 a2 a3 a4 => by
      have : m < S0.length := (List.getElem?_eq_some_iff.mp a4).1
      rw [List.getElem?_set_ne (by omega)]
      exact k1.at_ m o a1 a2 a3 (cl.at_ m o a1 a2 a3 a4)⟩
    obtain ⟨rs, S', n', x7', e', h', w', nn', l', u', c', ok', hh', len'⟩ := rows_loop (x5 := x5) (x8 := x8) hT ih ht htT hr hri hrj hrl hrq xs (acc ++ [rr]) _ n1 (v.take t (rC rr)) (some x) w2 nn1 cl2 (by rw [List.getElem?_set_self hlt]) (by rw [List.length_append, List.length_singleton]; omega) (by omega)
    have ec : (v.take t (rC rr)).take t (cA (rs.filterMap id)) = v.take t (cA ((rr :: rs).filterMap id)) := by
      cases rr with
      | none => simp only [rC, take_u0]; rfl
      | some s => rw [take_add]; show _ = v.take t (cA (s :: rs.filterMap id)); rw [cA_cons]; rfl
    rw [ec] at w' nn'
    refine ⟨rr :: rs, S', n', x7', ?_, by rw [h', List.append_assoc]; rfl, w', nn', by omega, by omega, c', ?_, ?_, by rw [List.length_cons, List.length_cons, len']⟩
    · have ha : acc.length < 100000 := by omega
      simp at e'
      simp [h, e1, h1, ha, e']
    · cases rr with
      | none => exact ok'
      | some s => show okA (s :: rs.filterMap id); rw [okA_cons]; exact ⟨(ok1 s rfl).1, ok'⟩
    · cases rr with
      | none => exact hh'
      | some s =>
        show hA (s :: rs.filterMap id) ≤ _
        rw [hA_cons]
        have := (ok1 s rfl).2
        omega
theorem rows_filter {r m : Nat} {δ : DEnv} {all : List D} (hδ : 8 < δ.length) (hm : m ≠ r) : ∀ (rs : List (Option Sm)) (S : Sto) (acc : List D), S[r]? = some (.lst all) → S[m]? = some (.lst acc) → acc.length + rs.length < 100000 →
    lcF (some (r, all)) 8 m (fTest (fOp (oEq not) (fVar 8) (fTup fNil))) (fVar 8) (rs.map rD) δ S = some (.loc m, S.set m (.lst (acc ++ dA (rs.filterMap id))))
  | [], S, acc, h1, h2, _ => by
    have hlt : m < S.length := (List.getElem?_eq_some_iff.mp h2).1
    have he : S[m] = .lst acc := by
      have := List.getElem?_eq_some_iff.mp h2
      exact this.2
    rw [List.map_nil, lcF_nil (stOk_s h1)]
    simp only [List.filterMap_nil, dA, List.append_nil]
    rw [← he, List.set_getElem_self]
  | o :: rs, S, acc, h1, h2, hz => by
    rw [List.length_cons] at hz
    have hlt : m < S.length := (List.getElem?_eq_some_iff.mp h2).1
    rw [List.map_cons, lcF_cons (stOk_s h1)]
    cases o with
    | none =>
      have e := rows_filter hδ hm rs S acc h1 h2 (by omega)
      simp [rD, hδ, e]
    | some s =>
      obtain ⟨x, xs, hx⟩ := sd_ne s
      have ha : acc.length < 100000 := by omega
      have e := rows_filter hδ hm rs (S.set m (.lst (acc ++ [s.d]))) (acc ++ [s.d]) (by rw [List.getElem?_set_ne hm]; exact h1) (by rw [List.getElem?_set_self hlt]) (by rw [List.length_append, List.length_singleton]; omega)
      rw [List.set_set, hx] at e
      simp [rD, hx, hδ, h2, ha, e, dA]
theorem block_ok : ∀ (k : Nat) (d : Int) (T : Int), d + (k : Int) = 4 → 0 ≤ d → T * 8 ^ k ≤ 1000000 → 1 ≤ T → BlockOk (f_block (k + 1)) k d T
  | 0, d, T, hd, h0, hT, h1 => by
    intro S i j l q n t v w hv ht htT hn
    have hd' : d = 4 := by simpa using hd
    subst hd'
    refine ⟨[], S, n, ?_, by rw [cA_nil, take_u0]; exact w, by rw [cA_nil, take_u0]; exact hv, by omega, by simp [cK], .refl _ _ _ _, by rw [okA_nil]; trivial, by rw [hA_nil]; omega⟩
    simp [f_block, fDef, b__law_block, dA]
  | k + 1, d, T, hd, h0, hT, h1 => by
    intro S i j l q n t v w hv ht htT hn
    have hB : B = 1000000000000 := rfl
    have hkp := cK_pos k
    have hd3 : ¬ (3 < d) := by omega
    have hT8 : T * 8 * 8 ^ k ≤ 1000000 := by
      rw [Int.pow_succ, Int.mul_comm (8 ^ k) 8, ← Int.mul_assoc] at hT
      exact hT
    have hp8 : (1 : Int) ≤ 8 ^ k := Int.pow_pos (by decide)
    have hT1 : T * 8 ≤ 1000000 := by
      have : T * 8 * 1 ≤ T * 8 * 8 ^ k := Int.mul_le_mul_of_nonneg_left hp8 (by omega)
      omega
    have ih := block_ok k (d + 1) (T * 8) (by omega) (by omega) hT8 (by omega)
    simp only [cK] at hn
    obtain ⟨m, S1, e1, m0, m1, d1, c1, s1⟩ := draw_ok (many := 4) w.dk (by omega) (by decide) (by decide)
    have w1 := w.ch c1 d1
    have i1 := w1.dk.il
    have j1 := w1.dk.jl
    have q1 := w1.lt
    obtain ⟨zs, hl1, _⟩ := w1.nm.at_
    have l1 : l < S1.length := (List.getElem?_eq_some_iff.mp hl1).1
    let M : Int := m + (if d = 0 then 1 else 0)
    have hM0 : 0 ≤ M := by show 0 ≤ m + (if d = 0 then 1 else 0); split <;> omega
    have hM1 : M ≤ 4 := by show m + (if d = 0 then 1 else 0) ≤ 4; split <;> omega
    have hMb : -1000000 ≤ M ∧ M ≤ 1000000 := by omega
    have rl : (rangeD 0 M.toNat).length = M.toNat := by simp [rangeD]
    have hml : (((rangeD 0 M.toNat).length : Nat) : Int) * (100 + 2 * cK k) ≤ 5 * (100 + 2 * cK k) := Int.mul_le_mul_of_nonneg_right (by rw [rl]; omega) (by omega)
    obtain ⟨rs, S2, n2, x7, e2, h2, w2, nn2, l2, u2, k2, ok2, hh2, len2⟩ := rows_loop (S0 := S1) (r := S1.length) (x5 := some (.int M)) (x8 := none) (i := i) (j := j) (l := l) (q := q) hT1 ih ht htT (Nat.le_refl _) (by omega) (by omega) (by omega) (by omega) (rangeD 0 M.toNat) [] (S1 ++ [.lst []]) (n + 1) v none (w1.app _) hv ((Ch.app _ _).cl q) (by simp) (by rw [rl]; simp; omega) (by omega)
    have h2' : S2[S1.length]? = some (.lst (rs.map rD)) := by simpa using h2
    have hlt2 : S1.length < S2.length := (List.getElem?_eq_some_iff.mp h2').1
    have hf := rows_filter (r := S1.length) (m := S2.length) (δ := [some (.loc i), some (.loc l), some (.loc q), some (.int t), some (.int d), some (.int M), some (.loc S1.length), x7, none]) (all := rs.map rD) (by simp) (by omega) rs (S2 ++ [.lst []]) [] ((Ext.new S2 _).at h2') (by simp) (by rw [len2, rl]; simp; omega)
    have hs : (S2 ++ [Ob.lst []]).set S2.length (.lst ([] ++ dA (rs.filterMap id))) = S2 ++ [.lst (dA (rs.filterMap id))] := by
      rw [List.set_append_right (h := Nat.le_refl _)]
      simp
    rw [hs] at hf
    refine ⟨rs.filterMap id, S2 ++ [.lst (dA (rs.filterMap id))], n2, ?_, w2.app _, nn2, by omega, by simp only [cK]; omega, ((c1.cl q).trans k2).trans ((Ch.app _ _).cl q), ok2, hh2⟩
    by_cases hd0 : d = 0
    · have hM : M = m + 1 := by show m + (if d = 0 then 1 else 0) = m + 1; rw [if_pos hd0]
      rw [hM] at e2 hf hMb
      subst hd0
      rw [f_block]
      simp [fDef, b__law_block, e1, hMb, e2, h2', hf]
    · have hM : M = m := by show m + (if d = 0 then 1 else 0) = m; rw [if_neg hd0]; omega
      rw [hM] at e2 hf hMb
      rw [f_block]
      simp [fDef, b__law_block, hd3, e1, hd0, hMb, e2, h2', hf]
/-! ### programs -/
noncomputable def f_program : Fn := fDef 2 5 (b__law_program (f_expression 2) f_draw (f_block 5))
def vAll : Lf := ⟨24, 30, 4, 2, 2⟩
noncomputable abbrev progT : FS := (fsAsg (fOp oAdd (fVar 3) (fCall (f_block 5) (fCons (fVar 0) (fCons (fVar 1) (fCons (fVar 2) (fCons (fC (.int 1)) (fCons (fC (.int 0)) fNil))))))) (fgName 3))
theorem block4 : BlockOk (f_block 5) 4 0 1 := block_ok 4 0 1 (by decide) (by decide) (by decide) (by decide)
theorem dA_len (b : List Sm) : (dA b).length = b.length := by rw [dA_map, List.length_map]
mutual
theorem cS_pos : ∀ s : Sm, s.ok → 1 ≤ (cS s).a ∧ 1 ≤ (cS s).b ∧ 0 ≤ (cS s).c ∧ 0 ≤ (cS s).d ∧ 0 ≤ (cS s).e
  | .set _ _, _ => by simp [cS, u1]
  | .pay _, _ => by simp [cS, u1]
  | .stop, _ => by simp [cS, u1]
  | .iff t y n, h => by
    rw [Sm.ok] at h
    have h1 := cA_pos y h.2.1
    have h2 := cA_pos n h.2.2
    simp only [cS, Lf.add, u1, teC]
    split <;> simp only [] <;> omega
  | .we y n, h => by
    rw [Sm.ok] at h
    have h1 := cA_pos y h.1
    have h2 := cA_pos n h.2
    simp only [cS, Lf.add, u1, uC]
    omega
  | .they y n, h => by
    rw [Sm.ok] at h
    have h1 := cA_pos y h.1
    have h2 := cA_pos n h.2
    simp only [cS, Lf.add, u1, uC]
    omega
  | .rep k b, h => by
    rw [Sm.ok] at h
    have h1 := cA_pos b h.2.2
    have a1 := Int.mul_nonneg (a := k) (b := (cA b).b) (by omega) (by omega)
    have a2 := Int.mul_nonneg (a := k) (b := (cA b).c) (by omega) (by omega)
    have a3 := Int.mul_nonneg (a := k) (b := (cA b).d) (by omega) (by omega)
    have a4 := Int.mul_nonneg (a := k) (b := (cA b).e) (by omega) (by omega)
    simp only [cS, Lf.add, Lf.scale, u1]
    omega
theorem cA_pos : ∀ b : List Sm, okA b → (b.length : Int) ≤ (cA b).a ∧ 0 ≤ (cA b).b ∧ 0 ≤ (cA b).c ∧ 0 ≤ (cA b).d ∧ 0 ≤ (cA b).e
  | [], _ => by simp [cA, u0]
  | s :: r, h => by
    rw [okA] at h
    have h1 := cS_pos s h.1
    have h2 := cA_pos r h.2
    rw [List.length_cons]
    simp only [cA, Lf.add]
    omega
end
theorem prog_loop {i j l q : Nat} {S0 : Sto} : ∀ (xs : List D) (b : List Sm) (S : Sto) (n : Int) (x4 : Option D), W S i j l q n (vAll.take 1 (cA b)) → (vAll.take 1 (cA b)).nn → CL i j q S0 S → okA b → hA b ≤ 4 → n + (xs.length : Int) * cK 4 ≤ B →
    ∃ (b' : List Sm) (S' : Sto) (n' : Int) (x4' : Option D), forF none (fgName 4) progT xs [some (.loc i), some (.loc l), some (.loc q), some (.tup (dA b)), x4] S = some (.nx [some (.loc i), some (.loc l), some (.loc q), some (.tup (dA b')), x4'], S') ∧
      W S' i j l q n' (vAll.take 1 (cA b')) ∧ (vAll.take 1 (cA b')).nn ∧ CL i j q S0 S' ∧ okA b' ∧ hA b' ≤ 4 ∧ n ≤ n' ∧ n' ≤ n + (xs.length : Int) * cK 4
  | [], b, S, n, x4, w, nn, cl, ok, h, hn => ⟨b, S, n, x4, by simp, w, nn, cl, ok, h, by omega, by simp⟩
  | x :: xs, b, S, n, x4, w, nn, cl, ok, h, hn => by
    have hkp := cK_pos 4
    have hx : (((x :: xs).length : Nat) : Int) * cK 4 = cK 4 + (xs.length : Int) * cK 4 := by
      rw [List.length_cons, Int.natCast_add, Int.add_mul]
      simp
      omega
    have hcx : 0 ≤ (xs.length : Int) * cK 4 := Int.mul_nonneg (by omega) (by omega)
    obtain ⟨b1, S1, n1, e1, w1, nn1, l1, u1', k1, ok1, h1⟩ := block4 w nn (show (1 : Int) ≤ 1 by decide) (by decide) (by omega)
    rw [take_add, ← cA_app] at w1 nn1
    have okb : okA (b ++ b1) := (okA_app b b1).mpr ⟨ok, ok1⟩
    obtain ⟨b', S', n', x4', e', w', nn', cl', ok', h', l', u'⟩ := prog_loop (S0 := S0) xs (b ++ b1) S1 n1 (some x) w1 nn1 (cl.trans k1) okb (by rw [hA_app]; omega) (by omega)
    refine ⟨b', S', n', x4', ?_, w', nn', cl', ok', h', by omega, by omega⟩
    have hp := cA_pos _ okb
    have ha := nn1.a
    have hl : (dA b).length + (dA b1).length ≤ 100000 := by
      rw [dA_len, dA_len]
      rw [List.length_append] at hp
      have : (vAll.take 1 (cA (b ++ b1))).a = 24 - (cA (b ++ b1)).a := rfl
      omega
    rw [dA_app] at e'
    simp [e1, hl, e']
/-- a drawn program: a program within all bounds -/
structure Prog (b : List Sm) : Prop where
  ok : okA b
  h : hA b ≤ 4
  pl : (cA b).a ≤ 24
  wt : (cA b).b ≤ 30
  ch : (cA b).c ≤ 4
  rs : (cA b).d ≤ 2
  ls : (cA b).e ≤ 2
theorem prog_of {b : List Sm} (ok : okA b) (h : hA b ≤ 4) (nn : (vAll.take 1 (cA b)).nn) : Prog b := by
  obtain ⟨a1, a2, a3, a4, a5⟩ := nn
  simp only [Lf.take, vAll] at a1 a2 a3 a4 a5
  exact ⟨ok, h, by omega, by omega, by omega, by omega, by omega⟩
theorem program_ok {S : Sto} {i j l : Nat} {n : Int} (hd : Dk S i j n) (hl : Nms S i j l) (hn : n + 3000000 ≤ B) : ∃ (b : List Sm) (S' : Sto) (n' : Int), f_program [.loc i, .loc l] S = some (.tup (dA b), S') ∧ Prog b ∧ Dk S' i j n' ∧ n ≤ n' ∧ n' ≤ n + 3000000 ∧ Ch i j S S' := by
  have hB : B = 1000000000000 := rfl
  have hK : cK 4 = 556611 := by decide
  have iS := hd.il
  have jS := hd.jl
  obtain ⟨zs, hlS, _⟩ := hl.at_
  have lS : l < S.length := (List.getElem?_eq_some_iff.mp hlS).1
  have w0 : W (S ++ [.lst vAll.ds]) i j l S.length n vAll := ⟨hd.app _, hl.ch (.app _ _), by simp, by omega, by omega, by omega⟩
  obtain ⟨m, S1, e1, m0, m1, d1, c1, s1⟩ := draw_ok (many := 4) w0.dk (by omega) (by decide) (by decide)
  have w1 := w0.ch c1 d1
  have mb : -1000000 ≤ 1 + m ∧ 1 + m ≤ 1000000 := by omega
  have rl : (((rangeD 0 (1 + m).toNat).length : Nat) : Int) = 1 + m := by simp [rangeD]; omega
  have cl1 : CL i j S.length (S ++ [.lst vAll.ds]) S1 := c1.cl _
  have hm4 : (1 + m) * cK 4 ≤ 4 * cK 4 := Int.mul_le_mul_of_nonneg_right (by omega) (by rw [hK]; decide)
  rw [hK] at hm4
  have e0 : vAll.take 1 (cA []) = vAll := by rw [cA_nil, take_u0]
  obtain ⟨b, S2, n2, x4, e2, w2, nn2, cl2, ok2, h2, l2, u2⟩ := prog_loop (S0 := S ++ [.lst vAll.ds]) (rangeD 0 (1 + m).toNat) [] S1 (n + 1) none (by rw [e0]; exact w1) (by rw [e0]; exact ⟨by decide, by decide, by decide, by decide, by decide⟩) cl1 (by rw [okA_nil]; trivial) (by rw [hA_nil]; omega) (by rw [rl, hK]; omega)
  rw [rl, hK] at u2
  have chS : ∀ {S' : Sto}, CL i j S.length (S ++ [.lst vAll.ds]) S' → Ch i j S S' := fun c => ⟨by have := c.len; simp at this; omega, fun m o a1 a2 a3 => c.at_ m o a1 a2 (by have := (List.getElem?_eq_some_iff.mp a3).1; omega) ((Ext.new S _).at a3)⟩
  have g2 := w2.left
  obtain ⟨x0, x1, -, -, -⟩ := ix5 (vAll.take 1 (cA b))
  have evl : vAll.ds.length ≤ 100000 := by decide
  have ev : [D.int 24, D.int 30, D.int 4, D.int 2, D.int 2] = vAll.ds := rfl
  simp [dA] at e2
  by_cases h0 : (vAll.take 1 (cA b)).a < 1
  · refine ⟨b, S2, n2, ?_, prog_of ok2 h2 nn2, w2.dk, by omega, by omega, chS cl2⟩
    simp [f_program, fDef, b__law_program, ev, evl, e1, mb, e2, g2, x0, h0]
  · by_cases h1 : (vAll.take 1 (cA b)).b < 1
    · refine ⟨b, S2, n2, ?_, prog_of ok2 h2 nn2, w2.dk, by omega, by omega, chS cl2⟩
      simp [f_program, fDef, b__law_program, ev, evl, e1, mb, e2, g2, x0, x1, h0, h1]
    · obtain ⟨k, S3, e3, k0, k1, d3, c3, s3⟩ := draw_ok (many := 4) w2.dk (by omega) (by decide) (by decide)
      have w3 := w2.ch c3 d3
      by_cases hk : k = 0
      · subst hk
        refine ⟨b, S3, _, ?_, prog_of ok2 h2 nn2, d3, by omega, by omega, chS (cl2.trans (c3.cl _))⟩
        simp [f_program, fDef, b__law_program, ev, evl, e1, mb, e2, g2, x0, x1, h0, h1, e3]
      · obtain ⟨e, S4, n4, e4, ok4, d4, l4, u4, c4⟩ := expr2_ok d3 (by omega) w3.nm
        have okp : okA (b ++ [.pay e]) := by rw [okA_app, okA_cons, okA_nil, Sm.ok]; exact ⟨ok2, e.ok_mono ok4 (by omega), trivial⟩
        have hp := cA_pos _ ok2
        have ha : (vAll.take 1 (cA b)).a = 24 - (cA b).a := rfl
        have nn4 : (vAll.take 1 (cA (b ++ [.pay e]))).nn := by
          have hu : cA [Sm.pay e] = u1 := by rw [cA_cons, cA_nil, cS, add_u0]
          rw [cA_app, hu, ← take_add]
          exact ⟨by show 0 ≤ (vAll.take 1 (cA b)).a - 1; omega, by show 0 ≤ (vAll.take 1 (cA b)).b - 1 * 1; omega, by show 0 ≤ (vAll.take 1 (cA b)).c - 1 * 0; have := nn2.c; omega, by show 0 ≤ (vAll.take 1 (cA b)).d - 1 * 0; have := nn2.d; omega, by show 0 ≤ (vAll.take 1 (cA b)).e - 1 * 0; have := nn2.e; omega⟩
        refine ⟨b ++ [.pay e], S4, n4, ?_, prog_of okp ?_ nn4, d4, by omega, by omega, chS (cl2.trans ((c3.cl _).trans (c4.cl _)))⟩
        · have hl : (dA b).length + 1 ≤ 100000 := by rw [dA_len]; omega
          have hd2 : dA (b ++ [.pay e]) = dA b ++ [.tup [.str "pay", e.d]] := by rw [dA_app]; simp [dA, Sm.d]
          rw [hd2]
          simp [f_program, fDef, b__law_program, ev, evl, e1, mb, e2, g2, x0, x1, h0, h1, e3, hk, e4, hl]
        · rw [hA_app, hA_cons, hA_nil, hS]
          omega
end PG

set_option Elab.async false
set_option linter.all false
set_option maxRecDepth 100000
set_option maxHeartbeats 1000000
namespace PG
open PySem L2 DL PyProof.Rows
/-! ### the deck -/
noncomputable def f_deck : Fn := fDef 1 2 b__law_deck
theorem lc_abs {q l : Nat} {ds0 : List D} {δ : DEnv} (hδ : δ.length = 2) (hql : q ≠ l) : ∀ (ns : List Int) (S : Sto) (acc : List D), S[q]? = some (.lst ds0) → S[l]? = some (.lst acc) → acc.length + ns.length < 100000 →
    lcF (some (q, ds0)) 1 l fYes (fCB bAbs (fCons (fVar 1) fNil)) (ns.map D.int) δ S = some (.loc l, S.set l (.lst (acc ++ ns.map fun i => D.int (if i < 0 then -i else i))))
  | [], S, acc, h0, h, _ => by
    have : S.set l (.lst acc) = S := by
      apply List.ext_getElem?
      intro k
      by_cases hk : k = l
      · subst hk
        rw [List.getElem?_set_self (List.getElem?_eq_some_iff.mp h).1, h]
      · rw [List.getElem?_set_ne (fun z => hk z.symm)]
    rw [List.map_nil, lcF_nil (show stOk (some (q, ds0)) S from h0)]
    simp [this]
  | i :: ns, S, acc, h0, h, hz => by
    rw [List.length_cons] at hz
    have hlt : l < S.length := (List.getElem?_eq_some_iff.mp h).1
    have ih := lc_abs hδ hql ns (S.set l (.lst (acc ++ [.int (if i < 0 then -i else i)]))) (acc ++ [.int (if i < 0 then -i else i)]) (by rw [List.getElem?_set_ne (fun z => hql z.symm)]; exact h0) (by rw [List.getElem?_set_self hlt]) (by rw [List.length_append, List.length_singleton]; omega)
    obtain ⟨x, y, rfl⟩ : ∃ x y, δ = [x, y] := by
      match δ, hδ with
      | [x, y], _ => exact ⟨x, y, rfl⟩
    have ha : acc.length < 100000 := by omega
    rw [List.map_cons, lcF_cons (show stOk (some (q, ds0)) S from h0)]
    simp [h, ha, ih]
theorem deck_ok {ns : List Int} {S : Sto} (h : ns.length ≤ 63) : ∃ S', f_deck [.scr ns] S = some (.loc (S.length + 2), S') ∧ Dk S' (S.length + 2) (S.length + 1) 0 ∧ Ext S S' := by
  have e1 : DL.cutD (ns.map D.int) none (some (63 : Int)) = ns.map D.int := by
    have := cutD_to (ns.map D.int) 63
    rw [List.take_of_length_le (by simpa using h)] at this
    exact this
  have e2 := lc_abs (q := S.length) (l := S.length + 1) (ds0 := ns.map D.int) (δ := [some (.scr ns), none]) rfl (by omega) ns (S ++ [.lst (ns.map D.int), .lst []]) [] (by simp) (by simp) (by simp; omega)
  have e3 : (S ++ [Ob.lst (ns.map D.int), Ob.lst []]).set (S.length + 1) (.lst (ns.map fun i => D.int (if i < 0 then -i else i))) = S ++ [.lst (ns.map D.int), .lst (ns.map fun i => D.int (if i < 0 then -i else i))] := by
    rw [List.set_append_right (h := by omega)]
    simp
  rw [List.nil_append, e3] at e2
  refine ⟨S ++ [.lst (ns.map D.int), .lst (ns.map fun i => D.int (if i < 0 then -i else i)), .lst [.loc (S.length + 1), .int 0]], ?_, ⟨by omega, by simp, ⟨ns.map fun i => if i < 0 then -i else i, by simp [Function.comp_def], fun c hc => ?_, by simpa using h⟩, Int.le_refl _⟩, ⟨_, rfl⟩⟩
  · simp [f_deck, fDef, b__law_deck, e1, e2]
  · simp only [List.mem_map] at hc
    obtain ⟨a, _, rfl⟩ := hc
    split <;> omega
end PG

set_option Elab.async false
set_option linter.all false
set_option maxRecDepth 100000
set_option maxHeartbeats 4000000
namespace PE
open PySem L2 DL PyProof.Rows
/-! is_integer -/
noncomputable def b_is_integer : FS :=
    (fsRet (fAndV (fIsi "int" (fVar 0)) (fNotV (fIsi "bool" (fVar 0)))))
/-! is_within -/
noncomputable def b_is_within (c0 : Fn) : FS :=
    (fsRet (fAndV (fCall c0 (fCons (fVar 0) fNil)) (fChain (oI0 fun i j => .bl (decide (i ≤ j))) (oI0 fun i j => .bl (decide (i ≤ j))) (fVar 1) (fVar 0) (fVar 2))))
/-! is_name -/
noncomputable def b_is_name : FS :=
    (fsSeq (fsIf (fOr (fNot (fTest (fIsi "str" (fVar 0)))) (fNot (fTest (fChain (oI0 fun i j => .bl (decide (i ≤ j))) (oI0 fun i j => .bl (decide (i ≤ j))) (fC (.int 1)) (fCB bLen (fCons (fVar 0) fNil)) (fC (.int 8)))))) (fsRet (fC (.bl false))) fsNext)
    (fsSeq (fsIf (fOr (fTest (fOp oIn (fVar 0) (fC (.tup [.str "set", .str "pay", .str "stop", .str "if", .str "else", .str "we", .str "they", .str "or", .str "repeat", .str "pass", .str "rest", .str "of", .str "not", .str "program"])))) (fTest (fOp oNotIn (fOp oIx (fVar 0) (fC (.int 0))) (fC (.str "abcdefghijklmnopqrstuvwxyz"))))) (fsRet (fC (.bl false))) fsNext)
    (fsRet (fCB bAll (fCons (fLc (fiAny (fVar 0)) 1 fYes (fOrV (fOp oIn (fVar 1) (fC (.str "abcdefghijklmnopqrstuvwxyz"))) (fOp oIn (fVar 1) (fC (.str "0123456789"))))) fNil)))))
/-! has_form -/
noncomputable def b_has_form : FS :=
    (fsRet (fAndV (fIsi "tuple" (fVar 0)) (fAndV (fOp (oI0 fun i j => .bl (decide (j < i))) (fCB bLen (fCons (fVar 0) fNil)) (fC (.int 0))) (fOp oIn (fTup (fCons (fOp oIx (fVar 0) (fC (.int 0))) (fCons (fCB bLen (fCons (fVar 0) fNil)) fNil))) (fVar 1)))))
/-! is_expression -/
noncomputable def b_is_expression (c0 c1 c2 c3 : Fn) : FS :=
    (fsSeq (fsIf (fTest (fOp (oEq id) (fVar 1) (fC (.int 0)))) (fsRet (fC (.bl false))) fsNext)
    (fsSeq (fsIf (fOr (fTest (fCall c1 (fCons (fVar 0) (fCons (fNeg (fC (.int 99))) (fCons (fC (.int 99)) fNil))))) (fTest (fCall c3 (fCons (fVar 0) fNil)))) (fsRet (fC (.bl true))) fsNext)
    (fsSeq (fsIf (fOr (fNot (fTest (fCall c2 (fCons (fVar 0) (fCons (fC (.tup [.tup [.str "plus", .int 3], .tup [.str "minus", .int 3], .tup [.str "times", .int 3]])) fNil))))) (fNot (fTest (fCall c0 (fCons (fOp oIx (fVar 0) (fC (.int 2))) (fCons (fOp (oI0 fun i j => .int (i - j)) (fVar 1) (fC (.int 1))) fNil)))))) (fsRet (fC (.bl false))) fsNext)
    (fsSeq (fsIf (fTest (fOp (oEq id) (fOp oIx (fVar 0) (fC (.int 0))) (fC (.str "times")))) (fsRet (fCall c1 (fCons (fOp oIx (fVar 0) (fC (.int 1))) (fCons (fNeg (fC (.int 9))) (fCons (fC (.int 9)) fNil))))) fsNext)
    (fsRet (fCall c0 (fCons (fOp oIx (fVar 0) (fC (.int 1))) (fCons (fOp (oI0 fun i j => .int (i - j)) (fVar 1) (fC (.int 1))) fNil))))))))
/-! is_test -/
noncomputable def b_is_test (c0 c1 c2 c3 : Fn) : FS :=
    (fsSeq (fsIf (fNot (fTest (fCall c3 (fCons (fVar 0) (fCons (fC (.tup [.tup [.str "less", .int 3], .tup [.str "rest", .int 4], .tup [.str "not", .int 2]])) fNil))))) (fsRet (fC (.bl false))) fsNext)
    (fsSeq (fsIf (fTest (fOp (oEq id) (fOp oIx (fVar 0) (fC (.int 0))) (fC (.str "not")))) (fsRet (fAndV (fOp (oI0 fun i j => .bl (decide (j < i))) (fVar 1) (fC (.int 0))) (fCall c2 (fCons (fOp oIx (fVar 0) (fC (.int 1))) (fCons (fOp (oI0 fun i j => .int (i - j)) (fVar 1) (fC (.int 1))) fNil))))) fsNext)
    (fsSeq (fsIf (fNot (fTest (fCall c1 (fCons (fOp oIx (fVar 0) (fC (.int 1))) (fCons (fC (.int 3)) fNil))))) (fsRet (fC (.bl false))) fsNext)
    (fsSeq (fsIf (fTest (fOp (oEq id) (fOp oIx (fVar 0) (fC (.int 0))) (fC (.str "less")))) (fsRet (fCall c1 (fCons (fOp oIx (fVar 0) (fC (.int 2))) (fCons (fC (.int 3)) fNil)))) fsNext)
    (fsRet (fAndV (fCall c0 (fCons (fOp oIx (fVar 0) (fC (.int 2))) (fCons (fC (.int 2)) (fCons (fC (.int 6)) fNil)))) (fCall c0 (fCons (fOp oIx (fVar 0) (fC (.int 3))) (fCons (fC (.int 0)) (fCons (fOp (oI0 fun i j => .int (i - j)) (fOp oIx (fVar 0) (fC (.int 2))) (fC (.int 1))) fNil))))))))))
/-! blocks_of -/
noncomputable def b_blocks_of : FS :=
    (fsSeq (fsIf (fTest (fOp oIn (fOp oIx (fVar 0) (fC (.int 0))) (fTup (fCons (fC (.str "we")) (fCons (fC (.str "they")) fNil))))) (fsRet (fSl (fVar 0) (fPart (fC (.int 1))) fNoPart)) fsNext)
    (fsSeq (fsIf (fTest (fOp oIn (fOp oIx (fVar 0) (fC (.int 0))) (fTup (fCons (fC (.str "if")) (fCons (fC (.str "repeat")) fNil))))) (fsRet (fSl (fVar 0) (fPart (fC (.int 2))) fNoPart)) fsNext)
    (fsRet (fTup fNil))))
/-! is_statement -/
noncomputable def b_is_statement (c0 c1 c2 c3 c4 c5 : Fn) : FS :=
    (fsSeq (fsIf (fNot (fTest (fCall c5 (fCons (fVar 0) (fCons (fC (.tup [.tup [.str "set", .int 3], .tup [.str "pay", .int 2], .tup [.str "if", .int 4], .tup [.str "we", .int 3], .tup [.str "they", .int 3], .tup [.str "repeat", .int 3], .tup [.str "stop", .int 1]])) fNil))))) (fsRet (fC (.bl false))) fsNext)
    (fsSeq (fsIf (fTest (fOp (oEq id) (fOp oIx (fVar 0) (fC (.int 0))) (fC (.str "set")))) (fsRet (fAndV (fCall c4 (fCons (fOp oIx (fVar 0) (fC (.int 1))) fNil)) (fCall c3 (fCons (fOp oIx (fVar 0) (fC (.int 2))) (fCons (fC (.int 3)) fNil))))) fsNext)
    (fsSeq (fsIf (fTest (fOp (oEq id) (fOp oIx (fVar 0) (fC (.int 0))) (fC (.str "pay")))) (fsRet (fCall c3 (fCons (fOp oIx (fVar 0) (fC (.int 1))) (fCons (fC (.int 3)) fNil)))) fsNext)
    (fsSeq (fsIf (fAnd (fTest (fOp (oEq id) (fOp oIx (fVar 0) (fC (.int 0))) (fC (.str "if")))) (fNot (fTest (fCall c2 (fCons (fOp oIx (fVar 0) (fC (.int 1))) (fCons (fC (.int 2)) fNil)))))) (fsRet (fC (.bl false))) fsNext)
    (fsSeq (fsIf (fAnd (fTest (fOp (oEq id) (fOp oIx (fVar 0) (fC (.int 0))) (fC (.str "repeat")))) (fNot (fTest (fCall c1 (fCons (fOp oIx (fVar 0) (fC (.int 1))) (fCons (fC (.int 1)) (fCons (fC (.int 8)) fNil))))))) (fsRet (fC (.bl false))) fsNext)
    (fsRet (fCB bAll (fCons (fLc (fiAny (fCall c0 (fCons (fVar 0) fNil))) 1 fYes (fIsi "tuple" (fVar 1))) fNil))))))))
/-! fault_in -/
noncomputable def b_fault_in (c0 c1 c2 : Fn) : FS :=
    (fsSeq (fsFor (fiAny (fVar 0)) (fgName 3) (fsSeq (fsIf (fTest (fOp (oI0 fun i j => .bl (decide (j < i))) (fVar 2) (fC (.int 3)))) (fsRet (fTup (fCons (fVar 1) (fCons (fC (.str "nest")) fNil)))) fsNext)
    (fsSeq (fsIf (fNot (fTest (fCall c2 (fCons (fVar 3) fNil)))) (fsRet (fTup (fCons (fVar 1) (fCons (fC (.str "statement")) fNil)))) fsNext)
    (fsSeq (fsAugI 1 (fun i j => i + j) (fC (.int 1)))
    (fsFor (fiAny (fCall c0 (fCons (fVar 3) fNil))) (fgName 4) (fsSeq (fsAsg (fCall c1 (fCons (fVar 4) (fCons (fVar 1) (fCons (fOp oAdd (fVar 2) (fC (.int 1))) fNil)))) (fg2 (fgName 1) (fgName 5)))
    (fsIf (fTest (fOp (oIs not) (fVar 5) (fC .non))) (fsRet (fTup (fCons (fVar 1) (fCons (fVar 5) fNil)))) fsNext)))))))
    (fsRet (fTup (fCons (fVar 1) (fCons (fC .non) fNil)))))
/-! kind_of -/
noncomputable def b_kind_of : FS :=
    (fsSeq (fsIf (fTest (fOp (oEq not) (fOp oIx (fVar 0) (fC (.int 0))) (fC (.str "if")))) (fsRet (fOp oIx (fVar 0) (fC (.int 0)))) fsNext)
    (fsSeq (fsAsg (fOp oIx (fVar 0) (fC (.int 1))) (fgName 1))
    (fsSeq (fsWhile (fTest (fOp (oEq id) (fOp oIx (fVar 1) (fC (.int 0))) (fC (.str "not")))) (fsAsg (fOp oIx (fVar 1) (fC (.int 1))) (fgName 1)))
    (fsRet (fOp oIx (fVar 1) (fC (.int 0)))))))
/-! counted -/
noncomputable def b_counted (c0 c1 c2 : Fn) : FS :=
    (fsSeq (fsAsg (fC (.int 0)) (fgName 2))
    (fsSeq (fsFor (fiAny (fVar 0)) (fgName 3) (fsSeq (fsAsg (fIfE (fTest (fOp (oEq id) (fOp oIx (fVar 3) (fC (.int 0))) (fC (.str "repeat")))) (fOp oIx (fVar 3) (fC (.int 1))) (fC (.int 1))) (fgName 4))
    (fsSeq (fsAugI 2 (fun i j => i + j) (fOp oMul (fVar 4) (fCB bSum (fCons (fLc (fiAny (fCall c1 (fCons (fVar 3) fNil))) 5 fYes (fCall c2 (fCons (fVar 5) (fCons (fVar 1) fNil)))) fNil))))
    (fsIf (fTest (fOp oIn (fCall c0 (fCons (fVar 3) fNil)) (fVar 1))) (fsAugI 2 (fun i j => i + j) (fC (.int 1))) fsNext))))
    (fsRet (fVar 2))))
/-! bound_passed -/
noncomputable def b_bound_passed (c0 : Fn) : FS :=
    (fsSeq (fsIf (fTest (fOp (oI0 fun i j => .bl (decide (j < i))) (fVar 1) (fC (.int 24)))) (fsRet (fC (.str "places"))) fsNext)
    (fsSeq (fsIf (fTest (fOp (oI0 fun i j => .bl (decide (j < i))) (fCall c0 (fCons (fVar 0) (fCons (fC (.tup [.str "set", .str "pay", .str "less", .str "rest", .str "we", .str "they", .str "repeat", .str "stop"])) fNil))) (fC (.int 30)))) (fsRet (fC (.str "weight"))) fsNext)
    (fsSeq (fsIf (fTest (fOp (oI0 fun i j => .bl (decide (j < i))) (fCall c0 (fCons (fVar 0) (fCons (fTup (fCons (fC (.str "we")) (fCons (fC (.str "they")) fNil))) fNil))) (fC (.int 4)))) (fsRet (fC (.str "choices"))) fsNext)
    (fsSeq (fsIf (fTest (fOp (oI0 fun i j => .bl (decide (j < i))) (fCall c0 (fCons (fVar 0) (fCons (fTup (fCons (fC (.str "rest")) fNil)) fNil))) (fC (.int 2)))) (fsRet (fC (.str "rests"))) fsNext)
    (fsSeq (fsIf (fTest (fOp (oI0 fun i j => .bl (decide (j < i))) (fCall c0 (fCons (fVar 0) (fCons (fTup (fCons (fC (.str "less")) fNil)) fNil))) (fC (.int 2)))) (fsRet (fC (.str "comparings"))) fsNext)
    (fsRet (fC .non)))))))
/-! program_error -/
noncomputable def b_program_error (c0 c1 : Fn) : FS :=
    (fsSeq (fsIf (fNot (fTest (fIsi "tuple" (fVar 0)))) (fsRet (fTup (fCons (fC .non) (fCons (fC (.str "program")) fNil)))) fsNext)
    (fsSeq (fsAsg (fCall c1 (fCons (fVar 0) (fCons (fC (.int 0)) (fCons (fC (.int 0)) fNil)))) (fg2 (fgName 1) (fgName 2)))
    (fsSeq (fsIf (fTest (fOp (oIs not) (fVar 2) (fC .non))) (fsRet (fTup (fCons (fVar 1) (fCons (fVar 2) fNil)))) fsNext)
    (fsSeq (fsAsg (fCall c0 (fCons (fVar 0) (fCons (fVar 1) fNil))) (fgName 2))
    (fsRet (fIfE (fTest (fOp (oIs id) (fVar 2) (fC .non))) (fC .non) (fTup (fCons (fC .non) (fCons (fVar 2) fNil)))))))))
/-! _law_parts -/
noncomputable def b__law_parts : FS :=
    (fsSeq (fsIf (fTest (fOp oIn (fOp oIx (fVar 0) (fC (.int 0))) (fTup (fCons (fC (.str "we")) (fCons (fC (.str "they")) fNil))))) (fsRet (fSl (fVar 0) (fPart (fC (.int 1))) fNoPart)) fsNext)
    (fsRet (fIfE (fTest (fOp oIn (fOp oIx (fVar 0) (fC (.int 0))) (fTup (fCons (fC (.str "if")) (fCons (fC (.str "repeat")) fNil))))) (fSl (fVar 0) (fPart (fC (.int 2))) fNoPart) (fTup fNil))))
/-! _law_whole -/
noncomputable def b__law_whole : FS :=
    (fsRet (fAndV (fIsi "int" (fVar 0)) (fAndV (fNotV (fIsi "bool" (fVar 0))) (fChain (oI0 fun i j => .bl (decide (i ≤ j))) (oI0 fun i j => .bl (decide (i ≤ j))) (fVar 1) (fVar 0) (fVar 2)))))
/-! _law_is_name -/
noncomputable def b__law_is_name : FS :=
    (fsSeq (fsIf (fOr (fNot (fTest (fIsi "str" (fVar 0)))) (fOr (fNot (fTest (fChain (oI0 fun i j => .bl (decide (i ≤ j))) (oI0 fun i j => .bl (decide (i ≤ j))) (fC (.int 1)) (fCB bLen (fCons (fVar 0) fNil)) (fC (.int 8))))) (fTest (fOp oIn (fOp oIx (fVar 0) (fC (.int 0))) (fC (.str "0123456789")))))) (fsRet (fC (.bl false))) fsNext)
    (fsSeq (fsIf (fTest (fOp (oEq not) (fLc (fiAny (fVar 0)) 2 (fTest (fOp oNotIn (fVar 2) (fC (.str "abcdefghijklmnopqrstuvwxyz0123456789")))) (fVar 2)) (fLst fNil))) (fsRet (fC (.bl false))) fsNext)
    (fsSeq (fsAsg (fLst (fCons (fC (.str "set")) (fCons (fC (.str "pay")) (fCons (fC (.str "stop")) (fCons (fC (.str "if")) (fCons (fC (.str "else")) (fCons (fC (.str "we")) (fCons (fC (.str "they")) (fCons (fC (.str "or")) (fCons (fC (.str "repeat")) (fCons (fC (.str "pass")) (fCons (fC (.str "rest")) (fCons (fC (.str "of")) (fCons (fC (.str "not")) (fCons (fC (.str "program")) fNil))))))))))))))) (fgName 1))
    (fsRet (fOp oNotIn (fVar 0) (fVar 1))))))
/-! _law_is_expression -/
noncomputable def b__law_is_expression (c0 c1 c2 : Fn) : FS :=
    (fsSeq (fsIf (fNot (fTest (fIsi "tuple" (fVar 0)))) (fsRet (fAndV (fOp (oI0 fun i j => .bl (decide (j < i))) (fVar 1) (fC (.int 0))) (fOrV (fCall c2 (fCons (fVar 0) fNil)) (fCall c1 (fCons (fVar 0) (fCons (fNeg (fC (.int 99))) (fCons (fC (.int 99)) fNil))))))) fsNext)
    (fsSeq (fsIf (fOr (fTest (fOp (oEq id) (fVar 1) (fC (.int 0)))) (fOr (fTest (fOp (oEq not) (fCB bLen (fCons (fVar 0) fNil)) (fC (.int 3)))) (fNot (fTest (fIsi "str" (fOp oIx (fVar 0) (fC (.int 0)))))))) (fsRet (fC (.bl false))) fsNext)
    (fsSeq (fsIf (fTest (fOp (oEq id) (fOp oIx (fVar 0) (fC (.int 0))) (fC (.str "times")))) (fsRet (fAndV (fCall c1 (fCons (fOp oIx (fVar 0) (fC (.int 1))) (fCons (fNeg (fC (.int 9))) (fCons (fC (.int 9)) fNil)))) (fCall c0 (fCons (fOp oIx (fVar 0) (fC (.int 2))) (fCons (fOp (oI0 fun i j => .int (i - j)) (fVar 1) (fC (.int 1))) fNil))))) fsNext)
    (fsSeq (fsIf (fTest (fOp oNotIn (fOp oIx (fVar 0) (fC (.int 0))) (fLst (fCons (fC (.str "plus")) (fCons (fC (.str "minus")) fNil))))) (fsRet (fC (.bl false))) fsNext)
    (fsRet (fAndV (fCall c0 (fCons (fOp oIx (fVar 0) (fC (.int 1))) (fCons (fOp (oI0 fun i j => .int (i - j)) (fVar 1) (fC (.int 1))) fNil))) (fCall c0 (fCons (fOp oIx (fVar 0) (fC (.int 2))) (fCons (fOp (oI0 fun i j => .int (i - j)) (fVar 1) (fC (.int 1))) fNil)))))))))
/-! _law_is_rest -/
noncomputable def b__law_is_rest (c0 c1 : Fn) : FS :=
    (fsSeq (fsIf (fOr (fNot (fTest (fCall c1 (fCons (fOp oIx (fVar 0) (fC (.int 1))) (fCons (fC (.int 3)) fNil))))) (fNot (fTest (fCall c0 (fCons (fOp oIx (fVar 0) (fC (.int 2))) (fCons (fC (.int 2)) (fCons (fC (.int 6)) fNil))))))) (fsRet (fC (.bl false))) fsNext)
    (fsRet (fCall c0 (fCons (fOp oIx (fVar 0) (fC (.int 3))) (fCons (fC (.int 0)) (fCons (fOp (oI0 fun i j => .int (i - j)) (fOp oIx (fVar 0) (fC (.int 2))) (fC (.int 1))) fNil))))))
/-! _law_is_test -/
noncomputable def b__law_is_test (c0 c1 c2 : Fn) : FS :=
    (fsSeq (fsIf (fOr (fNot (fTest (fIsi "tuple" (fVar 0)))) (fOr (fTest (fOp (oEq id) (fVar 0) (fTup fNil))) (fNot (fTest (fIsi "str" (fOp oIx (fVar 0) (fC (.int 0)))))))) (fsRet (fC (.bl false))) fsNext)
    (fsSeq (fsIf (fTest (fOp (oEq not) (fCB bLen (fCons (fVar 0) fNil)) (fGet2 (fDict [("less", 3), ("rest", 4), ("not", 2)]) (fOp oIx (fVar 0) (fC (.int 0))) (fC (.int 0))))) (fsRet (fC (.bl false))) fsNext)
    (fsSeq (fsIf (fTest (fOp (oEq id) (fOp oIx (fVar 0) (fC (.int 0))) (fC (.str "not")))) (fsRet (fAndV (fOp (oI0 fun i j => .bl (decide (j < i))) (fVar 1) (fC (.int 0))) (fCall c2 (fCons (fOp oIx (fVar 0) (fC (.int 1))) (fCons (fOp (oI0 fun i j => .int (i - j)) (fVar 1) (fC (.int 1))) fNil))))) fsNext)
    (fsSeq (fsIf (fTest (fOp (oEq id) (fOp oIx (fVar 0) (fC (.int 0))) (fC (.str "rest")))) (fsRet (fCall c1 (fCons (fVar 0) fNil))) fsNext)
    (fsRet (fAndV (fCall c0 (fCons (fOp oIx (fVar 0) (fC (.int 1))) (fCons (fC (.int 3)) fNil))) (fCall c0 (fCons (fOp oIx (fVar 0) (fC (.int 2))) (fCons (fC (.int 3)) fNil)))))))))
/-! _law_is_statement -/
noncomputable def b__law_is_statement (c0 c1 c2 c3 c4 : Fn) : FS :=
    (fsSeq (fsIf (fOr (fNot (fTest (fIsi "tuple" (fVar 0)))) (fOr (fTest (fOp (oEq id) (fVar 0) (fTup fNil))) (fNot (fTest (fIsi "str" (fOp oIx (fVar 0) (fC (.int 0)))))))) (fsRet (fC (.bl false))) fsNext)
    (fsSeq (fsAsg (fDict [("set", 3), ("pay", 2), ("stop", 1), ("if", 4), ("we", 3), ("they", 3), ("repeat", 3)]) (fgName 1))
    (fsSeq (fsIf (fTest (fOp (oEq not) (fCB bLen (fCons (fVar 0) fNil)) (fGet2 (fVar 1) (fOp oIx (fVar 0) (fC (.int 0))) (fC (.int 0))))) (fsRet (fC (.bl false))) fsNext)
    (fsSeq (fsIf (fTest (fOp (oEq id) (fOp oIx (fVar 0) (fC (.int 0))) (fC (.str "set")))) (fsRet (fAndV (fCall c4 (fCons (fOp oIx (fVar 0) (fC (.int 1))) fNil)) (fCall c3 (fCons (fOp oIx (fVar 0) (fC (.int 2))) (fCons (fC (.int 3)) fNil))))) fsNext)
    (fsSeq (fsIf (fTest (fOp (oEq id) (fOp oIx (fVar 0) (fC (.int 0))) (fC (.str "pay")))) (fsRet (fCall c3 (fCons (fOp oIx (fVar 0) (fC (.int 1))) (fCons (fC (.int 3)) fNil)))) fsNext)
    (fsSeq (fsIf (fAnd (fTest (fOp (oEq id) (fOp oIx (fVar 0) (fC (.int 0))) (fC (.str "if")))) (fNot (fTest (fCall c2 (fCons (fOp oIx (fVar 0) (fC (.int 1))) (fCons (fC (.int 2)) fNil)))))) (fsRet (fC (.bl false))) fsNext)
    (fsSeq (fsIf (fAnd (fTest (fOp (oEq id) (fOp oIx (fVar 0) (fC (.int 0))) (fC (.str "repeat")))) (fNot (fTest (fCall c1 (fCons (fOp oIx (fVar 0) (fC (.int 1))) (fCons (fC (.int 1)) (fCons (fC (.int 8)) fNil))))))) (fsRet (fC (.bl false))) fsNext)
    (fsRet (fOp (oEq id) (fLc (fiAny (fCall c0 (fCons (fVar 0) fNil))) 2 (fNot (fTest (fIsi "tuple" (fVar 2)))) (fVar 2)) (fLst fNil))))))))))
/-! _law_counts -/
noncomputable def b__law_counts (c0 c1 : Fn) : FS :=
    (fsSeq (fsAsg (fLst (fCons (fC (.int 0)) (fCons (fC (.int 0)) (fCons (fC (.int 0)) (fCons (fC (.int 0)) (fCons (fC (.int 0)) fNil)))))) (fgName 1))
    (fsSeq (fsFor (fiAny (fVar 0)) (fgName 2) (fsSeq (fsAsg (fIfE (fTest (fOp (oEq id) (fOp oIx (fVar 2) (fC (.int 0))) (fC (.str "if")))) (fOp oIx (fVar 2) (fC (.int 1))) (fTup (fCons (fC (.str "none")) fNil))) (fgName 3))
    (fsSeq (fsWhile (fTest (fOp (oEq id) (fOp oIx (fVar 3) (fC (.int 0))) (fC (.str "not")))) (fsAsg (fOp oIx (fVar 3) (fC (.int 1))) (fgName 3)))
    (fsSeq (fsAsg (fLst (fCons (fC (.int 1)) (fCons (fC (.int 1)) (fCons (fCB bInt (fCons (fOp oIn (fOp oIx (fVar 2) (fC (.int 0))) (fTup (fCons (fC (.str "we")) (fCons (fC (.str "they")) fNil)))) fNil)) (fCons (fCB bInt (fCons (fOp (oEq id) (fOp oIx (fVar 3) (fC (.int 0))) (fC (.str "rest"))) fNil)) (fCons (fCB bInt (fCons (fOp (oEq id) (fOp oIx (fVar 3) (fC (.int 0))) (fC (.str "less"))) fNil)) fNil)))))) (fgName 4))
    (fsSeq (fsFor (fiAny (fCall c0 (fCons (fVar 2) fNil))) (fgName 5) (fsSeq (fsAsg (fTup (fCons (fCall c1 (fCons (fVar 5) fNil)) (fCons (fIfE (fTest (fOp (oEq id) (fOp oIx (fVar 2) (fC (.int 0))) (fC (.str "repeat")))) (fOp oIx (fVar 2) (fC (.int 1))) (fC (.int 1))) fNil))) (fg2 (fgName 6) (fgName 7)))
    (fsAsg (fOp oAdd (fLst (fCons (fOp oAdd (fOp oIx (fVar 4) (fC (.int 0))) (fOp oIx (fVar 6) (fC (.int 0)))) fNil)) (fLc (fiRng2 (fCons (fC (.int 1)) (fCons (fC (.int 5)) fNil))) 8 fYes (fOp oAdd (fOp oIx (fVar 4) (fVar 8)) (fOp oMul (fVar 7) (fOp oIx (fVar 6) (fVar 8)))))) (fgName 4))))
    (fsAsg (fLc (fiRng1 (fCons (fC (.int 5)) fNil)) 8 fYes (fOp oAdd (fOp oIx (fVar 1) (fVar 8)) (fOp oIx (fVar 4) (fVar 8)))) (fgName 1)))))))
    (fsRet (fVar 1))))
/-! _law_error -/
noncomputable def b__law_error (c0 c1 c2 : Fn) : FS :=
    (fsSeq (fsIf (fNot (fTest (fIsi "tuple" (fVar 0)))) (fsRet (fTup (fCons (fC .non) (fCons (fC (.str "program")) fNil)))) fsNext)
    (fsSeq (fsPar 1 2 (fCons (fRevL (fLc (fiAny (fVar 0)) 10 fYes (fTup (fCons (fC (.int 0)) (fCons (fVar 10) fNil))))) (fCons (fC (.int 0)) fNil)))
    (fsSeq (fsWhile (fTest (fOp (oEq not) (fVar 1) (fLst fNil))) (fsSeq (fsAsg (fPop (fVar 1)) (fg2 (fgName 3) (fgName 4)))
    (fsSeq (fsIf (fTest (fOp (oI0 fun i j => .bl (decide (j < i))) (fVar 3) (fC (.int 3)))) (fsRet (fTup (fCons (fVar 2) (fCons (fC (.str "nest")) fNil)))) fsNext)
    (fsSeq (fsIf (fNot (fTest (fCall c2 (fCons (fVar 4) fNil)))) (fsRet (fTup (fCons (fVar 2) (fCons (fC (.str "statement")) fNil)))) fsNext)
    (fsSeq (fsAsg (fLst fNil) (fgName 5))
    (fsSeq (fsFor (fiAny (fCall c1 (fCons (fVar 4) fNil))) (fgName 6) (fsDrop (fExt (fVar 5) (fLc (fiAny (fVar 6)) 10 fYes (fTup (fCons (fOp oAdd (fVar 3) (fC (.int 1))) (fCons (fVar 10) fNil)))))))
    (fsSeq (fsDrop (fExt (fVar 1) (fRevL (fVar 5))))
    (fsAsg (fOp oAdd (fVar 2) (fC (.int 1))) (fgName 2)))))))))
    (fsSeq (fsAsg (fCall c0 (fCons (fVar 0) fNil)) (fgName 7))
    (fsSeq (fsFor (fiEnum (fCons (fLst (fCons (fC (.str "places")) (fCons (fC (.str "weight")) (fCons (fC (.str "choices")) (fCons (fC (.str "rests")) (fCons (fC (.str "comparings")) fNil)))))) fNil)) (fg2 (fgName 8) (fgName 9)) (fsIf (fTest (fOp (oI0 fun i j => .bl (decide (j < i))) (fOp oIx (fVar 7) (fVar 8)) (fOp oIx (fLst (fCons (fC (.int 24)) (fCons (fC (.int 30)) (fCons (fC (.int 4)) (fCons (fC (.int 2)) (fCons (fC (.int 2)) fNil)))))) (fVar 8)))) (fsRet (fTup (fCons (fC .non) (fCons (fVar 9) fNil)))) fsNext))
    (fsRet (fC .non)))))))
end PE

set_option Elab.async false
set_option linter.all false
set_option maxRecDepth 100000
set_option maxHeartbeats 1000000
namespace PE
open PySem L2 DL PG
/-! ### any value: what stands in it is there -/
mutual
def vD (m : Nat) : D → Prop
  | .loc i => i < m
  | .scr _ => False
  | .str s => s.length ≤ 1000
  | .tup ds => ds.length ≤ 1000 ∧ vA m ds
  | .non => True | .bl _ => True | .int _ => True
def vA (m : Nat) : List D → Prop
  | [] => True
  | d :: r => vD m d ∧ vA m r
end
mutual
theorem vD_mono {m m' : Nat} (h : m ≤ m') : ∀ d : D, vD m d → vD m' d
  | .loc i, hd => by rw [vD] at hd ⊢; omega
  | .scr _, hd => by rw [vD] at hd; exact hd.elim
  | .str s, hd => by rw [vD] at hd ⊢; exact hd
  | .tup ds, hd => by rw [vD] at hd ⊢; exact ⟨hd.1, vA_mono h ds hd.2⟩
  | .non, _ => by rw [vD]; trivial
  | .bl _, _ => by rw [vD]; trivial
  | .int _, _ => by rw [vD]; trivial
theorem vA_mono {m m' : Nat} (h : m ≤ m') : ∀ d : List D, vA m d → vA m' d
  | [], _ => by rw [vA]; trivial
  | d :: r, hd => by rw [vA] at hd ⊢; exact ⟨vD_mono h d hd.1, vA_mono h r hd.2⟩
end
theorem vA_mem {m : Nat} : ∀ {ds : List D} {d : D}, vA m ds → d ∈ ds → vD m d
  | [], _, _, h => absurd h List.not_mem_nil
  | x :: r, d, h, hm => by
    rw [vA] at h
    rcases List.mem_cons.mp hm with e | e
    · rw [e]; exact h.1
    · exact vA_mem h.2 e
theorem vA_of {m : Nat} : ∀ {ds : List D}, (∀ d ∈ ds, vD m d) → vA m ds
  | [], _ => by rw [vA]; trivial
  | x :: r, h => by rw [vA]; exact ⟨h x List.mem_cons_self, vA_of fun d hd => h d (List.mem_cons_of_mem _ hd)⟩
theorem vD_app {S z : Sto} {d : D} (h : vD S.length d) : vD (S ++ z).length d := vD_mono (by simp) d h
def isI : D → Bool | .int _ => true | .bl _ => true | _ => false
def isB : D → Bool | .bl _ => true | _ => false
def isS : D → Bool | .str _ => true | _ => false
def isT : D → Bool | .tup _ => true | _ => false
theorem kt {S : Sto} {d : D} (h : vD S.length d) : kitB (tyD S d) "int" = some (isI d) ∧ kitB (tyD S d) "bool" = some (isB d) ∧ kitB (tyD S d) "str" = some (isS d) ∧ kitB (tyD S d) "tuple" = some (isT d) := by
  cases d with
  | loc i =>
    rw [vD] at h
    cases e : S[i]? with
    | none => rw [List.getElem?_eq_none_iff] at e; omega
    | some o => cases o <;> simp [tyD, e, isI, isB, isS, isT]
  | scr _ => rw [vD] at h; exact h.elim
  | _ => simp [isI, isB, isS, isT]
/-! ### the program's defs -/
noncomputable def f_is_integer : Fn := fDef 1 1 b_is_integer
noncomputable def f_is_within : Fn := fDef 3 3 (b_is_within f_is_integer)
noncomputable def f_is_name : Fn := fDef 1 2 b_is_name
noncomputable def f_has_form : Fn := fDef 2 2 b_has_form
noncomputable def f_is_expression : Nat → Fn
  | 0 => fun _ _ => none
  | k + 1 => fDef 2 2 (b_is_expression (f_is_expression k) f_is_within f_has_form f_is_name)
def mInt : D → Bool | .int _ => true | _ => false
def mWithin (lo hi : Int) : D → Bool | .int i => decide (lo ≤ i) && decide (i ≤ hi) | _ => false
def mName : D → Bool | .str s => nameOk s | _ => false
theorem is_integer_ok {S : Sto} {d : D} (h : vD S.length d) : f_is_integer [d] S = some (.bl (mInt d), S) := by
  obtain ⟨h1, h2, -, -⟩ := kt h
  cases d <;> simp [-tyD, f_is_integer, fDef, b_is_integer, h1, h2, isI, isB, mInt]
theorem is_within_ok {S : Sto} {d : D} {lo hi : Int} (h : vD S.length d) : f_is_within [d, .int lo, .int hi] S = some (.bl (mWithin lo hi d), S) := by
  have h1 := is_integer_ok h
  cases d with
  | int i =>
    by_cases hl : lo ≤ i <;> simp [f_is_within, fDef, b_is_within, h1, mInt, mWithin, hl]
  | _ => simp [f_is_within, fDef, b_is_within, h1, mInt, mWithin]
/-- [elt for x in xs] whose parts do nothing else -/
theorem lc_pure {k l : Nat} {e : FE} {g : D → D} : ∀ (xs : List D) (δ : DEnv) (S : Sto) (acc : List D), S[l]? = some (.lst acc) → acc.length + xs.length < 100000 → (∀ x ∈ xs, ∀ S, e (δ.set k (some x)) S = some (g x, S)) →
    lcF none k l fYes e xs δ S = some (.loc l, S.set l (.lst (acc ++ xs.map g)))
  | [], δ, S, acc, h, _, _ => by
    have he := (List.getElem?_eq_some_iff.mp h).2
    rw [lcF_nil0, List.map_nil, List.append_nil, ← he, List.set_getElem_self]
  | x :: xs, δ, S, acc, h, hz, he => by
    rw [List.length_cons] at hz
    have hlt : l < S.length := (List.getElem?_eq_some_iff.mp h).1
    have e1 := lc_pure xs δ (S.set l (.lst (acc ++ [g x]))) (acc ++ [g x]) (by rw [List.getElem?_set_self hlt]) (by rw [List.length_append, List.length_singleton]; omega) (fun y hy => he y (List.mem_cons_of_mem _ hy))
    rw [List.set_set] at e1
    have ha : acc.length < 100000 := by omega
    simp [he x List.mem_cons_self, h, ha, e1]
theorem lc_pure0 {k : Nat} {e : FE} {g : D → D} {xs : List D} {δ : DEnv} {S : Sto} (hz : xs.length < 100000) (he : ∀ x ∈ xs, ∀ S, e (δ.set k (some x)) S = some (g x, S)) :
    lcF none k S.length fYes e xs δ (S ++ [.lst []]) = some (.loc S.length, S ++ [.lst (xs.map g)]) := by
  rw [lc_pure xs δ _ [] (by simp) (by simpa using hz) he, List.set_append_right (h := Nat.le_refl _)]
  simp
theorem sgl (z : Str) (hz : z.length ≤ 1000) : (signsD z).length < 100000 := by
  unfold signsD
  rw [List.length_map, Array.length_toList]
  have : z.cps.size = z.length := rfl
  omega
theorem sg_all (z : Str) : (signsD z).map (fun x => match x with | .str s => .bl (match s.cps.toList with | [c] => decide (c ∈ lets) || decide (c ∈ digs) | _ => false) | _ => .non) = (z.cps.toList.map fun c => decide (c ∈ lets) || decide (c ∈ digs)).map D.bl := by
  unfold signsD
  rw [List.map_map, List.map_map]
  rfl
theorem is_name_ok {S : Sto} {d : D} (h : vD S.length d) : ∃ z, f_is_name [d] S = some (.bl (mName d), S ++ z) := by
  obtain ⟨-, -, h3, -⟩ := kt h
  cases d with
  | str s =>
    rw [vD] at h
    have hs : s.length ≤ 100000 := by omega
    by_cases h1 : 1 ≤ s.length
    · have h1' : (1 : Int) ≤ (s.length : Int) := by omega
      by_cases h8 : s.length ≤ 8
      · have h8' : (s.length : Int) ≤ 8 := by omega
        cases hw : words.any (· == s) with
        | true =>
          have hn : nameOk s = false := by
            unfold nameOk
            rw [hw]
            simp
          refine ⟨[], ?_⟩
          have hw' : asStrs [D.str "set", D.str "pay", D.str "stop", D.str "if", D.str "else", D.str "we", D.str "they", D.str "or", D.str "repeat", D.str "pass", D.str "rest", D.str "of", D.str "not", D.str "program"] = some words := asStrs_map words
          simp [-asStrs, f_is_name, fDef, b_is_name, isS, hs, h1', h8', hw', hw, mName, hn]
        | false =>
          have hw' : asStrs [D.str "set", D.str "pay", D.str "stop", D.str "if", D.str "else", D.str "we", D.str "they", D.str "or", D.str "repeat", D.str "pass", D.str "rest", D.str "of", D.str "not", D.str "program"] = some words := asStrs_map words
          cases hc : s.cps.toList with
          | nil =>
            have : s.length = 0 := by
              have : s.cps.toList.length = 0 := by rw [hc]; rfl
              rw [Array.length_toList] at this
              exact this
            omega
          | cons c r =>
            have hx : atI s.cps.toList 0 = some c := by rw [hc]; exact atI_0 c r
            by_cases hl : c ∈ lets
            · have hl' : c ∈ (Str.ofString "abcdefghijklmnopqrstuvwxyz").cps.toList := hl
              have e := lc_pure0 (k := 1) (S := S) (δ := [some (.str s), none]) (xs := signsD s) (e := (fOrV (fOp oIn (fVar 1) (fC (.str "abcdefghijklmnopqrstuvwxyz"))) (fOp oIn (fVar 1) (fC (.str "0123456789")))))
                (g := fun x => match x with | .str s => .bl (match s.cps.toList with | [c] => decide (c ∈ lets) || decide (c ∈ digs) | _ => false) | _ => .non) (sgl s h) (fun x hx S => by
                  obtain ⟨c, _, rfl⟩ := List.mem_map.mp hx
                  by_cases hc : c ∈ lets
                  · have hc' : c ∈ (Str.ofString "abcdefghijklmnopqrstuvwxyz").cps.toList := hc
                    simp [-Array.mem_toList_iff, hc', hc]
                  · have hc' : ¬ c ∈ (Str.ofString "abcdefghijklmnopqrstuvwxyz").cps.toList := hc
                    by_cases hd : c ∈ digs
                    · have hd' : c ∈ (Str.ofString "0123456789").cps.toList := hd
                      simp [-Array.mem_toList_iff, hc', hc, hd, hd']
                    · have hd' : ¬ c ∈ (Str.ofString "0123456789").cps.toList := hd
                      simp [-Array.mem_toList_iff, hc', hc, hd, hd'])
              rw [sg_all] at e
              refine ⟨[.lst ((s.cps.toList.map fun c => decide (c ∈ lets) || decide (c ∈ digs)).map D.bl)], ?_⟩
              have hn : nameOk s = s.cps.toList.all fun c => decide (c ∈ lets) || decide (c ∈ digs) := by
                unfold nameOk
                rw [hw, hc]
                simp [h1, h8, hl]
              have hb := asBls_map (s.cps.toList.map fun c => decide (c ∈ lets) || decide (c ∈ digs))
              simp [-asStrs, -asBls, -List.map_map, -Array.mem_toList_iff, f_is_name, fDef, b_is_name, isS, hs, h1', h8', hw', hw, mName, hn, hx, hl', e, hb]
              try (rw [List.all_map]; rfl)
            · have hl' : ¬ c ∈ (Str.ofString "abcdefghijklmnopqrstuvwxyz").cps.toList := hl
              refine ⟨[], ?_⟩
              have hn : nameOk s = false := by
                unfold nameOk
                rw [hc]
                simp [hl]
              simp [-asStrs, -Array.mem_toList_iff, f_is_name, fDef, b_is_name, isS, hs, h1', h8', hw', hw, mName, hn, hx, hl']
      · refine ⟨[], ?_⟩
        have h8' : ¬ (s.length : Int) ≤ 8 := by omega
        have hn : nameOk s = false := by unfold nameOk; simp [h8]
        simp [f_is_name, fDef, b_is_name, isS, hs, h1', h8', mName, hn]
    · refine ⟨[], ?_⟩
      have h1' : ¬ (1 : Int) ≤ (s.length : Int) := by omega
      have hn : nameOk s = false := by unfold nameOk; simp [h1]
      simp [f_is_name, fDef, b_is_name, isS, hs, h1', mName, hn]
  | _ => exact ⟨[], by simp [-tyD, f_is_name, fDef, b_is_name, h3, isS, mName]⟩
/-! ### forms -/
def mForm (forms : List (Str × Int)) : D → Bool
  | .tup (x :: r) => forms.any fun y => hEqD y.1 x && y.2 == ((r.length : Int) + 1)
  | _ => false
theorem hok_of {S : Sto} {d : D} (h : vD S.length d) : hOkD S d = true := by
  cases d with
  | loc i => rw [vD] at h; simp [h]
  | scr _ => rw [vD] at h; exact h.elim
  | _ => rfl
theorem has_form_ok {S : Sto} {d : D} {fs : List D} {forms : List (Str × Int)} (hf : asPrs fs = some forms) (h : vD S.length d) : f_has_form [d, .tup fs] S = some (.bl (mForm forms d), S) := by
  obtain ⟨-, -, -, h4⟩ := kt h
  cases d with
  | tup ds =>
    cases ds with
    | nil => simp [f_has_form, fDef, b_has_form, mForm]
    | cons x r =>
      rw [vD, vA] at h
      have hk := hok_of h.2.1
      have e0 : (0 : Int) < (r.length : Int) + 1 := by omega
      simp [-hOkD, -hEqD, f_has_form, fDef, b_has_form, mForm, hk, hf, e0]
  | _ => simp [-tyD, f_has_form, fDef, b_has_form, h4, isT, mForm]
/-! ### expressions -/
def fE : List (Str × Int) := [("plus", 3), ("minus", 3), ("times", 3)]
def fT : List (Str × Int) := [("less", 3), ("rest", 4), ("not", 2)]
def fS : List (Str × Int) := [("set", 3), ("pay", 2), ("if", 4), ("we", 3), ("they", 3), ("repeat", 3), ("stop", 1)]
def mExpr : Nat → D → Bool
  | 0, _ => false
  | n + 1, d => mWithin (-99) 99 d || mName d || (match d with
    | .tup [.str w, a, b] => if w = Str.ofString "times" then mExpr n b && mWithin (-9) 9 a else if w = Str.ofString "plus" ∨ w = Str.ofString "minus" then mExpr n b && mExpr n a else false
    | _ => false)
theorem len2 {α : Type} : ∀ {l : List α}, l.length = 2 → ∃ a b, l = [a, b]
  | [a, b], _ => ⟨a, b, rfl⟩
  | [], h => by cases h
  | [_], h => by cases h
  | _ :: _ :: _ :: _, h => by simp at h
theorem form3 {d : D} (h : mForm fE d = true) : ∃ w a b, d = .tup [.str w, a, b] ∧ (w = Str.ofString "plus" ∨ w = Str.ofString "minus" ∨ w = Str.ofString "times") := by
  unfold mForm fE at h
  split at h
  · rename_i x r
    simp at h
    have hr : r.length = 2 := by omega
    obtain ⟨a, b, rfl⟩ := len2 hr
    cases x with
    | str w =>
      simp at h
      refine ⟨w, a, b, rfl, ?_⟩
      rcases h with h | h | h
      · exact .inl h.symm
      · exact .inr (.inl h.symm)
      · exact .inr (.inr h.symm)
    | _ => simp at h
  · cases h
theorem mExpr_no {n : Nat} {d : D} (h1 : mWithin (-99) 99 d = false) (h2 : mName d = false) (h3 : mForm fE d = false) : mExpr (n + 1) d = false := by
  by_cases hx : ∃ w a b, d = .tup [.str w, a, b]
  · obtain ⟨w, a, b, rfl⟩ := hx
    simp [mForm, fE] at h3
    have a1 : ¬ w = Str.ofString "times" := fun e => h3.2.2 e.symm
    have a2 : ¬ (w = Str.ofString "plus" ∨ w = Str.ofString "minus") := fun e => e.elim (fun e => h3.1 e.symm) (fun e => h3.2.1 e.symm)
    rw [mExpr, h1, h2]
    simp only [Bool.or_self, Bool.false_or]
    rw [if_neg a1, if_neg a2]
  · rw [mExpr, h1, h2]
    · rfl
    · exact fun w a b e => hx ⟨w, a, b, e⟩
theorem is_expression_ok : ∀ (n : Nat) (d : D) (S : Sto), vD S.length d → ∃ z, f_is_expression (n + 1) [d, .int (n : Int)] S = some (.bl (mExpr n d), S ++ z)
  | 0, d, S, h => ⟨[], by simp [f_is_expression, fDef, b_is_expression, mExpr]⟩
  | n + 1, d, S, h => by
    have n1 : ¬ ((n : Int) + 1 = 0) := by omega
    have w1 := is_within_ok (lo := -99) (hi := 99) h
    cases hw : mWithin (-99) 99 d with
    | true =>
      refine ⟨[], ?_⟩
      rw [f_is_expression]
      simp [fDef, b_is_expression, n1, w1, hw, mExpr]
    | false =>
      obtain ⟨z1, e1⟩ := is_name_ok h
      cases hn : mName d with
      | true =>
        refine ⟨z1, ?_⟩
        rw [f_is_expression]
        simp [fDef, b_is_expression, n1, w1, hw, e1, hn, mExpr]
      | false =>
        have hf := has_form_ok (fs := [.tup [.str "plus", .int 3], .tup [.str "minus", .int 3], .tup [.str "times", .int 3]]) (forms := fE) rfl (vD_app (z := z1) h)
        cases hm : mForm fE d with
        | false =>
          refine ⟨z1, ?_⟩
          rw [f_is_expression, mExpr_no hw hn hm]
          simp [fDef, b_is_expression, n1, w1, hw, e1, hn, hf, hm]
        | true =>
          obtain ⟨w, a, b, rfl, hw3⟩ := form3 hm
          rw [vD, vA, vA, vA] at h
          obtain ⟨-, -, ha, hb, -⟩ := h
          obtain ⟨z2, e2⟩ := is_expression_ok n b (S ++ z1) (vD_app hb)
          cases hb' : mExpr n b with
          | false =>
            refine ⟨z1 ++ z2, ?_⟩
            have : mExpr (n + 1) (.tup [.str w, a, b]) = false := by rw [mExpr, hw, hn]; simp [hb']
            rw [f_is_expression, this]
            simp [fDef, b_is_expression, n1, w1, hw, e1, hn, hf, hm, e2, hb']
          | true =>
            by_cases ht : w = Str.ofString "times"
            · subst ht
              have w2 := is_within_ok (lo := -9) (hi := 9) (vD_app (z := z2) (vD_app (z := z1) ha))
              refine ⟨z1 ++ z2, ?_⟩
              have : mExpr (n + 1) (.tup [.str (Str.ofString "times"), a, b]) = mWithin (-9) 9 a := by rw [mExpr, hw, hn]; simp [hb']
              rw [f_is_expression, this]
              rw [List.append_assoc] at w2
              simp [fDef, b_is_expression, n1, w1, hw, e1, hn, hf, hm, e2, hb', w2]
            · obtain ⟨z3, e3⟩ := is_expression_ok n a (S ++ z1 ++ z2) (vD_app (vD_app ha))
              refine ⟨z1 ++ z2 ++ z3, ?_⟩
              have hpm : w = Str.ofString "plus" ∨ w = Str.ofString "minus" := by
                rcases hw3 with h | h | h
                · exact .inl h
                · exact .inr h
                · exact absurd h ht
              have : mExpr (n + 1) (.tup [.str w, a, b]) = mExpr n a := by rw [mExpr, hw, hn]; simp only [Bool.or_self, Bool.false_or]; rw [if_neg ht, if_pos hpm, hb']; rfl
              rw [f_is_expression, this]
              rw [List.append_assoc] at e3
              simp [fDef, b_is_expression, n1, w1, hw, e1, hn, hf, hm, e2, hb', ht, e3]
end PE

set_option Elab.async false
set_option linter.all false
set_option maxRecDepth 100000
set_option maxHeartbeats 1000000
namespace PE
open PySem L2 DL PG
/-! ### tests -/
noncomputable def f_is_test : Nat → Fn
  | 0 => fun _ _ => none
  | k + 1 => fDef 2 2 (b_is_test f_is_within (f_is_expression 4) (f_is_test k) f_has_form)
def mT0 : D → Bool
  | .tup [.str w, a, b] => decide (w = Str.ofString "less") && (mExpr 3 a && mExpr 3 b)
  | .tup [.str w, a, b, c] => decide (w = Str.ofString "rest") && (mExpr 3 a && (match b with | .int k => mWithin 2 6 b && mWithin 0 (k - 1) c | _ => false))
  | _ => false
def mTest : Nat → D → Bool
  | 0, d => mT0 d
  | n + 1, d => mT0 d || (match d with
    | .tup [.str w, a] => decide (w = Str.ofString "not") && mTest n a
    | _ => false)
theorem expr3 {S : Sto} {d : D} (h : vD S.length d) : ∃ z, f_is_expression 4 [d, .int 3] S = some (.bl (mExpr 3 d), S ++ z) := is_expression_ok 3 d S h
theorem formT {d : D} (h : mForm fT d = true) : (∃ a b, d = .tup [.str (Str.ofString "less"), a, b]) ∨ (∃ a b c, d = .tup [.str (Str.ofString "rest"), a, b, c]) ∨ ∃ a, d = .tup [.str (Str.ofString "not"), a] := by
  unfold mForm fT at h
  split at h
  · rename_i x r
    cases x with
    | str w =>
      simp at h
      rcases h with ⟨rfl, h⟩ | ⟨rfl, h⟩ | ⟨rfl, h⟩
      · match r, h with
        | [a, b], _ => exact .inl ⟨a, b, rfl⟩
        | [], h => simp at h
        | [_], h => simp at h
        | _ :: _ :: _ :: _, h => simp at h; omega
      · match r, h with
        | [a, b, c], _ => exact .inr (.inl ⟨a, b, c, rfl⟩)
        | [], h => simp at h
        | [_], h => simp at h
        | [_, _], h => simp at h
        | _ :: _ :: _ :: _ :: _, h => simp at h; omega
      · match r, h with
        | [a], _ => exact .inr (.inr ⟨a, rfl⟩)
        | [], h => simp at h
        | _ :: _ :: _, h => simp at h; omega
    | _ => simp at h
  · cases h
theorem mT0_form {d : D} (h : mT0 d = true) : mForm fT d = true := by
  unfold mT0 at h
  split at h
  · simp at h
    simp [mForm, fT, h.1]
  · simp at h
    simp [mForm, fT, h.1]
  · cases h
theorem mTest_form : ∀ {n : Nat} {d : D}, mTest n d = true → mForm fT d = true
  | 0, d, h => mT0_form h
  | n + 1, d, h => by
    cases h0 : mT0 d with
    | true => exact mT0_form h0
    | false =>
      rw [mTest.eq_def] at h
      simp only [h0, Bool.false_or] at h
      split at h
      · simp at h
        simp [mForm, fT, h.1]
      · cases h
theorem mTest_no {n : Nat} {d : D} (h : mForm fT d = false) : mTest n d = false := by
  cases e : mTest n d with
  | false => rfl
  | true => rw [mTest_form e] at h; cases h
theorem mTest_less (n : Nat) (a b : D) : mTest n (.tup [.str (Str.ofString "less"), a, b]) = (mExpr 3 a && mExpr 3 b) := by
  cases n <;> simp [mTest, mT0]
theorem mTest_rest (n : Nat) (a b c : D) : mTest n (.tup [.str (Str.ofString "rest"), a, b, c]) = (mExpr 3 a && (match b with | .int k => mWithin 2 6 b && mWithin 0 (k - 1) c | _ => false)) := by
  cases n <;> simp [mTest, mT0]
theorem mTest_not0 (a : D) : mTest 0 (.tup [.str (Str.ofString "not"), a]) = false := by simp [mTest, mT0]
theorem mTest_not (n : Nat) (a : D) : mTest (n + 1) (.tup [.str (Str.ofString "not"), a]) = mTest n a := by simp [mTest, mT0]
theorem is_test_ok : ∀ (n : Nat) (d : D) (S : Sto), vD S.length d → ∃ z, f_is_test (n + 1) [d, .int (n : Int)] S = some (.bl (mTest n d), S ++ z) := by
  intro n
  induction n with
  | zero =>
    intro d S h
    have hf := has_form_ok (fs := [.tup [.str "less", .int 3], .tup [.str "rest", .int 4], .tup [.str "not", .int 2]]) (forms := fT) rfl h
    cases hm : mForm fT d with
    | false => exact ⟨[], by rw [mTest_no hm, f_is_test]; simp [fDef, b_is_test, hf, hm]⟩
    | true =>
      rcases formT hm with ⟨a, b, rfl⟩ | ⟨a, b, c, rfl⟩ | ⟨a, rfl⟩
      · rw [vD, vA, vA, vA] at h
        obtain ⟨-, -, ha, hb, -⟩ := h
        obtain ⟨z1, e1⟩ := expr3 ha
        cases h1 : mExpr 3 a with
        | false => exact ⟨z1, by rw [mTest_less, h1, f_is_test]; simp [fDef, b_is_test, hf, hm, e1, h1]⟩
        | true =>
          obtain ⟨z2, e2⟩ := expr3 (vD_app (z := z1) hb)
          exact ⟨z1 ++ z2, by rw [mTest_less, h1, f_is_test]; simp [fDef, b_is_test, hf, hm, e1, h1, e2]⟩
      · rw [vD, vA, vA, vA, vA] at h
        obtain ⟨-, -, ha, hb, hc, -⟩ := h
        obtain ⟨z1, e1⟩ := expr3 ha
        cases h1 : mExpr 3 a with
        | false => exact ⟨z1, by rw [mTest_rest, h1, f_is_test]; simp [fDef, b_is_test, hf, hm, e1, h1]⟩
        | true =>
          have w1 := is_within_ok (lo := 2) (hi := 6) (vD_app (z := z1) hb)
          cases b with
          | int k =>
            cases h2 : mWithin 2 6 (.int k) with
            | false => exact ⟨z1, by rw [mTest_rest, h1, f_is_test]; simp [fDef, b_is_test, hf, hm, e1, h1, w1, h2]⟩
            | true =>
              have w2 := is_within_ok (lo := 0) (hi := k - 1) (vD_app (z := z1) hc)
              exact ⟨z1, by rw [mTest_rest, h1, f_is_test]; simp [fDef, b_is_test, hf, hm, e1, h1, w1, h2, w2]⟩
          | _ => exact ⟨z1, by rw [mTest_rest, h1, f_is_test]; simp [fDef, b_is_test, hf, hm, e1, h1, w1, mWithin]⟩
      · exact ⟨[], by rw [mTest_not0, f_is_test]; simp [fDef, b_is_test, hf, hm]⟩
  | succ n ih =>
    intro d S h
    have hf := has_form_ok (fs := [.tup [.str "less", .int 3], .tup [.str "rest", .int 4], .tup [.str "not", .int 2]]) (forms := fT) rfl h
    cases hm : mForm fT d with
    | false => exact ⟨[], by rw [mTest_no hm, f_is_test]; simp [fDef, b_is_test, hf, hm]⟩
    | true =>
      rcases formT hm with ⟨a, b, rfl⟩ | ⟨a, b, c, rfl⟩ | ⟨a, rfl⟩
      · rw [vD, vA, vA, vA] at h
        obtain ⟨-, -, ha, hb, -⟩ := h
        obtain ⟨z1, e1⟩ := expr3 ha
        cases h1 : mExpr 3 a with
        | false => exact ⟨z1, by rw [mTest_less, h1, f_is_test]; simp [fDef, b_is_test, hf, hm, e1, h1]⟩
        | true =>
          obtain ⟨z2, e2⟩ := expr3 (vD_app (z := z1) hb)
          exact ⟨z1 ++ z2, by rw [mTest_less, h1, f_is_test]; simp [fDef, b_is_test, hf, hm, e1, h1, e2]⟩
      · rw [vD, vA, vA, vA, vA] at h
        obtain ⟨-, -, ha, hb, hc, -⟩ := h
        obtain ⟨z1, e1⟩ := expr3 ha
        cases h1 : mExpr 3 a with
        | false => exact ⟨z1, by rw [mTest_rest, h1, f_is_test]; simp [fDef, b_is_test, hf, hm, e1, h1]⟩
        | true =>
          have w1 := is_within_ok (lo := 2) (hi := 6) (vD_app (z := z1) hb)
          cases b with
          | int k =>
            cases h2 : mWithin 2 6 (.int k) with
            | false => exact ⟨z1, by rw [mTest_rest, h1, f_is_test]; simp [fDef, b_is_test, hf, hm, e1, h1, w1, h2]⟩
            | true =>
              have w2 := is_within_ok (lo := 0) (hi := k - 1) (vD_app (z := z1) hc)
              exact ⟨z1, by rw [mTest_rest, h1, f_is_test]; simp [fDef, b_is_test, hf, hm, e1, h1, w1, h2, w2]⟩
          | _ => exact ⟨z1, by rw [mTest_rest, h1, f_is_test]; simp [fDef, b_is_test, hf, hm, e1, h1, w1, mWithin]⟩
      · rw [vD, vA, vA] at h
        obtain ⟨-, -, ha, -⟩ := h
        obtain ⟨z1, e1⟩ := ih a S ha
        have n0 : (0 : Int) < (n : Int) + 1 := by omega
        exact ⟨z1, by rw [mTest_not, f_is_test]; simp [fDef, b_is_test, hf, hm, n0, e1]⟩
/-! ### statements -/
noncomputable def f_blocks_of : Fn := fDef 1 1 b_blocks_of
noncomputable def f_is_statement : Fn := fDef 1 2 (b_is_statement f_blocks_of f_is_within (f_is_test 3) (f_is_expression 4) f_is_name f_has_form)
/-- the shapes of statements -/
inductive Shp : D → List D → Bool → Prop
  | stop : Shp (.tup [.str (Str.ofString "stop")]) [] true
  | pay (a : D) : Shp (.tup [.str (Str.ofString "pay"), a]) [] (mExpr 3 a)
  | set (a b : D) : Shp (.tup [.str (Str.ofString "set"), a, b]) [] (mName a && mExpr 3 b)
  | we (a b : D) : Shp (.tup [.str (Str.ofString "we"), a, b]) [a, b] (isT a && isT b)
  | they (a b : D) : Shp (.tup [.str (Str.ofString "they"), a, b]) [a, b] (isT a && isT b)
  | rep (a b : D) : Shp (.tup [.str (Str.ofString "repeat"), a, b]) [b] (mWithin 1 8 a && isT b)
  | iff (a b c : D) : Shp (.tup [.str (Str.ofString "if"), a, b, c]) [b, c] (mTest 2 a && (isT b && isT c))
theorem formS {d : D} (h : mForm fS d = true) : ∃ bs k, Shp d bs k := by
  unfold mForm fS at h
  split at h
  · rename_i x r
    cases x with
    | str w =>
      simp at h
      rcases h with ⟨rfl, h⟩ | ⟨rfl, h⟩ | ⟨rfl, h⟩ | ⟨rfl, h⟩ | ⟨rfl, h⟩ | ⟨rfl, h⟩ | ⟨rfl, h⟩
      · match r, h with
        | [a, b], _ => exact ⟨_, _, .set a b⟩
        | [], h => simp at h
        | [_], h => simp at h
        | _ :: _ :: _ :: _, h => simp at h; omega
      · match r, h with
        | [a], _ => exact ⟨_, _, .pay a⟩
        | [], h => simp at h
        | _ :: _ :: _, h => simp at h; omega
      · match r, h with
        | [a, b, c], _ => exact ⟨_, _, .iff a b c⟩
        | [], h => simp at h
        | [_], h => simp at h
        | [_, _], h => simp at h
        | _ :: _ :: _ :: _ :: _, h => simp at h; omega
      · match r, h with
        | [a, b], _ => exact ⟨_, _, .we a b⟩
        | [], h => simp at h
        | [_], h => simp at h
        | _ :: _ :: _ :: _, h => simp at h; omega
      · match r, h with
        | [a, b], _ => exact ⟨_, _, .they a b⟩
        | [], h => simp at h
        | [_], h => simp at h
        | _ :: _ :: _ :: _, h => simp at h; omega
      · match r, h with
        | [a, b], _ => exact ⟨_, _, .rep a b⟩
        | [], h => simp at h
        | [_], h => simp at h
        | _ :: _ :: _ :: _, h => simp at h; omega
      · match r, h with
        | [], _ => exact ⟨_, _, .stop⟩
        | _ :: _, h => simp at h; omega
    | _ => simp at h
  · cases h
theorem Shp.form {d : D} {bs : List D} {k : Bool} (h : Shp d bs k) : mForm fS d = true := by
  cases h <;> simp [mForm, fS]
/-- a statement, whatever is in its blocks; its blocks -/
def mSt (d : D) (bs : List D) (k : Bool) : Prop := Shp d bs k ∨ (mForm fS d = false ∧ bs = [] ∧ k = false)
theorem mSt_ex (d : D) : ∃ bs k, mSt d bs k := by
  cases h : mForm fS d with
  | true => obtain ⟨bs, k, s⟩ := formS h; exact ⟨bs, k, .inl s⟩
  | false => exact ⟨[], false, .inr ⟨h, rfl, rfl⟩⟩
theorem sIx_1 (n : Nat) (h : 1 ≤ n) : HT.sIx n 0 (some 1) = 1 := by
  simp [HT.sIx]
  omega
theorem blocks_of_ok {S : Sto} {d : D} {bs : List D} {k : Bool} (h : Shp d bs k) : f_blocks_of [d] S = some (.tup bs, S) := by
  cases h <;> simp [f_blocks_of, fDef, b_blocks_of, cutD, HT.sIx]
end PE

set_option Elab.async false
set_option linter.all false
set_option maxRecDepth 100000
set_option maxHeartbeats 1000000
namespace PE
open PySem L2 DL PG
theorem lc_pureM {k l m : Nat} {e : FE} {g : D → D} : ∀ (xs : List D) (δ : DEnv) (S : Sto) (acc : List D), m ≤ S.length → S[l]? = some (.lst acc) → acc.length + xs.length < 100000 → (∀ x ∈ xs, ∀ S, m ≤ S.length → e (δ.set k (some x)) S = some (g x, S)) →
    lcF none k l fYes e xs δ S = some (.loc l, S.set l (.lst (acc ++ xs.map g)))
  | [], δ, S, acc, _, h, _, _ => by
    have he := (List.getElem?_eq_some_iff.mp h).2
    rw [lcF_nil0, List.map_nil, List.append_nil, ← he, List.set_getElem_self]
  | x :: xs, δ, S, acc, hm, h, hz, he => by
    rw [List.length_cons] at hz
    have hlt : l < S.length := (List.getElem?_eq_some_iff.mp h).1
    have e1 := lc_pureM (m := m) xs δ (S.set l (.lst (acc ++ [g x]))) (acc ++ [g x]) (by rw [List.length_set]; exact hm) (by rw [List.getElem?_set_self hlt]) (by rw [List.length_append, List.length_singleton]; omega) (fun y hy => he y (List.mem_cons_of_mem _ hy))
    rw [List.set_set] at e1
    have ha : acc.length < 100000 := by omega
    simp [he x List.mem_cons_self S hm, h, ha, e1]
theorem lc_pureM0 {k : Nat} {e : FE} {g : D → D} {xs : List D} {δ : DEnv} {S : Sto} (hz : xs.length < 100000) (he : ∀ x ∈ xs, ∀ S', S.length ≤ S'.length → e (δ.set k (some x)) S' = some (g x, S')) :
    lcF none k S.length fYes e xs δ (S ++ [.lst []]) = some (.loc S.length, S ++ [.lst (xs.map g)]) := by
  rw [lc_pureM (m := S.length) xs δ _ [] (by simp) (by simp) (by simpa using hz) he, List.set_append_right (h := Nat.le_refl _)]
  simp
theorem all_tup {S : Sto} {bs : List D} {δ : DEnv} (hδ : 1 < δ.length) (hz : bs.length ≤ 10) (hv : ∀ b ∈ bs, vD S.length b) :
    lcF none 1 S.length fYes (fIsi "tuple" (fVar 1)) bs δ (S ++ [.lst []]) = some (.loc S.length, S ++ [.lst ((bs.map isT).map D.bl)]) := by
  rw [List.map_map]
  refine lc_pureM0 (by omega) (fun x hx S' hS => ?_)
  obtain ⟨-, -, -, h4⟩ := kt (vD_mono hS x (hv x hx))
  simp [-tyD, hδ, h4]
theorem is_statement_ok {S : Sto} {d : D} {bs : List D} {k : Bool} (hv : vD S.length d) (h : mSt d bs k) : ∃ z, f_is_statement [d] S = some (.bl k, S ++ z) := by
  have hf := has_form_ok (fs := [.tup [.str "set", .int 3], .tup [.str "pay", .int 2], .tup [.str "if", .int 4], .tup [.str "we", .int 3], .tup [.str "they", .int 3], .tup [.str "repeat", .int 3], .tup [.str "stop", .int 1]]) (forms := fS) rfl hv
  rcases h with h | ⟨h, rfl, rfl⟩
  · have hm := h.form
    rw [hm] at hf
    have hb := fun S => blocks_of_ok (S := S) h
    cases h with
    | stop =>
      have e := all_tup (S := S) (bs := []) (δ := [some (.tup [.str (Str.ofString "stop")]), none]) (by simp) (by simp) (fun b h => absurd h List.not_mem_nil)
      simp at e
      exact ⟨_, by simp [f_is_statement, fDef, b_is_statement, hf, hb]; rfl⟩
    | pay a =>
      rw [vD, vA, vA] at hv
      obtain ⟨z, e⟩ := expr3 hv.2.2.1
      exact ⟨z, by simp [f_is_statement, fDef, b_is_statement, hf, e]⟩
    | set a b =>
      rw [vD, vA, vA, vA] at hv
      obtain ⟨z, e⟩ := is_name_ok hv.2.2.1
      cases ha : mName a with
      | false => exact ⟨z, by simp [f_is_statement, fDef, b_is_statement, hf, e, ha]⟩
      | true =>
        obtain ⟨z2, e2⟩ := expr3 (vD_app (z := z) hv.2.2.2.1)
        exact ⟨z ++ z2, by simp [f_is_statement, fDef, b_is_statement, hf, e, ha, e2]⟩
    | we a b =>
      rw [vD, vA, vA, vA] at hv
      have e := all_tup (S := S) (bs := [a, b]) (δ := [some (.tup [.str (Str.ofString "we"), a, b]), none]) (by simp) (by simp) (fun x h => by simp at h; rcases h with rfl | rfl; exact hv.2.2.1; exact hv.2.2.2.1)
      exact ⟨_, by simp [-lcF_cons0, f_is_statement, fDef, b_is_statement, hf, hb, e]; rfl⟩
    | they a b =>
      rw [vD, vA, vA, vA] at hv
      have e := all_tup (S := S) (bs := [a, b]) (δ := [some (.tup [.str (Str.ofString "they"), a, b]), none]) (by simp) (by simp) (fun x h => by simp at h; rcases h with rfl | rfl; exact hv.2.2.1; exact hv.2.2.2.1)
      exact ⟨_, by simp [-lcF_cons0, f_is_statement, fDef, b_is_statement, hf, hb, e]; rfl⟩
    | rep a b =>
      rw [vD, vA, vA, vA] at hv
      have w1 := is_within_ok (lo := 1) (hi := 8) hv.2.2.1
      cases hw : mWithin 1 8 a with
      | false => exact ⟨[], by simp [f_is_statement, fDef, b_is_statement, hf, w1, hw]⟩
      | true =>
        have e := all_tup (S := S) (bs := [b]) (δ := [some (.tup [.str (Str.ofString "repeat"), a, b]), none]) (by simp) (by simp) (fun x h => by simp at h; rw [h]; exact hv.2.2.2.1)
        exact ⟨_, by simp [-lcF_cons0, f_is_statement, fDef, b_is_statement, hf, hb, w1, hw, e]; rfl⟩
    | iff a b c =>
      rw [vD, vA, vA, vA, vA] at hv
      obtain ⟨z, e1⟩ := is_test_ok 2 a S hv.2.2.1
      have e1 : f_is_test 3 [a, .int 2] S = some (.bl (mTest 2 a), S ++ z) := e1
      cases hw : mTest 2 a with
      | false => exact ⟨z, by simp [f_is_statement, fDef, b_is_statement, hf, e1, hw]⟩
      | true =>
        have e := all_tup (S := S ++ z) (bs := [b, c]) (δ := [some (.tup [.str (Str.ofString "if"), a, b, c]), none]) (by simp) (by simp) (fun x h => by simp at h; rcases h with rfl | rfl; exact vD_app hv.2.2.2.1; exact vD_app hv.2.2.2.2.1)
        have e' : (S ++ z).length = S.length + z.length := by simp
        rw [e', List.append_assoc, List.append_assoc] at e
        have hx : (S ++ (z ++ [Ob.lst (([b, c].map isT).map D.bl)]))[S.length + z.length]? = some (.lst (([b, c].map isT).map D.bl)) := by
          rw [← List.append_assoc, List.getElem?_append_right (by simp)]
          simp
        simp only [List.map] at hx e
        exact ⟨z ++ [.lst (([b, c].map isT).map D.bl)], by simp [-lcF_cons0, f_is_statement, fDef, b_is_statement, hf, hb, e1, hw, e]⟩
  · exact ⟨[], by simp [f_is_statement, fDef, b_is_statement, hf, h]⟩
/-! ### the first fault -/
theorem Shp.det {d : D} {bs bs' : List D} {k k' : Bool} (h : Shp d bs k) (h' : Shp d bs' k') : bs = bs' ∧ k = k' := by
  cases h <;> cases h' <;> first | exact ⟨rfl, rfl⟩ | (rename_i e; simp at e)
theorem mSt_det {d : D} {bs bs' : List D} {k k' : Bool} (h : mSt d bs k) (h' : mSt d bs' k') : bs = bs' ∧ k = k' := by
  rcases h with h | ⟨h, rfl, rfl⟩ <;> rcases h' with h' | ⟨h', rfl, rfl⟩
  · exact h.det h'
  · rw [h.form] at h'; cases h'
  · rw [h'.form] at h; cases h
  · exact ⟨rfl, rfl⟩
noncomputable def stB (d : D) : List D := (mSt_ex d).choose
noncomputable def stK (d : D) : Bool := (mSt_ex d).choose_spec.choose
theorem st_spec (d : D) : mSt d (stB d) (stK d) := (mSt_ex d).choose_spec.choose_spec
theorem st_eq {d : D} {bs : List D} {k : Bool} (h : mSt d bs k) : stB d = bs ∧ stK d = k := mSt_det (st_spec d) h
def items : D → List D
  | .tup ds => ds
  | _ => []
theorem Shp.tups {d : D} {bs : List D} {k : Bool} (h : Shp d bs k) (hk : k = true) : ∀ b ∈ bs, isT b = true := by
  cases h <;> simp_all
theorem Shp.vs {d : D} {bs : List D} {k : Bool} {m : Nat} (h : Shp d bs k) (hv : vD m d) : (∀ b ∈ bs, vD m b) ∧ bs.length ≤ 2 := by
  cases h <;> simp only [vD, vA] at hv <;> simp_all
theorem isT_tup {d : D} (h : isT d = true) : d = .tup (items d) := by
  cases d <;> simp_all [isT, items]
def mFs (F : List D → Int → Int × Option Str) : List D → Int → Int × Option Str
  | [], p => (p, none)
  | b :: bs, p => match F (items b) p with
    | (p', some w) => (p', some w)
    | (p', none) => mFs F bs p'
noncomputable def mFl (F : List D → Int → Int × Option Str) : List D → Int → Int × Option Str
  | [], p => (p, none)
  | x :: r, p => if stK x = true then (match mFs F (stB x) (p + 1) with
      | (p', some w) => (p', some w)
      | (p', none) => mFl F r p') else (p, some "statement")
noncomputable def mF : Nat → List D → Int → Int × Option Str
  | 0, ds, p => match ds with
    | [] => (p, none)
    | _ :: _ => (p, some "nest")
  | k + 1, ds, p => mFl (mF k) ds p
def fD : Int × Option Str → D
  | (p, none) => .tup [.int p, .non]
  | (p, some w) => .tup [.int p, .str w]
noncomputable def f_fault_in : Nat → Fn
  | 0 => fun _ _ => none
  | k + 1 => fDef 3 6 (b_fault_in f_blocks_of (f_fault_in k) f_is_statement)
noncomputable abbrev faultT (f : Fn) : FS := (fsSeq (fsAsg (fCall f (fCons (fVar 4) (fCons (fVar 1) (fCons (fOp oAdd (fVar 2) (fC (.int 1))) fNil)))) (fg2 (fgName 1) (fgName 5)))
    (fsIf (fTest (fOp (oIs not) (fVar 5) (fC .non))) (fsRet (fTup (fCons (fVar 1) (fCons (fVar 5) fNil)))) fsNext))
def FaultOk (f : Fn) (F : List D → Int → Int × Option Str) (d : Int) : Prop := ∀ (ds : List D) (p : Int) (S : Sto), vD S.length (.tup ds) → ∃ z, f [.tup ds, .int p, .int d] S = some (fD (F ds p), S ++ z)
theorem fault_inner {f : Fn} {F : List D → Int → Int × Option Str} {d : Int} (hf : FaultOk f F (d + 1)) {b0 y3 : Option D} : ∀ (bs : List D) (p : Int) (S : Sto) (x4 x5 : Option D), (∀ b ∈ bs, vD S.length b ∧ isT b = true) →
    match mFs F bs p with
    | (p', some w) => ∃ z, forF none (fgName 4) (faultT f) bs [b0, some (.int p), some (.int d), y3, x4, x5] S = some (.rt (.tup [.int p', .str w]), S ++ z)
    | (p', none) => ∃ z x4' x5', forF none (fgName 4) (faultT f) bs [b0, some (.int p), some (.int d), y3, x4, x5] S = some (.nx [b0, some (.int p'), some (.int d), y3, x4', x5'], S ++ z)
  | [], p, S, x4, x5, h => ⟨[], x4, x5, by simp⟩
  | b :: bs, p, S, x4, x5, h => by
    obtain ⟨hb, ht⟩ := h b List.mem_cons_self
    have eb := isT_tup ht
    rw [eb] at hb
    obtain ⟨z, e⟩ := hf (items b) p S hb
    rw [mFs]
    rw [← eb] at e
    cases hF : F (items b) p with
    | mk p1 o =>
      rw [hF] at e
      cases o with
      | some w =>
        refine ⟨z, ?_⟩
        simp [e, fD]
      | none =>
        have ih := fault_inner hf (b0 := b0) (y3 := y3) bs p1 (S ++ z) (some b) (some .non) (fun x hx => ⟨vD_app (h x (List.mem_cons_of_mem _ hx)).1, (h x (List.mem_cons_of_mem _ hx)).2⟩)
        show match mFs F bs p1 with | (p', some w) => _ | (p', none) => _
        cases hM : mFs F bs p1 with
        | mk p2 o2 =>
          rw [hM] at ih
          cases o2 with
          | some w =>
            obtain ⟨z2, e2⟩ := ih
            exact ⟨z ++ z2, by simp [e, fD, e2]⟩
          | none =>
            obtain ⟨z2, x4', x5', e2⟩ := ih
            exact ⟨z ++ z2, x4', x5', by simp [e, fD, e2]⟩
end PE

set_option Elab.async false
set_option linter.all false
set_option maxRecDepth 100000
set_option maxHeartbeats 1000000
namespace PE
open PySem L2 DL PG
noncomputable abbrev faultO (f : Fn) : FS := (fsSeq (fsIf (fTest (fOp (oI0 fun i j => .bl (decide (j < i))) (fVar 2) (fC (.int 3)))) (fsRet (fTup (fCons (fVar 1) (fCons (fC (.str "nest")) fNil)))) fsNext)
    (fsSeq (fsIf (fNot (fTest (fCall f_is_statement (fCons (fVar 3) fNil)))) (fsRet (fTup (fCons (fVar 1) (fCons (fC (.str "statement")) fNil)))) fsNext)
    (fsSeq (fsAugI 1 (fun i j => i + j) (fC (.int 1)))
    (fsFor (fiAny (fCall f_blocks_of (fCons (fVar 3) fNil))) (fgName 4) (faultT f)))))
theorem fault_outer {f : Fn} {F : List D → Int → Int × Option Str} {d : Int} (hd : ¬ 3 < d) (hf : FaultOk f F (d + 1)) {b0 : Option D} : ∀ (ds : List D) (p : Int) (S : Sto) (x3 x4 x5 : Option D), vA S.length ds →
    match mFl F ds p with
    | (p', some w) => ∃ z, forF none (fgName 3) (faultO f) ds [b0, some (.int p), some (.int d), x3, x4, x5] S = some (.rt (.tup [.int p', .str w]), S ++ z)
    | (p', none) => ∃ z x3' x4' x5', forF none (fgName 3) (faultO f) ds [b0, some (.int p), some (.int d), x3, x4, x5] S = some (.nx [b0, some (.int p'), some (.int d), x3', x4', x5'], S ++ z)
  | [], p, S, x3, x4, x5, h => ⟨[], x3, x4, x5, by simp⟩
  | x :: r, p, S, x3, x4, x5, h => by
    rw [vA] at h
    obtain ⟨hx, hr⟩ := h
    have sp := st_spec x
    obtain ⟨z, e⟩ := is_statement_ok hx sp
    rw [mFl]
    cases hk : stK x with
    | false =>
      rw [hk] at e
      rw [if_neg (by decide)]
      exact ⟨z, by simp [hd, e]⟩
    | true =>
      rw [hk] at e
      rw [if_pos rfl]
      have sh : Shp x (stB x) (stK x) := by
        rcases sp with h | ⟨_, _, h⟩
        · exact h
        · rw [hk] at h; cases h
      have hb := blocks_of_ok (S := S ++ z) sh
      have hv := (sh.vs hx).1
      have ht := sh.tups hk
      have ih := fault_inner hf (b0 := b0) (y3 := some x) (stB x) (p + 1) (S ++ z) x4 x5 (fun b h => ⟨vD_app (hv b h), ht b h⟩)
      cases hM : mFs F (stB x) (p + 1) with
      | mk p1 o =>
        rw [hM] at ih
        cases o with
        | some w =>
          obtain ⟨z2, e2⟩ := ih
          exact ⟨z ++ z2, by simp [hd, e, hb, e2]⟩
        | none =>
          obtain ⟨z2, x4', x5', e2⟩ := ih
          have ih2 := fault_outer hd hf (b0 := b0) r p1 (S ++ z ++ z2) (some x) x4' x5' (vA_mono (by simp) r hr)
          show match mFl F r p1 with | (p', some w) => _ | (p', none) => _
          cases hM2 : mFl F r p1 with
          | mk p2 o2 =>
            rw [hM2] at ih2
            cases o2 with
            | some w =>
              obtain ⟨z3, e3⟩ := ih2
              rw [List.append_assoc] at e3
              exact ⟨z ++ z2 ++ z3, by simp [hd, e, hb, e2, e3]⟩
            | none =>
              obtain ⟨z3, a3, a4, a5, e3⟩ := ih2
              rw [List.append_assoc] at e3
              exact ⟨z ++ z2 ++ z3, a3, a4, a5, by simp [hd, e, hb, e2, e3]⟩
theorem fault_in_ok : ∀ (k : Nat), k ≤ 4 → FaultOk (f_fault_in (k + 1)) (mF k) (4 - (k : Int))
  | 0, _, ds, p, S, h => by
    cases ds with
    | nil => exact ⟨[], by simp [f_fault_in, fDef, b_fault_in, mF, fD]⟩
    | cons x r => exact ⟨[], by simp [f_fault_in, fDef, b_fault_in, mF, fD]⟩
  | k + 1, hk, ds, p, S, h => by
    have ih := fault_in_ok k (by omega)
    have e4 : (4 : Int) - ((k + 1 : Nat) : Int) + 1 = 4 - (k : Int) := by omega
    rw [← e4] at ih
    have hd : ¬ 3 < (4 : Int) - ((k + 1 : Nat) : Int) := by omega
    rw [vD] at h
    have o := fault_outer hd ih (b0 := some (.tup ds)) ds p S none none none h.2
    rw [mF]
    simp at o
    cases hM : mFl (mF k) ds p with
    | mk p1 w =>
      rw [hM] at o
      cases w with
      | some w =>
        obtain ⟨z, e⟩ := o
        exact ⟨z, by rw [f_fault_in]; simp [fDef, b_fault_in, e, fD]⟩
      | none =>
        obtain ⟨z, a3, a4, a5, e⟩ := o
        exact ⟨z, by rw [f_fault_in]; simp [fDef, b_fault_in, e, fD]⟩
/-! ### without a fault it is a program, but for the bounds -/
theorem within_int {lo hi : Int} {d : D} (h : mWithin lo hi d = true) : ∃ i, d = .int i ∧ lo ≤ i ∧ i ≤ hi := by
  cases d <;> simp_all [mWithin]
theorem ex_of : ∀ (n : Nat) (d : D), mExpr n d = true → ∃ e : Ex, d = e.d ∧ e.ok n
  | 0, d, h => by simp [mExpr] at h
  | n + 1, d, h => by
    cases hw : mWithin (-99) 99 d with
    | true =>
      obtain ⟨i, rfl, h1, h2⟩ := within_int hw
      exact ⟨.int i, rfl, by simp only [Ex.ok]; omega⟩
    | false =>
      cases hn : mName d with
      | true =>
        cases d with
        | str s => exact ⟨.nm s, rfl, by simp only [Ex.ok]; exact ⟨by omega, hn⟩⟩
        | _ => simp [mName] at hn
      | false =>
        cases hf : mForm fE d with
        | false => rw [mExpr_no hw hn hf] at h; cases h
        | true =>
          obtain ⟨w, a, b, rfl, hw3⟩ := form3 hf
          rw [mExpr, hw, hn] at h
          simp only [Bool.or_self, Bool.false_or] at h
          by_cases ht : w = Str.ofString "times"
          · rw [if_pos ht] at h
            simp at h
            obtain ⟨e, rfl, oe⟩ := ex_of n b h.1
            obtain ⟨i, rfl, h1, h2⟩ := within_int h.2
            refine ⟨.times i e, by rw [ht]; rfl, by simp only [Ex.ok]; exact ⟨by omega, h1, h2, oe⟩⟩
          · rw [if_neg ht] at h
            have hpm : w = Str.ofString "plus" ∨ w = Str.ofString "minus" := by
              rcases hw3 with h | h | h
              · exact .inl h
              · exact .inr h
              · exact absurd h ht
            rw [if_pos hpm] at h
            simp at h
            obtain ⟨e, rfl, oe⟩ := ex_of n b h.1
            obtain ⟨e2, rfl, oe2⟩ := ex_of n a h.2
            rcases hpm with rfl | rfl
            · exact ⟨.plus e2 e, rfl, by simp only [Ex.ok]; exact ⟨by omega, oe2, oe⟩⟩
            · exact ⟨.minus e2 e, rfl, by simp only [Ex.ok]; exact ⟨by omega, oe2, oe⟩⟩
theorem te_of : ∀ (n : Nat) (d : D), mTest n d = true → ∃ t : Te, d = t.d ∧ t.ok n := by
  have base : ∀ (n : Nat) (d : D), mT0 d = true → ∃ t : Te, d = t.d ∧ t.ok n := by
    intro n d h
    rcases formT (mT0_form h) with ⟨a, b, rfl⟩ | ⟨a, b, c, rfl⟩ | ⟨a, rfl⟩
    · simp [mT0] at h
      obtain ⟨e, rfl, oe⟩ := ex_of 3 a h.1
      obtain ⟨e2, rfl, oe2⟩ := ex_of 3 b h.2
      exact ⟨.less e e2, rfl, oe, oe2⟩
    · simp [mT0] at h
      obtain ⟨e, rfl, oe⟩ := ex_of 3 a h.1
      cases b with
      | int k =>
        simp at h
        obtain ⟨i, e1, h1, h2⟩ := within_int h.2.1
        cases e1
        obtain ⟨r, rfl, h3, h4⟩ := within_int h.2.2
        exact ⟨.rest e k r, rfl, oe, h1, h2, h3, by omega⟩
      | _ => simp at h
    · simp [mT0] at h
  intro n
  induction n with
  | zero => exact fun d h => base 0 d h
  | succ n ih =>
    intro d h
    cases h0 : mT0 d with
    | true => exact base _ d h0
    | false =>
      rcases formT (mTest_form h) with ⟨a, b, rfl⟩ | ⟨a, b, c, rfl⟩ | ⟨a, rfl⟩
      · rw [mTest_less] at h
        simp [mT0, h] at h0
      · rw [mTest_rest] at h
        simp only [mT0] at h0
        rw [h] at h0
        simp at h0
      · rw [mTest_not] at h
        obtain ⟨t, rfl, ot⟩ := ih a h
        exact ⟨.no t, rfl, by omega, ot⟩
theorem ex_to : ∀ (e : Ex) (n : Nat), e.ok n → mExpr n e.d = true
  | .int i, n, h => by
    obtain ⟨m, rfl⟩ : ∃ m, n = m + 1 := ⟨n - 1, by have := h.1; omega⟩
    simp only [Ex.ok] at h
    simp [Ex.d, mExpr, mWithin, h.2.1, h.2.2]
  | .nm z, n, h => by
    obtain ⟨m, rfl⟩ : ∃ m, n = m + 1 := ⟨n - 1, by have := h.1; omega⟩
    simp only [Ex.ok] at h
    simp [Ex.d, mExpr, mWithin, mName, h.2]
  | .plus a b, n, h => by
    obtain ⟨m, rfl⟩ : ∃ m, n = m + 1 := ⟨n - 1, by have := h.1; omega⟩
    simp only [Ex.ok, Nat.add_sub_cancel] at h
    simp [Ex.d, mExpr, mWithin, mName, ex_to a m h.2.1, ex_to b m h.2.2]
  | .minus a b, n, h => by
    obtain ⟨m, rfl⟩ : ∃ m, n = m + 1 := ⟨n - 1, by have := h.1; omega⟩
    simp only [Ex.ok, Nat.add_sub_cancel] at h
    simp [Ex.d, mExpr, mWithin, mName, ex_to a m h.2.1, ex_to b m h.2.2]
  | .times k e, n, h => by
    obtain ⟨m, rfl⟩ : ∃ m, n = m + 1 := ⟨n - 1, by have := h.1; omega⟩
    simp only [Ex.ok, Nat.add_sub_cancel] at h
    simp [Ex.d, mExpr, mWithin, mName, ex_to e m h.2.2.2, h.2.1, h.2.2.1]
theorem te_to : ∀ (t : Te) (n : Nat), t.ok n → mTest n t.d = true
  | .less a b, n, h => by
    rw [Te.d, mTest_less, ex_to a 3 h.1, ex_to b 3 h.2]
    rfl
  | .rest e m r, n, h => by
    simp only [Te.ok] at h
    rw [Te.d, mTest_rest, ex_to e 3 h.1]
    simp [mWithin]
    omega
  | .no t, n, h => by
    obtain ⟨m, rfl⟩ : ∃ m, n = m + 1 := ⟨n - 1, by have := h.1; omega⟩
    rw [Te.d, mTest_not]
    exact te_to t m h.2
def Sm.bl : Sm → List (List Sm)
  | .iff _ y n => [y, n] | .we a b => [a, b] | .they a b => [a, b] | .rep _ b => [b] | _ => []
def bD (b : List Sm) : D := .tup (dA b)
theorem sm_shp (s : Sm) (h : s.ok) : Shp s.d ((Sm.bl s).map bD) true := by
  cases s with
  | set z e =>
    simp only [Sm.ok] at h
    have := Shp.set (.str z) e.d
    rw [show mName (.str z) = true from h.1, ex_to e 3 h.2] at this
    rw [Sm.d]
    exact this
  | pay e =>
    simp only [Sm.ok] at h
    have := Shp.pay e.d
    rw [ex_to e 3 h] at this
    rw [Sm.d]
    exact this
  | stop => rw [Sm.d]; exact Shp.stop
  | iff t y n =>
    simp only [Sm.ok] at h
    have := Shp.iff t.d (bD y) (bD n)
    rw [te_to t 2 h.1] at this
    rw [Sm.d]
    exact this
  | we a b => rw [Sm.d]; exact Shp.we (bD a) (bD b)
  | they a b => rw [Sm.d]; exact Shp.they (bD a) (bD b)
  | rep k b =>
    simp only [Sm.ok] at h
    have := Shp.rep (.int k) (bD b)
    have hw : mWithin 1 8 (.int k) = true := by simp [mWithin, h.1, h.2.1]
    rw [hw] at this
    rw [Sm.d]
    exact this
theorem sm_of {d : D} {bs : List D} {k : Bool} (h : Shp d bs k) (hk : k = true) {bb : List (List Sm)} (hb : bs = bb.map bD) (ho : ∀ b ∈ bb, okA b) : ∃ s : Sm, d = s.d ∧ s.ok ∧ Sm.bl s = bb := by
  cases h with
  | stop =>
    have : bb = [] := by cases bb <;> simp_all
    exact ⟨.stop, by rw [Sm.d], by simp only [Sm.ok], by rw [this]; rfl⟩
  | pay a =>
    have : bb = [] := by cases bb <;> simp_all
    obtain ⟨e, rfl, oe⟩ := ex_of 3 a hk
    exact ⟨.pay e, by rw [Sm.d], by simp only [Sm.ok]; exact oe, by rw [this]; rfl⟩
  | set a b =>
    have : bb = [] := by cases bb <;> simp_all
    simp at hk
    obtain ⟨e, rfl, oe⟩ := ex_of 3 b hk.2
    cases a with
    | str z => exact ⟨.set z e, by rw [Sm.d], by simp only [Sm.ok]; exact ⟨hk.1, oe⟩, by rw [this]; rfl⟩
    | _ => simp [mName] at hk
  | we a b =>
    match bb, hb, ho with
    | [x, y], hb, ho =>
      simp at hb
      obtain ⟨rfl, rfl⟩ := hb
      exact ⟨.we x y, by rw [Sm.d]; rfl, by simp only [Sm.ok]; exact ⟨ho x (by simp), ho y (by simp)⟩, rfl⟩
    | [], hb, _ => simp at hb
    | [_], hb, _ => simp at hb
    | _ :: _ :: _ :: _, hb, _ => simp at hb
  | they a b =>
    match bb, hb, ho with
    | [x, y], hb, ho =>
      simp at hb
      obtain ⟨rfl, rfl⟩ := hb
      exact ⟨.they x y, by rw [Sm.d]; rfl, by simp only [Sm.ok]; exact ⟨ho x (by simp), ho y (by simp)⟩, rfl⟩
    | [], hb, _ => simp at hb
    | [_], hb, _ => simp at hb
    | _ :: _ :: _ :: _, hb, _ => simp at hb
  | rep a b =>
    simp at hk
    obtain ⟨i, rfl, h1, h2⟩ := within_int hk.1
    match bb, hb, ho with
    | [x], hb, ho =>
      simp at hb
      subst hb
      exact ⟨.rep i x, by rw [Sm.d]; rfl, by simp only [Sm.ok]; exact ⟨h1, h2, ho x (by simp)⟩, rfl⟩
    | [], hb, _ => simp at hb
    | _ :: _ :: _, hb, _ => simp at hb
  | iff a b c =>
    simp at hk
    obtain ⟨t, rfl, ot⟩ := te_of 2 a hk.1
    match bb, hb, ho with
    | [x, y], hb, ho =>
      simp at hb
      obtain ⟨rfl, rfl⟩ := hb
      exact ⟨.iff t x y, by rw [Sm.d]; rfl, by simp only [Sm.ok]; exact ⟨ot, ho x (by simp), ho y (by simp)⟩, rfl⟩
    | [], hb, _ => simp at hb
    | [_], hb, _ => simp at hb
    | _ :: _ :: _ :: _, hb, _ => simp at hb
/-- places of some blocks -/
def plB : List (List Sm) → Int
  | [] => 0
  | b :: r => (cA b).a + plB r
def hB : List (List Sm) → Nat
  | [] => 0
  | b :: r => max (hA b) (hB r)
theorem cS_pl (s : Sm) : (cS s).a = 1 + plB (Sm.bl s) := by
  cases s <;> simp only [cS, Sm.bl, plB, Lf.add, Lf.scale, u1, uC, teC] <;> (try split) <;> simp <;> omega
theorem hS_bl (s : Sm) : hS s = hB (Sm.bl s) := by
  cases s <;> simp only [hS, Sm.bl, hB] <;> omega
theorem mFs_sm {F : List D → Int → Int × Option Str} {k : Nat} (hF : ∀ ds p p', F ds p = (p', none) → ∃ b, ds = dA b ∧ okA b ∧ hA b ≤ k ∧ p' = p + (cA b).a) : ∀ (bs : List D) (p p' : Int), (∀ b ∈ bs, isT b = true) → mFs F bs p = (p', none) → ∃ bb : List (List Sm), bs = bb.map bD ∧ (∀ b ∈ bb, okA b) ∧ hB bb ≤ k ∧ p' = p + plB bb
  | [], p, p', _, h => by cases h; exact ⟨[], rfl, fun b h => absurd h List.not_mem_nil, by simp [hB], by simp [plB]⟩
  | x :: bs, p, p', ht, h => by
    rw [mFs] at h
    cases e : F (items x) p with
    | mk p1 o =>
      rw [e] at h
      cases o with
      | some w => cases h
      | none =>
        obtain ⟨b, h1, h2, h3, h4⟩ := hF _ _ _ e
        obtain ⟨bb, g1, g2, g3, g4⟩ := mFs_sm hF bs p1 p' (fun y hy => ht y (List.mem_cons_of_mem _ hy)) h
        have ex := isT_tup (ht x List.mem_cons_self)
        refine ⟨b :: bb, by rw [ex, h1, g1]; rfl, fun y hy => ?_, by simp only [hB]; omega, by simp only [plB]; omega⟩
        rcases List.mem_cons.mp hy with rfl | hy
        · exact h2
        · exact g2 y hy
theorem mF_sm : ∀ (k : Nat) (ds : List D) (p p' : Int), mF k ds p = (p', none) → ∃ b, ds = dA b ∧ okA b ∧ hA b ≤ k ∧ p' = p + (cA b).a
  | 0, [], p, p', h => by cases h; exact ⟨[], by rw [dA], by rw [okA_nil]; trivial, by rw [hA_nil]; omega, by rw [cA_nil]; simp [u0]⟩
  | 0, _ :: _, p, p', h => by cases h
  | k + 1, ds, p, p', h => by
    have hF := mF_sm k
    rw [mF] at h
    induction ds generalizing p with
    | nil => cases h; exact ⟨[], by rw [dA], by rw [okA_nil]; trivial, by rw [hA_nil]; omega, by rw [cA_nil]; simp [u0]⟩
    | cons x r ih =>
      rw [mFl] at h
      cases hk : stK x with
      | false => rw [hk] at h; cases h
      | true =>
        rw [hk, if_pos rfl] at h
        cases e : mFs (mF k) (stB x) (p + 1) with
        | mk p1 o =>
          rw [e] at h
          cases o with
          | some w => cases h
          | none =>
            have sh : Shp x (stB x) (stK x) := by
              rcases st_spec x with h | ⟨_, _, h⟩
              · exact h
              · rw [hk] at h; cases h
            obtain ⟨bb, g1, g2, g3, g4⟩ := mFs_sm hF (stB x) (p + 1) p1 (sh.tups hk) e
            obtain ⟨s, rfl, os, hs⟩ := sm_of sh hk g1 g2
            obtain ⟨b, rfl, h2, h3, h4⟩ := ih p1 h
            refine ⟨s :: b, by rw [dA], by rw [okA_cons]; exact ⟨os, h2⟩, by rw [hA_cons, hS_bl, hs]; omega, ?_⟩
            rw [cA_cons]
            simp only [Lf.add]
            have := cS_pl s
            rw [hs] at this
            omega
theorem mFs_to {F : List D → Int → Int × Option Str} {k : Nat} (hF : ∀ b p, okA b → hA b ≤ k → F (dA b) p = (p + (cA b).a, none)) : ∀ (bb : List (List Sm)) (p : Int), (∀ b ∈ bb, okA b) → hB bb ≤ k → mFs F (bb.map bD) p = (p + plB bb, none)
  | [], p, _, _ => by simp [mFs, plB]
  | b :: bb, p, ho, hh => by
    simp only [hB] at hh
    have e := mFs_to hF bb (p + (cA b).a) (fun y hy => ho y (List.mem_cons_of_mem _ hy)) (by omega)
    rw [List.map_cons, mFs]
    show (match F (dA b) p with | (p', some w) => (p', some w) | (p', none) => mFs F (bb.map bD) p') = _
    rw [hF b p (ho b List.mem_cons_self) (by omega)]
    show mFs F (bb.map bD) (p + (cA b).a) = _
    rw [e]
    simp only [plB]
    congr 1
    omega
theorem ok_bl {s : Sm} (h : s.ok) : ∀ b ∈ Sm.bl s, okA b := by
  cases s <;> simp_all [Sm.ok, Sm.bl]
theorem mF_to : ∀ (k : Nat) (b : List Sm) (p : Int), okA b → hA b ≤ k → mF k (dA b) p = (p + (cA b).a, none)
  | 0, [], p, _, _ => by rw [dA, cA_nil]; simp [mF, u0]
  | 0, s :: r, p, _, h => by rw [hA_cons] at h; omega
  | k + 1, b, p, ho, hh => by
    have hF := mF_to k
    rw [mF]
    induction b generalizing p with
    | nil => rw [dA, mFl, cA_nil]; simp [u0]
    | cons s r ih =>
      rw [okA_cons] at ho
      rw [hA_cons] at hh
      obtain ⟨e1, e2⟩ := st_eq (.inl (sm_shp s ho.1))
      rw [dA, mFl, e1, e2, if_pos rfl, mFs_to hF (Sm.bl s) (p + 1) (ok_bl ho.1) (by rw [← hS_bl]; omega)]
      show mFl (mF k) (dA r) (p + 1 + plB (Sm.bl s)) = _
      rw [ih _ ho.2 (by omega), cA_cons]
      have := cS_pl s
      simp only [Lf.add]
      congr 1
      omega
end PE

set_option Elab.async false
set_option linter.all false
set_option maxRecDepth 100000
set_option maxHeartbeats 1000000
namespace PE
open PySem L2 DL PG
/-! ### counting -/
noncomputable def f_kind_of : Fn := fDef 1 2 b_kind_of
def kindW : Sm → Str
  | .set _ _ => Str.ofString "set" | .pay _ => Str.ofString "pay" | .stop => Str.ofString "stop" | .we _ _ => Str.ofString "we" | .they _ _ => Str.ofString "they" | .rep _ _ => Str.ofString "repeat"
  | .iff t _ _ => if t.isRest then Str.ofString "rest" else Str.ofString "less"
def Te.dep : Te → Nat
  | .no t => Te.dep t + 1
  | _ => 0
def Te.base : Te → Te
  | .no t => Te.base t
  | t => t
theorem dep_ok : ∀ (t : Te) {n : Nat}, t.ok n → Te.dep t ≤ n
  | .less _ _, _, _ => by simp [Te.dep]
  | .rest _ _ _, _, _ => by simp [Te.dep]
  | .no t, n, h => by
    have := dep_ok t h.2
    have := h.1
    simp only [Te.dep]
    omega
theorem base_d : ∀ t : Te, ∃ r, (Te.base t).d = .tup (.str (if t.isRest then Str.ofString "rest" else Str.ofString "less") :: r)
  | .less _ _ => ⟨_, rfl⟩
  | .rest _ _ _ => ⟨_, rfl⟩
  | .no t => base_d t
theorem nots_while {S : Sto} {x0 : Option D} : ∀ (t : Te) (n : Nat), Te.dep t < n → whileF (fTest (fOp (oEq id) (fOp oIx (fVar 1) (fC (.int 0))) (fC (.str "not")))) (fsAsg (fOp oIx (fVar 1) (fC (.int 1))) (fgName 1)) n [x0, some t.d] S = some (.nx [x0, some (Te.base t).d], S)
  | .less a b, n + 1, _ => by rw [whileF_succ]; simp [Te.d, Te.base]
  | .rest a b c, n + 1, _ => by rw [whileF_succ]; simp [Te.d, Te.base]
  | .no t, n + 1, h => by
    have ih := nots_while (S := S) (x0 := x0) t n (by simp only [Te.dep] at h; omega)
    rw [whileF_succ]
    simp [Te.d, Te.base, ih]
  | .less _ _, 0, h => by omega
  | .rest _ _ _, 0, h => by omega
  | .no _, 0, h => by omega
theorem kind_of_ok {S : Sto} {s : Sm} (h : s.ok) : f_kind_of [s.d] S = some (.str (kindW s), S) := by
  cases s with
  | iff t y n =>
    simp only [Sm.ok] at h
    have hd := dep_ok t h.1
    have hw := nots_while (S := S) (x0 := some (Sm.iff t y n).d) t fuelW (by unfold fuelW; omega)
    obtain ⟨r, hr⟩ := base_d t
    rw [hr] at hw
    rw [Sm.d] at hw ⊢
    simp [f_kind_of, fDef, b_kind_of, hw, kindW]
  | _ => simp [Sm.d, f_kind_of, fDef, b_kind_of, kindW]
mutual
def nS (κ : Sm → Bool) : Sm → Int
  | .iff _ y n => nA κ y + nA κ n
  | .we y n => nA κ y + nA κ n
  | .they y n => nA κ y + nA κ n
  | .rep k b => k * nA κ b
  | .pay _ => 0 | .set _ _ => 0 | .stop => 0
def nA (κ : Sm → Bool) : List Sm → Int
  | [] => 0
  | s :: r => nS κ s + (if κ s then 1 else 0) + nA κ r
end
theorem nA_nil (κ : Sm → Bool) : nA κ [] = 0 := by rw [nA]
theorem nA_cons (κ : Sm → Bool) (s : Sm) (r : List Sm) : nA κ (s :: r) = nS κ s + (if κ s then 1 else 0) + nA κ r := by rw [nA]
def tm : Sm → Int
  | .rep k _ => k
  | _ => 1
theorem nS_bl (κ : Sm → Bool) (s : Sm) : nS κ s = tm s * ((Sm.bl s).map (nA κ)).sum := by
  cases s <;> simp [nS, Sm.bl, tm]
/-- [elt for x in xs] whose parts lay new objects -/
theorem lc_ext {α : Type} {inj g : α → D} {k l : Nat} {e : FE} {S0 : Sto} {δ : DEnv} (hl : S0.length ≤ l) : ∀ (xs : List α) (S : Sto) (acc : List D), Ext S0 S → S[l]? = some (.lst acc) → acc.length + xs.length < 100000 → (∀ x ∈ xs, ∀ S, Ext S0 S → ∃ z, e (δ.set k (some (inj x))) S = some (g x, S ++ z)) →
    ∃ S', lcF none k l fYes e (xs.map inj) δ S = some (.loc l, S') ∧ Ext S0 S' ∧ S'[l]? = some (.lst (acc ++ xs.map g))
  | [], S, acc, hx, h, _, _ => ⟨S, lcF_nil0, hx, by simpa using h⟩
  | x :: xs, S, acc, hx, h, hz, he => by
    rw [List.length_cons] at hz
    obtain ⟨z, e1⟩ := he x List.mem_cons_self S hx
    have h1 : (S ++ z)[l]? = some (.lst acc) := Ext.at (S := S) ⟨z, rfl⟩ h
    have hlt : l < (S ++ z).length := (List.getElem?_eq_some_iff.mp h1).1
    have hx1 : Ext S0 ((S ++ z).set l (.lst (acc ++ [g x]))) := by
      obtain ⟨z0, rfl⟩ := hx
      rw [List.append_assoc, List.set_append_right (h := hl)]
      exact ⟨_, rfl⟩
    obtain ⟨S', e2, hx2, h2⟩ := lc_ext (inj := inj) (g := g) (δ := δ) hl xs ((S ++ z).set l (.lst (acc ++ [g x]))) (acc ++ [g x]) hx1 (by rw [List.getElem?_set_self hlt]) (by rw [List.length_append, List.length_singleton]; omega) (fun y hy => he y (List.mem_cons_of_mem _ hy))
    have ha : acc.length < 100000 := by omega
    exact ⟨S', by simp [e1, h1, ha, e2], hx2, by rw [h2]; simp⟩
noncomputable def f_counted : Nat → Fn
  | 0 => fun _ _ => none
  | k + 1 => fDef 2 6 (b_counted f_kind_of f_blocks_of (f_counted k))
def kin (ys : List Str) (s : Sm) : Bool := ys.any (· == kindW s)
def CntOk (f : Fn) (k : Nat) : Prop := ∀ (b : List Sm) (ys : List Str) (S : Sto), okA b → hA b ≤ k → ∃ z, f [.tup (dA b), .tup (ys.map D.str)] S = some (.int (nA (kin ys) b), S ++ z)
noncomputable abbrev cntT (f : Fn) : FS := (fsSeq (fsAsg (fIfE (fTest (fOp (oEq id) (fOp oIx (fVar 3) (fC (.int 0))) (fC (.str "repeat")))) (fOp oIx (fVar 3) (fC (.int 1))) (fC (.int 1))) (fgName 4))
    (fsSeq (fsAugI 2 (fun i j => i + j) (fOp oMul (fVar 4) (fCB bSum (fCons (fLc (fiAny (fCall f_blocks_of (fCons (fVar 3) fNil))) 5 fYes (fCall f (fCons (fVar 5) (fCons (fVar 1) fNil)))) fNil))))
    (fsIf (fTest (fOp oIn (fCall f_kind_of (fCons (fVar 3) fNil)) (fVar 1))) (fsAugI 2 (fun i j => i + j) (fC (.int 1))) fsNext)))
theorem hB_mem : ∀ {bb : List (List Sm)} {b : List Sm}, b ∈ bb → hA b ≤ hB bb
  | x :: r, b, h => by
    rcases List.mem_cons.mp h with rfl | h
    · simp only [hB]; omega
    · have := hB_mem h
      simp only [hB]; omega
theorem tm_ok {s : Sm} (h : s.ok) : 1 ≤ tm s ∧ tm s ≤ 8 := by
  cases s <;> simp_all [tm, Sm.ok]
theorem head_rep (s : Sm) : ∃ w r, s.d = .tup (.str w :: r) ∧ ((w = Str.ofString "repeat" ∧ ∃ r', r = .int (tm s) :: r') ∨ (w ≠ Str.ofString "repeat" ∧ tm s = 1)) := by
  cases s with
  | rep k b => exact ⟨_, _, by rw [Sm.d]; rfl, .inl ⟨rfl, [.tup (dA b)], rfl⟩⟩
  | _ => exact ⟨_, _, by rw [Sm.d], .inr ⟨by simp, rfl⟩⟩
theorem cnt_loop {f : Fn} {k : Nat} (hf : CntOk f k) {b0 : Option D} {ys : List Str} : ∀ (b : List Sm) (t : Int) (S : Sto) (x3 x4 x5 : Option D), okA b → hA b ≤ k + 1 →
    ∃ z x3' x4' x5', forF none (fgName 3) (cntT f) (dA b) [b0, some (.tup (ys.map D.str)), some (.int t), x3, x4, x5] S = some (.nx [b0, some (.tup (ys.map D.str)), some (.int (t + nA (kin ys) b)), x3', x4', x5'], S ++ z)
  | [], t, S, x3, x4, x5, _, _ => ⟨[], x3, x4, x5, by rw [dA]; simp [nA_nil]⟩
  | s :: r, t, S, x3, x4, x5, ho, hh => by
    rw [okA_cons] at ho
    rw [hA_cons] at hh
    have hb := blocks_of_ok (S := S) (sm_shp s ho.1)
    have hbl : (Sm.bl s).length ≤ 2 := by cases s <;> simp [Sm.bl]
    obtain ⟨S1, e1, ⟨z1, rfl⟩, h1⟩ := lc_ext (inj := bD) (g := fun b => .int (nA (kin ys) b)) (k := 5) (l := S.length) (S0 := S) (e := (fCall f (fCons (fVar 5) (fCons (fVar 1) fNil)))) (δ := [b0, some (.tup (ys.map D.str)), some (.int t), some s.d, some (.int (tm s)), none]) (Nat.le_refl _) (Sm.bl s) (S ++ [.lst []]) [] ⟨_, rfl⟩ (by simp) (by simp; omega) (fun x hx S' hS => by
      obtain ⟨z, e⟩ := hf x ys S' (ok_bl ho.1 x hx) (by have := hB_mem hx; rw [← hS_bl] at this; omega)
      exact ⟨z, by simp [bD, e]⟩)
    have hs : asInts ((Sm.bl s).map fun b => D.int (nA (kin ys) b)) = some ((Sm.bl s).map (nA (kin ys))) := by
      have := asInts_map ((Sm.bl s).map (nA (kin ys)))
      rw [List.map_map] at this
      exact this
    have ht := tm_ok ho.1
    have pm : ∀ j S, oMul (.int (tm s)) (.int j) S = some (.int (tm s * j), S) := fun j S => oMul_int (.inl ⟨by omega, by omega⟩)
    have hk := fun S => kind_of_ok (S := S) ho.1
    have hn := nS_bl (kin ys) s
    have h1' : (S ++ z1)[S.length]? = some (.lst ((Sm.bl s).map fun b => D.int (nA (kin ys) b))) := by simpa using h1
    obtain ⟨w, rr, hd, hw⟩ := head_rep s
    obtain ⟨z2, a3, a4, a5, e2⟩ := cnt_loop hf (b0 := b0) (ys := ys) r (t + nS (kin ys) s + (if kin ys s then 1 else 0)) (S ++ z1) (some s.d) (some (.int (tm s))) x5 ho.2 (by omega)
    have e3 : t + nS (kin ys) s + (if kin ys s = true then 1 else 0) + nA (kin ys) r = t + nA (kin ys) (s :: r) := by rw [nA_cons]; omega
    rw [e3] at e2
    refine ⟨z1 ++ z2, a3, a4, a5, ?_⟩
    rw [dA]
    rw [hn] at e2
    cases hkin : kin ys s with
    | true =>
      have hkin' : (ys.any (· == kindW s)) = true := hkin
      rw [hkin, if_pos rfl] at e2
      rcases hw with ⟨rfl, r', rfl⟩ | ⟨hw, h1t⟩
      · rw [hd] at e1 hb hk e2 ⊢
        simp [-lcF_cons0, hb, e1, h1', hs, pm, hk, hkin', e2]
      · rw [hd] at e1 hb hk e2 ⊢
        rw [h1t] at e1 pm e2
        simp only [Int.one_mul] at e2
        simp [-lcF_cons0, hw, hb, e1, h1', hs, pm, hk, hkin', e2]
    | false =>
      have hkin' : (ys.any (· == kindW s)) = false := hkin
      rw [hkin] at e2
      simp only [Bool.false_eq_true, if_false, Int.add_zero] at e2
      rcases hw with ⟨rfl, r', rfl⟩ | ⟨hw, h1t⟩
      · rw [hd] at e1 hb hk e2 ⊢
        simp [-lcF_cons0, hb, e1, h1', hs, pm, hk, hkin', e2]
      · rw [hd] at e1 hb hk e2 ⊢
        rw [h1t] at e1 pm e2
        simp only [Int.one_mul] at e2
        simp [-lcF_cons0, hw, hb, e1, h1', hs, pm, hk, hkin', e2]
theorem counted_ok : ∀ k, CntOk (f_counted (k + 1)) k
  | 0, b, ys, S, ho, hh => by
    cases b with
    | nil => exact ⟨[], by rw [dA]; simp [f_counted, fDef, b_counted, nA_nil]⟩
    | cons s r => rw [hA_cons] at hh; omega
  | k + 1, b, ys, S, ho, hh => by
    obtain ⟨z, a3, a4, a5, e⟩ := cnt_loop (counted_ok k) (b0 := some (.tup (dA b))) (ys := ys) b 0 S none none none ho hh
    simp only [Int.zero_add] at e
    exact ⟨z, by rw [f_counted]; simp [fDef, b_counted, e]⟩
/-! ### the counts are the costs -/
def kAll : List Str := ["set", "pay", "less", "rest", "we", "they", "repeat", "stop"]
theorem kin_all (s : Sm) : kin kAll s = true := by
  cases s with
  | iff t y n => cases h : t.isRest <;> simp [kin, kAll, kindW, h]
  | _ => simp [kin, kAll, kindW]
def isC : Sm → Bool | .we _ _ => true | .they _ _ => true | _ => false
def isR : Sm → Bool | .iff t _ _ => t.isRest | _ => false
def isL : Sm → Bool | .iff t _ _ => !t.isRest | _ => false
theorem kin_c (s : Sm) : kin ["we", "they"] s = isC s := by
  cases s with
  | iff t y n => cases h : t.isRest <;> simp [kin, kindW, h, isC]
  | _ => simp [kin, kindW, isC]
theorem kin_r (s : Sm) : kin ["rest"] s = isR s := by
  cases s with
  | iff t y n => cases h : t.isRest <;> simp [kin, kindW, h, isR]
  | _ => simp [kin, kindW, isR]
theorem kin_l (s : Sm) : kin ["less"] s = isL s := by
  cases s with
  | iff t y n => cases h : t.isRest <;> simp [kin, kindW, h, isL]
  | _ => simp [kin, kindW, isL]
mutual
theorem cs_n : ∀ s : Sm, (cS s).b = nS (fun _ => true) s + 1 ∧ (cS s).c = nS isC s + (if isC s then 1 else 0) ∧ (cS s).d = nS isR s + (if isR s then 1 else 0) ∧ (cS s).e = nS isL s + (if isL s then 1 else 0)
  | .set _ _ => by simp [cS, u1, nS, isC, isR, isL]
  | .pay _ => by simp [cS, u1, nS, isC, isR, isL]
  | .stop => by simp [cS, u1, nS, isC, isR, isL]
  | .iff t y n => by
    have h1 := ca_n y
    have h2 := ca_n n
    simp only [cS, Lf.add, u1, teC, nS, isC, isR, isL]
    by_cases h : t.isRest = true <;> simp [h] <;> omega
  | .we y n => by
    have h1 := ca_n y
    have h2 := ca_n n
    simp only [cS, Lf.add, u1, uC, nS, isC, isR, isL]
    simp
    omega
  | .they y n => by
    have h1 := ca_n y
    have h2 := ca_n n
    simp only [cS, Lf.add, u1, uC, nS, isC, isR, isL]
    simp
    omega
  | .rep k b => by
    obtain ⟨h1, h2, h3, h4⟩ := ca_n b
    simp only [cS, Lf.add, Lf.scale, u1, nS, isC, isR, isL, h1, h2, h3, h4]
    simp
    omega
theorem ca_n : ∀ b : List Sm, (cA b).b = nA (fun _ => true) b ∧ (cA b).c = nA isC b ∧ (cA b).d = nA isR b ∧ (cA b).e = nA isL b
  | [] => by simp [cA, u0, nA]
  | s :: r => by
    have h1 := cs_n s
    have h2 := ca_n r
    simp only [cA, Lf.add, nA]
    simp only [if_true]
    omega
end
theorem cnt_all (b : List Sm) : nA (kin kAll) b = (cA b).b := by rw [(ca_n b).1, show kin kAll = fun _ => true from funext kin_all]
theorem cnt_c (b : List Sm) : nA (kin ["we", "they"]) b = (cA b).c := by rw [(ca_n b).2.1, show kin ["we", "they"] = isC from funext kin_c]
theorem cnt_r (b : List Sm) : nA (kin ["rest"]) b = (cA b).d := by rw [(ca_n b).2.2.1, show kin ["rest"] = isR from funext kin_r]
theorem cnt_l (b : List Sm) : nA (kin ["less"]) b = (cA b).e := by rw [(ca_n b).2.2.2, show kin ["less"] = isL from funext kin_l]
noncomputable def f_bound_passed : Fn := fDef 2 2 (b_bound_passed (f_counted 5))
noncomputable def f_program_error : Fn := fDef 1 3 (b_program_error f_bound_passed (f_fault_in 5))
def bW (v : Lf) : D := if 24 < v.a then .str (Str.ofString "places") else if 30 < v.b then .str (Str.ofString "weight") else if 4 < v.c then .str (Str.ofString "choices") else if 2 < v.d then .str (Str.ofString "rests") else if 2 < v.e then .str (Str.ofString "comparings") else .non
def resD (v : Lf) : D := if 24 < v.a then .tup [.non, .str (Str.ofString "places")] else if 30 < v.b then .tup [.non, .str (Str.ofString "weight")] else if 4 < v.c then .tup [.non, .str (Str.ofString "choices")] else if 2 < v.d then .tup [.non, .str (Str.ofString "rests")] else if 2 < v.e then .tup [.non, .str (Str.ofString "comparings")] else .non
theorem bound_passed_ok {b : List Sm} {S : Sto} (ho : okA b) (hh : hA b ≤ 4) : ∃ z, f_bound_passed [.tup (dA b), .int (cA b).a] S = some (bW (cA b), S ++ z) := by
  by_cases h1 : 24 < (cA b).a
  · exact ⟨[], by simp [f_bound_passed, fDef, b_bound_passed, h1, bW]⟩
  obtain ⟨z2, e2⟩ := counted_ok 4 b kAll S ho hh
  rw [cnt_all] at e2
  simp only [kAll, List.map] at e2
  by_cases h2 : 30 < (cA b).b
  · exact ⟨z2, by simp [f_bound_passed, fDef, b_bound_passed, h1, e2, h2, bW]⟩
  obtain ⟨z3, e3⟩ := counted_ok 4 b ["we", "they"] (S ++ z2) ho hh
  rw [cnt_c] at e3
  simp only [List.map] at e3
  by_cases h3 : 4 < (cA b).c
  · exact ⟨z2 ++ z3, by simp [f_bound_passed, fDef, b_bound_passed, h1, e2, h2, e3, h3, bW]⟩
  obtain ⟨z4, e4⟩ := counted_ok 4 b ["rest"] (S ++ z2 ++ z3) ho hh
  rw [cnt_r, List.append_assoc S] at e4
  simp only [List.map] at e4
  by_cases h4 : 2 < (cA b).d
  · exact ⟨z2 ++ z3 ++ z4, by simp [f_bound_passed, fDef, b_bound_passed, h1, e2, h2, e3, h3, e4, h4, bW]⟩
  obtain ⟨z5, e5⟩ := counted_ok 4 b ["less"] (S ++ (z2 ++ z3) ++ z4) ho hh
  rw [cnt_l, List.append_assoc S, List.append_assoc z2] at e5
  simp only [List.map] at e5
  by_cases h5 : 2 < (cA b).e
  · exact ⟨z2 ++ z3 ++ z4 ++ z5, by simp [f_bound_passed, fDef, b_bound_passed, h1, e2, h2, e3, h3, e4, h4, e5, h5, bW]⟩
  · exact ⟨z2 ++ z3 ++ z4 ++ z5, by simp [f_bound_passed, fDef, b_bound_passed, h1, e2, h2, e3, h3, e4, h4, e5, h5, bW]⟩
open Classical in
noncomputable def smOf (ds : List D) : List Sm := if h : ∃ b, ds = dA b ∧ okA b ∧ hA b ≤ 4 then h.choose else []
theorem smOf_ok {ds : List D} {p : Int} (h : mF 4 ds 0 = (p, none)) : ds = dA (smOf ds) ∧ okA (smOf ds) ∧ hA (smOf ds) ≤ 4 ∧ p = (cA (smOf ds)).a := by
  obtain ⟨b, h1, h2, h3, _⟩ := mF_sm 4 ds 0 p h
  have hh : ∃ b, ds = dA b ∧ okA b ∧ hA b ≤ 4 := ⟨b, h1, h2, h3⟩
  have e : smOf ds = hh.choose := by unfold smOf; rw [dif_pos hh]
  obtain ⟨g1, g2, g3⟩ := hh.choose_spec
  rw [e]
  refine ⟨g1, g2, g3, ?_⟩
  have := mF_to 4 hh.choose 0 g2 g3
  rw [← g1, h] at this
  cases this
  omega
/-- what program_error is to answer -/
noncomputable def mErr : D → D
  | .tup ds => match mF 4 ds 0 with
    | (p, some w) => .tup [.int p, .str w]
    | (_, none) => resD (cA (smOf ds))
  | _ => .tup [.non, .str (Str.ofString "program")]
theorem program_error_ok {d : D} {S : Sto} (h : vD S.length d) : ∃ z, f_program_error [d] S = some (mErr d, S ++ z) := by
  obtain ⟨-, -, -, h4⟩ := kt h
  cases d with
  | tup ds =>
    obtain ⟨z, e⟩ := fault_in_ok 4 (by omega) ds 0 S h
    have e : f_fault_in 5 [.tup ds, .int 0, .int 0] S = some (fD (mF 4 ds 0), S ++ z) := e
    cases hM : mF 4 ds 0 with
    | mk p o =>
      rw [hM] at e
      cases o with
      | some w =>
        refine ⟨z, ?_⟩
        have : mErr (.tup ds) = .tup [.int p, .str w] := by rw [mErr, hM]
        rw [this]
        simp [f_program_error, fDef, b_program_error, e, fD]
      | none =>
        obtain ⟨g1, g2, g3, g4⟩ := smOf_ok hM
        obtain ⟨z2, e2⟩ := bound_passed_ok (S := S ++ z) g2 g3
        rw [← g1, ← g4] at e2
        have : mErr (.tup ds) = resD (cA (smOf ds)) := by rw [mErr, hM]
        rw [this]
        refine ⟨z ++ z2, ?_⟩
        unfold bW at e2
        unfold resD
        by_cases h1 : 24 < (cA (smOf ds)).a
        · rw [if_pos h1] at e2 ⊢
          simp [f_program_error, fDef, b_program_error, e, fD, e2]
        rw [if_neg h1] at e2 ⊢
        by_cases h2 : 30 < (cA (smOf ds)).b
        · rw [if_pos h2] at e2 ⊢
          simp [f_program_error, fDef, b_program_error, e, fD, e2]
        rw [if_neg h2] at e2 ⊢
        by_cases h3 : 4 < (cA (smOf ds)).c
        · rw [if_pos h3] at e2 ⊢
          simp [f_program_error, fDef, b_program_error, e, fD, e2]
        rw [if_neg h3] at e2 ⊢
        by_cases h4 : 2 < (cA (smOf ds)).d
        · rw [if_pos h4] at e2 ⊢
          simp [f_program_error, fDef, b_program_error, e, fD, e2]
        rw [if_neg h4] at e2 ⊢
        by_cases h5 : 2 < (cA (smOf ds)).e
        · rw [if_pos h5] at e2 ⊢
          simp [f_program_error, fDef, b_program_error, e, fD, e2]
        rw [if_neg h5] at e2 ⊢
        simp [f_program_error, fDef, b_program_error, e, fD, e2]
  | _ => exact ⟨[], by simp [-tyD, f_program_error, fDef, b_program_error, h4, isT, mErr]⟩
theorem cA_det {b b' : List Sm} (e : dA b = dA b') (h1 : okA b) (h2 : hA b ≤ 4) (h3 : okA b') (h4 : hA b' ≤ 4) : cA b = cA b' := by
  have key : ∀ ys, nA (kin ys) b = nA (kin ys) b' := fun ys => by
    obtain ⟨z, e1⟩ := counted_ok 4 b ys [] h1 h2
    obtain ⟨z', e2⟩ := counted_ok 4 b' ys [] h3 h4
    rw [e, e2] at e1
    simp at e1
    exact e1.1.symm
  apply Lf.ext
  · have a1 := mF_to 4 b 0 h1 h2
    have a2 := mF_to 4 b' 0 h3 h4
    rw [e, a2] at a1
    simp at a1
    exact a1.symm
  · rw [← cnt_all, ← cnt_all, key]
  · rw [← cnt_c, ← cnt_c, key]
  · rw [← cnt_r, ← cnt_r, key]
  · rw [← cnt_l, ← cnt_l, key]
/-- a drawn program has none -/
theorem mErr_prog {b : List Sm} (h : Prog b) : mErr (.tup (dA b)) = .non := by
  have hM := mF_to 4 b 0 h.ok h.h
  have e : mErr (.tup (dA b)) = resD (cA (smOf (dA b))) := by rw [mErr, hM]
  obtain ⟨g1, g2, g3, _⟩ := smOf_ok hM
  rw [e, ← cA_det g1 h.ok h.h g2 g3]
  obtain ⟨-, -, p1, p2, p3, p4, p5⟩ := h
  unfold resD
  rw [if_neg (by omega), if_neg (by omega), if_neg (by omega), if_neg (by omega), if_neg (by omega)]
end PE

set_option Elab.async false
set_option linter.all false
set_option maxRecDepth 100000
set_option maxHeartbeats 1000000
namespace PE
open PySem L2 DL PG
/-! ### the law's own defs -/
noncomputable def l_parts : Fn := fDef 1 1 b__law_parts
noncomputable def l_whole : Fn := fDef 3 3 b__law_whole
noncomputable def l_is_name : Fn := fDef 1 3 b__law_is_name
theorem l_parts_ok {S : Sto} {d : D} {bs : List D} {k : Bool} (h : Shp d bs k) : l_parts [d] S = some (.tup bs, S) := by
  cases h <;> simp [l_parts, fDef, b__law_parts, cutD, HT.sIx]
theorem l_whole_ok {S : Sto} {d : D} {lo hi : Int} (h : vD S.length d) : l_whole [d, .int lo, .int hi] S = some (.bl (mWithin lo hi d), S) := by
  obtain ⟨h1, h2, -, -⟩ := kt h
  cases d with
  | int i => by_cases hl : lo ≤ i <;> simp [l_whole, fDef, b__law_whole, mWithin, hl]
  | _ => simp [-tyD, l_whole, fDef, b__law_whole, h1, h2, isI, isB, mWithin]
theorem lc_filt {k l m : Nat} {t : FT} {e : FE} {p : D → Bool} : ∀ (xs : List D) (δ : DEnv) (S : Sto) (acc : List D), m ≤ S.length → S[l]? = some (.lst acc) → acc.length + xs.length < 100000 → (∀ x ∈ xs, ∀ S, m ≤ S.length → t (δ.set k (some x)) S = some (p x, S)) → (∀ x ∈ xs, ∀ S, m ≤ S.length → e (δ.set k (some x)) S = some (x, S)) →
    lcF none k l t e xs δ S = some (.loc l, S.set l (.lst (acc ++ xs.filter p)))
  | [], δ, S, acc, _, h, _, _, _ => by
    have he := (List.getElem?_eq_some_iff.mp h).2
    rw [lcF_nil0, List.filter_nil, List.append_nil, ← he, List.set_getElem_self]
  | x :: xs, δ, S, acc, hm, h, hz, ht, he => by
    rw [List.length_cons] at hz
    have hlt : l < S.length := (List.getElem?_eq_some_iff.mp h).1
    have ha : acc.length < 100000 := by omega
    cases hp : p x with
    | true =>
      have e1 := lc_filt (m := m) xs δ (S.set l (.lst (acc ++ [x]))) (acc ++ [x]) (by rw [List.length_set]; exact hm) (by rw [List.getElem?_set_self hlt]) (by rw [List.length_append, List.length_singleton]; omega) (fun y hy => ht y (List.mem_cons_of_mem _ hy)) (fun y hy => he y (List.mem_cons_of_mem _ hy))
      rw [List.set_set] at e1
      simp [ht x List.mem_cons_self S hm, hp, he x List.mem_cons_self S hm, h, ha, e1]
    | false =>
      have e1 := lc_filt (m := m) xs δ S acc hm h (by omega) (fun y hy => ht y (List.mem_cons_of_mem _ hy)) (fun y hy => he y (List.mem_cons_of_mem _ hy))
      simp [ht x List.mem_cons_self S hm, hp, e1]
theorem lc_filt0 {k : Nat} {t : FT} {e : FE} {p : D → Bool} {xs : List D} {δ : DEnv} {S : Sto} (hz : xs.length < 100000) (ht : ∀ x ∈ xs, ∀ S', S.length ≤ S'.length → t (δ.set k (some x)) S' = some (p x, S')) (he : ∀ x ∈ xs, ∀ S', S.length ≤ S'.length → e (δ.set k (some x)) S' = some (x, S')) :
    lcF none k S.length t e xs δ (S ++ [.lst []]) = some (.loc S.length, S ++ [.lst (xs.filter p)]) := by
  rw [lc_filt (m := S.length) xs δ _ [] (by simp) (by simp) (by simpa using hz) ht he, List.set_append_right (h := Nat.le_refl _)]
  simp
theorem both_c : (Str.ofString "abcdefghijklmnopqrstuvwxyz0123456789").cps.toList = lets ++ digs := by decide +kernel
theorem disj : ∀ c, c ∈ lets → c ∉ digs := by
  have h : (lets.all fun c => !digs.contains c) = true := by decide +kernel
  intro c hc hd
  have := List.all_eq_true.mp h c hc
  simp [hd] at this
theorem eq_ll0 {f : Bool → Bool} {S : Sto} {l k : Nat} {a : List D} (h1 : S[l]? = some (.lst a)) (h2 : S[k]? = some (.lst [])) : oEq f (.loc l) (.loc k) S = some (.bl (f a.isEmpty), S) := by
  rw [oEq_ll, h1, h2]
theorem l_is_name_ok {S : Sto} {d : D} (h : vD S.length d) : ∃ z, l_is_name [d] S = some (.bl (mName d), S ++ z) := by
  obtain ⟨-, -, h3, -⟩ := kt h
  cases d with
  | str s =>
    rw [vD] at h
    have hs : s.length ≤ 100000 := by omega
    by_cases h1 : 1 ≤ s.length
    · have h1' : (1 : Int) ≤ (s.length : Int) := by omega
      by_cases h8 : s.length ≤ 8
      · have h8' : (s.length : Int) ≤ 8 := by omega
        cases hc : s.cps.toList with
        | nil =>
          have : s.length = 0 := by
            have : s.cps.toList.length = 0 := by rw [hc]; rfl
            rw [Array.length_toList] at this
            exact this
          omega
        | cons c r =>
          have hx : atI s.cps.toList 0 = some c := by rw [hc]; exact atI_0 c r
          by_cases hd : c ∈ digs
          · have hd' : c ∈ (Str.ofString "0123456789").cps.toList := hd
            have hn : nameOk s = false := by
              have hl : ¬ c ∈ lets := fun h => disj c h hd
              unfold nameOk
              rw [hc]
              simp [hl]
            exact ⟨[], by simp [-Array.mem_toList_iff, l_is_name, fDef, b__law_is_name, hs, h1', h8', hx, hd', mName, hn]⟩
          · have hd' : ¬ c ∈ (Str.ofString "0123456789").cps.toList := hd
            let p : D → Bool := fun x => match x with | .str s => (match s.cps.toList with | [c] => !decide (c ∈ lets ++ digs) | _ => false) | _ => false
            have e := lc_filt0 (k := 2) (S := S) (δ := [some (.str s), none, none]) (xs := signsD s) (t := (fTest (fOp oNotIn (fVar 2) (fC (.str "abcdefghijklmnopqrstuvwxyz0123456789"))))) (e := (fVar 2)) (p := p) (sgl s h)
              (fun x hx S' _ => by
                obtain ⟨c, _, rfl⟩ := List.mem_map.mp hx
                rw [fTest_ev, fOp_ev, fVar_ev (d := .str ⟨#[c]⟩) (by simp)]
                simp only [opK_1, fC_ev, opK2_1, oNotIn_ss, both_c]
                rfl)
              (fun x hx S' _ => by simp)
            have he : ((signsD s).filter p).isEmpty = s.cps.toList.all fun c => decide (c ∈ lets) || decide (c ∈ digs) := by
              unfold signsD
              rw [Bool.eq_iff_iff, List.isEmpty_iff, List.filter_eq_nil_iff, List.all_eq_true]
              constructor
              · intro h c hc
                have := h (.str ⟨#[c]⟩) (List.mem_map.mpr ⟨c, hc, rfl⟩)
                simp [p] at this
                by_cases hl : c ∈ lets
                · simp [hl]
                · simp [hl, this hl]
              · intro h x hx
                obtain ⟨c, hc, rfl⟩ := List.mem_map.mp hx
                have := h c hc
                simp [p] at this ⊢
                intro hl
                rcases this with h | h
                · exact absurd h hl
                · exact h
            have g1 : (S ++ [Ob.lst ((signsD s).filter p)] ++ [Ob.lst []])[S.length]? = some (.lst ((signsD s).filter p)) := by simp
            have g2 : (S ++ [Ob.lst ((signsD s).filter p)] ++ [Ob.lst []])[(S ++ [Ob.lst ((signsD s).filter p)]).length]? = some (.lst []) := by
              rw [List.getElem?_append_right (Nat.le_refl _)]
              simp
            have g3 := eq_ll0 (f := not) g1 g2
            rw [he] at g3
            cases hall : (s.cps.toList.all fun c => decide (c ∈ lets) || decide (c ∈ digs)) with
            | false =>
              have hn : nameOk s = false := by
                unfold nameOk
                rw [hall]
                simp
              rw [hall] at g3
              simp at g3
              exact ⟨[.lst ((signsD s).filter p), .lst []], by simp [-Array.mem_toList_iff, l_is_name, fDef, b__law_is_name, hs, h1', h8', hx, hd', e, g3, mName, hn]⟩
            | true =>
              have hl : c ∈ lets := by
                have := List.all_eq_true.mp hall c (by rw [hc]; exact List.mem_cons_self)
                simpa [hd] using this
              have hn : nameOk s = !(words.any (· == s)) := by
                unfold nameOk
                rw [hall, hc]
                simp [h1, h8, hl]
              rw [hall] at g3
              simp at g3
              have hw' : asStrs [D.str "set", D.str "pay", D.str "stop", D.str "if", D.str "else", D.str "we", D.str "they", D.str "or", D.str "repeat", D.str "pass", D.str "rest", D.str "of", D.str "not", D.str "program"] = some words := asStrs_map words
              let ws : List D := [D.str "set", D.str "pay", D.str "stop", D.str "if", D.str "else", D.str "we", D.str "they", D.str "or", D.str "repeat", D.str "pass", D.str "rest", D.str "of", D.str "not", D.str "program"]
              have g4 : (S ++ [Ob.lst ((signsD s).filter p), Ob.lst [], Ob.lst ws])[S.length + 2]? = some (.lst ws) := by
                rw [List.getElem?_append_right (by omega)]
                simp
              simp only [ws] at g4
              refine ⟨[.lst ((signsD s).filter p), .lst [], .lst ws], ?_⟩
              simp [-asStrs, -Array.mem_toList_iff, l_is_name, fDef, b__law_is_name, hs, h1', h8', hx, hd', e, g3, g4, hw', mName, hn, ws]
      · have h8' : ¬ (s.length : Int) ≤ 8 := by omega
        have hn : nameOk s = false := by unfold nameOk; simp [h8]
        exact ⟨[], by simp [l_is_name, fDef, b__law_is_name, hs, h1', h8', mName, hn]⟩
    · have h1' : ¬ (1 : Int) ≤ (s.length : Int) := by omega
      have hn : nameOk s = false := by unfold nameOk; simp [h1]
      exact ⟨[], by simp [l_is_name, fDef, b__law_is_name, hs, h1', mName, hn]⟩
  | _ => exact ⟨[], by simp [-tyD, l_is_name, fDef, b__law_is_name, h3, isS, mName]⟩
noncomputable def l_is_expression : Nat → Fn
  | 0 => fun _ _ => none
  | k + 1 => fDef 2 2 (b__law_is_expression (l_is_expression k) l_whole l_is_name)
theorem mExpr_leaf {n : Nat} {d : D} (h : isT d = false) : mExpr (n + 1) d = (mWithin (-99) 99 d || mName d) := by
  cases d with
  | tup _ => cases h
  | _ => simp [mExpr]
theorem mExpr_tup {n : Nat} {ds : List D} (h : mForm fE (.tup ds) = false) : mExpr (n + 1) (.tup ds) = false := mExpr_no rfl rfl h
theorem l_is_expression_ok : ∀ (n : Nat) (d : D) (S : Sto), vD S.length d → ∃ z, l_is_expression (n + 1) [d, .int (n : Int)] S = some (.bl (mExpr n d), S ++ z)
  | n, d, S, h => by
    obtain ⟨-, -, -, h4⟩ := kt h
    cases ht : isT d with
    | false =>
      rw [ht] at h4
      cases n with
      | zero =>
        refine ⟨[], ?_⟩
        rw [l_is_expression]
        simp [-tyD, fDef, b__law_is_expression, h4, mExpr]
      | succ n =>
        have n0 : (0 : Int) < (n : Int) + 1 := by omega
        obtain ⟨z1, e1⟩ := l_is_name_ok h
        cases hn : mName d with
        | true =>
          rw [hn] at e1
          refine ⟨z1, ?_⟩
          rw [l_is_expression, mExpr_leaf ht, hn]
          simp [-tyD, fDef, b__law_is_expression, h4, n0, e1]
        | false =>
          rw [hn] at e1
          have w1 := l_whole_ok (lo := -99) (hi := 99) (vD_app (z := z1) h)
          refine ⟨z1, ?_⟩
          rw [l_is_expression, mExpr_leaf ht, hn]
          simp [-tyD, fDef, b__law_is_expression, h4, n0, e1, w1]
    | true =>
      rw [ht] at h4
      have ed := isT_tup ht
      rw [ed] at h4 h ⊢
      generalize items d = ds at h4 h ⊢
      cases n with
      | zero =>
        refine ⟨[], ?_⟩
        rw [l_is_expression]
        simp [fDef, b__law_is_expression, mExpr]
      | succ n =>
        have n0 : ¬ (n : Int) + 1 = 0 := by omega
        by_cases h3 : ds.length = 3
        · obtain ⟨x, a, b, rfl⟩ : ∃ x a b, ds = [x, a, b] := by
            match ds, h3 with
            | [x, a, b], _ => exact ⟨x, a, b, rfl⟩
          rw [vD, vA, vA, vA, vA] at h
          obtain ⟨-, hx, ha, hb, -⟩ := h
          obtain ⟨-, -, hs, -⟩ := kt hx
          cases x with
          | str w =>
            by_cases hw : w = Str.ofString "times"
            · subst hw
              have w1 := l_whole_ok (lo := -9) (hi := 9) ha
              have hm : mExpr (n + 1) (.tup [.str (Str.ofString "times"), a, b]) = (mExpr n b && mWithin (-9) 9 a) := by
                rw [mExpr, if_pos rfl]
                rfl
              cases hwa : mWithin (-9) 9 a with
              | false =>
                rw [hwa] at w1
                refine ⟨[], ?_⟩
                rw [l_is_expression, hm, hwa]
                simp [fDef, b__law_is_expression, n0, w1]
              | true =>
                rw [hwa] at w1
                obtain ⟨z1, e1⟩ := l_is_expression_ok n b S hb
                refine ⟨z1, ?_⟩
                rw [l_is_expression, hm, hwa]
                simp [fDef, b__law_is_expression, n0, w1, e1]
            · have g1 : (S ++ [Ob.lst [.str (Str.ofString "plus"), .str (Str.ofString "minus")]])[S.length]? = some (.lst [.str (Str.ofString "plus"), .str (Str.ofString "minus")]) := by simp
              by_cases hpm : w = Str.ofString "plus" ∨ w = Str.ofString "minus"
              · obtain ⟨z1, e1⟩ := l_is_expression_ok n a (S ++ [Ob.lst [.str (Str.ofString "plus"), .str (Str.ofString "minus")]]) (vD_app ha)
                have hq : ¬ (¬ Str.ofString "plus" = w ∧ ¬ Str.ofString "minus" = w) := by
                  rintro ⟨p1, p2⟩
                  rcases hpm with h | h
                  · exact p1 h.symm
                  · exact p2 h.symm
                have hq2 : (Str.ofString "plus" == w || Str.ofString "minus" == w) = true := by
                  rcases hpm with h | h <;> simp [h]
                have hm : mExpr (n + 1) (.tup [.str w, a, b]) = (mExpr n b && mExpr n a) := by
                  rw [mExpr]
                  simp only [mWithin, mName, Bool.or_self, Bool.false_or]
                  rw [if_neg hw, if_pos hpm]
                cases hma : mExpr n a with
                | false =>
                  rw [hma] at e1
                  refine ⟨[Ob.lst [.str (Str.ofString "plus"), .str (Str.ofString "minus")]] ++ z1, ?_⟩
                  rw [l_is_expression, hm, hma]
                  simp [fDef, b__law_is_expression, n0, hw, hq, hq2] at e1 ⊢
                  simp [e1]
                | true =>
                  rw [hma] at e1
                  obtain ⟨z2, e2⟩ := l_is_expression_ok n b (S ++ [Ob.lst [.str (Str.ofString "plus"), .str (Str.ofString "minus")]] ++ z1) (vD_app (vD_app hb))
                  refine ⟨[Ob.lst [.str (Str.ofString "plus"), .str (Str.ofString "minus")]] ++ z1 ++ z2, ?_⟩
                  rw [l_is_expression, hm, hma]
                  simp [fDef, b__law_is_expression, n0, hw, hq, hq2] at e1 e2 ⊢
                  simp [e1, e2]
              · have hq : (Str.ofString "plus" == w || Str.ofString "minus" == w) = false := by
                  have p1 : ¬ Str.ofString "plus" = w := fun h => hpm (.inl h.symm)
                  have p2 : ¬ Str.ofString "minus" = w := fun h => hpm (.inr h.symm)
                  simp [p1, p2]
                have hq' : ¬ Str.ofString "plus" = w ∧ ¬ Str.ofString "minus" = w := ⟨fun h => hpm (.inl h.symm), fun h => hpm (.inr h.symm)⟩
                have hm : mExpr (n + 1) (.tup [.str w, a, b]) = false := by
                  rw [mExpr]
                  simp only [mWithin, mName, Bool.or_self, Bool.false_or]
                  rw [if_neg hw, if_neg hpm]
                refine ⟨[Ob.lst [.str (Str.ofString "plus"), .str (Str.ofString "minus")]], ?_⟩
                rw [l_is_expression, hm]
                simp [fDef, b__law_is_expression, n0, hw, hq, hq']
          | _ =>
            refine ⟨[], ?_⟩
            rw [l_is_expression, mExpr_tup (by simp [mForm, fE])]
            simp [-tyD, fDef, b__law_is_expression, n0, hs, isS, h4]
        · have hm : mForm fE (.tup ds) = false := by
            cases e : mForm fE (.tup ds) with
            | false => rfl
            | true =>
              obtain ⟨w, a, b, e1, _⟩ := form3 e
              cases e1
              exact absurd rfl h3
          have h3' : ¬ (ds.length : Int) = 3 := by omega
          refine ⟨[], ?_⟩
          rw [l_is_expression, mExpr_tup hm]
          simp [fDef, b__law_is_expression, n0, h3']
  termination_by n => n
/-! ### tests -/
noncomputable def l_is_rest : Fn := fDef 1 1 (b__law_is_rest l_whole (l_is_expression 4))
noncomputable def l_is_test : Nat → Fn
  | 0 => fun _ _ => none
  | k + 1 => fDef 2 2 (b__law_is_test (l_is_expression 4) l_is_rest (l_is_test k))
theorem l_expr3 {S : Sto} {d : D} (h : vD S.length d) : ∃ z, l_is_expression 4 [d, .int 3] S = some (.bl (mExpr 3 d), S ++ z) := l_is_expression_ok 3 d S h
def mRst (b c : D) : Bool := match b with | .int k => mWithin 2 6 b && mWithin 0 (k - 1) c | _ => false
theorem mTest_rest' (n : Nat) (a b c : D) : mTest n (.tup [.str (Str.ofString "rest"), a, b, c]) = (mExpr 3 a && mRst b c) := mTest_rest n a b c
theorem l_is_rest_ok {S : Sto} {x a b c : D} (ha : vD S.length a) (hb : vD S.length b) (hc : vD S.length c) : ∃ z, l_is_rest [.tup [x, a, b, c]] S = some (.bl (mExpr 3 a && mRst b c), S ++ z) := by
  obtain ⟨z1, e1⟩ := l_expr3 ha
  cases h1 : mExpr 3 a with
  | false => rw [h1] at e1; exact ⟨z1, by simp [l_is_rest, fDef, b__law_is_rest, e1]⟩
  | true =>
    rw [h1] at e1
    have w1 := l_whole_ok (lo := 2) (hi := 6) (vD_app (z := z1) hb)
    cases b with
    | int k =>
      cases h2 : mWithin 2 6 (.int k) with
      | false => rw [h2] at w1; exact ⟨z1, by simp [l_is_rest, fDef, b__law_is_rest, e1, w1, mRst, h2]⟩
      | true =>
        rw [h2] at w1
        have w2 := l_whole_ok (lo := 0) (hi := k - 1) (vD_app (z := z1) hc)
        exact ⟨z1, by simp [l_is_rest, fDef, b__law_is_rest, e1, w1, w2, mRst, h2]⟩
    | _ => exact ⟨z1, by simp [l_is_rest, fDef, b__law_is_rest, e1, w1, mWithin, mRst]⟩
theorem get_no {w : Str} {n : Int} (hn : 0 < n) : ∀ (cs : List (Str × Int)), (cs.any fun y => hEqD y.1 (.str w) && y.2 == n) = false → ∃ g, (valD (cKD cs) (.inr w)).getD (.int 0) = .int g ∧ ¬ n = g
  | [], _ => ⟨0, rfl, by omega⟩
  | (a, m) :: r, h => by
    rw [List.any_cons, Bool.or_eq_false_iff] at h
    by_cases e : a = w
    · refine ⟨m, ?_, ?_⟩
      · simp [valD, cKD, e]
      · have := h.1
        simp [e] at this
        exact fun z => this z.symm
    · obtain ⟨g, h1, h2⟩ := get_no hn r h.2
      refine ⟨g, ?_, h2⟩
      rw [← h1]
      simp [valD, cKD, e]
def dT : List (Str × Int) := [("less", 3), ("rest", 4), ("not", 2)]
theorem l_test_no {n : Nat} {d : D} {S : Sto} {k : Nat} (h : vD S.length d) (hf : mForm fT d = false) : ∃ z, l_is_test (k + 1) [d, .int (n : Int)] S = some (.bl false, S ++ z) := by
  obtain ⟨-, -, -, h4⟩ := kt h
  cases ht : isT d with
  | false => rw [ht] at h4; exact ⟨[], by rw [l_is_test]; simp [-tyD, fDef, b__law_is_test, h4]⟩
  | true =>
    have ed := isT_tup ht
    rw [ht] at h4
    rw [ed] at h h4 hf ⊢
    generalize items d = ds at h h4 hf ⊢
    cases ds with
    | nil => exact ⟨[], by rw [l_is_test]; simp [fDef, b__law_is_test]⟩
    | cons x r =>
      rw [vD, vA] at h
      obtain ⟨-, -, hs, -⟩ := kt h.2.1
      cases x with
      | str w =>
        obtain ⟨g, g1, g2⟩ := get_no (w := w) (n := (r.length : Int) + 1) (by omega) fT hf
        have g3 : (S ++ [Ob.dct (cKD fT)])[S.length]? = some (.dct (cKD fT)) := by simp
        simp only [fT] at g1 g3
        exact ⟨[.dct (cKD fT)], by rw [l_is_test]; simp [fDef, b__law_is_test, g1, g2, fT]⟩
      | _ => exact ⟨[], by rw [l_is_test]; simp [-tyD, fDef, b__law_is_test, hs, isS, h4]⟩
theorem v_less : valD (cKD fT) (.inr (Str.ofString "less")) = some (.int 3) := by simp [valD, cKD, fT]
theorem v_rest : valD (cKD fT) (.inr (Str.ofString "rest")) = some (.int 4) := by simp [valD, cKD, fT]
theorem v_not : valD (cKD fT) (.inr (Str.ofString "not")) = some (.int 2) := by simp [valD, cKD, fT]
theorem l_is_test_ok : ∀ (n : Nat) (d : D) (S : Sto), vD S.length d → ∃ z, l_is_test (n + 1) [d, .int (n : Int)] S = some (.bl (mTest n d), S ++ z) := by
  intro n
  have v1 := v_less
  have v2 := v_rest
  have v3 := v_not
  simp only [fT] at v1 v2 v3
  induction n with
  | zero =>
    intro d S h
    cases hf : mForm fT d with
    | false => rw [mTest_no hf]; exact l_test_no h hf
    | true =>
      rcases formT hf with ⟨a, b, rfl⟩ | ⟨a, b, c, rfl⟩ | ⟨a, rfl⟩
      · rw [vD, vA, vA, vA] at h
        obtain ⟨-, -, ha, hb, -⟩ := h
        obtain ⟨z1, e1⟩ := l_expr3 (vD_app (z := [Ob.dct (cKD fT)]) ha)
        simp only [fT] at e1
        rw [mTest_less]
        cases h1 : mExpr 3 a with
        | false => rw [h1] at e1; exact ⟨[Ob.dct (cKD fT)] ++ z1, by rw [l_is_test]; simp [fDef, b__law_is_test, v1, fT] at e1 ⊢; simp [e1]⟩
        | true =>
          rw [h1] at e1
          obtain ⟨z2, e2⟩ := l_expr3 (vD_app (z := z1) (vD_app (z := [Ob.dct (cKD fT)]) hb))
          simp only [fT] at e2
          exact ⟨[Ob.dct (cKD fT)] ++ z1 ++ z2, by rw [l_is_test]; simp [fDef, b__law_is_test, v1, fT] at e1 e2 ⊢; simp [e1, e2]⟩
      · rw [vD, vA, vA, vA, vA] at h
        obtain ⟨-, -, ha, hb, hc, -⟩ := h
        obtain ⟨z1, e1⟩ := l_is_rest_ok (x := .str (Str.ofString "rest")) (vD_app (z := [Ob.dct (cKD fT)]) ha) (vD_app hb) (vD_app hc)
        simp only [fT] at e1
        rw [mTest_rest']
        exact ⟨[Ob.dct (cKD fT)] ++ z1, by rw [l_is_test]; simp [fDef, b__law_is_test, v2, fT] at e1 ⊢; simp [e1]⟩
      · rw [mTest_not0]
        exact ⟨[Ob.dct (cKD fT)], by rw [l_is_test]; simp [fDef, b__law_is_test, v3, fT]⟩
  | succ n ih =>
    intro d S h
    cases hf : mForm fT d with
    | false => rw [mTest_no hf]; exact l_test_no h hf
    | true =>
      rcases formT hf with ⟨a, b, rfl⟩ | ⟨a, b, c, rfl⟩ | ⟨a, rfl⟩
      · rw [vD, vA, vA, vA] at h
        obtain ⟨-, -, ha, hb, -⟩ := h
        obtain ⟨z1, e1⟩ := l_expr3 (vD_app (z := [Ob.dct (cKD fT)]) ha)
        simp only [fT] at e1
        rw [mTest_less]
        cases h1 : mExpr 3 a with
        | false => rw [h1] at e1; exact ⟨[Ob.dct (cKD fT)] ++ z1, by rw [l_is_test]; simp [fDef, b__law_is_test, v1, fT] at e1 ⊢; simp [e1]⟩
        | true =>
          rw [h1] at e1
          obtain ⟨z2, e2⟩ := l_expr3 (vD_app (z := z1) (vD_app (z := [Ob.dct (cKD fT)]) hb))
          simp only [fT] at e2
          exact ⟨[Ob.dct (cKD fT)] ++ z1 ++ z2, by rw [l_is_test]; simp [fDef, b__law_is_test, v1, fT] at e1 e2 ⊢; simp [e1, e2]⟩
      · rw [vD, vA, vA, vA, vA] at h
        obtain ⟨-, -, ha, hb, hc, -⟩ := h
        obtain ⟨z1, e1⟩ := l_is_rest_ok (x := .str (Str.ofString "rest")) (vD_app (z := [Ob.dct (cKD fT)]) ha) (vD_app hb) (vD_app hc)
        simp only [fT] at e1
        rw [mTest_rest']
        exact ⟨[Ob.dct (cKD fT)] ++ z1, by rw [l_is_test]; simp [fDef, b__law_is_test, v2, fT] at e1 ⊢; simp [e1]⟩
      · rw [vD, vA, vA] at h
        obtain ⟨-, -, ha, -⟩ := h
        obtain ⟨z1, e1⟩ := ih a (S ++ [Ob.dct (cKD fT)]) (vD_app ha)
        have n0 : (0 : Int) < (n : Int) + 1 := by omega
        simp only [fT] at e1
        rw [mTest_not]
        exact ⟨[Ob.dct (cKD fT)] ++ z1, by rw [l_is_test]; simp [fDef, b__law_is_test, v3, fT, n0] at e1 ⊢; simp [e1]⟩
end PE

set_option Elab.async false
set_option linter.all false
set_option maxRecDepth 100000
set_option maxHeartbeats 1000000
namespace PE
open PySem L2 DL PG
noncomputable def l_is_statement : Fn := fDef 1 3 (b__law_is_statement l_parts l_whole (l_is_test 3) (l_is_expression 4) l_is_name)
def fSL : List (Str × Int) := [("set", 3), ("pay", 2), ("stop", 1), ("if", 4), ("we", 3), ("they", 3), ("repeat", 3)]
theorem fSL_no {d : D} {w : Str} {r : List D} (h : mForm fS (.tup (.str w :: r)) = false) : (fSL.any fun y => hEqD y.1 (.str w) && y.2 == ((r.length : Int) + 1)) = false := by
  unfold mForm fS at h
  unfold fSL
  simp only [List.any_cons, List.any_nil, Bool.or_false, Bool.or_eq_false_iff] at h ⊢
  obtain ⟨h1, h2, h3, h4, h5, h6, h7⟩ := h
  exact ⟨h1, h2, h7, h3, h4, h5, h6⟩
theorem l_stmt_no {d : D} {S : Sto} (h : vD S.length d) (hf : mForm fS d = false) : ∃ z, l_is_statement [d] S = some (.bl false, S ++ z) := by
  obtain ⟨-, -, -, h4⟩ := kt h
  cases ht : isT d with
  | false => rw [ht] at h4; exact ⟨[], by simp [-tyD, l_is_statement, fDef, b__law_is_statement, h4]⟩
  | true =>
    have ed := isT_tup ht
    rw [ht] at h4
    rw [ed] at h h4 hf ⊢
    generalize items d = ds at h h4 hf ⊢
    cases ds with
    | nil => exact ⟨[], by simp [l_is_statement, fDef, b__law_is_statement]⟩
    | cons x r =>
      rw [vD, vA] at h
      obtain ⟨-, -, hs, -⟩ := kt h.2.1
      cases x with
      | str w =>
        obtain ⟨g, g1, g2⟩ := get_no (w := w) (n := (r.length : Int) + 1) (by omega) fSL (fSL_no (d := d) hf)
        simp only [fSL] at g1
        exact ⟨[.dct (cKD fSL)], by simp [l_is_statement, fDef, b__law_is_statement, g1, g2, fSL]⟩
      | _ => exact ⟨[], by simp [-tyD, l_is_statement, fDef, b__law_is_statement, hs, isS, h4]⟩
theorem none_but_tups {S : Sto} {bs : List D} {δ : DEnv} (hδ : 2 < δ.length) (hz : bs.length ≤ 10) (hv : ∀ b ∈ bs, vD S.length b) :
    lcF none 2 S.length (fNot (fTest (fIsi "tuple" (fVar 2)))) (fVar 2) bs δ (S ++ [.lst []]) = some (.loc S.length, S ++ [.lst (bs.filter fun b => !isT b)]) := by
  refine lc_filt0 (p := fun b => !isT b) (by omega) (fun x hx S' hS => ?_) (fun x hx S' hS => by simp [hδ])
  obtain ⟨-, -, -, h4⟩ := kt (vD_mono hS x (hv x hx))
  simp [-tyD, hδ, h4]
theorem nb_eq {S : Sto} (bs : List D) : oEq id (.loc S.length) (.loc (S.length + 1)) (S ++ [.lst (bs.filter fun b => !isT b), .lst []]) = some (.bl (bs.all isT), S ++ [.lst (bs.filter fun b => !isT b), .lst []]) := by
  have g1 : (S ++ [Ob.lst (bs.filter fun b => !isT b), .lst []])[S.length]? = some (.lst (bs.filter fun b => !isT b)) := by simp
  have g2 : (S ++ [Ob.lst (bs.filter fun b => !isT b), .lst []])[S.length + 1]? = some (.lst []) := by
    rw [List.getElem?_append_right (by omega)]
    simp
  rw [eq_ll0 g1 g2]
  have : (bs.filter fun b => !isT b).isEmpty = bs.all isT := by
    rw [Bool.eq_iff_iff, List.isEmpty_iff, List.filter_eq_nil_iff, List.all_eq_true]
    simp
  rw [this]
  rfl
theorem vS {w : Str} {m : Int} (h : valD (cKD fSL) (.inr w) = some (.int m)) : valD (cKD [(Str.ofString "set", 3), (Str.ofString "pay", 2), (Str.ofString "stop", 1), (Str.ofString "if", 4), (Str.ofString "we", 3), (Str.ofString "they", 3), (Str.ofString "repeat", 3)]) (.inr w) = some (.int m) := h
theorem l_is_statement_ok {S : Sto} {d : D} {bs : List D} {k : Bool} (hv : vD S.length d) (h : mSt d bs k) : ∃ z, l_is_statement [d] S = some (.bl k, S ++ z) := by
  rcases h with h | ⟨h, rfl, rfl⟩
  · have hb := fun S => l_parts_ok (S := S) h
    let d0 : Ob := .dct (cKD fSL)
    cases h with
    | stop =>
      have v := vS (w := Str.ofString "stop") (m := 1) (by simp [valD, cKD, fSL])
      have e := none_but_tups (S := S ++ [d0]) (bs := []) (δ := [some (.tup [.str (Str.ofString "stop")]), some (.loc S.length), none]) (by simp) (by simp) (fun b h => absurd h List.not_mem_nil)
      have g := nb_eq (S := S ++ [d0]) []
      simp [d0, fSL] at g
      exact ⟨_, by simp [l_is_statement, fDef, b__law_is_statement, v, hb, g]; rfl⟩
    | pay a =>
      rw [vD, vA, vA] at hv
      have v := vS (w := Str.ofString "pay") (m := 2) (by simp [valD, cKD, fSL])
      obtain ⟨z, e⟩ := l_expr3 (vD_app (z := [d0]) hv.2.2.1)
      simp only [d0, fSL] at e
      exact ⟨[d0] ++ z, by simp [l_is_statement, fDef, b__law_is_statement, v, e, d0, fSL]⟩
    | set a b =>
      rw [vD, vA, vA, vA] at hv
      have v := vS (w := Str.ofString "set") (m := 3) (by simp [valD, cKD, fSL])
      obtain ⟨z, e⟩ := l_is_name_ok (vD_app (z := [d0]) hv.2.2.1)
      simp only [d0, fSL] at e
      cases ha : mName a with
      | false => rw [ha] at e; exact ⟨[d0] ++ z, by simp [l_is_statement, fDef, b__law_is_statement, v, e, d0, fSL]⟩
      | true =>
        rw [ha] at e
        obtain ⟨z2, e2⟩ := l_expr3 (vD_app (z := z) (vD_app (z := [d0]) hv.2.2.2.1))
        simp only [d0, fSL] at e2
        exact ⟨[d0] ++ z ++ z2, by simp [l_is_statement, fDef, b__law_is_statement, v, e, d0, fSL] at e2 ⊢; simp [e2]⟩
    | we a b =>
      rw [vD, vA, vA, vA] at hv
      have v := vS (w := Str.ofString "we") (m := 3) (by simp [valD, cKD, fSL])
      have e := none_but_tups (S := S ++ [d0]) (bs := [a, b]) (δ := [some (.tup [.str (Str.ofString "we"), a, b]), some (.loc S.length), none]) (by simp) (by simp) (fun x h => by simp at h; rcases h with rfl | rfl; exact vD_app hv.2.2.1; exact vD_app hv.2.2.2.1)
      have g := nb_eq (S := S ++ [d0]) [a, b]
      simp only [d0, fSL, List.append_assoc, List.length_append, List.length_singleton, List.cons_append, List.nil_append] at g e
      simp only [List.all_cons, List.all_nil, Bool.and_true] at g
      exact ⟨[d0, .lst ([a, b].filter fun b => !isT b), .lst []], by simp [-lcF_cons0, l_is_statement, fDef, b__law_is_statement, v, hb, e, g, d0, fSL]⟩
    | they a b =>
      rw [vD, vA, vA, vA] at hv
      have v := vS (w := Str.ofString "they") (m := 3) (by simp [valD, cKD, fSL])
      have e := none_but_tups (S := S ++ [d0]) (bs := [a, b]) (δ := [some (.tup [.str (Str.ofString "they"), a, b]), some (.loc S.length), none]) (by simp) (by simp) (fun x h => by simp at h; rcases h with rfl | rfl; exact vD_app hv.2.2.1; exact vD_app hv.2.2.2.1)
      have g := nb_eq (S := S ++ [d0]) [a, b]
      simp only [d0, fSL, List.append_assoc, List.length_append, List.length_singleton, List.cons_append, List.nil_append] at g e
      simp only [List.all_cons, List.all_nil, Bool.and_true] at g
      exact ⟨[d0, .lst ([a, b].filter fun b => !isT b), .lst []], by simp [-lcF_cons0, l_is_statement, fDef, b__law_is_statement, v, hb, e, g, d0, fSL]⟩
    | rep a b =>
      rw [vD, vA, vA, vA] at hv
      have v := vS (w := Str.ofString "repeat") (m := 3) (by simp [valD, cKD, fSL])
      have w1 := l_whole_ok (lo := 1) (hi := 8) (vD_app (z := [d0]) hv.2.2.1)
      simp only [d0, fSL] at w1
      cases hw : mWithin 1 8 a with
      | false => rw [hw] at w1; exact ⟨[d0], by simp [l_is_statement, fDef, b__law_is_statement, v, w1, d0, fSL]⟩
      | true =>
        rw [hw] at w1
        have e := none_but_tups (S := S ++ [d0]) (bs := [b]) (δ := [some (.tup [.str (Str.ofString "repeat"), a, b]), some (.loc S.length), none]) (by simp) (by simp) (fun x h => by simp at h; rw [h]; exact vD_app hv.2.2.2.1)
        have g := nb_eq (S := S ++ [d0]) [b]
        simp only [d0, fSL, List.append_assoc, List.length_append, List.length_singleton, List.cons_append, List.nil_append] at g e
        simp only [List.all_cons, List.all_nil, Bool.and_true] at g
        exact ⟨[d0, .lst ([b].filter fun b => !isT b), .lst []], by simp [-lcF_cons0, l_is_statement, fDef, b__law_is_statement, v, hb, w1, e, g, d0, fSL]⟩
    | iff a b c =>
      rw [vD, vA, vA, vA, vA] at hv
      have v := vS (w := Str.ofString "if") (m := 4) (by simp [valD, cKD, fSL])
      obtain ⟨z, e1⟩ := l_is_test_ok 2 a (S ++ [d0]) (vD_app hv.2.2.1)
      have e1 : l_is_test 3 [a, .int 2] (S ++ [d0]) = some (.bl (mTest 2 a), S ++ [d0] ++ z) := e1
      simp only [d0, fSL, List.append_assoc, List.cons_append, List.nil_append] at e1
      cases hw : mTest 2 a with
      | false => rw [hw] at e1; exact ⟨[d0] ++ z, by simp [l_is_statement, fDef, b__law_is_statement, v, e1, d0, fSL]⟩
      | true =>
        rw [hw] at e1
        have e := none_but_tups (S := S ++ (d0 :: z)) (bs := [b, c]) (δ := [some (.tup [.str (Str.ofString "if"), a, b, c]), some (.loc S.length), none]) (by simp) (by simp) (fun x h => by simp at h; rcases h with rfl | rfl; exact vD_app hv.2.2.2.1; exact vD_app hv.2.2.2.2.1)
        have g := nb_eq (S := S ++ (d0 :: z)) [b, c]
        simp only [d0, fSL, List.append_assoc, List.length_append, List.length_cons, List.cons_append] at g e
        rw [Nat.add_assoc] at g
        simp only [List.all_cons, List.all_nil, Bool.and_true] at g
        exact ⟨(d0 :: z) ++ [.lst ([b, c].filter fun b => !isT b), .lst []], by simp [-lcF_cons0, l_is_statement, fDef, b__law_is_statement, v, hb, e1, e, g, d0, fSL]⟩
  · exact l_stmt_no hv h
/-! ### the law's counting -/
noncomputable def l_counts : Nat → Fn
  | 0 => fun _ _ => none
  | k + 1 => fDef 1 9 (b__law_counts l_parts (l_counts k))
def b2 (b : Bool) : Int := if b then 1 else 0
def own0 (s : Sm) : Lf := ⟨1, 1, b2 (isC s), b2 (isR s), b2 (isL s)⟩
def foldC (t : Int) : List (List Sm) → Lf → Lf
  | [], v => v
  | b :: bb, v => foldC t bb (v.add ((cA b).scale t))
theorem foldC_cS (s : Sm) : foldC (tm s) (Sm.bl s) (own0 s) = cS s := by
  cases s with
  | iff t y n =>
    simp only [foldC, Sm.bl, tm, own0, cS, isC, isR, isL, teC]
    by_cases h : t.isRest = true <;> apply Lf.ext <;> simp [Lf.add, Lf.scale, u1, b2, h] <;> omega
  | we y n => apply Lf.ext <;> simp [foldC, Sm.bl, tm, own0, cS, isC, isR, isL, Lf.add, Lf.scale, u1, uC, b2] <;> omega
  | they y n => apply Lf.ext <;> simp [foldC, Sm.bl, tm, own0, cS, isC, isR, isL, Lf.add, Lf.scale, u1, uC, b2] <;> omega
  | rep k b => apply Lf.ext <;> simp [foldC, Sm.bl, tm, own0, cS, isC, isR, isL, Lf.add, Lf.scale, u1, b2]
  | _ => simp [foldC, Sm.bl, own0, cS, isC, isR, isL, u1, b2]
def Lf.get (v : Lf) : Nat → Int
  | 0 => v.a | 1 => v.b | 2 => v.c | 3 => v.d | _ => v.e
theorem get_ix (v : Lf) (k : Nat) (h : k < 5) : atI v.ds (k : Int) = some (.int (Lf.get v k)) := by
  match k, h with
  | 0, _ => rfl
  | 1, _ => rfl
  | 2, _ => rfl
  | 3, _ => rfl
  | 4, _ => rfl
theorem rng_15 : rangeD 1 4 = [1, 2, 3, 4].map (fun k : Nat => D.int (k : Int)) := rfl
theorem rng_5 : rangeD 0 5 = [0, 1, 2, 3, 4].map (fun k : Nat => D.int (k : Int)) := rfl
def LCntOk (f : Fn) (k : Nat) : Prop := ∀ (b : List Sm) (S : Sto), okA b → hA b ≤ k → ∃ l S', f [.tup (dA b)] S = some (.loc l, S') ∧ Ext S S' ∧ S'[l]? = some (.lst (cA b).ds)
noncomputable abbrev lcT (f : Fn) : FS := (fsSeq (fsAsg (fTup (fCons (fCall f (fCons (fVar 5) fNil)) (fCons (fIfE (fTest (fOp (oEq id) (fOp oIx (fVar 2) (fC (.int 0))) (fC (.str "repeat")))) (fOp oIx (fVar 2) (fC (.int 1))) (fC (.int 1))) fNil))) (fg2 (fgName 6) (fgName 7)))
    (fsAsg (fOp oAdd (fLst (fCons (fOp oAdd (fOp oIx (fVar 4) (fC (.int 0))) (fOp oIx (fVar 6) (fC (.int 0)))) fNil)) (fLc (fiRng2 (fCons (fC (.int 1)) (fCons (fC (.int 5)) fNil))) 8 fYes (fOp oAdd (fOp oIx (fVar 4) (fVar 8)) (fOp oMul (fVar 7) (fOp oIx (fVar 6) (fVar 8)))))) (fgName 4)))
theorem parts_loop {f : Fn} {k : Nat} (hf : LCntOk f k) {b0 f1 x3 : Option D} {s : Sm} (hs : s.ok) : ∀ (bb : List (List Sm)) (S : Sto) (v : Lf) (o : Nat) (x5 x6 x7 : Option D), (∀ b ∈ bb, okA b ∧ hA b ≤ k) → S[o]? = some (.lst v.ds) →
    ∃ S' o' x5' x6' x7', forF none (fgName 5) (lcT f) (bb.map bD) [b0, f1, some s.d, x3, some (.loc o), x5, x6, x7, none] S = some (.nx [b0, f1, some s.d, x3, some (.loc o'), x5', x6', x7', none], S') ∧ Ext S S' ∧ S'[o']? = some (.lst (foldC (tm s) bb v).ds)
  | [], S, v, o, x5, x6, x7, _, h => ⟨S, o, x5, x6, x7, by simp, .refl S, h⟩
  | b :: bb, S, v, o, x5, x6, x7, hb, h => by
    obtain ⟨l, S1, e1, hx1, h1⟩ := hf b S (hb b List.mem_cons_self).1 (hb b List.mem_cons_self).2
    have ho1 := hx1.at h
    have ht := tm_ok hs
    have pm : ∀ j S, oMul (.int (tm s)) (.int j) S = some (.int (tm s * j), S) := fun j S => oMul_int (.inl ⟨by omega, by omega⟩)
    obtain ⟨w, rr, hd, hw⟩ := head_rep s
    let S2 : Sto := S1 ++ [.lst [.int (v.a + (cA b).a)]]
    obtain ⟨S3, e3, hx3, h3⟩ := lc_ext (inj := fun k : Nat => D.int (k : Int)) (g := fun k => .int (Lf.get v k + tm s * Lf.get (cA b) k)) (k := 8) (l := S2.length) (S0 := S2) (e := (fOp oAdd (fOp oIx (fVar 4) (fVar 8)) (fOp oMul (fVar 7) (fOp oIx (fVar 6) (fVar 8)))))
      (δ := [b0, f1, some s.d, x3, some (.loc o), some (bD b), some (.loc l), some (.int (tm s)), none]) (Nat.le_refl _) [1, 2, 3, 4] (S2 ++ [.lst []]) [] ⟨_, rfl⟩ (by simp) (by simp) (fun x hx S' hS => by
        have hx5 : x < 5 := by simp at hx; omega
        have a1 := hS.at ((Ext.new S1 _).at ho1)
        have a2 := hS.at ((Ext.new S1 _).at h1)
        exact ⟨[], by simp [a1, a2, get_ix v x hx5, get_ix (cA b) x hx5, pm]⟩)
    rw [← rng_15] at e3
    have hx13 : Ext S1 S3 := (Ext.new S1 _).trans hx3
    have h2 : S3[S1.length]? = some (.lst [.int (v.a + (cA b).a)]) := hx3.at (by simp [S2])
    have h3' : S3[S2.length]? = some (.lst [.int (v.b + tm s * (cA b).b), .int (v.c + tm s * (cA b).c), .int (v.d + tm s * (cA b).d), .int (v.e + tm s * (cA b).e)]) := h3
    obtain ⟨S', o', a5, a6, a7, e', hx', h'⟩ := parts_loop hf (b0 := b0) (f1 := f1) (x3 := x3) hs bb (S3 ++ [.lst (v.add ((cA b).scale (tm s))).ds]) (v.add ((cA b).scale (tm s))) S3.length (some (bD b)) (some (.loc l)) (some (.int (tm s))) (fun y hy => hb y (List.mem_cons_of_mem _ hy)) (by simp)
    refine ⟨S', o', a5, a6, a7, ?_, (hx1.trans hx13).trans ((Ext.new S3 _).trans hx'), h'⟩
    have x0 := (ix5 v).1
    have y0 := (ix5 (cA b)).1
    have ed : (v.add ((cA b).scale (tm s))).ds = [.int (v.a + (cA b).a), .int (v.b + tm s * (cA b).b), .int (v.c + tm s * (cA b).c), .int (v.d + tm s * (cA b).d), .int (v.e + tm s * (cA b).e)] := rfl
    rw [ed] at e'
    have l2 : S2.length = S1.length + 1 := by simp [S2]
    rw [l2] at e3 h3'
    simp only [S2, List.append_assoc, List.cons_append, List.nil_append] at e3
    have e1' : f [bD b] S = some (.loc l, S1) := e1
    rcases hw with ⟨rfl, r', rfl⟩ | ⟨hw, h1t⟩
    · rw [hd] at e' e3 ⊢
      simp [-lcF_cons0, e1', ho1, h1, x0, y0, e3, h2, h3', e']
    · rw [hd] at e' e3 ⊢
      rw [h1t] at e' e3 h3'
      simp [-lcF_cons0, hw, e1', ho1, h1, x0, y0, e3, h2, h3']
      simp at e'
      exact e'
noncomputable abbrev lwC : FT := (fTest (fOp (oEq id) (fOp oIx (fVar 3) (fC (.int 0))) (fC (.str "not"))))
noncomputable abbrev lwB : FS := (fsAsg (fOp oIx (fVar 3) (fC (.int 1))) (fgName 3))
theorem nots_while3 {S : Sto} {a b c x4 x5 x6 x7 x8 : Option D} : ∀ (t : Te) (n : Nat), Te.dep t < n → whileF lwC lwB n [a, b, c, some t.d, x4, x5, x6, x7, x8] S = some (.nx [a, b, c, some (Te.base t).d, x4, x5, x6, x7, x8], S)
  | .less _ _, n + 1, _ => by rw [whileF_succ]; simp [Te.d, Te.base]
  | .rest _ _ _, n + 1, _ => by rw [whileF_succ]; simp [Te.d, Te.base]
  | .no t, n + 1, h => by
    have ih := nots_while3 (S := S) (a := a) (b := b) (c := c) (x4 := x4) (x5 := x5) (x6 := x6) (x7 := x7) (x8 := x8) t n (by simp only [Te.dep] at h; omega)
    rw [whileF_succ]
    simp [Te.d, Te.base, ih]
  | .less _ _, 0, h => by omega
  | .rest _ _ _, 0, h => by omega
  | .no _, 0, h => by omega
theorem fuel_succ : fuelW = 999999 + 1 := rfl
/-- what the law reads off a statement's head and test -/
theorem head_all {s : Sm} (hs : s.ok) : ∃ w r y3 w3 r3, s.d = .tup (.str w :: r) ∧ (Str.ofString "we" == w || Str.ofString "they" == w) = isC s ∧ ((w = Str.ofString "if" ∧ ∃ r', r = y3 :: r') ∨ (w ≠ Str.ofString "if" ∧ y3 = .tup [.str (Str.ofString "none")])) ∧
    (∀ (S : Sto) (a b c x4 x5 x6 x7 x8 : Option D), whileF lwC lwB fuelW [a, b, c, some y3, x4, x5, x6, x7, x8] S = some (.nx [a, b, c, some (.tup (.str w3 :: r3)), x4, x5, x6, x7, x8], S)) ∧ decide (w3 = Str.ofString "rest") = isR s ∧ decide (w3 = Str.ofString "less") = isL s := by
  cases s with
  | iff t y n =>
    simp only [Sm.ok] at hs
    have hd := dep_ok t hs.1
    obtain ⟨r, hr⟩ := base_d t
    refine ⟨_, _, t.d, (if t.isRest = true then Str.ofString "rest" else Str.ofString "less"), r, by rw [Sm.d], by simp [isC], .inl ⟨rfl, _, rfl⟩, fun S a b c x4 x5 x6 x7 x8 => ?_, ?_, ?_⟩
    · rw [nots_while3 t fuelW (by unfold fuelW; omega), hr]
    · cases h : t.isRest <;> simp [isR, h]
    · cases h : t.isRest <;> simp [isL, h]
  | _ =>
    refine ⟨_, _, _, Str.ofString "none", [], by rw [Sm.d], by simp [isC], .inr ⟨by simp, rfl⟩, fun S a b c x4 x5 x6 x7 x8 => ?_, by simp [isR], by simp [isL]⟩
    rw [fuel_succ, whileF_succ]
    simp
noncomputable def ownE : FE := (fLst (fCons (fC (.int 1)) (fCons (fC (.int 1)) (fCons (fCB bInt (fCons (fOp oIn (fOp oIx (fVar 2) (fC (.int 0))) (fTup (fCons (fC (.str "we")) (fCons (fC (.str "they")) fNil)))) fNil)) (fCons (fCB bInt (fCons (fOp (oEq id) (fOp oIx (fVar 3) (fC (.int 0))) (fC (.str "rest"))) fNil)) (fCons (fCB bInt (fCons (fOp (oEq id) (fOp oIx (fVar 3) (fC (.int 0))) (fC (.str "less"))) fNil)) fNil))))))
theorem own_ev {s : Sm} {w w3 : Str} {r r3 : List D} {a b x4 x5 x6 x7 x8 : Option D} {S : Sto} (hc : (Str.ofString "we" == w || Str.ofString "they" == w) = isC s) (hR : decide (w3 = Str.ofString "rest") = isR s) (hL : decide (w3 = Str.ofString "less") = isL s) :
    ownE [a, b, some (.tup (.str w :: r)), some (.tup (.str w3 :: r3)), x4, x5, x6, x7, x8] S = some (.loc S.length, S ++ [.lst (own0 s).ds]) := by
  have e1 : oIn (.str w) (.tup [.str (Str.ofString "we"), .str (Str.ofString "they")]) S = some (.bl (isC s), S) := by
    rw [oIn_st, ← hc]
    simp only [asStrs, Option.map_some, List.any_cons, List.any_nil, Bool.or_false]
  have e2 : oEq id (.str w3) (.str (Str.ofString "rest")) S = some (.bl (isR s), S) := by rw [oEq_str, hR]; rfl
  have e3 : oEq id (.str w3) (.str (Str.ofString "less")) S = some (.bl (isL s), S) := by rw [oEq_str, hL]; rfl
  simp [-oIn_st, -oEq_str, ownE, e1, e2, e3]
  rfl
noncomputable abbrev lrT (f : Fn) : FS := (fsSeq (fsAsg (fIfE (fTest (fOp (oEq id) (fOp oIx (fVar 2) (fC (.int 0))) (fC (.str "if")))) (fOp oIx (fVar 2) (fC (.int 1))) (fTup (fCons (fC (.str "none")) fNil))) (fgName 3))
    (fsSeq (fsWhile lwC lwB)
    (fsSeq (fsAsg ownE (fgName 4))
    (fsSeq (fsFor (fiAny (fCall l_parts (fCons (fVar 2) fNil))) (fgName 5) (lcT f))
    (fsAsg (fLc (fiRng1 (fCons (fC (.int 5)) fNil)) 8 fYes (fOp oAdd (fOp oIx (fVar 1) (fVar 8)) (fOp oIx (fVar 4) (fVar 8)))) (fgName 1))))))
theorem rows_lloop {f : Fn} {k : Nat} (hf : LCntOk f k) {b0 : Option D} : ∀ (b : List Sm) (S : Sto) (v : Lf) (o : Nat) (x2 x3 x4 x5 x6 x7 : Option D), okA b → hA b ≤ k + 1 → S[o]? = some (.lst v.ds) →
    ∃ S' o' x2' x3' x4' x5' x6' x7', forF none (fgName 2) (lrT f) (dA b) [b0, some (.loc o), x2, x3, x4, x5, x6, x7, none] S = some (.nx [b0, some (.loc o'), x2', x3', x4', x5', x6', x7', none], S') ∧ Ext S S' ∧ S'[o']? = some (.lst (v.add (cA b)).ds)
  | [], S, v, o, x2, x3, x4, x5, x6, x7, _, _, h => ⟨S, o, x2, x3, x4, x5, x6, x7, by rw [dA]; simp, .refl S, by rw [cA_nil, add_u0]; exact h⟩
  | s :: r, S, v, o, x2, x3, x4, x5, x6, x7, ho, hh, h => by
    rw [okA_cons] at ho
    rw [hA_cons] at hh
    obtain ⟨w, rr, y3, w3, r3, hd, hc, hif, hwh, hR, hL⟩ := head_all ho.1
    let S1 : Sto := S ++ [.lst (own0 s).ds]
    have h1 : S1[S.length]? = some (.lst (own0 s).ds) := by simp [S1]
    have hb := l_parts_ok (S := S1) (sm_shp s ho.1)
    obtain ⟨S2, o2, a5, a6, a7, e2, hx2, h2⟩ := parts_loop hf (b0 := b0) (f1 := some (.loc o)) (x3 := some (.tup (.str w3 :: r3))) ho.1 (Sm.bl s) S1 (own0 s) S.length x5 x6 x7 (fun b hb => ⟨ok_bl ho.1 b hb, by have := hB_mem hb; rw [← hS_bl] at this; omega⟩) h1
    rw [foldC_cS] at h2
    have ho2 : S2[o]? = some (.lst v.ds) := hx2.at ((Ext.new S _).at h)
    obtain ⟨S3, e3, hx3, h3⟩ := lc_ext (inj := fun k : Nat => D.int (k : Int)) (g := fun k => .int (Lf.get v k + Lf.get (cS s) k)) (k := 8) (l := S2.length) (S0 := S2) (e := (fOp oAdd (fOp oIx (fVar 1) (fVar 8)) (fOp oIx (fVar 4) (fVar 8))))
      (δ := [b0, some (.loc o), some s.d, some (.tup (.str w3 :: r3)), some (.loc o2), a5, a6, a7, none]) (Nat.le_refl _) [0, 1, 2, 3, 4] (S2 ++ [.lst []]) [] ⟨_, rfl⟩ (by simp) (by simp) (fun x hx S' hS => by
        have hx5 : x < 5 := by simp at hx; omega
        have b1 := hS.at ho2
        have b2 := hS.at h2
        exact ⟨[], by simp [b1, b2, get_ix v x hx5, get_ix (cS s) x hx5]⟩)
    rw [← rng_5] at e3
    have h3' : S3[S2.length]? = some (.lst (v.add (cS s)).ds) := h3
    obtain ⟨S', o', c2, c3, c4, c5, c6, c7, e', hx', h'⟩ := rows_lloop hf (b0 := b0) r S3 (v.add (cS s)) S2.length (some s.d) (some (.tup (.str w3 :: r3))) (some (.loc o2)) a5 a6 a7 ho.2 (by omega) h3'
    refine ⟨S', o', c2, c3, c4, c5, c6, c7, ?_, ((Ext.new S _).trans hx2).trans (hx3.trans hx'), by rw [cA_cons, ← add_assoc]; exact h'⟩
    have ow := fun S => own_ev (s := s) (w := w) (w3 := w3) (r := rr) (r3 := r3) (a := b0) (b := some (.loc o)) (x4 := x4) (x5 := x5) (x6 := x6) (x7 := x7) (x8 := none) (S := S) hc hR hL
    simp only [S1] at e2 hb
    rw [dA]
    rcases hif with ⟨rfl, r', rfl⟩ | ⟨hw, rfl⟩
    · rw [hd] at e2 e3 e' hb ⊢
      simp [-lcF_cons0, hwh, ow, hb, e2, e3, e']
    · rw [hd] at e2 e3 e' hb ⊢
      simp [-lcF_cons0, hw, hwh, ow, hb, e2, e3, e']
theorem l_counts_ok : ∀ k, LCntOk (l_counts (k + 1)) k
  | 0, b, S, ho, hh => by
    cases b with
    | nil =>
      refine ⟨S.length, S ++ [.lst u0.ds], ?_, .new _ _, by rw [cA_nil]; simp⟩
      rw [dA, l_counts]
      simp [fDef, b__law_counts]
      rfl
    | cons s r => rw [hA_cons] at hh; omega
  | k + 1, b, S, ho, hh => by
    obtain ⟨S', o', c2, c3, c4, c5, c6, c7, e, hx, h⟩ := rows_lloop (l_counts_ok k) (b0 := some (.tup (dA b))) b (S ++ [.lst u0.ds]) u0 S.length none none none none none none ho hh (by simp)
    rw [u0_add] at h
    refine ⟨o', S', ?_, (Ext.new S _).trans hx, h⟩
    rw [l_counts]
    have eu : u0.ds = [.int 0, .int 0, .int 0, .int 0, .int 0] := rfl
    simp only [lrT, ownE, eu] at e
    simp [fDef, b__law_counts, e]
end PE

set_option Elab.async false
set_option linter.all false
set_option maxRecDepth 100000
set_option maxHeartbeats 1000000
namespace PE
open PySem L2 DL PG
/-! ### the law's walk with a stack -/
mutual
def szD : D → Nat
  | .tup ds => 1 + szA ds
  | .non => 1 | .bl _ => 1 | .int _ => 1 | .str _ => 1 | .loc _ => 1 | .scr _ => 1
def szA : List D → Nat
  | [] => 0
  | d :: r => szD d + szA r
end
theorem szD_pos (d : D) : 1 ≤ szD d := by cases d <;> simp [szD]
def pr (p : Int × D) : D := .tup [.int p.1, p.2]
def stkD (st : List (Int × D)) : List D := (st.map pr).reverse
def at_ (d : Int) (ds : List D) : List (Int × D) := ds.map fun x => (d, x)
def kids (d : Int) : List D → List (Int × D)
  | [] => []
  | b :: bs => at_ d (items b) ++ kids d bs
/-- all but L stays -/
structure EL (L : Nat) (S S' : Sto) : Prop where
  len : S.length ≤ S'.length
  at_ : ∀ (l : Nat) (o : Ob), l ≠ L → S[l]? = some o → S'[l]? = some o
theorem EL.refl (L : Nat) (S : Sto) : EL L S S := ⟨Nat.le_refl _, fun _ _ _ h => h⟩
theorem EL.trans {L : Nat} {S S1 S2 : Sto} (a : EL L S S1) (b : EL L S1 S2) : EL L S S2 := ⟨Nat.le_trans a.len b.len, fun l o h1 h => b.at_ l o h1 (a.at_ l o h1 h)⟩
theorem EL.ext {L : Nat} {S S1 : Sto} (e : Ext S S1) : EL L S S1 := ⟨e.len, fun l o _ h => e.at h⟩
theorem EL.app (L : Nat) (S z : Sto) : EL L S (S ++ z) := .ext ⟨z, rfl⟩
theorem EL.set {L : Nat} {S : Sto} {o : Ob} : EL L S (S.set L o) := ⟨by rw [List.length_set]; exact Nat.le_refl _, fun m o' h1 h' => by
  rw [List.getElem?_set_ne (fun z => h1 z.symm)]
  exact h'⟩
theorem EL.setN {L l : Nat} {S0 S : Sto} {o : Ob} (c : EL L S0 S) (h : S0.length ≤ l) : EL L S0 (S.set l o) := ⟨by rw [List.length_set]; exact c.len, fun m o' h1 h' => by
  have : m < S0.length := (List.getElem?_eq_some_iff.mp h').1
  rw [List.getElem?_set_ne (by omega)]
  exact c.at_ m o' h1 h'⟩
noncomputable abbrev kT : FS := (fsDrop (fExt (fVar 5) (fLc (fiAny (fVar 6)) 10 fYes (fTup (fCons (fOp oAdd (fVar 3) (fC (.int 1))) (fCons (fVar 10) fNil))))))
theorem kids_loop {a0 a1 a2 a4 a7 a8 a9 : Option D} {d : Int} {I : Nat} {S0 : Sto} (hI : S0.length ≤ I) : ∀ (bs : List D) (S : Sto) (acc : List (Int × D)) (a6 : Option D), (∀ b ∈ bs, isT b = true) → Ext S0 S → S[I]? = some (.lst (acc.map pr)) → acc.length + (kids (d + 1) bs).length ≤ 60000 →
    ∃ S' a6', forF none (fgName 6) kT bs [a0, a1, a2, some (.int d), a4, some (.loc I), a6, a7, a8, a9, none] S = some (.nx [a0, a1, a2, some (.int d), a4, some (.loc I), a6', a7, a8, a9, none], S') ∧ Ext S0 S' ∧ S'[I]? = some (.lst ((acc ++ kids (d + 1) bs).map pr))
  | [], S, acc, a6, _, hx, h, _ => ⟨S, a6, by simp, hx, by simpa [kids] using h⟩
  | b :: bs, S, acc, a6, ht, hx, h, hz => by
    rw [kids, List.length_append] at hz
    have eb := isT_tup (ht b List.mem_cons_self)
    have hlen : (at_ (d + 1) (items b)).length = (items b).length := by simp [at_]
    have e := lc_pureM0 (k := 10) (S := S) (δ := [a0, a1, a2, some (.int d), a4, some (.loc I), some b, a7, a8, a9, none]) (xs := items b) (e := (fTup (fCons (fOp oAdd (fVar 3) (fC (.int 1))) (fCons (fVar 10) fNil)))) (g := fun x => pr (d + 1, x)) (by omega) (fun x hx S' _ => by simp [pr])
    have em : (items b).map (fun x => pr (d + 1, x)) = (at_ (d + 1) (items b)).map pr := by simp [at_]
    rw [em] at e
    have h1 : (S ++ [Ob.lst ((at_ (d + 1) (items b)).map pr)])[I]? = some (.lst (acc.map pr)) := (Ext.new S _).at h
    have hlt : I < S.length := (List.getElem?_eq_some_iff.mp h).1
    have hx1 : Ext S0 ((S ++ [Ob.lst ((at_ (d + 1) (items b)).map pr)]).set I (.lst ((acc ++ at_ (d + 1) (items b)).map pr))) := by
      obtain ⟨z0, rfl⟩ := hx
      rw [List.append_assoc, List.set_append_right (h := hI)]
      exact ⟨_, rfl⟩
    obtain ⟨S', a6', e', hx', h'⟩ := kids_loop (a0 := a0) (a1 := a1) (a2 := a2) (a4 := a4) (a7 := a7) (a8 := a8) (a9 := a9) (d := d) hI bs _ (acc ++ at_ (d + 1) (items b)) (some b) (fun y hy => ht y (List.mem_cons_of_mem _ hy)) hx1 (by rw [List.getElem?_set_self (by simp; omega)]) (by rw [List.length_append]; omega)
    refine ⟨S', a6', ?_, hx', by rw [h', kids, List.append_assoc]⟩
    have hl : acc.length + (at_ (d + 1) (items b)).length ≤ 100000 := by omega
    simp only [List.map_append] at e'
    rw [eb] at e ⊢
    rw [eb] at e'
    simp only [items] at e e' hl h1 ⊢
    simp [-List.map_map, h, h1, e, hl, e']
noncomputable abbrev sC : FT := (fTest (fOp (oEq not) (fVar 1) (fLst fNil)))
noncomputable abbrev sB : FS := (fsSeq (fsAsg (fPop (fVar 1)) (fg2 (fgName 3) (fgName 4)))
    (fsSeq (fsIf (fTest (fOp (oI0 fun i j => .bl (decide (j < i))) (fVar 3) (fC (.int 3)))) (fsRet (fTup (fCons (fVar 2) (fCons (fC (.str "nest")) fNil)))) fsNext)
    (fsSeq (fsIf (fNot (fTest (fCall l_is_statement (fCons (fVar 4) fNil)))) (fsRet (fTup (fCons (fVar 2) (fCons (fC (.str "statement")) fNil)))) fsNext)
    (fsSeq (fsAsg (fLst fNil) (fgName 5))
    (fsSeq (fsFor (fiAny (fCall l_parts (fCons (fVar 4) fNil))) (fgName 6) kT)
    (fsSeq (fsDrop (fExt (fVar 1) (fRevL (fVar 5))))
    (fsAsg (fOp oAdd (fVar 2) (fC (.int 1))) (fgName 2))))))))
theorem stk_cons (p : Int × D) (st : List (Int × D)) : stkD (p :: st) = stkD st ++ [pr p] := by simp [stkD]
theorem stk_app (a b : List (Int × D)) : stkD (a ++ b) = stkD b ++ stkD a := by simp [stkD]
section
variable {v0 : Option D} {L : Nat}
theorem pre {S : Sto} {p : Int × D} {st : List (Int × D)} (h : S[L]? = some (.lst (stkD (p :: st)))) : L < S.length ∧ (S ++ [Ob.lst []])[L]? = some (.lst (stkD st ++ [pr p])) ∧ oEq not (.loc L) (.loc S.length) (S ++ [Ob.lst []]) = some (.bl true, S ++ [Ob.lst []]) ∧
    ((S ++ [Ob.lst []]).set L (.lst (stkD st)))[L]? = some (.lst (stkD st)) := by
  have hlt : L < S.length := (List.getElem?_eq_some_iff.mp h).1
  have h1 : (S ++ [Ob.lst []])[L]? = some (.lst (stkD (p :: st))) := (Ext.new S _).at h
  have g := eq_ll0 (f := not) (k := S.length) h1 (by simp)
  have ne : (stkD (p :: st)).isEmpty = false := by rw [stk_cons]; simp
  rw [ne] at g
  rw [stk_cons] at h1
  exact ⟨hlt, h1, g, by rw [List.getElem?_set_self (by simp; omega)]⟩
theorem turn_nest {S : Sto} {p d : Int} {x : D} {st : List (Int × D)} {a3 a4 a5 a6 : Option D} (h : S[L]? = some (.lst (stkD ((d, x) :: st)))) (hd : 3 < d) :
    ∃ S', (∀ n, whileF sC sB (n + 1) [v0, some (.loc L), some (.int p), a3, a4, a5, a6, none, none, none, none] S = some (.rt (.tup [.int p, .str (Str.ofString "nest")]), S')) ∧ EL L S S' := by
  obtain ⟨hlt, h1, g, _⟩ := pre h
  refine ⟨(S ++ [Ob.lst []]).set L (.lst (stkD st)), fun n => ?_, (EL.app L S _).trans .set⟩
  rw [whileF_succ]
  simp [g, h1, pr, hd]
theorem turn_stmt {S : Sto} {p d : Int} {x : D} {st : List (Int × D)} {a3 a4 a5 a6 : Option D} (h : S[L]? = some (.lst (stkD ((d, x) :: st)))) (hd : ¬ 3 < d) (hv : vD S.length x) (hk : stK x = false) :
    ∃ S', (∀ n, whileF sC sB (n + 1) [v0, some (.loc L), some (.int p), a3, a4, a5, a6, none, none, none, none] S = some (.rt (.tup [.int p, .str (Str.ofString "statement")]), S')) ∧ EL L S S' := by
  obtain ⟨hlt, h1, g, _⟩ := pre h
  have sp := st_spec x
  rw [hk] at sp
  obtain ⟨z, e⟩ := l_is_statement_ok (S := (S ++ [Ob.lst []]).set L (.lst (stkD st))) (vD_mono (by simp) x hv) sp
  refine ⟨(S ++ [Ob.lst []]).set L (.lst (stkD st)) ++ z, fun n => ?_, ((EL.app L S _).trans .set).trans (.app L _ _)⟩
  rw [whileF_succ]
  simp [g, h1, pr, hd, e]
theorem turn_go {S : Sto} {p d : Int} {x : D} {st : List (Int × D)} {a3 a4 a5 a6 : Option D} (h : S[L]? = some (.lst (stkD ((d, x) :: st)))) (hd : ¬ 3 < d) (hv : vD S.length x) (hk : stK x = true) (hz : (kids (d + 1) (stB x)).length + st.length ≤ 60000) :
    ∃ S' b3 b4 b5 b6, (∀ n, whileF sC sB (n + 1) [v0, some (.loc L), some (.int p), a3, a4, a5, a6, none, none, none, none] S = whileF sC sB n [v0, some (.loc L), some (.int (p + 1)), b3, b4, b5, b6, none, none, none, none] S') ∧ EL L S S' ∧ S'[L]? = some (.lst (stkD (kids (d + 1) (stB x) ++ st))) := by
  obtain ⟨hlt, h1, g, h2⟩ := pre h
  have sp := st_spec x
  have sh : Shp x (stB x) (stK x) := by
    rcases sp with h | ⟨_, _, h⟩
    · exact h
    · rw [hk] at h; cases h
  rw [hk] at sp
  let S2 : Sto := (S ++ [Ob.lst []]).set L (.lst (stkD st))
  have hL2 : L < S2.length := by simp [S2]; omega
  obtain ⟨z, e⟩ := l_is_statement_ok (S := S2) (vD_mono (by simp [S2]) x hv) sp
  let S3 : Sto := S2 ++ z
  have hp := l_parts_ok (S := S3 ++ [.lst []]) sh
  obtain ⟨S4, b6, e4, hx4, h4⟩ := kids_loop (a0 := v0) (a1 := some (.loc L)) (a2 := some (.int p)) (a4 := some x) (a7 := none) (a8 := none) (a9 := none) (d := d) (I := S3.length) (S0 := S3) (Nat.le_refl _) (stB x) (S3 ++ [.lst []]) [] a6 (sh.tups hk) ⟨_, rfl⟩ (by simp) (by simp; omega)
  have hL4 : S4[L]? = some (.lst (stkD st)) := hx4.at (Ext.at (S := S2) ⟨z, rfl⟩ h2)
  have hlt4 : L < S4.length := (List.getElem?_eq_some_iff.mp hL4).1
  have h4' : S4[S3.length]? = some (.lst ((kids (d + 1) (stB x)).map pr)) := by simpa using h4
  let S5 : Sto := (S4 ++ [Ob.lst ((kids (d + 1) (stB x)).map pr).reverse]).set L (Ob.lst (stkD st ++ ((kids (d + 1) (stB x)).map pr).reverse))
  refine ⟨S5, some (.int d), some x, some (.loc S3.length), b6, fun n => ?_, ?_, ?_⟩
  · have hl : (stkD st).length + (kids (d + 1) (stB x)).length ≤ 100000 := by simp [stkD]; omega
    have i1 : (S4 ++ [Ob.lst ((kids (d + 1) (stB x)).map pr).reverse])[L]? = some (.lst (stkD st)) := (Ext.new S4 _).at hL4
    have i2 : (S4 ++ [Ob.lst ((kids (d + 1) (stB x)).map pr).reverse])[S4.length]? = some (.lst ((kids (d + 1) (stB x)).map pr).reverse) := by simp
    rw [whileF_succ]
    simp only [S2, S3, List.append_assoc, List.length_append, List.length_set, List.length_singleton] at e e4 h4' hp ⊢
    have hl' : (stkD st).length + ((kids (d + 1) (stB x)).map pr).reverse.length ≤ 100000 := by simpa using hl
    simp [g, h1, pr, hd, e, hp, e4, hL4, h4', i1, hl, S5]
  · exact (((EL.app L S _).trans .set).trans (.app L _ z)).trans ((EL.ext hx4).trans ((EL.app L _ _).trans .set))
  · have : stkD (kids (d + 1) (stB x) ++ st) = stkD st ++ ((kids (d + 1) (stB x)).map pr).reverse := by rw [stk_app]; rfl
    rw [this]
    show ((S4 ++ [Ob.lst ((kids (d + 1) (stB x)).map pr).reverse]).set L _)[L]? = _
    rw [List.getElem?_set_self (by simp; omega)]
/-- the walk follows the faults -/
def Wk (v0 : Option D) (L : Nat) (st : List (Int × D)) (z : Nat) (p : Int) (r : Int × Option Str) (S : Sto) : Prop := ∀ a3 a4 a5 a6 : Option D, ∃ m S', m ≤ z ∧ EL L S S' ∧ (match r with
  | (p', some w) => ∀ n, whileF sC sB (m + n) [v0, some (.loc L), some (.int p), a3, a4, a5, a6, none, none, none, none] S = some (.rt (.tup [.int p', .str w]), S')
  | (p', none) => S'[L]? = some (.lst (stkD st)) ∧ ∃ b3 b4 b5 b6, ∀ n, whileF sC sB (m + n) [v0, some (.loc L), some (.int p), a3, a4, a5, a6, none, none, none, none] S = whileF sC sB n [v0, some (.loc L), some (.int p'), b3, b4, b5, b6, none, none, none, none] S')
def szB : List D → Nat
  | [] => 0
  | b :: bs => szA (items b) + szB bs
theorem szA_len : ∀ ds : List D, ds.length ≤ szA ds
  | [] => by simp [szA]
  | d :: r => by
    have := szA_len r
    have := szD_pos d
    simp only [List.length_cons, szA]
    omega
theorem kids_len (d : Int) : ∀ bs : List D, (kids d bs).length ≤ szB bs
  | [] => by simp [kids]
  | b :: bs => by
    have := kids_len d bs
    have := szA_len (items b)
    simp only [kids, szB, List.length_append, at_, List.length_map]
    omega
theorem sz_items (d : D) : szA (items d) ≤ szD d := by
  cases d <;> simp [items, szA, szD]
theorem szB_le {d : D} {bs : List D} {k : Bool} (h : Shp d bs k) : szB bs + 1 ≤ szD d := by
  cases h with
  | we a b => have := sz_items a; have := sz_items b; simp only [szB, szD, szA]; omega
  | they a b => have := sz_items a; have := sz_items b; simp only [szB, szD, szA]; omega
  | rep a b => have := sz_items b; simp only [szB, szD, szA]; omega
  | iff a b c => have := sz_items b; have := sz_items c; simp only [szB, szD, szA]; omega
  | _ => simp only [szB, szD, szA]; omega
def FWk (v0 : Option D) (L : Nat) (F : List D → Int → Int × Option Str) (d : Int) : Prop := ∀ (ds : List D) (p : Int) (st : List (Int × D)) (S : Sto), vA S.length ds → S[L]? = some (.lst (stkD (at_ d ds ++ st))) → szA ds + st.length ≤ 60000 → Wk v0 L st (szA ds) p (F ds p) S
theorem v_items {m : Nat} {d : D} (h : vD m d) : vA m (items d) := by
  cases d with
  | tup ds => rw [vD] at h; exact h.2
  | _ => simp [items, vA]
theorem walkS {F : List D → Int → Int × Option Str} {d : Int} (hF : FWk v0 L F d) : ∀ (bs : List D) (p : Int) (st : List (Int × D)) (S : Sto), (∀ b ∈ bs, vD S.length b) → S[L]? = some (.lst (stkD (kids d bs ++ st))) → szB bs + st.length ≤ 60000 → Wk v0 L st (szB bs) p (mFs F bs p) S
  | [], p, st, S, _, h, _ => by
    intro a3 a4 a5 a6
    rw [mFs]
    exact ⟨0, S, Nat.zero_le _, .refl _ _, by simpa [kids] using h, a3, a4, a5, a6, fun n => by rw [Nat.zero_add]⟩
  | b :: bs, p, st, S, hv, h, hz => by
    intro a3 a4 a5 a6
    rw [kids, List.append_assoc] at h
    rw [szB] at hz
    have hkl := kids_len d bs
    obtain ⟨m1, S1, hm1, hx1, q1⟩ := hF (items b) p (kids d bs ++ st) S (v_items (hv b List.mem_cons_self)) h (by rw [List.length_append]; omega) a3 a4 a5 a6
    rw [mFs]
    cases hM : F (items b) p with
    | mk p1 o1 =>
      rw [hM] at q1
      cases o1 with
      | some w => exact ⟨m1, S1, by rw [szB]; omega, hx1, q1⟩
      | none =>
        obtain ⟨h1, b3, b4, b5, b6, q1⟩ := q1
        obtain ⟨m2, S2, hm2, hx2, q2⟩ := walkS hF bs p1 st S1 (fun y hy => vD_mono hx1.len y (hv y (List.mem_cons_of_mem _ hy))) h1 (by omega) b3 b4 b5 b6
        refine ⟨m1 + m2, S2, by rw [szB]; omega, hx1.trans hx2, ?_⟩
        show match mFs F bs p1 with | (p', some w) => _ | (p', none) => _
        cases hM2 : mFs F bs p1 with
        | mk p2 o2 =>
          rw [hM2] at q2
          cases o2 with
          | some w => exact fun n => by rw [Nat.add_assoc, q1, q2]
          | none =>
            obtain ⟨h2, c3, c4, c5, c6, q2⟩ := q2
            exact ⟨h2, c3, c4, c5, c6, fun n => by rw [Nat.add_assoc, q1, q2]⟩
theorem walkL {F : List D → Int → Int × Option Str} {d : Int} (hd : ¬ 3 < d) (hF : FWk v0 L F (d + 1)) : FWk v0 L (mFl F) d
  | [], p, st, S, _, h, _ => by
    intro a3 a4 a5 a6
    rw [mFl]
    exact ⟨0, S, Nat.zero_le _, .refl _ _, by simpa [at_] using h, a3, a4, a5, a6, fun n => by rw [Nat.zero_add]⟩
  | x :: r, p, st, S, hv, h, hz => by
    intro a3 a4 a5 a6
    rw [vA] at hv
    rw [szA] at hz
    have hp := szD_pos x
    have h' : S[L]? = some (.lst (stkD ((d, x) :: (at_ d r ++ st)))) := h
    rw [mFl]
    cases hk : stK x with
    | false =>
      obtain ⟨S', e', hx'⟩ := turn_stmt (a3 := a3) (a4 := a4) (a5 := a5) (a6 := a6) (v0 := v0) (p := p) h' hd hv.1 hk
      exact ⟨1, S', by rw [szA]; omega, hx', fun n => by rw [Nat.add_comm]; exact e' n⟩
    | true =>
      have sh : Shp x (stB x) (stK x) := by
        rcases st_spec x with h | ⟨_, _, h⟩
        · exact h
        · rw [hk] at h; cases h
      have hzb := szB_le sh
      have hkl := kids_len (d + 1) (stB x)
      have hrl : (at_ d r ++ st).length ≤ szA r + st.length := by have := szA_len r; simp [at_]; omega
      obtain ⟨S1, b3, b4, b5, b6, q1, hx1, h1⟩ := turn_go (a3 := a3) (a4 := a4) (a5 := a5) (a6 := a6) (v0 := v0) (p := p) h' hd hv.1 hk (by omega)
      obtain ⟨m2, S2, hm2, hx2, q2⟩ := walkS hF (stB x) (p + 1) (at_ d r ++ st) S1 (fun y hy => vD_mono hx1.len y ((sh.vs hv.1).1 y hy)) h1 (by omega) b3 b4 b5 b6
      rw [if_pos rfl]
      cases hM2 : mFs F (stB x) (p + 1) with
      | mk p2 o2 =>
        rw [hM2] at q2
        cases o2 with
        | some w => exact ⟨m2 + 1, S2, by rw [szA]; omega, hx1.trans hx2, fun n => by rw [show m2 + 1 + n = (m2 + n) + 1 by omega, q1, q2]⟩
        | none =>
          obtain ⟨h2, c3, c4, c5, c6, q2⟩ := q2
          obtain ⟨m3, S3, hm3, hx3, q3⟩ := walkL hd hF r p2 st S2 (vA_mono (hx1.trans hx2).len r hv.2) h2 (by omega) c3 c4 c5 c6
          refine ⟨m2 + m3 + 1, S3, by rw [szA]; omega, (hx1.trans hx2).trans hx3, ?_⟩
          show match mFl F r p2 with | (p', some w) => _ | (p', none) => _
          cases hM3 : mFl F r p2 with
          | mk p3 o3 =>
            rw [hM3] at q3
            cases o3 with
            | some w => exact fun n => by rw [show m2 + m3 + 1 + n = (m2 + (m3 + n)) + 1 by omega, q1, q2, q3]
            | none =>
              obtain ⟨h3, d3, d4, d5, d6, q3⟩ := q3
              exact ⟨h3, d3, d4, d5, d6, fun n => by rw [show m2 + m3 + 1 + n = (m2 + (m3 + n)) + 1 by omega, q1, q2, q3]⟩
theorem walk_ok : ∀ (k : Nat), k ≤ 4 → FWk v0 L (mF k) (4 - (k : Int))
  | 0, _, ds, p, st, S, hv, h, hz => by
    intro a3 a4 a5 a6
    cases ds with
    | nil => exact ⟨0, S, Nat.zero_le _, .refl _ _, by simpa [at_] using h, a3, a4, a5, a6, fun n => by rw [Nat.zero_add]⟩
    | cons x r =>
      have hp := szD_pos x
      have h' : S[L]? = some (.lst (stkD (((4 : Int), x) :: (at_ 4 r ++ st)))) := h
      obtain ⟨S', e, hx⟩ := turn_nest (a3 := a3) (a4 := a4) (a5 := a5) (a6 := a6) (v0 := v0) (p := p) h' (by omega)
      exact ⟨1, S', by rw [szA]; omega, hx, fun n => by rw [Nat.add_comm]; exact e n⟩
  | k + 1, hk, ds, p, st, S, hv, h, hz => by
    have ih := walk_ok k (by omega)
    have e : (4 : Int) - (k : Int) = (4 - ((k + 1 : Nat) : Int)) + 1 := by omega
    rw [e] at ih
    have := walkL (d := 4 - ((k + 1 : Nat) : Int)) (by omega) ih ds p st S hv h hz
    exact this
end
end PE

set_option Elab.async false
set_option linter.all false
set_option maxRecDepth 100000
set_option maxHeartbeats 1000000
namespace PE
open PySem L2 DL PG
theorem EL.up {L : Nat} {S0 S S' : Sto} (e : EL L S S') (hx : Ext S0 S) (hL : S0.length ≤ L) : Ext S0 S' := by
  obtain ⟨z, rfl⟩ := hx
  refine ⟨S'.drop S0.length, ?_⟩
  apply List.ext_getElem?
  intro i
  by_cases hi : i < S0.length
  · rw [List.getElem?_append_left hi]
    have h0 : (S0 ++ z)[i]? = some (S0[i]) := by rw [List.getElem?_append_left hi]; exact List.getElem?_eq_getElem hi
    rw [e.at_ i _ (by omega) h0, List.getElem?_eq_getElem hi]
  · rw [List.getElem?_append_right (by omega), List.getElem?_drop]
    congr 1
    omega
noncomputable def l_error : Fn := fDef 1 11 (b__law_error (l_counts 5) l_parts l_is_statement)
noncomputable abbrev bdT : FS := (fsIf (fTest (fOp (oI0 fun i j => .bl (decide (j < i))) (fOp oIx (fVar 7) (fVar 8)) (fOp oIx (fLst (fCons (fC (.int 24)) (fCons (fC (.int 30)) (fCons (fC (.int 4)) (fCons (fC (.int 2)) (fCons (fC (.int 2)) fNil)))))) (fVar 8)))) (fsRet (fTup (fCons (fC .non) (fCons (fVar 9) fNil)))) fsNext)
abbrev wds : List D := [.str (Str.ofString "places"), .str (Str.ofString "weight"), .str (Str.ofString "choices"), .str (Str.ofString "rests"), .str (Str.ofString "comparings")]
theorem stOk_new {S z : Sto} {ds : List D} : stOk (some (S.length, ds)) (S ++ Ob.lst ds :: z) := by simp [stOk]
theorem enum_wds : enumD wds = [.tup [.int 0, .str (Str.ofString "places")], .tup [.int 1, .str (Str.ofString "weight")], .tup [.int 2, .str (Str.ofString "choices")], .tup [.int 3, .str (Str.ofString "rests")], .tup [.int 4, .str (Str.ofString "comparings")]] := rfl
theorem l_error_ok {d : D} {S : Sto} (h : vD S.length d) (hz : szD d ≤ 50000) : ∃ S', l_error [d] S = some (mErr d, S') ∧ Ext S S' := by
  obtain ⟨-, -, -, h4⟩ := kt h
  cases d with
  | tup ds =>
    rw [szD] at hz
    rw [vD] at h
    have e0 := lc_pureM0 (k := 10) (S := S) (δ := [some (.tup ds), none, none, none, none, none, none, none, none, none, none]) (xs := ds) (e := (fTup (fCons (fC (.int 0)) (fCons (fVar 10) fNil)))) (g := fun x => pr (0, x)) (by omega) (fun x hx S' _ => by simp [pr])
    let S1 : Sto := S ++ [Ob.lst (ds.map fun x => pr (0, x))] ++ [Ob.lst (ds.map fun x => pr (0, x)).reverse]
    have hS1 : S1[S.length + 1]? = some (.lst (stkD (at_ 0 ds ++ []))) := by simp [S1, stkD, at_, Function.comp_def]
    have hx1 : Ext S S1 := (Ext.new S _).trans (.new _ _)
    obtain ⟨m, S2, hm, hx2, q⟩ := walk_ok (v0 := some (.tup ds)) (L := S.length + 1) 4 (by omega) ds 0 [] S1 (vA_mono hx1.len ds h.2) hS1 (by simp; omega) none none none none
    have hx02 := hx2.up hx1 (by omega)
    have hf : ∃ n, fuelW = m + (n + 1) := ⟨fuelW - m - 1, by unfold fuelW; omega⟩
    obtain ⟨n, hf⟩ := hf
    cases hM : mF 4 ds 0 with
    | mk p o =>
      rw [hM] at q
      cases o with
      | some w =>
        have : mErr (.tup ds) = .tup [.int p, .str w] := by rw [mErr, hM]
        rw [this]
        refine ⟨S2, ?_, hx02⟩
        have q := q (n + 1)
        rw [← hf] at q
        simp only [S1, sC, sB, kT, List.append_assoc, List.cons_append, List.nil_append] at q
        simp [-List.map_map, -tyD, l_error, fDef, b__law_error, h4, isT, e0, q]
      | none =>
        obtain ⟨h2, b3, b4, b5, b6, q⟩ := q
        have q := q (n + 1)
        rw [← hf] at q
        obtain ⟨g1, g2, g3, g4⟩ := smOf_ok hM
        have h2' : (S2 ++ [Ob.lst []])[S.length + 1]? = some (.lst (stkD [])) := (Ext.new S2 _).at h2
        have g := eq_ll0 (f := not) (k := S2.length) h2' (by simp)
        obtain ⟨l, S3, e3, hx3, h3⟩ := l_counts_ok 4 (smOf ds) (S2 ++ [Ob.lst []]) g2 g3
        rw [← g1] at e3
        have : mErr (.tup ds) = resD (cA (smOf ds)) := by rw [mErr, hM]
        rw [this]
        simp only [S1, sC, sB, kT, List.append_assoc, List.cons_append, List.nil_append] at q
        have qq := whileF_succ (c := fTest (fOp (oEq not) (fVar 1) (fLst fNil))) (b := sB) (n := n) (δ := [some (.tup ds), some (.loc (S.length + 1)), some (.int p), b3, b4, b5, b6, none, none, none, none]) (S := S2)
        simp [g, stkD] at qq
        have q := q.trans qq
        have hx03 := hx02.trans ((Ext.new S2 _).trans hx3)
        have h3' : ∀ z : Sto, (S3 ++ z)[l]? = some (.lst [.int (cA (smOf ds)).a, .int (cA (smOf ds)).b, .int (cA (smOf ds)).c, .int (cA (smOf ds)).d, .int (cA (smOf ds)).e]) := fun z => Ext.at (S := S3) ⟨z, rfl⟩ h3
        have e3 : l_counts 5 [.tup ds] (S2 ++ [Ob.lst []]) = some (.loc l, S3) := e3
        unfold resD
        by_cases k1 : 24 < (cA (smOf ds)).a
        · rw [if_pos k1]
          exact ⟨S3 ++ [Ob.lst wds, Ob.lst [.int 24, .int 30, .int 4, .int 2, .int 2]], by simp [-List.map_map, -tyD, l_error, fDef, b__law_error, h4, isT, e0, q, e3, h3', k1, enum_wds, forF_cons, forF_nil, stOk_new], hx03.trans ⟨_, rfl⟩⟩
        rw [if_neg k1]
        by_cases k2 : 30 < (cA (smOf ds)).b
        · rw [if_pos k2]
          exact ⟨S3 ++ [Ob.lst wds, Ob.lst [.int 24, .int 30, .int 4, .int 2, .int 2], Ob.lst [.int 24, .int 30, .int 4, .int 2, .int 2]], by simp [-List.map_map, -tyD, l_error, fDef, b__law_error, h4, isT, e0, q, e3, h3', k1, k2, enum_wds, forF_cons, forF_nil, stOk_new], hx03.trans ⟨_, rfl⟩⟩
        rw [if_neg k2]
        by_cases k3 : 4 < (cA (smOf ds)).c
        · rw [if_pos k3]
          exact ⟨S3 ++ [Ob.lst wds, Ob.lst [.int 24, .int 30, .int 4, .int 2, .int 2], Ob.lst [.int 24, .int 30, .int 4, .int 2, .int 2], Ob.lst [.int 24, .int 30, .int 4, .int 2, .int 2]], by simp [-List.map_map, -tyD, l_error, fDef, b__law_error, h4, isT, e0, q, e3, h3', k1, k2, k3, enum_wds, forF_cons, forF_nil, stOk_new], hx03.trans ⟨_, rfl⟩⟩
        rw [if_neg k3]
        by_cases k4 : 2 < (cA (smOf ds)).d
        · rw [if_pos k4]
          exact ⟨S3 ++ [Ob.lst wds, Ob.lst [.int 24, .int 30, .int 4, .int 2, .int 2], Ob.lst [.int 24, .int 30, .int 4, .int 2, .int 2], Ob.lst [.int 24, .int 30, .int 4, .int 2, .int 2], Ob.lst [.int 24, .int 30, .int 4, .int 2, .int 2]], by simp [-List.map_map, -tyD, l_error, fDef, b__law_error, h4, isT, e0, q, e3, h3', k1, k2, k3, k4, enum_wds, forF_cons, forF_nil, stOk_new], hx03.trans ⟨_, rfl⟩⟩
        rw [if_neg k4]
        by_cases k5 : 2 < (cA (smOf ds)).e
        · rw [if_pos k5]
          exact ⟨S3 ++ [Ob.lst wds, Ob.lst [.int 24, .int 30, .int 4, .int 2, .int 2], Ob.lst [.int 24, .int 30, .int 4, .int 2, .int 2], Ob.lst [.int 24, .int 30, .int 4, .int 2, .int 2], Ob.lst [.int 24, .int 30, .int 4, .int 2, .int 2], Ob.lst [.int 24, .int 30, .int 4, .int 2, .int 2]], by simp [-List.map_map, -tyD, l_error, fDef, b__law_error, h4, isT, e0, q, e3, h3', k1, k2, k3, k4, k5, enum_wds, forF_cons, forF_nil, stOk_new], hx03.trans ⟨_, rfl⟩⟩
        rw [if_neg k5]
        exact ⟨S3 ++ [Ob.lst wds, Ob.lst [.int 24, .int 30, .int 4, .int 2, .int 2], Ob.lst [.int 24, .int 30, .int 4, .int 2, .int 2], Ob.lst [.int 24, .int 30, .int 4, .int 2, .int 2], Ob.lst [.int 24, .int 30, .int 4, .int 2, .int 2], Ob.lst [.int 24, .int 30, .int 4, .int 2, .int 2]], by simp [-List.map_map, -tyD, l_error, fDef, b__law_error, h4, isT, e0, q, e3, h3', k1, k2, k3, k4, k5, enum_wds, forF_cons, forF_nil, stOk_new], hx03.trans ⟨_, rfl⟩⟩
  | _ => exact ⟨S, by simp [-tyD, l_error, fDef, b__law_error, h4, isT, mErr], .refl S⟩
end PE

set_option Elab.async false
set_option linter.all false
set_option maxRecDepth 100000
set_option maxHeartbeats 1000000
namespace PE
open PySem L2 DL PG PyProof.Rows
/-! ### values that are shown: their sizes -/
mutual
def nP : PyData → Nat
  | .tuple ps => 1 + nPA ps
  | .list ps => 1 + nPA ps
  | .none => 1 | .bool _ => 1 | .int _ => 1 | .str _ => 1 | .dict _ => 1
def nPA : List PyData → Nat
  | [] => 0
  | p :: ps => nP p + nPA ps
end
mutual
def mP : PyData → Nat
  | .tuple ps => max ps.length (mPA ps)
  | .list ps => max ps.length (mPA ps)
  | .str x => x.length
  | .none => 0 | .bool _ => 0 | .int _ => 0 | .dict _ => 0
def mPA : List PyData → Nat
  | [] => 0
  | p :: ps => max (mP p) (mPA ps)
end
mutual
def lP : PyData → Bool
  | .tuple ps => lPA ps
  | .list ps => lPA ps
  | .none => true
  | .bool _ => true
  | .int i => decide ((PyData.shown (.int i)).length ≤ 300) && PyData.showable (.int i)
  | .str x => decide ((PyData.shown (.str x)).length ≤ 300)
  | .dict kvs => decide ((PyData.shown (.dict kvs)).length ≤ 300) && PyData.showable (.dict kvs)
def lPA : List PyData → Bool
  | [] => true
  | p :: ps => lP p && lPA ps
end
theorem nP_pos (p : PyData) : 1 ≤ nP p := by cases p <;> simp [nP]
theorem nPA_app : ∀ (a b : List PyData), nPA (a ++ b) = nPA a + nPA b
  | [], b => by simp [nPA]
  | p :: a, b => by rw [List.cons_append, nPA, nPA, nPA_app a b]; omega
theorem mPA_app : ∀ (a b : List PyData), mPA (a ++ b) = max (mPA a) (mPA b)
  | [], b => by simp [mPA]
  | p :: a, b => by rw [List.cons_append, mPA, mPA, mPA_app a b]; omega
theorem lPA_app : ∀ (a b : List PyData), lPA (a ++ b) = (lPA a && lPA b)
  | [], b => by simp [lPA]
  | p :: a, b => by rw [List.cons_append, lPA, lPA, lPA_app a b, Bool.and_assoc]
theorem dPA_app : ∀ (a b : List PyData), PyData.depthAll (a ++ b) = max (PyData.depthAll a) (PyData.depthAll b)
  | [], b => by simp [PyData.depthAll]
  | p :: a, b => by rw [List.cons_append, PyData.depthAll, PyData.depthAll, dPA_app a b]; omega
mutual
theorem lP_show : ∀ p : PyData, lP p = true → p.showable = true
  | .tuple ps, h => by rw [lP] at h; rw [PyData.showable]; exact lPA_show ps h
  | .list ps, h => by rw [lP] at h; rw [PyData.showable]; exact lPA_show ps h
  | .none, _ => by simp [PyData.showable]
  | .bool _, _ => by simp [PyData.showable]
  | .int i, h => by rw [lP, Bool.and_eq_true] at h; exact h.2
  | .str _, _ => by simp [PyData.showable]
  | .dict kvs, h => by rw [lP, Bool.and_eq_true] at h; exact h.2
theorem lPA_show : ∀ ps : List PyData, lPA ps = true → PyData.showableAll ps = true
  | [], _ => by simp [PyData.showableAll]
  | p :: ps, h => by
    rw [lPA, Bool.and_eq_true] at h
    rw [PyData.showableAll, lP_show p h.1, lPA_show ps h.2]; rfl
end
theorem textFrom_le : ∀ (ts : List Str) (k : Nat) (acc : Str), (textFrom k acc ts).length ≤ acc.length + piled ts
  | [], k, acc => by simp [textFrom, piled_nil]
  | t :: ts, k, acc => by
    have := textFrom_le ts (k + 1) (acc ++ (if k > 0 then ", " else "" : String) ++ t)
    rw [textFrom, piled_cons]
    refine Nat.le_trans this ?_
    rw [strLen_append, strLen_append]
    have : (((if k > 0 then ", " else "" : String) : Str)).length ≤ 2 := by
      split
      · exact (by decide +kernel)
      · exact (by decide +kernel)
    omega
theorem listText_le (ts : List Str) : (listText ts).length ≤ 2 + piled ts := by
  have h := textFrom_le ts 0 "["
  have hX : (listText ts).length = (textFrom 0 "[" ts).length + 1 := by
    show (textFrom 0 "[" ts ++ "]").length = _
    rw [strLen_append]; rfl
  have : (("[" : String) : Str).length = 1 := by decide +kernel
  omega
theorem tupleText_le (ts : List Str) : (tupleText ts).length ≤ 3 + piled ts := by
  unfold tupleText
  rw [strLen_append, strLen_append]
  have h1 : (("(" : String) : Str).length = 1 := by decide +kernel
  have h2 : (((if ts.length == 1 then ",)" else ")" : String)) : Str).length ≤ 2 := by
    split
    · exact (by decide +kernel)
    · exact (by decide +kernel)
  have h3 : (Str.join ", " ts).length ≤ piled ts := by
    cases ts with
    | nil => exact (by decide +kernel)
    | cons t ts => have := join_length_add (t :: ts) (by simp); omega
  omega
mutual
theorem shown_le : ∀ p : PyData, lP p = true → p.shown.length + 2 ≤ 310 * nP p
  | .tuple ps, h => by
    rw [lP] at h
    have h1 := shownA_le ps h
    have h2 := tupleText_le (PyData.shownAll ps)
    rw [PyData.shown, nP]
    omega
  | .list ps, h => by
    rw [lP] at h
    have h1 := shownA_le ps h
    have h2 := listText_le (PyData.shownAll ps)
    rw [PyData.shown, nP]
    omega
  | .none, _ => by
    have : (PyData.shown .none).length = 4 := by simp only [PyData.shown]; decide +kernel
    rw [nP]; omega
  | .bool b, _ => by
    have : (PyData.shown (.bool b)).length ≤ 5 := by simp only [PyData.shown]; cases b <;> decide +kernel
    rw [nP]; omega
  | .int i, h => by
    rw [lP, Bool.and_eq_true, decide_eq_true_eq] at h
    have := h.1
    rw [nP]; omega
  | .str x, h => by
    rw [lP, decide_eq_true_eq] at h
    rw [nP]; omega
  | .dict kvs, h => by
    rw [lP, Bool.and_eq_true, decide_eq_true_eq] at h
    have := h.1
    rw [nP]; omega
theorem shownA_le : ∀ ps : List PyData, lPA ps = true → piled (PyData.shownAll ps) ≤ 310 * nPA ps
  | [], _ => by simp [PyData.shownAll, piled_nil]
  | p :: ps, h => by
    rw [lPA, Bool.and_eq_true] at h
    have h1 := shown_le p h.1
    have h2 := shownA_le ps h.2
    rw [PyData.shownAll, piled_cons, nPA]
    omega
end
/-! ### what stays while cards are drawn -/
mutual
inductive PV (lo i j : Nat) (S : Sto) : D → PyData → Prop
  | non : PV lo i j S .non .none
  | bl (b : Bool) : PV lo i j S (.bl b) (.bool b)
  | int (k : Int) : PV lo i j S (.int k) (.int k)
  | str (x : Str) : PV lo i j S (.str x) (.str x)
  | tup {ds : List D} {ps : List PyData} : PVA lo i j S ds ps → PV lo i j S (.tup ds) (.tuple ps)
  | lst {l : Nat} {ds : List D} {ps : List PyData} : lo ≤ l → l ≠ i → l ≠ j → S[l]? = some (.lst ds) → PVA lo i j S ds ps → PV lo i j S (.loc l) (.list ps)
  | dct {l : Nat} {z : List (Str × Int)} : lo ≤ l → l ≠ i → l ≠ j → S[l]? = some (.dct (dcK z)) → PV lo i j S (.loc l) (.dict (dcP z))
inductive PVA (lo i j : Nat) (S : Sto) : List D → List PyData → Prop
  | nil : PVA lo i j S [] []
  | cons {d : D} {ds : List D} {p : PyData} {ps : List PyData} : PV lo i j S d p → PVA lo i j S ds ps → PVA lo i j S (d :: ds) (p :: ps)
end
section
variable {lo i j : Nat} {S S' : Sto}
mutual
theorem PV.q : ∀ {d : D} {p : PyData}, PV lo i j S d p → PyQ S d p
  | _, _, .non => .non
  | _, _, .bl b => .bl b
  | _, _, .int k => .int k
  | _, _, .str x => .str x
  | _, _, .tup h => .tup h.q
  | _, _, .lst _ _ _ h1 h2 => .lst h1 h2.q
  | _, _, .dct _ _ _ h => .dct h
theorem PVA.q : ∀ {d : List D} {p : List PyData}, PVA lo i j S d p → PyQA S d p
  | _, _, .nil => .nil
  | _, _, .cons h1 h2 => .cons h1.q h2.q
end
mutual
theorem PV.keep (c : ∀ (l : Nat) (o : Ob), lo ≤ l → l ≠ i → l ≠ j → S[l]? = some o → S'[l]? = some o) : ∀ {d : D} {p : PyData}, PV lo i j S d p → PV lo i j S' d p
  | _, _, .non => .non
  | _, _, .bl b => .bl b
  | _, _, .int k => .int k
  | _, _, .str x => .str x
  | _, _, .tup h => .tup (h.keep c)
  | _, _, .lst o a b h1 h2 => .lst o a b (c _ _ o a b h1) (h2.keep c)
  | _, _, .dct o a b h => .dct o a b (c _ _ o a b h)
theorem PVA.keep (c : ∀ (l : Nat) (o : Ob), lo ≤ l → l ≠ i → l ≠ j → S[l]? = some o → S'[l]? = some o) : ∀ {d : List D} {p : List PyData}, PVA lo i j S d p → PVA lo i j S' d p
  | _, _, .nil => .nil
  | _, _, .cons h1 h2 => .cons (h1.keep c) (h2.keep c)
end
theorem PV.mono (c : Ch i j S S') {d : D} {p : PyData} (h : PV lo i j S d p) : PV lo i j S' d p := h.keep fun l o _ a b => c.at_ l o a b
theorem PVA.mono (c : Ch i j S S') {d : List D} {p : List PyData} (h : PVA lo i j S d p) : PVA lo i j S' d p := h.keep fun l o _ a b => c.at_ l o a b
mutual
theorem PV.sz : ∀ {d : D} {p : PyData}, PV lo i j S d p → szD d ≤ nP p
  | _, _, .non => by simp [szD, nP]
  | _, _, .bl b => by simp [szD, nP]
  | _, _, .int k => by simp [szD, nP]
  | _, _, .str x => by simp [szD, nP]
  | _, _, .tup h => by have := h.sz; rw [szD, nP]; omega
  | _, _, .lst o a b h1 h2 => by rw [szD, nP]; omega
  | _, _, .dct o a b h => by simp [szD, nP]
theorem PVA.sz : ∀ {d : List D} {p : List PyData}, PVA lo i j S d p → szA d ≤ nPA p
  | _, _, .nil => by simp [szA]
  | _, _, .cons h1 h2 => by have := h1.sz; have := h2.sz; rw [szA, nPA]; omega
end
theorem PVA.len : ∀ {d : List D} {p : List PyData}, PVA lo i j S d p → d.length = p.length
  | _, _, .nil => rfl
  | _, _, .cons h1 h2 => by rw [List.length_cons, List.length_cons, h2.len]
mutual
theorem PV.v : ∀ {d : D} {p : PyData}, PV lo i j S d p → mP p ≤ 1000 → vD S.length d
  | _, _, .non, _ => by simp [vD]
  | _, _, .bl b, _ => by simp [vD]
  | _, _, .int k, _ => by simp [vD]
  | _, _, .str x, h => by rw [mP] at h; rw [vD]; exact h
  | _, _, .tup h, hm => by
    rw [mP] at hm
    rw [vD]
    exact ⟨by rw [h.len]; omega, h.v (by omega)⟩
  | _, _, .lst o a b h1 h2, _ => by rw [vD]; exact (List.getElem?_eq_some_iff.mp h1).1
  | _, _, .dct o a b h, _ => by rw [vD]; exact (List.getElem?_eq_some_iff.mp h).1
theorem PVA.v : ∀ {d : List D} {p : List PyData}, PVA lo i j S d p → mPA p ≤ 1000 → vA S.length d
  | _, _, .nil, _ => by simp [vA]
  | _, _, .cons h1 h2, hm => by
    rw [mPA] at hm
    rw [vA]
    exact ⟨h1.v (by omega), h2.v (by omega)⟩
end
theorem PVA.app : ∀ {a b : List D} {p q : List PyData}, PVA lo i j S a p → PVA lo i j S b q → PVA lo i j S (a ++ b) (p ++ q)
  | _, _, _, _, .nil, h => h
  | _, _, _, _, .cons h1 h2, h => .cons h1 (h2.app h)
theorem PVA.take : ∀ {a : List D} {p : List PyData} (n : Nat), PVA lo i j S a p → PVA lo i j S (a.take n) (p.take n)
  | _, _, 0, _ => by simp; exact .nil
  | _, _, n + 1, .nil => by simp; exact .nil
  | _, _, n + 1, .cons h1 h2 => by simp; exact .cons h1 (h2.take n)
theorem PVA.drop : ∀ {a : List D} {p : List PyData} (n : Nat), PVA lo i j S a p → PVA lo i j S (a.drop n) (p.drop n)
  | _, _, 0, h => by simpa using h
  | _, _, n + 1, .nil => by simp; exact .nil
  | _, _, n + 1, .cons h1 h2 => by simp; exact h2.drop n
theorem PVA.at_ : ∀ {a : List D} {p : List PyData} {n : Nat} {d : D}, PVA lo i j S a p → a[n]? = some d → ∃ x, p[n]? = some x ∧ PV lo i j S d x
  | _, _, 0, _, .cons h1 h2, e => by simp at e; subst e; exact ⟨_, rfl, h1⟩
  | _, _, n + 1, _, .cons h1 h2, e => by simp at e; obtain ⟨x, a, b⟩ := h2.at_ e; exact ⟨x, by simpa using a, b⟩
end
/-- the bounds that are kept -/
structure Bd (p : PyData) (n m d : Nat) : Prop where
  n : nP p ≤ n
  m : mP p ≤ m
  d : p.depth ≤ d
  l : lP p = true
theorem Bd.shows {lo i j : Nat} {S : Sto} {d : D} {p : PyData} {n m k : Nat} (h : PV lo i j S d p) (b : Bd p n m k) (hn : n ≤ 50000) (hk : k ≤ 60) : ShowsD S d p := by
  have h1 := shown_le p b.l
  have h2 := b.n
  have h3 := b.d
  have e : sizeLine = 16777216 := by decide +kernel
  exact ⟨h.q, lP_show p b.l, by omega, by omega⟩
end PE

set_option Elab.async false
set_option linter.all false
set_option maxRecDepth 100000
set_option maxHeartbeats 1000000
namespace PE
open PySem L2 DL PG PyProof.Rows
mutual
def fP : D → PyData
  | .non => .none | .bl b => .bool b | .int i => .int i | .str x => .str x | .tup ds => .tuple (fPA ds) | .loc _ => .none | .scr _ => .none
def fPA : List D → List PyData
  | [] => []
  | d :: ds => fP d :: fPA ds
end
mutual
def lf : D → Bool
  | .non => true | .bl _ => true | .int _ => true | .str _ => true | .tup ds => lfA ds | .loc _ => false | .scr _ => false
def lfA : List D → Bool
  | [] => true
  | d :: ds => lf d && lfA ds
end
section
variable {lo i j : Nat} {S : Sto}
mutual
theorem fP_ok : ∀ d : D, lf d = true → PV lo i j S d (fP d)
  | .non, _ => by rw [fP]; exact .non
  | .bl b, _ => by rw [fP]; exact .bl b
  | .int k, _ => by rw [fP]; exact .int k
  | .str x, _ => by rw [fP]; exact .str x
  | .tup ds, h => by rw [lf] at h; rw [fP]; exact .tup (fPA_ok ds h)
  | .loc _, h => by rw [lf] at h; cases h
  | .scr _, h => by rw [lf] at h; cases h
theorem fPA_ok : ∀ ds : List D, lfA ds = true → PVA lo i j S ds (fPA ds)
  | [], _ => by rw [fPA]; exact .nil
  | d :: ds, h => by
    rw [lfA, Bool.and_eq_true] at h
    rw [fPA]
    exact .cons (fP_ok d h.1) (fPA_ok ds h.2)
end
end
theorem fPA_len : ∀ ds : List D, (fPA ds).length = ds.length
  | [] => by rw [fPA]; rfl
  | d :: ds => by rw [fPA, List.length_cons, List.length_cons, fPA_len ds]
structure BdA (p : List PyData) (n m d : Nat) : Prop where
  n : nPA p ≤ n
  m : mPA p ≤ m
  d : PyData.depthAll p ≤ d
  l : lPA p = true
theorem Bd.mono {p : PyData} {n m d n' m' d' : Nat} (h : Bd p n m d) (a : n ≤ n') (b : m ≤ m') (c : d ≤ d') : Bd p n' m' d' := ⟨Nat.le_trans h.n a, Nat.le_trans h.m b, Nat.le_trans h.d c, h.l⟩
theorem BdA.mono {p : List PyData} {n m d n' m' d' : Nat} (h : BdA p n m d) (a : n ≤ n') (b : m ≤ m') (c : d ≤ d') : BdA p n' m' d' := ⟨Nat.le_trans h.n a, Nat.le_trans h.m b, Nat.le_trans h.d c, h.l⟩
theorem BdA.nil {m d : Nat} : BdA [] 0 m d := ⟨by simp [nPA], by simp [mPA], by simp [PyData.depthAll], by simp [lPA]⟩
theorem BdA.cons {p : PyData} {ps : List PyData} {n n' m d : Nat} (h : Bd p n m d) (h' : BdA ps n' m d) : BdA (p :: ps) (n + n') m d := by
  obtain ⟨a, b, c, e⟩ := h
  obtain ⟨a', b', c', e'⟩ := h'
  exact ⟨by rw [nPA]; omega, by rw [mPA]; omega, by rw [PyData.depthAll]; omega, by rw [lPA, e, e']; rfl⟩
theorem BdA.app {p q : List PyData} {n n' m d : Nat} (h : BdA p n m d) (h' : BdA q n' m d) : BdA (p ++ q) (n + n') m d := by
  obtain ⟨a, b, c, e⟩ := h
  obtain ⟨a', b', c', e'⟩ := h'
  exact ⟨by rw [nPA_app]; omega, by rw [mPA_app]; omega, by rw [dPA_app]; omega, by rw [lPA_app, e, e']; rfl⟩
theorem Bd.tup {ps : List PyData} {n m d : Nat} (h : BdA ps n m d) (hl : ps.length ≤ m) : Bd (.tuple ps) (1 + n) m (d + 1) := by
  obtain ⟨a, b, c, e⟩ := h
  exact ⟨by rw [nP]; omega, by rw [mP]; omega, by rw [PyData.depth]; omega, by rw [lP]; exact e⟩
theorem Bd.lst {ps : List PyData} {n m d : Nat} (h : BdA ps n m d) (hl : ps.length ≤ m) : Bd (.list ps) (1 + n) m (d + 1) := by
  obtain ⟨a, b, c, e⟩ := h
  exact ⟨by rw [nP]; omega, by rw [mP]; omega, by rw [PyData.depth]; omega, by rw [lP]; exact e⟩
theorem Bd.untup {ps : List PyData} {n m d : Nat} (h : Bd (.tuple ps) n m d) : BdA ps (n - 1) m (d - 1) ∧ ps.length ≤ m ∧ 1 ≤ n ∧ 1 ≤ d := by
  obtain ⟨a, b, c, e⟩ := h
  rw [nP] at a
  rw [mP] at b
  rw [PyData.depth] at c
  rw [lP] at e
  exact ⟨⟨by omega, by omega, by omega, e⟩, by omega, by omega, by omega⟩
theorem int_len : ∀ k : Fin 199, (PyData.shown (.int ((k.val : Int) - 99))).length ≤ 300 ∧ PyData.showable (.int ((k.val : Int) - 99)) = true := by
  have : ∀ k : Fin 199, (decide (((toString ((k.val : Int) - 99) : String) : Str).length ≤ 300) && decide (((k.val : Int) - 99).natAbs.log2 < 1920)) = true := by decide +kernel
  intro k
  have := this k
  rw [Bool.and_eq_true, decide_eq_true_eq] at this
  simp only [PyData.shown, PyData.showable]
  exact this
theorem Bd.int {k : Int} {m d : Nat} (h1 : -99 ≤ k) (h2 : k ≤ 99) : Bd (.int k) 1 m d := by
  have := int_len ⟨(k + 99).toNat, by omega⟩
  have e : (((k + 99).toNat : Nat) : Int) - 99 = k := by omega
  simp only [e] at this
  exact ⟨by simp [nP], by simp [mP], by simp [PyData.depth], by rw [lP, this.2]; simpa using this.1⟩
theorem Bd.str {x : Str} {m d : Nat} (h : x.length ≤ m) (hl : x.length ≤ 20) (hc : ∀ c ∈ x.cps.toList, c < 16 ^ 8) : Bd (.str x) 1 m d := by
  have := StrLaws.reprText_len x hc
  exact ⟨by simp [nP], by rw [mP]; exact h, by simp [PyData.depth], by rw [lP]; simp only [PyData.shown]; exact decide_eq_true (by omega)⟩
theorem nm_chars {z : Str} (h : nameOk z = true) : z.length ≤ 8 ∧ ∀ c ∈ z.cps.toList, c < 16 ^ 8 := by
  unfold nameOk at h
  simp only [Bool.and_eq_true, decide_eq_true_eq, List.all_eq_true, Bool.or_eq_true] at h
  refine ⟨h.1.1.1.2, fun c hc => ?_⟩
  have hl : ∀ c ∈ lets, c < 16 ^ 8 := by decide +kernel
  have hd : ∀ c ∈ digs, c < 16 ^ 8 := by decide +kernel
  exact (h.2 c hc).elim (hl c) (hd c)
/-- a word of the law's -/
theorem Bd.w (s : String) {m d : Nat} (h : (decide ((Str.ofString s).length ≤ 8) && (Str.ofString s).cps.toList.all fun c => decide (c < 16 ^ 8)) = true) (hm : 8 ≤ m) : Bd (.str (Str.ofString s)) 1 m d := by
  simp only [Bool.and_eq_true, decide_eq_true_eq, List.all_eq_true] at h
  exact .str (by omega) (by omega) h.2
def gE : Nat → Nat
  | 0 => 0
  | n + 1 => 2 + 2 * gE n
theorem ex_bd : ∀ (e : Ex) (n : Nat), e.ok n → lf e.d = true ∧ Bd (fP e.d) (gE n) 8 n
  | .int i, n, h => by
    obtain ⟨h0, h1, h2⟩ := h
    obtain ⟨n, rfl⟩ : ∃ k, n = k + 1 := ⟨n - 1, by omega⟩
    rw [Ex.d, fP]
    exact ⟨rfl, (Bd.int (d := 0) h1 h2).mono (by rw [gE]; omega) (Nat.le_refl _) (by omega)⟩
  | .nm z, n, h => by
    obtain ⟨h0, h1⟩ := h
    obtain ⟨n, rfl⟩ : ∃ k, n = k + 1 := ⟨n - 1, by omega⟩
    rw [Ex.d, fP]
    obtain ⟨a, b⟩ := nm_chars h1
    exact ⟨rfl, (Bd.str (d := 0) (m := 8) a (by omega) b).mono (by rw [gE]; omega) (Nat.le_refl _) (by omega)⟩
  | .plus a b, n, h => by
    obtain ⟨h0, h1, h2⟩ := h
    obtain ⟨n, rfl⟩ : ∃ k, n = k + 1 := ⟨n - 1, by omega⟩
    obtain ⟨l1, b1⟩ := ex_bd a n h1
    obtain ⟨l2, b2⟩ := ex_bd b n h2
    rw [Ex.d]
    refine ⟨by simp [lf, lfA, l1, l2], ?_⟩
    simp only [fP, fPA]
    exact (Bd.tup (.cons (.w "plus" (by decide +kernel) (Nat.le_refl _)) (.cons b1 (.cons b2 .nil))) (by simp)).mono (by rw [gE]; omega) (Nat.le_refl _) (Nat.le_refl _)
  | .minus a b, n, h => by
    obtain ⟨h0, h1, h2⟩ := h
    obtain ⟨n, rfl⟩ : ∃ k, n = k + 1 := ⟨n - 1, by omega⟩
    obtain ⟨l1, b1⟩ := ex_bd a n h1
    obtain ⟨l2, b2⟩ := ex_bd b n h2
    rw [Ex.d]
    refine ⟨by simp [lf, lfA, l1, l2], ?_⟩
    simp only [fP, fPA]
    exact (Bd.tup (.cons (.w "minus" (by decide +kernel) (Nat.le_refl _)) (.cons b1 (.cons b2 .nil))) (by simp)).mono (by rw [gE]; omega) (Nat.le_refl _) (Nat.le_refl _)
  | .times k e, n, h => by
    obtain ⟨h0, h1, h2, h3⟩ := h
    obtain ⟨n, rfl⟩ : ∃ k, n = k + 1 := ⟨n - 1, by omega⟩
    obtain ⟨l1, b1⟩ := ex_bd e n h3
    have hg : 1 ≤ gE n := Nat.le_trans (nP_pos _) b1.n
    rw [Ex.d]
    refine ⟨by simp [lf, lfA, l1], ?_⟩
    simp only [fP, fPA]
    exact (Bd.tup (.cons (.w "times" (by decide +kernel) (Nat.le_refl _)) (.cons (.int (by omega) (by omega)) (.cons b1 .nil))) (by simp)).mono (by rw [gE]; omega) (Nat.le_refl _) (Nat.le_refl _)
theorem te_bd : ∀ (t : Te) (n : Nat), t.ok n → lf t.d = true ∧ Bd (fP t.d) (30 + 2 * n) 8 (4 + n)
  | .less a b, n, h => by
    obtain ⟨l1, b1⟩ := ex_bd a 3 h.1
    obtain ⟨l2, b2⟩ := ex_bd b 3 h.2
    have g3 : gE 3 = 14 := rfl
    rw [g3] at b1 b2
    rw [Te.d]
    refine ⟨by simp [lf, lfA, l1, l2], ?_⟩
    simp only [fP, fPA]
    exact (Bd.tup (.cons (.w "less" (by decide +kernel) (Nat.le_refl _)) (.cons b1 (.cons b2 .nil))) (by simp)).mono (by omega) (Nat.le_refl _) (by omega)
  | .rest e m r, n, h => by
    obtain ⟨h0, h1, h2, h3, h4⟩ := h
    obtain ⟨l1, b1⟩ := ex_bd e 3 h0
    have g3 : gE 3 = 14 := rfl
    rw [g3] at b1
    rw [Te.d]
    refine ⟨by simp [lf, lfA, l1], ?_⟩
    simp only [fP, fPA]
    exact (Bd.tup (.cons (.w "rest" (by decide +kernel) (Nat.le_refl _)) (.cons b1 (.cons (.int (by omega) (by omega)) (.cons (.int (by omega) (by omega)) .nil)))) (by simp)).mono (by omega) (Nat.le_refl _) (by omega)
  | .no t, n, h => by
    obtain ⟨h0, h1⟩ := h
    obtain ⟨n, rfl⟩ : ∃ k, n = k + 1 := ⟨n - 1, by omega⟩
    obtain ⟨l1, b1⟩ := te_bd t n h1
    rw [Te.d]
    refine ⟨by simp [lf, lfA, l1], ?_⟩
    simp only [fP, fPA]
    exact (Bd.tup (.cons (.w "not" (by decide +kernel) (Nat.le_refl _)) (.cons b1 .nil)) (by simp)).mono (by omega) (Nat.le_refl _) (by omega)
theorem dA_len : ∀ b : List Sm, (dA b).length = b.length
  | [] => by rw [dA]; rfl
  | s :: r => by rw [dA, List.length_cons, List.length_cons, dA_len r]
mutual
theorem cS_pos : ∀ s : Sm, 0 ≤ (cS s).a
  | .set _ _ => by simp [cS, u1]
  | .pay _ => by simp [cS, u1]
  | .stop => by simp [cS, u1]
  | .iff t y n => by have := cA_pos y; have := cA_pos n; rw [cS]; unfold teC; split <;> simp [Lf.add, u1] <;> omega
  | .we y n => by have := cA_pos y; have := cA_pos n; rw [cS]; simp [Lf.add, u1, uC]; omega
  | .they y n => by have := cA_pos y; have := cA_pos n; rw [cS]; simp [Lf.add, u1, uC]; omega
  | .rep k b => by have := cA_pos b; rw [cS]; simp [Lf.add, Lf.scale, u1]; omega
theorem cA_pos : ∀ b : List Sm, 0 ≤ (cA b).a
  | [] => by simp [cA, u0]
  | s :: r => by have := cS_pos s; have := cA_pos r; rw [cA_cons]; show 0 ≤ (cS s).a + (cA r).a; omega
end
mutual
theorem sm_bd : ∀ (s : Sm) (m : Nat), s.ok → (cS s).a ≤ (m : Int) → 8 ≤ m → lf s.d = true ∧ Bd (fP s.d) (38 * (cS s).a.toNat) m (2 * hS s + 8) ∧ 1 ≤ (cS s).a
  | .set z e, m, h, ha, hm => by
    rw [Sm.ok] at h
    obtain ⟨l1, b1⟩ := ex_bd e 3 h.2
    have g3 : gE 3 = 14 := rfl
    rw [g3] at b1
    obtain ⟨a, b⟩ := nm_chars h.1
    rw [Sm.d]
    refine ⟨by simp [lf, lfA, l1], ?_, by simp [cS, u1]⟩
    simp only [fP, fPA]
    exact (Bd.tup (.cons (.w "set" (by decide +kernel) (Nat.le_refl _)) (.cons (.str a (by omega) b) (.cons b1 .nil))) (by simp)).mono (by simp [cS, u1]) hm (by omega)
  | .pay e, m, h, ha, hm => by
    rw [Sm.ok] at h
    obtain ⟨l1, b1⟩ := ex_bd e 3 h
    have g3 : gE 3 = 14 := rfl
    rw [g3] at b1
    rw [Sm.d]
    refine ⟨by simp [lf, lfA, l1], ?_, by simp [cS, u1]⟩
    simp only [fP, fPA]
    exact (Bd.tup (.cons (.w "pay" (by decide +kernel) (Nat.le_refl _)) (.cons b1 .nil)) (by simp)).mono (by simp [cS, u1]) hm (by omega)
  | .stop, m, h, ha, hm => by
    rw [Sm.d]
    refine ⟨by simp [lf, lfA], ?_, by simp [cS, u1]⟩
    simp only [fP, fPA]
    exact (Bd.tup (d := 0) (.cons (.w "stop" (by decide +kernel) (Nat.le_refl _)) .nil) (by simp)).mono (by simp [cS, u1]) hm (by omega)
  | .iff t y n, m, h, ha, hm => by
    rw [Sm.ok] at h
    have ea : (cS (.iff t y n)).a = 1 + (cA y).a + (cA n).a := by rw [cS]; unfold teC; split <;> simp [Lf.add, u1] <;> omega
    rw [ea] at ha ⊢
    have p1 := cA_pos y
    have p2 := cA_pos n
    obtain ⟨l0, b0⟩ := te_bd t 2 h.1
    obtain ⟨l1, b1, c1⟩ := smA_bd y m h.2.1 (by omega) hm
    obtain ⟨l2, b2, c2⟩ := smA_bd n m h.2.2 (by omega) hm
    have b1 := Bd.tup b1 (by rw [fPA_len, dA_len]; omega)
    have b2 := Bd.tup b2 (by rw [fPA_len, dA_len]; omega)
    rw [Sm.d]
    refine ⟨by simp [lf, lfA, l0, l1, l2], ?_, by omega⟩
    simp only [fP, fPA, hS]
    exact (Bd.tup (d := 2 * max (hA y) (hA n) + 7) (.cons (.w "if" (by decide +kernel) hm) (.cons (b0.mono (Nat.le_refl _) hm (by omega)) (.cons (b1.mono (Nat.le_refl _) (Nat.le_refl _) (by omega)) (.cons (b2.mono (Nat.le_refl _) (Nat.le_refl _) (by omega)) .nil)))) (by simp; omega)).mono (by omega) (Nat.le_refl _) (by omega)
  | .we y n, m, h, ha, hm => by
    rw [Sm.ok] at h
    have ea : (cS (.we y n)).a = 1 + (cA y).a + (cA n).a := by rw [cS]; simp [Lf.add, u1, uC]; omega
    rw [ea] at ha ⊢
    have p1 := cA_pos y
    have p2 := cA_pos n
    obtain ⟨l1, b1, c1⟩ := smA_bd y m h.1 (by omega) hm
    obtain ⟨l2, b2, c2⟩ := smA_bd n m h.2 (by omega) hm
    have b1 := Bd.tup b1 (by rw [fPA_len, dA_len]; omega)
    have b2 := Bd.tup b2 (by rw [fPA_len, dA_len]; omega)
    rw [Sm.d]
    refine ⟨by simp [lf, lfA, l1, l2], ?_, by omega⟩
    simp only [fP, fPA, hS]
    exact (Bd.tup (d := 2 * max (hA y) (hA n) + 7) (.cons (.w "we" (by decide +kernel) hm) (.cons (b1.mono (Nat.le_refl _) (Nat.le_refl _) (by omega)) (.cons (b2.mono (Nat.le_refl _) (Nat.le_refl _) (by omega)) .nil))) (by simp; omega)).mono (by omega) (Nat.le_refl _) (by omega)
  | .they y n, m, h, ha, hm => by
    rw [Sm.ok] at h
    have ea : (cS (.they y n)).a = 1 + (cA y).a + (cA n).a := by rw [cS]; simp [Lf.add, u1, uC]; omega
    rw [ea] at ha ⊢
    have p1 := cA_pos y
    have p2 := cA_pos n
    obtain ⟨l1, b1, c1⟩ := smA_bd y m h.1 (by omega) hm
    obtain ⟨l2, b2, c2⟩ := smA_bd n m h.2 (by omega) hm
    have b1 := Bd.tup b1 (by rw [fPA_len, dA_len]; omega)
    have b2 := Bd.tup b2 (by rw [fPA_len, dA_len]; omega)
    rw [Sm.d]
    refine ⟨by simp [lf, lfA, l1, l2], ?_, by omega⟩
    simp only [fP, fPA, hS]
    exact (Bd.tup (d := 2 * max (hA y) (hA n) + 7) (.cons (.w "they" (by decide +kernel) hm) (.cons (b1.mono (Nat.le_refl _) (Nat.le_refl _) (by omega)) (.cons (b2.mono (Nat.le_refl _) (Nat.le_refl _) (by omega)) .nil))) (by simp; omega)).mono (by omega) (Nat.le_refl _) (by omega)
  | .rep k b, m, h, ha, hm => by
    rw [Sm.ok] at h
    have ea : (cS (.rep k b)).a = 1 + (cA b).a := by rw [cS]; simp [Lf.add, Lf.scale, u1]
    rw [ea] at ha ⊢
    have p1 := cA_pos b
    obtain ⟨l1, b1, c1⟩ := smA_bd b m h.2.2 (by omega) hm
    have b1 := Bd.tup b1 (by rw [fPA_len, dA_len]; omega)
    rw [Sm.d]
    refine ⟨by simp [lf, lfA, l1], ?_, by omega⟩
    simp only [fP, fPA, hS]
    exact (Bd.tup (d := 2 * hA b + 7) (.cons (.w "repeat" (by decide +kernel) hm) (.cons (.int (by omega) (by omega)) (.cons (b1.mono (Nat.le_refl _) (Nat.le_refl _) (by omega)) .nil))) (by simp; omega)).mono (by omega) (Nat.le_refl _) (by omega)
theorem smA_bd : ∀ (b : List Sm) (m : Nat), okA b → (cA b).a ≤ (m : Int) → 8 ≤ m → lfA (dA b) = true ∧ BdA (fPA (dA b)) (38 * (cA b).a.toNat) m (2 * hA b + 6) ∧ (b.length : Int) ≤ (cA b).a
  | [], m, h, ha, hm => by
    rw [dA, fPA]
    exact ⟨by simp [lfA], BdA.nil.mono (by omega) (Nat.le_refl _) (Nat.le_refl _), by simp [cA, u0]⟩
  | s :: r, m, h, ha, hm => by
    rw [okA_cons] at h
    have ea : (cA (s :: r)).a = (cS s).a + (cA r).a := by rw [cA_cons]; rfl
    rw [ea] at ha ⊢
    have p1 := cA_pos r
    have p2 := cS_pos s
    obtain ⟨l1, b1, c1⟩ := sm_bd s m h.1 (by omega) hm
    obtain ⟨l2, b2, c2⟩ := smA_bd r m h.2 (by omega) hm
    rw [dA, fPA, hA_cons]
    refine ⟨by simp [lfA, l1, l2], (BdA.cons (b1.mono (d' := 2 * max (hS s + 1) (hA r) + 6) (Nat.le_refl _) (Nat.le_refl _) (by omega)) (b2.mono (Nat.le_refl _) (Nat.le_refl _) (by omega))).mono (by omega) (Nat.le_refl _) (Nat.le_refl _), by rw [List.length_cons]; omega⟩
end
end PE

set_option Elab.async false
set_option linter.all false
set_option maxRecDepth 100000
set_option maxHeartbeats 1000000
namespace PE
open PySem L2 DL PG PyProof.Rows
/-! ### what program_error tells is shown -/
def FB (F : List D → Int → Int × Option Str) : Prop := ∀ (ds : List D) (p p' : Int) (o : Option Str), F ds p = (p', o) → p ≤ p' ∧ p' ≤ p + (szA ds : Int) ∧ (o = none ∨ o = some (Str.ofString "nest") ∨ o = some (Str.ofString "statement"))
theorem mFs_le {F : List D → Int → Int × Option Str} (hF : FB F) : ∀ (bs : List D) (p p' : Int) (o : Option Str), mFs F bs p = (p', o) → p ≤ p' ∧ p' ≤ p + (szB bs : Int) ∧ (o = none ∨ o = some (Str.ofString "nest") ∨ o = some (Str.ofString "statement"))
  | [], p, p', o, h => by
    rw [mFs] at h
    cases h
    exact ⟨Int.le_refl _, by simp [szB], .inl rfl⟩
  | b :: bs, p, p', o, h => by
    rw [mFs] at h
    rw [szB]
    cases hM : F (items b) p with
    | mk p1 o1 =>
      obtain ⟨a1, a2, a3⟩ := hF _ _ _ _ hM
      rw [hM] at h
      cases o1 with
      | some w =>
        cases h
        exact ⟨a1, by omega, a3⟩
      | none =>
        obtain ⟨b1, b2, b3⟩ := mFs_le hF bs p1 p' o h
        exact ⟨by omega, by omega, b3⟩
theorem mFl_le {F : List D → Int → Int × Option Str} (hF : FB F) : FB (mFl F)
  | [], p, p', o, h => by
    rw [mFl] at h
    cases h
    exact ⟨Int.le_refl _, by simp [szA], .inl rfl⟩
  | x :: r, p, p', o, h => by
    rw [mFl] at h
    rw [szA]
    have hp := szD_pos x
    cases hk : stK x with
    | false =>
      rw [hk] at h
      simp only [Bool.false_eq_true, if_false] at h
      cases h
      exact ⟨Int.le_refl _, by omega, .inr (.inr rfl)⟩
    | true =>
      rw [hk, if_pos rfl] at h
      have sh : Shp x (stB x) (stK x) := by
        rcases st_spec x with h | ⟨_, _, h⟩
        · exact h
        · rw [hk] at h; cases h
      have hzb := szB_le sh
      cases hM : mFs F (stB x) (p + 1) with
      | mk p1 o1 =>
        obtain ⟨a1, a2, a3⟩ := mFs_le hF _ _ _ _ hM
        rw [hM] at h
        cases o1 with
        | some w =>
          cases h
          exact ⟨by omega, by omega, a3⟩
        | none =>
          obtain ⟨b1, b2, b3⟩ := mFl_le hF r p1 p' o h
          exact ⟨by omega, by omega, b3⟩
theorem mF_le : ∀ k : Nat, FB (mF k)
  | 0, ds, p, p', o, h => by
    cases ds with
    | nil =>
      have h : (p, (none : Option Str)) = (p', o) := h
      cases h
      exact ⟨Int.le_refl _, by simp [szA], .inl rfl⟩
    | cons x r =>
      have h : (p, some (Str.ofString "nest")) = (p', o) := h
      cases h
      exact ⟨Int.le_refl _, by omega, .inr (.inl rfl)⟩
  | k + 1, ds, p, p', o, h => mFl_le (mF_le k) ds p p' o h
theorem nat_len : ∀ k : Fin 5001, (decide (((toString ((k.val : Nat) : Int) : String) : Str).length ≤ 300) && decide (((k.val : Nat) : Int).natAbs.log2 < 1920)) = true := by decide +kernel
theorem Bd.nat {k : Int} {m d : Nat} (h1 : 0 ≤ k) (h2 : k ≤ 5000) : Bd (.int k) 1 m d := by
  have := nat_len ⟨k.toNat, by omega⟩
  have e : ((k.toNat : Nat) : Int) = k := by omega
  simp only [e] at this
  rw [Bool.and_eq_true, decide_eq_true_eq] at this
  refine ⟨by simp [nP], by simp [mP], by simp [PyData.depth], ?_⟩
  rw [lP]
  simp only [PyData.shown, PyData.showable]
  rw [Bool.and_eq_true]
  exact ⟨decide_eq_true this.1, this.2⟩
theorem c_shows {S : Sto} {d : D} (h : (lf d && (decide (nP (fP d) ≤ 50000) && decide ((fP d).depth ≤ 60) && lP (fP d))) = true) : ShowsD S d (fP d) := by
  simp only [Bool.and_eq_true, decide_eq_true_eq] at h
  have hp : PV 0 S.length S.length S d (fP d) := fP_ok d h.1
  exact Bd.shows hp ⟨h.2.1.1, Nat.le_refl _, h.2.1.2, h.2.2⟩ (Nat.le_refl _) (Nat.le_refl _)
theorem mErr_shows {d : D} {S : Sto} (hz : szD d ≤ 5000) : ShowsD S (mErr d) (fP (mErr d)) := by
  cases d with
  | tup ds =>
    rw [szD] at hz
    cases hM : mF 4 ds 0 with
    | mk p o =>
      obtain ⟨a1, a2, a3⟩ := mF_le 4 ds 0 p o hM
      have w8 : ∀ s : String, (decide ((Str.ofString s).length ≤ 20) && (Str.ofString s).cps.toList.all fun c => decide (c < 16 ^ 8)) = true → ShowsD S (.tup [.int p, .str (Str.ofString s)]) (fP (.tup [.int p, .str (Str.ofString s)])) := fun s h => by
        simp only [Bool.and_eq_true, decide_eq_true_eq, List.all_eq_true] at h
        have hp : PV 0 S.length S.length S (.tup [.int p, .str (Str.ofString s)]) (.tuple [.int p, .str (Str.ofString s)]) := .tup (.cons (.int _) (.cons (.str _) .nil))
        simp only [fP, fPA]
        exact Bd.shows hp (Bd.tup (d := 0) (m := 20) (.cons (Bd.nat a1 (by omega)) (.cons (.str h.1 h.1 h.2) .nil)) (by simp)) (by omega) (by omega)
      cases o with
      | some w =>
        have : mErr (.tup ds) = .tup [.int p, .str w] := by rw [mErr, hM]
        rw [this]
        rcases a3 with h | h | h
        · cases h
        · cases h; exact w8 "nest" (by decide +kernel)
        · cases h; exact w8 "statement" (by decide +kernel)
      | none =>
        have : mErr (.tup ds) = resD (cA (smOf ds)) := by rw [mErr, hM]
        rw [this]
        unfold resD
        split
        · exact c_shows (by decide +kernel)
        split
        · exact c_shows (by decide +kernel)
        split
        · exact c_shows (by decide +kernel)
        split
        · exact c_shows (by decide +kernel)
        split
        · exact c_shows (by decide +kernel)
        · exact c_shows (by decide +kernel)
  | _ => exact (c_shows (by decide +kernel) : ShowsD S (.tup [.non, .str (Str.ofString "program")]) (fP (.tup [.non, .str (Str.ofString "program")])))
end PE

set_option Elab.async false
set_option linter.all false
set_option maxRecDepth 100000
set_option maxHeartbeats 4000000
namespace K21
open PySem L2 DL PyProof.Rows
def top (i : Nat) : Stmt := PySem.Challenge.pw_weandthey_k21_single_statements.main.body.getD i (.Pass ⟨0, 0, 0, 0⟩)
section
variable {P : Program} {w : World} {K : PySem.W.Frag} {mg : Str → Option Value} {base : Heap}
abbrev k_LETTERS : D := .str "abcdefghijklmnopqrstuvwxyz"
abbrev k_DIGITS : D := .str "0123456789"
abbrev k_WORDS : D := .tup [.str "set", .str "pay", .str "stop", .str "if", .str "else", .str "we", .str "they", .str "or", .str "repeat", .str "pass", .str "rest", .str "of", .str "not", .str "program"]
abbrev k_MAX_NAME : D := .int 8
abbrev k_MAX_FACTOR : D := .int 9
abbrev k_EXPRESSIONS : D := .tup [.tup [.str "plus", .int 3], .tup [.str "minus", .int 3], .tup [.str "times", .int 3]]
abbrev k_MAX_CONSTANT : D := .int 99
abbrev k_MAX_BY : D := .int 6
abbrev k_MAX_DEEP : D := .int 3
abbrev k_TESTS : D := .tup [.tup [.str "less", .int 3], .tup [.str "rest", .int 4], .tup [.str "not", .int 2]]
abbrev k_MAX_TIMES : D := .int 8
abbrev k_MAX_NOTS : D := .int 2
abbrev k_STATEMENTS : D := .tup [.tup [.str "set", .int 3], .tup [.str "pay", .int 2], .tup [.str "if", .int 4], .tup [.str "we", .int 3], .tup [.str "they", .int 3], .tup [.str "repeat", .int 3], .tup [.str "stop", .int 1]]
abbrev k_MAX_NEST : D := .int 3
abbrev k_MAX_COMPARINGS : D := .int 2
abbrev k_MAX_RESTS : D := .int 2
abbrev k_MAX_CHOICES : D := .int 4
abbrev k_KINDS : D := .tup [.str "set", .str "pay", .str "less", .str "rest", .str "we", .str "they", .str "repeat", .str "stop"]
abbrev k_MAX_WEIGHT : D := .int 30
abbrev k_MAX_PLACES : D := .int 24
/-- the built-in names are not bound by the module -/
structure Blt (mg : Str → Option Value) : Prop where
  abs : mg "abs" = none
  all : mg "all" = none
  bool : mg "bool" = none
  enumerate : mg "enumerate" = none
  int : mg "int" = none
  isinstance : mg "isinstance" = none
  len : mg "len" = none
  list : mg "list" = none
  max : mg "max" = none
  range : mg "range" = none
  repr : mg "repr" = none
  str : mg "str" = none
  sum : mg "sum" = none
  tuple : mg "tuple" = none
/-- the constants of the module -/
structure Cst (K : PySem.W.Frag) (mg : Str → Option Value) : Prop where
  LETTERS : GlD K mg "LETTERS" (V.str "abcdefghijklmnopqrstuvwxyz") k_LETTERS
  DIGITS : GlD K mg "DIGITS" (V.str "0123456789") k_DIGITS
  WORDS_ : ∃ a, GlD K mg "WORDS" (.ref a) k_WORDS
  MAX_NAME : GlD K mg "MAX_NAME" (V.int 8) k_MAX_NAME
  MAX_FACTOR : GlD K mg "MAX_FACTOR" (V.int 9) k_MAX_FACTOR
  EXPRESSIONS_ : ∃ a, GlD K mg "EXPRESSIONS" (.ref a) k_EXPRESSIONS
  MAX_CONSTANT : GlD K mg "MAX_CONSTANT" (V.int 99) k_MAX_CONSTANT
  MAX_BY : GlD K mg "MAX_BY" (V.int 6) k_MAX_BY
  MAX_DEEP : GlD K mg "MAX_DEEP" (V.int 3) k_MAX_DEEP
  TESTS_ : ∃ a, GlD K mg "TESTS" (.ref a) k_TESTS
  MAX_TIMES : GlD K mg "MAX_TIMES" (V.int 8) k_MAX_TIMES
  MAX_NOTS : GlD K mg "MAX_NOTS" (V.int 2) k_MAX_NOTS
  STATEMENTS_ : ∃ a, GlD K mg "STATEMENTS" (.ref a) k_STATEMENTS
  MAX_NEST : GlD K mg "MAX_NEST" (V.int 3) k_MAX_NEST
  MAX_COMPARINGS : GlD K mg "MAX_COMPARINGS" (V.int 2) k_MAX_COMPARINGS
  MAX_RESTS : GlD K mg "MAX_RESTS" (V.int 2) k_MAX_RESTS
  MAX_CHOICES : GlD K mg "MAX_CHOICES" (V.int 4) k_MAX_CHOICES
  KINDS_ : ∃ a, GlD K mg "KINDS" (.ref a) k_KINDS
  MAX_WEIGHT : GlD K mg "MAX_WEIGHT" (V.int 30) k_MAX_WEIGHT
  MAX_PLACES : GlD K mg "MAX_PLACES" (V.int 24) k_MAX_PLACES
/-! is_integer -/
abbrev st_is_integer : Stmt := top 21
abbrev N_is_integer : List Str := ["value"]
theorem sc_is_integer : FnScope N_is_integer ["value"] (defScope st_is_integer) := ⟨rfl, rfl, rfl, by decide +kernel, rfl, by decide +kernel, by decide +kernel⟩
theorem ok_is_integer {k : Nat} {f : Addr} {fd : FuncData} (F : Fun K "is_integer" "is_integer" st_is_integer f fd) (hm : mg "is_integer" = some (.ref f)) (hb : Binds K fd ["value"] []) (B : Blt mg) :
    DefD P w K mg base (k + 1) "is_integer" 1 (toC (fDef 1 1 PE.b_is_integer)) := by
  exact defF F sc_is_integer hm hb rfl rfl (fun cdv A outer s H E hg hr => ⟨_, (xs_one (xs_ret (x_and (x_isi rfl B.isinstance bt_isinstance (xv 0) rfl B.int bt_int) (x_one (x_not (x_isi rfl B.isinstance bt_isinstance (xv 0) rfl B.bool bt_bool))))))⟩)
/-! is_within -/
abbrev st_is_within : Stmt := top 22
abbrev N_is_within : List Str := ["value", "low", "high"]
theorem sc_is_within : FnScope N_is_within ["value", "low", "high"] (defScope st_is_within) := ⟨rfl, rfl, rfl, by decide +kernel, rfl, by decide +kernel, by decide +kernel⟩
theorem ok_is_within {k : Nat} {f : Addr} {fd : FuncData} (F : Fun K "is_within" "is_within" st_is_within f fd) (hm : mg "is_within" = some (.ref f)) (hb : Binds K fd ["value", "low", "high"] []) {f_is_integer : Fn} (F_is_integer : DefD P w K mg base k "is_integer" 1 (toC f_is_integer)) :
    DefD P w K mg base (k + 1) "is_within" 3 (toC (fDef 3 3 (PE.b_is_within f_is_integer))) := by
  exact defF F sc_is_within hm hb rfl rfl (fun cdv A outer s H E hg hr => ⟨_, (xs_one (xs_ret (x_and (x_call F_is_integer (by exact hg) (by exact hr) rfl (xa_cons (xv 0) xa_nil)) (x_one (x_chain xo_le xo_le (xv 1) (xv 0) (xv 2))))))⟩)
/-! is_name -/
abbrev st_is_name : Stmt := top 23
abbrev N_is_name : List Str := ["value", "sign"]
theorem sc_is_name : FnScope N_is_name ["value"] (defScope st_is_name) := ⟨rfl, rfl, rfl, by decide +kernel, rfl, by decide +kernel, by decide +kernel⟩
theorem ok_is_name {k : Nat} {f : Addr} {fd : FuncData} (F : Fun K "is_name" "is_name" st_is_name f fd) (hm : mg "is_name" = some (.ref f)) (hb : Binds K fd ["value"] []) (B : Blt mg) (C : Cst K mg) :
    DefD P w K mg base (k + 1) "is_name" 1 (toC (fDef 1 2 PE.b_is_name)) := by
  obtain ⟨a_WORDS, C_WORDS⟩ := C.WORDS_
  exact defF F sc_is_name hm hb rfl rfl (fun cdv A outer s H E hg hr => ⟨_, (xs_cons (xs_if (xt_w (xw_or (xt_not (xt_val (x_isi rfl B.isinstance bt_isinstance (xv 0) rfl B.str bt_str))) (xw_or1 (xt_not (xt_chain xo_le xo_le x_int (x_callB xb_len rfl B.len bt_len (xa_cons (xv 0) xa_nil)) (x_glob rfl C.MAX_NAME)))))) (xs_one (xs_ret x_bl)) xs_nil) (xs_cons (xs_if (xt_w (xw_or (xt_cmp (xo_in (by exact u65 hr)) (xv 0) (x_glob rfl C_WORDS) (by rfl)) (xw_or1 (xt_cmp xo_notin (x_ix (xv 0) x_int (fun _ _ => rfl)) (x_glob rfl C.LETTERS) (by rfl))))) (xs_one (xs_ret x_bl)) xs_nil) (xs_one (xs_ret (x_callB (xb_all rfl) rfl B.all bt_all (xa_cons (x_lc rfl sc_is_name.nd (tt := tYes) (t := fYes) (te := (tOrV (tOp (vInF K) (tVar 1) (tC (.str "abcdefghijklmnopqrstuvwxyz"))) (tOp (vInF K) (tVar 1) (tC (.str "0123456789"))))) (f := (fOrV (fOp oIn (fVar 1) (fC (.str "abcdefghijklmnopqrstuvwxyz"))) (fOp oIn (fVar 1) (fC (.str "0123456789"))))) (xi_any (xv 0)) (blkOk_by (N := N_is_name) (sc := defScope st_is_name) (by decide +kernel)) (fun _ _ _ _ _ => pg_name (i := 1) sc_is_name.nd rfl (Or.inl rfl)) (fun _ _ _ _ _ => xts_nil) (fun _ _ _ _ _ => (x_or (x_cmp (xo_in (by exact u65 hr)) (xv 1) (x_glob rfl C.LETTERS) (by rfl)) (x_one (x_cmp (xo_in (by exact u65 hr)) (xv 1) (x_glob rfl C.DIGITS) (by rfl))))) (s0 := s)) xa_nil))))))⟩)
/-! has_form -/
abbrev st_has_form : Stmt := top 24
abbrev N_has_form : List Str := ["value", "forms"]
theorem sc_has_form : FnScope N_has_form ["value", "forms"] (defScope st_has_form) := ⟨rfl, rfl, rfl, by decide +kernel, rfl, by decide +kernel, by decide +kernel⟩
theorem ok_has_form {k : Nat} {f : Addr} {fd : FuncData} (F : Fun K "has_form" "has_form" st_has_form f fd) (hm : mg "has_form" = some (.ref f)) (hb : Binds K fd ["value", "forms"] []) (B : Blt mg) :
    DefD P w K mg base (k + 1) "has_form" 2 (toC (fDef 2 2 PE.b_has_form)) := by
  exact defF F sc_has_form hm hb rfl rfl (fun cdv A outer s H E hg hr => ⟨_, (xs_one (xs_ret (x_and (x_isi rfl B.isinstance bt_isinstance (xv 0) rfl B.tuple bt_tuple) (x_and (x_cmp xo_gt (x_callB xb_len rfl B.len bt_len (xa_cons (xv 0) xa_nil)) x_int (nomark _)) (x_one (x_cmp (xo_in (by exact u65 hr)) (x_tup (xa_cons (x_ix (xv 0) x_int (fun _ _ => rfl)) (xa_cons (x_callB xb_len rfl B.len bt_len (xa_cons (xv 0) xa_nil)) xa_nil))) (xv 1) (by rfl)))))))⟩)
/-! is_expression -/
abbrev st_is_expression : Stmt := top 25
abbrev N_is_expression : List Str := ["value", "deep"]
theorem sc_is_expression : FnScope N_is_expression ["value", "deep"] (defScope st_is_expression) := ⟨rfl, rfl, rfl, by decide +kernel, rfl, by decide +kernel, by decide +kernel⟩
theorem ok_is_expression {k : Nat} {f : Addr} {fd : FuncData} (F : Fun K "is_expression" "is_expression" st_is_expression f fd) (hm : mg "is_expression" = some (.ref f)) (hb : Binds K fd ["value", "deep"] []) (C : Cst K mg) {f_is_expression : Fn} (F_is_expression : DefD P w K mg base k "is_expression" 2 (toC f_is_expression)) {f_is_within : Fn} (F_is_within : DefD P w K mg base k "is_within" 3 (toC f_is_within)) {f_has_form : Fn} (F_has_form : DefD P w K mg base k "has_form" 2 (toC f_has_form)) {f_is_name : Fn} (F_is_name : DefD P w K mg base k "is_name" 1 (toC f_is_name)) :
    DefD P w K mg base (k + 1) "is_expression" 2 (toC (fDef 2 2 (PE.b_is_expression f_is_expression f_is_within f_has_form f_is_name))) := by
  obtain ⟨a_EXPRESSIONS, C_EXPRESSIONS⟩ := C.EXPRESSIONS_
  exact defF F sc_is_expression hm hb rfl rfl (fun cdv A outer s H E hg hr => ⟨_, (xs_cons (xs_if (xt_cmp (xo_eq (by exact hr.units)) (xv 1) x_int (nomark _)) (xs_one (xs_ret x_bl)) xs_nil) (xs_cons (xs_if (xt_w (xw_or (xt_val (x_call F_is_within (by exact hg) (by exact hr) rfl (xa_cons (xv 0) (xa_cons (x_neg (x_glob rfl C.MAX_CONSTANT)) (xa_cons (x_glob rfl C.MAX_CONSTANT) xa_nil))))) (xw_or1 (xt_val (x_call F_is_name (by exact hg) (by exact hr) rfl (xa_cons (xv 0) xa_nil)))))) (xs_one (xs_ret x_bl)) xs_nil) (xs_cons (xs_if (xt_w (xw_or (xt_not (xt_val (x_call F_has_form (by exact hg) (by exact hr) rfl (xa_cons (xv 0) (xa_cons (x_glob rfl C_EXPRESSIONS) xa_nil))))) (xw_or1 (xt_not (xt_val (x_call F_is_expression (by exact hg) (by exact hr) rfl (xa_cons (x_ix (xv 0) x_int (fun _ _ => rfl)) (xa_cons (x_op xo_sub (xv 1) x_int) xa_nil)))))))) (xs_one (xs_ret x_bl)) xs_nil) (xs_cons (xs_if (xt_cmp (xo_eq (by exact hr.units)) (x_ix (xv 0) x_int (fun _ _ => rfl)) x_str (nomark _)) (xs_one (xs_ret (x_call F_is_within (by exact hg) (by exact hr) rfl (xa_cons (x_ix (xv 0) x_int (fun _ _ => rfl)) (xa_cons (x_neg (x_glob rfl C.MAX_FACTOR)) (xa_cons (x_glob rfl C.MAX_FACTOR) xa_nil)))))) xs_nil) (xs_one (xs_ret (x_call F_is_expression (by exact hg) (by exact hr) rfl (xa_cons (x_ix (xv 0) x_int (fun _ _ => rfl)) (xa_cons (x_op xo_sub (xv 1) x_int) xa_nil)))))))))⟩)
/-! is_test -/
abbrev st_is_test : Stmt := top 26
abbrev N_is_test : List Str := ["value", "nots"]
theorem sc_is_test : FnScope N_is_test ["value", "nots"] (defScope st_is_test) := ⟨rfl, rfl, rfl, by decide +kernel, rfl, by decide +kernel, by decide +kernel⟩
theorem ok_is_test {k : Nat} {f : Addr} {fd : FuncData} (F : Fun K "is_test" "is_test" st_is_test f fd) (hm : mg "is_test" = some (.ref f)) (hb : Binds K fd ["value", "nots"] []) (C : Cst K mg) {f_is_within : Fn} (F_is_within : DefD P w K mg base k "is_within" 3 (toC f_is_within)) {f_is_expression : Fn} (F_is_expression : DefD P w K mg base k "is_expression" 2 (toC f_is_expression)) {f_is_test : Fn} (F_is_test : DefD P w K mg base k "is_test" 2 (toC f_is_test)) {f_has_form : Fn} (F_has_form : DefD P w K mg base k "has_form" 2 (toC f_has_form)) :
    DefD P w K mg base (k + 1) "is_test" 2 (toC (fDef 2 2 (PE.b_is_test f_is_within f_is_expression f_is_test f_has_form))) := by
  obtain ⟨a_TESTS, C_TESTS⟩ := C.TESTS_
  exact defF F sc_is_test hm hb rfl rfl (fun cdv A outer s H E hg hr => ⟨_, (xs_cons (xs_if (xt_not (xt_val (x_call F_has_form (by exact hg) (by exact hr) rfl (xa_cons (xv 0) (xa_cons (x_glob rfl C_TESTS) xa_nil))))) (xs_one (xs_ret x_bl)) xs_nil) (xs_cons (xs_if (xt_cmp (xo_eq (by exact hr.units)) (x_ix (xv 0) x_int (fun _ _ => rfl)) x_str (nomark _)) (xs_one (xs_ret (x_and (x_cmp xo_gt (xv 1) x_int (nomark _)) (x_one (x_call F_is_test (by exact hg) (by exact hr) rfl (xa_cons (x_ix (xv 0) x_int (fun _ _ => rfl)) (xa_cons (x_op xo_sub (xv 1) x_int) xa_nil))))))) xs_nil) (xs_cons (xs_if (xt_not (xt_val (x_call F_is_expression (by exact hg) (by exact hr) rfl (xa_cons (x_ix (xv 0) x_int (fun _ _ => rfl)) (xa_cons (x_glob rfl C.MAX_DEEP) xa_nil))))) (xs_one (xs_ret x_bl)) xs_nil) (xs_cons (xs_if (xt_cmp (xo_eq (by exact hr.units)) (x_ix (xv 0) x_int (fun _ _ => rfl)) x_str (nomark _)) (xs_one (xs_ret (x_call F_is_expression (by exact hg) (by exact hr) rfl (xa_cons (x_ix (xv 0) x_int (fun _ _ => rfl)) (xa_cons (x_glob rfl C.MAX_DEEP) xa_nil))))) xs_nil) (xs_one (xs_ret (x_and (x_call F_is_within (by exact hg) (by exact hr) rfl (xa_cons (x_ix (xv 0) x_int (fun _ _ => rfl)) (xa_cons x_int (xa_cons (x_glob rfl C.MAX_BY) xa_nil)))) (x_one (x_call F_is_within (by exact hg) (by exact hr) rfl (xa_cons (x_ix (xv 0) x_int (fun _ _ => rfl)) (xa_cons x_int (xa_cons (x_op xo_sub (x_ix (xv 0) x_int (fun _ _ => rfl)) x_int) xa_nil))))))))))))⟩)
/-! blocks_of -/
abbrev st_blocks_of : Stmt := top 27
abbrev N_blocks_of : List Str := ["statement"]
theorem sc_blocks_of : FnScope N_blocks_of ["statement"] (defScope st_blocks_of) := ⟨rfl, rfl, rfl, by decide +kernel, rfl, by decide +kernel, by decide +kernel⟩
theorem ok_blocks_of {k : Nat} {f : Addr} {fd : FuncData} (F : Fun K "blocks_of" "blocks_of" st_blocks_of f fd) (hm : mg "blocks_of" = some (.ref f)) (hb : Binds K fd ["statement"] []) :
    DefD P w K mg base (k + 1) "blocks_of" 1 (toC (fDef 1 1 PE.b_blocks_of)) := by
  exact defF F sc_blocks_of hm hb rfl rfl (fun cdv A outer s H E hg hr => ⟨_, (xs_cons (xs_if (xt_cmp (xo_in (by exact u65 hr)) (x_ix (xv 0) x_int (fun _ _ => rfl)) (x_tup (xa_cons x_str (xa_cons x_str xa_nil))) (by rfl)) (xs_one (xs_ret (x_slice (xv 0) (xp_some x_int) xp_none))) xs_nil) (xs_cons (xs_if (xt_cmp (xo_in (by exact u65 hr)) (x_ix (xv 0) x_int (fun _ _ => rfl)) (x_tup (xa_cons x_str (xa_cons x_str xa_nil))) (by rfl)) (xs_one (xs_ret (x_slice (xv 0) (xp_some x_int) xp_none))) xs_nil) (xs_one (xs_ret (x_tup xa_nil)))))⟩)
/-! is_statement -/
abbrev st_is_statement : Stmt := top 28
abbrev N_is_statement : List Str := ["value", "block"]
theorem sc_is_statement : FnScope N_is_statement ["value"] (defScope st_is_statement) := ⟨rfl, rfl, rfl, by decide +kernel, rfl, by decide +kernel, by decide +kernel⟩
theorem ok_is_statement {k : Nat} {f : Addr} {fd : FuncData} (F : Fun K "is_statement" "is_statement" st_is_statement f fd) (hm : mg "is_statement" = some (.ref f)) (hb : Binds K fd ["value"] []) (B : Blt mg) (C : Cst K mg) {f_blocks_of : Fn} (F_blocks_of : DefD P w K mg base k "blocks_of" 1 (toC f_blocks_of)) {f_is_within : Fn} (F_is_within : DefD P w K mg base k "is_within" 3 (toC f_is_within)) {f_is_test : Fn} (F_is_test : DefD P w K mg base k "is_test" 2 (toC f_is_test)) {f_is_expression : Fn} (F_is_expression : DefD P w K mg base k "is_expression" 2 (toC f_is_expression)) {f_is_name : Fn} (F_is_name : DefD P w K mg base k "is_name" 1 (toC f_is_name)) {f_has_form : Fn} (F_has_form : DefD P w K mg base k "has_form" 2 (toC f_has_form)) :
    DefD P w K mg base (k + 1) "is_statement" 1 (toC (fDef 1 2 (PE.b_is_statement f_blocks_of f_is_within f_is_test f_is_expression f_is_name f_has_form))) := by
  obtain ⟨a_STATEMENTS, C_STATEMENTS⟩ := C.STATEMENTS_
  exact defF F sc_is_statement hm hb rfl rfl (fun cdv A outer s H E hg hr => ⟨_, (xs_cons (xs_if (xt_not (xt_val (x_call F_has_form (by exact hg) (by exact hr) rfl (xa_cons (xv 0) (xa_cons (x_glob rfl C_STATEMENTS) xa_nil))))) (xs_one (xs_ret x_bl)) xs_nil) (xs_cons (xs_if (xt_cmp (xo_eq (by exact hr.units)) (x_ix (xv 0) x_int (fun _ _ => rfl)) x_str (nomark _)) (xs_one (xs_ret (x_and (x_call F_is_name (by exact hg) (by exact hr) rfl (xa_cons (x_ix (xv 0) x_int (fun _ _ => rfl)) xa_nil)) (x_one (x_call F_is_expression (by exact hg) (by exact hr) rfl (xa_cons (x_ix (xv 0) x_int (fun _ _ => rfl)) (xa_cons (x_glob rfl C.MAX_DEEP) xa_nil))))))) xs_nil) (xs_cons (xs_if (xt_cmp (xo_eq (by exact hr.units)) (x_ix (xv 0) x_int (fun _ _ => rfl)) x_str (nomark _)) (xs_one (xs_ret (x_call F_is_expression (by exact hg) (by exact hr) rfl (xa_cons (x_ix (xv 0) x_int (fun _ _ => rfl)) (xa_cons (x_glob rfl C.MAX_DEEP) xa_nil))))) xs_nil) (xs_cons (xs_if (xt_w (xw_and (xt_cmp (xo_eq (by exact hr.units)) (x_ix (xv 0) x_int (fun _ _ => rfl)) x_str (nomark _)) (xw_and1 (xt_not (xt_val (x_call F_is_test (by exact hg) (by exact hr) rfl (xa_cons (x_ix (xv 0) x_int (fun _ _ => rfl)) (xa_cons (x_glob rfl C.MAX_NOTS) xa_nil)))))))) (xs_one (xs_ret x_bl)) xs_nil) (xs_cons (xs_if (xt_w (xw_and (xt_cmp (xo_eq (by exact hr.units)) (x_ix (xv 0) x_int (fun _ _ => rfl)) x_str (nomark _)) (xw_and1 (xt_not (xt_val (x_call F_is_within (by exact hg) (by exact hr) rfl (xa_cons (x_ix (xv 0) x_int (fun _ _ => rfl)) (xa_cons x_int (xa_cons (x_glob rfl C.MAX_TIMES) xa_nil))))))))) (xs_one (xs_ret x_bl)) xs_nil) (xs_one (xs_ret (x_callB (xb_all rfl) rfl B.all bt_all (xa_cons (x_lc rfl sc_is_statement.nd (tt := tYes) (t := fYes) (te := (tCB (rIsi K) (tCons (tVar 1) (tCons (tC (.ty "tuple")) tNil)))) (f := (fIsi "tuple" (fVar 1))) (xi_any (x_call F_blocks_of (by exact hg) (by exact hr) rfl (xa_cons (xv 0) xa_nil))) (blkOk_by (N := N_is_statement) (sc := defScope st_is_statement) (by decide +kernel)) (fun _ _ _ _ _ => pg_name (i := 1) sc_is_statement.nd rfl (Or.inl rfl)) (fun _ _ _ _ _ => xts_nil) (fun _ _ _ _ _ => (x_isi rfl B.isinstance bt_isinstance (xv 1) rfl B.tuple bt_tuple)) (s0 := s)) xa_nil)))))))))⟩)
/-! fault_in -/
abbrev st_fault_in : Stmt := top 29
abbrev N_fault_in : List Str := ["block", "place", "depth", "item", "inner", "word"]
theorem sc_fault_in : FnScope N_fault_in ["block", "place", "depth"] (defScope st_fault_in) := ⟨rfl, rfl, rfl, by decide +kernel, rfl, by decide +kernel, by decide +kernel⟩
theorem ok_fault_in {k : Nat} {f : Addr} {fd : FuncData} (F : Fun K "fault_in" "fault_in" st_fault_in f fd) (hm : mg "fault_in" = some (.ref f)) (hb : Binds K fd ["block", "place", "depth"] []) (C : Cst K mg) {f_blocks_of : Fn} (F_blocks_of : DefD P w K mg base k "blocks_of" 1 (toC f_blocks_of)) {f_fault_in : Fn} (F_fault_in : DefD P w K mg base k "fault_in" 3 (toC f_fault_in)) {f_is_statement : Fn} (F_is_statement : DefD P w K mg base k "is_statement" 1 (toC f_is_statement)) :
    DefD P w K mg base (k + 1) "fault_in" 3 (toC (fDef 3 6 (PE.b_fault_in f_blocks_of f_fault_in f_is_statement))) := by
  exact defF F sc_fault_in hm hb rfl rfl (fun cdv A outer s H E hg hr => ⟨_, (xs_cons (xs_for PassesOwn.never rfl (xi_any (xv 0)) (xg_name (i := 3) sc_fault_in.nd rfl (.inl rfl) (.inl rfl)) (xs_cons (xs_if (xt_cmp xo_gt (xv 2) (x_glob rfl C.MAX_NEST) (nomark _)) (xs_one (xs_ret (x_tup (xa_cons (xv 1) (xa_cons x_str xa_nil))))) xs_nil) (xs_cons (xs_if (xt_not (xt_val (x_call F_is_statement (by exact hg) (by exact hr) rfl (xa_cons (xv 3) xa_nil)))) (xs_one (xs_ret (x_tup (xa_cons (xv 1) (xa_cons x_str xa_nil))))) xs_nil) (xs_cons (xs_augI (i := 1) sc_fault_in.nd rfl (.inl rfl) (.inl rfl) x_int ip_add) (xs_one (xs_for PassesOwn.never rfl (xi_any (x_call F_blocks_of (by exact hg) (by exact hr) rfl (xa_cons (xv 3) xa_nil))) (xg_name (i := 4) sc_fault_in.nd rfl (.inl rfl) (.inl rfl)) (xs_cons (xs_asg (x_call F_fault_in (by exact hg) (by exact hr) rfl (xa_cons (xv 4) (xa_cons (xv 1) (xa_cons (x_op xo_add (xv 2) x_int) xa_nil)))) (xg_two rfl (xg_name (i := 1) sc_fault_in.nd rfl (.inl rfl) (.inl rfl)) (xg_name (i := 5) sc_fault_in.nd rfl (.inl rfl) (.inl rfl)))) (xs_one (xs_if (xt_cmp xo_isnot (xv 5) x_non (nomark _)) (xs_one (xs_ret (x_tup (xa_cons (xv 1) (xa_cons (xv 5) xa_nil))))) xs_nil))))))))) (xs_one (xs_ret (x_tup (xa_cons (xv 1) (xa_cons x_non xa_nil))))))⟩)
/-! kind_of -/
abbrev st_kind_of : Stmt := top 30
abbrev N_kind_of : List Str := ["statement", "test"]
theorem sc_kind_of : FnScope N_kind_of ["statement"] (defScope st_kind_of) := ⟨rfl, rfl, rfl, by decide +kernel, rfl, by decide +kernel, by decide +kernel⟩
theorem ok_kind_of {k : Nat} {f : Addr} {fd : FuncData} (F : Fun K "kind_of" "kind_of" st_kind_of f fd) (hm : mg "kind_of" = some (.ref f)) (hb : Binds K fd ["statement"] []) :
    DefD P w K mg base (k + 1) "kind_of" 1 (toC (fDef 1 2 PE.b_kind_of)) := by
  exact defF F sc_kind_of hm hb rfl rfl (fun cdv A outer s H E hg hr => ⟨_, (xs_cons (xs_if (xt_cmp (xo_ne (by exact hr.units)) (x_ix (xv 0) x_int (fun _ _ => rfl)) x_str (nomark _)) (xs_one (xs_ret (x_ix (xv 0) x_int (fun _ _ => rfl)))) xs_nil) (xs_cons (xs_set (i := 1) sc_kind_of.nd rfl (.inl rfl) (.inl rfl) (x_ix (xv 0) x_int (fun _ _ => rfl))) (xs_cons (xs_while PassesOwn.never (xt_cmp (xo_eq (by exact hr.units)) (x_ix (xv 1) x_int (fun _ _ => rfl)) x_str (nomark _)) (xs_one (xs_set (i := 1) sc_kind_of.nd rfl (.inl rfl) (.inl rfl) (x_ix (xv 1) x_int (fun _ _ => rfl))))) (xs_one (xs_ret (x_ix (xv 1) x_int (fun _ _ => rfl)))))))⟩)
/-! counted -/
abbrev st_counted : Stmt := top 31
abbrev N_counted : List Str := ["block", "kinds", "total", "statement", "times", "inner"]
theorem sc_counted : FnScope N_counted ["block", "kinds"] (defScope st_counted) := ⟨rfl, rfl, rfl, by decide +kernel, rfl, by decide +kernel, by decide +kernel⟩
theorem ok_counted {k : Nat} {f : Addr} {fd : FuncData} (F : Fun K "counted" "counted" st_counted f fd) (hm : mg "counted" = some (.ref f)) (hb : Binds K fd ["block", "kinds"] []) (B : Blt mg) {f_kind_of : Fn} (F_kind_of : DefD P w K mg base k "kind_of" 1 (toC f_kind_of)) {f_blocks_of : Fn} (F_blocks_of : DefD P w K mg base k "blocks_of" 1 (toC f_blocks_of)) {f_counted : Fn} (F_counted : DefD P w K mg base k "counted" 2 (toC f_counted)) :
    DefD P w K mg base (k + 1) "counted" 2 (toC (fDef 2 6 (PE.b_counted f_kind_of f_blocks_of f_counted))) := by
  exact defF F sc_counted hm hb rfl rfl (fun cdv A outer s H E hg hr => ⟨_, (xs_cons (xs_set (i := 2) sc_counted.nd rfl (.inl rfl) (.inl rfl) x_int) (xs_cons (xs_for PassesOwn.never rfl (xi_any (xv 0)) (xg_name (i := 3) sc_counted.nd rfl (.inl rfl) (.inl rfl)) (xs_cons (xs_set (i := 4) sc_counted.nd rfl (.inl rfl) (.inl rfl) (x_ifExp (xt_cmp (xo_eq (by exact hr.units)) (x_ix (xv 3) x_int (fun _ _ => rfl)) x_str (nomark _)) (x_ix (xv 3) x_int (fun _ _ => rfl)) x_int)) (xs_cons (xs_augI (i := 2) sc_counted.nd rfl (.inl rfl) (.inl rfl) (x_op xo_mul (xv 4) (x_callB (xb_sum rfl) rfl B.sum bt_sum (xa_cons (x_lc rfl sc_counted.nd (tt := tYes) (t := fYes) (te := (tCall (toSp K (toC f_counted)) [] E0 (tCons (tVar 5) (tCons (tVar 1) tNil)))) (f := (fCall f_counted (fCons (fVar 5) (fCons (fVar 1) fNil)))) (xi_any (x_call F_blocks_of (by exact hg) (by exact hr) rfl (xa_cons (xv 3) xa_nil))) (blkOk_by (N := N_counted) (sc := defScope st_counted) (by decide +kernel)) (fun _ _ _ _ _ => pg_name (i := 5) sc_counted.nd rfl (Or.inl rfl)) (fun _ _ _ _ _ => xts_nil) (fun _ _ _ _ _ => (x_call F_counted (by exact hg) (by exact hr) rfl (xa_cons (xv 5) (xa_cons (xv 1) xa_nil)))) (s0 := s)) xa_nil))) ip_add) (xs_one (xs_if (xt_cmp (xo_in (by exact u65 hr)) (x_call F_kind_of (by exact hg) (by exact hr) rfl (xa_cons (xv 3) xa_nil)) (xv 1) (by rfl)) (xs_one (xs_augI (i := 2) sc_counted.nd rfl (.inl rfl) (.inl rfl) x_int ip_add)) xs_nil))))) (xs_one (xs_ret (xv 2)))))⟩)
/-! bound_passed -/
abbrev st_bound_passed : Stmt := top 32
abbrev N_bound_passed : List Str := ["program", "places"]
theorem sc_bound_passed : FnScope N_bound_passed ["program", "places"] (defScope st_bound_passed) := ⟨rfl, rfl, rfl, by decide +kernel, rfl, by decide +kernel, by decide +kernel⟩
theorem ok_bound_passed {k : Nat} {f : Addr} {fd : FuncData} (F : Fun K "bound_passed" "bound_passed" st_bound_passed f fd) (hm : mg "bound_passed" = some (.ref f)) (hb : Binds K fd ["program", "places"] []) (C : Cst K mg) {f_counted : Fn} (F_counted : DefD P w K mg base k "counted" 2 (toC f_counted)) :
    DefD P w K mg base (k + 1) "bound_passed" 2 (toC (fDef 2 2 (PE.b_bound_passed f_counted))) := by
  obtain ⟨a_KINDS, C_KINDS⟩ := C.KINDS_
  exact defF F sc_bound_passed hm hb rfl rfl (fun cdv A outer s H E hg hr => ⟨_, (xs_cons (xs_if (xt_cmp xo_gt (xv 1) (x_glob rfl C.MAX_PLACES) (nomark _)) (xs_one (xs_ret x_str)) xs_nil) (xs_cons (xs_if (xt_cmp xo_gt (x_call F_counted (by exact hg) (by exact hr) rfl (xa_cons (xv 0) (xa_cons (x_glob rfl C_KINDS) xa_nil))) (x_glob rfl C.MAX_WEIGHT) (nomark _)) (xs_one (xs_ret x_str)) xs_nil) (xs_cons (xs_if (xt_cmp xo_gt (x_call F_counted (by exact hg) (by exact hr) rfl (xa_cons (xv 0) (xa_cons (x_tup (xa_cons x_str (xa_cons x_str xa_nil))) xa_nil))) (x_glob rfl C.MAX_CHOICES) (nomark _)) (xs_one (xs_ret x_str)) xs_nil) (xs_cons (xs_if (xt_cmp xo_gt (x_call F_counted (by exact hg) (by exact hr) rfl (xa_cons (xv 0) (xa_cons (x_tup (xa_cons x_str xa_nil)) xa_nil))) (x_glob rfl C.MAX_RESTS) (nomark _)) (xs_one (xs_ret x_str)) xs_nil) (xs_cons (xs_if (xt_cmp xo_gt (x_call F_counted (by exact hg) (by exact hr) rfl (xa_cons (xv 0) (xa_cons (x_tup (xa_cons x_str xa_nil)) xa_nil))) (x_glob rfl C.MAX_COMPARINGS) (nomark _)) (xs_one (xs_ret x_str)) xs_nil) (xs_one (xs_ret x_non)))))))⟩)
/-! program_error -/
abbrev st_program_error : Stmt := top 33
abbrev N_program_error : List Str := ["value", "place", "word"]
theorem sc_program_error : FnScope N_program_error ["value"] (defScope st_program_error) := ⟨rfl, rfl, rfl, by decide +kernel, rfl, by decide +kernel, by decide +kernel⟩
theorem ok_program_error {k : Nat} {f : Addr} {fd : FuncData} (F : Fun K "program_error" "program_error" st_program_error f fd) (hm : mg "program_error" = some (.ref f)) (hb : Binds K fd ["value"] []) (B : Blt mg) {f_bound_passed : Fn} (F_bound_passed : DefD P w K mg base k "bound_passed" 2 (toC f_bound_passed)) {f_fault_in : Fn} (F_fault_in : DefD P w K mg base k "fault_in" 3 (toC f_fault_in)) :
    DefD P w K mg base (k + 1) "program_error" 1 (toC (fDef 1 3 (PE.b_program_error f_bound_passed f_fault_in))) := by
  exact defF F sc_program_error hm hb rfl rfl (fun cdv A outer s H E hg hr => ⟨_, (xs_cons (xs_if (xt_not (xt_val (x_isi rfl B.isinstance bt_isinstance (xv 0) rfl B.tuple bt_tuple))) (xs_one (xs_ret (x_tup (xa_cons x_non (xa_cons x_str xa_nil))))) xs_nil) (xs_cons (xs_asg (x_call F_fault_in (by exact hg) (by exact hr) rfl (xa_cons (xv 0) (xa_cons x_int (xa_cons x_int xa_nil)))) (xg_two rfl (xg_name (i := 1) sc_program_error.nd rfl (.inl rfl) (.inl rfl)) (xg_name (i := 2) sc_program_error.nd rfl (.inl rfl) (.inl rfl)))) (xs_cons (xs_if (xt_cmp xo_isnot (xv 2) x_non (nomark _)) (xs_one (xs_ret (x_tup (xa_cons (xv 1) (xa_cons (xv 2) xa_nil))))) xs_nil) (xs_cons (xs_set (i := 2) sc_program_error.nd rfl (.inl rfl) (.inl rfl) (x_call F_bound_passed (by exact hg) (by exact hr) rfl (xa_cons (xv 0) (xa_cons (xv 1) xa_nil)))) (xs_one (xs_ret (x_ifExp (xt_cmp xo_is (xv 2) x_non (nomark _)) x_non (x_tup (xa_cons x_non (xa_cons (xv 2) xa_nil))))))))))⟩)
/-! _law_deck -/
abbrev st__law_deck : Stmt := top 35
abbrev N__law_deck : List Str := ["_law_script", "_law_cell"]
theorem sc__law_deck : FnScope N__law_deck ["_law_script"] (defScope st__law_deck) := ⟨rfl, rfl, rfl, by decide +kernel, rfl, by decide +kernel, by decide +kernel⟩
theorem ok__law_deck {k : Nat} {f : Addr} {fd : FuncData} (F : Fun K "_law_deck" "_law_deck" st__law_deck f fd) (hm : mg "_law_deck" = some (.ref f)) (hb : Binds K fd ["_law_script"] []) (B : Blt mg) :
    DefD P w K mg base (k + 1) "_law_deck" 1 (toC (fDef 1 2 PG.b__law_deck)) := by
  exact defF F sc__law_deck hm hb rfl rfl (fun cdv A outer s H E hg hr => ⟨_, (xs_one (xs_ret (x_lst (xa_cons (x_lc rfl sc__law_deck.nd (tt := tYes) (t := fYes) (te := (tCB vAbs (tCons (tVar 1) tNil))) (f := (fCB bAbs (fCons (fVar 1) fNil))) (xi_any (x_slice (xv 0) xp_none (xp_some x_int))) (blkOk_by (N := N__law_deck) (sc := defScope st__law_deck) (by decide +kernel)) (fun _ _ _ _ _ => pg_name (i := 1) sc__law_deck.nd rfl (Or.inl rfl)) (fun _ _ _ _ _ => xts_nil) (fun _ _ _ _ _ => (x_callB xb_abs rfl B.abs bt_abs (xa_cons (xv 1) xa_nil))) (s0 := s)) (xa_cons x_int xa_nil)))))⟩)
/-! _law_draw -/
abbrev st__law_draw : Stmt := top 36
abbrev N__law_draw : List Str := ["_law_deck_here", "_law_many", "_law_cell", "_law_at", "_law_mixed"]
theorem sc__law_draw : FnScope N__law_draw ["_law_deck_here", "_law_many"] (defScope st__law_draw) := ⟨rfl, rfl, rfl, by decide +kernel, rfl, by decide +kernel, by decide +kernel⟩
theorem ok__law_draw {k : Nat} {f : Addr} {fd : FuncData} (F : Fun K "_law_draw" "_law_draw" st__law_draw f fd) (hm : mg "_law_draw" = some (.ref f)) (hb : Binds K fd ["_law_deck_here", "_law_many"] []) (B : Blt mg) :
    DefD P w K mg base (k + 1) "_law_draw" 2 (toC (fDef 2 5 PG.b__law_draw)) := by
  exact defF F sc__law_draw hm hb rfl rfl (fun cdv A outer s H E hg hr => ⟨_, (xs_cons (xs_asg (x_op xo_add (x_ix (xv 0) x_int (fun _ _ => rfl)) x_int) (xg_sub (xv 0) x_int)) (xs_cons (xs_asg (x_tup (xa_cons x_int (xa_cons (x_neg x_int) xa_nil))) (xg_two rfl (xg_name (i := 2) sc__law_draw.nd rfl (.inl rfl) (.inl rfl)) (xg_name (i := 3) sc__law_draw.nd rfl (.inl rfl) (.inl rfl)))) (xs_cons (xs_if (xt_cmp xo_gt (x_callB xb_len rfl B.len bt_len (xa_cons (x_ix (xv 0) x_int (fun _ _ => rfl)) xa_nil)) x_int (nomark _)) (xs_cons (xs_set (i := 3) sc__law_draw.nd rfl (.inl rfl) (.inl rfl) (x_op xo_mod (x_callTy xb_int rfl B.int bt_int (xa_cons (x_ix (xv 0) x_int (fun _ _ => rfl)) xa_nil)) (x_callB xb_len rfl B.len bt_len (xa_cons (x_ix (xv 0) x_int (fun _ _ => rfl)) xa_nil)))) (xs_one (xs_set (i := 2) sc__law_draw.nd rfl (.inl rfl) (.inl rfl) (x_ix (x_ix (xv 0) x_int (fun _ _ => rfl)) (xv 3) (fun _ _ => rfl))))) xs_nil) (xs_cons (xs_if (xt_cmp xo_ge (xv 2) (x_op xo_pow x_int x_int) (nomark _)) (xs_cons (xs_asg (x_op xo_fdiv (x_callTy xb_int rfl B.int bt_int (xa_cons (xv 2) xa_nil)) (xv 1)) (xg_sub (x_ix (xv 0) x_int (fun _ _ => rfl)) (xv 3))) (xs_one (xs_ret (x_op xo_mod (x_callTy xb_int rfl B.int bt_int (xa_cons (xv 2) xa_nil)) (xv 1))))) xs_nil) (xs_cons (xs_set (i := 4) sc__law_draw.nd rfl (.inl rfl) (.inl rfl) (x_op xo_add (x_op xo_add (x_op xo_mod (x_callTy xb_int rfl B.int bt_int (xa_cons (xv 2) xa_nil)) x_int) (x_op xo_mul x_int (x_ix (xv 0) x_int (fun _ _ => rfl)))) x_int)) (xs_one (xs_ret (x_op xo_mod (x_callTy xb_int rfl B.int bt_int (xa_cons (x_op xo_mod (x_callTy xb_int rfl B.int bt_int (xa_cons (x_op xo_pow (xv 4) x_int) xa_nil)) x_int) xa_nil)) (xv 1)))))))))⟩)
/-! _law_one -/
abbrev st__law_one : Stmt := top 37
abbrev N__law_one : List Str := ["_law_deck_here", "_law_items"]
theorem sc__law_one : FnScope N__law_one ["_law_deck_here", "_law_items"] (defScope st__law_one) := ⟨rfl, rfl, rfl, by decide +kernel, rfl, by decide +kernel, by decide +kernel⟩
theorem ok__law_one {k : Nat} {f : Addr} {fd : FuncData} (F : Fun K "_law_one" "_law_one" st__law_one f fd) (hm : mg "_law_one" = some (.ref f)) (hb : Binds K fd ["_law_deck_here", "_law_items"] []) (B : Blt mg) {f__law_draw : Fn} (F__law_draw : DefD P w K mg base k "_law_draw" 2 (toC f__law_draw)) :
    DefD P w K mg base (k + 1) "_law_one" 2 (toC (fDef 2 2 (PG.b__law_one f__law_draw))) := by
  exact defF F sc__law_one hm hb rfl rfl (fun cdv A outer s H E hg hr => ⟨_, (xs_one (xs_ret (x_ix (xv 1) (x_call F__law_draw (by exact hg) (by exact hr) rfl (xa_cons (xv 0) (xa_cons (x_callB xb_len rfl B.len bt_len (xa_cons (xv 1) xa_nil)) xa_nil))) (fun _ _ => rfl))))⟩)
/-! _law_names -/
abbrev st__law_names : Stmt := top 38
abbrev N__law_names : List Str := ["_law_deck_here", "_law_letters", "_law_signs", "_law_words", "_law_at", "_law_size", "_law_left", "_law_right", "_law_k"]
theorem sc__law_names : FnScope N__law_names ["_law_deck_here"] (defScope st__law_names) := ⟨rfl, rfl, rfl, by decide +kernel, rfl, by decide +kernel, by decide +kernel⟩
theorem ok__law_names {k : Nat} {f : Addr} {fd : FuncData} (F : Fun K "_law_names" "_law_names" st__law_names f fd) (hm : mg "_law_names" = some (.ref f)) (hb : Binds K fd ["_law_deck_here"] []) (B : Blt mg) {f__law_draw : Fn} (F__law_draw : DefD P w K mg base k "_law_draw" 2 (toC f__law_draw)) {f__law_one : Fn} (F__law_one : DefD P w K mg base k "_law_one" 2 (toC f__law_one)) :
    DefD P w K mg base (k + 1) "_law_names" 1 (toC (fDef 1 9 (PG.b__law_names f__law_draw f__law_one))) := by
  exact defF F sc__law_names hm hb rfl rfl (fun cdv A outer s H E hg hr => ⟨_, (xs_cons (xs_set (i := 1) sc__law_names.nd rfl (.inr rfl) (.inl rfl) x_str) (xs_cons (xs_set (i := 2) sc__law_names.nd rfl (.inr rfl) (.inl rfl) (x_op xo_add (xv 1) x_str)) (xs_cons (xs_set (i := 3) sc__law_names.nd rfl (.inl rfl) (.inl rfl) (x_lst (xa_cons x_str (xa_cons x_str (xa_cons x_str (xa_cons x_str (xa_cons x_str (xa_cons x_str (xa_cons x_str (xa_cons x_str (xa_cons x_str (xa_cons x_str (xa_cons x_str (xa_cons x_str xa_nil)))))))))))))) (xs_cons (xs_par (i := 4) (j := 5) rfl sc__law_names.nd rfl rfl (by decide) rfl rfl (xa_cons (x_call F__law_draw (by exact hg) (by exact hr) rfl (xa_cons (xv 0) (xa_cons x_int xa_nil))) (xa_cons (x_call F__law_one (by exact hg) (by exact hr) rfl (xa_cons (xv 0) (xa_cons (x_lst (xa_cons x_int (xa_cons x_int (xa_cons x_int (xa_cons x_int (xa_cons x_int (xa_cons x_int (xa_cons x_int xa_nil)))))))) xa_nil))) xa_nil))) (xs_cons (xs_if (xt_cmp xo_lt (xv 4) x_int (nomark _)) (xs_one (xs_ret (x_op xo_add (x_lst (xa_cons x_str xa_nil)) (x_slice (xv 3) (xp_some (xv 4)) (xp_some (x_op xo_add (xv 4) x_int)))))) xs_nil) (xs_cons (xs_set (i := 6) sc__law_names.nd rfl (.inr rfl) (.inl rfl) (x_join x_str (x_lc rfl sc__law_names.nd (tt := tYes) (t := fYes) (te := (tCall (toSp K (toC f__law_one)) [] E0 (tCons (tVar 0) (tCons (tVar 1) tNil)))) (f := (fCall f__law_one (fCons (fVar 0) (fCons (fVar 1) fNil)))) (xi_rng1 rfl B.range (xa_cons (xv 5) xa_nil)) (blkOk_by (N := N__law_names) (sc := defScope st__law_names) (by decide +kernel)) (fun _ _ _ _ _ => pg_name (i := 8) sc__law_names.nd rfl (Or.inl rfl)) (fun _ _ _ _ _ => xts_nil) (fun _ _ _ _ _ => (x_call F__law_one (by exact hg) (by exact hr) rfl (xa_cons (xv 0) (xa_cons (xv 1) xa_nil)))) (s0 := s)))) (xs_cons (xs_set (i := 7) sc__law_names.nd rfl (.inr rfl) (.inl rfl) (x_join x_str (x_lc rfl sc__law_names.nd (tt := tYes) (t := fYes) (te := (tCall (toSp K (toC f__law_one)) [] E0 (tCons (tVar 0) (tCons (tVar 2) tNil)))) (f := (fCall f__law_one (fCons (fVar 0) (fCons (fVar 2) fNil)))) (xi_rng1 rfl B.range (xa_cons (x_call F__law_draw (by exact hg) (by exact hr) rfl (xa_cons (xv 0) (xa_cons (x_op xo_sub x_int (xv 5)) xa_nil))) xa_nil)) (blkOk_by (N := N__law_names) (sc := defScope st__law_names) (by decide +kernel)) (fun _ _ _ _ _ => pg_name (i := 8) sc__law_names.nd rfl (Or.inl rfl)) (fun _ _ _ _ _ => xts_nil) (fun _ _ _ _ _ => (x_call F__law_one (by exact hg) (by exact hr) rfl (xa_cons (xv 0) (xa_cons (xv 2) xa_nil)))) (s0 := s)))) (xs_one (xs_ret (x_op xo_add (x_lst (xa_cons x_str xa_nil)) (x_lc rfl sc__law_names.nd (tt := tYes) (t := fYes) (te := (tOp (vAdd K) (tOp (vAdd K) (tVar 6) (tOp (rIx K) (tC (.str "qxz")) (tVar 8))) (tVar 7))) (f := (fOp oAdd (fOp oAdd (fVar 6) (fOp oIx (fC (.str "qxz")) (fVar 8))) (fVar 7))) (xi_rng1 rfl B.range (xa_cons x_int xa_nil)) (blkOk_by (N := N__law_names) (sc := defScope st__law_names) (by decide +kernel)) (fun _ _ _ _ _ => pg_name (i := 8) sc__law_names.nd rfl (Or.inl rfl)) (fun _ _ _ _ _ => xts_nil) (fun _ _ _ _ _ => (x_op xo_add (x_op xo_add (xv 6) (x_ix x_str (xv 8) (fun _ _ => rfl))) (xv 7))) (s0 := s))))))))))))⟩)
/-! _law_parts -/
abbrev st__law_parts : Stmt := top 39
abbrev N__law_parts : List Str := ["_law_row"]
theorem sc__law_parts : FnScope N__law_parts ["_law_row"] (defScope st__law_parts) := ⟨rfl, rfl, rfl, by decide +kernel, rfl, by decide +kernel, by decide +kernel⟩
theorem ok__law_parts {k : Nat} {f : Addr} {fd : FuncData} (F : Fun K "_law_parts" "_law_parts" st__law_parts f fd) (hm : mg "_law_parts" = some (.ref f)) (hb : Binds K fd ["_law_row"] []) :
    DefD P w K mg base (k + 1) "_law_parts" 1 (toC (fDef 1 1 PE.b__law_parts)) := by
  exact defF F sc__law_parts hm hb rfl rfl (fun cdv A outer s H E hg hr => ⟨_, (xs_cons (xs_if (xt_cmp (xo_in (by exact u65 hr)) (x_ix (xv 0) x_int (fun _ _ => rfl)) (x_tup (xa_cons x_str (xa_cons x_str xa_nil))) (by rfl)) (xs_one (xs_ret (x_slice (xv 0) (xp_some x_int) xp_none))) xs_nil) (xs_one (xs_ret (x_ifExp (xt_cmp (xo_in (by exact u65 hr)) (x_ix (xv 0) x_int (fun _ _ => rfl)) (x_tup (xa_cons x_str (xa_cons x_str xa_nil))) (by rfl)) (x_slice (xv 0) (xp_some x_int) xp_none) (x_tup xa_nil)))))⟩)
/-! _law_whole -/
abbrev st__law_whole : Stmt := top 40
abbrev N__law_whole : List Str := ["_law_value", "_law_least", "_law_most"]
theorem sc__law_whole : FnScope N__law_whole ["_law_value", "_law_least", "_law_most"] (defScope st__law_whole) := ⟨rfl, rfl, rfl, by decide +kernel, rfl, by decide +kernel, by decide +kernel⟩
theorem ok__law_whole {k : Nat} {f : Addr} {fd : FuncData} (F : Fun K "_law_whole" "_law_whole" st__law_whole f fd) (hm : mg "_law_whole" = some (.ref f)) (hb : Binds K fd ["_law_value", "_law_least", "_law_most"] []) (B : Blt mg) :
    DefD P w K mg base (k + 1) "_law_whole" 3 (toC (fDef 3 3 PE.b__law_whole)) := by
  exact defF F sc__law_whole hm hb rfl rfl (fun cdv A outer s H E hg hr => ⟨_, (xs_one (xs_ret (x_and (x_isi rfl B.isinstance bt_isinstance (xv 0) rfl B.int bt_int) (x_and (x_not (x_isi rfl B.isinstance bt_isinstance (xv 0) rfl B.bool bt_bool)) (x_one (x_chain xo_le xo_le (xv 1) (xv 0) (xv 2)))))))⟩)
/-! _law_is_name -/
abbrev st__law_is_name : Stmt := top 41
abbrev N__law_is_name : List Str := ["_law_value", "_law_kept", "_law_sign"]
theorem sc__law_is_name : FnScope N__law_is_name ["_law_value"] (defScope st__law_is_name) := ⟨rfl, rfl, rfl, by decide +kernel, rfl, by decide +kernel, by decide +kernel⟩
theorem ok__law_is_name {k : Nat} {f : Addr} {fd : FuncData} (F : Fun K "_law_is_name" "_law_is_name" st__law_is_name f fd) (hm : mg "_law_is_name" = some (.ref f)) (hb : Binds K fd ["_law_value"] []) (B : Blt mg) :
    DefD P w K mg base (k + 1) "_law_is_name" 1 (toC (fDef 1 3 PE.b__law_is_name)) := by
  exact defF F sc__law_is_name hm hb rfl rfl (fun cdv A outer s H E hg hr => ⟨_, (xs_cons (xs_if (xt_w (xw_or (xt_not (xt_val (x_isi rfl B.isinstance bt_isinstance (xv 0) rfl B.str bt_str))) (xw_or (xt_not (xt_chain xo_le xo_le x_int (x_callB xb_len rfl B.len bt_len (xa_cons (xv 0) xa_nil)) x_int)) (xw_or1 (xt_cmp (xo_in (by exact u65 hr)) (x_ix (xv 0) x_int (fun _ _ => rfl)) x_str (by rfl)))))) (xs_one (xs_ret x_bl)) xs_nil) (xs_cons (xs_if (xt_cmp (xo_ne (by exact hr.units)) (x_lc rfl sc__law_is_name.nd (tt := (tTest (tOp (vNotInF K) (tVar 2) (tC (.str "abcdefghijklmnopqrstuvwxyz0123456789"))))) (t := (fTest (fOp oNotIn (fVar 2) (fC (.str "abcdefghijklmnopqrstuvwxyz0123456789"))))) (te := (tVar 2)) (f := (fVar 2)) (xi_any (xv 0)) (blkOk_by (N := N__law_is_name) (sc := defScope st__law_is_name) (by decide +kernel)) (fun _ _ _ _ _ => pg_name (i := 2) sc__law_is_name.nd rfl (Or.inl rfl)) (fun _ _ _ _ _ => (xts_one (xt_cmp xo_notin (xv 2) x_str (by rfl)))) (fun _ _ _ _ _ => (xv 2)) (s0 := s)) (x_lst xa_nil) (nomark _)) (xs_one (xs_ret x_bl)) xs_nil) (xs_cons (xs_set (i := 1) sc__law_is_name.nd rfl (.inl rfl) (.inl rfl) (x_lst (xa_cons x_str (xa_cons x_str (xa_cons x_str (xa_cons x_str (xa_cons x_str (xa_cons x_str (xa_cons x_str (xa_cons x_str (xa_cons x_str (xa_cons x_str (xa_cons x_str (xa_cons x_str (xa_cons x_str (xa_cons x_str xa_nil)))))))))))))))) (xs_one (xs_ret (x_cmp xo_notin (xv 0) (xv 1) (by rfl)))))))⟩)
/-! _law_is_expression -/
abbrev st__law_is_expression : Stmt := top 42
abbrev N__law_is_expression : List Str := ["_law_value", "_law_deep_here"]
theorem sc__law_is_expression : FnScope N__law_is_expression ["_law_value", "_law_deep_here"] (defScope st__law_is_expression) := ⟨rfl, rfl, rfl, by decide +kernel, rfl, by decide +kernel, by decide +kernel⟩
theorem ok__law_is_expression {k : Nat} {f : Addr} {fd : FuncData} (F : Fun K "_law_is_expression" "_law_is_expression" st__law_is_expression f fd) (hm : mg "_law_is_expression" = some (.ref f)) (hb : Binds K fd ["_law_value", "_law_deep_here"] []) (B : Blt mg) {f__law_is_expression : Fn} (F__law_is_expression : DefD P w K mg base k "_law_is_expression" 2 (toC f__law_is_expression)) {f__law_whole : Fn} (F__law_whole : DefD P w K mg base k "_law_whole" 3 (toC f__law_whole)) {f__law_is_name : Fn} (F__law_is_name : DefD P w K mg base k "_law_is_name" 1 (toC f__law_is_name)) :
    DefD P w K mg base (k + 1) "_law_is_expression" 2 (toC (fDef 2 2 (PE.b__law_is_expression f__law_is_expression f__law_whole f__law_is_name))) := by
  exact defF F sc__law_is_expression hm hb rfl rfl (fun cdv A outer s H E hg hr => ⟨_, (xs_cons (xs_if (xt_not (xt_val (x_isi rfl B.isinstance bt_isinstance (xv 0) rfl B.tuple bt_tuple))) (xs_one (xs_ret (x_and (x_cmp xo_gt (xv 1) x_int (nomark _)) (x_one (x_or (x_call F__law_is_name (by exact hg) (by exact hr) rfl (xa_cons (xv 0) xa_nil)) (x_one (x_call F__law_whole (by exact hg) (by exact hr) rfl (xa_cons (xv 0) (xa_cons (x_neg x_int) (xa_cons x_int xa_nil)))))))))) xs_nil) (xs_cons (xs_if (xt_w (xw_or (xt_cmp (xo_eq (by exact hr.units)) (xv 1) x_int (nomark _)) (xw_or (xt_cmp (xo_ne (by exact hr.units)) (x_callB xb_len rfl B.len bt_len (xa_cons (xv 0) xa_nil)) x_int (nomark _)) (xw_or1 (xt_not (xt_val (x_isi rfl B.isinstance bt_isinstance (x_ix (xv 0) x_int (fun _ _ => rfl)) rfl B.str bt_str))))))) (xs_one (xs_ret x_bl)) xs_nil) (xs_cons (xs_if (xt_cmp (xo_eq (by exact hr.units)) (x_ix (xv 0) x_int (fun _ _ => rfl)) x_str (nomark _)) (xs_one (xs_ret (x_and (x_call F__law_whole (by exact hg) (by exact hr) rfl (xa_cons (x_ix (xv 0) x_int (fun _ _ => rfl)) (xa_cons (x_neg x_int) (xa_cons x_int xa_nil)))) (x_one (x_call F__law_is_expression (by exact hg) (by exact hr) rfl (xa_cons (x_ix (xv 0) x_int (fun _ _ => rfl)) (xa_cons (x_op xo_sub (xv 1) x_int) xa_nil))))))) xs_nil) (xs_cons (xs_if (xt_cmp xo_notin (x_ix (xv 0) x_int (fun _ _ => rfl)) (x_lst (xa_cons x_str (xa_cons x_str xa_nil))) (by rfl)) (xs_one (xs_ret x_bl)) xs_nil) (xs_one (xs_ret (x_and (x_call F__law_is_expression (by exact hg) (by exact hr) rfl (xa_cons (x_ix (xv 0) x_int (fun _ _ => rfl)) (xa_cons (x_op xo_sub (xv 1) x_int) xa_nil))) (x_one (x_call F__law_is_expression (by exact hg) (by exact hr) rfl (xa_cons (x_ix (xv 0) x_int (fun _ _ => rfl)) (xa_cons (x_op xo_sub (xv 1) x_int) xa_nil)))))))))))⟩)
/-! _law_is_rest -/
abbrev st__law_is_rest : Stmt := top 43
abbrev N__law_is_rest : List Str := ["_law_value"]
theorem sc__law_is_rest : FnScope N__law_is_rest ["_law_value"] (defScope st__law_is_rest) := ⟨rfl, rfl, rfl, by decide +kernel, rfl, by decide +kernel, by decide +kernel⟩
theorem ok__law_is_rest {k : Nat} {f : Addr} {fd : FuncData} (F : Fun K "_law_is_rest" "_law_is_rest" st__law_is_rest f fd) (hm : mg "_law_is_rest" = some (.ref f)) (hb : Binds K fd ["_law_value"] []) {f__law_whole : Fn} (F__law_whole : DefD P w K mg base k "_law_whole" 3 (toC f__law_whole)) {f__law_is_expression : Fn} (F__law_is_expression : DefD P w K mg base k "_law_is_expression" 2 (toC f__law_is_expression)) :
    DefD P w K mg base (k + 1) "_law_is_rest" 1 (toC (fDef 1 1 (PE.b__law_is_rest f__law_whole f__law_is_expression))) := by
  exact defF F sc__law_is_rest hm hb rfl rfl (fun cdv A outer s H E hg hr => ⟨_, (xs_cons (xs_if (xt_w (xw_or (xt_not (xt_val (x_call F__law_is_expression (by exact hg) (by exact hr) rfl (xa_cons (x_ix (xv 0) x_int (fun _ _ => rfl)) (xa_cons x_int xa_nil))))) (xw_or1 (xt_not (xt_val (x_call F__law_whole (by exact hg) (by exact hr) rfl (xa_cons (x_ix (xv 0) x_int (fun _ _ => rfl)) (xa_cons x_int (xa_cons x_int xa_nil))))))))) (xs_one (xs_ret x_bl)) xs_nil) (xs_one (xs_ret (x_call F__law_whole (by exact hg) (by exact hr) rfl (xa_cons (x_ix (xv 0) x_int (fun _ _ => rfl)) (xa_cons x_int (xa_cons (x_op xo_sub (x_ix (xv 0) x_int (fun _ _ => rfl)) x_int) xa_nil)))))))⟩)
/-! _law_is_test -/
abbrev st__law_is_test : Stmt := top 44
abbrev N__law_is_test : List Str := ["_law_value", "_law_nots"]
theorem sc__law_is_test : FnScope N__law_is_test ["_law_value", "_law_nots"] (defScope st__law_is_test) := ⟨rfl, rfl, rfl, by decide +kernel, rfl, by decide +kernel, by decide +kernel⟩
theorem ok__law_is_test {k : Nat} {f : Addr} {fd : FuncData} (F : Fun K "_law_is_test" "_law_is_test" st__law_is_test f fd) (hm : mg "_law_is_test" = some (.ref f)) (hb : Binds K fd ["_law_value", "_law_nots"] []) (B : Blt mg) {f__law_is_expression : Fn} (F__law_is_expression : DefD P w K mg base k "_law_is_expression" 2 (toC f__law_is_expression)) {f__law_is_rest : Fn} (F__law_is_rest : DefD P w K mg base k "_law_is_rest" 1 (toC f__law_is_rest)) {f__law_is_test : Fn} (F__law_is_test : DefD P w K mg base k "_law_is_test" 2 (toC f__law_is_test)) :
    DefD P w K mg base (k + 1) "_law_is_test" 2 (toC (fDef 2 2 (PE.b__law_is_test f__law_is_expression f__law_is_rest f__law_is_test))) := by
  exact defF F sc__law_is_test hm hb rfl rfl (fun cdv A outer s H E hg hr => ⟨_, (xs_cons (xs_if (xt_w (xw_or (xt_not (xt_val (x_isi rfl B.isinstance bt_isinstance (xv 0) rfl B.tuple bt_tuple))) (xw_or (xt_cmp (xo_eq (by exact hr.units)) (xv 0) (x_tup xa_nil) (nomark _)) (xw_or1 (xt_not (xt_val (x_isi rfl B.isinstance bt_isinstance (x_ix (xv 0) x_int (fun _ _ => rfl)) rfl B.str bt_str))))))) (xs_one (xs_ret x_bl)) xs_nil) (xs_cons (xs_if (xt_cmp (xo_ne (by exact hr.units)) (x_callB xb_len rfl B.len bt_len (xa_cons (xv 0) xa_nil)) (x_get2 (by exact hu_of hr) (x_dict [("less", 3), ("rest", 4), ("not", 2)] (pps_cons pe_str pe_int (pps_cons pe_str pe_int (pps_cons pe_str pe_int pps_nil))) rfl rfl (fun h => nomatch h) (Nat.le_of_ble_eq_true rfl) (Nat.le_of_ble_eq_true rfl) (by decide +kernel)) (x_ix (xv 0) x_int (fun _ _ => rfl)) x_int ⟨rfl, rfl, rfl, rfl⟩) (nomark _)) (xs_one (xs_ret x_bl)) xs_nil) (xs_cons (xs_if (xt_cmp (xo_eq (by exact hr.units)) (x_ix (xv 0) x_int (fun _ _ => rfl)) x_str (nomark _)) (xs_one (xs_ret (x_and (x_cmp xo_gt (xv 1) x_int (nomark _)) (x_one (x_call F__law_is_test (by exact hg) (by exact hr) rfl (xa_cons (x_ix (xv 0) x_int (fun _ _ => rfl)) (xa_cons (x_op xo_sub (xv 1) x_int) xa_nil))))))) xs_nil) (xs_cons (xs_if (xt_cmp (xo_eq (by exact hr.units)) (x_ix (xv 0) x_int (fun _ _ => rfl)) x_str (nomark _)) (xs_one (xs_ret (x_call F__law_is_rest (by exact hg) (by exact hr) rfl (xa_cons (xv 0) xa_nil)))) xs_nil) (xs_one (xs_ret (x_and (x_call F__law_is_expression (by exact hg) (by exact hr) rfl (xa_cons (x_ix (xv 0) x_int (fun _ _ => rfl)) (xa_cons x_int xa_nil))) (x_one (x_call F__law_is_expression (by exact hg) (by exact hr) rfl (xa_cons (x_ix (xv 0) x_int (fun _ _ => rfl)) (xa_cons x_int xa_nil)))))))))))⟩)
/-! _law_is_statement -/
abbrev st__law_is_statement : Stmt := top 45
abbrev N__law_is_statement : List Str := ["_law_value", "_law_sizes", "_law_part"]
theorem sc__law_is_statement : FnScope N__law_is_statement ["_law_value"] (defScope st__law_is_statement) := ⟨rfl, rfl, rfl, by decide +kernel, rfl, by decide +kernel, by decide +kernel⟩
theorem ok__law_is_statement {k : Nat} {f : Addr} {fd : FuncData} (F : Fun K "_law_is_statement" "_law_is_statement" st__law_is_statement f fd) (hm : mg "_law_is_statement" = some (.ref f)) (hb : Binds K fd ["_law_value"] []) (B : Blt mg) {f__law_parts : Fn} (F__law_parts : DefD P w K mg base k "_law_parts" 1 (toC f__law_parts)) {f__law_whole : Fn} (F__law_whole : DefD P w K mg base k "_law_whole" 3 (toC f__law_whole)) {f__law_is_test : Fn} (F__law_is_test : DefD P w K mg base k "_law_is_test" 2 (toC f__law_is_test)) {f__law_is_expression : Fn} (F__law_is_expression : DefD P w K mg base k "_law_is_expression" 2 (toC f__law_is_expression)) {f__law_is_name : Fn} (F__law_is_name : DefD P w K mg base k "_law_is_name" 1 (toC f__law_is_name)) :
    DefD P w K mg base (k + 1) "_law_is_statement" 1 (toC (fDef 1 3 (PE.b__law_is_statement f__law_parts f__law_whole f__law_is_test f__law_is_expression f__law_is_name))) := by
  exact defF F sc__law_is_statement hm hb rfl rfl (fun cdv A outer s H E hg hr => ⟨_, (xs_cons (xs_if (xt_w (xw_or (xt_not (xt_val (x_isi rfl B.isinstance bt_isinstance (xv 0) rfl B.tuple bt_tuple))) (xw_or (xt_cmp (xo_eq (by exact hr.units)) (xv 0) (x_tup xa_nil) (nomark _)) (xw_or1 (xt_not (xt_val (x_isi rfl B.isinstance bt_isinstance (x_ix (xv 0) x_int (fun _ _ => rfl)) rfl B.str bt_str))))))) (xs_one (xs_ret x_bl)) xs_nil) (xs_cons (xs_set (i := 1) sc__law_is_statement.nd rfl (.inl rfl) (.inl rfl) (x_dict [("set", 3), ("pay", 2), ("stop", 1), ("if", 4), ("we", 3), ("they", 3), ("repeat", 3)] (pps_cons pe_str pe_int (pps_cons pe_str pe_int (pps_cons pe_str pe_int (pps_cons pe_str pe_int (pps_cons pe_str pe_int (pps_cons pe_str pe_int (pps_cons pe_str pe_int pps_nil))))))) rfl rfl (fun h => nomatch h) (Nat.le_of_ble_eq_true rfl) (Nat.le_of_ble_eq_true rfl) (by decide +kernel))) (xs_cons (xs_if (xt_cmp (xo_ne (by exact hr.units)) (x_callB xb_len rfl B.len bt_len (xa_cons (xv 0) xa_nil)) (x_get2 (by exact hu_of hr) (xv 1) (x_ix (xv 0) x_int (fun _ _ => rfl)) x_int ⟨rfl, rfl, rfl, rfl⟩) (nomark _)) (xs_one (xs_ret x_bl)) xs_nil) (xs_cons (xs_if (xt_cmp (xo_eq (by exact hr.units)) (x_ix (xv 0) x_int (fun _ _ => rfl)) x_str (nomark _)) (xs_one (xs_ret (x_and (x_call F__law_is_name (by exact hg) (by exact hr) rfl (xa_cons (x_ix (xv 0) x_int (fun _ _ => rfl)) xa_nil)) (x_one (x_call F__law_is_expression (by exact hg) (by exact hr) rfl (xa_cons (x_ix (xv 0) x_int (fun _ _ => rfl)) (xa_cons x_int xa_nil))))))) xs_nil) (xs_cons (xs_if (xt_cmp (xo_eq (by exact hr.units)) (x_ix (xv 0) x_int (fun _ _ => rfl)) x_str (nomark _)) (xs_one (xs_ret (x_call F__law_is_expression (by exact hg) (by exact hr) rfl (xa_cons (x_ix (xv 0) x_int (fun _ _ => rfl)) (xa_cons x_int xa_nil))))) xs_nil) (xs_cons (xs_if (xt_w (xw_and (xt_cmp (xo_eq (by exact hr.units)) (x_ix (xv 0) x_int (fun _ _ => rfl)) x_str (nomark _)) (xw_and1 (xt_not (xt_val (x_call F__law_is_test (by exact hg) (by exact hr) rfl (xa_cons (x_ix (xv 0) x_int (fun _ _ => rfl)) (xa_cons x_int xa_nil)))))))) (xs_one (xs_ret x_bl)) xs_nil) (xs_cons (xs_if (xt_w (xw_and (xt_cmp (xo_eq (by exact hr.units)) (x_ix (xv 0) x_int (fun _ _ => rfl)) x_str (nomark _)) (xw_and1 (xt_not (xt_val (x_call F__law_whole (by exact hg) (by exact hr) rfl (xa_cons (x_ix (xv 0) x_int (fun _ _ => rfl)) (xa_cons x_int (xa_cons x_int xa_nil))))))))) (xs_one (xs_ret x_bl)) xs_nil) (xs_one (xs_ret (x_cmp (xo_eq (by exact hr.units)) (x_lc rfl sc__law_is_statement.nd (tt := (tNot (tB (tCB (rIsi K) (tCons (tVar 2) (tCons (tC (.ty "tuple")) tNil)))))) (t := (fNot (fTest (fIsi "tuple" (fVar 2))))) (te := (tVar 2)) (f := (fVar 2)) (xi_any (x_call F__law_parts (by exact hg) (by exact hr) rfl (xa_cons (xv 0) xa_nil))) (blkOk_by (N := N__law_is_statement) (sc := defScope st__law_is_statement) (by decide +kernel)) (fun _ _ _ _ _ => pg_name (i := 2) sc__law_is_statement.nd rfl (Or.inl rfl)) (fun _ _ _ _ _ => (xts_one (xt_not (xt_val (x_isi rfl B.isinstance bt_isinstance (xv 2) rfl B.tuple bt_tuple))))) (fun _ _ _ _ _ => (xv 2)) (s0 := s)) (x_lst xa_nil) (nomark _)))))))))))⟩)
/-! _law_counts -/
abbrev st__law_counts : Stmt := top 46
abbrev N__law_counts : List Str := ["_law_block", "_law_found", "_law_row", "_law_test", "_law_own", "_law_part", "_law_inner", "_law_times", "_law_k"]
theorem sc__law_counts : FnScope N__law_counts ["_law_block"] (defScope st__law_counts) := ⟨rfl, rfl, rfl, by decide +kernel, rfl, by decide +kernel, by decide +kernel⟩
theorem ok__law_counts {k : Nat} {f : Addr} {fd : FuncData} (F : Fun K "_law_counts" "_law_counts" st__law_counts f fd) (hm : mg "_law_counts" = some (.ref f)) (hb : Binds K fd ["_law_block"] []) (B : Blt mg) {f__law_parts : Fn} (F__law_parts : DefD P w K mg base k "_law_parts" 1 (toC f__law_parts)) {f__law_counts : Fn} (F__law_counts : DefD P w K mg base k "_law_counts" 1 (toC f__law_counts)) :
    DefD P w K mg base (k + 1) "_law_counts" 1 (toC (fDef 1 9 (PE.b__law_counts f__law_parts f__law_counts))) := by
  exact defF F sc__law_counts hm hb rfl rfl (fun cdv A outer s H E hg hr => ⟨_, (xs_cons (xs_set (i := 1) sc__law_counts.nd rfl (.inr rfl) (.inl rfl) (x_lst (xa_cons x_int (xa_cons x_int (xa_cons x_int (xa_cons x_int (xa_cons x_int xa_nil))))))) (xs_cons (xs_for PassesOwn.never rfl (xi_any (xv 0)) (xg_name (i := 2) sc__law_counts.nd rfl (.inl rfl) (.inl rfl)) (xs_cons (xs_set (i := 3) sc__law_counts.nd rfl (.inl rfl) (.inl rfl) (x_ifExp (xt_cmp (xo_eq (by exact hr.units)) (x_ix (xv 2) x_int (fun _ _ => rfl)) x_str (nomark _)) (x_ix (xv 2) x_int (fun _ _ => rfl)) (x_tup (xa_cons x_str xa_nil)))) (xs_cons (xs_while PassesOwn.never (xt_cmp (xo_eq (by exact hr.units)) (x_ix (xv 3) x_int (fun _ _ => rfl)) x_str (nomark _)) (xs_one (xs_set (i := 3) sc__law_counts.nd rfl (.inl rfl) (.inl rfl) (x_ix (xv 3) x_int (fun _ _ => rfl))))) (xs_cons (xs_set (i := 4) sc__law_counts.nd rfl (.inr rfl) (.inl rfl) (x_lst (xa_cons x_int (xa_cons x_int (xa_cons (x_callTy xb_int rfl B.int bt_int (xa_cons (x_cmp (xo_in (by exact u65 hr)) (x_ix (xv 2) x_int (fun _ _ => rfl)) (x_tup (xa_cons x_str (xa_cons x_str xa_nil))) (by rfl)) xa_nil)) (xa_cons (x_callTy xb_int rfl B.int bt_int (xa_cons (x_cmp (xo_eq (by exact hr.units)) (x_ix (xv 3) x_int (fun _ _ => rfl)) x_str (nomark _)) xa_nil)) (xa_cons (x_callTy xb_int rfl B.int bt_int (xa_cons (x_cmp (xo_eq (by exact hr.units)) (x_ix (xv 3) x_int (fun _ _ => rfl)) x_str (nomark _)) xa_nil)) xa_nil))))))) (xs_cons (xs_for PassesOwn.never rfl (xi_any (x_call F__law_parts (by exact hg) (by exact hr) rfl (xa_cons (xv 2) xa_nil))) (xg_name (i := 5) sc__law_counts.nd rfl (.inl rfl) (.inl rfl)) (xs_cons (xs_asg (x_tup (xa_cons (x_call F__law_counts (by exact hg) (by exact hr) rfl (xa_cons (xv 5) xa_nil)) (xa_cons (x_ifExp (xt_cmp (xo_eq (by exact hr.units)) (x_ix (xv 2) x_int (fun _ _ => rfl)) x_str (nomark _)) (x_ix (xv 2) x_int (fun _ _ => rfl)) x_int) xa_nil))) (xg_two rfl (xg_name (i := 6) sc__law_counts.nd rfl (.inr rfl) (.inl rfl)) (xg_name (i := 7) sc__law_counts.nd rfl (.inr rfl) (.inl rfl)))) (xs_one (xs_set (i := 4) sc__law_counts.nd rfl (.inr rfl) (.inl rfl) (x_op xo_add (x_lst (xa_cons (x_op xo_add (x_ix (xv 4) x_int (fun _ _ => rfl)) (x_ix (xv 6) x_int (fun _ _ => rfl))) xa_nil)) (x_lc rfl sc__law_counts.nd (tt := tYes) (t := fYes) (te := (tOp (vAdd K) (tOp (rIx K) (tVar 4) (tVar 8)) (tOp (vMul K) (tVar 7) (tOp (rIx K) (tVar 6) (tVar 8))))) (f := (fOp oAdd (fOp oIx (fVar 4) (fVar 8)) (fOp oMul (fVar 7) (fOp oIx (fVar 6) (fVar 8))))) (xi_rng2 rfl B.range (xa_cons x_int (xa_cons x_int xa_nil))) (blkOk_by (N := N__law_counts) (sc := defScope st__law_counts) (by decide +kernel)) (fun _ _ _ _ _ => pg_name (i := 8) sc__law_counts.nd rfl (Or.inl rfl)) (fun _ _ _ _ _ => xts_nil) (fun _ _ _ _ _ => (x_op xo_add (x_ix (xv 4) (xv 8) (fun _ _ => rfl)) (x_op xo_mul (xv 7) (x_ix (xv 6) (xv 8) (fun _ _ => rfl))))) (s0 := s))))))) (xs_one (xs_set (i := 1) sc__law_counts.nd rfl (.inr rfl) (.inl rfl) (x_lc rfl sc__law_counts.nd (tt := tYes) (t := fYes) (te := (tOp (vAdd K) (tOp (rIx K) (tVar 1) (tVar 8)) (tOp (rIx K) (tVar 4) (tVar 8)))) (f := (fOp oAdd (fOp oIx (fVar 1) (fVar 8)) (fOp oIx (fVar 4) (fVar 8)))) (xi_rng1 rfl B.range (xa_cons x_int xa_nil)) (blkOk_by (N := N__law_counts) (sc := defScope st__law_counts) (by decide +kernel)) (fun _ _ _ _ _ => pg_name (i := 8) sc__law_counts.nd rfl (Or.inl rfl)) (fun _ _ _ _ _ => xts_nil) (fun _ _ _ _ _ => (x_op xo_add (x_ix (xv 1) (xv 8) (fun _ _ => rfl)) (x_ix (xv 4) (xv 8) (fun _ _ => rfl)))) (s0 := s))))))))) (xs_one (xs_ret (xv 1)))))⟩)
/-! _law_error -/
abbrev st__law_error : Stmt := top 47
abbrev N__law_error : List Str := ["_law_value", "_law_left", "_law_place", "_law_depth", "_law_row", "_law_inner", "_law_part", "_law_found", "_law_k", "_law_word", "_law_item"]
theorem sc__law_error : FnScope N__law_error ["_law_value"] (defScope st__law_error) := ⟨rfl, rfl, rfl, by decide +kernel, rfl, by decide +kernel, by decide +kernel⟩
theorem ok__law_error {k : Nat} {f : Addr} {fd : FuncData} (F : Fun K "_law_error" "_law_error" st__law_error f fd) (hm : mg "_law_error" = some (.ref f)) (hb : Binds K fd ["_law_value"] []) (B : Blt mg) {f__law_counts : Fn} (F__law_counts : DefD P w K mg base k "_law_counts" 1 (toC f__law_counts)) {f__law_parts : Fn} (F__law_parts : DefD P w K mg base k "_law_parts" 1 (toC f__law_parts)) {f__law_is_statement : Fn} (F__law_is_statement : DefD P w K mg base k "_law_is_statement" 1 (toC f__law_is_statement)) :
    DefD P w K mg base (k + 1) "_law_error" 1 (toC (fDef 1 11 (PE.b__law_error f__law_counts f__law_parts f__law_is_statement))) := by
  exact defF F sc__law_error hm hb rfl rfl (fun cdv A outer s H E hg hr => ⟨_, (xs_cons (xs_if (xt_not (xt_val (x_isi rfl B.isinstance bt_isinstance (xv 0) rfl B.tuple bt_tuple))) (xs_one (xs_ret (x_tup (xa_cons x_non (xa_cons x_str xa_nil))))) xs_nil) (xs_cons (xs_par (i := 1) (j := 2) rfl sc__law_error.nd rfl rfl (by decide) rfl rfl (xa_cons (x_revL (x_lc rfl sc__law_error.nd (tt := tYes) (t := fYes) (te := (tTup (tCons (tC (.int 0)) (tCons (tVar 10) tNil)))) (f := (fTup (fCons (fC (.int 0)) (fCons (fVar 10) fNil)))) (xi_any (xv 0)) (blkOk_by (N := N__law_error) (sc := defScope st__law_error) (by decide +kernel)) (fun _ _ _ _ _ => pg_name (i := 10) sc__law_error.nd rfl (Or.inl rfl)) (fun _ _ _ _ _ => xts_nil) (fun _ _ _ _ _ => (x_tup (xa_cons x_int (xa_cons (xv 10) xa_nil)))) (s0 := s))) (xa_cons x_int xa_nil))) (xs_cons (xs_while PassesOwn.never (xt_cmp (xo_ne (by exact hr.units)) (xv 1) (x_lst xa_nil) (nomark _)) (xs_cons (xs_asg (x_pop (xv 1)) (xg_two rfl (xg_name (i := 3) sc__law_error.nd rfl (.inr rfl) (.inl rfl)) (xg_name (i := 4) sc__law_error.nd rfl (.inl rfl) (.inl rfl)))) (xs_cons (xs_if (xt_cmp xo_gt (xv 3) x_int (nomark _)) (xs_one (xs_ret (x_tup (xa_cons (xv 2) (xa_cons x_str xa_nil))))) xs_nil) (xs_cons (xs_if (xt_not (xt_val (x_call F__law_is_statement (by exact hg) (by exact hr) rfl (xa_cons (xv 4) xa_nil)))) (xs_one (xs_ret (x_tup (xa_cons (xv 2) (xa_cons x_str xa_nil))))) xs_nil) (xs_cons (xs_set (i := 5) sc__law_error.nd rfl (.inl rfl) (.inl rfl) (x_lst xa_nil)) (xs_cons (xs_for PassesOwn.never rfl (xi_any (x_call F__law_parts (by exact hg) (by exact hr) rfl (xa_cons (xv 4) xa_nil))) (xg_name (i := 6) sc__law_error.nd rfl (.inl rfl) (.inl rfl)) (xs_one (xs_expr (x_extend (xv 5) (x_lc rfl sc__law_error.nd (tt := tYes) (t := fYes) (te := (tTup (tCons (tOp (vAdd K) (tVar 3) (tC (.int 1))) (tCons (tVar 10) tNil)))) (f := (fTup (fCons (fOp oAdd (fVar 3) (fC (.int 1))) (fCons (fVar 10) fNil)))) (xi_any (xv 6)) (blkOk_by (N := N__law_error) (sc := defScope st__law_error) (by decide +kernel)) (fun _ _ _ _ _ => pg_name (i := 10) sc__law_error.nd rfl (Or.inl rfl)) (fun _ _ _ _ _ => xts_nil) (fun _ _ _ _ _ => (x_tup (xa_cons (x_op xo_add (xv 3) x_int) (xa_cons (xv 10) xa_nil)))) (s0 := s)))))) (xs_cons (xs_expr (x_extend (xv 1) (x_revL (xv 5)))) (xs_one (xs_set (i := 2) sc__law_error.nd rfl (.inl rfl) (.inl rfl) (x_op xo_add (xv 2) x_int)))))))))) (xs_cons (xs_set (i := 7) sc__law_error.nd rfl (.inl rfl) (.inl rfl) (x_call F__law_counts (by exact hg) (by exact hr) rfl (xa_cons (xv 0) xa_nil))) (xs_cons (xs_for PassesOwn.never rfl (xi_enum rfl B.enumerate (xa_cons (x_lst (xa_cons x_str (xa_cons x_str (xa_cons x_str (xa_cons x_str (xa_cons x_str xa_nil)))))) xa_nil)) (xg_two rfl (xg_name (i := 8) sc__law_error.nd rfl (.inl rfl) (.inl rfl)) (xg_name (i := 9) sc__law_error.nd rfl (.inl rfl) (.inl rfl))) (xs_one (xs_if (xt_cmp xo_gt (x_ix (xv 7) (xv 8) (fun _ _ => rfl)) (x_ix (x_lst (xa_cons x_int (xa_cons x_int (xa_cons x_int (xa_cons x_int (xa_cons x_int xa_nil)))))) (xv 8) (fun _ _ => rfl)) (nomark _)) (xs_one (xs_ret (x_tup (xa_cons x_non (xa_cons (xv 9) xa_nil))))) xs_nil))) (xs_one (xs_ret x_non)))))))⟩)
/-! _law_odd -/
noncomputable def b__law_odd (c0 : Fn) : FS :=
    (fsSeq (fsAsg (fLst (fCons (fC .non) (fCons (fC (.bl true)) (fCons (fC (.bl false)) (fCons (fC (.int 0)) (fCons (fC (.int 1)) (fCons (fC (.int 6)) (fCons (fC (.int 7)) (fCons (fC (.int 8)) (fCons (fC (.int 9)) (fCons (fNeg (fC (.int 9))) (fCons (fNeg (fC (.int 10))) (fCons (fC (.int 99)) (fCons (fNeg (fC (.int 99))) (fCons (fC (.int 100)) (fCons (fOp (oI CPow fun i j => .int (i ^ j.toNat)) (fC (.int 10)) (fC (.int 50))) (fCons (fC (.str "")) (fCons (fC (.str "n")) (fCons (fC (.str "pay")) (fCons (fC (.str "of")) (fCons (fC (.str "we")) (fCons (fC (.str "stop")) fNil)))))))))))))))))))))) (fgName 1))
    (fsSeq (fsAsg (fOp oAdd (fVar 1) (fLst (fCons (fC (.str "a1")) (fCons (fC (.str "1a")) (fCons (fC (.str "Ab")) (fCons (fC (.str "a_")) (fCons (fC (.str "a\n")) (fCons (fC (.str "a{")) (fCons (fC (.str "abcdefgh")) (fCons (fC (.str "abcdefghi")) (fCons (fC (.str "plus")) (fCons (fC (.str "times")) (fCons (fTup fNil) (fCons (fLst fNil) (fCons fNewD (fCons (fTup (fCons (fC (.int 1)) fNil)) fNil)))))))))))))))) (fgName 1))
    (fsSeq (fsAsg (fOp oAdd (fVar 1) (fLst (fCons (fTup (fCons (fC (.str "plus")) (fCons (fC (.int 1)) (fCons (fC (.int 2)) fNil)))) (fCons (fLst (fCons (fC (.str "plus")) (fCons (fC (.int 1)) (fCons (fC (.int 2)) fNil)))) (fCons (fTup (fCons (fC (.str "times")) (fCons (fC (.int 2)) (fCons (fC (.str "n")) fNil)))) (fCons (fTup (fCons (fC (.str "times")) (fCons (fC (.str "n")) (fCons (fC (.int 2)) fNil)))) (fCons (fTup (fCons (fC (.str "times")) (fCons (fC (.int 10)) (fCons (fC (.int 1)) fNil)))) (fCons (fTup (fCons (fC (.str "stop")) fNil)) fNil)))))))) (fgName 1))
    (fsSeq (fsAsg (fOp oAdd (fVar 1) (fLst (fCons (fTup (fCons (fC (.str "not")) (fCons (fTup (fCons (fC (.str "less")) (fCons (fC (.str "n")) (fCons (fC (.int 1)) fNil)))) fNil))) (fCons (fTup (fCons (fC (.str "less")) (fCons (fC (.int 1)) fNil))) (fCons (fTup (fCons (fC (.str "pay")) (fCons (fC (.int 1)) fNil))) (fCons (fTup (fCons (fTup (fCons (fC (.str "pay")) (fCons (fC (.int 1)) fNil))) fNil)) (fCons (fDict [("n", 1)]) (fCons (fTup (fCons (fC (.str "stop")) (fCons (fC (.str "x")) fNil))) (fCons (fLst (fCons (fC (.str "stop")) fNil)) fNil))))))))) (fgName 1))
    (fsSeq (fsAsg (fOp oAdd (fVar 1) (fLst (fCons (fTup (fCons (fC (.str "rest")) (fCons (fC (.str "n")) (fCons (fC (.int 6)) (fCons (fC (.int 5)) fNil))))) (fCons (fTup (fCons (fC (.str "rest")) (fCons (fC (.str "n")) (fCons (fC (.int 6)) (fCons (fC (.int 6)) fNil))))) (fCons (fTup (fCons (fC (.str "rest")) (fCons (fC (.str "n")) (fCons (fC (.int 7)) (fCons (fC (.int 0)) fNil))))) (fCons (fTup (fCons (fC (.str "rest")) (fCons (fC (.str "n")) (fCons (fC (.int 1)) (fCons (fC (.int 0)) fNil))))) (fCons (fTup (fCons (fC (.str "minus")) (fCons (fC (.str "n")) fNil))) fNil))))))) (fgName 1))
    (fsRet (fCall c0 (fCons (fVar 0) (fCons (fOp oAdd (fVar 1) (fLst (fCons (fTup (fCons (fC (.str "we")) (fCons (fTup fNil) (fCons (fTup fNil) fNil)))) (fCons (fTup (fCons (fC (.str "they")) (fCons (fTup fNil) (fCons (fLst fNil) fNil)))) (fCons (fTup (fCons (fC (.str "we")) (fCons (fTup fNil) fNil))) (fCons (fTup (fCons (fC (.str "rest")) (fCons (fC (.str "n")) (fCons (fC (.int 2)) (fCons (fC (.bl true)) fNil))))) fNil)))))) fNil)))))))))
abbrev st__law_odd : Stmt := top 48
abbrev N__law_odd : List Str := ["_law_deck_here", "_law_some"]
theorem sc__law_odd : FnScope N__law_odd ["_law_deck_here"] (defScope st__law_odd) := ⟨rfl, rfl, rfl, by decide +kernel, rfl, by decide +kernel, by decide +kernel⟩
theorem ok__law_odd {k : Nat} {f : Addr} {fd : FuncData} (F : Fun K "_law_odd" "_law_odd" st__law_odd f fd) (hm : mg "_law_odd" = some (.ref f)) (hb : Binds K fd ["_law_deck_here"] []) {f__law_one : Fn} (F__law_one : DefD P w K mg base k "_law_one" 2 (toC f__law_one)) :
    DefD P w K mg base (k + 1) "_law_odd" 1 (toC (fDef 1 2 (K21.b__law_odd f__law_one))) := by
  exact defF F sc__law_odd hm hb rfl rfl (fun cdv A outer s H E hg hr => ⟨_, (xs_cons (xs_set (i := 1) sc__law_odd.nd rfl (.inl rfl) (.inl rfl) (x_lst (xa_cons x_non (xa_cons x_bl (xa_cons x_bl (xa_cons x_int (xa_cons x_int (xa_cons x_int (xa_cons x_int (xa_cons x_int (xa_cons x_int (xa_cons (x_neg x_int) (xa_cons (x_neg x_int) (xa_cons x_int (xa_cons (x_neg x_int) (xa_cons x_int (xa_cons (x_op xo_pow x_int x_int) (xa_cons x_str (xa_cons x_str (xa_cons x_str (xa_cons x_str (xa_cons x_str (xa_cons x_str xa_nil))))))))))))))))))))))) (xs_cons (xs_set (i := 1) sc__law_odd.nd rfl (.inl rfl) (.inl rfl) (x_op xo_add (xv 1) (x_lst (xa_cons x_str (xa_cons x_str (xa_cons x_str (xa_cons x_str (xa_cons x_str (xa_cons x_str (xa_cons x_str (xa_cons x_str (xa_cons x_str (xa_cons x_str (xa_cons (x_tup xa_nil) (xa_cons (x_lst xa_nil) (xa_cons x_newD (xa_cons (x_tup (xa_cons x_int xa_nil)) xa_nil))))))))))))))))) (xs_cons (xs_set (i := 1) sc__law_odd.nd rfl (.inl rfl) (.inl rfl) (x_op xo_add (xv 1) (x_lst (xa_cons (x_tup (xa_cons x_str (xa_cons x_int (xa_cons x_int xa_nil)))) (xa_cons (x_lst (xa_cons x_str (xa_cons x_int (xa_cons x_int xa_nil)))) (xa_cons (x_tup (xa_cons x_str (xa_cons x_int (xa_cons x_str xa_nil)))) (xa_cons (x_tup (xa_cons x_str (xa_cons x_str (xa_cons x_int xa_nil)))) (xa_cons (x_tup (xa_cons x_str (xa_cons x_int (xa_cons x_int xa_nil)))) (xa_cons (x_tup (xa_cons x_str xa_nil)) xa_nil))))))))) (xs_cons (xs_set (i := 1) sc__law_odd.nd rfl (.inl rfl) (.inl rfl) (x_op xo_add (xv 1) (x_lst (xa_cons (x_tup (xa_cons x_str (xa_cons (x_tup (xa_cons x_str (xa_cons x_str (xa_cons x_int xa_nil)))) xa_nil))) (xa_cons (x_tup (xa_cons x_str (xa_cons x_int xa_nil))) (xa_cons (x_tup (xa_cons x_str (xa_cons x_int xa_nil))) (xa_cons (x_tup (xa_cons (x_tup (xa_cons x_str (xa_cons x_int xa_nil))) xa_nil)) (xa_cons (x_dict [("n", 1)] (pps_cons pe_str pe_int pps_nil) rfl rfl (fun h => nomatch h) (Nat.le_of_ble_eq_true rfl) (Nat.le_of_ble_eq_true rfl) (by decide +kernel)) (xa_cons (x_tup (xa_cons x_str (xa_cons x_str xa_nil))) (xa_cons (x_lst (xa_cons x_str xa_nil)) xa_nil)))))))))) (xs_cons (xs_set (i := 1) sc__law_odd.nd rfl (.inl rfl) (.inl rfl) (x_op xo_add (xv 1) (x_lst (xa_cons (x_tup (xa_cons x_str (xa_cons x_str (xa_cons x_int (xa_cons x_int xa_nil))))) (xa_cons (x_tup (xa_cons x_str (xa_cons x_str (xa_cons x_int (xa_cons x_int xa_nil))))) (xa_cons (x_tup (xa_cons x_str (xa_cons x_str (xa_cons x_int (xa_cons x_int xa_nil))))) (xa_cons (x_tup (xa_cons x_str (xa_cons x_str (xa_cons x_int (xa_cons x_int xa_nil))))) (xa_cons (x_tup (xa_cons x_str (xa_cons x_str xa_nil))) xa_nil)))))))) (xs_one (xs_ret (x_call F__law_one (by exact hg) (by exact hr) rfl (xa_cons (xv 0) (xa_cons (x_op xo_add (xv 1) (x_lst (xa_cons (x_tup (xa_cons x_str (xa_cons (x_tup xa_nil) (xa_cons (x_tup xa_nil) xa_nil)))) (xa_cons (x_tup (xa_cons x_str (xa_cons (x_tup xa_nil) (xa_cons (x_lst xa_nil) xa_nil)))) (xa_cons (x_tup (xa_cons x_str (xa_cons (x_tup xa_nil) xa_nil))) (xa_cons (x_tup (xa_cons x_str (xa_cons x_str (xa_cons x_int (xa_cons x_bl xa_nil))))) xa_nil)))))) xa_nil))))))))))⟩)
/-! _law_bent -/
noncomputable def b__law_bent (c0 c1 c2 : Fn) : FS :=
    (fsSeq (fsIf (fOr (fTest (fOp (oEq id) (fVar 2) (fC (.int 0)))) (fOr (fNot (fTest (fIsi "tuple" (fVar 1)))) (fOr (fTest (fOp (oEq id) (fVar 1) (fTup fNil))) (fTest (fOp (oEq id) (fCall c1 (fCons (fVar 0) (fCons (fC (.int 6)) fNil))) (fC (.int 0))))))) (fsRet (fCall c2 (fCons (fVar 0) fNil))) fsNext)
    (fsSeq (fsPar 3 4 (fCons (fCall c1 (fCons (fVar 0) (fCons (fCB bLen (fCons (fVar 1) fNil)) fNil))) (fCons (fCall c1 (fCons (fVar 0) (fCons (fC (.int 12)) fNil))) fNil)))
    (fsSeq (fsIf (fTest (fOp (oEq id) (fVar 4) (fC (.int 0)))) (fsRet (fOp oAdd (fSl (fVar 1) fNoPart (fPart (fVar 3))) (fSl (fVar 1) (fPart (fOp oAdd (fVar 3) (fC (.int 1)))) fNoPart))) fsNext)
    (fsSeq (fsIf (fTest (fOp (oEq id) (fVar 4) (fC (.int 1)))) (fsRet (fOp oAdd (fOp oAdd (fSl (fVar 1) fNoPart (fPart (fVar 3))) (fSl (fVar 1) (fPart (fVar 3)) (fPart (fOp oAdd (fVar 3) (fC (.int 1)))))) (fSl (fVar 1) (fPart (fVar 3)) fNoPart))) fsNext)
    (fsSeq (fsIf (fTest (fOp (oEq id) (fVar 4) (fC (.int 2)))) (fsRet (fCB bListOf (fCons (fVar 1) fNil))) fsNext)
    (fsRet (fOp oAdd (fOp oAdd (fSl (fVar 1) fNoPart (fPart (fVar 3))) (fTup (fCons (fCall c0 (fCons (fVar 0) (fCons (fOp oIx (fVar 1) (fVar 3)) (fCons (fOp (oI0 fun i j => .int (i - j)) (fVar 2) (fC (.int 1))) fNil)))) fNil))) (fSl (fVar 1) (fPart (fOp oAdd (fVar 3) (fC (.int 1)))) fNoPart))))))))
abbrev st__law_bent : Stmt := top 49
abbrev N__law_bent : List Str := ["_law_deck_here", "_law_value", "_law_deep_here", "_law_at", "_law_way"]
theorem sc__law_bent : FnScope N__law_bent ["_law_deck_here", "_law_value", "_law_deep_here"] (defScope st__law_bent) := ⟨rfl, rfl, rfl, by decide +kernel, rfl, by decide +kernel, by decide +kernel⟩
theorem ok__law_bent {k : Nat} {f : Addr} {fd : FuncData} (F : Fun K "_law_bent" "_law_bent" st__law_bent f fd) (hm : mg "_law_bent" = some (.ref f)) (hb : Binds K fd ["_law_deck_here", "_law_value", "_law_deep_here"] []) (B : Blt mg) {f__law_bent : Fn} (F__law_bent : DefD P w K mg base k "_law_bent" 3 (toC f__law_bent)) {f__law_draw : Fn} (F__law_draw : DefD P w K mg base k "_law_draw" 2 (toC f__law_draw)) {f__law_odd : Fn} (F__law_odd : DefD P w K mg base k "_law_odd" 1 (toC f__law_odd)) :
    DefD P w K mg base (k + 1) "_law_bent" 3 (toC (fDef 3 5 (K21.b__law_bent f__law_bent f__law_draw f__law_odd))) := by
  exact defF F sc__law_bent hm hb rfl rfl (fun cdv A outer s H E hg hr => ⟨_, (xs_cons (xs_if (xt_w (xw_or (xt_cmp (xo_eq (by exact hr.units)) (xv 2) x_int (nomark _)) (xw_or (xt_not (xt_val (x_isi rfl B.isinstance bt_isinstance (xv 1) rfl B.tuple bt_tuple))) (xw_or (xt_cmp (xo_eq (by exact hr.units)) (xv 1) (x_tup xa_nil) (nomark _)) (xw_or1 (xt_cmp (xo_eq (by exact hr.units)) (x_call F__law_draw (by exact hg) (by exact hr) rfl (xa_cons (xv 0) (xa_cons x_int xa_nil))) x_int (nomark _))))))) (xs_one (xs_ret (x_call F__law_odd (by exact hg) (by exact hr) rfl (xa_cons (xv 0) xa_nil)))) xs_nil) (xs_cons (xs_par (i := 3) (j := 4) rfl sc__law_bent.nd rfl rfl (by decide) rfl rfl (xa_cons (x_call F__law_draw (by exact hg) (by exact hr) rfl (xa_cons (xv 0) (xa_cons (x_callB xb_len rfl B.len bt_len (xa_cons (xv 1) xa_nil)) xa_nil))) (xa_cons (x_call F__law_draw (by exact hg) (by exact hr) rfl (xa_cons (xv 0) (xa_cons x_int xa_nil))) xa_nil))) (xs_cons (xs_if (xt_cmp (xo_eq (by exact hr.units)) (xv 4) x_int (nomark _)) (xs_one (xs_ret (x_op xo_add (x_slice (xv 1) xp_none (xp_some (xv 3))) (x_slice (xv 1) (xp_some (x_op xo_add (xv 3) x_int)) xp_none)))) xs_nil) (xs_cons (xs_if (xt_cmp (xo_eq (by exact hr.units)) (xv 4) x_int (nomark _)) (xs_one (xs_ret (x_op xo_add (x_op xo_add (x_slice (xv 1) xp_none (xp_some (xv 3))) (x_slice (xv 1) (xp_some (xv 3)) (xp_some (x_op xo_add (xv 3) x_int)))) (x_slice (xv 1) (xp_some (xv 3)) xp_none)))) xs_nil) (xs_cons (xs_if (xt_cmp (xo_eq (by exact hr.units)) (xv 4) x_int (nomark _)) (xs_one (xs_ret (x_callTy xb_listOf rfl B.list bt_list (xa_cons (xv 1) xa_nil)))) xs_nil) (xs_one (xs_ret (x_op xo_add (x_op xo_add (x_slice (xv 1) xp_none (xp_some (xv 3))) (x_tup (xa_cons (x_call F__law_bent (by exact hg) (by exact hr) rfl (xa_cons (xv 0) (xa_cons (x_ix (xv 1) (xv 3) (fun _ _ => rfl)) (xa_cons (x_op xo_sub (xv 2) x_int) xa_nil)))) xa_nil))) (x_slice (xv 1) (xp_some (x_op xo_add (xv 3) x_int)) xp_none)))))))))⟩)
/-! _law_deep -/
noncomputable def b__law_deep (c0 : Fn) : FS :=
    (fsSeq (fsAsg (fCall c0 (fCons (fVar 0) (fCons (fOp oAdd (fVar 1) (fLst (fCons (fC (.int 7)) (fCons (fNeg (fC (.int 99))) fNil)))) fNil))) (fgName 3))
    (fsSeq (fsFor (fiRng1 (fCons (fOp (oI0 fun i j => .int (i - j)) (fVar 2) (fC (.int 1))) fNil)) (fgName 4) (fsSeq (fsAsg (fCall c0 (fCons (fVar 0) (fCons (fOp oAdd (fVar 1) (fLst (fCons (fC (.int 0)) (fCons (fC (.int 99)) fNil)))) fNil))) (fgName 5))
    (fsAsg (fCall c0 (fCons (fVar 0) (fCons (fLst (fCons (fTup (fCons (fC (.str "plus")) (fCons (fVar 3) (fCons (fVar 5) fNil)))) (fCons (fTup (fCons (fC (.str "minus")) (fCons (fVar 5) (fCons (fVar 3) fNil)))) (fCons (fTup (fCons (fC (.str "times")) (fCons (fNeg (fC (.int 9))) (fCons (fVar 3) fNil)))) fNil)))) fNil))) (fgName 3))))
    (fsRet (fVar 3))))
abbrev st__law_deep : Stmt := top 50
abbrev N__law_deep : List Str := ["_law_deck_here", "_law_names_here", "_law_many", "_law_found", "_law_k", "_law_other"]
theorem sc__law_deep : FnScope N__law_deep ["_law_deck_here", "_law_names_here", "_law_many"] (defScope st__law_deep) := ⟨rfl, rfl, rfl, by decide +kernel, rfl, by decide +kernel, by decide +kernel⟩
theorem ok__law_deep {k : Nat} {f : Addr} {fd : FuncData} (F : Fun K "_law_deep" "_law_deep" st__law_deep f fd) (hm : mg "_law_deep" = some (.ref f)) (hb : Binds K fd ["_law_deck_here", "_law_names_here", "_law_many"] []) (B : Blt mg) {f__law_one : Fn} (F__law_one : DefD P w K mg base k "_law_one" 2 (toC f__law_one)) :
    DefD P w K mg base (k + 1) "_law_deep" 3 (toC (fDef 3 6 (K21.b__law_deep f__law_one))) := by
  exact defF F sc__law_deep hm hb rfl rfl (fun cdv A outer s H E hg hr => ⟨_, (xs_cons (xs_set (i := 3) sc__law_deep.nd rfl (.inl rfl) (.inl rfl) (x_call F__law_one (by exact hg) (by exact hr) rfl (xa_cons (xv 0) (xa_cons (x_op xo_add (xv 1) (x_lst (xa_cons x_int (xa_cons (x_neg x_int) xa_nil)))) xa_nil)))) (xs_cons (xs_for PassesOwn.never rfl (xi_rng1 rfl B.range (xa_cons (x_op xo_sub (xv 2) x_int) xa_nil)) (xg_name (i := 4) sc__law_deep.nd rfl (.inl rfl) (.inl rfl)) (xs_cons (xs_set (i := 5) sc__law_deep.nd rfl (.inl rfl) (.inl rfl) (x_call F__law_one (by exact hg) (by exact hr) rfl (xa_cons (xv 0) (xa_cons (x_op xo_add (xv 1) (x_lst (xa_cons x_int (xa_cons x_int xa_nil)))) xa_nil)))) (xs_one (xs_set (i := 3) sc__law_deep.nd rfl (.inl rfl) (.inl rfl) (x_call F__law_one (by exact hg) (by exact hr) rfl (xa_cons (xv 0) (xa_cons (x_lst (xa_cons (x_tup (xa_cons x_str (xa_cons (xv 3) (xa_cons (xv 5) xa_nil)))) (xa_cons (x_tup (xa_cons x_str (xa_cons (xv 5) (xa_cons (xv 3) xa_nil)))) (xa_cons (x_tup (xa_cons x_str (xa_cons (x_neg x_int) (xa_cons (xv 3) xa_nil)))) xa_nil)))) xa_nil))))))) (xs_one (xs_ret (xv 3)))))⟩)
/-! _law_statement -/
noncomputable def b__law_statement (c0 c1 c2 : Fn) : FS :=
    (fsSeq (fsAsg (fLc (fiRng1 (fCons (fC (.int 2)) fNil)) 6 fYes (fCall c2 (fCons (fVar 0) (fCons (fVar 1) (fCons (fOp oAdd (fC (.int 1)) (fCall c1 (fCons (fVar 0) (fCons (fC (.int 4)) fNil)))) fNil))))) (fgU2 (fgName 2) (fgName 3)))
    (fsSeq (fsAsg (fOp oAdd (fC (.int 1)) (fCall c1 (fCons (fVar 0) (fCons (fC (.int 7)) fNil)))) (fgName 4))
    (fsSeq (fsAsg (fCall c0 (fCons (fVar 0) (fCons (fLst (fCons (fTup (fCons (fC (.str "rest")) (fCons (fVar 2) (fCons (fVar 4) (fCons (fCall c1 (fCons (fVar 0) (fCons (fVar 4) fNil))) fNil))))) (fCons (fTup (fCons (fC (.str "less")) (fCons (fVar 2) (fCons (fVar 3) fNil)))) fNil))) fNil))) (fgName 5))
    (fsSeq (fsFor (fiRng1 (fCons (fCB bMax (fCons (fC (.int 0)) (fCons (fOp (oI0 fun i j => .int (i - j)) (fCall c1 (fCons (fVar 0) (fCons (fC (.int 6)) fNil))) (fC (.int 2))) fNil))) fNil)) (fgName 6) (fsAsg (fTup (fCons (fC (.str "not")) (fCons (fVar 5) fNil))) (fgName 5)))
    (fsSeq (fsAsg (fCall c0 (fCons (fVar 0) (fCons (fOp oAdd (fVar 1) (fLst (fCons (fOp oAdd (fOp oIx (fVar 1) (fC (.int 1))) (fC (.str "ab"))) fNil))) fNil))) (fgName 7))
    (fsSeq (fsAsg (fCB bTupleOf (fCons (fSl (fLst (fCons (fTup (fCons (fC (.str "pay")) (fCons (fVar 2) fNil))) (fCons (fTup (fCons (fC (.str "stop")) fNil)) (fCons (fTup (fCons (fC (.str "set")) (fCons (fVar 7) (fCons (fVar 3) fNil)))) fNil)))) fNoPart (fPart (fCall c1 (fCons (fVar 0) (fCons (fC (.int 4)) fNil))))) fNil)) (fgName 8))
    (fsSeq (fsAsg (fLst (fCons (fTup (fCons (fC (.str "set")) (fCons (fVar 7) (fCons (fVar 2) fNil)))) (fCons (fTup (fCons (fC (.str "pay")) (fCons (fVar 2) fNil))) (fCons (fTup (fCons (fC (.str "stop")) fNil)) (fCons (fTup (fCons (fC (.str "if")) (fCons (fVar 5) (fCons (fVar 8) (fCons (fTup fNil) fNil))))) (fCons (fTup (fCons (fC (.str "if")) (fCons (fVar 5) (fCons (fTup fNil) (fCons (fVar 8) fNil))))) fNil)))))) (fgName 9))
    (fsSeq (fsAsg (fOp oAdd (fVar 9) (fLst (fCons (fTup (fCons (fC (.str "we")) (fCons (fVar 8) (fCons (fTup fNil) fNil)))) (fCons (fTup (fCons (fC (.str "we")) (fCons (fTup fNil) (fCons (fVar 8) fNil)))) (fCons (fTup (fCons (fC (.str "they")) (fCons (fVar 8) (fCons (fVar 8) fNil)))) (fCons (fTup (fCons (fC (.str "they")) (fCons (fTup fNil) (fCons (fTup fNil) fNil)))) fNil)))))) (fgName 9))
    (fsRet (fCall c0 (fCons (fVar 0) (fCons (fOp oAdd (fVar 9) (fLst (fCons (fTup (fCons (fC (.str "repeat")) (fCons (fCall c1 (fCons (fVar 0) (fCons (fC (.int 10)) fNil))) (fCons (fVar 8) fNil)))) fNil))) fNil))))))))))))
abbrev st__law_statement : Stmt := top 51
abbrev N__law_statement : List Str := ["_law_deck_here", "_law_names_here", "_law_first", "_law_second", "_law_by", "_law_test", "_law_k", "_law_name", "_law_rows", "_law_some"]
theorem sc__law_statement : FnScope N__law_statement ["_law_deck_here", "_law_names_here"] (defScope st__law_statement) := ⟨rfl, rfl, rfl, by decide +kernel, rfl, by decide +kernel, by decide +kernel⟩
theorem ok__law_statement {k : Nat} {f : Addr} {fd : FuncData} (F : Fun K "_law_statement" "_law_statement" st__law_statement f fd) (hm : mg "_law_statement" = some (.ref f)) (hb : Binds K fd ["_law_deck_here", "_law_names_here"] []) (B : Blt mg) {f__law_one : Fn} (F__law_one : DefD P w K mg base k "_law_one" 2 (toC f__law_one)) {f__law_draw : Fn} (F__law_draw : DefD P w K mg base k "_law_draw" 2 (toC f__law_draw)) {f__law_deep : Fn} (F__law_deep : DefD P w K mg base k "_law_deep" 3 (toC f__law_deep)) :
    DefD P w K mg base (k + 1) "_law_statement" 2 (toC (fDef 2 10 (K21.b__law_statement f__law_one f__law_draw f__law_deep))) := by
  exact defF F sc__law_statement hm hb rfl rfl (fun cdv A outer s H E hg hr => ⟨_, (xs_cons (xs_asg (x_lc rfl sc__law_statement.nd (tt := tYes) (t := fYes) (te := (tCall (toSp K (toC f__law_deep)) [] E0 (tCons (tVar 0) (tCons (tVar 1) (tCons (tOp (vAdd K) (tC (.int 1)) (tCall (toSp K (toC f__law_draw)) [] E0 (tCons (tVar 0) (tCons (tC (.int 4)) tNil)))) tNil))))) (f := (fCall f__law_deep (fCons (fVar 0) (fCons (fVar 1) (fCons (fOp oAdd (fC (.int 1)) (fCall f__law_draw (fCons (fVar 0) (fCons (fC (.int 4)) fNil)))) fNil))))) (xi_rng1 rfl B.range (xa_cons x_int xa_nil)) (blkOk_by (N := N__law_statement) (sc := defScope st__law_statement) (by decide +kernel)) (fun _ _ _ _ _ => pg_name (i := 6) sc__law_statement.nd rfl (Or.inl rfl)) (fun _ _ _ _ _ => xts_nil) (fun _ _ _ _ _ => (x_call F__law_deep (by exact hg) (by exact hr) rfl (xa_cons (xv 0) (xa_cons (xv 1) (xa_cons (x_op xo_add x_int (x_call F__law_draw (by exact hg) (by exact hr) rfl (xa_cons (xv 0) (xa_cons x_int xa_nil)))) xa_nil))))) (s0 := s)) (xg_u2 rfl (xg_name (i := 2) sc__law_statement.nd rfl (.inl rfl) (.inl rfl)) (xg_name (i := 3) sc__law_statement.nd rfl (.inl rfl) (.inl rfl)))) (xs_cons (xs_set (i := 4) sc__law_statement.nd rfl (.inl rfl) (.inl rfl) (x_op xo_add x_int (x_call F__law_draw (by exact hg) (by exact hr) rfl (xa_cons (xv 0) (xa_cons x_int xa_nil))))) (xs_cons (xs_set (i := 5) sc__law_statement.nd rfl (.inl rfl) (.inl rfl) (x_call F__law_one (by exact hg) (by exact hr) rfl (xa_cons (xv 0) (xa_cons (x_lst (xa_cons (x_tup (xa_cons x_str (xa_cons (xv 2) (xa_cons (xv 4) (xa_cons (x_call F__law_draw (by exact hg) (by exact hr) rfl (xa_cons (xv 0) (xa_cons (xv 4) xa_nil))) xa_nil))))) (xa_cons (x_tup (xa_cons x_str (xa_cons (xv 2) (xa_cons (xv 3) xa_nil)))) xa_nil))) xa_nil)))) (xs_cons (xs_for PassesOwn.never rfl (xi_rng1 rfl B.range (xa_cons (x_callB (xb_max rfl) rfl B.max bt_max (xa_cons x_int (xa_cons (x_op xo_sub (x_call F__law_draw (by exact hg) (by exact hr) rfl (xa_cons (xv 0) (xa_cons x_int xa_nil))) x_int) xa_nil))) xa_nil)) (xg_name (i := 6) sc__law_statement.nd rfl (.inl rfl) (.inl rfl)) (xs_one (xs_set (i := 5) sc__law_statement.nd rfl (.inl rfl) (.inl rfl) (x_tup (xa_cons x_str (xa_cons (xv 5) xa_nil)))))) (xs_cons (xs_set (i := 7) sc__law_statement.nd rfl (.inl rfl) (.inl rfl) (x_call F__law_one (by exact hg) (by exact hr) rfl (xa_cons (xv 0) (xa_cons (x_op xo_add (xv 1) (x_lst (xa_cons (x_op xo_add (x_ix (xv 1) x_int (fun _ _ => rfl)) x_str) xa_nil))) xa_nil)))) (xs_cons (xs_set (i := 8) sc__law_statement.nd rfl (.inl rfl) (.inl rfl) (x_callTy xb_tupleOf rfl B.tuple bt_tuple (xa_cons (x_slice (x_lst (xa_cons (x_tup (xa_cons x_str (xa_cons (xv 2) xa_nil))) (xa_cons (x_tup (xa_cons x_str xa_nil)) (xa_cons (x_tup (xa_cons x_str (xa_cons (xv 7) (xa_cons (xv 3) xa_nil)))) xa_nil)))) xp_none (xp_some (x_call F__law_draw (by exact hg) (by exact hr) rfl (xa_cons (xv 0) (xa_cons x_int xa_nil))))) xa_nil))) (xs_cons (xs_set (i := 9) sc__law_statement.nd rfl (.inl rfl) (.inl rfl) (x_lst (xa_cons (x_tup (xa_cons x_str (xa_cons (xv 7) (xa_cons (xv 2) xa_nil)))) (xa_cons (x_tup (xa_cons x_str (xa_cons (xv 2) xa_nil))) (xa_cons (x_tup (xa_cons x_str xa_nil)) (xa_cons (x_tup (xa_cons x_str (xa_cons (xv 5) (xa_cons (xv 8) (xa_cons (x_tup xa_nil) xa_nil))))) (xa_cons (x_tup (xa_cons x_str (xa_cons (xv 5) (xa_cons (x_tup xa_nil) (xa_cons (xv 8) xa_nil))))) xa_nil))))))) (xs_cons (xs_set (i := 9) sc__law_statement.nd rfl (.inl rfl) (.inl rfl) (x_op xo_add (xv 9) (x_lst (xa_cons (x_tup (xa_cons x_str (xa_cons (xv 8) (xa_cons (x_tup xa_nil) xa_nil)))) (xa_cons (x_tup (xa_cons x_str (xa_cons (x_tup xa_nil) (xa_cons (xv 8) xa_nil)))) (xa_cons (x_tup (xa_cons x_str (xa_cons (xv 8) (xa_cons (xv 8) xa_nil)))) (xa_cons (x_tup (xa_cons x_str (xa_cons (x_tup xa_nil) (xa_cons (x_tup xa_nil) xa_nil)))) xa_nil))))))) (xs_one (xs_ret (x_call F__law_one (by exact hg) (by exact hr) rfl (xa_cons (xv 0) (xa_cons (x_op xo_add (xv 9) (x_lst (xa_cons (x_tup (xa_cons x_str (xa_cons (x_call F__law_draw (by exact hg) (by exact hr) rfl (xa_cons (xv 0) (xa_cons x_int xa_nil))) (xa_cons (xv 8) xa_nil)))) xa_nil))) xa_nil)))))))))))))⟩)
/-! _law_edges_right -/
noncomputable def b__law_edges_right (c0 : Fn) : FS :=
    (fsSeq (fsFor (fiRng2 (fCons (fC (.int 2)) (fCons (fC (.int 7)) fNil))) (fgName 0) (fsSeq (fsAsg (fLc (fiAny (fLst (fCons (fVar 0) (fCons (fNeg (fC (.int 1))) (fCons (fOp (oI0 fun i j => .int (i - j)) (fVar 0) (fC (.int 1))) (fCons (fC (.int 0)) fNil)))))) 5 fYes (fTup (fCons (fC (.str "if")) (fCons (fTup (fCons (fC (.str "rest")) (fCons (fC (.str "n")) (fCons (fVar 0) (fCons (fVar 5) fNil))))) (fCons (fTup fNil) (fCons (fTup fNil) fNil)))))) (fgName 1))
    (fsIf (fTest (fOp (oEq not) (fCB bReprD (fCons (fLc (fiAny (fVar 1)) 6 fYes (fCall c0 (fCons (fTup (fCons (fVar 6) fNil)) fNil))) fNil)) (fCB bReprD (fCons (fOp oAdd (fOp oMul (fLst (fCons (fTup (fCons (fC (.int 0)) (fCons (fC (.str "statement")) fNil))) fNil)) (fC (.int 2))) (fOp oMul (fLst (fCons (fC .non) fNil)) (fC (.int 2)))) fNil)))) (fsRet (fC (.bl false))) fsNext)))
    (fsSeq (fsAsg (fLc (fiAny (fLst (fCons (fNeg (fC (.int 10))) (fCons (fC (.int 10)) (fCons (fNeg (fC (.int 9))) (fCons (fC (.int 9)) fNil)))))) 3 fYes (fTup (fCons (fC (.str "pay")) (fCons (fTup (fCons (fC (.str "times")) (fCons (fVar 3) (fCons (fC (.str "n")) fNil)))) fNil)))) (fgName 1))
    (fsSeq (fsIf (fTest (fOp (oEq not) (fCB bReprD (fCons (fLc (fiAny (fVar 1)) 6 fYes (fCall c0 (fCons (fTup (fCons (fVar 6) fNil)) fNil))) fNil)) (fCB bReprD (fCons (fOp oAdd (fOp oMul (fLst (fCons (fTup (fCons (fC (.int 0)) (fCons (fC (.str "statement")) fNil))) fNil)) (fC (.int 2))) (fOp oMul (fLst (fCons (fC .non) fNil)) (fC (.int 2)))) fNil)))) (fsRet (fC (.bl false))) fsNext)
    (fsSeq (fsAsg (fLc (fiAny (fLst (fCons (fC (.int 0)) (fCons (fC (.bl false)) (fCons (fC (.int 0)) fNil))))) 4 fYes (fCall c0 (fCons (fTup (fCons (fTup (fCons (fC (.str "pay")) (fCons (fVar 4) fNil))) fNil)) fNil))) (fgName 2))
    (fsRet (fOp (oEq id) (fCB bReprD (fCons (fVar 2) fNil)) (fCB bReprD (fCons (fLst (fCons (fC .non) (fCons (fTup (fCons (fC (.int 0)) (fCons (fC (.str "statement")) fNil))) (fCons (fC .non) fNil)))) fNil))))))))
abbrev st__law_edges_right : Stmt := top 52
abbrev N__law_edges_right : List Str := ["_law_by", "_law_rows", "_law_found", "_law_factor", "_law_value", "_law_rest", "_law_row"]
theorem sc__law_edges_right : FnScope N__law_edges_right [] (defScope st__law_edges_right) := ⟨rfl, rfl, rfl, by decide +kernel, rfl, by decide +kernel, by decide +kernel⟩
theorem ok__law_edges_right {k : Nat} {f : Addr} {fd : FuncData} (hsy : HasSys base) (F : Fun K "_law_edges_right" "_law_edges_right" st__law_edges_right f fd) (hm : mg "_law_edges_right" = some (.ref f)) (hb : Binds K fd [] []) (B : Blt mg) {f_program_error : Fn} (F_program_error : DefD P w K mg base k "program_error" 1 (toC f_program_error)) :
    DefD P w K mg base (k + 1) "_law_edges_right" 0 (toC (fDef 0 7 (K21.b__law_edges_right f_program_error))) := by
  exact defF F sc__law_edges_right hm hb rfl rfl (fun cdv A outer s H E hg hr => ⟨_, (xs_cons (xs_for PassesOwn.never rfl (xi_rng2 rfl B.range (xa_cons x_int (xa_cons x_int xa_nil))) (xg_name (i := 0) sc__law_edges_right.nd rfl (.inr rfl) (.inl rfl)) (xs_cons (xs_setLc (j := 1) rfl sc__law_edges_right.nd rfl rfl (sw_true rfl rfl rfl (by decide +kernel)) (tt := tYes) (t := fYes) (te := (tTup (tCons (tC (.str "if")) (tCons (tTup (tCons (tC (.str "rest")) (tCons (tC (.str "n")) (tCons (tVar 0) (tCons (tVar 5) tNil))))) (tCons (tTup tNil) (tCons (tTup tNil) tNil)))))) (f := (fTup (fCons (fC (.str "if")) (fCons (fTup (fCons (fC (.str "rest")) (fCons (fC (.str "n")) (fCons (fVar 0) (fCons (fVar 5) fNil))))) (fCons (fTup fNil) (fCons (fTup fNil) fNil)))))) (xi_any (x_lst (xa_cons (xv 0) (xa_cons (x_neg x_int) (xa_cons (x_op xo_sub (xv 0) x_int) (xa_cons x_int xa_nil)))))) (blkOk_by (N := N__law_edges_right) (sc := defScope st__law_edges_right) (by decide +kernel)) (fun _ _ _ _ _ => pg_name (i := 5) sc__law_edges_right.nd rfl (Or.inl rfl)) (fun _ _ _ _ _ => xts_nil) (fun _ _ _ _ _ => (x_tup (xa_cons x_str (xa_cons (x_tup (xa_cons x_str (xa_cons x_str (xa_cons (xv 0) (xa_cons (xv 5) xa_nil))))) (xa_cons (x_tup xa_nil) (xa_cons (x_tup xa_nil) xa_nil)))))) (s0 := s)) (xs_one (xs_if (xt_cmp (xo_ne (by exact hr.units)) (x_callB (xb_reprD (by exact hsy) (by exact hg) (by exact hr.units)) rfl B.repr bt_repr (xa_cons (x_lc rfl sc__law_edges_right.nd (tt := tYes) (t := fYes) (te := (tCall (toSp K (toC f_program_error)) [] E0 (tCons (tTup (tCons (tVar 6) tNil)) tNil))) (f := (fCall f_program_error (fCons (fTup (fCons (fVar 6) fNil)) fNil))) (xi_any (xv 1)) (blkOk_by (N := N__law_edges_right) (sc := defScope st__law_edges_right) (by decide +kernel)) (fun _ _ _ _ _ => pg_name (i := 6) sc__law_edges_right.nd rfl (Or.inl rfl)) (fun _ _ _ _ _ => xts_nil) (fun _ _ _ _ _ => (x_call F_program_error (by exact hg) (by exact hr) rfl (xa_cons (x_tup (xa_cons (xv 6) xa_nil)) xa_nil))) (s0 := s)) xa_nil)) (x_callB (xb_reprD (by exact hsy) (by exact hg) (by exact hr.units)) rfl B.repr bt_repr (xa_cons (x_op xo_add (x_op xo_mul (x_lst (xa_cons (x_tup (xa_cons x_int (xa_cons x_str xa_nil))) xa_nil)) x_int) (x_op xo_mul (x_lst (xa_cons x_non xa_nil)) x_int)) xa_nil)) (nomark _)) (xs_one (xs_ret x_bl)) xs_nil)))) (xs_cons (xs_setLc (j := 1) rfl sc__law_edges_right.nd rfl rfl (sw_true rfl rfl rfl (by decide +kernel)) (tt := tYes) (t := fYes) (te := (tTup (tCons (tC (.str "pay")) (tCons (tTup (tCons (tC (.str "times")) (tCons (tVar 3) (tCons (tC (.str "n")) tNil)))) tNil)))) (f := (fTup (fCons (fC (.str "pay")) (fCons (fTup (fCons (fC (.str "times")) (fCons (fVar 3) (fCons (fC (.str "n")) fNil)))) fNil)))) (xi_any (x_lst (xa_cons (x_neg x_int) (xa_cons x_int (xa_cons (x_neg x_int) (xa_cons x_int xa_nil)))))) (blkOk_by (N := N__law_edges_right) (sc := defScope st__law_edges_right) (by decide +kernel)) (fun _ _ _ _ _ => pg_name (i := 3) sc__law_edges_right.nd rfl (Or.inl rfl)) (fun _ _ _ _ _ => xts_nil) (fun _ _ _ _ _ => (x_tup (xa_cons x_str (xa_cons (x_tup (xa_cons x_str (xa_cons (xv 3) (xa_cons x_str xa_nil)))) xa_nil)))) (s0 := s)) (xs_cons (xs_if (xt_cmp (xo_ne (by exact hr.units)) (x_callB (xb_reprD (by exact hsy) (by exact hg) (by exact hr.units)) rfl B.repr bt_repr (xa_cons (x_lc rfl sc__law_edges_right.nd (tt := tYes) (t := fYes) (te := (tCall (toSp K (toC f_program_error)) [] E0 (tCons (tTup (tCons (tVar 6) tNil)) tNil))) (f := (fCall f_program_error (fCons (fTup (fCons (fVar 6) fNil)) fNil))) (xi_any (xv 1)) (blkOk_by (N := N__law_edges_right) (sc := defScope st__law_edges_right) (by decide +kernel)) (fun _ _ _ _ _ => pg_name (i := 6) sc__law_edges_right.nd rfl (Or.inl rfl)) (fun _ _ _ _ _ => xts_nil) (fun _ _ _ _ _ => (x_call F_program_error (by exact hg) (by exact hr) rfl (xa_cons (x_tup (xa_cons (xv 6) xa_nil)) xa_nil))) (s0 := s)) xa_nil)) (x_callB (xb_reprD (by exact hsy) (by exact hg) (by exact hr.units)) rfl B.repr bt_repr (xa_cons (x_op xo_add (x_op xo_mul (x_lst (xa_cons (x_tup (xa_cons x_int (xa_cons x_str xa_nil))) xa_nil)) x_int) (x_op xo_mul (x_lst (xa_cons x_non xa_nil)) x_int)) xa_nil)) (nomark _)) (xs_one (xs_ret x_bl)) xs_nil) (xs_cons (xs_setLc (j := 2) rfl sc__law_edges_right.nd rfl rfl (sw_true rfl rfl rfl (by decide +kernel)) (tt := tYes) (t := fYes) (te := (tCall (toSp K (toC f_program_error)) [] E0 (tCons (tTup (tCons (tTup (tCons (tC (.str "pay")) (tCons (tVar 4) tNil))) tNil)) tNil))) (f := (fCall f_program_error (fCons (fTup (fCons (fTup (fCons (fC (.str "pay")) (fCons (fVar 4) fNil))) fNil)) fNil))) (xi_any (x_lst (xa_cons x_int (xa_cons x_bl (xa_cons x_int xa_nil))))) (blkOk_by (N := N__law_edges_right) (sc := defScope st__law_edges_right) (by decide +kernel)) (fun _ _ _ _ _ => pg_name (i := 4) sc__law_edges_right.nd rfl (Or.inl rfl)) (fun _ _ _ _ _ => xts_nil) (fun _ _ _ _ _ => (x_call F_program_error (by exact hg) (by exact hr) rfl (xa_cons (x_tup (xa_cons (x_tup (xa_cons x_str (xa_cons (xv 4) xa_nil))) xa_nil)) xa_nil))) (s0 := s)) (xs_one (xs_ret (x_cmp (xo_eq (by exact hr.units)) (x_callB (xb_reprD (by exact hsy) (by exact hg) (by exact hr.units)) rfl B.repr bt_repr (xa_cons (xv 2) xa_nil)) (x_callB (xb_reprD (by exact hsy) (by exact hg) (by exact hr.units)) rfl B.repr bt_repr (xa_cons (x_lst (xa_cons x_non (xa_cons (x_tup (xa_cons x_int (xa_cons x_str xa_nil))) (xa_cons x_non xa_nil)))) xa_nil)) (nomark _))))))))⟩)
/-! law -/
noncomputable def b_law (c0 c1 c2 c3 c4 c5 c6 c7 : Fn) : FS :=
    (fsSeq (fsAsg (fCall c7 (fCons (fVar 0) fNil)) (fgName 1))
    (fsSeq (fsAsg (fCall c6 (fCons (fVar 1) fNil)) (fgName 2))
    (fsSeq (fsIf (fNot (fTest (fCall0 c5))) (fsRet (fC (.bl false))) fsNext)
    (fsSeq (fsAsg (fLst (fCons (fC (.str "set")) (fCons (fC (.str "pay")) (fCons (fC (.str "stop")) (fCons (fC (.str "if")) (fCons (fC (.str "else")) (fCons (fC (.str "we")) (fCons (fC (.str "they")) (fCons (fC (.str "or")) (fCons (fC (.str "repeat")) (fCons (fC (.str "pass")) (fCons (fC (.str "rest")) (fCons (fC (.str "of")) (fCons (fC (.str "not")) (fCons (fC (.str "program")) fNil))))))))))))))) (fgName 3))
    (fsSeq (fsFor (fiAny (fVar 3)) (fgName 4) (fsSeq (fsAsg (fLst (fCons (fTup (fCons (fC (.str "set")) (fCons (fVar 4) (fCons (fC (.int 1)) fNil)))) (fCons (fTup (fCons (fC (.str "pay")) (fCons (fVar 4) fNil))) (fCons (fTup (fCons (fC (.str "if")) (fCons (fTup (fCons (fC (.str "rest")) (fCons (fVar 4) (fCons (fC (.int 2)) (fCons (fC (.int 0)) fNil))))) (fCons (fTup fNil) (fCons (fTup fNil) fNil))))) (fCons (fTup (fCons (fC (.str "pay")) (fCons (fTup (fCons (fC (.str "plus")) (fCons (fC (.int 1)) (fCons (fVar 4) fNil)))) fNil))) fNil))))) (fgName 5))
    (fsFor (fiAny (fOp oAdd (fVar 5) (fLst (fCons (fTup (fCons (fC (.str "if")) (fCons (fTup (fCons (fC (.str "less")) (fCons (fC (.int 1)) (fCons (fVar 4) fNil)))) (fCons (fTup fNil) (fCons (fTup fNil) fNil))))) fNil)))) (fgName 6) (fsIf (fTest (fOp (oEq not) (fCB bReprD (fCons (fCall c2 (fCons (fTup (fCons (fVar 6) fNil)) fNil)) fNil)) (fCB bReprD (fCons (fTup (fCons (fC (.int 0)) (fCons (fC (.str "statement")) fNil))) fNil)))) (fsRet (fC (.bl false))) fsNext))))
    (fsSeq (fsFor (fiRng1 (fCons (fC (.int 16)) fNil)) (fgName 7) (fsSeq (fsAsg (fCall c4 (fCons (fVar 1) (fCons (fVar 2) fNil))) (fgName 6))
    (fsSeq (fsAsg (fCall c0 (fCons (fVar 1) (fCons (fVar 6) (fCons (fC (.int 6)) fNil)))) (fgName 8))
    (fsFor (fiAny (fLst (fCons (fVar 6) (fCons (fVar 8) (fCons (fCall c0 (fCons (fVar 1) (fCons (fVar 8) (fCons (fC (.int 6)) fNil)))) (fCons (fCall c1 (fCons (fVar 1) fNil)) fNil)))))) (fgName 9) (fsSeq (fsAsg (fCB bReprD (fCons (fVar 9) fNil)) (fgName 10))
    (fsIf (fOr (fTest (fOp (oEq not) (fCB bReprD (fCons (fCall c2 (fCons (fTup (fCons (fVar 9) fNil)) fNil)) fNil)) (fCB bReprD (fCons (fCall c3 (fCons (fTup (fCons (fVar 9) fNil)) fNil)) fNil)))) (fTest (fOp (oEq not) (fCB bReprD (fCons (fVar 9) fNil)) (fVar 10)))) (fsRet (fC (.bl false))) fsNext))))))
    (fsRet (fC (.bl true)))))))))
abbrev st_law : Stmt := top 53
abbrev N_law : List Str := ["_law_script", "_law_deck_here", "_law_names_here", "_law_kept", "_law_word", "_law_some", "_law_row", "_law_turn", "_law_bent_here", "_law_value", "_law_told"]
theorem sc_law : FnScope N_law ["_law_script"] (defScope st_law) := ⟨rfl, rfl, rfl, by decide +kernel, rfl, by decide +kernel, by decide +kernel⟩
theorem fn_law {k : Nat} {f : Addr} {fd : FuncData} (hsy : HasSys base) (F : Fun K "law" "law" st_law f fd) (B : Blt mg) {f__law_bent : Fn} (F__law_bent : DefD P w K mg base k "_law_bent" 3 (toC f__law_bent)) {f__law_odd : Fn} (F__law_odd : DefD P w K mg base k "_law_odd" 1 (toC f__law_odd)) {f_program_error : Fn} (F_program_error : DefD P w K mg base k "program_error" 1 (toC f_program_error)) {f__law_error : Fn} (F__law_error : DefD P w K mg base k "_law_error" 1 (toC f__law_error)) {f__law_statement : Fn} (F__law_statement : DefD P w K mg base k "_law_statement" 2 (toC f__law_statement)) {f__law_edges_right : Fn} (F__law_edges_right : DefD P w K mg base k "_law_edges_right" 0 (toC f__law_edges_right)) {f__law_names : Fn} (F__law_names : DefD P w K mg base k "_law_names" 1 (toC f__law_names)) {f__law_deck : Fn} (F__law_deck : DefD P w K mg base k "_law_deck" 1 (toC f__law_deck)) :
    FnG P w K mg base CX0 (k + 1) f fd ["_law_script"] (toSp K (toC (fDef 1 11 (K21.b_law f__law_bent f__law_odd f_program_error f__law_error f__law_statement f__law_edges_right f__law_names f__law_deck)))) := by
  exact fnF F sc_law rfl rfl (fun cdv A outer s H E hg hr => ⟨_, (xs_cons (xs_set (i := 1) sc_law.nd rfl (.inl rfl) (.inl rfl) (x_call F__law_deck (by exact hg) (by exact hr) rfl (xa_cons (xv 0) xa_nil))) (xs_cons (xs_set (i := 2) sc_law.nd rfl (.inl rfl) (.inl rfl) (x_call F__law_names (by exact hg) (by exact hr) rfl (xa_cons (xv 1) xa_nil))) (xs_cons (xs_if (xt_not (xt_val (x_call0 F__law_edges_right (by exact hg) (by exact hr) rfl))) (xs_one (xs_ret x_bl)) xs_nil) (xs_cons (xs_set (i := 3) sc_law.nd rfl (.inl rfl) (.inl rfl) (x_lst (xa_cons x_str (xa_cons x_str (xa_cons x_str (xa_cons x_str (xa_cons x_str (xa_cons x_str (xa_cons x_str (xa_cons x_str (xa_cons x_str (xa_cons x_str (xa_cons x_str (xa_cons x_str (xa_cons x_str (xa_cons x_str xa_nil)))))))))))))))) (xs_cons (xs_for PassesOwn.never rfl (xi_any (xv 3)) (xg_name (i := 4) sc_law.nd rfl (.inl rfl) (.inl rfl)) (xs_cons (xs_set (i := 5) sc_law.nd rfl (.inl rfl) (.inl rfl) (x_lst (xa_cons (x_tup (xa_cons x_str (xa_cons (xv 4) (xa_cons x_int xa_nil)))) (xa_cons (x_tup (xa_cons x_str (xa_cons (xv 4) xa_nil))) (xa_cons (x_tup (xa_cons x_str (xa_cons (x_tup (xa_cons x_str (xa_cons (xv 4) (xa_cons x_int (xa_cons x_int xa_nil))))) (xa_cons (x_tup xa_nil) (xa_cons (x_tup xa_nil) xa_nil))))) (xa_cons (x_tup (xa_cons x_str (xa_cons (x_tup (xa_cons x_str (xa_cons x_int (xa_cons (xv 4) xa_nil)))) xa_nil))) xa_nil)))))) (xs_one (xs_for PassesOwn.never rfl (xi_any (x_op xo_add (xv 5) (x_lst (xa_cons (x_tup (xa_cons x_str (xa_cons (x_tup (xa_cons x_str (xa_cons x_int (xa_cons (xv 4) xa_nil)))) (xa_cons (x_tup xa_nil) (xa_cons (x_tup xa_nil) xa_nil))))) xa_nil)))) (xg_name (i := 6) sc_law.nd rfl (.inl rfl) (.inl rfl)) (xs_one (xs_if (xt_cmp (xo_ne (by exact hr.units)) (x_callB (xb_reprD (by exact hsy) (by exact hg) (by exact hr.units)) rfl B.repr bt_repr (xa_cons (x_call F_program_error (by exact hg) (by exact hr) rfl (xa_cons (x_tup (xa_cons (xv 6) xa_nil)) xa_nil)) xa_nil)) (x_callB (xb_reprD (by exact hsy) (by exact hg) (by exact hr.units)) rfl B.repr bt_repr (xa_cons (x_tup (xa_cons x_int (xa_cons x_str xa_nil))) xa_nil)) (nomark _)) (xs_one (xs_ret x_bl)) xs_nil)))))) (xs_cons (xs_for PassesOwn.never rfl (xi_rng1 rfl B.range (xa_cons x_int xa_nil)) (xg_name (i := 7) sc_law.nd rfl (.inl rfl) (.inl rfl)) (xs_cons (xs_set (i := 6) sc_law.nd rfl (.inl rfl) (.inl rfl) (x_call F__law_statement (by exact hg) (by exact hr) rfl (xa_cons (xv 1) (xa_cons (xv 2) xa_nil)))) (xs_cons (xs_set (i := 8) sc_law.nd rfl (.inl rfl) (.inl rfl) (x_call F__law_bent (by exact hg) (by exact hr) rfl (xa_cons (xv 1) (xa_cons (xv 6) (xa_cons x_int xa_nil))))) (xs_one (xs_for PassesOwn.never rfl (xi_any (x_lst (xa_cons (xv 6) (xa_cons (xv 8) (xa_cons (x_call F__law_bent (by exact hg) (by exact hr) rfl (xa_cons (xv 1) (xa_cons (xv 8) (xa_cons x_int xa_nil)))) (xa_cons (x_call F__law_odd (by exact hg) (by exact hr) rfl (xa_cons (xv 1) xa_nil)) xa_nil)))))) (xg_name (i := 9) sc_law.nd rfl (.inl rfl) (.inl rfl)) (xs_cons (xs_set (i := 10) sc_law.nd rfl (.inl rfl) (.inl rfl) (x_callB (xb_reprD (by exact hsy) (by exact hg) (by exact hr.units)) rfl B.repr bt_repr (xa_cons (xv 9) xa_nil))) (xs_one (xs_if (xt_w (xw_or (xt_cmp (xo_ne (by exact hr.units)) (x_callB (xb_reprD (by exact hsy) (by exact hg) (by exact hr.units)) rfl B.repr bt_repr (xa_cons (x_call F_program_error (by exact hg) (by exact hr) rfl (xa_cons (x_tup (xa_cons (xv 9) xa_nil)) xa_nil)) xa_nil)) (x_callB (xb_reprD (by exact hsy) (by exact hg) (by exact hr.units)) rfl B.repr bt_repr (xa_cons (x_call F__law_error (by exact hg) (by exact hr) rfl (xa_cons (x_tup (xa_cons (xv 9) xa_nil)) xa_nil)) xa_nil)) (nomark _)) (xw_or1 (xt_cmp (xo_ne (by exact hr.units)) (x_callB (xb_reprD (by exact hsy) (by exact hg) (by exact hr.units)) rfl B.repr bt_repr (xa_cons (xv 9) xa_nil)) (xv 10) (nomark _))))) (xs_one (xs_ret x_bl)) xs_nil)))))))) (xs_one (xs_ret x_bl))))))))⟩)
end
end K21

set_option Elab.async false
set_option linter.all false
set_option maxRecDepth 100000
set_option maxHeartbeats 4000000
namespace K21
open PySem L2 DL PG PE PyProof.Rows
noncomputable def f_odd : Fn := fDef 1 2 (b__law_odd f_one)
def bdB (p : PyData) : Bool := decide (nP p ≤ 50) && decide (mP p ≤ 20) && decide (p.depth ≤ 5) && lP p
def Odd (lo i j : Nat) (S : Sto) (d : D) : Prop := ∃ p, PV lo i j S d p ∧ Bd p 50 20 5
theorem odd_c {lo i j : Nat} {S : Sto} {d : D} (h : (lf d && bdB (fP d)) = true) : Odd lo i j S d := by
  unfold bdB at h
  simp only [Bool.and_eq_true, decide_eq_true_eq] at h
  exact ⟨_, fP_ok d h.1, h.2.1.1.1, h.2.1.1.2, h.2.1.2, h.2.2⟩
theorem w20 (s : String) {d : Nat} (h : (decide ((Str.ofString s).length ≤ 8) && (Str.ofString s).cps.toList.all fun c => decide (c < 16 ^ 8)) = true) : Bd (.str (Str.ofString s)) 1 20 d := Bd.w s h (by omega)
theorem odd_ok {S : Sto} {lo i j : Nat} {n : Int} (hlo : lo ≤ S.length) (hd : Dk S i j n) (hn : n + 10 ≤ B) : ∃ d S', f_odd [.loc i] S = some (d, S') ∧ Odd lo i j S' d ∧ Dk S' i j (n + 1) ∧ Ch i j S S' := by
  have il := hd.il
  have jl := hd.jl
  let L1 : List D := [.non, .bl true, .bl false, .int 0, .int 1, .int 6, .int 7, .int 8, .int 9, .int (-9), .int (-10), .int 99, .int (-99), .int 100, .int 100000000000000000000000000000000000000000000000000, .str (Str.ofString ""), .str (Str.ofString "n"), .str (Str.ofString "pay"), .str (Str.ofString "of"), .str (Str.ofString "we"), .str (Str.ofString "stop")]
  let L2 : List D := [.str (Str.ofString "a1"), .str (Str.ofString "1a"), .str (Str.ofString "Ab"), .str (Str.ofString "a_"), .str (Str.ofString "a\n"), .str (Str.ofString "a{"), .str (Str.ofString "abcdefgh"), .str (Str.ofString "abcdefghi"), .str (Str.ofString "plus"), .str (Str.ofString "times"), .tup [], .loc (S.length + 1), .loc (S.length + 2), .tup [.int 1]]
  let L3 : List D := [.tup [.str (Str.ofString "plus"), .int 1, .int 2], .loc (S.length + 5), .tup [.str (Str.ofString "times"), .int 2, .str (Str.ofString "n")], .tup [.str (Str.ofString "times"), .str (Str.ofString "n"), .int 2], .tup [.str (Str.ofString "times"), .int 10, .int 1], .tup [.str (Str.ofString "stop")]]
  let L4 : List D := [.tup [.str (Str.ofString "not"), .tup [.str (Str.ofString "less"), .str (Str.ofString "n"), .int 1]], .tup [.str (Str.ofString "less"), .int 1], .tup [.str (Str.ofString "pay"), .int 1], .tup [.tup [.str (Str.ofString "pay"), .int 1]], .loc (S.length + 8), .tup [.str (Str.ofString "stop"), .str (Str.ofString "x")], .loc (S.length + 9)]
  let L5 : List D := [.tup [.str (Str.ofString "rest"), .str (Str.ofString "n"), .int 6, .int 5], .tup [.str (Str.ofString "rest"), .str (Str.ofString "n"), .int 6, .int 6], .tup [.str (Str.ofString "rest"), .str (Str.ofString "n"), .int 7, .int 0], .tup [.str (Str.ofString "rest"), .str (Str.ofString "n"), .int 1, .int 0], .tup [.str (Str.ofString "minus"), .str (Str.ofString "n")]]
  let L6 : List D := [.tup [.str (Str.ofString "we"), .tup [], .tup []], .tup [.str (Str.ofString "they"), .tup [], .loc (S.length + 14)], .tup [.str (Str.ofString "we"), .tup []], .tup [.str (Str.ofString "rest"), .str (Str.ofString "n"), .int 2, .bl true]]
  let z : Sto := [.lst L1, .lst [], .dct [], .lst L2, .lst (L1 ++ L2), .lst [.str (Str.ofString "plus"), .int 1, .int 2], .lst L3, .lst (L1 ++ L2 ++ L3), .dct (dcK [(Str.ofString "n", 1)]), .lst [.str (Str.ofString "stop")], .lst L4, .lst (L1 ++ L2 ++ L3 ++ L4), .lst L5, .lst (L1 ++ L2 ++ L3 ++ L4 ++ L5), .lst [], .lst L6, .lst (L1 ++ L2 ++ L3 ++ L4 ++ L5 ++ L6)]
  have g1 : (S ++ z)[S.length + 1]? = some (.lst []) := by simp [z]
  have g2 : (S ++ z)[S.length + 2]? = some (.dct (dcK [])) := by simp [z, dcK]
  have g5 : (S ++ z)[S.length + 5]? = some (.lst [.str (Str.ofString "plus"), .int 1, .int 2]) := by simp [z]
  have g8 : (S ++ z)[S.length + 8]? = some (.dct (dcK [(Str.ofString "n", 1)])) := by simp [z, dcK]
  have g9 : (S ++ z)[S.length + 9]? = some (.lst [.str (Str.ofString "stop")]) := by simp [z]
  have g14 : (S ++ z)[S.length + 14]? = some (.lst []) := by simp [z]
  obtain ⟨d, S5, e5, m5, k5, c5, s5⟩ := one_ok (ds := L1 ++ L2 ++ L3 ++ L4 ++ L5 ++ L6) (l := S.length + 16) (hd.app z) (by omega) (by simp [z]) (by omega) (by omega) (by simp [L1]) (by simp [L1, L2, L3, L4, L5, L6])
  have f1 := c5.at_ _ _ (by omega) (by omega) g1
  have f2 := c5.at_ _ _ (by omega) (by omega) g2
  have f5 := c5.at_ _ _ (by omega) (by omega) g5
  have f8 := c5.at_ _ _ (by omega) (by omega) g8
  have f9 := c5.at_ _ _ (by omega) (by omega) g9
  have f14 := c5.at_ _ _ (by omega) (by omega) g14
  refine ⟨d, S5, ?_, ?_, k5, (Ch.app S z).trans c5⟩
  · simp only [z, L1, L2, L3, L4, L5, L6, dcK, List.cons_append, List.nil_append, List.map_cons, List.map_nil] at e5
    have hp : ∀ S : Sto, oI CPow (fun i j => .int (i ^ j.toNat)) (.int 10) (.int 50) S = some (.int 100000000000000000000000000000000000000000000000000, S) := fun S => by
      have e10 : ((10 : Int) ^ (50 : Int).toNat) = 100000000000000000000000000000000000000000000000000 := by decide +kernel
      rw [oI_int (⟨by decide, by decide, by decide⟩ : CPow 10 50), e10]
    simp [f_odd, fDef, b__law_odd, cKD, hp, e5]
  · have all : ∀ d ∈ L1 ++ L2 ++ L3 ++ L4 ++ L5 ++ L6, Odd lo i j S5 d := by
      simp only [L1, L2, L3, L4, L5, L6, List.cons_append, List.nil_append, List.forall_mem_cons]
      refine ⟨odd_c (by decide +kernel), odd_c (by decide +kernel), odd_c (by decide +kernel), odd_c (by decide +kernel), odd_c (by decide +kernel), odd_c (by decide +kernel), odd_c (by decide +kernel), odd_c (by decide +kernel), odd_c (by decide +kernel), odd_c (by decide +kernel), odd_c (by decide +kernel), odd_c (by decide +kernel), odd_c (by decide +kernel), odd_c (by decide +kernel), odd_c (by decide +kernel), odd_c (by decide +kernel), odd_c (by decide +kernel), odd_c (by decide +kernel), odd_c (by decide +kernel), odd_c (by decide +kernel), odd_c (by decide +kernel), odd_c (by decide +kernel), odd_c (by decide +kernel), odd_c (by decide +kernel), odd_c (by decide +kernel), odd_c (by decide +kernel), odd_c (by decide +kernel), odd_c (by decide +kernel), odd_c (by decide +kernel), odd_c (by decide +kernel), odd_c (by decide +kernel), odd_c (by decide +kernel), ?_, ?_, odd_c (by decide +kernel), odd_c (by decide +kernel), ?_, odd_c (by decide +kernel), odd_c (by decide +kernel), odd_c (by decide +kernel), odd_c (by decide +kernel), odd_c (by decide +kernel), odd_c (by decide +kernel), odd_c (by decide +kernel), odd_c (by decide +kernel), ?_, odd_c (by decide +kernel), ?_, odd_c (by decide +kernel), odd_c (by decide +kernel), odd_c (by decide +kernel), odd_c (by decide +kernel), odd_c (by decide +kernel), odd_c (by decide +kernel), ?_, odd_c (by decide +kernel), odd_c (by decide +kernel), fun d h => absurd h List.not_mem_nil⟩
      · exact ⟨_, .lst (by omega) (by omega) (by omega) f1 .nil, (Bd.lst (d := 0) (m := 20) .nil (by simp)).mono (by omega) (Nat.le_refl _) (by omega)⟩
      · exact ⟨_, .dct (by omega) (by omega) (by omega) f2, by decide +kernel, by decide +kernel, by decide +kernel, by decide +kernel⟩
      · exact ⟨_, .lst (by omega) (by omega) (by omega) f5 (.cons (.str _) (.cons (.int _) (.cons (.int _) .nil))), (Bd.lst (d := 0) (m := 20) (.cons (w20 "plus" (by decide +kernel)) (.cons (Bd.int (k := 1) (by omega) (by omega)) (.cons (Bd.int (k := 2) (by omega) (by omega)) .nil))) (by simp)).mono (by omega) (Nat.le_refl _) (by omega)⟩
      · exact ⟨_, .dct (by omega) (by omega) (by omega) f8, by decide +kernel, by decide +kernel, by decide +kernel, by decide +kernel⟩
      · exact ⟨_, .lst (by omega) (by omega) (by omega) f9 (.cons (.str _) .nil), (Bd.lst (d := 0) (m := 20) (.cons (w20 "stop" (by decide +kernel)) .nil) (by simp)).mono (by omega) (Nat.le_refl _) (by omega)⟩
      · exact ⟨_, .tup (.cons (.str _) (.cons (.tup .nil) (.cons (.lst (by omega) (by omega) (by omega) f14 .nil) .nil))), (Bd.tup (d := 1) (m := 20) (.cons (w20 "they" (by decide +kernel)) (.cons (Bd.tup .nil (by simp)) (.cons (Bd.lst .nil (by simp)) .nil))) (by simp)).mono (by omega) (Nat.le_refl _) (by omega)⟩
    exact all d m5
end K21

set_option Elab.async false
set_option linter.all false
set_option maxRecDepth 100000
set_option maxHeartbeats 1000000
namespace K21
open PySem L2 DL PG PE PyProof.Rows
theorem odd_ok' {S : Sto} {lo i j : Nat} {n : Int} (hlo : lo ≤ S.length) (hd : Dk S i j n) (hn : n + 10 ≤ B) : ∃ d S' n', f_odd [.loc i] S = some (d, S') ∧ Odd lo i j S' d ∧ Dk S' i j n' ∧ n ≤ n' ∧ n' ≤ n + 10 ∧ Ch i j S S' := by
  obtain ⟨d, S', a, b, c, e⟩ := odd_ok hlo hd hn
  exact ⟨d, S', _, a, b, c, by omega, by omega, e⟩
noncomputable def f_bent : Nat → Fn
  | 0 => fun _ _ => none
  | k + 1 => fDef 3 5 (b__law_bent (f_bent k) f_draw f_odd)
theorem cut_from (ds : List D) (k : Nat) : cutD ds (some ((k : Int) + 1)) none = ds.drop (k + 1) := cutD_from ds (k + 1)
theorem cut_mid (ds : List D) (k : Nat) (h : k < ds.length) : cutD ds (some (k : Int)) (some ((k : Int) + 1)) = (ds.drop k).take 1 := by
  have e : ((k : Int) + 1) = ((k + 1 : Nat) : Int) := by omega
  unfold DL.cutD
  rw [e, HT.sIx_nat, HT.sIx_nat, Nat.min_eq_left (by omega), Nat.min_eq_left (by omega)]
  congr 1
  omega
theorem BdA.part {a b c : List PyData} {n m d : Nat} (h : BdA (a ++ b ++ c) n m d) : BdA a n m d ∧ BdA b n m d ∧ BdA c n m d ∧ nPA a + nPA b + nPA c ≤ n := by
  obtain ⟨x, y, z, w⟩ := h
  rw [nPA_app, nPA_app] at x
  rw [mPA_app, mPA_app] at y
  rw [dPA_app, dPA_app] at z
  rw [lPA_app, lPA_app, Bool.and_eq_true, Bool.and_eq_true] at w
  exact ⟨⟨by omega, by omega, by omega, w.1.1⟩, ⟨by omega, by omega, by omega, w.1.2⟩, ⟨by omega, by omega, by omega, w.2⟩, x⟩
theorem BdA.self {a : List PyData} {n m d : Nat} (h : BdA a n m d) : BdA a (nPA a) m d := ⟨Nat.le_refl _, h.m, h.d, h.l⟩
theorem bent_ok {lo i j : Nat} : ∀ (k deep : Nat), deep ≤ k → ∀ (d : D) (p : PyData) (S : Sto) (n : Int) (N M L : Nat), lo ≤ S.length → Dk S i j n → n + 13 * ((k : Int) + 1) ≤ B → PV lo i j S d p → Bd p N M L → 20 ≤ M → M ≤ 900 →
    ∃ d' p' S' n', f_bent (k + 1) [.loc i, d, .int (deep : Nat)] S = some (d', S') ∧ PV lo i j S' d' p' ∧ Bd p' (2 * N + 200) (M + 1) (L + 15) ∧ Dk S' i j n' ∧ n ≤ n' ∧ n' ≤ n + 13 * ((k : Int) + 1) ∧ Ch i j S S' := by
  intro k
  induction k with
  | zero =>
    intro deep hk d p S n N M L hlo hd hn hp hb h20 hM
    obtain rfl : deep = 0 := by omega
    obtain ⟨d', S', n', e, ⟨p', o1, o2⟩, k', l', u', c'⟩ := odd_ok' (lo := lo) hlo hd (by omega)
    exact ⟨d', p', S', n', by simp [f_bent, fDef, b__law_bent, e], o1, o2.mono (by omega) (by omega) (by omega), k', l', by omega, c'⟩
  | succ k ih =>
    intro deep hk d p S n N M L hlo hd hn hp hb h20 hM
    have odd : ∀ (S1 : Sto) (n1 : Int), Dk S1 i j n1 → Ch i j S S1 → n ≤ n1 → n1 ≤ n + 1 → f_bent (k + 1 + 1) [.loc i, d, .int (deep : Nat)] S = f_odd [.loc i] S1 →
        ∃ d' p' S' n', f_bent (k + 1 + 1) [.loc i, d, .int (deep : Nat)] S = some (d', S') ∧ PV lo i j S' d' p' ∧ Bd p' (2 * N + 200) (M + 1) (L + 15) ∧ Dk S' i j n' ∧ n ≤ n' ∧ n' ≤ n + 13 * (((k + 1 : Nat) : Int) + 1) ∧ Ch i j S S' := by
      intro S1 n1 k1 c1 l1 u1 e1
      obtain ⟨d', S', n', e, ⟨p', o1, o2⟩, k', l', u', c'⟩ := odd_ok' (lo := lo) (Nat.le_trans hlo c1.len) k1 (by omega)
      exact ⟨d', p', S', n', by rw [e1, e], o1, o2.mono (by omega) (by omega) (by omega), k', by omega, by omega, c1.trans c'⟩
    obtain ⟨-, -, -, h4⟩ := kt (hp.v (Nat.le_trans hb.m (by omega)))
    cases deep with
    | zero =>
      refine odd S n hd (.refl _ _ _) (Int.le_refl _) (by omega) ?_
      obtain ⟨d', S', n', e, _⟩ := odd_ok' (lo := lo) hlo hd (by omega)
      simp [f_bent, fDef, b__law_bent, e]
    | succ deep =>
      have hdz : ((deep : Int) + 1 = 0) = False := by simp; omega
      cases hT : isT d with
      | false =>
        refine odd S n hd (.refl _ _ _) (Int.le_refl _) (by omega) ?_
        obtain ⟨d', S', n', e, _⟩ := odd_ok' (lo := lo) hlo hd (by omega)
        rw [hT] at h4
        simp [-tyD, f_bent, fDef, b__law_bent, e, hdz, h4]
      | true =>
        obtain ⟨ds, rfl⟩ : ∃ ds, d = .tup ds := ⟨_, isT_tup hT⟩
        cases ds with
        | nil =>
          refine odd S n hd (.refl _ _ _) (Int.le_refl _) (by omega) ?_
          obtain ⟨d', S', n', e, _⟩ := odd_ok' (lo := lo) hlo hd (by omega)
          simp [f_bent, fDef, b__law_bent, e, hdz]
        | cons x r =>
          obtain ⟨q1, S1, e1, q10, q11, k1, c1, s1⟩ := draw_ok (many := 6) hd (by unfold B at hn; omega) (by decide) (by decide)
          by_cases hq : q1 = 0
          · subst hq
            refine odd S1 _ k1 c1 (by omega) (by omega) ?_
            obtain ⟨d', S', n', e, _⟩ := odd_ok' (lo := lo) (Nat.le_trans hlo c1.len) k1 (by omega)
            simp [f_bent, fDef, b__law_bent, e, hdz, e1]
          · cases hp with
            | @tup _ ps ha =>
              obtain ⟨hA, hlen, hN, hL⟩ := hb.untup
              have hlps := ha.len
              have hlr : r.length + 1 ≤ 900 := by rw [List.length_cons] at hlps; omega
              obtain ⟨q2, S2, e2, q20, q21, k2, c2, s2⟩ := draw_ok (many := (r.length : Int) + 1) k1 (by unfold B at hn; omega) (by omega) (by omega)
              obtain ⟨q3, S3, e3, q30, q31, k3, c3, s3⟩ := draw_ok (many := 12) k2 (by unfold B at hn; omega) (by decide) (by decide)
              obtain ⟨a, hal, rfl, v, hv, hat, _⟩ := atI_mod (l := x :: r) q20 (by rw [List.length_cons]; omega)
              have C3 : Ch i j S S3 := (c1.trans c2).trans c3
              have ha3 := ha.mono C3
              obtain ⟨pa, hpa, hva⟩ := ha3.at_ hv
              obtain ⟨T, hT⟩ : ∃ T, T = (x :: r).take a := ⟨_, rfl⟩
              obtain ⟨E, hE⟩ : ∃ E, E = (x :: r).drop (a + 1) := ⟨_, rfl⟩
              obtain ⟨F, hF⟩ : ∃ F, F = (x :: r).drop a := ⟨_, rfl⟩
              obtain ⟨G, hG⟩ : ∃ G, G = ((x :: r).drop a).take 1 := ⟨_, rfl⟩
              have cT : cutD (x :: r) none (some (a : Int)) = T := by rw [cutD_to, hT]
              have cE : cutD (x :: r) (some ((a : Int) + 1)) none = E := by rw [cut_from, hE]
              have cF : cutD (x :: r) (some (a : Int)) none = F := by rw [cutD_from, hF]
              have cG : cutD (x :: r) (some (a : Int)) (some ((a : Int) + 1)) = G := by rw [cut_mid _ _ hal, hG]
              have pT : PVA lo i j S3 T (ps.take a) := hT ▸ ha3.take a
              have pE : PVA lo i j S3 E (ps.drop (a + 1)) := hE ▸ ha3.drop (a + 1)
              have pF : PVA lo i j S3 F (ps.drop a) := hF ▸ ha3.drop a
              have pG : PVA lo i j S3 G ((ps.drop a).take 1) := hG ▸ (ha3.drop a).take 1
              have hap : a < ps.length := by rw [← hlps]; exact hal
              have hg : (ps.drop a).take 1 = [pa] := by
                rw [List.drop_eq_getElem_cons hap]
                have := List.getElem?_eq_some_iff.mp hpa
                obtain ⟨_, h⟩ := this
                simp [h]
              have hf : ps.drop a = [pa] ++ ps.drop (a + 1) := by
                rw [List.drop_eq_getElem_cons hap]
                obtain ⟨_, h⟩ := List.getElem?_eq_some_iff.mp hpa
                simp [h]
              have hsp : ps = ps.take a ++ [pa] ++ ps.drop (a + 1) := by
                rw [List.append_assoc, ← hf, List.take_append_drop]
              have hA' := hA
              rw [hsp] at hA'
              obtain ⟨bT, bP, bE, hsum⟩ := BdA.part hA'
              have bT := BdA.self bT
              have bE := BdA.self bE
              have bP' := BdA.self bP
              have hnp : nPA [pa] = nP pa := by simp [nPA]
              have lT : (ps.take a).length + (ps.drop (a + 1)).length + 1 = ps.length := by
                have := congrArg List.length hsp
                simp only [List.length_append, List.length_singleton] at this
                omega
              have fin : ∀ (ds' : List D) (ps' : List PyData), f_bent (k + 1 + 1) [.loc i, .tup (x :: r), .int ((deep + 1 : Nat) : Int)] S = some (.tup ds', S3) → PVA lo i j S3 ds' ps' → BdA ps' (2 * N + 100) (M + 1) (L + 14) → ps'.length ≤ M + 1 →
                  ∃ d' p' S' n', f_bent (k + 1 + 1) [.loc i, .tup (x :: r), .int ((deep + 1 : Nat) : Int)] S = some (d', S') ∧ PV lo i j S' d' p' ∧ Bd p' (2 * N + 200) (M + 1) (L + 15) ∧ Dk S' i j n' ∧ n ≤ n' ∧ n' ≤ n + 13 * (((k + 1 : Nat) : Int) + 1) ∧ Ch i j S S' :=
                fun ds' ps' e hp' hb' hl' => ⟨_, _, S3, _, e, .tup hp', (Bd.tup hb' hl').mono (by omega) (Nat.le_refl _) (by omega), k3, by omega, by omega, C3⟩
              have eb : f_bent (k + 1 + 1) = fDef 3 5 (b__law_bent (f_bent (k + 1)) f_draw f_odd) := rfl
              have lsT : T.length ≤ 900 := by rw [hT, List.length_take]; omega
              have lsE : E.length ≤ 900 := by rw [hE, List.length_drop, List.length_cons]; omega
              have lsF : F.length ≤ 900 := by rw [hF, List.length_drop, List.length_cons]; omega
              have lsG : G.length ≤ 1 := by rw [hG, List.length_take]; omega
              have z1 : T.length + E.length ≤ 100000 := by omega
              have z2 : T.length + G.length ≤ 100000 := by omega
              have z3 : T.length + G.length + F.length ≤ 100000 := by omega
              have z3' : T.length + (G.length + F.length) ≤ 100000 := by omega
              have z4 : F.length + T.length ≤ 100000 := by omega
              have z5 : T.length + 1 ≤ 100000 := by omega
              have z6 : T.length + 1 + E.length ≤ 100000 := by omega
              have z6' : T.length + (E.length + 1) ≤ 100000 := by omega
              by_cases w0 : q3 = 0
              · subst w0
                exact fin _ _ (by rw [eb]; simp [fDef, b__law_bent, hdz, e1, hq, e2, e3, cT, cE, z1]) (pT.app pE) ((bT.app bE).mono (by omega) (by omega) (by omega)) (by rw [List.length_append]; omega)
              by_cases w1 : q3 = 1
              · subst w1
                exact fin _ _ (by rw [eb]; simp [fDef, b__law_bent, hdz, e1, hq, e2, e3, cT, cE, cF, cG, z2, z3, z3']) ((pT.app pG).app pF) (by rw [hg, hf]; exact ((bT.app bP').app (bP'.app bE)).mono (by omega) (by omega) (by omega)) (by rw [List.length_append, List.length_append, hg, hf, List.length_append]; simp; omega)
              by_cases w2 : q3 = 2
              · subst w2
                refine ⟨.loc S3.length, _, S3 ++ [.lst (x :: r)], _, by rw [eb]; simp [fDef, b__law_bent, hdz, e1, hq, e2, e3], .lst (Nat.le_trans hlo C3.len) (by have := k3.il; omega) (by have := k3.jl; omega) (by simp) (ha3.mono (.app S3 _)), (Bd.lst hA hlen).mono (by omega) (by omega) (by omega), k3.app _, by omega, by omega, C3.trans (.app S3 _)⟩
              · have bpa : Bd pa (nP pa) M (L - 1) := by
                  obtain ⟨_, y, z, w⟩ := bP
                  simp only [mPA, PyData.depthAll, lPA, Bool.and_true] at y z w
                  exact ⟨Nat.le_refl _, by omega, by omega, w⟩
                obtain ⟨d', p', S4, n4, e4, v4, b4, k4, l4, u4, c4⟩ := ih deep (by omega) v pa S3 _ (nP pa) M (L - 1) (Nat.le_trans hlo C3.len) k3 (by omega) hva bpa h20 hM
                refine ⟨_, _, S4, n4, by rw [eb]; simp [fDef, b__law_bent, hdz, e1, hq, e2, e3, w0, w1, w2, hat, e4, cT, cE, z5, z6, z6'], .tup (((pT.mono c4).app (.cons v4 .nil)).app (pE.mono c4)), (Bd.tup (d := L + 14) (((bT.mono (Nat.le_refl _) (m' := M + 1) (by omega) (by omega)).app (.cons (b4.mono (Nat.le_refl _) (Nat.le_refl _) (by omega)) .nil)).app (bE.mono (Nat.le_refl _) (by omega) (by omega))) (by rw [List.length_append, List.length_append]; simp; omega)).mono (by omega) (Nat.le_refl _) (by omega), k4, by omega, by omega, C3.trans c4⟩
end K21

set_option Elab.async false
set_option linter.all false
set_option maxRecDepth 100000
set_option maxHeartbeats 4000000
namespace K21
open PySem L2 DL PG PE PyProof.Rows
/-! ### values without objects, their sizes -/
structure Ex (d : D) (n k : Nat) : Prop where
  lf : lf d = true
  bd : Bd (fP d) n 20 k
theorem Ex.mono {d : D} {n k n' k' : Nat} (h : Ex d n k) (a : n ≤ n') (b : k ≤ k') : Ex d n' k' := ⟨h.lf, h.bd.mono a (Nat.le_refl _) b⟩
theorem Ex.int {a : Int} {k : Nat} (h1 : -99 ≤ a) (h2 : a ≤ 99) : Ex (.int a) 1 k := ⟨rfl, by rw [fP]; exact Bd.int h1 h2⟩
theorem Ex.w (s : String) {k : Nat} (h : (decide ((Str.ofString s).length ≤ 8) && (Str.ofString s).cps.toList.all fun c => decide (c < 16 ^ 8)) = true) : Ex (.str (Str.ofString s)) 1 k := ⟨rfl, by rw [fP]; exact w20 s h⟩
theorem Ex.s {z : Str} {k : Nat} (h : z.length ≤ 20) (hc : ∀ c ∈ z.cps.toList, c < 16 ^ 8) : Ex (.str z) 1 k := ⟨rfl, by rw [fP]; exact Bd.str h h hc⟩
inductive ExA : List D → Nat → Nat → Prop
  | nil {k : Nat} : ExA [] 0 k
  | cons {d : D} {ds : List D} {n m k : Nat} : Ex d n k → ExA ds m k → ExA (d :: ds) (n + m) k
theorem ExA.out : ∀ {ds : List D} {n k : Nat}, ExA ds n k → lfA ds = true ∧ BdA (fPA ds) n 20 k
  | _, _, _, .nil => ⟨rfl, by rw [fPA]; exact .nil⟩
  | _, _, _, .cons h1 h2 => ⟨by rw [lfA, h1.lf, h2.out.1]; rfl, by rw [fPA]; exact .cons h1.bd h2.out.2⟩
theorem Ex.tup {ds : List D} {n k : Nat} (h : ExA ds n k) (hl : ds.length ≤ 20) : Ex (.tup ds) (1 + n) (k + 1) := ⟨by rw [PE.lf]; exact h.out.1, by rw [fP]; exact Bd.tup h.out.2 (by rw [fPA_len]; exact hl)⟩
theorem Ex.e {k : Nat} : Ex (.tup []) 1 (k + 1) := (Ex.tup (k := 0) .nil (by simp)).mono (Nat.le_refl _) (by omega)
structure NM (S : Sto) (i j l : Nat) (zs : List Str) : Prop where
  ni : l ≠ i
  nj : l ≠ j
  at_ : S[l]? = some (.lst (zs.map D.str))
  len : zs.length = 4
  ok : ∀ z ∈ zs, nameOk z = true
theorem NM.ch {S S' : Sto} {i j l : Nat} {zs : List Str} (h : NM S i j l zs) (c : Ch i j S S') : NM S' i j l zs := ⟨h.ni, h.nj, c.at_ _ _ h.ni h.nj h.at_, h.len, h.ok⟩
theorem NM.ap {S : Sto} {i j l : Nat} {zs : List Str} (h : NM S i j l zs) (z : Sto) : (S ++ z)[l]? = some (.lst (zs.map D.str)) := Ext.at (S := S) ⟨z, rfl⟩ h.at_
theorem leaf_ok {S : Sto} {i j l : Nat} {zs : List Str} {n a b : Int} (nm : NM S i j l zs) (hd : Dk S i j n) (hn : n + 1 ≤ B) (ha : -99 ≤ a ∧ a ≤ 99) (hb : -99 ≤ b ∧ b ≤ 99) :
    ∃ d S', f_one [.loc i, .loc (S.length + 1)] (S ++ [.lst [.int a, .int b], .lst (zs.map D.str ++ [.int a, .int b])]) = some (d, S') ∧ Ex d 1 0 ∧ Dk S' i j (n + 1) ∧ Ch i j S S' := by
  have il := hd.il
  have jl := hd.jl
  obtain ⟨d, S', e, m, k, c, _⟩ := one_ok (ds := zs.map D.str ++ [.int a, .int b]) (l := S.length + 1) (hd.app [.lst [.int a, .int b], .lst (zs.map D.str ++ [.int a, .int b])]) (by omega) (by simp) (by omega) (by omega) (by simp) (by simp [nm.len])
  refine ⟨d, S', e, ?_, k, (Ch.app S _).trans c⟩
  rcases List.mem_append.mp m with h | h
  · obtain ⟨z, hz, rfl⟩ := List.mem_map.mp h
    obtain ⟨h1, h2⟩ := nm_chars (nm.ok z hz)
    exact .s (by omega) h2
  · simp only [List.mem_cons, List.not_mem_nil, or_false] at h
    rcases h with rfl | rfl
    · exact .int ha.1 ha.2
    · exact .int hb.1 hb.2
noncomputable def f_deep : Fn := fDef 3 6 (b__law_deep f_one)
noncomputable abbrev dpT : FS := (fsSeq (fsAsg (fCall f_one (fCons (fVar 0) (fCons (fOp oAdd (fVar 1) (fLst (fCons (fC (.int 0)) (fCons (fC (.int 99)) fNil)))) fNil))) (fgName 5))
    (fsAsg (fCall f_one (fCons (fVar 0) (fCons (fLst (fCons (fTup (fCons (fC (.str "plus")) (fCons (fVar 3) (fCons (fVar 5) fNil)))) (fCons (fTup (fCons (fC (.str "minus")) (fCons (fVar 5) (fCons (fVar 3) fNil)))) (fCons (fTup (fCons (fC (.str "times")) (fCons (fNeg (fC (.int 9))) (fCons (fVar 3) fNil)))) fNil)))) fNil))) (fgName 3)))
theorem dp_loop {i j l : Nat} {zs : List Str} {a2 : Option D} : ∀ (xs : List D) (S : Sto) (n : Int) (d : D) (k : Nat) (a4 a5 : Option D), NM S i j l zs → Dk S i j n → n + 2 * (xs.length : Int) ≤ B → Ex d (1 + 3 * k) k →
    ∃ d' S' b4 b5, forF none (fgName 4) dpT xs [some (.loc i), some (.loc l), a2, some d, a4, a5] S = some (.nx [some (.loc i), some (.loc l), a2, some d', b4, b5], S') ∧ Ex d' (1 + 3 * (k + xs.length)) (k + xs.length) ∧ Dk S' i j (n + 2 * (xs.length : Int)) ∧ Ch i j S S'
  | [], S, n, d, k, a4, a5, nm, hd, hn, h => ⟨d, S, a4, a5, by simp, h, by simpa using hd, .refl _ _ _⟩
  | x :: xs, S, n, d, k, a4, a5, nm, hd, hn, h => by
    rw [List.length_cons] at hn
    obtain ⟨o, S1, e1, h1, k1, c1⟩ := leaf_ok (a := 0) (b := 99) nm hd (by omega) (by omega) (by omega)
    have nm1 := nm.ch c1
    let L : List D := [.tup [.str (Str.ofString "plus"), d, o], .tup [.str (Str.ofString "minus"), o, d], .tup [.str (Str.ofString "times"), .int (-9), d]]
    have il := k1.il
    have jl := k1.jl
    obtain ⟨d1, S2, e2, m2, k2, c2, s2⟩ := one_ok (ds := L) (l := S1.length) (k1.app [.lst L]) (by omega) (by simp) (by omega) (by omega) (by simp [L]) (by simp [L])
    have c2 := (Ch.app (i := i) (j := j) S1 [.lst L]).trans c2
    have ho : Ex o 1 k := h1.mono (by omega) (by omega)
    have h2 : Ex d1 (1 + 3 * (k + 1)) (k + 1) := by
      simp only [L, List.mem_cons, List.not_mem_nil, or_false] at m2
      rcases m2 with rfl | rfl | rfl
      · exact (Ex.tup (.cons (.w "plus" (by decide +kernel)) (.cons h (.cons ho .nil))) (by simp)).mono (by omega) (by omega)
      · exact (Ex.tup (.cons (.w "minus" (by decide +kernel)) (.cons ho (.cons h .nil))) (by simp)).mono (by omega) (by omega)
      · exact (Ex.tup (.cons (.w "times" (by decide +kernel)) (.cons (.int (by omega) (by omega)) (.cons h .nil))) (by simp)).mono (by omega) (by omega)
    obtain ⟨d3, S3, b4, b5, e3, h3, k3, c3⟩ := dp_loop (a2 := a2) xs S2 (n + 1 + 1) d1 (k + 1) (some x) (some o) (nm1.ch c2) k2 (by omega) h2
    refine ⟨d3, S3, b4, b5, ?_, by rw [List.length_cons, show k + (xs.length + 1) = k + 1 + xs.length by omega]; exact h3, by rw [List.length_cons, show n + 2 * ((xs.length + 1 : Nat) : Int) = n + 1 + 1 + 2 * (xs.length : Int) by omega]; exact k3, (c1.trans c2).trans c3⟩
    simp only [L] at e2
    have hz : zs.length + 2 ≤ 100000 := by rw [nm.len]; omega
    simp [nm.at_, nm.ap, hz, e1, e2, e3]
theorem deep_ok {S : Sto} {i j l : Nat} {zs : List Str} {n : Int} {m : Nat} (nm : NM S i j l zs) (hd : Dk S i j n) (hn : n + 7 ≤ B) (hm : m < 4) :
    ∃ d S' n', f_deep [.loc i, .loc l, .int (1 + (m : Int))] S = some (d, S') ∧ Ex d 10 3 ∧ Dk S' i j n' ∧ n ≤ n' ∧ n' ≤ n + 7 ∧ Ch i j S S' := by
  obtain ⟨o, S1, e1, h1, k1, c1⟩ := leaf_ok (a := 7) (b := -99) nm hd (by omega) (by omega) (by omega)
  have hl : (rangeD 0 m).length = m := by simp [rangeD]
  obtain ⟨d3, S3, b4, b5, e3, h3, k3, c3⟩ := dp_loop (a2 := some (.int (1 + (m : Int)))) (rangeD 0 m) S1 (n + 1) o 0 none none (nm.ch c1) k1 (by rw [hl]; omega) h1
  rw [hl] at h3 k3
  refine ⟨d3, S3, _, ?_, h3.mono (by omega) (by omega), k3, by omega, by omega, c1.trans c3⟩
  have hz : zs.length + 2 ≤ 100000 := by rw [nm.len]; omega
  have q1 : ((1 : Int) + (m : Int) - 1) = (m : Int) := by omega
  have q2 : (-1000000 : Int) ≤ (m : Int) ∧ (m : Int) ≤ 1000000 := by omega
  simp only [dpT] at e3
  simp [f_deep, fDef, b__law_deep, nm.at_, nm.ap, hz, e1, q1, q2, e3]
end K21

set_option Elab.async false
set_option linter.all false
set_option maxRecDepth 100000
set_option maxHeartbeats 4000000
namespace K21
open PySem L2 DL PG PE PyProof.Rows
noncomputable def f_statement : Fn := fDef 2 10 (b__law_statement f_one f_draw f_deep)
/-- [deep for k in range(2)], unpacked -/
theorem two_ok {S : Sto} {i j l : Nat} {zs : List Str} {n : Int} {a2 a3 a4 a5 a7 a8 a9 : Option D} (nm : NM S i j l zs) (hd : Dk S i j n) (hn : n + 16 ≤ B) :
    ∃ d1 d2 S' n', fsAsg (fLc (fiRng1 (fCons (fC (.int 2)) fNil)) 6 fYes (fCall f_deep (fCons (fVar 0) (fCons (fVar 1) (fCons (fOp oAdd (fC (.int 1)) (fCall f_draw (fCons (fVar 0) (fCons (fC (.int 4)) fNil)))) fNil))))) (fgU2 (fgName 2) (fgName 3)) [some (.loc i), some (.loc l), a2, a3, a4, a5, none, a7, a8, a9] S = some (.nx [some (.loc i), some (.loc l), some d1, some d2, a4, a5, none, a7, a8, a9], S') ∧ Ex d1 10 3 ∧ Ex d2 10 3 ∧ Dk S' i j n' ∧ n ≤ n' ∧ n' ≤ n + 16 ∧ Ch i j S S' := by
  have il := hd.il
  have jl := hd.jl
  have hll : l < S.length := (List.getElem?_eq_some_iff.mp nm.at_).1
  have nm0 := nm.ch (Ch.app (i := i) (j := j) S [.lst []])
  obtain ⟨r1, S1, e1, r10, r11, k1, c1, _⟩ := draw_ok (many := 4) (hd.app [.lst []]) (by unfold B at hn; omega) (by decide) (by decide)
  obtain ⟨q1, rfl⟩ := Int.eq_ofNat_of_zero_le r10
  obtain ⟨d1, S2, n2, e2, x1, k2, l2, u2, c2⟩ := deep_ok (m := q1) (nm0.ch c1) k1 (by omega) (by omega)
  have h2 : S2[S.length]? = some (.lst []) := (c1.trans c2).at_ _ _ (by omega) (by omega) (by simp)
  have hlt2 : S.length < S2.length := (List.getElem?_eq_some_iff.mp h2).1
  have nm2 := (nm0.ch c1).ch c2
  have k2' : Dk (S2.set S.length (.lst [d1])) i j n2 := k2.setO (by omega) (by omega)
  have nm2' : NM (S2.set S.length (.lst [d1])) i j l zs := ⟨nm2.ni, nm2.nj, by rw [List.getElem?_set_ne (by omega)]; exact nm2.at_, nm2.len, nm2.ok⟩
  have h2' : (S2.set S.length (.lst [d1]))[S.length]? = some (.lst [d1]) := List.getElem?_set_self hlt2
  obtain ⟨r3, S3, e3, r30, r31, k3, c3, _⟩ := draw_ok (many := 4) k2' (by unfold B at hn; omega) (by decide) (by decide)
  obtain ⟨q3, rfl⟩ := Int.eq_ofNat_of_zero_le r30
  obtain ⟨d2, S4, n4, e4, x2, k4, l4, u4, c4⟩ := deep_ok (m := q3) (nm2'.ch c3) k3 (by omega) (by omega)
  have h4 : S4[S.length]? = some (.lst [d1]) := (c3.trans c4).at_ _ _ (by omega) (by omega) h2'
  have hlt4 : S.length < S4.length := (List.getElem?_eq_some_iff.mp h4).1
  have C2 : Ch i j S (S2.set S.length (.lst [d1])) := (((Ch.app S [.lst []]).trans c1).trans c2).setN (Nat.le_refl _)
  have C4 : Ch i j S (S4.set S.length (.lst [d1, d2])) := (((C2).trans c3).trans c4).setN (Nat.le_refl _)
  have h5 : (S4.set S.length (.lst [d1, d2]))[S.length]? = some (.lst [d1, d2]) := List.getElem?_set_self hlt4
  refine ⟨d1, d2, S4.set S.length (.lst [d1, d2]), n4, ?_, x1, x2, k4.setO (by omega) (by omega), by omega, by omega, C4⟩
  have hr : rangeD 0 2 = [.int 0, .int 1] := rfl
  have ev := fgU2_ev (g := fgName 2) (h := fgName 3) (δ := [some (.loc i), some (.loc l), a2, a3, a4, a5, none, a7, a8, a9]) h5
  simp [hr, e1, e2, h2, e3, e4, h4, ev]
noncomputable abbrev notT : FS := (fsAsg (fTup (fCons (fC (.str "not")) (fCons (fVar 5) fNil))) (fgName 5))
theorem not_loop {S : Sto} {a0 a1 a2 a3 a4 a7 a8 a9 : Option D} : ∀ (xs : List D) (d : D) (n k : Nat) (a6 : Option D), Ex d n k → ∃ d' b6, forF none (fgName 6) notT xs [a0, a1, a2, a3, a4, some d, a6, a7, a8, a9] S = some (.nx [a0, a1, a2, a3, a4, some d', b6, a7, a8, a9], S) ∧ Ex d' (n + 2 * xs.length) (k + xs.length)
  | [], d, n, k, a6, h => ⟨d, a6, by simp, h⟩
  | x :: xs, d, n, k, a6, h => by
    have h1 : Ex (.tup [.str (Str.ofString "not"), d]) (n + 2) (k + 1) := (Ex.tup (.cons (.w "not" (by decide +kernel)) (.cons h .nil)) (by simp)).mono (by omega) (by omega)
    obtain ⟨d', b6, e, h'⟩ := not_loop (S := S) (a0 := a0) (a1 := a1) (a2 := a2) (a3 := a3) (a4 := a4) (a7 := a7) (a8 := a8) (a9 := a9) xs _ _ _ (some x) h1
    refine ⟨d', b6, by simp [e], h'.mono (by rw [List.length_cons]; omega) (by rw [List.length_cons]; omega)⟩
def rows3 (f nm s : D) : List D := [.tup [.str (Str.ofString "pay"), f], .tup [.str (Str.ofString "stop")], .tup [.str (Str.ofString "set"), nm, s]]
theorem rows_ok {f nm s : D} {k : Nat} (hf : Ex f 10 3) (hs : Ex s 10 3) (hn : Ex nm 1 0) : Ex (.tup ((rows3 f nm s).take k)) 28 5 := by
  have h1 : Ex (.tup [.str (Str.ofString "pay"), f]) 12 4 := (Ex.tup (.cons (.w "pay" (by decide +kernel)) (.cons hf .nil)) (by simp)).mono (by omega) (by omega)
  have h2 : Ex (.tup [.str (Str.ofString "stop")]) 2 4 := (Ex.tup (k := 3) (.cons (.w "stop" (by decide +kernel)) .nil) (by simp)).mono (by omega) (by omega)
  have h3 : Ex (.tup [.str (Str.ofString "set"), nm, s]) 13 4 := (Ex.tup (.cons (.w "set" (by decide +kernel)) (.cons (hn.mono (Nat.le_refl _) (by omega)) (.cons hs .nil))) (by simp)).mono (by omega) (by omega)
  match k with
  | 0 => exact (Ex.e (k := 4)).mono (by omega) (by omega)
  | 1 => exact (Ex.tup (.cons h1 .nil) (by simp)).mono (by omega) (by omega)
  | 2 => exact (Ex.tup (.cons h1 (.cons h2 .nil)) (by simp)).mono (by omega) (by omega)
  | k + 3 =>
    have : (rows3 f nm s).take (k + 3) = rows3 f nm s := by simp [rows3]
    rw [this]
    exact (Ex.tup (.cons h1 (.cons h2 (.cons h3 .nil))) (by simp)).mono (by omega) (by omega)
theorem statement_ok {S : Sto} {i j l : Nat} {zs : List Str} {n : Int} (nm : NM S i j l zs) (hd : Dk S i j n) (hn : n + 40 ≤ B) :
    ∃ d S' n', f_statement [.loc i, .loc l] S = some (d, S') ∧ Ex d 60 9 ∧ Dk S' i j n' ∧ n ≤ n' ∧ n' ≤ n + 40 ∧ Ch i j S S' := by
  obtain ⟨f, s, S5, n5, e5, xf, xs, k5, l5, u5, c5⟩ := two_ok (a2 := none) (a3 := none) (a4 := none) (a5 := none) (a7 := none) (a8 := none) (a9 := none) nm hd (by omega)
  have nm5 := nm.ch c5
  obtain ⟨r6, S6, e6, r60, r61, k6, c6, _⟩ := draw_ok (many := 7) k5 (by unfold B at hn; omega) (by decide) (by decide)
  obtain ⟨r7, S7, e7, r70, r71, k7, c7, _⟩ := draw_ok (many := 1 + r6) k6 (by unfold B at hn; omega) (by omega) (by omega)
  let L8 : List D := [.tup [.str (Str.ofString "rest"), f, .int (1 + r6), .int r7], .tup [.str (Str.ofString "less"), f, s]]
  have il7 := k7.il
  have jl7 := k7.jl
  obtain ⟨t8, S8, e8, m8, k8, c8, _⟩ := one_ok (ds := L8) (l := S7.length) (k7.app [.lst L8]) (by omega) (by simp) (by omega) (by omega) (by simp [L8]) (by simp [L8])
  have c8 := (Ch.app (i := i) (j := j) S7 [.lst L8]).trans c8
  have x8 : Ex t8 22 4 := by
    simp only [L8, List.mem_cons, List.not_mem_nil, or_false] at m8
    rcases m8 with rfl | rfl
    · exact (Ex.tup (.cons (.w "rest" (by decide +kernel)) (.cons xf (.cons (.int (by omega) (by omega)) (.cons (.int (by omega) (by omega)) .nil)))) (by simp)).mono (by omega) (by omega)
    · exact (Ex.tup (.cons (.w "less" (by decide +kernel)) (.cons xf (.cons xs .nil))) (by simp)).mono (by omega) (by omega)
  obtain ⟨r9, S9, e9, r90, r91, k9, c9, _⟩ := draw_ok (many := 6) k8 (by unfold B at hn; omega) (by decide) (by decide)
  obtain ⟨m, hm, hm3⟩ : ∃ m : Nat, (if 2 < r9 then r9 - 2 else 0) = (m : Int) ∧ m ≤ 3 := by
    refine ⟨(r9 - 2).toNat, ?_, by omega⟩
    split <;> omega
  have hml : (rangeD 0 m).length = m := by simp [rangeD]
  obtain ⟨t, b6, et, xt⟩ := not_loop (S := S9) (a0 := some (.loc i)) (a1 := some (.loc l)) (a2 := some f) (a3 := some s) (a4 := some (.int (1 + r6))) (a7 := none) (a8 := none) (a9 := none) (rangeD 0 m) t8 22 4 none x8
  rw [hml] at xt
  have xt : Ex t 28 7 := xt.mono (by omega) (by omega)
  have nm9 := (((nm5.ch c6).ch c7).ch c8).ch c9
  obtain ⟨z0, z1, z2, z3, rfl⟩ : ∃ z0 z1 z2 z3, zs = [z0, z1, z2, z3] := by
    match zs, nm.len with
    | [z0, z1, z2, z3], _ => exact ⟨z0, z1, z2, z3, rfl⟩
  have il9 := k9.il
  have jl9 := k9.jl
  let L10 : List D := [.str z0, .str z1, .str z2, .str z3, .str (z1 ++ Str.ofString "ab")]
  obtain ⟨nmd, S10, e10, m10, k10, c10, _⟩ := one_ok (ds := L10) (l := S9.length + 1) (k9.app [.lst [.str (z1 ++ Str.ofString "ab")], .lst L10]) (by omega) (by simp) (by omega) (by omega) (by simp [L10]) (by simp [L10])
  have c10 := (Ch.app (i := i) (j := j) S9 [.lst [.str (z1 ++ Str.ofString "ab")], .lst L10]).trans c10
  have hab : (Str.ofString "ab").length = 2 := by decide +kernel
  obtain ⟨z1l, z1c⟩ := nm_chars (nm.ok z1 (by simp))
  have xn : Ex nmd 1 0 := by
    have hz : ∀ z ∈ [z0, z1, z2, z3], Ex (.str z) 1 0 := fun z hz => by
      obtain ⟨h1, h2⟩ := nm_chars (nm.ok z hz)
      exact .s (by omega) h2
    simp only [L10, List.mem_cons, List.not_mem_nil, or_false] at m10
    rcases m10 with rfl | rfl | rfl | rfl | rfl
    · exact hz _ (by simp)
    · exact hz _ (by simp)
    · exact hz _ (by simp)
    · exact hz _ (by simp)
    · refine .s (by rw [strLen_append]; omega) fun c hc => ?_
      have : (z1 ++ Str.ofString "ab").cps.toList = z1.cps.toList ++ (Str.ofString "ab").cps.toList := by
        show (z1.cps ++ (Str.ofString "ab").cps).toList = _
        simp
      rw [this, List.mem_append] at hc
      rcases hc with hc | hc
      · exact z1c c hc
      · have h2 : ((Str.ofString "ab").cps.toList.all fun c => decide (c < 16 ^ 8)) = true := by decide +kernel
        simpa using List.all_eq_true.mp h2 c hc
  obtain ⟨r11, S11, e11, r110, r111, k11, c11, _⟩ := draw_ok (many := 4) (k10.app [.lst (rows3 f nmd s)]) (by unfold B at hn; omega) (by decide) (by decide)
  obtain ⟨q, rfl⟩ := Int.eq_ofNat_of_zero_le r110
  have il10 := k10.il
  have jl10 := k10.jl
  have h11 : S11[S10.length]? = some (.lst (rows3 f nmd s)) := c11.at_ _ _ (by omega) (by omega) (by simp)
  have cut : DL.cutD (rows3 f nmd s) none (some (q : Int)) = (rows3 f nmd s).take q := cutD_to _ _
  obtain ⟨R, hR⟩ : ∃ R, R = (rows3 f nmd s).take q := ⟨_, rfl⟩
  have xr : Ex (.tup R) 28 5 := hR ▸ rows_ok xf xs xn
  rw [← hR] at cut
  let L12 : List D := [.tup [.str (Str.ofString "set"), nmd, f], .tup [.str (Str.ofString "pay"), f], .tup [.str (Str.ofString "stop")], .tup [.str (Str.ofString "if"), t, .tup R, .tup []], .tup [.str (Str.ofString "if"), t, .tup [], .tup R]]
  let L13 : List D := [.tup [.str (Str.ofString "we"), .tup R, .tup []], .tup [.str (Str.ofString "we"), .tup [], .tup R], .tup [.str (Str.ofString "they"), .tup R, .tup R], .tup [.str (Str.ofString "they"), .tup [], .tup []]]
  let z12 : Sto := [.lst R, .lst L12, .lst L13, .lst (L12 ++ L13)]
  obtain ⟨r13, S13, e13, r130, r131, k13, c13, _⟩ := draw_ok (many := 10) (k11.app z12) (by unfold B at hn; omega) (by decide) (by decide)
  have il11 := k11.il
  have jl11 := k11.jl
  have h13 : S13[S11.length + 3]? = some (.lst (L12 ++ L13)) := c13.at_ _ _ (by omega) (by omega) (by simp [z12])
  have il13 := k13.il
  have jl13 := k13.jl
  let L14 : List D := [.tup [.str (Str.ofString "repeat"), .int r13, .tup R]]
  obtain ⟨d, S14, e14, m14, k14, c14, _⟩ := one_ok (ds := L12 ++ L13 ++ L14) (l := S13.length + 1) (k13.app [.lst L14, .lst (L12 ++ L13 ++ L14)]) (by omega) (by simp) (by omega) (by omega) (by simp [L12]) (by simp [L12, L13, L14])
  have h13' : ∀ z : Sto, (S13 ++ z)[S11.length + 3]? = some (.lst (L12 ++ L13)) := fun z => Ext.at (S := S13) ⟨z, rfl⟩ h13
  have xd : Ex d 60 9 := by
    have u8 : ∀ {d : D} {n k : Nat}, Ex d n k → k ≤ 8 → Ex d n 8 := fun h hk => h.mono (Nat.le_refl _) hk
    simp only [L12, L13, L14, List.cons_append, List.nil_append, List.mem_cons, List.not_mem_nil, or_false] at m14
    rcases m14 with rfl | rfl | rfl | rfl | rfl | rfl | rfl | rfl | rfl | rfl
    · exact (Ex.tup (.cons (.w "set" (by decide +kernel)) (.cons (u8 xn (by omega)) (.cons (u8 xf (by omega)) .nil))) (by simp)).mono (by omega) (by omega)
    · exact (Ex.tup (.cons (.w "pay" (by decide +kernel)) (.cons (u8 xf (by omega)) .nil)) (by simp)).mono (by omega) (by omega)
    · exact (Ex.tup (k := 8) (.cons (.w "stop" (by decide +kernel)) .nil) (by simp)).mono (by omega) (by omega)
    · exact (Ex.tup (.cons (.w "if" (by decide +kernel)) (.cons (u8 xt (by omega)) (.cons (u8 xr (by omega)) (.cons Ex.e .nil)))) (by simp)).mono (by omega) (by omega)
    · exact (Ex.tup (.cons (.w "if" (by decide +kernel)) (.cons (u8 xt (by omega)) (.cons Ex.e (.cons (u8 xr (by omega)) .nil)))) (by simp)).mono (by omega) (by omega)
    · exact (Ex.tup (.cons (.w "we" (by decide +kernel)) (.cons (u8 xr (by omega)) (.cons Ex.e .nil))) (by simp)).mono (by omega) (by omega)
    · exact (Ex.tup (.cons (.w "we" (by decide +kernel)) (.cons Ex.e (.cons (u8 xr (by omega)) .nil))) (by simp)).mono (by omega) (by omega)
    · exact (Ex.tup (.cons (.w "they" (by decide +kernel)) (.cons (u8 xr (by omega)) (.cons (u8 xr (by omega)) .nil))) (by simp)).mono (by omega) (by omega)
    · exact (Ex.tup (k := 8) (.cons (.w "they" (by decide +kernel)) (.cons Ex.e (.cons Ex.e .nil))) (by simp)).mono (by omega) (by omega)
    · exact (Ex.tup (.cons (.w "repeat" (by decide +kernel)) (.cons (.int (by omega) (by omega)) (.cons (u8 xr (by omega)) .nil))) (by simp)).mono (by omega) (by omega)
  refine ⟨d, S14, _, ?_, xd, k14, by omega, by omega, ?_⟩
  · have nA9 := nm9.ap
    have n9 := nm9.at_
    have hm' : (-1000000 : Int) ≤ (m : Int) ∧ (m : Int) ≤ 1000000 := by omega
    have zl : z1.length + (Str.ofString "ab").length ≤ 100000 := by omega
    simp only [rows3] at e11 h11 cut
    simp only [L8, L10, L12, L13, L14, z12, notT, List.map_cons, List.map_nil, List.cons_append, List.nil_append] at e5 e8 et e10 nA9 n9 e13 h13 h13' e14
    simp only [f_statement, fDef, b__law_statement]
    have e5' := e5
    simp at e5'
    simp [e5', e6, e7, e8, e9, hm, hm', et, n9, nA9, zl, e10, e11, h11, cut, e13, h13, h13', e14]
  · exact ((((((((c5.trans c6).trans c7).trans c8).trans c9).trans c10).trans (Ch.app S10 _)).trans c11).trans (Ch.app S11 _)).trans (c13.trans ((Ch.app S13 _).trans c14))
end K21

set_option Elab.async false
set_option linter.all false
set_option maxRecDepth 100000
set_option maxHeartbeats 4000000
namespace K21
open PySem L2 DL PG PE PyProof.Rows
/-! ### what program_error tells of constants -/
abbrev stm : D := .tup [.int 0, .str (Str.ofString "statement")]
theorem mErr_bad {x : D} {bs : List D} {k : Bool} (h : Shp x bs k) (hk : k = false) : mErr (.tup [x]) = stm := by
  have e := (st_eq (.inl h)).2
  rw [hk] at e
  simp [mErr, mF, mFl, e]
theorem mErr_good {s : Sm} (h : Prog [s]) : mErr (.tup [s.d]) = .non := by
  have := mErr_prog h
  rw [dA, dA] at this
  exact this
abbrev restR (b r : Int) : D := .tup [.str (Str.ofString "if"), .tup [.str (Str.ofString "rest"), .str (Str.ofString "n"), .int b, .int r], .tup [], .tup []]
abbrev timR (a : Int) : D := .tup [.str (Str.ofString "pay"), .tup [.str (Str.ofString "times"), .int a, .str (Str.ofString "n")]]
theorem n_ok : nameOk (Str.ofString "n") = true := by decide +kernel
theorem rest_good {b r : Int} (h : 2 ≤ b ∧ b ≤ 6 ∧ 0 ≤ r ∧ r < b) : mErr (.tup [restR b r]) = .non := by
  have e : restR b r = Sm.d (.iff (.rest (.nm (Str.ofString "n")) b r) [] []) := by simp [Sm.d, Te.d, PG.Ex.d, dA]
  rw [e]
  refine mErr_good ⟨?_, ?_, ?_, ?_, ?_, ?_, ?_⟩
  · simp only [okA, Sm.ok, Te.ok, PG.Ex.ok]
    exact ⟨⟨⟨⟨by omega, n_ok⟩, h.1, h.2.1, h.2.2.1, h.2.2.2⟩, trivial, trivial⟩, trivial⟩
  · simp [hA, hS]
  all_goals simp [cA, cS, Lf.add, u0, u1, teC, Te.isRest]
theorem tim_good {a : Int} (h : -9 ≤ a ∧ a ≤ 9) : mErr (.tup [timR a]) = .non := by
  have e : timR a = Sm.d (.pay (.times a (.nm (Str.ofString "n")))) := by simp [Sm.d, PG.Ex.d]
  rw [e]
  refine mErr_good ⟨?_, ?_, ?_, ?_, ?_, ?_, ?_⟩
  · simp only [okA, Sm.ok, PG.Ex.ok]
    exact ⟨⟨by omega, h.1, h.2, by omega, n_ok⟩, trivial⟩
  · simp [hA, hS]
  all_goals simp [cA, cS, Lf.add, u0, u1]
theorem pay0_good : mErr (.tup [.tup [.str (Str.ofString "pay"), .int 0]]) = .non := by
  have e : (.tup [.str (Str.ofString "pay"), .int 0] : D) = Sm.d (.pay (.int 0)) := by simp [Sm.d, PG.Ex.d]
  rw [e]
  refine mErr_good ⟨?_, ?_, ?_, ?_, ?_, ?_, ?_⟩
  · simp only [okA, Sm.ok, PG.Ex.ok]
    exact ⟨⟨by omega, by omega, by omega⟩, trivial⟩
  · simp [hA, hS]
  all_goals simp [cA, cS, Lf.add, u0, u1]
theorem rest_bad {b r : Int} (h : (mTest 2 (.tup [.str (Str.ofString "rest"), .str (Str.ofString "n"), .int b, .int r])) = false) : mErr (.tup [restR b r]) = stm := mErr_bad (.iff _ _ _) (by rw [h]; rfl)
theorem tim_bad {a : Int} (h : mExpr 3 (.tup [.str (Str.ofString "times"), .int a, .str (Str.ofString "n")]) = false) : mErr (.tup [timR a]) = stm := mErr_bad (.pay _) h
theorem pay_bad : mErr (.tup [.tup [.str (Str.ofString "pay"), .bl false]]) = stm := mErr_bad (.pay _) (by decide +kernel)
def kept : List D := [.str (Str.ofString "set"), .str (Str.ofString "pay"), .str (Str.ofString "stop"), .str (Str.ofString "if"), .str (Str.ofString "else"), .str (Str.ofString "we"), .str (Str.ofString "they"), .str (Str.ofString "or"), .str (Str.ofString "repeat"), .str (Str.ofString "pass"), .str (Str.ofString "rest"), .str (Str.ofString "of"), .str (Str.ofString "not"), .str (Str.ofString "program")]
def rows5 (w : D) : List D := [.tup [.str (Str.ofString "set"), w, .int 1], .tup [.str (Str.ofString "pay"), w], .tup [.str (Str.ofString "if"), .tup [.str (Str.ofString "rest"), w, .int 2, .int 0], .tup [], .tup []], .tup [.str (Str.ofString "pay"), .tup [.str (Str.ofString "plus"), .int 1, w]], .tup [.str (Str.ofString "if"), .tup [.str (Str.ofString "less"), .int 1, w], .tup [], .tup []]]
def badW (w : D) : Bool := !(mName w && mExpr 3 (.int 1)) && !(mExpr 3 w) && !(mTest 2 (.tup [.str (Str.ofString "rest"), w, .int 2, .int 0])) && !(mExpr 3 (.tup [.str (Str.ofString "plus"), .int 1, w])) && !(mTest 2 (.tup [.str (Str.ofString "less"), .int 1, w]))
def okS1000 : D → Bool | .str s => decide (s.length ≤ 1000) | _ => false
theorem kept_bad : (kept.all fun w => badW w && okS1000 w) = true := by decide +kernel
theorem words_bad {w : D} (hw : w ∈ kept) : ∀ r ∈ rows5 w, mErr (.tup [r]) = stm := by
  have h := List.all_eq_true.mp kept_bad w hw
  simp only [badW, Bool.and_eq_true, Bool.not_eq_true'] at h
  obtain ⟨⟨⟨⟨⟨h1, h2⟩, h3⟩, h4⟩, h5⟩, _⟩ := h
  simp only [rows5, List.forall_mem_cons]
  exact ⟨mErr_bad (.set _ _) h1, mErr_bad (.pay _) h2, mErr_bad (.iff _ _ _) (by rw [h3]; rfl), mErr_bad (.pay _) h4, mErr_bad (.iff _ _ _) (by rw [h5]; rfl), fun _ h => absurd h List.not_mem_nil⟩
theorem words_v {w : D} (hw : w ∈ kept) {m : Nat} : vD m w := by
  have h := List.all_eq_true.mp kept_bad w hw
  simp only [Bool.and_eq_true] at h
  cases w with
  | str s => rw [vD]; simpa [okS1000] using h.2
  | _ => exact absurd h.2 (by simp [okS1000])
/-! ### lists of answers -/
structure Kp (l : Nat) (S S' : Sto) : Prop where
  len : S.length ≤ S'.length
  at_ : ∀ (k : Nat) (o : Ob), k ≠ l → S[k]? = some o → S'[k]? = some o
theorem lc_gen {st : Option (Nat × List D)} {i l : Nat} {e : FE} {g : D → D} {δ : DEnv} (hst : ∀ q ds, st = some (q, ds) → q ≠ l) : ∀ (xs : List D) (S : Sto) (acc : List D), stOk st S → S[l]? = some (.lst acc) → acc.length + xs.length < 100000 → (∀ x ∈ xs, ∀ S : Sto, ∃ z, e (δ.set i (some x)) S = some (g x, S ++ z)) →
    ∃ S', lcF st i l fYes e xs δ S = some (.loc l, S') ∧ S'[l]? = some (.lst (acc ++ xs.map g)) ∧ Kp l S S'
  | [], S, acc, h0, h, _, _ => ⟨S, by rw [lcF_nil h0], by simpa using h, Nat.le_refl _, fun _ _ _ h => h⟩
  | x :: xs, S, acc, h0, h, hz, hx => by
    rw [List.length_cons] at hz
    obtain ⟨z, ez⟩ := hx x List.mem_cons_self S
    have hlt : l < S.length := (List.getElem?_eq_some_iff.mp h).1
    have h1 : (S ++ z)[l]? = some (.lst acc) := Ext.at (S := S) ⟨z, rfl⟩ h
    have hlt1 : l < (S ++ z).length := (List.getElem?_eq_some_iff.mp h1).1
    have kp : Kp l S ((S ++ z).set l (.lst (acc ++ [g x]))) := ⟨by simp, fun k o hk hh => by rw [List.getElem?_set_ne (fun z => hk z.symm)]; exact Ext.at (S := S) ⟨z, rfl⟩ hh⟩
    have h0' : stOk st ((S ++ z).set l (.lst (acc ++ [g x]))) := by
      cases st with
      | none => exact h0
      | some p => exact kp.at_ p.1 _ (hst p.1 p.2 rfl) h0
    obtain ⟨S', e', h', k'⟩ := lc_gen hst xs ((S ++ z).set l (.lst (acc ++ [g x]))) (acc ++ [g x]) h0' (List.getElem?_set_self hlt1) (by rw [List.length_append, List.length_singleton]; omega) fun y hy => hx y (List.mem_cons_of_mem _ hy)
    refine ⟨S', ?_, by rw [h', List.append_assoc]; rfl, Nat.le_trans kp.len k'.len, fun k o hk hh => k'.at_ k o hk (kp.at_ k o hk hh)⟩
    have ha : acc.length < 100000 := by omega
    rw [lcF_cons h0]
    simp [ez, h1, ha, e']
theorem repr_c {l : Nat} {S : Sto} {ds : List D} (h : S[l]? = some (.lst ds)) (hc : (lfA ds && (decide (nPA (fPA ds) ≤ 100) && decide (PyData.depthAll (fPA ds) ≤ 10) && lPA (fPA ds))) = true) : bReprD [.loc l] S = some (.str (PyData.list (fPA ds)).shown, S) := by
  simp only [Bool.and_eq_true, decide_eq_true_eq] at hc
  have hl : l < S.length := (List.getElem?_eq_some_iff.mp h).1
  have hp : PV 0 S.length S.length S (.loc l) (.list (fPA ds)) := .lst (Nat.zero_le _) (by omega) (by omega) h (fPA_ok ds hc.1)
  have hb : BdA (fPA ds) 100 (max (mPA (fPA ds)) (fPA ds).length) 10 := ⟨hc.2.1.1, by omega, hc.2.1.2, hc.2.2⟩
  exact bReprD_eq (Bd.shows hp (Bd.lst hb (by omega)) (by omega) (by omega))
theorem oMul_lst {l : Nat} {S : Sto} {a : List D} {k : Int} (h : S[l]? = some (.lst a)) (h1 : -1000 ≤ k ∧ k ≤ 1000) (h2 : a.length ≤ 100) : oMul (.loc l) (.int k) S = some (.loc S.length, S ++ [.lst (List.replicate k.toNat a).flatten]) := by
  unfold oMul
  simp [h, h1, h2]
end K21

set_option Elab.async false
set_option linter.all false
set_option maxRecDepth 100000
set_option maxHeartbeats 4000000
namespace K21
open PySem L2 DL PG PE PyProof.Rows
structure Pr (S S' : Sto) : Prop where
  len : S.length ≤ S'.length
  at_ : ∀ (k : Nat) (o : Ob), S[k]? = some o → S'[k]? = some o
theorem Pr.refl (S : Sto) : Pr S S := ⟨Nat.le_refl _, fun _ _ h => h⟩
theorem Pr.trans {S T U : Sto} (a : Pr S T) (b : Pr T U) : Pr S U := ⟨Nat.le_trans a.len b.len, fun k o h => b.at_ k o (a.at_ k o h)⟩
theorem Pr.app (S z : Sto) : Pr S (S ++ z) := ⟨by simp, fun k o h => Ext.at (S := S) ⟨z, rfl⟩ h⟩
theorem Kp.pr {S z S' : Sto} {l : Nat} (h : Kp l (S ++ z) S') (hl : S.length ≤ l) : Pr S S' := ⟨Nat.le_trans (by simp) h.len, fun k o hk => h.at_ k o (by have := (List.getElem?_eq_some_iff.mp hk).1; omega) (Ext.at (S := S) ⟨z, rfl⟩ hk)⟩
theorem Pr.ch {S S' : Sto} {i j : Nat} (h : Pr S S') : Ch i j S S' := ⟨h.len, fun l o _ _ => h.at_ l o⟩
theorem Pr.dk {S S' : Sto} {i j : Nat} {n : Int} (h : Pr S S') (d : Dk S i j n) : Dk S' i j n := ⟨d.ne, h.at_ _ _ d.deck, let ⟨cs, a, b⟩ := d.cells; ⟨cs, h.at_ _ _ a, b⟩, d.pos⟩
noncomputable def f_edges : Fn := fDef 0 7 (b__law_edges_right f_program_error)
noncomputable abbrev askT : FE := (fCB bReprD (fCons (fLc (fiAny (fVar 1)) 6 fYes (fCall f_program_error (fCons (fTup (fCons (fVar 6) fNil)) fNil))) fNil))
noncomputable abbrev fourT : FE := (fCB bReprD (fCons (fOp oAdd (fOp oMul (fLst (fCons (fTup (fCons (fC (.int 0)) (fCons (fC (.str "statement")) fNil))) fNil)) (fC (.int 2))) (fOp oMul (fLst (fCons (fC .non) fNil)) (fC (.int 2)))) fNil))
abbrev four : List D := [stm, stm, .non, .non]
theorem four_ev {δ : DEnv} {S : Sto} : ∃ S', fourT δ S = some (.str (PyData.list (fPA four)).shown, S') ∧ Pr S S' := by
  have m1 := oMul_lst (l := S.length) (S := S ++ [.lst [stm]]) (a := [stm]) (k := 2) (by simp) (by omega) (by simp)
  have m2 := oMul_lst (l := S.length + 2) (S := S ++ [.lst [stm], .lst [stm, stm], .lst [.non]]) (a := [.non]) (k := 2) (by simp) (by omega) (by simp)
  have r := repr_c (l := S.length + 4) (S := S ++ [.lst [stm], .lst [stm, stm], .lst [.non], .lst [.non, .non], .lst four]) (ds := four) (by simp) (by decide +kernel)
  simp [List.replicate] at m1 m2
  exact ⟨S ++ [.lst [stm], .lst [stm, stm], .lst [.non], .lst [.non, .non], .lst four], by simp [m1, m2, r], .app S _⟩
theorem ask_ev {δ : DEnv} {S : Sto} {q : Nat} {xs : List D} (hq : δ[1]? = some (some (.loc q))) (h6 : δ.length = 7) (hs : S[q]? = some (.lst xs)) (hl : xs.length < 1000) (hv : ∀ x ∈ xs, lf x = true ∧ mP (fP x) ≤ 1000) (hm : xs.map (fun x => mErr (.tup [x])) = four) : ∃ S', askT δ S = some (.str (PyData.list (fPA four)).shown, S') ∧ Pr S S' := by
  have hlt : q < S.length := (List.getElem?_eq_some_iff.mp hs).1
  obtain ⟨a0, a1, a2, a3, a4, a5, a6, rfl⟩ : ∃ a0 a1 a2 a3 a4 a5 a6, δ = [a0, a1, a2, a3, a4, a5, a6] := by
    match δ, h6 with
    | [a0, a1, a2, a3, a4, a5, a6], _ => exact ⟨a0, a1, a2, a3, a4, a5, a6, rfl⟩
  simp at hq
  subst hq
  obtain ⟨S', e', h', kp'⟩ := lc_gen (st := some (q, xs)) (i := 6) (l := S.length) (e := fCall f_program_error (fCons (fTup (fCons (fVar 6) fNil)) fNil)) (g := fun x => mErr (.tup [x])) (δ := [a0, some (.loc q), a2, a3, a4, a5, none]) (fun q' ds h => by cases h; omega) xs (S ++ [Ob.lst []]) [] (show (S ++ [Ob.lst []])[q]? = some (.lst xs) from Ext.at (S := S) ⟨_, rfl⟩ hs) (by simp) (by simp; omega) (fun x hx S => by
    obtain ⟨z, e⟩ := program_error_ok (d := .tup [x]) (S := S) (by
      rw [vD, vA, vA]
      exact ⟨by simp, (fP_ok (lo := 0) (i := S.length) (j := S.length) x (hv x hx).1).v (hv x hx).2, trivial⟩)
    exact ⟨z, by simp [e]⟩)
  rw [List.nil_append, hm] at h'
  have r := repr_c h' (by decide +kernel)
  exact ⟨S', by simp [hs, e', r], kp'.pr (Nat.le_refl _)⟩
noncomputable abbrev edgeT : FS := (fsSeq (fsAsg (fLc (fiAny (fLst (fCons (fVar 0) (fCons (fNeg (fC (.int 1))) (fCons (fOp (oI0 fun i j => .int (i - j)) (fVar 0) (fC (.int 1))) (fCons (fC (.int 0)) fNil)))))) 5 fYes (fTup (fCons (fC (.str "if")) (fCons (fTup (fCons (fC (.str "rest")) (fCons (fC (.str "n")) (fCons (fVar 0) (fCons (fVar 5) fNil))))) (fCons (fTup fNil) (fCons (fTup fNil) fNil)))))) (fgName 1))
    (fsIf (fTest (fOp (oEq not) askT fourT)) (fsRet (fC (.bl false))) fsNext))
theorem rest_edges : ([2, 3, 4, 5, 6].all fun b : Int => !(mTest 2 (.tup [.str (Str.ofString "rest"), .str (Str.ofString "n"), .int b, .int b])) && !(mTest 2 (.tup [.str (Str.ofString "rest"), .str (Str.ofString "n"), .int b, .int (-1)]))) = true := by decide +kernel
theorem rest_lf : ([2, 3, 4, 5, 6].all fun b : Int => [b, -1, b - 1, 0].all fun r => lf (restR b r) && decide (mP (fP (restR b r)) ≤ 1000)) = true := by decide +kernel
theorem edge_turn {S : Sto} {b : Int} {a1 : Option D} (hb : b ∈ [2, 3, 4, 5, 6]) : ∃ S' b1, edgeT [some (.int b), a1, none, none, none, none, none] S = some (.nx [some (.int b), b1, none, none, none, none, none], S') ∧ Pr S S' := by
  let xs : List D := [.int b, .int (-1), .int (b - 1), .int 0]
  obtain ⟨S1, e1, h1, kp1⟩ := lc_gen (st := some (S.length, xs)) (i := 5) (l := S.length + 1) (e := (fTup (fCons (fC (.str "if")) (fCons (fTup (fCons (fC (.str "rest")) (fCons (fC (.str "n")) (fCons (fVar 0) (fCons (fVar 5) fNil))))) (fCons (fTup fNil) (fCons (fTup fNil) fNil)))))) (g := fun x => .tup [.str (Str.ofString "if"), .tup [.str (Str.ofString "rest"), .str (Str.ofString "n"), .int b, x], .tup [], .tup []]) (δ := [some (.int b), a1, none, none, none, none, none]) (fun q' ds h => by cases h; omega) xs (S ++ [Ob.lst xs, Ob.lst []]) [] (show (S ++ [Ob.lst xs, Ob.lst []])[S.length]? = some (.lst xs) by simp) (by simp) (by simp [xs]) (fun x hx S => ⟨[], by simp⟩)
  rw [List.nil_append] at h1
  have hE := List.all_eq_true.mp rest_edges b hb
  have hL := List.all_eq_true.mp rest_lf b hb
  simp only [Bool.and_eq_true, Bool.not_eq_true', List.all_eq_true, decide_eq_true_eq, List.forall_mem_cons] at hE hL
  have hb' : 2 ≤ b ∧ b ≤ 6 := by
    simp only [List.mem_cons, List.not_mem_nil, or_false] at hb
    omega
  obtain ⟨S2, e2, p2⟩ := ask_ev (δ := [some (.int b), some (.loc (S.length + 1)), none, none, none, none, none]) (S := S1) rfl rfl h1 (by simp [xs]) (by
    simp only [xs, List.map_cons, List.map_nil, List.forall_mem_cons]
    exact ⟨hL.1, hL.2.1, hL.2.2.1, hL.2.2.2.1, fun _ h => absurd h List.not_mem_nil⟩) (by
    simp only [xs, List.map_cons, List.map_nil]
    rw [rest_bad hE.1, rest_bad hE.2, rest_good ⟨hb'.1, hb'.2, by omega, by omega⟩, rest_good ⟨hb'.1, hb'.2, by omega, by omega⟩])
  obtain ⟨S3, e3, p3⟩ := four_ev (δ := [some (.int b), some (.loc (S.length + 1)), none, none, none, none, none]) (S := S2)
  refine ⟨S3, some (.loc (S.length + 1)), ?_, ((kp1.pr (by omega)).trans p2).trans p3⟩
  simp only [xs] at e1
  have hcmp : fOp (oEq not) askT fourT [some (.int b), some (.loc (S.length + 1)), none, none, none, none, none] S1 = some (.bl false, S3) := by
    rw [fOp_ev, e2, opK_1, e3, opK2_1]
    simp
  have hgo : (fsIf (fTest (fOp (oEq not) askT fourT)) (fsRet (fC (.bl false))) fsNext) [some (.int b), some (.loc (S.length + 1)), none, none, none, none, none] S1 = some (.nx [some (.int b), some (.loc (S.length + 1)), none, none, none, none, none], S3) := by
    rw [fsIf_ev, fTest_ev, hcmp]
    simp
  unfold edgeT
  rw [fsSeq_ev]
  simp [-fsIf_ev, e1, hgo]
theorem edge_loop : ∀ (xs : List D), (∀ x ∈ xs, ∃ b : Int, x = .int b ∧ b ∈ [2, 3, 4, 5, 6]) → ∀ (S : Sto) (a0 a1 : Option D), ∃ S' b0 b1, forF none (fgName 0) edgeT xs [a0, a1, none, none, none, none, none] S = some (.nx [b0, b1, none, none, none, none, none], S') ∧ Pr S S'
  | [], _, S, a0, a1 => ⟨S, a0, a1, by simp, .refl S⟩
  | x :: xs, h, S, a0, a1 => by
    obtain ⟨b, rfl, hb⟩ := h x List.mem_cons_self
    obtain ⟨S1, b1, e1, p1⟩ := edge_turn (S := S) (a1 := a1) hb
    obtain ⟨S2, c0, c1, e2, p2⟩ := edge_loop xs (fun y hy => h y (List.mem_cons_of_mem _ hy)) S1 (some (.int b)) b1
    refine ⟨S2, c0, c1, ?_, p1.trans p2⟩
    rw [forF_cons0]
    have g : fgName 0 (D.int b) [a0, a1, none, none, none, none, none] S = some ([some (.int b), a1, none, none, none, none, none], S) := by simp
    rw [g]
    unfold forK
    simp only [e1]
    exact e2
abbrev three : List D := [.non, stm, .non]
theorem times_bad : (!(mExpr 3 (.tup [.str (Str.ofString "times"), .int (-10), .str (Str.ofString "n")])) && !(mExpr 3 (.tup [.str (Str.ofString "times"), .int 10, .str (Str.ofString "n")]))) = true := by decide +kernel
theorem times_lf : ([-10, 10, -9, 9].all fun r => lf (timR r) && decide (mP (fP (timR r)) ≤ 1000)) = true := by decide +kernel
theorem edges_ok {S : Sto} : ∃ S', f_edges [] S = some (.bl true, S') ∧ Pr S S' := by
  obtain ⟨S1, b0, b1, e1, p1⟩ := edge_loop (rangeD 2 5) (by
    have : rangeD 2 5 = [.int 2, .int 3, .int 4, .int 5, .int 6] := rfl
    rw [this]
    simp) S none none
  let xs : List D := [.int (-10), .int 10, .int (-9), .int 9]
  obtain ⟨S2, e2, h2, kp2⟩ := lc_gen (st := some (S1.length, xs)) (i := 3) (l := S1.length + 1) (e := (fTup (fCons (fC (.str "pay")) (fCons (fTup (fCons (fC (.str "times")) (fCons (fVar 3) (fCons (fC (.str "n")) fNil)))) fNil)))) (g := fun x => .tup [.str (Str.ofString "pay"), .tup [.str (Str.ofString "times"), x, .str (Str.ofString "n")]]) (δ := [b0, b1, none, none, none, none, none]) (fun q' ds h => by cases h; omega) xs (S1 ++ [Ob.lst xs, Ob.lst []]) [] (show (S1 ++ [Ob.lst xs, Ob.lst []])[S1.length]? = some (.lst xs) by simp) (by simp) (by simp [xs]) (fun x hx S => ⟨[], by simp⟩)
  rw [List.nil_append] at h2
  have hE := times_bad
  have hL := times_lf
  simp only [Bool.and_eq_true, Bool.not_eq_true', List.all_eq_true, decide_eq_true_eq, List.forall_mem_cons] at hE hL
  obtain ⟨S3, e3, p3⟩ := ask_ev (δ := [b0, some (.loc (S1.length + 1)), none, none, none, none, none]) (S := S2) rfl rfl h2 (by simp [xs]) (by
    simp only [xs, List.map_cons, List.map_nil, List.forall_mem_cons]
    exact ⟨hL.1, hL.2.1, hL.2.2.1, hL.2.2.2.1, fun _ h => absurd h List.not_mem_nil⟩) (by
    simp only [xs, List.map_cons, List.map_nil]
    rw [tim_bad hE.1, tim_bad hE.2, tim_good (by omega), tim_good (by omega)])
  obtain ⟨S4, e4, p4⟩ := four_ev (δ := [b0, some (.loc (S1.length + 1)), none, none, none, none, none]) (S := S3)
  have hcmp : fOp (oEq not) askT fourT [b0, some (.loc (S1.length + 1)), none, none, none, none, none] S2 = some (.bl false, S4) := by
    rw [fOp_ev, e3, opK_1, e4, opK2_1]
    simp
  have hgo : (fsIf (fTest (fOp (oEq not) askT fourT)) (fsRet (fC (.bl false))) fsNext) [b0, some (.loc (S1.length + 1)), none, none, none, none, none] S2 = some (.nx [b0, some (.loc (S1.length + 1)), none, none, none, none, none], S4) := by
    rw [fsIf_ev, fTest_ev, hcmp]
    simp
  let ys : List D := [.int 0, .bl false, .int 0]
  obtain ⟨S5, e5, h5, kp5⟩ := lc_gen (st := some (S4.length, ys)) (i := 4) (l := S4.length + 1) (e := (fCall f_program_error (fCons (fTup (fCons (fTup (fCons (fC (.str "pay")) (fCons (fVar 4) fNil))) fNil)) fNil))) (g := fun x => mErr (.tup [.tup [.str (Str.ofString "pay"), x]])) (δ := [b0, some (.loc (S1.length + 1)), none, none, none, none, none]) (fun q' ds h => by cases h; omega) ys (S4 ++ [Ob.lst ys, Ob.lst []]) [] (show (S4 ++ [Ob.lst ys, Ob.lst []])[S4.length]? = some (.lst ys) by simp) (by simp) (by simp [ys]) (fun x hx S => by
    obtain ⟨z, e⟩ := program_error_ok (d := .tup [.tup [.str (Str.ofString "pay"), x]]) (S := S) (by
      have hp : (Str.ofString "pay").length ≤ 1000 := by decide +kernel
      simp only [ys, List.mem_cons, List.not_mem_nil, or_false] at hx
      rcases hx with rfl | rfl | rfl <;> simp [vD, vA, hp])
    exact ⟨z, by simp [e]⟩)
  have hm : ys.map (fun x => mErr (.tup [.tup [.str (Str.ofString "pay"), x]])) = three := by
    simp only [ys, List.map_cons, List.map_nil]
    rw [pay0_good, pay_bad]
  rw [List.nil_append, hm] at h5
  have r5 := repr_c h5 (by decide +kernel)
  have r6 := repr_c (l := S5.length) (S := S5 ++ [.lst three]) (ds := three) (by simp) (by decide +kernel)
  refine ⟨S5 ++ [.lst three], ?_, ((((p1.trans (kp2.pr (by omega))).trans p3).trans p4).trans (kp5.pr (by omega))).trans (.app S5 _)⟩
  simp only [xs, ys, edgeT, askT, fourT] at e1 e2 e5 hgo
  simp only [f_edges, fDef, b__law_edges_right]
  simp [-forF_cons0, -fsIf_ev, e1, e2, hgo, e5, r5, r6]
end K21

set_option Elab.async false
set_option linter.all false
set_option maxRecDepth 100000
set_option maxHeartbeats 4000000
namespace K21
open PySem L2 DL PG PE PyProof.Rows
/-! ### the kept words -/
noncomputable abbrev rowT : FS := (fsIf (fTest (fOp (oEq not) (fCB bReprD (fCons (fCall f_program_error (fCons (fTup (fCons (fVar 6) fNil)) fNil)) fNil)) (fCB bReprD (fCons (fTup (fCons (fC (.int 0)) (fCons (fC (.str "statement")) fNil))) fNil)))) (fsRet (fC (.bl false))) fsNext)
theorem stm_shown {S : Sto} : bReprD [stm] S = some (.str (fP stm).shown, S) := bReprD_eq (c_shows (by decide +kernel))
theorem row_loop {L : Nat} {ds0 : List D} {a0 a1 a2 a3 a4 a5 a7 a8 a9 a10 : Option D} : ∀ (xs : List D) (S : Sto) (a6 : Option D), (∀ v ∈ xs, mErr (.tup [v]) = stm ∧ ∀ m, vD m v) → S[L]? = some (.lst ds0) →
    ∃ S' b6, forF (some (L, ds0)) (fgName 6) rowT xs [a0, a1, a2, a3, a4, a5, a6, a7, a8, a9, a10] S = some (.nx [a0, a1, a2, a3, a4, a5, b6, a7, a8, a9, a10], S') ∧ Ext S S'
  | [], S, a6, _, h => ⟨S, a6, by rw [forF_nil (show stOk (some (L, ds0)) S from h)], .refl S⟩
  | v :: xs, S, a6, hg, h => by
    obtain ⟨hm, hv⟩ := hg v List.mem_cons_self
    obtain ⟨z, e⟩ := program_error_ok (d := .tup [v]) (S := S) (by rw [vD, vA, vA]; exact ⟨by simp, hv _, trivial⟩)
    rw [hm] at e
    obtain ⟨S', b6, e', x'⟩ := row_loop (L := L) (ds0 := ds0) (a0 := a0) (a1 := a1) (a2 := a2) (a3 := a3) (a4 := a4) (a5 := a5) (a7 := a7) (a8 := a8) (a9 := a9) (a10 := a10) xs (S ++ z) (some v) (fun y hy => hg y (List.mem_cons_of_mem _ hy)) (Ext.at (S := S) ⟨z, rfl⟩ h)
    refine ⟨S', b6, ?_, Ext.trans ⟨z, rfl⟩ x'⟩
    rw [forF_cons (show stOk (some (L, ds0)) S from h)]
    have sh := @stm_shown
    simp [e, sh, e']
noncomputable abbrev wordT : FS := (fsSeq (fsAsg (fLst (fCons (fTup (fCons (fC (.str "set")) (fCons (fVar 4) (fCons (fC (.int 1)) fNil)))) (fCons (fTup (fCons (fC (.str "pay")) (fCons (fVar 4) fNil))) (fCons (fTup (fCons (fC (.str "if")) (fCons (fTup (fCons (fC (.str "rest")) (fCons (fVar 4) (fCons (fC (.int 2)) (fCons (fC (.int 0)) fNil))))) (fCons (fTup fNil) (fCons (fTup fNil) fNil))))) (fCons (fTup (fCons (fC (.str "pay")) (fCons (fTup (fCons (fC (.str "plus")) (fCons (fC (.int 1)) (fCons (fVar 4) fNil)))) fNil))) fNil))))) (fgName 5))
    (fsFor (fiAny (fOp oAdd (fVar 5) (fLst (fCons (fTup (fCons (fC (.str "if")) (fCons (fTup (fCons (fC (.str "less")) (fCons (fC (.int 1)) (fCons (fVar 4) fNil)))) (fCons (fTup fNil) (fCons (fTup fNil) fNil))))) fNil)))) (fgName 6) rowT))
theorem rows_v {w : D} (hw : w ∈ kept) : ∀ r ∈ rows5 w, ∀ m, vD m r := by
  have c : ∀ s : String, decide ((Str.ofString s).length ≤ 1000) = true → ∀ m, vD m (.str (Str.ofString s)) := fun s h m => by rw [vD]; simpa using h
  have h1 := c "set" (by decide +kernel)
  have h2 := c "pay" (by decide +kernel)
  have h3 := c "if" (by decide +kernel)
  have h4 := c "rest" (by decide +kernel)
  have h5 := c "plus" (by decide +kernel)
  have h6 := c "less" (by decide +kernel)
  have hv : ∀ m, vD m w := fun m => words_v hw
  have hi : ∀ (k : Int) m, vD m (.int k) := fun k m => by rw [vD]; trivial
  have he : ∀ m, vD m (.tup []) := fun m => by rw [vD, vA]; exact ⟨by simp, trivial⟩
  have ht : ∀ (ds : List D) m, ds.length ≤ 1000 → vA m ds → vD m (.tup ds) := fun ds m a b => by rw [vD]; exact ⟨a, b⟩
  have hn : ∀ m, vA m [] := fun m => by rw [vA]; trivial
  have hc : ∀ (d : D) (ds : List D) m, vD m d → vA m ds → vA m (d :: ds) := fun d ds m a b => by rw [vA]; exact ⟨a, b⟩
  simp only [rows5, List.forall_mem_cons]
  refine ⟨fun m => ht _ m (by simp) (hc _ _ m (h1 m) (hc _ _ m (hv m) (hc _ _ m (hi 1 m) (hn m)))), fun m => ht _ m (by simp) (hc _ _ m (h2 m) (hc _ _ m (hv m) (hn m))), fun m => ht _ m (by simp) (hc _ _ m (h3 m) (hc _ _ m (ht _ m (by simp) (hc _ _ m (h4 m) (hc _ _ m (hv m) (hc _ _ m (hi 2 m) (hc _ _ m (hi 0 m) (hn m)))))) (hc _ _ m (he m) (hc _ _ m (he m) (hn m))))), fun m => ht _ m (by simp) (hc _ _ m (h2 m) (hc _ _ m (ht _ m (by simp) (hc _ _ m (h5 m) (hc _ _ m (hi 1 m) (hc _ _ m (hv m) (hn m))))) (hn m))), fun m => ht _ m (by simp) (hc _ _ m (h3 m) (hc _ _ m (ht _ m (by simp) (hc _ _ m (h6 m) (hc _ _ m (hi 1 m) (hc _ _ m (hv m) (hn m))))) (hc _ _ m (he m) (hc _ _ m (he m) (hn m))))), fun _ h => absurd h List.not_mem_nil⟩
theorem word_loop {L : Nat} {ds0 : List D} {a0 a1 a2 a3 a7 a8 a9 a10 : Option D} : ∀ (xs : List D) (S : Sto) (a4 a5 a6 : Option D), (∀ v ∈ xs, v ∈ kept) → S[L]? = some (.lst ds0) →
    ∃ S' b4 b5 b6, forF (some (L, ds0)) (fgName 4) wordT xs [a0, a1, a2, a3, a4, a5, a6, a7, a8, a9, a10] S = some (.nx [a0, a1, a2, a3, b4, b5, b6, a7, a8, a9, a10], S') ∧ Ext S S'
  | [], S, a4, a5, a6, _, h => ⟨S, a4, a5, a6, by rw [forF_nil (show stOk (some (L, ds0)) S from h)], .refl S⟩
  | v :: xs, S, a4, a5, a6, hg, h => by
    have hk := hg v List.mem_cons_self
    let r4 : List D := [.tup [.str (Str.ofString "set"), v, .int 1], .tup [.str (Str.ofString "pay"), v], .tup [.str (Str.ofString "if"), .tup [.str (Str.ofString "rest"), v, .int 2, .int 0], .tup [], .tup []], .tup [.str (Str.ofString "pay"), .tup [.str (Str.ofString "plus"), .int 1, v]]]
    let r1 : List D := [.tup [.str (Str.ofString "if"), .tup [.str (Str.ofString "less"), .int 1, v], .tup [], .tup []]]
    let z : Sto := [.lst r4, .lst r1, .lst (rows5 v)]
    obtain ⟨S1, b6, e1, x1⟩ := row_loop (L := S.length + 2) (ds0 := rows5 v) (a0 := a0) (a1 := a1) (a2 := a2) (a3 := a3) (a4 := some v) (a5 := some (.loc S.length)) (a7 := a7) (a8 := a8) (a9 := a9) (a10 := a10) (rows5 v) (S ++ z) a6 (fun r hr => ⟨words_bad hk r hr, rows_v hk r hr⟩) (by simp [z])
    have X1 : Ext S S1 := Ext.trans ⟨z, rfl⟩ x1
    obtain ⟨S', c4, c5, c6, e', x'⟩ := word_loop (L := L) (ds0 := ds0) (a0 := a0) (a1 := a1) (a2 := a2) (a3 := a3) (a7 := a7) (a8 := a8) (a9 := a9) (a10 := a10) xs S1 (some v) (some (.loc S.length)) b6 (fun y hy => hg y (List.mem_cons_of_mem _ hy)) (X1.at h)
    refine ⟨S', c4, c5, c6, ?_, X1.trans x'⟩
    rw [forF_cons (show stOk (some (L, ds0)) S from h)]
    simp only [z, r4, r1, rows5] at e1
    simp [-forF_cons0, -fsIf_ev, e1, e']
/-! ### each value -/
def Good (lo i j : Nat) (S : Sto) (v : D) : Prop := ∃ p, PV lo i j S v p ∧ Bd p 900 30 55
theorem Good.mono {lo i j : Nat} {S S' : Sto} {d : D} (c : Ch i j S S') (h : Good lo i j S d) : Good lo i j S' d := let ⟨p, a, b⟩ := h; ⟨p, a.mono c, b⟩
noncomputable abbrev valT : FS := (fsSeq (fsAsg (fCB bReprD (fCons (fVar 9) fNil)) (fgName 10))
    (fsIf (fOr (fTest (fOp (oEq not) (fCB bReprD (fCons (fCall f_program_error (fCons (fTup (fCons (fVar 9) fNil)) fNil)) fNil)) (fCB bReprD (fCons (fCall l_error (fCons (fTup (fCons (fVar 9) fNil)) fNil)) fNil)))) (fTest (fOp (oEq not) (fCB bReprD (fCons (fVar 9) fNil)) (fVar 10)))) (fsRet (fC (.bl false))) fsNext))
theorem val_loop {lo i j L : Nat} {ds0 : List D} {a0 a1 a2 a3 a4 a5 a6 a7 a8 : Option D} : ∀ (xs : List D) (S : Sto) (a9 a10 : Option D), (∀ v ∈ xs, Good lo i j S v) → S[L]? = some (.lst ds0) →
    ∃ S' b9 b10, forF (some (L, ds0)) (fgName 9) valT xs [a0, a1, a2, a3, a4, a5, a6, a7, a8, a9, a10] S = some (.nx [a0, a1, a2, a3, a4, a5, a6, a7, a8, b9, b10], S') ∧ Ext S S'
  | [], S, a9, a10, _, h => ⟨S, a9, a10, by rw [forF_nil (show stOk (some (L, ds0)) S from h)], .refl S⟩
  | v :: xs, S, a9, a10, hg, h => by
    obtain ⟨p, hv, hb⟩ := hg v List.mem_cons_self
    have hsz : szD v ≤ 900 := Nat.le_trans hv.sz hb.n
    have hsz' : szD (.tup [v]) ≤ 1000 := by simp only [szD, szA]; omega
    have hvd : ∀ S', Ext S S' → vD S'.length (.tup [v]) := fun S' e => by
      rw [vD, vA, vA]
      exact ⟨by simp, (hv.mono (.ext e)).v (Nat.le_trans hb.m (by omega)), trivial⟩
    have sh : ∀ S', Ext S S' → bReprD [v] S' = some (.str p.shown, S') := fun S' e => bReprD_eq (Bd.shows (hv.mono (.ext e)) hb (by omega) (by omega))
    have she : ∀ S', bReprD [mErr (.tup [v])] S' = some (.str (fP (mErr (.tup [v]))).shown, S') := fun S' => bReprD_eq (mErr_shows (by omega))
    have s0 := sh S (.refl S)
    obtain ⟨z1, e1⟩ := program_error_ok (hvd S (.refl S))
    obtain ⟨S2, e2, x2⟩ := l_error_ok (hvd (S ++ z1) ⟨z1, rfl⟩) (by omega)
    have X2 : Ext S S2 := Ext.trans ⟨z1, rfl⟩ x2
    have s2 := sh S2 X2
    obtain ⟨S', b9, b10, e', x'⟩ := val_loop (lo := lo) (i := i) (j := j) (ds0 := ds0) (a0 := a0) (a1 := a1) (a2 := a2) (a3 := a3) (a4 := a4) (a5 := a5) (a6 := a6) (a7 := a7) (a8 := a8) xs S2 (some v) (some (.str p.shown)) (fun y hy => (hg y (List.mem_cons_of_mem _ hy)).mono (.ext X2)) (X2.at h)
    refine ⟨S', b9, b10, ?_, X2.trans x'⟩
    rw [forF_cons (show stOk (some (L, ds0)) S from h)]
    simp [s0, e1, she, e2, s2, e']
noncomputable abbrev turnT : FS := (fsSeq (fsAsg (fCall f_statement (fCons (fVar 1) (fCons (fVar 2) fNil))) (fgName 6))
    (fsSeq (fsAsg (fCall (f_bent 7) (fCons (fVar 1) (fCons (fVar 6) (fCons (fC (.int 6)) fNil)))) (fgName 8))
    (fsFor (fiAny (fLst (fCons (fVar 6) (fCons (fVar 8) (fCons (fCall (f_bent 7) (fCons (fVar 1) (fCons (fVar 8) (fCons (fC (.int 6)) fNil)))) (fCons (fCall f_odd (fCons (fVar 1) fNil)) fNil)))))) (fgName 9) valT)))
theorem turn_ok {i j l : Nat} {zs : List Str} {S : Sto} {n : Int} {a0 a3 a4 a5 a6 a7 a8 a9 a10 : Option D} (nm : NM S i j l zs) (hd : Dk S i j n) (hn : n + 300 ≤ B) :
    ∃ S' n' b6 b8 b9 b10, turnT [a0, some (.loc i), some (.loc l), a3, a4, a5, a6, a7, a8, a9, a10] S = some (.nx [a0, some (.loc i), some (.loc l), a3, a4, a5, b6, a7, b8, b9, b10], S') ∧ Dk S' i j n' ∧ NM S' i j l zs ∧ n ≤ n' ∧ n' ≤ n + 300 := by
  obtain ⟨d1, S1, n1, e1, x1, k1, l1, u1, c1⟩ := statement_ok nm hd (by omega)
  obtain ⟨v2, p2, S2, n2, e2, pv2, bd2, k2, l2, u2, c2⟩ := bent_ok (lo := 0) (i := i) (j := j) 6 6 (Nat.le_refl _) d1 _ S1 n1 60 20 9 (Nat.zero_le _) k1 (by omega) (fP_ok d1 x1.lf) x1.bd (by omega) (by omega)
  have e2 : f_bent 7 [.loc i, d1, .int 6] S1 = some (v2, S2) := e2
  obtain ⟨v3, p3, S3, n3, e3, pv3, bd3, k3, l3, u3, c3⟩ := bent_ok (lo := 0) (i := i) (j := j) 6 6 (Nat.le_refl _) v2 _ S2 n2 320 21 24 (Nat.zero_le _) k2 (by omega) pv2 (bd2.mono (by omega) (by omega) (by omega)) (by omega) (by omega)
  have e3 : f_bent 7 [.loc i, v2, .int 6] S2 = some (v3, S3) := e3
  obtain ⟨v4, S4, e4, ⟨p4, pv4, bd4⟩, k4, c4⟩ := odd_ok (lo := 0) (Nat.zero_le _) k3 (by omega)
  let vals : List D := [d1, v2, v3, v4]
  have c5 : Ch i j S4 (S4 ++ [.lst vals]) := .app S4 _
  obtain ⟨S5, b9, b10, e5, x5⟩ := val_loop (lo := 0) (i := i) (j := j) (L := S4.length) (ds0 := vals) (a0 := a0) (a1 := some (.loc i)) (a2 := some (.loc l)) (a3 := a3) (a4 := a4) (a5 := a5) (a6 := some d1) (a7 := a7) (a8 := some v2) vals (S4 ++ [.lst vals]) a9 a10 (by
    simp only [vals, List.forall_mem_cons]
    exact ⟨⟨_, fP_ok d1 x1.lf, x1.bd.mono (by omega) (by omega) (by omega)⟩, ⟨_, ((pv2.mono c3).mono c4).mono c5, bd2.mono (by omega) (by omega) (by omega)⟩, ⟨_, (pv3.mono c4).mono c5, bd3.mono (by omega) (by omega) (by omega)⟩, ⟨_, pv4.mono c5, bd4.mono (by omega) (by omega) (by omega)⟩, fun _ h => absurd h List.not_mem_nil⟩) (by simp)
  refine ⟨S5, _, some d1, some v2, b9, b10, ?_, (k4.app _).ext x5, ((((nm.ch c1).ch c2).ch c3).ch c4).ch (c5.trans (.ext x5)), by omega, by omega⟩
  simp only [vals] at e5
  simp [-forF_cons0, -fsIf_ev, e1, e2, e3, e4, e5]
theorem turns_ok {i j l : Nat} {zs : List Str} {a0 a3 a4 a5 : Option D} : ∀ (xs : List D) (S : Sto) (n : Int) (a6 a7 a8 a9 a10 : Option D), NM S i j l zs → Dk S i j n → n + 300 * (xs.length : Int) ≤ B →
    ∃ S' b6 b7 b8 b9 b10, forF none (fgName 7) turnT xs [a0, some (.loc i), some (.loc l), a3, a4, a5, a6, a7, a8, a9, a10] S = some (.nx [a0, some (.loc i), some (.loc l), a3, a4, a5, b6, b7, b8, b9, b10], S')
  | [], S, n, a6, a7, a8, a9, a10, _, _, _ => ⟨S, a6, a7, a8, a9, a10, by simp⟩
  | x :: xs, S, n, a6, a7, a8, a9, a10, nm, hd, hn => by
    rw [List.length_cons] at hn
    obtain ⟨S1, n1, b6, b8, b9, b10, e1, d1, nm1, m1, u1⟩ := turn_ok (a0 := a0) (a3 := a3) (a4 := a4) (a5 := a5) (a6 := a6) (a7 := some x) (a8 := a8) (a9 := a9) (a10 := a10) nm hd (by omega)
    obtain ⟨S2, c6, c7, c8, c9, c10, e2⟩ := turns_ok (a0 := a0) (a3 := a3) (a4 := a4) (a5 := a5) xs S1 n1 b6 (some x) b8 b9 b10 nm1 d1 (by omega)
    refine ⟨S2, c6, c7, c8, c9, c10, ?_⟩
    rw [forF_cons0]
    have g : (fgName 7 x [a0, some (.loc i), some (.loc l), a3, a4, a5, a6, a7, a8, a9, a10] S) = some ([a0, some (.loc i), some (.loc l), a3, a4, a5, a6, some x, a8, a9, a10], S) := by simp
    rw [g]
    unfold forK
    simp only [e1]
    exact e2
noncomputable def f_law : Fn := fDef 1 11 (b_law (f_bent 7) f_odd f_program_error l_error f_statement f_edges f_names f_deck)
theorem law_ok {ns : List Int} {S : Sto} (h : ns.length ≤ 63) : ∃ S', f_law [.scr ns] S = some (.bl true, S') := by
  obtain ⟨S1, e1, d1, x1⟩ := deck_ok (S := S) h
  obtain ⟨l, zs, S2, n2, e2, h2, len2, ok2, ll2, d2, m2, u2, c2⟩ := names_ok d1 (by unfold B; omega)
  have il := d1.il
  have jl := d1.jl
  have nm2 : NM S2 (S.length + 2) (S.length + 1) l zs := ⟨by omega, by omega, h2, len2, ok2⟩
  obtain ⟨S3, e3, p3⟩ := edges_ok (S := S2)
  have d3 := p3.dk d2
  have nm3 := nm2.ch (p3.ch)
  obtain ⟨S4, b4, b5, b6, e4, x4⟩ := word_loop (L := S3.length) (ds0 := kept) (a0 := some (.scr ns)) (a1 := some (.loc (S.length + 2))) (a2 := some (.loc l)) (a3 := some (.loc S3.length)) (a7 := none) (a8 := none) (a9 := none) (a10 := none) kept (S3 ++ [.lst kept]) none none none (fun v h => h) (by simp)
  have X4 : Ext S3 S4 := Ext.trans ⟨_, rfl⟩ x4
  obtain ⟨S5, c6, c7, c8, c9, c10, e5⟩ := turns_ok (a0 := some (.scr ns)) (a3 := some (.loc S3.length)) (a4 := b4) (a5 := b5) (rangeD 0 16) S4 n2 b6 none none none none (nm3.ch (.ext X4)) (d3.ext X4) (by simp [rangeD, B]; omega)
  refine ⟨S5, ?_⟩
  simp only [wordT, rowT, turnT, valT, kept] at e4 e5
  simp [-forF_cons0, -fsIf_ev, fsIf_ev (g := fsNext) (f := fsRet (fC (.bl false))) (c := fNot (fTest (fCall0 f_edges))), f_law, fDef, b_law, e1, e2, e3, e4, e5]
end K21

set_option Elab.async false
set_option linter.all false
set_option maxRecDepth 100000
set_option maxHeartbeats 4000000
namespace K21
open PySem L2 DL PG PE
structure Tops (K : PySem.W.Frag) (mg : Str → Option Value) : Prop where
  B : Blt mg
  C : Cst K mg
  d_is_integer : Dfn K mg "is_integer" st_is_integer ["value"]
  d_is_within : Dfn K mg "is_within" st_is_within ["value", "low", "high"]
  d_is_name : Dfn K mg "is_name" st_is_name ["value"]
  d_has_form : Dfn K mg "has_form" st_has_form ["value", "forms"]
  d_is_expression : Dfn K mg "is_expression" st_is_expression ["value", "deep"]
  d_is_test : Dfn K mg "is_test" st_is_test ["value", "nots"]
  d_blocks_of : Dfn K mg "blocks_of" st_blocks_of ["statement"]
  d_is_statement : Dfn K mg "is_statement" st_is_statement ["value"]
  d_fault_in : Dfn K mg "fault_in" st_fault_in ["block", "place", "depth"]
  d_kind_of : Dfn K mg "kind_of" st_kind_of ["statement"]
  d_counted : Dfn K mg "counted" st_counted ["block", "kinds"]
  d_bound_passed : Dfn K mg "bound_passed" st_bound_passed ["program", "places"]
  d_program_error : Dfn K mg "program_error" st_program_error ["value"]
  d__law_deck : Dfn K mg "_law_deck" st__law_deck ["_law_script"]
  d__law_draw : Dfn K mg "_law_draw" st__law_draw ["_law_deck_here", "_law_many"]
  d__law_one : Dfn K mg "_law_one" st__law_one ["_law_deck_here", "_law_items"]
  d__law_names : Dfn K mg "_law_names" st__law_names ["_law_deck_here"]
  d__law_parts : Dfn K mg "_law_parts" st__law_parts ["_law_row"]
  d__law_whole : Dfn K mg "_law_whole" st__law_whole ["_law_value", "_law_least", "_law_most"]
  d__law_is_name : Dfn K mg "_law_is_name" st__law_is_name ["_law_value"]
  d__law_is_expression : Dfn K mg "_law_is_expression" st__law_is_expression ["_law_value", "_law_deep_here"]
  d__law_is_rest : Dfn K mg "_law_is_rest" st__law_is_rest ["_law_value"]
  d__law_is_test : Dfn K mg "_law_is_test" st__law_is_test ["_law_value", "_law_nots"]
  d__law_is_statement : Dfn K mg "_law_is_statement" st__law_is_statement ["_law_value"]
  d__law_counts : Dfn K mg "_law_counts" st__law_counts ["_law_block"]
  d__law_error : Dfn K mg "_law_error" st__law_error ["_law_value"]
  d__law_odd : Dfn K mg "_law_odd" st__law_odd ["_law_deck_here"]
  d__law_bent : Dfn K mg "_law_bent" st__law_bent ["_law_deck_here", "_law_value", "_law_deep_here"]
  d__law_deep : Dfn K mg "_law_deep" st__law_deep ["_law_deck_here", "_law_names_here", "_law_many"]
  d__law_statement : Dfn K mg "_law_statement" st__law_statement ["_law_deck_here", "_law_names_here"]
  d__law_edges_right : Dfn K mg "_law_edges_right" st__law_edges_right []
theorem c_law_of {K : PySem.W.Frag} : ∀ vs H Q E, toSp K c_law vs H Q E → toSp K (toC f_law) vs H Q E := by
  rintro vs H Q E ⟨m, S, ds, Q', R, r, ⟨ns, rfl, hl, hq⟩, ct⟩
  obtain ⟨S2, e⟩ := K21.law_ok (S := S) hl
  exact ⟨m, S, _, Q', R, r, ⟨_, e, hq S2⟩, ct⟩
theorem law_top {P : Program} {w : World} {K : PySem.W.Frag} {mg : Str → Option Value} {base : Heap} (T : Tops K mg) (hsy : HasSys base) {f : Addr} {fd : FuncData} (F : Fun K "law" "law" st_law f fd) : FnG P w K mg base CX0 18 f fd ["_law_script"] (toSp K c_law) := by
  have B := T.B
  have C := T.C
  obtain ⟨a_is_integer, e_is_integer, F_is_integer, m_is_integer, b_is_integer⟩ := T.d_is_integer.ex
  have D_is_integer : DefD P w K mg base 1 "is_integer" 1 (toC f_is_integer) := ok_is_integer (k := 0) F_is_integer m_is_integer b_is_integer B
  obtain ⟨a_is_within, e_is_within, F_is_within, m_is_within, b_is_within⟩ := T.d_is_within.ex
  have D_is_within : DefD P w K mg base 2 "is_within" 3 (toC f_is_within) := ok_is_within (k := 1) F_is_within m_is_within b_is_within (D_is_integer.mono (by decide))
  obtain ⟨a_is_name, e_is_name, F_is_name, m_is_name, b_is_name⟩ := T.d_is_name.ex
  have D_is_name : DefD P w K mg base 1 "is_name" 1 (toC f_is_name) := ok_is_name (k := 0) F_is_name m_is_name b_is_name B C
  obtain ⟨a_has_form, e_has_form, F_has_form, m_has_form, b_has_form⟩ := T.d_has_form.ex
  have D_has_form : DefD P w K mg base 1 "has_form" 2 (toC f_has_form) := ok_has_form (k := 0) F_has_form m_has_form b_has_form B
  obtain ⟨a_is_expression, e_is_expression, F_is_expression, m_is_expression, b_is_expression⟩ := T.d_is_expression.ex
  have D_is_expression_0 : DefD P w K mg base 1 "is_expression" 2 (toC (f_is_expression 0)) := defF_none F_is_expression m_is_expression b_is_expression 1
  have D_is_expression_1 : DefD P w K mg base 3 "is_expression" 2 (toC (f_is_expression 1)) := ok_is_expression (k := 2) F_is_expression m_is_expression b_is_expression C (D_is_expression_0.mono (by decide)) (D_is_within.mono (by decide)) (D_has_form.mono (by decide)) (D_is_name.mono (by decide))
  have D_is_expression_2 : DefD P w K mg base 4 "is_expression" 2 (toC (f_is_expression 2)) := ok_is_expression (k := 3) F_is_expression m_is_expression b_is_expression C (D_is_expression_1.mono (by decide)) (D_is_within.mono (by decide)) (D_has_form.mono (by decide)) (D_is_name.mono (by decide))
  have D_is_expression_3 : DefD P w K mg base 5 "is_expression" 2 (toC (f_is_expression 3)) := ok_is_expression (k := 4) F_is_expression m_is_expression b_is_expression C (D_is_expression_2.mono (by decide)) (D_is_within.mono (by decide)) (D_has_form.mono (by decide)) (D_is_name.mono (by decide))
  have D_is_expression_4 : DefD P w K mg base 6 "is_expression" 2 (toC (f_is_expression 4)) := ok_is_expression (k := 5) F_is_expression m_is_expression b_is_expression C (D_is_expression_3.mono (by decide)) (D_is_within.mono (by decide)) (D_has_form.mono (by decide)) (D_is_name.mono (by decide))
  obtain ⟨a_is_test, e_is_test, F_is_test, m_is_test, b_is_test⟩ := T.d_is_test.ex
  have D_is_test_0 : DefD P w K mg base 1 "is_test" 2 (toC (f_is_test 0)) := defF_none F_is_test m_is_test b_is_test 1
  have D_is_test_1 : DefD P w K mg base 7 "is_test" 2 (toC (f_is_test 1)) := ok_is_test (k := 6) F_is_test m_is_test b_is_test C (D_is_within.mono (by decide)) (D_is_expression_4.mono (by decide)) (D_is_test_0.mono (by decide)) (D_has_form.mono (by decide))
  have D_is_test_2 : DefD P w K mg base 8 "is_test" 2 (toC (f_is_test 2)) := ok_is_test (k := 7) F_is_test m_is_test b_is_test C (D_is_within.mono (by decide)) (D_is_expression_4.mono (by decide)) (D_is_test_1.mono (by decide)) (D_has_form.mono (by decide))
  have D_is_test_3 : DefD P w K mg base 9 "is_test" 2 (toC (f_is_test 3)) := ok_is_test (k := 8) F_is_test m_is_test b_is_test C (D_is_within.mono (by decide)) (D_is_expression_4.mono (by decide)) (D_is_test_2.mono (by decide)) (D_has_form.mono (by decide))
  obtain ⟨a_blocks_of, e_blocks_of, F_blocks_of, m_blocks_of, b_blocks_of⟩ := T.d_blocks_of.ex
  have D_blocks_of : DefD P w K mg base 1 "blocks_of" 1 (toC f_blocks_of) := ok_blocks_of (k := 0) F_blocks_of m_blocks_of b_blocks_of
  obtain ⟨a_is_statement, e_is_statement, F_is_statement, m_is_statement, b_is_statement⟩ := T.d_is_statement.ex
  have D_is_statement : DefD P w K mg base 10 "is_statement" 1 (toC f_is_statement) := ok_is_statement (k := 9) F_is_statement m_is_statement b_is_statement B C (D_blocks_of.mono (by decide)) (D_is_within.mono (by decide)) (D_is_test_3.mono (by decide)) (D_is_expression_4.mono (by decide)) (D_is_name.mono (by decide)) (D_has_form.mono (by decide))
  obtain ⟨a_fault_in, e_fault_in, F_fault_in, m_fault_in, b_fault_in⟩ := T.d_fault_in.ex
  have D_fault_in_0 : DefD P w K mg base 1 "fault_in" 3 (toC (f_fault_in 0)) := defF_none F_fault_in m_fault_in b_fault_in 1
  have D_fault_in_1 : DefD P w K mg base 11 "fault_in" 3 (toC (f_fault_in 1)) := ok_fault_in (k := 10) F_fault_in m_fault_in b_fault_in C (D_blocks_of.mono (by decide)) (D_fault_in_0.mono (by decide)) (D_is_statement.mono (by decide))
  have D_fault_in_2 : DefD P w K mg base 12 "fault_in" 3 (toC (f_fault_in 2)) := ok_fault_in (k := 11) F_fault_in m_fault_in b_fault_in C (D_blocks_of.mono (by decide)) (D_fault_in_1.mono (by decide)) (D_is_statement.mono (by decide))
  have D_fault_in_3 : DefD P w K mg base 13 "fault_in" 3 (toC (f_fault_in 3)) := ok_fault_in (k := 12) F_fault_in m_fault_in b_fault_in C (D_blocks_of.mono (by decide)) (D_fault_in_2.mono (by decide)) (D_is_statement.mono (by decide))
  have D_fault_in_4 : DefD P w K mg base 14 "fault_in" 3 (toC (f_fault_in 4)) := ok_fault_in (k := 13) F_fault_in m_fault_in b_fault_in C (D_blocks_of.mono (by decide)) (D_fault_in_3.mono (by decide)) (D_is_statement.mono (by decide))
  have D_fault_in_5 : DefD P w K mg base 15 "fault_in" 3 (toC (f_fault_in 5)) := ok_fault_in (k := 14) F_fault_in m_fault_in b_fault_in C (D_blocks_of.mono (by decide)) (D_fault_in_4.mono (by decide)) (D_is_statement.mono (by decide))
  obtain ⟨a_kind_of, e_kind_of, F_kind_of, m_kind_of, b_kind_of⟩ := T.d_kind_of.ex
  have D_kind_of : DefD P w K mg base 1 "kind_of" 1 (toC f_kind_of) := ok_kind_of (k := 0) F_kind_of m_kind_of b_kind_of
  obtain ⟨a_counted, e_counted, F_counted, m_counted, b_counted⟩ := T.d_counted.ex
  have D_counted_0 : DefD P w K mg base 1 "counted" 2 (toC (f_counted 0)) := defF_none F_counted m_counted b_counted 1
  have D_counted_1 : DefD P w K mg base 2 "counted" 2 (toC (f_counted 1)) := ok_counted (k := 1) F_counted m_counted b_counted B (D_kind_of.mono (by decide)) (D_blocks_of.mono (by decide)) (D_counted_0.mono (by decide))
  have D_counted_2 : DefD P w K mg base 3 "counted" 2 (toC (f_counted 2)) := ok_counted (k := 2) F_counted m_counted b_counted B (D_kind_of.mono (by decide)) (D_blocks_of.mono (by decide)) (D_counted_1.mono (by decide))
  have D_counted_3 : DefD P w K mg base 4 "counted" 2 (toC (f_counted 3)) := ok_counted (k := 3) F_counted m_counted b_counted B (D_kind_of.mono (by decide)) (D_blocks_of.mono (by decide)) (D_counted_2.mono (by decide))
  have D_counted_4 : DefD P w K mg base 5 "counted" 2 (toC (f_counted 4)) := ok_counted (k := 4) F_counted m_counted b_counted B (D_kind_of.mono (by decide)) (D_blocks_of.mono (by decide)) (D_counted_3.mono (by decide))
  have D_counted_5 : DefD P w K mg base 6 "counted" 2 (toC (f_counted 5)) := ok_counted (k := 5) F_counted m_counted b_counted B (D_kind_of.mono (by decide)) (D_blocks_of.mono (by decide)) (D_counted_4.mono (by decide))
  obtain ⟨a_bound_passed, e_bound_passed, F_bound_passed, m_bound_passed, b_bound_passed⟩ := T.d_bound_passed.ex
  have D_bound_passed : DefD P w K mg base 7 "bound_passed" 2 (toC f_bound_passed) := ok_bound_passed (k := 6) F_bound_passed m_bound_passed b_bound_passed C (D_counted_5.mono (by decide))
  obtain ⟨a_program_error, e_program_error, F_program_error, m_program_error, b_program_error⟩ := T.d_program_error.ex
  have D_program_error : DefD P w K mg base 16 "program_error" 1 (toC f_program_error) := ok_program_error (k := 15) F_program_error m_program_error b_program_error B (D_bound_passed.mono (by decide)) (D_fault_in_5.mono (by decide))
  obtain ⟨a__law_deck, e__law_deck, F__law_deck, m__law_deck, b__law_deck⟩ := T.d__law_deck.ex
  have D__law_deck : DefD P w K mg base 1 "_law_deck" 1 (toC f_deck) := ok__law_deck (k := 0) F__law_deck m__law_deck b__law_deck B
  obtain ⟨a__law_draw, e__law_draw, F__law_draw, m__law_draw, b__law_draw⟩ := T.d__law_draw.ex
  have D__law_draw : DefD P w K mg base 1 "_law_draw" 2 (toC f_draw) := ok__law_draw (k := 0) F__law_draw m__law_draw b__law_draw B
  obtain ⟨a__law_one, e__law_one, F__law_one, m__law_one, b__law_one⟩ := T.d__law_one.ex
  have D__law_one : DefD P w K mg base 2 "_law_one" 2 (toC f_one) := ok__law_one (k := 1) F__law_one m__law_one b__law_one B (D__law_draw.mono (by decide))
  obtain ⟨a__law_names, e__law_names, F__law_names, m__law_names, b__law_names⟩ := T.d__law_names.ex
  have D__law_names : DefD P w K mg base 3 "_law_names" 1 (toC f_names) := ok__law_names (k := 2) F__law_names m__law_names b__law_names B (D__law_draw.mono (by decide)) (D__law_one.mono (by decide))
  obtain ⟨a__law_parts, e__law_parts, F__law_parts, m__law_parts, b__law_parts⟩ := T.d__law_parts.ex
  have D__law_parts : DefD P w K mg base 1 "_law_parts" 1 (toC l_parts) := ok__law_parts (k := 0) F__law_parts m__law_parts b__law_parts
  obtain ⟨a__law_whole, e__law_whole, F__law_whole, m__law_whole, b__law_whole⟩ := T.d__law_whole.ex
  have D__law_whole : DefD P w K mg base 1 "_law_whole" 3 (toC l_whole) := ok__law_whole (k := 0) F__law_whole m__law_whole b__law_whole B
  obtain ⟨a__law_is_name, e__law_is_name, F__law_is_name, m__law_is_name, b__law_is_name⟩ := T.d__law_is_name.ex
  have D__law_is_name : DefD P w K mg base 1 "_law_is_name" 1 (toC l_is_name) := ok__law_is_name (k := 0) F__law_is_name m__law_is_name b__law_is_name B
  obtain ⟨a__law_is_expression, e__law_is_expression, F__law_is_expression, m__law_is_expression, b__law_is_expression⟩ := T.d__law_is_expression.ex
  have D__law_is_expression_0 : DefD P w K mg base 1 "_law_is_expression" 2 (toC (l_is_expression 0)) := defF_none F__law_is_expression m__law_is_expression b__law_is_expression 1
  have D__law_is_expression_1 : DefD P w K mg base 2 "_law_is_expression" 2 (toC (l_is_expression 1)) := ok__law_is_expression (k := 1) F__law_is_expression m__law_is_expression b__law_is_expression B (D__law_is_expression_0.mono (by decide)) (D__law_whole.mono (by decide)) (D__law_is_name.mono (by decide))
  have D__law_is_expression_2 : DefD P w K mg base 3 "_law_is_expression" 2 (toC (l_is_expression 2)) := ok__law_is_expression (k := 2) F__law_is_expression m__law_is_expression b__law_is_expression B (D__law_is_expression_1.mono (by decide)) (D__law_whole.mono (by decide)) (D__law_is_name.mono (by decide))
  have D__law_is_expression_3 : DefD P w K mg base 4 "_law_is_expression" 2 (toC (l_is_expression 3)) := ok__law_is_expression (k := 3) F__law_is_expression m__law_is_expression b__law_is_expression B (D__law_is_expression_2.mono (by decide)) (D__law_whole.mono (by decide)) (D__law_is_name.mono (by decide))
  have D__law_is_expression_4 : DefD P w K mg base 5 "_law_is_expression" 2 (toC (l_is_expression 4)) := ok__law_is_expression (k := 4) F__law_is_expression m__law_is_expression b__law_is_expression B (D__law_is_expression_3.mono (by decide)) (D__law_whole.mono (by decide)) (D__law_is_name.mono (by decide))
  obtain ⟨a__law_is_rest, e__law_is_rest, F__law_is_rest, m__law_is_rest, b__law_is_rest⟩ := T.d__law_is_rest.ex
  have D__law_is_rest : DefD P w K mg base 6 "_law_is_rest" 1 (toC l_is_rest) := ok__law_is_rest (k := 5) F__law_is_rest m__law_is_rest b__law_is_rest (D__law_whole.mono (by decide)) (D__law_is_expression_4.mono (by decide))
  obtain ⟨a__law_is_test, e__law_is_test, F__law_is_test, m__law_is_test, b__law_is_test⟩ := T.d__law_is_test.ex
  have D__law_is_test_0 : DefD P w K mg base 1 "_law_is_test" 2 (toC (l_is_test 0)) := defF_none F__law_is_test m__law_is_test b__law_is_test 1
  have D__law_is_test_1 : DefD P w K mg base 7 "_law_is_test" 2 (toC (l_is_test 1)) := ok__law_is_test (k := 6) F__law_is_test m__law_is_test b__law_is_test B (D__law_is_expression_4.mono (by decide)) (D__law_is_rest.mono (by decide)) (D__law_is_test_0.mono (by decide))
  have D__law_is_test_2 : DefD P w K mg base 8 "_law_is_test" 2 (toC (l_is_test 2)) := ok__law_is_test (k := 7) F__law_is_test m__law_is_test b__law_is_test B (D__law_is_expression_4.mono (by decide)) (D__law_is_rest.mono (by decide)) (D__law_is_test_1.mono (by decide))
  have D__law_is_test_3 : DefD P w K mg base 9 "_law_is_test" 2 (toC (l_is_test 3)) := ok__law_is_test (k := 8) F__law_is_test m__law_is_test b__law_is_test B (D__law_is_expression_4.mono (by decide)) (D__law_is_rest.mono (by decide)) (D__law_is_test_2.mono (by decide))
  obtain ⟨a__law_is_statement, e__law_is_statement, F__law_is_statement, m__law_is_statement, b__law_is_statement⟩ := T.d__law_is_statement.ex
  have D__law_is_statement : DefD P w K mg base 10 "_law_is_statement" 1 (toC l_is_statement) := ok__law_is_statement (k := 9) F__law_is_statement m__law_is_statement b__law_is_statement B (D__law_parts.mono (by decide)) (D__law_whole.mono (by decide)) (D__law_is_test_3.mono (by decide)) (D__law_is_expression_4.mono (by decide)) (D__law_is_name.mono (by decide))
  obtain ⟨a__law_counts, e__law_counts, F__law_counts, m__law_counts, b__law_counts⟩ := T.d__law_counts.ex
  have D__law_counts_0 : DefD P w K mg base 1 "_law_counts" 1 (toC (l_counts 0)) := defF_none F__law_counts m__law_counts b__law_counts 1
  have D__law_counts_1 : DefD P w K mg base 2 "_law_counts" 1 (toC (l_counts 1)) := ok__law_counts (k := 1) F__law_counts m__law_counts b__law_counts B (D__law_parts.mono (by decide)) (D__law_counts_0.mono (by decide))
  have D__law_counts_2 : DefD P w K mg base 3 "_law_counts" 1 (toC (l_counts 2)) := ok__law_counts (k := 2) F__law_counts m__law_counts b__law_counts B (D__law_parts.mono (by decide)) (D__law_counts_1.mono (by decide))
  have D__law_counts_3 : DefD P w K mg base 4 "_law_counts" 1 (toC (l_counts 3)) := ok__law_counts (k := 3) F__law_counts m__law_counts b__law_counts B (D__law_parts.mono (by decide)) (D__law_counts_2.mono (by decide))
  have D__law_counts_4 : DefD P w K mg base 5 "_law_counts" 1 (toC (l_counts 4)) := ok__law_counts (k := 4) F__law_counts m__law_counts b__law_counts B (D__law_parts.mono (by decide)) (D__law_counts_3.mono (by decide))
  have D__law_counts_5 : DefD P w K mg base 6 "_law_counts" 1 (toC (l_counts 5)) := ok__law_counts (k := 5) F__law_counts m__law_counts b__law_counts B (D__law_parts.mono (by decide)) (D__law_counts_4.mono (by decide))
  obtain ⟨a__law_error, e__law_error, F__law_error, m__law_error, b__law_error⟩ := T.d__law_error.ex
  have D__law_error : DefD P w K mg base 11 "_law_error" 1 (toC l_error) := ok__law_error (k := 10) F__law_error m__law_error b__law_error B (D__law_counts_5.mono (by decide)) (D__law_parts.mono (by decide)) (D__law_is_statement.mono (by decide))
  obtain ⟨a__law_odd, e__law_odd, F__law_odd, m__law_odd, b__law_odd⟩ := T.d__law_odd.ex
  have D__law_odd : DefD P w K mg base 3 "_law_odd" 1 (toC f_odd) := ok__law_odd (k := 2) F__law_odd m__law_odd b__law_odd (D__law_one.mono (by decide))
  obtain ⟨a__law_bent, e__law_bent, F__law_bent, m__law_bent, b__law_bent⟩ := T.d__law_bent.ex
  have D__law_bent_0 : DefD P w K mg base 1 "_law_bent" 3 (toC (f_bent 0)) := defF_none F__law_bent m__law_bent b__law_bent 1
  have D__law_bent_1 : DefD P w K mg base 4 "_law_bent" 3 (toC (f_bent 1)) := ok__law_bent (k := 3) F__law_bent m__law_bent b__law_bent B (D__law_bent_0.mono (by decide)) (D__law_draw.mono (by decide)) (D__law_odd.mono (by decide))
  have D__law_bent_2 : DefD P w K mg base 5 "_law_bent" 3 (toC (f_bent 2)) := ok__law_bent (k := 4) F__law_bent m__law_bent b__law_bent B (D__law_bent_1.mono (by decide)) (D__law_draw.mono (by decide)) (D__law_odd.mono (by decide))
  have D__law_bent_3 : DefD P w K mg base 6 "_law_bent" 3 (toC (f_bent 3)) := ok__law_bent (k := 5) F__law_bent m__law_bent b__law_bent B (D__law_bent_2.mono (by decide)) (D__law_draw.mono (by decide)) (D__law_odd.mono (by decide))
  have D__law_bent_4 : DefD P w K mg base 7 "_law_bent" 3 (toC (f_bent 4)) := ok__law_bent (k := 6) F__law_bent m__law_bent b__law_bent B (D__law_bent_3.mono (by decide)) (D__law_draw.mono (by decide)) (D__law_odd.mono (by decide))
  have D__law_bent_5 : DefD P w K mg base 8 "_law_bent" 3 (toC (f_bent 5)) := ok__law_bent (k := 7) F__law_bent m__law_bent b__law_bent B (D__law_bent_4.mono (by decide)) (D__law_draw.mono (by decide)) (D__law_odd.mono (by decide))
  have D__law_bent_6 : DefD P w K mg base 9 "_law_bent" 3 (toC (f_bent 6)) := ok__law_bent (k := 8) F__law_bent m__law_bent b__law_bent B (D__law_bent_5.mono (by decide)) (D__law_draw.mono (by decide)) (D__law_odd.mono (by decide))
  have D__law_bent_7 : DefD P w K mg base 10 "_law_bent" 3 (toC (f_bent 7)) := ok__law_bent (k := 9) F__law_bent m__law_bent b__law_bent B (D__law_bent_6.mono (by decide)) (D__law_draw.mono (by decide)) (D__law_odd.mono (by decide))
  obtain ⟨a__law_deep, e__law_deep, F__law_deep, m__law_deep, b__law_deep⟩ := T.d__law_deep.ex
  have D__law_deep : DefD P w K mg base 3 "_law_deep" 3 (toC f_deep) := ok__law_deep (k := 2) F__law_deep m__law_deep b__law_deep B (D__law_one.mono (by decide))
  obtain ⟨a__law_statement, e__law_statement, F__law_statement, m__law_statement, b__law_statement⟩ := T.d__law_statement.ex
  have D__law_statement : DefD P w K mg base 4 "_law_statement" 2 (toC f_statement) := ok__law_statement (k := 3) F__law_statement m__law_statement b__law_statement B (D__law_one.mono (by decide)) (D__law_draw.mono (by decide)) (D__law_deep.mono (by decide))
  obtain ⟨a__law_edges_right, e__law_edges_right, F__law_edges_right, m__law_edges_right, b__law_edges_right⟩ := T.d__law_edges_right.ex
  have D__law_edges_right : DefD P w K mg base 17 "_law_edges_right" 0 (toC f_edges) := ok__law_edges_right (k := 16) hsy F__law_edges_right m__law_edges_right b__law_edges_right B (D_program_error.mono (by decide))
  have D : FnG P w K mg base CX0 18 f fd ["_law_script"] (toSp K (toC f_law)) := fn_law (k := 17) hsy F B (D__law_bent_7.mono (by decide)) (D__law_odd.mono (by decide)) (D_program_error.mono (by decide)) (D__law_error.mono (by decide)) (D__law_statement.mono (by decide)) (D__law_edges_right.mono (by decide)) (D__law_names.mono (by decide)) (D__law_deck.mono (by decide))
  exact D.imp c_law_of
end K21

set_option Elab.async false
set_option linter.all false
set_option maxRecDepth 100000
set_option maxHeartbeats 4000000
namespace K21
open PySem L2 DL
theorem bn_is_integer (kV doc pm : Value) (an : Option Addr) (cdv ct : Value) (us : List Value) (hl : us.length = (["value"] : List Str).length) : bindArgs (PySem.W.fnOf "is_integer" "is_integer" (defArgs st_is_integer) (defBody st_is_integer) (defScope st_is_integer) Value.none kV doc pm an cdv ct) { pos := us } = pure ((["value"] : List Str).zip us) := match us, hl with | [_], _ => rfl
theorem bn_is_within (kV doc pm : Value) (an : Option Addr) (cdv ct : Value) (us : List Value) (hl : us.length = (["value", "low", "high"] : List Str).length) : bindArgs (PySem.W.fnOf "is_within" "is_within" (defArgs st_is_within) (defBody st_is_within) (defScope st_is_within) Value.none kV doc pm an cdv ct) { pos := us } = pure ((["value", "low", "high"] : List Str).zip us) := match us, hl with | [_, _, _], _ => rfl
theorem bn_is_name (kV doc pm : Value) (an : Option Addr) (cdv ct : Value) (us : List Value) (hl : us.length = (["value"] : List Str).length) : bindArgs (PySem.W.fnOf "is_name" "is_name" (defArgs st_is_name) (defBody st_is_name) (defScope st_is_name) Value.none kV doc pm an cdv ct) { pos := us } = pure ((["value"] : List Str).zip us) := match us, hl with | [_], _ => rfl
theorem bn_has_form (kV doc pm : Value) (an : Option Addr) (cdv ct : Value) (us : List Value) (hl : us.length = (["value", "forms"] : List Str).length) : bindArgs (PySem.W.fnOf "has_form" "has_form" (defArgs st_has_form) (defBody st_has_form) (defScope st_has_form) Value.none kV doc pm an cdv ct) { pos := us } = pure ((["value", "forms"] : List Str).zip us) := match us, hl with | [_, _], _ => rfl
theorem bn_is_expression (kV doc pm : Value) (an : Option Addr) (cdv ct : Value) (us : List Value) (hl : us.length = (["value", "deep"] : List Str).length) : bindArgs (PySem.W.fnOf "is_expression" "is_expression" (defArgs st_is_expression) (defBody st_is_expression) (defScope st_is_expression) Value.none kV doc pm an cdv ct) { pos := us } = pure ((["value", "deep"] : List Str).zip us) := match us, hl with | [_, _], _ => rfl
theorem bn_is_test (kV doc pm : Value) (an : Option Addr) (cdv ct : Value) (us : List Value) (hl : us.length = (["value", "nots"] : List Str).length) : bindArgs (PySem.W.fnOf "is_test" "is_test" (defArgs st_is_test) (defBody st_is_test) (defScope st_is_test) Value.none kV doc pm an cdv ct) { pos := us } = pure ((["value", "nots"] : List Str).zip us) := match us, hl with | [_, _], _ => rfl
theorem bn_blocks_of (kV doc pm : Value) (an : Option Addr) (cdv ct : Value) (us : List Value) (hl : us.length = (["statement"] : List Str).length) : bindArgs (PySem.W.fnOf "blocks_of" "blocks_of" (defArgs st_blocks_of) (defBody st_blocks_of) (defScope st_blocks_of) Value.none kV doc pm an cdv ct) { pos := us } = pure ((["statement"] : List Str).zip us) := match us, hl with | [_], _ => rfl
theorem bn_is_statement (kV doc pm : Value) (an : Option Addr) (cdv ct : Value) (us : List Value) (hl : us.length = (["value"] : List Str).length) : bindArgs (PySem.W.fnOf "is_statement" "is_statement" (defArgs st_is_statement) (defBody st_is_statement) (defScope st_is_statement) Value.none kV doc pm an cdv ct) { pos := us } = pure ((["value"] : List Str).zip us) := match us, hl with | [_], _ => rfl
theorem bn_fault_in (kV doc pm : Value) (an : Option Addr) (cdv ct : Value) (us : List Value) (hl : us.length = (["block", "place", "depth"] : List Str).length) : bindArgs (PySem.W.fnOf "fault_in" "fault_in" (defArgs st_fault_in) (defBody st_fault_in) (defScope st_fault_in) Value.none kV doc pm an cdv ct) { pos := us } = pure ((["block", "place", "depth"] : List Str).zip us) := match us, hl with | [_, _, _], _ => rfl
theorem bn_kind_of (kV doc pm : Value) (an : Option Addr) (cdv ct : Value) (us : List Value) (hl : us.length = (["statement"] : List Str).length) : bindArgs (PySem.W.fnOf "kind_of" "kind_of" (defArgs st_kind_of) (defBody st_kind_of) (defScope st_kind_of) Value.none kV doc pm an cdv ct) { pos := us } = pure ((["statement"] : List Str).zip us) := match us, hl with | [_], _ => rfl
theorem bn_counted (kV doc pm : Value) (an : Option Addr) (cdv ct : Value) (us : List Value) (hl : us.length = (["block", "kinds"] : List Str).length) : bindArgs (PySem.W.fnOf "counted" "counted" (defArgs st_counted) (defBody st_counted) (defScope st_counted) Value.none kV doc pm an cdv ct) { pos := us } = pure ((["block", "kinds"] : List Str).zip us) := match us, hl with | [_, _], _ => rfl
theorem bn_bound_passed (kV doc pm : Value) (an : Option Addr) (cdv ct : Value) (us : List Value) (hl : us.length = (["program", "places"] : List Str).length) : bindArgs (PySem.W.fnOf "bound_passed" "bound_passed" (defArgs st_bound_passed) (defBody st_bound_passed) (defScope st_bound_passed) Value.none kV doc pm an cdv ct) { pos := us } = pure ((["program", "places"] : List Str).zip us) := match us, hl with | [_, _], _ => rfl
theorem bn_program_error (kV doc pm : Value) (an : Option Addr) (cdv ct : Value) (us : List Value) (hl : us.length = (["value"] : List Str).length) : bindArgs (PySem.W.fnOf "program_error" "program_error" (defArgs st_program_error) (defBody st_program_error) (defScope st_program_error) Value.none kV doc pm an cdv ct) { pos := us } = pure ((["value"] : List Str).zip us) := match us, hl with | [_], _ => rfl
theorem bn__law_deck (kV doc pm : Value) (an : Option Addr) (cdv ct : Value) (us : List Value) (hl : us.length = (["_law_script"] : List Str).length) : bindArgs (PySem.W.fnOf "_law_deck" "_law_deck" (defArgs st__law_deck) (defBody st__law_deck) (defScope st__law_deck) Value.none kV doc pm an cdv ct) { pos := us } = pure ((["_law_script"] : List Str).zip us) := match us, hl with | [_], _ => rfl
theorem bn__law_draw (kV doc pm : Value) (an : Option Addr) (cdv ct : Value) (us : List Value) (hl : us.length = (["_law_deck_here", "_law_many"] : List Str).length) : bindArgs (PySem.W.fnOf "_law_draw" "_law_draw" (defArgs st__law_draw) (defBody st__law_draw) (defScope st__law_draw) Value.none kV doc pm an cdv ct) { pos := us } = pure ((["_law_deck_here", "_law_many"] : List Str).zip us) := match us, hl with | [_, _], _ => rfl
theorem bn__law_one (kV doc pm : Value) (an : Option Addr) (cdv ct : Value) (us : List Value) (hl : us.length = (["_law_deck_here", "_law_items"] : List Str).length) : bindArgs (PySem.W.fnOf "_law_one" "_law_one" (defArgs st__law_one) (defBody st__law_one) (defScope st__law_one) Value.none kV doc pm an cdv ct) { pos := us } = pure ((["_law_deck_here", "_law_items"] : List Str).zip us) := match us, hl with | [_, _], _ => rfl
theorem bn__law_names (kV doc pm : Value) (an : Option Addr) (cdv ct : Value) (us : List Value) (hl : us.length = (["_law_deck_here"] : List Str).length) : bindArgs (PySem.W.fnOf "_law_names" "_law_names" (defArgs st__law_names) (defBody st__law_names) (defScope st__law_names) Value.none kV doc pm an cdv ct) { pos := us } = pure ((["_law_deck_here"] : List Str).zip us) := match us, hl with | [_], _ => rfl
theorem bn__law_parts (kV doc pm : Value) (an : Option Addr) (cdv ct : Value) (us : List Value) (hl : us.length = (["_law_row"] : List Str).length) : bindArgs (PySem.W.fnOf "_law_parts" "_law_parts" (defArgs st__law_parts) (defBody st__law_parts) (defScope st__law_parts) Value.none kV doc pm an cdv ct) { pos := us } = pure ((["_law_row"] : List Str).zip us) := match us, hl with | [_], _ => rfl
theorem bn__law_whole (kV doc pm : Value) (an : Option Addr) (cdv ct : Value) (us : List Value) (hl : us.length = (["_law_value", "_law_least", "_law_most"] : List Str).length) : bindArgs (PySem.W.fnOf "_law_whole" "_law_whole" (defArgs st__law_whole) (defBody st__law_whole) (defScope st__law_whole) Value.none kV doc pm an cdv ct) { pos := us } = pure ((["_law_value", "_law_least", "_law_most"] : List Str).zip us) := match us, hl with | [_, _, _], _ => rfl
theorem bn__law_is_name (kV doc pm : Value) (an : Option Addr) (cdv ct : Value) (us : List Value) (hl : us.length = (["_law_value"] : List Str).length) : bindArgs (PySem.W.fnOf "_law_is_name" "_law_is_name" (defArgs st__law_is_name) (defBody st__law_is_name) (defScope st__law_is_name) Value.none kV doc pm an cdv ct) { pos := us } = pure ((["_law_value"] : List Str).zip us) := match us, hl with | [_], _ => rfl
theorem bn__law_is_expression (kV doc pm : Value) (an : Option Addr) (cdv ct : Value) (us : List Value) (hl : us.length = (["_law_value", "_law_deep_here"] : List Str).length) : bindArgs (PySem.W.fnOf "_law_is_expression" "_law_is_expression" (defArgs st__law_is_expression) (defBody st__law_is_expression) (defScope st__law_is_expression) Value.none kV doc pm an cdv ct) { pos := us } = pure ((["_law_value", "_law_deep_here"] : List Str).zip us) := match us, hl with | [_, _], _ => rfl
theorem bn__law_is_rest (kV doc pm : Value) (an : Option Addr) (cdv ct : Value) (us : List Value) (hl : us.length = (["_law_value"] : List Str).length) : bindArgs (PySem.W.fnOf "_law_is_rest" "_law_is_rest" (defArgs st__law_is_rest) (defBody st__law_is_rest) (defScope st__law_is_rest) Value.none kV doc pm an cdv ct) { pos := us } = pure ((["_law_value"] : List Str).zip us) := match us, hl with | [_], _ => rfl
theorem bn__law_is_test (kV doc pm : Value) (an : Option Addr) (cdv ct : Value) (us : List Value) (hl : us.length = (["_law_value", "_law_nots"] : List Str).length) : bindArgs (PySem.W.fnOf "_law_is_test" "_law_is_test" (defArgs st__law_is_test) (defBody st__law_is_test) (defScope st__law_is_test) Value.none kV doc pm an cdv ct) { pos := us } = pure ((["_law_value", "_law_nots"] : List Str).zip us) := match us, hl with | [_, _], _ => rfl
theorem bn__law_is_statement (kV doc pm : Value) (an : Option Addr) (cdv ct : Value) (us : List Value) (hl : us.length = (["_law_value"] : List Str).length) : bindArgs (PySem.W.fnOf "_law_is_statement" "_law_is_statement" (defArgs st__law_is_statement) (defBody st__law_is_statement) (defScope st__law_is_statement) Value.none kV doc pm an cdv ct) { pos := us } = pure ((["_law_value"] : List Str).zip us) := match us, hl with | [_], _ => rfl
theorem bn__law_counts (kV doc pm : Value) (an : Option Addr) (cdv ct : Value) (us : List Value) (hl : us.length = (["_law_block"] : List Str).length) : bindArgs (PySem.W.fnOf "_law_counts" "_law_counts" (defArgs st__law_counts) (defBody st__law_counts) (defScope st__law_counts) Value.none kV doc pm an cdv ct) { pos := us } = pure ((["_law_block"] : List Str).zip us) := match us, hl with | [_], _ => rfl
theorem bn__law_error (kV doc pm : Value) (an : Option Addr) (cdv ct : Value) (us : List Value) (hl : us.length = (["_law_value"] : List Str).length) : bindArgs (PySem.W.fnOf "_law_error" "_law_error" (defArgs st__law_error) (defBody st__law_error) (defScope st__law_error) Value.none kV doc pm an cdv ct) { pos := us } = pure ((["_law_value"] : List Str).zip us) := match us, hl with | [_], _ => rfl
theorem bn__law_odd (kV doc pm : Value) (an : Option Addr) (cdv ct : Value) (us : List Value) (hl : us.length = (["_law_deck_here"] : List Str).length) : bindArgs (PySem.W.fnOf "_law_odd" "_law_odd" (defArgs st__law_odd) (defBody st__law_odd) (defScope st__law_odd) Value.none kV doc pm an cdv ct) { pos := us } = pure ((["_law_deck_here"] : List Str).zip us) := match us, hl with | [_], _ => rfl
theorem bn__law_bent (kV doc pm : Value) (an : Option Addr) (cdv ct : Value) (us : List Value) (hl : us.length = (["_law_deck_here", "_law_value", "_law_deep_here"] : List Str).length) : bindArgs (PySem.W.fnOf "_law_bent" "_law_bent" (defArgs st__law_bent) (defBody st__law_bent) (defScope st__law_bent) Value.none kV doc pm an cdv ct) { pos := us } = pure ((["_law_deck_here", "_law_value", "_law_deep_here"] : List Str).zip us) := match us, hl with | [_, _, _], _ => rfl
theorem bn__law_deep (kV doc pm : Value) (an : Option Addr) (cdv ct : Value) (us : List Value) (hl : us.length = (["_law_deck_here", "_law_names_here", "_law_many"] : List Str).length) : bindArgs (PySem.W.fnOf "_law_deep" "_law_deep" (defArgs st__law_deep) (defBody st__law_deep) (defScope st__law_deep) Value.none kV doc pm an cdv ct) { pos := us } = pure ((["_law_deck_here", "_law_names_here", "_law_many"] : List Str).zip us) := match us, hl with | [_, _, _], _ => rfl
theorem bn__law_statement (kV doc pm : Value) (an : Option Addr) (cdv ct : Value) (us : List Value) (hl : us.length = (["_law_deck_here", "_law_names_here"] : List Str).length) : bindArgs (PySem.W.fnOf "_law_statement" "_law_statement" (defArgs st__law_statement) (defBody st__law_statement) (defScope st__law_statement) Value.none kV doc pm an cdv ct) { pos := us } = pure ((["_law_deck_here", "_law_names_here"] : List Str).zip us) := match us, hl with | [_, _], _ => rfl
theorem bn__law_edges_right (kV doc pm : Value) (an : Option Addr) (cdv ct : Value) (us : List Value) (hl : us.length = ([] : List Str).length) : bindArgs (PySem.W.fnOf "_law_edges_right" "_law_edges_right" (defArgs st__law_edges_right) (defBody st__law_edges_right) (defScope st__law_edges_right) Value.none kV doc pm an cdv ct) { pos := us } = pure (([] : List Str).zip us) := match us, hl with | [], _ => rfl
theorem bn_law (kV doc pm : Value) (an : Option Addr) (cdv ct u : Value) : bindArgs (PySem.W.fnOf "law" "law" (defArgs st_law) (defBody st_law) (defScope st_law) Value.none kV doc pm an cdv ct) { pos := [u] } = pure [(("_law_script" : Str), u)] := rfl
theorem finish {P : Program} {w : World} {K : PySem.W.Frag} {h : Heap} {mg : Str → Option Value} {f fa : Addr} {oc kV dc pm cd ct : Value} {od an : Option Addr} {sl : Array (Option Value)} (X : K.In h) (G : h.Ns mainGlobals mg) (hfa : mg "law" = some (.ref fa)) (T : Tops K mg)
    (a : PySem.W.nsIn K mainGlobals "law" = some (some (.ref f))) (l : K.lookup f = some ⟨oc, od, .func (PySem.W.fnOf "law" "law" (defArgs st_law) (defBody st_law) (defScope st_law) .none kV dc pm an cd ct), sl⟩) (c : PySem.W.codeIn K cd "law" = true) (kp : PySem.W.keepIn K (.ref f) = true) :
    ∃ fd : FuncData, (∀ (s : Shared) (u : Value), BindsTo s fd ⟨[u], []⟩ [("_law_script", u)]) ∧ ∀ base : Heap, K.In base → base.Ns mainGlobals mg → HasSys base → FnG P w K mg base CX0 18 fa fd ["_law_script"] (toSp K c_law) :=
  top_mkS X G hfa bn_law (fun f fd F base hsy => law_top T hsy F) a l c kp
end K21
open PySem PySem.W PyProof.Rows
set_option maxRecDepth 100000 in
set_option maxHeartbeats 0 in
theorem PySem.Challenge.cw_weandthey_k21_single_statements_holds : PySem.Challenge.rw_weandthey_k21_single_statements.Holds := by
  w_on; o_law; k_head; (case hw => w_witness2)
  k_fill
  refine DL.walkT (hq := by decide +kernel) (l := PySem.Challenge.rw_weandthey_k21_single_statements) (k := 18) (x := "_law_script") rfl rfl ⟨rfl, by decide, by decide⟩ (fun w h Y => PySem.W.kIn_of Y) ?F
  case F =>
    intro w mg fa h KX G hmg
    refine' K21.finish KX G hmg ?T ?a ?l ?c ?k
    (case a => k_is); (case l => k_is); (case c => k_is); (case k => k_is)
    case T =>
      refine ⟨?B, ?C, ?d_is_integer, ?d_is_within, ?d_is_name, ?d_has_form, ?d_is_expression, ?d_is_test, ?d_blocks_of, ?d_is_statement, ?d_fault_in, ?d_kind_of, ?d_counted, ?d_bound_passed, ?d_program_error, ?d__law_deck, ?d__law_draw, ?d__law_one, ?d__law_names, ?d__law_parts, ?d__law_whole, ?d__law_is_name, ?d__law_is_expression, ?d__law_is_rest, ?d__law_is_test, ?d__law_is_statement, ?d__law_counts, ?d__law_error, ?d__law_odd, ?d__law_bent, ?d__law_deep, ?d__law_statement, ?d__law_edges_right⟩
      case B => refine ⟨?_, ?_, ?_, ?_, ?_, ?_, ?_, ?_, ?_, ?_, ?_, ?_, ?_, ?_⟩ <;> refine PySem.W.mg_none_of KX G ?_ <;> k_is
      case C =>
        refine ⟨?_, ?_, ?_, ?_, ?_, ?_, ?_, ?_, ?_, ?_, ?_, ?_, ?_, ?_, ?_, ?_, ?_, ?_, ?_, ?_⟩
        · refine' DL.str_mk KX G ?e2; (case e2 => k_is)
        · refine' DL.str_mk KX G ?e3; (case e3 => k_is)
        · refine' DL.tup_mk KX G ?e4 ?l4 ?z4 ?k4
          (case e4 => k_is); (case l4 => k_is); (case z4 => decide +kernel)
          (case k4 => repeat' (first | exact .nil | refine .str ?_ | refine .int ?_))
        · refine' DL.int_mk KX G ?e5; (case e5 => k_is)
        · refine' DL.int_mk KX G ?e6; (case e6 => k_is)
        · refine' DL.tup_mk KX G ?e7 ?l7 ?z7 ?k7
          (case e7 => k_is); (case l7 => k_is); (case z7 => decide +kernel)
          case k7 =>
            refine' DL.KvA.tup ?l8 ?z8 ?k8 ?r8; (case l8 => k_is); (case z8 => decide +kernel); (case k8 => exact .str (.int .nil))
            refine' DL.KvA.tup ?l9 ?z9 ?k9 ?r9; (case l9 => k_is); (case z9 => decide +kernel); (case k9 => exact .str (.int .nil))
            refine' DL.KvA.tup ?l10 ?z10 ?k10 ?r10; (case l10 => k_is); (case z10 => decide +kernel); (case k10 => exact .str (.int .nil))
            exact .nil
        · refine' DL.int_mk KX G ?e11; (case e11 => k_is)
        · refine' DL.int_mk KX G ?e12; (case e12 => k_is)
        · refine' DL.int_mk KX G ?e13; (case e13 => k_is)
        · refine' DL.tup_mk KX G ?e14 ?l14 ?z14 ?k14
          (case e14 => k_is); (case l14 => k_is); (case z14 => decide +kernel)
          case k14 =>
            refine' DL.KvA.tup ?l15 ?z15 ?k15 ?r15; (case l15 => k_is); (case z15 => decide +kernel); (case k15 => exact .str (.int .nil))
            refine' DL.KvA.tup ?l16 ?z16 ?k16 ?r16; (case l16 => k_is); (case z16 => decide +kernel); (case k16 => exact .str (.int .nil))
            refine' DL.KvA.tup ?l17 ?z17 ?k17 ?r17; (case l17 => k_is); (case z17 => decide +kernel); (case k17 => exact .str (.int .nil))
            exact .nil
        · refine' DL.int_mk KX G ?e18; (case e18 => k_is)
        · refine' DL.int_mk KX G ?e19; (case e19 => k_is)
        · refine' DL.tup_mk KX G ?e20 ?l20 ?z20 ?k20
          (case e20 => k_is); (case l20 => k_is); (case z20 => decide +kernel)
          case k20 =>
            refine' DL.KvA.tup ?l21 ?z21 ?k21 ?r21; (case l21 => k_is); (case z21 => decide +kernel); (case k21 => exact .str (.int .nil))
            refine' DL.KvA.tup ?l22 ?z22 ?k22 ?r22; (case l22 => k_is); (case z22 => decide +kernel); (case k22 => exact .str (.int .nil))
            refine' DL.KvA.tup ?l23 ?z23 ?k23 ?r23; (case l23 => k_is); (case z23 => decide +kernel); (case k23 => exact .str (.int .nil))
            refine' DL.KvA.tup ?l24 ?z24 ?k24 ?r24; (case l24 => k_is); (case z24 => decide +kernel); (case k24 => exact .str (.int .nil))
            refine' DL.KvA.tup ?l25 ?z25 ?k25 ?r25; (case l25 => k_is); (case z25 => decide +kernel); (case k25 => exact .str (.int .nil))
            refine' DL.KvA.tup ?l26 ?z26 ?k26 ?r26; (case l26 => k_is); (case z26 => decide +kernel); (case k26 => exact .str (.int .nil))
            refine' DL.KvA.tup ?l27 ?z27 ?k27 ?r27; (case l27 => k_is); (case z27 => decide +kernel); (case k27 => exact .str (.int .nil))
            exact .nil
        · refine' DL.int_mk KX G ?e28; (case e28 => k_is)
        · refine' DL.int_mk KX G ?e29; (case e29 => k_is)
        · refine' DL.int_mk KX G ?e30; (case e30 => k_is)
        · refine' DL.int_mk KX G ?e31; (case e31 => k_is)
        · refine' DL.tup_mk KX G ?e32 ?l32 ?z32 ?k32
          (case e32 => k_is); (case l32 => k_is); (case z32 => decide +kernel)
          (case k32 => repeat' (first | exact .nil | refine .str ?_ | refine .int ?_))
        · refine' DL.int_mk KX G ?e33; (case e33 => k_is)
        · refine' DL.int_mk KX G ?e34; (case e34 => k_is)
      case d_is_integer => refine' DL.dfn_mk KX G K21.bn_is_integer ?a35 ?l35 ?c35 ?k35; (case a35 => k_is); (case l35 => k_is); (case c35 => k_is); (case k35 => k_is)
      case d_is_within => refine' DL.dfn_mk KX G K21.bn_is_within ?a36 ?l36 ?c36 ?k36; (case a36 => k_is); (case l36 => k_is); (case c36 => k_is); (case k36 => k_is)
      case d_is_name => refine' DL.dfn_mk KX G K21.bn_is_name ?a37 ?l37 ?c37 ?k37; (case a37 => k_is); (case l37 => k_is); (case c37 => k_is); (case k37 => k_is)
      case d_has_form => refine' DL.dfn_mk KX G K21.bn_has_form ?a38 ?l38 ?c38 ?k38; (case a38 => k_is); (case l38 => k_is); (case c38 => k_is); (case k38 => k_is)
      case d_is_expression => refine' DL.dfn_mk KX G K21.bn_is_expression ?a39 ?l39 ?c39 ?k39; (case a39 => k_is); (case l39 => k_is); (case c39 => k_is); (case k39 => k_is)
      case d_is_test => refine' DL.dfn_mk KX G K21.bn_is_test ?a40 ?l40 ?c40 ?k40; (case a40 => k_is); (case l40 => k_is); (case c40 => k_is); (case k40 => k_is)
      case d_blocks_of => refine' DL.dfn_mk KX G K21.bn_blocks_of ?a41 ?l41 ?c41 ?k41; (case a41 => k_is); (case l41 => k_is); (case c41 => k_is); (case k41 => k_is)
      case d_is_statement => refine' DL.dfn_mk KX G K21.bn_is_statement ?a42 ?l42 ?c42 ?k42; (case a42 => k_is); (case l42 => k_is); (case c42 => k_is); (case k42 => k_is)
      case d_fault_in => refine' DL.dfn_mk KX G K21.bn_fault_in ?a43 ?l43 ?c43 ?k43; (case a43 => k_is); (case l43 => k_is); (case c43 => k_is); (case k43 => k_is)
      case d_kind_of => refine' DL.dfn_mk KX G K21.bn_kind_of ?a ?l ?c ?k; (case a => k_is); (case l => k_is); (case c => k_is); (case k => k_is)
      case d_counted => refine' DL.dfn_mk KX G K21.bn_counted ?a45 ?l45 ?c45 ?k45; (case a45 => k_is); (case l45 => k_is); (case c45 => k_is); (case k45 => k_is)
      case d_bound_passed => refine' DL.dfn_mk KX G K21.bn_bound_passed ?a ?l ?c ?k; (case a => k_is); (case l => k_is); (case c => k_is); (case k => k_is)
      case d_program_error => refine' DL.dfn_mk KX G K21.bn_program_error ?a47 ?l47 ?c47 ?k47; (case a47 => k_is); (case l47 => k_is); (case c47 => k_is); (case k47 => k_is)
      case d__law_deck => refine' DL.dfn_mk KX G K21.bn__law_deck ?a48 ?l48 ?c48 ?k48; (case a48 => k_is); (case l48 => k_is); (case c48 => k_is); (case k48 => k_is)
      case d__law_draw => refine' DL.dfn_mk KX G K21.bn__law_draw ?a49 ?l49 ?c49 ?k49; (case a49 => k_is); (case l49 => k_is); (case c49 => k_is); (case k49 => k_is)
      case d__law_one => refine' DL.dfn_mk KX G K21.bn__law_one ?a50 ?l50 ?c50 ?k50; (case a50 => k_is); (case l50 => k_is); (case c50 => k_is); (case k50 => k_is)
      case d__law_names => refine' DL.dfn_mk KX G K21.bn__law_names ?a51 ?l51 ?c51 ?k51; (case a51 => k_is); (case l51 => k_is); (case c51 => k_is); (case k51 => k_is)
      case d__law_parts => refine' DL.dfn_mk KX G K21.bn__law_parts ?a52 ?l52 ?c52 ?k52; (case a52 => k_is); (case l52 => k_is); (case c52 => k_is); (case k52 => k_is)
      case d__law_whole => refine' DL.dfn_mk KX G K21.bn__law_whole ?a53 ?l53 ?c53 ?k53; (case a53 => k_is); (case l53 => k_is); (case c53 => k_is); (case k53 => k_is)
      case d__law_is_name => refine' DL.dfn_mk KX G K21.bn__law_is_name ?a54 ?l54 ?c54 ?k54; (case a54 => k_is); (case l54 => k_is); (case c54 => k_is); (case k54 => k_is)
      case d__law_is_expression => refine' DL.dfn_mk KX G K21.bn__law_is_expression ?a55 ?l55 ?c55 ?k55; (case a55 => k_is); (case l55 => k_is); (case c55 => k_is); (case k55 => k_is)
      case d__law_is_rest => refine' DL.dfn_mk KX G K21.bn__law_is_rest ?a56 ?l56 ?c56 ?k56; (case a56 => k_is); (case l56 => k_is); (case c56 => k_is); (case k56 => k_is)
      case d__law_is_test => refine' DL.dfn_mk KX G K21.bn__law_is_test ?a57 ?l57 ?c57 ?k57; (case a57 => k_is); (case l57 => k_is); (case c57 => k_is); (case k57 => k_is)
      case d__law_is_statement => refine' DL.dfn_mk KX G K21.bn__law_is_statement ?a58 ?l58 ?c58 ?k58; (case a58 => k_is); (case l58 => k_is); (case c58 => k_is); (case k58 => k_is)
      case d__law_counts => refine' DL.dfn_mk KX G K21.bn__law_counts ?a59 ?l59 ?c59 ?k59; (case a59 => k_is); (case l59 => k_is); (case c59 => k_is); (case k59 => k_is)
      case d__law_error => refine' DL.dfn_mk KX G K21.bn__law_error ?a60 ?l60 ?c60 ?k60; (case a60 => k_is); (case l60 => k_is); (case c60 => k_is); (case k60 => k_is)
      case d__law_odd => refine' DL.dfn_mk KX G K21.bn__law_odd ?a61 ?l61 ?c61 ?k61; (case a61 => k_is); (case l61 => k_is); (case c61 => k_is); (case k61 => k_is)
      case d__law_bent => refine' DL.dfn_mk KX G K21.bn__law_bent ?a62 ?l62 ?c62 ?k62; (case a62 => k_is); (case l62 => k_is); (case c62 => k_is); (case k62 => k_is)
      case d__law_deep => refine' DL.dfn_mk KX G K21.bn__law_deep ?a63 ?l63 ?c63 ?k63; (case a63 => k_is); (case l63 => k_is); (case c63 => k_is); (case k63 => k_is)
      case d__law_statement => refine' DL.dfn_mk KX G K21.bn__law_statement ?a64 ?l64 ?c64 ?k64; (case a64 => k_is); (case l64 => k_is); (case c64 => k_is); (case k64 => k_is)
      case d__law_edges_right => refine' DL.dfn_mk KX G K21.bn__law_edges_right ?a65 ?l65 ?c65 ?k65; (case a65 => k_is); (case l65 => k_is); (case c65 => k_is); (case k65 => k_is)
