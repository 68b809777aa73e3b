import PyProof.Rows.All
import Wide.All
import OpenK.AllK
import Wide.FinOn
import HandS.ForMost
import HandS.ForExc
import HandS.Defaults
import HandS.Ends
import HandS.Head0
import HandS.Head1
import HandS.Head2
import HandS.HeadEnd
import HandS.HeadHook1
import HandS.HeadHook2
import HandS.HeadHook3
import HandS.HeadHook4
import HandS.Flow
import HandS.Wide
import HandS.TupAny
import HandS.Conv
import HandS.IsInst
import HandS.More
import HandS.Style
import HandS.ExcInit
import HandS.ExcField
import HandS.TryMany
import HandS.CallLocal
import HandS.CallRecv
import HandS.Steps
import PySem.Challenge.RW_pourparler_k08_check_table
set_option Elab.async false
set_option linter.all false
set_option maxRecDepth 100000
section
namespace Rf
open PySem PySem.Spec PyProof.Rows L2

/-! ## defs, where no container's text is under way -/
structure FnG (P : Program) (w : World) (K : PySem.W.Frag) (mg : Str → Option Value) (base : Heap) (CX : CXT) (k : Nat) (f : Addr) (fd : FuncData) (ps : List Str) (sp : Sp) : Prop where
  ln : ∀ vs H Q E, sp vs H Q E → vs.length = ps.length
  go : ∀ (A : Around) (out : List Env) (s : Shared) (H : Hp) (ar : Args) (us : List Value) (vs : List V) (Q : VK) (E : XK),
    A.guards = some [] → Room k A → Env0 P w K mg base A out s H → BindsTo s fd ar (ps.zip us) → Vals vs us → sp vs H Q E →
      codeAny (model P w) A (.call (.ref f) ar) (CR CX out P w H s Q E) s
theorem FnG.imp {P : Program} {w : World} {K : PySem.W.Frag} {mg : Str → Option Value} {base : Heap} {CX : CXT} {k : Nat} {f : Addr} {fd : FuncData} {ps : List Str} {sp sp' : Sp} (F : FnG P w K mg base CX k f fd ps sp)
    (h : ∀ vs H Q E, sp' vs H Q E → sp vs H Q E) : FnG P w K mg base CX k f fd ps sp' where
  ln := fun vs H Q E q => F.ln vs H Q E (h vs H Q E q)
  go := fun A out s H ar us vs Q E g hr e0 hb hv q => F.go A out s H ar us vs Q E g hr e0 hb hv (h vs H Q E q)
/-- a call's result, looked at -/
theorem cr_end {X : Cx} {CX : CXT} {pins : List (Addr × Obj)} {σ : L2.St} {H : Hp} {s s' : Shared} {Q : VK} {E : XK} {r : Result} (I : Inv X pins σ H s)
    (hx : ∀ e, r = .error e → CX X.stack H s E e s' → X.xe e s') (h : CR CX X.stack X.prog X.w H s Q E r s') :
    match r with | .ok (.ret u) => EP X pins σ Q u s' | .ok _ => False | .error e => X.xe e s' := by
  rcases r with e | fl
  · exact hx e rfl h
  · rcases fl with _ | _ | _ | u
    · exact h
    · exact h
    · exact h
    · exact I.after h
theorem run_G {X : Cx} {CX : CXT} {k : Nat} {f : Addr} {fd : FuncData} {ps : List Str} {sp : Sp} {E : L2.St → XK} {pins : List (Addr × Obj)} {σ : L2.St} {H : Hp} {s : Shared} {Q : VK} {us : List Value} {vs : List V}
    (F : FnG X.prog X.w X.K X.mg X.base CX k f fd ps sp) (g : X.A.guards = some []) (hr : Room k X.A) (hb : Binds X.K fd ps []) (hx : PassesAt CX X σ (E σ))
    (I : Inv X pins σ H s) (r : Vals vs us) (h : sp vs H Q (E σ)) : wpAny (model X.prog X.w) X.A (call (.ref f) us) (EP X pins σ Q) X.xe s := by
  have b := hb s us I.kIn (by rw [List.append_nil, ← r.length]; exact F.ln _ _ _ _ h)
  rw [List.append_nil] at b
  apply wpAny_call
  refine codeAny_mono (F.go X.A X.stack s H ⟨us, []⟩ us vs Q (E σ) g hr I.env0 b r h) fun r' s' q => ?_
  have z := cr_end I (fun e _ c => hx pins H s e s' I c) q
  rcases r' with e | fl
  · exact z
  · rcases fl with _ | _ | _ | u
    · exact z
    · exact z
    · exact z
    · exact z
/-- a def by its body -/
theorem fn_G {CX : CXT} {P : Program} {w : World} {K : PySem.W.Frag} {mg : Str → Option Value} {base : Heap} {k : Nat} {f : Addr} {fd : FuncData} {name qual : Str} {params : Arguments} {body : List Stmt} {scope : Scope} {dvs : List V} {kws : List (Str × V)}
    {N ps : List Str} {sp : Sp} (F : FunD K name qual params body scope dvs kws f fd) (S : FnScope N ps scope) (ln : ∀ vs H Q E, sp vs H Q E → vs.length = ps.length)
    (hbody : ∀ (cdv : Value) (A : Around) (out : List Env) (s : Shared) (H : Hp) (vs : List V) (Q : VK) (E : XK), A.guards = some [] → Room k (A.deeper (envOfC qual scope s.heap.objs.size f cdv)) → sp vs H Q E →
      ∃ t, PSs (cxOf CX P w K mg base N qual scope f cdv A out s H E) body t ∧ t { nx := fun _ H' => Q .non H', rt := Q } (L2.start N vs) H) :
    FnG P w K mg base CX (k + 1) f fd ps sp := by
  obtain ⟨oc, od, dV, kV, doc, pm, an, cdv, ct, osl, rfl, lk, hcd, _, _⟩ := F.ex
  constructor
  · exact ln
  intro A out s H ar us vs Q E g hr e0 hb r hsp
  have keep : ∀ b o, base.get? b = some o → s.heap.get? b = some o := fun b o e => (e0.bs b o e).1
  have KX := e0.mod.kin.keeps keep
  have lim := e0.mod.nolimit.keeps keep
  have hk : ∀ y ∈ ps.zip us, scope.names.lookup y.1 = some .local ∨
      (scope.names.lookup y.1 = some .cell ∧ ((cellsFrom (s.heap.objs.size + 1) scope.names []).lookup y.1).isSome = true) := by
    rintro ⟨n, v⟩ hy
    refine (S.par n (List.of_mem_zip hy).1).imp id fun q => ?_
    exact ⟨q, PySem.W.cellsFrom_some _ _ _ (.inl q)⟩
  apply codeAny_call_function hr.depth (KX _ _ lk) rfl S.co S.gen rfl (PySem.W.codeRec_of KX hcd)
  refine hb _ _ _ _ (wpAny_newFunctionEnv_cells S.kind hk fun env he s1 x => ?_)
  subst he
  refine ⟨lim.keeps x.toInCall.keep, codeAny_func ?_⟩
  obtain ⟨t, ht, hq⟩ := hbody cdv A out s H vs Q E g (hr.deeper _) hsp
  have I : Inv (cxOf CX P w K mg base N qual scope f cdv A out s H E) [] (L2.start N vs) H s1 :=
    inv_start S hr.hd e0 (ln _ _ _ _ hsp) r x
  refine wpAny_mono (ht.run [] s1 _ H _ I hq) (fun fl s' hs => ?_) fun _ _ q => q
  rcases fl with _ | _ | _ | u
  · obtain ⟨σ', H', J, q⟩ := hs
    exact ⟨.non, H', J.os, J.bare, J.base, J.hok, rfl, q⟩
  · obtain ⟨_, _, _, q⟩ := hs; exact q.elim
  · obtain ⟨_, _, _, q⟩ := hs; exact q.elim
  · obtain ⟨v, σ', H', J, rv, q⟩ := hs
    exact ⟨v, H', J.os, J.bare, J.base, J.hok, rv, q⟩
/-- the law's call -/
theorem law_G {P : Program} {w : World} {K : PySem.W.Frag} {mg mb : Str → Option Value} {CX : CXT} {k : Nat} {fa a : Addr} {fd : FuncData} {x : Str} {sp : Sp} {s₁ : Shared} {vs : List Value} {ns : List Int}
    (KX : K.In s₁.heap) (hns : s₁.heap.Ns mainGlobals mg) (hb : s₁.heap.Ns builtinsNs mb) (hbb : ∀ x : Str, x ≠ "__name__" → mb x = bootBuiltins x) (lim : s₁.heap.NoLimit) (hg : s₁.gens = #[])
    (ha : s₁.heap.get? a = some { cls := .type "list", data := .seq vs.toArray }) (hi : IntsAre vs ns) (hl : ns.length ≤ sizeLine) (hr : Room k callerA)
    (F : ∀ base : Heap, K.In base → base.Ns mainGlobals mg → FnG P w K mg base CX k fa fd [x] sp) (bind : ∀ (s : Shared) (u : Value), BindsTo s fd ⟨[u], []⟩ [(x, u)])
    (hsp : ∀ H : Hp, Only H → SqL K H a (ns.map V.int) → sp [.ref a] H (fun v _ => v = .bl true) fun _ _ _ => False)
    (hCX : ∀ H e s', CX [] H s₁ (fun _ _ _ => False) e s' → False) :
    codeAny (model P w) callerA (.call (.ref fa) ⟨[.ref a], []⟩) (fun r s' => r = .ok (.ret (.bool true)) ∧ OldK s₁.heap s'.heap ∧ s'.os = s₁.os ∧ AllBare s'.gens) s₁ := by
  have main : ∀ H : Hp, Only H → SqL K H a (ns.map V.int) → HOk P w H s₁.heap →
      ((∀ b, H b = none) ∨ ((∀ b, b ≠ a → H b = none) ∧ K.lookup a = none)) →
      codeAny (model P w) callerA (.call (.ref fa) ⟨[.ref a], []⟩) (fun r s' => r = .ok (.ret (.bool true)) ∧
        OldK s₁.heap s'.heap ∧ s'.os = s₁.os ∧ AllBare s'.gens) s₁ := by
    intro H hO hS hok hA
    have hd : ∀ {b : Addr} {o : Obj} {es : Array DictEntry} {ep : Nat}, s₁.heap.get? b = some o → o.data = .dict es ep → H b = none := by
      intro b o es ep e d
      rcases hA with hA | ⟨hA, _⟩
      · exact hA b
      · by_cases hba : b = a
        · subst hba
          rw [ha] at e; cases e
          cases d
        · exact hA b hba
    have ns' : ∀ {b : Addr} {m : Str → Option Value}, s₁.heap.Ns b m → (hidT s₁.heap H).Ns b m := by
      rintro b m ⟨o, es, ep, e, d, r⟩
      exact ⟨o, es, ep, hidT_get e (hd e d), d, r⟩
    have hK : K.In (hidT s₁.heap H) := by
      intro b o e
      refine hidT_get (KX b o e) ?_
      rcases hA with hA | ⟨hA, hn⟩
      · exact hA b
      · refine hA b fun q => ?_
        rw [q, hn] at e; cases e
    have hM : Mod K mg (hidT s₁.heap H) := by
      obtain ⟨mc, h1, h2⟩ := lim
      exact ⟨hK, ns' hns, ⟨mb, ns' hb, hbb⟩, mc, ns' h1, h2⟩
    have e0 : Env0 P w K mg (hidT s₁.heap H) callerA [] s₁ H := by
      refine ⟨rfl, hM, fun b o e => of_hidT e, Nat.le_of_eq (hidT_size _ _), trivial, ?_, hok, .of_eq hg⟩
      intro b hb
      exact absurd (show b ∈ ([] : List Addr) from hb) List.not_mem_nil
    have Z := (F _ hK (ns' hns)).go callerA [] s₁ H ⟨[.ref a], []⟩ [.ref a] [.ref a] _ _ rfl hr e0 (bind s₁ (.ref a)) (.cons rfl .nil) (hsp H hO hS)
    refine codeAny_mono Z fun r s' h => ?_
    rcases r with e | fl
    · exact (hCX H e s' h).elim
    rcases fl with _ | _ | _ | u
    · exact h.elim
    · exact h.elim
    · exact h.elim
    obtain ⟨v, H', os, bare, un, hok', r', q⟩ := h
    obtain rfl : v = .bl true := q
    obtain rfl : u = Value.bool true := r'
    refine ⟨rfl, OldK.of_keep fun b o e => ?_, os, bare⟩
    rcases hO b with z | ⟨ob, xs, z⟩
    · exact un.keep b o e z (fun m => absurd (show b ∈ ([] : List Addr) from m) List.not_mem_nil) List.not_mem_nil
    · obtain ⟨e1, _⟩ := hok b _ z
      obtain ⟨e2, _⟩ := hok' b _ (un.frzs b ob _ z)
      rw [e] at e1; cases e1
      exact e2
  have rv := vals_ints hi
  cases hk : K.lookup a with
  | some o =>
    have e := KX a o hk
    rw [ha] at e; cases e
    refine main (fun _ => none) (fun _ => .inl rfl) ?_ (fun b u z => ?_) (.inl fun _ => rfl)
    · exact .inr ⟨_, vs.toArray, _, hk, rfl, rfl, rfl, by rw [List.size_toArray, hi.length]; exact hl, by simpa using rv⟩
    · cases (show (none : Option HO) = some u from z)
  | none =>
    refine main (fun b => if b = a then some (.frz { cls := .type "list", data := .seq vs.toArray } (.lst (ns.map V.int))) else none) ?_ ?_ ?_ (.inr ⟨fun b hb => if_neg hb, hk⟩)
    · intro b
      by_cases e : b = a
      · exact .inr ⟨_, _, if_pos e⟩
      · exact .inl (if_neg e)
    · exact .inl (.inr ⟨{ cls := .type "list", data := .seq vs.toArray }, if_pos rfl⟩)
    · intro b u z
      by_cases e : b = a
      · have z' := (if_pos e).symm.trans z
        cases z'
        subst e
        exact ⟨ha, by rw [List.length_map]; exact hl, vs, _, rv, ha⟩
      · cases (if_neg e).symm.trans z
/-- the end of the head -/
theorem walk_G {l : PySem.W.OpenLaw} {n k : Nat} {q : Program} {loose : List Str} {XP : (Str → Option Value) → Heap → Prop} {YP : World → Heap → Prop} {d : DefRec} {CX : CXT} {x : Str}
    (hn : l.most = some n) (hn2 : n ≤ sizeLine) (hdf : d.params.defaults = []) (hr : Room k callerA)
    (F : ∀ (w : World) (mg : Str → Option Value) (fa : Addr) (h : Heap), YP w h → h.Ns mainGlobals mg → mg d.name = some (.ref fa) →
      ∃ (K : PySem.W.Frag) (fd : FuncData) (sp : Sp), K.In h ∧ (∀ (s : Shared) (u : Value), BindsTo s fd ⟨[u], []⟩ [(x, u)]) ∧
        (∀ (H : Hp) (a : Addr) (ns : List Int), ns.length ≤ n → Only H → SqL K H a (ns.map V.int) → sp [.ref a] H (fun v _ => v = .bl true) fun _ _ _ => False) ∧
        ∀ base : Heap, K.In base → base.Ns mainGlobals mg → FnG l.prog w K mg base CX k fa fd [x] sp)
    (hCX : ∀ (H : Hp) (s : Shared) (e : Value) (s' : Shared), CX [] H s (fun _ _ _ => False) e s' → False) :
    PySem.W.WalkO q loose XP YP l.row.toRowW d [] (fun f vs => PySem.call f vs) := by
  refine Att.attach_call hn hdf fun w s₀ s₁ mg mb fa o pm cd doc a vs ns G Y ho hd hcd hmg hobj hints hlen hg => ?_
  obtain ⟨K, fd, sp, KX, bd, hs, hF⟩ := F w mg fa _ Y G.T.g hmg
  exact law_G KX G.T.g G.T.b G.T.builtins G.T.nolimit hg hobj hints (Nat.le_trans hlen hn2) hr hF bd
    (fun H hO hS => hs H a ns hlen hO hS) fun H e s' => hCX H s₁ e s'
end Rf
end

section
namespace Rf
open PySem PySem.Spec PyProof.Rows L2

/-! ## data, heaps, programs -/
inductive D where
  | non | bl (b : Bool) | int (i : Int) | str (s : List Char) | tup (xs : List D) | ob (n : Nat) | fn (i : Nat) | con (g : Nat)
  deriving Inhabited
inductive MO where
  | lst (xs : List D)
  | dic (lk t : Bool) (kvs : List (D × D))
  | ins (c : Nat) (fs : List (String × D))
  | scr (xs : List Int)
abbrev Hs := List MO
abbrev Sg := List (Option D)

inductive R (α : Type) where
  | ok (a : α) (h : Hs) | exc (c : Nat) (fs : List (String × D)) (h : Hs) | no
def R.bind {α β : Type} (r : R α) (f : α → Hs → R β) : R β := match r with
  | .ok a h => f a h
  | .exc c fs h => .exc c fs h
  | .no => .no
@[simp] theorem R.bind_ok {α β : Type} (a : α) (h : Hs) (f : α → Hs → R β) : (R.ok a h).bind f = f a h := rfl
@[simp] theorem R.bind_exc {α β : Type} (c fs h) (f : α → Hs → R β) : (R.exc c fs h : R α).bind f = .exc c fs h := rfl
@[simp] theorem R.bind_no {α β : Type} (f : α → Hs → R β) : (R.no : R α).bind f = .no := rfl

mutual
def toPy : D → PyData
  | .non => .none
  | .bl b => .bool b
  | .int i => .int i
  | .str s => .str ⟨(s.map Char.toNat).toArray⟩
  | .tup xs => .tuple (toPys xs)
  | .ob _ => .none
  | .fn _ => .none
  | .con _ => .none
def toPys : List D → List PyData
  | [] => []
  | x :: xs => toPy x :: toPys xs
end
mutual
def pur : D → Bool
  | .tup xs => purs xs
  | .ob _ => false
  | .fn _ => false
  | .con _ => false
  | _ => true
def purs : List D → Bool
  | [] => true
  | x :: xs => pur x && purs xs
end
mutual
def dep : D → Nat
  | .tup xs => deps xs + 1
  | _ => 0
def deps : List D → Nat
  | [] => 0
  | x :: xs => max (dep x) (deps xs)
end
mutual
def eqv : D → D → Bool
  | .non, .non => true
  | .bl a, .bl b => a == b
  | .bl a, .int j => (if a then 1 else 0) == j
  | .int i, .bl b => i == (if b then 1 else 0)
  | .int i, .int j => i == j
  | .str x, .str y => x == y
  | .tup xs, .tup ys => eqvs xs ys
  | _, _ => false
def eqvs : List D → List D → Bool
  | [], [] => true
  | x :: xs, y :: ys => eqv x y && eqvs xs ys
  | _, _ => false
end
def flat (d : D) : Bool := pur d && decide (dep d ≤ 64)

/-- == -/
def eqD (h : Hs) (x y : D) : Option Bool :=
  match x, y with
  | .ob n, .ob m => match h[n]?, h[m]? with
    | some (.lst xs), some (.lst ys) => if purs xs && purs ys && decide (deps xs ≤ 60) && decide (deps ys ≤ 60) then some (eqvs xs ys) else none
    | _, _ => none
  | _, _ => if flat x && flat y then some (eqv x y) else none

inductive Op where | add | sub | mul | fdiv | mod
  deriving DecidableEq
inductive Cp where | eq | ne | lt | le | gt | ge | in_ | nin | is_ | isn
  deriving DecidableEq
/-- what is walked -/
inductive Ik where | seq | rng1 | rng2 | keys | items | vals | zip | enum | rev
  deriving DecidableEq
inductive Tg where | nm (i : Nat) | tp (is : List Nat)
/-- built-in functions -/
inductive Bf where | len | abs | int | str | list | tuple | dict | min2 | max2 | isTup | isStr | isBool | isInt | isList | repr | sorted | bool | sum
  deriving DecidableEq

/-- methods of built-in values -/
inductive Mt where | update | append | extend | pop | insert | reverse | join | startswith | find | isalnum | get
  deriving DecidableEq
inductive E where
  | var (i : Nat) | cst (d : D) | glb (g : Nat) | gst (g : Nat) (s : List Char) | gni (g : Nat) (i : Int) | fnv (f : Nat)
  | bin (o : Op) (a b : E) | neg (a : E)
  | cmp (o : Cp) (a b : E) | chn (o o' : Cp) (a b c : E)
  | and (a b : E) | or (a b : E) | not (a : E) | ife (c a b : E)
  | tup (es : List E) | lst (es : List E) | dic (t : Bool) (ks vs : List E)
  | ix (a i : E) | slc (a : E) (lo hi : List E) | back (a : E)
  | fld (a : E) (f : String)
  | cal (f : Nat) (es : List E) | cav (i : Nat) (es : List E)
  | new (c : Nat) (es : List E)
  | met (o : E) (m : String) (es : List E)
  | blt (b : Bf) (es : List E)
  | lc (own : List Nat) (tg : Tg) (k : Ik) (its : List E) (cd : List E) (el : E)
  | exf (i : Nat) (f : String)

inductive S where
  | set (i : Nat) (e : E) | setT (is : List Nat) (e : E)
  | put (o i e : E) | fset (o : E) (f : String) (e : E)
  | aug (i : Nat) (o : Op) (e : E) | faug (a : E) (f : String) (o : Op) (e : E)
  | expr (e : E) | ret (e : E) | retN
  | ife (c : E) (a b : List S) | whl (c : E) (b : List S)
  | for_ (tg : Tg) (k : Ik) (its : List E) (b : List S)
  | raise (c : Nat) (es : List E)
  | try_ (b : List S) (hs : List (Nat × Option Nat × List S))
  | brk | cnt | pass | stuck
structure FI where
  np : Nat
  ns : Nat
  body : List S
structure CI where
  meths : List (String × Nat)
  ini : Option Nat
  flds : List String
structure Wd where
  fns : List FI
  cls : List CI
  cons : List (List D)
  isa : Nat → Nat → Bool
  scr : List Int := []
  exf : Nat → List String := fun _ => []

/-! ## texts of data -/
def plC (c : Char) : Bool := decide (32 ≤ c.toNat) && decide (c.toNat < 127) && decide (c.toNat ≠ 39) && decide (c.toNat ≠ 92)
def joinC : List (List Char) → List Char
  | [] => []
  | [x] => x
  | x :: y :: r => x ++ ',' :: ' ' :: joinC (y :: r)
mutual
def rp : D → List Char
  | .non => ['N', 'o', 'n', 'e']
  | .bl true => ['T', 'r', 'u', 'e']
  | .bl false => ['F', 'a', 'l', 's', 'e']
  | .int i => (toString i).toList
  | .str s => '\'' :: s ++ ['\'']
  | .tup xs => '(' :: joinC (rps xs) ++ (match xs with | [_] => [',', ')'] | _ => [')'])
  | _ => []
def rps : List D → List (List Char)
  | [] => []
  | x :: xs => rp x :: rps xs
end
mutual
def rpOk : D → Bool
  | .int i => decide (i.natAbs.log2 < 1920)
  | .str s => s.all plC
  | .tup xs => rpsOk xs
  | .non => true
  | .bl _ => true
  | _ => false
def rpsOk : List D → Bool
  | [] => true
  | x :: xs => rpOk x && rpsOk xs
end

/-! ## operations -/
def len2 {α : Type} (a b : List α) : Bool := decide (a.length + b.length ≤ sizeLine)
def opD (o : Op) (x y : D) (h : Hs) : R D :=
  match o, x, y with
  | .add, .int i, .int j => .ok (.int (i + j)) h
  | .sub, .int i, .int j => .ok (.int (i - j)) h
  | .mul, .int i, .int j => if (-(2 ^ 64) < i ∧ i < 2 ^ 64) ∨ (-(2 ^ 64) < j ∧ j < 2 ^ 64) then .ok (.int (i * j)) h else .no
  | .fdiv, .int i, .int j => if j ≠ 0 ∧ j.natAbs < 1073741824 then .ok (.int (i.fdiv j)) h else .no
  | .mod, .int i, .int j => if j ≠ 0 then .ok (.int (i.fmod j)) h else .no
  | .add, .str s, .str t => if s.length + t.length ≤ sizeLine then .ok (.str (s ++ t)) h else .no
  | .add, .tup s, .tup t => if s.length + t.length ≤ sizeLine then .ok (.tup (s ++ t)) h else .no
  | .add, .ob n, .ob m => match h[n]?, h[m]? with
    | some (.lst s), some (.lst t) => if s.length + t.length ≤ sizeLine then .ok (.ob h.length) (h ++ [.lst (s ++ t)]) else .no
    | _, _ => .no
  | _, _, _ => .no
def inL (x : D) (ys : List D) : Bool := ys.any fun y => eqv y x
def cmpI (g : Int → Int → Bool) (x y : D) (h : Hs) : R D := match x, y with
  | .int i, .int j => .ok (.bl (g i j)) h
  | _, _ => .no
def cmpD (o : Cp) (x y : D) (h : Hs) : R D :=
  match o with
  | .eq => match eqD h x y with | some b => .ok (.bl b) h | none => .no
  | .ne => match eqD h x y with | some b => .ok (.bl (!b)) h | none => .no
  | .lt => cmpI (fun i j => decide (i < j)) x y h
  | .le => cmpI (fun i j => decide (i ≤ j)) x y h
  | .gt => cmpI (fun i j => decide (j < i)) x y h
  | .ge => cmpI (fun i j => decide (j ≤ i)) x y h
  | _ => .no
def truth (x : D) (h : Hs) : Option Bool := match x with
  | .non => some false
  | .bl b => some b
  | .int i => some (i != 0)
  | .str s => if s.length ≤ sizeLine then some (!s.isEmpty) else none
  | .tup s => some (!s.isEmpty)
  | .ob n => match h[n]? with
    | some (.lst s) => some (!s.isEmpty)
    | some (.scr s) => some (!s.isEmpty)
    | _ => none
  | .fn _ => none
  | .con _ => none
end Rf
end

section
namespace Rf
open PySem PySem.Spec PyProof.Rows L2

def st (s : List Char) : Str := ⟨(s.map Char.toNat).toArray⟩
structure Gx where
  W : Wd
  K : PySem.W.Frag
  fa : Nat → Option Addr
  ca : Nat → Option Addr
  ga : Nat → Option Addr
  xd : Option (Addr × List (String × D))
  ex : Option (Nat × Addr)

mutual
def Rep (G : Gx) (as : List Addr) (H : Hp) : D → V → Prop
  | .non, v => v = .non
  | .bl b, v => v = .bl b
  | .int i, v => v = .int i
  | .str s, v => v = .str (st s)
  | .tup ds, v => ∃ a vs, v = .ref a ∧ H a = some (.tup vs) ∧ Reps G as H ds vs
  | .ob n, v => ∃ a, v = .ref a ∧ as[n]? = some a
  | .fn i, v => ∃ a, v = .ref a ∧ G.fa i = some a
  | .con g, v => ∃ a, v = .ref a ∧ G.ga g = some a
def Reps (G : Gx) (as : List Addr) (H : Hp) : List D → List V → Prop
  | [], vs => vs = []
  | d :: ds, vs => ∃ v r, vs = v :: r ∧ Rep G as H d v ∧ Reps G as H ds r
end
/-- keys -/
def keyK : D → Option Key
  | .int i => some (.inl i)
  | .str s => some (.inr (st s))
  | _ => none
def keyKs : List D → Option (List Key)
  | [] => some []
  | d :: ds => match keyK d, keyKs ds with
    | some k, some ks => some (k :: ks)
    | _, _ => none
def keyT : D → Option (List Key)
  | .tup ds => keyKs ds
  | _ => none
def RepKV {κ : Type} (ky : D → Option κ) (G : Gx) (as : List Addr) (H : Hp) : List (D × D) → List (κ × V) → Prop :=
  Paired fun p q => ky p.1 = some q.1 ∧ Rep G as H p.2 q.2
def RepF (G : Gx) (as : List Addr) (H : Hp) : List (String × D) → List (Str × V) → Prop :=
  Paired fun p q => q.1 = Str.ofString p.1 ∧ Rep G as H p.2 q.2
def lkd (lk : Bool) (H : Hp) (a : Addr) (o : HO) : Prop := if lk then ∃ od, H a = some (.frz od o) else H a = some o
def ObR (G : Gx) (as : List Addr) (H : Hp) (a : Addr) : MO → Prop
  | .lst xs => ∃ vs, H a = some (.lst vs) ∧ Reps G as H xs vs
  | .dic lk false kvs => ∃ kv, lkd lk H a (.dK kv) ∧ RepKV keyK G as H kvs kv
  | .dic lk true kvs => ∃ kv, lkd lk H a (.dT kv) ∧ RepKV keyT G as H kvs kv
  | .ins c fs => ∃ C dx vs, G.ca c = some C ∧ H a = some (.ins C dx vs) ∧ RepF G as H fs vs
  | .scr ns => ∃ o, H a = some (.frz o (.lst (ns.map V.int)))
/-- the fields of the exception at hand -/
def XdR (G : Gx) (as : List Addr) (H : Hp) : Prop := ∀ dd fs, G.xd = some (dd, fs) → dd ∉ as ∧ ∃ vs, H dd = some (.xd vs) ∧ RepF G as H fs vs
structure HI (G : Gx) (h : Hs) (as : List Addr) (H : Hp) : Prop where
  xd : XdR G as H
  len : as.length = h.length
  nd : as.Nodup
  ob : ∀ (n : Nat) (mo : MO) (a : Addr), h[n]? = some mo → as[n]? = some a → ObR G as H a mo
structure SL (G : Gx) (σI : Sg) (as : List Addr) (H : Hp) (σ : L2.St) : Prop where
  len : σI.length = σ.length
  at_ : ∀ (i : Nat) (d : D), σI[i]? = some (some d) → ∃ v, σ[i]? = some (some v) ∧ Rep G as H d v
  ex : ∀ (i : Nat) (a : Addr), G.ex = some (i, a) → σI[i]? = some none → σ[i]? = some (some (.ref a))
structure Ext (as : List Addr) (H : Hp) (as' : List Addr) (H' : Hp) : Prop where
  pre : ∀ (n : Nat) (a : Addr), as[n]? = some a → as'[n]? = some a
  tup : ∀ (a : Addr) (xs : List V), H a = some (.tup xs) → H' a = some (.tup xs)
  frz : ∀ (a : Addr) (o : Obj) (u : HO), H a = some (.frz o u) → H' a = some (.frz o u)
  out : ∀ (a : Addr) (o : HO), H a = some o → a ∉ as' → H' a = some o
  fresh : ∀ (a : Addr), a ∈ as' → a ∉ as → H a = none
theorem Ext.refl {as H} : Ext as H as H := ⟨fun _ _ h => h, fun _ _ h => h, fun _ _ _ h => h, fun _ _ h _ => h, fun _ h h' => absurd h h'⟩
theorem Ext.mem {as H as1 H1} (x : Ext as H as1 H1) {a : Addr} (h : a ∈ as) : a ∈ as1 := by
  obtain ⟨n, hn⟩ := List.getElem?_of_mem h
  exact List.mem_of_getElem? (x.pre n a hn)
theorem Ext.trans {as H as1 H1 as2 H2} (a : Ext as H as1 H1) (b : Ext as1 H1 as2 H2) : Ext as H as2 H2 := by
  refine ⟨fun n x h => b.pre n x (a.pre n x h), fun x xs h => b.tup x xs (a.tup x xs h), fun x o u h => b.frz x o u (a.frz x o u h), fun x o h hn => b.out x o (a.out x o h fun q => hn (b.mem q)) hn, fun x h hn => ?_⟩
  by_cases hm : x ∈ as1
  · exact a.fresh x hm hn
  · cases e : H x with
    | none => rfl
    | some o =>
      have := b.fresh x h hm
      rw [a.out x o e hm] at this; cases this
mutual
theorem Rep.mono0 {G : Gx} {as H as' H'} (pre : ∀ (n : Nat) (a : Addr), as[n]? = some a → as'[n]? = some a) (tup : ∀ (a : Addr) (xs : List V), H a = some (.tup xs) → H' a = some (.tup xs)) : ∀ {d : D} {v : V}, Rep G as H d v → Rep G as' H' d v
  | .non, _, h => h
  | .bl _, _, h => h
  | .int _, _, h => h
  | .str _, _, h => h
  | .tup ds, _, h => by
    simp only [Rep] at h ⊢
    obtain ⟨a, vs, e, s, r⟩ := h
    exact ⟨a, vs, e, tup _ _ s, Reps.mono0 pre tup r⟩
  | .ob n, _, h => by
    simp only [Rep] at h ⊢
    obtain ⟨a, e, s⟩ := h
    exact ⟨a, e, pre _ _ s⟩
  | .fn i, _, h => h
  | .con i, _, h => h
theorem Reps.mono0 {G : Gx} {as H as' H'} (pre : ∀ (n : Nat) (a : Addr), as[n]? = some a → as'[n]? = some a) (tup : ∀ (a : Addr) (xs : List V), H a = some (.tup xs) → H' a = some (.tup xs)) : ∀ {ds : List D} {vs : List V}, Reps G as H ds vs → Reps G as' H' ds vs
  | [], _, h => h
  | d :: ds, _, h => by
    simp only [Reps] at h ⊢
    obtain ⟨v, r, e, h1, h2⟩ := h
    exact ⟨v, r, e, Rep.mono0 pre tup h1, Reps.mono0 pre tup h2⟩
end
theorem Rep.mono {G : Gx} {as H as' H'} (x : Ext as H as' H') {d : D} {v : V} (h : Rep G as H d v) : Rep G as' H' d v := h.mono0 x.pre x.tup
theorem Reps.mono {G : Gx} {as H as' H'} (x : Ext as H as' H') {ds : List D} {vs : List V} (h : Reps G as H ds vs) : Reps G as' H' ds vs := h.mono0 x.pre x.tup
theorem SL.mono {G : Gx} {σI as H as' H' σ} (x : Ext as H as' H') (s : SL G σI as H σ) : SL G σI as' H' σ :=
  ⟨s.len, fun i d h => let ⟨v, e, r⟩ := s.at_ i d h; ⟨v, e, r.mono x⟩, s.ex⟩
theorem RepKV.mono {κ : Type} {ky : D → Option κ} {G : Gx} {as H as' H'} (x : Ext as H as' H') {a : List (D × D)} {b : List (κ × V)} (h : RepKV ky G as H a b) : RepKV ky G as' H' a b :=
  Paired.mapP h fun _ _ z => ⟨z.1, z.2.mono x⟩
theorem RepF.mono {G : Gx} {as H as' H'} (x : Ext as H as' H') {a b} (h : RepF G as H a b) : RepF G as' H' a b :=
  Paired.mapP h fun _ _ z => ⟨z.1, z.2.mono x⟩
theorem XdR.ext {G : Gx} {as H as' H'} (x : Ext as H as' H') (h : XdR G as H) : XdR G as' H' := fun dd fs e => by
  obtain ⟨h1, vs, h2, h3⟩ := h dd fs e
  have n : dd ∉ as' := fun q => by
    have := x.fresh dd q h1
    rw [h2] at this; cases this
  exact ⟨n, vs, x.out dd _ h2 n, h3.mono x⟩
theorem ObR.mono0 {G : Gx} {as H as' H' a} (pre : ∀ (n : Nat) (a : Addr), as[n]? = some a → as'[n]? = some a) (tup : ∀ (a : Addr) (xs : List V), H a = some (.tup xs) → H' a = some (.tup xs)) (e : H' a = H a) : ∀ {mo : MO}, ObR G as H a mo → ObR G as' H' a mo
  | .lst xs, h => by
    obtain ⟨vs, h1, h2⟩ := h
    exact ⟨vs, e ▸ h1, h2.mono0 pre tup⟩
  | .dic lk false kvs, h => by
    obtain ⟨kv, h1, h2⟩ := h
    refine ⟨kv, ?_, Paired.mapP h2 fun _ _ z => ⟨z.1, z.2.mono0 pre tup⟩⟩
    unfold lkd at h1 ⊢; rw [e]; exact h1
  | .dic lk true kvs, h => by
    obtain ⟨kv, h1, h2⟩ := h
    refine ⟨kv, ?_, Paired.mapP h2 fun _ _ z => ⟨z.1, z.2.mono0 pre tup⟩⟩
    unfold lkd at h1 ⊢; rw [e]; exact h1
  | .ins c fs, h => by
    obtain ⟨C, dx, vs, h1, h2, h3⟩ := h
    exact ⟨C, dx, vs, h1, e ▸ h2, Paired.mapP h3 fun _ _ z => ⟨z.1, z.2.mono0 pre tup⟩⟩
  | .scr ns, h => by
    obtain ⟨o, h1⟩ := h
    exact ⟨o, e ▸ h1⟩
theorem ObR.mono {G : Gx} {as H as' H' a} (x : Ext as H as' H') (e : H' a = H a) {mo : MO} (h : ObR G as H a mo) : ObR G as' H' a mo := h.mono0 x.pre x.tup e
theorem Reps.length {G : Gx} {as H} : ∀ {ds : List D} {vs : List V}, Reps G as H ds vs → ds.length = vs.length
  | [], _, h => by simp only [Reps] at h; subst h; rfl
  | d :: ds, _, h => by
    simp only [Reps] at h
    obtain ⟨v, r, rfl, h1, h2⟩ := h
    simp [Reps.length h2]
theorem Reps.get {G : Gx} {as H} : ∀ {ds : List D} {vs : List V} {i : Nat} {d : D}, Reps G as H ds vs → ds[i]? = some d → ∃ v, vs[i]? = some v ∧ Rep G as H d v
  | [], _, _, _, _, e => by simp at e
  | d :: ds, _, 0, _, h, e => by
    simp only [Reps] at h
    obtain ⟨v, r, rfl, h1, h2⟩ := h
    simp at e; subst e
    exact ⟨v, rfl, h1⟩
  | d :: ds, _, i + 1, _, h, e => by
    simp only [Reps] at h
    obtain ⟨v, r, rfl, h1, h2⟩ := h
    simpa using Reps.get h2 (by simpa using e)
theorem Reps.append {G : Gx} {as H} : ∀ {ds es : List D} {vs ws : List V}, Reps G as H ds vs → Reps G as H es ws → Reps G as H (ds ++ es) (vs ++ ws)
  | [], _, _, _, h, k => by simp only [Reps] at h; subst h; simpa using k
  | d :: ds, _, _, _, h, k => by
    simp only [Reps] at h
    obtain ⟨v, r, rfl, h1, h2⟩ := h
    simp only [List.cons_append, Reps]
    exact ⟨v, _, rfl, h1, Reps.append h2 k⟩
theorem Reps.one {G : Gx} {as H d v} (h : Rep G as H d v) : Reps G as H [d] [v] := by
  simp only [Reps]; exact ⟨v, [], rfl, h, rfl⟩
theorem Reps.drop {G : Gx} {as H} : ∀ (n : Nat) {ds : List D} {vs : List V}, Reps G as H ds vs → Reps G as H (ds.drop n) (vs.drop n)
  | 0, _, _, h => h
  | n + 1, [], _, h => by simp only [Reps] at h; subst h; simp [Reps]
  | n + 1, d :: ds, _, h => by
    simp only [Reps] at h
    obtain ⟨v, r, rfl, h1, h2⟩ := h
    exact Reps.drop n h2
theorem Reps.take {G : Gx} {as H} : ∀ (n : Nat) {ds : List D} {vs : List V}, Reps G as H ds vs → Reps G as H (ds.take n) (vs.take n)
  | 0, _, _, h => by simp [Reps]
  | n + 1, [], _, h => by simp only [Reps] at h; subst h; simp [Reps]
  | n + 1, d :: ds, _, h => by
    simp only [Reps] at h
    obtain ⟨v, r, rfl, h1, h2⟩ := h
    simp only [List.take_succ_cons, Reps]
    exact ⟨v, _, rfl, h1, Reps.take n h2⟩
theorem Reps.set {G : Gx} {as H d v} (hd : Rep G as H d v) : ∀ (n : Nat) {ds : List D} {vs : List V}, Reps G as H ds vs → Reps G as H (ds.set n d) (vs.set n v)
  | _, [], _, h => by simp only [Reps] at h; subst h; simp [Reps]
  | 0, e :: ds, _, h => by
    simp only [Reps] at h
    obtain ⟨w, r, rfl, h1, h2⟩ := h
    simp only [List.set_cons_zero, Reps]
    exact ⟨v, _, rfl, hd, h2⟩
  | n + 1, e :: ds, _, h => by
    simp only [Reps] at h
    obtain ⟨w, r, rfl, h1, h2⟩ := h
    simp only [List.set_cons_succ, Reps]
    exact ⟨w, _, rfl, h1, Reps.set hd n h2⟩
theorem Reps.reverse {G : Gx} {as H} : ∀ {ds : List D} {vs : List V}, Reps G as H ds vs → Reps G as H ds.reverse vs.reverse
  | [], _, h => by simp only [Reps] at h; subst h; simp [Reps]
  | d :: ds, _, h => by
    simp only [Reps] at h
    obtain ⟨v, r, rfl, h1, h2⟩ := h
    rw [List.reverse_cons, List.reverse_cons]
    exact Reps.append (Reps.reverse h2) (Reps.one h1)
theorem Reps.ints {G : Gx} {as H} : ∀ {ns : List Int}, Reps G as H (ns.map D.int) (ns.map V.int)
  | [] => by simp [Reps]
  | n :: ns => by simp only [List.map_cons, Reps]; exact ⟨_, _, rfl, rfl, Reps.ints⟩
theorem Reps.nil_iff {G : Gx} {as H ds vs} (h : Reps G as H ds vs) : ds = [] ↔ vs = [] := by
  have := h.length
  constructor
  · rintro rfl; exact List.length_eq_zero_iff.mp (by simpa using this.symm)
  · rintro rfl; exact List.length_eq_zero_iff.mp (by simpa using this)

/-! ## extension by a new object, by a store -/
section
variable {G : Gx} {h : Hs} {as : List Addr} {H : Hp}
theorem tup_upd {H : Hp} {p : Addr} {o : HO} {a : Addr} {xs : List V} (hp : ∀ ys, H p ≠ some (.tup ys)) (h : H a = some (.tup xs)) : upd H p o a = some (.tup xs) := by
  rw [upd_ne (fun e => by subst e; exact hp _ h)]; exact h
theorem frz_upd {H : Hp} {p : Addr} {o : HO} {a : Addr} {ob : Obj} {u : HO} (hp : ∀ ob u, H p ≠ some (.frz ob u)) (h : H a = some (.frz ob u)) : upd H p o a = some (.frz ob u) := by
  rw [upd_ne (fun e => by subst e; exact hp _ _ h)]; exact h
theorem HI.get (I : HI G h as H) {n : Nat} {mo : MO} (e : h[n]? = some mo) : ∃ a, as[n]? = some a ∧ ObR G as H a mo := by
  have hl : n < as.length := by rw [I.len]; exact (List.getElem?_eq_some_iff.mp e).1
  exact ⟨as[n], by simp [hl], I.ob n mo _ e (by simp [hl])⟩
theorem lkd_some {lk H a o} (h : lkd lk H a o) : ∃ u, H a = some u := by
  unfold lkd at h
  split at h
  · obtain ⟨od, e⟩ := h; exact ⟨_, e⟩
  · exact ⟨_, h⟩
theorem ObR.some_ {a : Addr} : ∀ {mo : MO}, ObR G as H a mo → ∃ u, H a = some u
  | .lst _, ⟨_, e, _⟩ => ⟨_, e⟩
  | .dic _ false _, ⟨_, e, _⟩ => lkd_some e
  | .dic _ true _, ⟨_, e, _⟩ => lkd_some e
  | .ins _ _, ⟨_, _, _, _, e, _⟩ => ⟨_, e⟩
  | .scr _, ⟨_, e⟩ => ⟨_, e⟩
theorem HI.fresh (I : HI G h as H) {p : Addr} (hp : H p = none) : p ∉ as := fun hm => by
  obtain ⟨n, hn⟩ := List.getElem?_of_mem hm
  have hl : n < h.length := by rw [← I.len]; exact (List.getElem?_eq_some_iff.mp hn).1
  obtain ⟨u, e⟩ := (I.ob n h[n] p (by simp [hl]) hn).some_
  rw [hp] at e; cases e
theorem ext_new {p : Addr} {o : HO} (hp : H p = none) : Ext as H (as ++ [p]) (upd H p o) :=
  ⟨fun n a e => by rw [List.getElem?_append_left (List.getElem?_eq_some_iff.mp e).1]; exact e,
   fun a xs s => tup_upd (fun _ q => by rw [hp] at q; cases q) s, fun a ob u s => frz_upd (fun _ _ q => by rw [hp] at q; cases q) s,
   fun a ob e _ => by rw [upd_ne (ne_of_none e hp)]; exact e, fun a h hn => by
    rcases List.mem_append.mp h with h | h
    · exact absurd h hn
    · rw [List.mem_singleton.mp h]; exact hp⟩
/-- a new tuple, not an object of ours -/
theorem ext_tup {p : Addr} {o : HO} (hp : H p = none) : Ext as H as (upd H p o) :=
  ⟨fun n a e => e, fun a xs s => tup_upd (fun _ q => by rw [hp] at q; cases q) s, fun a ob u s => frz_upd (fun _ _ q => by rw [hp] at q; cases q) s,
   fun a ob e _ => by rw [upd_ne (ne_of_none e hp)]; exact e, fun a h hn => absurd h hn⟩
theorem HI.other (I : HI G h as H) {p : Addr} {o : HO} (hp : H p = none) : HI G h as (upd H p o) :=
  ⟨I.xd.ext (ext_tup hp), I.len, I.nd, fun n mo a e1 e2 => (I.ob n mo a e1 e2).mono (ext_tup hp) (upd_ne fun e => I.fresh hp (e ▸ List.mem_of_getElem? e2))⟩
/-- a new object of ours -/
theorem HI.new (I : HI G h as H) {p : Addr} {o : HO} {mo : MO} (hp : H p = none) (r : ObR G (as ++ [p]) (upd H p o) p mo) : HI G (h ++ [mo]) (as ++ [p]) (upd H p o) := by
  refine ⟨I.xd.ext (ext_new hp), by simp [I.len], ?_, fun n mo' a e1 e2 => ?_⟩
  · rw [List.nodup_append]
    refine ⟨I.nd, by simp, fun a ha b hb => ?_⟩
    simp at hb; subst hb
    exact fun e => I.fresh hp (e ▸ ha)
  · by_cases hn : n < h.length
    · rw [List.getElem?_append_left hn] at e1
      rw [List.getElem?_append_left (by rw [I.len]; exact hn)] at e2
      exact (I.ob n mo' a e1 e2).mono (ext_new hp) (upd_ne fun e => I.fresh hp (e ▸ List.mem_of_getElem? e2))
    · have hn2 : n = h.length := by
        have := (List.getElem?_eq_some_iff.mp e1).1
        simp at this; omega
      subst hn2
      rw [List.getElem?_append_right (by omega)] at e1
      rw [List.getElem?_append_right (by rw [I.len]; exact Nat.le_refl _)] at e2
      simp [I.len] at e1 e2
      subst e1 e2
      exact r
/-- a store into an object of ours -/
theorem ext_set {n : Nat} {p : Addr} {o u : HO} (hn : as[n]? = some p) (hp : H p = some u) (ht : ∀ ys, u ≠ .tup ys) (hf : ∀ ob w, u ≠ .frz ob w) : Ext as H as (upd H p o) :=
  ⟨fun _ _ e => e, fun a xs s => tup_upd (fun ys q => by rw [hp] at q; exact ht ys (Option.some.inj q)) s, fun a ob w s => frz_upd (fun ob w q => by rw [hp] at q; exact hf ob w (Option.some.inj q)) s,
   fun a ob e ha => by rw [upd_ne (fun q => ha (by rw [q]; exact List.mem_of_getElem? hn))]; exact e, fun a h hn => absurd h hn⟩
theorem HI.set (I : HI G h as H) {n : Nat} {p : Addr} {o u : HO} {mo : MO} (hn : as[n]? = some p) (hp : H p = some u) (ht : ∀ ys, u ≠ .tup ys) (hf : ∀ ob w, u ≠ .frz ob w) (r : ObR G as (upd H p o) p mo) : HI G (h.set n mo) as (upd H p o) := by
  refine ⟨I.xd.ext (ext_set hn hp ht hf), by simp [I.len], I.nd, fun m mo' a e1 e2 => ?_⟩
  by_cases hm : m = n
  · subst hm
    rw [hn] at e2; cases e2
    have hl : m < h.length := by rw [← I.len]; exact (List.getElem?_eq_some_iff.mp hn).1
    rw [List.getElem?_set_self hl] at e1; cases e1
    exact r
  · rw [List.getElem?_set_ne (Ne.symm hm)] at e1
    refine (I.ob m mo' a e1 e2).mono (ext_set hn hp ht hf) (upd_ne fun e => hm ?_)
    subst e
    exact (List.getElem?_inj (List.getElem?_eq_some_iff.mp e2).1 I.nd).mp (e2.trans hn.symm)
end

/-! ## == -/
theorem st_beq (s t : List Char) : (st s == st t) = (s == t) := by
  unfold st
  rw [Bool.eq_iff_iff, beq_iff_eq, beq_iff_eq]
  constructor
  · intro e
    have e1 := congrArg (fun z => z.cps.toList) e
    exact (List.map_inj_right (fun a b h => Char.toNat_inj.mp h)).mp e1
  · intro e; rw [e]
mutual
theorem eqv_toPy : ∀ (x y : D), pur x = true → pur y = true → PyData.eqv (toPy x) (toPy y) = eqv x y
  | x, y, hx, hy => by
    cases x <;> cases y <;> simp only [pur] at hx hy <;> try (simp only [toPy, PyData.eqv, eqv] <;> done)
    all_goals first
      | (cases hx; done)
      | (cases hy; done)
      | (simp only [toPy, PyData.eqv, eqv]
         first
          | exact eqvs_toPy _ _ hx hy
          | exact st_beq _ _)
theorem eqvs_toPy : ∀ (xs ys : List D), purs xs = true → purs ys = true → PyData.eqvAll (toPys xs) (toPys ys) = eqvs xs ys
  | [], [], _, _ => by simp only [toPys, PyData.eqvAll, eqvs]
  | [], _ :: _, _, _ => by simp only [toPys, PyData.eqvAll, eqvs]
  | _ :: _, [], _, _ => by simp only [toPys, PyData.eqvAll, eqvs]
  | x :: xs, y :: ys, hx, hy => by
    simp only [purs, Bool.and_eq_true] at hx hy
    simp only [toPys, PyData.eqvAll, eqvs, eqv_toPy x y hx.1 hy.1, eqvs_toPy xs ys hx.2 hy.2]
end
end Rf
end

section
namespace Rf
open PySem PySem.Spec PyProof.Rows L2

inductive Fl where | nx (σ : Sg) | rt (d : D) | bk (σ : Sg) | ct (σ : Sg)
inductive RS where | ok (f : Fl) (h : Hs) | exc (c : Nat) (fs : List (String × D)) (σ : Sg) (h : Hs) | no
def RS.then (r : RS) (f : Sg → Hs → RS) : RS := match r with
  | .ok (.nx σ) h => f σ h
  | r => r
@[simp] theorem RS.then_nx (σ h f) : (RS.ok (.nx σ) h).then f = f σ h := rfl
@[simp] theorem RS.then_rt (d h f) : (RS.ok (.rt d) h).then f = .ok (.rt d) h := rfl
@[simp] theorem RS.then_bk (d h f) : (RS.ok (.bk d) h).then f = .ok (.bk d) h := rfl
@[simp] theorem RS.then_ct (d h f) : (RS.ok (.ct d) h).then f = .ok (.ct d) h := rfl
@[simp] theorem RS.then_exc (c fs σ h f) : (RS.exc c fs σ h).then f = .exc c fs σ h := rfl
@[simp] theorem RS.then_no (f) : RS.no.then f = .no := rfl
/-- an expression's outcome within a statement -/
def R.stm {α : Type} (r : R α) (σ : Sg) (f : α → Hs → RS) : RS := match r with
  | .ok a h => f a h
  | .exc c fs h => .exc c fs σ h
  | .no => .no
@[simp] theorem R.stm_ok {α : Type} (a : α) (h : Hs) (σ) (f : α → Hs → RS) : (R.ok a h).stm σ f = f a h := rfl
@[simp] theorem R.stm_exc {α : Type} (c fs h σ) (f : α → Hs → RS) : (R.exc c fs h : R α).stm σ f = .exc c fs σ h := rfl
@[simp] theorem R.stm_no {α : Type} (σ) (f : α → Hs → RS) : (R.no : R α).stm σ f = .no := rfl

def ofO {α : Type} (o : Option α) (h : Hs) : R α := match o with | some a => .ok a h | none => .no
@[simp] theorem ofO_some {α : Type} (a : α) (h : Hs) : ofO (some a) h = .ok a h := rfl
@[simp] theorem ofO_none {α : Type} (h : Hs) : ofO (none : Option α) h = .no := rfl
/-- no exception leaves a comprehension -/
def R.shut {α : Type} (r : R α) : R α := match r with | .exc _ _ _ => .no | r => r
@[simp] theorem R.shut_ok {α : Type} (a : α) (h : Hs) : (R.ok a h).shut = .ok a h := rfl
@[simp] theorem R.shut_exc {α : Type} (c fs h) : (R.exc c fs h : R α).shut = .no := rfl
@[simp] theorem R.shut_no {α : Type} : (R.no : R α).shut = .no := rfl

def truthR (x : D) (h : Hs) : R Bool := ofO (truth x h) h

/-! ## subscripts, slices, methods, built-ins -/
def kvGet (kvs : List (D × D)) (k : D) : Option D := match kvs with
  | [] => none
  | (a, b) :: r => if eqv a k then some b else kvGet r k
def kvPut (kvs : List (D × D)) (k v : D) : List (D × D) :=
  if (kvs.any fun p => eqv p.1 k) = true then kvs.map (fun p => if eqv p.1 k = true then (p.1, v) else p) else kvs ++ [(k, v)]
def kvDel (kvs : List (D × D)) (k : D) : List (D × D) := kvs.filter fun p => !eqv p.1 k
/-- may it be a key of such a dict -/
def isK : D → Bool
  | .int _ => true
  | .str _ => true
  | _ => false
def isT : D → Bool
  | .tup ds => ds.all isK
  | _ => false
def okK (t : Bool) (kvs : List (D × D)) (k : D) : Bool := if t then isT k && kvs.all (fun p => isT p.1) else isK k && kvs.all (fun p => isK p.1)
def ixD (cs : List (List D)) (x y : D) (h : Hs) : R D := match x, y with
  | .con g, .int i => match cs[g]? with
    | some ys => ofO (atI ys i) h
    | none => .no
  | .tup xs, .int i => ofO (atI xs i) h
  | .str s, .int i => if s.length ≤ sizeLine then ofO ((atI s i).map fun c => .str [c]) h else .no
  | .ob n, k => match h[n]?, k with
    | some (.lst xs), .int i => ofO (atI xs i) h
    | some (.scr xs), .int i => ofO ((atI xs i).map D.int) h
    | some (.dic _ t kvs), k => if okK t kvs k then ofO (kvGet kvs k) h else .no
    | _, _ => .no
  | _, _ => .no
def cutD {α : Type} (xs : List α) (lo hi : Option Int) : List α := (xs.drop (HT.sIx xs.length 0 lo)).take (HT.sIx xs.length xs.length hi - HT.sIx xs.length 0 lo)
def slD (x : D) (lo hi : Option Int) (h : Hs) : R D := match x with
  | .tup xs => .ok (.tup (cutD xs lo hi)) h
  | .str s => if s.length ≤ sizeLine then .ok (.str (cutD s lo hi)) h else .no
  | .ob n => match h[n]? with
    | some (.lst xs) => .ok (.ob h.length) (h ++ [.lst (cutD xs lo hi)])
    | some (.scr xs) => .ok (.ob h.length) (h ++ [.lst ((cutD xs lo hi).map D.int)])
    | _ => .no
  | _ => .no
def optI : List D → Option (Option Int)
  | [] => some none
  | [.int i] => some (some i)
  | _ => none
/-- o[i] = v -/
def putD (o i v : D) (h : Hs) : Option Hs := match o with
  | .ob n => match h[n]?, i with
    | some (.lst xs), .int k => (ixN xs.length k).map fun j => h.set n (.lst (xs.set j v))
    | some (.dic false t kvs), k => if okK t kvs k && decide (kvs.length < sizeLine) then some (h.set n (.dic false t (kvPut kvs k v))) else none
    | _, _ => none
  | _ => none
def hasF (cl : List CI) (c : Nat) (f : String) : Bool := match cl[c]? with | some ci => ci.flds.contains f | none => false
def fldD (cl : List CI) (x : D) (f : String) (h : Hs) : R D := match x with
  | .ob n => match h[n]? with
    | some (.ins c fs) => if hasF cl c f then ofO (fs.lookup f) h else .no
    | _ => .no
  | _ => .no
def fput (f : String) (v : D) : List (String × D) → List (String × D)
  | [] => [(f, v)]
  | (g, x) :: r => if g = f then (g, v) :: r else (g, x) :: fput f v r
def fsetD (cl : List CI) (x : D) (f : String) (v : D) (h : Hs) : Option Hs := match x with
  | .ob n => match h[n]? with
    | some (.ins c fs) => if hasF cl c f && decide (fs.length < 900) then some (h.set n (.ins c (fput f v fs))) else none
    | _ => none
  | _ => none
/-- x op= y -/
def augD (o : Op) (x y : D) (h : Hs) : R D := match o, x, y with
  | .add, .int i, .int j => .ok (.int (i + j)) h
  | .sub, .int i, .int j => .ok (.int (i - j)) h
  | .add, .str s, .str t => if s.length + t.length ≤ sizeLine then .ok (.str (s ++ t)) h else .no
  | _, _, _ => .no
/-- a built-in value's method -/
def mtOf (x : D) (m : String) (h : Hs) : Option Mt := match x with
  | .ob n => match h[n]? with
    | some (.lst _) => if m = "append" then some .append else if m = "reverse" then some .reverse else if m = "extend" then some .extend else if m = "pop" then some .pop else if m = "insert" then some .insert else none
    | some (.dic false false _) => if m = "update" then some .update else none
    | _ => none
  | _ => none
/-- d.update(e) -/
def kvMrg (ks ls : List (D × D)) : List (D × D) := ls.foldl (fun acc p => kvPut acc p.1 p.2) ks
def methD (k : Mt) (x : D) (xs : List D) (h : Hs) : R D := match k with
  | .append => match x, xs with
    | .ob n, [y] => match h[n]? with
      | some (.lst s) => if s.length < sizeLine then .ok .non (h.set n (.lst (s ++ [y]))) else .no
      | _ => .no
    | _, _ => .no
  | .insert => match x, xs with
    | .ob n, [.int i, y] => match h[n]? with
      | some (.lst s) => if s.length < sizeLine ∧ 0 ≤ i ∧ i < 2 ^ 62 then .ok .non (h.set n (.lst (s.take i.toNat ++ [y] ++ s.drop i.toNat))) else .no
      | _ => .no
    | _, _ => .no
  | .update => match x, xs with
    | .ob n, [.ob m] => match h[n]?, h[m]? with
      | some (.dic false false ks), some (.dic _ false ls) => if n ≠ m ∧ ks.length + ls.length ≤ sizeLine then .ok .non (h.set n (.dic false false (kvMrg ks ls))) else .no
      | _, _ => .no
    | _, _ => .no
  | .reverse => match x, xs with
    | .ob n, [] => match h[n]? with
      | some (.lst s) => .ok .non (h.set n (.lst s.reverse))
      | _ => .no
    | _, _ => .no
  | .extend => match x, xs with
    | .ob n, [.ob m] => match h[n]?, h[m]? with
      | some (.lst s), some (.lst t) => if s.length + t.length ≤ sizeLine then .ok .non (h.set n (.lst (s ++ t))) else .no
      | _, _ => .no
    | _, _ => .no
  | .pop => match x, xs with
    | .ob n, [] => match h[n]? with
      | some (.lst s) => match s[s.length - 1]? with
        | some y => .ok y (h.set n (.lst s.dropLast))
        | none => .no
      | _ => .no
    | _, _ => .no
  | _ => .no
def isIns (x : D) (h : Hs) : Option (Nat × List (String × D)) := match x with
  | .ob n => match h[n]? with
    | some (.ins c fs) => some (c, fs)
    | _ => none
  | _ => none
/-- a list, a dict: is it of the class -/
def isObB (h : Hs) (n : Nat) (l d : Bool) : R D := match h[n]? with
  | some (.lst _) => .ok (.bl l) h
  | some (.dic false _ _) => .ok (.bl d) h
  | _ => .no
def bltD (b : Bf) (xs : List D) (h : Hs) : R D := match b, xs with
  | .len, [.tup s] => .ok (.int s.length) h
  | .len, [.str s] => if s.length ≤ sizeLine then .ok (.int s.length) h else .no
  | .len, [.ob n] => match h[n]? with
    | some (.lst s) => .ok (.int s.length) h
    | some (.scr s) => .ok (.int s.length) h
    | some (.dic _ false s) => .ok (.int s.length) h
    | _ => .no
  | .abs, [.int i] => .ok (.int (if i < 0 then -i else i)) h
  | .int, [.int i] => .ok (.int i) h
  | .int, [.bl b] => .ok (.int (if b then 1 else 0)) h
  | .min2, [.int i, .int j] => .ok (.int (if j < i then j else i)) h
  | .max2, [.int i, .int j] => .ok (.int (if j > i then j else i)) h
  | .tuple, [.tup s] => .ok (.tup s) h
  | .tuple, [.ob n] => match h[n]? with
    | some (.lst s) => .ok (.tup s) h
    | _ => .no
  | .list, [.tup s] => .ok (.ob h.length) (h ++ [.lst s])
  | .list, [.ob n] => match h[n]? with
    | some (.lst s) => .ok (.ob h.length) (h ++ [.lst s])
    | some (.scr s) => .ok (.ob h.length) (h ++ [.lst (s.map D.int)])
    | some (.dic false false kvs) => .ok (.ob h.length) (h ++ [.lst (kvs.map (·.1))])
    | _ => .no
  | .dict, [.ob n] => match h[n]? with
    | some (.dic _ false kvs) => .ok (.ob h.length) (h ++ [.dic false false kvs])
    | _ => .no
  | .isTup, [.tup _] => .ok (.bl true) h
  | .isTup, [.non] => .ok (.bl false) h
  | .isTup, [.bl _] => .ok (.bl false) h
  | .isTup, [.int _] => .ok (.bl false) h
  | .isTup, [.str _] => .ok (.bl false) h
  | .isStr, [.tup _] => .ok (.bl false) h
  | .isStr, [.non] => .ok (.bl false) h
  | .isStr, [.bl _] => .ok (.bl false) h
  | .isStr, [.int _] => .ok (.bl false) h
  | .isStr, [.str _] => .ok (.bl true) h
  | .isBool, [.tup _] => .ok (.bl false) h
  | .isBool, [.non] => .ok (.bl false) h
  | .isBool, [.bl _] => .ok (.bl true) h
  | .isBool, [.int _] => .ok (.bl false) h
  | .isBool, [.str _] => .ok (.bl false) h
  | .isTup, [.ob n] => isObB h n false false
  | .isStr, [.ob n] => isObB h n false false
  | .isBool, [.ob n] => isObB h n false false
  | .isList, [.ob n] => isObB h n true false
  | .isList, [.tup _] => .ok (.bl false) h
  | .isList, [.non] => .ok (.bl false) h
  | .isList, [.bl _] => .ok (.bl false) h
  | .isList, [.int _] => .ok (.bl false) h
  | .isList, [.str _] => .ok (.bl false) h
  | .isInt, [.tup _] => .ok (.bl false) h
  | .isInt, [.non] => .ok (.bl false) h
  | .isInt, [.bl _] => .ok (.bl true) h
  | .isInt, [.int _] => .ok (.bl true) h
  | .isInt, [.str _] => .ok (.bl false) h
  | .repr, [.tup xs] => if rpOk (.tup xs) && decide (dep (.tup xs) ≤ 64) && decide ((rp (.tup xs)).length ≤ sizeLine) then .ok (.str (rp (.tup xs))) h else .no
  | _, _ => .no
/-- .. where the script may be one of the module's own objects -/
def bltC (W : Wd) (b : Bf) (xs : List D) (h : Hs) : R D := match b with
  | .list => match xs with
    | [.con g] => if g = W.cons.length then .ok (.ob h.length) (h ++ [.lst (W.scr.map D.int)]) else .no
    | xs => bltD .list xs h
  | b => bltD b xs h
/-- in, not in -/
def inD (cs : List (List D)) (x y : D) (h : Hs) : Option Bool := match y with
  | .con g => match cs[g]? with
    | some ys => if flat x && ys.all flat then some (inL x ys) else none
    | none => none
  | .tup ys => if flat x && ys.all flat then some (inL x ys) else none
  | .ob n => match h[n]? with
    | some (.lst ys) => if flat x && ys.all flat then some (inL x ys) else none
    | some (.dic _ t kvs) => if okK t kvs x then some (kvGet kvs x).isSome else none
    | _ => none
  | .str s => match x with
    | .str [c] => some (s.contains c)
    | _ => none
  | _ => none
/-- == of two dicts -/
def dicB (x y : D) (h : Hs) : Option (List (D × D) × List (D × D)) := match x, y with
  | .ob n, .ob m => match h[n]?, h[m]? with
    | some (.dic _ false ks), some (.dic _ false ls) => some (ks, ls)
    | _, _ => none
  | _, _ => none
def hitKV (ls : List (D × D)) (p : D × D) : Bool := match kvGet ls p.1 with | some w => eqv p.2 w | none => false
def eqKV (ks ls : List (D × D)) : Option Bool := if (ks.all fun p => flat p.2) && ls.all (fun p => flat p.2) then some (ks.length == ls.length && ks.all (hitKV ls)) else none
def cmpA (cs : List (List D)) (o : Cp) (x y : D) (h : Hs) : R D := match o with
  | .eq => match dicB x y h with
    | some q => (ofO (eqKV q.1 q.2) h).bind fun b h => .ok (.bl b) h
    | none => cmpD .eq x y h
  | .ne => match dicB x y h with
    | some q => (ofO (eqKV q.1 q.2) h).bind fun b h => .ok (.bl (!b)) h
    | none => cmpD .ne x y h
  | .in_ => (ofO (inD cs x y h) h).bind fun b h => .ok (.bl b) h
  | .nin => (ofO (inD cs x y h) h).bind fun b h => .ok (.bl (!b)) h
  | .is_ => match y with | .non => .ok (.bl (match x with | .non => true | _ => false)) h | _ => .no
  | .isn => match y with | .non => .ok (.bl (match x with | .non => false | _ => true)) h | _ => .no
  | o => cmpD o x y h

/-! ## what is walked -/
/-- what a loop leans on: an object that stays; a dict that is locked -/
inductive Gd where | none | keep (n : Nat) (mo : MO) | lock (n : Nat) (t : Bool) (kvs : List (D × D))
def same (g : Gd) (h : Hs) : Prop := match g with
  | .none => True
  | .keep n mo => h[n]? = some mo
  | .lock n t kvs => h[n]? = some (.dic true t kvs)
def endG (g : Gd) (h : Hs) : Hs := match g with
  | .lock n t kvs => h.set n (.dic false t kvs)
  | _ => h
/-- the items, what it leans on, the heap -/
def itemsI (cs : List (List D)) (k : Ik) (xs : List D) (h : Hs) : Option (List D × Gd × Hs) := match k, xs with
  | .seq, [.tup s] => some (s, .none, h)
  | .seq, [.con g] => (cs[g]?).map fun ys => (ys, .none, h)
  | .seq, [.ob n] => match h[n]? with
    | some (.lst s) => some (s, .keep n (.lst s), h)
    | some (.scr s) => some (s.map D.int, .keep n (.scr s), h)
    | some (.dic true false kvs) => some (kvs.map (·.1), .keep n (.dic true false kvs), h)
    | some (.dic false false kvs) => some (kvs.map (·.1), .lock n false kvs, h.set n (.dic true false kvs))
    | _ => none
  | .rng1, [.int j] => if -(2 ^ 62) ≤ j ∧ j < 2 ^ 62 then some ((List.range j.toNat).map fun (i : Nat) => D.int (0 + (i : Int)), .none, h) else none
  | .rng2, [.int i, .int j] => if -(2 ^ 62) ≤ i ∧ i < 2 ^ 62 ∧ -(2 ^ 62) ≤ j ∧ j < 2 ^ 62 then some ((List.range (j - i).toNat).map fun (k : Nat) => D.int (i + (k : Int)), .none, h) else none
  | _, _ => none
def bindT (t : Tg) (d : D) (σ : Sg) : Option Sg := match t with
  | .nm i => some (σ.set i (some d))
  | .tp is => match d with
    | .tup ds => if ds.length = is.length then some ((is.zip ds).foldl (fun σ p => σ.set p.1 (some p.2)) σ) else none
    | _ => none
def wipeI (σ : Sg) : List Nat → Sg
  | [] => σ
  | v :: vs => (wipeI σ vs).set v none

open Classical in
noncomputable def lcI (g : Gd) (turn : D → Hs → R (Option D)) : List D → List D → Hs → R (List D)
  | [], acc, h => if same g h then .ok acc (endG g h) else .no
  | d :: ds, acc, h => if same g h then (turn d h).bind fun o h => match o with
    | some x => if acc.length < sizeLine then lcI g turn ds (acc ++ [x]) h else .no
    | none => lcI g turn ds acc h
    else .no
open Classical in
noncomputable def forI (g : Gd) (turn : D → Sg → Hs → RS) : List D → Sg → Hs → RS
  | [], σ, h => if same g h then .ok (.nx σ) (endG g h) else .no
  | d :: ds, σ, h => if same g h then match turn d σ h with
    | .ok (.nx σ) h => forI g turn ds σ h
    | .ok (.ct σ) h => forI g turn ds σ h
    | .ok (.bk σ) h => if same g h then .ok (.nx σ) (endG g h) else .no
    | .ok (.rt d) h => if same g h then .ok (.rt d) (endG g h) else .no
    | r => r
    else .no
def whileI (c : Sg → Hs → R Bool) (b : Sg → Hs → RS) : Nat → Sg → Hs → RS
  | 0, _, _ => .no
  | n + 1, σ, h => (c σ h).stm σ fun t h => if t then match b σ h with
    | .ok (.nx σ) h => whileI c b n σ h
    | .ok (.ct σ) h => whileI c b n σ h
    | .ok (.bk σ) h => .ok (.nx σ) h
    | r => r
    else .ok (.nx σ) h

/-- a comprehension's test -/
def cdB (ts : List D) (h : Hs) : R Bool := match ts with
  | [] => .ok true h
  | [t] => truthR t h
  | _ => .no
/-- a turn of a comprehension -/
def lcTurn (bt : D → Option Sg) (cd : Sg → Hs → R Bool) (el : Sg → Hs → R D) (d : D) (h : Hs) : R (Option D) :=
  ((ofO (bt d) h).bind fun σ1 h => (cd σ1 h).bind fun b h => if b then (el σ1 h).bind fun x h => .ok (some x) h else .ok none h).shut
def lcEnd (acc : List D) (h : Hs) : R D := .ok (.ob h.length) (h ++ [.lst acc])
abbrev CF := Nat → List D → Hs → R D
abbrev CXI := Option (Nat × List (String × D))
section
variable (W : Wd) (cf : CF) (cx : CXI)
mutual
noncomputable def evalE : E → Sg → Hs → R D
  | .var i, σ, h => match σ[i]? with | some (some d) => .ok d h | _ => .no
  | .cst d, _, h => .ok d h
  | .glb g, _, h => .ok (.con g) h
  | .gst _ s, _, h => .ok (.str s) h
  | .gni _ i, _, h => .ok (.int i) h
  | .fnv f, _, h => .ok (.fn f) h
  | .bin o a b, σ, h => (evalE a σ h).bind fun x h => (evalE b σ h).bind fun y h => opD o x y h
  | .neg a, σ, h => (evalE a σ h).bind fun x h => match x with | .int i => .ok (.int (-i)) h | _ => .no
  | .cmp o a b, σ, h => (evalE a σ h).bind fun x h => (evalE b σ h).bind fun y h => cmpA W.cons o x y h
  | .chn o o' a b c, σ, h => (evalE a σ h).bind fun x h => (evalE b σ h).bind fun y h => (cmpA W.cons o x y h).bind fun z h => match z with
    | .bl true => (evalE c σ h).bind fun w h => cmpA W.cons o' y w h
    | .bl false => .ok (.bl false) h
    | _ => .no
  | .and a b, σ, h => (evalE a σ h).bind fun x h => (truthR x h).bind fun t h => if t then evalE b σ h else .ok x h
  | .or a b, σ, h => (evalE a σ h).bind fun x h => (truthR x h).bind fun t h => if t then .ok x h else evalE b σ h
  | .not a, σ, h => (evalE a σ h).bind fun x h => (truthR x h).bind fun t h => .ok (.bl (!t)) h
  | .ife c a b, σ, h => (evalE c σ h).bind fun x h => (truthR x h).bind fun t h => if t then evalE a σ h else evalE b σ h
  | .tup es, σ, h => (evalEs es σ h).bind fun xs h => if xs.length ≤ sizeLine then .ok (.tup xs) h else .no
  | .lst es, σ, h => (evalEs es σ h).bind fun xs h => if xs.length ≤ sizeLine then .ok (.ob h.length) (h ++ [.lst xs]) else .no
  | .dic t ks vs, σ, h => match ks, vs with
    | [], [] => .ok (.ob h.length) (h ++ [.dic false t []])
    | _, _ => .no
  | .ix a i, σ, h => (evalE a σ h).bind fun x h => (evalE i σ h).bind fun y h => ixD W.cons x y h
  | .slc a lo hi, σ, h => (evalE a σ h).bind fun x h => (evalEs lo σ h).bind fun l h => (ofO (optI l) h).bind fun l h => (evalEs hi σ h).bind fun u h => (ofO (optI u) h).bind fun u h => slD x l u h
  | .back a, σ, h => (evalE a σ h).bind fun x h => match x with
    | .ob n => match h[n]? with
      | some (.lst xs) => .ok (.ob h.length) (h ++ [.lst xs.reverse])
      | _ => .no
    | _ => .no
  | .fld a f, σ, h => (evalE a σ h).bind fun x h => fldD W.cls x f h
  | .cal f es, σ, h => (evalEs es σ h).bind fun xs h => cf f xs h
  | .cav i es, σ, h => match σ[i]? with
    | some (some (.fn f)) => (evalEs es σ h).bind fun xs h => cf f xs h
    | _ => .no
  | .new c es, σ, h => (evalEs es σ h).bind fun xs h => match (W.cls[c]?).bind (·.ini) with
    | some f => (cf f (.ob h.length :: xs) (h ++ [.ins c []])).bind fun r h' => match r with | .non => .ok (.ob h.length) h' | _ => .no
    | none => .no
  | .met o m es, σ, h => (evalE o σ h).bind fun x h => match isIns x h with
    | some (c, fs) => match (W.cls[c]?).bind fun ci => ci.meths.lookup m with
      | some f => if (fs.lookup m).isNone then (evalEs es σ h).bind fun xs h => cf f (x :: xs) h else .no
      | none => .no
    | none => match mtOf x m h with
      | some k => (evalEs es σ h).bind fun xs h => methD k x xs h
      | none => .no
  | .blt b es, σ, h => (evalEs es σ h).bind fun xs h => bltC W b xs h
  | .lc own tg k its cd el, σ, h => (evalEs its σ h).bind fun xs h => (ofO (itemsI W.cons k xs h) h).bind fun ig h =>
    (lcI ig.2.1 (lcTurn (fun d => bindT tg d (wipeI σ own)) (fun σ1 h => (evalEs cd σ1 h).bind cdB) (fun σ1 h => evalE el σ1 h)) ig.1 [] ig.2.2).bind lcEnd
  | .exf i f, σ, h => match cx, σ[i]? with
    | some (c, fs), some none => if f ∈ W.exf c then ofO (fs.lookup f) h else .no
    | _, _ => .no
noncomputable def evalEs : List E → Sg → Hs → R (List D)
  | [], _, h => .ok [] h
  | e :: es, σ, h => (evalE e σ h).bind fun x h => (evalEs es σ h).bind fun xs h => .ok (x :: xs) h
end
end

/-- the name of a clause -/
def offI (o : Option Nat) (σ : Sg) : Sg := match o with | some i => σ.set i none | none => σ
def RS.offs (o : Option Nat) (r : RS) : RS := match r with
  | .ok (.nx σ) h => .ok (.nx (offI o σ)) h
  | .ok (.bk σ) h => .ok (.bk (offI o σ)) h
  | .ok (.ct σ) h => .ok (.ct (offI o σ)) h
  | .ok (.rt d) h => .ok (.rt d) h
  | _ => .no
@[simp] theorem RS.offs_nx (o σ h) : (RS.ok (.nx σ) h).offs o = .ok (.nx (offI o σ)) h := rfl
@[simp] theorem RS.offs_rt (o d h) : (RS.ok (.rt d) h).offs o = .ok (.rt d) h := rfl
section
variable (W : Wd) (L : Nat) (cf : CF)
def isSomeB {α : Type} (o : Option α) : Bool := o.isSome
mutual
noncomputable def evalS (cx : CXI) : S → Sg → Hs → RS
  | .set i e, σ, h => (evalE W cf cx e σ h).stm σ fun x h => .ok (.nx (σ.set i (some x))) h
  | .setT is e, σ, h => (evalE W cf cx e σ h).stm σ fun x h => match bindT (.tp is) x σ with | some σ => .ok (.nx σ) h | none => .no
  | .put o i e, σ, h => (evalE W cf cx e σ h).stm σ fun v h => (evalE W cf cx o σ h).stm σ fun x h => (evalE W cf cx i σ h).stm σ fun y h => match putD x y v h with
    | some h => .ok (.nx σ) h
    | none => .no
  | .fset o f e, σ, h => (evalE W cf cx e σ h).stm σ fun v h => (evalE W cf cx o σ h).stm σ fun x h => match fsetD W.cls x f v h with
    | some h => .ok (.nx σ) h
    | none => .no
  | .aug i o e, σ, h => match σ[i]? with
    | some (some x) => (evalE W cf cx e σ h).stm σ fun y h => (augD o x y h).stm σ fun z h => .ok (.nx (σ.set i (some z))) h
    | _ => .no
  | .faug a f o e, σ, h => (evalE W cf cx a σ h).stm σ fun x h => match isIns x h with
    | some (c, fs) => if hasF W.cls c f then match fs.lookup f with
      | some y => (evalE W cf cx e σ h).stm σ fun z h => (augD o y z h).stm σ fun w h => match isIns x h, fsetD W.cls x f w h with
        | some (c', _), some h => if c' = c then .ok (.nx σ) h else .no
        | _, _ => .no
      | none => .no
      else .no
    | none => .no
  | .expr e, σ, h => (evalE W cf cx e σ h).stm σ fun _ h => .ok (.nx σ) h
  | .ret e, σ, h => (evalE W cf cx e σ h).stm σ fun x h => .ok (.rt x) h
  | .retN, _, h => .ok (.rt .non) h
  | .ife c a b, σ, h => (evalE W cf cx c σ h).stm σ fun x h => (truthR x h).stm σ fun t h => if t then evalB cx a σ h else evalB cx b σ h
  | .whl c b, σ, h => whileI (fun σ h => (evalE W cf cx c σ h).bind fun x h => truthR x h) (evalB cx b) L σ h
  | .for_ tg k its b, σ, h => (evalEs W cf cx its σ h).stm σ fun xs h => (ofO (itemsI W.cons k xs h) h).stm σ fun ig h =>
    forI ig.2.1 (fun d σ h => match bindT tg d σ with | some σ => evalB cx b σ h | none => .no) ig.1 σ ig.2.2
  | .raise c es, σ, h => (evalEs W cf cx es σ h).stm σ fun xs h => if 0 < (W.exf c).length ∧ xs.length = (W.exf c).length ∧ xs.length ≤ 900 then .exc c ((W.exf c).zip xs).reverse σ h else .no
  | .try_ b hs, σ, h => match evalB cx b σ h with
    | .exc c fs σ1 h1 => if 0 < (W.exf c).length then evalH c fs hs σ1 h1 else .no
    | r => r
  | .brk, σ, h => .ok (.bk σ) h
  | .cnt, σ, h => .ok (.ct σ) h
  | .pass, σ, h => .ok (.nx σ) h
  | .stuck, _, _ => .no
noncomputable def evalB (cx : CXI) : List S → Sg → Hs → RS
  | [], σ, h => .ok (.nx σ) h
  | s :: r, σ, h => (evalS cx s σ h).then fun σ h => evalB cx r σ h
/-- the clauses, one after the other -/
noncomputable def evalH (c : Nat) (fs : List (String × D)) : List (Nat × Option Nat × List S) → Sg → Hs → RS
  | [], σ, h => .exc c fs σ h
  | (k, o, b) :: r, σ, h => if W.isa c k then (evalB (some (c, fs)) b (offI o σ) h).offs o else evalH c fs r σ h
end
end
def RS.fin (r : RS) : R D := match r with
  | .ok (.nx _) h => .ok .non h
  | .ok (.rt d) h => .ok d h
  | .exc c fs _ h => .exc c fs h
  | _ => .no
@[simp] theorem RS.fin_nx (σ h) : (RS.ok (.nx σ) h).fin = .ok .non h := rfl
@[simp] theorem RS.fin_rt (d h) : (RS.ok (.rt d) h).fin = .ok d h := rfl
@[simp] theorem RS.fin_exc (c fs σ h) : (RS.exc c fs σ h).fin = .exc c fs h := rfl
def start (ns : Nat) (ds : List D) : Sg := ds.map some ++ List.replicate (ns - ds.length) none
noncomputable def callF (W : Wd) (L : Nat) : Nat → CF
  | 0, _, _, _ => .no
  | n + 1, f, ds, h => match W.fns[f]? with
    | some fi => if ds.length = fi.np then (evalB W L (callF W L n) none fi.body (start fi.ns ds) h).fin else .no
    | none => .no
end Rf
end

section
namespace Rf
open PySem PySem.Spec PyProof.Rows L2

structure Mx where
  W : Wd
  fa : Nat → Option Addr
  ca : Nat → Option Addr
  ga : Nat → Option Addr
  cx : CXI := none
  xd : Option (Addr × List (String × D)) := none
  ex : Option (Nat × Addr) := none
@[reducible] def Mx.g (M : Mx) (K : PySem.W.Frag) : Gx := ⟨M.W, K, M.fa, M.ca, M.ga, M.xd, M.ex⟩

/-- what is asked of an outcome -/
def post {α β : Type} (G : Gx) (Wx : WX) (Rl : List Addr → Hp → α → β → Prop) (as : List Addr) (H : Hp) (σ : L2.St) (r : R α) (Q : β → Hp → Prop) : Prop :=
  match r with
  | .ok d h' => ∀ v as' H', Ext as H as' H' → HI G h' as' H' → Rl as' H' d v → Q v H'
  | .exc c fs h' => ∀ C dx vs as' H', Ext as H as' H' → HI G h' as' H' → G.ca c = some C → H' dx = some (.xd vs) → RepF G as' H' fs vs → Wx (.ref C) (some dx) σ H'
  | .no => False
abbrev rB : List Addr → Hp → Bool → Bool → Prop := fun _ _ d v => d = v
section
variable {α β γ δ : Type} {G : Gx} {Wx : WX} {Rl : List Addr → Hp → α → β → Prop} {Rm : List Addr → Hp → γ → δ → Prop} {as as' : List Addr} {H H' : Hp} {σ : L2.St} {r : R α}
theorem post.mono {Q : β → Hp → Prop} (x : Ext as H as' H') (p : post G Wx Rl as H σ r Q) : post G Wx Rl as' H' σ r Q := by
  cases r with
  | ok d h => exact fun v as2 H2 e => p v as2 H2 (x.trans e)
  | exc c fs h => exact fun C dx vs as2 H2 e => p C dx vs as2 H2 (x.trans e)
  | no => exact p
theorem post.bind {f : α → Hs → R γ} {Q : δ → Hp → Prop} (p : post G Wx Rm as H σ (r.bind f) Q) :
    post G Wx Rl as H σ r fun v H1 => ∃ d h1 as1, r = .ok d h1 ∧ Ext as H as1 H1 ∧ HI G h1 as1 H1 ∧ Rl as1 H1 d v ∧ post G Wx Rm as1 H1 σ (f d h1) Q := by
  cases r with
  | ok d h => exact fun v as2 H2 e i q => ⟨d, h, as2, rfl, e, i, q, p.mono e⟩
  | exc c fs h => exact p
  | no => exact p
theorem post.ofO {o : Option α} {h : Hs} {f : α → Hs → R γ} {Q : δ → Hp → Prop} (p : post G Wx Rm as H σ ((ofO o h).bind f) Q) : ∃ a, o = some a ∧ post G Wx Rm as H σ (f a h) Q := by
  cases o with
  | none => exact False.elim p
  | some a => exact ⟨a, rfl, p⟩
end
/-- readings -/
def tE (G : Gx) (Wx : WX) (ev : Sg → Hs → R D) : TE := fun σ H Q => ∃ σI h as, SL G σI as H σ ∧ HI G h as H ∧ post G Wx (Rep G) as H σ (ev σI h) Q
def tEs (G : Gx) (Wx : WX) (ev : Sg → Hs → R (List D)) : TA := fun σ H Q => ∃ σI h as, SL G σI as H σ ∧ HI G h as H ∧ post G Wx (Reps G) as H σ (ev σI h) Q
def tT (G : Gx) (Wx : WX) (ev : Sg → Hs → R D) : TT := fun σ H Q => ∃ σI h as, SL G σI as H σ ∧ HI G h as H ∧ post G Wx rB as H σ ((ev σI h).bind truthR) Q
section
variable {X : Cx} {M : Mx} {Wx : WX} {pins : List (Addr × Obj)} {s : Shared} {σ : L2.St} {H : Hp}
theorem RelV.str_of {z : Str} {u : Value} (r : RelV (.str z) u) : ∃ t, u = .str z t := r
/-- x op y -/
theorem opD_ok {o : Op} {op : Operator} (ho : (o, op) ∈ [(Op.add, Operator.Add), (.sub, .Sub), (.mul, .Mult), (.fdiv, .FloorDiv), (.mod, .Mod)]) {x y : V} {v u : Value} {dx dy : D} {h : Hs} {as : List Addr} {Q : VK} (I : Inv X pins σ H s) (rx : RelV x v) (ry : RelV y u)
    (hi : HI (M.g X.K) h as H) (r1 : Rep (M.g X.K) as H dx x) (r2 : Rep (M.g X.K) as H dy y) (p : post (M.g X.K) Wx (Rep (M.g X.K)) as H σ (opD o dx dy h) Q) :
    wpAny (model X.prog X.w) X.A (binaryOp op v u) (EP X pins σ Q) X.xe s := by
  simp only [List.mem_cons, List.not_mem_nil, or_false, Prod.mk.injEq] at ho
  have int2 : ∀ {i j : Int} {g : Int → Int → Int} {C : Int → Int → Prop}, OpR X (binaryOp op) (rI C fun i j => .int (g i j)) → dx = .int i → dy = .int j → C i j → opD o dx dy h = .ok (.int (g i j)) h → wpAny (model X.prog X.w) X.A (binaryOp op v u) (EP X pins σ Q) X.xe s := by
    intro i j g C hop e1 e2 hc e3
    subst e1 e2
    simp only [Rep] at r1 r2
    subst r1 r2
    rw [e3] at p
    exact hop pins s σ H _ _ v u Q I rx ry ⟨i, j, rfl, rfl, hc, p _ as H Ext.refl hi rfl⟩
  cases dx with
  | int i =>
    cases dy with
    | int j =>
      rcases ho with ⟨rfl, rfl⟩ | ⟨rfl, rfl⟩ | ⟨rfl, rfl⟩ | ⟨rfl, rfl⟩ | ⟨rfl, rfl⟩
      · exact int2 (C := fun _ _ => True) (g := fun i j => i + j) (fun pins s σ H x y v u Q I a b ⟨i, j, e1, e2, _, q⟩ => op_add pins s σ H x y v u Q I a b ⟨i, j, e1, e2, q⟩) rfl rfl trivial rfl
      · exact int2 (C := fun _ _ => True) (g := fun i j => i - j) (fun pins s σ H x y v u Q I a b ⟨i, j, e1, e2, _, q⟩ => op_sub pins s σ H x y v u Q I a b ⟨i, j, e1, e2, q⟩) rfl rfl trivial rfl
      · by_cases hc : (-(2 ^ 64) < i ∧ i < 2 ^ 64) ∨ (-(2 ^ 64) < j ∧ j < 2 ^ 64)
        · exact int2 op_mul rfl rfl hc (by simp only [opD, if_pos hc])
        · simp only [opD, if_neg hc] at p; exact p.elim
      · by_cases hc : j ≠ 0 ∧ j.natAbs < 1073741824
        · exact int2 op_fdivN rfl rfl hc (by simp only [opD, if_pos hc])
        · simp only [opD, if_neg hc] at p; exact p.elim
      · by_cases hc : j ≠ 0
        · exact int2 op_modN rfl rfl hc (by simp only [opD, if_pos hc])
        · simp only [opD, if_neg hc] at p; exact p.elim
    | _ => rcases ho with ⟨rfl, rfl⟩ | ⟨rfl, rfl⟩ | ⟨rfl, rfl⟩ | ⟨rfl, rfl⟩ | ⟨rfl, rfl⟩ <;> exact p.elim
  | str z =>
    cases dy with
    | str z' =>
      rcases ho with ⟨rfl, rfl⟩ | ⟨rfl, rfl⟩ | ⟨rfl, rfl⟩ | ⟨rfl, rfl⟩ | ⟨rfl, rfl⟩
      · simp only [Rep] at r1 r2
        subst r1 r2
        by_cases hc : z.length + z'.length ≤ sizeLine
        · simp only [opD, if_pos hc] at p
          refine op_add_str pins s σ H _ _ v u Q I rx ry ⟨_, _, rfl, rfl, by simpa [st, Str.length] using hc, ?_⟩
          refine p _ as H Ext.refl hi ?_
          simp only [Rep]
          show V.str ⟨(st z).cps ++ (st z').cps⟩ = _
          simp [st]
        · simp only [opD, if_neg hc] at p; exact p.elim
      all_goals exact p.elim
    | _ => rcases ho with ⟨rfl, rfl⟩ | ⟨rfl, rfl⟩ | ⟨rfl, rfl⟩ | ⟨rfl, rfl⟩ | ⟨rfl, rfl⟩ <;> exact p.elim
  | tup xs =>
    cases dy with
    | tup ys =>
      rcases ho with ⟨rfl, rfl⟩ | ⟨rfl, rfl⟩ | ⟨rfl, rfl⟩ | ⟨rfl, rfl⟩ | ⟨rfl, rfl⟩
      · simp only [Rep] at r1 r2
        obtain ⟨a, vs, rfl, sa, ra⟩ := r1
        obtain ⟨b, ws, rfl, sb, rb⟩ := r2
        by_cases hc : xs.length + ys.length ≤ sizeLine
        · simp only [opD, if_pos hc] at p
          refine op_catA pins s σ H _ _ v u Q I rx ry ⟨a, b, vs, ws, rfl, rfl, SqT.of sa, SqT.of sb, by rw [← ra.length, ← rb.length]; exact hc, fun e => ?_, fun _ e => ?_, fun _ e q hq => ?_⟩
          · refine p _ as H Ext.refl hi ?_
            obtain rfl := ra.nil_iff.mpr e
            simp only [Rep, List.nil_append]
            exact ⟨b, ws, rfl, sb, rb⟩
          · refine p _ as H Ext.refl hi ?_
            obtain rfl := rb.nil_iff.mpr e
            simp only [Rep, List.append_nil]
            exact ⟨a, vs, rfl, sa, ra⟩
          · refine p _ as _ (ext_tup hq) (hi.other hq) ?_
            simp only [Rep]
            exact ⟨q, _, rfl, upd_same, Reps.append (ra.mono (ext_tup hq)) (rb.mono (ext_tup hq))⟩
        · simp only [opD, if_neg hc] at p; exact p.elim
      all_goals exact p.elim
    | _ => rcases ho with ⟨rfl, rfl⟩ | ⟨rfl, rfl⟩ | ⟨rfl, rfl⟩ | ⟨rfl, rfl⟩ | ⟨rfl, rfl⟩ <;> exact p.elim
  | ob n =>
    cases dy with
    | ob m =>
      rcases ho with ⟨rfl, rfl⟩ | ⟨rfl, rfl⟩ | ⟨rfl, rfl⟩ | ⟨rfl, rfl⟩ | ⟨rfl, rfl⟩
      · simp only [Rep] at r1 r2
        obtain ⟨a, rfl, ea⟩ := r1
        obtain ⟨b, rfl, eb⟩ := r2
        simp only [opD] at p
        split at p
        · rename_i xs ys e1 e2
          by_cases hc : xs.length + ys.length ≤ sizeLine
          · rw [if_pos hc] at p
            obtain ⟨vs, h1, rv⟩ := hi.ob n _ a e1 ea
            obtain ⟨ws, h2, rw'⟩ := hi.ob m _ b e2 eb
            refine op_cat pins s σ H _ _ v u Q I rx ry ⟨a, b, vs, ws, rfl, rfl, h1, h2, by rw [← rv.length, ← rw'.length]; exact hc, fun q hq => ?_⟩
            refine p _ (as ++ [q]) _ (ext_new hq) (hi.new hq ⟨_, upd_same, Reps.append (rv.mono (ext_new hq)) (rw'.mono (ext_new hq))⟩) ?_
            simp only [Rep]
            exact ⟨q, rfl, by rw [← hi.len]; simp⟩
          · rw [if_neg hc] at p; exact p.elim
        · exact p.elim
      all_goals exact p.elim
    | _ => rcases ho with ⟨rfl, rfl⟩ | ⟨rfl, rfl⟩ | ⟨rfl, rfl⟩ | ⟨rfl, rfl⟩ | ⟨rfl, rfl⟩ <;> exact p.elim
  | _ => rcases ho with ⟨rfl, rfl⟩ | ⟨rfl, rfl⟩ | ⟨rfl, rfl⟩ | ⟨rfl, rfl⟩ | ⟨rfl, rfl⟩ <;> exact p.elim
end
end Rf
end

section
namespace Rf
open PySem PySem.Spec PyProof.Rows L2

/-! ## data as PyData -/
mutual
theorem toPy_lay : ∀ (d : D), (toPy d).canLay0 = true
  | .non => by simp [toPy, PyData.canLay0]
  | .bl _ => by simp [toPy, PyData.canLay0]
  | .int _ => by simp [toPy, PyData.canLay0]
  | .str s => by
    simp only [toPy, PyData.canLay0, PyData.strOk]
    simp only [List.all_toArray, List.all_map, List.all_eq_true]
    intro c _
    have h := c.valid
    simp only [UInt32.isValidChar, Nat.isValidChar] at h
    simp only [Function.comp, decide_eq_true_eq]
    show c.val.toNat < 0x110000
    omega
  | .tup xs => by simp only [toPy, PyData.canLay0]; exact toPys_lay xs
  | .ob _ => by simp [toPy, PyData.canLay0]
  | .fn _ => by simp [toPy, PyData.canLay0]
  | .con _ => by simp [toPy, PyData.canLay0]
theorem toPys_lay : ∀ (ds : List D), PyData.canLayAll0 (toPys ds) = true
  | [] => by simp [toPys, PyData.canLayAll0]
  | d :: ds => by simp only [toPys, PyData.canLayAll0, toPy_lay d, toPys_lay ds, Bool.and_self]
end
mutual
theorem toPy_dep : ∀ (d : D), (toPy d).depth = dep d
  | .non => by simp [toPy, PyData.depth, dep]
  | .bl _ => by simp [toPy, PyData.depth, dep]
  | .int _ => by simp [toPy, PyData.depth, dep]
  | .str _ => by simp [toPy, PyData.depth, dep]
  | .tup xs => by simp only [toPy, PyData.depth, dep, toPys_dep xs]
  | .ob _ => by simp [toPy, PyData.depth, dep]
  | .fn _ => by simp [toPy, PyData.depth, dep]
  | .con _ => by simp [toPy, PyData.depth, dep]
theorem toPys_dep : ∀ (ds : List D), PyData.depthAll (toPys ds) = deps ds
  | [] => by simp [toPys, PyData.depthAll, deps]
  | d :: ds => by simp only [toPys, PyData.depthAll, deps, toPy_dep d, toPys_dep ds]
end
section
variable {G : Gx} {as : List Addr} {H : Hp}
mutual
theorem Rep.dp : ∀ {d : D} {v : V}, pur d = true → Rep G as H d v → Dp G.K H v (toPy d)
  | .non, _, _, h => by simp only [Rep] at h; subst h; simp only [toPy]; exact .non
  | .bl b, _, _, h => by simp only [Rep] at h; subst h; simp only [toPy]; exact .bl b
  | .int b, _, _, h => by simp only [Rep] at h; subst h; simp only [toPy]; exact .int b
  | .str b, _, _, h => by simp only [Rep] at h; subst h; simp only [toPy]; exact .str _
  | .tup ds, _, p, h => by
    simp only [Rep] at h
    obtain ⟨a, vs, rfl, hs, hr⟩ := h
    simp only [pur] at p
    simp only [toPy]
    exact .tup (SqT.of hs) (Reps.dp p hr)
  | .ob _, _, p, _ => by simp [pur] at p
  | .fn _, _, p, _ => by simp [pur] at p
  | .con _, _, p, _ => by simp [pur] at p
theorem Reps.dp : ∀ {ds : List D} {vs : List V}, purs ds = true → Reps G as H ds vs → DpAll G.K H vs (toPys ds)
  | [], _, _, h => by simp only [Reps] at h; subst h; simp only [toPys]; exact .nil
  | d :: ds, _, p, h => by
    simp only [purs, Bool.and_eq_true] at p
    simp only [Reps] at h
    obtain ⟨v, r, rfl, h1, h2⟩ := h
    simp only [toPys]
    exact .cons (Rep.dp p.1 h1) (Reps.dp p.2 h2)
end
end
section
variable {X : Cx} {M : Mx} {Wx : WX} {pins : List (Addr × Obj)} {s : Shared} {σ : L2.St} {H : Hp}
theorem eqD_ok {x y : V} {dx dy : D} {h : Hs} {as : List Addr} {b : Bool} (hi : HI (M.g X.K) h as H) (r1 : Rep (M.g X.K) as H dx x) (r2 : Rep (M.g X.K) as H dy y) (e : eqD h dx dy = some b) :
    ∃ d d', Dp X.K H x d ∧ Dp X.K H y d' ∧ SeqAt.shaped d = true ∧ SeqAt.shaped d' = true ∧ PyData.eqv d d' = b := by
  have pure_ : ∀ dx dy : D, Rep (M.g X.K) as H dx x → Rep (M.g X.K) as H dy y → (if flat dx && flat dy then some (eqv dx dy) else none) = some b → ∃ d d', Dp X.K H x d ∧ Dp X.K H y d' ∧ SeqAt.shaped d = true ∧ SeqAt.shaped d' = true ∧ PyData.eqv d d' = b := by
    intro dx dy r1 r2 e
    split at e
    · rename_i hf
      simp only [flat, Bool.and_eq_true, decide_eq_true_eq] at hf
      obtain ⟨⟨p1, d1⟩, p2, d2⟩ := hf
      refine ⟨toPy dx, toPy dy, Rep.dp (G := M.g X.K) p1 r1, Rep.dp (G := M.g X.K) p2 r2, ?_, ?_, ?_⟩
      · unfold SeqAt.shaped; rw [toPy_lay, toPy_dep]; simpa using d1
      · unfold SeqAt.shaped; rw [toPy_lay, toPy_dep]; simpa using d2
      · rw [eqv_toPy _ _ p1 p2]; exact Option.some.inj e
    · cases e
  cases dx with
  | ob n =>
    cases dy with
    | ob m =>
      simp only [eqD] at e
      split at e
      · rename_i xs ys e1 e2
        split at e
        · rename_i hc
          simp only [Bool.and_eq_true, decide_eq_true_eq] at hc
          obtain ⟨⟨⟨p1, p2⟩, d1⟩, d2⟩ := hc
          simp only [Rep] at r1 r2
          obtain ⟨a, rfl, ea⟩ := r1
          obtain ⟨b', rfl, eb⟩ := r2
          obtain ⟨vs, h1, rv⟩ := hi.ob n _ a e1 ea
          obtain ⟨ws, h2, rw'⟩ := hi.ob m _ b' e2 eb
          refine ⟨.list (toPys xs), .list (toPys ys), .lst (SqL.of h1) (Reps.dp (G := M.g X.K) p1 rv), .lst (SqL.of h2) (Reps.dp (G := M.g X.K) p2 rw'), ?_, ?_, ?_⟩
          · unfold SeqAt.shaped
            simp only [PyData.canLay0, PyData.depth, toPys_lay, toPys_dep, Bool.true_and, decide_eq_true_eq]; omega
          · unfold SeqAt.shaped
            simp only [PyData.canLay0, PyData.depth, toPys_lay, toPys_dep, Bool.true_and, decide_eq_true_eq]; omega
          · simp only [PyData.eqv]; rw [eqvs_toPy _ _ p1 p2]; exact Option.some.inj e
        · cases e
      · cases e
    | _ => exact pure_ _ _ r1 r2 e
  | _ => cases dy <;> exact pure_ _ _ r1 r2 e
/-- truth -/
theorem truth_ok {x : V} {dx : D} {h : Hs} {as : List Addr} {b : Bool} (hi : HI (M.g X.K) h as H) (r1 : Rep (M.g X.K) as H dx x) (e : truth dx h = some b) : TruV X.K x H b := by
  have emp : ∀ {ds : List D} {vs : List V}, Reps (M.g X.K) as H ds vs → (!ds.isEmpty) = !vs.isEmpty := by
    intro ds vs r
    cases ds <;> cases vs <;> simp [Reps] at r ⊢
  cases dx with
  | non => simp only [Rep] at r1; subst r1; simp only [truth, Option.some.injEq] at e; exact e.symm
  | bl c => simp only [Rep] at r1; subst r1; simp only [truth, Option.some.injEq] at e; exact e.symm
  | int i => simp only [Rep] at r1; subst r1; simp only [truth, Option.some.injEq] at e; exact e.symm
  | str z =>
    simp only [Rep] at r1; subst r1; simp only [truth] at e
    split at e
    · rename_i hl
      refine ⟨by simpa [st, Str.length] using hl, ?_⟩
      rw [← Option.some.inj e]
      have : (st z).length = z.length := by simp [st, Str.length]
      rw [this]
      cases z with
      | nil => rfl
      | cons a r =>
        simp only [List.isEmpty_cons, Bool.not_false, List.length_cons]
        symm
        rw [bne_iff_ne]; omega
    · cases e
  | tup ds =>
    simp only [Rep] at r1
    obtain ⟨a, vs, rfl, hs, hr⟩ := r1
    simp only [truth, Option.some.injEq] at e
    exact .inr (.inl ⟨vs, SqT.of hs, by rw [← e]; exact emp hr⟩)
  | ob n =>
    simp only [Rep] at r1
    obtain ⟨a, rfl, ea⟩ := r1
    simp only [truth] at e
    split at e
    · rename_i ds e1
      obtain ⟨vs, h1, hr⟩ := hi.ob n _ a e1 ea
      exact .inl ⟨vs, SqL.of h1, by rw [← Option.some.inj e]; exact emp hr⟩
    · rename_i ds e1
      obtain ⟨o, h1⟩ := hi.ob n _ a e1 ea
      exact .inl ⟨_, .inl (.inr ⟨o, h1⟩), by rw [← Option.some.inj e]; cases ds <;> rfl⟩
    · cases e
  | fn i => simp [truth] at e
  | con i => simp [truth] at e
/-- in a list or tuple -/
theorem Rep.inj_pur (I : Inv X pins σ H s) {as : List Addr} : ∀ {d d' : D} {v : V}, pur d = true → pur d' = true → Rep (M.g X.K) as H d v → Rep (M.g X.K) as H d' v → toPy d = toPy d' := by
  intro d d' v p p' r r'
  have h1 := Rep.dp (G := M.g X.K) p r
  have h2 := Rep.dp (G := M.g X.K) p' r'
  have key : ∀ (a : PyData) (v : V) (b : PyData), Dp X.K H v a → Dp X.K H v b → (∀ xs, a ≠ .list xs) → True := fun _ _ _ _ _ _ => trivial
  clear key r r' p p'
  revert h1 h2
  generalize toPy d = a
  generalize toPy d' = b
  intro h1 h2
  have main : (∀ (v : V) (a : PyData), Dp X.K H v a → ∀ b, Dp X.K H v b → a = b) := by
    intro v a h
    refine Dp.rec (motive_1 := fun v a _ => ∀ b, Dp X.K H v b → a = b) (motive_2 := fun vs ds _ => ∀ es, DpAll X.K H vs es → ds = es) ?_ ?_ ?_ ?_ ?_ ?_ ?_ ?_ h
    · intro b h; cases h; rfl
    · intro c b h; cases h; rfl
    · intro c b h; cases h; rfl
    · intro c b h; cases h; rfl
    · intro p xs ds hs _ ih b h
      cases h with
      | lst hs' ha' => rw [I.list_inj hs hs'] at ih; rw [ih _ ha']
      | tup hs' ha' =>
        obtain ⟨_, _, ⟨o, n, e, c, _⟩, _⟩ := I.list hs
        obtain ⟨_, _, ⟨o', e', c', _⟩, _⟩ := I.tuple hs'
        rw [e] at e'; cases e'; rw [c] at c'; injection c' with c2; exact absurd c2 (by decide)
    · intro p xs ds hs _ ih b h
      cases h with
      | tup hs' ha' => rw [I.tuple_inj hs hs'] at ih; rw [ih _ ha']
      | lst hs' ha' =>
        obtain ⟨_, _, ⟨o, n, e, c, _⟩, _⟩ := I.list hs'
        obtain ⟨_, _, ⟨o', e', c', _⟩, _⟩ := I.tuple hs
        rw [e] at e'; cases e'; rw [c] at c'; injection c' with c2; exact absurd c2 (by decide)
    · intro es h; cases h; rfl
    · intro v vs d ds _ _ ih1 ih2 es h
      cases h with
      | cons a b => rw [ih1 _ a, ih2 _ b]
  exact main v a h1 b h2
open Classical in
theorem in_seq_ok {neg : Bool} {op : CmpOp} (hop : (neg, op) = (false, .In) ∨ (neg, op) = (true, .NotIn)) {x : V} {dx : D} {ys : List D} {vs : List V} {p : Addr} {v : Value} {h : Hs} {as : List Addr} {Q : VK} (hu : X.A.units + 200 < cLine) (I : Inv X pins σ H s)
    (rx : RelV x v) (hi : HI (M.g X.K) h as H) (r1 : Rep (M.g X.K) as H dx x) (hq : SqL X.K H p vs ∨ SqT X.K H p vs) (r2 : Reps (M.g X.K) as H ys vs) (fx : flat dx = true) (fy : ys.all flat = true)
    (q : Q (.bl (if neg then !inL dx ys else inL dx ys)) H) : wpAny (model X.prog X.w) X.A (compareOp op v (.ref p)) (EP X pins σ Q) X.xe s := by
  have flat_ : ∀ {d}, flat d = true → pur d = true ∧ dep d ≤ 64 := by
    intro d hd; simpa [flat] using hd
  obtain ⟨px, dxx⟩ := flat_ fx
  -- the answers by the values
  have go : ∀ its : List Value, Vals vs its → ∃ ans : Value → Bool, (∀ w ∈ its, SeqAt.EqAt X.A.in1 s w v (ans w)) ∧ its.any ans = inL dx ys := by
    intro its rv
    have room : ∀ (d : D), X.A.in1.units + min (toPy d).depth (toPy dx).depth < cLine := by
      intro d
      rw [toPy_dep, toPy_dep]
      show X.A.units + 1 + _ < _
      have := Nat.min_le_right (dep d) (dep dx)
      omega
    obtain ⟨as1, rdx⟩ := Dp.reads I (toPy dx) x v (Rep.dp (G := M.g X.K) px r1) rx
    have one : ∀ {d : D} {y : V} {w : Value}, pur d = true → Rep (M.g X.K) as H d y → RelV y w → SeqAt.EqAt X.A.in1 s w v (eqv d dx) := by
      intro d y w pd rd rw_
      obtain ⟨bs, rdy⟩ := Dp.reads I (toPy d) y w (Rep.dp (G := M.g X.K) pd rd) rw_
      rw [← eqv_toPy d dx pd px]
      exact SeqAt.eqAt_reads (toPy d) (toPy dx) X.A.in1 s w v bs as1 rdy rdx (toPy_lay _) (toPy_lay _) (room d)
    refine ⟨fun w => decide (∃ d y, d ∈ ys ∧ Rep (M.g X.K) as H d y ∧ RelV y w ∧ eqv d dx = true), ?_, ?_⟩
    · intro w hw
      have : ∀ (ys : List D) (vs : List V) (its : List Value), Reps (M.g X.K) as H ys vs → Vals vs its → w ∈ its → ∃ d y, d ∈ ys ∧ Rep (M.g X.K) as H d y ∧ RelV y w := by
        intro ys
        induction ys with
        | nil => intro vs its r rv hw; simp only [Reps] at r; subst r; cases rv; cases hw
        | cons d ds ih =>
          intro vs its r rv hw
          simp only [Reps] at r
          obtain ⟨y, r', rfl, h1, h2⟩ := r
          cases rv with
          | cons a b =>
            rcases List.mem_cons.mp hw with rfl | hw
            · exact ⟨d, y, List.mem_cons_self, h1, a⟩
            · obtain ⟨d', y', m, q1, q2⟩ := ih _ _ h2 b hw
              exact ⟨d', y', List.mem_cons_of_mem _ m, q1, q2⟩
      obtain ⟨d, y, hd, rd, rw_⟩ := this ys vs its r2 rv hw
      have pd := (flat_ (List.all_eq_true.mp fy d hd)).1
      have e : decide (∃ d y, d ∈ ys ∧ Rep (M.g X.K) as H d y ∧ RelV y w ∧ eqv d dx = true) = eqv d dx := by
        cases he : eqv d dx with
        | true => exact decide_eq_true ⟨d, y, hd, rd, rw_, he⟩
        | false =>
          refine decide_eq_false ?_
          rintro ⟨d', y', hd', rd', rw', he'⟩
          obtain rfl := rw'.inj rw_
          have pd' := (flat_ (List.all_eq_true.mp fy d' hd')).1
          have e := Rep.inj_pur (M := M) I pd pd' rd rd'
          rw [← eqv_toPy d dx pd px] at he
          rw [← eqv_toPy d' dx pd' px, ← e, he] at he'
          cases he'
      show SeqAt.EqAt X.A.in1 s w v (decide _)
      rw [e]
      exact one pd rd rw_
    · rw [Bool.eq_iff_iff, List.any_eq_true, inL, List.any_eq_true]
      constructor
      · rintro ⟨w, _, hw⟩
        obtain ⟨d, y, hd, _, _, he⟩ := of_decide_eq_true hw
        exact ⟨d, hd, he⟩
      · rintro ⟨d, hd, he⟩
        have : ∀ (ys : List D) (vs : List V) (its : List Value), Reps (M.g X.K) as H ys vs → Vals vs its → d ∈ ys → ∃ w y, w ∈ its ∧ Rep (M.g X.K) as H d y ∧ RelV y w := by
          intro ys
          induction ys with
          | nil => intro vs its r rv hw; cases hw
          | cons d0 ds ih =>
            intro vs its r rv hw
            simp only [Reps] at r
            obtain ⟨y, r', rfl, h1, h2⟩ := r
            cases rv with
            | cons a b =>
              rcases List.mem_cons.mp hw with rfl | hw
              · exact ⟨_, y, List.mem_cons_self, h1, a⟩
              · obtain ⟨w', y', m, q1, q2⟩ := ih _ _ h2 b hw
                exact ⟨w', y', List.mem_cons_of_mem _ m, q1, q2⟩
        obtain ⟨w, y, hw, rd, rw_⟩ := this ys vs its r2 rv hd
        exact ⟨w, hw, decide_eq_true ⟨d, y, hd, rd, rw_, he⟩⟩
  rcases hq with hq | hq
  · obtain ⟨its, rv, pl, hz⟩ := I.list hq
    obtain ⟨ans, a1, a2⟩ := go its rv
    rcases hop with e | e <;> cases e
    · refine SeqAt.in_listAt ans pl.isList (fun w hw => a1 w (by simpa using hw)) ⟨.bl _, H, I, rfl, ?_⟩
      rw [show its.toArray.any ans = its.any ans by simp, a2]; exact q
    · refine SeqAt.notIn_listAt ans pl.isList (fun w hw => a1 w (by simpa using hw)) ⟨.bl _, H, I, rfl, ?_⟩
      rw [show its.toArray.any ans = its.any ans by simp, a2]; exact q
  · obtain ⟨its, rv, pl, hz⟩ := I.tuple hq
    obtain ⟨ans, a1, a2⟩ := go its rv
    rcases hop with e | e <;> cases e
    · refine SeqAt.in_tupleAt ans pl (fun w hw => a1 w (by simpa using hw)) ⟨.bl _, H, I, rfl, ?_⟩
      rw [show its.toArray.any ans = its.any ans by simp, a2]; exact q
    · refine SeqAt.notIn_tupleAt ans pl (fun w hw => a1 w (by simpa using hw)) ⟨.bl _, H, I, rfl, ?_⟩
      rw [show its.toArray.any ans = its.any ans by simp, a2]; exact q
end
end Rf
end

section
namespace Rf
open PySem PySem.Spec PyProof.Rows L2

theorem post.imp {α β : Type} {G : Gx} {Wx : WX} {Rl : List Addr → Hp → α → β → Prop} {as : List Addr} {H : Hp} {σ : L2.St} {r : R α} {Q Q' : β → Hp → Prop} (p : post G Wx Rl as H σ r Q) (h : ∀ v H', Q v H' → Q' v H') : post G Wx Rl as H σ r Q' := by
  cases r with
  | ok d h' => exact fun v as2 H2 e i q => h _ _ (p v as2 H2 e i q)
  | exc c fs h' => exact p
  | no => exact p

/-! ## keys -/
theorem st_inj {s t : List Char} (e : st s = st t) : s = t := by
  have := st_beq s t
  rw [e, beq_self_eq_true] at this
  exact (eq_of_beq this.symm)
theorem eqv_key {a k : D} {x y : Key} (ha : keyK a = some x) (hk : keyK k = some y) : eqv a k = decide (x = y) := by
  cases a <;> simp only [keyK, Option.some.injEq, reduceCtorEq] at ha <;> cases k <;> simp only [keyK, Option.some.injEq, reduceCtorEq] at hk <;> subst ha hk
  · rename_i i j
    simp only [eqv]
    rw [Bool.eq_iff_iff, beq_iff_eq, decide_eq_true_eq]
    exact ⟨fun e => by rw [e], fun e => Sum.inl.inj e⟩
  · simp only [eqv]
    exact (decide_eq_false (fun q => nomatch q)).symm
  · simp only [eqv]
    exact (decide_eq_false (fun q => nomatch q)).symm
  · rename_i i j
    simp only [eqv]
    rw [Bool.eq_iff_iff, beq_iff_eq, decide_eq_true_eq]
    exact ⟨fun e => by rw [e], fun e => st_inj (Sum.inr.inj e)⟩
theorem eqvs_key : ∀ {a k : List D} {x y : List Key}, keyKs a = some x → keyKs k = some y → eqvs a k = decide (x = y)
  | [], [], x, y, ha, hk => by simp only [keyKs, Option.some.injEq] at ha hk; subst ha hk; simp [eqvs]
  | [], d :: ds, x, y, ha, hk => by
    simp only [keyKs, Option.some.injEq] at ha; subst ha
    simp only [keyKs] at hk
    split at hk
    · cases hk; simp [eqvs]
    · cases hk
  | d :: ds, [], x, y, ha, hk => by
    simp only [keyKs, Option.some.injEq] at hk; subst hk
    simp only [keyKs] at ha
    split at ha
    · cases ha; simp [eqvs]
    · cases ha
  | d :: ds, e :: es, x, y, ha, hk => by
    simp only [keyKs] at ha hk
    split at ha
    · rename_i k1 ks1 e1 e2
      split at hk
      · rename_i k2 ks2 e3 e4
        cases ha; cases hk
        simp only [eqvs, eqv_key e1 e3, eqvs_key e2 e4]
        rw [Bool.eq_iff_iff]
        simp
      · cases hk
    · cases ha
theorem eqv_keyT {a k : D} {x y : List Key} (ha : keyT a = some x) (hk : keyT k = some y) : eqv a k = decide (x = y) := by
  cases a <;> simp only [keyT, reduceCtorEq] at ha
  cases k <;> simp only [keyT, reduceCtorEq] at hk
  simp only [eqv]
  exact eqvs_key ha hk
theorem isK_key {d : D} (h : isK d = true) : ∃ k, keyK d = some k := by
  cases d <;> simp [isK] at h <;> exact ⟨_, rfl⟩
theorem isT_key {d : D} (h : isT d = true) : ∃ k, keyT d = some k := by
  cases d with
  | tup ds =>
    simp only [isT] at h
    simp only [keyT]
    induction ds with
    | nil => exact ⟨[], rfl⟩
    | cons a r ih =>
      simp only [List.all_cons, Bool.and_eq_true] at h
      obtain ⟨k, hk⟩ := isK_key h.1
      obtain ⟨ks, hks⟩ := ih h.2
      exact ⟨k :: ks, by simp only [keyKs, hk, hks]⟩
  | _ => simp [isT] at h
section
variable {κ : Type} [DecidableEq κ] {ky : D → Option κ} {G : Gx} {as : List Addr} {H : Hp}
theorem RepKV.get (he : ∀ {a k : D} {x y : κ}, ky a = some x → ky k = some y → eqv a k = decide (x = y)) {k : D} {y : κ} (hk : ky k = some y) : ∀ {kvs : List (D × D)} {kv : List (κ × V)}, RepKV ky G as H kvs kv →
    (kvGet kvs k = none ∧ valV kv y = none) ∨ ∃ d v, kvGet kvs k = some d ∧ valV kv y = some v ∧ Rep G as H d v
  | _, _, .nil => .inl ⟨rfl, rfl⟩
  | (a, b) :: kvs, (x, v) :: kv, .cons h t => by
    have e := he h.1 hk
    simp only [kvGet]
    by_cases hx : x = y
    · rw [decide_eq_true hx] at e
      rw [if_pos e]
      exact .inr ⟨b, v, rfl, valV_pos hx, h.2⟩
    · rw [decide_eq_false hx] at e
      rw [e, valV_neg hx]
      simpa using RepKV.get he hk t
theorem valV_none_any {kv : List (κ × V)} {y : κ} (h : valV kv y = none) : (kv.any fun q => decide (q.1 = y)) = false := by
  rw [valV_any, h]; rfl
theorem RepKV.any (he : ∀ {a k : D} {x y : κ}, ky a = some x → ky k = some y → eqv a k = decide (x = y)) {k : D} {y : κ} (hk : ky k = some y) : ∀ {kvs : List (D × D)} {kv : List (κ × V)}, RepKV ky G as H kvs kv →
    (kvs.any fun p => eqv p.1 k) = kv.any fun q => decide (q.1 = y)
  | _, _, .nil => rfl
  | (a, b) :: kvs, (x, v) :: kv, .cons h t => by
    rw [List.any_cons, List.any_cons, RepKV.any he hk t, he h.1 hk]
theorem RepKV.repl (he : ∀ {a k : D} {x y : κ}, ky a = some x → ky k = some y → eqv a k = decide (x = y)) {k d : D} {y : κ} {v : V} (hk : ky k = some y) (hv : Rep G as H d v) :
    ∀ {kvs : List (D × D)} {kv : List (κ × V)}, RepKV ky G as H kvs kv → RepKV ky G as H (kvs.map (fun p => if eqv p.1 k = true then (p.1, d) else p)) (kv.map (fun p => if p.1 = y then (p.1, v) else p))
  | _, _, .nil => .nil
  | (a, b) :: kvs, (x, w) :: kv, .cons h t => by
    have e := he h.1 hk
    rw [List.map_cons, List.map_cons]
    refine .cons ?_ (RepKV.repl he hk hv t)
    show ky (if eqv a k = true then (a, d) else (a, b)).1 = some (if x = y then (x, v) else (x, w)).1 ∧ Rep G as H (if eqv a k = true then (a, d) else (a, b)).2 (if x = y then (x, v) else (x, w)).2
    rw [show eqv a k = decide (x = y) from e]
    by_cases hx : x = y
    · rw [if_pos (decide_eq_true hx), if_pos hx]; exact ⟨h.1, hv⟩
    · rw [if_neg (by simpa using hx), if_neg hx]; exact h
theorem RepKV.snoc {k d : D} {y : κ} {v : V} (hk : ky k = some y) (hv : Rep G as H d v) : ∀ {kvs : List (D × D)} {kv : List (κ × V)}, RepKV ky G as H kvs kv → RepKV ky G as H (kvs ++ [(k, d)]) (kv ++ [(y, v)])
  | _, _, .nil => .cons ⟨hk, hv⟩ .nil
  | _ :: _, _ :: _, .cons h t => .cons h (RepKV.snoc hk hv t)
theorem RepKV.put (he : ∀ {a k : D} {x y : κ}, ky a = some x → ky k = some y → eqv a k = decide (x = y)) {k d : D} {y : κ} {v : V} (hk : ky k = some y) (hv : Rep G as H d v)
    {kvs : List (D × D)} {kv : List (κ × V)} (r : RepKV ky G as H kvs kv) : RepKV ky G as H (kvPut kvs k d) (putK kv y v) := by
  unfold kvPut putK
  rw [RepKV.any he hk r]
  split
  · exact RepKV.repl he hk hv r
  · exact RepKV.snoc hk hv r
theorem RepKV.length {kvs : List (D × D)} {kv : List (κ × V)} (h : RepKV ky G as H kvs kv) : kvs.length = kv.length := Paired.length h
end
section
variable {X : Cx} {M : Mx} {Wx : WX} {pins : List (Addr × Obj)} {s : Shared} {σ : L2.St} {H : Hp} {as : List Addr} {h : Hs}
theorem lkd.rd {lk : Bool} {a : Addr} {o : HO} (e : lkd lk H a o) : Rd H a o := by
  unfold lkd at e
  split at e
  · exact .inr e
  · exact .inl e
/-- SqT that is tracked -/
theorem Rep.keyT_ref {ds : List D} {ks : List Key} (e : keyKs ds = some ks) {vs : List V} (r : Reps (M.g X.K) as H ds vs) : vs = ks.map kV := by
  induction ds generalizing ks vs with
  | nil => simp only [keyKs, Option.some.injEq] at e; subst e; simp only [Reps] at r; subst r; rfl
  | cons d ds ih =>
    simp only [keyKs] at e
    split at e
    · rename_i k ks' e1 e2
      cases e
      simp only [Reps] at r
      obtain ⟨v, r', rfl, h1, h2⟩ := r
      rw [List.map_cons, ← ih e2 h2]
      congr 1
      cases d <;> simp only [keyK, Option.some.injEq, reduceCtorEq] at e1 <;> subst e1 <;> simp only [Rep] at h1 <;> subst h1 <;> rfl
    · cases e
theorem Rep.keyK_v {d : D} {k : Key} {v : V} (e : keyK d = some k) (r : Rep (M.g X.K) as H d v) : v = kV k := by
  cases d <;> simp only [keyK, Option.some.injEq, reduceCtorEq] at e <;> subst e <;> simp only [Rep] at r <;> subst r <;> rfl
end
end Rf
end

section
namespace Rf
open PySem PySem.Spec PyProof.Rows L2

/-- the module's constant tuples (lists) -/
def ConOk (M : Mx) (K : PySem.W.Frag) : Prop := ∀ (g : Nat) (ys : List D) (a : Addr), M.W.cons[g]? = some ys → M.ga g = some a →
  ∃ vs : List V, (∀ (H : Hp) (as : List Addr), SqT K H a vs ∧ Reps (M.g K) as H ys vs) ∧ ys.all flat = true
/-- the script, where it is an object of the module -/
def ScrOk (M : Mx) (K : PySem.W.Frag) : Prop := ∀ a : Addr, M.ga M.W.cons.length = some a → ∀ H : Hp, SqL K H a (M.W.scr.map V.int)
section
variable {X : Cx} {M : Mx} {Wx : WX} {pins : List (Addr × Obj)} {s : Shared} {σ : L2.St} {H : Hp}
theorem dget_ok {x : V} {k : D} {a : Addr} {as : List Addr} {lk t : Bool} {kvs : List (D × D)} (hob : ObR (M.g X.K) as H a (.dic lk t kvs)) (hk : okK t kvs k = true) (rk : Rep (M.g X.K) as H k x) :
    ∃ o, DGet H a x o ∧ ((kvGet kvs k = none ∧ o = none) ∨ ∃ d v, kvGet kvs k = some d ∧ o = some v ∧ Rep (M.g X.K) as H d v) := by
  cases t with
  | false =>
    obtain ⟨kv, h1, h2⟩ := hob
    simp only [okK, Bool.false_eq_true, if_false, Bool.and_eq_true] at hk
    obtain ⟨y, hy⟩ := isK_key hk.1
    refine ⟨valV kv y, .inl ⟨kv, y, h1.rd, Rep.keyK_v hy rk, rfl⟩, ?_⟩
    rcases RepKV.get (fun a b => eqv_key a b) hy h2 with ⟨e1, e2⟩ | ⟨d, v, e1, e2, r⟩
    · exact .inl ⟨e1, e2⟩
    · exact .inr ⟨d, v, e1, e2, r⟩
  | true =>
    obtain ⟨kv, h1, h2⟩ := hob
    simp only [okK, if_true, Bool.and_eq_true] at hk
    obtain ⟨y, hy⟩ := isT_key hk.1
    cases k with
    | tup ds =>
      simp only [Rep] at rk
      obtain ⟨b, vs, rfl, hb, hr⟩ := rk
      rw [Rep.keyT_ref hy hr] at hb
      refine ⟨valV kv y, .inr ⟨kv, y, b, h1.rd, rfl, hb, rfl⟩, ?_⟩
      rcases RepKV.get (fun a b => eqv_keyT a b) hy h2 with ⟨e1, e2⟩ | ⟨d, v, e1, e2, r⟩
      · exact .inl ⟨e1, e2⟩
      · exact .inr ⟨d, v, e1, e2, r⟩
    | _ => simp [keyT] at hy
theorem st1 (c : Char) : st [c] = ⟨#[c.toNat]⟩ := rfl
theorem st_mem (c : Char) (z : List Char) : decide (c.toNat ∈ (st z).cps.toList) = z.contains c := by
  rw [Bool.eq_iff_iff, decide_eq_true_eq, List.contains_iff_mem]
  show c.toNat ∈ z.map Char.toNat ↔ _
  constructor
  · intro h
    obtain ⟨d, hd, e⟩ := List.mem_map.mp h
    rw [← Char.toNat_inj.mp e]; exact hd
  · exact fun h => List.mem_map.mpr ⟨c, h, rfl⟩
theorem inD_ok {neg : Bool} {op : CmpOp} (hop : (neg, op) = (false, .In) ∨ (neg, op) = (true, .NotIn)) {x y : V} {dx dy : D} {v u : Value} {h : Hs} {as : List Addr} {Q : VK} {b : Bool} (hu : X.A.units + 200 < cLine) (hc : ConOk M X.K) (I : Inv X pins σ H s)
    (rx : RelV x v) (ry : RelV y u) (hi : HI (M.g X.K) h as H) (r1 : Rep (M.g X.K) as H dx x) (r2 : Rep (M.g X.K) as H dy y) (e : inD M.W.cons dx dy h = some b)
    (q : Q (.bl (if neg then !b else b)) H) : wpAny (model X.prog X.w) X.A (compareOp op v u) (EP X pins σ Q) X.xe s := by
  cases dy with
  | tup ys =>
    simp only [inD] at e
    split at e
    · rename_i hf
      simp only [Bool.and_eq_true] at hf
      cases e
      simp only [Rep] at r2
      obtain ⟨a, vs, rfl, h1, hr⟩ := r2
      cases ry
      exact in_seq_ok hop hu I rx hi r1 (.inr (SqT.of h1)) hr hf.1 hf.2 q
    · cases e
  | con g =>
    simp only [inD] at e
    split at e
    · rename_i ys e1
      split at e
      · rename_i hf
        simp only [Bool.and_eq_true] at hf
        cases e
        simp only [Rep] at r2
        obtain ⟨a, rfl, h1⟩ := r2
        cases ry
        obtain ⟨vs, hv, _⟩ := hc g ys a e1 h1
        exact in_seq_ok hop hu I rx hi r1 (.inr (hv H as).1) (hv H as).2 hf.1 hf.2 q
      · cases e
    · cases e
  | ob n =>
    simp only [inD] at e
    simp only [Rep] at r2
    obtain ⟨a, rfl, ea⟩ := r2
    cases ry
    split at e
    · rename_i ys e1
      split at e
      · rename_i hf
        simp only [Bool.and_eq_true] at hf
        cases e
        obtain ⟨vs, h1, hr⟩ := hi.ob n _ a e1 ea
        exact in_seq_ok hop hu I rx hi r1 (.inl (SqL.of h1)) hr hf.1 hf.2 q
      · cases e
    · rename_i lk t kvs e1
      split at e
      · rename_i hf
        cases e
        obtain ⟨o, g, ho⟩ := dget_ok (hi.ob n _ a e1 ea) hf r1
        have eo : o.isSome = (kvGet kvs dx).isSome := by
          rcases ho with ⟨e1, e2⟩ | ⟨d, v, e1, e2, _⟩ <;> rw [e1, e2] <;> rfl
        rcases hop with e | e <;> cases e
        · exact d_in (by omega) I g rx fun s' I' => ⟨.bl o.isSome, H, I', rfl, by rw [eo]; exact q⟩
        · exact d_notIn (by omega) I g rx fun s' I' => ⟨.bl (!o.isSome), H, I', rfl, by rw [eo]; exact q⟩
      · cases e
    · cases e
  | str z =>
    simp only [inD] at e
    split at e
    · rename_i c
      cases e
      simp only [Rep] at r1 r2
      subst r1 r2
      rw [← st_mem] at q
      rcases hop with e | e <;> cases e
      · exact op_in_sign pins s σ H _ _ v u Q I rx ry ⟨c.toNat, st z, rfl, rfl, q⟩
      · exact op_notIn_sign pins s σ H _ _ v u Q I rx ry ⟨c.toNat, st z, rfl, rfl, q⟩
    · cases e
  | _ => simp [inD] at e
/-- comparisons -/
def cpOf : Cp → CmpOp
  | .eq => .Eq | .ne => .NotEq | .lt => .Lt | .le => .LtE | .gt => .Gt | .ge => .GtE | .in_ => .In | .nin => .NotIn | .is_ => .Is | .isn => .IsNot
theorem hits_of {A : Around} {s : Shared} {ls : List (D × D)} {lv : List (Key × V)} {vb : List (Key × Value)} {as : List Addr} (hu : A.units + 100 < cLine) (I : Inv X pins σ H s) (hl : RepKV keyK (M.g X.K) as H ls lv) (fl : ls.all (fun p => flat p.2) = true) (rb : KV lv vb) :
    ∀ {ks : List (D × D)} {kv : List (Key × V)} {va : List (Key × Value)}, RepKV keyK (M.g X.K) as H ks kv → ks.all (fun p => flat p.2) = true → KV kv va → PySem.W.KeqHits A s vb va (ks.all (hitKV ls))
  | _, _, _, .nil, _, .nil => .nil
  | (k, d) :: ks, (x, v) :: kv, (x', u) :: va, .cons h1 t1, fk, .cons h2 t2 => by
    simp only [List.all_cons, Bool.and_eq_true] at fk
    obtain ⟨hk, hr⟩ := h1
    obtain ⟨rfl, ru⟩ := h2
    simp only at hk hr ru
    have ih := hits_of hu I hl fl rb t1 fk.2 t2
    rw [List.all_cons]
    rcases RepKV.get (fun ha hk => eqv_key ha hk) hk hl with ⟨e1, e2⟩ | ⟨w, wv, e1, e2, rw_⟩
    · have : hitKV ls (k, d) = false := by unfold hitKV; rw [e1]
      rw [this, Bool.false_and]
      refine .miss ?_
      have := rb.val x
      rw [e2] at this
      exact this.none_of
    · have : hitKV ls (k, d) = eqv d w := by unfold hitKV; rw [e1]
      rw [this]
      have rv := rb.val x
      rw [e2] at rv
      obtain ⟨y, hy, ry⟩ := rv.some_of
      refine .hit hy ?_ ih
      have fw : flat w = true := by
        have : ∀ {l : List (D × D)}, kvGet l k = some w → ∃ p ∈ l, p.2 = w := by
          intro l
          induction l with
          | nil => intro e; simp [kvGet] at e
          | cons p l ih =>
            obtain ⟨a, b⟩ := p
            intro e
            unfold kvGet at e
            split at e
            · cases e; exact ⟨_, List.mem_cons_self, rfl⟩
            · obtain ⟨q, hq, eq⟩ := ih e; exact ⟨q, List.mem_cons_of_mem _ hq, eq⟩
        obtain ⟨p, hp, rfl⟩ := this e1
        exact List.all_eq_true.mp fl p hp
      have flat_ : ∀ {d}, flat d = true → pur d = true ∧ dep d ≤ 64 := by
        intro d hd; simpa [flat] using hd
      obtain ⟨pd, dd⟩ := flat_ fk.1
      obtain ⟨pw, dw⟩ := flat_ fw
      obtain ⟨bs, rdx⟩ := Dp.reads I (toPy d) v u (Rep.dp (G := M.g X.K) pd hr) ru
      obtain ⟨cs, rdy⟩ := Dp.reads I (toPy w) wv y (Rep.dp (G := M.g X.K) pw rw_) ry
      rw [← eqv_toPy d w pd pw]
      refine SeqAt.eqAt_reads (toPy d) (toPy w) A s u y bs cs rdx rdy (toPy_lay _) (toPy_lay _) ?_
      rw [toPy_dep, toPy_dep]
      have := Nat.min_le_right (dep d) (dep w)
      omega
theorem cmpA_ok {o : Cp} {x y : V} {dx dy : D} {v u : Value} {h : Hs} {as : List Addr} {Q : VK} (hu : X.A.units + 200 < cLine) (hc : ConOk M X.K) (I : Inv X pins σ H s) (rx : RelV x v) (ry : RelV y u)
    (hi : HI (M.g X.K) h as H) (r1 : Rep (M.g X.K) as H dx x) (r2 : Rep (M.g X.K) as H dy y) (p : post (M.g X.K) Wx (Rep (M.g X.K)) as H σ (cmpA M.W.cons o dx dy h) Q) :
    wpAny (model X.prog X.w) X.A (compareOp (cpOf o) v u) (EP X pins σ Q) X.xe s := by
  have fin : ∀ {b : Bool}, post (M.g X.K) Wx (Rep (M.g X.K)) as H σ (.ok (.bl b) h) Q → Q (.bl b) H := fun {b} p => p _ as H Ext.refl hi (by simp only [Rep])
  have int2 : ∀ {g : Int → Int → Bool}, OpR X (compareOp (cpOf o)) (rI0 fun i j => .bl (g i j)) → (post (M.g X.K) Wx (Rep (M.g X.K)) as H σ (cmpI g dx dy h) Q) →
      wpAny (model X.prog X.w) X.A (compareOp (cpOf o) v u) (EP X pins σ Q) X.xe s := by
    intro g hop p
    cases dx <;> try exact p.elim
    cases dy <;> try exact p.elim
    simp only [Rep] at r1 r2
    subst r1 r2
    exact hop pins s σ H _ _ v u Q I rx ry ⟨_, _, rfl, rfl, fin p⟩
  cases o with
  | eq =>
    simp only [cmpA] at p
    split at p
    · rename_i q eq_
      obtain ⟨b, e, p⟩ := post.ofO p
      unfold dicB at eq_
      split at eq_
      · rename_i n m
        split at eq_
        · rename_i lk1 ks lk2 ls e1 e2
          cases eq_
          simp only [Rep] at r1 r2
          obtain ⟨a, rfl, ea⟩ := r1
          obtain ⟨a', rfl, eb⟩ := r2
          obtain ⟨kv, h1, rk⟩ := hi.ob n _ a e1 ea
          obtain ⟨lv, h2, rl⟩ := hi.ob m _ a' e2 eb
          obtain rfl : v = Value.ref a := rx
          obtain rfl : u = Value.ref a' := ry
          obtain ⟨_, ya, va, ra, da⟩ := dk_rd I.hok h1.rd
          obtain ⟨_, yb, vb, rb, db⟩ := dk_rd I.hok h2.rd
          unfold eqKV at e
          split at e
          · rename_i hf
            simp only [Bool.and_eq_true] at hf
            cases e
            have hl1 : va.length = ks.length := by rw [← ra.length, ← Paired.length rk]
            have hl2 : vb.length = ls.length := by rw [← rb.length, ← Paired.length rl]
            exact PySem.W.keq_eq (knd := mixKind X.prog X.w) (r := ks.all (hitKV ls)) ya yb da db (by omega) (fun _ => hits_of (by show X.A.units + 1 + 100 < _; omega) I rl hf.2 rb rk hf.1 ra) (fin_bl I (fin p) (by rw [hl1, hl2]))
          · cases e
        · cases eq_
      · cases eq_
    · simp only [cmpD] at p
      split at p
      · rename_i b e
        obtain ⟨d, d', h1, h2, h3, h4, h5⟩ := eqD_ok hi r1 r2 e
        exact op_eqD (by omega) pins s σ H x y v u Q I rx ry ⟨d, d', h1, h2, h3, h4, by rw [h5]; exact fin p⟩
      · exact p.elim
  | ne =>
    simp only [cmpA] at p
    split at p
    · rename_i q eq_
      obtain ⟨b, e, p⟩ := post.ofO p
      unfold dicB at eq_
      split at eq_
      · rename_i n m
        split at eq_
        · rename_i lk1 ks lk2 ls e1 e2
          cases eq_
          simp only [Rep] at r1 r2
          obtain ⟨a, rfl, ea⟩ := r1
          obtain ⟨a', rfl, eb⟩ := r2
          obtain ⟨kv, h1, rk⟩ := hi.ob n _ a e1 ea
          obtain ⟨lv, h2, rl⟩ := hi.ob m _ a' e2 eb
          obtain rfl : v = Value.ref a := rx
          obtain rfl : u = Value.ref a' := ry
          obtain ⟨_, ya, va, ra, da⟩ := dk_rd I.hok h1.rd
          obtain ⟨_, yb, vb, rb, db⟩ := dk_rd I.hok h2.rd
          unfold eqKV at e
          split at e
          · rename_i hf
            simp only [Bool.and_eq_true] at hf
            cases e
            have hl1 : va.length = ks.length := by rw [← ra.length, ← Paired.length rk]
            have hl2 : vb.length = ls.length := by rw [← rb.length, ← Paired.length rl]
            exact PySem.W.keq_ne (knd := mixKind X.prog X.w) (r := ks.all (hitKV ls)) ya yb da db (by omega) (fun _ => hits_of (by show X.A.units + 1 + 100 < _; omega) I rl hf.2 rb rk hf.1 ra) (fin_bl I (fin p) (by rw [hl1, hl2]))
          · cases e
        · cases eq_
      · cases eq_
    · simp only [cmpD] at p
      split at p
      · rename_i b e
        obtain ⟨d, d', h1, h2, h3, h4, h5⟩ := eqD_ok hi r1 r2 e
        exact op_neD (by omega) pins s σ H x y v u Q I rx ry ⟨d, d', h1, h2, h3, h4, by rw [h5]; exact fin p⟩
      · exact p.elim
  | lt => exact int2 op_lt p
  | le => exact int2 op_le p
  | gt => exact int2 op_gt p
  | ge => exact int2 op_ge p
  | in_ =>
    obtain ⟨b, e, p⟩ := post.ofO p
    exact inD_ok (neg := false) (.inl rfl) hu hc I rx ry hi r1 r2 e (fin p)
  | nin =>
    obtain ⟨b, e, p⟩ := post.ofO p
    exact inD_ok (neg := true) (.inr rfl) hu hc I rx ry hi r1 r2 e (fin p)
  | is_ =>
    simp only [cmpA] at p
    cases dy <;> try exact p.elim
    simp only [Rep] at r2
    subst r2
    refine op_isN pins s σ H x _ v u Q I rx ry ⟨rfl, ?_⟩
    cases dx <;> simp only [Rep] at r1
    · subst r1; exact fin p
    all_goals first
      | (subst r1; exact fin p)
      | (obtain ⟨a, _, rfl, _⟩ := r1; exact fin p)
      | (obtain ⟨a, rfl, _⟩ := r1; exact fin p)
  | isn =>
    simp only [cmpA] at p
    cases dy <;> try exact p.elim
    simp only [Rep] at r2
    subst r2
    refine op_notN pins s σ H x _ v u Q I rx ry ⟨rfl, ?_⟩
    cases dx <;> simp only [Rep] at r1
    · subst r1; exact fin p
    all_goals first
      | (subst r1; exact fin p)
      | (obtain ⟨a, _, rfl, _⟩ := r1; exact fin p)
      | (obtain ⟨a, rfl, _⟩ := r1; exact fin p)
end
end Rf
end

section
namespace Rf
open PySem PySem.Spec PyProof.Rows L2

theorem ofString_inj {a b : String} (e : Str.ofString a = Str.ofString b) : a = b := by
  rw [Str.ofString_eq_toList, Str.ofString_eq_toList] at e
  have e1 := congrArg (fun z => z.cps.toList) e
  exact String.toList_inj.mp ((List.map_inj_right (fun a b h => Char.toNat_inj.mp h)).mp e1)
theorem ofString_st (a : String) : Str.ofString a = st a.toList := Str.ofString_eq_toList a
theorem st_len (z : List Char) : (st z).length = z.length := by simp [st, Str.length]
section
variable {G : Gx} {as : List Addr} {H : Hp}
theorem RepF.lookup (f : String) : ∀ {fs : List (String × D)} {vs : List (Str × V)}, RepF G as H fs vs → (fs.lookup f = none ∧ vs.lookup (Str.ofString f) = none) ∨ ∃ d v, fs.lookup f = some d ∧ vs.lookup (Str.ofString f) = some v ∧ Rep G as H d v
  | _, _, .nil => .inl ⟨rfl, rfl⟩
  | (g, d) :: fs, (q, v) :: vs, .cons h t => by
    obtain ⟨e, hr⟩ := h
    simp only at e hr
    subst e
    rw [List.lookup_cons, List.lookup_cons]
    by_cases hf : f = g
    · subst hf
      rw [beq_self_eq_true, beq_self_eq_true]
      exact .inr ⟨d, v, rfl, rfl, hr⟩
    · rw [beq_eq_false_iff_ne.mpr hf, beq_eq_false_iff_ne.mpr (fun e => hf (ofString_inj e))]
      exact RepF.lookup f t
theorem RepF.put {f : String} {d : D} {v : V} (hv : Rep G as H d v) : ∀ {fs : List (String × D)} {vs : List (Str × V)}, RepF G as H fs vs → RepF G as H (fput f d fs) (putF (Str.ofString f) v vs)
  | _, _, .nil => .cons ⟨rfl, hv⟩ .nil
  | (g, d') :: fs, (q, v') :: vs, .cons h t => by
    obtain ⟨e, hr⟩ := h
    simp only at e hr
    subst e
    simp only [fput, putF]
    by_cases hf : g = f
    · subst hf
      rw [if_pos rfl, if_pos rfl]
      exact .cons ⟨rfl, hv⟩ t
    · rw [if_neg hf, if_neg (fun e => hf (ofString_inj e))]
      exact .cons ⟨rfl, hr⟩ (RepF.put hv t)
theorem RepF.length {fs : List (String × D)} {vs : List (Str × V)} (h : RepF G as H fs vs) : fs.length = vs.length := Paired.length h
theorem Reps.at {ds : List D} {vs : List V} {i : Int} {d : D} (r : Reps G as H ds vs) (e : atI ds i = some d) : ∃ v, atI vs i = some v ∧ Rep G as H d v := by
  unfold atI at e ⊢
  rw [← r.length]
  cases h : ixN ds.length i with
  | none => rw [h] at e; simp at e
  | some j =>
    rw [h] at e
    simp only [Option.bind_some] at e ⊢
    exact r.get e
theorem Reps.cut {ds : List D} {vs : List V} (lo hi : Option Int) (r : Reps G as H ds vs) : Reps G as H (cutD ds lo hi) (cutV vs lo hi) := by
  unfold cutD cutV
  rw [← r.length]
  exact Reps.take _ (Reps.drop _ r)
theorem Reps.int_map {ns : List Int} : Reps G as H (ns.map D.int) (ns.map V.int) := Reps.ints
end
section
variable {X : Cx} {M : Mx} {Wx : WX} {pins : List (Addr × Obj)} {s : Shared} {σ : L2.St} {H : Hp}
/-- what is at an address: a list of ours or the script -/
theorem lst_of {h : Hs} {as : List Addr} (hi : HI (M.g X.K) h as H) {n : Nat} {a : Addr} {xs : List D} (e : h[n]? = some (.lst xs) ∨ ∃ ns : List Int, h[n]? = some (.scr ns) ∧ xs = ns.map D.int) (ea : as[n]? = some a) : ∃ vs, SqL X.K H a vs ∧ Reps (M.g X.K) as H xs vs := by
  rcases e with e | ⟨ns, e, rfl⟩
  · obtain ⟨vs, h1, h2⟩ := hi.ob n _ a e ea
    exact ⟨vs, SqL.of h1, h2⟩
  · obtain ⟨o, h1⟩ := hi.ob n _ a e ea
    exact ⟨_, .inl (.inr ⟨o, h1⟩), Reps.ints⟩
/-- x[y], not of a dict -/
def rIx8 (M : Mx) (K : PySem.W.Frag) (Wx : WX) (σ : L2.St) : R2 := fun x y H Q => ∃ dx dy h as, HI (M.g K) h as H ∧ Rep (M.g K) as H dx x ∧ Rep (M.g K) as H dy y ∧ (∀ n lk t kvs, dx = .ob n → h[n]? ≠ some (.dic lk t kvs)) ∧ post (M.g K) Wx (Rep (M.g K)) as H σ (ixD M.W.cons dx dy h) Q
theorem ix8 (hc : ConOk M X.K) (σ' : L2.St) : IxR X (rIx8 M X.K Wx σ') := by
  intro value slice pins s σ H x y v u Q I rx ry h hsub
  obtain ⟨dx, dy, h, as, hi, r1, r2, nd, p⟩ := h
  have seq_ : ∀ {ds : List D} {a : Addr} {i : Int} {vs : List V}, x = .ref a → dy = .int i → (SqL X.K H a vs ∨ SqT X.K H a vs) → Reps (M.g X.K) as H ds vs → post (M.g X.K) Wx (Rep (M.g X.K)) as H σ' (ofO (atI ds i) h) Q →
      wpAny (model X.prog X.w) X.A (subscriptTail value slice v u) (EP X pins σ Q) X.xe s := by
    intro ds a i vs e1 e2 hq hr p2
    subst e1 e2
    simp only [Rep] at r2
    subst r2
    cases e : atI ds i with
    | none => rw [e] at p2; exact p2.elim
    | some d =>
      rw [e] at p2
      obtain ⟨w, e3, rw_⟩ := hr.at e
      have q : Q w H := p2 w as H Ext.refl hi rw_
      rcases hq with hq | hq
      · exact ix_list value slice pins s σ H _ _ v u Q I rx ry ⟨a, vs, i, w, rfl, rfl, hq, e3, q⟩ hsub
      · exact ix_tup value slice pins s σ H _ _ v u Q I rx ry ⟨a, vs, i, w, rfl, rfl, hq, e3, q⟩ hsub
  cases dx with
  | tup xs =>
    cases dy with
    | int i =>
      simp only [Rep] at r1
      obtain ⟨a, vs, rfl, h1, hr⟩ := r1
      exact seq_ rfl rfl (.inr (SqT.of h1)) hr p
    | _ => exact p.elim
  | con g =>
    cases dy with
    | int i =>
      simp only [ixD] at p
      simp only [Rep] at r1
      obtain ⟨a, rfl, h1⟩ := r1
      split at p
      · rename_i ys e1
        obtain ⟨vs, hv, _⟩ := hc g ys a e1 h1
        exact seq_ rfl rfl (.inr (hv H as).1) (hv H as).2 p
      · exact p.elim
    | _ => exact p.elim
  | str z =>
    cases dy with
    | int i =>
      simp only [Rep] at r1 r2
      subst r1 r2
      simp only [ixD] at p
      split at p
      · rename_i hl
        cases e : atI z i with
        | none => rw [e] at p; exact p.elim
        | some c =>
          rw [e] at p
          have q : Q (.str (st [c])) H := p _ as H Ext.refl hi (by simp only [Rep])
          refine ix_str value slice pins s σ H _ _ v u Q I rx ry ⟨st z, i, c.toNat, rfl, rfl, by rw [st_len]; exact hl, ?_, q⟩ hsub
          show atI (z.map Char.toNat) i = some c.toNat
          unfold atI at e ⊢
          rw [List.length_map]
          cases h : ixN z.length i with
          | none => rw [h] at e; simp at e
          | some j =>
            rw [h] at e
            simp only [Option.bind_some, List.getElem?_map] at e ⊢
            rw [e]; rfl
      · exact p.elim
    | _ => exact p.elim
  | ob n =>
    simp only [Rep] at r1
    obtain ⟨a, rfl, ea⟩ := r1
    simp only [ixD] at p
    split at p
    · rename_i xs i e1
      obtain ⟨vs, h1, h2⟩ := lst_of hi (.inl e1) ea
      exact seq_ rfl rfl (.inl h1) h2 p
    · rename_i ns i e1
      obtain ⟨vs, h1, h2⟩ := lst_of hi (.inr ⟨ns, e1, rfl⟩) ea
      have e : (atI ns i).map D.int = atI (ns.map D.int) i := by
        unfold atI
        rw [List.length_map]
        cases ixN ns.length i with
        | none => rfl
        | some j => simp
      rw [e] at p
      exact seq_ rfl rfl (.inl h1) h2 p
    · rename_i lk t kvs e1
      exact absurd e1 (nd n lk t kvs rfl)
    · exact p.elim
  | _ => exact p.elim
/-- slices -/
def rSl8 (M : Mx) (K : PySem.W.Frag) (Wx : WX) (σ : L2.St) : V → Option Int → Option Int → Hp → VK → Prop := fun x lo hi H Q => ∃ dx h as, HI (M.g K) h as H ∧ Rep (M.g K) as H dx x ∧ post (M.g K) Wx (Rep (M.g K)) as H σ (slD dx lo hi h) Q
theorem sl8 (σ' : L2.St) : SlR X (rSl8 M X.K Wx σ') := by
  intro pins s σ H x v vl vu lo hi sl Q I rx hsl pl pu hh
  obtain ⟨dx, h, as, hI, r1, p⟩ := hh
  cases dx with
  | tup xs =>
    simp only [Rep] at r1
    obtain ⟨a, vs, rfl, h1, hr⟩ := r1
    refine sl_tupA pins s σ H _ v vl vu lo hi sl Q I rx hsl pl pu ⟨a, vs, rfl, SqT.of h1, fun e => ?_, fun e q hq => ?_⟩
    · refine p _ as H Ext.refl hI ?_
      simp only [Rep]
      have : cutD xs lo hi = xs := by
        unfold cutD
        rw [hr.length, e.1, e.2, Nat.sub_zero, List.drop_zero, ← hr.length, List.take_length]
      rw [this]
      exact ⟨a, vs, rfl, h1, hr⟩
    · refine p _ as _ (ext_tup hq) (hI.other hq) ?_
      simp only [Rep]
      exact ⟨q, _, rfl, upd_same, (hr.cut lo hi).mono (ext_tup hq)⟩
  | str z =>
    simp only [Rep] at r1
    subst r1
    simp only [slD] at p
    split at p
    · rename_i hz
      refine sl_str pins s σ H _ v vl vu lo hi sl Q I rx hsl pl pu ⟨st z, rfl, by rw [st_len]; exact hz, ?_⟩
      refine p _ as H Ext.refl hI ?_
      simp only [Rep]
      congr 1
      unfold cutS cutD st
      simp [Str.length, List.map_take, List.map_drop]
    · exact p.elim
  | ob n =>
    simp only [Rep] at r1
    obtain ⟨a, rfl, ea⟩ := r1
    have go : ∀ xs : List D, (h[n]? = some (.lst xs) ∨ ∃ ns : List Int, h[n]? = some (.scr ns) ∧ xs = ns.map D.int) → post (M.g X.K) Wx (Rep (M.g X.K)) as H σ' (.ok (.ob h.length) (h ++ [.lst (cutD xs lo hi)])) Q →
        ∃ T id, typeLookup (.type T) "__getitem__" = pure (some (.builtin id)) ∧ s.TypeIs v T ∧ wpAny (model X.prog X.w) X.A (getItem v (.ref sl)) (EP X pins σ Q) X.xe s := by
      intro xs e p
      obtain ⟨vs, h1, h2⟩ := lst_of hI e ea
      refine sl_list pins s σ H _ v vl vu lo hi sl Q I rx hsl pl pu ⟨a, vs, rfl, h1, fun q hq => ?_⟩
      refine p _ (as ++ [q]) _ (ext_new hq) (hI.new hq ⟨_, upd_same, (h2.cut lo hi).mono (ext_new hq)⟩) ?_
      simp only [Rep]
      exact ⟨q, rfl, by rw [← hI.len]; simp⟩
    simp only [slD] at p
    split at p
    · rename_i xs e1
      exact go xs (.inl e1) p
    · rename_i ns e1
      refine go _ (.inr ⟨ns, e1, rfl⟩) ?_
      have : cutD (ns.map D.int) lo hi = (cutD ns lo hi).map D.int := by
        unfold cutD; simp [List.map_take, List.map_drop]
      rw [this]; exact p
    · exact p.elim
  | _ => exact p.elim
/-- o[i] = v, of a list or a dict -/
theorem putD_ok {x y z : V} {dx dy dz : D} {ov iv zv : Value} {h h' : Hs} {as : List Addr} {Q : Unit → Shared → Prop} (hu : X.A.units + 200 < cLine) (I : Inv X pins σ H s) (rx : RelV x ov) (ry : RelV y iv) (rz : RelV z zv)
    (hi : HI (M.g X.K) h as H) (r1 : Rep (M.g X.K) as H dx x) (r2 : Rep (M.g X.K) as H dy y) (r3 : Rep (M.g X.K) as H dz z) (e : putD dx dy dz h = some h')
    (q : ∀ H' s', Ext as H as H' → HI (M.g X.K) h' as H' → Inv X pins σ H' s' → Q () s') : wpAny (model X.prog X.w) X.A (setItem ov iv zv) Q X.xe s := by
  cases dx with
  | ob n =>
    simp only [Rep] at r1
    obtain ⟨a, rfl, ea⟩ := r1
    cases rx
    simp only [putD] at e
    split at e
    · rename_i xs k e1
      obtain ⟨j, e2, e3⟩ := Option.map_eq_some_iff.mp e
      subst e3
      obtain ⟨vs, h1, hr⟩ := hi.ob n _ a e1 ea
      simp only [Rep] at r2
      subst r2
      refine wpAny_mono (set_list pins s σ H (.ref a) (.int k) z (Value.ref a) iv zv (fun H' => H' = upd H a (.lst (vs.set j z))) I rfl ry rz ⟨a, vs, k, j, rfl, rfl, h1, by rw [← hr.length]; exact e2, rfl⟩) ?_ (fun _ _ x => x)
      rintro _ s' ⟨H', I', rfl⟩
      have ex := ext_set (o := HO.lst (vs.set j z)) ea h1 (fun _ => by intro z; cases z) (fun _ _ => by intro z; cases z)
      exact q _ s' ex (hi.set ea h1 (fun _ => by intro z; cases z) (fun _ _ => by intro z; cases z) ⟨_, upd_same, (Reps.set r3 j hr).mono ex⟩) I'
    · rename_i dy2 _ _ t kvs e1
      split at e
      · rename_i hk
        simp only [Bool.and_eq_true, decide_eq_true_eq] at hk
        cases e
        cases t with
        | false =>
          obtain ⟨kv, h1, h2⟩ := hi.ob n _ a e1 ea
          simp only [lkd, Bool.false_eq_true, if_false] at h1
          have hk1 := hk.1
          simp only [okK, Bool.false_eq_true, if_false, Bool.and_eq_true] at hk1
          obtain ⟨ky, hy⟩ := isK_key hk1.1
          rw [Rep.keyK_v hy r2] at ry
          refine d_setItem (by omega) I (DPut.k (k := ky) (v := z) h1 (by rw [← h2.length]; exact hk.2)) ry rz fun s' I' => ?_
          have ex := ext_set (o := HO.dK (putK kv ky z)) ea h1 (fun _ => by intro z; cases z) (fun _ _ => by intro z; cases z)
          refine q _ s' ex (hi.set ea h1 (fun _ => by intro z; cases z) (fun _ _ => by intro z; cases z) ⟨_, ?_, (RepKV.put (fun a b => eqv_key a b) hy r3 h2).mono ex⟩) I'
          simp only [lkd, Bool.false_eq_true, if_false]; exact upd_same
        | true =>
          obtain ⟨kv, h1, h2⟩ := hi.ob n _ a e1 ea
          simp only [lkd, Bool.false_eq_true, if_false] at h1
          have hk1 := hk.1
          simp only [okK, if_true, Bool.and_eq_true] at hk1
          obtain ⟨ky, hy⟩ := isT_key hk1.1
          cases dy2 with
          | tup ds =>
            simp only [Rep] at r2
            obtain ⟨b, ws, rfl, hb, hr⟩ := r2
            rw [Rep.keyT_ref hy hr] at hb
            refine d_setItem (by omega) I (DPut.t (k := ky) (v := z) h1 hb (by rw [← h2.length]; exact hk.2)) ry rz fun s' I' => ?_
            have ex := ext_set (o := HO.dT (putK kv ky z)) ea h1 (fun _ => by intro z; cases z) (fun _ _ => by intro z; cases z)
            refine q _ s' ex (hi.set ea h1 (fun _ => by intro z; cases z) (fun _ _ => by intro z; cases z) ⟨_, ?_, (RepKV.put (fun a b => eqv_keyT a b) hy r3 h2).mono ex⟩) I'
            simp only [lkd, Bool.false_eq_true, if_false]; exact upd_same
          | _ => simp [keyT] at hy
      · cases e
    · cases e
  | _ => simp [putD] at e
end
end Rf
end

section
namespace Rf
open PySem PySem.Spec PyProof.Rows L2

theorem Reps.cons_inv {G : Gx} {as H} {d : D} {ds : List D} {vs : List V} (h : Reps G as H (d :: ds) vs) : ∃ v r, vs = v :: r ∧ Rep G as H d v ∧ Reps G as H ds r := by
  simpa only [Reps] using h
theorem Reps.nil_inv {G : Gx} {as H} {vs : List V} (h : Reps G as H [] vs) : vs = [] := by
  simpa only [Reps] using h
section
variable {X : Cx} {M : Mx} {Wx : WX} {pins : List (Addr × Obj)} {s : Shared} {σ : L2.St} {H : Hp}
def rBl (M : Mx) (K : PySem.W.Frag) (Wx : WX) (σ : L2.St) (b : Bf) : List V → Hp → VK → Prop := fun xs H Q => ∃ ds h as, HI (M.g K) h as H ∧ Reps (M.g K) as H ds xs ∧ post (M.g K) Wx (Rep (M.g K)) as H σ (bltD b ds h) Q
theorem one_of {σ' : L2.St} {b : Bf} {xs : List V} {H : Hp} {Q : VK} (h : rBl M X.K Wx σ' b xs H Q) : ∃ ds h as, HI (M.g X.K) h as H ∧ Reps (M.g X.K) as H ds xs ∧ post (M.g X.K) Wx (Rep (M.g X.K)) as H σ' (bltD b ds h) Q := h
theorem bl_len (σ' : L2.St) : CallR X (.builtin "len") (rBl M X.K Wx σ' .len) := by
  intro pins s σ H xs us Q I r hh
  obtain ⟨ds, h, as, hi, rs, p⟩ := hh
  match ds with
  | [] => exact p.elim
  | d0 :: _ :: _ => cases d0 <;> exact p.elim
  | [d] =>
    obtain ⟨v, _, rfl, r1, rn⟩ := rs.cons_inv
    obtain rfl := rn.nil_inv
    cases d with
    | tup ys =>
      simp only [Rep] at r1
      obtain ⟨a, vs, rfl, h1, hr⟩ := r1
      refine call_len_seq pins s σ H _ us Q I r ⟨a, vs, rfl, .inr (SqT.of h1), ?_⟩
      rw [← hr.length]
      exact p _ as H Ext.refl hi (by simp only [Rep])
    | str z =>
      simp only [Rep] at r1
      subst r1
      simp only [bltD] at p
      split at p
      · rename_i hz
        refine call_len_str pins s σ H _ us Q I r ⟨st z, rfl, by rw [st_len]; exact hz, ?_⟩
        rw [st_len]
        exact p _ as H Ext.refl hi (by simp only [Rep])
      · exact p.elim
    | ob n =>
      simp only [Rep] at r1
      obtain ⟨a, rfl, ea⟩ := r1
      simp only [bltD] at p
      split at p
      · rename_i ys e1
        obtain ⟨vs, h1, h2⟩ := lst_of hi (.inl e1) ea
        refine call_len_seq pins s σ H _ us Q I r ⟨a, vs, rfl, .inl h1, ?_⟩
        rw [← h2.length]
        exact p _ as H Ext.refl hi (by simp only [Rep])
      · rename_i ys e1
        obtain ⟨vs, h1, h2⟩ := lst_of hi (.inr ⟨ys, e1, rfl⟩) ea
        refine call_len_seq pins s σ H _ us Q I r ⟨a, vs, rfl, .inl h1, ?_⟩
        rw [← h2.length, List.length_map]
        exact p _ as H Ext.refl hi (by simp only [Rep])
      · rename_i lk kvs e1
        obtain ⟨kv, h1, h2⟩ := hi.ob n _ a e1 ea
        obtain ⟨u, rfl, ru⟩ := Vals.one r
        cases ru
        refine d_len I h1.rd fun t s' I' => ⟨.int kv.length, H, I', ⟨t, rfl⟩, ?_⟩
        rw [← h2.length]
        exact p _ as H Ext.refl hi (by simp only [Rep])
      · exact p.elim
    | _ => exact p.elim
theorem bl_abs (σ' : L2.St) : CallR X (.builtin "abs") (rBl M X.K Wx σ' .abs) := by
  intro pins s σ H xs us Q I r hh
  obtain ⟨ds, h, as, hi, rs, p⟩ := hh
  match ds with
  | [] => exact p.elim
  | d0 :: _ :: _ => cases d0 <;> exact p.elim
  | [d] =>
    obtain ⟨v, _, rfl, r1, rn⟩ := rs.cons_inv
    obtain rfl := rn.nil_inv
    cases d with
    | int i =>
      simp only [Rep] at r1; subst r1
      exact call_abs pins s σ H _ us Q I r ⟨i, rfl, p _ as H Ext.refl hi (by simp only [Rep])⟩
    | _ => exact p.elim
theorem bl_int (σ' : L2.St) : CallR X (.type "int") (rBl M X.K Wx σ' .int) := by
  intro pins s σ H xs us Q I r hh
  obtain ⟨ds, h, as, hi, rs, p⟩ := hh
  match ds with
  | [] => exact p.elim
  | d0 :: _ :: _ => cases d0 <;> exact p.elim
  | [d] =>
    obtain ⟨v, _, rfl, r1, rn⟩ := rs.cons_inv
    obtain rfl := rn.nil_inv
    cases d with
    | int i =>
      simp only [Rep] at r1; subst r1
      exact call_int1 pins s σ H _ us Q I r (.inl ⟨i, rfl, p _ as H Ext.refl hi (by simp only [Rep])⟩)
    | bl i =>
      simp only [Rep] at r1; subst r1
      exact call_int1 pins s σ H _ us Q I r (.inr ⟨i, rfl, p _ as H Ext.refl hi (by simp only [Rep])⟩)
    | _ => exact p.elim
theorem bl_tuple (σ' : L2.St) : CallR X (.type "tuple") (rBl M X.K Wx σ' .tuple) := by
  intro pins s σ H xs us Q I r hh
  obtain ⟨ds, h, as, hi, rs, p⟩ := hh
  match ds with
  | [] => exact p.elim
  | d0 :: _ :: _ => cases d0 <;> exact p.elim
  | [d] =>
    obtain ⟨v, _, rfl, r1, rn⟩ := rs.cons_inv
    obtain rfl := rn.nil_inv
    cases d with
    | tup ys =>
      have r1' := r1
      simp only [Rep] at r1
      obtain ⟨a, vs, rfl, h1, hr⟩ := r1
      exact call_tuple_of pins s σ H _ us Q I r ⟨a, vs, rfl, .inr ⟨SqT.of h1, p _ as H Ext.refl hi r1'⟩⟩
    | ob n =>
      simp only [Rep] at r1
      obtain ⟨a, rfl, ea⟩ := r1
      simp only [bltD] at p
      split at p
      · rename_i ys e1
        obtain ⟨vs, h1, h2⟩ := lst_of hi (.inl e1) ea
        refine call_tuple_of pins s σ H _ us Q I r ⟨a, vs, rfl, .inl ⟨h1, fun q hq => ?_⟩⟩
        refine p _ as _ (ext_tup hq) (hi.other hq) ?_
        simp only [Rep]
        exact ⟨q, vs, rfl, upd_same, h2.mono (ext_tup hq)⟩
      · exact p.elim
    | _ => exact p.elim
theorem bl_list (hc : X.calm = true) (σ' : L2.St) : CallR X (.type "list") (rBl M X.K Wx σ' .list) := by
  intro pins s σ H xs us Q I r hh
  obtain ⟨ds, h, as, hi, rs, p⟩ := hh
  match ds with
  | [] => exact p.elim
  | d0 :: _ :: _ => cases d0 <;> exact p.elim
  | [d] =>
    obtain ⟨v, _, rfl, r1, rn⟩ := rs.cons_inv
    obtain rfl := rn.nil_inv
    have go : ∀ {a : Addr} {vs : List V} {ys : List D}, v = .ref a → (SqL X.K H a vs ∨ SqT X.K H a vs) → Reps (M.g X.K) as H ys vs → post (M.g X.K) Wx (Rep (M.g X.K)) as H σ' (.ok (.ob h.length) (h ++ [.lst ys])) Q → wpAny (model X.prog X.w) X.A (call (.type "list") us) (EP X pins σ Q) X.xe s := by
      intro a vs ys e hq hr p
      subst e
      refine call_list_of pins s σ H _ us Q I r ⟨a, vs, rfl, hq, fun q hq => ?_⟩
      refine p _ (as ++ [q]) _ (ext_new hq) (hi.new hq ⟨_, upd_same, hr.mono (ext_new hq)⟩) ?_
      simp only [Rep]
      exact ⟨q, rfl, by rw [← hi.len]; simp⟩
    cases d with
    | tup ys =>
      simp only [Rep] at r1
      obtain ⟨a, vs, rfl, h1, hr⟩ := r1
      exact go rfl (.inr (SqT.of h1)) hr p
    | ob n =>
      simp only [Rep] at r1
      obtain ⟨a, rfl, ea⟩ := r1
      simp only [bltD] at p
      split at p
      · rename_i ys e1
        obtain ⟨vs, h1, h2⟩ := lst_of hi (.inl e1) ea
        exact go rfl (.inl h1) h2 p
      · rename_i ys e1
        obtain ⟨vs, h1, h2⟩ := lst_of hi (.inr ⟨ys, e1, rfl⟩) ea
        exact go rfl (.inl h1) h2 p
      · rename_i kvs e1
        obtain ⟨kv, h1, h2⟩ := hi.ob n _ a e1 ea
        simp only [lkd, Bool.false_eq_true, if_false] at h1
        refine call_list_dK hc pins s σ H _ us Q I r ⟨a, kv, rfl, h1, fun q hq => ?_⟩
        refine p _ (as ++ [q]) _ (ext_new hq) (hi.new hq ⟨_, upd_same, ?_⟩) ?_
        · have : ∀ {kvs : List (D × D)} {kv : List (Key × V)}, RepKV keyK (M.g X.K) as H kvs kv → Reps (M.g X.K) (as ++ [q]) (upd H q (.lst (kv.map fun p => kV p.1))) (kvs.map (·.1)) (kv.map fun p => kV p.1) := by
            intro kvs kv hh
            generalize hH : upd H q _ = H2
            clear hH
            induction hh with
            | nil => simp [Reps]
            | cons a b ih =>
              rename_i p1 p2 _ _
              simp only [List.map_cons, Reps]
              refine ⟨_, _, rfl, ?_, ih⟩
              obtain ⟨k1, _⟩ := p1
              obtain ⟨k2, _⟩ := p2
              obtain ⟨e, _⟩ := a
              simp only at e ⊢
              cases k1 <;> simp only [keyK, Option.some.injEq, reduceCtorEq] at e <;> subst e <;> simp only [Rep, kV]
          exact this h2
        · simp only [Rep]
          exact ⟨q, rfl, by rw [← hi.len]; simp⟩
      · exact p.elim
    | _ => exact p.elim
theorem bl_dict (σ' : L2.St) : CallR X (.type "dict") (rBl M X.K Wx σ' .dict) := by
  intro pins s σ H xs us Q I r hh
  obtain ⟨ds, h, as, hi, rs, p⟩ := hh
  match ds with
  | [] => exact p.elim
  | d0 :: _ :: _ => cases d0 <;> exact p.elim
  | [d] =>
    obtain ⟨v, _, rfl, r1, rn⟩ := rs.cons_inv
    obtain rfl := rn.nil_inv
    cases d with
    | ob n =>
      simp only [Rep] at r1
      obtain ⟨a, rfl, ea⟩ := r1
      simp only [bltD] at p
      split at p
      · rename_i lk kvs e1
        obtain ⟨kv, h1, h2⟩ := hi.ob n _ a e1 ea
        refine call_dictD pins s σ H _ us Q I r ⟨a, kv, rfl, h1.rd, fun q hq => ?_⟩
        refine p _ (as ++ [q]) _ (ext_new hq) (hi.new hq ⟨kv, ?_, ?_⟩) ?_
        · simp only [lkd, Bool.false_eq_true, if_false]; exact upd_same
        · exact Paired.mapP h2 fun _ _ z => ⟨z.1, z.2.mono (ext_new hq)⟩
        · simp only [Rep]
          exact ⟨q, rfl, by rw [← hi.len]; simp⟩
      · exact p.elim
    | _ => exact p.elim
theorem bl_mm (hc : X.calm = true) (σ' : L2.St) : CallR X (.builtin "min") (rBl M X.K Wx σ' .min2) ∧ CallR X (.builtin "max") (rBl M X.K Wx σ' .max2) := by
  constructor
  all_goals
    intro pins s σ H xs us Q I r hh
    obtain ⟨ds, h, as, hi, rs, p⟩ := hh
    match ds with
    | [] => exact p.elim
    | [d] => cases d <;> exact p.elim
    | _ :: _ :: _ :: _ => rename_i a b _ _; cases a <;> cases b <;> exact p.elim
    | [d, d'] =>
      obtain ⟨v, _, rfl, r1, rn⟩ := rs.cons_inv
      obtain ⟨v', _, rfl, r2, rn⟩ := rn.cons_inv
      obtain rfl := rn.nil_inv
      cases d <;> cases d' <;> try exact p.elim
      simp only [Rep] at r1 r2
      subst r1 r2
      first
        | exact call_min2 hc pins s σ H _ us Q I r ⟨_, _, rfl, p _ as H Ext.refl hi (by simp only [Rep])⟩
        | exact call_max2 hc pins s σ H _ us Q I r ⟨_, _, rfl, p _ as H Ext.refl hi (by simp only [Rep])⟩
/-- isinstance with a built-in class -/
def tyOfB : Bf → Option String
  | .isList => some "list" | .isTup => some "tuple" | .isStr => some "str" | .isBool => some "bool" | .isInt => some "int" | _ => none
def rIs (M : Mx) (K : PySem.W.Frag) (Wx : WX) (σ : L2.St) (b : Bf) (T : String) : List V → Hp → VK → Prop := fun xs H Q => ∃ x d h as, xs = [x, .ty T] ∧ HI (M.g K) h as H ∧ Rep (M.g K) as H d x ∧ post (M.g K) Wx (Rep (M.g K)) as H σ (bltD b [d] h) Q
theorem bl_is {b : Bf} {T : String} (hb : tyOfB b = some T) (σ' : L2.St) : CallR X (.builtin "isinstance") (rIs M X.K Wx σ' b T) := by
  intro pins s σ H xs us Q I r hh
  obtain ⟨x, d, h, as, rfl, hi, r1, p⟩ := hh
  have go : ∀ {t : String} {k : Bool}, TyOf X.K H x (.type t) → kitB t T = some k → post (M.g X.K) Wx (Rep (M.g X.K)) as H σ' (.ok (.bl k) h) Q → wpAny (model X.prog X.w) X.A (call (.builtin "isinstance") us) (EP X pins σ Q) X.xe s := by
    intro t k ty hk p
    exact call_isi pins s σ H _ us Q I r ⟨x, .ty T, .type t, .type T, k, rfl, .ty T, .base ty, kit_ty hk, p _ as H Ext.refl hi (by simp only [Rep])⟩
  have ob : ∀ {n : Nat} {l k : Bool}, kitB "list" T = some l → kitB "dict" T = some k → d = .ob n → post (M.g X.K) Wx (Rep (M.g X.K)) as H σ' (isObB h n l k) Q → wpAny (model X.prog X.w) X.A (call (.builtin "isinstance") us) (EP X pins σ Q) X.xe s := by
    intro n l k h1 h2 e pp
    subst e
    simp only [Rep] at r1
    obtain ⟨a, rfl, ea⟩ := r1
    simp only [isObB] at pp
    split at pp
    · rename_i e1
      obtain ⟨vs, q1, _⟩ := hi.ob n _ a e1 ea
      exact go (TyOf.lst q1) h1 pp
    · rename_i t kvs e1
      cases t with
      | false =>
        obtain ⟨kv, q1, _⟩ := hi.ob n _ a e1 ea
        simp only [lkd, Bool.false_eq_true, if_false] at q1
        exact go (TyOf.dK q1) h2 pp
      | true =>
        obtain ⟨kv, q1, _⟩ := hi.ob n _ a e1 ea
        simp only [lkd, Bool.false_eq_true, if_false] at q1
        exact go (TyOf.dT q1) h2 pp
    · exact pp.elim
  cases b <;> simp only [tyOfB, Option.some.injEq, reduceCtorEq] at hb <;> subst hb <;> cases d <;> first | exact p.elim | exact ob (by decide +kernel) (by decide +kernel) rfl p | (simp only [Rep] at r1)
  all_goals first
    | (subst r1; exact go TyOf.non (by decide +kernel) p)
    | (subst r1; exact go (TyOf.bl _) (by decide +kernel) p)
    | (subst r1; exact go (TyOf.int _) (by decide +kernel) p)
    | (subst r1; exact go (TyOf.str _) (by decide +kernel) p)
    | (obtain ⟨a, vs, rfl, h1, hr⟩ := r1; exact go (TyOf.tup h1) (by decide +kernel) p)
end
end Rf
end

section
namespace Rf
open PySem PySem.Spec PyProof.Rows L2

/-! ## repr -/
theorem plC_range {c : Char} (h : plC c = true) : 32 ≤ c.toNat ∧ c.toNat < 127 ∧ c.toNat ≠ 39 ∧ c.toNat ≠ 92 := by
  simp only [plC, Bool.and_eq_true, decide_eq_true_eq] at h
  exact ⟨h.1.1.1, h.1.1.2, h.1.2, h.2⟩
theorem reprChar_all : (List.range 127).all (fun c => decide (c < 32) || c == 39 || c == 92 || decide (Builtin.Str.reprChar 39 c = [c])) = true := by decide +kernel
theorem reprChar_pl {c : Char} (h : plC c = true) : Builtin.Str.reprChar 39 c.toNat = [c.toNat] := by
  obtain ⟨h1, h2, h3, h4⟩ := plC_range h
  have := List.all_eq_true.mp reprChar_all c.toNat (List.mem_range.mpr h2)
  simp only [Bool.or_eq_true, decide_eq_true_eq, beq_iff_eq] at this
  rcases this with ((q | q) | q) | q
  · omega
  · exact absurd q h3
  · exact absurd q h4
  · exact q
theorem reprFold : ∀ (s : List Char) (acc : Array Nat), s.all plC = true → (s.map Char.toNat).foldl (fun out c => out ++ (Builtin.Str.reprChar 39 c).toArray) acc = acc ++ (s.map Char.toNat).toArray
  | [], acc, _ => by simp
  | c :: s, acc, h => by
    simp only [List.all_cons, Bool.and_eq_true] at h
    rw [List.map_cons, List.foldl_cons, reprChar_pl h.1, reprFold s _ h.2]
    simp
theorem repr_str {s : List Char} (h : s.all plC = true) : reprText (st s) = st ('\'' :: s ++ ['\'']) := by
  have hq : reprQuote (st s) = 39 := by
    unfold reprQuote
    have : (st s).cps.contains 39 = false := by
      rw [Bool.eq_false_iff]
      intro hc
      rw [Array.contains_iff_mem] at hc
      unfold st at hc
      rw [List.mem_toArray, List.mem_map] at hc
      obtain ⟨c, hc, e⟩ := hc
      exact (plC_range (List.all_eq_true.mp h c hc)).2.2.1 e
    rw [this]; rfl
  unfold reprText
  rw [hq]
  have e : ((st s).cps.foldl (fun out c => out ++ (Builtin.Str.reprChar 39 c).toArray) #[39]) = #[39] ++ (s.map Char.toNat).toArray := by
    unfold st
    rw [← Array.foldl_toList]
    exact reprFold s _ h
  rw [e]
  unfold st
  simp
theorem st_app (a b : List Char) : st a ++ st b = st (a ++ b) := by
  show (⟨(st a).cps ++ (st b).cps⟩ : Str) = _
  simp [st]
theorem join_st : ∀ ts : List (List Char), Str.join ", " (ts.map st) = st (joinC ts)
  | [] => by show (Str.empty : Str) = _; rfl
  | [x] => by simp only [List.map_cons, List.map_nil, joinC]; rfl
  | x :: y :: r => by
    have ih := join_st (y :: r)
    simp only [List.map_cons] at ih ⊢
    show (st x ++ (", " : Str) ++ Str.join ", " (st y :: r.map st) : Str) = _
    rw [ih]
    have e : ((", " : String) : Str) = st [',', ' '] := by decide +kernel
    rw [e, st_app, st_app]
    simp [joinC]
mutual
theorem shown_st : ∀ d : D, rpOk d = true → (toPy d).shown = st (rp d)
  | .non, _ => by simp only [toPy, PyData.shown, rp]; decide +kernel
  | .bl true, _ => by simp only [toPy, PyData.shown, rp]; decide +kernel
  | .bl false, _ => by simp only [toPy, PyData.shown, rp]; decide +kernel
  | .int i, _ => by simp only [toPy, PyData.shown, rp]; exact ofString_st _
  | .str s, h => by
    simp only [rpOk] at h
    simp only [toPy, PyData.shown, rp]
    exact repr_str h
  | .tup xs, h => by
    simp only [rpOk] at h
    simp only [toPy, PyData.shown, showns_st xs h]
    unfold tupleText
    have e0 : ((")" : String) : Str) = st [')'] := by decide +kernel
    have e1 : ((",)" : String) : Str) = st [',', ')'] := by decide +kernel
    have e2 : (("(" : String) : Str) = st ['('] := by decide +kernel
    rw [join_st, e2]
    match xs with
    | [] => simp only [rp, rps, List.map_nil]; rw [st_app, if_neg (by decide), e0, st_app]; rfl
    | [x] => simp only [rp, rps, List.map_cons, List.map_nil]; rw [st_app, if_pos (show ([st (rp x)].length == 1) = true from rfl), e1, st_app]; rfl
    | x :: y :: r =>
      simp only [rp, rps, List.map_cons]
      rw [st_app, if_neg (by simp), e0, st_app]; rfl
  | .ob _, h => by simp [rpOk] at h
  | .fn _, h => by simp [rpOk] at h
  | .con _, h => by simp [rpOk] at h
theorem showns_st : ∀ ds : List D, rpsOk ds = true → PyData.shownAll (toPys ds) = (rps ds).map st
  | [], _ => by simp [toPys, PyData.shownAll, rps]
  | d :: ds, h => by
    simp only [rpsOk, Bool.and_eq_true] at h
    simp only [toPys, PyData.shownAll, rps, List.map_cons, shown_st d h.1, showns_st ds h.2]
end
mutual
theorem rpOk_ok : ∀ d : D, rpOk d = true → pur d = true ∧ (toPy d).showable = true ∧ (toPy d).hasDict = false
  | .non, _ => by simp [pur, toPy, PyData.showable, PyData.hasDict]
  | .bl _, _ => by simp [pur, toPy, PyData.showable, PyData.hasDict]
  | .int i, h => by simp only [rpOk] at h; simp [pur, toPy, PyData.showable, PyData.hasDict, of_decide_eq_true h]
  | .str _, _ => by simp [pur, toPy, PyData.showable, PyData.hasDict]
  | .tup xs, h => by
    simp only [rpOk] at h
    simp only [pur, toPy, PyData.showable, PyData.hasDict]
    exact rpsOk_ok xs h
  | .ob _, h => by simp [rpOk] at h
  | .fn _, h => by simp [rpOk] at h
  | .con _, h => by simp [rpOk] at h
theorem rpsOk_ok : ∀ ds : List D, rpsOk ds = true → purs ds = true ∧ PyData.showableAll (toPys ds) = true ∧ PyData.hasDictAll (toPys ds) = false
  | [], _ => by simp [purs, toPys, PyData.showableAll, PyData.hasDictAll]
  | d :: ds, h => by
    simp only [rpsOk, Bool.and_eq_true] at h
    obtain ⟨a1, a2, a3⟩ := rpOk_ok d h.1
    obtain ⟨b1, b2, b3⟩ := rpsOk_ok ds h.2
    simp [purs, toPys, PyData.showableAll, PyData.hasDictAll, a1, a2, a3, b1, b2, b3]
end
section
variable {X : Cx} {M : Mx} {Wx : WX}
theorem bl_repr (hg : X.A.guards = some []) (hu : X.A.units + 200 < cLine) (σ' : L2.St) : CallR X (.builtin "repr") (rBl M X.K Wx σ' .repr) := by
  intro pins s σ H xs us Q I r hh
  obtain ⟨ds, h, as, hi, rs, p⟩ := hh
  simp only [bltD] at p
  match ds with
  | [] => exact p.elim
  | d :: _ :: _ => cases d <;> exact p.elim
  | [d] =>
    obtain ⟨v, _, rfl, r1, rn⟩ := rs.cons_inv
    obtain rfl := rn.nil_inv
    cases d <;> try (exact p.elim)
    rename_i xs
    obtain ⟨d, hd⟩ : ∃ d, d = D.tup xs := ⟨_, rfl⟩
    simp only [← hd] at p r1
    split at p
    · rename_i hc
      simp only [Bool.and_eq_true, decide_eq_true_eq] at hc
      obtain ⟨⟨h1, h2⟩, h3⟩ := hc
      obtain ⟨k1, k2, k3⟩ := rpOk_ok d h1
      obtain ⟨u, rfl, ru⟩ := Vals.one r
      have dp := Rep.dp (G := M.g X.K) k1 r1
      obtain ⟨bs, rd⟩ := dp.reads I _ _ _ ru
      have sh := shown_st d h1
      have fin : ∀ (h' : Heap) (t tk : Tok), (∀ b o, s.heap.get? b = some o → h'.get? b = some o) → EP X pins σ Q (.str (toPy d).shown t) { s with heap := h', toks := tk } := by
        intro h' t tk hk
        refine ⟨.str (st (rp d)), H, I.kept hk, ⟨t, by rw [sh]⟩, ?_⟩
        exact p _ as H Ext.refl hi (by simp only [Rep])
      have hz : (toPy d).shown.length ≤ sizeLine := by rw [sh, st_len]; exact h3
      rw [hd] at r1
      simp only [Rep] at r1
      obtain ⟨a, vs, rfl, _, _⟩ := r1
      obtain rfl : u = Value.ref a := ru
      exact repr_of_reads' rd k2 (PyData.noDict_hsm k3) hg (by rw [toPy_dep]; omega) (fun _ _ e => e) fin hz
    · exact p.elim
end
end Rf
end

section
namespace Rf
open PySem PySem.Spec PyProof.Rows L2

/-! ## the program's text against the terms -/
structure Ck where
  N : List Str
  fnm : List Str
  cnm : List Str
  gnm : List Str
  nw : List Nat
  snm : List (Str × List Char) := []
  hot : Bool := false
  exn : Option Nat := none
  xc : List Nat := []
  xr : List Nat := []
  inm : List (Str × Int) := []
def kindB (sc : Scope) (x : Str) (k : NameKind) : Bool := match sc.names.lookup x with
  | some k' => decide (k' = k)
  | none => false
def visB (sc : Scope) (x : Str) : Bool := kindB sc x .local || kindB sc x .cell || kindB sc x .free
def locB (sc : Scope) (x : Str) : Bool := kindB sc x .local || kindB sc x .cell
def glB (sc : Scope) (x : Str) : Bool := kindB sc x .globalImplicit
def okN (x : Str) : Bool := !(x == ("__debug__" : Str)) && !(x == ("__classdict__" : Str)) && !(x == ("__name__" : Str)) && !(x == ("super" : Str))
def isC (l : List Str) (i : Nat) (x : Str) : Bool := match l[i]? with | some y => decide (y = x) | none => false
theorem isC_ok {l : List Str} {i : Nat} {x : Str} (h : isC l i x = true) : l[i]? = some x := by
  unfold isC at h
  split at h
  · rename_i y e; rw [e, of_decide_eq_true h]
  · cases h
theorem kindB_ok {sc : Scope} {x : Str} {k : NameKind} (h : kindB sc x k = true) : sc.names.lookup x = some k := by
  unfold kindB at h
  split at h
  · rename_i k' e; rw [e, of_decide_eq_true h]
  · cases h
def opB : Op → Operator → Bool
  | .add, .Add => true | .sub, .Sub => true | .mul, .Mult => true | .fdiv, .FloorDiv => true | .mod, .Mod => true | _, _ => false
def cpB : Cp → CmpOp → Bool
  | .eq, .Eq => true | .ne, .NotEq => true | .lt, .Lt => true | .le, .LtE => true | .gt, .Gt => true | .ge, .GtE => true | .in_, .In => true | .nin, .NotIn => true | .is_, .Is => true | .isn, .IsNot => true | _, _ => false
theorem opB_ok {o : Op} {op : Operator} (h : opB o op = true) : (o, op) ∈ [(Op.add, Operator.Add), (.sub, .Sub), (.mul, .Mult), (.fdiv, .FloorDiv), (.mod, .Mod)] := by
  cases o <;> cases op <;> simp [opB] at h ⊢
theorem cpB_ok {o : Cp} {op : CmpOp} (h : cpB o op = true) : op = cpOf o := by
  cases o <;> cases op <;> simp [cpB, cpOf] at h ⊢
def cstB : D → Const → Bool
  | .non, .none => true
  | .bl b, .bool c => b == c
  | .int i, .int j => decide (i = j)
  | .str s, .str z => decide (st s = z)
  | _, _ => false
def isSet : Expr → Bool
  | .Set _ _ _ => true
  | _ => false
def isSlice : Expr → Bool
  | .Slice _ _ _ _ => true
  | _ => false
def isStar : Expr → Bool
  | .Starred _ _ => true
  | _ => false
/-- not a call without arguments of a bare name -/
def notBare : Expr → Bool
  | .Call (.Name _ _) [] [] _ => false
  | _ => true
def bfName : Bf → Option (Str × Bool)
  | .repr => some (Str.ofString "repr", true) | .len => some (Str.ofString "len", true) | .abs => some (Str.ofString "abs", true) | .min2 => some (Str.ofString "min", true) | .max2 => some (Str.ofString "max", true)
  | .int => some (Str.ofString "int", false) | .list => some (Str.ofString "list", false) | .tuple => some (Str.ofString "tuple", false) | .dict => some (Str.ofString "dict", false)
  | _ => none
def nmB (C : Ck) (sc : Scope) (i : Nat) : Expr → Bool
  | .Name x _ => isC C.N i x && locB sc x
  | _ => false
def tgB (C : Ck) (sc : Scope) : Tg → Expr → Bool
  | .nm i, e => nmB C sc i e
  | .tp is, .Tuple es _ _ => is.length == es.length && ((is.zip es).all fun p => nmB C sc p.1 p.2) && !C.hot
  | _, _ => false
def tgIx : Tg → List Nat
  | .nm i => [i]
  | .tp is => is
def ownP (C : Ck) (own : List Nat) : List (Str × Nat) := own.map fun i => (C.N.getD i Str.empty, i)
def backOf : Expr → Option Expr
  | .Subscript x (.Slice none none (some (.UnaryOp .USub (.Constant (.int 1) _ _) _)) _) _ => some x
  | _ => none
theorem backOf_ok {e x : Expr} (h : backOf e = some x) : ∃ k p1 p2 p3 pos, e = .Subscript x (.Slice none none (some (.UnaryOp .USub (.Constant (.int 1) k p1) p2)) p3) pos := by
  unfold backOf at h
  split at h
  · cases h; exact ⟨_, _, _, _, _, rfl⟩
  · cases h
mutual
def chkE (C : Ck) : E → Scope → Expr → Bool
  | .var i, sc, .Name x _ => isC C.N i x && visB sc x && okN x
  | .cst d, _, .Constant c _ _ => cstB d c
  | .glb g, sc, .Name x _ => isC C.gnm g x && glB sc x && okN x
  | .gst g s, sc, .Name x _ => decide (C.snm[g]? = some (x, s)) && glB sc x && okN x
  | .gni g i, sc, .Name x _ => decide (C.inm[g]? = some (x, i)) && glB sc x && okN x
  | .fnv f, sc, .Name x _ => !C.hot && (isC C.fnm f x && glB sc x && okN x)
  | .bin o a b, sc, .BinOp l op r _ => opB o op && chkE C a sc l && chkE C b sc r
  | .neg a, sc, .UnaryOp .USub e _ => chkE C a sc e
  | .cmp o a b, sc, .Compare l [op] [r] _ => cpB o op && chkE C a sc l && chkE C b sc r && !isSet r
  | .chn o o' a b c, sc, .Compare l [op, op'] [m, r] _ => cpB o op && cpB o' op' && chkE C a sc l && chkE C b sc m && chkE C c sc r && !isSet r
  | .and a b, sc, .BoolOp .And (x :: y :: r) p => chkE C a sc x && (match r with | [] => chkE C b sc y | _ => chkE C b sc (.BoolOp .And (y :: r) p))
  | .or a b, sc, .BoolOp .Or (x :: y :: r) p => chkE C a sc x && (match r with | [] => chkE C b sc y | _ => chkE C b sc (.BoolOp .Or (y :: r) p))
  | .not a, sc, .UnaryOp .Not e _ => chkE C a sc e
  | .ife c a b, sc, .IfExp t x y _ => chkE C c sc t && chkE C a sc x && chkE C b sc y
  | .tup es, sc, .Tuple xs _ _ => chkEs C es sc xs
  | .lst es, sc, .List xs _ => chkEs C es sc xs
  | .dic _ ks vs, sc, .Dict ks' vs' _ => ks.isEmpty && vs.isEmpty && ks'.isEmpty && vs'.isEmpty
  | .ix a i, sc, .Subscript x y _ => chkE C a sc x && chkE C i sc y && !isSlice y
  | .slc a lo hi, sc, .Subscript x (.Slice l h none _) _ => chkE C a sc x && (match l with | none => lo.isEmpty | some l => chkEs C lo sc [l]) && (match h with | none => hi.isEmpty | some h => chkEs C hi sc [h])
  | .back a, sc, e => (match backOf e with | some x => chkE C a sc x | none => false)
  | .exf i f, sc, .Attribute (.Name x _) g _ => C.hot && decide (C.exn = some i) && isC C.N i x && visB sc x && okN x && decide (Str.ofString f = g)
  | .fld a f, sc, .Attribute x g _ => !C.hot && (chkE C a sc x && decide (Str.ofString f = g) && notBare x)
  | .new c es, sc, .Call (.Name x _) xs [] _ => !C.hot && (decide (c ∈ C.nw) && isC C.cnm c x && glB sc x && okN x && chkEs C es sc xs)
  | .cav i es, sc, .Call (.Name x _) xs [] _ => !C.hot && (isC C.N i x && visB sc x && okN x && chkEs C es sc xs)
  | .cal f es, sc, .Call (.Name x _) xs [] _ => !C.hot && (isC C.fnm f x && glB sc x && okN x && chkEs C es sc xs)
  | .blt b es, sc, .Call (.Name x _) xs [] _ => !C.hot && (glB sc x && okN x && (match bfName b with
    | some (n, _) => decide (x = n) && chkEs C es sc xs && !es.isEmpty
    | none => (match tyOfB b, xs with
      | some T, [a, .Name y _] => decide (x = Str.ofString "isinstance") && decide (y = Str.ofString T) && glB sc y && okN y && chkEs C es sc [a]
      | _, _ => false)))
  | .met o m es, sc, .Call (.Attribute x g ap) xs [] cp => !C.hot && (chkE C o sc x && decide (Str.ofString m = g) && notBare x && (ap.endLine == cp.line) && chkEs C es sc xs && decide (xs.length < 20))
  | .lc own tg k its cd el, sc, .ListComp elt [⟨tg', iter, ifs, asy⟩] scope _ => !C.hot && decide (asy = 0) && blkC C.N sc scope (ownP C own) && tgB C scope tg tg' && (tgIx tg).all (fun i => decide (i ∈ own)) && chkEs C cd scope ifs && decide (cd.length ≤ 1) && chkE C el scope elt &&
      !isSet iter && (match k with
      | .seq => chkEs C its sc [iter] && decide (its.length = 1)
      | .rng1 => (match iter with | .Call (.Name x _) [a] [] _ => decide (x = Str.ofString "range") && glB sc x && chkEs C its sc [a] | _ => false)
      | .rng2 => (match iter with | .Call (.Name x _) [a, b] [] _ => decide (x = Str.ofString "range") && glB sc x && chkEs C its sc [a, b] | _ => false)
      | _ => false)
  | _, _, _ => false
def chkEs (C : Ck) : List E → Scope → List Expr → Bool
  | [], _, [] => true
  | e :: es, sc, x :: xs => chkE C e sc x && !isStar x && chkEs C es sc xs
  | _, _, _ => false
end

/-! ## where a body runs -/
def spI (M : Mx) (K : PySem.W.Frag) (cf : CF) (np f : Nat) : Sp := fun vs H Q E => vs.length = np ∧ ∃ ds h as, HI (M.g K) h as H ∧ Reps (M.g K) as H ds vs ∧ post (M.g K) (fun c d _ H => E c d H) (Rep (M.g K)) as H [] (cf f ds h) Q
/-- the def at a is the f-th function -/
def FnB (P : Program) (w : World) (K : PySem.W.Frag) (mg : Str → Option Value) (base : Heap) (M : Mx) (n : Nat) (cf : CF) (a : Addr) (f : Nat) : Prop :=
  ∃ fd ps np, Binds K fd ps [] ∧ ps.length = np ∧ FnG P w K mg base (L2.CX P w) (2 * n + 1) a fd ps (spI M K cf np f) ∧ ∀ ds h, cf f ds h ≠ .no → ds.length = np
def FnsOk (P : Program) (w : World) (K : PySem.W.Frag) (mg : Str → Option Value) (base : Heap) (M : Mx) (C : Ck) (n : Nat) (cf : CF) : Prop :=
  (∀ f x, C.fnm[f]? = some x → ∃ a, mg x = some (.ref a) ∧ M.fa f = some a) ∧ ∀ f a, M.fa f = some a → PySem.W.keepIn K (.ref a) = true ∧ FnB P w K mg base M n cf a f
def bltNames : List Str := ["len", "abs", "min", "max", "int", "list", "tuple", "isinstance", "str", "bool", "range", "dict", "repr", "sorted", "sum"].map Str.ofString
/-- the classes -/
def ClsOk (P : Program) (w : World) (K : PySem.W.Frag) (mg : Str → Option Value) (base : Heap) (M : Mx) (C : Ck) (n : Nat) (cf : CF) : Prop :=
  ∀ c ci, M.W.cls[c]? = some ci → ∀ Ca, M.ca c = some Ca → Cls K Ca ∧ (∀ f, f ∈ ci.flds → NoAttr K Ca (Str.ofString f)) ∧
    (∀ m f, ci.meths.lookup m = some f → ∃ a, Meth K Ca (Str.ofString m) a ∧ FnB P w K mg base M n cf a f)
def MksOk (P : Program) (w : World) (K : PySem.W.Frag) (mg : Str → Option Value) (base : Heap) (M : Mx) (C : Ck) (n : Nat) (cf : CF) : Prop :=
  ∀ c x, c ∈ C.nw → C.cnm[c]? = some x → ∃ ci f Ca a, M.W.cls[c]? = some ci ∧ ci.ini = some f ∧ M.ca c = some Ca ∧ mg x = some (.ref Ca) ∧ Mk K Ca a ∧ FnB P w K mg base M n cf a f
/-- an exception class, its own __init__ -/
def spX (Ca : Addr) (flds : List String) : Sp := fun vs H Q _ => ∃ a ws, vs = .ref a :: ws ∧ ws.length = flds.length ∧ H a = some (exo a Ca none) ∧
  ∀ d H2, H d = none → d ≠ a → H2 a = some (exo a Ca (some d)) → H2 d = some (exd d ((flds.map Str.ofString).zip ws).reverse) → (∀ b, b ≠ a → b ≠ d → H2 b = H b) → Q .non H2
def ExcsOk (P : Program) (w : World) (K : PySem.W.Frag) (mg : Str → Option Value) (base : Heap) (M : Mx) (C : Ck) : Prop :=
  ∀ c x, c ∈ C.xr → C.cnm[c]? = some x → ∃ Ca fI fd ps, M.ca c = some Ca ∧ mg x = some (.ref Ca) ∧ OexC K Ca ∧ PySem.W.findIn K (.ref Ca) "__init__" = some (some (.ref fI)) ∧ PySem.W.typeIn K (.ref fI) = some (.type "function") ∧
    FnOk P w K mg base CX0 1 fI fd ps (spX Ca (M.W.exf c)) ∧ Binds K fd ps []
/-- what holds of the classes of exceptions, for those who catch -/
structure ExmOk (K : PySem.W.Frag) (mg : Str → Option Value) (M : Mx) (C : Ck) : Prop where
  nm : ∀ k x, k ∈ C.xc → C.cnm[k]? = some x → ∃ Ka, M.ca k = some Ka ∧ mg x = some (.ref Ka)
  exm : ∀ c k Ca Ka, 0 < (M.W.exf c).length → k ∈ C.xc → M.ca c = some Ca → M.ca k = some Ka → PySem.W.exmOne K (.ref Ca) (.ref Ka) = some (M.W.isa c k)
  xf : ∀ c Ca, 0 < (M.W.exf c).length → M.ca c = some Ca → XfC K Ca ∧ ∀ f ∈ M.W.exf c, PySem.W.findIn K (.ref Ca) (Str.ofString f) = some none
/-- where nothing is handled -/
structure Cool (X : Cx) (M : Mx) (C : Ck) (n : Nat) (cf : CF) : Prop where
  calm : X.calm = true
  room : Room (2 * n + 2) X.A
  nex : M.ex = none
  nxd : M.xd = none
  ncx : M.cx = none
  fns : FnsOk X.prog X.w X.K X.mg X.base M C n cf
  cls : ClsOk X.prog X.w X.K X.mg X.base M C n cf
  mks : MksOk X.prog X.w X.K X.mg X.base M C n cf
  exs : ExcsOk X.prog X.w X.K X.mg X.base M C
  exm : ExmOk X.K X.mg M C
structure Cok (X : Cx) (M : Mx) (C : Ck) (sc : Scope) (n : Nat) (Wx : WX) (cf : CF) : Prop where
  cool : C.hot = false → Cool X M C n cf
  exr : ∀ i x f p pos, C.hot = true → C.exn = some i → C.N[i]? = some x → Vis X.env.scope x → okN x = true → PE X (.Attribute (.Name x p) (Str.ofString f) pos) (tE (M.g X.K) Wx (evalE M.W cf M.cx (.exf i f)))
  N : X.N = C.N
  nd : X.N.Nodup
  vis : ∀ x, visB sc x = true → Vis X.env.scope x
  loc : ∀ x, locB sc x = true → Loc X.env.scope x ∧ (X.fn x = true ∨ X.env.scope.names.lookup x = some .local)
  gl : ∀ x, glB sc x = true → Gl X x
  scn : ∀ (x : Str) k, k ≠ .free → sc.names.lookup x = some k → X.env.scope.names.lookup x = some k
  scf : ∀ (x : Str), sc.names.lookup x = some .free → X.env.scope.names.lookup x = some .free ∨ X.env.scope.names.lookup x = some .cell
  hu : X.A.units + 200 < cLine
  gd : X.A.guards = some []
  tk : Takes X Wx
  pas : PassesOwn (model X.prog X.w) X.A X.env X.xe
  con : ConOk M X.K
  scr : ScrOk M X.K
  glb : ∀ g x, C.gnm[g]? = some x → ∃ a, X.mg x = some (.ref a) ∧ M.ga g = some a
  bl : ∀ x ∈ bltNames, X.mg x = none
  gs : ∀ (g : Nat) (x : Str) (s : List Char), C.snm[g]? = some (x, s) → ∃ t, X.mg x = some (.str (st s) t)
  gi : ∀ (g : Nat) (x : Str) (i : Int), C.inm[g]? = some (x, i) → ∃ t, X.mg x = some (.int i t)
section
variable {X : Cx} {M : Mx} {C : Ck} {sc : Scope} {n : Nat} {Wx : WX} {cf : CF}
/-- weaker reading -/
theorem pe_imp {e : Expr} {t t' : TE} (h : PE X e t) (i : ∀ σ H Q, t' σ H Q → t σ H Q) : PE X e t' := ⟨fun pins s σ H Q I q => h.run pins s σ H Q I (i σ H Q q)⟩
theorem pt_imp {e : Expr} {t t' : TT} (h : PT X e t) (i : ∀ σ H Q, t' σ H Q → t σ H Q) : PT X e t' := ⟨fun pins s σ H Q I q => h.run pins s σ H Q I (i σ H Q q)⟩
theorem pw_imp {e : Expr} {t t' : TT} (h : PW X e t) (i : ∀ σ H Q, t' σ H Q → t σ H Q) : PW X e t' := ⟨fun wh pins s σ H Q I q => h.run wh pins s σ H Q I (i σ H Q q)⟩
theorem pa_imp {e : List Expr} {t t' : TA} (h : PA X e t) (i : ∀ σ H Q, t' σ H Q → t σ H Q) : PA X e t' := ⟨fun pos pins s σ H Q I q => h.run pos pins s σ H Q I (i σ H Q q)⟩
/-- one part, then the rest -/
theorem then1 {G : Gx} {ev : Sg → Hs → R D} {β : Type} {γ : Type} {Rl : List Addr → Hp → γ → β → Prop} {f : D → Hs → R γ} {σI : Sg} {h : Hs} {as : List Addr} {σ : L2.St} {H : Hp} {Q : β → Hp → Prop}
    (sl : SL G σI as H σ) (hi : HI G h as H) (p : post G Wx Rl as H σ ((ev σI h).bind f) Q) :
    tE G Wx ev σ H fun x H1 => ∃ d h1 as1, ev σI h = .ok d h1 ∧ Ext as H as1 H1 ∧ SL G σI as1 H1 σ ∧ HI G h1 as1 H1 ∧ Rep G as1 H1 d x ∧ post G Wx Rl as1 H1 σ (f d h1) Q :=
  ⟨σI, h, as, sl, hi, (post.bind (Rl := Rep G) p).imp fun v H1 ⟨d, h1, as1, e, x, i, r, q⟩ => ⟨d, h1, as1, e, x, sl.mono x, i, r, q⟩⟩
theorem thens {G : Gx} {ev : Sg → Hs → R (List D)} {β : Type} {γ : Type} {Rl : List Addr → Hp → γ → β → Prop} {f : List D → Hs → R γ} {σI : Sg} {h : Hs} {as : List Addr} {σ : L2.St} {H : Hp} {Q : β → Hp → Prop}
    (sl : SL G σI as H σ) (hi : HI G h as H) (p : post G Wx Rl as H σ ((ev σI h).bind f) Q) :
    tEs G Wx ev σ H fun x H1 => ∃ d h1 as1, ev σI h = .ok d h1 ∧ Ext as H as1 H1 ∧ SL G σI as1 H1 σ ∧ HI G h1 as1 H1 ∧ Reps G as1 H1 d x ∧ post G Wx Rl as1 H1 σ (f d h1) Q :=
  ⟨σI, h, as, sl, hi, (post.bind (Rl := Reps G) p).imp fun v H1 ⟨d, h1, as1, e, x, i, r, q⟩ => ⟨d, h1, as1, e, x, sl.mono x, i, r, q⟩⟩
/-- a test out of a value -/
theorem mkT {e : Expr} {ev : Sg → Hs → R D} (h : PE X e (tE (M.g X.K) Wx ev)) (he : ∀ whole, isTrue e X.env whole = (do let v ← whole; standAt e.pos; holding [v] (truthy v))) : PT X e (tT (M.g X.K) Wx ev) := by
  refine pt_imp (pt_truth h he) ?_
  rintro σ H Q ⟨σI, h, as, sl, hi, p⟩
  obtain ⟨σI', h', as', sl', hi', p'⟩ := then1 sl hi p
  refine ⟨σI', h', as', sl', hi', p'.imp ?_⟩
  rintro v H1 ⟨d, h1, as1, _, x, _, i, r, q⟩
  unfold truthR at q
  cases hb : truth d h1 with
  | none => rw [hb] at q; exact q.elim
  | some b =>
    rw [hb] at q
    exact ⟨b, truth_ok (M := M) i r hb, q b as1 H1 Ext.refl i rfl⟩
end
end Rf
end

section
namespace Rf
open PySem PySem.Spec PyProof.Rows L2

theorem okN_ok {x : Str} (h : okN x = true) : (x == ("__debug__" : Str)) = false ∧ (x == ("__classdict__" : Str)) = false ∧ x ≠ "__name__" := by
  simp only [okN, Bool.and_eq_true, Bool.not_eq_true'] at h
  exact ⟨h.1.1.1, h.1.1.2, fun e => by rw [e, beq_self_eq_true] at h; cases h.1.2⟩
theorem star_one {e : Expr} (h : isStar e = false) (r : List Expr) (env : Env) : starEach (e :: r) env = (false, eval e env) :: starEach r env := by
  cases e <;> first | rfl | (simp [isStar] at h)
theorem chkEs_star {C : Ck} {sc : Scope} {env : Env} {pos : Pos} : ∀ {es : List E} {xs : List Expr}, chkEs C es sc xs = true → (backTo pos (starEach xs env)).any (·.1) = false
  | [], [], _ => rfl
  | e :: es, x :: xs, h => by
    simp only [chkEs, Bool.and_eq_true, Bool.not_eq_true'] at h
    rw [star_one h.1.2]
    show (false || (backTo pos (starEach xs env)).any (·.1)) = false
    rw [chkEs_star h.2]; rfl
  | [], _ :: _, h => by simp [chkEs] at h
  | _ :: _, [], h => by simp [chkEs] at h
theorem bare_ok {o : Expr} {a : Str} {env : Env} {whole : Sem Value} (h : notBare o = true) : attributeBase o a env whole = whole := by
  unfold attributeBase
  split
  · simp [notBare] at h
  · rfl
section
variable {X : Cx} {M : Mx} {C : Ck} {sc : Scope} {n : Nat} {Wx : WX} {cf : CF}
abbrev SE (M : Mx) (X : Cx) (Wx : WX) (cf : CF) (ie : E) (e : Expr) : Prop := PE X e (tE (M.g X.K) Wx (evalE M.W cf M.cx ie)) ∧ PT X e (tT (M.g X.K) Wx (evalE M.W cf M.cx ie))
theorem se_var (K : Cok X M C sc n Wx cf) {i : Nat} {x : Str} {pos : Pos} (h1 : isC C.N i x = true) (h2 : visB sc x = true) (h3 : okN x = true) : PE X (.Name x pos) (tE (M.g X.K) Wx (evalE M.W cf M.cx (.var i))) := by
  obtain ⟨d1, d2, _⟩ := okN_ok h3
  refine pe_imp (pe_var (i := i) (by rw [K.N]; exact isC_ok h1) (K.vis x h2) d1 d2) ?_
  rintro σ H Q ⟨σI, h, as, sl, hi, p⟩
  simp only [evalE] at p
  split at p
  · rename_i d e
    obtain ⟨v, e1, r⟩ := sl.at_ i d e
    exact ⟨v, e1, p v as H Ext.refl hi r⟩
  · exact p.elim
theorem se_cst {d : D} {c : Const} {k : Nat} {pos : Pos} (h : cstB d c = true) : PE X (.Constant c k pos) (tE (M.g X.K) Wx (evalE M.W cf M.cx (.cst d))) := by
  have fin : ∀ {v : V}, PE X (.Constant c k pos) (tC v) → (∀ as H, Rep (M.g X.K) as H d v) → PE X (.Constant c k pos) (tE (M.g X.K) Wx (evalE M.W cf M.cx (.cst d))) := by
    intro v hp hr
    refine pe_imp hp ?_
    rintro σ H Q ⟨σI, h, as, sl, hi, p⟩
    exact p v as H Ext.refl hi (hr as H)
  cases d <;> cases c <;> simp only [cstB, Bool.false_eq_true] at h
  · exact fin pe_non fun _ _ => by simp only [Rep]
  · obtain rfl := eq_of_beq h
    exact fin pe_bl fun _ _ => by simp only [Rep]
  · obtain rfl := of_decide_eq_true h
    exact fin pe_int fun _ _ => by simp only [Rep]
  · obtain rfl := of_decide_eq_true h
    exact fin pe_str fun _ _ => by simp only [Rep]
theorem se_glb (K : Cok X M C sc n Wx cf) {g : Nat} {x : Str} {pos : Pos} (h1 : isC C.gnm g x = true) (h2 : glB sc x = true) (h3 : okN x = true) : PE X (.Name x pos) (tE (M.g X.K) Wx (evalE M.W cf M.cx (.glb g))) := by
  obtain ⟨a, m1, m2⟩ := K.glb g x (isC_ok h1)
  refine pe_imp (pe_glob (v := .ref a) (K.gl x h2) m1 rfl (okN_ok h3).1) ?_
  rintro σ H Q ⟨σI, h, as, sl, hi, p⟩
  exact p _ as H Ext.refl hi (by simp only [Rep]; exact ⟨a, rfl, m2⟩)
theorem se_fnv (K : Cok X M C sc n Wx cf) (hh : C.hot = false) {f : Nat} {x : Str} {pos : Pos} (h1 : isC C.fnm f x = true) (h2 : glB sc x = true) (h3 : okN x = true) : PE X (.Name x pos) (tE (M.g X.K) Wx (evalE M.W cf M.cx (.fnv f))) := by
  obtain ⟨a, m1, m2⟩ := (K.cool hh).fns.1 f x (isC_ok h1)
  refine pe_imp (pe_glob (v := .ref a) (K.gl x h2) m1 rfl (okN_ok h3).1) ?_
  rintro σ H Q ⟨σI, h, as, sl, hi, p⟩
  exact p _ as H Ext.refl hi (by simp only [Rep]; exact ⟨a, rfl, m2⟩)
theorem se_gst (K : Cok X M C sc n Wx cf) {g : Nat} {s : List Char} {x : Str} {pos : Pos} (h1 : C.snm[g]? = some (x, s)) (h2 : glB sc x = true) (h3 : okN x = true) : PE X (.Name x pos) (tE (M.g X.K) Wx (evalE M.W cf M.cx (.gst g s))) := by
  obtain ⟨t, m1⟩ := K.gs g x s h1
  refine pe_imp (pe_glob (v := .str (st s)) (K.gl x h2) m1 ⟨t, rfl⟩ (okN_ok h3).1) ?_
  rintro σ H Q ⟨σI, h, as, sl, hi, p⟩
  exact p _ as H Ext.refl hi (by simp only [Rep])
theorem se_gni (K : Cok X M C sc n Wx cf) {g : Nat} {i : Int} {x : Str} {pos : Pos} (h1 : C.inm[g]? = some (x, i)) (h2 : glB sc x = true) (h3 : okN x = true) : PE X (.Name x pos) (tE (M.g X.K) Wx (evalE M.W cf M.cx (.gni g i))) := by
  obtain ⟨t, m1⟩ := K.gi g x i h1
  refine pe_imp (pe_glob (v := .int i) (K.gl x h2) m1 ⟨t, rfl⟩ (okN_ok h3).1) ?_
  rintro σ H Q ⟨σI, h, as, sl, hi, p⟩
  exact p _ as H Ext.refl hi (by simp only [Rep])
/-- two operands -/
def r2 (M : Mx) (K : PySem.W.Frag) (Wx : WX) (σ : L2.St) (f : D → D → Hs → R D) : R2 := fun x y H Q => ∃ dx dy h as, HI (M.g K) h as H ∧ Rep (M.g K) as H dx x ∧ Rep (M.g K) as H dy y ∧ post (M.g K) Wx (Rep (M.g K)) as H σ (f dx dy h) Q
theorem to2 {ea eb : Sg → Hs → R D} {f : D → D → Hs → R D} {σ : L2.St} {H : Hp} {Q : VK}
    (h : tE (M.g X.K) Wx (fun σ h => (ea σ h).bind fun x h => (eb σ h).bind fun y h => f x y h) σ H Q) :
    ∀ σI h as, SL (M.g X.K) σI as H σ → HI (M.g X.K) h as H → post (M.g X.K) Wx (Rep (M.g X.K)) as H σ ((ea σI h).bind fun x h => (eb σI h).bind fun y h => f x y h) Q → tOp (r2 M X.K Wx σ f) (tE (M.g X.K) Wx ea) (tE (M.g X.K) Wx eb) σ H Q := by
  intro σI h as sl hi p
  obtain ⟨σI', h', as', sl', hi', p'⟩ := then1 sl hi p
  refine ⟨σI', h', as', sl', hi', p'.imp ?_⟩
  rintro x H1 ⟨dx, h1, as1, _, x1, sl1, i1, r1, q1⟩
  obtain ⟨σI', h', as', sl', hi', p'⟩ := then1 sl1 i1 q1
  refine ⟨σI', h', as', sl', hi', p'.imp ?_⟩
  rintro y H2 ⟨dy, h2, as2, _, x2, sl2, i2, rr2, q2⟩
  exact ⟨dx, dy, h2, as2, i2, r1.mono x2, rr2, q2⟩
theorem se_bin (K : Cok X M C sc n Wx cf) {o : Op} {op : Operator} {a b : E} {x y : Expr} {pos : Pos} (ho : opB o op = true) (ha : SE M X Wx cf a x) (hb : SE M X Wx cf b y) : PE X (.BinOp x op y pos) (tE (M.g X.K) Wx (evalE M.W cf M.cx (.bin o a b))) := by
  refine ⟨fun pins s σ H Q I h => ?_⟩
  obtain ⟨σI, h, as, sl, hi, p⟩ := h
  refine (pe_op (r := r2 M X.K Wx σ (opD o)) ?_ ha.1 hb.1).run pins s σ H Q I (to2 (Q := Q) ⟨σI, h, as, sl, hi, p⟩ σI h as sl hi p)
  rintro pins s σ' H x y v u Q I rx ry ⟨dx, dy, h, as, hi, r1, r2, p⟩
  exact opD_ok (Wx := fun c d _ H => Wx c d σ H) (opB_ok ho) I rx ry hi r1 r2 (by cases hh : opD o dx dy h <;> rw [hh] at p <;> exact p)
theorem cmpR (K : Cok X M C sc n Wx cf) (o : Cp) (σ : L2.St) : OpR X (compareOp (cpOf o)) (r2 M X.K Wx σ (cmpA M.W.cons o)) := by
  rintro pins s σ' H x y v u Q I rx ry ⟨dx, dy, h, as, hi, r1, r2, p⟩
  exact cmpA_ok (Wx := fun c d _ H => Wx c d σ H) K.hu K.con I rx ry hi r1 r2 (by cases hh : cmpA M.W.cons o dx dy h <;> rw [hh] at p <;> exact p)
theorem cmpA_bl {cs : List (List D)} {o : Cp} {x y d : D} {h h' : Hs} (e : cmpA cs o x y h = .ok d h') : ∃ b, d = .bl b := by
  have ci : ∀ {g : Int → Int → Bool}, cmpI g x y h = .ok d h' → ∃ b, d = .bl b := by
    intro g e
    unfold cmpI at e
    split at e
    · cases e; exact ⟨_, rfl⟩
    · cases e
  have dc : ∀ {q : List (D × D) × List (D × D)} {g : Bool → Bool}, ((ofO (eqKV q.1 q.2) h).bind fun b h => R.ok (.bl (g b)) h) = .ok d h' → ∃ b, d = .bl b := by
    intro q g e
    cases hh : eqKV q.1 q.2 <;> rw [hh] at e <;> cases e
    exact ⟨_, rfl⟩
  cases o <;> simp only [cmpA, cmpD] at e
  · split at e
    · exact dc (g := fun b => b) e
    · split at e
      · cases e; exact ⟨_, rfl⟩
      · cases e
  · split at e
    · exact dc (g := fun b => !b) e
    · split at e
      · cases e; exact ⟨_, rfl⟩
      · cases e
  · exact ci e
  · exact ci e
  · exact ci e
  · exact ci e
  · cases hh : inD cs x y h <;> rw [hh] at e <;> cases e; exact ⟨_, rfl⟩
  · cases hh : inD cs x y h <;> rw [hh] at e <;> cases e; exact ⟨_, rfl⟩
  · split at e
    · cases e; exact ⟨_, rfl⟩
    · cases e
  · split at e
    · cases e; exact ⟨_, rfl⟩
    · cases e
theorem R.bind_assoc {α β γ : Type} (r : R α) (f : α → Hs → R β) (g : β → Hs → R γ) : (r.bind f).bind g = r.bind fun a h => (f a h).bind g := by
  cases r <;> rfl
theorem mark_ok {o : Cp} {y : Expr} (h : isSet y = false) : behindInMarks (cpOf o) y = false := by
  cases y <;> first | rfl | (simp [isSet] at h)
theorem se_cmp (K : Cok X M C sc n Wx cf) {o : Cp} {op : CmpOp} {a b : E} {x y : Expr} {pos : Pos} (ho : cpB o op = true) (ha : SE M X Wx cf a x) (hb : SE M X Wx cf b y) (hs : isSet y = false) : SE M X Wx cf (.cmp o a b) (.Compare x [op] [y] pos) := by
  obtain rfl := cpB_ok ho
  constructor
  · refine ⟨fun pins s σ H Q I h => ?_⟩
    obtain ⟨σI, h, as, sl, hi, p⟩ := h
    exact (pe_cmpR (cmpR K o σ) ha.1 hb.1 (mark_ok hs)).run pins s σ H Q I (to2 (Q := Q) ⟨σI, h, as, sl, hi, p⟩ σI h as sl hi p)
  · refine ⟨fun pins s σ H Q I h => ?_⟩
    obtain ⟨σI, h, as, sl, hi, p⟩ := h
    refine (pt_cmpR (cmpR K o σ) ha.1 hb.1 (mark_ok hs)).run pins s σ H Q I ?_
    have p2 : post (M.g X.K) Wx (Rep (M.g X.K)) as H σ (evalE M.W cf M.cx (.cmp o a b) σI h) (fun v H1 => ∃ k, v = .bl k ∧ Q k H1) := by
      simp only [evalE] at p ⊢
      cases e1 : evalE M.W cf M.cx a σI h with
      | ok dx h1 =>
        rw [e1] at p
        simp only [R.bind_ok] at p ⊢
        cases e2 : evalE M.W cf M.cx b σI h1 with
        | ok dy h2 =>
          rw [e2] at p
          simp only [R.bind_ok] at p ⊢
          cases e3 : cmpA M.W.cons o dx dy h2 with
          | ok d h3 =>
            rw [e3] at p
            obtain ⟨c, rfl⟩ := cmpA_bl e3
            rintro v as' H' x' i' r'
            simp only [Rep] at r'
            exact ⟨c, r', p c as' H' x' i' rfl⟩
          | exc c fs h3 => rw [e3] at p; exact p
          | no => rw [e3] at p; exact p
        | exc c fs h2 => rw [e2] at p; exact p
        | no => rw [e2] at p; exact p
      | exc c fs h1 => rw [e1] at p; exact p
      | no => rw [e1] at p; exact p
    exact to2 (Q := fun v H1 => ∃ k, v = .bl k ∧ Q k H1) ⟨σI, h, as, sl, hi, p2⟩ σI h as sl hi p2
end
end Rf
end

section
namespace Rf
open PySem PySem.Spec PyProof.Rows L2

theorem mcall {o : Expr} {m : Str} {apos pos : Pos} {xs : List Expr} {env : Env} (hb : attributeBase o m env (eval o env) = eval o env)
    (hf : methodCallForm (xs.length + ([] : List Keyword).length) (backTo pos (starEach xs env)) (backToKw pos (keywordEach [] env)) = true) (hl : (apos.endLine == pos.line) = true) :
    eval (.Call (.Attribute o m apos) xs [] pos) env = (do
      let ov ← eval o env
      standAt apos.atName
      let (f, first) ← holding [ov] (getMethod ov m (do return (← importBound o env).getD true))
      callWith pos f first (backTo pos (starEach xs env)) (backToKw pos (keywordEach [] env))) := by
  refine mcall_of (kws := []) hb fun ov => ?_
  unfold methodCall methodCallPos calleeOf
  rw [hf]
  simp only [if_true, Bool.not_true, Bool.false_or, hl]
  rfl
theorem chkEs_form {C : Ck} {sc : Scope} {env : Env} {pos : Pos} : ∀ {es : List E} {xs : List Expr}, chkEs C es sc xs = true → (backTo pos (starEach xs env)).all (fun x => !x.1) = true
  | [], [], _ => rfl
  | e :: es, x :: xs, h => by
    simp only [chkEs, Bool.and_eq_true, Bool.not_eq_true'] at h
    rw [star_one h.1.2]
    show (!false && (backTo pos (starEach xs env)).all (fun x => !x.1)) = true
    rw [chkEs_form h.2]; rfl
  | [], _ :: _, h => by simp [chkEs] at h
  | _ :: _, [], h => by simp [chkEs] at h
section
variable {X : Cx} {M : Mx} {C : Ck} {sc : Scope} {n : Nat} {Wx : WX} {cf : CF}
theorem se_chn (K : Cok X M C sc n Wx cf) {o o' : Cp} {op op' : CmpOp} {a b c : E} {x y z : Expr} {pos : Pos} (ho : cpB o op = true) (ho' : cpB o' op' = true) (ha : SE M X Wx cf a x) (hb : SE M X Wx cf b y) (hc : SE M X Wx cf c z) (hs : isSet z = false) :
    SE M X Wx cf (.chn o o' a b c) (.Compare x [op, op'] [y, z] pos) := by
  obtain rfl := cpB_ok ho
  obtain rfl := cpB_ok ho'
  have key : ∀ {σ H} {Q : VK} {σI h as}, SL (M.g X.K) σI as H σ → HI (M.g X.K) h as H → post (M.g X.K) Wx (Rep (M.g X.K)) as H σ (evalE M.W cf M.cx (.chn o o' a b c) σI h) Q →
      tChain (r2 M X.K Wx σ (cmpA M.W.cons o)) (r2 M X.K Wx σ (cmpA M.W.cons o')) (tE (M.g X.K) Wx (evalE M.W cf M.cx a)) (tE (M.g X.K) Wx (evalE M.W cf M.cx b)) (tE (M.g X.K) Wx (evalE M.W cf M.cx c)) σ H Q := by
    intro σ H Q σI h as sl hi p
    simp only [evalE] at p
    obtain ⟨q1, q2, q3, sl', hi', p'⟩ := then1 sl hi p
    refine ⟨q1, q2, q3, sl', hi', p'.imp ?_⟩
    rintro x H1 ⟨dx, h1, as1, _, x1, sl1, i1, r1, p1⟩
    obtain ⟨q1, q2, q3, sl', hi', p'⟩ := then1 sl1 i1 p1
    refine ⟨q1, q2, q3, sl', hi', p'.imp ?_⟩
    rintro y H2 ⟨dy, h2, as2, _, x2, sl2, i2, r2, p2⟩
    refine ⟨dx, dy, h2, as2, i2, r1.mono x2, r2, (post.bind (Rl := Rep (M.g X.K)) p2).imp ?_⟩
    rintro z H3 ⟨dz, h3, as3, e3, x3, i3, r3, p3⟩
    obtain ⟨k, rfl⟩ := cmpA_bl e3
    simp only [Rep] at r3
    refine ⟨k, r3, ?_⟩
    cases k with
    | false => exact p3 _ as3 H3 Ext.refl i3 (by simp only [Rep])
    | true =>
      rw [if_pos rfl]
      obtain ⟨q1, q2, q3, sl', hi', p'⟩ := then1 (sl2.mono x3) i3 p3
      refine ⟨q1, q2, q3, sl', hi', p'.imp ?_⟩
      rintro w H4 ⟨dw, h4, as4, _, x4, sl4, i4, r4, p4⟩
      exact ⟨dy, dw, h4, as4, i4, (r2.mono x3).mono x4, r4, p4⟩
  have hm : lastMarks [cpOf o, cpOf o'] [y, z] = false := by
    show lastMarks [cpOf o'] [z] = false
    exact mark_ok hs
  constructor
  · refine ⟨fun pins s σ H Q I h => ?_⟩
    obtain ⟨σI, h, as, sl, hi, p⟩ := h
    exact (pe_chain (cmpR K o σ) (cmpR K o' σ) ha.1 hb.1 hc.1 hm).run pins s σ H Q I (key sl hi p)
  · refine ⟨fun pins s σ H Q I h => ?_⟩
    obtain ⟨σI, h, as, sl, hi, p⟩ := h
    refine (pt_chain (cmpR K o σ) (cmpR K o' σ) ha.1 hb.1 hc.1 hm).run pins s σ H Q I (key (Q := fun v H1 => ∃ k, v = .bl k ∧ Q k H1) sl hi ?_)
    cases e : evalE M.W cf M.cx (.chn o o' a b c) σI h with
    | ok d h1 =>
      rw [e] at p
      have : ∃ k, d = .bl k := by
        simp only [evalE] at e
        cases e1 : evalE M.W cf M.cx a σI h <;> rw [e1] at e <;> try cases e
        simp only [R.bind_ok] at e
        rename_i h1
        cases e2 : evalE M.W cf M.cx b σI h1 <;> rw [e2] at e <;> try cases e
        simp only [R.bind_ok] at e
        rename_i dy h2
        cases e3 : cmpA M.W.cons o _ dy h2 <;> rw [e3] at e <;> try cases e
        simp only [R.bind_ok] at e
        rename_i dz h3
        split at e
        · cases e4 : evalE M.W cf M.cx c σI h3 <;> rw [e4] at e <;> try cases e
          simp only [R.bind_ok] at e
          exact cmpA_bl e
        · cases e; exact ⟨_, rfl⟩
        · cases e
      obtain ⟨k, rfl⟩ := this
      rintro v as' H' x' i' r'
      simp only [Rep] at r'
      exact ⟨k, r', p k as' H' x' i' rfl⟩
    | exc c fs h1 => rw [e] at p; exact p
    | no => rw [e] at p; exact p
/-- and -/
theorem se_and (K : Cok X M C sc n Wx cf) {a b : E} {x y : Expr} {r : List Expr} {pos : Pos} (ha : SE M X Wx cf a x) (hb : PE X (.BoolOp .And (y :: r) pos) (tE (M.g X.K) Wx (evalE M.W cf M.cx b)))
    (hw : PW X (.BoolOp .And (y :: r) pos) (tT (M.g X.K) Wx (evalE M.W cf M.cx b))) :
    PE X (.BoolOp .And (x :: y :: r) pos) (tE (M.g X.K) Wx (evalE M.W cf M.cx (.and a b))) ∧ PW X (.BoolOp .And (x :: y :: r) pos) (tT (M.g X.K) Wx (evalE M.W cf M.cx (.and a b))) := by
  constructor
  · refine pe_imp (pe_andT ha.1 hb) ?_
    rintro σ H Q ⟨σI, h, as, sl, hi, p⟩
    simp only [evalE] at p
    obtain ⟨q1, q2, q3, sl', hi', p'⟩ := then1 sl hi p
    refine ⟨q1, q2, q3, sl', hi', p'.imp ?_⟩
    rintro x H1 ⟨dx, h1, as1, _, x1, sl1, i1, r1, p1⟩
    obtain ⟨t, et, p2⟩ := post.ofO p1
    refine ⟨t, truth_ok (M := M) i1 r1 et, ?_⟩
    cases t with
    | true => exact ⟨σI, h1, as1, sl1, i1, p2⟩
    | false => exact p2 x as1 H1 Ext.refl i1 r1
  · refine pw_imp (pw_and ha.2 hw) ?_
    rintro σ H Q ⟨σI, h, as, sl, hi, p⟩
    simp only [evalE] at p
    rw [R.bind_assoc] at p
    refine ⟨σI, h, as, sl, hi, ?_⟩
    cases e : evalE M.W cf M.cx a σI h with
    | exc c fs h1 => rw [e] at p; exact p
    | no => rw [e] at p; exact p
    | ok d h1 =>
      rw [e] at p
      simp only [R.bind_ok] at p ⊢
      unfold truthR at p ⊢
      cases et : truth d h1 with
      | none => rw [et] at p; exact p
      | some t =>
        rw [et] at p
        rintro k as1 H1 x1 i1 rfl
        cases t with
        | true => exact ⟨σI, h1, as1, sl.mono x1, i1, p.mono x1⟩
        | false =>
          simp only [ofO_some, R.bind_ok, Bool.false_eq_true, if_false] at p
          rw [et] at p
          exact p false as1 H1 x1 i1 rfl
theorem se_or (K : Cok X M C sc n Wx cf) {a b : E} {x y : Expr} {r : List Expr} {pos : Pos} (ha : SE M X Wx cf a x) (hb : PE X (.BoolOp .Or (y :: r) pos) (tE (M.g X.K) Wx (evalE M.W cf M.cx b)))
    (hw : PW X (.BoolOp .Or (y :: r) pos) (tT (M.g X.K) Wx (evalE M.W cf M.cx b))) :
    PE X (.BoolOp .Or (x :: y :: r) pos) (tE (M.g X.K) Wx (evalE M.W cf M.cx (.or a b))) ∧ PW X (.BoolOp .Or (x :: y :: r) pos) (tT (M.g X.K) Wx (evalE M.W cf M.cx (.or a b))) := by
  constructor
  · refine pe_imp (pe_orT ha.1 hb) ?_
    rintro σ H Q ⟨σI, h, as, sl, hi, p⟩
    simp only [evalE] at p
    obtain ⟨q1, q2, q3, sl', hi', p'⟩ := then1 sl hi p
    refine ⟨q1, q2, q3, sl', hi', p'.imp ?_⟩
    rintro x H1 ⟨dx, h1, as1, _, x1, sl1, i1, r1, p1⟩
    obtain ⟨t, et, p2⟩ := post.ofO p1
    refine ⟨t, truth_ok (M := M) i1 r1 et, ?_⟩
    cases t with
    | false => exact ⟨σI, h1, as1, sl1, i1, p2⟩
    | true => exact p2 x as1 H1 Ext.refl i1 r1
  · refine pw_imp (pw_or ha.2 hw) ?_
    rintro σ H Q ⟨σI, h, as, sl, hi, p⟩
    simp only [evalE] at p
    rw [R.bind_assoc] at p
    refine ⟨σI, h, as, sl, hi, ?_⟩
    cases e : evalE M.W cf M.cx a σI h with
    | exc c fs h1 => rw [e] at p; exact p
    | no => rw [e] at p; exact p
    | ok d h1 =>
      rw [e] at p
      simp only [R.bind_ok] at p ⊢
      unfold truthR at p ⊢
      cases et : truth d h1 with
      | none => rw [et] at p; exact p
      | some t =>
        rw [et] at p
        rintro k as1 H1 x1 i1 rfl
        cases t with
        | false => exact ⟨σI, h1, as1, sl.mono x1, i1, p.mono x1⟩
        | true =>
          simp only [ofO_some, R.bind_ok, if_true] at p
          rw [et] at p
          exact p true as1 H1 x1 i1 rfl
theorem se_not (K : Cok X M C sc n Wx cf) {a : E} {x : Expr} {pos : Pos} (ha : SE M X Wx cf a x) : SE M X Wx cf (.not a) (.UnaryOp .Not x pos) := by
  constructor
  · refine pe_imp (pe_notT ha.1) ?_
    rintro σ H Q ⟨σI, h, as, sl, hi, p⟩
    simp only [evalE] at p
    obtain ⟨q1, q2, q3, sl', hi', p'⟩ := then1 sl hi p
    refine ⟨q1, q2, q3, sl', hi', p'.imp ?_⟩
    rintro x H1 ⟨dx, h1, as1, _, x1, sl1, i1, r1, p1⟩
    obtain ⟨t, et, p2⟩ := post.ofO p1
    exact ⟨t, truth_ok (M := M) i1 r1 et, p2 _ as1 H1 Ext.refl i1 (by simp only [Rep])⟩
  · refine pt_imp (pt_not ha.2) ?_
    rintro σ H Q ⟨σI, h, as, sl, hi, p⟩
    simp only [evalE] at p
    rw [R.bind_assoc] at p
    refine ⟨σI, h, as, sl, hi, ?_⟩
    cases e : evalE M.W cf M.cx a σI h with
    | exc c fs h1 => rw [e] at p; exact p
    | no => rw [e] at p; exact p
    | ok d h1 =>
      rw [e] at p
      simp only [R.bind_ok] at p ⊢
      unfold truthR at p ⊢
      cases et : truth d h1 with
      | none => rw [et] at p; exact p
      | some t =>
        rw [et] at p
        rintro k as1 H1 x1 i1 rfl
        exact p (!t) as1 H1 x1 i1 rfl
theorem se_ife (K : Cok X M C sc n Wx cf) {c a b : E} {z x y : Expr} {pos : Pos} (hc : SE M X Wx cf c z) (ha : SE M X Wx cf a x) (hb : SE M X Wx cf b y) : SE M X Wx cf (.ife c a b) (.IfExp z x y pos) := by
  constructor
  · refine pe_imp (pe_ifExp hc.2 ha.1 hb.1) ?_
    rintro σ H Q ⟨σI, h, as, sl, hi, p⟩
    simp only [evalE] at p
    rw [← R.bind_assoc] at p
    refine ⟨σI, h, as, sl, hi, (post.bind (Rl := rB) p).imp ?_⟩
    rintro k H1 ⟨d, h1, as1, _, x1, i1, rfl, p1⟩
    cases d with
    | true => exact ⟨σI, h1, as1, sl.mono x1, i1, p1⟩
    | false => exact ⟨σI, h1, as1, sl.mono x1, i1, p1⟩
  · have pt : PT X (.IfExp z x y pos) (fun σ H Q => tT (M.g X.K) Wx (evalE M.W cf M.cx c) σ H fun k H1 => if k = true then tT (M.g X.K) Wx (evalE M.W cf M.cx a) σ H1 Q else tT (M.g X.K) Wx (evalE M.W cf M.cx b) σ H1 Q) := by
      refine ⟨fun pins s σ H Q I h => ?_⟩
      refine isTrue_IfExp (thn (hc.2.run pins s σ H _ I h) fun d s1 ⟨H1, I1, q1⟩ => ?_)
      cases d with
      | true => exact ha.2.run pins s1 σ H1 Q I1 q1
      | false => exact hb.2.run pins s1 σ H1 Q I1 q1
    refine pt_imp pt ?_
    rintro σ H Q ⟨σI, h, as, sl, hi, p⟩
    simp only [evalE] at p
    rw [← R.bind_assoc, R.bind_assoc] at p
    refine ⟨σI, h, as, sl, hi, (post.bind (Rl := rB) p).imp ?_⟩
    rintro k H1 ⟨d, h1, as1, _, x1, i1, rfl, p1⟩
    cases d with
    | true => exact ⟨σI, h1, as1, sl.mono x1, i1, p1⟩
    | false => exact ⟨σI, h1, as1, sl.mono x1, i1, p1⟩
/-- displays -/
theorem se_tup {es : List E} {xs : List Expr} {k : Nat} {pos : Pos} (h : PA X xs (tEs (M.g X.K) Wx (evalEs M.W cf M.cx es))) : PE X (.Tuple xs k pos) (tE (M.g X.K) Wx (evalE M.W cf M.cx (.tup es))) := by
  refine pe_imp (pe_tup h) ?_
  rintro σ H Q ⟨σI, h, as, sl, hi, p⟩
  simp only [evalE] at p
  obtain ⟨q1, q2, q3, sl', hi', p'⟩ := thens sl hi p
  refine ⟨q1, q2, q3, sl', hi', p'.imp ?_⟩
  rintro vs H1 ⟨ds, h1, as1, _, x1, sl1, i1, r1, p1⟩
  split at p1
  · rename_i hl
    refine ⟨by rw [← r1.length]; exact hl, fun q hq => p1 _ as1 _ (ext_tup hq) (i1.other hq) ?_⟩
    simp only [Rep]
    exact ⟨q, vs, rfl, upd_same, r1.mono (ext_tup hq)⟩
  · exact p1.elim
theorem se_lst {es : List E} {xs : List Expr} {pos : Pos} (h : PA X xs (tEs (M.g X.K) Wx (evalEs M.W cf M.cx es))) : PE X (.List xs pos) (tE (M.g X.K) Wx (evalE M.W cf M.cx (.lst es))) := by
  refine pe_imp (pe_lst h) ?_
  rintro σ H Q ⟨σI, h, as, sl, hi, p⟩
  simp only [evalE] at p
  obtain ⟨q1, q2, q3, sl', hi', p'⟩ := thens sl hi p
  refine ⟨q1, q2, q3, sl', hi', p'.imp ?_⟩
  rintro vs H1 ⟨ds, h1, as1, _, x1, sl1, i1, r1, p1⟩
  split at p1
  · rename_i hl
    refine ⟨by rw [← r1.length]; exact hl, fun q hq => p1 _ (as1 ++ [q]) _ (ext_new hq) (i1.new hq ⟨vs, upd_same, r1.mono (ext_new hq)⟩) ?_⟩
    simp only [Rep]
    exact ⟨q, rfl, by rw [← i1.len]; simp⟩
  · exact p1.elim
theorem se_dic {t : Bool} {pos : Pos} : PE X (.Dict [] [] pos) (tE (M.g X.K) Wx (evalE M.W cf M.cx (.dic t [] []))) := by
  cases t with
  | false =>
    refine pe_imp pe_dnewK ?_
    rintro σ H Q ⟨σI, h, as, sl, hi, p⟩
    simp only [evalE] at p
    refine fun q hq => p _ (as ++ [q]) _ (ext_new hq) (hi.new hq ⟨[], ?_, .nil⟩) ?_
    · simp only [lkd, Bool.false_eq_true, if_false]; exact upd_same
    · simp only [Rep]
      exact ⟨q, rfl, by rw [← hi.len]; simp⟩
  | true =>
    refine pe_imp pe_dnewT ?_
    rintro σ H Q ⟨σI, h, as, sl, hi, p⟩
    simp only [evalE] at p
    refine fun q hq => p _ (as ++ [q]) _ (ext_new hq) (hi.new hq ⟨[], ?_, .nil⟩) ?_
    · simp only [lkd, Bool.false_eq_true, if_false]; exact upd_same
    · simp only [Rep]
      exact ⟨q, rfl, by rw [← hi.len]; simp⟩
end
end Rf
end

section
namespace Rf
open PySem PySem.Spec PyProof.Rows L2

theorem plainIx {y : Expr} (h : isSlice y = false) : PlainIx y := by
  intro o i
  cases y <;> first | rfl | (simp [isSlice] at h)
section
variable {X : Cx} {M : Mx} {C : Ck} {sc : Scope} {n : Nat} {Wx : WX} {cf : CF}
theorem se_ix (K : Cok X M C sc n Wx cf) {a b : E} {x y : Expr} {pos : Pos} (ha : SE M X Wx cf a x) (hb : SE M X Wx cf b y) (hs : isSlice y = false) : PE X (.Subscript x y pos) (tE (M.g X.K) Wx (evalE M.W cf M.cx (.ix a b))) := by
  refine ⟨fun pins s σ H Q I h => ?_⟩
  obtain ⟨σI, h, as, sl, hi, p⟩ := h
  simp only [evalE] at p
  -- is it a dict
  by_cases hd : ∃ m h1 dy h2 lk t kvs, evalE M.W cf M.cx a σI h = .ok (.ob m) h1 ∧ evalE M.W cf M.cx b σI h1 = .ok dy h2 ∧ h2[m]? = some (.dic lk t kvs)
  · obtain ⟨m, h1, dy, h2, lk, t, kvs, e1, e2, e3⟩ := hd
    refine (pe_dget (by have := K.hu; omega) ha.1 hb.1 (plainIx hs)).run pins s σ H Q I ?_
    obtain ⟨q1, q2, q3, sl', hi', p'⟩ := then1 sl hi p
    refine ⟨q1, q2, q3, sl', hi', p'.imp ?_⟩
    rintro x H1 ⟨dx, h1', as1, e1', x1, sl1, i1, r1, p1⟩
    rw [e1] at e1'; cases e1'
    obtain ⟨q1, q2, q3, sl', hi', p'⟩ := then1 sl1 i1 p1
    refine ⟨q1, q2, q3, sl', hi', p'.imp ?_⟩
    rintro y H2 ⟨dy', h2', as2, e2', x2, sl2, i2, rr, p2⟩
    rw [e2] at e2'; cases e2'
    have r1' := r1.mono x2
    simp only [Rep] at r1'
    obtain ⟨ad, rfl, ea⟩ := r1'
    simp only [ixD, e3] at p2
    split at p2
    · rename_i hk
      obtain ⟨o, g, ho⟩ := dget_ok (i2.ob m _ ad e3 ea) hk rr
      rcases ho with ⟨e4, _⟩ | ⟨d, v, e4, rfl, rv⟩
      · rw [e4] at p2; exact p2.elim
      · rw [e4] at p2
        exact ⟨ad, v, rfl, g, p2 v as2 H2 Ext.refl i2 rv⟩
    · exact p2.elim
  · refine (pe_ix (ix8 (M := M) (Wx := Wx) K.con σ) ha.1 hb.1 (plainIx hs)).run pins s σ H Q I ?_
    obtain ⟨q1, q2, q3, sl', hi', p'⟩ := then1 sl hi p
    refine ⟨q1, q2, q3, sl', hi', p'.imp ?_⟩
    rintro x H1 ⟨dx, h1, as1, e1, x1, sl1, i1, r1, p1⟩
    obtain ⟨q1, q2, q3, sl', hi', p'⟩ := then1 sl1 i1 p1
    refine ⟨q1, q2, q3, sl', hi', p'.imp ?_⟩
    rintro y H2 ⟨dy, h2, as2, e2, x2, sl2, i2, rr, p2⟩
    exact ⟨dx, dy, h2, as2, i2, r1.mono x2, rr, fun m lk t kvs e e3 => hd ⟨m, h1, dy, h2, lk, t, kvs, by rw [← e]; exact e1, e2, e3⟩, p2⟩
/-- a part of a slice -/
theorem po_of {lo : List E} {l : Option Expr} (h : (match l with | none => lo = [] | some e => ∃ a, lo = [a] ∧ SE M X Wx cf a e)) :
    PO X l (fun σ H Q => ∃ σI h as, SL (M.g X.K) σI as H σ ∧ HI (M.g X.K) h as H ∧ post (M.g X.K) Wx (fun _ _ (a b : Option Int) => a = b) as H σ ((evalEs M.W cf M.cx lo σI h).bind fun l h => ofO (optI l) h) Q) := by
  cases l with
  | none =>
    subst h
    refine ⟨fun pins s σ H Q I h => ?_⟩
    obtain ⟨σI, h, as, sl, hi, p⟩ := h
    exact po_none.run pins s σ H Q I (p none as H Ext.refl hi rfl)
  | some e =>
    obtain ⟨a, rfl, ha⟩ := h
    refine ⟨fun pins s σ H Q I h => ?_⟩
    obtain ⟨σI, h, as, sl, hi, p⟩ := h
    simp only [evalEs, R.bind_assoc] at p
    refine (po_some ha.1).run pins s σ H Q I ?_
    obtain ⟨q1, q2, q3, sl', hi', p'⟩ := then1 (Rl := fun _ _ (a b : Option Int) => a = b) sl hi p
    refine ⟨q1, q2, q3, sl', hi', p'.imp ?_⟩
    rintro x H1 ⟨dx, h1, as1, e1, x1, sl1, i1, r1, p1⟩
    simp only [R.bind_ok] at p1
    cases dx with
    | int i =>
      simp only [Rep] at r1
      exact ⟨i, r1, p1 (some i) as1 H1 Ext.refl i1 rfl⟩
    | _ => exact p1.elim
theorem se_slc (K : Cok X M C sc n Wx cf) {a : E} {lo hi : List E} {x : Expr} {l u : Option Expr} {p2 pos : Pos} (ha : SE M X Wx cf a x) (hl : (match l with | none => lo = [] | some e => ∃ a, lo = [a] ∧ SE M X Wx cf a e)) (hu : (match u with | none => hi = [] | some e => ∃ a, hi = [a] ∧ SE M X Wx cf a e)) :
    PE X (.Subscript x (.Slice l u none p2) pos) (tE (M.g X.K) Wx (evalE M.W cf M.cx (.slc a lo hi))) := by
  refine ⟨fun pins s σ H Q I h => ?_⟩
  obtain ⟨σI, h, as, sl, hi', p⟩ := h
  simp only [evalE] at p
  refine (pe_slice (sl8 (M := M) (Wx := Wx) σ) ha.1 (po_of hl) (po_of hu)).run pins s σ H Q I ?_
  obtain ⟨q1, q2, q3, sl', hi', p'⟩ := then1 sl hi' p
  refine ⟨q1, q2, q3, sl', hi', p'.imp ?_⟩
  rintro x H1 ⟨dx, h1, as1, e1, x1, sl1, i1, r1, p1⟩
  rw [← R.bind_assoc] at p1
  refine ⟨σI, h1, as1, sl1, i1, (post.bind (Rl := fun _ _ (a b : Option Int) => a = b) p1).imp ?_⟩
  rintro o H2 ⟨o', h2, as2, e2, x2, i2, rfl, p2⟩
  rw [← R.bind_assoc] at p2
  refine ⟨σI, h2, as2, sl1.mono x2, i2, (post.bind (Rl := fun _ _ (a b : Option Int) => a = b) p2).imp ?_⟩
  rintro o2 H3 ⟨o2', h3, as3, e3, x3, i3, rfl, p3⟩
  exact ⟨dx, h3, as3, i3, (r1.mono x2).mono x3, p3⟩
theorem se_back {a : E} {x : Expr} {k : Nat} {p1 p2 p3 pos : Pos} (ha : SE M X Wx cf a x) : PE X (.Subscript x (.Slice none none (some (.UnaryOp .USub (.Constant (.int 1) k p1) p2)) p3) pos) (tE (M.g X.K) Wx (evalE M.W cf M.cx (.back a))) := by
  refine pe_imp (pe_revL ha.1) ?_
  rintro σ H Q ⟨σI, h, as, sl, hi, p⟩
  simp only [evalE] at p
  obtain ⟨q1, q2, q3, sl', hi', p'⟩ := then1 sl hi p
  refine ⟨q1, q2, q3, sl', hi', p'.imp ?_⟩
  rintro x H1 ⟨dx, h1, as1, e1, x1, sl1, i1, r1, p1⟩
  split at p1
  · rename_i m
    simp only [Rep] at r1
    obtain ⟨ad, rfl, ea⟩ := r1
    split at p1
    · rename_i xs e2
      obtain ⟨vs, q1, q2⟩ := i1.ob m _ ad e2 ea
      refine ⟨ad, vs, rfl, SqL.of q1, fun q hq => ?_⟩
      refine p1 _ (as1 ++ [q]) _ (ext_new hq) (i1.new hq ⟨_, upd_same, (Reps.reverse q2).mono (ext_new hq)⟩) ?_
      simp only [Rep]
      exact ⟨q, rfl, by rw [← i1.len]; simp⟩
    · exact p1.elim
  · exact p1.elim
theorem se_fld (K : Cok X M C sc n Wx cf) (hh : C.hot = false) {a : E} {f : String} {x : Expr} {pos : Pos} (ha : SE M X Wx cf a x) (hb : notBare x = true) : PE X (.Attribute x (Str.ofString f) pos) (tE (M.g X.K) Wx (evalE M.W cf M.cx (.fld a f))) := by
  refine pe_imp (pe_fld ha.1 (bare_ok hb)) ?_
  rintro σ H Q ⟨σI, h, as, sl, hi, p⟩
  simp only [evalE] at p
  obtain ⟨q1, q2, q3, sl', hi', p'⟩ := then1 sl hi p
  refine ⟨q1, q2, q3, sl', hi', p'.imp ?_⟩
  rintro x H1 ⟨dx, h1, as1, e1, x1, sl1, i1, r1, p1⟩
  cases dx with
  | ob m =>
    simp only [Rep] at r1
    obtain ⟨ad, rfl, ea⟩ := r1
    simp only [fldD] at p1
    split at p1
    · rename_i c fs e2
      split at p1
      · rename_i hf
        unfold hasF at hf
        split at hf
        · rename_i ci e3
          obtain ⟨Ca, dx, vs, ec, eo, rf⟩ := i1.ob m _ ad e2 ea
          obtain ⟨c1, c2, _⟩ := (K.cool hh).cls c ci e3 Ca ec
          rcases rf.lookup f with ⟨e4, _⟩ | ⟨d, v, e4, e5, rv⟩
          · rw [e4] at p1; exact p1.elim
          · rw [e4] at p1
            exact ⟨ad, Ca, dx, vs, v, rfl, eo, c1, c2 f (List.contains_iff_mem.mp hf), e5, p1 v as1 H1 Ext.refl i1 rv⟩
        · cases hf
      · exact p1.elim
    · exact p1.elim
  | _ => exact p1.elim
theorem make_guards {A : Around} {C : Addr} {us : List Value} {kw : List (Str × Value)} : (A.under (.builtin "type.__call__" ⟨.ref C :: us, kw⟩)).guards = A.guards := by
  first | rfl | simp [Around.under, Code.guards, Code.isGuard, guardIds, pushGuards]
/-- a call's end -/
theorem run_cal (K : Cok X M C sc n Wx cf) (hh : C.hot = false) {a : Addr} {f : Nat} (B : FnB X.prog X.w X.K X.mg X.base M n cf a f)
    {pins : List (Addr × Obj)} {s : Shared} {σ : L2.St} {H : Hp} {Q : VK} {vs : List V} {us : List Value} {ds : List D} {h : Hs} {as : List Addr} (I : Inv X pins σ H s) (rv : Vals vs us) (hi : HI (M.g X.K) h as H) (rs : Reps (M.g X.K) as H ds vs)
    (p : post (M.g X.K) Wx (Rep (M.g X.K)) as H σ (cf f ds h) Q) : wpAny (model X.prog X.w) X.A (call (.ref a) us) (EP X pins σ Q) X.xe s := by
  obtain ⟨fd, ps, np, hb, hp, F, hl⟩ := B
  have hn : cf f ds h ≠ .no := fun e => by rw [e] at p; exact p
  refine run_G (E := WE Wx) F K.gd ((K.cool hh).room.mono (by omega)) hb (passAt K.tk σ) I rv ⟨by rw [← rs.length]; exact hl ds h hn, ds, h, as, hi, rs, ?_⟩
  cases hh : cf f ds h with
  | ok d h' => rw [hh] at p; exact p
  | exc c fs h' => rw [hh] at p; exact p
  | no => rw [hh] at p; exact p
theorem run_new (K : Cok X M C sc n Wx cf) (hh : C.hot = false) {a Ca : Addr} {f c : Nat} (B : FnB X.prog X.w X.K X.mg X.base M n cf a f) (mk : Mk X.K Ca a) (hc : M.ca c = some Ca)
    {pins : List (Addr × Obj)} {s : Shared} {σ : L2.St} {H : Hp} {Q : VK} {vs : List V} {us : List Value} {ds : List D} {h : Hs} {as : List Addr} (I : Inv X pins σ H s) (rv : Vals vs us) (hi : HI (M.g X.K) h as H) (rs : Reps (M.g X.K) as H ds vs)
    (p : post (M.g X.K) Wx (Rep (M.g X.K)) as H σ ((cf f (.ob h.length :: ds) (h ++ [.ins c []])).bind fun r h' => match r with | .non => .ok (.ob h.length) h' | _ => .no) Q) :
    wpAny (model X.prog X.w) X.A (call (.ref Ca) us) (EP X pins σ Q) X.xe s := by
  obtain ⟨fd, ps, np, hb, hp, F, hl⟩ := B
  have hn : cf f (.ob h.length :: ds) (h ++ [.ins c []]) ≠ .no := fun e => by rw [e] at p; exact p
  -- the new object
  have go : ∀ x dx, H x = none → H dx = none → dx ≠ x → spI M X.K cf np f (.ref x :: (vs ++ [])) (upd (upd H dx (.own x)) x (.ins Ca dx [])) (fun v H2 => v = .non ∧ Q (.ref x) H2) (fun cl d H' => Wx cl d σ H') := by
    intro x dx hx hdx ne
    have hx1 : upd H dx (.own x) x = none := by rw [upd_ne (Ne.symm ne)]; exact hx
    have i1 := (hi.other (o := .own x) hdx).new (mo := .ins c []) (o := .ins Ca dx []) hx1 ⟨Ca, dx, [], hc, upd_same, .nil⟩
    have ex : Ext as H (as ++ [x]) (upd (upd H dx (.own x)) x (.ins Ca dx [])) := (ext_tup hdx).trans (ext_new hx1)
    rw [List.append_nil]
    refine ⟨by rw [← hl _ _ hn]; simp [rs.length], .ob h.length :: ds, h ++ [.ins c []], as ++ [x], i1, ?_, ?_⟩
    · simp only [Reps, Rep]
      exact ⟨_, _, rfl, ⟨x, rfl, by rw [← hi.len]; simp⟩, rs.mono ex⟩
    · have p2 := p.mono ex
      cases hh : cf f (.ob h.length :: ds) (h ++ [.ins c []]) with
      | no => exact absurd hh hn
      | exc c' fs h' => rw [hh] at p2; exact p2
      | ok d h' =>
        rw [hh] at p2
        simp only [R.bind_ok] at p2
        split at p2
        · rintro v as' H' x' i' r'
          simp only [Rep] at r'
          refine ⟨r', p2 _ as' H' x' i' ?_⟩
          simp only [Rep]
          exact ⟨x, rfl, x'.pre _ _ (by rw [← hi.len]; simp)⟩
        · exact p2.elim
  have hq := go (s.heap.objs.size + 1) s.heap.objs.size (I.hok.fresh (Nat.le_succ _)) (I.hok.fresh (Nat.le_refl _)) (Nat.ne_of_lt (Nat.lt_succ_self _))
  have I2 := Inv.made (C := Ca) I
  rw [List.append_nil] at hq
  have rr : Vals (V.ref (s.heap.objs.size + 1) :: vs) (Value.ref (s.heap.objs.size + 1) :: us) := .cons rfl rv
  have hll : (Value.ref (s.heap.objs.size + 1) :: us ++ []).length = ps.length := by
    rw [List.append_nil, ← rr.length]; exact F.ln _ _ _ _ hq
  have b := hb _ (Value.ref (s.heap.objs.size + 1) :: us) I2.kIn hll
  rw [List.append_nil] at b
  refine wpAny_call (make_map (f := a) I.kIn mk.makes mk.init (beq_iff_eq.mp mk.fn) (codeAny_mono (F.go _ X.stack _ _ ⟨Value.ref (s.heap.objs.size + 1) :: us, []⟩ (Value.ref (s.heap.objs.size + 1) :: us) _ _ _ (by rw [make_guards]; exact K.gd) ((K.cool hh).room.make Ca us [])
    (I2.env0.make Ca us []) b rr hq) fun r s' hq' => ?_))
  cases r with
  | error e => exact passAt K.tk σ pins _ _ e s' I2 hq'
  | ok fl =>
    cases fl with
    | ret u =>
      obtain ⟨v, H', I3, rv, ev, q3⟩ := I2.after hq'
      subst ev
      exact ⟨rv, ⟨V.ref (s.heap.objs.size + 1), H', I3, rfl, q3⟩⟩
    | next => exact False.elim hq'
    | brk => exact False.elim hq'
    | cont => exact False.elim hq'
/-- f(..) -/
theorem se_cal (K : Cok X M C sc n Wx cf) (hh : C.hot = false) {f : Nat} {es : List E} {xs : List Expr} {x : Str} {p pos : Pos} (h1 : isC C.fnm f x = true) (h2 : glB sc x = true) (h3 : okN x = true) (hx : chkEs C es sc xs = true) (ha : PA X xs (tEs (M.g X.K) Wx (evalEs M.W cf M.cx es))) :
    PE X (.Call (.Name x p) xs [] pos) (tE (M.g X.K) Wx (evalE M.W cf M.cx (.cal f es))) := by
  obtain ⟨a, m1, m2⟩ := (K.cool hh).fns.1 f x (isC_ok h1)
  obtain ⟨kp, B⟩ := (K.cool hh).fns.2 f a m2
  refine ⟨fun pins s σ H Q I h => ?_⟩
  obtain ⟨σI, h, as, sl, hi, p⟩ := h
  simp only [evalE] at p
  refine wpAny_Call_Name_kw (ld_glob I (K.gl x h2) m1 ?_ (okN_ok h3).1)
  cases xs with
  | nil =>
    cases es with
    | cons e es => simp [chkEs] at hx
    | nil => exact PySem.W.callWith_K0 I.kIn kp (run_cal (us := []) K hh B I .nil hi (by simp only [Reps]) p)
  | cons y ys =>
    cases es with
    | nil => simp [chkEs] at hx
    | cons e es =>
      simp only [chkEs, Bool.and_eq_true, Bool.not_eq_true'] at hx
      refine PySem.W.callWith_K (h₀ := X.base) I.ok.mod.kin kp (thn (ha.run pos pins s σ H _ I (thens sl hi p)) fun us s1 ⟨vs, H1, I1, r, q⟩ => ⟨I1.kIn, ?_⟩) (star_one hx.1.2 _ _) (chkEs_star hx.2)
      obtain ⟨ds, h1, as1, _, x1, _, i1, rs, p1⟩ := q
      exact run_cal K hh B I1 r i1 rs p1
/-- C(..) -/
theorem se_new (K : Cok X M C sc n Wx cf) (hh : C.hot = false) {c : Nat} {es : List E} {xs : List Expr} {x : Str} {p pos : Pos} (h0 : c ∈ C.nw) (h1 : isC C.cnm c x = true) (h2 : glB sc x = true) (h3 : okN x = true) (hx : chkEs C es sc xs = true) (ha : PA X xs (tEs (M.g X.K) Wx (evalEs M.W cf M.cx es))) :
    PE X (.Call (.Name x p) xs [] pos) (tE (M.g X.K) Wx (evalE M.W cf M.cx (.new c es))) := by
  obtain ⟨ci, f, Ca, a, e1, e2, e3, m1, mk, B⟩ := (K.cool hh).mks c x h0 (isC_ok h1)
  refine ⟨fun pins s σ H Q I h => ?_⟩
  obtain ⟨σI, h, as, sl, hi, p⟩ := h
  simp only [evalE, e1, e2, Option.bind_some] at p
  refine wpAny_Call_Name_kw (ld_glob I (K.gl x h2) m1 ?_ (okN_ok h3).1)
  cases xs with
  | nil =>
    cases es with
    | cons e es => simp [chkEs] at hx
    | nil => exact PySem.W.callWith_K0 I.kIn mk.kp (run_new (us := []) K hh B mk e3 I .nil hi (by simp only [Reps]) p)
  | cons y ys =>
    cases es with
    | nil => simp [chkEs] at hx
    | cons e es =>
      simp only [chkEs, Bool.and_eq_true, Bool.not_eq_true'] at hx
      refine PySem.W.callWith_K (h₀ := X.base) I.ok.mod.kin mk.kp (thn (ha.run pos pins s σ H _ I (thens sl hi p)) fun us s1 ⟨vs, H1, I1, r, q⟩ => ⟨I1.kIn, ?_⟩) (star_one hx.1.2 _ _) (chkEs_star hx.2)
      obtain ⟨ds, h1, as1, _, x1, _, i1, rs, p1⟩ := q
      exact run_new K hh B mk e3 I1 r i1 rs p1
/-- a local's value called -/
theorem se_cav (K : Cok X M C sc n Wx cf) (hh : C.hot = false) {i : Nat} {es : List E} {xs : List Expr} {x : Str} {p pos : Pos} (h1 : isC C.N i x = true) (h2 : visB sc x = true) (h3 : okN x = true) (hx : chkEs C es sc xs = true) (ha : PA X xs (tEs (M.g X.K) Wx (evalEs M.W cf M.cx es))) :
    PE X (.Call (.Name x p) xs [] pos) (tE (M.g X.K) Wx (evalE M.W cf M.cx (.cav i es))) := by
  obtain ⟨d1, d2, _⟩ := okN_ok h3
  refine ⟨fun pins s σ H Q I h => ?_⟩
  obtain ⟨σI, h, as, sl, hi, p⟩ := h
  simp only [evalE] at p
  split at p
  · rename_i f e
    obtain ⟨v, e1, r⟩ := sl.at_ i _ e
    simp only [Rep] at r
    obtain ⟨a, rfl, m2⟩ := r
    obtain ⟨kp, B⟩ := (K.cool hh).fns.2 f a m2
    refine wpAny_Call_Name_kw (thn ((pe_var (pos := _) (by rw [K.N]; exact isC_ok h1) (K.vis x h2) d1 d2).run pins s σ H (fun v H1 => v = .ref a ∧ H1 = H) I ⟨.ref a, e1, rfl, rfl⟩) fun u s1 ⟨v, H1, I1, r1, q1⟩ => ?_)
    obtain ⟨rfl, rfl⟩ := q1
    cases r1
    cases xs with
    | nil =>
      cases es with
      | cons e es => simp [chkEs] at hx
      | nil => exact PySem.W.callWith_K0 I1.kIn kp (run_cal (us := []) K hh B I1 .nil hi (by simp only [Reps]) p)
    | cons y ys =>
      cases es with
      | nil => simp [chkEs] at hx
      | cons e es =>
        simp only [chkEs, Bool.and_eq_true, Bool.not_eq_true'] at hx
        refine PySem.W.callWith_K (h₀ := X.base) I.ok.mod.kin kp (thn (ha.run pos pins s1 σ _ _ I1 (thens sl hi p)) fun us s2 ⟨vs, H2, I2, r, q⟩ => ⟨I2.kIn, ?_⟩) (star_one hx.1.2 _ _) (chkEs_star hx.2)
        obtain ⟨ds, h1, as1, _, x1, _, i1, rs, p1⟩ := q
        exact run_cal K hh B I2 r i1 rs p1
  · exact p.elim
/-- methods of built-in values -/
def mtT : Mt → String
  | .append => "list" | .extend => "list" | .pop => "list" | .insert => "list" | .reverse => "list" | .get => "dict" | .update => "dict" | _ => "str"
def mtN : Mt → String
  | .append => "append" | .extend => "extend" | .pop => "pop" | .insert => "insert" | .reverse => "reverse" | .get => "get" | .update => "update" | .join => "join" | .startswith => "startswith" | .find => "find" | .isalnum => "isalnum"
theorem mtOf_ok {as : List Addr} {H : Hp} {x : V} {d : D} {m : String} {h : Hs} {k : Mt} (hi : HI (M.g X.K) h as H) (r1 : Rep (M.g X.K) as H d x) (e : mtOf d m h = some k) : m = mtN k ∧ tyV X.K (mtT k) x H := by
  cases d with
  | ob nn =>
    simp only [Rep] at r1
    obtain ⟨a, rfl, ea⟩ := r1
    simp only [mtOf] at e
    split at e
    · rename_i xs e1
      obtain ⟨vs, h1, h2⟩ := hi.ob nn _ a e1 ea
      (repeat' split at e) <;> first
        | (cases e; done)
        | (cases e; exact ⟨‹_›, .inl ⟨rfl, vs, SqL.of h1⟩⟩)
    · rename_i kvs e1
      obtain ⟨kv, h1, h2⟩ := hi.ob nn _ a e1 ea
      simp only [lkd, Bool.false_eq_true, if_false] at h1
      split at e
      · cases e
        exact ⟨‹_›, .inr (.inr (.inl ⟨rfl, .inl ⟨_, h1⟩⟩))⟩
      · cases e
    · cases e
  | _ => simp [mtOf] at e
def rMt (M : Mx) (K : PySem.W.Frag) (Wx : WX) (σ : L2.St) (k : Mt) : V → List V → Hp → VK → Prop := fun x xs H Q => ∃ d ds h as, HI (M.g K) h as H ∧ Rep (M.g K) as H d x ∧ Reps (M.g K) as H ds xs ∧ post (M.g K) Wx (Rep (M.g K)) as H σ (methD k d ds h) Q
theorem mt_append8 (σ' : L2.St) : MtR X "list.append" (rMt M X.K Wx σ' .append) := by
  intro pins s σ H x vs v us Q I rx rv hh
  obtain ⟨d, ds, h, as, hi, r1, rs, p⟩ := hh
  simp only [methD] at p
  split at p
  · rename_i nn y
    simp only [Rep] at r1
    obtain ⟨a, rfl, ea⟩ := r1
    obtain ⟨w, _, rfl, r2, rn⟩ := rs.cons_inv
    obtain rfl := rn.nil_inv
    split at p
    · rename_i xs e1
      split at p
      · rename_i hl
        obtain ⟨ws, h1, hr⟩ := hi.ob nn _ a e1 ea
        refine mt_append pins s σ H _ _ v us Q I rx rv ⟨a, ws, w, rfl, rfl, h1, by rw [← hr.length]; exact hl, ?_⟩
        have ex := ext_set (o := HO.lst (ws ++ [w])) ea h1 (fun _ => by intro z; cases z) (fun _ _ => by intro z; cases z)
        refine p _ as _ ex (hi.set ea h1 (fun _ => by intro z; cases z) (fun _ _ => by intro z; cases z) ⟨_, upd_same, (Reps.append hr (Reps.one r2)).mono ex⟩) ?_
        simp only [Rep]
      · exact p.elim
    · exact p.elim
  · exact p.elim
theorem mt_reverse8 (σ' : L2.St) : MtR X "list.reverse" (rMt M X.K Wx σ' .reverse) := by
  intro pins s σ H x vs v us Q I rx rv hh
  obtain ⟨d, ds, h, as, hi, r1, rs, p⟩ := hh
  simp only [methD] at p
  split at p
  · rename_i nn
    simp only [Rep] at r1
    obtain ⟨a, rfl, ea⟩ := r1
    obtain rfl := rs.nil_inv
    split at p
    · rename_i xs e1
      obtain ⟨ws, h1, hr⟩ := hi.ob nn _ a e1 ea
      refine mt_reverse pins s σ H _ _ v us Q I rx rv ⟨a, ws, rfl, rfl, h1, ?_⟩
      have ex := ext_set (o := HO.lst ws.reverse) ea h1 (fun _ => by intro z; cases z) (fun _ _ => by intro z; cases z)
      refine p _ as _ ex (hi.set ea h1 (fun _ => by intro z; cases z) (fun _ _ => by intro z; cases z) ⟨_, upd_same, (Reps.reverse hr).mono ex⟩) ?_
      simp only [Rep]
    · exact p.elim
  · exact p.elim
theorem mt_extend8 (σ' : L2.St) : MtR X "list.extend" (rMt M X.K Wx σ' .extend) := by
  intro pins s σ H x vs v us Q I rx rv hh
  obtain ⟨d, ds, h, as, hi, r1, rs, p⟩ := hh
  simp only [methD] at p
  split at p
  · rename_i nn mm
    simp only [Rep] at r1
    obtain ⟨a, rfl, ea⟩ := r1
    obtain ⟨w, _, rfl, r2, rn⟩ := rs.cons_inv
    obtain rfl := rn.nil_inv
    simp only [Rep] at r2
    obtain ⟨b, rfl, eb⟩ := r2
    split at p
    · rename_i xs ys e1 e2
      split at p
      · rename_i hl
        obtain ⟨ws, h1, hr⟩ := hi.ob nn _ a e1 ea
        obtain ⟨zs, h2, hz⟩ := hi.ob mm _ b e2 eb
        refine mt_extend pins s σ H _ _ v us Q I rx rv ⟨a, b, ws, zs, rfl, rfl, h1, h2, by rw [← hr.length, ← hz.length]; exact hl, ?_⟩
        have ex := ext_set (o := HO.lst (ws ++ zs)) ea h1 (fun _ => by intro z; cases z) (fun _ _ => by intro z; cases z)
        refine p _ as _ ex (hi.set ea h1 (fun _ => by intro z; cases z) (fun _ _ => by intro z; cases z) ⟨_, upd_same, (Reps.append hr hz).mono ex⟩) ?_
        simp only [Rep]
      · exact p.elim
    · exact p.elim
  · exact p.elim
theorem mt_pop8 (σ' : L2.St) : MtR X "list.pop" (rMt M X.K Wx σ' .pop) := by
  intro pins s σ H x vs v us Q I rx rv hh
  obtain ⟨d, ds, h, as, hi, r1, rs, p⟩ := hh
  simp only [methD] at p
  split at p
  · rename_i nn
    simp only [Rep] at r1
    obtain ⟨a, rfl, ea⟩ := r1
    obtain rfl := rs.nil_inv
    split at p
    · rename_i xs e1
      split at p
      · rename_i y ey
        obtain ⟨ws, h1, hr⟩ := hi.ob nn _ a e1 ea
        obtain ⟨w, ew, rw'⟩ := hr.get ey
        refine mt_pop pins s σ H _ _ v us Q I rx rv ⟨a, ws, w, rfl, rfl, h1, by rw [← hr.length]; exact ew, ?_⟩
        have ex := ext_set (o := HO.lst ws.dropLast) ea h1 (fun _ => by intro z; cases z) (fun _ _ => by intro z; cases z)
        refine p _ as _ ex (hi.set ea h1 (fun _ => by intro z; cases z) (fun _ _ => by intro z; cases z) ⟨_, upd_same, ?_⟩) (rw'.mono ex)
        have := (Reps.take (xs.length - 1) hr).mono ex
        rw [← show xs.dropLast = xs.take (xs.length - 1) from List.dropLast_eq_take, ← show ws.dropLast = ws.take (xs.length - 1) from by rw [List.dropLast_eq_take, hr.length]] at this
        exact this
      · exact p.elim
    · exact p.elim
  · exact p.elim
theorem mt_insert8 (σ' : L2.St) : MtR X "list.insert" (rMt M X.K Wx σ' .insert) := by
  intro pins s σ H x vs v us Q I rx rv hh
  obtain ⟨d, ds, h, as, hi, r1, rs, p⟩ := hh
  simp only [methD] at p
  split at p
  · rename_i nn i y
    simp only [Rep] at r1
    obtain ⟨a, rfl, ea⟩ := r1
    obtain ⟨w, _, rfl, r2, rn⟩ := rs.cons_inv
    obtain ⟨w2, _, rfl, r3, rn⟩ := rn.cons_inv
    obtain rfl := rn.nil_inv
    simp only [Rep] at r2
    subst r2
    split at p
    · rename_i xs e1
      split at p
      · rename_i hl
        obtain ⟨ws, h1, hr⟩ := hi.ob nn _ a e1 ea
        refine mt_insert pins s σ H _ _ v us Q I rx rv ⟨a, ws, i, w2, rfl, rfl, h1, by rw [← hr.length]; exact hl.1, hl.2.1, by have := hl.2.2; omega, ?_⟩
        have ex := ext_set (o := HO.lst (ws.take i.toNat ++ [w2] ++ ws.drop i.toNat)) ea h1 (fun _ => by intro z; cases z) (fun _ _ => by intro z; cases z)
        refine p _ as _ ex (hi.set ea h1 (fun _ => by intro z; cases z) (fun _ _ => by intro z; cases z) ⟨_, upd_same, (Reps.append (Reps.append (Reps.take _ hr) (Reps.one r3)) (Reps.drop _ hr)).mono ex⟩) ?_
        simp only [Rep]
      · exact p.elim
    · exact p.elim
  · exact p.elim
theorem RepKV.mrg {G : Gx} {as : List Addr} {H : Hp} : ∀ {ls ks : List (D × D)} {lv kv : List (Key × V)}, RepKV keyK G as H ls lv → RepKV keyK G as H ks kv → RepKV keyK G as H (kvMrg ks ls) (mergeK kv lv)
  | _, _, _, _, .nil, k => k
  | _ :: ls, ks, _ :: lv, kv, .cons h t, k => by
    show RepKV keyK G as H (kvMrg (kvPut ks _ _) ls) (mergeK (putK kv _ _) lv)
    exact RepKV.mrg t (RepKV.put (fun a b => eqv_key a b) h.1 h.2 k)
theorem kvPut_le (ks : List (D × D)) (k v : D) : (kvPut ks k v).length ≤ ks.length + 1 := by
  unfold kvPut; split <;> simp
/-- d.update(e) -/
theorem d_upd {a b : Addr} {ks ls : List (Key × V)} {pins : List (Addr × Obj)} {σ : L2.St} {H : Hp} {s : Shared} {Q : Value → Shared → Prop} {E : Value → Shared → Prop} {A : Around} (I : Inv X pins σ H s) (e1 : H a = some (.dK ks)) (e2 : Rd H b (.dK ls)) (ne : a ≠ b)
    (sz : ks.length + ls.length ≤ sizeLine) (h : ∀ s', Inv X pins σ (upd H a (.dK (mergeK ks ls))) s' → Q .none s') : wpAny (model X.prog X.w) A (call (.builtin "dict.update") [.ref a, .ref b]) Q E s := by
  obtain ⟨z, hd, vs, rel, dd⟩ := dk_of I.hok e1
  obtain ⟨z2, hd2, vs2, rel2, dd2⟩ := dk_rd I.hok e2
  refine call_meetsIn PySem.F.slot_dict_update dd.typeIs PySem.F.entry_dict_update (PySem.F.args_dict_update_2 _ _) (meets_dict_update (mixKind X.prog X.w) a b ne hd2)
    ⟨vs, vs2, dd, dd2, by rw [← rel.length, ← rel2.length]; exact sz, fun g d1 _ hs => h _ ?_⟩
  obtain ⟨q, _, _, hq, _⟩ := id d1
  exact d_write (t' := s.toks) I (by rw [e1]; exact True.intro) hs ⟨q, hq⟩ (dk_new (Nat.le_trans (length_mergeK ls ks) sz) hd (rel2.merge rel) d1)
theorem mt_update8 (σ' : L2.St) : MtR X "dict.update" (rMt M X.K Wx σ' .update) := by
  intro pins s σ H x vs v us Q I rx rv hh
  obtain ⟨d, ds, h, as, hi, r1, rs, p⟩ := hh
  simp only [methD] at p
  split at p
  · rename_i nn mm
    simp only [Rep] at r1
    obtain ⟨a, rfl, ea⟩ := r1
    obtain ⟨w, _, rfl, r2, rn⟩ := rs.cons_inv
    obtain rfl := rn.nil_inv
    simp only [Rep] at r2
    obtain ⟨b, rfl, eb⟩ := r2
    split at p
    · rename_i ks lk ls e1 e2
      split at p
      · rename_i hl
        obtain ⟨kv, h1, hr⟩ := hi.ob nn _ a e1 ea
        obtain ⟨lv, h2, hz⟩ := hi.ob mm _ b e2 eb
        simp only [lkd, Bool.false_eq_true, if_false] at h1
        cases rx
        obtain ⟨u, eu, rx⟩ := vals1 rv
        subst eu
        cases rx
        have hne : a ≠ b := fun q => hl.1 ((List.getElem?_inj (List.getElem?_eq_some_iff.mp ea).1 hi.nd).mp (by rw [ea, eb, q]))
        refine d_upd I h1 h2.rd hne (by rw [← hr.length, ← hz.length]; exact hl.2) fun s' I' => ?_
        have ex := ext_set (o := HO.dK (mergeK kv lv)) ea h1 (fun _ => by intro z; cases z) (fun _ _ => by intro z; cases z)
        refine ⟨.non, _, I', rfl, p _ as _ ex (hi.set ea h1 (fun _ => by intro z; cases z) (fun _ _ => by intro z; cases z) ⟨_, ?_, (RepKV.mrg hz hr).mono ex⟩) (by simp only [Rep])⟩
        simp only [lkd, Bool.false_eq_true, if_false]; exact upd_same
      · exact p.elim
    · exact p.elim
  · exact p.elim
/-- one method's rule, in place -/
structure MtOk (X : Cx) (M : Mx) (Wx : WX) (k : Mt) (id : String) : Prop where
  pa : PlainAttrs (mtT k)
  slot : Slot (mtT k) (Str.ofString (mtN k)) id
  ty : typeOf (.builtin id) = pure (.type "method_descriptor")
  run : ∀ σ, MtR X id (rMt M X.K Wx σ k)
theorem mt_known {d : D} {m : String} {h : Hs} {k : Mt} (e : mtOf d m h = some k) : ∃ id, MtOk X M Wx k id := by
  cases d with
  | ob nn =>
    simp only [mtOf] at e
    split at e
    · (repeat' split at e) <;> first
        | (cases e; done)
        | (cases e; exact ⟨_, PySem.F.plainAttrs_list, PySem.F.slot_list_append, PySem.F.type_list_append, mt_append8⟩)
        | (cases e; exact ⟨_, PySem.F.plainAttrs_list, PySem.F.slot_list_reverse, PySem.F.type_list_reverse, mt_reverse8⟩)
        | (cases e; exact ⟨_, PySem.F.plainAttrs_list, PySem.F.slot_list_extend, PySem.F.type_list_extend, mt_extend8⟩)
        | (cases e; exact ⟨_, PySem.F.plainAttrs_list, PySem.F.slot_list_pop, PySem.F.type_list_pop, mt_pop8⟩)
        | (cases e; exact ⟨_, PySem.F.plainAttrs_list, PySem.F.slot_list_insert, PySem.F.type_list_insert, mt_insert8⟩)
    · split at e
      · cases e
        exact ⟨_, PySem.F.plainAttrs_dict, PySem.F.slot_dict_update, PySem.F.type_dict_update, mt_update8⟩
      · cases e
    · cases e
  | _ => simp [mtOf] at e
theorem se_met (K : Cok X M C sc n Wx cf) (hh : C.hot = false) {o : E} {m : String} {es : List E} {y : Expr} {ap cp : Pos} {xs : List Expr} (ho : SE M X Wx cf o y) (hb : notBare y = true) (hl : (ap.endLine == cp.line) = true) (hx : chkEs C es sc xs = true) (hn : xs.length < 20) (ha : PA X xs (tEs (M.g X.K) Wx (evalEs M.W cf M.cx es))) :
    PE X (.Call (.Attribute y (Str.ofString m) ap) xs [] cp) (tE (M.g X.K) Wx (evalE M.W cf M.cx (.met o m es))) := by
  refine ⟨fun pins s σ H Q I h => ?_⟩
  obtain ⟨σI, h, as, sl, hi, p⟩ := h
  have hform : methodCallForm (xs.length + ([] : List Keyword).length) (backTo cp (starEach xs X.env)) (backToKw cp (keywordEach [] X.env)) = true := by
    unfold methodCallForm
    rw [chkEs_form hx]
    show (true && true && decide (xs.length + 0 + 0 < 30)) = true
    simp; omega
  by_cases hins : ∃ d h1 c fs, evalE M.W cf M.cx o σI h = .ok d h1 ∧ isIns d h1 = some (c, fs)
  · obtain ⟨d, h1, c, fs, e1, e2⟩ := hins
    simp only [evalE] at p
    refine PySem.W.methodCall_KW (pl := (do return (← importBound y X.env).getD true)) (thn (ho.1.run pins s σ H _ I (then1 sl hi p)) fun u s1 ⟨x, H1, I1, rx, q⟩ => ?_) (mcall (bare_ok hb) hform hl)
    obtain ⟨d', h1', as1, e1', x1, sl1, i1, r1, p1⟩ := q
    rw [e1] at e1'; cases e1'
    simp only [e2] at p1
    split at p1
    · rename_i f e3
      split at p1
      · rename_i hno
        cases d with
        | ob mm =>
          have r1' := r1
          simp only [Rep] at r1
          obtain ⟨a, rfl, ea⟩ := r1
          obtain rfl : u = Value.ref a := rx
          simp only [isIns] at e2
          split at e2
          · rename_i c' fs' e4
            cases e2
            obtain ⟨Ca, dx, vs, ec, eo, rf⟩ := i1.ob mm _ a e4 ea
            cases e5 : M.W.cls[c]? with
            | none => rw [e5] at e3; cases e3
            | some ci =>
              rw [e5] at e3
              simp only [Option.bind_some] at e3
              obtain ⟨c1, _, c3⟩ := (K.cool hh).cls c ci e5 Ca ec
              obtain ⟨ma, hm, B⟩ := c3 m f e3
              have hl2 : vs.lookup (Str.ofString m) = none := by
                rcases rf.lookup m with ⟨_, e⟩ | ⟨dd, v, e, _⟩
                · exact e
                · rw [e] at hno; cases hno
              refine getmeth_ok I1 eo c1 hm hl2 ?_
              cases xs with
              | nil =>
                cases es with
                | cons e es => simp [chkEs] at hx
                | nil =>
                  refine PySem.W.callWith_K0 (first := [.ref a]) I1.kIn hm.kp (run_cal (us := [.ref a]) (vs := [.ref a]) K hh B I1 (.cons rfl .nil) i1 (Reps.one r1') ?_)
                  exact p1
              | cons y ys =>
                cases es with
                | nil => simp [chkEs] at hx
                | cons e es =>
                  simp only [chkEs, Bool.and_eq_true, Bool.not_eq_true'] at hx
                  refine PySem.W.callWith_K (first := [.ref a]) (h₀ := X.base) I.ok.mod.kin hm.kp (thn (ha.run cp pins s1 σ H1 _ I1 (thens sl1 i1 p1)) fun us s2 ⟨vs2, H2, I2, r, q2⟩ => ⟨I2.kIn, ?_⟩) (star_one hx.1.2 _ _) (chkEs_star hx.2)
                  obtain ⟨ds, h2, as2, _, x2, _, i2, rs, p2⟩ := q2
                  refine run_cal (us := .ref a :: us) (vs := .ref a :: vs2) K hh B I2 (.cons rfl r) i2 ?_ p2
                  simp only [Reps]
                  exact ⟨_, _, rfl, r1'.mono x2, rs⟩
          · cases e2
        | _ => simp [isIns] at e2
      · exact p1.elim
    · exact p1.elim
  · simp only [evalE] at p
    by_cases hbm : ∃ d h1 k, evalE M.W cf M.cx o σI h = .ok d h1 ∧ isIns d h1 = none ∧ mtOf d m h1 = some k
    · obtain ⟨d, h1, k, e1, e2, e3⟩ := hbm
      obtain ⟨id, mk⟩ := mt_known (X := X) (M := M) (Wx := Wx) e3
      have hmn : m = mtN k := by
        cases d with
        | ob nn =>
          simp only [mtOf] at e3
          split at e3
          · (repeat' split at e3) <;> first
              | (cases e3; done)
              | (cases e3; assumption)
          · split at e3
            · cases e3; assumption
            · cases e3
          · cases e3
        | _ => simp [mtOf] at e3
      subst hmn
      cases xs with
      | nil =>
        cases es with
        | cons e es => simp [chkEs] at hx
        | nil =>
          refine (pe_bm0 mk.pa mk.slot mk.ty (mk.run σ) ho.1 (bare_ok hb) hl).run pins s σ H Q I ?_
          obtain ⟨q1, q2, q3, sl', hi', p'⟩ := then1 sl hi p
          refine ⟨q1, q2, q3, sl', hi', p'.imp ?_⟩
          rintro x H1 ⟨d', h1', as1, e1', x1, sl1, i1, r1, p1⟩
          rw [e1] at e1'; cases e1'
          simp only [e2, e3] at p1
          exact ⟨(mtOf_ok i1 r1 e3).2, d, [], h1, as1, i1, r1, by simp only [Reps], p1⟩
      | cons y ys =>
        cases es with
        | nil => simp [chkEs] at hx
        | cons e es =>
          have hx' := hx
          simp only [chkEs, Bool.and_eq_true, Bool.not_eq_true'] at hx
          have hf2 : ((backTo cp (starEach (y :: ys) X.env)).all (fun x => !x.1) && (backToKw cp (keywordEach [] X.env)).all (fun x => x.1.isSome)
              && decide ((y :: ys).length + ([] : List Keyword).length + (if ([] : List Keyword).isEmpty then 0 else 1) < 30)) = true := by
            rw [chkEs_form hx']
            show (true && true && decide ((y :: ys).length + 0 + 0 < 30)) = true
            have : decide ((y :: ys).length + 0 + 0 < 30) = true := decide_eq_true (by omega)
            rw [this]; rfl
          refine (pe_bm mk.pa mk.slot mk.ty (mk.run σ) ho.1 ha (bare_ok hb) hf2 hl (star_one hx.1.2 _ _) (chkEs_star hx.2)).run pins s σ H Q I ?_
          obtain ⟨q1, q2, q3, sl', hi', p'⟩ := then1 sl hi p
          refine ⟨q1, q2, q3, sl', hi', p'.imp ?_⟩
          rintro x H1 ⟨d', h1', as1, e1', x1, sl1, i1, r1, p1⟩
          rw [e1] at e1'; cases e1'
          simp only [e2, e3] at p1
          refine ⟨(mtOf_ok i1 r1 e3).2, ?_⟩
          obtain ⟨q1, q2, q3, sl', hi', p'⟩ := thens sl1 i1 p1
          refine ⟨q1, q2, q3, sl', hi', p'.imp ?_⟩
          rintro vs H2 ⟨ds, h2, as2, _, x2, _, i2, rs, p2⟩
          exact ⟨d, ds, h2, as2, i2, r1.mono x2, rs, p2⟩
    · -- it comes to no end but by an error in o
      refine PySem.W.methodCall_KW (pl := (do return (← importBound y X.env).getD true)) (thn (ho.1.run pins s σ H _ I (then1 sl hi p)) fun u s1 ⟨x, H1, I1, rx, q⟩ => ?_) (mcall (bare_ok hb) hform hl)
      obtain ⟨d, h1, as1, e1, x1, sl1, i1, r1, p1⟩ := q
      exfalso
      cases e2 : isIns d h1 with
      | some cf' => exact hins ⟨d, h1, cf'.1, cf'.2, e1, e2⟩
      | none =>
        rw [e2] at p1
        simp only at p1
        cases e3 : mtOf d m h1 with
        | none => rw [e3] at p1; exact p1
        | some k => exact hbm ⟨d, h1, k, e1, e2, e3⟩
end
end Rf
end

section
namespace Rf
open PySem PySem.Spec PyProof.Rows L2

/-! ## what is walked -/
def WalkOk (G : Gx) (J : It) (items : List D) (g : Gd) (as0 : List Addr) (H0 : Hp) : Prop :=
  ∀ i h as H, Ext as0 H0 as H → HI G h as H → same g h →
    (items.length ≤ i → J.stop i H) ∧ (∀ d, items[i]? = some d → J.go i H ∧ ∀ x H', J.yld i H x H' → ∃ as', Ext as H as' H' ∧ HI G h as' H' ∧ Rep G as' H' d x)
/-- a dict that this body has locked; H: ahead of it -/
def GdOk (X : Cx) (g : Gd) (as : List Addr) (H : Hp) : Prop := match g with
  | .lock n _ _ => ∃ a, as[n]? = some a ∧ (∀ o u, X.H_0 a ≠ some (.frz o u)) ∧ ∀ o u, H a ≠ some (.frz o u)
  | _ => True
def rW (X : Cx) (M : Mx) : List Addr → Hp → List D × Gd × Hs → It → Prop := fun as H ig J => HI (M.g X.K) ig.2.2 as H ∧ WalkOk (M.g X.K) J ig.1 ig.2.1 as H
/-- the reading of what is walked: the outcome's own heap is forgotten, the items' heap counts -/
def postW (X : Cx) (M : Mx) (Wx : WX) (as : List Addr) (H : Hp) (σ : L2.St) (r : R (List D × Gd × Hs)) (Q : It → Hp → Prop) : Prop :=
  match r with
  | .ok ig _ => ∀ J as' H', Ext as H as' H' → rW X M as' H' ig J → GdOk X ig.2.1 as' H → Q J H'
  | .exc c fs h' => ∀ C dx vs as' H', Ext as H as' H' → HI (M.g X.K) h' as' H' → M.ca c = some C → H' dx = some (.xd vs) → RepF (M.g X.K) as' H' fs vs → Wx (.ref C) (some dx) σ H'
  | .no => False
def tI (X : Cx) (M : Mx) (Wx : WX) (ev : Sg → Hs → R (List D)) (k : Ik) : TI := fun σ H Q => ∃ σI h as, SL (M.g X.K) σI as H σ ∧ HI (M.g X.K) h as H ∧ postW X M Wx as H σ ((ev σI h).bind fun xs h => ofO (itemsI M.W.cons k xs h) h) Q
section
variable {X : Cx} {M : Mx} {C : Ck} {sc : Scope} {n : Nat} {Wx : WX} {cf : CF}
theorem pi_imp {tg e : Expr} {t t' : TI} (h : PI X tg e t) (i : ∀ σ H Q, t' σ H Q → t σ H Q) : PI X tg e t' := ⟨fun pins s σ H Q I q => h.run pins s σ H Q I (i σ H Q q)⟩
theorem RepKV.at {as : List Addr} {H : Hp} : ∀ {kvs : List (D × D)} {kv : List (Key × V)} {i : Nat} {d : D}, RepKV keyK (M.g X.K) as H kvs kv → (kvs.map (·.1))[i]? = some d → ∃ k v, kv[i]? = some (k, v) ∧ Rep (M.g X.K) as H d (kV k)
  | _, _, _, _, .nil, e => by simp at e
  | (a, b) :: kvs, (x, v) :: kv, 0, d, .cons h t, e => by
    simp at e; subst e
    refine ⟨x, v, rfl, ?_⟩
    have e1 := h.1
    simp only at e1
    cases a <;> simp only [keyK, Option.some.injEq, reduceCtorEq] at e1 <;> subst e1 <;> simp only [Rep, kV]
  | (a, b) :: kvs, (x, v) :: kv, i + 1, d, .cons h t, e => by
    simpa using RepKV.at t (by simpa using e)
/-- a locked dict's keys -/
theorem walk_keys {a : Addr} {od : Obj} {kv : List (Key × V)} {kvs : List (D × D)} {as : List Addr} {H : Hp} {m : Nat} {g : Gd} (hl : H a = some (.frz od (.dK kv))) (hk : RepKV keyK (M.g X.K) as H kvs kv) : WalkOk (M.g X.K) (Itk a od kv) (kvs.map (·.1)) g as H := by
  intro i h3 as3 H3 x3 i3 _
  have hl3 := x3.frz _ _ _ hl
  have hk3 := hk.mono x3
  refine ⟨fun hh => ⟨hl3, by rw [List.length_map, hk.length] at hh; exact hh⟩, fun d hd => ?_⟩
  obtain ⟨k, v, e, r⟩ := RepKV.at hk3 hd
  refine ⟨⟨hl3, (List.getElem?_eq_some_iff.mp e).1⟩, ?_⟩
  rintro y H4 ⟨rfl, k', v', e', rfl⟩
  rw [e] at e'; cases e'
  exact ⟨as3, Ext.refl, i3, r⟩
/-- the lock -/
theorem pe_lockd {e : Expr} {t : TE} (h : PE X e t) : PE X e (fun σ H Q => t σ H fun v H1 => ∃ d u, v = .ref d ∧ H1 d = some u ∧ Mut (some u) ∧ ∀ od, (∀ o' u', X.H_0 d ≠ some (.frz o' u')) → Q (.ref d) (upd H1 d (.frz od u))) := by
  refine ⟨fun pins s σ H Q I q => ?_⟩
  refine thn (h.run pins s σ H _ I q) ?_
  rintro v s1 ⟨x, H1, I1, r1, d, u, rfl, e, mu, k⟩
  obtain ⟨od, I2⟩ := I1.lock e mu
  exact ⟨.ref d, _, I2, r1, k od (I1.nofrz e mu)⟩
theorem HI.lock {h : Hs} {as : List Addr} {H : Hp} {m : Nat} {a : Addr} {od : Obj} {kvs : List (D × D)} {kv : List (Key × V)} (hi : HI (M.g X.K) h as H) (ea : as[m]? = some a) (hl : H a = some (.dK kv)) (hk : RepKV keyK (M.g X.K) as H kvs kv) :
    Ext as H as (upd H a (.frz od (.dK kv))) ∧ HI (M.g X.K) (h.set m (.dic true false kvs)) as (upd H a (.frz od (.dK kv))) := by
  have ex := ext_set (o := HO.frz od (.dK kv)) ea hl (fun _ => by intro z; cases z) (fun _ _ => by intro z; cases z)
  refine ⟨ex, hi.set ea hl (fun _ => by intro z; cases z) (fun _ _ => by intro z; cases z) ⟨kv, ?_, hk.mono ex⟩⟩
  simp only [lkd, if_true]
  exact ⟨od, upd_same⟩
/-- an expression's value, walked -/
theorem pi_seq (K : Cok X M C sc n Wx cf) {a : E} {tg x : Expr} (ha : SE M X Wx cf a x) : PI X tg x (tI X M Wx (evalEs M.W cf M.cx [a]) .seq) := by
  refine ⟨fun pins s σ H Q I h => ?_⟩
  obtain ⟨σI, h, as, sl, hi, p⟩ := h
  simp only [evalEs, R.bind_assoc] at p
  -- by what it comes to
  cases e1 : evalE M.W cf M.cx a σI h with
  | no => rw [e1] at p; exact p.elim
  | exc c fs h1 =>
    rw [e1] at p
    refine (pi_tup (tl := tE (M.g X.K) Wx (evalE M.W cf M.cx a)) ha.1).run pins s σ H Q I ⟨σI, h, as, sl, hi, ?_⟩
    rw [e1]; exact p
  | ok d h1 =>
    rw [e1] at p
    simp only [R.bind_ok] at p
    have at1 : ∀ {R' : V → Hp → Prop}, (∀ v as' H', Ext as H as' H' → HI (M.g X.K) h1 as' H' → Rep (M.g X.K) as' H' d v → R' v H') → tE (M.g X.K) Wx (evalE M.W cf M.cx a) σ H R' :=
      fun k => ⟨σI, h, as, sl, hi, by rw [e1]; exact k⟩
    cases d with
    | tup ds =>
      simp only [itemsI, ofO_some] at p
      refine (pi_tup ha.1).run pins s σ H Q I (at1 fun v as' H' x' i' r' => ?_)
      simp only [Rep] at r'
      obtain ⟨a, vs, rfl, h2, hr⟩ := r'
      refine ⟨a, rfl, ⟨vs, SqT.of h2⟩, p _ as' H' x' ⟨i', ?_⟩ trivial⟩
      intro i h3 as3 H3 x3 i3 _
      have sq := SqT.of (K := X.K) (x3.tup _ _ h2)
      refine ⟨fun hl => ⟨vs, sq, by rw [← hr.length]; exact hl⟩, fun d hd => ?_⟩
      obtain ⟨w, e, rw_⟩ := hr.get hd
      refine ⟨⟨vs, w, sq, e⟩, ?_⟩
      rintro y H4 ⟨rfl, hy⟩
      have := hy vs sq
      rw [e] at this; cases this
      exact ⟨as3, Ext.refl, i3, rw_.mono x3⟩
    | con g =>
      simp only [itemsI] at p
      cases e2 : M.W.cons[g]? with
      | none => rw [e2] at p; exact p.elim
      | some ys =>
        rw [e2] at p
        simp only [Option.map_some, ofO_some] at p
        refine (pi_tup ha.1).run pins s σ H Q I (at1 fun v as' H' x' i' r' => ?_)
        simp only [Rep] at r'
        obtain ⟨a, rfl, h2⟩ := r'
        obtain ⟨vs, hv, _⟩ := K.con g ys a e2 h2
        refine ⟨a, rfl, ⟨vs, (hv H' as').1⟩, p _ as' H' x' ⟨i', ?_⟩ trivial⟩
        intro i h3 as3 H3 x3 i3 _
        have sq := (hv H3 as3).1
        have hr := (hv H3 as3).2
        refine ⟨fun hl => ⟨vs, sq, by rw [← hr.length]; exact hl⟩, fun d hd => ?_⟩
        obtain ⟨w, e, rw_⟩ := hr.get hd
        refine ⟨⟨vs, w, sq, e⟩, ?_⟩
        rintro y H4 ⟨rfl, hy⟩
        have := hy vs sq
        rw [e] at this; cases this
        exact ⟨as3, Ext.refl, i3, rw_⟩
    | ob m =>
      have list_ : ∀ {ds : List D} {mo : MO}, (h1[m]? = some (.lst ds) ∧ mo = .lst ds) ∨ (∃ ns : List Int, h1[m]? = some (.scr ns) ∧ ds = ns.map D.int ∧ mo = .scr ns) → postW X M Wx as H σ (.ok (ds, .keep m mo, h1) h1) Q →
          wpAny (model X.prog X.w) X.A (eval x X.env) (fun v s1 => wpAny (model X.prog X.w) X.A (pyIter v) (PIE X pins σ tg Q) X.xe s1) X.xe s := by
        intro ds mo e p
        refine (pi_list ha.1).run pins s σ H Q I (at1 fun v as' H' x' i' r' => ?_)
        simp only [Rep] at r'
        obtain ⟨a, rfl, ea⟩ := r'
        have e' : h1[m]? = some (.lst ds) ∨ ∃ ns : List Int, h1[m]? = some (.scr ns) ∧ ds = ns.map D.int := by
          rcases e with ⟨e, _⟩ | ⟨ns, e, e2, _⟩
          · exact .inl e
          · exact .inr ⟨ns, e, e2⟩
        obtain ⟨vs, sq, hr⟩ := lst_of i' e' ea
        refine ⟨a, rfl, ⟨vs, sq⟩, p _ as' H' x' ⟨i', ?_⟩ trivial⟩
        intro i h3 as3 H3 x3 i3 sm
        have e3 : h3[m]? = some (.lst ds) ∨ ∃ ns : List Int, h3[m]? = some (.scr ns) ∧ ds = ns.map D.int := by
          rcases e with ⟨e, rfl⟩ | ⟨ns, e, e2, rfl⟩
          · exact .inl sm
          · exact .inr ⟨ns, sm, e2⟩
        obtain ⟨vs, sq, hr⟩ := lst_of i3 e3 (x3.pre _ _ ea)
        refine ⟨fun hl => ⟨vs, sq, by rw [← hr.length]; exact hl⟩, fun d hd => ?_⟩
        obtain ⟨w, e, rw_⟩ := hr.get hd
        refine ⟨⟨vs, w, sq, e⟩, ?_⟩
        rintro y H4 ⟨rfl, hy⟩
        have := hy vs sq
        rw [e] at this; cases this
        exact ⟨as3, Ext.refl, i3, rw_⟩
      simp only [itemsI] at p
      split at p
      · rename_i ds e2
        exact list_ (.inl ⟨e2, rfl⟩) p
      · rename_i ns e2
        exact list_ (.inr ⟨ns, e2, rfl, rfl⟩) p
      · rename_i kvs e2
        -- a locked dict
        refine (pi_keys ha.1).run pins s σ H Q I (at1 fun v as' H' x' i' r' => ?_)
        simp only [Rep] at r'
        obtain ⟨a, rfl, ea⟩ := r'
        obtain ⟨kv, hl, hk⟩ := i'.ob m _ a e2 ea
        simp only [lkd, if_true] at hl
        obtain ⟨od, hl⟩ := hl
        exact ⟨a, od, rfl, .inl ⟨kv, hl, p _ as' H' x' ⟨i', walk_keys (m := m) hl hk⟩ trivial⟩⟩
      · rename_i kvs e2
        refine (pi_keys (pe_lockd ha.1)).run pins s σ H Q I (at1 fun v as' H' x' i' r' => ?_)
        simp only [Rep] at r'
        obtain ⟨a, rfl, ea⟩ := r'
        obtain ⟨kv, hl, hk⟩ := i'.ob m _ a e2 ea
        simp only [lkd, Bool.false_eq_true, if_false] at hl
        refine ⟨a, _, rfl, hl, True.intro, fun od nf => ⟨a, od, rfl, .inl ⟨kv, upd_same, ?_⟩⟩⟩
        obtain ⟨ex, i2⟩ := i'.lock (od := od) ea hl hk
        refine p _ as' _ (x'.trans ex) ⟨i2, walk_keys (m := m) upd_same (hk.mono ex)⟩ ?_
        exact ⟨a, ea, nf, fun o u q => by rw [x'.frz _ _ _ q] at hl; cases hl⟩
      · exact p.elim
    | _ => exact p.elim
/-- ranges -/
theorem walk_range {lo : Int} {n : Nat} {as : List Addr} {H : Hp} : WalkOk (M.g X.K) (Itr lo n) ((List.range n).map fun (k : Nat) => D.int (lo + (k : Int))) .none as H := by
  intro i h3 as3 H3 x3 i3 _
  refine ⟨fun hh => (by rw [List.length_map, List.length_range] at hh; exact hh), fun d hd => ?_⟩
  rw [List.getElem?_map] at hd
  obtain ⟨k, hk, rfl⟩ := Option.map_eq_some_iff.mp hd
  have hlt : i < n := by simpa using (List.getElem?_eq_some_iff.mp hk).1
  rw [List.getElem?_range hlt] at hk
  cases hk
  refine ⟨hlt, ?_⟩
  rintro y H4 ⟨rfl, rfl⟩
  exact ⟨as3, Ext.refl, i3, by simp only [Rep]⟩
theorem pi_rng1 (K : Cok X M C sc n Wx cf) {es : List E} {tg x : Expr} {p pos : Pos} (hg : glB sc (Str.ofString "range") = true) (hs : isStar x = false) (ha : PA X [x] (tEs (M.g X.K) Wx (evalEs M.W cf M.cx es))) : PI X tg (.Call (.Name (Str.ofString "range") p) [x] [] pos) (tI X M Wx (evalEs M.W cf M.cx es) .rng1) := by
  refine ⟨fun pins s σ H Q I h => ?_⟩
  obtain ⟨σI, h, as, sl, hi, p⟩ := h
  refine (pi_range1 (K.gl _ hg) (K.bl _ (by decide +kernel)) ha (by rw [star_one hs]; rfl)).run pins s σ H Q I ?_
  refine ⟨σI, h, as, sl, hi, ?_⟩
  cases e1 : evalEs M.W cf M.cx es σI h with
  | no => rw [e1] at p; exact p.elim
  | exc c fs h1 => rw [e1] at p; exact p
  | ok ds h1 =>
    rw [e1] at p
    simp only [R.bind_ok] at p
    intro vs as' H' x' i' r'
    match ds with
    | [] => exact p.elim
    | [d] =>
      obtain ⟨v, _, rfl, r1, rn⟩ := r'.cons_inv
      obtain rfl := rn.nil_inv
      cases d with
      | int j =>
        simp only [Rep] at r1
        subst r1
        simp only [itemsI] at p
        split at p
        · rename_i hj
          refine ⟨j, rfl, hj.1, hj.2, p _ as' H' x' ⟨i', walk_range⟩ trivial⟩
        · exact p.elim
      | _ => exact p.elim
    | d0 :: _ :: _ => cases d0 <;> exact p.elim
theorem pi_rng2 (K : Cok X M C sc n Wx cf) {es : List E} {tg x y : Expr} {p pos : Pos} (hg : glB sc (Str.ofString "range") = true) (hs : isStar x = false) (hs2 : isStar y = false) (ha : PA X [x, y] (tEs (M.g X.K) Wx (evalEs M.W cf M.cx es))) : PI X tg (.Call (.Name (Str.ofString "range") p) [x, y] [] pos) (tI X M Wx (evalEs M.W cf M.cx es) .rng2) := by
  refine ⟨fun pins s σ H Q I h => ?_⟩
  obtain ⟨σI, h, as, sl, hi, p⟩ := h
  refine (pi_range2 (K.gl _ hg) (K.bl _ (by decide +kernel)) ha (by rw [star_one hs, star_one hs2]; rfl) (by rw [star_one hs2]; rfl)).run pins s σ H Q I ?_
  refine ⟨σI, h, as, sl, hi, ?_⟩
  cases e1 : evalEs M.W cf M.cx es σI h with
  | no => rw [e1] at p; exact p.elim
  | exc c fs h1 => rw [e1] at p; exact p
  | ok ds h1 =>
    rw [e1] at p
    simp only [R.bind_ok] at p
    intro vs as' H' x' i' r'
    match ds with
    | [] => exact p.elim
    | [d] => cases d <;> exact p.elim
    | [d, d'] =>
      obtain ⟨v, _, rfl, r1, rn⟩ := r'.cons_inv
      obtain ⟨v', _, rfl, r2, rn⟩ := rn.cons_inv
      obtain rfl := rn.nil_inv
      cases d <;> cases d' <;> try exact p.elim
      simp only [Rep] at r1 r2
      subst r1 r2
      simp only [itemsI] at p
      split at p
      · rename_i i j hj
        refine ⟨_, _, rfl, hj, p _ as' H' x' ⟨i', walk_range⟩ trivial⟩
      · exact p.elim
    | d0 :: d1 :: _ :: _ => cases d0 <;> cases d1 <;> exact p.elim
end
end Rf
end

section
namespace Rf
open PySem PySem.Spec PyProof.Rows L2

section
variable {X : Cx} {M : Mx} {C : Ck} {sc : Scope} {n : Nat} {Wx : WX} {cf : CF} {cx : CXI}
/-! ## targets -/
/-- a target takes a value -/
def gT (G : Gx) (t : Tg) : TG := fun v σ H Q => ∃ σI h as d σ1, SL G σI as H σ ∧ HI G h as H ∧ Rep G as H d v ∧ bindT t d σI = some σ1 ∧ ∀ σ2, SL G σ1 as H σ2 → (∀ i, i ∉ tgIx t → σ2[i]? = σ[i]?) → Q σ2 H
theorem SL.set {G : Gx} {σI : Sg} {as : List Addr} {H : Hp} {σ : L2.St} {i : Nat} {d : D} {v : V} (s : SL G σI as H σ) (r : Rep G as H d v) : SL G (σI.set i (some d)) as H (σ.set i (some v)) := by
  refine ⟨by simp [s.len], fun j d' e => ?_, fun j a he e => ?_⟩
  rotate_left
  · by_cases hj : j = i
    · subst hj
      have hl : j < σI.length := by
        have := (List.getElem?_eq_some_iff.mp e).1
        simpa using this
      rw [List.getElem?_set_self hl] at e
      cases e
    · rw [List.getElem?_set_ne (Ne.symm hj)] at e
      rw [List.getElem?_set_ne (Ne.symm hj)]
      exact s.ex j a he e
  by_cases hj : j = i
  · subst hj
    have hl : j < σI.length := by
      have := (List.getElem?_eq_some_iff.mp e).1
      simpa using this
    rw [List.getElem?_set_self hl] at e
    cases e
    exact ⟨v, by rw [List.getElem?_set_self (by rw [← s.len]; exact hl)], r⟩
  · rw [List.getElem?_set_ne (Ne.symm hj)] at e
    obtain ⟨w, e2, r2⟩ := s.at_ j d' e
    exact ⟨w, by rw [List.getElem?_set_ne (Ne.symm hj)]; exact e2, r2⟩
theorem pg_names (K : Cok X M C sc n Wx cf) : ∀ {is : List Nat} {es : List Expr}, is.length = es.length → ((is.zip es).all fun p => nmB C sc p.1 p.2) = true →
    PGs X es (fun vs σ H Q => vs.length = es.length ∧ Q ((is.zip vs).foldl (fun σ p => σ.set p.1 (some p.2)) σ) H)
  | [], [], _, _ => ⟨fun pins s σ H vs us Q I r h => by
      obtain ⟨e, h⟩ := h
      cases vs with
      | nil => exact pgs_nil.run pins s σ H [] us Q I r ⟨rfl, h⟩
      | cons a b => simp at e⟩
  | [], _ :: _, h, _ => by simp at h
  | _ :: _, [], h, _ => by simp at h
  | i :: is, e :: es, hl, ha => by
    rw [List.zip_cons_cons, List.all_cons, Bool.and_eq_true] at ha
    obtain ⟨h1, h2⟩ := ha
    have ih := pg_names K (by simpa using hl) h2
    cases e <;> simp only [nmB, Bool.false_eq_true] at h1
    · rename_i x pos
      rw [Bool.and_eq_true] at h1
      obtain ⟨l1, l2⟩ := K.loc x h1.2
      have hg : PG X (.Name x pos) (gName i) := pg_name K.nd (by rw [K.N]; exact isC_ok h1.1) l1 l2
      refine ⟨fun pins s σ H vs us Q I r h => ?_⟩
      obtain ⟨e, h⟩ := h
      cases vs with
      | nil => simp at e
      | cons v vr => exact (pgs_cons hg ih).run pins s σ H (v :: vr) us Q I r ⟨v, vr, rfl, by simpa using e, h⟩
theorem names_len {env : Env} : ∀ {is : List Nat} {es : List Expr}, is.length = es.length → ((is.zip es).all fun p => nmB C sc p.1 p.2) = true →
    (assignEach es env).length = es.length ∧ (assignEach es env).findIdx? (·.1) = none
  | [], [], _, _ => ⟨rfl, rfl⟩
  | [], _ :: _, h, _ => by simp at h
  | _ :: _, [], h, _ => by simp at h
  | i :: is, e :: es, hl, ha => by
    rw [List.zip_cons_cons, List.all_cons, Bool.and_eq_true] at ha
    obtain ⟨h1, h2⟩ := ha
    obtain ⟨a, b⟩ := names_len (env := env) (is := is) (es := es) (by simpa using hl) h2
    cases e <;> simp only [nmB, Bool.false_eq_true] at h1
    · rename_i x pos
      have ee : assignEach (Expr.Name x pos :: es) env = (false, assign (.Name x pos) env) :: assignEach es env := rfl
      rw [ee]
      refine ⟨by rw [List.length_cons, List.length_cons, a], ?_⟩
      rw [List.findIdx?_cons]
      simp only [Bool.false_eq_true, if_false, b, Option.map_none]
theorem SL.folds {G : Gx} {as : List Addr} {H : Hp} : ∀ {is : List Nat} {ds : List D} {vs : List V} {σI : Sg} {σ : L2.St}, SL G σI as H σ → Reps G as H ds vs →
    SL G ((is.zip ds).foldl (fun σ p => σ.set p.1 (some p.2)) σI) as H ((is.zip vs).foldl (fun σ p => σ.set p.1 (some p.2)) σ)
  | [], _, _, _, _, s, _ => by simpa using s
  | i :: is, [], _, _, _, s, r => by simp only [Reps] at r; subst r; simpa using s
  | i :: is, d :: ds, _, _, _, s, r => by
    obtain ⟨v, vs, rfl, h1, h2⟩ := r.cons_inv
    rw [List.zip_cons_cons, List.zip_cons_cons, List.foldl_cons, List.foldl_cons]
    exact SL.folds (s.set h1) h2
theorem folds_out {α : Type} {i : Nat} : ∀ {is : List Nat} {vs : List α} {σ : List (Option α)}, i ∉ is → ((is.zip vs).foldl (fun σ p => σ.set p.1 (some p.2)) σ)[i]? = σ[i]?
  | [], _, _, _ => by simp
  | j :: is, [], _, _ => by simp
  | j :: is, v :: vs, σ, h => by
    rw [List.zip_cons_cons, List.foldl_cons, folds_out (fun q => h (List.mem_cons_of_mem _ q)), List.getElem?_set_ne (fun e => h (by rw [← e]; exact List.mem_cons_self))]
theorem pg_tg (K : Cok X M C sc n Wx cf) {t : Tg} {e : Expr} (h : tgB C sc t e = true) : PG X e (gT (M.g X.K) t) := by
  cases t with
  | nm i =>
    cases e <;> simp only [tgB, nmB, Bool.false_eq_true] at h
    rename_i x pos
    rw [Bool.and_eq_true] at h
    obtain ⟨l1, l2⟩ := K.loc x h.2
    refine ⟨fun pins s σ H v u Q I r q => ?_⟩
    obtain ⟨σI, hh, as, d, σ1, sl, hi, rp, eb, k⟩ := q
    simp only [bindT, Option.some.injEq] at eb
    subst eb
    refine (pg_name K.nd (by rw [K.N]; exact isC_ok h.1) l1 l2).run pins s σ H v u Q I r (k _ (sl.set rp) fun j hj => ?_)
    rw [List.getElem?_set_ne]
    intro q
    exact hj (by simp only [tgIx, List.mem_singleton]; exact q.symm)
  | tp is =>
    cases e <;> simp only [tgB, Bool.false_eq_true] at h
    rename_i es k pos
    simp only [Bool.and_eq_true, beq_iff_eq, Bool.not_eq_true'] at h
    obtain ⟨h, hot⟩ := h
    refine ⟨fun pins s σ H v u Q I r q => ?_⟩
    obtain ⟨σI, hh, as, d, σ1, sl, hi, rp, eb, kk⟩ := q
    cases d with
    | tup ds =>
      simp only [bindT] at eb
      split at eb
      · rename_i hl
        cases eb
        simp only [Rep] at rp
        obtain ⟨a, vs, rfl, h1, hr⟩ := rp
        obtain ⟨n1, n2⟩ := names_len (env := X.env) h.1 h.2
        have hvl : vs.length = es.length := by rw [← hr.length, hl, h.1]
        refine (pg_tup (n := es.length) (K.cool hot).calm (pg_names K h.1 h.2) n1 n2).run pins s σ H _ u Q I r ⟨a, vs, rfl, SqT.of h1, hvl, hvl, kk _ (SL.folds sl hr) fun j hj => folds_out hj⟩
      · cases eb
    | _ => simp [bindT] at eb
/-! ## a comprehension's block -/
theorem free_relabel {sc : Scope} : ∀ {names : List (Str × NameKind)} {x : Str}, names.lookup x = some .free →
    (names.map fun (n, k) => if (k == NameKind.free && sc.kind == .function && sc.names.lookup n == some .cell) then (n, NameKind.cell) else (n, k)).lookup x = some .free ∨
    (names.map fun (n, k) => if (k == NameKind.free && sc.kind == .function && sc.names.lookup n == some .cell) then (n, NameKind.cell) else (n, k)).lookup x = some .cell
  | [], _, h => by simp at h
  | (y, k0) :: r, x, h => by
    have ih := @free_relabel sc r x
    show List.lookup x ((if (k0 == NameKind.free && sc.kind == .function && sc.names.lookup y == some .cell) = true then (y, NameKind.cell) else (y, k0)) :: (r.map _)) = _ ∨ List.lookup x ((if (k0 == NameKind.free && sc.kind == .function && sc.names.lookup y == some .cell) = true then (y, NameKind.cell) else (y, k0)) :: (r.map _)) = _
    by_cases hx : x = y
    · subst hx
      rw [List.lookup_cons, beq_self_eq_true] at h
      simp only at h
      cases h
      split
      · exact .inr (by rw [List.lookup_cons, beq_self_eq_true])
      · exact .inl (by rw [List.lookup_cons, beq_self_eq_true])
    · rw [List.lookup_cons, beq_eq_false_iff_ne.mpr hx] at h
      split
      · rw [List.lookup_cons, beq_eq_false_iff_ne.mpr hx]; exact ih h
      · rw [List.lookup_cons, beq_eq_false_iff_ne.mpr hx]; exact ih h
theorem visB_cases {sc : Scope} {x : Str} (h : visB sc x = true) : sc.names.lookup x = some .local ∨ sc.names.lookup x = some .cell ∨ sc.names.lookup x = some .free := by
  simp only [visB, Bool.or_eq_true] at h
  rcases h with (h | h) | h
  · exact .inl (kindB_ok h)
  · exact .inr (.inl (kindB_ok h))
  · exact .inr (.inr (kindB_ok h))
theorem locB_cases {sc : Scope} {x : Str} (h : locB sc x = true) : sc.names.lookup x = some .local ∨ sc.names.lookup x = some .cell := by
  simp only [locB, Bool.or_eq_true] at h
  rcases h with h | h
  · exact .inl (kindB_ok h)
  · exact .inr (kindB_ok h)
theorem Cok.blk (K : Cok X M C sc n Wx cf) (hh : C.hot = false) (s : Shared) (H : Hp) (scope : Scope) (Cc : Addr) (cl : List (Str × Addr)) (fp : List Addr) :
    Cok (X.blk s H scope (compEnvC scope cl Cc X.env) fp) M C scope n (fun _ _ _ _ => False) cf := by
  have look : ∀ (x : Str) k, k ≠ .free → scope.names.lookup x = some k → (compEnvC scope cl Cc X.env).scope.names.lookup x = some k := fun x k hk h => lookup_relS_keep (sc := X.env.scope) hk h
  have lookf : ∀ (x : Str), scope.names.lookup x = some .free → (compEnvC scope cl Cc X.env).scope.names.lookup x = some .free ∨ (compEnvC scope cl Cc X.env).scope.names.lookup x = some .cell := fun x h => free_relabel (sc := X.env.scope) h
  have k := K.cool hh
  refine ⟨fun _ => ⟨k.calm, k.room, k.nex, k.nxd, k.ncx, k.fns, k.cls, k.mks, k.exs, k.exm⟩, fun _ _ _ _ _ q => (by rw [hh] at q; cases q), K.N, K.nd, fun x h => ?_, fun x h => ?_, fun x h => ?_, look, lookf, K.hu, K.gd, takes0, PassesOwn.never, K.con, K.scr, K.glb, K.bl, K.gs, K.gi⟩
  · rcases visB_cases h with e | e | e
    · exact .inl (look x _ (by decide) e)
    · exact .inr (.inl (look x _ (by decide) e))
    · rcases lookf x e with e | e
      · exact .inr (.inr e)
      · exact .inr (.inl e)
  · rcases locB_cases h with e | e
    · exact ⟨.inl (look x _ (by decide) e), .inr (look x _ (by decide) e)⟩
    · refine ⟨.inr (look x _ (by decide) e), .inl ?_⟩
      show (scope.names.lookup x == some .cell) = true
      rw [e]; rfl
  · exact look x _ (by decide) (kindB_ok h)
theorem blk_ok (K : Cok X M C sc n Wx cf) {scope : Scope} {own : List (Str × Nat)} (h : blkC C.N sc scope own = true) : BlkOk X.N X.env.scope scope own := by
  have b := blkOk_by h
  rw [K.N]
  refine ⟨b.kind, b.uniq, b.ix, fun y hy e => ?_, b.own⟩
  rcases b.free y hy e with e | e
  · exact .inl (K.scn _ _ (by decide) e)
  · rcases K.scf _ e with e | e
    · exact .inr e
    · exact .inl e
end
end Rf
end

section
namespace Rf
open PySem PySem.Spec PyProof.Rows L2

section
variable {X : Cx} {M : Mx} {C : Ck} {sc : Scope} {n : Nat} {Wx : WX} {cf : CF}
/-! ## unlocking -/
def unlQ (X : Cx) (g : Gd) (Q : VK) : VK := fun v H => match g with
  | .lock _ _ _ => ∃ d od u, H d = some (.frz od u) ∧ (∀ o' u', X.H_0 d ≠ some (.frz o' u')) ∧ Q v (upd H d u)
  | _ => Q v H
theorem EP.unl {pins : List (Addr × Obj)} {σ : L2.St} {g : Gd} {Q : VK} {u : Value} {s : Shared} (h : EP X pins σ (unlQ X g Q) u s) : EP X pins σ Q u s := by
  obtain ⟨v, H, I, r, q⟩ := h
  cases g with
  | lock n t kvs =>
    obtain ⟨d, od, w, e, nf, q⟩ := q
    exact ⟨v, _, I.unlock e nf, r, q⟩
  | none => exact ⟨v, H, I, r, q⟩
  | keep n mo => exact ⟨v, H, I, r, q⟩
theorem HI.unlock {h : Hs} {as : List Addr} {H : Hp} {m : Nat} {t : Bool} {kvs : List (D × D)} (hi : HI (M.g X.K) h as H) (e : h[m]? = some (.dic true t kvs)) :
    ∃ d od u, as[m]? = some d ∧ H d = some (.frz od u) ∧ HI (M.g X.K) (h.set m (.dic false t kvs)) as (upd H d u) := by
  obtain ⟨d, ed, ob⟩ := hi.get e
  have go : ∀ (od : Obj) (u : HO), H d = some (.frz od u) → ObR (M.g X.K) as (upd H d u) d (.dic false t kvs) → ∃ d od u, as[m]? = some d ∧ H d = some (.frz od u) ∧ HI (M.g X.K) (h.set m (.dic false t kvs)) as (upd H d u) := by
    intro od u hf ob'
    refine ⟨d, od, u, ed, hf, fun dd fs eq => ?_, by simp [hi.len], hi.nd, fun k mo a e1 e2 => ?_⟩
    · obtain ⟨q1, vs, q2, q3⟩ := hi.xd dd fs eq
      have tt : ∀ (a : Addr) (xs : List V), H a = some (.tup xs) → upd H d u a = some (.tup xs) := fun a xs h => tup_upd (fun ys q => by rw [hf] at q; cases q) h
      exact ⟨q1, vs, by rw [upd_ne (fun e => q1 (by rw [e]; exact List.mem_of_getElem? ed))]; exact q2, Paired.mapP q3 fun _ _ z => ⟨z.1, z.2.mono0 (fun _ _ h => h) tt⟩⟩
    by_cases hk : k = m
    · subst hk
      rw [ed] at e2; cases e2
      have hl : k < h.length := (List.getElem?_eq_some_iff.mp e).1
      rw [List.getElem?_set_self hl] at e1; cases e1
      exact ob'
    · rw [List.getElem?_set_ne (Ne.symm hk)] at e1
      refine (hi.ob k mo a e1 e2).mono0 (fun _ _ h => h) (fun a xs h => tup_upd (fun ys q => by rw [hf] at q; cases q) h) (upd_ne fun q => hk ?_)
      subst q
      exact (List.getElem?_inj (List.getElem?_eq_some_iff.mp e2).1 hi.nd).mp (e2.trans ed.symm)
  have tp : ∀ {od : Obj} {u : HO}, H d = some (.frz od u) → ∀ (a : Addr) (xs : List V), H a = some (.tup xs) → upd H d u a = some (.tup xs) := fun hf a xs h => tup_upd (fun ys q => by rw [hf] at q; cases q) h
  cases t with
  | false =>
    obtain ⟨kv, hl, hk⟩ := ob
    simp only [lkd, if_true] at hl
    obtain ⟨od, hl⟩ := hl
    refine go od _ hl ⟨kv, ?_, Paired.mapP hk fun _ _ z => ⟨z.1, z.2.mono0 (fun _ _ h => h) (tp hl)⟩⟩
    simp only [lkd, Bool.false_eq_true, if_false]; exact upd_same
  | true =>
    obtain ⟨kv, hl, hk⟩ := ob
    simp only [lkd, if_true] at hl
    obtain ⟨od, hl⟩ := hl
    refine go od _ hl ⟨kv, ?_, Paired.mapP hk fun _ _ z => ⟨z.1, z.2.mono0 (fun _ _ h => h) (tp hl)⟩⟩
    simp only [lkd, Bool.false_eq_true, if_false]; exact upd_same
/-- from ahead of the lock to behind the unlocking -/
theorem Ext.unlock {as as' : List Addr} {H H' : Hp} {d : Addr} {u : HO} {od : Obj} (x : Ext as H as' H') (hd : d ∈ as') (hf : H' d = some (.frz od u)) (nf : ∀ o w, H d ≠ some (.frz o w)) : Ext as H as' (upd H' d u) :=
  ⟨x.pre, fun a xs h => tup_upd (fun ys q => by rw [hf] at q; cases q) (x.tup a xs h), fun a o w h => by
    rw [upd_ne (show a ≠ d from fun q => nf o w (by rw [← q]; exact h))]; exact x.frz a o w h, fun a o h hn => by rw [upd_ne (show a ≠ d from fun q => hn (by rw [q]; exact hd))]; exact x.out a o h hn, x.fresh⟩
/-- an object that stands already becomes one of ours -/
theorem HI.add {h : Hs} {as : List Addr} {H : Hp} {p : Addr} {xs : List D} {vs : List V} (hi : HI (M.g X.K) h as H) (hp : p ∉ as) (e : H p = some (.lst vs)) (r : Reps (M.g X.K) as H xs vs) : HI (M.g X.K) (h ++ [.lst xs]) (as ++ [p]) H := by
  have pre : ∀ (n : Nat) (a : Addr), as[n]? = some a → (as ++ [p])[n]? = some a := fun n a e => by rw [List.getElem?_append_left (List.getElem?_eq_some_iff.mp e).1]; exact e
  refine ⟨fun dd fs eq => ?_, by simp [hi.len], ?_, fun n mo a e1 e2 => ?_⟩
  · obtain ⟨q1, vs', q2, q3⟩ := hi.xd dd fs eq
    refine ⟨fun q => ?_, vs', q2, Paired.mapP q3 fun _ _ z => ⟨z.1, z.2.mono0 pre (fun _ _ h => h)⟩⟩
    rcases List.mem_append.mp q with q | q
    · exact q1 q
    · rw [List.mem_singleton] at q
      rw [q, e] at q2; cases q2
  · rw [List.nodup_append]
    refine ⟨hi.nd, by simp, fun a ha b hb => ?_⟩
    simp at hb; subst hb
    exact fun e => hp (e ▸ ha)
  · by_cases hn : n < h.length
    · rw [List.getElem?_append_left hn] at e1
      rw [List.getElem?_append_left (by rw [hi.len]; exact hn)] at e2
      exact (hi.ob n mo a e1 e2).mono0 pre (fun _ _ h => h) rfl
    · have hn2 : n = h.length := by
        have := (List.getElem?_eq_some_iff.mp e1).1
        simp at this; omega
      subst hn2
      rw [List.getElem?_append_right (by omega)] at e1
      rw [List.getElem?_append_right (by rw [hi.len]; exact Nat.le_refl _)] at e2
      simp [hi.len] at e1 e2
      subst e1 e2
      exact ⟨vs, e, r.mono0 pre (fun _ _ h => h)⟩
theorem SL.wipe {G : Gx} {as : List Addr} {H : Hp} {σI : Sg} {σ : L2.St} (hx : G.ex = none) (s : SL G σI as H σ) : ∀ own : List Nat, SL G (wipeI σI own) as H (L2.wipe σ own)
  | [] => s
  | v :: vs => by
    have ih := SL.wipe hx s vs
    refine ⟨by simp [wipeI, L2.wipe, ih.len], fun j d e => ?_, fun _ _ q => by rw [hx] at q; cases q⟩
    simp only [wipeI, L2.wipe] at e ⊢
    by_cases hj : j = v
    · subst hj
      have hl : j < (wipeI σI vs).length := by
        have := (List.getElem?_eq_some_iff.mp e).1
        simpa using this
      rw [List.getElem?_set_self hl] at e; cases e
    · rw [List.getElem?_set_ne (Ne.symm hj)] at e ⊢
      exact ih.at_ j d e
theorem wipe_eq {σ σ2 : L2.St} {vs : List Nat} (h : ∀ i, i ∉ vs → σ2[i]? = (L2.wipe σ vs)[i]?) (hl : σ2.length = (L2.wipe σ vs).length) : L2.wipe σ2 vs = L2.wipe σ vs := by
  have in_ : ∀ (σ : L2.St) (i : Nat) (vs : List Nat), i ∈ vs → i < σ.length → (L2.wipe σ vs)[i]? = some none := by
    intro σ i vs
    induction vs with
    | nil => intro h _; cases h
    | cons v vs ih =>
      intro h hl
      unfold L2.wipe
      by_cases hi : i = v
      · subst hi
        rw [List.getElem?_set_self (by rw [wipe_length]; exact hl)]
      · rw [List.getElem?_set_ne (Ne.symm hi)]
        exact ih (by rcases List.mem_cons.mp h with e | e; exact absurd e hi; exact e) hl
  have hl2 : σ2.length = σ.length := by rw [hl, wipe_length]
  refine List.ext_getElem? fun i => ?_
  by_cases hi : i ∈ vs
  · by_cases hb : i < σ.length
    · rw [in_ σ i vs hi hb, in_ σ2 i vs hi (by omega)]
    · rw [List.getElem?_eq_none (by rw [wipe_length]; omega), List.getElem?_eq_none (by rw [wipe_length]; omega)]
  · rw [wipe_out hi, h i hi]
/-- a block's tests -/
def tC (G : Gx) (Wx : WX) (ev : Sg → Hs → R Bool) : TT := fun σ H Q => ∃ σI h as, SL G σI as H σ ∧ HI G h as H ∧ post G Wx rB as H σ (ev σI h) Q
theorem pts_of {ifs : List Expr} {cd : List E} (h : match ifs with | [] => cd = [] | [e] => ∃ c, cd = [c] ∧ SE M X Wx cf c e | _ => False) : PTs X ifs (tC (M.g X.K) Wx (fun σ h => (evalEs M.W cf M.cx cd σ h).bind cdB)) := by
  match ifs with
  | [] =>
    simp only at h
    subst h
    refine ⟨fun pins s σ H Q I q => ?_⟩
    obtain ⟨σI, hh, as, sl, hi, p⟩ := q
    exact pts_nil.run pins s σ H Q I (p true as H Ext.refl hi rfl)
  | [e] =>
    obtain ⟨c, rfl, hc⟩ := h
    refine ⟨fun pins s σ H Q I q => ?_⟩
    obtain ⟨σI, hh, as, sl, hi, p⟩ := q
    refine (pts_one hc.2).run pins s σ H Q I ⟨σI, hh, as, sl, hi, ?_⟩
    simp only [evalEs, R.bind_assoc, R.bind_ok] at p
    exact p
  | _ :: _ :: _ => exact h.elim
theorem lc_tr (K : Cok X M C sc n Wx cf) (hh : C.hot = false) {own : List Nat} {tg : Tg} {k : Ik} {its cd : List E} {el : E} (hown : ∀ i ∈ tgIx tg, i ∈ own) {σ : L2.St} {H : Hp} {Q : VK}
    (h : tE (M.g X.K) Wx (evalE M.W cf M.cx (.lc own tg k its cd el)) σ H Q) :
    ∃ g, tLc (tI X M Wx (evalEs M.W cf M.cx its) k) (gT (M.g X.K) tg) (tC (M.g X.K) (fun _ _ _ _ => False) (fun σ h => (evalEs M.W cf M.cx cd σ h).bind cdB)) (tE (M.g X.K) (fun _ _ _ _ => False) (evalE M.W cf M.cx el)) own σ H (unlQ X g Q) := by
  obtain ⟨σI, h, as, sl, hi, p⟩ := h
  simp only [evalE] at p
  rw [← R.bind_assoc] at p
  cases e0 : ((evalEs M.W cf M.cx its σI h).bind fun xs h => ofO (itemsI M.W.cons k xs h) h) with
  | no => rw [e0] at p; exact p.elim
  | exc c fs h1 =>
    rw [e0] at p
    refine ⟨.none, σI, h, as, sl, hi, ?_⟩
    rw [e0]; exact p
  | ok ig h0 =>
    rw [e0] at p
    obtain ⟨items, g, hg⟩ := ig
    simp only [R.bind_ok] at p
    refine ⟨g, σI, h, as, sl, hi, ?_⟩
    rw [e0]
    rintro J as1 H1 x1 ⟨i1, w1⟩ gd Dd hD
    simp only at i1 w1 gd
    -- the invariant
    generalize hturn : lcTurn (fun d => bindT tg d (wipeI σI own)) (fun σ1 h => (evalEs M.W cf M.cx cd σ1 h).bind cdB) (fun σ1 h => evalE M.W cf M.cx el σ1 h) = turn at p
    refine ⟨fun i m Hc => m = items.length - i ∧ i ≤ items.length ∧ ∃ hc asc acc accV, Ext as1 H1 asc Hc ∧ HI (M.g X.K) hc asc Hc ∧ Dd ∉ asc ∧ Hc Dd = some (.lst accV) ∧ Reps (M.g X.K) asc Hc acc accV ∧
      post (M.g X.K) Wx (Rep (M.g X.K)) as H σ ((lcI g turn (items.drop i) acc hc).bind lcEnd) Q, ⟨items.length, by simp, Nat.zero_le _, hg, as1, [], [], ext_tup hD, i1.other hD, i1.fresh hD, upd_same, by simp only [Reps], p⟩, ?_⟩
    rintro i m Hc ⟨rfl, hile, hc, asc, acc, accV, xc, ic, hDn, eD, ra, pc⟩
    -- the slots
    have slc : SL (M.g X.K) (wipeI σI own) asc Hc (L2.wipe σ own) := ((sl.mono x1).mono xc).wipe (K.cool hh).nex own
    by_cases hlt : i < items.length
    · have hdrop : items.drop i = items[i] :: items.drop (i + 1) := List.drop_eq_getElem_cons hlt
      rw [hdrop] at pc
      simp only [lcI] at pc
      by_cases hs : same g hc
      · rw [if_pos hs] at pc
        obtain ⟨go, yl⟩ := (w1 i hc asc Hc xc ic hs).2 items[i] (by simp [hlt])
        refine .inr ⟨go, fun Hn => items.length - (i + 1) = items.length - (i + 1) ∧ i + 1 ≤ items.length ∧ ∃ hc asc acc accV, Ext as1 H1 asc Hn ∧ HI (M.g X.K) hc asc Hn ∧ Dd ∉ asc ∧ Hn Dd = some (.lst accV) ∧ Reps (M.g X.K) asc Hn acc accV ∧
          post (M.g X.K) Wx (Rep (M.g X.K)) as H σ ((lcI g turn (items.drop (i + 1)) acc hc).bind lcEnd) Q, fun H' q => ⟨items.length - (i + 1), by omega, q⟩, fun x H' y => ?_⟩
        obtain ⟨as', x', i', rx⟩ := yl x H' y
        have hD' : Dd ∉ as' := fun q => by
          have := x'.fresh Dd q hDn
          rw [eD] at this; cases this
        have eD' := x'.out _ _ eD hD'
        have et : turn items[i] hc = ((ofO (bindT tg items[i] (wipeI σI own)) hc).bind fun σ1 h => ((evalEs M.W cf M.cx cd σ1 h).bind cdB).bind fun b h => if b then (evalE M.W cf M.cx el σ1 h).bind fun x h => R.ok (some x) h else R.ok none h).shut := by rw [← hturn]; rfl
        rw [et] at pc
        cases eb : bindT tg items[i] (wipeI σI own) with
        | none => rw [eb] at pc; exact pc.elim
        | some σ1 =>
          rw [eb] at pc
          simp only [ofO_some, R.bind_ok] at pc
          refine ⟨wipeI σI own, hc, as', items[i], σ1, slc.mono x', i', rx, eb, fun σ2 sl2 hout => ⟨wipe_eq (fun j hj => hout j fun q => hj (hown j q)) ?_, ?_⟩⟩
          · rw [← sl2.len, ← slc.len]
            have : ∀ {t : Tg} {d : D} {σ σ1 : Sg}, bindT t d σ = some σ1 → σ1.length = σ.length := by
              intro t d σ σ1 e
              cases t with
              | nm i => simp only [bindT, Option.some.injEq] at e; subst e; simp
              | tp is =>
                cases d with
                | tup ds =>
                  simp only [bindT] at e
                  split at e
                  · cases e
                    have : ∀ (l : List (Nat × D)) (σ : Sg), (l.foldl (fun σ p => σ.set p.1 (some p.2)) σ).length = σ.length := by
                      intro l
                      induction l with
                      | nil => intro σ; rfl
                      | cons a l ih => intro σ; rw [List.foldl_cons, ih, List.length_set]
                    exact this _ _
                  · cases e
                | _ => simp [bindT] at e
            exact this eb
          -- the tests
          cases ec : (evalEs M.W cf M.cx cd σ1 hc).bind cdB with
          | no => rw [ec] at pc; exact pc.elim
          | exc c fs h2 => rw [ec] at pc; exact pc.elim
          | ok b h2 =>
            rw [ec] at pc
            simp only [R.bind_ok] at pc
            refine ⟨σ1, hc, as', sl2, i', ?_⟩
            show post _ _ _ _ _ _ ((evalEs M.W cf M.cx cd σ1 hc).bind cdB) _
            rw [ec]
            rintro b' as2 H2 x2 i2 rfl
            have hD2 : Dd ∉ as2 := fun q => by
              have := x2.fresh Dd q hD'
              rw [eD'] at this; cases this
            have eD2 := x2.out _ _ eD' hD2
            cases b with
            | false =>
              simp only [Bool.false_eq_true, if_false, R.shut_ok, R.bind_ok] at pc ⊢
              refine ⟨trivial, by omega, h2, as2, acc, accV, xc.trans (x'.trans x2), i2, hD2, eD2, (ra.mono x').mono x2, ?_⟩
              exact pc
            | true =>
              simp only [if_true] at pc ⊢
              cases ee : evalE M.W cf M.cx el σ1 h2 with
              | no => rw [ee] at pc; exact pc.elim
              | exc c fs h3 => rw [ee] at pc; exact pc.elim
              | ok d h3 =>
                rw [ee] at pc
                simp only [R.bind_ok, R.shut_ok] at pc
                split at pc
                · rename_i hlen
                  refine ⟨σ1, h2, as2, sl2.mono x2, i2, ?_⟩
                  show post _ _ _ _ _ _ (evalE M.W cf M.cx el σ1 h2) _
                  rw [ee]
                  rintro v as3 H3 x3 i3 rv
                  have hD3 : Dd ∉ as3 := fun q => by
                    have := x3.fresh Dd q hD2
                    rw [eD2] at this; cases this
                  have eD3 := x3.out _ _ eD2 hD3
                  have ra3 := ((ra.mono x').mono x2).mono x3
                  refine ⟨accV, eD3, by rw [← ra3.length]; exact hlen, trivial, by omega, h3, as3, acc ++ [d], accV ++ [v], ?_, ?_, hD3, upd_same, ?_, ?_⟩
                  · -- the list grows: none of ours
                    refine ⟨fun n a e => ((xc.trans (x'.trans x2)).trans x3).pre n a e, fun a xs e => tup_upd (fun ys q => by rw [eD3] at q; cases q) (((xc.trans (x'.trans x2)).trans x3).tup a xs e), fun a o w e => frz_upd (fun ob w q => by rw [eD3] at q; cases q) (((xc.trans (x'.trans x2)).trans x3).frz a o w e), fun a o e hn => ?_, ((xc.trans (x'.trans x2)).trans x3).fresh⟩
                    rw [upd_ne (fun q => by subst q; rw [hD] at e; cases e)]
                    exact ((xc.trans (x'.trans x2)).trans x3).out a o e hn
                  · refine ⟨fun dd fs eq => ?_, i3.len, i3.nd, fun n mo a e1 e2 => (i3.ob n mo a e1 e2).mono0 (fun _ _ h => h) (fun a xs e => tup_upd (fun ys q => by rw [eD3] at q; cases q) e) (upd_ne fun q => hD3 (by subst q; exact List.mem_of_getElem? e2))⟩
                    obtain ⟨q1, vs', q2, q3⟩ := i3.xd dd fs eq
                    exact ⟨q1, vs', by rw [upd_ne (fun e => by rw [e, eD3] at q2; cases q2)]; exact q2, Paired.mapP q3 fun _ _ z => ⟨z.1, z.2.mono0 (fun _ _ h => h) (fun a xs e => tup_upd (fun ys q => by rw [eD3] at q; cases q) e)⟩⟩
                  · exact (Reps.append ra3 (Reps.one rv)).mono0 (fun _ _ h => h) (fun a xs e => tup_upd (fun ys q => by rw [eD3] at q; cases q) e)
                  · exact pc
                · exact pc.elim
      · rw [if_neg hs] at pc; exact pc.elim
    · have hie : i = items.length := by omega
      subst hie
      rw [List.drop_length] at pc
      simp only [lcI] at pc
      by_cases hs : same g hc
      · rw [if_pos hs] at pc
        refine .inl ⟨(w1 _ hc asc Hc xc ic hs).1 (Nat.le_refl _), ?_⟩
        simp only [R.bind_ok, lcEnd] at pc
        have fin : ∀ (h' : Hs) (H' : Hp), endG g hc = h' → HI (M.g X.K) h' asc H' → H' Dd = some (.lst accV) → Reps (M.g X.K) asc H' acc accV → Ext as H asc H' → Q (.ref Dd) H' := by
          intro h' H' e i' eD' ra' x'
          rw [e] at pc
          refine pc _ (asc ++ [Dd]) H' ?_ (i'.add hDn eD' ra') ?_
          · refine ⟨fun n a e => by rw [List.getElem?_append_left (List.getElem?_eq_some_iff.mp (x'.pre n a e)).1]; exact x'.pre n a e, x'.tup, x'.frz, fun a o e hn => x'.out a o e fun q => hn (List.mem_append_left _ q), fun a hm hn => ?_⟩
            rcases List.mem_append.mp hm with hm | hm
            · exact x'.fresh a hm hn
            · rw [List.mem_singleton.mp hm]
              cases e5 : H Dd with
              | none => rfl
              | some o =>
                have q1 : Dd ∉ as1 := i1.fresh hD
                rw [x1.out Dd o e5 q1] at hD; cases hD
          · simp only [Rep]
            exact ⟨Dd, rfl, by rw [← i'.len]; simp⟩
        cases g with
        | none => exact fin _ Hc rfl ic eD ra (x1.trans xc)
        | keep n' mo => exact fin _ Hc rfl ic eD ra (x1.trans xc)
        | lock n' t kvs =>
          obtain ⟨a, ea, nf0, nf⟩ := gd
          obtain ⟨d, od, u, ed, hf, iu⟩ := ic.unlock hs
          obtain rfl : a = d := by
            have := xc.pre _ _ ea
            rw [ed] at this; exact (Option.some.inj this).symm
          have hDd : Dd ≠ a := fun q => hDn (q ▸ List.mem_of_getElem? ed)
          refine ⟨a, od, u, hf, nf0, fin _ _ rfl iu (by rw [upd_ne hDd]; exact eD) (ra.mono0 (fun _ _ h => h) fun b xs e => tup_upd (fun ys q => by rw [hf] at q; cases q) e) ((x1.trans xc).unlock (List.mem_of_getElem? ed) hf nf)⟩
      · rw [if_neg hs] at pc; exact pc.elim
theorem se_lc (K : Cok X M C sc n Wx cf) (hh : C.hot = false) {own : List Nat} {tg : Tg} {k : Ik} {its cd : List E} {el : E} {elt tg' iter : Expr} {ifs : List Expr} {scope : Scope} {pos : Pos}
    (hb : blkC C.N sc scope (ownP C own) = true) (htg : tgB C scope tg tg' = true) (hown : ∀ i ∈ tgIx tg, i ∈ own) (hpi : PI X tg' iter (tI X M Wx (evalEs M.W cf M.cx its) k)) (hset : isSet iter = false)
    (hcd : ∀ {X' : Cx}, X'.K = X.K → Cok X' M C scope n (fun _ _ _ _ => False) cf → PTs X' ifs (tC (M.g X.K) (fun _ _ _ _ => False) (fun σ h => (evalEs M.W cf M.cx cd σ h).bind cdB)))
    (hel : ∀ {X' : Cx}, X'.K = X.K → Cok X' M C scope n (fun _ _ _ _ => False) cf → PE X' elt (tE (M.g X.K) (fun _ _ _ _ => False) (evalE M.W cf M.cx el))) :
    PE X (.ListComp elt [⟨tg', iter, ifs, 0⟩] scope pos) (tE (M.g X.K) Wx (evalE M.W cf M.cx (.lc own tg k its cd el))) := by
  refine ⟨fun pins s σ H Q I h => ?_⟩
  obtain ⟨g, h⟩ := lc_tr K hh hown h
  have hfold : ∀ x, foldedSetIterable iter X.env x = pure x := by
    intro x
    cases iter <;> first | rfl | (simp [isSet] at hset)
  have hvs : (ownP C own).map (·.2) = own := by
    unfold ownP; rw [List.map_map]
    exact (List.map_congr_left fun _ _ => rfl).trans (List.map_id _)
  have rule := pe_lc (pos := pos) (g := gT (M.g X.K) tg) (tt := tC (M.g X.K) (fun _ _ _ _ => False) (fun σ h => (evalEs M.W cf M.cx cd σ h).bind cdB)) (te := tE (M.g X.K) (fun _ _ _ _ => False) (evalE M.W cf M.cx el)) (K.cool hh).calm K.nd hpi (blk_ok K hb)
    (fun s H Cc cl fp => pg_tg (K.blk hh s H scope Cc cl fp) htg) (fun s H Cc cl fp => hcd rfl (K.blk hh s H scope Cc cl fp)) (fun s H Cc cl fp => hel rfl (K.blk hh s H scope Cc cl fp)) hfold
  rw [hvs] at rule
  exact thn (rule.run pins s σ H (unlQ X g Q) I h) fun u s' q => EP.unl q
end
end Rf
end

section
namespace Rf
open PySem PySem.Spec PyProof.Rows L2

section
variable {X : Cx} {M : Mx} {C : Ck} {sc : Scope} {n : Nat} {Wx : WX} {cf : CF}
inductive SL2 (M : Mx) (X : Cx) (Wx : WX) (cf : CF) : List E → List Expr → Prop where
  | nil : SL2 M X Wx cf [] []
  | cons {e x es xs} (h1 : SE M X Wx cf e x ∧ isStar x = false) (h2 : SL2 M X Wx cf es xs) : SL2 M X Wx cf (e :: es) (x :: xs)
def OptE (M : Mx) (X : Cx) (Wx : WX) (cf : CF) (lo : List E) (l : Option Expr) : Prop := match l with | none => lo = [] | some e => ∃ a, lo = [a] ∧ SE M X Wx cf a e
theorem pa_of {es : List E} {xs : List Expr} (h : SL2 M X Wx cf es xs) : PA X xs (tEs (M.g X.K) Wx (evalEs M.W cf M.cx es)) := by
  induction h with
  | nil =>
    refine pa_imp pa_nil ?_
    rintro σ H Q ⟨σI, h, as, sl, hi, p⟩
    exact p [] as H Ext.refl hi (by simp only [Reps])
  | cons h1 h2 ih =>
    rename_i e x es xs
    refine pa_imp (pa_cons h1.1.1 ih (star_one h1.2 _ _)) ?_
    rintro σ H Q ⟨σI, h, as, sl, hi, p⟩
    simp only [evalEs] at p
    obtain ⟨q1, q2, q3, sl', hi', p'⟩ := then1 sl hi p
    refine ⟨q1, q2, q3, sl', hi', p'.imp ?_⟩
    rintro v H1 ⟨d, h1, as1, _, x1, sl1, i1, r1, p1⟩
    obtain ⟨q1, q2, q3, sl', hi', p'⟩ := thens sl1 i1 p1
    refine ⟨q1, q2, q3, sl', hi', p'.imp ?_⟩
    rintro vs H2 ⟨ds, h2, as2, _, x2, sl2, i2, rs, p2⟩
    refine p2 _ as2 H2 Ext.refl i2 ?_
    simp only [Reps]
    exact ⟨v, vs, rfl, r1.mono x2, rs⟩
theorem se_neg {a : E} {x : Expr} {pos : Pos} (ha : SE M X Wx cf a x) : PE X (.UnaryOp .USub x pos) (tE (M.g X.K) Wx (evalE M.W cf M.cx (.neg a))) := by
  refine pe_imp (pe_un un_neg ha.1) ?_
  rintro σ H Q ⟨σI, h, as, sl, hi, p⟩
  simp only [evalE] at p
  obtain ⟨q1, q2, q3, sl', hi', p'⟩ := then1 sl hi p
  refine ⟨q1, q2, q3, sl', hi', p'.imp ?_⟩
  rintro v H1 ⟨d, h1, as1, _, x1, sl1, i1, r1, p1⟩
  cases d with
  | int i =>
    simp only [Rep] at r1; subst r1
    exact ⟨i, rfl, p1 _ as1 H1 Ext.refl i1 (by simp only [Rep])⟩
  | _ => exact p1.elim
def rBlC (M : Mx) (K : PySem.W.Frag) (Wx : WX) (σ : L2.St) (b : Bf) : List V → Hp → VK → Prop := fun xs H Q => ∃ ds h as, HI (M.g K) h as H ∧ Reps (M.g K) as H ds xs ∧ post (M.g K) Wx (Rep (M.g K)) as H σ (bltC M.W b ds h) Q
theorem bl_listC (K : Cok X M C sc n Wx cf) (hh : C.hot = false) (σ' : L2.St) : CallR X (.type "list") (rBlC M X.K Wx σ' .list) := by
  intro pins s σ H xs us Q I r hh
  obtain ⟨ds, h, as, hi, rs, p⟩ := hh
  simp only [bltC] at p
  split at p
  · rename_i g
    obtain ⟨v, _, rfl, r1, rn⟩ := rs.cons_inv
    obtain rfl := rn.nil_inv
    split at p
    · rename_i hg
      subst hg
      simp only [Rep] at r1
      obtain ⟨a, rfl, ha⟩ := r1
      refine call_list_of pins s σ H _ us Q I r ⟨a, _, rfl, .inl (K.scr a ha H), fun q hq => ?_⟩
      refine p _ (as ++ [q]) _ (ext_new hq) (hi.new hq ⟨_, upd_same, Reps.ints⟩) ?_
      simp only [Rep]
      exact ⟨q, rfl, by rw [← hi.len]; simp⟩
    · exact p.elim
  · exact bl_list (K.cool hh).calm σ' pins s σ H xs us Q I r ⟨ds, h, as, hi, rs, p⟩
/-- a built-in function called -/
theorem se_blt (K : Cok X M C sc n Wx cf) (hot : C.hot = false) {b : Bf} {es : List E} {x : Str} {xs : List Expr} {p pos : Pos} {nm : Str} {fl : Bool} (h1 : glB sc x = true) (h2 : okN x = true) (h3 : bfName b = some (nm, fl)) (h4 : x = nm) (h5 : chkEs C es sc xs = true) (h6 : es ≠ []) (h : SL2 M X Wx cf es xs) :
    PE X (.Call (.Name x p) xs [] pos) (tE (M.g X.K) Wx (evalE M.W cf M.cx (.blt b es))) := by
  subst h4
  refine ⟨fun pins s σ H Q I q => ?_⟩
  obtain ⟨σI, hh, as, sl, hi, p⟩ := q
  simp only [evalE] at p
  have tt : tCB (rBlC M X.K Wx σ b) (tEs (M.g X.K) Wx (evalEs M.W cf M.cx es)) σ H Q := by
    obtain ⟨q1, q2, q3, sl', hi', p'⟩ := thens sl hi p
    refine ⟨q1, q2, q3, sl', hi', p'.imp ?_⟩
    rintro vs H1 ⟨ds, h1, as1, _, x1, sl1, i1, r1, p1⟩
    exact ⟨ds, h1, as1, i1, r1, p1⟩
  have pa := pa_of h
  cases xs with
  | nil => cases es with
    | nil => exact absurd rfl h6
    | cons e es => simp [chkEs] at h5
  | cons y ys =>
    cases es with
    | nil => exact absurd rfl h6
    | cons e es =>
      simp only [chkEs, Bool.and_eq_true, Bool.not_eq_true'] at h5
      have st1 := star_one h5.1.2 ys X.env
      have st2 : (backTo pos (starEach ys X.env)).any (·.1) = false := chkEs_star h5.2
      obtain ⟨d1, d2, d3⟩ := okN_ok h2
      have mm := bl_mm (M := M) (Wx := Wx) (K.cool hot).calm σ
      have rr := bl_repr (M := M) (Wx := Wx) K.gd K.hu σ
      cases b <;> simp only [bfName, Option.some.injEq, Prod.mk.injEq, reduceCtorEq] at h3 <;> obtain ⟨rfl, rfl⟩ := h3
      · exact (pe_callB (bl_len σ) (K.gl _ h1) (K.bl _ (by decide +kernel)) (by decide +kernel) pa d3 d1 st1 st2).run pins s σ H Q I tt
      · exact (pe_callB (bl_abs σ) (K.gl _ h1) (K.bl _ (by decide +kernel)) (by decide +kernel) pa d3 d1 st1 st2).run pins s σ H Q I tt
      · exact (pe_callTy (bl_int σ) (K.gl _ h1) (K.bl _ (by decide +kernel)) (by decide +kernel) pa d3 d1 st1 st2).run pins s σ H Q I tt
      · exact (pe_callTy (bl_listC K hot σ) (K.gl _ h1) (K.bl _ (by decide +kernel)) (by decide +kernel) pa d3 d1 st1 st2).run pins s σ H Q I tt
      · exact (pe_callTy (bl_tuple σ) (K.gl _ h1) (K.bl _ (by decide +kernel)) (by decide +kernel) pa d3 d1 st1 st2).run pins s σ H Q I tt
      · exact (pe_callTy (bl_dict σ) (K.gl _ h1) (K.bl _ (by decide +kernel)) (by decide +kernel) pa d3 d1 st1 st2).run pins s σ H Q I tt
      · exact (pe_callB mm.1 (K.gl _ h1) (K.bl _ (by decide +kernel)) (by decide +kernel) pa d3 d1 st1 st2).run pins s σ H Q I tt
      · exact (pe_callB mm.2 (K.gl _ h1) (K.bl _ (by decide +kernel)) (by decide +kernel) pa d3 d1 st1 st2).run pins s σ H Q I tt
      · exact (pe_callB rr (K.gl _ h1) (K.bl _ (by decide +kernel)) (by decide +kernel) pa d3 d1 st1 st2).run pins s σ H Q I tt
theorem se_isi (K : Cok X M C sc n Wx cf) {b : Bf} {T : String} {es : List E} {a : Expr} {p p2 pos : Pos} (h1 : glB sc (Str.ofString "isinstance") = true) (h2 : glB sc (Str.ofString T) = true) (h3 : tyOfB b = some T) (h5 : isStar a = false) (h : SL2 M X Wx cf es [a]) :
    PE X (.Call (.Name (Str.ofString "isinstance") p) [a, .Name (Str.ofString T) p2] [] pos) (tE (M.g X.K) Wx (evalE M.W cf M.cx (.blt b es))) := by
  refine ⟨fun pins s σ H Q I q => ?_⟩
  obtain ⟨σI, hh, as, sl, hi, p⟩ := q
  simp only [evalE] at p
  have hT : PE X (.Name (Str.ofString T) p2) (L2.tC (.ty T)) := by
    cases b <;> simp only [tyOfB, Option.some.injEq, reduceCtorEq] at h3 <;> subst h3
    all_goals exact pe_bltn (K.gl _ h2) (K.bl _ (by decide +kernel)) (by decide +kernel) rfl (by decide +kernel) (by decide +kernel)
  cases h with
  | cons h1' h2' =>
    cases h2'
    rename_i e
    have pa : PA X [a, .Name (Str.ofString T) p2] (tCons (tE (M.g X.K) Wx (evalE M.W cf M.cx e)) (tCons (L2.tC (.ty T)) tNil)) := pa_cons h1'.1.1 (pa_cons hT pa_nil rfl) (star_one h5 _ _)
    refine (pe_callB (bl_is (M := M) (Wx := Wx) h3 σ) (K.gl _ h1) (K.bl _ (by decide +kernel)) (by decide +kernel) pa (by decide +kernel) (by decide +kernel) (star_one h5 _ _) rfl).run pins s σ H Q I ?_
    simp only [evalEs, R.bind_assoc, R.bind_ok] at p
    obtain ⟨q1, q2, q3, sl', hi', p'⟩ := then1 sl hi p
    refine ⟨q1, q2, q3, sl', hi', p'.imp ?_⟩
    rintro v H1 ⟨d, h1, as1, _, x1, sl1, i1, r1, p1⟩
    refine ⟨v, d, h1, as1, rfl, i1, r1, ?_⟩
    cases b <;> first | exact p1 | (simp [tyOfB] at h3)
end
section
variable {M : Mx} {C : Ck} {n : Nat} {cf : CF}
abbrev SEW (M : Mx) (X : Cx) (Wx : WX) (cf : CF) (ie : E) (e : Expr) : Prop := SE M X Wx cf ie e ∧ (∀ op xs pos, e = .BoolOp op xs pos → PW X e (tT (M.g X.K) Wx (evalE M.W cf M.cx ie)))
theorem SEW.of {X : Cx} {Wx : WX} {ie : E} {e : Expr} (h : SE M X Wx cf ie e) (hb : ∀ op xs pos, e ≠ .BoolOp op xs pos) : SEW M X Wx cf ie e := ⟨h, fun op xs pos q => absurd q (hb op xs pos)⟩
mutual
theorem sE : ∀ (ie : E) {X : Cx} {sc : Scope} {Wx : WX} {e : Expr}, chkE C ie sc e = true → Cok X M C sc n Wx cf → SEW M X Wx cf ie e
  | .var i, X, sc, Wx, e, h, K => by
    cases e <;> simp only [chkE, Bool.false_eq_true, Bool.and_eq_true] at h
    have := se_var (pos := by assumption) K h.1.1 h.1.2 h.2
    exact .of ⟨this, mkT this fun _ => rfl⟩ (by intros; simp)
  | .cst d, X, sc, Wx, e, h, K => by
    cases e <;> simp only [chkE, Bool.false_eq_true, Bool.and_eq_true] at h
    have := se_cst (X := X) (M := M) (Wx := Wx) (cf := cf) (pos := by assumption) (k := by assumption) h
    exact .of ⟨this, mkT this fun _ => rfl⟩ (by intros; simp)
  | .glb g, X, sc, Wx, e, h, K => by
    cases e <;> simp only [chkE, Bool.false_eq_true, Bool.and_eq_true] at h
    have := se_glb (pos := by assumption) K h.1.1 h.1.2 h.2
    exact .of ⟨this, mkT this fun _ => rfl⟩ (by intros; simp)
  | .fnv g, X, sc, Wx, e, h, K => by
    cases e <;> simp only [chkE, Bool.false_eq_true, Bool.and_eq_true, Bool.not_eq_true'] at h
    have := se_fnv (pos := by assumption) K h.1 h.2.1.1 h.2.1.2 h.2.2
    exact .of ⟨this, mkT this fun _ => rfl⟩ (by intros; simp)
  | .bin o a b, X, sc, Wx, e, h, K => by
    cases e <;> simp only [chkE, Bool.false_eq_true, Bool.and_eq_true] at h
    have := se_bin (pos := by assumption) K h.1.1 (sE a h.1.2 K).1 (sE b h.2 K).1
    exact .of ⟨this, mkT this fun _ => rfl⟩ (by intros; simp)
  | .neg a, X, sc, Wx, e, h, K => by
    cases e <;> try (simp only [chkE, Bool.false_eq_true] at h; done)
    rename_i op x pos
    cases op <;> simp only [chkE, Bool.false_eq_true] at h
    have := se_neg (pos := pos) (sE a h K).1
    exact .of ⟨this, mkT this fun _ => rfl⟩ (by intros; simp)
  | .cmp o a b, X, sc, Wx, e, h, K => by
    cases e <;> try (simp only [chkE, Bool.false_eq_true] at h; done)
    rename_i l ops rs pos
    match ops, rs with
    | [op], [r] =>
      simp only [chkE, Bool.and_eq_true, Bool.not_eq_true'] at h
      exact .of (se_cmp K h.1.1.1 (sE a h.1.1.2 K).1 (sE b h.1.2 K).1 h.2) (by intros; simp)
    | [], _ => simp [chkE] at h
    | [_], [] => simp [chkE] at h
    | [_], _ :: _ :: _ => simp [chkE] at h
    | _ :: _ :: _, _ => simp [chkE] at h
  | .chn o o' a b c, X, sc, Wx, e, h, K => by
    cases e <;> try (simp only [chkE, Bool.false_eq_true] at h; done)
    rename_i l ops rs pos
    match ops, rs with
    | [op, op'], [m, r] =>
      simp only [chkE, Bool.and_eq_true, Bool.not_eq_true'] at h
      exact .of (se_chn K h.1.1.1.1.1 h.1.1.1.1.2 (sE a h.1.1.1.2 K).1 (sE b h.1.1.2 K).1 (sE c h.1.2 K).1 h.2) (by intros; simp)
    | [], _ => simp [chkE] at h
    | [_], _ => simp [chkE] at h
    | [_, _], [] => simp [chkE] at h
    | [_, _], [_] => simp [chkE] at h
    | [_, _], _ :: _ :: _ :: _ => simp [chkE] at h
    | _ :: _ :: _ :: _, _ => simp [chkE] at h
  | .and a b, X, sc, Wx, e, h, K => by
    cases e <;> try (simp only [chkE, Bool.false_eq_true] at h; done)
    rename_i op xs pos
    cases op <;> try (simp only [chkE, Bool.false_eq_true] at h; done)
    match xs with
    | [] => simp [chkE] at h
    | [_] => simp [chkE] at h
    | [x, y] =>
      simp only [chkE, Bool.and_eq_true] at h
      have hb := (sE b h.2 K).1
      have := se_and (pos := pos) K (sE a h.1 K).1 (pe_one hb.1) (pw_and1 hb.2)
      exact ⟨⟨this.1, this.2.pt⟩, fun _ _ _ _ => this.2⟩
    | x :: y :: z :: r =>
      simp only [chkE, Bool.and_eq_true] at h
      have hb := sE b h.2 K
      have := se_and (pos := pos) K (sE a h.1 K).1 hb.1.1 (hb.2 _ _ _ rfl)
      exact ⟨⟨this.1, this.2.pt⟩, fun _ _ _ _ => this.2⟩
  | .or a b, X, sc, Wx, e, h, K => by
    cases e <;> try (simp only [chkE, Bool.false_eq_true] at h; done)
    rename_i op xs pos
    cases op <;> try (simp only [chkE, Bool.false_eq_true] at h; done)
    match xs with
    | [] => simp [chkE] at h
    | [_] => simp [chkE] at h
    | [x, y] =>
      simp only [chkE, Bool.and_eq_true] at h
      have hb := (sE b h.2 K).1
      have := se_or (pos := pos) K (sE a h.1 K).1 (pe_one hb.1) (pw_or1 hb.2)
      exact ⟨⟨this.1, this.2.pt⟩, fun _ _ _ _ => this.2⟩
    | x :: y :: z :: r =>
      simp only [chkE, Bool.and_eq_true] at h
      have hb := sE b h.2 K
      have := se_or (pos := pos) K (sE a h.1 K).1 hb.1.1 (hb.2 _ _ _ rfl)
      exact ⟨⟨this.1, this.2.pt⟩, fun _ _ _ _ => this.2⟩
  | .not a, X, sc, Wx, e, h, K => by
    cases e <;> try (simp only [chkE, Bool.false_eq_true] at h; done)
    rename_i op x pos
    cases op <;> simp only [chkE, Bool.false_eq_true] at h
    exact .of (se_not K (sE a h K).1) (by intros; simp)
  | .ife c a b, X, sc, Wx, e, h, K => by
    cases e <;> simp only [chkE, Bool.false_eq_true, Bool.and_eq_true] at h
    exact .of (se_ife K (sE c h.1.1 K).1 (sE a h.1.2 K).1 (sE b h.2 K).1) (by intros; simp)
  | .tup es, X, sc, Wx, e, h, K => by
    cases e <;> simp only [chkE, Bool.false_eq_true] at h
    have := se_tup (k := by assumption) (pos := by assumption) (pa_of (sEs es h K))
    exact .of ⟨this, mkT this fun _ => rfl⟩ (by intros; simp)
  | .lst es, X, sc, Wx, e, h, K => by
    cases e <;> simp only [chkE, Bool.false_eq_true] at h
    have := se_lst (pos := by assumption) (pa_of (sEs es h K))
    exact .of ⟨this, mkT this fun _ => rfl⟩ (by intros; simp)
  | .dic t ks vs, X, sc, Wx, e, h, K => by
    cases e <;> try (simp only [chkE, Bool.false_eq_true] at h; done)
    rename_i xs ys pos
    simp only [chkE, Bool.and_eq_true, List.isEmpty_iff] at h
    obtain ⟨⟨⟨rfl, rfl⟩, rfl⟩, rfl⟩ := h
    have := se_dic (X := X) (M := M) (Wx := Wx) (cf := cf) (t := t) (pos := pos)
    exact .of ⟨this, mkT this fun _ => rfl⟩ (by intros; simp)
  | .ix a i, X, sc, Wx, e, h, K => by
    cases e <;> try (simp only [chkE, Bool.false_eq_true] at h; done)
    rename_i x y pos
    simp only [chkE, Bool.and_eq_true, Bool.not_eq_true'] at h
    have := se_ix (pos := pos) K (sE a h.1.1 K).1 (sE i h.1.2 K).1 h.2
    exact .of ⟨this, mkT this fun _ => rfl⟩ (by intros; simp)
  | .slc a lo hi, X, sc, Wx, e, h, K => by
    cases e <;> try (simp only [chkE, Bool.false_eq_true] at h; done)
    rename_i x y pos
    cases y <;> try (simp only [chkE, Bool.false_eq_true] at h; done)
    rename_i l u st p2
    cases st <;> simp only [chkE, Bool.false_eq_true, Bool.and_eq_true] at h
    obtain ⟨⟨h0, h1⟩, h2⟩ := h
    have hl : OptE M X Wx cf lo l := by
      cases l with
      | none => exact List.isEmpty_iff.mp h1
      | some l => cases sEs lo h1 K with
        | cons q1 q2 => cases q2; exact ⟨_, rfl, q1.1⟩
    have hu : OptE M X Wx cf hi u := by
      cases u with
      | none => exact List.isEmpty_iff.mp h2
      | some l => cases sEs hi h2 K with
        | cons q1 q2 => cases q2; exact ⟨_, rfl, q1.1⟩
    have := se_slc (p2 := p2) (pos := pos) K (sE a h0 K).1 hl hu
    exact .of ⟨this, mkT this fun _ => rfl⟩ (by intros; simp)
  | .gst g s, X, sc, Wx, e, h, K => by
    cases e <;> simp only [chkE, Bool.false_eq_true, Bool.and_eq_true] at h
    have := se_gst (pos := by assumption) (n := n) (M := M) (cf := cf) K (of_decide_eq_true h.1.1) h.1.2 h.2
    exact .of ⟨this, mkT this fun _ => rfl⟩ (by intros; simp)
  | .gni g i, X, sc, Wx, e, h, K => by
    cases e <;> simp only [chkE, Bool.false_eq_true, Bool.and_eq_true] at h
    have := se_gni (pos := by assumption) (n := n) (M := M) (cf := cf) K (of_decide_eq_true h.1.1) h.1.2 h.2
    exact .of ⟨this, mkT this fun _ => rfl⟩ (by intros; simp)
  | .back a, X, sc, Wx, e, h, K => by
    unfold chkE at h
    cases eb : backOf e with
    | none => rw [eb] at h; cases h
    | some x =>
    rw [eb] at h
    obtain ⟨k, p1, p2, p3, pos, rfl⟩ := backOf_ok eb
    have := se_back (k := k) (p1 := p1) (p2 := p2) (p3 := p3) (pos := pos) (sE a h K).1
    exact .of ⟨this, mkT this fun _ => rfl⟩ (by intros; simp)
  | .fld a f, X, sc, Wx, e, h, K => by
    cases e <;> try (simp only [chkE, Bool.false_eq_true] at h; done)
    rename_i x g pos
    simp only [chkE, Bool.and_eq_true, decide_eq_true_eq, Bool.not_eq_true'] at h
    obtain ⟨hh, ⟨h1, rfl⟩, h2⟩ := h
    have := se_fld (f := f) (pos := pos) K hh (sE a h1 K).1 h2
    exact .of ⟨this, mkT this fun _ => rfl⟩ (by intros; simp)
  | .cal f es, X, sc, Wx, e, h, K => by
    cases e <;> try (simp only [chkE, Bool.false_eq_true] at h; done)
    rename_i fn xs kw pos
    cases fn <;> try (simp only [chkE, Bool.false_eq_true] at h; done)
    cases kw <;> simp only [chkE, Bool.false_eq_true, Bool.and_eq_true, Bool.not_eq_true'] at h
    obtain ⟨hh, h⟩ := h
    have := se_cal (p := by assumption) (pos := pos) K hh h.1.1.1 h.1.1.2 h.1.2 h.2 (pa_of (sEs es h.2 K))
    exact .of ⟨this, mkT this fun _ => rfl⟩ (by intros; simp)
  | .cav f es, X, sc, Wx, e, h, K => by
    cases e <;> try (simp only [chkE, Bool.false_eq_true] at h; done)
    rename_i fn xs kw pos
    cases fn <;> try (simp only [chkE, Bool.false_eq_true] at h; done)
    cases kw <;> simp only [chkE, Bool.false_eq_true, Bool.and_eq_true, Bool.not_eq_true'] at h
    obtain ⟨hh, h⟩ := h
    have := se_cav (p := by assumption) (pos := pos) K hh h.1.1.1 h.1.1.2 h.1.2 h.2 (pa_of (sEs es h.2 K))
    exact .of ⟨this, mkT this fun _ => rfl⟩ (by intros; simp)
  | .new f es, X, sc, Wx, e, h, K => by
    cases e <;> try (simp only [chkE, Bool.false_eq_true] at h; done)
    rename_i fn xs kw pos
    cases fn <;> try (simp only [chkE, Bool.false_eq_true] at h; done)
    cases kw <;> simp only [chkE, Bool.false_eq_true, Bool.and_eq_true, decide_eq_true_eq, Bool.not_eq_true'] at h
    obtain ⟨hh, h⟩ := h
    have := se_new (p := by assumption) (pos := pos) K hh h.1.1.1.1 h.1.1.1.2 h.1.1.2 h.1.2 h.2 (pa_of (sEs es h.2 K))
    exact .of ⟨this, mkT this fun _ => rfl⟩ (by intros; simp)
  | .met o m es, X, sc, Wx, e, h, K => by
    cases e <;> try (simp only [chkE, Bool.false_eq_true] at h; done)
    rename_i fn xs kw pos
    cases fn <;> try (simp only [chkE, Bool.false_eq_true] at h; done)
    rename_i y g ap
    cases kw <;> simp only [chkE, Bool.false_eq_true, Bool.and_eq_true, decide_eq_true_eq, Bool.not_eq_true'] at h
    obtain ⟨hh, ⟨⟨⟨⟨h1, rfl⟩, h2⟩, h3⟩, h4⟩, h5⟩ := h
    have := se_met (m := m) K hh (sE o h1 K).1 h2 h3 h4 h5 (pa_of (sEs es h4 K))
    exact .of ⟨this, mkT this fun _ => rfl⟩ (by intros; simp)
  | .blt b es, X, sc, Wx, e, h, K => by
    cases e <;> try (simp only [chkE, Bool.false_eq_true] at h; done)
    rename_i fn xs kw pos
    cases fn <;> try (simp only [chkE, Bool.false_eq_true] at h; done)
    rename_i x p
    cases kw <;> simp only [chkE, Bool.false_eq_true, Bool.and_eq_true, Bool.not_eq_true'] at h
    obtain ⟨hh, ⟨h1, h2⟩, h3⟩ := h
    have : PE X (.Call (.Name x p) xs [] pos) (tE (M.g X.K) Wx (evalE M.W cf M.cx (.blt b es))) := by
      cases hb : bfName b with
      | some nf =>
        obtain ⟨nm, fl⟩ := nf
        rw [hb] at h3
        simp only [Bool.and_eq_true, decide_eq_true_eq, Bool.not_eq_true', List.isEmpty_eq_false_iff] at h3
        exact se_blt K hh h1 h2 hb h3.1.1 h3.1.2 h3.2 (sEs es h3.1.2 K)
      | none =>
        rw [hb] at h3
        simp only at h3
        split at h3
        · rename_i T a y p2 hT
          simp only [Bool.and_eq_true, decide_eq_true_eq] at h3
          obtain ⟨⟨⟨⟨rfl, rfl⟩, h4⟩, h5⟩, h6⟩ := h3
          have := sEs es h6 K
          exact se_isi K h1 h4 hT (by cases this with | cons q1 q2 => exact q1.2) this
        · cases h3
    exact .of ⟨this, mkT this fun _ => rfl⟩ (by intros; simp)
  | .lc own tg k its cd el, X, sc, Wx, e, h, K => by
    cases e <;> try (simp only [chkE, Bool.false_eq_true] at h; done)
    rename_i elt gens scope pos
    match gens with
    | [] => simp [chkE] at h
    | _ :: _ :: _ => simp [chkE] at h
    | [⟨tg', iter, ifs, asy⟩] =>
        simp only [chkE, Bool.and_eq_true, Bool.not_eq_true', decide_eq_true_eq, List.all_eq_true] at h
        obtain ⟨⟨⟨⟨⟨⟨⟨⟨⟨hh, rfl⟩, h1⟩, h2⟩, h3⟩, h4⟩, h5⟩, h6⟩, h7⟩, h8⟩ := h
        have hpi : PI X tg' iter (tI X M Wx (evalEs M.W cf M.cx its) k) := by
          cases k <;> simp only [Bool.false_eq_true, Bool.and_eq_true, decide_eq_true_eq] at h8
          · cases sEs its h8.1 K with
            | cons q1 q2 => cases q2; exact pi_seq K q1.1
          · split at h8
            · rename_i p a pos
              simp only [Bool.and_eq_true, decide_eq_true_eq] at h8
              obtain ⟨⟨rfl, h9⟩, h10⟩ := h8
              have := sEs its h10 K
              exact pi_rng1 K h9 (by cases this with | cons q1 q2 => exact q1.2) (pa_of this)
            · cases h8
          · split at h8
            · rename_i p a b pos
              simp only [Bool.and_eq_true, decide_eq_true_eq] at h8
              obtain ⟨⟨rfl, h9⟩, h10⟩ := h8
              have := sEs its h10 K
              exact pi_rng2 K h9 (by cases this with | cons q1 q2 => exact q1.2) (by cases this with | cons q1 q2 => cases q2 with | cons q3 q4 => exact q3.2) (pa_of this)
            · cases h8
        have := se_lc (pos := pos) (scope := scope) K hh h1 h2 h3 hpi h7 (cd := cd) (ifs := ifs) (fun {X'} e K' => by
          rw [← e]
          refine pts_of ?_
          cases sEs cd h4 K' with
          | nil => rfl
          | cons q1 q2 =>
            cases q2 with
            | nil => exact ⟨_, rfl, q1.1⟩
            | cons _ _ => simp at h5) (fun {X'} e K' => by rw [← e]; exact (sE el h6 K').1.1)
        exact .of ⟨this, mkT this fun _ => rfl⟩ (by intros; simp)
  | .exf i f, X, sc, Wx, e, h, K => by
    cases e <;> try (simp only [chkE, Bool.false_eq_true] at h; done)
    rename_i x g pos
    cases x <;> try (simp only [chkE, Bool.false_eq_true] at h; done)
    simp only [chkE, Bool.and_eq_true, decide_eq_true_eq] at h
    obtain ⟨⟨⟨⟨⟨h1, h2⟩, h3⟩, h4⟩, h5⟩, rfl⟩ := h
    have := K.exr i _ f (by assumption) pos h1 h2 (isC_ok h3) (K.vis _ h4) h5
    exact .of ⟨this, mkT this fun _ => rfl⟩ (by intros; simp)
theorem sEs : ∀ (es : List E) {X : Cx} {sc : Scope} {Wx : WX} {xs : List Expr}, chkEs C es sc xs = true → Cok X M C sc n Wx cf → SL2 M X Wx cf es xs
  | [], X, sc, Wx, [], _, _ => .nil
  | e :: es, X, sc, Wx, x :: xs, h, K => by
    simp only [chkEs, Bool.and_eq_true, Bool.not_eq_true'] at h
    exact .cons ⟨(sE e h.1.1 K).1, h.1.2⟩ (sEs es h.2 K)
  | [], X, sc, Wx, _ :: _, h, _ => by simp [chkEs] at h
  | _ :: _, X, sc, Wx, [], h, _ => by simp [chkEs] at h
end
end
end Rf
end

section
set_option maxHeartbeats 2000000
namespace Rf
open PySem PySem.Spec PyProof.Rows L2

/-! ## try with several clauses, with names and without -/
abbrev Cls1 : Type := Value × Option Nat × (Addr → Value → Option Addr → TS)
def endsO (o : Option Nat) (D : Ends) : Ends := match o with
  | none => D
  | some i => ⟨fun s G => D.nx (s.set i none) G, D.rt, fun s G => D.bk (s.set i none) G, fun s G => D.ct (s.set i none) G⟩
def slotO (o : Option Nat) (a : Addr) (σ : L2.St) : L2.St := match o with
  | none => σ
  | some i => σ.set i (some (.ref a))
def wMix (K : PySem.W.Frag) (Wo : WX) (D : Ends) : List Cls1 → WX
  | [] => Wo
  | q :: r => fun cl dx σ G => ∃ t, PySem.W.exmOne K cl q.1 = some t ∧ (t = true → ∀ z, G z = none → q.2.2 z cl dx (endsO q.2.1 D) (slotO q.2.1 z σ) G) ∧ (t = false → wMix K Wo D r cl dx σ G)
def nmOk (X : Cx) : Option Str → Option Nat → Prop
  | none, none => True
  | some y, some i => X.N[i]? = some y ∧ X.env.kindOf y = some .local
  | _, _ => False
inductive HdsX (X : Cx) : List ExceptHandler → List Cls1 → Prop
  | nil : HdsX X [] []
  | cons {x : Str} {c : Value} {ts : Addr → Value → Option Addr → TS} {o : Option Nat} {y : Option Str} {st : Stmt} {sts : List Stmt} {p1 p2 : Pos} {hs : List ExceptHandler} {l : List Cls1} (h1 : Names X x c) (h2 : nmOk X y o)
      (h3 : ∀ (z : Addr) (oz : Obj) (cl : Value) (dx : Option Addr) (ps : List (Addr × Obj)), Zc cl dx oz → (∃ vs, oz.data = .fields vs) → PSs (X.suite z ((z, oz) :: ps)) (st :: sts) (ts z cl dx)) (h4 : HdsX X hs l) :
      HdsX X (.ExceptHandler (some (.Name x p1)) y (st :: sts) p2 :: hs) ((c, o, ts) :: l)
section
variable {X : Cx} {body : List Stmt} {e₀ : ExceptHandler} {es : List ExceptHandler} {l : List Cls1} {pos : Pos} {tb : WX → TS} {Wo : WX}
theorem try_mix (hs : X.stack = X.env :: X.outer) (hf : X.env.frame = some X.env.locals) (nd : X.N.Nodup) (tk : Takes X Wo)
    (hb : ∀ (W : WX) (ps : List (Addr × Obj)) (xe : Value → Shared → Prop), Takes (X.tr ps xe) W → PassesOwn (model X.prog X.w) X.A X.env xe → PSs (X.tr ps xe) body (tb W))
    (hh : HdsX X (e₀ :: es) l) : PS X (.Try body (e₀ :: es) [] [] pos) (fun D σ G => tb (wMix X.K Wo D l) D σ G) := by
  refine ⟨fun pins s₀ σ₀ G₀ D I₀ q₀ => ?_⟩
  have ok := I₀.ok
  have fr : X.A.frames = some (X.env :: X.outer) := ok.frames.trans (congrArg some hs)
  refine wpAny_Try_except ?_
  refine wpAny_mono ((hb (wMix X.K Wo D l) (X.pn ++ pins) (fun e t1 => wpAny (model X.prog X.w) X.A (noteFrame e X.env) (fun _ t2 => wpAny (model X.prog X.w) X.A (setFlight e none) (fun _ t3 =>
    wpAny (model X.prog X.w) X.A (handleBy e X.env (e₀ :: es)) (SP X pins D) X.xe t3) X.xe t2) X.xe t1) (fun u t xx => ?_) PassesOwn.looking).run [] s₀ σ₀ G₀ D (I₀.toTry _) q₀) (fun f t1 w1 => ?_) (fun e t1 w1 => w1)
  · obtain ⟨z, B, sI, ps', σ, G, cl, dx, rfl, J1, nb, up, sky, nz, eo, ag, w⟩ := xx
    have J : Inv X pins σ G sI := J1.ofTry ok
    rw [show (X.tr (X.pn ++ pins) _).stack = X.env :: X.outer from hs] at sky
    show wpAny (model X.prog X.w) X.A (noteFrame (.ref z) X.env) _ _ _
    refine Sky.land Zc.steady fr hf sky fun g3 fl up3 => ?_
    have J3 : Inv X pins σ G { t with heap := g3 } := J.landed nb fl.1 (up.trans up3) eo ag
    obtain ⟨oz, vz, ez, hz, hd⟩ := fl.there
    have far : z ∉ frs (X.env :: X.outer) := fun hm => by
      obtain ⟨_, o', e', hn⟩ := fl.2.2.1.mem hm
      rw [ez] at e'; cases e'
      exact hn _ hd
    have nL : z ≠ X.env.locals := fun q => far (List.mem_filterMap.mpr ⟨X.env, .head _, by rw [hf, q]⟩)
    have nF : z ∉ X.fs := fun hm => by
      obtain ⟨e, me, q⟩ := List.mem_filterMap.mp hm
      exact far (List.mem_filterMap.mpr ⟨e, .tail _ me, q⟩)
    have S3 := J3.suite ez hd nz nL nF
    suffices go : ∀ {es' : List ExceptHandler} {l' : List Cls1}, HdsX X es' l' → wMix X.K Wo D l' cl dx σ G → wpAny (model X.prog X.w) X.A (handleBy (.ref z) X.env es') (SP X pins D) X.xe { t with heap := g3 } from go hh w
    intro es' l' hk
    induction hk with
    | nil =>
      intro w
      refine wpAny_handleBy_nil ?_
      obtain ⟨_, _, _, oe, vs, T, oT, ts', he, _, hd', h1, _⟩ := id fl
      unfold PySem.passOn
      refine wpAny_bind (wpAny_field he hd' h1 ?_)
      rw [if_neg (by simp : ¬ ((Value.ref T == Value.none) = true))]
      have fin : wpAny (model X.prog X.w) X.A (setFlight (.ref z) X.env.frame) (fun _ t4 => wpAny (model X.prog X.w) X.A (throw (.ref z) : Sem Flow) (SP X pins D) X.xe t4) X.xe { t with heap := g3 } := by
        rw [hf]
        refine HandSPX.setFlight_upZ fl fun g4 hg4 up4 => wpAny_throw (tk _ _ ?_)
        exact ⟨z, B, sI, pins, σ, G, cl, dx, rfl, J, nb, (up.trans up3).trans up4, .inr (.inr (hs ▸ hg4)), nz, eo, ag, w⟩
      first
        | exact wpAny_bind (wpAny_pure (wpAny_bind fin))
        | exact wpAny_bind fin
    | @cons x c ts o y st sts p1 p2 hs2 l2 hc hn hsu r ih =>
      intro w
      obtain ⟨t0, ht, yes, no⟩ := w
      refine wpAny_handleBy_cons (codeAny_handlers_test ?_) (by intro q; cases q)
      have LT : PySem.W.Looks (model X.prog X.w) g3 (typeOf (.ref z)) cl := fun _ _ _ _ k q => wpAny_typeOf_ref (k _ _ ez) (hz.1.symm ▸ q)
      have LM := PySem.W.exm_one (M := model X.prog X.w) J3.kIn LT ht
      have look : ∀ {Q : Value → Shared → Prop} {E : Value → Shared → Prop}, Q c { t with heap := g3 } → wpAny (model X.prog X.w) (X.A.mark (some (.ref z))) (eval (.Name x p1) X.env) Q E { t with heap := g3 } := fun {Q E} q => by
        obtain ⟨hg, hdb, hm | ⟨hm, hv, hnn⟩⟩ := hc
        · exact ld_glob (X := X.suite z ((z, oz) :: (X.pn ++ pins))) S3 hg hm q hdb
        · exact ld_blt (X := X.suite z ((z, oz) :: (X.pn ++ pins))) S3 hg hm hv q hnn hdb
      refine look (LM.here ?_)
      cases t0 with
      | false =>
        show wpAny _ X.A (handleBy (.ref z) X.env hs2) _ _ _
        exact ih (no rfl)
      | true =>
        cases o with
        | none =>
          cases y with
          | some _ => exact hn.elim
          | none =>
            refine codeAny_handlers_suite ?_
            refine HandSPX.lands_againZ fl fun g4 fl4 up4 => ?_
            have J4 : Inv X pins σ G { t with heap := g4 } := J.landed nb fl4.1 ((up.trans up3).trans up4) eo ag
            obtain ⟨o4, v4, e4, z4, d4⟩ := fl4.there
            have S4 := J4.suite e4 d4 nz nL nF
            refine wpAny_mono ((hsu z o4 cl dx (X.pn ++ pins) z4 ⟨_, d4⟩).run [] _ _ G _ S4 (yes rfl z nz)) (fun f t6 w6 => ?_) (fun _ _ q => q.elim)
            cases f with
            | ret u =>
              obtain ⟨v6, σ6, G6, S6, r6, q6⟩ := w6
              exact ⟨v6, σ6, G6, S6.unsuite ok, r6, q6⟩
            | _ =>
              obtain ⟨σ6, G6, S6, q6⟩ := w6
              exact ⟨σ6, G6, S6.unsuite ok, q6⟩
        | some i =>
          cases y with
          | none => exact hn.elim
          | some y =>
            obtain ⟨hi, hl⟩ := hn
            refine codeAny_handlers_suite_as ?_
            refine HandSPX.lands_againZ fl fun g4 fl4 up4 => ?_
            have J4 : Inv X pins σ G { t with heap := g4 } := J.landed nb fl4.1 ((up.trans up3).trans up4) eo ag
            obtain ⟨o4, v4, e4, z4, d4⟩ := fl4.there
            have S4 := J4.suite e4 d4 nz nL nF
            refine store_ok (X := X.suite z ((z, o4) :: (X.pn ++ pins))) (v := .ref z) S4 nd hi (.inl hl) rfl (fun t5 S5 => ?_) (.inr hl)
            refine wpAny_mono ((hsu z o4 cl dx (X.pn ++ pins) z4 ⟨_, d4⟩).run [] t5 _ G _ S5 (yes rfl z nz)) (fun f t6 w6 => ?_) (fun _ _ q => q.elim)
            have gone : ∀ {σ6 : L2.St} {G6 : Hp} {Q : Shared → Prop}, Inv (X.suite z ((z, o4) :: (X.pn ++ pins))) [] σ6 G6 t6 → (∀ t7, Inv X pins (σ6.set i none) G6 t7 → Q t7) →
                wpAny (model X.prog X.w) X.A (do bindName X.env y .none; unbindBehindTheSuite X.env y p2) (fun _ t7 => Q t7) X.xe t6 := fun {σ6 G6 Q} S6 hq => gone_ok (S6.unsuite ok) nd hi hl hq
            cases f with
            | ret u =>
              obtain ⟨v6, σ6, G6, S6, r6, q6⟩ := w6
              exact gone S6 fun t7 J7 => ⟨v6, _, G6, J7, r6, q6⟩
            | _ =>
              obtain ⟨σ6, G6, S6, q6⟩ := w6
              exact gone S6 fun t7 J7 => ⟨_, G6, J7, q6⟩
  · cases f with
    | ret u =>
      obtain ⟨v, σ', G', J', r, q⟩ := w1
      exact ⟨v, σ', G', J'.ofTry ok, r, q⟩
    | next =>
      obtain ⟨σ', G', J', q⟩ := w1
      exact wpAny_execs_nil ⟨σ', G', J'.ofTry ok, q⟩
    | _ =>
      obtain ⟨σ', G', J', q⟩ := w1
      exact ⟨σ', G', J'.ofTry ok, q⟩
end
end Rf
end

section
set_option maxHeartbeats 2000000
namespace Rf
open PySem PySem.Spec PyProof.Rows L2

/-! ## the __init__ of an exception -/
def chkI (N : List Str) (sc : Scope) : Nat → List String → List Stmt → Bool
  | _, [], [] => true
  | k, f :: fl, .Assign [.Attribute (.Name x _) g _] (.Name y _) _ :: r => isC N 0 x && visB sc x && okN x && decide (Str.ofString f = g) && isC N (k + 1) y && visB sc y && okN y && chkI N sc (k + 1) fl r
  | _, _, _ => false
theorem chkI_inv {N : List Str} {sc : Scope} {k : Nat} {f : String} {fl : List String} {st : Stmt} {r : List Stmt} (h : chkI N sc k (f :: fl) (st :: r) = true) :
    ∃ x p1 p2 y p3 pos, st = .Assign [.Attribute (.Name x p1) (Str.ofString f) p2] (.Name y p3) pos ∧ isC N 0 x = true ∧ visB sc x = true ∧ okN x = true ∧ isC N (k + 1) y = true ∧ visB sc y = true ∧ okN y = true ∧ chkI N sc (k + 1) fl r = true := by
  unfold chkI at h
  split at h
  · rename_i e1 e2; cases e1
  · rename_i e1 e2
    cases e1
    cases e2
    simp only [Bool.and_eq_true, decide_eq_true_eq] at h
    obtain ⟨⟨⟨⟨⟨⟨⟨h1, h2⟩, h3⟩, rfl⟩, h4⟩, h5⟩, h6⟩, h7⟩ := h
    exact ⟨_, _, _, _, _, _, rfl, h1, h2, h3, h4, h5, h6, h7⟩
  · cases h
section
variable {X : Cx} {Ca : Addr} {sc : Scope}
theorem init_rest (T : OexC X.K Ca) (hv : ∀ x, visB sc x = true → Vis X.env.scope x) : ∀ (fl : List String) (k : Nat) (body : List Stmt), chkI X.N sc k fl body = true → (∀ f ∈ fl, PySem.W.findIn X.K (.ref Ca) (Str.ofString f) = some none) →
    ∃ t, PSs X body t ∧ ∀ (D : Ends) (σ : L2.St) (H : Hp) (a d : Addr) (ws : List V) (done : List (Str × V)), σ[0]? = some (some (.ref a)) → ws.length = fl.length → (∀ (j : Nat) (w : V), ws[j]? = some w → σ[k + 1 + j]? = some (some w)) →
      H a = some (exo a Ca (some d)) → H d = some (exd d done) → done.length + fl.length ≤ 900 → a ≠ d →
      (∀ H2 : Hp, H2 a = some (exo a Ca (some d)) → H2 d = some (exd d (((fl.map Str.ofString).zip ws).reverse ++ done)) → (∀ b, b ≠ a → b ≠ d → H2 b = H b) → D.nx σ H2) → t D σ H
  | [], k, [], _, _ => ⟨_, pss_nil, fun D σ H a d ws done h0 hl hw h1 h2 h3 ne q => q H h1 (by simpa using h2) (fun _ _ _ => rfl)⟩
  | [], k, _ :: _, h, _ => by simp [chkI] at h
  | f :: fl, k, [], h, _ => by simp [chkI] at h
  | f :: fl, k, st :: r, h, hf => by
    · obtain ⟨x, p1, p2, y, p3, pos, rfl, h1, h2, h3, h4, h5, h6, h7⟩ := chkI_inv h
      obtain ⟨t, ht, rt⟩ := init_rest T hv fl (k + 1) r h7 (fun z hz => hf z (List.mem_cons_of_mem _ hz))
      obtain ⟨a1, a2, _⟩ := okN_ok h3
      obtain ⟨b1, b2, _⟩ := okN_ok h6
      refine ⟨_, pss_cons (ps_ost (pe_var (pos := p1) (isC_ok h1) (hv x h2) a1 a2) (pe_var (pos := p3) (isC_ok h4) (hv y h5) b1 b2)) ht, ?_⟩
      intro D σ H a d ws done h0 hl hw ha hd hn ne q
      cases ws with
      | nil => simp at hl
      | cons w ws =>
        refine ⟨w, by simpa using hw 0 w rfl, .ref a, h0, a, Ca, rfl, T, hf f List.mem_cons_self, .inr ⟨d, done, ha, hd, by simp at hn; omega, ?_⟩⟩
        refine rt D σ _ a d ws ((Str.ofString f, w) :: done) h0 (by simpa using hl) (fun j v e => by have := hw (j + 1) v (by simpa using e); rw [show k + 1 + (j + 1) = k + 1 + 1 + j by omega] at this; exact this)
          (by rw [upd_ne ne]; exact ha) upd_same (by simp at hn ⊢; omega) ne fun H2 g1 g2 g3 => q H2 g1 (by rw [g2]; simp) fun b hb hb2 => by rw [g3 b hb hb2, upd_ne hb2]
theorem init_first (T : OexC X.K Ca) (hv : ∀ x, visB sc x = true → Vis X.env.scope x) : ∀ (fl : List String) (body : List Stmt), 0 < fl.length → fl.length ≤ 900 → chkI X.N sc 0 fl body = true → (∀ f ∈ fl, PySem.W.findIn X.K (.ref Ca) (Str.ofString f) = some none) →
    ∃ t, PSs X body t ∧ ∀ (D : Ends) (σ : L2.St) (H : Hp) (a : Addr) (ws : List V), σ[0]? = some (some (.ref a)) → ws.length = fl.length → (∀ (j : Nat) (w : V), ws[j]? = some w → σ[1 + j]? = some (some w)) →
      H a = some (exo a Ca none) →
      (∀ (d : Addr) (H2 : Hp), H d = none → d ≠ a → H2 a = some (exo a Ca (some d)) → H2 d = some (exd d ((fl.map Str.ofString).zip ws).reverse) → (∀ b, b ≠ a → b ≠ d → H2 b = H b) → D.nx σ H2) → t D σ H
  | [], _, h, _, _, _ => by simp at h
  | f :: fl, [], _, _, h, _ => by simp [chkI] at h
  | f :: fl, st :: r, _, hn, h, hf => by
    · obtain ⟨x, p1, p2, y, p3, pos, rfl, h1, h2, h3, h4, h5, h6, h7⟩ := chkI_inv h
      obtain ⟨t, ht, rt⟩ := init_rest T hv fl 1 r h7 (fun z hz => hf z (List.mem_cons_of_mem _ hz))
      obtain ⟨a1, a2, _⟩ := okN_ok h3
      obtain ⟨b1, b2, _⟩ := okN_ok h6
      refine ⟨_, pss_cons (ps_ost (pe_var (pos := p1) (isC_ok h1) (hv x h2) a1 a2) (pe_var (pos := p3) (isC_ok h4) (hv y h5) b1 b2)) ht, ?_⟩
      intro D σ H a ws h0 hl hw ha q
      cases ws with
      | nil => simp at hl
      | cons w ws =>
        refine ⟨w, by simpa using hw 0 w rfl, .ref a, h0, a, Ca, rfl, T, hf f List.mem_cons_self, .inl ⟨ha, fun d hd ne => ?_⟩⟩
        refine rt D σ _ a d ws [(Str.ofString f, w)] h0 (by simpa using hl) (fun j v e => by have := hw (j + 1) v (by simpa using e); rw [show 1 + (j + 1) = 1 + 1 + j by omega] at this; exact this)
          upd_same (by rw [upd_ne ne, upd_same]) (by simp at hn ⊢; omega) (Ne.symm ne) fun H2 g1 g2 g3 => q d H2 hd ne g1 (by rw [g2]; simp) fun b hb hb2 => by rw [g3 b hb hb2, upd_ne hb, upd_ne hb2]
end
theorem init_ok {P : Program} {w : World} {K : PySem.W.Frag} {mg : Str → Option Value} {base : Heap} {x qual : Str} {params : Arguments} {body : List Stmt} {scope : Scope} {fI Ca : Addr} {fd : FuncData} {N ps : List Str} {fl : List String}
    (F : FunD K x qual params body scope [] [] fI fd) (S : FnScope N ps scope) (T : OexC K Ca) (h0 : 0 < fl.length) (h9 : fl.length ≤ 900) (hc : chkI N scope 0 fl body = true) (hl : ps.length = fl.length + 1) (hN : N = ps) (hf : ∀ f ∈ fl, PySem.W.findIn K (.ref Ca) (Str.ofString f) = some none) :
    FnOk P w K mg base CX0 1 fI fd ps (spX Ca fl) := by
  refine F.ok S (fun vs H Q E h => ?_) (fun cdv A outer s H vs Q E hr hsp => ?_)
  · obtain ⟨a, ws, rfl, h1, _⟩ := h
    rw [hl, List.length_cons, h1]
  · obtain ⟨a, ws, rfl, h1, ha, q⟩ := hsp
    obtain ⟨t, ht, rt⟩ := init_first (X := cxOf CX0 P w K mg base N qual scope fI cdv A outer s H E) (sc := scope) T (fun x hx => visB_cases hx) fl body h0 h9 hc hf
    refine ⟨t, ht, rt _ _ H a ws ?_ h1 (fun j v e => ?_) ha fun d H2 hd ne g1 g2 g3 => q d H2 hd ne g1 g2 g3⟩
    · unfold L2.start; simp
    · unfold L2.start
      have hj : j < ws.length := (List.getElem?_eq_some_iff.mp e).1
      rw [List.getElem?_append_left (by simp; omega), List.getElem?_map, show 1 + j = j + 1 by omega, List.getElem?_cons_succ, e]; rfl
end Rf
end

section
namespace Rf
open PySem PySem.Spec PyProof.Rows L2

/-! ## statements -/
def isCompr : Expr → Bool
  | .ListComp _ _ _ _ => true | .SetComp _ _ _ _ => true | .DictComp _ _ _ _ _ => true | _ => false
theorem sw_no {e : Expr} (h : isCompr e = false) (t : Option Expr) (l : Nat) (env : Env) : swapsWith e t l env = pure false := by
  cases e <;> first | rfl | (simp [isCompr] at h)
theorem sw_at {e o i : Expr} {p : Pos} (l : Nat) (env : Env) : swapsWith e (some (.Subscript o i p)) l env = pure false := by
  cases e <;> rfl
theorem sw_fld {e o : Expr} {f : Str} {p : Pos} (l : Nat) (env : Env) : swapsWith e (some (.Attribute o f p)) l env = pure false := by
  cases e <;> rfl
/-- the name's line is not the comprehension's -/
def apartB (p : Pos) (v : Expr) : Bool := !(p.line == v.pos.line)
theorem sw_apart {e : Expr} {y : Str} {p : Pos} (h : apartB p e = true) (l : Nat) (env : Env) : swapsWith e (some (.Name y p)) l env = pure false := by
  unfold apartB at h
  have h' : (p.line == e.pos.line) = false := by simpa using h
  cases e <;> first | rfl | (unfold swapsWith; simp only [h']; simp; rfl) | (unfold swapsWith; simp only [h']; simp)
def isTupE : Expr → Bool
  | .Tuple _ _ _ => true | _ => false
theorem ss_no {tg e : Expr} {env : Env} (h : isTupE e = false) : swappedStores [tg] e env = pure none := by
  cases tg <;> cases e <;> first | rfl | (simp [isTupE] at h)
/-- .. or it is: the name is a local of the def, none of the comprehension's own -/
def hereB (C : Ck) (sc : Scope) (y : Str) (p : Pos) : Expr → Bool
  | .ListComp _ [_] scope pos => !C.hot && kindB sc y .local && (p.line == pos.line) && !(scope.names.any fun (n, k) => n == y && (k == .local || k == .cell))
  | _ => false
/-- the walk's part -/
def walkB (C : Ck) (sc : Scope) (k : Ik) (its : List E) (iter : Expr) : Bool := !isSet iter && (match k with
  | .seq => chkEs C its sc [iter] && decide (its.length = 1)
  | .rng1 => (match iter with | .Call (.Name x _) [a] [] _ => decide (x = Str.ofString "range") && glB sc x && chkEs C its sc [a] | _ => false)
  | .rng2 => (match iter with | .Call (.Name x _) [a, b] [] _ => decide (x = Str.ofString "range") && glB sc x && chkEs C its sc [a, b] | _ => false)
  | _ => false)
def isStr : Expr → Bool
  | .Constant (.str _) _ _ => true | _ => false
mutual
def chkS (C : Ck) (sc : Scope) : S → Stmt → Bool
  | .set i e, .Assign [.Name x p] v _ => isC C.N i x && locB sc x && chkE C e sc v && (!isCompr v || apartB p v || hereB C sc x p v)
  | .setT is e, .Assign [.Tuple es k p] v _ => tgB C sc (.tp is) (.Tuple es k p) && chkE C e sc v && !isTupE v
  | .put o i e, .Assign [.Subscript x y _] v _ => chkE C o sc x && chkE C i sc y && chkE C e sc v
  | .fset o f e, .Assign [.Attribute x g _] v _ => !C.hot && chkE C o sc x && decide (Str.ofString f = g) && chkE C e sc v
  | .aug i o e, .AugAssign (.Name x _) op v _ => isC C.N i x && locB sc x && opB o op && chkE C e sc v
  | .faug a f o e, .AugAssign (.Attribute x g _) op v _ => !C.hot && chkE C a sc x && decide (Str.ofString f = g) && opB o op && chkE C e sc v
  | .expr e, .Expr v _ => chkE C e sc v && !isCompr v
  | .ret e, .Return (some v) _ => chkE C e sc v
  | .retN, .Return none _ => true
  | .ife c a b, .If t x y _ => chkE C c sc t && chkB C sc a x && chkB C sc b y
  | .whl c b, .While t x [] _ => chkE C c sc t && chkB C sc b x
  | .for_ tg k its b, .For tg' iter x [] _ => !C.hot && tgB C sc tg tg' && walkB C sc k its iter && chkB C sc b x
  | .raise c es, .Raise (some (.Call (.Name x _) (y :: xs) [] _)) none _ => !C.hot && decide (c ∈ C.xr) && isC C.cnm c x && glB sc x && okN x && chkEs C es sc (y :: xs)
  | .try_ b hs, .Try x hds [] [] _ => !C.hot && chkB C sc b x && !hds.isEmpty && chkH C sc hs hds
  | .brk, .Break _ => true
  | .cnt, .Continue _ => true
  | .pass, .Pass _ => true
  | .pass, .Expr v _ => isStr v
  | .stuck, _ => true
  | _, _ => false
def chkB (C : Ck) (sc : Scope) : List S → List Stmt → Bool
  | [], [] => true
  | s :: ss, st :: sts => chkS C sc s st && chkB C sc ss sts
  | _, _ => false
def chkH (C : Ck) (sc : Scope) : List (Nat × Option Nat × List S) → List ExceptHandler → Bool
  | [], [] => true
  | (k, o, b) :: r, .ExceptHandler (some (.Name x _)) y (st :: sts) _ :: hds => decide (k ∈ C.xc) && isC C.cnm k x && glB sc x && okN x &&
      (match o, y with | none, none => true | some i, some y => isC C.N i y && kindB sc y .local | _, _ => false) && chkB { C with hot := true, exn := o } sc b (st :: sts) && chkH C sc r hds
  | _, _ => false
end

def postS (G : Gx) (Wx : WX) (as : List Addr) (H : Hp) (r : RS) (D : Ends) : Prop := match r with
  | .ok (.nx σI) h => ∀ as' H' σ', Ext as H as' H' → HI G h as' H' → SL G σI as' H' σ' → D.nx σ' H'
  | .ok (.bk σI) h => ∀ as' H' σ', Ext as H as' H' → HI G h as' H' → SL G σI as' H' σ' → D.bk σ' H'
  | .ok (.ct σI) h => ∀ as' H' σ', Ext as H as' H' → HI G h as' H' → SL G σI as' H' σ' → D.ct σ' H'
  | .ok (.rt d) h => ∀ as' H' v, Ext as H as' H' → HI G h as' H' → Rep G as' H' d v → D.rt v H'
  | .exc c fs σI h => ∀ C dx vs as' H' σ', Ext as H as' H' → HI G h as' H' → G.ca c = some C → H' dx = some (.xd vs) → RepF G as' H' fs vs → SL G σI as' H' σ' → Wx (.ref C) (some dx) σ' H'
  | .no => False
def tS (G : Gx) (Wx : WX) (ev : Sg → Hs → RS) : TS := fun D σ H => ∃ σI h as, SL G σI as H σ ∧ HI G h as H ∧ postS G Wx as H (ev σI h) D
section
variable {G : Gx} {Wx : WX} {as as' : List Addr} {H H' : Hp} {σ : L2.St} {r : RS} {Ds : Ends} {α β : Type} {Rl : List Addr → Hp → α → β → Prop}
theorem postS.mono (x : Ext as H as' H') (p : postS G Wx as H r Ds) : postS G Wx as' H' r Ds := by
  match r with
  | .ok (.nx _) h => exact fun _ _ _ e => p _ _ _ (x.trans e)
  | .ok (.bk _) h => exact fun _ _ _ e => p _ _ _ (x.trans e)
  | .ok (.ct _) h => exact fun _ _ _ e => p _ _ _ (x.trans e)
  | .ok (.rt _) h => exact fun _ _ _ e => p _ _ _ (x.trans e)
  | .exc c fs σI h => exact fun _ _ _ _ _ _ e => p _ _ _ _ _ _ (x.trans e)
  | .no => exact p
theorem postS.stm {q : R α} {σI : Sg} {f : α → Hs → RS} (sl : SL G σI as H σ) (p : postS G Wx as H (q.stm σI f) Ds) :
    post G Wx Rl as H σ q fun v H1 => ∃ d h1 as1, q = .ok d h1 ∧ Ext as H as1 H1 ∧ SL G σI as1 H1 σ ∧ HI G h1 as1 H1 ∧ Rl as1 H1 d v ∧ postS G Wx as1 H1 (f d h1) Ds := by
  cases q with
  | ok d h => exact fun v as2 H2 e i r => ⟨d, h, as2, rfl, e, sl.mono e, i, r, p.mono e⟩
  | exc c fs h => exact fun C dx vs as2 H2 e i k1 k2 k3 => p C dx vs as2 H2 σ e i k1 k2 k3 (sl.mono e)
  | no => exact p
theorem stm1 {ev : Sg → Hs → R D} {f : D → Hs → RS} {σI : Sg} {h : Hs} {Ds : Ends} (sl : SL G σI as H σ) (hi : HI G h as H) (p : postS G Wx as H ((ev σI h).stm σI f) Ds) :
    tE G Wx ev σ H fun x H1 => ∃ d h1 as1, ev σI h = .ok d h1 ∧ Ext as H as1 H1 ∧ SL G σI as1 H1 σ ∧ HI G h1 as1 H1 ∧ Rep G as1 H1 d x ∧ postS G Wx as1 H1 (f d h1) Ds :=
  ⟨σI, h, as, sl, hi, p.stm (Rl := Rep G) sl⟩
theorem stmT {ev : Sg → Hs → R D} {f : Bool → Hs → RS} {σI : Sg} {h : Hs} {Ds : Ends} (sl : SL G σI as H σ) (hi : HI G h as H) (p : postS G Wx as H (((ev σI h).bind truthR).stm σI f) Ds) :
    tT G Wx ev σ H fun x H1 => ∃ h1 as1, Ext as H as1 H1 ∧ SL G σI as1 H1 σ ∧ HI G h1 as1 H1 ∧ postS G Wx as1 H1 (f x h1) Ds :=
  ⟨σI, h, as, sl, hi, (p.stm (Rl := rB) sl).imp fun v H1 ⟨d, h1, as1, _, x, s, i, e, q⟩ => ⟨h1, as1, x, s, i, e ▸ q⟩⟩
theorem R.stm_bind {γ : Type} (q : R α) (f : α → Hs → R γ) (σI : Sg) (g : γ → Hs → RS) : (q.stm σI fun x h => (f x h).stm σI g) = (q.bind f).stm σI g := by
  cases q <;> rfl
end
section
variable {X : Cx} {M : Mx} {C : Ck} {sc : Scope} {n : Nat} {Wx : WX} {cf : CF}
theorem ps_imp {st : Stmt} {t t' : TS} (h : PS X st t) (i : ∀ D σ H, t' D σ H → t D σ H) : PS X st t' := ⟨fun pins s σ H D I q => h.run pins s σ H D I (i D σ H q)⟩
theorem pss_imp {st : List Stmt} {t t' : TS} (h : PSs X st t) (i : ∀ D σ H, t' D σ H → t D σ H) : PSs X st t' := ⟨fun pins s σ H D I q => h.run pins s σ H D I (i D σ H q)⟩
theorem walk_ok (K : Cok X M C sc n Wx cf) {k : Ik} {its : List E} {tg' iter : Expr} (h : walkB C sc k its iter = true) : PI X tg' iter (tI X M Wx (evalEs M.W cf M.cx its) k) ∧ isSet iter = false := by
  simp only [walkB, Bool.and_eq_true, Bool.not_eq_true'] at h
  refine ⟨?_, h.1⟩
  obtain ⟨_, h8⟩ := h
  cases k <;> simp only [Bool.false_eq_true, Bool.and_eq_true, decide_eq_true_eq] at h8
  · cases sEs its h8.1 K with
    | cons q1 q2 => cases q2; exact pi_seq K q1.1
  · split at h8
    · rename_i p a pos
      simp only [Bool.and_eq_true, decide_eq_true_eq] at h8
      obtain ⟨⟨rfl, h9⟩, h10⟩ := h8
      have := sEs its h10 K
      exact pi_rng1 K h9 (by cases this with | cons q1 q2 => exact q1.2) (pa_of this)
    · cases h8
  · split at h8
    · rename_i p a b pos
      simp only [Bool.and_eq_true, decide_eq_true_eq] at h8
      obtain ⟨⟨rfl, h9⟩, h10⟩ := h8
      have := sEs its h10 K
      exact pi_rng2 K h9 (by cases this with | cons q1 q2 => exact q1.2) (by cases this with | cons q1 q2 => cases q2 with | cons q3 q4 => exact q3.2) (pa_of this)
    · cases h8
abbrev SS (M : Mx) (X : Cx) (Wx : WX) (L : Nat) (cf : CF) (s : S) (st : Stmt) : Prop := PS X st (tS (M.g X.K) Wx (evalS M.W L cf M.cx s))
abbrev SB (M : Mx) (X : Cx) (Wx : WX) (L : Nat) (cf : CF) (s : List S) (st : List Stmt) : Prop := PSs X st (tS (M.g X.K) Wx (evalB M.W L cf M.cx s))
variable {L : Nat}
theorem ss_set (K : Cok X M C sc n Wx cf) {i : Nat} {e : E} {x : Str} {v : Expr} {p pos : Pos} (h1 : isC C.N i x = true) (h2 : locB sc x = true) (he : SE M X Wx cf e v) (hs : (!isCompr v || apartB p v) = true) : SS M X Wx L cf (.set i e) (.Assign [.Name x p] v pos) := by
  have sw : swapsWith v (some (.Name x p)) pos.line X.env = pure false := by
    cases hv : isCompr v with
    | false => exact sw_no hv _ _ _
    | true => rw [hv] at hs; exact sw_apart hs _ _
  refine ps_imp (ps_set K.nd (by rw [K.N]; exact isC_ok h1) (K.loc x h2).1 he.1 sw (K.loc x h2).2) ?_
  rintro D σ H ⟨σI, h, as, sl, hi, p⟩
  simp only [evalS] at p
  obtain ⟨q1, q2, q3, sl', hi', p'⟩ := stm1 sl hi p
  refine ⟨q1, q2, q3, sl', hi', p'.imp ?_⟩
  rintro w H1 ⟨d, h1, as1, _, x1, sl1, i1, r1, p1⟩
  exact p1 as1 H1 _ Ext.refl i1 (sl1.set r1)
theorem ss_setT (K : Cok X M C sc n Wx cf) {is : List Nat} {e : E} {es : List Expr} {k : Nat} {v : Expr} {p pos : Pos} (h1 : tgB C sc (.tp is) (.Tuple es k p) = true) (he : SE M X Wx cf e v) (hs : isTupE v = false) : SS M X Wx L cf (.setT is e) (.Assign [.Tuple es k p] v pos) := by
  refine ps_imp (ps_asg he.1 (pg_tg K h1) (by cases v <;> rfl) (ss_no hs) (by rfl)) ?_
  rintro D σ H ⟨σI, h, as, sl, hi, p⟩
  simp only [evalS] at p
  obtain ⟨q1, q2, q3, sl', hi', p'⟩ := stm1 sl hi p
  refine ⟨q1, q2, q3, sl', hi', p'.imp ?_⟩
  rintro w H1 ⟨d, h1, as1, _, x1, sl1, i1, r1, p1⟩
  split at p1
  · rename_i σ1 e1
    exact ⟨σI, h1, as1, d, σ1, sl1, i1, r1, e1, fun σ2 s2 _ => p1 as1 H1 σ2 Ext.refl i1 s2⟩
  · exact p1.elim
theorem ss_put (K : Cok X M C sc n Wx cf) {o i e : E} {x y v : Expr} {p pos : Pos} (ho : SE M X Wx cf o x) (hi : SE M X Wx cf i y) (he : SE M X Wx cf e v) : SS M X Wx L cf (.put o i e) (.Assign [.Subscript x y p] v pos) := by
  refine ⟨fun pins s σ H D I h => ?_⟩
  obtain ⟨σI, h, as, sl, hh, p⟩ := h
  simp only [evalS] at p
  refine wpAny_Assign_Subscript (thn (he.1.run pins s σ H _ I (stm1 sl hh p)) fun r s1 ⟨v1, H1, I1, rv, q1⟩ => ?_) (sw_at _ _)
  obtain ⟨d1, h1, as1, _, x1, sl1, i1, r1, p1⟩ := q1
  refine thn (ho.1.run pins s1 σ H1 _ I1 (stm1 sl1 i1 p1)) fun u s2 ⟨v2, H2, I2, ru, q2⟩ => ?_
  obtain ⟨d2, h2, as2, _, x2, sl2, i2, rr2, p2⟩ := q2
  refine thn (hi.1.run pins s2 σ H2 _ I2 (stm1 sl2 i2 p2)) fun w s3 ⟨v3, H3, I3, rw', q3⟩ => ?_
  obtain ⟨d3, h3, as3, _, x3, sl3, i3, rr3, p3⟩ := q3
  split at p3
  · rename_i h4 e4
    exact putD_ok K.hu I3 ru rw' rv i3 (rr2.mono x3) rr3 ((r1.mono x2).mono x3) e4 fun H4 s4 x4 i4 I4 => ⟨σ, H4, I4, p3 as3 H4 σ x4 i4 (sl3.mono x4)⟩
  · exact p3.elim
theorem ss_fset (K : Cok X M C sc n Wx cf) (hot : C.hot = false) {o e : E} {f : String} {x v : Expr} {p pos : Pos} (ho : SE M X Wx cf o x) (he : SE M X Wx cf e v) : SS M X Wx L cf (.fset o f e) (.Assign [.Attribute x (Str.ofString f) p] v pos) := by
  refine ps_imp (ps_fld ho.1 he.1 (sw_fld _ _)) ?_
  rintro D σ H ⟨σI, h, as, sl, hh, p⟩
  simp only [evalS] at p
  obtain ⟨q1, q2, q3, sl', hi', p'⟩ := stm1 sl hh p
  refine ⟨q1, q2, q3, sl', hi', p'.imp ?_⟩
  rintro w H1 ⟨d, h1, as1, _, x1, sl1, i1, r1, p1⟩
  obtain ⟨q1, q2, q3, sl', hi', p'⟩ := stm1 sl1 i1 p1
  refine ⟨q1, q2, q3, sl', hi', p'.imp ?_⟩
  rintro w2 H2 ⟨d2, h2, as2, _, x2, sl2, i2, r2, p2⟩
  split at p2
  · rename_i h4 e4
    cases d2 with
    | ob m =>
      simp only [Rep] at r2
      obtain ⟨a, rfl, ea⟩ := r2
      simp only [fsetD] at e4
      split at e4
      · rename_i c fs e5
        split at e4
        · rename_i hc
          cases e4
          obtain ⟨Ca, dx, vs, hca, ob, hrf⟩ := i2.ob m _ a e5 ea
          simp only [Bool.and_eq_true, decide_eq_true_eq] at hc
          unfold hasF at hc
          obtain ⟨hc1, hc2⟩ := hc
          split at hc1
          · rename_i ci eci
            have cl := (K.cool hot).cls c ci eci Ca hca
            have ex := ext_set (o := HO.ins Ca dx (putF (Str.ofString f) w vs)) ea ob (fun _ => by intro z; cases z) (fun _ _ => by intro z; cases z)
            refine ⟨a, Ca, dx, vs, rfl, ob, cl.1, cl.2.1 f (by simpa using hc1), by rw [← hrf.length]; omega, ?_⟩
            refine p2 as2 _ σ ex (i2.set ea ob (fun _ => by intro z; cases z) (fun _ _ => by intro z; cases z) ⟨Ca, dx, _, hca, upd_same, RepF.put ((r1.mono x2).mono ex) (hrf.mono ex)⟩) (sl2.mono ex)
          · cases hc1
        · cases e4
      · cases e4
    | _ => simp [fsetD] at e4
  · exact p2.elim
theorem ss_expr {e : E} {v : Expr} {pos : Pos} (he : SE M X Wx cf e v) (hs : isCompr v = false) : SS M X Wx L cf (.expr e) (.Expr v pos) := by
  refine ps_imp (ps_expr he.1 (sw_no hs _ _ _)) ?_
  rintro D σ H ⟨σI, h, as, sl, hi, p⟩
  simp only [evalS] at p
  obtain ⟨q1, q2, q3, sl', hi', p'⟩ := stm1 sl hi p
  refine ⟨q1, q2, q3, sl', hi', p'.imp ?_⟩
  rintro w H1 ⟨d, h1, as1, _, x1, sl1, i1, r1, p1⟩
  exact p1 as1 H1 σ Ext.refl i1 sl1
theorem ss_ret {e : E} {v : Expr} {pos : Pos} (he : SE M X Wx cf e v) : SS M X Wx L cf (.ret e) (.Return (some v) pos) := by
  refine ps_imp (ps_ret he.1) ?_
  rintro D σ H ⟨σI, h, as, sl, hi, p⟩
  simp only [evalS] at p
  obtain ⟨q1, q2, q3, sl', hi', p'⟩ := stm1 sl hi p
  refine ⟨q1, q2, q3, sl', hi', p'.imp ?_⟩
  rintro w H1 ⟨d, h1, as1, _, x1, sl1, i1, r1, p1⟩
  exact p1 as1 H1 w Ext.refl i1 r1
theorem ss_if {c : E} {a b : List S} {t : Expr} {x y : List Stmt} {pos : Pos} (hc : SE M X Wx cf c t) (ha : SB M X Wx L cf a x) (hb : SB M X Wx L cf b y) : SS M X Wx L cf (.ife c a b) (.If t x y pos) := by
  refine ps_imp (ps_if hc.2 ha hb) ?_
  rintro D σ H ⟨σI, h, as, sl, hi, p⟩
  simp only [evalS] at p
  rw [R.stm_bind] at p
  obtain ⟨q1, q2, q3, sl', hi', p'⟩ := stmT (ev := evalE M.W cf M.cx c) sl hi p
  refine ⟨q1, q2, q3, sl', hi', p'.imp ?_⟩
  rintro w H1 ⟨h1, as1, x1, sl1, i1, p1⟩
  cases w with
  | true => exact ⟨σI, h1, as1, sl1, i1, p1⟩
  | false => exact ⟨σI, h1, as1, sl1, i1, p1⟩
theorem ss_whl (K : Cok X M C sc n Wx cf) {c : E} {b : List S} {t : Expr} {x : List Stmt} {pos : Pos} (hc : SE M X Wx cf c t) (hb : SB M X Wx L cf b x) : SS M X Wx L cf (.whl c b) (.While t x [] pos) := by
  refine ps_imp (ps_while K.pas hc.2 hb) ?_
  rintro D σ H ⟨σI, h, as, sl, hi, p⟩
  simp only [evalS] at p
  refine ⟨fun m σ' H' => ∃ σI h as, SL (M.g X.K) σI as H' σ' ∧ HI (M.g X.K) h as H' ∧ postS (M.g X.K) Wx as H' (whileI (fun σ h => (evalE M.W cf M.cx c σ h).bind fun x h => truthR x h) (evalB M.W L cf M.cx b) m σI h) D, ⟨L, σI, h, as, sl, hi, p⟩, ?_⟩
  rintro m σ' H' ⟨σI, h, as, sl, hi, p⟩
  cases m with
  | zero => exact p.elim
  | succ m =>
    simp only [whileI] at p
    obtain ⟨q1, q2, q3, sl', hi', p'⟩ := stmT (ev := evalE M.W cf M.cx c) sl hi p
    refine ⟨q1, q2, q3, sl', hi', p'.imp ?_⟩
    rintro w H1 ⟨h1, as1, x1, sl1, i1, p1⟩
    cases w with
    | false => exact p1 as1 H1 σ' Ext.refl i1 sl1
    | true =>
      simp only [if_true] at p1 ⊢
      refine ⟨_, fun σ' H' q => ⟨m, Nat.lt_succ_self m, q⟩, σI, h1, as1, sl1, i1, ?_⟩
      match e : evalB M.W L cf M.cx b σI h1 with
      | .ok (.nx σ2) h2 => rw [e] at p1; exact fun as2 H2 σ' x2 i2 s2 => ⟨σ2, h2, as2, s2, i2, p1.mono x2⟩
      | .ok (.ct σ2) h2 => rw [e] at p1; exact fun as2 H2 σ' x2 i2 s2 => ⟨σ2, h2, as2, s2, i2, p1.mono x2⟩
      | .ok (.bk σ2) h2 => rw [e] at p1; exact p1
      | .ok (.rt d) h2 => rw [e] at p1; exact p1
      | .exc c fs σ2 h2 => rw [e] at p1; exact p1
      | .no => rw [e] at p1; exact p1
end
end Rf
end

section
namespace Rf
open PySem PySem.Spec PyProof.Rows L2

section
variable {X : Cx} {M : Mx} {C : Ck} {sc : Scope} {n : Nat} {Wx : WX} {cf : CF} {L : Nat}
def unlN (X : Cx) (g : Gd) (N : L2.St → Hp → Prop) : L2.St → Hp → Prop := fun σ H => match g with
  | .lock _ _ _ => ∃ d od u, H d = some (.frz od u) ∧ (∀ o' u', X.H_0 d ≠ some (.frz o' u')) ∧ N σ (upd H d u)
  | _ => N σ H
def unlD (X : Cx) (g : Gd) (Ds : Ends) : Ends := { nx := unlN X g Ds.nx, rt := unlQ X g Ds.rt, bk := Ds.bk, ct := Ds.ct }
theorem SP.unl {pins : List (Addr × Obj)} {g : Gd} {Ds : Ends} {f : Flow} {s : Shared} (h : SP X pins (unlD X g Ds) f s) : SP X pins Ds f s := by
  cases f with
  | next =>
    obtain ⟨σ, H, I, q⟩ := h
    cases g with
    | lock n t kvs =>
      obtain ⟨d, od, w, e, nf, q⟩ := q
      exact ⟨σ, _, I.unlock e nf, q⟩
    | none => exact ⟨σ, H, I, q⟩
    | keep n mo => exact ⟨σ, H, I, q⟩
  | brk => exact h
  | cont => exact h
  | ret u =>
    obtain ⟨v, σ, H, I, r, q⟩ := h
    cases g with
    | lock n t kvs =>
      obtain ⟨d, od, w, e, nf, q⟩ := q
      exact ⟨v, σ, _, I.unlock e nf, r, q⟩
    | none => exact ⟨v, σ, H, I, r, q⟩
    | keep n mo => exact ⟨v, σ, H, I, r, q⟩
theorem un_of {g : Gd} {hc : Hs} {as as1 asc : List Addr} {H H1 Hc : Hp} (ic : HI (M.g X.K) hc asc Hc) (hs : same g hc) (x1 : Ext as H as1 H1) (xc : Ext as1 H1 asc Hc) (gd : GdOk X g as1 H) :
    ∃ Hu, HI (M.g X.K) (endG g hc) asc Hu ∧ Ext as H asc Hu ∧ (∀ b xs, Hc b = some (.tup xs) → Hu b = some (.tup xs)) ∧ (∀ (N : L2.St → Hp → Prop) σ, N σ Hu → unlN X g N σ Hc) ∧ (∀ (Q : VK) v, Q v Hu → unlQ X g Q v Hc) := by
  cases g with
  | none => exact ⟨Hc, ic, x1.trans xc, fun _ _ e => e, fun _ _ q => q, fun _ _ q => q⟩
  | keep n' mo => exact ⟨Hc, ic, x1.trans xc, fun _ _ e => e, fun _ _ q => q, fun _ _ q => q⟩
  | lock n' t kvs =>
    obtain ⟨a, ea, nf0, nf⟩ := gd
    obtain ⟨d, od, u, ed, hf, iu⟩ := ic.unlock hs
    obtain rfl : a = d := by
      have := xc.pre _ _ ea
      rw [ed] at this; exact (Option.some.inj this).symm
    exact ⟨_, iu, (x1.trans xc).unlock (List.mem_of_getElem? ed) hf nf, fun b xs e => tup_upd (fun ys q => by rw [hf] at q; cases q) e, fun N σ q => ⟨a, od, u, hf, nf0, q⟩, fun Q v q => ⟨a, od, u, hf, nf0, q⟩⟩
theorem SL.mono0 {G : Gx} {σI : Sg} {as : List Addr} {H H' : Hp} {σ : L2.St} (s : SL G σI as H σ) (ht : ∀ b xs, H b = some (.tup xs) → H' b = some (.tup xs)) : SL G σI as H' σ :=
  ⟨s.len, fun i d e => by obtain ⟨v, e1, r⟩ := s.at_ i d e; exact ⟨v, e1, r.mono0 (fun _ _ h => h) ht⟩, s.ex⟩
theorem ss_for (K : Cok X M C sc n Wx cf) (hot : C.hot = false) {tg : Tg} {k : Ik} {its : List E} {b : List S} {tg' iter : Expr} {x : List Stmt} {pos : Pos} (htg : tgB C sc tg tg' = true) (hw : walkB C sc k its iter = true) (hb : SB M X Wx L cf b x) :
    SS M X Wx L cf (.for_ tg k its b) (.For tg' iter x [] pos) := by
  refine ⟨fun pins s σ H Ds I h => ?_⟩
  obtain ⟨σI, h, as, sl, hi, p⟩ := h
  simp only [evalS] at p
  rw [R.stm_bind] at p
  obtain ⟨hpi, hset⟩ := walk_ok (tg' := tg') K hw
  have hfold : ∀ x, foldedSetIterable iter X.env x = pure x := by
    intro x
    cases iter <;> first | rfl | (simp [isSet] at hset)
  have rule := ps_for (pos := pos) K.pas (K.cool hot).calm hpi (pg_tg K htg) hb hfold
  cases e0 : ((evalEs M.W cf M.cx its σI h).bind fun xs h => ofO (itemsI M.W.cons k xs h) h) with
  | no => rw [e0] at p; exact p.elim
  | exc c fs h1 =>
    rw [e0] at p
    refine rule.run pins s σ H Ds I ⟨σI, h, as, sl, hi, ?_⟩
    rw [e0]
    exact fun Cc dx vs as' H' x i k1 k2 k3 => p Cc dx vs as' H' σ x i k1 k2 k3 (sl.mono x)
  | ok ig h0 =>
    rw [e0] at p
    obtain ⟨items, g, hg⟩ := ig
    simp only [R.stm_ok] at p
    refine thn (rule.run pins s σ H (unlD X g Ds) I ⟨σI, h, as, sl, hi, ?_⟩) fun f s' q => SP.unl q
    rw [e0]
    rintro J as1 H1 x1 ⟨i1, w1⟩ gd
    simp only at i1 w1 gd
    generalize hturn : (fun (d : D) (σ : Sg) (h : Hs) => match bindT tg d σ with | some σ => evalB M.W L cf M.cx b σ h | none => RS.no) = turn at p
    refine ⟨fun i m σ' Hc => m = items.length - i ∧ i ≤ items.length ∧ ∃ σc hc asc, Ext as1 H1 asc Hc ∧ HI (M.g X.K) hc asc Hc ∧ SL (M.g X.K) σc asc Hc σ' ∧ postS (M.g X.K) Wx as H (forI g turn (items.drop i) σc hc) Ds,
      ⟨items.length, by simp, Nat.zero_le _, σI, hg, as1, Ext.refl, i1, sl.mono x1, p⟩, ?_⟩
    rintro i m σ' Hc ⟨rfl, hile, σc, hc, asc, xc, ic, slc, pc⟩
    by_cases hlt : i < items.length
    · have hdrop : items.drop i = items[i] :: items.drop (i + 1) := List.drop_eq_getElem_cons hlt
      rw [hdrop] at pc
      simp only [forI] at pc
      by_cases hs : same g hc
      · rw [if_pos hs] at pc
        obtain ⟨go, yl⟩ := (w1 i hc asc Hc xc ic hs).2 items[i] (by simp [hlt])
        refine .inr ⟨go, fun σ4 H4 => items.length - (i + 1) = items.length - (i + 1) ∧ i + 1 ≤ items.length ∧ ∃ σc hc asc, Ext as1 H1 asc H4 ∧ HI (M.g X.K) hc asc H4 ∧ SL (M.g X.K) σc asc H4 σ4 ∧ postS (M.g X.K) Wx as H (forI g turn (items.drop (i + 1)) σc hc) Ds,
          fun σ4 H4 q => ⟨items.length - (i + 1), by omega, q⟩, fun y H' yy => ?_⟩
        obtain ⟨as', x', i', rx⟩ := yl y H' yy
        have et : turn items[i] σc hc = match bindT tg items[i] σc with | some σ => evalB M.W L cf M.cx b σ hc | none => RS.no := by rw [← hturn]
        cases eb : bindT tg items[i] σc with
        | none => rw [et, eb] at pc; exact pc.elim
        | some σ1 =>
          refine ⟨σc, hc, as', items[i], σ1, slc.mono x', i', rx, eb, fun σ2 sl2 _ => ⟨σ1, hc, as', sl2, i', ?_⟩⟩
          rw [eb] at et
          simp only at et
          rw [et] at pc
          match e : evalB M.W L cf M.cx b σ1 hc with
          | .ok (.nx σ3) h3 =>
            rw [e] at pc
            exact fun as3 H3 σ4 x3 i3 s3 => ⟨rfl, by omega, σ3, h3, as3, xc.trans (x'.trans x3), i3, s3, pc⟩
          | .ok (.ct σ3) h3 =>
            rw [e] at pc
            exact fun as3 H3 σ4 x3 i3 s3 => ⟨rfl, by omega, σ3, h3, as3, xc.trans (x'.trans x3), i3, s3, pc⟩
          | .ok (.bk σ3) h3 =>
            rw [e] at pc
            intro as3 H3 σ4 x3 i3 s3
            simp only at pc
            by_cases hs3 : same g h3
            · rw [if_pos hs3] at pc
              obtain ⟨Hu, iu, xu, ht, hn, _⟩ := un_of i3 hs3 x1 (xc.trans (x'.trans x3)) gd
              exact hn _ _ (pc as3 Hu σ4 xu iu (s3.mono0 ht))
            · rw [if_neg hs3] at pc; exact pc.elim
          | .ok (.rt d) h3 =>
            rw [e] at pc
            intro as3 H3 v x3 i3 r3
            simp only at pc
            by_cases hs3 : same g h3
            · rw [if_pos hs3] at pc
              obtain ⟨Hu, iu, xu, ht, _, hq⟩ := un_of i3 hs3 x1 (xc.trans (x'.trans x3)) gd
              exact hq _ _ (pc as3 Hu v xu iu (r3.mono0 (fun _ _ h => h) ht))
            · rw [if_neg hs3] at pc; exact pc.elim
          | .exc c fs σ3 h3 =>
            rw [e] at pc
            exact pc.mono (x1.trans (xc.trans x'))
          | .no => rw [e] at pc; exact pc.elim
      · rw [if_neg hs] at pc; exact pc.elim
    · have hie : i = items.length := by omega
      subst hie
      rw [List.drop_length] at pc
      simp only [forI] at pc
      by_cases hs : same g hc
      · rw [if_pos hs] at pc
        refine .inl ⟨(w1 _ hc asc Hc xc ic hs).1 (Nat.le_refl _), ?_⟩
        obtain ⟨Hu, iu, xu, ht, hn, _⟩ := un_of ic hs x1 xc gd
        exact hn _ _ (pc asc Hu σ' xu iu (slc.mono0 ht))
      · rw [if_neg hs] at pc; exact pc.elim
def rAug (M : Mx) (K : PySem.W.Frag) (Wx : WX) (σ : L2.St) (o : Op) : V → V → Hp → VK → Prop := fun x y H Q => ∃ dx dy h as, HI (M.g K) h as H ∧ Rep (M.g K) as H dx x ∧ Rep (M.g K) as H dy y ∧ post (M.g K) Wx (Rep (M.g K)) as H σ (augD o dx dy h) Q
theorem aug_ok {o : Op} {op : Operator} (ho : opB o op = true) (σ : L2.St) : PIp X op (rAug M X.K Wx σ o) := by
  rintro pins s σ' H x y v u Q I rx ry ⟨dx, dy, h, as, hi, r1, r2, p⟩
  unfold augD at p
  split at p
  · simp only [Rep] at r1 r2
    subst r1 r2
    cases op <;> simp only [opB, Bool.false_eq_true] at ho
    exact ip_add pins s σ' H _ _ v u Q I rx ry ⟨_, _, rfl, rfl, p _ as H Ext.refl hi (by simp only [Rep])⟩
  · simp only [Rep] at r1 r2
    subst r1 r2
    cases op <;> simp only [opB, Bool.false_eq_true] at ho
    exact ip_sub pins s σ' H _ _ v u Q I rx ry ⟨_, _, rfl, rfl, p _ as H Ext.refl hi (by simp only [Rep])⟩
  · rename_i z z'
    simp only [Rep] at r1 r2
    subst r1 r2
    cases op <;> simp only [opB, Bool.false_eq_true] at ho
    split at p
    · rename_i hz
      refine in_addS pins s σ' H _ _ v u Q I rx ry ⟨_, _, rfl, rfl, by simpa [st, Str.length] using hz, ?_⟩
      refine p _ as H Ext.refl hi ?_
      simp only [Rep]
      show V.str ⟨(st z).cps ++ (st z').cps⟩ = _
      simp [st]
    · exact p.elim
  · exact p.elim
theorem ss_aug (K : Cok X M C sc n Wx cf) {i : Nat} {o : Op} {e : E} {x : Str} {op : Operator} {v : Expr} {p pos : Pos} (h1 : isC C.N i x = true) (h2 : locB sc x = true) (h3 : opB o op = true) (he : SE M X Wx cf e v) :
    SS M X Wx L cf (.aug i o e) (.AugAssign (.Name x p) op v pos) := by
  refine ⟨fun pins s σ H Ds I h => ?_⟩
  refine (ps_aug K.nd (by rw [K.N]; exact isC_ok h1) (K.loc x h2).1 he.1 (aug_ok (M := M) (Wx := Wx) h3 σ) (K.loc x h2).2).run pins s σ H Ds I ?_
  obtain ⟨σI, h, as, sl, hi, p⟩ := h
  simp only [evalS] at p
  split at p
  · rename_i d ed
    obtain ⟨w, e1, r⟩ := sl.at_ i d ed
    refine ⟨w, e1, ?_⟩
    obtain ⟨q1, q2, q3, sl', hi', p'⟩ := stm1 sl hi p
    refine ⟨q1, q2, q3, sl', hi', p'.imp ?_⟩
    rintro y H1 ⟨d1, h1, as1, _, x1, sl1, i1, r1, p1⟩
    refine ⟨d, d1, h1, as1, i1, r.mono x1, r1, (p1.stm (Rl := Rep (M.g X.K)) sl1).imp ?_⟩
    rintro z H2 ⟨d2, h2, as2, _, x2, sl2, i2, r2, p2⟩
    exact p2 as2 H2 _ Ext.refl i2 (sl2.set r2)
  · exact p.elim
theorem ss_faug (K : Cok X M C sc n Wx cf) (hot : C.hot = false) {f : String} {o : Op} {a e : E} {op : Operator} {x v : Expr} {p pos : Pos} (h3 : opB o op = true) (ha : SE M X Wx cf a x) (he : SE M X Wx cf e v) :
    SS M X Wx L cf (.faug a f o e) (.AugAssign (.Attribute x (Str.ofString f) p) op v pos) := by
  refine ⟨fun pins s σ H Ds I h => ?_⟩
  refine (ps_fldaug ha.1 he.1 (aug_ok (M := M) (Wx := Wx) h3 σ)).run pins s σ H Ds I ?_
  obtain ⟨σI, h, as, sl, hi, p⟩ := h
  simp only [evalS] at p
  obtain ⟨q1, q2, q3, sl', hi', p'⟩ := stm1 sl hi p
  refine ⟨q1, q2, q3, sl', hi', p'.imp ?_⟩
  rintro y H1 ⟨d1, h1, as1, _, x1, sl1, i1, r1, p1⟩
  cases d1 with
  | ob m =>
    simp only [Rep] at r1
    obtain ⟨ad, rfl, ea⟩ := r1
    simp only [isIns] at p1
    cases em : h1[m]? with
    | none => rw [em] at p1; exact p1.elim
    | some mo =>
      rw [em] at p1
      cases mo with
      | ins c fs =>
        simp only at p1
        split at p1
        · rename_i hf
          split at p1
          · rename_i dy ey
            obtain ⟨Ca, dx, vs, hca, ob, hrf⟩ := i1.ob m _ ad em ea
            have hf' := hf
            unfold hasF at hf'
            split at hf'
            · rename_i ci eci
              have cl := (K.cool hot).cls c ci eci Ca hca
              obtain ⟨vy, evy, rvy⟩ : ∃ vy, vs.lookup (Str.ofString f) = some vy ∧ Rep (M.g X.K) as1 H1 dy vy := by
                rcases hrf.lookup f with ⟨q, _⟩ | ⟨d9, v9, q1, q2, q3⟩
                · rw [ey] at q; cases q
                · rw [ey] at q1; cases q1; exact ⟨v9, q2, q3⟩
              refine ⟨ad, Ca, dx, vs, vy, rfl, ob, cl.1, cl.2.1 f (by simpa using hf'), evy, ?_⟩
              obtain ⟨q1, q2, q3, sl', hi', p'⟩ := stm1 sl1 i1 p1
              refine ⟨q1, q2, q3, sl', hi', p'.imp ?_⟩
              rintro y2 H2 ⟨d2, h2, as2, _, x2, sl2, i2, r2, p2⟩
              refine ⟨dy, d2, h2, as2, i2, rvy.mono x2, r2, (p2.stm (Rl := Rep (M.g X.K)) sl2).imp ?_⟩
              rintro z H3 ⟨d3, h3, as3, _, x3, sl3, i3, r3, p3⟩
              have ea3 := x3.pre _ _ (x2.pre _ _ ea)
              cases em3 : h3[m]? with
              | none => rw [em3] at p3; exact p3.elim
              | some mo3 =>
                rw [em3] at p3
                cases mo3 with
                | ins c' fs' =>
                  simp only [fsetD, em3] at p3
                  split at p3
                  · rename_i q5 q6 q7 q8
                    split at p3
                    · rename_i hcc
                      simp only [Option.some.injEq, Prod.mk.injEq] at q7
                      obtain ⟨rfl, rfl⟩ := q7
                      subst hcc
                      split at q8
                      · rename_i hl
                        cases q8
                        obtain ⟨Ca', dx', vs', hca', ob', hrf'⟩ := i3.ob m _ ad em3 ea3
                        have : Ca' = Ca := by
                          rw [hca] at hca'; exact (Option.some.inj hca').symm
                        subst this
                        simp only [Bool.and_eq_true, decide_eq_true_eq] at hl
                        refine ⟨dx', vs', ob', by rw [← hrf'.length]; omega, ?_⟩
                        have ex := ext_set (o := HO.ins Ca' dx' (putF (Str.ofString f) z vs')) ea3 ob' (fun _ => by intro z; cases z) (fun _ _ => by intro z; cases z)
                        exact p3 as3 _ σ ex (i3.set ea3 ob' (fun _ => by intro z; cases z) (fun _ _ => by intro z; cases z) ⟨Ca', dx', _, hca', upd_same, RepF.put (r3.mono ex) (hrf'.mono ex)⟩) (sl3.mono ex)
                      · cases q8
                    · exact p3.elim
                  · exact p3.elim
                | _ => exact p3.elim
            · cases hf'
          · exact p1.elim
        · exact p1.elim
      | _ => exact p1.elim
  | _ => exact p1.elim
end
end Rf
end

section
set_option maxHeartbeats 2000000
namespace Rf
open PySem PySem.Spec PyProof.Rows L2

/-! ## raise -/
theorem repF_zip {G : Gx} {as : List Addr} {H : Hp} : ∀ {fl : List String} {ds : List D} {vs : List V}, Reps G as H ds vs → RepF G as H (fl.zip ds) ((fl.map Str.ofString).zip vs)
  | [], _, _, _ => by simp; exact .nil
  | f :: fl, [], _, h => by simp only [Reps] at h; subst h; simp; exact .nil
  | f :: fl, d :: ds, _, h => by
    obtain ⟨v, vs, rfl, h1, h2⟩ := h.cons_inv
    simp only [List.zip_cons_cons, List.map_cons]
    exact .cons ⟨rfl, h1⟩ (repF_zip h2)
theorem paired_app {α β : Type} {R : α → β → Prop} : ∀ {a : List α} {b : List β} {c : List α} {d : List β}, Paired R a b → Paired R c d → Paired R (a ++ c) (b ++ d)
  | _, _, _, _, .nil, k => k
  | _, _, _, _, .cons h t, k => .cons h (paired_app t k)
theorem paired_rev {α β : Type} {R : α → β → Prop} : ∀ {a : List α} {b : List β}, Paired R a b → Paired R a.reverse b.reverse
  | _, _, .nil => .nil
  | _, _, .cons h t => by
    rw [List.reverse_cons, List.reverse_cons]
    exact paired_app (paired_rev t) (.cons h .nil)
section
variable {X : Cx} {M : Mx} {C : Ck} {sc : Scope} {n : Nat} {Wx : WX} {cf : CF} {L : Nat}
theorem postS.stms {G : Gx} {as : List Addr} {H : Hp} {σ : L2.St} {Ds : Ends} {ev : Sg → Hs → R (List D)} {f : List D → Hs → RS} {σI : Sg} {h : Hs} (sl : SL G σI as H σ) (hi : HI G h as H) (p : postS G Wx as H ((ev σI h).stm σI f) Ds) :
    tEs G Wx ev σ H fun x H1 => ∃ d h1 as1, ev σI h = .ok d h1 ∧ Ext as H as1 H1 ∧ SL G σI as1 H1 σ ∧ HI G h1 as1 H1 ∧ Reps G as1 H1 d x ∧ postS G Wx as1 H1 (f d h1) Ds :=
  ⟨σI, h, as, sl, hi, p.stm (Rl := Reps G) sl⟩
theorem ss_raise (K : Cok X M C sc n Wx cf) (hot : C.hot = false) {c : Nat} {es : List E} {x : Str} {y : Expr} {xs : List Expr} {p pos pos2 : Pos} (h0 : c ∈ C.xr) (h1 : isC C.cnm c x = true) (h2 : glB sc x = true) (h3 : okN x = true) (hx : chkEs C es sc (y :: xs) = true) (hes : SL2 M X Wx cf es (y :: xs)) :
    SS M X Wx L cf (.raise c es) (.Raise (some (.Call (.Name x p) (y :: xs) [] pos)) none pos2) := by
  obtain ⟨Ca, fI, fd, ps, e1, m1, T, iC, tI, F1, hb⟩ := (K.cool hot).exs c x h0 (isC_ok h1)
  have st : isStar y = false ∧ ∃ e es', es = e :: es' ∧ chkEs C es' sc xs = true := by
    cases es with
    | nil => simp [chkEs] at hx
    | cons e es' => simp only [chkEs, Bool.and_eq_true, Bool.not_eq_true'] at hx; exact ⟨hx.1.2, e, es', rfl, hx.2⟩
  obtain ⟨s1, e, es', rfl, s2⟩ := st
  refine ps_imp (ps_raise (K.cool hot).calm K.tk (pmk_oex (X := X) (dvs := []) (ds := []) T iC tI F1 ((K.cool hot).room.mono (by omega)) hb .nil pass0 (K.gl x h2) m1 (pa_of hes) (okN_ok h3).1 (star_one s1 _ _) (chkEs_star s2))) ?_
  rintro D σ H ⟨σI, h, as, sl, hi, p⟩
  simp only [evalS] at p
  obtain ⟨q1, q2, q3, sl', hi', p'⟩ := postS.stms sl hi p
  refine ⟨q1, q2, q3, sl', hi', p'.imp ?_⟩
  rintro vs H1 ⟨ds, h1', as1, _, x1, sl1, i1, r1, p1⟩
  split at p1
  · rename_i hc
    refine ⟨by rw [← r1.length]; omega, fun a ha => ⟨a, vs, by rw [List.append_nil], by rw [← r1.length]; exact hc.2.1, upd_same, fun d H2 hd ne g1 g2 g3 => ⟨rfl, d, _, g1, g2, ?_, ?_⟩⟩⟩
    · rw [upd_ne ne] at hd; exact hd
    · have hd' : H1 d = none := by rw [upd_ne ne] at hd; exact hd
      have eH : upd (del H2 a) d (.xd ((M.W.exf c).map Str.ofString |>.zip vs).reverse) = upd H1 d (.xd ((M.W.exf c).map Str.ofString |>.zip vs).reverse) := by
        funext b
        by_cases hb : b = d
        · rw [hb, upd_same, upd_same]
        · rw [upd_ne hb, upd_ne hb]
          by_cases hb2 : b = a
          · rw [hb2, del_same, ha]
          · rw [del_ne hb2, g3 b hb2 hb, upd_ne hb2]
      rw [eH]
      refine p1 Ca d _ as1 _ σ (ext_tup hd') (i1.other hd') e1 upd_same ?_ (sl1.mono (ext_tup hd'))
      exact (RepF.mono (ext_tup hd') (paired_rev (repF_zip r1)))
  · exact p1.elim
end
/-! ## name = [..] on one line -/
section
variable {X : Cx} {M : Mx} {C : Ck} {sc : Scope} {n : Nat} {Wx : WX} {cf : CF} {L : Nat}
theorem chkE_lc {e : E} {elt : Expr} {gc : Comprehension} {scope : Scope} {pos : Pos} (h : chkE C e sc (.ListComp elt [gc] scope pos) = true) : (∃ own tg k its cd el, e = .lc own tg k its cd el) ∨ ∃ a, e = .back a := by
  cases e <;> first | (simp [chkE] at h; done) | exact .inl ⟨_, _, _, _, _, _, rfl⟩ | exact .inr ⟨_, rfl⟩
theorem ss_here (K : Cok X M C sc n Wx cf) {i : Nat} {e : E} {y : Str} {v : Expr} {py pos : Pos} (h1 : isC C.N i y = true) (h2 : locB sc y = true) (he : chkE C e sc v = true) (hs : hereB C sc y py v = true) : SS M X Wx L cf (.set i e) (.Assign [.Name y py] v pos) := by
  unfold hereB at hs
  split at hs
  · rename_i elt gc scope lp
    simp only [Bool.and_eq_true, Bool.not_eq_true'] at hs
    obtain ⟨⟨⟨hot, hk⟩, hl⟩, hany⟩ := hs
    rcases chkE_lc he with ⟨own, tg, k, its, cd, el, rfl⟩ | ⟨a, rfl⟩
    · obtain ⟨tg', iter, ifs, asy⟩ := gc
      simp only [chkE, Bool.and_eq_true, Bool.not_eq_true', decide_eq_true_eq, List.all_eq_true] at he
      obtain ⟨⟨⟨⟨⟨⟨⟨⟨⟨_, rfl⟩, g1⟩, g2⟩, g3⟩, g4⟩, g5⟩, g6⟩, g7⟩, g8⟩ := he
      have hpi : PI X tg' iter (tI X M Wx (evalEs M.W cf M.cx its) k) := by
        refine (walk_ok (C := C) (sc := sc) (n := n) (tg' := tg') K ?_).1
        unfold walkB
        simp only [g7, Bool.not_false, Bool.true_and]
        exact g8
      have hy : X.env.scope.names.lookup y = some .local := K.scn y .local (by decide) (kindB_ok hk)
      have hfold : ∀ x, foldedSetIterable iter X.env x = pure x := by
        intro x
        cases iter <;> first | rfl | (simp [isSet] at g7)
      have hvs : (ownP C own).map (·.2) = own := by
        unfold ownP; rw [List.map_map]
        exact (List.map_congr_left fun _ _ => rfl).trans (List.map_id _)
      refine ⟨fun pins s σ H D I q => ?_⟩
      obtain ⟨σI, h, as, sl, hi, p⟩ := q
      simp only [evalS] at p
      obtain ⟨q1, q2, q3, sl', hi', p'⟩ := stm1 sl hi p
      have q' : tE (M.g X.K) Wx (evalE M.W cf M.cx (.lc own tg k its cd el)) σ H (fun x H1 => gName i x σ H1 D.nx) := by
        refine ⟨q1, q2, q3, sl', hi', p'.imp ?_⟩
        rintro w H1 ⟨d, h1, as1, _, x1, sl1, i1, r1, p1⟩
        exact p1 as1 H1 _ Ext.refl i1 (sl1.set r1)
      obtain ⟨g, q'⟩ := lc_tr K hot g3 q'
      have rule := ps_setLc (X := X) (i := i) (y := y) (py := py) (elt := elt) (tg := tg') (iter := iter) (ifs := ifs) (scope := scope) (pos := lp) (spos := pos) (g := gT (M.g X.K) tg) (tt := tC (M.g X.K) (fun _ _ _ _ => False) (fun σ h => (evalEs M.W cf M.cx cd σ h).bind cdB)) (te := tE (M.g X.K) (fun _ _ _ _ => False) (evalE M.W cf M.cx el))
        (K.cool hot).calm K.nd (by rw [K.N]; exact isC_ok h1) hy (sw_true I.ok.kind hy hl hany) hpi (blk_ok K g1)
        (fun s H Cc cl fp => pg_tg (K.blk hot s H scope Cc cl fp) g2)
        (fun s H Cc cl fp => by
          have K' := K.blk hot s H scope Cc cl fp
          refine pts_of ?_
          cases sEs cd g4 K' with
          | nil => rfl
          | cons q1 q2 =>
            cases q2 with
            | nil => exact ⟨_, rfl, q1.1⟩
            | cons _ _ => simp at g5)
        (fun s H Cc cl fp => (sE el g6 (K.blk hot s H scope Cc cl fp)).1.1) hfold
      rw [hvs] at rule
      refine thn (rule.run pins s σ H (unlD X g D) I ?_) fun f s' q => SP.unl q
      have e : ∀ x H1, unlQ X g (fun x H1 => gName i x σ H1 D.nx) x H1 = gName i x σ H1 (unlD X g D).nx := by
        intro x H1
        cases g <;> rfl
      have e' : unlQ X g (fun x H1 => gName i x σ H1 D.nx) = fun x H1 => gName i x σ H1 (unlD X g D).nx := by
        funext x H1; exact e x H1
      rw [e'] at q'
      exact q'
    · unfold chkE at he
      simp [backOf] at he
  · cases hs
end
/-! ## an exception at hand -/
mutual
theorem rep_x {G : Gx} {as : List Addr} {H : Hp} {xd : Option (Addr × List (String × D))} {ex : Option (Nat × Addr)} : ∀ {d : D} {v : V}, Rep { G with xd := xd, ex := ex } as H d v ↔ Rep G as H d v
  | .non, _ => Iff.rfl
  | .bl _, _ => Iff.rfl
  | .int _, _ => Iff.rfl
  | .str _, _ => Iff.rfl
  | .tup ds, v => by
    simp only [Rep]
    constructor
    · rintro ⟨a, vs, e, h1, h2⟩; exact ⟨a, vs, e, h1, reps_x.mp h2⟩
    · rintro ⟨a, vs, e, h1, h2⟩; exact ⟨a, vs, e, h1, reps_x.mpr h2⟩
  | .ob _, _ => Iff.rfl
  | .fn _, _ => Iff.rfl
  | .con _, _ => Iff.rfl
theorem reps_x {G : Gx} {as : List Addr} {H : Hp} {xd : Option (Addr × List (String × D))} {ex : Option (Nat × Addr)} : ∀ {ds : List D} {vs : List V}, Reps { G with xd := xd, ex := ex } as H ds vs ↔ Reps G as H ds vs
  | [], _ => Iff.rfl
  | d :: ds, vs => by
    simp only [Reps]
    constructor
    · rintro ⟨v, r, e, h1, h2⟩; exact ⟨v, r, e, rep_x.mp h1, reps_x.mp h2⟩
    · rintro ⟨v, r, e, h1, h2⟩; exact ⟨v, r, e, rep_x.mpr h1, reps_x.mpr h2⟩
end
section
variable {G : Gx} {as : List Addr} {H : Hp} {xd : Option (Addr × List (String × D))} {ex : Option (Nat × Addr)}
theorem repF_x {fs : List (String × D)} {vs : List (Str × V)} : RepF { G with xd := xd, ex := ex } as H fs vs ↔ RepF G as H fs vs :=
  ⟨fun h => Paired.mapP h fun _ _ z => ⟨z.1, rep_x.mp z.2⟩, fun h => Paired.mapP h fun _ _ z => ⟨z.1, rep_x.mpr z.2⟩⟩
theorem obR_x {a : Addr} : ∀ {mo : MO}, ObR { G with xd := xd, ex := ex } as H a mo ↔ ObR G as H a mo
  | .lst xs => ⟨fun ⟨vs, h1, h2⟩ => ⟨vs, h1, reps_x.mp h2⟩, fun ⟨vs, h1, h2⟩ => ⟨vs, h1, reps_x.mpr h2⟩⟩
  | .dic lk false kvs => ⟨fun ⟨vs, h1, h2⟩ => ⟨vs, h1, Paired.mapP h2 fun _ _ z => ⟨z.1, rep_x.mp z.2⟩⟩, fun ⟨vs, h1, h2⟩ => ⟨vs, h1, Paired.mapP h2 fun _ _ z => ⟨z.1, rep_x.mpr z.2⟩⟩⟩
  | .dic lk true kvs => ⟨fun ⟨vs, h1, h2⟩ => ⟨vs, h1, Paired.mapP h2 fun _ _ z => ⟨z.1, rep_x.mp z.2⟩⟩, fun ⟨vs, h1, h2⟩ => ⟨vs, h1, Paired.mapP h2 fun _ _ z => ⟨z.1, rep_x.mpr z.2⟩⟩⟩
  | .ins c fs => ⟨fun ⟨C, dx, vs, h0, h1, h2⟩ => ⟨C, dx, vs, h0, h1, repF_x.mp h2⟩, fun ⟨C, dx, vs, h0, h1, h2⟩ => ⟨C, dx, vs, h0, h1, repF_x.mpr h2⟩⟩
  | .scr ns => Iff.rfl
theorem HI.on {h : Hs} (hi : HI G h as H) (hx : XdR { G with xd := xd, ex := ex } as H) : HI { G with xd := xd, ex := ex } h as H := ⟨hx, hi.len, hi.nd, fun n mo a e1 e2 => obR_x.mpr (hi.ob n mo a e1 e2)⟩
theorem HI.off {h : Hs} (hn : G.xd = none) (hi : HI { G with xd := xd, ex := ex } h as H) : HI G h as H := ⟨fun _ _ q => (by rw [hn] at q; cases q), hi.len, hi.nd, fun n mo a e1 e2 => obR_x.mp (hi.ob n mo a e1 e2)⟩
/-- no dict of an exception is one of ours -/
theorem HI.noxd {h : Hs} (hi : HI G h as H) {dx : Addr} {vs : List (Str × V)} (e : H dx = some (.xd vs)) : dx ∉ as := fun hm => by
  obtain ⟨n, hn⟩ := List.getElem?_of_mem hm
  have hl : n < h.length := by rw [← hi.len]; exact (List.getElem?_eq_some_iff.mp hn).1
  have ob := hi.ob n h[n] dx (by simp [hl]) hn
  cases hmo : h[n] with
  | lst xs => rw [hmo] at ob; obtain ⟨_, q, _⟩ := ob; rw [e] at q; cases q
  | dic lk t kvs =>
    rw [hmo] at ob
    have : ∀ {o : HO}, (∀ vs, o ≠ .xd vs) → lkd lk H dx o → False := by
      intro o ho q
      unfold lkd at q
      split at q
      · obtain ⟨od, q⟩ := q; rw [e] at q; cases q
      · rw [e] at q; exact ho _ (Option.some.inj q).symm
    cases t with
    | false => obtain ⟨_, q, _⟩ := ob; exact this (fun _ z => by cases z) q
    | true => obtain ⟨_, q, _⟩ := ob; exact this (fun _ z => by cases z) q
  | ins c fs => rw [hmo] at ob; obtain ⟨_, _, _, _, q, _⟩ := ob; rw [e] at q; cases q
  | scr ns => rw [hmo] at ob; obtain ⟨_, q⟩ := ob; rw [e] at q; cases q
theorem SL.on {σI : Sg} {σ : L2.St} (s : SL G σI as H σ) {o : Option Nat} {z : Addr} (he : ex = o.map fun i => (i, z)) : SL { G with xd := xd, ex := ex } (offI o σI) as H (slotO o z σ) := by
  subst he
  cases o with
  | none => exact ⟨s.len, fun j d e => by obtain ⟨v, a, b⟩ := s.at_ j d e; exact ⟨v, a, rep_x.mpr b⟩, fun j a e => by simp at e⟩
  | some i =>
    refine ⟨by simp [offI, slotO, s.len], fun j d e => ?_, fun j a e q => ?_⟩
    · simp only [offI, slotO] at e ⊢
      by_cases hj : j = i
      · subst hj
        have hl : j < σI.length := by have := (List.getElem?_eq_some_iff.mp e).1; simpa using this
        rw [List.getElem?_set_self hl] at e; cases e
      · rw [List.getElem?_set_ne (Ne.symm hj)] at e ⊢
        obtain ⟨v, a, b⟩ := s.at_ j d e
        exact ⟨v, a, rep_x.mpr b⟩
    · simp only [Option.map_some, Option.some.injEq, Prod.mk.injEq] at e
      obtain ⟨rfl, rfl⟩ := e
      simp only [offI, slotO] at q ⊢
      have hl : i < σI.length := by have := (List.getElem?_eq_some_iff.mp q).1; simpa using this
      rw [List.getElem?_set_self (by rw [← s.len]; exact hl)]
theorem SL.off {σI : Sg} {σ : L2.St} {o : Option Nat} (hn : G.ex = none) (s : SL { G with xd := xd, ex := ex } σI as H σ) : SL G (offI o σI) as H (match o with | none => σ | some i => σ.set i none) := by
  cases o with
  | none => exact ⟨s.len, fun j d e => by obtain ⟨v, a, b⟩ := s.at_ j d e; exact ⟨v, a, rep_x.mp b⟩, fun j a e => by rw [hn] at e; cases e⟩
  | some i =>
    refine ⟨by simp [offI, s.len], fun j d e => ?_, fun j a e q => by rw [hn] at e; cases e⟩
    simp only [offI] at e ⊢
    by_cases hj : j = i
    · subst hj
      have hl : j < σI.length := by have := (List.getElem?_eq_some_iff.mp e).1; simpa using this
      rw [List.getElem?_set_self hl] at e; cases e
    · rw [List.getElem?_set_ne (Ne.symm hj)] at e ⊢
      obtain ⟨v, a, b⟩ := s.at_ j d e
      exact ⟨v, a, rep_x.mp b⟩
/-- out of a clause -/
theorem postS.offs {Wx Wx' : WX} {r : RS} {o : Option Nat} {Ds : Ends} (h1 : G.xd = none) (h2 : G.ex = none) (p : postS G Wx as H (r.offs o) Ds) : postS { G with xd := xd, ex := ex } Wx' as H r (endsO o Ds) := by
  match r with
  | .ok (.nx σ) h => cases o <;> exact fun as' H' σ' x hi sl => p as' H' _ x (hi.off h1) (sl.off h2)
  | .ok (.bk σ) h => cases o <;> exact fun as' H' σ' x hi sl => p as' H' _ x (hi.off h1) (sl.off h2)
  | .ok (.ct σ) h => cases o <;> exact fun as' H' σ' x hi sl => p as' H' _ x (hi.off h1) (sl.off h2)
  | .ok (.rt d) h => cases o <;> exact fun as' H' v x hi rv => p as' H' v x (hi.off h1) (rep_x.mp rv)
  | .exc c fs σ h => exact p.elim
  | .no => exact p.elim
end
def Mx.at (M : Mx) (c : Nat) (fs : List (String × D)) (dx z : Addr) (o : Option Nat) : Mx := { M with cx := some (c, fs), xd := some (dx, fs), ex := o.map fun i => (i, z) }
section
variable {X : Cx} {M : Mx} {C : Ck} {sc : Scope} {n : Nat} {Wx : WX} {cf : CF} {L : Nat}
theorem Cok.suite (K : Cok X M C sc n Wx cf) (hot : C.hot = false) {c : Nat} {fs : List (String × D)} {dx z Ca : Addr} {oz : Obj} {ps : List (Addr × Obj)} (o : Option Nat) (hx : 0 < (M.W.exf c).length) (hc : M.ca c = some Ca)
    (hz : Zc (.ref Ca) (some dx) oz) (hf : ∃ vs, oz.data = .fields vs) : Cok (X.suite z ((z, oz) :: ps)) (M.at c fs dx z o) { C with hot := true, exn := o } sc n (fun _ _ _ _ => False) cf := by
  refine ⟨fun q => (by cases q), ?_, K.N, K.nd, K.vis, K.loc, K.gl, K.scn, K.scf, K.hu, K.gd, takes0, PassesOwn.never, ?_, K.scr, K.glb, K.bl, K.gs, K.gi⟩
  · intro i x f p pos _ ho hi hv hn
    simp only at ho
    subst ho
    obtain ⟨a1, a2, _⟩ := okN_ok hn
    obtain ⟨T, hno⟩ := (K.cool hot).exm.xf c Ca hx hc
    by_cases hff : f ∈ M.W.exf c
    · refine pe_imp (pe_xf (X := X) (a := z) (oe := oz) (pn := ps) T (hno f hff) hz hf (pe_var (X := X.suite z ((z, oz) :: ps)) (pos := p) (by rw [show (X.suite z ((z, oz) :: ps)).N = C.N from K.N]; exact hi) hv a1 a2)) ?_
      rintro σ H Q ⟨σI, h, as, sl, hi', q⟩
      simp only [evalE, Mx.at] at q
      cases e : σI[i]? with
      | none => rw [e] at q; exact q.elim
      | some w =>
        rw [e] at q
        cases w with
        | some _ => exact q.elim
        | none =>
          simp only [hff, if_true] at q
          have e1 := sl.ex i z rfl e
          obtain ⟨_, vs, g1, g2⟩ := hi'.xd dx fs rfl
          refine ⟨.ref z, e1, rfl, rfl, dx, vs, ?_⟩
          rcases g2.lookup f with ⟨g3, _⟩ | ⟨d, v, g3, g4, g5⟩
          · rw [g3] at q; exact q.elim
          · rw [g3] at q
            exact ⟨v, rfl, g1, g4, q v as H Ext.refl hi' g5⟩
    · refine ⟨fun pins s σ H Q I q => ?_⟩
      obtain ⟨σI, h, as, sl, hi', q⟩ := q
      simp only [evalE, Mx.at] at q
      cases e : σI[i]? with
      | none => rw [e] at q; exact q.elim
      | some w =>
        rw [e] at q
        cases w with
        | some _ => exact q.elim
        | none => simp only [hff, if_false] at q; exact q.elim
  · intro g ys a e1 e2
    obtain ⟨vs, h1, h2⟩ := K.con g ys a e1 e2
    exact ⟨vs, fun H as => ⟨(h1 H as).1, reps_x.mpr (h1 H as).2⟩, h2⟩
end
end Rf
end

section
set_option maxHeartbeats 2000000
namespace Rf
open PySem PySem.Spec PyProof.Rows L2

def FrOk (X : Cx) : Prop := X.stack = X.env :: X.outer ∧ X.env.frame = some X.env.locals
def hnB (C : Ck) (sc : Scope) (o : Option Nat) (y : Option Str) : Bool := match o, y with | none, none => true | some i, some y => isC C.N i y && kindB sc y .local | _, _ => false
theorem chkH_inv {C : Ck} {sc : Scope} {k : Nat} {o : Option Nat} {b : List S} {r : List (Nat × Option Nat × List S)} {hd : ExceptHandler} {hds : List ExceptHandler} (h : chkH C sc ((k, o, b) :: r) (hd :: hds) = true) :
    ∃ x p y st sts p2, hd = .ExceptHandler (some (.Name x p)) y (st :: sts) p2 ∧ k ∈ C.xc ∧ isC C.cnm k x = true ∧ glB sc x = true ∧ okN x = true ∧ hnB C sc o y = true ∧ chkB { C with hot := true, exn := o } sc b (st :: sts) = true ∧ chkH C sc r hds = true := by
  unfold chkH at h
  split at h <;> first | (cases h; done) | (rename_i e1 e2; cases e1; done) | skip
  rename_i e1 e2
  cases e1; cases e2
  simp only [Bool.and_eq_true, decide_eq_true_eq] at h
  obtain ⟨⟨⟨⟨⟨⟨h1, h2⟩, h3⟩, h4⟩, h5⟩, h6⟩, h7⟩ := h
  exact ⟨_, _, _, _, _, _, rfl, h1, h2, h3, h4, h5, h6, h7⟩
theorem chkS_raise {C : Ck} {sc : Scope} {c : Nat} {es : List E} {st : Stmt} (h : chkS C sc (.raise c es) st = true) :
    ∃ x p y xs pos pos2, st = .Raise (some (.Call (.Name x p) (y :: xs) [] pos)) none pos2 ∧ C.hot = false ∧ c ∈ C.xr ∧ isC C.cnm c x = true ∧ glB sc x = true ∧ okN x = true ∧ chkEs C es sc (y :: xs) = true := by
  unfold chkS at h
  split at h <;> first | (cases h; done) | (rename_i e1; cases e1; done) | skip
  rename_i e1
  cases e1
  simp only [Bool.and_eq_true, decide_eq_true_eq, Bool.not_eq_true'] at h
  obtain ⟨⟨⟨⟨⟨hot, h1⟩, h2⟩, h3⟩, h4⟩, h5⟩ := h
  exact ⟨_, _, _, _, _, _, rfl, hot, h1, h2, h3, h4, h5⟩
theorem chkS_try {C : Ck} {sc : Scope} {b : List S} {hs : List (Nat × Option Nat × List S)} {st : Stmt} (h : chkS C sc (.try_ b hs) st = true) :
    ∃ x hd hds pos, st = .Try x (hd :: hds) [] [] pos ∧ C.hot = false ∧ chkB C sc b x = true ∧ chkH C sc hs (hd :: hds) = true := by
  unfold chkS at h
  split at h <;> first | (cases h; done) | (rename_i e1; cases e1; done) | skip
  rename_i x hds pos e1
  cases e1
  simp only [Bool.and_eq_true, Bool.not_eq_true', List.isEmpty_eq_false_iff] at h
  obtain ⟨⟨⟨hot, h1⟩, h2⟩, h3⟩ := h
  cases hds with
  | nil => exact absurd rfl h2
  | cons hd hds => exact ⟨_, _, _, _, rfl, hot, h1, h3⟩
section
variable {X : Cx} {M : Mx} {C : Ck} {sc : Scope} {n : Nat} {Wx : WX} {cf : CF} {L : Nat}
theorem tS_next {σ : L2.St} {H : Hp} {Ds : Ends} (h : tS (M.g X.K) Wx (fun σ h => .ok (.nx σ) h) Ds σ H) : tNext Ds σ H := by
  obtain ⟨σI, h, as, sl, hi, p⟩ := h
  exact p as H σ Ext.refl hi sl
/-- a clause's suite -/
def tsOf (M : Mx) (K : PySem.W.Frag) (L : Nat) (cf : CF) (o : Option Nat) (b : List S) : Addr → Value → Option Addr → TS := fun z cl dx D σ G =>
  ∃ c fs d Ca, cl = .ref Ca ∧ dx = some d ∧ M.ca c = some Ca ∧ 0 < (M.W.exf c).length ∧ tS ((M.at c fs d z o).g K) (fun _ _ _ _ => False) (evalB M.W L cf (some (c, fs)) b) D σ G
def lOf (M : Mx) (K : PySem.W.Frag) (L : Nat) (cf : CF) : List (Nat × Option Nat × List S) → List Cls1
  | [] => []
  | (k, o, b) :: r => (.ref ((M.ca k).getD 0), o, tsOf M K L cf o b) :: lOf M K L cf r
theorem mix_of (K : Cok X M C sc n Wx cf) (hot : C.hot = false) {c : Nat} {fs : List (String × D)} {Ca dx : Addr} {vs : List (Str × V)} {D : Ends} (hx : 0 < (M.W.exf c).length) (hc : M.ca c = some Ca) :
    ∀ (hs : List (Nat × Option Nat × List S)) {hds : List ExceptHandler} {σI : Sg} {h : Hs} {as : List Addr} {H : Hp} {σ : L2.St}, chkH C sc hs hds = true → SL (M.g X.K) σI as H σ → HI (M.g X.K) h as H → H dx = some (.xd vs) → RepF (M.g X.K) as H fs vs →
      postS (M.g X.K) Wx as H (evalH M.W L cf c fs hs σI h) D → wMix X.K Wx D (lOf M X.K L cf hs) (.ref Ca) (some dx) σ H
  | [], _, σI, h, as, H, σ, _, sl, hi, e, rf, p => by
    simp only [evalH] at p
    exact p Ca dx vs as H σ Ext.refl hi hc e rf sl
  | (k, o, b) :: r, [], _, _, _, _, _, q, _, _, _, _, _ => by simp [chkH] at q
  | (k, o, b) :: r, hd :: hds, σI, h, as, H, σ, q, sl, hi, e, rf, p => by
    obtain ⟨x, p1, y, st, sts, p2, rfl, hk, ex, _, _, _, _, hr⟩ := chkH_inv q
    replace ex := isC_ok ex
    have k0 := K.cool hot
    obtain ⟨Ka, ek, _⟩ := k0.exm.nm k x hk ex
    have em := k0.exm.exm c k Ca Ka hx hk hc ek
    simp only [evalH] at p
    refine ⟨M.W.isa c k, by simp only [ek, Option.getD_some]; exact em, fun ht z hz => ?_, fun ht => ?_⟩
    · rw [ht, if_pos rfl] at p
      refine ⟨c, fs, dx, Ca, rfl, rfl, hc, hx, offI o σI, h, as, sl.on rfl, hi.on ?_, p.offs k0.nxd k0.nex⟩
      intro d' fs' eq
      have eq' : some (dx, fs) = some (d', fs') := eq
      cases eq'
      exact ⟨hi.noxd e, vs, e, repF_x.mpr rf⟩
    · rw [ht, if_neg (by simp)] at p
      exact mix_of K hot hx hc r hr sl hi e rf p
theorem kind_loc {y : Str} (K : Cok X M C sc n Wx cf) (h : kindB sc y .local = true) : X.env.kindOf y = some .local := K.scn y .local (by decide) (kindB_ok h)
mutual
theorem sS : ∀ (s : S) {X : Cx} {M : Mx} {C : Ck} {Wx : WX} {st : Stmt}, chkS C sc s st = true → Cok X M C sc n Wx cf → FrOk X → SS M X Wx L cf s st
  | .set i e, X, M, C, Wx, st, h, K, fr => by
    cases st <;> try (simp only [chkS, Bool.false_eq_true] at h; done)
    rename_i ts v pos
    match ts with
    | [] => simp [chkS] at h
    | t :: _ :: _ => cases t <;> simp [chkS] at h
    | [t] =>
      cases t <;> simp only [chkS, Bool.false_eq_true, Bool.and_eq_true] at h
      by_cases hb : (!isCompr v || apartB (by assumption) v) = true
      · exact ss_set K h.1.1.1 h.1.1.2 (sE e h.1.2 K).1 hb
      · have := h.2
        rw [Bool.or_eq_true] at this
        exact ss_here K h.1.1.1 h.1.1.2 h.1.2 (this.resolve_left hb)
  | .setT is e, X, M, C, Wx, st, h, K, fr => by
    cases st <;> try (simp only [chkS, Bool.false_eq_true] at h; done)
    rename_i ts v pos
    match ts with
    | [] => simp [chkS] at h
    | t :: _ :: _ => cases t <;> simp [chkS] at h
    | [t] =>
      cases t <;> simp only [chkS, Bool.false_eq_true, Bool.and_eq_true, Bool.not_eq_true'] at h
      exact ss_setT K h.1.1 (sE e h.1.2 K).1 h.2
  | .put o i e, X, M, C, Wx, st, h, K, fr => by
    cases st <;> try (simp only [chkS, Bool.false_eq_true] at h; done)
    rename_i ts v pos
    match ts with
    | [] => simp [chkS] at h
    | t :: _ :: _ => cases t <;> simp [chkS] at h
    | [t] =>
      cases t <;> simp only [chkS, Bool.false_eq_true, Bool.and_eq_true] at h
      exact ss_put K (sE o h.1.1 K).1 (sE i h.1.2 K).1 (sE e h.2 K).1
  | .fset o f e, X, M, C, Wx, st, h, K, fr => by
    cases st <;> try (simp only [chkS, Bool.false_eq_true] at h; done)
    rename_i ts v pos
    match ts with
    | [] => simp [chkS] at h
    | t :: _ :: _ => cases t <;> simp [chkS] at h
    | [t] =>
      cases t <;> simp only [chkS, Bool.false_eq_true, Bool.and_eq_true, decide_eq_true_eq, Bool.not_eq_true'] at h
      obtain ⟨⟨⟨hot, h1⟩, rfl⟩, h2⟩ := h
      exact ss_fset K hot (sE o h1 K).1 (sE e h2 K).1
  | .aug i o e, X, M, C, Wx, st, h, K, fr => by
    cases st <;> try (simp only [chkS, Bool.false_eq_true] at h; done)
    rename_i t op v pos
    cases t <;> simp only [chkS, Bool.false_eq_true, Bool.and_eq_true] at h
    exact ss_aug K h.1.1.1 h.1.1.2 h.1.2 (sE e h.2 K).1
  | .faug a f o e, X, M, C, Wx, st, h, K, fr => by
    cases st <;> try (simp only [chkS, Bool.false_eq_true] at h; done)
    rename_i t op v pos
    cases t <;> simp only [chkS, Bool.false_eq_true, Bool.and_eq_true, decide_eq_true_eq, Bool.not_eq_true'] at h
    obtain ⟨⟨⟨⟨hot, h1⟩, rfl⟩, h2⟩, h3⟩ := h
    exact ss_faug K hot h2 (sE a h1 K).1 (sE e h3 K).1
  | .expr e, X, M, C, Wx, st, h, K, fr => by
    cases st <;> simp only [chkS, Bool.false_eq_true, Bool.and_eq_true, Bool.not_eq_true'] at h
    exact ss_expr (sE e h.1 K).1 h.2
  | .ret e, X, M, C, Wx, st, h, K, fr => by
    cases st <;> try (simp only [chkS, Bool.false_eq_true] at h; done)
    rename_i v pos
    cases v <;> simp only [chkS, Bool.false_eq_true] at h
    exact ss_ret (sE e h K).1
  | .retN, X, M, C, Wx, st, h, K, fr => by
    cases st <;> try (simp only [chkS, Bool.false_eq_true] at h; done)
    rename_i v pos
    cases v <;> simp only [chkS, Bool.false_eq_true] at h
    refine ps_imp ps_retN ?_
    rintro D σ H ⟨σI, h, as, sl, hi, p⟩
    exact p as H .non Ext.refl hi (by simp only [Rep])
  | .ife c a b, X, M, C, Wx, st, h, K, fr => by
    cases st <;> simp only [chkS, Bool.false_eq_true, Bool.and_eq_true] at h
    exact ss_if (sE c h.1.1 K).1 (sB a h.1.2 K fr) (sB b h.2 K fr)
  | .whl c b, X, M, C, Wx, st, h, K, fr => by
    cases st <;> try (simp only [chkS, Bool.false_eq_true] at h; done)
    rename_i t x els pos
    cases els <;> simp only [chkS, Bool.false_eq_true, Bool.and_eq_true] at h
    exact ss_whl K (sE c h.1 K).1 (sB b h.2 K fr)
  | .for_ tg k its b, X, M, C, Wx, st, h, K, fr => by
    cases st <;> try (simp only [chkS, Bool.false_eq_true] at h; done)
    rename_i t x els bd pos
    cases bd <;> simp only [chkS, Bool.false_eq_true, Bool.and_eq_true, Bool.not_eq_true'] at h
    exact ss_for K h.1.1.1 h.1.1.2 h.1.2 (sB b h.2 K fr)
  | .raise c es, X, M, C, Wx, st, h, K, fr => by
    obtain ⟨x, p, y, xs, pos, pos2, rfl, hot, h1, h2, h3, h4, h5⟩ := chkS_raise h
    exact ss_raise K hot h1 h2 h3 h4 h5 (sEs es h5 K)
  | .try_ b hs, X, M, C, Wx, st, h, K, fr => by
    obtain ⟨x, e₀, es, pos, rfl, hot, h1, h3⟩ := chkS_try h
    · have hx := sH hs h3 K hot fr
      refine ps_imp (try_mix (tb := fun W => tS (M.g X.K) W (evalB M.W L cf M.cx b)) fr.1 fr.2 K.nd K.tk (fun W ps xe tk pas => ?_) hx) ?_
      · have K' : Cok (X.tr ps xe) M C sc n W cf := by
          have k := K.cool hot
          exact ⟨fun _ => ⟨k.calm, k.room, k.nex, k.nxd, k.ncx, k.fns, k.cls, k.mks, k.exs, k.exm⟩, fun _ _ _ _ _ q => (by rw [hot] at q; cases q), K.N, K.nd, K.vis, K.loc, K.gl, K.scn, K.scf, K.hu, K.gd, tk, pas, K.con, K.scr, K.glb, K.bl, K.gs, K.gi⟩
        exact sB b h1 K' fr
      · rintro D σ H ⟨σI, h, as, sl, hi, p⟩
        refine ⟨σI, h, as, sl, hi, ?_⟩
        simp only [evalS] at p
        match e : evalB M.W L cf M.cx b σI h with
        | .ok (.nx σ1) h1 => rw [e] at p; exact p
        | .ok (.bk σ1) h1 => rw [e] at p; exact p
        | .ok (.ct σ1) h1 => rw [e] at p; exact p
        | .ok (.rt d) h1 => rw [e] at p; exact p
        | .no => rw [e] at p; exact p.elim
        | .exc c fs σ1 h1 =>
          rw [e] at p
          simp only at p
          split at p
          · rename_i hx
            exact fun Ca dx vs as' H' σ' x' hi' hc g1 g2 sl' => mix_of K hot hx hc hs h3 sl' hi' g1 g2 (p.mono x')
          · exact p.elim
  | .brk, X, M, C, Wx, st, h, K, fr => by
    cases st <;> simp only [chkS, Bool.false_eq_true] at h
    refine ps_imp ps_break ?_
    rintro D σ H ⟨σI, h, as, sl, hi, p⟩
    exact p as H σ Ext.refl hi sl
  | .cnt, X, M, C, Wx, st, h, K, fr => by
    cases st <;> simp only [chkS, Bool.false_eq_true] at h
    refine ps_imp ps_continue ?_
    rintro D σ H ⟨σI, h, as, sl, hi, p⟩
    exact p as H σ Ext.refl hi sl
  | .stuck, X, M, C, Wx, st, h, K, fr => by
    refine ⟨fun pins s σ H D I q => ?_⟩
    obtain ⟨σI, h, as, sl, hi, p⟩ := q
    exact p.elim
  | .pass, X, M, C, Wx, st, h, K, fr => by
    have e : ∀ Ds σ H, tS (M.g X.K) Wx (evalS M.W L cf M.cx S.pass) Ds σ H → tNext Ds σ H := by
      rintro Ds σ H ⟨σI, h, as, sl, hi, p⟩
      exact p as H σ Ext.refl hi sl
    cases st <;> try (simp only [chkS, Bool.false_eq_true] at h; done)
    · rename_i v pos
      cases v <;> try (simp only [chkS, isStr, Bool.false_eq_true] at h; done)
      rename_i c k p
      cases c <;> simp only [chkS, isStr, Bool.false_eq_true] at h
      exact ps_imp ps_doc e
    · exact ps_imp ps_pass e
theorem sB : ∀ (ss : List S) {X : Cx} {M : Mx} {C : Ck} {Wx : WX} {sts : List Stmt}, chkB C sc ss sts = true → Cok X M C sc n Wx cf → FrOk X → SB M X Wx L cf ss sts
  | [], X, M, C, Wx, [], _, K, fr => by
    refine pss_imp pss_nil ?_
    rintro Ds σ H ⟨σI, h, as, sl, hi, p⟩
    exact p as H σ Ext.refl hi sl
  | s :: ss, X, M, C, Wx, st :: sts, h, K, fr => by
    simp only [chkB, Bool.and_eq_true] at h
    refine pss_imp (pss_cons (sS s h.1 K fr) (sB ss h.2 K fr)) ?_
    rintro Ds σ H ⟨σI, h, as, sl, hi, p⟩
    refine ⟨σI, h, as, sl, hi, ?_⟩
    simp only [evalB] at p
    match e : evalS M.W L cf M.cx s σI h with
    | .ok (.nx σ1) h1 => rw [e] at p; exact fun as' H' σ' x i s' => ⟨σ1, h1, as', s', i, p.mono x⟩
    | .ok (.bk σ1) h1 => rw [e] at p; exact p
    | .ok (.ct σ1) h1 => rw [e] at p; exact p
    | .ok (.rt d) h1 => rw [e] at p; exact p
    | .exc c fs σ1 h1 => rw [e] at p; exact p
    | .no => rw [e] at p; exact p
  | [], X, M, C, Wx, _ :: _, h, _, _ => by simp [chkB] at h
  | _ :: _, X, M, C, Wx, [], h, _, _ => by simp [chkB] at h
theorem sH : ∀ (hs : List (Nat × Option Nat × List S)) {X : Cx} {M : Mx} {C : Ck} {Wx : WX} {hds : List ExceptHandler}, chkH C sc hs hds = true → Cok X M C sc n Wx cf → C.hot = false → FrOk X → HdsX X hds (lOf M X.K L cf hs)
  | [], X, M, C, Wx, [], _, K, hot, fr => .nil
  | [], X, M, C, Wx, _ :: _, h, _, _, _ => by simp [chkH] at h
  | _ :: _, X, M, C, Wx, [], h, _, _, _ => by simp [chkH] at h
  | (k, o, b) :: r, X, M, C, Wx, hd :: hds, h, K, hot, fr => by
    obtain ⟨x, p1, y, st, sts, p2, rfl, h1, h2, h3, h4, h5, h6, h7⟩ := chkH_inv h
    · obtain ⟨Ka, ek, mk⟩ := (K.cool hot).exm.nm k _ h1 (isC_ok h2)
      refine .cons ⟨K.gl _ h3, (okN_ok h4).1, .inl (by rw [ek]; exact mk)⟩ ?_ ?_ (sH r h7 K hot fr)
      · cases o with
        | none => cases y with
          | none => trivial
          | some y => simp [hnB] at h5
        | some i => cases y with
          | none => simp [hnB] at h5
          | some y =>
            simp only [hnB, Bool.and_eq_true] at h5
            exact ⟨by rw [K.N]; exact isC_ok h5.1, kind_loc K h5.2⟩
      · intro z oz cl dx ps hz hf
        refine ⟨fun pins s σ H D I q => ?_⟩
        obtain ⟨c, fs, d, Ca, rfl, rfl, hc, hx, q⟩ := q
        exact (sB b h6 (K.suite hot (ps := ps) o hx hc hz hf) fr).run pins s σ H D I q
end
end
end Rf
end

section
namespace Rf
open PySem PySem.Spec PyProof.Rows L2

/-! ## a def of the text keeps what its term says -/
/-- the def at a, as the text has it -/
structure FnF (K : PySem.W.Frag) (C : Ck) (fi : FI) (a : Addr) where
  x : Str
  qual : Str
  params : Arguments
  body : List Stmt
  scope : Scope
  N : List Str
  ps : List Str
  fd : FuncData
  F : FunD K x qual params body scope [] [] a fd
  S : FnScope N ps scope
  B : Binds K fd ps []
  np : ps.length = fi.np
  ns : N.length = fi.ns
  ck : chkB { C with N := N } scope fi.body body = true
structure Facts (P : Program) (w : World) (K : PySem.W.Frag) (mg : Str → Option Value) (base : Heap) (M : Mx) (C : Ck) : Prop where
  fn : ∀ f a, M.fa f = some a → PySem.W.keepIn K (.ref a) = true ∧ ∃ fi, M.W.fns[f]? = some fi ∧ Nonempty (FnF K C fi a)
  nm : ∀ f x, C.fnm[f]? = some x → ∃ a, mg x = some (.ref a) ∧ M.fa f = some a
  con : ConOk M K
  scr : ScrOk M K
  glb : ∀ g x, C.gnm[g]? = some x → ∃ a, mg x = some (.ref a) ∧ M.ga g = some a
  cls : ∀ c ci, M.W.cls[c]? = some ci → ∀ Ca, M.ca c = some Ca → Cls K Ca ∧ (∀ f, f ∈ ci.flds → NoAttr K Ca (Str.ofString f)) ∧
    (∀ m f, ci.meths.lookup m = some f → ∃ a fi, Meth K Ca (Str.ofString m) a ∧ M.W.fns[f]? = some fi ∧ Nonempty (FnF K C fi a))
  mks : ∀ c x, c ∈ C.nw → C.cnm[c]? = some x → ∃ ci f Ca a fi, M.W.cls[c]? = some ci ∧ ci.ini = some f ∧ M.ca c = some Ca ∧ mg x = some (.ref Ca) ∧ Mk K Ca a ∧ M.W.fns[f]? = some fi ∧ Nonempty (FnF K C fi a)
  exs : ExcsOk P w K mg base M C
  exm : ExmOk K mg M C
  hot : C.hot = false
  nex : M.ex = none
  nxd : M.xd = none
  ncx : M.cx = none
  bl : ∀ x ∈ bltNames, mg x = none
  gs : ∀ (g : Nat) (x : Str) (s : List Char), C.snm[g]? = some (x, s) → ∃ t, mg x = some (.str (st s) t)
  gi : ∀ (g : Nat) (x : Str) (i : Int), C.inm[g]? = some (x, i) → ∃ t, mg x = some (.int i t)
section
variable {P : Program} {w : World} {K : PySem.W.Frag} {mg : Str → Option Value} {base : Heap} {M : Mx} {C : Ck} {L : Nat}
theorem sl_start {G : Gx} (hx : G.ex = none) {N : List Str} {ds : List D} {vs : List V} {as : List Addr} {H : Hp} (r : Reps G as H ds vs) : SL G (start N.length ds) as H (L2.start N vs) := by
  refine ⟨?_, fun i d e => ?_, fun _ _ q => by rw [hx] at q; cases q⟩
  · unfold start L2.start
    rw [List.length_append, List.length_append, List.length_map, List.length_map, List.length_replicate, List.length_replicate, r.length]
  · unfold start at e
    by_cases hi : i < ds.length
    · rw [List.getElem?_append_left (by simpa using hi), List.getElem?_map] at e
      cases ed : ds[i]? with
      | none => rw [ed] at e; cases e
      | some d' =>
        rw [ed] at e; cases e
        have : ∀ {ds : List D} {vs : List V} {i : Nat}, Reps G as H ds vs → ds[i]? = some d → ∃ v, vs[i]? = some v ∧ Rep G as H d v := by
          intro ds
          induction ds with
          | nil => intro vs i _ e; simp at e
          | cons d0 ds ih =>
            intro vs i r e
            obtain ⟨v, rr, rfl, r1, r2⟩ := r.cons_inv
            cases i with
            | zero => simp at e; subst e; exact ⟨v, rfl, r1⟩
            | succ i => simpa using ih r2 (by simpa using e)
        obtain ⟨v, e1, e2⟩ := this r ed
        have hv : i < vs.length := (List.getElem?_eq_some_iff.mp e1).1
        refine ⟨v, ?_, e2⟩
        unfold L2.start
        rw [List.getElem?_append_left (by simpa using hv), List.getElem?_map, e1]; rfl
    · rw [List.getElem?_append_right (by simpa using hi), List.getElem?_replicate] at e
      split at e <;> cases e
theorem callF_np {W : Wd} {n f : Nat} {ds : List D} {h : Hs} {fi : FI} (e : W.fns[f]? = some fi) (hn : callF W L n f ds h ≠ .no) : ds.length = fi.np := by
  cases n with
  | zero => exact absurd rfl hn
  | succ n =>
    simp only [callF, e] at hn
    by_cases hl : ds.length = fi.np
    · exact hl
    · rw [if_neg hl] at hn; exact absurd rfl hn
theorem fnOk (Fx : Facts P w K mg base M C) : ∀ (n f : Nat) (a : Addr) (fi : FI), M.W.fns[f]? = some fi → ∀ F : FnF K C fi a, FnG P w K mg base (L2.CX P w) (2 * n + 1) a F.fd F.ps (spI M K (callF M.W L n) fi.np f) := by
  intro n
  induction n with
  | zero =>
    intro f a fi ef F
    refine ⟨fun vs H Q E h => ?_, fun A outer s H args us vs Q E _ hr e0 hb r hsp => ?_⟩
    · rw [h.1, F.np]
    · obtain ⟨_, ds, h, as, hi, rs, p⟩ := hsp
      exact p.elim
  | succ n ih =>
    have ihB : ∀ (f : Nat) (a : Addr) (fi : FI), M.W.fns[f]? = some fi → FnF K C fi a → FnB P w K mg base M n (callF M.W L n) a f := fun f a fi ef F => ⟨F.fd, F.ps, fi.np, F.B, F.np, ih f a fi ef F, fun ds h hn => callF_np ef hn⟩
    intro f a fi ef F
    refine fn_G F.F F.S (fun vs H Q E h => by rw [h.1, F.np]) (fun cdv A outer s H vs Q E hgd hr hsp => ?_)
    obtain ⟨hl, ds, h, as, hi, rs, p⟩ := hsp
    refine ⟨tS (M.g K) (fun c d _ H => E c d H) (evalB M.W L (callF M.W L n) M.cx fi.body), ?_, ?_⟩
    · have Kk : Cok (cxOf (L2.CX P w) P w K mg base F.N F.qual F.scope a cdv A outer s H E) M { C with N := F.N } F.scope n (fun c d _ H => E c d H) (callF M.W L n) := by
        refine ⟨fun _ => ⟨rfl, hr, Fx.nex, Fx.nxd, Fx.ncx, ⟨Fx.nm, fun f a e => ?_⟩, fun c ci e Ca eC => ?_, fun c x h1 h2 => ?_, Fx.exs, ⟨Fx.exm.nm, Fx.exm.exm, Fx.exm.xf⟩⟩, fun _ _ _ _ _ q => (by rw [show ({ C with N := F.N } : Ck).hot = C.hot from rfl, Fx.hot] at q; cases q), rfl, F.S.nd, fun x hx => visB_cases hx, fun x hx => ⟨locB_cases hx, .inl rfl⟩, fun x hx => kindB_ok hx, fun x k _ e => e, fun x e => .inl e, (by have := hr.un; show (A.deeper (envOfC F.qual F.scope s.heap.objs.size a cdv)).units + 200 < cLine; omega), hgd, takes_of rfl rfl rfl rfl, passes_of rfl, Fx.con, Fx.scr, Fx.glb, Fx.bl, Fx.gs, Fx.gi⟩
        · obtain ⟨kp, fi', ef', ⟨F'⟩⟩ := Fx.fn f a e
          exact ⟨kp, ihB f a fi' ef' F'⟩
        · obtain ⟨c1, c2, c3⟩ := Fx.cls c ci e Ca eC
          refine ⟨c1, c2, fun m f em => ?_⟩
          obtain ⟨a', fi', hm, ef', ⟨F'⟩⟩ := c3 m f em
          exact ⟨a', hm, ihB f a' fi' ef' F'⟩
        · obtain ⟨ci, f', Ca, a', fi', e1, e2, e3, e4, mk, ef', ⟨F'⟩⟩ := Fx.mks c x h1 h2
          exact ⟨ci, f', Ca, a', e1, e2, e3, e4, mk, ihB f' a' fi' ef' F'⟩
      exact sB fi.body F.ck Kk ⟨rfl, rfl⟩
    · have hdl : ds.length = fi.np := by rw [rs.length, hl]
      simp only [callF, ef, if_pos hdl] at p
      rw [← Fx.ncx] at p
      refine ⟨start fi.ns ds, h, as, ?_, hi, ?_⟩
      · rw [← F.ns]; exact sl_start Fx.nex rs
      · match e : evalB M.W L (callF M.W L n) M.cx fi.body (start fi.ns ds) h with
        | .ok (.nx σ1) h1 => rw [e] at p; exact fun as' H' σ' x i _ => p .non as' H' x i (by simp only [Rep])
        | .ok (.bk σ1) h1 => rw [e] at p; exact p.elim
        | .ok (.ct σ1) h1 => rw [e] at p; exact p.elim
        | .ok (.rt d) h1 => rw [e] at p; exact fun as' H' v x i r => p v as' H' x i r
        | .exc c fs σ1 h1 => rw [e] at p; exact fun Cc dx vs as' H' σ' x i k1 k2 k3 _ => p Cc dx vs as' H' x i k1 k2 k3
        | .no => rw [e] at p; exact p.elim
end
end Rf
end

section
namespace Rf
open PySem PySem.Spec PyProof.Rows L2

/-! ## the law -/
def cbody : Stmt → List Stmt
  | .ClassDef (body := b) .. => b
  | _ => []
theorem FnG.cx0 {P : Program} {w : World} {K : PySem.W.Frag} {mg : Str → Option Value} {base : Heap} {k : Nat} {f : Addr} {fd : FuncData} {ps : List Str} {sp : Sp} (F : FnG P w K mg base (L2.CX P w) k f fd ps sp) :
    FnG P w K mg base L2.CX0 k f fd ps (fun vs H Q _ => sp vs H Q fun _ _ _ => False) :=
  ⟨fun vs H Q E h => F.ln vs H Q _ h, fun A outer s H args us vs Q E g hr e0 hb r hsp => codeAny_mono (F.go A outer s H args us vs Q _ g hr e0 hb r hsp) fun r s' h => by
    cases r with
    | error e =>
      obtain ⟨_, _, _, _, _, _, _, _, _, _, _, _, hE⟩ := h
      exact hE.elim
    | ok fl => cases fl <;> exact h⟩
/-- what the head tells of a def, and its term -/
structure DefOk (C : Ck) (d : He.DefD) (fi : FI) (x : Str × Option Str) (N ps : List Str) : Prop where
  at_ : d.at_ = x
  dfl : d.dfl = []
  kwd : d.kwd = []
  S : FnScope N ps d.scope
  hb : (∀ (kV doc pm : Value) (an : Option Addr) (cdv ct : Value) (us : List Value), us.length = ps.length → bindArgs (PySem.W.fnOf d.name d.qual d.params d.body d.scope .none kV doc pm an cdv ct) ⟨us, []⟩ = pure (ps.zip us))
  np : ps.length = fi.np
  ns : N.length = fi.ns
  ck : chkB { C with N := N } d.scope fi.body d.body = true
structure ClsI where
  nm : Str
  ci : CI
/-- a class of exceptions: its fields, where its __init__ stands among the defs -/
structure ExI where
  nm : Str
  flds : List String := []
  ini : Nat := 0
structure Pg where
  fns : List FI
  names : List Str
  cls : List ClsI := []
  exs : List ExI := []
  nums : List (Str × Int) := []
  nw : List Nat := []
  snm : List (Str × List Char) := []
  cons : List (Str × List D) := []
  isa : Nat → Nat → Bool := fun _ _ => false
def ClsI.fa (k : ClsI) : List He.Fa := .glo k.nm :: .cls k.nm :: k.ci.flds.map (fun f => He.Fa.noat k.nm (Str.ofString f)) ++ k.ci.meths.map (fun p => He.Fa.meth k.nm (Str.ofString p.1)) ++ (if k.ci.ini.isSome then [He.Fa.mkr k.nm] else [])
def Pg.fa0 (p : Pg) : List He.Fa := p.names.map He.Fa.glo ++ bltNames.map He.Fa.free ++ p.cls.flatMap ClsI.fa ++ p.snm.map (fun q => He.Fa.str q.1 (st q.2))
def Pg.fa (p : Pg) : List He.Fa := p.fa0 ++ p.nums.map (fun q => He.Fa.int q.1 q.2) ++ p.exs.map (fun e => He.Fa.glo e.nm) ++ p.cons.map (fun q => He.Fa.glo q.1)
def Pg.exf (p : Pg) (c : Nat) : List String := if c < p.cls.length then [] else match p.exs[c - p.cls.length]? with | some e => e.flds | none => []
def Pg.wd (p : Pg) (ns : List Int) : Wd := ⟨p.fns, p.cls.map (·.ci), p.cons.map (·.2), p.isa, ns, p.exf⟩
def Pg.xc (p : Pg) : List Nat := (List.range p.exs.length).map (p.cls.length + ·)
def Pg.ck (p : Pg) : Ck := { N := [], fnm := p.names, cnm := p.cls.map (·.nm) ++ p.exs.map (·.nm), gnm := p.cons.map (·.1), nw := p.nw, snm := p.snm, xc := p.xc, xr := p.xc.filter fun c => !(p.exf c).isEmpty, inm := p.nums }
def Pg.mx (p : Pg) (ns : List Int) (K : PySem.W.Frag) (oa : Option Addr) : Mx :=
  ⟨p.wd ns, fun f => (p.names[f]?).map (He.ga K), fun c => ((p.cls.map (·.nm) ++ p.exs.map (·.nm))[c]?).map (He.ga K), fun g => if g < p.cons.length then (p.cons[g]?).map (fun q => He.ga K q.1) else if g = p.cons.length then oa else none, none, none, none⟩
/-- the constants' objects -/
def Pg.ConsOk0 (p : Pg) (K : PySem.W.Frag) (mg : Str → Option Value) : Prop := ∀ q ∈ p.cons, mg q.1 = some (.ref (He.ga K q.1)) ∧ ∃ vs : List V, (∀ H : Hp, SqT K H (He.ga K q.1) vs) ∧ (∀ (G : Gx) (as : List Addr) (H : Hp), G.K = K → Reps G as H q.2 vs) ∧ q.2.all flat = true
/-- the __init__ of an exception -/
structure ExOk (d : He.DefD) (e : ExI) (N ps : List Str) : Prop where
  at_ : d.at_ = (e.nm, some ("__init__" : Str))
  dfl : d.dfl = []
  kwd : d.kwd = []
  S : FnScope N ps d.scope
  hb : (∀ (kV doc pm : Value) (an : Option Addr) (cdv ct : Value) (us : List Value), us.length = ps.length → bindArgs (PySem.W.fnOf d.name d.qual d.params d.body d.scope .none kV doc pm an cdv ct) ⟨us, []⟩ = pure (ps.zip us))
  nn : N = ps
  ln : ps.length = e.flds.length + 1
  l9 : e.flds.length ≤ 900
  ck : chkI N d.scope 0 e.flds d.body = true
/-- every def, every method has its term -/
structure Pg.Ok (p : Pg) (defs : List He.DefD) : Prop where
  fn : ∀ (f : Nat) (x : Str), p.names[f]? = some x → ∃ (fi : FI) (d : He.DefD) (N ps : List Str), p.fns[f]? = some fi ∧ defs[f]? = some d ∧ DefOk p.ck d fi (x, none) N ps
  mt : ∀ (c : Nat) (k : ClsI), p.cls[c]? = some k → ∀ q ∈ k.ci.meths, ∃ (fi : FI) (d : He.DefD) (N ps : List Str), p.fns[q.2]? = some fi ∧ defs[q.2]? = some d ∧ DefOk p.ck d fi (k.nm, some (Str.ofString q.1)) N ps
  ini : ∀ (c : Nat) (k : ClsI), p.cls[c]? = some k → ∀ f, k.ci.ini = some f → ∃ (fi : FI) (d : He.DefD) (N ps : List Str), p.fns[f]? = some fi ∧ defs[f]? = some d ∧ DefOk p.ck d fi (k.nm, some ("__init__" : Str)) N ps
  nw : ∀ c ∈ p.nw, ∃ k f, p.cls[c]? = some k ∧ k.ci.ini = some f
  ex : ∀ e ∈ p.exs, e.flds ≠ [] → ∃ (d : He.DefD) (N ps : List Str), defs[e.ini]? = some d ∧ ExOk d e N ps
/-- constants of the module -/
def dvOf : D → He.Dv
  | .bl b => .bl b
  | .int i => .int i
  | .str s => .str (st s)
  | _ => .non
def leafD : D → Bool
  | .non => true
  | .bl _ => true
  | .int _ => true
  | .str _ => true
  | _ => false
/-- an own class over ValueError, with its own dict -/
def oexB (K : PySem.W.Frag) (C : Addr) : Bool :=
  (match K.lookup C with
    | some ⟨.type t, _, .cls cd, sl⟩ => decide (t = "type") && decide (cd.hasDel = false) && decide (cd.hasDict = true) && (match cd.mro with
      | .ref C' :: bm => decide (C' = C) && PySem.HandSPX.refsVE bm
      | _ => false) && (match sl.toList with
      | [_, _, _, _, some (.builtin nw), _] => decide (nw = "ValueError.__new__")
      | _ => false)
    | _ => false) && He.eqO (PySem.W.findIn K (.ref C) "__setattr__") (some (some (.builtin "object.__setattr__"))) && decide (PySem.W.subIn K (.ref C) (.type "BaseException") = some true) && decide (PySem.W.typeIn K (.ref C) = some (.type "type")) && PySem.W.keepIn K (.ref C)
theorem oexB_ok {K : PySem.W.Frag} {C : Addr} (q : oexB K C = true) : OexC K C := by
  simp only [oexB, Bool.and_eq_true, decide_eq_true_eq] at q
  obtain ⟨⟨⟨⟨q1, q2⟩, q3⟩, q4⟩, q5⟩ := q
  refine ⟨?_, He.eqO_ok q2, q3, q4, q5⟩
  split at q1
  · rename_i t dd cd sl e
    simp only [Bool.and_eq_true, decide_eq_true_eq] at q1
    obtain ⟨⟨⟨⟨rfl, g1⟩, g2⟩, g3⟩, g4⟩ := q1
    split at g3
    · rename_i C' bm em
      simp only [Bool.and_eq_true, decide_eq_true_eq] at g3
      obtain ⟨rfl, g3⟩ := g3
      split at g4
      · rename_i k0 k1 k2 k3 nw k5 es
        have g4' := of_decide_eq_true g4
        subst g4'
        obtain ⟨nm, bs, mro, ns, qn, hd, sn, sub, ab, col, dl⟩ := cd
        simp only at g1 g2 em
        subst g1 g2 em
        obtain ⟨sl⟩ := sl
        simp only at es
        subst es
        exact ⟨nm, qn, ns, bs, bm, sn, sub, ab, col, dd, k0, k1, k2, k3, k5, e, g3⟩
      · cases g4
    · cases g3
  · cases q1
def exiB (K : PySem.W.Frag) (e : ExI) : Bool := e.flds.isEmpty || (xfB K (He.ga K e.nm) && (e.flds.all fun f => He.eqO (PySem.W.findIn K (.ref (He.ga K e.nm)) (Str.ofString f)) (some none)) && oexB K (He.ga K e.nm) &&
  He.eqO (PySem.W.findIn K (.ref (He.ga K e.nm)) "__init__") (some (some (.ref (He.fAd K (e.nm, some ("__init__" : Str)))))) && decide (PySem.W.typeIn K (.ref (He.fAd K (e.nm, some ("__init__" : Str)))) = some (.type "function")))
def Pg.exB (p : Pg) (K : PySem.W.Frag) : Bool :=
  (p.cons.all fun q => He.tupB K q.1 (q.2.map dvOf) && q.2.all leafD) && (p.exs.all (exiB K)) &&
  (List.range p.exs.length).all fun i => match p.exs[i]? with
    | some e => e.flds.isEmpty || (List.range p.exs.length).all fun j => match p.exs[j]? with
      | some k => decide (PySem.W.exmOne K (.ref (He.ga K e.nm)) (.ref (He.ga K k.nm)) = some (p.isa (p.cls.length + i) (p.cls.length + j)))
      | none => true
    | none => true
section
variable {P : Program} {w : World} {K : PySem.W.Frag} {mg : Str → Option Value} {base h : Heap} {C : Ck} {L : Nat} {fa : List He.Fa} {defs : List He.DefD} {p : Pg}
theorem DefOk.fnf {d : He.DefD} {fi : FI} {x : Str × Option Str} {N ps : List Str} {i : Nat} (D : DefOk C d fi x N ps) (c : He.SaysD fa defs K) (e : defs[i]? = some d) : PySem.W.keepIn K (.ref (He.fAd K x)) = true ∧ Nonempty (FnF K C fi (He.fAd K x)) := by
  obtain ⟨fd, F⟩ := c.def_ i (d := d) e
  have e1 : d.dvs K = [] := by unfold He.DefD.dvs; rw [D.dfl]; rfl
  have e2 : d.kws K = [] := by unfold He.DefD.kws; rw [D.kwd]; rfl
  rw [e1, e2, D.at_] at F
  exact ⟨F.kp, ⟨⟨d.name, d.qual, d.params, d.body, d.scope, N, ps, fd, F, D.S, F.bindsN D.hb, D.np, D.ns, D.ck⟩⟩⟩
theorem fact_in (c : He.SaysD fa defs K) {f : He.Fa} (h : f ∈ fa) : f.ok K = true := by
  obtain ⟨i, e⟩ := List.getElem?_of_mem h
  exact c.fact i e
theorem fa0_in {f : He.Fa} (h : f ∈ p.fa0) : f ∈ p.fa := List.mem_append_left _ (List.mem_append_left _ (List.mem_append_left _ h))
theorem fa_cls {k : ClsI} {f : He.Fa} (hk : k ∈ p.cls) (h : f ∈ k.fa) : f ∈ p.fa := by
  refine fa0_in ?_
  unfold Pg.fa0
  exact List.mem_append_left _ (List.mem_append_right _ (List.mem_flatMap.mpr ⟨k, hk, h⟩))
theorem lookup_mem' {m : String} {f : Nat} : ∀ {l : List (String × Nat)}, l.lookup m = some f → (m, f) ∈ l
  | [], h => by cases h
  | (a, b) :: r, h => by
    rw [List.lookup_cons] at h
    split at h
    · rename_i e
      obtain rfl := eq_of_beq e
      cases h; exact List.mem_cons_self ..
    · exact List.mem_cons_of_mem _ (lookup_mem' h)
theorem leaf_rep {G : Gx} {as : List Addr} {H : Hp} : ∀ {ds : List D}, ds.all leafD = true → Reps G as H ds ((ds.map dvOf).map (He.Dv.v G.K)) ∧ ds.all flat = true
  | [], _ => ⟨by simp [Reps], rfl⟩
  | d :: ds, h => by
    simp only [List.all_cons, Bool.and_eq_true] at h
    obtain ⟨h1, h2⟩ := leaf_rep (ds := ds) h.2
    simp only [List.map_cons, List.all_cons, h2, Bool.and_true]
    have h0 := h.1
    cases d <;> first | (simp [leafD] at h0; done) | exact ⟨by simp only [Reps]; exact ⟨_, _, rfl, by simp only [Rep]; rfl, h1⟩, rfl⟩
theorem consOk (X : K.In h) (G : h.Ns mainGlobals mg) (c : He.SaysD p.fa defs K) (hx : p.exB K = true) : p.ConsOk0 K mg := by
  intro q hq
  unfold Pg.exB at hx
  simp only [Bool.and_eq_true] at hx
  have h1 := List.all_eq_true.mp hx.1.1 q hq
  simp only [Bool.and_eq_true] at h1
  refine ⟨He.glo_ok X G (fact_in c (List.mem_append_right _ (List.mem_map_of_mem (f := fun q : Str × List D => He.Fa.glo q.1) hq))), _, He.tupB_ok h1.1, fun G as H e => ?_, (leaf_rep (G := ⟨⟨[], [], [], fun _ _ => false, [], fun _ => []⟩, K, fun _ => none, fun _ => none, fun _ => none, none, none⟩) (as := []) (H := fun _ => none) h1.2).2⟩
  subst e
  exact (leaf_rep h1.2).1
theorem exs_at {c : Nat} {x : Str} (hc : c ∈ p.xc) (e : (p.cls.map (·.nm) ++ p.exs.map (·.nm))[c]? = some x) : ∃ i k, c = p.cls.length + i ∧ i < p.exs.length ∧ p.exs[i]? = some k ∧ x = k.nm ∧ p.exf c = k.flds := by
  unfold Pg.xc at hc
  obtain ⟨i, hi, rfl⟩ := List.mem_map.mp hc
  rw [List.mem_range] at hi
  rw [List.getElem?_append_right (by simp), List.getElem?_map, List.length_map, show p.cls.length + i - p.cls.length = i by omega] at e
  obtain ⟨k, ek, rfl⟩ := Option.map_eq_some_iff.mp e
  refine ⟨i, k, rfl, hi, ek, rfl, ?_⟩
  unfold Pg.exf
  rw [if_neg (by omega), show p.cls.length + i - p.cls.length = i by omega, ek]
theorem exf_at {c : Nat} (h : 0 < (p.exf c).length) : ∃ i k, c = p.cls.length + i ∧ i < p.exs.length ∧ p.exs[i]? = some k ∧ k.flds = p.exf c := by
  unfold Pg.exf at h ⊢
  by_cases hc : c < p.cls.length
  · rw [if_pos hc] at h; simp at h
  · rw [if_neg hc] at h ⊢
    cases e : p.exs[c - p.cls.length]? with
    | none => rw [e] at h; simp at h
    | some k => exact ⟨c - p.cls.length, k, by omega, (List.getElem?_eq_some_iff.mp e).1, e, rfl⟩
theorem ca_at {ns : List Int} {oa : Option Addr} {i : Nat} {k : ExI} (ek : p.exs[i]? = some k) : (p.mx ns K oa).ca (p.cls.length + i) = some (He.ga K k.nm) := by
  show ((p.cls.map (·.nm) ++ p.exs.map (·.nm))[p.cls.length + i]?).map (He.ga K) = _
  rw [List.getElem?_append_right (by simp), List.getElem?_map, List.length_map, show p.cls.length + i - p.cls.length = i by omega, ek]; rfl
theorem exi_ok {e : ExI} (hx : p.exB K = true) (he : e ∈ p.exs) (hf : e.flds ≠ []) : XfC K (He.ga K e.nm) ∧ (∀ f ∈ e.flds, PySem.W.findIn K (.ref (He.ga K e.nm)) (Str.ofString f) = some none) ∧ OexC K (He.ga K e.nm) ∧
    PySem.W.findIn K (.ref (He.ga K e.nm)) "__init__" = some (some (.ref (He.fAd K (e.nm, some ("__init__" : Str))))) ∧ PySem.W.typeIn K (.ref (He.fAd K (e.nm, some ("__init__" : Str)))) = some (.type "function") := by
  unfold Pg.exB at hx
  simp only [Bool.and_eq_true] at hx
  have h1 := List.all_eq_true.mp hx.1.2 e he
  unfold exiB at h1
  have hne : e.flds.isEmpty = false := by simpa using hf
  simp only [hne, Bool.false_or, Bool.and_eq_true, decide_eq_true_eq, List.all_eq_true] at h1
  obtain ⟨⟨⟨⟨g1, g2⟩, g3⟩, g4⟩, g5⟩ := h1
  exact ⟨xfB_ok g1, fun f hf => He.eqO_ok (g2 f hf), oexB_ok g3, He.eqO_ok g4, g5⟩
theorem factsP (X : K.In h) (G : h.Ns mainGlobals mg) (c : He.SaysD p.fa defs K) (hd : p.Ok defs) (hx : p.exB K = true)
    {ns : List Int} {oa : Option Addr} (ho : ∀ a, oa = some a → ∀ H : Hp, SqL K H a (ns.map V.int)) : Facts P w K mg base (p.mx ns K oa) p.ck where
  fn := fun f a e => by
    simp only [Pg.mx, Option.map_eq_some_iff] at e
    obtain ⟨x, ex, rfl⟩ := e
    obtain ⟨fi, d, N, ps, e1, e2, D⟩ := hd.fn f x ex
    obtain ⟨kp, F⟩ := D.fnf c e2
    exact ⟨kp, fi, e1, F⟩
  nm := fun f x e => by
    refine ⟨He.ga K x, He.glo_ok X G (fact_in c ?_), by show (p.names[f]?).map (He.ga K) = _; rw [show p.names[f]? = some x from e]; rfl⟩
    refine fa0_in ?_
    unfold Pg.fa0
    exact List.mem_append_left _ (List.mem_append_left _ (List.mem_append_left _ (List.mem_map_of_mem (List.mem_of_getElem? e))))
  con := fun g ys a e1 e2 => by
    have e1' : (p.cons.map (·.2))[g]? = some ys := e1
    rw [List.getElem?_map, Option.map_eq_some_iff] at e1'
    obtain ⟨q, eq, rfl⟩ := e1'
    have hg : g < p.cons.length := (List.getElem?_eq_some_iff.mp eq).1
    simp only [Pg.mx, if_pos hg, eq, Option.map_some, Option.some.injEq] at e2
    subst e2
    obtain ⟨_, vs, k1, k2, k3⟩ := consOk X G c hx q (List.mem_of_getElem? eq)
    exact ⟨vs, fun H as => ⟨k1 H, k2 _ as H rfl⟩, k3⟩
  scr := fun a e H => by
    have e' : (if (p.cons.map (·.2)).length < p.cons.length then (p.cons[(p.cons.map (·.2)).length]?).map (fun q => He.ga K q.1) else if (p.cons.map (·.2)).length = p.cons.length then oa else none) = some a := e
    rw [List.length_map, if_neg (Nat.lt_irrefl _), if_pos rfl] at e'
    exact ho a e' H
  glb := fun g x e => by
    have e' : (p.cons.map (·.1))[g]? = some x := e
    rw [List.getElem?_map, Option.map_eq_some_iff] at e'
    obtain ⟨q, eq, rfl⟩ := e'
    have hg : g < p.cons.length := (List.getElem?_eq_some_iff.mp eq).1
    exact ⟨He.ga K q.1, (consOk X G c hx q (List.mem_of_getElem? eq)).1, by simp only [Pg.mx, if_pos hg, eq, Option.map_some]⟩
  cls := fun cc ci e Ca eC => by
    have e' : (p.cls.map (·.ci))[cc]? = some ci := e
    rw [List.getElem?_map, Option.map_eq_some_iff] at e'
    obtain ⟨k, ek, rfl⟩ := e'
    have hk := List.mem_of_getElem? ek
    have hl : cc < (p.cls.map (·.nm)).length := by rw [List.length_map]; exact (List.getElem?_eq_some_iff.mp ek).1
    simp only [Pg.mx] at eC
    rw [List.getElem?_append_left hl, List.getElem?_map, ek] at eC
    cases eC
    refine ⟨He.cls_ok (fact_in c (fa_cls hk ?_)), fun f hf => He.noat_ok (fact_in c (fa_cls hk ?_)), fun m f em => ?_⟩
    · exact List.mem_append_left _ (List.mem_append_left _ (List.mem_cons_of_mem _ (List.mem_cons_self ..)))
    · exact List.mem_append_left _ (List.mem_append_left _ (List.mem_cons_of_mem _ (List.mem_cons_of_mem _ (List.mem_map_of_mem hf))))
    · have hm := lookup_mem' em
      obtain ⟨fi, d, N, ps, e1, e2, D⟩ := hd.mt cc k ek _ hm
      refine ⟨_, fi, He.meth_ok (fact_in c (fa_cls hk ?_)), e1, (D.fnf c e2).2⟩
      exact List.mem_append_left _ (List.mem_append_right _ (List.mem_map_of_mem (f := fun p => He.Fa.meth k.nm (Str.ofString p.1)) hm))
  mks := fun cc x h1 h2 => by
    obtain ⟨k, f, ek, ei⟩ := hd.nw cc h1
    have hk := List.mem_of_getElem? ek
    have hl : cc < (p.cls.map (·.nm)).length := by rw [List.length_map]; exact (List.getElem?_eq_some_iff.mp ek).1
    have h2' : (p.cls.map (·.nm) ++ p.exs.map (·.nm))[cc]? = some x := h2
    rw [List.getElem?_append_left hl, List.getElem?_map, ek] at h2'
    cases h2'
    obtain ⟨fi, d, N, ps, e1, e2, D⟩ := hd.ini cc k ek f ei
    refine ⟨k.ci, f, He.ga K k.nm, _, fi, ?_, ei, ?_, He.glo_ok X G (fact_in c (fa_cls hk ?_)), He.mkr_ok (fact_in c (fa_cls hk ?_)), e1, (D.fnf c e2).2⟩
    · show (p.cls.map (·.ci))[cc]? = _
      rw [List.getElem?_map, ek]; rfl
    · show ((p.cls.map (·.nm) ++ p.exs.map (·.nm))[cc]?).map (He.ga K) = _
      rw [List.getElem?_append_left hl, List.getElem?_map, ek]; rfl
    · exact List.mem_append_left _ (List.mem_append_left _ (List.mem_cons_self ..))
    · refine List.mem_append_right _ ?_
      rw [ei]; exact List.mem_cons_self ..
  exs := fun cc x h1 h2 => by
    obtain ⟨h1, h1'⟩ := List.mem_filter.mp h1
    obtain ⟨i, k, rfl, hi, ek, rfl, ef⟩ := exs_at h1 h2
    have hk := List.mem_of_getElem? ek
    have hf : k.flds ≠ [] := by rw [← ef]; simpa using h1'
    obtain ⟨q1, q2, q3, q4, q5⟩ := exi_ok hx hk hf
    obtain ⟨d, N, ps, ed, D⟩ := hd.ex k hk hf
    obtain ⟨fd, F⟩ := c.def_ k.ini (d := d) ed
    have e1 : d.dvs K = [] := by unfold He.DefD.dvs; rw [D.dfl]; rfl
    have e2 : d.kws K = [] := by unfold He.DefD.kws; rw [D.kwd]; rfl
    rw [e1, e2, D.at_] at F
    refine ⟨He.ga K k.nm, _, fd, ps, ca_at ek, He.glo_ok X G (fact_in c ?_), q3, q4, q5, ?_, F.bindsN D.hb⟩
    · exact List.mem_append_left _ (List.mem_append_right _ (List.mem_map_of_mem (f := fun e : ExI => He.Fa.glo e.nm) hk))
    · show FnOk P w K mg base CX0 1 _ fd ps (spX _ (p.exf _))
      rw [ef]
      exact init_ok F D.S q3 (by cases h : k.flds with | nil => exact absurd h hf | cons _ _ => simp) D.l9 D.ck D.ln D.nn q2
  exm := by
    refine ⟨fun kk x h1 h2 => ?_, fun cc kk Ca Ka h1 h2 g1 g2 => ?_, fun cc Ca h1 g1 => ?_⟩
    · obtain ⟨i, k, rfl, hi, ek, rfl, ef⟩ := exs_at h1 h2
      exact ⟨_, ca_at ek, He.glo_ok X G (fact_in c (List.mem_append_left _ (List.mem_append_right _ (List.mem_map_of_mem (f := fun e : ExI => He.Fa.glo e.nm) (List.mem_of_getElem? ek)))))⟩
    · obtain ⟨i, e, rfl, hi, ee, ef⟩ := exf_at h1
      have h2' : kk ∈ p.xc := h2
      unfold Pg.xc at h2'
      obtain ⟨j, hj, rfl⟩ := List.mem_map.mp h2'
      rw [List.mem_range] at hj
      obtain ⟨k, ek⟩ : ∃ k, p.exs[j]? = some k := ⟨p.exs[j], by simp [hj]⟩
      rw [ca_at ee] at g1; rw [ca_at ek] at g2
      cases g1; cases g2
      unfold Pg.exB at hx
      simp only [Bool.and_eq_true] at hx
      have z1 := List.all_eq_true.mp hx.2 i (List.mem_range.mpr hi)
      rw [ee] at z1
      have hne : e.flds.isEmpty = false := by rw [ef]; cases q : p.exf (p.cls.length + i) with | nil => rw [show (p.mx ns K oa).W.exf = p.exf from rfl, q] at h1; simp at h1 | cons _ _ => rfl
      simp only [hne, Bool.false_or] at z1
      have z2 := List.all_eq_true.mp z1 j (List.mem_range.mpr hj)
      rw [ek] at z2
      exact of_decide_eq_true z2
    · obtain ⟨i, e, rfl, hi, ee, ef⟩ := exf_at h1
      rw [ca_at ee] at g1
      cases g1
      have hf : e.flds ≠ [] := fun q => by rw [ef] at q; rw [show (p.mx ns K oa).W.exf = p.exf from rfl, q] at h1; simp at h1
      obtain ⟨q1, q2, _⟩ := exi_ok hx (List.mem_of_getElem? ee) hf
      refine ⟨q1, fun f hff => q2 f ?_⟩
      rw [ef]; exact hff
  hot := rfl
  nex := rfl
  nxd := rfl
  ncx := rfl
  gi := fun g x i e => He.int_ok X G (fact_in c (List.mem_append_left _ (List.mem_append_left _ (List.mem_append_right _ (List.mem_map_of_mem (f := fun q : Str × Int => He.Fa.int q.1 q.2) (List.mem_of_getElem? e))))))
  bl := fun x hx => He.free_ok X G (fact_in c (by
    refine fa0_in ?_
    unfold Pg.fa0
    exact List.mem_append_left _ (List.mem_append_left _ (List.mem_append_right _ (List.mem_map_of_mem hx)))))
  gs := fun g x s e => He.str_ok X G (fact_in c (by
    refine fa0_in ?_
    unfold Pg.fa0
    exact List.mem_append_right _ (List.mem_map_of_mem (f := fun q : Str × List Char => He.Fa.str q.1 (st q.2)) (List.mem_of_getElem? e))))
/-- the law's def: whatever the script's object is -/
def spL (p : Pg) (K : PySem.W.Frag) (L n f : Nat) : Sp := fun vs H Q E => ∃ (ns : List Int) (oa : Option Addr), (∀ a, oa = some a → ∀ H : Hp, SqL K H a (ns.map V.int)) ∧ spI (p.mx ns K oa) K (callF (p.wd ns) L n) 1 f vs H Q fun _ _ _ => False
theorem law_ok {n f : Nat} {fi : FI} {d : He.DefD} {x : Str} (X : K.In h) (G : h.Ns mainGlobals mg) (c : He.SaysD p.fa defs K) (hd : p.Ok defs) (hx : p.exB K = true)
    {N : List Str} (ef : p.fns[f]? = some fi) (ed : defs[f]? = some d) (D : DefOk p.ck d fi (x, none) N [("script" : Str)]) :
    ∃ fd : FuncData, (∀ (s : Shared) (v : Value), BindsTo s fd ⟨[v], []⟩ [(("script" : Str), v)]) ∧ ∀ base : Heap, K.In base → base.Ns mainGlobals mg → FnG P w K mg base L2.CX0 (2 * n + 1) (He.ga K x) fd [("script" : Str)] (spL p K L n f) := by
  obtain ⟨fd, F⟩ := c.def_ f (d := d) ed
  have e1 : d.dvs K = [] := by unfold He.DefD.dvs; rw [D.dfl]; rfl
  have e2 : d.kws K = [] := by unfold He.DefD.kws; rw [D.kwd]; rfl
  rw [e1, e2, D.at_] at F
  refine ⟨fd, fun s v => FunD.bindsA F D.hb s [v] rfl, fun base _ _ => ?_⟩
  have go : ∀ (ns : List Int) (oa : Option Addr), (∀ a, oa = some a → ∀ H : Hp, SqL K H a (ns.map V.int)) → FnG P w K mg base L2.CX0 (2 * n + 1) (He.ga K x) fd [("script" : Str)] (fun vs H Q _ => spI (p.mx ns K oa) K (callF (p.wd ns) L n) 1 f vs H Q fun _ _ _ => False) := fun ns oa ho => by
    have Fx : Facts P w K mg base (p.mx ns K oa) p.ck := factsP X G c hd hx ho
    have q := fnOk (L := L) Fx n f (He.ga K x) fi ef ⟨d.name, d.qual, d.params, d.body, d.scope, N, [("script" : Str)], fd, F, D.S, F.bindsN D.hb, D.np, D.ns, D.ck⟩
    rw [← D.np] at q
    exact FnG.cx0 q
  refine ⟨fun vs H Q E ⟨ns, oa, ho, q⟩ => (go ns oa ho).ln vs H Q E q, fun A outer s H args us vs Q E g hr e0 hb r ⟨ns, oa, ho, q⟩ => (go ns oa ho).go A outer s H args us vs Q E g hr e0 hb r q⟩
/-- the start: the script is known to the object, or it is an object of the module -/
theorem sp_start {n f : Nat} {H : Hp} {a : Addr} {ns : List Int} (hO : Only H) (hS : SqL K H a (ns.map V.int))
    (hr : ∀ (d : D) (h : Hs), (d = .ob 0 ∧ h = [.scr ns]) ∨ (d = .con p.cons.length ∧ h = []) → ∃ h', callF (p.wd ns) L n f [d] h = .ok (.bl true) h') : spL p K L n f [.ref a] H (fun v _ => v = .bl true) fun _ _ _ => False := by
  rcases hS with hS | hK
  · obtain ⟨o, e⟩ : ∃ o, H a = some (.frz o (.lst (ns.map V.int))) := by
      rcases hS with e | e
      · rcases hO a with q | ⟨o, xs, q⟩
        · rw [e] at q; cases q
        · rw [e] at q; cases q
      · exact e
    obtain ⟨h', eh⟩ := hr (.ob 0) [.scr ns] (.inl ⟨rfl, rfl⟩)
    refine ⟨ns, none, (fun a q => by cases q), rfl, [.ob 0], [.scr ns], [a], ⟨(fun _ _ q => by cases q), rfl, (by simp), fun n mo b e1 e2 => ?_⟩, ?_, ?_⟩
    · cases n with
      | zero => simp at e1 e2; subst e1 e2; exact ⟨o, e⟩
      | succ n => simp at e1
    · simp only [Reps]
      exact ⟨_, _, rfl, by simp only [Rep]; exact ⟨a, rfl, rfl⟩, rfl⟩
    · rw [eh]
      intro v as' H' _ _ r
      simpa only [Rep] using r
  · obtain ⟨h', eh⟩ := hr (.con p.cons.length) [] (.inr ⟨rfl, rfl⟩)
    refine ⟨ns, some a, (fun b q H => by cases q; exact .inr hK), rfl, [.con p.cons.length], [], [], ⟨(fun _ _ q => by cases q), rfl, (by simp), (fun n mo b e1 e2 => by simp at e1)⟩, ?_, ?_⟩
    · simp only [Reps]
      refine ⟨_, _, rfl, ?_, rfl⟩
      simp only [Rep]
      refine ⟨a, rfl, ?_⟩
      show (if p.cons.length < p.cons.length then _ else if p.cons.length = p.cons.length then some a else none) = some a
      rw [if_neg (Nat.lt_irrefl _), if_pos rfl]
    · rw [eh]
      intro v as' H' _ _ r
      simpa only [Rep] using r
/-- a law from its facts -/
theorem facts {n f : Nat} {fi : FI} {d : He.DefD} (hd : p.Ok defs) {N : List Str} (ef : p.fns[f]? = some fi) (en : p.names[f]? = some ("law" : Str)) (ed : defs[f]? = some d) (Dk : DefOk p.ck d fi (("law" : Str), none) N [("script" : Str)])
    (hrun : ∀ (ns : List Int) (d : D) (h : Hs), ns.length ≤ 63 → (d = .ob 0 ∧ h = [.scr ns]) ∨ (d = .con p.cons.length ∧ h = []) → ∃ h', callF (p.wd ns) L n f [d] h = .ok (.bl true) h')
    {fa : Addr} (X : K.In h) (G : h.Ns mainGlobals mg) (hfa : mg ("law" : Str) = some (.ref fa)) (c : He.SaysD p.fa defs K) (hx : p.exB K = true) :
    ∃ (fd : FuncData) (sp : Sp), (∀ (s : Shared) (v : Value), BindsTo s fd ⟨[v], []⟩ [(("script" : Str), v)]) ∧
      (∀ (H : Hp) (a : Addr) (ns : List Int), ns.length ≤ 63 → Only H → SqL K H a (ns.map V.int) → sp [.ref a] H (fun v _ => v = .bl true) fun _ _ _ => False) ∧
      ∀ base : Heap, K.In base → base.Ns mainGlobals mg → FnG P w K mg base L2.CX0 (2 * n + 1) fa fd [("script" : Str)] sp := by
  have e := hfa.symm.trans (He.glo_ok X G (fact_in c (by
    refine fa0_in ?_
    unfold Pg.fa0
    exact List.mem_append_left _ (List.mem_append_left _ (List.mem_append_left _ (List.mem_map_of_mem (List.mem_of_getElem? en)))))))
  cases e
  obtain ⟨fd, hb, hF⟩ := law_ok (L := L) (n := n) (f := f) (P := P) (w := w) X G c hd hx ef ed Dk
  exact ⟨fd, _, hb, fun H a ns hl hO hS => sp_start hO hS fun d h q => hrun ns d h hl q, hF⟩
end
end Rf
end

section
namespace Rf
open PySem PySem.Spec PyProof.Rows L2

/-! ## running terms -/
def getV (o : Option (Option D)) (h : Hs) : R D := match o with | some (some d) => .ok d h | _ => .no
def getF (o : Option (Option D)) (k : Nat → R D) : R D := match o with | some (some (.fn f)) => k f | _ => .no
def getS (o : Option (Option D)) (k : D → RS) : RS := match o with | some (some d) => k d | _ => .no
def ixO (o : Option MO) (k : D) (h : Hs) : R D := match o, k with
  | some (.lst xs), .int i => ofO (atI xs i) h
  | some (.scr xs), .int i => ofO ((atI xs i).map D.int) h
  | some (.dic _ t kvs), k => if okK t kvs k then ofO (kvGet kvs k) h else .no
  | _, _ => .no
def slO (o : Option MO) (lo hi : Option Int) (h : Hs) : R D := match o with
  | some (.lst xs) => .ok (.ob h.length) (h ++ [.lst (cutD xs lo hi)])
  | some (.scr xs) => .ok (.ob h.length) (h ++ [.lst ((cutD xs lo hi).map D.int)])
  | _ => .no
def putO (n : Nat) (o : Option MO) (i v : D) (h : Hs) : Option Hs := match o, i with
  | some (.lst xs), .int k => (ixN xs.length k).map fun j => h.set n (.lst (xs.set j v))
  | some (.dic false t kvs), k => if okK t kvs k && decide (kvs.length < sizeLine) then some (h.set n (.dic false t (kvPut kvs k v))) else none
  | _, _ => none
def lenO (o : Option MO) (h : Hs) : R D := match o with
  | some (.lst s) => .ok (.int s.length) h
  | some (.scr s) => .ok (.int s.length) h
  | some (.dic _ false s) => .ok (.int s.length) h
  | _ => .no
def tupO (o : Option MO) (h : Hs) : R D := match o with
  | some (.lst s) => .ok (.tup s) h
  | _ => .no
def lstO (o : Option MO) (h : Hs) : R D := match o with
  | some (.lst s) => .ok (.ob h.length) (h ++ [.lst s])
  | some (.scr s) => .ok (.ob h.length) (h ++ [.lst (s.map D.int)])
  | some (.dic false false kvs) => .ok (.ob h.length) (h ++ [.lst (kvs.map (·.1))])
  | _ => .no
def appO (n : Nat) (o : Option MO) (y : D) (h : Hs) : R D := match o with
  | some (.lst s) => if s.length < sizeLine then .ok .non (h.set n (.lst (s ++ [y]))) else .no
  | _ => .no
def inO (o : Option MO) (x : D) : Option Bool := match o with
  | some (.lst ys) => if flat x && ys.all flat then some (inL x ys) else none
  | some (.dic _ t kvs) => if okK t kvs x then some (kvGet kvs x).isSome else none
  | _ => none
def itO (n : Nat) (o : Option MO) (h : Hs) : Option (List D × Gd × Hs) := match o with
  | some (.lst s) => some (s, .keep n (.lst s), h)
  | some (.scr s) => some (s.map D.int, .keep n (.scr s), h)
  | some (.dic true false kvs) => some (kvs.map (·.1), .keep n (.dic true false kvs), h)
  | some (.dic false false kvs) => some (kvs.map (·.1), .lock n false kvs, h.set n (.dic true false kvs))
  | _ => none
section
variable {W : Wd} {L : Nat} {cf : CF} {cx : CXI} {cs : List (List D)} {n : Nat} {h : Hs} {σ : Sg}
theorem r_var {i} : evalE W cf cx (.var i) σ h = getV σ[i]? h := by
  simp only [evalE, getV] <;> (rcases σ[i]? with _ | _ | d <;> rfl)
@[simp] theorem getV_s (d : D) : getV (some (some d)) h = .ok d h := rfl
theorem r_cav {i es} : evalE W cf none (.cav i es) σ h = getF σ[i]? fun f => (evalEs W cf none es σ h).bind fun xs h => cf f xs h := by
  simp only [evalE, getF] <;> (rcases σ[i]? with _ | _ | d <;> first | rfl | (cases d <;> rfl))
@[simp] theorem getF_s (f : Nat) (k) : getF (some (some (.fn f))) k = k f := rfl
theorem r_aug {i o e} : evalS W L cf none (.aug i o e) σ h = getS σ[i]? fun x => (evalE W cf none e σ h).stm σ fun y h => (augD o x y h).stm σ fun z h => .ok (.nx (σ.set i (some z))) h := by
  simp only [evalS, getS] <;> (rcases σ[i]? with _ | _ | d <;> rfl)
@[simp] theorem getS_s (d : D) (k) : getS (some (some d)) k = k d := rfl
theorem r_ix_ob {k} : ixD cs (.ob n) k h = ixO h[n]? k h := by
  cases e : h[n]? with
  | none => cases k <;> simp only [ixD, ixO, e]
  | some mo => cases mo <;> cases k <;> simp only [ixD, ixO, e]
@[simp] theorem ixO_l (xs i) : ixO (some (.lst xs)) (.int i) h = ofO (atI xs i) h := rfl
@[simp] theorem ixO_s (xs i) : ixO (some (.scr xs)) (.int i) h = ofO ((atI xs i).map D.int) h := rfl
@[simp] theorem ixO_d (lk t kvs k) : ixO (some (.dic lk t kvs)) k h = if okK t kvs k then ofO (kvGet kvs k) h else .no := by cases k <;> rfl
@[simp] theorem r_ix_tup (xs i) : ixD cs (.tup xs) (.int i) h = ofO (atI xs i) h := rfl
theorem r_sl_ob {a b} : slD (.ob n) a b h = slO h[n]? a b h := by
  cases e : h[n]? with
  | none => simp only [slD, slO, e]
  | some mo => cases mo <;> simp only [slD, slO, e]
@[simp] theorem slO_l (xs a b) : slO (some (.lst xs)) a b h = .ok (.ob h.length) (h ++ [.lst (cutD xs a b)]) := rfl
@[simp] theorem r_sl_tup (xs a b) : slD (.tup xs) a b h = .ok (.tup (cutD xs a b)) h := rfl
theorem r_put_ob {i v} : putD (.ob n) i v h = putO n h[n]? i v h := by
  cases e : h[n]? with
  | none => cases i <;> simp only [putD, putO, e]
  | some mo => cases mo with
    | dic lk t kvs => cases lk <;> cases i <;> simp only [putD, putO, e]
    | _ => cases i <;> simp only [putD, putO, e]
@[simp] theorem putO_l (xs k v) : putO n (some (.lst xs)) (.int k) v h = (ixN xs.length k).map fun j => h.set n (.lst (xs.set j v)) := rfl
@[simp] theorem putO_d (t kvs k v) : putO n (some (.dic false t kvs)) k v h = if okK t kvs k && decide (kvs.length < sizeLine) then some (h.set n (.dic false t (kvPut kvs k v))) else none := by cases k <;> rfl
@[simp] theorem r_len_tup (s) : bltC W .len [.tup s] h = .ok (.int s.length) h := rfl
@[simp] theorem r_len_str (s) : bltC W .len [.str s] h = if s.length ≤ sizeLine then .ok (.int s.length) h else .no := rfl
theorem r_len_ob : bltC W .len [.ob n] h = lenO h[n]? h := by
  have q : bltC W .len [.ob n] h = bltD .len [.ob n] h := rfl
  rw [q]
  cases e : h[n]? with
  | none => simp only [bltD, lenO, e]
  | some mo => cases mo with
    | dic lk t kvs => cases lk <;> cases t <;> simp only [bltD, lenO, e]
    | _ => simp only [bltD, lenO, e]
@[simp] theorem lenO_l (s) : lenO (some (.lst s)) h = .ok (.int s.length) h := rfl
@[simp] theorem lenO_s (s) : lenO (some (.scr s)) h = .ok (.int s.length) h := rfl
@[simp] theorem lenO_d (lk s) : lenO (some (.dic lk false s)) h = .ok (.int s.length) h := rfl
@[simp] theorem r_abs (i) : bltC W .abs [.int i] h = .ok (.int (if i < 0 then -i else i)) h := rfl
@[simp] theorem r_int (i) : bltC W .int [.int i] h = .ok (.int i) h := rfl
@[simp] theorem r_intb (b) : bltC W .int [.bl b] h = .ok (.int (if b then 1 else 0)) h := rfl
@[simp] theorem r_min (i j) : bltC W .min2 [.int i, .int j] h = .ok (.int (if j < i then j else i)) h := rfl
@[simp] theorem r_max (i j) : bltC W .max2 [.int i, .int j] h = .ok (.int (if j > i then j else i)) h := rfl
@[simp] theorem r_tup_tup (s) : bltC W .tuple [.tup s] h = .ok (.tup s) h := rfl
theorem r_tup_ob : bltC W .tuple [.ob n] h = tupO h[n]? h := by
  have q : bltC W .tuple [.ob n] h = bltD .tuple [.ob n] h := rfl
  rw [q]
  cases e : h[n]? with
  | none => simp only [bltD, tupO, e]
  | some mo => cases mo with
    | dic lk t kvs => cases lk <;> cases t <;> simp only [bltD, tupO, e]
    | _ => simp only [bltD, tupO, e]
@[simp] theorem tupO_l (s) : tupO (some (.lst s)) h = .ok (.tup s) h := rfl
@[simp] theorem r_lst_tup (s) : bltC W .list [.tup s] h = .ok (.ob h.length) (h ++ [.lst s]) := rfl
theorem r_lst_ob : bltC W .list [.ob n] h = lstO h[n]? h := by
  have q : bltC W .list [.ob n] h = bltD .list [.ob n] h := rfl
  rw [q]
  cases e : h[n]? with
  | none => simp only [bltD, lstO, e]
  | some mo => cases mo with
    | dic lk t kvs => cases lk <;> cases t <;> simp only [bltD, lstO, e]
    | _ => simp only [bltD, lstO, e]
@[simp] theorem lstO_l (s) : lstO (some (.lst s)) h = .ok (.ob h.length) (h ++ [.lst s]) := rfl
@[simp] theorem lstO_s (s) : lstO (some (.scr s)) h = .ok (.ob h.length) (h ++ [.lst (s.map D.int)]) := rfl
@[simp] theorem lstO_d (s) : lstO (some (.dic false false s)) h = .ok (.ob h.length) (h ++ [.lst (s.map (·.1))]) := rfl
@[simp] theorem r_lst_con (g) : bltC W .list [.con g] h = if g = W.cons.length then .ok (.ob h.length) (h ++ [.lst (W.scr.map D.int)]) else .no := rfl
@[simp] theorem r_isTup_tup (s) : bltC W .isTup [.tup s] h = .ok (.bl true) h := rfl
@[simp] theorem r_add (i j) : opD .add (.int i) (.int j) h = .ok (.int (i + j)) h := rfl
@[simp] theorem r_sub (i j) : opD .sub (.int i) (.int j) h = .ok (.int (i - j)) h := rfl
@[simp] theorem r_mul (i j) : opD .mul (.int i) (.int j) h = if (-(2 ^ 64) < i ∧ i < 2 ^ 64) ∨ (-(2 ^ 64) < j ∧ j < 2 ^ 64) then .ok (.int (i * j)) h else .no := rfl
@[simp] theorem r_fdiv (i j) : opD .fdiv (.int i) (.int j) h = if j ≠ 0 ∧ j.natAbs < 1073741824 then .ok (.int (i.fdiv j)) h else .no := rfl
@[simp] theorem r_mod (i j) : opD .mod (.int i) (.int j) h = if j ≠ 0 then .ok (.int (i.fmod j)) h else .no := rfl
@[simp] theorem r_addt (s t) : opD .add (.tup s) (.tup t) h = if s.length + t.length ≤ sizeLine then .ok (.tup (s ++ t)) h else .no := rfl
@[simp] theorem r_adds (s t) : opD .add (.str s) (.str t) h = if s.length + t.length ≤ sizeLine then .ok (.str (s ++ t)) h else .no := rfl
def catO (o o' : Option MO) (h : Hs) : R D := match o, o' with
  | some (.lst s), some (.lst t) => if s.length + t.length ≤ sizeLine then .ok (.ob h.length) (h ++ [.lst (s ++ t)]) else .no
  | _, _ => .no
theorem r_addl (n m) : opD .add (.ob n) (.ob m) h = catO h[n]? h[m]? h := by
  cases e : h[n]? with
  | none => simp only [opD, catO, e]
  | some mo => cases e2 : h[m]? with
    | none => cases mo <;> simp only [opD, catO, e, e2]
    | some mo2 => cases mo <;> cases mo2 <;> simp only [opD, catO, e, e2]
@[simp] theorem catO_l (s t) : catO (some (.lst s)) (some (.lst t)) h = if s.length + t.length ≤ sizeLine then .ok (.ob h.length) (h ++ [.lst (s ++ t)]) else .no := rfl
@[simp] theorem r_lt (i j) : cmpA cs .lt (.int i) (.int j) h = .ok (.bl (decide (i < j))) h := rfl
@[simp] theorem r_le (i j) : cmpA cs .le (.int i) (.int j) h = .ok (.bl (decide (i ≤ j))) h := rfl
@[simp] theorem r_gt (i j) : cmpA cs .gt (.int i) (.int j) h = .ok (.bl (decide (j < i))) h := rfl
@[simp] theorem r_ge (i j) : cmpA cs .ge (.int i) (.int j) h = .ok (.bl (decide (j ≤ i))) h := rfl
theorem eqD_flat {x y : D} (hx : flat x = true) (hy : flat y = true) : eqD h x y = some (eqv x y) := by
  unfold eqD
  split
  · simp [flat, pur] at hx
  · rw [hx, hy]; rfl
theorem dicB_flat {x y : D} (hx : flat x = true) : dicB x y h = none := by
  unfold dicB
  split
  · simp [flat, pur] at hx
  · rfl
theorem r_eq {x y : D} (hx : flat x = true) (hy : flat y = true) : cmpA cs .eq x y h = .ok (.bl (eqv x y)) h := by
  simp only [cmpA, dicB_flat hx, cmpD, eqD_flat hx hy]
theorem r_ne {x y : D} (hx : flat x = true) (hy : flat y = true) : cmpA cs .ne x y h = .ok (.bl (!eqv x y)) h := by
  simp only [cmpA, dicB_flat hx, cmpD, eqD_flat hx hy]
theorem r_ned {n m : Nat} {lk lk' : Bool} {ks ls : List (D × D)} (e1 : h[n]? = some (.dic lk false ks)) (e2 : h[m]? = some (.dic lk' false ls)) : cmpA cs .ne (.ob n) (.ob m) h = (ofO (eqKV ks ls) h).bind fun b h => .ok (.bl (!b)) h := by
  have q : dicB (.ob n) (.ob m) h = some (ks, ls) := by simp only [dicB, e1, e2]
  simp only [cmpA, q]
theorem r_dict {n : Nat} {lk : Bool} {kvs : List (D × D)} (e1 : h[n]? = some (.dic lk false kvs)) : bltC W .dict [.ob n] h = .ok (.ob h.length) (h ++ [.dic false false kvs]) := by
  have q : bltC W .dict [.ob n] h = bltD .dict [.ob n] h := rfl
  rw [q]
  simp only [bltD, e1]
@[simp] theorem r_eqi (i j) : cmpA cs .eq (.int i) (.int j) h = .ok (.bl (i == j)) h := r_eq rfl rfl
@[simp] theorem r_eqs (i j) : cmpA cs .eq (.str i) (.str j) h = .ok (.bl (i == j)) h := r_eq rfl rfl
@[simp] theorem r_nes (i j) : cmpA cs .ne (.str i) (.str j) h = .ok (.bl (!(i == j))) h := r_ne rfl rfl
theorem r_nin_ob {x} : cmpA cs .nin x (.ob n) h = (ofO (inO h[n]? x) h).bind fun b h => .ok (.bl (!b)) h := by
  have q : inD cs x (.ob n) h = inO h[n]? x := by
    cases e : h[n]? with
    | none => simp only [inD, inO, e]
    | some mo => cases mo <;> simp only [inD, inO, e]
  simp only [cmpA, q]
theorem r_in_ob {x} : cmpA cs .in_ x (.ob n) h = (ofO (inO h[n]? x) h).bind fun b h => .ok (.bl b) h := by
  have q : inD cs x (.ob n) h = inO h[n]? x := by
    cases e : h[n]? with
    | none => simp only [inD, inO, e]
    | some mo => cases mo <;> simp only [inD, inO, e]
  simp only [cmpA, q]
@[simp] theorem inO_l (x ys) : inO (some (.lst ys)) x = if flat x && ys.all flat then some (inL x ys) else none := rfl
@[simp] theorem inO_d (lk t kvs x) : inO (some (.dic lk t kvs)) x = if okK t kvs x then some (kvGet kvs x).isSome else none := rfl
@[simp] theorem r_tbl (b) : truthR (.bl b) h = .ok b h := rfl
@[simp] theorem r_tint (i) : truthR (.int i) h = .ok (i != 0) h := rfl
theorem r_met_lst {o m es x s h1} (eo : evalE W cf none o σ h = .ok (.ob x) h1) (e : h1[x]? = some (.lst s)) (hm : m = "append") : evalE W cf none (.met o m es) σ h = (evalEs W cf none es σ h1).bind fun xs h => methD .append (.ob x) xs h := by
  subst hm
  simp [evalE, eo, isIns, e, mtOf]
theorem r_app {n y} : methD .append (.ob n) [y] h = appO n h[n]? y h := by
  cases e : h[n]? with
  | none => simp only [methD, appO, e]
  | some mo => cases mo <;> simp only [methD, appO, e]
@[simp] theorem appO_l (s y) : appO n (some (.lst s)) y h = if s.length < sizeLine then .ok .non (h.set n (.lst (s ++ [y]))) else .no := rfl
theorem r_it_ob : itemsI cs .seq [.ob n] h = itO n h[n]? h := by
  cases e : h[n]? with
  | none => simp only [itemsI, itO, e]
  | some mo => cases mo with
    | dic lk t kvs => cases lk <;> cases t <;> simp only [itemsI, itO, e]
    | _ => simp only [itemsI, itO, e]
@[simp] theorem r_it_tup (s) : itemsI cs .seq [.tup s] h = some (s, .none, h) := rfl
@[simp] theorem itO_l (s) : itO n (some (.lst s)) h = some (s, .keep n (.lst s), h) := rfl
@[simp] theorem itO_d (kvs) : itO n (some (.dic false false kvs)) h = some (kvs.map (·.1), .lock n false kvs, h.set n (.dic true false kvs)) := rfl
theorem r_rng1 (j) : itemsI cs .rng1 [.int j] h = if -(2 ^ 62) ≤ j ∧ j < 2 ^ 62 then some ((List.range j.toNat).map fun (i : Nat) => D.int (0 + (i : Int)), .none, h) else none := rfl
theorem rng_small {j : Int} (h0 : 0 ≤ j) (h1 : j ≤ 1000000) : itemsI cs .rng1 [.int j] h = some ((List.range j.toNat).map fun (i : Nat) => D.int (i : Int), .none, h) := by
  rw [r_rng1, if_pos ⟨by omega, by omega⟩]
  simp only [Int.zero_add]
@[simp] theorem bindT_nm (i d) : bindT (.nm i) d σ = some (σ.set i (some d)) := rfl
theorem forI_nil {g turn} (hs : same g h) : forI g turn [] σ h = .ok (.nx σ) (endG g h) := by simp [forI, hs]
theorem forI_nx {g turn d ds σ' h'} (hs : same g h) (e : turn d σ h = .ok (.nx σ') h') : forI g turn (d :: ds) σ h = forI g turn ds σ' h' := by simp [forI, hs, e]
theorem lcI_nil {g turn acc} (hs : same g h) : lcI g turn [] acc h = .ok acc (endG g h) := by simp [lcI, hs]
theorem lcI_some {g turn d ds acc x h'} (hs : same g h) (e : turn d h = .ok (some x) h') (hl : acc.length < sizeLine) : lcI g turn (d :: ds) acc h = lcI g turn ds (acc ++ [x]) h' := by simp [lcI, hs, e, hl]
theorem lcI_skip {g turn d ds acc h'} (hs : same g h) (e : turn d h = .ok none h') : lcI g turn (d :: ds) acc h = lcI g turn ds acc h' := by simp [lcI, hs, e]
/-- a loop's turn -/
noncomputable def fT (W : Wd) (L : Nat) (cf : CF) (tg : Tg) (b : List S) : D → Sg → Hs → RS := fun d σ h => match bindT tg d σ with | some σ => evalB W L cf none b σ h | none => .no
theorem fT_some {tg b d σ1} (e : bindT tg d σ = some σ1) : fT W L cf tg b d σ h = evalB W L cf none b σ1 h := by unfold fT; rw [e]
theorem r_for {tg k its b} : evalS W L cf none (.for_ tg k its b) σ h = (evalEs W cf none its σ h).stm σ fun xs h => (ofO (itemsI W.cons k xs h) h).stm σ fun ig h =>
    forI ig.2.1 (fT W L cf tg b) ig.1 σ ig.2.2 := by
  simp only [evalS] <;> rfl
/-- a comprehension's turn -/
noncomputable def lT (W : Wd) (cf : CF) (own : List Nat) (tg : Tg) (cd : List E) (el : E) (σ : Sg) : D → Hs → R (Option D) := lcTurn (fun d => bindT tg d (wipeI σ own)) (fun σ1 h => (evalEs W cf none cd σ1 h).bind cdB) (fun σ1 h => evalE W cf none el σ1 h)
theorem r_lc {own tg k its cd el} : evalE W cf none (.lc own tg k its cd el) σ h = (evalEs W cf none its σ h).bind fun xs h => (ofO (itemsI W.cons k xs h) h).bind fun ig h =>
    (lcI ig.2.1 (lT W cf own tg cd el σ) ig.1 [] ig.2.2).bind lcEnd := by simp only [evalE] <;> rfl
theorem lT_nil {own tg el d σ1} (e : bindT tg d (wipeI σ own) = some σ1) : lT W cf own tg [] el σ d h = ((evalE W cf none el σ1 h).bind fun x h => .ok (some x) h).shut := by
  simp [lT, lcTurn, e, evalEs, cdB]
theorem q_set {i e} : evalS W L cf cx (.set i e) σ h = (evalE W cf cx e σ h).stm σ fun x h => .ok (.nx (σ.set i (some x))) h := by simp only [evalS]
theorem q_put {o i e} : evalS W L cf none (.put o i e) σ h = (evalE W cf none e σ h).stm σ fun v h => (evalE W cf none o σ h).stm σ fun x h => (evalE W cf none i σ h).stm σ fun y h => match putD x y v h with
    | some h => .ok (.nx σ) h
    | none => .no := by simp only [evalS] <;> rfl
theorem q_expr {e} : evalS W L cf cx (.expr e) σ h = (evalE W cf cx e σ h).stm σ fun _ h => .ok (.nx σ) h := by simp only [evalS]
theorem q_ret {e} : evalS W L cf cx (.ret e) σ h = (evalE W cf cx e σ h).stm σ fun x h => .ok (.rt x) h := by simp only [evalS]
theorem q_retN : evalS W L cf cx .retN σ h = .ok (.rt .non) h := by simp only [evalS]
theorem q_ife {c a b} : evalS W L cf cx (.ife c a b) σ h = (evalE W cf cx c σ h).stm σ fun x h => (truthR x h).stm σ fun t h => if t then evalB W L cf cx a σ h else evalB W L cf cx b σ h := by simp only [evalS]
theorem q_cons {s r} : evalB W L cf cx (s :: r) σ h = (evalS W L cf cx s σ h).then fun σ h => evalB W L cf cx r σ h := by simp only [evalB]
theorem q_nil : evalB W L cf cx [] σ h = .ok (.nx σ) h := by simp only [evalB]
theorem q_cst {d} : evalE W cf cx (.cst d) σ h = .ok d h := by simp only [evalE]
theorem q_bin {o a b} : evalE W cf cx (.bin o a b) σ h = (evalE W cf cx a σ h).bind fun x h => (evalE W cf cx b σ h).bind fun y h => opD o x y h := by simp only [evalE]
theorem q_neg {a} : evalE W cf cx (.neg a) σ h = (evalE W cf cx a σ h).bind fun x h => match x with | .int i => .ok (.int (-i)) h | _ => .no := by simp only [evalE] <;> rfl
theorem q_cmp {o a b} : evalE W cf cx (.cmp o a b) σ h = (evalE W cf cx a σ h).bind fun x h => (evalE W cf cx b σ h).bind fun y h => cmpA W.cons o x y h := by simp only [evalE]
theorem q_and {a b} : evalE W cf cx (.and a b) σ h = (evalE W cf cx a σ h).bind fun x h => (truthR x h).bind fun t h => if t then evalE W cf cx b σ h else .ok x h := by simp only [evalE]
theorem q_or {a b} : evalE W cf cx (.or a b) σ h = (evalE W cf cx a σ h).bind fun x h => (truthR x h).bind fun t h => if t then .ok x h else evalE W cf cx b σ h := by simp only [evalE]
theorem q_not {a} : evalE W cf cx (.not a) σ h = (evalE W cf cx a σ h).bind fun x h => (truthR x h).bind fun t h => .ok (.bl (!t)) h := by simp only [evalE]
theorem q_eife {c a b} : evalE W cf cx (.ife c a b) σ h = (evalE W cf cx c σ h).bind fun x h => (truthR x h).bind fun t h => if t then evalE W cf cx a σ h else evalE W cf cx b σ h := by simp only [evalE]
theorem q_tup {es} : evalE W cf cx (.tup es) σ h = (evalEs W cf cx es σ h).bind fun xs h => if xs.length ≤ sizeLine then .ok (.tup xs) h else .no := by simp only [evalE]
theorem q_lst {es} : evalE W cf cx (.lst es) σ h = (evalEs W cf cx es σ h).bind fun xs h => if xs.length ≤ sizeLine then .ok (.ob h.length) (h ++ [.lst xs]) else .no := by simp only [evalE]
theorem q_dic {t} : evalE W cf cx (.dic t [] []) σ h = .ok (.ob h.length) (h ++ [.dic false t []]) := by simp only [evalE]
theorem q_ix {a i} : evalE W cf cx (.ix a i) σ h = (evalE W cf cx a σ h).bind fun x h => (evalE W cf cx i σ h).bind fun y h => ixD W.cons x y h := by simp only [evalE]
theorem q_slc {a lo hi} : evalE W cf cx (.slc a lo hi) σ h = (evalE W cf cx a σ h).bind fun x h => (evalEs W cf cx lo σ h).bind fun l h => (ofO (optI l) h).bind fun l h => (evalEs W cf cx hi σ h).bind fun u h => (ofO (optI u) h).bind fun u h => slD x l u h := by simp only [evalE]
theorem q_cal {f es} : evalE W cf cx (.cal f es) σ h = (evalEs W cf cx es σ h).bind fun xs h => cf f xs h := by simp only [evalE]
theorem q_blt {b es} : evalE W cf cx (.blt b es) σ h = (evalEs W cf cx es σ h).bind fun xs h => bltC W b xs h := by simp only [evalE]
theorem q_enil : evalEs W cf cx [] σ h = .ok [] h := by simp only [evalEs]
theorem q_econs {e es} : evalEs W cf cx (e :: es) σ h = (evalE W cf cx e σ h).bind fun x h => (evalEs W cf cx es σ h).bind fun xs h => .ok (x :: xs) h := by simp only [evalEs]
/-- a method of a value that is no instance -/
noncomputable def metK (W : Wd) (cf : CF) (m : String) (es : List E) (σ : Sg) (x : D) (h : Hs) : R D := match isIns x h with
    | some (c, fs) => match (W.cls[c]?).bind fun ci => ci.meths.lookup m with
      | some f => if (fs.lookup m).isNone then (evalEs W cf none es σ h).bind fun xs h => cf f (x :: xs) h else .no
      | none => .no
    | none => match mtOf x m h with
      | some k => (evalEs W cf none es σ h).bind fun xs h => methD k x xs h
      | none => .no
theorem q_met {o m es} : evalE W cf none (.met o m es) σ h = (evalE W cf none o σ h).bind fun x h => metK W cf m es σ x h := by simp only [evalE, metK] <;> rfl
theorem callF_s {f : Nat} {fi : FI} {ds : List D} (e : W.fns[f]? = some fi) (hl : ds.length = fi.np) : callF W L (n + 1) f ds h = (evalB W L (callF W L n) none fi.body (Rf.start fi.ns ds) h).fin := by
  simp [callF, e, hl]
@[simp] theorem stm_ofO_none {α : Type} (h : Hs) (σ) (f : α → Hs → RS) : (ofO (none : Option α) h).stm σ f = .no := rfl
/-- heaps -/
theorem lk_app {t : Hs} {o : MO} (e : h[n]? = some o) : (h ++ t)[n]? = some o := by
  rw [List.getElem?_append_left (List.getElem?_eq_some_iff.mp e).1]; exact e
theorem lk_new {o : MO} : (h ++ [o])[h.length]? = some o := by simp
theorem lk_lt {o : MO} (e : h[n]? = some o) : n < h.length := (List.getElem?_eq_some_iff.mp e).1
theorem atI_nat {α : Type} {xs : List α} {i : Nat} (hi : i < xs.length) : atI xs (i : Int) = some xs[i] := by
  have : (0 : Int) ≤ i := Int.natCast_nonneg i
  have h2 : (i : Int) < xs.length := by exact_mod_cast hi
  simp [atI, ixN, this, hi]
end
end Rf
namespace Rf
open PySem PySem.Spec PyProof.Rows L2
theorem atI_some {α : Type} {xs : List α} {k : Int} (h0 : 0 ≤ k) (h1 : k < xs.length) : ∃ x, x ∈ xs ∧ atI xs k = some x := by
  have hk : k.toNat < xs.length := by omega
  refine ⟨xs[k.toNat], List.getElem_mem hk, ?_⟩
  simp [atI, ixN, h0, h1, hk]
end Rf
namespace Rf
open PySem PySem.Spec PyProof.Rows L2
def insO (o : Option MO) : Option (Nat × List (String × D)) := match o with
  | some (.ins c fs) => some (c, fs)
  | _ => none
def mtO (o : Option MO) (m : String) : Option Mt := match o with
  | some (.lst _) => if m = "append" then some .append else if m = "reverse" then some .reverse else if m = "extend" then some .extend else if m = "pop" then some .pop else if m = "insert" then some .insert else none
  | some (.dic false false _) => if m = "update" then some .update else none
  | _ => none
section
variable {n : Nat} {h : Hs}
theorem r_ins : isIns (.ob n) h = insO h[n]? := by
  cases e : h[n]? with
  | none => simp only [isIns, insO, e]
  | some mo => cases mo <;> simp only [isIns, insO, e]
@[simp] theorem insO_l (s) : insO (some (.lst s)) = none := rfl
theorem r_mt {m} : mtOf (.ob n) m h = mtO h[n]? m := by
  cases e : h[n]? with
  | none => simp only [mtOf, mtO, e]
  | some mo => cases mo with
    | dic lk t kvs => cases lk <;> cases t <;> simp only [mtOf, mtO, e]
    | _ => simp only [mtOf, mtO, e]
@[simp] theorem mtO_l (s) : mtO (some (.lst s)) "append" = some .append := rfl
@[simp] theorem mtO_r (s) : mtO (some (.lst s)) "reverse" = some .reverse := rfl
@[simp] theorem mtO_e (s) : mtO (some (.lst s)) "extend" = some .extend := rfl
@[simp] theorem mtO_p (s) : mtO (some (.lst s)) "pop" = some .pop := rfl
noncomputable def metO (W : Wd) (cf : CF) (n : Nat) (o : Option MO) (es : List E) (σ : Sg) (h : Hs) : R D := match o with
  | some (.lst _) => (evalEs W cf none es σ h).bind fun xs h => methD .append (.ob n) xs h
  | _ => .no
theorem r_metapp {W : Wd} {cf : CF} {es : List E} {σ : Sg} {s : List D} (e : h[n]? = some (.lst s)) : metK W cf "append" es σ (.ob n) h = (evalEs W cf none es σ h).bind fun xs h => methD .append (.ob n) xs h := by
  unfold metK
  simp only [r_ins, r_mt, e, insO_l, mtO_l]
end
end Rf
namespace Rf
section
variable {α : Type} (a b c d : α) (r : List α)
theorem atI_0 : L2.atI (a :: r) 0 = some a := by
  have : (0 : Int) < ((a :: r).length : Int) := by simp only [List.length_cons]; omega
  simp only [L2.atI, L2.ixN, if_pos this]; rfl
theorem atI_1 : L2.atI (a :: b :: r) 1 = some b := by
  have : (1 : Int) < ((a :: b :: r).length : Int) := by simp only [List.length_cons]; omega
  simp only [L2.atI, L2.ixN, if_pos this]; rfl
theorem atI_2 : L2.atI (a :: b :: c :: r) 2 = some c := by
  have : (2 : Int) < ((a :: b :: c :: r).length : Int) := by simp only [List.length_cons]; omega
  simp only [L2.atI, L2.ixN, if_pos this]; rfl
theorem atI_3 : L2.atI (a :: b :: c :: d :: r) 3 = some d := by
  have : (3 : Int) < ((a :: b :: c :: d :: r).length : Int) := by simp only [List.length_cons]; omega
  simp only [L2.atI, L2.ixN, if_pos this]; rfl
end
end Rf

namespace Rf
open PySem PySem.Spec PyProof.Rows L2
def fldO (cl : List CI) (o : Option MO) (f : String) (h : Hs) : R D := match o with
  | some (.ins c fs) => if hasF cl c f then ofO (fs.lookup f) h else .no
  | _ => .no
def fsetO (cl : List CI) (n : Nat) (o : Option MO) (f : String) (v : D) (h : Hs) : Option Hs := match o with
  | some (.ins c fs) => if hasF cl c f && decide (fs.length < 900) then some (h.set n (.ins c (fput f v fs))) else none
  | _ => none
def backO (o : Option MO) (h : Hs) : R D := match o with
  | some (.lst xs) => .ok (.ob h.length) (h ++ [.lst xs.reverse])
  | _ => .no
def isLO (o : Option MO) (l d : Bool) (h : Hs) : R D := match o with
  | some (.lst _) => .ok (.bl l) h
  | some (.dic false _ _) => .ok (.bl d) h
  | _ => .no
def eqO2 (o o' : Option MO) : Option Bool := match o, o' with
  | some (.lst xs), some (.lst ys) => if purs xs && purs ys && decide (deps xs ≤ 60) && decide (deps ys ≤ 60) then some (eqvs xs ys) else none
  | _, _ => none
section
variable {W : Wd} {L : Nat} {cf : CF} {cs : List (List D)} {cl : List CI} {n : Nat} {h : Hs} {σ : Sg}
theorem r_fld {f} : fldD cl (.ob n) f h = fldO cl h[n]? f h := by
  cases e : h[n]? with
  | none => simp only [fldD, fldO, e]
  | some mo => cases mo <;> simp only [fldD, fldO, e]
@[simp] theorem fldO_i (c fs f) : fldO cl (some (.ins c fs)) f h = if hasF cl c f then ofO (fs.lookup f) h else .no := rfl
theorem r_fset {f v} : fsetD cl (.ob n) f v h = fsetO cl n h[n]? f v h := by
  cases e : h[n]? with
  | none => simp only [fsetD, fsetO, e]
  | some mo => cases mo <;> simp only [fsetD, fsetO, e]
@[simp] theorem fsetO_i (c fs f v) : fsetO cl n (some (.ins c fs)) f v h = if hasF cl c f && decide (fs.length < 900) then some (h.set n (.ins c (fput f v fs))) else none := rfl
theorem q_fld {a f} : evalE W cf none (.fld a f) σ h = (evalE W cf none a σ h).bind fun x h => fldD W.cls x f h := by simp only [evalE]
theorem q_fset {o f e} : evalS W L cf none (.fset o f e) σ h = (evalE W cf none e σ h).stm σ fun v h => (evalE W cf none o σ h).stm σ fun x h => match fsetD W.cls x f v h with
    | some h => .ok (.nx σ) h
    | none => .no := by simp only [evalS] <;> rfl
def newK (o : Nat) : D → Hs → R D := fun r h' => match r with | .non => .ok (.ob o) h' | _ => .no
@[simp] theorem newK_n (o : Nat) (h' : Hs) : newK o .non h' = .ok (.ob o) h' := rfl
theorem q_new {c es} {ci : CI} {f : Nat} (ec : W.cls[c]? = some ci) (ef : ci.ini = some f) : evalE W cf none (.new c es) σ h = (evalEs W cf none es σ h).bind fun xs h => (cf f (.ob h.length :: xs) (h ++ [.ins c []])).bind (newK h.length) := by
  simp only [evalE, ec, ef, Option.bind_some] <;> rfl
theorem q_back {a} : evalE W cf none (.back a) σ h = (evalE W cf none a σ h).bind fun x h => match x with
    | .ob n => backO h[n]? h
    | _ => .no := by
  simp only [evalE] <;> (cases evalE W cf none a σ h <;> rfl)
@[simp] theorem backO_l (s) : backO (some (.lst s)) h = .ok (.ob h.length) (h ++ [.lst s.reverse]) := rfl
theorem r_isList_ob : bltC W .isList [.ob n] h = isLO h[n]? true false h := by
  have q : bltC W .isList [.ob n] h = isObB h n true false := rfl
  rw [q]
  cases e : h[n]? with
  | none => simp only [isObB, isLO, e]
  | some mo => cases mo with
    | dic lk t kvs => cases lk <;> simp only [isObB, isLO, e]
    | _ => simp only [isObB, isLO, e]
theorem r_isTup_ob : bltC W .isTup [.ob n] h = isLO h[n]? false false h := by
  have q : bltC W .isTup [.ob n] h = isObB h n false false := rfl
  rw [q]
  cases e : h[n]? with
  | none => simp only [isObB, isLO, e]
  | some mo => cases mo with
    | dic lk t kvs => cases lk <;> simp only [isObB, isLO, e]
    | _ => simp only [isObB, isLO, e]
@[simp] theorem isLO_l (s l d) : isLO (some (.lst s)) l d h = .ok (.bl l) h := rfl
@[simp] theorem r_isList_tup (s) : bltC W .isList [.tup s] h = .ok (.bl false) h := rfl
@[simp] theorem r_isTup_non : bltC W .isTup [.non] h = .ok (.bl false) h := rfl
@[simp] theorem r_isTup_str (s) : bltC W .isTup [.str s] h = .ok (.bl false) h := rfl
theorem r_repr {xs : List D} (h1 : rpOk (.tup xs) = true) (h2 : dep (.tup xs) ≤ 64) (h3 : (rp (.tup xs)).length ≤ sizeLine) : bltC W .repr [.tup xs] h = .ok (.str (rp (.tup xs))) h := by
  have q : bltC W .repr [.tup xs] h = bltD .repr [.tup xs] h := rfl
  rw [q]
  simp only [bltD, h1, h2, h3, decide_true, Bool.and_true, if_true]
theorem r_eql {m} : eqD h (.ob n) (.ob m) = eqO2 h[n]? h[m]? := by
  cases e : h[n]? with
  | none => simp only [eqD, eqO2, e]
  | some mo => cases e2 : h[m]? with
    | none => cases mo <;> simp only [eqD, eqO2, e, e2]
    | some mo2 => cases mo <;> cases mo2 <;> simp only [eqD, eqO2, e, e2]
theorem r_eqll {m : Nat} {xs ys : List D} (e1 : h[n]? = some (.lst xs)) (e2 : h[m]? = some (.lst ys)) (p1 : purs xs = true) (p2 : purs ys = true) (d1 : deps xs ≤ 60) (d2 : deps ys ≤ 60) :
    cmpA cs .eq (.ob n) (.ob m) h = .ok (.bl (eqvs xs ys)) h ∧ cmpA cs .ne (.ob n) (.ob m) h = .ok (.bl (!eqvs xs ys)) h := by
  have q : dicB (.ob n) (.ob m) h = none := by simp only [dicB, e1, e2]
  have q2 : eqD h (.ob n) (.ob m) = some (eqvs xs ys) := by simp only [r_eql, e1, e2, eqO2, p1, p2, d1, d2, decide_true, Bool.and_true, if_true]
  constructor <;> simp only [cmpA, q, cmpD, q2]
/-- a method of an instance -/
theorem r_metI {m : String} {es : List E} {c : Nat} {fs : List (String × D)} {ci : CI} {f : Nat} (e : h[n]? = some (.ins c fs)) (ec : W.cls[c]? = some ci) (em : ci.meths.lookup m = some f) (ef : fs.lookup m = none) :
    metK W cf m es σ (.ob n) h = (evalEs W cf none es σ h).bind fun xs h => cf f (.ob n :: xs) h := by
  unfold metK
  have q : isIns (.ob n) h = some (c, fs) := by simp only [isIns, e]
  simp only [q, ec, Option.bind_some, em, ef, Option.isNone_none, if_true]
theorem r_metrev {s : List D} (e : h[n]? = some (.lst s)) : metK W cf "reverse" [] σ (.ob n) h = .ok .non (h.set n (.lst s.reverse)) := by
  unfold metK
  simp only [r_ins, r_mt, e, insO_l, mtO_r, q_enil, R.bind_ok, methD]
end
end Rf
namespace Rf
open PySem PySem.Spec PyProof.Rows L2
section
variable {W : Wd} {L : Nat} {cf : CF} {cx : CXI} {cs : List (List D)} {n : Nat} {h : Hs} {σ : Sg}
theorem q_raise {c es} : evalS W L cf cx (.raise c es) σ h = (evalEs W cf cx es σ h).stm σ fun xs h => if 0 < (W.exf c).length ∧ xs.length = (W.exf c).length ∧ xs.length ≤ 900 then .exc c ((W.exf c).zip xs).reverse σ h else .no := by simp only [evalS] <;> rfl
/-- what a try makes of its body's outcome -/
noncomputable def tryK (W : Wd) (L : Nat) (cf : CF) (hs : List (Nat × Option Nat × List S)) (r : RS) : RS := match r with
  | .exc c fs σ1 h1 => if 0 < (W.exf c).length then evalH W L cf c fs hs σ1 h1 else .no
  | r => r
theorem q_try {b hs} : evalS W L cf cx (.try_ b hs) σ h = tryK W L cf hs (evalB W L cf cx b σ h) := by simp only [evalS, tryK] <;> rfl
@[simp] theorem tryK_nx (hs σ h) : tryK W L cf hs (.ok (.nx σ) h) = .ok (.nx σ) h := rfl
@[simp] theorem tryK_rt (hs d h) : tryK W L cf hs (.ok (.rt d) h) = .ok (.rt d) h := rfl
@[simp] theorem tryK_exc (hs c fs σ h) : tryK W L cf hs (.exc c fs σ h) = if 0 < (W.exf c).length then evalH W L cf c fs hs σ h else .no := rfl
theorem q_hnil {c fs} : evalH W L cf c fs [] σ h = .exc c fs σ h := by simp only [evalH]
theorem q_hcons {c fs k o b r} : evalH W L cf c fs ((k, o, b) :: r) σ h = if W.isa c k then (evalB W L cf (some (c, fs)) b (offI o σ) h).offs o else evalH W L cf c fs r σ h := by simp only [evalH]
@[simp] theorem offI_s (i σ) : offI (some i) σ = σ.set i none := rfl
@[simp] theorem offI_n (σ) : offI none σ = σ := rfl
def exfK (W : Wd) (c : Nat) (fs : List (String × D)) (f : String) (o : Option (Option D)) (h : Hs) : R D := match o with
  | some none => if f ∈ W.exf c then ofO (fs.lookup f) h else .no
  | _ => .no
theorem q_exf {i f c fs} : evalE W cf (some (c, fs)) (.exf i f) σ h = exfK W c fs f σ[i]? h := by
  simp only [evalE, exfK] <;> (rcases σ[i]? with _ | _ | d <;> rfl)
@[simp] theorem exfK_n (c fs f) : exfK W c fs f (some none) h = if f ∈ W.exf c then ofO (fs.lookup f) h else .no := rfl
theorem q_gni {g i} : evalE W cf cx (.gni g i) σ h = .ok (.int i) h := by simp only [evalE]
theorem q_glb {g} : evalE W cf cx (.glb g) σ h = .ok (.con g) h := by simp only [evalE]
theorem q_gst {g s} : evalE W cf cx (.gst g s) σ h = .ok (.str s) h := by simp only [evalE]
/-- other methods of lists and dicts -/
theorem r_metl {m : String} {k : Mt} {es : List E} {s : List D} (e : h[n]? = some (.lst s)) (hk : mtO (some (.lst s)) m = some k) : metK W cf m es σ (.ob n) h = (evalEs W cf none es σ h).bind fun xs h => methD k (.ob n) xs h := by
  unfold metK
  simp only [r_ins, r_mt, e, insO_l, hk]
theorem r_metins {es : List E} {s : List D} (e : h[n]? = some (.lst s)) : metK W cf "insert" es σ (.ob n) h = (evalEs W cf none es σ h).bind fun xs h => methD .insert (.ob n) xs h := r_metl e rfl
theorem r_metupd {es : List E} {s : List (D × D)} (e : h[n]? = some (.dic false false s)) : metK W cf "update" es σ (.ob n) h = (evalEs W cf none es σ h).bind fun xs h => methD .update (.ob n) xs h := by
  unfold metK
  have q : insO (some (.dic false false s)) = none := rfl
  have q2 : mtO (some (.dic false false s)) "update" = some .update := rfl
  simp only [r_ins, r_mt, e, q, q2]
theorem r_insert {s : List D} {i : Int} {y : D} (e : h[n]? = some (.lst s)) (h1 : s.length < sizeLine) (h2 : 0 ≤ i) (h3 : i < 2 ^ 62) : methD .insert (.ob n) [.int i, y] h = .ok .non (h.set n (.lst (s.take i.toNat ++ [y] ++ s.drop i.toNat))) := by
  simp only [methD, e, h1, h2, h3, and_self, if_true]
theorem r_update {m : Nat} {ks ls : List (D × D)} {lk : Bool} (e : h[n]? = some (.dic false false ks)) (e2 : h[m]? = some (.dic lk false ls)) (ne : n ≠ m) (hl : ks.length + ls.length ≤ sizeLine) : methD .update (.ob n) [.ob m] h = .ok .non (h.set n (.dic false false (kvMrg ks ls))) := by
  simp only [methD, e, e2, ne, hl, ne_eq, not_false_eq_true, and_self, if_true]
@[simp] theorem r_isx_nn (cs : List (List D)) (h : Hs) : cmpA cs .is_ .non .non h = .ok (.bl true) h := rfl
@[simp] theorem r_isx_tn (cs : List (List D)) (xs : List D) (h : Hs) : cmpA cs .is_ (.tup xs) .non h = .ok (.bl false) h := rfl
@[simp] theorem r_isnx_nn (cs : List (List D)) (h : Hs) : cmpA cs .isn .non .non h = .ok (.bl false) h := rfl
@[simp] theorem r_isnx_tn (cs : List (List D)) (xs : List D) (h : Hs) : cmpA cs .isn (.tup xs) .non h = .ok (.bl true) h := rfl
@[simp] theorem r_isnx_sn (cs : List (List D)) (s : List Char) (h : Hs) : cmpA cs .isn (.str s) .non h = .ok (.bl true) h := rfl
@[simp] theorem r_isx_sn (cs : List (List D)) (s : List Char) (h : Hs) : cmpA cs .is_ (.str s) .non h = .ok (.bl false) h := rfl
end
end Rf
end

section
namespace K08
open PySem PySem.Spec PyProof.Rows L2 Rf
abbrev prog : Program := PySem.Challenge.pw_pourparler_k08_check_table
abbrev top (i : Nat) : Stmt := prog.main.body.getD i (.Pass ⟨0, 0, 0, 0⟩)
abbrev mth (i j : Nat) : Stmt := (cbody (top i)).getD j (.Pass ⟨0, 0, 0, 0⟩)
def nmF : List Str := [("_law_wide" : Str), ("_law_take" : Str), ("_law_pool" : Str), ("_law_names" : Str), ("_law_kind" : Str), ("_law_label" : Str), ("_law_talk" : Str), ("_law_table" : Str), ("_law_told" : Str), ("_law_spoil" : Str), ("_law_due" : Str), ("stands_for_another" : Str), ("_law_leads" : Str), ("_law_fault" : Str), ("rows_of" : Str), ("_law_kind_fault" : Str), ("endless_name" : Str), ("check_table" : Str), ("check_talk" : Str), ("law" : Str)]
/-- _law_wide(script, k, cell, mixed) -/
def f__law_wide : FI := ⟨2, 4,
  [.set 2 (.cst (.int 0)),
  .ife (.cmp .lt (.var 1) (.blt .len [(.var 0)]))
    [.set 2 (.blt .abs [(.ix (.var 0) (.var 1))])]
    [],
  .ife (.cmp .ge (.var 2) (.cst (.int 1000000000000000000)))
    [.ret (.var 2)]
    [],
  .set 3 (.bin .mod (.blt .int [(.bin .add (.bin .mul (.bin .add (.var 2) (.cst (.int 1))) (.cst (.int 6364136223846793005))) (.bin .mul (.bin .add (.var 1) (.cst (.int 1))) (.cst (.int 1442695040888963407))))]) (.cst (.int 2305843009213693951))),
  .ret (.bin .mod (.blt .int [(.bin .add (.bin .mul (.var 3) (.cst (.int 3202034522624059733))) (.bin .fdiv (.var 3) (.cst (.int 1000003))))]) (.cst (.int 2305843009213693951)))]⟩
abbrev s__law_wide : Stmt := top 12
def d__law_wide : He.DefD := ⟨("_law_wide", none), "_law_wide", "_law_wide", defArgs s__law_wide, defBody s__law_wide, defScope s__law_wide, [], []⟩
/-- _law_take(pool, most, value) -/
def f__law_take : FI := ⟨2, 3,
  [.ife (.cmp .lt (.ix (.var 0) (.cst (.int 0))) (.cst (.int 1000)))
    [.put (.var 0) (.cst (.int 2)) (.bin .add (.ix (.var 0) (.cst (.int 2))) (.cst (.int 1))),
    .put (.var 0) (.cst (.int 0)) (.cal 0 [(.ix (.var 0) (.cst (.int 1))), (.ix (.var 0) (.cst (.int 2)))])]
    [],
  .set 2 (.bin .mod (.blt .int [(.ix (.var 0) (.cst (.int 0)))]) (.var 1)),
  .put (.var 0) (.cst (.int 0)) (.bin .fdiv (.ix (.var 0) (.cst (.int 0))) (.var 1)),
  .ret (.var 2)]⟩
abbrev s__law_take : Stmt := top 13
def d__law_take : He.DefD := ⟨("_law_take", none), "_law_take", "_law_take", defArgs s__law_take, defBody s__law_take, defScope s__law_take, [], []⟩
/-- _law_pool(script) -/
def f__law_pool : FI := ⟨1, 1,
  [.ret (.lst [(.cst (.int 0)), (.blt .list [(.var 0)]), (.neg (.cst (.int 1)))])]⟩
abbrev s__law_pool : Stmt := top 14
def d__law_pool : He.DefD := ⟨("_law_pool", none), "_law_pool", "_law_pool", defArgs s__law_pool, defBody s__law_pool, defScope s__law_pool, [], []⟩
/-- _law_names(pool, first, second) -/
def f__law_names : FI := ⟨1, 3,
  [.set 1 (.ix (.lst [(.cst (.str ['T'])), (.cst (.str ['T', 'a'])), (.cst (.str ['T', 'a', 'l', 'k'])), (.cst (.str ['X', '9'])), (.cst (.str ['C', 'a', 'l', 'c'])), (.cst (.str ['B']))]) (.cal 1 [(.var 0), (.cst (.int 6))])),
  .set 2 (.ix (.lst [(.cst (.str ['U'])), (.cst (.str ['T', 'b'])), (.cst (.str ['T', 'a', 'l'])), (.cst (.str ['X', '8'])), (.cst (.str ['D', 'i', 'a', 'l'])), (.cst (.str ['A']))]) (.cal 1 [(.var 0), (.cst (.int 6))])),
  .ret (.slc (.lst [(.var 1), (.var 2), (.cst (.str ['Z', 'z']))]) [] [(.bin .add (.cst (.int 1)) (.cal 1 [(.var 0), (.cst (.int 3))]))])]⟩
abbrev s__law_names : Stmt := top 15
def d__law_names : He.DefD := ⟨("_law_names", none), "_law_names", "_law_names", defArgs s__law_names, defBody s__law_names, defScope s__law_names, [], []⟩
/-- _law_kind(pool, names, choice) -/
def f__law_kind : FI := ⟨2, 3,
  [.set 2 (.cal 1 [(.var 0), (.cst (.int 6))]),
  .ife (.cmp .lt (.var 2) (.cst (.int 3)))
    [.ret (.ix (.lst [(.cst .non), (.cst (.str ['i', 'n', 't'])), (.cst (.str ['b', 'o', 'o', 'l']))]) (.var 2))]
    [],
  .ret (.tup [(.ix (.lst [(.cst (.str ['n', 'a', 'm', 'e'])), (.cst (.str ['d', 'u', 'a', 'l']))]) (.bin .mod (.var 2) (.cst (.int 2)))), (.ix (.var 1) (.cal 1 [(.var 0), (.blt .len [(.var 1)])]))])]⟩
abbrev s__law_kind : Stmt := top 16
def d__law_kind : He.DefD := ⟨("_law_kind", none), "_law_kind", "_law_kind", defArgs s__law_kind, defBody s__law_kind, defScope s__law_kind, [], []⟩
/-- _law_label(pool) -/
def f__law_label : FI := ⟨1, 1,
  [.ret (.ix (.lst [(.cst (.str ['g', 'o'])), (.cst (.str ['g', 'o', 'o'])), (.cst (.str ['s', 't', 'o', 'p'])), (.cst (.str ['a'])), (.cst (.str ['b'])), (.cst (.str ['a', 't']))]) (.cal 1 [(.var 0), (.cst (.int 6))]))]⟩
abbrev s__law_label : Stmt := top 17
def d__law_label : He.DefD := ⟨("_law_label", none), "_law_label", "_law_label", defArgs s__law_label, defBody s__law_label, defScope s__law_label, [], []⟩
/-- _law_talk(pool, names, depth, choice, rows, k, label, row, payload) -/
def f__law_talk : FI := ⟨3, 9,
  [.set 3 (.cal 1 [(.var 0), (.cst (.int 8))]),
  .ife (.cmp .eq (.var 3) (.cst (.int 0)))
    [.ret (.tup [(.cst (.str ['e', 'n', 'd']))])]
    [],
  .ife (.and (.cmp .lt (.var 3) (.cst (.int 3))) (.cmp .lt (.var 2) (.cst (.int 2))))
    [.ret (.tup [(.ix (.lst [(.cst (.str ['n', 'a', 'm', 'e'])), (.cst (.str ['d', 'u', 'a', 'l']))]) (.bin .mod (.var 3) (.cst (.int 2)))), (.ix (.var 1) (.cal 1 [(.var 0), (.blt .len [(.var 1)])]))])]
    [],
  .ife (.cmp .eq (.var 2) (.cst (.int 0)))
    [.ret (.bin .add (.tup [(.ix (.lst [(.cst (.str ['n', 'a', 'm', 'e'])), (.cst (.str ['d', 'u', 'a', 'l'])), (.cst (.str ['e', 'n', 'd']))]) (.bin .mod (.var 3) (.cst (.int 3))))]) (.slc (.tup [(.ix (.var 1) (.cal 1 [(.var 0), (.blt .len [(.var 1)])]))]) [] [(.blt .int [(.cmp .lt (.bin .mod (.var 3) (.cst (.int 3))) (.cst (.int 2)))])]))]
    [],
  .set 4 (.lst []),
  .for_ (.nm 5) .rng1 [(.bin .add (.cst (.int 1)) (.cal 1 [(.var 0), (.cst (.int 3))]))]
    [.set 6 (.cal 5 [(.var 0)]),
    .ife (.cmp .nin (.var 6) (.lc [7] (.nm 7) .seq [(.var 4)] [] (.ix (.var 7) (.cst (.int 0)))))
      [.set 8 (.cal 4 [(.var 0), (.var 1)]),
      .expr (.met (.var 4) "append" [(.tup [(.var 6), (.var 8), (.cal 6 [(.var 0), (.var 1), (.bin .sub (.var 2) (.cst (.int 1)))])])])]
      []],
  .ret (.tup [(.ix (.lst [(.cst (.str ['s', 'a', 'y'])), (.cst (.str ['h', 'e', 'a', 'r']))]) (.bin .mod (.var 3) (.cst (.int 2)))), (.blt .tuple [(.var 4)])])]⟩
abbrev s__law_talk : Stmt := top 18
def d__law_talk : He.DefD := ⟨("_law_talk", none), "_law_talk", "_law_talk", defArgs s__law_talk, defBody s__law_talk, defScope s__law_talk, [], []⟩
/-- _law_table(pool, names, table, k, talk) -/
def f__law_table : FI := ⟨1, 5,
  [.set 1 (.cal 3 [(.var 0)]),
  .set 2 (.dic false [] []),
  .for_ (.nm 3) .rng1 [(.blt .len [(.var 1)])]
    [.set 4 (.cal 6 [(.var 0), (.var 1), (.cst (.int 2))]),
    .ife (.and (.cmp .eq (.cal 1 [(.var 0), (.cst (.int 9))]) (.cst (.int 0))) (.cmp .lt (.bin .add (.var 3) (.cst (.int 1))) (.blt .len [(.var 1)])))
      [.set 4 (.tup [(.ix (.lst [(.cst (.str ['n', 'a', 'm', 'e'])), (.cst (.str ['d', 'u', 'a', 'l']))]) (.cal 1 [(.var 0), (.cst (.int 2))])), (.ix (.var 1) (.bin .add (.var 3) (.cst (.int 1))))])]
      [],
    .put (.var 2) (.ix (.var 1) (.var 3)) (.var 4)],
  .ret (.var 2)]⟩
abbrev s__law_table : Stmt := top 19
def d__law_table : He.DefD := ⟨("_law_table", none), "_law_table", "_law_table", defArgs s__law_table, defBody s__law_table, defScope s__law_table, [], []⟩
/-- _law_told(table, e) -/
def f__law_told : FI := ⟨1, 2,
  [.try_ [.ife (.cmp .is_ (.cal 17 [(.var 0)]) (.cst .non))
      [.ret (.cst .non)]
      [],
    .ret (.tup [(.cst (.str ['w', 'r', 'o', 'n', 'g'])), (.cst (.str []))])]
    [(2, some 1, [.ret (.tup [(.cst (.str ['c', 'l', 'a', 's', 'h', 'i', 'n', 'g'])), (.exf 1 "name")])]), (1, some 1, [.ret (.tup [(.cst (.str ['u', 'n', 'k', 'n', 'o', 'w', 'n'])), (.exf 1 "name")])]), (3, some 1, [.ret (.tup [(.cst (.str ['m', 'i', 's', 'u', 's', 'e', 'd'])), (.exf 1 "why")])]), (0, none, [.ret (.tup [(.cst (.str ['w', 'r', 'o', 'n', 'g'])), (.cst (.str []))])])]]⟩
abbrev s__law_told : Stmt := top 25
def d__law_told : He.DefD := ⟨("_law_told", none), "_law_told", "_law_told", defArgs s__law_told, defBody s__law_told, defScope s__law_told, [], []⟩
/-- _law_spoil(pool, talk, rows, row, choice, at) -/
def f__law_spoil : FI := ⟨2, 6,
  [.ife (.or (.cmp .eq (.ix (.var 1) (.cst (.int 0))) (.cst (.str ['e', 'n', 'd']))) (.or (.cmp .eq (.ix (.var 1) (.cst (.int 0))) (.cst (.str ['n', 'a', 'm', 'e']))) (.cmp .eq (.ix (.var 1) (.cst (.int 0))) (.cst (.str ['d', 'u', 'a', 'l'])))))
    [.ret (.var 1)]
    [],
  .set 2 (.lc [3] (.nm 3) .seq [(.ix (.var 1) (.cst (.int 1)))] [] (.tup [(.ix (.var 3) (.cst (.int 0))), (.ix (.var 3) (.cst (.int 1))), (.cal 9 [(.var 0), (.ix (.var 3) (.cst (.int 2)))])])),
  .set 4 (.cal 1 [(.var 0), (.cst (.int 9))]),
  .set 5 (.cal 1 [(.var 0), (.blt .len [(.var 2)])]),
  .set 3 (.ix (.var 2) (.var 5)),
  .ife (.cmp .eq (.var 4) (.cst (.int 0)))
    [.expr (.met (.var 2) "insert" [(.cal 1 [(.var 0), (.bin .add (.blt .len [(.var 2)]) (.cst (.int 1)))]), (.tup [(.ix (.var 3) (.cst (.int 0))), (.cst (.str ['i', 'n', 't'])), (.tup [(.cst (.str ['e', 'n', 'd']))])])])]
    [],
  .ife (.cmp .eq (.var 4) (.cst (.int 1)))
    [.put (.var 2) (.var 5) (.tup [(.ix (.var 3) (.cst (.int 0))), (.tup [(.cst (.str ['d', 'u', 'a', 'l'])), (.cst (.str ['Z', 'y']))]), (.ix (.var 3) (.cst (.int 2)))])]
    [],
  .ife (.cmp .eq (.var 4) (.cst (.int 2)))
    [.put (.var 2) (.var 5) (.tup [(.ix (.var 3) (.cst (.int 0))), (.ix (.var 3) (.cst (.int 1))), (.tup [(.cst (.str ['n', 'a', 'm', 'e'])), (.cst (.str ['U', 'b']))])])]
    [],
  .ret (.tup [(.ix (.var 1) (.cst (.int 0))), (.blt .tuple [(.var 2)])])]⟩
abbrev s__law_spoil : Stmt := top 24
def d__law_spoil : He.DefD := ⟨("_law_spoil", none), "_law_spoil", "_law_spoil", defArgs s__law_spoil, defBody s__law_spoil, defScope s__law_spoil, [], []⟩
/-- _law_due(table, name, fault) -/
def f__law_due : FI := ⟨1, 3,
  [.for_ (.nm 1) .seq [(.var 0)]
    [.set 2 (.cal 13 [(.var 0), (.ix (.var 0) (.var 1))]),
    .ife (.cmp .isn (.var 2) (.cst .non))
      [.ret (.var 2)]
      []],
  .for_ (.nm 1) .seq [(.var 0)]
    [.ife (.not (.cal 12 [(.var 0), (.var 1)]))
      [.ret (.tup [(.cst (.str ['m', 'i', 's', 'u', 's', 'e', 'd'])), (.var 1)])]
      []],
  .ret (.cst .non)]⟩
abbrev s__law_due : Stmt := top 23
def d__law_due : He.DefD := ⟨("_law_due", none), "_law_due", "_law_due", defArgs s__law_due, defBody s__law_due, defScope s__law_due, [], []⟩
/-- stands_for_another(talk) -/
def f_stands_for_another : FI := ⟨1, 1,
  [.ret (.or (.cmp .eq (.ix (.var 0) (.cst (.int 0))) (.cst (.str ['n', 'a', 'm', 'e']))) (.cmp .eq (.ix (.var 0) (.cst (.int 0))) (.cst (.str ['d', 'u', 'a', 'l']))))]⟩
abbrev s_stands_for_another : Stmt := top 9
def d_stands_for_another : He.DefD := ⟨("stands_for_another", none), "stands_for_another", "stands_for_another", defArgs s_stands_for_another, defBody s_stands_for_another, defScope s_stands_for_another, [], []⟩
/-- _law_leads(table, name, talk, k) -/
def f__law_leads : FI := ⟨2, 4,
  [.set 2 (.ix (.var 0) (.var 1)),
  .for_ (.nm 3) .rng1 [(.bin .add (.blt .len [(.var 0)]) (.cst (.int 1)))]
    [.ife (.and (.cmp .ne (.ix (.var 2) (.cst (.int 0))) (.cst (.str ['n', 'a', 'm', 'e']))) (.cmp .ne (.ix (.var 2) (.cst (.int 0))) (.cst (.str ['d', 'u', 'a', 'l']))))
      [.ret (.cst (.bl true))]
      [],
    .set 2 (.ix (.var 0) (.ix (.var 2) (.cst (.int 1))))],
  .ret (.cst (.bl false))]⟩
abbrev s__law_leads : Stmt := top 22
def d__law_leads : He.DefD := ⟨("_law_leads", none), "_law_leads", "_law_leads", defArgs s__law_leads, defBody s__law_leads, defScope s__law_leads, [], []⟩
/-- _law_fault(table, talk, labels, row, fault) -/
def f__law_fault : FI := ⟨2, 5,
  [.ife (.or (.cmp .eq (.ix (.var 1) (.cst (.int 0))) (.cst (.str ['n', 'a', 'm', 'e']))) (.cmp .eq (.ix (.var 1) (.cst (.int 0))) (.cst (.str ['d', 'u', 'a', 'l']))))
    [.ret (.cal 15 [(.var 0), (.var 1)])]
    [],
  .ife (.cmp .eq (.ix (.var 1) (.cst (.int 0))) (.cst (.str ['e', 'n', 'd'])))
    [.ret (.cst .non)]
    [],
  .set 2 (.lst []),
  .for_ (.nm 3) .seq [(.ix (.var 1) (.cst (.int 1)))]
    [.ife (.cmp .in_ (.ix (.var 3) (.cst (.int 0))) (.var 2))
      [.ret (.tup [(.cst (.str ['c', 'l', 'a', 's', 'h', 'i', 'n', 'g'])), (.ix (.var 3) (.cst (.int 0)))])]
      [],
    .expr (.met (.var 2) "append" [(.ix (.var 3) (.cst (.int 0)))]),
    .set 4 (.cal 15 [(.var 0), (.ix (.var 3) (.cst (.int 1)))]),
    .ife (.cmp .is_ (.var 4) (.cst .non))
      [.set 4 (.cal 13 [(.var 0), (.ix (.var 3) (.cst (.int 2)))])]
      [],
    .ife (.cmp .isn (.var 4) (.cst .non))
      [.ret (.var 4)]
      []],
  .ret (.cst .non)]⟩
abbrev s__law_fault : Stmt := top 21
def d__law_fault : He.DefD := ⟨("_law_fault", none), "_law_fault", "_law_fault", defArgs s__law_fault, defBody s__law_fault, defScope s__law_fault, [], []⟩
/-- rows_of(talk) -/
def f_rows_of : FI := ⟨1, 1,
  [.ret (.ife (.or (.cmp .eq (.ix (.var 0) (.cst (.int 0))) (.cst (.str ['s', 'a', 'y']))) (.cmp .eq (.ix (.var 0) (.cst (.int 0))) (.cst (.str ['h', 'e', 'a', 'r'])))) (.ix (.var 0) (.cst (.int 1))) (.tup []))]⟩
abbrev s_rows_of : Stmt := top 10
def d_rows_of : He.DefD := ⟨("rows_of", none), "rows_of", "rows_of", defArgs s_rows_of, defBody s_rows_of, defScope s_rows_of, [], []⟩
/-- _law_kind_fault(table, kind) -/
def f__law_kind_fault : FI := ⟨2, 2,
  [.ife (.and (.blt .isTup [(.var 1)]) (.cmp .nin (.ix (.var 1) (.cst (.int 1))) (.var 0)))
    [.ret (.tup [(.cst (.str ['u', 'n', 'k', 'n', 'o', 'w', 'n'])), (.ix (.var 1) (.cst (.int 1)))])]
    [],
  .ret (.cst .non)]⟩
abbrev s__law_kind_fault : Stmt := top 20
def d__law_kind_fault : He.DefD := ⟨("_law_kind_fault", none), "_law_kind_fault", "_law_kind_fault", defArgs s__law_kind_fault, defBody s__law_kind_fault, defScope s__law_kind_fault, [], []⟩
/-- endless_name(table, settled, name, passed, talk) -/
def f_endless_name : FI := ⟨1, 5,
  [.set 1 (.dic false [] []),
  .for_ (.nm 2) .seq [(.var 0)]
    [.set 3 (.dic false [] []),
    .set 4 (.tup [(.cst (.str ['n', 'a', 'm', 'e'])), (.var 2)]),
    .whl (.and (.cal 11 [(.var 4)]) (.cmp .nin (.ix (.var 4) (.cst (.int 1))) (.var 1)))
      [.ife (.cmp .in_ (.ix (.var 4) (.cst (.int 1))) (.var 3))
        [.ret (.var 2)]
        [],
      .put (.var 3) (.ix (.var 4) (.cst (.int 1))) (.cst (.bl true)),
      .set 4 (.ix (.var 0) (.ix (.var 4) (.cst (.int 1))))],
    .expr (.met (.var 1) "update" [(.var 3)])],
  .ret (.cst .non)]⟩
abbrev s_endless_name : Stmt := top 8
def d_endless_name : He.DefD := ⟨("endless_name", none), "endless_name", "endless_name", defArgs s_endless_name, defBody s_endless_name, defScope s_endless_name, [], []⟩
/-- check_table(table, name, endless) -/
def f_check_table : FI := ⟨1, 3,
  [.for_ (.nm 1) .seq [(.var 0)]
    [.expr (.cal 18 [(.var 0), (.ix (.var 0) (.var 1))])],
  .set 2 (.cal 16 [(.var 0)]),
  .ife (.cmp .isn (.var 2) (.cst .non))
    [.raise 3 [(.var 2)]]
    []]⟩
abbrev s_check_table : Stmt := top 6
def d_check_table : He.DefD := ⟨("check_table", none), "check_table", "check_table", defArgs s_check_table, defBody s_check_table, defScope s_check_table, [], []⟩
/-- check_talk(table, talk, labels, label, payload, after) -/
def f_check_talk : FI := ⟨2, 6,
  [.ife (.and (.cal 11 [(.var 1)]) (.cmp .nin (.ix (.var 1) (.cst (.int 1))) (.var 0)))
    [.raise 1 [(.ix (.var 1) (.cst (.int 1)))]]
    [],
  .set 2 (.dic false [] []),
  .for_ (.tp [3, 4, 5]) .seq [(.cal 14 [(.var 1)])]
    [.ife (.cmp .in_ (.var 3) (.var 2))
      [.raise 2 [(.var 3)]]
      [],
    .put (.var 2) (.var 3) (.cst (.bl true)),
    .ife (.blt .isTup [(.var 4)])
      [.expr (.cal 18 [(.var 0), (.var 4)])]
      [],
    .expr (.cal 18 [(.var 0), (.var 5)])]]⟩
abbrev s_check_talk : Stmt := top 7
def d_check_talk : He.DefD := ⟨("check_talk", none), "check_talk", "check_talk", defArgs s_check_talk, defBody s_check_talk, defScope s_check_talk, [], []⟩
/-- law(script, pool, table, names, name, given, told) -/
def f_law : FI := ⟨1, 7,
  [.set 1 (.cal 2 [(.var 0)]),
  .set 2 (.cal 7 [(.var 1)]),
  .ife (.cmp .isn (.cal 8 [(.blt .dict [(.var 2)])]) (.cst .non))
    [.ret (.cst (.bl false))]
    [],
  .set 3 (.blt .list [(.var 2)]),
  .for_ (.nm 4) .seq [(.var 3)]
    [.put (.var 2) (.var 4) (.cal 9 [(.var 1), (.ix (.var 2) (.var 4))]),
    .ife (.cmp .eq (.cal 1 [(.var 1), (.cst (.int 5))]) (.cst (.int 0)))
      [.put (.var 2) (.var 4) (.tup [(.ix (.lst [(.cst (.str ['n', 'a', 'm', 'e'])), (.cst (.str ['d', 'u', 'a', 'l']))]) (.cal 1 [(.var 1), (.cst (.int 2))])), (.ix (.var 3) (.cal 1 [(.var 1), (.blt .len [(.var 3)])]))])]
      []],
  .set 5 (.blt .dict [(.var 2)]),
  .set 6 (.cal 8 [(.var 5)]),
  .ret (.and (.cmp .eq (.var 5) (.var 2)) (.and (.cmp .eq (.var 6) (.cal 10 [(.var 2)])) (.cmp .eq (.cal 8 [(.var 5)]) (.var 6))))]⟩
abbrev s_law : Stmt := top 26
def d_law : He.DefD := ⟨("law", none), "law", "law", defArgs s_law, defBody s_law, defScope s_law, [], []⟩
abbrev s_xUnknown : Stmt := mth 2 0
def d_xUnknown : He.DefD := ⟨("Unknown", some "__init__"), "__init__", "Unknown.__init__", defArgs s_xUnknown, defBody s_xUnknown, defScope s_xUnknown, [], []⟩
abbrev s_xClashing : Stmt := mth 3 0
def d_xClashing : He.DefD := ⟨("Clashing", some "__init__"), "__init__", "Clashing.__init__", defArgs s_xClashing, defBody s_xClashing, defScope s_xClashing, [], []⟩
abbrev s_xMisused : Stmt := mth 4 0
def d_xMisused : He.DefD := ⟨("Misused", some "__init__"), "__init__", "Misused.__init__", defArgs s_xMisused, defBody s_xMisused, defScope s_xMisused, [], []⟩
def fns : List FI := [f__law_wide, f__law_take, f__law_pool, f__law_names, f__law_kind, f__law_label, f__law_talk, f__law_table, f__law_told, f__law_spoil, f__law_due, f_stands_for_another, f__law_leads, f__law_fault, f_rows_of, f__law_kind_fault, f_endless_name, f_check_table, f_check_talk, f_law]
def defs : List He.DefD := [d__law_wide, d__law_take, d__law_pool, d__law_names, d__law_kind, d__law_label, d__law_talk, d__law_table, d__law_told, d__law_spoil, d__law_due, d_stands_for_another, d__law_leads, d__law_fault, d_rows_of, d__law_kind_fault, d_endless_name, d_check_table, d_check_talk, d_law, d_xUnknown, d_xClashing, d_xMisused]
def exsI : List ExI := [⟨"Refused", [], 0⟩, ⟨"Unknown", ["name"], 20⟩, ⟨"Clashing", ["name"], 21⟩, ⟨"Misused", ["why"], 22⟩]
theorem okx_Unknown : ExOk d_xUnknown ⟨"Unknown", ["name"], 20⟩ ["self", "name"] ["self", "name"] := ⟨rfl, rfl, rfl, ⟨rfl, rfl, rfl, by decide +kernel, rfl, by decide +kernel, by decide +kernel⟩,
  fun _ _ _ _ _ _ us hl => match us, hl with | [_, _], _ => rfl, rfl, rfl, by decide, by decide +kernel⟩
theorem okx_Clashing : ExOk d_xClashing ⟨"Clashing", ["name"], 21⟩ ["self", "name"] ["self", "name"] := ⟨rfl, rfl, rfl, ⟨rfl, rfl, rfl, by decide +kernel, rfl, by decide +kernel, by decide +kernel⟩,
  fun _ _ _ _ _ _ us hl => match us, hl with | [_, _], _ => rfl, rfl, rfl, by decide, by decide +kernel⟩
theorem okx_Misused : ExOk d_xMisused ⟨"Misused", ["why"], 22⟩ ["self", "why"] ["self", "why"] := ⟨rfl, rfl, rfl, ⟨rfl, rfl, rfl, by decide +kernel, rfl, by decide +kernel, by decide +kernel⟩,
  fun _ _ _ _ _ _ us hl => match us, hl with | [_, _], _ => rfl, rfl, rfl, by decide, by decide +kernel⟩
def clsI : List ClsI := []
def pg : Pg := { fns := fns, names := nmF, cls := clsI, nw := [], snm := [], nums := [], exs := exsI, cons := [], isa := fun c k => decide ((c, k) ∈ [(0, 0), (1, 1), (1, 0), (2, 2), (2, 0), (3, 3), (3, 0)]) }
theorem ok__law_wide : DefOk pg.ck d__law_wide f__law_wide ("_law_wide", none) ["script", "k", "cell", "mixed"] ["script", "k"] := ⟨rfl, rfl, rfl, ⟨rfl, rfl, rfl, by decide +kernel, rfl, by decide +kernel, by decide +kernel⟩,
  fun _ _ _ _ _ _ us hl => match us, hl with | [_, _], _ => rfl, rfl, rfl, by decide +kernel⟩
theorem ok__law_take : DefOk pg.ck d__law_take f__law_take ("_law_take", none) ["pool", "most", "value"] ["pool", "most"] := ⟨rfl, rfl, rfl, ⟨rfl, rfl, rfl, by decide +kernel, rfl, by decide +kernel, by decide +kernel⟩,
  fun _ _ _ _ _ _ us hl => match us, hl with | [_, _], _ => rfl, rfl, rfl, by decide +kernel⟩
theorem ok__law_pool : DefOk pg.ck d__law_pool f__law_pool ("_law_pool", none) ["script"] ["script"] := ⟨rfl, rfl, rfl, ⟨rfl, rfl, rfl, by decide +kernel, rfl, by decide +kernel, by decide +kernel⟩,
  fun _ _ _ _ _ _ us hl => match us, hl with | [_], _ => rfl, rfl, rfl, by decide +kernel⟩
theorem ok__law_names : DefOk pg.ck d__law_names f__law_names ("_law_names", none) ["pool", "first", "second"] ["pool"] := ⟨rfl, rfl, rfl, ⟨rfl, rfl, rfl, by decide +kernel, rfl, by decide +kernel, by decide +kernel⟩,
  fun _ _ _ _ _ _ us hl => match us, hl with | [_], _ => rfl, rfl, rfl, by decide +kernel⟩
theorem ok__law_kind : DefOk pg.ck d__law_kind f__law_kind ("_law_kind", none) ["pool", "names", "choice"] ["pool", "names"] := ⟨rfl, rfl, rfl, ⟨rfl, rfl, rfl, by decide +kernel, rfl, by decide +kernel, by decide +kernel⟩,
  fun _ _ _ _ _ _ us hl => match us, hl with | [_, _], _ => rfl, rfl, rfl, by decide +kernel⟩
theorem ok__law_label : DefOk pg.ck d__law_label f__law_label ("_law_label", none) ["pool"] ["pool"] := ⟨rfl, rfl, rfl, ⟨rfl, rfl, rfl, by decide +kernel, rfl, by decide +kernel, by decide +kernel⟩,
  fun _ _ _ _ _ _ us hl => match us, hl with | [_], _ => rfl, rfl, rfl, by decide +kernel⟩
theorem ok__law_talk : DefOk pg.ck d__law_talk f__law_talk ("_law_talk", none) ["pool", "names", "depth", "choice", "rows", "k", "label", "row", "payload"] ["pool", "names", "depth"] := ⟨rfl, rfl, rfl, ⟨rfl, rfl, rfl, by decide +kernel, rfl, by decide +kernel, by decide +kernel⟩,
  fun _ _ _ _ _ _ us hl => match us, hl with | [_, _, _], _ => rfl, rfl, rfl, by decide +kernel⟩
theorem ok__law_table : DefOk pg.ck d__law_table f__law_table ("_law_table", none) ["pool", "names", "table", "k", "talk"] ["pool"] := ⟨rfl, rfl, rfl, ⟨rfl, rfl, rfl, by decide +kernel, rfl, by decide +kernel, by decide +kernel⟩,
  fun _ _ _ _ _ _ us hl => match us, hl with | [_], _ => rfl, rfl, rfl, by decide +kernel⟩
theorem ok__law_told : DefOk pg.ck d__law_told f__law_told ("_law_told", none) ["table", "e"] ["table"] := ⟨rfl, rfl, rfl, ⟨rfl, rfl, rfl, by decide +kernel, rfl, by decide +kernel, by decide +kernel⟩,
  fun _ _ _ _ _ _ us hl => match us, hl with | [_], _ => rfl, rfl, rfl, by decide +kernel⟩
theorem ok__law_spoil : DefOk pg.ck d__law_spoil f__law_spoil ("_law_spoil", none) ["pool", "talk", "rows", "row", "choice", "at"] ["pool", "talk"] := ⟨rfl, rfl, rfl, ⟨rfl, rfl, rfl, by decide +kernel, rfl, by decide +kernel, by decide +kernel⟩,
  fun _ _ _ _ _ _ us hl => match us, hl with | [_, _], _ => rfl, rfl, rfl, by decide +kernel⟩
theorem ok__law_due : DefOk pg.ck d__law_due f__law_due ("_law_due", none) ["table", "name", "fault"] ["table"] := ⟨rfl, rfl, rfl, ⟨rfl, rfl, rfl, by decide +kernel, rfl, by decide +kernel, by decide +kernel⟩,
  fun _ _ _ _ _ _ us hl => match us, hl with | [_], _ => rfl, rfl, rfl, by decide +kernel⟩
theorem ok_stands_for_another : DefOk pg.ck d_stands_for_another f_stands_for_another ("stands_for_another", none) ["talk"] ["talk"] := ⟨rfl, rfl, rfl, ⟨rfl, rfl, rfl, by decide +kernel, rfl, by decide +kernel, by decide +kernel⟩,
  fun _ _ _ _ _ _ us hl => match us, hl with | [_], _ => rfl, rfl, rfl, by decide +kernel⟩
theorem ok__law_leads : DefOk pg.ck d__law_leads f__law_leads ("_law_leads", none) ["table", "name", "talk", "k"] ["table", "name"] := ⟨rfl, rfl, rfl, ⟨rfl, rfl, rfl, by decide +kernel, rfl, by decide +kernel, by decide +kernel⟩,
  fun _ _ _ _ _ _ us hl => match us, hl with | [_, _], _ => rfl, rfl, rfl, by decide +kernel⟩
theorem ok__law_fault : DefOk pg.ck d__law_fault f__law_fault ("_law_fault", none) ["table", "talk", "labels", "row", "fault"] ["table", "talk"] := ⟨rfl, rfl, rfl, ⟨rfl, rfl, rfl, by decide +kernel, rfl, by decide +kernel, by decide +kernel⟩,
  fun _ _ _ _ _ _ us hl => match us, hl with | [_, _], _ => rfl, rfl, rfl, by decide +kernel⟩
theorem ok_rows_of : DefOk pg.ck d_rows_of f_rows_of ("rows_of", none) ["talk"] ["talk"] := ⟨rfl, rfl, rfl, ⟨rfl, rfl, rfl, by decide +kernel, rfl, by decide +kernel, by decide +kernel⟩,
  fun _ _ _ _ _ _ us hl => match us, hl with | [_], _ => rfl, rfl, rfl, by decide +kernel⟩
theorem ok__law_kind_fault : DefOk pg.ck d__law_kind_fault f__law_kind_fault ("_law_kind_fault", none) ["table", "kind"] ["table", "kind"] := ⟨rfl, rfl, rfl, ⟨rfl, rfl, rfl, by decide +kernel, rfl, by decide +kernel, by decide +kernel⟩,
  fun _ _ _ _ _ _ us hl => match us, hl with | [_, _], _ => rfl, rfl, rfl, by decide +kernel⟩
theorem ok_endless_name : DefOk pg.ck d_endless_name f_endless_name ("endless_name", none) ["table", "settled", "name", "passed", "talk"] ["table"] := ⟨rfl, rfl, rfl, ⟨rfl, rfl, rfl, by decide +kernel, rfl, by decide +kernel, by decide +kernel⟩,
  fun _ _ _ _ _ _ us hl => match us, hl with | [_], _ => rfl, rfl, rfl, by decide +kernel⟩
theorem ok_check_table : DefOk pg.ck d_check_table f_check_table ("check_table", none) ["table", "name", "endless"] ["table"] := ⟨rfl, rfl, rfl, ⟨rfl, rfl, rfl, by decide +kernel, rfl, by decide +kernel, by decide +kernel⟩,
  fun _ _ _ _ _ _ us hl => match us, hl with | [_], _ => rfl, rfl, rfl, by decide +kernel⟩
theorem ok_check_talk : DefOk pg.ck d_check_talk f_check_talk ("check_talk", none) ["table", "talk", "labels", "label", "payload", "after"] ["table", "talk"] := ⟨rfl, rfl, rfl, ⟨rfl, rfl, rfl, by decide +kernel, rfl, by decide +kernel, by decide +kernel⟩,
  fun _ _ _ _ _ _ us hl => match us, hl with | [_, _], _ => rfl, rfl, rfl, by decide +kernel⟩
theorem ok_law : DefOk pg.ck d_law f_law ("law", none) ["script", "pool", "table", "names", "name", "given", "told"] ["script"] := ⟨rfl, rfl, rfl, ⟨rfl, rfl, rfl, by decide +kernel, rfl, by decide +kernel, by decide +kernel⟩,
  fun _ _ _ _ _ _ us hl => match us, hl with | [_], _ => rfl, rfl, rfl, by decide +kernel⟩
theorem oks : ∀ (f : Nat) (x : Str), pg.names[f]? = some x → ∃ (fi : FI) (d : He.DefD) (N ps : List Str), pg.fns[f]? = some fi ∧ defs[f]? = some d ∧ DefOk pg.ck d fi (x, none) N ps
  | 0, _, e => by cases e; exact ⟨_, _, _, _, rfl, rfl, ok__law_wide⟩
  | 1, _, e => by cases e; exact ⟨_, _, _, _, rfl, rfl, ok__law_take⟩
  | 2, _, e => by cases e; exact ⟨_, _, _, _, rfl, rfl, ok__law_pool⟩
  | 3, _, e => by cases e; exact ⟨_, _, _, _, rfl, rfl, ok__law_names⟩
  | 4, _, e => by cases e; exact ⟨_, _, _, _, rfl, rfl, ok__law_kind⟩
  | 5, _, e => by cases e; exact ⟨_, _, _, _, rfl, rfl, ok__law_label⟩
  | 6, _, e => by cases e; exact ⟨_, _, _, _, rfl, rfl, ok__law_talk⟩
  | 7, _, e => by cases e; exact ⟨_, _, _, _, rfl, rfl, ok__law_table⟩
  | 8, _, e => by cases e; exact ⟨_, _, _, _, rfl, rfl, ok__law_told⟩
  | 9, _, e => by cases e; exact ⟨_, _, _, _, rfl, rfl, ok__law_spoil⟩
  | 10, _, e => by cases e; exact ⟨_, _, _, _, rfl, rfl, ok__law_due⟩
  | 11, _, e => by cases e; exact ⟨_, _, _, _, rfl, rfl, ok_stands_for_another⟩
  | 12, _, e => by cases e; exact ⟨_, _, _, _, rfl, rfl, ok__law_leads⟩
  | 13, _, e => by cases e; exact ⟨_, _, _, _, rfl, rfl, ok__law_fault⟩
  | 14, _, e => by cases e; exact ⟨_, _, _, _, rfl, rfl, ok_rows_of⟩
  | 15, _, e => by cases e; exact ⟨_, _, _, _, rfl, rfl, ok__law_kind_fault⟩
  | 16, _, e => by cases e; exact ⟨_, _, _, _, rfl, rfl, ok_endless_name⟩
  | 17, _, e => by cases e; exact ⟨_, _, _, _, rfl, rfl, ok_check_table⟩
  | 18, _, e => by cases e; exact ⟨_, _, _, _, rfl, rfl, ok_check_talk⟩
  | 19, _, e => by cases e; exact ⟨_, _, _, _, rfl, rfl, ok_law⟩
  | _ + 20, _, e => by simp [pg, nmF] at e
theorem okp : pg.Ok defs := by
  refine ⟨oks, fun c k e q hq => ?_, fun c k e f hf => ?_, fun c hc => ?_, fun e he hf => ?_⟩
  · simp [pg, clsI] at e
  · simp [pg, clsI] at e
  · simp [pg] at hc
  · simp only [pg, exsI, List.mem_cons, List.not_mem_nil, or_false] at he
    rcases he with rfl | rfl | rfl | rfl
    · exact absurd rfl hf
    · exact ⟨_, _, _, rfl, okx_Unknown⟩
    · exact ⟨_, _, _, rfl, okx_Clashing⟩
    · exact ⟨_, _, _, rfl, okx_Misused⟩
abbrev nCon : Nat := 0
abbrev nLaw : Nat := 19
abbrev iLaw : Nat := 26
abbrev loose : List Str := [("_law_wide" : Str), ("_law_take" : Str), ("_law_pool" : Str), ("_law_names" : Str), ("_law_kind" : Str), ("_law_label" : Str), ("_law_talk" : Str), ("_law_table" : Str), ("_law_told" : Str), ("_law_spoil" : Str), ("_law_due" : Str), ("stands_for_another" : Str), ("_law_leads" : Str), ("_law_fault" : Str), ("rows_of" : Str), ("_law_kind_fault" : Str), ("endless_name" : Str), ("check_table" : Str), ("check_talk" : Str), ("Refused" : Str), ("Unknown" : Str), ("Clashing" : Str), ("Misused" : Str)]
end K08
end

section
namespace K08
open PySem PySem.Spec PyProof.Rows L2 Rf
def Has (W : Wd) : Prop := ∀ i fi, i < 100 → fns[i]? = some fi → W.fns[i]? = some fi
theorem wide_ok {W : Wd} (hW : Has W) (L n q : Nat) (ns : List Int) (k : Int) (hk : 0 ≤ k) (h : Hs) (hq : h[q]? = some (.lst (ns.map D.int))) : ∃ v : Int, callF W L (n + 1) 0 [.ob q, .int k] h = .ok (.int v) h := by
  rw [callF_s (hW 0 _ (by decide) rfl) rfl]
  by_cases hlt : k < ns.length
  · obtain ⟨x, hx, e⟩ := atI_some (xs := ns.map D.int) hk (by simpa using hlt)
    obtain ⟨c, _, rfl⟩ := List.mem_map.mp hx
    simp [q_set, q_put, q_expr, q_ret, q_retN, q_ife, q_cons, q_nil, q_cst, q_bin, q_neg, q_cmp, q_and, q_or, q_not, q_eife, q_tup, q_lst, q_dic, q_ix, q_slc, q_cal, q_blt, q_enil, q_econs, q_met, r_for, r_lc, r_var, r_ix_ob, r_sl_ob, r_put_ob, r_len_ob, r_tup_ob, r_lst_ob, r_addl, r_app, r_it_ob, r_in_ob, r_nin_ob, optI, Rf.start, f__law_wide, hq, hlt, e]
    split <;> split <;> simp [q_set, q_put, q_expr, q_ret, q_retN, q_ife, q_cons, q_nil, q_cst, q_bin, q_neg, q_cmp, q_and, q_or, q_not, q_eife, q_tup, q_lst, q_dic, q_ix, q_slc, q_cal, q_blt, q_enil, q_econs, q_met, r_for, r_lc, r_var, r_ix_ob, r_sl_ob, r_put_ob, r_len_ob, r_tup_ob, r_lst_ob, r_addl, r_app, r_it_ob, r_in_ob, r_nin_ob, optI, Rf.start, f__law_wide]
  · simp [q_set, q_put, q_expr, q_ret, q_retN, q_ife, q_cons, q_nil, q_cst, q_bin, q_neg, q_cmp, q_and, q_or, q_not, q_eife, q_tup, q_lst, q_dic, q_ix, q_slc, q_cal, q_blt, q_enil, q_econs, q_met, r_for, r_lc, r_var, r_ix_ob, r_sl_ob, r_put_ob, r_len_ob, r_tup_ob, r_lst_ob, r_addl, r_app, r_it_ob, r_in_ob, r_nin_ob, optI, Rf.start, f__law_wide, hq, hlt]
/-- the pool at p, its numbers at q -/
def PO (p q : Nat) (ns : List Int) (h : Hs) : Prop := p ≠ q ∧ ∃ a k : Int, -1 ≤ k ∧ h[p]? = some (.lst [.int a, .ob q, .int k]) ∧ h[q]? = some (.lst (ns.map D.int))
/-- what stands stays, the pool aside -/
def Kp (p : Nat) (h h' : Hs) : Prop := h.length ≤ h'.length ∧ ∀ i mo, i ≠ p → h[i]? = some mo → h'[i]? = some mo
theorem Kp.refl {p h} : Kp p h h := ⟨Nat.le_refl _, fun _ _ _ e => e⟩
theorem Kp.trans {p h h1 h2} (a : Kp p h h1) (b : Kp p h1 h2) : Kp p h h2 := ⟨Nat.le_trans a.1 b.1, fun i mo hi e => b.2 i mo hi (a.2 i mo hi e)⟩
theorem Kp.set {p h o} : Kp p h (h.set p o) := ⟨by simp, fun i mo hi e => by rw [List.getElem?_set_ne (Ne.symm hi)]; exact e⟩
theorem Kp.app {p h t} : Kp p h (h ++ t) := ⟨by simp, fun i mo hi e => lk_app e⟩
theorem PO.app {p q ns h t} (P : PO p q ns h) : PO p q ns (h ++ t) := by
  obtain ⟨h0, a, k, h1, h2, h3⟩ := P
  exact ⟨h0, a, k, h1, lk_app h2, lk_app h3⟩
theorem PO.lt {p q ns h} (P : PO p q ns h) : p < h.length := by
  obtain ⟨h0, a, k, h1, h2, h3⟩ := P
  exact lk_lt h2
theorem take_ok {W : Wd} (hW : Has W) (L n p q : Nat) (ns : List Int) (m : Int) (hm : 0 < m) (hm2 : m < 1073741824) (h : Hs) (P : PO p q ns h) :
    ∃ (v : Int) (h' : Hs), callF W L (n + 2) 1 [.ob p, .int m] h = .ok (.int v) h' ∧ 0 ≤ v ∧ v < m ∧ PO p q ns h' ∧ Kp p h h' := by
  obtain ⟨hpq, a, k, hk, hp, hq⟩ := P
  have hlp := lk_lt hp
  have hs : ∀ (h : Hs) o, p < h.length → (h.set p o)[p]? = some o := fun h o hl => by simp [hl]
  have hs : ∀ o, (h.set p o)[p]? = some o := fun o => hs h o hlp
  have fin : ∀ (a k : Int) (h1 : Hs), -1 ≤ k → h1[p]? = some (.lst [.int a, .ob q, .int k]) → h1[q]? = some (.lst (ns.map D.int)) → Kp p h h1 →
      ∃ (v : Int) (h' : Hs), (evalB W L (callF W L (n + 1)) none (f__law_take.body.drop 1) [some (.ob p), some (.int m), none] h1).fin = .ok (.int v) h' ∧ 0 ≤ v ∧ v < m ∧ PO p q ns h' ∧ Kp p h h' := by
    intro a k h1 hk hp hq kp
    have hl1 := lk_lt hp
    have hm0 : m ≠ 0 := by omega
    have hm3 : m.natAbs < 1073741824 := by omega
    refine ⟨a.fmod m, h1.set p (.lst [.int (a.fdiv m), .ob q, .int k]), ?_, Int.fmod_nonneg_of_pos _ hm, Int.fmod_lt_of_pos _ hm, ⟨hpq, a.fdiv m, k, hk, by simp [hl1], by rw [List.getElem?_set_ne hpq]; exact hq⟩, kp.trans Kp.set⟩
    simp [q_set, q_put, q_expr, q_ret, q_retN, q_ife, q_cons, q_nil, q_cst, q_bin, q_neg, q_cmp, q_and, q_or, q_not, q_eife, q_tup, q_lst, q_dic, q_ix, q_slc, q_cal, q_blt, q_enil, q_econs, q_met, r_for, r_lc, r_var, r_ix_ob, r_sl_ob, r_put_ob, r_len_ob, r_tup_ob, r_lst_ob, r_addl, r_app, r_it_ob, r_in_ob, r_nin_ob, optI, Rf.start, f__law_take, hp, atI, ixN, hm0, hm3]
  rw [callF_s (hW 1 _ (by decide) rfl) rfl]
  by_cases ha : a < 1000
  · obtain ⟨v, ev1⟩ := wide_ok hW L n q ns (k + 1) (by omega) (h.set p (.lst [.int a, .ob q, .int (k + 1)])) (by rw [List.getElem?_set_ne hpq]; exact hq)
    have := fin v (k + 1) ((h.set p (.lst [.int a, .ob q, .int (k + 1)])).set p (.lst [.int v, .ob q, .int (k + 1)])) (by omega) (by simp [hlp]) (by rw [List.getElem?_set_ne hpq, List.getElem?_set_ne hpq]; exact hq) (Kp.set.trans Kp.set)
    obtain ⟨v', h', e, r⟩ := this
    refine ⟨v', h', ?_, r⟩
    rw [← e]
    simp [q_set, q_put, q_expr, q_ret, q_retN, q_ife, q_cons, q_nil, q_cst, q_bin, q_neg, q_cmp, q_and, q_or, q_not, q_eife, q_tup, q_lst, q_dic, q_ix, q_slc, q_cal, q_blt, q_enil, q_econs, q_met, r_for, r_lc, r_var, r_ix_ob, r_sl_ob, r_put_ob, r_len_ob, r_tup_ob, r_lst_ob, r_addl, r_app, r_it_ob, r_in_ob, r_nin_ob, optI, Rf.start, f__law_take, hp, atI, ixN, ha, ev1, hs]
  · obtain ⟨v', h', e, r⟩ := fin a k h hk hp hq Kp.refl
    refine ⟨v', h', ?_, r⟩
    rw [← e]
    simp [q_set, q_put, q_expr, q_ret, q_retN, q_ife, q_cons, q_nil, q_cst, q_bin, q_neg, q_cmp, q_and, q_or, q_not, q_eife, q_tup, q_lst, q_dic, q_ix, q_slc, q_cal, q_blt, q_enil, q_econs, q_met, r_for, r_lc, r_var, r_ix_ob, r_sl_ob, r_put_ob, r_len_ob, r_tup_ob, r_lst_ob, r_addl, r_app, r_it_ob, r_in_ob, r_nin_ob, optI, Rf.start, f__law_take, hp, atI, ixN, ha]
end K08
end

section
namespace K08
open PySem PySem.Spec PyProof.Rows L2 Rf
/-! ### talks -/
mutual
inductive T where
  | en | nm (s : List Char) | du (s : List Char) | say (r : TR) | hear (r : TR)
inductive TR where
  | nil | cons (l : List Char) (p : D) (t : T) (r : TR)
end
abbrev cN : List Char := ['n', 'a', 'm', 'e']
abbrev cU : List Char := ['d', 'u', 'a', 'l']
abbrev cE : List Char := ['e', 'n', 'd']
abbrev cS : List Char := ['s', 'a', 'y']
abbrev cH : List Char := ['h', 'e', 'a', 'r']
mutual
def toD : T → D
  | .en => .tup [.str cE]
  | .nm s => .tup [.str cN, .str s]
  | .du s => .tup [.str cU, .str s]
  | .say r => .tup [.str cS, .tup (rowsD r)]
  | .hear r => .tup [.str cH, .tup (rowsD r)]
def rowsD : TR → List D
  | .nil => []
  | .cons l p t r => .tup [.str l, p, toD t] :: rowsD r
end
mutual
def dl : T → T
  | .en => .en
  | .nm s => .du s
  | .du s => .nm s
  | .say r => .hear (dlR r)
  | .hear r => .say (dlR r)
def dlR : TR → TR
  | .nil => .nil
  | .cons l p t r => .cons l p (dl t) (dlR r)
end
def lenR : TR → Nat
  | .nil => 0
  | .cons _ _ _ r => lenR r + 1
abbrev cI : List Char := ['i', 'n', 't']
abbrev cB : List Char := ['b', 'o', 'o', 'l']
def labs : TR → List (List Char)
  | .nil => []
  | .cons l _ _ r => l :: labs r
theorem labs_dl : ∀ r : TR, labs (dlR r) = labs r
  | .nil => rfl
  | .cons l p t r => by simp only [dlR, labs, labs_dl r]
def okL (s : List Char) : Prop := s.all plC = true ∧ s.length ≤ 8
def okP (nms : List (List Char)) (p : D) : Prop := p = .non ∨ p = .str cI ∨ p = .str cB ∨ ∃ s ∈ nms, p = .tup [.str cN, .str s] ∨ p = .tup [.str cU, .str s]
mutual
def okT (nms : List (List Char)) (bb : Nat) : T → Nat → Prop
  | .en, _ => True
  | .nm s, _ => s ∈ nms
  | .du s, _ => s ∈ nms
  | .say r, k + 1 => (0 < lenR r ∧ lenR r ≤ bb) ∧ okR nms bb r k
  | .hear r, k + 1 => (0 < lenR r ∧ lenR r ≤ bb) ∧ okR nms bb r k
  | .say _, 0 => False
  | .hear _, 0 => False
def okR (nms : List (List Char)) (bb : Nat) : TR → Nat → Prop
  | .nil, _ => True
  | .cons l p t r, k => (okL l ∧ l ∉ labs r) ∧ okP nms p ∧ okT nms bb t k ∧ okR nms bb r k
end
theorem okP_dat {nms : List (List Char)} {p : D} (h : okP nms p) : pur p = true ∧ dep p ≤ 3 := by
  rcases h with rfl | rfl | rfl | ⟨s, _, rfl | rfl⟩ <;> simp [pur, purs, dep, deps]
variable {nms : List (List Char)} {bb : Nat}
mutual
theorem dl_dl : ∀ t : T, dl (dl t) = t
  | .en => rfl
  | .nm s => rfl
  | .du s => rfl
  | .say r => by simp only [dl, dlR_dlR r]
  | .hear r => by simp only [dl, dlR_dlR r]
theorem dlR_dlR : ∀ r : TR, dlR (dlR r) = r
  | .nil => rfl
  | .cons l p t r => by simp only [dlR, dl_dl t, dlR_dlR r]
end
theorem lenR_dl : ∀ r : TR, lenR (dlR r) = lenR r
  | .nil => rfl
  | .cons l p t r => by simp only [dlR, lenR, lenR_dl r]
theorem rowsD_len : ∀ r : TR, (rowsD r).length = lenR r
  | .nil => rfl
  | .cons l p t r => by simp only [rowsD, lenR, List.length_cons, rowsD_len r]
mutual
theorem okT_dl : ∀ {t : T} {k : Nat}, okT nms bb t k → okT nms bb (dl t) k
  | .en, _, _ => by simp only [dl, okT]
  | .nm s, _, h => by simp only [dl, okT] at h ⊢; exact h
  | .du s, _, h => by simp only [dl, okT] at h ⊢; exact h
  | .say r, 0, h => by simp [okT] at h
  | .hear r, 0, h => by simp [okT] at h
  | .say r, k + 1, h => by
    simp only [dl, okT, lenR_dl] at h ⊢
    exact ⟨h.1, okR_dl h.2⟩
  | .hear r, k + 1, h => by
    simp only [dl, okT, lenR_dl] at h ⊢
    exact ⟨h.1, okR_dl h.2⟩
theorem okR_dl : ∀ {r : TR} {k : Nat}, okR nms bb r k → okR nms bb (dlR r) k
  | .nil, _, _ => by simp only [dlR, okR]
  | .cons l p t r, k, h => by
    simp only [dlR, okR] at h ⊢
    rw [labs_dl]
    exact ⟨h.1, h.2.1, okT_dl h.2.2.1, okR_dl h.2.2.2⟩
end
mutual
theorem purT : ∀ {t : T} {k : Nat}, okT nms bb t k → pur (toD t) = true
  | .en, _, _ => by simp [toD, pur, purs]
  | .nm s, _, _ => by simp [toD, pur, purs]
  | .du s, _, _ => by simp [toD, pur, purs]
  | .say r, 0, h => by simp [okT] at h
  | .hear r, 0, h => by simp [okT] at h
  | .say r, k + 1, h => by
    simp only [okT] at h
    simp [toD, pur, purs, purR h.2]
  | .hear r, k + 1, h => by
    simp only [okT] at h
    simp [toD, pur, purs, purR h.2]
theorem purR : ∀ {r : TR} {k : Nat}, okR nms bb r k → purs (rowsD r) = true
  | .nil, _, _ => by simp [rowsD, purs]
  | .cons l p t r, k, h => by
    simp only [okR] at h
    simp [rowsD, pur, purs, (okP_dat h.2.1).1, purT h.2.2.1, purR h.2.2.2]
end
mutual
theorem depT : ∀ {t : T} {k : Nat}, okT nms bb t k → dep (toD t) ≤ 3 * k + 4
  | .en, _, _ => by simp only [toD, dep, deps]; omega
  | .nm s, _, _ => by simp only [toD, dep, deps]; omega
  | .du s, _, _ => by simp only [toD, dep, deps]; omega
  | .say r, 0, h => by simp [okT] at h
  | .hear r, 0, h => by simp [okT] at h
  | .say r, k + 1, h => by
    simp only [okT] at h
    have := depR h.2
    simp only [toD, dep, deps]; omega
  | .hear r, k + 1, h => by
    simp only [okT] at h
    have := depR h.2
    simp only [toD, dep, deps]; omega
theorem depR : ∀ {r : TR} {k : Nat}, okR nms bb r k → deps (rowsD r) ≤ 3 * k + 5
  | .nil, _, _ => by simp only [rowsD, deps]; omega
  | .cons l p t r, k, h => by
    simp only [okR] at h
    have h1 := depT h.2.2.1
    have h2 := depR h.2.2.2
    have h3 := (okP_dat h.2.1).2
    simp only [rowsD, dep, deps]; omega
end
theorem flatT {t : T} {k : Nat} (h : okT nms bb t k) (hk : k ≤ 15) : flat (toD t) = true := by
  have := depT h
  simp [flat, purT h]; omega
mutual
theorem eqv_refl : ∀ d : D, pur d = true → eqv d d = true
  | .non, _ => rfl
  | .bl b, _ => by simp [eqv]
  | .int i, _ => by simp [eqv]
  | .str s, _ => by simp [eqv]
  | .tup xs, h => by simp only [eqv]; exact eqvs_refl xs (by simpa [pur] using h)
  | .ob _, h => by simp [pur] at h
  | .fn _, h => by simp [pur] at h
  | .con _, h => by simp [pur] at h
theorem eqvs_refl : ∀ ds : List D, purs ds = true → eqvs ds ds = true
  | [], _ => rfl
  | d :: ds, h => by
    simp only [purs, Bool.and_eq_true] at h
    simp [eqvs, eqv_refl d h.1, eqvs_refl ds h.2]
end
/-- what stands stays -/
def Kx (h h' : Hs) : Prop := h.length ≤ h'.length ∧ ∀ (i : Nat) (mo : MO), h[i]? = some mo → h'[i]? = some mo
theorem Kx.refl {h} : Kx h h := ⟨Nat.le_refl _, fun _ _ e => e⟩
theorem Kx.trans {h h1 h2} (a : Kx h h1) (b : Kx h1 h2) : Kx h h2 := ⟨Nat.le_trans a.1 b.1, fun i mo e => b.2 i mo (a.2 i mo e)⟩
theorem Kx.app {h t} : Kx h (h ++ t) := ⟨by simp, fun i mo e => lk_app e⟩
theorem Kx.kp {p h h'} (a : Kx h h') : Kp p h h' := ⟨a.1, fun i mo _ e => a.2 i mo e⟩
theorem Kx.of_new {h h1 h2 z} (a : Kx h h1) (hz : h.length ≤ z) (b : Kp z h1 h2) : Kx h h2 := ⟨Nat.le_trans a.1 b.1, fun i mo e => b.2 i mo (fun q => by have := lk_lt e; omega) (a.2 i mo e)⟩
/-! ### the program's own defs -/
variable {W : Wd} (hW : Has W) (L : Nat)
include hW
def isN : T → Bool
  | .nm _ => true | .du _ => true | _ => false
theorem stands_ok (n : Nat) (t : T) (h : Hs) : callF W L (n + 1) 11 [toD t] h = .ok (.bl (isN t)) h := by
  rw [callF_s (hW 11 _ (by decide) rfl) rfl]
  cases t <;> simp [q_set, q_put, q_expr, q_ret, q_retN, q_ife, q_cons, q_nil, q_cst, q_bin, q_neg, q_cmp, q_and, q_or, q_not, q_eife, q_tup, q_lst, q_dic, q_ix, q_slc, q_cal, q_blt, q_enil, q_econs, q_met, r_for, r_lc, r_var, r_ix_ob, r_sl_ob, r_put_ob, r_len_ob, r_tup_ob, r_lst_ob, r_addl, r_app, r_it_ob, r_in_ob, r_nin_ob, optI, Rf.start, f_stands_for_another, toD, atI, ixN, isN]
end K08
end

section
namespace K08
open PySem PySem.Spec PyProof.Rows L2 Rf
variable {nms : List (List Char)} {W : Wd} (hW : Has W) (L : Nat)
include hW
/-- the names at z -/
def NM (z : Nat) (nms : List (List Char)) (h : Hs) : Prop := h[z]? = some (.lst (nms.map D.str)) ∧ 0 < nms.length ∧ nms.length ≤ 3 ∧ ∀ s ∈ nms, okL s
theorem names_ok (n p q : Nat) (ns : List Int) (h : Hs) (P : PO p q ns h) : ∃ (z : Nat) (nms : List (List Char)) (h' : Hs), callF W L (n + 3) 3 [.ob p] h = .ok (.ob z) h' ∧ NM z nms h' ∧ PO p q ns h' ∧ Kp p h h' ∧ h.length ≤ z ∧ nms.Nodup := by
  obtain ⟨v1, h1, e1, a1, b1, P1, k1⟩ := take_ok hW L n p q ns 6 (by decide) (by decide) (h ++ [.lst [.str ['T'], .str ['T', 'a'], .str ['T', 'a', 'l', 'k'], .str ['X', '9'], .str ['C', 'a', 'l', 'c'], .str ['B']]]) P.app
  have z1 := k1.2 h.length _ (by have := P.lt; omega) lk_new
  obtain ⟨x1, m1, i1⟩ := atI_some (xs := [D.str ['T'], .str ['T', 'a'], .str ['T', 'a', 'l', 'k'], .str ['X', '9'], .str ['C', 'a', 'l', 'c'], .str ['B']]) a1 (by simpa using b1)
  obtain ⟨s1, rfl, q1⟩ : ∃ s, x1 = .str s ∧ s ∈ [['T'], ['T', 'a'], ['T', 'a', 'l', 'k'], ['X', '9'], ['C', 'a', 'l', 'c'], ['B']] := by simp at m1; rcases m1 with rfl | rfl | rfl | rfl | rfl | rfl <;> exact ⟨_, rfl, by simp⟩
  obtain ⟨v2, h2, e2, a2, b2, P2, k2⟩ := take_ok hW L n p q ns 6 (by decide) (by decide) (h1 ++ [.lst [.str ['U'], .str ['T', 'b'], .str ['T', 'a', 'l'], .str ['X', '8'], .str ['D', 'i', 'a', 'l'], .str ['A']]]) P1.app
  have z2 := k2.2 h1.length _ (by have := P1.lt; omega) lk_new
  obtain ⟨x2, m2, i2⟩ := atI_some (xs := [D.str ['U'], .str ['T', 'b'], .str ['T', 'a', 'l'], .str ['X', '8'], .str ['D', 'i', 'a', 'l'], .str ['A']]) a2 (by simpa using b2)
  obtain ⟨s2, rfl, q2⟩ : ∃ s, x2 = .str s ∧ s ∈ [['U'], ['T', 'b'], ['T', 'a', 'l'], ['X', '8'], ['D', 'i', 'a', 'l'], ['A']] := by simp at m2; rcases m2 with rfl | rfl | rfl | rfl | rfl | rfl <;> exact ⟨_, rfl, by simp⟩
  obtain ⟨v3, h3, e3, a3, b3, P3, k3⟩ := take_ok hW L n p q ns 3 (by decide) (by decide) (h2 ++ [.lst [.str s1, .str s2, .str ['Z', 'z']]]) P2.app
  have z3 := k3.2 h2.length _ (by have := P2.lt; omega) lk_new
  have kk : Kp p h h3 := Kp.app.trans (k1.trans (Kp.app.trans (k2.trans (Kp.app.trans k3))))
  have main : ∀ nms : List (List Char), cutD [D.str s1, .str s2, .str ['Z', 'z']] none (some (1 + v3)) = nms.map D.str → 0 < nms.length → nms.length ≤ 3 → (∀ s ∈ nms, okL s) → nms.Nodup → ∃ (z : Nat) (nms : List (List Char)) (h' : Hs), callF W L (n + 3) 3 [.ob p] h = .ok (.ob z) h' ∧ NM z nms h' ∧ PO p q ns h' ∧ Kp p h h' ∧ h.length ≤ z ∧ nms.Nodup := by
    intro nms ec hn1 hn2 hn3 hnd
    refine ⟨h3.length, nms, h3 ++ [.lst (nms.map D.str)], ?_, ⟨lk_new, hn1, hn2, hn3⟩, P3.app, kk.trans Kp.app, kk.1, hnd⟩
    rw [callF_s (hW 3 _ (by decide) rfl) rfl]
    simp [q_set, q_put, q_expr, q_ret, q_retN, q_ife, q_cons, q_nil, q_cst, q_bin, q_neg, q_cmp, q_and, q_or, q_not, q_eife, q_tup, q_lst, q_dic, q_ix, q_slc, q_cal, q_blt, q_enil, q_econs, q_met, r_for, r_lc, r_var, r_ix_ob, r_sl_ob, r_put_ob, r_len_ob, r_tup_ob, r_lst_ob, r_addl, r_app, r_it_ob, r_in_ob, r_nin_ob, optI, Rf.start, f__law_names, e1, z1, i1, e2, z2, i2, e3, z3, ec, sizeLine]
  have d1 : s1 ≠ s2 := by
    rintro rfl
    simp at q1 q2
    rcases q1 with rfl | rfl | rfl | rfl | rfl | rfl <;> simp at q2
  have d2 : s1 ≠ ['Z', 'z'] := by
    rintro rfl
    simp at q1
  have d3 : s2 ≠ ['Z', 'z'] := by
    rintro rfl
    simp at q2
  have o1 : okL s1 := by
    simp at q1
    rcases q1 with rfl | rfl | rfl | rfl | rfl | rfl <;> exact ⟨by decide, by decide⟩
  have o2 : okL s2 := by
    simp at q2
    rcases q2 with rfl | rfl | rfl | rfl | rfl | rfl <;> exact ⟨by decide, by decide⟩
  have o3 : okL ['Z', 'z'] := ⟨by decide, by decide⟩
  have : v3 = 0 ∨ v3 = 1 ∨ v3 = 2 := by omega
  rcases this with rfl | rfl | rfl
  · exact main [s1] rfl (by simp) (by simp) (by simp [o1, o2, o3]) (by simp [d1, d2, d3])
  · exact main [s1, s2] rfl (by simp) (by simp) (by simp [o1, o2, o3]) (by simp [d1, d2, d3])
  · exact main [s1, s2, ['Z', 'z']] rfl (by simp) (by simp) (by simp [o1, o2, o3]) (by simp [d1, d2, d3])
end K08
end

section
namespace K08
open PySem PySem.Spec PyProof.Rows L2 Rf
theorem NM.kp {z p : Nat} {nms : List (List Char)} {h h' : Hs} (N : NM z nms h) (hz : z ≠ p) (k : Kp p h h') : NM z nms h' := ⟨k.2 z _ hz N.1, N.2⟩
theorem nm_pick {z : Nat} {nms : List (List Char)} {h : Hs} (N : NM z nms h) {v : Int} (h0 : 0 ≤ v) (h1 : v < (nms.length : Int)) : ∃ s, s ∈ nms ∧ atI (nms.map D.str) v = some (.str s) := by
  obtain ⟨x, hx, e⟩ := atI_some (xs := nms.map D.str) h0 (by simpa using h1)
  obtain ⟨s, hs, rfl⟩ := List.mem_map.mp hx
  exact ⟨s, hs, e⟩
section
variable {nms : List (List Char)} {bb : Nat} {W : Wd}
/-- the labels so far -/
def lbs : TR → List D
  | .nil => []
  | .cons l p t r => .str l :: lbs r
theorem lbs_len : ∀ r : TR, (lbs r).length = lenR r
  | .nil => rfl
  | .cons l p t r => by simp only [lbs, lenR, List.length_cons, lbs_len r]
theorem lbs_flat : ∀ r : TR, (lbs r).all flat = true
  | .nil => rfl
  | .cons l p t r => by simp only [lbs, List.all_cons, lbs_flat r]; rfl
theorem lbs_loop {σ : Sg} {σ1 : D → Sg} {g : Gd} (cf : CF) (h : Hs) (hg : same g h) (hσ : ∀ d, bindT (.nm 7) d (wipeI σ [7]) = some (σ1 d)) (h7 : ∀ d, (σ1 d)[7]? = some (some d)) : ∀ (r : TR) (acc : List D), acc.length + lenR r < sizeLine →
    lcI g (lT W cf [7] (.nm 7) [] (.ix (.var 7) (.cst (.int 0))) σ) (rowsD r) acc h = .ok (acc ++ lbs r) (endG g h)
  | .nil, acc, _ => by rw [rowsD, lcI_nil hg]; simp [lbs]
  | .cons l p t r, acc, hl => by
    simp only [lenR] at hl
    rw [rowsD, lcI_some (h' := h) (x := .str l) hg ?_ (by omega), lbs_loop cf h hg hσ h7 r _ (by simp; omega)]
    · simp [lbs]
    · rw [lT_nil (hσ _)]
      simp [q_set, q_put, q_expr, q_ret, q_retN, q_ife, q_cons, q_nil, q_cst, q_bin, q_neg, q_cmp, q_and, q_or, q_not, q_eife, q_tup, q_lst, q_dic, q_ix, q_slc, q_cal, q_blt, q_enil, q_econs, q_met, r_for, r_lc, r_var, r_ix_ob, r_sl_ob, r_put_ob, r_len_ob, r_tup_ob, r_lst_ob, r_addl, r_app, r_it_ob, r_in_ob, r_nin_ob, optI, Rf.start, h7, atI, ixN]
def addR : TR → List Char → D → T → TR
  | .nil, l, p, t => .cons l p t .nil
  | .cons l p t r, l', p', t' => .cons l p t (addR r l' p' t')
theorem addR_rows : ∀ (r : TR) (l : List Char) (p : D) (t : T), rowsD (addR r l p t) = rowsD r ++ [.tup [.str l, p, toD t]]
  | .nil, _, _, _ => by simp [addR, rowsD]
  | .cons _ _ _ r, l, p, t => by simp [addR, rowsD, addR_rows r l p t]
theorem addR_len : ∀ (r : TR) (l : List Char) (p : D) (t : T), lenR (addR r l p t) = lenR r + 1
  | .nil, _, _, _ => rfl
  | .cons _ _ _ r, l, p, t => by simp [addR, lenR, addR_len r l p t]
theorem labs_add : ∀ (r : TR) (l : List Char) (p : D) (t : T), labs (addR r l p t) = labs r ++ [l]
  | .nil, _, _, _ => rfl
  | .cons _ _ _ r, l, p, t => by simp [addR, labs, labs_add r l p t]
theorem lbs_labs : ∀ r : TR, lbs r = (labs r).map D.str
  | .nil => rfl
  | .cons _ _ _ r => by simp [lbs, labs, lbs_labs r]
theorem inL_labs {s : List Char} {r : TR} : inL (.str s) (lbs r) = true ↔ s ∈ labs r := by
  unfold inL
  rw [lbs_labs, List.any_map, List.any_eq_true]
  constructor
  · rintro ⟨x, hx, e⟩
    simp only [Function.comp, eqv, beq_iff_eq] at e
    rw [← e]; exact hx
  · intro h
    exact ⟨s, h, by simp [eqv]⟩
theorem addR_ok : ∀ {r : TR} {l : List Char} {p : D} {t : T} {k : Nat}, okR nms bb r k → okL l → l ∉ labs r → okP nms p → okT nms bb t k → okR nms bb (addR r l p t) k
  | .nil, _, _, _, _, _, h0, hl, h1, h2 => by simp only [addR, okR, labs]; exact ⟨⟨h0, by simp⟩, h1, h2, trivial⟩
  | .cons l' _ _ r, l, p, t, k, h, h0, hl, h1, h2 => by
    simp only [okR, addR, labs, List.mem_cons, not_or] at h hl ⊢
    refine ⟨⟨h.1.1, ?_⟩, h.2.1, h.2.2.1, addR_ok h.2.2.2 h0 hl.2 h1 h2⟩
    rw [labs_add]
    simp only [List.mem_append, List.mem_singleton, not_or]
    exact ⟨h.1.2, Ne.symm hl.1⟩
end
variable {nms : List (List Char)} {W : Wd} (hW : Has W) (L : Nat)
include hW
theorem kind_ok (n p q z : Nat) (ns : List Int) (nms : List (List Char)) (h : Hs) (P : PO p q ns h) (N : NM z nms h) (hz : z ≠ p) : ∃ (d : D) (h' : Hs), callF W L (n + 3) 4 [.ob p, .ob z] h = .ok d h' ∧ okP nms d ∧ PO p q ns h' ∧ Kp p h h' := by
  obtain ⟨c, h1, e1, a1, b1, P1, k1⟩ := take_ok hW L n p q ns 6 (by decide) (by decide) h P
  have N1 := N.kp hz k1
  rw [callF_s (hW 4 _ (by decide) rfl) rfl]
  by_cases hc : c < 3
  · have hc3 : c = 0 ∨ c = 1 ∨ c = 2 := by omega
    rcases hc3 with rfl | rfl | rfl
    · refine ⟨.non, h1 ++ [.lst [.non, .str ['i', 'n', 't'], .str ['b', 'o', 'o', 'l']]], ?_, .inl rfl, P1.app, k1.trans Kp.app⟩
      simp [q_set, q_put, q_expr, q_ret, q_retN, q_ife, q_cons, q_nil, q_cst, q_bin, q_neg, q_cmp, q_and, q_or, q_not, q_eife, q_tup, q_lst, q_dic, q_ix, q_slc, q_cal, q_blt, q_enil, q_econs, q_met, r_for, r_lc, r_var, r_ix_ob, r_sl_ob, r_put_ob, r_len_ob, r_tup_ob, r_lst_ob, r_addl, r_app, r_it_ob, r_in_ob, r_nin_ob, optI, Rf.start, f__law_kind, e1, atI, ixN, sizeLine]
    · refine ⟨.str ['i', 'n', 't'], h1 ++ [.lst [.non, .str ['i', 'n', 't'], .str ['b', 'o', 'o', 'l']]], ?_, .inr (.inl rfl), P1.app, k1.trans Kp.app⟩
      simp [q_set, q_put, q_expr, q_ret, q_retN, q_ife, q_cons, q_nil, q_cst, q_bin, q_neg, q_cmp, q_and, q_or, q_not, q_eife, q_tup, q_lst, q_dic, q_ix, q_slc, q_cal, q_blt, q_enil, q_econs, q_met, r_for, r_lc, r_var, r_ix_ob, r_sl_ob, r_put_ob, r_len_ob, r_tup_ob, r_lst_ob, r_addl, r_app, r_it_ob, r_in_ob, r_nin_ob, optI, Rf.start, f__law_kind, e1, atI, ixN, sizeLine]
    · refine ⟨.str ['b', 'o', 'o', 'l'], h1 ++ [.lst [.non, .str ['i', 'n', 't'], .str ['b', 'o', 'o', 'l']]], ?_, .inr (.inr (.inl rfl)), P1.app, k1.trans Kp.app⟩
      simp [q_set, q_put, q_expr, q_ret, q_retN, q_ife, q_cons, q_nil, q_cst, q_bin, q_neg, q_cmp, q_and, q_or, q_not, q_eife, q_tup, q_lst, q_dic, q_ix, q_slc, q_cal, q_blt, q_enil, q_econs, q_met, r_for, r_lc, r_var, r_ix_ob, r_sl_ob, r_put_ob, r_len_ob, r_tup_ob, r_lst_ob, r_addl, r_app, r_it_ob, r_in_ob, r_nin_ob, optI, Rf.start, f__law_kind, e1, atI, ixN, sizeLine]
  · have hm0 := Int.fmod_nonneg_of_pos c (b := 2) (by decide)
    have hm1 := Int.fmod_lt_of_pos c (b := 2) (by decide)
    obtain ⟨x, m, i1⟩ := atI_some (xs := [D.str ['n', 'a', 'm', 'e'], .str ['d', 'u', 'a', 'l']]) hm0 (by simpa using hm1)
    obtain ⟨s1, rfl, hs1⟩ : ∃ s, x = .str s ∧ (s = cN ∨ s = cU) := by simp at m; rcases m with rfl | rfl <;> simp
    have hl1 : (0 : Int) < (nms.length : Int) := by have := N.2.1; omega
    have hl2 : (nms.length : Int) < 1073741824 := by have := N.2.2.1; omega
    obtain ⟨v2, h2, e2, a2, b2, P2, k2⟩ := take_ok hW L n p q ns nms.length hl1 hl2 (h1 ++ [.lst [.str ['n', 'a', 'm', 'e'], .str ['d', 'u', 'a', 'l']]]) P1.app
    have N1' : NM z nms (h1 ++ [.lst [.str ['n', 'a', 'm', 'e'], .str ['d', 'u', 'a', 'l']]]) := N1.kp hz Kp.app
    have N2 := N1'.kp hz k2
    obtain ⟨s2, hs2, i2⟩ := nm_pick N2 a2 b2
    refine ⟨.tup [.str s1, .str s2], h2, ?_, .inr (.inr (.inr ⟨s2, hs2, by rcases hs1 with rfl | rfl <;> simp⟩)), P2, k1.trans (Kp.app.trans k2)⟩
    have hN1 := N1'.1
    have hN2 := N2.1
    simp [q_set, q_put, q_expr, q_ret, q_retN, q_ife, q_cons, q_nil, q_cst, q_bin, q_neg, q_cmp, q_and, q_or, q_not, q_eife, q_tup, q_lst, q_dic, q_ix, q_slc, q_cal, q_blt, q_enil, q_econs, q_met, r_for, r_lc, r_var, r_ix_ob, r_sl_ob, r_put_ob, r_len_ob, r_tup_ob, r_lst_ob, r_addl, r_app, r_it_ob, r_in_ob, r_nin_ob, optI, Rf.start, f__law_kind, e1, hc, i1, hN1, e2, hN2, i2, sizeLine]
theorem label_ok (n p q : Nat) (ns : List Int) (h : Hs) (P : PO p q ns h) : ∃ (s : List Char) (h' : Hs), callF W L (n + 3) 5 [.ob p] h = .ok (.str s) h' ∧ okL s ∧ PO p q ns h' ∧ Kp p h h' := by
  obtain ⟨v1, h1, e1, a1, b1, P1, k1⟩ := take_ok hW L n p q ns 6 (by decide) (by decide) (h ++ [.lst [.str ['g', 'o'], .str ['g', 'o', 'o'], .str ['s', 't', 'o', 'p'], .str ['a'], .str ['b'], .str ['a', 't']]]) P.app
  have z1 := k1.2 h.length _ (by have := P.lt; omega) lk_new
  obtain ⟨x1, m1, i1⟩ := atI_some (xs := [D.str ['g', 'o'], .str ['g', 'o', 'o'], .str ['s', 't', 'o', 'p'], .str ['a'], .str ['b'], .str ['a', 't']]) a1 (by simpa using b1)
  obtain ⟨s1, rfl, hs1⟩ : ∃ s, x1 = .str s ∧ okL s := by simp at m1; rcases m1 with rfl | rfl | rfl | rfl | rfl | rfl <;> exact ⟨_, rfl, by decide, by decide⟩
  refine ⟨s1, h1, ?_, hs1, P1, Kp.app.trans k1⟩
  rw [callF_s (hW 5 _ (by decide) rfl) rfl]
  simp [q_set, q_put, q_expr, q_ret, q_retN, q_ife, q_cons, q_nil, q_cst, q_bin, q_neg, q_cmp, q_and, q_or, q_not, q_eife, q_tup, q_lst, q_dic, q_ix, q_slc, q_cal, q_blt, q_enil, q_econs, q_met, r_for, r_lc, r_var, r_ix_ob, r_sl_ob, r_put_ob, r_len_ob, r_tup_ob, r_lst_ob, r_addl, r_app, r_it_ob, r_in_ob, r_nin_ob, optI, Rf.start, f__law_label, e1, z1, i1, sizeLine]
theorem takeN (N p q : Nat) (hN : 2 ≤ N) (ns : List Int) (m : Int) (hm : 0 < m) (hm2 : m < 1073741824) (h : Hs) (P : PO p q ns h) :
    ∃ (v : Int) (h' : Hs), callF W L N 1 [.ob p, .int m] h = .ok (.int v) h' ∧ 0 ≤ v ∧ v < m ∧ PO p q ns h' ∧ Kp p h h' := by
  obtain ⟨n, rfl⟩ : ∃ n, N = n + 2 := ⟨N - 2, by omega⟩
  exact take_ok hW L n p q ns m hm hm2 h P
theorem kindN (N p q z : Nat) (hN : 3 ≤ N) (ns : List Int) (nms : List (List Char)) (h : Hs) (P : PO p q ns h) (Nm : NM z nms h) (hz : z ≠ p) : ∃ (d : D) (h' : Hs), callF W L N 4 [.ob p, .ob z] h = .ok d h' ∧ okP nms d ∧ PO p q ns h' ∧ Kp p h h' := by
  obtain ⟨n, rfl⟩ : ∃ n, N = n + 3 := ⟨N - 3, by omega⟩
  exact kind_ok hW L n p q z ns nms h P Nm hz
theorem labelN (N p q : Nat) (hN : 3 ≤ N) (ns : List Int) (h : Hs) (P : PO p q ns h) : ∃ (s : List Char) (h' : Hs), callF W L N 5 [.ob p] h = .ok (.str s) h' ∧ okL s ∧ PO p q ns h' ∧ Kp p h h' := by
  obtain ⟨n, rfl⟩ : ∃ n, N = n + 3 := ⟨N - 3, by omega⟩
  exact label_ok hW L n p q ns h P
theorem namesN (N p q : Nat) (hN : 3 ≤ N) (ns : List Int) (h : Hs) (P : PO p q ns h) : ∃ (z : Nat) (nms : List (List Char)) (h' : Hs), callF W L N 3 [.ob p] h = .ok (.ob z) h' ∧ NM z nms h' ∧ PO p q ns h' ∧ Kp p h h' ∧ h.length ≤ z ∧ nms.Nodup := by
  obtain ⟨n, rfl⟩ : ∃ n, N = n + 3 := ⟨N - 3, by omega⟩
  exact names_ok hW L n p q ns h P
end K08
end

section
namespace K08
open PySem PySem.Spec PyProof.Rows L2 Rf
/-- what stands stays, two aside -/
def Ky (p y : Nat) (h h' : Hs) : Prop := h.length ≤ h'.length ∧ ∀ (i : Nat) (mo : MO), i ≠ p → i ≠ y → h[i]? = some mo → h'[i]? = some mo
theorem Ky.refl {p y h} : Ky p y h h := ⟨Nat.le_refl _, fun _ _ _ _ e => e⟩
theorem Ky.trans {p y h h1 h2} (a : Ky p y h h1) (b : Ky p y h1 h2) : Ky p y h h2 := ⟨Nat.le_trans a.1 b.1, fun i mo hi hj e => b.2 i mo hi hj (a.2 i mo hi hj e)⟩
theorem Kp.ky {p y h h'} (a : Kp p h h') : Ky p y h h' := ⟨a.1, fun i mo hi _ e => a.2 i mo hi e⟩
theorem Ky.set {p y h o} : Ky p y h (h.set y o) := ⟨by simp, fun i mo _ hi e => by rw [List.getElem?_set_ne (Ne.symm hi)]; exact e⟩
theorem Ky.kp {p y h h1 h2} (a : Kp p h h1) (hy : h.length ≤ y) (b : Ky p y h1 h2) : Kp p h h2 := ⟨Nat.le_trans a.1 b.1, fun i mo hi e => b.2 i mo hi (fun q => by have := lk_lt e; omega) (a.2 i mo hi e)⟩
theorem PO.set {p q : Nat} {ns : List Int} {h : Hs} {y : Nat} {o : MO} (P : PO p q ns h) (h1 : y ≠ p) (h2 : y ≠ q) : PO p q ns (h.set y o) := by
  obtain ⟨h0, a, k, hk, e1, e2⟩ := P
  exact ⟨h0, a, k, hk, by rw [List.getElem?_set_ne h1]; exact e1, by rw [List.getElem?_set_ne h2]; exact e2⟩
theorem NM.set {z : Nat} {nms : List (List Char)} {h : Hs} {y : Nat} {o : MO} (N : NM z nms h) (h1 : y ≠ z) : NM z nms (h.set y o) := ⟨by rw [List.getElem?_set_ne h1]; exact N.1, N.2⟩
abbrev bodyT : List S := [.set 6 (.cal 5 [(.var 0)]),
    .ife (.cmp .nin (.var 6) (.lc [7] (.nm 7) .seq [(.var 4)] [] (.ix (.var 7) (.cst (.int 0)))))
      [.set 8 (.cal 4 [(.var 0), (.var 1)]),
      .expr (.met (.var 4) "append" [(.tup [(.var 6), (.var 8), (.cal 6 [(.var 0), (.var 1), (.bin .sub (.var 2) (.cst (.int 1)))])])])]
      []]
variable {W : Wd} (hW : Has W) (L : Nat)
include hW
def TalkOk (W : Wd) (L : Nat) (d : Nat) : Prop := ∀ (N p q z : Nat) (ns : List Int) (nms : List (List Char)) (h : Hs), d + 5 ≤ N → PO p q ns h → NM z nms h → z ≠ p →
  ∃ (t : T) (h' : Hs), callF W L N 6 [.ob p, .ob z, .int d] h = .ok (toD t) h' ∧ okT nms 3 t d ∧ PO p q ns h' ∧ Kp p h h' ∧ (2 ≤ d → isN t = false)
theorem talk_loop (d : Nat) (ih : TalkOk W L d) (M p q z y : Nat) (ns : List Int) (nms : List (List Char)) (hM : d + 5 ≤ M) (hz : z ≠ p) (hy : y ≠ p) (hyz : y ≠ z) (hyq : y ≠ q) (c : Int) :
    ∀ (xs : List D) (r : TR) (s5 s6 s7 s8 : Option D) (h : Hs), okR nms 3 r d → PO p q ns h → NM z nms h → h[y]? = some (.lst (rowsD r)) → 0 < lenR r + xs.length → lenR r + xs.length ≤ 3 →
    ∃ (σ' : Sg) (h' : Hs) (r' : TR), forI .none (fT W L (callF W L M) (.nm 5) bodyT) xs [some (.ob p), some (.ob z), some (.int (d + 1 : Int)), some (.int c), some (.ob y), s5, s6, s7, s8] h = .ok (.nx σ') h' ∧
      (∃ s5 s6 s7 s8, σ' = [some (.ob p), some (.ob z), some (.int (d + 1 : Int)), some (.int c), some (.ob y), s5, s6, s7, s8]) ∧ okR nms 3 r' d ∧ (0 < lenR r' ∧ lenR r' ≤ 3) ∧ h'[y]? = some (.lst (rowsD r')) ∧ PO p q ns h' ∧ NM z nms h' ∧ Ky p y h h' := by
  intro xs
  induction xs with
  | nil =>
    intro r s5 s6 s7 s8 h ho P N hy1 h0 hl
    exact ⟨_, h, r, forI_nil (by trivial), ⟨_, _, _, _, rfl⟩, ho, ⟨by simpa using h0, by simpa using hl⟩, hy1, P, N, Ky.refl⟩
  | cons x xs ihx =>
    intro r s5 s6 s7 s8 h ho P N hy1 h0 hl
    simp only [List.length_cons] at hl
    obtain ⟨s, h1, e1, ol, P1, k1⟩ := labelN hW L M p q (by omega) ns h P
    have N1 := N.kp hz k1
    have y1 := k1.2 y _ hy hy1
    have el := lbs_loop (σ := [some (.ob p), some (.ob z), some (.int (d + 1 : Int)), some (.int c), some (.ob y), some x, some (.str s), s7, s8]) (σ1 := fun d0 => [some (.ob p), some (.ob z), some (.int (d + 1 : Int)), some (.int c), some (.ob y), some x, some (.str s), some d0, s8]) (W := W) (g := .keep y (.lst (rowsD r))) (callF W L M) h1 y1 (fun _ => rfl) (fun _ => rfl) r [] (by simp [sizeLine]; omega)
    simp only [List.nil_append, endG] at el
    have yl := lk_lt y1
    have Pn : PO p q ns (h1 ++ [.lst (lbs r)]) := P1.app
    have Nn : NM z nms (h1 ++ [.lst (lbs r)]) := N1.kp hz Kp.app
    have yn : (h1 ++ [MO.lst (lbs r)])[y]? = some (.lst (rowsD r)) := lk_app y1
    have hfl : flat (.str s) = true := rfl
    have hfr := lbs_flat r
    cases hin : inL (.str s) (lbs r) with
    | true =>
      obtain ⟨σ', h', r', e9, rest⟩ := ihx r (some x) (some (.str s)) s7 s8 (h1 ++ [.lst (lbs r)]) ho Pn Nn yn (by cases r with
        | nil => simp [lbs, inL] at hin
        | cons _ _ _ _ => simp only [lenR]; omega) (by omega)
      refine ⟨σ', h', r', ?_, rest.1, rest.2.1, rest.2.2.1, rest.2.2.2.1, rest.2.2.2.2.1, rest.2.2.2.2.2.1, (k1.trans Kp.app).ky.trans rest.2.2.2.2.2.2⟩
      rw [forI_nx (h' := h1 ++ [.lst (lbs r)]) (σ' := [some (.ob p), some (.ob z), some (.int (d + 1 : Int)), some (.int c), some (.ob y), some x, some (.str s), s7, s8]) (by trivial) ?_]
      · exact e9
      · rw [fT_some (σ1 := [some (.ob p), some (.ob z), some (.int (d + 1 : Int)), some (.int c), some (.ob y), some x, s6, s7, s8]) rfl]
        simp [q_set, q_put, q_expr, q_ret, q_retN, q_ife, q_cons, q_nil, q_cst, q_bin, q_neg, q_cmp, q_and, q_or, q_not, q_eife, q_tup, q_lst, q_dic, q_ix, q_slc, q_cal, q_blt, q_enil, q_econs, q_met, r_for, r_lc, r_var, r_ix_ob, r_sl_ob, r_put_ob, r_len_ob, r_tup_ob, r_lst_ob, r_addl, r_app, r_it_ob, r_in_ob, r_nin_ob, optI, Rf.start, e1, y1, el, lcEnd, hin, hfl, hfr]
    | false =>
      obtain ⟨pd, h2, e2, op, P2, k2⟩ := kindN hW L M p q z (by omega) ns nms _ Pn Nn hz
      have N2 := Nn.kp hz k2
      have y2 := k2.2 y _ hy yn
      obtain ⟨t, h3, e3, ot, P3, k3, _⟩ := ih M p q z ns nms h2 hM P2 N2 hz
      have N3 := N2.kp hz k3
      have y3 := k3.2 y _ hy y2
      have yl3 := lk_lt y3
      have rl : (rowsD r).length < 16777216 := by rw [rowsD_len]; omega
      obtain ⟨σ', h', r', e9, rest⟩ := ihx (addR r s pd t) (some x) (some (.str s)) s7 (some pd) (h3.set y (.lst (rowsD (addR r s pd t)))) (addR_ok ho ol (fun q => by rw [inL_labs.mpr q] at hin; cases hin) op ot) (P3.set hy hyq) (N3.set hyz) (by simp [yl3]) (by rw [addR_len]; omega) (by rw [addR_len]; omega)
      refine ⟨σ', h', r', ?_, rest.1, rest.2.1, rest.2.2.1, rest.2.2.2.1, rest.2.2.2.2.1, rest.2.2.2.2.2.1, ((k1.trans Kp.app).trans (k2.trans k3)).ky.trans (Ky.set.trans rest.2.2.2.2.2.2)⟩
      rw [forI_nx (h' := h3.set y (.lst (rowsD (addR r s pd t)))) (σ' := [some (.ob p), some (.ob z), some (.int (d + 1 : Int)), some (.int c), some (.ob y), some x, some (.str s), s7, some pd]) (by trivial) ?_]
      · exact e9
      · rw [fT_some (σ1 := [some (.ob p), some (.ob z), some (.int (d + 1 : Int)), some (.int c), some (.ob y), some x, s6, s7, s8]) rfl]
        simp [q_set, q_put, q_expr, q_ret, q_retN, q_ife, q_cons, q_nil, q_cst, q_bin, q_neg, q_cmp, q_and, q_or, q_not, q_eife, q_tup, q_lst, q_dic, q_ix, q_slc, q_cal, q_blt, q_enil, q_econs, q_met, r_for, r_lc, r_var, r_ix_ob, r_sl_ob, r_put_ob, r_len_ob, r_tup_ob, r_lst_ob, r_addl, r_app, r_it_ob, r_in_ob, r_nin_ob, optI, Rf.start, e1, y1, el, lcEnd, hin, hfl, hfr, e2, r_metapp y2, e3, y3, rl, addR_rows, sizeLine]
end K08
end

section
namespace K08
open PySem PySem.Spec PyProof.Rows L2 Rf
variable {W : Wd} (hW : Has W) (L : Nat)
include hW
theorem talk_ok : ∀ d : Nat, TalkOk W L d := by
  intro d
  induction d with
  | zero =>
    intro N p q z ns nms h hN P Nm hz
    obtain ⟨M, rfl⟩ : ∃ M, N = M + 1 := ⟨N - 1, by omega⟩
    rw [callF_s (hW 6 _ (by decide) rfl) rfl]
    obtain ⟨c, h1, e1, a1, b1, P1, k1⟩ := takeN hW L M p q (by omega) ns 8 (by decide) (by decide) h P
    have N1 := Nm.kp hz k1
    have hl1 : (0 : Int) < (nms.length : Int) := by have := Nm.2.1; omega
    have hl2 : (nms.length : Int) < 1073741824 := by have := Nm.2.2.1; omega
    -- one of the names behind a list of words
    have pick : ∀ ws : List D, ∃ (s : List Char) (v : Int) (h2 : Hs), s ∈ nms ∧ callF W L M 1 [.ob p, .int nms.length] (h1 ++ [.lst ws]) = .ok (.int v) h2 ∧ atI (nms.map D.str) v = some (.str s) ∧ (h1 ++ [MO.lst ws])[z]? = some (.lst (nms.map D.str)) ∧ h2[z]? = some (.lst (nms.map D.str)) ∧ PO p q ns h2 ∧ Kp p h h2 := by
      intro ws
      obtain ⟨v2, h2, e2, a2, b2, P2, k2⟩ := takeN hW L M p q (by omega) ns nms.length hl1 hl2 (h1 ++ [.lst ws]) P1.app
      have Nn : NM z nms (h1 ++ [.lst ws]) := N1.kp hz Kp.app
      obtain ⟨s, hs, i2⟩ := nm_pick Nn a2 b2
      exact ⟨s, v2, h2, hs, e2, i2, Nn.1, (Nn.kp hz k2).1, P2, k1.trans (Kp.app.trans k2)⟩
    have hc : c = 0 ∨ c = 1 ∨ c = 2 ∨ c = 3 ∨ c = 4 ∨ c = 5 ∨ c = 6 ∨ c = 7 := by omega
    obtain ⟨s, v, h2, hs, e2, i2, z1, z2, P2, k2⟩ := pick [.str cN, .str cU]
    obtain ⟨s3, v3, h3, hs3, e3, i3, z3, z4, P3, k3⟩ := pick [.str cN, .str cU, .str cE]
    rcases hc with rfl | rfl | rfl | rfl | rfl | rfl | rfl | rfl
    · refine ⟨.en, h1, ?_, by simp only [okT], P1, k1, fun _ => rfl⟩
      simp [q_set, q_put, q_expr, q_ret, q_retN, q_ife, q_cons, q_nil, q_cst, q_bin, q_neg, q_cmp, q_and, q_or, q_not, q_eife, q_tup, q_lst, q_dic, q_ix, q_slc, q_cal, q_blt, q_enil, q_econs, q_met, r_for, r_lc, r_var, r_ix_ob, r_sl_ob, r_put_ob, r_len_ob, r_tup_ob, r_lst_ob, r_addl, r_app, r_it_ob, r_in_ob, r_nin_ob, optI, Rf.start, f__law_talk, e1, toD, sizeLine]
    · refine ⟨.du s, h2, ?_, by simp only [okT]; exact hs, P2, k2, fun q => absurd q (by decide)⟩
      simp [q_set, q_put, q_expr, q_ret, q_retN, q_ife, q_cons, q_nil, q_cst, q_bin, q_neg, q_cmp, q_and, q_or, q_not, q_eife, q_tup, q_lst, q_dic, q_ix, q_slc, q_cal, q_blt, q_enil, q_econs, q_met, r_for, r_lc, r_var, r_ix_ob, r_sl_ob, r_put_ob, r_len_ob, r_tup_ob, r_lst_ob, r_addl, r_app, r_it_ob, r_in_ob, r_nin_ob, optI, Rf.start, f__law_talk, e1, toD, atI_0, atI_1, atI_2, sizeLine, e2, i2, z1, z2]
    · refine ⟨.nm s, h2, ?_, by simp only [okT]; exact hs, P2, k2, fun q => absurd q (by decide)⟩
      simp [q_set, q_put, q_expr, q_ret, q_retN, q_ife, q_cons, q_nil, q_cst, q_bin, q_neg, q_cmp, q_and, q_or, q_not, q_eife, q_tup, q_lst, q_dic, q_ix, q_slc, q_cal, q_blt, q_enil, q_econs, q_met, r_for, r_lc, r_var, r_ix_ob, r_sl_ob, r_put_ob, r_len_ob, r_tup_ob, r_lst_ob, r_addl, r_app, r_it_ob, r_in_ob, r_nin_ob, optI, Rf.start, f__law_talk, e1, toD, atI_0, atI_1, atI_2, sizeLine, e2, i2, z1, z2]
    · refine ⟨.nm s3, h3, ?_, by simp only [okT]; exact hs3, P3, k3, fun q => absurd q (by decide)⟩
      simp [q_set, q_put, q_expr, q_ret, q_retN, q_ife, q_cons, q_nil, q_cst, q_bin, q_neg, q_cmp, q_and, q_or, q_not, q_eife, q_tup, q_lst, q_dic, q_ix, q_slc, q_cal, q_blt, q_enil, q_econs, q_met, r_for, r_lc, r_var, r_ix_ob, r_sl_ob, r_put_ob, r_len_ob, r_tup_ob, r_lst_ob, r_addl, r_app, r_it_ob, r_in_ob, r_nin_ob, optI, Rf.start, f__law_talk, e1, toD, atI_0, atI_1, atI_2, sizeLine, e3, i3, z3, z4, Rf.cutD, HT.sIx]
    · refine ⟨.du s3, h3, ?_, by simp only [okT]; exact hs3, P3, k3, fun q => absurd q (by decide)⟩
      simp [q_set, q_put, q_expr, q_ret, q_retN, q_ife, q_cons, q_nil, q_cst, q_bin, q_neg, q_cmp, q_and, q_or, q_not, q_eife, q_tup, q_lst, q_dic, q_ix, q_slc, q_cal, q_blt, q_enil, q_econs, q_met, r_for, r_lc, r_var, r_ix_ob, r_sl_ob, r_put_ob, r_len_ob, r_tup_ob, r_lst_ob, r_addl, r_app, r_it_ob, r_in_ob, r_nin_ob, optI, Rf.start, f__law_talk, e1, toD, atI_0, atI_1, atI_2, sizeLine, e3, i3, z3, z4, Rf.cutD, HT.sIx]
    · refine ⟨.en, h3, ?_, by simp only [okT], P3, k3, fun q => absurd q (by decide)⟩
      simp [q_set, q_put, q_expr, q_ret, q_retN, q_ife, q_cons, q_nil, q_cst, q_bin, q_neg, q_cmp, q_and, q_or, q_not, q_eife, q_tup, q_lst, q_dic, q_ix, q_slc, q_cal, q_blt, q_enil, q_econs, q_met, r_for, r_lc, r_var, r_ix_ob, r_sl_ob, r_put_ob, r_len_ob, r_tup_ob, r_lst_ob, r_addl, r_app, r_it_ob, r_in_ob, r_nin_ob, optI, Rf.start, f__law_talk, e1, toD, atI_0, atI_1, atI_2, sizeLine, e3, i3, z3, z4, Rf.cutD, HT.sIx]
    · refine ⟨.nm s3, h3, ?_, by simp only [okT]; exact hs3, P3, k3, fun q => absurd q (by decide)⟩
      simp [q_set, q_put, q_expr, q_ret, q_retN, q_ife, q_cons, q_nil, q_cst, q_bin, q_neg, q_cmp, q_and, q_or, q_not, q_eife, q_tup, q_lst, q_dic, q_ix, q_slc, q_cal, q_blt, q_enil, q_econs, q_met, r_for, r_lc, r_var, r_ix_ob, r_sl_ob, r_put_ob, r_len_ob, r_tup_ob, r_lst_ob, r_addl, r_app, r_it_ob, r_in_ob, r_nin_ob, optI, Rf.start, f__law_talk, e1, toD, atI_0, atI_1, atI_2, sizeLine, e3, i3, z3, z4, Rf.cutD, HT.sIx]
    · refine ⟨.du s3, h3, ?_, by simp only [okT]; exact hs3, P3, k3, fun q => absurd q (by decide)⟩
      simp [q_set, q_put, q_expr, q_ret, q_retN, q_ife, q_cons, q_nil, q_cst, q_bin, q_neg, q_cmp, q_and, q_or, q_not, q_eife, q_tup, q_lst, q_dic, q_ix, q_slc, q_cal, q_blt, q_enil, q_econs, q_met, r_for, r_lc, r_var, r_ix_ob, r_sl_ob, r_put_ob, r_len_ob, r_tup_ob, r_lst_ob, r_addl, r_app, r_it_ob, r_in_ob, r_nin_ob, optI, Rf.start, f__law_talk, e1, toD, atI_0, atI_1, atI_2, sizeLine, e3, i3, z3, z4, Rf.cutD, HT.sIx]
  | succ d ih =>
    intro N p q z ns nms h hN P Nm hz
    obtain ⟨M, rfl⟩ : ∃ M, N = M + 1 := ⟨N - 1, by omega⟩
    rw [callF_s (hW 6 _ (by decide) rfl) rfl]
    obtain ⟨c, h1, e1, a1, b1, P1, k1⟩ := takeN hW L M p q (by omega) ns 8 (by decide) (by decide) h P
    have N1 := Nm.kp hz k1
    have hl1 : (0 : Int) < (nms.length : Int) := by have := Nm.2.1; omega
    have hl2 : (nms.length : Int) < 1073741824 := by have := Nm.2.2.1; omega
    by_cases hc0 : c = 0
    · subst hc0
      refine ⟨.en, h1, ?_, by simp only [okT], P1, k1, fun _ => rfl⟩
      simp [q_set, q_put, q_expr, q_ret, q_retN, q_ife, q_cons, q_nil, q_cst, q_bin, q_neg, q_cmp, q_and, q_or, q_not, q_eife, q_tup, q_lst, q_dic, q_ix, q_slc, q_cal, q_blt, q_enil, q_econs, q_met, r_for, r_lc, r_var, r_ix_ob, r_sl_ob, r_put_ob, r_len_ob, r_tup_ob, r_lst_ob, r_addl, r_app, r_it_ob, r_in_ob, r_nin_ob, optI, Rf.start, f__law_talk, e1, toD, sizeLine]
    by_cases hcd : c < 3 ∧ d + 1 < 2
    · obtain ⟨hc3, hd⟩ := hcd
      obtain rfl : d = 0 := by omega
      have hc : c = 1 ∨ c = 2 := by omega
      obtain ⟨v2, h2, e2, a2, b2, P2, k2⟩ := takeN hW L M p q (by omega) ns nms.length hl1 hl2 (h1 ++ [.lst [.str cN, .str cU]]) P1.app
      have Nn : NM z nms (h1 ++ [.lst [.str cN, .str cU]]) := N1.kp hz Kp.app
      obtain ⟨s, hs, i2⟩ := nm_pick Nn a2 b2
      have z1 := Nn.1
      have z2 := (Nn.kp hz k2).1
      rcases hc with rfl | rfl
      · refine ⟨.du s, h2, ?_, by simp only [okT]; exact hs, P2, k1.trans (Kp.app.trans k2), fun q => absurd q (by decide)⟩
        simp [q_set, q_put, q_expr, q_ret, q_retN, q_ife, q_cons, q_nil, q_cst, q_bin, q_neg, q_cmp, q_and, q_or, q_not, q_eife, q_tup, q_lst, q_dic, q_ix, q_slc, q_cal, q_blt, q_enil, q_econs, q_met, r_for, r_lc, r_var, r_ix_ob, r_sl_ob, r_put_ob, r_len_ob, r_tup_ob, r_lst_ob, r_addl, r_app, r_it_ob, r_in_ob, r_nin_ob, optI, Rf.start, f__law_talk, e1, toD, atI_0, atI_1, atI_2, sizeLine, e2, i2, z1, z2]
      · refine ⟨.nm s, h2, ?_, by simp only [okT]; exact hs, P2, k1.trans (Kp.app.trans k2), fun q => absurd q (by decide)⟩
        simp [q_set, q_put, q_expr, q_ret, q_retN, q_ife, q_cons, q_nil, q_cst, q_bin, q_neg, q_cmp, q_and, q_or, q_not, q_eife, q_tup, q_lst, q_dic, q_ix, q_slc, q_cal, q_blt, q_enil, q_econs, q_met, r_for, r_lc, r_var, r_ix_ob, r_sl_ob, r_put_ob, r_len_ob, r_tup_ob, r_lst_ob, r_addl, r_app, r_it_ob, r_in_ob, r_nin_ob, optI, Rf.start, f__law_talk, e1, toD, atI_0, atI_1, atI_2, sizeLine, e2, i2, z1, z2]
    · obtain ⟨m, h2, e2, a2, b2, P2, k2⟩ := takeN hW L M p q (by omega) ns 3 (by decide) (by decide) (h1 ++ [.lst []]) P1.app
      have y1 : h2[h1.length]? = some (.lst []) := k2.2 h1.length _ (by have := P1.lt; omega) lk_new
      have Nn : NM z nms h2 := (N1.kp hz Kp.app).kp hz k2
      have hyp : h1.length ≠ p := by have := P1.lt; omega
      have hyz : h1.length ≠ z := by have := lk_lt N1.1; omega
      have hyq : h1.length ≠ q := by
        obtain ⟨_, _, _, _, _, e⟩ := P1
        have := lk_lt e; omega
      obtain ⟨σ', h3, r', e3, ⟨s5, s6, s7, s8, rfl⟩, o3, l3, y3, P3, N3, k3⟩ := talk_loop hW L d ih M p q z h1.length ns nms (by omega) hz hyp hyz hyq c ((List.range (1 + m).toNat).map fun (i : Nat) => D.int (0 + (i : Int))) .nil none none none none h2 (by simp only [okR]) P2 Nn y1 (by simp [lenR]; omega) (by simp [lenR]; omega)
      have hm1 : 0 ≤ 1 + m := by omega
      have hm2 : 1 + m ≤ 1000000 := by omega
      have hd1 : ¬ ((d : Int) + 1 = 0) := by omega
      have hcd' : ¬ (c < 3 ∧ (d : Int) + 1 < 2) := by omega
      have hf0 := Int.fmod_nonneg_of_pos c (b := 2) (by decide)
      have hf1 := Int.fmod_lt_of_pos c (b := 2) (by decide)
      have hf : c.fmod 2 = 0 ∨ c.fmod 2 = 1 := by omega
      have kk : Kp p h h3 := Ky.kp (k1.trans (Kp.app.trans k2)) k1.1 k3
      simp only [Int.zero_add] at e3
      have y3' := lk_app (t := [.lst [.str cS, .str cH]]) y3
      have ln : (h3 ++ [MO.lst [D.str cS, .str cH]])[h3.length]? = some (.lst [.str cS, .str cH]) := lk_new
      by_cases hc3 : c < 3
      · have hd2 : ¬ ((d : Int) + 1 < 2) := by omega
        rcases hf with hf | hf
        · refine ⟨.say r', h3 ++ [.lst [.str cS, .str cH]], ?_, by simp only [okT]; exact ⟨l3, o3⟩, P3.app, kk.trans Kp.app, fun _ => rfl⟩
          simp [q_set, q_put, q_expr, q_ret, q_retN, q_ife, q_cons, q_nil, q_cst, q_bin, q_neg, q_cmp, q_and, q_or, q_not, q_eife, q_tup, q_lst, q_dic, q_ix, q_slc, q_cal, q_blt, q_enil, q_econs, q_met, r_for, r_lc, r_var, r_ix_ob, r_sl_ob, r_put_ob, r_len_ob, r_tup_ob, r_lst_ob, r_addl, r_app, r_it_ob, r_in_ob, r_nin_ob, optI, Rf.start, f__law_talk, e1, toD, hc0, hc3, hd1, hd2, e2, rng_small hm1 hm2, e3, hf, atI_0, atI_1, y3', sizeLine]
        · refine ⟨.hear r', h3 ++ [.lst [.str cS, .str cH]], ?_, by simp only [okT]; exact ⟨l3, o3⟩, P3.app, kk.trans Kp.app, fun _ => rfl⟩
          simp [q_set, q_put, q_expr, q_ret, q_retN, q_ife, q_cons, q_nil, q_cst, q_bin, q_neg, q_cmp, q_and, q_or, q_not, q_eife, q_tup, q_lst, q_dic, q_ix, q_slc, q_cal, q_blt, q_enil, q_econs, q_met, r_for, r_lc, r_var, r_ix_ob, r_sl_ob, r_put_ob, r_len_ob, r_tup_ob, r_lst_ob, r_addl, r_app, r_it_ob, r_in_ob, r_nin_ob, optI, Rf.start, f__law_talk, e1, toD, hc0, hc3, hd1, hd2, e2, rng_small hm1 hm2, e3, hf, atI_0, atI_1, y3', sizeLine]
      · rcases hf with hf | hf
        · refine ⟨.say r', h3 ++ [.lst [.str cS, .str cH]], ?_, by simp only [okT]; exact ⟨l3, o3⟩, P3.app, kk.trans Kp.app, fun _ => rfl⟩
          simp [q_set, q_put, q_expr, q_ret, q_retN, q_ife, q_cons, q_nil, q_cst, q_bin, q_neg, q_cmp, q_and, q_or, q_not, q_eife, q_tup, q_lst, q_dic, q_ix, q_slc, q_cal, q_blt, q_enil, q_econs, q_met, r_for, r_lc, r_var, r_ix_ob, r_sl_ob, r_put_ob, r_len_ob, r_tup_ob, r_lst_ob, r_addl, r_app, r_it_ob, r_in_ob, r_nin_ob, optI, Rf.start, f__law_talk, e1, toD, hc0, hc3, hd1, e2, rng_small hm1 hm2, e3, hf, atI_0, atI_1, y3', sizeLine]
        · refine ⟨.hear r', h3 ++ [.lst [.str cS, .str cH]], ?_, by simp only [okT]; exact ⟨l3, o3⟩, P3.app, kk.trans Kp.app, fun _ => rfl⟩
          simp [q_set, q_put, q_expr, q_ret, q_retN, q_ife, q_cons, q_nil, q_cst, q_bin, q_neg, q_cmp, q_and, q_or, q_not, q_eife, q_tup, q_lst, q_dic, q_ix, q_slc, q_cal, q_blt, q_enil, q_econs, q_met, r_for, r_lc, r_var, r_ix_ob, r_sl_ob, r_put_ob, r_len_ob, r_tup_ob, r_lst_ob, r_addl, r_app, r_it_ob, r_in_ob, r_nin_ob, optI, Rf.start, f__law_talk, e1, toD, hc0, hc3, hd1, e2, rng_small hm1 hm2, e3, hf, atI_0, atI_1, y3', sizeLine]
end K08
end

section
namespace K08
open PySem PySem.Spec PyProof.Rows L2 Rf
/-- a table's pairs -/
def TB (nms : List (List Char)) (kvs : List (D × D)) : Prop := ∀ x ∈ kvs, ∃ s t, x = (D.str s, toD t) ∧ okT nms 3 t 2
variable {nms : List (List Char)}
theorem TB.nil : TB nms [] := fun _ h => by simp at h
theorem TB.okK {kvs : List (D × D)} (h : TB nms kvs) (s : List Char) : okK false kvs (.str s) = true := by
  simp only [Rf.okK, Bool.false_eq_true, if_false, isK, Bool.true_and, List.all_eq_true]
  intro x hx
  obtain ⟨s, t, rfl, _⟩ := h x hx
  rfl
theorem TB.put {kvs : List (D × D)} (h : TB nms kvs) {s : List Char} {t : T} (ht : okT nms 3 t 2) : TB nms (kvPut kvs (.str s) (toD t)) ∧ (kvPut kvs (.str s) (toD t)).length ≤ kvs.length + 1 ∧ 0 < (kvPut kvs (.str s) (toD t)).length := by
  unfold kvPut
  split
  · rename_i ha
    refine ⟨fun x hx => ?_, by simp, ?_⟩
    · obtain ⟨y, hy, rfl⟩ := List.mem_map.mp hx
      obtain ⟨s', t', rfl, ho⟩ := h y hy
      split
      · exact ⟨_, _, rfl, ht⟩
      · exact ⟨_, _, rfl, ho⟩
    · rw [List.length_map]
      cases kvs with
      | nil => simp at ha
      | cons a b => simp
  · refine ⟨fun x hx => ?_, by simp, by simp⟩
    rcases List.mem_append.mp hx with hx | hx
    · exact h x hx
    · rw [List.mem_singleton] at hx; subst hx; exact ⟨_, _, rfl, ht⟩
theorem TB.get {kvs : List (D × D)} (h : TB nms kvs) {s : List Char} (hm : D.str s ∈ kvs.map (·.1)) : ∃ t, kvGet kvs (.str s) = some (toD t) ∧ okT nms 3 t 2 := by
  induction kvs with
  | nil => simp at hm
  | cons x kvs ih =>
    obtain ⟨s', t', rfl, ho⟩ := h x (List.mem_cons_self)
    unfold kvGet
    by_cases he : eqv (.str s') (.str s) = true
    · exact ⟨t', by simp [he], ho⟩
    · have : ∃ t, kvGet kvs (.str s) = some (toD t) ∧ okT nms 3 t 2 := by
        refine ih (fun y hy => h y (List.mem_cons_of_mem _ hy)) ?_
        simp only [List.map_cons, List.mem_cons] at hm
        rcases hm with hm | hm
        · exfalso; apply he; cases hm; simp [eqv]
        · exact hm
      obtain ⟨t, e1, e2⟩ := this
      exact ⟨t, by simp [he, e1], e2⟩
theorem TB.names {kvs : List (D × D)} (h : TB nms kvs) : ∃ nms : List (List Char), kvs.map (·.1) = nms.map D.str ∧ nms.length = kvs.length := by
  induction kvs with
  | nil => exact ⟨[], rfl, rfl⟩
  | cons x kvs ih =>
    obtain ⟨s', t', rfl, ho⟩ := h x (List.mem_cons_self)
    obtain ⟨nms, e1, e2⟩ := ih (fun y hy => h y (List.mem_cons_of_mem _ hy))
    exact ⟨s' :: nms, by simp [e1], by simp [e2]⟩
abbrev bodyB : List S := [.set 4 (.cal 6 [(.var 0), (.var 1), (.cst (.int 2))]),
    .ife (.and (.cmp .eq (.cal 1 [(.var 0), (.cst (.int 9))]) (.cst (.int 0))) (.cmp .lt (.bin .add (.var 3) (.cst (.int 1))) (.blt .len [(.var 1)])))
      [.set 4 (.tup [(.ix (.lst [(.cst (.str ['n', 'a', 'm', 'e'])), (.cst (.str ['d', 'u', 'a', 'l']))]) (.cal 1 [(.var 0), (.cst (.int 2))])), (.ix (.var 1) (.bin .add (.var 3) (.cst (.int 1))))])]
      [],
    .put (.var 2) (.ix (.var 1) (.var 3)) (.var 4)]
/-- the k-th talk: a head, or the name behind it -/
def Fit (nms : List (List Char)) (i : Nat) (t : T) : Prop := okT nms 3 t 2 ∧ (isN t = false ∨ ∃ s, nms[i + 1]? = some s ∧ (t = .nm s ∨ t = .du s))
def TI (nms : List (List Char)) (k : Nat) (kvs : List (D × D)) : Prop := kvs.map (·.1) = (nms.take k).map D.str ∧ ∀ (i : Nat) (s : List Char), i < k → nms[i]? = some s → ∃ t, kvGet kvs (.str s) = some (toD t) ∧ Fit nms i t
theorem kvPut_new {kvs : List (D × D)} {k v : D} (h : ∀ p ∈ kvs, eqv p.1 k = false) : kvPut kvs k v = kvs ++ [(k, v)] := by
  unfold kvPut
  rw [if_neg]
  simp only [List.any_eq_true, not_exists, not_and]
  intro p hp
  rw [h p hp]; simp
theorem kvGet_app {kvs : List (D × D)} {k v k' : D} : kvGet (kvs ++ [(k, v)]) k' = match kvGet kvs k' with | some d => some d | none => if eqv k k' then some v else none := by
  induction kvs with
  | nil => simp [kvGet]
  | cons p kvs ih =>
    obtain ⟨a, b⟩ := p
    rw [List.cons_append]
    unfold kvGet
    by_cases he : eqv a k' = true
    · simp [he]
    · simp only [he, if_false, Bool.false_eq_true]; rw [ih]
theorem kvGet_none {kvs : List (D × D)} {k : D} (h : ∀ p ∈ kvs, eqv p.1 k = false) : kvGet kvs k = none := by
  induction kvs with
  | nil => rfl
  | cons p kvs ih =>
    obtain ⟨a, b⟩ := p
    unfold kvGet
    have := h (a, b) List.mem_cons_self
    simp only at this
    simp [this, ih fun q hq => h q (List.mem_cons_of_mem _ hq)]
theorem TI.put {nms : List (List Char)} {k : Nat} {kvs : List (D × D)} {s : List Char} {t : T} (h : TI nms k kvs) (nd : nms.Nodup) (hs : nms[k]? = some s) (ft : Fit nms k t) : TI nms (k + 1) (kvPut kvs (.str s) (toD t)) := by
  obtain ⟨h1, h2⟩ := h
  have hk := (List.getElem?_eq_some_iff.mp hs).1
  have hnew : ∀ p ∈ kvs, eqv p.1 (.str s) = false := by
    intro p hp
    have : p.1 ∈ kvs.map (·.1) := List.mem_map.mpr ⟨p, hp, rfl⟩
    rw [h1] at this
    obtain ⟨s', hs', e⟩ := List.mem_map.mp this
    rw [← e]
    simp only [eqv]
    apply beq_false_of_ne
    rintro rfl
    obtain ⟨i, hi⟩ := List.mem_iff_getElem?.mp hs'
    have hik : i < k := by
      have := (List.getElem?_eq_some_iff.mp hi).1
      rw [List.length_take] at this; omega
    rw [List.getElem?_take_of_lt hik] at hi
    have hi2 := (List.getElem?_eq_some_iff.mp hi).1
    have := (List.getElem?_inj hi2 nd).mp (hi.trans hs.symm)
    omega
  rw [kvPut_new hnew]
  refine ⟨?_, fun i s' hi hi' => ?_⟩
  · rw [List.map_append, h1, List.take_add_one, hs]; simp
  · rw [kvGet_app]
    by_cases hik : i < k
    · obtain ⟨t', e, f⟩ := h2 i s' hik hi'
      exact ⟨t', by rw [e], f⟩
    · obtain rfl : i = k := by omega
      rw [hs] at hi'; cases hi'
      exact ⟨t, by rw [kvGet_none hnew]; simp [eqv], ft⟩
variable {W : Wd} (hW : Has W) (L : Nat)
include hW
theorem table_loop (M p q z y : Nat) (ns : List Int) (nms : List (List Char)) (nd : nms.Nodup) (hM : 7 ≤ M) (hz : z ≠ p) (hy : y ≠ p) (hyz : y ≠ z) (hyq : y ≠ q) :
    ∀ (m k : Nat), k + m = nms.length → ∀ (kvs : List (D × D)) (s3 s4 : Option D) (h : Hs), TB nms kvs → TI nms k kvs → PO p q ns h → NM z nms h → h[y]? = some (.dic false false kvs) →
    ∃ (σ' : Sg) (h' : Hs) (kvs' : List (D × D)), forI .none (fT W L (callF W L M) (.nm 3) bodyB) ((List.range' k m).map fun (i : Nat) => D.int (i : Int)) [some (.ob p), some (.ob z), some (.ob y), s3, s4] h = .ok (.nx σ') h' ∧
      (∃ s3 s4, σ' = [some (.ob p), some (.ob z), some (.ob y), s3, s4]) ∧ TB nms kvs' ∧ TI nms nms.length kvs' ∧ h'[y]? = some (.dic false false kvs') ∧ PO p q ns h' ∧ NM z nms h' ∧ Ky p y h h' := by
  intro m
  induction m with
  | zero =>
    intro k hkm kvs s3 s4 h hT hI P N hy1
    obtain rfl : k = nms.length := by omega
    exact ⟨_, h, kvs, by rw [List.range'_zero, List.map_nil]; exact forI_nil (by trivial), ⟨_, _, rfl⟩, hT, hI, hy1, P, N, Ky.refl⟩
  | succ m ihx =>
    intro k hkm kvs s3 s4 h hT hI P N hy1
    rw [List.range'_succ, List.map_cons]
    have hkn : k < nms.length := by omega
    obtain ⟨sk, hsk⟩ : ∃ s, nms[k]? = some s := ⟨nms[k], by simp [hkn]⟩
    have isk : atI (nms.map D.str) (k : Int) = some (.str sk) := by
      rw [atI_nat (by simpa using hkn)]
      have := (List.getElem?_eq_some_iff.mp hsk).2
      simp [this]
    have hkl : kvs.length = k := by
      have := congrArg List.length hI.1
      simp at this; omega
    have n3 := N.2.2.1
    obtain ⟨t, h1, e1, ot, P1, k1, hN⟩ := talk_ok hW L 2 M p q z ns nms h (by omega) P N hz
    have hN := hN (by omega)
    rw [show ((2 : Nat) : Int) = 2 from rfl] at e1
    have N1 := N.kp hz k1
    obtain ⟨v2, h2, e2, a2, b2, P2, k2⟩ := takeN hW L M p q (by omega) ns 9 (by decide) (by decide) h1 P1
    have N2 := N1.kp hz k2
    have y2 := k2.2 y _ hy (k1.2 y _ hy hy1)
    have fin : ∀ (t2 : T) (h3 : Hs), Fit nms k t2 → PO p q ns h3 → Kp p h2 h3 →
        evalB W L (callF W L M) none [.ife (.and (.cmp .eq (.cal 1 [(.var 0), (.cst (.int 9))]) (.cst (.int 0))) (.cmp .lt (.bin .add (.var 3) (.cst (.int 1))) (.blt .len [(.var 1)]))) [.set 4 (.tup [(.ix (.lst [(.cst (.str ['n', 'a', 'm', 'e'])), (.cst (.str ['d', 'u', 'a', 'l']))]) (.cal 1 [(.var 0), (.cst (.int 2))])), (.ix (.var 1) (.bin .add (.var 3) (.cst (.int 1))))])] []] [some (.ob p), some (.ob z), some (.ob y), some (.int k), some (toD t)] h1 = .ok (.nx [some (.ob p), some (.ob z), some (.ob y), some (.int k), some (toD t2)]) h3 →
        ∃ (σ' : Sg) (h' : Hs) (kvs' : List (D × D)), forI .none (fT W L (callF W L M) (.nm 3) bodyB) (.int k :: (List.range' (k + 1) m).map fun (i : Nat) => D.int (i : Int)) [some (.ob p), some (.ob z), some (.ob y), s3, s4] h = .ok (.nx σ') h' ∧
          (∃ s3 s4, σ' = [some (.ob p), some (.ob z), some (.ob y), s3, s4]) ∧ TB nms kvs' ∧ TI nms nms.length kvs' ∧ h'[y]? = some (.dic false false kvs') ∧ PO p q ns h' ∧ NM z nms h' ∧ Ky p y h h' := by
      intro t2 h3 ft P3 k3 e3
      have N3 := N2.kp hz k3
      have y3 := k3.2 y _ hy y2
      have yl3 := lk_lt y3
      have n3 := N3.1
      obtain ⟨p1, p2, p3⟩ := hT.put (s := sk) ft.1
      have kl : kvs.length < 16777216 := by omega
      have ok1 := hT.okK sk
      obtain ⟨σ', h', kvs', e9, r1, r2, rest⟩ := ihx (k + 1) (by omega) (kvPut kvs (.str sk) (toD t2)) (some (.int k)) (some (toD t2)) (h3.set y (.dic false false (kvPut kvs (.str sk) (toD t2)))) p1 (hI.put nd hsk ft) (P3.set hy hyq) (N3.set hyz) (by simp [yl3])
      refine ⟨σ', h', kvs', ?_, r1, r2, rest.1, rest.2.1, rest.2.2.1, rest.2.2.2.1, ((k1.trans k2).trans k3).ky.trans (Ky.set.trans rest.2.2.2.2)⟩
      rw [forI_nx (h' := h3.set y (.dic false false (kvPut kvs (.str sk) (toD t2)))) (σ' := [some (.ob p), some (.ob z), some (.ob y), some (.int k), some (toD t2)]) (by trivial) ?_]
      · exact e9
      · rw [fT_some (σ1 := [some (.ob p), some (.ob z), some (.ob y), some (.int k), s4]) rfl]
        rw [q_cons]
        have e4 : evalS W L (callF W L M) none (.set 4 (.cal 6 [(.var 0), (.var 1), (.cst (.int 2))])) [some (.ob p), some (.ob z), some (.ob y), some (.int k), s4] h = .ok (.nx [some (.ob p), some (.ob z), some (.ob y), some (.int k), some (toD t)]) h1 := by
          simp [q_set, q_put, q_expr, q_ret, q_retN, q_ife, q_cons, q_nil, q_cst, q_bin, q_neg, q_cmp, q_and, q_or, q_not, q_eife, q_tup, q_lst, q_dic, q_ix, q_slc, q_cal, q_blt, q_enil, q_econs, q_met, r_for, r_lc, r_var, r_ix_ob, r_sl_ob, r_put_ob, r_len_ob, r_tup_ob, r_lst_ob, r_addl, r_app, r_it_ob, r_in_ob, r_nin_ob, optI, Rf.start, e1]
        rw [e4, RS.then_nx, q_cons]
        rw [q_cons] at e3
        generalize evalS W L (callF W L M) none (.ife _ _ _) _ h1 = r at e3 ⊢
        match r with
        | .ok (.nx σ9) h9 =>
          simp only [RS.then_nx, q_nil, RS.ok.injEq, Fl.nx.injEq] at e3
          obtain ⟨rfl, rfl⟩ := e3
          simp [q_set, q_put, q_expr, q_ret, q_retN, q_ife, q_cons, q_nil, q_cst, q_bin, q_neg, q_cmp, q_and, q_or, q_not, q_eife, q_tup, q_lst, q_dic, q_ix, q_slc, q_cal, q_blt, q_enil, q_econs, q_met, r_for, r_lc, r_var, r_ix_ob, r_sl_ob, r_put_ob, r_len_ob, r_tup_ob, r_lst_ob, r_addl, r_app, r_it_ob, r_in_ob, r_nin_ob, optI, Rf.start, n3, isk, y3, ok1, kl, sizeLine]
        | .ok (.rt _) _ => simp at e3
        | .ok (.bk _) _ => simp at e3
        | .ok (.ct _) _ => simp at e3
        | .exc _ _ _ _ => simp at e3
        | .no => simp at e3
    by_cases hc : v2 = 0 ∧ (k : Int) + 1 < (nms.length : Int)
    · obtain ⟨rfl, hk2⟩ := hc
      obtain ⟨v3, h3, e3, a3, b3, P3, k3⟩ := takeN hW L M p q (by omega) ns 2 (by decide) (by decide) (h2 ++ [.lst [.str cN, .str cU]]) P2.app
      have Nn : NM z nms (h2 ++ [.lst [.str cN, .str cU]]) := N2.kp hz Kp.app
      have ln := k3.2 h2.length _ (by have := P2.lt; omega) lk_new
      have N3 := Nn.kp hz k3
      have n2 := N2.1
      have n3 := N3.1
      have hk3 : k + 1 < nms.length := by omega
      obtain ⟨s, hs⟩ : ∃ s, nms[k + 1]? = some s := ⟨nms[k + 1], by simp [hk3]⟩
      have is : atI (nms.map D.str) ((k : Int) + 1) = some (.str s) := by
        have q := atI_nat (xs := nms.map D.str) (i := k + 1) (by simpa using hk3)
        have := (List.getElem?_eq_some_iff.mp hs).2
        rw [show (((k + 1 : Nat)) : Int) = (k : Int) + 1 by omega] at q
        rw [q]; simp [this]
      have hv : v3 = 0 ∨ v3 = 1 := by omega
      rcases hv with rfl | rfl
      · refine fin (.nm s) h3 ⟨by simp only [okT]; exact List.mem_of_getElem? hs, .inr ⟨s, hs, .inl rfl⟩⟩ P3 (Kp.app.trans k3) ?_
        simp [q_set, q_put, q_expr, q_ret, q_retN, q_ife, q_cons, q_nil, q_cst, q_bin, q_neg, q_cmp, q_and, q_or, q_not, q_eife, q_tup, q_lst, q_dic, q_ix, q_slc, q_cal, q_blt, q_enil, q_econs, q_met, r_for, r_lc, r_var, r_ix_ob, r_sl_ob, r_put_ob, r_len_ob, r_tup_ob, r_lst_ob, r_addl, r_app, r_it_ob, r_in_ob, r_nin_ob, optI, Rf.start, e2, hk2, n2, e3, ln, atI_0, atI_1, n3, is, toD, sizeLine]
      · refine fin (.du s) h3 ⟨by simp only [okT]; exact List.mem_of_getElem? hs, .inr ⟨s, hs, .inr rfl⟩⟩ P3 (Kp.app.trans k3) ?_
        simp [q_set, q_put, q_expr, q_ret, q_retN, q_ife, q_cons, q_nil, q_cst, q_bin, q_neg, q_cmp, q_and, q_or, q_not, q_eife, q_tup, q_lst, q_dic, q_ix, q_slc, q_cal, q_blt, q_enil, q_econs, q_met, r_for, r_lc, r_var, r_ix_ob, r_sl_ob, r_put_ob, r_len_ob, r_tup_ob, r_lst_ob, r_addl, r_app, r_it_ob, r_in_ob, r_nin_ob, optI, Rf.start, e2, hk2, n2, e3, ln, atI_0, atI_1, n3, is, toD, sizeLine]
    · refine fin t h2 ⟨ot, .inl hN⟩ P2 Kp.refl ?_
      have n2 := N2.1
      by_cases hv : v2 = 0
      · have hk2 : ¬ ((k : Int) + 1 < (nms.length : Int)) := fun q => hc ⟨hv, q⟩
        subst hv
        simp [q_set, q_put, q_expr, q_ret, q_retN, q_ife, q_cons, q_nil, q_cst, q_bin, q_neg, q_cmp, q_and, q_or, q_not, q_eife, q_tup, q_lst, q_dic, q_ix, q_slc, q_cal, q_blt, q_enil, q_econs, q_met, r_for, r_lc, r_var, r_ix_ob, r_sl_ob, r_put_ob, r_len_ob, r_tup_ob, r_lst_ob, r_addl, r_app, r_it_ob, r_in_ob, r_nin_ob, optI, Rf.start, e2, hk2, n2]
      · simp [q_set, q_put, q_expr, q_ret, q_retN, q_ife, q_cons, q_nil, q_cst, q_bin, q_neg, q_cmp, q_and, q_or, q_not, q_eife, q_tup, q_lst, q_dic, q_ix, q_slc, q_cal, q_blt, q_enil, q_econs, q_met, r_for, r_lc, r_var, r_ix_ob, r_sl_ob, r_put_ob, r_len_ob, r_tup_ob, r_lst_ob, r_addl, r_app, r_it_ob, r_in_ob, r_nin_ob, optI, Rf.start, e2, hv, n2]
theorem table_ok (N p q : Nat) (hN : 8 ≤ N) (ns : List Int) (h : Hs) (P : PO p q ns h) :
    ∃ (y : Nat) (kvs : List (D × D)) (nms : List (List Char)) (h' : Hs), callF W L N 7 [.ob p] h = .ok (.ob y) h' ∧ TB nms kvs ∧ TI nms nms.length kvs ∧ nms.Nodup ∧ 0 < nms.length ∧ nms.length ≤ 3 ∧ (∀ s ∈ nms, okL s) ∧ h'[y]? = some (.dic false false kvs) ∧ PO p q ns h' ∧ h.length ≤ y ∧ y ≠ p := by
  obtain ⟨M, rfl⟩ : ∃ M, N = M + 1 := ⟨N - 1, by omega⟩
  rw [callF_s (hW 7 _ (by decide) rfl) rfl]
  obtain ⟨z, nms, h1, e1, N1, P1, k1, hz1, nd⟩ := namesN hW L M p q (by omega) ns h P
  have pl := P.lt
  have pl1 := P1.lt
  have zl := lk_lt N1.1
  have hn1 := N1.2.1
  have hn2 := N1.2.2.1
  have n1 := N1.1
  have hyq : h1.length ≠ q := by
    obtain ⟨_, _, _, _, _, e⟩ := P1
    have := lk_lt e; omega
  obtain ⟨σ', h', kvs', e9, ⟨s3, s4, rfl⟩, r2, r3, r5, r6, r7, r8⟩ := table_loop hW L M p q z h1.length ns nms nd (by omega) (by omega) (by omega) (by omega) hyq nms.length 0 (by omega)
    [] none none (h1 ++ [.dic false false []]) TB.nil ⟨by simp, fun i s hi => by omega⟩ P1.app (N1.kp (p := p) (by omega) Kp.app) lk_new
  refine ⟨h1.length, kvs', nms, h', ?_, r2, r3, nd, hn1, hn2, N1.2.2.2, r5, r6, k1.1, by omega⟩
  have n1' := lk_app (t := [.dic false false []]) n1
  have hm1 : (0 : Int) ≤ nms.length := by omega
  have hm2 : (nms.length : Int) ≤ 1000000 := by omega
  rw [← List.range_eq_range'] at e9
  have eb : f__law_table.body = [.set 1 (.cal 3 [(.var 0)]), .set 2 (.dic false [] []), .for_ (.nm 3) .rng1 [(.blt .len [(.var 1)])] bodyB, .ret (.var 2)] := rfl
  have es : Rf.start f__law_table.ns [D.ob p] = [some (.ob p), none, none, none, none] := rfl
  rw [eb, es]
  generalize bodyB = B at e9 ⊢
  have s1 : evalS W L (callF W L M) none (.set 1 (.cal 3 [(.var 0)])) [some (.ob p), none, none, none, none] h = .ok (.nx [some (.ob p), some (.ob z), none, none, none]) h1 := by simp [q_set, q_put, q_expr, q_ret, q_retN, q_ife, q_cons, q_nil, q_cst, q_bin, q_neg, q_cmp, q_and, q_or, q_not, q_eife, q_tup, q_lst, q_dic, q_ix, q_slc, q_cal, q_blt, q_enil, q_econs, q_met, r_for, r_lc, r_var, r_ix_ob, r_sl_ob, r_put_ob, r_len_ob, r_tup_ob, r_lst_ob, r_addl, r_app, r_it_ob, r_in_ob, r_nin_ob, optI, Rf.start, e1]
  have s2 : evalS W L (callF W L M) none (.set 2 (.dic false [] [])) [some (.ob p), some (.ob z), none, none, none] h1 = .ok (.nx [some (.ob p), some (.ob z), some (.ob h1.length), none, none]) (h1 ++ [.dic false false []]) := by simp [q_set, q_put, q_expr, q_ret, q_retN, q_ife, q_cons, q_nil, q_cst, q_bin, q_neg, q_cmp, q_and, q_or, q_not, q_eife, q_tup, q_lst, q_dic, q_ix, q_slc, q_cal, q_blt, q_enil, q_econs, q_met, r_for, r_lc, r_var, r_ix_ob, r_sl_ob, r_put_ob, r_len_ob, r_tup_ob, r_lst_ob, r_addl, r_app, r_it_ob, r_in_ob, r_nin_ob, optI, Rf.start]
  have s3 : evalS W L (callF W L M) none (.for_ (.nm 3) .rng1 [(.blt .len [(.var 1)])] B) [some (.ob p), some (.ob z), some (.ob h1.length), none, none] (h1 ++ [.dic false false []]) = .ok (.nx [some (.ob p), some (.ob z), some (.ob h1.length), s3, s4]) h' := by
    have a1 : evalEs W (callF W L M) none [(.blt .len [(.var 1)])] [some (.ob p), some (.ob z), some (.ob h1.length), none, none] (h1 ++ [.dic false false []]) = .ok [.int nms.length] (h1 ++ [.dic false false []]) := by
      simp [q_set, q_put, q_expr, q_ret, q_retN, q_ife, q_cons, q_nil, q_cst, q_bin, q_neg, q_cmp, q_and, q_or, q_not, q_eife, q_tup, q_lst, q_dic, q_ix, q_slc, q_cal, q_blt, q_enil, q_econs, q_met, r_for, r_lc, r_var, r_ix_ob, r_sl_ob, r_put_ob, r_len_ob, r_tup_ob, r_lst_ob, r_addl, r_app, r_it_ob, r_in_ob, r_nin_ob, optI, Rf.start, n1']
    rw [r_for, a1, R.stm_ok, rng_small hm1 hm2, ofO_some, R.stm_ok, Int.toNat_natCast]
    exact e9
  rw [q_cons, s1, RS.then_nx, q_cons, s2, RS.then_nx, q_cons, s3, RS.then_nx]
  simp [q_set, q_put, q_expr, q_ret, q_retN, q_ife, q_cons, q_nil, q_cst, q_bin, q_neg, q_cmp, q_and, q_or, q_not, q_eife, q_tup, q_lst, q_dic, q_ix, q_slc, q_cal, q_blt, q_enil, q_econs, q_met, r_for, r_lc, r_var, r_ix_ob, r_sl_ob, r_put_ob, r_len_ob, r_tup_ob, r_lst_ob, r_addl, r_app, r_it_ob, r_in_ob, r_nin_ob, optI, Rf.start]
end K08
end

section
namespace K08
open PySem PySem.Spec PyProof.Rows L2 Rf
/-! ### talks that may be spoilt -/
abbrev LC := List Char
mutual
def wT (ws : List LC) (bb : Nat) : T → Nat → Prop
  | .en, _ => True
  | .nm s, _ => s ∈ ws
  | .du s, _ => s ∈ ws
  | .say r, k + 1 => (0 < lenR r ∧ lenR r ≤ bb) ∧ wR ws bb r k
  | .hear r, k + 1 => (0 < lenR r ∧ lenR r ≤ bb) ∧ wR ws bb r k
  | .say _, 0 => False
  | .hear _, 0 => False
def wR (ws : List LC) (bb : Nat) : TR → Nat → Prop
  | .nil, _ => True
  | .cons l p t r, k => okP ws p ∧ wT ws bb t k ∧ wR ws bb r k
end
theorem okP_mono {a b : List LC} (hb : ∀ s ∈ a, s ∈ b) {p : D} (h : okP a p) : okP b p := by
  rcases h with h | h | h | ⟨s, hs, h⟩
  · exact .inl h
  · exact .inr (.inl h)
  · exact .inr (.inr (.inl h))
  · exact .inr (.inr (.inr ⟨s, hb s hs, h⟩))
theorem wT_of {a b : List LC} (hb : ∀ s ∈ a, s ∈ b) : ∀ k : Nat, (∀ t, okT a 3 t k → wT b 3 t k) ∧ (∀ r, okR a 3 r k → wR b 3 r k) := by
  have hr : ∀ k : Nat, (∀ t, okT a 3 t k → wT b 3 t k) → ∀ r, okR a 3 r k → wR b 3 r k := by
    intro k ht r
    let rec go : ∀ r, okR a 3 r k → wR b 3 r k
      | .nil, _ => by simp only [wR]
      | .cons l p t r, h => by
        simp only [okR] at h
        simp only [wR]
        exact ⟨okP_mono hb h.2.1, ht t h.2.2.1, go r h.2.2.2⟩
    exact go r
  intro k
  induction k with
  | zero =>
    have q : ∀ t, okT a 3 t 0 → wT b 3 t 0 := by
      intro t h
      cases t <;> simp only [okT, wT] at h ⊢
      · exact hb _ h
      · exact hb _ h
    exact ⟨q, hr 0 q⟩
  | succ k ih =>
    have q : ∀ t, okT a 3 t (k + 1) → wT b 3 t (k + 1) := by
      intro t h
      cases t <;> simp only [okT, wT] at h ⊢
      · exact hb _ h
      · exact hb _ h
      · exact ⟨h.1, ih.2 _ h.2⟩
      · exact ⟨h.1, ih.2 _ h.2⟩
    exact ⟨q, hr _ q⟩
/-- rows as a list -/
abbrev Row := LC × D × T
def rowL : TR → List Row
  | .nil => []
  | .cons l p t r => (l, p, t) :: rowL r
def ofL : List Row → TR
  | [] => .nil
  | x :: xs => .cons x.1 x.2.1 x.2.2 (ofL xs)
def rowD (x : Row) : D := .tup [.str x.1, x.2.1, toD x.2.2]
theorem rowsD_of : ∀ xs : List Row, rowsD (ofL xs) = xs.map rowD
  | [] => rfl
  | x :: xs => by simp only [ofL, rowsD, List.map_cons, rowsD_of xs, rowD]
theorem lenR_of : ∀ xs : List Row, lenR (ofL xs) = xs.length
  | [] => rfl
  | x :: xs => by simp only [ofL, lenR, List.length_cons, lenR_of xs]
theorem of_row : ∀ r : TR, ofL (rowL r) = r
  | .nil => rfl
  | .cons l p t r => by simp only [rowL, ofL, of_row r]
theorem wR_of {ws : List LC} {bb k : Nat} : ∀ xs : List Row, wR ws bb (ofL xs) k ↔ ∀ x ∈ xs, okP ws x.2.1 ∧ wT ws bb x.2.2 k
  | [] => by simp [ofL, wR]
  | x :: xs => by
    simp only [ofL, wR, wR_of xs, List.mem_cons, forall_eq_or_imp]
    constructor
    · rintro ⟨a, b, c⟩; exact ⟨⟨a, b⟩, c⟩
    · rintro ⟨⟨a, b⟩, c⟩; exact ⟨a, b, c⟩
theorem wT_up {ws : List LC} {b c : Nat} (hb : b ≤ c) : ∀ k : Nat, ∀ t, wT ws b t k → wT ws c t k := by
  intro k
  induction k with
  | zero => intro t h; cases t <;> simp only [wT] at h ⊢ <;> exact h
  | succ k ih =>
    have hr : ∀ r, wR ws b r k → wR ws c r k := by
      intro r h
      rw [← of_row r, wR_of] at h ⊢
      exact fun x hx => ⟨(h x hx).1, ih _ (h x hx).2⟩
    intro t h
    cases t <;> simp only [wT] at h ⊢
    · exact h
    · exact h
    · exact ⟨⟨h.1.1, Nat.le_trans h.1.2 hb⟩, hr _ h.2⟩
    · exact ⟨⟨h.1.1, Nat.le_trans h.1.2 hb⟩, hr _ h.2⟩
/-- they are plain data -/
theorem w_dat {ws : List LC} {bb : Nat} : ∀ k : Nat, ∀ t, wT ws bb t k → pur (toD t) = true ∧ dep (toD t) ≤ 3 * k + 4 := by
  intro k
  induction k with
  | zero =>
    intro t h
    cases t with
    | say r => simp [wT] at h
    | hear r => simp [wT] at h
    | _ => simp [toD, pur, purs, dep, deps]
  | succ k ih =>
    have hr : ∀ r, wR ws bb r k → purs (rowsD r) = true ∧ deps (rowsD r) ≤ 3 * k + 5 := by
      let rec go : ∀ r, wR ws bb r k → purs (rowsD r) = true ∧ deps (rowsD r) ≤ 3 * k + 5
        | .nil, _ => by simp [rowsD, purs, deps]
        | .cons l p t r, h => by
          simp only [wR] at h
          obtain ⟨a1, a2⟩ := okP_dat h.1
          obtain ⟨b1, b2⟩ := ih t h.2.1
          obtain ⟨c1, c2⟩ := go r h.2.2
          refine ⟨by simp [rowsD, pur, purs, a1, b1, c1], ?_⟩
          simp only [rowsD, dep, deps]; omega
      exact go
    intro t h
    cases t with
    | en => simp [toD, pur, purs, dep, deps]
    | nm s => simp [toD, pur, purs, dep, deps]
    | du s => simp [toD, pur, purs, dep, deps]
    | say r =>
      simp only [wT] at h
      obtain ⟨a, b⟩ := hr r h.2
      refine ⟨by simp [toD, pur, purs, a], ?_⟩
      simp only [toD, dep, deps]; omega
    | hear r =>
      simp only [wT] at h
      obtain ⟨a, b⟩ := hr r h.2
      refine ⟨by simp [toD, pur, purs, a], ?_⟩
      simp only [toD, dep, deps]; omega
/-! ### the first fault -/
inductive Ft where | unk (s : LC) | cla (s : LC)
abbrev cUn : LC := ['u', 'n', 'k', 'n', 'o', 'w', 'n']
abbrev cCl : LC := ['c', 'l', 'a', 's', 'h', 'i', 'n', 'g']
abbrev cMi : LC := ['m', 'i', 's', 'u', 's', 'e', 'd']
def Ft.d : Ft → D
  | .unk s => .tup [.str cUn, .str s]
  | .cla s => .tup [.str cCl, .str s]
def Ft.c : Ft → Nat
  | .unk _ => 1
  | .cla _ => 2
def Ft.s : Ft → LC
  | .unk s => s
  | .cla s => s
def oF : Option Ft → D
  | none => .non
  | some f => f.d
def ftN (ks : List LC) (s : LC) : Option Ft := if s ∈ ks then none else some (.unk s)
def ftP (ks : List LC) : D → Option Ft
  | .tup [_, .str s] => ftN ks s
  | _ => none
mutual
def ftT (ks : List LC) : T → Option Ft
  | .en => none
  | .nm s => ftN ks s
  | .du s => ftN ks s
  | .say r => ftR ks [] r
  | .hear r => ftR ks [] r
def ftR (ks : List LC) (seen : List LC) : TR → Option Ft
  | .nil => none
  | .cons l p t r => if l ∈ seen then some (.cla l) else match ftP ks p with
    | some f => some f
    | none => match ftT ks t with
      | some f => some f
      | none => ftR ks (seen ++ [l]) r
end
theorem ftP_ok {ks : List LC} {p : D} (h : okP ks p) : ftP ks p = none := by
  rcases h with rfl | rfl | rfl | ⟨s, hs, rfl | rfl⟩ <;> simp [ftP, ftN, *]
theorem ft_ok {ks : List LC} : ∀ k : Nat, (∀ t, okT ks 3 t k → ftT ks t = none) := by
  have hr : ∀ k : Nat, (∀ t, okT ks 3 t k → ftT ks t = none) → ∀ r seen, (∀ l ∈ seen, l ∉ labs r) → okR ks 3 r k → ftR ks seen r = none := by
    intro k ht r
    let rec go : ∀ r seen, (∀ l ∈ seen, l ∉ labs r) → okR ks 3 r k → ftR ks seen r = none
      | .nil, _, _, _ => by simp only [ftR]
      | .cons l p t r, seen, hs, h => by
        simp only [okR] at h
        have hl : l ∉ seen := fun q => hs l q (by simp [labs])
        simp only [ftR, hl, if_false, ftP_ok h.2.1, ht t h.2.2.1]
        refine go r _ (fun x hx => ?_) h.2.2.2
        rcases List.mem_append.mp hx with hx | hx
        · have := hs x hx
          simp only [labs, List.mem_cons, not_or] at this
          exact this.2
        · rw [List.mem_singleton] at hx; subst hx; exact h.1.2
    exact go r
  intro k
  induction k with
  | zero => intro t h; cases t <;> simp only [okT, ftT] at h ⊢ <;> simp [ftN, h]
  | succ k ih =>
    intro t h
    cases t with
    | en => simp only [ftT]
    | nm s => simp only [okT] at h; simp [ftT, ftN, h]
    | du s => simp only [okT] at h; simp [ftT, ftN, h]
    | say r => simp only [okT] at h; simp only [ftT]; exact hr k ih r [] (by simp) h.2
    | hear r => simp only [okT] at h; simp only [ftT]; exact hr k ih r [] (by simp) h.2
/-! ### tables -/
abbrev Tbl := List (LC × T)
def kvT (tb : Tbl) : List (D × D) := tb.map fun x => (D.str x.1, toD x.2)
def kys (tb : Tbl) : List LC := tb.map (·.1)
def gt : Tbl → LC → Option T
  | [], _ => none
  | x :: r, s => if x.1 = s then some x.2 else gt r s
def tpt (tb : Tbl) (s : LC) (t : T) : Tbl := tb.map fun x => if x.1 = s then (x.1, t) else x
theorem kvT_okK (tb : Tbl) (s : LC) : okK false (kvT tb) (.str s) = true := by
  simp only [Rf.okK, Bool.false_eq_true, if_false, isK, Bool.true_and, List.all_eq_true]
  intro x hx
  obtain ⟨y, _, rfl⟩ := List.mem_map.mp hx
  rfl
theorem kvT_get : ∀ (tb : Tbl) (s : LC), kvGet (kvT tb) (.str s) = (gt tb s).map toD
  | [], _ => rfl
  | x :: r, s => by
    show kvGet ((D.str x.1, toD x.2) :: kvT r) (.str s) = _
    unfold kvGet gt
    by_cases h : x.1 = s
    · simp [eqv, h]
    · simp [eqv, h, kvT_get r s]
theorem kvT_keys (tb : Tbl) : (kvT tb).map (·.1) = (kys tb).map D.str := by simp [kvT, kys]
theorem kvT_len (tb : Tbl) : (kvT tb).length = tb.length := by simp [kvT]
theorem gt_mem : ∀ {tb : Tbl} {s : LC}, s ∈ kys tb → ∃ t, gt tb s = some t ∧ (s, t) ∈ tb
  | [], _, h => by simp [kys] at h
  | x :: r, s, h => by
    unfold gt
    by_cases e : x.1 = s
    · exact ⟨x.2, by simp [e], by subst e; simp⟩
    · have : s ∈ kys r := by
        simp only [kys, List.map_cons, List.mem_cons] at h ⊢
        rcases h with h | h
        · exact absurd h.symm e
        · exact h
      obtain ⟨t, e1, e2⟩ := gt_mem this
      exact ⟨t, by simp [e, e1], List.mem_cons_of_mem _ e2⟩
theorem gt_key {tb : Tbl} {s : LC} {t : T} (h : gt tb s = some t) : s ∈ kys tb ∧ (s, t) ∈ tb := by
  induction tb with
  | nil => simp [gt] at h
  | cons x r ih =>
    unfold gt at h
    by_cases e : x.1 = s
    · rw [if_pos e] at h; cases h
      subst e
      simp [kys]
    · rw [if_neg e] at h
      obtain ⟨a, b⟩ := ih h
      exact ⟨by simp only [kys, List.map_cons, List.mem_cons] at a ⊢; exact .inr a, List.mem_cons_of_mem _ b⟩
theorem kvT_put {tb : Tbl} {s : LC} {t : T} (h : s ∈ kys tb) : kvPut (kvT tb) (.str s) (toD t) = kvT (tpt tb s t) := by
  unfold kvPut
  rw [if_pos]
  · simp only [kvT, tpt, List.map_map]
    apply List.map_congr_left
    intro x _
    simp only [Function.comp, eqv, beq_iff_eq]
    by_cases e : x.1 = s <;> simp [e]
  · rw [List.any_eq_true]
    obtain ⟨u, _, hm⟩ := gt_mem h
    exact ⟨(.str s, toD u), List.mem_map.mpr ⟨_, hm, rfl⟩, by simp [eqv]⟩
theorem kys_put (tb : Tbl) (s : LC) (t : T) : kys (tpt tb s t) = kys tb := by
  simp only [kys, tpt, List.map_map]
  apply List.map_congr_left
  intro x _
  simp only [Function.comp]
  split <;> rfl
theorem gt_put {s s' : LC} {t : T} : ∀ {tb : Tbl}, s ∈ kys tb → gt (tpt tb s t) s' = if s = s' then some t else gt tb s'
  | [], h => by simp [kys] at h
  | x :: r, h => by
    show gt ((if x.1 = s then (x.1, t) else x) :: tpt r s t) s' = _
    by_cases e : x.1 = s
    · rw [if_pos e]
      unfold gt
      by_cases e' : s = s'
      · simp [e, e']
      · simp only [e, e', if_false]
        by_cases hr : s ∈ kys r
        · rw [gt_put hr, if_neg e']
        · have : tpt r s t = r := by
            unfold tpt
            have : ∀ y ∈ r, (if y.1 = s then (y.1, t) else y) = y := by
              intro y hy
              rw [if_neg]
              rintro rfl
              exact hr (List.mem_map.mpr ⟨y, hy, rfl⟩)
            exact (List.map_congr_left this).trans (List.map_id r)
          rw [this]
    · rw [if_neg e]
      have hr : s ∈ kys r := by
        simp only [kys, List.map_cons, List.mem_cons] at h ⊢
        rcases h with h | h
        · exact absurd h.symm e
        · exact h
      unfold gt
      by_cases e' : x.1 = s'
      · have : s ≠ s' := fun q => e (e'.trans q.symm)
        simp [e', this]
      · simp [e', gt_put hr]
/-! ### names that lead -/
def nmO : T → Option LC
  | .nm s => some s
  | .du s => some s
  | _ => none
theorem nmO_isN (t : T) : isN t = (nmO t).isSome := by cases t <;> rfl
inductive Ld (tb : Tbl) : T → Nat → Prop
  | stop {t} : nmO t = none → Ld tb t 0
  | step {t s u k} : nmO t = some s → gt tb s = some u → Ld tb u k → Ld tb t (k + 1)
theorem Ld.det {tb : Tbl} {t : T} {k k' : Nat} (h : Ld tb t k) (h' : Ld tb t k') : k = k' := by
  induction h generalizing k' with
  | stop e => cases h' with
    | stop _ => rfl
    | step e' _ _ => rw [e] at e'; cases e'
  | step e g _ ih => cases h' with
    | stop e' => rw [e] at e'; cases e'
    | step e' g' l => rw [e] at e'; cases e'; rw [g] at g'; cases g'; rw [ih l]
def LT (tb : Tbl) (t : T) : Prop := ∃ k, Ld tb t k
theorem LT.step {tb : Tbl} {t u : T} {s : LC} (e : nmO t = some s) (g : gt tb s = some u) : LT tb t ↔ LT tb u := by
  constructor
  · rintro ⟨k, h⟩
    cases h with
    | stop e' => rw [e] at e'; cases e'
    | step e' g' l => rw [e] at e'; cases e'; rw [g] at g'; cases g'; exact ⟨_, l⟩
  · rintro ⟨k, h⟩; exact ⟨_, .step e g h⟩
theorem LT.nm {tb : Tbl} {t : T} {s : LC} (e : nmO t = some s) : LT tb t ↔ LT tb (.nm s) := by
  constructor
  · rintro ⟨k, h⟩
    cases h with
    | stop e' => rw [e] at e'; cases e'
    | step e' g' l => rw [e] at e'; cases e'; exact ⟨_, .step rfl g' l⟩
  · rintro ⟨k, h⟩
    cases h with
    | stop e' => cases e'
    | step e' g' l => cases e'; exact ⟨_, .step e g' l⟩
theorem nodupLen {α : Type} : ∀ {l u : List α}, l.Nodup → (∀ x ∈ l, x ∈ u) → l.length ≤ u.length
  | [], u, _, _ => Nat.zero_le _
  | a :: l, u, h, hu => by
    rw [List.nodup_cons] at h
    obtain ⟨u1, u2, rfl⟩ := List.append_of_mem (hu a List.mem_cons_self)
    have := nodupLen (l := l) (u := u1 ++ u2) h.2 fun x hx => by
      have := hu x (List.mem_cons_of_mem _ hx)
      simp only [List.mem_append, List.mem_cons] at this ⊢
      rcases this with q | q | q
      · exact .inl q
      · subst q; exact absurd hx h.1
      · exact .inr q
    simp only [List.length_append, List.length_cons] at this ⊢; omega
theorem Ld.short {tb : Tbl} {t : T} {k : Nat} (h : Ld tb t k) : k ≤ tb.length := by
  have : ∃ l : List LC, l.length = k ∧ l.Nodup ∧ (∀ s ∈ l, s ∈ kys tb) ∧ ∀ s ∈ l, ∃ u j, gt tb s = some u ∧ Ld tb u j ∧ j < k := by
    induction h with
    | stop e => exact ⟨[], rfl, by simp, by simp, by simp⟩
    | @step t s u k e g l ih =>
      obtain ⟨l', a, b, c, d⟩ := ih
      refine ⟨s :: l', by simp [a], ?_, ?_, ?_⟩
      · rw [List.nodup_cons]
        refine ⟨fun q => ?_, b⟩
        obtain ⟨u', j, g', lj, hj⟩ := d s q
        rw [g] at g'; cases g'
        have := l.det lj; omega
      · intro x hx
        rcases List.mem_cons.mp hx with rfl | hx
        · exact (gt_key g).1
        · exact c x hx
      · intro x hx
        rcases List.mem_cons.mp hx with rfl | hx
        · exact ⟨u, k, g, l, by omega⟩
        · obtain ⟨u', j, g', lj, hj⟩ := d x hx
          exact ⟨u', j, g', lj, by omega⟩
  obtain ⟨l, a, b, c, _⟩ := this
  have := nodupLen b c
  simp only [kys, List.length_map] at this; omega
open Classical in
noncomputable def lb (tb : Tbl) (s : LC) : Bool := decide (LT tb (.nm s))
def ftA (ks : List LC) : Tbl → Option Ft
  | [] => none
  | x :: r => match ftT ks x.2 with
    | some f => some f
    | none => ftA ks r
noncomputable def dueD (tb : Tbl) : D := match ftA (kys tb) tb with
  | some f => f.d
  | none => match (kys tb).find? fun s => !lb tb s with
    | some s => .tup [.str cMi, .str s]
    | none => .non
/-- a table that may be spoilt -/
structure WB (ws : List LC) (bb : Nat) (tb : Tbl) : Prop where
  nd : (kys tb).Nodup
  n3 : tb.length ≤ 3
  ent : ∀ x ∈ tb, wT ws bb x.2 2
theorem eqKV_w {ws : List LC} {bb : Nat} {tb : Tbl} (B : WB ws bb tb) : eqKV (kvT tb) (kvT tb) = some true := by
  have fl : (kvT tb).all (fun p => flat p.2) = true := by
    rw [List.all_eq_true]
    intro p hp
    obtain ⟨x, hx, rfl⟩ := List.mem_map.mp hp
    obtain ⟨a, b⟩ := w_dat _ _ (B.ent x hx)
    simp only [flat, a, Bool.true_and, decide_eq_true_eq]; omega
  have gg : ∀ tb : Tbl, (kys tb).Nodup → ∀ x ∈ tb, gt tb x.1 = some x.2 := by
    intro tb
    induction tb with
    | nil => intro _ x hx; cases hx
    | cons y r ih =>
      intro nd x hx
      have nd' : y.1 ∉ kys r ∧ (kys r).Nodup := List.nodup_cons.mp nd
      unfold gt
      rcases List.mem_cons.mp hx with rfl | hx
      · simp
      · have : y.1 ≠ x.1 := fun q => nd'.1 (q ▸ List.mem_map.mpr ⟨x, hx, rfl⟩)
        rw [if_neg this]
        exact ih nd'.2 x hx
  have ht : (kvT tb).all (hitKV (kvT tb)) = true := by
    rw [List.all_eq_true]
    intro p hp
    obtain ⟨x, hx, rfl⟩ := List.mem_map.mp hp
    unfold hitKV
    simp only [kvT_get, gg tb B.nd x hx, Option.map_some]
    exact eqv_refl _ (w_dat _ _ (B.ent x hx)).1
  unfold eqKV
  rw [fl, ht]
  simp
end K08
end

section
namespace K08
open PySem PySem.Spec PyProof.Rows L2 Rf
theorem gt_some (tb : Tbl) (s : LC) : (gt tb s).isSome = decide (s ∈ kys tb) := by
  by_cases h : s ∈ kys tb
  · obtain ⟨t, e, _⟩ := gt_mem h
    simp [e, h]
  · cases e : gt tb s with
    | none => simp [h]
    | some t => exact absurd (gt_key e).1 h
theorem forI_rtN {turn : D → Sg → Hs → RS} {d x : D} {ds : List D} {σ : Sg} {h h' : Hs} (e : turn d σ h = .ok (.rt x) h') : forI .none turn (d :: ds) σ h = .ok (.rt x) h' := by simp [forI, Rf.same, endG, e]
theorem forI_nxN {turn : D → Sg → Hs → RS} {d : D} {ds : List D} {σ σ' : Sg} {h h' : Hs} (e : turn d σ h = .ok (.nx σ') h') : forI .none turn (d :: ds) σ h = forI .none turn ds σ' h' := forI_nx (by trivial) e
theorem forI_exc {g : Gd} {turn : D → Sg → Hs → RS} {d : D} {ds : List D} {σ σ' : Sg} {h h' : Hs} {c fs} (hs : same g h) (e : turn d σ h = .exc c fs σ' h') : forI g turn (d :: ds) σ h = .exc c fs σ' h' := by simp [forI, hs, e]
theorem strs_flat (l : List LC) : (l.map D.str).all flat = true := by
  rw [List.all_map, List.all_eq_true]; intro x _; rfl
theorem inL_strs (s : LC) (l : List LC) : inL (.str s) (l.map D.str) = decide (s ∈ l) := by
  unfold inL
  rw [List.any_map]
  by_cases h : s ∈ l
  · rw [decide_eq_true h, List.any_eq_true]; exact ⟨s, h, by simp [eqv]⟩
  · rw [decide_eq_false h, List.any_eq_false]
    intro x hx
    simp only [Function.comp, eqv, beq_iff_eq]
    rintro rfl; exact h hx
/-- a dict as a set -/
def sd (l : List LC) : List (D × D) := l.map fun s => (D.str s, D.bl true)
theorem sd_okK (l : List LC) (s : LC) : okK false (sd l) (.str s) = true := by
  simp only [Rf.okK, Bool.false_eq_true, if_false, isK, Bool.true_and, List.all_eq_true]
  intro x hx
  obtain ⟨y, _, rfl⟩ := List.mem_map.mp hx
  rfl
theorem sd_get : ∀ (l : List LC) (s : LC), (kvGet (sd l) (.str s)).isSome = decide (s ∈ l)
  | [], s => by simp [sd, kvGet]
  | x :: l, s => by
    show (kvGet ((D.str x, D.bl true) :: sd l) (.str s)).isSome = _
    unfold kvGet
    by_cases h : x = s
    · simp [eqv, h]
    · have : ¬ s = x := fun q => h q.symm
      simp [eqv, h, sd_get l s, this]
theorem sd_put {l : List LC} {s : LC} (h : s ∉ l) : kvPut (sd l) (.str s) (.bl true) = sd (l ++ [s]) := by
  rw [kvPut_new]
  · simp [sd]
  · intro p hp
    obtain ⟨y, hy, rfl⟩ := List.mem_map.mp hp
    simp only [eqv]
    apply beq_false_of_ne
    rintro rfl; exact h hy
theorem sd_len (l : List LC) : (sd l).length = l.length := by simp [sd]
def HasE (W : Wd) : Prop := W.exf 1 = ["name"] ∧ W.exf 2 = ["name"] ∧ W.exf 3 = ["why"] ∧ W.isa = fun c k => decide ((c, k) ∈ [(0, 0), (1, 1), (1, 0), (2, 2), (2, 0), (3, 3), (3, 0)])
variable {ws : List LC} {W : Wd} (hW : Has W) (hE : HasE W) (L : Nat)
section
include hW
theorem stN (N : Nat) (hN : 1 ≤ N) (t : T) (h : Hs) : callF W L N 11 [toD t] h = .ok (.bl (isN t)) h := by
  obtain ⟨n, rfl⟩ : ∃ n, N = n + 1 := ⟨N - 1, by omega⟩
  exact stands_ok hW L n t h
theorem kf_ok (N : Nat) (hN : 1 ≤ N) (y : Nat) {lk : Bool} {tb : Tbl} (h : Hs) (hy : h[y]? = some (.dic lk false (kvT tb))) {p : D} (hp : okP ws p) : callF W L N 15 [.ob y, p] h = .ok (oF (ftP (kys tb) p)) h := by
  obtain ⟨M, rfl⟩ : ∃ M, N = M + 1 := ⟨N - 1, by omega⟩
  rw [callF_s (hW 15 _ (by decide) rfl) rfl]
  rcases hp with rfl | rfl | rfl | ⟨s, _, rfl | rfl⟩
  · simp [q_set, q_put, q_expr, q_ret, q_retN, q_ife, q_cons, q_nil, q_cst, q_bin, q_neg, q_cmp, q_and, q_or, q_not, q_eife, q_tup, q_lst, q_dic, q_ix, q_slc, q_cal, q_blt, q_enil, q_econs, q_met, r_for, r_lc, r_var, r_ix_ob, r_sl_ob, r_put_ob, r_len_ob, r_tup_ob, r_lst_ob, r_addl, r_app, r_it_ob, r_in_ob, r_nin_ob, optI, Rf.start, f__law_kind_fault, ftP, oF]
  · simp [q_set, q_put, q_expr, q_ret, q_retN, q_ife, q_cons, q_nil, q_cst, q_bin, q_neg, q_cmp, q_and, q_or, q_not, q_eife, q_tup, q_lst, q_dic, q_ix, q_slc, q_cal, q_blt, q_enil, q_econs, q_met, r_for, r_lc, r_var, r_ix_ob, r_sl_ob, r_put_ob, r_len_ob, r_tup_ob, r_lst_ob, r_addl, r_app, r_it_ob, r_in_ob, r_nin_ob, optI, Rf.start, f__law_kind_fault, ftP, oF]
  · simp [q_set, q_put, q_expr, q_ret, q_retN, q_ife, q_cons, q_nil, q_cst, q_bin, q_neg, q_cmp, q_and, q_or, q_not, q_eife, q_tup, q_lst, q_dic, q_ix, q_slc, q_cal, q_blt, q_enil, q_econs, q_met, r_for, r_lc, r_var, r_ix_ob, r_sl_ob, r_put_ob, r_len_ob, r_tup_ob, r_lst_ob, r_addl, r_app, r_it_ob, r_in_ob, r_nin_ob, optI, Rf.start, f__law_kind_fault, ftP, oF]
  · have g := gt_some tb s
    by_cases hs : s ∈ kys tb
    · rw [decide_eq_true hs] at g
      simp [q_set, q_put, q_expr, q_ret, q_retN, q_ife, q_cons, q_nil, q_cst, q_bin, q_neg, q_cmp, q_and, q_or, q_not, q_eife, q_tup, q_lst, q_dic, q_ix, q_slc, q_cal, q_blt, q_enil, q_econs, q_met, r_for, r_lc, r_var, r_ix_ob, r_sl_ob, r_put_ob, r_len_ob, r_tup_ob, r_lst_ob, r_addl, r_app, r_it_ob, r_in_ob, r_nin_ob, optI, Rf.start, f__law_kind_fault, ftP, ftN, oF, hy, kvT_okK, kvT_get, g, hs, atI_0, atI_1]
    · rw [decide_eq_false hs] at g
      have g' : gt tb s = none := by simpa using g
      simp [q_set, q_put, q_expr, q_ret, q_retN, q_ife, q_cons, q_nil, q_cst, q_bin, q_neg, q_cmp, q_and, q_or, q_not, q_eife, q_tup, q_lst, q_dic, q_ix, q_slc, q_cal, q_blt, q_enil, q_econs, q_met, r_for, r_lc, r_var, r_ix_ob, r_sl_ob, r_put_ob, r_len_ob, r_tup_ob, r_lst_ob, r_addl, r_app, r_it_ob, r_in_ob, r_nin_ob, optI, Rf.start, f__law_kind_fault, ftP, ftN, oF, hy, kvT_okK, kvT_get, g', hs, atI_0, atI_1, Ft.d, sizeLine]
  · have g := gt_some tb s
    by_cases hs : s ∈ kys tb
    · rw [decide_eq_true hs] at g
      simp [q_set, q_put, q_expr, q_ret, q_retN, q_ife, q_cons, q_nil, q_cst, q_bin, q_neg, q_cmp, q_and, q_or, q_not, q_eife, q_tup, q_lst, q_dic, q_ix, q_slc, q_cal, q_blt, q_enil, q_econs, q_met, r_for, r_lc, r_var, r_ix_ob, r_sl_ob, r_put_ob, r_len_ob, r_tup_ob, r_lst_ob, r_addl, r_app, r_it_ob, r_in_ob, r_nin_ob, optI, Rf.start, f__law_kind_fault, ftP, ftN, oF, hy, kvT_okK, kvT_get, g, hs, atI_0, atI_1]
    · rw [decide_eq_false hs] at g
      have g' : gt tb s = none := by simpa using g
      simp [q_set, q_put, q_expr, q_ret, q_retN, q_ife, q_cons, q_nil, q_cst, q_bin, q_neg, q_cmp, q_and, q_or, q_not, q_eife, q_tup, q_lst, q_dic, q_ix, q_slc, q_cal, q_blt, q_enil, q_econs, q_met, r_for, r_lc, r_var, r_ix_ob, r_sl_ob, r_put_ob, r_len_ob, r_tup_ob, r_lst_ob, r_addl, r_app, r_it_ob, r_in_ob, r_nin_ob, optI, Rf.start, f__law_kind_fault, ftP, ftN, oF, hy, kvT_okK, kvT_get, g', hs, atI_0, atI_1, Ft.d, sizeLine]
abbrev bodyF : List S := [.ife (.cmp .in_ (.ix (.var 3) (.cst (.int 0))) (.var 2))
      [.ret (.tup [(.cst (.str ['c', 'l', 'a', 's', 'h', 'i', 'n', 'g'])), (.ix (.var 3) (.cst (.int 0)))])]
      [],
    .expr (.met (.var 2) "append" [(.ix (.var 3) (.cst (.int 0)))]),
    .set 4 (.cal 15 [(.var 0), (.ix (.var 3) (.cst (.int 1)))]),
    .ife (.cmp .is_ (.var 4) (.cst .non))
      [.set 4 (.cal 13 [(.var 0), (.ix (.var 3) (.cst (.int 2)))])]
      [],
    .ife (.cmp .isn (.var 4) (.cst .non))
      [.ret (.var 4)]
      []]
def FaultOk (W : Wd) (L : Nat) (ws : List LC) (bb : Nat) (y : Nat) (tb : Tbl) (k : Nat) : Prop := ∀ (N : Nat), k + 2 ≤ N → ∀ (t : T), wT ws bb t k → ∀ (lk : Bool) (h : Hs), h[y]? = some (.dic lk false (kvT tb)) →
  ∃ h', callF W L N 13 [.ob y, toD t] h = .ok (oF (ftT (kys tb) t)) h' ∧ Kx h h'
theorem fault_loop {bb : Nat} (hb : bb ≤ 4) {y : Nat} {tb : Tbl} {k : Nat} (ih : FaultOk W L ws bb y tb k) (M : Nat) (hM : k + 2 ≤ M) (td : D) (z : Nat) (hz : z ≠ y) (lk : Bool) :
    ∀ (r : TR) (seen : List LC) (s3 s4 : Option D) (h : Hs), wR ws bb r k → seen.length + lenR r ≤ 4 → h[z]? = some (.lst (seen.map D.str)) → h[y]? = some (.dic lk false (kvT tb)) →
    ∃ h', Kp z h h' ∧ ((ftR (kys tb) seen r = none ∧ ∃ c3 c4 : Option D, forI .none (fT W L (callF W L M) (.nm 3) bodyF) (rowsD r) [some (.ob y), some td, some (.ob z), s3, s4] h = .ok (.nx [some (.ob y), some td, some (.ob z), c3, c4]) h') ∨
      ∃ f, ftR (kys tb) seen r = some f ∧ forI .none (fT W L (callF W L M) (.nm 3) bodyF) (rowsD r) [some (.ob y), some td, some (.ob z), s3, s4] h = .ok (.rt f.d) h')
  | .nil, seen, s3, s4, h, _, _, hz1, hy1 => by
    refine ⟨h, Kp.refl, .inl ⟨by simp only [ftR], s3, s4, ?_⟩⟩
    rw [rowsD]
    exact forI_nil (by trivial)
  | .cons l p t r, seen, s3, s4, h, hw, hl, hz1, hy1 => by
    simp only [wR] at hw
    simp only [lenR] at hl
    have ef : flat (.str l) = true := rfl
    have ea := strs_flat seen
    have ei := inL_strs l seen
    have sl : seen.length < 16777216 := by omega
    have zl := lk_lt hz1
    rw [rowsD]
    by_cases hs : l ∈ seen
    · rw [decide_eq_true hs] at ei
      refine ⟨h, Kp.refl, .inr ⟨.cla l, by simp only [ftR, hs, if_true], ?_⟩⟩
      rw [forI_rtN]
      rw [fT_some (σ1 := [some (.ob y), some td, some (.ob z), some (.tup [.str l, p, toD t]), s4]) rfl]
      simp [q_set, q_put, q_expr, q_ret, q_retN, q_ife, q_cons, q_nil, q_cst, q_bin, q_neg, q_cmp, q_and, q_or, q_not, q_eife, q_tup, q_lst, q_dic, q_ix, q_slc, q_cal, q_blt, q_enil, q_econs, q_met, r_for, r_lc, r_var, r_ix_ob, r_sl_ob, r_put_ob, r_len_ob, r_tup_ob, r_lst_ob, r_addl, r_app, r_it_ob, r_in_ob, r_nin_ob, optI, Rf.start, hz1, ef, ea, ei, atI_0, Ft.d, sizeLine]
    · rw [decide_eq_false hs] at ei
      have k1 : Kp z h (h.set z (.lst (seen.map D.str ++ [.str l]))) := Kp.set
      have hy2 := k1.2 y _ hz.symm hy1
      have hz2 : (h.set z (.lst (seen.map D.str ++ [.str l])))[z]? = some (.lst ((seen ++ [l]).map D.str)) := by simp [zl]
      have e1 := kf_ok hW L M (by omega) y _ hy2 hw.1
      have a1 : evalS W L (callF W L M) none (.ife (.cmp .in_ (.ix (.var 3) (.cst (.int 0))) (.var 2)) [.ret (.tup [(.cst (.str ['c', 'l', 'a', 's', 'h', 'i', 'n', 'g'])), (.ix (.var 3) (.cst (.int 0)))])] []) [some (.ob y), some td, some (.ob z), some (.tup [.str l, p, toD t]), s4] h = .ok (.nx [some (.ob y), some td, some (.ob z), some (.tup [.str l, p, toD t]), s4]) h := by
        simp [q_set, q_put, q_expr, q_ret, q_retN, q_ife, q_cons, q_nil, q_cst, q_bin, q_neg, q_cmp, q_and, q_or, q_not, q_eife, q_tup, q_lst, q_dic, q_ix, q_slc, q_cal, q_blt, q_enil, q_econs, q_met, r_for, r_lc, r_var, r_ix_ob, r_sl_ob, r_put_ob, r_len_ob, r_tup_ob, r_lst_ob, r_addl, r_app, r_it_ob, r_in_ob, r_nin_ob, optI, Rf.start, hz1, ef, ea, ei, atI_0]
      have a2 : evalS W L (callF W L M) none (.expr (.met (.var 2) "append" [(.ix (.var 3) (.cst (.int 0)))])) [some (.ob y), some td, some (.ob z), some (.tup [.str l, p, toD t]), s4] h = .ok (.nx [some (.ob y), some td, some (.ob z), some (.tup [.str l, p, toD t]), s4]) (h.set z (.lst (seen.map D.str ++ [.str l]))) := by
        simp [q_set, q_put, q_expr, q_ret, q_retN, q_ife, q_cons, q_nil, q_cst, q_bin, q_neg, q_cmp, q_and, q_or, q_not, q_eife, q_tup, q_lst, q_dic, q_ix, q_slc, q_cal, q_blt, q_enil, q_econs, q_met, r_for, r_lc, r_var, r_ix_ob, r_sl_ob, r_put_ob, r_len_ob, r_tup_ob, r_lst_ob, r_addl, r_app, r_it_ob, r_in_ob, r_nin_ob, optI, Rf.start, r_metapp hz1, hz1, sl, atI_0, sizeLine]
      have a3 : evalS W L (callF W L M) none (.set 4 (.cal 15 [(.var 0), (.ix (.var 3) (.cst (.int 1)))])) [some (.ob y), some td, some (.ob z), some (.tup [.str l, p, toD t]), s4] (h.set z (.lst (seen.map D.str ++ [.str l]))) = .ok (.nx [some (.ob y), some td, some (.ob z), some (.tup [.str l, p, toD t]), some (oF (ftP (kys tb) p))]) (h.set z (.lst (seen.map D.str ++ [.str l]))) := by
        simp [q_set, q_put, q_expr, q_ret, q_retN, q_ife, q_cons, q_nil, q_cst, q_bin, q_neg, q_cmp, q_and, q_or, q_not, q_eife, q_tup, q_lst, q_dic, q_ix, q_slc, q_cal, q_blt, q_enil, q_econs, q_met, r_for, r_lc, r_var, r_ix_ob, r_sl_ob, r_put_ob, r_len_ob, r_tup_ob, r_lst_ob, r_addl, r_app, r_it_ob, r_in_ob, r_nin_ob, optI, Rf.start, e1, atI_1]
      generalize h.set z (.lst (seen.map D.str ++ [.str l])) = h2 at k1 hy2 hz2 a2 a3
      cases e5 : ftP (kys tb) p with
      | some f =>
        refine ⟨h2, k1, .inr ⟨f, by simp only [ftR, hs, if_false, e5], ?_⟩⟩
        rw [forI_rtN]
        rw [fT_some (σ1 := [some (.ob y), some td, some (.ob z), some (.tup [.str l, p, toD t]), s4]) rfl]
        rw [q_cons, a1, RS.then_nx, q_cons, a2, RS.then_nx, q_cons, a3, RS.then_nx, e5]
        cases f <;> simp [q_set, q_put, q_expr, q_ret, q_retN, q_ife, q_cons, q_nil, q_cst, q_bin, q_neg, q_cmp, q_and, q_or, q_not, q_eife, q_tup, q_lst, q_dic, q_ix, q_slc, q_cal, q_blt, q_enil, q_econs, q_met, r_for, r_lc, r_var, r_ix_ob, r_sl_ob, r_put_ob, r_len_ob, r_tup_ob, r_lst_ob, r_addl, r_app, r_it_ob, r_in_ob, r_nin_ob, optI, Rf.start, oF, Ft.d]
      | none =>
        obtain ⟨h3, e6, k3⟩ := ih M (by omega) t hw.2.1 lk h2 hy2
        have a4 : evalS W L (callF W L M) none (.ife (.cmp .is_ (.var 4) (.cst .non)) [.set 4 (.cal 13 [(.var 0), (.ix (.var 3) (.cst (.int 2)))])] []) [some (.ob y), some td, some (.ob z), some (.tup [.str l, p, toD t]), some (oF none)] h2 = .ok (.nx [some (.ob y), some td, some (.ob z), some (.tup [.str l, p, toD t]), some (oF (ftT (kys tb) t))]) h3 := by
          simp [q_set, q_put, q_expr, q_ret, q_retN, q_ife, q_cons, q_nil, q_cst, q_bin, q_neg, q_cmp, q_and, q_or, q_not, q_eife, q_tup, q_lst, q_dic, q_ix, q_slc, q_cal, q_blt, q_enil, q_econs, q_met, r_for, r_lc, r_var, r_ix_ob, r_sl_ob, r_put_ob, r_len_ob, r_tup_ob, r_lst_ob, r_addl, r_app, r_it_ob, r_in_ob, r_nin_ob, optI, Rf.start, oF, e6, atI_2]
        cases e7 : ftT (kys tb) t with
        | some f =>
          refine ⟨h3, k1.trans k3.kp, .inr ⟨f, by simp only [ftR, hs, if_false, e5, e7], ?_⟩⟩
          rw [forI_rtN]
          rw [fT_some (σ1 := [some (.ob y), some td, some (.ob z), some (.tup [.str l, p, toD t]), s4]) rfl]
          rw [q_cons, a1, RS.then_nx, q_cons, a2, RS.then_nx, q_cons, a3, RS.then_nx, e5, q_cons, a4, RS.then_nx, e7]
          cases f <;> simp [q_set, q_put, q_expr, q_ret, q_retN, q_ife, q_cons, q_nil, q_cst, q_bin, q_neg, q_cmp, q_and, q_or, q_not, q_eife, q_tup, q_lst, q_dic, q_ix, q_slc, q_cal, q_blt, q_enil, q_econs, q_met, r_for, r_lc, r_var, r_ix_ob, r_sl_ob, r_put_ob, r_len_ob, r_tup_ob, r_lst_ob, r_addl, r_app, r_it_ob, r_in_ob, r_nin_ob, optI, Rf.start, oF, Ft.d]
        | none =>
          obtain ⟨h4, k4, q⟩ := fault_loop hb ih M hM td z hz lk r (seen ++ [l]) (some (.tup [.str l, p, toD t])) (some .non) h3 hw.2.2 (by simp; omega) (k3.2 _ _ hz2) (k3.2 _ _ hy2)
          have ef' : ftR (kys tb) seen (.cons l p t r) = ftR (kys tb) (seen ++ [l]) r := by simp only [ftR, hs, if_false, e5, e7]
          refine ⟨h4, k1.trans (k3.kp.trans k4), ?_⟩
          rw [ef', forI_nxN (h' := h3) (σ' := [some (.ob y), some td, some (.ob z), some (.tup [.str l, p, toD t]), some .non])]
          · exact q
          · rw [fT_some (σ1 := [some (.ob y), some td, some (.ob z), some (.tup [.str l, p, toD t]), s4]) rfl]
            rw [q_cons, a1, RS.then_nx, q_cons, a2, RS.then_nx, q_cons, a3, RS.then_nx, e5, q_cons, a4, RS.then_nx, e7]
            simp [q_set, q_put, q_expr, q_ret, q_retN, q_ife, q_cons, q_nil, q_cst, q_bin, q_neg, q_cmp, q_and, q_or, q_not, q_eife, q_tup, q_lst, q_dic, q_ix, q_slc, q_cal, q_blt, q_enil, q_econs, q_met, r_for, r_lc, r_var, r_ix_ob, r_sl_ob, r_put_ob, r_len_ob, r_tup_ob, r_lst_ob, r_addl, r_app, r_it_ob, r_in_ob, r_nin_ob, optI, Rf.start, oF]
theorem fault_ok {bb : Nat} (hb : bb ≤ 4) (y : Nat) (tb : Tbl) : ∀ k, FaultOk W L ws bb y tb k := by
  have nmc : ∀ (M : Nat) (hM : 1 ≤ M) (s : LC) (lk : Bool) (h : Hs) (hy : h[y]? = some (.dic lk false (kvT tb))) (u : T), (u = .nm s ∨ u = .du s) → callF W L (M + 1) 13 [.ob y, toD u] h = .ok (oF (ftT (kys tb) u)) h := by
    intro M hM s lk h hy u hu
    have e := kf_ok hW L M hM y h hy (ws := [s]) (p := toD u) (by rcases hu with rfl | rfl <;> simp [toD, okP])
    rw [callF_s (hW 13 _ (by decide) rfl) rfl]
    rcases hu with rfl | rfl <;> (simp only [toD] at e; simp [q_set, q_put, q_expr, q_ret, q_retN, q_ife, q_cons, q_nil, q_cst, q_bin, q_neg, q_cmp, q_and, q_or, q_not, q_eife, q_tup, q_lst, q_dic, q_ix, q_slc, q_cal, q_blt, q_enil, q_econs, q_met, r_for, r_lc, r_var, r_ix_ob, r_sl_ob, r_put_ob, r_len_ob, r_tup_ob, r_lst_ob, r_addl, r_app, r_it_ob, r_in_ob, r_nin_ob, optI, Rf.start, f__law_fault, toD, atI_0, e, ftP, ftT])
  have enc : ∀ (M : Nat) (h : Hs), callF W L (M + 1) 13 [.ob y, toD .en] h = .ok (oF (ftT (kys tb) .en)) h := by
    intro M h
    rw [callF_s (hW 13 _ (by decide) rfl) rfl]
    simp [q_set, q_put, q_expr, q_ret, q_retN, q_ife, q_cons, q_nil, q_cst, q_bin, q_neg, q_cmp, q_and, q_or, q_not, q_eife, q_tup, q_lst, q_dic, q_ix, q_slc, q_cal, q_blt, q_enil, q_econs, q_met, r_for, r_lc, r_var, r_ix_ob, r_sl_ob, r_put_ob, r_len_ob, r_tup_ob, r_lst_ob, r_addl, r_app, r_it_ob, r_in_ob, r_nin_ob, optI, Rf.start, f__law_fault, toD, atI_0, ftT, oF]
  have rwc : ∀ k, FaultOk W L ws bb y tb k → ∀ (M : Nat), k + 2 ≤ M → ∀ (r : TR) (u : T), (u = .say r ∨ u = .hear r) → lenR r ≤ bb → wR ws bb r k → ∀ (lk : Bool) (h : Hs), h[y]? = some (.dic lk false (kvT tb)) → ∃ h', callF W L (M + 1) 13 [.ob y, toD u] h = .ok (oF (ftR (kys tb) [] r)) h' ∧ Kx h h' := by
    intro k ih M hM r u hu hl hw lk h hy
    rw [callF_s (hW 13 _ (by decide) rfl) rfl]
    have zy : h.length ≠ y := by have := lk_lt hy; omega
    obtain ⟨h', kk, q⟩ := fault_loop hW L hb ih M hM (toD u) h.length zy lk r [] none none (h ++ [.lst []]) hw (by simp; omega) lk_new (lk_app hy)
    refine ⟨h', ?_, Kx.of_new Kx.app (Nat.le_refl _) kk⟩
    have es : Rf.start f__law_fault.ns [D.ob y, toD u] = [some (.ob y), some (toD u), none, none, none] := rfl
    have eb : f__law_fault.body = [.ife (.or (.cmp .eq (.ix (.var 1) (.cst (.int 0))) (.cst (.str ['n', 'a', 'm', 'e']))) (.cmp .eq (.ix (.var 1) (.cst (.int 0))) (.cst (.str ['d', 'u', 'a', 'l'])))) [.ret (.cal 15 [(.var 0), (.var 1)])] [],
      .ife (.cmp .eq (.ix (.var 1) (.cst (.int 0))) (.cst (.str ['e', 'n', 'd']))) [.ret (.cst .non)] [],
      .set 2 (.lst []), .for_ (.nm 3) .seq [(.ix (.var 1) (.cst (.int 1)))] bodyF, .ret (.cst .non)] := rfl
    have it : evalEs W (callF W L M) none [(.ix (.var 1) (.cst (.int 1)))] [some (.ob y), some (toD u), some (.ob h.length), none, none] (h ++ [.lst []]) = .ok [.tup (rowsD r)] (h ++ [.lst []]) := by
      rcases hu with rfl | rfl <;> simp [q_set, q_put, q_expr, q_ret, q_retN, q_ife, q_cons, q_nil, q_cst, q_bin, q_neg, q_cmp, q_and, q_or, q_not, q_eife, q_tup, q_lst, q_dic, q_ix, q_slc, q_cal, q_blt, q_enil, q_econs, q_met, r_for, r_lc, r_var, r_ix_ob, r_sl_ob, r_put_ob, r_len_ob, r_tup_ob, r_lst_ob, r_addl, r_app, r_it_ob, r_in_ob, r_nin_ob, optI, Rf.start, toD, atI_1]
    rw [es, eb]
    have s3 : evalS W L (callF W L M) none (.set 2 (.lst [])) [some (.ob y), some (toD u), none, none, none] h = .ok (.nx [some (.ob y), some (toD u), some (.ob h.length), none, none]) (h ++ [.lst []]) := by simp [q_set, q_put, q_expr, q_ret, q_retN, q_ife, q_cons, q_nil, q_cst, q_bin, q_neg, q_cmp, q_and, q_or, q_not, q_eife, q_tup, q_lst, q_dic, q_ix, q_slc, q_cal, q_blt, q_enil, q_econs, q_met, r_for, r_lc, r_var, r_ix_ob, r_sl_ob, r_put_ob, r_len_ob, r_tup_ob, r_lst_ob, r_addl, r_app, r_it_ob, r_in_ob, r_nin_ob, optI, Rf.start, sizeLine]
    have s1 : evalS W L (callF W L M) none (.ife (.or (.cmp .eq (.ix (.var 1) (.cst (.int 0))) (.cst (.str ['n', 'a', 'm', 'e']))) (.cmp .eq (.ix (.var 1) (.cst (.int 0))) (.cst (.str ['d', 'u', 'a', 'l'])))) [.ret (.cal 15 [(.var 0), (.var 1)])] []) [some (.ob y), some (toD u), none, none, none] h = .ok (.nx [some (.ob y), some (toD u), none, none, none]) h := by
      rcases hu with rfl | rfl <;> simp [q_set, q_put, q_expr, q_ret, q_retN, q_ife, q_cons, q_nil, q_cst, q_bin, q_neg, q_cmp, q_and, q_or, q_not, q_eife, q_tup, q_lst, q_dic, q_ix, q_slc, q_cal, q_blt, q_enil, q_econs, q_met, r_for, r_lc, r_var, r_ix_ob, r_sl_ob, r_put_ob, r_len_ob, r_tup_ob, r_lst_ob, r_addl, r_app, r_it_ob, r_in_ob, r_nin_ob, optI, Rf.start, toD, atI_0]
    have s2 : evalS W L (callF W L M) none (.ife (.cmp .eq (.ix (.var 1) (.cst (.int 0))) (.cst (.str ['e', 'n', 'd']))) [.ret (.cst .non)] []) [some (.ob y), some (toD u), none, none, none] h = .ok (.nx [some (.ob y), some (toD u), none, none, none]) h := by
      rcases hu with rfl | rfl <;> simp [q_set, q_put, q_expr, q_ret, q_retN, q_ife, q_cons, q_nil, q_cst, q_bin, q_neg, q_cmp, q_and, q_or, q_not, q_eife, q_tup, q_lst, q_dic, q_ix, q_slc, q_cal, q_blt, q_enil, q_econs, q_met, r_for, r_lc, r_var, r_ix_ob, r_sl_ob, r_put_ob, r_len_ob, r_tup_ob, r_lst_ob, r_addl, r_app, r_it_ob, r_in_ob, r_nin_ob, optI, Rf.start, toD, atI_0]
    rw [q_cons, s1, RS.then_nx, q_cons, s2, RS.then_nx, q_cons, s3, RS.then_nx, q_cons, r_for, it, R.stm_ok, r_it_tup, ofO_some, R.stm_ok]
    dsimp only
    rcases q with ⟨q1, _, _, q2⟩ | ⟨f, q1, q2⟩
    · rw [q1, q2, RS.then_nx]
      simp [q_set, q_put, q_expr, q_ret, q_retN, q_ife, q_cons, q_nil, q_cst, q_bin, q_neg, q_cmp, q_and, q_or, q_not, q_eife, q_tup, q_lst, q_dic, q_ix, q_slc, q_cal, q_blt, q_enil, q_econs, q_met, r_for, r_lc, r_var, r_ix_ob, r_sl_ob, r_put_ob, r_len_ob, r_tup_ob, r_lst_ob, r_addl, r_app, r_it_ob, r_in_ob, r_nin_ob, optI, Rf.start, oF]
    · rw [q1, q2, RS.then_rt]
      rfl
  intro k
  induction k with
  | zero =>
    intro N hN t ht lk h hy
    obtain ⟨M, rfl⟩ : ∃ M, N = M + 1 := ⟨N - 1, by omega⟩
    cases t with
    | en => exact ⟨h, enc M h, Kx.refl⟩
    | nm s => exact ⟨h, nmc M (by omega) s lk h hy _ (.inl rfl), Kx.refl⟩
    | du s => exact ⟨h, nmc M (by omega) s lk h hy _ (.inr rfl), Kx.refl⟩
    | say r => simp [wT] at ht
    | hear r => simp [wT] at ht
  | succ k ih =>
    intro N hN t ht lk h hy
    obtain ⟨M, rfl⟩ : ∃ M, N = M + 1 := ⟨N - 1, by omega⟩
    cases t with
    | en => exact ⟨h, enc M h, Kx.refl⟩
    | nm s => exact ⟨h, nmc M (by omega) s lk h hy _ (.inl rfl), Kx.refl⟩
    | du s => exact ⟨h, nmc M (by omega) s lk h hy _ (.inr rfl), Kx.refl⟩
    | say r =>
      simp only [wT] at ht
      simp only [ftT]
      exact rwc k ih M (by omega) r _ (.inl rfl) ht.1.2 ht.2 lk h hy
    | hear r =>
      simp only [wT] at ht
      simp only [ftT]
      exact rwc k ih M (by omega) r _ (.inr rfl) ht.1.2 ht.2 lk h hy
end
end K08
end

section
namespace K08
open PySem PySem.Spec PyProof.Rows L2 Rf
variable {ws : List LC} {W : Wd} (hW : Has W) (hE : HasE W) (L : Nat)
/-- an outcome: nothing, or the exception -/
def ctR (o : Option Ft) (h : Hs) : R D := match o with
  | none => .ok .non h
  | some f => .exc f.c [("name", .str f.s)] h
theorem ftT_nm {ks : List LC} {t : T} {s : LC} (e : nmO t = some s) : ftT ks t = ftN ks s := by
  cases t <;> simp [nmO] at e <;> subst e <;> simp only [ftT]
theorem nmO_at {t : T} {s : LC} (e : nmO t = some s) : ∃ a, toD t = .tup [.str a, .str s] := by
  cases t <;> simp [nmO] at e <;> subst e <;> exact ⟨_, rfl⟩
def rwsT : T → TR
  | .say r => r | .hear r => r | _ => .nil
include hW
theorem rows_ok (N : Nat) (hN : 1 ≤ N) (t : T) (h : Hs) : callF W L N 14 [toD t] h = .ok (.tup (rowsD (rwsT t))) h := by
  obtain ⟨M, rfl⟩ : ∃ M, N = M + 1 := ⟨N - 1, by omega⟩
  rw [callF_s (hW 14 _ (by decide) rfl) rfl]
  cases t <;> simp [q_set, q_put, q_expr, q_ret, q_retN, q_ife, q_cons, q_nil, q_cst, q_bin, q_neg, q_cmp, q_and, q_or, q_not, q_eife, q_tup, q_lst, q_dic, q_ix, q_slc, q_cal, q_blt, q_enil, q_econs, q_met, q_raise, r_for, r_lc, r_var, r_ix_ob, r_sl_ob, r_put_ob, r_len_ob, r_tup_ob, r_lst_ob, r_addl, r_app, r_it_ob, r_in_ob, r_nin_ob, optI, Rf.start, f_rows_of, toD, atI_0, atI_1, rwsT, rowsD, sizeLine]
include hE
abbrev bodyK : List S := [.ife (.cmp .in_ (.var 3) (.var 2))
      [.raise 2 [(.var 3)]]
      [],
    .put (.var 2) (.var 3) (.cst (.bl true)),
    .ife (.blt .isTup [(.var 4)])
      [.expr (.cal 18 [(.var 0), (.var 4)])]
      [],
    .expr (.cal 18 [(.var 0), (.var 5)])]
abbrev s1K : S := .ife (.and (.cal 11 [(.var 1)]) (.cmp .nin (.ix (.var 1) (.cst (.int 1))) (.var 0))) [.raise 1 [(.ix (.var 1) (.cst (.int 1)))]] []
theorem s1K_nm (M : Nat) (hM : 1 ≤ M) (y : Nat) {lk : Bool} {tb : Tbl} (h : Hs) (hy : h[y]? = some (.dic lk false (kvT tb))) {t : T} {s : LC} (e : nmO t = some s) (a b c d : Option D) :
    evalS W L (callF W L M) none s1K [some (.ob y), some (toD t), a, b, c, d] h = match ftN (kys tb) s with
      | none => .ok (.nx [some (.ob y), some (toD t), a, b, c, d]) h
      | some f => .exc f.c [("name", .str f.s)] [some (.ob y), some (toD t), a, b, c, d] h := by
  have st := stN hW L M hM t h
  have n1 : isN t = true := by rw [nmO_isN, e]; rfl
  rw [n1] at st
  obtain ⟨x, e1⟩ := nmO_at e
  rw [e1] at st ⊢
  have g := gt_some tb s
  unfold ftN
  by_cases hs : s ∈ kys tb
  · rw [decide_eq_true hs] at g
    rw [if_pos hs]
    simp [q_set, q_put, q_expr, q_ret, q_retN, q_ife, q_cons, q_nil, q_cst, q_bin, q_neg, q_cmp, q_and, q_or, q_not, q_eife, q_tup, q_lst, q_dic, q_ix, q_slc, q_cal, q_blt, q_enil, q_econs, q_met, q_raise, r_for, r_lc, r_var, r_ix_ob, r_sl_ob, r_put_ob, r_len_ob, r_tup_ob, r_lst_ob, r_addl, r_app, r_it_ob, r_in_ob, r_nin_ob, optI, Rf.start, st, hy, kvT_okK, kvT_get, g, hs, atI_0, atI_1]
  · rw [decide_eq_false hs] at g
    have g' : gt tb s = none := by simpa using g
    rw [if_neg hs]
    simp [q_set, q_put, q_expr, q_ret, q_retN, q_ife, q_cons, q_nil, q_cst, q_bin, q_neg, q_cmp, q_and, q_or, q_not, q_eife, q_tup, q_lst, q_dic, q_ix, q_slc, q_cal, q_blt, q_enil, q_econs, q_met, q_raise, r_for, r_lc, r_var, r_ix_ob, r_sl_ob, r_put_ob, r_len_ob, r_tup_ob, r_lst_ob, r_addl, r_app, r_it_ob, r_in_ob, r_nin_ob, optI, Rf.start, st, hy, kvT_okK, kvT_get, g', hs, atI_0, atI_1, hE.1, Ft.c, Ft.s]
theorem ctail (M : Nat) (hM : 1 ≤ M) (y : Nat) {t : T} (e : rwsT t = .nil) (h : Hs) : (evalB W L (callF W L M) none [.set 2 (.dic false [] []), .for_ (.tp [3, 4, 5]) .seq [(.cal 14 [(.var 1)])] bodyK] [some (.ob y), some (toD t), none, none, none, none] h).fin = .ok .non (h ++ [.dic false false []]) := by
  have rk := rows_ok hW L M hM t (h ++ [.dic false false []])
  rw [e, rowsD] at rk
  have nl : forI .none (fT W L (callF W L M) (.tp [3, 4, 5]) bodyK) [] [some (.ob y), some (toD t), some (.ob h.length), none, none, none] (h ++ [.dic false false []]) = .ok (.nx [some (.ob y), some (toD t), some (.ob h.length), none, none, none]) (h ++ [.dic false false []]) := forI_nil (by trivial)
  generalize bodyK = B at nl ⊢
  simp [q_set, q_put, q_expr, q_ret, q_retN, q_ife, q_cons, q_nil, q_cst, q_bin, q_neg, q_cmp, q_and, q_or, q_not, q_eife, q_tup, q_lst, q_dic, q_ix, q_slc, q_cal, q_blt, q_enil, q_econs, q_met, q_raise, r_for, r_lc, r_var, r_ix_ob, r_sl_ob, r_put_ob, r_len_ob, r_tup_ob, r_lst_ob, r_addl, r_app, r_it_ob, r_in_ob, r_nin_ob, optI, Rf.start, rk, nl]
def CheckOk (W : Wd) (L : Nat) (ws : List LC) (bb : Nat) (y : Nat) (tb : Tbl) (k : Nat) : Prop := ∀ (N : Nat), k + 2 ≤ N → ∀ (t : T), wT ws bb t k → ∀ (lk : Bool) (h : Hs), h[y]? = some (.dic lk false (kvT tb)) →
  ∃ h', callF W L N 18 [.ob y, toD t] h = ctR (ftT (kys tb) t) h' ∧ Kx h h'
/-- a name -/
theorem check_nm (N : Nat) (hN : 2 ≤ N) (y : Nat) {lk : Bool} {tb : Tbl} (h : Hs) (hy : h[y]? = some (.dic lk false (kvT tb))) {t : T} {s : LC} (e : nmO t = some s) : ∃ h', callF W L N 18 [.ob y, toD t] h = ctR (ftT (kys tb) t) h' ∧ Kx h h' := by
  obtain ⟨M, rfl⟩ : ∃ M, N = M + 1 := ⟨N - 1, by omega⟩
  rw [callF_s (hW 18 _ (by decide) rfl) rfl]
  have es : Rf.start f_check_talk.ns [D.ob y, toD t] = [some (.ob y), some (toD t), none, none, none, none] := rfl
  have eb : f_check_talk.body = [s1K, .set 2 (.dic false [] []), .for_ (.tp [3, 4, 5]) .seq [(.cal 14 [(.var 1)])] bodyK] := rfl
  have sk := s1K_nm hW hE L M (by omega) y h hy e none none none none
  rw [es, eb, q_cons, sk, ftT_nm e]
  cases e2 : ftN (kys tb) s with
  | some f => exact ⟨h, rfl, Kx.refl⟩
  | none =>
    refine ⟨h ++ [.dic false false []], ?_, Kx.app⟩
    rw [RS.then_nx]
    exact ctail hW hE L M (by omega) y (by cases t <;> simp [nmO] at e <;> rfl) h
/-- a payload -/
theorem check_pay (M : Nat) (hM : 2 ≤ M) (y : Nat) {lk : Bool} {tb : Tbl} (h : Hs) (hy : h[y]? = some (.dic lk false (kvT tb))) {p : D} (hp : okP ws p) {σ : Sg} (s0 : σ[0]? = some (some (.ob y))) (s4 : σ[4]? = some (some p)) :
    ∃ h', Kx h h' ∧ evalS W L (callF W L M) none (.ife (.blt .isTup [(.var 4)]) [.expr (.cal 18 [(.var 0), (.var 4)])] []) σ h = match ftP (kys tb) p with
      | none => .ok (.nx σ) h'
      | some f => .exc f.c [("name", .str f.s)] σ h' := by
  rcases hp with rfl | rfl | rfl | ⟨s, _, hp⟩
  · exact ⟨h, Kx.refl, by simp [q_set, q_put, q_expr, q_ret, q_retN, q_ife, q_cons, q_nil, q_cst, q_bin, q_neg, q_cmp, q_and, q_or, q_not, q_eife, q_tup, q_lst, q_dic, q_ix, q_slc, q_cal, q_blt, q_enil, q_econs, q_met, q_raise, r_for, r_lc, r_var, r_ix_ob, r_sl_ob, r_put_ob, r_len_ob, r_tup_ob, r_lst_ob, r_addl, r_app, r_it_ob, r_in_ob, r_nin_ob, optI, Rf.start, s0, s4, ftP]⟩
  · exact ⟨h, Kx.refl, by simp [q_set, q_put, q_expr, q_ret, q_retN, q_ife, q_cons, q_nil, q_cst, q_bin, q_neg, q_cmp, q_and, q_or, q_not, q_eife, q_tup, q_lst, q_dic, q_ix, q_slc, q_cal, q_blt, q_enil, q_econs, q_met, q_raise, r_for, r_lc, r_var, r_ix_ob, r_sl_ob, r_put_ob, r_len_ob, r_tup_ob, r_lst_ob, r_addl, r_app, r_it_ob, r_in_ob, r_nin_ob, optI, Rf.start, s0, s4, ftP]⟩
  · exact ⟨h, Kx.refl, by simp [q_set, q_put, q_expr, q_ret, q_retN, q_ife, q_cons, q_nil, q_cst, q_bin, q_neg, q_cmp, q_and, q_or, q_not, q_eife, q_tup, q_lst, q_dic, q_ix, q_slc, q_cal, q_blt, q_enil, q_econs, q_met, q_raise, r_for, r_lc, r_var, r_ix_ob, r_sl_ob, r_put_ob, r_len_ob, r_tup_ob, r_lst_ob, r_addl, r_app, r_it_ob, r_in_ob, r_nin_ob, optI, Rf.start, s0, s4, ftP]⟩
  · obtain ⟨t, e, rfl⟩ : ∃ t, nmO t = some s ∧ p = toD t := by
      rcases hp with rfl | rfl
      · exact ⟨.nm s, rfl, rfl⟩
      · exact ⟨.du s, rfl, rfl⟩
    obtain ⟨h', e1, k⟩ := check_nm hW hE L M hM y h hy e
    have e2 : ftP (kys tb) (toD t) = ftT (kys tb) t := by
      rw [ftT_nm e]
      cases t <;> simp [nmO] at e <;> subst e <;> rfl
    obtain ⟨a, e3⟩ := nmO_at e
    rw [e2]
    refine ⟨h', k, ?_⟩
    have e4 : bltC W .isTup [toD t] h = .ok (.bl true) h := by rw [e3]; rfl
    cases e5 : ftT (kys tb) t with
    | none => rw [e5] at e1; simp [q_set, q_put, q_expr, q_ret, q_retN, q_ife, q_cons, q_nil, q_cst, q_bin, q_neg, q_cmp, q_and, q_or, q_not, q_eife, q_tup, q_lst, q_dic, q_ix, q_slc, q_cal, q_blt, q_enil, q_econs, q_met, q_raise, r_for, r_lc, r_var, r_ix_ob, r_sl_ob, r_put_ob, r_len_ob, r_tup_ob, r_lst_ob, r_addl, r_app, r_it_ob, r_in_ob, r_nin_ob, optI, Rf.start, s0, s4, e4, e1, ctR]
    | some f => rw [e5] at e1; simp [q_set, q_put, q_expr, q_ret, q_retN, q_ife, q_cons, q_nil, q_cst, q_bin, q_neg, q_cmp, q_and, q_or, q_not, q_eife, q_tup, q_lst, q_dic, q_ix, q_slc, q_cal, q_blt, q_enil, q_econs, q_met, q_raise, r_for, r_lc, r_var, r_ix_ob, r_sl_ob, r_put_ob, r_len_ob, r_tup_ob, r_lst_ob, r_addl, r_app, r_it_ob, r_in_ob, r_nin_ob, optI, Rf.start, s0, s4, e4, e1, ctR]
theorem check_loop {bb : Nat} (hb : bb ≤ 4) {y : Nat} {tb : Tbl} {k : Nat} (ih : CheckOk W L ws bb y tb k) (M : Nat) (hM : k + 2 ≤ M) (td : D) (z : Nat) (hz : z ≠ y) (lk : Bool) :
    ∀ (r : TR) (seen : List LC) (s3 s4 s5 : Option D) (h : Hs), wR ws bb r k → seen.length + lenR r ≤ 4 → h[z]? = some (.dic false false (sd seen)) → h[y]? = some (.dic lk false (kvT tb)) →
    ∃ h' σ', Kp z h h' ∧ ((ftR (kys tb) seen r = none ∧ forI .none (fT W L (callF W L M) (.tp [3, 4, 5]) bodyK) (rowsD r) [some (.ob y), some td, some (.ob z), s3, s4, s5] h = .ok (.nx σ') h') ∨
      ∃ f, ftR (kys tb) seen r = some f ∧ forI .none (fT W L (callF W L M) (.tp [3, 4, 5]) bodyK) (rowsD r) [some (.ob y), some td, some (.ob z), s3, s4, s5] h = .exc f.c [("name", .str f.s)] σ' h')
  | .nil, seen, s3, s4, s5, h, _, _, hz1, hy1 => by
    refine ⟨h, [some (.ob y), some td, some (.ob z), s3, s4, s5], Kp.refl, .inl ⟨by simp only [ftR], ?_⟩⟩
    rw [rowsD]
    exact forI_nil (by trivial)
  | .cons l p t r, seen, s3, s4, s5, h, hw, hl, hz1, hy1 => by
    simp only [wR] at hw
    simp only [lenR] at hl
    have ei := sd_get seen l
    have eo := sd_okK seen l
    have sl : (sd seen).length < 16777216 := by rw [sd_len]; omega
    have zl := lk_lt hz1
    have σe : bindT (.tp [3, 4, 5]) (.tup [.str l, p, toD t]) [some (.ob y), some td, some (.ob z), s3, s4, s5] = some [some (.ob y), some td, some (.ob z), some (.str l), some p, some (toD t)] := rfl
    rw [rowsD]
    by_cases hs : l ∈ seen
    · rw [decide_eq_true hs] at ei
      refine ⟨h, [some (.ob y), some td, some (.ob z), some (.str l), some p, some (toD t)], Kp.refl, .inr ⟨.cla l, by simp only [ftR, hs, if_true], ?_⟩⟩
      rw [forI_exc (by trivial)]
      rw [fT_some σe]
      simp [q_set, q_put, q_expr, q_ret, q_retN, q_ife, q_cons, q_nil, q_cst, q_bin, q_neg, q_cmp, q_and, q_or, q_not, q_eife, q_tup, q_lst, q_dic, q_ix, q_slc, q_cal, q_blt, q_enil, q_econs, q_met, q_raise, r_for, r_lc, r_var, r_ix_ob, r_sl_ob, r_put_ob, r_len_ob, r_tup_ob, r_lst_ob, r_addl, r_app, r_it_ob, r_in_ob, r_nin_ob, optI, Rf.start, hz1, eo, ei, hE.2.1, Ft.c, Ft.s]
    · rw [decide_eq_false hs] at ei
      have k1 : Kp z h (h.set z (.dic false false (sd (seen ++ [l])))) := Kp.set
      have hy2 := k1.2 y _ hz.symm hy1
      have hz2 : (h.set z (.dic false false (sd (seen ++ [l]))))[z]? = some (.dic false false (sd (seen ++ [l]))) := by simp [zl]
      have a1 : evalS W L (callF W L M) none (.ife (.cmp .in_ (.var 3) (.var 2)) [.raise 2 [(.var 3)]] []) [some (.ob y), some td, some (.ob z), some (.str l), some p, some (toD t)] h = .ok (.nx [some (.ob y), some td, some (.ob z), some (.str l), some p, some (toD t)]) h := by
        have ei' : kvGet (sd seen) (.str l) = none := by simpa using ei
        simp [q_set, q_put, q_expr, q_ret, q_retN, q_ife, q_cons, q_nil, q_cst, q_bin, q_neg, q_cmp, q_and, q_or, q_not, q_eife, q_tup, q_lst, q_dic, q_ix, q_slc, q_cal, q_blt, q_enil, q_econs, q_met, q_raise, r_for, r_lc, r_var, r_ix_ob, r_sl_ob, r_put_ob, r_len_ob, r_tup_ob, r_lst_ob, r_addl, r_app, r_it_ob, r_in_ob, r_nin_ob, optI, Rf.start, hz1, eo, ei']
      have a2 : evalS W L (callF W L M) none (.put (.var 2) (.var 3) (.cst (.bl true))) [some (.ob y), some td, some (.ob z), some (.str l), some p, some (toD t)] h = .ok (.nx [some (.ob y), some td, some (.ob z), some (.str l), some p, some (toD t)]) (h.set z (.dic false false (sd (seen ++ [l])))) := by
        simp [q_set, q_put, q_expr, q_ret, q_retN, q_ife, q_cons, q_nil, q_cst, q_bin, q_neg, q_cmp, q_and, q_or, q_not, q_eife, q_tup, q_lst, q_dic, q_ix, q_slc, q_cal, q_blt, q_enil, q_econs, q_met, q_raise, r_for, r_lc, r_var, r_ix_ob, r_sl_ob, r_put_ob, r_len_ob, r_tup_ob, r_lst_ob, r_addl, r_app, r_it_ob, r_in_ob, r_nin_ob, optI, Rf.start, hz1, eo, sl, sd_put hs, sizeLine]
      generalize h.set z (.dic false false (sd (seen ++ [l]))) = h2 at k1 hy2 hz2 a2
      obtain ⟨h3, k3, a3⟩ := check_pay hW hE L M (by omega) y h2 hy2 hw.1 (σ := [some (.ob y), some td, some (.ob z), some (.str l), some p, some (toD t)]) rfl rfl
      cases e5 : ftP (kys tb) p with
      | some f =>
        rw [e5] at a3
        refine ⟨h3, [some (.ob y), some td, some (.ob z), some (.str l), some p, some (toD t)], k1.trans k3.kp, .inr ⟨f, by simp only [ftR, hs, if_false, e5], ?_⟩⟩
        rw [forI_exc (by trivial)]
        rw [fT_some σe]
        rw [q_cons, a1, RS.then_nx, q_cons, a2, RS.then_nx, q_cons, a3]
        rfl
      | none =>
        rw [e5] at a3
        obtain ⟨h4, e6, k4⟩ := ih M (by omega) t hw.2.1 lk h3 (k3.2 _ _ hy2)
        cases e7 : ftT (kys tb) t with
        | some f =>
          rw [e7] at e6
          refine ⟨h4, [some (.ob y), some td, some (.ob z), some (.str l), some p, some (toD t)], k1.trans (k3.kp.trans k4.kp), .inr ⟨f, by simp only [ftR, hs, if_false, e5, e7], ?_⟩⟩
          rw [forI_exc (by trivial)]
          rw [fT_some σe]
          rw [q_cons, a1, RS.then_nx, q_cons, a2, RS.then_nx, q_cons, a3]
          simp [q_set, q_put, q_expr, q_ret, q_retN, q_ife, q_cons, q_nil, q_cst, q_bin, q_neg, q_cmp, q_and, q_or, q_not, q_eife, q_tup, q_lst, q_dic, q_ix, q_slc, q_cal, q_blt, q_enil, q_econs, q_met, q_raise, r_for, r_lc, r_var, r_ix_ob, r_sl_ob, r_put_ob, r_len_ob, r_tup_ob, r_lst_ob, r_addl, r_app, r_it_ob, r_in_ob, r_nin_ob, optI, Rf.start, e6, ctR]
        | none =>
          rw [e7] at e6
          obtain ⟨h5, σ', k5, q⟩ := check_loop hb ih M hM td z hz lk r (seen ++ [l]) (some (.str l)) (some p) (some (toD t)) h4 hw.2.2 (by simp; omega) (k4.2 _ _ (k3.2 _ _ hz2)) (k4.2 _ _ (k3.2 _ _ hy2))
          have ef' : ftR (kys tb) seen (.cons l p t r) = ftR (kys tb) (seen ++ [l]) r := by simp only [ftR, hs, if_false, e5, e7]
          refine ⟨h5, σ', k1.trans (k3.kp.trans (k4.kp.trans k5)), ?_⟩
          rw [ef', forI_nxN (h' := h4) (σ' := [some (.ob y), some td, some (.ob z), some (.str l), some p, some (toD t)])]
          · exact q
          · rw [fT_some σe]
            rw [q_cons, a1, RS.then_nx, q_cons, a2, RS.then_nx, q_cons, a3]
            simp [q_set, q_put, q_expr, q_ret, q_retN, q_ife, q_cons, q_nil, q_cst, q_bin, q_neg, q_cmp, q_and, q_or, q_not, q_eife, q_tup, q_lst, q_dic, q_ix, q_slc, q_cal, q_blt, q_enil, q_econs, q_met, q_raise, r_for, r_lc, r_var, r_ix_ob, r_sl_ob, r_put_ob, r_len_ob, r_tup_ob, r_lst_ob, r_addl, r_app, r_it_ob, r_in_ob, r_nin_ob, optI, Rf.start, e6, ctR]
theorem check_ok {bb : Nat} (hb : bb ≤ 4) (y : Nat) (tb : Tbl) : ∀ k, CheckOk W L ws bb y tb k := by
  have s1c : ∀ (M : Nat) (h : Hs) (t : T), 1 ≤ M → nmO t = none → evalS W L (callF W L M) none s1K [some (.ob y), some (toD t), none, none, none, none] h = .ok (.nx [some (.ob y), some (toD t), none, none, none, none]) h := by
    intro M h t hM e
    have st := stN hW L M hM t h
    have n1 : isN t = false := by rw [nmO_isN, e]; rfl
    rw [n1] at st
    simp [q_set, q_put, q_expr, q_ret, q_retN, q_ife, q_cons, q_nil, q_cst, q_bin, q_neg, q_cmp, q_and, q_or, q_not, q_eife, q_tup, q_lst, q_dic, q_ix, q_slc, q_cal, q_blt, q_enil, q_econs, q_met, q_raise, r_for, r_lc, r_var, r_ix_ob, r_sl_ob, r_put_ob, r_len_ob, r_tup_ob, r_lst_ob, r_addl, r_app, r_it_ob, r_in_ob, r_nin_ob, optI, Rf.start, st]
  have es : ∀ t : T, Rf.start f_check_talk.ns [D.ob y, toD t] = [some (.ob y), some (toD t), none, none, none, none] := fun _ => rfl
  have eb : f_check_talk.body = [s1K, .set 2 (.dic false [] []), .for_ (.tp [3, 4, 5]) .seq [(.cal 14 [(.var 1)])] bodyK] := rfl
  have enc : ∀ (M : Nat) (h : Hs), 1 ≤ M → callF W L (M + 1) 18 [.ob y, toD .en] h = ctR (ftT (kys tb) .en) (h ++ [.dic false false []]) := by
    intro M h hM
    rw [callF_s (hW 18 _ (by decide) rfl) rfl, es, eb, q_cons, s1c M h _ hM rfl, RS.then_nx, ctail hW hE L M hM y rfl h]
    simp only [ftT, ctR]
  have rwc : ∀ k, CheckOk W L ws bb y tb k → ∀ (M : Nat), k + 2 ≤ M → ∀ (r : TR) (u : T), (u = .say r ∨ u = .hear r) → lenR r ≤ bb → wR ws bb r k → ∀ (lk : Bool) (h : Hs), h[y]? = some (.dic lk false (kvT tb)) → ∃ h', callF W L (M + 1) 18 [.ob y, toD u] h = ctR (ftR (kys tb) [] r) h' ∧ Kx h h' := by
    intro k ih M hM r u hu hl hw lk h hy
    rw [callF_s (hW 18 _ (by decide) rfl) rfl]
    have zy : h.length ≠ y := by have := lk_lt hy; omega
    obtain ⟨h', σ', kk, q⟩ := check_loop hW hE L hb ih M hM (toD u) h.length zy lk r [] none none none (h ++ [.dic false false []]) hw (by simp; omega) lk_new (lk_app hy)
    refine ⟨h', ?_, Kx.of_new Kx.app (Nat.le_refl _) kk⟩
    have rk := rows_ok hW L M (by omega) u (h ++ [.dic false false []])
    have ru : rwsT u = r := by rcases hu with rfl | rfl <;> rfl
    rw [ru] at rk
    have it : evalEs W (callF W L M) none [(.cal 14 [(.var 1)])] [some (.ob y), some (toD u), some (.ob h.length), none, none, none] (h ++ [.dic false false []]) = .ok [.tup (rowsD r)] (h ++ [.dic false false []]) := by
      simp [q_set, q_put, q_expr, q_ret, q_retN, q_ife, q_cons, q_nil, q_cst, q_bin, q_neg, q_cmp, q_and, q_or, q_not, q_eife, q_tup, q_lst, q_dic, q_ix, q_slc, q_cal, q_blt, q_enil, q_econs, q_met, q_raise, r_for, r_lc, r_var, r_ix_ob, r_sl_ob, r_put_ob, r_len_ob, r_tup_ob, r_lst_ob, r_addl, r_app, r_it_ob, r_in_ob, r_nin_ob, optI, Rf.start, rk]
    have s3 : evalS W L (callF W L M) none (.set 2 (.dic false [] [])) [some (.ob y), some (toD u), none, none, none, none] h = .ok (.nx [some (.ob y), some (toD u), some (.ob h.length), none, none, none]) (h ++ [.dic false false []]) := by simp [q_set, q_put, q_expr, q_ret, q_retN, q_ife, q_cons, q_nil, q_cst, q_bin, q_neg, q_cmp, q_and, q_or, q_not, q_eife, q_tup, q_lst, q_dic, q_ix, q_slc, q_cal, q_blt, q_enil, q_econs, q_met, q_raise, r_for, r_lc, r_var, r_ix_ob, r_sl_ob, r_put_ob, r_len_ob, r_tup_ob, r_lst_ob, r_addl, r_app, r_it_ob, r_in_ob, r_nin_ob, optI, Rf.start]
    rw [es, eb, q_cons, s1c M h _ (by omega) (by rcases hu with rfl | rfl <;> rfl), RS.then_nx, q_cons, s3, RS.then_nx, q_cons, r_for, it, R.stm_ok, r_it_tup, ofO_some, R.stm_ok]
    dsimp only
    rcases q with ⟨q1, q2⟩ | ⟨f, q1, q2⟩
    · rw [q1, q2, RS.then_nx, q_nil]
      rfl
    · rw [q1, q2]
      rfl
  intro k
  induction k with
  | zero =>
    intro N hN t ht lk h hy
    obtain ⟨M, rfl⟩ : ∃ M, N = M + 1 := ⟨N - 1, by omega⟩
    cases t with
    | en => exact ⟨_, enc M h (by omega), Kx.app⟩
    | nm s => exact check_nm hW hE L (M + 1) (by omega) y h hy rfl
    | du s => exact check_nm hW hE L (M + 1) (by omega) y h hy rfl
    | say r => simp [wT] at ht
    | hear r => simp [wT] at ht
  | succ k ih =>
    intro N hN t ht lk h hy
    obtain ⟨M, rfl⟩ : ∃ M, N = M + 1 := ⟨N - 1, by omega⟩
    cases t with
    | en => exact ⟨_, enc M h (by omega), Kx.app⟩
    | nm s => exact check_nm hW hE L (M + 1) (by omega) y h hy rfl
    | du s => exact check_nm hW hE L (M + 1) (by omega) y h hy rfl
    | say r =>
      simp only [wT] at ht
      simp only [ftT]
      exact rwc k ih M (by omega) r _ (.inl rfl) ht.1.2 ht.2 lk h hy
    | hear r =>
      simp only [wT] at ht
      simp only [ftT]
      exact rwc k ih M (by omega) r _ (.inr rfl) ht.1.2 ht.2 lk h hy
end K08
end

section
namespace K08
open PySem PySem.Spec PyProof.Rows L2 Rf
theorem r_whl {W : Wd} {L : Nat} {cf : CF} {σ : Sg} {h : Hs} {c : E} {b : List S} : evalS W L cf none (.whl c b) σ h = whileI (fun σ h => (evalE W cf none c σ h).bind fun x h => truthR x h) (evalB W L cf none b) L σ h := by simp only [evalS] <;> rfl
theorem forI_rtG {g : Gd} {turn : D → Sg → Hs → RS} {d x : D} {ds : List D} {σ : Sg} {h h' : Hs} (hs : Rf.same g h) (hs' : Rf.same g h') (e : turn d σ h = .ok (.rt x) h') : forI g turn (d :: ds) σ h = .ok (.rt x) (endG g h') := by simp [forI, hs, e, hs']
/-- walking a dict -/
theorem it_dict {y : Nat} {lk : Bool} {kvs : List (D × D)} {h : Hs} (hy : h[y]? = some (.dic lk false kvs)) : ∃ g h1, itO y h[y]? h = some (kvs.map (·.1), g, h1) ∧ h1[y]? = some (.dic true false kvs) ∧ Kp y h h1 ∧ h1.length = h.length ∧ (∀ h' : Hs, h'[y]? = some (.dic true false kvs) → Rf.same g h') ∧ ∀ h' : Hs, h'[y]? = some (.dic true false kvs) → (endG g h').length = h'.length ∧ (endG g h')[y]? = some (.dic lk false kvs) ∧ ∀ i, i ≠ y → (endG g h')[i]? = h'[i]? := by
  cases lk with
  | true =>
    refine ⟨.keep y (.dic true false kvs), h, ?_, hy, Kp.refl, rfl, fun h' e => e, fun h' e => ⟨rfl, e, fun _ _ => rfl⟩⟩
    rw [hy]; rfl
  | false =>
    have yl := lk_lt hy
    refine ⟨.lock y false kvs, h.set y (.dic true false kvs), ?_, by simp [yl], Kp.set, by simp, fun h' e => e, fun h' e => ?_⟩
    · rw [hy]; rfl
    · have := lk_lt e
      refine ⟨by simp [endG], by simp [endG, this], fun i hi => ?_⟩
      simp only [endG]
      rw [List.getElem?_set_ne (Ne.symm hi)]
def Closed (tb : Tbl) : Prop := ∀ x ∈ tb, ∀ s, nmO x.2 = some s → s ∈ kys tb
theorem Closed.gt {tb : Tbl} (C : Closed tb) {s s' : LC} {u : T} (g : gt tb s = some u) (e : nmO u = some s') : s' ∈ kys tb := C _ (gt_key g).2 s' e
theorem ftA_none {ks : List LC} : ∀ {tb : Tbl}, ftA ks tb = none ↔ ∀ x ∈ tb, ftT ks x.2 = none
  | [] => by simp [ftA]
  | x :: r => by
    unfold ftA
    cases e : ftT ks x.2 with
    | some f => simp [e]
    | none => simp [e, ftA_none (tb := r)]
theorem closed_of {tb : Tbl} (h : ftA (kys tb) tb = none) : Closed tb := by
  intro x hx s e
  have := ftA_none.mp h x hx
  rw [ftT_nm e] at this
  unfold ftN at this
  by_cases hs : s ∈ kys tb
  · exact hs
  · rw [if_neg hs] at this; cases this
theorem Ld.nm {tb : Tbl} {t : T} {s : LC} {k : Nat} (e : nmO t = some s) (h : Ld tb t k) : Ld tb (.nm s) k := by
  cases h with
  | stop e' => rw [e] at e'; cases e'
  | step e' g l => rw [e] at e'; cases e'; exact .step rfl g l
theorem Ld.inv {tb : Tbl} {t u : T} {s : LC} {k : Nat} (e : nmO t = some s) (g : K08.gt tb s = some u) (h : Ld tb t k) : ∃ j, k = j + 1 ∧ Ld tb u j := by
  cases h with
  | stop e' => rw [e] at e'; cases e'
  | step e' g' l => rw [e] at e'; cases e'; rw [g] at g'; cases g'; exact ⟨_, rfl, l⟩
theorem lb_true {tb : Tbl} {s : LC} (h : LT tb (.nm s)) : lb tb s = true := by unfold lb; simpa using h
theorem lb_false {tb : Tbl} {s : LC} (h : ¬ LT tb (.nm s)) : lb tb s = false := by unfold lb; simpa using h
theorem kvMrg_cons (ks : List (D × D)) (p : D × D) (ls : List (D × D)) : kvMrg ks (p :: ls) = kvMrg (kvPut ks p.1 p.2) ls := rfl
theorem sd_mrg : ∀ (b a : List LC), b.Nodup → (∀ s ∈ b, s ∉ a) → kvMrg (sd a) (sd b) = sd (a ++ b)
  | [], a, _, _ => by simp [sd, kvMrg]
  | s :: b, a, nd, hd => by
    rw [List.nodup_cons] at nd
    show kvMrg (sd a) ((D.str s, D.bl true) :: sd b) = _
    rw [kvMrg_cons, sd_put (hd s List.mem_cons_self), sd_mrg b (a ++ [s]) nd.2]
    · simp
    · intro x hx
      simp only [List.mem_append, List.mem_singleton, not_or]
      refine ⟨hd x (List.mem_cons_of_mem _ hx), ?_⟩
      rintro rfl; exact nd.1 hx
variable {ws : List LC} {W : Wd} (hW : Has W) (hE : HasE W) (L : Nat)
include hW
/-! ### _law_leads -/
abbrev bodyL : List S := [.ife (.and (.cmp .ne (.ix (.var 2) (.cst (.int 0))) (.cst (.str ['n', 'a', 'm', 'e']))) (.cmp .ne (.ix (.var 2) (.cst (.int 0))) (.cst (.str ['d', 'u', 'a', 'l']))))
      [.ret (.cst (.bl true))]
      [],
    .set 2 (.ix (.var 0) (.ix (.var 2) (.cst (.int 1))))]
theorem leads_loop (cf : CF) (y : Nat) {lk : Bool} {tb : Tbl} (C : Closed tb) (h : Hs) (hy : h[y]? = some (.dic lk false (kvT tb))) (d1 : D) : ∀ (ds : List D) (t : T) (s3 : Option D), (∀ s, nmO t = some s → s ∈ kys tb) →
    (∀ k, Ld tb t k → k < ds.length → forI .none (fT W L cf (.nm 3) bodyL) ds [some (.ob y), some d1, some (toD t), s3] h = .ok (.rt (.bl true)) h) ∧
    (¬ LT tb t → ∃ σ', forI .none (fT W L cf (.nm 3) bodyL) ds [some (.ob y), some d1, some (toD t), s3] h = .ok (.nx σ') h) := by
  intro ds
  induction ds with
  | nil =>
    intro t s3 hc
    exact ⟨fun k _ hk => absurd hk (by simp), fun _ => ⟨_, forI_nil (by trivial)⟩⟩
  | cons d ds ih =>
    intro t s3 hc
    cases e : nmO t with
    | none =>
      have a1 : fT W L cf (.nm 3) bodyL d [some (.ob y), some d1, some (toD t), s3] h = .ok (.rt (.bl true)) h := by
        rw [fT_some (σ1 := [some (.ob y), some d1, some (toD t), some d]) rfl]
        cases t <;> simp [nmO] at e <;> simp [q_set, q_put, q_expr, q_ret, q_retN, q_ife, q_cons, q_nil, q_cst, q_bin, q_neg, q_cmp, q_and, q_or, q_not, q_eife, q_tup, q_lst, q_dic, q_ix, q_slc, q_cal, q_blt, q_enil, q_econs, q_met, q_raise, r_for, r_lc, r_var, r_ix_ob, r_sl_ob, r_put_ob, r_len_ob, r_tup_ob, r_lst_ob, r_addl, r_app, r_it_ob, r_in_ob, r_nin_ob, optI, Rf.start, toD, atI_0]
      exact ⟨fun k _ _ => forI_rtN a1, fun q => absurd ⟨0, .stop e⟩ q⟩
    | some s =>
      obtain ⟨u, g, _⟩ := gt_mem (hc s e)
      have a1 : fT W L cf (.nm 3) bodyL d [some (.ob y), some d1, some (toD t), s3] h = .ok (.nx [some (.ob y), some d1, some (toD u), some d]) h := by
        rw [fT_some (σ1 := [some (.ob y), some d1, some (toD t), some d]) rfl]
        cases t <;> simp [nmO] at e <;> subst e <;> simp [q_set, q_put, q_expr, q_ret, q_retN, q_ife, q_cons, q_nil, q_cst, q_bin, q_neg, q_cmp, q_and, q_or, q_not, q_eife, q_tup, q_lst, q_dic, q_ix, q_slc, q_cal, q_blt, q_enil, q_econs, q_met, q_raise, r_for, r_lc, r_var, r_ix_ob, r_sl_ob, r_put_ob, r_len_ob, r_tup_ob, r_lst_ob, r_addl, r_app, r_it_ob, r_in_ob, r_nin_ob, optI, Rf.start, toD, atI_0, atI_1, hy, kvT_okK, kvT_get, g]
      obtain ⟨i1, i2⟩ := ih u (some d) fun s' e' => C.gt g e'
      rw [forI_nxN a1]
      refine ⟨fun k hk hl => ?_, fun q => i2 fun p => q ((LT.step e g).mpr p)⟩
      obtain ⟨j, rfl, hj⟩ := hk.inv e g
      exact i1 j hj (by simp at hl; omega)
theorem leads_ok (N : Nat) (hN : 1 ≤ N) (y : Nat) {lk : Bool} {tb : Tbl} (n3 : tb.length ≤ 3) (C : Closed tb) (h : Hs) (hy : h[y]? = some (.dic lk false (kvT tb))) {s : LC} (hs : s ∈ kys tb) : callF W L N 12 [.ob y, .str s] h = .ok (.bl (lb tb s)) h := by
  obtain ⟨M, rfl⟩ : ∃ M, N = M + 1 := ⟨N - 1, by omega⟩
  rw [callF_s (hW 12 _ (by decide) rfl) rfl]
  obtain ⟨u, g, _⟩ := gt_mem hs
  have es : Rf.start f__law_leads.ns [D.ob y, .str s] = [some (.ob y), some (.str s), none, none] := rfl
  have eb : f__law_leads.body = [.set 2 (.ix (.var 0) (.var 1)), .for_ (.nm 3) .rng1 [(.bin .add (.blt .len [(.var 0)]) (.cst (.int 1)))] bodyL, .ret (.cst (.bl false))] := rfl
  have s1 : evalS W L (callF W L M) none (.set 2 (.ix (.var 0) (.var 1))) [some (.ob y), some (.str s), none, none] h = .ok (.nx [some (.ob y), some (.str s), some (toD u), none]) h := by
    simp [q_set, q_put, q_expr, q_ret, q_retN, q_ife, q_cons, q_nil, q_cst, q_bin, q_neg, q_cmp, q_and, q_or, q_not, q_eife, q_tup, q_lst, q_dic, q_ix, q_slc, q_cal, q_blt, q_enil, q_econs, q_met, q_raise, r_for, r_lc, r_var, r_ix_ob, r_sl_ob, r_put_ob, r_len_ob, r_tup_ob, r_lst_ob, r_addl, r_app, r_it_ob, r_in_ob, r_nin_ob, optI, Rf.start, hy, kvT_okK, kvT_get, g]
  have it : evalEs W (callF W L M) none [(.bin .add (.blt .len [(.var 0)]) (.cst (.int 1)))] [some (.ob y), some (.str s), some (toD u), none] h = .ok [.int (tb.length + 1)] h := by
    simp [q_set, q_put, q_expr, q_ret, q_retN, q_ife, q_cons, q_nil, q_cst, q_bin, q_neg, q_cmp, q_and, q_or, q_not, q_eife, q_tup, q_lst, q_dic, q_ix, q_slc, q_cal, q_blt, q_enil, q_econs, q_met, q_raise, r_for, r_lc, r_var, r_ix_ob, r_sl_ob, r_put_ob, r_len_ob, r_tup_ob, r_lst_ob, r_addl, r_app, r_it_ob, r_in_ob, r_nin_ob, optI, Rf.start, hy, kvT_len]
  obtain ⟨i1, i2⟩ := leads_loop hW L (callF W L M) y C h hy (.str s) ((List.range ((tb.length : Int) + 1).toNat).map fun (i : Nat) => D.int (i : Int)) u none fun s' e' => C.gt g e'
  rw [es, eb, q_cons, s1, RS.then_nx, q_cons, r_for, it, R.stm_ok, rng_small (by omega) (by omega), ofO_some, R.stm_ok]
  dsimp only
  by_cases q : LT tb (.nm s)
  · rw [lb_true q]
    obtain ⟨k, hk⟩ := (LT.step (t := .nm s) rfl g).mp q
    have := hk.short
    rw [i1 k hk (by simp; omega)]
    rfl
  · rw [lb_false q]
    obtain ⟨σ', e⟩ := i2 fun p => q ((LT.step (t := .nm s) rfl g).mpr p)
    rw [e, RS.then_nx]
    simp [q_set, q_put, q_expr, q_ret, q_retN, q_ife, q_cons, q_nil, q_cst, q_bin, q_neg, q_cmp, q_and, q_or, q_not, q_eife, q_tup, q_lst, q_dic, q_ix, q_slc, q_cal, q_blt, q_enil, q_econs, q_met, q_raise, r_for, r_lc, r_var, r_ix_ob, r_sl_ob, r_put_ob, r_len_ob, r_tup_ob, r_lst_ob, r_addl, r_app, r_it_ob, r_in_ob, r_nin_ob, optI, Rf.start]
/-! ### endless_name -/
abbrev condW : E := .and (.cal 11 [(.var 4)]) (.cmp .nin (.ix (.var 4) (.cst (.int 1))) (.var 1))
abbrev bodyW : List S := [.ife (.cmp .in_ (.ix (.var 4) (.cst (.int 1))) (.var 3))
        [.ret (.var 2)]
        [],
      .put (.var 3) (.ix (.var 4) (.cst (.int 1))) (.cst (.bl true)),
      .set 4 (.ix (.var 0) (.ix (.var 4) (.cst (.int 1))))]
noncomputable abbrev cW (W : Wd) (L M : Nat) : Sg → Hs → R Bool := fun σ h => (evalE W (callF W L M) none condW σ h).bind fun x h => truthR x h
noncomputable abbrev bW (W : Wd) (L M : Nat) : Sg → Hs → RS := evalB W L (callF W L M) none bodyW
theorem end_while (M : Nat) (hM : 1 ≤ M) (y a b : Nat) (hya : y ≠ a) (hyb : y ≠ b) (hab : a ≠ b) {lk : Bool} {tb : Tbl} (n3 : tb.length ≤ 3) (C : Closed tb) (se : List LC) (hse : ∀ s ∈ se, LT tb (.nm s)) (x : LC) :
    ∀ (Lf : Nat) (pl : List LC) (t : T) (h : Hs), tb.length + 1 ≤ Lf + pl.length → h[y]? = some (.dic lk false (kvT tb)) → h[a]? = some (.dic false false (sd se)) → h[b]? = some (.dic false false (sd pl)) →
    pl.Nodup → (∀ s ∈ pl, s ∈ kys tb ∧ s ∉ se) → (∀ s, nmO t = some s → s ∈ kys tb) → (∀ s ∈ pl, ∀ k, Ld tb (.nm s) k → ∃ j, j < k ∧ Ld tb t j) → (∀ s ∈ pl, LT tb t → LT tb (.nm s)) → (LT tb (.nm x) ↔ LT tb t) →
    ∃ h', Kp b h h' ∧ ((¬ LT tb (.nm x) ∧ whileI (cW W L M) (bW W L M) Lf [some (.ob y), some (.ob a), some (.str x), some (.ob b), some (toD t)] h = .ok (.rt (.str x)) h') ∨
      (LT tb (.nm x) ∧ ∃ (pl' : List LC) (s4 : Option D), whileI (cW W L M) (bW W L M) Lf [some (.ob y), some (.ob a), some (.str x), some (.ob b), some (toD t)] h = .ok (.nx [some (.ob y), some (.ob a), some (.str x), some (.ob b), s4]) h' ∧ h'[b]? = some (.dic false false (sd pl')) ∧ pl'.Nodup ∧ ∀ s ∈ pl', (s ∈ kys tb ∧ s ∉ se) ∧ LT tb (.nm s))) := by
  intro Lf
  induction Lf with
  | zero =>
    intro pl t h hL hy ha hb nd hp hc i1 i2 i3
    have := nodupLen nd fun s hs => (hp s hs).1
    simp only [kys, List.length_map] at this; omega
  | succ Lf ih =>
    intro pl t h hL hy ha hb nd hp hc i1 i2 i3
    have st := stN hW L M hM t h
    rw [nmO_isN] at st
    have stop : LT tb t → cW W L M [some (.ob y), some (.ob a), some (.str x), some (.ob b), some (toD t)] h = .ok false h →
        ∃ h', Kp b h h' ∧ ((¬ LT tb (.nm x) ∧ whileI (cW W L M) (bW W L M) (Lf + 1) [some (.ob y), some (.ob a), some (.str x), some (.ob b), some (toD t)] h = .ok (.rt (.str x)) h') ∨
          (LT tb (.nm x) ∧ ∃ (pl' : List LC) (s4 : Option D), whileI (cW W L M) (bW W L M) (Lf + 1) [some (.ob y), some (.ob a), some (.str x), some (.ob b), some (toD t)] h = .ok (.nx [some (.ob y), some (.ob a), some (.str x), some (.ob b), s4]) h' ∧ h'[b]? = some (.dic false false (sd pl')) ∧ pl'.Nodup ∧ ∀ s ∈ pl', (s ∈ kys tb ∧ s ∉ se) ∧ LT tb (.nm s))) := by
      intro lt ec
      refine ⟨h, Kp.refl, .inr ⟨i3.mpr lt, pl, some (toD t), ?_, hb, nd, fun s hs => ⟨hp s hs, i2 s hs lt⟩⟩⟩
      unfold whileI
      rw [ec, R.stm_ok]
      rfl
    cases e : nmO t with
    | none =>
      rw [e] at st
      refine stop ⟨0, .stop e⟩ ?_
      show (evalE W (callF W L M) none condW _ h).bind (fun x h => truthR x h) = _
      have st' : callF W L M 11 [toD t] h = .ok (.bl false) h := st
      simp [q_set, q_put, q_expr, q_ret, q_retN, q_ife, q_cons, q_nil, q_cst, q_bin, q_neg, q_cmp, q_and, q_or, q_not, q_eife, q_tup, q_lst, q_dic, q_ix, q_slc, q_cal, q_blt, q_enil, q_econs, q_met, q_raise, r_for, r_lc, r_var, r_ix_ob, r_sl_ob, r_put_ob, r_len_ob, r_tup_ob, r_lst_ob, r_addl, r_app, r_it_ob, r_in_ob, r_nin_ob, optI, Rf.start, st']
    | some s =>
      rw [e] at st
      have st' : callF W L M 11 [toD t] h = .ok (.bl true) h := st
      obtain ⟨z, et⟩ := nmO_at e
      have g1 := sd_get se s
      by_cases hs : s ∈ se
      · refine stop ((LT.nm e).mpr (hse s hs)) ?_
        rw [decide_eq_true hs] at g1
        show (evalE W (callF W L M) none condW _ h).bind (fun x h => truthR x h) = _
        rw [et] at st' ⊢
        simp [q_set, q_put, q_expr, q_ret, q_retN, q_ife, q_cons, q_nil, q_cst, q_bin, q_neg, q_cmp, q_and, q_or, q_not, q_eife, q_tup, q_lst, q_dic, q_ix, q_slc, q_cal, q_blt, q_enil, q_econs, q_met, q_raise, r_for, r_lc, r_var, r_ix_ob, r_sl_ob, r_put_ob, r_len_ob, r_tup_ob, r_lst_ob, r_addl, r_app, r_it_ob, r_in_ob, r_nin_ob, optI, Rf.start, st', atI_1, ha, sd_okK, g1]
      · rw [decide_eq_false hs] at g1
        have g1' : kvGet (sd se) (.str s) = none := by simpa using g1
        have ec : cW W L M [some (.ob y), some (.ob a), some (.str x), some (.ob b), some (toD t)] h = .ok true h := by
          show (evalE W (callF W L M) none condW _ h).bind (fun x h => truthR x h) = _
          rw [et] at st' ⊢
          simp [q_set, q_put, q_expr, q_ret, q_retN, q_ife, q_cons, q_nil, q_cst, q_bin, q_neg, q_cmp, q_and, q_or, q_not, q_eife, q_tup, q_lst, q_dic, q_ix, q_slc, q_cal, q_blt, q_enil, q_econs, q_met, q_raise, r_for, r_lc, r_var, r_ix_ob, r_sl_ob, r_put_ob, r_len_ob, r_tup_ob, r_lst_ob, r_addl, r_app, r_it_ob, r_in_ob, r_nin_ob, optI, Rf.start, st', atI_1, ha, sd_okK, g1']
        have g2 := sd_get pl s
        by_cases hq : s ∈ pl
        · rw [decide_eq_true hq] at g2
          refine ⟨h, Kp.refl, .inl ⟨fun q => ?_, ?_⟩⟩
          · obtain ⟨k, hk⟩ := i3.mp q
            obtain ⟨j, hj, hl⟩ := i1 s hq k (hk.nm e)
            have := hk.det hl; omega
          · unfold whileI
            have eb : bW W L M [some (.ob y), some (.ob a), some (.str x), some (.ob b), some (toD t)] h = .ok (.rt (.str x)) h := by
              rw [et]
              simp [q_set, q_put, q_expr, q_ret, q_retN, q_ife, q_cons, q_nil, q_cst, q_bin, q_neg, q_cmp, q_and, q_or, q_not, q_eife, q_tup, q_lst, q_dic, q_ix, q_slc, q_cal, q_blt, q_enil, q_econs, q_met, q_raise, r_for, r_lc, r_var, r_ix_ob, r_sl_ob, r_put_ob, r_len_ob, r_tup_ob, r_lst_ob, r_addl, r_app, r_it_ob, r_in_ob, r_nin_ob, optI, Rf.start, atI_1, hb, sd_okK, g2]
            rw [ec, R.stm_ok, if_pos rfl, eb]
        · rw [decide_eq_false hq] at g2
          have g2' : kvGet (sd pl) (.str s) = none := by simpa using g2
          obtain ⟨u, g, _⟩ := gt_mem (hc s e)
          have bl := lk_lt hb
          have pll : (sd pl).length < 16777216 := by
            have := nodupLen nd fun s hs => (hp s hs).1
            simp only [kys, List.length_map] at this
            rw [sd_len]; omega
          have k1 : Kp b h (h.set b (.dic false false (sd (pl ++ [s])))) := Kp.set
          have hy2 := k1.2 y _ hyb hy
          have ha2 := k1.2 a _ hab ha
          have hb2 : (h.set b (.dic false false (sd (pl ++ [s]))))[b]? = some (.dic false false (sd (pl ++ [s]))) := by simp [bl]
          have eb : bW W L M [some (.ob y), some (.ob a), some (.str x), some (.ob b), some (toD t)] h = .ok (.nx [some (.ob y), some (.ob a), some (.str x), some (.ob b), some (toD u)]) (h.set b (.dic false false (sd (pl ++ [s])))) := by
            rw [et]
            simp [q_set, q_put, q_expr, q_ret, q_retN, q_ife, q_cons, q_nil, q_cst, q_bin, q_neg, q_cmp, q_and, q_or, q_not, q_eife, q_tup, q_lst, q_dic, q_ix, q_slc, q_cal, q_blt, q_enil, q_econs, q_met, q_raise, r_for, r_lc, r_var, r_ix_ob, r_sl_ob, r_put_ob, r_len_ob, r_tup_ob, r_lst_ob, r_addl, r_app, r_it_ob, r_in_ob, r_nin_ob, optI, Rf.start, atI_1, hb, sd_okK, g2', pll, sd_put hq, hy2, kvT_okK, kvT_get, g, sizeLine]
          obtain ⟨h', kk, q⟩ := ih (pl ++ [s]) u (h.set b (.dic false false (sd (pl ++ [s])))) (by simp; omega) hy2 ha2 hb2
            (by
              rw [List.nodup_append]
              refine ⟨nd, by simp, fun c hc' d hd => ?_⟩
              rw [List.mem_singleton] at hd; subst hd
              rintro rfl; exact hq hc')
            (fun s' hs' => by
              rcases List.mem_append.mp hs' with hs' | hs'
              · exact hp s' hs'
              · rw [List.mem_singleton] at hs'; subst hs'; exact ⟨hc _ e, hs⟩)
            (fun s' e' => C.gt g e')
            (fun s' hs' k hk => by
              rcases List.mem_append.mp hs' with hs' | hs'
              · obtain ⟨j, hj, hl⟩ := i1 s' hs' k hk
                obtain ⟨j', rfl, hl'⟩ := hl.inv e g
                exact ⟨j', by omega, hl'⟩
              · rw [List.mem_singleton] at hs'; subst hs'
                obtain ⟨j', rfl, hl'⟩ := hk.inv rfl g
                exact ⟨j', by omega, hl'⟩)
            (fun s' hs' lu => by
              have lt := (LT.step e g).mpr lu
              rcases List.mem_append.mp hs' with hs' | hs'
              · exact i2 s' hs' lt
              · rw [List.mem_singleton] at hs'; subst hs'
                exact (LT.nm e).mp lt)
            (i3.trans (LT.step e g))
          refine ⟨h', k1.trans kk, ?_⟩
          unfold whileI
          rw [ec, R.stm_ok, if_pos rfl, eb]
          exact q
abbrev bodyE : List S := [.set 3 (.dic false [] []),
    .set 4 (.tup [(.cst (.str ['n', 'a', 'm', 'e'])), (.var 2)]),
    .whl condW bodyW,
    .expr (.met (.var 1) "update" [(.var 3)])]
def eD : Option LC → D
  | none => .non
  | some s => .str s
theorem end_loop (hL : 4 ≤ L) (M : Nat) (hM : 1 ≤ M) (y a : Nat) (hya : y ≠ a) {tb : Tbl} (n3 : tb.length ≤ 3) (C : Closed tb) (g : Gd) (hg : ∀ h' : Hs, h'[y]? = some (.dic true false (kvT tb)) → Rf.same g h') :
    ∀ (xs : List LC), (∀ x ∈ xs, x ∈ kys tb) → ∀ (se : List LC) (s2 s3 s4 : Option D) (h : Hs), se.Nodup → (∀ s ∈ se, s ∈ kys tb ∧ LT tb (.nm s)) → h[y]? = some (.dic true false (kvT tb)) → h[a]? = some (.dic false false (sd se)) →
    ∃ h', Kp a h h' ∧ ((xs.find? (fun s => !lb tb s) = none ∧ ∃ σ', forI g (fT W L (callF W L M) (.nm 2) bodyE) (xs.map D.str) [some (.ob y), some (.ob a), s2, s3, s4] h = .ok (.nx σ') (endG g h')) ∨
      ∃ x, xs.find? (fun s => !lb tb s) = some x ∧ forI g (fT W L (callF W L M) (.nm 2) bodyE) (xs.map D.str) [some (.ob y), some (.ob a), s2, s3, s4] h = .ok (.rt (.str x)) (endG g h')) := by
  intro xs
  induction xs with
  | nil =>
    intro hx se s2 s3 s4 h nd hse hy ha
    exact ⟨h, Kp.refl, .inl ⟨rfl, _, forI_nil (hg h hy)⟩⟩
  | cons x xs ih =>
    intro hx se s2 s3 s4 h nd hse hy ha
    have hy1 : (h ++ [MO.dic false false []])[y]? = some (.dic true false (kvT tb)) := lk_app hy
    have ha1 : (h ++ [MO.dic false false []])[a]? = some (.dic false false (sd se)) := lk_app ha
    have yl := lk_lt hy
    have al := lk_lt ha
    obtain ⟨h2, k2, q⟩ := end_while hW L M hM y a h.length hya (by omega) (by omega) n3 C se (fun s hs => (hse s hs).2) x L [] (.nm x) (h ++ [.dic false false []]) (by simp; omega) hy1 ha1 lk_new (by simp) (by simp)
      (fun s e => by simp only [nmO, Option.some.injEq] at e; subst e; exact hx _ List.mem_cons_self) (by simp) (by simp) Iff.rfl
    have hy2 := k2.2 y _ (by omega) hy1
    have ha2 := k2.2 a _ (by omega) ha1
    have p1 : evalS W L (callF W L M) none (.set 3 (.dic false [] [])) [some (.ob y), some (.ob a), some (.str x), s3, s4] h = .ok (.nx [some (.ob y), some (.ob a), some (.str x), some (.ob h.length), s4]) (h ++ [.dic false false []]) := by simp [q_set, q_put, q_expr, q_ret, q_retN, q_ife, q_cons, q_nil, q_cst, q_bin, q_neg, q_cmp, q_and, q_or, q_not, q_eife, q_tup, q_lst, q_dic, q_ix, q_slc, q_cal, q_blt, q_enil, q_econs, q_met, q_raise, r_for, r_lc, r_var, r_ix_ob, r_sl_ob, r_put_ob, r_len_ob, r_tup_ob, r_lst_ob, r_addl, r_app, r_it_ob, r_in_ob, r_nin_ob, optI, Rf.start]
    have p2 : evalS W L (callF W L M) none (.set 4 (.tup [(.cst (.str ['n', 'a', 'm', 'e'])), (.var 2)])) [some (.ob y), some (.ob a), some (.str x), some (.ob h.length), s4] (h ++ [.dic false false []]) = .ok (.nx [some (.ob y), some (.ob a), some (.str x), some (.ob h.length), some (toD (.nm x))]) (h ++ [.dic false false []]) := by simp [q_set, q_put, q_expr, q_ret, q_retN, q_ife, q_cons, q_nil, q_cst, q_bin, q_neg, q_cmp, q_and, q_or, q_not, q_eife, q_tup, q_lst, q_dic, q_ix, q_slc, q_cal, q_blt, q_enil, q_econs, q_met, q_raise, r_for, r_lc, r_var, r_ix_ob, r_sl_ob, r_put_ob, r_len_ob, r_tup_ob, r_lst_ob, r_addl, r_app, r_it_ob, r_in_ob, r_nin_ob, optI, Rf.start, toD, sizeLine]
    have k12 : Kx h h2 := Kx.of_new Kx.app (Nat.le_refl _) k2
    rcases q with ⟨nl, ew⟩ | ⟨ll, pl, s4', ew, hb2, ndp, hpl⟩
    · refine ⟨h2, k12.kp, .inr ⟨x, by simp [lb_false nl], ?_⟩⟩
      rw [List.map_cons, forI_rtG (hg h hy) (hg h2 hy2)]
      rw [fT_some (σ1 := [some (.ob y), some (.ob a), some (.str x), s3, s4]) rfl]
      rw [q_cons, p1, RS.then_nx, q_cons, p2, RS.then_nx, q_cons, r_whl]
      rw [ew, RS.then_rt]
    · have al2 := lk_lt ha2
      have nd3 : (se ++ pl).Nodup := by
        rw [List.nodup_append]
        refine ⟨nd, ndp, fun c hc d hd => ?_⟩
        rintro rfl
        exact (hpl c hd).1.2 hc
      have sub3 : ∀ s ∈ se ++ pl, s ∈ kys tb ∧ LT tb (.nm s) := by
        intro s hs
        rcases List.mem_append.mp hs with hs | hs
        · exact hse s hs
        · exact ⟨(hpl s hs).1.1, (hpl s hs).2⟩
      have ln := nodupLen nd3 fun s hs => (sub3 s hs).1
      simp only [kys, List.length_map, List.length_append] at ln
      have k3 : Kp a h2 (h2.set a (.dic false false (sd (se ++ pl)))) := Kp.set
      have hy3 := k3.2 y _ hya hy2
      have ha3 : (h2.set a (.dic false false (sd (se ++ pl))))[a]? = some (.dic false false (sd (se ++ pl))) := by simp [al2]
      have p4 : evalS W L (callF W L M) none (.expr (.met (.var 1) "update" [(.var 3)])) [some (.ob y), some (.ob a), some (.str x), some (.ob h.length), s4'] h2 = .ok (.nx [some (.ob y), some (.ob a), some (.str x), some (.ob h.length), s4']) (h2.set a (.dic false false (sd (se ++ pl)))) := by
        have e1 := r_update (ks := sd se) (ls := sd pl) ha2 hb2 (by omega) (by rw [sd_len, sd_len]; simp only [sizeLine]; omega)
        rw [sd_mrg pl se ndp fun s hs => (hpl s hs).1.2] at e1
        simp [q_set, q_put, q_expr, q_ret, q_retN, q_ife, q_cons, q_nil, q_cst, q_bin, q_neg, q_cmp, q_and, q_or, q_not, q_eife, q_tup, q_lst, q_dic, q_ix, q_slc, q_cal, q_blt, q_enil, q_econs, q_met, q_raise, r_for, r_lc, r_var, r_ix_ob, r_sl_ob, r_put_ob, r_len_ob, r_tup_ob, r_lst_ob, r_addl, r_app, r_it_ob, r_in_ob, r_nin_ob, optI, Rf.start, r_metupd ha2, e1]
      obtain ⟨h4, k4, q⟩ := ih (fun z hz => hx z (List.mem_cons_of_mem _ hz)) (se ++ pl) (some (.str x)) (some (.ob h.length)) s4' (h2.set a (.dic false false (sd (se ++ pl)))) nd3 sub3 hy3 ha3
      have fe : (x :: xs).find? (fun s => !lb tb s) = xs.find? (fun s => !lb tb s) := by simp [lb_true ll]
      refine ⟨h4, k12.kp.trans (k3.trans k4), ?_⟩
      rw [fe, List.map_cons, forI_nx (hg h hy) (h' := h2.set a (.dic false false (sd (se ++ pl)))) (σ' := [some (.ob y), some (.ob a), some (.str x), some (.ob h.length), s4'])]
      · exact q
      · rw [fT_some (σ1 := [some (.ob y), some (.ob a), some (.str x), s3, s4]) rfl]
        rw [q_cons, p1, RS.then_nx, q_cons, p2, RS.then_nx, q_cons, r_whl]
        rw [ew, RS.then_nx, q_cons, p4, RS.then_nx, q_nil]
theorem endless_ok (hL : 4 ≤ L) (N : Nat) (hN : 2 ≤ N) (y : Nat) {lk : Bool} {tb : Tbl} (n3 : tb.length ≤ 3) (C : Closed tb) (h : Hs) (hy : h[y]? = some (.dic lk false (kvT tb))) :
    ∃ h', callF W L N 16 [.ob y] h = .ok (eD ((kys tb).find? fun s => !lb tb s)) h' ∧ Kx h h' := by
  obtain ⟨M, rfl⟩ : ∃ M, N = M + 1 := ⟨N - 1, by omega⟩
  rw [callF_s (hW 16 _ (by decide) rfl) rfl]
  have yl := lk_lt hy
  have hy1 : (h ++ [MO.dic false false []])[y]? = some (.dic lk false (kvT tb)) := lk_app hy
  obtain ⟨g, h1, e1, ey, k1, l1, hg, he⟩ := it_dict hy1
  have a1 : h1[h.length]? = some (.dic false false (sd [])) := k1.2 _ _ (by omega) lk_new
  obtain ⟨h2, k2, q⟩ := end_loop hW L hL M (by omega) y h.length (by omega) n3 C g hg (kys tb) (fun x hx => hx) [] none none none h1 (by simp) (by simp) ey a1
  have es : Rf.start f_endless_name.ns [D.ob y] = [some (.ob y), none, none, none, none] := rfl
  have eb : f_endless_name.body = [.set 1 (.dic false [] []), .for_ (.nm 2) .seq [(.var 0)] bodyE, .ret (.cst .non)] := rfl
  have s1 : evalS W L (callF W L M) none (.set 1 (.dic false [] [])) [some (.ob y), none, none, none, none] h = .ok (.nx [some (.ob y), some (.ob h.length), none, none, none]) (h ++ [.dic false false []]) := by simp [q_set, q_put, q_expr, q_ret, q_retN, q_ife, q_cons, q_nil, q_cst, q_bin, q_neg, q_cmp, q_and, q_or, q_not, q_eife, q_tup, q_lst, q_dic, q_ix, q_slc, q_cal, q_blt, q_enil, q_econs, q_met, q_raise, r_for, r_lc, r_var, r_ix_ob, r_sl_ob, r_put_ob, r_len_ob, r_tup_ob, r_lst_ob, r_addl, r_app, r_it_ob, r_in_ob, r_nin_ob, optI, Rf.start]
  have it : evalEs W (callF W L M) none [(.var 0)] [some (.ob y), some (.ob h.length), none, none, none] (h ++ [.dic false false []]) = .ok [.ob y] (h ++ [.dic false false []]) := by simp [q_set, q_put, q_expr, q_ret, q_retN, q_ife, q_cons, q_nil, q_cst, q_bin, q_neg, q_cmp, q_and, q_or, q_not, q_eife, q_tup, q_lst, q_dic, q_ix, q_slc, q_cal, q_blt, q_enil, q_econs, q_met, q_raise, r_for, r_lc, r_var, r_ix_ob, r_sl_ob, r_put_ob, r_len_ob, r_tup_ob, r_lst_ob, r_addl, r_app, r_it_ob, r_in_ob, r_nin_ob, optI, Rf.start]
  have hy2 := k2.2 y _ (by omega) ey
  obtain ⟨f1, f2, f3⟩ := he h2 hy2
  have kk : Kx h (endG g h2) := by
    refine ⟨?_, fun i mo e => ?_⟩
    · have := k2.1
      rw [f1]; rw [l1, List.length_append] at this; simp at this; omega
    · have il := lk_lt e
      by_cases hi : i = y
      · subst hi
        rw [hy] at e; cases e
        exact f2
      · rw [f3 i hi]
        exact k2.2 i mo (by omega) (k1.2 i mo hi (lk_app e))
  refine ⟨endG g h2, ?_, kk⟩
  rw [es, eb, q_cons, s1, RS.then_nx, q_cons, r_for, it, R.stm_ok, r_it_ob, e1, kvT_keys, ofO_some, R.stm_ok]
  dsimp only
  rcases q with ⟨q1, σ', q2⟩ | ⟨x, q1, q2⟩
  · rw [q1, q2, RS.then_nx]
    simp [q_set, q_put, q_expr, q_ret, q_retN, q_ife, q_cons, q_nil, q_cst, q_bin, q_neg, q_cmp, q_and, q_or, q_not, q_eife, q_tup, q_lst, q_dic, q_ix, q_slc, q_cal, q_blt, q_enil, q_econs, q_met, q_raise, r_for, r_lc, r_var, r_ix_ob, r_sl_ob, r_put_ob, r_len_ob, r_tup_ob, r_lst_ob, r_addl, r_app, r_it_ob, r_in_ob, r_nin_ob, optI, Rf.start, eD]
  · rw [q1, q2, RS.then_rt]
    rfl
end K08
end

section
namespace K08
open PySem PySem.Spec PyProof.Rows L2 Rf
theorem gt_nd : ∀ {tb : Tbl}, (kys tb).Nodup → ∀ x ∈ tb, gt tb x.1 = some x.2 := by
  intro tb
  induction tb with
  | nil => intro _ x hx; cases hx
  | cons y r ih =>
    intro nd x hx
    have nd' : y.1 ∉ kys r ∧ (kys r).Nodup := List.nodup_cons.mp nd
    unfold gt
    rcases List.mem_cons.mp hx with rfl | hx
    · simp
    · have : y.1 ≠ x.1 := fun q => nd'.1 (q ▸ List.mem_map.mpr ⟨x, hx, rfl⟩)
      rw [if_neg this]
      exact ih nd'.2 x hx
/-- what stays, a dict's lock aside -/
def Kl (y : Nat) (kvs : List (D × D)) (h h' : Hs) : Prop := Kp y h h' ∧ ∃ lk, h'[y]? = some (.dic lk false kvs)
theorem Kx.kl {y : Nat} {kvs : List (D × D)} {lk : Bool} {h h' : Hs} (k : Kx h h') (hy : h[y]? = some (.dic lk false kvs)) : Kl y kvs h h' := ⟨k.kp, lk, k.2 _ _ hy⟩
variable {ws : List LC} {W : Wd} (hW : Has W) (hE : HasE W) (L : Nat)
include hW
section
include hE
abbrev bodyC : List S := [.expr (.cal 18 [(.var 0), (.ix (.var 0) (.var 1))])]
theorem ct_loop {bb : Nat} (hb : bb ≤ 4) (M : Nat) (hM : 4 ≤ M) (y : Nat) {tb : Tbl} (g : Gd) (hg : ∀ h' : Hs, h'[y]? = some (.dic true false (kvT tb)) → Rf.same g h') :
    ∀ (xs : Tbl), (∀ x ∈ xs, gt tb x.1 = some x.2 ∧ wT ws bb x.2 2) → ∀ (s1 s2 : Option D) (h : Hs), h[y]? = some (.dic true false (kvT tb)) →
    ∃ h' σ', Kx h h' ∧ ((ftA (kys tb) xs = none ∧ ∃ s1' : Option D, forI g (fT W L (callF W L M) (.nm 1) bodyC) ((kys xs).map D.str) [some (.ob y), s1, s2] h = .ok (.nx [some (.ob y), s1', s2]) (endG g h')) ∨
      ∃ f, ftA (kys tb) xs = some f ∧ forI g (fT W L (callF W L M) (.nm 1) bodyC) ((kys xs).map D.str) [some (.ob y), s1, s2] h = .exc f.c [("name", .str f.s)] σ' h') := by
  intro xs
  induction xs with
  | nil =>
    intro hx s1 s2 h hy
    exact ⟨h, [], Kx.refl, .inl ⟨rfl, s1, forI_nil (hg h hy)⟩⟩
  | cons x xs ih =>
    intro hx s1 s2 h hy
    obtain ⟨g1, w1⟩ := hx x List.mem_cons_self
    obtain ⟨h2, e2, k2⟩ := check_ok hW hE L hb y tb 2 M hM x.2 w1 true h hy
    have ek : (kys (x :: xs)).map D.str = .str x.1 :: (kys xs).map D.str := rfl
    rw [ek]
    cases e3 : ftT (kys tb) x.2 with
    | some f =>
      rw [e3] at e2
      refine ⟨h2, [some (.ob y), some (.str x.1), s2], k2, .inr ⟨f, by simp only [ftA, e3], ?_⟩⟩
      rw [forI_exc (hg h hy)]
      rw [fT_some (σ1 := [some (.ob y), some (.str x.1), s2]) rfl]
      simp [q_set, q_put, q_expr, q_ret, q_retN, q_ife, q_cons, q_nil, q_cst, q_bin, q_neg, q_cmp, q_and, q_or, q_not, q_eife, q_tup, q_lst, q_dic, q_ix, q_slc, q_cal, q_blt, q_enil, q_econs, q_met, q_raise, r_for, r_lc, r_var, r_ix_ob, r_sl_ob, r_put_ob, r_len_ob, r_tup_ob, r_lst_ob, r_addl, r_app, r_it_ob, r_in_ob, r_nin_ob, optI, Rf.start, hy, kvT_okK, kvT_get, g1, e2, ctR]
    | none =>
      rw [e3] at e2
      obtain ⟨h3, σ', k3, q⟩ := ih (fun z hz => hx z (List.mem_cons_of_mem _ hz)) (some (.str x.1)) s2 h2 (k2.2 _ _ hy)
      refine ⟨h3, σ', k2.trans k3, ?_⟩
      have ef : ftA (kys tb) (x :: xs) = ftA (kys tb) xs := by simp only [ftA, e3]
      rw [ef, forI_nx (hg h hy) (h' := h2) (σ' := [some (.ob y), some (.str x.1), s2])]
      · exact q
      · rw [fT_some (σ1 := [some (.ob y), some (.str x.1), s2]) rfl]
        simp [q_set, q_put, q_expr, q_ret, q_retN, q_ife, q_cons, q_nil, q_cst, q_bin, q_neg, q_cmp, q_and, q_or, q_not, q_eife, q_tup, q_lst, q_dic, q_ix, q_slc, q_cal, q_blt, q_enil, q_econs, q_met, q_raise, r_for, r_lc, r_var, r_ix_ob, r_sl_ob, r_put_ob, r_len_ob, r_tup_ob, r_lst_ob, r_addl, r_app, r_it_ob, r_in_ob, r_nin_ob, optI, Rf.start, hy, kvT_okK, kvT_get, g1, e2, ctR]
noncomputable def tbR (tb : Tbl) (h : Hs) : R D := match ftA (kys tb) tb with
  | some f => .exc f.c [("name", .str f.s)] h
  | none => match (kys tb).find? fun s => !lb tb s with
    | some s => .exc 3 [("why", .str s)] h
    | none => .ok .non h
theorem ct_ok {bb : Nat} (hb : bb ≤ 4) (hL : 4 ≤ L) (N : Nat) (hN : 5 ≤ N) (y : Nat) {lk : Bool} {tb : Tbl} (B : WB ws bb tb) (h : Hs) (hy : h[y]? = some (.dic lk false (kvT tb))) :
    ∃ h', callF W L N 17 [.ob y] h = tbR tb h' ∧ Kl y (kvT tb) h h' := by
  obtain ⟨M, rfl⟩ : ∃ M, N = M + 1 := ⟨N - 1, by omega⟩
  rw [callF_s (hW 17 _ (by decide) rfl) rfl]
  obtain ⟨g, h1, e1, ey, k1, l1, hg, he⟩ := it_dict hy
  obtain ⟨h2, σ', k2, q⟩ := ct_loop hW hE L hb M (by omega) y g hg tb (fun x hx => ⟨gt_nd B.nd x hx, B.ent x hx⟩) none none h1 ey
  have ey2 := k2.2 _ _ ey
  obtain ⟨f1, f2, f3⟩ := he h2 ey2
  have es : Rf.start f_check_table.ns [D.ob y] = [some (.ob y), none, none] := rfl
  have eb : f_check_table.body = [.for_ (.nm 1) .seq [(.var 0)] bodyC, .set 2 (.cal 16 [(.var 0)]), .ife (.cmp .isn (.var 2) (.cst .non)) [.raise 3 [(.var 2)]] []] := rfl
  have it : evalEs W (callF W L M) none [(.var 0)] [some (.ob y), none, none] h = .ok [.ob y] h := by simp [q_set, q_put, q_expr, q_ret, q_retN, q_ife, q_cons, q_nil, q_cst, q_bin, q_neg, q_cmp, q_and, q_or, q_not, q_eife, q_tup, q_lst, q_dic, q_ix, q_slc, q_cal, q_blt, q_enil, q_econs, q_met, q_raise, r_for, r_lc, r_var, r_ix_ob, r_sl_ob, r_put_ob, r_len_ob, r_tup_ob, r_lst_ob, r_addl, r_app, r_it_ob, r_in_ob, r_nin_ob, optI, Rf.start]
  have kk : Kl y (kvT tb) h (endG g h2) := by
    refine ⟨⟨?_, fun i mo hi e => ?_⟩, lk, f2⟩
    · have := k2.1; rw [f1]; omega
    · rw [f3 i hi]; exact k2.2 _ _ (k1.2 _ _ hi e)
  rw [es, eb, q_cons, r_for, it, R.stm_ok, r_it_ob, e1, kvT_keys, ofO_some, R.stm_ok]
  dsimp only
  rcases q with ⟨q1, s1', q2⟩ | ⟨f, q1, q2⟩
  · have C := closed_of q1
    obtain ⟨h3, e3, k3⟩ := endless_ok hW L hL M (by omega) y B.n3 C (endG g h2) f2
    refine ⟨h3, ?_, ⟨kk.1.trans k3.kp, lk, k3.2 _ _ f2⟩⟩
    unfold tbR
    rw [q1, q2, RS.then_nx]
    dsimp only
    cases e4 : (kys tb).find? fun s => !lb tb s with
    | none => rw [e4] at e3; simp [q_set, q_put, q_expr, q_ret, q_retN, q_ife, q_cons, q_nil, q_cst, q_bin, q_neg, q_cmp, q_and, q_or, q_not, q_eife, q_tup, q_lst, q_dic, q_ix, q_slc, q_cal, q_blt, q_enil, q_econs, q_met, q_raise, r_for, r_lc, r_var, r_ix_ob, r_sl_ob, r_put_ob, r_len_ob, r_tup_ob, r_lst_ob, r_addl, r_app, r_it_ob, r_in_ob, r_nin_ob, optI, Rf.start, e3, eD]
    | some s => rw [e4] at e3; simp [q_set, q_put, q_expr, q_ret, q_retN, q_ife, q_cons, q_nil, q_cst, q_bin, q_neg, q_cmp, q_and, q_or, q_not, q_eife, q_tup, q_lst, q_dic, q_ix, q_slc, q_cal, q_blt, q_enil, q_econs, q_met, q_raise, r_for, r_lc, r_var, r_ix_ob, r_sl_ob, r_put_ob, r_len_ob, r_tup_ob, r_lst_ob, r_addl, r_app, r_it_ob, r_in_ob, r_nin_ob, optI, Rf.start, e3, eD, hE.2.2.1]
  · refine ⟨h2, ?_, ⟨⟨?_, fun i mo hi e => k2.2 _ _ (k1.2 _ _ hi e)⟩, true, ey2⟩⟩
    · unfold tbR
      rw [q1, q2]
      rfl
    · have := k2.1; omega
theorem told_ok {bb : Nat} (hb : bb ≤ 4) (hL : 4 ≤ L) (N : Nat) (hN : 6 ≤ N) (y : Nat) {lk : Bool} {tb : Tbl} (B : WB ws bb tb) (h : Hs) (hy : h[y]? = some (.dic lk false (kvT tb))) :
    ∃ h', callF W L N 8 [.ob y] h = .ok (dueD tb) h' ∧ Kl y (kvT tb) h h' := by
  obtain ⟨M, rfl⟩ : ∃ M, N = M + 1 := ⟨N - 1, by omega⟩
  obtain ⟨h1, e1, k1⟩ := ct_ok hW hE L hb hL M (by omega) y B h hy
  refine ⟨h1, ?_, k1⟩
  rw [callF_s (hW 8 _ (by decide) rfl) rfl]
  obtain ⟨x1, x2, x3, x4⟩ := hE
  unfold tbR at e1
  unfold dueD
  cases e2 : ftA (kys tb) tb with
  | some f =>
    rw [e2] at e1
    dsimp only at e1 ⊢
    cases f with
    | unk s =>
      simp only [Ft.c, Ft.s] at e1
      simp [q_set, q_put, q_expr, q_ret, q_retN, q_ife, q_cons, q_nil, q_cst, q_bin, q_neg, q_cmp, q_and, q_or, q_not, q_eife, q_tup, q_lst, q_dic, q_ix, q_slc, q_cal, q_blt, q_enil, q_econs, q_met, q_raise, r_for, r_lc, r_var, r_ix_ob, r_sl_ob, r_put_ob, r_len_ob, r_tup_ob, r_lst_ob, r_addl, r_app, r_it_ob, r_in_ob, r_nin_ob, optI, Rf.start, f__law_told, q_try, q_hcons, q_hnil, q_exf, e1, x1, x2, x3, x4, Ft.d, List.lookup, sizeLine]
    | cla s =>
      simp only [Ft.c, Ft.s] at e1
      simp [q_set, q_put, q_expr, q_ret, q_retN, q_ife, q_cons, q_nil, q_cst, q_bin, q_neg, q_cmp, q_and, q_or, q_not, q_eife, q_tup, q_lst, q_dic, q_ix, q_slc, q_cal, q_blt, q_enil, q_econs, q_met, q_raise, r_for, r_lc, r_var, r_ix_ob, r_sl_ob, r_put_ob, r_len_ob, r_tup_ob, r_lst_ob, r_addl, r_app, r_it_ob, r_in_ob, r_nin_ob, optI, Rf.start, f__law_told, q_try, q_hcons, q_hnil, q_exf, e1, x1, x2, x3, x4, Ft.d, List.lookup, sizeLine]
  | none =>
    rw [e2] at e1
    dsimp only at e1 ⊢
    cases e4 : (kys tb).find? fun s => !lb tb s with
    | some s =>
      rw [e4] at e1
      simp [q_set, q_put, q_expr, q_ret, q_retN, q_ife, q_cons, q_nil, q_cst, q_bin, q_neg, q_cmp, q_and, q_or, q_not, q_eife, q_tup, q_lst, q_dic, q_ix, q_slc, q_cal, q_blt, q_enil, q_econs, q_met, q_raise, r_for, r_lc, r_var, r_ix_ob, r_sl_ob, r_put_ob, r_len_ob, r_tup_ob, r_lst_ob, r_addl, r_app, r_it_ob, r_in_ob, r_nin_ob, optI, Rf.start, f__law_told, q_try, q_hcons, q_hnil, q_exf, e1, x1, x2, x3, x4, Ft.d, List.lookup, sizeLine]
    | none =>
      rw [e4] at e1
      simp [q_set, q_put, q_expr, q_ret, q_retN, q_ife, q_cons, q_nil, q_cst, q_bin, q_neg, q_cmp, q_and, q_or, q_not, q_eife, q_tup, q_lst, q_dic, q_ix, q_slc, q_cal, q_blt, q_enil, q_econs, q_met, q_raise, r_for, r_lc, r_var, r_ix_ob, r_sl_ob, r_put_ob, r_len_ob, r_tup_ob, r_lst_ob, r_addl, r_app, r_it_ob, r_in_ob, r_nin_ob, optI, Rf.start, f__law_told, q_try, q_hcons, q_hnil, q_exf, e1, x1, x2, x3, x4, Ft.d, List.lookup, sizeLine]
end
/-! ### what is due -/
abbrev bodyD1 : List S := [.set 2 (.cal 13 [(.var 0), (.ix (.var 0) (.var 1))]),
    .ife (.cmp .isn (.var 2) (.cst .non))
      [.ret (.var 2)]
      []]
abbrev bodyD2 : List S := [.ife (.not (.cal 12 [(.var 0), (.var 1)]))
      [.ret (.tup [(.cst (.str ['m', 'i', 's', 'u', 's', 'e', 'd'])), (.var 1)])]
      []]
theorem due1 {bb : Nat} (hb : bb ≤ 4) (M : Nat) (hM : 4 ≤ M) (y : Nat) {tb : Tbl} (g : Gd) (hg : ∀ h' : Hs, h'[y]? = some (.dic true false (kvT tb)) → Rf.same g h') :
    ∀ (xs : Tbl), (∀ x ∈ xs, gt tb x.1 = some x.2 ∧ wT ws bb x.2 2) → ∀ (s1 s2 : Option D) (h : Hs), h[y]? = some (.dic true false (kvT tb)) →
    ∃ h', Kx h h' ∧ ((ftA (kys tb) xs = none ∧ ∃ s1' s2' : Option D, forI g (fT W L (callF W L M) (.nm 1) bodyD1) ((kys xs).map D.str) [some (.ob y), s1, s2] h = .ok (.nx [some (.ob y), s1', s2']) (endG g h')) ∨
      ∃ f, ftA (kys tb) xs = some f ∧ forI g (fT W L (callF W L M) (.nm 1) bodyD1) ((kys xs).map D.str) [some (.ob y), s1, s2] h = .ok (.rt f.d) (endG g h')) := by
  intro xs
  induction xs with
  | nil =>
    intro hx s1 s2 h hy
    exact ⟨h, Kx.refl, .inl ⟨rfl, s1, s2, forI_nil (hg h hy)⟩⟩
  | cons x xs ih =>
    intro hx s1 s2 h hy
    obtain ⟨g1, w1⟩ := hx x List.mem_cons_self
    obtain ⟨h2, e2, k2⟩ := fault_ok hW L hb y tb 2 M hM x.2 w1 true h hy
    have ek : (kys (x :: xs)).map D.str = .str x.1 :: (kys xs).map D.str := rfl
    rw [ek]
    cases e3 : ftT (kys tb) x.2 with
    | some f =>
      rw [e3] at e2
      refine ⟨h2, k2, .inr ⟨f, by simp only [ftA, e3], ?_⟩⟩
      rw [forI_rtG (hg h hy) (hg h2 (k2.2 _ _ hy))]
      rw [fT_some (σ1 := [some (.ob y), some (.str x.1), s2]) rfl]
      cases f <;> simp [q_set, q_put, q_expr, q_ret, q_retN, q_ife, q_cons, q_nil, q_cst, q_bin, q_neg, q_cmp, q_and, q_or, q_not, q_eife, q_tup, q_lst, q_dic, q_ix, q_slc, q_cal, q_blt, q_enil, q_econs, q_met, q_raise, r_for, r_lc, r_var, r_ix_ob, r_sl_ob, r_put_ob, r_len_ob, r_tup_ob, r_lst_ob, r_addl, r_app, r_it_ob, r_in_ob, r_nin_ob, optI, Rf.start, hy, kvT_okK, kvT_get, g1, e2, oF, Ft.d]
    | none =>
      rw [e3] at e2
      obtain ⟨h3, k3, q⟩ := ih (fun z hz => hx z (List.mem_cons_of_mem _ hz)) (some (.str x.1)) (some .non) h2 (k2.2 _ _ hy)
      refine ⟨h3, k2.trans k3, ?_⟩
      have ef : ftA (kys tb) (x :: xs) = ftA (kys tb) xs := by simp only [ftA, e3]
      rw [ef, forI_nx (hg h hy) (h' := h2) (σ' := [some (.ob y), some (.str x.1), some .non])]
      · exact q
      · rw [fT_some (σ1 := [some (.ob y), some (.str x.1), s2]) rfl]
        simp [q_set, q_put, q_expr, q_ret, q_retN, q_ife, q_cons, q_nil, q_cst, q_bin, q_neg, q_cmp, q_and, q_or, q_not, q_eife, q_tup, q_lst, q_dic, q_ix, q_slc, q_cal, q_blt, q_enil, q_econs, q_met, q_raise, r_for, r_lc, r_var, r_ix_ob, r_sl_ob, r_put_ob, r_len_ob, r_tup_ob, r_lst_ob, r_addl, r_app, r_it_ob, r_in_ob, r_nin_ob, optI, Rf.start, hy, kvT_okK, kvT_get, g1, e2, oF]
theorem due2 (M : Nat) (hM : 4 ≤ M) (y : Nat) {tb : Tbl} (n3 : tb.length ≤ 3) (C : Closed tb) (g : Gd) (hg : ∀ h' : Hs, h'[y]? = some (.dic true false (kvT tb)) → Rf.same g h') (h : Hs) (hy : h[y]? = some (.dic true false (kvT tb))) :
    ∀ (xs : List LC), (∀ x ∈ xs, x ∈ kys tb) → ∀ (s1 s2 : Option D), 
    (xs.find? (fun s => !lb tb s) = none ∧ ∃ s1' : Option D, forI g (fT W L (callF W L M) (.nm 1) bodyD2) (xs.map D.str) [some (.ob y), s1, s2] h = .ok (.nx [some (.ob y), s1', s2]) (endG g h)) ∨
      ∃ x, xs.find? (fun s => !lb tb s) = some x ∧ forI g (fT W L (callF W L M) (.nm 1) bodyD2) (xs.map D.str) [some (.ob y), s1, s2] h = .ok (.rt (.tup [.str cMi, .str x])) (endG g h) := by
  intro xs
  induction xs with
  | nil =>
    intro hx s1 s2
    exact .inl ⟨rfl, s1, forI_nil (hg h hy)⟩
  | cons x xs ih =>
    intro hx s1 s2
    have e1 := leads_ok hW L M (by omega) y n3 C h hy (hx x List.mem_cons_self)
    rw [List.map_cons]
    cases e2 : lb tb x with
    | false =>
      rw [e2] at e1
      refine .inr ⟨x, by simp [e2], ?_⟩
      rw [forI_rtG (hg h hy) (hg h hy)]
      rw [fT_some (σ1 := [some (.ob y), some (.str x), s2]) rfl]
      simp [q_set, q_put, q_expr, q_ret, q_retN, q_ife, q_cons, q_nil, q_cst, q_bin, q_neg, q_cmp, q_and, q_or, q_not, q_eife, q_tup, q_lst, q_dic, q_ix, q_slc, q_cal, q_blt, q_enil, q_econs, q_met, q_raise, r_for, r_lc, r_var, r_ix_ob, r_sl_ob, r_put_ob, r_len_ob, r_tup_ob, r_lst_ob, r_addl, r_app, r_it_ob, r_in_ob, r_nin_ob, optI, Rf.start, e1, sizeLine]
    | true =>
      rw [e2] at e1
      have fe : (x :: xs).find? (fun s => !lb tb s) = xs.find? (fun s => !lb tb s) := by simp [e2]
      rw [fe, forI_nx (hg h hy) (h' := h) (σ' := [some (.ob y), some (.str x), s2])]
      · exact ih (fun z hz => hx z (List.mem_cons_of_mem _ hz)) _ _
      · rw [fT_some (σ1 := [some (.ob y), some (.str x), s2]) rfl]
        simp [q_set, q_put, q_expr, q_ret, q_retN, q_ife, q_cons, q_nil, q_cst, q_bin, q_neg, q_cmp, q_and, q_or, q_not, q_eife, q_tup, q_lst, q_dic, q_ix, q_slc, q_cal, q_blt, q_enil, q_econs, q_met, q_raise, r_for, r_lc, r_var, r_ix_ob, r_sl_ob, r_put_ob, r_len_ob, r_tup_ob, r_lst_ob, r_addl, r_app, r_it_ob, r_in_ob, r_nin_ob, optI, Rf.start, e1]
theorem endG_kx {y : Nat} {lk : Bool} {kvs : List (D × D)} {h h1 h2 : Hs} {g : Gd} (hy : h[y]? = some (.dic lk false kvs)) (k1 : Kp y h h1) (k2 : Kx h1 h2) (f1 : (endG g h2).length = h2.length) (f2 : (endG g h2)[y]? = some (.dic lk false kvs)) (f3 : ∀ i, i ≠ y → (endG g h2)[i]? = h2[i]?) : Kx h (endG g h2) := by
  refine ⟨?_, fun i mo e => ?_⟩
  · have := k1.1; have := k2.1; omega
  · by_cases hi : i = y
    · subst hi
      rw [hy] at e; cases e
      exact f2
    · rw [f3 i hi]
      exact k2.2 i mo (k1.2 i mo hi e)
theorem due_ok {bb : Nat} (hb : bb ≤ 4) (N : Nat) (hN : 6 ≤ N) (y : Nat) {lk : Bool} {tb : Tbl} (B : WB ws bb tb) (h : Hs) (hy : h[y]? = some (.dic lk false (kvT tb))) :
    ∃ h', callF W L N 10 [.ob y] h = .ok (dueD tb) h' ∧ Kx h h' := by
  obtain ⟨M, rfl⟩ : ∃ M, N = M + 1 := ⟨N - 1, by omega⟩
  rw [callF_s (hW 10 _ (by decide) rfl) rfl]
  obtain ⟨g, h1, e1, ey, k1, l1, hg, he⟩ := it_dict hy
  obtain ⟨h2, k2, q⟩ := due1 hW L hb M (by omega) y g hg tb (fun x hx => ⟨gt_nd B.nd x hx, B.ent x hx⟩) none none h1 ey
  obtain ⟨f1, f2, f3⟩ := he h2 (k2.2 _ _ ey)
  have kk := endG_kx hW hy k1 k2 f1 f2 f3
  have es : Rf.start f__law_due.ns [D.ob y] = [some (.ob y), none, none] := rfl
  have eb : f__law_due.body = [.for_ (.nm 1) .seq [(.var 0)] bodyD1, .for_ (.nm 1) .seq [(.var 0)] bodyD2, .ret (.cst .non)] := rfl
  have it : ∀ (s1 s2 : Option D) (h : Hs), evalEs W (callF W L M) none [(.var 0)] [some (.ob y), s1, s2] h = .ok [.ob y] h := by intro s1 s2 h; simp [q_set, q_put, q_expr, q_ret, q_retN, q_ife, q_cons, q_nil, q_cst, q_bin, q_neg, q_cmp, q_and, q_or, q_not, q_eife, q_tup, q_lst, q_dic, q_ix, q_slc, q_cal, q_blt, q_enil, q_econs, q_met, q_raise, r_for, r_lc, r_var, r_ix_ob, r_sl_ob, r_put_ob, r_len_ob, r_tup_ob, r_lst_ob, r_addl, r_app, r_it_ob, r_in_ob, r_nin_ob, optI, Rf.start]
  rw [es, eb, q_cons, r_for, it, R.stm_ok, r_it_ob, e1, kvT_keys, ofO_some, R.stm_ok]
  dsimp only
  unfold dueD
  rcases q with ⟨q1, s1', s2', q2⟩ | ⟨f, q1, q2⟩
  · have C := closed_of q1
    rw [q1, q2, RS.then_nx]
    obtain ⟨g', h3, e3, ey3, k3, l3, hg3, he3⟩ := it_dict f2
    obtain ⟨p1, p2, p3⟩ := he3 h3 ey3
    have q3 := due2 hW L M (by omega) y B.n3 C g' hg3 h3 ey3 (kys tb) (fun x hx => hx) s1' s2'
    have kk3 := endG_kx hW f2 k3 Kx.refl p1 p2 p3
    refine ⟨endG g' h3, ?_, kk.trans kk3⟩
    rw [q_cons, r_for, it, R.stm_ok, r_it_ob, e3, kvT_keys, ofO_some, R.stm_ok]
    dsimp only
    rcases q3 with ⟨z1, s1'', z2⟩ | ⟨x, z1, z2⟩
    · rw [z1, z2, RS.then_nx]
      simp [q_set, q_put, q_expr, q_ret, q_retN, q_ife, q_cons, q_nil, q_cst, q_bin, q_neg, q_cmp, q_and, q_or, q_not, q_eife, q_tup, q_lst, q_dic, q_ix, q_slc, q_cal, q_blt, q_enil, q_econs, q_met, q_raise, r_for, r_lc, r_var, r_ix_ob, r_sl_ob, r_put_ob, r_len_ob, r_tup_ob, r_lst_ob, r_addl, r_app, r_it_ob, r_in_ob, r_nin_ob, optI, Rf.start]
    · rw [z1, z2, RS.then_rt]
      rfl
  · refine ⟨endG g h2, ?_, kk⟩
    rw [q1, q2, RS.then_rt]
    rfl
end K08
end

section
namespace K08
open PySem PySem.Spec PyProof.Rows L2 Rf
theorem ixN_in {n : Nat} {v : Int} (h0 : 0 ≤ v) (h1 : v < n) : ixN n v = some v.toNat := by
  simp [ixN, h0, h1]
abbrev cZy : LC := ['Z', 'y']
abbrev cUb : LC := ['U', 'b']
variable {ws : List LC} {W : Wd} (hW : Has W) (L : Nat)
include hW
abbrev elS : E := .tup [(.ix (.var 3) (.cst (.int 0))), (.ix (.var 3) (.cst (.int 1))), (.cal 9 [(.var 0), (.ix (.var 3) (.cst (.int 2)))])]
def SpoilOk (W : Wd) (L : Nat) (ws : List LC) (k : Nat) : Prop := ∀ (N : Nat), k + 3 ≤ N → ∀ (p q : Nat) (ns : List Int) (t : T) (h : Hs), wT ws 3 t k → PO p q ns h →
  ∃ t' h', callF W L N 9 [.ob p, toD t] h = .ok (toD t') h' ∧ wT ws 4 t' k ∧ PO p q ns h' ∧ Kp p h h'
theorem spoil_lc {k : Nat} (ih : SpoilOk W L ws k) (M : Nat) (hM : k + 3 ≤ M) (p q : Nat) (ns : List Int) (td : D) :
    ∀ (r : TR) (acc : List D) (h : Hs), wR ws 3 r k → PO p q ns h → acc.length + lenR r ≤ 3 →
    ∃ (xs : List Row) (h' : Hs), lcI .none (lT W (callF W L M) [3] (.nm 3) [] elS [some (.ob p), some td, none, none, none, none]) (rowsD r) acc h = .ok (acc ++ xs.map rowD) h' ∧ xs.length = lenR r ∧ (∀ x ∈ xs, okP ws x.2.1 ∧ wT ws 4 x.2.2 k) ∧ PO p q ns h' ∧ Kp p h h'
  | .nil, acc, h, _, P, _ => ⟨[], h, by rw [rowsD, lcI_nil (by trivial)]; simp [endG], rfl, by simp, P, Kp.refl⟩
  | .cons l pd t r, acc, h, hw, P, hl => by
    simp only [wR] at hw
    simp only [lenR] at hl
    obtain ⟨t', h1, e1, w1, P1, k1⟩ := ih M hM p q ns t h hw.2.1 P
    obtain ⟨xs, h2, e2, l2, a2, P2, k2⟩ := spoil_lc ih M hM p q ns td r (acc ++ [rowD (l, pd, t')]) h1 hw.2.2 P1 (by simp; omega)
    refine ⟨(l, pd, t') :: xs, h2, ?_, by simp [l2, lenR], ?_, P2, k1.trans k2⟩
    · rw [rowsD, lcI_some (h' := h1) (x := rowD (l, pd, t')) (by trivial) ?_ (by simp only [sizeLine]; omega), e2]
      · simp
      · rw [lT_nil (σ1 := [some (.ob p), some td, none, some (.tup [.str l, pd, toD t]), none, none]) rfl]
        simp [q_set, q_put, q_expr, q_ret, q_retN, q_ife, q_cons, q_nil, q_cst, q_bin, q_neg, q_cmp, q_and, q_or, q_not, q_eife, q_tup, q_lst, q_dic, q_ix, q_slc, q_cal, q_blt, q_enil, q_econs, q_met, q_raise, r_for, r_lc, r_var, r_ix_ob, r_sl_ob, r_put_ob, r_len_ob, r_tup_ob, r_lst_ob, r_addl, r_app, r_it_ob, r_in_ob, r_nin_ob, optI, Rf.start, atI_0, atI_1, atI_2, e1, rowD, sizeLine]
    · intro x hx
      rcases List.mem_cons.mp hx with rfl | hx
      · exact ⟨hw.1, w1⟩
      · exact a2 x hx
abbrev iS0 : S := .ife (.cmp .eq (.var 4) (.cst (.int 0)))
    [.expr (.met (.var 2) "insert" [(.cal 1 [(.var 0), (.bin .add (.blt .len [(.var 2)]) (.cst (.int 1)))]), (.tup [(.ix (.var 3) (.cst (.int 0))), (.cst (.str ['i', 'n', 't'])), (.tup [(.cst (.str ['e', 'n', 'd']))])])])]
    []
abbrev iS1 : S := .ife (.cmp .eq (.var 4) (.cst (.int 1)))
    [.put (.var 2) (.var 5) (.tup [(.ix (.var 3) (.cst (.int 0))), (.tup [(.cst (.str ['d', 'u', 'a', 'l'])), (.cst (.str ['Z', 'y']))]), (.ix (.var 3) (.cst (.int 2)))])]
    []
abbrev iS2 : S := .ife (.cmp .eq (.var 4) (.cst (.int 2)))
    [.put (.var 2) (.var 5) (.tup [(.ix (.var 3) (.cst (.int 0))), (.ix (.var 3) (.cst (.int 1))), (.tup [(.cst (.str ['n', 'a', 'm', 'e'])), (.cst (.str ['U', 'b']))])])]
    []
theorem spoil_if (hz1 : cZy ∈ ws) (hz2 : cUb ∈ ws) {k : Nat} (M : Nat) (hM : 3 ≤ M) (p q z : Nat) (ns : List Int) (td : D) (hzp : z ≠ p) (hzq : z ≠ q) (xs : List Row) (hl : xs.length ≤ 3) (ha : ∀ x ∈ xs, okP ws x.2.1 ∧ wT ws 4 x.2.2 k) (x : Row) (hx : x ∈ xs) (c v : Int) (v0 : 0 ≤ v) (v1 : v < xs.length) (h : Hs) (P : PO p q ns h) (hz : h[z]? = some (.lst (xs.map rowD))) :
    ∃ (xs' : List Row) (h' : Hs), evalB W L (callF W L M) none [iS0, iS1, iS2] [some (.ob p), some td, some (.ob z), some (rowD x), some (.int c), some (.int v)] h = .ok (.nx [some (.ob p), some td, some (.ob z), some (rowD x), some (.int c), some (.int v)]) h' ∧ h'[z]? = some (.lst (xs'.map rowD)) ∧ 0 < xs'.length ∧ xs'.length ≤ 4 ∧ (∀ x ∈ xs', okP ws x.2.1 ∧ wT ws 4 x.2.2 k) ∧ PO p q ns h' ∧ Ky p z h h' := by
  have zl := lk_lt hz
  have xl : 0 < xs.length := by omega
  have st : ∀ x' : Row, okP ws x'.2.1 ∧ wT ws 4 x'.2.2 k → ∃ xs' : List Row, (xs.map rowD).set v.toNat (rowD x') = xs'.map rowD ∧ xs'.length = xs.length ∧ ∀ x ∈ xs', okP ws x.2.1 ∧ wT ws 4 x.2.2 k := by
    intro x' hx'
    refine ⟨xs.set v.toNat x', by rw [List.map_set], by simp, fun y hy => ?_⟩
    rcases List.mem_or_eq_of_mem_set hy with hy | rfl
    · exact ha y hy
    · exact hx'
  have iv := ixN_in v0 v1
  have zs : ∀ o : MO, (h.set z o)[z]? = some o := fun o => by simp [zl]
  by_cases c0 : c = 0
  · subst c0
    obtain ⟨v5, h5, e5, a5, b5, P5, k5⟩ := takeN hW L M p q (by omega) ns (xs.length + 1) (by omega) (by omega) h P
    have z5 := k5.2 z _ hzp hz
    have zl5 := lk_lt z5
    have ins := r_insert (y := rowD (x.1, D.str cI, T.en)) z5 (by simp [sizeLine]; omega) a5 (by omega)
    have em : (xs.map rowD).take v5.toNat ++ [rowD (x.1, D.str cI, T.en)] ++ (xs.map rowD).drop v5.toNat = (xs.take v5.toNat ++ [((x.1, D.str cI, T.en) : Row)] ++ xs.drop v5.toNat).map rowD := by
      simp
    rw [em] at ins
    generalize eX : xs.take v5.toNat ++ [((x.1, D.str cI, T.en) : Row)] ++ xs.drop v5.toNat = X at ins
    have lX : X.length = xs.length + 1 := by rw [← eX]; simp; omega
    refine ⟨X, h5.set z (.lst (X.map rowD)), ?_, by simp [zl5], by omega, by omega, ?_, P5.set hzp hzq, k5.ky.trans Ky.set⟩
    · rw [show rowD (x.1, D.str cI, T.en) = .tup [.str x.1, .str cI, .tup [.str cE]] from rfl] at ins
      simp [q_set, q_put, q_expr, q_ret, q_retN, q_ife, q_cons, q_nil, q_cst, q_bin, q_neg, q_cmp, q_and, q_or, q_not, q_eife, q_tup, q_lst, q_dic, q_ix, q_slc, q_cal, q_blt, q_enil, q_econs, q_met, q_raise, r_for, r_lc, r_var, r_ix_ob, r_sl_ob, r_put_ob, r_len_ob, r_tup_ob, r_lst_ob, r_addl, r_app, r_it_ob, r_in_ob, r_nin_ob, optI, Rf.start, r_metins hz, hz, e5, ins, rowD, atI_0, sizeLine]
    · intro y hy
      rw [← eX] at hy
      simp only [List.mem_append, List.mem_singleton] at hy
      rcases hy with (hy | hy) | hy
      · exact ha y (List.mem_of_mem_take hy)
      · subst hy; exact ⟨.inr (.inl rfl), by cases k <;> simp only [wT]⟩
      · exact ha y (List.mem_of_mem_drop hy)
  by_cases c1 : c = 1
  · subst c1
    obtain ⟨xs', e, l, a⟩ := st (x.1, .tup [.str cU, .str cZy], x.2.2) ⟨.inr (.inr (.inr ⟨_, hz1, .inr rfl⟩)), (ha x hx).2⟩
    refine ⟨xs', h.set z (.lst (xs'.map rowD)), ?_, zs _, by omega, by omega, a, P.set hzp hzq, Ky.set⟩
    rw [show rowD (x.1, D.tup [.str cU, .str cZy], x.2.2) = .tup [.str x.1, .tup [.str cU, .str cZy], toD x.2.2] from rfl] at e
    simp [q_set, q_put, q_expr, q_ret, q_retN, q_ife, q_cons, q_nil, q_cst, q_bin, q_neg, q_cmp, q_and, q_or, q_not, q_eife, q_tup, q_lst, q_dic, q_ix, q_slc, q_cal, q_blt, q_enil, q_econs, q_met, q_raise, r_for, r_lc, r_var, r_ix_ob, r_sl_ob, r_put_ob, r_len_ob, r_tup_ob, r_lst_ob, r_addl, r_app, r_it_ob, r_in_ob, r_nin_ob, optI, Rf.start, rowD, hz, atI_0, atI_1, atI_2, iv, e, sizeLine]
  by_cases c2 : c = 2
  · subst c2
    obtain ⟨xs', e, l, a⟩ := st (x.1, x.2.1, .nm cUb) ⟨(ha x hx).1, by cases k <;> simp only [wT] <;> exact hz2⟩
    refine ⟨xs', h.set z (.lst (xs'.map rowD)), ?_, zs _, by omega, by omega, a, P.set hzp hzq, Ky.set⟩
    rw [show rowD (x.1, x.2.1, T.nm cUb) = .tup [.str x.1, x.2.1, .tup [.str cN, .str cUb]] from rfl] at e
    simp [q_set, q_put, q_expr, q_ret, q_retN, q_ife, q_cons, q_nil, q_cst, q_bin, q_neg, q_cmp, q_and, q_or, q_not, q_eife, q_tup, q_lst, q_dic, q_ix, q_slc, q_cal, q_blt, q_enil, q_econs, q_met, q_raise, r_for, r_lc, r_var, r_ix_ob, r_sl_ob, r_put_ob, r_len_ob, r_tup_ob, r_lst_ob, r_addl, r_app, r_it_ob, r_in_ob, r_nin_ob, optI, Rf.start, rowD, hz, atI_0, atI_1, atI_2, iv, e, sizeLine]
  · exact ⟨xs, h, by simp [q_set, q_put, q_expr, q_ret, q_retN, q_ife, q_cons, q_nil, q_cst, q_bin, q_neg, q_cmp, q_and, q_or, q_not, q_eife, q_tup, q_lst, q_dic, q_ix, q_slc, q_cal, q_blt, q_enil, q_econs, q_met, q_raise, r_for, r_lc, r_var, r_ix_ob, r_sl_ob, r_put_ob, r_len_ob, r_tup_ob, r_lst_ob, r_addl, r_app, r_it_ob, r_in_ob, r_nin_ob, optI, Rf.start, c0, c1, c2], hz, xl, by omega, ha, P, Ky.refl⟩
theorem spoil_ok (hz1 : cZy ∈ ws) (hz2 : cUb ∈ ws) : ∀ k, SpoilOk W L ws k := by
  have plain : ∀ (M : Nat) (p : Nat) (t : T) (h : Hs), rwsT t = .nil → (∀ r, t ≠ .say r ∧ t ≠ .hear r) → callF W L (M + 1) 9 [.ob p, toD t] h = .ok (toD t) h := by
    intro M p t h _ ht
    rw [callF_s (hW 9 _ (by decide) rfl) rfl]
    cases t with
    | say r => exact absurd rfl (ht r).1
    | hear r => exact absurd rfl (ht r).2
    | _ => simp [q_set, q_put, q_expr, q_ret, q_retN, q_ife, q_cons, q_nil, q_cst, q_bin, q_neg, q_cmp, q_and, q_or, q_not, q_eife, q_tup, q_lst, q_dic, q_ix, q_slc, q_cal, q_blt, q_enil, q_econs, q_met, q_raise, r_for, r_lc, r_var, r_ix_ob, r_sl_ob, r_put_ob, r_len_ob, r_tup_ob, r_lst_ob, r_addl, r_app, r_it_ob, r_in_ob, r_nin_ob, optI, Rf.start, f__law_spoil, toD, atI_0]
  have rwc : ∀ k, SpoilOk W L ws k → ∀ (M : Nat), k + 3 ≤ M → ∀ (p q : Nat) (ns : List Int) (r : TR) (tg : LC), (tg = cS ∨ tg = cH) → ∀ h : Hs, (0 < lenR r ∧ lenR r ≤ 3) → wR ws 3 r k → PO p q ns h →
      ∃ r' h', callF W L (M + 1) 9 [.ob p, .tup [.str tg, .tup (rowsD r)]] h = .ok (.tup [.str tg, .tup (rowsD r')]) h' ∧ (0 < lenR r' ∧ lenR r' ≤ 4) ∧ wR ws 4 r' k ∧ PO p q ns h' ∧ Kp p h h' := by
    intro k ih M hM p q ns r tg htg h hl hw P
    rw [callF_s (hW 9 _ (by decide) rfl) rfl]
    obtain ⟨xs, h1, e1, l1, a1, P1, k1⟩ := spoil_lc hW L ih M hM p q ns (.tup [.str tg, .tup (rowsD r)]) r [] h hw P (by simpa using hl.2)
    have P2 : PO p q ns (h1 ++ [.lst (xs.map rowD)]) := P1.app
    have z2 : (h1 ++ [MO.lst (xs.map rowD)])[h1.length]? = some (.lst (xs.map rowD)) := lk_new
    have hzp : h1.length ≠ p := by have := P1.lt; omega
    have hzq : h1.length ≠ q := by
      obtain ⟨_, _, _, _, _, e⟩ := P1
      have := lk_lt e; omega
    obtain ⟨c, h3, e3, c0, c9, P3, k3⟩ := takeN hW L M p q (by omega) ns 9 (by decide) (by decide) _ P2
    have z3 := k3.2 _ _ hzp z2
    obtain ⟨v, h4, e4, v0, v1, P4, k4⟩ := takeN hW L M p q (by omega) ns xs.length (by omega) (by omega) h3 P3
    have z4 := k4.2 _ _ hzp z3
    obtain ⟨x, hx, ix⟩ : ∃ x, x ∈ xs ∧ atI (xs.map rowD) v = some (rowD x) := by
      obtain ⟨d, hd, e⟩ := atI_some (xs := xs.map rowD) v0 (by simpa using v1)
      obtain ⟨x, hx, rfl⟩ := List.mem_map.mp hd
      exact ⟨x, hx, e⟩
    obtain ⟨xs', h5, e5, z5, p5, l5, a5, P5, k5⟩ := spoil_if hW L hz1 hz2 (k := k) M (by omega) p q h1.length ns (.tup [.str tg, .tup (rowsD r)]) hzp hzq xs (by omega) a1 x hx c v v0 v1 h4 P4 z4
    refine ⟨ofL xs', h5, ?_, by rw [lenR_of]; exact ⟨p5, l5⟩, wR_of xs' |>.mpr a5, P5, Ky.kp (k1.trans (Kp.app.trans (k3.trans k4))) k1.1 k5⟩
    have es : Rf.start f__law_spoil.ns [D.ob p, .tup [.str tg, .tup (rowsD r)]] = [some (.ob p), some (.tup [.str tg, .tup (rowsD r)]), none, none, none, none] := rfl
    have eb : f__law_spoil.body = [.ife (.or (.cmp .eq (.ix (.var 1) (.cst (.int 0))) (.cst (.str ['e', 'n', 'd']))) (.or (.cmp .eq (.ix (.var 1) (.cst (.int 0))) (.cst (.str ['n', 'a', 'm', 'e']))) (.cmp .eq (.ix (.var 1) (.cst (.int 0))) (.cst (.str ['d', 'u', 'a', 'l']))))) [.ret (.var 1)] [],
      .set 2 (.lc [3] (.nm 3) .seq [(.ix (.var 1) (.cst (.int 1)))] [] elS),
      .set 4 (.cal 1 [(.var 0), (.cst (.int 9))]), .set 5 (.cal 1 [(.var 0), (.blt .len [(.var 2)])]), .set 3 (.ix (.var 2) (.var 5)), iS0, iS1, iS2,
      .ret (.tup [(.ix (.var 1) (.cst (.int 0))), (.blt .tuple [(.var 2)])])] := rfl
    have q1 : evalS W L (callF W L M) none (.ife (.or (.cmp .eq (.ix (.var 1) (.cst (.int 0))) (.cst (.str ['e', 'n', 'd']))) (.or (.cmp .eq (.ix (.var 1) (.cst (.int 0))) (.cst (.str ['n', 'a', 'm', 'e']))) (.cmp .eq (.ix (.var 1) (.cst (.int 0))) (.cst (.str ['d', 'u', 'a', 'l']))))) [.ret (.var 1)] []) [some (.ob p), some (.tup [.str tg, .tup (rowsD r)]), none, none, none, none] h = .ok (.nx [some (.ob p), some (.tup [.str tg, .tup (rowsD r)]), none, none, none, none]) h := by
      rcases htg with rfl | rfl <;> simp [q_set, q_put, q_expr, q_ret, q_retN, q_ife, q_cons, q_nil, q_cst, q_bin, q_neg, q_cmp, q_and, q_or, q_not, q_eife, q_tup, q_lst, q_dic, q_ix, q_slc, q_cal, q_blt, q_enil, q_econs, q_met, q_raise, r_for, r_lc, r_var, r_ix_ob, r_sl_ob, r_put_ob, r_len_ob, r_tup_ob, r_lst_ob, r_addl, r_app, r_it_ob, r_in_ob, r_nin_ob, optI, Rf.start, atI_0]
    have q2 : evalS W L (callF W L M) none (.set 2 (.lc [3] (.nm 3) .seq [(.ix (.var 1) (.cst (.int 1)))] [] elS)) [some (.ob p), some (.tup [.str tg, .tup (rowsD r)]), none, none, none, none] h = .ok (.nx [some (.ob p), some (.tup [.str tg, .tup (rowsD r)]), some (.ob h1.length), none, none, none]) (h1 ++ [.lst (xs.map rowD)]) := by
      generalize elS = el at e1 ⊢
      simp [q_set, q_put, q_expr, q_ret, q_retN, q_ife, q_cons, q_nil, q_cst, q_bin, q_neg, q_cmp, q_and, q_or, q_not, q_eife, q_tup, q_lst, q_dic, q_ix, q_slc, q_cal, q_blt, q_enil, q_econs, q_met, q_raise, r_for, r_lc, r_var, r_ix_ob, r_sl_ob, r_put_ob, r_len_ob, r_tup_ob, r_lst_ob, r_addl, r_app, r_it_ob, r_in_ob, r_nin_ob, optI, Rf.start, atI_1, e1, lcEnd]
    have q3 : evalS W L (callF W L M) none (.set 4 (.cal 1 [(.var 0), (.cst (.int 9))])) [some (.ob p), some (.tup [.str tg, .tup (rowsD r)]), some (.ob h1.length), none, none, none] (h1 ++ [.lst (xs.map rowD)]) = .ok (.nx [some (.ob p), some (.tup [.str tg, .tup (rowsD r)]), some (.ob h1.length), none, some (.int c), none]) h3 := by simp [q_set, q_put, q_expr, q_ret, q_retN, q_ife, q_cons, q_nil, q_cst, q_bin, q_neg, q_cmp, q_and, q_or, q_not, q_eife, q_tup, q_lst, q_dic, q_ix, q_slc, q_cal, q_blt, q_enil, q_econs, q_met, q_raise, r_for, r_lc, r_var, r_ix_ob, r_sl_ob, r_put_ob, r_len_ob, r_tup_ob, r_lst_ob, r_addl, r_app, r_it_ob, r_in_ob, r_nin_ob, optI, Rf.start, e3]
    have q4 : evalS W L (callF W L M) none (.set 5 (.cal 1 [(.var 0), (.blt .len [(.var 2)])])) [some (.ob p), some (.tup [.str tg, .tup (rowsD r)]), some (.ob h1.length), none, some (.int c), none] h3 = .ok (.nx [some (.ob p), some (.tup [.str tg, .tup (rowsD r)]), some (.ob h1.length), none, some (.int c), some (.int v)]) h4 := by simp [q_set, q_put, q_expr, q_ret, q_retN, q_ife, q_cons, q_nil, q_cst, q_bin, q_neg, q_cmp, q_and, q_or, q_not, q_eife, q_tup, q_lst, q_dic, q_ix, q_slc, q_cal, q_blt, q_enil, q_econs, q_met, q_raise, r_for, r_lc, r_var, r_ix_ob, r_sl_ob, r_put_ob, r_len_ob, r_tup_ob, r_lst_ob, r_addl, r_app, r_it_ob, r_in_ob, r_nin_ob, optI, Rf.start, z3, e4]
    have q5 : evalS W L (callF W L M) none (.set 3 (.ix (.var 2) (.var 5))) [some (.ob p), some (.tup [.str tg, .tup (rowsD r)]), some (.ob h1.length), none, some (.int c), some (.int v)] h4 = .ok (.nx [some (.ob p), some (.tup [.str tg, .tup (rowsD r)]), some (.ob h1.length), some (rowD x), some (.int c), some (.int v)]) h4 := by simp [q_set, q_put, q_expr, q_ret, q_retN, q_ife, q_cons, q_nil, q_cst, q_bin, q_neg, q_cmp, q_and, q_or, q_not, q_eife, q_tup, q_lst, q_dic, q_ix, q_slc, q_cal, q_blt, q_enil, q_econs, q_met, q_raise, r_for, r_lc, r_var, r_ix_ob, r_sl_ob, r_put_ob, r_len_ob, r_tup_ob, r_lst_ob, r_addl, r_app, r_it_ob, r_in_ob, r_nin_ob, optI, Rf.start, z4, ix]
    have q6 : ∀ (R : List S), evalB W L (callF W L M) none (iS0 :: iS1 :: iS2 :: R) [some (.ob p), some (.tup [.str tg, .tup (rowsD r)]), some (.ob h1.length), some (rowD x), some (.int c), some (.int v)] h4 = evalB W L (callF W L M) none R [some (.ob p), some (.tup [.str tg, .tup (rowsD r)]), some (.ob h1.length), some (rowD x), some (.int c), some (.int v)] h5 := by
      intro R
      have ap : ∀ (A R : List S) (σ σ' : Sg) (h h' : Hs), evalB W L (callF W L M) none A σ h = .ok (.nx σ') h' → evalB W L (callF W L M) none (A ++ R) σ h = evalB W L (callF W L M) none R σ' h' := by
        intro A R
        induction A with
        | nil => intro σ σ' h h' e; rw [q_nil] at e; cases e; rfl
        | cons s A ihA =>
          intro σ σ' h h' e
          rw [List.cons_append, q_cons]
          rw [q_cons] at e
          generalize evalS W L (callF W L M) none s σ h = rr at e ⊢
          match rr with
          | .ok (.nx σ9) h9 => exact ihA _ _ _ _ e
          | .ok (.rt _) _ => simp at e
          | .ok (.bk _) _ => simp at e
          | .ok (.ct _) _ => simp at e
          | .exc _ _ _ _ => simp at e
          | .no => simp at e
      exact ap [iS0, iS1, iS2] R _ _ _ _ e5
    rw [es, eb, q_cons, q1, RS.then_nx, q_cons, q2, RS.then_nx, q_cons, q3, RS.then_nx, q_cons, q4, RS.then_nx, q_cons, q5, RS.then_nx, q6]
    rw [rowsD_of]
    simp [q_set, q_put, q_expr, q_ret, q_retN, q_ife, q_cons, q_nil, q_cst, q_bin, q_neg, q_cmp, q_and, q_or, q_not, q_eife, q_tup, q_lst, q_dic, q_ix, q_slc, q_cal, q_blt, q_enil, q_econs, q_met, q_raise, r_for, r_lc, r_var, r_ix_ob, r_sl_ob, r_put_ob, r_len_ob, r_tup_ob, r_lst_ob, r_addl, r_app, r_it_ob, r_in_ob, r_nin_ob, optI, Rf.start, atI_0, z5, sizeLine]
  intro k
  induction k with
  | zero =>
    intro N hN p q ns t h ht P
    obtain ⟨M, rfl⟩ : ∃ M, N = M + 1 := ⟨N - 1, by omega⟩
    cases t with
    | say r => simp [wT] at ht
    | hear r => simp [wT] at ht
    | _ => exact ⟨_, h, plain M p _ h rfl (by simp), by simpa only [wT] using ht, P, Kp.refl⟩
  | succ k ih =>
    intro N hN p q ns t h ht P
    obtain ⟨M, rfl⟩ : ∃ M, N = M + 1 := ⟨N - 1, by omega⟩
    cases t with
    | say r =>
      simp only [wT] at ht
      obtain ⟨r', h', e, l, w, P', k'⟩ := rwc k ih M (by omega) p q ns r cS (.inl rfl) h ht.1 ht.2 P
      exact ⟨.say r', h', e, by simp only [wT]; exact ⟨l, w⟩, P', k'⟩
    | hear r =>
      simp only [wT] at ht
      obtain ⟨r', h', e, l, w, P', k'⟩ := rwc k ih M (by omega) p q ns r cH (.inr rfl) h ht.1 ht.2 P
      exact ⟨.hear r', h', e, by simp only [wT]; exact ⟨l, w⟩, P', k'⟩
    | _ => exact ⟨_, h, plain M p _ h rfl (by simp), by simpa only [wT] using ht, P, Kp.refl⟩
end K08
end

section
namespace K08
open PySem PySem.Spec PyProof.Rows L2 Rf
theorem tb_of {nms : List LC} : ∀ {kvs : List (D × D)}, TB nms kvs → ∃ tb : Tbl, kvs = kvT tb ∧ ∀ x ∈ tb, okT nms 3 x.2 2
  | [], _ => ⟨[], rfl, by simp⟩
  | x :: kvs, h => by
    obtain ⟨s, t, rfl, ho⟩ := h x List.mem_cons_self
    obtain ⟨tb, e, a⟩ := tb_of fun y hy => h y (List.mem_cons_of_mem _ hy)
    refine ⟨(s, t) :: tb, by rw [e]; rfl, fun y hy => ?_⟩
    rcases List.mem_cons.mp hy with rfl | hy
    · exact ho
    · exact a y hy
theorem strs_inj : ∀ {a b : List LC}, a.map D.str = b.map D.str → a = b
  | [], [], _ => rfl
  | [], _ :: _, e => by simp at e
  | _ :: _, [], e => by simp at e
  | x :: a, y :: b, e => by
    simp only [List.map_cons, List.cons.injEq, D.str.injEq] at e
    rw [e.1, strs_inj e.2]
theorem toD_nm {u : T} {s : LC} (e : toD u = toD (.nm s)) : u = .nm s := by cases u <;> simp [toD] at e; rw [e]
theorem toD_du {u : T} {s : LC} (e : toD u = toD (.du s)) : u = .du s := by cases u <;> simp [toD] at e; rw [e]
theorem toD_isN {u t : T} (e : toD u = toD t) : isN u = isN t := by cases u <;> cases t <;> simp [toD] at e <;> rfl
theorem ti_gt {nms : List LC} {tb : Tbl} (I : TI nms nms.length (kvT tb)) {i : Nat} {s : LC} (hs : nms[i]? = some s) : ∃ u, gt tb s = some u ∧ (nmO u = none ∨ ∃ s', nms[i + 1]? = some s' ∧ nmO u = some s') := by
  obtain ⟨t, e, ho, q⟩ := I.2 i s (List.getElem?_eq_some_iff.mp hs).1 hs
  rw [kvT_get] at e
  cases g : gt tb s with
  | none => rw [g] at e; simp at e
  | some u =>
    rw [g] at e
    simp only [Option.map_some, Option.some.injEq] at e
    refine ⟨u, rfl, ?_⟩
    rcases q with q | ⟨s', hs', rfl | rfl⟩
    · refine .inl ?_
      have n := (toD_isN e).trans q
      rw [nmO_isN] at n
      simpa using n
    · exact .inr ⟨s', hs', by rw [toD_nm e]; rfl⟩
    · exact .inr ⟨s', hs', by rw [toD_du e]; rfl⟩
theorem ti_lead {nms : List LC} {tb : Tbl} (I : TI nms nms.length (kvT tb)) : ∀ (j i : Nat) (s : LC), i + j + 1 = nms.length → nms[i]? = some s → LT tb (.nm s) := by
  intro j
  induction j with
  | zero =>
    intro i s hi hs
    obtain ⟨u, g, q⟩ := ti_gt I hs
    rcases q with q | ⟨s', hs', _⟩
    · exact (LT.step (t := .nm s) rfl g).mpr ⟨0, .stop q⟩
    · have := (List.getElem?_eq_some_iff.mp hs').1; omega
  | succ j ih =>
    intro i s hi hs
    obtain ⟨u, g, q⟩ := ti_gt I hs
    rcases q with q | ⟨s', hs', q⟩
    · exact (LT.step (t := .nm s) rfl g).mpr ⟨0, .stop q⟩
    · exact (LT.step (t := .nm s) rfl g).mpr ((LT.nm q).mpr (ih (i + 1) s' (by omega) hs'))
/-- the drawn table -/
theorem drawn_ok {nms : List LC} {kvs : List (D × D)} (hT : TB nms kvs) (I : TI nms nms.length kvs) (nd : nms.Nodup) (n3 : nms.length ≤ 3) (ws : List LC) (hws : ∀ s ∈ nms, s ∈ ws) :
    ∃ tb : Tbl, kvs = kvT tb ∧ kys tb = nms ∧ WB ws 3 tb ∧ dueD tb = .non := by
  obtain ⟨tb, rfl, ho⟩ := tb_of hT
  have ek : kys tb = nms := by
    have := I.1
    rw [kvT_keys, List.take_length] at this
    exact strs_inj this
  have el : tb.length = nms.length := by rw [← ek]; simp [kys]
  refine ⟨tb, rfl, ek, ⟨by rw [ek]; exact nd, by omega, fun x hx => (wT_of hws 2).1 _ (ho x hx)⟩, ?_⟩
  have f1 : ftA (kys tb) tb = none := by
    rw [ftA_none, ek]
    exact fun x hx => ft_ok 2 _ (ho x hx)
  have f2 : (kys tb).find? (fun s => !lb tb s) = none := by
    rw [List.find?_eq_none, ek]
    intro s hs
    obtain ⟨i, hi⟩ := List.mem_iff_getElem?.mp hs
    have il := (List.getElem?_eq_some_iff.mp hi).1
    have := lb_true (ti_lead I (nms.length - 1 - i) i s (by omega) hi)
    simp [this]
  unfold dueD
  rw [f1, f2]
theorem due_flat (tb : Tbl) : flat (dueD tb) = true := by
  unfold dueD
  split
  · rename_i f _; cases f <;> rfl
  · split <;> rfl
theorem flat_self {d : D} (h : flat d = true) : eqv d d = true := by
  unfold flat at h
  rw [Bool.and_eq_true] at h
  exact eqv_refl _ h.1
theorem r_eqd {cs : List (List D)} {h : Hs} {n m : Nat} {lk lk' : Bool} {ks ls : List (D × D)} (e1 : h[n]? = some (.dic lk false ks)) (e2 : h[m]? = some (.dic lk' false ls)) : cmpA cs .eq (.ob n) (.ob m) h = (ofO (eqKV ks ls) h).bind fun b h => .ok (.bl b) h := by
  have q : dicB (.ob n) (.ob m) h = some (ks, ls) := by simp only [dicB, e1, e2]
  simp only [cmpA, q]
variable {W : Wd} (hW : Has W) (L : Nat)
include hW
theorem pool_ok (N : Nat) (hN : 1 ≤ N) (ns : List Int) (d : D) (h : Hs) (hl : bltC W .list [d] h = .ok (.ob h.length) (h ++ [.lst (ns.map D.int)])) :
    ∃ p q h', callF W L N 2 [d] h = .ok (.ob p) h' ∧ PO p q ns h' := by
  obtain ⟨M, rfl⟩ : ∃ M, N = M + 1 := ⟨N - 1, by omega⟩
  refine ⟨h.length + 1, h.length, h ++ [.lst (ns.map D.int)] ++ [.lst [.int 0, .ob h.length, .int (-1)]], ?_, ⟨by omega, 0, -1, by omega, ?_, lk_app lk_new⟩⟩
  · rw [callF_s (hW 2 _ (by decide) rfl) rfl]
    simp [q_set, q_put, q_expr, q_ret, q_retN, q_ife, q_cons, q_nil, q_cst, q_bin, q_neg, q_cmp, q_and, q_or, q_not, q_eife, q_tup, q_lst, q_dic, q_ix, q_slc, q_cal, q_blt, q_enil, q_econs, q_met, q_raise, r_for, r_lc, r_var, r_ix_ob, r_sl_ob, r_put_ob, r_len_ob, r_tup_ob, r_lst_ob, r_addl, r_app, r_it_ob, r_in_ob, r_nin_ob, optI, Rf.start, f__law_pool, hl, sizeLine]
  · have := lk_new (h := h ++ [.lst (ns.map D.int)]) (o := .lst [.int 0, .ob h.length, .int (-1)])
    rw [List.length_append] at this
    exact this
abbrev i1Y : S := .put (.var 2) (.var 4) (.cal 9 [(.var 1), (.ix (.var 2) (.var 4))])
abbrev i2Y : S := .ife (.cmp .eq (.cal 1 [(.var 1), (.cst (.int 5))]) (.cst (.int 0)))
      [.put (.var 2) (.var 4) (.tup [(.ix (.lst [(.cst (.str ['n', 'a', 'm', 'e'])), (.cst (.str ['d', 'u', 'a', 'l']))]) (.cal 1 [(.var 1), (.cst (.int 2))])), (.ix (.var 3) (.cal 1 [(.var 1), (.blt .len [(.var 3)])]))])]
      []
abbrev bodyY : List S := [i1Y, i2Y]
theorem ent_put {ws : List LC} {tb : Tbl} (a : ∀ x ∈ tb, wT ws 4 x.2 2) {s : LC} {t : T} (ht : wT ws 4 t 2) : ∀ x ∈ tpt tb s t, wT ws 4 x.2 2 := by
  intro x hx
  obtain ⟨y, hy, rfl⟩ := List.mem_map.mp hx
  split
  · exact ht
  · exact a y hy
theorem y_loop (M : Nat) (hM : 6 ≤ M) (ws : List LC) (hz1 : cZy ∈ ws) (hz2 : cUb ∈ ws) (p q y z : Nat) (ns : List Int) (nms : List LC) (n0 : 0 < nms.length) (n3 : nms.length ≤ 3) (hws : ∀ s ∈ nms, s ∈ ws) (hyp : y ≠ p) (hyq : y ≠ q) (hzp : z ≠ p) (hzy : z ≠ y) (d : Option D) :
    ∀ (xs : List LC), (∀ s ∈ xs, s ∈ nms) → xs.Nodup → ∀ (tb : Tbl) (s4 : Option D) (h : Hs), kys tb = nms → (∀ x ∈ tb, wT ws 4 x.2 2) → (∀ s ∈ xs, ∃ t, gt tb s = some t ∧ wT ws 3 t 2) →
    h[y]? = some (.dic false false (kvT tb)) → h[z]? = some (.lst (nms.map D.str)) → PO p q ns h →
    ∃ (tb' : Tbl) (h' : Hs) (s4' : Option D), forI (.keep z (.lst (nms.map D.str))) (fT W L (callF W L M) (.nm 4) bodyY) (xs.map D.str) [d, some (.ob p), some (.ob y), some (.ob z), s4, none, none] h = .ok (.nx [d, some (.ob p), some (.ob y), some (.ob z), s4', none, none]) h' ∧
      kys tb' = nms ∧ (∀ x ∈ tb', wT ws 4 x.2 2) ∧ h'[y]? = some (.dic false false (kvT tb')) := by
  intro xs
  induction xs with
  | nil =>
    intro _ _ tb s4 h hk ha hg hy hz P
    exact ⟨tb, h, s4, forI_nil hz, hk, ha, hy⟩
  | cons s xs ih =>
    intro hs nd tb s4 h hk ha hg hy hz P
    rw [List.nodup_cons] at nd
    obtain ⟨t, g, w⟩ := hg s List.mem_cons_self
    have hsk : s ∈ kys tb := by rw [hk]; exact hs s List.mem_cons_self
    have tl : tb.length = nms.length := by rw [← hk]; simp [kys]
    obtain ⟨t1, h1, e1, w1, P1, k1⟩ := spoil_ok hW L hz1 hz2 2 M (by omega) p q ns t h w P
    have y1 := k1.2 y _ hyp hy
    have z1 := k1.2 z _ hzp hz
    have yl := lk_lt y1
    have kl : (kvT tb).length < 16777216 := by rw [kvT_len]; omega
    have a1 : evalS W L (callF W L M) none i1Y [d, some (.ob p), some (.ob y), some (.ob z), some (.str s), none, none] h = .ok (.nx [d, some (.ob p), some (.ob y), some (.ob z), some (.str s), none, none]) (h1.set y (.dic false false (kvT (tpt tb s t1)))) := by
      simp [q_set, q_put, q_expr, q_ret, q_retN, q_ife, q_cons, q_nil, q_cst, q_bin, q_neg, q_cmp, q_and, q_or, q_not, q_eife, q_tup, q_lst, q_dic, q_ix, q_slc, q_cal, q_blt, q_enil, q_econs, q_met, q_raise, r_for, r_lc, r_var, r_ix_ob, r_sl_ob, r_put_ob, r_len_ob, r_tup_ob, r_lst_ob, r_addl, r_app, r_it_ob, r_in_ob, r_nin_ob, optI, Rf.start, hy, kvT_okK, kvT_get, g, e1, y1, kl, kvT_put hsk, sizeLine]
    obtain ⟨hb, ehb⟩ : ∃ hb, hb = h1.set y (.dic false false (kvT (tpt tb s t1))) := ⟨_, rfl⟩
    rw [← ehb] at a1
    have yb : hb[y]? = some (.dic false false (kvT (tpt tb s t1))) := by rw [ehb]; simp [yl]
    have zb : hb[z]? = some (.lst (nms.map D.str)) := by rw [ehb, List.getElem?_set_ne (Ne.symm hzy)]; exact z1
    have Pb : PO p q ns hb := by rw [ehb]; exact P1.set hyp hyq
    have hkb : kys (tpt tb s t1) = nms := by rw [kys_put]; exact hk
    have hab := ent_put hW ha w1 (s := s)
    have hsb : s ∈ kys (tpt tb s t1) := by rw [kys_put]; exact hsk
    have klb : (kvT (tpt tb s t1)).length < 16777216 := by rw [kvT_len]; simp [tpt]; omega
    obtain ⟨v, h2, e2, v0, v5, P2, k2⟩ := takeN hW L M p q (by omega) ns 5 (by decide) (by decide) hb Pb
    have y2 := k2.2 y _ hyp yb
    have z2 := k2.2 z _ hzp zb
    have fin : ∀ (tb2 : Tbl) (h3 : Hs), kys tb2 = nms → (∀ x ∈ tb2, wT ws 4 x.2 2) → (∀ s' ∈ xs, gt tb2 s' = gt tb s') → h3[y]? = some (.dic false false (kvT tb2)) → h3[z]? = some (.lst (nms.map D.str)) → PO p q ns h3 →
        evalS W L (callF W L M) none i2Y [d, some (.ob p), some (.ob y), some (.ob z), some (.str s), none, none] hb = .ok (.nx [d, some (.ob p), some (.ob y), some (.ob z), some (.str s), none, none]) h3 →
        ∃ (tb' : Tbl) (h' : Hs) (s4' : Option D), forI (.keep z (.lst (nms.map D.str))) (fT W L (callF W L M) (.nm 4) bodyY) ((s :: xs).map D.str) [d, some (.ob p), some (.ob y), some (.ob z), s4, none, none] h = .ok (.nx [d, some (.ob p), some (.ob y), some (.ob z), s4', none, none]) h' ∧
          kys tb' = nms ∧ (∀ x ∈ tb', wT ws 4 x.2 2) ∧ h'[y]? = some (.dic false false (kvT tb')) := by
      intro tb2 h3 c1 c2 c3 c4 c5 c6 c7
      obtain ⟨tb', h', s4', e, r⟩ := ih (fun s' hs' => hs s' (List.mem_cons_of_mem _ hs')) nd.2 tb2 (some (.str s)) h3 c1 c2 (fun s' hs' => by rw [c3 s' hs']; exact hg s' (List.mem_cons_of_mem _ hs')) c4 c5 c6
      refine ⟨tb', h', s4', ?_, r⟩
      rw [List.map_cons, forI_nx (h' := h3) (σ' := [d, some (.ob p), some (.ob y), some (.ob z), some (.str s), none, none]) (show Rf.same (.keep z (.lst (nms.map D.str))) h from hz)]
      · exact e
      · rw [fT_some (σ1 := [d, some (.ob p), some (.ob y), some (.ob z), some (.str s), none, none]) rfl]
        rw [q_cons, a1, RS.then_nx, q_cons, c7, RS.then_nx, q_nil]
    have gne : ∀ (t' : T) (tb0 : Tbl), s ∈ kys tb0 → ∀ s' ∈ xs, gt (tpt tb0 s t') s' = gt tb0 s' := by
      intro t' tb0 h0 s' hs'
      rw [gt_put h0, if_neg]
      rintro rfl; exact nd.1 hs'
    by_cases hv : v = 0
    · subst hv
      obtain ⟨v3, h3, e3, a3, b3, P3, k3⟩ := takeN hW L M p q (by omega) ns 2 (by decide) (by decide) (h2 ++ [.lst [.str cN, .str cU]]) P2.app
      have hp2 := P2.lt
      have l3 := k3.2 h2.length _ (by omega) lk_new
      have y3 := k3.2 y _ hyp (lk_app y2)
      have z3 := k3.2 z _ hzp (lk_app z2)
      obtain ⟨v4, h4, e4, a4, b4, P4, k4⟩ := takeN hW L M p q (by omega) ns nms.length (by omega) (by omega) h3 P3
      have y4 := k4.2 y _ hyp y3
      have z4 := k4.2 z _ hzp z3
      have yl4 := lk_lt y4
      obtain ⟨x, hx, ix⟩ : ∃ x, x ∈ nms ∧ atI (nms.map D.str) v4 = some (.str x) := by
        obtain ⟨d0, hd, e⟩ := atI_some (xs := nms.map D.str) a4 (by simpa using b4)
        obtain ⟨x, hx, rfl⟩ := List.mem_map.mp hd
        exact ⟨x, hx, e⟩
      have hv3 : v3 = 0 ∨ v3 = 1 := by omega
      have done : ∀ t2 : T, wT ws 4 t2 2 → evalS W L (callF W L M) none i2Y [d, some (.ob p), some (.ob y), some (.ob z), some (.str s), none, none] hb = .ok (.nx [d, some (.ob p), some (.ob y), some (.ob z), some (.str s), none, none]) (h4.set y (.dic false false (kvT (tpt (tpt tb s t1) s t2)))) →
          ∃ (tb' : Tbl) (h' : Hs) (s4' : Option D), forI (.keep z (.lst (nms.map D.str))) (fT W L (callF W L M) (.nm 4) bodyY) ((s :: xs).map D.str) [d, some (.ob p), some (.ob y), some (.ob z), s4, none, none] h = .ok (.nx [d, some (.ob p), some (.ob y), some (.ob z), s4', none, none]) h' ∧
          kys tb' = nms ∧ (∀ x ∈ tb', wT ws 4 x.2 2) ∧ h'[y]? = some (.dic false false (kvT tb')) := by
        intro t2 w2 e9
        refine fin (tpt (tpt tb s t1) s t2) _ (by rw [kys_put]; exact hkb) (ent_put hW hab w2) (fun s' hs' => ?_) (by simp [yl4]) (by rw [List.getElem?_set_ne (Ne.symm hzy)]; exact z4) (P4.set hyp hyq) e9
        rw [gne t2 _ hsb s' hs', gne t1 _ hsk s' hs']
      rcases hv3 with rfl | rfl
      · have kp := kvT_put (t := .nm x) hsb
        simp only [toD] at kp
        refine done (.nm x) (by simp only [wT]; exact hws x hx) ?_
        simp [q_set, q_put, q_expr, q_ret, q_retN, q_ife, q_cons, q_nil, q_cst, q_bin, q_neg, q_cmp, q_and, q_or, q_not, q_eife, q_tup, q_lst, q_dic, q_ix, q_slc, q_cal, q_blt, q_enil, q_econs, q_met, q_raise, r_for, r_lc, r_var, r_ix_ob, r_sl_ob, r_put_ob, r_len_ob, r_tup_ob, r_lst_ob, r_addl, r_app, r_it_ob, r_in_ob, r_nin_ob, optI, Rf.start, e2, e3, l3, atI_0, atI_1, z3, e4, z4, ix, y4, kvT_okK, klb, kp, sizeLine]
      · have kp := kvT_put (t := .du x) hsb
        simp only [toD] at kp
        refine done (.du x) (by simp only [wT]; exact hws x hx) ?_
        simp [q_set, q_put, q_expr, q_ret, q_retN, q_ife, q_cons, q_nil, q_cst, q_bin, q_neg, q_cmp, q_and, q_or, q_not, q_eife, q_tup, q_lst, q_dic, q_ix, q_slc, q_cal, q_blt, q_enil, q_econs, q_met, q_raise, r_for, r_lc, r_var, r_ix_ob, r_sl_ob, r_put_ob, r_len_ob, r_tup_ob, r_lst_ob, r_addl, r_app, r_it_ob, r_in_ob, r_nin_ob, optI, Rf.start, e2, e3, l3, atI_0, atI_1, z3, e4, z4, ix, y4, kvT_okK, klb, kp, sizeLine]
    · refine fin (tpt tb s t1) h2 hkb hab (gne t1 tb hsk) y2 z2 P2 ?_
      simp [q_set, q_put, q_expr, q_ret, q_retN, q_ife, q_cons, q_nil, q_cst, q_bin, q_neg, q_cmp, q_and, q_or, q_not, q_eife, q_tup, q_lst, q_dic, q_ix, q_slc, q_cal, q_blt, q_enil, q_econs, q_met, q_raise, r_for, r_lc, r_var, r_ix_ob, r_sl_ob, r_put_ob, r_len_ob, r_tup_ob, r_lst_ob, r_addl, r_app, r_it_ob, r_in_ob, r_nin_ob, optI, Rf.start, e2, hv]
theorem law_run (hE : HasE W) (hL : 4 ≤ L) (N : Nat) (hN : 10 ≤ N) (ns : List Int) (d : D) (h : Hs) (hl : bltC W .list [d] h = .ok (.ob h.length) (h ++ [.lst (ns.map D.int)])) :
    ∃ h', callF W L N 19 [d] h = .ok (.bl true) h' := by
  obtain ⟨M, rfl⟩ : ∃ M, N = M + 1 := ⟨N - 1, by omega⟩
  rw [callF_s (hW 19 _ (by decide) rfl) rfl]
  obtain ⟨p, q, h1, e1, P1⟩ := pool_ok hW L M (by omega) ns d h hl
  obtain ⟨y, kvs, nms, h2, e2, hT, hI, nd, n0, n3, hok, y2, P2, _, hyp⟩ := table_ok hW L M p q (by omega) ns h1 P1
  have hyq : y ≠ q := by
    obtain ⟨_, _, _, _, _, e⟩ := P2
    rintro rfl
    rw [y2] at e; cases e
  obtain ⟨tb, rfl, hk, B, hdue⟩ := drawn_ok hT hI nd n3 (nms ++ [cZy, cUb]) (fun s hs => List.mem_append_left _ hs)
  have hz1 : cZy ∈ nms ++ [cZy, cUb] := List.mem_append_right _ (by simp)
  have hz2 : cUb ∈ nms ++ [cZy, cUb] := List.mem_append_right _ (by simp)
  -- the drawn table is told to be good
  have ydict := r_dict (W := W) y2
  obtain ⟨h3, e3, k3⟩ := told_ok hW hE L (bb := 3) (by omega) hL M (by omega) h2.length B (h2 ++ [.dic false false (kvT tb)]) lk_new
  rw [hdue] at e3
  have yl2 := lk_lt y2
  have y3 : h3[y]? = some (.dic false false (kvT tb)) := k3.1.2 _ _ (by omega) (lk_app y2)
  have P3 : PO p q ns h3 := by
    obtain ⟨h0, a, k, hk', f1, f2⟩ := P2
    have l1 := lk_lt f1
    have l2 := lk_lt f2
    exact ⟨h0, a, k, hk', k3.1.2 _ _ (by omega) (lk_app f1), k3.1.2 _ _ (by omega) (lk_app f2)⟩
  -- the names, the spoiling
  obtain ⟨h4, eh4⟩ : ∃ h4, h4 = h3 ++ [.lst (nms.map D.str)] := ⟨_, rfl⟩
  have y4 : h4[y]? = some (.dic false false (kvT tb)) := by rw [eh4]; exact lk_app y3
  have z4 : h4[h3.length]? = some (.lst (nms.map D.str)) := by rw [eh4]; exact lk_new
  have P4 : PO p q ns h4 := by rw [eh4]; exact P3.app
  have yl3 := lk_lt y3
  have pl3 := P3.lt
  obtain ⟨tb', h5, s4', e5, hk', ha', y5⟩ := y_loop hW L M (by omega) (nms ++ [cZy, cUb]) hz1 hz2 p q y h3.length ns nms n0 n3 (fun s hs => List.mem_append_left _ hs) hyp hyq (by omega) (by omega) (some d) nms (fun s hs => hs) nd tb none h4 hk
    (fun x hx => wT_up (by omega) _ _ (B.ent x hx)) (fun s hs => by
      obtain ⟨t, g, hm⟩ := gt_mem (tb := tb) (s := s) (by rw [hk]; exact hs)
      exact ⟨t, g, B.ent _ hm⟩) y4 z4 P4
  have B' : WB (nms ++ [cZy, cUb]) 4 tb' := ⟨by rw [hk']; exact nd, by have := congrArg List.length hk'; simp only [kys, List.length_map] at this; omega, ha'⟩
  -- what is told, what is due
  obtain ⟨h6, eh6⟩ : ∃ h6, h6 = h5 ++ [.dic false false (kvT tb')] := ⟨_, rfl⟩
  have g6 : h6[h5.length]? = some (.dic false false (kvT tb')) := by rw [eh6]; exact lk_new
  have y6 : h6[y]? = some (.dic false false (kvT tb')) := by rw [eh6]; exact lk_app y5
  have yl5 := lk_lt y5
  obtain ⟨h7, e7, k7, lk7, g7⟩ := told_ok hW hE L (bb := 4) (by omega) hL M (by omega) h5.length B' h6 g6
  have y7 := k7.2 y _ (by omega) y6
  obtain ⟨h8, e8, k8⟩ := due_ok hW L (bb := 4) (by omega) M (by omega) y B' h7 y7
  obtain ⟨h9, e9, k9, lk9, g9⟩ := told_ok hW hE L (bb := 4) (by omega) hL M (by omega) h5.length B' h8 (k8.2 _ _ g7)
  have fl := due_flat tb'
  have fs := flat_self fl
  refine ⟨h9, ?_⟩
  have es : Rf.start f_law.ns [d] = [some d, none, none, none, none, none, none] := rfl
  have eb : f_law.body = [.set 1 (.cal 2 [(.var 0)]), .set 2 (.cal 7 [(.var 1)]), .ife (.cmp .isn (.cal 8 [(.blt .dict [(.var 2)])]) (.cst .non)) [.ret (.cst (.bl false))] [],
    .set 3 (.blt .list [(.var 2)]), .for_ (.nm 4) .seq [(.var 3)] bodyY, .set 5 (.blt .dict [(.var 2)]), .set 6 (.cal 8 [(.var 5)]),
    .ret (.and (.cmp .eq (.var 5) (.var 2)) (.and (.cmp .eq (.var 6) (.cal 10 [(.var 2)])) (.cmp .eq (.cal 8 [(.var 5)]) (.var 6))))] := rfl
  have s1 : evalS W L (callF W L M) none (.set 1 (.cal 2 [(.var 0)])) [some d, none, none, none, none, none, none] h = .ok (.nx [some d, some (.ob p), none, none, none, none, none]) h1 := by simp [q_set, q_put, q_expr, q_ret, q_retN, q_ife, q_cons, q_nil, q_cst, q_bin, q_neg, q_cmp, q_and, q_or, q_not, q_eife, q_tup, q_lst, q_dic, q_ix, q_slc, q_cal, q_blt, q_enil, q_econs, q_met, q_raise, r_for, r_lc, r_var, r_ix_ob, r_sl_ob, r_put_ob, r_len_ob, r_tup_ob, r_lst_ob, r_addl, r_app, r_it_ob, r_in_ob, r_nin_ob, optI, Rf.start, e1]
  have s2 : evalS W L (callF W L M) none (.set 2 (.cal 7 [(.var 1)])) [some d, some (.ob p), none, none, none, none, none] h1 = .ok (.nx [some d, some (.ob p), some (.ob y), none, none, none, none]) h2 := by simp [q_set, q_put, q_expr, q_ret, q_retN, q_ife, q_cons, q_nil, q_cst, q_bin, q_neg, q_cmp, q_and, q_or, q_not, q_eife, q_tup, q_lst, q_dic, q_ix, q_slc, q_cal, q_blt, q_enil, q_econs, q_met, q_raise, r_for, r_lc, r_var, r_ix_ob, r_sl_ob, r_put_ob, r_len_ob, r_tup_ob, r_lst_ob, r_addl, r_app, r_it_ob, r_in_ob, r_nin_ob, optI, Rf.start, e2]
  have s3 : evalS W L (callF W L M) none (.ife (.cmp .isn (.cal 8 [(.blt .dict [(.var 2)])]) (.cst .non)) [.ret (.cst (.bl false))] []) [some d, some (.ob p), some (.ob y), none, none, none, none] h2 = .ok (.nx [some d, some (.ob p), some (.ob y), none, none, none, none]) h3 := by
    simp [q_set, q_put, q_expr, q_ret, q_retN, q_ife, q_cons, q_nil, q_cst, q_bin, q_neg, q_cmp, q_and, q_or, q_not, q_eife, q_tup, q_lst, q_dic, q_ix, q_slc, q_cal, q_blt, q_enil, q_econs, q_met, q_raise, r_for, r_lc, r_var, r_ix_ob, r_sl_ob, r_put_ob, r_len_ob, r_tup_ob, r_lst_ob, r_addl, r_app, r_it_ob, r_in_ob, r_nin_ob, optI, Rf.start, ydict, e3]
  have s4 : evalS W L (callF W L M) none (.set 3 (.blt .list [(.var 2)])) [some d, some (.ob p), some (.ob y), none, none, none, none] h3 = .ok (.nx [some d, some (.ob p), some (.ob y), some (.ob h3.length), none, none, none]) h4 := by
    rw [eh4]
    have ek : (kvT tb).map (·.1) = nms.map D.str := by rw [kvT_keys, hk]
    simp [q_set, q_put, q_expr, q_ret, q_retN, q_ife, q_cons, q_nil, q_cst, q_bin, q_neg, q_cmp, q_and, q_or, q_not, q_eife, q_tup, q_lst, q_dic, q_ix, q_slc, q_cal, q_blt, q_enil, q_econs, q_met, q_raise, r_for, r_lc, r_var, r_ix_ob, r_sl_ob, r_put_ob, r_len_ob, r_tup_ob, r_lst_ob, r_addl, r_app, r_it_ob, r_in_ob, r_nin_ob, optI, Rf.start, y3, ek]
  have s5 : evalS W L (callF W L M) none (.for_ (.nm 4) .seq [(.var 3)] bodyY) [some d, some (.ob p), some (.ob y), some (.ob h3.length), none, none, none] h4 = .ok (.nx [some d, some (.ob p), some (.ob y), some (.ob h3.length), s4', none, none]) h5 := by
    have it : evalEs W (callF W L M) none [(.var 3)] [some d, some (.ob p), some (.ob y), some (.ob h3.length), none, none, none] h4 = .ok [.ob h3.length] h4 := by simp [q_set, q_put, q_expr, q_ret, q_retN, q_ife, q_cons, q_nil, q_cst, q_bin, q_neg, q_cmp, q_and, q_or, q_not, q_eife, q_tup, q_lst, q_dic, q_ix, q_slc, q_cal, q_blt, q_enil, q_econs, q_met, q_raise, r_for, r_lc, r_var, r_ix_ob, r_sl_ob, r_put_ob, r_len_ob, r_tup_ob, r_lst_ob, r_addl, r_app, r_it_ob, r_in_ob, r_nin_ob, optI, Rf.start]
    rw [r_for, it, R.stm_ok, r_it_ob, z4, itO_l, ofO_some, R.stm_ok]
    exact e5
  have s6 : evalS W L (callF W L M) none (.set 5 (.blt .dict [(.var 2)])) [some d, some (.ob p), some (.ob y), some (.ob h3.length), s4', none, none] h5 = .ok (.nx [some d, some (.ob p), some (.ob y), some (.ob h3.length), s4', some (.ob h5.length), none]) h6 := by
    rw [eh6]
    simp [q_set, q_put, q_expr, q_ret, q_retN, q_ife, q_cons, q_nil, q_cst, q_bin, q_neg, q_cmp, q_and, q_or, q_not, q_eife, q_tup, q_lst, q_dic, q_ix, q_slc, q_cal, q_blt, q_enil, q_econs, q_met, q_raise, r_for, r_lc, r_var, r_ix_ob, r_sl_ob, r_put_ob, r_len_ob, r_tup_ob, r_lst_ob, r_addl, r_app, r_it_ob, r_in_ob, r_nin_ob, optI, Rf.start, r_dict (W := W) y5]
  have s7 : evalS W L (callF W L M) none (.set 6 (.cal 8 [(.var 5)])) [some d, some (.ob p), some (.ob y), some (.ob h3.length), s4', some (.ob h5.length), none] h6 = .ok (.nx [some d, some (.ob p), some (.ob y), some (.ob h3.length), s4', some (.ob h5.length), some (dueD tb')]) h7 := by
    simp [q_set, q_put, q_expr, q_ret, q_retN, q_ife, q_cons, q_nil, q_cst, q_bin, q_neg, q_cmp, q_and, q_or, q_not, q_eife, q_tup, q_lst, q_dic, q_ix, q_slc, q_cal, q_blt, q_enil, q_econs, q_met, q_raise, r_for, r_lc, r_var, r_ix_ob, r_sl_ob, r_put_ob, r_len_ob, r_tup_ob, r_lst_ob, r_addl, r_app, r_it_ob, r_in_ob, r_nin_ob, optI, Rf.start, e7]
  have s8 : evalS W L (callF W L M) none (.ret (.and (.cmp .eq (.var 5) (.var 2)) (.and (.cmp .eq (.var 6) (.cal 10 [(.var 2)])) (.cmp .eq (.cal 8 [(.var 5)]) (.var 6))))) [some d, some (.ob p), some (.ob y), some (.ob h3.length), s4', some (.ob h5.length), some (dueD tb')] h7 = .ok (.rt (.bl true)) h9 := by
    simp [q_set, q_put, q_expr, q_ret, q_retN, q_ife, q_cons, q_nil, q_cst, q_bin, q_neg, q_cmp, q_and, q_or, q_not, q_eife, q_tup, q_lst, q_dic, q_ix, q_slc, q_cal, q_blt, q_enil, q_econs, q_met, q_raise, r_for, r_lc, r_var, r_ix_ob, r_sl_ob, r_put_ob, r_len_ob, r_tup_ob, r_lst_ob, r_addl, r_app, r_it_ob, r_in_ob, r_nin_ob, optI, Rf.start, r_eqd g7 y7, eqKV_w B', e8, r_eq fl fl, fs, e9]
  rw [es, eb, q_cons, s1, RS.then_nx, q_cons, s2, RS.then_nx, q_cons, s3, RS.then_nx, q_cons, s4, RS.then_nx, q_cons, s5, RS.then_nx, q_cons, s6, RS.then_nx, q_cons, s7, RS.then_nx, q_cons, s8, RS.then_rt]
  rfl
end K08
end

section
set_option maxHeartbeats 0
namespace K08
open PySem PySem.Spec PyProof.Rows L2 Rf
def fa : List He.Fa := pg.fa
abbrev RO : PySem.W.OpenRow := PySem.W.OpenLaw.row PySem.Challenge.rw_pourparler_k08_check_table
abbrev hk : PySem.W.Hook := He.hookX 5 fa defs [] [] pg.exB
def ob (s : PySem.W.SharedT) : He.AlX := He.obsX 5 fa defs [] [] pg.exB (HandSHeadRun.getT s)
theorem ob_eq (s : PySem.W.SharedT) : ob s = hk.obs s.abs := He.obsX_eq (HandSHeadRun.getT_eq s)
theorem run (w : World) : HandSHeadRun.RunEq RO (PySem.W.view RO.prog [iLaw]) hk ob 6000 loose w := by
  intro os
  kernel_rfl
abbrev depth : Nat := 40
abbrev fuel : Nat := 100000000
end K08
end

section
set_option maxHeartbeats 0
open PySem PySem.W PySem.Calls PyProof.Rows
theorem K08.holds (hrun : ∀ (ns : List Int) (d : Rf.D) (h : Rf.Hs), ns.length ≤ 63 → (d = .ob 0 ∧ h = [.scr ns]) ∨ (d = .con K08.nCon ∧ h = []) → ∃ h', Rf.callF (K08.pg.wd ns) K08.fuel K08.depth K08.nLaw [d] h = .ok (.bl true) h') : PySem.Challenge.rw_pourparler_k08_check_table.Holds := by
  w_on; o_law
  refine HandSHeadRun.head_any (r := OpenLaw.row PySem.Challenge.rw_pourparler_k08_check_table) (q := view (OpenLaw.row PySem.Challenge.rw_pourparler_k08_check_table).prog [K08.iLaw]) (H := K08.hk) (ob := K08.ob) (M := 6000) (loose := K08.loose) (d := HandSHeadRun.topDef (OpenLaw.row PySem.Challenge.rw_pourparler_k08_check_table).prog K08.iLaw) (kwd := []) K08.ob_eq
    (by kernel_rfl) (fun s => by kernel_rfl) K08.run (by kernel_rfl) (by kernel_rfl) (by kernel_rfl) (by rfl) (by first | assumption | decide +kernel) (by decide +kernel) ⟨rfl, rfl, rfl, rfl, rfl, by decide +kernel⟩ ?hw ?hc
  case hw => w_witness2
  case hc =>
    refine Rf.walk_G (l := PySem.Challenge.rw_pourparler_k08_check_table) (n := 63) (k := 2 * K08.depth + 1) (x := "script") (CX := L2.CX0) rfl (by decide) (by kernel_rfl) ⟨rfl, by decide, by decide⟩ ?F (fun _ _ _ _ z => z)
    intro w mg fa h Y G hmg0
    obtain ⟨K, KX, c⟩ := Y
    have hmg : mg ("law" : PySem.Str) = some (.ref fa) := by
      have e : (HandSHeadRun.topDef (OpenLaw.row PySem.Challenge.rw_pourparler_k08_check_table).prog K08.iLaw).name = ("law" : PySem.Str) := by kernel_rfl
      rw [← e]
      exact hmg0
    obtain ⟨fd, sp, hb, hs, hF⟩ := Rf.facts (p := K08.pg) (L := K08.fuel) (n := K08.depth) (f := K08.nLaw) (P := (PySem.Challenge.rw_pourparler_k08_check_table).prog) (w := w) K08.okp rfl rfl rfl K08.ok_law hrun KX G hmg c.t.d c.more
    exact ⟨K, fd, sp, KX, hb, hs, hF⟩
end

section
open PySem
theorem PySem.Challenge.cw_pourparler_k08_check_table_holds : PySem.Challenge.rw_pourparler_k08_check_table.Holds := by
  refine K08.holds fun ns d h _ q => ?_
  have hW : K08.Has (K08.pg.wd ns) := fun i fi _ e => e
  rcases q with ⟨rfl, rfl⟩ | ⟨rfl, rfl⟩
  · exact K08.law_run hW K08.fuel ⟨rfl, rfl, rfl, rfl⟩ (by decide) K08.depth (by decide) ns (.ob 0) [.scr ns] rfl
  · exact K08.law_run hW K08.fuel ⟨rfl, rfl, rfl, rfl⟩ (by decide) K08.depth (by decide) ns (.con K08.nCon) [] rfl
end
