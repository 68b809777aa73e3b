import PyProof.Rows.All
import Wide.All
import OpenK.AllK
import Wide.FinOn
import HandS.ForMost
import HandS.ForExc
import HandS.Defaults
import HandS.Ends
import HandS.Head0
import HandS.Head1
import HandS.Head2
import HandS.HeadEnd
import HandS.HeadHook1
import HandS.HeadHook2
import HandS.HeadHook3
import HandS.HeadHook4
import HandS.Lambda
import KE.KSortTupG
import KE.KExcIs
import HandS.ExcField
import HandS.ExcInit
import HandS.TryMany
import HandS.Zip
import KE.GoesMore
import KE.GoesZip
import HandS.Flow
import HandS.Wide
import HandS.TupAny
import HandS.Conv
import HandS.TupLe
import HandS.IsInst
import KE.KDictPairs
import HandS.More
import HandS.Dict
import HandS.List
import HandS.RaiseMore
import HandS.TupLen
import HandS.Text
import HandS.Style
import HandS.ListItems
import HandS.IterVal
import HandS.OwnIter
import PyProof.TupleOfGen
import HandS.CallLocal
import HandS.CallRecv
import PyProof.AutoSeq1
import PyProof.StrLaws
import HandS.StrMore
import HandS.Deep
import HandS.NoneIn
import HandS.DictComp
import HandS.SortRule
import KE.KDictWalk
import KE.KDictSum
import KE.KDictList
import HandS.Rev
import HandS.DictSub
import PyProof.InstSpecial
import PyProof.RulesMatchSeq
import PyProof.Rows.MatchSeqLen
import PyProof.Rows.TupIter
import PyProof.DelItemList
import PyProof.SliceSyntax
import HandS.Steps
import HandS.EndBits
import PySem.Challenge.RW_pourparler_k18_contexts
set_option Elab.async false
set_option linter.all false
set_option maxRecDepth 100000
section
namespace Rf
open PySem PySem.Spec PyProof.Rows L2

/-! ## defs, where no container's text is under way -/
structure FnG (P : Program) (w : World) (K : PySem.W.Frag) (mg : Str → Option Value) (base : Heap) (CX : CXT) (k : Nat) (f : Addr) (fd : FuncData) (ps : List Str) (sp : Sp) : Prop where
  ln : ∀ vs H Q E, sp vs H Q E → vs.length = ps.length
  go : ∀ (A : Around) (out : List Env) (s : Shared) (H : Hp) (ar : Args) (us : List Value) (vs : List V) (Q : VK) (E : XK),
    A.guards = some [] → Room k A → Env0 P w K mg base A out s H → BindsTo s fd ar (ps.zip us) → Vals vs us → sp vs H Q E →
      codeAny (model P w) A (.call (.ref f) ar) (CR CX out P w H s Q E) s
theorem FnG.imp {P : Program} {w : World} {K : PySem.W.Frag} {mg : Str → Option Value} {base : Heap} {CX : CXT} {k : Nat} {f : Addr} {fd : FuncData} {ps : List Str} {sp sp' : Sp} (F : FnG P w K mg base CX k f fd ps sp)
    (h : ∀ vs H Q E, sp' vs H Q E → sp vs H Q E) : FnG P w K mg base CX k f fd ps sp' where
  ln := fun vs H Q E q => F.ln vs H Q E (h vs H Q E q)
  go := fun A out s H ar us vs Q E g hr e0 hb hv q => F.go A out s H ar us vs Q E g hr e0 hb hv (h vs H Q E q)
/-- a call's result, looked at -/
theorem cr_end {X : Cx} {CX : CXT} {pins : List (Addr × Obj)} {σ : L2.St} {H : Hp} {s s' : Shared} {Q : VK} {E : XK} {r : Result} (I : Inv X pins σ H s)
    (hx : ∀ e, r = .error e → CX X.stack H s E e s' → X.xe e s') (h : CR CX X.stack X.prog X.w H s Q E r s') :
    match r with | .ok (.ret u) => EP X pins σ Q u s' | .ok _ => False | .error e => X.xe e s' := by
  rcases r with e | fl
  · exact hx e rfl h
  · rcases fl with _ | _ | _ | u
    · exact h
    · exact h
    · exact h
    · exact I.after h
theorem run_G {X : Cx} {CX : CXT} {k : Nat} {f : Addr} {fd : FuncData} {ps : List Str} {sp : Sp} {E : L2.St → XK} {pins : List (Addr × Obj)} {σ : L2.St} {H : Hp} {s : Shared} {Q : VK} {us : List Value} {vs : List V}
    (F : FnG X.prog X.w X.K X.mg X.base CX k f fd ps sp) (g : X.A.guards = some []) (hr : Room k X.A) (hb : Binds X.K fd ps []) (hx : PassesAt CX X σ (E σ))
    (I : Inv X pins σ H s) (r : Vals vs us) (h : sp vs H Q (E σ)) : wpAny (model X.prog X.w) X.A (call (.ref f) us) (EP X pins σ Q) X.xe s := by
  have b := hb s us I.kIn (by rw [List.append_nil, ← r.length]; exact F.ln _ _ _ _ h)
  rw [List.append_nil] at b
  apply wpAny_call
  refine codeAny_mono (F.go X.A X.stack s H ⟨us, []⟩ us vs Q (E σ) g hr I.env0 b r h) fun r' s' q => ?_
  have z := cr_end I (fun e _ c => hx pins H s e s' I c) q
  rcases r' with e | fl
  · exact z
  · rcases fl with _ | _ | _ | u
    · exact z
    · exact z
    · exact z
    · exact z
/-- a def's call, by its body -/
theorem fn_go {CX : CXT} {P : Program} {w : World} {K : PySem.W.Frag} {mg : Str → Option Value} {base : Heap} {k : Nat} {f : Addr} {fd : FuncData} {name qual : Str} {params : Arguments} {body : List Stmt} {scope : Scope} {dvs : List V} {kws : List (Str × V)}
    {N ps : List Str} (F : FunD K name qual params body scope dvs kws f fd) (S : FnScope N ps scope)
    {A : Around} {out : List Env} {s : Shared} {H : Hp} {ar : Args} {us : List Value} {vs : List V} {Q : VK} {E : XK} (hr : Room (k + 1) A) (e0 : Env0 P w K mg base A out s H) (hb : BindsTo s fd ar (ps.zip us)) (r : Vals vs us) (hl : vs.length = ps.length)
    (hbody : ∀ cdv : Value, (∃ (oc : Value) (od : Option Addr) (osl : Array (Option Value)), K.lookup f = some ⟨oc, od, .func fd, osl⟩) → fd.code = cdv → PySem.W.codeIn K cdv qual = true → Room k (A.deeper (envOfC qual scope s.heap.objs.size f cdv)) →
      ∃ t, PSs (cxOf CX P w K mg base N qual scope f cdv A out s H E) body t ∧ t { nx := fun _ H' => Q .non H', rt := Q } (L2.start N vs) H) :
    codeAny (model P w) A (.call (.ref f) ar) (CR CX out P w H s Q E) s := by
  obtain ⟨oc, od, dV, kV, doc, pm, an, cdv, ct, osl, rfl, lk, hcd, _, _⟩ := F.ex
  have keep : ∀ b o, base.get? b = some o → s.heap.get? b = some o := fun b o e => (e0.bs b o e).1
  have KX := e0.mod.kin.keeps keep
  have lim := e0.mod.nolimit.keeps keep
  have hk : ∀ y ∈ ps.zip us, scope.names.lookup y.1 = some .local ∨
      (scope.names.lookup y.1 = some .cell ∧ ((cellsFrom (s.heap.objs.size + 1) scope.names []).lookup y.1).isSome = true) := by
    rintro ⟨n, v⟩ hy
    refine (S.par n (List.of_mem_zip hy).1).imp id fun q => ?_
    exact ⟨q, PySem.W.cellsFrom_some _ _ _ (.inl q)⟩
  apply codeAny_call_function hr.depth (KX _ _ lk) rfl S.co S.gen rfl (PySem.W.codeRec_of KX hcd)
  refine hb _ _ _ _ (wpAny_newFunctionEnv_cells S.kind hk fun env he s1 x => ?_)
  subst he
  refine ⟨lim.keeps x.toInCall.keep, codeAny_func ?_⟩
  obtain ⟨t, ht, hq⟩ := hbody cdv ⟨oc, od, osl, lk⟩ rfl hcd (hr.deeper _)
  have I : Inv (cxOf CX P w K mg base N qual scope f cdv A out s H E) [] (L2.start N vs) H s1 :=
    inv_start S hr.hd e0 hl r x
  refine wpAny_mono (ht.run [] s1 _ H _ I hq) (fun fl s' hs => ?_) fun _ _ q => q
  rcases fl with _ | _ | _ | u
  · obtain ⟨σ', H', J, q⟩ := hs
    exact ⟨.non, H', J.os, J.bare, J.base, J.hok, rfl, q⟩
  · obtain ⟨_, _, _, q⟩ := hs; exact q.elim
  · obtain ⟨_, _, _, q⟩ := hs; exact q.elim
  · obtain ⟨v, σ', H', J, rv, q⟩ := hs
    exact ⟨v, H', J.os, J.bare, J.base, J.hok, rv, q⟩
/-- a def by its body -/
theorem fn_G {CX : CXT} {P : Program} {w : World} {K : PySem.W.Frag} {mg : Str → Option Value} {base : Heap} {k : Nat} {f : Addr} {fd : FuncData} {name qual : Str} {params : Arguments} {body : List Stmt} {scope : Scope} {dvs : List V} {kws : List (Str × V)}
    {N ps : List Str} {sp : Sp} (F : FunD K name qual params body scope dvs kws f fd) (S : FnScope N ps scope) (ln : ∀ vs H Q E, sp vs H Q E → vs.length = ps.length)
    (hbody : ∀ (cdv : Value) (A : Around) (out : List Env) (s : Shared) (H : Hp) (vs : List V) (Q : VK) (E : XK), (∃ (oc : Value) (od : Option Addr) (osl : Array (Option Value)), K.lookup f = some ⟨oc, od, .func fd, osl⟩) → fd.code = cdv → PySem.W.codeIn K cdv qual = true → A.guards = some [] → Room k (A.deeper (envOfC qual scope s.heap.objs.size f cdv)) → sp vs H Q E →
      ∃ t, PSs (cxOf CX P w K mg base N qual scope f cdv A out s H E) body t ∧ t { nx := fun _ H' => Q .non H', rt := Q } (L2.start N vs) H) :
    FnG P w K mg base CX (k + 1) f fd ps sp :=
  ⟨ln, fun A out s H ar us vs Q E g hr e0 hb r hsp => fn_go F S hr e0 hb r (ln _ _ _ _ hsp) fun cdv h1 h2 h3 hr' => hbody cdv A out s H vs Q E h1 h2 h3 g hr' hsp⟩
/-- the law's call -/
theorem law_G {P : Program} {w : World} {K : PySem.W.Frag} {mg mb : Str → Option Value} {CX : CXT} {k : Nat} {fa a : Addr} {fd : FuncData} {x : Str} {sp : Sp} {s₁ : Shared} {vs : List Value} {ns : List Int}
    (KX : K.In s₁.heap) (hns : s₁.heap.Ns mainGlobals mg) (hb : s₁.heap.Ns builtinsNs mb) (hbb : ∀ x : Str, x ≠ "__name__" → mb x = bootBuiltins x) (lim : s₁.heap.NoLimit) (hg : s₁.gens = #[])
    (ha : s₁.heap.get? a = some { cls := .type "list", data := .seq vs.toArray }) (hi : IntsAre vs ns) (hl : ns.length ≤ sizeLine) (hr : Room k callerA)
    (F : ∀ base : Heap, K.In base → base.Ns mainGlobals mg → FnG P w K mg base CX k fa fd [x] sp) (bind : ∀ (s : Shared) (u : Value), BindsTo s fd ⟨[u], []⟩ [(x, u)])
    (hsp : ∀ H : Hp, Only H → SqL K H a (ns.map V.int) → sp [.ref a] H (fun v _ => v = .bl true) fun _ _ _ => False)
    (hCX : ∀ H e s', CX [] H s₁ (fun _ _ _ => False) e s' → False) :
    codeAny (model P w) callerA (.call (.ref fa) ⟨[.ref a], []⟩) (fun r s' => r = .ok (.ret (.bool true)) ∧ OldK s₁.heap s'.heap ∧ s'.os = s₁.os ∧ AllBare s'.gens) s₁ := by
  have main : ∀ H : Hp, Only H → SqL K H a (ns.map V.int) → HOk P w H s₁.heap →
      ((∀ b, H b = none) ∨ ((∀ b, b ≠ a → H b = none) ∧ K.lookup a = none)) →
      codeAny (model P w) callerA (.call (.ref fa) ⟨[.ref a], []⟩) (fun r s' => r = .ok (.ret (.bool true)) ∧
        OldK s₁.heap s'.heap ∧ s'.os = s₁.os ∧ AllBare s'.gens) s₁ := by
    intro H hO hS hok hA
    have hd : ∀ {b : Addr} {o : Obj} {es : Array DictEntry} {ep : Nat}, s₁.heap.get? b = some o → o.data = .dict es ep → H b = none := by
      intro b o es ep e d
      rcases hA with hA | ⟨hA, _⟩
      · exact hA b
      · by_cases hba : b = a
        · subst hba
          rw [ha] at e; cases e
          cases d
        · exact hA b hba
    have ns' : ∀ {b : Addr} {m : Str → Option Value}, s₁.heap.Ns b m → (hidT s₁.heap H).Ns b m := by
      rintro b m ⟨o, es, ep, e, d, r⟩
      exact ⟨o, es, ep, hidT_get e (hd e d), d, r⟩
    have hK : K.In (hidT s₁.heap H) := by
      intro b o e
      refine hidT_get (KX b o e) ?_
      rcases hA with hA | ⟨hA, hn⟩
      · exact hA b
      · refine hA b fun q => ?_
        rw [q, hn] at e; cases e
    have hM : Mod K mg (hidT s₁.heap H) := by
      obtain ⟨mc, h1, h2⟩ := lim
      exact ⟨hK, ns' hns, ⟨mb, ns' hb, hbb⟩, mc, ns' h1, h2⟩
    have e0 : Env0 P w K mg (hidT s₁.heap H) callerA [] s₁ H := by
      refine ⟨rfl, hM, fun b o e => of_hidT e, Nat.le_of_eq (hidT_size _ _), trivial, ?_, hok, .of_eq hg⟩
      intro b hb
      exact absurd (show b ∈ ([] : List Addr) from hb) List.not_mem_nil
    have Z := (F _ hK (ns' hns)).go callerA [] s₁ H ⟨[.ref a], []⟩ [.ref a] [.ref a] _ _ rfl hr e0 (bind s₁ (.ref a)) (.cons rfl .nil) (hsp H hO hS)
    refine codeAny_mono Z fun r s' h => ?_
    rcases r with e | fl
    · exact (hCX H e s' h).elim
    rcases fl with _ | _ | _ | u
    · exact h.elim
    · exact h.elim
    · exact h.elim
    obtain ⟨v, H', os, bare, un, hok', r', q⟩ := h
    obtain rfl : v = .bl true := q
    obtain rfl : u = Value.bool true := r'
    refine ⟨rfl, OldK.of_keep fun b o e => ?_, os, bare⟩
    rcases hO b with z | ⟨ob, xs, z⟩
    · exact un.keep b o e z (fun m => absurd (show b ∈ ([] : List Addr) from m) List.not_mem_nil) List.not_mem_nil
    · obtain ⟨e1, _⟩ := hok b _ z
      obtain ⟨e2, _⟩ := hok' b _ (un.frzs b ob _ z)
      rw [e] at e1; cases e1
      exact e2
  have rv := vals_ints hi
  cases hk : K.lookup a with
  | some o =>
    have e := KX a o hk
    rw [ha] at e; cases e
    refine main (fun _ => none) (fun _ => .inl rfl) ?_ (fun b u z => ?_) (.inl fun _ => rfl)
    · exact .inr ⟨_, vs.toArray, _, hk, rfl, rfl, rfl, by rw [List.size_toArray, hi.length]; exact hl, by simpa using rv⟩
    · cases (show (none : Option HO) = some u from z)
  | none =>
    refine main (fun b => if b = a then some (.frz { cls := .type "list", data := .seq vs.toArray } (.lst (ns.map V.int))) else none) ?_ ?_ ?_ (.inr ⟨fun b hb => if_neg hb, hk⟩)
    · intro b
      by_cases e : b = a
      · exact .inr ⟨_, _, if_pos e⟩
      · exact .inl (if_neg e)
    · exact .inl (.inr ⟨{ cls := .type "list", data := .seq vs.toArray }, if_pos rfl⟩)
    · intro b u z
      by_cases e : b = a
      · have z' := (if_pos e).symm.trans z
        cases z'
        subst e
        exact ⟨ha, by rw [List.length_map]; exact hl, vs, _, rv, ha⟩
      · cases (if_neg e).symm.trans z
/-- the end of the head -/
theorem walk_G {l : PySem.W.OpenLaw} {n k : Nat} {q : Program} {loose : List Str} {XP : (Str → Option Value) → Heap → Prop} {YP : World → Heap → Prop} {d : DefRec} {CX : CXT} {x : Str}
    (hn : l.most = some n) (hn2 : n ≤ sizeLine) (hdf : d.params.defaults = []) (hr : Room k callerA)
    (F : ∀ (w : World) (mg : Str → Option Value) (fa : Addr) (h : Heap), YP w h → h.Ns mainGlobals mg → mg d.name = some (.ref fa) →
      ∃ (K : PySem.W.Frag) (fd : FuncData) (sp : Sp), K.In h ∧ (∀ (s : Shared) (u : Value), BindsTo s fd ⟨[u], []⟩ [(x, u)]) ∧
        (∀ (H : Hp) (a : Addr) (ns : List Int), ns.length ≤ n → Only H → SqL K H a (ns.map V.int) → sp [.ref a] H (fun v _ => v = .bl true) fun _ _ _ => False) ∧
        ∀ base : Heap, K.In base → base.Ns mainGlobals mg → FnG l.prog w K mg base CX k fa fd [x] sp)
    (hCX : ∀ (H : Hp) (s : Shared) (e : Value) (s' : Shared), CX [] H s (fun _ _ _ => False) e s' → False) :
    PySem.W.WalkO q loose XP YP l.row.toRowW d [] (fun f vs => PySem.call f vs) := by
  refine Att.attach_call hn hdf fun w s₀ s₁ mg mb fa o pm cd doc a vs ns G Y ho hd hcd hmg hobj hints hlen hg => ?_
  obtain ⟨K, fd, sp, KX, bd, hs, hF⟩ := F w mg fa _ Y G.T.g hmg
  exact law_G KX G.T.g G.T.b G.T.builtins G.T.nolimit hg hobj hints (Nat.le_trans hlen hn2) hr hF bd
    (fun H hO hS => hs H a ns hlen hO hS) fun H e s' => hCX H s₁ e s'
end Rf
end

section
namespace Rf
open PySem PySem.Spec PyProof.Rows L2

/-! ## data, heaps, programs -/
inductive D where
  | non | bl (b : Bool) | int (i : Int) | str (s : List Char) | tup (xs : List D) | ob (n : Nat) | fn (i : Nat) | con (g : Nat)
  deriving Inhabited
inductive MO where
  | lst (xs : List D)
  | dic (lk t : Bool) (kvs : List (D × D))
  | ins (c : Nat) (fs : List (String × D))
  | scr (xs : List Int)
  /-- a tuple known to have no dict of its own -/
  | ptp (xs : List D)
abbrev Hs := List MO
abbrev Sg := List (Option D)

inductive R (α : Type) where
  | ok (a : α) (h : Hs) | exc (c : Nat) (fs : List (String × D)) (h : Hs) | no
def R.bind {α β : Type} (r : R α) (f : α → Hs → R β) : R β := match r with
  | .ok a h => f a h
  | .exc c fs h => .exc c fs h
  | .no => .no
@[simp] theorem R.bind_ok {α β : Type} (a : α) (h : Hs) (f : α → Hs → R β) : (R.ok a h).bind f = f a h := rfl
@[simp] theorem R.bind_exc {α β : Type} (c fs h) (f : α → Hs → R β) : (R.exc c fs h : R α).bind f = .exc c fs h := rfl
@[simp] theorem R.bind_no {α β : Type} (f : α → Hs → R β) : (R.no : R α).bind f = .no := rfl

mutual
def toPy : D → PyData
  | .non => .none
  | .bl b => .bool b
  | .int i => .int i
  | .str s => .str ⟨(s.map Char.toNat).toArray⟩
  | .tup xs => .tuple (toPys xs)
  | .ob _ => .none
  | .fn _ => .none
  | .con _ => .none
def toPys : List D → List PyData
  | [] => []
  | x :: xs => toPy x :: toPys xs
end
mutual
def pur : D → Bool
  | .tup xs => purs xs
  | .ob _ => false
  | .fn _ => false
  | .con _ => false
  | _ => true
def purs : List D → Bool
  | [] => true
  | x :: xs => pur x && purs xs
end
mutual
def dep : D → Nat
  | .tup xs => deps xs + 1
  | _ => 0
def deps : List D → Nat
  | [] => 0
  | x :: xs => max (dep x) (deps xs)
end
mutual
def eqv : D → D → Bool
  | .non, .non => true
  | .bl a, .bl b => a == b
  | .bl a, .int j => (if a then 1 else 0) == j
  | .int i, .bl b => i == (if b then 1 else 0)
  | .int i, .int j => i == j
  | .str x, .str y => x == y
  | .tup xs, .tup ys => eqvs xs ys
  | _, _ => false
def eqvs : List D → List D → Bool
  | [], [] => true
  | x :: xs, y :: ys => eqv x y && eqvs xs ys
  | _, _ => false
end
def flat (d : D) : Bool := pur d && decide (dep d ≤ 64)

/-- lists of plain lists -/
def lsts (h : Hs) : List D → Option (List (List D))
  | [] => some []
  | .ob n :: r => match h[n]? with
    | some (.lst zs) => if purs zs && decide (deps zs ≤ 50) then (lsts h r).map (zs :: ·) else none
    | _ => none
  | _ :: _ => none
def eqvss : List (List D) → List (List D) → Bool
  | [], [] => true
  | x :: xs, y :: ys => eqvs x y && eqvss xs ys
  | _, _ => false
/-- data with lists in it, read -/
def mapO (f : D → Option PyData) : List D → Option (List PyData)
  | [] => some []
  | x :: xs => match f x with
    | some p => (mapO f xs).map (p :: ·)
    | none => none
def rsv (h : Hs) : Nat → D → Option PyData
  | 0, _ => none
  | k + 1, .ob n => match h[n]? with
    | some (.lst xs) => (mapO (rsv h k) xs).map .list
    | _ => none
  | k + 1, .tup xs => (mapO (rsv h k) xs).map .tuple
  | _ + 1, .non => some .none
  | _ + 1, .bl b => some (.bool b)
  | _ + 1, .int i => some (.int i)
  | _ + 1, .str s => some (.str ⟨(s.map Char.toNat).toArray⟩)
  | _ + 1, _ => none
def eqR (h : Hs) (x y : D) : Option Bool := match rsv h 70 x, rsv h 70 y with
  | some p, some q => if SeqAt.shaped p && SeqAt.shaped q then some (PyData.eqv p q) else none
  | _, _ => none
/-- == -/
def eqD (h : Hs) (x y : D) : Option Bool :=
  match x, y with
  | .ob n, .ob m => match h[n]?, h[m]? with
    | some (.lst xs), some (.lst ys) => if purs xs && purs ys && decide (deps xs ≤ 60) && decide (deps ys ≤ 60) then some (eqvs xs ys) else match lsts h xs, lsts h ys with
      | some us, some ws => some (eqvss us ws)
      | _, _ => eqR h x y
    | _, _ => none
  | _, _ => if flat x && flat y then some (eqv x y) else eqR h x y

inductive Op where | add | sub | mul | fdiv | mod
  deriving DecidableEq
inductive Cp where | eq | ne | lt | le | gt | ge | in_ | nin | is_ | isn
  deriving DecidableEq
/-- what is walked -/
inductive Ik where | seq | rng1 | rng2 | keys | items | vals | zip | enum | rev | own (c : Nat) (F : String)
  deriving DecidableEq
inductive Tg where | nm (i : Nat) | tp (is : List Nat) | tn (is : List Nat) (j : Nat)
/-- a tuple of names -/
def Tg.tpl : Tg → Bool
  | .nm _ => false
  | _ => true
/-- built-in functions -/
inductive Bf where | len | abs | int | str | list | tuple | dict | min2 | max2 | isTup | isStr | isBool | isInt | isList | isDict | repr | sorted | bool | sum | all | ptup
  deriving DecidableEq

/-- methods of built-in values -/
inductive Mt where | update | append | extend | pop | insert | reverse | join | startswith | find | isalnum | get | lower | index
  deriving DecidableEq
inductive E where
  | var (i : Nat) | cst (d : D) | glb (g : Nat) | gst (g : Nat) (s : List Char) | gni (g : Nat) (i : Int) | fnv (f : Nat)
  | bin (o : Op) (a b : E) | neg (a : E)
  | cmp (o : Cp) (a b : E) | chn (o o' : Cp) (a b c : E)
  | and (a b : E) | or (a b : E) | not (a : E) | ife (c a b : E)
  | tup (es : List E) | lst (es : List E) | dic (t : Bool) (ks vs : List E)
  | ix (a i : E) | slc (a : E) (lo hi : List E) | back (a : E)
  | fld (a : E) (f : String)
  | cal (f : Nat) (es : List E) | cav (i : Nat) (es : List E)
  | new (c : Nat) (es : List E)
  | met (o : E) (m : String) (es : List E)
  | blt (b : Bf) (es : List E)
  | lc (own : List Nat) (tg : Tg) (k : Ik) (its : List E) (cd : List E) (el : E)
  | exf (i : Nat) (f : String)
  /-- a call with a lambda at its end: the def (with that lambda), the lambda, the arguments, what the lambda holds -/
  | cml (v j : Nat) (es cs : List E) | mml (c : Nat) (o : E) (m : String) (v j : Nat) (cs : List E)
  /-- the lambda that was given, called -/
  | cvl (i : Nat) (es : List E)
  /-- a dict of the module: an item; is a key in it -/
  | gix (g : Nat) (e : E) | gin (neg : Bool) (g : Nat) (e : E)
  /-- len of an object of the program's own -/
  | lnI (e : E)
  /-- list(d.items()) -/
  | itl (e : E)
  | vll (e : E)
  /-- iter(d.items()), the whole body of an own __iter__; tuple(d.items()), for a class; C(), its one default is () -/
  | itr (e : E) | ptd (e : E) | newd (c : Nat)
  /-- isinstance(e, class), e the exception that was caught -/
  | exi (i k : Nat)
  /-- {k: v for .. in .. if ..} -/
  | dc (own : List Nat) (tg : Tg) (k : Ik) (its : List E) (cd : List E) (ke el : E)

inductive S where
  | set (i : Nat) (e : E) | setT (is : List Nat) (e : E)
  | put (o i e : E) | fset (o : E) (f : String) (e : E)
  | aug (i : Nat) (o : Op) (e : E) | faug (a : E) (f : String) (o : Op) (e : E)
  | expr (e : E) | ret (e : E) | retN
  | ife (c : E) (a b : List S) | whl (c : E) (b : List S)
  | for_ (tg : Tg) (k : Ik) (its : List E) (b : List S)
  | raise (c : Nat) (es : List E)
  | try_ (b : List S) (hs : List (Nat × Option Nat × List S))
  /-- match: the first item is one of some words, the others go to slots or nowhere -/
  | mat (e : E) (cs : List (List (List Char) × List (Option Nat) × List S))
  /-- del e[lo:], del o[k] -/
  | dels (e lo : E) | deld (o k : E)
  | brk | cnt | pass | stuck
structure FI where
  np : Nat
  ns : Nat
  body : List S
  /-- of a def to which a lambda is given: where it stands, which one, how much it holds -/
  lm : Option (Nat × Nat × Nat) := none
structure CI where
  meths : List (String × Nat)
  ini : Option Nat
  flds : List String
structure Wd where
  fns : List FI
  cls : List CI
  cons : List (List D)
  isa : Nat → Nat → Bool
  scr : List Int := []
  exf : Nat → List String := fun _ => []
  dcs : List (List (List Char × D)) := []

/-! ## texts of data -/
def plC (c : Char) : Bool := decide (32 ≤ c.toNat) && decide (c.toNat < 127) && decide (c.toNat ≠ 39) && decide (c.toNat ≠ 92)
def joinC : List (List Char) → List Char
  | [] => []
  | [x] => x
  | x :: y :: r => x ++ ',' :: ' ' :: joinC (y :: r)
mutual
def rp : D → List Char
  | .non => ['N', 'o', 'n', 'e']
  | .bl true => ['T', 'r', 'u', 'e']
  | .bl false => ['F', 'a', 'l', 's', 'e']
  | .int i => (toString i).toList
  | .str s => '\'' :: s ++ ['\'']
  | .tup xs => '(' :: joinC (rps xs) ++ (match xs with | [_] => [',', ')'] | _ => [')'])
  | _ => []
def rps : List D → List (List Char)
  | [] => []
  | x :: xs => rp x :: rps xs
end
mutual
def rpOk : D → Bool
  | .int i => decide (i.natAbs.log2 < 1920)
  | .str s => s.all plC
  | .tup xs => rpsOk xs
  | .non => true
  | .bl _ => true
  | _ => false
def rpsOk : List D → Bool
  | [] => true
  | x :: xs => rpOk x && rpsOk xs
end

/-! ## operations -/
def len2 {α : Type} (a b : List α) : Bool := decide (a.length + b.length ≤ sizeLine)
def opD (o : Op) (x y : D) (h : Hs) : R D :=
  match o, x, y with
  | .add, .int i, .int j => .ok (.int (i + j)) h
  | .add, .bl a, .bl b => .ok (.int ((if a then 1 else 0) + (if b then 1 else 0))) h
  | .sub, .int i, .int j => .ok (.int (i - j)) h
  | .mul, .int i, .int j => if (-(2 ^ 64) < i ∧ i < 2 ^ 64) ∨ (-(2 ^ 64) < j ∧ j < 2 ^ 64) then .ok (.int (i * j)) h else .no
  | .fdiv, .int i, .int j => if j ≠ 0 ∧ j.natAbs < 1073741824 then .ok (.int (i.fdiv j)) h else .no
  | .mod, .int i, .int j => if j ≠ 0 then .ok (.int (i.fmod j)) h else .no
  | .add, .str s, .str t => if s.length + t.length ≤ sizeLine then .ok (.str (s ++ t)) h else .no
  | .add, .tup s, .tup t => if s.length + t.length ≤ sizeLine then .ok (.tup (s ++ t)) h else .no
  | .mul, .str s, .int k => if 1 ≤ k ∧ k < 1000000 ∧ s ≠ [] ∧ s.length * k.toNat ≤ 1000000 then .ok (.str (List.replicate k.toNat s).flatten) h else .no
  | .add, .ob n, .ob m => match h[n]?, h[m]? with
    | some (.lst s), some (.lst t) => if s.length + t.length ≤ sizeLine then .ok (.ob h.length) (h ++ [.lst (s ++ t)]) else .no
    | _, _ => .no
  | _, _, _ => .no
def inL (x : D) (ys : List D) : Bool := ys.any fun y => eqv y x
def cmpI (g : Int → Int → Bool) (x y : D) (h : Hs) : R D := match x, y with
  | .int i, .int j => .ok (.bl (g i j)) h
  | _, _ => .no
def cmpD (o : Cp) (x y : D) (h : Hs) : R D :=
  match o with
  | .eq => match eqD h x y with | some b => .ok (.bl b) h | none => .no
  | .ne => match eqD h x y with | some b => .ok (.bl (!b)) h | none => .no
  | .lt => cmpI (fun i j => decide (i < j)) x y h
  | .le => cmpI (fun i j => decide (i ≤ j)) x y h
  | .gt => cmpI (fun i j => decide (j < i)) x y h
  | .ge => cmpI (fun i j => decide (j ≤ i)) x y h
  | _ => .no
def truth (x : D) (h : Hs) : Option Bool := match x with
  | .non => some false
  | .bl b => some b
  | .int i => some (i != 0)
  | .str s => if s.length ≤ sizeLine then some (!s.isEmpty) else none
  | .tup s => some (!s.isEmpty)
  | .ob n => match h[n]? with
    | some (.lst s) => some (!s.isEmpty)
    | some (.scr s) => some (!s.isEmpty)
    | _ => none
  | .fn _ => none
  | .con _ => none
end Rf
end

section
namespace Rf
open PySem PySem.Spec PyProof.Rows L2

def st (s : List Char) : Str := ⟨(s.map Char.toNat).toArray⟩
structure Gx where
  W : Wd
  K : PySem.W.Frag
  fa : Nat → Option Addr
  ca : Nat → Option Addr
  ga : Nat → Option Addr
  xd : Option (Addr × List (String × D))
  ex : Option (Nat × Addr)
  /-- the tables of code objects, the names of the code that they hold; the code object of the lambda at hand -/
  tb : List (Addr × Str)
  lc : Option (Addr × Str × List Addr)

mutual
def Rep (G : Gx) (as : List Addr) (H : Hp) : D → V → Prop
  | .non, v => v = .non
  | .bl b, v => v = .bl b
  | .int i, v => v = .int i
  | .str s, v => v = .str (st s)
  | .tup ds, v => ∃ a vs, v = .ref a ∧ H a = some (.tup vs) ∧ Reps G as H ds vs
  | .ob n, v => ∃ a, v = .ref a ∧ as[n]? = some a
  | .fn i, v => ∃ a, v = .ref a ∧ G.fa i = some a
  | .con g, v => ∃ a, v = .ref a ∧ G.ga g = some a
def Reps (G : Gx) (as : List Addr) (H : Hp) : List D → List V → Prop
  | [], vs => vs = []
  | d :: ds, vs => ∃ v r, vs = v :: r ∧ Rep G as H d v ∧ Reps G as H ds r
end
/-- keys -/
def keyK : D → Option Key
  | .int i => some (.inl i)
  | .str s => some (.inr (st s))
  | _ => none
def keyKs : List D → Option (List Key)
  | [] => some []
  | d :: ds => match keyK d, keyKs ds with
    | some k, some ks => some (k :: ks)
    | _, _ => none
def keyT : D → Option (List Key)
  | .tup ds => keyKs ds
  | _ => none
def RepKV {κ : Type} (ky : D → Option κ) (G : Gx) (as : List Addr) (H : Hp) : List (D × D) → List (κ × V) → Prop :=
  Paired fun p q => ky p.1 = some q.1 ∧ Rep G as H p.2 q.2
def RepF (G : Gx) (as : List Addr) (H : Hp) : List (String × D) → List (Str × V) → Prop :=
  Paired fun p q => q.1 = Str.ofString p.1 ∧ Rep G as H p.2 q.2
def lkd (lk : Bool) (H : Hp) (a : Addr) (o : HO) : Prop := if lk then ∃ od, H a = some (.frz od o) else H a = some o
def ObR (G : Gx) (as : List Addr) (H : Hp) (a : Addr) : MO → Prop
  | .lst xs => ∃ vs, H a = some (.lst vs) ∧ Reps G as H xs vs
  | .dic lk false kvs => ∃ kv, lkd lk H a (.dK kv) ∧ RepKV keyK G as H kvs kv
  | .dic lk true kvs => ∃ kv, lkd lk H a (.dT kv) ∧ RepKV keyT G as H kvs kv
  | .ins c fs => ∃ C dx vs, G.ca c = some C ∧ H a = some (.ins C dx vs) ∧ RepF G as H fs vs
  | .scr ns => ∃ o, H a = some (.frz o (.lst (ns.map V.int)))
  | .ptp xs => ∃ (o : Obj) (vs : List V), H a = some (.frz o (.tup vs)) ∧ o.dict = none ∧ o.cls = .type "tuple" ∧ Reps G as H xs vs
/-- the fields of the exception at hand -/
def XdR (G : Gx) (as : List Addr) (H : Hp) : Prop := (∀ dd fs, G.xd = some (dd, fs) → dd ∉ as ∧ ∃ vs, H dd = some (.xd vs) ∧ RepF G as H fs vs) ∧ ∀ c q as0, G.lc = some (c, q, as0) → (c ∉ as ∧ H c = some (LamX.CodeO c q)) ∧ ∀ (n : Nat) (a : Addr), as0[n]? = some a → as[n]? = some a
structure HI (G : Gx) (h : Hs) (as : List Addr) (H : Hp) : Prop where
  xd : XdR G as H
  tb : LamX.Tabs G.tb H
  len : as.length = h.length
  nd : as.Nodup
  ob : ∀ (n : Nat) (mo : MO) (a : Addr), h[n]? = some mo → as[n]? = some a → ObR G as H a mo
structure SL (G : Gx) (σI : Sg) (as : List Addr) (H : Hp) (σ : L2.St) : Prop where
  len : σI.length = σ.length
  at_ : ∀ (i : Nat) (d : D), σI[i]? = some (some d) → ∃ v, σ[i]? = some (some v) ∧ Rep G as H d v
  ex : ∀ (i : Nat) (a : Addr), G.ex = some (i, a) → σI[i]? = some none → σ[i]? = some (some (.ref a))
structure Ext (as : List Addr) (H : Hp) (as' : List Addr) (H' : Hp) : Prop where
  pre : ∀ (n : Nat) (a : Addr), as[n]? = some a → as'[n]? = some a
  tup : ∀ (a : Addr) (xs : List V), H a = some (.tup xs) → H' a = some (.tup xs)
  frz : ∀ (a : Addr) (o : Obj) (u : HO), H a = some (.frz o u) → H' a = some (.frz o u)
  out : ∀ (a : Addr) (o : HO), H a = some o → a ∉ as' → (∀ ps, o ≠ .tbl ps) → H' a = some o
  tbl : ∀ (a : Addr) (ps : Array Value), H a = some (.tbl ps) → ∃ more, H' a = some (.tbl (ps ++ more))
  fresh : ∀ (a : Addr), a ∈ as' → a ∉ as → H a = none
theorem Ext.refl {as H} : Ext as H as H := ⟨fun _ _ h => h, fun _ _ h => h, fun _ _ _ h => h, fun _ _ h _ _ => h, fun _ ps h => ⟨#[], by simpa using h⟩, fun _ h h' => absurd h h'⟩
theorem Ext.mem {as H as1 H1} (x : Ext as H as1 H1) {a : Addr} (h : a ∈ as) : a ∈ as1 := by
  obtain ⟨n, hn⟩ := List.getElem?_of_mem h
  exact List.mem_of_getElem? (x.pre n a hn)
theorem Ext.trans {as H as1 H1 as2 H2} (a : Ext as H as1 H1) (b : Ext as1 H1 as2 H2) : Ext as H as2 H2 := by
  refine ⟨fun n x h => b.pre n x (a.pre n x h), fun x xs h => b.tup x xs (a.tup x xs h), fun x o u h => b.frz x o u (a.frz x o u h), fun x o h hn nt => b.out x o (a.out x o h (fun q => hn (b.mem q)) nt) hn nt, fun x ps h => ?_, fun x h hn => ?_⟩
  · obtain ⟨m1, e1⟩ := a.tbl x ps h
    obtain ⟨m2, e2⟩ := b.tbl x _ e1
    exact ⟨m1 ++ m2, by rw [e2, Array.append_assoc]⟩
  by_cases hm : x ∈ as1
  · exact a.fresh x hm hn
  · cases e : H x with
    | none => rfl
    | some o =>
      have := b.fresh x h hm
      by_cases nt : ∃ ps, o = .tbl ps
      · obtain ⟨ps, rfl⟩ := nt
        obtain ⟨m1, e1⟩ := a.tbl x ps e
        rw [e1] at this; cases this
      · rw [a.out x o e hm fun ps q => nt ⟨ps, q⟩] at this; cases this
mutual
theorem Rep.mono0 {G : Gx} {as H as' H'} (pre : ∀ (n : Nat) (a : Addr), as[n]? = some a → as'[n]? = some a) (tup : ∀ (a : Addr) (xs : List V), H a = some (.tup xs) → H' a = some (.tup xs)) : ∀ {d : D} {v : V}, Rep G as H d v → Rep G as' H' d v
  | .non, _, h => h
  | .bl _, _, h => h
  | .int _, _, h => h
  | .str _, _, h => h
  | .tup ds, _, h => by
    simp only [Rep] at h ⊢
    obtain ⟨a, vs, e, s, r⟩ := h
    exact ⟨a, vs, e, tup _ _ s, Reps.mono0 pre tup r⟩
  | .ob n, _, h => by
    simp only [Rep] at h ⊢
    obtain ⟨a, e, s⟩ := h
    exact ⟨a, e, pre _ _ s⟩
  | .fn i, _, h => h
  | .con i, _, h => h
theorem Reps.mono0 {G : Gx} {as H as' H'} (pre : ∀ (n : Nat) (a : Addr), as[n]? = some a → as'[n]? = some a) (tup : ∀ (a : Addr) (xs : List V), H a = some (.tup xs) → H' a = some (.tup xs)) : ∀ {ds : List D} {vs : List V}, Reps G as H ds vs → Reps G as' H' ds vs
  | [], _, h => h
  | d :: ds, _, h => by
    simp only [Reps] at h ⊢
    obtain ⟨v, r, e, h1, h2⟩ := h
    exact ⟨v, r, e, Rep.mono0 pre tup h1, Reps.mono0 pre tup h2⟩
end
theorem Rep.mono {G : Gx} {as H as' H'} (x : Ext as H as' H') {d : D} {v : V} (h : Rep G as H d v) : Rep G as' H' d v := h.mono0 x.pre x.tup
theorem Reps.mono {G : Gx} {as H as' H'} (x : Ext as H as' H') {ds : List D} {vs : List V} (h : Reps G as H ds vs) : Reps G as' H' ds vs := h.mono0 x.pre x.tup
theorem SL.mono {G : Gx} {σI as H as' H' σ} (x : Ext as H as' H') (s : SL G σI as H σ) : SL G σI as' H' σ :=
  ⟨s.len, fun i d h => let ⟨v, e, r⟩ := s.at_ i d h; ⟨v, e, r.mono x⟩, s.ex⟩
theorem RepKV.mono {κ : Type} {ky : D → Option κ} {G : Gx} {as H as' H'} (x : Ext as H as' H') {a : List (D × D)} {b : List (κ × V)} (h : RepKV ky G as H a b) : RepKV ky G as' H' a b :=
  Paired.mapP h fun _ _ z => ⟨z.1, z.2.mono x⟩
theorem RepF.mono {G : Gx} {as H as' H'} (x : Ext as H as' H') {a b} (h : RepF G as H a b) : RepF G as' H' a b :=
  Paired.mapP h fun _ _ z => ⟨z.1, z.2.mono x⟩
theorem XdR.ext {G : Gx} {as H as' H'} (x : Ext as H as' H') (h : XdR G as H) : XdR G as' H' := by
  refine ⟨fun dd fs e => ?_, fun c q as0 e => ?_⟩
  · obtain ⟨h1, vs, h2, h3⟩ := h.1 dd fs e
    have n : dd ∉ as' := fun q => by
      have := x.fresh dd q h1
      rw [h2] at this; cases this
    exact ⟨n, vs, x.out dd _ h2 n (fun _ z => by cases z), h3.mono x⟩
  · obtain ⟨⟨h1, h2⟩, h3⟩ := h.2 c q as0 e
    have n : c ∉ as' := fun z => by
      have := x.fresh c z h1
      rw [h2] at this; cases this
    exact ⟨⟨n, x.out c _ h2 n fun ps z => LamX.codeO_ne ps z⟩, fun m a z => x.pre m a (h3 m a z)⟩
theorem ObR.mono0 {G : Gx} {as H as' H' a} (pre : ∀ (n : Nat) (a : Addr), as[n]? = some a → as'[n]? = some a) (tup : ∀ (a : Addr) (xs : List V), H a = some (.tup xs) → H' a = some (.tup xs)) (e : H' a = H a) : ∀ {mo : MO}, ObR G as H a mo → ObR G as' H' a mo
  | .lst xs, h => by
    obtain ⟨vs, h1, h2⟩ := h
    exact ⟨vs, e ▸ h1, h2.mono0 pre tup⟩
  | .dic lk false kvs, h => by
    obtain ⟨kv, h1, h2⟩ := h
    refine ⟨kv, ?_, Paired.mapP h2 fun _ _ z => ⟨z.1, z.2.mono0 pre tup⟩⟩
    unfold lkd at h1 ⊢; rw [e]; exact h1
  | .dic lk true kvs, h => by
    obtain ⟨kv, h1, h2⟩ := h
    refine ⟨kv, ?_, Paired.mapP h2 fun _ _ z => ⟨z.1, z.2.mono0 pre tup⟩⟩
    unfold lkd at h1 ⊢; rw [e]; exact h1
  | .ins c fs, h => by
    obtain ⟨C, dx, vs, h1, h2, h3⟩ := h
    exact ⟨C, dx, vs, h1, e ▸ h2, Paired.mapP h3 fun _ _ z => ⟨z.1, z.2.mono0 pre tup⟩⟩
  | .scr ns, h => by
    obtain ⟨o, h1⟩ := h
    exact ⟨o, e ▸ h1⟩
  | .ptp xs, h => by
    obtain ⟨o, vs, h1, h2, h3, h4⟩ := h
    exact ⟨o, vs, e ▸ h1, h2, h3, h4.mono0 pre tup⟩
theorem ObR.mono {G : Gx} {as H as' H' a} (x : Ext as H as' H') (e : H' a = H a) {mo : MO} (h : ObR G as H a mo) : ObR G as' H' a mo := h.mono0 x.pre x.tup e
theorem Reps.length {G : Gx} {as H} : ∀ {ds : List D} {vs : List V}, Reps G as H ds vs → ds.length = vs.length
  | [], _, h => by simp only [Reps] at h; subst h; rfl
  | d :: ds, _, h => by
    simp only [Reps] at h
    obtain ⟨v, r, rfl, h1, h2⟩ := h
    simp [Reps.length h2]
theorem Reps.get {G : Gx} {as H} : ∀ {ds : List D} {vs : List V} {i : Nat} {d : D}, Reps G as H ds vs → ds[i]? = some d → ∃ v, vs[i]? = some v ∧ Rep G as H d v
  | [], _, _, _, _, e => by simp at e
  | d :: ds, _, 0, _, h, e => by
    simp only [Reps] at h
    obtain ⟨v, r, rfl, h1, h2⟩ := h
    simp at e; subst e
    exact ⟨v, rfl, h1⟩
  | d :: ds, _, i + 1, _, h, e => by
    simp only [Reps] at h
    obtain ⟨v, r, rfl, h1, h2⟩ := h
    simpa using Reps.get h2 (by simpa using e)
theorem Reps.append {G : Gx} {as H} : ∀ {ds es : List D} {vs ws : List V}, Reps G as H ds vs → Reps G as H es ws → Reps G as H (ds ++ es) (vs ++ ws)
  | [], _, _, _, h, k => by simp only [Reps] at h; subst h; simpa using k
  | d :: ds, _, _, _, h, k => by
    simp only [Reps] at h
    obtain ⟨v, r, rfl, h1, h2⟩ := h
    simp only [List.cons_append, Reps]
    exact ⟨v, _, rfl, h1, Reps.append h2 k⟩
theorem Reps.one {G : Gx} {as H d v} (h : Rep G as H d v) : Reps G as H [d] [v] := by
  simp only [Reps]; exact ⟨v, [], rfl, h, rfl⟩
theorem Reps.drop {G : Gx} {as H} : ∀ (n : Nat) {ds : List D} {vs : List V}, Reps G as H ds vs → Reps G as H (ds.drop n) (vs.drop n)
  | 0, _, _, h => h
  | n + 1, [], _, h => by simp only [Reps] at h; subst h; simp [Reps]
  | n + 1, d :: ds, _, h => by
    simp only [Reps] at h
    obtain ⟨v, r, rfl, h1, h2⟩ := h
    exact Reps.drop n h2
theorem Reps.take {G : Gx} {as H} : ∀ (n : Nat) {ds : List D} {vs : List V}, Reps G as H ds vs → Reps G as H (ds.take n) (vs.take n)
  | 0, _, _, h => by simp [Reps]
  | n + 1, [], _, h => by simp only [Reps] at h; subst h; simp [Reps]
  | n + 1, d :: ds, _, h => by
    simp only [Reps] at h
    obtain ⟨v, r, rfl, h1, h2⟩ := h
    simp only [List.take_succ_cons, Reps]
    exact ⟨v, _, rfl, h1, Reps.take n h2⟩
theorem Reps.set {G : Gx} {as H d v} (hd : Rep G as H d v) : ∀ (n : Nat) {ds : List D} {vs : List V}, Reps G as H ds vs → Reps G as H (ds.set n d) (vs.set n v)
  | _, [], _, h => by simp only [Reps] at h; subst h; simp [Reps]
  | 0, e :: ds, _, h => by
    simp only [Reps] at h
    obtain ⟨w, r, rfl, h1, h2⟩ := h
    simp only [List.set_cons_zero, Reps]
    exact ⟨v, _, rfl, hd, h2⟩
  | n + 1, e :: ds, _, h => by
    simp only [Reps] at h
    obtain ⟨w, r, rfl, h1, h2⟩ := h
    simp only [List.set_cons_succ, Reps]
    exact ⟨w, _, rfl, h1, Reps.set hd n h2⟩
theorem Reps.reverse {G : Gx} {as H} : ∀ {ds : List D} {vs : List V}, Reps G as H ds vs → Reps G as H ds.reverse vs.reverse
  | [], _, h => by simp only [Reps] at h; subst h; simp [Reps]
  | d :: ds, _, h => by
    simp only [Reps] at h
    obtain ⟨v, r, rfl, h1, h2⟩ := h
    rw [List.reverse_cons, List.reverse_cons]
    exact Reps.append (Reps.reverse h2) (Reps.one h1)
theorem Reps.ints {G : Gx} {as H} : ∀ {ns : List Int}, Reps G as H (ns.map D.int) (ns.map V.int)
  | [] => by simp [Reps]
  | n :: ns => by simp only [List.map_cons, Reps]; exact ⟨_, _, rfl, rfl, Reps.ints⟩
theorem Reps.nil_iff {G : Gx} {as H ds vs} (h : Reps G as H ds vs) : ds = [] ↔ vs = [] := by
  have := h.length
  constructor
  · rintro rfl; exact List.length_eq_zero_iff.mp (by simpa using this.symm)
  · rintro rfl; exact List.length_eq_zero_iff.mp (by simpa using this)

/-! ## extension by a new object, by a store -/
section
variable {G : Gx} {h : Hs} {as : List Addr} {H : Hp}
theorem tup_upd {H : Hp} {p : Addr} {o : HO} {a : Addr} {xs : List V} (hp : ∀ ys, H p ≠ some (.tup ys)) (h : H a = some (.tup xs)) : upd H p o a = some (.tup xs) := by
  rw [upd_ne (fun e => by subst e; exact hp _ h)]; exact h
theorem frz_upd {H : Hp} {p : Addr} {o : HO} {a : Addr} {ob : Obj} {u : HO} (hp : ∀ ob u, H p ≠ some (.frz ob u)) (h : H a = some (.frz ob u)) : upd H p o a = some (.frz ob u) := by
  rw [upd_ne (fun e => by subst e; exact hp _ _ h)]; exact h
theorem HI.get (I : HI G h as H) {n : Nat} {mo : MO} (e : h[n]? = some mo) : ∃ a, as[n]? = some a ∧ ObR G as H a mo := by
  have hl : n < as.length := by rw [I.len]; exact (List.getElem?_eq_some_iff.mp e).1
  exact ⟨as[n], by simp [hl], I.ob n mo _ e (by simp [hl])⟩
theorem lkd_some {lk H a o} (h : lkd lk H a o) : ∃ u, H a = some u := by
  unfold lkd at h
  split at h
  · obtain ⟨od, e⟩ := h; exact ⟨_, e⟩
  · exact ⟨_, h⟩
theorem ObR.some_ {a : Addr} : ∀ {mo : MO}, ObR G as H a mo → ∃ u, H a = some u
  | .lst _, ⟨_, e, _⟩ => ⟨_, e⟩
  | .dic _ false _, ⟨_, e, _⟩ => lkd_some e
  | .dic _ true _, ⟨_, e, _⟩ => lkd_some e
  | .ins _ _, ⟨_, _, _, _, e, _⟩ => ⟨_, e⟩
  | .scr _, ⟨_, e⟩ => ⟨_, e⟩
  | .ptp _, ⟨_, _, e, _⟩ => ⟨_, e⟩
theorem HI.fresh (I : HI G h as H) {p : Addr} (hp : H p = none) : p ∉ as := fun hm => by
  obtain ⟨n, hn⟩ := List.getElem?_of_mem hm
  have hl : n < h.length := by rw [← I.len]; exact (List.getElem?_eq_some_iff.mp hn).1
  obtain ⟨u, e⟩ := (I.ob n h[n] p (by simp [hl]) hn).some_
  rw [hp] at e; cases e
theorem ext_new {p : Addr} {o : HO} (hp : H p = none) : Ext as H (as ++ [p]) (upd H p o) :=
  ⟨fun n a e => by rw [List.getElem?_append_left (List.getElem?_eq_some_iff.mp e).1]; exact e,
   fun a xs s => tup_upd (fun _ q => by rw [hp] at q; cases q) s, fun a ob u s => frz_upd (fun _ _ q => by rw [hp] at q; cases q) s,
   fun a ob e _ _ => by rw [upd_ne (ne_of_none e hp)]; exact e, fun a ps e => ⟨#[], by rw [upd_ne (ne_of_none e hp)]; simpa using e⟩, fun a h hn => by
    rcases List.mem_append.mp h with h | h
    · exact absurd h hn
    · rw [List.mem_singleton.mp h]; exact hp⟩
/-- a new tuple, not an object of ours -/
theorem ext_tup {p : Addr} {o : HO} (hp : H p = none) : Ext as H as (upd H p o) :=
  ⟨fun n a e => e, fun a xs s => tup_upd (fun _ q => by rw [hp] at q; cases q) s, fun a ob u s => frz_upd (fun _ _ q => by rw [hp] at q; cases q) s,
   fun a ob e _ _ => by rw [upd_ne (ne_of_none e hp)]; exact e, fun a ps e => ⟨#[], by rw [upd_ne (ne_of_none e hp)]; simpa using e⟩, fun a h hn => absurd h hn⟩
theorem tabs_new {T : List (Addr × Str)} {p : Addr} {o : HO} (t : LamX.Tabs T H) (hp : H p = none) : LamX.Tabs T (upd H p o) := t.ext fun b u e => by rw [upd_ne (ne_of_none e hp)]; exact e
/-- neither a table nor a code object -/
def NoT (o : Option HO) : Prop := ∀ u, o = some u → (∀ ps, u ≠ .tbl ps) ∧ ∀ φ, u ≠ .ext φ
theorem tabs_at {T : List (Addr × Str)} {p : Addr} {H H' : Hp} (t : LamX.Tabs T H) (e : ∀ b o, b ≠ p → H b = some o → H' b = some o) (hp : NoT (H p)) : LamX.Tabs T H' := fun q hq => by
  obtain ⟨ps, h1, h2, h3⟩ := t q hq
  refine ⟨ps, e _ _ (fun z => (hp _ (z ▸ h1)).1 ps rfl) h1, h2, fun pos cv hc => ?_⟩
  obtain ⟨c, rfl, h4⟩ := h3 pos cv hc
  exact ⟨c, rfl, e _ _ (fun z => (hp _ (z ▸ h4)).2 _ rfl) h4⟩
theorem tabs_set {T : List (Addr × Str)} {p : Addr} {o : HO} (t : LamX.Tabs T H) (hp : NoT (H p)) : LamX.Tabs T (upd H p o) := tabs_at t (fun b u n e => by rw [upd_ne n]; exact e) hp
theorem lkd_noT {lk : Bool} {a : Addr} {u : HO} (h : lkd lk H a u) (hu : NoT (some u)) : NoT (H a) := by
  unfold lkd at h
  split at h
  · obtain ⟨od, e⟩ := h
    rw [e]; intro v q; cases q; exact ⟨fun _ z => (nomatch z), fun _ z => (nomatch z)⟩
  · rw [h]; exact hu
theorem ObR.noT {a : Addr} : ∀ {mo : MO}, ObR G as H a mo → NoT (H a)
  | .lst _, ⟨_, e, _⟩ => fun u q => by rw [e] at q; cases q; exact ⟨fun _ z => (nomatch z), fun _ z => (nomatch z)⟩
  | .dic _ false _, ⟨_, e, _⟩ => lkd_noT e fun u q => by cases q; exact ⟨fun _ z => (nomatch z), fun _ z => (nomatch z)⟩
  | .dic _ true _, ⟨_, e, _⟩ => lkd_noT e fun u q => by cases q; exact ⟨fun _ z => (nomatch z), fun _ z => (nomatch z)⟩
  | .ins _ _, ⟨_, _, _, _, e, _⟩ => fun u q => by rw [e] at q; cases q; exact ⟨fun _ z => (nomatch z), fun _ z => (nomatch z)⟩
  | .scr _, ⟨_, e⟩ => fun u q => by rw [e] at q; cases q; exact ⟨fun _ z => (nomatch z), fun _ z => (nomatch z)⟩
  | .ptp _, ⟨_, _, e, _⟩ => fun u q => by rw [e] at q; cases q; exact ⟨fun _ z => (nomatch z), fun _ z => (nomatch z)⟩
theorem HI.noT (I : HI G h as H) {p : Addr} (hm : p ∈ as) : NoT (H p) := by
  obtain ⟨n, hn⟩ := List.getElem?_of_mem hm
  have hl : n < h.length := by rw [← I.len]; exact (List.getElem?_eq_some_iff.mp hn).1
  exact (I.ob n h[n] p (by simp [hl]) hn).noT
theorem HI.other (I : HI G h as H) {p : Addr} {o : HO} (hp : H p = none) : HI G h as (upd H p o) :=
  ⟨I.xd.ext (ext_tup hp), tabs_new I.tb hp, I.len, I.nd, fun n mo a e1 e2 => (I.ob n mo a e1 e2).mono (ext_tup hp) (upd_ne fun e => I.fresh hp (e ▸ List.mem_of_getElem? e2))⟩
/-- a new object of ours -/
theorem HI.new (I : HI G h as H) {p : Addr} {o : HO} {mo : MO} (hp : H p = none) (r : ObR G (as ++ [p]) (upd H p o) p mo) : HI G (h ++ [mo]) (as ++ [p]) (upd H p o) := by
  refine ⟨I.xd.ext (ext_new hp), tabs_new I.tb hp, by simp [I.len], ?_, fun n mo' a e1 e2 => ?_⟩
  · rw [List.nodup_append]
    refine ⟨I.nd, by simp, fun a ha b hb => ?_⟩
    simp at hb; subst hb
    exact fun e => I.fresh hp (e ▸ ha)
  · by_cases hn : n < h.length
    · rw [List.getElem?_append_left hn] at e1
      rw [List.getElem?_append_left (by rw [I.len]; exact hn)] at e2
      exact (I.ob n mo' a e1 e2).mono (ext_new hp) (upd_ne fun e => I.fresh hp (e ▸ List.mem_of_getElem? e2))
    · have hn2 : n = h.length := by
        have := (List.getElem?_eq_some_iff.mp e1).1
        simp at this; omega
      subst hn2
      rw [List.getElem?_append_right (by omega)] at e1
      rw [List.getElem?_append_right (by rw [I.len]; exact Nat.le_refl _)] at e2
      simp [I.len] at e1 e2
      subst e1 e2
      exact r
/-- a store into an object of ours -/
theorem ext_set {n : Nat} {p : Addr} {o u : HO} (hn : as[n]? = some p) (hp : H p = some u) (ht : ∀ ys, u ≠ .tup ys) (hf : ∀ ob w, u ≠ .frz ob w) (hb : ∀ ps, u ≠ .tbl ps := by intro _ z; cases z) : Ext as H as (upd H p o) :=
  ⟨fun _ _ e => e, fun a xs s => tup_upd (fun ys q => by rw [hp] at q; exact ht ys (Option.some.inj q)) s, fun a ob w s => frz_upd (fun ob w q => by rw [hp] at q; exact hf ob w (Option.some.inj q)) s,
   fun a ob e ha _ => by rw [upd_ne (fun q => ha (by rw [q]; exact List.mem_of_getElem? hn))]; exact e, fun a ps e => ⟨#[], by rw [upd_ne (fun q => by rw [q, hp] at e; exact hb ps (Option.some.inj e))]; simpa using e⟩, fun a h hn => absurd h hn⟩
theorem HI.set (I : HI G h as H) {n : Nat} {p : Addr} {o u : HO} {mo : MO} (hn : as[n]? = some p) (hp : H p = some u) (ht : ∀ ys, u ≠ .tup ys) (hf : ∀ ob w, u ≠ .frz ob w) (r : ObR G as (upd H p o) p mo) : HI G (h.set n mo) as (upd H p o) := by
  have hm : p ∈ as := List.mem_of_getElem? hn
  have hb : ∀ ps, u ≠ .tbl ps := (I.noT hm u hp).1
  refine ⟨I.xd.ext (ext_set hn hp ht hf hb), tabs_set I.tb (I.noT hm), by simp [I.len], I.nd, fun m mo' a e1 e2 => ?_⟩
  by_cases hm : m = n
  · subst hm
    rw [hn] at e2; cases e2
    have hl : m < h.length := by rw [← I.len]; exact (List.getElem?_eq_some_iff.mp hn).1
    rw [List.getElem?_set_self hl] at e1; cases e1
    exact r
  · rw [List.getElem?_set_ne (Ne.symm hm)] at e1
    refine (I.ob m mo' a e1 e2).mono (ext_set hn hp ht hf hb) (upd_ne fun e => hm ?_)
    subst e
    exact (List.getElem?_inj (List.getElem?_eq_some_iff.mp e2).1 I.nd).mp (e2.trans hn.symm)
end

/-! ## == -/
theorem st_beq (s t : List Char) : (st s == st t) = (s == t) := by
  unfold st
  rw [Bool.eq_iff_iff, beq_iff_eq, beq_iff_eq]
  constructor
  · intro e
    have e1 := congrArg (fun z => z.cps.toList) e
    exact (List.map_inj_right (fun a b h => Char.toNat_inj.mp h)).mp e1
  · intro e; rw [e]
mutual
theorem eqv_toPy : ∀ (x y : D), pur x = true → pur y = true → PyData.eqv (toPy x) (toPy y) = eqv x y
  | x, y, hx, hy => by
    cases x <;> cases y <;> simp only [pur] at hx hy <;> try (simp only [toPy, PyData.eqv, eqv] <;> done)
    all_goals first
      | (cases hx; done)
      | (cases hy; done)
      | (simp only [toPy, PyData.eqv, eqv]
         first
          | exact eqvs_toPy _ _ hx hy
          | exact st_beq _ _)
theorem eqvs_toPy : ∀ (xs ys : List D), purs xs = true → purs ys = true → PyData.eqvAll (toPys xs) (toPys ys) = eqvs xs ys
  | [], [], _, _ => by simp only [toPys, PyData.eqvAll, eqvs]
  | [], _ :: _, _, _ => by simp only [toPys, PyData.eqvAll, eqvs]
  | _ :: _, [], _, _ => by simp only [toPys, PyData.eqvAll, eqvs]
  | x :: xs, y :: ys, hx, hy => by
    simp only [purs, Bool.and_eq_true] at hx hy
    simp only [toPys, PyData.eqvAll, eqvs, eqv_toPy x y hx.1 hy.1, eqvs_toPy xs ys hx.2 hy.2]
end
end Rf
end

section
namespace Rf
open PySem PySem.Spec PyProof.Rows L2
/-! ## lists of tuples, sorted -/
def keyI : D → Int ⊕ List Nat
  | .int i => .inl i
  | .str s => .inr (s.map Char.toNat)
  | _ => .inl 0
def keyL : D → List (Int ⊕ List Nat)
  | .tup ds => ds.map keyI
  | _ => []
def isStrD : D → Bool
  | .str _ => true
  | _ => false
def leafI : D → Bool
  | .int _ => true
  | .str _ => true
  | _ => false
def isTL : D → Bool
  | .tup ds => !ds.isEmpty && ds.all leafI
  | _ => false
def shpD : D → List Bool
  | .tup ds => ds.map isStrD
  | _ => []
def srtOk (s : List D) : Bool := s.all isTL && match s with | [] => true | d :: _ => s.all fun e => shpD e == shpD d
abbrev LO : KeyOrd := listOrd itemOrd
def insD (d : D) : List D → List D
  | [] => [d]
  | e :: r => if LO.blt (keyL e) (keyL d) = true then e :: insD d r else d :: e :: r
def srtD : List D → List D
  | [] => []
  | d :: r => insD d (srtD r)
theorem insD_perm (d : D) : ∀ l : List D, (insD d l).Perm (d :: l)
  | [] => List.Perm.refl _
  | e :: r => by
    unfold insD
    split
    · exact ((insD_perm d r).cons e).trans (List.Perm.swap d e r)
    · exact List.Perm.refl _
theorem srtD_perm : ∀ l : List D, (srtD l).Perm l
  | [] => List.Perm.refl _
  | d :: r => (insD_perm d _).trans ((srtD_perm r).cons d)
abbrev SrD (l : List D) : Prop := l.Pairwise fun x y => LO.blt (keyL y) (keyL x) = false
theorem lo_trans {a b c : List (Int ⊕ List Nat)} (h1 : LO.blt b a = false) (h2 : LO.blt c b = false) : LO.blt c a = false := by
  cases h : LO.blt c a with
  | false => rfl
  | true =>
    rcases LO.negTrans c b a h with q | q
    · rw [h2] at q; cases q
    · rw [h1] at q; cases q
theorem lo_asymm {a b : List (Int ⊕ List Nat)} (h : LO.blt a b = true) : LO.blt b a = false := by
  cases q : LO.blt b a with
  | false => rfl
  | true =>
    have := LO.trans _ _ _ h q
    rw [LO.irrefl] at this; cases this
theorem insD_srt (d : D) : ∀ l : List D, SrD l → SrD (insD d l)
  | [], _ => by simp [insD, SrD]
  | e :: r, h => by
    obtain ⟨h1, h2⟩ := List.pairwise_cons.mp h
    unfold insD
    split
    · rename_i c
      refine List.pairwise_cons.mpr ⟨fun x hx => ?_, insD_srt d r h2⟩
      rcases List.mem_cons.mp ((insD_perm d r).mem_iff.mp hx) with rfl | hx
      · exact lo_asymm c
      · exact h1 x hx
    · rename_i c
      have c' : LO.blt (keyL e) (keyL d) = false := by simpa using c
      refine List.pairwise_cons.mpr ⟨fun x hx => ?_, h⟩
      rcases List.mem_cons.mp hx with rfl | hx
      · exact c'
      · exact lo_trans c' (h1 x hx)
theorem srtD_srt : ∀ l : List D, SrD (srtD l)
  | [] => List.Pairwise.nil
  | d :: r => insD_srt d _ (srtD_srt r)
theorem char_inj {a b : Char} (h : a.toNat = b.toNat) : a = b := by
  apply Char.ext
  exact UInt32.toNat_inj.mp h
theorem chars_inj : ∀ {s t : List Char}, s.map Char.toNat = t.map Char.toNat → s = t
  | [], [], _ => rfl
  | [], _ :: _, h => by simp at h
  | _ :: _, [], h => by simp at h
  | a :: s, b :: t, h => by
    simp only [List.map_cons, List.cons.injEq] at h
    rw [char_inj h.1, chars_inj h.2]
theorem keyI_inj {x y : D} (hx : leafI x = true) (hy : leafI y = true) (h : keyI x = keyI y) : x = y := by
  cases x <;> cases y <;> simp [leafI, keyI] at hx hy h ⊢
  · exact h
  · exact chars_inj h
theorem keyI_injs : ∀ {xs ys : List D}, xs.all leafI = true → ys.all leafI = true → xs.map keyI = ys.map keyI → xs = ys
  | [], [], _, _, _ => rfl
  | [], _ :: _, _, _, h => by simp at h
  | _ :: _, [], _, _, h => by simp at h
  | x :: xs, y :: ys, h1, h2, h => by
    simp only [List.all_cons, Bool.and_eq_true] at h1 h2
    simp only [List.map_cons, List.cons.injEq] at h
    rw [keyI_inj h1.1 h2.1 h.1, keyI_injs h1.2 h2.2 h.2]
theorem keyL_inj {x y : D} (hx : isTL x = true) (hy : isTL y = true) (h : keyL x = keyL y) : x = y := by
  cases x <;> cases y <;> simp only [isTL, Bool.false_eq_true] at hx hy
  simp only [Bool.and_eq_true] at hx hy
  simp only [keyL] at h
  rw [keyI_injs hx.2 hy.2 h]
theorem srt_uniq : ∀ {l m : List D}, l.all isTL = true → SrD l → SrD m → l.Perm m → l = m
  | [], m, _, _, _, p => (List.perm_nil.mp p.symm).symm
  | x :: l, [], _, _, _, p => by have := p.length_eq; simp at this
  | x :: l, y :: m, ha, h1, h2, p => by
    have ha' := List.all_eq_true.mp ha
    obtain ⟨a1, a2⟩ := List.pairwise_cons.mp h1
    obtain ⟨b1, b2⟩ := List.pairwise_cons.mp h2
    have mx : isTL x = true := ha' x (by simp)
    have hy : y ∈ x :: l := p.mem_iff.mpr (by simp)
    have my : isTL y = true := ha' y hy
    have c1 : LO.blt (keyL y) (keyL x) = false := by
      rcases List.mem_cons.mp hy with rfl | hy
      · exact LO.irrefl _
      · exact a1 y hy
    have c2 : LO.blt (keyL x) (keyL y) = false := by
      rcases List.mem_cons.mp (p.mem_iff.mp (show x ∈ x :: l by simp)) with rfl | hx
      · exact LO.irrefl _
      · exact b1 x hx
    have e : x = y := keyL_inj mx my (LO.total _ _ c2 c1)
    subst e
    rw [srt_uniq (by simp only [List.all_cons, Bool.and_eq_true] at ha; exact ha.2) a2 b2 p.cons_inv]
end Rf
end

section
namespace Rf
open PySem PySem.Spec PyProof.Rows L2

inductive Fl where | nx (σ : Sg) | rt (d : D) | bk (σ : Sg) | ct (σ : Sg)
inductive RS where | ok (f : Fl) (h : Hs) | exc (c : Nat) (fs : List (String × D)) (σ : Sg) (h : Hs) | no
def RS.then (r : RS) (f : Sg → Hs → RS) : RS := match r with
  | .ok (.nx σ) h => f σ h
  | r => r
@[simp] theorem RS.then_nx (σ h f) : (RS.ok (.nx σ) h).then f = f σ h := rfl
@[simp] theorem RS.then_rt (d h f) : (RS.ok (.rt d) h).then f = .ok (.rt d) h := rfl
@[simp] theorem RS.then_bk (d h f) : (RS.ok (.bk d) h).then f = .ok (.bk d) h := rfl
@[simp] theorem RS.then_ct (d h f) : (RS.ok (.ct d) h).then f = .ok (.ct d) h := rfl
@[simp] theorem RS.then_exc (c fs σ h f) : (RS.exc c fs σ h).then f = .exc c fs σ h := rfl
@[simp] theorem RS.then_no (f) : RS.no.then f = .no := rfl
/-- an expression's outcome within a statement -/
def R.stm {α : Type} (r : R α) (σ : Sg) (f : α → Hs → RS) : RS := match r with
  | .ok a h => f a h
  | .exc c fs h => .exc c fs σ h
  | .no => .no
@[simp] theorem R.stm_ok {α : Type} (a : α) (h : Hs) (σ) (f : α → Hs → RS) : (R.ok a h).stm σ f = f a h := rfl
@[simp] theorem R.stm_exc {α : Type} (c fs h σ) (f : α → Hs → RS) : (R.exc c fs h : R α).stm σ f = .exc c fs σ h := rfl
@[simp] theorem R.stm_no {α : Type} (σ) (f : α → Hs → RS) : (R.no : R α).stm σ f = .no := rfl

def ofO {α : Type} (o : Option α) (h : Hs) : R α := match o with | some a => .ok a h | none => .no
@[simp] theorem ofO_some {α : Type} (a : α) (h : Hs) : ofO (some a) h = .ok a h := rfl
@[simp] theorem ofO_none {α : Type} (h : Hs) : ofO (none : Option α) h = .no := rfl
/-- no exception leaves a comprehension -/
def R.shut {α : Type} (r : R α) : R α := match r with | .exc _ _ _ => .no | r => r
@[simp] theorem R.shut_ok {α : Type} (a : α) (h : Hs) : (R.ok a h).shut = .ok a h := rfl
@[simp] theorem R.shut_exc {α : Type} (c fs h) : (R.exc c fs h : R α).shut = .no := rfl
@[simp] theorem R.shut_no {α : Type} : (R.no : R α).shut = .no := rfl

def truthR (x : D) (h : Hs) : R Bool := ofO (truth x h) h

/-! ## subscripts, slices, methods, built-ins -/
def kvGet (kvs : List (D × D)) (k : D) : Option D := match kvs with
  | [] => none
  | (a, b) :: r => if eqv a k then some b else kvGet r k
def kvPut (kvs : List (D × D)) (k v : D) : List (D × D) :=
  if (kvs.any fun p => eqv p.1 k) = true then kvs.map (fun p => if eqv p.1 k = true then (p.1, v) else p) else kvs ++ [(k, v)]
def kvDel (kvs : List (D × D)) (k : D) : List (D × D) := kvs.filter fun p => !eqv p.1 k
/-- may it be a key of such a dict -/
def isK : D → Bool
  | .int _ => true
  | .str _ => true
  | _ => false
def isT : D → Bool
  | .tup ds => ds.all isK
  | _ => false
def okK (t : Bool) (kvs : List (D × D)) (k : D) : Bool := if t then isT k && kvs.all (fun p => isT p.1) else isK k && kvs.all (fun p => isK p.1)
def ixD (cs : List (List D)) (x y : D) (h : Hs) : R D := match x, y with
  | .con g, .int i => match cs[g]? with
    | some ys => ofO (atI ys i) h
    | none => .no
  | .tup xs, .int i => ofO (atI xs i) h
  | .str s, .int i => if s.length ≤ sizeLine then ofO ((atI s i).map fun c => .str [c]) h else .no
  | .ob n, k => match h[n]?, k with
    | some (.lst xs), .int i => ofO (atI xs i) h
    | some (.scr xs), .int i => ofO ((atI xs i).map D.int) h
    | some (.dic _ t kvs), k => if okK t kvs k then ofO (kvGet kvs k) h else .no
    | _, _ => .no
  | _, _ => .no
def cutD {α : Type} (xs : List α) (lo hi : Option Int) : List α := (xs.drop (HT.sIx xs.length 0 lo)).take (HT.sIx xs.length xs.length hi - HT.sIx xs.length 0 lo)
def slD (x : D) (lo hi : Option Int) (h : Hs) : R D := match x with
  | .tup xs => .ok (.tup (cutD xs lo hi)) h
  | .str s => if s.length ≤ sizeLine then .ok (.str (cutD s lo hi)) h else .no
  | .ob n => match h[n]? with
    | some (.lst xs) => .ok (.ob h.length) (h ++ [.lst (cutD xs lo hi)])
    | some (.scr xs) => .ok (.ob h.length) (h ++ [.lst ((cutD xs lo hi).map D.int)])
    | _ => .no
  | _ => .no
def optI : List D → Option (Option Int)
  | [] => some none
  | [.int i] => some (some i)
  | _ => none
/-- o[i] = v -/
def putD (o i v : D) (h : Hs) : Option Hs := match o with
  | .ob n => match h[n]?, i with
    | some (.lst xs), .int k => (ixN xs.length k).map fun j => h.set n (.lst (xs.set j v))
    | some (.dic false t kvs), k => if okK t kvs k && decide (kvs.length < sizeLine) then some (h.set n (.dic false t (kvPut kvs k v))) else none
    | _, _ => none
  | _ => none
def hasF (cl : List CI) (c : Nat) (f : String) : Bool := match cl[c]? with | some ci => ci.flds.contains f | none => false
def fldD (cl : List CI) (x : D) (f : String) (h : Hs) : R D := match x with
  | .ob n => match h[n]? with
    | some (.ins c fs) => if hasF cl c f then ofO (fs.lookup f) h else .no
    | _ => .no
  | _ => .no
def fput (f : String) (v : D) : List (String × D) → List (String × D)
  | [] => [(f, v)]
  | (g, x) :: r => if g = f then (g, v) :: r else (g, x) :: fput f v r
def fsetD (cl : List CI) (x : D) (f : String) (v : D) (h : Hs) : Option Hs := match x with
  | .ob n => match h[n]? with
    | some (.ins c fs) => if hasF cl c f && decide (fs.length < 900) then some (h.set n (.ins c (fput f v fs))) else none
    | _ => none
  | _ => none
/-- x op= y -/
def augD (o : Op) (x y : D) (h : Hs) : R D := match o, x, y with
  | .add, .int i, .int j => .ok (.int (i + j)) h
  | .sub, .int i, .int j => .ok (.int (i - j)) h
  | .add, .str s, .str t => if s.length + t.length ≤ sizeLine then .ok (.str (s ++ t)) h else .no
  | _, _, _ => .no
/-- a built-in value's method -/
def mtOf (x : D) (m : String) (h : Hs) : Option Mt := match x with
  | .ob n => match h[n]? with
    | some (.lst _) => if m = "index" then some .index else if m = "append" then some .append else if m = "reverse" then some .reverse else if m = "extend" then some .extend else if m = "pop" then some .pop else if m = "insert" then some .insert else none
    | some (.dic false false _) => if m = "update" then some .update else if m = "get" then some .get else none
    | some (.dic false true _) => if m = "get" then some .get else none
    | _ => none
  | .str _ => if m = "isalnum" then some .isalnum else if m = "startswith" then some .startswith else if m = "find" then some .find else if m = "lower" then some .lower else if m = "join" then some .join else none
  | _ => none
/-- sep.join(texts) -/
def joinL (sep : List Char) : List (List Char) → List Char
  | [] => []
  | [x] => x
  | x :: y :: r => x ++ sep ++ joinL sep (y :: r)
def strsOf : List D → Option (List (List Char))
  | [] => some []
  | .str s :: r => (strsOf r).map (s :: ·)
  | _ => none
/-- d.update(e) -/
def kvMrg (ks ls : List (D × D)) : List (D × D) := ls.foldl (fun acc p => kvPut acc p.1 p.2) ks
/-- the pairs of a list, their keys plain -/
def prsOf : List D → Option (List (D × D))
  | [] => some []
  | .tup [k, v] :: r => if isK k then (prsOf r).map ((k, v) :: ·) else none
  | _ => none
/-- the values of a dict, a new list -/
def vllD (x : D) (h : Hs) : R D := match x with
  | .ob n => match h[n]? with
    | some (.dic false false kvs) => .ok (.ob h.length) (h ++ [.lst (kvs.map fun p => p.2)])
    | _ => .no
  | _ => .no
/-- tuple(d.items()) -/
def ptdD (x : D) (h : Hs) : R D := match x with
  | .ob n => match h[n]? with
    | some (.dic false false kvs) => .ok (.ob h.length) (h ++ [.ptp (kvs.map fun p => .tup [p.1, p.2])])
    | _ => .no
  | _ => .no
/-- list(d.items()) -/
def itlD (x : D) (h : Hs) : R D := match x with
  | .ob n => match h[n]? with
    | some (.dic false false kvs) => .ok (.ob h.length) (h ++ [.lst (kvs.map fun p => .tup [p.1, p.2])])
    | _ => .no
  | _ => .no
def methD (k : Mt) (x : D) (xs : List D) (h : Hs) : R D := match k with
  | .append => match x, xs with
    | .ob n, [y] => match h[n]? with
      | some (.lst s) => if s.length < sizeLine then .ok .non (h.set n (.lst (s ++ [y]))) else .no
      | _ => .no
    | _, _ => .no
  | .insert => match x, xs with
    | .ob n, [.int i, y] => match h[n]? with
      | some (.lst s) => if s.length < sizeLine ∧ 0 ≤ i ∧ i < 2 ^ 62 then .ok .non (h.set n (.lst (s.take i.toNat ++ [y] ++ s.drop i.toNat))) else .no
      | _ => .no
    | _, _ => .no
  | .update => match x, xs with
    | .ob n, [.ob m] => match h[n]?, h[m]? with
      | some (.dic false false ks), some (.dic _ false ls) => if n ≠ m ∧ ks.length + ls.length ≤ sizeLine then .ok .non (h.set n (.dic false false (kvMrg ks ls))) else .no
      | _, _ => .no
    | _, _ => .no
  | .get => match x, xs with
    | .ob n, [k] => match h[n]? with
      | some (.dic false t kvs) => if okK t kvs k then .ok ((kvGet kvs k).getD .non) h else .no
      | _ => .no
    | .ob n, [k, d] => match h[n]? with
      | some (.dic false t kvs) => if okK t kvs k then .ok ((kvGet kvs k).getD d) h else .no
      | _ => .no
    | _, _ => .no
  | .reverse => match x, xs with
    | .ob n, [] => match h[n]? with
      | some (.lst s) => .ok .non (h.set n (.lst s.reverse))
      | _ => .no
    | _, _ => .no
  | .extend => match x, xs with
    | .ob n, [.ob m] => match h[n]?, h[m]? with
      | some (.lst s), some (.lst t) => if s.length + t.length ≤ sizeLine then .ok .non (h.set n (.lst (s ++ t))) else .no
      | _, _ => .no
    | .ob n, [.tup t] => match h[n]? with
      | some (.lst s) => if s.length + t.length ≤ sizeLine then .ok .non (h.set n (.lst (s ++ t))) else .no
      | _ => .no
    | _, _ => .no
  | .pop => match x, xs with
    | .ob n, [] => match h[n]? with
      | some (.lst s) => match s[s.length - 1]? with
        | some y => .ok y (h.set n (.lst s.dropLast))
        | none => .no
      | _ => .no
    | .ob n, [.int i] => match h[n]? with
      | some (.lst s) => if 0 ≤ i ∧ i < 2 ^ 62 then (match s[i.toNat]? with
        | some y => .ok y (h.set n (.lst (s.eraseIdx i.toNat)))
        | none => .no) else .no
      | _ => .no
    | _, _ => .no
  | .join => match x, xs with
    | .str sep, [.ob n] => match h[n]? with
      | some (.lst ys) => match strsOf ys with
        | some ss => if (ss.map List.length).sum + ss.length * sep.length ≤ 1000000 then .ok (.str (joinL sep ss)) h else .no
        | none => .no
      | _ => .no
    | _, _ => .no
  | .index => match x, xs with
    | .ob n, [y] => match h[n]? with
      | some (.lst s) => if purs s && decide (deps s ≤ 60) && pur y && decide (dep y ≤ 60) then (match s.findIdx? (fun z => eqv z y) with
        | some j => .ok (.int (j : Nat)) h
        | none => .no) else .no
      | _ => .no
    | _, _ => .no
  | .isalnum => match x, xs with
    | .str s, [] => .ok (.bl (Txt.isalnum (st s))) h
    | _, _ => .no
  | .startswith => match x, xs with
    | .str s, [.str p, .int i] => .ok (.bl (Txt.startswith3 (st s) (st p) i)) h
    | _, _ => .no
  | .find => match x, xs with
    | .str s, [.str p, .int i] => .ok (.int (Txt.find3 (st s) (st p) i)) h
    | _, _ => .no
  | .lower => match x, xs with
    | .str s, [] => if s.length ≤ 1000000 ∧ Txt.lower (st s) = st (s.map Char.toLower) then .ok (.str (s.map Char.toLower)) h else .no
    | _, _ => .no
/-- truths -/
def blsOf : List D → Option (List Bool)
  | [] => some []
  | .bl b :: r => (blsOf r).map (b :: ·)
  | _ => none
def isIns (x : D) (h : Hs) : Option (Nat × List (String × D)) := match x with
  | .ob n => match h[n]? with
    | some (.ins c fs) => some (c, fs)
    | _ => none
  | _ => none
/-- a list, a dict: is it of the class -/
def isObB (h : Hs) (n : Nat) (l d : Bool) : R D := match h[n]? with
  | some (.lst _) => .ok (.bl l) h
  | some (.dic false _ _) => .ok (.bl d) h
  | _ => .no
def bltD (b : Bf) (xs : List D) (h : Hs) : R D := match b, xs with
  | .len, [.tup s] => .ok (.int s.length) h
  | .len, [.str s] => if s.length ≤ sizeLine then .ok (.int s.length) h else .no
  | .len, [.ob n] => match h[n]? with
    | some (.lst s) => .ok (.int s.length) h
    | some (.scr s) => .ok (.int s.length) h
    | some (.dic _ false s) => .ok (.int s.length) h
    | some (.dic false true s) => .ok (.int s.length) h
    | _ => .no
  | .abs, [.int i] => .ok (.int (if i < 0 then -i else i)) h
  | .int, [.int i] => .ok (.int i) h
  | .int, [.bl b] => .ok (.int (if b then 1 else 0)) h
  | .int, [.str s] => match PySem.intText? (st s) with
    | some n => if s.length ≤ 640 then .ok (.int n) h else .no
    | none => .no
  | .str, [.int i] => if i.natAbs.log2 < 1920 then .ok (.str (toString i).toList) h else .no
  | .str, [.str s] => .ok (.str s) h
  | .str, [.bl b] => .ok (.str (if b then ['T', 'r', 'u', 'e'] else ['F', 'a', 'l', 's', 'e'])) h
  | .sorted, [.ob n] => match h[n]? with
    | some (.lst s) => if srtOk s then .ok (.ob h.length) (h ++ [.lst (srtD s)]) else .no
    | some (.dic _ true kvs) => if srtOk (kvs.map (·.1)) then .ok (.ob h.length) (h ++ [.lst (srtD (kvs.map (·.1)))]) else .no
    | _ => .no
  | .all, [.ob n] => match h[n]? with
    | some (.lst s) => match blsOf s with
      | some bs => .ok (.bl (bs.all id)) h
      | none => .no
    | _ => .no
  | .min2, [.int i, .int j] => .ok (.int (if j < i then j else i)) h
  | .max2, [.int i, .int j] => .ok (.int (if j > i then j else i)) h
  | .tuple, [.tup s] => .ok (.tup s) h
  | .tuple, [.ob n] => match h[n]? with
    | some (.lst s) => .ok (.tup s) h
    | _ => .no
  | .list, [.tup s] => .ok (.ob h.length) (h ++ [.lst s])
  | .list, [.ob n] => match h[n]? with
    | some (.lst s) => .ok (.ob h.length) (h ++ [.lst s])
    | some (.scr s) => .ok (.ob h.length) (h ++ [.lst (s.map D.int)])
    | some (.dic false false kvs) => .ok (.ob h.length) (h ++ [.lst (kvs.map (·.1))])
    | _ => .no
  | .ptup, [.ob n] => match h[n]? with
    | some (.lst s) => .ok (.ob h.length) (h ++ [.ptp s])
    | _ => .no
  | .dict, [.ob n] => match h[n]? with
    | some (.dic _ false kvs) => .ok (.ob h.length) (h ++ [.dic false false kvs])
    | some (.ptp s) => match prsOf s with
      | some ps => .ok (.ob h.length) (h ++ [.dic false false (kvMrg [] ps)])
      | none => .no
    | some (.lst s) => match prsOf s with
      | some ps => .ok (.ob h.length) (h ++ [.dic false false (kvMrg [] ps)])
      | none => .no
    | _ => .no
  | .isTup, [.tup _] => .ok (.bl true) h
  | .isTup, [.non] => .ok (.bl false) h
  | .isTup, [.bl _] => .ok (.bl false) h
  | .isTup, [.int _] => .ok (.bl false) h
  | .isTup, [.str _] => .ok (.bl false) h
  | .isStr, [.tup _] => .ok (.bl false) h
  | .isStr, [.non] => .ok (.bl false) h
  | .isStr, [.bl _] => .ok (.bl false) h
  | .isStr, [.int _] => .ok (.bl false) h
  | .isStr, [.str _] => .ok (.bl true) h
  | .isBool, [.tup _] => .ok (.bl false) h
  | .isBool, [.non] => .ok (.bl false) h
  | .isBool, [.bl _] => .ok (.bl true) h
  | .isBool, [.int _] => .ok (.bl false) h
  | .isBool, [.str _] => .ok (.bl false) h
  | .isTup, [.ob n] => isObB h n false false
  | .isStr, [.ob n] => isObB h n false false
  | .isBool, [.ob n] => isObB h n false false
  | .isInt, [.ob n] => isObB h n false false
  | .isList, [.ob n] => isObB h n true false
  | .isDict, [.ob n] => isObB h n false true
  | .isDict, [.tup _] => .ok (.bl false) h
  | .isDict, [.non] => .ok (.bl false) h
  | .isDict, [.bl _] => .ok (.bl false) h
  | .isDict, [.int _] => .ok (.bl false) h
  | .isDict, [.str _] => .ok (.bl false) h
  | .isList, [.tup _] => .ok (.bl false) h
  | .isList, [.non] => .ok (.bl false) h
  | .isList, [.bl _] => .ok (.bl false) h
  | .isList, [.int _] => .ok (.bl false) h
  | .isList, [.str _] => .ok (.bl false) h
  | .isInt, [.tup _] => .ok (.bl false) h
  | .isInt, [.non] => .ok (.bl false) h
  | .isInt, [.bl _] => .ok (.bl true) h
  | .isInt, [.int _] => .ok (.bl true) h
  | .isInt, [.str _] => .ok (.bl false) h
  | .repr, [.tup xs] => if rpOk (.tup xs) && decide (dep (.tup xs) ≤ 64) && decide ((rp (.tup xs)).length ≤ sizeLine) then .ok (.str (rp (.tup xs))) h else .no
  | _, _ => .no
/-- the tuples of the module, and the script behind them -/
def Wd.cs2 (W : Wd) : List (List D) := W.cons ++ [W.scr.map D.int]
/-- .. where the script may be one of the module's own objects -/
def bltC (W : Wd) (b : Bf) (xs : List D) (h : Hs) : R D := match b with
  | .list => match xs with
    | [.con g] => if g = W.cons.length then .ok (.ob h.length) (h ++ [.lst (W.scr.map D.int)]) else match W.cons[g]? with
      | some ys => .ok (.ob h.length) (h ++ [.lst ys])
      | none => .no
    | xs => bltD .list xs h
  | .len => match xs with
    | [.con g] => if g = W.cons.length then .ok (.int W.scr.length) h else .no
    | xs => bltD .len xs h
  | .dict => match xs with
    | [.con g] => if g = W.cons.length + 1 then .ok (.ob h.length) (h ++ [.dic false false []]) else .no
    | xs => bltD .dict xs h
  | b => bltD b xs h
/-- in, not in -/
def inD (cs : List (List D)) (x y : D) (h : Hs) : Option Bool := match y with
  | .con g => match cs[g]? with
    | some ys => if flat x && ys.all flat then some (inL x ys) else none
    | none => none
  | .tup ys => if flat x && ys.all flat then some (inL x ys) else none
  | .ob n => match h[n]? with
    | some (.lst ys) => if flat x && ys.all flat then some (inL x ys) else none
    | some (.dic _ t kvs) => if okK t kvs x then some (kvGet kvs x).isSome else none
    | _ => none
  | .str s => match x with
    | .str [c] => some (s.contains c)
    | _ => none
  | _ => none
/-- == of two dicts -/
def dicB (x y : D) (h : Hs) : Option (List (D × D) × List (D × D)) := match x, y with
  | .ob n, .ob m => match h[n]?, h[m]? with
    | some (.dic _ false ks), some (.dic _ false ls) => some (ks, ls)
    | _, _ => none
  | _, _ => none
def hitKV (ls : List (D × D)) (p : D × D) : Bool := match kvGet ls p.1 with | some w => eqv p.2 w | none => false
def eqKV (ks ls : List (D × D)) : Option Bool := if (ks.all fun p => flat p.2) && ls.all (fun p => flat p.2) then some (ks.length == ls.length && ks.all (hitKV ls)) else none
def cmpA (cs : List (List D)) (o : Cp) (x y : D) (h : Hs) : R D := match o with
  | .eq => match dicB x y h with
    | some q => (ofO (eqKV q.1 q.2) h).bind fun b h => .ok (.bl b) h
    | none => cmpD .eq x y h
  | .ne => match dicB x y h with
    | some q => (ofO (eqKV q.1 q.2) h).bind fun b h => .ok (.bl (!b)) h
    | none => cmpD .ne x y h
  | .in_ => (ofO (inD cs x y h) h).bind fun b h => .ok (.bl b) h
  | .nin => (ofO (inD cs x y h) h).bind fun b h => .ok (.bl (!b)) h
  | .is_ => match y with | .non => .ok (.bl (match x with | .non => true | _ => false)) h | .bl b => (match x with | .bl a => .ok (.bl (decide (a = b))) h | _ => .no) | _ => .no
  | .isn => match y with | .non => .ok (.bl (match x with | .non => false | _ => true)) h | .bl b => (match x with | .bl a => .ok (.bl (!decide (a = b))) h | _ => .no) | _ => .no
  | o => cmpD o x y h

/-! ## what is walked -/
/-- what a loop leans on: an object that stays; a dict that is locked -/
inductive Gd where | none | keep (n : Nat) (mo : MO) | keep2 (n : Nat) (mo : MO) (m : Nat) (mo2 : MO) | lock (n : Nat) (t : Bool) (kvs : List (D × D))
def same (g : Gd) (h : Hs) : Prop := match g with
  | .none => True
  | .keep n mo => h[n]? = some mo
  | .keep2 n mo m mo2 => h[n]? = some mo ∧ h[m]? = some mo2
  | .lock n t kvs => h[n]? = some (.dic true t kvs)
def endG (g : Gd) (h : Hs) : Hs := match g with
  | .lock n t kvs => h.set n (.dic false t kvs)
  | _ => h
/-- the items, what it leans on, the heap -/
def itemsI (cs : List (List D)) (k : Ik) (xs : List D) (h : Hs) : Option (List D × Gd × Hs) := match k, xs with
  | .seq, [.tup s] => some (s, .none, h)
  | .seq, [.con g] => (cs[g]?).map fun ys => (ys, .none, h)
  | .seq, [.ob n] => match h[n]? with
    | some (.lst s) => some (s, .keep n (.lst s), h)
    | some (.scr s) => some (s.map D.int, .keep n (.scr s), h)
    | some (.dic true t kvs) => some (kvs.map (·.1), .keep n (.dic true t kvs), h)
    | some (.dic false t kvs) => some (kvs.map (·.1), .lock n t kvs, h.set n (.dic true t kvs))
    | _ => none
  | .items, [.ob n] => match h[n]? with
    | some (.dic true false kvs) => some (kvs.map fun p => .tup [p.1, p.2], .keep n (.dic true false kvs), h)
    | some (.dic false false kvs) => some (kvs.map fun p => .tup [p.1, p.2], .lock n false kvs, h.set n (.dic true false kvs))
    | _ => none
  | .vals, [.ob n] => match h[n]? with
    | some (.dic true false kvs) => some (kvs.map (·.2), .keep n (.dic true false kvs), h)
    | some (.dic false false kvs) => some (kvs.map (·.2), .lock n false kvs, h.set n (.dic true false kvs))
    | _ => none
  | .own c F, [.ob n] => match h[n]? with
    | some (.ins c' fs) => if c' = c then match fs.lookup F with
      | some (.ob m) => match h[m]? with
        | some (.dic false false kvs) => some (kvs.map fun p => .tup [p.1, p.2], .lock m false kvs, h.set m (.dic true false kvs))
        | _ => none
      | _ => none else none
    | _ => none
  | .enum, [.ob n] => match h[n]? with
    | some (.lst s) => some (s.zipIdx.map fun p => .tup [.int (p.2 : Int), p.1], .keep n (.lst s), h)
    | _ => none
  | .zip, [.tup s, .ob n] => match h[n]? with
    | some (.lst t) => some ((s.zip t).map fun p => .tup [p.1, p.2], .keep n (.lst t), h)
    | _ => none
  | .zip, [.ob n, .ob m] => match h[n]?, h[m]? with
    | some (.lst s), some (.lst t) => some ((s.zip t).map fun p => .tup [p.1, p.2], .keep2 n (.lst s) m (.lst t), h)
    | _, _ => none
  | .rng1, [.int j] => if -(2 ^ 62) ≤ j ∧ j < 2 ^ 62 then some ((List.range j.toNat).map fun (i : Nat) => D.int (0 + (i : Int)), .none, h) else none
  | .rng2, [.int i, .int j] => if -(2 ^ 62) ≤ i ∧ i < 2 ^ 62 ∧ -(2 ^ 62) ≤ j ∧ j < 2 ^ 62 then some ((List.range (j - i).toNat).map fun (k : Nat) => D.int (i + (k : Int)), .none, h) else none
  | _, _ => none
def bindT (t : Tg) (d : D) (h : Hs) (σ : Sg) : Option Sg := match t with
  | .nm i => some (σ.set i (some d))
  | .tp is => match d with
    | .tup ds => if ds.length = is.length then some ((is.zip ds).foldl (fun σ p => σ.set p.1 (some p.2)) σ) else none
    | .ob n => match h[n]? with
      | some (.lst ds) => if ds.length = is.length then some ((is.zip ds).foldl (fun σ p => σ.set p.1 (some p.2)) σ) else none
      | _ => none
    | _ => none
  | .tn is j => match d with
    | .tup [.tup ds, v] => if ds.length = is.length then some (((is.zip ds).foldl (fun σ p => σ.set p.1 (some p.2)) σ).set j (some v)) else none
    | _ => none
def wipeI (σ : Sg) : List Nat → Sg
  | [] => σ
  | v :: vs => (wipeI σ vs).set v none

open Classical in
noncomputable def lcI (g : Gd) (turn : D → Hs → R (Option D)) : List D → List D → Hs → R (List D)
  | [], acc, h => if same g h then .ok acc (endG g h) else .no
  | d :: ds, acc, h => if same g h then (turn d h).bind fun o h => match o with
    | some x => if acc.length < sizeLine then lcI g turn ds (acc ++ [x]) h else .no
    | none => lcI g turn ds acc h
    else .no
open Classical in
noncomputable def forI (g : Gd) (turn : D → Sg → Hs → RS) : List D → Sg → Hs → RS
  | [], σ, h => if same g h then .ok (.nx σ) (endG g h) else .no
  | d :: ds, σ, h => if same g h then match turn d σ h with
    | .ok (.nx σ) h => forI g turn ds σ h
    | .ok (.ct σ) h => forI g turn ds σ h
    | .ok (.bk σ) h => if same g h then .ok (.nx σ) (endG g h) else .no
    | .ok (.rt d) h => if same g h then .ok (.rt d) (endG g h) else .no
    | r => r
    else .no
def whileI (c : Sg → Hs → R Bool) (b : Sg → Hs → RS) : Nat → Sg → Hs → RS
  | 0, _, _ => .no
  | n + 1, σ, h => (c σ h).stm σ fun t h => if t then match b σ h with
    | .ok (.nx σ) h => whileI c b n σ h
    | .ok (.ct σ) h => whileI c b n σ h
    | .ok (.bk σ) h => .ok (.nx σ) h
    | r => r
    else .ok (.nx σ) h

/-- a comprehension's test -/
def cdB (ts : List D) (h : Hs) : R Bool := match ts with
  | [] => .ok true h
  | [t] => truthR t h
  | _ => .no
/-- a turn of a comprehension -/
def lcTurn (bt : D → Hs → Option Sg) (cd : Sg → Hs → R Bool) (el : Sg → Hs → R D) (d : D) (h : Hs) : R (Option D) :=
  ((ofO (bt d h) h).bind fun σ1 h => (cd σ1 h).bind fun b h => if b then (el σ1 h).bind fun x h => .ok (some x) h else .ok none h).shut
/-- a turn of a comprehension that makes a dict -/
def dcTurn (bt : D → Hs → Option Sg) (cd : Sg → Hs → R Bool) (ke el : Sg → Hs → R D) (d : D) (h : Hs) : R (Option (D × D)) :=
  ((ofO (bt d h) h).bind fun σ1 h => (cd σ1 h).bind fun b h => if b then (ke σ1 h).bind fun x h => (el σ1 h).bind fun y h => .ok (some (x, y)) h else .ok none h).shut
open Classical in
noncomputable def dcI (g : Gd) (turn : D → Hs → R (Option (D × D))) : List D → List (D × D) → Hs → R (List (D × D))
  | [], acc, h => if same g h then .ok acc (endG g h) else .no
  | d :: ds, acc, h => if same g h then (turn d h).bind fun o h => match o with
    | some p => if okK false acc p.1 = true ∧ acc.length < sizeLine then dcI g turn ds (kvPut acc p.1 p.2) h else .no
    | none => dcI g turn ds acc h
    else .no
def dcEnd (acc : List (D × D)) (h : Hs) : R D := .ok (.ob h.length) (h ++ [.dic false false acc])
def lcEnd (acc : List D) (h : Hs) : R D := .ok (.ob h.length) (h ++ [.lst acc])
/-- keys that are texts -/
def strK : List E → Option (List (List Char))
  | [] => some []
  | .cst (.str s) :: r => (strK r).map (s :: ·)
  | _ => none
/-- an item of a dict of the module, by a text -/
def gixD (dcs : List (List (List Char × D))) (g : Nat) (x : D) (h : Hs) : R D := match x, dcs[g]? with
  | .str k, some kvs => ofO (kvs.lookup k) h
  | _, _ => .no
def ginD (dcs : List (List (List Char × D))) (neg : Bool) (g : Nat) (x : D) (h : Hs) : R D := match x, dcs[g]? with
  | .str k, some kvs => .ok (.bl ((kvs.lookup k).isSome != neg)) h
  | .non, some _ => .ok (.bl neg) h
  | .int _, some _ => .ok (.bl neg) h
  | _, _ => .no
/-- the end of a display with keys: the dict stood empty meanwhile -/
def dicE (n : Nat) (kk : List (List Char)) (ds : List D) (h : Hs) : R D := match h[n]? with
  | some (.dic false false []) => if ds.length = kk.length then .ok (.ob n) (h.set n (.dic false false (kvMrg [] ((kk.map D.str).zip ds)))) else .no
  | _ => .no
abbrev CF := Nat → List D → Hs → R D
abbrev CXI := Option (Nat × List (String × D))
section
variable (W : Wd) (cf : CF) (cx : CXI)
mutual
noncomputable def evalE : E → Sg → Hs → R D
  | .var i, σ, h => match σ[i]? with | some (some d) => .ok d h | _ => .no
  | .cst d, _, h => .ok d h
  | .glb g, _, h => .ok (.con g) h
  | .gst _ s, _, h => .ok (.str s) h
  | .gni _ i, _, h => .ok (.int i) h
  | .fnv f, _, h => .ok (.fn f) h
  | .bin o a b, σ, h => (evalE a σ h).bind fun x h => (evalE b σ h).bind fun y h => opD o x y h
  | .neg a, σ, h => (evalE a σ h).bind fun x h => match x with | .int i => .ok (.int (-i)) h | _ => .no
  | .cmp o a b, σ, h => (evalE a σ h).bind fun x h => (evalE b σ h).bind fun y h => cmpA W.cons o x y h
  | .chn o o' a b c, σ, h => (evalE a σ h).bind fun x h => (evalE b σ h).bind fun y h => (cmpA W.cons o x y h).bind fun z h => match z with
    | .bl true => (evalE c σ h).bind fun w h => cmpA W.cons o' y w h
    | .bl false => .ok (.bl false) h
    | _ => .no
  | .and a b, σ, h => (evalE a σ h).bind fun x h => (truthR x h).bind fun t h => if t then evalE b σ h else .ok x h
  | .or a b, σ, h => (evalE a σ h).bind fun x h => (truthR x h).bind fun t h => if t then .ok x h else evalE b σ h
  | .not a, σ, h => (evalE a σ h).bind fun x h => (truthR x h).bind fun t h => .ok (.bl (!t)) h
  | .ife c a b, σ, h => (evalE c σ h).bind fun x h => (truthR x h).bind fun t h => if t then evalE a σ h else evalE b σ h
  | .tup es, σ, h => (evalEs es σ h).bind fun xs h => if xs.length ≤ sizeLine then .ok (.tup xs) h else .no
  | .lst es, σ, h => (evalEs es σ h).bind fun xs h => if xs.length ≤ sizeLine then .ok (.ob h.length) (h ++ [.lst xs]) else .no
  | .dic t ks vs, σ, h => match strK ks with
    | some [] => if vs.isEmpty then .ok (.ob h.length) (h ++ [.dic false t []]) else .no
    | some kk => if t || decide (15 < kk.length) then .no else (evalEs vs σ (h ++ [.dic false false []])).bind fun ds h1 => dicE h.length kk ds h1
    | none => .no
  | .gix g e, σ, h => (evalE e σ h).bind fun x h => gixD W.dcs g x h
  | .gin neg g e, σ, h => (evalE e σ h).bind fun x h => ginD W.dcs neg g x h
  | .lnI e, σ, h => (evalE e σ h).bind fun x h => match isIns x h with
    | some (c, _) => match (W.cls[c]?).bind fun ci => ci.meths.lookup "__len__" with
      | some f => (cf f [x] h).bind fun r h' => match r with | .int i => if 0 ≤ i ∧ i < 2 ^ 62 then .ok (.int i) h' else .no | _ => .no
      | none => .no
    | none => .no
  | .itl e, σ, h => (evalE e σ h).bind fun x h => itlD x h
  | .vll e, σ, h => (evalE e σ h).bind fun x h => vllD x h
  | .itr _, _, _ => .no
  | .ptd e, σ, h => (evalE e σ h).bind fun x h => ptdD x h
  | .newd c, _, h => match (W.cls[c]?).bind (·.ini) with
    | some f => (cf f [.ob h.length, .con (W.cons.length + 1)] (h ++ [.ins c []])).bind fun r h' => match r with | .non => .ok (.ob h.length) h' | _ => .no
    | none => .no
  | .ix a i, σ, h => (evalE a σ h).bind fun x h => (evalE i σ h).bind fun y h => ixD W.cs2 x y h
  | .slc a lo hi, σ, h => (evalE a σ h).bind fun x h => (evalEs lo σ h).bind fun l h => (ofO (optI l) h).bind fun l h => (evalEs hi σ h).bind fun u h => (ofO (optI u) h).bind fun u h => slD x l u h
  | .back a, σ, h => (evalE a σ h).bind fun x h => match x with
    | .ob n => match h[n]? with
      | some (.lst xs) => .ok (.ob h.length) (h ++ [.lst xs.reverse])
      | _ => .no
    | _ => .no
  | .fld a f, σ, h => (evalE a σ h).bind fun x h => fldD W.cls x f h
  | .cal f es, σ, h => (evalEs es σ h).bind fun xs h => cf f xs h
  | .cav i es, σ, h => match σ[i]? with
    | some (some (.fn f)) => (evalEs es σ h).bind fun xs h => cf f xs h
    | _ => .no
  | .new c es, σ, h => (evalEs es σ h).bind fun xs h => match (W.cls[c]?).bind (·.ini) with
    | some f => (cf f (.ob h.length :: xs) (h ++ [.ins c []])).bind fun r h' => match r with | .non => .ok (.ob h.length) h' | _ => .no
    | none => .no
  | .met o m es, σ, h => (evalE o σ h).bind fun x h => match isIns x h with
    | some (c, fs) => match (W.cls[c]?).bind fun ci => ci.meths.lookup m with
      | some f => if (fs.lookup m).isNone then (evalEs es σ h).bind fun xs h => cf f (x :: xs) h else .no
      | none => .no
    | none => match mtOf x m h with
      | some k => (evalEs es σ h).bind fun xs h => methD k x xs h
      | none => .no
  | .blt b es, σ, h => (evalEs es σ h).bind fun xs h => bltC W b xs h
  | .lc own tg k its cd el, σ, h => (evalEs its σ h).bind fun xs h => (ofO (itemsI W.cons k xs h) h).bind fun ig h =>
    (lcI ig.2.1 (lcTurn (fun d h => bindT tg d h (wipeI σ own)) (fun σ1 h => (evalEs cd σ1 h).bind cdB) (fun σ1 h => evalE el σ1 h)) ig.1 [] ig.2.2).bind lcEnd
  | .dc own tg k its cd ke el, σ, h => (evalEs its σ h).bind fun xs h => (ofO (itemsI W.cons k xs h) h).bind fun ig h =>
    (dcI ig.2.1 (dcTurn (fun d h => bindT tg d h (wipeI σ own)) (fun σ1 h => (evalEs cd σ1 h).bind cdB) (fun σ1 h => evalE ke σ1 h) (fun σ1 h => evalE el σ1 h)) ig.1 [] ig.2.2).bind dcEnd
  | .exf i f, σ, h => match cx, σ[i]? with
    | some (c, fs), some none => if f ∈ W.exf c then ofO (fs.lookup f) h else .no
    | _, _ => .no
  | .exi i k, σ, h => match cx, σ[i]? with
    | some (c, _), some none => .ok (.bl (W.isa c k)) h
    | _, _ => .no
  | .cml v _ es cs, σ, h => (evalEs es σ h).bind fun xs h => (evalEs cs σ h).bind fun ys h => cf v (xs ++ ys) h
  | .mml c o m v _ cs, σ, h => (evalE o σ h).bind fun x h => match isIns x h with
    | some (c', fs) => if c' = c ∧ (fs.lookup m).isNone = true then (evalEs cs σ h).bind fun ys h => cf v (x :: ys) h else .no
    | none => .no
  | .cvl i es, σ, h => match cx, σ[i]? with
    | some (j, fs), some none => (evalEs es σ h).bind fun xs h => cf j (fs.map (·.2) ++ xs) h
    | _, _ => .no
noncomputable def evalEs : List E → Sg → Hs → R (List D)
  | [], _, h => .ok [] h
  | e :: es, σ, h => (evalE e σ h).bind fun x h => (evalEs es σ h).bind fun xs h => .ok (x :: xs) h
end
end

/-- del x[y:] -/
def delsD (x y : D) (h : Hs) : Option Hs := match x, y with
  | .ob n, .int i => match h[n]? with
    | some (.lst s) => if 0 ≤ i ∧ i ≤ s.length ∧ s.length ≤ 1000000 then some (h.set n (.lst (s.take i.toNat))) else none
    | _ => none
  | _, _ => none
def kvDrop (kvs : List (D × D)) (k : D) : List (D × D) := kvs.filter fun p => !eqv p.1 k
/-- del x[y] -/
def deldD (x y : D) (h : Hs) : Option Hs := match x with
  | .ob n => match h[n]? with
    | some (.dic false false kvs) => if okK false kvs y && (kvGet kvs y).isSome then some (h.set n (.dic false false (kvDrop kvs y))) else none
    | _ => none
  | _ => none
/-- the name of a clause -/
def offI (o : Option Nat) (σ : Sg) : Sg := match o with | some i => σ.set i none | none => σ
def RS.offs (o : Option Nat) (r : RS) : RS := match r with
  | .ok (.nx σ) h => .ok (.nx (offI o σ)) h
  | .ok (.bk σ) h => .ok (.bk (offI o σ)) h
  | .ok (.ct σ) h => .ok (.ct (offI o σ)) h
  | .ok (.rt d) h => .ok (.rt d) h
  | _ => .no
@[simp] theorem RS.offs_nx (o σ h) : (RS.ok (.nx σ) h).offs o = .ok (.nx (offI o σ)) h := rfl
@[simp] theorem RS.offs_rt (o d h) : (RS.ok (.rt d) h).offs o = .ok (.rt d) h := rfl
section
variable (W : Wd) (L : Nat) (cf : CF)
/-- does a case's pattern fit: no meaning; no; the other items -/
def matD (ws : List (List Char)) (n : Nat) (x : D) : Option (Option (List D)) := match x with
  | .tup (d :: ds) => if ds.length ≠ n then some none else if flat d then some (if ws.any (fun w => eqv d (.str w)) then some ds else none) else none
  | .tup [] => some none
  | .non => some none
  | .bl _ => some none
  | .int _ => some none
  | .str _ => some none
  | _ => none
def bindC : List (Option Nat) → List D → Sg → Sg
  | some i :: r, d :: ds, σ => bindC r ds (σ.set i (some d))
  | none :: r, _ :: ds, σ => bindC r ds σ
  | _, _, σ => σ
def isSomeB {α : Type} (o : Option α) : Bool := o.isSome
mutual
noncomputable def evalS (cx : CXI) : S → Sg → Hs → RS
  | .set i e, σ, h => (evalE W cf cx e σ h).stm σ fun x h => .ok (.nx (σ.set i (some x))) h
  | .setT is e, σ, h => (evalE W cf cx e σ h).stm σ fun x h => match bindT (.tp is) x h σ with | some σ => .ok (.nx σ) h | none => .no
  | .put o i e, σ, h => (evalE W cf cx e σ h).stm σ fun v h => (evalE W cf cx o σ h).stm σ fun x h => (evalE W cf cx i σ h).stm σ fun y h => match putD x y v h with
    | some h => .ok (.nx σ) h
    | none => .no
  | .fset o f e, σ, h => (evalE W cf cx e σ h).stm σ fun v h => (evalE W cf cx o σ h).stm σ fun x h => match fsetD W.cls x f v h with
    | some h => .ok (.nx σ) h
    | none => .no
  | .aug i o e, σ, h => match σ[i]? with
    | some (some x) => (evalE W cf cx e σ h).stm σ fun y h => (augD o x y h).stm σ fun z h => .ok (.nx (σ.set i (some z))) h
    | _ => .no
  | .faug a f o e, σ, h => (evalE W cf cx a σ h).stm σ fun x h => match isIns x h with
    | some (c, fs) => if hasF W.cls c f then match fs.lookup f with
      | some y => (evalE W cf cx e σ h).stm σ fun z h => (augD o y z h).stm σ fun w h => match isIns x h, fsetD W.cls x f w h with
        | some (c', _), some h => if c' = c then .ok (.nx σ) h else .no
        | _, _ => .no
      | none => .no
      else .no
    | none => .no
  | .expr e, σ, h => (evalE W cf cx e σ h).stm σ fun _ h => .ok (.nx σ) h
  | .ret e, σ, h => (evalE W cf cx e σ h).stm σ fun x h => .ok (.rt x) h
  | .retN, _, h => .ok (.rt .non) h
  | .ife c a b, σ, h => (evalE W cf cx c σ h).stm σ fun x h => (truthR x h).stm σ fun t h => if t then evalB cx a σ h else evalB cx b σ h
  | .whl c b, σ, h => whileI (fun σ h => (evalE W cf cx c σ h).bind fun x h => truthR x h) (evalB cx b) L σ h
  | .for_ tg k its b, σ, h => (evalEs W cf cx its σ h).stm σ fun xs h => (ofO (itemsI W.cons k xs h) h).stm σ fun ig h =>
    forI ig.2.1 (fun d σ h => match bindT tg d h σ with | some σ => evalB cx b σ h | none => .no) ig.1 σ ig.2.2
  | .raise c es, σ, h => (evalEs W cf cx es σ h).stm σ fun xs h => if 0 < (W.exf c).length ∧ xs.length = (W.exf c).length ∧ xs.length ≤ 900 then .exc c ((W.exf c).zip xs).reverse σ h else .no
  | .try_ b hs, σ, h => match evalB cx b σ h with
    | .exc c fs σ1 h1 => if 0 < (W.exf c).length then evalH c fs hs σ1 h1 else .no
    | r => r
  | .dels e lo, σ, h => (evalE W cf cx e σ h).stm σ fun x h => (evalE W cf cx lo σ h).stm σ fun y h => match delsD x y h with | some h => .ok (.nx σ) h | none => .no
  | .deld o k, σ, h => (evalE W cf cx o σ h).stm σ fun x h => (evalE W cf cx k σ h).stm σ fun y h => match deldD x y h with | some h => .ok (.nx σ) h | none => .no
  | .mat e cs, σ, h => (evalE W cf cx e σ h).stm σ fun x h => evalM cx x cs σ h
  | .brk, σ, h => .ok (.bk σ) h
  | .cnt, σ, h => .ok (.ct σ) h
  | .pass, σ, h => .ok (.nx σ) h
  | .stuck, _, _ => .no
noncomputable def evalB (cx : CXI) : List S → Sg → Hs → RS
  | [], σ, h => .ok (.nx σ) h
  | s :: r, σ, h => (evalS cx s σ h).then fun σ h => evalB cx r σ h
/-- the clauses, one after the other -/
noncomputable def evalH (c : Nat) (fs : List (String × D)) : List (Nat × Option Nat × List S) → Sg → Hs → RS
  | [], σ, h => .exc c fs σ h
  | (k, o, b) :: r, σ, h => if W.isa c k then (evalB (some (c, fs)) b (offI o σ) h).offs o else evalH c fs r σ h
/-- the cases, one after the other -/
noncomputable def evalM (cx : CXI) (x : D) : List (List (List Char) × List (Option Nat) × List S) → Sg → Hs → RS
  | [], σ, h => .ok (.nx σ) h
  | (ws, sl, b) :: r, σ, h => match matD ws sl.length x with
    | some (some ds) => evalB cx b (bindC sl ds σ) h
    | some none => evalM cx x r σ h
    | none => .no
end
end
def RS.fin (r : RS) : R D := match r with
  | .ok (.nx _) h => .ok .non h
  | .ok (.rt d) h => .ok d h
  | .exc c fs _ h => .exc c fs h
  | _ => .no
@[simp] theorem RS.fin_nx (σ h) : (RS.ok (.nx σ) h).fin = .ok .non h := rfl
@[simp] theorem RS.fin_rt (d h) : (RS.ok (.rt d) h).fin = .ok d h := rfl
@[simp] theorem RS.fin_exc (c fs σ h) : (RS.exc c fs σ h).fin = .exc c fs h := rfl
def start (ns : Nat) (ds : List D) : Sg := ds.map some ++ List.replicate (ns - ds.length) none
/-- what a def knows of the lambda that it got -/
def FI.cx (fi : FI) (ds : List D) : CXI := match fi.lm with
  | none => none
  | some q => some (q.2.1, (ds.drop q.1).map fun d => ("", d))
def FI.st (fi : FI) (ds : List D) : Sg := match fi.lm with
  | none => start fi.ns ds
  | some q => start fi.ns (ds.take q.1)
noncomputable def callF (W : Wd) (L : Nat) : Nat → CF
  | 0, _, _, _ => .no
  | n + 1, f, ds, h => match W.fns[f]? with
    | some fi => if ds.length = fi.np then (evalB W L (callF W L n) (fi.cx ds) fi.body (fi.st ds) h).fin else .no
    | none => .no
end Rf
end

section
/-! isinstance of a caught exception that has fields -/
namespace Rf
open PySem PySem.Spec PyProof.Rows L2
/-- what a class of exceptions says of `__class__` -/
structure ExcD (K : PySem.W.Frag) (D : Addr) : Prop where
  fi : PySem.W.findIn K (.ref D) "__class__" = some (some (.builtin "object.__class__"))
  sp : PySem.W.specialIn K (.builtin "object.__class__") "__get__" = some (some (.builtin "getset_descriptor.__get__"))
  tk : PySem.W.takesIn K (.builtin "object.__class__") = some true
  mr : PySem.W.mroIn K D (.type "object") = some true
  ci : (PySem.W.clsIn K D).isSome = true
def excB (K : PySem.W.Frag) (D : Addr) : Bool :=
  [decide (PySem.W.findIn K (.ref D) "__class__" = some (some (.builtin "object.__class__"))), decide (PySem.W.specialIn K (.builtin "object.__class__") "__get__" = some (some (.builtin "getset_descriptor.__get__"))),
    decide (PySem.W.takesIn K (.builtin "object.__class__") = some true), decide (PySem.W.mroIn K D (.type "object") = some true), (PySem.W.clsIn K D).isSome].all id
theorem excB_ok {K : PySem.W.Frag} {D : Addr} (h : excB K D = true) : ExcD K D := by
  simp only [excB, List.all_cons, List.all_nil, id, Bool.and_true, Bool.and_eq_true, decide_eq_true_eq] at h
  exact ⟨h.1, h.2.1, h.2.2.1, h.2.2.2.1, h.2.2.2.2⟩
/-- isinstance(e, c), e the exception that the suite holds, c a class -/
def rIsX (K : PySem.W.Frag) (D a dx : Addr) : List V → Hp → VK → Prop := fun xs H Q => ∃ (cv : Addr) (b : Bool) (fs : List (Str × V)), xs = [.ref a, .ref cv] ∧ PySem.W.kitOne K (.ref D) (.ref cv) = some b ∧ H dx = some (.xd fs) ∧ Q (.bl b) H
theorem call_isX {X : Cx} {a D dx : Addr} {oe : Obj} {pn : List (Addr × Obj)} (T : XfC X.K D) (C : ExcD X.K D) (hz : Zc (.ref D) (some dx) oe) (hf : ∃ vs, oe.data = .fields vs) : CallR (X.suite a ((a, oe) :: pn)) (.builtin "isinstance") (rIsX X.K D a dx) := by
  rintro pins s σ H xs us Q I r ⟨cv, b, fs, rfl, e, ex, q⟩
  obtain ⟨u1, us, rfl, r1, r⟩ : ∃ u1 us', us = u1 :: us' ∧ RelV (.ref a) u1 ∧ Vals [.ref cv] us' := by cases r with | cons p q => exact ⟨_, _, rfl, p, q⟩
  obtain ⟨u2, rfl, r2⟩ : ∃ u2, us = [u2] ∧ RelV (.ref cv) u2 := by cases r with | cons p q => cases q; exact ⟨_, rfl, p⟩
  obtain rfl : u1 = Value.ref a := r1
  obtain rfl : u2 = Value.ref cv := r2
  have atz := (I.pin (a, oe) (List.mem_append.mpr (.inl List.mem_cons_self))).1
  have no : PySem.W.notCls oe = true := by
    obtain ⟨vs, hv⟩ := hf
    unfold PySem.W.notCls; rw [hv] <;> rfl
  obtain ⟨mA, hns, _⟩ : ObjOk X.prog X.w H s.heap dx (.xd fs) := I.hok dx _ ex
  obtain ⟨od, ho, _⟩ := lookIn_ns hns
  have J : PySem.W.InstAt s.heap a oe D (some od) := ⟨atz, hz.1, no, by rw [hz.2]; exact ho⟩
  refine PySem.W.kia_one (PySem.W.kitx_exc C.ci T.ga T.gg T.exC C.fi C.sp C.tk C.mr) I.kIn J e (by intro z; cases z) fun tk => ?_
  exact ⟨.bl b, H, I.kept (t' := tk) fun _ _ z => z, rfl, q⟩
end Rf
end

section
namespace Rf
open PySem PySem.Spec PyProof.Rows L2
/-! ## a program, and what the head tells of it -/
def bltNames : List Str := ["len", "abs", "min", "max", "int", "list", "tuple", "isinstance", "str", "bool", "range", "dict", "repr", "sorted", "sum", "all", "enumerate", "zip", "reversed", "iter"].map Str.ofString
def cbody : Stmt → List Stmt
  | .ClassDef (body := b) .. => b
  | _ => []
structure ClsI where
  nm : Str
  ci : CI
structure ExI where
  nm : Str
  flds : List String := []
  ini : Nat := 0
structure Pg where
  fns : List FI
  names : List Str
  cls : List ClsI := []
  exs : List ExI := []
  nums : List (Str × Int) := []
  nw : List Nat := []
  snm : List (Str × List Char) := []
  cons : List (Str × List D) := []
  /-- dicts of the module with text keys -/
  dcs : List (Str × List (List Char × D)) := []
  isa : Nat → Nat → Bool := fun _ _ => false
  /-- the defs that make lambdas; those that get one: by name, by class and name; the lambdas -/
  tf : List ((Str × Option Str) × Str) := []
  vnm : List (Nat × Nat × Str) := []
  vmt : List (Nat × Nat × Nat × String) := []
  lams : List (Nat × List Str × List Str × E) := []
  /-- classes made without an argument, the __init__ whose one default is (); classes with an own __iter__ over the pairs of a field -/
  nd : List Nat := []
  dfl : Option (Str × Option Str) := none
  ow : List (Nat × String) := []
def ClsI.fa (k : ClsI) : List He.Fa := .glo k.nm :: .cls k.nm :: k.ci.flds.map (fun f => He.Fa.noat k.nm (Str.ofString f)) ++ k.ci.meths.map (fun p => He.Fa.meth k.nm (Str.ofString p.1)) ++ (if k.ci.ini.isSome then [He.Fa.mkr k.nm] else [])
def Pg.fa0 (p : Pg) : List He.Fa := p.names.map He.Fa.glo ++ bltNames.map He.Fa.free ++ p.cls.flatMap ClsI.fa ++ p.snm.map (fun q => He.Fa.str q.1 (st q.2))
def Pg.fa (p : Pg) : List He.Fa := p.fa0 ++ p.nums.map (fun q => He.Fa.int q.1 q.2) ++ p.exs.map (fun e => He.Fa.glo e.nm) ++ (p.cons.map (fun q => He.Fa.glo q.1) ++ p.dcs.map (fun q => He.Fa.glo q.1))
def Pg.exf (p : Pg) (c : Nat) : List String := if c < p.cls.length then [] else match p.exs[c - p.cls.length]? with | some e => e.flds | none => []
def Pg.xc (p : Pg) : List Nat := (List.range p.exs.length).map (p.cls.length + ·)
def dvOf : D → He.Dv
  | .bl b => .bl b
  | .int i => .int i
  | .str s => .str (st s)
  | _ => .non
def leafD : D → Bool
  | .non => true
  | .bl _ => true
  | .int _ => true
  | .str _ => true
  | _ => false
def oexB (K : PySem.W.Frag) (C : Addr) : Bool :=
  (match K.lookup C with
    | some ⟨.type t, _, .cls cd, sl⟩ => decide (t = "type") && decide (cd.hasDel = false) && decide (cd.hasDict = true) && (match cd.mro with
      | .ref C' :: bm => decide (C' = C) && PySem.HandSPX.refsVE bm
      | _ => false) && (match sl.toList with
      | [_, _, _, _, some (.builtin nw), _] => decide (nw = "ValueError.__new__")
      | _ => false)
    | _ => false) && He.eqO (PySem.W.findIn K (.ref C) "__setattr__") (some (some (.builtin "object.__setattr__"))) && decide (PySem.W.subIn K (.ref C) (.type "BaseException") = some true) && decide (PySem.W.typeIn K (.ref C) = some (.type "type")) && PySem.W.keepIn K (.ref C)
def dvN (ns : List Str) : D → He.Dv
  | .fn f => .glo (ns.getD f Str.empty)
  | d => dvOf d
def leafN (ns : List Str) : D → Bool
  | .fn f => decide (f < ns.length)
  | d => leafD d
def exiB (K : PySem.W.Frag) (e : ExI) : Bool := e.flds.isEmpty || (xfB K (He.ga K e.nm) && excB K (He.ga K e.nm) && (e.flds.all fun f => He.eqO (PySem.W.findIn K (.ref (He.ga K e.nm)) (Str.ofString f)) (some none)) && oexB K (He.ga K e.nm) &&
  He.eqO (PySem.W.findIn K (.ref (He.ga K e.nm)) "__init__") (some (some (.ref (He.fAd K (e.nm, some ("__init__" : Str)))))) && decide (PySem.W.typeIn K (.ref (He.fAd K (e.nm, some ("__init__" : Str)))) = some (.type "function")))
def emptyB (K : PySem.W.Frag) (a : Addr) : Bool := match K.lookup a with
  | some ⟨.type t, none, .seq xs _, _⟩ => decide (t = "tuple") && decide (xs = #[])
  | _ => false
def nodupB : List Addr → Bool
  | [] => true
  | a :: r => !r.contains a && nodupB r
def Pg.exB0 (p : Pg) (K : PySem.W.Frag) : Bool := (nodupB (p.tf.map fun q => (He.cT K q.1).2) && (match p.dfl with | none => true | some q => emptyB K (He.dflAt q 0 K))) && (
  (p.cons.all fun q => He.tupB K q.1 (q.2.map dvOf) && q.2.all leafD) && (p.exs.all (exiB K)) &&
  (List.range p.exs.length).all fun i => match p.exs[i]? with
    | some e => e.flds.isEmpty || (List.range p.exs.length).all fun j => match p.exs[j]? with
      | some k => decide (PySem.W.exmOne K (.ref (He.ga K e.nm)) (.ref (He.ga K k.nm)) = some (p.isa (p.cls.length + i) (p.cls.length + j)) ∧ PySem.W.kitOne K (.ref (He.ga K e.nm)) (.ref (He.ga K k.nm)) = some (p.isa (p.cls.length + i) (p.cls.length + j)))
      | none => true
    | none => true)
def Pg.dc1 (p : Pg) (K : PySem.W.Frag) (q : Str × List (List Char × D)) : Bool := He.valsB K (He.ga K q.1) (q.2.map fun kv => (st kv.1, dvN p.names kv.2)) && q.2.all (fun kv => leafN p.names kv.2) &&
  (match K.lookup (He.ga K q.1) with
    | some ⟨_, _, .dict es _, _⟩ => es.toList.all fun e => match e.key with | .str x _ => (q.2.map fun kv => st kv.1).contains x | _ => false
    | _ => false)
def Pg.dts (p : Pg) : List He.Tab := p.dcs.map fun q => (fun K => He.ga K q.1, q.2.map fun kv => st kv.1)
def Pg.exB (p : Pg) (K : PySem.W.Frag) : Bool := p.exB0 K && p.dcs.all (p.dc1 K)
/-- a world, one of its settings told -/
@[reducible] def wFix (b : Bool) (w : World) : World := { w with params := { w.params with followText := fun s => bif s == "special-get-raises" then b else w.params.followText s } }
theorem wFix_eq (w : World) : ∃ b, w = wFix b w := by
  refine ⟨w.params.followText "special-get-raises", ?_⟩
  have h : (fun s => bif s == "special-get-raises" then w.params.followText "special-get-raises" else w.params.followText s) = w.params.followText := by
    funext s
    cases e : s == "special-get-raises" with
    | true => rw [eq_of_beq e]; rfl
    | false => rfl
  unfold wFix
  rw [h]
end Rf
end

section
namespace Rf
open PySem PySem.Spec PyProof.Rows L2
/-! ## what the head looks at, by a given list of addresses, in two parts -/
def obsL (as : List Addr) (fa : List He.Fa) (fn : List He.DefD) (ts : List He.Tab) (tf : List He.Defn) (ex : PySem.W.Frag → Bool) (g : Addr → Option Obj) : He.AlX :=
  (fun K => (He.obsT fa fn ts K, ex K && He.tabsB g tf K)) (He.frT g as)
theorem says_L {as : List Addr} {fa : List He.Fa} {fn : List He.DefD} {ts : List He.Tab} {tf : List He.Defn} {ex : PySem.W.Frag → Bool} {w : World} {h : Heap} (e : obsL as fa fn ts tf ex h.get? = He.valX fn ts w) : (He.hookX 0 fa fn ts tf ex).says w h := by
  have e1 := congrArg Prod.fst e
  have e2 := congrArg Prod.snd e
  have e3 : (ex (He.frT h.get? as) && He.tabsB h.get? tf (He.frT h.get? as)) = true := e2
  rw [Bool.and_eq_true] at e3
  have T : ∀ p ∈ tf, PySem.W.codeHdIn (He.frT h.get? as) (He.cT (He.frT h.get? as) p).1 (He.cT (He.frT h.get? as) p).2 = true ∧ ∃ o, h.get? (He.cT (He.frT h.get? as) p).2 = some o ∧ He.emptyTab o = true := by
    intro p hp
    have q := List.all_eq_true.mp e3.2 p hp
    rw [Bool.and_eq_true] at q
    refine ⟨q.1, ?_⟩
    have q2 := q.2
    split at q2
    · rename_i o ho
      exact ⟨o, ho, q2⟩
    · cases q2
  refine ⟨He.frT h.get? as, He.frT_in, ?_⟩
  constructor
  · exact e1
  · exact e3.1
  · exact fun p hp => (T p hp).1
  · intro p hp
    obtain ⟨_, o, ho, z⟩ := T p hp
    exact He.frT_none ho z
  · intro p hp
    obtain ⟨_, o, ho, z⟩ := T p hp
    rw [ho, He.emptyTab_eq z]
def hookL (as : List Addr) (fa : List He.Fa) (fn : List He.DefD) (ts : List He.Tab) (tf : List He.Defn) (ex : PySem.W.Frag → Bool) : PySem.W.Hook where
  α := He.AlX
  obs := fun s => obsL as fa fn ts tf ex s.heap.get?
  val := fun w => He.valX fn ts w
  says := (He.hookX 0 fa fn ts tf ex).says
  of := fun _ _ e => says_L e
  keeps := (He.hookX 0 fa fn ts tf ex).keeps
theorem obsL_eq {as : List Addr} {fa : List He.Fa} {fn : List He.DefD} {ts : List He.Tab} {tf : List He.Defn} {ex : PySem.W.Frag → Bool} {g : Addr → Option Obj} {s : Shared} (h : ∀ a, g a = s.heap.get? a) : obsL as fa fn ts tf ex g = (hookL as fa fn ts tf ex).obs s := by
  rw [show g = s.heap.get? from funext h]
  rfl
/-- the first part: all but the defs -/
def obs1 (as : List Addr) (fa : List He.Fa) (ts : List He.Tab) (tf : List He.Defn) (ex : PySem.W.Frag → Bool) (g : Addr → Option Obj) : (Bool × List (Option (List (Option (Str × Int))))) × Bool :=
  (fun K => ((fa.all fun f => f.ok K, ts.map fun t => He.dicW K (t.1 K)), ex K && He.tabsB g tf K)) (He.frT g as)
/-- the second: the defs -/
def obs2 (as : List Addr) (fn : List He.DefD) (g : Addr → Option Obj) : Bool × List He.FnW :=
  (fun K => (fn.all fun d => d.ok K, fn.map fun d => He.fnW K d.at_)) (He.frT g as)
open PySem.W PySem.Calls HandSHeadRun in
theorem run_two {r : OpenRow} {q : Program} {as : List Addr} {fa : List He.Fa} {fn : List He.DefD} {ts : List He.Tab} {tf : List He.Defn} {ex : Frag → Bool} {M : Nat} {loose : List Str} {w : World}
    (h1 : ∀ os : OsState, (endF (stepQ (denQ tabQ) r.prog w) M r.prog w os).map (fun s => (looksF r.prog (boot_heap w.params) s.abs, seenQ q loose (importedModules r.prog.main.body) (fun s => xlAt q [] s && recOk r.toRowW.records s) s.abs, obs1 as fa ts tf ex (getT s))) = some (true, openGood q loose, ((true, ts.map fun t => some (He.keysIn w.params t.2)), true)))
    (h2 : ∀ os : OsState, (endF (stepQ (denQ tabQ) r.prog w) M r.prog w os).map (fun s => obs2 as fn (getT s)) = some (true, fn.map He.DefD.val)) :
    RunEq r q (hookL as fa fn ts tf ex) (fun s => obsL as fa fn ts tf ex (getT s)) M loose w := by
  intro os
  have a := h1 os
  have b := h2 os
  revert a b
  generalize endF (stepQ (denQ tabQ) r.prog w) M r.prog w os = X
  intro a b
  cases X with
  | none => cases a
  | some s =>
    have a' := Option.some.inj a
    have b' := Option.some.inj b
    have a1 := congrArg Prod.fst a'
    have a2 := congrArg (fun z => z.2.1) a'
    have a3 := congrArg (fun z => z.2.2.1.1) a'
    have a4 := congrArg (fun z => z.2.2.1.2) a'
    have a5 := congrArg (fun z => z.2.2.2) a'
    have b1 := congrArg Prod.fst b'
    have b2 := congrArg Prod.snd b'
    refine congrArg some (Prod.ext a1 (Prod.ext a2 ?_))
    refine Prod.ext (Prod.ext (Prod.ext ?_ b2) a4) a5
    show ((fa.all fun f => f.ok _) && (fn.all fun d => d.ok _)) = true
    rw [Bool.and_eq_true]
    exact ⟨a3, b1⟩
end Rf
end

section
namespace K18
open PySem PySem.Spec PyProof.Rows L2 Rf
abbrev prog : Program := PySem.Challenge.pw_pourparler_k18_contexts
abbrev top (i : Nat) : Stmt := prog.main.body.getD i (.Pass ⟨0, 0, 0, 0⟩)
abbrev mth (i j : Nat) : Stmt := (cbody (top i)).getD j (.Pass ⟨0, 0, 0, 0⟩)
def nmF : List Str := [("_law_tells" : Str), ("_law_deed" : Str), ("_law_draw" : Str), ("law" : Str)]
/-- _law_tells(context, pairs, known, name, ends, kind, told, pair) -/
def f__law_tells : FI := ⟨2, 8,
  [.set 2 (.blt .dict [(.var 1)]),
  .for_ (.nm 3) .seq [(.lst [(.cst (.str ['a'])), (.cst (.str ['b'])), (.cst (.str ['c'])), (.cst (.str ['d'])), (.cst (.str ['e'])), (.cst (.str ['f']))])]
    [.ife (.cmp .ne (.met (.var 0) "binds" [(.var 3)]) (.cmp .in_ (.var 3) (.var 2)))
      [.ret (.cst (.bl false))]
      [],
    .ife (.and (.cmp .in_ (.var 3) (.var 2)) (.cmp .ne (.met (.var 0) "kind" [(.var 3)]) (.ix (.var 2) (.var 3))))
      [.ret (.cst (.bl false))]
      [],
    .ife (.and (.cmp .in_ (.var 3) (.var 2)) (.cmp .ne (.met (.var 0) "is_end" [(.var 3)]) (.cmp .nin (.ix (.var 2) (.var 3)) (.tup [(.cst (.str ['i', 'n', 't'])), (.cst (.str ['b', 'o', 'o', 'l']))]))))
      [.ret (.cst (.bl false))]
      []],
  .set 4 (.lc [3, 5] (.tp [3, 5]) .seq [(.var 1)] [(.cmp .nin (.var 5) (.tup [(.cst (.str ['i', 'n', 't'])), (.cst (.str ['b', 'o', 'o', 'l']))]))] (.var 3)),
  .set 6 (.met (.var 0) "pairs" []),
  .ife (.or (.cmp .ne (.var 6) (.var 1)) (.or (.cmp .ne (.met (.var 0) "ends" []) (.var 4)) (.cmp .ne (.lc [7] (.nm 7) (.own 0 "_kinds") [(.var 0)] [] (.var 7)) (.var 1))))
    [.ret (.cst (.bl false))]
    [],
  .expr (.met (.var 6) "append" [(.tup [(.cst (.str ['z'])), (.cst (.str ['i', 'n', 't']))])]),
  .ret (.cmp .eq (.met (.var 0) "pairs" []) (.var 1))], none⟩
abbrev s__law_tells : Stmt := top 5
def d__law_tells : He.DefD := ⟨("_law_tells", none), "_law_tells", "_law_tells", defArgs s__law_tells, defBody s__law_tells, defScope s__law_tells, [], []⟩
/-- _law_deed(state, context, pairs, names, pair, free, name, kind, choice, other, own) -/
def f__law_deed : FI := ⟨3, 11,
  [.set 3 (.lc [4] (.nm 4) .seq [(.var 2)] [] (.ix (.var 4) (.cst (.int 0)))),
  .set 5 (.lc [6] (.nm 6) .seq [(.lst [(.cst (.str ['a'])), (.cst (.str ['b'])), (.cst (.str ['c'])), (.cst (.str ['d'])), (.cst (.str ['e']))])] [(.cmp .nin (.var 6) (.var 3))] (.var 6)),
  .set 7 (.ix (.lst [(.cst (.str ['i', 'n', 't'])), (.cst (.str ['b', 'o', 'o', 'l'])), (.tup [(.cst (.str ['n', 'a', 'm', 'e'])), (.cst (.str ['T']))]), (.tup [(.cst (.str ['d', 'u', 'a', 'l'])), (.cst (.str ['T']))]), (.tup [(.cst (.str ['e', 'n', 'd']))]), (.tup [(.cst (.str ['s', 'a', 'y'])), (.tup [(.tup [(.cst (.str ['a'])), (.cst .non), (.tup [(.cst (.str ['e', 'n', 'd']))])])])])]) (.cal 2 [(.var 0), (.cst (.int 6))])),
  .set 8 (.cal 2 [(.var 0), (.cst (.int 5))]),
  .ife (.and (.cmp .gt (.blt .len [(.var 5)]) (.cst (.int 0))) (.or (.cmp .lt (.var 8) (.cst (.int 3))) (.cmp .eq (.blt .len [(.var 3)]) (.cst (.int 0)))))
    [.set 6 (.ix (.var 5) (.cal 2 [(.var 0), (.blt .len [(.var 5)])])),
    .expr (.met (.var 1) "bind" [(.var 6), (.var 7)]),
    .ret (.bin .add (.var 2) (.lst [(.tup [(.var 6), (.var 7)])]))]
    [],
  .set 6 (.ix (.var 3) (.cal 2 [(.var 0), (.blt .len [(.var 3)])])),
  .ife (.cmp .eq (.var 8) (.cst (.int 3)))
    [.expr (.met (.var 1) "change" [(.var 6), (.var 7)]),
    .ret (.lc [9, 10] (.tp [9, 10]) .seq [(.var 2)] [] (.tup [(.var 9), (.ix (.lst [(.var 10), (.var 7)]) (.blt .int [(.cmp .eq (.var 9) (.var 6))]))]))]
    [],
  .expr (.met (.var 1) "release" [(.var 6)]),
  .ret (.lc [4] (.nm 4) .seq [(.var 2)] [(.cmp .ne (.ix (.var 4) (.cst (.int 0))) (.var 6))] (.var 4))], none⟩
abbrev s__law_deed : Stmt := top 4
def d__law_deed : He.DefD := ⟨("_law_deed", none), "_law_deed", "_law_deed", defArgs s__law_deed, defBody s__law_deed, defScope s__law_deed, [], []⟩
/-- _law_draw(state, many, place, cell, one, two, digit) -/
def f__law_draw : FI := ⟨2, 7,
  [.ife (.cmp .le (.ix (.var 0) (.cst (.int 2))) (.cst (.int 0)))
    [.set 2 (.ix (.var 0) (.cst (.int 1))),
    .put (.var 0) (.cst (.int 1)) (.bin .add (.var 2) (.cst (.int 1))),
    .set 3 (.bin .add (.bin .mul (.var 2) (.cst (.int 7919))) (.cst (.int 13))),
    .ife (.cmp .lt (.var 2) (.blt .len [(.ix (.var 0) (.cst (.int 0)))]))
      [.set 3 (.ix (.ix (.var 0) (.cst (.int 0))) (.var 2))]
      [],
    .ife (.chn .le .lt (.cst (.int 0)) (.var 3) (.cst (.int 1000000000000000000)))
      [.set 4 (.bin .mod (.blt .int [(.bin .add (.bin .add (.bin .mul (.var 3) (.cst (.int 48271))) (.bin .mul (.var 2) (.cst (.int 69621)))) (.ix (.var 0) (.cst (.int 3))))]) (.cst (.int 2147483647))),
      .set 5 (.bin .mod (.blt .int [(.bin .add (.bin .add (.bin .mul (.var 4) (.cst (.int 16807))) (.var 3)) (.cst (.int 11)))]) (.cst (.int 2147483629))),
      .put (.var 0) (.cst (.int 2)) (.bin .add (.bin .mul (.var 4) (.cst (.int 2147483629))) (.var 5))]
      [.put (.var 0) (.cst (.int 2)) (.blt .abs [(.var 3)])],
    .put (.var 0) (.cst (.int 3)) (.bin .mod (.blt .int [(.bin .add (.bin .mul (.ix (.var 0) (.cst (.int 3))) (.cst (.int 31))) (.var 3))]) (.cst (.int 1000003)))]
    [],
  .set 6 (.bin .mod (.blt .int [(.ix (.var 0) (.cst (.int 2)))]) (.var 1)),
  .put (.var 0) (.cst (.int 2)) (.bin .fdiv (.blt .int [(.ix (.var 0) (.cst (.int 2)))]) (.var 1)),
  .ret (.var 6)], none⟩
abbrev s__law_draw : Stmt := top 3
def d__law_draw : He.DefD := ⟨("_law_draw", none), "_law_draw", "_law_draw", defArgs s__law_draw, defBody s__law_draw, defScope s__law_draw, [], []⟩
/-- law(script, state, pairs, name, context, other, kept, when, k) -/
def f_law : FI := ⟨1, 9,
  [.set 1 (.lst [(.var 0), (.cst (.int 0)), (.cst (.int 0)), (.cst (.int 1))]),
  .set 2 (.lst []),
  .for_ (.nm 3) .seq [(.slc (.lst [(.cst (.str ['c'])), (.cst (.str ['a'])), (.cst (.str ['e']))]) [] [(.cal 2 [(.var 1), (.cst (.int 4))])])]
    [.expr (.met (.var 2) "append" [(.tup [(.var 3), (.ix (.lst [(.cst (.str ['i', 'n', 't'])), (.tup [(.cst (.str ['n', 'a', 'm', 'e'])), (.cst (.str ['T']))]), (.cst (.str ['b', 'o', 'o', 'l']))]) (.cal 2 [(.var 1), (.cst (.int 3))]))])])],
  .set 4 (.new 0 [(.blt .ptup [(.var 2)])]),
  .set 5 (.cst .non),
  .set 6 (.lst []),
  .set 7 (.cal 2 [(.var 1), (.cst (.int 8))]),
  .for_ (.nm 8) .rng1 [(.cst (.int 10))]
    [.ife (.cmp .eq (.var 8) (.var 7))
      [.set 5 (.met (.var 4) "twin" []),
      .set 6 (.blt .list [(.var 2)])]
      [],
    .ife (.and (.cmp .isn (.var 5) (.cst .non)) (.cmp .eq (.cal 2 [(.var 1), (.cst (.int 2))]) (.cst (.int 0))))
      [.set 6 (.cal 1 [(.var 1), (.var 5), (.var 6)])]
      [.set 2 (.cal 1 [(.var 1), (.var 4), (.var 2)])],
    .ife (.not (.cal 0 [(.var 4), (.var 2)]))
      [.ret (.cst (.bl false))]
      [],
    .ife (.and (.cmp .isn (.var 5) (.cst .non)) (.not (.cal 0 [(.var 5), (.var 6)])))
      [.ret (.cst (.bl false))]
      []],
  .ret (.cmp .eq (.met (.newd 0) "pairs" []) (.lst []))], none⟩
abbrev s_law : Stmt := top 6
def d_law : He.DefD := ⟨("law", none), "law", "law", defArgs s_law, defBody s_law, defScope s_law, [], []⟩
/-- Context_init(self, pairs) -/
def f_Context_init : FI := ⟨2, 2,
  [.fset (.var 0) "_kinds" (.blt .dict [(.var 1)])], none⟩
abbrev s_Context_init : Stmt := mth 1 0
def d_Context_init : He.DefD := ⟨("Context", some "__init__"), "__init__", "Context.__init__", defArgs s_Context_init, defBody s_Context_init, defScope s_Context_init, [.adr (He.dflAt ("Context", some "__init__") 0)], []⟩
/-- Context_iter(self) -/
def f_Context_iter : FI := ⟨1, 1,
  [.ret (.itr (.fld (.var 0) "_kinds"))], none⟩
abbrev s_Context_iter : Stmt := mth 1 1
def d_Context_iter : He.DefD := ⟨("Context", some "__iter__"), "__iter__", "Context.__iter__", defArgs s_Context_iter, defBody s_Context_iter, defScope s_Context_iter, [], []⟩
/-- Context_binds(self, name) -/
def f_Context_binds : FI := ⟨2, 2,
  [.ret (.cmp .in_ (.var 1) (.fld (.var 0) "_kinds"))], none⟩
abbrev s_Context_binds : Stmt := mth 1 2
def d_Context_binds : He.DefD := ⟨("Context", some "binds"), "binds", "Context.binds", defArgs s_Context_binds, defBody s_Context_binds, defScope s_Context_binds, [], []⟩
/-- Context_kind(self, name) -/
def f_Context_kind : FI := ⟨2, 2,
  [.ret (.ix (.fld (.var 0) "_kinds") (.var 1))], none⟩
abbrev s_Context_kind : Stmt := mth 1 3
def d_Context_kind : He.DefD := ⟨("Context", some "kind"), "kind", "Context.kind", defArgs s_Context_kind, defBody s_Context_kind, defScope s_Context_kind, [], []⟩
/-- Context_is_end(self, name) -/
def f_Context_is_end : FI := ⟨2, 2,
  [.ret (.and (.cmp .in_ (.var 1) (.fld (.var 0) "_kinds")) (.blt .isTup [(.ix (.fld (.var 0) "_kinds") (.var 1))]))], none⟩
abbrev s_Context_is_end : Stmt := mth 1 4
def d_Context_is_end : He.DefD := ⟨("Context", some "is_end"), "is_end", "Context.is_end", defArgs s_Context_is_end, defBody s_Context_is_end, defScope s_Context_is_end, [], []⟩
/-- Context_bind(self, name, kind) -/
def f_Context_bind : FI := ⟨3, 3,
  [.put (.fld (.var 0) "_kinds") (.var 1) (.var 2)], none⟩
abbrev s_Context_bind : Stmt := mth 1 5
def d_Context_bind : He.DefD := ⟨("Context", some "bind"), "bind", "Context.bind", defArgs s_Context_bind, defBody s_Context_bind, defScope s_Context_bind, [], []⟩
/-- Context_change(self, name, talk) -/
def f_Context_change : FI := ⟨3, 3,
  [.put (.fld (.var 0) "_kinds") (.var 1) (.var 2)], none⟩
abbrev s_Context_change : Stmt := mth 1 6
def d_Context_change : He.DefD := ⟨("Context", some "change"), "change", "Context.change", defArgs s_Context_change, defBody s_Context_change, defScope s_Context_change, [], []⟩
/-- Context_release(self, name) -/
def f_Context_release : FI := ⟨2, 2,
  [.deld (.fld (.var 0) "_kinds") (.var 1)], none⟩
abbrev s_Context_release : Stmt := mth 1 7
def d_Context_release : He.DefD := ⟨("Context", some "release"), "release", "Context.release", defArgs s_Context_release, defBody s_Context_release, defScope s_Context_release, [], []⟩
/-- Context_ends(self, name) -/
def f_Context_ends : FI := ⟨1, 2,
  [.ret (.lc [1] (.nm 1) .seq [(.fld (.var 0) "_kinds")] [(.met (.var 0) "is_end" [(.var 1)])] (.var 1))], none⟩
abbrev s_Context_ends : Stmt := mth 1 8
def d_Context_ends : He.DefD := ⟨("Context", some "ends"), "ends", "Context.ends", defArgs s_Context_ends, defBody s_Context_ends, defScope s_Context_ends, [], []⟩
/-- Context_pairs(self) -/
def f_Context_pairs : FI := ⟨1, 1,
  [.ret (.itl (.fld (.var 0) "_kinds"))], none⟩
abbrev s_Context_pairs : Stmt := mth 1 9
def d_Context_pairs : He.DefD := ⟨("Context", some "pairs"), "pairs", "Context.pairs", defArgs s_Context_pairs, defBody s_Context_pairs, defScope s_Context_pairs, [], []⟩
/-- Context_twin(self) -/
def f_Context_twin : FI := ⟨1, 1,
  [.ret (.new 0 [(.ptd (.fld (.var 0) "_kinds"))])], none⟩
abbrev s_Context_twin : Stmt := mth 1 10
def d_Context_twin : He.DefD := ⟨("Context", some "twin"), "twin", "Context.twin", defArgs s_Context_twin, defBody s_Context_twin, defScope s_Context_twin, [], []⟩
def fns : List FI := [f__law_tells, f__law_deed, f__law_draw, f_law, f_Context_init, f_Context_iter, f_Context_binds, f_Context_kind, f_Context_is_end, f_Context_bind, f_Context_change, f_Context_release, f_Context_ends, f_Context_pairs, f_Context_twin]
def defs : List He.DefD := [d__law_tells, d__law_deed, d__law_draw, d_law, d_Context_init, d_Context_iter, d_Context_binds, d_Context_kind, d_Context_is_end, d_Context_bind, d_Context_change, d_Context_release, d_Context_ends, d_Context_pairs, d_Context_twin]
def exsI : List ExI := []
def clsI : List ClsI := [⟨"Context", ⟨[("__iter__", 5), ("binds", 6), ("kind", 7), ("is_end", 8), ("bind", 9), ("change", 10), ("release", 11), ("ends", 12), ("pairs", 13), ("twin", 14)], some 4, ["_kinds"]⟩⟩]
def pg : Pg := { fns := fns, names := nmF, cls := clsI, nw := [0], snm := [], nums := [], exs := exsI, cons := [], dcs := [], isa := fun c k => decide ((c, k) ∈ []), nd := [0], dfl := some ("Context", some ("__init__" : Str)), ow := [(0, "_kinds")] }
abbrev nCon : Nat := 0
abbrev nLaw : Nat := 3
abbrev iLaw : Nat := 6
abbrev loose : List Str := [("_law_tells" : Str), ("_law_deed" : Str), ("_law_draw" : Str), ("Context" : Str)]
end K18
end

section
set_option maxHeartbeats 0
namespace K18
open PySem PySem.Spec PyProof.Rows L2 Rf
def fa : List He.Fa := pg.fa
abbrev RO : PySem.W.OpenRow := PySem.W.OpenLaw.row PySem.Challenge.rw_pourparler_k18_contexts
def at_ : List Addr := [22, 3, 6, 4, 101, 112, 117, 122, 129, 0, 100, 111, 116, 121, 128, 30, 37, 44, 51, 58, 65, 72, 79, 84, 91, 98, 99, 102, 103, 106, 107, 108, 109, 110, 113, 114, 115, 118, 119, 120, 123, 124, 125, 126, 127, 29, 23, 36, 43, 50, 57, 64, 71, 78, 83, 90, 97]
abbrev hk : PySem.W.Hook := hookL at_ fa defs pg.dts (pg.tf.map (·.1)) pg.exB
def ob (s : PySem.W.SharedT) : He.AlX := obsL at_ fa defs pg.dts (pg.tf.map (·.1)) pg.exB (HandSHeadRun.getT s)
theorem ob_eq (s : PySem.W.SharedT) : ob s = hk.obs s.abs := obsL_eq (HandSHeadRun.getT_eq s)
theorem run_f (w : World) : HandSHeadRun.RunEq RO (PySem.W.view RO.prog [iLaw]) hk ob 6000 loose (wFix false w) := by
  refine run_two ?_ ?_
  · intro os
    kernel_rfl
  · intro os
    kernel_rfl
theorem run_t (w : World) : HandSHeadRun.RunEq RO (PySem.W.view RO.prog [iLaw]) hk ob 6000 loose (wFix true w) := by
  refine run_two ?_ ?_
  · intro os
    kernel_rfl
  · intro os
    kernel_rfl
theorem run (w : World) : HandSHeadRun.RunEq RO (PySem.W.view RO.prog [iLaw]) hk ob 6000 loose w := by
  obtain ⟨b, e⟩ := wFix_eq w
  rw [e]
  cases b
  · exact run_f w
  · exact run_t w
abbrev depth : Nat := 40
abbrev fuel : Nat := 100000000
end K18
end

section
/-! zip of a tuple and a list -/
namespace Rf
open PySem PySem.Spec PyProof.Rows L2
/-- item by item: of the tuple at p and of the list at q, in a new pair each -/
def ItM (K : PySem.W.Frag) (p q : Addr) (l m : Nat) : It where
  go := fun i H => ∃ us vs u v, SqT K H p us ∧ SqL K H q vs ∧ us.length = l ∧ vs.length = m ∧ us[i]? = some u ∧ vs[i]? = some v
  yld := fun i H r H' => ∃ N u v, r = .ref N ∧ H N = none ∧ H' = upd H N (.tup [u, v]) ∧ (∀ us, SqT K H p us → us[i]? = some u) ∧ ∀ vs, SqL K H q vs → vs[i]? = some v
  stop := fun i H => ∃ us vs : List V, SqT K H p us ∧ SqL K H q vs ∧ us.length = l ∧ vs.length = m ∧ (l ≤ i ∨ m ≤ i)
/-- the zip's own cells: itself, its pair of iterators, its pair of results, the two iterators -/
structure ZmAt (z t r i j p q : Addr) (l m n : Nat) (h : Heap) : Prop where
  z : IsZip h z t r .none
  t : IsTupOf2 h t (.ref i) (.ref j)
  r : ∃ a b, IsTupOf2 h r a b
  i : h.IsTupleIter i p n
  j : h.IsListIter j q n
  nl : n ≤ l
  nm : n ≤ m
/-- .. they lie apart -/
structure ZmSep (z t r i j p q : Addr) : Prop where
  s : ZipSep2 z t r i j [i, p] [j, q]
  pi : p ≠ i
  qj : q ≠ j
theorem zm_sep {n p q : Nat} (hp : p < n) (hq : q < n) : ZmSep (n + 4) (n + 2) (n + 3) n (n + 1) p q := by
  have ne : ∀ {a b : Nat}, (a < b ∨ b < a) → a ≠ b := fun h e => by omega
  have nm : ∀ {a b c : Nat}, a ≠ b → a ≠ c → a ∉ [b, c] := fun h1 h2 e => by
    simp only [List.mem_cons, List.not_mem_nil, or_false] at e
    exact e.elim h1 h2
  exact ⟨⟨ne (by omega), ne (by omega), ne (by omega), ne (by omega), List.mem_cons_self, nm (ne (by omega)) (ne (by omega)), nm (ne (by omega)) (ne (by omega)), ne (by omega), List.mem_cons_self, nm (ne (by omega)) (ne (by omega)), nm (ne (by omega)) (ne (by omega)), nm (ne (by omega)) (ne (by omega)), nm (ne (by omega)) (ne (by omega))⟩, ne (by omega), ne (by omega)⟩
section
variable {P : Program} {w : World} {K : PySem.W.Frag} {elts : List Expr} {kk : Nat} {tpos : Pos} {z t r i j p q : Addr} {l m : Nat}
theorem ZmAt.lt {n : Nat} {h : Heap} (A : ZmAt z t r i j p q l m n h) : ∀ c ∈ [z, t, r, i, j], ∃ o, h.get? c = some o ∧ ∀ v, o.data ≠ .cell v := by
  obtain ⟨az, at', ⟨a, b, ar⟩, ⟨oi, ei, _, di⟩, ⟨oj, ej, _, dj⟩, _, _⟩ := A
  intro c hc
  simp only [List.mem_cons, List.not_mem_nil, or_false] at hc
  rcases hc with rfl | rfl | rfl | rfl | rfl
  · exact ⟨_, az, by intro v e; cases e⟩
  · exact ⟨_, at', by intro v e; cases e⟩
  · exact ⟨_, ar, by intro v e; cases e⟩
  · exact ⟨oi, ei, by intro v e; rw [di] at e; cases e⟩
  · exact ⟨oj, ej, by intro v e; rw [dj] at e; cases e⟩
theorem turn_zm (S : ZmSep z t r i j p q) : Turn P w K (.Tuple elts kk tpos) (ItM K p q l m) [z, t, r, i, j] z (ZmAt z t r i j p q l m) := by
  refine ⟨by simp, fun n h A => A.lt, fun n h h' A k => ?_, ?_, ?_, fun A n s Q E B h => wpAny_pyIter_zip B.z h⟩
  · obtain ⟨a, b, ar⟩ := A.r
    exact ⟨k z (by simp) _ A.z, k t (by simp) _ A.t, ⟨a, b, k r (by simp) _ ar⟩, A.i.at (k i (by simp)), A.j.at (k j (by simp)), A.nl, A.nm⟩
  · intro X eP ew eK calm n pins s σ H E I hf A G
    subst eP ew eK
    obtain ⟨us, vs, u, v, gp, gq, rfl, rfl, gu, gv⟩ := G
    obtain ⟨xs, rx, hp, _⟩ := I.tuple gp
    obtain ⟨ys, ry, hq, _⟩ := I.list gq
    obtain ⟨x, ex, rxu⟩ := rx.get gu
    obtain ⟨y, ey, ryv⟩ := ry.get gv
    obtain ⟨a, b, ar⟩ := A.r
    have hd := I.ok.hd calm
    have lz : z < s.heap.objs.size := Heap.lt_size A.z
    have nx : n < xs.toArray.size := by rw [List.size_toArray]; exact (List.getElem?_eq_some_iff.mp ex).1
    have ny : n < ys.toArray.size := by rw [List.size_toArray]; exact (List.getElem?_eq_some_iff.mp ey).1
    refine wpAny_pyNext_zipD2_item S.s (Draws.tuple (by exact hd) i p S.pi xs.toArray) (Draws.list (by exact hd) j q S.qj ys.toArray) A.z A.t ar ⟨A.i, hp⟩ ⟨A.j, hq.isList⟩ nx ny ?_
    intro x' y' h1 tk e1 e2 z1 r1 i1 j1 T1 sz k1
    have q1 : x' = x := by rw [List.getElem?_toArray, ex] at e1; exact (Option.some.inj e1).symm
    have q2 : y' = y := by rw [List.getElem?_toArray, ey] at e2; exact (Option.some.inj e2).symm
    subst q1 q2
    refine ⟨_, rfl, wpAny_letOwnedTupleGo_zip (s := { s with heap := h1, toks := tk }) z1 fun h2 z2 sb => ?_⟩
    have T2 : h2.get? s.heap.objs.size = some { cls := .type "tuple", data := .seq #[x', y'] } := by rw [sb.2 _ (Nat.ne_of_gt lz)]; exact T1
    have fr : ObjOk X.prog X.w (upd H s.heap.objs.size (.tup [u, v])) h2 s.heap.objs.size (.tup [u, v]) := ⟨by show 2 ≤ sizeLine; decide, [x', y'], .cons rxu (.cons ryv .nil), ⟨_, T2, rfl, _, rfl⟩⟩
    have kept : ∀ c o, c ∉ [z, t, r, i, j] → s.heap.get? c = some o → h2.get? c = some o := fun c o hc eo => by
      simp only [List.mem_cons, List.not_mem_nil, or_false, not_or] at hc
      rw [sb.2 c hc.1]
      exact k1 c o hc.1 hc.2.2.1 hc.2.2.2.1 hc.2.2.2.2 eo
    have J : Inv X pins σ (upd H s.heap.objs.size (.tup [u, v])) { s with heap := h2, toks := tk } := I.turnedNew (t' := tk) (ch := [z, t, r, i, j]) kept hf (Nat.le_refl _) fr
    have same2 : ∀ c, c ≠ z → h2.get? c = h1.get? c := fun c hc => sb.2 c hc
    refine ⟨.ref s.heap.objs.size, _, J, rfl, ⟨_, u, v, rfl, I.hok.fresh (Nat.le_refl _), rfl, fun l hl => ?_, fun l hl => ?_⟩, ⟨z2, ?_, ⟨x', y', ?_⟩, ?_, ?_, (List.getElem?_eq_some_iff.mp gu).1, (List.getElem?_eq_some_iff.mp gv).1⟩, fun c hc => ?_⟩
    · rw [I.tuple_inj hl gp]; exact gu
    · rw [I.list_inj hl gq]; exact gv
    · show h2.get? t = _
      rw [same2 _ S.s.TIz]; exact k1 _ _ S.s.TIz S.s.TITO S.s.TIi1 S.s.TIi2 A.t
    · show h2.get? r = _
      rw [same2 _ S.s.TOz]; exact r1
    · exact i1.1.at fun o e => by rw [same2 _ (fun e' => S.s.zi1 e'.symm)]; exact e
    · exact j1.1.at fun o e => by rw [same2 _ (fun e' => S.s.zi2 e'.symm)]; exact e
    · obtain ⟨o, eo, _⟩ := A.lt c hc
      rw [upd_ne (Nat.ne_of_lt (Heap.lt_size eo))]
      exact (hf c hc).1
  · intro X eP ew eK calm n pins s σ H E I hf A G
    subst eP ew eK
    obtain ⟨us, vs, gp, gq, rfl, rfl, fin⟩ := G
    obtain ⟨xs, rx, hp, _⟩ := I.tuple gp
    obtain ⟨ys, ry, hq, _⟩ := I.list gq
    obtain ⟨a, b, ar⟩ := A.r
    have hd := I.ok.hd calm
    have lx := rx.length
    have ly := ry.length
    have nl := A.nl
    have nm := A.nm
    refine wpAny_pyNext_zipD2_end S.s (Draws.tuple (by exact hd) i p S.pi xs.toArray) (Draws.list (by exact hd) j q S.qj ys.toArray) A.z A.t ar ⟨A.i, hp⟩ ⟨A.j, hq.isList⟩ (by rw [List.size_toArray]; omega) (by rw [List.size_toArray]; omega) (by rw [List.size_toArray, List.size_toArray]; omega) fun h1 tk k1 => ⟨rfl, ?_⟩
    refine I.turnedL (t' := tk) (ch := [z, t, r, i, j]) (fun c o hc eo => ?_) hf
    simp only [List.mem_cons, List.not_mem_nil, or_false, not_or] at hc
    exact k1 c o hc.1 hc.2.2.1 hc.2.2.2.1 hc.2.2.2.2 eo
end
/-- zip(a, b): a tuple and a list, or two lists -/
def iZm (K : PySem.W.Frag) (ta : TA) : TI := fun σ H R => ta σ H fun as H1 => (∃ p q us vs, as = [.ref p, .ref q] ∧ SqT K H1 p us ∧ SqL K H1 q vs ∧ R (ItM K p q us.length vs.length) H1) ∨ ∃ p q us vs, as = [.ref p, .ref q] ∧ SqL K H1 p us ∧ SqL K H1 q vs ∧ R (Itz K p q) H1
theorem two_vals {p q : Addr} {us : List Value} (r : Vals [.ref p, .ref q] us) : us = [.ref p, .ref q] := by
  cases r with
  | cons a r =>
    cases r with
    | cons b r =>
      cases r
      cases a
      cases b
      rfl
theorem pi_zm {X : Cx} {a b : Expr} {ta : TA} {np pos tpos : Pos} {elts : List Expr} {kk : Nat} (hg : Gl X "zip") (hm : X.mg "zip" = none) (ha : PA X [a, b] ta)
    (s1 : starEach [a, b] X.env = (false, eval a X.env) :: starEach [b] X.env) (s2 : (backTo pos (starEach [b] X.env)).any (·.1) = false) : PI X (.Tuple elts kk tpos) (.Call (.Name "zip" np) [a, b] [] pos) (iZm X.K ta) := by
  constructor
  intro pins s σ H R I h
  refine Call_ (ld_blt I hg hm PyProof.Rows.boot_zip ?_)
  refine PyProof.Rows.callWith_type1 (thn (ha.run pos pins s σ H _ I h) ?_) s1 s2
  rintro us s2 ⟨_, H1, I1, r1, alt⟩
  have young : ∀ c, c ∈ [s2.heap.objs.size + 4, s2.heap.objs.size + 2, s2.heap.objs.size + 3, s2.heap.objs.size, s2.heap.objs.size + 1] → FpOk X pins H1 c := fun c hc => by
    have le : s2.heap.objs.size ≤ c := by
      simp only [List.mem_cons, List.not_mem_nil, or_false] at hc
      rcases hc with e | e | e | e | e <;> rw [e] <;> first | exact Nat.le_add_right _ _ | exact Nat.le_refl _
    exact I1.fpOk le (I1.hok.fresh le)
  rcases alt with ⟨p, q, xs, ys, rfl, gp, gq, k⟩ | ⟨p, q, xs, ys, rfl, gp, gq, k⟩
  · obtain rfl := two_vals r1
    obtain ⟨is, _, hp, _⟩ := I1.tuple gp
    obtain ⟨js, _, hq, _⟩ := I1.list gq
    obtain ⟨op, ep, _⟩ := id hp
    obtain ⟨oq, eq, _⟩ := id hq.isList
    refine zip_begins2 (begins_tuple p is.toArray) (begins_list q js.toArray) hp hq.isList fun h' z' t' r' i' j' sz kp => wpAny_pyIter_zip z' ?_
    exact ⟨s2.heap.objs.size + 4, _, _, _, H1, rfl, I1.kept (t' := s2.toks) kp, turn_zm (zm_sep (Heap.lt_size ep) (Heap.lt_size eq)), ⟨z', t', ⟨_, _, r'⟩, ⟨_, i', rfl, rfl⟩, ⟨_, j', rfl, rfl⟩, Nat.zero_le _, Nat.zero_le _⟩, young, k⟩
  · obtain rfl := two_vals r1
    obtain ⟨is, _, hp, _⟩ := I1.list gp
    obtain ⟨js, _, hq, _⟩ := I1.list gq
    refine zip_begins2 (begins_list p is.toArray) (begins_list q js.toArray) hp.isList hq.isList fun h' z' t' r' i' j' sz kp => wpAny_pyIter_zip z' ?_
    exact ⟨s2.heap.objs.size + 4, _, _, _, H1, rfl, I1.kept (t' := s2.toks) kp, turn_zip (PySem.W.ktu_apart s2.heap.objs.size p q hp.lt hq.lt), ⟨z', t', ⟨_, _, r'⟩, ⟨_, i', rfl, rfl⟩, ⟨_, j', rfl, rfl⟩⟩, young, k⟩
end Rf
end

section
namespace Rf
open PySem PySem.Spec PyProof.Rows L2

structure Mx where
  W : Wd
  fa : Nat → Option Addr
  ca : Nat → Option Addr
  ga : Nat → Option Addr
  cx : CXI := none
  xd : Option (Addr × List (String × D)) := none
  ex : Option (Nat × Addr) := none
  tb : List (Addr × Str) := []
  lc : Option (Addr × Str × List Addr) := none
  /-- the defs to which lambdas are given -/
  va : Nat → Option Addr := fun _ => none
@[reducible] def Mx.g (M : Mx) (K : PySem.W.Frag) : Gx := ⟨M.W, K, M.fa, M.ca, M.ga, M.xd, M.ex, M.tb, M.lc⟩

/-- what is asked of an outcome -/
def post {α β : Type} (G : Gx) (Wx : WX) (Rl : List Addr → Hp → α → β → Prop) (as : List Addr) (H : Hp) (σ : L2.St) (r : R α) (Q : β → Hp → Prop) : Prop :=
  match r with
  | .ok d h' => ∀ v as' H', Ext as H as' H' → HI G h' as' H' → Rl as' H' d v → Q v H'
  | .exc c fs h' => ∀ C dx vs as' H', Ext as H as' H' → HI G h' as' H' → G.ca c = some C → H' dx = some (.xd vs) → RepF G as' H' fs vs → Wx (.ref C) (some dx) σ H'
  | .no => False
abbrev rB : List Addr → Hp → Bool → Bool → Prop := fun _ _ d v => d = v
section
variable {α β γ δ : Type} {G : Gx} {Wx : WX} {Rl : List Addr → Hp → α → β → Prop} {Rm : List Addr → Hp → γ → δ → Prop} {as as' : List Addr} {H H' : Hp} {σ : L2.St} {r : R α}
theorem post.mono {Q : β → Hp → Prop} (x : Ext as H as' H') (p : post G Wx Rl as H σ r Q) : post G Wx Rl as' H' σ r Q := by
  cases r with
  | ok d h => exact fun v as2 H2 e => p v as2 H2 (x.trans e)
  | exc c fs h => exact fun C dx vs as2 H2 e => p C dx vs as2 H2 (x.trans e)
  | no => exact p
theorem post.bind {f : α → Hs → R γ} {Q : δ → Hp → Prop} (p : post G Wx Rm as H σ (r.bind f) Q) :
    post G Wx Rl as H σ r fun v H1 => ∃ d h1 as1, r = .ok d h1 ∧ Ext as H as1 H1 ∧ HI G h1 as1 H1 ∧ Rl as1 H1 d v ∧ post G Wx Rm as1 H1 σ (f d h1) Q := by
  cases r with
  | ok d h => exact fun v as2 H2 e i q => ⟨d, h, as2, rfl, e, i, q, p.mono e⟩
  | exc c fs h => exact p
  | no => exact p
theorem post.ofO {o : Option α} {h : Hs} {f : α → Hs → R γ} {Q : δ → Hp → Prop} (p : post G Wx Rm as H σ ((ofO o h).bind f) Q) : ∃ a, o = some a ∧ post G Wx Rm as H σ (f a h) Q := by
  cases o with
  | none => exact False.elim p
  | some a => exact ⟨a, rfl, p⟩
end
/-- readings -/
def tE (G : Gx) (Wx : WX) (ev : Sg → Hs → R D) : TE := fun σ H Q => ∃ σI h as, SL G σI as H σ ∧ HI G h as H ∧ post G Wx (Rep G) as H σ (ev σI h) Q
def tEs (G : Gx) (Wx : WX) (ev : Sg → Hs → R (List D)) : TA := fun σ H Q => ∃ σI h as, SL G σI as H σ ∧ HI G h as H ∧ post G Wx (Reps G) as H σ (ev σI h) Q
def tT (G : Gx) (Wx : WX) (ev : Sg → Hs → R D) : TT := fun σ H Q => ∃ σI h as, SL G σI as H σ ∧ HI G h as H ∧ post G Wx rB as H σ ((ev σI h).bind truthR) Q
section
variable {X : Cx} {M : Mx} {Wx : WX} {pins : List (Addr × Obj)} {s : Shared} {σ : L2.St} {H : Hp}
theorem RelV.str_of {z : Str} {u : Value} (r : RelV (.str z) u) : ∃ t, u = .str z t := r
/-- x op y -/
theorem opD_ok {o : Op} {op : Operator} (ho : (o, op) ∈ [(Op.add, Operator.Add), (.sub, .Sub), (.mul, .Mult), (.fdiv, .FloorDiv), (.mod, .Mod)]) {x y : V} {v u : Value} {dx dy : D} {h : Hs} {as : List Addr} {Q : VK} (I : Inv X pins σ H s) (rx : RelV x v) (ry : RelV y u)
    (hi : HI (M.g X.K) h as H) (r1 : Rep (M.g X.K) as H dx x) (r2 : Rep (M.g X.K) as H dy y) (p : post (M.g X.K) Wx (Rep (M.g X.K)) as H σ (opD o dx dy h) Q) :
    wpAny (model X.prog X.w) X.A (binaryOp op v u) (EP X pins σ Q) X.xe s := by
  simp only [List.mem_cons, List.not_mem_nil, or_false, Prod.mk.injEq] at ho
  have int2 : ∀ {i j : Int} {g : Int → Int → Int} {C : Int → Int → Prop}, OpR X (binaryOp op) (rI C fun i j => .int (g i j)) → dx = .int i → dy = .int j → C i j → opD o dx dy h = .ok (.int (g i j)) h → wpAny (model X.prog X.w) X.A (binaryOp op v u) (EP X pins σ Q) X.xe s := by
    intro i j g C hop e1 e2 hc e3
    subst e1 e2
    simp only [Rep] at r1 r2
    subst r1 r2
    rw [e3] at p
    exact hop pins s σ H _ _ v u Q I rx ry ⟨i, j, rfl, rfl, hc, p _ as H Ext.refl hi rfl⟩
  cases dx with
  | int i =>
    cases dy with
    | int j =>
      rcases ho with ⟨rfl, rfl⟩ | ⟨rfl, rfl⟩ | ⟨rfl, rfl⟩ | ⟨rfl, rfl⟩ | ⟨rfl, rfl⟩
      · exact int2 (C := fun _ _ => True) (g := fun i j => i + j) (fun pins s σ H x y v u Q I a b ⟨i, j, e1, e2, _, q⟩ => op_add pins s σ H x y v u Q I a b ⟨i, j, e1, e2, q⟩) rfl rfl trivial rfl
      · exact int2 (C := fun _ _ => True) (g := fun i j => i - j) (fun pins s σ H x y v u Q I a b ⟨i, j, e1, e2, _, q⟩ => op_sub pins s σ H x y v u Q I a b ⟨i, j, e1, e2, q⟩) rfl rfl trivial rfl
      · by_cases hc : (-(2 ^ 64) < i ∧ i < 2 ^ 64) ∨ (-(2 ^ 64) < j ∧ j < 2 ^ 64)
        · exact int2 op_mul rfl rfl hc (by simp only [opD, if_pos hc])
        · simp only [opD, if_neg hc] at p; exact p.elim
      · by_cases hc : j ≠ 0 ∧ j.natAbs < 1073741824
        · exact int2 op_fdivN rfl rfl hc (by simp only [opD, if_pos hc])
        · simp only [opD, if_neg hc] at p; exact p.elim
      · by_cases hc : j ≠ 0
        · exact int2 op_modN rfl rfl hc (by simp only [opD, if_pos hc])
        · simp only [opD, if_neg hc] at p; exact p.elim
    | _ => rcases ho with ⟨rfl, rfl⟩ | ⟨rfl, rfl⟩ | ⟨rfl, rfl⟩ | ⟨rfl, rfl⟩ | ⟨rfl, rfl⟩ <;> exact p.elim
  | str z =>
    cases dy with
    | str z' =>
      rcases ho with ⟨rfl, rfl⟩ | ⟨rfl, rfl⟩ | ⟨rfl, rfl⟩ | ⟨rfl, rfl⟩ | ⟨rfl, rfl⟩
      · simp only [Rep] at r1 r2
        subst r1 r2
        by_cases hc : z.length + z'.length ≤ sizeLine
        · simp only [opD, if_pos hc] at p
          refine op_add_str pins s σ H _ _ v u Q I rx ry ⟨_, _, rfl, rfl, by simpa [st, Str.length] using hc, ?_⟩
          refine p _ as H Ext.refl hi ?_
          simp only [Rep]
          show V.str ⟨(st z).cps ++ (st z').cps⟩ = _
          simp [st]
        · simp only [opD, if_neg hc] at p; exact p.elim
      all_goals exact p.elim
    | int k =>
      rcases ho with ⟨rfl, rfl⟩ | ⟨rfl, rfl⟩ | ⟨rfl, rfl⟩ | ⟨rfl, rfl⟩ | ⟨rfl, rfl⟩
      · exact p.elim
      · exact p.elim
      · simp only [Rep] at r1 r2
        subst r1 r2
        by_cases hc : 1 ≤ k ∧ k < 1000000 ∧ z ≠ [] ∧ z.length * k.toNat ≤ 1000000
        · simp only [opD, if_pos hc] at p
          obtain ⟨c1, c2, c3, c4⟩ := hc
          obtain ⟨t, rfl⟩ := rx
          obtain ⟨t', rfl⟩ := ry
          have zl : (st z).length = z.length := by simp [st, Str.length]
          have zp : 0 < z.length := List.length_pos_iff.mpr c3
          have tl : Builtin.Str.tooLong ((st z).length * k.toNat) = false := by
            rw [zl]
            have e : sizeLine = 16777216 := rfl
            exact decide_eq_false (by omega)
          refine PySem.P.mul_str (by rw [decide_eq_false (by omega), decide_eq_false (by omega)]; rfl) (fun _ _ => ?_) (fun _ _ => tl) ?_
          · rw [zl]
            have : ((z.length : Int)) ≤ 1000000 := by
              have : z.length * 1 ≤ z.length * k.toNat := Nat.mul_le_mul_left _ (by omega)
              omega
            have h2 : (1000000 : Int) ≤ (2 ^ 63 - 1) / k := by
              rw [Int.le_ediv_iff_mul_le (by omega)]; omega
            omega
          · by_cases k1 : k = 1
            · subst k1
              rw [if_neg (by omega), if_pos (by simp)]
              refine ⟨.str (st z), H, I, ⟨_, rfl⟩, p _ as H Ext.refl hi ?_⟩
              simp only [Rep]
              simp
            rw [if_neg (by omega), if_neg]
            · refine ⟨fits_reps tl, ⟨.str ⟨(List.replicate k.toNat (st z).cps).foldl (· ++ ·) #[]⟩, H, I.tok _, ⟨_, rfl⟩, p _ as H Ext.refl hi ?_⟩⟩
              simp only [Rep]
              have fl : ∀ (n : Nat) (acc : List Nat), (List.replicate n (st z).cps).foldl (· ++ ·) acc.toArray = (acc ++ ((List.replicate n z).flatten).map Char.toNat).toArray := by
                intro n
                induction n with
                | zero => intro acc; simp
                | succ n ih =>
                  intro acc
                  rw [List.replicate_succ, List.foldl_cons]
                  have e : acc.toArray ++ (st z).cps = (acc ++ z.map Char.toNat).toArray := by simp [st]
                  rw [e, ih]
                  simp [List.replicate_succ]
              have := fl k.toNat []
              simp only [List.nil_append] at this
              show V.str ⟨_⟩ = V.str (st _)
              rw [this]; rfl
            · rw [zl]
              have : (k == 1) = false := by simp; omega
              have h2 : (z.length == 0) = false := by simp; exact c3
              rw [this, h2]; decide
        · simp only [opD, if_neg hc] at p; exact p.elim
      · exact p.elim
      · exact p.elim
    | _ => rcases ho with ⟨rfl, rfl⟩ | ⟨rfl, rfl⟩ | ⟨rfl, rfl⟩ | ⟨rfl, rfl⟩ | ⟨rfl, rfl⟩ <;> exact p.elim
  | tup xs =>
    cases dy with
    | tup ys =>
      rcases ho with ⟨rfl, rfl⟩ | ⟨rfl, rfl⟩ | ⟨rfl, rfl⟩ | ⟨rfl, rfl⟩ | ⟨rfl, rfl⟩
      · simp only [Rep] at r1 r2
        obtain ⟨a, vs, rfl, sa, ra⟩ := r1
        obtain ⟨b, ws, rfl, sb, rb⟩ := r2
        by_cases hc : xs.length + ys.length ≤ sizeLine
        · simp only [opD, if_pos hc] at p
          refine op_catA pins s σ H _ _ v u Q I rx ry ⟨a, b, vs, ws, rfl, rfl, SqT.of sa, SqT.of sb, by rw [← ra.length, ← rb.length]; exact hc, fun e => ?_, fun _ e => ?_, fun _ e q hq => ?_⟩
          · refine p _ as H Ext.refl hi ?_
            obtain rfl := ra.nil_iff.mpr e
            simp only [Rep, List.nil_append]
            exact ⟨b, ws, rfl, sb, rb⟩
          · refine p _ as H Ext.refl hi ?_
            obtain rfl := rb.nil_iff.mpr e
            simp only [Rep, List.append_nil]
            exact ⟨a, vs, rfl, sa, ra⟩
          · refine p _ as _ (ext_tup hq) (hi.other hq) ?_
            simp only [Rep]
            exact ⟨q, _, rfl, upd_same, Reps.append (ra.mono (ext_tup hq)) (rb.mono (ext_tup hq))⟩
        · simp only [opD, if_neg hc] at p; exact p.elim
      all_goals exact p.elim
    | _ => rcases ho with ⟨rfl, rfl⟩ | ⟨rfl, rfl⟩ | ⟨rfl, rfl⟩ | ⟨rfl, rfl⟩ | ⟨rfl, rfl⟩ <;> exact p.elim
  | ob n =>
    cases dy with
    | ob m =>
      rcases ho with ⟨rfl, rfl⟩ | ⟨rfl, rfl⟩ | ⟨rfl, rfl⟩ | ⟨rfl, rfl⟩ | ⟨rfl, rfl⟩
      · simp only [Rep] at r1 r2
        obtain ⟨a, rfl, ea⟩ := r1
        obtain ⟨b, rfl, eb⟩ := r2
        simp only [opD] at p
        split at p
        · rename_i xs ys e1 e2
          by_cases hc : xs.length + ys.length ≤ sizeLine
          · rw [if_pos hc] at p
            obtain ⟨vs, h1, rv⟩ := hi.ob n _ a e1 ea
            obtain ⟨ws, h2, rw'⟩ := hi.ob m _ b e2 eb
            refine op_cat pins s σ H _ _ v u Q I rx ry ⟨a, b, vs, ws, rfl, rfl, h1, h2, by rw [← rv.length, ← rw'.length]; exact hc, fun q hq => ?_⟩
            refine p _ (as ++ [q]) _ (ext_new hq) (hi.new hq ⟨_, upd_same, Reps.append (rv.mono (ext_new hq)) (rw'.mono (ext_new hq))⟩) ?_
            simp only [Rep]
            exact ⟨q, rfl, by rw [← hi.len]; simp⟩
          · rw [if_neg hc] at p; exact p.elim
        · exact p.elim
      all_goals exact p.elim
    | _ => rcases ho with ⟨rfl, rfl⟩ | ⟨rfl, rfl⟩ | ⟨rfl, rfl⟩ | ⟨rfl, rfl⟩ | ⟨rfl, rfl⟩ <;> exact p.elim
  | bl b1 =>
    cases dy with
    | bl b2 =>
      rcases ho with ⟨rfl, rfl⟩ | ⟨rfl, rfl⟩ | ⟨rfl, rfl⟩ | ⟨rfl, rfl⟩ | ⟨rfl, rfl⟩
      · simp only [Rep] at r1 r2
        subst r1 r2
        cases rx
        cases ry
        have q : Q (.int ((if b1 = true then 1 else 0) + (if b2 = true then 1 else 0))) H := p _ as H Ext.refl hi (by simp only [Rep])
        exact PyProof.Rows.add_bool ⟨.int _, H, I.tok _, ⟨_, rfl⟩, q⟩
      all_goals exact p.elim
    | _ => rcases ho with ⟨rfl, rfl⟩ | ⟨rfl, rfl⟩ | ⟨rfl, rfl⟩ | ⟨rfl, rfl⟩ | ⟨rfl, rfl⟩ <;> exact p.elim
  | _ => rcases ho with ⟨rfl, rfl⟩ | ⟨rfl, rfl⟩ | ⟨rfl, rfl⟩ | ⟨rfl, rfl⟩ | ⟨rfl, rfl⟩ <;> exact p.elim
end
end Rf
end

section
namespace Rf
open PySem PySem.Spec PyProof.Rows L2

/-! ## data as PyData -/
mutual
theorem toPy_lay : ∀ (d : D), (toPy d).canLay0 = true
  | .non => by simp [toPy, PyData.canLay0]
  | .bl _ => by simp [toPy, PyData.canLay0]
  | .int _ => by simp [toPy, PyData.canLay0]
  | .str s => by
    simp only [toPy, PyData.canLay0, PyData.strOk]
    simp only [List.all_toArray, List.all_map, List.all_eq_true]
    intro c _
    have h := c.valid
    simp only [UInt32.isValidChar, Nat.isValidChar] at h
    simp only [Function.comp, decide_eq_true_eq]
    show c.val.toNat < 0x110000
    omega
  | .tup xs => by simp only [toPy, PyData.canLay0]; exact toPys_lay xs
  | .ob _ => by simp [toPy, PyData.canLay0]
  | .fn _ => by simp [toPy, PyData.canLay0]
  | .con _ => by simp [toPy, PyData.canLay0]
theorem toPys_lay : ∀ (ds : List D), PyData.canLayAll0 (toPys ds) = true
  | [] => by simp [toPys, PyData.canLayAll0]
  | d :: ds => by simp only [toPys, PyData.canLayAll0, toPy_lay d, toPys_lay ds, Bool.and_self]
end
mutual
theorem toPy_dep : ∀ (d : D), (toPy d).depth = dep d
  | .non => by simp [toPy, PyData.depth, dep]
  | .bl _ => by simp [toPy, PyData.depth, dep]
  | .int _ => by simp [toPy, PyData.depth, dep]
  | .str _ => by simp [toPy, PyData.depth, dep]
  | .tup xs => by simp only [toPy, PyData.depth, dep, toPys_dep xs]
  | .ob _ => by simp [toPy, PyData.depth, dep]
  | .fn _ => by simp [toPy, PyData.depth, dep]
  | .con _ => by simp [toPy, PyData.depth, dep]
theorem toPys_dep : ∀ (ds : List D), PyData.depthAll (toPys ds) = deps ds
  | [] => by simp [toPys, PyData.depthAll, deps]
  | d :: ds => by simp only [toPys, PyData.depthAll, deps, toPy_dep d, toPys_dep ds]
end
section
variable {G : Gx} {as : List Addr} {H : Hp}
mutual
theorem Rep.dp : ∀ {d : D} {v : V}, pur d = true → Rep G as H d v → Dp G.K H v (toPy d)
  | .non, _, _, h => by simp only [Rep] at h; subst h; simp only [toPy]; exact .non
  | .bl b, _, _, h => by simp only [Rep] at h; subst h; simp only [toPy]; exact .bl b
  | .int b, _, _, h => by simp only [Rep] at h; subst h; simp only [toPy]; exact .int b
  | .str b, _, _, h => by simp only [Rep] at h; subst h; simp only [toPy]; exact .str _
  | .tup ds, _, p, h => by
    simp only [Rep] at h
    obtain ⟨a, vs, rfl, hs, hr⟩ := h
    simp only [pur] at p
    simp only [toPy]
    exact .tup (SqT.of hs) (Reps.dp p hr)
  | .ob _, _, p, _ => by simp [pur] at p
  | .fn _, _, p, _ => by simp [pur] at p
  | .con _, _, p, _ => by simp [pur] at p
theorem Reps.dp : ∀ {ds : List D} {vs : List V}, purs ds = true → Reps G as H ds vs → DpAll G.K H vs (toPys ds)
  | [], _, _, h => by simp only [Reps] at h; subst h; simp only [toPys]; exact .nil
  | d :: ds, _, p, h => by
    simp only [purs, Bool.and_eq_true] at p
    simp only [Reps] at h
    obtain ⟨v, r, rfl, h1, h2⟩ := h
    simp only [toPys]
    exact .cons (Rep.dp p.1 h1) (Reps.dp p.2 h2)
end
end
section
variable {X : Cx} {M : Mx} {Wx : WX} {pins : List (Addr × Obj)} {s : Shared} {σ : L2.St} {H : Hp}
theorem lsts_dp {h : Hs} {as : List Addr} (hi : HI (M.g X.K) h as H) : ∀ {xs : List D} {vs : List V} {us : List (List D)}, lsts h xs = some us → Reps (M.g X.K) as H xs vs → DpAll X.K H vs (us.map fun u => .list (toPys u)) ∧ ∀ u ∈ us, purs u = true ∧ deps u ≤ 50
  | [], vs, us, e, r => by
    simp only [Reps] at r; subst r
    simp only [lsts, Option.some.injEq] at e; subst e
    exact ⟨.nil, by simp⟩
  | d :: ds, vs, us, e, r => by
    simp only [Reps] at r
    obtain ⟨v, rv, rfl, h1, h2⟩ := r
    cases d with
    | ob n =>
      simp only [lsts] at e
      split at e
      · rename_i zs ez
        split at e
        · rename_i hc
          simp only [Bool.and_eq_true, decide_eq_true_eq] at hc
          cases e2 : lsts h ds with
          | none => rw [e2] at e; simp at e
          | some us' =>
            rw [e2] at e
            simp only [Option.map_some, Option.some.injEq] at e
            subst e
            obtain ⟨q1, q2⟩ := lsts_dp hi e2 h2
            simp only [Rep] at h1
            obtain ⟨a, rfl, ea⟩ := h1
            obtain ⟨ws, g1, rw'⟩ := hi.ob n _ a ez ea
            refine ⟨.cons (.lst (SqL.of g1) (Reps.dp (G := M.g X.K) hc.1 rw')) q1, fun u hu => ?_⟩
            rcases List.mem_cons.mp hu with rfl | hu
            · exact hc
            · exact q2 u hu
        · cases e
      · cases e
    | _ => simp [lsts] at e
theorem eqvss_toPy : ∀ (us ws : List (List D)), (∀ u ∈ us, purs u = true ∧ deps u ≤ 50) → (∀ u ∈ ws, purs u = true ∧ deps u ≤ 50) → PyData.eqvAll (us.map fun u => PyData.list (toPys u)) (ws.map fun u => PyData.list (toPys u)) = eqvss us ws
  | [], [], _, _ => by simp only [List.map_nil, PyData.eqvAll, eqvss]
  | [], _ :: _, _, _ => by simp only [List.map_nil, List.map_cons, PyData.eqvAll, eqvss]
  | _ :: _, [], _, _ => by simp only [List.map_nil, List.map_cons, PyData.eqvAll, eqvss]
  | x :: xs, y :: ys, hx, hy => by
    simp only [List.map_cons, PyData.eqvAll, PyData.eqv, eqvss, eqvs_toPy x y (hx x List.mem_cons_self).1 (hy y List.mem_cons_self).1, eqvss_toPy xs ys (fun u hu => hx u (List.mem_cons_of_mem _ hu)) (fun u hu => hy u (List.mem_cons_of_mem _ hu))]
theorem lss_shaped : ∀ (us : List (List D)), (∀ u ∈ us, purs u = true ∧ deps u ≤ 50) → PyData.canLayAll0 (us.map fun u => PyData.list (toPys u)) = true ∧ PyData.depthAll (us.map fun u => PyData.list (toPys u)) ≤ 55
  | [], _ => by simp [PyData.canLayAll0, PyData.depthAll]
  | x :: xs, hx => by
    obtain ⟨a, b⟩ := lss_shaped xs fun u hu => hx u (List.mem_cons_of_mem _ hu)
    have c := (hx x List.mem_cons_self).2
    simp only [List.map_cons, PyData.canLayAll0, PyData.canLay0, PyData.depthAll, PyData.depth, toPys_lay, toPys_dep, a, Bool.and_self, true_and]
    omega
theorem mapO_dp {f : D → Option PyData} {as : List Addr} (hf : ∀ d v p, f d = some p → Rep (M.g X.K) as H d v → Dp X.K H v p) : ∀ {ds : List D} {vs : List V} {ps : List PyData}, mapO f ds = some ps → Reps (M.g X.K) as H ds vs → DpAll X.K H vs ps
  | [], _, _, e, r => by
    simp only [Reps] at r
    simp only [mapO, Option.some.injEq] at e
    subst r e
    exact .nil
  | d :: ds, _, _, e, r => by
    simp only [Reps] at r
    obtain ⟨v, rv, rfl, h1, h2⟩ := r
    simp only [mapO] at e
    cases e1 : f d with
    | none => rw [e1] at e; cases e
    | some p =>
      rw [e1] at e
      obtain ⟨ps, e2, rfl⟩ := Option.map_eq_some_iff.mp e
      exact .cons (hf d v p e1 h1) (mapO_dp hf e2 h2)
theorem rsv_dp {h : Hs} {as : List Addr} (hi : HI (M.g X.K) h as H) : ∀ (k : Nat) (d : D) (v : V) (p : PyData), rsv h k d = some p → Rep (M.g X.K) as H d v → Dp X.K H v p
  | 0, _, _, _, e, _ => by simp [rsv] at e
  | k + 1, d, v, p, e, r => by
    cases d with
    | non => simp only [rsv, Option.some.injEq] at e; subst e; simp only [Rep] at r; subst r; exact .non
    | bl b => simp only [rsv, Option.some.injEq] at e; subst e; simp only [Rep] at r; subst r; exact .bl b
    | int i => simp only [rsv, Option.some.injEq] at e; subst e; simp only [Rep] at r; subst r; exact .int i
    | str s => simp only [rsv, Option.some.injEq] at e; subst e; simp only [Rep] at r; subst r; exact .str _
    | tup xs =>
      simp only [rsv] at e
      obtain ⟨ps, e2, rfl⟩ := Option.map_eq_some_iff.mp e
      simp only [Rep] at r
      obtain ⟨a, vs, rfl, hs, hr⟩ := r
      exact .tup (SqT.of hs) (mapO_dp (rsv_dp hi k) e2 hr)
    | ob n =>
      simp only [rsv] at e
      split at e
      · rename_i xs ex
        obtain ⟨ps, e2, rfl⟩ := Option.map_eq_some_iff.mp e
        simp only [Rep] at r
        obtain ⟨a, rfl, ea⟩ := r
        obtain ⟨vs, g1, g2⟩ := hi.ob n _ a ex ea
        exact .lst (SqL.of g1) (mapO_dp (rsv_dp hi k) e2 g2)
      · cases e
    | fn i => simp [rsv] at e
    | con g => simp [rsv] at e
theorem eqR_ok {x y : V} {dx dy : D} {h : Hs} {as : List Addr} {b : Bool} (hi : HI (M.g X.K) h as H) (r1 : Rep (M.g X.K) as H dx x) (r2 : Rep (M.g X.K) as H dy y) (e : eqR h dx dy = some b) :
    ∃ d d', Dp X.K H x d ∧ Dp X.K H y d' ∧ SeqAt.shaped d = true ∧ SeqAt.shaped d' = true ∧ PyData.eqv d d' = b := by
  unfold eqR at e
  split at e
  · rename_i p q e1 e2
    split at e
    · rename_i hs
      simp only [Bool.and_eq_true] at hs
      exact ⟨p, q, rsv_dp hi _ _ _ _ e1 r1, rsv_dp hi _ _ _ _ e2 r2, hs.1, hs.2, Option.some.inj e⟩
    · cases e
  · cases e
theorem eqD_ok {x y : V} {dx dy : D} {h : Hs} {as : List Addr} {b : Bool} (hi : HI (M.g X.K) h as H) (r1 : Rep (M.g X.K) as H dx x) (r2 : Rep (M.g X.K) as H dy y) (e : eqD h dx dy = some b) :
    ∃ d d', Dp X.K H x d ∧ Dp X.K H y d' ∧ SeqAt.shaped d = true ∧ SeqAt.shaped d' = true ∧ PyData.eqv d d' = b := by
  have pure_ : ∀ dx dy : D, Rep (M.g X.K) as H dx x → Rep (M.g X.K) as H dy y → (if flat dx && flat dy then some (eqv dx dy) else eqR h dx dy) = some b → ∃ d d', Dp X.K H x d ∧ Dp X.K H y d' ∧ SeqAt.shaped d = true ∧ SeqAt.shaped d' = true ∧ PyData.eqv d d' = b := by
    intro dx dy r1 r2 e
    split at e
    · rename_i hf
      simp only [flat, Bool.and_eq_true, decide_eq_true_eq] at hf
      obtain ⟨⟨p1, d1⟩, p2, d2⟩ := hf
      refine ⟨toPy dx, toPy dy, Rep.dp (G := M.g X.K) p1 r1, Rep.dp (G := M.g X.K) p2 r2, ?_, ?_, ?_⟩
      · unfold SeqAt.shaped; rw [toPy_lay, toPy_dep]; simpa using d1
      · unfold SeqAt.shaped; rw [toPy_lay, toPy_dep]; simpa using d2
      · rw [eqv_toPy _ _ p1 p2]; exact Option.some.inj e
    · exact eqR_ok hi r1 r2 e
  cases dx with
  | ob n =>
    cases dy with
    | ob m =>
      simp only [eqD] at e
      split at e
      · rename_i xs ys e1 e2
        split at e
        · rename_i hc
          simp only [Bool.and_eq_true, decide_eq_true_eq] at hc
          obtain ⟨⟨⟨p1, p2⟩, d1⟩, d2⟩ := hc
          simp only [Rep] at r1 r2
          obtain ⟨a, rfl, ea⟩ := r1
          obtain ⟨b', rfl, eb⟩ := r2
          obtain ⟨vs, h1, rv⟩ := hi.ob n _ a e1 ea
          obtain ⟨ws, h2, rw'⟩ := hi.ob m _ b' e2 eb
          refine ⟨.list (toPys xs), .list (toPys ys), .lst (SqL.of h1) (Reps.dp (G := M.g X.K) p1 rv), .lst (SqL.of h2) (Reps.dp (G := M.g X.K) p2 rw'), ?_, ?_, ?_⟩
          · unfold SeqAt.shaped
            simp only [PyData.canLay0, PyData.depth, toPys_lay, toPys_dep, Bool.true_and, decide_eq_true_eq]; omega
          · unfold SeqAt.shaped
            simp only [PyData.canLay0, PyData.depth, toPys_lay, toPys_dep, Bool.true_and, decide_eq_true_eq]; omega
          · simp only [PyData.eqv]; rw [eqvs_toPy _ _ p1 p2]; exact Option.some.inj e
        · split at e
          · rename_i us zs eu ez
            simp only [Rep] at r1 r2
            obtain ⟨a, rfl, ea⟩ := r1
            obtain ⟨b', rfl, eb⟩ := r2
            obtain ⟨vs, h1, rv⟩ := hi.ob n _ a e1 ea
            obtain ⟨ws, h2, rw'⟩ := hi.ob m _ b' e2 eb
            obtain ⟨q1, p1⟩ := lsts_dp hi eu rv
            obtain ⟨q2, p2⟩ := lsts_dp hi ez rw'
            obtain ⟨s1, s2⟩ := lss_shaped us p1
            obtain ⟨t1, t2⟩ := lss_shaped zs p2
            refine ⟨.list _, .list _, .lst (SqL.of h1) q1, .lst (SqL.of h2) q2, ?_, ?_, ?_⟩
            · unfold SeqAt.shaped
              simp only [PyData.canLay0, PyData.depth, s1, Bool.true_and]; exact decide_eq_true (by omega)
            · unfold SeqAt.shaped
              simp only [PyData.canLay0, PyData.depth, t1, Bool.true_and]; exact decide_eq_true (by omega)
            · simp only [PyData.eqv]; rw [eqvss_toPy _ _ p1 p2]; exact Option.some.inj e
          · exact eqR_ok hi r1 r2 e
      · cases e
    | _ => exact pure_ _ _ r1 r2 e
  | _ => cases dy <;> exact pure_ _ _ r1 r2 e
/-- truth -/
theorem truth_ok {x : V} {dx : D} {h : Hs} {as : List Addr} {b : Bool} (hi : HI (M.g X.K) h as H) (r1 : Rep (M.g X.K) as H dx x) (e : truth dx h = some b) : TruV X.K x H b := by
  have emp : ∀ {ds : List D} {vs : List V}, Reps (M.g X.K) as H ds vs → (!ds.isEmpty) = !vs.isEmpty := by
    intro ds vs r
    cases ds <;> cases vs <;> simp [Reps] at r ⊢
  cases dx with
  | non => simp only [Rep] at r1; subst r1; simp only [truth, Option.some.injEq] at e; exact e.symm
  | bl c => simp only [Rep] at r1; subst r1; simp only [truth, Option.some.injEq] at e; exact e.symm
  | int i => simp only [Rep] at r1; subst r1; simp only [truth, Option.some.injEq] at e; exact e.symm
  | str z =>
    simp only [Rep] at r1; subst r1; simp only [truth] at e
    split at e
    · rename_i hl
      refine ⟨by simpa [st, Str.length] using hl, ?_⟩
      rw [← Option.some.inj e]
      have : (st z).length = z.length := by simp [st, Str.length]
      rw [this]
      cases z with
      | nil => rfl
      | cons a r =>
        simp only [List.isEmpty_cons, Bool.not_false, List.length_cons]
        symm
        rw [bne_iff_ne]; omega
    · cases e
  | tup ds =>
    simp only [Rep] at r1
    obtain ⟨a, vs, rfl, hs, hr⟩ := r1
    simp only [truth, Option.some.injEq] at e
    exact .inr (.inl ⟨vs, SqT.of hs, by rw [← e]; exact emp hr⟩)
  | ob n =>
    simp only [Rep] at r1
    obtain ⟨a, rfl, ea⟩ := r1
    simp only [truth] at e
    split at e
    · rename_i ds e1
      obtain ⟨vs, h1, hr⟩ := hi.ob n _ a e1 ea
      exact .inl ⟨vs, SqL.of h1, by rw [← Option.some.inj e]; exact emp hr⟩
    · rename_i ds e1
      obtain ⟨o, h1⟩ := hi.ob n _ a e1 ea
      exact .inl ⟨_, .inl (.inr ⟨o, h1⟩), by rw [← Option.some.inj e]; cases ds <;> rfl⟩
    · cases e
  | fn i => simp [truth] at e
  | con i => simp [truth] at e
/-- in a list or tuple -/
theorem Rep.inj_pur (I : Inv X pins σ H s) {as : List Addr} : ∀ {d d' : D} {v : V}, pur d = true → pur d' = true → Rep (M.g X.K) as H d v → Rep (M.g X.K) as H d' v → toPy d = toPy d' := by
  intro d d' v p p' r r'
  have h1 := Rep.dp (G := M.g X.K) p r
  have h2 := Rep.dp (G := M.g X.K) p' r'
  have key : ∀ (a : PyData) (v : V) (b : PyData), Dp X.K H v a → Dp X.K H v b → (∀ xs, a ≠ .list xs) → True := fun _ _ _ _ _ _ => trivial
  clear key r r' p p'
  revert h1 h2
  generalize toPy d = a
  generalize toPy d' = b
  intro h1 h2
  have main : (∀ (v : V) (a : PyData), Dp X.K H v a → ∀ b, Dp X.K H v b → a = b) := by
    intro v a h
    refine Dp.rec (motive_1 := fun v a _ => ∀ b, Dp X.K H v b → a = b) (motive_2 := fun vs ds _ => ∀ es, DpAll X.K H vs es → ds = es) ?_ ?_ ?_ ?_ ?_ ?_ ?_ ?_ h
    · intro b h; cases h; rfl
    · intro c b h; cases h; rfl
    · intro c b h; cases h; rfl
    · intro c b h; cases h; rfl
    · intro p xs ds hs _ ih b h
      cases h with
      | lst hs' ha' => rw [I.list_inj hs hs'] at ih; rw [ih _ ha']
      | tup hs' ha' =>
        obtain ⟨_, _, ⟨o, n, e, c, _⟩, _⟩ := I.list hs
        obtain ⟨_, _, ⟨o', e', c', _⟩, _⟩ := I.tuple hs'
        rw [e] at e'; cases e'; rw [c] at c'; injection c' with c2; exact absurd c2 (by decide)
    · intro p xs ds hs _ ih b h
      cases h with
      | tup hs' ha' => rw [I.tuple_inj hs hs'] at ih; rw [ih _ ha']
      | lst hs' ha' =>
        obtain ⟨_, _, ⟨o, n, e, c, _⟩, _⟩ := I.list hs'
        obtain ⟨_, _, ⟨o', e', c', _⟩, _⟩ := I.tuple hs
        rw [e] at e'; cases e'; rw [c] at c'; injection c' with c2; exact absurd c2 (by decide)
    · intro es h; cases h; rfl
    · intro v vs d ds _ _ ih1 ih2 es h
      cases h with
      | cons a b => rw [ih1 _ a, ih2 _ b]
  exact main v a h1 b h2
open Classical in
theorem in_seq_ok {neg : Bool} {op : CmpOp} (hop : (neg, op) = (false, .In) ∨ (neg, op) = (true, .NotIn)) {x : V} {dx : D} {ys : List D} {vs : List V} {p : Addr} {v : Value} {h : Hs} {as : List Addr} {Q : VK} (hu : X.A.units + 200 < cLine) (I : Inv X pins σ H s)
    (rx : RelV x v) (hi : HI (M.g X.K) h as H) (r1 : Rep (M.g X.K) as H dx x) (hq : SqL X.K H p vs ∨ SqT X.K H p vs) (r2 : Reps (M.g X.K) as H ys vs) (fx : flat dx = true) (fy : ys.all flat = true)
    (q : Q (.bl (if neg then !inL dx ys else inL dx ys)) H) : wpAny (model X.prog X.w) X.A (compareOp op v (.ref p)) (EP X pins σ Q) X.xe s := by
  have flat_ : ∀ {d}, flat d = true → pur d = true ∧ dep d ≤ 64 := by
    intro d hd; simpa [flat] using hd
  obtain ⟨px, dxx⟩ := flat_ fx
  -- the answers by the values
  have go : ∀ its : List Value, Vals vs its → ∃ ans : Value → Bool, (∀ w ∈ its, SeqAt.EqAt X.A.in1 s w v (ans w)) ∧ its.any ans = inL dx ys := by
    intro its rv
    have room : ∀ (d : D), X.A.in1.units + min (toPy d).depth (toPy dx).depth < cLine := by
      intro d
      rw [toPy_dep, toPy_dep]
      show X.A.units + 1 + _ < _
      have := Nat.min_le_right (dep d) (dep dx)
      omega
    obtain ⟨as1, rdx⟩ := Dp.reads I (toPy dx) x v (Rep.dp (G := M.g X.K) px r1) rx
    have one : ∀ {d : D} {y : V} {w : Value}, pur d = true → Rep (M.g X.K) as H d y → RelV y w → SeqAt.EqAt X.A.in1 s w v (eqv d dx) := by
      intro d y w pd rd rw_
      obtain ⟨bs, rdy⟩ := Dp.reads I (toPy d) y w (Rep.dp (G := M.g X.K) pd rd) rw_
      rw [← eqv_toPy d dx pd px]
      exact SeqAt.eqAt_reads (toPy d) (toPy dx) X.A.in1 s w v bs as1 rdy rdx (toPy_lay _) (toPy_lay _) (room d)
    refine ⟨fun w => decide (∃ d y, d ∈ ys ∧ Rep (M.g X.K) as H d y ∧ RelV y w ∧ eqv d dx = true), ?_, ?_⟩
    · intro w hw
      have : ∀ (ys : List D) (vs : List V) (its : List Value), Reps (M.g X.K) as H ys vs → Vals vs its → w ∈ its → ∃ d y, d ∈ ys ∧ Rep (M.g X.K) as H d y ∧ RelV y w := by
        intro ys
        induction ys with
        | nil => intro vs its r rv hw; simp only [Reps] at r; subst r; cases rv; cases hw
        | cons d ds ih =>
          intro vs its r rv hw
          simp only [Reps] at r
          obtain ⟨y, r', rfl, h1, h2⟩ := r
          cases rv with
          | cons a b =>
            rcases List.mem_cons.mp hw with rfl | hw
            · exact ⟨d, y, List.mem_cons_self, h1, a⟩
            · obtain ⟨d', y', m, q1, q2⟩ := ih _ _ h2 b hw
              exact ⟨d', y', List.mem_cons_of_mem _ m, q1, q2⟩
      obtain ⟨d, y, hd, rd, rw_⟩ := this ys vs its r2 rv hw
      have pd := (flat_ (List.all_eq_true.mp fy d hd)).1
      have e : decide (∃ d y, d ∈ ys ∧ Rep (M.g X.K) as H d y ∧ RelV y w ∧ eqv d dx = true) = eqv d dx := by
        cases he : eqv d dx with
        | true => exact decide_eq_true ⟨d, y, hd, rd, rw_, he⟩
        | false =>
          refine decide_eq_false ?_
          rintro ⟨d', y', hd', rd', rw', he'⟩
          obtain rfl := rw'.inj rw_
          have pd' := (flat_ (List.all_eq_true.mp fy d' hd')).1
          have e := Rep.inj_pur (M := M) I pd pd' rd rd'
          rw [← eqv_toPy d dx pd px] at he
          rw [← eqv_toPy d' dx pd' px, ← e, he] at he'
          cases he'
      show SeqAt.EqAt X.A.in1 s w v (decide _)
      rw [e]
      exact one pd rd rw_
    · rw [Bool.eq_iff_iff, List.any_eq_true, inL, List.any_eq_true]
      constructor
      · rintro ⟨w, _, hw⟩
        obtain ⟨d, y, hd, _, _, he⟩ := of_decide_eq_true hw
        exact ⟨d, hd, he⟩
      · rintro ⟨d, hd, he⟩
        have : ∀ (ys : List D) (vs : List V) (its : List Value), Reps (M.g X.K) as H ys vs → Vals vs its → d ∈ ys → ∃ w y, w ∈ its ∧ Rep (M.g X.K) as H d y ∧ RelV y w := by
          intro ys
          induction ys with
          | nil => intro vs its r rv hw; cases hw
          | cons d0 ds ih =>
            intro vs its r rv hw
            simp only [Reps] at r
            obtain ⟨y, r', rfl, h1, h2⟩ := r
            cases rv with
            | cons a b =>
              rcases List.mem_cons.mp hw with rfl | hw
              · exact ⟨_, y, List.mem_cons_self, h1, a⟩
              · obtain ⟨w', y', m, q1, q2⟩ := ih _ _ h2 b hw
                exact ⟨w', y', List.mem_cons_of_mem _ m, q1, q2⟩
        obtain ⟨w, y, hw, rd, rw_⟩ := this ys vs its r2 rv hd
        exact ⟨w, hw, decide_eq_true ⟨d, y, hd, rd, rw_, he⟩⟩
  rcases hq with hq | hq
  · obtain ⟨its, rv, pl, hz⟩ := I.list hq
    obtain ⟨ans, a1, a2⟩ := go its rv
    rcases hop with e | e <;> cases e
    · refine SeqAt.in_listAt ans pl.isList (fun w hw => a1 w (by simpa using hw)) ⟨.bl _, H, I, rfl, ?_⟩
      rw [show its.toArray.any ans = its.any ans by simp, a2]; exact q
    · refine SeqAt.notIn_listAt ans pl.isList (fun w hw => a1 w (by simpa using hw)) ⟨.bl _, H, I, rfl, ?_⟩
      rw [show its.toArray.any ans = its.any ans by simp, a2]; exact q
  · obtain ⟨its, rv, pl, hz⟩ := I.tuple hq
    obtain ⟨ans, a1, a2⟩ := go its rv
    rcases hop with e | e <;> cases e
    · refine SeqAt.in_tupleAt ans pl (fun w hw => a1 w (by simpa using hw)) ⟨.bl _, H, I, rfl, ?_⟩
      rw [show its.toArray.any ans = its.any ans by simp, a2]; exact q
    · refine SeqAt.notIn_tupleAt ans pl (fun w hw => a1 w (by simpa using hw)) ⟨.bl _, H, I, rfl, ?_⟩
      rw [show its.toArray.any ans = its.any ans by simp, a2]; exact q
end
end Rf
end

section
namespace Rf
open PySem PySem.Spec PyProof.Rows L2

theorem post.imp {α β : Type} {G : Gx} {Wx : WX} {Rl : List Addr → Hp → α → β → Prop} {as : List Addr} {H : Hp} {σ : L2.St} {r : R α} {Q Q' : β → Hp → Prop} (p : post G Wx Rl as H σ r Q) (h : ∀ v H', Q v H' → Q' v H') : post G Wx Rl as H σ r Q' := by
  cases r with
  | ok d h' => exact fun v as2 H2 e i q => h _ _ (p v as2 H2 e i q)
  | exc c fs h' => exact p
  | no => exact p

/-! ## keys -/
theorem st_inj {s t : List Char} (e : st s = st t) : s = t := by
  have := st_beq s t
  rw [e, beq_self_eq_true] at this
  exact (eq_of_beq this.symm)
theorem eqv_key {a k : D} {x y : Key} (ha : keyK a = some x) (hk : keyK k = some y) : eqv a k = decide (x = y) := by
  cases a <;> simp only [keyK, Option.some.injEq, reduceCtorEq] at ha <;> cases k <;> simp only [keyK, Option.some.injEq, reduceCtorEq] at hk <;> subst ha hk
  · rename_i i j
    simp only [eqv]
    rw [Bool.eq_iff_iff, beq_iff_eq, decide_eq_true_eq]
    exact ⟨fun e => by rw [e], fun e => Sum.inl.inj e⟩
  · simp only [eqv]
    exact (decide_eq_false (fun q => nomatch q)).symm
  · simp only [eqv]
    exact (decide_eq_false (fun q => nomatch q)).symm
  · rename_i i j
    simp only [eqv]
    rw [Bool.eq_iff_iff, beq_iff_eq, decide_eq_true_eq]
    exact ⟨fun e => by rw [e], fun e => st_inj (Sum.inr.inj e)⟩
theorem eqvs_key : ∀ {a k : List D} {x y : List Key}, keyKs a = some x → keyKs k = some y → eqvs a k = decide (x = y)
  | [], [], x, y, ha, hk => by simp only [keyKs, Option.some.injEq] at ha hk; subst ha hk; simp [eqvs]
  | [], d :: ds, x, y, ha, hk => by
    simp only [keyKs, Option.some.injEq] at ha; subst ha
    simp only [keyKs] at hk
    split at hk
    · cases hk; simp [eqvs]
    · cases hk
  | d :: ds, [], x, y, ha, hk => by
    simp only [keyKs, Option.some.injEq] at hk; subst hk
    simp only [keyKs] at ha
    split at ha
    · cases ha; simp [eqvs]
    · cases ha
  | d :: ds, e :: es, x, y, ha, hk => by
    simp only [keyKs] at ha hk
    split at ha
    · rename_i k1 ks1 e1 e2
      split at hk
      · rename_i k2 ks2 e3 e4
        cases ha; cases hk
        simp only [eqvs, eqv_key e1 e3, eqvs_key e2 e4]
        rw [Bool.eq_iff_iff]
        simp
      · cases hk
    · cases ha
theorem eqv_keyT {a k : D} {x y : List Key} (ha : keyT a = some x) (hk : keyT k = some y) : eqv a k = decide (x = y) := by
  cases a <;> simp only [keyT, reduceCtorEq] at ha
  cases k <;> simp only [keyT, reduceCtorEq] at hk
  simp only [eqv]
  exact eqvs_key ha hk
theorem isK_key {d : D} (h : isK d = true) : ∃ k, keyK d = some k := by
  cases d <;> simp [isK] at h <;> exact ⟨_, rfl⟩
theorem isT_key {d : D} (h : isT d = true) : ∃ k, keyT d = some k := by
  cases d with
  | tup ds =>
    simp only [isT] at h
    simp only [keyT]
    induction ds with
    | nil => exact ⟨[], rfl⟩
    | cons a r ih =>
      simp only [List.all_cons, Bool.and_eq_true] at h
      obtain ⟨k, hk⟩ := isK_key h.1
      obtain ⟨ks, hks⟩ := ih h.2
      exact ⟨k :: ks, by simp only [keyKs, hk, hks]⟩
  | _ => simp [isT] at h
section
variable {κ : Type} [DecidableEq κ] {ky : D → Option κ} {G : Gx} {as : List Addr} {H : Hp}
theorem RepKV.get (he : ∀ {a k : D} {x y : κ}, ky a = some x → ky k = some y → eqv a k = decide (x = y)) {k : D} {y : κ} (hk : ky k = some y) : ∀ {kvs : List (D × D)} {kv : List (κ × V)}, RepKV ky G as H kvs kv →
    (kvGet kvs k = none ∧ valV kv y = none) ∨ ∃ d v, kvGet kvs k = some d ∧ valV kv y = some v ∧ Rep G as H d v
  | _, _, .nil => .inl ⟨rfl, rfl⟩
  | (a, b) :: kvs, (x, v) :: kv, .cons h t => by
    have e := he h.1 hk
    simp only [kvGet]
    by_cases hx : x = y
    · rw [decide_eq_true hx] at e
      rw [if_pos e]
      exact .inr ⟨b, v, rfl, valV_pos hx, h.2⟩
    · rw [decide_eq_false hx] at e
      rw [e, valV_neg hx]
      simpa using RepKV.get he hk t
theorem valV_none_any {kv : List (κ × V)} {y : κ} (h : valV kv y = none) : (kv.any fun q => decide (q.1 = y)) = false := by
  rw [valV_any, h]; rfl
theorem RepKV.any (he : ∀ {a k : D} {x y : κ}, ky a = some x → ky k = some y → eqv a k = decide (x = y)) {k : D} {y : κ} (hk : ky k = some y) : ∀ {kvs : List (D × D)} {kv : List (κ × V)}, RepKV ky G as H kvs kv →
    (kvs.any fun p => eqv p.1 k) = kv.any fun q => decide (q.1 = y)
  | _, _, .nil => rfl
  | (a, b) :: kvs, (x, v) :: kv, .cons h t => by
    rw [List.any_cons, List.any_cons, RepKV.any he hk t, he h.1 hk]
theorem RepKV.repl (he : ∀ {a k : D} {x y : κ}, ky a = some x → ky k = some y → eqv a k = decide (x = y)) {k d : D} {y : κ} {v : V} (hk : ky k = some y) (hv : Rep G as H d v) :
    ∀ {kvs : List (D × D)} {kv : List (κ × V)}, RepKV ky G as H kvs kv → RepKV ky G as H (kvs.map (fun p => if eqv p.1 k = true then (p.1, d) else p)) (kv.map (fun p => if p.1 = y then (p.1, v) else p))
  | _, _, .nil => .nil
  | (a, b) :: kvs, (x, w) :: kv, .cons h t => by
    have e := he h.1 hk
    rw [List.map_cons, List.map_cons]
    refine .cons ?_ (RepKV.repl he hk hv t)
    show ky (if eqv a k = true then (a, d) else (a, b)).1 = some (if x = y then (x, v) else (x, w)).1 ∧ Rep G as H (if eqv a k = true then (a, d) else (a, b)).2 (if x = y then (x, v) else (x, w)).2
    rw [show eqv a k = decide (x = y) from e]
    by_cases hx : x = y
    · rw [if_pos (decide_eq_true hx), if_pos hx]; exact ⟨h.1, hv⟩
    · rw [if_neg (by simpa using hx), if_neg hx]; exact h
theorem RepKV.snoc {k d : D} {y : κ} {v : V} (hk : ky k = some y) (hv : Rep G as H d v) : ∀ {kvs : List (D × D)} {kv : List (κ × V)}, RepKV ky G as H kvs kv → RepKV ky G as H (kvs ++ [(k, d)]) (kv ++ [(y, v)])
  | _, _, .nil => .cons ⟨hk, hv⟩ .nil
  | _ :: _, _ :: _, .cons h t => .cons h (RepKV.snoc hk hv t)
theorem RepKV.put (he : ∀ {a k : D} {x y : κ}, ky a = some x → ky k = some y → eqv a k = decide (x = y)) {k d : D} {y : κ} {v : V} (hk : ky k = some y) (hv : Rep G as H d v)
    {kvs : List (D × D)} {kv : List (κ × V)} (r : RepKV ky G as H kvs kv) : RepKV ky G as H (kvPut kvs k d) (putK kv y v) := by
  unfold kvPut putK
  rw [RepKV.any he hk r]
  split
  · exact RepKV.repl he hk hv r
  · exact RepKV.snoc hk hv r
theorem RepKV.length {kvs : List (D × D)} {kv : List (κ × V)} (h : RepKV ky G as H kvs kv) : kvs.length = kv.length := Paired.length h
end
section
variable {X : Cx} {M : Mx} {Wx : WX} {pins : List (Addr × Obj)} {s : Shared} {σ : L2.St} {H : Hp} {as : List Addr} {h : Hs}
theorem lkd.rd {lk : Bool} {a : Addr} {o : HO} (e : lkd lk H a o) : Rd H a o := by
  unfold lkd at e
  split at e
  · exact .inr e
  · exact .inl e
/-- SqT that is tracked -/
theorem Rep.keyT_ref {ds : List D} {ks : List Key} (e : keyKs ds = some ks) {vs : List V} (r : Reps (M.g X.K) as H ds vs) : vs = ks.map kV := by
  induction ds generalizing ks vs with
  | nil => simp only [keyKs, Option.some.injEq] at e; subst e; simp only [Reps] at r; subst r; rfl
  | cons d ds ih =>
    simp only [keyKs] at e
    split at e
    · rename_i k ks' e1 e2
      cases e
      simp only [Reps] at r
      obtain ⟨v, r', rfl, h1, h2⟩ := r
      rw [List.map_cons, ← ih e2 h2]
      congr 1
      cases d <;> simp only [keyK, Option.some.injEq, reduceCtorEq] at e1 <;> subst e1 <;> simp only [Rep] at h1 <;> subst h1 <;> rfl
    · cases e
theorem Rep.keyK_v {d : D} {k : Key} {v : V} (e : keyK d = some k) (r : Rep (M.g X.K) as H d v) : v = kV k := by
  cases d <;> simp only [keyK, Option.some.injEq, reduceCtorEq] at e <;> subst e <;> simp only [Rep] at r <;> subst r <;> rfl
end
end Rf
end

section
namespace Rf
open PySem PySem.Spec PyProof.Rows L2

/-- the module's constant tuples (lists) -/
def ConOk (M : Mx) (K : PySem.W.Frag) : Prop := ∀ (g : Nat) (ys : List D) (a : Addr), M.W.cons[g]? = some ys → M.ga g = some a →
  ∃ vs : List V, (∀ (H : Hp) (as : List Addr), SqT K H a vs ∧ Reps (M.g K) as H ys vs) ∧ ys.all flat = true
/-- the default () -/
def EmptyT (K : PySem.W.Frag) (a : Addr) : Prop := ∃ n sl, K.lookup a = some ⟨.type "tuple", none, .seq #[] n, sl⟩
/-- the script, where it is an object of the module -/
def ScrOk (M : Mx) (K : PySem.W.Frag) : Prop := (∀ a : Addr, M.ga M.W.cons.length = some a → ∀ H : Hp, SqL K H a (M.W.scr.map V.int)) ∧ ∀ a : Addr, M.ga (M.W.cons.length + 1) = some a → EmptyT K a
section
variable {X : Cx} {M : Mx} {Wx : WX} {pins : List (Addr × Obj)} {s : Shared} {σ : L2.St} {H : Hp}
theorem dget_ok {x : V} {k : D} {a : Addr} {as : List Addr} {lk t : Bool} {kvs : List (D × D)} (hob : ObR (M.g X.K) as H a (.dic lk t kvs)) (hk : okK t kvs k = true) (rk : Rep (M.g X.K) as H k x) :
    ∃ o, DGet H a x o ∧ ((kvGet kvs k = none ∧ o = none) ∨ ∃ d v, kvGet kvs k = some d ∧ o = some v ∧ Rep (M.g X.K) as H d v) := by
  cases t with
  | false =>
    obtain ⟨kv, h1, h2⟩ := hob
    simp only [okK, Bool.false_eq_true, if_false, Bool.and_eq_true] at hk
    obtain ⟨y, hy⟩ := isK_key hk.1
    refine ⟨valV kv y, .inl ⟨kv, y, h1.rd, Rep.keyK_v hy rk, rfl⟩, ?_⟩
    rcases RepKV.get (fun a b => eqv_key a b) hy h2 with ⟨e1, e2⟩ | ⟨d, v, e1, e2, r⟩
    · exact .inl ⟨e1, e2⟩
    · exact .inr ⟨d, v, e1, e2, r⟩
  | true =>
    obtain ⟨kv, h1, h2⟩ := hob
    simp only [okK, if_true, Bool.and_eq_true] at hk
    obtain ⟨y, hy⟩ := isT_key hk.1
    cases k with
    | tup ds =>
      simp only [Rep] at rk
      obtain ⟨b, vs, rfl, hb, hr⟩ := rk
      rw [Rep.keyT_ref hy hr] at hb
      refine ⟨valV kv y, .inr ⟨kv, y, b, h1.rd, rfl, hb, rfl⟩, ?_⟩
      rcases RepKV.get (fun a b => eqv_keyT a b) hy h2 with ⟨e1, e2⟩ | ⟨d, v, e1, e2, r⟩
      · exact .inl ⟨e1, e2⟩
      · exact .inr ⟨d, v, e1, e2, r⟩
    | _ => simp [keyT] at hy
theorem st1 (c : Char) : st [c] = ⟨#[c.toNat]⟩ := rfl
theorem st_mem (c : Char) (z : List Char) : decide (c.toNat ∈ (st z).cps.toList) = z.contains c := by
  rw [Bool.eq_iff_iff, decide_eq_true_eq, List.contains_iff_mem]
  show c.toNat ∈ z.map Char.toNat ↔ _
  constructor
  · intro h
    obtain ⟨d, hd, e⟩ := List.mem_map.mp h
    rw [← Char.toNat_inj.mp e]; exact hd
  · exact fun h => List.mem_map.mpr ⟨c, h, rfl⟩
theorem inD_ok {neg : Bool} {op : CmpOp} (hop : (neg, op) = (false, .In) ∨ (neg, op) = (true, .NotIn)) {x y : V} {dx dy : D} {v u : Value} {h : Hs} {as : List Addr} {Q : VK} {b : Bool} (hu : X.A.units + 200 < cLine) (hc : ConOk M X.K) (I : Inv X pins σ H s)
    (rx : RelV x v) (ry : RelV y u) (hi : HI (M.g X.K) h as H) (r1 : Rep (M.g X.K) as H dx x) (r2 : Rep (M.g X.K) as H dy y) (e : inD M.W.cons dx dy h = some b)
    (q : Q (.bl (if neg then !b else b)) H) : wpAny (model X.prog X.w) X.A (compareOp op v u) (EP X pins σ Q) X.xe s := by
  cases dy with
  | tup ys =>
    simp only [inD] at e
    split at e
    · rename_i hf
      simp only [Bool.and_eq_true] at hf
      cases e
      simp only [Rep] at r2
      obtain ⟨a, vs, rfl, h1, hr⟩ := r2
      cases ry
      exact in_seq_ok hop hu I rx hi r1 (.inr (SqT.of h1)) hr hf.1 hf.2 q
    · cases e
  | con g =>
    simp only [inD] at e
    split at e
    · rename_i ys e1
      split at e
      · rename_i hf
        simp only [Bool.and_eq_true] at hf
        cases e
        simp only [Rep] at r2
        obtain ⟨a, rfl, h1⟩ := r2
        cases ry
        obtain ⟨vs, hv, _⟩ := hc g ys a e1 h1
        exact in_seq_ok hop hu I rx hi r1 (.inr (hv H as).1) (hv H as).2 hf.1 hf.2 q
      · cases e
    · cases e
  | ob n =>
    simp only [inD] at e
    simp only [Rep] at r2
    obtain ⟨a, rfl, ea⟩ := r2
    cases ry
    split at e
    · rename_i ys e1
      split at e
      · rename_i hf
        simp only [Bool.and_eq_true] at hf
        cases e
        obtain ⟨vs, h1, hr⟩ := hi.ob n _ a e1 ea
        exact in_seq_ok hop hu I rx hi r1 (.inl (SqL.of h1)) hr hf.1 hf.2 q
      · cases e
    · rename_i lk t kvs e1
      split at e
      · rename_i hf
        cases e
        obtain ⟨o, g, ho⟩ := dget_ok (hi.ob n _ a e1 ea) hf r1
        have eo : o.isSome = (kvGet kvs dx).isSome := by
          rcases ho with ⟨e1, e2⟩ | ⟨d, v, e1, e2, _⟩ <;> rw [e1, e2] <;> rfl
        rcases hop with e | e <;> cases e
        · exact d_in (by omega) I g rx fun s' I' => ⟨.bl o.isSome, H, I', rfl, by rw [eo]; exact q⟩
        · exact d_notIn (by omega) I g rx fun s' I' => ⟨.bl (!o.isSome), H, I', rfl, by rw [eo]; exact q⟩
      · cases e
    · cases e
  | str z =>
    simp only [inD] at e
    split at e
    · rename_i c
      cases e
      simp only [Rep] at r1 r2
      subst r1 r2
      rw [← st_mem] at q
      rcases hop with e | e <;> cases e
      · exact op_in_sign pins s σ H _ _ v u Q I rx ry ⟨c.toNat, st z, rfl, rfl, q⟩
      · exact op_notIn_sign pins s σ H _ _ v u Q I rx ry ⟨c.toNat, st z, rfl, rfl, q⟩
    · cases e
  | _ => simp [inD] at e
/-- comparisons -/
def cpOf : Cp → CmpOp
  | .eq => .Eq | .ne => .NotEq | .lt => .Lt | .le => .LtE | .gt => .Gt | .ge => .GtE | .in_ => .In | .nin => .NotIn | .is_ => .Is | .isn => .IsNot
theorem hits_of {A : Around} {s : Shared} {ls : List (D × D)} {lv : List (Key × V)} {vb : List (Key × Value)} {as : List Addr} (hu : A.units + 100 < cLine) (I : Inv X pins σ H s) (hl : RepKV keyK (M.g X.K) as H ls lv) (fl : ls.all (fun p => flat p.2) = true) (rb : KV lv vb) :
    ∀ {ks : List (D × D)} {kv : List (Key × V)} {va : List (Key × Value)}, RepKV keyK (M.g X.K) as H ks kv → ks.all (fun p => flat p.2) = true → KV kv va → PySem.W.KeqHits A s vb va (ks.all (hitKV ls))
  | _, _, _, .nil, _, .nil => .nil
  | (k, d) :: ks, (x, v) :: kv, (x', u) :: va, .cons h1 t1, fk, .cons h2 t2 => by
    simp only [List.all_cons, Bool.and_eq_true] at fk
    obtain ⟨hk, hr⟩ := h1
    obtain ⟨rfl, ru⟩ := h2
    simp only at hk hr ru
    have ih := hits_of hu I hl fl rb t1 fk.2 t2
    rw [List.all_cons]
    rcases RepKV.get (fun ha hk => eqv_key ha hk) hk hl with ⟨e1, e2⟩ | ⟨w, wv, e1, e2, rw_⟩
    · have : hitKV ls (k, d) = false := by unfold hitKV; rw [e1]
      rw [this, Bool.false_and]
      refine .miss ?_
      have := rb.val x
      rw [e2] at this
      exact this.none_of
    · have : hitKV ls (k, d) = eqv d w := by unfold hitKV; rw [e1]
      rw [this]
      have rv := rb.val x
      rw [e2] at rv
      obtain ⟨y, hy, ry⟩ := rv.some_of
      refine .hit hy ?_ ih
      have fw : flat w = true := by
        have : ∀ {l : List (D × D)}, kvGet l k = some w → ∃ p ∈ l, p.2 = w := by
          intro l
          induction l with
          | nil => intro e; simp [kvGet] at e
          | cons p l ih =>
            obtain ⟨a, b⟩ := p
            intro e
            unfold kvGet at e
            split at e
            · cases e; exact ⟨_, List.mem_cons_self, rfl⟩
            · obtain ⟨q, hq, eq⟩ := ih e; exact ⟨q, List.mem_cons_of_mem _ hq, eq⟩
        obtain ⟨p, hp, rfl⟩ := this e1
        exact List.all_eq_true.mp fl p hp
      have flat_ : ∀ {d}, flat d = true → pur d = true ∧ dep d ≤ 64 := by
        intro d hd; simpa [flat] using hd
      obtain ⟨pd, dd⟩ := flat_ fk.1
      obtain ⟨pw, dw⟩ := flat_ fw
      obtain ⟨bs, rdx⟩ := Dp.reads I (toPy d) v u (Rep.dp (G := M.g X.K) pd hr) ru
      obtain ⟨cs, rdy⟩ := Dp.reads I (toPy w) wv y (Rep.dp (G := M.g X.K) pw rw_) ry
      rw [← eqv_toPy d w pd pw]
      refine SeqAt.eqAt_reads (toPy d) (toPy w) A s u y bs cs rdx rdy (toPy_lay _) (toPy_lay _) ?_
      rw [toPy_dep, toPy_dep]
      have := Nat.min_le_right (dep d) (dep w)
      omega
theorem cmpA_ok {o : Cp} {x y : V} {dx dy : D} {v u : Value} {h : Hs} {as : List Addr} {Q : VK} (hu : X.A.units + 200 < cLine) (hc : ConOk M X.K) (I : Inv X pins σ H s) (rx : RelV x v) (ry : RelV y u)
    (hi : HI (M.g X.K) h as H) (r1 : Rep (M.g X.K) as H dx x) (r2 : Rep (M.g X.K) as H dy y) (p : post (M.g X.K) Wx (Rep (M.g X.K)) as H σ (cmpA M.W.cons o dx dy h) Q) :
    wpAny (model X.prog X.w) X.A (compareOp (cpOf o) v u) (EP X pins σ Q) X.xe s := by
  have fin : ∀ {b : Bool}, post (M.g X.K) Wx (Rep (M.g X.K)) as H σ (.ok (.bl b) h) Q → Q (.bl b) H := fun {b} p => p _ as H Ext.refl hi (by simp only [Rep])
  have int2 : ∀ {g : Int → Int → Bool}, OpR X (compareOp (cpOf o)) (rI0 fun i j => .bl (g i j)) → (post (M.g X.K) Wx (Rep (M.g X.K)) as H σ (cmpI g dx dy h) Q) →
      wpAny (model X.prog X.w) X.A (compareOp (cpOf o) v u) (EP X pins σ Q) X.xe s := by
    intro g hop p
    cases dx <;> try exact p.elim
    cases dy <;> try exact p.elim
    simp only [Rep] at r1 r2
    subst r1 r2
    exact hop pins s σ H _ _ v u Q I rx ry ⟨_, _, rfl, rfl, fin p⟩
  cases o with
  | eq =>
    simp only [cmpA] at p
    split at p
    · rename_i q eq_
      obtain ⟨b, e, p⟩ := post.ofO p
      unfold dicB at eq_
      split at eq_
      · rename_i n m
        split at eq_
        · rename_i lk1 ks lk2 ls e1 e2
          cases eq_
          simp only [Rep] at r1 r2
          obtain ⟨a, rfl, ea⟩ := r1
          obtain ⟨a', rfl, eb⟩ := r2
          obtain ⟨kv, h1, rk⟩ := hi.ob n _ a e1 ea
          obtain ⟨lv, h2, rl⟩ := hi.ob m _ a' e2 eb
          obtain rfl : v = Value.ref a := rx
          obtain rfl : u = Value.ref a' := ry
          obtain ⟨_, ya, va, ra, da⟩ := dk_rd I.hok h1.rd
          obtain ⟨_, yb, vb, rb, db⟩ := dk_rd I.hok h2.rd
          unfold eqKV at e
          split at e
          · rename_i hf
            simp only [Bool.and_eq_true] at hf
            cases e
            have hl1 : va.length = ks.length := by rw [← ra.length, ← Paired.length rk]
            have hl2 : vb.length = ls.length := by rw [← rb.length, ← Paired.length rl]
            exact PySem.W.keq_eq (knd := mixKind X.prog X.w) (r := ks.all (hitKV ls)) ya yb da db (by omega) (fun _ => hits_of (by show X.A.units + 1 + 100 < _; omega) I rl hf.2 rb rk hf.1 ra) (fin_bl I (fin p) (by rw [hl1, hl2]))
          · cases e
        · cases eq_
      · cases eq_
    · simp only [cmpD] at p
      split at p
      · rename_i b e
        obtain ⟨d, d', h1, h2, h3, h4, h5⟩ := eqD_ok hi r1 r2 e
        exact op_eqD (by omega) pins s σ H x y v u Q I rx ry ⟨d, d', h1, h2, h3, h4, by rw [h5]; exact fin p⟩
      · exact p.elim
  | ne =>
    simp only [cmpA] at p
    split at p
    · rename_i q eq_
      obtain ⟨b, e, p⟩ := post.ofO p
      unfold dicB at eq_
      split at eq_
      · rename_i n m
        split at eq_
        · rename_i lk1 ks lk2 ls e1 e2
          cases eq_
          simp only [Rep] at r1 r2
          obtain ⟨a, rfl, ea⟩ := r1
          obtain ⟨a', rfl, eb⟩ := r2
          obtain ⟨kv, h1, rk⟩ := hi.ob n _ a e1 ea
          obtain ⟨lv, h2, rl⟩ := hi.ob m _ a' e2 eb
          obtain rfl : v = Value.ref a := rx
          obtain rfl : u = Value.ref a' := ry
          obtain ⟨_, ya, va, ra, da⟩ := dk_rd I.hok h1.rd
          obtain ⟨_, yb, vb, rb, db⟩ := dk_rd I.hok h2.rd
          unfold eqKV at e
          split at e
          · rename_i hf
            simp only [Bool.and_eq_true] at hf
            cases e
            have hl1 : va.length = ks.length := by rw [← ra.length, ← Paired.length rk]
            have hl2 : vb.length = ls.length := by rw [← rb.length, ← Paired.length rl]
            exact PySem.W.keq_ne (knd := mixKind X.prog X.w) (r := ks.all (hitKV ls)) ya yb da db (by omega) (fun _ => hits_of (by show X.A.units + 1 + 100 < _; omega) I rl hf.2 rb rk hf.1 ra) (fin_bl I (fin p) (by rw [hl1, hl2]))
          · cases e
        · cases eq_
      · cases eq_
    · simp only [cmpD] at p
      split at p
      · rename_i b e
        obtain ⟨d, d', h1, h2, h3, h4, h5⟩ := eqD_ok hi r1 r2 e
        exact op_neD (by omega) pins s σ H x y v u Q I rx ry ⟨d, d', h1, h2, h3, h4, by rw [h5]; exact fin p⟩
      · exact p.elim
  | lt => exact int2 op_lt p
  | le => exact int2 op_le p
  | gt => exact int2 op_gt p
  | ge => exact int2 op_ge p
  | in_ =>
    obtain ⟨b, e, p⟩ := post.ofO p
    exact inD_ok (neg := false) (.inl rfl) hu hc I rx ry hi r1 r2 e (fin p)
  | nin =>
    obtain ⟨b, e, p⟩ := post.ofO p
    exact inD_ok (neg := true) (.inr rfl) hu hc I rx ry hi r1 r2 e (fin p)
  | is_ =>
    simp only [cmpA] at p
    cases dy <;> try exact p.elim
    case bl k =>
      cases dx <;> try exact p.elim
      simp only [Rep] at r1 r2
      subst r1 r2
      exact op_is_bl pins s σ H _ _ v u Q I rx ry ⟨_, _, rfl, rfl, fin p⟩
    simp only [Rep] at r2
    subst r2
    refine op_isN pins s σ H x _ v u Q I rx ry ⟨rfl, ?_⟩
    cases dx <;> simp only [Rep] at r1
    · subst r1; exact fin p
    all_goals first
      | (subst r1; exact fin p)
      | (obtain ⟨a, _, rfl, _⟩ := r1; exact fin p)
      | (obtain ⟨a, rfl, _⟩ := r1; exact fin p)
  | isn =>
    simp only [cmpA] at p
    cases dy <;> try exact p.elim
    case bl k =>
      cases dx <;> try exact p.elim
      simp only [Rep] at r1 r2
      subst r1 r2
      exact op_isnot_bl pins s σ H _ _ v u Q I rx ry ⟨_, _, rfl, rfl, fin p⟩
    simp only [Rep] at r2
    subst r2
    refine op_notN pins s σ H x _ v u Q I rx ry ⟨rfl, ?_⟩
    cases dx <;> simp only [Rep] at r1
    · subst r1; exact fin p
    all_goals first
      | (subst r1; exact fin p)
      | (obtain ⟨a, _, rfl, _⟩ := r1; exact fin p)
      | (obtain ⟨a, rfl, _⟩ := r1; exact fin p)
end
end Rf
end

section
namespace Rf
open PySem PySem.Spec PyProof.Rows L2

theorem ofString_inj {a b : String} (e : Str.ofString a = Str.ofString b) : a = b := by
  rw [Str.ofString_eq_toList, Str.ofString_eq_toList] at e
  have e1 := congrArg (fun z => z.cps.toList) e
  exact String.toList_inj.mp ((List.map_inj_right (fun a b h => Char.toNat_inj.mp h)).mp e1)
theorem ofString_st (a : String) : Str.ofString a = st a.toList := Str.ofString_eq_toList a
theorem st_len (z : List Char) : (st z).length = z.length := by simp [st, Str.length]
section
variable {G : Gx} {as : List Addr} {H : Hp}
theorem RepF.lookup (f : String) : ∀ {fs : List (String × D)} {vs : List (Str × V)}, RepF G as H fs vs → (fs.lookup f = none ∧ vs.lookup (Str.ofString f) = none) ∨ ∃ d v, fs.lookup f = some d ∧ vs.lookup (Str.ofString f) = some v ∧ Rep G as H d v
  | _, _, .nil => .inl ⟨rfl, rfl⟩
  | (g, d) :: fs, (q, v) :: vs, .cons h t => by
    obtain ⟨e, hr⟩ := h
    simp only at e hr
    subst e
    rw [List.lookup_cons, List.lookup_cons]
    by_cases hf : f = g
    · subst hf
      rw [beq_self_eq_true, beq_self_eq_true]
      exact .inr ⟨d, v, rfl, rfl, hr⟩
    · rw [beq_eq_false_iff_ne.mpr hf, beq_eq_false_iff_ne.mpr (fun e => hf (ofString_inj e))]
      exact RepF.lookup f t
theorem RepF.put {f : String} {d : D} {v : V} (hv : Rep G as H d v) : ∀ {fs : List (String × D)} {vs : List (Str × V)}, RepF G as H fs vs → RepF G as H (fput f d fs) (putF (Str.ofString f) v vs)
  | _, _, .nil => .cons ⟨rfl, hv⟩ .nil
  | (g, d') :: fs, (q, v') :: vs, .cons h t => by
    obtain ⟨e, hr⟩ := h
    simp only at e hr
    subst e
    simp only [fput, putF]
    by_cases hf : g = f
    · subst hf
      rw [if_pos rfl, if_pos rfl]
      exact .cons ⟨rfl, hv⟩ t
    · rw [if_neg hf, if_neg (fun e => hf (ofString_inj e))]
      exact .cons ⟨rfl, hr⟩ (RepF.put hv t)
theorem RepF.length {fs : List (String × D)} {vs : List (Str × V)} (h : RepF G as H fs vs) : fs.length = vs.length := Paired.length h
theorem Reps.at {ds : List D} {vs : List V} {i : Int} {d : D} (r : Reps G as H ds vs) (e : atI ds i = some d) : ∃ v, atI vs i = some v ∧ Rep G as H d v := by
  unfold atI at e ⊢
  rw [← r.length]
  cases h : ixN ds.length i with
  | none => rw [h] at e; simp at e
  | some j =>
    rw [h] at e
    simp only [Option.bind_some] at e ⊢
    exact r.get e
theorem Reps.cut {ds : List D} {vs : List V} (lo hi : Option Int) (r : Reps G as H ds vs) : Reps G as H (cutD ds lo hi) (cutV vs lo hi) := by
  unfold cutD cutV
  rw [← r.length]
  exact Reps.take _ (Reps.drop _ r)
theorem Reps.int_map {ns : List Int} : Reps G as H (ns.map D.int) (ns.map V.int) := Reps.ints
end
section
variable {X : Cx} {M : Mx} {Wx : WX} {pins : List (Addr × Obj)} {s : Shared} {σ : L2.St} {H : Hp}
/-- what is at an address: a list of ours or the script -/
theorem lst_of {h : Hs} {as : List Addr} (hi : HI (M.g X.K) h as H) {n : Nat} {a : Addr} {xs : List D} (e : h[n]? = some (.lst xs) ∨ ∃ ns : List Int, h[n]? = some (.scr ns) ∧ xs = ns.map D.int) (ea : as[n]? = some a) : ∃ vs, SqL X.K H a vs ∧ Reps (M.g X.K) as H xs vs := by
  rcases e with e | ⟨ns, e, rfl⟩
  · obtain ⟨vs, h1, h2⟩ := hi.ob n _ a e ea
    exact ⟨vs, SqL.of h1, h2⟩
  · obtain ⟨o, h1⟩ := hi.ob n _ a e ea
    exact ⟨_, .inl (.inr ⟨o, h1⟩), Reps.ints⟩
/-- x[y], not of a dict -/
def rIx8 (M : Mx) (K : PySem.W.Frag) (Wx : WX) (σ : L2.St) : R2 := fun x y H Q => ∃ dx dy h as, HI (M.g K) h as H ∧ Rep (M.g K) as H dx x ∧ Rep (M.g K) as H dy y ∧ (∀ n lk t kvs, dx = .ob n → h[n]? ≠ some (.dic lk t kvs)) ∧ post (M.g K) Wx (Rep (M.g K)) as H σ (ixD M.W.cs2 dx dy h) Q
theorem ix8 (hc : ConOk M X.K) (hsr : ScrOk M X.K) (σ' : L2.St) : IxR X (rIx8 M X.K Wx σ') := by
  intro value slice pins s σ H x y v u Q I rx ry h hsub
  obtain ⟨dx, dy, h, as, hi, r1, r2, nd, p⟩ := h
  have seq_ : ∀ {ds : List D} {a : Addr} {i : Int} {vs : List V}, x = .ref a → dy = .int i → (SqL X.K H a vs ∨ SqT X.K H a vs) → Reps (M.g X.K) as H ds vs → post (M.g X.K) Wx (Rep (M.g X.K)) as H σ' (ofO (atI ds i) h) Q →
      wpAny (model X.prog X.w) X.A (subscriptTail value slice v u) (EP X pins σ Q) X.xe s := by
    intro ds a i vs e1 e2 hq hr p2
    subst e1 e2
    simp only [Rep] at r2
    subst r2
    cases e : atI ds i with
    | none => rw [e] at p2; exact p2.elim
    | some d =>
      rw [e] at p2
      obtain ⟨w, e3, rw_⟩ := hr.at e
      have q : Q w H := p2 w as H Ext.refl hi rw_
      rcases hq with hq | hq
      · exact ix_list value slice pins s σ H _ _ v u Q I rx ry ⟨a, vs, i, w, rfl, rfl, hq, e3, q⟩ hsub
      · exact ix_tup value slice pins s σ H _ _ v u Q I rx ry ⟨a, vs, i, w, rfl, rfl, hq, e3, q⟩ hsub
  cases dx with
  | tup xs =>
    cases dy with
    | int i =>
      simp only [Rep] at r1
      obtain ⟨a, vs, rfl, h1, hr⟩ := r1
      exact seq_ rfl rfl (.inr (SqT.of h1)) hr p
    | _ => exact p.elim
  | con g =>
    cases dy with
    | int i =>
      simp only [ixD] at p
      simp only [Rep] at r1
      obtain ⟨a, rfl, h1⟩ := r1
      split at p
      · rename_i ys e1
        by_cases hg : g < M.W.cons.length
        · have e2 : M.W.cons[g]? = some ys := by
            unfold Wd.cs2 at e1
            rwa [List.getElem?_append_left hg] at e1
          obtain ⟨vs, hv, _⟩ := hc g ys a e2 h1
          exact seq_ rfl rfl (.inr (hv H as).1) (hv H as).2 p
        · unfold Wd.cs2 at e1
          rw [List.getElem?_append_right (by omega)] at e1
          have hz : g - M.W.cons.length = 0 := by
            have := (List.getElem?_eq_some_iff.mp e1).1
            simpa using this
          rw [hz] at e1
          have hgl : g = M.W.cons.length := by omega
          subst hgl
          have e3 : ys = M.W.scr.map D.int := by simpa using e1.symm
          subst e3
          exact seq_ rfl rfl (.inl (hsr.1 a h1 H)) Reps.ints p
      · exact p.elim
    | _ => exact p.elim
  | str z =>
    cases dy with
    | int i =>
      simp only [Rep] at r1 r2
      subst r1 r2
      simp only [ixD] at p
      split at p
      · rename_i hl
        cases e : atI z i with
        | none => rw [e] at p; exact p.elim
        | some c =>
          rw [e] at p
          have q : Q (.str (st [c])) H := p _ as H Ext.refl hi (by simp only [Rep])
          refine ix_str value slice pins s σ H _ _ v u Q I rx ry ⟨st z, i, c.toNat, rfl, rfl, by rw [st_len]; exact hl, ?_, q⟩ hsub
          show atI (z.map Char.toNat) i = some c.toNat
          unfold atI at e ⊢
          rw [List.length_map]
          cases h : ixN z.length i with
          | none => rw [h] at e; simp at e
          | some j =>
            rw [h] at e
            simp only [Option.bind_some, List.getElem?_map] at e ⊢
            rw [e]; rfl
      · exact p.elim
    | _ => exact p.elim
  | ob n =>
    simp only [Rep] at r1
    obtain ⟨a, rfl, ea⟩ := r1
    simp only [ixD] at p
    split at p
    · rename_i xs i e1
      obtain ⟨vs, h1, h2⟩ := lst_of hi (.inl e1) ea
      exact seq_ rfl rfl (.inl h1) h2 p
    · rename_i ns i e1
      obtain ⟨vs, h1, h2⟩ := lst_of hi (.inr ⟨ns, e1, rfl⟩) ea
      have e : (atI ns i).map D.int = atI (ns.map D.int) i := by
        unfold atI
        rw [List.length_map]
        cases ixN ns.length i with
        | none => rfl
        | some j => simp
      rw [e] at p
      exact seq_ rfl rfl (.inl h1) h2 p
    · rename_i lk t kvs e1
      exact absurd e1 (nd n lk t kvs rfl)
    · exact p.elim
  | _ => exact p.elim
/-- slices -/
def rSl8 (M : Mx) (K : PySem.W.Frag) (Wx : WX) (σ : L2.St) : V → Option Int → Option Int → Hp → VK → Prop := fun x lo hi H Q => ∃ dx h as, HI (M.g K) h as H ∧ Rep (M.g K) as H dx x ∧ post (M.g K) Wx (Rep (M.g K)) as H σ (slD dx lo hi h) Q
theorem sl8 (σ' : L2.St) : SlR X (rSl8 M X.K Wx σ') := by
  intro pins s σ H x v vl vu lo hi sl Q I rx hsl pl pu hh
  obtain ⟨dx, h, as, hI, r1, p⟩ := hh
  cases dx with
  | tup xs =>
    simp only [Rep] at r1
    obtain ⟨a, vs, rfl, h1, hr⟩ := r1
    refine sl_tupA pins s σ H _ v vl vu lo hi sl Q I rx hsl pl pu ⟨a, vs, rfl, SqT.of h1, fun e => ?_, fun e q hq => ?_⟩
    · refine p _ as H Ext.refl hI ?_
      simp only [Rep]
      have : cutD xs lo hi = xs := by
        unfold cutD
        rw [hr.length, e.1, e.2, Nat.sub_zero, List.drop_zero, ← hr.length, List.take_length]
      rw [this]
      exact ⟨a, vs, rfl, h1, hr⟩
    · refine p _ as _ (ext_tup hq) (hI.other hq) ?_
      simp only [Rep]
      exact ⟨q, _, rfl, upd_same, (hr.cut lo hi).mono (ext_tup hq)⟩
  | str z =>
    simp only [Rep] at r1
    subst r1
    simp only [slD] at p
    split at p
    · rename_i hz
      refine sl_str pins s σ H _ v vl vu lo hi sl Q I rx hsl pl pu ⟨st z, rfl, by rw [st_len]; exact hz, ?_⟩
      refine p _ as H Ext.refl hI ?_
      simp only [Rep]
      congr 1
      unfold cutS cutD st
      simp [Str.length, List.map_take, List.map_drop]
    · exact p.elim
  | ob n =>
    simp only [Rep] at r1
    obtain ⟨a, rfl, ea⟩ := r1
    have go : ∀ xs : List D, (h[n]? = some (.lst xs) ∨ ∃ ns : List Int, h[n]? = some (.scr ns) ∧ xs = ns.map D.int) → post (M.g X.K) Wx (Rep (M.g X.K)) as H σ' (.ok (.ob h.length) (h ++ [.lst (cutD xs lo hi)])) Q →
        ∃ T id, typeLookup (.type T) "__getitem__" = pure (some (.builtin id)) ∧ s.TypeIs v T ∧ wpAny (model X.prog X.w) X.A (getItem v (.ref sl)) (EP X pins σ Q) X.xe s := by
      intro xs e p
      obtain ⟨vs, h1, h2⟩ := lst_of hI e ea
      refine sl_list pins s σ H _ v vl vu lo hi sl Q I rx hsl pl pu ⟨a, vs, rfl, h1, fun q hq => ?_⟩
      refine p _ (as ++ [q]) _ (ext_new hq) (hI.new hq ⟨_, upd_same, (h2.cut lo hi).mono (ext_new hq)⟩) ?_
      simp only [Rep]
      exact ⟨q, rfl, by rw [← hI.len]; simp⟩
    simp only [slD] at p
    split at p
    · rename_i xs e1
      exact go xs (.inl e1) p
    · rename_i ns e1
      refine go _ (.inr ⟨ns, e1, rfl⟩) ?_
      have : cutD (ns.map D.int) lo hi = (cutD ns lo hi).map D.int := by
        unfold cutD; simp [List.map_take, List.map_drop]
      rw [this]; exact p
    · exact p.elim
  | _ => exact p.elim
/-- o[i] = v, of a list or a dict -/
theorem putD_ok {x y z : V} {dx dy dz : D} {ov iv zv : Value} {h h' : Hs} {as : List Addr} {Q : Unit → Shared → Prop} (hu : X.A.units + 200 < cLine) (I : Inv X pins σ H s) (rx : RelV x ov) (ry : RelV y iv) (rz : RelV z zv)
    (hi : HI (M.g X.K) h as H) (r1 : Rep (M.g X.K) as H dx x) (r2 : Rep (M.g X.K) as H dy y) (r3 : Rep (M.g X.K) as H dz z) (e : putD dx dy dz h = some h')
    (q : ∀ H' s', Ext as H as H' → HI (M.g X.K) h' as H' → Inv X pins σ H' s' → Q () s') : wpAny (model X.prog X.w) X.A (setItem ov iv zv) Q X.xe s := by
  cases dx with
  | ob n =>
    simp only [Rep] at r1
    obtain ⟨a, rfl, ea⟩ := r1
    cases rx
    simp only [putD] at e
    split at e
    · rename_i xs k e1
      obtain ⟨j, e2, e3⟩ := Option.map_eq_some_iff.mp e
      subst e3
      obtain ⟨vs, h1, hr⟩ := hi.ob n _ a e1 ea
      simp only [Rep] at r2
      subst r2
      refine wpAny_mono (set_list pins s σ H (.ref a) (.int k) z (Value.ref a) iv zv (fun H' => H' = upd H a (.lst (vs.set j z))) I rfl ry rz ⟨a, vs, k, j, rfl, rfl, h1, by rw [← hr.length]; exact e2, rfl⟩) ?_ (fun _ _ x => x)
      rintro _ s' ⟨H', I', rfl⟩
      have ex := ext_set (o := HO.lst (vs.set j z)) ea h1 (fun _ => by intro z; cases z) (fun _ _ => by intro z; cases z)
      exact q _ s' ex (hi.set ea h1 (fun _ => by intro z; cases z) (fun _ _ => by intro z; cases z) ⟨_, upd_same, (Reps.set r3 j hr).mono ex⟩) I'
    · rename_i dy2 _ _ t kvs e1
      split at e
      · rename_i hk
        simp only [Bool.and_eq_true, decide_eq_true_eq] at hk
        cases e
        cases t with
        | false =>
          obtain ⟨kv, h1, h2⟩ := hi.ob n _ a e1 ea
          simp only [lkd, Bool.false_eq_true, if_false] at h1
          have hk1 := hk.1
          simp only [okK, Bool.false_eq_true, if_false, Bool.and_eq_true] at hk1
          obtain ⟨ky, hy⟩ := isK_key hk1.1
          rw [Rep.keyK_v hy r2] at ry
          refine d_setItem (by omega) I (DPut.k (k := ky) (v := z) h1 (by rw [← h2.length]; exact hk.2)) ry rz fun s' I' => ?_
          have ex := ext_set (o := HO.dK (putK kv ky z)) ea h1 (fun _ => by intro z; cases z) (fun _ _ => by intro z; cases z)
          refine q _ s' ex (hi.set ea h1 (fun _ => by intro z; cases z) (fun _ _ => by intro z; cases z) ⟨_, ?_, (RepKV.put (fun a b => eqv_key a b) hy r3 h2).mono ex⟩) I'
          simp only [lkd, Bool.false_eq_true, if_false]; exact upd_same
        | true =>
          obtain ⟨kv, h1, h2⟩ := hi.ob n _ a e1 ea
          simp only [lkd, Bool.false_eq_true, if_false] at h1
          have hk1 := hk.1
          simp only [okK, if_true, Bool.and_eq_true] at hk1
          obtain ⟨ky, hy⟩ := isT_key hk1.1
          cases dy2 with
          | tup ds =>
            simp only [Rep] at r2
            obtain ⟨b, ws, rfl, hb, hr⟩ := r2
            rw [Rep.keyT_ref hy hr] at hb
            refine d_setItem (by omega) I (DPut.t (k := ky) (v := z) h1 hb (by rw [← h2.length]; exact hk.2)) ry rz fun s' I' => ?_
            have ex := ext_set (o := HO.dT (putK kv ky z)) ea h1 (fun _ => by intro z; cases z) (fun _ _ => by intro z; cases z)
            refine q _ s' ex (hi.set ea h1 (fun _ => by intro z; cases z) (fun _ _ => by intro z; cases z) ⟨_, ?_, (RepKV.put (fun a b => eqv_keyT a b) hy r3 h2).mono ex⟩) I'
            simp only [lkd, Bool.false_eq_true, if_false]; exact upd_same
          | _ => simp [keyT] at hy
      · cases e
    · cases e
  | _ => simp [putD] at e
end
end Rf
end

section
namespace L2
open PySem PySem.Spec PyProof.Rows
section
variable {X : Cx}
/-- tuple(l): the tuple that is made has no dict of its own -/
theorem call_ptup : CallR X (.type "tuple") (fun xs H Q => ∃ p ys, xs = [.ref p] ∧ SqL X.K H p ys ∧ ∀ l (o : Obj), H l = none → o.dict = none → o.cls = .type "tuple" → Q (.ref l) (upd H l (.frz o (.tup ys)))) := by
  intro pins s σ H xs us Q I r h
  obtain ⟨p, ys, rfl, hq, q⟩ := h
  obtain ⟨u, rfl, rx⟩ := vals1 r
  cases rx
  obtain ⟨its, r', pl, hz⟩ := I.list hq
  have hlen := r'.length
  refine call_tuple_list pl.isList (fun h' kp => ?_) (by simp only [List.size_toArray] <;> omega)
  have I1 : Inv X pins σ H { s with heap := h' } := I.kept (t' := s.toks) kp
  have I2 : Inv X pins σ (upd H h'.objs.size (.frz { cls := .type "tuple", data := .seq its.toArray } (.tup ys))) { s with heap := h'.push { cls := .type "tuple", data := .seq its.toArray } } :=
    I1.laid (t' := s.toks) (fun b o e => Heap.get?_push_of_some _ e) (Nat.le_refl _) (show ObjOk X.prog X.w _ _ _ (.frz _ (.tup ys)) from ⟨Heap.get?_push_size _ rfl, hz, its, r', IsTup.new _ _⟩)
  exact ⟨.ref h'.objs.size, _, I2, rfl, q _ _ (I1.hok.fresh (Nat.le_refl _)) rfl rfl⟩
/-- dict(t) of a tuple of pairs -/
theorem call_dictPT (hcalm : X.calm = true) : CallR X (.type "dict") (fun xs H Q => ∃ (a : Addr) (o : Obj) (ps : List Addr) (kvs : List (Key × V)), xs = [.ref a] ∧ H a = some (.frz o (.tup (ps.map V.ref))) ∧ o.dict = none ∧ o.cls = .type "tuple" ∧ Paired (fun p kv => SqT X.K H p [kV kv.1, kv.2]) ps kvs ∧
    ∀ p, H p = none → Q (.ref p) (upd H p (.dK (mergeK [] kvs)))) := by
  intro pins s σ H xs us Q I r q
  obtain ⟨a, o, ps, kvs, ex, hq, hd0, hc0, hp, q⟩ := q
  subst ex
  obtain ⟨u, eu, rx⟩ := vals1 r
  subst eu
  cases rx
  obtain ⟨ho, hz, its, rv, o', ho', hc', n, hdat⟩ := I.hok a _ hq
  rw [ho] at ho'
  cases ho'
  have ei := refs_at rv
  subst ei
  rw [List.length_map] at hz
  obtain ⟨prs, rel, hl, hpr⟩ := pairs_of I hp
  have ch : ∀ j : Nat, ∃ bu : Addr × Value, ∀ q, prs[j]? = some q → ps[j]? = some bu.1 ∧ IsTup s.heap bu.1 #[bu.2, q.2] ∧ keyIs q.1 bu.2 = true := by
    intro j
    cases e : prs[j]? with
    | none => exact ⟨(0, .none), fun q h => by cases h⟩
    | some q =>
      obtain ⟨b, u, e1, e2, e3⟩ := hpr j q e
      exact ⟨(b, u), fun q' h => by cases h; exact ⟨e1, e2, e3⟩⟩
  obtain ⟨f, hf⟩ := Classical.axiomOfChoice ch
  obtain ⟨pp, epp⟩ : ∃ pp : List (Value × Value), pp = (List.range prs.length).map fun j => ((f j).2, (prs.getD j (.inl 0, .none)).2) := ⟨_, rfl⟩
  have lpp : pp.length = prs.length := by rw [epp]; simp
  have ppj : ∀ j k v, pp[j]? = some (k, v) → ∃ q, prs[j]? = some q ∧ k = (f j).2 ∧ v = q.2 := by
    intro j k v e
    rw [epp, List.getElem?_map] at e
    have hj : j < prs.length := by
      have := (List.getElem?_eq_some_iff.mp (show (pp)[j]? = some (k, v) by rw [epp, List.getElem?_map]; exact e)).1
      omega
    rw [List.getElem?_range hj] at e
    simp only [Option.map_some, Option.some.injEq, Prod.mk.injEq] at e
    refine ⟨prs[j], List.getElem?_eq_getElem hj, e.1.symm, ?_⟩
    rw [← e.2]
    simp [List.getD, List.getElem?_eq_getElem hj]
  refine PySem.call_dict_pairs (knd := mixKind X.prog X.w) (kvs := prs) (PySem.PairArg.tuple (prog := X.prog) (w := X.w) a (ps.map Value.ref).toArray (fun j => (f j).1) pp) (I.ok.hd hcalm) ⟨⟨o, n, ho, hc', hd0, hdat⟩, by simp [lpp, hl], fun j k v e => ?_⟩ ⟨lpp.symm, fun j key v e => ?_⟩ (by rw [lpp, hl]; exact hz) fun h' tk hd' k => ?_
  · obtain ⟨q, e1, rfl, rfl⟩ := ppj j k v e
    obtain ⟨g1, g2, g3⟩ := hf j q e1
    exact ⟨by simp [g1], .inl g2⟩
  · obtain ⟨q, e1, rfl, rfl⟩ := ppj j key v e
    obtain ⟨g1, g2, g3⟩ := hf j q e1
    exact ⟨q.1, e1, g3⟩
  · have hm : (s.heap.objs.size == sysModules) = false := beq_eq_false_iff_ne.mpr (Nat.ne_of_gt I.big)
    have hlen : (mergeK [] kvs).length ≤ sizeLine := by
      refine Nat.le_trans (length_mergeK kvs []) ?_
      rw [List.length_nil, Nat.zero_add, rel.length, hl]
      exact hz
    exact ⟨.ref s.heap.objs.size, upd H s.heap.objs.size (.dK (mergeK [] kvs)), I.laid (t' := tk) (fun b o e => k b o (by simp) e) (Nat.le_refl _) (show ObjOk X.prog X.w _ _ _ (.dK (mergeK [] kvs)) from ⟨hlen, hm, merged [] prs, KV.merge rel .nil, hd'⟩), rfl, q _ (I.hok.fresh (Nat.le_refl _))⟩
end
end L2
end

section
namespace Rf
open PySem PySem.Spec PyProof.Rows L2

theorem Reps.cons_inv {G : Gx} {as H} {d : D} {ds : List D} {vs : List V} (h : Reps G as H (d :: ds) vs) : ∃ v r, vs = v :: r ∧ Rep G as H d v ∧ Reps G as H ds r := by
  simpa only [Reps] using h
theorem Reps.nil_inv {G : Gx} {as H} {vs : List V} (h : Reps G as H [] vs) : vs = [] := by
  simpa only [Reps] using h
section
variable {X : Cx} {M : Mx} {Wx : WX} {pins : List (Addr × Obj)} {s : Shared} {σ : L2.St} {H : Hp}
def rBl (M : Mx) (K : PySem.W.Frag) (Wx : WX) (σ : L2.St) (b : Bf) : List V → Hp → VK → Prop := fun xs H Q => ∃ ds h as, HI (M.g K) h as H ∧ Reps (M.g K) as H ds xs ∧ post (M.g K) Wx (Rep (M.g K)) as H σ (bltD b ds h) Q
theorem one_of {σ' : L2.St} {b : Bf} {xs : List V} {H : Hp} {Q : VK} (h : rBl M X.K Wx σ' b xs H Q) : ∃ ds h as, HI (M.g X.K) h as H ∧ Reps (M.g X.K) as H ds xs ∧ post (M.g X.K) Wx (Rep (M.g X.K)) as H σ' (bltD b ds h) Q := h
theorem bl_len (σ' : L2.St) : CallR X (.builtin "len") (rBl M X.K Wx σ' .len) := by
  intro pins s σ H xs us Q I r hh
  obtain ⟨ds, h, as, hi, rs, p⟩ := hh
  match ds with
  | [] => exact p.elim
  | d0 :: _ :: _ => cases d0 <;> exact p.elim
  | [d] =>
    obtain ⟨v, _, rfl, r1, rn⟩ := rs.cons_inv
    obtain rfl := rn.nil_inv
    cases d with
    | tup ys =>
      simp only [Rep] at r1
      obtain ⟨a, vs, rfl, h1, hr⟩ := r1
      refine call_len_seq pins s σ H _ us Q I r ⟨a, vs, rfl, .inr (SqT.of h1), ?_⟩
      rw [← hr.length]
      exact p _ as H Ext.refl hi (by simp only [Rep])
    | str z =>
      simp only [Rep] at r1
      subst r1
      simp only [bltD] at p
      split at p
      · rename_i hz
        refine call_len_str pins s σ H _ us Q I r ⟨st z, rfl, by rw [st_len]; exact hz, ?_⟩
        rw [st_len]
        exact p _ as H Ext.refl hi (by simp only [Rep])
      · exact p.elim
    | ob n =>
      simp only [Rep] at r1
      obtain ⟨a, rfl, ea⟩ := r1
      simp only [bltD] at p
      split at p
      · rename_i ys e1
        obtain ⟨vs, h1, h2⟩ := lst_of hi (.inl e1) ea
        refine call_len_seq pins s σ H _ us Q I r ⟨a, vs, rfl, .inl h1, ?_⟩
        rw [← h2.length]
        exact p _ as H Ext.refl hi (by simp only [Rep])
      · rename_i ys e1
        obtain ⟨vs, h1, h2⟩ := lst_of hi (.inr ⟨ys, e1, rfl⟩) ea
        refine call_len_seq pins s σ H _ us Q I r ⟨a, vs, rfl, .inl h1, ?_⟩
        rw [← h2.length, List.length_map]
        exact p _ as H Ext.refl hi (by simp only [Rep])
      · rename_i lk kvs e1
        obtain ⟨kv, h1, h2⟩ := hi.ob n _ a e1 ea
        obtain ⟨u, rfl, ru⟩ := Vals.one r
        cases ru
        refine d_len I h1.rd fun t s' I' => ⟨.int kv.length, H, I', ⟨t, rfl⟩, ?_⟩
        rw [← h2.length]
        exact p _ as H Ext.refl hi (by simp only [Rep])
      · rename_i kvs e1
        obtain ⟨kv, h1, h2⟩ := hi.ob n _ a e1 ea
        simp only [lkd, Bool.false_eq_true, if_false] at h1
        refine call_len_dT pins s σ H _ us Q I r ⟨a, kv, rfl, h1, ?_⟩
        rw [← h2.length]
        exact p _ as H Ext.refl hi (by simp only [Rep])
      · exact p.elim
    | _ => exact p.elim
theorem bl_abs (σ' : L2.St) : CallR X (.builtin "abs") (rBl M X.K Wx σ' .abs) := by
  intro pins s σ H xs us Q I r hh
  obtain ⟨ds, h, as, hi, rs, p⟩ := hh
  match ds with
  | [] => exact p.elim
  | d0 :: _ :: _ => cases d0 <;> exact p.elim
  | [d] =>
    obtain ⟨v, _, rfl, r1, rn⟩ := rs.cons_inv
    obtain rfl := rn.nil_inv
    cases d with
    | int i =>
      simp only [Rep] at r1; subst r1
      exact call_abs pins s σ H _ us Q I r ⟨i, rfl, p _ as H Ext.refl hi (by simp only [Rep])⟩
    | _ => exact p.elim
theorem bl_int (σ' : L2.St) : CallR X (.type "int") (rBl M X.K Wx σ' .int) := by
  intro pins s σ H xs us Q I r hh
  obtain ⟨ds, h, as, hi, rs, p⟩ := hh
  match ds with
  | [] => exact p.elim
  | d0 :: _ :: _ => cases d0 <;> exact p.elim
  | [d] =>
    obtain ⟨v, _, rfl, r1, rn⟩ := rs.cons_inv
    obtain rfl := rn.nil_inv
    cases d with
    | int i =>
      simp only [Rep] at r1; subst r1
      exact call_int1 pins s σ H _ us Q I r (.inl ⟨i, rfl, p _ as H Ext.refl hi (by simp only [Rep])⟩)
    | bl i =>
      simp only [Rep] at r1; subst r1
      exact call_int1 pins s σ H _ us Q I r (.inr ⟨i, rfl, p _ as H Ext.refl hi (by simp only [Rep])⟩)
    | str z =>
      simp only [bltD] at p
      split at p
      · rename_i k e
        split at p
        · rename_i hl
          simp only [Rep] at r1; subst r1
          exact call_int_str pins s σ H _ us Q I r ⟨_, k, rfl, e, by simpa [st, Str.length] using hl, p _ as H Ext.refl hi (by simp only [Rep])⟩
        · exact p.elim
      · exact p.elim
    | _ => exact p.elim
theorem bl_str (σ' : L2.St) : CallR X (.type "str") (rBl M X.K Wx σ' .str) := by
  intro pins s σ H xs us Q I r hh
  obtain ⟨ds, h, as, hi, rs, p⟩ := hh
  match ds with
  | [] => exact p.elim
  | d0 :: _ :: _ => cases d0 <;> exact p.elim
  | [d] =>
    obtain ⟨v, _, rfl, r1, rn⟩ := rs.cons_inv
    obtain rfl := rn.nil_inv
    cases d with
    | int i =>
      simp only [bltD] at p
      split at p
      · rename_i hl
        simp only [Rep] at r1; subst r1
        refine call_str_int pins s σ H _ us Q I r ⟨i, rfl, hl, p _ as H Ext.refl hi ?_⟩
        simp only [Rep]
        exact congrArg V.str (ofString_st _)
      · exact p.elim
    | str z =>
      simp only [bltD] at p
      simp only [Rep] at r1; subst r1
      exact SkE.call_str_str pins s σ H _ us Q I r ⟨_, rfl, p _ as H Ext.refl hi (by simp only [Rep])⟩
    | bl b =>
      simp only [bltD] at p
      simp only [Rep] at r1; subst r1
      obtain ⟨u, rfl, ru⟩ := Vals.one r
      cases ru
      refine PySem.P.str_of_bool ⟨.str (st (if b then ['T', 'r', 'u', 'e'] else ['F', 'a', 'l', 's', 'e'])), H, I.tok _, ⟨s.toks, ?_⟩, p _ as H Ext.refl hi (by simp only [Rep])⟩
      cases b <;> rfl
    | _ => exact p.elim
theorem blsOf_map : ∀ {ds : List D} {bs : List Bool} {G : Gx} {as : List Addr} {H : Hp} {vs : List V}, blsOf ds = some bs → Reps G as H ds vs → vs = bs.map V.bl
  | [], bs, G, as, H, vs, e, r => by
    simp only [blsOf, Option.some.injEq] at e
    subst e
    exact r.nil_inv
  | d :: ds, bs, G, as, H, vs, e, r => by
    cases d <;> try (simp only [blsOf, reduceCtorEq] at e; done)
    rename_i b
    simp only [blsOf] at e
    obtain ⟨bs', e', rfl⟩ := Option.map_eq_some_iff.mp e
    obtain ⟨v, r', rfl, r1, r2⟩ := r.cons_inv
    simp only [Rep] at r1
    subst r1
    rw [blsOf_map e' r2]
    rfl
theorem bl_all (hc : X.calm = true) (σ' : L2.St) : CallR X (.builtin "all") (rBl M X.K Wx σ' .all) := by
  intro pins s σ H xs us Q I r hh
  obtain ⟨ds, h, as, hi, rs, p⟩ := hh
  match ds with
  | [] => exact p.elim
  | d0 :: _ :: _ => cases d0 <;> exact p.elim
  | [d] =>
    obtain ⟨v, _, rfl, r1, rn⟩ := rs.cons_inv
    obtain rfl := rn.nil_inv
    cases d with
    | ob n =>
      simp only [Rep] at r1
      obtain ⟨a, rfl, ea⟩ := r1
      simp only [bltD] at p
      split at p
      · rename_i ys e1
        split at p
        · rename_i bs eb
          obtain ⟨vs, h1, h2⟩ := hi.ob n _ a e1 ea
          obtain rfl := blsOf_map eb h2
          exact cr_all hc pins s σ H _ us Q I r ⟨a, bs, rfl, SqL.of h1, p _ as H Ext.refl hi (by simp only [Rep])⟩
        · exact p.elim
      · exact p.elim
    | _ => exact p.elim
theorem bl_tuple (σ' : L2.St) : CallR X (.type "tuple") (rBl M X.K Wx σ' .tuple) := by
  intro pins s σ H xs us Q I r hh
  obtain ⟨ds, h, as, hi, rs, p⟩ := hh
  match ds with
  | [] => exact p.elim
  | d0 :: _ :: _ => cases d0 <;> exact p.elim
  | [d] =>
    obtain ⟨v, _, rfl, r1, rn⟩ := rs.cons_inv
    obtain rfl := rn.nil_inv
    cases d with
    | tup ys =>
      have r1' := r1
      simp only [Rep] at r1
      obtain ⟨a, vs, rfl, h1, hr⟩ := r1
      exact call_tuple_of pins s σ H _ us Q I r ⟨a, vs, rfl, .inr ⟨SqT.of h1, p _ as H Ext.refl hi r1'⟩⟩
    | ob n =>
      simp only [Rep] at r1
      obtain ⟨a, rfl, ea⟩ := r1
      simp only [bltD] at p
      split at p
      · rename_i ys e1
        obtain ⟨vs, h1, h2⟩ := lst_of hi (.inl e1) ea
        refine call_tuple_of pins s σ H _ us Q I r ⟨a, vs, rfl, .inl ⟨h1, fun q hq => ?_⟩⟩
        refine p _ as _ (ext_tup hq) (hi.other hq) ?_
        simp only [Rep]
        exact ⟨q, vs, rfl, upd_same, h2.mono (ext_tup hq)⟩
      · exact p.elim
    | _ => exact p.elim
theorem bl_list (hc : X.calm = true) (σ' : L2.St) : CallR X (.type "list") (rBl M X.K Wx σ' .list) := by
  intro pins s σ H xs us Q I r hh
  obtain ⟨ds, h, as, hi, rs, p⟩ := hh
  match ds with
  | [] => exact p.elim
  | d0 :: _ :: _ => cases d0 <;> exact p.elim
  | [d] =>
    obtain ⟨v, _, rfl, r1, rn⟩ := rs.cons_inv
    obtain rfl := rn.nil_inv
    have go : ∀ {a : Addr} {vs : List V} {ys : List D}, v = .ref a → (SqL X.K H a vs ∨ SqT X.K H a vs) → Reps (M.g X.K) as H ys vs → post (M.g X.K) Wx (Rep (M.g X.K)) as H σ' (.ok (.ob h.length) (h ++ [.lst ys])) Q → wpAny (model X.prog X.w) X.A (call (.type "list") us) (EP X pins σ Q) X.xe s := by
      intro a vs ys e hq hr p
      subst e
      refine call_list_of pins s σ H _ us Q I r ⟨a, vs, rfl, hq, fun q hq => ?_⟩
      refine p _ (as ++ [q]) _ (ext_new hq) (hi.new hq ⟨_, upd_same, hr.mono (ext_new hq)⟩) ?_
      simp only [Rep]
      exact ⟨q, rfl, by rw [← hi.len]; simp⟩
    cases d with
    | tup ys =>
      simp only [Rep] at r1
      obtain ⟨a, vs, rfl, h1, hr⟩ := r1
      exact go rfl (.inr (SqT.of h1)) hr p
    | ob n =>
      simp only [Rep] at r1
      obtain ⟨a, rfl, ea⟩ := r1
      simp only [bltD] at p
      split at p
      · rename_i ys e1
        obtain ⟨vs, h1, h2⟩ := lst_of hi (.inl e1) ea
        exact go rfl (.inl h1) h2 p
      · rename_i ys e1
        obtain ⟨vs, h1, h2⟩ := lst_of hi (.inr ⟨ys, e1, rfl⟩) ea
        exact go rfl (.inl h1) h2 p
      · rename_i kvs e1
        obtain ⟨kv, h1, h2⟩ := hi.ob n _ a e1 ea
        simp only [lkd, Bool.false_eq_true, if_false] at h1
        refine call_list_dK hc pins s σ H _ us Q I r ⟨a, kv, rfl, h1, fun q hq => ?_⟩
        refine p _ (as ++ [q]) _ (ext_new hq) (hi.new hq ⟨_, upd_same, ?_⟩) ?_
        · have : ∀ {kvs : List (D × D)} {kv : List (Key × V)}, RepKV keyK (M.g X.K) as H kvs kv → Reps (M.g X.K) (as ++ [q]) (upd H q (.lst (kv.map fun p => kV p.1))) (kvs.map (·.1)) (kv.map fun p => kV p.1) := by
            intro kvs kv hh
            generalize hH : upd H q _ = H2
            clear hH
            induction hh with
            | nil => simp [Reps]
            | cons a b ih =>
              rename_i p1 p2 _ _
              simp only [List.map_cons, Reps]
              refine ⟨_, _, rfl, ?_, ih⟩
              obtain ⟨k1, _⟩ := p1
              obtain ⟨k2, _⟩ := p2
              obtain ⟨e, _⟩ := a
              simp only at e ⊢
              cases k1 <;> simp only [keyK, Option.some.injEq, reduceCtorEq] at e <;> subst e <;> simp only [Rep, kV]
          exact this h2
        · simp only [Rep]
          exact ⟨q, rfl, by rw [← hi.len]; simp⟩
      · exact p.elim
    | _ => exact p.elim
theorem RepKV.mrg {G : Gx} {as : List Addr} {H : Hp} : ∀ {ls ks : List (D × D)} {lv kv : List (Key × V)}, RepKV keyK G as H ls lv → RepKV keyK G as H ks kv → RepKV keyK G as H (kvMrg ks ls) (mergeK kv lv)
  | _, _, _, _, .nil, k => k
  | _ :: ls, ks, _ :: lv, kv, .cons h t, k => by
    show RepKV keyK G as H (kvMrg (kvPut ks _ _) ls) (mergeK (putK kv _ _) lv)
    exact RepKV.mrg t (RepKV.put (fun a b => eqv_key a b) h.1 h.2 k)
theorem prs_rep {G : Gx} {as : List Addr} {H : Hp} : ∀ {s : List D} {ps : List (D × D)} {vs : List V}, prsOf s = some ps → Reps G as H s vs → ∃ (bs : List Addr) (kv : List (Key × V)), vs = bs.map V.ref ∧ Paired (fun (b : Addr) (q : Key × V) => H b = some (.tup [kV q.1, q.2])) bs kv ∧ RepKV keyK G as H ps kv := by
  intro s
  induction s with
  | nil =>
    intro ps vs e r
    cases e
    obtain rfl := r.nil_inv
    exact ⟨[], [], rfl, .nil, .nil⟩
  | cons d s ih =>
    intro ps vs e r
    obtain ⟨v, r', rfl, r1, r2⟩ := r.cons_inv
    unfold prsOf at e
    split at e
    · cases ‹_ :: _ = []›
    · rename_i k w t heq
      cases heq
      split at e
      · rename_i hk
        cases e1 : prsOf s with
        | none => rw [e1] at e; cases e
        | some ps1 =>
          rw [e1] at e
          simp only [Option.map_some, Option.some.injEq] at e
          subst e
          obtain ⟨bs, kv, rfl, q1, q2⟩ := ih e1 r2
          simp only [Rep] at r1
          obtain ⟨a, us, rfl, h1, h2⟩ := r1
          obtain ⟨x, r3, rfl, h3, h4⟩ := h2.cons_inv
          obtain ⟨y, r5, rfl, h5, h6⟩ := h4.cons_inv
          obtain rfl := h6.nil_inv
          cases k <;> simp only [isK, Bool.false_eq_true] at hk
          · rename_i i
            simp only [Rep] at h3
            subst h3
            exact ⟨a :: bs, (.inl i, y) :: kv, rfl, .cons h1 q1, .cons ⟨rfl, h5⟩ q2⟩
          · rename_i z
            simp only [Rep] at h3
            subst h3
            exact ⟨a :: bs, (.inr (st z), y) :: kv, rfl, .cons h1 q1, .cons ⟨rfl, h5⟩ q2⟩
      · cases e
    · cases e
theorem pair_sqT {K : PySem.W.Frag} {H : Hp} : ∀ {bs : List Addr} {kv : List (Key × V)}, Paired (fun (b : Addr) (q : Key × V) => H b = some (.tup [kV q.1, q.2])) bs kv → Paired (fun (p : Addr) (q : Key × V) => SqT K H p [kV q.1, q.2]) bs kv := fun h => Paired.mapP h fun _ _ z => SqT.of z
theorem bl_ptup (σ' : L2.St) : CallR X (.type "tuple") (rBl M X.K Wx σ' .ptup) := by
  intro pins s σ H xs us Q I r hh
  obtain ⟨ds, h, as, hi, rs, p⟩ := hh
  match ds with
  | [] => exact p.elim
  | d0 :: _ :: _ => cases d0 <;> exact p.elim
  | [d] =>
    obtain ⟨v, _, rfl, r1, rn⟩ := rs.cons_inv
    obtain rfl := rn.nil_inv
    cases d with
    | ob n =>
      simp only [Rep] at r1
      obtain ⟨a, rfl, ea⟩ := r1
      simp only [bltD] at p
      split at p
      · rename_i ys e1
        obtain ⟨vs, h1, h2⟩ := lst_of hi (.inl e1) ea
        refine call_ptup pins s σ H _ us Q I r ⟨a, vs, rfl, h1, fun q o hq hd hc => ?_⟩
        refine p _ (as ++ [q]) _ (ext_new hq) (hi.new hq ⟨o, vs, upd_same, hd, hc, h2.mono (ext_new hq)⟩) ?_
        simp only [Rep]
        exact ⟨q, rfl, by rw [← hi.len]; simp⟩
      · exact p.elim
    | _ => exact p.elim
theorem bl_dict (hcalm : X.calm = true) (σ' : L2.St) : CallR X (.type "dict") (rBl M X.K Wx σ' .dict) := by
  intro pins s σ H xs us Q I r hh
  obtain ⟨ds, h, as, hi, rs, p⟩ := hh
  match ds with
  | [] => exact p.elim
  | d0 :: _ :: _ => cases d0 <;> exact p.elim
  | [d] =>
    obtain ⟨v, _, rfl, r1, rn⟩ := rs.cons_inv
    obtain rfl := rn.nil_inv
    cases d with
    | ob n =>
      simp only [Rep] at r1
      obtain ⟨a, rfl, ea⟩ := r1
      simp only [bltD] at p
      split at p
      · rename_i lk kvs e1
        obtain ⟨kv, h1, h2⟩ := hi.ob n _ a e1 ea
        refine call_dictD pins s σ H _ us Q I r ⟨a, kv, rfl, h1.rd, fun q hq => ?_⟩
        refine p _ (as ++ [q]) _ (ext_new hq) (hi.new hq ⟨kv, ?_, ?_⟩) ?_
        · simp only [lkd, Bool.false_eq_true, if_false]; exact upd_same
        · exact Paired.mapP h2 fun _ _ z => ⟨z.1, z.2.mono (ext_new hq)⟩
        · simp only [Rep]
          exact ⟨q, rfl, by rw [← hi.len]; simp⟩
      · rename_i ds e1
        obtain ⟨o, vs, h1, h2, h3, h4⟩ := hi.ob n _ a e1 ea
        split at p
        · rename_i ps e2
          obtain ⟨bs, kv, rfl, q1, q2⟩ := prs_rep e2 h4
          refine call_dictPT hcalm pins s σ H _ us Q I r ⟨a, o, bs, kv, rfl, h1, h2, h3, pair_sqT q1, fun q hq => ?_⟩
          refine p _ (as ++ [q]) _ (ext_new hq) (hi.new hq ⟨mergeK [] kv, ?_, ?_⟩) ?_
          · simp only [lkd, Bool.false_eq_true, if_false]; exact upd_same
          · exact (RepKV.mrg q2 .nil).mono (ext_new hq)
          · simp only [Rep]
            exact ⟨q, rfl, by rw [← hi.len]; simp⟩
        · exact p.elim
      · rename_i ds e1
        obtain ⟨vs, h1, h4⟩ := lst_of hi (.inl e1) ea
        split at p
        · rename_i ps e2
          obtain ⟨bs, kv, rfl, q1, q2⟩ := prs_rep e2 h4
          refine call_dictP hcalm pins s σ H _ us Q I r ⟨a, bs, kv, rfl, h1, pair_sqT q1, fun q hq => ?_⟩
          refine p _ (as ++ [q]) _ (ext_new hq) (hi.new hq ⟨mergeK [] kv, ?_, ?_⟩) ?_
          · simp only [lkd, Bool.false_eq_true, if_false]; exact upd_same
          · exact (RepKV.mrg q2 .nil).mono (ext_new hq)
          · simp only [Rep]
            exact ⟨q, rfl, by rw [← hi.len]; simp⟩
        · exact p.elim
      · exact p.elim
    | _ => exact p.elim
theorem bl_mm (hc : X.calm = true) (σ' : L2.St) : CallR X (.builtin "min") (rBl M X.K Wx σ' .min2) ∧ CallR X (.builtin "max") (rBl M X.K Wx σ' .max2) := by
  constructor
  all_goals
    intro pins s σ H xs us Q I r hh
    obtain ⟨ds, h, as, hi, rs, p⟩ := hh
    match ds with
    | [] => exact p.elim
    | [d] => cases d <;> exact p.elim
    | _ :: _ :: _ :: _ => rename_i a b _ _; cases a <;> cases b <;> exact p.elim
    | [d, d'] =>
      obtain ⟨v, _, rfl, r1, rn⟩ := rs.cons_inv
      obtain ⟨v', _, rfl, r2, rn⟩ := rn.cons_inv
      obtain rfl := rn.nil_inv
      cases d <;> cases d' <;> try exact p.elim
      simp only [Rep] at r1 r2
      subst r1 r2
      first
        | exact call_min2 hc pins s σ H _ us Q I r ⟨_, _, rfl, p _ as H Ext.refl hi (by simp only [Rep])⟩
        | exact call_max2 hc pins s σ H _ us Q I r ⟨_, _, rfl, p _ as H Ext.refl hi (by simp only [Rep])⟩
/-- isinstance with a built-in class -/
def tyOfB : Bf → Option String
  | .isList => some "list" | .isDict => some "dict" | .isTup => some "tuple" | .isStr => some "str" | .isBool => some "bool" | .isInt => some "int" | _ => none
def rIs (M : Mx) (K : PySem.W.Frag) (Wx : WX) (σ : L2.St) (b : Bf) (T : String) : List V → Hp → VK → Prop := fun xs H Q => ∃ x d h as, xs = [x, .ty T] ∧ HI (M.g K) h as H ∧ Rep (M.g K) as H d x ∧ post (M.g K) Wx (Rep (M.g K)) as H σ (bltD b [d] h) Q
theorem bl_is {b : Bf} {T : String} (hb : tyOfB b = some T) (σ' : L2.St) : CallR X (.builtin "isinstance") (rIs M X.K Wx σ' b T) := by
  intro pins s σ H xs us Q I r hh
  obtain ⟨x, d, h, as, rfl, hi, r1, p⟩ := hh
  have go : ∀ {t : String} {k : Bool}, TyOf X.K H x (.type t) → kitB t T = some k → post (M.g X.K) Wx (Rep (M.g X.K)) as H σ' (.ok (.bl k) h) Q → wpAny (model X.prog X.w) X.A (call (.builtin "isinstance") us) (EP X pins σ Q) X.xe s := by
    intro t k ty hk p
    exact call_isi pins s σ H _ us Q I r ⟨x, .ty T, .type t, .type T, k, rfl, .ty T, .base ty, kit_ty hk, p _ as H Ext.refl hi (by simp only [Rep])⟩
  have ob : ∀ {n : Nat} {l k : Bool}, kitB "list" T = some l → kitB "dict" T = some k → d = .ob n → post (M.g X.K) Wx (Rep (M.g X.K)) as H σ' (isObB h n l k) Q → wpAny (model X.prog X.w) X.A (call (.builtin "isinstance") us) (EP X pins σ Q) X.xe s := by
    intro n l k h1 h2 e pp
    subst e
    simp only [Rep] at r1
    obtain ⟨a, rfl, ea⟩ := r1
    simp only [isObB] at pp
    split at pp
    · rename_i e1
      obtain ⟨vs, q1, _⟩ := hi.ob n _ a e1 ea
      exact go (TyOf.lst q1) h1 pp
    · rename_i t kvs e1
      cases t with
      | false =>
        obtain ⟨kv, q1, _⟩ := hi.ob n _ a e1 ea
        simp only [lkd, Bool.false_eq_true, if_false] at q1
        exact go (TyOf.dK q1) h2 pp
      | true =>
        obtain ⟨kv, q1, _⟩ := hi.ob n _ a e1 ea
        simp only [lkd, Bool.false_eq_true, if_false] at q1
        exact go (TyOf.dT q1) h2 pp
    · exact pp.elim
  cases b <;> simp only [tyOfB, Option.some.injEq, reduceCtorEq] at hb <;> subst hb <;> cases d <;> first | exact p.elim | exact ob (by decide +kernel) (by decide +kernel) rfl p | (simp only [Rep] at r1)
  all_goals first
    | (subst r1; exact go TyOf.non (by decide +kernel) p)
    | (subst r1; exact go (TyOf.bl _) (by decide +kernel) p)
    | (subst r1; exact go (TyOf.int _) (by decide +kernel) p)
    | (subst r1; exact go (TyOf.str _) (by decide +kernel) p)
    | (obtain ⟨a, vs, rfl, h1, hr⟩ := r1; exact go (TyOf.tup h1) (by decide +kernel) p)
end
end Rf
end

section
namespace Rf
open PySem PySem.Spec PyProof.Rows L2

/-! ## repr -/
theorem plC_range {c : Char} (h : plC c = true) : 32 ≤ c.toNat ∧ c.toNat < 127 ∧ c.toNat ≠ 39 ∧ c.toNat ≠ 92 := by
  simp only [plC, Bool.and_eq_true, decide_eq_true_eq] at h
  exact ⟨h.1.1.1, h.1.1.2, h.1.2, h.2⟩
theorem reprChar_all : (List.range 127).all (fun c => decide (c < 32) || c == 39 || c == 92 || decide (Builtin.Str.reprChar 39 c = [c])) = true := by decide +kernel
theorem reprChar_pl {c : Char} (h : plC c = true) : Builtin.Str.reprChar 39 c.toNat = [c.toNat] := by
  obtain ⟨h1, h2, h3, h4⟩ := plC_range h
  have := List.all_eq_true.mp reprChar_all c.toNat (List.mem_range.mpr h2)
  simp only [Bool.or_eq_true, decide_eq_true_eq, beq_iff_eq] at this
  rcases this with ((q | q) | q) | q
  · omega
  · exact absurd q h3
  · exact absurd q h4
  · exact q
theorem reprFold : ∀ (s : List Char) (acc : Array Nat), s.all plC = true → (s.map Char.toNat).foldl (fun out c => out ++ (Builtin.Str.reprChar 39 c).toArray) acc = acc ++ (s.map Char.toNat).toArray
  | [], acc, _ => by simp
  | c :: s, acc, h => by
    simp only [List.all_cons, Bool.and_eq_true] at h
    rw [List.map_cons, List.foldl_cons, reprChar_pl h.1, reprFold s _ h.2]
    simp
theorem repr_str {s : List Char} (h : s.all plC = true) : reprText (st s) = st ('\'' :: s ++ ['\'']) := by
  have hq : reprQuote (st s) = 39 := by
    unfold reprQuote
    have : (st s).cps.contains 39 = false := by
      rw [Bool.eq_false_iff]
      intro hc
      rw [Array.contains_iff_mem] at hc
      unfold st at hc
      rw [List.mem_toArray, List.mem_map] at hc
      obtain ⟨c, hc, e⟩ := hc
      exact (plC_range (List.all_eq_true.mp h c hc)).2.2.1 e
    rw [this]; rfl
  unfold reprText
  rw [hq]
  have e : ((st s).cps.foldl (fun out c => out ++ (Builtin.Str.reprChar 39 c).toArray) #[39]) = #[39] ++ (s.map Char.toNat).toArray := by
    unfold st
    rw [← Array.foldl_toList]
    exact reprFold s _ h
  rw [e]
  unfold st
  simp
theorem st_app (a b : List Char) : st a ++ st b = st (a ++ b) := by
  show (⟨(st a).cps ++ (st b).cps⟩ : Str) = _
  simp [st]
theorem join_st : ∀ ts : List (List Char), Str.join ", " (ts.map st) = st (joinC ts)
  | [] => by show (Str.empty : Str) = _; rfl
  | [x] => by simp only [List.map_cons, List.map_nil, joinC]; rfl
  | x :: y :: r => by
    have ih := join_st (y :: r)
    simp only [List.map_cons] at ih ⊢
    show (st x ++ (", " : Str) ++ Str.join ", " (st y :: r.map st) : Str) = _
    rw [ih]
    have e : ((", " : String) : Str) = st [',', ' '] := by decide +kernel
    rw [e, st_app, st_app]
    simp [joinC]
mutual
theorem shown_st : ∀ d : D, rpOk d = true → (toPy d).shown = st (rp d)
  | .non, _ => by simp only [toPy, PyData.shown, rp]; decide +kernel
  | .bl true, _ => by simp only [toPy, PyData.shown, rp]; decide +kernel
  | .bl false, _ => by simp only [toPy, PyData.shown, rp]; decide +kernel
  | .int i, _ => by simp only [toPy, PyData.shown, rp]; exact ofString_st _
  | .str s, h => by
    simp only [rpOk] at h
    simp only [toPy, PyData.shown, rp]
    exact repr_str h
  | .tup xs, h => by
    simp only [rpOk] at h
    simp only [toPy, PyData.shown, showns_st xs h]
    unfold tupleText
    have e0 : ((")" : String) : Str) = st [')'] := by decide +kernel
    have e1 : ((",)" : String) : Str) = st [',', ')'] := by decide +kernel
    have e2 : (("(" : String) : Str) = st ['('] := by decide +kernel
    rw [join_st, e2]
    match xs with
    | [] => simp only [rp, rps, List.map_nil]; rw [st_app, if_neg (by decide), e0, st_app]; rfl
    | [x] => simp only [rp, rps, List.map_cons, List.map_nil]; rw [st_app, if_pos (show ([st (rp x)].length == 1) = true from rfl), e1, st_app]; rfl
    | x :: y :: r =>
      simp only [rp, rps, List.map_cons]
      rw [st_app, if_neg (by simp), e0, st_app]; rfl
  | .ob _, h => by simp [rpOk] at h
  | .fn _, h => by simp [rpOk] at h
  | .con _, h => by simp [rpOk] at h
theorem showns_st : ∀ ds : List D, rpsOk ds = true → PyData.shownAll (toPys ds) = (rps ds).map st
  | [], _ => by simp [toPys, PyData.shownAll, rps]
  | d :: ds, h => by
    simp only [rpsOk, Bool.and_eq_true] at h
    simp only [toPys, PyData.shownAll, rps, List.map_cons, shown_st d h.1, showns_st ds h.2]
end
mutual
theorem rpOk_ok : ∀ d : D, rpOk d = true → pur d = true ∧ (toPy d).showable = true ∧ (toPy d).hasDict = false
  | .non, _ => by simp [pur, toPy, PyData.showable, PyData.hasDict]
  | .bl _, _ => by simp [pur, toPy, PyData.showable, PyData.hasDict]
  | .int i, h => by simp only [rpOk] at h; simp [pur, toPy, PyData.showable, PyData.hasDict, of_decide_eq_true h]
  | .str _, _ => by simp [pur, toPy, PyData.showable, PyData.hasDict]
  | .tup xs, h => by
    simp only [rpOk] at h
    simp only [pur, toPy, PyData.showable, PyData.hasDict]
    exact rpsOk_ok xs h
  | .ob _, h => by simp [rpOk] at h
  | .fn _, h => by simp [rpOk] at h
  | .con _, h => by simp [rpOk] at h
theorem rpsOk_ok : ∀ ds : List D, rpsOk ds = true → purs ds = true ∧ PyData.showableAll (toPys ds) = true ∧ PyData.hasDictAll (toPys ds) = false
  | [], _ => by simp [purs, toPys, PyData.showableAll, PyData.hasDictAll]
  | d :: ds, h => by
    simp only [rpsOk, Bool.and_eq_true] at h
    obtain ⟨a1, a2, a3⟩ := rpOk_ok d h.1
    obtain ⟨b1, b2, b3⟩ := rpsOk_ok ds h.2
    simp [purs, toPys, PyData.showableAll, PyData.hasDictAll, a1, a2, a3, b1, b2, b3]
end
section
variable {X : Cx} {M : Mx} {Wx : WX}
theorem bl_repr (hg : X.A.guards = some []) (hu : X.A.units + 200 < cLine) (σ' : L2.St) : CallR X (.builtin "repr") (rBl M X.K Wx σ' .repr) := by
  intro pins s σ H xs us Q I r hh
  obtain ⟨ds, h, as, hi, rs, p⟩ := hh
  simp only [bltD] at p
  match ds with
  | [] => exact p.elim
  | d :: _ :: _ => cases d <;> exact p.elim
  | [d] =>
    obtain ⟨v, _, rfl, r1, rn⟩ := rs.cons_inv
    obtain rfl := rn.nil_inv
    cases d <;> try (exact p.elim)
    rename_i xs
    obtain ⟨d, hd⟩ : ∃ d, d = D.tup xs := ⟨_, rfl⟩
    simp only [← hd] at p r1
    split at p
    · rename_i hc
      simp only [Bool.and_eq_true, decide_eq_true_eq] at hc
      obtain ⟨⟨h1, h2⟩, h3⟩ := hc
      obtain ⟨k1, k2, k3⟩ := rpOk_ok d h1
      obtain ⟨u, rfl, ru⟩ := Vals.one r
      have dp := Rep.dp (G := M.g X.K) k1 r1
      obtain ⟨bs, rd⟩ := dp.reads I _ _ _ ru
      have sh := shown_st d h1
      have fin : ∀ (h' : Heap) (t tk : Tok), (∀ b o, s.heap.get? b = some o → h'.get? b = some o) → EP X pins σ Q (.str (toPy d).shown t) { s with heap := h', toks := tk } := by
        intro h' t tk hk
        refine ⟨.str (st (rp d)), H, I.kept hk, ⟨t, by rw [sh]⟩, ?_⟩
        exact p _ as H Ext.refl hi (by simp only [Rep])
      have hz : (toPy d).shown.length ≤ sizeLine := by rw [sh, st_len]; exact h3
      rw [hd] at r1
      simp only [Rep] at r1
      obtain ⟨a, vs, rfl, _, _⟩ := r1
      obtain rfl : u = Value.ref a := ru
      exact repr_of_reads' rd k2 (PyData.noDict_hsm k3) hg (by rw [toPy_dep]; omega) (fun _ _ e => e) fin hz
    · exact p.elim
end
end Rf
end

section
set_option maxHeartbeats 2000000
namespace OwI
open PySem PySem.Spec PyProof.Rows L2
/-! ### the pairs of a dict, one by one, kept by whoever takes them -/
def itO (x : Value) (f : Bool) (d : Addr) (i n ep : Nat) (ok ov : Value) : Obj := { cls := .type "dict_itemiterator", dict := none, data := .fields #[x, .bool f, .ref d, .int i 0, .int n 0, .int ep 0, ok, ov], slots := #[] }
/-- the tuple that was given out last may live or not -/
def St (h : Heap) (it d : Addr) (i n ep : Nat) : Prop := ∃ x f ok ov, ((x = .none ∧ f = false) ∨ ∃ a : Nat, x = rawInt a) ∧ h.get? it = some (itO x f d i n ep ok ov)
section
variable {prog : Program} {w : World} {A : Around} {E : Value → Shared → Prop} {s : Shared}
theorem alive_any {a : Addr} {Q : Option Obj → Shared → Prop} (h : Q (s.heap.get? a) s) : wpAny (model prog w) A (loadIfAlive a) Q E s := fun _ _ _ => h
/-- a pair is laid, whatever became of the last one -/
theorem pair_any {it d : Addr} {a : Nat} {f : Bool} {i n ep : Nat} {ok ov k v : Value} {Q : Value → Shared → Prop} (hi : s.heap.get? it = some (itO (rawInt a) f d i n ep ok ov))
    (hQ : ∀ h', St h' it d i n ep → h'.get? s.heap.objs.size = some { cls := .type "tuple", data := .seq #[k, v] } → h'.objs.size = s.heap.objs.size + 1 → (∀ b o, b ≠ it → s.heap.get? b = some o → h'.get? b = some o) → Q (.ref s.heap.objs.size) { s with heap := h' }) :
    wpAny (model prog w) A (Builtin.Dict_items.pairFromOwner (.ref it) 6 k v) Q E s := by
  obtain ⟨hp, g, dr, tk, os⟩ := s
  dsimp only at hi hQ
  have lt : it < hp.objs.size := Heap.lt_size hi
  unfold Builtin.Dict_items.pairFromOwner Builtin.Dict_items.ownedTupleIsFree
  refine wpAny_bind (wpAny_newTuple ?_)
  obtain ⟨h2, e2⟩ : ∃ h2, h2 = hp.push { cls := .type "tuple", data := .seq #[k, v] } := ⟨_, rfl⟩
  have i2 : h2.get? it = some (itO (rawInt a) f d i n ep ok ov) := by rw [e2]; exact Heap.get?_push_of_some _ hi
  have t2 : h2.get? hp.objs.size = some { cls := .type "tuple", data := .seq #[k, v] } := by rw [e2]; exact Heap.get?_push_size _ rfl
  have z2 : h2.objs.size = hp.objs.size + 1 := by rw [e2, Heap.size_push]
  have k2 : ∀ b o, hp.get? b = some o → h2.get? b = some o := fun b o e => by rw [e2]; exact Heap.get?_push_of_some _ e
  show wpAny _ _ _ _ _ ⟨hp.push { cls := .type "tuple", data := .seq #[k, v] }, g, dr, tk, os⟩
  rw [← e2]
  have fin : ∀ h3 : Heap, St h3 it d i n ep → Heap.SameBut it h2 h3 → Q (.ref hp.objs.size) ⟨h3, g, dr, tk, os⟩ := fun h3 s3 b3 =>
    hQ h3 s3 (b3.extBut _ _ (Nat.ne_of_gt lt) t2) (by rw [b3.1, z2]) fun b o hb e => b3.extBut b o hb (k2 b o e)
  refine wpAny_bind (wpAny_bind (wpAny_field i2 rfl (x := rawInt a) rfl ?_))
  refine wpAny_bind (alive_any ?_)
  show wpAny _ _ (if (h2.get? a).isNone = true then _ else _) _ _ _
  cases ea : h2.get? a with
  | none =>
    simp only [Option.isNone_none, if_true]
    refine wpAny_pure ?_
    simp only [if_true]
    refine wpAny_bind (wpAny_field i2 rfl (x := ok) rfl (wpAny_bind (wpAny_field i2 rfl (x := ov) rfl ?_)))
    refine wpAny_bind (wpAny_setField_rec i2 (by simp [itO]) fun h3 e3 s3 => wpAny_bind (wpAny_setField_rec e3 (by simp [itO]) fun h4 e4 s4 => wpAny_bind (wpAny_setField_rec e4 (by simp [itO]) fun h5 e5 s5 => wpAny_bind (wpAny_setField_rec e5 (by simp [itO]) fun h6 e6 s6 => ?_))))
    refine wpAny_bind (wpAny_letGo (wpAny_pure (fin h6 ⟨rawInt hp.objs.size, false, k, v, .inr ⟨_, rfl⟩, e6⟩ ?_)))
    exact ((Heap.SameBut.trans s3 s4).trans s5).trans s6
  | some oa =>
    simp only [Option.isNone_some, Bool.false_eq_true, if_false]
    refine wpAny_bind (wpAny_field i2 rfl (x := .bool f) rfl ?_)
    cases f with
    | true =>
      rw [if_neg (show ¬ ((Value.bool true != Value.bool true) = true) from Bool.false_ne_true)]
      refine wpAny_pure ?_
      simp only [Bool.false_eq_true, if_false]
      exact wpAny_pure (fin h2 ⟨_, _, _, _, .inr ⟨a, rfl⟩, i2⟩ (Heap.SameBut.refl _ _))
    | false =>
      rw [if_pos (show (Value.bool false != Value.bool true) = true from rfl)]
      refine wpAny_bind (wpAny_setField_rec i2 (by simp [itO]) fun h3 e3 s3 => wpAny_pure ?_)
      simp only [Bool.false_eq_true, if_false]
      exact wpAny_pure (fin h3 ⟨_, _, _, _, .inr ⟨a, rfl⟩, e3⟩ s3)
/-- the next pair -/
theorem next_item {K : Type} [DecidableEq K] {knd : KeyKind prog w K} {it d : Addr} {i ep : Nat} {kvs : List (K × Value)} {k : K} {v : Value} {Q : Option Value → Shared → Prop} (hst : St s.heap it d i kvs.length ep) (hm : s.heap.DictAt knd d kvs ep) (hx : kvs[i]? = some (k, v))
    (hQ : ∀ key h', knd.is k key = true → St h' it d (i + 1) kvs.length ep → h'.get? s.heap.objs.size = some { cls := .type "tuple", data := .seq #[key, v] } → h'.objs.size = s.heap.objs.size + 1 → (∀ b o, b ≠ it → s.heap.get? b = some o → h'.get? b = some o) → Q (some (.ref s.heap.objs.size)) { s with heap := h' }) :
    wpAny (model prog w) A (pyNext (.ref it)) Q E s := by
  obtain ⟨x, f, ok, ov, hxf, hi⟩ := hst
  rcases hxf with ⟨rfl, rfl⟩ | ⟨a, rfl⟩
  · exact wpAny_pyNext_items_item hi hm hx fun key h' h1 h2 h3 h4 h5 => hQ key h' h1 ⟨_, _, _, _, .inr ⟨_, rfl⟩, h2⟩ h3 h4 h5
  obtain ⟨hp, g, dr, tk, os⟩ := s
  dsimp only at hi hm hQ
  obtain ⟨od, es, hod, hcd, hdd, hk, hpr, hn⟩ := id hm
  have T : Shared.TypeIs ⟨hp, g, dr, tk, os⟩ (.ref it) "dict_itemiterator" := ⟨_, hi, rfl⟩
  have ze : es.size = kvs.length := by rw [← hpr.length]; simp
  have hlt : i < es.size := by rw [ze]; exact (List.getElem?_eq_some_iff.mp hx).1
  obtain ⟨ky, vl⟩ := hpr.get? (e := es[i]) (by simp [hlt]) hx
  have lt : it < hp.objs.size := Heap.lt_size hi
  unfold pyNext
  refine wpAny_bind (wpAny_attempt (wpAny_callSpecial?_slot (name := Str.ofString "__next__") T F.slot_dict_itemiterator_next (wpAny_call_entry F.slot_dict_itemiterator_next T F.entry_dict_itemiterator_next (wpAny_bind (wpAny_pure (wpAny_bind (wpAny_bind ?_)))) (F.args_dict_itemiterator_next_1 _))))
  first | refine wpAny_bind (wpAny_typeNameOfWhole_itemiter T (wpAny_pure ?_)) | refine wpAny_bind (wpAny_typeNameOf_itemiter T (wpAny_pure ?_))
  refine wpAny_bind (wpAny_fieldsOf hi rfl ?_)
  simp only [show Builtin.Dict_items.ownsTuple "dict_itemiterator" = true by decide, if_true]
  show wpAny _ _ (ite ((Value.ref d == Value.none) = true) _ _) _ _ _
  rw [if_neg (show ¬ ((Value.ref d == Value.none) = true) by intro z; cases z)]
  refine wpAny_bind (wpAny_pure (wpAny_bind (wpAny_dictEntries hod hdd ?_)))
  rw [if_neg (by rw [ze]; simp)]
  refine wpAny_bind (wpAny_pure (wpAny_bind (wpAny_dictEpoch hod hdd ?_)))
  rw [if_neg (by simp)]
  refine wpAny_pure ?_
  simp only [show ¬ ((i : Int) < 0) by omega, if_false, Int.toNat_natCast, Array.getElem?_eq_getElem hlt]
  refine wpAny_bind ?_
  first | refine wpAny_bind (wpAny_typeNameOfWhole_itemiter T (wpAny_pure ?_)) | refine wpAny_bind (wpAny_typeNameOf_itemiter T (wpAny_pure ?_))
  refine wpAny_bind (wpAny_isOneOf_itemiter T ?_)
  show wpAny _ _ (setField (.ref it) 3 (rawInt ((i : Int) + 1)) >>= _) _ _ _
  refine wpAny_bind (wpAny_setField_rec hi (by simp [itO]) fun h1 e1 s1 => ?_)
  replace s1 : Heap.SameBut it hp h1 := s1
  replace e1 : h1.get? it = some (itO (rawInt a) f d (i + 1) kvs.length ep ok ov) := by
    have e : ((i + 1 : Nat) : Int) = (i : Int) + 1 := by omega
    unfold itO
    rw [e]
    simpa [rawInt, itO] using e1
  have T1 : Shared.TypeIs ⟨h1, g, dr, tk, os⟩ (.ref it) "dict_itemiterator" := ⟨_, e1, rfl⟩
  refine wpAny_bind (wpAny_holding (wpAny_bind (wpAny_isOneOf_itemiter T1 (wpAny_bind (wpAny_isOneOf_itemiter T1 ?_)))))
  have hz : h1.objs.size = hp.objs.size := s1.1
  refine pair_any (s := ⟨h1, g, dr, tk, os⟩) e1 fun h2 a1 a2 a3 a4 => ?_
  dsimp only at a2 a3 a4
  rw [hz] at a2 a3
  exact wpAny_pure ⟨_, rfl, wpAny_pure (by
    dsimp only
    rw [hz]
    exact hQ es[i].key h2 ky a1 (by rw [← vl]; exact a2) a3 fun b o hb e => a4 b o hb (s1.extBut b o hb e))⟩
theorem next_end {K : Type} [DecidableEq K] {knd : KeyKind prog w K} {it d : Addr} {i ep : Nat} {kvs : List (K × Value)} {Q : Option Value → Shared → Prop} (hh : A.handled = none) (hst : St s.heap it d i kvs.length ep) (hm : s.heap.DictAt knd d kvs ep) (hx : kvs[i]? = none)
    (hQ : ∀ h', Heap.ExtBut it s.heap h' → Q none { s with heap := h' }) : wpAny (model prog w) A (pyNext (.ref it)) Q E s := by
  obtain ⟨x, f, ok, ov, hxf, hi⟩ := hst
  rcases hxf with ⟨rfl, rfl⟩ | ⟨a, rfl⟩
  · exact wpAny_pyNext_items_end hh hi hm hx hQ
  · exact PySem.W.kdx_end_out (a := a) (f := f) hh hi hm hx hQ
theorem iter_self {it d : Addr} {i n ep : Nat} {Q : Value → Shared → Prop} (hst : St s.heap it d i n ep) (h : Q (.ref it) s) : wpAny (model prog w) A (pyIter (.ref it)) Q E s := by
  obtain ⟨x, f, ok, ov, hxf, hi⟩ := hst
  have T : s.TypeIs (.ref it) "dict_itemiterator" := ⟨_, hi, rfl⟩
  refine wpAny_pyIter_slot T F.slot_dict_itemiterator_iter (wpAny_call_entry F.slot_dict_itemiterator_iter T PySem.W.kcp_entry ?_ (F.args_dict_itemiterator_iter_1 _))
  show wpAny _ _ (ret (.ref it)) _ _ s
  exact wpAny_pure ⟨_, rfl, "dict_itemiterator", _, T, F.slot_dict_itemiterator_next.lookup, h⟩
end
section
variable {P : Program} {w : World} {K : PySem.W.Frag} {d : Addr} {o : Obj} {es : Array DictEntry} {ep : Nat}
/-- its turns, each pair taken whole -/
theorem turn_itemsN {kvs : List (Key × V)} {v : Str} {tp : Pos} (it : Addr) (hod : o.data = .dict es ep) : Turn P w K (.Name v tp) (Iti d o kvs) [it] it (fun i h => St h it d i kvs.length ep) where
  mem := by simp
  obj := by
    rintro i h ⟨x, f, ok, ov, _, e⟩ b hb
    rw [show b = it by simpa using hb]
    exact ⟨_, e, fun v z => nomatch z⟩
  keep := by
    rintro i h h' ⟨x, f, ok, ov, q, e⟩ k
    exact ⟨x, f, ok, ov, q, k it (by simp) _ e⟩
  item := by
    intro X hP hw hK hc i pins s σ H E I hf st hg
    subst hP hw hK
    obtain ⟨hd, hi⟩ := hg
    obtain ⟨hs, hgd, hx, es', ep', vs, hdt, hsz, kv, hm⟩ := I.frzK hd
    obtain ⟨rfl, rfl⟩ := dict_ep hod hdt
    obtain ⟨⟨k, v⟩, hkv⟩ : ∃ p, kvs[i]? = some p := ⟨kvs[i], List.getElem?_eq_getElem hi⟩
    obtain ⟨u, hu, ru⟩ := kv_get kv hkv
    have hl : kvs.length = vs.length := Paired.length kv
    rw [hl] at st
    have hlt : it < s.heap.objs.size := by
      obtain ⟨_, _, _, _, _, e⟩ := st
      exact Heap.lt_size e
    refine next_item st hm hu fun key h' hkey ho hT hz hk => ⟨_, rfl, ?_⟩
    show wpAny _ _ (pure ()) _ _ _
    have new : ObjOk X.prog X.w (upd H s.heap.objs.size (.tup [kV k, v])) h' s.heap.objs.size (.tup [kV k, v]) :=
      ⟨by show 2 ≤ sizeLine; decide, [key, u], .cons (relV_key (show keyIs k key = true from hkey)) (.cons ru .nil), ⟨_, hT, rfl, _, rfl⟩⟩
    refine wpAny_pure ⟨.ref s.heap.objs.size, _, I.turnedNew (t' := s.toks) (ch := [it]) (fun b ob hb e => hk b ob (by simpa using hb) e) hf (Nat.le_refl _) new, rfl, ⟨_, k, v, hkv, rfl, I.hok.fresh (Nat.le_refl _), rfl⟩, by rw [hl]; exact ho, fun b hb => ?_⟩
    rw [show b = it by simpa using hb, upd_ne (Nat.ne_of_lt hlt)]
    exact (hf it (by simp)).1
  done := by
    intro X hP hw hK hc i pins s σ H E I hf st hg
    subst hP hw hK
    obtain ⟨hd, hi⟩ := hg
    obtain ⟨f0, f1, f2, f3, f4, f5⟩ := hf it (by simp)
    obtain ⟨hs, hgd, hx, es', ep', vs, hdt, hsz, kv, hm⟩ := I.frzK hd
    obtain ⟨rfl, rfl⟩ := dict_ep hod hdt
    have hl : kvs.length = vs.length := Paired.length kv
    rw [hl] at st
    exact next_end (I.ok.hd hc) st hm (List.getElem?_eq_none (by omega)) fun h' eb => ⟨rfl, I.turned (t' := s.toks) (fun b ob hb e => eb b ob hb e) f0 f1 f3 f4 f5⟩
  self := fun A i s Q E st h => iter_self st h
end
/-! ### iter(e.items()), handed out -/
def IterO (it d : Addr) (o : Obj) (n : Nat) : HO := .ext fun h => ∃ es ep, o.data = .dict es ep ∧ h.get? it = some (itO .none false d 0 n ep .none .none)
section
variable {prog : Program} {w : World} {A : Around} {E : Value → Shared → Prop} {s : Shared}
theorem call_iterV {r : Addr} {Q : Value → Shared → Prop} (h : wpAny (model prog w) A.in1 (pyIter (.ref r)) Q E s) : wpAny (model prog w) A (call (.builtin "iter") [.ref r]) Q E s := by
  refine Calls.call_function_entry (by decide +kernel) (by decide +kernel) PySem.W.kdk_entry_iter (PySem.W.kdk_args_iter _) ?_
  unfold Builtin.«iter»
  refine wpAny_bind (m := someArgs "iter" 1 2 _) (wpAny_of_eq (a := [Value.ref r]) (by first | rfl | kernel_rfl!) ?_)
  show wpAny _ _ (pyIter (.ref r) >>= _) _ _ _
  exact wpAny_bind (wpAny_mono h (fun v s' q => wpAny_pure ⟨_, rfl, q⟩) fun _ _ z => z)
end
section
variable {X : Cx} {e : Expr} {te : TE} {p apos cpos pos : Pos}
theorem pe_iterItems (he : PE X e te) (hg : Gl X "iter") (hm : X.mg "iter" = none) (hbase : attributeBase e "items" X.env (eval e X.env) = eval e X.env := by rfl) (hline : (apos.endLine == cpos.line) = true := by rfl)
    (hs : starEach [.Call (.Attribute e "items" apos) [] [] cpos] X.env = (false, eval (.Call (.Attribute e "items" apos) [] [] cpos) X.env) :: starEach [] X.env := by rfl) :
    PE X (.Call (.Name "iter" p) [.Call (.Attribute e "items" apos) [] [] cpos] [] pos) (fun σ H Q => te σ H fun x H1 => ∃ d o kvs, x = .ref d ∧ H1 d = some (.frz o (.dK kvs)) ∧ ∀ it, H1 it = none → X.s_0.heap.objs.size ≤ it → Q (.ref it) (upd H1 it (IterO it d o kvs.length))) := by
  refine ⟨fun pins s σ H Q I hq => ?_⟩
  refine wpAny_Call_Name_kw (ld_blt I hg hm (u := .builtin "iter") (by decide +kernel) ?_)
  refine PyProof.Rows.callWith_builtin1 ?_ hs (by rfl)
  rw [hs]
  show wpAny _ _ (spliced ((false, eval (.Call (.Attribute e "items" apos) [] [] cpos) X.env) :: backTo pos (starEach [] X.env))) _ _ s
  refine Calls.spliced_cons (wpAny_Call_method (T := "dict") (id := "dict.items") hbase rfl hline F.plainAttrs_dict F.slot_dict_items F.type_dict_items (thn (he.run pins s σ H _ I hq) fun u s1 ⟨x, H1, I1, rx, d, o, kvs, ex, hd, q⟩ => ?_))
  subst ex
  obtain rfl : u = Value.ref d := rx
  obtain ⟨hs0, hgd, hx, es, ep, vs, hdt, hsz, kv, hm1⟩ := I1.frzK hd
  have hl : kvs.length = vs.length := Paired.length kv
  have I2 : Inv X pins σ H1 { s1 with heap := s1.heap.push { cls := .type "dict_items", data := .fields #[.ref d] } } := I1.kept (t' := s1.toks) fun b ob q => Heap.get?_push_of_some _ q
  refine ⟨hm1.dictOf.typeIs, hm1.dictOf.mapOf.noDict, ?_⟩
  show wpAny _ _ (callWith cpos (.builtin "dict.items") [.ref d] [] []) _ X.xe s1
  refine method_meetsIn F.slot_dict_items F.entry_dict_items rfl (PySem.evalArgs_none ⟨rfl, hm1.dictOf.typeIs, F.args_dict_items_1 _, _, meets_dict_items (mixKind X.prog X.w) d hs0, ⟨vs, hm1.dictOf⟩, Calls.spliced_nil (call_iterV ?_)⟩)
  refine wpAny_pyIter_items (d := d) (knd := mixKind X.prog X.w) ⟨_, Heap.get?_push_size _ rfl, rfl, rfl⟩ (hm1.push _) ?_
  refine ⟨.ref _, upd H1 _ (IterO _ d o kvs.length), I2.laid (t' := s1.toks) (fun b ob e => Heap.get?_push_of_some _ e) (Nat.le_refl _) ?_, rfl, q _ (I2.hok.fresh (Nat.le_refl _)) I2.sz⟩
  have hg := Heap.get?_push_size (s1.heap.push { cls := .type "dict_items", data := .fields #[.ref d] }) (o := { cls := .type "dict_itemiterator", data := .fields #[.none, .bool false, .ref d, .int 0 0, .int vs.length 0, .int ep 0, .none, .none] }) rfl
  rw [← hl] at hg
  refine ⟨⟨es, ep, hdt, ?_⟩, ⟨_, by rw [← hl]; exact hg⟩, fun h1 h2 ⟨es', ep', q1, q2⟩ k => ⟨es', ep', q1, k _ q2⟩⟩
  rw [← hl]
  exact hg
end
/-! ### tuple(e.items()) -/
section
variable {prog : Program} {w : World} {A : Around} {E : Value → Shared → Prop} {s : Shared} {K : Type} [DecidableEq K] {knd : KeyKind prog w K} {r d : Addr} {kvs : List (K × Value)} {ep : Nat}
theorem code_tupV {Q : Value → Shared → Prop} (hh : A.handled = none) (hv : s.heap.IsItemsView r d) (hm : s.heap.DictAt knd d kvs ep) (hn : kvs.length ≤ sizeLine)
    (h : ∀ (h' : Heap) (tk : Nat) (as : List Addr), (∀ b o, s.heap.get? b = some o → h'.get? b = some o) → as.length = kvs.length → PySem.W.KdxG knd kvs s.heap.objs.size h' as →
      Q (.ref h'.objs.size) { s with heap := h'.push { cls := .type "tuple", data := .seq (as.map Value.ref).toArray }, toks := tk }) :
    codeAny (model prog w) A (.call (.builtin "tuple.__new__") ⟨[.type "tuple", .ref r], []⟩) (wants Q E) s := by
  refine codeAny_of_tree ?_
  show wpAny _ A.in1 (checkBuiltinCall "tuple.__new__" ⟨[.type "tuple", .ref r], []⟩ >>= fun _ => again (.builtin "tuple.__new__" ⟨[.type "tuple", .ref r], []⟩)) _ _ s
  refine wpAny_bind (wpAny_of_eq (F.newCall_tuple_1 _) (wpAny_pure ⟨plainId_quiet F.plain_tuple_new _, codeAny_builtin F.entry_tuple_new ?_⟩))
  rw [Around.under_plainId F.plain_tuple_new _]
  have e1 := sub_tuple_self
  have e2 := init_tuple_lookup
  have e3 := madeHere_tuple
  have e4 : s.TypeIs (.ref r) "dict_items" := hv.typeIs
  wp_walk using wpAny_typeOf e4, PySem.W.kdx_collect (A := A.in1) (E := fun e s' => wants Q E (.error e) s') (knd := knd) (kvs := kvs) (ep := ep) hh hv hm hn
  intro h' tk as k1 k2 k3
  refine wpAny_bind (wpAny_pure ?_)
  show wpAny _ _ (Builtin.Tuple.tupleExact (as.map Value.ref).toArray >>= fun v => ret v) _ _ _
  unfold Builtin.Tuple.tupleExact
  exact wpAny_bind (wpAny_newObj_type (wpAny_pure (h h' tk as k1 k2 k3)) (by show (as.map Value.ref).toArray.size ≤ sizeLine; rw [List.size_toArray, List.length_map, k2]; exact hn))
theorem call_tupV {Q : Value → Shared → Prop} (hh : A.handled = none) (hv : s.heap.IsItemsView r d) (hm : s.heap.DictAt knd d kvs ep) (hn : kvs.length ≤ sizeLine)
    (h : ∀ (h' : Heap) (tk : Nat) (as : List Addr), (∀ b o, s.heap.get? b = some o → h'.get? b = some o) → as.length = kvs.length → PySem.W.KdxG knd kvs s.heap.objs.size h' as →
      Q (.ref h'.objs.size) { s with heap := h'.push { cls := .type "tuple", data := .seq (as.map Value.ref).toArray }, toks := tk }) :
    wpAny (model prog w) A (call (.type "tuple") [.ref r]) Q E s := by
  refine callType_codes (Q₁ := fun obj s₁ => s₁.TypeIs obj "tuple" ∧ Q obj s₁) F.called_tuple (F.typeCall_tuple_1 _) F.entry_object_init
    (code_tupV hh hv hm hn fun h' tk as k1 k2 k3 => ⟨⟨_, Heap.get?_push_size _ rfl, rfl⟩, h h' tk as k1 k2 k3⟩) fun obj s₁ h₁ => ?_
  exact ⟨h₁.1, F.args_object_init_2 obj _, object_init_meets F.called_tuple.init.lookup F.called_tuple.made (by decide) prog w A.in1 _ s₁ ⟨h₁.1, rfl, h₁.2⟩⟩
end
section
variable {X : Cx} {e : Expr} {te : TE} {p apos cpos pos : Pos}
/-- new tuples, tracked -/
theorem tups_laid {pins : List (Addr × Obj)} {σ : L2.St} {H : Hp} {s : Shared} {h' : Heap} {tk : Nat} {kvs : List (Key × V)} {vs : List (Key × Value)} {as : List Addr} {lo : Addr} (I : Inv X pins σ H s) (kv : KV kvs vs) (hlo : s.heap.objs.size ≤ lo)
    (hk : ∀ b o, s.heap.get? b = some o → h'.get? b = some o) (hl : as.length = vs.length) (hG : PySem.W.KdxG (mixKind X.prog X.w) vs lo h' as) :
    (∀ b o, H b = some o → LiI.putT H as kvs b = some o) ∧ (∀ t ∈ as, H t = none) ∧ Paired (fun (t : Addr) (q : Key × V) => LiI.putT H as kvs t = some (.tup [kV q.1, q.2])) as kvs ∧ Inv X pins σ (LiI.putT H as kvs) { s with heap := h', toks := tk } := by
  have lk : kvs.length = vs.length := Paired.length kv
  have up : ∀ a ∈ as, s.heap.objs.size < a := fun a ha => Nat.lt_of_le_of_lt hlo (hG.above a ha)
  have nd : as.Nodup := hG.rise.imp fun {a b} (h : a < b) => Nat.ne_of_lt h
  have new : ∀ t ∈ as, H t = none := fun t ht => I.hok.fresh (Nat.le_of_lt (up t ht))
  have atP := LiI.putT_at as kvs H (by omega) nd
  have kp : ∀ b u, H b = some u → LiI.putT H as kvs b = some u := fun b u e => by
    rw [LiI.putT_off as kvs _ fun z => by rw [new b z] at e; cases e]; exact e
  refine ⟨kp, new, atP, I.call' (ch := []) rfl ⟨fun b o q _ _ _ => hk b o q, fun b o q _ _ _ => ⟨o.slots, hk b o q⟩, fun b o q n _ => ?_, fun b o q _ => ⟨o, hk b o q⟩, fun b xs q => kp b _ q, fun b o u q => kp b _ q, fun b ps q => ⟨#[], by rw [kp b _ q]; simp⟩⟩ (fun b u q => ?_) I.bare fun b z => by simp at z⟩
  · rw [LiI.putT_off as kvs _ fun z => absurd (Heap.lt_size q) (Nat.not_lt.mpr (Nat.le_of_lt (up b z)))]
    exact n
  · by_cases hb : b ∈ as
    · obtain ⟨j, pk, e1, e2, e3⟩ := LiI.paired_ix atP hb
      rw [e3] at q
      cases q
      obtain ⟨key, k, x, f1, f2, f3⟩ := hG.pairs j b e1
      obtain ⟨qv, g1, g2, g3⟩ := LiI.paired_get kv e2
      rw [f1] at g1
      cases g1
      have rk : RelV (kV pk.1) key := by rw [g2]; exact relV_key (show keyIs k key = true from f2)
      exact ⟨show 2 ≤ sizeLine by decide, [key, x], .cons rk (.cons g3 .nil), _, f3, rfl, _, rfl⟩
    · rw [LiI.putT_off as kvs _ hb] at q
      exact (I.hok b u q).stay (fun d v _ y => hk d v y) (fun d y => kp d _ y) fun d xs y => kp d _ y
theorem pe_tupItems (hc : X.calm = true) (he : PE X e te) (hg : Gl X "tuple") (hm : X.mg "tuple" = none) (hv : bootBuiltins "tuple" = some (.type "tuple")) (hbase : attributeBase e "items" X.env (eval e X.env) = eval e X.env := by rfl) (hline : (apos.endLine == cpos.line) = true := by rfl)
    (hs : starEach [.Call (.Attribute e "items" apos) [] [] cpos] X.env = (false, eval (.Call (.Attribute e "items" apos) [] [] cpos) X.env) :: starEach [] X.env := by rfl) :
    PE X (.Call (.Name "tuple" p) [.Call (.Attribute e "items" apos) [] [] cpos] [] pos) (fun σ H Q => te σ H fun x H1 => ∃ (d : Addr) (kvs : List (Key × V)), x = .ref d ∧ H1 d = some (.dK kvs) ∧
      ∀ (H' : Hp) (l : Addr) (o : Obj) (ts : List Addr), (∀ b o, H1 b = some o → H' b = some o) → (∀ t ∈ ts, H1 t = none) → Paired (fun (t : Addr) (q : Key × V) => H' t = some (.tup [kV q.1, q.2])) ts kvs → H' l = none → o.dict = none → o.cls = .type "tuple" → Q (.ref l) (upd H' l (.frz o (.tup (ts.map V.ref))))) := by
  refine ⟨fun pins s σ H Q I hq => ?_⟩
  refine wpAny_Call_Name_kw (ld_blt I hg hm hv ?_)
  refine PyProof.Rows.callWith_type1 ?_ hs rfl
  rw [hs]
  show wpAny _ _ (spliced ((false, eval (.Call (.Attribute e "items" apos) [] [] cpos) X.env) :: backTo pos (starEach [] X.env))) _ _ s
  refine Calls.spliced_cons (wpAny_Call_method (T := "dict") (id := "dict.items") hbase rfl hline F.plainAttrs_dict F.slot_dict_items F.type_dict_items (thn (he.run pins s σ H _ I hq) fun u s1 ⟨x, H1, I1, rx, d, kvs, ex, hd, q⟩ => ?_))
  subst ex
  obtain rfl : u = Value.ref d := rx
  obtain ⟨hz, hs0, vs, kv, hdo⟩ := I1.hok d _ hd
  obtain ⟨ep, hat⟩ := hdo.dictAt
  have lk : kvs.length = vs.length := Paired.length kv
  have I2 : Inv X pins σ H1 { s1 with heap := s1.heap.push { cls := .type "dict_items", data := .fields #[.ref d] } } := I1.kept (t' := s1.toks) fun b ob q => Heap.get?_push_of_some _ q
  refine ⟨hdo.typeIs, hdo.mapOf.noDict, ?_⟩
  show wpAny _ _ (callWith cpos (.builtin "dict.items") [.ref d] [] []) _ X.xe s1
  refine method_meetsIn F.slot_dict_items F.entry_dict_items rfl (PySem.evalArgs_none ⟨rfl, hdo.typeIs, F.args_dict_items_1 _, _, meets_dict_items (mixKind X.prog X.w) d hs0, ⟨vs, hdo⟩, Calls.spliced_nil ?_⟩)
  refine call_tupV (knd := mixKind X.prog X.w) (kvs := vs) (ep := ep) (I1.ok.hd hc) ⟨_, Heap.get?_push_size _ rfl, rfl, rfl⟩ (hat.push _) (by omega) fun h' tk as hk hl hG => ?_
  obtain ⟨k1, k2, k3, J⟩ := tups_laid (tk := tk) I2 kv (Nat.le_refl _) hk hl hG
  have hn : LiI.putT H1 as kvs h'.objs.size = none := J.hok.fresh (Nat.le_refl _)
  have hla : as.length = kvs.length := by omega
  have J2 : Inv X pins σ (upd (LiI.putT H1 as kvs) h'.objs.size (.frz { cls := .type "tuple", data := .seq (as.map Value.ref).toArray } (.tup (as.map V.ref)))) { s1 with heap := h'.push { cls := .type "tuple", data := .seq (as.map Value.ref).toArray }, toks := tk } :=
    J.laid (t' := tk) (fun b o e => Heap.get?_push_of_some _ e) (Nat.le_refl _) (show ObjOk X.prog X.w _ _ _ (.frz _ (.tup (as.map V.ref))) from ⟨Heap.get?_push_size _ rfl, by show (as.map V.ref).length ≤ sizeLine; rw [List.length_map]; omega, as.map Value.ref, LiI.vals_refs as, IsTup.new _ _⟩)
  exact ⟨.ref _, _, J2, rfl, q _ _ _ as k1 k2 k3 hn rfl rfl⟩
end
/-! ### own __iter__ over the pairs of a dict -/
/-- what it does -/
def OwnB (P : Program) (w : World) (K : PySem.W.Frag) (mg : Str → Option Value) (base : Heap) (k : Nat) (C f : Addr) (F : Str) : Prop :=
  ∀ (A : Around) (out : List Env) (s : Shared) (H : Hp) (x dx : Addr) (fs : List (Str × V)) (d : Addr) (od : Obj) (kvs : List (Key × V)), A.guards = some [] → Room k A → Env0 P w K mg base A out s H →
    H x = some (.ins C dx fs) → fs.lookup F = some (.ref d) → H d = some (.frz od (.dK kvs)) →
    codeAny (model P w) A (.call (.ref f) ⟨[.ref x], []⟩) (CR (L2.CX P w) out P w H s (fun v H' => ∃ it, v = .ref it ∧ s.heap.objs.size ≤ it ∧ H it = none ∧ H' = upd H it (IterO it d od kvs.length)) fun _ _ _ => False) s
section
variable {X : Cx} {e : Expr} {te : TE} {v : Str} {tp : Pos} {k : Nat} {C f : Addr} {F : Str}
theorem pe_lockAny {t : TE} (h : PE X e t) : PE X e (fun σ H Q => t σ H fun v H1 => ∃ d u, H1 d = some u ∧ Mut (some u) ∧ ∀ od, (∀ o' u', X.H_0 d ≠ some (.frz o' u')) → Q v (upd H1 d (.frz od u))) := by
  refine ⟨fun pins s σ H Q I q => thn (h.run pins s σ H _ I q) ?_⟩
  rintro v s1 ⟨x, H1, I1, r1, d, u, e, mu, k⟩
  obtain ⟨od, I2⟩ := I1.lock e mu
  exact ⟨x, _, I2, r1, k od (I1.nofrz e mu)⟩
theorem pi_own (hc : X.calm = true) (he : PE X e te) (hr : Room k X.A) (gd : X.A.guards = some []) (hs : PySem.W.findIn X.K (.ref C) "__iter__" = some (some (.ref f))) (hf : PySem.W.isFn X.K (.ref f) = true) (O : OwnB X.prog X.w X.K X.mg X.base k C f F) :
    PI X (.Name v tp) e (fun σ H R => te σ H fun x H1 => ∃ a dx fs d od kvs, x = .ref a ∧ H1 a = some (.ins C dx fs) ∧ fs.lookup F = some (.ref d) ∧ H1 d = some (.frz od (.dK kvs)) ∧ R (Iti d od kvs) H1) := by
  refine ⟨fun pins s σ H R I h => ?_⟩
  refine thn (he.run pins s σ H _ I h) fun u s1 ⟨x, H1, I1, rx, a, dx, fs, d, od, kvs, ex, ha, hl, hd, q⟩ => ?_
  subst ex
  obtain rfl : u = Value.ref a := rx
  obtain ⟨mA, J, _⟩ := ins_get I1.hok ha
  obtain ⟨oo, J, _⟩ := J.look
  obtain ⟨m0, hF⟩ := I1.fr
  refine PySem.W.owit_iter hF I1.ok.mod.kin J hs hf (wpAny_call (codeAny_mono (O X.A X.stack s1 H1 a dx fs d od kvs gd hr I1.env0 ha hl hd) fun r s' hq => ?_))
  cases r with
  | error z =>
    obtain ⟨_, _, _, _, _, _, _, _, _, _, _, _, hE⟩ := hq
    exact hE.elim
  | ok fl =>
    cases fl with
    | next => exact False.elim hq
    | brk => exact False.elim hq
    | cont => exact False.elim hq
    | ret u =>
      obtain ⟨v, H', I', rv, it, ev, hsz, hn, eH⟩ := I1.after hq
      subst ev
      obtain rfl : u = Value.ref it := rv
      have hit : H' it = some (IterO it d od kvs.length) := by rw [eH, upd_same]
      obtain ⟨⟨es, ep, hod, hg⟩, _⟩ := I'.hok it _ hit
      have T : s'.TypeIs (.ref it) "dict_itemiterator" := ⟨_, hg, rfl⟩
      refine wpAny_specialOf (name := Str.ofString "__next__") T PySem.F.slot_dict_itemiterator_next.lookup ?_
      have I2 := ItX.inv_drop I' hit
      have fp := ItX.inv_fp I' hit (Nat.le_trans I1.sz hsz)
      have eD : ItX.dropH H' it = H1 := by rw [eH]; exact ItX.dropH_upd hn
      rw [eD] at I2 fp
      refine ⟨it, [it], _, _, H1, rfl, I2, turn_itemsN it hod, ⟨_, _, _, _, .inl ⟨rfl, rfl⟩, hg⟩, fun b hb => ?_, q⟩
      rw [show b = it by simpa using hb]
      exact fp
end
end OwI
end

section
namespace Rf
open PySem PySem.Spec PyProof.Rows L2

/-! ## the program's text against the terms -/
structure Ck where
  N : List Str
  fnm : List Str
  cnm : List Str
  gnm : List Str
  nw : List Nat
  snm : List (Str × List Char) := []
  hot : Bool := false
  exn : Option Nat := none
  xc : List Nat := []
  xr : List Nat := []
  inm : List (Str × Int) := []
  dnm : List Str := []
  /-- where a lambda was given to the def; whether one may be made here -/
  lam : Option Nat := none
  mkl : Bool := false
  /-- the defs that make lambdas, their long names -/
  tf : List ((Str × Option Str) × Str) := []
  /-- the defs to which lambdas are given, by name, by class and name; what a lambda holds, its parameters; its body's check -/
  vnm : List (Nat × Nat × Str) := []
  vmt : List (Nat × Nat × Nat × String) := []
  lms : Nat → Option (List Str × List Str) := fun _ => none
  lamB : Nat → Scope → Expr → Bool := fun _ _ _ => false
  nd : List Nat := []
  ow : List (Nat × String) := []
/-- .. of the body of a lambda -/
@[reducible] def Ck.plain (C : Ck) (N : List Str) : Ck := { C with N := N, vnm := [], vmt := [], lms := fun _ => none, lamB := fun _ _ _ => false }
def kindB (sc : Scope) (x : Str) (k : NameKind) : Bool := match sc.names.lookup x with
  | some k' => decide (k' = k)
  | none => false
def visB (sc : Scope) (x : Str) : Bool := kindB sc x .local || kindB sc x .cell || kindB sc x .free
def locB (sc : Scope) (x : Str) : Bool := kindB sc x .local || kindB sc x .cell
def glB (sc : Scope) (x : Str) : Bool := kindB sc x .globalImplicit
def okN (x : Str) : Bool := !(x == ("__debug__" : Str)) && !(x == ("__classdict__" : Str)) && !(x == ("__name__" : Str)) && !(x == ("super" : Str))
def isC (l : List Str) (i : Nat) (x : Str) : Bool := match l[i]? with | some y => decide (y = x) | none => false
theorem isC_ok {l : List Str} {i : Nat} {x : Str} (h : isC l i x = true) : l[i]? = some x := by
  unfold isC at h
  split at h
  · rename_i y e; rw [e, of_decide_eq_true h]
  · cases h
theorem kindB_ok {sc : Scope} {x : Str} {k : NameKind} (h : kindB sc x k = true) : sc.names.lookup x = some k := by
  unfold kindB at h
  split at h
  · rename_i k' e; rw [e, of_decide_eq_true h]
  · cases h
def opB : Op → Operator → Bool
  | .add, .Add => true | .sub, .Sub => true | .mul, .Mult => true | .fdiv, .FloorDiv => true | .mod, .Mod => true | _, _ => false
def cpB : Cp → CmpOp → Bool
  | .eq, .Eq => true | .ne, .NotEq => true | .lt, .Lt => true | .le, .LtE => true | .gt, .Gt => true | .ge, .GtE => true | .in_, .In => true | .nin, .NotIn => true | .is_, .Is => true | .isn, .IsNot => true | _, _ => false
theorem opB_ok {o : Op} {op : Operator} (h : opB o op = true) : (o, op) ∈ [(Op.add, Operator.Add), (.sub, .Sub), (.mul, .Mult), (.fdiv, .FloorDiv), (.mod, .Mod)] := by
  cases o <;> cases op <;> simp [opB] at h ⊢
theorem cpB_ok {o : Cp} {op : CmpOp} (h : cpB o op = true) : op = cpOf o := by
  cases o <;> cases op <;> simp [cpB, cpOf] at h ⊢
def cstB : D → Const → Bool
  | .non, .none => true
  | .bl b, .bool c => b == c
  | .int i, .int j => decide (i = j)
  | .str s, .str z => decide (st s = z)
  | _, _ => false
def isSet : Expr → Bool
  | .Set _ _ _ => true
  | _ => false
def isSlice : Expr → Bool
  | .Slice _ _ _ _ => true
  | _ => false
def isStar : Expr → Bool
  | .Starred _ _ => true
  | _ => false
/-- not super() -/
def notBare : Expr → Bool
  | .Call (.Name x _) [] [] _ => x != "super"
  | _ => true
def bfName : Bf → Option (Str × Bool)
  | .repr => some (Str.ofString "repr", true) | .len => some (Str.ofString "len", true) | .abs => some (Str.ofString "abs", true) | .min2 => some (Str.ofString "min", true) | .max2 => some (Str.ofString "max", true) | .sorted => some (Str.ofString "sorted", true) | .all => some (Str.ofString "all", true)
  | .int => some (Str.ofString "int", false) | .str => some (Str.ofString "str", false) | .list => some (Str.ofString "list", false) | .tuple => some (Str.ofString "tuple", false) | .dict => some (Str.ofString "dict", false) | .ptup => some (Str.ofString "tuple", false)
  | _ => none
def nmB (C : Ck) (sc : Scope) (i : Nat) : Expr → Bool
  | .Name x _ => isC C.N i x && locB sc x
  | _ => false
def tgB (C : Ck) (sc : Scope) : Tg → Expr → Bool
  | .nm i, e => nmB C sc i e
  | .tp is, .Tuple es _ _ => is.length == es.length && ((is.zip es).all fun p => nmB C sc p.1 p.2) && !C.hot
  | .tn is j, .Tuple [.Tuple es _ _, e] _ _ => is.length == es.length && ((is.zip es).all fun p => nmB C sc p.1 p.2) && nmB C sc j e && !C.hot
  | _, _ => false
def tgIx : Tg → List Nat
  | .nm i => [i]
  | .tp is => is
  | .tn is j => is ++ [j]
def ownP (C : Ck) (own : List Nat) : List (Str × Nat) := own.map fun i => (C.N.getD i Str.empty, i)
def revOf : Expr → Option (Str × Str × Expr)
  | .Call (.Name x _) [.Call (.Name y _) [z] [] _] [] _ => some (x, y, z)
  | _ => none
def backOf : Expr → Option Expr
  | .Subscript x (.Slice none none (some (.UnaryOp .USub (.Constant (.int 1) _ _) _)) _) _ => some x
  | _ => none
theorem backOf_ok {e x : Expr} (h : backOf e = some x) : ∃ k p1 p2 p3 pos, e = .Subscript x (.Slice none none (some (.UnaryOp .USub (.Constant (.int 1) k p1) p2)) p3) pos := by
  unfold backOf at h
  split at h
  · cases h; exact ⟨_, _, _, _, _, rfl⟩
  · cases h
/-- plain parameters: none, one, two -/
def parsB : Arguments → Option (List Str)
  | ⟨[], [], none, [], [], none, []⟩ => some []
  | ⟨[], [⟨x, none, _⟩], none, [], [], none, []⟩ => some [x]
  | ⟨[], [⟨x, none, _⟩, ⟨y, none, _⟩], none, [], [], none, []⟩ => if (y == x) = false ∧ (x == y) = false then some [x, y] else none
  | _ => none
def capsB (C : Ck) (sc : Scope) : List E → List Str → Bool
  | [], [] => true
  | .var i :: es, y :: ys => isC C.N i y && (kindB sc y .cell || kindB sc y .free) && capsB C sc es ys
  | _, _ => false
def isFunK : ScopeKind → Bool
  | .function => true
  | _ => false
def lamScB (sc scope : Scope) (capN ps : List Str) : Bool :=
  isFunK scope.kind && !scope.isCoroutine && !scope.isGenerator && (scope.names.all fun y => !decide (y.2 = .cell) && (!decide (y.2 = .free) || decide (y.1 ∈ capN) && (kindB sc y.1 .cell || kindB sc y.1 .free)) && (!decide (y.2 = .local) || decide (y.1 ∈ ps))) &&
    (ps.all fun x => kindB scope x .local) && (capN.all fun y => kindB scope y .free) && decide (capN ++ ps).Nodup
def lamA (C : Ck) (sc : Scope) (j : Nat) (cs : List E) : Expr → Bool
  | .Lambda params body scope _ => match C.lms j, parsB params with
    | some (capN, ps), some ps' => decide (ps' = ps) && C.lamB j scope body && capsB C sc cs capN && lamScB sc scope capN ps
    | _, _ => false
  | _ => false
def keysB : List E → List (Option Expr) → Bool
  | [], [] => true
  | .cst (.str s) :: r, some (.Constant (.str z) _ _) :: r' => decide (st s = z) && keysB r r'
  | _, _ => false
mutual
def chkE (C : Ck) : E → Scope → Expr → Bool
  | .var i, sc, .Name x _ => isC C.N i x && visB sc x && okN x
  | .cst d, _, .Constant c _ _ => cstB d c
  | .glb g, sc, .Name x _ => isC C.gnm g x && glB sc x && okN x
  | .gst g s, sc, .Name x _ => decide (C.snm[g]? = some (x, s)) && glB sc x && okN x
  | .gni g i, sc, .Name x _ => decide (C.inm[g]? = some (x, i)) && glB sc x && okN x
  | .fnv f, sc, .Name x _ => !C.hot && (isC C.fnm f x && glB sc x && okN x)
  | .bin o a b, sc, .BinOp l op r _ => opB o op && chkE C a sc l && chkE C b sc r
  | .neg a, sc, .UnaryOp .USub e _ => chkE C a sc e
  | .cmp o a b, sc, .Compare l [op] [r] _ => cpB o op && chkE C a sc l && chkE C b sc r && !isSet r
  | .chn o o' a b c, sc, .Compare l [op, op'] [m, r] _ => cpB o op && cpB o' op' && chkE C a sc l && chkE C b sc m && chkE C c sc r && !isSet r
  | .and a b, sc, .BoolOp .And (x :: y :: r) p => chkE C a sc x && (match r with | [] => chkE C b sc y | _ => chkE C b sc (.BoolOp .And (y :: r) p))
  | .or a b, sc, .BoolOp .Or (x :: y :: r) p => chkE C a sc x && (match r with | [] => chkE C b sc y | _ => chkE C b sc (.BoolOp .Or (y :: r) p))
  | .not a, sc, .UnaryOp .Not e _ => chkE C a sc e
  | .ife c a b, sc, .IfExp t x y _ => chkE C c sc t && chkE C a sc x && chkE C b sc y
  | .tup es, sc, .Tuple xs _ _ => chkEs C es sc xs
  | .lst es, sc, .List xs _ => chkEs C es sc xs
  | .dic t ks vs, sc, .Dict ks' vs' _ => (ks.isEmpty && vs.isEmpty && ks'.isEmpty && vs'.isEmpty) || (!t && keysB ks ks' && !ks.isEmpty && decide (ks.length ≤ 15) && decide (ks.length = vs.length) && chkEs C vs sc vs')
  | .gix g e, sc, .Subscript (.Name x _) y _ => isC C.dnm g x && glB sc x && okN x && chkE C e sc y && !isSlice y
  | .gin neg g e, sc, .Compare l [op] [.Name x _] _ => (match op with | .In => !neg | .NotIn => neg | _ => false) && isC C.dnm g x && glB sc x && okN x && chkE C e sc l
  | .lnI e, sc, .Call (.Name x _) [y] [] _ => !C.hot && (decide (x = Str.ofString "len") && glB sc x && chkE C e sc y && !isStar y)
  | .itl e, sc, .Call (.Name x _) [.Call (.Attribute y g ap) [] [] cp] [] _ => !C.hot && (decide (x = Str.ofString "list") && glB sc x && decide (g = Str.ofString "items") && notBare y && (ap.endLine == cp.line) && chkE C e sc y)
  | .vll e, sc, .Call (.Name x _) [.Call (.Attribute y g ap) [] [] cp] [] _ => !C.hot && (decide (x = Str.ofString "list") && glB sc x && decide (g = Str.ofString "values") && notBare y && (ap.endLine == cp.line) && chkE C e sc y)
  | .itr e, sc, .Call (.Name x _) [.Call (.Attribute y g ap) [] [] cp] [] _ => !C.hot && (decide (x = Str.ofString "iter") && glB sc x && decide (g = Str.ofString "items") && notBare y && (ap.endLine == cp.line) && chkE C e sc y)
  | .ptd e, sc, .Call (.Name x _) [.Call (.Attribute y g ap) [] [] cp] [] _ => !C.hot && (decide (x = Str.ofString "tuple") && glB sc x && decide (g = Str.ofString "items") && notBare y && (ap.endLine == cp.line) && chkE C e sc y)
  | .newd c, sc, .Call (.Name x _) [] [] _ => !C.hot && (decide (c ∈ C.nd) && isC C.cnm c x && glB sc x && okN x)
  | .ix a i, sc, .Subscript x y _ => chkE C a sc x && chkE C i sc y && !isSlice y
  | .slc a lo hi, sc, .Subscript x (.Slice l h none _) _ => chkE C a sc x && (match l with | none => lo.isEmpty | some l => chkEs C lo sc [l]) && (match h with | none => hi.isEmpty | some h => chkEs C hi sc [h])
  | .back a, sc, e => (match backOf e with | some x => chkE C a sc x | none => match revOf e with | some (x, y, z) => !C.hot && (decide (x = Str.ofString "list") && decide (y = Str.ofString "reversed") && glB sc x && glB sc y && !isStar z) && chkE C a sc z | none => false)
  | .exf i f, sc, .Attribute (.Name x _) g _ => C.hot && decide (C.exn = some i) && isC C.N i x && visB sc x && okN x && decide (Str.ofString f = g)
  | .exi i k, sc, .Call (.Name b _) [.Name x _, .Name y _] [] _ => C.hot && decide (C.exn = some i) && isC C.N i x && visB sc x && okN x && decide (b = Str.ofString "isinstance") && glB sc b && decide (k ∈ C.xc) && isC C.cnm k y && glB sc y && okN y
  | .fld a f, sc, .Attribute x g _ => !C.hot && (chkE C a sc x && decide (Str.ofString f = g) && notBare x)
  | .new c es, sc, .Call (.Name x _) xs [] _ => !C.hot && (decide (c ∈ C.nw) && isC C.cnm c x && glB sc x && okN x && chkEs C es sc xs)
  | .cav i es, sc, .Call (.Name x _) xs [] _ => !C.hot && (isC C.N i x && visB sc x && okN x && chkEs C es sc xs)
  | .cal f es, sc, .Call (.Name x _) xs [] _ => !C.hot && (isC C.fnm f x && glB sc x && okN x && chkEs C es sc xs)
  | .blt b es, sc, .Call (.Name x _) xs [] _ => (!C.hot || decide (b = .int)) && (glB sc x && okN x && (match bfName b with
    | some (n, _) => decide (x = n) && chkEs C es sc xs && !es.isEmpty
    | none => (match tyOfB b, xs with
      | some T, [a, .Name y _] => decide (x = Str.ofString "isinstance") && decide (y = Str.ofString T) && glB sc y && okN y && chkEs C es sc [a]
      | _, _ => false)))
  | .met o m es, sc, .Call (.Attribute x g ap) xs [] cp => !C.hot && (chkE C o sc x && decide (Str.ofString m = g) && notBare x && (ap.endLine == cp.line) && chkEs C es sc xs && decide (xs.length < 20))
  | .cml v j es cs, sc, .Call (.Name x _) xs [] _ => !C.hot && (C.mkl && decide ((v, j, x) ∈ C.vnm) && glB sc x && okN x && (match xs with
    | [l] => es.isEmpty && lamA C sc j cs l
    | [a, l] => chkEs C es sc [a] && lamA C sc j cs l
    | _ => false))
  | .mml c o m v j cs, sc, .Call (.Attribute x g ap) [l] [] cp => !C.hot && (C.mkl && chkE C o sc x && decide (Str.ofString m = g) && notBare x && (ap.endLine == cp.line) && decide ((v, j, c, m) ∈ C.vmt) && lamA C sc j cs l)
  | .cvl i es, sc, .Call (.Name x _) xs [] _ => !C.hot && (decide (C.lam = some i) && isC C.N i x && visB sc x && okN x && chkEs C es sc xs)
  | .lc own tg k its cd el, sc, .ListComp elt [⟨tg', iter, ifs, asy⟩] scope _ => (!C.hot && C.lam.isNone) && decide (asy = 0) && blkC C.N sc scope (ownP C own) && tgB C scope tg tg' && (tgIx tg).all (fun i => decide (i ∈ own)) && chkEs C cd scope ifs && decide (cd.length ≤ 1) && chkE C el scope elt &&
      !isSet iter && (match k with
      | .seq => chkEs C its sc [iter] && decide (its.length = 1)
      | .rng1 => (match iter with | .Call (.Name x _) [a] [] _ => decide (x = Str.ofString "range") && glB sc x && chkEs C its sc [a] | _ => false)
      | .rng2 => (match iter with | .Call (.Name x _) [a, b] [] _ => decide (x = Str.ofString "range") && glB sc x && chkEs C its sc [a, b] | _ => false)
      | .items => tg.tpl && (match iter with | .Call (.Attribute y g ap) [] [] cp => decide (g = Str.ofString "items") && notBare y && (ap.endLine == cp.line) && chkEs C its sc [y] && decide (its.length = 1) | _ => false)
      | .enum => tg.tpl && (match iter with | .Call (.Name x _) [a] [] _ => decide (x = Str.ofString "enumerate") && glB sc x && chkEs C its sc [a] | _ => false)
      | .vals => (match iter with | .Call (.Attribute y g ap) [] [] cp => decide (g = Str.ofString "values") && notBare y && (ap.endLine == cp.line) && chkEs C its sc [y] && decide (its.length = 1) | _ => false)
      | .zip => tg.tpl && (match iter with | .Call (.Name x _) [a, b] [] _ => decide (x = Str.ofString "zip") && glB sc x && chkEs C its sc [a, b] | _ => false)
      | .own c F => !tg.tpl && (decide ((c, F) ∈ C.ow) && chkEs C its sc [iter] && decide (its.length = 1))
      | _ => false)
  | .dc own tg k its cd ke el, sc, .DictComp kx vx [⟨tg', iter, ifs, asy⟩] scope _ => (!C.hot && C.lam.isNone) && decide (asy = 0) && blkC C.N sc scope (ownP C own) && tgB C scope tg tg' && (tgIx tg).all (fun i => decide (i ∈ own)) && chkEs C cd scope ifs && decide (cd.length ≤ 1) && chkE C ke scope kx && chkE C el scope vx &&
      !isSet iter && (match k with
      | .seq => chkEs C its sc [iter] && decide (its.length = 1)
      | _ => false)
  | _, _, _ => false
def chkEs (C : Ck) : List E → Scope → List Expr → Bool
  | [], _, [] => true
  | e :: es, sc, x :: xs => chkE C e sc x && !isStar x && chkEs C es sc xs
  | _, _, _ => false
end

/-! ## where a body runs -/
def spI (M : Mx) (K : PySem.W.Frag) (cf : CF) (np f : Nat) : Sp := fun vs H Q E => vs.length = np ∧ ∃ ds h as, HI (M.g K) h as H ∧ Reps (M.g K) as H ds vs ∧ post (M.g K) (fun c d _ H => E c d H) (Rep (M.g K)) as H [] (cf f ds h) Q
/-- the def at a is the f-th function -/
def FnB (P : Program) (w : World) (K : PySem.W.Frag) (mg : Str → Option Value) (base : Heap) (M : Mx) (n : Nat) (cf : CF) (a : Addr) (f : Nat) : Prop :=
  ∃ fd ps np, Binds K fd ps [] ∧ ps.length = np ∧ FnG P w K mg base (L2.CX P w) (2 * n + 1) a fd ps (spI M K cf np f) ∧ ∀ ds h, cf f ds h ≠ .no → ds.length = np
def FnsOk (P : Program) (w : World) (K : PySem.W.Frag) (mg : Str → Option Value) (base : Heap) (M : Mx) (C : Ck) (n : Nat) (cf : CF) : Prop :=
  (∀ f x, C.fnm[f]? = some x → ∃ a, mg x = some (.ref a) ∧ M.fa f = some a) ∧ ∀ f a, M.fa f = some a → PySem.W.keepIn K (.ref a) = true ∧ FnB P w K mg base M n cf a f
/-- the classes -/
def ClsOk (P : Program) (w : World) (K : PySem.W.Frag) (mg : Str → Option Value) (base : Heap) (M : Mx) (C : Ck) (n : Nat) (cf : CF) : Prop :=
  ∀ c ci, M.W.cls[c]? = some ci → ∀ Ca, M.ca c = some Ca → Cls K Ca ∧ (∀ f, f ∈ ci.flds → NoAttr K Ca (Str.ofString f)) ∧
    (∀ m f, ci.meths.lookup m = some f → ∃ a, Meth K Ca (Str.ofString m) a ∧ FnB P w K mg base M n cf a f)
/-- the def at a is the f-th function, its last argument is the default at dA -/
def FnBD (P : Program) (w : World) (K : PySem.W.Frag) (mg : Str → Option Value) (base : Heap) (M : Mx) (n : Nat) (cf : CF) (a : Addr) (f : Nat) (dA : Addr) : Prop :=
  ∃ fd ps np, Binds K fd ps [.ref dA] ∧ ps.length = np ∧ FnG P w K mg base (L2.CX P w) (2 * n + 1) a fd ps (spI M K cf np f) ∧ ∀ ds h, cf f ds h ≠ .no → ds.length = np
def MksOk (P : Program) (w : World) (K : PySem.W.Frag) (mg : Str → Option Value) (base : Heap) (M : Mx) (C : Ck) (n : Nat) (cf : CF) : Prop :=
  (∀ c x, c ∈ C.nw → C.cnm[c]? = some x → ∃ ci f Ca a, M.W.cls[c]? = some ci ∧ ci.ini = some f ∧ M.ca c = some Ca ∧ mg x = some (.ref Ca) ∧ Mk K Ca a ∧ FnB P w K mg base M n cf a f) ∧
  (∀ c x, c ∈ C.nd → C.cnm[c]? = some x → ∃ ci f Ca a dA, M.W.cls[c]? = some ci ∧ ci.ini = some f ∧ M.ca c = some Ca ∧ mg x = some (.ref Ca) ∧ Mk K Ca a ∧ M.ga (M.W.cons.length + 1) = some dA ∧ FnBD P w K mg base M n cf a f dA) ∧
  ∀ c F, (c, F) ∈ C.ow → ∀ Ca, M.ca c = some Ca → ∃ a, Meth K Ca ("__iter__" : Str) a ∧ OwI.OwnB P w K mg base 1 Ca a (Str.ofString F)
/-- an exception class, its own __init__ -/
def spX (Ca : Addr) (flds : List String) : Sp := fun vs H Q _ => ∃ a ws, vs = .ref a :: ws ∧ ws.length = flds.length ∧ H a = some (exo a Ca none) ∧
  ∀ d H2, H d = none → d ≠ a → H2 a = some (exo a Ca (some d)) → H2 d = some (exd d ((flds.map Str.ofString).zip ws).reverse) → (∀ b, b ≠ a → b ≠ d → H2 b = H b) → Q .non H2
def ExcsOk (P : Program) (w : World) (K : PySem.W.Frag) (mg : Str → Option Value) (base : Heap) (M : Mx) (C : Ck) : Prop :=
  ∀ c x, c ∈ C.xr → C.cnm[c]? = some x → ∃ Ca fI fd ps, M.ca c = some Ca ∧ mg x = some (.ref Ca) ∧ OexC K Ca ∧ PySem.W.findIn K (.ref Ca) "__init__" = some (some (.ref fI)) ∧ PySem.W.typeIn K (.ref fI) = some (.type "function") ∧
    FnOk P w K mg base CX0 1 fI fd ps (spX Ca (M.W.exf c)) ∧ Binds K fd ps []
/-- what holds of the classes of exceptions, for those who catch -/
structure ExmOk (K : PySem.W.Frag) (mg : Str → Option Value) (M : Mx) (C : Ck) : Prop where
  nm : ∀ k x, k ∈ C.xc → C.cnm[k]? = some x → ∃ Ka, M.ca k = some Ka ∧ mg x = some (.ref Ka)
  exm : ∀ c k Ca Ka, 0 < (M.W.exf c).length → k ∈ C.xc → M.ca c = some Ca → M.ca k = some Ka → PySem.W.exmOne K (.ref Ca) (.ref Ka) = some (M.W.isa c k)
  xf : ∀ c Ca, 0 < (M.W.exf c).length → M.ca c = some Ca → XfC K Ca ∧ ∀ f ∈ M.W.exf c, PySem.W.findIn K (.ref Ca) (Str.ofString f) = some none
  kit : ∀ c k Ca Ka, 0 < (M.W.exf c).length → k ∈ C.xc → M.ca c = some Ca → M.ca k = some Ka → PySem.W.kitOne K (.ref Ca) (.ref Ka) = some (M.W.isa c k)
  xcd : ∀ c Ca, 0 < (M.W.exf c).length → M.ca c = some Ca → ExcD K Ca
/-! ## lambdas -/
/-- what the object of a lambda does, called later on -/
structure LamC (P : Program) (w : World) (K : PySem.W.Frag) (mg : Str → Option Value) (base : Heap) (M : Mx) (k : Nat) (cf : CF) (j : Nat) (caps : List D) (b c' : Addr) (q : Str) (fs : List Addr) (s : Shared) (H : Hp) (as : List Addr) : Prop where
  nb : H b = none
  nf : b ∉ fs
  fn : PySem.W.FnAt b s.heap
  go : ∀ (A : Around) (out : List Env) (s' : Shared) (H' : Hp) (as' : List Addr) (h' : Hs) (us : List Value) (vs : List V) (ds : List D) (Q : VK) (E : XK),
    A.guards = some [] → Room k A → Env0 P w K mg base A out s' H' → Un fs [] H H' s.heap s'.heap → H' c' = some (LamX.CodeO c' q) → Vals vs us → (∀ (n : Nat) (a : Addr), as[n]? = some a → as'[n]? = some a) → HI (M.g K) h' as' H' → Reps (M.g K) as' H' ds vs →
      post (M.g K) (fun c d _ H => E c d H) (Rep (M.g K)) as' H' [] (cf j (caps ++ ds) h') Q → codeAny (model P w) A (.call (.ref b) ⟨us, []⟩) (CR (L2.CX P w) out P w H' s' Q E) s'
/-- the def at a, to which a lambda is given at the end -/
def FnVB (P : Program) (w : World) (K : PySem.W.Frag) (mg : Str → Option Value) (base : Heap) (M : Mx) (n : Nat) (cf : CF) (kl : Nat) (cfl : CF) (a : Addr) (v j k : Nat) : Prop :=
  ∃ fd ps i, Binds K fd ps [] ∧ ps.length = i + 1 ∧ (∀ ds h, cf v ds h ≠ .no → ds.length = i + k) ∧
    ∀ (A : Around) (out : List Env) (s : Shared) (H : Hp) (us : List Value) (vs : List V) (b c' : Addr) (q : Str) (ds caps : List D) (h : Hs) (as : List Addr) (Q : VK) (E : XK),
      A.guards = some [] → Room (2 * n + 1) A → Env0 P w K mg base A out s H → BindsTo s fd ⟨us, []⟩ (ps.zip us) → Vals (vs ++ [.ref b]) us → vs.length = i → LamC P w K mg base M kl cfl j caps b c' q (frs out) s H as → c' ∉ as → H c' = some (LamX.CodeO c' q) →
      HI (M.g K) h as H → Reps (M.g K) as H ds vs → post (M.g K) (fun c d _ H => E c d H) (Rep (M.g K)) as H [] (cf v (ds ++ caps) h) Q →
      codeAny (model P w) A (.call (.ref a) ⟨us, []⟩) (CR (L2.CX P w) out P w H s Q E) s
/-- a lambda's cells and what they hold -/
structure CelC (K : PySem.W.Frag) (M : Mx) (scope : Scope) (cl : List (Str × Addr)) (capN : List Str) (caps : List D) (s : Shared) (H : Hp) (as : List Addr) : Prop where
  cell : ∀ y c, cl.lookup y = some c → (∃ v, s.heap.IsCell c v) ∧ H c = none
  inj : ∀ y z c, cl.lookup y = some c → cl.lookup z = some c → y = z
  has : ∀ y, scope.names.lookup y = some .free → ∃ c, cl.lookup y = some c
  len : caps.length = capN.length
  cap : ∀ (i : Nat) y d, capN[i]? = some y → caps[i]? = some d → ∃ c u v, cl.lookup y = some c ∧ s.heap.IsCell c (some u) ∧ RelV v u ∧ Rep (M.g K) as H d v
/-- the lambdas that may be made, the defs to which they are given -/
structure VirOk (P : Program) (w : World) (K : PySem.W.Frag) (mg : Str → Option Value) (base : Heap) (M : Mx) (C : Ck) (n : Nat) (cf : CF) (kl : Nat) (cfl : CF) : Prop where
  fn : ∀ v j x, (v, j, x) ∈ C.vnm → ∃ a, mg x = some (.ref a) ∧ PySem.W.keepIn K (.ref a) = true ∧ ∀ capN ps, C.lms j = some (capN, ps) → FnVB P w K mg base M n cf kl cfl a v j capN.length
  mt : ∀ v j c m, (v, j, c, m) ∈ C.vmt → ∃ ci, M.W.cls[c]? = some ci ∧ ∀ Ca, M.ca c = some Ca → ∃ a, Meth K Ca (Str.ofString m) a ∧ ∀ capN ps, C.lms j = some (capN, ps) → FnVB P w K mg base M n cf kl cfl a v j capN.length
  make : ∀ j capN ps, C.lms j = some (capN, ps) → ∀ (sc scope : Scope) (body : Expr) (params : Arguments), C.lamB j scope body = true → parsB params = some ps → lamScB sc scope capN ps = true →
    ∀ (q : Str) (cl : List (Str × Addr)) (b c' : Addr) (pm ctv : Value) (fs : List Addr) (s : Shared) (H : Hp) (as : List Addr) (caps : List D),
      s.heap.get? b = some (PySem.W.kla_obj "<lambda>" q params body scope cl pm c' ctv) → H b = none → b ∉ fs → CelC K M scope cl capN caps s H as → LamC P w K mg base M kl cfl j caps b c' q fs s H as
def Mx.z (M : Mx) : Mx := { M with cx := none, xd := none, ex := none, lc := none }
/-- where nothing is handled -/
structure Cool (X : Cx) (M : Mx) (C : Ck) (n : Nat) (cf : CF) : Prop where
  calm : X.calm = true
  room : Room (2 * n + 2) X.A
  nex : C.lam = none → M.ex = none
  nxd : M.xd = none
  ncx : C.lam = none → M.cx = none
  vir : ∃ kl cfl, VirOk X.prog X.w X.K X.mg X.base M.z C n cf kl cfl
  fns : FnsOk X.prog X.w X.K X.mg X.base M.z C n cf
  cls : ClsOk X.prog X.w X.K X.mg X.base M.z C n cf
  mks : MksOk X.prog X.w X.K X.mg X.base M.z C n cf
  exs : ExcsOk X.prog X.w X.K X.mg X.base M C
  exm : ExmOk X.K X.mg M C
/-- the dicts of the module -/
def DctOk (M : Mx) (C : Ck) (K : PySem.W.Frag) (w : World) (mg : Str → Option Value) : Prop := ∀ (g : Nat) (x : Str), C.dnm[g]? = some x → ∃ (a : Addr) (kvs : List (List Char × D)), mg x = some (.ref a) ∧ M.W.dcs[g]? = some kvs ∧ (∃ es n, KDict K w a es n) ∧
  ∀ z : List Char, (∀ v, kvs.lookup z = some v → ∃ (u : Value) (vv : V), PySem.W.nsIn K a (st z) = some (some u) ∧ RelV vv u ∧ ∀ (G : Gx) (as : List Addr) (H : Hp), G.fa = M.fa → Rep G as H v vv) ∧ (kvs.lookup z = none → PySem.W.nsIn K a (st z) = some none)
structure Cok (X : Cx) (M : Mx) (C : Ck) (sc : Scope) (n : Nat) (Wx : WX) (cf : CF) : Prop where
  cool : C.hot = false → Cool X M C n cf
  exr : ∀ i x f p pos, C.hot = true → C.exn = some i → C.N[i]? = some x → Vis X.env.scope x → okN x = true → PE X (.Attribute (.Name x p) (Str.ofString f) pos) (tE (M.g X.K) Wx (evalE M.W cf M.cx (.exf i f)))
  lmr : ∀ i x es xs p pos, C.hot = false → C.lam = some i → C.N[i]? = some x → Vis X.env.scope x → okN x = true → chkEs C es sc xs = true → PA X xs (tEs (M.g X.K) Wx (evalEs M.W cf M.cx es)) → PE X (.Call (.Name x p) xs [] pos) (tE (M.g X.K) Wx (evalE M.W cf M.cx (.cvl i es)))
  lmk : C.hot = false → C.mkl = true → ∃ c P, X.env.code = .ref c ∧ LamX.TabB X.base X.mg c P ∧ (P, X.env.qual ++ "<lambda>") ∈ M.tb ∧ ∀ p ∈ M.tb, p.1 = P → p.2 = X.env.qual ++ "<lambda>"
  N : X.N = C.N
  nd : X.N.Nodup
  vis : ∀ x, visB sc x = true → Vis X.env.scope x
  loc : ∀ x, locB sc x = true → Loc X.env.scope x ∧ (X.fn x = true ∨ X.env.scope.names.lookup x = some .local)
  gl : ∀ x, glB sc x = true → Gl X x
  scn : ∀ (x : Str) k, k ≠ .free → sc.names.lookup x = some k → X.env.scope.names.lookup x = some k
  scf : ∀ (x : Str), sc.names.lookup x = some .free → X.env.scope.names.lookup x = some .free ∨ X.env.scope.names.lookup x = some .cell
  hu : X.A.units + 200 < cLine
  gd : X.A.guards = some []
  tk : Takes X Wx
  pas : PassesOwn (model X.prog X.w) X.A X.env X.xe
  con : ConOk M X.K
  scr : ScrOk M X.K
  glb : ∀ g x, C.gnm[g]? = some x → ∃ a, X.mg x = some (.ref a) ∧ M.ga g = some a
  bl : ∀ x ∈ bltNames, X.mg x = none
  gs : ∀ (g : Nat) (x : Str) (s : List Char), C.snm[g]? = some (x, s) → ∃ t, X.mg x = some (.str (st s) t)
  gi : ∀ (g : Nat) (x : Str) (i : Int), C.inm[g]? = some (x, i) → ∃ t, X.mg x = some (.int i t)
  dc : DctOk M C X.K X.w X.mg
  exq : ∀ i k x y p p2 p3 pos, C.hot = true → C.exn = some i → C.N[i]? = some x → Vis X.env.scope x → okN x = true → k ∈ C.xc → C.cnm[k]? = some y → glB sc y = true → okN y = true → glB sc (Str.ofString "isinstance") = true → PE X (.Call (.Name (Str.ofString "isinstance") p) [.Name x p2, .Name y p3] [] pos) (tE (M.g X.K) Wx (evalE M.W cf M.cx (.exi i k)))
section
variable {X : Cx} {M : Mx} {C : Ck} {sc : Scope} {n : Nat} {Wx : WX} {cf : CF}
/-! ## the plain relation and that of a frame -/
mutual
theorem rep_g {G G' : Gx} (h1 : G'.fa = G.fa) (h2 : G'.ga = G.ga) {as : List Addr} {H : Hp} : ∀ {d : D} {v : V}, Rep G as H d v → Rep G' as H d v
  | .non, _, h => h
  | .bl _, _, h => h
  | .int _, _, h => h
  | .str _, _, h => h
  | .tup ds, v, h => by
    simp only [Rep] at h ⊢
    obtain ⟨a, vs, e, q1, q2⟩ := h
    exact ⟨a, vs, e, q1, reps_g h1 h2 q2⟩
  | .ob _, _, h => h
  | .fn _, _, h => by simp only [Rep] at h ⊢; rw [h1]; exact h
  | .con _, _, h => by simp only [Rep] at h ⊢; rw [h2]; exact h
theorem reps_g {G G' : Gx} (h1 : G'.fa = G.fa) (h2 : G'.ga = G.ga) {as : List Addr} {H : Hp} : ∀ {ds : List D} {vs : List V}, Reps G as H ds vs → Reps G' as H ds vs
  | [], _, h => h
  | d :: ds, vs, h => by
    simp only [Reps] at h ⊢
    obtain ⟨v, r, e, q1, q2⟩ := h
    exact ⟨v, r, e, rep_g h1 h2 q1, reps_g h1 h2 q2⟩
end
theorem repF_g {G G' : Gx} (h1 : G'.fa = G.fa) (h2 : G'.ga = G.ga) {as : List Addr} {H : Hp} {fs : List (String × D)} {vs : List (Str × V)} (h : RepF G as H fs vs) : RepF G' as H fs vs := Paired.mapP h fun _ _ z => ⟨z.1, rep_g h1 h2 z.2⟩
theorem obR_g {G G' : Gx} (h1 : G'.fa = G.fa) (h2 : G'.ga = G.ga) (h3 : G'.ca = G.ca) {as : List Addr} {H : Hp} {a : Addr} : ∀ {mo : MO}, ObR G as H a mo → ObR G' as H a mo
  | .lst xs, ⟨vs, q1, q2⟩ => ⟨vs, q1, reps_g h1 h2 q2⟩
  | .dic lk false kvs, ⟨vs, q1, q2⟩ => ⟨vs, q1, Paired.mapP q2 fun _ _ z => ⟨z.1, rep_g h1 h2 z.2⟩⟩
  | .dic lk true kvs, ⟨vs, q1, q2⟩ => ⟨vs, q1, Paired.mapP q2 fun _ _ z => ⟨z.1, rep_g h1 h2 z.2⟩⟩
  | .ins c fs, ⟨C, dx, vs, q0, q1, q2⟩ => ⟨C, dx, vs, by rw [h3]; exact q0, q1, repF_g h1 h2 q2⟩
  | .scr ns, q => q
  | .ptp xs, ⟨o, vs, q1, q2, q3, q4⟩ => ⟨o, vs, q1, q2, q3, reps_g h1 h2 q4⟩
section
variable {M M' : Mx} {K : PySem.W.Frag} {as as' : List Addr} {H H' : Hp} {h h' : Hs}
theorem HI.z (i : HI (M.g K) h as H) : HI (M.z.g K) h as H := ⟨⟨fun _ _ q => (nomatch (show (none : Option (Addr × List (String × D))) = some _ from q)), fun _ _ _ q => (nomatch (show (none : Option (Addr × Str × List Addr)) = some _ from q))⟩, i.tb, i.len, i.nd, fun n mo a e1 e2 => obR_g (G := M.g K) (G' := M.z.g K) rfl rfl rfl (i.ob n mo a e1 e2)⟩
theorem HI.unz (x : XdR (M.g K) as H) (i : HI (M.z.g K) h as H) : HI (M.g K) h as H := ⟨x, i.tb, i.len, i.nd, fun n mo a e1 e2 => obR_g (G := M.z.g K) (G' := M.g K) rfl rfl rfl (i.ob n mo a e1 e2)⟩
theorem rep_z {d : D} {v : V} (r : Rep (M.g K) as H d v) : Rep (M.z.g K) as H d v := rep_g (G := M.g K) (G' := M.z.g K) rfl rfl r
theorem rep_unz {d : D} {v : V} (r : Rep (M.z.g K) as H d v) : Rep (M.g K) as H d v := rep_g (G := M.z.g K) (G' := M.g K) rfl rfl r
theorem reps_z {d : List D} {v : List V} (r : Reps (M.g K) as H d v) : Reps (M.z.g K) as H d v := reps_g (G := M.g K) (G' := M.z.g K) rfl rfl r
theorem post_z {Wx : WX} {σ σ' : L2.St} {r : R D} {Q : VK} {Wx' : WX} (hw : ∀ c d H, Wx c d σ H → Wx' c d σ' H) (x : XdR (M.g K) as H) (p : post (M.g K) Wx (Rep (M.g K)) as H σ r Q) : post (M.z.g K) Wx' (Rep (M.z.g K)) as H σ' r Q := by
  cases r with
  | ok d h => exact fun v as' H' e i r => p v as' H' e (i.unz (x.ext e)) (rep_unz r)
  | exc c fs h => exact fun C dx vs as' H' e i q1 q2 q3 => hw _ _ _ (p C dx vs as' H' e (i.unz (x.ext e)) q1 q2 (repF_g (G := M.z.g K) (G' := M.g K) rfl rfl q3))
  | no => exact p
end
/-- weaker reading -/
theorem pe_imp {e : Expr} {t t' : TE} (h : PE X e t) (i : ∀ σ H Q, t' σ H Q → t σ H Q) : PE X e t' := ⟨fun pins s σ H Q I q => h.run pins s σ H Q I (i σ H Q q)⟩
theorem pt_imp {e : Expr} {t t' : TT} (h : PT X e t) (i : ∀ σ H Q, t' σ H Q → t σ H Q) : PT X e t' := ⟨fun pins s σ H Q I q => h.run pins s σ H Q I (i σ H Q q)⟩
theorem pw_imp {e : Expr} {t t' : TT} (h : PW X e t) (i : ∀ σ H Q, t' σ H Q → t σ H Q) : PW X e t' := ⟨fun wh pins s σ H Q I q => h.run wh pins s σ H Q I (i σ H Q q)⟩
theorem pa_imp {e : List Expr} {t t' : TA} (h : PA X e t) (i : ∀ σ H Q, t' σ H Q → t σ H Q) : PA X e t' := ⟨fun pos pins s σ H Q I q => h.run pos pins s σ H Q I (i σ H Q q)⟩
/-- one part, then the rest -/
theorem then1 {G : Gx} {ev : Sg → Hs → R D} {β : Type} {γ : Type} {Rl : List Addr → Hp → γ → β → Prop} {f : D → Hs → R γ} {σI : Sg} {h : Hs} {as : List Addr} {σ : L2.St} {H : Hp} {Q : β → Hp → Prop}
    (sl : SL G σI as H σ) (hi : HI G h as H) (p : post G Wx Rl as H σ ((ev σI h).bind f) Q) :
    tE G Wx ev σ H fun x H1 => ∃ d h1 as1, ev σI h = .ok d h1 ∧ Ext as H as1 H1 ∧ SL G σI as1 H1 σ ∧ HI G h1 as1 H1 ∧ Rep G as1 H1 d x ∧ post G Wx Rl as1 H1 σ (f d h1) Q :=
  ⟨σI, h, as, sl, hi, (post.bind (Rl := Rep G) p).imp fun v H1 ⟨d, h1, as1, e, x, i, r, q⟩ => ⟨d, h1, as1, e, x, sl.mono x, i, r, q⟩⟩
theorem thens {G : Gx} {ev : Sg → Hs → R (List D)} {β : Type} {γ : Type} {Rl : List Addr → Hp → γ → β → Prop} {f : List D → Hs → R γ} {σI : Sg} {h : Hs} {as : List Addr} {σ : L2.St} {H : Hp} {Q : β → Hp → Prop}
    (sl : SL G σI as H σ) (hi : HI G h as H) (p : post G Wx Rl as H σ ((ev σI h).bind f) Q) :
    tEs G Wx ev σ H fun x H1 => ∃ d h1 as1, ev σI h = .ok d h1 ∧ Ext as H as1 H1 ∧ SL G σI as1 H1 σ ∧ HI G h1 as1 H1 ∧ Reps G as1 H1 d x ∧ post G Wx Rl as1 H1 σ (f d h1) Q :=
  ⟨σI, h, as, sl, hi, (post.bind (Rl := Reps G) p).imp fun v H1 ⟨d, h1, as1, e, x, i, r, q⟩ => ⟨d, h1, as1, e, x, sl.mono x, i, r, q⟩⟩
/-- a test out of a value -/
theorem mkT {e : Expr} {ev : Sg → Hs → R D} (h : PE X e (tE (M.g X.K) Wx ev)) (he : ∀ whole, isTrue e X.env whole = (do let v ← whole; standAt e.pos; holding [v] (truthy v))) : PT X e (tT (M.g X.K) Wx ev) := by
  refine pt_imp (pt_truth h he) ?_
  rintro σ H Q ⟨σI, h, as, sl, hi, p⟩
  obtain ⟨σI', h', as', sl', hi', p'⟩ := then1 sl hi p
  refine ⟨σI', h', as', sl', hi', p'.imp ?_⟩
  rintro v H1 ⟨d, h1, as1, _, x, _, i, r, q⟩
  unfold truthR at q
  cases hb : truth d h1 with
  | none => rw [hb] at q; exact q.elim
  | some b =>
    rw [hb] at q
    exact ⟨b, truth_ok (M := M) i r hb, q b as1 H1 Ext.refl i rfl⟩
end
end Rf
end

section
namespace Rf
open PySem PySem.Spec PyProof.Rows L2

theorem okN_ok {x : Str} (h : okN x = true) : (x == ("__debug__" : Str)) = false ∧ (x == ("__classdict__" : Str)) = false ∧ x ≠ "__name__" := by
  simp only [okN, Bool.and_eq_true, Bool.not_eq_true'] at h
  exact ⟨h.1.1.1, h.1.1.2, fun e => by rw [e, beq_self_eq_true] at h; cases h.1.2⟩
theorem star_one {e : Expr} (h : isStar e = false) (r : List Expr) (env : Env) : starEach (e :: r) env = (false, eval e env) :: starEach r env := by
  cases e <;> first | rfl | (simp [isStar] at h)
theorem chkEs_star {C : Ck} {sc : Scope} {env : Env} {pos : Pos} : ∀ {es : List E} {xs : List Expr}, chkEs C es sc xs = true → (backTo pos (starEach xs env)).any (·.1) = false
  | [], [], _ => rfl
  | e :: es, x :: xs, h => by
    simp only [chkEs, Bool.and_eq_true, Bool.not_eq_true'] at h
    rw [star_one h.1.2]
    show (false || (backTo pos (starEach xs env)).any (·.1)) = false
    rw [chkEs_star h.2]; rfl
  | [], _ :: _, h => by simp [chkEs] at h
  | _ :: _, [], h => by simp [chkEs] at h
theorem bare_ok {o : Expr} {a : Str} {env : Env} {whole : Sem Value} (h : notBare o = true) : attributeBase o a env whole = whole := by
  unfold attributeBase
  split
  · rename_i id p pos
    have h' : (id != "super") = true := h
    simp only [h', Bool.true_or, if_true]
  · rfl
section
variable {X : Cx} {M : Mx} {C : Ck} {sc : Scope} {n : Nat} {Wx : WX} {cf : CF}
abbrev SE (M : Mx) (X : Cx) (Wx : WX) (cf : CF) (ie : E) (e : Expr) : Prop := PE X e (tE (M.g X.K) Wx (evalE M.W cf M.cx ie)) ∧ PT X e (tT (M.g X.K) Wx (evalE M.W cf M.cx ie))
theorem se_var (K : Cok X M C sc n Wx cf) {i : Nat} {x : Str} {pos : Pos} (h1 : isC C.N i x = true) (h2 : visB sc x = true) (h3 : okN x = true) : PE X (.Name x pos) (tE (M.g X.K) Wx (evalE M.W cf M.cx (.var i))) := by
  obtain ⟨d1, d2, _⟩ := okN_ok h3
  refine pe_imp (pe_var (i := i) (by rw [K.N]; exact isC_ok h1) (K.vis x h2) d1 d2) ?_
  rintro σ H Q ⟨σI, h, as, sl, hi, p⟩
  simp only [evalE] at p
  split at p
  · rename_i d e
    obtain ⟨v, e1, r⟩ := sl.at_ i d e
    exact ⟨v, e1, p v as H Ext.refl hi r⟩
  · exact p.elim
theorem se_cst {d : D} {c : Const} {k : Nat} {pos : Pos} (h : cstB d c = true) : PE X (.Constant c k pos) (tE (M.g X.K) Wx (evalE M.W cf M.cx (.cst d))) := by
  have fin : ∀ {v : V}, PE X (.Constant c k pos) (tC v) → (∀ as H, Rep (M.g X.K) as H d v) → PE X (.Constant c k pos) (tE (M.g X.K) Wx (evalE M.W cf M.cx (.cst d))) := by
    intro v hp hr
    refine pe_imp hp ?_
    rintro σ H Q ⟨σI, h, as, sl, hi, p⟩
    exact p v as H Ext.refl hi (hr as H)
  cases d <;> cases c <;> simp only [cstB, Bool.false_eq_true] at h
  · exact fin pe_non fun _ _ => by simp only [Rep]
  · obtain rfl := eq_of_beq h
    exact fin pe_bl fun _ _ => by simp only [Rep]
  · obtain rfl := of_decide_eq_true h
    exact fin pe_int fun _ _ => by simp only [Rep]
  · obtain rfl := of_decide_eq_true h
    exact fin pe_str fun _ _ => by simp only [Rep]
theorem se_glb (K : Cok X M C sc n Wx cf) {g : Nat} {x : Str} {pos : Pos} (h1 : isC C.gnm g x = true) (h2 : glB sc x = true) (h3 : okN x = true) : PE X (.Name x pos) (tE (M.g X.K) Wx (evalE M.W cf M.cx (.glb g))) := by
  obtain ⟨a, m1, m2⟩ := K.glb g x (isC_ok h1)
  refine pe_imp (pe_glob (v := .ref a) (K.gl x h2) m1 rfl (okN_ok h3).1) ?_
  rintro σ H Q ⟨σI, h, as, sl, hi, p⟩
  exact p _ as H Ext.refl hi (by simp only [Rep]; exact ⟨a, rfl, m2⟩)
theorem se_fnv (K : Cok X M C sc n Wx cf) (hh : C.hot = false) {f : Nat} {x : Str} {pos : Pos} (h1 : isC C.fnm f x = true) (h2 : glB sc x = true) (h3 : okN x = true) : PE X (.Name x pos) (tE (M.g X.K) Wx (evalE M.W cf M.cx (.fnv f))) := by
  obtain ⟨a, m1, m2⟩ := (K.cool hh).fns.1 f x (isC_ok h1)
  refine pe_imp (pe_glob (v := .ref a) (K.gl x h2) m1 rfl (okN_ok h3).1) ?_
  rintro σ H Q ⟨σI, h, as, sl, hi, p⟩
  exact p _ as H Ext.refl hi (by simp only [Rep]; exact ⟨a, rfl, m2⟩)
theorem se_gst (K : Cok X M C sc n Wx cf) {g : Nat} {s : List Char} {x : Str} {pos : Pos} (h1 : C.snm[g]? = some (x, s)) (h2 : glB sc x = true) (h3 : okN x = true) : PE X (.Name x pos) (tE (M.g X.K) Wx (evalE M.W cf M.cx (.gst g s))) := by
  obtain ⟨t, m1⟩ := K.gs g x s h1
  refine pe_imp (pe_glob (v := .str (st s)) (K.gl x h2) m1 ⟨t, rfl⟩ (okN_ok h3).1) ?_
  rintro σ H Q ⟨σI, h, as, sl, hi, p⟩
  exact p _ as H Ext.refl hi (by simp only [Rep])
theorem se_gni (K : Cok X M C sc n Wx cf) {g : Nat} {i : Int} {x : Str} {pos : Pos} (h1 : C.inm[g]? = some (x, i)) (h2 : glB sc x = true) (h3 : okN x = true) : PE X (.Name x pos) (tE (M.g X.K) Wx (evalE M.W cf M.cx (.gni g i))) := by
  obtain ⟨t, m1⟩ := K.gi g x i h1
  refine pe_imp (pe_glob (v := .int i) (K.gl x h2) m1 ⟨t, rfl⟩ (okN_ok h3).1) ?_
  rintro σ H Q ⟨σI, h, as, sl, hi, p⟩
  exact p _ as H Ext.refl hi (by simp only [Rep])
/-- two operands -/
def r2 (M : Mx) (K : PySem.W.Frag) (Wx : WX) (σ : L2.St) (f : D → D → Hs → R D) : R2 := fun x y H Q => ∃ dx dy h as, HI (M.g K) h as H ∧ Rep (M.g K) as H dx x ∧ Rep (M.g K) as H dy y ∧ post (M.g K) Wx (Rep (M.g K)) as H σ (f dx dy h) Q
theorem to2 {ea eb : Sg → Hs → R D} {f : D → D → Hs → R D} {σ : L2.St} {H : Hp} {Q : VK}
    (h : tE (M.g X.K) Wx (fun σ h => (ea σ h).bind fun x h => (eb σ h).bind fun y h => f x y h) σ H Q) :
    ∀ σI h as, SL (M.g X.K) σI as H σ → HI (M.g X.K) h as H → post (M.g X.K) Wx (Rep (M.g X.K)) as H σ ((ea σI h).bind fun x h => (eb σI h).bind fun y h => f x y h) Q → tOp (r2 M X.K Wx σ f) (tE (M.g X.K) Wx ea) (tE (M.g X.K) Wx eb) σ H Q := by
  intro σI h as sl hi p
  obtain ⟨σI', h', as', sl', hi', p'⟩ := then1 sl hi p
  refine ⟨σI', h', as', sl', hi', p'.imp ?_⟩
  rintro x H1 ⟨dx, h1, as1, _, x1, sl1, i1, r1, q1⟩
  obtain ⟨σI', h', as', sl', hi', p'⟩ := then1 sl1 i1 q1
  refine ⟨σI', h', as', sl', hi', p'.imp ?_⟩
  rintro y H2 ⟨dy, h2, as2, _, x2, sl2, i2, rr2, q2⟩
  exact ⟨dx, dy, h2, as2, i2, r1.mono x2, rr2, q2⟩
theorem se_bin (K : Cok X M C sc n Wx cf) {o : Op} {op : Operator} {a b : E} {x y : Expr} {pos : Pos} (ho : opB o op = true) (ha : SE M X Wx cf a x) (hb : SE M X Wx cf b y) : PE X (.BinOp x op y pos) (tE (M.g X.K) Wx (evalE M.W cf M.cx (.bin o a b))) := by
  refine ⟨fun pins s σ H Q I h => ?_⟩
  obtain ⟨σI, h, as, sl, hi, p⟩ := h
  refine (pe_op (r := r2 M X.K Wx σ (opD o)) ?_ ha.1 hb.1).run pins s σ H Q I (to2 (Q := Q) ⟨σI, h, as, sl, hi, p⟩ σI h as sl hi p)
  rintro pins s σ' H x y v u Q I rx ry ⟨dx, dy, h, as, hi, r1, r2, p⟩
  exact opD_ok (Wx := fun c d _ H => Wx c d σ H) (opB_ok ho) I rx ry hi r1 r2 (by cases hh : opD o dx dy h <;> rw [hh] at p <;> exact p)
theorem cmpR (K : Cok X M C sc n Wx cf) (o : Cp) (σ : L2.St) : OpR X (compareOp (cpOf o)) (r2 M X.K Wx σ (cmpA M.W.cons o)) := by
  rintro pins s σ' H x y v u Q I rx ry ⟨dx, dy, h, as, hi, r1, r2, p⟩
  exact cmpA_ok (Wx := fun c d _ H => Wx c d σ H) K.hu K.con I rx ry hi r1 r2 (by cases hh : cmpA M.W.cons o dx dy h <;> rw [hh] at p <;> exact p)
theorem cmpA_bl {cs : List (List D)} {o : Cp} {x y d : D} {h h' : Hs} (e : cmpA cs o x y h = .ok d h') : ∃ b, d = .bl b := by
  have ci : ∀ {g : Int → Int → Bool}, cmpI g x y h = .ok d h' → ∃ b, d = .bl b := by
    intro g e
    unfold cmpI at e
    split at e
    · cases e; exact ⟨_, rfl⟩
    · cases e
  have dc : ∀ {q : List (D × D) × List (D × D)} {g : Bool → Bool}, ((ofO (eqKV q.1 q.2) h).bind fun b h => R.ok (.bl (g b)) h) = .ok d h' → ∃ b, d = .bl b := by
    intro q g e
    cases hh : eqKV q.1 q.2 <;> rw [hh] at e <;> cases e
    exact ⟨_, rfl⟩
  cases o <;> simp only [cmpA, cmpD] at e
  · split at e
    · exact dc (g := fun b => b) e
    · split at e
      · cases e; exact ⟨_, rfl⟩
      · cases e
  · split at e
    · exact dc (g := fun b => !b) e
    · split at e
      · cases e; exact ⟨_, rfl⟩
      · cases e
  · exact ci e
  · exact ci e
  · exact ci e
  · exact ci e
  · cases hh : inD cs x y h <;> rw [hh] at e <;> cases e; exact ⟨_, rfl⟩
  · cases hh : inD cs x y h <;> rw [hh] at e <;> cases e; exact ⟨_, rfl⟩
  · split at e
    · cases e; exact ⟨_, rfl⟩
    · split at e
      · cases e; exact ⟨_, rfl⟩
      · cases e
    · cases e
  · split at e
    · cases e; exact ⟨_, rfl⟩
    · split at e
      · cases e; exact ⟨_, rfl⟩
      · cases e
    · cases e
theorem R.bind_assoc {α β γ : Type} (r : R α) (f : α → Hs → R β) (g : β → Hs → R γ) : (r.bind f).bind g = r.bind fun a h => (f a h).bind g := by
  cases r <;> rfl
theorem mark_ok {o : Cp} {y : Expr} (h : isSet y = false) : behindInMarks (cpOf o) y = false := by
  cases y <;> first | rfl | (simp [isSet] at h)
theorem se_cmp (K : Cok X M C sc n Wx cf) {o : Cp} {op : CmpOp} {a b : E} {x y : Expr} {pos : Pos} (ho : cpB o op = true) (ha : SE M X Wx cf a x) (hb : SE M X Wx cf b y) (hs : isSet y = false) : SE M X Wx cf (.cmp o a b) (.Compare x [op] [y] pos) := by
  obtain rfl := cpB_ok ho
  constructor
  · refine ⟨fun pins s σ H Q I h => ?_⟩
    obtain ⟨σI, h, as, sl, hi, p⟩ := h
    exact (pe_cmpR (cmpR K o σ) ha.1 hb.1 (mark_ok hs)).run pins s σ H Q I (to2 (Q := Q) ⟨σI, h, as, sl, hi, p⟩ σI h as sl hi p)
  · refine ⟨fun pins s σ H Q I h => ?_⟩
    obtain ⟨σI, h, as, sl, hi, p⟩ := h
    refine (pt_cmpR (cmpR K o σ) ha.1 hb.1 (mark_ok hs)).run pins s σ H Q I ?_
    have p2 : post (M.g X.K) Wx (Rep (M.g X.K)) as H σ (evalE M.W cf M.cx (.cmp o a b) σI h) (fun v H1 => ∃ k, v = .bl k ∧ Q k H1) := by
      simp only [evalE] at p ⊢
      cases e1 : evalE M.W cf M.cx a σI h with
      | ok dx h1 =>
        rw [e1] at p
        simp only [R.bind_ok] at p ⊢
        cases e2 : evalE M.W cf M.cx b σI h1 with
        | ok dy h2 =>
          rw [e2] at p
          simp only [R.bind_ok] at p ⊢
          cases e3 : cmpA M.W.cons o dx dy h2 with
          | ok d h3 =>
            rw [e3] at p
            obtain ⟨c, rfl⟩ := cmpA_bl e3
            rintro v as' H' x' i' r'
            simp only [Rep] at r'
            exact ⟨c, r', p c as' H' x' i' rfl⟩
          | exc c fs h3 => rw [e3] at p; exact p
          | no => rw [e3] at p; exact p
        | exc c fs h2 => rw [e2] at p; exact p
        | no => rw [e2] at p; exact p
      | exc c fs h1 => rw [e1] at p; exact p
      | no => rw [e1] at p; exact p
    exact to2 (Q := fun v H1 => ∃ k, v = .bl k ∧ Q k H1) ⟨σI, h, as, sl, hi, p2⟩ σI h as sl hi p2
end
end Rf
end

section
namespace Rf
open PySem PySem.Spec PyProof.Rows L2

theorem mcall {o : Expr} {m : Str} {apos pos : Pos} {xs : List Expr} {env : Env} (hb : attributeBase o m env (eval o env) = eval o env)
    (hf : methodCallForm (xs.length + ([] : List Keyword).length) (backTo pos (starEach xs env)) (backToKw pos (keywordEach [] env)) = true) (hl : (apos.endLine == pos.line) = true) :
    eval (.Call (.Attribute o m apos) xs [] pos) env = (do
      let ov ← eval o env
      standAt apos.atName
      let (f, first) ← holding [ov] (getMethod ov m (do return (← importBound o env).getD true))
      callWith pos f first (backTo pos (starEach xs env)) (backToKw pos (keywordEach [] env))) := by
  refine mcall_of (kws := []) hb fun ov => ?_
  unfold methodCall methodCallPos calleeOf
  rw [hf]
  simp only [if_true, Bool.not_true, Bool.false_or, hl]
  rfl
theorem chkEs_form {C : Ck} {sc : Scope} {env : Env} {pos : Pos} : ∀ {es : List E} {xs : List Expr}, chkEs C es sc xs = true → (backTo pos (starEach xs env)).all (fun x => !x.1) = true
  | [], [], _ => rfl
  | e :: es, x :: xs, h => by
    simp only [chkEs, Bool.and_eq_true, Bool.not_eq_true'] at h
    rw [star_one h.1.2]
    show (!false && (backTo pos (starEach xs env)).all (fun x => !x.1)) = true
    rw [chkEs_form h.2]; rfl
  | [], _ :: _, h => by simp [chkEs] at h
  | _ :: _, [], h => by simp [chkEs] at h
section
variable {X : Cx} {M : Mx} {C : Ck} {sc : Scope} {n : Nat} {Wx : WX} {cf : CF}
theorem se_chn (K : Cok X M C sc n Wx cf) {o o' : Cp} {op op' : CmpOp} {a b c : E} {x y z : Expr} {pos : Pos} (ho : cpB o op = true) (ho' : cpB o' op' = true) (ha : SE M X Wx cf a x) (hb : SE M X Wx cf b y) (hc : SE M X Wx cf c z) (hs : isSet z = false) :
    SE M X Wx cf (.chn o o' a b c) (.Compare x [op, op'] [y, z] pos) := by
  obtain rfl := cpB_ok ho
  obtain rfl := cpB_ok ho'
  have key : ∀ {σ H} {Q : VK} {σI h as}, SL (M.g X.K) σI as H σ → HI (M.g X.K) h as H → post (M.g X.K) Wx (Rep (M.g X.K)) as H σ (evalE M.W cf M.cx (.chn o o' a b c) σI h) Q →
      tChain (r2 M X.K Wx σ (cmpA M.W.cons o)) (r2 M X.K Wx σ (cmpA M.W.cons o')) (tE (M.g X.K) Wx (evalE M.W cf M.cx a)) (tE (M.g X.K) Wx (evalE M.W cf M.cx b)) (tE (M.g X.K) Wx (evalE M.W cf M.cx c)) σ H Q := by
    intro σ H Q σI h as sl hi p
    simp only [evalE] at p
    obtain ⟨q1, q2, q3, sl', hi', p'⟩ := then1 sl hi p
    refine ⟨q1, q2, q3, sl', hi', p'.imp ?_⟩
    rintro x H1 ⟨dx, h1, as1, _, x1, sl1, i1, r1, p1⟩
    obtain ⟨q1, q2, q3, sl', hi', p'⟩ := then1 sl1 i1 p1
    refine ⟨q1, q2, q3, sl', hi', p'.imp ?_⟩
    rintro y H2 ⟨dy, h2, as2, _, x2, sl2, i2, r2, p2⟩
    refine ⟨dx, dy, h2, as2, i2, r1.mono x2, r2, (post.bind (Rl := Rep (M.g X.K)) p2).imp ?_⟩
    rintro z H3 ⟨dz, h3, as3, e3, x3, i3, r3, p3⟩
    obtain ⟨k, rfl⟩ := cmpA_bl e3
    simp only [Rep] at r3
    refine ⟨k, r3, ?_⟩
    cases k with
    | false => exact p3 _ as3 H3 Ext.refl i3 (by simp only [Rep])
    | true =>
      rw [if_pos rfl]
      obtain ⟨q1, q2, q3, sl', hi', p'⟩ := then1 (sl2.mono x3) i3 p3
      refine ⟨q1, q2, q3, sl', hi', p'.imp ?_⟩
      rintro w H4 ⟨dw, h4, as4, _, x4, sl4, i4, r4, p4⟩
      exact ⟨dy, dw, h4, as4, i4, (r2.mono x3).mono x4, r4, p4⟩
  have hm : lastMarks [cpOf o, cpOf o'] [y, z] = false := by
    show lastMarks [cpOf o'] [z] = false
    exact mark_ok hs
  constructor
  · refine ⟨fun pins s σ H Q I h => ?_⟩
    obtain ⟨σI, h, as, sl, hi, p⟩ := h
    exact (pe_chain (cmpR K o σ) (cmpR K o' σ) ha.1 hb.1 hc.1 hm).run pins s σ H Q I (key sl hi p)
  · refine ⟨fun pins s σ H Q I h => ?_⟩
    obtain ⟨σI, h, as, sl, hi, p⟩ := h
    refine (pt_chain (cmpR K o σ) (cmpR K o' σ) ha.1 hb.1 hc.1 hm).run pins s σ H Q I (key (Q := fun v H1 => ∃ k, v = .bl k ∧ Q k H1) sl hi ?_)
    cases e : evalE M.W cf M.cx (.chn o o' a b c) σI h with
    | ok d h1 =>
      rw [e] at p
      have : ∃ k, d = .bl k := by
        simp only [evalE] at e
        cases e1 : evalE M.W cf M.cx a σI h <;> rw [e1] at e <;> try cases e
        simp only [R.bind_ok] at e
        rename_i h1
        cases e2 : evalE M.W cf M.cx b σI h1 <;> rw [e2] at e <;> try cases e
        simp only [R.bind_ok] at e
        rename_i dy h2
        cases e3 : cmpA M.W.cons o _ dy h2 <;> rw [e3] at e <;> try cases e
        simp only [R.bind_ok] at e
        rename_i dz h3
        split at e
        · cases e4 : evalE M.W cf M.cx c σI h3 <;> rw [e4] at e <;> try cases e
          simp only [R.bind_ok] at e
          exact cmpA_bl e
        · cases e; exact ⟨_, rfl⟩
        · cases e
      obtain ⟨k, rfl⟩ := this
      rintro v as' H' x' i' r'
      simp only [Rep] at r'
      exact ⟨k, r', p k as' H' x' i' rfl⟩
    | exc c fs h1 => rw [e] at p; exact p
    | no => rw [e] at p; exact p
/-- and -/
theorem se_and (K : Cok X M C sc n Wx cf) {a b : E} {x y : Expr} {r : List Expr} {pos : Pos} (ha : SE M X Wx cf a x) (hb : PE X (.BoolOp .And (y :: r) pos) (tE (M.g X.K) Wx (evalE M.W cf M.cx b)))
    (hw : PW X (.BoolOp .And (y :: r) pos) (tT (M.g X.K) Wx (evalE M.W cf M.cx b))) :
    PE X (.BoolOp .And (x :: y :: r) pos) (tE (M.g X.K) Wx (evalE M.W cf M.cx (.and a b))) ∧ PW X (.BoolOp .And (x :: y :: r) pos) (tT (M.g X.K) Wx (evalE M.W cf M.cx (.and a b))) := by
  constructor
  · refine pe_imp (pe_andT ha.1 hb) ?_
    rintro σ H Q ⟨σI, h, as, sl, hi, p⟩
    simp only [evalE] at p
    obtain ⟨q1, q2, q3, sl', hi', p'⟩ := then1 sl hi p
    refine ⟨q1, q2, q3, sl', hi', p'.imp ?_⟩
    rintro x H1 ⟨dx, h1, as1, _, x1, sl1, i1, r1, p1⟩
    obtain ⟨t, et, p2⟩ := post.ofO p1
    refine ⟨t, truth_ok (M := M) i1 r1 et, ?_⟩
    cases t with
    | true => exact ⟨σI, h1, as1, sl1, i1, p2⟩
    | false => exact p2 x as1 H1 Ext.refl i1 r1
  · refine pw_imp (pw_and ha.2 hw) ?_
    rintro σ H Q ⟨σI, h, as, sl, hi, p⟩
    simp only [evalE] at p
    rw [R.bind_assoc] at p
    refine ⟨σI, h, as, sl, hi, ?_⟩
    cases e : evalE M.W cf M.cx a σI h with
    | exc c fs h1 => rw [e] at p; exact p
    | no => rw [e] at p; exact p
    | ok d h1 =>
      rw [e] at p
      simp only [R.bind_ok] at p ⊢
      unfold truthR at p ⊢
      cases et : truth d h1 with
      | none => rw [et] at p; exact p
      | some t =>
        rw [et] at p
        rintro k as1 H1 x1 i1 rfl
        cases t with
        | true => exact ⟨σI, h1, as1, sl.mono x1, i1, p.mono x1⟩
        | false =>
          simp only [ofO_some, R.bind_ok, Bool.false_eq_true, if_false] at p
          rw [et] at p
          exact p false as1 H1 x1 i1 rfl
theorem se_or (K : Cok X M C sc n Wx cf) {a b : E} {x y : Expr} {r : List Expr} {pos : Pos} (ha : SE M X Wx cf a x) (hb : PE X (.BoolOp .Or (y :: r) pos) (tE (M.g X.K) Wx (evalE M.W cf M.cx b)))
    (hw : PW X (.BoolOp .Or (y :: r) pos) (tT (M.g X.K) Wx (evalE M.W cf M.cx b))) :
    PE X (.BoolOp .Or (x :: y :: r) pos) (tE (M.g X.K) Wx (evalE M.W cf M.cx (.or a b))) ∧ PW X (.BoolOp .Or (x :: y :: r) pos) (tT (M.g X.K) Wx (evalE M.W cf M.cx (.or a b))) := by
  constructor
  · refine pe_imp (pe_orT ha.1 hb) ?_
    rintro σ H Q ⟨σI, h, as, sl, hi, p⟩
    simp only [evalE] at p
    obtain ⟨q1, q2, q3, sl', hi', p'⟩ := then1 sl hi p
    refine ⟨q1, q2, q3, sl', hi', p'.imp ?_⟩
    rintro x H1 ⟨dx, h1, as1, _, x1, sl1, i1, r1, p1⟩
    obtain ⟨t, et, p2⟩ := post.ofO p1
    refine ⟨t, truth_ok (M := M) i1 r1 et, ?_⟩
    cases t with
    | false => exact ⟨σI, h1, as1, sl1, i1, p2⟩
    | true => exact p2 x as1 H1 Ext.refl i1 r1
  · refine pw_imp (pw_or ha.2 hw) ?_
    rintro σ H Q ⟨σI, h, as, sl, hi, p⟩
    simp only [evalE] at p
    rw [R.bind_assoc] at p
    refine ⟨σI, h, as, sl, hi, ?_⟩
    cases e : evalE M.W cf M.cx a σI h with
    | exc c fs h1 => rw [e] at p; exact p
    | no => rw [e] at p; exact p
    | ok d h1 =>
      rw [e] at p
      simp only [R.bind_ok] at p ⊢
      unfold truthR at p ⊢
      cases et : truth d h1 with
      | none => rw [et] at p; exact p
      | some t =>
        rw [et] at p
        rintro k as1 H1 x1 i1 rfl
        cases t with
        | false => exact ⟨σI, h1, as1, sl.mono x1, i1, p.mono x1⟩
        | true =>
          simp only [ofO_some, R.bind_ok, if_true] at p
          rw [et] at p
          exact p true as1 H1 x1 i1 rfl
theorem se_not (K : Cok X M C sc n Wx cf) {a : E} {x : Expr} {pos : Pos} (ha : SE M X Wx cf a x) : SE M X Wx cf (.not a) (.UnaryOp .Not x pos) := by
  constructor
  · refine pe_imp (pe_notT ha.1) ?_
    rintro σ H Q ⟨σI, h, as, sl, hi, p⟩
    simp only [evalE] at p
    obtain ⟨q1, q2, q3, sl', hi', p'⟩ := then1 sl hi p
    refine ⟨q1, q2, q3, sl', hi', p'.imp ?_⟩
    rintro x H1 ⟨dx, h1, as1, _, x1, sl1, i1, r1, p1⟩
    obtain ⟨t, et, p2⟩ := post.ofO p1
    exact ⟨t, truth_ok (M := M) i1 r1 et, p2 _ as1 H1 Ext.refl i1 (by simp only [Rep])⟩
  · refine pt_imp (pt_not ha.2) ?_
    rintro σ H Q ⟨σI, h, as, sl, hi, p⟩
    simp only [evalE] at p
    rw [R.bind_assoc] at p
    refine ⟨σI, h, as, sl, hi, ?_⟩
    cases e : evalE M.W cf M.cx a σI h with
    | exc c fs h1 => rw [e] at p; exact p
    | no => rw [e] at p; exact p
    | ok d h1 =>
      rw [e] at p
      simp only [R.bind_ok] at p ⊢
      unfold truthR at p ⊢
      cases et : truth d h1 with
      | none => rw [et] at p; exact p
      | some t =>
        rw [et] at p
        rintro k as1 H1 x1 i1 rfl
        exact p (!t) as1 H1 x1 i1 rfl
theorem se_ife (K : Cok X M C sc n Wx cf) {c a b : E} {z x y : Expr} {pos : Pos} (hc : SE M X Wx cf c z) (ha : SE M X Wx cf a x) (hb : SE M X Wx cf b y) : SE M X Wx cf (.ife c a b) (.IfExp z x y pos) := by
  constructor
  · refine pe_imp (pe_ifExp hc.2 ha.1 hb.1) ?_
    rintro σ H Q ⟨σI, h, as, sl, hi, p⟩
    simp only [evalE] at p
    rw [← R.bind_assoc] at p
    refine ⟨σI, h, as, sl, hi, (post.bind (Rl := rB) p).imp ?_⟩
    rintro k H1 ⟨d, h1, as1, _, x1, i1, rfl, p1⟩
    cases d with
    | true => exact ⟨σI, h1, as1, sl.mono x1, i1, p1⟩
    | false => exact ⟨σI, h1, as1, sl.mono x1, i1, p1⟩
  · have pt : PT X (.IfExp z x y pos) (fun σ H Q => tT (M.g X.K) Wx (evalE M.W cf M.cx c) σ H fun k H1 => if k = true then tT (M.g X.K) Wx (evalE M.W cf M.cx a) σ H1 Q else tT (M.g X.K) Wx (evalE M.W cf M.cx b) σ H1 Q) := by
      refine ⟨fun pins s σ H Q I h => ?_⟩
      refine isTrue_IfExp (thn (hc.2.run pins s σ H _ I h) fun d s1 ⟨H1, I1, q1⟩ => ?_)
      cases d with
      | true => exact ha.2.run pins s1 σ H1 Q I1 q1
      | false => exact hb.2.run pins s1 σ H1 Q I1 q1
    refine pt_imp pt ?_
    rintro σ H Q ⟨σI, h, as, sl, hi, p⟩
    simp only [evalE] at p
    rw [← R.bind_assoc, R.bind_assoc] at p
    refine ⟨σI, h, as, sl, hi, (post.bind (Rl := rB) p).imp ?_⟩
    rintro k H1 ⟨d, h1, as1, _, x1, i1, rfl, p1⟩
    cases d with
    | true => exact ⟨σI, h1, as1, sl.mono x1, i1, p1⟩
    | false => exact ⟨σI, h1, as1, sl.mono x1, i1, p1⟩
/-- displays -/
theorem se_tup {es : List E} {xs : List Expr} {k : Nat} {pos : Pos} (h : PA X xs (tEs (M.g X.K) Wx (evalEs M.W cf M.cx es))) : PE X (.Tuple xs k pos) (tE (M.g X.K) Wx (evalE M.W cf M.cx (.tup es))) := by
  refine pe_imp (pe_tup h) ?_
  rintro σ H Q ⟨σI, h, as, sl, hi, p⟩
  simp only [evalE] at p
  obtain ⟨q1, q2, q3, sl', hi', p'⟩ := thens sl hi p
  refine ⟨q1, q2, q3, sl', hi', p'.imp ?_⟩
  rintro vs H1 ⟨ds, h1, as1, _, x1, sl1, i1, r1, p1⟩
  split at p1
  · rename_i hl
    refine ⟨by rw [← r1.length]; exact hl, fun q hq => p1 _ as1 _ (ext_tup hq) (i1.other hq) ?_⟩
    simp only [Rep]
    exact ⟨q, vs, rfl, upd_same, r1.mono (ext_tup hq)⟩
  · exact p1.elim
theorem se_lst {es : List E} {xs : List Expr} {pos : Pos} (h : PA X xs (tEs (M.g X.K) Wx (evalEs M.W cf M.cx es))) : PE X (.List xs pos) (tE (M.g X.K) Wx (evalE M.W cf M.cx (.lst es))) := by
  refine pe_imp (pe_lst h) ?_
  rintro σ H Q ⟨σI, h, as, sl, hi, p⟩
  simp only [evalE] at p
  obtain ⟨q1, q2, q3, sl', hi', p'⟩ := thens sl hi p
  refine ⟨q1, q2, q3, sl', hi', p'.imp ?_⟩
  rintro vs H1 ⟨ds, h1, as1, _, x1, sl1, i1, r1, p1⟩
  split at p1
  · rename_i hl
    refine ⟨by rw [← r1.length]; exact hl, fun q hq => p1 _ (as1 ++ [q]) _ (ext_new hq) (i1.new hq ⟨vs, upd_same, r1.mono (ext_new hq)⟩) ?_⟩
    simp only [Rep]
    exact ⟨q, rfl, by rw [← i1.len]; simp⟩
  · exact p1.elim
theorem se_dic {t : Bool} {pos : Pos} : PE X (.Dict [] [] pos) (tE (M.g X.K) Wx (evalE M.W cf M.cx (.dic t [] []))) := by
  cases t with
  | false =>
    refine pe_imp pe_dnewK ?_
    rintro σ H Q ⟨σI, h, as, sl, hi, p⟩
    simp only [evalE, strK, List.isEmpty_nil, if_true] at p
    refine fun q hq => p _ (as ++ [q]) _ (ext_new hq) (hi.new hq ⟨[], ?_, .nil⟩) ?_
    · simp only [lkd, Bool.false_eq_true, if_false]; exact upd_same
    · simp only [Rep]
      exact ⟨q, rfl, by rw [← hi.len]; simp⟩
  | true =>
    refine pe_imp pe_dnewT ?_
    rintro σ H Q ⟨σI, h, as, sl, hi, p⟩
    simp only [evalE, strK, List.isEmpty_nil, if_true] at p
    refine fun q hq => p _ (as ++ [q]) _ (ext_new hq) (hi.new hq ⟨[], ?_, .nil⟩) ?_
    · simp only [lkd, Bool.false_eq_true, if_false]; exact upd_same
    · simp only [Rep]
      exact ⟨q, rfl, by rw [← hi.len]; simp⟩
end
end Rf
end

section
namespace PySem.AutoSeq1
open PySem PySem.Spec
theorem list_extend_list_tupleG (l : Addr) (items : Array Value) (n : Nat) (b : Addr) (items2 : Array Value) (n2 : Nat) (dd : _) (sl : _) (hs0 : ¬(!items.isEmpty && Builtin.List.listTooLong (items.size + items2.size)) = true) (hs1 : items.size ≤ sizeLine) (hs2 : items.size + items2.size ≤ sizeLine + 1 := by seq_fits) :
    Meets (Builtin.«list.extend» ⟨[.ref l, .ref b], []⟩) (fun _ R s => s.heap.get? l = some { cls := .type "list", dict := none, data := .seq items n, slots := #[] } ∧ s.heap.get? b = some { cls := .type "tuple", dict := dd, data := .seq items2 n2, slots := sl } ∧ R (.ok (.ret Value.none)) { s with heap := s.heap.update l (Obj.mapSeq fun x => x ++ items2), toks := s.toks }) :=
  .of_wp fun prog w A R s h => by
    obtain ⟨hp, g, d, tk, os⟩ := s; obtain ⟨hl, hb, h⟩ := h; have f1 := idx_int; have f2 := sub_tuple_tuple; have f3 := sub_list_list; have f4 := sub_tuple_list; have f5 := sub_list_tuple;
    have hz' : (items ++ items2).size ≤ sizeLine + 1 := by rw [Array.size_append]; exact hs2
    wp_walk using (wpAny_updateSeq hl rfl (hz := hs1) (_hz' := hz')), wpAny_loadPart' hl, wpAny_loadPart' hb; exact ⟨_, rfl, h⟩
end PySem.AutoSeq1
namespace L2
open PySem PySem.Spec PyProof.Rows
section
variable {X : Cx}
def rExtendT : V → List V → Hp → VK → Prop := fun x vs H Q => ∃ l b xs zs, x = .ref l ∧ vs = [.ref b] ∧ H l = some (.lst xs) ∧ H b = some (.tup zs) ∧ xs.length + zs.length ≤ sizeLine ∧ Q .non (upd H l (.lst (xs ++ zs)))
theorem mt_extendT : MtM X "list.extend" rExtendT := by
  intro pins s σ H x vs v us Q I rx rv h
  obtain ⟨l, b, xs, zs, rfl, rfl, hH, hB, hz, q⟩ := h
  cases rx
  obtain ⟨u, rfl, ru⟩ := rv.one
  cases ru
  obtain ⟨z, its, n, r, hl, e⟩ := I.lstM hH
  obtain ⟨_, its2, r2, o, ho, hc, n2, hd⟩ := I.hok _ _ hB
  obtain ⟨cls, dd, dat, sl⟩ := o
  simp only at hc hd
  subst hc hd
  have l1 := r.length
  have l2 := r2.length
  have hsz : its.toArray.size + its2.toArray.size ≤ sizeLine := by rw [List.size_toArray, List.size_toArray]; omega
  have hlong : ¬ (!its.toArray.isEmpty && Builtin.List.listTooLong (its.toArray.size + its2.toArray.size)) = true := by
    have : Builtin.List.listTooLong (its.toArray.size + its2.toArray.size) = false := by
      unfold Builtin.List.listTooLong
      exact decide_eq_false (by omega)
    rw [this, Bool.and_false]
    exact Bool.false_ne_true
  refine call_meets F.slot_list_extend ⟨_, e, rfl⟩ F.entry_list_extend (F.args_list_extend_2 _ _)
    (AutoSeq1.list_extend_list_tupleG l its.toArray n b its2.toArray n2 dd sl hlong (by rw [List.size_toArray]; omega) (by omega)) ⟨e, ho, ?_⟩
  refine ⟨.non, _, I.lset (its' := its ++ its2) hH e (by simp) (r.append r2) ?_, rfl, q⟩
  rw [List.length_append]
  omega
end
end L2
end

section
namespace Rf
open PySem PySem.Spec PyProof.Rows L2

theorem plainIx {y : Expr} (h : isSlice y = false) : PlainIx y := by
  intro o i
  cases y <;> first | rfl | (simp [isSlice] at h)
section
variable {X : Cx} {M : Mx} {C : Ck} {sc : Scope} {n : Nat} {Wx : WX} {cf : CF}
theorem se_ix (K : Cok X M C sc n Wx cf) {a b : E} {x y : Expr} {pos : Pos} (ha : SE M X Wx cf a x) (hb : SE M X Wx cf b y) (hs : isSlice y = false) : PE X (.Subscript x y pos) (tE (M.g X.K) Wx (evalE M.W cf M.cx (.ix a b))) := by
  refine ⟨fun pins s σ H Q I h => ?_⟩
  obtain ⟨σI, h, as, sl, hi, p⟩ := h
  simp only [evalE] at p
  -- is it a dict
  by_cases hd : ∃ m h1 dy h2 lk t kvs, evalE M.W cf M.cx a σI h = .ok (.ob m) h1 ∧ evalE M.W cf M.cx b σI h1 = .ok dy h2 ∧ h2[m]? = some (.dic lk t kvs)
  · obtain ⟨m, h1, dy, h2, lk, t, kvs, e1, e2, e3⟩ := hd
    refine (pe_dget (by have := K.hu; omega) ha.1 hb.1 (plainIx hs)).run pins s σ H Q I ?_
    obtain ⟨q1, q2, q3, sl', hi', p'⟩ := then1 sl hi p
    refine ⟨q1, q2, q3, sl', hi', p'.imp ?_⟩
    rintro x H1 ⟨dx, h1', as1, e1', x1, sl1, i1, r1, p1⟩
    rw [e1] at e1'; cases e1'
    obtain ⟨q1, q2, q3, sl', hi', p'⟩ := then1 sl1 i1 p1
    refine ⟨q1, q2, q3, sl', hi', p'.imp ?_⟩
    rintro y H2 ⟨dy', h2', as2, e2', x2, sl2, i2, rr, p2⟩
    rw [e2] at e2'; cases e2'
    have r1' := r1.mono x2
    simp only [Rep] at r1'
    obtain ⟨ad, rfl, ea⟩ := r1'
    simp only [ixD, e3] at p2
    split at p2
    · rename_i hk
      obtain ⟨o, g, ho⟩ := dget_ok (i2.ob m _ ad e3 ea) hk rr
      rcases ho with ⟨e4, _⟩ | ⟨d, v, e4, rfl, rv⟩
      · rw [e4] at p2; exact p2.elim
      · rw [e4] at p2
        exact ⟨ad, v, rfl, g, p2 v as2 H2 Ext.refl i2 rv⟩
    · exact p2.elim
  · refine (pe_ix (ix8 (M := M) (Wx := Wx) K.con K.scr σ) ha.1 hb.1 (plainIx hs)).run pins s σ H Q I ?_
    obtain ⟨q1, q2, q3, sl', hi', p'⟩ := then1 sl hi p
    refine ⟨q1, q2, q3, sl', hi', p'.imp ?_⟩
    rintro x H1 ⟨dx, h1, as1, e1, x1, sl1, i1, r1, p1⟩
    obtain ⟨q1, q2, q3, sl', hi', p'⟩ := then1 sl1 i1 p1
    refine ⟨q1, q2, q3, sl', hi', p'.imp ?_⟩
    rintro y H2 ⟨dy, h2, as2, e2, x2, sl2, i2, rr, p2⟩
    exact ⟨dx, dy, h2, as2, i2, r1.mono x2, rr, fun m lk t kvs e e3 => hd ⟨m, h1, dy, h2, lk, t, kvs, by rw [← e]; exact e1, e2, e3⟩, p2⟩
/-- a part of a slice -/
theorem po_of {lo : List E} {l : Option Expr} (h : (match l with | none => lo = [] | some e => ∃ a, lo = [a] ∧ SE M X Wx cf a e)) :
    PO X l (fun σ H Q => ∃ σI h as, SL (M.g X.K) σI as H σ ∧ HI (M.g X.K) h as H ∧ post (M.g X.K) Wx (fun _ _ (a b : Option Int) => a = b) as H σ ((evalEs M.W cf M.cx lo σI h).bind fun l h => ofO (optI l) h) Q) := by
  cases l with
  | none =>
    subst h
    refine ⟨fun pins s σ H Q I h => ?_⟩
    obtain ⟨σI, h, as, sl, hi, p⟩ := h
    exact po_none.run pins s σ H Q I (p none as H Ext.refl hi rfl)
  | some e =>
    obtain ⟨a, rfl, ha⟩ := h
    refine ⟨fun pins s σ H Q I h => ?_⟩
    obtain ⟨σI, h, as, sl, hi, p⟩ := h
    simp only [evalEs, R.bind_assoc] at p
    refine (po_some ha.1).run pins s σ H Q I ?_
    obtain ⟨q1, q2, q3, sl', hi', p'⟩ := then1 (Rl := fun _ _ (a b : Option Int) => a = b) sl hi p
    refine ⟨q1, q2, q3, sl', hi', p'.imp ?_⟩
    rintro x H1 ⟨dx, h1, as1, e1, x1, sl1, i1, r1, p1⟩
    simp only [R.bind_ok] at p1
    cases dx with
    | int i =>
      simp only [Rep] at r1
      exact ⟨i, r1, p1 (some i) as1 H1 Ext.refl i1 rfl⟩
    | _ => exact p1.elim
theorem se_slc (K : Cok X M C sc n Wx cf) {a : E} {lo hi : List E} {x : Expr} {l u : Option Expr} {p2 pos : Pos} (ha : SE M X Wx cf a x) (hl : (match l with | none => lo = [] | some e => ∃ a, lo = [a] ∧ SE M X Wx cf a e)) (hu : (match u with | none => hi = [] | some e => ∃ a, hi = [a] ∧ SE M X Wx cf a e)) :
    PE X (.Subscript x (.Slice l u none p2) pos) (tE (M.g X.K) Wx (evalE M.W cf M.cx (.slc a lo hi))) := by
  refine ⟨fun pins s σ H Q I h => ?_⟩
  obtain ⟨σI, h, as, sl, hi', p⟩ := h
  simp only [evalE] at p
  refine (pe_slice (sl8 (M := M) (Wx := Wx) σ) ha.1 (po_of hl) (po_of hu)).run pins s σ H Q I ?_
  obtain ⟨q1, q2, q3, sl', hi', p'⟩ := then1 sl hi' p
  refine ⟨q1, q2, q3, sl', hi', p'.imp ?_⟩
  rintro x H1 ⟨dx, h1, as1, e1, x1, sl1, i1, r1, p1⟩
  rw [← R.bind_assoc] at p1
  refine ⟨σI, h1, as1, sl1, i1, (post.bind (Rl := fun _ _ (a b : Option Int) => a = b) p1).imp ?_⟩
  rintro o H2 ⟨o', h2, as2, e2, x2, i2, rfl, p2⟩
  rw [← R.bind_assoc] at p2
  refine ⟨σI, h2, as2, sl1.mono x2, i2, (post.bind (Rl := fun _ _ (a b : Option Int) => a = b) p2).imp ?_⟩
  rintro o2 H3 ⟨o2', h3, as3, e3, x3, i3, rfl, p3⟩
  exact ⟨dx, h3, as3, i3, (r1.mono x2).mono x3, p3⟩
theorem se_back {a : E} {x : Expr} {k : Nat} {p1 p2 p3 pos : Pos} (ha : SE M X Wx cf a x) : PE X (.Subscript x (.Slice none none (some (.UnaryOp .USub (.Constant (.int 1) k p1) p2)) p3) pos) (tE (M.g X.K) Wx (evalE M.W cf M.cx (.back a))) := by
  refine pe_imp (pe_revL ha.1) ?_
  rintro σ H Q ⟨σI, h, as, sl, hi, p⟩
  simp only [evalE] at p
  obtain ⟨q1, q2, q3, sl', hi', p'⟩ := then1 sl hi p
  refine ⟨q1, q2, q3, sl', hi', p'.imp ?_⟩
  rintro x H1 ⟨dx, h1, as1, e1, x1, sl1, i1, r1, p1⟩
  split at p1
  · rename_i m
    simp only [Rep] at r1
    obtain ⟨ad, rfl, ea⟩ := r1
    split at p1
    · rename_i xs e2
      obtain ⟨vs, q1, q2⟩ := i1.ob m _ ad e2 ea
      refine ⟨ad, vs, rfl, SqL.of q1, fun q hq => ?_⟩
      refine p1 _ (as1 ++ [q]) _ (ext_new hq) (i1.new hq ⟨_, upd_same, (Reps.reverse q2).mono (ext_new hq)⟩) ?_
      simp only [Rep]
      exact ⟨q, rfl, by rw [← i1.len]; simp⟩
    · exact p1.elim
  · exact p1.elim
theorem se_fld (K : Cok X M C sc n Wx cf) (hh : C.hot = false) {a : E} {f : String} {x : Expr} {pos : Pos} (ha : SE M X Wx cf a x) (hb : notBare x = true) : PE X (.Attribute x (Str.ofString f) pos) (tE (M.g X.K) Wx (evalE M.W cf M.cx (.fld a f))) := by
  refine pe_imp (pe_fld ha.1 (bare_ok hb)) ?_
  rintro σ H Q ⟨σI, h, as, sl, hi, p⟩
  simp only [evalE] at p
  obtain ⟨q1, q2, q3, sl', hi', p'⟩ := then1 sl hi p
  refine ⟨q1, q2, q3, sl', hi', p'.imp ?_⟩
  rintro x H1 ⟨dx, h1, as1, e1, x1, sl1, i1, r1, p1⟩
  cases dx with
  | ob m =>
    simp only [Rep] at r1
    obtain ⟨ad, rfl, ea⟩ := r1
    simp only [fldD] at p1
    split at p1
    · rename_i c fs e2
      split at p1
      · rename_i hf
        unfold hasF at hf
        split at hf
        · rename_i ci e3
          obtain ⟨Ca, dx, vs, ec, eo, rf⟩ := i1.ob m _ ad e2 ea
          obtain ⟨c1, c2, _⟩ := (K.cool hh).cls c ci e3 Ca ec
          rcases rf.lookup f with ⟨e4, _⟩ | ⟨d, v, e4, e5, rv⟩
          · rw [e4] at p1; exact p1.elim
          · rw [e4] at p1
            exact ⟨ad, Ca, dx, vs, v, rfl, eo, c1, c2 f (List.contains_iff_mem.mp hf), e5, p1 v as1 H1 Ext.refl i1 rv⟩
        · cases hf
      · exact p1.elim
    · exact p1.elim
  | _ => exact p1.elim
theorem make_guards {A : Around} {C : Addr} {us : List Value} {kw : List (Str × Value)} : (A.under (.builtin "type.__call__" ⟨.ref C :: us, kw⟩)).guards = A.guards := by
  first | rfl | simp [Around.under, Code.guards, Code.isGuard, guardIds, pushGuards]
/-- a call's end -/
theorem run_cal (K : Cok X M C sc n Wx cf) (hh : C.hot = false) {a : Addr} {f : Nat} (B : FnB X.prog X.w X.K X.mg X.base M.z n cf a f)
    {pins : List (Addr × Obj)} {s : Shared} {σ : L2.St} {H : Hp} {Q : VK} {vs : List V} {us : List Value} {ds : List D} {h : Hs} {as : List Addr} (I : Inv X pins σ H s) (rv : Vals vs us) (hi : HI (M.g X.K) h as H) (rs : Reps (M.g X.K) as H ds vs)
    (p : post (M.g X.K) Wx (Rep (M.g X.K)) as H σ (cf f ds h) Q) : wpAny (model X.prog X.w) X.A (call (.ref a) us) (EP X pins σ Q) X.xe s := by
  obtain ⟨fd, ps, np, hb, hp, F, hl⟩ := B
  have hn : cf f ds h ≠ .no := fun e => by rw [e] at p; exact p
  exact run_G (E := WE Wx) F K.gd ((K.cool hh).room.mono (by omega)) hb (passAt K.tk σ) I rv ⟨by rw [← rs.length]; exact hl ds h hn, ds, h, as, hi.z, reps_z rs, post_z (fun _ _ _ q => q) hi.xd p⟩
theorem run_newG (K : Cok X M C sc n Wx cf) (hh : C.hot = false) {a Ca : Addr} {f c : Nat} {dv : List V} {du : List Value} {ed : List D} (B : ∃ fd ps np, Binds X.K fd ps du ∧ ps.length = np ∧ FnG X.prog X.w X.K X.mg X.base (L2.CX X.prog X.w) (2 * n + 1) a fd ps (spI M.z X.K cf np f) ∧ ∀ ds h, cf f ds h ≠ .no → ds.length = np) (rdv : Vals dv du) (red : ∀ as H, Reps (M.g X.K) as H ed dv) (mk : Mk X.K Ca a) (hc : M.ca c = some Ca)
    {pins : List (Addr × Obj)} {s : Shared} {σ : L2.St} {H : Hp} {Q : VK} {vs : List V} {us : List Value} {ds : List D} {h : Hs} {as : List Addr} (I : Inv X pins σ H s) (rv : Vals vs us) (hi : HI (M.g X.K) h as H) (rs : Reps (M.g X.K) as H ds vs)
    (p : post (M.g X.K) Wx (Rep (M.g X.K)) as H σ ((cf f (.ob h.length :: (ds ++ ed)) (h ++ [.ins c []])).bind fun r h' => match r with | .non => .ok (.ob h.length) h' | _ => .no) Q) :
    wpAny (model X.prog X.w) X.A (call (.ref Ca) us) (EP X pins σ Q) X.xe s := by
  obtain ⟨fd, ps, np, hb, hp, F, hl⟩ := B
  have hn : cf f (.ob h.length :: (ds ++ ed)) (h ++ [.ins c []]) ≠ .no := fun e => by rw [e] at p; exact p
  -- the new object
  have go : ∀ x dx, H x = none → H dx = none → dx ≠ x → spI M.z X.K cf np f (.ref x :: (vs ++ dv)) (upd (upd H dx (.own x)) x (.ins Ca dx [])) (fun v H2 => v = .non ∧ Q (.ref x) H2) (fun cl d H' => Wx cl d σ H') := by
    intro x dx hx hdx ne
    have hx1 : upd H dx (.own x) x = none := by rw [upd_ne (Ne.symm ne)]; exact hx
    have i1 := (hi.other (o := .own x) hdx).new (mo := .ins c []) (o := .ins Ca dx []) hx1 ⟨Ca, dx, [], hc, upd_same, .nil⟩
    have ex : Ext as H (as ++ [x]) (upd (upd H dx (.own x)) x (.ins Ca dx [])) := (ext_tup hdx).trans (ext_new hx1)
    refine ⟨by rw [← hl _ _ hn]; simp [rs.length, (red as H).length], .ob h.length :: (ds ++ ed), h ++ [.ins c []], as ++ [x], i1.z, ?_, ?_⟩
    · refine reps_z ?_
      simp only [Reps, Rep]
      exact ⟨_, _, rfl, ⟨x, rfl, by rw [← hi.len]; simp⟩, (rs.mono ex).append (red _ _)⟩
    · refine post_z (M := M) (Wx := fun cl d _ H' => Wx cl d σ H') (σ := []) (fun _ _ _ q => q) i1.xd ?_
      have p2 := p.mono ex
      cases hh : cf f (.ob h.length :: (ds ++ ed)) (h ++ [.ins c []]) with
      | no => exact absurd hh hn
      | exc c' fs h' => rw [hh] at p2; exact p2
      | ok d h' =>
        rw [hh] at p2
        simp only [R.bind_ok] at p2
        split at p2
        · rintro v as' H' x' i' r'
          simp only [Rep] at r'
          refine ⟨r', p2 _ as' H' x' i' ?_⟩
          simp only [Rep]
          exact ⟨x, rfl, x'.pre _ _ (by rw [← hi.len]; simp)⟩
        · exact p2.elim
  have hq := go (s.heap.objs.size + 1) s.heap.objs.size (I.hok.fresh (Nat.le_succ _)) (I.hok.fresh (Nat.le_refl _)) (Nat.ne_of_lt (Nat.lt_succ_self _))
  have I2 := Inv.made (C := Ca) I
  have rr : Vals (V.ref (s.heap.objs.size + 1) :: (vs ++ dv)) (Value.ref (s.heap.objs.size + 1) :: (us ++ du)) := .cons rfl (rv.append rdv)
  have hll : (Value.ref (s.heap.objs.size + 1) :: us ++ du).length = ps.length := by
    rw [List.cons_append, ← rr.length]; exact F.ln _ _ _ _ hq
  have b := hb _ (Value.ref (s.heap.objs.size + 1) :: us) I2.kIn hll
  refine wpAny_call (make_map (f := a) I.kIn mk.makes mk.init (beq_iff_eq.mp mk.fn) (codeAny_mono (F.go _ X.stack _ _ ⟨Value.ref (s.heap.objs.size + 1) :: us, []⟩ (Value.ref (s.heap.objs.size + 1) :: us ++ du) _ _ _ (by rw [make_guards]; exact K.gd) ((K.cool hh).room.make Ca us [])
    (I2.env0.make Ca us []) b rr hq) fun r s' hq' => ?_))
  cases r with
  | error e => exact passAt K.tk σ pins _ _ e s' I2 hq'
  | ok fl =>
    cases fl with
    | ret u =>
      obtain ⟨v, H', I3, rv, ev, q3⟩ := I2.after hq'
      subst ev
      exact ⟨rv, ⟨V.ref (s.heap.objs.size + 1), H', I3, rfl, q3⟩⟩
    | next => exact False.elim hq'
    | brk => exact False.elim hq'
    | cont => exact False.elim hq'
theorem run_new (K : Cok X M C sc n Wx cf) (hh : C.hot = false) {a Ca : Addr} {f c : Nat} (B : FnB X.prog X.w X.K X.mg X.base M.z n cf a f) (mk : Mk X.K Ca a) (hc : M.ca c = some Ca)
    {pins : List (Addr × Obj)} {s : Shared} {σ : L2.St} {H : Hp} {Q : VK} {vs : List V} {us : List Value} {ds : List D} {h : Hs} {as : List Addr} (I : Inv X pins σ H s) (rv : Vals vs us) (hi : HI (M.g X.K) h as H) (rs : Reps (M.g X.K) as H ds vs)
    (p : post (M.g X.K) Wx (Rep (M.g X.K)) as H σ ((cf f (.ob h.length :: ds) (h ++ [.ins c []])).bind fun r h' => match r with | .non => .ok (.ob h.length) h' | _ => .no) Q) :
    wpAny (model X.prog X.w) X.A (call (.ref Ca) us) (EP X pins σ Q) X.xe s :=
  run_newG (dv := []) (du := []) (ed := []) K hh B .nil (fun _ _ => by simp only [Reps]) mk hc I rv hi rs (by rw [List.append_nil]; exact p)
/-- f(..) -/
theorem se_cal (K : Cok X M C sc n Wx cf) (hh : C.hot = false) {f : Nat} {es : List E} {xs : List Expr} {x : Str} {p pos : Pos} (h1 : isC C.fnm f x = true) (h2 : glB sc x = true) (h3 : okN x = true) (hx : chkEs C es sc xs = true) (ha : PA X xs (tEs (M.g X.K) Wx (evalEs M.W cf M.cx es))) :
    PE X (.Call (.Name x p) xs [] pos) (tE (M.g X.K) Wx (evalE M.W cf M.cx (.cal f es))) := by
  obtain ⟨a, m1, m2⟩ := (K.cool hh).fns.1 f x (isC_ok h1)
  obtain ⟨kp, B⟩ := (K.cool hh).fns.2 f a m2
  refine ⟨fun pins s σ H Q I h => ?_⟩
  obtain ⟨σI, h, as, sl, hi, p⟩ := h
  simp only [evalE] at p
  refine wpAny_Call_Name_kw (ld_glob I (K.gl x h2) m1 ?_ (okN_ok h3).1)
  cases xs with
  | nil =>
    cases es with
    | cons e es => simp [chkEs] at hx
    | nil => exact PySem.W.callWith_K0 I.kIn kp (run_cal (us := []) K hh B I .nil hi (by simp only [Reps]) p)
  | cons y ys =>
    cases es with
    | nil => simp [chkEs] at hx
    | cons e es =>
      simp only [chkEs, Bool.and_eq_true, Bool.not_eq_true'] at hx
      refine PySem.W.callWith_K (h₀ := X.base) I.ok.mod.kin kp (thn (ha.run pos pins s σ H _ I (thens sl hi p)) fun us s1 ⟨vs, H1, I1, r, q⟩ => ⟨I1.kIn, ?_⟩) (star_one hx.1.2 _ _) (chkEs_star hx.2)
      obtain ⟨ds, h1, as1, _, x1, _, i1, rs, p1⟩ := q
      exact run_cal K hh B I1 r i1 rs p1
/-- C(..) -/
theorem se_new (K : Cok X M C sc n Wx cf) (hh : C.hot = false) {c : Nat} {es : List E} {xs : List Expr} {x : Str} {p pos : Pos} (h0 : c ∈ C.nw) (h1 : isC C.cnm c x = true) (h2 : glB sc x = true) (h3 : okN x = true) (hx : chkEs C es sc xs = true) (ha : PA X xs (tEs (M.g X.K) Wx (evalEs M.W cf M.cx es))) :
    PE X (.Call (.Name x p) xs [] pos) (tE (M.g X.K) Wx (evalE M.W cf M.cx (.new c es))) := by
  obtain ⟨ci, f, Ca, a, e1, e2, e3, m1, mk, B⟩ := (K.cool hh).mks.1 c x h0 (isC_ok h1)
  replace e1 : M.W.cls[c]? = some ci := e1
  replace e3 : M.ca c = some Ca := e3
  refine ⟨fun pins s σ H Q I h => ?_⟩
  obtain ⟨σI, h, as, sl, hi, p⟩ := h
  simp only [evalE, e1, e2, Option.bind_some] at p
  refine wpAny_Call_Name_kw (ld_glob I (K.gl x h2) m1 ?_ (okN_ok h3).1)
  cases xs with
  | nil =>
    cases es with
    | cons e es => simp [chkEs] at hx
    | nil => exact PySem.W.callWith_K0 I.kIn mk.kp (run_new (us := []) K hh B mk e3 I .nil hi (by simp only [Reps]) p)
  | cons y ys =>
    cases es with
    | nil => simp [chkEs] at hx
    | cons e es =>
      simp only [chkEs, Bool.and_eq_true, Bool.not_eq_true'] at hx
      refine PySem.W.callWith_K (h₀ := X.base) I.ok.mod.kin mk.kp (thn (ha.run pos pins s σ H _ I (thens sl hi p)) fun us s1 ⟨vs, H1, I1, r, q⟩ => ⟨I1.kIn, ?_⟩) (star_one hx.1.2 _ _) (chkEs_star hx.2)
      obtain ⟨ds, h1, as1, _, x1, _, i1, rs, p1⟩ := q
      exact run_new K hh B mk e3 I1 r i1 rs p1
/-- C(), with its default -/
theorem se_newd (K : Cok X M C sc n Wx cf) (hh : C.hot = false) {c : Nat} {x : Str} {p pos : Pos} (h0 : c ∈ C.nd) (h1 : isC C.cnm c x = true) (h2 : glB sc x = true) (h3 : okN x = true) :
    PE X (.Call (.Name x p) [] [] pos) (tE (M.g X.K) Wx (evalE M.W cf M.cx (.newd c))) := by
  obtain ⟨ci, f, Ca, a, dA, e1, e2, e3, m1, mk, e4, B⟩ := (K.cool hh).mks.2.1 c x h0 (isC_ok h1)
  replace e1 : M.W.cls[c]? = some ci := e1
  replace e3 : M.ca c = some Ca := e3
  replace e4 : M.ga (M.W.cons.length + 1) = some dA := e4
  refine ⟨fun pins s σ H Q I h => ?_⟩
  obtain ⟨σI, h, as, sl, hi, p⟩ := h
  simp only [evalE, e1, e2, Option.bind_some] at p
  refine wpAny_Call_Name_kw (ld_glob I (K.gl x h2) m1 ?_ (okN_ok h3).1)
  exact PySem.W.callWith_K0 I.kIn mk.kp (run_newG (us := []) (vs := []) (ds := []) (dv := [.ref dA]) (ed := [.con (M.W.cons.length + 1)]) K hh B (.cons rfl .nil) (fun _ _ => by simp only [Reps, Rep]; exact ⟨_, _, rfl, ⟨dA, rfl, e4⟩, rfl⟩) mk e3 I .nil hi (by simp only [Reps]) p)
/-- a local's value called -/
theorem se_cav (K : Cok X M C sc n Wx cf) (hh : C.hot = false) {i : Nat} {es : List E} {xs : List Expr} {x : Str} {p pos : Pos} (h1 : isC C.N i x = true) (h2 : visB sc x = true) (h3 : okN x = true) (hx : chkEs C es sc xs = true) (ha : PA X xs (tEs (M.g X.K) Wx (evalEs M.W cf M.cx es))) :
    PE X (.Call (.Name x p) xs [] pos) (tE (M.g X.K) Wx (evalE M.W cf M.cx (.cav i es))) := by
  obtain ⟨d1, d2, _⟩ := okN_ok h3
  refine ⟨fun pins s σ H Q I h => ?_⟩
  obtain ⟨σI, h, as, sl, hi, p⟩ := h
  simp only [evalE] at p
  split at p
  · rename_i f e
    obtain ⟨v, e1, r⟩ := sl.at_ i _ e
    simp only [Rep] at r
    obtain ⟨a, rfl, m2⟩ := r
    obtain ⟨kp, B⟩ := (K.cool hh).fns.2 f a m2
    refine wpAny_Call_Name_kw (thn ((pe_var (pos := _) (by rw [K.N]; exact isC_ok h1) (K.vis x h2) d1 d2).run pins s σ H (fun v H1 => v = .ref a ∧ H1 = H) I ⟨.ref a, e1, rfl, rfl⟩) fun u s1 ⟨v, H1, I1, r1, q1⟩ => ?_)
    obtain ⟨rfl, rfl⟩ := q1
    cases r1
    cases xs with
    | nil =>
      cases es with
      | cons e es => simp [chkEs] at hx
      | nil => exact PySem.W.callWith_K0 I1.kIn kp (run_cal (us := []) K hh B I1 .nil hi (by simp only [Reps]) p)
    | cons y ys =>
      cases es with
      | nil => simp [chkEs] at hx
      | cons e es =>
        simp only [chkEs, Bool.and_eq_true, Bool.not_eq_true'] at hx
        refine PySem.W.callWith_K (h₀ := X.base) I.ok.mod.kin kp (thn (ha.run pos pins s1 σ _ _ I1 (thens sl hi p)) fun us s2 ⟨vs, H2, I2, r, q⟩ => ⟨I2.kIn, ?_⟩) (star_one hx.1.2 _ _) (chkEs_star hx.2)
        obtain ⟨ds, h1, as1, _, x1, _, i1, rs, p1⟩ := q
        exact run_cal K hh B I2 r i1 rs p1
  · exact p.elim
/-- methods of built-in values -/
def mtT : Mt → String
  | .append => "list" | .extend => "list" | .pop => "list" | .insert => "list" | .reverse => "list" | .get => "dict" | .update => "dict" | .index => "list" | _ => "str"
def mtN : Mt → String
  | .append => "append" | .extend => "extend" | .pop => "pop" | .insert => "insert" | .reverse => "reverse" | .get => "get" | .update => "update" | .join => "join" | .startswith => "startswith" | .find => "find" | .isalnum => "isalnum" | .lower => "lower" | .index => "index"
theorem mtOf_ok {as : List Addr} {H : Hp} {x : V} {d : D} {m : String} {h : Hs} {k : Mt} (hi : HI (M.g X.K) h as H) (r1 : Rep (M.g X.K) as H d x) (e : mtOf d m h = some k) : m = mtN k ∧ tyV X.K (mtT k) x H := by
  cases d with
  | ob nn =>
    simp only [Rep] at r1
    obtain ⟨a, rfl, ea⟩ := r1
    simp only [mtOf] at e
    split at e
    · rename_i xs e1
      obtain ⟨vs, h1, h2⟩ := hi.ob nn _ a e1 ea
      (repeat' split at e) <;> first
        | (cases e; done)
        | (cases e; exact ⟨‹_›, .inl ⟨rfl, vs, SqL.of h1⟩⟩)
    · rename_i kvs e1
      obtain ⟨kv, h1, h2⟩ := hi.ob nn _ a e1 ea
      simp only [lkd, Bool.false_eq_true, if_false] at h1
      (repeat' split at e) <;> first
        | (cases e; done)
        | (cases e; exact ⟨‹_›, .inr (.inr (.inl ⟨rfl, .inl ⟨_, h1⟩⟩))⟩)
    · rename_i kvs e1
      obtain ⟨kv, h1, h2⟩ := hi.ob nn _ a e1 ea
      simp only [lkd, Bool.false_eq_true, if_false] at h1
      (repeat' split at e) <;> first
        | (cases e; done)
        | (cases e; exact ⟨‹_›, .inr (.inr (.inl ⟨rfl, .inr ⟨_, h1⟩⟩))⟩)
    · cases e
  | str z =>
    simp only [Rep] at r1
    subst r1
    simp only [mtOf] at e
    (repeat' split at e) <;> first
      | (cases e; done)
      | (cases e; exact ⟨‹_›, rfl⟩)
  | _ => simp [mtOf] at e
def rMt (M : Mx) (K : PySem.W.Frag) (Wx : WX) (σ : L2.St) (k : Mt) : V → List V → Hp → VK → Prop := fun x xs H Q => ∃ d ds h as, HI (M.g K) h as H ∧ Rep (M.g K) as H d x ∧ Reps (M.g K) as H ds xs ∧ post (M.g K) Wx (Rep (M.g K)) as H σ (methD k d ds h) Q
theorem mt_append8 (σ' : L2.St) : MtR X "list.append" (rMt M X.K Wx σ' .append) := by
  intro pins s σ H x vs v us Q I rx rv hh
  obtain ⟨d, ds, h, as, hi, r1, rs, p⟩ := hh
  simp only [methD] at p
  split at p
  · rename_i nn y
    simp only [Rep] at r1
    obtain ⟨a, rfl, ea⟩ := r1
    obtain ⟨w, _, rfl, r2, rn⟩ := rs.cons_inv
    obtain rfl := rn.nil_inv
    split at p
    · rename_i xs e1
      split at p
      · rename_i hl
        obtain ⟨ws, h1, hr⟩ := hi.ob nn _ a e1 ea
        refine mt_append pins s σ H _ _ v us Q I rx rv ⟨a, ws, w, rfl, rfl, h1, by rw [← hr.length]; exact hl, ?_⟩
        have ex := ext_set (o := HO.lst (ws ++ [w])) ea h1 (fun _ => by intro z; cases z) (fun _ _ => by intro z; cases z)
        refine p _ as _ ex (hi.set ea h1 (fun _ => by intro z; cases z) (fun _ _ => by intro z; cases z) ⟨_, upd_same, (Reps.append hr (Reps.one r2)).mono ex⟩) ?_
        simp only [Rep]
      · exact p.elim
    · exact p.elim
  · exact p.elim
theorem purs_mem : ∀ {xs : List D}, purs xs = true → ∀ z ∈ xs, pur z = true
  | x :: xs, h, z, hz => by
    simp only [purs, Bool.and_eq_true] at h
    rcases List.mem_cons.mp hz with rfl | hz
    · exact h.1
    · exact purs_mem h.2 z hz
theorem toPys_get : ∀ (xs : List D) (m : Nat), (toPys xs)[m]? = (xs[m]?).map toPy
  | [], m => by simp [toPys]
  | x :: xs, 0 => by simp [toPys]
  | x :: xs, m + 1 => by simpa [toPys] using toPys_get xs m
theorem mt_index8 (hu : X.A.units + 65 < cLine) (σ' : L2.St) : MtR X "list.index" (rMt M X.K Wx σ' .index) := by
  intro pins s σ H x vs v us Q I rx rv hh
  obtain ⟨d, ds, h, as, hi, r1, rs, p⟩ := hh
  simp only [methD] at p
  split at p
  · rename_i nn y
    simp only [Rep] at r1
    obtain ⟨a, rfl, ea⟩ := r1
    obtain ⟨w, _, rfl, r2, rn⟩ := rs.cons_inv
    obtain rfl := rn.nil_inv
    split at p
    · rename_i xs e1
      split at p
      · rename_i hc
        simp only [Bool.and_eq_true, decide_eq_true_eq] at hc
        obtain ⟨⟨⟨c1, c2⟩, c3⟩, c4⟩ := hc
        split at p
        · rename_i j ej
          obtain ⟨ws, h1, hr⟩ := hi.ob nn _ a e1 ea
          obtain ⟨hj, q1, q2⟩ := List.findIdx?_eq_some_iff_getElem.mp ej
          have ps : ∀ (m : Nat) (z : D), xs[m]? = some z → pur z = true := fun m z ez => purs_mem c1 z (List.mem_of_getElem? ez)
          have tp : ∀ m : Nat, (toPys xs)[m]? = (xs[m]?).map toPy := toPys_get xs
          refine mt_indexD hu pins s σ H _ _ v us Q I rx rv ⟨a, w, toPy y, toPys xs, j, toPy xs[j], rfl, rfl, ?_, r2.dp c3, ?_, ?_, ?_, ?_, ?_, p _ as H Ext.refl hi (by simp only [Rep])⟩
          · exact Dp.lst (SqL.of h1) (hr.dp c1)
          · simp only [SeqAt.shaped, Bool.and_eq_true, PyData.canLay0, PyData.depth, toPys_dep]
            exact ⟨toPys_lay _, decide_eq_true (by omega)⟩
          · simp only [SeqAt.shaped, Bool.and_eq_true]
            exact ⟨toPy_lay _, decide_eq_true (by rw [toPy_dep]; omega)⟩
          · rw [tp, List.getElem?_eq_getElem hj]; rfl
          · rw [eqv_toPy _ _ (ps j _ (List.getElem?_eq_getElem hj)) c3]; exact q1
          · intro m z' hm ez
            rw [tp] at ez
            have hm' : m < xs.length := by omega
            rw [List.getElem?_eq_getElem hm'] at ez
            cases ez
            rw [eqv_toPy _ _ (ps m _ (List.getElem?_eq_getElem hm')) c3]
            simpa using q2 m hm
        · exact p.elim
      · exact p.elim
    · exact p.elim
  · exact p.elim
theorem mt_reverse8 (σ' : L2.St) : MtR X "list.reverse" (rMt M X.K Wx σ' .reverse) := by
  intro pins s σ H x vs v us Q I rx rv hh
  obtain ⟨d, ds, h, as, hi, r1, rs, p⟩ := hh
  simp only [methD] at p
  split at p
  · rename_i nn
    simp only [Rep] at r1
    obtain ⟨a, rfl, ea⟩ := r1
    obtain rfl := rs.nil_inv
    split at p
    · rename_i xs e1
      obtain ⟨ws, h1, hr⟩ := hi.ob nn _ a e1 ea
      refine mt_reverse pins s σ H _ _ v us Q I rx rv ⟨a, ws, rfl, rfl, h1, ?_⟩
      have ex := ext_set (o := HO.lst ws.reverse) ea h1 (fun _ => by intro z; cases z) (fun _ _ => by intro z; cases z)
      refine p _ as _ ex (hi.set ea h1 (fun _ => by intro z; cases z) (fun _ _ => by intro z; cases z) ⟨_, upd_same, (Reps.reverse hr).mono ex⟩) ?_
      simp only [Rep]
    · exact p.elim
  · exact p.elim
theorem mt_extend8 (σ' : L2.St) : MtR X "list.extend" (rMt M X.K Wx σ' .extend) := by
  intro pins s σ H x vs v us Q I rx rv hh
  obtain ⟨d, ds, h, as, hi, r1, rs, p⟩ := hh
  simp only [methD] at p
  split at p
  · rename_i nn mm
    simp only [Rep] at r1
    obtain ⟨a, rfl, ea⟩ := r1
    obtain ⟨w, _, rfl, r2, rn⟩ := rs.cons_inv
    obtain rfl := rn.nil_inv
    simp only [Rep] at r2
    obtain ⟨b, rfl, eb⟩ := r2
    split at p
    · rename_i xs ys e1 e2
      split at p
      · rename_i hl
        obtain ⟨ws, h1, hr⟩ := hi.ob nn _ a e1 ea
        obtain ⟨zs, h2, hz⟩ := hi.ob mm _ b e2 eb
        refine mt_extend pins s σ H _ _ v us Q I rx rv ⟨a, b, ws, zs, rfl, rfl, h1, h2, by rw [← hr.length, ← hz.length]; exact hl, ?_⟩
        have ex := ext_set (o := HO.lst (ws ++ zs)) ea h1 (fun _ => by intro z; cases z) (fun _ _ => by intro z; cases z)
        refine p _ as _ ex (hi.set ea h1 (fun _ => by intro z; cases z) (fun _ _ => by intro z; cases z) ⟨_, upd_same, (Reps.append hr hz).mono ex⟩) ?_
        simp only [Rep]
      · exact p.elim
    · exact p.elim
  · rename_i nn ts
    simp only [Rep] at r1
    obtain ⟨a, rfl, ea⟩ := r1
    obtain ⟨w, _, rfl, r2, rn⟩ := rs.cons_inv
    obtain rfl := rn.nil_inv
    simp only [Rep] at r2
    obtain ⟨b, zs, rfl, h2, hz⟩ := r2
    split at p
    · rename_i xs e1
      split at p
      · rename_i hl
        obtain ⟨ws, h1, hr⟩ := hi.ob nn _ a e1 ea
        refine mt_extendT pins s σ H _ _ v us Q I rx rv ⟨a, b, ws, zs, rfl, rfl, h1, h2, by rw [← hr.length, ← hz.length]; exact hl, ?_⟩
        have ex := ext_set (o := HO.lst (ws ++ zs)) ea h1 (fun _ => by intro z; cases z) (fun _ _ => by intro z; cases z)
        refine p _ as _ ex (hi.set ea h1 (fun _ => by intro z; cases z) (fun _ _ => by intro z; cases z) ⟨_, upd_same, (Reps.append hr hz).mono ex⟩) ?_
        simp only [Rep]
      · exact p.elim
    · exact p.elim
  · exact p.elim
theorem mt_pop8 (σ' : L2.St) : MtR X "list.pop" (rMt M X.K Wx σ' .pop) := by
  intro pins s σ H x vs v us Q I rx rv hh
  obtain ⟨d, ds, h, as, hi, r1, rs, p⟩ := hh
  simp only [methD] at p
  split at p
  · rename_i nn
    simp only [Rep] at r1
    obtain ⟨a, rfl, ea⟩ := r1
    obtain rfl := rs.nil_inv
    split at p
    · rename_i xs e1
      split at p
      · rename_i y ey
        obtain ⟨ws, h1, hr⟩ := hi.ob nn _ a e1 ea
        obtain ⟨w, ew, rw'⟩ := hr.get ey
        refine mt_pop pins s σ H _ _ v us Q I rx rv ⟨a, ws, w, rfl, rfl, h1, by rw [← hr.length]; exact ew, ?_⟩
        have ex := ext_set (o := HO.lst ws.dropLast) ea h1 (fun _ => by intro z; cases z) (fun _ _ => by intro z; cases z)
        refine p _ as _ ex (hi.set ea h1 (fun _ => by intro z; cases z) (fun _ _ => by intro z; cases z) ⟨_, upd_same, ?_⟩) (rw'.mono ex)
        have := (Reps.take (xs.length - 1) hr).mono ex
        rw [← show xs.dropLast = xs.take (xs.length - 1) from List.dropLast_eq_take, ← show ws.dropLast = ws.take (xs.length - 1) from by rw [List.dropLast_eq_take, hr.length]] at this
        exact this
      · exact p.elim
    · exact p.elim
  · rename_i nn i
    simp only [Rep] at r1
    obtain ⟨a, rfl, ea⟩ := r1
    obtain ⟨w0, _, rfl, r2, rn⟩ := rs.cons_inv
    obtain rfl := rn.nil_inv
    simp only [Rep] at r2
    subst r2
    split at p
    · rename_i xs e1
      split at p
      · rename_i hi2
        split at p
        · rename_i y ey
          obtain ⟨ws, h1, hr⟩ := hi.ob nn _ a e1 ea
          obtain ⟨w, ew, rw'⟩ := hr.get ey
          have il : i.toNat < xs.length := (List.getElem?_eq_some_iff.mp ey).1
          have hl := hr.length
          refine mt_popAt pins s σ H _ _ v us Q I rx rv ⟨a, ws, i, i.toNat, w, rfl, rfl, h1, by omega, by omega, ?_, ew, ?_⟩
          · unfold seqIndex?
            have c1 : ¬ i < 0 := by omega
            have c2 : (0 ≤ i && i < (ws.length : Int)) = true := by simp; omega
            simp only [c1, if_false]
            rw [if_pos (by simpa using c2)]
          have ex := ext_set (o := HO.lst (ws.eraseIdx i.toNat)) ea h1 (fun _ => by intro z; cases z) (fun _ _ => by intro z; cases z)
          refine p _ as _ ex (hi.set ea h1 (fun _ => by intro z; cases z) (fun _ _ => by intro z; cases z) ⟨_, upd_same, ?_⟩) (rw'.mono ex)
          have tt := Reps.append ((Reps.take i.toNat hr).mono ex) ((Reps.drop (i.toNat + 1) hr).mono ex)
          rw [← List.eraseIdx_eq_take_drop_succ, ← List.eraseIdx_eq_take_drop_succ] at tt
          exact tt
        · exact p.elim
      · exact p.elim
    · exact p.elim
  · exact p.elim
theorem mt_insert8 (σ' : L2.St) : MtR X "list.insert" (rMt M X.K Wx σ' .insert) := by
  intro pins s σ H x vs v us Q I rx rv hh
  obtain ⟨d, ds, h, as, hi, r1, rs, p⟩ := hh
  simp only [methD] at p
  split at p
  · rename_i nn i y
    simp only [Rep] at r1
    obtain ⟨a, rfl, ea⟩ := r1
    obtain ⟨w, _, rfl, r2, rn⟩ := rs.cons_inv
    obtain ⟨w2, _, rfl, r3, rn⟩ := rn.cons_inv
    obtain rfl := rn.nil_inv
    simp only [Rep] at r2
    subst r2
    split at p
    · rename_i xs e1
      split at p
      · rename_i hl
        obtain ⟨ws, h1, hr⟩ := hi.ob nn _ a e1 ea
        refine mt_insert pins s σ H _ _ v us Q I rx rv ⟨a, ws, i, w2, rfl, rfl, h1, by rw [← hr.length]; exact hl.1, hl.2.1, by have := hl.2.2; omega, ?_⟩
        have ex := ext_set (o := HO.lst (ws.take i.toNat ++ [w2] ++ ws.drop i.toNat)) ea h1 (fun _ => by intro z; cases z) (fun _ _ => by intro z; cases z)
        refine p _ as _ ex (hi.set ea h1 (fun _ => by intro z; cases z) (fun _ _ => by intro z; cases z) ⟨_, upd_same, (Reps.append (Reps.append (Reps.take _ hr) (Reps.one r3)) (Reps.drop _ hr)).mono ex⟩) ?_
        simp only [Rep]
      · exact p.elim
    · exact p.elim
  · exact p.elim
theorem kvPut_le (ks : List (D × D)) (k v : D) : (kvPut ks k v).length ≤ ks.length + 1 := by
  unfold kvPut; split <;> simp
/-- d.update(e) -/
theorem d_upd {a b : Addr} {ks ls : List (Key × V)} {pins : List (Addr × Obj)} {σ : L2.St} {H : Hp} {s : Shared} {Q : Value → Shared → Prop} {E : Value → Shared → Prop} {A : Around} (I : Inv X pins σ H s) (e1 : H a = some (.dK ks)) (e2 : Rd H b (.dK ls)) (ne : a ≠ b)
    (sz : ks.length + ls.length ≤ sizeLine) (h : ∀ s', Inv X pins σ (upd H a (.dK (mergeK ks ls))) s' → Q .none s') : wpAny (model X.prog X.w) A (call (.builtin "dict.update") [.ref a, .ref b]) Q E s := by
  obtain ⟨z, hd, vs, rel, dd⟩ := dk_of I.hok e1
  obtain ⟨z2, hd2, vs2, rel2, dd2⟩ := dk_rd I.hok e2
  refine call_meetsIn PySem.F.slot_dict_update dd.typeIs PySem.F.entry_dict_update (PySem.F.args_dict_update_2 _ _) (meets_dict_update (mixKind X.prog X.w) a b ne hd2)
    ⟨vs, vs2, dd, dd2, by rw [← rel.length, ← rel2.length]; exact sz, fun g d1 _ hs => h _ ?_⟩
  obtain ⟨q, _, _, hq, _⟩ := id d1
  exact d_write (t' := s.toks) I (by rw [e1]; exact True.intro) hs ⟨q, hq⟩ (dk_new (Nat.le_trans (length_mergeK ls ks) sz) hd (rel2.merge rel) d1)
theorem mt_update8 (σ' : L2.St) : MtR X "dict.update" (rMt M X.K Wx σ' .update) := by
  intro pins s σ H x vs v us Q I rx rv hh
  obtain ⟨d, ds, h, as, hi, r1, rs, p⟩ := hh
  simp only [methD] at p
  split at p
  · rename_i nn mm
    simp only [Rep] at r1
    obtain ⟨a, rfl, ea⟩ := r1
    obtain ⟨w, _, rfl, r2, rn⟩ := rs.cons_inv
    obtain rfl := rn.nil_inv
    simp only [Rep] at r2
    obtain ⟨b, rfl, eb⟩ := r2
    split at p
    · rename_i ks lk ls e1 e2
      split at p
      · rename_i hl
        obtain ⟨kv, h1, hr⟩ := hi.ob nn _ a e1 ea
        obtain ⟨lv, h2, hz⟩ := hi.ob mm _ b e2 eb
        simp only [lkd, Bool.false_eq_true, if_false] at h1
        cases rx
        obtain ⟨u, eu, rx⟩ := vals1 rv
        subst eu
        cases rx
        have hne : a ≠ b := fun q => hl.1 ((List.getElem?_inj (List.getElem?_eq_some_iff.mp ea).1 hi.nd).mp (by rw [ea, eb, q]))
        refine d_upd I h1 h2.rd hne (by rw [← hr.length, ← hz.length]; exact hl.2) fun s' I' => ?_
        have ex := ext_set (o := HO.dK (mergeK kv lv)) ea h1 (fun _ => by intro z; cases z) (fun _ _ => by intro z; cases z)
        refine ⟨.non, _, I', rfl, p _ as _ ex (hi.set ea h1 (fun _ => by intro z; cases z) (fun _ _ => by intro z; cases z) ⟨_, ?_, (RepKV.mrg hz hr).mono ex⟩) (by simp only [Rep])⟩
        simp only [lkd, Bool.false_eq_true, if_false]; exact upd_same
      · exact p.elim
    · exact p.elim
  · exact p.elim
theorem okK_get {h : Hs} {as : List Addr} {H : Hp} {nn : Nat} {a : Addr} {t : Bool} {kvs : List (D × D)} {k : D} {w : V} (hi : HI (M.g X.K) h as H) (ea : as[nn]? = some a) (e1 : h[nn]? = some (.dic false t kvs)) (r2 : Rep (M.g X.K) as H k w) (hk : okK t kvs k = true) :
    ∃ o, DGet H a w o ∧ ((kvGet kvs k = none ∧ o = none) ∨ ∃ d v, kvGet kvs k = some d ∧ o = some v ∧ Rep (M.g X.K) as H d v) := dget_ok (hi.ob nn _ a e1 ea) hk r2
/-- d.get(k), d.get(k, x) -/
theorem mt_get8 (hu : X.A.units + 2 < cLine) (σ' : L2.St) : MtR X "dict.get" (rMt M X.K Wx σ' .get) := by
  intro pins s σ H x vs v us Q I rx rv hh
  obtain ⟨d, ds, h, as, hi, r1, rs, p⟩ := hh
  simp only [methD] at p
  split at p
  · rename_i nn k
    simp only [Rep] at r1
    obtain ⟨a, rfl, ea⟩ := r1
    obtain ⟨w, _, rfl, r2, rn⟩ := rs.cons_inv
    obtain rfl := rn.nil_inv
    split at p
    · rename_i kvs e1
      split at p
      · rename_i hk
        obtain ⟨o, g, alt⟩ := okK_get hi ea e1 r2 hk
        cases rx
        obtain ⟨u, eu, ru⟩ := vals1 rv
        subst eu
        refine d_get1 (by omega) I g ru fun w' s' I' rw' => ⟨_, _, I', rw', ?_⟩
        rcases alt with ⟨e2, rfl⟩ | ⟨d', v', e2, rfl, r3⟩
        · rw [e2] at p; exact p _ as H Ext.refl hi (by simp only [Rep, Option.getD_none])
        · rw [e2] at p; exact p _ as H Ext.refl hi r3
      · exact p.elim
    · exact p.elim
  · rename_i nn k d2
    simp only [Rep] at r1
    obtain ⟨a, rfl, ea⟩ := r1
    obtain ⟨w, _, rfl, r2, rn⟩ := rs.cons_inv
    obtain ⟨w2, _, rfl, r3, rn⟩ := rn.cons_inv
    obtain rfl := rn.nil_inv
    split at p
    · rename_i kvs e1
      split at p
      · rename_i hk
        obtain ⟨o, g, alt⟩ := okK_get hi ea e1 r2 hk
        cases rx
        obtain ⟨u, u2, eu, ru, ru2⟩ : ∃ u u2, us = [u, u2] ∧ RelV w u ∧ RelV w2 u2 := by
          cases rv with
          | cons a1 a2 =>
            cases a2 with
            | cons b1 b2 => cases b2; exact ⟨_, _, rfl, a1, b1⟩
        subst eu
        refine d_get2 (by omega) I g ru ru2 fun w' s' I' rw' => ⟨_, _, I', rw', ?_⟩
        rcases alt with ⟨e2, rfl⟩ | ⟨d', v', e2, rfl, r4⟩
        · rw [e2] at p; exact p _ as H Ext.refl hi r3
        · rw [e2] at p; exact p _ as H Ext.refl hi r4
      · exact p.elim
    · exact p.elim
  · exact p.elim
theorem mt_isalnum8 (σ' : L2.St) : MtR X "str.isalnum" (rMt M X.K Wx σ' .isalnum) := by
  intro pins s σ H x xs v us Q I rx rv hh
  obtain ⟨d, ds, h, as, hi, r1, rs, p⟩ := hh
  simp only [methD] at p
  split at p
  · simp only [Rep] at r1
    subst r1
    obtain rfl := rs.nil_inv
    exact mt_isalnum pins s σ H _ _ v us Q I rx rv ⟨_, rfl, rfl, trivial, p _ as H Ext.refl hi (by simp only [Rep])⟩
  · exact p.elim
theorem mt_lower8 (σ' : L2.St) : MtR X "str.lower" (rMt M X.K Wx σ' .lower) := by
  intro pins s σ H x xs v us Q I rx rv hh
  obtain ⟨d, ds, h, as, hi, r1, rs, p⟩ := hh
  simp only [methD] at p
  split at p
  · split at p
    · rename_i hc
      simp only [Rep] at r1
      subst r1
      obtain rfl := rs.nil_inv
      refine mt_lower pins s σ H _ _ v us Q I rx rv ⟨_, rfl, rfl, by have := hc.1; simp only [st, Str.length, List.size_toArray, List.length_map]; omega, p _ as H Ext.refl hi (by simp only [Rep]; rw [hc.2])⟩
    · exact p.elim
  · exact p.elim
theorem joinL_st (sep : List Char) : ∀ ss : List (List Char), Str.join (st sep) (ss.map st) = st (joinL sep ss)
  | [] => by simp [Str.join, joinL, st, Str.empty]
  | [x] => rfl
  | x :: y :: r => by
    have ih := joinL_st sep (y :: r)
    have ap : ∀ a b : List Char, (st a ++ st b : Str) = st (a ++ b) := fun a b => st_app a b
    show st x ++ st sep ++ Str.join (st sep) (st y :: r.map st) = _
    rw [show (st y :: r.map st) = (y :: r).map st from rfl, ih, ap, ap]
    rfl
theorem reps_strs {G : Gx} {as : List Addr} {H : Hp} : ∀ {ys : List D} {ss : List (List Char)} {ws : List V}, strsOf ys = some ss → Reps G as H ys ws → ws = (ss.map st).map V.str
  | [], ss, ws, e, r => by
    simp only [strsOf, Option.some.injEq] at e
    subst e
    simp only [Reps] at r
    subst r; rfl
  | y :: ys, ss, ws, e, r => by
    obtain ⟨v, vs, rfl, r1, r2⟩ := r.cons_inv
    cases y with
    | str s =>
      simp only [strsOf] at e
      cases e2 : strsOf ys with
      | none => rw [e2] at e; cases e
      | some ss' =>
        rw [e2] at e
        simp only [Option.map_some, Option.some.injEq] at e
        subst e
        simp only [Rep] at r1
        subst r1
        rw [reps_strs e2 r2]; rfl
    | _ => simp [strsOf] at e
theorem mt_join8 (σ' : L2.St) : MtR X "str.join" (rMt M X.K Wx σ' .join) := by
  intro pins s σ H x xs v us Q I rx rv hh
  obtain ⟨d, ds, h, as, hi, r1, rs, p⟩ := hh
  simp only [methD] at p
  split at p
  · rename_i sep n
    simp only [Rep] at r1
    subst r1
    obtain ⟨w, _, rfl, r2, rn⟩ := rs.cons_inv
    obtain rfl := rn.nil_inv
    simp only [Rep] at r2
    obtain ⟨a, rfl, ea⟩ := r2
    split at p
    · rename_i ys e1
      split at p
      · rename_i ss e2
        split at p
        · rename_i hc
          obtain ⟨ws, h1, hr⟩ := hi.ob n _ a e1 ea
          have ew := reps_strs e2 hr
          subst ew
          refine mt_join pins s σ H _ _ v us Q I rx rv ⟨_, a, ss.map st, rfl, rfl, .inl (SqL.of h1), ?_, ?_⟩
          · have q1 : ((ss.map st).map (·.length)).sum = (ss.map List.length).sum := by
              rw [List.map_map]
              congr 1
              exact List.map_congr_left fun z _ => by simp [Function.comp, st, Str.length]
            have q2 : (st sep).length = sep.length := by simp [st, Str.length]
            rw [q1, q2, List.length_map]; omega
          · refine p _ as H Ext.refl hi ?_
            simp only [Rep]
            have ej : Txt.join (st sep) (ss.map st) = Str.join (st sep) (ss.map st) := StrLaws.glued_eq_join _ _
            rw [ej, joinL_st]
        · exact p.elim
      · exact p.elim
    · exact p.elim
  · exact p.elim
theorem mt_startswith8 (σ' : L2.St) : MtR X "str.startswith" (rMt M X.K Wx σ' .startswith) := by
  intro pins s σ H x xs v us Q I rx rv hh
  obtain ⟨d, ds, h, as, hi, r1, rs, p⟩ := hh
  simp only [methD] at p
  split at p
  · simp only [Rep] at r1
    subst r1
    obtain ⟨w, _, rfl, r2, rn⟩ := rs.cons_inv
    obtain ⟨w2, _, rfl, r3, rn⟩ := rn.cons_inv
    obtain rfl := rn.nil_inv
    simp only [Rep] at r2 r3
    subst r2 r3
    exact mt_startswith3 pins s σ H _ _ v us Q I rx rv ⟨_, _, _, rfl, rfl, p _ as H Ext.refl hi (by simp only [Rep])⟩
  · exact p.elim
theorem mt_find8 (σ' : L2.St) : MtR X "str.find" (rMt M X.K Wx σ' .find) := by
  intro pins s σ H x xs v us Q I rx rv hh
  obtain ⟨d, ds, h, as, hi, r1, rs, p⟩ := hh
  simp only [methD] at p
  split at p
  · simp only [Rep] at r1
    subst r1
    obtain ⟨w, _, rfl, r2, rn⟩ := rs.cons_inv
    obtain ⟨w2, _, rfl, r3, rn⟩ := rn.cons_inv
    obtain rfl := rn.nil_inv
    simp only [Rep] at r2 r3
    subst r2 r3
    exact mt_find3 pins s σ H _ _ v us Q I rx rv ⟨_, _, _, rfl, rfl, p _ as H Ext.refl hi (by simp only [Rep])⟩
  · exact p.elim
/-- one method's rule, in place -/
structure MtOk (X : Cx) (M : Mx) (Wx : WX) (k : Mt) (id : String) : Prop where
  pa : PlainAttrs (mtT k)
  slot : Slot (mtT k) (Str.ofString (mtN k)) id
  ty : typeOf (.builtin id) = pure (.type "method_descriptor")
  run : ∀ σ, MtR X id (rMt M X.K Wx σ k)
theorem mt_known (hu : X.A.units + 65 < cLine) {d : D} {m : String} {h : Hs} {k : Mt} (e : mtOf d m h = some k) : ∃ id, MtOk X M Wx k id := by
  cases d with
  | ob nn =>
    simp only [mtOf] at e
    split at e
    · (repeat' split at e) <;> first
        | (cases e; done)
        | (cases e; exact ⟨_, PySem.F.plainAttrs_list, PySem.F.slot_list_append, PySem.F.type_list_append, mt_append8⟩)
        | (cases e; exact ⟨_, PySem.F.plainAttrs_list, PySem.F.slot_list_index, PySem.F.type_list_index, mt_index8 hu⟩)
        | (cases e; exact ⟨_, PySem.F.plainAttrs_list, PySem.F.slot_list_reverse, PySem.F.type_list_reverse, mt_reverse8⟩)
        | (cases e; exact ⟨_, PySem.F.plainAttrs_list, PySem.F.slot_list_extend, PySem.F.type_list_extend, mt_extend8⟩)
        | (cases e; exact ⟨_, PySem.F.plainAttrs_list, PySem.F.slot_list_pop, PySem.F.type_list_pop, mt_pop8⟩)
        | (cases e; exact ⟨_, PySem.F.plainAttrs_list, PySem.F.slot_list_insert, PySem.F.type_list_insert, mt_insert8⟩)
    · by_cases m1 : m = "update"
      · rw [if_pos m1] at e
        cases e
        exact ⟨_, PySem.F.plainAttrs_dict, PySem.F.slot_dict_update, PySem.F.type_dict_update, mt_update8⟩
      · rw [if_neg m1] at e
        by_cases m2 : m = "get"
        · rw [if_pos m2] at e
          cases e
          exact ⟨_, PySem.F.plainAttrs_dict, PySem.F.slot_dict_get, PySem.F.type_dict_get, mt_get8 (by omega)⟩
        · rw [if_neg m2] at e
          cases e
    · by_cases m2 : m = "get"
      · rw [if_pos m2] at e
        cases e
        exact ⟨_, PySem.F.plainAttrs_dict, PySem.F.slot_dict_get, PySem.F.type_dict_get, mt_get8 (by omega)⟩
      · rw [if_neg m2] at e
        cases e
    · cases e
  | str z =>
    simp only [mtOf] at e
    (repeat' split at e) <;> first
      | (cases e; done)
      | (cases e; exact ⟨_, PySem.F.plainAttrs_str, PySem.F.slot_str_isalnum, PySem.F.type_str_isalnum, mt_isalnum8⟩)
      | (cases e; exact ⟨_, PySem.F.plainAttrs_str, PySem.F.slot_str_startswith, PySem.F.type_str_startswith, mt_startswith8⟩)
      | (cases e; exact ⟨_, PySem.F.plainAttrs_str, PySem.F.slot_str_find, PySem.F.type_str_find, mt_find8⟩)
      | (cases e; exact ⟨_, PySem.F.plainAttrs_str, PySem.F.slot_str_lower, PySem.F.type_str_lower, mt_lower8⟩)
      | (cases e; exact ⟨_, PySem.F.plainAttrs_str, PySem.F.slot_str_join, PySem.F.type_str_join, mt_join8⟩)
  | _ => simp [mtOf] at e
theorem se_met (K : Cok X M C sc n Wx cf) (hh : C.hot = false) {o : E} {m : String} {es : List E} {y : Expr} {ap cp : Pos} {xs : List Expr} (ho : SE M X Wx cf o y) (hb : notBare y = true) (hl : (ap.endLine == cp.line) = true) (hx : chkEs C es sc xs = true) (hn : xs.length < 20) (ha : PA X xs (tEs (M.g X.K) Wx (evalEs M.W cf M.cx es))) :
    PE X (.Call (.Attribute y (Str.ofString m) ap) xs [] cp) (tE (M.g X.K) Wx (evalE M.W cf M.cx (.met o m es))) := by
  refine ⟨fun pins s σ H Q I h => ?_⟩
  obtain ⟨σI, h, as, sl, hi, p⟩ := h
  have hform : methodCallForm (xs.length + ([] : List Keyword).length) (backTo cp (starEach xs X.env)) (backToKw cp (keywordEach [] X.env)) = true := by
    unfold methodCallForm
    rw [chkEs_form hx]
    show (true && true && decide (xs.length + 0 + 0 < 30)) = true
    simp; omega
  by_cases hins : ∃ d h1 c fs, evalE M.W cf M.cx o σI h = .ok d h1 ∧ isIns d h1 = some (c, fs)
  · obtain ⟨d, h1, c, fs, e1, e2⟩ := hins
    simp only [evalE] at p
    refine PySem.W.methodCall_KW (pl := (do return (← importBound y X.env).getD true)) (thn (ho.1.run pins s σ H _ I (then1 sl hi p)) fun u s1 ⟨x, H1, I1, rx, q⟩ => ?_) (mcall (bare_ok hb) hform hl)
    obtain ⟨d', h1', as1, e1', x1, sl1, i1, r1, p1⟩ := q
    rw [e1] at e1'; cases e1'
    simp only [e2] at p1
    split at p1
    · rename_i f e3
      split at p1
      · rename_i hno
        cases d with
        | ob mm =>
          have r1' := r1
          simp only [Rep] at r1
          obtain ⟨a, rfl, ea⟩ := r1
          obtain rfl : u = Value.ref a := rx
          simp only [isIns] at e2
          split at e2
          · rename_i c' fs' e4
            cases e2
            obtain ⟨Ca, dx, vs, ec, eo, rf⟩ := i1.ob mm _ a e4 ea
            cases e5 : M.W.cls[c]? with
            | none => rw [e5] at e3; cases e3
            | some ci =>
              rw [e5] at e3
              simp only [Option.bind_some] at e3
              obtain ⟨c1, _, c3⟩ := (K.cool hh).cls c ci e5 Ca ec
              obtain ⟨ma, hm, B⟩ := c3 m f e3
              have hl2 : vs.lookup (Str.ofString m) = none := by
                rcases rf.lookup m with ⟨_, e⟩ | ⟨dd, v, e, _⟩
                · exact e
                · rw [e] at hno; cases hno
              refine getmeth_ok I1 eo c1 hm hl2 ?_
              cases xs with
              | nil =>
                cases es with
                | cons e es => simp [chkEs] at hx
                | nil =>
                  refine PySem.W.callWith_K0 (first := [.ref a]) I1.kIn hm.kp (run_cal (us := [.ref a]) (vs := [.ref a]) K hh B I1 (.cons rfl .nil) i1 (Reps.one r1') ?_)
                  exact p1
              | cons y ys =>
                cases es with
                | nil => simp [chkEs] at hx
                | cons e es =>
                  simp only [chkEs, Bool.and_eq_true, Bool.not_eq_true'] at hx
                  refine PySem.W.callWith_K (first := [.ref a]) (h₀ := X.base) I.ok.mod.kin hm.kp (thn (ha.run cp pins s1 σ H1 _ I1 (thens sl1 i1 p1)) fun us s2 ⟨vs2, H2, I2, r, q2⟩ => ⟨I2.kIn, ?_⟩) (star_one hx.1.2 _ _) (chkEs_star hx.2)
                  obtain ⟨ds, h2, as2, _, x2, _, i2, rs, p2⟩ := q2
                  refine run_cal (us := .ref a :: us) (vs := .ref a :: vs2) K hh B I2 (.cons rfl r) i2 ?_ p2
                  simp only [Reps]
                  exact ⟨_, _, rfl, r1'.mono x2, rs⟩
          · cases e2
        | _ => simp [isIns] at e2
      · exact p1.elim
    · exact p1.elim
  · simp only [evalE] at p
    by_cases hbm : ∃ d h1 k, evalE M.W cf M.cx o σI h = .ok d h1 ∧ isIns d h1 = none ∧ mtOf d m h1 = some k
    · obtain ⟨d, h1, k, e1, e2, e3⟩ := hbm
      obtain ⟨id, mk⟩ := mt_known (X := X) (M := M) (Wx := Wx) (by have := K.hu; omega) e3
      have hmn : m = mtN k := by
        cases d with
        | ob nn =>
          simp only [mtOf] at e3
          split at e3
          · (repeat' split at e3) <;> first
              | (cases e3; done)
              | (cases e3; assumption)
          · (repeat' split at e3) <;> first
              | (cases e3; done)
              | (cases e3; assumption)
          · (repeat' split at e3) <;> first
              | (cases e3; done)
              | (cases e3; assumption)
          · cases e3
        | str z =>
          simp only [mtOf] at e3
          (repeat' split at e3) <;> first
            | (cases e3; done)
            | (cases e3; assumption)
        | _ => simp [mtOf] at e3
      subst hmn
      cases xs with
      | nil =>
        cases es with
        | cons e es => simp [chkEs] at hx
        | nil =>
          refine (pe_bm0 mk.pa mk.slot mk.ty (mk.run σ) ho.1 (bare_ok hb) hl).run pins s σ H Q I ?_
          obtain ⟨q1, q2, q3, sl', hi', p'⟩ := then1 sl hi p
          refine ⟨q1, q2, q3, sl', hi', p'.imp ?_⟩
          rintro x H1 ⟨d', h1', as1, e1', x1, sl1, i1, r1, p1⟩
          rw [e1] at e1'; cases e1'
          simp only [e2, e3] at p1
          exact ⟨(mtOf_ok i1 r1 e3).2, d, [], h1, as1, i1, r1, by simp only [Reps], p1⟩
      | cons y ys =>
        cases es with
        | nil => simp [chkEs] at hx
        | cons e es =>
          have hx' := hx
          simp only [chkEs, Bool.and_eq_true, Bool.not_eq_true'] at hx
          have hf2 : ((backTo cp (starEach (y :: ys) X.env)).all (fun x => !x.1) && (backToKw cp (keywordEach [] X.env)).all (fun x => x.1.isSome)
              && decide ((y :: ys).length + ([] : List Keyword).length + (if ([] : List Keyword).isEmpty then 0 else 1) < 30)) = true := by
            rw [chkEs_form hx']
            show (true && true && decide ((y :: ys).length + 0 + 0 < 30)) = true
            have : decide ((y :: ys).length + 0 + 0 < 30) = true := decide_eq_true (by omega)
            rw [this]; rfl
          refine (pe_bm mk.pa mk.slot mk.ty (mk.run σ) ho.1 ha (bare_ok hb) hf2 hl (star_one hx.1.2 _ _) (chkEs_star hx.2)).run pins s σ H Q I ?_
          obtain ⟨q1, q2, q3, sl', hi', p'⟩ := then1 sl hi p
          refine ⟨q1, q2, q3, sl', hi', p'.imp ?_⟩
          rintro x H1 ⟨d', h1', as1, e1', x1, sl1, i1, r1, p1⟩
          rw [e1] at e1'; cases e1'
          simp only [e2, e3] at p1
          refine ⟨(mtOf_ok i1 r1 e3).2, ?_⟩
          obtain ⟨q1, q2, q3, sl', hi', p'⟩ := thens sl1 i1 p1
          refine ⟨q1, q2, q3, sl', hi', p'.imp ?_⟩
          rintro vs H2 ⟨ds, h2, as2, _, x2, _, i2, rs, p2⟩
          exact ⟨d, ds, h2, as2, i2, r1.mono x2, rs, p2⟩
    · -- it comes to no end but by an error in o
      refine PySem.W.methodCall_KW (pl := (do return (← importBound y X.env).getD true)) (thn (ho.1.run pins s σ H _ I (then1 sl hi p)) fun u s1 ⟨x, H1, I1, rx, q⟩ => ?_) (mcall (bare_ok hb) hform hl)
      obtain ⟨d, h1, as1, e1, x1, sl1, i1, r1, p1⟩ := q
      exfalso
      cases e2 : isIns d h1 with
      | some cf' => exact hins ⟨d, h1, cf'.1, cf'.2, e1, e2⟩
      | none =>
        rw [e2] at p1
        simp only at p1
        cases e3 : mtOf d m h1 with
        | none => rw [e3] at p1; exact p1
        | some k => exact hbm ⟨d, h1, k, e1, e2, e3⟩
end
end Rf
end

section
namespace Rf
open PySem PySem.Spec PyProof.Rows L2

/-! ## calls with a lambda -/
theorem pars_dflt {params : Arguments} {ps : List Str} {env : Env} (h : parsB params = some ps) : defaultsOf params env = ([], []) := by
  unfold parsB at h
  split at h <;> first | rfl | (cases h; done) | skip
theorem pars_bind {params : Arguments} {ps : List Str} (h : parsB params = some ps) (q : Str) (body : Expr) (scope : Scope) (cl : List (Str × Addr)) (pm cv ctv : Value) (us : List Value) (hl : us.length = ps.length) :
    bindArgs (PySem.W.kla_fn "<lambda>" q params body scope cl pm cv ctv) ⟨us, []⟩ = pure (ps.zip us) := by
  unfold parsB at h
  split at h
  · cases h
    match us, hl with
    | [], _ => rfl
  · cases h
    rename_i x _
    match us, hl with
    | [u], _ =>
      simp [bindArgs, seqItems?, List.lookup, List.zip, List.zipWith] <;> rfl
  · rename_i x _ y _
    split at h
    · rename_i hxy
      cases h
      match us, hl with
      | [u, v], _ => simp [bindArgs, seqItems?, List.lookup, List.zip, List.zipWith, hxy.1, hxy.2] <;> rfl
    · cases h
  · cases h

section
variable {X : Cx} {M : Mx} {C : Ck} {sc : Scope} {n : Nat} {Wx : WX} {cf : CF}
/-- what a lambda holds, read -/
theorem caps_eval {W : Wd} {cx : CXI} {σI : Sg} {h : Hs} : ∀ {cs : List E} {capN : List Str}, capsB C sc cs capN = true →
    evalEs W cf cx cs σI h = .no ∨ ∃ ys, evalEs W cf cx cs σI h = .ok ys h ∧ ys.length = capN.length ∧ ∀ (i : Nat) y d, capN[i]? = some y → ys[i]? = some d → ∃ k : Nat, C.N[k]? = some y ∧ σI[k]? = some (some d) ∧ (kindB sc y .cell = true ∨ kindB sc y .free = true)
  | [], [], _ => .inr ⟨[], by simp [evalEs], rfl, by simp⟩
  | .var k :: cs, y :: capN, hc => by
    simp only [capsB, Bool.and_eq_true, Bool.or_eq_true] at hc
    simp only [evalEs, evalE]
    cases e : σI[k]? with
    | none => exact .inl rfl
    | some o =>
      cases o with
      | none => exact .inl rfl
      | some d =>
        simp only [R.bind_ok]
        rcases caps_eval (W := W) (cx := cx) (σI := σI) (h := h) hc.2 with e2 | ⟨ys, e2, hl, hg⟩
        · exact .inl (by rw [e2]; rfl)
        · refine .inr ⟨d :: ys, by rw [e2]; rfl, by simp [hl], fun i y' d' h1 h2 => ?_⟩
          cases i with
          | zero =>
            simp at h1 h2; subst h1 h2
            exact ⟨k, isC_ok hc.1.1, e, hc.1.2⟩
          | succ i => exact hg i y' d' (by simpa using h1) (by simpa using h2)
  | [], _ :: _, hc => by simp [capsB] at hc
  | e :: _, [], hc => by cases e <;> simp [capsB] at hc
theorem lamA_inv {j : Nat} {cs : List E} {l : Expr} (h : lamA C sc j cs l = true) :
    ∃ params body scope pos capN ps, l = .Lambda params body scope pos ∧ C.lms j = some (capN, ps) ∧ parsB params = some ps ∧ C.lamB j scope body = true ∧ capsB C sc cs capN = true ∧ lamScB sc scope capN ps = true := by
  unfold lamA at h
  split at h
  · rename_i params body scope pos
    split at h
    · rename_i capN ps ps' e1 e2
      simp only [Bool.and_eq_true, decide_eq_true_eq] at h
      obtain ⟨⟨⟨rfl, h1⟩, h2⟩, h3⟩ := h
      exact ⟨_, _, _, _, _, _, rfl, e1, e2, h1, h2, h3⟩
    · cases h
  · cases h
structure LamSc (sc scope : Scope) (capN ps : List Str) : Prop where
  kind : scope.kind = .function
  co : scope.isCoroutine = false
  gen : scope.isGenerator = false
  nc : ∀ y ∈ scope.names, y.2 ≠ .cell
  fr : ∀ y ∈ scope.names, y.2 = .free → y.1 ∈ capN ∧ (kindB sc y.1 .cell = true ∨ kindB sc y.1 .free = true)
  lo : ∀ y ∈ scope.names, y.2 = .local → y.1 ∈ ps
  pl : ∀ x ∈ ps, scope.names.lookup x = some .local
  cap : ∀ y ∈ capN, scope.names.lookup y = some .free
  nd : (capN ++ ps).Nodup
theorem lamSc_of {scope : Scope} {capN ps : List Str} (h : lamScB sc scope capN ps = true) : LamSc sc scope capN ps := by
  simp only [lamScB, Bool.and_eq_true, Bool.not_eq_true', List.all_eq_true, decide_eq_true_eq, Bool.or_eq_true, decide_eq_false_iff_not] at h
  obtain ⟨⟨⟨⟨⟨⟨h1, h2⟩, h3⟩, h4⟩, h5⟩, h6⟩, h7⟩ := h
  refine ⟨?_, h2, h3, fun y hy => (h4 y hy).1.1, fun y hy e => ?_, fun y hy e => ?_, fun x hx => kindB_ok (h5 x hx), fun y hy => kindB_ok (h6 y hy), h7⟩
  · unfold isFunK at h1
    split at h1
    · assumption
    · cases h1
  · rcases (h4 y hy).1.2 with q | q
    · exact absurd e q
    · exact q
  · rcases (h4 y hy).2 with q | q
    · exact absurd e q
    · exact q
theorem cf_kind (K : Cok X M C sc n Wx cf) {y : Str} (h : kindB sc y .cell = true ∨ kindB sc y .free = true) : X.env.kindOf y = some .cell ∨ X.env.kindOf y = some .free := by
  rcases h with h | h
  · exact .inl (K.scn y _ (by decide) (kindB_ok h))
  · exact (K.scf y (kindB_ok h)).symm
/-- a lambda's object is made: what the tracked heap becomes -/
theorem lam_mk {pins : List (Addr × Obj)} {s : Shared} {σ : L2.St} {H : Hp} {T : List (Addr × Str)} {c P : Addr} {params : Arguments} {body : Expr} {scope : Scope} {pos : Pos} {EE QQ : Value → Shared → Prop} (I : Inv X pins σ H s) (TB : LamX.TabB X.base X.mg c P)
    (hc : X.env.code = .ref c) (hm : (P, X.env.qual ++ "<lambda>") ∈ T) (hu : ∀ p ∈ T, p.1 = P → p.2 = X.env.qual ++ "<lambda>") (hT : LamX.Tabs T H) (hd : defaultsOf params X.env = ([], [])) (hf : ∀ y ∈ scope.names, y.2 = .free → ∃ c, X.env.cells.lookup y.1 = some c)
    (fin : ∀ (f c' : Addr) (pm ctv : Value) (H1 : Hp) (s' : Shared), Inv X pins σ H1 s' →
      (H1 = H ∨ ∃ ps more, H P = some (.tbl ps) ∧ H c' = none ∧ H1 = upd (upd H P (.tbl (ps ++ more))) c' (LamX.CodeO c' (X.env.qual ++ "<lambda>"))) → LamX.Tabs T H1 →
      s'.heap.get? f = some (PySem.W.kla_obj "<lambda>" (X.env.qual ++ "<lambda>") params body scope (cloFrom X.env.cells scope.names []) pm c' ctv) → H1 f = none → f ∉ frs X.stack →
      H1 c' = some (LamX.CodeO c' (X.env.qual ++ "<lambda>")) → QQ (.ref f) s') :
    wpAny (model X.prog X.w) X.A (eval (.Lambda params body scope pos) X.env) QQ EE s := by
  obtain ⟨ps, hP, triples, named⟩ := hT _ hm
  have heapP : s.heap.get? P = some { cls := .none, data := .fields ps } := I.hok P _ hP
  have noFrame : ∀ x, s.heap.objs.size ≤ x → x ∉ frs X.stack := by
    intro x hx z
    rcases List.mem_cons.mp (I.stkSub _ z) with e | e
    · have l := I.lt
      rw [← e] at l
      exact absurd (Nat.lt_of_lt_of_le l hx) (Nat.lt_irrefl _)
    · exact I.nofs hx e
  refine PySem.W.kla_eval hd ?_
  match hfound : codeAmong pos ps.toList with
  | some cv =>
    obtain ⟨c', rfl, known⟩ := named pos cv hfound
    exact PySem.W.kla_makeFunctionHit (mg := X.mg) (c := c) (P := P) (ps := ps) (closure_ok hf) I.ok.glob (I.mod.glob.keeps I.bk) hc (TB.code.keeps I.bk) heapP triples hfound (TB.bm.keeps I.bk) fun ctv h' tk stays grown =>
      fin h'.objs.size c' ((X.mg "__name__").getD .none) ctv H _ (I.kept fun b o e => Heap.get?_push_of_some _ (stays b o e)) (.inl rfl) hT (Heap.get?_push_size _ rfl) (I.hok.fresh grown) (noFrame _ grown) known
  | none =>
    refine PySem.W.kla_makeFunction (mg := X.mg) (c := c) (P := P) (ps := ps) (closure_ok hf) I.ok.glob (I.mod.glob.keeps I.bk) hc (TB.code.keeps I.bk) heapP triples hfound TB.gP (TB.bm.keeps I.bk) fun c' ctv h' tk stays above below rec tab => ?_
    obtain ⟨c2, oc, vs, t, ec, hoc, hdat, hname⟩ := rec
    cases ec
    have grown : s.heap.objs.size ≤ h'.objs.size := Nat.le_trans above (Nat.le_of_lt below)
    have newC : H c' = none := I.hok.fresh above
    have Pc : P ≠ c' := ne_of_none hP newC
    have I1 := LamX.inv_table (t' := tk) (q := X.env.qual ++ "<lambda>") (more := #[rawInt pos.line, rawInt pos.col, .ref c']) (h' := h'.push (PySem.W.kla_obj "<lambda>" (X.env.qual ++ "<lambda>") params body scope (cloFrom X.env.cells scope.names []) ((X.mg "__name__").getD .none) c' ctv)) I hP
      (fun b o hb e => Heap.get?_push_of_some _ (stays b o hb e)) (Heap.get?_push_of_some _ tab) above ⟨oc, vs, t, Heap.get?_push_of_some _ hoc, hdat, hname⟩
    have old : ∀ b o, b ≠ P → H b = some o → upd (upd H P (.tbl (ps ++ #[rawInt pos.line, rawInt pos.col, .ref c']))) c' (LamX.CodeO c' (X.env.qual ++ "<lambda>")) b = some o := fun b o n e => by
      rw [upd_ne (ne_of_none e newC), upd_ne n]; exact e
    refine fin h'.objs.size c' ((X.mg "__name__").getD .none) ctv _ _ I1 (.inr ⟨ps, _, hP, newC, rfl⟩) (fun p hp => ?_) (Heap.get?_push_size _ rfl) ?_ (noFrame _ grown) upd_same
    · by_cases hb : p.1 = P
      · rw [hu p hp hb, hb]
        refine ⟨_, by rw [upd_ne Pc]; exact upd_same, ?_, fun p' cv hcv => ?_⟩
        · rw [show (ps ++ #[rawInt pos.line, rawInt pos.col, Value.ref c']).toList = ps.toList ++ [rawInt pos.line, rawInt pos.col, Value.ref c'] by simp]
          exact PySem.TriplesOk_snoc _ _ _ _ triples
        · rw [show (ps ++ #[rawInt pos.line, rawInt pos.col, Value.ref c']).toList = ps.toList ++ [rawInt pos.line, rawInt pos.col, Value.ref c'] by simp] at hcv
          rcases LamX.among_app _ triples hcv with z | z
          · obtain ⟨c0, e1, e2⟩ := named p' cv z
            exact ⟨c0, e1, old _ _ (fun w => by rw [w, hP] at e2; exact LamX.codeO_ne _ (Option.some.inj e2).symm) e2⟩
          · exact ⟨c', z, upd_same⟩
      · obtain ⟨ps', a1, a2, a3⟩ := hT p hp
        refine ⟨ps', old _ _ hb a1, a2, fun p' cv hcv => ?_⟩
        obtain ⟨c0, e1, e2⟩ := a3 p' cv hcv
        exact ⟨c0, e1, old _ _ (fun w => by rw [w, hP] at e2; exact LamX.codeO_ne _ (Option.some.inj e2).symm) e2⟩
    · rw [upd_ne (Nat.ne_of_gt below), upd_ne (Nat.ne_of_gt (Nat.lt_of_lt_of_le (Heap.lt_size heapP) grown))]
      exact I.hok.fresh grown
theorem clo_sub {cells : List (Str × Addr)} {names : List (Str × NameKind)} (hf : ∀ y ∈ names, y.2 = .free → ∃ c, cells.lookup y.1 = some c) {y : Str} {c : Addr} (e : (cloFrom cells names []).lookup y = some c) : cells.lookup y = some c := by
  rcases cloFrom_mem (PySem.mem_of_lookup e) with hm | ⟨h1, h2⟩
  · cases hm
  · obtain ⟨c1, hc⟩ := hf _ h1 rfl
    have hc : cells.lookup y = some c1 := hc
    have e2 : c = c1 := by rw [h2, hc] <;> rfl
    rw [e2]; exact hc
theorem clo_has {cells : List (Str × Addr)} {names : List (Str × NameKind)} {y : Str} (h : names.lookup y = some .free) : ∃ c, (cloFrom cells names []).lookup y = some c := by
  have hy : (y, NameKind.free) ∈ names := PySem.mem_of_lookup h
  exact mem_lookup (cloFrom_has (cells := cells) (acc := []) hy)
/-- the lambda at a call's end is made, the def is called -/
theorem lam_call (K : Cok X M C sc n Wx cf) (hh : C.hot = false) (hm : C.mkl = true) {kl : Nat} {cfl : CF} (V : VirOk X.prog X.w X.K X.mg X.base M.z C n cf kl cfl) {a : Addr} {v j : Nat}
    (B : ∀ capN ps, C.lms j = some (capN, ps) → FnVB X.prog X.w X.K X.mg X.base M.z n cf kl cfl a v j capN.length) {cs : List E} {l : Expr} (hA : lamA C sc j cs l = true)
    {pins : List (Addr × Obj)} {s : Shared} {σ : L2.St} {H : Hp} {Q : VK} {vs : List L2.V} {us : List Value} {ds : List D} {h : Hs} {as : List Addr} {σI : Sg} (I : Inv X pins σ H s) (sl : SL (M.g X.K) σI as H σ) (rv : Vals vs us) (hi : HI (M.g X.K) h as H) (rs : Reps (M.g X.K) as H ds vs)
    (p : post (M.g X.K) Wx (Rep (M.g X.K)) as H σ ((evalEs M.W cf M.cx cs σI h).bind fun ys h => cf v (ds ++ ys) h) Q) :
    wpAny (model X.prog X.w) X.A (eval l X.env) (fun u s' => X.K.In s'.heap ∧ wpAny (model X.prog X.w) X.A (call (.ref a) (us ++ [u])) (EP X pins σ Q) X.xe s') X.xe s := by
  obtain ⟨params, body, scope, pos, capN, ps, rfl, elm, epar, hB, hcap, hsc⟩ := lamA_inv hA
  obtain ⟨c, P, hcode, TB, hmT, hu⟩ := K.lmk hh hm
  have S := lamSc_of hsc
  rcases caps_eval (W := M.W) (cf := cf) (cx := M.cx) (σI := σI) (h := h) hcap with e | ⟨ys, e, hyl, hyg⟩
  · rw [e] at p; exact p.elim
  rw [e] at p
  simp only [R.bind_ok] at p
  have hfree : ∀ y ∈ scope.names, y.2 = .free → ∃ c, X.env.cells.lookup y.1 = some c := fun y hy e => I.ok.has _ (cf_kind K (S.fr y hy e).2)
  refine lam_mk (T := M.tb) I TB hcode hmT hu hi.tb (pars_dflt epar) hfree fun f c' pm ctv H1 s' I1 hH1 T1 hf hfn hfr hco => ⟨I1.kIn, ?_⟩
  have eN : ∀ b o, H b = some o → (∀ ps, o ≠ .tbl ps) → H1 b = some o := by
    intro b o q nt
    rcases hH1 with rfl | ⟨ps, more, q1, q2, rfl⟩
    · exact q
    · rw [upd_ne (ne_of_none q q2), upd_ne (fun z => by rw [z, q1] at q; exact nt ps (Option.some.inj q).symm)]; exact q
  have eE : Ext as H as H1 := ⟨fun _ _ q => q, fun a xs q => eN a _ q (fun _ z => nomatch z), fun a o u q => eN a _ q (fun _ z => nomatch z), fun a o q _ nt => eN a o q nt, fun a ps q => by
      rcases hH1 with rfl | ⟨ps', more, q1, q2, rfl⟩
      · exact ⟨#[], by simpa using q⟩
      · by_cases ha : a = P
        · rw [ha, q1] at q
          cases q
          exact ⟨more, by rw [ha, upd_ne (ne_of_none q1 q2)]; exact upd_same⟩
        · exact ⟨#[], by rw [upd_ne (ne_of_none q q2), upd_ne ha]; simpa using q⟩,
    fun a q1 q2 => absurd q1 q2⟩
  have hi1 : HI (M.g X.K) h as H1 := ⟨hi.xd.ext eE, T1, hi.len, hi.nd, fun n mo a e1 e2 => by
    have ob := hi.ob n mo a e1 e2
    obtain ⟨u, eu⟩ := ob.some_
    exact ob.mono eE ((eN a u eu (ob.noT u eu).1).trans eu.symm)⟩
  have nas : c' ∉ as := fun z => (hi1.noT z _ hco).2 _ rfl
  have rs1 := rs.mono eE
  have sub : ∀ {y c}, (cloFrom X.env.cells scope.names []).lookup y = some c → X.env.cells.lookup y = some c := fun e => clo_sub hfree e
  have cel : CelC X.K M.z scope (cloFrom X.env.cells scope.names []) capN ys s' H1 as := by
    refine ⟨fun y c e => ⟨I1.cell y c (sub e), I1.freeC y c (sub e)⟩, fun y z c e1 e2 => I1.ok.inj y z c (sub e1) (sub e2), fun y e => clo_has e, hyl, fun i y d e1 e2 => ?_⟩
    obtain ⟨k, k1, k2, k3⟩ := hyg i y d e1 e2
    obtain ⟨v', k4, k5⟩ := (sl.mono eE).at_ k d k2
    have hfr' := S.cap y (List.mem_of_getElem? e1)
    obtain ⟨c, ec⟩ := clo_has (cells := X.env.cells) hfr'
    obtain ⟨m, _, hl⟩ := I1.loc
    have ck := cf_kind K k3
    obtain ⟨u, r, lk⟩ := hl k y v' (by rw [K.N]; exact k1) k4 (ck.elim (fun q => .inr (.inl q)) fun q => .inr (.inr q))
    rcases lk with ⟨q, _⟩ | ⟨_, c2, ec2, hcell⟩
    · rcases ck with ck | ck <;> rw [ck] at q <;> cases q
    · rw [sub ec] at ec2
      cases ec2
      exact ⟨c, u, v', ec, hcell, r, rep_z k5⟩
  have L := V.make j capN ps elm sc scope body params hB epar hsc (X.env.qual ++ "<lambda>") _ f c' pm ctv (frs X.stack) s' H1 as ys hf hfn hfr cel
  obtain ⟨fd, pp, i, hb, hp, hl, go⟩ := B capN ps elm
  have hn : cf v (ds ++ ys) h ≠ .no := fun e => by rw [e] at p; exact p
  have hlen : ds.length = i := by
    have := hl _ _ hn
    rw [List.length_append, hyl] at this
    omega
  have vl : vs.length = i := by rw [← hlen, rs.length]
  have rvv : Vals (vs ++ [.ref f]) (us ++ [.ref f]) := rv.append (.cons rfl .nil)
  have b := hb s' (us ++ [.ref f]) I1.kIn (by rw [List.append_nil, ← rvv.length, hp]; simp [vl])
  rw [List.append_nil] at b
  refine wpAny_call (codeAny_mono (go X.A X.stack s' H1 _ vs f c' _ ds ys h as Q (WE Wx σ) K.gd ((K.cool hh).room.mono (by omega)) I1.env0 b rvv vl L nas hco hi1.z (reps_z rs1) (post_z (fun _ _ _ q => q) hi1.xd (p.mono eE))) fun r s2 q => ?_)
  have z := cr_end I1 (fun e _ c => passAt K.tk σ pins H1 s' e s2 I1 c) q
  rcases r with e | fl
  · exact z
  · rcases fl with _ | _ | _ | u
    · exact z
    · exact z
    · exact z
    · exact z
/-- f(.., lambda ..: ..) -/
theorem se_cml (K : Cok X M C sc n Wx cf) (hh : C.hot = false) {v j : Nat} {es cs : List E} {x : Str} {xs : List Expr} {l : Expr} {p pos : Pos} (hm : C.mkl = true) (h1 : (v, j, x) ∈ C.vnm) (h2 : glB sc x = true) (h3 : okN x = true)
    (hA : lamA C sc j cs l = true) (hx : chkEs C es sc xs = true) (h1x : xs.length ≤ 1) (he : ∀ e y, es = [e] → xs = [y] → SE M X Wx cf e y) :
    PE X (.Call (.Name x p) (xs ++ [l]) [] pos) (tE (M.g X.K) Wx (evalE M.W cf M.cx (.cml v j es cs))) := by
  obtain ⟨kl, cfl, V⟩ := (K.cool hh).vir
  obtain ⟨a, m1, kp, B⟩ := V.fn v j x h1
  obtain ⟨params, body, scope, lpos, _, _, rfl, _⟩ := lamA_inv hA
  refine ⟨fun pins s σ H Q I h => ?_⟩
  obtain ⟨σI, h, as, sl, hi, p⟩ := h
  simp only [evalE] at p
  refine wpAny_Call_Name_kw (ld_glob I (K.gl x h2) m1 ?_ (okN_ok h3).1)
  match xs, hx, h1x with
  | [], hx, _ =>
    obtain rfl : es = [] := by cases es with | nil => rfl | cons _ _ => simp [chkEs] at hx
    simp only [evalEs, R.bind_ok] at p
    refine PySem.W.callWith_K (h₀ := X.base) I.ok.mod.kin kp ?_ (by rfl) (by rfl)
    show wpAny _ _ (spliced ((false, eval (.Lambda params body scope lpos) X.env) :: backTo pos (starEach [] X.env))) _ _ s
    refine Calls.spliced_cons (thn (lam_call (us := []) (vs := []) (ds := []) K hh hm V B hA I sl .nil hi (by simp only [Reps]) p) fun u s1 q => Calls.spliced_nil ?_)
    exact q
  | [y], hx, _ =>
    match es, hx with
    | [e], hx =>
      simp only [chkEs, Bool.and_eq_true, Bool.not_eq_true'] at hx
      have hy := (he e y rfl rfl).1
      simp only [evalEs, R.bind_assoc, R.bind_ok] at p
      refine PySem.W.callWith_K (h₀ := X.base) I.ok.mod.kin kp ?_ (star_one hx.1.2 _ _) (by rfl)
      show wpAny _ _ (spliced (backTo pos (starEach (y :: [Expr.Lambda params body scope lpos]) X.env))) _ _ s
      rw [star_one hx.1.2]
      show wpAny _ _ (spliced ((false, eval y X.env) :: (false, eval (.Lambda params body scope lpos) X.env) :: backTo pos (starEach [] X.env))) _ _ s
      refine Calls.spliced_cons (thn (hy.run pins s σ H _ I (then1 sl hi p)) fun u0 s0 ⟨v0, H0, I0, r0, q0⟩ => ?_)
      obtain ⟨d0, h0, as0, _, x0, sl0, i0, rr0, p0⟩ := q0
      refine Calls.spliced_cons (thn (lam_call (us := [u0]) (vs := [v0]) (ds := [d0]) K hh hm V B hA I0 sl0 (.cons r0 .nil) i0 (Reps.one rr0) p0) fun u s1 q => Calls.spliced_nil ?_)
      exact q
    | [], hx => simp [chkEs] at hx
    | _ :: _ :: _, hx => simp [chkEs] at hx
/-- o.m(lambda ..: ..) -/
theorem se_mml (K : Cok X M C sc n Wx cf) (hh : C.hot = false) {c v j : Nat} {o : E} {m : String} {cs : List E} {y l : Expr} {ap cp : Pos} (hm : C.mkl = true) (h1 : (v, j, c, m) ∈ C.vmt) (hA : lamA C sc j cs l = true)
    (ho : SE M X Wx cf o y) (hb : notBare y = true) (hl : (ap.endLine == cp.line) = true) :
    PE X (.Call (.Attribute y (Str.ofString m) ap) [l] [] cp) (tE (M.g X.K) Wx (evalE M.W cf M.cx (.mml c o m v j cs))) := by
  obtain ⟨kl, cfl, V⟩ := (K.cool hh).vir
  obtain ⟨params, body, scope, lpos, _, _, rfl, _⟩ := lamA_inv hA
  refine ⟨fun pins s σ H Q I h => ?_⟩
  obtain ⟨σI, h, as, sl, hi, p⟩ := h
  simp only [evalE] at p
  have hform : methodCallForm ([Expr.Lambda params body scope lpos].length + ([] : List Keyword).length) (backTo cp (starEach [Expr.Lambda params body scope lpos] X.env)) (backToKw cp (keywordEach [] X.env)) = true := rfl
  refine PySem.W.methodCall_KW (pl := (do return (← importBound y X.env).getD true)) (thn (ho.1.run pins s σ H _ I (then1 sl hi p)) fun u s1 ⟨x, H1, I1, rx, q⟩ => ?_) (mcall (bare_ok hb) hform hl)
  obtain ⟨d, h1', as1, e1, x1, sl1, i1, r1, p1⟩ := q
  cases hins : isIns d h1' with
  | none => rw [hins] at p1; exact p1.elim
  | some cf' =>
    obtain ⟨c', fs⟩ := cf'
    rw [hins] at p1
    simp only at p1
    split at p1
    · rename_i hc
      obtain ⟨rfl, hno⟩ := hc
      cases d with
      | ob mm =>
        have r1' := r1
        simp only [Rep] at r1
        obtain ⟨a, rfl, ea⟩ := r1
        obtain rfl : u = Value.ref a := rx
        simp only [isIns] at hins
        split at hins
        · rename_i c2 fs' e4
          cases hins
          obtain ⟨Ca, dx, vs, ec, eo, rf⟩ := i1.ob mm _ a e4 ea
          obtain ⟨ci, e5, hmt⟩ := V.mt v j _ m h1
          replace e5 : M.W.cls[_]? = some ci := e5
          obtain ⟨c1, _, _⟩ := (K.cool hh).cls _ ci e5 Ca ec
          obtain ⟨ma, hmm, B⟩ := hmt Ca ec
          have hl2 : vs.lookup (Str.ofString m) = none := by
            rcases rf.lookup m with ⟨_, e⟩ | ⟨dd, v, e, _⟩
            · exact e
            · rw [e] at hno; cases hno
          refine getmeth_ok I1 eo c1 hmm hl2 ?_
          refine PySem.W.callWith_K (first := [.ref a]) (h₀ := X.base) I.ok.mod.kin hmm.kp ?_ (by rfl) (by rfl)
          show wpAny _ _ (spliced ((false, eval (.Lambda params body scope lpos) X.env) :: backTo cp (starEach [] X.env))) _ _ s1
          refine Calls.spliced_cons (thn (lam_call (us := [.ref a]) (vs := [.ref a]) (ds := [.ob mm]) K hh hm V B hA I1 sl1 (.cons rfl .nil) i1 (Reps.one r1') p1) fun u s2 q => Calls.spliced_nil ?_)
          exact q
        · cases hins
      | _ => simp [isIns] at hins
    · exact p1.elim
end
end Rf
end

section
namespace Rf
open PySem PySem.Spec PyProof.Rows L2

/-! ## what is walked -/
def WalkOk (G : Gx) (J : It) (items : List D) (g : Gd) (as0 : List Addr) (H0 : Hp) : Prop :=
  ∀ i h as H, Ext as0 H0 as H → HI G h as H → same g h →
    (items.length ≤ i → J.stop i H) ∧ (∀ d, items[i]? = some d → J.go i H ∧ ∀ x H', J.yld i H x H' → ∃ as', Ext as H as' H' ∧ HI G h as' H' ∧ Rep G as' H' d x)
/-- a dict that this body has locked; H: ahead of it -/
def GdOk (X : Cx) (g : Gd) (as : List Addr) (H : Hp) : Prop := match g with
  | .lock n _ _ => ∃ a, as[n]? = some a ∧ (∀ o u, X.H_0 a ≠ some (.frz o u)) ∧ ∀ o u, H a ≠ some (.frz o u)
  | _ => True
def rW (X : Cx) (M : Mx) : List Addr → Hp → List D × Gd × Hs → It → Prop := fun as H ig J => HI (M.g X.K) ig.2.2 as H ∧ WalkOk (M.g X.K) J ig.1 ig.2.1 as H
/-- the reading of what is walked: the outcome's own heap is forgotten, the items' heap counts -/
def postW (X : Cx) (M : Mx) (Wx : WX) (as : List Addr) (H : Hp) (σ : L2.St) (r : R (List D × Gd × Hs)) (Q : It → Hp → Prop) : Prop :=
  match r with
  | .ok ig _ => ∀ J as' H', Ext as H as' H' → rW X M as' H' ig J → GdOk X ig.2.1 as' H → Q J H'
  | .exc c fs h' => ∀ C dx vs as' H', Ext as H as' H' → HI (M.g X.K) h' as' H' → M.ca c = some C → H' dx = some (.xd vs) → RepF (M.g X.K) as' H' fs vs → Wx (.ref C) (some dx) σ H'
  | .no => False
def tI (X : Cx) (M : Mx) (Wx : WX) (ev : Sg → Hs → R (List D)) (k : Ik) : TI := fun σ H Q => ∃ σI h as, SL (M.g X.K) σI as H σ ∧ HI (M.g X.K) h as H ∧ postW X M Wx as H σ ((ev σI h).bind fun xs h => ofO (itemsI M.W.cons k xs h) h) Q
section
variable {X : Cx} {M : Mx} {C : Ck} {sc : Scope} {n : Nat} {Wx : WX} {cf : CF}
theorem pi_imp {tg e : Expr} {t t' : TI} (h : PI X tg e t) (i : ∀ σ H Q, t' σ H Q → t σ H Q) : PI X tg e t' := ⟨fun pins s σ H Q I q => h.run pins s σ H Q I (i σ H Q q)⟩
theorem RepKV.at {as : List Addr} {H : Hp} : ∀ {kvs : List (D × D)} {kv : List (Key × V)} {i : Nat} {d : D}, RepKV keyK (M.g X.K) as H kvs kv → (kvs.map (·.1))[i]? = some d → ∃ k v, kv[i]? = some (k, v) ∧ Rep (M.g X.K) as H d (kV k)
  | _, _, _, _, .nil, e => by simp at e
  | (a, b) :: kvs, (x, v) :: kv, 0, d, .cons h t, e => by
    simp at e; subst e
    refine ⟨x, v, rfl, ?_⟩
    have e1 := h.1
    simp only at e1
    cases a <;> simp only [keyK, Option.some.injEq, reduceCtorEq] at e1 <;> subst e1 <;> simp only [Rep, kV]
  | (a, b) :: kvs, (x, v) :: kv, i + 1, d, .cons h t, e => by
    simpa using RepKV.at t (by simpa using e)
/-- a locked dict's keys -/
theorem walk_keys {a : Addr} {od : Obj} {kv : List (Key × V)} {kvs : List (D × D)} {as : List Addr} {H : Hp} {m : Nat} {g : Gd} (hl : H a = some (.frz od (.dK kv))) (hk : RepKV keyK (M.g X.K) as H kvs kv) : WalkOk (M.g X.K) (Itk a od kv) (kvs.map (·.1)) g as H := by
  intro i h3 as3 H3 x3 i3 _
  have hl3 := x3.frz _ _ _ hl
  have hk3 := hk.mono x3
  refine ⟨fun hh => ⟨hl3, by rw [List.length_map, hk.length] at hh; exact hh⟩, fun d hd => ?_⟩
  obtain ⟨k, v, e, r⟩ := RepKV.at hk3 hd
  refine ⟨⟨hl3, (List.getElem?_eq_some_iff.mp e).1⟩, ?_⟩
  rintro y H4 ⟨rfl, k', v', e', rfl⟩
  rw [e] at e'; cases e'
  exact ⟨as3, Ext.refl, i3, r⟩
theorem keyT_rep {as : List Addr} {H : Hp} {d : D} {k : List Key} {q : Addr} (e : keyT d = some k) (h : H q = some (.tup (k.map kV))) : Rep (M.g X.K) as H d (.ref q) := by
  cases d <;> simp only [keyT, reduceCtorEq] at e
  rename_i ds
  simp only [Rep]
  refine ⟨q, k.map kV, rfl, h, ?_⟩
  clear h
  induction ds generalizing k with
  | nil => simp only [keyKs, Option.some.injEq] at e; subst e; simp only [Reps, List.map_nil]
  | cons d ds ih =>
    simp only [keyKs] at e
    split at e
    · rename_i k1 ks e1 e2
      cases e
      simp only [Reps, List.map_cons]
      refine ⟨_, _, rfl, ?_, ih e2⟩
      cases d <;> simp only [keyK, Option.some.injEq, reduceCtorEq] at e1 <;> subst e1 <;> simp only [Rep, kV]
    · cases e
theorem RepKV.atT {as : List Addr} {H : Hp} : ∀ {kvs : List (D × D)} {kv : List (List Key × V)} {i : Nat} {d : D}, RepKV keyT (M.g X.K) as H kvs kv → (kvs.map (·.1))[i]? = some d → ∃ k v, kv[i]? = some (k, v) ∧ keyT d = some k
  | _, _, _, _, .nil, e => by simp at e
  | (a, b) :: kvs, (x, v) :: kv, 0, d, .cons h t, e => by
    simp at e; subst e
    exact ⟨x, v, rfl, h.1⟩
  | (a, b) :: kvs, (x, v) :: kv, i + 1, d, .cons h t, e => by
    simpa using RepKV.atT t (by simpa using e)
theorem walk_keysT {a : Addr} {od : Obj} {kv : List (List Key × V)} {kvs : List (D × D)} {as : List Addr} {H : Hp} {g : Gd} (hl : H a = some (.frz od (.dT kv))) (hk : RepKV keyT (M.g X.K) as H kvs kv) : WalkOk (M.g X.K) (Itkt a od kv) (kvs.map (·.1)) g as H := by
  intro i h3 as3 H3 x3 i3 _
  have hl3 := x3.frz _ _ _ hl
  have hk3 := hk.mono x3
  refine ⟨fun hh => ⟨hl3, by rw [List.length_map, hk.length] at hh; exact hh⟩, fun d hd => ?_⟩
  obtain ⟨k, v, e, r⟩ := RepKV.atT hk3 hd
  refine ⟨⟨hl3, (List.getElem?_eq_some_iff.mp e).1⟩, ?_⟩
  rintro y H4 ⟨rfl, k', v', q, e', rfl, hq⟩
  rw [e] at e'; cases e'
  exact ⟨as3, Ext.refl, i3, keyT_rep r hq⟩
theorem RepKV.at2 {as : List Addr} {H : Hp} : ∀ {kvs : List (D × D)} {kv : List (Key × V)} {i : Nat} {p : D × D}, RepKV keyK (M.g X.K) as H kvs kv → kvs[i]? = some p → ∃ k v, kv[i]? = some (k, v) ∧ Rep (M.g X.K) as H p.1 (kV k) ∧ Rep (M.g X.K) as H p.2 v
  | _, _, _, _, .nil, e => by simp at e
  | (a, b) :: kvs, (x, v) :: kv, 0, d, .cons h t, e => by
    simp at e; subst e
    refine ⟨x, v, rfl, ?_, h.2⟩
    have e1 := h.1
    simp only at e1
    cases a <;> simp only [keyK, Option.some.injEq, reduceCtorEq] at e1 <;> subst e1 <;> simp only [Rep, kV]
  | (a, b) :: kvs, (x, v) :: kv, i + 1, d, .cons h t, e => by
    simpa using RepKV.at2 t (by simpa using e)
/-- its values; its pairs -/
theorem walk_vals {a : Addr} {od : Obj} {kv : List (Key × V)} {kvs : List (D × D)} {as : List Addr} {H : Hp} {g : Gd} (hl : H a = some (.frz od (.dK kv))) (hk : RepKV keyK (M.g X.K) as H kvs kv) : WalkOk (M.g X.K) (Itd a od kv) (kvs.map (·.2)) g as H := by
  intro i h3 as3 H3 x3 i3 _
  have hl3 := x3.frz _ _ _ hl
  have hk3 := hk.mono x3
  refine ⟨fun hh => ⟨hl3, by rw [List.length_map, hk.length] at hh; exact hh⟩, fun d hd => ?_⟩
  rw [List.getElem?_map] at hd
  obtain ⟨p, ep, rfl⟩ := Option.map_eq_some_iff.mp hd
  obtain ⟨k, v, e, r1, r2⟩ := RepKV.at2 hk3 ep
  refine ⟨⟨hl3, (List.getElem?_eq_some_iff.mp e).1⟩, ?_⟩
  rintro y H4 ⟨rfl, k', e'⟩
  rw [e] at e'; cases e'
  exact ⟨as3, Ext.refl, i3, r2⟩
theorem walk_items {a : Addr} {od : Obj} {kv : List (Key × V)} {kvs : List (D × D)} {as : List Addr} {H : Hp} {g : Gd} (hl : H a = some (.frz od (.dK kv))) (hk : RepKV keyK (M.g X.K) as H kvs kv) : WalkOk (M.g X.K) (Iti a od kv) (kvs.map fun p => D.tup [p.1, p.2]) g as H := by
  intro i h3 as3 H3 x3 i3 _
  have hl3 := x3.frz _ _ _ hl
  have hk3 := hk.mono x3
  refine ⟨fun hh => ⟨hl3, by rw [List.length_map, hk.length] at hh; exact hh⟩, fun d hd => ?_⟩
  rw [List.getElem?_map] at hd
  obtain ⟨p, ep, rfl⟩ := Option.map_eq_some_iff.mp hd
  obtain ⟨k, v, e, r1, r2⟩ := RepKV.at2 hk3 ep
  refine ⟨⟨hl3, (List.getElem?_eq_some_iff.mp e).1⟩, ?_⟩
  rintro y H4 ⟨T, k', v', e', rfl, hT, rfl⟩
  rw [e] at e'; cases e'
  refine ⟨as3, ext_tup hT, i3.other hT, ?_⟩
  simp only [Rep, Reps]
  exact ⟨T, [kV k, v], rfl, upd_same, kV k, [v], rfl, r1.mono (ext_tup hT), v, [], rfl, r2.mono (ext_tup hT), rfl⟩
/-- the lock -/
theorem pe_lockd {e : Expr} {t : TE} (h : PE X e t) : PE X e (fun σ H Q => t σ H fun v H1 => ∃ d u, v = .ref d ∧ H1 d = some u ∧ Mut (some u) ∧ ∀ od, (∀ o' u', X.H_0 d ≠ some (.frz o' u')) → Q (.ref d) (upd H1 d (.frz od u))) := by
  refine ⟨fun pins s σ H Q I q => ?_⟩
  refine thn (h.run pins s σ H _ I q) ?_
  rintro v s1 ⟨x, H1, I1, r1, d, u, rfl, e, mu, k⟩
  obtain ⟨od, I2⟩ := I1.lock e mu
  exact ⟨.ref d, _, I2, r1, k od (I1.nofrz e mu)⟩
theorem HI.lockT {h : Hs} {as : List Addr} {H : Hp} {m : Nat} {a : Addr} {od : Obj} {kvs : List (D × D)} {kv : List (List Key × V)} (hi : HI (M.g X.K) h as H) (ea : as[m]? = some a) (hl : H a = some (.dT kv)) (hk : RepKV keyT (M.g X.K) as H kvs kv) :
    Ext as H as (upd H a (.frz od (.dT kv))) ∧ HI (M.g X.K) (h.set m (.dic true true kvs)) as (upd H a (.frz od (.dT kv))) := by
  have ex := ext_set (o := HO.frz od (.dT kv)) ea hl (fun _ => by intro z; cases z) (fun _ _ => by intro z; cases z)
  refine ⟨ex, hi.set ea hl (fun _ => by intro z; cases z) (fun _ _ => by intro z; cases z) ⟨kv, ?_, hk.mono ex⟩⟩
  simp only [lkd, if_true]
  exact ⟨od, upd_same⟩
theorem HI.lock {h : Hs} {as : List Addr} {H : Hp} {m : Nat} {a : Addr} {od : Obj} {kvs : List (D × D)} {kv : List (Key × V)} (hi : HI (M.g X.K) h as H) (ea : as[m]? = some a) (hl : H a = some (.dK kv)) (hk : RepKV keyK (M.g X.K) as H kvs kv) :
    Ext as H as (upd H a (.frz od (.dK kv))) ∧ HI (M.g X.K) (h.set m (.dic true false kvs)) as (upd H a (.frz od (.dK kv))) := by
  have ex := ext_set (o := HO.frz od (.dK kv)) ea hl (fun _ => by intro z; cases z) (fun _ _ => by intro z; cases z)
  refine ⟨ex, hi.set ea hl (fun _ => by intro z; cases z) (fun _ _ => by intro z; cases z) ⟨kv, ?_, hk.mono ex⟩⟩
  simp only [lkd, if_true]
  exact ⟨od, upd_same⟩
/-- an expression's value, walked -/
theorem pi_seq (K : Cok X M C sc n Wx cf) {a : E} {tg x : Expr} (ha : SE M X Wx cf a x) : PI X tg x (tI X M Wx (evalEs M.W cf M.cx [a]) .seq) := by
  refine ⟨fun pins s σ H Q I h => ?_⟩
  obtain ⟨σI, h, as, sl, hi, p⟩ := h
  simp only [evalEs, R.bind_assoc] at p
  -- by what it comes to
  cases e1 : evalE M.W cf M.cx a σI h with
  | no => rw [e1] at p; exact p.elim
  | exc c fs h1 =>
    rw [e1] at p
    refine (pi_tup (tl := tE (M.g X.K) Wx (evalE M.W cf M.cx a)) ha.1).run pins s σ H Q I ⟨σI, h, as, sl, hi, ?_⟩
    rw [e1]; exact p
  | ok d h1 =>
    rw [e1] at p
    simp only [R.bind_ok] at p
    have at1 : ∀ {R' : V → Hp → Prop}, (∀ v as' H', Ext as H as' H' → HI (M.g X.K) h1 as' H' → Rep (M.g X.K) as' H' d v → R' v H') → tE (M.g X.K) Wx (evalE M.W cf M.cx a) σ H R' :=
      fun k => ⟨σI, h, as, sl, hi, by rw [e1]; exact k⟩
    cases d with
    | tup ds =>
      simp only [itemsI, ofO_some] at p
      refine (pi_tup ha.1).run pins s σ H Q I (at1 fun v as' H' x' i' r' => ?_)
      simp only [Rep] at r'
      obtain ⟨a, vs, rfl, h2, hr⟩ := r'
      refine ⟨a, rfl, ⟨vs, SqT.of h2⟩, p _ as' H' x' ⟨i', ?_⟩ trivial⟩
      intro i h3 as3 H3 x3 i3 _
      have sq := SqT.of (K := X.K) (x3.tup _ _ h2)
      refine ⟨fun hl => ⟨vs, sq, by rw [← hr.length]; exact hl⟩, fun d hd => ?_⟩
      obtain ⟨w, e, rw_⟩ := hr.get hd
      refine ⟨⟨vs, w, sq, e⟩, ?_⟩
      rintro y H4 ⟨rfl, hy⟩
      have := hy vs sq
      rw [e] at this; cases this
      exact ⟨as3, Ext.refl, i3, rw_.mono x3⟩
    | con g =>
      simp only [itemsI] at p
      cases e2 : M.W.cons[g]? with
      | none => rw [e2] at p; exact p.elim
      | some ys =>
        rw [e2] at p
        simp only [Option.map_some, ofO_some] at p
        refine (pi_tup ha.1).run pins s σ H Q I (at1 fun v as' H' x' i' r' => ?_)
        simp only [Rep] at r'
        obtain ⟨a, rfl, h2⟩ := r'
        obtain ⟨vs, hv, _⟩ := K.con g ys a e2 h2
        refine ⟨a, rfl, ⟨vs, (hv H' as').1⟩, p _ as' H' x' ⟨i', ?_⟩ trivial⟩
        intro i h3 as3 H3 x3 i3 _
        have sq := (hv H3 as3).1
        have hr := (hv H3 as3).2
        refine ⟨fun hl => ⟨vs, sq, by rw [← hr.length]; exact hl⟩, fun d hd => ?_⟩
        obtain ⟨w, e, rw_⟩ := hr.get hd
        refine ⟨⟨vs, w, sq, e⟩, ?_⟩
        rintro y H4 ⟨rfl, hy⟩
        have := hy vs sq
        rw [e] at this; cases this
        exact ⟨as3, Ext.refl, i3, rw_⟩
    | ob m =>
      have list_ : ∀ {ds : List D} {mo : MO}, (h1[m]? = some (.lst ds) ∧ mo = .lst ds) ∨ (∃ ns : List Int, h1[m]? = some (.scr ns) ∧ ds = ns.map D.int ∧ mo = .scr ns) → postW X M Wx as H σ (.ok (ds, .keep m mo, h1) h1) Q →
          wpAny (model X.prog X.w) X.A (eval x X.env) (fun v s1 => wpAny (model X.prog X.w) X.A (pyIter v) (PIE X pins σ tg Q) X.xe s1) X.xe s := by
        intro ds mo e p
        refine (pi_list ha.1).run pins s σ H Q I (at1 fun v as' H' x' i' r' => ?_)
        simp only [Rep] at r'
        obtain ⟨a, rfl, ea⟩ := r'
        have e' : h1[m]? = some (.lst ds) ∨ ∃ ns : List Int, h1[m]? = some (.scr ns) ∧ ds = ns.map D.int := by
          rcases e with ⟨e, _⟩ | ⟨ns, e, e2, _⟩
          · exact .inl e
          · exact .inr ⟨ns, e, e2⟩
        obtain ⟨vs, sq, hr⟩ := lst_of i' e' ea
        refine ⟨a, rfl, ⟨vs, sq⟩, p _ as' H' x' ⟨i', ?_⟩ trivial⟩
        intro i h3 as3 H3 x3 i3 sm
        have e3 : h3[m]? = some (.lst ds) ∨ ∃ ns : List Int, h3[m]? = some (.scr ns) ∧ ds = ns.map D.int := by
          rcases e with ⟨e, rfl⟩ | ⟨ns, e, e2, rfl⟩
          · exact .inl sm
          · exact .inr ⟨ns, sm, e2⟩
        obtain ⟨vs, sq, hr⟩ := lst_of i3 e3 (x3.pre _ _ ea)
        refine ⟨fun hl => ⟨vs, sq, by rw [← hr.length]; exact hl⟩, fun d hd => ?_⟩
        obtain ⟨w, e, rw_⟩ := hr.get hd
        refine ⟨⟨vs, w, sq, e⟩, ?_⟩
        rintro y H4 ⟨rfl, hy⟩
        have := hy vs sq
        rw [e] at this; cases this
        exact ⟨as3, Ext.refl, i3, rw_⟩
      simp only [itemsI] at p
      split at p
      · rename_i ds e2
        exact list_ (.inl ⟨e2, rfl⟩) p
      · rename_i ns e2
        exact list_ (.inr ⟨ns, e2, rfl, rfl⟩) p
      · rename_i t kvs e2
        -- a locked dict
        refine (pi_keys ha.1).run pins s σ H Q I (at1 fun v as' H' x' i' r' => ?_)
        simp only [Rep] at r'
        obtain ⟨a, rfl, ea⟩ := r'
        cases t with
        | false =>
          obtain ⟨kv, hl, hk⟩ := i'.ob m _ a e2 ea
          simp only [lkd, if_true] at hl
          obtain ⟨od, hl⟩ := hl
          exact ⟨a, od, rfl, .inl ⟨kv, hl, p _ as' H' x' ⟨i', walk_keys (m := m) hl hk⟩ trivial⟩⟩
        | true =>
          obtain ⟨kv, hl, hk⟩ := i'.ob m _ a e2 ea
          simp only [lkd, if_true] at hl
          obtain ⟨od, hl⟩ := hl
          exact ⟨a, od, rfl, .inr ⟨kv, hl, p _ as' H' x' ⟨i', walk_keysT hl hk⟩ trivial⟩⟩
      · rename_i t kvs e2
        refine (pi_keys (pe_lockd ha.1)).run pins s σ H Q I (at1 fun v as' H' x' i' r' => ?_)
        simp only [Rep] at r'
        obtain ⟨a, rfl, ea⟩ := r'
        cases t with
        | false =>
          obtain ⟨kv, hl, hk⟩ := i'.ob m _ a e2 ea
          simp only [lkd, Bool.false_eq_true, if_false] at hl
          refine ⟨a, _, rfl, hl, True.intro, fun od nf => ⟨a, od, rfl, .inl ⟨kv, upd_same, ?_⟩⟩⟩
          obtain ⟨ex, i2⟩ := i'.lock (od := od) ea hl hk
          refine p _ as' _ (x'.trans ex) ⟨i2, walk_keys (m := m) upd_same (hk.mono ex)⟩ ?_
          exact ⟨a, ea, nf, fun o u q => by rw [x'.frz _ _ _ q] at hl; cases hl⟩
        | true =>
          obtain ⟨kv, hl, hk⟩ := i'.ob m _ a e2 ea
          simp only [lkd, Bool.false_eq_true, if_false] at hl
          refine ⟨a, _, rfl, hl, True.intro, fun od nf => ⟨a, od, rfl, .inr ⟨kv, upd_same, ?_⟩⟩⟩
          obtain ⟨ex, i2⟩ := i'.lockT (od := od) ea hl hk
          refine p _ as' _ (x'.trans ex) ⟨i2, walk_keysT upd_same (hk.mono ex)⟩ ?_
          exact ⟨a, ea, nf, fun o u q => by rw [x'.frz _ _ _ q] at hl; cases hl⟩
      · exact p.elim
    | _ => exact p.elim
/-- values, items -/
theorem pi_kv (K : Cok X M C sc n Wx cf) {vl : Bool} {a : E} {tg x : Expr} {ap cp : Pos} (ha : SE M X Wx cf a x) (hb : notBare x = true) (hl : (ap.endLine == cp.line) = true) (ht : vl = false → ∃ elts kk tp, tg = .Tuple elts kk tp) :
    PI X tg (.Call (.Attribute x (if vl then Str.ofString "values" else Str.ofString "items") ap) [] [] cp) (tI X M Wx (evalEs M.W cf M.cx [a]) (if vl then .vals else .items)) := by
  refine ⟨fun pins s σ H Q I h => ?_⟩
  obtain ⟨σI, h, as, sl, hi, p⟩ := h
  simp only [evalEs, R.bind_assoc] at p
  have rule : ∀ {td : TE}, PE X x td → PI X tg (.Call (.Attribute x (if vl then Str.ofString "values" else Str.ofString "items") ap) [] [] cp) (fun σ H R => td σ H fun x H1 => ∃ d o kvs, x = .ref d ∧ H1 d = some (.frz o (.dK kvs)) ∧ R (if vl then Itd d o kvs else Iti d o kvs) H1) := by
    intro td h
    cases vl with
    | true => exact pi_values h (bare_ok hb) hl
    | false =>
      obtain ⟨elts, kk, tp, rfl⟩ := ht rfl
      exact pi_items h (bare_ok hb) hl
  cases e1 : evalE M.W cf M.cx a σI h with
  | no => rw [e1] at p; exact p.elim
  | exc c fs h1 =>
    rw [e1] at p
    refine (rule (td := tE (M.g X.K) Wx (evalE M.W cf M.cx a)) ha.1).run pins s σ H Q I ⟨σI, h, as, sl, hi, ?_⟩
    rw [e1]; exact p
  | ok d h1 =>
    rw [e1] at p
    simp only [R.bind_ok] at p
    have at1 : ∀ {R' : V → Hp → Prop}, (∀ v as' H', Ext as H as' H' → HI (M.g X.K) h1 as' H' → Rep (M.g X.K) as' H' d v → R' v H') → tE (M.g X.K) Wx (evalE M.W cf M.cx a) σ H R' :=
      fun k => ⟨σI, h, as, sl, hi, by rw [e1]; exact k⟩
    have wk : ∀ {a : Addr} {od : Obj} {kv : List (Key × V)} {kvs : List (D × D)} {as : List Addr} {H : Hp} {g : Gd}, H a = some (.frz od (.dK kv)) → RepKV keyK (M.g X.K) as H kvs kv → WalkOk (M.g X.K) (if vl then Itd a od kv else Iti a od kv) (if vl then kvs.map (·.2) else kvs.map fun p => D.tup [p.1, p.2]) g as H := by
      intro a od kv kvs as H g h1 h2
      cases vl with
      | true => exact walk_vals h1 h2
      | false => exact walk_items h1 h2
    cases d with
    | ob m =>
      have p2 : (∃ kvs, h1[m]? = some (.dic true false kvs) ∧ postW X M Wx as H σ (.ok ((if vl then kvs.map (·.2) else kvs.map fun p => D.tup [p.1, p.2]), .keep m (.dic true false kvs), h1) h1) Q) ∨
          (∃ kvs, h1[m]? = some (.dic false false kvs) ∧ postW X M Wx as H σ (.ok ((if vl then kvs.map (·.2) else kvs.map fun p => D.tup [p.1, p.2]), .lock m false kvs, h1.set m (.dic true false kvs)) h1) Q) := by
        cases vl with
        | true =>
          simp only [itemsI, if_true] at p
          split at p
          · rename_i kvs e; exact .inl ⟨kvs, e, p⟩
          · rename_i kvs e; exact .inr ⟨kvs, e, p⟩
          · exact p.elim
        | false =>
          simp only [itemsI, Bool.false_eq_true, if_false] at p
          split at p
          · rename_i kvs e; exact .inl ⟨kvs, e, p⟩
          · rename_i kvs e; exact .inr ⟨kvs, e, p⟩
          · exact p.elim
      rcases p2 with ⟨kvs, e2, p⟩ | ⟨kvs, e2, p⟩
      · refine (rule ha.1).run pins s σ H Q I (at1 fun v as' H' x' i' r' => ?_)
        simp only [Rep] at r'
        obtain ⟨a, rfl, ea⟩ := r'
        obtain ⟨kv, hl, hk⟩ := i'.ob m _ a e2 ea
        simp only [lkd, if_true] at hl
        obtain ⟨od, hl⟩ := hl
        exact ⟨a, od, kv, rfl, hl, p _ as' H' x' ⟨i', wk hl hk⟩ trivial⟩
      · refine (rule (pe_lockd ha.1)).run pins s σ H Q I (at1 fun v as' H' x' i' r' => ?_)
        simp only [Rep] at r'
        obtain ⟨a, rfl, ea⟩ := r'
        obtain ⟨kv, hl, hk⟩ := i'.ob m _ a e2 ea
        simp only [lkd, Bool.false_eq_true, if_false] at hl
        refine ⟨a, _, rfl, hl, True.intro, fun od nf => ⟨a, od, kv, rfl, upd_same, ?_⟩⟩
        obtain ⟨ex, i2⟩ := i'.lock (od := od) ea hl hk
        refine p _ as' _ (x'.trans ex) ⟨i2, wk upd_same (hk.mono ex)⟩ ?_
        exact ⟨a, ea, nf, fun o u q => by rw [x'.frz _ _ _ q] at hl; cases hl⟩
    | _ => cases vl <;> exact p.elim
/-- an own __iter__ over the pairs of a field -/
theorem pi_ow (K : Cok X M C sc n Wx cf) (hh : C.hot = false) {c : Nat} {F : String} {a : E} {v : Str} {tp : Pos} {x : Expr} (h0 : (c, F) ∈ C.ow) (ha : SE M X Wx cf a x) : PI X (.Name v tp) x (tI X M Wx (evalEs M.W cf M.cx [a]) (.own c F)) := by
  refine ⟨fun pins s σ H Q I h => ?_⟩
  obtain ⟨σI, h, as, sl, hi, p⟩ := h
  simp only [evalEs, R.bind_assoc] at p
  cases e1 : evalE M.W cf M.cx a σI h with
  | no => rw [e1] at p; exact p.elim
  | exc c fs h1 =>
    rw [e1] at p
    refine (pi_tup (tl := tE (M.g X.K) Wx (evalE M.W cf M.cx a)) ha.1).run pins s σ H Q I ⟨σI, h, as, sl, hi, ?_⟩
    rw [e1]; exact p
  | ok d h1 =>
    rw [e1] at p
    simp only [R.bind_ok] at p
    have at1 : ∀ {R' : V → Hp → Prop}, (∀ v as' H', Ext as H as' H' → HI (M.g X.K) h1 as' H' → Rep (M.g X.K) as' H' d v → R' v H') → tE (M.g X.K) Wx (evalE M.W cf M.cx a) σ H R' :=
      fun k => ⟨σI, h, as, sl, hi, by rw [e1]; exact k⟩
    cases d with
    | ob m =>
      simp only [itemsI] at p
      split at p
      · rename_i c' fs e2
        split at p
        · rename_i hc
          subst hc
          split at p
          · rename_i md e3
            split at p
            · rename_i kvs e4
              cases hCa : M.ca c' with
              | none =>
                refine (pi_tup (tl := tE (M.g X.K) Wx (evalE M.W cf M.cx a)) ha.1).run pins s σ H Q I (at1 fun v as' H' x' i' r' => ?_)
                simp only [Rep] at r'
                obtain ⟨ad, rfl, ea⟩ := r'
                obtain ⟨Ca, _, _, ec, _⟩ := i'.ob m _ ad e2 ea
                rw [show (M.g X.K).ca c' = M.ca c' from rfl, hCa] at ec
                cases ec
              | some Ca =>
                obtain ⟨f, mt, O⟩ := (K.cool hh).mks.2.2 c' F h0 Ca hCa
                refine (OwI.pi_own (K.cool hh).calm (OwI.pe_lockAny ha.1) ((K.cool hh).room.mono (by omega)) K.gd mt.at_ mt.fn O).run pins s σ H Q I (at1 fun v as' H' x' i' r' => ?_)
                simp only [Rep] at r'
                obtain ⟨ad, rfl, ea⟩ := r'
                obtain ⟨Ca', dx, vs, ec, eo, rf⟩ := i'.ob m _ ad e2 ea
                rw [show (M.g X.K).ca c' = M.ca c' from rfl, hCa] at ec
                cases ec
                rcases rf.lookup F with ⟨e5, _⟩ | ⟨d, v, e5, e6, rv⟩
                · rw [e5] at e3; cases e3
                · rw [e5] at e3
                  cases e3
                  simp only [Rep] at rv
                  obtain ⟨dd, rfl, ed⟩ := rv
                  obtain ⟨kv, hl, hk⟩ := i'.ob md _ dd e4 ed
                  simp only [lkd, Bool.false_eq_true, if_false] at hl
                  refine ⟨dd, _, hl, True.intro, fun od nf => ⟨ad, dx, vs, dd, od, kv, rfl, ?_, e6, upd_same, ?_⟩⟩
                  · rw [upd_ne (fun z => by rw [z, hl] at eo; cases eo)]; exact eo
                  · obtain ⟨ex, i2⟩ := i'.lock (od := od) ed hl hk
                    refine p _ as' _ (x'.trans ex) ⟨i2, walk_items upd_same (hk.mono ex)⟩ ?_
                    exact ⟨dd, ed, nf, fun o u q => by rw [x'.frz _ _ _ q] at hl; cases hl⟩
            · exact p.elim
          · exact p.elim
        · exact p.elim
      · exact p.elim
    | _ => exact p.elim
/-- ranges -/
theorem walk_range {lo : Int} {n : Nat} {as : List Addr} {H : Hp} : WalkOk (M.g X.K) (Itr lo n) ((List.range n).map fun (k : Nat) => D.int (lo + (k : Int))) .none as H := by
  intro i h3 as3 H3 x3 i3 _
  refine ⟨fun hh => (by rw [List.length_map, List.length_range] at hh; exact hh), fun d hd => ?_⟩
  rw [List.getElem?_map] at hd
  obtain ⟨k, hk, rfl⟩ := Option.map_eq_some_iff.mp hd
  have hlt : i < n := by simpa using (List.getElem?_eq_some_iff.mp hk).1
  rw [List.getElem?_range hlt] at hk
  cases hk
  refine ⟨hlt, ?_⟩
  rintro y H4 ⟨rfl, rfl⟩
  exact ⟨as3, Ext.refl, i3, by simp only [Rep]⟩
theorem pi_rng1 (K : Cok X M C sc n Wx cf) {es : List E} {tg x : Expr} {p pos : Pos} (hg : glB sc (Str.ofString "range") = true) (hs : isStar x = false) (ha : PA X [x] (tEs (M.g X.K) Wx (evalEs M.W cf M.cx es))) : PI X tg (.Call (.Name (Str.ofString "range") p) [x] [] pos) (tI X M Wx (evalEs M.W cf M.cx es) .rng1) := by
  refine ⟨fun pins s σ H Q I h => ?_⟩
  obtain ⟨σI, h, as, sl, hi, p⟩ := h
  refine (pi_range1 (K.gl _ hg) (K.bl _ (by decide +kernel)) ha (by rw [star_one hs]; rfl)).run pins s σ H Q I ?_
  refine ⟨σI, h, as, sl, hi, ?_⟩
  cases e1 : evalEs M.W cf M.cx es σI h with
  | no => rw [e1] at p; exact p.elim
  | exc c fs h1 => rw [e1] at p; exact p
  | ok ds h1 =>
    rw [e1] at p
    simp only [R.bind_ok] at p
    intro vs as' H' x' i' r'
    match ds with
    | [] => exact p.elim
    | [d] =>
      obtain ⟨v, _, rfl, r1, rn⟩ := r'.cons_inv
      obtain rfl := rn.nil_inv
      cases d with
      | int j =>
        simp only [Rep] at r1
        subst r1
        simp only [itemsI] at p
        split at p
        · rename_i hj
          refine ⟨j, rfl, hj.1, hj.2, p _ as' H' x' ⟨i', walk_range⟩ trivial⟩
        · exact p.elim
      | _ => exact p.elim
    | d0 :: _ :: _ => cases d0 <;> exact p.elim
theorem pi_rng2 (K : Cok X M C sc n Wx cf) {es : List E} {tg x y : Expr} {p pos : Pos} (hg : glB sc (Str.ofString "range") = true) (hs : isStar x = false) (hs2 : isStar y = false) (ha : PA X [x, y] (tEs (M.g X.K) Wx (evalEs M.W cf M.cx es))) : PI X tg (.Call (.Name (Str.ofString "range") p) [x, y] [] pos) (tI X M Wx (evalEs M.W cf M.cx es) .rng2) := by
  refine ⟨fun pins s σ H Q I h => ?_⟩
  obtain ⟨σI, h, as, sl, hi, p⟩ := h
  refine (pi_range2 (K.gl _ hg) (K.bl _ (by decide +kernel)) ha (by rw [star_one hs, star_one hs2]; rfl) (by rw [star_one hs2]; rfl)).run pins s σ H Q I ?_
  refine ⟨σI, h, as, sl, hi, ?_⟩
  cases e1 : evalEs M.W cf M.cx es σI h with
  | no => rw [e1] at p; exact p.elim
  | exc c fs h1 => rw [e1] at p; exact p
  | ok ds h1 =>
    rw [e1] at p
    simp only [R.bind_ok] at p
    intro vs as' H' x' i' r'
    match ds with
    | [] => exact p.elim
    | [d] => cases d <;> exact p.elim
    | [d, d'] =>
      obtain ⟨v, _, rfl, r1, rn⟩ := r'.cons_inv
      obtain ⟨v', _, rfl, r2, rn⟩ := rn.cons_inv
      obtain rfl := rn.nil_inv
      cases d <;> cases d' <;> try exact p.elim
      simp only [Rep] at r1 r2
      subst r1 r2
      simp only [itemsI] at p
      split at p
      · rename_i i j hj
        refine ⟨_, _, rfl, hj, p _ as' H' x' ⟨i', walk_range⟩ trivial⟩
      · exact p.elim
    | d0 :: d1 :: _ :: _ => cases d0 <;> cases d1 <;> exact p.elim
/-- enumerate(list) -/
theorem pi_enu (K : Cok X M C sc n Wx cf) {es : List E} {x : Expr} {p pos tpos : Pos} {elts : List Expr} {kk : Nat} (hg : glB sc (Str.ofString "enumerate") = true) (hs : isStar x = false) (ha : PA X [x] (tEs (M.g X.K) Wx (evalEs M.W cf M.cx es))) : PI X (.Tuple elts kk tpos) (.Call (.Name (Str.ofString "enumerate") p) [x] [] pos) (tI X M Wx (evalEs M.W cf M.cx es) .enum) := by
  refine ⟨fun pins s σ H Q I h => ?_⟩
  obtain ⟨σI, h, as, sl, hi, p⟩ := h
  refine (pi_enum (K.gl _ hg) (K.bl _ (by decide +kernel)) ha (by rw [star_one hs]; rfl)).run pins s σ H Q I ?_
  refine ⟨σI, h, as, sl, hi, ?_⟩
  cases e1 : evalEs M.W cf M.cx es σI h with
  | no => rw [e1] at p; exact p.elim
  | exc c fs h1 => rw [e1] at p; exact p
  | ok ds h1 =>
    rw [e1] at p
    simp only [R.bind_ok] at p
    intro vs as' H' x' i' r'
    match ds with
    | [] => exact p.elim
    | [d] =>
      obtain ⟨v, _, rfl, r1, rn⟩ := r'.cons_inv
      obtain rfl := rn.nil_inv
      cases d with
      | ob m =>
        simp only [Rep] at r1
        obtain ⟨a, rfl, ea⟩ := r1
        simp only [itemsI] at p
        split at p
        · rename_i s e2
          obtain ⟨vs, sq, hr⟩ := lst_of i' (.inl e2) ea
          refine ⟨a, vs, rfl, sq, p _ as' H' x' ⟨i', ?_⟩ trivial⟩
          intro i h3 as3 H3 x3 i3 sm
          obtain ⟨vs, sq, hr⟩ := lst_of i3 (.inl sm) (x3.pre _ _ ea)
          refine ⟨fun hl => ⟨vs, sq, by rw [← hr.length]; simpa using hl⟩, fun d hd => ?_⟩
          rw [List.getElem?_map, List.getElem?_zipIdx] at hd
          obtain ⟨q, eq, rfl⟩ := Option.map_eq_some_iff.mp hd
          obtain ⟨d0, ed0, rfl⟩ := Option.map_eq_some_iff.mp eq
          obtain ⟨w, e, rw_⟩ := hr.get ed0
          refine ⟨⟨vs, w, sq, e⟩, ?_⟩
          rintro y H4 ⟨T, x0, rfl, hT, rfl, hy⟩
          have q := hy vs sq
          rw [e] at q; cases q
          refine ⟨as3, ext_tup hT, i3.other hT, ?_⟩
          simp only [Rep, Reps]
          exact ⟨T, [.int (i : Int), w], rfl, upd_same, .int (i : Int), [w], rfl, by simp, w, [], rfl, rw_.mono (ext_tup hT), rfl⟩
        · exact p.elim
      | _ => exact p.elim
    | d0 :: _ :: _ => cases d0 <;> exact p.elim
/-- zip(a, b): a tuple and a list, or two lists -/
theorem pi_zp (K : Cok X M C sc n Wx cf) {es : List E} {x y : Expr} {p pos tpos : Pos} {elts : List Expr} {kk : Nat} (hg : glB sc (Str.ofString "zip") = true) (hs : isStar x = false) (hs2 : isStar y = false) (ha : PA X [x, y] (tEs (M.g X.K) Wx (evalEs M.W cf M.cx es))) : PI X (.Tuple elts kk tpos) (.Call (.Name (Str.ofString "zip") p) [x, y] [] pos) (tI X M Wx (evalEs M.W cf M.cx es) .zip) := by
  refine ⟨fun pins s σ H Q I h => ?_⟩
  obtain ⟨σI, h, as, sl, hi, p⟩ := h
  have st1 : starEach [x, y] X.env = (false, eval x X.env) :: starEach [y] X.env := star_one hs _ _
  have st2 : (backTo pos (starEach [y] X.env)).any (·.1) = false := by rw [star_one hs2 [] X.env]; rfl
  refine (pi_zm (K.gl _ hg) (K.bl _ (by decide +kernel)) ha st1 st2).run pins s σ H Q I ?_
  refine ⟨σI, h, as, sl, hi, ?_⟩
  cases e1 : evalEs M.W cf M.cx es σI h with
  | no => rw [e1] at p; exact p.elim
  | exc c fs h1 => rw [e1] at p; exact p
  | ok ds h1 =>
    rw [e1] at p
    simp only [R.bind_ok] at p
    intro vs as' H' x' i' r'
    match ds with
    | [] => exact p.elim
    | [d] => cases d <;> exact p.elim
    | [d, d'] =>
      obtain ⟨v, _, rfl, r1, rn⟩ := r'.cons_inv
      obtain ⟨v', _, rfl, r2, rn⟩ := rn.cons_inv
      obtain rfl := rn.nil_inv
      cases d' with
      | ob m =>
        simp only [Rep] at r2
        obtain ⟨b, rfl, eb⟩ := r2
        cases d with
        | tup s1 =>
          simp only [Rep] at r1
          obtain ⟨a, us, rfl, h1a, hr1⟩ := r1
          simp only [itemsI] at p
          split at p
          · rename_i t e2
            obtain ⟨ws, sq, hr⟩ := lst_of i' (.inl e2) eb
            refine .inl ⟨a, b, us, ws, rfl, SqT.of h1a, sq, p _ as' H' x' ⟨i', ?_⟩ trivial⟩
            intro i h3 as3 H3 x3 i3 sm
            obtain ⟨ws3, sq3, hr3⟩ := lst_of i3 (.inl sm) (x3.pre _ _ eb)
            have h3a := x3.tup _ _ h1a
            have l1 := hr1.length
            have l2 := hr.length
            have l3 := hr3.length
            refine ⟨fun hl => ⟨us, ws3, SqT.of h3a, sq3, rfl, by omega, ?_⟩, fun d hd => ?_⟩
            · rw [List.length_map, List.length_zip] at hl
              omega
            · rw [List.getElem?_map] at hd
              obtain ⟨q, eq, rfl⟩ := Option.map_eq_some_iff.mp hd
              obtain ⟨d1, d2⟩ := List.getElem?_zip_eq_some.mp eq
              obtain ⟨w1, f1, g1⟩ := (hr1.mono x3).get d1
              obtain ⟨w2, f2, g2⟩ := hr3.get d2
              refine ⟨⟨us, ws3, w1, w2, SqT.of h3a, sq3, rfl, by omega, f1, f2⟩, ?_⟩
              rintro z H4 ⟨T, u1, u2, rfl, hT, rfl, y1, y2⟩
              have q1 := y1 us (SqT.of h3a)
              have q2 := y2 ws3 sq3
              rw [f1] at q1; cases q1
              rw [f2] at q2; cases q2
              refine ⟨as3, ext_tup hT, i3.other hT, ?_⟩
              simp only [Rep, Reps]
              exact ⟨T, [w1, w2], rfl, upd_same, w1, [w2], rfl, g1.mono (ext_tup hT), w2, [], rfl, g2.mono (ext_tup hT), rfl⟩
          · exact p.elim
        | ob m2 =>
          simp only [Rep] at r1
          obtain ⟨a, rfl, ea⟩ := r1
          simp only [itemsI] at p
          split at p
          · rename_i s1 t e2 e3
            obtain ⟨us, sqa, hra⟩ := lst_of i' (.inl e2) ea
            obtain ⟨ws, sq, hr⟩ := lst_of i' (.inl e3) eb
            refine .inr ⟨a, b, us, ws, rfl, sqa, sq, p _ as' H' x' ⟨i', ?_⟩ trivial⟩
            intro i h3 as3 H3 x3 i3 sm
            obtain ⟨us3, sqa3, hra3⟩ := lst_of i3 (.inl sm.1) (x3.pre _ _ ea)
            obtain ⟨ws3, sq3, hr3⟩ := lst_of i3 (.inl sm.2) (x3.pre _ _ eb)
            have l1 := hra3.length
            have l3 := hr3.length
            refine ⟨fun hl => ⟨us3, ws3, sqa3, sq3, ?_⟩, fun d hd => ?_⟩
            · rw [List.length_map, List.length_zip] at hl
              omega
            · rw [List.getElem?_map] at hd
              obtain ⟨q, eq, rfl⟩ := Option.map_eq_some_iff.mp hd
              obtain ⟨d1, d2⟩ := List.getElem?_zip_eq_some.mp eq
              obtain ⟨w1, f1, g1⟩ := hra3.get d1
              obtain ⟨w2, f2, g2⟩ := hr3.get d2
              refine ⟨⟨us3, ws3, w1, w2, sqa3, sq3, f1, f2⟩, ?_⟩
              rintro z H4 ⟨T, u1, u2, rfl, hT, rfl, y1, y2⟩
              have q1 := y1 us3 sqa3
              have q2 := y2 ws3 sq3
              rw [f1] at q1; cases q1
              rw [f2] at q2; cases q2
              refine ⟨as3, ext_tup hT, i3.other hT, ?_⟩
              simp only [Rep, Reps]
              exact ⟨T, [w1, w2], rfl, upd_same, w1, [w2], rfl, g1.mono (ext_tup hT), w2, [], rfl, g2.mono (ext_tup hT), rfl⟩
          · exact p.elim
        | _ => exact p.elim
      | _ => cases d <;> exact p.elim
    | d0 :: d1 :: _ :: _ => cases d0 <;> cases d1 <;> exact p.elim
end
end Rf
end

section
namespace Rf
open PySem PySem.Spec PyProof.Rows L2

section
variable {X : Cx} {M : Mx} {C : Ck} {sc : Scope} {n : Nat} {Wx : WX} {cf : CF} {cx : CXI}
/-! ## targets -/
/-- a target takes a value -/
def gT (G : Gx) (t : Tg) : TG := fun v σ H Q => ∃ σI h as d σ1, SL G σI as H σ ∧ HI G h as H ∧ Rep G as H d v ∧ bindT t d h σI = some σ1 ∧ ∀ σ2, SL G σ1 as H σ2 → (∀ i, i ∉ tgIx t → σ2[i]? = σ[i]?) → Q σ2 H
theorem SL.set {G : Gx} {σI : Sg} {as : List Addr} {H : Hp} {σ : L2.St} {i : Nat} {d : D} {v : V} (s : SL G σI as H σ) (r : Rep G as H d v) : SL G (σI.set i (some d)) as H (σ.set i (some v)) := by
  refine ⟨by simp [s.len], fun j d' e => ?_, fun j a he e => ?_⟩
  rotate_left
  · by_cases hj : j = i
    · subst hj
      have hl : j < σI.length := by
        have := (List.getElem?_eq_some_iff.mp e).1
        simpa using this
      rw [List.getElem?_set_self hl] at e
      cases e
    · rw [List.getElem?_set_ne (Ne.symm hj)] at e
      rw [List.getElem?_set_ne (Ne.symm hj)]
      exact s.ex j a he e
  by_cases hj : j = i
  · subst hj
    have hl : j < σI.length := by
      have := (List.getElem?_eq_some_iff.mp e).1
      simpa using this
    rw [List.getElem?_set_self hl] at e
    cases e
    exact ⟨v, by rw [List.getElem?_set_self (by rw [← s.len]; exact hl)], r⟩
  · rw [List.getElem?_set_ne (Ne.symm hj)] at e
    obtain ⟨w, e2, r2⟩ := s.at_ j d' e
    exact ⟨w, by rw [List.getElem?_set_ne (Ne.symm hj)]; exact e2, r2⟩
theorem pg_names (K : Cok X M C sc n Wx cf) : ∀ {is : List Nat} {es : List Expr}, is.length = es.length → ((is.zip es).all fun p => nmB C sc p.1 p.2) = true →
    PGs X es (fun vs σ H Q => vs.length = es.length ∧ Q ((is.zip vs).foldl (fun σ p => σ.set p.1 (some p.2)) σ) H)
  | [], [], _, _ => ⟨fun pins s σ H vs us Q I r h => by
      obtain ⟨e, h⟩ := h
      cases vs with
      | nil => exact pgs_nil.run pins s σ H [] us Q I r ⟨rfl, h⟩
      | cons a b => simp at e⟩
  | [], _ :: _, h, _ => by simp at h
  | _ :: _, [], h, _ => by simp at h
  | i :: is, e :: es, hl, ha => by
    rw [List.zip_cons_cons, List.all_cons, Bool.and_eq_true] at ha
    obtain ⟨h1, h2⟩ := ha
    have ih := pg_names K (by simpa using hl) h2
    cases e <;> simp only [nmB, Bool.false_eq_true] at h1
    · rename_i x pos
      rw [Bool.and_eq_true] at h1
      obtain ⟨l1, l2⟩ := K.loc x h1.2
      have hg : PG X (.Name x pos) (gName i) := pg_name K.nd (by rw [K.N]; exact isC_ok h1.1) l1 l2
      refine ⟨fun pins s σ H vs us Q I r h => ?_⟩
      obtain ⟨e, h⟩ := h
      cases vs with
      | nil => simp at e
      | cons v vr => exact (pgs_cons hg ih).run pins s σ H (v :: vr) us Q I r ⟨v, vr, rfl, by simpa using e, h⟩
theorem names_len {env : Env} : ∀ {is : List Nat} {es : List Expr}, is.length = es.length → ((is.zip es).all fun p => nmB C sc p.1 p.2) = true →
    (assignEach es env).length = es.length ∧ (assignEach es env).findIdx? (·.1) = none
  | [], [], _, _ => ⟨rfl, rfl⟩
  | [], _ :: _, h, _ => by simp at h
  | _ :: _, [], h, _ => by simp at h
  | i :: is, e :: es, hl, ha => by
    rw [List.zip_cons_cons, List.all_cons, Bool.and_eq_true] at ha
    obtain ⟨h1, h2⟩ := ha
    obtain ⟨a, b⟩ := names_len (env := env) (is := is) (es := es) (by simpa using hl) h2
    cases e <;> simp only [nmB, Bool.false_eq_true] at h1
    · rename_i x pos
      have ee : assignEach (Expr.Name x pos :: es) env = (false, assign (.Name x pos) env) :: assignEach es env := rfl
      rw [ee]
      refine ⟨by rw [List.length_cons, List.length_cons, a], ?_⟩
      rw [List.findIdx?_cons]
      simp only [Bool.false_eq_true, if_false, b, Option.map_none]
theorem SL.folds {G : Gx} {as : List Addr} {H : Hp} : ∀ {is : List Nat} {ds : List D} {vs : List V} {σI : Sg} {σ : L2.St}, SL G σI as H σ → Reps G as H ds vs →
    SL G ((is.zip ds).foldl (fun σ p => σ.set p.1 (some p.2)) σI) as H ((is.zip vs).foldl (fun σ p => σ.set p.1 (some p.2)) σ)
  | [], _, _, _, _, s, _ => by simpa using s
  | i :: is, [], _, _, _, s, r => by simp only [Reps] at r; subst r; simpa using s
  | i :: is, d :: ds, _, _, _, s, r => by
    obtain ⟨v, vs, rfl, h1, h2⟩ := r.cons_inv
    rw [List.zip_cons_cons, List.zip_cons_cons, List.foldl_cons, List.foldl_cons]
    exact SL.folds (s.set h1) h2
theorem folds_out {α : Type} {i : Nat} : ∀ {is : List Nat} {vs : List α} {σ : List (Option α)}, i ∉ is → ((is.zip vs).foldl (fun σ p => σ.set p.1 (some p.2)) σ)[i]? = σ[i]?
  | [], _, _, _ => by simp
  | j :: is, [], _, _ => by simp
  | j :: is, v :: vs, σ, h => by
    rw [List.zip_cons_cons, List.foldl_cons, folds_out (fun q => h (List.mem_cons_of_mem _ q)), List.getElem?_set_ne (fun e => h (by rw [← e]; exact List.mem_cons_self))]
theorem pg_tg (K : Cok X M C sc n Wx cf) {t : Tg} {e : Expr} (h : tgB C sc t e = true) : PG X e (gT (M.g X.K) t) := by
  cases t with
  | nm i =>
    cases e <;> simp only [tgB, nmB, Bool.false_eq_true] at h
    rename_i x pos
    rw [Bool.and_eq_true] at h
    obtain ⟨l1, l2⟩ := K.loc x h.2
    refine ⟨fun pins s σ H v u Q I r q => ?_⟩
    obtain ⟨σI, hh, as, d, σ1, sl, hi, rp, eb, k⟩ := q
    simp only [bindT, Option.some.injEq] at eb
    subst eb
    refine (pg_name K.nd (by rw [K.N]; exact isC_ok h.1) l1 l2).run pins s σ H v u Q I r (k _ (sl.set rp) fun j hj => ?_)
    rw [List.getElem?_set_ne]
    intro q
    exact hj (by simp only [tgIx, List.mem_singleton]; exact q.symm)
  | tp is =>
    cases e <;> simp only [tgB, Bool.false_eq_true] at h
    rename_i es k pos
    simp only [Bool.and_eq_true, beq_iff_eq, Bool.not_eq_true'] at h
    obtain ⟨h, hot⟩ := h
    refine ⟨fun pins s σ H v u Q I r q => ?_⟩
    obtain ⟨σI, hh, as, d, σ1, sl, hi, rp, eb, kk⟩ := q
    cases d with
    | tup ds =>
      simp only [bindT] at eb
      split at eb
      · rename_i hl
        cases eb
        simp only [Rep] at rp
        obtain ⟨a, vs, rfl, h1, hr⟩ := rp
        obtain ⟨n1, n2⟩ := names_len (env := X.env) h.1 h.2
        have hvl : vs.length = es.length := by rw [← hr.length, hl, h.1]
        refine (pg_tup (n := es.length) (K.cool hot).calm (pg_names K h.1 h.2) n1 n2).run pins s σ H _ u Q I r ⟨a, vs, rfl, SqT.of h1, hvl, hvl, kk _ (SL.folds sl hr) fun j hj => folds_out hj⟩
      · cases eb
    | ob n =>
      simp only [bindT] at eb
      split at eb
      · rename_i ds hn
        split at eb
        · rename_i hl
          cases eb
          simp only [Rep] at rp
          obtain ⟨ad, rfl, ea⟩ := rp
          obtain ⟨vs, q1, q2⟩ := hi.ob n _ ad hn ea
          obtain ⟨n1, n2⟩ := names_len (env := X.env) h.1 h.2
          have hvl : vs.length = es.length := by rw [← q2.length, hl, h.1]
          exact (pg_unl (n := es.length) (K.cool hot).calm (pg_names K h.1 h.2) n1 n2).run pins s σ H _ u Q I r ⟨ad, vs, rfl, SqL.of q1, hvl, hvl, kk _ (SL.folds sl q2) fun j hj => folds_out hj⟩
        · cases eb
      · cases eb
    | _ => simp [bindT] at eb
  | tn is j =>
    match e, h with
    | .Tuple [.Tuple es k1 p1, e] _ _, h =>
      simp only [tgB, Bool.and_eq_true, beq_iff_eq, Bool.not_eq_true'] at h
      obtain ⟨⟨⟨ha, hb⟩, hc⟩, hot⟩ := h
      have hc' : (([j].zip [e]).all fun p => nmB C sc p.1 p.2) = true := by simpa using hc
      refine ⟨fun pins s σ H v u Q I r q => ?_⟩
      obtain ⟨σI, hh, as, d, σ1, sl, hi, rp, eb, kk⟩ := q
      simp only [bindT] at eb
      split at eb
      · rename_i ds dv
        split at eb
        · rename_i hl
          cases eb
          simp only [Rep] at rp
          obtain ⟨a, vs, rfl, h1, hr⟩ := rp
          obtain ⟨v1, _, rfl, q1, hr⟩ := hr.cons_inv
          obtain ⟨v2, _, rfl, q2, hr⟩ := hr.cons_inv
          obtain rfl := hr.nil_inv
          simp only [Rep] at q1
          obtain ⟨a1, ws, rfl, h2, hr2⟩ := q1
          obtain ⟨n1, n2⟩ := names_len (env := X.env) ha hb
          obtain ⟨m1, m2⟩ := names_len (C := C) (sc := sc) (env := X.env) (is := [j]) (es := [e]) rfl hc'
          have hvl : ws.length = es.length := by rw [← hr2.length, hl, ha]
          have in1 := pg_tup (X := X) (k := k1) (pos := p1) (n := es.length) (K.cool hot).calm (pg_names K ha hb) n1 n2
          refine (pg_tup (n := 2) (K.cool hot).calm (pgs_cons in1 (pg_names (is := [j]) (es := [e]) K rfl hc')) ?_ ?_).run pins s σ H _ u Q I r ⟨a, [.ref a1, v2], rfl, SqT.of h1, rfl, .ref a1, [v2], rfl, a1, ws, rfl, SqT.of h2, hvl, hvl, rfl, ?_⟩
          · show (assignEach [e] X.env).length + 1 = 2
            rw [m1]; rfl
          · show ((false, _) :: assignEach [e] X.env).findIdx? (·.1) = none
            rw [List.findIdx?_cons]
            simp only [Bool.false_eq_true, if_false, m2, Option.map_none]
          · refine kk _ ((SL.folds sl hr2).set q2) fun i hi' => ?_
            simp only [tgIx, List.mem_append, List.mem_singleton, not_or] at hi'
            show (((is.zip ws).foldl (fun σ p => σ.set p.1 (some p.2)) σ).set j (some v2))[i]? = σ[i]?
            rw [List.getElem?_set_ne (fun q => hi'.2 q.symm), folds_out hi'.1]
        · cases eb
      · cases eb
/-! ## a comprehension's block -/
theorem free_relabel {sc : Scope} : ∀ {names : List (Str × NameKind)} {x : Str}, names.lookup x = some .free →
    (names.map fun (n, k) => if (k == NameKind.free && sc.kind == .function && sc.names.lookup n == some .cell) then (n, NameKind.cell) else (n, k)).lookup x = some .free ∨
    (names.map fun (n, k) => if (k == NameKind.free && sc.kind == .function && sc.names.lookup n == some .cell) then (n, NameKind.cell) else (n, k)).lookup x = some .cell
  | [], _, h => by simp at h
  | (y, k0) :: r, x, h => by
    have ih := @free_relabel sc r x
    show List.lookup x ((if (k0 == NameKind.free && sc.kind == .function && sc.names.lookup y == some .cell) = true then (y, NameKind.cell) else (y, k0)) :: (r.map _)) = _ ∨ List.lookup x ((if (k0 == NameKind.free && sc.kind == .function && sc.names.lookup y == some .cell) = true then (y, NameKind.cell) else (y, k0)) :: (r.map _)) = _
    by_cases hx : x = y
    · subst hx
      rw [List.lookup_cons, beq_self_eq_true] at h
      simp only at h
      cases h
      split
      · exact .inr (by rw [List.lookup_cons, beq_self_eq_true])
      · exact .inl (by rw [List.lookup_cons, beq_self_eq_true])
    · rw [List.lookup_cons, beq_eq_false_iff_ne.mpr hx] at h
      split
      · rw [List.lookup_cons, beq_eq_false_iff_ne.mpr hx]; exact ih h
      · rw [List.lookup_cons, beq_eq_false_iff_ne.mpr hx]; exact ih h
theorem visB_cases {sc : Scope} {x : Str} (h : visB sc x = true) : sc.names.lookup x = some .local ∨ sc.names.lookup x = some .cell ∨ sc.names.lookup x = some .free := by
  simp only [visB, Bool.or_eq_true] at h
  rcases h with (h | h) | h
  · exact .inl (kindB_ok h)
  · exact .inr (.inl (kindB_ok h))
  · exact .inr (.inr (kindB_ok h))
theorem locB_cases {sc : Scope} {x : Str} (h : locB sc x = true) : sc.names.lookup x = some .local ∨ sc.names.lookup x = some .cell := by
  simp only [locB, Bool.or_eq_true] at h
  rcases h with h | h
  · exact .inl (kindB_ok h)
  · exact .inr (kindB_ok h)
theorem Cok.blk (K : Cok X M C sc n Wx cf) (hh : C.hot = false) (hl : C.lam = none) (s : Shared) (H : Hp) (scope : Scope) (Cc : Addr) (cl : List (Str × Addr)) (fp : List Addr) :
    Cok (X.blk s H scope (compEnvC scope cl Cc X.env) fp) M C scope n (fun _ _ _ _ => False) cf := by
  have look : ∀ (x : Str) k, k ≠ .free → scope.names.lookup x = some k → (compEnvC scope cl Cc X.env).scope.names.lookup x = some k := fun x k hk h => lookup_relS_keep (sc := X.env.scope) hk h
  have lookf : ∀ (x : Str), scope.names.lookup x = some .free → (compEnvC scope cl Cc X.env).scope.names.lookup x = some .free ∨ (compEnvC scope cl Cc X.env).scope.names.lookup x = some .cell := fun x h => free_relabel (sc := X.env.scope) h
  have k := K.cool hh
  refine ⟨fun _ => ⟨k.calm, k.room, k.nex, k.nxd, k.ncx, k.vir, k.fns, k.cls, k.mks, k.exs, k.exm⟩, fun _ _ _ _ _ q => (by rw [hh] at q; cases q), fun _ _ _ _ _ _ _ q => (by rw [hl] at q; cases q), fun h1 h2 => K.lmk h1 h2, K.N, K.nd, fun x h => ?_, fun x h => ?_, fun x h => ?_, look, lookf, K.hu, K.gd, takes0, PassesOwn.never, K.con, K.scr, K.glb, K.bl, K.gs, K.gi, K.dc, fun _ _ _ _ _ _ _ _ q => (by rw [hh] at q; cases q)⟩
  · rcases visB_cases h with e | e | e
    · exact .inl (look x _ (by decide) e)
    · exact .inr (.inl (look x _ (by decide) e))
    · rcases lookf x e with e | e
      · exact .inr (.inr e)
      · exact .inr (.inl e)
  · rcases locB_cases h with e | e
    · exact ⟨.inl (look x _ (by decide) e), .inr (look x _ (by decide) e)⟩
    · refine ⟨.inr (look x _ (by decide) e), .inl ?_⟩
      show (scope.names.lookup x == some .cell) = true
      rw [e]; rfl
  · exact look x _ (by decide) (kindB_ok h)
theorem blk_ok (K : Cok X M C sc n Wx cf) {scope : Scope} {own : List (Str × Nat)} (h : blkC C.N sc scope own = true) : BlkOk X.N X.env.scope scope own := by
  have b := blkOk_by h
  rw [K.N]
  refine ⟨b.kind, b.uniq, b.ix, fun y hy e => ?_, b.own⟩
  rcases b.free y hy e with e | e
  · exact .inl (K.scn _ _ (by decide) e)
  · rcases K.scf _ e with e | e
    · exact .inr e
    · exact .inl e
end
end Rf
end

section
namespace Rf
open PySem PySem.Spec PyProof.Rows L2

section
variable {X : Cx} {M : Mx} {C : Ck} {sc : Scope} {n : Nat} {Wx : WX} {cf : CF}
/-! ## unlocking -/
def unlQ (X : Cx) (g : Gd) (Q : VK) : VK := fun v H => match g with
  | .lock _ _ _ => ∃ d od u, H d = some (.frz od u) ∧ (∀ o' u', X.H_0 d ≠ some (.frz o' u')) ∧ Q v (upd H d u)
  | _ => Q v H
theorem EP.unl {pins : List (Addr × Obj)} {σ : L2.St} {g : Gd} {Q : VK} {u : Value} {s : Shared} (h : EP X pins σ (unlQ X g Q) u s) : EP X pins σ Q u s := by
  obtain ⟨v, H, I, r, q⟩ := h
  cases g with
  | lock n t kvs =>
    obtain ⟨d, od, w, e, nf, q⟩ := q
    exact ⟨v, _, I.unlock e nf, r, q⟩
  | none => exact ⟨v, H, I, r, q⟩
  | keep n mo => exact ⟨v, H, I, r, q⟩
  | keep2 n mo m mo2 => exact ⟨v, H, I, r, q⟩
theorem HI.unlock {h : Hs} {as : List Addr} {H : Hp} {m : Nat} {t : Bool} {kvs : List (D × D)} (hi : HI (M.g X.K) h as H) (e : h[m]? = some (.dic true t kvs)) :
    ∃ d od u, as[m]? = some d ∧ H d = some (.frz od u) ∧ HI (M.g X.K) (h.set m (.dic false t kvs)) as (upd H d u) := by
  obtain ⟨d, ed, ob⟩ := hi.get e
  have go : ∀ (od : Obj) (u : HO), H d = some (.frz od u) → ObR (M.g X.K) as (upd H d u) d (.dic false t kvs) → ∃ d od u, as[m]? = some d ∧ H d = some (.frz od u) ∧ HI (M.g X.K) (h.set m (.dic false t kvs)) as (upd H d u) := by
    intro od u hf ob'
    refine ⟨d, od, u, ed, hf, ⟨fun dd fs eq => ?_, fun c q as0 eq => ?_⟩, tabs_set hi.tb (hi.noT (List.mem_of_getElem? ed)), by simp [hi.len], hi.nd, fun k mo a e1 e2 => ?_⟩
    rotate_left
    · obtain ⟨⟨q1, q2⟩, q3⟩ := hi.xd.2 c q as0 eq
      exact ⟨⟨q1, by rw [upd_ne (fun e => q1 (by rw [e]; exact List.mem_of_getElem? ed))]; exact q2⟩, q3⟩
    rotate_left
    · obtain ⟨q1, vs, q2, q3⟩ := hi.xd.1 dd fs eq
      have tt : ∀ (a : Addr) (xs : List V), H a = some (.tup xs) → upd H d u a = some (.tup xs) := fun a xs h => tup_upd (fun ys q => by rw [hf] at q; cases q) h
      exact ⟨q1, vs, by rw [upd_ne (fun e => q1 (by rw [e]; exact List.mem_of_getElem? ed))]; exact q2, Paired.mapP q3 fun _ _ z => ⟨z.1, z.2.mono0 (fun _ _ h => h) tt⟩⟩
    by_cases hk : k = m
    · subst hk
      rw [ed] at e2; cases e2
      have hl : k < h.length := (List.getElem?_eq_some_iff.mp e).1
      rw [List.getElem?_set_self hl] at e1; cases e1
      exact ob'
    · rw [List.getElem?_set_ne (Ne.symm hk)] at e1
      refine (hi.ob k mo a e1 e2).mono0 (fun _ _ h => h) (fun a xs h => tup_upd (fun ys q => by rw [hf] at q; cases q) h) (upd_ne fun q => hk ?_)
      subst q
      exact (List.getElem?_inj (List.getElem?_eq_some_iff.mp e2).1 hi.nd).mp (e2.trans ed.symm)
  have tp : ∀ {od : Obj} {u : HO}, H d = some (.frz od u) → ∀ (a : Addr) (xs : List V), H a = some (.tup xs) → upd H d u a = some (.tup xs) := fun hf a xs h => tup_upd (fun ys q => by rw [hf] at q; cases q) h
  cases t with
  | false =>
    obtain ⟨kv, hl, hk⟩ := ob
    simp only [lkd, if_true] at hl
    obtain ⟨od, hl⟩ := hl
    refine go od _ hl ⟨kv, ?_, Paired.mapP hk fun _ _ z => ⟨z.1, z.2.mono0 (fun _ _ h => h) (tp hl)⟩⟩
    simp only [lkd, Bool.false_eq_true, if_false]; exact upd_same
  | true =>
    obtain ⟨kv, hl, hk⟩ := ob
    simp only [lkd, if_true] at hl
    obtain ⟨od, hl⟩ := hl
    refine go od _ hl ⟨kv, ?_, Paired.mapP hk fun _ _ z => ⟨z.1, z.2.mono0 (fun _ _ h => h) (tp hl)⟩⟩
    simp only [lkd, Bool.false_eq_true, if_false]; exact upd_same
/-- from ahead of the lock to behind the unlocking -/
theorem Ext.unlock {as as' : List Addr} {H H' : Hp} {d : Addr} {u : HO} {od : Obj} (x : Ext as H as' H') (hd : d ∈ as') (hf : H' d = some (.frz od u)) (nf : ∀ o w, H d ≠ some (.frz o w)) : Ext as H as' (upd H' d u) :=
  ⟨x.pre, fun a xs h => tup_upd (fun ys q => by rw [hf] at q; cases q) (x.tup a xs h), fun a o w h => by
    rw [upd_ne (show a ≠ d from fun q => nf o w (by rw [← q]; exact h))]; exact x.frz a o w h, fun a o h hn nt => by rw [upd_ne (show a ≠ d from fun q => hn (by rw [q]; exact hd))]; exact x.out a o h hn nt, fun a ps h => by
    obtain ⟨more, e⟩ := x.tbl a ps h
    exact ⟨more, by rw [upd_ne (fun q => by rw [q, hf] at e; cases e)]; exact e⟩, x.fresh⟩
/-- an object that stands already becomes one of ours -/
theorem HI.add {h : Hs} {as : List Addr} {H : Hp} {p : Addr} {xs : List D} {vs : List V} (hi : HI (M.g X.K) h as H) (hp : p ∉ as) (e : H p = some (.lst vs)) (r : Reps (M.g X.K) as H xs vs) : HI (M.g X.K) (h ++ [.lst xs]) (as ++ [p]) H := by
  have pre : ∀ (n : Nat) (a : Addr), as[n]? = some a → (as ++ [p])[n]? = some a := fun n a e => by rw [List.getElem?_append_left (List.getElem?_eq_some_iff.mp e).1]; exact e
  refine ⟨⟨fun dd fs eq => ?_, fun c q as0 eq => ?_⟩, hi.tb, by simp [hi.len], ?_, fun n mo a e1 e2 => ?_⟩
  rotate_left
  · obtain ⟨⟨q1, q2⟩, q3⟩ := hi.xd.2 c q as0 eq
    refine ⟨⟨fun z => ?_, q2⟩, fun m a z => pre m a (q3 m a z)⟩
    rcases List.mem_append.mp z with z | z
    · exact q1 z
    · rw [List.mem_singleton] at z
      rw [z, e] at q2; cases q2
  rotate_right
  · obtain ⟨q1, vs', q2, q3⟩ := hi.xd.1 dd fs eq
    refine ⟨fun q => ?_, vs', q2, Paired.mapP q3 fun _ _ z => ⟨z.1, z.2.mono0 pre (fun _ _ h => h)⟩⟩
    rcases List.mem_append.mp q with q | q
    · exact q1 q
    · rw [List.mem_singleton] at q
      rw [q, e] at q2; cases q2
  · rw [List.nodup_append]
    refine ⟨hi.nd, by simp, fun a ha b hb => ?_⟩
    simp at hb; subst hb
    exact fun e => hp (e ▸ ha)
  · by_cases hn : n < h.length
    · rw [List.getElem?_append_left hn] at e1
      rw [List.getElem?_append_left (by rw [hi.len]; exact hn)] at e2
      exact (hi.ob n mo a e1 e2).mono0 pre (fun _ _ h => h) rfl
    · have hn2 : n = h.length := by
        have := (List.getElem?_eq_some_iff.mp e1).1
        simp at this; omega
      subst hn2
      rw [List.getElem?_append_right (by omega)] at e1
      rw [List.getElem?_append_right (by rw [hi.len]; exact Nat.le_refl _)] at e2
      simp [hi.len] at e1 e2
      subst e1 e2
      exact ⟨vs, e, r.mono0 pre (fun _ _ h => h)⟩
theorem SL.wipe {G : Gx} {as : List Addr} {H : Hp} {σI : Sg} {σ : L2.St} (hx : G.ex = none) (s : SL G σI as H σ) : ∀ own : List Nat, SL G (wipeI σI own) as H (L2.wipe σ own)
  | [] => s
  | v :: vs => by
    have ih := SL.wipe hx s vs
    refine ⟨by simp [wipeI, L2.wipe, ih.len], fun j d e => ?_, fun _ _ q => by rw [hx] at q; cases q⟩
    simp only [wipeI, L2.wipe] at e ⊢
    by_cases hj : j = v
    · subst hj
      have hl : j < (wipeI σI vs).length := by
        have := (List.getElem?_eq_some_iff.mp e).1
        simpa using this
      rw [List.getElem?_set_self hl] at e; cases e
    · rw [List.getElem?_set_ne (Ne.symm hj)] at e ⊢
      exact ih.at_ j d e
theorem wipe_eq {σ σ2 : L2.St} {vs : List Nat} (h : ∀ i, i ∉ vs → σ2[i]? = (L2.wipe σ vs)[i]?) (hl : σ2.length = (L2.wipe σ vs).length) : L2.wipe σ2 vs = L2.wipe σ vs := by
  have in_ : ∀ (σ : L2.St) (i : Nat) (vs : List Nat), i ∈ vs → i < σ.length → (L2.wipe σ vs)[i]? = some none := by
    intro σ i vs
    induction vs with
    | nil => intro h _; cases h
    | cons v vs ih =>
      intro h hl
      unfold L2.wipe
      by_cases hi : i = v
      · subst hi
        rw [List.getElem?_set_self (by rw [wipe_length]; exact hl)]
      · rw [List.getElem?_set_ne (Ne.symm hi)]
        exact ih (by rcases List.mem_cons.mp h with e | e; exact absurd e hi; exact e) hl
  have hl2 : σ2.length = σ.length := by rw [hl, wipe_length]
  refine List.ext_getElem? fun i => ?_
  by_cases hi : i ∈ vs
  · by_cases hb : i < σ.length
    · rw [in_ σ i vs hi hb, in_ σ2 i vs hi (by omega)]
    · rw [List.getElem?_eq_none (by rw [wipe_length]; omega), List.getElem?_eq_none (by rw [wipe_length]; omega)]
  · rw [wipe_out hi, h i hi]
/-- a block's tests -/
def tC (G : Gx) (Wx : WX) (ev : Sg → Hs → R Bool) : TT := fun σ H Q => ∃ σI h as, SL G σI as H σ ∧ HI G h as H ∧ post G Wx rB as H σ (ev σI h) Q
theorem pts_of {ifs : List Expr} {cd : List E} (h : match ifs with | [] => cd = [] | [e] => ∃ c, cd = [c] ∧ SE M X Wx cf c e | _ => False) : PTs X ifs (tC (M.g X.K) Wx (fun σ h => (evalEs M.W cf M.cx cd σ h).bind cdB)) := by
  match ifs with
  | [] =>
    simp only at h
    subst h
    refine ⟨fun pins s σ H Q I q => ?_⟩
    obtain ⟨σI, hh, as, sl, hi, p⟩ := q
    exact pts_nil.run pins s σ H Q I (p true as H Ext.refl hi rfl)
  | [e] =>
    obtain ⟨c, rfl, hc⟩ := h
    refine ⟨fun pins s σ H Q I q => ?_⟩
    obtain ⟨σI, hh, as, sl, hi, p⟩ := q
    refine (pts_one hc.2).run pins s σ H Q I ⟨σI, hh, as, sl, hi, ?_⟩
    simp only [evalEs, R.bind_assoc, R.bind_ok] at p
    exact p
  | _ :: _ :: _ => exact h.elim
theorem bindT_len {t : Tg} {d : D} {h : Hs} {σ σ1 : Sg} (e : bindT t d h σ = some σ1) : σ1.length = σ.length := by
  have fl : ∀ (l : List (Nat × D)) (σ : Sg), (l.foldl (fun σ p => σ.set p.1 (some p.2)) σ).length = σ.length := by
    intro l
    induction l with
    | nil => intro σ; rfl
    | cons a l ih => intro σ; rw [List.foldl_cons, ih, List.length_set]
  cases t with
  | nm i => simp only [bindT, Option.some.injEq] at e; subst e; simp
  | tp is =>
    cases d with
    | tup ds =>
      simp only [bindT] at e
      split at e
      · cases e; exact fl _ _
      · cases e
    | ob n =>
      simp only [bindT] at e
      split at e
      · split at e
        · cases e; exact fl _ _
        · cases e
      · cases e
    | _ => simp [bindT] at e
  | tn is j =>
    simp only [bindT] at e
    split at e
    · split at e
      · cases e; rw [List.length_set, fl]
      · cases e
    · cases e
theorem lc_tr (K : Cok X M C sc n Wx cf) (hh : C.hot = false) (hnl : C.lam = none) {own : List Nat} {tg : Tg} {k : Ik} {its cd : List E} {el : E} (hown : ∀ i ∈ tgIx tg, i ∈ own) {σ : L2.St} {H : Hp} {Q : VK}
    (h : tE (M.g X.K) Wx (evalE M.W cf M.cx (.lc own tg k its cd el)) σ H Q) :
    ∃ g, tLc (tI X M Wx (evalEs M.W cf M.cx its) k) (gT (M.g X.K) tg) (tC (M.g X.K) (fun _ _ _ _ => False) (fun σ h => (evalEs M.W cf M.cx cd σ h).bind cdB)) (tE (M.g X.K) (fun _ _ _ _ => False) (evalE M.W cf M.cx el)) own σ H (unlQ X g Q) := by
  obtain ⟨σI, h, as, sl, hi, p⟩ := h
  simp only [evalE] at p
  rw [← R.bind_assoc] at p
  cases e0 : ((evalEs M.W cf M.cx its σI h).bind fun xs h => ofO (itemsI M.W.cons k xs h) h) with
  | no => rw [e0] at p; exact p.elim
  | exc c fs h1 =>
    rw [e0] at p
    refine ⟨.none, σI, h, as, sl, hi, ?_⟩
    rw [e0]; exact p
  | ok ig h0 =>
    rw [e0] at p
    obtain ⟨items, g, hg⟩ := ig
    simp only [R.bind_ok] at p
    refine ⟨g, σI, h, as, sl, hi, ?_⟩
    rw [e0]
    rintro J as1 H1 x1 ⟨i1, w1⟩ gd Dd hD
    simp only at i1 w1 gd
    -- the invariant
    generalize hturn : lcTurn (fun d h => bindT tg d h (wipeI σI own)) (fun σ1 h => (evalEs M.W cf M.cx cd σ1 h).bind cdB) (fun σ1 h => evalE M.W cf M.cx el σ1 h) = turn at p
    refine ⟨fun i m Hc => m = items.length - i ∧ i ≤ items.length ∧ ∃ hc asc acc accV, Ext as1 H1 asc Hc ∧ HI (M.g X.K) hc asc Hc ∧ Dd ∉ asc ∧ Hc Dd = some (.lst accV) ∧ Reps (M.g X.K) asc Hc acc accV ∧
      post (M.g X.K) Wx (Rep (M.g X.K)) as H σ ((lcI g turn (items.drop i) acc hc).bind lcEnd) Q, ⟨items.length, by simp, Nat.zero_le _, hg, as1, [], [], ext_tup hD, i1.other hD, i1.fresh hD, upd_same, by simp only [Reps], p⟩, ?_⟩
    rintro i m Hc ⟨rfl, hile, hc, asc, acc, accV, xc, ic, hDn, eD, ra, pc⟩
    -- the slots
    have slc : SL (M.g X.K) (wipeI σI own) asc Hc (L2.wipe σ own) := ((sl.mono x1).mono xc).wipe ((K.cool hh).nex hnl) own
    by_cases hlt : i < items.length
    · have hdrop : items.drop i = items[i] :: items.drop (i + 1) := List.drop_eq_getElem_cons hlt
      rw [hdrop] at pc
      simp only [lcI] at pc
      by_cases hs : same g hc
      · rw [if_pos hs] at pc
        obtain ⟨go, yl⟩ := (w1 i hc asc Hc xc ic hs).2 items[i] (by simp [hlt])
        refine .inr ⟨go, fun Hn => items.length - (i + 1) = items.length - (i + 1) ∧ i + 1 ≤ items.length ∧ ∃ hc asc acc accV, Ext as1 H1 asc Hn ∧ HI (M.g X.K) hc asc Hn ∧ Dd ∉ asc ∧ Hn Dd = some (.lst accV) ∧ Reps (M.g X.K) asc Hn acc accV ∧
          post (M.g X.K) Wx (Rep (M.g X.K)) as H σ ((lcI g turn (items.drop (i + 1)) acc hc).bind lcEnd) Q, fun H' q => ⟨items.length - (i + 1), by omega, q⟩, fun x H' y => ?_⟩
        obtain ⟨as', x', i', rx⟩ := yl x H' y
        have hD' : Dd ∉ as' := fun q => by
          have := x'.fresh Dd q hDn
          rw [eD] at this; cases this
        have eD' := x'.out _ _ eD hD' (fun _ z => (nomatch z))
        have et : turn items[i] hc = ((ofO (bindT tg items[i] hc (wipeI σI own)) hc).bind fun σ1 h => ((evalEs M.W cf M.cx cd σ1 h).bind cdB).bind fun b h => if b then (evalE M.W cf M.cx el σ1 h).bind fun x h => R.ok (some x) h else R.ok none h).shut := by rw [← hturn]; rfl
        rw [et] at pc
        cases eb : bindT tg items[i] hc (wipeI σI own) with
        | none => rw [eb] at pc; exact pc.elim
        | some σ1 =>
          rw [eb] at pc
          simp only [ofO_some, R.bind_ok] at pc
          refine ⟨wipeI σI own, hc, as', items[i], σ1, slc.mono x', i', rx, eb, fun σ2 sl2 hout => ⟨wipe_eq (fun j hj => hout j fun q => hj (hown j q)) ?_, ?_⟩⟩
          · rw [← sl2.len, ← slc.len]
            exact bindT_len eb
          -- the tests
          cases ec : (evalEs M.W cf M.cx cd σ1 hc).bind cdB with
          | no => rw [ec] at pc; exact pc.elim
          | exc c fs h2 => rw [ec] at pc; exact pc.elim
          | ok b h2 =>
            rw [ec] at pc
            simp only [R.bind_ok] at pc
            refine ⟨σ1, hc, as', sl2, i', ?_⟩
            show post _ _ _ _ _ _ ((evalEs M.W cf M.cx cd σ1 hc).bind cdB) _
            rw [ec]
            rintro b' as2 H2 x2 i2 rfl
            have hD2 : Dd ∉ as2 := fun q => by
              have := x2.fresh Dd q hD'
              rw [eD'] at this; cases this
            have eD2 := x2.out _ _ eD' hD2 (fun _ z => (nomatch z))
            cases b with
            | false =>
              simp only [Bool.false_eq_true, if_false, R.shut_ok, R.bind_ok] at pc ⊢
              refine ⟨trivial, by omega, h2, as2, acc, accV, xc.trans (x'.trans x2), i2, hD2, eD2, (ra.mono x').mono x2, ?_⟩
              exact pc
            | true =>
              simp only [if_true] at pc ⊢
              cases ee : evalE M.W cf M.cx el σ1 h2 with
              | no => rw [ee] at pc; exact pc.elim
              | exc c fs h3 => rw [ee] at pc; exact pc.elim
              | ok d h3 =>
                rw [ee] at pc
                simp only [R.bind_ok, R.shut_ok] at pc
                split at pc
                · rename_i hlen
                  refine ⟨σ1, h2, as2, sl2.mono x2, i2, ?_⟩
                  show post _ _ _ _ _ _ (evalE M.W cf M.cx el σ1 h2) _
                  rw [ee]
                  rintro v as3 H3 x3 i3 rv
                  have hD3 : Dd ∉ as3 := fun q => by
                    have := x3.fresh Dd q hD2
                    rw [eD2] at this; cases this
                  have eD3 := x3.out _ _ eD2 hD3 (fun _ z => (nomatch z))
                  have ra3 := ((ra.mono x').mono x2).mono x3
                  refine ⟨accV, eD3, by rw [← ra3.length]; exact hlen, trivial, by omega, h3, as3, acc ++ [d], accV ++ [v], ?_, ?_, hD3, upd_same, ?_, ?_⟩
                  · -- the list grows: none of ours
                    refine ⟨fun n a e => ((xc.trans (x'.trans x2)).trans x3).pre n a e, fun a xs e => tup_upd (fun ys q => by rw [eD3] at q; cases q) (((xc.trans (x'.trans x2)).trans x3).tup a xs e), fun a o w e => frz_upd (fun ob w q => by rw [eD3] at q; cases q) (((xc.trans (x'.trans x2)).trans x3).frz a o w e), fun a o e hn nt => ?_, fun a ps e => ?_, ((xc.trans (x'.trans x2)).trans x3).fresh⟩
                    · rw [upd_ne (fun q => by subst q; rw [hD] at e; cases e)]
                      exact ((xc.trans (x'.trans x2)).trans x3).out a o e hn nt
                    · obtain ⟨more, e'⟩ := ((xc.trans (x'.trans x2)).trans x3).tbl a ps e
                      exact ⟨more, by rw [upd_ne (fun q => by rw [q, eD3] at e'; cases e')]; exact e'⟩
                  · refine ⟨⟨fun dd fs eq => ?_, fun c q as0 eq => ?_⟩, tabs_set i3.tb (by rw [eD3]; intro u q; cases q; exact ⟨fun _ z => (nomatch z), fun _ z => (nomatch z)⟩), i3.len, i3.nd, fun n mo a e1 e2 => (i3.ob n mo a e1 e2).mono0 (fun _ _ h => h) (fun a xs e => tup_upd (fun ys q => by rw [eD3] at q; cases q) e) (upd_ne fun q => hD3 (by subst q; exact List.mem_of_getElem? e2))⟩
                    rotate_left
                    · obtain ⟨⟨q1, q2⟩, q3⟩ := i3.xd.2 c q as0 eq
                      exact ⟨⟨q1, by rw [upd_ne (fun e => by rw [e, eD3] at q2; cases q2)]; exact q2⟩, q3⟩
                    obtain ⟨q1, vs', q2, q3⟩ := i3.xd.1 dd fs eq
                    exact ⟨q1, vs', by rw [upd_ne (fun e => by rw [e, eD3] at q2; cases q2)]; exact q2, Paired.mapP q3 fun _ _ z => ⟨z.1, z.2.mono0 (fun _ _ h => h) (fun a xs e => tup_upd (fun ys q => by rw [eD3] at q; cases q) e)⟩⟩
                  · exact (Reps.append ra3 (Reps.one rv)).mono0 (fun _ _ h => h) (fun a xs e => tup_upd (fun ys q => by rw [eD3] at q; cases q) e)
                  · exact pc
                · exact pc.elim
      · rw [if_neg hs] at pc; exact pc.elim
    · have hie : i = items.length := by omega
      subst hie
      rw [List.drop_length] at pc
      simp only [lcI] at pc
      by_cases hs : same g hc
      · rw [if_pos hs] at pc
        refine .inl ⟨(w1 _ hc asc Hc xc ic hs).1 (Nat.le_refl _), ?_⟩
        simp only [R.bind_ok, lcEnd] at pc
        have fin : ∀ (h' : Hs) (H' : Hp), endG g hc = h' → HI (M.g X.K) h' asc H' → H' Dd = some (.lst accV) → Reps (M.g X.K) asc H' acc accV → Ext as H asc H' → Q (.ref Dd) H' := by
          intro h' H' e i' eD' ra' x'
          rw [e] at pc
          refine pc _ (asc ++ [Dd]) H' ?_ (i'.add hDn eD' ra') ?_
          · refine ⟨fun n a e => by rw [List.getElem?_append_left (List.getElem?_eq_some_iff.mp (x'.pre n a e)).1]; exact x'.pre n a e, x'.tup, x'.frz, fun a o e hn nt => x'.out a o e (fun q => hn (List.mem_append_left _ q)) nt, x'.tbl, fun a hm hn => ?_⟩
            rcases List.mem_append.mp hm with hm | hm
            · exact x'.fresh a hm hn
            · rw [List.mem_singleton.mp hm]
              cases e5 : H Dd with
              | none => rfl
              | some o =>
                have q1 : Dd ∉ as1 := i1.fresh hD
                by_cases nt : ∃ ps, o = .tbl ps
                · obtain ⟨ps, rfl⟩ := nt
                  obtain ⟨more, e6⟩ := x1.tbl Dd ps e5
                  rw [e6] at hD; cases hD
                · rw [x1.out Dd o e5 q1 fun ps q => nt ⟨ps, q⟩] at hD; cases hD
          · simp only [Rep]
            exact ⟨Dd, rfl, by rw [← i'.len]; simp⟩
        cases g with
        | none => exact fin _ Hc rfl ic eD ra (x1.trans xc)
        | keep n' mo => exact fin _ Hc rfl ic eD ra (x1.trans xc)
        | keep2 n' mo m2 mo2 => exact fin _ Hc rfl ic eD ra (x1.trans xc)
        | lock n' t kvs =>
          obtain ⟨a, ea, nf0, nf⟩ := gd
          obtain ⟨d, od, u, ed, hf, iu⟩ := ic.unlock hs
          obtain rfl : a = d := by
            have := xc.pre _ _ ea
            rw [ed] at this; exact (Option.some.inj this).symm
          have hDd : Dd ≠ a := fun q => hDn (q ▸ List.mem_of_getElem? ed)
          refine ⟨a, od, u, hf, nf0, fin _ _ rfl iu (by rw [upd_ne hDd]; exact eD) (ra.mono0 (fun _ _ h => h) fun b xs e => tup_upd (fun ys q => by rw [hf] at q; cases q) e) ((x1.trans xc).unlock (List.mem_of_getElem? ed) hf nf)⟩
      · rw [if_neg hs] at pc; exact pc.elim
theorem se_lc (K : Cok X M C sc n Wx cf) (hh : C.hot = false) (hnl : C.lam = none) {own : List Nat} {tg : Tg} {k : Ik} {its cd : List E} {el : E} {elt tg' iter : Expr} {ifs : List Expr} {scope : Scope} {pos : Pos}
    (hb : blkC C.N sc scope (ownP C own) = true) (htg : tgB C scope tg tg' = true) (hown : ∀ i ∈ tgIx tg, i ∈ own) (hpi : PI X tg' iter (tI X M Wx (evalEs M.W cf M.cx its) k)) (hset : isSet iter = false)
    (hcd : ∀ {X' : Cx}, X'.K = X.K → Cok X' M C scope n (fun _ _ _ _ => False) cf → PTs X' ifs (tC (M.g X.K) (fun _ _ _ _ => False) (fun σ h => (evalEs M.W cf M.cx cd σ h).bind cdB)))
    (hel : ∀ {X' : Cx}, X'.K = X.K → Cok X' M C scope n (fun _ _ _ _ => False) cf → PE X' elt (tE (M.g X.K) (fun _ _ _ _ => False) (evalE M.W cf M.cx el))) :
    PE X (.ListComp elt [⟨tg', iter, ifs, 0⟩] scope pos) (tE (M.g X.K) Wx (evalE M.W cf M.cx (.lc own tg k its cd el))) := by
  refine ⟨fun pins s σ H Q I h => ?_⟩
  obtain ⟨g, h⟩ := lc_tr K hh hnl hown h
  have hfold : ∀ x, foldedSetIterable iter X.env x = pure x := by
    intro x
    cases iter <;> first | rfl | (simp [isSet] at hset)
  have hvs : (ownP C own).map (·.2) = own := by
    unfold ownP; rw [List.map_map]
    exact (List.map_congr_left fun _ _ => rfl).trans (List.map_id _)
  have rule := pe_lc (pos := pos) (g := gT (M.g X.K) tg) (tt := tC (M.g X.K) (fun _ _ _ _ => False) (fun σ h => (evalEs M.W cf M.cx cd σ h).bind cdB)) (te := tE (M.g X.K) (fun _ _ _ _ => False) (evalE M.W cf M.cx el)) (K.cool hh).calm K.nd hpi (blk_ok K hb)
    (fun s H Cc cl fp => pg_tg (K.blk hh hnl s H scope Cc cl fp) htg) (fun s H Cc cl fp => hcd rfl (K.blk hh hnl s H scope Cc cl fp)) (fun s H Cc cl fp => hel rfl (K.blk hh hnl s H scope Cc cl fp)) hfold
  rw [hvs] at rule
  exact thn (rule.run pins s σ H (unlQ X g Q) I h) fun u s' q => EP.unl q
end
end Rf
end

section
namespace Rf
open PySem PySem.Spec PyProof.Rows L2
/-! ## {k: v for .. in ..} -/
section
variable {X : Cx} {M : Mx} {C : Ck} {sc : Scope} {n : Nat} {Wx : WX} {cf : CF}
theorem HI.addK {h : Hs} {as : List Addr} {H : Hp} {p : Addr} {kvs : List (D × D)} {kv : List (Key × V)} (hi : HI (M.g X.K) h as H) (hp : p ∉ as) (e : H p = some (.dK kv)) (r : RepKV keyK (M.g X.K) as H kvs kv) : HI (M.g X.K) (h ++ [.dic false false kvs]) (as ++ [p]) H := by
  have pre : ∀ (n : Nat) (a : Addr), as[n]? = some a → (as ++ [p])[n]? = some a := fun n a e => by rw [List.getElem?_append_left (List.getElem?_eq_some_iff.mp e).1]; exact e
  refine ⟨⟨fun dd fs eq => ?_, fun c q as0 eq => ?_⟩, hi.tb, by simp [hi.len], ?_, fun n mo a e1 e2 => ?_⟩
  · obtain ⟨q1, vs', q2, q3⟩ := hi.xd.1 dd fs eq
    refine ⟨fun q => ?_, vs', q2, Paired.mapP q3 fun _ _ z => ⟨z.1, z.2.mono0 pre (fun _ _ h => h)⟩⟩
    rcases List.mem_append.mp q with q | q
    · exact q1 q
    · rw [List.mem_singleton] at q
      rw [q, e] at q2; cases q2
  · obtain ⟨⟨q1, q2⟩, q3⟩ := hi.xd.2 c q as0 eq
    refine ⟨⟨fun z => ?_, q2⟩, fun m a z => pre m a (q3 m a z)⟩
    rcases List.mem_append.mp z with z | z
    · exact q1 z
    · rw [List.mem_singleton] at z
      rw [z, e] at q2; cases q2
  · rw [List.nodup_append]
    refine ⟨hi.nd, by simp, fun a ha b hb => ?_⟩
    simp at hb; subst hb
    exact fun e => hp (e ▸ ha)
  · by_cases hn : n < h.length
    · rw [List.getElem?_append_left hn] at e1
      rw [List.getElem?_append_left (by rw [hi.len]; exact hn)] at e2
      exact (hi.ob n mo a e1 e2).mono0 pre (fun _ _ h => h) rfl
    · have hn2 : n = h.length := by
        have := (List.getElem?_eq_some_iff.mp e1).1
        simp at this; omega
      subst hn2
      rw [List.getElem?_append_right (by omega)] at e1
      rw [List.getElem?_append_right (by rw [hi.len]; exact Nat.le_refl _)] at e2
      simp [hi.len] at e1 e2
      subst e1 e2
      refine ⟨kv, ?_, Paired.mapP r fun _ _ z => ⟨z.1, z.2.mono0 pre (fun _ _ h => h)⟩⟩
      simp only [lkd, Bool.false_eq_true, if_false]; exact e
theorem dc_tr (K : Cok X M C sc n Wx cf) (hh : C.hot = false) (hnl : C.lam = none) {own : List Nat} {tg : Tg} {k : Ik} {its cd : List E} {ke el : E} (hown : ∀ i ∈ tgIx tg, i ∈ own) {σ : L2.St} {H : Hp} {Q : VK}
    (h : tE (M.g X.K) Wx (evalE M.W cf M.cx (.dc own tg k its cd ke el)) σ H Q) :
    ∃ g, tDc (tI X M Wx (evalEs M.W cf M.cx its) k) (gT (M.g X.K) tg) (tC (M.g X.K) (fun _ _ _ _ => False) (fun σ h => (evalEs M.W cf M.cx cd σ h).bind cdB)) (tE (M.g X.K) (fun _ _ _ _ => False) (evalE M.W cf M.cx ke)) (tE (M.g X.K) (fun _ _ _ _ => False) (evalE M.W cf M.cx el)) own σ H (unlQ X g Q) := by
  obtain ⟨σI, h, as, sl, hi, p⟩ := h
  simp only [evalE] at p
  rw [← R.bind_assoc] at p
  cases e0 : ((evalEs M.W cf M.cx its σI h).bind fun xs h => ofO (itemsI M.W.cons k xs h) h) with
  | no => rw [e0] at p; exact p.elim
  | exc c fs h1 =>
    rw [e0] at p
    refine ⟨.none, σI, h, as, sl, hi, ?_⟩
    rw [e0]; exact p
  | ok ig h0 =>
    rw [e0] at p
    obtain ⟨items, g, hg⟩ := ig
    simp only [R.bind_ok] at p
    refine ⟨g, σI, h, as, sl, hi, ?_⟩
    rw [e0]
    rintro J as1 H1 x1 ⟨i1, w1⟩ gd Dd hD
    simp only at i1 w1 gd
    generalize hturn : dcTurn (fun d h => bindT tg d h (wipeI σI own)) (fun σ1 h => (evalEs M.W cf M.cx cd σ1 h).bind cdB) (fun σ1 h => evalE M.W cf M.cx ke σ1 h) (fun σ1 h => evalE M.W cf M.cx el σ1 h) = turn at p
    have nT : ∀ {kv : List (Key × V)} (xs : List V), HO.dK kv ≠ .tup xs := fun _ z => (nomatch z)
    refine ⟨fun i m Hc => m = items.length - i ∧ i ≤ items.length ∧ ∃ hc asc acc accV, Ext as1 H1 asc Hc ∧ HI (M.g X.K) hc asc Hc ∧ Dd ∉ asc ∧ Hc Dd = some (.dK accV) ∧ RepKV keyK (M.g X.K) asc Hc acc accV ∧
      post (M.g X.K) Wx (Rep (M.g X.K)) as H σ ((dcI g turn (items.drop i) acc hc).bind dcEnd) Q, ⟨items.length, by simp, Nat.zero_le _, hg, as1, [], [], ext_tup hD, i1.other hD, i1.fresh hD, upd_same, .nil, p⟩, ?_⟩
    rintro i m Hc ⟨rfl, hile, hc, asc, acc, accV, xc, ic, hDn, eD, ra, pc⟩
    have slc : SL (M.g X.K) (wipeI σI own) asc Hc (L2.wipe σ own) := ((sl.mono x1).mono xc).wipe ((K.cool hh).nex hnl) own
    by_cases hlt : i < items.length
    · have hdrop : items.drop i = items[i] :: items.drop (i + 1) := List.drop_eq_getElem_cons hlt
      rw [hdrop] at pc
      simp only [dcI] at pc
      by_cases hs : same g hc
      · rw [if_pos hs] at pc
        obtain ⟨go, yl⟩ := (w1 i hc asc Hc xc ic hs).2 items[i] (by simp [hlt])
        refine .inr ⟨go, fun Hn => items.length - (i + 1) = items.length - (i + 1) ∧ i + 1 ≤ items.length ∧ ∃ hc asc acc accV, Ext as1 H1 asc Hn ∧ HI (M.g X.K) hc asc Hn ∧ Dd ∉ asc ∧ Hn Dd = some (.dK accV) ∧ RepKV keyK (M.g X.K) asc Hn acc accV ∧
          post (M.g X.K) Wx (Rep (M.g X.K)) as H σ ((dcI g turn (items.drop (i + 1)) acc hc).bind dcEnd) Q, fun H' q => ⟨items.length - (i + 1), by omega, q⟩, fun x H' y => ?_⟩
        obtain ⟨as', x', i', rx⟩ := yl x H' y
        have hD' : Dd ∉ as' := fun q => by
          have := x'.fresh Dd q hDn
          rw [eD] at this; cases this
        have eD' := x'.out _ _ eD hD' (fun _ z => (nomatch z))
        have et : turn items[i] hc = ((ofO (bindT tg items[i] hc (wipeI σI own)) hc).bind fun σ1 h => ((evalEs M.W cf M.cx cd σ1 h).bind cdB).bind fun b h => if b then (evalE M.W cf M.cx ke σ1 h).bind fun x h => (evalE M.W cf M.cx el σ1 h).bind fun y h => R.ok (some (x, y)) h else R.ok none h).shut := by rw [← hturn]; rfl
        rw [et] at pc
        cases eb : bindT tg items[i] hc (wipeI σI own) with
        | none => rw [eb] at pc; exact pc.elim
        | some σ1 =>
          rw [eb] at pc
          simp only [ofO_some, R.bind_ok] at pc
          refine ⟨wipeI σI own, hc, as', items[i], σ1, slc.mono x', i', rx, eb, fun σ2 sl2 hout => ⟨wipe_eq (fun j hj => hout j fun q => hj (hown j q)) ?_, ?_⟩⟩
          · rw [← sl2.len, ← slc.len]
            exact bindT_len eb
          cases ec : (evalEs M.W cf M.cx cd σ1 hc).bind cdB with
          | no => rw [ec] at pc; exact pc.elim
          | exc c fs h2 => rw [ec] at pc; exact pc.elim
          | ok b h2 =>
            rw [ec] at pc
            simp only [R.bind_ok] at pc
            refine ⟨σ1, hc, as', sl2, i', ?_⟩
            show post _ _ _ _ _ _ ((evalEs M.W cf M.cx cd σ1 hc).bind cdB) _
            rw [ec]
            rintro b' as2 H2 x2 i2 rfl
            have hD2 : Dd ∉ as2 := fun q => by
              have := x2.fresh Dd q hD'
              rw [eD'] at this; cases this
            have eD2 := x2.out _ _ eD' hD2 (fun _ z => (nomatch z))
            cases b with
            | false =>
              simp only [Bool.false_eq_true, if_false, R.shut_ok, R.bind_ok] at pc ⊢
              exact ⟨trivial, by omega, h2, as2, acc, accV, xc.trans (x'.trans x2), i2, hD2, eD2, (ra.mono x').mono x2, pc⟩
            | true =>
              simp only [if_true] at pc ⊢
              cases ek : evalE M.W cf M.cx ke σ1 h2 with
              | no => rw [ek] at pc; exact pc.elim
              | exc c fs h3 => rw [ek] at pc; exact pc.elim
              | ok d h3 =>
                rw [ek] at pc
                simp only [R.bind_ok] at pc
                refine ⟨σ1, h2, as2, sl2.mono x2, i2, ?_⟩
                show post _ _ _ _ _ _ (evalE M.W cf M.cx ke σ1 h2) _
                rw [ek]
                rintro vk as3 H3 x3 i3 rk
                have hD3 : Dd ∉ as3 := fun q => by
                  have := x3.fresh Dd q hD2
                  rw [eD2] at this; cases this
                have eD3 := x3.out _ _ eD2 hD3 (fun _ z => (nomatch z))
                cases ee : evalE M.W cf M.cx el σ1 h3 with
                | no => rw [ee] at pc; exact pc.elim
                | exc c fs h4 => rw [ee] at pc; exact pc.elim
                | ok dv h4 =>
                  rw [ee] at pc
                  simp only [R.bind_ok, R.shut_ok] at pc
                  split at pc
                  · rename_i hok
                    obtain ⟨hok, hlen⟩ := hok
                    refine ⟨σ1, h3, as3, (sl2.mono x2).mono x3, i3, ?_⟩
                    show post _ _ _ _ _ _ (evalE M.W cf M.cx el σ1 h3) _
                    rw [ee]
                    rintro v as4 H4 x4 i4 rv
                    have hD4 : Dd ∉ as4 := fun q => by
                      have := x4.fresh Dd q hD3
                      rw [eD3] at this; cases this
                    have eD4 := x4.out _ _ eD3 hD4 (fun _ z => (nomatch z))
                    have ra4 := (((ra.mono x').mono x2).mono x3).mono x4
                    have xt := ((xc.trans (x'.trans x2)).trans x3).trans x4
                    simp only [okK, Bool.false_eq_true, if_false, Bool.and_eq_true] at hok
                    obtain ⟨ky, hy⟩ := isK_key hok.1
                    have tt : ∀ (a : Addr) (xs : List V), H4 a = some (.tup xs) → upd H4 Dd (.dK (putK accV ky v)) a = some (.tup xs) := fun a xs e => tup_upd (fun ys q => by rw [eD4] at q; cases q) e
                    refine ⟨accV, ky, Rep.keyK_v hy rk, eD4, by rw [← ra4.length]; exact hlen, trivial, by omega, h4, as4, kvPut acc d dv, putK accV ky v, ?_, ?_, hD4, upd_same, ?_, pc⟩
                    · refine ⟨fun n a e => xt.pre n a e, fun a xs e => tt a xs (xt.tup a xs e), fun a o w e => frz_upd (fun ob w q => by rw [eD4] at q; cases q) (xt.frz a o w e), fun a o e hn nt => ?_, fun a ps e => ?_, xt.fresh⟩
                      · rw [upd_ne (fun q => by subst q; rw [hD] at e; cases e)]
                        exact xt.out a o e hn nt
                      · obtain ⟨more, e'⟩ := xt.tbl a ps e
                        exact ⟨more, by rw [upd_ne (fun q => by rw [q, eD4] at e'; cases e')]; exact e'⟩
                    · refine ⟨⟨fun dd fs eq => ?_, fun c q as0 eq => ?_⟩, tabs_set i4.tb (by rw [eD4]; intro u q; cases q; exact ⟨fun _ z => (nomatch z), fun _ z => (nomatch z)⟩), i4.len, i4.nd, fun n mo a e1 e2 => (i4.ob n mo a e1 e2).mono0 (fun _ _ h => h) tt (upd_ne fun q => hD4 (by subst q; exact List.mem_of_getElem? e2))⟩
                      · obtain ⟨q1, vs', q2, q3⟩ := i4.xd.1 dd fs eq
                        exact ⟨q1, vs', by rw [upd_ne (fun e => by rw [e, eD4] at q2; cases q2)]; exact q2, Paired.mapP q3 fun _ _ z => ⟨z.1, z.2.mono0 (fun _ _ h => h) tt⟩⟩
                      · obtain ⟨⟨q1, q2⟩, q3⟩ := i4.xd.2 c q as0 eq
                        exact ⟨⟨q1, by rw [upd_ne (fun e => by rw [e, eD4] at q2; cases q2)]; exact q2⟩, q3⟩
                    · exact Paired.mapP (RepKV.put (fun a b => eqv_key a b) hy rv ra4) fun _ _ z => ⟨z.1, z.2.mono0 (fun _ _ h => h) tt⟩
                  · exact pc.elim
      · rw [if_neg hs] at pc; exact pc.elim
    · have hie : i = items.length := by omega
      subst hie
      rw [List.drop_length] at pc
      simp only [dcI] at pc
      by_cases hs : same g hc
      · rw [if_pos hs] at pc
        refine .inl ⟨(w1 _ hc asc Hc xc ic hs).1 (Nat.le_refl _), ?_⟩
        simp only [R.bind_ok, dcEnd] at pc
        have fin : ∀ (h' : Hs) (H' : Hp), endG g hc = h' → HI (M.g X.K) h' asc H' → H' Dd = some (.dK accV) → RepKV keyK (M.g X.K) asc H' acc accV → Ext as H asc H' → Q (.ref Dd) H' := by
          intro h' H' e i' eD' ra' x'
          rw [e] at pc
          refine pc _ (asc ++ [Dd]) H' ?_ (i'.addK hDn eD' ra') ?_
          · refine ⟨fun n a e => by rw [List.getElem?_append_left (List.getElem?_eq_some_iff.mp (x'.pre n a e)).1]; exact x'.pre n a e, x'.tup, x'.frz, fun a o e hn nt => x'.out a o e (fun q => hn (List.mem_append_left _ q)) nt, x'.tbl, fun a hm hn => ?_⟩
            rcases List.mem_append.mp hm with hm | hm
            · exact x'.fresh a hm hn
            · rw [List.mem_singleton.mp hm]
              cases e5 : H Dd with
              | none => rfl
              | some o =>
                have q1 : Dd ∉ as1 := i1.fresh hD
                by_cases nt : ∃ ps, o = .tbl ps
                · obtain ⟨ps, rfl⟩ := nt
                  obtain ⟨more, e6⟩ := x1.tbl Dd ps e5
                  rw [e6] at hD; cases hD
                · rw [x1.out Dd o e5 q1 fun ps q => nt ⟨ps, q⟩] at hD; cases hD
          · simp only [Rep]
            exact ⟨Dd, rfl, by rw [← i'.len]; simp⟩
        cases g with
        | none => exact fin _ Hc rfl ic eD ra (x1.trans xc)
        | keep n' mo => exact fin _ Hc rfl ic eD ra (x1.trans xc)
        | keep2 n' mo m2 mo2 => exact fin _ Hc rfl ic eD ra (x1.trans xc)
        | lock n' t kvs =>
          obtain ⟨a, ea, nf0, nf⟩ := gd
          obtain ⟨d, od, u, ed, hf, iu⟩ := ic.unlock hs
          obtain rfl : a = d := by
            have := xc.pre _ _ ea
            rw [ed] at this; exact (Option.some.inj this).symm
          have hDd : Dd ≠ a := fun q => hDn (q ▸ List.mem_of_getElem? ed)
          refine ⟨a, od, u, hf, nf0, fin _ _ rfl iu (by rw [upd_ne hDd]; exact eD) (Paired.mapP ra fun _ _ z => ⟨z.1, z.2.mono0 (fun _ _ h => h) fun b xs e => tup_upd (fun ys q => by rw [hf] at q; cases q) e⟩) ((x1.trans xc).unlock (List.mem_of_getElem? ed) hf nf)⟩
      · rw [if_neg hs] at pc; exact pc.elim
theorem se_dc (K : Cok X M C sc n Wx cf) (hh : C.hot = false) (hnl : C.lam = none) {own : List Nat} {tg : Tg} {k : Ik} {its cd : List E} {ke el : E} {kx vx tg' iter : Expr} {ifs : List Expr} {scope : Scope} {pos : Pos}
    (hb : blkC C.N sc scope (ownP C own) = true) (htg : tgB C scope tg tg' = true) (hown : ∀ i ∈ tgIx tg, i ∈ own) (hpi : PI X tg' iter (tI X M Wx (evalEs M.W cf M.cx its) k)) (hset : isSet iter = false)
    (hcd : ∀ {X' : Cx}, X'.K = X.K → Cok X' M C scope n (fun _ _ _ _ => False) cf → PTs X' ifs (tC (M.g X.K) (fun _ _ _ _ => False) (fun σ h => (evalEs M.W cf M.cx cd σ h).bind cdB)))
    (hke : ∀ {X' : Cx}, X'.K = X.K → Cok X' M C scope n (fun _ _ _ _ => False) cf → PE X' kx (tE (M.g X.K) (fun _ _ _ _ => False) (evalE M.W cf M.cx ke)))
    (hel : ∀ {X' : Cx}, X'.K = X.K → Cok X' M C scope n (fun _ _ _ _ => False) cf → PE X' vx (tE (M.g X.K) (fun _ _ _ _ => False) (evalE M.W cf M.cx el))) :
    PE X (.DictComp kx vx [⟨tg', iter, ifs, 0⟩] scope pos) (tE (M.g X.K) Wx (evalE M.W cf M.cx (.dc own tg k its cd ke el))) := by
  refine ⟨fun pins s σ H Q I h => ?_⟩
  obtain ⟨g, h⟩ := dc_tr K hh hnl hown h
  have hfold : ∀ x, foldedSetIterable iter X.env x = pure x := by
    intro x
    cases iter <;> first | rfl | (simp [isSet] at hset)
  have hvs : (ownP C own).map (·.2) = own := by
    unfold ownP; rw [List.map_map]
    exact (List.map_congr_left fun _ _ => rfl).trans (List.map_id _)
  have rule := pe_dc (pos := pos) (g := gT (M.g X.K) tg) (tt := tC (M.g X.K) (fun _ _ _ _ => False) (fun σ h => (evalEs M.W cf M.cx cd σ h).bind cdB)) (tk := tE (M.g X.K) (fun _ _ _ _ => False) (evalE M.W cf M.cx ke)) (tv := tE (M.g X.K) (fun _ _ _ _ => False) (evalE M.W cf M.cx el)) (K.cool hh).calm K.nd hpi (blk_ok K hb)
    (fun s H Cc cl fp => pg_tg (K.blk hh hnl s H scope Cc cl fp) htg) (fun s H Cc cl fp => hcd rfl (K.blk hh hnl s H scope Cc cl fp)) (fun s H Cc cl fp => hke rfl (K.blk hh hnl s H scope Cc cl fp)) (fun s H Cc cl fp => hel rfl (K.blk hh hnl s H scope Cc cl fp)) hfold
  rw [hvs] at rule
  exact thn (rule.run pins s σ H (unlQ X g Q) I h) fun u s' q => EP.unl q
end
end Rf
end

section
namespace Rf
open PySem PySem.Spec PyProof.Rows L2 PyProof.Rows.G
theorem paired_get {α β : Type} {P : α → β → Prop} : ∀ {as : List α} {bs : List β}, Paired P as bs → ∀ {i : Nat} {a : α} {b : β}, as[i]? = some a → bs[i]? = some b → P a b
  | _, _, .nil, i, a, b, h, _ => by simp at h
  | _, _, .cons p r, 0, a, b, h1, h2 => by simp at h1 h2; subst h1 h2; exact p
  | _, _, .cons p r, i + 1, a, b, h1, h2 => paired_get r (by simpa using h1) (by simpa using h2)
theorem Reps.perm {G : Gx} {as : List Addr} {H : Hp} {vs ws : List V} (p : vs.Perm ws) : ∀ {ds : List D}, Reps G as H ds vs → ∃ es, es.Perm ds ∧ Reps G as H es ws := by
  induction p with
  | nil => exact fun {ds} h => ⟨ds, List.Perm.refl _, h⟩
  | cons v p ih =>
    intro ds h
    cases ds with
    | nil => simp only [Reps] at h; cases h
    | cons d ds =>
      obtain ⟨v', r, e, h1, h2⟩ := h.cons_inv
      cases e
      obtain ⟨es, q, h3⟩ := ih h2
      exact ⟨d :: es, q.cons d, by simp only [Reps]; exact ⟨_, _, rfl, h1, h3⟩⟩
  | swap v w l =>
    intro ds h
    cases ds with
    | nil => simp only [Reps] at h; cases h
    | cons d ds =>
      obtain ⟨v', r, e, h1, h2⟩ := h.cons_inv
      cases e
      cases ds with
      | nil => simp only [Reps] at h2; cases h2
      | cons d2 ds =>
        obtain ⟨w', r, e, h3, h4⟩ := h2.cons_inv
        cases e
        exact ⟨d2 :: d :: ds, List.Perm.swap d d2 ds, by simp only [Reps]; exact ⟨_, _, rfl, h3, _, _, rfl, h1, h4⟩⟩
  | trans p q i1 i2 =>
    intro ds h
    obtain ⟨es, a, h1⟩ := i1 h
    obtain ⟨fs, b, h2⟩ := i2 h1
    exact ⟨fs, b.trans a, h2⟩
theorem tup_items {G : Gx} {as : List Addr} {H : Hp} {f : Nat → Bool} : ∀ {ds : List D} {vs : List V} {us : List Value} (k : Nat), Reps G as H ds vs → Vals vs us → ds.all leafI = true → (∀ j d, ds[j]? = some d → f (k + j) = isStrD d) → tupItems f k us = some (ds.map keyI)
  | [], vs, us, k, hr, hv, _, _ => by
    obtain rfl := hr.nil_inv
    cases hv
    rfl
  | d :: ds, vs, us, k, hr, hv, ha, hf => by
    obtain ⟨v, r, rfl, h1, h2⟩ := hr.cons_inv
    simp only [List.all_cons, Bool.and_eq_true] at ha
    cases hv with
    | cons r1 r2 =>
      have ih := tup_items (f := f) (k + 1) h2 r2 ha.2 fun j d' e => by
        have := hf (j + 1) d' (by simpa using e)
        rw [← this]; congr 1; omega
      have h0 := hf 0 d rfl
      rw [Nat.add_zero] at h0
      cases d with
      | int i =>
        simp only [Rep] at h1; subst h1
        obtain ⟨t, rfl⟩ := r1
        simp only [tupItems, h0, isStrD, ih, Bool.false_eq_true, if_false]
        rfl
      | str z =>
        simp only [Rep] at h1; subst h1
        obtain ⟨t, rfl⟩ := r1
        simp only [tupItems, h0, isStrD, ih, if_true]
        rfl
      | _ => simp [leafI] at ha
/-- a tuple of leaves on the heap -/
def TRep (h : Heap) (f : Nat → Bool) (d : D) (u : Value) : Prop := tupKeyC h f u = some (keyL d) ∧ (∃ x, TupOf h f u x) ∧ ∃ a, u = Value.ref a
def shF (bs : List Bool) : Nat → Bool := fun i => (bs[i]?).getD false
section
variable {X : Cx} {pins : List (Addr × Obj)} {s : Shared} {σ : L2.St} {H : Hp} {G : Gx} {as : List Addr}
theorem trep_one (I : L2.Inv X pins σ H s) {d : D} {v : V} {u : Value} {bs : List Bool} (hr : Rep G as H d v) (hv : RelV v u) (hd : isTL d = true) (hb : shpD d = bs) : TRep s.heap (shF bs) d u := by
  cases d with
  | tup ds =>
    simp only [isTL, Bool.and_eq_true] at hd
    obtain ⟨a, vs, rfl, h1, h2⟩ := hr
    obtain rfl : u = Value.ref a := hv
    obtain ⟨_, its, r2, o, ho, hc, n, hdt⟩ := I.hok _ _ h1
    have hf : ∀ j d, ds[j]? = some d → shF bs (0 + j) = isStrD d := fun j d e => by
      rw [← hb, Nat.zero_add]
      simp [shF, shpD, e]
    have ti := tup_items (f := shF bs) 0 h2 r2 hd.2 hf
    refine ⟨?_, ?_, a, rfl⟩
    · have i1 : isTupObj s.heap (.ref a) = true := by simp [isTupObj, ho, hc]
      simp only [tupKeyC, i1, if_true, tupKey, ho, hdt]
      exact ti
    · cases ds with
      | nil => simp at hd
      | cons d0 dr =>
        obtain ⟨v0, vr, rfl, g1, g2⟩ := h2.cons_inv
        cases r2 with
        | @cons _ u0 _ ur q1 q2 =>
          have s0 := hf 0 d0 rfl
          rw [Nat.add_zero] at s0
          refine ⟨u0, a, o, _, n, rfl, ho, hc, hdt, rfl, ?_, ?_⟩
          · intro e
            rw [s0] at e
            cases d0 with
            | int i => simp only [Rep] at g1; subst g1; obtain ⟨t, rfl⟩ := q1; exact ⟨_, _, rfl⟩
            | str z => simp [isStrD] at e
            | _ => simp [leafI] at hd
          · intro e
            rw [s0] at e
            cases d0 with
            | str z => simp only [Rep] at g1; subst g1; obtain ⟨t, rfl⟩ := q1; exact ⟨_, _, rfl⟩
            | int i => simp [isStrD] at e
            | _ => simp [leafI] at hd
  | _ => simp [isTL] at hd
theorem trep_all (I : L2.Inv X pins σ H s) {bs : List Bool} : ∀ {ds : List D} {vs : List V} {us : List Value}, Reps G as H ds vs → Vals vs us → (∀ d ∈ ds, isTL d = true ∧ shpD d = bs) → Paired (TRep s.heap (shF bs)) ds us
  | [], vs, us, hr, hv, _ => by
    obtain rfl := hr.nil_inv
    cases hv
    exact .nil
  | d :: ds, vs, us, hr, hv, ha => by
    obtain ⟨v, r, rfl, h1, h2⟩ := hr.cons_inv
    cases hv with
    | cons r1 r2 => exact .cons (trep_one I h1 r1 (ha d (by simp)).1 (ha d (by simp)).2) (trep_all I h2 r2 fun x hx => ha x (by simp [hx]))
theorem tups_of {h : Heap} {f : Nat → Bool} : ∀ {ds : List D} {us : List Value}, Paired (TRep h f) ds us → ∃ fs, TupsOf h f us fs
  | _, _, .nil => ⟨[], .nil⟩
  | _, _, .cons p r => by
    obtain ⟨fs, q⟩ := tups_of r
    obtain ⟨x, hx⟩ := p.2.1
    exact ⟨x :: fs, .cons hx q⟩
theorem keys_of {h : Heap} {f : Nat → Bool} : ∀ {ds : List D} {us : List Value}, Paired (TRep h f) ds us → ∀ v ∈ us, ∃ l, tupKeyC h f v = some l
  | _, _, .nil, v, hv => by simp at hv
  | _, _, .cons p r, v, hv => by
    rcases List.mem_cons.mp hv with rfl | hv
    · exact ⟨_, p.1⟩
    · exact keys_of r v hv
theorem refs_of {h : Heap} {f : Nat → Bool} : ∀ {ds : List D} {us : List Value}, Paired (TRep h f) ds us → ∀ v ∈ us, ∃ a, v = Value.ref a
  | _, _, .nil, v, hv => by simp at hv
  | _, _, .cons p r, v, hv => by
    rcases List.mem_cons.mp hv with rfl | hv
    · exact p.2.2
    · exact refs_of r v hv
theorem srt_of {h : Heap} {f : Nat → Bool} {es : List D} {arr : Array Keyed} {out : List Value} (P2 : Paired (TRep h f) es out) (ho : arr.toList.map (·.2) = out) (hp : ∀ p ∈ arr.toList, p.1 = p.2) {n : Nat} (hn : n = arr.size) (hs : SortedToK (tupKindC h f) arr n) : SrD es := by
  have ln : es.length = arr.size := by rw [P2.length, ← ho]; simp
  have key : ∀ i (hi : i < es.length), KK (tupKindC h f) arr i = keyL es[i] := by
    intro i hi
    have hi2 : i < arr.size := by omega
    have e0 : out[i]? = some arr[i].2 := by
      rw [← ho, List.getElem?_map]
      simp [hi2]
    have t := paired_get P2 (show es[i]? = some es[i] by simp [hi]) e0
    have e1 : arr[i].1 = arr[i].2 := hp _ (by simp)
    unfold KK
    rw [getElem?_pos arr i hi2]
    simp only
    rw [e1, t.1]
    rfl
  refine List.pairwise_iff_getElem.mpr fun i j hi hj hij => ?_
  have := hs i j (Nat.le_of_lt hij) (by omega)
  rw [key i hi, key j hj] at this
  exact this
end
section
variable {M : Mx} {Wx : WX} {X : Cx}
theorem srt_lst {pins : List (Addr × Obj)} {s : Shared} {σ σ' : L2.St} {H : Hp} {as : List Addr} {h : Hs} {Q : VK} (I : L2.Inv X pins σ H s) (hi : HI (M.g X.K) h as H) {n : Nat} {a : Addr} {ds : List D} {us : List Value} (r : Vals [V.ref a] us) (ea : as[n]? = some a) (e1 : h[n]? = some (.lst ds)) (ok : srtOk ds = true)
    (p : post (M.g X.K) Wx (Rep (M.g X.K)) as H σ' (.ok (.ob h.length) (h ++ [.lst (srtD ds)])) Q) : wpAny (model X.prog X.w) X.A (call (.builtin "sorted") us) (EP X pins σ Q) X.xe s := by
  obtain ⟨vs, g1, g2⟩ := hi.ob n _ a e1 ea
  obtain ⟨its, rv, hl, hz⟩ := I.list (SqL.of g1)
  obtain ⟨u, rfl, ru⟩ := vals1 r
  obtain rfl : u = Value.ref a := ru
  obtain ⟨bs, hb⟩ : ∃ bs, ∀ d ∈ ds, isTL d = true ∧ shpD d = bs := by
    simp only [srtOk, Bool.and_eq_true] at ok
    obtain ⟨o1, o2⟩ := ok
    cases ds with
    | nil => exact ⟨[], fun d hd => by simp at hd⟩
    | cons d0 dr =>
      simp only at o2
      exact ⟨shpD d0, fun d hd => ⟨List.all_eq_true.mp o1 d hd, by simpa using List.all_eq_true.mp o2 d hd⟩⟩
  have P1 := trep_all I g2 rv hb
  obtain ⟨fs, tf⟩ := tups_of P1
  have lz : its.length ≤ sizeLine := by rw [← rv.length]; exact hz
  refine sorted_tups (shape := shF bs) (vs := its) (fs := fs) hl.isList tf (keys_of P1) lz fun st' hp hs _ => ?_
  have hpl : (arrOf st').toList.Perm (its.zip its) := by have := hp.toList; rwa [pairsOf_toList] at this
  obtain ⟨out, eo⟩ : ∃ out, out = (arrOf st').toList.map (·.2) := ⟨_, rfl⟩
  have po : out.Perm its := by
    have := hpl.map (fun q : Value × Value => q.2)
    rw [← eo] at this
    rwa [List.map_snd_zip (Nat.le_refl _)] at this
  have p12 : ∀ q ∈ (arrOf st').toList, q.1 = q.2 := fun q hq => (mem_zip_self (hpl.mem_iff.mp hq)).1
  have rf : ∀ v ∈ its, ∃ a, v = Value.ref a := refs_of P1
  have rfo : ∀ v ∈ out, ∃ a, v = Value.ref a := fun v hv => rf v (po.mem_iff.mp hv)
  have bk : vs = its.map backV := by
    refine (refs_back rv fun x hx => ?_).1
    obtain ⟨i, hi2, rfl⟩ := List.mem_iff_getElem.mp hx
    have hil : i < its.length := by rw [← rv.length]; exact hi2
    have := paired_get rv (i := i) (by simp [hi2] : vs[i]? = some vs[i]) (by simp [hil] : its[i]? = some its[i])
    obtain ⟨b, hbb⟩ := rf its[i] (by simp)
    rw [hbb] at this
    cases hv : vs[i] with
    | ref c => exact ⟨c, rfl⟩
    | _ => rw [hv] at this; first | (cases this; done) | (obtain ⟨_, q⟩ := this; cases q)
  have pv : vs.Perm (out.map backV) := by rw [bk]; exact (po.map backV).symm
  obtain ⟨es, pe, re⟩ := Reps.perm pv g2
  have vo := vals_back rfo
  have P2 := trep_all I re vo (fun d hd => hb d (pe.mem_iff.mp hd))
  have se : SrD es := srt_of P2 eo.symm p12 (by rw [pairsOf_size, ← po.length_eq, eo, List.length_map, Array.length_toList]) hs
  have ee : es = srtD ds := srt_uniq (List.all_eq_true.mpr fun d hd => (hb d (pe.mem_iff.mp hd)).1) se (srtD_srt ds) (pe.trans (srtD_perm ds).symm)
  subst ee
  obtain ⟨q, eq⟩ : ∃ q, q = s.heap.objs.size + 1 := ⟨_, rfl⟩
  have hlt : s.heap.objs.size ≤ q := by omega
  have hq : H q = none := I.hok.fresh hlt
  have eA : Array.map (fun x => x.snd) (arrOf st') = out.toArray := by
    apply Array.ext'
    rw [Array.toList_map, eo]
  rw [eA]
  obtain ⟨k, hk⟩ := sortedAll_at s.heap its out.toArray
  refine ⟨.ref q, upd H q (.lst (out.map backV)), I.laid (t' := s.toks) (fun b o e => sortedAll_old e) hlt ⟨?_, out, k, vo, by rw [eq]; exact hk⟩, by rw [eq]; rfl, ?_⟩
  · rw [List.length_map, po.length_eq]; exact lz
  · refine p _ (as ++ [q]) _ (ext_new hq) (hi.new hq ⟨_, upd_same, re.mono (ext_new hq)⟩) ?_
    simp only [Rep]
    exact ⟨q, rfl, by rw [← hi.len]; simp⟩
end
end Rf
end

section
namespace Rf
open PySem PySem.Spec PyProof.Rows L2 PyProof.Rows.G
theorem kdl_raw {prog : Program} {w : World} {d : Addr} {es : Array DictEntry} {ep : Nat} (lo : (d == sysModules) = false) : PySem.W.KdlSrc prog w "dict" d d es.size (fun i v => ∃ hi : i < es.size, v = es[i].key) (fun h => h.DictRaw d es ep) where
  type := fun _ hm => hm.typeIs
  there := fun _ hm => let ⟨_, ho, _⟩ := hm; ⟨Heap.lt_size ho, Heap.lt_size ho⟩
  keep := fun _ _ hm hk => hm.at fun o e => hk d (.inl rfl) o e
  notList := by decide
  notTuple := by decide
  hint := fun _ _ _ _ hm hq => PySem.W.kdl_hint_dict hm.typeIs hq
  iter := fun _ s hh hm => ⟨_, _, (fun _ _ hq => wpAny_pyIter_dict_raw lo hm hq), Walks.rawKeys hh _ d (let ⟨_, ho, _⟩ := hm; Nat.ne_of_lt (Heap.lt_size ho)) es ep, ⟨⟨_, Heap.get?_push_size _ rfl, rfl, rfl⟩, hm.at fun o e => Heap.get?_push_of_some _ e⟩⟩
theorem keys_reps {X : Cx} {M : Mx} {as : List Addr} {H : Hp} : ∀ {kvs : List (D × D)} {kv : List (List Key × V)} {xs : List (List Key × Addr × Value)}, RepKV keyT (M.g X.K) as H kvs kv → Paired (fun (p : List Key × V) (q : List Key × Addr × Value) => p.1 = q.1 ∧ H q.2.1 = some (.tup (p.1.map kV)) ∧ RelV p.2 q.2.2) kv xs → Reps (M.g X.K) as H (kvs.map (·.1)) (xs.map fun q => V.ref q.2.1)
  | _, _, _, .nil, .nil => by simp [Reps]
  | (a, b) :: kvs, (k, v) :: kv, x :: xs, .cons h t, .cons h2 t2 => by
    simp only [List.map_cons, Reps]
    exact ⟨_, _, rfl, keyT_rep h.1 h2.2.1, keys_reps t t2⟩
theorem vals_adr : ∀ xs : List (List Key × Addr × Value), Vals (xs.map fun q => V.ref q.2.1) (xs.map fun q => Value.ref q.2.1)
  | [] => .nil
  | _ :: xs => .cons rfl (vals_adr xs)
section
variable {M : Mx} {Wx : WX} {X : Cx} {pins : List (Addr × Obj)} {s : Shared} {σ σ' : L2.St} {H : Hp} {as : List Addr} {h : Hs} {Q : VK}
/-- sorted(d) of a dict with tuple keys -/
theorem srt_dT (hc : X.calm = true) (I : L2.Inv X pins σ H s) (hi : HI (M.g X.K) h as H) {n : Nat} {a : Addr} {lk : Bool} {kvs : List (D × D)} (ea : as[n]? = some a) (e1 : h[n]? = some (.dic lk true kvs)) (ok : srtOk (kvs.map (·.1)) = true)
    (p : post (M.g X.K) Wx (Rep (M.g X.K)) as H σ' (.ok (.ob h.length) (h ++ [.lst (srtD (kvs.map (·.1)))])) Q) : wpAny (model X.prog X.w) X.A (call (.builtin "sorted") [.ref a]) (EP X pins σ Q) X.xe s := by
  obtain ⟨kv, g1, g2⟩ := hi.ob n _ a e1 ea
  have dt : ObjOk X.prog X.w H s.heap a (.dT kv) := by
    unfold lkd at g1
    split at g1
    · obtain ⟨od, q⟩ := g1
      exact (I.hok a _ q).2
    · exact I.hok a _ g1
  obtain ⟨hz, lo, xs, pxs, o, es, ep, ho, hx, hd, hes, hn⟩ := dt
  have raw : s.heap.DictRaw a es ep := ⟨o, ho, hx, hd⟩
  have lx : es.size = xs.length := by rw [← Array.length_toList, hes, List.length_map]
  have lk2 : kv.length = xs.length := Paired.length pxs
  have lz : xs.length ≤ sizeLine := by omega
  obtain ⟨its, eits⟩ : ∃ its, its = xs.map fun q => Value.ref q.2.1 := ⟨_, rfl⟩
  obtain ⟨vs, evs⟩ : ∃ vs, vs = xs.map fun q => V.ref q.2.1 := ⟨_, rfl⟩
  have rv : Vals vs its := by rw [evs, eits]; exact vals_adr xs
  have gR : Reps (M.g X.K) as H (kvs.map (·.1)) vs := by rw [evs]; exact keys_reps g2 pxs
  have li : its.length = xs.length := by rw [eits, List.length_map]
  obtain ⟨ds, eds⟩ : ∃ ds, ds = kvs.map (·.1) := ⟨_, rfl⟩
  rw [← eds] at ok p gR
  refine Calls.call_function_entry PyProof.Rows.kind_sorted PyProof.Rows.plain_sorted PyProof.Rows.entry_sorted (PyProof.Rows.args_sorted1 _) ?_
  unfold Builtin.«sorted»
  refine wpAny_bind (m := checkCount "sorted" 1 1 _) (wpAny_pure ?_)
  refine wpAny_bind (PySem.W.kdu_collect (A := X.A.in1) (kdl_raw (prog := X.prog) (w := X.w) (ep := ep) lo) (I.ok.hd hc) raw (by rw [lx]; exact lz) fun h' tk acc hk hacc => ?_)
  have ea2 : acc.toList = its := by
    apply List.ext_getElem?
    intro i
    by_cases hi2 : i < es.size
    · have ha : acc[i]? = some acc[i]! := by
        have : i < acc.size := by rw [hacc.1]; exact hi2
        simp [this]
      obtain ⟨_, ev⟩ := hacc.2 i _ ha
      rw [Array.getElem?_toList, ha, ev, eits, List.getElem?_map]
      have hx2 : i < xs.length := by omega
      rw [List.getElem?_eq_getElem hx2, Option.map_some]
      have : es.toList[i]? = some (entryOfKey (tupleKind (mixKind X.prog X.w)) xs[i]) := by rw [hes, List.getElem?_map, List.getElem?_eq_getElem hx2]; rfl
      rw [Array.getElem?_toList, Array.getElem?_eq_getElem hi2] at this
      rw [Option.some.inj this]
      rfl
    · rw [List.getElem?_eq_none (by rw [Array.length_toList, hacc.1]; omega), List.getElem?_eq_none (by omega)]
  rw [ea2]
  have hl16 : its.length ≤ sizeLine := by rw [li]; exact lz
  refine wpAny_bind (wpAny_newList ?_ hl16)
  have hoL : (h'.push (seqObj "list" its.toArray 0)).get? h'.objs.size = some (seqObj "list" its.toArray 0) := Heap.get?_push_size _ rfl
  have hk2 : ∀ b o, s.heap.get? b = some o → (h'.push (seqObj "list" its.toArray 0)).get? b = some o := fun b o e => Heap.get?_push_of_some _ (hk b o e)
  show wpAny _ _ _ _ _ { s with heap := h'.push (seqObj "list" its.toArray 0), toks := tk }
  have I1 : Inv X pins σ H { s with heap := h', toks := tk } := I.kept hk
  have I2 : Inv X pins σ H { s with heap := h'.push (seqObj "list" its.toArray 0), toks := tk } := I.kept hk2
  obtain ⟨bs, hb⟩ : ∃ bs, ∀ d ∈ ds, isTL d = true ∧ shpD d = bs := by
    simp only [srtOk, Bool.and_eq_true] at ok
    obtain ⟨o1, o2⟩ := ok
    cases ds with
    | nil => exact ⟨[], fun d hd => by simp at hd⟩
    | cons d0 dr =>
      simp only at o2
      exact ⟨shpD d0, fun d hd => ⟨List.all_eq_true.mp o1 d hd, by simpa using List.all_eq_true.mp o2 d hd⟩⟩
  have P1 := trep_all I2 gR rv hb
  obtain ⟨fs, tf⟩ := tups_of P1
  refine wpAny_bind (wpAny_holding (wpAny_call_entry PyProof.Rows.slot_list_sort ⟨_, hoL, rfl⟩ PyProof.Rows.entry_list_sort
    (list_sort_tups (s := { s with heap := h'.push (seqObj "list" its.toArray 0), toks := tk }) hoL tf (keys_of P1) hl16 fun st' hp hs _ => ⟨_, rfl, ?_⟩)
    (PyProof.Rows.args_list_sort _)))
  have hpl : (arrOf st').toList.Perm (its.zip its) := by have := hp.toList; rwa [pairsOf_toList] at this
  obtain ⟨out, eo⟩ : ∃ out, out = (arrOf st').toList.map (·.2) := ⟨_, rfl⟩
  have po : out.Perm its := by
    have := hpl.map (fun q : Value × Value => q.2)
    rw [← eo] at this
    rwa [List.map_snd_zip (Nat.le_refl _)] at this
  have p12 : ∀ q ∈ (arrOf st').toList, q.1 = q.2 := fun q hq => (mem_zip_self (hpl.mem_iff.mp hq)).1
  have rf : ∀ v ∈ its, ∃ a, v = Value.ref a := refs_of P1
  have rfo : ∀ v ∈ out, ∃ a, v = Value.ref a := fun v hv => rf v (po.mem_iff.mp hv)
  have bk : vs = its.map backV := by
    refine (refs_back rv fun x hx => ?_).1
    rw [evs] at hx
    obtain ⟨q, _, rfl⟩ := List.mem_map.mp hx
    exact ⟨_, rfl⟩
  have pv : vs.Perm (out.map backV) := by rw [bk]; exact (po.map backV).symm
  obtain ⟨es2, pe, re⟩ := Reps.perm pv gR
  have vo := vals_back rfo
  have P2 := trep_all I2 re vo (fun d hd => hb d (pe.mem_iff.mp hd))
  have se : SrD es2 := srt_of P2 eo.symm p12 (by rw [pairsOf_size, ← po.length_eq, eo, List.length_map, Array.length_toList]) hs
  have ee : es2 = srtD ds := srt_uniq (List.all_eq_true.mpr fun d hd => (hb d (pe.mem_iff.mp hd)).1) se (srtD_srt ds) (pe.trans (srtD_perm ds).symm)
  subst ee
  have hq : H h'.objs.size = none := I1.hok.fresh (Nat.le_refl _)
  have eA : Array.map (fun x => x.snd) (arrOf st') = out.toArray := by
    apply Array.ext'
    rw [Array.toList_map, eo]
  rw [eA]
  obtain ⟨e', he'⟩ := PyProof.Rows.sortedHeap_at (vs := its) (out := out.toArray) hoL
  refine wpAny_pure ⟨_, rfl, .ref h'.objs.size, upd H h'.objs.size (.lst (out.map backV)), I1.laid (t' := tk) (fun b u e => ?_) (Nat.le_refl _) (show ObjOk X.prog X.w _ _ _ (.lst (out.map backV)) from ⟨?_, out, e', vo, he'⟩), rfl, ?_⟩
  · have hb2 : b < h'.objs.size := Heap.lt_size e
    rw [PyProof.Rows.sortedHeap_old (Nat.ne_of_lt hb2) (by rw [size_push']; exact Nat.lt_succ_of_lt hb2)]
    exact Heap.get?_push_of_some _ e
  · rw [List.length_map, po.length_eq]; exact hl16
  · refine p _ (as ++ [h'.objs.size]) _ (ext_new hq) (hi.new hq ⟨_, upd_same, re.mono (ext_new hq)⟩) ?_
    simp only [Rep]
    exact ⟨h'.objs.size, rfl, by rw [← hi.len]; simp⟩
def rSrt (M : Mx) (K : PySem.W.Frag) (Wx : WX) (σ : L2.St) : List V → Hp → VK → Prop := fun xs H Q => ∃ ds h as, HI (M.g K) h as H ∧ Reps (M.g K) as H ds xs ∧ post (M.g K) Wx (Rep (M.g K)) as H σ (bltC M.W .sorted ds h) Q
theorem cr_srt (hc : X.calm = true) (σ' : L2.St) : CallR X (.builtin "sorted") (rSrt M X.K Wx σ') := by
  intro pins s σ H xs us Q I r hh
  obtain ⟨ds0, h, as, hi, rs, p⟩ := hh
  match ds0 with
  | [] => exact p.elim
  | d0 :: _ :: _ => cases d0 <;> exact p.elim
  | [d0] =>
    cases d0 with
    | ob n =>
      have q : bltC M.W .sorted [.ob n] h = match h[n]? with | some (.lst s) => if srtOk s then .ok (.ob h.length) (h ++ [.lst (srtD s)]) else .no | some (.dic _ true kvs) => if srtOk (kvs.map (·.1)) then .ok (.ob h.length) (h ++ [.lst (srtD (kvs.map (·.1)))]) else .no | _ => .no := rfl
      rw [q] at p
      obtain ⟨v, _, rfl, r1, rn⟩ := rs.cons_inv
      obtain rfl := rn.nil_inv
      simp only [Rep] at r1
      obtain ⟨a, rfl, ea⟩ := r1
      split at p
      · rename_i s0 e1
        split at p
        · rename_i ok
          exact srt_lst I hi r ea e1 ok p
        · exact p.elim
      · rename_i lk kvs e1
        split at p
        · rename_i ok
          obtain ⟨u, rfl, ru⟩ := vals1 r
          obtain rfl : u = Value.ref a := ru
          exact srt_dT hc I hi ea e1 ok p
        · exact p.elim
      · exact p.elim
    | _ => exact p.elim
end
end Rf
end

section
set_option maxHeartbeats 1000000
namespace RV
open PySem PySem.Spec PyProof.Rows L2 RT
section
variable {prog : Program} {w : World} {A : Around} {E : Value → Shared → Prop} {s : Shared} {R : Result → Shared → Prop}
theorem extend_rev {it l S : Addr} {items : Array Value} {res : Value} {c₀ : Nat} (hh : A.handled = none) (hit : s.heap.IsRevIter it l ((items.size : Int) - 1)) (hl : s.heap.IsList l items) (hne : l ≠ it) (hSi : S ≠ it) (hSl : S ≠ l) (hn : items.size ≤ sizeLine)
    (hS : s.heap.get? S = some { cls := .type "list", data := .seq #[] c₀ })
    (hR : ∀ s' acc' c', Moved (S :: [it]) (fun a b => b = a) s s' → s'.heap.get? S = some { cls := .type "list", dict := none, data := .seq acc' c', slots := #[] } → ItemsOf (fun i v => items[items.size - 1 - i]? = some v) acc' items.size → R (.ok (.ret res)) s') :
    wpAny (model prog w) A.in1 (Builtin.List.listExtendWith (.ref S) (.ref it) res)
      (fun fin s' => match fin with | .done f => R (.ok f) s' | .again c' => c'.quiet = true ∧ codeAny (model prog w) A c' R s') (fun e s' => R (.error e) s') s := by
  have hh1 : A.in1.handled = none := hh
  have W := (Walks.listRev (prog := prog) (w := w) (A := A.in1) hh1 it l hne items).toS
  have hSf : S ∉ [it, l] := by simp only [List.mem_cons, List.not_mem_nil, or_false, not_or]; exact ⟨hSi, hSl⟩
  have hT : s.TypeIs (.ref it) "list_reverseiterator" := hit.typeIs
  have h1 : Builtin.List.listSameRef (.ref S) (.ref it) = false := by simp [Builtin.List.listSameRef, hSi]
  unfold Builtin.List.listExtendWith
  refine wpAny_bind (wpAny_typeOf hT ?_)
  rw [if_neg (by rw [h1]; decide)]
  refine wpAny_bind (wpAny_pyIter_revIter hit ?_)
  refine wpAny_bind (wpAny_holding ?_)
  unfold Builtin.List.listLengthHint
  refine wpAny_bind (wpAny_specialOf hT nolen_lri ?_)
  show wpAny _ A.in1 (specialOf (Value.ref it) (Str.ofString "__length_hint__") >>= _) _ _ _
  refine wpAny_bind (wpAny_specialOf hT hint_lri ?_)
  generalize hid : ("list_reverseiterator.__length_hint__" : String) = id0
  wp_delta
  rw [show splitId id0 = some ("list_reverseiterator", "__length_hint__") from by subst hid; decide +kernel]
  subst hid
  refine wpAny_bind (wpAny_isInstance (b := true) hT (by rw [isSubtype_type]; kernel_rfl) ?_)
  refine wpAny_pure ?_
  rw [if_neg (by decide)]
  have e0 : ((items.size : Nat) : Int) - 1 - ((0 : Nat) : Int) = (items.size : Int) - 1 := by omega
  refine wpAny_pure ⟨plainId_quiet F.plain_extend_loop _, codeAny_extend_loopS W hn _ hSf _ items.size 0 _ _ _ rfl (Nat.zero_le _) ⟨Nat.zero_le _, by rw [e0]; exact hit, hl⟩ hS (ItemsOf.nil _) fun s' acc' c' hm hS' hacc => ?_⟩
  exact hR s' acc' c' hm hS' hacc
theorem call_list_rev {it l : Addr} {items : Array Value} {Q : Value → Shared → Prop} (hh : A.handled = none) (hit : s.heap.IsRevIter it l ((items.size : Int) - 1)) (hl : s.heap.IsList l items) (hne : l ≠ it) (hn : items.size ≤ sizeLine)
    (hQ : ∀ (h' : Heap) (tk : Nat) (acc : Array Value) (c : Nat), (∀ b o, b ≠ it → s.heap.get? b = some o → h'.get? b = some o) → h'.get? s.heap.objs.size = some { cls := .type "list", dict := none, data := .seq acc c, slots := #[] } → ItemsOf (fun i v => items[items.size - 1 - i]? = some v) acc items.size →
      Q (.ref s.heap.objs.size) { s with heap := h', toks := tk }) :
    wpAny (model prog w) A (call (.type "list") [.ref it]) Q E s := by
  obtain ⟨oi, hoi, _⟩ := id hit
  obtain ⟨ol, hol, _⟩ := id hl
  have hSi : s.heap.objs.size ≠ it := Nat.ne_of_gt (Heap.lt_size hoi)
  have hSl : s.heap.objs.size ≠ l := Nat.ne_of_gt (Heap.lt_size hol)
  refine callType_codes (Q₁ := fun obj s₁ => obj = .ref s.heap.objs.size ∧ s₁ = { s with heap := s.heap.push { cls := .type "list", data := .seq #[] } }) F.called_list (F.typeCall_list_1 _) F.entry_list_init
    (code_list_new _ ⟨rfl, rfl⟩) fun obj s₁ h₁ => ?_
  obtain ⟨rfl, rfl⟩ := h₁
  have hS : (s.heap.push { cls := .type "list", data := .seq #[] }).get? s.heap.objs.size = some { cls := .type "list", data := .seq #[] } := Heap.get?_push_size _ rfl
  refine ⟨⟨_, hS, rfl⟩, F.args_list_init_2 _ _, ?_⟩
  show wpAny _ A.in1.in1 (do let old ← Builtin.List.listItems (.ref s.heap.objs.size); Builtin.List.listUpdate (.ref s.heap.objs.size) (fun _ => #[]); letGo old.toList.reverse; Builtin.List.listExtendWith (.ref s.heap.objs.size) (.ref it) .none) _ _ _
  refine wpAny_bind ?_
  unfold Builtin.List.listItems
  refine wpAny_bind (wpAny_seqItems hS rfl (wpAny_pure ?_))
  show wpAny _ A.in1.in1 (updateSeq s.heap.objs.size (fun _ => #[]) >>= fun _ => letGo (#[] : Array Value).toList.reverse >>= fun _ => Builtin.List.listExtendWith (.ref s.heap.objs.size) (.ref it) .none) _ _ _
  refine wpAny_bind (wpAny_updateSeq hS rfl ?_)
  have hS₂ := Heap.get?_update_self (Obj.mapSeq (fun _ => (#[] : Array Value))) hS rfl
  have oth : ∀ b o, b ≠ s.heap.objs.size → s.heap.get? b = some o → ((s.heap.push { cls := .type "list", data := .seq #[] }).update s.heap.objs.size (Obj.mapSeq (fun _ => (#[] : Array Value)))).get? b = some o :=
    fun b o hb e => (Heap.get?_update_other _ _ (Ne.symm hb)).trans (Heap.get?_push_of_some _ e)
  refine wpAny_bind (wpAny_letGo ?_)
  refine extend_rev (A := A.in1) hh (hit.at fun o e => oth it o (fun h => hSi h.symm) e) (hl.at fun o e => oth l o (fun h => hSl h.symm) e) hne hSi hSl hn hS₂ fun s' acc' c' hm hS' hacc => ?_
  have em := Moved.eq_with hm
  refine ⟨rfl, ?_⟩
  rw [em]
  exact hQ s'.heap s'.toks acc' c' (fun b o hb e => hm.heap b o (fun hmem => by
    rcases List.mem_cons.mp hmem with e' | hmem
    · exact absurd (Heap.lt_size e) (by rw [e']; exact Nat.lt_irrefl _)
    · exact hb (List.mem_singleton.mp hmem)) (oth b o (fun h => absurd (Heap.lt_size e) (by rw [h]; exact Nat.lt_irrefl _)) e)) hS' hacc
end
/-- list(reversed(x)), x a list: a new list -/
def tListRev (K : PySem.W.Frag) (te : TE) : TE := fun σ H Q => te σ H fun v H1 => ∃ (a : Addr) (xs : List V), v = .ref a ∧ SqL K H1 a xs ∧ ∀ q, H1 q = none → Q (.ref q) (upd H1 q (.lst xs.reverse))
section
variable {X : Cx}
theorem pe_listRev {e : Expr} {te : TE} {p p2 pos pos2 : Pos} (hc : X.calm = true) (hg : Gl X "list") (hm : X.mg "list" = none) (hv : bootBuiltins "list" = some (.type "list")) (hg2 : Gl X "reversed") (hm2 : X.mg "reversed" = none) (he : PE X e te)
    (hs : starEach [e] X.env = (false, eval e X.env) :: starEach [] X.env := by rfl)
    (hs2 : starEach [.Call (.Name "reversed" p2) [e] [] pos2] X.env = (false, eval (.Call (.Name "reversed" p2) [e] [] pos2) X.env) :: starEach [] X.env := by rfl) :
    PE X (.Call (.Name "list" p) [.Call (.Name "reversed" p2) [e] [] pos2] [] pos) (tListRev X.K te) := by
  refine ⟨fun pins s σ H Q I h => ?_⟩
  refine Call_ (ld_blt I hg hm hv (PyProof.Rows.callWith_type1 (args_cons (Call_ (ld_blt I hg2 hm2 PyProof.Rows.boot_reversed (PyProof.Rows.callWith_type1 (args_cons (thn (he.run pins s σ H _ I h) fun u s1 ⟨v, H1, I1, r1, q1⟩ => args_nil ?_) hs) hs rfl))) hs2) hs2 rfl))
  obtain ⟨a, xs, ev, hq, q⟩ := q1
  subst ev
  obtain rfl : u = Value.ref a := r1
  obtain ⟨its, rv, p', hz⟩ := I1.list hq
  refine call_reversed_list p'.isList (args_nil ?_)
  have k0 : ∀ b o, s1.heap.get? b = some o → (s1.heap.push (revObj a ((its.toArray.size : Int) - 1))).get? b = some o := fun b o e => Heap.get?_push_of_some _ e
  have I2 : Inv X pins σ H1 { s1 with heap := s1.heap.push (revObj a ((its.toArray.size : Int) - 1)) } := I1.kept (t' := s1.toks) k0
  obtain ⟨f0, f1, f2, f3, f4, f5⟩ := I1.fpOk (H' := H1) (b := s1.heap.objs.size) (Nat.le_refl _) (I1.hok.fresh (Nat.le_refl _))
  have hl := p'.isList
  obtain ⟨ol, hol, _⟩ := id hl
  have hne : a ≠ s1.heap.objs.size := Nat.ne_of_lt (Heap.lt_size hol)
  have hn : its.toArray.size ≤ sizeLine := by rw [List.size_toArray, ← rv.length]; exact hz
  refine call_list_rev (s := { s1 with heap := s1.heap.push (revObj a ((its.toArray.size : Int) - 1)) }) (I1.ok.hd hc) ⟨_, Heap.get?_push_size _ rfl, rfl, rfl⟩ (hl.push _) hne hn fun h' tk acc c hk hS hi => ?_
  have hv := vals_rev rv hi
  refine ⟨.ref _, upd H1 _ (.lst xs.reverse), I2.turnedNew (t' := tk) (ch := [s1.heap.objs.size]) (fun b o hb e => hk b o (fun z => hb (by simp [z])) e) (fun b hb => ?_) (Nat.le_refl _) (show ObjOk X.prog X.w _ h' _ (.lst xs.reverse) from ⟨by rw [List.length_reverse]; exact hz, acc.toList, c, hv, ?_⟩), rfl, q _ (I2.hok.fresh (Nat.le_refl _))⟩
  · rw [List.mem_singleton.mp hb]
    exact I1.fpOk (Nat.le_refl _) (I1.hok.fresh (Nat.le_refl _))
  · rw [Array.toArray_toList]
    exact hS
end
end RV
end

section
set_option maxHeartbeats 1000000
namespace LiV
open PySem PySem.Spec PyProof.Rows L2
theorem kv_vals : ∀ {kvs : List (Key × V)} {vs : List (Key × Value)}, KV kvs vs → Vals (kvs.map (·.2)) (vs.map (·.2))
  | [], [], .nil => .nil
  | _ :: _, _ :: _, .cons h t => .cons h.2 (kv_vals t)
def rValsL : V → Hp → VK → Prop := fun x H Q => ∃ (d : Addr) (kvs : List (Key × V)), x = .ref d ∧ H d = some (.dK kvs) ∧ ∀ q, H q = none → Q (.ref q) (upd H q (.lst (kvs.map (·.2))))
def tListVals (te : TE) : TE := fun σ H Q => te σ H fun x H1 => rValsL x H1 Q
section
variable {X : Cx} {e : Expr} {te : TE} {p apos cpos pos : Pos}
/-- list(e.values()) -/
theorem pe_listVals (hc : X.calm = true) (he : PE X e te) (hg : Gl X "list") (hm : X.mg "list" = none) (hv : bootBuiltins "list" = some (.type "list")) (hbase : attributeBase e "values" X.env (eval e X.env) = eval e X.env := by rfl) (hline : (apos.endLine == cpos.line) = true := by rfl)
    (hs : starEach [.Call (.Attribute e "values" apos) [] [] cpos] X.env = (false, eval (.Call (.Attribute e "values" apos) [] [] cpos) X.env) :: starEach [] X.env := by rfl) :
    PE X (.Call (.Name "list" p) [.Call (.Attribute e "values" apos) [] [] cpos] [] pos) (tListVals te) := by
  refine ⟨fun pins s σ H Q I hq => ?_⟩
  refine wpAny_Call_Name_kw (ld_blt I hg hm hv ?_)
  refine PyProof.Rows.callWith_type1 ?_ hs rfl
  rw [hs]
  show wpAny _ _ (spliced ((false, eval (.Call (.Attribute e "values" apos) [] [] cpos) X.env) :: backTo pos (starEach [] X.env))) _ _ s
  refine Calls.spliced_cons ?_
  refine wpAny_Call_method (T := "dict") (id := "dict.values") hbase rfl hline F.plainAttrs_dict F.slot_dict_values F.type_dict_values (thn (he.run pins s σ H _ I hq) fun u s1 ⟨x, H1, I1, rx, d, kvs, ex, hd, q⟩ => ?_)
  subst ex
  obtain rfl : u = Value.ref d := rx
  obtain ⟨hz, hs0, vs, kv, hdo⟩ := I1.hok d _ hd
  obtain ⟨ep, hat⟩ := hdo.dictAt
  have lk : kvs.length = vs.length := Paired.length kv
  have I2 : Inv X pins σ H1 { s1 with heap := s1.heap.push { cls := .type "dict_values", data := .fields #[.ref d] } } := I1.kept (t' := s1.toks) fun b ob q => Heap.get?_push_of_some _ q
  refine ⟨hdo.typeIs, hdo.mapOf.noDict, ?_⟩
  show wpAny _ _ (callWith cpos (.builtin "dict.values") [.ref d] [] []) _ X.xe s1
  refine method_meetsIn F.slot_dict_values F.entry_dict_values rfl (PySem.evalArgs_none ⟨rfl, hdo.typeIs, F.args_dict_values_1 _, _, meets_dict_values (mixKind X.prog X.w) d hs0, ⟨vs, hdo⟩, ?_⟩)
  refine Calls.spliced_nil ?_
  refine PySem.W.kdl_call (PySem.W.kdl_values (knd := mixKind X.prog X.w) (kvs := vs) (ep := ep)) (I1.ok.hd hc) ⟨⟨_, Heap.get?_push_size _ rfl, rfl, rfl⟩, hat.push _⟩ (by omega) fun h' tk acc c hk hS hacc => ?_
  have ea := PySem.W.kdl_vals_eq acc.toList (by rw [Array.length_toList]; exact hacc.1) fun j v e => hacc.2 j v (by rw [← Array.getElem?_toList]; exact e)
  refine ⟨.ref _, upd H1 _ (.lst (kvs.map (·.2))), I2.turnedNew (t' := tk) (ch := []) (fun b o hb e => hk b o e) (fun b hb => by simp at hb) (Nat.le_refl _) (show ObjOk X.prog X.w _ h' _ (.lst (kvs.map (·.2))) from ⟨by rw [List.length_map]; omega, acc.toList, c, by rw [ea]; exact kv_vals kv, ?_⟩), rfl, q _ (I2.hok.fresh (Nat.le_refl _))⟩
  rw [Array.toArray_toList]
  exact hS
end
end LiV
end

section
set_option maxHeartbeats 2000000
namespace Rf
open PySem PySem.Spec PyProof.Rows L2

section
variable {X : Cx} {M : Mx} {C : Ck} {sc : Scope} {n : Nat} {Wx : WX} {cf : CF}
inductive SL2 (M : Mx) (X : Cx) (Wx : WX) (cf : CF) : List E → List Expr → Prop where
  | nil : SL2 M X Wx cf [] []
  | cons {e x es xs} (h1 : SE M X Wx cf e x ∧ isStar x = false) (h2 : SL2 M X Wx cf es xs) : SL2 M X Wx cf (e :: es) (x :: xs)
def OptE (M : Mx) (X : Cx) (Wx : WX) (cf : CF) (lo : List E) (l : Option Expr) : Prop := match l with | none => lo = [] | some e => ∃ a, lo = [a] ∧ SE M X Wx cf a e
theorem pa_of {es : List E} {xs : List Expr} (h : SL2 M X Wx cf es xs) : PA X xs (tEs (M.g X.K) Wx (evalEs M.W cf M.cx es)) := by
  induction h with
  | nil =>
    refine pa_imp pa_nil ?_
    rintro σ H Q ⟨σI, h, as, sl, hi, p⟩
    exact p [] as H Ext.refl hi (by simp only [Reps])
  | cons h1 h2 ih =>
    rename_i e x es xs
    refine pa_imp (pa_cons h1.1.1 ih (star_one h1.2 _ _)) ?_
    rintro σ H Q ⟨σI, h, as, sl, hi, p⟩
    simp only [evalEs] at p
    obtain ⟨q1, q2, q3, sl', hi', p'⟩ := then1 sl hi p
    refine ⟨q1, q2, q3, sl', hi', p'.imp ?_⟩
    rintro v H1 ⟨d, h1, as1, _, x1, sl1, i1, r1, p1⟩
    obtain ⟨q1, q2, q3, sl', hi', p'⟩ := thens sl1 i1 p1
    refine ⟨q1, q2, q3, sl', hi', p'.imp ?_⟩
    rintro vs H2 ⟨ds, h2, as2, _, x2, sl2, i2, rs, p2⟩
    refine p2 _ as2 H2 Ext.refl i2 ?_
    simp only [Reps]
    exact ⟨v, vs, rfl, r1.mono x2, rs⟩
theorem sl2_len {es : List E} {xs : List Expr} (h : SL2 M X Wx cf es xs) : es.length = xs.length := by
  induction h with
  | nil => rfl
  | cons _ _ ih => simp [ih]
noncomputable def trsD (X : Cx) (M : Mx) (Wx : WX) (cf : CF) : List E → List E → List (TE × TE)
  | k :: ks, v :: vs => (tE (M.g X.K) Wx (evalE M.W cf M.cx k), tE (M.g X.K) Wx (evalE M.W cf M.cx v)) :: trsD X M Wx cf ks vs
  | _, _ => []
theorem pps_of {pos : Pos} : ∀ {ks : List E} {ks' : List (Option Expr)} {vs : List E} {xs : List Expr}, keysB ks ks' = true → SL2 M X Wx cf vs xs → ks.length = vs.length → PPs X pos ks' xs (trsD X M Wx cf ks vs)
  | [], [], _, _, _, .nil, _ => pps_nil
  | [], _ :: _, _, _, h, _, _ => by simp [keysB] at h
  | [], [], _, _, _, .cons _ _, e => by simp at e
  | k :: ks, ks', _, _, _, .nil, e => by simp at e
  | k :: ks, [], _, _, h, .cons _ _, _ => by cases k <;> simp [keysB] at h
  | k :: ks, x :: ks', _, _, h, .cons h1 h2, e => by
    cases k <;> try (simp [keysB] at h; done)
    rename_i d
    cases d <;> try (simp [keysB] at h; done)
    rename_i s
    cases x with
    | none => simp [keysB] at h
    | some x =>
      cases x <;> try (simp [keysB] at h; done)
      rename_i c kd pp
      cases c <;> try (simp [keysB] at h; done)
      rename_i z
      simp only [keysB, Bool.and_eq_true] at h
      exact pps_cons (se_cst (d := .str s) (c := .str z) (by simpa [cstB] using h.1)) h1.1.1 (pps_of h.2 h2 (by simpa using e))
theorem keysB_len : ∀ {ks : List E} {ks' : List (Option Expr)}, keysB ks ks' = true → ks'.length = ks.length ∧ ks'.all (·.isSome) = true ∧ ∃ kk, strK ks = some kk ∧ kk.length = ks.length ∧ ks = kk.map fun s => E.cst (.str s)
  | [], [], _ => ⟨rfl, rfl, [], rfl, rfl, rfl⟩
  | [], _ :: _, h => by simp [keysB] at h
  | k :: ks, [], h => by cases k <;> simp [keysB] at h
  | k :: ks, x :: ks', h => by
    cases k <;> try (simp [keysB] at h; done)
    rename_i d
    cases d <;> try (simp [keysB] at h; done)
    rename_i s
    cases x with
    | none => simp [keysB] at h
    | some x =>
      cases x <;> try (simp [keysB] at h; done)
      rename_i c kd pp
      cases c <;> try (simp [keysB] at h; done)
      rename_i z
      simp only [keysB, Bool.and_eq_true] at h
      obtain ⟨a, b, kk, c, d, e⟩ := keysB_len h.2
      refine ⟨by simp [a], by simpa using b, s :: kk, by simp [strK, c], by simp [d], by simp [e]⟩
theorem tp_of : ∀ {kk : List (List Char)} {vs : List E} {σI : Sg} {h : Hs} {as : List Addr} {σ : L2.St} {H : Hp} {Qv : List V → Hp → Prop} {Q : List (V × V) → Hp → Prop}, kk.length = vs.length → SL (M.g X.K) σI as H σ → HI (M.g X.K) h as H → post (M.g X.K) Wx (Reps (M.g X.K)) as H σ (evalEs M.W cf M.cx vs σI h) Qv → (∀ vals H2, Qv vals H2 → Q ((kk.map fun s => V.str (st s)).zip vals) H2) → tPairs (trsD X M Wx cf (kk.map fun s => E.cst (.str s)) vs) σ H Q
  | [], [], σI, h, as, σ, H, Qv, Q, _, sl, hi, p, k => by
    simp only [evalEs] at p
    exact k [] H (p [] as H Ext.refl hi (by simp only [Reps]))
  | [], _ :: _, _, _, _, _, _, _, _, e, _, _, _, _ => by simp at e
  | _ :: _, [], _, _, _, _, _, _, _, e, _, _, _, _ => by simp at e
  | s :: kk, v :: vs, σI, h, as, σ, H, Qv, Q, e, sl, hi, p, k => by
    simp only [evalEs] at p
    refine ⟨σI, h, as, sl, hi, ?_⟩
    simp only [evalE]
    intro x as1 H1 e1 i1 r1
    simp only [Rep] at r1
    subst r1
    obtain ⟨q1, q2, q3, sl', hi', p'⟩ := then1 (sl.mono e1) i1 (p.mono e1)
    refine ⟨q1, q2, q3, sl', hi', p'.imp ?_⟩
    rintro y H2 ⟨d, h2, as2, _, x2, sl2, i2, r2, p2⟩
    obtain ⟨q1, q2, q3, sl', hi', p'⟩ := thens sl2 i2 p2
    refine tp_of (kk := kk) (by simpa using e) sl' hi' p' ?_
    rintro vals H3 ⟨ds, h3, as3, _, x3, sl3, i3, rs, p3⟩
    have := p3 (y :: vals) as3 H3 Ext.refl i3 (by simp only [Reps]; exact ⟨y, vals, rfl, r2.mono x3, rs⟩)
    exact k _ _ this
theorem zip_kV : ∀ (kk : List (List Char)) (vals : List V), (kk.map fun s => V.str (st s)).zip vals = ((kk.map fun s => (.inr (st s) : Key)).zip vals).map fun kv => (kV kv.1, kv.2)
  | [], _ => by simp
  | _ :: _, [] => by simp
  | s :: kk, v :: vals => by
    simp only [List.map_cons, List.zip_cons_cons, zip_kV kk vals]
    rfl
theorem repkv_zip {G : Gx} {as : List Addr} {H : Hp} : ∀ {kk : List (List Char)} {ds : List D} {vals : List V}, ds.length = kk.length → Reps G as H ds vals → RepKV keyK G as H ((kk.map D.str).zip ds) ((kk.map fun s => (.inr (st s) : Key)).zip vals)
  | [], [], _, _, _ => by simp only [List.map_nil, List.zip_nil_left]; exact .nil
  | [], _ :: _, _, e, _ => by simp at e
  | _ :: _, [], _, e, _ => by simp at e
  | s :: kk, d :: ds, vals, e, r => by
    simp only [Reps] at r
    obtain ⟨v, vs, rfl, h1, h2⟩ := r
    simp only [List.map_cons, List.zip_cons_cons]
    exact .cons ⟨rfl, h1⟩ (repkv_zip (by simpa using e) h2)
theorem se_disp {ks vs : List E} {ks' : List (Option Expr)} {xs : List Expr} {pos : Pos} (hk : keysB ks ks' = true) (hv : SL2 M X Wx cf vs xs) (h0 : ks ≠ []) (h15 : ks.length ≤ 15) (hl : ks.length = vs.length) (hx : vs.length = xs.length) : PE X (.Dict ks' xs pos) (tE (M.g X.K) Wx (evalE M.W cf M.cx (.dic false ks vs))) := by
  obtain ⟨l1, l2, kk, ek, lk, em⟩ := keysB_len hk
  refine pe_imp (pe_disp (pps_of hk hv hl) l2 (by omega) (fun q => h0 (by rw [q] at l1; simpa using l1.symm)) (by omega)) ?_
  rintro σ H Q ⟨σI, h, as, sl, hi, p⟩
  have hne : kk ≠ [] := fun q => h0 (by rw [em, q]; rfl)
  have p0 : post (M.g X.K) Wx (Rep (M.g X.K)) as H σ ((evalEs M.W cf M.cx vs σI (h ++ [.dic false false []])).bind fun ds h1 => dicE h.length kk ds h1) Q := by
    simp only [evalE, ek] at p
    cases kk with
    | nil => exact absurd rfl hne
    | cons s kk =>
      have : (false || decide (15 < (s :: kk).length)) = false := by
        rw [lk]; simp; omega
      simp only [this, Bool.false_eq_true, if_false] at p
      exact p
  intro q hq
  have ex := ext_new (as := as) (o := HO.dK []) hq
  have hi1 : HI (M.g X.K) (h ++ [.dic false false []]) (as ++ [q]) (upd H q (.dK [])) := hi.new hq ⟨[], by simp only [lkd, Bool.false_eq_true, if_false]; exact upd_same, .nil⟩
  obtain ⟨q1, q2, q3, sl', hi', p'⟩ := thens (sl.mono ex) hi1 (p0.mono ex)
  rw [em]
  refine tp_of (kk := kk) (by omega) sl' hi' p' ?_
  rintro vals H2 ⟨ds, h2, as2, _, x2, sl2, i2, rs, p2⟩
  unfold dicE at p2
  split at p2
  · rename_i e1
    split at p2
    · rename_i hd
      have ea : as2[h.length]? = some q := x2.1 _ _ (by rw [← hi.len]; simp)
      obtain ⟨kv, g1, hr⟩ := i2.ob h.length _ q e1 ea
      simp only [lkd, Bool.false_eq_true, if_false] at g1
      cases hr
      refine ⟨g1, (kk.map fun s => (.inr (st s) : Key)).zip vals, ?_, ?_, ?_⟩
      · exact zip_kV kk vals
      · simp only [List.length_zip, List.length_map]; omega
      · have ex2 := ext_set (o := HO.dK (mergeK [] ((kk.map fun s => (.inr (st s) : Key)).zip vals))) ea g1 (fun _ => by intro z; cases z) (fun _ _ => by intro z; cases z)
        refine p2 _ as2 _ ex2 (i2.set ea g1 (fun _ => by intro z; cases z) (fun _ _ => by intro z; cases z) ⟨_, ?_, (RepKV.mrg (repkv_zip hd rs) .nil).mono ex2⟩) ?_
        · simp only [lkd, Bool.false_eq_true, if_false]; exact upd_same
        · simp only [Rep]; exact ⟨q, rfl, ea⟩
    · exact p2.elim
  · exact p2.elim
theorem se_gix (K : Cok X M C sc n Wx cf) {g : Nat} {e : E} {x : Str} {y : Expr} {pp pos : Pos} (h1 : isC C.dnm g x = true) (h2 : glB sc x = true) (h3 : okN x = true) (hb : SE M X Wx cf e y) (hs : isSlice y = false) : PE X (.Subscript (.Name x pp) y pos) (tE (M.g X.K) Wx (evalE M.W cf M.cx (.gix g e))) := by
  obtain ⟨a, kvs, m1, ek, ⟨es, nn, D⟩, look⟩ := K.dc g x (isC_ok h1)
  refine ⟨fun pins s σ H Q I hq => ?_⟩
  obtain ⟨σI, h, as, sl, hi, p⟩ := hq
  simp only [evalE] at p
  have hn := pe_glob (X := X) (pos := pp) (v := .ref a) (K.gl x h2) m1 rfl (okN_ok h3).1
  obtain ⟨q1, q2, q3, sl', hi', p'⟩ := then1 sl hi p
  refine subD_of PySem.F.slot_dict_getitem.lookup (plainIx hs) (thn (hn.run pins s σ H (fun v H1 => v = .ref a ∧ H1 = H) I ⟨rfl, rfl⟩) fun u s1 ⟨x0, H1, I1, rx, qq⟩ => ?_)
  obtain ⟨rfl, rfl⟩ := qq
  obtain rfl : u = Value.ref a := rx
  refine thn (hb.1.run pins s1 σ _ _ I1 ⟨q1, q2, q3, sl', hi', p'⟩) fun iv s2 ⟨y0, H2, I2, ry, qq⟩ => ?_
  obtain ⟨d, h2, as2, e2, x2, sl2, i2, r2, p2⟩ := qq
  unfold gixD at p2
  split at p2
  · rename_i k kvs' e3
    rw [ek] at e3
    cases e3
    simp only [Rep] at r2
    subst r2
    cases el : kvs.lookup k with
    | none => rw [el] at p2; exact p2.elim
    | some v =>
      rw [el] at p2
      obtain ⟨u0, vv, n1, n2, n3⟩ := (look k).1 v el
      exact ⟨kd_type D I2, op_item_kd D pins s2 σ H2 (.ref a) _ _ _ Q I2 rfl ry ⟨st k, u0, vv, rfl, rfl, n1, n2, p2 vv as2 H2 Ext.refl i2 (n3 _ _ _ rfl)⟩⟩
  · exact p2.elim
theorem kd_map {a : Addr} {es : Array DictEntry} {nn : Nat} {pins : List (Addr × Obj)} {σ : L2.St} {H : Hp} {s : Shared} (D : KDict X.K X.w a es nn) (I : Inv X pins σ H s) : ∃ f, s.heap.MapOf (noneKind X.prog X.w) a f ∧ f none = none ∧ ∀ i : Int, f (some (.inl i)) = none := by
  have hk : ∀ e ∈ es, ∃ x t, e.key = .str x t ∧ e.hash = PyData.keyHash X.w.params x := fun e he => D.lit.all e (Array.mem_toList_iff.mpr he)
  have no : ∀ k : Option Key, (∀ x t, nkIs k (.str x t) = false) → findBy (noneKind X.prog X.w).is es k = none := by
    intro k hn
    have q : (es.find? fun e => nkIs k e.key) = none := by
      rw [Array.find?_eq_none]
      intro e he hq
      obtain ⟨x, t, e1, _⟩ := hk e he
      rw [e1, hn] at hq
      cases hq
    show (es.find? fun e => nkIs k e.key).map (·.val) = none
    rw [q] <;> rfl
  refine ⟨fun k => findBy (noneKind X.prog X.w).is es k, ⟨_, es, nn, I.kIn _ _ D.at_, ⟨rfl, rfl, rfl⟩, rfl, fun e he => ?_, fun _ => rfl⟩, no _ fun _ _ => rfl, fun i => no _ fun _ _ => rfl⟩
  obtain ⟨x, t, e1, e2⟩ := hk e he
  refine ⟨some (.inr x), ?_, e2⟩
  rw [e1]
  exact PySem.strKind_is X.prog X.w x t
/-- the right side of an in -/
def rGin (K : PySem.W.Frag) (neg : Bool) (a : Addr) : R2 := fun x y H Q => y = .ref a ∧ ((∃ (z : Str) (r : Option Value), x = .str z ∧ PySem.W.nsIn K a z = some r ∧ Q (.bl (r.isSome != neg)) H) ∨ ((x = .non ∨ ∃ i, x = .int i) ∧ Q (.bl neg) H))
theorem gin_run (K : Cok X M C sc n Wx cf) {g : Nat} {e : E} {x : Str} {neg : Bool} (h1 : isC C.dnm g x = true) {σ : L2.St} {H : Hp} {Q : VK} (hq : tE (M.g X.K) Wx (evalE M.W cf M.cx (.gin neg g e)) σ H Q) :
    ∃ (a : Addr) (es : Array DictEntry) (nn : Nat), X.mg x = some (.ref a) ∧ KDict X.K X.w a es nn ∧ tE (M.g X.K) Wx (evalE M.W cf M.cx e) σ H fun y0 H2 => rGin X.K neg a y0 (.ref a) H2 Q := by
  obtain ⟨a, kvs, m1, ek, ⟨es, nn, D⟩, look⟩ := K.dc g x (isC_ok h1)
  obtain ⟨σI, h, as, sl, hi, p⟩ := hq
  simp only [evalE] at p
  obtain ⟨q1, q2, q3, sl', hi', p'⟩ := then1 sl hi p
  refine ⟨a, es, nn, m1, D, q1, q2, q3, sl', hi', p'.imp ?_⟩
  rintro y0 H2 ⟨d, h2, as2, e2, x2, sl2, i2, r2, p2⟩
  unfold ginD at p2
  split at p2
  · rename_i k kvs' e3
    rw [ek] at e3
    cases e3
    simp only [Rep] at r2
    subst r2
    have fin := p2 (.bl ((kvs.lookup k).isSome != neg)) as2 H2 Ext.refl i2 (by simp only [Rep])
    refine ⟨rfl, .inl ?_⟩
    cases el : kvs.lookup k with
    | none =>
      rw [el] at fin
      exact ⟨st k, none, rfl, (look k).2 el, fin⟩
    | some v =>
      rw [el] at fin
      obtain ⟨u0, vv, n1, _, _⟩ := (look k).1 v el
      exact ⟨st k, some u0, rfl, n1, fin⟩
  · simp only [Rep] at r2
    exact ⟨rfl, .inr ⟨.inl r2, p2 (.bl neg) as2 H2 Ext.refl i2 (by simp only [Rep])⟩⟩
  · simp only [Rep] at r2
    exact ⟨rfl, .inr ⟨.inr ⟨_, r2⟩, p2 (.bl neg) as2 H2 Ext.refl i2 (by simp only [Rep])⟩⟩
  · exact p2.elim
theorem ginD_bl {dcs : List (List (List Char × D))} {neg : Bool} {g : Nat} {x d : D} {h h' : Hs} (e : ginD dcs neg g x h = .ok d h') : ∃ b, d = .bl b := by
  unfold ginD at e
  split at e
  · cases e; exact ⟨_, rfl⟩
  · cases e; exact ⟨_, rfl⟩
  · cases e; exact ⟨_, rfl⟩
  · cases e
theorem op_gin {neg : Bool} {op : CmpOp} (ho : (match op with | .In => !neg | .NotIn => neg | _ => false) = true) {a : Addr} {es : Array DictEntry} {nn : Nat} (D : KDict X.K X.w a es nn) : OpR X (compareOp op) (rGin X.K neg a) := by
  intro pins s σ H x y v u Q I rx ry hh
  obtain ⟨rfl, hh⟩ := hh
  rcases hh with ⟨z, r, rfl, n1, q⟩ | ⟨hx, q⟩
  · cases op <;> simp at ho
    · subst ho
      exact op_in_kd D pins s σ H _ _ v u Q I rx ry ⟨z, r, rfl, rfl, n1, by simpa using q⟩
    · subst ho
      exact op_notIn_kd D pins s σ H _ _ v u Q I rx ry ⟨z, r, rfl, rfl, n1, by simpa using q⟩
  · obtain ⟨f, hm, f1, f2⟩ := kd_map D I
    cases ry
    have go : ∀ k : Option Key, (noneKind X.prog X.w).is k v = true → f k = none → wpAny (model X.prog X.w) X.A (compareOp op v (.ref a)) (EP X pins σ Q) X.xe s := by
      intro k hk fk
      cases op <;> simp at ho
      · subst ho
        refine wpAny_in_of hk D.low hm ?_
        rw [fk]
        exact ⟨.bl false, H, I.tok _, rfl, q⟩
      · subst ho
        refine wpAny_notIn_of hk D.low hm ?_
        rw [fk]
        exact ⟨.bl true, H, I.tok _, rfl, q⟩
    rcases hx with rfl | ⟨i, rfl⟩
    · cases rx
      exact go none rfl f1
    · obtain ⟨t, rfl⟩ := rx
      exact go (some (.inl i)) (PySem.intKind_is X.prog X.w i t) (f2 i)
theorem se_gin (K : Cok X M C sc n Wx cf) {g : Nat} {e : E} {x : Str} {l : Expr} {pp pos : Pos} {neg : Bool} {op : CmpOp} (ho : (match op with | .In => !neg | .NotIn => neg | _ => false) = true) (h1 : isC C.dnm g x = true) (h2 : glB sc x = true) (h3 : okN x = true) (hb : SE M X Wx cf e l) : SE M X Wx cf (.gin neg g e) (.Compare l [op] [.Name x pp] pos) := by
  have hm : behindInMarks op (.Name x pp) = false := by
    cases op <;> simp at ho <;> rfl
  constructor
  · refine ⟨fun pins s σ H Q I hq => ?_⟩
    obtain ⟨a, es, nn, m1, D, hr⟩ := gin_run K h1 hq
    have hn := pe_glob (X := X) (pos := pp) (v := .ref a) (K.gl x h2) m1 rfl (okN_ok h3).1
    refine (pe_cmpR (op_gin ho D) hb.1 hn hm).run pins s σ H Q I ?_
    obtain ⟨σI, h, as, sl, hi, p⟩ := hr
    exact ⟨σI, h, as, sl, hi, p.imp fun y0 H2 q => q⟩
  · refine ⟨fun pins s σ H Q I hq => ?_⟩
    obtain ⟨σI, h, as, sl, hi, p⟩ := hq
    have p2 : post (M.g X.K) Wx (Rep (M.g X.K)) as H σ (evalE M.W cf M.cx (.gin neg g e) σI h) (fun v H1 => ∃ k, v = .bl k ∧ Q k H1) := by
      simp only [evalE] at p ⊢
      cases e1 : evalE M.W cf M.cx e σI h with
      | ok dx h1 =>
        rw [e1] at p
        simp only [R.bind_ok] at p ⊢
        cases eg : ginD M.W.dcs neg g dx h1 with
        | ok d h2 =>
          obtain ⟨b, rfl⟩ := ginD_bl eg
          rw [eg] at p
          intro v as1 H1 x1 i1 r1
          simp only [Rep] at r1
          subst r1
          exact ⟨_, rfl, p b as1 H1 x1 i1 rfl⟩
        | exc c fs h2 => rw [eg] at p; exact p
        | no => rw [eg] at p; exact p
      | exc c fs h1 => rw [e1] at p; exact p
      | no => rw [e1] at p; exact p
    obtain ⟨a, es, nn, m1, D, hr⟩ := gin_run K h1 ⟨σI, h, as, sl, hi, p2⟩
    have hn := pe_glob (X := X) (pos := pp) (v := .ref a) (K.gl x h2) m1 rfl (okN_ok h3).1
    refine (pt_cmpR (op_gin ho D) hb.1 hn hm).run pins s σ H Q I ?_
    obtain ⟨σI, h, as, sl, hi, p⟩ := hr
    exact ⟨σI, h, as, sl, hi, p.imp fun y0 H2 q => q⟩
theorem run_G1 {X : Cx} {CX : CXT} {k : Nat} {f : Addr} {fd : FuncData} {ps : List Str} {sp : Sp} {E : L2.St → XK} {pins : List (Addr × Obj)} {σ : L2.St} {H : Hp} {s : Shared} {Q : VK} {us : List Value} {vs : List V}
    (F : FnG X.prog X.w X.K X.mg X.base CX k f fd ps sp) (g : X.A.guards = some []) (hr : Room (k + 1) X.A) (hb : Binds X.K fd ps []) (hx : PassesAt CX X σ (E σ))
    (I : Inv X pins σ H s) (r : Vals vs us) (h : sp vs H Q (E σ)) : wpAny (model X.prog X.w) X.A.in1 (call (.ref f) us) (EP X pins σ Q) X.xe s := by
  have b := hb s us I.kIn (by rw [List.append_nil, ← r.length]; exact F.ln _ _ _ _ h)
  rw [List.append_nil] at b
  apply wpAny_call
  refine codeAny_mono (F.go X.A.in1 X.stack s H ⟨us, []⟩ us vs Q (E σ) g hr.in1 I.env0.in1 b r h) fun r' s' q => ?_
  have z := cr_end I (fun e _ c => hx pins H s e s' I c) q
  rcases r' with e | fl
  · exact z
  · rcases fl with _ | _ | _ | u
    · exact z
    · exact z
    · exact z
    · exact z
theorem se_lnI (K : Cok X M C sc n Wx cf) (hot : C.hot = false) {e : E} {y : Expr} {pp pos : Pos} (h2 : glB sc (Str.ofString "len") = true) (hb : SE M X Wx cf e y) (hs : isStar y = false) : PE X (.Call (.Name (Str.ofString "len") pp) [y] [] pos) (tE (M.g X.K) Wx (evalE M.W cf M.cx (.lnI e))) := by
  refine ⟨fun pins s σ H Q I hq => ?_⟩
  have pa : PA X [y] (tCons (tE (M.g X.K) Wx (evalE M.W cf M.cx e)) tNil) := pa_cons hb.1 pa_nil (star_one hs _ _)
  obtain ⟨r0, er⟩ : ∃ r0 : List V → Hp → VK → Prop, r0 = (fun xs H Q => ∃ x d h as, xs = [x] ∧ HI (M.g X.K) h as H ∧ Rep (M.g X.K) as H d x ∧ post (M.g X.K) Wx (Rep (M.g X.K)) as H σ (match isIns d h with
    | some (c, _) => match (M.W.cls[c]?).bind fun ci => ci.meths.lookup "__len__" with
      | some f => (cf f [d] h).bind fun r h' => match r with | .int i => if 0 ≤ i ∧ i < 2 ^ 62 then .ok (.int i) h' else .no | _ => .no
      | none => .no
    | none => .no) Q) := ⟨_, rfl⟩
  have rule : ∀ (pins : List (Addr × Obj)) (s : Shared) (H : Hp) (xs : List V) (us : List Value) (Q : VK), Inv X pins σ H s → Vals xs us → r0 xs H Q → wpAny (model X.prog X.w) X.A (call (.builtin "len") us) (EP X pins σ Q) X.xe s := by
    intro pins s H xs us Q I r hh
    rw [er] at hh
    obtain ⟨x, d, h, as, rfl, hi, r1, p⟩ := hh
    split at p
    · rename_i c fs ei
      split at p
      · rename_i f ef
        cases d <;> simp only [isIns, reduceCtorEq] at ei
        rename_i m
        split at ei
        · rename_i c' fs' e4
          cases ei
          have r1' := r1
          simp only [Rep] at r1
          obtain ⟨a, rfl, ea⟩ := r1
          obtain ⟨u, rfl, ru⟩ := Vals.one r
          obtain rfl : u = Value.ref a := ru
          obtain ⟨Ca, dx, vs, ec, eo, rf⟩ := hi.ob m _ a e4 ea
          cases e5 : M.W.cls[c]? with
          | none => rw [e5] at ef; cases ef
          | some ci =>
            rw [e5] at ef
            simp only [Option.bind_some] at ef
            obtain ⟨c1, _, c3⟩ := (K.cool hot).cls c ci e5 Ca ec
            obtain ⟨ma, hm, fd, ps, np, hb', hp, F, hl⟩ := c3 "__len__" f ef
            have hn : cf f [.ob m] h ≠ .no := fun e => by rw [e] at p; exact p
            have p2 : post (M.g X.K) Wx (Rep (M.g X.K)) as H σ (cf f [.ob m] h) (fun v H1 => ∃ i : Int, v = .int i ∧ 0 ≤ i ∧ i < 2 ^ 62 ∧ Q (.int i) H1) := by
              cases ec : cf f [.ob m] h with
              | ok d1 h1 =>
                rw [ec] at p
                simp only [R.bind_ok] at p
                intro v as1 H1 x1 i1 rr
                cases d1 <;> try exact p.elim
                rename_i i
                simp only at p
                split at p
                · rename_i hb2
                  simp only [Rep] at rr
                  exact ⟨i, rr, hb2.1, hb2.2, p _ as1 H1 x1 i1 (by simp only [Rep])⟩
                · exact p.elim
              | exc c2 fs2 h1 => rw [ec] at p; exact p
              | no => exact absurd ec hn
            obtain ⟨mA, O, _, _, _, _⟩ := ins_get I.hok eo
            obtain ⟨od, Ia, _⟩ := O.look
            have fnT : PySem.W.typeIn X.K (.ref ma) = some (.type "function") := beq_iff_eq.mp hm.fn
            refine Calls.call_function_entry kind_len plain_len entry_len (args_len1 _) ?_
            unfold Builtin.«len»
            refine wpAny_bind (m := oneArg "len" _) (wpAny_pure ?_)
            have hc : ∀ {Q' : Option Value → Shared → Prop}, wpAny (model X.prog X.w) X.A.in1 (call (.ref ma) [.ref a]) (fun v s' => Q' (some v) s') X.xe s → wpAny (model X.prog X.w) X.A.in1 (callSpecial? (.ref a) (Str.ofString "__len__") []) Q' X.xe s := fun q => by
              unfold callSpecial? specialOf
              refine wpAny_bind (wpAny_bind (Ia.type.here ((PySem.W.looks_findIn I.kIn hm.at_).here ?_)))
              refine wpAny_holding ?_
              refine wpAny_bind ((PySem.W.bind_fn I.kIn _ fnT).here ?_)
              exact wpAny_bind (wpAny_mono q (fun v s' z => wpAny_pure z) fun _ _ z => z)
            refine wpAny_bind (m := callSpecial? (.ref a) (Str.ofString "__len__")) (hc (wpAny_mono (run_G1 (E := WE Wx) (us := [.ref a]) (vs := [.ref a]) F K.gd ((K.cool hot).room.mono (by omega)) hb' (passAt K.tk σ) I (.cons rfl .nil) ⟨by rw [show ([V.ref a] : List V).length = ([D.ob m] : List D).length from rfl]; exact hl _ h hn, [.ob m], h, as, hi.z, reps_z (Reps.one r1'), post_z (fun _ _ _ q => q) hi.xd p2⟩) (fun v s' hv => ?_) fun _ _ z => z))
            obtain ⟨x', H', I', rx, i, rfl, h0, h1, q⟩ := hv
            obtain ⟨t, rfl⟩ : ∃ t, v = Value.int i t := rx
            refine wpAny_bind (wpAny_holding (wpAny_pure ?_))
            refine wpAny_bind (wpAny_letGo ?_)
            show wpAny _ _ (if i < 0 then _ else _) _ _ _
            rw [if_neg (by omega)]
            show wpAny _ _ (if i ≥ 2 ^ 63 then _ else _) _ _ _
            rw [if_neg (by omega)]
            exact wpAny_bind (wpAny_mkInt (wpAny_pure ⟨_, rfl, .int i, H', I'.tok _, ⟨_, rfl⟩, q⟩))
        · cases ei
      · exact p.elim
    · exact p.elim
  have ht : tCons (tE (M.g X.K) Wx (evalE M.W cf M.cx e)) tNil σ H fun vs H1 => r0 vs H1 Q := by
    obtain ⟨σI, h, as, sl, hi, p⟩ := hq
    simp only [evalE] at p
    obtain ⟨q1, q2, q3, sl', hi', p'⟩ := then1 sl hi p
    refine ⟨q1, q2, q3, sl', hi', p'.imp ?_⟩
    rintro v H1 ⟨d, h1, as1, _, x1, sl1, i1, r1, p1⟩
    rw [er]
    exact ⟨v, d, h1, as1, rfl, i1, r1, p1⟩
  refine wpAny_Call_Name_kw (ld_blt I (K.gl _ h2) (K.bl _ (by decide +kernel)) (show bootBuiltins (Str.ofString "len") = some (.builtin "len") by decide +kernel) ?_ (by decide +kernel) (by decide +kernel))
  exact PyProof.Rows.callWith_builtin1 (thn (pa.run pos pins s σ H _ I ht) fun us s1 ⟨vs, H1, I1, r1, q1⟩ => rule pins s1 H1 vs us Q I1 r1 q1) (star_one hs _ _) rfl
theorem ext_kp {as : List Addr} {H H' : Hp} (kp : ∀ b o, H b = some o → H' b = some o) : Ext as H as H' :=
  ⟨fun _ _ e => e, fun a xs h => kp _ _ h, fun a o u h => kp _ _ h, fun a o h _ _ => kp _ _ h, fun a ps h => ⟨#[], by simpa using kp _ _ h⟩, fun a h hn => absurd h hn⟩
theorem HI.kp {G : Gx} {h : Hs} {as : List Addr} {H H' : Hp} (hi : HI G h as H) (kp : ∀ b o, H b = some o → H' b = some o) : HI G h as H' := by
  refine ⟨hi.xd.ext (ext_kp kp), hi.tb.ext kp, hi.len, hi.nd, fun n mo a e1 e2 => ?_⟩
  have r := hi.ob n mo a e1 e2
  obtain ⟨u, eu⟩ := r.some_
  exact r.mono (ext_kp kp) (by rw [eu]; exact kp _ _ eu)
theorem items_reps {G : Gx} {as : List Addr} {H : Hp} : ∀ {kvs : List (D × D)} {kv : List (Key × V)} {ts : List Addr}, RepKV keyK G as H kvs kv → Paired (fun (t : Addr) (q : Key × V) => H t = some (.tup [kV q.1, q.2])) ts kv → Reps G as H (kvs.map fun p => .tup [p.1, p.2]) (ts.map V.ref)
  | _, _, _, .nil, .nil => by simp [Reps]
  | (k, w) :: kvs, (x, v) :: kv, t :: ts, .cons h r, .cons h2 r2 => by
    simp only [List.map_cons, Reps]
    refine ⟨_, _, rfl, ?_, items_reps r r2⟩
    obtain ⟨e, r1⟩ := h
    simp only at e r1 h2
    simp only [Rep, Reps]
    refine ⟨t, _, rfl, h2, kV x, [v], rfl, ?_, v, [], rfl, r1, rfl⟩
    cases k <;> simp only [keyK, Option.some.injEq, reduceCtorEq] at e <;> subst e <;> simp only [Rep, kV]
theorem revOf_ok {e z : Expr} {x y : Str} (h : revOf e = some (x, y, z)) : ∃ p p2 pos pos2, e = .Call (.Name x p) [.Call (.Name y p2) [z] [] pos2] [] pos := by
  unfold revOf at h
  split at h
  · cases h; exact ⟨_, _, _, _, rfl⟩
  · cases h
/-- list(reversed(x)) -/
theorem se_lrv (K : Cok X M C sc n Wx cf) (hot : C.hot = false) {a : E} {x : Expr} {p p2 pos pos2 : Pos} (h1 : glB sc (Str.ofString "list") = true) (h2 : glB sc (Str.ofString "reversed") = true) (hs : isStar x = false) (ha : SE M X Wx cf a x) :
    PE X (.Call (.Name (Str.ofString "list") p) [.Call (.Name (Str.ofString "reversed") p2) [x] [] pos2] [] pos) (tE (M.g X.K) Wx (evalE M.W cf M.cx (.back a))) := by
  refine pe_imp (RV.pe_listRev (K.cool hot).calm (K.gl _ h1) (K.bl _ (by decide +kernel)) (by decide +kernel) (K.gl _ h2) (K.bl _ (by decide +kernel)) ha.1 (star_one hs _ _) rfl) ?_
  rintro σ H Q ⟨σI, h, as, sl, hi, p⟩
  simp only [evalE] at p
  obtain ⟨q1, q2, q3, sl', hi', p'⟩ := then1 sl hi p
  refine ⟨q1, q2, q3, sl', hi', p'.imp ?_⟩
  rintro x H1 ⟨dx, h1, as1, e1, x1, sl1, i1, r1, p1⟩
  split at p1
  · rename_i m
    simp only [Rep] at r1
    obtain ⟨ad, rfl, ea⟩ := r1
    split at p1
    · rename_i xs e2
      obtain ⟨vs, q1, q2⟩ := i1.ob m _ ad e2 ea
      refine ⟨ad, vs, rfl, SqL.of q1, fun q hq => ?_⟩
      refine p1 _ (as1 ++ [q]) _ (ext_new hq) (i1.new hq ⟨_, upd_same, (Reps.reverse q2).mono (ext_new hq)⟩) ?_
      simp only [Rep]
      exact ⟨q, rfl, by rw [← i1.len]; simp⟩
    · exact p1.elim
  · exact p1.elim
/-- list(d.items()) -/
theorem se_itl (K : Cok X M C sc n Wx cf) (hot : C.hot = false) {e : E} {y : Expr} {pp ap cp pos : Pos} (h2 : glB sc (Str.ofString "list") = true) (h3 : notBare y = true) (hl : (ap.endLine == cp.line) = true) (hb : SE M X Wx cf e y) :
    PE X (.Call (.Name (Str.ofString "list") pp) [.Call (.Attribute y (Str.ofString "items") ap) [] [] cp] [] pos) (tE (M.g X.K) Wx (evalE M.W cf M.cx (.itl e))) := by
  refine pe_imp (LiI.pe_listItems (K.cool hot).calm hb.1 (K.gl _ h2) (K.bl _ (by decide +kernel)) (by decide +kernel) (bare_ok h3) hl) ?_
  rintro σ H Q ⟨σI, h, as, sl, hi, p⟩
  simp only [evalE] at p
  obtain ⟨q1, q2, q3, sl', hi', p'⟩ := then1 sl hi p
  refine ⟨q1, q2, q3, sl', hi', p'.imp ?_⟩
  rintro v H1 ⟨d, h1, as1, _, x1, sl1, i1, r1, p1⟩
  cases d with
  | ob n =>
    simp only [itlD] at p1
    split at p1
    · rename_i kvs e1
      simp only [Rep] at r1
      obtain ⟨a, rfl, ea⟩ := r1
      obtain ⟨kv, g1, g2⟩ := i1.ob n _ a e1 ea
      simp only [lkd, Bool.false_eq_true, if_false] at g1
      refine ⟨a, kv, rfl, g1, fun H' q ts kp hq ht hqt e3 pt => ?_⟩
      have hpn : q ∉ as1 := i1.fresh hq
      have i2 := i1.kp kp
      have r3 := items_reps (g2.mono (ext_kp kp)) pt
      refine p1 _ (as1 ++ [q]) H' ⟨fun m b e => by rw [List.getElem?_append_left (List.getElem?_eq_some_iff.mp e).1]; exact e, fun b xs e => kp _ _ e, fun b o u e => kp _ _ e, fun b o e _ _ => kp _ _ e, fun b ps e => ⟨#[], by simpa using kp _ _ e⟩, fun b e hn => ?_⟩ (i2.add hpn e3 r3) ?_
      · rcases List.mem_append.mp e with e | e
        · exact absurd e hn
        · rw [List.mem_singleton.mp e]; exact hq
      · simp only [Rep]
        exact ⟨q, rfl, by rw [← i1.len]; simp⟩
    · exact p1.elim
  | _ => exact p1.elim
theorem se_ptd (K : Cok X M C sc n Wx cf) (hot : C.hot = false) {e : E} {y : Expr} {pp ap cp pos : Pos} (h2 : glB sc (Str.ofString "tuple") = true) (h3 : notBare y = true) (hl : (ap.endLine == cp.line) = true) (hb : SE M X Wx cf e y) :
    PE X (.Call (.Name (Str.ofString "tuple") pp) [.Call (.Attribute y (Str.ofString "items") ap) [] [] cp] [] pos) (tE (M.g X.K) Wx (evalE M.W cf M.cx (.ptd e))) := by
  refine pe_imp (OwI.pe_tupItems (K.cool hot).calm hb.1 (K.gl _ h2) (K.bl _ (by decide +kernel)) (by decide +kernel) (bare_ok h3) hl) ?_
  rintro σ H Q ⟨σI, h, as, sl, hi, p⟩
  simp only [evalE] at p
  obtain ⟨q1, q2, q3, sl', hi', p'⟩ := then1 sl hi p
  refine ⟨q1, q2, q3, sl', hi', p'.imp ?_⟩
  rintro v H1 ⟨d, h1, as1, _, x1, sl1, i1, r1, p1⟩
  cases d with
  | ob n =>
    simp only [ptdD] at p1
    split at p1
    · rename_i kvs e1
      simp only [Rep] at r1
      obtain ⟨a, rfl, ea⟩ := r1
      obtain ⟨kv, g1, g2⟩ := i1.ob n _ a e1 ea
      simp only [lkd, Bool.false_eq_true, if_false] at g1
      refine ⟨a, kv, rfl, g1, fun H' q o ts kp hqt pt hq ho hc => ?_⟩
      have i2 := i1.kp kp
      have r3 := items_reps (g2.mono (ext_kp kp)) pt
      refine p1 _ (as1 ++ [q]) _ ((ext_kp kp).trans (ext_new hq)) (i2.new hq ⟨o, _, upd_same, ho, hc, r3.mono (ext_new hq)⟩) ?_
      simp only [Rep]
      exact ⟨q, rfl, by rw [← i1.len]; simp⟩
    · exact p1.elim
  | _ => exact p1.elim
theorem vals_reps {G : Gx} {as : List Addr} {H : Hp} : ∀ {kvs : List (D × D)} {kv : List (Key × V)}, RepKV keyK G as H kvs kv → Reps G as H (kvs.map fun p => p.2) (kv.map (·.2))
  | _, _, .nil => by simp [Reps]
  | (k, w) :: kvs, (x, v) :: kv, .cons h r => by
    simp only [List.map_cons, Reps]
    exact ⟨_, _, rfl, h.2, vals_reps r⟩
/-- list(d.values()) -/
theorem se_vll (K : Cok X M C sc n Wx cf) (hot : C.hot = false) {e : E} {y : Expr} {pp ap cp pos : Pos} (h2 : glB sc (Str.ofString "list") = true) (h3 : notBare y = true) (hl : (ap.endLine == cp.line) = true) (hb : SE M X Wx cf e y) :
    PE X (.Call (.Name (Str.ofString "list") pp) [.Call (.Attribute y (Str.ofString "values") ap) [] [] cp] [] pos) (tE (M.g X.K) Wx (evalE M.W cf M.cx (.vll e))) := by
  refine pe_imp (LiV.pe_listVals (K.cool hot).calm hb.1 (K.gl _ h2) (K.bl _ (by decide +kernel)) (by decide +kernel) (bare_ok h3) hl) ?_
  rintro σ H Q ⟨σI, h, as, sl, hi, p⟩
  simp only [evalE] at p
  obtain ⟨q1, q2, q3, sl', hi', p'⟩ := then1 sl hi p
  refine ⟨q1, q2, q3, sl', hi', p'.imp ?_⟩
  rintro v H1 ⟨d, h1, as1, _, x1, sl1, i1, r1, p1⟩
  cases d with
  | ob n =>
    simp only [vllD] at p1
    split at p1
    · rename_i kvs e1
      simp only [Rep] at r1
      obtain ⟨a, rfl, ea⟩ := r1
      obtain ⟨kv, g1, g2⟩ := i1.ob n _ a e1 ea
      simp only [lkd, Bool.false_eq_true, if_false] at g1
      refine ⟨a, kv, rfl, g1, fun q hq => ?_⟩
      refine p1 _ (as1 ++ [q]) _ (ext_new hq) (i1.new hq ⟨_, upd_same, (vals_reps g2).mono (ext_new hq)⟩) ?_
      simp only [Rep]
      exact ⟨q, rfl, by rw [← i1.len]; simp⟩
    · exact p1.elim
  | _ => exact p1.elim
theorem se_neg {a : E} {x : Expr} {pos : Pos} (ha : SE M X Wx cf a x) : PE X (.UnaryOp .USub x pos) (tE (M.g X.K) Wx (evalE M.W cf M.cx (.neg a))) := by
  refine pe_imp (pe_un un_neg ha.1) ?_
  rintro σ H Q ⟨σI, h, as, sl, hi, p⟩
  simp only [evalE] at p
  obtain ⟨q1, q2, q3, sl', hi', p'⟩ := then1 sl hi p
  refine ⟨q1, q2, q3, sl', hi', p'.imp ?_⟩
  rintro v H1 ⟨d, h1, as1, _, x1, sl1, i1, r1, p1⟩
  cases d with
  | int i =>
    simp only [Rep] at r1; subst r1
    exact ⟨i, rfl, p1 _ as1 H1 Ext.refl i1 (by simp only [Rep])⟩
  | _ => exact p1.elim
def rBlC (M : Mx) (K : PySem.W.Frag) (Wx : WX) (σ : L2.St) (b : Bf) : List V → Hp → VK → Prop := fun xs H Q => ∃ ds h as, HI (M.g K) h as H ∧ Reps (M.g K) as H ds xs ∧ post (M.g K) Wx (Rep (M.g K)) as H σ (bltC M.W b ds h) Q
theorem bl_listC (K : Cok X M C sc n Wx cf) (hh : C.hot = false) (σ' : L2.St) : CallR X (.type "list") (rBlC M X.K Wx σ' .list) := by
  intro pins s σ H xs us Q I r hh
  obtain ⟨ds, h, as, hi, rs, p⟩ := hh
  simp only [bltC] at p
  split at p
  · rename_i g
    obtain ⟨v, _, rfl, r1, rn⟩ := rs.cons_inv
    obtain rfl := rn.nil_inv
    split at p
    · rename_i hg
      subst hg
      simp only [Rep] at r1
      obtain ⟨a, rfl, ha⟩ := r1
      refine call_list_of pins s σ H _ us Q I r ⟨a, _, rfl, .inl (K.scr.1 a ha H), fun q hq => ?_⟩
      refine p _ (as ++ [q]) _ (ext_new hq) (hi.new hq ⟨_, upd_same, Reps.ints⟩) ?_
      simp only [Rep]
      exact ⟨q, rfl, by rw [← hi.len]; simp⟩
    · split at p
      · rename_i ys ey
        simp only [Rep] at r1
        obtain ⟨a, rfl, ha⟩ := r1
        obtain ⟨ws, hv, _⟩ := K.con g ys a ey ha
        refine call_list_of pins s σ H _ us Q I r ⟨a, ws, rfl, .inr (hv H as).1, fun q hq => ?_⟩
        refine p _ (as ++ [q]) _ (ext_new hq) (hi.new hq ⟨_, upd_same, (hv H as).2.mono (ext_new hq)⟩) ?_
        simp only [Rep]
        exact ⟨q, rfl, by rw [← hi.len]; simp⟩
      · exact p.elim
  · exact bl_list (K.cool hh).calm σ' pins s σ H xs us Q I r ⟨ds, h, as, hi, rs, p⟩
theorem bl_lenC (K : Cok X M C sc n Wx cf) (σ' : L2.St) : CallR X (.builtin "len") (rBlC M X.K Wx σ' .len) := by
  intro pins s σ H xs us Q I r hh
  obtain ⟨ds, h, as, hi, rs, p⟩ := hh
  simp only [bltC] at p
  split at p
  · rename_i g
    obtain ⟨v, _, rfl, r1, rn⟩ := rs.cons_inv
    obtain rfl := rn.nil_inv
    split at p
    · rename_i hg
      subst hg
      simp only [Rep] at r1
      obtain ⟨a, rfl, ha⟩ := r1
      refine call_len_seq pins s σ H _ us Q I r ⟨a, _, rfl, .inl (K.scr.1 a ha H), ?_⟩
      rw [List.length_map]
      exact p _ as H Ext.refl hi (by simp only [Rep])
    · exact p.elim
  · exact bl_len σ' pins s σ H xs us Q I r ⟨ds, h, as, hi, rs, p⟩
theorem call_dictE {a : Addr} {Q : VK} {us : List Value} {pins : List (Addr × Obj)} {s : Shared} {σ : L2.St} {H : Hp} (hcalm : X.calm = true) (I : Inv X pins σ H s) (he : EmptyT X.K a) (r : Vals [.ref a] us) (q : ∀ p, H p = none → Q (.ref p) (upd H p (.dK []))) :
    wpAny (model X.prog X.w) X.A (call (.type "dict") us) (EP X pins σ Q) X.xe s := by
  obtain ⟨u, rfl, rx⟩ := vals1 r
  cases rx
  obtain ⟨nn, sl, hl⟩ := he
  have ho := I.kIn a _ hl
  refine PySem.call_dict_pairs (knd := mixKind X.prog X.w) (kvs := []) (PySem.PairArg.tuple (prog := X.prog) (w := X.w) a #[] (fun _ => 0) []) (I.ok.hd hcalm) ⟨⟨_, nn, ho, rfl, rfl, rfl⟩, rfl, fun j k v e => (by cases e)⟩ ⟨rfl, fun j key v e => (by cases e)⟩ (Nat.zero_le _) fun h' tk hd' k => ?_
  have hm : (s.heap.objs.size == sysModules) = false := beq_eq_false_iff_ne.mpr (Nat.ne_of_gt I.big)
  exact ⟨.ref s.heap.objs.size, upd H s.heap.objs.size (.dK []), I.laid (t' := tk) (fun b o e => k b o (by first | simp | trivial | exact (fun z => nomatch z)) e) (Nat.le_refl _) (show ObjOk X.prog X.w _ _ _ (.dK []) from ⟨Nat.zero_le _, hm, [], .nil, hd'⟩), rfl, q _ (I.hok.fresh (Nat.le_refl _))⟩
theorem bl_dictC (K : Cok X M C sc n Wx cf) (hh : C.hot = false) (σ' : L2.St) : CallR X (.type "dict") (rBlC M X.K Wx σ' .dict) := by
  intro pins s σ H xs us Q I r hh'
  obtain ⟨ds, h, as, hi, rs, p⟩ := hh'
  simp only [bltC] at p
  split at p
  · rename_i g
    obtain ⟨v, _, rfl, r1, rn⟩ := rs.cons_inv
    obtain rfl := rn.nil_inv
    split at p
    · rename_i hg
      subst hg
      simp only [Rep] at r1
      obtain ⟨a, rfl, ha⟩ := r1
      refine call_dictE (K.cool hh).calm I (K.scr.2 a ha) r fun q hq => ?_
      refine p _ (as ++ [q]) _ (ext_new hq) (hi.new hq ⟨[], ?_, .nil⟩) ?_
      · simp only [lkd, Bool.false_eq_true, if_false]; exact upd_same
      · simp only [Rep]
        exact ⟨q, rfl, by rw [← hi.len]; simp⟩
    · exact p.elim
  · exact bl_dict (K.cool hh).calm σ' pins s σ H xs us Q I r ⟨ds, h, as, hi, rs, p⟩
/-- a built-in function called -/
theorem se_blt (K : Cok X M C sc n Wx cf) {b : Bf} (hot : C.hot = false ∨ b = .int) {es : List E} {x : Str} {xs : List Expr} {p pos : Pos} {nm : Str} {fl : Bool} (h1 : glB sc x = true) (h2 : okN x = true) (h3 : bfName b = some (nm, fl)) (h4 : x = nm) (h5 : chkEs C es sc xs = true) (h6 : es ≠ []) (h : SL2 M X Wx cf es xs) :
    PE X (.Call (.Name x p) xs [] pos) (tE (M.g X.K) Wx (evalE M.W cf M.cx (.blt b es))) := by
  subst h4
  refine ⟨fun pins s σ H Q I q => ?_⟩
  obtain ⟨σI, hh, as, sl, hi, p⟩ := q
  simp only [evalE] at p
  have tt : tCB (rBlC M X.K Wx σ b) (tEs (M.g X.K) Wx (evalEs M.W cf M.cx es)) σ H Q := by
    obtain ⟨q1, q2, q3, sl', hi', p'⟩ := thens sl hi p
    refine ⟨q1, q2, q3, sl', hi', p'.imp ?_⟩
    rintro vs H1 ⟨ds, h1, as1, _, x1, sl1, i1, r1, p1⟩
    exact ⟨ds, h1, as1, i1, r1, p1⟩
  have pa := pa_of h
  cases xs with
  | nil => cases es with
    | nil => exact absurd rfl h6
    | cons e es => simp [chkEs] at h5
  | cons y ys =>
    cases es with
    | nil => exact absurd rfl h6
    | cons e es =>
      simp only [chkEs, Bool.and_eq_true, Bool.not_eq_true'] at h5
      have st1 := star_one h5.1.2 ys X.env
      have st2 : (backTo pos (starEach ys X.env)).any (·.1) = false := chkEs_star h5.2
      obtain ⟨d1, d2, d3⟩ := okN_ok h2
      rcases hot with hot | rfl
      case inr => cases h3; exact (pe_callTy (bl_int σ) (K.gl _ h1) (K.bl _ (by decide +kernel)) (by decide +kernel) pa d3 d1 st1 st2).run pins s σ H Q I tt
      have mm := bl_mm (M := M) (Wx := Wx) (K.cool hot).calm σ
      have rr := bl_repr (M := M) (Wx := Wx) K.gd K.hu σ
      have ra := bl_all (M := M) (Wx := Wx) (K.cool hot).calm σ
      cases b <;> simp only [bfName, Option.some.injEq, Prod.mk.injEq, reduceCtorEq] at h3 <;> obtain ⟨rfl, rfl⟩ := h3
      · exact (pe_callB (bl_lenC K σ) (K.gl _ h1) (K.bl _ (by decide +kernel)) (by decide +kernel) pa d3 d1 st1 st2).run pins s σ H Q I tt
      · exact (pe_callB (bl_abs σ) (K.gl _ h1) (K.bl _ (by decide +kernel)) (by decide +kernel) pa d3 d1 st1 st2).run pins s σ H Q I tt
      · exact (pe_callTy (bl_int σ) (K.gl _ h1) (K.bl _ (by decide +kernel)) (by decide +kernel) pa d3 d1 st1 st2).run pins s σ H Q I tt
      · exact (pe_callTy (bl_str σ) (K.gl _ h1) (K.bl _ (by decide +kernel)) (by decide +kernel) pa d3 d1 st1 st2).run pins s σ H Q I tt
      · exact (pe_callTy (bl_listC K hot σ) (K.gl _ h1) (K.bl _ (by decide +kernel)) (by decide +kernel) pa d3 d1 st1 st2).run pins s σ H Q I tt
      · exact (pe_callTy (bl_tuple σ) (K.gl _ h1) (K.bl _ (by decide +kernel)) (by decide +kernel) pa d3 d1 st1 st2).run pins s σ H Q I tt
      · exact (pe_callTy (bl_dictC K hot σ) (K.gl _ h1) (K.bl _ (by decide +kernel)) (by decide +kernel) pa d3 d1 st1 st2).run pins s σ H Q I tt
      · exact (pe_callB mm.1 (K.gl _ h1) (K.bl _ (by decide +kernel)) (by decide +kernel) pa d3 d1 st1 st2).run pins s σ H Q I tt
      · exact (pe_callB mm.2 (K.gl _ h1) (K.bl _ (by decide +kernel)) (by decide +kernel) pa d3 d1 st1 st2).run pins s σ H Q I tt
      · exact (pe_callB rr (K.gl _ h1) (K.bl _ (by decide +kernel)) (by decide +kernel) pa d3 d1 st1 st2).run pins s σ H Q I tt
      · exact (pe_callB (cr_srt (M := M) (Wx := Wx) (K.cool hot).calm σ) (K.gl _ h1) (K.bl _ (by decide +kernel)) (by decide +kernel) pa d3 d1 st1 st2).run pins s σ H Q I tt
      · exact (pe_callB ra (K.gl _ h1) (K.bl _ (by decide +kernel)) (by decide +kernel) pa d3 d1 st1 st2).run pins s σ H Q I tt
      · exact (pe_callTy (bl_ptup σ) (K.gl _ h1) (K.bl _ (by decide +kernel)) (by decide +kernel) pa d3 d1 st1 st2).run pins s σ H Q I tt
theorem se_isi (K : Cok X M C sc n Wx cf) {b : Bf} {T : String} {es : List E} {a : Expr} {p p2 pos : Pos} (h1 : glB sc (Str.ofString "isinstance") = true) (h2 : glB sc (Str.ofString T) = true) (h3 : tyOfB b = some T) (h5 : isStar a = false) (h : SL2 M X Wx cf es [a]) :
    PE X (.Call (.Name (Str.ofString "isinstance") p) [a, .Name (Str.ofString T) p2] [] pos) (tE (M.g X.K) Wx (evalE M.W cf M.cx (.blt b es))) := by
  refine ⟨fun pins s σ H Q I q => ?_⟩
  obtain ⟨σI, hh, as, sl, hi, p⟩ := q
  simp only [evalE] at p
  have hT : PE X (.Name (Str.ofString T) p2) (L2.tC (.ty T)) := by
    cases b <;> simp only [tyOfB, Option.some.injEq, reduceCtorEq] at h3 <;> subst h3
    all_goals exact pe_bltn (K.gl _ h2) (K.bl _ (by decide +kernel)) (by decide +kernel) rfl (by decide +kernel) (by decide +kernel)
  cases h with
  | cons h1' h2' =>
    cases h2'
    rename_i e
    have pa : PA X [a, .Name (Str.ofString T) p2] (tCons (tE (M.g X.K) Wx (evalE M.W cf M.cx e)) (tCons (L2.tC (.ty T)) tNil)) := pa_cons h1'.1.1 (pa_cons hT pa_nil rfl) (star_one h5 _ _)
    refine (pe_callB (bl_is (M := M) (Wx := Wx) h3 σ) (K.gl _ h1) (K.bl _ (by decide +kernel)) (by decide +kernel) pa (by decide +kernel) (by decide +kernel) (star_one h5 _ _) rfl).run pins s σ H Q I ?_
    simp only [evalEs, R.bind_assoc, R.bind_ok] at p
    obtain ⟨q1, q2, q3, sl', hi', p'⟩ := then1 sl hi p
    refine ⟨q1, q2, q3, sl', hi', p'.imp ?_⟩
    rintro v H1 ⟨d, h1, as1, _, x1, sl1, i1, r1, p1⟩
    refine ⟨v, d, h1, as1, rfl, i1, r1, ?_⟩
    cases b <;> first | exact p1 | (simp [tyOfB] at h3)
end
section
variable {M : Mx} {C : Ck} {n : Nat} {cf : CF}
abbrev SEW (M : Mx) (X : Cx) (Wx : WX) (cf : CF) (ie : E) (e : Expr) : Prop := SE M X Wx cf ie e ∧ (∀ op xs pos, e = .BoolOp op xs pos → PW X e (tT (M.g X.K) Wx (evalE M.W cf M.cx ie)))
theorem SEW.of {X : Cx} {Wx : WX} {ie : E} {e : Expr} (h : SE M X Wx cf ie e) (hb : ∀ op xs pos, e ≠ .BoolOp op xs pos) : SEW M X Wx cf ie e := ⟨h, fun op xs pos q => absurd q (hb op xs pos)⟩
mutual
theorem sE : ∀ (ie : E) {X : Cx} {sc : Scope} {Wx : WX} {e : Expr}, chkE C ie sc e = true → Cok X M C sc n Wx cf → SEW M X Wx cf ie e
  | .var i, X, sc, Wx, e, h, K => by
    cases e <;> simp only [chkE, Bool.false_eq_true, Bool.and_eq_true] at h
    have := se_var (pos := by assumption) K h.1.1 h.1.2 h.2
    exact .of ⟨this, mkT this fun _ => rfl⟩ (by intros; simp)
  | .cst d, X, sc, Wx, e, h, K => by
    cases e <;> simp only [chkE, Bool.false_eq_true, Bool.and_eq_true] at h
    have := se_cst (X := X) (M := M) (Wx := Wx) (cf := cf) (pos := by assumption) (k := by assumption) h
    exact .of ⟨this, mkT this fun _ => rfl⟩ (by intros; simp)
  | .glb g, X, sc, Wx, e, h, K => by
    cases e <;> simp only [chkE, Bool.false_eq_true, Bool.and_eq_true] at h
    have := se_glb (pos := by assumption) K h.1.1 h.1.2 h.2
    exact .of ⟨this, mkT this fun _ => rfl⟩ (by intros; simp)
  | .fnv g, X, sc, Wx, e, h, K => by
    cases e <;> simp only [chkE, Bool.false_eq_true, Bool.and_eq_true, Bool.not_eq_true'] at h
    have := se_fnv (pos := by assumption) K h.1 h.2.1.1 h.2.1.2 h.2.2
    exact .of ⟨this, mkT this fun _ => rfl⟩ (by intros; simp)
  | .bin o a b, X, sc, Wx, e, h, K => by
    cases e <;> simp only [chkE, Bool.false_eq_true, Bool.and_eq_true] at h
    have := se_bin (pos := by assumption) K h.1.1 (sE a h.1.2 K).1 (sE b h.2 K).1
    exact .of ⟨this, mkT this fun _ => rfl⟩ (by intros; simp)
  | .neg a, X, sc, Wx, e, h, K => by
    cases e <;> try (simp only [chkE, Bool.false_eq_true] at h; done)
    rename_i op x pos
    cases op <;> simp only [chkE, Bool.false_eq_true] at h
    have := se_neg (pos := pos) (sE a h K).1
    exact .of ⟨this, mkT this fun _ => rfl⟩ (by intros; simp)
  | .cmp o a b, X, sc, Wx, e, h, K => by
    cases e <;> try (simp only [chkE, Bool.false_eq_true] at h; done)
    rename_i l ops rs pos
    match ops, rs with
    | [op], [r] =>
      simp only [chkE, Bool.and_eq_true, Bool.not_eq_true'] at h
      exact .of (se_cmp K h.1.1.1 (sE a h.1.1.2 K).1 (sE b h.1.2 K).1 h.2) (by intros; simp)
    | [], _ => simp [chkE] at h
    | [_], [] => simp [chkE] at h
    | [_], _ :: _ :: _ => simp [chkE] at h
    | _ :: _ :: _, _ => simp [chkE] at h
  | .chn o o' a b c, X, sc, Wx, e, h, K => by
    cases e <;> try (simp only [chkE, Bool.false_eq_true] at h; done)
    rename_i l ops rs pos
    match ops, rs with
    | [op, op'], [m, r] =>
      simp only [chkE, Bool.and_eq_true, Bool.not_eq_true'] at h
      exact .of (se_chn K h.1.1.1.1.1 h.1.1.1.1.2 (sE a h.1.1.1.2 K).1 (sE b h.1.1.2 K).1 (sE c h.1.2 K).1 h.2) (by intros; simp)
    | [], _ => simp [chkE] at h
    | [_], _ => simp [chkE] at h
    | [_, _], [] => simp [chkE] at h
    | [_, _], [_] => simp [chkE] at h
    | [_, _], _ :: _ :: _ :: _ => simp [chkE] at h
    | _ :: _ :: _ :: _, _ => simp [chkE] at h
  | .and a b, X, sc, Wx, e, h, K => by
    cases e <;> try (simp only [chkE, Bool.false_eq_true] at h; done)
    rename_i op xs pos
    cases op <;> try (simp only [chkE, Bool.false_eq_true] at h; done)
    match xs with
    | [] => simp [chkE] at h
    | [_] => simp [chkE] at h
    | [x, y] =>
      simp only [chkE, Bool.and_eq_true] at h
      have hb := (sE b h.2 K).1
      have := se_and (pos := pos) K (sE a h.1 K).1 (pe_one hb.1) (pw_and1 hb.2)
      exact ⟨⟨this.1, this.2.pt⟩, fun _ _ _ _ => this.2⟩
    | x :: y :: z :: r =>
      simp only [chkE, Bool.and_eq_true] at h
      have hb := sE b h.2 K
      have := se_and (pos := pos) K (sE a h.1 K).1 hb.1.1 (hb.2 _ _ _ rfl)
      exact ⟨⟨this.1, this.2.pt⟩, fun _ _ _ _ => this.2⟩
  | .or a b, X, sc, Wx, e, h, K => by
    cases e <;> try (simp only [chkE, Bool.false_eq_true] at h; done)
    rename_i op xs pos
    cases op <;> try (simp only [chkE, Bool.false_eq_true] at h; done)
    match xs with
    | [] => simp [chkE] at h
    | [_] => simp [chkE] at h
    | [x, y] =>
      simp only [chkE, Bool.and_eq_true] at h
      have hb := (sE b h.2 K).1
      have := se_or (pos := pos) K (sE a h.1 K).1 (pe_one hb.1) (pw_or1 hb.2)
      exact ⟨⟨this.1, this.2.pt⟩, fun _ _ _ _ => this.2⟩
    | x :: y :: z :: r =>
      simp only [chkE, Bool.and_eq_true] at h
      have hb := sE b h.2 K
      have := se_or (pos := pos) K (sE a h.1 K).1 hb.1.1 (hb.2 _ _ _ rfl)
      exact ⟨⟨this.1, this.2.pt⟩, fun _ _ _ _ => this.2⟩
  | .not a, X, sc, Wx, e, h, K => by
    cases e <;> try (simp only [chkE, Bool.false_eq_true] at h; done)
    rename_i op x pos
    cases op <;> simp only [chkE, Bool.false_eq_true] at h
    exact .of (se_not K (sE a h K).1) (by intros; simp)
  | .ife c a b, X, sc, Wx, e, h, K => by
    cases e <;> simp only [chkE, Bool.false_eq_true, Bool.and_eq_true] at h
    exact .of (se_ife K (sE c h.1.1 K).1 (sE a h.1.2 K).1 (sE b h.2 K).1) (by intros; simp)
  | .tup es, X, sc, Wx, e, h, K => by
    cases e <;> simp only [chkE, Bool.false_eq_true] at h
    have := se_tup (k := by assumption) (pos := by assumption) (pa_of (sEs es h K))
    exact .of ⟨this, mkT this fun _ => rfl⟩ (by intros; simp)
  | .lst es, X, sc, Wx, e, h, K => by
    cases e <;> simp only [chkE, Bool.false_eq_true] at h
    have := se_lst (pos := by assumption) (pa_of (sEs es h K))
    exact .of ⟨this, mkT this fun _ => rfl⟩ (by intros; simp)
  | .dic t ks vs, X, sc, Wx, e, h, K => by
    cases e <;> try (simp only [chkE, Bool.false_eq_true] at h; done)
    rename_i xs ys pos
    simp only [chkE, Bool.or_eq_true, Bool.and_eq_true, List.isEmpty_iff, Bool.not_eq_true', decide_eq_true_eq] at h
    rcases h with h | h
    · obtain ⟨⟨⟨rfl, rfl⟩, rfl⟩, rfl⟩ := h
      have := se_dic (X := X) (M := M) (Wx := Wx) (cf := cf) (t := t) (pos := pos)
      exact .of ⟨this, mkT this fun _ => rfl⟩ (by intros; simp)
    · obtain ⟨⟨⟨⟨⟨rfl, h1⟩, h2⟩, h3⟩, h4⟩, h5⟩ := h
      have hv := sEs vs h5 K
      have hx : vs.length = ys.length := sl2_len hv
      have := se_disp (X := X) (M := M) (Wx := Wx) (cf := cf) (pos := pos) h1 hv (by intro q; rw [q] at h2; simp at h2) h3 h4 hx
      exact .of ⟨this, mkT this fun _ => rfl⟩ (by intros; simp)
  | .gix g a, X, sc, Wx, e, h, K => by
    cases e <;> try (simp only [chkE, Bool.false_eq_true] at h; done)
    rename_i x y pos
    cases x <;> try (simp only [chkE, Bool.false_eq_true] at h; done)
    rename_i nm pp
    simp only [chkE, Bool.and_eq_true, Bool.not_eq_true'] at h
    have := se_gix (pp := pp) (pos := pos) K h.1.1.1.1 h.1.1.1.2 h.1.1.2 (sE a h.1.2 K).1 h.2
    exact .of ⟨this, mkT this fun _ => rfl⟩ (by intros; simp)
  | .gin neg g a, X, sc, Wx, e, h, K => by
    cases e <;> try (simp only [chkE, Bool.false_eq_true] at h; done)
    rename_i l ops rs pos
    match ops, rs with
    | [op], [.Name x pp] =>
      simp only [chkE, Bool.and_eq_true] at h
      exact .of (se_gin K h.1.1.1.1 h.1.1.1.2 h.1.1.2 h.1.2 (sE a h.2 K).1) (by intros; simp)
    | [], _ => simp [chkE] at h
    | _ :: _ :: _, _ => simp [chkE] at h
    | [_], [] => simp [chkE] at h
    | [_], _ :: _ :: _ => simp [chkE] at h
    | [_], [.Constant _ _ _] => simp [chkE] at h
  | .lnI a, X, sc, Wx, e, h, K => by
    cases e <;> try (simp only [chkE, Bool.false_eq_true] at h; done)
    rename_i fn xs kw pos
    cases fn <;> try (simp only [chkE, Bool.false_eq_true] at h; done)
    rename_i x pp
    match xs, kw with
    | [y], [] =>
      simp only [chkE, Bool.and_eq_true, Bool.not_eq_true', decide_eq_true_eq] at h
      obtain ⟨hh, ⟨⟨rfl, h2⟩, h3⟩, h4⟩ := h
      have := se_lnI (pp := pp) (pos := pos) K hh h2 (sE a h3 K).1 h4
      exact .of ⟨this, mkT this fun _ => rfl⟩ (by intros; simp)
    | [], _ => simp [chkE] at h
    | _ :: _ :: _, _ => simp [chkE] at h
    | [_], _ :: _ => simp [chkE] at h
  | .vll a, X, sc, Wx, e, h, K => by
    cases e <;> try (simp only [chkE, Bool.false_eq_true] at h; done)
    rename_i fn xs kw pos
    cases fn <;> try (simp only [chkE, Bool.false_eq_true] at h; done)
    rename_i x pp
    match xs, kw with
    | [z], [] =>
      cases z <;> try (simp only [chkE, Bool.false_eq_true] at h; done)
      rename_i zf zs zk cp
      cases zf <;> try (simp only [chkE, Bool.false_eq_true] at h; done)
      rename_i y g ap
      match zs, zk with
      | [], [] =>
        simp only [chkE, Bool.and_eq_true, Bool.not_eq_true', decide_eq_true_eq] at h
        obtain ⟨hh, ⟨⟨⟨⟨⟨rfl, h2⟩, rfl⟩, h4⟩, h5⟩, h6⟩⟩ := h
        have := se_vll (pp := pp) (pos := pos) K hh h2 h4 h5 (sE a h6 K).1
        exact .of ⟨this, mkT this fun _ => rfl⟩ (by intros; simp)
      | _ :: _, _ => simp [chkE] at h
      | [], _ :: _ => simp [chkE] at h
    | [], _ => simp [chkE] at h
    | _ :: _ :: _, _ => simp [chkE] at h
    | [_], _ :: _ => simp [chkE] at h
  | .itl a, X, sc, Wx, e, h, K => by
    cases e <;> try (simp only [chkE, Bool.false_eq_true] at h; done)
    rename_i fn xs kw pos
    cases fn <;> try (simp only [chkE, Bool.false_eq_true] at h; done)
    rename_i x pp
    match xs, kw with
    | [z], [] =>
      cases z <;> try (simp only [chkE, Bool.false_eq_true] at h; done)
      rename_i zf zs zk cp
      cases zf <;> try (simp only [chkE, Bool.false_eq_true] at h; done)
      rename_i y g ap
      match zs, zk with
      | [], [] =>
        simp only [chkE, Bool.and_eq_true, Bool.not_eq_true', decide_eq_true_eq] at h
        obtain ⟨hh, ⟨⟨⟨⟨⟨rfl, h2⟩, rfl⟩, h4⟩, h5⟩, h6⟩⟩ := h
        have := se_itl (pp := pp) (pos := pos) K hh h2 h4 h5 (sE a h6 K).1
        exact .of ⟨this, mkT this fun _ => rfl⟩ (by intros; simp)
      | _ :: _, _ => simp [chkE] at h
      | [], _ :: _ => simp [chkE] at h
    | [], _ => simp [chkE] at h
    | _ :: _ :: _, _ => simp [chkE] at h
    | [_], _ :: _ => simp [chkE] at h
  | .ptd a, X, sc, Wx, e, h, K => by
    cases e <;> try (simp only [chkE, Bool.false_eq_true] at h; done)
    rename_i fn xs kw pos
    cases fn <;> try (simp only [chkE, Bool.false_eq_true] at h; done)
    rename_i x pp
    match xs, kw with
    | [z], [] =>
      cases z <;> try (simp only [chkE, Bool.false_eq_true] at h; done)
      rename_i zf zs zk cp
      cases zf <;> try (simp only [chkE, Bool.false_eq_true] at h; done)
      rename_i y g ap
      match zs, zk with
      | [], [] =>
        simp only [chkE, Bool.and_eq_true, Bool.not_eq_true', decide_eq_true_eq] at h
        obtain ⟨hh, ⟨⟨⟨⟨⟨rfl, h2⟩, rfl⟩, h4⟩, h5⟩, h6⟩⟩ := h
        have := se_ptd (pp := pp) (pos := pos) K hh h2 h4 h5 (sE a h6 K).1
        exact .of ⟨this, mkT this fun _ => rfl⟩ (by intros; simp)
      | _ :: _, _ => simp [chkE] at h
      | [], _ :: _ => simp [chkE] at h
    | [], _ => simp [chkE] at h
    | _ :: _ :: _, _ => simp [chkE] at h
    | [_], _ :: _ => simp [chkE] at h
  | .itr a, X, sc, Wx, e, h, K => by
    cases e <;> try (simp only [chkE, Bool.false_eq_true] at h; done)
    rename_i fn xs kw pos
    cases fn <;> try (simp only [chkE, Bool.false_eq_true] at h; done)
    rename_i x pp
    match xs, kw with
    | [z], [] =>
      cases z <;> try (simp only [chkE, Bool.false_eq_true] at h; done)
      rename_i zf zs zk cp
      cases zf <;> try (simp only [chkE, Bool.false_eq_true] at h; done)
      rename_i y g ap
      match zs, zk with
      | [], [] =>
        simp only [chkE, Bool.and_eq_true, Bool.not_eq_true', decide_eq_true_eq] at h
        obtain ⟨hh, ⟨⟨⟨⟨⟨rfl, h2⟩, rfl⟩, h4⟩, h5⟩, h6⟩⟩ := h
        have : PE X (.Call (.Name (Str.ofString "iter") pp) [.Call (.Attribute y (Str.ofString "items") ap) [] [] cp] [] pos) (tE (M.g X.K) Wx (evalE M.W cf M.cx (.itr a))) := by
          refine pe_imp (OwI.pe_iterItems (sE a h6 K).1.1 (K.gl _ h2) (K.bl _ (by decide +kernel)) (bare_ok h4) h5) ?_
          rintro σ H Q ⟨σI, h, as, sl, hi, p⟩
          simp only [evalE] at p
          exact p.elim
        exact .of ⟨this, mkT this fun _ => rfl⟩ (by intros; simp)
      | _ :: _, _ => simp [chkE] at h
      | [], _ :: _ => simp [chkE] at h
    | [], _ => simp [chkE] at h
    | _ :: _ :: _, _ => simp [chkE] at h
    | [_], _ :: _ => simp [chkE] at h
  | .newd c, X, sc, Wx, e, h, K => by
    cases e <;> try (simp only [chkE, Bool.false_eq_true] at h; done)
    rename_i fn xs kw pos
    cases fn <;> try (simp only [chkE, Bool.false_eq_true] at h; done)
    rename_i x pp
    match xs, kw with
    | [], [] =>
      simp only [chkE, Bool.and_eq_true, Bool.not_eq_true', decide_eq_true_eq] at h
      obtain ⟨hh, ⟨⟨h1, h2⟩, h3⟩, h4⟩ := h
      have := se_newd (p := pp) (pos := pos) K hh h1 h2 h3 h4
      exact .of ⟨this, mkT this fun _ => rfl⟩ (by intros; simp)
    | _ :: _, _ => simp [chkE] at h
    | [], _ :: _ => simp [chkE] at h
  | .ix a i, X, sc, Wx, e, h, K => by
    cases e <;> try (simp only [chkE, Bool.false_eq_true] at h; done)
    rename_i x y pos
    simp only [chkE, Bool.and_eq_true, Bool.not_eq_true'] at h
    have := se_ix (pos := pos) K (sE a h.1.1 K).1 (sE i h.1.2 K).1 h.2
    exact .of ⟨this, mkT this fun _ => rfl⟩ (by intros; simp)
  | .slc a lo hi, X, sc, Wx, e, h, K => by
    cases e <;> try (simp only [chkE, Bool.false_eq_true] at h; done)
    rename_i x y pos
    cases y <;> try (simp only [chkE, Bool.false_eq_true] at h; done)
    rename_i l u st p2
    cases st <;> simp only [chkE, Bool.false_eq_true, Bool.and_eq_true] at h
    obtain ⟨⟨h0, h1⟩, h2⟩ := h
    have hl : OptE M X Wx cf lo l := by
      cases l with
      | none => exact List.isEmpty_iff.mp h1
      | some l => cases sEs lo h1 K with
        | cons q1 q2 => cases q2; exact ⟨_, rfl, q1.1⟩
    have hu : OptE M X Wx cf hi u := by
      cases u with
      | none => exact List.isEmpty_iff.mp h2
      | some l => cases sEs hi h2 K with
        | cons q1 q2 => cases q2; exact ⟨_, rfl, q1.1⟩
    have := se_slc (p2 := p2) (pos := pos) K (sE a h0 K).1 hl hu
    exact .of ⟨this, mkT this fun _ => rfl⟩ (by intros; simp)
  | .gst g s, X, sc, Wx, e, h, K => by
    cases e <;> simp only [chkE, Bool.false_eq_true, Bool.and_eq_true] at h
    have := se_gst (pos := by assumption) (n := n) (M := M) (cf := cf) K (of_decide_eq_true h.1.1) h.1.2 h.2
    exact .of ⟨this, mkT this fun _ => rfl⟩ (by intros; simp)
  | .gni g i, X, sc, Wx, e, h, K => by
    cases e <;> simp only [chkE, Bool.false_eq_true, Bool.and_eq_true] at h
    have := se_gni (pos := by assumption) (n := n) (M := M) (cf := cf) K (of_decide_eq_true h.1.1) h.1.2 h.2
    exact .of ⟨this, mkT this fun _ => rfl⟩ (by intros; simp)
  | .back a, X, sc, Wx, e, h, K => by
    unfold chkE at h
    cases eb : backOf e with
    | none =>
      rw [eb] at h
      dsimp only at h
      cases er : revOf e with
      | none => rw [er] at h; cases h
      | some t =>
      obtain ⟨x, y, z⟩ := t
      rw [er] at h
      obtain ⟨p, p2, pos, pos2, rfl⟩ := revOf_ok er
      simp only [Bool.and_eq_true, Bool.not_eq_true', decide_eq_true_eq] at h
      obtain ⟨⟨hh, ⟨⟨⟨rfl, rfl⟩, h1⟩, h2⟩, h3⟩, h4⟩ := h
      have := se_lrv (p := p) (p2 := p2) (pos := pos) (pos2 := pos2) K hh h1 h2 h3 (sE a h4 K).1
      exact .of ⟨this, mkT this fun _ => rfl⟩ (by intros; simp)
    | some x =>
    rw [eb] at h
    obtain ⟨k, p1, p2, p3, pos, rfl⟩ := backOf_ok eb
    have := se_back (k := k) (p1 := p1) (p2 := p2) (p3 := p3) (pos := pos) (sE a h K).1
    exact .of ⟨this, mkT this fun _ => rfl⟩ (by intros; simp)
  | .fld a f, X, sc, Wx, e, h, K => by
    cases e <;> try (simp only [chkE, Bool.false_eq_true] at h; done)
    rename_i x g pos
    simp only [chkE, Bool.and_eq_true, decide_eq_true_eq, Bool.not_eq_true'] at h
    obtain ⟨hh, ⟨h1, rfl⟩, h2⟩ := h
    have := se_fld (f := f) (pos := pos) K hh (sE a h1 K).1 h2
    exact .of ⟨this, mkT this fun _ => rfl⟩ (by intros; simp)
  | .cal f es, X, sc, Wx, e, h, K => by
    cases e <;> try (simp only [chkE, Bool.false_eq_true] at h; done)
    rename_i fn xs kw pos
    cases fn <;> try (simp only [chkE, Bool.false_eq_true] at h; done)
    cases kw <;> simp only [chkE, Bool.false_eq_true, Bool.and_eq_true, Bool.not_eq_true'] at h
    obtain ⟨hh, h⟩ := h
    have := se_cal (p := by assumption) (pos := pos) K hh h.1.1.1 h.1.1.2 h.1.2 h.2 (pa_of (sEs es h.2 K))
    exact .of ⟨this, mkT this fun _ => rfl⟩ (by intros; simp)
  | .cav f es, X, sc, Wx, e, h, K => by
    cases e <;> try (simp only [chkE, Bool.false_eq_true] at h; done)
    rename_i fn xs kw pos
    cases fn <;> try (simp only [chkE, Bool.false_eq_true] at h; done)
    cases kw <;> simp only [chkE, Bool.false_eq_true, Bool.and_eq_true, Bool.not_eq_true'] at h
    obtain ⟨hh, h⟩ := h
    have := se_cav (p := by assumption) (pos := pos) K hh h.1.1.1 h.1.1.2 h.1.2 h.2 (pa_of (sEs es h.2 K))
    exact .of ⟨this, mkT this fun _ => rfl⟩ (by intros; simp)
  | .new f es, X, sc, Wx, e, h, K => by
    cases e <;> try (simp only [chkE, Bool.false_eq_true] at h; done)
    rename_i fn xs kw pos
    cases fn <;> try (simp only [chkE, Bool.false_eq_true] at h; done)
    cases kw <;> simp only [chkE, Bool.false_eq_true, Bool.and_eq_true, decide_eq_true_eq, Bool.not_eq_true'] at h
    obtain ⟨hh, h⟩ := h
    have := se_new (p := by assumption) (pos := pos) K hh h.1.1.1.1 h.1.1.1.2 h.1.1.2 h.1.2 h.2 (pa_of (sEs es h.2 K))
    exact .of ⟨this, mkT this fun _ => rfl⟩ (by intros; simp)
  | .met o m es, X, sc, Wx, e, h, K => by
    cases e <;> try (simp only [chkE, Bool.false_eq_true] at h; done)
    rename_i fn xs kw pos
    cases fn <;> try (simp only [chkE, Bool.false_eq_true] at h; done)
    rename_i y g ap
    cases kw <;> simp only [chkE, Bool.false_eq_true, Bool.and_eq_true, decide_eq_true_eq, Bool.not_eq_true'] at h
    obtain ⟨hh, ⟨⟨⟨⟨h1, rfl⟩, h2⟩, h3⟩, h4⟩, h5⟩ := h
    have := se_met (m := m) K hh (sE o h1 K).1 h2 h3 h4 h5 (pa_of (sEs es h4 K))
    exact .of ⟨this, mkT this fun _ => rfl⟩ (by intros; simp)
  | .blt b es, X, sc, Wx, e, h, K => by
    cases e <;> try (simp only [chkE, Bool.false_eq_true] at h; done)
    rename_i fn xs kw pos
    cases fn <;> try (simp only [chkE, Bool.false_eq_true] at h; done)
    rename_i x p
    cases kw <;> simp only [chkE, Bool.false_eq_true, Bool.and_eq_true, Bool.or_eq_true, decide_eq_true_eq, Bool.not_eq_true'] at h
    obtain ⟨hh, ⟨h1, h2⟩, h3⟩ := h
    have : PE X (.Call (.Name x p) xs [] pos) (tE (M.g X.K) Wx (evalE M.W cf M.cx (.blt b es))) := by
      cases hb : bfName b with
      | some nf =>
        obtain ⟨nm, fl⟩ := nf
        rw [hb] at h3
        simp only [Bool.and_eq_true, decide_eq_true_eq, Bool.not_eq_true', List.isEmpty_eq_false_iff] at h3
        exact se_blt K hh h1 h2 hb h3.1.1 h3.1.2 h3.2 (sEs es h3.1.2 K)
      | none =>
        rw [hb] at h3
        simp only at h3
        split at h3
        · rename_i T a y p2 hT
          simp only [Bool.and_eq_true, decide_eq_true_eq] at h3
          obtain ⟨⟨⟨⟨rfl, rfl⟩, h4⟩, h5⟩, h6⟩ := h3
          have := sEs es h6 K
          exact se_isi K h1 h4 hT (by cases this with | cons q1 q2 => exact q1.2) this
        · cases h3
    exact .of ⟨this, mkT this fun _ => rfl⟩ (by intros; simp)
  | .lc own tg k its cd el, X, sc, Wx, e, h, K => by
    cases e <;> try (simp only [chkE, Bool.false_eq_true] at h; done)
    rename_i elt gens scope pos
    match gens with
    | [] => simp [chkE] at h
    | _ :: _ :: _ => simp [chkE] at h
    | [⟨tg', iter, ifs, asy⟩] =>
        simp only [chkE, Bool.and_eq_true, Bool.not_eq_true', decide_eq_true_eq, List.all_eq_true] at h
        obtain ⟨⟨⟨⟨⟨⟨⟨⟨⟨⟨hh, hnl⟩, rfl⟩, h1⟩, h2⟩, h3⟩, h4⟩, h5⟩, h6⟩, h7⟩, h8⟩ := h
        have hpi : PI X tg' iter (tI X M Wx (evalEs M.W cf M.cx its) k) := by
          cases k <;> simp only [Bool.false_eq_true, Bool.and_eq_true, decide_eq_true_eq] at h8
          · cases sEs its h8.1 K with
            | cons q1 q2 => cases q2; exact pi_seq K q1.1
          · split at h8
            · rename_i p a pos
              simp only [Bool.and_eq_true, decide_eq_true_eq] at h8
              obtain ⟨⟨rfl, h9⟩, h10⟩ := h8
              have := sEs its h10 K
              exact pi_rng1 K h9 (by cases this with | cons q1 q2 => exact q1.2) (pa_of this)
            · cases h8
          · split at h8
            · rename_i p a b pos
              simp only [Bool.and_eq_true, decide_eq_true_eq] at h8
              obtain ⟨⟨rfl, h9⟩, h10⟩ := h8
              have := sEs its h10 K
              exact pi_rng2 K h9 (by cases this with | cons q1 q2 => exact q1.2) (by cases this with | cons q1 q2 => cases q2 with | cons q3 q4 => exact q3.2) (pa_of this)
            · cases h8
          · obtain ⟨ht, h8⟩ := h8
            split at h8
            · rename_i y g ap cp
              simp only [Bool.and_eq_true, decide_eq_true_eq] at h8
              obtain ⟨⟨⟨⟨rfl, h9⟩, h10⟩, h11⟩, _⟩ := h8
              cases sEs its h11 K with
              | cons q1 q2 =>
                cases q2
                exact pi_kv (vl := false) K q1.1 h9 h10 fun _ => by
                  cases tg with
                  | nm i => simp [Tg.tpl] at ht
                  | tp is => cases tg' <;> simp [tgB] at h2; exact ⟨_, _, _, rfl⟩
                  | tn is j => cases tg' <;> simp [tgB] at h2; exact ⟨_, _, _, rfl⟩
            · cases h8
          · split at h8
            · rename_i y g ap cp
              simp only [Bool.and_eq_true, decide_eq_true_eq] at h8
              obtain ⟨⟨⟨⟨rfl, h9⟩, h10⟩, h11⟩, _⟩ := h8
              cases sEs its h11 K with
              | cons q1 q2 =>
                cases q2
                exact pi_kv (vl := true) K q1.1 h9 h10 fun h => by cases h
            · cases h8
          · obtain ⟨ht, h8⟩ := h8
            split at h8
            · rename_i x p a b pos
              simp only [Bool.and_eq_true, decide_eq_true_eq] at h8
              obtain ⟨⟨rfl, h9⟩, h10⟩ := h8
              obtain ⟨elts, kk, tp, rfl⟩ : ∃ elts kk tp, tg' = .Tuple elts kk tp := by
                cases tg with
                | nm i => simp [Tg.tpl] at ht
                | tp is => cases tg' <;> simp [tgB] at h2; exact ⟨_, _, _, rfl⟩
                | tn is j => cases tg' <;> simp [tgB] at h2; exact ⟨_, _, _, rfl⟩
              have := sEs its h10 K
              exact pi_zp K h9 (by cases this with | cons q1 q2 => exact q1.2) (by cases this with | cons q1 q2 => cases q2 with | cons q3 q4 => exact q3.2) (pa_of this)
            · cases h8
          · obtain ⟨ht, h8⟩ := h8
            split at h8
            · rename_i x p a pos
              simp only [Bool.and_eq_true, decide_eq_true_eq] at h8
              obtain ⟨⟨rfl, h9⟩, h10⟩ := h8
              obtain ⟨elts, kk, tp, rfl⟩ : ∃ elts kk tp, tg' = .Tuple elts kk tp := by
                cases tg with
                | nm i => simp [Tg.tpl] at ht
                | tp is => cases tg' <;> simp [tgB] at h2; exact ⟨_, _, _, rfl⟩
                | tn is j => cases tg' <;> simp [tgB] at h2; exact ⟨_, _, _, rfl⟩
              have := sEs its h10 K
              exact pi_enu K h9 (by cases this with | cons q1 q2 => exact q1.2) (pa_of this)
            · cases h8
          · obtain ⟨ht, ⟨h8, h9⟩, _⟩ := h8
            obtain ⟨vn, vp, rfl⟩ : ∃ vn vp, tg' = .Name vn vp := by
              cases tg with
              | nm i => cases tg' <;> simp [tgB, nmB] at h2; exact ⟨_, _, rfl⟩
              | tp is => simp [Tg.tpl] at ht
              | tn is j => simp [Tg.tpl] at ht
            cases sEs its h9 K with
            | cons q1 q2 =>
              cases q2
              exact pi_ow K hh h8 q1.1
        have := se_lc (pos := pos) (scope := scope) K hh (Option.isNone_iff_eq_none.mp hnl) h1 h2 h3 hpi h7 (cd := cd) (ifs := ifs) (fun {X'} e K' => by
          rw [← e]
          refine pts_of ?_
          cases sEs cd h4 K' with
          | nil => rfl
          | cons q1 q2 =>
            cases q2 with
            | nil => exact ⟨_, rfl, q1.1⟩
            | cons _ _ => simp at h5) (fun {X'} e K' => by rw [← e]; exact (sE el h6 K').1.1)
        exact .of ⟨this, mkT this fun _ => rfl⟩ (by intros; simp)
  | .dc own tg k its cd ke el, X, sc, Wx, e, h, K => by
    cases e <;> try (simp only [chkE, Bool.false_eq_true] at h; done)
    rename_i kx vx gens scope pos
    match gens with
    | [] => simp [chkE] at h
    | _ :: _ :: _ => simp [chkE] at h
    | [⟨tg', iter, ifs, asy⟩] =>
        simp only [chkE, Bool.and_eq_true, Bool.not_eq_true', decide_eq_true_eq, List.all_eq_true] at h
        obtain ⟨⟨⟨⟨⟨⟨⟨⟨⟨⟨⟨hh, hnl⟩, rfl⟩, h1⟩, h2⟩, h3⟩, h4⟩, h5⟩, h6⟩, h6b⟩, h7⟩, h8⟩ := h
        have hpi : PI X tg' iter (tI X M Wx (evalEs M.W cf M.cx its) k) := by
          cases k <;> simp only [Bool.false_eq_true, Bool.and_eq_true, decide_eq_true_eq] at h8
          cases sEs its h8.1 K with
          | cons q1 q2 => cases q2; exact pi_seq K q1.1
        have := se_dc (pos := pos) (scope := scope) K hh (Option.isNone_iff_eq_none.mp hnl) h1 h2 h3 hpi h7 (cd := cd) (ifs := ifs) (fun {X'} e K' => by
          rw [← e]
          refine pts_of ?_
          cases sEs cd h4 K' with
          | nil => rfl
          | cons q1 q2 =>
            cases q2 with
            | nil => exact ⟨_, rfl, q1.1⟩
            | cons _ _ => simp at h5) (fun {X'} e K' => by rw [← e]; exact (sE ke h6 K').1.1) (fun {X'} e K' => by rw [← e]; exact (sE el h6b K').1.1)
        exact .of ⟨this, mkT this fun _ => rfl⟩ (by intros; simp)
  | .exf i f, X, sc, Wx, e, h, K => by
    cases e <;> try (simp only [chkE, Bool.false_eq_true] at h; done)
    rename_i x g pos
    cases x <;> try (simp only [chkE, Bool.false_eq_true] at h; done)
    simp only [chkE, Bool.and_eq_true, decide_eq_true_eq] at h
    obtain ⟨⟨⟨⟨⟨h1, h2⟩, h3⟩, h4⟩, h5⟩, rfl⟩ := h
    have := K.exr i _ f (by assumption) pos h1 h2 (isC_ok h3) (K.vis _ h4) h5
    exact .of ⟨this, mkT this fun _ => rfl⟩ (by intros; simp)
  | .exi i k, X, sc, Wx, e, h, K => by
    cases e <;> try (simp only [chkE, Bool.false_eq_true] at h; done)
    rename_i fn xs kw pos
    cases fn <;> try (simp only [chkE, Bool.false_eq_true] at h; done)
    rename_i b pb
    match xs, h with
    | [], h => simp only [chkE, Bool.false_eq_true] at h
    | [_], h => simp only [chkE, Bool.false_eq_true] at h
    | _ :: _ :: _ :: _, h => simp only [chkE, Bool.false_eq_true] at h
    | [x, y], h =>
      cases x <;> try (simp only [chkE, Bool.false_eq_true] at h; done)
      rename_i x px
      cases y <;> try (simp only [chkE, Bool.false_eq_true] at h; done)
      rename_i y py
      cases kw <;> simp only [chkE, Bool.false_eq_true, Bool.and_eq_true, decide_eq_true_eq] at h
      obtain ⟨⟨⟨⟨⟨⟨⟨⟨⟨⟨h1, h2⟩, h3⟩, h4⟩, h5⟩, rfl⟩, h6⟩, h7⟩, h8⟩, h9⟩, h10⟩ := h
      have := K.exq i k _ _ pb px py pos h1 h2 (isC_ok h3) (K.vis _ h4) h5 h7 (isC_ok h8) h9 h10 h6
      exact .of ⟨this, mkT this fun _ => rfl⟩ (by intros; simp)
  | .cml v j es cs, X, sc, Wx, e, h, K => by
    cases e <;> try (simp only [chkE, Bool.false_eq_true] at h; done)
    rename_i fn xs kw pos
    cases fn <;> try (simp only [chkE, Bool.false_eq_true] at h; done)
    rename_i x p
    cases kw <;> simp only [chkE, Bool.false_eq_true, Bool.and_eq_true, Bool.not_eq_true', decide_eq_true_eq] at h
    obtain ⟨hh, ⟨⟨⟨hm, h1⟩, h2⟩, h3⟩, h4⟩ := h
    have : PE X (.Call (.Name x p) xs [] pos) (tE (M.g X.K) Wx (evalE M.W cf M.cx (.cml v j es cs))) := by
      match xs, h4 with
      | [l], h4 =>
        simp only [Bool.and_eq_true, List.isEmpty_iff] at h4
        obtain ⟨rfl, hA⟩ := h4
        exact se_cml (xs := []) (es := []) K hh hm h1 h2 h3 hA (by simp [chkEs]) (by simp) (fun e y q => by cases q)
      | [a, l], h4 =>
        simp only [Bool.and_eq_true] at h4
        obtain ⟨h5, hA⟩ := h4
        have hs := sEs es h5 K
        exact se_cml (xs := [a]) K hh hm h1 h2 h3 hA h5 (by simp) (fun e y q1 q2 => by
          subst q1
          cases q2
          cases hs with | cons g1 g2 => exact g1.1)
      | [], h4 => cases h4
      | _ :: _ :: _ :: _, h4 => cases h4
    exact .of ⟨this, mkT this fun _ => rfl⟩ (by intros; simp)
  | .mml c o m v j cs, X, sc, Wx, e, h, K => by
    cases e <;> try (simp only [chkE, Bool.false_eq_true] at h; done)
    rename_i fn xs kw pos
    cases fn <;> try (simp only [chkE, Bool.false_eq_true] at h; done)
    rename_i y g ap
    cases kw with
    | cons _ _ => match xs with
      | [] => simp [chkE] at h
      | [l] => simp [chkE] at h
      | _ :: _ :: _ => simp [chkE] at h
    | nil =>
      match xs with
      | [] => simp [chkE] at h
      | _ :: _ :: _ => simp [chkE] at h
      | [l] =>
        simp only [chkE, Bool.and_eq_true, Bool.not_eq_true', decide_eq_true_eq] at h
        obtain ⟨hh, ⟨⟨⟨⟨⟨hm, h1⟩, rfl⟩, h2⟩, h3⟩, h4⟩, hA⟩ := h
        have := se_mml (m := m) K hh hm h4 hA (sE o h1 K).1 h2 h3
        exact .of ⟨this, mkT this fun _ => rfl⟩ (by intros; simp)
  | .cvl i es, X, sc, Wx, e, h, K => by
    cases e <;> try (simp only [chkE, Bool.false_eq_true] at h; done)
    rename_i fn xs kw pos
    cases fn <;> try (simp only [chkE, Bool.false_eq_true] at h; done)
    cases kw <;> simp only [chkE, Bool.false_eq_true, Bool.and_eq_true, Bool.not_eq_true', decide_eq_true_eq] at h
    obtain ⟨hh, ⟨⟨⟨h1, h2⟩, h3⟩, h4⟩, h5⟩ := h
    have := K.lmr i _ es xs (by assumption) pos hh h1 (isC_ok h2) (K.vis _ h3) h4 h5 (pa_of (sEs es h5 K))
    exact .of ⟨this, mkT this fun _ => rfl⟩ (by intros; simp)
theorem sEs : ∀ (es : List E) {X : Cx} {sc : Scope} {Wx : WX} {xs : List Expr}, chkEs C es sc xs = true → Cok X M C sc n Wx cf → SL2 M X Wx cf es xs
  | [], X, sc, Wx, [], _, _ => .nil
  | e :: es, X, sc, Wx, x :: xs, h, K => by
    simp only [chkEs, Bool.and_eq_true, Bool.not_eq_true'] at h
    exact .cons ⟨(sE e h.1.1 K).1, h.1.2⟩ (sEs es h.2 K)
  | [], X, sc, Wx, _ :: _, h, _ => by simp [chkEs] at h
  | _ :: _, X, sc, Wx, [], h, _ => by simp [chkEs] at h
end
end
end Rf
end

section
namespace Rf
open PySem PySem.Spec PyProof.Rows L2
/-! ## match -/
def litsB : List (List Char) → List Pattern → Bool
  | [], [] => true
  | w :: ws, .MatchValue (.Constant (.str z) _ _) _ :: ps => decide (st w = z) && litsB ws ps
  | _, _ => false
def litB (ws : List (List Char)) : Pattern → Bool
  | .MatchValue (.Constant (.str z) _ _) _ => decide (ws.map st = [z])
  | .MatchOr ps _ => litsB ws ps
  | _ => false
def restB (C : Ck) (sc : Scope) : List (Option Nat) → List Pattern → Bool
  | [], [] => true
  | none :: sl, .MatchAs none none _ :: ps => restB C sc sl ps
  | some i :: sl, .MatchAs none (some x) _ :: ps => isC C.N i x && locB sc x && restB C sc sl ps
  | _, _ => false
def patB (C : Ck) (sc : Scope) (ws : List (List Char)) (sl : List (Option Nat)) : Pattern → Bool
  | .MatchSequence (p :: ps) _ => litB ws p && restB C sc sl ps
  | _ => false
def capsOf : List Pattern → List Value → List (Str × Value)
  | .MatchAs none nm _ :: ps, u :: us => (nm.map (·, u)).toList ++ capsOf ps us
  | _, _ => []
section
variable {X : Cx} {M : Mx} {C : Ck} {sc : Scope} {n : Nat} {Wx : WX} {cf : CF}
theorem restB_len {C : Ck} {sc : Scope} : ∀ {sl : List (Option Nat)} {ps : List Pattern}, restB C sc sl ps = true → sl.length = ps.length
  | [], [], _ => rfl
  | [], _ :: _, h => by simp [restB] at h
  | none :: sl, p :: ps, h => by
    unfold restB at h
    split at h <;> first | (rename_i e1 e2; cases e1; cases e2; simp [restB_len h]) | (rename_i e1 e2; cases e1) | (cases h)
  | some i :: sl, p :: ps, h => by
    unfold restB at h
    split at h <;> first | (rename_i e1 e2; cases e1; cases e2; simp only [Bool.and_eq_true] at h; simp [restB_len h.2]) | (rename_i e1 e2; cases e1) | (cases h)
  | _ :: _, [], h => by simp [restB] at h
theorem rest_star {C : Ck} {sc : Scope} : ∀ {sl : List (Option Nat)} {ps : List Pattern}, restB C sc sl ps = true → ∀ p ∈ ps, ∃ nm pos, p = .MatchAs none nm pos
  | [], [], _, p, hp => by cases hp
  | [], _ :: _, h, _, _ => by simp [restB] at h
  | o :: sl, q :: ps, h, p, hp => by
    unfold restB at h
    split at h
    · cases ‹_ :: _ = []›
    · rename_i e1 e2
      cases e1; cases e2
      rcases List.mem_cons.mp hp with rfl | hp
      · exact ⟨_, _, rfl⟩
      · exact rest_star h p hp
    · rename_i e1 e2
      cases e1; cases e2
      simp only [Bool.and_eq_true] at h
      rcases List.mem_cons.mp hp with rfl | hp
      · exact ⟨_, _, rfl⟩
      · exact rest_star h.2 p hp
    · cases h
  | _ :: _, [], h, _, _ => by simp [restB] at h
theorem rest_each {M : Model} {A : Around} {E : Value → Shared → Prop} {s : Shared} {env : Env} : ∀ {ps : List Pattern} {us : List Value} {Q : Option (List (Str × Value)) → Shared → Prop}, (∀ p ∈ ps, ∃ nm pos, p = .MatchAs none nm pos) → us.length = ps.length → Q (some (capsOf ps us)) s → wpAny M A (matchEach ps env us) Q E s
  | [], us, Q, _, _, h => wpAny_matchEach_nil (by cases us <;> exact h)
  | p :: ps, [], Q, _, hl, _ => by simp at hl
  | p :: ps, u :: us, Q, hp, hl, h => by
    obtain ⟨nm, pos, rfl⟩ := hp p (by simp)
    refine wpAny_matchEach_cons (wpAny_matchPattern_Capture ?_)
    exact rest_each (fun q hq => hp q (by simp [hq])) (by simpa using hl) h
/-- a word held against a value -/
theorem lit_val (K : Cok X M C sc n Wx cf) {d : D} {vx : V} {v : Value} {w : List Char} {z : Str} {k : Nat} {p pos : Pos} (hf : flat d = true) (hz : st w = z) {pins : List (Addr × Obj)} {σ : L2.St} {H : Hp} {s : Shared} {h : Hs} {as : List Addr} (I : Inv X pins σ H s) (rv : RelV vx v) (hi : HI (M.g X.K) h as H) (r : Rep (M.g X.K) as H d vx) {Q : Option (List (Str × Value)) → Shared → Prop}
    (go : ∀ s' as' H', Ext as H as' H' → HI (M.g X.K) h as' H' → Inv X pins σ H' s' → Q (if eqv d (.str w) then some [] else none) s') : wpAny (model X.prog X.w) X.A (matchPattern (.MatchValue (.Constant (.str z) k p) pos) X.env v) Q X.xe s := by
  subst hz
  refine wpAny_matchPattern_Value ?_
  refine thn ((pe_str (X := X) (x := st w)).run pins s σ H (fun x H' => x = .str (st w) ∧ H' = H) I ⟨rfl, rfl⟩) ?_
  rintro u s1 ⟨x, H1, I1, ru, rfl, rfl⟩
  refine thn (cmpR K .eq σ pins s1 σ H1 vx (.str (st w)) v u (fun y H' => y = .bl (eqv d (.str w)) ∧ ∃ as', Ext as H1 as' H' ∧ HI (M.g X.K) h as' H') I1 rv ru ⟨d, .str w, h, as, hi, r, by simp only [Rep], ?_⟩) ?_
  · have e : cmpA M.W.cons .eq d (.str w) h = .ok (.bl (eqv d (.str w))) h := by
      have e1 : dicB d (.str w) h = none := by unfold dicB; cases d <;> rfl
      have e2 : eqD h d (.str w) = some (eqv d (.str w)) := by
        unfold eqD
        cases d <;> simp only [hf, show flat (.str w) = true from rfl, Bool.and_true, if_true]
      simp only [cmpA, e1, cmpD, e2]
    rw [e]
    intro v2 as2 H2 x2 i2 r2
    simp only [Rep] at r2
    exact ⟨r2, as2, x2, i2⟩
  · rintro c s2 ⟨y, H2, I2, rc, rfl, as2, x2, i2⟩
    obtain rfl : c = .bool (eqv d (.str w)) := rc
    refine wpAny_truthy_bool ?_
    have := go s2 as2 H2 x2 i2 I2
    cases e : eqv d (.str w) <;> rw [e] at this <;> exact this
theorem lits_ok (K : Cok X M C sc n Wx cf) {d : D} {vx : V} {v : Value} (hf : flat d = true) {pins : List (Addr × Obj)} {σ : L2.St} {h : Hs} (rv : RelV vx v) : ∀ {ws : List (List Char)} {ps : List Pattern}, litsB ws ps = true → ∀ {H : Hp} {s : Shared} {as : List Addr} {Q : Option (List (Str × Value)) → Shared → Prop}, Inv X pins σ H s → HI (M.g X.K) h as H → Rep (M.g X.K) as H d vx →
    (∀ s' as' H', Ext as H as' H' → HI (M.g X.K) h as' H' → Inv X pins σ H' s' → Q (if ws.any (fun w => eqv d (.str w)) then some [] else none) s') → wpAny (model X.prog X.w) X.A (matchFirst ps X.env v) Q X.xe s
  | [], [], _, H, s, as, Q, I, hi, r, go => wpAny_matchFirst_nil (go s as H Ext.refl hi I)
  | [], _ :: _, hb, _, _, _, _, _, _, _, _ => by simp [litsB] at hb
  | w :: ws, p :: ps, hb, H, s, as, Q, I, hi, r, go => by
    unfold litsB at hb
    split at hb
    · cases ‹_ :: _ = []›
    · rename_i e1 e2
      cases e1; cases e2
      simp only [Bool.and_eq_true, decide_eq_true_eq] at hb
      refine wpAny_matchFirst_cons (lit_val K hf hb.1 I rv hi r fun s' as' H' x' i' I' => ?_)
      by_cases q : eqv d (.str w) = true
      · rw [if_pos q]
        have := go s' as' H' x' i' I'
        simpa [q] using this
      · rw [if_neg q]
        refine lits_ok K hf rv hb.2 I' i' (r.mono x') fun s2 as2 H2 x2 i2 I2 => ?_
        have := go s2 as2 H2 (x'.trans x2) i2 I2
        simpa [q] using this
    · cases hb
  | _ :: _, [], hb, _, _, _, _, _, _, _, _ => by simp [litsB] at hb
theorem lits_names {ws : List (List Char)} {ps : List Pattern} (h : litsB ws ps = true) : namesOfAll (ps.take 1) = [] := by
  cases ws with
  | nil => cases ps with
    | nil => rfl
    | cons p ps => simp [litsB] at h
  | cons w ws => cases ps with
    | nil => simp [litsB] at h
    | cons p ps =>
      unfold litsB at h
      split at h
      · cases ‹_ :: _ = []›
      · rename_i e1 e2
        cases e2
        simp [namesOfAll, Pattern.names]
      · cases h
theorem lit_ok (K : Cok X M C sc n Wx cf) {d : D} {vx : V} {v : Value} (hf : flat d = true) {pins : List (Addr × Obj)} {σ : L2.St} {h : Hs} (rv : RelV vx v) {ws : List (List Char)} {p : Pattern} (hb : litB ws p = true) {H : Hp} {s : Shared} {as : List Addr} {Q : Option (List (Str × Value)) → Shared → Prop} (I : Inv X pins σ H s) (hi : HI (M.g X.K) h as H) (r : Rep (M.g X.K) as H d vx)
    (go : ∀ s' as' H', Ext as H as' H' → HI (M.g X.K) h as' H' → Inv X pins σ H' s' → Q (if ws.any (fun w => eqv d (.str w)) then some [] else none) s') : wpAny (model X.prog X.w) X.A (matchPattern p X.env v) Q X.xe s := by
  unfold litB at hb
  split at hb
  · have hb := of_decide_eq_true hb
    match ws, hb with
    | [w], hb =>
      simp only [List.map_cons, List.map_nil, List.cons.injEq, and_true] at hb
      refine lit_val K hf hb I rv hi r fun s' as' H' x' i' I' => ?_
      have := go s' as' H' x' i' I'
      simpa using this
    | [], hb => cases hb
    | _ :: _ :: _, hb => cases hb
  · refine wpAny_matchPattern_Or (lits_ok K hf rv hb I hi r fun s' as' H' x' i' I' => ?_)
    have := go s' as' H' x' i' I'
    split at this <;> rename_i e
    · rw [if_pos e, lits_names hb]; exact this
    · rw [if_neg e]; exact this
  · cases hb
theorem lit_plain {ws : List (List Char)} {p : Pattern} (hb : litB ws p = true) : p.isStar = false ∧ p.isWildcard = false := by
  unfold litB at hb
  split at hb
  · exact ⟨rfl, rfl⟩
  · exact ⟨rfl, rfl⟩
  · cases hb
theorem pat_ok (K : Cok X M C sc n Wx cf) (hh : X.A.handled = none) {ws : List (List Char)} {sl : List (Option Nat)} {p : Pattern} {ps : List Pattern} {pos : Pos} (hb : patB C sc ws sl (.MatchSequence (p :: ps) pos) = true) {d : D} {vx : V} {v : Value} {pins : List (Addr × Obj)} {σ : L2.St} {H : Hp} {s : Shared} {h : Hs} {as : List Addr} (I : Inv X pins σ H s) (rv : RelV vx v) (hi : HI (M.g X.K) h as H) (r : Rep (M.g X.K) as H d vx) {r0 : Option (List D)} (hm : matD ws sl.length d = some r0) {Q : Option (List (Str × Value)) → Shared → Prop}
    (k0 : r0 = none → ∀ s' as' H', Ext as H as' H' → HI (M.g X.K) h as' H' → Inv X pins σ H' s' → Q none s')
    (k1 : ∀ ds, r0 = some ds → ∀ s' as' H' us vs, Ext as H as' H' → HI (M.g X.K) h as' H' → Inv X pins σ H' s' → Vals vs us → Reps (M.g X.K) as' H' ds vs → us.length = ps.length → Q (some (capsOf ps us)) s') :
    wpAny (model X.prog X.w) X.A (matchPattern (.MatchSequence (p :: ps) pos) X.env v) Q X.xe s := by
  unfold patB at hb
  rw [Bool.and_eq_true] at hb
  obtain ⟨h1, h2⟩ := hb
  have ls := restB_len h2
  have rs := rest_star h2
  obtain ⟨p1, p2⟩ := lit_plain h1
  have hstar : (p :: ps).findIdx? (·.isStar) = none := by
    rw [List.findIdx?_eq_none_iff]
    intro q hq
    rcases List.mem_cons.mp hq with rfl | hq
    · exact p1
    · obtain ⟨nm, po, rfl⟩ := rs q hq
      rfl
  have hwild : ((p :: ps).all fun p => p.isWildcard || (p.isStar && p.names.isEmpty)) = false := by
    simp [p1, p2]
  have no : ∀ {T : String}, flagOfType true (.type T) = pure false → s.TypeIs v T → r0 = none → wpAny (model X.prog X.w) X.A (matchPattern (.MatchSequence (p :: ps) pos) X.env v) Q X.xe s := by
    intro T hfl hT h0
    refine wpAny_matchPattern_Sequence (wpAny_collectionFlag hT hfl ?_) hstar hwild
    exact k0 h0 s as H Ext.refl hi I
  cases d with
  | non =>
    simp only [matD, Option.some.injEq] at hm
    simp only [Rep] at r; subst r
    cases rv
    exact no flag_seq_None (PySem.typeIs_none s) hm.symm
  | bl b =>
    simp only [matD, Option.some.injEq] at hm
    simp only [Rep] at r; subst r
    cases rv
    exact no flag_seq_bool (PySem.typeIs_bool s b) hm.symm
  | int i =>
    simp only [matD, Option.some.injEq] at hm
    simp only [Rep] at r; subst r
    obtain ⟨t, rfl⟩ := rv
    exact no flag_seq_int (typeIs_int s i t) hm.symm
  | str z =>
    simp only [matD, Option.some.injEq] at hm
    simp only [Rep] at r; subst r
    obtain ⟨t, rfl⟩ := rv
    exact no flag_seq_str (typeIs_str s _ t) hm.symm
  | ob m => simp [matD] at hm
  | fn m => simp [matD] at hm
  | con m => simp [matD] at hm
  | tup xs =>
    simp only [Rep] at r
    obtain ⟨a, vs, rfl, ha, rr⟩ := r
    cases rv
    obtain ⟨its, vr, ti, sz⟩ := I.tuple (SqT.of (K := X.K) ha)
    have l1 := vr.length
    have l2 := rr.length
    have go : ∀ (hq : (its.length : Int) = ((p :: ps).length : Int) → ∀ s', Inv X pins σ H s' → wpAny (model X.prog X.w) X.A (matchEach (p :: ps) X.env its) Q X.xe s') (hn : its.length ≠ (p :: ps).length → ∀ s', Inv X pins σ H s' → Q none s'), wpAny (model X.prog X.w) X.A (matchPattern (.MatchSequence (p :: ps) pos) X.env (.ref a)) Q X.xe s := by
      intro hq hn
      refine wpAny_matchPattern_Sequence (wpAny_collectionFlag ti.typeIs flag_seq_tuple ?_) hstar hwild
      rw [if_pos rfl]
      refine pyLen_tuple ti (by simp only [List.size_toArray]; simp only [sizeLine] at sz; omega) ?_
      have I1 : Inv X pins σ H { s with toks := s.toks + 1 + 1 } := I.tok _
      split
      · rename_i hne
        exact hn (fun e => by simp [e] at hne) _ I1
      · rename_i hne
        have hlen : its.length = (p :: ps).length := by
          have : (its.length : Int) = (ps.length : Int) + 1 := by simpa using hne
          simp only [List.length_cons]; omega
        have ti1 : IsTup ({ s with toks := s.toks + 1 + 1 } : Shared).heap a its.toArray := ti
        have un := unpackItems_tuple (prog := X.prog) (w := X.w) (A := X.A) (E := X.xe) (s := { s with toks := s.toks + 1 + 1 }) (Q := fun vs s3 => wpAny (model X.prog X.w) X.A (matchEach (p :: ps) X.env vs) Q X.xe s3) hh ti1 (fun h' he => ?_)
        · rw [List.size_toArray, hlen] at un
          exact un
        · exact hq (by rw [hlen]) _ (I1.kept (t' := s.toks + 1 + 1) fun b o e => he b o (Nat.ne_of_lt (Heap.lt_size e)) e)
    cases xs with
    | nil =>
      simp only [matD, Option.some.injEq] at hm
      refine go (fun e => ?_) (fun _ s' I' => k0 hm.symm s' as H Ext.refl hi I')
      simp only [List.length_nil] at l2
      simp only [List.length_cons] at e
      omega
    | cons d0 ds =>
      simp only [List.length_cons] at l2
      obtain ⟨v0, vs', rfl, r1, r2⟩ := rr.cons_inv
      cases vr with
      | cons q1 q2 =>
        rename_i u0 us
        simp only [matD] at hm
        by_cases hl : ds.length = sl.length
        · rw [if_neg (by simpa using hl)] at hm
          by_cases hf : flat d0 = true
          · rw [if_pos hf] at hm
            simp only [Option.some.injEq] at hm
            have lu : us.length = ps.length := by
              have a1 := q2.length
              have a2 := r2.length
              omega
            refine go (fun _ s' I' => ?_) (fun e => ?_)
            · refine wpAny_matchEach_cons (lit_ok K hf q1 h1 I' hi r1 fun s2 as2 H2 x2 i2 I2 => ?_) p1
              by_cases hw : (ws.any fun w => eqv d0 (.str w)) = true
              · rw [if_pos hw] at hm ⊢
                exact rest_each rs lu (k1 ds hm.symm s2 as2 H2 us vs' x2 i2 I2 q2 (r2.mono x2) lu)
              · rw [if_neg hw] at hm ⊢
                exact k0 hm.symm s2 as2 H2 x2 i2 I2
            · simp only [List.length_cons] at e
              omega
          · rw [if_neg hf] at hm; cases hm
        · rw [if_pos (by simpa using hl)] at hm
          simp only [Option.some.injEq] at hm
          have a1 := q2.length
          have a2 := r2.length
          refine go (fun e => ?_) (fun _ s' I' => k0 hm.symm s' as H Ext.refl hi I')
          simp only [List.length_cons] at e
          omega
/-- what was caught is stored -/
theorem caps_ok (K : Cok X M C sc n Wx cf) {pins : List (Addr × Obj)} {H : Hp} {as : List Addr} : ∀ {sl : List (Option Nat)} {ps : List Pattern} {ds : List D} {vs : List V} {us : List Value} {σ : L2.St} {σI : Sg} {s : Shared} {Q : Unit → Shared → Prop}, restB C sc sl ps = true → us.length = ps.length → Vals vs us → Reps (M.g X.K) as H ds vs → Inv X pins σ H s → SL (M.g X.K) σI as H σ →
    (∀ s' σ', Inv X pins σ' H s' → SL (M.g X.K) (bindC sl ds σI) as H σ' → Q () s') → wpAny (model X.prog X.w) X.A (assignInOrder ((capsOf ps us).map fun (n, _) => bindName X.env n) ((capsOf ps us).map (·.2))) Q X.xe s
  | [], [], ds, vs, us, σ, σI, s, Q, _, hl, _, _, I, sl, go => by
    have : us = [] := by simpa using hl
    subst this
    exact wpAny_assignInOrder_none (go s σ I (by simpa [bindC] using sl))
  | [], _ :: _, _, _, _, _, _, _, _, h, _, _, _, _, _, _ => by simp [restB] at h
  | o :: sl, p :: ps, ds, vs, us, σ, σI, s, Q, h, hl, rv, rr, I, sL, go => by
    match us, hl with
    | u :: us, hl =>
      cases rv with
      | cons q1 q2 =>
        rename_i v0 vs'
        cases ds with
        | nil => obtain h0 := rr.nil_inv; cases h0
        | cons d ds =>
          obtain ⟨v1, r', e, r1, r2⟩ := rr.cons_inv
          cases e
          unfold restB at h
          split at h
          · cases ‹_ :: _ = []›
          · rename_i e1 e2
            cases e1; cases e2
            exact caps_ok (us := us) K h (by simpa using hl) q2 r2 I sL go
          · rename_i i sl' x p0 ps' e1 e2
            cases e1; cases e2
            simp only [Bool.and_eq_true] at h
            have hx := K.loc x h.1.2
            refine wpAny_assignInOrder_more (wpAny_bindName (store_ok I K.nd (by rw [K.N]; exact isC_ok h.1.1) hx.1 q1 (fun s' I' => ?_) hx.2))
            exact caps_ok (us := us) K h.2 (by simpa using hl) q2 r2 I' (sL.set r1) go
          · cases h
    | [], hl => simp at hl
  | _ :: _, [], _, _, _, _, _, _, _, h, _, _, _, _, _, _ => by simp [restB] at h
end
end Rf
end

section
set_option maxHeartbeats 2000000
namespace L2
open PySem PySem.Spec PyProof.Rows
section
variable {prog : Program} {w : World} {A : Around} {E : Value → Shared → Prop} {s : Shared}
theorem bounds_from {a n : Nat} (ha : a ≤ n) : sliceBounds (some (a : Int)) none none n = ((a : Int), (n : Int), 1) := by
  simp only [sliceBounds, Option.getD_none]
  have h1 : ¬ ((a : Int) < 0) := by omega
  simp only [h1, if_false, show (1 : Int) > 0 by decide, if_true]
  congr 1
  omega
theorem keep_take (its : List Value) (a : Nat) (f : Nat → Bool) (hf : ∀ k, k < its.length → f k = decide (a ≤ k)) :
    (its.zipIdx.filterMap fun (x, k) => if f k then none else some x) = its.take a := by
  have main : ∀ (l : List Value) (b : Nat), (∀ k, k < l.length → f (b + k) = decide (a ≤ b + k)) → ((l.zipIdx b).filterMap fun (x, k) => if f k then none else some x) = l.take (a - b) := by
    intro l
    induction l with
    | nil => intro b _; simp
    | cons x l ih =>
      intro b h
      have h0 := h 0 (by simp)
      have ih' := ih (b + 1) fun k hk => by
        have := h (k + 1) (by simpa using hk)
        rw [show b + (k + 1) = b + 1 + k by omega] at this
        exact this
      simp only [Nat.add_zero] at h0
      rw [List.zipIdx_cons, List.filterMap_cons]
      simp only [h0]
      by_cases hb : a ≤ b
      · have : a - b = 0 := by omega
        rw [this]
        have : a - (b + 1) = 0 := by omega
        rw [this] at ih'
        simpa [hb] using ih'
      · have e : a - b = (a - (b + 1)) + 1 := by omega
        rw [e, List.take_succ_cons]
        simp [hb, ih']
  have := main its 0 (by simpa using hf)
  simpa using this
/-- list.__delitem__ with a slice from a place on -/
theorem delItem_slice {l sl : Addr} {items : Array Value} {n : Nat} {vl : Value} {a : Nat} {Q : Unit → Shared → Prop}
    (e : s.heap.get? l = some { cls := .type "list", data := .seq items n }) (hs : s.heap.IsSliceOf sl vl .none .none) (pl : IsPart vl (some (a : Int))) (ha : a ≤ items.size)
    (hsz : items.size ≤ sizeLine) (h : ∀ F : Array Value → Array Value, F items = (items.toList.take a).toArray → Q () { s with heap := s.heap.update l (Obj.mapSeq F) }) :
    wpAny (model prog w) A (delItem (.ref l) (.ref sl)) Q E s := by
  have hl : s.heap.IsList l items := PySem.IsL.isList e
  obtain ⟨os, hos, hcs, hds⟩ := id hs
  have hTs : s.TypeIs (.ref sl) "slice" := ⟨os, hos, hcs⟩
  have hstep : ¬ ((rawPart none == rawInt 0) = true) := Bool.false_ne_true
  unfold delItem
  try with_reducible refine wpAny_holding ?_
  first | refine wpAny_bind (wpAny_pure ?_) | skip
  refine wpAny_bind (wpAny_sequenceKey hl.typeIs (by decide) ?_)
  refine wpAny_bind (wpAny_callSpecial?_slot (name := Str.ofString "__delitem__") hl.typeIs PySem.F.slot_list_delitem
    (wpAny_call_entry PySem.F.slot_list_delitem hl.typeIs PySem.F.entry_list_delitem ?_ (PySem.F.args_list_delitem_2 _ _)))
  show wpAny _ _ (Builtin.List.listSubscript? (.ref sl) >>= _) _ _ s
  refine wpAny_bind ?_
  unfold Builtin.List.listSubscript?
  refine wpAny_bind (wpAny_specialOf hTs slice_no_index ?_)
  simp only [Option.isNone_none, if_true]
  refine wpAny_pure ?_
  show wpAny _ _ (typeOf (.ref sl) >>= _) _ _ s
  refine wpAny_bind (wpAny_typeOf hTs ?_)
  first
    | rw [if_neg (by decide)]
    | refine PySem.W.KFB.if_not (by decide) ?_
  rw [listSliceParts_eq]
  refine wpAny_bind (wpAny_bind (wpAny_field hos hds (x := .none) rfl (wpAny_bind (wpAny_listPart .none ?_))))
  rw [if_neg hstep]
  refine wpAny_bind (wpAny_field hos hds (x := vl) rfl (wpAny_bind (wpAny_listPart pl ?_)))
  refine wpAny_bind (wpAny_field hos hds (x := .none) rfl (wpAny_bind (wpAny_listPart .none (wpAny_pure ?_))))
  unfold Builtin.List.listItems
  refine wpAny_bind (wpAny_bind (wpAny_seqItems e rfl (wpAny_pure ?_)))
  refine wpAny_bind (wpAny_of_eq ((sliceIndices_raw (some (a : Int)) none none items.size (by simp)).trans (congrArg (pure : Int × Int × Int → Sem (Int × Int × Int)) (bounds_from ha))) ?_)
  refine wpAny_bind (wpAny_rule ?_)
  obtain ⟨F, hF, hF2⟩ : ∃ F : Array Value → Array Value, (F = fun xs => (xs.toList.zipIdx.filterMap fun (x, k) => if (decide ((a : Int) ≤ (k : Int)) && decide ((k : Int) < (items.size : Int)) && (((k : Int) - (a : Int)) % 1 == 0)) then none else some x).toArray) ∧ F items = (items.toList.take a).toArray := by
    refine ⟨_, rfl, ?_⟩
    show (items.toList.zipIdx.filterMap fun (x, k) => if (decide ((a : Int) ≤ (k : Int)) && decide ((k : Int) < (items.size : Int)) && (((k : Int) - (a : Int)) % 1 == 0)) then none else some x).toArray = _
    rw [keep_take items.toList a (fun k => (decide ((a : Int) ≤ (k : Int)) && decide ((k : Int) < (items.size : Int)) && (((k : Int) - (a : Int)) % 1 == 0))) fun k hk => ?_]
    have : k < items.size := by simpa using hk
    have e1 : decide ((k : Int) < (items.size : Int)) = true := decide_eq_true (by omega)
    have e2 : (((k : Int) - (a : Int)) % 1 == 0) = true := by simp [Int.emod_one]
    rw [e1, e2, Bool.and_true, Bool.and_true]
    exact decide_eq_decide.mpr (by omega)
  show wpAny _ _ (updateSeq l (fun xs => (xs.toList.zipIdx.filterMap fun (x, k) => if (decide ((a : Int) ≤ (k : Int)) && decide ((k : Int) < (items.size : Int)) && (((k : Int) - (a : Int)) % 1 == 0)) then none else some x).toArray) >>= _) _ _ s
  rw [← hF]
  have hz' : (F items).size ≤ sizeLine + 1 := by
    rw [hF2]; simp; omega
  refine wpAny_bind (wpAny_updateSeq (hz := Nat.le_trans hsz (Nat.le_refl _)) (_hz' := hz') e rfl ?_)
  refine wpAny_bind (wpAny_letGo ?_)
  first
    | exact wpAny_bind (wpAny_pure (wpAny_pure ⟨.none, rfl, wpAny_pure (h F hF2)⟩))
    | exact wpAny_pure ⟨.none, rfl, wpAny_pure (h F hF2)⟩
end
section
variable {X : Cx}
theorem del_slice {pins : List (Addr × Obj)} {s : Shared} {σ : St} {H : Hp} {l sl : Addr} {xs : List V} {a : Int} {vl : Value} {Q : Unit → Shared → Prop} (I : Inv X pins σ H s)
    (hH : H l = some (.lst xs)) (hs : s.heap.IsSliceOf sl vl .none .none) (ra : RelV (.int a) vl) (h0 : 0 ≤ a) (hc : a ≤ xs.length)
    (hz : xs.length ≤ sizeLine) (h : ∀ s', Inv X pins σ (upd H l (.lst (xs.take a.toNat))) s' → Q () s') :
    wpAny (model X.prog X.w) X.A (delItem (.ref l) (.ref sl)) Q X.xe s := by
  obtain ⟨ta, rfl⟩ := ra
  obtain ⟨z, its, n, r, hl, e⟩ := I.lstM hH
  obtain ⟨a', rfl⟩ := Int.eq_ofNat_of_zero_le h0
  simp only [Int.toNat_natCast] at h
  refine delItem_slice (a := a') e hs (.int _ _) (by rw [List.size_toArray]; omega) (by rw [List.size_toArray]; omega) fun F hF => h _ ?_
  refine I.lset (its' := its.take a') (t' := s.toks) hH e ?_ (r.take _) ?_
  · simpa using hF
  · rw [List.length_take]
    omega
/-- del xs[a:] -/
theorem ps_dels {o i : Expr} {to ti : TE} {p1 p2 pos : Pos} (ho : PE X o to) (hi : PE X i ti) : PS X (.Delete [.Subscript o (.Slice (some i) none none p1) p2] pos) (fun D σ H => to σ H fun x H1 => ti σ H1 fun y H2 => ∃ l xs a, x = .ref l ∧ y = .int a ∧ H2 l = some (.lst xs) ∧ 0 ≤ a ∧ a ≤ xs.length ∧ xs.length ≤ 1000000 ∧ D.nx σ (upd H2 l (.lst (xs.take a.toNat)))) := by
  refine ⟨fun pins s σ H D I h => ?_⟩
  refine wpAny_Delete (wpAny_deleteEach_cons (wpAny_delete_Subscript (thn (ho.run pins s σ H _ I h) fun u s1 ⟨x, H1, I1, rx, q1⟩ => ?_)))
  refine wpAny_Slice (thn (hi.run pins s1 σ H1 _ I1 q1) fun iv s2 ⟨y, H2, I2, ry, q2⟩ => ?_)
  obtain ⟨l, xs, a, ex, ey, hH, h1, h2, h3, q2⟩ := q2
  subst ex ey
  obtain rfl : u = Value.ref l := rx
  have I3 : Inv X pins σ H2 { s2 with heap := s2.heap.push { cls := .type "slice", data := .fields #[iv, .none, .none] } } := I2.kept (t' := s2.toks) fun b ob q => Heap.get?_push_of_some _ q
  show wpAny _ _ (evalPart none _) _ _ _
  refine wpAny_pure ?_
  show wpAny _ _ (evalPart none _) _ _ _
  refine wpAny_pure ?_
  exact del_slice I3 hH (Heap.IsSliceOf.new ..) ry h1 h2 (by rw [sizeLine_eq]; omega) fun s3 I4 => wpAny_deleteEach_nil ⟨σ, _, I4, q2⟩
end
end L2
end

section
set_option maxHeartbeats 2000000
namespace Rf
open PySem PySem.Spec PyProof.Rows L2

/-! ## try with several clauses, with names and without -/
abbrev Cls1 : Type := Value × Option Nat × (Addr → Value → Option Addr → TS)
def endsO (o : Option Nat) (D : Ends) : Ends := match o with
  | none => D
  | some i => ⟨fun s G => D.nx (s.set i none) G, D.rt, fun s G => D.bk (s.set i none) G, fun s G => D.ct (s.set i none) G⟩
def slotO (o : Option Nat) (a : Addr) (σ : L2.St) : L2.St := match o with
  | none => σ
  | some i => σ.set i (some (.ref a))
def wMix (K : PySem.W.Frag) (Wo : WX) (D : Ends) : List Cls1 → WX
  | [] => Wo
  | q :: r => fun cl dx σ G => ∃ t, PySem.W.exmOne K cl q.1 = some t ∧ (t = true → ∀ z, G z = none → q.2.2 z cl dx (endsO q.2.1 D) (slotO q.2.1 z σ) G) ∧ (t = false → wMix K Wo D r cl dx σ G)
def nmOk (X : Cx) : Option Str → Option Nat → Prop
  | none, none => True
  | some y, some i => X.N[i]? = some y ∧ X.env.kindOf y = some .local
  | _, _ => False
inductive HdsX (X : Cx) : List ExceptHandler → List Cls1 → Prop
  | nil : HdsX X [] []
  | cons {x : Str} {c : Value} {ts : Addr → Value → Option Addr → TS} {o : Option Nat} {y : Option Str} {st : Stmt} {sts : List Stmt} {p1 p2 : Pos} {hs : List ExceptHandler} {l : List Cls1} (h1 : Names X x c) (h2 : nmOk X y o)
      (h3 : ∀ (z : Addr) (oz : Obj) (cl : Value) (dx : Option Addr) (ps : List (Addr × Obj)), Zc cl dx oz → (∃ vs, oz.data = .fields vs) → PSs (X.suite z ((z, oz) :: ps)) (st :: sts) (ts z cl dx)) (h4 : HdsX X hs l) :
      HdsX X (.ExceptHandler (some (.Name x p1)) y (st :: sts) p2 :: hs) ((c, o, ts) :: l)
section
variable {X : Cx} {body : List Stmt} {e₀ : ExceptHandler} {es : List ExceptHandler} {l : List Cls1} {pos : Pos} {tb : WX → TS} {Wo : WX}
theorem try_mix (hs : X.stack = X.env :: X.outer) (hf : X.env.frame = some X.env.locals) (nd : X.N.Nodup) (tk : Takes X Wo)
    (hb : ∀ (W : WX) (ps : List (Addr × Obj)) (xe : Value → Shared → Prop), Takes (X.tr ps xe) W → PassesOwn (model X.prog X.w) X.A X.env xe → PSs (X.tr ps xe) body (tb W))
    (hh : HdsX X (e₀ :: es) l) : PS X (.Try body (e₀ :: es) [] [] pos) (fun D σ G => tb (wMix X.K Wo D l) D σ G) := by
  refine ⟨fun pins s₀ σ₀ G₀ D I₀ q₀ => ?_⟩
  have ok := I₀.ok
  have fr : X.A.frames = some (X.env :: X.outer) := ok.frames.trans (congrArg some hs)
  refine wpAny_Try_except ?_
  refine wpAny_mono ((hb (wMix X.K Wo D l) (X.pn ++ pins) (fun e t1 => wpAny (model X.prog X.w) X.A (noteFrame e X.env) (fun _ t2 => wpAny (model X.prog X.w) X.A (setFlight e none) (fun _ t3 =>
    wpAny (model X.prog X.w) X.A (handleBy e X.env (e₀ :: es)) (SP X pins D) X.xe t3) X.xe t2) X.xe t1) (fun u t xx => ?_) PassesOwn.looking).run [] s₀ σ₀ G₀ D (I₀.toTry _) q₀) (fun f t1 w1 => ?_) (fun e t1 w1 => w1)
  · obtain ⟨z, B, sI, ps', σ, G, cl, dx, rfl, J1, nb, up, sky, nz, eo, ag, w⟩ := xx
    have J : Inv X pins σ G sI := J1.ofTry ok
    rw [show (X.tr (X.pn ++ pins) _).stack = X.env :: X.outer from hs] at sky
    show wpAny (model X.prog X.w) X.A (noteFrame (.ref z) X.env) _ _ _
    refine Sky.land Zc.steady fr hf sky fun g3 fl up3 => ?_
    have J3 : Inv X pins σ G { t with heap := g3 } := J.landed nb fl.1 (up.trans up3) eo ag
    obtain ⟨oz, vz, ez, hz, hd⟩ := fl.there
    have far : z ∉ frs (X.env :: X.outer) := fun hm => by
      obtain ⟨_, o', e', hn⟩ := fl.2.2.1.mem hm
      rw [ez] at e'; cases e'
      exact hn _ hd
    have nL : z ≠ X.env.locals := fun q => far (List.mem_filterMap.mpr ⟨X.env, .head _, by rw [hf, q]⟩)
    have nF : z ∉ X.fs := fun hm => by
      obtain ⟨e, me, q⟩ := List.mem_filterMap.mp hm
      exact far (List.mem_filterMap.mpr ⟨e, .tail _ me, q⟩)
    have S3 := J3.suite ez hd nz nL nF
    suffices go : ∀ {es' : List ExceptHandler} {l' : List Cls1}, HdsX X es' l' → wMix X.K Wo D l' cl dx σ G → wpAny (model X.prog X.w) X.A (handleBy (.ref z) X.env es') (SP X pins D) X.xe { t with heap := g3 } from go hh w
    intro es' l' hk
    induction hk with
    | nil =>
      intro w
      refine wpAny_handleBy_nil ?_
      obtain ⟨_, _, _, oe, vs, T, oT, ts', he, _, hd', h1, _⟩ := id fl
      unfold PySem.passOn
      refine wpAny_bind (wpAny_field he hd' h1 ?_)
      rw [if_neg (by simp : ¬ ((Value.ref T == Value.none) = true))]
      have fin : wpAny (model X.prog X.w) X.A (setFlight (.ref z) X.env.frame) (fun _ t4 => wpAny (model X.prog X.w) X.A (throw (.ref z) : Sem Flow) (SP X pins D) X.xe t4) X.xe { t with heap := g3 } := by
        rw [hf]
        refine HandSPX.setFlight_upZ fl fun g4 hg4 up4 => wpAny_throw (tk _ _ ?_)
        exact ⟨z, B, sI, pins, σ, G, cl, dx, rfl, J, nb, (up.trans up3).trans up4, .inr (.inr (hs ▸ hg4)), nz, eo, ag, w⟩
      first
        | exact wpAny_bind (wpAny_pure (wpAny_bind fin))
        | exact wpAny_bind fin
    | @cons x c ts o y st sts p1 p2 hs2 l2 hc hn hsu r ih =>
      intro w
      obtain ⟨t0, ht, yes, no⟩ := w
      refine wpAny_handleBy_cons (codeAny_handlers_test ?_) (by intro q; cases q)
      have LT : PySem.W.Looks (model X.prog X.w) g3 (typeOf (.ref z)) cl := fun _ _ _ _ k q => wpAny_typeOf_ref (k _ _ ez) (hz.1.symm ▸ q)
      have LM := PySem.W.exm_one (M := model X.prog X.w) J3.kIn LT ht
      have look : ∀ {Q : Value → Shared → Prop} {E : Value → Shared → Prop}, Q c { t with heap := g3 } → wpAny (model X.prog X.w) (X.A.mark (some (.ref z))) (eval (.Name x p1) X.env) Q E { t with heap := g3 } := fun {Q E} q => by
        obtain ⟨hg, hdb, hm | ⟨hm, hv, hnn⟩⟩ := hc
        · exact ld_glob (X := X.suite z ((z, oz) :: (X.pn ++ pins))) S3 hg hm q hdb
        · exact ld_blt (X := X.suite z ((z, oz) :: (X.pn ++ pins))) S3 hg hm hv q hnn hdb
      refine look (LM.here ?_)
      cases t0 with
      | false =>
        show wpAny _ X.A (handleBy (.ref z) X.env hs2) _ _ _
        exact ih (no rfl)
      | true =>
        cases o with
        | none =>
          cases y with
          | some _ => exact hn.elim
          | none =>
            refine codeAny_handlers_suite ?_
            refine HandSPX.lands_againZ fl fun g4 fl4 up4 => ?_
            have J4 : Inv X pins σ G { t with heap := g4 } := J.landed nb fl4.1 ((up.trans up3).trans up4) eo ag
            obtain ⟨o4, v4, e4, z4, d4⟩ := fl4.there
            have S4 := J4.suite e4 d4 nz nL nF
            refine wpAny_mono ((hsu z o4 cl dx (X.pn ++ pins) z4 ⟨_, d4⟩).run [] _ _ G _ S4 (yes rfl z nz)) (fun f t6 w6 => ?_) (fun _ _ q => q.elim)
            cases f with
            | ret u =>
              obtain ⟨v6, σ6, G6, S6, r6, q6⟩ := w6
              exact ⟨v6, σ6, G6, S6.unsuite ok, r6, q6⟩
            | _ =>
              obtain ⟨σ6, G6, S6, q6⟩ := w6
              exact ⟨σ6, G6, S6.unsuite ok, q6⟩
        | some i =>
          cases y with
          | none => exact hn.elim
          | some y =>
            obtain ⟨hi, hl⟩ := hn
            refine codeAny_handlers_suite_as ?_
            refine HandSPX.lands_againZ fl fun g4 fl4 up4 => ?_
            have J4 : Inv X pins σ G { t with heap := g4 } := J.landed nb fl4.1 ((up.trans up3).trans up4) eo ag
            obtain ⟨o4, v4, e4, z4, d4⟩ := fl4.there
            have S4 := J4.suite e4 d4 nz nL nF
            refine store_ok (X := X.suite z ((z, o4) :: (X.pn ++ pins))) (v := .ref z) S4 nd hi (.inl hl) rfl (fun t5 S5 => ?_) (.inr hl)
            refine wpAny_mono ((hsu z o4 cl dx (X.pn ++ pins) z4 ⟨_, d4⟩).run [] t5 _ G _ S5 (yes rfl z nz)) (fun f t6 w6 => ?_) (fun _ _ q => q.elim)
            have gone : ∀ {σ6 : L2.St} {G6 : Hp} {Q : Shared → Prop}, Inv (X.suite z ((z, o4) :: (X.pn ++ pins))) [] σ6 G6 t6 → (∀ t7, Inv X pins (σ6.set i none) G6 t7 → Q t7) →
                wpAny (model X.prog X.w) X.A (do bindName X.env y .none; unbindBehindTheSuite X.env y p2) (fun _ t7 => Q t7) X.xe t6 := fun {σ6 G6 Q} S6 hq => gone_ok (S6.unsuite ok) nd hi hl hq
            cases f with
            | ret u =>
              obtain ⟨v6, σ6, G6, S6, r6, q6⟩ := w6
              exact gone S6 fun t7 J7 => ⟨v6, _, G6, J7, r6, q6⟩
            | _ =>
              obtain ⟨σ6, G6, S6, q6⟩ := w6
              exact gone S6 fun t7 J7 => ⟨_, G6, J7, q6⟩
  · cases f with
    | ret u =>
      obtain ⟨v, σ', G', J', r, q⟩ := w1
      exact ⟨v, σ', G', J'.ofTry ok, r, q⟩
    | next =>
      obtain ⟨σ', G', J', q⟩ := w1
      exact wpAny_execs_nil ⟨σ', G', J'.ofTry ok, q⟩
    | _ =>
      obtain ⟨σ', G', J', q⟩ := w1
      exact ⟨σ', G', J'.ofTry ok, q⟩
end
end Rf
end

section
set_option maxHeartbeats 2000000
namespace Rf
open PySem PySem.Spec PyProof.Rows L2

/-! ## the __init__ of an exception -/
def chkI (N : List Str) (sc : Scope) : Nat → List String → List Stmt → Bool
  | _, [], [] => true
  | k, f :: fl, .Assign [.Attribute (.Name x _) g _] (.Name y _) _ :: r => isC N 0 x && visB sc x && okN x && decide (Str.ofString f = g) && isC N (k + 1) y && visB sc y && okN y && chkI N sc (k + 1) fl r
  | _, _, _ => false
theorem chkI_inv {N : List Str} {sc : Scope} {k : Nat} {f : String} {fl : List String} {st : Stmt} {r : List Stmt} (h : chkI N sc k (f :: fl) (st :: r) = true) :
    ∃ x p1 p2 y p3 pos, st = .Assign [.Attribute (.Name x p1) (Str.ofString f) p2] (.Name y p3) pos ∧ isC N 0 x = true ∧ visB sc x = true ∧ okN x = true ∧ isC N (k + 1) y = true ∧ visB sc y = true ∧ okN y = true ∧ chkI N sc (k + 1) fl r = true := by
  unfold chkI at h
  split at h
  · rename_i e1 e2; cases e1
  · rename_i e1 e2
    cases e1
    cases e2
    simp only [Bool.and_eq_true, decide_eq_true_eq] at h
    obtain ⟨⟨⟨⟨⟨⟨⟨h1, h2⟩, h3⟩, rfl⟩, h4⟩, h5⟩, h6⟩, h7⟩ := h
    exact ⟨_, _, _, _, _, _, rfl, h1, h2, h3, h4, h5, h6, h7⟩
  · cases h
section
variable {X : Cx} {Ca : Addr} {sc : Scope}
theorem init_rest (T : OexC X.K Ca) (hv : ∀ x, visB sc x = true → Vis X.env.scope x) : ∀ (fl : List String) (k : Nat) (body : List Stmt), chkI X.N sc k fl body = true → (∀ f ∈ fl, PySem.W.findIn X.K (.ref Ca) (Str.ofString f) = some none) →
    ∃ t, PSs X body t ∧ ∀ (D : Ends) (σ : L2.St) (H : Hp) (a d : Addr) (ws : List V) (done : List (Str × V)), σ[0]? = some (some (.ref a)) → ws.length = fl.length → (∀ (j : Nat) (w : V), ws[j]? = some w → σ[k + 1 + j]? = some (some w)) →
      H a = some (exo a Ca (some d)) → H d = some (exd d done) → done.length + fl.length ≤ 900 → a ≠ d →
      (∀ H2 : Hp, H2 a = some (exo a Ca (some d)) → H2 d = some (exd d (((fl.map Str.ofString).zip ws).reverse ++ done)) → (∀ b, b ≠ a → b ≠ d → H2 b = H b) → D.nx σ H2) → t D σ H
  | [], k, [], _, _ => ⟨_, pss_nil, fun D σ H a d ws done h0 hl hw h1 h2 h3 ne q => q H h1 (by simpa using h2) (fun _ _ _ => rfl)⟩
  | [], k, _ :: _, h, _ => by simp [chkI] at h
  | f :: fl, k, [], h, _ => by simp [chkI] at h
  | f :: fl, k, st :: r, h, hf => by
    · obtain ⟨x, p1, p2, y, p3, pos, rfl, h1, h2, h3, h4, h5, h6, h7⟩ := chkI_inv h
      obtain ⟨t, ht, rt⟩ := init_rest T hv fl (k + 1) r h7 (fun z hz => hf z (List.mem_cons_of_mem _ hz))
      obtain ⟨a1, a2, _⟩ := okN_ok h3
      obtain ⟨b1, b2, _⟩ := okN_ok h6
      refine ⟨_, pss_cons (ps_ost (pe_var (pos := p1) (isC_ok h1) (hv x h2) a1 a2) (pe_var (pos := p3) (isC_ok h4) (hv y h5) b1 b2)) ht, ?_⟩
      intro D σ H a d ws done h0 hl hw ha hd hn ne q
      cases ws with
      | nil => simp at hl
      | cons w ws =>
        refine ⟨w, by simpa using hw 0 w rfl, .ref a, h0, a, Ca, rfl, T, hf f List.mem_cons_self, .inr ⟨d, done, ha, hd, by simp at hn; omega, ?_⟩⟩
        refine rt D σ _ a d ws ((Str.ofString f, w) :: done) h0 (by simpa using hl) (fun j v e => by have := hw (j + 1) v (by simpa using e); rw [show k + 1 + (j + 1) = k + 1 + 1 + j by omega] at this; exact this)
          (by rw [upd_ne ne]; exact ha) upd_same (by simp at hn ⊢; omega) ne fun H2 g1 g2 g3 => q H2 g1 (by rw [g2]; simp) fun b hb hb2 => by rw [g3 b hb hb2, upd_ne hb2]
theorem init_first (T : OexC X.K Ca) (hv : ∀ x, visB sc x = true → Vis X.env.scope x) : ∀ (fl : List String) (body : List Stmt), 0 < fl.length → fl.length ≤ 900 → chkI X.N sc 0 fl body = true → (∀ f ∈ fl, PySem.W.findIn X.K (.ref Ca) (Str.ofString f) = some none) →
    ∃ t, PSs X body t ∧ ∀ (D : Ends) (σ : L2.St) (H : Hp) (a : Addr) (ws : List V), σ[0]? = some (some (.ref a)) → ws.length = fl.length → (∀ (j : Nat) (w : V), ws[j]? = some w → σ[1 + j]? = some (some w)) →
      H a = some (exo a Ca none) →
      (∀ (d : Addr) (H2 : Hp), H d = none → d ≠ a → H2 a = some (exo a Ca (some d)) → H2 d = some (exd d ((fl.map Str.ofString).zip ws).reverse) → (∀ b, b ≠ a → b ≠ d → H2 b = H b) → D.nx σ H2) → t D σ H
  | [], _, h, _, _, _ => by simp at h
  | f :: fl, [], _, _, h, _ => by simp [chkI] at h
  | f :: fl, st :: r, _, hn, h, hf => by
    · obtain ⟨x, p1, p2, y, p3, pos, rfl, h1, h2, h3, h4, h5, h6, h7⟩ := chkI_inv h
      obtain ⟨t, ht, rt⟩ := init_rest T hv fl 1 r h7 (fun z hz => hf z (List.mem_cons_of_mem _ hz))
      obtain ⟨a1, a2, _⟩ := okN_ok h3
      obtain ⟨b1, b2, _⟩ := okN_ok h6
      refine ⟨_, pss_cons (ps_ost (pe_var (pos := p1) (isC_ok h1) (hv x h2) a1 a2) (pe_var (pos := p3) (isC_ok h4) (hv y h5) b1 b2)) ht, ?_⟩
      intro D σ H a ws h0 hl hw ha q
      cases ws with
      | nil => simp at hl
      | cons w ws =>
        refine ⟨w, by simpa using hw 0 w rfl, .ref a, h0, a, Ca, rfl, T, hf f List.mem_cons_self, .inl ⟨ha, fun d hd ne => ?_⟩⟩
        refine rt D σ _ a d ws [(Str.ofString f, w)] h0 (by simpa using hl) (fun j v e => by have := hw (j + 1) v (by simpa using e); rw [show 1 + (j + 1) = 1 + 1 + j by omega] at this; exact this)
          upd_same (by rw [upd_ne ne, upd_same]) (by simp at hn ⊢; omega) (Ne.symm ne) fun H2 g1 g2 g3 => q d H2 hd ne g1 (by rw [g2]; simp) fun b hb hb2 => by rw [g3 b hb hb2, upd_ne hb, upd_ne hb2]
end
theorem init_ok {P : Program} {w : World} {K : PySem.W.Frag} {mg : Str → Option Value} {base : Heap} {x qual : Str} {params : Arguments} {body : List Stmt} {scope : Scope} {fI Ca : Addr} {fd : FuncData} {N ps : List Str} {fl : List String}
    (F : FunD K x qual params body scope [] [] fI fd) (S : FnScope N ps scope) (T : OexC K Ca) (h0 : 0 < fl.length) (h9 : fl.length ≤ 900) (hc : chkI N scope 0 fl body = true) (hl : ps.length = fl.length + 1) (hN : N = ps) (hf : ∀ f ∈ fl, PySem.W.findIn K (.ref Ca) (Str.ofString f) = some none) :
    FnOk P w K mg base CX0 1 fI fd ps (spX Ca fl) := by
  refine F.ok S (fun vs H Q E h => ?_) (fun cdv A outer s H vs Q E hr hsp => ?_)
  · obtain ⟨a, ws, rfl, h1, _⟩ := h
    rw [hl, List.length_cons, h1]
  · obtain ⟨a, ws, rfl, h1, ha, q⟩ := hsp
    obtain ⟨t, ht, rt⟩ := init_first (X := cxOf CX0 P w K mg base N qual scope fI cdv A outer s H E) (sc := scope) T (fun x hx => visB_cases hx) fl body h0 h9 hc hf
    refine ⟨t, ht, rt _ _ H a ws ?_ h1 (fun j v e => ?_) ha fun d H2 hd ne g1 g2 g3 => q d H2 hd ne g1 g2 g3⟩
    · unfold L2.start; simp
    · unfold L2.start
      have hj : j < ws.length := (List.getElem?_eq_some_iff.mp e).1
      rw [List.getElem?_append_left (by simp; omega), List.getElem?_map, show 1 + j = j + 1 by omega, List.getElem?_cons_succ, e]; rfl
end Rf
end

section
namespace Rf
open PySem PySem.Spec PyProof.Rows L2

/-! ## statements -/
def isCompr : Expr → Bool
  | .ListComp _ _ _ _ => true | .SetComp _ _ _ _ => true | .DictComp _ _ _ _ _ => true | _ => false
theorem sw_no {e : Expr} (h : isCompr e = false) (t : Option Expr) (l : Nat) (env : Env) : swapsWith e t l env = pure false := by
  cases e <;> first | rfl | (simp [isCompr] at h)
theorem sw_at {e o i : Expr} {p : Pos} (l : Nat) (env : Env) : swapsWith e (some (.Subscript o i p)) l env = pure false := by
  cases e <;> rfl
theorem sw_fld {e o : Expr} {f : Str} {p : Pos} (l : Nat) (env : Env) : swapsWith e (some (.Attribute o f p)) l env = pure false := by
  cases e <;> rfl
/-- the name's line is not the comprehension's -/
def apartB (p : Pos) (v : Expr) : Bool := !(p.line == v.pos.line)
theorem sw_apart {e : Expr} {y : Str} {p : Pos} (h : apartB p e = true) (l : Nat) (env : Env) : swapsWith e (some (.Name y p)) l env = pure false := by
  unfold apartB at h
  have h' : (p.line == e.pos.line) = false := by simpa using h
  cases e <;> first | rfl | (unfold swapsWith; simp only [h']; simp; rfl) | (unfold swapsWith; simp only [h']; simp)
def isTupE : Expr → Bool
  | .Tuple _ _ _ => true | _ => false
theorem ss_no {tg e : Expr} {env : Env} (h : isTupE e = false) : swappedStores [tg] e env = pure none := by
  cases tg <;> cases e <;> first | rfl | (simp [isTupE] at h)
/-- .. or it is: the name is a local of the def, none of the comprehension's own -/
def hereB (C : Ck) (sc : Scope) (y : Str) (p : Pos) : Expr → Bool
  | .ListComp _ [_] scope pos => !C.hot && kindB sc y .local && (p.line == pos.line) && !(scope.names.any fun (n, k) => n == y && (k == .local || k == .cell))
  | _ => false
/-- the walk's part -/
def walkB (C : Ck) (sc : Scope) (tpl : Bool) (k : Ik) (its : List E) (iter : Expr) : Bool := !isSet iter && (match k with
  | .seq => chkEs C its sc [iter] && decide (its.length = 1)
  | .rng1 => (match iter with | .Call (.Name x _) [a] [] _ => decide (x = Str.ofString "range") && glB sc x && chkEs C its sc [a] | _ => false)
  | .rng2 => (match iter with | .Call (.Name x _) [a, b] [] _ => decide (x = Str.ofString "range") && glB sc x && chkEs C its sc [a, b] | _ => false)
  | .items => tpl && (match iter with | .Call (.Attribute y g ap) [] [] cp => decide (g = Str.ofString "items") && notBare y && (ap.endLine == cp.line) && chkEs C its sc [y] && decide (its.length = 1) | _ => false)
  | .enum => tpl && (match iter with | .Call (.Name x _) [a] [] _ => decide (x = Str.ofString "enumerate") && glB sc x && chkEs C its sc [a] | _ => false)
  | .vals => (match iter with | .Call (.Attribute y g ap) [] [] cp => decide (g = Str.ofString "values") && notBare y && (ap.endLine == cp.line) && chkEs C its sc [y] && decide (its.length = 1) | _ => false)
  | .zip => tpl && (match iter with | .Call (.Name x _) [a, b] [] _ => decide (x = Str.ofString "zip") && glB sc x && chkEs C its sc [a, b] | _ => false)
  | _ => false)
def isStr : Expr → Bool
  | .Constant (.str _) _ _ => true | _ => false
mutual
def chkS (C : Ck) (sc : Scope) : S → Stmt → Bool
  | .set i e, .Assign [.Name x p] v _ => isC C.N i x && locB sc x && chkE C e sc v && (!isCompr v || (apartB p v || kindB sc x .cell) || hereB C sc x p v)
  | .setT is e, .Assign [.Tuple es k p] v _ => tgB C sc (.tp is) (.Tuple es k p) && chkE C e sc v && !isTupE v
  | .put o i e, .Assign [.Subscript x y _] v _ => chkE C o sc x && chkE C i sc y && chkE C e sc v
  | .fset o f e, .Assign [.Attribute x g _] v _ => !C.hot && chkE C o sc x && decide (Str.ofString f = g) && chkE C e sc v
  | .aug i o e, .AugAssign (.Name x _) op v _ => isC C.N i x && locB sc x && opB o op && chkE C e sc v
  | .faug a f o e, .AugAssign (.Attribute x g _) op v _ => !C.hot && chkE C a sc x && decide (Str.ofString f = g) && opB o op && chkE C e sc v
  | .expr e, .Expr v _ => chkE C e sc v && !isCompr v
  | .ret e, .Return (some v) _ => chkE C e sc v
  | .retN, .Return none _ => true
  | .ife c a b, .If t x y _ => chkE C c sc t && chkB C sc a x && chkB C sc b y
  | .whl c b, .While t x [] _ => chkE C c sc t && chkB C sc b x
  | .for_ tg k its b, .For tg' iter x [] _ => !C.hot && tgB C sc tg tg' && walkB C sc tg.tpl k its iter && chkB C sc b x
  | .raise c es, .Raise (some (.Call (.Name x _) (y :: xs) [] _)) none _ => !C.hot && decide (c ∈ C.xr) && isC C.cnm c x && glB sc x && okN x && chkEs C es sc (y :: xs)
  | .try_ b hs, .Try x hds [] [] _ => (!C.hot && C.lam.isNone) && chkB C sc b x && !hds.isEmpty && chkH C sc hs hds
  | .dels e lo, .Delete [.Subscript x (.Slice (some l) none none _) _] _ => chkE C e sc x && chkE C lo sc l
  | .deld o k, .Delete [.Subscript x y _] _ => chkE C o sc x && chkE C k sc y && !isSlice y
  | .mat e cs, .Match v mcs _ => !C.hot && chkE C e sc v && chkM C sc cs mcs
  | .brk, .Break _ => true
  | .cnt, .Continue _ => true
  | .pass, .Pass _ => true
  | .pass, .Expr v _ => isStr v
  | .stuck, _ => true
  | _, _ => false
def chkB (C : Ck) (sc : Scope) : List S → List Stmt → Bool
  | [], [] => true
  | s :: ss, st :: sts => chkS C sc s st && chkB C sc ss sts
  | _, _ => false
def chkH (C : Ck) (sc : Scope) : List (Nat × Option Nat × List S) → List ExceptHandler → Bool
  | [], [] => true
  | (k, o, b) :: r, .ExceptHandler (some (.Name x _)) y (st :: sts) _ :: hds => decide (k ∈ C.xc) && isC C.cnm k x && glB sc x && okN x &&
      (match o, y with | none, none => true | some i, some y => isC C.N i y && kindB sc y .local | _, _ => false) && chkB { C with hot := true, exn := o } sc b (st :: sts) && chkH C sc r hds
  | _, _ => false
def chkM (C : Ck) (sc : Scope) : List (List (List Char) × List (Option Nat) × List S) → List MatchCase → Bool
  | [], [] => true
  | (ws, sl, b) :: r, ⟨p, none, body⟩ :: mcs => patB C sc ws sl p && chkB C sc b body && chkM C sc r mcs
  | _, _ => false
end

def postS (G : Gx) (Wx : WX) (as : List Addr) (H : Hp) (r : RS) (D : Ends) : Prop := match r with
  | .ok (.nx σI) h => ∀ as' H' σ', Ext as H as' H' → HI G h as' H' → SL G σI as' H' σ' → D.nx σ' H'
  | .ok (.bk σI) h => ∀ as' H' σ', Ext as H as' H' → HI G h as' H' → SL G σI as' H' σ' → D.bk σ' H'
  | .ok (.ct σI) h => ∀ as' H' σ', Ext as H as' H' → HI G h as' H' → SL G σI as' H' σ' → D.ct σ' H'
  | .ok (.rt d) h => ∀ as' H' v, Ext as H as' H' → HI G h as' H' → Rep G as' H' d v → D.rt v H'
  | .exc c fs σI h => ∀ C dx vs as' H' σ', Ext as H as' H' → HI G h as' H' → G.ca c = some C → H' dx = some (.xd vs) → RepF G as' H' fs vs → SL G σI as' H' σ' → Wx (.ref C) (some dx) σ' H'
  | .no => False
def tS (G : Gx) (Wx : WX) (ev : Sg → Hs → RS) : TS := fun D σ H => ∃ σI h as, SL G σI as H σ ∧ HI G h as H ∧ postS G Wx as H (ev σI h) D
section
variable {G : Gx} {Wx : WX} {as as' : List Addr} {H H' : Hp} {σ : L2.St} {r : RS} {Ds : Ends} {α β : Type} {Rl : List Addr → Hp → α → β → Prop}
theorem postS.mono (x : Ext as H as' H') (p : postS G Wx as H r Ds) : postS G Wx as' H' r Ds := by
  match r with
  | .ok (.nx _) h => exact fun _ _ _ e => p _ _ _ (x.trans e)
  | .ok (.bk _) h => exact fun _ _ _ e => p _ _ _ (x.trans e)
  | .ok (.ct _) h => exact fun _ _ _ e => p _ _ _ (x.trans e)
  | .ok (.rt _) h => exact fun _ _ _ e => p _ _ _ (x.trans e)
  | .exc c fs σI h => exact fun _ _ _ _ _ _ e => p _ _ _ _ _ _ (x.trans e)
  | .no => exact p
theorem postS.stm {q : R α} {σI : Sg} {f : α → Hs → RS} (sl : SL G σI as H σ) (p : postS G Wx as H (q.stm σI f) Ds) :
    post G Wx Rl as H σ q fun v H1 => ∃ d h1 as1, q = .ok d h1 ∧ Ext as H as1 H1 ∧ SL G σI as1 H1 σ ∧ HI G h1 as1 H1 ∧ Rl as1 H1 d v ∧ postS G Wx as1 H1 (f d h1) Ds := by
  cases q with
  | ok d h => exact fun v as2 H2 e i r => ⟨d, h, as2, rfl, e, sl.mono e, i, r, p.mono e⟩
  | exc c fs h => exact fun C dx vs as2 H2 e i k1 k2 k3 => p C dx vs as2 H2 σ e i k1 k2 k3 (sl.mono e)
  | no => exact p
theorem stm1 {ev : Sg → Hs → R D} {f : D → Hs → RS} {σI : Sg} {h : Hs} {Ds : Ends} (sl : SL G σI as H σ) (hi : HI G h as H) (p : postS G Wx as H ((ev σI h).stm σI f) Ds) :
    tE G Wx ev σ H fun x H1 => ∃ d h1 as1, ev σI h = .ok d h1 ∧ Ext as H as1 H1 ∧ SL G σI as1 H1 σ ∧ HI G h1 as1 H1 ∧ Rep G as1 H1 d x ∧ postS G Wx as1 H1 (f d h1) Ds :=
  ⟨σI, h, as, sl, hi, p.stm (Rl := Rep G) sl⟩
theorem stmT {ev : Sg → Hs → R D} {f : Bool → Hs → RS} {σI : Sg} {h : Hs} {Ds : Ends} (sl : SL G σI as H σ) (hi : HI G h as H) (p : postS G Wx as H (((ev σI h).bind truthR).stm σI f) Ds) :
    tT G Wx ev σ H fun x H1 => ∃ h1 as1, Ext as H as1 H1 ∧ SL G σI as1 H1 σ ∧ HI G h1 as1 H1 ∧ postS G Wx as1 H1 (f x h1) Ds :=
  ⟨σI, h, as, sl, hi, (p.stm (Rl := rB) sl).imp fun v H1 ⟨d, h1, as1, _, x, s, i, e, q⟩ => ⟨h1, as1, x, s, i, e ▸ q⟩⟩
theorem R.stm_bind {γ : Type} (q : R α) (f : α → Hs → R γ) (σI : Sg) (g : γ → Hs → RS) : (q.stm σI fun x h => (f x h).stm σI g) = (q.bind f).stm σI g := by
  cases q <;> rfl
end
section
variable {X : Cx} {M : Mx} {C : Ck} {sc : Scope} {n : Nat} {Wx : WX} {cf : CF}
theorem ps_imp {st : Stmt} {t t' : TS} (h : PS X st t) (i : ∀ D σ H, t' D σ H → t D σ H) : PS X st t' := ⟨fun pins s σ H D I q => h.run pins s σ H D I (i D σ H q)⟩
theorem pss_imp {st : List Stmt} {t t' : TS} (h : PSs X st t) (i : ∀ D σ H, t' D σ H → t D σ H) : PSs X st t' := ⟨fun pins s σ H D I q => h.run pins s σ H D I (i D σ H q)⟩
theorem walk_ok (K : Cok X M C sc n Wx cf) {tpl : Bool} {k : Ik} {its : List E} {tg' iter : Expr} (htp : tpl = true → ∃ elts kk tp, tg' = .Tuple elts kk tp) (h : walkB C sc tpl k its iter = true) : PI X tg' iter (tI X M Wx (evalEs M.W cf M.cx its) k) ∧ isSet iter = false := by
  simp only [walkB, Bool.and_eq_true, Bool.not_eq_true'] at h
  refine ⟨?_, h.1⟩
  obtain ⟨_, h8⟩ := h
  cases k <;> simp only [Bool.false_eq_true, Bool.and_eq_true, decide_eq_true_eq] at h8
  · cases sEs its h8.1 K with
    | cons q1 q2 => cases q2; exact pi_seq K q1.1
  · split at h8
    · rename_i p a pos
      simp only [Bool.and_eq_true, decide_eq_true_eq] at h8
      obtain ⟨⟨rfl, h9⟩, h10⟩ := h8
      have := sEs its h10 K
      exact pi_rng1 K h9 (by cases this with | cons q1 q2 => exact q1.2) (pa_of this)
    · cases h8
  · split at h8
    · rename_i p a b pos
      simp only [Bool.and_eq_true, decide_eq_true_eq] at h8
      obtain ⟨⟨rfl, h9⟩, h10⟩ := h8
      have := sEs its h10 K
      exact pi_rng2 K h9 (by cases this with | cons q1 q2 => exact q1.2) (by cases this with | cons q1 q2 => cases q2 with | cons q3 q4 => exact q3.2) (pa_of this)
    · cases h8
  · obtain ⟨ht, h8⟩ := h8
    split at h8
    · rename_i y g ap cp
      simp only [Bool.and_eq_true, decide_eq_true_eq] at h8
      obtain ⟨⟨⟨⟨rfl, h9⟩, h10⟩, h11⟩, _⟩ := h8
      cases sEs its h11 K with
      | cons q1 q2 =>
        cases q2
        exact pi_kv (vl := false) K q1.1 h9 h10 fun _ => htp ht
    · cases h8
  · split at h8
    · rename_i y g ap cp
      simp only [Bool.and_eq_true, decide_eq_true_eq] at h8
      obtain ⟨⟨⟨⟨rfl, h9⟩, h10⟩, h11⟩, _⟩ := h8
      cases sEs its h11 K with
      | cons q1 q2 =>
        cases q2
        exact pi_kv (vl := true) K q1.1 h9 h10 fun h => by cases h
    · cases h8
  · obtain ⟨ht, h8⟩ := h8
    split at h8
    · rename_i x p a b pos
      simp only [Bool.and_eq_true, decide_eq_true_eq] at h8
      obtain ⟨⟨rfl, h9⟩, h10⟩ := h8
      obtain ⟨elts, kk, tp, rfl⟩ := htp ht
      have := sEs its h10 K
      exact pi_zp K h9 (by cases this with | cons q1 q2 => exact q1.2) (by cases this with | cons q1 q2 => cases q2 with | cons q3 q4 => exact q3.2) (pa_of this)
    · cases h8
  · obtain ⟨ht, h8⟩ := h8
    split at h8
    · rename_i x p a pos
      simp only [Bool.and_eq_true, decide_eq_true_eq] at h8
      obtain ⟨⟨rfl, h9⟩, h10⟩ := h8
      obtain ⟨elts, kk, tp, rfl⟩ := htp ht
      have := sEs its h10 K
      exact pi_enu K h9 (by cases this with | cons q1 q2 => exact q1.2) (pa_of this)
    · cases h8
abbrev SS (M : Mx) (X : Cx) (Wx : WX) (L : Nat) (cf : CF) (s : S) (st : Stmt) : Prop := PS X st (tS (M.g X.K) Wx (evalS M.W L cf M.cx s))
abbrev SB (M : Mx) (X : Cx) (Wx : WX) (L : Nat) (cf : CF) (s : List S) (st : List Stmt) : Prop := PSs X st (tS (M.g X.K) Wx (evalB M.W L cf M.cx s))
variable {L : Nat}
theorem ss_set (K : Cok X M C sc n Wx cf) {i : Nat} {e : E} {x : Str} {v : Expr} {p pos : Pos} (h1 : isC C.N i x = true) (h2 : locB sc x = true) (he : SE M X Wx cf e v) (hs : (!isCompr v || (apartB p v || kindB sc x .cell)) = true) : SS M X Wx L cf (.set i e) (.Assign [.Name x p] v pos) := by
  have sw : swapsWith v (some (.Name x p)) pos.line X.env = pure false := by
    cases hv : isCompr v with
    | false => exact sw_no hv _ _ _
    | true =>
      rw [hv, Bool.not_true, Bool.false_or, Bool.or_eq_true] at hs
      rcases hs with hs | hs
      · exact sw_apart hs _ _
      · have ky : X.env.kindOf x = some .cell := K.scn x .cell (by decide) (kindB_ok hs)
        cases v <;> simp only [isCompr, Bool.false_eq_true] at hv
        all_goals
          have q : (some NameKind.cell == some NameKind.local) = false := rfl
          unfold swapsWith
          simp only [ky, q, Bool.and_false, Bool.false_and]
          try rfl
  refine ps_imp (ps_set K.nd (by rw [K.N]; exact isC_ok h1) (K.loc x h2).1 he.1 sw (K.loc x h2).2) ?_
  rintro D σ H ⟨σI, h, as, sl, hi, p⟩
  simp only [evalS] at p
  obtain ⟨q1, q2, q3, sl', hi', p'⟩ := stm1 sl hi p
  refine ⟨q1, q2, q3, sl', hi', p'.imp ?_⟩
  rintro w H1 ⟨d, h1, as1, _, x1, sl1, i1, r1, p1⟩
  exact p1 as1 H1 _ Ext.refl i1 (sl1.set r1)
theorem ss_setT (K : Cok X M C sc n Wx cf) {is : List Nat} {e : E} {es : List Expr} {k : Nat} {v : Expr} {p pos : Pos} (h1 : tgB C sc (.tp is) (.Tuple es k p) = true) (he : SE M X Wx cf e v) (hs : isTupE v = false) : SS M X Wx L cf (.setT is e) (.Assign [.Tuple es k p] v pos) := by
  refine ps_imp (ps_asg he.1 (pg_tg K h1) (by cases v <;> rfl) (ss_no hs) (by rfl)) ?_
  rintro D σ H ⟨σI, h, as, sl, hi, p⟩
  simp only [evalS] at p
  obtain ⟨q1, q2, q3, sl', hi', p'⟩ := stm1 sl hi p
  refine ⟨q1, q2, q3, sl', hi', p'.imp ?_⟩
  rintro w H1 ⟨d, h1, as1, _, x1, sl1, i1, r1, p1⟩
  split at p1
  · rename_i σ1 e1
    exact ⟨σI, h1, as1, d, σ1, sl1, i1, r1, e1, fun σ2 s2 _ => p1 as1 H1 σ2 Ext.refl i1 s2⟩
  · exact p1.elim
theorem ss_put (K : Cok X M C sc n Wx cf) {o i e : E} {x y v : Expr} {p pos : Pos} (ho : SE M X Wx cf o x) (hi : SE M X Wx cf i y) (he : SE M X Wx cf e v) : SS M X Wx L cf (.put o i e) (.Assign [.Subscript x y p] v pos) := by
  refine ⟨fun pins s σ H D I h => ?_⟩
  obtain ⟨σI, h, as, sl, hh, p⟩ := h
  simp only [evalS] at p
  refine wpAny_Assign_Subscript (thn (he.1.run pins s σ H _ I (stm1 sl hh p)) fun r s1 ⟨v1, H1, I1, rv, q1⟩ => ?_) (sw_at _ _)
  obtain ⟨d1, h1, as1, _, x1, sl1, i1, r1, p1⟩ := q1
  refine thn (ho.1.run pins s1 σ H1 _ I1 (stm1 sl1 i1 p1)) fun u s2 ⟨v2, H2, I2, ru, q2⟩ => ?_
  obtain ⟨d2, h2, as2, _, x2, sl2, i2, rr2, p2⟩ := q2
  refine thn (hi.1.run pins s2 σ H2 _ I2 (stm1 sl2 i2 p2)) fun w s3 ⟨v3, H3, I3, rw', q3⟩ => ?_
  obtain ⟨d3, h3, as3, _, x3, sl3, i3, rr3, p3⟩ := q3
  split at p3
  · rename_i h4 e4
    exact putD_ok K.hu I3 ru rw' rv i3 (rr2.mono x3) rr3 ((r1.mono x2).mono x3) e4 fun H4 s4 x4 i4 I4 => ⟨σ, H4, I4, p3 as3 H4 σ x4 i4 (sl3.mono x4)⟩
  · exact p3.elim
theorem RepKV.drop {κ : Type} [DecidableEq κ] {ky : D → Option κ} {G : Gx} {as : List Addr} {H : Hp} (he : ∀ {a k : D} {x y : κ}, ky a = some x → ky k = some y → eqv a k = decide (x = y)) {k : D} {y : κ} (hk : ky k = some y) : ∀ {kvs : List (D × D)} {kv : List (κ × V)}, RepKV ky G as H kvs kv → RepKV ky G as H (kvDrop kvs k) (dropK kv y)
  | _, _, .nil => .nil
  | (a, b) :: kvs, (x, w) :: kv, .cons h t => by
    have e := he h.1 hk
    have ih := RepKV.drop he hk t
    unfold kvDrop dropK at ih ⊢
    rw [List.filter_cons, List.filter_cons]
    simp only at e
    by_cases hx : x = y
    · rw [e]; simpa [hx] using ih
    · rw [e]; simp only [hx, decide_false, Bool.not_false, if_true, ne_eq, not_false_eq_true, decide_true]; exact .cons h ih
theorem ss_dels (K : Cok X M C sc n Wx cf) {o k : E} {x y : Expr} {p1 p2 pos : Pos} (ho : SE M X Wx cf o x) (hk : SE M X Wx cf k y) : SS M X Wx L cf (.dels o k) (.Delete [.Subscript x (.Slice (some y) none none p1) p2] pos) := by
  refine ps_imp (ps_dels ho.1 hk.1) ?_
  rintro D σ H ⟨σI, h, as, sl, hh, p⟩
  simp only [evalS] at p
  obtain ⟨q1, q2, q3, sl', hi', p'⟩ := stm1 sl hh p
  refine ⟨q1, q2, q3, sl', hi', p'.imp ?_⟩
  rintro v1 H1 ⟨d1, h1, as1, _, x1, sl1, i1, r1, p1⟩
  obtain ⟨q1, q2, q3, sl', hi', p'⟩ := stm1 sl1 i1 p1
  refine ⟨q1, q2, q3, sl', hi', p'.imp ?_⟩
  rintro v2 H2 ⟨d2, h2, as2, _, x2, sl2, i2, rr2, p2⟩
  have r1' := r1.mono x2
  split at p2
  · rename_i h3 e3
    cases d1 <;> try (simp only [delsD, reduceCtorEq] at e3; done)
    cases d2 <;> try (simp only [delsD, reduceCtorEq] at e3; done)
    rename_i m _ i _
    simp only [delsD] at e3
    simp only [Rep] at r1' rr2
    subst rr2
    obtain ⟨a, rfl, ea⟩ := r1'
    split at e3
    · rename_i xs e4
      split at e3
      · rename_i hc
        cases e3
        obtain ⟨ws, h1', hr⟩ := i2.ob _ _ a e4 ea
        have hl := hr.length
        refine ⟨a, ws, i, rfl, rfl, h1', hc.1, by omega, by omega, ?_⟩
        have ex := ext_set (o := HO.lst (ws.take i.toNat)) ea h1' (fun _ => by intro z; cases z) (fun _ _ => by intro z; cases z)
        exact p2 as2 _ σ ex (i2.set ea h1' (fun _ => by intro z; cases z) (fun _ _ => by intro z; cases z) ⟨_, upd_same, (Reps.take i.toNat hr).mono ex⟩) (sl2.mono ex)
      · cases e3
    · cases e3
  · exact p2.elim
theorem ss_deld (K : Cok X M C sc n Wx cf) {o k : E} {x y : Expr} {p pos : Pos} (ho : SE M X Wx cf o x) (hk : SE M X Wx cf k y) : SS M X Wx L cf (.deld o k) (.Delete [.Subscript x y p] pos) := by
  refine ⟨fun pins s σ H D I h => ?_⟩
  obtain ⟨σI, h, as, sl, hh, p⟩ := h
  simp only [evalS] at p
  refine wpAny_Delete (wpAny_deleteEach_cons (wpAny_delete_Subscript (thn (ho.1.run pins s σ H _ I (stm1 sl hh p)) fun u s1 ⟨v1, H1, I1, rv, q1⟩ => ?_)))
  obtain ⟨d1, h1, as1, _, x1, sl1, i1, r1, p1⟩ := q1
  refine thn (hk.1.run pins s1 σ H1 _ I1 (stm1 sl1 i1 p1)) fun iv s2 ⟨v2, H2, I2, ru, q2⟩ => ?_
  obtain ⟨d2, h2, as2, _, x2, sl2, i2, rr2, p2⟩ := q2
  split at p2
  · rename_i h3 e3
    have r1' := r1.mono x2
    cases d1 <;> simp only [deldD, reduceCtorEq] at e3
    rename_i m
    simp only [Rep] at r1'
    obtain ⟨a, rfl, ea⟩ := r1'
    obtain rfl : u = Value.ref a := rv
    split at e3
    · rename_i kvs e4
      split at e3
      · rename_i hc
        cases e3
        simp only [okK, Bool.and_eq_true, Bool.false_eq_true, if_false] at hc
        obtain ⟨⟨c1, c2⟩, c3⟩ := hc
        obtain ⟨kv, hl, hk'⟩ := i2.ob _ _ a e4 ea
        simp only [lkd, Bool.false_eq_true, if_false] at hl
        obtain ⟨ky, ek⟩ : ∃ ky, keyK d2 = some ky := by
          cases d2 <;> simp only [isK, Bool.false_eq_true] at c1 <;> exact ⟨_, rfl⟩
        obtain rfl := Rep.keyK_v ek rr2
        have gk := RepKV.get (fun ha hb => eqv_key ha hb) ek hk'
        refine d_delItem I2 hl ru ?_ fun s3 I3 => wpAny_deleteEach_nil ⟨σ, _, I3, ?_⟩
        · rcases gk with ⟨g1, g2⟩ | ⟨w, v, g1, g2, g3⟩
          · rw [g1] at c3; cases c3
          · rw [g2]; rfl
        · have ex := ext_set (o := HO.dK (dropK kv ky)) ea hl (fun _ => by intro z; cases z) (fun _ _ => by intro z; cases z)
          refine p2 as2 _ σ ex (i2.set ea hl (fun _ => by intro z; cases z) (fun _ _ => by intro z; cases z) ⟨_, ?_, (RepKV.drop (fun ha hb => eqv_key ha hb) ek hk').mono ex⟩) (sl2.mono ex)
          simp only [lkd, Bool.false_eq_true, if_false]; exact upd_same
      · cases e3
    · cases e3
  · exact p2.elim
theorem ss_fset (K : Cok X M C sc n Wx cf) (hot : C.hot = false) {o e : E} {f : String} {x v : Expr} {p pos : Pos} (ho : SE M X Wx cf o x) (he : SE M X Wx cf e v) : SS M X Wx L cf (.fset o f e) (.Assign [.Attribute x (Str.ofString f) p] v pos) := by
  refine ps_imp (ps_fld ho.1 he.1 (sw_fld _ _)) ?_
  rintro D σ H ⟨σI, h, as, sl, hh, p⟩
  simp only [evalS] at p
  obtain ⟨q1, q2, q3, sl', hi', p'⟩ := stm1 sl hh p
  refine ⟨q1, q2, q3, sl', hi', p'.imp ?_⟩
  rintro w H1 ⟨d, h1, as1, _, x1, sl1, i1, r1, p1⟩
  obtain ⟨q1, q2, q3, sl', hi', p'⟩ := stm1 sl1 i1 p1
  refine ⟨q1, q2, q3, sl', hi', p'.imp ?_⟩
  rintro w2 H2 ⟨d2, h2, as2, _, x2, sl2, i2, r2, p2⟩
  split at p2
  · rename_i h4 e4
    cases d2 with
    | ob m =>
      simp only [Rep] at r2
      obtain ⟨a, rfl, ea⟩ := r2
      simp only [fsetD] at e4
      split at e4
      · rename_i c fs e5
        split at e4
        · rename_i hc
          cases e4
          obtain ⟨Ca, dx, vs, hca, ob, hrf⟩ := i2.ob m _ a e5 ea
          simp only [Bool.and_eq_true, decide_eq_true_eq] at hc
          unfold hasF at hc
          obtain ⟨hc1, hc2⟩ := hc
          split at hc1
          · rename_i ci eci
            have cl := (K.cool hot).cls c ci eci Ca hca
            have ex := ext_set (o := HO.ins Ca dx (putF (Str.ofString f) w vs)) ea ob (fun _ => by intro z; cases z) (fun _ _ => by intro z; cases z)
            refine ⟨a, Ca, dx, vs, rfl, ob, cl.1, cl.2.1 f (by simpa using hc1), by rw [← hrf.length]; omega, ?_⟩
            refine p2 as2 _ σ ex (i2.set ea ob (fun _ => by intro z; cases z) (fun _ _ => by intro z; cases z) ⟨Ca, dx, _, hca, upd_same, RepF.put ((r1.mono x2).mono ex) (hrf.mono ex)⟩) (sl2.mono ex)
          · cases hc1
        · cases e4
      · cases e4
    | _ => simp [fsetD] at e4
  · exact p2.elim
theorem ss_expr {e : E} {v : Expr} {pos : Pos} (he : SE M X Wx cf e v) (hs : isCompr v = false) : SS M X Wx L cf (.expr e) (.Expr v pos) := by
  refine ps_imp (ps_expr he.1 (sw_no hs _ _ _)) ?_
  rintro D σ H ⟨σI, h, as, sl, hi, p⟩
  simp only [evalS] at p
  obtain ⟨q1, q2, q3, sl', hi', p'⟩ := stm1 sl hi p
  refine ⟨q1, q2, q3, sl', hi', p'.imp ?_⟩
  rintro w H1 ⟨d, h1, as1, _, x1, sl1, i1, r1, p1⟩
  exact p1 as1 H1 σ Ext.refl i1 sl1
theorem ss_ret {e : E} {v : Expr} {pos : Pos} (he : SE M X Wx cf e v) : SS M X Wx L cf (.ret e) (.Return (some v) pos) := by
  refine ps_imp (ps_ret he.1) ?_
  rintro D σ H ⟨σI, h, as, sl, hi, p⟩
  simp only [evalS] at p
  obtain ⟨q1, q2, q3, sl', hi', p'⟩ := stm1 sl hi p
  refine ⟨q1, q2, q3, sl', hi', p'.imp ?_⟩
  rintro w H1 ⟨d, h1, as1, _, x1, sl1, i1, r1, p1⟩
  exact p1 as1 H1 w Ext.refl i1 r1
theorem ss_if {c : E} {a b : List S} {t : Expr} {x y : List Stmt} {pos : Pos} (hc : SE M X Wx cf c t) (ha : SB M X Wx L cf a x) (hb : SB M X Wx L cf b y) : SS M X Wx L cf (.ife c a b) (.If t x y pos) := by
  refine ps_imp (ps_if hc.2 ha hb) ?_
  rintro D σ H ⟨σI, h, as, sl, hi, p⟩
  simp only [evalS] at p
  rw [R.stm_bind] at p
  obtain ⟨q1, q2, q3, sl', hi', p'⟩ := stmT (ev := evalE M.W cf M.cx c) sl hi p
  refine ⟨q1, q2, q3, sl', hi', p'.imp ?_⟩
  rintro w H1 ⟨h1, as1, x1, sl1, i1, p1⟩
  cases w with
  | true => exact ⟨σI, h1, as1, sl1, i1, p1⟩
  | false => exact ⟨σI, h1, as1, sl1, i1, p1⟩
theorem ss_whl (K : Cok X M C sc n Wx cf) {c : E} {b : List S} {t : Expr} {x : List Stmt} {pos : Pos} (hc : SE M X Wx cf c t) (hb : SB M X Wx L cf b x) : SS M X Wx L cf (.whl c b) (.While t x [] pos) := by
  refine ps_imp (ps_while K.pas hc.2 hb) ?_
  rintro D σ H ⟨σI, h, as, sl, hi, p⟩
  simp only [evalS] at p
  refine ⟨fun m σ' H' => ∃ σI h as, SL (M.g X.K) σI as H' σ' ∧ HI (M.g X.K) h as H' ∧ postS (M.g X.K) Wx as H' (whileI (fun σ h => (evalE M.W cf M.cx c σ h).bind fun x h => truthR x h) (evalB M.W L cf M.cx b) m σI h) D, ⟨L, σI, h, as, sl, hi, p⟩, ?_⟩
  rintro m σ' H' ⟨σI, h, as, sl, hi, p⟩
  cases m with
  | zero => exact p.elim
  | succ m =>
    simp only [whileI] at p
    obtain ⟨q1, q2, q3, sl', hi', p'⟩ := stmT (ev := evalE M.W cf M.cx c) sl hi p
    refine ⟨q1, q2, q3, sl', hi', p'.imp ?_⟩
    rintro w H1 ⟨h1, as1, x1, sl1, i1, p1⟩
    cases w with
    | false => exact p1 as1 H1 σ' Ext.refl i1 sl1
    | true =>
      simp only [if_true] at p1 ⊢
      refine ⟨_, fun σ' H' q => ⟨m, Nat.lt_succ_self m, q⟩, σI, h1, as1, sl1, i1, ?_⟩
      match e : evalB M.W L cf M.cx b σI h1 with
      | .ok (.nx σ2) h2 => rw [e] at p1; exact fun as2 H2 σ' x2 i2 s2 => ⟨σ2, h2, as2, s2, i2, p1.mono x2⟩
      | .ok (.ct σ2) h2 => rw [e] at p1; exact fun as2 H2 σ' x2 i2 s2 => ⟨σ2, h2, as2, s2, i2, p1.mono x2⟩
      | .ok (.bk σ2) h2 => rw [e] at p1; exact p1
      | .ok (.rt d) h2 => rw [e] at p1; exact p1
      | .exc c fs σ2 h2 => rw [e] at p1; exact p1
      | .no => rw [e] at p1; exact p1
end
end Rf
end

section
namespace Rf
open PySem PySem.Spec PyProof.Rows L2

section
variable {X : Cx} {M : Mx} {C : Ck} {sc : Scope} {n : Nat} {Wx : WX} {cf : CF} {L : Nat}
def unlN (X : Cx) (g : Gd) (N : L2.St → Hp → Prop) : L2.St → Hp → Prop := fun σ H => match g with
  | .lock _ _ _ => ∃ d od u, H d = some (.frz od u) ∧ (∀ o' u', X.H_0 d ≠ some (.frz o' u')) ∧ N σ (upd H d u)
  | _ => N σ H
def unlD (X : Cx) (g : Gd) (Ds : Ends) : Ends := { nx := unlN X g Ds.nx, rt := unlQ X g Ds.rt, bk := Ds.bk, ct := Ds.ct }
theorem SP.unl {pins : List (Addr × Obj)} {g : Gd} {Ds : Ends} {f : Flow} {s : Shared} (h : SP X pins (unlD X g Ds) f s) : SP X pins Ds f s := by
  cases f with
  | next =>
    obtain ⟨σ, H, I, q⟩ := h
    cases g with
    | lock n t kvs =>
      obtain ⟨d, od, w, e, nf, q⟩ := q
      exact ⟨σ, _, I.unlock e nf, q⟩
    | none => exact ⟨σ, H, I, q⟩
    | keep n mo => exact ⟨σ, H, I, q⟩
    | keep2 n mo m mo2 => exact ⟨σ, H, I, q⟩
  | brk => exact h
  | cont => exact h
  | ret u =>
    obtain ⟨v, σ, H, I, r, q⟩ := h
    cases g with
    | lock n t kvs =>
      obtain ⟨d, od, w, e, nf, q⟩ := q
      exact ⟨v, σ, _, I.unlock e nf, r, q⟩
    | none => exact ⟨v, σ, H, I, r, q⟩
    | keep n mo => exact ⟨v, σ, H, I, r, q⟩
    | keep2 n mo m mo2 => exact ⟨v, σ, H, I, r, q⟩
theorem un_of {g : Gd} {hc : Hs} {as as1 asc : List Addr} {H H1 Hc : Hp} (ic : HI (M.g X.K) hc asc Hc) (hs : same g hc) (x1 : Ext as H as1 H1) (xc : Ext as1 H1 asc Hc) (gd : GdOk X g as1 H) :
    ∃ Hu, HI (M.g X.K) (endG g hc) asc Hu ∧ Ext as H asc Hu ∧ (∀ b xs, Hc b = some (.tup xs) → Hu b = some (.tup xs)) ∧ (∀ (N : L2.St → Hp → Prop) σ, N σ Hu → unlN X g N σ Hc) ∧ (∀ (Q : VK) v, Q v Hu → unlQ X g Q v Hc) := by
  cases g with
  | none => exact ⟨Hc, ic, x1.trans xc, fun _ _ e => e, fun _ _ q => q, fun _ _ q => q⟩
  | keep n' mo => exact ⟨Hc, ic, x1.trans xc, fun _ _ e => e, fun _ _ q => q, fun _ _ q => q⟩
  | keep2 n' mo m2 mo2 => exact ⟨Hc, ic, x1.trans xc, fun _ _ e => e, fun _ _ q => q, fun _ _ q => q⟩
  | lock n' t kvs =>
    obtain ⟨a, ea, nf0, nf⟩ := gd
    obtain ⟨d, od, u, ed, hf, iu⟩ := ic.unlock hs
    obtain rfl : a = d := by
      have := xc.pre _ _ ea
      rw [ed] at this; exact (Option.some.inj this).symm
    exact ⟨_, iu, (x1.trans xc).unlock (List.mem_of_getElem? ed) hf nf, fun b xs e => tup_upd (fun ys q => by rw [hf] at q; cases q) e, fun N σ q => ⟨a, od, u, hf, nf0, q⟩, fun Q v q => ⟨a, od, u, hf, nf0, q⟩⟩
theorem SL.mono0 {G : Gx} {σI : Sg} {as : List Addr} {H H' : Hp} {σ : L2.St} (s : SL G σI as H σ) (ht : ∀ b xs, H b = some (.tup xs) → H' b = some (.tup xs)) : SL G σI as H' σ :=
  ⟨s.len, fun i d e => by obtain ⟨v, e1, r⟩ := s.at_ i d e; exact ⟨v, e1, r.mono0 (fun _ _ h => h) ht⟩, s.ex⟩
theorem ss_for (K : Cok X M C sc n Wx cf) (hot : C.hot = false) {tg : Tg} {k : Ik} {its : List E} {b : List S} {tg' iter : Expr} {x : List Stmt} {pos : Pos} (htg : tgB C sc tg tg' = true) (hw : walkB C sc tg.tpl k its iter = true) (hb : SB M X Wx L cf b x) :
    SS M X Wx L cf (.for_ tg k its b) (.For tg' iter x [] pos) := by
  refine ⟨fun pins s σ H Ds I h => ?_⟩
  obtain ⟨σI, h, as, sl, hi, p⟩ := h
  simp only [evalS] at p
  rw [R.stm_bind] at p
  obtain ⟨hpi, hset⟩ := walk_ok (tg' := tg') K (fun ht => by
    cases tg with
    | nm i => simp [Tg.tpl] at ht
    | tp is => cases tg' <;> simp [tgB] at htg; exact ⟨_, _, _, rfl⟩
    | tn is j => cases tg' <;> simp [tgB] at htg; exact ⟨_, _, _, rfl⟩) hw
  have hfold : ∀ x, foldedSetIterable iter X.env x = pure x := by
    intro x
    cases iter <;> first | rfl | (simp [isSet] at hset)
  have rule := ps_for (pos := pos) K.pas (K.cool hot).calm hpi (pg_tg K htg) hb hfold
  cases e0 : ((evalEs M.W cf M.cx its σI h).bind fun xs h => ofO (itemsI M.W.cons k xs h) h) with
  | no => rw [e0] at p; exact p.elim
  | exc c fs h1 =>
    rw [e0] at p
    refine rule.run pins s σ H Ds I ⟨σI, h, as, sl, hi, ?_⟩
    rw [e0]
    exact fun Cc dx vs as' H' x i k1 k2 k3 => p Cc dx vs as' H' σ x i k1 k2 k3 (sl.mono x)
  | ok ig h0 =>
    rw [e0] at p
    obtain ⟨items, g, hg⟩ := ig
    simp only [R.stm_ok] at p
    refine thn (rule.run pins s σ H (unlD X g Ds) I ⟨σI, h, as, sl, hi, ?_⟩) fun f s' q => SP.unl q
    rw [e0]
    rintro J as1 H1 x1 ⟨i1, w1⟩ gd
    simp only at i1 w1 gd
    generalize hturn : (fun (d : D) (σ : Sg) (h : Hs) => match bindT tg d h σ with | some σ => evalB M.W L cf M.cx b σ h | none => RS.no) = turn at p
    refine ⟨fun i m σ' Hc => m = items.length - i ∧ i ≤ items.length ∧ ∃ σc hc asc, Ext as1 H1 asc Hc ∧ HI (M.g X.K) hc asc Hc ∧ SL (M.g X.K) σc asc Hc σ' ∧ postS (M.g X.K) Wx as H (forI g turn (items.drop i) σc hc) Ds,
      ⟨items.length, by simp, Nat.zero_le _, σI, hg, as1, Ext.refl, i1, sl.mono x1, p⟩, ?_⟩
    rintro i m σ' Hc ⟨rfl, hile, σc, hc, asc, xc, ic, slc, pc⟩
    by_cases hlt : i < items.length
    · have hdrop : items.drop i = items[i] :: items.drop (i + 1) := List.drop_eq_getElem_cons hlt
      rw [hdrop] at pc
      simp only [forI] at pc
      by_cases hs : same g hc
      · rw [if_pos hs] at pc
        obtain ⟨go, yl⟩ := (w1 i hc asc Hc xc ic hs).2 items[i] (by simp [hlt])
        refine .inr ⟨go, fun σ4 H4 => items.length - (i + 1) = items.length - (i + 1) ∧ i + 1 ≤ items.length ∧ ∃ σc hc asc, Ext as1 H1 asc H4 ∧ HI (M.g X.K) hc asc H4 ∧ SL (M.g X.K) σc asc H4 σ4 ∧ postS (M.g X.K) Wx as H (forI g turn (items.drop (i + 1)) σc hc) Ds,
          fun σ4 H4 q => ⟨items.length - (i + 1), by omega, q⟩, fun y H' yy => ?_⟩
        obtain ⟨as', x', i', rx⟩ := yl y H' yy
        have et : turn items[i] σc hc = match bindT tg items[i] hc σc with | some σ => evalB M.W L cf M.cx b σ hc | none => RS.no := by rw [← hturn]
        cases eb : bindT tg items[i] hc σc with
        | none => rw [et, eb] at pc; exact pc.elim
        | some σ1 =>
          refine ⟨σc, hc, as', items[i], σ1, slc.mono x', i', rx, eb, fun σ2 sl2 _ => ⟨σ1, hc, as', sl2, i', ?_⟩⟩
          rw [eb] at et
          simp only at et
          rw [et] at pc
          match e : evalB M.W L cf M.cx b σ1 hc with
          | .ok (.nx σ3) h3 =>
            rw [e] at pc
            exact fun as3 H3 σ4 x3 i3 s3 => ⟨rfl, by omega, σ3, h3, as3, xc.trans (x'.trans x3), i3, s3, pc⟩
          | .ok (.ct σ3) h3 =>
            rw [e] at pc
            exact fun as3 H3 σ4 x3 i3 s3 => ⟨rfl, by omega, σ3, h3, as3, xc.trans (x'.trans x3), i3, s3, pc⟩
          | .ok (.bk σ3) h3 =>
            rw [e] at pc
            intro as3 H3 σ4 x3 i3 s3
            simp only at pc
            by_cases hs3 : same g h3
            · rw [if_pos hs3] at pc
              obtain ⟨Hu, iu, xu, ht, hn, _⟩ := un_of i3 hs3 x1 (xc.trans (x'.trans x3)) gd
              exact hn _ _ (pc as3 Hu σ4 xu iu (s3.mono0 ht))
            · rw [if_neg hs3] at pc; exact pc.elim
          | .ok (.rt d) h3 =>
            rw [e] at pc
            intro as3 H3 v x3 i3 r3
            simp only at pc
            by_cases hs3 : same g h3
            · rw [if_pos hs3] at pc
              obtain ⟨Hu, iu, xu, ht, _, hq⟩ := un_of i3 hs3 x1 (xc.trans (x'.trans x3)) gd
              exact hq _ _ (pc as3 Hu v xu iu (r3.mono0 (fun _ _ h => h) ht))
            · rw [if_neg hs3] at pc; exact pc.elim
          | .exc c fs σ3 h3 =>
            rw [e] at pc
            exact pc.mono (x1.trans (xc.trans x'))
          | .no => rw [e] at pc; exact pc.elim
      · rw [if_neg hs] at pc; exact pc.elim
    · have hie : i = items.length := by omega
      subst hie
      rw [List.drop_length] at pc
      simp only [forI] at pc
      by_cases hs : same g hc
      · rw [if_pos hs] at pc
        refine .inl ⟨(w1 _ hc asc Hc xc ic hs).1 (Nat.le_refl _), ?_⟩
        obtain ⟨Hu, iu, xu, ht, hn, _⟩ := un_of ic hs x1 xc gd
        exact hn _ _ (pc asc Hu σ' xu iu (slc.mono0 ht))
      · rw [if_neg hs] at pc; exact pc.elim
def rAug (M : Mx) (K : PySem.W.Frag) (Wx : WX) (σ : L2.St) (o : Op) : V → V → Hp → VK → Prop := fun x y H Q => ∃ dx dy h as, HI (M.g K) h as H ∧ Rep (M.g K) as H dx x ∧ Rep (M.g K) as H dy y ∧ post (M.g K) Wx (Rep (M.g K)) as H σ (augD o dx dy h) Q
theorem aug_ok {o : Op} {op : Operator} (ho : opB o op = true) (σ : L2.St) : PIp X op (rAug M X.K Wx σ o) := by
  rintro pins s σ' H x y v u Q I rx ry ⟨dx, dy, h, as, hi, r1, r2, p⟩
  unfold augD at p
  split at p
  · simp only [Rep] at r1 r2
    subst r1 r2
    cases op <;> simp only [opB, Bool.false_eq_true] at ho
    exact ip_add pins s σ' H _ _ v u Q I rx ry ⟨_, _, rfl, rfl, p _ as H Ext.refl hi (by simp only [Rep])⟩
  · simp only [Rep] at r1 r2
    subst r1 r2
    cases op <;> simp only [opB, Bool.false_eq_true] at ho
    exact ip_sub pins s σ' H _ _ v u Q I rx ry ⟨_, _, rfl, rfl, p _ as H Ext.refl hi (by simp only [Rep])⟩
  · rename_i z z'
    simp only [Rep] at r1 r2
    subst r1 r2
    cases op <;> simp only [opB, Bool.false_eq_true] at ho
    split at p
    · rename_i hz
      refine in_addS pins s σ' H _ _ v u Q I rx ry ⟨_, _, rfl, rfl, by simpa [st, Str.length] using hz, ?_⟩
      refine p _ as H Ext.refl hi ?_
      simp only [Rep]
      show V.str ⟨(st z).cps ++ (st z').cps⟩ = _
      simp [st]
    · exact p.elim
  · exact p.elim
theorem ss_aug (K : Cok X M C sc n Wx cf) {i : Nat} {o : Op} {e : E} {x : Str} {op : Operator} {v : Expr} {p pos : Pos} (h1 : isC C.N i x = true) (h2 : locB sc x = true) (h3 : opB o op = true) (he : SE M X Wx cf e v) :
    SS M X Wx L cf (.aug i o e) (.AugAssign (.Name x p) op v pos) := by
  refine ⟨fun pins s σ H Ds I h => ?_⟩
  refine (ps_aug K.nd (by rw [K.N]; exact isC_ok h1) (K.loc x h2).1 he.1 (aug_ok (M := M) (Wx := Wx) h3 σ) (K.loc x h2).2).run pins s σ H Ds I ?_
  obtain ⟨σI, h, as, sl, hi, p⟩ := h
  simp only [evalS] at p
  split at p
  · rename_i d ed
    obtain ⟨w, e1, r⟩ := sl.at_ i d ed
    refine ⟨w, e1, ?_⟩
    obtain ⟨q1, q2, q3, sl', hi', p'⟩ := stm1 sl hi p
    refine ⟨q1, q2, q3, sl', hi', p'.imp ?_⟩
    rintro y H1 ⟨d1, h1, as1, _, x1, sl1, i1, r1, p1⟩
    refine ⟨d, d1, h1, as1, i1, r.mono x1, r1, (p1.stm (Rl := Rep (M.g X.K)) sl1).imp ?_⟩
    rintro z H2 ⟨d2, h2, as2, _, x2, sl2, i2, r2, p2⟩
    exact p2 as2 H2 _ Ext.refl i2 (sl2.set r2)
  · exact p.elim
theorem ss_faug (K : Cok X M C sc n Wx cf) (hot : C.hot = false) {f : String} {o : Op} {a e : E} {op : Operator} {x v : Expr} {p pos : Pos} (h3 : opB o op = true) (ha : SE M X Wx cf a x) (he : SE M X Wx cf e v) :
    SS M X Wx L cf (.faug a f o e) (.AugAssign (.Attribute x (Str.ofString f) p) op v pos) := by
  refine ⟨fun pins s σ H Ds I h => ?_⟩
  refine (ps_fldaug ha.1 he.1 (aug_ok (M := M) (Wx := Wx) h3 σ)).run pins s σ H Ds I ?_
  obtain ⟨σI, h, as, sl, hi, p⟩ := h
  simp only [evalS] at p
  obtain ⟨q1, q2, q3, sl', hi', p'⟩ := stm1 sl hi p
  refine ⟨q1, q2, q3, sl', hi', p'.imp ?_⟩
  rintro y H1 ⟨d1, h1, as1, _, x1, sl1, i1, r1, p1⟩
  cases d1 with
  | ob m =>
    simp only [Rep] at r1
    obtain ⟨ad, rfl, ea⟩ := r1
    simp only [isIns] at p1
    cases em : h1[m]? with
    | none => rw [em] at p1; exact p1.elim
    | some mo =>
      rw [em] at p1
      cases mo with
      | ins c fs =>
        simp only at p1
        split at p1
        · rename_i hf
          split at p1
          · rename_i dy ey
            obtain ⟨Ca, dx, vs, hca, ob, hrf⟩ := i1.ob m _ ad em ea
            have hf' := hf
            unfold hasF at hf'
            split at hf'
            · rename_i ci eci
              have cl := (K.cool hot).cls c ci eci Ca hca
              obtain ⟨vy, evy, rvy⟩ : ∃ vy, vs.lookup (Str.ofString f) = some vy ∧ Rep (M.g X.K) as1 H1 dy vy := by
                rcases hrf.lookup f with ⟨q, _⟩ | ⟨d9, v9, q1, q2, q3⟩
                · rw [ey] at q; cases q
                · rw [ey] at q1; cases q1; exact ⟨v9, q2, q3⟩
              refine ⟨ad, Ca, dx, vs, vy, rfl, ob, cl.1, cl.2.1 f (by simpa using hf'), evy, ?_⟩
              obtain ⟨q1, q2, q3, sl', hi', p'⟩ := stm1 sl1 i1 p1
              refine ⟨q1, q2, q3, sl', hi', p'.imp ?_⟩
              rintro y2 H2 ⟨d2, h2, as2, _, x2, sl2, i2, r2, p2⟩
              refine ⟨dy, d2, h2, as2, i2, rvy.mono x2, r2, (p2.stm (Rl := Rep (M.g X.K)) sl2).imp ?_⟩
              rintro z H3 ⟨d3, h3, as3, _, x3, sl3, i3, r3, p3⟩
              have ea3 := x3.pre _ _ (x2.pre _ _ ea)
              cases em3 : h3[m]? with
              | none => rw [em3] at p3; exact p3.elim
              | some mo3 =>
                rw [em3] at p3
                cases mo3 with
                | ins c' fs' =>
                  simp only [fsetD, em3] at p3
                  split at p3
                  · rename_i q5 q6 q7 q8
                    split at p3
                    · rename_i hcc
                      simp only [Option.some.injEq, Prod.mk.injEq] at q7
                      obtain ⟨rfl, rfl⟩ := q7
                      subst hcc
                      split at q8
                      · rename_i hl
                        cases q8
                        obtain ⟨Ca', dx', vs', hca', ob', hrf'⟩ := i3.ob m _ ad em3 ea3
                        have : Ca' = Ca := by
                          rw [hca] at hca'; exact (Option.some.inj hca').symm
                        subst this
                        simp only [Bool.and_eq_true, decide_eq_true_eq] at hl
                        refine ⟨dx', vs', ob', by rw [← hrf'.length]; omega, ?_⟩
                        have ex := ext_set (o := HO.ins Ca' dx' (putF (Str.ofString f) z vs')) ea3 ob' (fun _ => by intro z; cases z) (fun _ _ => by intro z; cases z)
                        exact p3 as3 _ σ ex (i3.set ea3 ob' (fun _ => by intro z; cases z) (fun _ _ => by intro z; cases z) ⟨Ca', dx', _, hca', upd_same, RepF.put (r3.mono ex) (hrf'.mono ex)⟩) (sl3.mono ex)
                      · cases q8
                    · exact p3.elim
                  · exact p3.elim
                | _ => exact p3.elim
            · cases hf'
          · exact p1.elim
        · exact p1.elim
      | _ => exact p1.elim
  | _ => exact p1.elim
end
end Rf
end

section
set_option maxHeartbeats 2000000
namespace Rf
open PySem PySem.Spec PyProof.Rows L2

/-! ## raise -/
theorem repF_zip {G : Gx} {as : List Addr} {H : Hp} : ∀ {fl : List String} {ds : List D} {vs : List V}, Reps G as H ds vs → RepF G as H (fl.zip ds) ((fl.map Str.ofString).zip vs)
  | [], _, _, _ => by simp; exact .nil
  | f :: fl, [], _, h => by simp only [Reps] at h; subst h; simp; exact .nil
  | f :: fl, d :: ds, _, h => by
    obtain ⟨v, vs, rfl, h1, h2⟩ := h.cons_inv
    simp only [List.zip_cons_cons, List.map_cons]
    exact .cons ⟨rfl, h1⟩ (repF_zip h2)
theorem paired_app {α β : Type} {R : α → β → Prop} : ∀ {a : List α} {b : List β} {c : List α} {d : List β}, Paired R a b → Paired R c d → Paired R (a ++ c) (b ++ d)
  | _, _, _, _, .nil, k => k
  | _, _, _, _, .cons h t, k => .cons h (paired_app t k)
theorem paired_rev {α β : Type} {R : α → β → Prop} : ∀ {a : List α} {b : List β}, Paired R a b → Paired R a.reverse b.reverse
  | _, _, .nil => .nil
  | _, _, .cons h t => by
    rw [List.reverse_cons, List.reverse_cons]
    exact paired_app (paired_rev t) (.cons h .nil)
section
variable {X : Cx} {M : Mx} {C : Ck} {sc : Scope} {n : Nat} {Wx : WX} {cf : CF} {L : Nat}
theorem postS.stms {G : Gx} {as : List Addr} {H : Hp} {σ : L2.St} {Ds : Ends} {ev : Sg → Hs → R (List D)} {f : List D → Hs → RS} {σI : Sg} {h : Hs} (sl : SL G σI as H σ) (hi : HI G h as H) (p : postS G Wx as H ((ev σI h).stm σI f) Ds) :
    tEs G Wx ev σ H fun x H1 => ∃ d h1 as1, ev σI h = .ok d h1 ∧ Ext as H as1 H1 ∧ SL G σI as1 H1 σ ∧ HI G h1 as1 H1 ∧ Reps G as1 H1 d x ∧ postS G Wx as1 H1 (f d h1) Ds :=
  ⟨σI, h, as, sl, hi, p.stm (Rl := Reps G) sl⟩
theorem ss_raise (K : Cok X M C sc n Wx cf) (hot : C.hot = false) {c : Nat} {es : List E} {x : Str} {y : Expr} {xs : List Expr} {p pos pos2 : Pos} (h0 : c ∈ C.xr) (h1 : isC C.cnm c x = true) (h2 : glB sc x = true) (h3 : okN x = true) (hx : chkEs C es sc (y :: xs) = true) (hes : SL2 M X Wx cf es (y :: xs)) :
    SS M X Wx L cf (.raise c es) (.Raise (some (.Call (.Name x p) (y :: xs) [] pos)) none pos2) := by
  obtain ⟨Ca, fI, fd, ps, e1, m1, T, iC, tI, F1, hb⟩ := (K.cool hot).exs c x h0 (isC_ok h1)
  have st : isStar y = false ∧ ∃ e es', es = e :: es' ∧ chkEs C es' sc xs = true := by
    cases es with
    | nil => simp [chkEs] at hx
    | cons e es' => simp only [chkEs, Bool.and_eq_true, Bool.not_eq_true'] at hx; exact ⟨hx.1.2, e, es', rfl, hx.2⟩
  obtain ⟨s1, e, es', rfl, s2⟩ := st
  refine ps_imp (ps_raise (K.cool hot).calm K.tk (pmk_oex (X := X) (dvs := []) (ds := []) T iC tI F1 ((K.cool hot).room.mono (by omega)) hb .nil pass0 (K.gl x h2) m1 (pa_of hes) (okN_ok h3).1 (star_one s1 _ _) (chkEs_star s2))) ?_
  rintro D σ H ⟨σI, h, as, sl, hi, p⟩
  simp only [evalS] at p
  obtain ⟨q1, q2, q3, sl', hi', p'⟩ := postS.stms sl hi p
  refine ⟨q1, q2, q3, sl', hi', p'.imp ?_⟩
  rintro vs H1 ⟨ds, h1', as1, _, x1, sl1, i1, r1, p1⟩
  split at p1
  · rename_i hc
    refine ⟨by rw [← r1.length]; omega, fun a ha => ⟨a, vs, by rw [List.append_nil], by rw [← r1.length]; exact hc.2.1, upd_same, fun d H2 hd ne g1 g2 g3 => ⟨rfl, d, _, g1, g2, ?_, ?_⟩⟩⟩
    · rw [upd_ne ne] at hd; exact hd
    · have hd' : H1 d = none := by rw [upd_ne ne] at hd; exact hd
      have eH : upd (del H2 a) d (.xd ((M.W.exf c).map Str.ofString |>.zip vs).reverse) = upd H1 d (.xd ((M.W.exf c).map Str.ofString |>.zip vs).reverse) := by
        funext b
        by_cases hb : b = d
        · rw [hb, upd_same, upd_same]
        · rw [upd_ne hb, upd_ne hb]
          by_cases hb2 : b = a
          · rw [hb2, del_same, ha]
          · rw [del_ne hb2, g3 b hb2 hb, upd_ne hb2]
      rw [eH]
      refine p1 Ca d _ as1 _ σ (ext_tup hd') (i1.other hd') e1 upd_same ?_ (sl1.mono (ext_tup hd'))
      exact (RepF.mono (ext_tup hd') (paired_rev (repF_zip r1)))
  · exact p1.elim
end
/-! ## name = [..] on one line -/
section
variable {X : Cx} {M : Mx} {C : Ck} {sc : Scope} {n : Nat} {Wx : WX} {cf : CF} {L : Nat}
theorem chkE_lc {e : E} {elt : Expr} {gc : Comprehension} {scope : Scope} {pos : Pos} (h : chkE C e sc (.ListComp elt [gc] scope pos) = true) : (∃ own tg k its cd el, e = .lc own tg k its cd el) ∨ ∃ a, e = .back a := by
  cases e <;> first | (simp [chkE] at h; done) | exact .inl ⟨_, _, _, _, _, _, rfl⟩ | exact .inr ⟨_, rfl⟩
theorem ss_here (K : Cok X M C sc n Wx cf) {i : Nat} {e : E} {y : Str} {v : Expr} {py pos : Pos} (h1 : isC C.N i y = true) (h2 : locB sc y = true) (he : chkE C e sc v = true) (hs : hereB C sc y py v = true) : SS M X Wx L cf (.set i e) (.Assign [.Name y py] v pos) := by
  unfold hereB at hs
  split at hs
  · rename_i elt gc scope lp
    simp only [Bool.and_eq_true, Bool.not_eq_true'] at hs
    obtain ⟨⟨⟨hot, hk⟩, hl⟩, hany⟩ := hs
    rcases chkE_lc he with ⟨own, tg, k, its, cd, el, rfl⟩ | ⟨a, rfl⟩
    · obtain ⟨tg', iter, ifs, asy⟩ := gc
      simp only [chkE, Bool.and_eq_true, Bool.not_eq_true', decide_eq_true_eq, List.all_eq_true] at he
      obtain ⟨⟨⟨⟨⟨⟨⟨⟨⟨⟨_, hnl⟩, rfl⟩, g1⟩, g2⟩, g3⟩, g4⟩, g5⟩, g6⟩, g7⟩, g8⟩ := he
      replace hnl := Option.isNone_iff_eq_none.mp hnl
      have hpi : PI X tg' iter (tI X M Wx (evalEs M.W cf M.cx its) k) := by
        by_cases hkk : ∃ c F, k = .own c F
        · obtain ⟨c, F, rfl⟩ := hkk
          simp only [Bool.and_eq_true, Bool.not_eq_true', decide_eq_true_eq] at g8
          obtain ⟨ht, ⟨q8, q9⟩, _⟩ := g8
          obtain ⟨vn, vp, rfl⟩ : ∃ vn vp, tg' = .Name vn vp := by
            cases tg with
            | nm i => cases tg' <;> simp [tgB, nmB] at g2; exact ⟨_, _, rfl⟩
            | tp is => simp [Tg.tpl] at ht
            | tn is j => simp [Tg.tpl] at ht
          cases sEs its q9 K with
          | cons z1 z2 =>
            cases z2
            exact pi_ow K hot q8 z1.1
        refine (walk_ok (C := C) (sc := sc) (n := n) (tg' := tg') (tpl := tg.tpl) K (fun ht => by
          cases tg with
          | nm i => simp [Tg.tpl] at ht
          | tp is => cases tg' <;> simp [tgB] at g2; exact ⟨_, _, _, rfl⟩
          | tn is j => cases tg' <;> simp [tgB] at g2; exact ⟨_, _, _, rfl⟩) ?_).1
        unfold walkB
        simp only [g7, Bool.not_false, Bool.true_and]
        cases k <;> first | exact g8 | exact absurd ⟨_, _, rfl⟩ hkk
      have hy : X.env.scope.names.lookup y = some .local := K.scn y .local (by decide) (kindB_ok hk)
      have hfold : ∀ x, foldedSetIterable iter X.env x = pure x := by
        intro x
        cases iter <;> first | rfl | (simp [isSet] at g7)
      have hvs : (ownP C own).map (·.2) = own := by
        unfold ownP; rw [List.map_map]
        exact (List.map_congr_left fun _ _ => rfl).trans (List.map_id _)
      refine ⟨fun pins s σ H D I q => ?_⟩
      obtain ⟨σI, h, as, sl, hi, p⟩ := q
      simp only [evalS] at p
      obtain ⟨q1, q2, q3, sl', hi', p'⟩ := stm1 sl hi p
      have q' : tE (M.g X.K) Wx (evalE M.W cf M.cx (.lc own tg k its cd el)) σ H (fun x H1 => gName i x σ H1 D.nx) := by
        refine ⟨q1, q2, q3, sl', hi', p'.imp ?_⟩
        rintro w H1 ⟨d, h1, as1, _, x1, sl1, i1, r1, p1⟩
        exact p1 as1 H1 _ Ext.refl i1 (sl1.set r1)
      obtain ⟨g, q'⟩ := lc_tr K hot hnl g3 q'
      have rule := ps_setLc (X := X) (i := i) (y := y) (py := py) (elt := elt) (tg := tg') (iter := iter) (ifs := ifs) (scope := scope) (pos := lp) (spos := pos) (g := gT (M.g X.K) tg) (tt := tC (M.g X.K) (fun _ _ _ _ => False) (fun σ h => (evalEs M.W cf M.cx cd σ h).bind cdB)) (te := tE (M.g X.K) (fun _ _ _ _ => False) (evalE M.W cf M.cx el))
        (K.cool hot).calm K.nd (by rw [K.N]; exact isC_ok h1) hy (sw_true I.ok.kind hy hl hany) hpi (blk_ok K g1)
        (fun s H Cc cl fp => pg_tg (K.blk hot hnl s H scope Cc cl fp) g2)
        (fun s H Cc cl fp => by
          have K' := K.blk hot hnl s H scope Cc cl fp
          refine pts_of ?_
          cases sEs cd g4 K' with
          | nil => rfl
          | cons q1 q2 =>
            cases q2 with
            | nil => exact ⟨_, rfl, q1.1⟩
            | cons _ _ => simp at g5)
        (fun s H Cc cl fp => (sE el g6 (K.blk hot hnl s H scope Cc cl fp)).1.1) hfold
      rw [hvs] at rule
      refine thn (rule.run pins s σ H (unlD X g D) I ?_) fun f s' q => SP.unl q
      have e : ∀ x H1, unlQ X g (fun x H1 => gName i x σ H1 D.nx) x H1 = gName i x σ H1 (unlD X g D).nx := by
        intro x H1
        cases g <;> rfl
      have e' : unlQ X g (fun x H1 => gName i x σ H1 D.nx) = fun x H1 => gName i x σ H1 (unlD X g D).nx := by
        funext x H1; exact e x H1
      rw [e'] at q'
      exact q'
    · unfold chkE at he
      simp [backOf, revOf] at he
  · cases hs
end
/-! ## an exception at hand -/
mutual
theorem rep_x {G : Gx} {as : List Addr} {H : Hp} {xd : Option (Addr × List (String × D))} {ex : Option (Nat × Addr)} : ∀ {d : D} {v : V}, Rep { G with xd := xd, ex := ex } as H d v ↔ Rep G as H d v
  | .non, _ => Iff.rfl
  | .bl _, _ => Iff.rfl
  | .int _, _ => Iff.rfl
  | .str _, _ => Iff.rfl
  | .tup ds, v => by
    simp only [Rep]
    constructor
    · rintro ⟨a, vs, e, h1, h2⟩; exact ⟨a, vs, e, h1, reps_x.mp h2⟩
    · rintro ⟨a, vs, e, h1, h2⟩; exact ⟨a, vs, e, h1, reps_x.mpr h2⟩
  | .ob _, _ => Iff.rfl
  | .fn _, _ => Iff.rfl
  | .con _, _ => Iff.rfl
theorem reps_x {G : Gx} {as : List Addr} {H : Hp} {xd : Option (Addr × List (String × D))} {ex : Option (Nat × Addr)} : ∀ {ds : List D} {vs : List V}, Reps { G with xd := xd, ex := ex } as H ds vs ↔ Reps G as H ds vs
  | [], _ => Iff.rfl
  | d :: ds, vs => by
    simp only [Reps]
    constructor
    · rintro ⟨v, r, e, h1, h2⟩; exact ⟨v, r, e, rep_x.mp h1, reps_x.mp h2⟩
    · rintro ⟨v, r, e, h1, h2⟩; exact ⟨v, r, e, rep_x.mpr h1, reps_x.mpr h2⟩
end
section
variable {G : Gx} {as : List Addr} {H : Hp} {xd : Option (Addr × List (String × D))} {ex : Option (Nat × Addr)}
theorem repF_x {fs : List (String × D)} {vs : List (Str × V)} : RepF { G with xd := xd, ex := ex } as H fs vs ↔ RepF G as H fs vs :=
  ⟨fun h => Paired.mapP h fun _ _ z => ⟨z.1, rep_x.mp z.2⟩, fun h => Paired.mapP h fun _ _ z => ⟨z.1, rep_x.mpr z.2⟩⟩
theorem obR_x {a : Addr} : ∀ {mo : MO}, ObR { G with xd := xd, ex := ex } as H a mo ↔ ObR G as H a mo
  | .lst xs => ⟨fun ⟨vs, h1, h2⟩ => ⟨vs, h1, reps_x.mp h2⟩, fun ⟨vs, h1, h2⟩ => ⟨vs, h1, reps_x.mpr h2⟩⟩
  | .dic lk false kvs => ⟨fun ⟨vs, h1, h2⟩ => ⟨vs, h1, Paired.mapP h2 fun _ _ z => ⟨z.1, rep_x.mp z.2⟩⟩, fun ⟨vs, h1, h2⟩ => ⟨vs, h1, Paired.mapP h2 fun _ _ z => ⟨z.1, rep_x.mpr z.2⟩⟩⟩
  | .dic lk true kvs => ⟨fun ⟨vs, h1, h2⟩ => ⟨vs, h1, Paired.mapP h2 fun _ _ z => ⟨z.1, rep_x.mp z.2⟩⟩, fun ⟨vs, h1, h2⟩ => ⟨vs, h1, Paired.mapP h2 fun _ _ z => ⟨z.1, rep_x.mpr z.2⟩⟩⟩
  | .ins c fs => ⟨fun ⟨C, dx, vs, h0, h1, h2⟩ => ⟨C, dx, vs, h0, h1, repF_x.mp h2⟩, fun ⟨C, dx, vs, h0, h1, h2⟩ => ⟨C, dx, vs, h0, h1, repF_x.mpr h2⟩⟩
  | .scr ns => Iff.rfl
  | .ptp xs => ⟨fun ⟨o, vs, q1, q2, q3, q4⟩ => ⟨o, vs, q1, q2, q3, reps_x.mp q4⟩, fun ⟨o, vs, q1, q2, q3, q4⟩ => ⟨o, vs, q1, q2, q3, reps_x.mpr q4⟩⟩
theorem HI.on {h : Hs} (hi : HI G h as H) (hx : XdR { G with xd := xd, ex := ex } as H) : HI { G with xd := xd, ex := ex } h as H := ⟨hx, hi.tb, hi.len, hi.nd, fun n mo a e1 e2 => obR_x.mpr (hi.ob n mo a e1 e2)⟩
theorem HI.off {h : Hs} (hn : G.xd = none) (hi : HI { G with xd := xd, ex := ex } h as H) : HI G h as H := ⟨⟨fun _ _ q => (by rw [hn] at q; cases q), hi.xd.2⟩, hi.tb, hi.len, hi.nd, fun n mo a e1 e2 => obR_x.mp (hi.ob n mo a e1 e2)⟩
/-- no dict of an exception is one of ours -/
theorem HI.noxd {h : Hs} (hi : HI G h as H) {dx : Addr} {vs : List (Str × V)} (e : H dx = some (.xd vs)) : dx ∉ as := fun hm => by
  obtain ⟨n, hn⟩ := List.getElem?_of_mem hm
  have hl : n < h.length := by rw [← hi.len]; exact (List.getElem?_eq_some_iff.mp hn).1
  have ob := hi.ob n h[n] dx (by simp [hl]) hn
  cases hmo : h[n] with
  | lst xs => rw [hmo] at ob; obtain ⟨_, q, _⟩ := ob; rw [e] at q; cases q
  | dic lk t kvs =>
    rw [hmo] at ob
    have : ∀ {o : HO}, (∀ vs, o ≠ .xd vs) → lkd lk H dx o → False := by
      intro o ho q
      unfold lkd at q
      split at q
      · obtain ⟨od, q⟩ := q; rw [e] at q; cases q
      · rw [e] at q; exact ho _ (Option.some.inj q).symm
    cases t with
    | false => obtain ⟨_, q, _⟩ := ob; exact this (fun _ z => by cases z) q
    | true => obtain ⟨_, q, _⟩ := ob; exact this (fun _ z => by cases z) q
  | ins c fs => rw [hmo] at ob; obtain ⟨_, _, _, _, q, _⟩ := ob; rw [e] at q; cases q
  | scr ns => rw [hmo] at ob; obtain ⟨_, q⟩ := ob; rw [e] at q; cases q
  | ptp ns => rw [hmo] at ob; obtain ⟨_, _, q, _⟩ := ob; rw [e] at q; cases q
theorem SL.on {σI : Sg} {σ : L2.St} (s : SL G σI as H σ) {o : Option Nat} {z : Addr} (he : ex = o.map fun i => (i, z)) : SL { G with xd := xd, ex := ex } (offI o σI) as H (slotO o z σ) := by
  subst he
  cases o with
  | none => exact ⟨s.len, fun j d e => by obtain ⟨v, a, b⟩ := s.at_ j d e; exact ⟨v, a, rep_x.mpr b⟩, fun j a e => by simp at e⟩
  | some i =>
    refine ⟨by simp [offI, slotO, s.len], fun j d e => ?_, fun j a e q => ?_⟩
    · simp only [offI, slotO] at e ⊢
      by_cases hj : j = i
      · subst hj
        have hl : j < σI.length := by have := (List.getElem?_eq_some_iff.mp e).1; simpa using this
        rw [List.getElem?_set_self hl] at e; cases e
      · rw [List.getElem?_set_ne (Ne.symm hj)] at e ⊢
        obtain ⟨v, a, b⟩ := s.at_ j d e
        exact ⟨v, a, rep_x.mpr b⟩
    · simp only [Option.map_some, Option.some.injEq, Prod.mk.injEq] at e
      obtain ⟨rfl, rfl⟩ := e
      simp only [offI, slotO] at q ⊢
      have hl : i < σI.length := by have := (List.getElem?_eq_some_iff.mp q).1; simpa using this
      rw [List.getElem?_set_self (by rw [← s.len]; exact hl)]
theorem SL.off {σI : Sg} {σ : L2.St} {o : Option Nat} (hn : G.ex = none) (s : SL { G with xd := xd, ex := ex } σI as H σ) : SL G (offI o σI) as H (match o with | none => σ | some i => σ.set i none) := by
  cases o with
  | none => exact ⟨s.len, fun j d e => by obtain ⟨v, a, b⟩ := s.at_ j d e; exact ⟨v, a, rep_x.mp b⟩, fun j a e => by rw [hn] at e; cases e⟩
  | some i =>
    refine ⟨by simp [offI, s.len], fun j d e => ?_, fun j a e q => by rw [hn] at e; cases e⟩
    simp only [offI] at e ⊢
    by_cases hj : j = i
    · subst hj
      have hl : j < σI.length := by have := (List.getElem?_eq_some_iff.mp e).1; simpa using this
      rw [List.getElem?_set_self hl] at e; cases e
    · rw [List.getElem?_set_ne (Ne.symm hj)] at e ⊢
      obtain ⟨v, a, b⟩ := s.at_ j d e
      exact ⟨v, a, rep_x.mp b⟩
/-- out of a clause -/
theorem postS.offs {Wx Wx' : WX} {r : RS} {o : Option Nat} {Ds : Ends} (h1 : G.xd = none) (h2 : G.ex = none) (p : postS G Wx as H (r.offs o) Ds) : postS { G with xd := xd, ex := ex } Wx' as H r (endsO o Ds) := by
  match r with
  | .ok (.nx σ) h => cases o <;> exact fun as' H' σ' x hi sl => p as' H' _ x (hi.off h1) (sl.off h2)
  | .ok (.bk σ) h => cases o <;> exact fun as' H' σ' x hi sl => p as' H' _ x (hi.off h1) (sl.off h2)
  | .ok (.ct σ) h => cases o <;> exact fun as' H' σ' x hi sl => p as' H' _ x (hi.off h1) (sl.off h2)
  | .ok (.rt d) h => cases o <;> exact fun as' H' v x hi rv => p as' H' v x (hi.off h1) (rep_x.mp rv)
  | .exc c fs σ h => exact p.elim
  | .no => exact p.elim
end
def Mx.at (M : Mx) (c : Nat) (fs : List (String × D)) (dx z : Addr) (o : Option Nat) : Mx := { M with cx := some (c, fs), xd := some (dx, fs), ex := o.map fun i => (i, z) }
section
variable {X : Cx} {M : Mx} {C : Ck} {sc : Scope} {n : Nat} {Wx : WX} {cf : CF} {L : Nat}
theorem Cok.suite (K : Cok X M C sc n Wx cf) (hot : C.hot = false) {c : Nat} {fs : List (String × D)} {dx z Ca : Addr} {oz : Obj} {ps : List (Addr × Obj)} (o : Option Nat) (hx : 0 < (M.W.exf c).length) (hc : M.ca c = some Ca)
    (hz : Zc (.ref Ca) (some dx) oz) (hf : ∃ vs, oz.data = .fields vs) : Cok (X.suite z ((z, oz) :: ps)) (M.at c fs dx z o) { C with hot := true, exn := o } sc n (fun _ _ _ _ => False) cf := by
  refine ⟨fun q => (by cases q), ?_, fun _ _ _ _ _ _ q => (by cases q), fun q => (by cases q), K.N, K.nd, K.vis, K.loc, K.gl, K.scn, K.scf, K.hu, K.gd, takes0, PassesOwn.never, ?_, K.scr, K.glb, K.bl, K.gs, K.gi, K.dc, ?_⟩
  · intro i x f p pos _ ho hi hv hn
    simp only at ho
    subst ho
    obtain ⟨a1, a2, _⟩ := okN_ok hn
    obtain ⟨T, hno⟩ := (K.cool hot).exm.xf c Ca hx hc
    by_cases hff : f ∈ M.W.exf c
    · refine pe_imp (pe_xf (X := X) (a := z) (oe := oz) (pn := ps) T (hno f hff) hz hf (pe_var (X := X.suite z ((z, oz) :: ps)) (pos := p) (by rw [show (X.suite z ((z, oz) :: ps)).N = C.N from K.N]; exact hi) hv a1 a2)) ?_
      rintro σ H Q ⟨σI, h, as, sl, hi', q⟩
      simp only [evalE, Mx.at] at q
      cases e : σI[i]? with
      | none => rw [e] at q; exact q.elim
      | some w =>
        rw [e] at q
        cases w with
        | some _ => exact q.elim
        | none =>
          simp only [hff, if_true] at q
          have e1 := sl.ex i z rfl e
          obtain ⟨_, vs, g1, g2⟩ := hi'.xd.1 dx fs rfl
          refine ⟨.ref z, e1, rfl, rfl, dx, vs, ?_⟩
          rcases g2.lookup f with ⟨g3, _⟩ | ⟨d, v, g3, g4, g5⟩
          · rw [g3] at q; exact q.elim
          · rw [g3] at q
            exact ⟨v, rfl, g1, g4, q v as H Ext.refl hi' g5⟩
    · refine ⟨fun pins s σ H Q I q => ?_⟩
      obtain ⟨σI, h, as, sl, hi', q⟩ := q
      simp only [evalE, Mx.at] at q
      cases e : σI[i]? with
      | none => rw [e] at q; exact q.elim
      | some w =>
        rw [e] at q
        cases w with
        | some _ => exact q.elim
        | none => simp only [hff, if_false] at q; exact q.elim
  · intro g ys a e1 e2
    obtain ⟨vs, h1, h2⟩ := K.con g ys a e1 e2
    exact ⟨vs, fun H as => ⟨(h1 H as).1, reps_x.mpr (h1 H as).2⟩, h2⟩
  · intro i k x y p p2 p3 pos _ ho hi hv hn hk hy g1 n1 g2
    simp only at ho
    subst ho
    obtain ⟨a1, a2, _⟩ := okN_ok hn
    have ex := (K.cool hot).exm
    obtain ⟨T, _⟩ := ex.xf c Ca hx hc
    obtain ⟨Ka, ek, mk⟩ := ex.nm k y hk hy
    have kt := ex.kit c k Ca Ka hx hk hc ek
    have va := pe_var (X := X.suite z ((z, oz) :: ps)) (pos := p2) (by rw [show (X.suite z ((z, oz) :: ps)).N = C.N from K.N]; exact hi) hv a1 a2
    have gb := pe_glob (X := X.suite z ((z, oz) :: ps)) (pos := p3) (v := .ref Ka) (K.gl y g1) mk rfl (okN_ok n1).1
    refine pe_imp (pe_callB (call_isX (X := X) (pn := ps) T (ex.xcd c Ca hx hc) hz hf) (K.gl _ g2) (K.bl _ (by decide +kernel)) (by decide +kernel) (pa_cons va (pa_cons gb pa_nil))) ?_
    rintro σ H Q ⟨σI, h, as, sl, hi', q⟩
    simp only [evalE, Mx.at] at q
    cases e : σI[i]? with
    | none => rw [e] at q; exact q.elim
    | some w =>
      rw [e] at q
      cases w with
      | some _ => exact q.elim
      | none =>
        have e1 := sl.ex i z rfl e
        obtain ⟨_, vs, g3, g4⟩ := hi'.xd.1 dx fs rfl
        exact ⟨.ref z, e1, Ka, M.W.isa c k, vs, rfl, kt, g3, q (.bl (M.W.isa c k)) as H Ext.refl hi' (by simp only [Rep])⟩
end
end Rf
end

section
set_option maxHeartbeats 2000000
namespace Rf
open PySem PySem.Spec PyProof.Rows L2

def FrOk (X : Cx) : Prop := X.stack = X.env :: X.outer ∧ X.env.frame = some X.env.locals
def hnB (C : Ck) (sc : Scope) (o : Option Nat) (y : Option Str) : Bool := match o, y with | none, none => true | some i, some y => isC C.N i y && kindB sc y .local | _, _ => false
theorem chkH_inv {C : Ck} {sc : Scope} {k : Nat} {o : Option Nat} {b : List S} {r : List (Nat × Option Nat × List S)} {hd : ExceptHandler} {hds : List ExceptHandler} (h : chkH C sc ((k, o, b) :: r) (hd :: hds) = true) :
    ∃ x p y st sts p2, hd = .ExceptHandler (some (.Name x p)) y (st :: sts) p2 ∧ k ∈ C.xc ∧ isC C.cnm k x = true ∧ glB sc x = true ∧ okN x = true ∧ hnB C sc o y = true ∧ chkB { C with hot := true, exn := o } sc b (st :: sts) = true ∧ chkH C sc r hds = true := by
  unfold chkH at h
  split at h <;> first | (cases h; done) | (rename_i e1 e2; cases e1; done) | skip
  rename_i e1 e2
  cases e1; cases e2
  simp only [Bool.and_eq_true, decide_eq_true_eq] at h
  obtain ⟨⟨⟨⟨⟨⟨h1, h2⟩, h3⟩, h4⟩, h5⟩, h6⟩, h7⟩ := h
  exact ⟨_, _, _, _, _, _, rfl, h1, h2, h3, h4, h5, h6, h7⟩
theorem chkS_raise {C : Ck} {sc : Scope} {c : Nat} {es : List E} {st : Stmt} (h : chkS C sc (.raise c es) st = true) :
    ∃ x p y xs pos pos2, st = .Raise (some (.Call (.Name x p) (y :: xs) [] pos)) none pos2 ∧ C.hot = false ∧ c ∈ C.xr ∧ isC C.cnm c x = true ∧ glB sc x = true ∧ okN x = true ∧ chkEs C es sc (y :: xs) = true := by
  unfold chkS at h
  split at h <;> first | (cases h; done) | (rename_i e1; cases e1; done) | skip
  rename_i e1
  cases e1
  simp only [Bool.and_eq_true, decide_eq_true_eq, Bool.not_eq_true'] at h
  obtain ⟨⟨⟨⟨⟨hot, h1⟩, h2⟩, h3⟩, h4⟩, h5⟩ := h
  exact ⟨_, _, _, _, _, _, rfl, hot, h1, h2, h3, h4, h5⟩
theorem chkS_try {C : Ck} {sc : Scope} {b : List S} {hs : List (Nat × Option Nat × List S)} {st : Stmt} (h : chkS C sc (.try_ b hs) st = true) :
    ∃ x hd hds pos, st = .Try x (hd :: hds) [] [] pos ∧ C.hot = false ∧ C.lam = none ∧ chkB C sc b x = true ∧ chkH C sc hs (hd :: hds) = true := by
  unfold chkS at h
  split at h <;> first | (cases h; done) | (rename_i e1; cases e1; done) | skip
  rename_i x hds pos e1
  cases e1
  simp only [Bool.and_eq_true, Bool.not_eq_true', List.isEmpty_eq_false_iff] at h
  obtain ⟨⟨⟨⟨hot, hnl⟩, h1⟩, h2⟩, h3⟩ := h
  replace hnl := Option.isNone_iff_eq_none.mp hnl
  cases hds with
  | nil => exact absurd rfl h2
  | cons hd hds => exact ⟨_, _, _, _, rfl, hot, hnl, h1, h3⟩
section
variable {X : Cx} {M : Mx} {C : Ck} {sc : Scope} {n : Nat} {Wx : WX} {cf : CF} {L : Nat}
theorem tS_next {σ : L2.St} {H : Hp} {Ds : Ends} (h : tS (M.g X.K) Wx (fun σ h => .ok (.nx σ) h) Ds σ H) : tNext Ds σ H := by
  obtain ⟨σI, h, as, sl, hi, p⟩ := h
  exact p as H σ Ext.refl hi sl
/-- a clause's suite -/
def tsOf (M : Mx) (K : PySem.W.Frag) (L : Nat) (cf : CF) (o : Option Nat) (b : List S) : Addr → Value → Option Addr → TS := fun z cl dx D σ G =>
  ∃ c fs d Ca, cl = .ref Ca ∧ dx = some d ∧ M.ca c = some Ca ∧ 0 < (M.W.exf c).length ∧ tS ((M.at c fs d z o).g K) (fun _ _ _ _ => False) (evalB M.W L cf (some (c, fs)) b) D σ G
def lOf (M : Mx) (K : PySem.W.Frag) (L : Nat) (cf : CF) : List (Nat × Option Nat × List S) → List Cls1
  | [] => []
  | (k, o, b) :: r => (.ref ((M.ca k).getD 0), o, tsOf M K L cf o b) :: lOf M K L cf r
theorem mix_of (K : Cok X M C sc n Wx cf) (hot : C.hot = false) (hnl : C.lam = none) {c : Nat} {fs : List (String × D)} {Ca dx : Addr} {vs : List (Str × V)} {D : Ends} (hx : 0 < (M.W.exf c).length) (hc : M.ca c = some Ca) :
    ∀ (hs : List (Nat × Option Nat × List S)) {hds : List ExceptHandler} {σI : Sg} {h : Hs} {as : List Addr} {H : Hp} {σ : L2.St}, chkH C sc hs hds = true → SL (M.g X.K) σI as H σ → HI (M.g X.K) h as H → H dx = some (.xd vs) → RepF (M.g X.K) as H fs vs →
      postS (M.g X.K) Wx as H (evalH M.W L cf c fs hs σI h) D → wMix X.K Wx D (lOf M X.K L cf hs) (.ref Ca) (some dx) σ H
  | [], _, σI, h, as, H, σ, _, sl, hi, e, rf, p => by
    simp only [evalH] at p
    exact p Ca dx vs as H σ Ext.refl hi hc e rf sl
  | (k, o, b) :: r, [], _, _, _, _, _, q, _, _, _, _, _ => by simp [chkH] at q
  | (k, o, b) :: r, hd :: hds, σI, h, as, H, σ, q, sl, hi, e, rf, p => by
    obtain ⟨x, p1, y, st, sts, p2, rfl, hk, ex, _, _, _, _, hr⟩ := chkH_inv q
    replace ex := isC_ok ex
    have k0 := K.cool hot
    obtain ⟨Ka, ek, _⟩ := k0.exm.nm k x hk ex
    have em := k0.exm.exm c k Ca Ka hx hk hc ek
    simp only [evalH] at p
    refine ⟨M.W.isa c k, by simp only [ek, Option.getD_some]; exact em, fun ht z hz => ?_, fun ht => ?_⟩
    · rw [ht, if_pos rfl] at p
      refine ⟨c, fs, dx, Ca, rfl, rfl, hc, hx, offI o σI, h, as, sl.on rfl, hi.on ⟨?_, hi.xd.2⟩, p.offs k0.nxd (k0.nex hnl)⟩
      intro d' fs' eq
      have eq' : some (dx, fs) = some (d', fs') := eq
      cases eq'
      exact ⟨hi.noxd e, vs, e, repF_x.mpr rf⟩
    · rw [ht, if_neg (by simp)] at p
      exact mix_of K hot hnl hx hc r hr sl hi e rf p
theorem kind_loc {y : Str} (K : Cok X M C sc n Wx cf) (h : kindB sc y .local = true) : X.env.kindOf y = some .local := K.scn y .local (by decide) (kindB_ok h)
theorem dels_inv {C : Ck} {sc : Scope} {e lo : E} {st : Stmt} (h : chkS C sc (.dels e lo) st = true) : ∃ x l p1 p2 pos, st = .Delete [.Subscript x (.Slice (some l) none none p1) p2] pos ∧ chkE C e sc x = true ∧ chkE C lo sc l = true := by
  unfold chkS at h
  split at h
  all_goals first
    | (rename_i q; cases q; done)
    | (rename_i q _; cases q; done)
    | (rename_i q _ _; cases q; done)
    | (cases h; done)
    | (rename_i q; cases q; simp only [Bool.and_eq_true] at h; exact ⟨_, _, _, _, _, rfl, h.1, h.2⟩)
theorem deld_inv {C : Ck} {sc : Scope} {e lo : E} {st : Stmt} (h : chkS C sc (.deld e lo) st = true) : ∃ x y p1 pos, st = .Delete [.Subscript x y p1] pos ∧ chkE C e sc x = true ∧ chkE C lo sc y = true ∧ isSlice y = false := by
  unfold chkS at h
  split at h
  all_goals first
    | (rename_i q; cases q; done)
    | (rename_i q _; cases q; done)
    | (rename_i q _ _; cases q; done)
    | (cases h; done)
    | (rename_i q; cases q; simp only [Bool.and_eq_true, Bool.not_eq_true'] at h; exact ⟨_, _, _, _, rfl, h.1.1, h.1.2, h.2⟩)
    | (rename_i q _; cases q; simp only [Bool.and_eq_true, Bool.not_eq_true'] at h; exact ⟨_, _, _, _, rfl, h.1.1, h.1.2, h.2⟩)
mutual
theorem sS : ∀ (s : S) {X : Cx} {M : Mx} {C : Ck} {Wx : WX} {st : Stmt}, chkS C sc s st = true → Cok X M C sc n Wx cf → FrOk X → SS M X Wx L cf s st
  | .set i e, X, M, C, Wx, st, h, K, fr => by
    cases st <;> try (simp only [chkS, Bool.false_eq_true] at h; done)
    rename_i ts v pos
    match ts with
    | [] => simp [chkS] at h
    | t :: _ :: _ => cases t <;> simp [chkS] at h
    | [t] =>
      cases t <;> simp only [chkS, Bool.false_eq_true, Bool.and_eq_true] at h
      have h2 := h.2
      rw [Bool.or_eq_true] at h2
      rcases h2 with hb | hb
      · exact ss_set K h.1.1.1 h.1.1.2 (sE e h.1.2 K).1 hb
      · exact ss_here K h.1.1.1 h.1.1.2 h.1.2 hb
  | .setT is e, X, M, C, Wx, st, h, K, fr => by
    cases st <;> try (simp only [chkS, Bool.false_eq_true] at h; done)
    rename_i ts v pos
    match ts with
    | [] => simp [chkS] at h
    | t :: _ :: _ => cases t <;> simp [chkS] at h
    | [t] =>
      cases t <;> simp only [chkS, Bool.false_eq_true, Bool.and_eq_true, Bool.not_eq_true'] at h
      exact ss_setT K h.1.1 (sE e h.1.2 K).1 h.2
  | .put o i e, X, M, C, Wx, st, h, K, fr => by
    cases st <;> try (simp only [chkS, Bool.false_eq_true] at h; done)
    rename_i ts v pos
    match ts with
    | [] => simp [chkS] at h
    | t :: _ :: _ => cases t <;> simp [chkS] at h
    | [t] =>
      cases t <;> simp only [chkS, Bool.false_eq_true, Bool.and_eq_true] at h
      exact ss_put K (sE o h.1.1 K).1 (sE i h.1.2 K).1 (sE e h.2 K).1
  | .fset o f e, X, M, C, Wx, st, h, K, fr => by
    cases st <;> try (simp only [chkS, Bool.false_eq_true] at h; done)
    rename_i ts v pos
    match ts with
    | [] => simp [chkS] at h
    | t :: _ :: _ => cases t <;> simp [chkS] at h
    | [t] =>
      cases t <;> simp only [chkS, Bool.false_eq_true, Bool.and_eq_true, decide_eq_true_eq, Bool.not_eq_true'] at h
      obtain ⟨⟨⟨hot, h1⟩, rfl⟩, h2⟩ := h
      exact ss_fset K hot (sE o h1 K).1 (sE e h2 K).1
  | .dels o k, X, M, C, Wx, st, h, K, fr => by
    obtain ⟨x, l, p1, p2, pos, rfl, h1, h2⟩ := dels_inv h
    exact ss_dels K (sE o h1 K).1 (sE k h2 K).1
  | .deld o k, X, M, C, Wx, st, h, K, fr => by
    obtain ⟨x, y, p1, pos, rfl, h1, h2, _⟩ := deld_inv h
    exact ss_deld K (sE o h1 K).1 (sE k h2 K).1
  | .aug i o e, X, M, C, Wx, st, h, K, fr => by
    cases st <;> try (simp only [chkS, Bool.false_eq_true] at h; done)
    rename_i t op v pos
    cases t <;> simp only [chkS, Bool.false_eq_true, Bool.and_eq_true] at h
    exact ss_aug K h.1.1.1 h.1.1.2 h.1.2 (sE e h.2 K).1
  | .faug a f o e, X, M, C, Wx, st, h, K, fr => by
    cases st <;> try (simp only [chkS, Bool.false_eq_true] at h; done)
    rename_i t op v pos
    cases t <;> simp only [chkS, Bool.false_eq_true, Bool.and_eq_true, decide_eq_true_eq, Bool.not_eq_true'] at h
    obtain ⟨⟨⟨⟨hot, h1⟩, rfl⟩, h2⟩, h3⟩ := h
    exact ss_faug K hot h2 (sE a h1 K).1 (sE e h3 K).1
  | .expr e, X, M, C, Wx, st, h, K, fr => by
    cases st <;> simp only [chkS, Bool.false_eq_true, Bool.and_eq_true, Bool.not_eq_true'] at h
    exact ss_expr (sE e h.1 K).1 h.2
  | .ret e, X, M, C, Wx, st, h, K, fr => by
    cases st <;> try (simp only [chkS, Bool.false_eq_true] at h; done)
    rename_i v pos
    cases v <;> simp only [chkS, Bool.false_eq_true] at h
    exact ss_ret (sE e h K).1
  | .retN, X, M, C, Wx, st, h, K, fr => by
    cases st <;> try (simp only [chkS, Bool.false_eq_true] at h; done)
    rename_i v pos
    cases v <;> simp only [chkS, Bool.false_eq_true] at h
    refine ps_imp ps_retN ?_
    rintro D σ H ⟨σI, h, as, sl, hi, p⟩
    exact p as H .non Ext.refl hi (by simp only [Rep])
  | .ife c a b, X, M, C, Wx, st, h, K, fr => by
    cases st <;> simp only [chkS, Bool.false_eq_true, Bool.and_eq_true] at h
    exact ss_if (sE c h.1.1 K).1 (sB a h.1.2 K fr) (sB b h.2 K fr)
  | .whl c b, X, M, C, Wx, st, h, K, fr => by
    cases st <;> try (simp only [chkS, Bool.false_eq_true] at h; done)
    rename_i t x els pos
    cases els <;> simp only [chkS, Bool.false_eq_true, Bool.and_eq_true] at h
    exact ss_whl K (sE c h.1 K).1 (sB b h.2 K fr)
  | .for_ tg k its b, X, M, C, Wx, st, h, K, fr => by
    cases st <;> try (simp only [chkS, Bool.false_eq_true] at h; done)
    rename_i t x els bd pos
    cases bd <;> simp only [chkS, Bool.false_eq_true, Bool.and_eq_true, Bool.not_eq_true'] at h
    exact ss_for K h.1.1.1 h.1.1.2 h.1.2 (sB b h.2 K fr)
  | .raise c es, X, M, C, Wx, st, h, K, fr => by
    obtain ⟨x, p, y, xs, pos, pos2, rfl, hot, h1, h2, h3, h4, h5⟩ := chkS_raise h
    exact ss_raise K hot h1 h2 h3 h4 h5 (sEs es h5 K)
  | .try_ b hs, X, M, C, Wx, st, h, K, fr => by
    obtain ⟨x, e₀, es, pos, rfl, hot, hnl, h1, h3⟩ := chkS_try h
    · have hx := sH hs h3 K hot fr
      refine ps_imp (try_mix (tb := fun W => tS (M.g X.K) W (evalB M.W L cf M.cx b)) fr.1 fr.2 K.nd K.tk (fun W ps xe tk pas => ?_) hx) ?_
      · have K' : Cok (X.tr ps xe) M C sc n W cf := by
          have k := K.cool hot
          exact ⟨fun _ => ⟨k.calm, k.room, k.nex, k.nxd, k.ncx, k.vir, k.fns, k.cls, k.mks, k.exs, k.exm⟩, fun _ _ _ _ _ q => (by rw [hot] at q; cases q), fun _ _ _ _ _ _ _ q => (by rw [hnl] at q; cases q), fun h1 h2 => K.lmk h1 h2, K.N, K.nd, K.vis, K.loc, K.gl, K.scn, K.scf, K.hu, K.gd, tk, pas, K.con, K.scr, K.glb, K.bl, K.gs, K.gi, K.dc, fun _ _ _ _ _ _ _ _ q => (by rw [hot] at q; cases q)⟩
        exact sB b h1 K' fr
      · rintro D σ H ⟨σI, h, as, sl, hi, p⟩
        refine ⟨σI, h, as, sl, hi, ?_⟩
        simp only [evalS] at p
        match e : evalB M.W L cf M.cx b σI h with
        | .ok (.nx σ1) h1 => rw [e] at p; exact p
        | .ok (.bk σ1) h1 => rw [e] at p; exact p
        | .ok (.ct σ1) h1 => rw [e] at p; exact p
        | .ok (.rt d) h1 => rw [e] at p; exact p
        | .no => rw [e] at p; exact p.elim
        | .exc c fs σ1 h1 =>
          rw [e] at p
          simp only at p
          split at p
          · rename_i hx
            exact fun Ca dx vs as' H' σ' x' hi' hc g1 g2 sl' => mix_of K hot hnl hx hc hs h3 sl' hi' g1 g2 (p.mono x')
          · exact p.elim
  | .mat e cs, X, M, C, Wx, st, h, K, fr => by
    cases st <;> try (simp only [chkS, Bool.false_eq_true] at h; done)
    rename_i v mcs pos
    simp only [chkS, Bool.and_eq_true, Bool.not_eq_true'] at h
    obtain ⟨⟨hot, h1⟩, h2⟩ := h
    refine ⟨fun pins s σ H D I q => ?_⟩
    obtain ⟨σI, h, as, sl, hi, p⟩ := q
    simp only [evalS] at p
    refine wpAny_Match (thn ((sE e h1 K).1.1.run pins s σ H _ I (stm1 sl hi p)) ?_)
    rintro u s1 ⟨x, H1, I1, ru, d, h', as1, _, x1, sl1, i1, r1, p1⟩
    exact sM cs h2 K hot fr true I1 ru r1 sl1 i1 p1
  | .brk, X, M, C, Wx, st, h, K, fr => by
    cases st <;> simp only [chkS, Bool.false_eq_true] at h
    refine ps_imp ps_break ?_
    rintro D σ H ⟨σI, h, as, sl, hi, p⟩
    exact p as H σ Ext.refl hi sl
  | .cnt, X, M, C, Wx, st, h, K, fr => by
    cases st <;> simp only [chkS, Bool.false_eq_true] at h
    refine ps_imp ps_continue ?_
    rintro D σ H ⟨σI, h, as, sl, hi, p⟩
    exact p as H σ Ext.refl hi sl
  | .stuck, X, M, C, Wx, st, h, K, fr => by
    refine ⟨fun pins s σ H D I q => ?_⟩
    obtain ⟨σI, h, as, sl, hi, p⟩ := q
    exact p.elim
  | .pass, X, M, C, Wx, st, h, K, fr => by
    have e : ∀ Ds σ H, tS (M.g X.K) Wx (evalS M.W L cf M.cx S.pass) Ds σ H → tNext Ds σ H := by
      rintro Ds σ H ⟨σI, h, as, sl, hi, p⟩
      exact p as H σ Ext.refl hi sl
    cases st <;> try (simp only [chkS, Bool.false_eq_true] at h; done)
    · rename_i v pos
      cases v <;> try (simp only [chkS, isStr, Bool.false_eq_true] at h; done)
      rename_i c k p
      cases c <;> simp only [chkS, isStr, Bool.false_eq_true] at h
      exact ps_imp ps_doc e
    · exact ps_imp ps_pass e
theorem sB : ∀ (ss : List S) {X : Cx} {M : Mx} {C : Ck} {Wx : WX} {sts : List Stmt}, chkB C sc ss sts = true → Cok X M C sc n Wx cf → FrOk X → SB M X Wx L cf ss sts
  | [], X, M, C, Wx, [], _, K, fr => by
    refine pss_imp pss_nil ?_
    rintro Ds σ H ⟨σI, h, as, sl, hi, p⟩
    exact p as H σ Ext.refl hi sl
  | s :: ss, X, M, C, Wx, st :: sts, h, K, fr => by
    simp only [chkB, Bool.and_eq_true] at h
    refine pss_imp (pss_cons (sS s h.1 K fr) (sB ss h.2 K fr)) ?_
    rintro Ds σ H ⟨σI, h, as, sl, hi, p⟩
    refine ⟨σI, h, as, sl, hi, ?_⟩
    simp only [evalB] at p
    match e : evalS M.W L cf M.cx s σI h with
    | .ok (.nx σ1) h1 => rw [e] at p; exact fun as' H' σ' x i s' => ⟨σ1, h1, as', s', i, p.mono x⟩
    | .ok (.bk σ1) h1 => rw [e] at p; exact p
    | .ok (.ct σ1) h1 => rw [e] at p; exact p
    | .ok (.rt d) h1 => rw [e] at p; exact p
    | .exc c fs σ1 h1 => rw [e] at p; exact p
    | .no => rw [e] at p; exact p
  | [], X, M, C, Wx, _ :: _, h, _, _ => by simp [chkB] at h
  | _ :: _, X, M, C, Wx, [], h, _, _ => by simp [chkB] at h
theorem sM : ∀ (cs : List (List (List Char) × List (Option Nat) × List S)) {X : Cx} {M : Mx} {C : Ck} {Wx : WX} {mcs : List MatchCase}, chkM C sc cs mcs = true → Cok X M C sc n Wx cf → C.hot = false → FrOk X →
    ∀ {pins : List (Addr × Obj)} {s : Shared} {σ : L2.St} {H : Hp} {D : Ends} {v : Value} {vx : V} {d : _root_.Rf.D} {σI : Sg} {h : Hs} {as : List Addr} (first : Bool), Inv X pins σ H s → RelV vx v → Rep (M.g X.K) as H d vx → SL (M.g X.K) σI as H σ → HI (M.g X.K) h as H →
      postS (M.g X.K) Wx as H (evalM M.W L cf M.cx d cs σI h) D → wpAny (model X.prog X.w) X.A (matchCases mcs X.env v first) (SP X pins D) X.xe s
  | [], X, M, C, Wx, [], _, K, hot, fr, pins, s, σ, H, D, v, vx, d, σI, h, as, first, I, rv, r, sl, hi, p => by
    simp only [evalM] at p
    exact wpAny_matchCases_nil ⟨σ, H, I, p as H σ Ext.refl hi sl⟩
  | [], X, M, C, Wx, _ :: _, hc, _, _, _, _, _, _, _, _, _, _, _, _, _, _, _, _, _, _, _, _, _ => by simp [chkM] at hc
  | _ :: _, X, M, C, Wx, [], hc, _, _, _, _, _, _, _, _, _, _, _, _, _, _, _, _, _, _, _, _, _ => by simp [chkM] at hc
  | (ws, sl', b) :: rest, X, M, C, Wx, ⟨pat, gd, body⟩ :: mcs, hc, K, hot, fr, pins, s, σ, H, D, v, vx, d, σI, h, as, first, I, rv, r, sl, hi, p => by
    cases gd with
    | some g => simp [chkM] at hc
    | none =>
      simp only [chkM, Bool.and_eq_true] at hc
      obtain ⟨⟨h1, h2⟩, h3⟩ := hc
      have hp := h1
      unfold patB at hp
      split at hp
      · rename_i p0 ps pos
        rw [Bool.and_eq_true] at hp
        simp only [evalM] at p
        cases hm : matD ws sl'.length d with
        | none => rw [hm] at p; exact p.elim
        | some r0 =>
          rw [hm] at p
          refine wpAny_matchCases_cons (pat_ok K (I.ok.hd (K.cool hot).calm) h1 I rv hi r hm (fun e0 s' as' H' x' i' I' => ?_) (fun ds e0 s' as' H' us vs x' i' I' rv' rr' hl' => ?_))
          · subst e0
            exact sM rest h3 K hot fr false I' rv (r.mono x') (sl.mono x') i' (p.mono x')
          · subst e0
            refine caps_ok K hp.2 hl' rv' rr' I' (sl.mono x') fun s2 σ2 I2 sl2 => ?_
            exact (sB b h2 K fr).run pins s2 σ2 H' D I2 ⟨_, _, _, sl2, i', p.mono x'⟩
      · cases hp
theorem sH : ∀ (hs : List (Nat × Option Nat × List S)) {X : Cx} {M : Mx} {C : Ck} {Wx : WX} {hds : List ExceptHandler}, chkH C sc hs hds = true → Cok X M C sc n Wx cf → C.hot = false → FrOk X → HdsX X hds (lOf M X.K L cf hs)
  | [], X, M, C, Wx, [], _, K, hot, fr => .nil
  | [], X, M, C, Wx, _ :: _, h, _, _, _ => by simp [chkH] at h
  | _ :: _, X, M, C, Wx, [], h, _, _, _ => by simp [chkH] at h
  | (k, o, b) :: r, X, M, C, Wx, hd :: hds, h, K, hot, fr => by
    obtain ⟨x, p1, y, st, sts, p2, rfl, h1, h2, h3, h4, h5, h6, h7⟩ := chkH_inv h
    · obtain ⟨Ka, ek, mk⟩ := (K.cool hot).exm.nm k _ h1 (isC_ok h2)
      refine .cons ⟨K.gl _ h3, (okN_ok h4).1, .inl (by rw [ek]; exact mk)⟩ ?_ ?_ (sH r h7 K hot fr)
      · cases o with
        | none => cases y with
          | none => trivial
          | some y => simp [hnB] at h5
        | some i => cases y with
          | none => simp [hnB] at h5
          | some y =>
            simp only [hnB, Bool.and_eq_true] at h5
            exact ⟨by rw [K.N]; exact isC_ok h5.1, kind_loc K h5.2⟩
      · intro z oz cl dx ps hz hf
        refine ⟨fun pins s σ H D I q => ?_⟩
        obtain ⟨c, fs, d, Ca, rfl, rfl, hc, hx, q⟩ := q
        exact (sB b h6 (K.suite hot (ps := ps) o hx hc hz hf) fr).run pins s σ H D I q
end
end
end Rf
end

section
namespace Rf
open PySem PySem.Spec PyProof.Rows L2

/-! ## a def of the text keeps what its term says -/
/-- the def at a, as the text has it -/
structure FnF (K : PySem.W.Frag) (C : Ck) (fi : FI) (a : Addr) where
  x : Str
  qual : Str
  params : Arguments
  body : List Stmt
  scope : Scope
  N : List Str
  ps : List Str
  fd : FuncData
  mkl : Bool
  dvs : List V
  F : FunD K x qual params body scope dvs [] a fd
  S : FnScope N ps scope
  B : Binds K fd ps []
  lm : fi.lm = none
  np : ps.length = fi.np
  ns : N.length = fi.ns
  tb : mkl = true → ∃ p, a = He.fAd K p ∧ (p, qual) ∈ C.tf
  ck : chkB { C with N := N, mkl := mkl } scope fi.body body = true
/-- .. to which a lambda is given behind i other arguments -/
structure FnFV (K : PySem.W.Frag) (C : Ck) (fi : FI) (a : Addr) (i : Nat) where
  x : Str
  qual : Str
  params : Arguments
  body : List Stmt
  scope : Scope
  N : List Str
  ps : List Str
  fd : FuncData
  mkl : Bool
  F : FunD K x qual params body scope [] [] a fd
  S : FnScope N ps scope
  B : Binds K fd ps []
  np : ps.length = i + 1
  ns : N.length = fi.ns
  tb : mkl = true → ∃ p, a = He.fAd K p ∧ (p, qual) ∈ C.tf
  ck : chkB { C with N := N, lam := some i, mkl := mkl } scope fi.body body = true
def VOf (M : Mx) (K : PySem.W.Frag) (C : Ck) (v j : Nat) (a : Addr) : Prop :=
  ∃ fi i, M.W.fns[v]? = some fi ∧ (∀ capN ps, C.lms j = some (capN, ps) → fi.lm = some (i, j, capN.length) ∧ fi.np = i + capN.length) ∧ Nonempty (FnFV K C fi a i)
structure Facts (P : Program) (w : World) (K : PySem.W.Frag) (mg : Str → Option Value) (base : Heap) (M : Mx) (C : Ck) : Prop where
  fn : ∀ f a, M.fa f = some a → PySem.W.keepIn K (.ref a) = true ∧ ∃ fi, M.W.fns[f]? = some fi ∧ Nonempty (FnF K C fi a)
  nm : ∀ f x, C.fnm[f]? = some x → ∃ a, mg x = some (.ref a) ∧ M.fa f = some a
  con : ConOk M K
  dc : DctOk M C K w mg
  scr : ScrOk M K
  glb : ∀ g x, C.gnm[g]? = some x → ∃ a, mg x = some (.ref a) ∧ M.ga g = some a
  cls : ∀ c ci, M.W.cls[c]? = some ci → ∀ Ca, M.ca c = some Ca → Cls K Ca ∧ (∀ f, f ∈ ci.flds → NoAttr K Ca (Str.ofString f)) ∧
    (∀ m f, ci.meths.lookup m = some f → ∃ a fi, Meth K Ca (Str.ofString m) a ∧ M.W.fns[f]? = some fi ∧ Nonempty (FnF K C fi a))
  mks : ∀ c x, c ∈ C.nw → C.cnm[c]? = some x → ∃ ci f Ca a fi, M.W.cls[c]? = some ci ∧ ci.ini = some f ∧ M.ca c = some Ca ∧ mg x = some (.ref Ca) ∧ Mk K Ca a ∧ M.W.fns[f]? = some fi ∧ Nonempty (FnF K C fi a)
  mkd : ∀ c x, c ∈ C.nd → C.cnm[c]? = some x → ∃ ci f Ca a fi dA, M.W.cls[c]? = some ci ∧ ci.ini = some f ∧ M.ca c = some Ca ∧ mg x = some (.ref Ca) ∧ Mk K Ca a ∧ M.ga (M.W.cons.length + 1) = some dA ∧ M.W.fns[f]? = some fi ∧ ∃ F : FnF K C fi a, Binds K F.fd F.ps [.ref dA]
  own : ∀ c F, (c, F) ∈ C.ow → ∀ Ca, M.ca c = some Ca → Cls K Ca ∧ NoAttr K Ca (Str.ofString F) ∧ ∃ a, Meth K Ca ("__iter__" : Str) a ∧ Nonempty (FnF K C ⟨1, 1, [.ret (.itr (.fld (.var 0) F))], none⟩ a)
  exs : ExcsOk P w K mg base M C
  exm : ExmOk K mg M C
  vfn : ∀ v j x, (v, j, x) ∈ C.vnm → ∃ a, mg x = some (.ref a) ∧ PySem.W.keepIn K (.ref a) = true ∧ VOf M K C v j a
  vmt : ∀ v j c m, (v, j, c, m) ∈ C.vmt → ∃ ci, M.W.cls[c]? = some ci ∧ ∀ Ca, M.ca c = some Ca → ∃ a, Meth K Ca (Str.ofString m) a ∧ VOf M K C v j a
  lam : ∀ j capN ps, C.lms j = some (capN, ps) → ∃ e, M.W.fns[j]? = some ⟨capN.length + ps.length, capN.length + ps.length, [.ret e], none⟩ ∧ ∀ scope body, C.lamB j scope body = true → chkE (C.plain (capN ++ ps)) e scope body = true
  tab : ∀ p q, (p, q) ∈ C.tf → LamX.TabB base mg (He.cT K p).1 (He.cT K p).2 ∧ ((He.cT K p).2, q ++ ".<locals>." ++ "<lambda>") ∈ M.tb ∧ ∀ t ∈ M.tb, t.1 = (He.cT K p).2 → t.2 = q ++ ".<locals>." ++ "<lambda>"
  hot : C.hot = false
  nlm : C.lam = none
  nmk : C.mkl = false
  nex : M.ex = none
  nxd : M.xd = none
  ncx : M.cx = none
  nlc : M.lc = none
  bl : ∀ x ∈ bltNames, mg x = none
  gs : ∀ (g : Nat) (x : Str) (s : List Char), C.snm[g]? = some (x, s) → ∃ t, mg x = some (.str (st s) t)
  gi : ∀ (g : Nat) (x : Str) (i : Int), C.inm[g]? = some (x, i) → ∃ t, mg x = some (.int i t)
/-- what is called below: at callF n -/
def klN : Nat → Nat
  | 0 => 0
  | n + 1 => 2 * n + 1
noncomputable def cflN (W : Wd) (L : Nat) : Nat → CF
  | 0 => fun _ _ _ => .no
  | n + 1 => callF W L n
section
variable {P : Program} {w : World} {K : PySem.W.Frag} {mg : Str → Option Value} {base : Heap} {M : Mx} {C : Ck} {L : Nat}
theorem sl_start {G : Gx} (hx : G.ex = none) {N : List Str} {ds : List D} {vs : List V} {as : List Addr} {H : Hp} (r : Reps G as H ds vs) : SL G (start N.length ds) as H (L2.start N vs) := by
  refine ⟨?_, fun i d e => ?_, fun _ _ q => by rw [hx] at q; cases q⟩
  · unfold start L2.start
    rw [List.length_append, List.length_append, List.length_map, List.length_map, List.length_replicate, List.length_replicate, r.length]
  · unfold start at e
    by_cases hi : i < ds.length
    · rw [List.getElem?_append_left (by simpa using hi), List.getElem?_map] at e
      cases ed : ds[i]? with
      | none => rw [ed] at e; cases e
      | some d' =>
        rw [ed] at e; cases e
        have : ∀ {ds : List D} {vs : List V} {i : Nat}, Reps G as H ds vs → ds[i]? = some d → ∃ v, vs[i]? = some v ∧ Rep G as H d v := by
          intro ds
          induction ds with
          | nil => intro vs i _ e; simp at e
          | cons d0 ds ih =>
            intro vs i r e
            obtain ⟨v, rr, rfl, r1, r2⟩ := r.cons_inv
            cases i with
            | zero => simp at e; subst e; exact ⟨v, rfl, r1⟩
            | succ i => simpa using ih r2 (by simpa using e)
        obtain ⟨v, e1, e2⟩ := this r ed
        have hv : i < vs.length := (List.getElem?_eq_some_iff.mp e1).1
        refine ⟨v, ?_, e2⟩
        unfold L2.start
        rw [List.getElem?_append_left (by simpa using hv), List.getElem?_map, e1]; rfl
    · rw [List.getElem?_append_right (by simpa using hi), List.getElem?_replicate] at e
      split at e <;> cases e
theorem callF_np {W : Wd} {n f : Nat} {ds : List D} {h : Hs} {fi : FI} (e : W.fns[f]? = some fi) (hn : callF W L n f ds h ≠ .no) : ds.length = fi.np := by
  cases n with
  | zero => exact absurd rfl hn
  | succ n =>
    simp only [callF, e] at hn
    by_cases hl : ds.length = fi.np
    · exact hl
    · rw [if_neg hl] at hn; exact absurd rfl hn
theorem Facts.z (Fx : Facts P w K mg base M C) : M.z = M := by
  obtain ⟨W, fa, ca, ga, cx, xd, ex, tb, lc, va⟩ := M
  have h1 := Fx.nex; have h2 := Fx.nxd; have h3 := Fx.ncx; have h4 := Fx.nlc
  simp only at h1 h2 h3 h4
  subst h1 h2 h3 h4
  rfl
theorem vir_cc {n : Nat} {cf : CF} (h : ∃ kl cfl, VirOk P w K mg base M C n cf kl cfl) {N : List Str} {l : Option Nat} {mk : Bool} : ∃ kl cfl, VirOk P w K mg base M { C with N := N, lam := l, mkl := mk } n cf kl cfl := by
  obtain ⟨kl, cfl, v⟩ := h
  exact ⟨kl, cfl, v.fn, v.mt, v.make⟩
structure Low (P : Program) (w : World) (K : PySem.W.Frag) (mg : Str → Option Value) (base : Heap) (M : Mx) (C : Ck) (n : Nat) (cf : CF) : Prop where
  vir : ∃ kl cfl, VirOk P w K mg base M C n cf kl cfl
  fns : FnsOk P w K mg base M C n cf
  cls : ClsOk P w K mg base M C n cf
  mks : MksOk P w K mg base M C n cf
/-- an own __iter__, by its text -/
theorem own_of (bl : ∀ x ∈ bltNames, mg x = none) {F : String} {a Ca : Addr} (c1 : Cls K Ca) (c2 : NoAttr K Ca (Str.ofString F)) (F0 : FnF K C ⟨1, 1, [.ret (.itr (.fld (.var 0) F))], none⟩ a) (hot : C.hot = false) : OwI.OwnB P w K mg base 1 Ca a (Str.ofString F) := by
  intro A out s H x dx fs d od kvs gd hr e0 ha hl hd
  obtain ⟨b, hb⟩ : ∃ b, b = F0.body := ⟨_, rfl⟩
  have ck := F0.ck
  rw [← hb] at ck
  match b, ck with
  | [], ck => simp [chkB] at ck
  | _ :: _ :: _, ck => simp [chkB] at ck
  | [st], ck =>
    simp only [chkB, Bool.and_true] at ck
    cases st <;> try (simp only [chkS, Bool.false_eq_true] at ck; done)
    rename_i rv pos0
    cases rv with
    | none => simp [chkS] at ck
    | some e =>
    simp only [chkS] at ck
    cases e <;> try (simp only [chkE, Bool.false_eq_true] at ck; done)
    rename_i fn xs kw pos
    cases fn <;> try (simp only [chkE, Bool.false_eq_true] at ck; done)
    rename_i nm pp
    match xs, kw with
    | [], _ => simp [chkE] at ck
    | _ :: _ :: _, _ => simp [chkE] at ck
    | [_], _ :: _ => simp [chkE] at ck
    | [z], [] =>
      cases z <;> try (simp only [chkE, Bool.false_eq_true] at ck; done)
      rename_i zf zs zk cp
      cases zf <;> try (simp only [chkE, Bool.false_eq_true] at ck; done)
      rename_i y g ap
      match zs, zk with
      | _ :: _, _ => simp [chkE] at ck
      | [], _ :: _ => simp [chkE] at ck
      | [], [] =>
        cases y <;> try (simp only [chkE, Bool.false_eq_true, Bool.and_false] at ck; done)
        rename_i y2 g2 p2
        cases y2 <;> try (simp only [chkE, Bool.false_eq_true, Bool.and_false, Bool.false_and] at ck; done)
        rename_i sn sp
        simp only [chkE, Bool.and_eq_true, Bool.not_eq_true', decide_eq_true_eq] at ck
        obtain ⟨_, ⟨⟨⟨⟨⟨rfl, h2⟩, rfl⟩, h4⟩, h5⟩, _, ⟨⟨⟨h6, h7⟩, h8⟩, rfl⟩, h9⟩⟩ := ck
        have keep : ∀ b o, base.get? b = some o → s.heap.get? b = some o := fun b o e => (e0.bs b o e).1
        have KX := e0.mod.kin.keeps keep
        have hps : F0.ps.length = 1 := F0.np
        have b := F0.B s [.ref x] KX (by simp [hps])
        rw [List.append_nil] at b
        obtain ⟨n1, n2, n3⟩ := okN_ok h8
        refine fn_go (CX := L2.CX P w) F0.F F0.S (vs := [V.ref x]) hr e0 b (.cons rfl .nil) (by simp [hps]) fun cdv lk hcode hci hr' => ⟨_, by
          rw [← hb]
          exact pss_cons (ps_ret (OwI.pe_iterItems (pe_fld (pe_var (i := 0) (isC_ok h6) (visB_cases h7) n1 n2) (by rfl)) (kindB_ok h2) (bl _ (by decide +kernel)) (bare_ok h4) h5)) pss_nil, ?_⟩
        show ∃ v, _
        refine ⟨.ref x, rfl, x, Ca, dx, fs, .ref d, rfl, ha, c1, c2, hl, d, od, kvs, rfl, hd, fun it h1 h2 => ⟨it, rfl, h2, h1, rfl⟩⟩
theorem low_of (Fx : Facts P w K mg base M C) {n : Nat} (hG : ∀ (f : Nat) (a : Addr) (fi : FI), M.W.fns[f]? = some fi → ∀ F : FnF K C fi a, FnG P w K mg base (L2.CX P w) (2 * n + 1) a F.fd F.ps (spI M K (callF M.W L n) fi.np f)) (hV : VirOk P w K mg base M C n (callF M.W L n) (klN n) (cflN M.W L n)) : Low P w K mg base M C n (callF M.W L n) := by
  have hA : ∀ (f : Nat) (a : Addr) (fi : FI), M.W.fns[f]? = some fi → FnF K C fi a → FnB P w K mg base M n (callF M.W L n) a f := fun f a fi ef F => ⟨F.fd, F.ps, fi.np, F.B, F.np, hG f a fi ef F, fun ds h hn => callF_np ef hn⟩
  refine ⟨⟨_, _, hV⟩, ⟨Fx.nm, fun f a e => ?_⟩, fun c ci e Ca eC => ?_, fun c x h1 h2 => ?_, fun c x h1 h2 => ?_, fun c F hF Ca hC => ?_⟩
  · obtain ⟨kp, fi', ef', ⟨F'⟩⟩ := Fx.fn f a e
    exact ⟨kp, hA f a fi' ef' F'⟩
  · obtain ⟨c1, c2, c3⟩ := Fx.cls c ci e Ca eC
    refine ⟨c1, c2, fun m f em => ?_⟩
    obtain ⟨a', fi', hm, ef', ⟨F'⟩⟩ := c3 m f em
    exact ⟨a', hm, hA f a' fi' ef' F'⟩
  · obtain ⟨ci, f', Ca, a', fi', e1, e2, e3, e4, mk, ef', ⟨F'⟩⟩ := Fx.mks c x h1 h2
    exact ⟨ci, f', Ca, a', e1, e2, e3, e4, mk, hA f' a' fi' ef' F'⟩
  · obtain ⟨ci, f', Ca, a', fi', dA, e1, e2, e3, e4, mk, e5, ef', F', B⟩ := Fx.mkd c x h1 h2
    exact ⟨ci, f', Ca, a', dA, e1, e2, e3, e4, mk, e5, F'.fd, F'.ps, fi'.np, B, F'.np, hG f' a' fi' ef' F', fun ds h hn => callF_np ef' hn⟩
  · obtain ⟨c1, c2, a, mt, ⟨F0⟩⟩ := Fx.own c F hF Ca hC
    exact ⟨a, mt, own_of Fx.bl c1 c2 F0 Fx.hot⟩
/-- the tables of the def at hand -/
theorem tab_of (Fx : Facts P w K mg base M C) {a : Addr} {fd : FuncData} {qual : Str} {cdv : Value} {mkl : Bool} (tb : mkl = true → ∃ p, a = He.fAd K p ∧ (p, qual) ∈ C.tf) (hm : mkl = true) (lk : ∃ (oc : Value) (od : Option Addr) (osl : Array (Option Value)), K.lookup a = some ⟨oc, od, .func fd, osl⟩) (e : fd.code = cdv) (hc : PySem.W.codeIn K cdv qual = true) :
    ∃ c P', cdv = .ref c ∧ LamX.TabB base mg c P' ∧ (P', qual ++ ".<locals>." ++ "<lambda>") ∈ M.tb ∧ ∀ p ∈ M.tb, p.1 = P' → p.2 = qual ++ ".<locals>." ++ "<lambda>" := by
  obtain ⟨p, rfl, hp⟩ := tb hm
  obtain ⟨oc, od, osl, lk⟩ := lk
  obtain ⟨c, rfl⟩ := He.codeIn_ref hc
  have ec := He.codeOf_eq lk e
  obtain ⟨t1, t2, t3⟩ := Fx.tab p qual hp
  refine ⟨c, (He.cT K p).2, rfl, ?_, t2, t3⟩
  rw [← ec]
  exact t1
theorem fnOk1 (Fx : Facts P w K mg base M C) {n : Nat} (lw : Low P w K mg base M C n (callF M.W L n)) (f : Nat) (a : Addr) (fi : FI) (ef : M.W.fns[f]? = some fi) (F : FnF K C fi a) : FnG P w K mg base (L2.CX P w) (2 * (n + 1) + 1) a F.fd F.ps (spI M K (callF M.W L (n + 1)) fi.np f) := by
  refine fn_G F.F F.S (fun vs H Q E h => by rw [h.1, F.np]) (fun cdv A outer s H vs Q E lk hcode hci hgd hr hsp => ?_)
  obtain ⟨hl, ds, h, as, hi, rs, p⟩ := hsp
  refine ⟨tS (M.g K) (fun c d _ H => E c d H) (evalB M.W L (callF M.W L n) M.cx fi.body), ?_, ?_⟩
  · have hz := Fx.z
    have Kk : Cok (cxOf (L2.CX P w) P w K mg base F.N F.qual F.scope a cdv A outer s H E) M { C with N := F.N, mkl := F.mkl } F.scope n (fun c d _ H => E c d H) (callF M.W L n) := by
      refine ⟨fun _ => ⟨rfl, hr, fun _ => Fx.nex, Fx.nxd, fun _ => Fx.ncx, hz.symm ▸ vir_cc (l := C.lam) lw.vir, hz.symm ▸ lw.fns, hz.symm ▸ lw.cls, hz.symm ▸ lw.mks, Fx.exs, ⟨Fx.exm.nm, Fx.exm.exm, Fx.exm.xf, Fx.exm.kit, Fx.exm.xcd⟩⟩, fun _ _ _ _ _ q => (by rw [show ({ C with N := F.N, mkl := F.mkl } : Ck).hot = C.hot from rfl, Fx.hot] at q; cases q),
        fun _ _ _ _ _ _ _ q => (by rw [show ({ C with N := F.N, mkl := F.mkl } : Ck).lam = C.lam from rfl, Fx.nlm] at q; cases q), fun _ hm => tab_of Fx F.tb hm lk hcode hci,
        rfl, F.S.nd, fun x hx => visB_cases hx, fun x hx => ⟨locB_cases hx, .inl rfl⟩, fun x hx => kindB_ok hx, fun x k _ e => e, fun x e => .inl e, (by have := hr.un; show (A.deeper (envOfC F.qual F.scope s.heap.objs.size a cdv)).units + 200 < cLine; omega), hgd, takes_of rfl rfl rfl rfl, passes_of rfl, Fx.con, Fx.scr, Fx.glb, Fx.bl, Fx.gs, Fx.gi, Fx.dc, fun _ _ _ _ _ _ _ _ q => (by rw [show ({ C with N := F.N, mkl := F.mkl } : Ck).hot = C.hot from rfl, Fx.hot] at q; cases q)⟩
    exact sB fi.body F.ck Kk ⟨rfl, rfl⟩
  · have hdl : ds.length = fi.np := by rw [rs.length, hl]
    simp only [callF, ef, if_pos hdl, FI.cx, FI.st, F.lm] at p
    rw [← Fx.ncx] at p
    refine ⟨start fi.ns ds, h, as, ?_, hi, ?_⟩
    · rw [← F.ns]; exact sl_start Fx.nex rs
    · match e : evalB M.W L (callF M.W L n) M.cx fi.body (start fi.ns ds) h with
      | .ok (.nx σ1) h1 => rw [e] at p; exact fun as' H' σ' x i _ => p .non as' H' x i (by simp only [Rep])
      | .ok (.bk σ1) h1 => rw [e] at p; exact p.elim
      | .ok (.ct σ1) h1 => rw [e] at p; exact p.elim
      | .ok (.rt d) h1 => rw [e] at p; exact fun as' H' v x i r => p v as' H' x i r
      | .exc c fs σ1 h1 => rw [e] at p; exact fun Cc dx vs as' H' σ' x i k1 k2 k3 _ => p Cc dx vs as' H' x i k1 k2 k3
      | .no => rw [e] at p; exact p.elim
end
end Rf
end

section
namespace Rf
open PySem PySem.Spec PyProof.Rows L2

/-! ## the body of a lambda -/
theorem reps_of_idx {G : Gx} {as : List Addr} {H : Hp} : ∀ {ds : List D} {R : Nat → L2.V → Prop}, (∀ (i : Nat) d, ds[i]? = some d → ∃ v, R i v ∧ Rep G as H d v) → ∃ vs, Reps G as H ds vs ∧ ∀ (i : Nat) v, vs[i]? = some v → R i v
  | [], _, _ => ⟨[], by simp [Reps], by simp⟩
  | d :: ds, R, h => by
    obtain ⟨v, r1, r2⟩ := h 0 d rfl
    obtain ⟨vs, q1, q2⟩ := reps_of_idx (ds := ds) (R := fun i v => R (i + 1) v) fun i d' e => h (i + 1) d' (by simpa using e)
    refine ⟨v :: vs, by simp only [Reps]; exact ⟨v, vs, rfl, r2, q1⟩, fun i v' e => ?_⟩
    cases i with
    | zero => simp at e; subst e; exact r1
    | succ i => exact q2 i v' (by simpa using e)
theorem lookup_nd {α : Type} {x : Str} {u : α} : ∀ {l : List (Str × α)}, (l.map (·.1)).Nodup → (x, u) ∈ l → l.lookup x = some u
  | (y, v) :: r, nd, hm => by
    simp only [List.map_cons, List.nodup_cons] at nd
    rw [List.lookup_cons]
    rcases List.mem_cons.mp hm with e | e
    · cases e; rw [beq_self_eq_true]
    · have : (x == y) = false := by
        rw [beq_eq_false_iff_ne]; rintro rfl
        exact nd.1 (List.mem_map.mpr ⟨_, e, rfl⟩)
      rw [this]; exact lookup_nd nd.2 e
theorem lookup_rev_zip {ps : List Str} {us : List Value} {i : Nat} {x : Str} {u : Value} (nd : ps.Nodup) (hl : us.length = ps.length) (h1 : ps[i]? = some x) (h2 : us[i]? = some u) : (ps.zip us).reverse.lookup x = some u := by
  refine lookup_nd ?_ ?_
  · rw [List.map_reverse, List.map_fst_zip (by omega)]; unfold List.Nodup; rw [List.pairwise_reverse]; exact nd.imp fun h e => h e.symm
  · rw [List.mem_reverse]
    refine List.mem_of_getElem? (i := i) ?_
    rw [List.getElem?_zip_eq_some]
    exact ⟨h1, h2⟩
/-- the body of a lambda, entered -/
def lamX (P : Program) (w : World) (K : PySem.W.Frag) (mg : Str → Option Value) (base : Heap) (N : List Str) (A : Around) (outer : List Env) (s : Shared) (H : Hp) (E : XK) (env : Env) : Cx where
  prog := P
  w := w
  K := K
  mg := mg
  base := base
  A := A.deeper env
  N := N
  s_0 := s
  H_0 := H
  env := env
  outer := outer
  stack := env :: outer
  ex := []
  fn := fun _ => false
  calm := true
  pn := []
  xe := fun e s' => wpAny (model P w) (A.deeper env) (leaving env e) (fun _ s'' => L2.CX P w outer H s E e s'') (fun e' s'' => L2.CX P w outer H s E e' s'') s'
theorem lam_in {P : Program} {w : World} {K : PySem.W.Frag} {mg : Str → Option Value} {base : Heap} {A : Around} {outer : List Env} {E : XK} {sc scope : Scope} {capN ps : List Str} {q : Str} {b : Addr} {cdv : Value} {cl : List (Str × Addr)} {s : Shared} {H : Hp} {h₁ : Heap} {tk : Nat} {wv vs : List L2.V} {us : List Value}
    (S : LamSc sc scope capN ps) (e0 : Env0 P w K mg base A outer s H) (hd : A.handled = none) (cell : ∀ y c, cl.lookup y = some c → (∃ v, s.heap.IsCell c v) ∧ H c = none) (inj : ∀ y z c, cl.lookup y = some c → cl.lookup z = some c → y = z) (has : ∀ y, scope.names.lookup y = some .free → ∃ c, cl.lookup y = some c)
    (hw : wv.length = capN.length) (hcap : ∀ (i : Nat) y v, capN[i]? = some y → wv[i]? = some v → ∃ c u, cl.lookup y = some c ∧ s.heap.IsCell c (some u) ∧ L2.RelV v u) (r : Vals vs us) (hl : vs.length = ps.length)
    (hns : h₁.Ns s.heap.objs.size (fun y => (ps.zip us).reverse.lookup y)) (kp : ∀ b o, s.heap.get? b = some o → h₁.get? b = some o) :
    Inv (lamX P w K mg base (capN ++ ps) A outer s H E (PySem.W.envX q scope s.heap.objs.size b cdv cl)) [] ((wv ++ vs).map some) H { s with heap := h₁, toks := tk } := by
  have ck : ∀ {c : Addr} {v : Option Value}, s.heap.IsCell c v → h₁.IsCell c v := fun ⟨o, ho, hd⟩ => ⟨o, kp _ _ ho, hd⟩
  have none_ : ∀ {b : Addr}, b ∈ ([] : List Addr) → False := fun z => by cases z
  have free_ : ∀ {y}, scope.names.lookup y = some .cell → False := fun h => S.nc _ (PySem.mem_of_lookup h) rfl
  have ul : us.length = ps.length := by rw [← hl, r.length]
  refine ⟨⟨e0.mod, S.kind, rfl, rfl, Nat.le_refl _, inj, fun y hy => ?_, fun y c z _ => ?_, fun _ => hd, Around.frames_deeper e0.frames, .inr ⟨rfl, rfl⟩, fun b z => (none_ z).elim, e0.bs, e0.bsz, fun b _ _ z => none_ z, fun b z => (none_ z).elim, e0.funs, e0.frf⟩,
    rfl, e0.bare, Un.kept kp, ⟨_, hns, fun i y v e1 e2 e3 => ?_⟩, fun y c e => ?_, e0.hok.fresh (Nat.le_refl _), fun y c e => (cell y c e).2, fun p hp => ?_, e0.hok.kept kp, ?_⟩
  · rcases hy with hy | hy
    · exact (free_ hy).elim
    · exact has y hy
  · cases (show false = true from z)
  · have e1' : (capN ++ ps)[i]? = some y := e1
    have e2' : ((wv ++ vs).map some)[i]? = some (some v) := e2
    rw [List.getElem?_map] at e2'
    have e4 : (wv ++ vs)[i]? = some v := by
      cases z : (wv ++ vs)[i]? with
      | none => rw [z] at e2'; cases e2'
      | some v' => rw [z] at e2'; cases e2'; rfl
    by_cases hi : i < capN.length
    · rw [List.getElem?_append_left hi] at e1'
      rw [List.getElem?_append_left (by rw [hw]; exact hi)] at e4
      obtain ⟨c, u, h1, h2, h3⟩ := hcap i y v e1' e4
      exact ⟨u, h3, .inr ⟨.inr (S.cap y (List.mem_of_getElem? e1')), c, h1, ck h2⟩⟩
    · rw [List.getElem?_append_right (by omega)] at e1'
      rw [List.getElem?_append_right (by omega)] at e4
      obtain ⟨u, h1, h2⟩ := r.get e4
      refine ⟨u, h2, .inl ⟨S.pl y (List.mem_of_getElem? e1'), ?_⟩⟩
      exact lookup_rev_zip ((List.nodup_append.mp S.nd).2.1) ul e1' (by rw [← hw]; exact h1)
  · obtain ⟨v, h⟩ := (cell y c e).1
    exact ⟨v, ck h⟩
  · cases (show p ∈ ([] : List (Addr × Obj)) from hp)
  · show ((wv ++ vs).map some).length = (capN ++ ps).length
    simp [hw, hl]
section
variable {P : Program} {w : World} {K : PySem.W.Frag} {mg : Str → Option Value} {base : Heap} {M : Mx} {C : Ck} {L : Nat}
theorem post_fin {G : Gx} {Wx : WX} {as : List Addr} {H : Hp} {σ σ' : L2.St} {σI : Sg} {r : R D} {Q : VK} (hw : ∀ c d H, Wx c d σ H → Wx c d σ' H) (p : post G Wx (Rep G) as H σ (r.stm σI fun x h => (RS.ok (.rt x) h)).fin Q) : post G Wx (Rep G) as H σ' r Q := by
  cases r with
  | ok d h => exact p
  | exc c fs h => exact fun C dx vs as' H' e i q1 q2 q3 => hw _ _ _ (p C dx vs as' H' e i q1 q2 q3)
  | no => exact p
theorem lamOk1 (Fx : Facts P w K mg base M C) {n : Nat} (lw : Low P w K mg base M C n (callF M.W L n)) {j : Nat} {capN ps : List Str} (elm : C.lms j = some (capN, ps)) {sc scope : Scope} {body : Expr} {params : Arguments} (hB : C.lamB j scope body = true) (epar : parsB params = some ps) (hsc : lamScB sc scope capN ps = true)
    {q : Str} {cl : List (Str × Addr)} {b c' : Addr} {pm ctv : Value} {fs : List Addr} {s : Shared} {H : Hp} {as : List Addr} {caps : List D} (ho : s.heap.get? b = some (PySem.W.kla_obj "<lambda>" q params body scope cl pm c' ctv)) (nb : H b = none) (nf : b ∉ fs) (cel : CelC K M scope cl capN caps s H as) :
    LamC P w K mg base M (2 * n + 3) (callF M.W L (n + 1)) j caps b c' q fs s H as := by
  have S := lamSc_of hsc
  obtain ⟨e, ef, hchk⟩ := Fx.lam j capN ps elm
  have hz := Fx.z
  refine ⟨nb, nf, ⟨_, _, _, _, ho⟩, fun A out s' H' as' h' us vs ds Q E g hr e0 un hco rv pre hi rs p => ?_⟩
  simp only [callF, ef] at p
  split at p
  rotate_left
  · exact p.elim
  rename_i hlen
  simp only [List.length_append, cel.len] at hlen
  have dl : ds.length = ps.length := by omega
  have vl : vs.length = ps.length := by rw [← rs.length, dl]
  have ul : us.length = ps.length := by rw [← rv.length, vl]
  simp only [FI.cx, FI.st, evalB, evalS] at p
  have hst : start (capN.length + ps.length) (caps ++ ds) = (caps ++ ds).map some := by
    unfold start
    rw [List.length_append, cel.len, dl, Nat.sub_self]; simp
  rw [hst] at p
  -- what the lambda holds
  have rv' := un.keep b _ ho nb nf (by simp)
  obtain ⟨wv, rw1, rw2⟩ := reps_of_idx (G := M.g K) (as := as) (H := H) (ds := caps) (R := fun i v => ∀ y, capN[i]? = some y → ∃ c u, cl.lookup y = some c ∧ s.heap.IsCell c (some u) ∧ L2.RelV v u) fun i d ed => by
    have hi' : i < capN.length := by rw [← cel.len]; exact (List.getElem?_eq_some_iff.mp ed).1
    obtain ⟨c, u, v, h1, h2, h3, h4⟩ := cel.cap i capN[i] d (by simp [hi']) ed
    exact ⟨v, fun y ey => by rw [List.getElem?_eq_getElem hi'] at ey; cases ey; exact ⟨c, u, h1, h2, h3⟩, h4⟩
  have cell' : ∀ {c : Addr} {v : Option Value}, H c = none → s.heap.IsCell c v → s'.heap.IsCell c v := fun {c v} nn ⟨o, ho, hd⟩ => by
    obtain ⟨sl, q⟩ := un.any ho nn (by simp)
    exact ⟨_, q, hd⟩
  have wl : wv.length = capN.length := by rw [← rw1.length, cel.len]
  obtain ⟨⟨oc, fv, tt, hoc, hdc, hvc⟩, _, _⟩ := e0.hok c' _ hco
  have lim := e0.mod.nolimit.keeps fun b o e => (e0.bs b o e).1
  refine PySem.W.kla_callFunE hr.depth rv' rfl S.co S.gen rfl ⟨c', oc, fv, tt, rfl, hoc, hdc, hvc⟩ ?_
  rw [pars_bind epar q body scope cl pm (.ref c') ctv us ul]
  refine wpAny_pure (wpAny_newFunctionEnv (fun y hy => S.nc y hy) (fun y hy => S.pl _ (List.of_mem_zip hy).1) (fun h₁ hns hsb => ⟨lim.fresh _ hsb, ?_⟩) S.kind)
  have kp : ∀ b o, s'.heap.get? b = some o → h₁.get? b = some o := fun b o e => hsb.extBut b o (Nat.ne_of_lt (Heap.lt_size e)) (Heap.get?_push_of_some _ e)
  show codeAny _ _ (.expr body (PySem.W.envX q scope s'.heap.objs.size b (.ref c') cl)) _ _
  have J := lam_in (P := P) (w := w) (K := K) (mg := mg) (base := base) (E := E) (q := q) (b := b) (cdv := .ref c') (tk := s'.toks + (ps.zip us).length) S e0 hr.hd (fun y c e => ⟨let ⟨v, hv⟩ := (cel.cell y c e).1; ⟨v, cell' (cel.cell y c e).2 hv⟩, let ⟨v, o, ho, _⟩ := (cel.cell y c e).1; un.free c o ho (cel.cell y c e).2 (by simp)⟩) cel.inj cel.has wl
    (fun i y v e1 e2 => by
      obtain ⟨c, u, h1, h2, h3⟩ := rw2 i v e2 y e1
      exact ⟨c, u, h1, cell' (cel.cell y c h1).2 h2, h3⟩) rv vl hns kp
  have Kk : Cok (lamX P w K mg base (capN ++ ps) A out s' H' E (PySem.W.envX q scope s'.heap.objs.size b (.ref c') cl)) M (C.plain (capN ++ ps)) scope n (fun c d _ H => E c d H) (callF M.W L n) := by
    refine ⟨fun _ => ⟨rfl, (hr.mono (show 2 * n + 2 + 1 ≤ 2 * n + 3 by omega)).deeper _, fun _ => Fx.nex, Fx.nxd, fun _ => Fx.ncx, ⟨0, callF M.W L n, fun _ _ _ q => (nomatch q), fun _ _ _ _ q => (nomatch q), fun _ _ _ q => (nomatch q)⟩, hz.symm ▸ lw.fns, hz.symm ▸ lw.cls, hz.symm ▸ lw.mks, Fx.exs, ⟨Fx.exm.nm, Fx.exm.exm, Fx.exm.xf, Fx.exm.kit, Fx.exm.xcd⟩⟩, fun _ _ _ _ _ q => (by rw [show (C.plain (capN ++ ps) : Ck).hot = C.hot from rfl, Fx.hot] at q; cases q),
      fun _ _ _ _ _ _ _ q => (by rw [show (C.plain (capN ++ ps) : Ck).lam = C.lam from rfl, Fx.nlm] at q; cases q), fun _ q => (by rw [show (C.plain (capN ++ ps) : Ck).mkl = C.mkl from rfl, Fx.nmk] at q; cases q),
      rfl, S.nd, fun x hx => visB_cases hx, fun x hx => ?_, fun x hx => kindB_ok hx, fun x k _ e => e, fun x e => .inl e, (by have := (hr.mono (show 2 * n + 2 + 1 ≤ 2 * n + 3 by omega)).deeper (PySem.W.envX q scope s'.heap.objs.size b (.ref c') cl); have := this.un; show (A.deeper _).units + 200 < cLine; omega), g, takes_of rfl rfl rfl rfl, passes_of rfl, Fx.con, Fx.scr, Fx.glb, Fx.bl, Fx.gs, Fx.gi, Fx.dc, fun _ _ _ _ _ _ _ _ q => (by rw [show (C.plain (capN ++ ps) : Ck).hot = C.hot from rfl, Fx.hot] at q; cases q)⟩
    rcases locB_cases hx with e | e
    · exact ⟨.inl e, .inr e⟩
    · exact absurd rfl (S.nc _ (PySem.mem_of_lookup e))
  have hse := (sE e (hchk scope body hB) Kk).1.1
  refine PySem.W.kla_codeExpr (wpAny_mono (hse.run [] _ _ _ Q J ?_) (fun v s2 hq => ?_) fun e' s2 hq => hq)
  · refine ⟨(caps ++ ds).map some, h', as', ?_, hi, ?_⟩
    · have rr : Reps (M.g K) as' H' (caps ++ ds) (wv ++ vs) := Reps.append (rw1.mono0 pre un.tups) rs
      refine ⟨by rw [List.length_map, List.length_map, rr.length], fun i d ed => ?_, fun i a q => by rw [show (M.g K).ex = M.ex from rfl, Fx.nex] at q; cases q⟩
      rw [List.getElem?_map] at ed
      have ed' : (caps ++ ds)[i]? = some d := by
        cases z : (caps ++ ds)[i]? with
        | none => rw [z] at ed; cases ed
        | some d' => rw [z] at ed; cases ed; rfl
      obtain ⟨v, h1, h2⟩ := rr.get ed'
      exact ⟨v, by rw [List.getElem?_map, h1]; rfl, h2⟩
    · rw [Fx.ncx]
      refine post_fin (σ := []) (fun _ _ _ q => q) (σI := (caps ++ ds).map some) ?_
      cases hev : evalE M.W (callF M.W L n) none e ((caps ++ ds).map some) h' <;> rw [hev] at p <;> exact p
  · obtain ⟨w', H2, J', rv2, q2⟩ := hq
    exact ⟨w', H2, J'.os, J'.bare, J'.base, J'.hok, rv2, q2⟩
/-- a def to which a lambda is given -/
theorem fnV1 (Fx : Facts P w K mg base M C) {n : Nat} (lw : Low P w K mg base M C n (callF M.W L n)) {v j : Nat} {a : Addr} (V : VOf M K C v j a) {capN ps : List Str} (elm : C.lms j = some (capN, ps)) :
    FnVB P w K mg base M (n + 1) (callF M.W L (n + 1)) (klN (n + 1)) (cflN M.W L (n + 1)) a v j capN.length := by
  obtain ⟨fi, i, ef, hfi, ⟨F⟩⟩ := V
  obtain ⟨hlm, hnp⟩ := hfi capN ps elm
  have hz := Fx.z
  refine ⟨F.fd, F.ps, i, F.B, F.np, fun ds h hn => ?_, fun A out s H us vs b c' q ds caps h as Q E g hr e0 hb rv hvl Lc nas hco hi rs p => ?_⟩
  · rw [callF_np ef hn, hnp]
  have hn : callF M.W L (n + 1) v (ds ++ caps) h ≠ .no := fun e => by rw [e] at p; exact p
  have hlen := callF_np ef hn
  have dl : ds.length = i := by rw [rs.length, hvl]
  refine fn_go F.F F.S hr e0 hb rv (by rw [F.np]; simp [hvl]) fun cdv lk hcode hci hr' => ?_
  let M' : Mx := { M with cx := some (j, caps.map fun d => ("", d)), ex := some (i, b), lc := some (c', q, as) }
  have hz' : M'.z = M := by
    have : M'.z = M.z := rfl
    rw [this, hz]
  have hi' : HI (M'.g K) h as H := ⟨⟨fun dd fs e => (by rw [show (M'.g K).xd = M.xd from rfl, Fx.nxd] at e; cases e), fun c q' as0 e => (by cases (show some (c', q, as) = some (c, q', as0) from e); exact ⟨⟨nas, hco⟩, fun _ _ z => z⟩)⟩, hi.tb, hi.len, hi.nd, fun n mo a e1 e2 => obR_g (G := M.g K) (G' := M'.g K) rfl rfl rfl (hi.ob n mo a e1 e2)⟩
  refine ⟨tS (M'.g K) (fun c d _ H => E c d H) (evalB M.W L (callF M.W L n) M'.cx fi.body), ?_, ?_⟩
  · have Kk : Cok (cxOf (L2.CX P w) P w K mg base F.N F.qual F.scope a cdv A out s H E) M' { C with N := F.N, lam := some i, mkl := F.mkl } F.scope n (fun c d _ H => E c d H) (callF M.W L n) := by
      refine ⟨fun _ => ⟨rfl, hr', fun q => (by cases q), Fx.nxd, fun q => (by cases q), hz'.symm ▸ vir_cc (l := some i) lw.vir, hz'.symm ▸ lw.fns, hz'.symm ▸ lw.cls, hz'.symm ▸ lw.mks, Fx.exs, ⟨Fx.exm.nm, Fx.exm.exm, Fx.exm.xf, Fx.exm.kit, Fx.exm.xcd⟩⟩, fun _ _ _ _ _ q => (by rw [show ({ C with N := F.N, lam := some i, mkl := F.mkl } : Ck).hot = C.hot from rfl, Fx.hot] at q; cases q),
        ?_, fun _ hm => tab_of Fx F.tb hm lk hcode hci,
        rfl, F.S.nd, fun x hx => visB_cases hx, fun x hx => ⟨locB_cases hx, .inl rfl⟩, fun x hx => kindB_ok hx, fun x k _ e => e, fun x e => .inl e, (by have := hr'.un; show (A.deeper (envOfC F.qual F.scope s.heap.objs.size a cdv)).units + 200 < cLine; omega), g, takes_of rfl rfl rfl rfl, passes_of rfl, fun g ys a e1 e2 => (by
          obtain ⟨vs, h1, h2⟩ := Fx.con g ys a e1 e2
          exact ⟨vs, fun H as => ⟨(h1 H as).1, reps_g (G := M.g K) (G' := M'.g K) rfl rfl (h1 H as).2⟩, h2⟩), Fx.scr, Fx.glb, Fx.bl, Fx.gs, Fx.gi, Fx.dc, fun _ _ _ _ _ _ _ _ q => (by rw [show ({ C with N := F.N, lam := some i, mkl := F.mkl } : Ck).hot = C.hot from rfl, Fx.hot] at q; cases q)⟩
      intro i' x es xs p0 pos hot hi2 hN hvis hok hx hpa
      cases (show some i = some i' from hi2)
      obtain ⟨d1, d2, _⟩ := okN_ok hok
      refine ⟨fun pins s1 σ H1 Q1 I h => ?_⟩
      obtain ⟨σI, h1, as1, sl, hi1, p1⟩ := h
      simp only [evalE, show M'.cx = some (j, caps.map fun d => ("", d)) from rfl] at p1
      split at p1
      rotate_left
      · exact p1.elim
      rename_i j' fs' hj hσ
      cases hj
      have hcaps : (caps.map fun d => (("", d) : String × D)).map (·.2) = caps := by rw [List.map_map]; exact (List.map_congr_left fun _ _ => rfl).trans (List.map_id _)
      rw [hcaps] at p1
      have e1 := sl.ex i b rfl hσ
      have tk0 : Takes (cxOf (L2.CX P w) P w K mg base F.N F.qual F.scope a cdv A out s H E) (fun c d _ H => E c d H) := takes_of rfl rfl rfl rfl
      have fnAt : ∀ {pins s2 σ2 H2}, Inv (cxOf (L2.CX P w) P w K mg base F.N F.qual F.scope a cdv A out s H E) pins σ2 H2 s2 → PySem.W.FnAt b s2.heap := fun J => by
        obtain ⟨oc, od, fd', sl', e⟩ := Lc.fn
        exact ⟨oc, od, fd', sl', J.base.keep b _ e Lc.nb Lc.nf (fun z => nomatch (show b ∈ ([] : List Addr) from z))⟩
      have fin : ∀ {s2 H2 us2 vs2 ds2 h2 as2}, Inv (cxOf (L2.CX P w) P w K mg base F.N F.qual F.scope a cdv A out s H E) pins σ H2 s2 → Vals vs2 us2 → HI (M'.g K) h2 as2 H2 → Reps (M'.g K) as2 H2 ds2 vs2 →
          post (M'.g K) (fun c d _ H => E c d H) (Rep (M'.g K)) as2 H2 σ (callF M.W L n j (caps ++ ds2) h2) Q1 →
          wpAny (model P w) (A.deeper (envOfC F.qual F.scope s.heap.objs.size a cdv)) (call (.ref b) us2) (EP (cxOf (L2.CX P w) P w K mg base F.N F.qual F.scope a cdv A out s H E) pins σ Q1) (cxOf (L2.CX P w) P w K mg base F.N F.qual F.scope a cdv A out s H E).xe s2 := by
        intro s2 H2 us2 vs2 ds2 h2 as2 J rv2 hi2 rs2 p2
        obtain ⟨⟨_, hc2⟩, pre⟩ := hi2.xd.2 c' q as rfl
        have pz := post_z (M := M') (σ' := []) (Wx' := fun c d _ H => E c d H) (fun _ _ _ q => q) hi2.xd p2
        have hz2 := hi2.z
        have rz2 := reps_z rs2
        rw [hz'] at pz hz2 rz2
        refine wpAny_call (codeAny_mono (Lc.go _ (envOfC F.qual F.scope s.heap.objs.size a cdv :: out) s2 H2 as2 h2 us2 vs2 ds2 Q1 E g (hr'.mono (by show 2 * n + 1 ≤ 2 * n + 2; omega)) J.env0 J.base hc2 rv2 pre hz2 rz2 pz) fun r s3 hq => ?_)
        have z := cr_end J (fun e _ c => passAt tk0 σ pins H2 s2 e s3 J c) hq
        rcases r with e | fl
        · exact z
        · rcases fl with _ | _ | _ | u
          · exact z
          · exact z
          · exact z
          · exact z
      refine wpAny_Call_Name_kw (thn ((pe_var (pos := p0) (i := i) hN hvis d1 d2).run pins s1 σ H1 (fun v H2 => v = .ref b ∧ H2 = H1) I ⟨.ref b, e1, rfl, rfl⟩) fun u s2 ⟨v2, H2, I1, r1, q1⟩ => ?_)
      obtain ⟨rfl, rfl⟩ := q1
      cases r1
      cases xs with
      | nil =>
        cases es with
        | cons e es => simp [chkEs] at hx
        | nil => exact PySem.W.callWith_F0 (fnAt I1) (fin (us2 := []) (vs2 := []) (ds2 := []) I1 .nil hi1 (by simp only [Reps]) (by simp only [evalEs, R.bind_ok] at p1; exact p1))
      | cons y ys =>
        cases es with
        | nil => simp [chkEs] at hx
        | cons e es =>
          simp only [chkEs, Bool.and_eq_true, Bool.not_eq_true'] at hx
          refine PySem.W.callWith_F (fnAt I1) (thn (hpa.run pos pins s2 σ _ _ I1 (thens sl hi1 p1)) fun us3 s3 ⟨vs3, H3, I3, r, q⟩ => ⟨fnAt I3, ?_⟩) (star_one hx.1.2 _ _) (chkEs_star hx.2)
          obtain ⟨ds3, h3, as3, _, x3, _, i3, rs3, p3⟩ := q
          exact fin I3 r i3 rs3 p3
    exact sB fi.body F.ck Kk ⟨rfl, rfl⟩
  · have ciz : ∀ {h1 as1 H1}, HI (M'.g K) h1 as1 H1 → HI (M.g K) h1 as1 H1 := fun q => by have q2 := q.z; rw [hz'] at q2; exact q2
    have crz : ∀ {as1 H1 d v}, Rep (M'.g K) as1 H1 d v → Rep (M.g K) as1 H1 d v := fun q => rep_g (G := M'.g K) (G' := M.g K) rfl rfl q
    have cfz : ∀ {as1 H1 fs vs}, RepF (M'.g K) as1 H1 fs vs → RepF (M.g K) as1 H1 fs vs := fun q => repF_g (G := M'.g K) (G' := M.g K) rfl rfl q
    simp only [callF, ef, if_pos hlen, FI.cx, FI.st, hlm] at p
    rw [List.drop_left' dl, List.take_left' dl] at p
    refine ⟨start fi.ns ds, h, as, ?_, hi', ?_⟩
    · have rs' : Reps (M'.g K) as H ds vs := reps_g (G := M.g K) (G' := M'.g K) rfl rfl rs
      have hNl : i < F.N.length := by
        have := congrArg List.length F.S.pre
        rw [List.length_take, F.np] at this
        omega
      refine ⟨?_, fun k d ed => ?_, fun k b' q2 _ => ?_⟩
      · unfold start L2.start
        rw [List.length_append, List.length_append, List.length_map, List.length_map, List.length_replicate, List.length_replicate, List.length_append, dl, hvl, ← F.ns]
        simp
        omega
      · unfold start at ed
        by_cases hk : k < ds.length
        · rw [List.getElem?_append_left (by simpa using hk), List.getElem?_map] at ed
          cases z : ds[k]? with
          | none => rw [z] at ed; cases ed
          | some d' =>
            rw [z] at ed; cases ed
            obtain ⟨v', e1, e2⟩ := rs'.get z
            have hv : k < vs.length := (List.getElem?_eq_some_iff.mp e1).1
            refine ⟨v', ?_, e2⟩
            unfold L2.start
            rw [List.getElem?_append_left (by simp; omega), List.getElem?_map, List.getElem?_append_left hv, e1]; rfl
        · rw [List.getElem?_append_right (by simpa using hk), List.getElem?_replicate] at ed
          split at ed <;> cases ed
      · cases (show some (i, b) = some (k, b') from q2)
        unfold L2.start
        rw [List.getElem?_append_left (by simp; omega), List.getElem?_map, List.getElem?_append_right (by omega), hvl, Nat.sub_self]; rfl
    · show postS (M'.g K) _ as H (evalB M.W L (callF M.W L n) (some (j, caps.map fun d => ("", d))) fi.body (start fi.ns ds) h) _
      match e : evalB M.W L (callF M.W L n) (some (j, caps.map fun d => ("", d))) fi.body (start fi.ns ds) h with
      | .ok (.nx σ1) h1 => rw [e] at p; exact fun as' H' σ' x i _ => p .non as' H' x (ciz i) (by simp only [Rep])
      | .ok (.bk σ1) h1 => rw [e] at p; exact p.elim
      | .ok (.ct σ1) h1 => rw [e] at p; exact p.elim
      | .ok (.rt d) h1 => rw [e] at p; exact fun as' H' v x i r => p v as' H' x (ciz i) (crz r)
      | .exc c fs σ1 h1 => rw [e] at p; exact fun Cc dx vs as' H' σ' x i k1 k2 k3 _ => p Cc dx vs as' H' x (ciz i) k1 k2 (cfz k3)
      | .no => rw [e] at p; exact p.elim
/-- all, by the depth of the calls -/
theorem fnAll (Fx : Facts P w K mg base M C) : ∀ n : Nat,
    (∀ (f : Nat) (a : Addr) (fi : FI), M.W.fns[f]? = some fi → ∀ F : FnF K C fi a, FnG P w K mg base (L2.CX P w) (2 * n + 1) a F.fd F.ps (spI M K (callF M.W L n) fi.np f)) ∧
    (∀ (v j : Nat) (a : Addr), VOf M K C v j a → ∀ capN ps, C.lms j = some (capN, ps) → FnVB P w K mg base M n (callF M.W L n) (klN n) (cflN M.W L n) a v j capN.length) ∧
    VirOk P w K mg base M C n (callF M.W L n) (klN n) (cflN M.W L n) ∧
    (∀ j capN ps, C.lms j = some (capN, ps) → ∀ (sc scope : Scope) (body : Expr) (params : Arguments), C.lamB j scope body = true → parsB params = some ps → lamScB sc scope capN ps = true →
      ∀ (q : Str) (cl : List (Str × Addr)) (b c' : Addr) (pm ctv : Value) (fs : List Addr) (s : Shared) (H : Hp) (as : List Addr) (caps : List D),
        s.heap.get? b = some (PySem.W.kla_obj "<lambda>" q params body scope cl pm c' ctv) → H b = none → b ∉ fs → CelC K M scope cl capN caps s H as → LamC P w K mg base M (2 * n + 1) (callF M.W L n) j caps b c' q fs s H as) := by
  intro n
  have vir : ∀ n, (∀ (v j : Nat) (a : Addr), VOf M K C v j a → ∀ capN ps, C.lms j = some (capN, ps) → FnVB P w K mg base M n (callF M.W L n) (klN n) (cflN M.W L n) a v j capN.length) →
      (∀ j capN ps, C.lms j = some (capN, ps) → ∀ (sc scope : Scope) (body : Expr) (params : Arguments), C.lamB j scope body = true → parsB params = some ps → lamScB sc scope capN ps = true →
        ∀ (q : Str) (cl : List (Str × Addr)) (b c' : Addr) (pm ctv : Value) (fs : List Addr) (s : Shared) (H : Hp) (as : List Addr) (caps : List D),
          s.heap.get? b = some (PySem.W.kla_obj "<lambda>" q params body scope cl pm c' ctv) → H b = none → b ∉ fs → CelC K M scope cl capN caps s H as → LamC P w K mg base M (klN n) (cflN M.W L n) j caps b c' q fs s H as) →
      VirOk P w K mg base M C n (callF M.W L n) (klN n) (cflN M.W L n) := fun n hV hM => by
    refine ⟨fun v j x h => ?_, fun v j c m h => ?_, hM⟩
    · obtain ⟨a, e1, e2, e3⟩ := Fx.vfn v j x h
      exact ⟨a, e1, e2, fun capN ps e => hV v j a e3 capN ps e⟩
    · obtain ⟨ci, e1, e2⟩ := Fx.vmt v j c m h
      refine ⟨ci, e1, fun Ca hC => ?_⟩
      obtain ⟨a, e3, e4⟩ := e2 Ca hC
      exact ⟨a, e3, fun capN ps e => hV v j a e4 capN ps e⟩
  induction n with
  | zero =>
    have noL : ∀ {k : Nat} {cf : CF}, (∀ j ds h, cf j ds h = .no) → ∀ (j : Nat) (params : Arguments) (body : Expr) (scope : Scope) (q : Str) (cl : List (Str × Addr)) (b c' : Addr) (pm ctv : Value) (fs : List Addr) (s : Shared) (H : Hp) (as : List Addr) (caps : List D),
        s.heap.get? b = some (PySem.W.kla_obj "<lambda>" q params body scope cl pm c' ctv) → H b = none → b ∉ fs → LamC P w K mg base M k cf j caps b c' q fs s H as := fun hc j params body scope q cl b c' pm ctv fs s H as caps ho nb nf =>
      ⟨nb, nf, ⟨_, _, _, _, ho⟩, fun A out s' H' as' h' us vs ds Q E _ _ _ _ _ _ _ _ _ p => by rw [hc] at p; exact p.elim⟩
    have hV : ∀ (v j : Nat) (a : Addr), VOf M K C v j a → ∀ capN ps, C.lms j = some (capN, ps) → FnVB P w K mg base M 0 (callF M.W L 0) (klN 0) (cflN M.W L 0) a v j capN.length := fun v j a ⟨fi, i, ef, hfi, ⟨F⟩⟩ capN ps e =>
      ⟨F.fd, F.ps, i, F.B, F.np, fun ds h q => absurd rfl q, fun _ _ _ _ _ _ _ _ _ _ _ _ _ _ _ _ _ _ _ _ _ _ _ _ _ _ p => p.elim⟩
    refine ⟨fun f a fi ef F => ⟨fun vs H Q E h => by rw [h.1, F.np], fun A outer s H args us vs Q E _ hr e0 hb r hsp => ?_⟩, hV, vir 0 hV ?_, ?_⟩
    · obtain ⟨_, ds, h, as, hi, rs, p⟩ := hsp
      exact p.elim
    · intro j capN ps _ sc scope body params _ _ _ q cl b c' pm ctv fs s H as caps ho nb nf _
      exact noL (fun _ _ _ => rfl) j params body scope q cl b c' pm ctv fs s H as caps ho nb nf
    · intro j capN ps _ sc scope body params _ _ _ q cl b c' pm ctv fs s H as caps ho nb nf _
      exact noL (fun _ _ _ => rfl) j params body scope q cl b c' pm ctv fs s H as caps ho nb nf
  | succ n ih =>
    obtain ⟨hA, hV, hW, hL⟩ := ih
    have lw : Low P w K mg base M C n (callF M.W L n) := low_of Fx hA hW
    have hV1 : ∀ (v j : Nat) (a : Addr), VOf M K C v j a → ∀ capN ps, C.lms j = some (capN, ps) → FnVB P w K mg base M (n + 1) (callF M.W L (n + 1)) (klN (n + 1)) (cflN M.W L (n + 1)) a v j capN.length := fun v j a V capN ps e => fnV1 Fx lw V e
    refine ⟨fun f a fi ef F => fnOk1 Fx lw f a fi ef F, hV1, vir (n + 1) hV1 hL, ?_⟩
    intro j capN ps elm sc scope body params hB epar hsc q cl b c' pm ctv fs s H as caps ho nb nf cel
    exact lamOk1 Fx lw elm hB epar hsc ho nb nf cel
theorem fnOk (Fx : Facts P w K mg base M C) (n f : Nat) (a : Addr) (fi : FI) (ef : M.W.fns[f]? = some fi) (F : FnF K C fi a) : FnG P w K mg base (L2.CX P w) (2 * n + 1) a F.fd F.ps (spI M K (callF M.W L n) fi.np f) := (fnAll Fx n).1 f a fi ef F
end
end Rf
end

section
namespace Rf
open PySem PySem.Spec PyProof.Rows L2

/-! ## the law's call, where tables of code objects are tracked -/
/-- nothing but the script and empty tables -/
def OnlyT (T : List Addr) (H : Hp) : Prop := ∀ b, H b = none ∨ (∃ o xs, H b = some (.frz o (.lst xs))) ∨ (b ∈ T ∧ H b = some (.tbl #[]))
theorem law_GT {P : Program} {w : World} {K : PySem.W.Frag} {mg mb : Str → Option Value} {CX : CXT} {k : Nat} {fa a : Addr} {cs : List (Addr × Addr)} {fd : FuncData} {x : Str} {sp : Sp} {s₁ : Shared} {vs : List Value} {ns : List Int}
    (KX : K.In s₁.heap) (hns : s₁.heap.Ns mainGlobals mg) (hb : s₁.heap.Ns builtinsNs mb) (hbb : ∀ x : Str, x ≠ "__name__" → mb x = bootBuiltins x) (lim : s₁.heap.NoLimit) (hg : s₁.gens = #[])
    (tabs : ∀ p ∈ cs, s₁.heap.get? p.2 = some { cls := .none, data := .fields #[] }) (out : ∀ p ∈ cs, K.lookup p.2 = none) (heads : ∀ p ∈ cs, PySem.W.CodeHd s₁.heap p.1 p.2)
    (bm : ∃ (bm : Addr) (ob : Obj), mg "__builtins__" = some (.ref bm) ∧ bm ≠ builtinsNs ∧ s₁.heap.get? bm = some ob ∧ ob.cls = .type "module" ∧ ob.dict = some builtinsNs ∧ ob.data = .plain)
    (ha : s₁.heap.get? a = some { cls := .type "list", data := .seq vs.toArray }) (hi : IntsAre vs ns) (hl : ns.length ≤ sizeLine) (hr : Room k callerA)
    (F : ∀ base : Heap, K.In base → base.Ns mainGlobals mg → (∀ p ∈ cs, LamX.TabB base mg p.1 p.2) → FnG P w K mg base CX k fa fd [x] sp) (bind : ∀ (s : Shared) (u : Value), BindsTo s fd ⟨[u], []⟩ [(x, u)])
    (hsp : ∀ H : Hp, OnlyT (cs.map (·.2)) H → (∀ b ∈ cs.map (·.2), H b = some (.tbl #[])) → SqL K H a (ns.map V.int) → sp [.ref a] H (fun v _ => v = .bl true) fun _ _ _ => False)
    (hCX : ∀ H e s', CX [] H s₁ (fun _ _ _ => False) e s' → False) :
    codeAny (model P w) callerA (.call (.ref fa) ⟨[.ref a], []⟩) (fun r s' => r = .ok (.ret (.bool true)) ∧ OldK s₁.heap s'.heap ∧ s'.os = s₁.os ∧ AllBare s'.gens) s₁ := by
  have at_ : ∀ b ∈ cs.map (·.2), s₁.heap.get? b = some { cls := .none, data := .fields #[] } := fun b m => by
    obtain ⟨p, hp, rfl⟩ := List.mem_map.mp m
    exact tabs p hp
  have apart : a ∉ cs.map (·.2) := fun m => by
    have e := at_ a m
    rw [ha] at e
    cases e
  have main : ∀ H : Hp, OnlyT (cs.map (·.2)) H → (∀ b ∈ cs.map (·.2), H b = some (.tbl #[])) → SqL K H a (ns.map V.int) → HOk P w H s₁.heap → (∀ b, H b ≠ none → b = a ∨ b ∈ cs.map (·.2)) → (H a ≠ none → K.lookup a = none) →
      codeAny (model P w) callerA (.call (.ref fa) ⟨[.ref a], []⟩) (fun r s' => r = .ok (.ret (.bool true)) ∧ OldK s₁.heap s'.heap ∧ s'.os = s₁.os ∧ AllBare s'.gens) s₁ := by
    intro H hO hH hS hok hA hKa
    -- what is neither a list nor an empty table is not tracked
    have un : ∀ {b : Addr} {o : Obj}, s₁.heap.get? b = some o → (∀ v n, o.data ≠ .seq v n) → o.data ≠ .fields #[] → H b = none := by
      intro b o e n1 n2
      match q : H b with
      | none => rfl
      | some u =>
        rcases hA b (by rw [q]; simp) with z | z
        · rw [z, ha] at e; cases e; exact absurd rfl (n1 _ _)
        · rw [at_ b z] at e; cases e; exact absurd rfl n2
    have dictN : ∀ {b : Addr} {o : Obj} {es : Array DictEntry} {ep : Nat}, s₁.heap.get? b = some o → o.data = .dict es ep → H b = none := fun e d => un e (fun _ _ z => by rw [d] at z; cases z) (fun z => by rw [d] at z; cases z)
    have nsH : ∀ {b : Addr} {m : Str → Option Value}, s₁.heap.Ns b m → (hidT s₁.heap H).Ns b m := by
      rintro b m ⟨o, es, ep, e, d, r⟩
      exact ⟨o, es, ep, hidT_get e (dictN e d), d, r⟩
    have KH : K.In (hidT s₁.heap H) := by
      intro b o e
      refine hidT_get (KX b o e) ?_
      match q : H b with
      | none => rfl
      | some u =>
        have hne : H b ≠ none := by rw [q]; simp
        rcases hA b hne with z | z
        · rw [z] at e hne; rw [hKa hne] at e; cases e
        · obtain ⟨p, hp, rfl⟩ := List.mem_map.mp z
          rw [out p hp] at e; cases e
    have hM : L2.Mod K mg (hidT s₁.heap H) := by
      obtain ⟨mc, h1, h2⟩ := lim
      exact ⟨KH, nsH hns, ⟨mb, nsH hb, hbb⟩, mc, nsH h1, h2⟩
    have TB : ∀ p ∈ cs, LamX.TabB (hidT s₁.heap H) mg p.1 p.2 := by
      intro p hp
      have tp := tabs p hp
      refine ⟨?_, ?_, ?_⟩
      · obtain ⟨o, us, file, tf, flags, tg, inF, text, tt, e1, r1, r2, r⟩ := heads p hp
        refine ⟨o, us, file, tf, flags, tg, inF, text, tt, hidT_get e1 (un e1 (fun _ _ z => by rw [r2] at z; cases z) fun z => ?_), r1, r2, r⟩
        rw [r2] at z; cases z
        have r3 := r.1
        simp at r3
      · obtain ⟨b, ob, b1, b2, b3, b4, b5, b6⟩ := bm
        refine ⟨b, ob, b1, b2, fun q => ?_, fun q => ?_, hidT_get b3 (un b3 (fun _ _ z => by rw [b6] at z; cases z) fun z => by rw [b6] at z; cases z), b4, b5, b6⟩
        · obtain ⟨o, es, ep, e, d, _⟩ := hns
          rw [q, e] at b3; cases b3; rw [d] at b6; cases b6
        · rw [q, tp] at b3; cases b3; cases b6
      · intro z
        obtain ⟨o, es, ep, e, d, _⟩ := hns
        rw [z, tp] at e; cases e; cases d
    have e0 : Env0 P w K mg (hidT s₁.heap H) callerA [] s₁ H :=
      ⟨rfl, hM, fun b o e => of_hidT e, Nat.le_of_eq (hidT_size _ _), trivial, fun b m => absurd (show b ∈ ([] : List Addr) from m) List.not_mem_nil, hok, .of_eq hg⟩
    refine codeAny_mono ((F _ KH (nsH hns) TB).go callerA [] s₁ H ⟨[.ref a], []⟩ [.ref a] [.ref a] _ _ rfl hr e0 (bind s₁ (.ref a)) (.cons rfl .nil) (hsp H hO hH hS)) fun r s' h => ?_
    rcases r with e | fl
    · exact (hCX H e s' h).elim
    rcases fl with _ | _ | _ | u
    · exact h.elim
    · exact h.elim
    · exact h.elim
    obtain ⟨v, H', os, bare, unk, hok', r', q⟩ := h
    obtain rfl : v = .bl true := q
    obtain rfl : u = Value.bool true := r'
    have grown : ∀ b ∈ cs.map (·.2), ∃ more : Array Value, s'.heap.get? b = some { cls := .none, data := .fields more } := fun b m => by
      obtain ⟨more, z⟩ := unk.tbls b #[] (hH b m)
      exact ⟨_, hok' b _ z⟩
    have same : ∀ b o, b ∉ cs.map (·.2) → s₁.heap.get? b = some o → s'.heap.get? b = some o := by
      intro b o nb e
      rcases hO b with z | ⟨ob, xs, z⟩ | ⟨z, _⟩
      · exact unk.keep b o e z (fun m => absurd (show b ∈ ([] : List Addr) from m) List.not_mem_nil) List.not_mem_nil
      · obtain ⟨e1, _⟩ := hok b _ z
        obtain ⟨e2, _⟩ := hok' b _ (unk.frzs b ob _ z)
        rw [e] at e1; cases e1
        exact e2
      · exact absurd z nb
    refine ⟨rfl, ⟨fun b o e => ?_, fun b o e => ?_⟩, os, bare⟩
    · by_cases m : b ∈ cs.map (·.2)
      · obtain ⟨more, hm⟩ := grown b m
        rw [at_ b m] at e; cases e
        obtain ⟨p, hp, rfl⟩ := List.mem_map.mp m
        exact .inr (.inl ⟨((heads p hp).tab (tabs p hp)).isCodeTable, rfl, #[], more, rfl, by rw [Array.empty_append]; exact hm⟩)
      · exact .inl (same b o m e)
    · by_cases m : b ∈ cs.map (·.2)
      · obtain ⟨more, hm⟩ := grown b m
        exact ⟨_, hm⟩
      · exact ⟨o, same b o m e⟩
  have rv := vals_ints hi
  match hk : K.lookup a with
  | some o =>
    have e := KX a o hk
    rw [ha] at e; cases e
    refine main (fun b => if b ∈ cs.map (·.2) then some (.tbl #[]) else none) (fun b => ?_) (fun b m => if_pos m) (.inr ⟨_, vs.toArray, _, hk, rfl, rfl, rfl, by rw [List.size_toArray, hi.length]; exact hl, by simpa using rv⟩) (fun b u z => ?_) (fun b z => ?_) (fun z => absurd (if_neg apart) z)
    · by_cases m : b ∈ cs.map (·.2)
      · exact .inr (.inr ⟨m, if_pos m⟩)
      · exact .inl (if_neg m)
    · by_cases m : b ∈ cs.map (·.2)
      · cases (if_pos m).symm.trans z; exact at_ b m
      · cases (if_neg m).symm.trans z
    · by_cases m : b ∈ cs.map (·.2)
      · exact .inr m
      · exact absurd (if_neg m) z
  | none =>
    have ne : ∀ b ∈ cs.map (·.2), b ≠ a := fun b m z => apart (z ▸ m)
    refine main (fun b => if b = a then some (.frz { cls := .type "list", data := .seq vs.toArray } (.lst (ns.map V.int))) else if b ∈ cs.map (·.2) then some (.tbl #[]) else none) (fun b => ?_) (fun b m => (if_neg (ne b m)).trans (if_pos m)) (.inl (.inr ⟨_, if_pos rfl⟩)) (fun b u z => ?_) (fun b z => ?_) fun _ => hk
    · by_cases q : b = a
      · exact .inr (.inl ⟨_, _, if_pos q⟩)
      · by_cases m : b ∈ cs.map (·.2)
        · exact .inr (.inr ⟨m, (if_neg q).trans (if_pos m)⟩)
        · exact .inl ((if_neg q).trans (if_neg m))
    · by_cases q : b = a
      · cases (if_pos q).symm.trans z
        rw [q]
        exact ⟨ha, by rw [List.length_map]; exact hl, vs, _, rv, ha⟩
      · have z1 := (if_neg q).symm.trans z
        by_cases m : b ∈ cs.map (·.2)
        · cases (if_pos m).symm.trans z1; exact at_ b m
        · cases (if_neg m).symm.trans z1
    · by_cases q : b = a
      · exact .inl q
      · by_cases m : b ∈ cs.map (·.2)
        · exact .inr m
        · exact absurd ((if_neg q).trans (if_neg m)) z
/-- the end of the head -/
theorem walk_GT {l : PySem.W.OpenLaw} {n k : Nat} {q : Program} {loose : List Str} {XP : (Str → Option Value) → Heap → Prop} {YP : World → Heap → Prop} {d : DefRec} {CX : CXT} {x : Str}
    (hn : l.most = some n) (hn2 : n ≤ sizeLine) (hdf : d.params.defaults = []) (hr : Room k callerA)
    (F : ∀ (w : World) (mg : Str → Option Value) (fa : Addr) (h : Heap), YP w h → h.Ns mainGlobals mg → mg d.name = some (.ref fa) →
      ∃ (K : PySem.W.Frag) (fd : FuncData) (sp : Sp) (cs : List (Addr × Addr)), K.In h ∧ (∀ p ∈ cs, h.get? p.2 = some { cls := .none, data := .fields #[] }) ∧ (∀ p ∈ cs, K.lookup p.2 = none) ∧ (∀ p ∈ cs, PySem.W.CodeHd h p.1 p.2) ∧ (∀ (s : Shared) (u : Value), BindsTo s fd ⟨[u], []⟩ [(x, u)]) ∧
        (∀ (H : Hp) (a : Addr) (ns : List Int), ns.length ≤ n → OnlyT (cs.map (·.2)) H → (∀ b ∈ cs.map (·.2), H b = some (.tbl #[])) → SqL K H a (ns.map V.int) → sp [.ref a] H (fun v _ => v = .bl true) fun _ _ _ => False) ∧
        ∀ base : Heap, K.In base → base.Ns mainGlobals mg → (∀ p ∈ cs, LamX.TabB base mg p.1 p.2) → FnG l.prog w K mg base CX k fa fd [x] sp)
    (hCX : ∀ (H : Hp) (s : Shared) (e : Value) (s' : Shared), CX [] H s (fun _ _ _ => False) e s' → False) :
    PySem.W.WalkO q loose XP YP l.row.toRowW d [] (fun f vs => PySem.call f vs) := by
  refine Att.attach_callB hn hdf fun w s₀ s₁ mg mb fa o pm cd doc a vs ns G Y ho hd hcd hmg hobj hints hlen _ hg => ?_
  obtain ⟨K, fd, sp, cs, KX, h1, h2, h3, bd, hs, hF⟩ := F w mg fa _ Y G.T.g hmg
  exact law_GT KX G.T.g G.T.b G.T.builtins G.T.nolimit hg h1 h2 h3 G.T.bmain hobj hints (Nat.le_trans hlen hn2) hr hF bd (fun H hO hH hS => hs H a ns hlen hO hH hS) fun H e s' => hCX H s₁ e s'
end Rf
end

section
namespace Rf
open PySem PySem.Spec PyProof.Rows L2

/-! ## the law -/
theorem FnG.cx0 {P : Program} {w : World} {K : PySem.W.Frag} {mg : Str → Option Value} {base : Heap} {k : Nat} {f : Addr} {fd : FuncData} {ps : List Str} {sp : Sp} (F : FnG P w K mg base (L2.CX P w) k f fd ps sp) :
    FnG P w K mg base L2.CX0 k f fd ps (fun vs H Q _ => sp vs H Q fun _ _ _ => False) :=
  ⟨fun vs H Q E h => F.ln vs H Q _ h, fun A outer s H args us vs Q E g hr e0 hb r hsp => codeAny_mono (F.go A outer s H args us vs Q _ g hr e0 hb r hsp) fun r s' h => by
    cases r with
    | error e =>
      obtain ⟨_, _, _, _, _, _, _, _, _, _, _, _, hE⟩ := h
      exact hE.elim
    | ok fl => cases fl <;> exact h⟩
/-- how a def binds its arguments, all of them given -/
def DefHb (d : He.DefD) (ps : List Str) : Prop := ∀ (kV doc pm : Value) (an : Option Addr) (cdv ct : Value) (us : List Value), us.length = ps.length → bindArgs (PySem.W.fnOf d.name d.qual d.params d.body d.scope .none kV doc pm an cdv ct) ⟨us, []⟩ = pure (ps.zip us)
/-- .. with defaults, that are not needed -/
def DefHd (d : He.DefD) (ps : List Str) : Prop := ∀ (T : Addr) (kV doc pm : Value) (an : Option Addr) (cdv ct : Value) (us its : List Value), us.length = ps.length → its.length = d.dfl.length →
  ∃ k, bindArgs (PySem.W.fnOf d.name d.qual d.params d.body d.scope (.ref T) kV doc pm an cdv ct) ⟨us, []⟩ = seqItems? (.ref T) >>= k ∧ k (some its.toArray) = pure (ps.zip us)
/-- .. with one default, that is needed -/
def DefH1 (d : He.DefD) (ps : List Str) : Prop := ∀ (T : Addr) (kV doc pm : Value) (an : Option Addr) (cdv ct : Value) (us its : List Value), us.length + 1 = ps.length → its.length = 1 →
  ∃ k, bindArgs (PySem.W.fnOf d.name d.qual d.params d.body d.scope (.ref T) kV doc pm an cdv ct) ⟨us, []⟩ = seqItems? (.ref T) >>= k ∧ k (some its.toArray) = pure (ps.zip (us ++ its))
/-- what the head tells of a def, and its term -/
structure DefOk (C : Ck) (d : He.DefD) (fi : FI) (x : Str × Option Str) (N ps : List Str) : Prop where
  at_ : d.at_ = x
  bd : (d.dfl = [] ∧ DefHb d ps) ∨ (d.dfl ≠ [] ∧ DefHd d ps)
  kwd : d.kwd = []
  S : FnScope N ps d.scope
  lm : fi.lm = none
  np : ps.length = fi.np
  ns : N.length = fi.ns
  ck : chkB { C with N := N, mkl := decide ((x, d.qual) ∈ C.tf) } d.scope fi.body d.body = true
/-- .. a def to which a lambda is given behind i others -/
structure DefOkV (C : Ck) (d : He.DefD) (fi : FI) (i : Nat) (x : Str × Option Str) (N ps : List Str) : Prop where
  at_ : d.at_ = x
  dfl : d.dfl = []
  kwd : d.kwd = []
  S : FnScope N ps d.scope
  hb : (∀ (kV doc pm : Value) (an : Option Addr) (cdv ct : Value) (us : List Value), us.length = ps.length → bindArgs (PySem.W.fnOf d.name d.qual d.params d.body d.scope .none kV doc pm an cdv ct) ⟨us, []⟩ = pure (ps.zip us))
  np : ps.length = i + 1
  ns : N.length = fi.ns
  ck : chkB { C with N := N, lam := some i, mkl := decide ((x, d.qual) ∈ C.tf) } d.scope fi.body d.body = true
/-- a class of exceptions: its fields, where its __init__ stands among the defs -/
def Pg.wd (p : Pg) (ns : List Int) : Wd := ⟨p.fns, p.cls.map (·.ci), p.cons.map (·.2), p.isa, ns, p.exf, p.dcs.map (·.2)⟩
def Pg.ck0 (p : Pg) : Ck := { N := [], fnm := p.names, cnm := p.cls.map (·.nm) ++ p.exs.map (·.nm), gnm := p.cons.map (·.1), nw := p.nw, snm := p.snm, xc := p.xc, xr := p.xc.filter fun c => !(p.exf c).isEmpty, inm := p.nums, tf := p.tf, dnm := p.dcs.map (·.1), nd := p.nd, ow := p.ow }
def Pg.lamL (p : Pg) (j : Nat) : Option (List Str × List Str × E) := p.lams.lookup j
def Pg.ck (p : Pg) : Ck := { p.ck0 with vnm := p.vnm, vmt := p.vmt, lms := fun j => (p.lamL j).map fun q => (q.1, q.2.1), lamB := fun j scope body => match p.lamL j with | some q => chkE (p.ck0.plain (q.1 ++ q.2.1)) q.2.2 scope body | none => false }
def Pg.tabs (p : Pg) (K : PySem.W.Frag) : List (Addr × Addr) := p.tf.map fun q => He.cT K q.1
def Pg.mx (p : Pg) (ns : List Int) (K : PySem.W.Frag) (oa : Option Addr) : Mx :=
  ⟨p.wd ns, fun f => (p.names[f]?).map (He.ga K), fun c => ((p.cls.map (·.nm) ++ p.exs.map (·.nm))[c]?).map (He.ga K), fun g => if g < p.cons.length then (p.cons[g]?).map (fun q => He.ga K q.1) else if g = p.cons.length then oa else if g = p.cons.length + 1 then p.dfl.map (fun q => He.dflAt q 0 K) else none, none, none, none, p.tf.map (fun q => ((He.cT K q.1).2, q.2 ++ ".<locals>." ++ "<lambda>")), none, fun _ => none⟩
/-- the constants' objects -/
def Pg.ConsOk0 (p : Pg) (K : PySem.W.Frag) (mg : Str → Option Value) : Prop := ∀ q ∈ p.cons, mg q.1 = some (.ref (He.ga K q.1)) ∧ ∃ vs : List V, (∀ H : Hp, SqT K H (He.ga K q.1) vs) ∧ (∀ (G : Gx) (as : List Addr) (H : Hp), G.K = K → Reps G as H q.2 vs) ∧ q.2.all flat = true
/-- the __init__ of an exception -/
structure ExOk (d : He.DefD) (e : ExI) (N ps : List Str) : Prop where
  at_ : d.at_ = (e.nm, some ("__init__" : Str))
  dfl : d.dfl = []
  kwd : d.kwd = []
  S : FnScope N ps d.scope
  hb : (∀ (kV doc pm : Value) (an : Option Addr) (cdv ct : Value) (us : List Value), us.length = ps.length → bindArgs (PySem.W.fnOf d.name d.qual d.params d.body d.scope .none kV doc pm an cdv ct) ⟨us, []⟩ = pure (ps.zip us))
  nn : N = ps
  ln : ps.length = e.flds.length + 1
  l9 : e.flds.length ≤ 900
  ck : chkI N d.scope 0 e.flds d.body = true
/-- every def, every method has its term -/
structure Pg.Ok (p : Pg) (defs : List He.DefD) : Prop where
  fn : ∀ (f : Nat) (x : Str), p.names[f]? = some x → ∃ (fi : FI) (d : He.DefD) (N ps : List Str), p.fns[f]? = some fi ∧ defs[f]? = some d ∧ DefOk p.ck d fi (x, none) N ps
  mt : ∀ (c : Nat) (k : ClsI), p.cls[c]? = some k → ∀ q ∈ k.ci.meths, ∃ (fi : FI) (d : He.DefD) (N ps : List Str), p.fns[q.2]? = some fi ∧ defs[q.2]? = some d ∧ DefOk p.ck d fi (k.nm, some (Str.ofString q.1)) N ps
  ini : ∀ (c : Nat) (k : ClsI), p.cls[c]? = some k → ∀ f, k.ci.ini = some f → ∃ (fi : FI) (d : He.DefD) (N ps : List Str), p.fns[f]? = some fi ∧ defs[f]? = some d ∧ DefOk p.ck d fi (k.nm, some ("__init__" : Str)) N ps
  nw : ∀ c ∈ p.nw, ∃ k f, p.cls[c]? = some k ∧ k.ci.ini = some f
  vfn : ∀ v j x, (v, j, x) ∈ p.vnm → x ∈ p.names ∧ ∃ (fi : FI) (k : Nat) (d : He.DefD) (N ps : List Str) (i : Nat), p.fns[v]? = some fi ∧ defs[k]? = some d ∧ DefOkV p.ck d fi i (x, none) N ps ∧ ∀ q, p.lamL j = some q → fi.lm = some (i, j, q.1.length) ∧ fi.np = i + q.1.length
  vmt : ∀ v j c m, (v, j, c, m) ∈ p.vmt → ∃ (k : ClsI) (idx : Nat) (fi : FI) (kd : Nat) (d : He.DefD) (N ps : List Str) (i : Nat), p.cls[c]? = some k ∧ (m, idx) ∈ k.ci.meths ∧ p.fns[v]? = some fi ∧ defs[kd]? = some d ∧ DefOkV p.ck d fi i (k.nm, some (Str.ofString m)) N ps ∧ ∀ q, p.lamL j = some q → fi.lm = some (i, j, q.1.length) ∧ fi.np = i + q.1.length
  lam : ∀ j q, (j, q) ∈ p.lams → p.fns[j]? = some ⟨q.1.length + q.2.1.length, q.1.length + q.2.1.length, [.ret q.2.2], none⟩
  ex : ∀ e ∈ p.exs, e.flds ≠ [] → ∃ (d : He.DefD) (N ps : List Str), defs[e.ini]? = some d ∧ ExOk d e N ps
  nd : ∀ c ∈ p.nd, ∃ (k : ClsI) (f : Nat) (fi : FI) (d : He.DefD) (N ps : List Str), p.cls[c]? = some k ∧ k.ci.ini = some f ∧ p.dfl = some (k.nm, some ("__init__" : Str)) ∧ p.fns[f]? = some fi ∧ defs[f]? = some d ∧ DefOk p.ck d fi (k.nm, some ("__init__" : Str)) N ps ∧ d.dfl = [.adr (He.dflAt (k.nm, some ("__init__" : Str)) 0)] ∧ ps.length ≠ 0 ∧ DefH1 d ps
  ow : ∀ c F, (c, F) ∈ p.ow → ∃ (k : ClsI) (f : Nat), p.cls[c]? = some k ∧ ("__iter__", f) ∈ k.ci.meths ∧ F ∈ k.ci.flds ∧ p.fns[f]? = some ⟨1, 1, [.ret (.itr (.fld (.var 0) F))], none⟩
/-- an own class over ValueError, with its own dict -/
theorem oexB_ok {K : PySem.W.Frag} {C : Addr} (q : oexB K C = true) : OexC K C := by
  simp only [oexB, Bool.and_eq_true, decide_eq_true_eq] at q
  obtain ⟨⟨⟨⟨q1, q2⟩, q3⟩, q4⟩, q5⟩ := q
  refine ⟨?_, He.eqO_ok q2, q3, q4, q5⟩
  split at q1
  · rename_i t dd cd sl e
    simp only [Bool.and_eq_true, decide_eq_true_eq] at q1
    obtain ⟨⟨⟨⟨rfl, g1⟩, g2⟩, g3⟩, g4⟩ := q1
    split at g3
    · rename_i C' bm em
      simp only [Bool.and_eq_true, decide_eq_true_eq] at g3
      obtain ⟨rfl, g3⟩ := g3
      split at g4
      · rename_i k0 k1 k2 k3 nw k5 es
        have g4' := of_decide_eq_true g4
        subst g4'
        obtain ⟨nm, bs, mro, ns, qn, hd, sn, sub, ab, col, dl⟩ := cd
        simp only at g1 g2 em
        subst g1 g2 em
        obtain ⟨sl⟩ := sl
        simp only at es
        subst es
        exact ⟨nm, qn, ns, bs, bm, sn, sub, ab, col, dd, k0, k1, k2, k3, k5, e, g3⟩
      · cases g4
    · cases g3
  · cases q1
theorem nodupB_ok {α : Type} {f : α → Addr} : ∀ {l : List α}, nodupB (l.map f) = true → ∀ x ∈ l, ∀ y ∈ l, f x = f y → x = y
  | a :: r, h, x, hx, y, hy, e => by
    simp only [List.map_cons, nodupB, Bool.and_eq_true, Bool.not_eq_true', List.contains_eq_mem, decide_eq_false_iff_not] at h
    rcases List.mem_cons.mp hx with hx1 | hx1
    · rcases List.mem_cons.mp hy with hy1 | hy1
      · rw [hx1, hy1]
      · exact absurd (List.mem_map.mpr ⟨y, hy1, by rw [← hx1, e]⟩) h.1
    · rcases List.mem_cons.mp hy with hy1 | hy1
      · exact absurd (List.mem_map.mpr ⟨x, hx1, by rw [← hy1, e]⟩) h.1
      · exact nodupB_ok h.2 x hx1 y hy1 e
section
variable {P : Program} {w : World} {K : PySem.W.Frag} {mg : Str → Option Value} {base h : Heap} {C : Ck} {L : Nat} {fa : List He.Fa} {defs : List He.DefD} {p : Pg}
theorem DefOk.fnf {d : He.DefD} {fi : FI} {x : Str × Option Str} {N ps : List Str} {i : Nat} (D : DefOk C d fi x N ps) (c : He.SaysD fa defs K) (e : defs[i]? = some d) : PySem.W.keepIn K (.ref (He.fAd K x)) = true ∧ Nonempty (FnF K C fi (He.fAd K x)) := by
  obtain ⟨fd, F⟩ := c.def_ i (d := d) e
  have e2 : d.kws K = [] := by unfold He.DefD.kws; rw [D.kwd]; rfl
  rw [e2, D.at_] at F
  have B : Binds K fd ps [] := by
    rcases D.bd with ⟨h0, hb⟩ | ⟨h0, hb⟩
    · have e1 : d.dvs K = [] := by unfold He.DefD.dvs; rw [h0]; rfl
      rw [e1] at F
      exact F.bindsN hb
    · have l1 : (d.dvs K).length = d.dfl.length := by unfold He.DefD.dvs; rw [List.length_map]
      obtain ⟨ds, r, b⟩ := F.binds1 (ps := ps) ps.length (d.dvs K).length (fun z => h0 (by unfold He.DefD.dvs at z; simpa using z)) (by omega) fun T kV doc pm an cdv ct us its h1 h2 => by
        obtain ⟨k, k1, k2⟩ := hb T kV doc pm an cdv ct us its h1 (by omega)
        refine ⟨k, k1, ?_⟩
        rw [k2, ← h2, List.drop_length, List.append_nil]
      rw [List.drop_length] at r
      cases r
      exact b
  exact ⟨F.kp, ⟨⟨d.name, d.qual, d.params, d.body, d.scope, N, ps, fd, _, _, F, D.S, B, D.lm, D.np, D.ns, fun h => ⟨x, rfl, of_decide_eq_true h⟩, D.ck⟩⟩⟩
theorem DefOk.fnfD {d : He.DefD} {fi : FI} {x : Str × Option Str} {N ps : List Str} {i : Nat} {dA : PySem.W.Frag → Addr} (D : DefOk C d fi x N ps) (c : He.SaysD fa defs K) (e : defs[i]? = some d) (hd : d.dfl = [.adr dA]) (hps : ps.length ≠ 0) (hb : DefH1 d ps) : ∃ F : FnF K C fi (He.fAd K x), Binds K F.fd F.ps [.ref (dA K)] := by
  obtain ⟨fd, F⟩ := c.def_ i (d := d) e
  have e2 : d.kws K = [] := by unfold He.DefD.kws; rw [D.kwd]; rfl
  have e3 : d.dvs K = [V.ref (dA K)] := by unfold He.DefD.dvs; rw [hd]; rfl
  rw [e2, D.at_, e3] at F
  have B : Binds K fd ps [] := by
    rcases D.bd with ⟨h0, hb⟩ | ⟨h0, hb⟩
    · rw [hd] at h0; cases h0
    · obtain ⟨ds, r, b⟩ := F.binds1 (ps := ps) ps.length 1 (by simp) (by simp) fun T kV doc pm an cdv ct us its h1 h2 => by
        obtain ⟨k, k1, k2⟩ := hb T kV doc pm an cdv ct us its h1 (by rw [hd]; exact h2)
        refine ⟨k, k1, ?_⟩
        rw [k2, List.drop_of_length_le (by rw [h2]; simp), List.append_nil]
      cases r
      exact b
  have B1 : Binds K fd ps [.ref (dA K)] := by
    obtain ⟨ds, r, b⟩ := F.binds1 (ps := ps) (ps.length - 1) 0 (by simp) (by simp; omega) fun T kV doc pm an cdv ct us its h1 h2 => by
      obtain ⟨k, k1, k2⟩ := hb T kV doc pm an cdv ct us its (by omega) h2
      exact ⟨k, k1, k2⟩
    cases r with
    | cons r1 r2 =>
      cases r2
      cases r1
      exact b
  exact ⟨⟨d.name, d.qual, d.params, d.body, d.scope, N, ps, fd, _, _, F, D.S, B, D.lm, D.np, D.ns, fun h => ⟨x, rfl, of_decide_eq_true h⟩, D.ck⟩, B1⟩
theorem DefOkV.fnf {d : He.DefD} {fi : FI} {n : Nat} {x : Str × Option Str} {N ps : List Str} {i : Nat} (D : DefOkV C d fi n x N ps) (c : He.SaysD fa defs K) (e : defs[i]? = some d) : PySem.W.keepIn K (.ref (He.fAd K x)) = true ∧ Nonempty (FnFV K C fi (He.fAd K x) n) := by
  obtain ⟨fd, F⟩ := c.def_ i (d := d) e
  have e1 : d.dvs K = [] := by unfold He.DefD.dvs; rw [D.dfl]; rfl
  have e2 : d.kws K = [] := by unfold He.DefD.kws; rw [D.kwd]; rfl
  rw [e1, e2, D.at_] at F
  exact ⟨F.kp, ⟨⟨d.name, d.qual, d.params, d.body, d.scope, N, ps, fd, _, F, D.S, F.bindsN D.hb, D.np, D.ns, fun h => ⟨x, rfl, of_decide_eq_true h⟩, D.ck⟩⟩⟩
theorem fact_in (c : He.SaysD fa defs K) {f : He.Fa} (h : f ∈ fa) : f.ok K = true := by
  obtain ⟨i, e⟩ := List.getElem?_of_mem h
  exact c.fact i e
theorem fa0_in {f : He.Fa} (h : f ∈ p.fa0) : f ∈ p.fa := List.mem_append_left _ (List.mem_append_left _ (List.mem_append_left _ h))
theorem fa_cls {k : ClsI} {f : He.Fa} (hk : k ∈ p.cls) (h : f ∈ k.fa) : f ∈ p.fa := by
  refine fa0_in ?_
  unfold Pg.fa0
  exact List.mem_append_left _ (List.mem_append_right _ (List.mem_flatMap.mpr ⟨k, hk, h⟩))
theorem lookup_mem' {m : String} {f : Nat} : ∀ {l : List (String × Nat)}, l.lookup m = some f → (m, f) ∈ l
  | [], h => by cases h
  | (a, b) :: r, h => by
    rw [List.lookup_cons] at h
    split at h
    · rename_i e
      obtain rfl := eq_of_beq e
      cases h; exact List.mem_cons_self ..
    · exact List.mem_cons_of_mem _ (lookup_mem' h)
theorem lookup_memN {β : Type} {m : Nat} {f : β} : ∀ {l : List (Nat × β)}, l.lookup m = some f → (m, f) ∈ l
  | [], h => by cases h
  | (a, b) :: r, h => by
    rw [List.lookup_cons] at h
    split at h
    · rename_i e
      obtain rfl := eq_of_beq e
      cases h; exact List.mem_cons_self ..
    · exact List.mem_cons_of_mem _ (lookup_memN h)
theorem leaf_rep {G : Gx} {as : List Addr} {H : Hp} : ∀ {ds : List D}, ds.all leafD = true → Reps G as H ds ((ds.map dvOf).map (He.Dv.v G.K)) ∧ ds.all flat = true
  | [], _ => ⟨by simp [Reps], rfl⟩
  | d :: ds, h => by
    simp only [List.all_cons, Bool.and_eq_true] at h
    obtain ⟨h1, h2⟩ := leaf_rep (ds := ds) h.2
    simp only [List.map_cons, List.all_cons, h2, Bool.and_true]
    have h0 := h.1
    cases d <;> first | (simp [leafD] at h0; done) | exact ⟨by simp only [Reps]; exact ⟨_, _, rfl, by simp only [Rep]; rfl, h1⟩, rfl⟩
theorem consOk (X : K.In h) (G : h.Ns mainGlobals mg) (c : He.SaysD p.fa defs K) (hx : p.exB0 K = true) : p.ConsOk0 K mg := by
  intro q hq
  unfold Pg.exB0 at hx
  rw [Bool.and_eq_true] at hx
  replace hx := hx.2
  simp only [Bool.and_eq_true] at hx
  have h1 := List.all_eq_true.mp hx.1.1 q hq
  simp only [Bool.and_eq_true] at h1
  refine ⟨He.glo_ok X G (fact_in c (List.mem_append_right _ (List.mem_append_left _ (List.mem_map_of_mem (f := fun q : Str × List D => He.Fa.glo q.1) hq)))), _, He.tupB_ok h1.1, fun G as H e => ?_, (leaf_rep (G := ⟨⟨[], [], [], fun _ _ => false, [], fun _ => [], []⟩, K, fun _ => none, fun _ => none, fun _ => none, none, none, [], none⟩) (as := []) (H := fun _ => none) h1.2).2⟩
  subst e
  exact (leaf_rep h1.2).1
theorem exs_at {c : Nat} {x : Str} (hc : c ∈ p.xc) (e : (p.cls.map (·.nm) ++ p.exs.map (·.nm))[c]? = some x) : ∃ i k, c = p.cls.length + i ∧ i < p.exs.length ∧ p.exs[i]? = some k ∧ x = k.nm ∧ p.exf c = k.flds := by
  unfold Pg.xc at hc
  obtain ⟨i, hi, rfl⟩ := List.mem_map.mp hc
  rw [List.mem_range] at hi
  rw [List.getElem?_append_right (by simp), List.getElem?_map, List.length_map, show p.cls.length + i - p.cls.length = i by omega] at e
  obtain ⟨k, ek, rfl⟩ := Option.map_eq_some_iff.mp e
  refine ⟨i, k, rfl, hi, ek, rfl, ?_⟩
  unfold Pg.exf
  rw [if_neg (by omega), show p.cls.length + i - p.cls.length = i by omega, ek]
theorem exf_at {c : Nat} (h : 0 < (p.exf c).length) : ∃ i k, c = p.cls.length + i ∧ i < p.exs.length ∧ p.exs[i]? = some k ∧ k.flds = p.exf c := by
  unfold Pg.exf at h ⊢
  by_cases hc : c < p.cls.length
  · rw [if_pos hc] at h; simp at h
  · rw [if_neg hc] at h ⊢
    cases e : p.exs[c - p.cls.length]? with
    | none => rw [e] at h; simp at h
    | some k => exact ⟨c - p.cls.length, k, by omega, (List.getElem?_eq_some_iff.mp e).1, e, rfl⟩
theorem ca_at {ns : List Int} {oa : Option Addr} {i : Nat} {k : ExI} (ek : p.exs[i]? = some k) : (p.mx ns K oa).ca (p.cls.length + i) = some (He.ga K k.nm) := by
  show ((p.cls.map (·.nm) ++ p.exs.map (·.nm))[p.cls.length + i]?).map (He.ga K) = _
  rw [List.getElem?_append_right (by simp), List.getElem?_map, List.length_map, show p.cls.length + i - p.cls.length = i by omega, ek]; rfl
theorem exi_ok {e : ExI} (hx : p.exB0 K = true) (he : e ∈ p.exs) (hf : e.flds ≠ []) : XfC K (He.ga K e.nm) ∧ (∀ f ∈ e.flds, PySem.W.findIn K (.ref (He.ga K e.nm)) (Str.ofString f) = some none) ∧ OexC K (He.ga K e.nm) ∧
    PySem.W.findIn K (.ref (He.ga K e.nm)) "__init__" = some (some (.ref (He.fAd K (e.nm, some ("__init__" : Str))))) ∧ PySem.W.typeIn K (.ref (He.fAd K (e.nm, some ("__init__" : Str)))) = some (.type "function") ∧ ExcD K (He.ga K e.nm) := by
  unfold Pg.exB0 at hx
  rw [Bool.and_eq_true] at hx
  replace hx := hx.2
  simp only [Bool.and_eq_true] at hx
  have h1 := List.all_eq_true.mp hx.1.2 e he
  unfold exiB at h1
  have hne : e.flds.isEmpty = false := by simpa using hf
  simp only [hne, Bool.false_or, Bool.and_eq_true, decide_eq_true_eq, List.all_eq_true] at h1
  obtain ⟨⟨⟨⟨⟨g1, g0⟩, g2⟩, g3⟩, g4⟩, g5⟩ := h1
  exact ⟨xfB_ok g1, fun f hf => He.eqO_ok (g2 f hf), oexB_ok g3, He.eqO_ok g4, g5, excB_ok g0⟩
/-- a dict of the module: its keys, its values -/
def Pg.DcOk (p : Pg) (w : World) (K : PySem.W.Frag) : Prop := ∀ q ∈ p.dcs, p.dc1 K q = true ∧ ∃ es n, KDict K w (He.ga K q.1) es n
theorem exB_l (h : p.exB K = true) : p.exB0 K = true := by
  unfold Pg.exB at h
  rw [Bool.and_eq_true] at h
  exact h.1
theorem dcs_of (c : He.SaysT p.fa defs p.dts w K) (h : p.exB K = true) : p.DcOk w K := by
  intro q hq
  unfold Pg.exB at h
  rw [Bool.and_eq_true] at h
  refine ⟨List.all_eq_true.mp h.2 q hq, ?_⟩
  obtain ⟨i, hi⟩ := List.mem_iff_getElem?.mp hq
  exact c.tab i (t := (fun K => He.ga K q.1, q.2.map fun kv => st kv.1)) (by unfold Pg.dts; rw [List.getElem?_map, hi]; rfl)
theorem lookup_mem {α β : Type} [BEq α] [LawfulBEq α] : ∀ {l : List (α × β)} {a : α} {b : β}, l.lookup a = some b → (a, b) ∈ l
  | [], _, _, h => by simp at h
  | (x, y) :: l, a, b, h => by
    rw [List.lookup_cons] at h
    split at h
    · rename_i e
      have := eq_of_beq e
      cases h
      subst this
      exact List.mem_cons_self
    · exact List.mem_cons_of_mem _ (lookup_mem h)
theorem lookup_none {α β : Type} [BEq α] [LawfulBEq α] : ∀ {l : List (α × β)} {a : α}, l.lookup a = none → ∀ q ∈ l, q.1 ≠ a
  | [], _, _, q, hq => by simp at hq
  | (x, y) :: l, a, h, q, hq => by
    rw [List.lookup_cons] at h
    split at h
    · cases h
    · rename_i e
      rcases List.mem_cons.mp hq with rfl | hq
      · intro z
        simp only at z
        subst z
        simp at e
      · exact lookup_none h q hq
theorem dctOk (X : K.In h) (G : h.Ns mainGlobals mg) (c : He.SaysD p.fa defs K) (hd : p.DcOk w K) {ns : List Int} {oa : Option Addr} : DctOk (p.mx ns K oa) p.ck K w mg := by
  intro g x e
  have e' : (p.dcs.map (·.1))[g]? = some x := e
  rw [List.getElem?_map, Option.map_eq_some_iff] at e'
  obtain ⟨q, eq, rfl⟩ := e'
  have hq := List.mem_of_getElem? eq
  obtain ⟨d1, dk⟩ := hd q hq
  unfold Pg.dc1 at d1
  simp only [Bool.and_eq_true] at d1
  obtain ⟨⟨g1, g2⟩, g3⟩ := d1
  refine ⟨He.ga K q.1, q.2, He.glo_ok X G (fact_in c (List.mem_append_right _ (List.mem_append_right _ (List.mem_map_of_mem (f := fun q : Str × List (List Char × D) => He.Fa.glo q.1) hq)))), ?_, dk, fun z => ⟨fun v hv => ?_, fun hv => ?_⟩⟩
  · show (p.dcs.map (·.2))[g]? = some q.2
    rw [List.getElem?_map, eq]; rfl
  · have hm := lookup_mem hv
    obtain ⟨u, n1, n2⟩ := He.valsB_ok g1 (q := (st z, dvN p.names v)) (List.mem_map.mpr ⟨(z, v), hm, rfl⟩)
    refine ⟨u, (dvN p.names v).v K, n1, n2, fun G as H hG => ?_⟩
    have lf := List.all_eq_true.mp g2 (z, v) hm
    simp only at lf
    cases v <;> first | (simp [leafN, leafD] at lf; done) | (simp only [Rep]; rfl) | skip
    rename_i f
    simp only [leafN, decide_eq_true_eq] at lf
    simp only [Rep]
    refine ⟨_, rfl, ?_⟩
    rw [hG]
    show (p.names[f]?).map (He.ga K) = some (He.ga K (p.names.getD f Str.empty))
    rw [List.getD_eq_getElem?_getD, List.getElem?_eq_getElem lf]; rfl
  · unfold PySem.W.nsIn
    split at g3
    · rename_i es n sl e3
      rw [e3]
      have nk : ∀ e ∈ es.toList, e.key.isStr (st z) = false ∧ e.refKey = false := by
        intro e he
        have := List.all_eq_true.mp g3 e he
        split at this
        · rename_i y t ek
          refine ⟨?_, by unfold DictEntry.refKey; rw [ek]⟩
          rw [ek]
          simp only [Value.isStr]
          rw [Bool.eq_false_iff]
          intro q2
          have := eq_of_beq q2
          subst this
          rw [List.contains_iff_mem] at *
          obtain ⟨kv, h1, h2⟩ := List.mem_map.mp ‹_›
          exact lookup_none hv kv h1 (st_inj h2)
        · simp at this
      have f1 : es.toList.find? (·.key.isStr (st z)) = none := List.find?_eq_none.mpr fun e he => by rw [(nk e he).1]; simp
      have f2 : es.toList.any (·.refKey) = false := by
        rw [Bool.eq_false_iff]
        intro q2
        obtain ⟨e, he, hr⟩ := List.any_eq_true.mp q2
        rw [(nk e he).2] at hr; cases hr
      simp only [f1, f2, Bool.false_eq_true, if_false]
    · cases g3
theorem factsP (X : K.In h) (G : h.Ns mainGlobals mg) (c : He.SaysD p.fa defs K) (hd : p.Ok defs) (hx : p.exB0 K = true) (hdc : p.DcOk w K)
    {ns : List Int} {oa : Option Addr} (ho : ∀ a, oa = some a → ∀ H : Hp, SqL K H a (ns.map V.int)) (TB : ∀ t ∈ p.tabs K, LamX.TabB base mg t.1 t.2) : Facts P w K mg base (p.mx ns K oa) p.ck where
  fn := fun f a e => by
    simp only [Pg.mx, Option.map_eq_some_iff] at e
    obtain ⟨x, ex, rfl⟩ := e
    obtain ⟨fi, d, N, ps, e1, e2, D⟩ := hd.fn f x ex
    obtain ⟨kp, F⟩ := D.fnf c e2
    exact ⟨kp, fi, e1, F⟩
  nm := fun f x e => by
    refine ⟨He.ga K x, He.glo_ok X G (fact_in c ?_), by show (p.names[f]?).map (He.ga K) = _; rw [show p.names[f]? = some x from e]; rfl⟩
    refine fa0_in ?_
    unfold Pg.fa0
    exact List.mem_append_left _ (List.mem_append_left _ (List.mem_append_left _ (List.mem_map_of_mem (List.mem_of_getElem? e))))
  dc := dctOk X G c hdc
  con := fun g ys a e1 e2 => by
    have e1' : (p.cons.map (·.2))[g]? = some ys := e1
    rw [List.getElem?_map, Option.map_eq_some_iff] at e1'
    obtain ⟨q, eq, rfl⟩ := e1'
    have hg : g < p.cons.length := (List.getElem?_eq_some_iff.mp eq).1
    simp only [Pg.mx, if_pos hg, eq, Option.map_some, Option.some.injEq] at e2
    subst e2
    obtain ⟨_, vs, k1, k2, k3⟩ := consOk X G c hx q (List.mem_of_getElem? eq)
    exact ⟨vs, fun H as => ⟨k1 H, k2 _ as H rfl⟩, k3⟩
  scr := ⟨fun a e H => by
    have e' : (if (p.cons.map (·.2)).length < p.cons.length then (p.cons[(p.cons.map (·.2)).length]?).map (fun q => He.ga K q.1) else if (p.cons.map (·.2)).length = p.cons.length then oa else if (p.cons.map (·.2)).length = p.cons.length + 1 then p.dfl.map (fun q => He.dflAt q 0 K) else none) = some a := e
    rw [List.length_map, if_neg (Nat.lt_irrefl _), if_pos rfl] at e'
    exact ho a e' H, fun a e => by
    have e' : (if (p.cons.map (·.2)).length + 1 < p.cons.length then (p.cons[(p.cons.map (·.2)).length + 1]?).map (fun q => He.ga K q.1) else if (p.cons.map (·.2)).length + 1 = p.cons.length then oa else if (p.cons.map (·.2)).length + 1 = p.cons.length + 1 then p.dfl.map (fun q => He.dflAt q 0 K) else none) = some a := e
    rw [List.length_map, if_neg (by omega), if_neg (by omega), if_pos rfl] at e'
    obtain ⟨q, eq, rfl⟩ := Option.map_eq_some_iff.mp e'
    unfold Pg.exB0 at hx
    rw [Bool.and_eq_true, Bool.and_eq_true] at hx
    have h1 := hx.1.2
    rw [eq] at h1
    simp only [emptyB] at h1
    split at h1
    · rename_i t xs n sl el
      rw [Bool.and_eq_true, decide_eq_true_eq, decide_eq_true_eq] at h1
      obtain ⟨rfl, rfl⟩ := h1
      exact ⟨n, sl, el⟩
    · cases h1⟩
  glb := fun g x e => by
    have e' : (p.cons.map (·.1))[g]? = some x := e
    rw [List.getElem?_map, Option.map_eq_some_iff] at e'
    obtain ⟨q, eq, rfl⟩ := e'
    have hg : g < p.cons.length := (List.getElem?_eq_some_iff.mp eq).1
    exact ⟨He.ga K q.1, (consOk X G c hx q (List.mem_of_getElem? eq)).1, by simp only [Pg.mx, if_pos hg, eq, Option.map_some]⟩
  cls := fun cc ci e Ca eC => by
    have e' : (p.cls.map (·.ci))[cc]? = some ci := e
    rw [List.getElem?_map, Option.map_eq_some_iff] at e'
    obtain ⟨k, ek, rfl⟩ := e'
    have hk := List.mem_of_getElem? ek
    have hl : cc < (p.cls.map (·.nm)).length := by rw [List.length_map]; exact (List.getElem?_eq_some_iff.mp ek).1
    simp only [Pg.mx] at eC
    rw [List.getElem?_append_left hl, List.getElem?_map, ek] at eC
    cases eC
    refine ⟨He.cls_ok (fact_in c (fa_cls hk ?_)), fun f hf => He.noat_ok (fact_in c (fa_cls hk ?_)), fun m f em => ?_⟩
    · exact List.mem_append_left _ (List.mem_append_left _ (List.mem_cons_of_mem _ (List.mem_cons_self ..)))
    · exact List.mem_append_left _ (List.mem_append_left _ (List.mem_cons_of_mem _ (List.mem_cons_of_mem _ (List.mem_map_of_mem hf))))
    · have hm := lookup_mem' em
      obtain ⟨fi, d, N, ps, e1, e2, D⟩ := hd.mt cc k ek _ hm
      refine ⟨_, fi, He.meth_ok (fact_in c (fa_cls hk ?_)), e1, (D.fnf c e2).2⟩
      exact List.mem_append_left _ (List.mem_append_right _ (List.mem_map_of_mem (f := fun p => He.Fa.meth k.nm (Str.ofString p.1)) hm))
  mks := fun cc x h1 h2 => by
    obtain ⟨k, f, ek, ei⟩ := hd.nw cc h1
    have hk := List.mem_of_getElem? ek
    have hl : cc < (p.cls.map (·.nm)).length := by rw [List.length_map]; exact (List.getElem?_eq_some_iff.mp ek).1
    have h2' : (p.cls.map (·.nm) ++ p.exs.map (·.nm))[cc]? = some x := h2
    rw [List.getElem?_append_left hl, List.getElem?_map, ek] at h2'
    cases h2'
    obtain ⟨fi, d, N, ps, e1, e2, D⟩ := hd.ini cc k ek f ei
    refine ⟨k.ci, f, He.ga K k.nm, _, fi, ?_, ei, ?_, He.glo_ok X G (fact_in c (fa_cls hk ?_)), He.mkr_ok (fact_in c (fa_cls hk ?_)), e1, (D.fnf c e2).2⟩
    · show (p.cls.map (·.ci))[cc]? = _
      rw [List.getElem?_map, ek]; rfl
    · show ((p.cls.map (·.nm) ++ p.exs.map (·.nm))[cc]?).map (He.ga K) = _
      rw [List.getElem?_append_left hl, List.getElem?_map, ek]; rfl
    · exact List.mem_append_left _ (List.mem_append_left _ (List.mem_cons_self ..))
    · refine List.mem_append_right _ ?_
      rw [ei]; exact List.mem_cons_self ..
  mkd := fun cc x h1 h2 => by
    obtain ⟨k, f, fi, d, N, ps, ek, ei, ed, e1, e2, D, hd1, hp, hb⟩ := hd.nd cc h1
    have hk := List.mem_of_getElem? ek
    have hl : cc < (p.cls.map (·.nm)).length := by rw [List.length_map]; exact (List.getElem?_eq_some_iff.mp ek).1
    have h2' : (p.cls.map (·.nm) ++ p.exs.map (·.nm))[cc]? = some x := h2
    rw [List.getElem?_append_left hl, List.getElem?_map, ek] at h2'
    cases h2'
    refine ⟨k.ci, f, He.ga K k.nm, _, fi, _, ?_, ei, ?_, He.glo_ok X G (fact_in c (fa_cls hk ?_)), He.mkr_ok (fact_in c (fa_cls hk ?_)), ?_, e1, D.fnfD c e2 hd1 hp hb⟩
    · show (p.cls.map (·.ci))[cc]? = _
      rw [List.getElem?_map, ek]; rfl
    · show ((p.cls.map (·.nm) ++ p.exs.map (·.nm))[cc]?).map (He.ga K) = _
      rw [List.getElem?_append_left hl, List.getElem?_map, ek]; rfl
    · exact List.mem_append_left _ (List.mem_append_left _ (List.mem_cons_self ..))
    · refine List.mem_append_right _ ?_
      rw [ei]; exact List.mem_cons_self ..
    · show (if (p.cons.map (·.2)).length + 1 < p.cons.length then (p.cons[(p.cons.map (·.2)).length + 1]?).map (fun q => He.ga K q.1) else if (p.cons.map (·.2)).length + 1 = p.cons.length then oa else if (p.cons.map (·.2)).length + 1 = p.cons.length + 1 then p.dfl.map (fun q => He.dflAt q 0 K) else none) = _
      rw [List.length_map, if_neg (by omega), if_neg (by omega), if_pos rfl, ed]
      rfl
  own := fun cc F h1 Ca eC => by
    obtain ⟨k, f, ek, hm, hF, ef⟩ := hd.ow cc F h1
    have hk := List.mem_of_getElem? ek
    have hl : cc < (p.cls.map (·.nm)).length := by rw [List.length_map]; exact (List.getElem?_eq_some_iff.mp ek).1
    simp only [Pg.mx] at eC
    rw [List.getElem?_append_left hl, List.getElem?_map, ek] at eC
    cases eC
    obtain ⟨fi, d, N, ps, e1, e2, D⟩ := hd.mt cc k ek _ hm
    rw [ef] at e1
    cases e1
    refine ⟨He.cls_ok (fact_in c (fa_cls hk ?_)), He.noat_ok (fact_in c (fa_cls hk ?_)), _, He.meth_ok (fact_in c (fa_cls hk ?_)), (D.fnf c e2).2⟩
    · exact List.mem_append_left _ (List.mem_append_left _ (List.mem_cons_of_mem _ (List.mem_cons_self ..)))
    · exact List.mem_append_left _ (List.mem_append_left _ (List.mem_cons_of_mem _ (List.mem_cons_of_mem _ (List.mem_map_of_mem hF))))
    · exact List.mem_append_left _ (List.mem_append_right _ (List.mem_map_of_mem (f := fun p => He.Fa.meth k.nm (Str.ofString p.1)) hm))
  exs := fun cc x h1 h2 => by
    obtain ⟨h1, h1'⟩ := List.mem_filter.mp h1
    obtain ⟨i, k, rfl, hi, ek, rfl, ef⟩ := exs_at h1 h2
    have hk := List.mem_of_getElem? ek
    have hf : k.flds ≠ [] := by rw [← ef]; simpa using h1'
    obtain ⟨q1, q2, q3, q4, q5, _⟩ := exi_ok hx hk hf
    obtain ⟨d, N, ps, ed, D⟩ := hd.ex k hk hf
    obtain ⟨fd, F⟩ := c.def_ k.ini (d := d) ed
    have e1 : d.dvs K = [] := by unfold He.DefD.dvs; rw [D.dfl]; rfl
    have e2 : d.kws K = [] := by unfold He.DefD.kws; rw [D.kwd]; rfl
    rw [e1, e2, D.at_] at F
    refine ⟨He.ga K k.nm, _, fd, ps, ca_at ek, He.glo_ok X G (fact_in c ?_), q3, q4, q5, ?_, F.bindsN D.hb⟩
    · exact List.mem_append_left _ (List.mem_append_right _ (List.mem_map_of_mem (f := fun e : ExI => He.Fa.glo e.nm) hk))
    · show FnOk P w K mg base CX0 1 _ fd ps (spX _ (p.exf _))
      rw [ef]
      exact init_ok F D.S q3 (by cases h : k.flds with | nil => exact absurd h hf | cons _ _ => simp) D.l9 D.ck D.ln D.nn q2
  exm := by
    have both : ∀ cc kk Ca Ka, 0 < ((p.mx ns K oa).W.exf cc).length → kk ∈ p.ck.xc → (p.mx ns K oa).ca cc = some Ca → (p.mx ns K oa).ca kk = some Ka → PySem.W.exmOne K (.ref Ca) (.ref Ka) = some ((p.mx ns K oa).W.isa cc kk) ∧ PySem.W.kitOne K (.ref Ca) (.ref Ka) = some ((p.mx ns K oa).W.isa cc kk) := by
      intro cc kk Ca Ka h1 h2 g1 g2
      obtain ⟨i, e, rfl, hi, ee, ef⟩ := exf_at h1
      have h2' : kk ∈ p.xc := h2
      unfold Pg.xc at h2'
      obtain ⟨j, hj, rfl⟩ := List.mem_map.mp h2'
      rw [List.mem_range] at hj
      obtain ⟨k, ek⟩ : ∃ k, p.exs[j]? = some k := ⟨p.exs[j], by simp [hj]⟩
      rw [ca_at ee] at g1; rw [ca_at ek] at g2
      cases g1; cases g2
      unfold Pg.exB0 at hx
      rw [Bool.and_eq_true] at hx
      replace hx := hx.2
      simp only [Bool.and_eq_true] at hx
      have z1 := List.all_eq_true.mp hx.2 i (List.mem_range.mpr hi)
      rw [ee] at z1
      have hne : e.flds.isEmpty = false := by rw [ef]; cases q : p.exf (p.cls.length + i) with | nil => rw [show (p.mx ns K oa).W.exf = p.exf from rfl, q] at h1; simp at h1 | cons _ _ => rfl
      simp only [hne, Bool.false_or] at z1
      have z2 := List.all_eq_true.mp z1 j (List.mem_range.mpr hj)
      rw [ek] at z2
      exact of_decide_eq_true z2
    refine ⟨fun kk x h1 h2 => ?_, fun cc kk Ca Ka h1 h2 g1 g2 => (both cc kk Ca Ka h1 h2 g1 g2).1, fun cc Ca h1 g1 => ?_, fun cc kk Ca Ka h1 h2 g1 g2 => (both cc kk Ca Ka h1 h2 g1 g2).2, fun cc Ca h1 g1 => ?_⟩
    · obtain ⟨i, k, rfl, hi, ek, rfl, ef⟩ := exs_at h1 h2
      exact ⟨_, ca_at ek, He.glo_ok X G (fact_in c (List.mem_append_left _ (List.mem_append_right _ (List.mem_map_of_mem (f := fun e : ExI => He.Fa.glo e.nm) (List.mem_of_getElem? ek)))))⟩
    · obtain ⟨i, e, rfl, hi, ee, ef⟩ := exf_at h1
      rw [ca_at ee] at g1
      cases g1
      have hf : e.flds ≠ [] := fun q => by rw [ef] at q; rw [show (p.mx ns K oa).W.exf = p.exf from rfl, q] at h1; simp at h1
      obtain ⟨q1, q2, _⟩ := exi_ok hx (List.mem_of_getElem? ee) hf
      refine ⟨q1, fun f hff => q2 f ?_⟩
      rw [ef]; exact hff
    · obtain ⟨i, e, rfl, hi, ee, ef⟩ := exf_at h1
      rw [ca_at ee] at g1
      cases g1
      have hf : e.flds ≠ [] := fun q => by rw [ef] at q; rw [show (p.mx ns K oa).W.exf = p.exf from rfl, q] at h1; simp at h1
      obtain ⟨_, _, _, _, _, q6⟩ := exi_ok hx (List.mem_of_getElem? ee) hf
      exact q6
  vfn := fun v j x h => by
    obtain ⟨hx, fi, k, d, N, ps, i, e1, e2, D, hl⟩ := hd.vfn v j x h
    obtain ⟨kp, F⟩ := D.fnf c e2
    refine ⟨_, He.glo_ok X G (fact_in c ?_), kp, fi, i, e1, fun capN ps' el => ?_, F⟩
    · refine fa0_in ?_
      unfold Pg.fa0
      exact List.mem_append_left _ (List.mem_append_left _ (List.mem_append_left _ (List.mem_map_of_mem hx)))
    · have el' : (p.lamL j).map (fun q => (q.1, q.2.1)) = some (capN, ps') := el
      obtain ⟨q, e3, e4⟩ := Option.map_eq_some_iff.mp el'
      cases e4
      exact hl q e3
  vmt := fun v j cc m h => by
    obtain ⟨k, idx, fi, kd, d, N, ps, i, ek, hm, e1, e2, D, hl⟩ := hd.vmt v j cc m h
    have hk := List.mem_of_getElem? ek
    refine ⟨k.ci, by show (p.cls.map (·.ci))[cc]? = _; rw [List.getElem?_map, ek]; rfl, fun Ca eC => ?_⟩
    have hlc : cc < (p.cls.map (·.nm)).length := by rw [List.length_map]; exact (List.getElem?_eq_some_iff.mp ek).1
    simp only [Pg.mx] at eC
    rw [List.getElem?_append_left hlc, List.getElem?_map, ek] at eC
    cases eC
    obtain ⟨kp, F⟩ := D.fnf c e2
    refine ⟨_, He.meth_ok (fact_in c (fa_cls hk ?_)), fi, i, e1, fun capN ps' el => ?_, F⟩
    · exact List.mem_append_left _ (List.mem_append_right _ (List.mem_map_of_mem (f := fun p => He.Fa.meth k.nm (Str.ofString p.1)) hm))
    · have el' : (p.lamL j).map (fun q => (q.1, q.2.1)) = some (capN, ps') := el
      obtain ⟨q, e3, e4⟩ := Option.map_eq_some_iff.mp el'
      cases e4
      exact hl q e3
  lam := fun j capN ps el => by
    have el' : (p.lamL j).map (fun q => (q.1, q.2.1)) = some (capN, ps) := el
    obtain ⟨q, e3, e4⟩ := Option.map_eq_some_iff.mp el'
    cases e4
    refine ⟨q.2.2, hd.lam j q (lookup_memN e3), fun scope body hB => ?_⟩
    have hB' : (match p.lamL j with | some q => chkE (p.ck0.plain (q.1 ++ q.2.1)) q.2.2 scope body | none => false) = true := hB
    rw [e3] at hB'
    exact hB'
  tab := fun q ql h => by
    have hx' := hx
    unfold Pg.exB0 at hx'
    rw [Bool.and_eq_true] at hx'
    refine ⟨TB _ (List.mem_map.mpr ⟨(q, ql), h, rfl⟩), List.mem_map.mpr ⟨(q, ql), h, rfl⟩, fun t ht e => ?_⟩
    obtain ⟨z, hz, rfl⟩ := List.mem_map.mp ht
    have := nodupB_ok (f := fun q : (Str × Option Str) × Str => (He.cT K q.1).2) (by have q := hx'.1; rw [Bool.and_eq_true] at q; exact q.1) z hz (q, ql) h e
    rw [this]
  hot := rfl
  nlm := rfl
  nmk := rfl
  nlc := rfl
  nex := rfl
  nxd := rfl
  ncx := rfl
  gi := fun g x i e => He.int_ok X G (fact_in c (List.mem_append_left _ (List.mem_append_left _ (List.mem_append_right _ (List.mem_map_of_mem (f := fun q : Str × Int => He.Fa.int q.1 q.2) (List.mem_of_getElem? e))))))
  bl := fun x hx => He.free_ok X G (fact_in c (by
    refine fa0_in ?_
    unfold Pg.fa0
    exact List.mem_append_left _ (List.mem_append_left _ (List.mem_append_right _ (List.mem_map_of_mem hx)))))
  gs := fun g x s e => He.str_ok X G (fact_in c (by
    refine fa0_in ?_
    unfold Pg.fa0
    exact List.mem_append_right _ (List.mem_map_of_mem (f := fun q : Str × List Char => He.Fa.str q.1 (st q.2)) (List.mem_of_getElem? e))))
/-- the law's def: whatever the script's object is -/
def spL (p : Pg) (K : PySem.W.Frag) (L n f : Nat) : Sp := fun vs H Q E => ∃ (ns : List Int) (oa : Option Addr), (∀ a, oa = some a → ∀ H : Hp, SqL K H a (ns.map V.int)) ∧ spI (p.mx ns K oa) K (callF (p.wd ns) L n) 1 f vs H Q fun _ _ _ => False
theorem law_ok {n f : Nat} {fi : FI} {d : He.DefD} {x : Str} (X : K.In h) (G : h.Ns mainGlobals mg) (c : He.SaysD p.fa defs K) (hd : p.Ok defs) (hx : p.exB0 K = true) (hdc : p.DcOk w K)
    {N : List Str} (ef : p.fns[f]? = some fi) (ed : defs[f]? = some d) (D : DefOk p.ck d fi (x, none) N [("script" : Str)]) (h0 : d.dfl = []) :
    ∃ fd : FuncData, (∀ (s : Shared) (v : Value), BindsTo s fd ⟨[v], []⟩ [(("script" : Str), v)]) ∧ ∀ base : Heap, K.In base → base.Ns mainGlobals mg → (∀ t ∈ p.tabs K, LamX.TabB base mg t.1 t.2) → FnG P w K mg base L2.CX0 (2 * n + 1) (He.ga K x) fd [("script" : Str)] (spL p K L n f) := by
  obtain ⟨fd, F⟩ := c.def_ f (d := d) ed
  have hb : DefHb d [("script" : Str)] := by
    rcases D.bd with ⟨_, hb⟩ | ⟨h1, _⟩
    · exact hb
    · exact absurd h0 h1
  have e1 : d.dvs K = [] := by unfold He.DefD.dvs; rw [h0]; rfl
  have e2 : d.kws K = [] := by unfold He.DefD.kws; rw [D.kwd]; rfl
  rw [e1, e2, D.at_] at F
  refine ⟨fd, fun s v => FunD.bindsA F hb s [v] rfl, fun base _ _ TB => ?_⟩
  have go : ∀ (ns : List Int) (oa : Option Addr), (∀ a, oa = some a → ∀ H : Hp, SqL K H a (ns.map V.int)) → FnG P w K mg base L2.CX0 (2 * n + 1) (He.ga K x) fd [("script" : Str)] (fun vs H Q _ => spI (p.mx ns K oa) K (callF (p.wd ns) L n) 1 f vs H Q fun _ _ _ => False) := fun ns oa ho => by
    have Fx : Facts P w K mg base (p.mx ns K oa) p.ck := factsP X G c hd hx hdc ho TB
    have q := fnOk (L := L) Fx n f (He.ga K x) fi ef ⟨d.name, d.qual, d.params, d.body, d.scope, N, [("script" : Str)], fd, _, _, F, D.S, F.bindsN hb, D.lm, D.np, D.ns, fun h => ⟨(x, none), rfl, of_decide_eq_true h⟩, D.ck⟩
    rw [← D.np] at q
    exact FnG.cx0 q
  refine ⟨fun vs H Q E ⟨ns, oa, ho, q⟩ => (go ns oa ho).ln vs H Q E q, fun A outer s H args us vs Q E g hr e0 hb r ⟨ns, oa, ho, q⟩ => (go ns oa ho).go A outer s H args us vs Q E g hr e0 hb r q⟩
/-- the start: the script is known to the object, or it is an object of the module -/
theorem sp_start {n f : Nat} {H : Hp} {a : Addr} {ns : List Int} (hO : OnlyT ((p.tabs K).map (·.2)) H) (hH : ∀ b ∈ (p.tabs K).map (·.2), H b = some (.tbl #[])) (hS : SqL K H a (ns.map V.int))
    (hr : ∀ (d : D) (h : Hs), (d = .ob 0 ∧ h = [.scr ns]) ∨ (d = .con p.cons.length ∧ h = []) → ∃ h', callF (p.wd ns) L n f [d] h = .ok (.bl true) h') : spL p K L n f [.ref a] H (fun v _ => v = .bl true) fun _ _ _ => False := by
  have tbs : ∀ oa, LamX.Tabs ((p.mx ns K oa).g K).tb H := fun oa t ht => by
    obtain ⟨q, hq, rfl⟩ := List.mem_map.mp (show t ∈ p.tf.map _ from ht)
    exact LamX.TabS.nil (hH _ (List.mem_map.mpr ⟨He.cT K q.1, List.mem_map.mpr ⟨q, hq, rfl⟩, rfl⟩))
  rcases hS with hS | hK
  · obtain ⟨o, e⟩ : ∃ o, H a = some (.frz o (.lst (ns.map V.int))) := by
      rcases hS with e | e
      · rcases hO a with q | ⟨o, xs, q⟩ | ⟨_, q⟩
        · rw [e] at q; cases q
        · rw [e] at q; cases q
        · rw [e] at q; cases q
      · exact e
    obtain ⟨h', eh⟩ := hr (.ob 0) [.scr ns] (.inl ⟨rfl, rfl⟩)
    refine ⟨ns, none, (fun a q => by cases q), rfl, [.ob 0], [.scr ns], [a], ⟨⟨(fun _ _ q => by cases q), (fun _ _ _ q => by cases q)⟩, tbs _, rfl, (by simp), fun n mo b e1 e2 => ?_⟩, ?_, ?_⟩
    · cases n with
      | zero => simp at e1 e2; subst e1 e2; exact ⟨o, e⟩
      | succ n => simp at e1
    · simp only [Reps]
      exact ⟨_, _, rfl, by simp only [Rep]; exact ⟨a, rfl, rfl⟩, rfl⟩
    · rw [eh]
      intro v as' H' _ _ r
      simpa only [Rep] using r
  · obtain ⟨h', eh⟩ := hr (.con p.cons.length) [] (.inr ⟨rfl, rfl⟩)
    refine ⟨ns, some a, (fun b q H => by cases q; exact .inr hK), rfl, [.con p.cons.length], [], [], ⟨⟨(fun _ _ q => by cases q), (fun _ _ _ q => by cases q)⟩, tbs _, rfl, (by simp), (fun n mo b e1 e2 => by simp at e1)⟩, ?_, ?_⟩
    · simp only [Reps]
      refine ⟨_, _, rfl, ?_, rfl⟩
      simp only [Rep]
      refine ⟨a, rfl, ?_⟩
      show (if p.cons.length < p.cons.length then _ else if p.cons.length = p.cons.length then some a else _) = some a
      rw [if_neg (Nat.lt_irrefl _), if_pos rfl]
    · rw [eh]
      intro v as' H' _ _ r
      simpa only [Rep] using r
/-- a law from its facts -/
theorem facts {n f : Nat} {fi : FI} {d : He.DefD} (hd : p.Ok defs) {N : List Str} (ef : p.fns[f]? = some fi) (en : p.names[f]? = some ("law" : Str)) (ed : defs[f]? = some d) (Dk : DefOk p.ck d fi (("law" : Str), none) N [("script" : Str)]) (h0 : d.dfl = [])
    (hrun : ∀ (ns : List Int) (d : D) (h : Hs), ns.length ≤ 63 → (d = .ob 0 ∧ h = [.scr ns]) ∨ (d = .con p.cons.length ∧ h = []) → ∃ h', callF (p.wd ns) L n f [d] h = .ok (.bl true) h')
    {fa : Addr} (X : K.In h) (G : h.Ns mainGlobals mg) (hfa : mg ("law" : Str) = some (.ref fa)) (c : He.SaysD p.fa defs K) (hx : p.exB0 K = true) (hdc : p.DcOk w K) :
    ∃ (fd : FuncData) (sp : Sp), (∀ (s : Shared) (v : Value), BindsTo s fd ⟨[v], []⟩ [(("script" : Str), v)]) ∧
      (∀ (H : Hp) (a : Addr) (ns : List Int), ns.length ≤ 63 → OnlyT ((p.tabs K).map (·.2)) H → (∀ b ∈ (p.tabs K).map (·.2), H b = some (.tbl #[])) → SqL K H a (ns.map V.int) → sp [.ref a] H (fun v _ => v = .bl true) fun _ _ _ => False) ∧
      ∀ base : Heap, K.In base → base.Ns mainGlobals mg → (∀ t ∈ p.tabs K, LamX.TabB base mg t.1 t.2) → FnG P w K mg base L2.CX0 (2 * n + 1) fa fd [("script" : Str)] sp := by
  have e := hfa.symm.trans (He.glo_ok X G (fact_in c (by
    refine fa0_in ?_
    unfold Pg.fa0
    exact List.mem_append_left _ (List.mem_append_left _ (List.mem_append_left _ (List.mem_map_of_mem (List.mem_of_getElem? en)))))))
  cases e
  obtain ⟨fd, hb, hF⟩ := law_ok (L := L) (n := n) (f := f) (P := P) (w := w) X G c hd hx hdc ef ed Dk h0
  exact ⟨fd, _, hb, fun H a ns hl hO hH hS => sp_start hO hH hS fun d h q => hrun ns d h hl q, hF⟩
end
end Rf
end

section
namespace Rf
open PySem PySem.Spec PyProof.Rows L2

/-! ## running terms -/
def getV (o : Option (Option D)) (h : Hs) : R D := match o with | some (some d) => .ok d h | _ => .no
def getF (o : Option (Option D)) (k : Nat → R D) : R D := match o with | some (some (.fn f)) => k f | _ => .no
def getS (o : Option (Option D)) (k : D → RS) : RS := match o with | some (some d) => k d | _ => .no
def ixO (o : Option MO) (k : D) (h : Hs) : R D := match o, k with
  | some (.lst xs), .int i => ofO (atI xs i) h
  | some (.scr xs), .int i => ofO ((atI xs i).map D.int) h
  | some (.dic _ t kvs), k => if okK t kvs k then ofO (kvGet kvs k) h else .no
  | _, _ => .no
def slO (o : Option MO) (lo hi : Option Int) (h : Hs) : R D := match o with
  | some (.lst xs) => .ok (.ob h.length) (h ++ [.lst (cutD xs lo hi)])
  | some (.scr xs) => .ok (.ob h.length) (h ++ [.lst ((cutD xs lo hi).map D.int)])
  | _ => .no
def putO (n : Nat) (o : Option MO) (i v : D) (h : Hs) : Option Hs := match o, i with
  | some (.lst xs), .int k => (ixN xs.length k).map fun j => h.set n (.lst (xs.set j v))
  | some (.dic false t kvs), k => if okK t kvs k && decide (kvs.length < sizeLine) then some (h.set n (.dic false t (kvPut kvs k v))) else none
  | _, _ => none
def lenO (o : Option MO) (h : Hs) : R D := match o with
  | some (.lst s) => .ok (.int s.length) h
  | some (.scr s) => .ok (.int s.length) h
  | some (.dic _ false s) => .ok (.int s.length) h
  | some (.dic false true s) => .ok (.int s.length) h
  | _ => .no
def tupO (o : Option MO) (h : Hs) : R D := match o with
  | some (.lst s) => .ok (.tup s) h
  | _ => .no
def lstO (o : Option MO) (h : Hs) : R D := match o with
  | some (.lst s) => .ok (.ob h.length) (h ++ [.lst s])
  | some (.scr s) => .ok (.ob h.length) (h ++ [.lst (s.map D.int)])
  | some (.dic false false kvs) => .ok (.ob h.length) (h ++ [.lst (kvs.map (·.1))])
  | _ => .no
def appO (n : Nat) (o : Option MO) (y : D) (h : Hs) : R D := match o with
  | some (.lst s) => if s.length < sizeLine then .ok .non (h.set n (.lst (s ++ [y]))) else .no
  | _ => .no
def inO (o : Option MO) (x : D) : Option Bool := match o with
  | some (.lst ys) => if flat x && ys.all flat then some (inL x ys) else none
  | some (.dic _ t kvs) => if okK t kvs x then some (kvGet kvs x).isSome else none
  | _ => none
def itO (n : Nat) (o : Option MO) (h : Hs) : Option (List D × Gd × Hs) := match o with
  | some (.lst s) => some (s, .keep n (.lst s), h)
  | some (.scr s) => some (s.map D.int, .keep n (.scr s), h)
  | some (.dic true t kvs) => some (kvs.map (·.1), .keep n (.dic true t kvs), h)
  | some (.dic false t kvs) => some (kvs.map (·.1), .lock n t kvs, h.set n (.dic true t kvs))
  | _ => none
section
variable {W : Wd} {L : Nat} {cf : CF} {cx : CXI} {cs : List (List D)} {n : Nat} {h : Hs} {σ : Sg}
theorem r_var {i} : evalE W cf cx (.var i) σ h = getV σ[i]? h := by
  simp only [evalE, getV] <;> (rcases σ[i]? with _ | _ | d <;> rfl)
@[simp] theorem getV_s (d : D) : getV (some (some d)) h = .ok d h := rfl
theorem r_cav {i es} : evalE W cf none (.cav i es) σ h = getF σ[i]? fun f => (evalEs W cf none es σ h).bind fun xs h => cf f xs h := by
  simp only [evalE, getF] <;> (rcases σ[i]? with _ | _ | d <;> first | rfl | (cases d <;> rfl))
@[simp] theorem getF_s (f : Nat) (k) : getF (some (some (.fn f))) k = k f := rfl
theorem r_aug {i o e} : evalS W L cf none (.aug i o e) σ h = getS σ[i]? fun x => (evalE W cf none e σ h).stm σ fun y h => (augD o x y h).stm σ fun z h => .ok (.nx (σ.set i (some z))) h := by
  simp only [evalS, getS] <;> (rcases σ[i]? with _ | _ | d <;> rfl)
@[simp] theorem getS_s (d : D) (k) : getS (some (some d)) k = k d := rfl
theorem r_ix_ob {k} : ixD cs (.ob n) k h = ixO h[n]? k h := by
  cases e : h[n]? with
  | none => cases k <;> simp only [ixD, ixO, e]
  | some mo => cases mo <;> cases k <;> simp only [ixD, ixO, e]
@[simp] theorem ixO_l (xs i) : ixO (some (.lst xs)) (.int i) h = ofO (atI xs i) h := rfl
@[simp] theorem ixO_s (xs i) : ixO (some (.scr xs)) (.int i) h = ofO ((atI xs i).map D.int) h := rfl
@[simp] theorem ixO_d (lk t kvs k) : ixO (some (.dic lk t kvs)) k h = if okK t kvs k then ofO (kvGet kvs k) h else .no := by cases k <;> rfl
@[simp] theorem r_ix_tup (xs i) : ixD cs (.tup xs) (.int i) h = ofO (atI xs i) h := rfl
theorem r_sl_ob {a b} : slD (.ob n) a b h = slO h[n]? a b h := by
  cases e : h[n]? with
  | none => simp only [slD, slO, e]
  | some mo => cases mo <;> simp only [slD, slO, e]
@[simp] theorem slO_l (xs a b) : slO (some (.lst xs)) a b h = .ok (.ob h.length) (h ++ [.lst (cutD xs a b)]) := rfl
@[simp] theorem r_sl_tup (xs a b) : slD (.tup xs) a b h = .ok (.tup (cutD xs a b)) h := rfl
theorem r_put_ob {i v} : putD (.ob n) i v h = putO n h[n]? i v h := by
  cases e : h[n]? with
  | none => cases i <;> simp only [putD, putO, e]
  | some mo => cases mo with
    | dic lk t kvs => cases lk <;> cases i <;> simp only [putD, putO, e]
    | _ => cases i <;> simp only [putD, putO, e]
@[simp] theorem putO_l (xs k v) : putO n (some (.lst xs)) (.int k) v h = (ixN xs.length k).map fun j => h.set n (.lst (xs.set j v)) := rfl
@[simp] theorem putO_d (t kvs k v) : putO n (some (.dic false t kvs)) k v h = if okK t kvs k && decide (kvs.length < sizeLine) then some (h.set n (.dic false t (kvPut kvs k v))) else none := by cases k <;> rfl
@[simp] theorem r_len_tup (s) : bltC W .len [.tup s] h = .ok (.int s.length) h := rfl
@[simp] theorem r_len_str (s) : bltC W .len [.str s] h = if s.length ≤ sizeLine then .ok (.int s.length) h else .no := rfl
@[simp] theorem r_len_con : bltC W .len [.con W.cons.length] h = .ok (.int W.scr.length) h := by
  show (if W.cons.length = W.cons.length then _ else _) = _
  rw [if_pos rfl]
theorem r_ix_con (i : Int) : ixD W.cs2 (.con W.cons.length) (.int i) h = ofO ((L2.atI W.scr i).map D.int) h := by
  have e : W.cs2[W.cons.length]? = some (W.scr.map D.int) := by
    unfold Wd.cs2
    rw [List.getElem?_append_right (Nat.le_refl _)]
    simp
  simp only [ixD, e]
  congr 1
  unfold L2.atI
  rw [List.length_map]
  cases ixN W.scr.length i with
  | none => rfl
  | some j => simp
theorem q_sorted : bltC W .sorted [.ob n] h = match h[n]? with | some (.lst s) => if srtOk s then .ok (.ob h.length) (h ++ [.lst (srtD s)]) else .no | some (.dic _ true kvs) => if srtOk (kvs.map (·.1)) then .ok (.ob h.length) (h ++ [.lst (srtD (kvs.map (·.1)))]) else .no | _ => .no := rfl
theorem r_sorted {s : List D} (e : h[n]? = some (.lst s)) (ok : srtOk s = true) : bltC W .sorted [.ob n] h = .ok (.ob h.length) (h ++ [.lst (srtD s)]) := by
  rw [q_sorted, e]
  simp only [ok, if_true]
theorem r_sortedT {lk : Bool} {kvs : List (D × D)} (e : h[n]? = some (.dic lk true kvs)) (ok : srtOk (kvs.map (·.1)) = true) : bltC W .sorted [.ob n] h = .ok (.ob h.length) (h ++ [.lst (srtD (kvs.map (·.1)))]) := by
  rw [q_sorted, e]
  simp only [ok, if_true]
theorem r_len_ob : bltC W .len [.ob n] h = lenO h[n]? h := by
  have q : bltC W .len [.ob n] h = bltD .len [.ob n] h := rfl
  rw [q]
  cases e : h[n]? with
  | none => simp only [bltD, lenO, e]
  | some mo => cases mo with
    | dic lk t kvs => cases lk <;> cases t <;> simp only [bltD, lenO, e]
    | _ => simp only [bltD, lenO, e]
@[simp] theorem lenO_l (s) : lenO (some (.lst s)) h = .ok (.int s.length) h := rfl
@[simp] theorem lenO_s (s) : lenO (some (.scr s)) h = .ok (.int s.length) h := rfl
@[simp] theorem lenO_d (lk s) : lenO (some (.dic lk false s)) h = .ok (.int s.length) h := rfl
@[simp] theorem r_abs (i) : bltC W .abs [.int i] h = .ok (.int (if i < 0 then -i else i)) h := rfl
@[simp] theorem r_int (i) : bltC W .int [.int i] h = .ok (.int i) h := rfl
@[simp] theorem r_intb (b) : bltC W .int [.bl b] h = .ok (.int (if b then 1 else 0)) h := rfl
@[simp] theorem r_min (i j) : bltC W .min2 [.int i, .int j] h = .ok (.int (if j < i then j else i)) h := rfl
@[simp] theorem r_max (i j) : bltC W .max2 [.int i, .int j] h = .ok (.int (if j > i then j else i)) h := rfl
@[simp] theorem r_tup_tup (s) : bltC W .tuple [.tup s] h = .ok (.tup s) h := rfl
theorem r_tup_ob : bltC W .tuple [.ob n] h = tupO h[n]? h := by
  have q : bltC W .tuple [.ob n] h = bltD .tuple [.ob n] h := rfl
  rw [q]
  cases e : h[n]? with
  | none => simp only [bltD, tupO, e]
  | some mo => cases mo with
    | dic lk t kvs => cases lk <;> cases t <;> simp only [bltD, tupO, e]
    | _ => simp only [bltD, tupO, e]
@[simp] theorem tupO_l (s) : tupO (some (.lst s)) h = .ok (.tup s) h := rfl
@[simp] theorem r_lst_tup (s) : bltC W .list [.tup s] h = .ok (.ob h.length) (h ++ [.lst s]) := rfl
theorem r_lst_ob : bltC W .list [.ob n] h = lstO h[n]? h := by
  have q : bltC W .list [.ob n] h = bltD .list [.ob n] h := rfl
  rw [q]
  cases e : h[n]? with
  | none => simp only [bltD, lstO, e]
  | some mo => cases mo with
    | dic lk t kvs => cases lk <;> cases t <;> simp only [bltD, lstO, e]
    | _ => simp only [bltD, lstO, e]
@[simp] theorem lstO_l (s) : lstO (some (.lst s)) h = .ok (.ob h.length) (h ++ [.lst s]) := rfl
@[simp] theorem lstO_s (s) : lstO (some (.scr s)) h = .ok (.ob h.length) (h ++ [.lst (s.map D.int)]) := rfl
@[simp] theorem lstO_d (s) : lstO (some (.dic false false s)) h = .ok (.ob h.length) (h ++ [.lst (s.map (·.1))]) := rfl
theorem r_lst_con (g) : bltC W .list [.con g] h = if g = W.cons.length then .ok (.ob h.length) (h ++ [.lst (W.scr.map D.int)]) else match W.cons[g]? with
      | some ys => .ok (.ob h.length) (h ++ [.lst ys])
      | none => .no := rfl
@[simp] theorem r_isTup_tup (s) : bltC W .isTup [.tup s] h = .ok (.bl true) h := rfl
@[simp] theorem r_add (i j) : opD .add (.int i) (.int j) h = .ok (.int (i + j)) h := rfl
@[simp] theorem r_addb (a b) : opD .add (.bl a) (.bl b) h = .ok (.int ((if a then 1 else 0) + (if b then 1 else 0))) h := rfl
@[simp] theorem r_sub (i j) : opD .sub (.int i) (.int j) h = .ok (.int (i - j)) h := rfl
@[simp] theorem r_mul (i j) : opD .mul (.int i) (.int j) h = if (-(2 ^ 64) < i ∧ i < 2 ^ 64) ∨ (-(2 ^ 64) < j ∧ j < 2 ^ 64) then .ok (.int (i * j)) h else .no := rfl
@[simp] theorem r_fdiv (i j) : opD .fdiv (.int i) (.int j) h = if j ≠ 0 ∧ j.natAbs < 1073741824 then .ok (.int (i.fdiv j)) h else .no := rfl
@[simp] theorem r_mod (i j) : opD .mod (.int i) (.int j) h = if j ≠ 0 then .ok (.int (i.fmod j)) h else .no := rfl
@[simp] theorem r_addt (s t) : opD .add (.tup s) (.tup t) h = if s.length + t.length ≤ sizeLine then .ok (.tup (s ++ t)) h else .no := rfl
@[simp] theorem r_adds (s t) : opD .add (.str s) (.str t) h = if s.length + t.length ≤ sizeLine then .ok (.str (s ++ t)) h else .no := rfl
def catO (o o' : Option MO) (h : Hs) : R D := match o, o' with
  | some (.lst s), some (.lst t) => if s.length + t.length ≤ sizeLine then .ok (.ob h.length) (h ++ [.lst (s ++ t)]) else .no
  | _, _ => .no
theorem r_addl (n m) : opD .add (.ob n) (.ob m) h = catO h[n]? h[m]? h := by
  cases e : h[n]? with
  | none => simp only [opD, catO, e]
  | some mo => cases e2 : h[m]? with
    | none => cases mo <;> simp only [opD, catO, e, e2]
    | some mo2 => cases mo <;> cases mo2 <;> simp only [opD, catO, e, e2]
@[simp] theorem catO_l (s t) : catO (some (.lst s)) (some (.lst t)) h = if s.length + t.length ≤ sizeLine then .ok (.ob h.length) (h ++ [.lst (s ++ t)]) else .no := rfl
@[simp] theorem r_lt (i j) : cmpA cs .lt (.int i) (.int j) h = .ok (.bl (decide (i < j))) h := rfl
@[simp] theorem r_le (i j) : cmpA cs .le (.int i) (.int j) h = .ok (.bl (decide (i ≤ j))) h := rfl
@[simp] theorem r_gt (i j) : cmpA cs .gt (.int i) (.int j) h = .ok (.bl (decide (j < i))) h := rfl
@[simp] theorem r_ge (i j) : cmpA cs .ge (.int i) (.int j) h = .ok (.bl (decide (j ≤ i))) h := rfl
theorem eqD_flat {x y : D} (hx : flat x = true) (hy : flat y = true) : eqD h x y = some (eqv x y) := by
  unfold eqD
  split
  · simp [flat, pur] at hx
  · rw [hx, hy]; rfl
theorem dicB_flat {x y : D} (hx : flat x = true) : dicB x y h = none := by
  unfold dicB
  split
  · simp [flat, pur] at hx
  · rfl
theorem r_eq {x y : D} (hx : flat x = true) (hy : flat y = true) : cmpA cs .eq x y h = .ok (.bl (eqv x y)) h := by
  simp only [cmpA, dicB_flat hx, cmpD, eqD_flat hx hy]
theorem r_ne {x y : D} (hx : flat x = true) (hy : flat y = true) : cmpA cs .ne x y h = .ok (.bl (!eqv x y)) h := by
  simp only [cmpA, dicB_flat hx, cmpD, eqD_flat hx hy]
theorem r_ned {n m : Nat} {lk lk' : Bool} {ks ls : List (D × D)} (e1 : h[n]? = some (.dic lk false ks)) (e2 : h[m]? = some (.dic lk' false ls)) : cmpA cs .ne (.ob n) (.ob m) h = (ofO (eqKV ks ls) h).bind fun b h => .ok (.bl (!b)) h := by
  have q : dicB (.ob n) (.ob m) h = some (ks, ls) := by simp only [dicB, e1, e2]
  simp only [cmpA, q]
theorem r_dict {n : Nat} {lk : Bool} {kvs : List (D × D)} (e1 : h[n]? = some (.dic lk false kvs)) : bltC W .dict [.ob n] h = .ok (.ob h.length) (h ++ [.dic false false kvs]) := by
  have q : bltC W .dict [.ob n] h = bltD .dict [.ob n] h := rfl
  rw [q]
  simp only [bltD, e1]
@[simp] theorem r_eqi (i j) : cmpA cs .eq (.int i) (.int j) h = .ok (.bl (i == j)) h := r_eq rfl rfl
@[simp] theorem r_eqs (i j) : cmpA cs .eq (.str i) (.str j) h = .ok (.bl (i == j)) h := r_eq rfl rfl
@[simp] theorem r_nes (i j) : cmpA cs .ne (.str i) (.str j) h = .ok (.bl (!(i == j))) h := r_ne rfl rfl
theorem r_nin_ob {x} : cmpA cs .nin x (.ob n) h = (ofO (inO h[n]? x) h).bind fun b h => .ok (.bl (!b)) h := by
  have q : inD cs x (.ob n) h = inO h[n]? x := by
    cases e : h[n]? with
    | none => simp only [inD, inO, e]
    | some mo => cases mo <;> simp only [inD, inO, e]
  simp only [cmpA, q]
theorem r_in_ob {x} : cmpA cs .in_ x (.ob n) h = (ofO (inO h[n]? x) h).bind fun b h => .ok (.bl b) h := by
  have q : inD cs x (.ob n) h = inO h[n]? x := by
    cases e : h[n]? with
    | none => simp only [inD, inO, e]
    | some mo => cases mo <;> simp only [inD, inO, e]
  simp only [cmpA, q]
@[simp] theorem inO_l (x ys) : inO (some (.lst ys)) x = if flat x && ys.all flat then some (inL x ys) else none := rfl
@[simp] theorem inO_d (lk t kvs x) : inO (some (.dic lk t kvs)) x = if okK t kvs x then some (kvGet kvs x).isSome else none := rfl
@[simp] theorem r_tbl (b) : truthR (.bl b) h = .ok b h := rfl
@[simp] theorem r_tint (i) : truthR (.int i) h = .ok (i != 0) h := rfl
theorem r_met_lst {o m es x s h1} (eo : evalE W cf none o σ h = .ok (.ob x) h1) (e : h1[x]? = some (.lst s)) (hm : m = "append") : evalE W cf none (.met o m es) σ h = (evalEs W cf none es σ h1).bind fun xs h => methD .append (.ob x) xs h := by
  subst hm
  simp [evalE, eo, isIns, e, mtOf]
theorem r_app {n y} : methD .append (.ob n) [y] h = appO n h[n]? y h := by
  cases e : h[n]? with
  | none => simp only [methD, appO, e]
  | some mo => cases mo <;> simp only [methD, appO, e]
@[simp] theorem appO_l (s y) : appO n (some (.lst s)) y h = if s.length < sizeLine then .ok .non (h.set n (.lst (s ++ [y]))) else .no := rfl
theorem r_it_ob : itemsI cs .seq [.ob n] h = itO n h[n]? h := by
  cases e : h[n]? with
  | none => simp only [itemsI, itO, e]
  | some mo => cases mo with
    | dic lk t kvs => cases lk <;> cases t <;> simp only [itemsI, itO, e]
    | _ => simp only [itemsI, itO, e]
@[simp] theorem r_it_tup (s) : itemsI cs .seq [.tup s] h = some (s, .none, h) := rfl
@[simp] theorem itO_l (s) : itO n (some (.lst s)) h = some (s, .keep n (.lst s), h) := rfl
@[simp] theorem itO_d (kvs) : itO n (some (.dic false false kvs)) h = some (kvs.map (·.1), .lock n false kvs, h.set n (.dic true false kvs)) := rfl
@[simp] theorem itO_dt (kvs) : itO n (some (.dic false true kvs)) h = some (kvs.map (·.1), .lock n true kvs, h.set n (.dic true true kvs)) := rfl
@[simp] theorem lenO_dt (s) : lenO (some (.dic false true s)) h = .ok (.int s.length) h := rfl
@[simp] theorem r_strb (b) : bltC W .str [.bl b] h = .ok (.str (if b then ['T', 'r', 'u', 'e'] else ['F', 'a', 'l', 's', 'e'])) h := rfl
theorem r_rng1 (j) : itemsI cs .rng1 [.int j] h = if -(2 ^ 62) ≤ j ∧ j < 2 ^ 62 then some ((List.range j.toNat).map fun (i : Nat) => D.int (0 + (i : Int)), .none, h) else none := rfl
theorem rng_small {j : Int} (h0 : 0 ≤ j) (h1 : j ≤ 1000000) : itemsI cs .rng1 [.int j] h = some ((List.range j.toNat).map fun (i : Nat) => D.int (i : Int), .none, h) := by
  rw [r_rng1, if_pos ⟨by omega, by omega⟩]
  simp only [Int.zero_add]
@[simp] theorem bindT_nm (i d) : bindT (.nm i) d h σ = some (σ.set i (some d)) := rfl
theorem forI_nil {g turn} (hs : same g h) : forI g turn [] σ h = .ok (.nx σ) (endG g h) := by simp [forI, hs]
theorem forI_nx {g turn d ds σ' h'} (hs : same g h) (e : turn d σ h = .ok (.nx σ') h') : forI g turn (d :: ds) σ h = forI g turn ds σ' h' := by simp [forI, hs, e]
theorem lcI_nil {g turn acc} (hs : same g h) : lcI g turn [] acc h = .ok acc (endG g h) := by simp [lcI, hs]
theorem lcI_some {g turn d ds acc x h'} (hs : same g h) (e : turn d h = .ok (some x) h') (hl : acc.length < sizeLine) : lcI g turn (d :: ds) acc h = lcI g turn ds (acc ++ [x]) h' := by simp [lcI, hs, e, hl]
theorem lcI_skip {g turn d ds acc h'} (hs : same g h) (e : turn d h = .ok none h') : lcI g turn (d :: ds) acc h = lcI g turn ds acc h' := by simp [lcI, hs, e]
/-- a loop's turn -/
noncomputable def fT (W : Wd) (L : Nat) (cf : CF) (tg : Tg) (b : List S) : D → Sg → Hs → RS := fun d σ h => match bindT tg d h σ with | some σ => evalB W L cf none b σ h | none => .no
theorem fT_some {tg b d σ1} (e : bindT tg d h σ = some σ1) : fT W L cf tg b d σ h = evalB W L cf none b σ1 h := by unfold fT; rw [e]
theorem r_for {tg k its b} : evalS W L cf none (.for_ tg k its b) σ h = (evalEs W cf none its σ h).stm σ fun xs h => (ofO (itemsI W.cons k xs h) h).stm σ fun ig h =>
    forI ig.2.1 (fT W L cf tg b) ig.1 σ ig.2.2 := by
  simp only [evalS] <;> rfl
/-- a comprehension's turn -/
noncomputable def lT (W : Wd) (cf : CF) (own : List Nat) (tg : Tg) (cd : List E) (el : E) (σ : Sg) : D → Hs → R (Option D) := lcTurn (fun d h => bindT tg d h (wipeI σ own)) (fun σ1 h => (evalEs W cf none cd σ1 h).bind cdB) (fun σ1 h => evalE W cf none el σ1 h)
theorem r_lc {own tg k its cd el} : evalE W cf none (.lc own tg k its cd el) σ h = (evalEs W cf none its σ h).bind fun xs h => (ofO (itemsI W.cons k xs h) h).bind fun ig h =>
    (lcI ig.2.1 (lT W cf own tg cd el σ) ig.1 [] ig.2.2).bind lcEnd := by simp only [evalE] <;> rfl
theorem lT_nil {own tg el d σ1} (e : bindT tg d h (wipeI σ own) = some σ1) : lT W cf own tg [] el σ d h = ((evalE W cf none el σ1 h).bind fun x h => .ok (some x) h).shut := by
  simp [lT, lcTurn, e, evalEs, cdB]
theorem q_set {i e} : evalS W L cf cx (.set i e) σ h = (evalE W cf cx e σ h).stm σ fun x h => .ok (.nx (σ.set i (some x))) h := by simp only [evalS]
theorem q_put {o i e} : evalS W L cf none (.put o i e) σ h = (evalE W cf none e σ h).stm σ fun v h => (evalE W cf none o σ h).stm σ fun x h => (evalE W cf none i σ h).stm σ fun y h => match putD x y v h with
    | some h => .ok (.nx σ) h
    | none => .no := by simp only [evalS] <;> rfl
theorem q_expr {e} : evalS W L cf cx (.expr e) σ h = (evalE W cf cx e σ h).stm σ fun _ h => .ok (.nx σ) h := by simp only [evalS]
theorem q_ret {e} : evalS W L cf cx (.ret e) σ h = (evalE W cf cx e σ h).stm σ fun x h => .ok (.rt x) h := by simp only [evalS]
theorem q_retN : evalS W L cf cx .retN σ h = .ok (.rt .non) h := by simp only [evalS]
theorem q_ife {c a b} : evalS W L cf cx (.ife c a b) σ h = (evalE W cf cx c σ h).stm σ fun x h => (truthR x h).stm σ fun t h => if t then evalB W L cf cx a σ h else evalB W L cf cx b σ h := by simp only [evalS]
theorem q_cons {s r} : evalB W L cf cx (s :: r) σ h = (evalS W L cf cx s σ h).then fun σ h => evalB W L cf cx r σ h := by simp only [evalB]
theorem q_nil : evalB W L cf cx [] σ h = .ok (.nx σ) h := by simp only [evalB]
theorem q_cst {d} : evalE W cf cx (.cst d) σ h = .ok d h := by simp only [evalE]
theorem q_bin {o a b} : evalE W cf cx (.bin o a b) σ h = (evalE W cf cx a σ h).bind fun x h => (evalE W cf cx b σ h).bind fun y h => opD o x y h := by simp only [evalE]
theorem q_neg {a} : evalE W cf cx (.neg a) σ h = (evalE W cf cx a σ h).bind fun x h => match x with | .int i => .ok (.int (-i)) h | _ => .no := by simp only [evalE] <;> rfl
theorem q_cmp {o a b} : evalE W cf cx (.cmp o a b) σ h = (evalE W cf cx a σ h).bind fun x h => (evalE W cf cx b σ h).bind fun y h => cmpA W.cons o x y h := by simp only [evalE]
theorem q_and {a b} : evalE W cf cx (.and a b) σ h = (evalE W cf cx a σ h).bind fun x h => (truthR x h).bind fun t h => if t then evalE W cf cx b σ h else .ok x h := by simp only [evalE]
theorem q_or {a b} : evalE W cf cx (.or a b) σ h = (evalE W cf cx a σ h).bind fun x h => (truthR x h).bind fun t h => if t then .ok x h else evalE W cf cx b σ h := by simp only [evalE]
theorem q_not {a} : evalE W cf cx (.not a) σ h = (evalE W cf cx a σ h).bind fun x h => (truthR x h).bind fun t h => .ok (.bl (!t)) h := by simp only [evalE]
theorem q_eife {c a b} : evalE W cf cx (.ife c a b) σ h = (evalE W cf cx c σ h).bind fun x h => (truthR x h).bind fun t h => if t then evalE W cf cx a σ h else evalE W cf cx b σ h := by simp only [evalE]
theorem q_tup {es} : evalE W cf cx (.tup es) σ h = (evalEs W cf cx es σ h).bind fun xs h => if xs.length ≤ sizeLine then .ok (.tup xs) h else .no := by simp only [evalE]
theorem q_lst {es} : evalE W cf cx (.lst es) σ h = (evalEs W cf cx es σ h).bind fun xs h => if xs.length ≤ sizeLine then .ok (.ob h.length) (h ++ [.lst xs]) else .no := by simp only [evalE]
theorem q_dic {t} : evalE W cf cx (.dic t [] []) σ h = .ok (.ob h.length) (h ++ [.dic false t []]) := by simp [evalE, strK]
theorem q_dicK {kk : List (List Char)} {ks vs : List E} (e : strK ks = some kk) (h0 : kk ≠ []) (h15 : kk.length ≤ 15) : evalE W cf cx (.dic false ks vs) σ h = (evalEs W cf cx vs σ (h ++ [.dic false false []])).bind fun ds h1 => dicE h.length kk ds h1 := by
  have c : ¬ 15 < kk.length := by omega
  cases kk with
  | nil => exact absurd rfl h0
  | cons s kk => simp only [evalE, e, c, decide_false, Bool.or_self, Bool.false_eq_true, if_false]
theorem q_ix {a i} : evalE W cf cx (.ix a i) σ h = (evalE W cf cx a σ h).bind fun x h => (evalE W cf cx i σ h).bind fun y h => ixD W.cs2 x y h := by simp only [evalE]
theorem q_slc {a lo hi} : evalE W cf cx (.slc a lo hi) σ h = (evalE W cf cx a σ h).bind fun x h => (evalEs W cf cx lo σ h).bind fun l h => (ofO (optI l) h).bind fun l h => (evalEs W cf cx hi σ h).bind fun u h => (ofO (optI u) h).bind fun u h => slD x l u h := by simp only [evalE]
theorem q_cal {f es} : evalE W cf cx (.cal f es) σ h = (evalEs W cf cx es σ h).bind fun xs h => cf f xs h := by simp only [evalE]
theorem q_blt {b es} : evalE W cf cx (.blt b es) σ h = (evalEs W cf cx es σ h).bind fun xs h => bltC W b xs h := by simp only [evalE]
theorem q_enil : evalEs W cf cx [] σ h = .ok [] h := by simp only [evalEs]
theorem q_econs {e es} : evalEs W cf cx (e :: es) σ h = (evalE W cf cx e σ h).bind fun x h => (evalEs W cf cx es σ h).bind fun xs h => .ok (x :: xs) h := by simp only [evalEs]
/-- a method of a value that is no instance -/
noncomputable def metK (W : Wd) (cf : CF) (m : String) (es : List E) (σ : Sg) (x : D) (h : Hs) : R D := match isIns x h with
    | some (c, fs) => match (W.cls[c]?).bind fun ci => ci.meths.lookup m with
      | some f => if (fs.lookup m).isNone then (evalEs W cf none es σ h).bind fun xs h => cf f (x :: xs) h else .no
      | none => .no
    | none => match mtOf x m h with
      | some k => (evalEs W cf none es σ h).bind fun xs h => methD k x xs h
      | none => .no
theorem q_met {o m es} : evalE W cf none (.met o m es) σ h = (evalE W cf none o σ h).bind fun x h => metK W cf m es σ x h := by simp only [evalE, metK] <;> rfl
theorem callF_s {f : Nat} {fi : FI} {ds : List D} (e : W.fns[f]? = some fi) (hl : ds.length = fi.np) (hn : fi.lm = none := by rfl) : callF W L (n + 1) f ds h = (evalB W L (callF W L n) none fi.body (Rf.start fi.ns ds) h).fin := by
  simp [callF, e, hl, FI.cx, FI.st, hn]
theorem callF_v {f i j k : Nat} {fi : FI} {ds : List D} (e : W.fns[f]? = some fi) (hl : ds.length = fi.np) (hn : fi.lm = some (i, j, k)) : callF W L (n + 1) f ds h = (evalB W L (callF W L n) (some (j, (ds.drop i).map fun d => ("", d))) fi.body (Rf.start fi.ns (ds.take i)) h).fin := by
  simp [callF, e, hl, FI.cx, FI.st, hn]
@[simp] theorem stm_ofO_none {α : Type} (h : Hs) (σ) (f : α → Hs → RS) : (ofO (none : Option α) h).stm σ f = .no := rfl
/-- heaps -/
theorem lk_app {t : Hs} {o : MO} (e : h[n]? = some o) : (h ++ t)[n]? = some o := by
  rw [List.getElem?_append_left (List.getElem?_eq_some_iff.mp e).1]; exact e
theorem lk_new {o : MO} : (h ++ [o])[h.length]? = some o := by simp
theorem lk_lt {o : MO} (e : h[n]? = some o) : n < h.length := (List.getElem?_eq_some_iff.mp e).1
theorem atI_nat {α : Type} {xs : List α} {i : Nat} (hi : i < xs.length) : atI xs (i : Int) = some xs[i] := by
  have : (0 : Int) ≤ i := Int.natCast_nonneg i
  have h2 : (i : Int) < xs.length := by exact_mod_cast hi
  simp [atI, ixN, this, hi]
end
end Rf
namespace Rf
open PySem PySem.Spec PyProof.Rows L2
theorem atI_some {α : Type} {xs : List α} {k : Int} (h0 : 0 ≤ k) (h1 : k < xs.length) : ∃ x, x ∈ xs ∧ atI xs k = some x := by
  have hk : k.toNat < xs.length := by omega
  refine ⟨xs[k.toNat], List.getElem_mem hk, ?_⟩
  simp [atI, ixN, h0, h1, hk]
end Rf
namespace Rf
open PySem PySem.Spec PyProof.Rows L2
def insO (o : Option MO) : Option (Nat × List (String × D)) := match o with
  | some (.ins c fs) => some (c, fs)
  | _ => none
def mtO (o : Option MO) (m : String) : Option Mt := match o with
  | some (.lst _) => if m = "index" then some .index else if m = "append" then some .append else if m = "reverse" then some .reverse else if m = "extend" then some .extend else if m = "pop" then some .pop else if m = "insert" then some .insert else none
  | some (.dic false false _) => if m = "update" then some .update else if m = "get" then some .get else none
  | some (.dic false true _) => if m = "get" then some .get else none
  | _ => none
section
variable {n : Nat} {h : Hs}
theorem r_ins : isIns (.ob n) h = insO h[n]? := by
  cases e : h[n]? with
  | none => simp only [isIns, insO, e]
  | some mo => cases mo <;> simp only [isIns, insO, e]
@[simp] theorem insO_l (s) : insO (some (.lst s)) = none := rfl
theorem r_mt {m} : mtOf (.ob n) m h = mtO h[n]? m := by
  cases e : h[n]? with
  | none => simp only [mtOf, mtO, e]
  | some mo => cases mo with
    | dic lk t kvs => cases lk <;> cases t <;> simp only [mtOf, mtO, e]
    | _ => simp only [mtOf, mtO, e]
@[simp] theorem r_mts (s m) : mtOf (.str s) m h = if m = "isalnum" then some .isalnum else if m = "startswith" then some .startswith else if m = "find" then some .find else if m = "lower" then some .lower else if m = "join" then some .join else none := rfl
@[simp] theorem mtO_l (s) : mtO (some (.lst s)) "append" = some .append := rfl
@[simp] theorem mtO_r (s) : mtO (some (.lst s)) "reverse" = some .reverse := rfl
@[simp] theorem mtO_e (s) : mtO (some (.lst s)) "extend" = some .extend := rfl
@[simp] theorem mtO_p (s) : mtO (some (.lst s)) "pop" = some .pop := rfl
noncomputable def metO (W : Wd) (cf : CF) (n : Nat) (o : Option MO) (es : List E) (σ : Sg) (h : Hs) : R D := match o with
  | some (.lst _) => (evalEs W cf none es σ h).bind fun xs h => methD .append (.ob n) xs h
  | _ => .no
theorem r_metapp {W : Wd} {cf : CF} {es : List E} {σ : Sg} {s : List D} (e : h[n]? = some (.lst s)) : metK W cf "append" es σ (.ob n) h = (evalEs W cf none es σ h).bind fun xs h => methD .append (.ob n) xs h := by
  unfold metK
  simp only [r_ins, r_mt, e, insO_l, mtO_l]
end
end Rf
namespace Rf
section
variable {α : Type} (a b c d : α) (r : List α)
theorem atI_0 : L2.atI (a :: r) 0 = some a := by
  have : (0 : Int) < ((a :: r).length : Int) := by simp only [List.length_cons]; omega
  simp only [L2.atI, L2.ixN, if_pos this]; rfl
theorem atI_1 : L2.atI (a :: b :: r) 1 = some b := by
  have : (1 : Int) < ((a :: b :: r).length : Int) := by simp only [List.length_cons]; omega
  simp only [L2.atI, L2.ixN, if_pos this]; rfl
theorem atI_2 : L2.atI (a :: b :: c :: r) 2 = some c := by
  have : (2 : Int) < ((a :: b :: c :: r).length : Int) := by simp only [List.length_cons]; omega
  simp only [L2.atI, L2.ixN, if_pos this]; rfl
theorem atI_3 : L2.atI (a :: b :: c :: d :: r) 3 = some d := by
  have : (3 : Int) < ((a :: b :: c :: d :: r).length : Int) := by simp only [List.length_cons]; omega
  simp only [L2.atI, L2.ixN, if_pos this]; rfl
end
end Rf

namespace Rf
open PySem PySem.Spec PyProof.Rows L2
def fldO (cl : List CI) (o : Option MO) (f : String) (h : Hs) : R D := match o with
  | some (.ins c fs) => if hasF cl c f then ofO (fs.lookup f) h else .no
  | _ => .no
def fsetO (cl : List CI) (n : Nat) (o : Option MO) (f : String) (v : D) (h : Hs) : Option Hs := match o with
  | some (.ins c fs) => if hasF cl c f && decide (fs.length < 900) then some (h.set n (.ins c (fput f v fs))) else none
  | _ => none
def backO (o : Option MO) (h : Hs) : R D := match o with
  | some (.lst xs) => .ok (.ob h.length) (h ++ [.lst xs.reverse])
  | _ => .no
def isLO (o : Option MO) (l d : Bool) (h : Hs) : R D := match o with
  | some (.lst _) => .ok (.bl l) h
  | some (.dic false _ _) => .ok (.bl d) h
  | _ => .no
def eqO2 (o o' : Option MO) : Option Bool := match o, o' with
  | some (.lst xs), some (.lst ys) => if purs xs && purs ys && decide (deps xs ≤ 60) && decide (deps ys ≤ 60) then some (eqvs xs ys) else none
  | _, _ => none
section
variable {W : Wd} {L : Nat} {cf : CF} {cs : List (List D)} {cl : List CI} {n : Nat} {h : Hs} {σ : Sg}
theorem r_fld {f} : fldD cl (.ob n) f h = fldO cl h[n]? f h := by
  cases e : h[n]? with
  | none => simp only [fldD, fldO, e]
  | some mo => cases mo <;> simp only [fldD, fldO, e]
@[simp] theorem fldO_i (c fs f) : fldO cl (some (.ins c fs)) f h = if hasF cl c f then ofO (fs.lookup f) h else .no := rfl
theorem r_fset {f v} : fsetD cl (.ob n) f v h = fsetO cl n h[n]? f v h := by
  cases e : h[n]? with
  | none => simp only [fsetD, fsetO, e]
  | some mo => cases mo <;> simp only [fsetD, fsetO, e]
@[simp] theorem fsetO_i (c fs f v) : fsetO cl n (some (.ins c fs)) f v h = if hasF cl c f && decide (fs.length < 900) then some (h.set n (.ins c (fput f v fs))) else none := rfl
theorem q_fld {a f} : evalE W cf none (.fld a f) σ h = (evalE W cf none a σ h).bind fun x h => fldD W.cls x f h := by simp only [evalE]
theorem q_fset {o f e} : evalS W L cf none (.fset o f e) σ h = (evalE W cf none e σ h).stm σ fun v h => (evalE W cf none o σ h).stm σ fun x h => match fsetD W.cls x f v h with
    | some h => .ok (.nx σ) h
    | none => .no := by simp only [evalS] <;> rfl
def newK (o : Nat) : D → Hs → R D := fun r h' => match r with | .non => .ok (.ob o) h' | _ => .no
@[simp] theorem newK_n (o : Nat) (h' : Hs) : newK o .non h' = .ok (.ob o) h' := rfl
theorem q_new {c es} {ci : CI} {f : Nat} (ec : W.cls[c]? = some ci) (ef : ci.ini = some f) : evalE W cf none (.new c es) σ h = (evalEs W cf none es σ h).bind fun xs h => (cf f (.ob h.length :: xs) (h ++ [.ins c []])).bind (newK h.length) := by
  simp only [evalE, ec, ef, Option.bind_some] <;> rfl
theorem q_back {a} : evalE W cf none (.back a) σ h = (evalE W cf none a σ h).bind fun x h => match x with
    | .ob n => backO h[n]? h
    | _ => .no := by
  simp only [evalE] <;> (cases evalE W cf none a σ h <;> rfl)
@[simp] theorem backO_l (s) : backO (some (.lst s)) h = .ok (.ob h.length) (h ++ [.lst s.reverse]) := rfl
theorem r_isList_ob : bltC W .isList [.ob n] h = isLO h[n]? true false h := by
  have q : bltC W .isList [.ob n] h = isObB h n true false := rfl
  rw [q]
  cases e : h[n]? with
  | none => simp only [isObB, isLO, e]
  | some mo => cases mo with
    | dic lk t kvs => cases lk <;> simp only [isObB, isLO, e]
    | _ => simp only [isObB, isLO, e]
theorem r_isTup_ob : bltC W .isTup [.ob n] h = isLO h[n]? false false h := by
  have q : bltC W .isTup [.ob n] h = isObB h n false false := rfl
  rw [q]
  cases e : h[n]? with
  | none => simp only [isObB, isLO, e]
  | some mo => cases mo with
    | dic lk t kvs => cases lk <;> simp only [isObB, isLO, e]
    | _ => simp only [isObB, isLO, e]
theorem r_isInt_ob : bltC W .isInt [.ob n] h = isLO h[n]? false false h := by
  have q : bltC W .isInt [.ob n] h = isObB h n false false := rfl
  rw [q]
  cases e : h[n]? with
  | none => simp only [isObB, isLO, e]
  | some mo => cases mo with
    | dic lk t kvs => cases lk <;> simp only [isObB, isLO, e]
    | _ => simp only [isObB, isLO, e]
theorem r_isStr_ob : bltC W .isStr [.ob n] h = isLO h[n]? false false h := by
  have q : bltC W .isStr [.ob n] h = isObB h n false false := rfl
  rw [q]
  cases e : h[n]? with
  | none => simp only [isObB, isLO, e]
  | some mo => cases mo with
    | dic lk t kvs => cases lk <;> simp only [isObB, isLO, e]
    | _ => simp only [isObB, isLO, e]
theorem r_isBool_ob : bltC W .isBool [.ob n] h = isLO h[n]? false false h := by
  have q : bltC W .isBool [.ob n] h = isObB h n false false := rfl
  rw [q]
  cases e : h[n]? with
  | none => simp only [isObB, isLO, e]
  | some mo => cases mo with
    | dic lk t kvs => cases lk <;> simp only [isObB, isLO, e]
    | _ => simp only [isObB, isLO, e]
@[simp] theorem isLO_l (s l d) : isLO (some (.lst s)) l d h = .ok (.bl l) h := rfl
@[simp] theorem r_isList_tup (s) : bltC W .isList [.tup s] h = .ok (.bl false) h := rfl
@[simp] theorem r_isTup_non : bltC W .isTup [.non] h = .ok (.bl false) h := rfl
@[simp] theorem r_isTup_str (s) : bltC W .isTup [.str s] h = .ok (.bl false) h := rfl
theorem r_repr {xs : List D} (h1 : rpOk (.tup xs) = true) (h2 : dep (.tup xs) ≤ 64) (h3 : (rp (.tup xs)).length ≤ sizeLine) : bltC W .repr [.tup xs] h = .ok (.str (rp (.tup xs))) h := by
  have q : bltC W .repr [.tup xs] h = bltD .repr [.tup xs] h := rfl
  rw [q]
  simp only [bltD, h1, h2, h3, decide_true, Bool.and_true, if_true]
theorem r_eqll {m : Nat} {xs ys : List D} (e1 : h[n]? = some (.lst xs)) (e2 : h[m]? = some (.lst ys)) (p1 : purs xs = true) (p2 : purs ys = true) (d1 : deps xs ≤ 60) (d2 : deps ys ≤ 60) :
    cmpA cs .eq (.ob n) (.ob m) h = .ok (.bl (eqvs xs ys)) h ∧ cmpA cs .ne (.ob n) (.ob m) h = .ok (.bl (!eqvs xs ys)) h := by
  have q : dicB (.ob n) (.ob m) h = none := by simp only [dicB, e1, e2]
  have q2 : eqD h (.ob n) (.ob m) = some (eqvs xs ys) := by simp only [eqD, e1, e2, p1, p2, d1, d2, decide_true, Bool.and_true, if_true]
  constructor <;> simp only [cmpA, q, cmpD, q2]
/-- lists of plain lists -/
theorem r_eqss {m : Nat} {xs ys : List D} {us ws : List (List D)} (e1 : h[n]? = some (.lst xs)) (e2 : h[m]? = some (.lst ys)) (p1 : purs xs = false) (s1 : lsts h xs = some us) (s2 : lsts h ys = some ws) :
    cmpA cs .eq (.ob n) (.ob m) h = .ok (.bl (eqvss us ws)) h := by
  have q : dicB (.ob n) (.ob m) h = none := by simp only [dicB, e1, e2]
  have q2 : eqD h (.ob n) (.ob m) = some (eqvss us ws) := by simp [eqD, e1, e2, p1, s1, s2]
  simp only [cmpA, q, cmpD, q2]
mutual
theorem rsv_pur (h : Hs) : ∀ (d : D) (k : Nat), pur d = true → dep d < k → rsv h k d = some (toPy d)
  | _, 0, _, hd => by omega
  | .non, _ + 1, _, _ => rfl
  | .bl _, _ + 1, _, _ => rfl
  | .int _, _ + 1, _, _ => rfl
  | .str _, _ + 1, _, _ => rfl
  | .tup xs, k + 1, p, hd => by
    simp only [pur] at p
    simp only [dep] at hd
    simp only [rsv, toPy]
    rw [rsvs_pur h xs k p (by omega)]
    rfl
  | .ob _, _ + 1, p, _ => by simp [pur] at p
  | .fn _, _ + 1, p, _ => by simp [pur] at p
  | .con _, _ + 1, p, _ => by simp [pur] at p
theorem rsvs_pur (h : Hs) : ∀ (ds : List D) (k : Nat), purs ds = true → deps ds < k → mapO (rsv h k) ds = some (toPys ds)
  | [], _, _, _ => rfl
  | d :: ds, k, p, hd => by
    simp only [purs, Bool.and_eq_true] at p
    simp only [deps] at hd
    simp only [mapO, rsv_pur h d k p.1 (by omega), rsvs_pur h ds k p.2 (by omega), toPys]
    rfl
end
/-- plain data is no list -/
theorem r_eqob {x : D} {ys : List D} (hx : flat x = true) (e : h[n]? = some (.lst ys)) (py : purs ys = true) (dy : deps ys ≤ 50) :
    cmpA cs .eq x (.ob n) h = .ok (.bl false) h ∧ cmpA cs .ne x (.ob n) h = .ok (.bl true) h := by
  have hx' := hx
  simp only [flat, Bool.and_eq_true, decide_eq_true_eq] at hx
  obtain ⟨px, dx⟩ := hx
  have r1 := rsv_pur h x 70 px (by omega)
  have r2 : rsv h 70 (.ob n) = some (.list (toPys ys)) := by
    simp only [rsv, e, rsvs_pur h ys 69 py (by omega)]
    rfl
  have s1 : SeqAt.shaped (toPy x) = true := by unfold SeqAt.shaped; rw [toPy_lay, toPy_dep]; simpa using dx
  have s2 : SeqAt.shaped (.list (toPys ys)) = true := by
    unfold SeqAt.shaped
    simp only [PyData.canLay0, PyData.depth, toPys_lay, toPys_dep, Bool.true_and, decide_eq_true_eq]; omega
  have q : PyData.eqv (toPy x) (.list (toPys ys)) = false := by
    cases x <;> first | (simp only [toPy, PyData.eqv]; done) | rfl | (simp [pur] at px)
  have qr : eqR h x (.ob n) = some false := by
    unfold eqR
    rw [r1, r2]
    simp only [s1, s2, Bool.and_self, if_true, q]
  have qd : eqD h x (.ob n) = some false := by
    unfold eqD
    split
    · simp [flat, pur] at hx'
    · rw [if_neg (by simp [flat, pur]), qr]
  constructor <;> simp only [cmpA, dicB_flat hx', cmpD, qd, Bool.not_false]
/-- pop from the front -/
theorem r_pop0 {x : D} {xs : List D} (e : h[n]? = some (.lst (x :: xs))) : methD .pop (.ob n) [.int 0] h = .ok x (h.set n (.lst xs)) := by
  simp [methD, e]
/-- a method of an instance -/
theorem r_metI {m : String} {es : List E} {c : Nat} {fs : List (String × D)} {ci : CI} {f : Nat} (e : h[n]? = some (.ins c fs)) (ec : W.cls[c]? = some ci) (em : ci.meths.lookup m = some f) (ef : fs.lookup m = none) :
    metK W cf m es σ (.ob n) h = (evalEs W cf none es σ h).bind fun xs h => cf f (.ob n :: xs) h := by
  unfold metK
  have q : isIns (.ob n) h = some (c, fs) := by simp only [isIns, e]
  simp only [q, ec, Option.bind_some, em, ef, Option.isNone_none, if_true]
theorem r_metrev {s : List D} (e : h[n]? = some (.lst s)) : metK W cf "reverse" [] σ (.ob n) h = .ok .non (h.set n (.lst s.reverse)) := by
  unfold metK
  simp only [r_ins, r_mt, e, insO_l, mtO_r, q_enil, R.bind_ok, methD]
end
end Rf
namespace Rf
open PySem PySem.Spec PyProof.Rows L2
section
variable {W : Wd} {L : Nat} {cf : CF} {cx : CXI} {cs : List (List D)} {n : Nat} {h : Hs} {σ : Sg}
theorem q_raise {c es} : evalS W L cf cx (.raise c es) σ h = (evalEs W cf cx es σ h).stm σ fun xs h => if 0 < (W.exf c).length ∧ xs.length = (W.exf c).length ∧ xs.length ≤ 900 then .exc c ((W.exf c).zip xs).reverse σ h else .no := by simp only [evalS] <;> rfl
/-- what a try makes of its body's outcome -/
noncomputable def tryK (W : Wd) (L : Nat) (cf : CF) (hs : List (Nat × Option Nat × List S)) (r : RS) : RS := match r with
  | .exc c fs σ1 h1 => if 0 < (W.exf c).length then evalH W L cf c fs hs σ1 h1 else .no
  | r => r
theorem q_try {b hs} : evalS W L cf cx (.try_ b hs) σ h = tryK W L cf hs (evalB W L cf cx b σ h) := by simp only [evalS, tryK] <;> rfl
@[simp] theorem tryK_nx (hs σ h) : tryK W L cf hs (.ok (.nx σ) h) = .ok (.nx σ) h := rfl
@[simp] theorem tryK_rt (hs d h) : tryK W L cf hs (.ok (.rt d) h) = .ok (.rt d) h := rfl
@[simp] theorem tryK_exc (hs c fs σ h) : tryK W L cf hs (.exc c fs σ h) = if 0 < (W.exf c).length then evalH W L cf c fs hs σ h else .no := rfl
theorem q_hnil {c fs} : evalH W L cf c fs [] σ h = .exc c fs σ h := by simp only [evalH]
theorem q_hcons {c fs k o b r} : evalH W L cf c fs ((k, o, b) :: r) σ h = if W.isa c k then (evalB W L cf (some (c, fs)) b (offI o σ) h).offs o else evalH W L cf c fs r σ h := by simp only [evalH]
@[simp] theorem offI_s (i σ) : offI (some i) σ = σ.set i none := rfl
@[simp] theorem offI_n (σ) : offI none σ = σ := rfl
def exfK (W : Wd) (c : Nat) (fs : List (String × D)) (f : String) (o : Option (Option D)) (h : Hs) : R D := match o with
  | some none => if f ∈ W.exf c then ofO (fs.lookup f) h else .no
  | _ => .no
theorem q_cml {v j es cs} : evalE W cf cx (.cml v j es cs) σ h = (evalEs W cf cx es σ h).bind fun xs h => (evalEs W cf cx cs σ h).bind fun ys h => cf v (xs ++ ys) h := by simp only [evalE]
def mmlK (k : Option (Nat × List (String × D))) (c : Nat) (m : String) (r : R D) : R D := match k with
  | some (c', fs) => if c' = c ∧ (fs.lookup m).isNone = true then r else .no
  | none => .no
theorem q_mml {c o m v j cs} : evalE W cf cx (.mml c o m v j cs) σ h = (evalE W cf cx o σ h).bind fun x h => mmlK (isIns x h) c m ((evalEs W cf cx cs σ h).bind fun ys h => cf v (x :: ys) h) := by
  simp only [evalE, mmlK] <;> rfl
def cvlK (o : Option (Option D)) (k : R D) : R D := match o with | some none => k | _ => .no
@[simp] theorem cvlK_n (k : R D) : cvlK (some none) k = k := rfl
theorem q_cvl {i es j fs} : evalE W cf (some (j, fs)) (.cvl i es) σ h = cvlK σ[i]? ((evalEs W cf (some (j, fs)) es σ h).bind fun xs h => cf j (fs.map (·.2) ++ xs) h) := by
  simp only [evalE, cvlK] <;> (rcases σ[i]? with _ | _ | d <;> rfl)
theorem q_exf {i f c fs} : evalE W cf (some (c, fs)) (.exf i f) σ h = exfK W c fs f σ[i]? h := by
  simp only [evalE, exfK] <;> (rcases σ[i]? with _ | _ | d <;> rfl)
@[simp] theorem exfK_n (c fs f) : exfK W c fs f (some none) h = if f ∈ W.exf c then ofO (fs.lookup f) h else .no := rfl
def exiK (W : Wd) (c k : Nat) (o : Option (Option D)) (h : Hs) : R D := match o with
  | some none => .ok (.bl (W.isa c k)) h
  | _ => .no
theorem q_exi {i k c fs} : evalE W cf (some (c, fs)) (.exi i k) σ h = exiK W c k σ[i]? h := by
  simp only [evalE, exiK] <;> (rcases σ[i]? with _ | _ | d <;> rfl)
@[simp] theorem exiK_n (c k) (h : Hs) : exiK W c k (some none) h = .ok (.bl (W.isa c k)) h := rfl
theorem q_gni {g i} : evalE W cf cx (.gni g i) σ h = .ok (.int i) h := by simp only [evalE]
theorem q_glb {g} : evalE W cf cx (.glb g) σ h = .ok (.con g) h := by simp only [evalE]
theorem q_gst {g s} : evalE W cf cx (.gst g s) σ h = .ok (.str s) h := by simp only [evalE]
/-- other methods of lists and dicts -/
theorem r_metl {m : String} {k : Mt} {es : List E} {s : List D} (e : h[n]? = some (.lst s)) (hk : mtO (some (.lst s)) m = some k) : metK W cf m es σ (.ob n) h = (evalEs W cf none es σ h).bind fun xs h => methD k (.ob n) xs h := by
  unfold metK
  simp only [r_ins, r_mt, e, insO_l, hk]
theorem r_metins {es : List E} {s : List D} (e : h[n]? = some (.lst s)) : metK W cf "insert" es σ (.ob n) h = (evalEs W cf none es σ h).bind fun xs h => methD .insert (.ob n) xs h := r_metl e rfl
theorem r_metupd {es : List E} {s : List (D × D)} (e : h[n]? = some (.dic false false s)) : metK W cf "update" es σ (.ob n) h = (evalEs W cf none es σ h).bind fun xs h => methD .update (.ob n) xs h := by
  unfold metK
  have q : insO (some (.dic false false s)) = none := rfl
  have q2 : mtO (some (.dic false false s)) "update" = some .update := rfl
  simp only [r_ins, r_mt, e, q, q2]
theorem r_metget {es : List E} {t : Bool} {s : List (D × D)} (e : h[n]? = some (.dic false t s)) : metK W cf "get" es σ (.ob n) h = (evalEs W cf none es σ h).bind fun xs h => methD .get (.ob n) xs h := by
  unfold metK
  have q : insO (some (.dic false t s)) = none := rfl
  have q2 : mtO (some (.dic false t s)) "get" = some .get := by cases t <;> rfl
  simp only [r_ins, r_mt, e, q, q2]
theorem r_get1 {t : Bool} {s : List (D × D)} {k : D} (e : h[n]? = some (.dic false t s)) (hk : okK t s k = true) : methD .get (.ob n) [k] h = .ok ((kvGet s k).getD .non) h := by simp only [methD, e, hk, if_true]
theorem r_get2 {t : Bool} {s : List (D × D)} {k x : D} (e : h[n]? = some (.dic false t s)) (hk : okK t s k = true) : methD .get (.ob n) [k, x] h = .ok ((kvGet s k).getD x) h := by simp only [methD, e, hk, if_true]
theorem r_insert {s : List D} {i : Int} {y : D} (e : h[n]? = some (.lst s)) (h1 : s.length < sizeLine) (h2 : 0 ≤ i) (h3 : i < 2 ^ 62) : methD .insert (.ob n) [.int i, y] h = .ok .non (h.set n (.lst (s.take i.toNat ++ [y] ++ s.drop i.toNat))) := by
  simp only [methD, e, h1, h2, h3, and_self, if_true]
theorem r_update {m : Nat} {ks ls : List (D × D)} {lk : Bool} (e : h[n]? = some (.dic false false ks)) (e2 : h[m]? = some (.dic lk false ls)) (ne : n ≠ m) (hl : ks.length + ls.length ≤ sizeLine) : methD .update (.ob n) [.ob m] h = .ok .non (h.set n (.dic false false (kvMrg ks ls))) := by
  simp only [methD, e, e2, ne, hl, ne_eq, not_false_eq_true, and_self, if_true]
@[simp] theorem r_isx_nn (cs : List (List D)) (h : Hs) : cmpA cs .is_ .non .non h = .ok (.bl true) h := rfl
@[simp] theorem r_isx_tn (cs : List (List D)) (xs : List D) (h : Hs) : cmpA cs .is_ (.tup xs) .non h = .ok (.bl false) h := rfl
@[simp] theorem r_isnx_nn (cs : List (List D)) (h : Hs) : cmpA cs .isn .non .non h = .ok (.bl false) h := rfl
@[simp] theorem r_isnx_tn (cs : List (List D)) (xs : List D) (h : Hs) : cmpA cs .isn (.tup xs) .non h = .ok (.bl true) h := rfl
@[simp] theorem r_isnx_sn (cs : List (List D)) (s : List Char) (h : Hs) : cmpA cs .isn (.str s) .non h = .ok (.bl true) h := rfl
@[simp] theorem r_isx_sn (cs : List (List D)) (s : List Char) (h : Hs) : cmpA cs .is_ (.str s) .non h = .ok (.bl false) h := rfl
/-- len of an own object; del -/
noncomputable def lnIK (W : Wd) (cf : CF) (k : Option (Nat × List (String × D))) (x : D) (h : Hs) : R D := match k with
  | some (c, _) => match (W.cls[c]?).bind fun ci => ci.meths.lookup "__len__" with
    | some f => (cf f [x] h).bind fun r h' => match r with | .int i => if 0 ≤ i ∧ i < 2 ^ 62 then .ok (.int i) h' else .no | _ => .no
    | none => .no
  | none => .no
theorem q_lnI {e} : evalE W cf cx (.lnI e) σ h = (evalE W cf cx e σ h).bind fun x h => lnIK W cf (isIns x h) x h := by
  simp only [evalE, lnIK] <;> rfl
theorem r_lnI {c : Nat} {fs : List (String × D)} {ci : CI} {f : Nat} {i : Int} {h' : Hs} (e : h[n]? = some (.ins c fs)) (ec : W.cls[c]? = some ci) (em : ci.meths.lookup "__len__" = some f) (er : cf f [.ob n] h = .ok (.int i) h') (h0 : 0 ≤ i) (h1 : i < 2 ^ 62) :
    lnIK W cf (isIns (.ob n) h) (.ob n) h = .ok (.int i) h' := by
  have q : isIns (.ob n) h = some (c, fs) := by simp only [isIns, e]
  unfold lnIK
  simp only [q, ec, Option.bind_some, em, er, R.bind_ok, h0, h1, and_self, if_true]
def optS (o : Option Hs) (σ : Sg) : RS := match o with | some h => .ok (.nx σ) h | none => .no
theorem q_ptd {e} : evalE W cf cx (.ptd e) σ h = (evalE W cf cx e σ h).bind fun x h => ptdD x h := by simp only [evalE]
theorem r_ptd {kvs : List (D × D)} (e : h[n]? = some (.dic false false kvs)) : ptdD (.ob n) h = .ok (.ob h.length) (h ++ [.ptp (kvs.map fun p => .tup [p.1, p.2])]) := by
  simp only [ptdD, e]
theorem q_newd {c} {ci : CI} {f : Nat} (ec : W.cls[c]? = some ci) (ef : ci.ini = some f) : evalE W cf none (.newd c) σ h = (cf f [.ob h.length, .con (W.cons.length + 1)] (h ++ [.ins c []])).bind (newK h.length) := by
  simp only [evalE, ec, Option.bind_some, ef]
  rfl
theorem r_dictE : bltC W .dict [.con (W.cons.length + 1)] h = .ok (.ob h.length) (h ++ [.dic false false []]) := by simp only [bltC, if_true]
theorem r_own {c : Nat} {F : String} {fs : List (String × D)} {m : Nat} {kvs : List (D × D)} (e : h[n]? = some (.ins c fs)) (e1 : fs.lookup F = some (.ob m)) (e2 : h[m]? = some (.dic false false kvs)) :
    itemsI cs (.own c F) [.ob n] h = some (kvs.map fun p => .tup [p.1, p.2], .lock m false kvs, h.set m (.dic true false kvs)) := by simp only [itemsI, e, if_true, e1, e2]
theorem q_vll {e} : evalE W cf cx (.vll e) σ h = (evalE W cf cx e σ h).bind fun x h => vllD x h := by simp only [evalE]
theorem r_vll {kvs : List (D × D)} (e : h[n]? = some (.dic false false kvs)) : vllD (.ob n) h = .ok (.ob h.length) (h ++ [.lst (kvs.map fun p => p.2)]) := by
  simp only [vllD, e]
theorem q_itl {e} : evalE W cf cx (.itl e) σ h = (evalE W cf cx e σ h).bind fun x h => itlD x h := by simp only [evalE]
theorem r_itl {kvs : List (D × D)} (e : h[n]? = some (.dic false false kvs)) : itlD (.ob n) h = .ok (.ob h.length) (h ++ [.lst (kvs.map fun p => .tup [p.1, p.2])]) := by
  simp only [itlD, e]
theorem r_ptup {s : List D} (e : h[n]? = some (.lst s)) : bltC W .ptup [.ob n] h = .ok (.ob h.length) (h ++ [.ptp s]) := by
  have q : bltC W .ptup [.ob n] h = bltD .ptup [.ob n] h := rfl
  rw [q]
  simp only [bltD, e]
theorem r_dictp {s : List D} {ps : List (D × D)} (e : h[n]? = some (.ptp s)) (e2 : prsOf s = some ps) : bltC W .dict [.ob n] h = .ok (.ob h.length) (h ++ [.dic false false (kvMrg [] ps)]) := by
  have q : bltC W .dict [.ob n] h = bltD .dict [.ob n] h := rfl
  rw [q]
  simp only [bltD, e, e2]
theorem r_dictl {s : List D} {ps : List (D × D)} (e : h[n]? = some (.lst s)) (e2 : prsOf s = some ps) : bltC W .dict [.ob n] h = .ok (.ob h.length) (h ++ [.dic false false (kvMrg [] ps)]) := by
  have q : bltC W .dict [.ob n] h = bltD .dict [.ob n] h := rfl
  rw [q]
  simp only [bltD, e, e2]
theorem q_mat {e cs} : evalS W L cf cx (.mat e cs) σ h = (evalE W cf cx e σ h).stm σ fun x h => evalM W L cf cx x cs σ h := by simp only [evalS]
theorem q_mnil {x} : evalM W L cf cx x [] σ h = .ok (.nx σ) h := by simp only [evalM]
theorem q_mcons {x ws sl b r} : evalM W L cf cx x ((ws, sl, b) :: r) σ h = match matD ws sl.length x with | some (some ds) => evalB W L cf cx b (bindC sl ds σ) h | some none => evalM W L cf cx x r σ h | none => .no := by simp only [evalM] <;> rfl
@[simp] theorem optS_s (h : Hs) (σ : Sg) : optS (some h) σ = .ok (.nx σ) h := rfl
theorem q_dels {e lo} : evalS W L cf cx (.dels e lo) σ h = (evalE W cf cx e σ h).stm σ fun x h => (evalE W cf cx lo σ h).stm σ fun y h => optS (delsD x y h) σ := by
  simp only [evalS, optS] <;> rfl
theorem q_deld {e lo} : evalS W L cf cx (.deld e lo) σ h = (evalE W cf cx e σ h).stm σ fun x h => (evalE W cf cx lo σ h).stm σ fun y h => optS (deldD x y h) σ := by
  simp only [evalS, optS] <;> rfl
theorem r_dels {s : List D} {i : Int} (e : h[n]? = some (.lst s)) (h0 : 0 ≤ i) (h1 : i ≤ s.length) (h2 : s.length ≤ 1000000) : delsD (.ob n) (.int i) h = some (h.set n (.lst (s.take i.toNat))) := by
  simp only [delsD, e, h0, h1, h2, and_self, if_true]
theorem q_gin {neg g e} : evalE W cf cx (.gin neg g e) σ h = (evalE W cf cx e σ h).bind fun x h => ginD W.dcs neg g x h := by simp only [evalE]
theorem q_gix {g e} : evalE W cf cx (.gix g e) σ h = (evalE W cf cx e σ h).bind fun x h => gixD W.dcs g x h := by simp only [evalE]
/-- zip -/
theorem r_zipT {s t : List D} (e : h[n]? = some (.lst t)) : itemsI cs .zip [.tup s, .ob n] h = some ((s.zip t).map fun p => .tup [p.1, p.2], .keep n (.lst t), h) := by simp only [itemsI, e]
theorem r_zipL {m : Nat} {s t : List D} (e : h[n]? = some (.lst s)) (e2 : h[m]? = some (.lst t)) : itemsI cs .zip [.ob n, .ob m] h = some ((s.zip t).map fun p => .tup [p.1, p.2], .keep2 n (.lst s) m (.lst t), h) := by simp only [itemsI, e, e2]
theorem bindT_tn (is j ds v) (e : ds.length = is.length) : bindT (.tn is j) (.tup [.tup ds, v]) h σ = some (((is.zip ds).foldl (fun σ p => σ.set p.1 (some p.2)) σ).set j (some v)) := by simp only [bindT, if_pos e]
/-- {k: v for ..} -/
noncomputable def dT (W : Wd) (cf : CF) (own : List Nat) (tg : Tg) (cd : List E) (ke el : E) (σ : Sg) : D → Hs → R (Option (D × D)) := dcTurn (fun d h => bindT tg d h (wipeI σ own)) (fun σ1 h => (evalEs W cf none cd σ1 h).bind cdB) (fun σ1 h => evalE W cf none ke σ1 h) (fun σ1 h => evalE W cf none el σ1 h)
theorem r_dc {own tg k its cd ke el} : evalE W cf none (.dc own tg k its cd ke el) σ h = (evalEs W cf none its σ h).bind fun xs h => (ofO (itemsI W.cons k xs h) h).bind fun ig h =>
    (dcI ig.2.1 (dT W cf own tg cd ke el σ) ig.1 [] ig.2.2).bind dcEnd := by simp only [evalE] <;> rfl
theorem dcI_nil {g turn acc} (hs : same g h) : dcI g turn [] acc h = .ok acc (endG g h) := by simp [dcI, hs]
theorem dcI_some {g turn d ds acc x y h'} (hs : same g h) (e : turn d h = .ok (some (x, y)) h') (hk : okK false acc x = true) (hl : acc.length < sizeLine) : dcI g turn (d :: ds) acc h = dcI g turn ds (kvPut acc x y) h' := by simp [dcI, hs, e, hk, hl]
theorem dcI_skip {g turn d ds acc h'} (hs : same g h) (e : turn d h = .ok none h') : dcI g turn (d :: ds) acc h = dcI g turn ds acc h' := by simp [dcI, hs, e]
theorem r_isDict_ob : bltC W .isDict [.ob n] h = isLO h[n]? false true h := by
  have q : bltC W .isDict [.ob n] h = isObB h n false true := rfl
  rw [q]
  unfold isObB isLO
  rcases h[n]? with _ | mo
  · rfl
  · cases mo with
    | dic lk t kvs => cases lk <;> rfl
    | _ => rfl
@[simp] theorem r_isDict_tup (s) : bltC W .isDict [.tup s] h = .ok (.bl false) h := rfl
@[simp] theorem r_isDict_non : bltC W .isDict [.non] h = .ok (.bl false) h := rfl
end
end Rf
end

section
namespace Rf
open PySem PySem.Spec PyProof.Rows L2

/-! ## terms that say nothing of the exception or the lambda at hand -/
mutual
def noX : E → Bool
  | .exf _ _ => false
  | .exi _ _ => false
  | .cvl _ _ => false
  | .bin _ a b => noX a && noX b
  | .neg a => noX a
  | .cmp _ a b => noX a && noX b
  | .chn _ _ a b c => noX a && noX b && noX c
  | .and a b => noX a && noX b
  | .or a b => noX a && noX b
  | .not a => noX a
  | .ife c a b => noX c && noX a && noX b
  | .tup es => noXs es
  | .lst es => noXs es
  | .dic _ ks vs => noXs ks && noXs vs
  | .ix a i => noX a && noX i
  | .gix _ e => noX e
  | .gin _ _ e => noX e
  | .lnI e => noX e
  | .itl e => noX e
  | .vll e => noX e
  | .itr e => noX e
  | .ptd e => noX e
  | .newd _ => true
  | .slc a lo hi => noX a && noXs lo && noXs hi
  | .back a => noX a
  | .fld a _ => noX a
  | .cal _ es => noXs es
  | .cav _ es => noXs es
  | .new _ es => noXs es
  | .met o _ es => noX o && noXs es
  | .blt _ es => noXs es
  | .lc _ _ _ its cd el => noXs its && noXs cd && noX el
  | .dc _ _ _ its cd ke el => noXs its && noXs cd && noX ke && noX el
  | .cml _ _ es cs => noXs es && noXs cs
  | .mml _ o _ _ _ cs => noX o && noXs cs
  | _ => true
def noXs : List E → Bool
  | [] => true
  | e :: es => noX e && noXs es
end
section
variable {W : Wd} {cf : CF} {cx : CXI}
mutual
theorem e_cx : ∀ (e : E), noX e = true → ∀ (σ : Sg) (h : Hs), evalE W cf cx e σ h = evalE W cf none e σ h
  | .var i, _, σ, h => by simp only [evalE]
  | .cst d, _, σ, h => by simp only [evalE]
  | .glb d, _, σ, h => by simp only [evalE]
  | .gst d s, _, σ, h => by simp only [evalE]
  | .gni d s, _, σ, h => by simp only [evalE]
  | .fnv d, _, σ, h => by simp only [evalE]
  | .bin o a b, q, σ, h => by
    simp only [noX, Bool.and_eq_true] at q
    simp only [evalE, e_cx a q.1, e_cx b q.2]
  | .neg a, q, σ, h => by
    simp only [noX] at q
    simp only [evalE, e_cx a q]
  | .cmp o a b, q, σ, h => by
    simp only [noX, Bool.and_eq_true] at q
    simp only [evalE, e_cx a q.1, e_cx b q.2]
  | .chn o o' a b c, q, σ, h => by
    simp only [noX, Bool.and_eq_true] at q
    simp only [evalE, e_cx a q.1.1, e_cx b q.1.2, e_cx c q.2]
  | .and a b, q, σ, h => by
    simp only [noX, Bool.and_eq_true] at q
    simp only [evalE, e_cx a q.1, e_cx b q.2]
  | .or a b, q, σ, h => by
    simp only [noX, Bool.and_eq_true] at q
    simp only [evalE, e_cx a q.1, e_cx b q.2]
  | .not a, q, σ, h => by
    simp only [noX] at q
    simp only [evalE, e_cx a q]
  | .ife c a b, q, σ, h => by
    simp only [noX, Bool.and_eq_true] at q
    simp only [evalE, e_cx c q.1.1, e_cx a q.1.2, e_cx b q.2]
  | .tup es, q, σ, h => by
    simp only [noX] at q
    simp only [evalE, es_cx es q]
  | .lst es, q, σ, h => by
    simp only [noX] at q
    simp only [evalE, es_cx es q]
  | .dic t ks vs, q, σ, h => by
    simp only [noX, Bool.and_eq_true] at q
    simp only [evalE, es_cx vs q.2]
  | .gix g e, q, σ, h => by
    simp only [noX] at q
    simp only [evalE, e_cx e q]
  | .gin neg g e, q, σ, h => by
    simp only [noX] at q
    simp only [evalE, e_cx e q]
  | .lnI e, q, σ, h => by
    simp only [noX] at q
    simp only [evalE, e_cx e q]
  | .vll e, q, σ, h => by
    simp only [noX] at q
    simp only [evalE, e_cx e q]
  | .itr e, q, σ, h => by simp only [evalE]
  | .ptd e, q, σ, h => by
    simp only [noX] at q
    simp only [evalE, e_cx e q]
  | .newd c, q, σ, h => by simp only [evalE]
  | .itl e, q, σ, h => by
    simp only [noX] at q
    simp only [evalE, e_cx e q]
  | .ix a i, q, σ, h => by
    simp only [noX, Bool.and_eq_true] at q
    simp only [evalE, e_cx a q.1, e_cx i q.2]
  | .slc a lo hi, q, σ, h => by
    simp only [noX, Bool.and_eq_true] at q
    simp only [evalE, e_cx a q.1.1, es_cx lo q.1.2, es_cx hi q.2]
  | .back a, q, σ, h => by
    simp only [noX] at q
    simp only [evalE, e_cx a q]
  | .fld a f, q, σ, h => by
    simp only [noX] at q
    simp only [evalE, e_cx a q]
  | .cal f es, q, σ, h => by
    simp only [noX] at q
    simp only [evalE, es_cx es q]
  | .cav f es, q, σ, h => by
    simp only [noX] at q
    simp only [evalE, es_cx es q]
  | .new f es, q, σ, h => by
    simp only [noX] at q
    simp only [evalE, es_cx es q]
  | .met o m es, q, σ, h => by
    simp only [noX, Bool.and_eq_true] at q
    simp only [evalE, e_cx o q.1, es_cx es q.2]
  | .blt b es, q, σ, h => by
    simp only [noX] at q
    simp only [evalE, es_cx es q]
  | .lc own tg k its cd el, q, σ, h => by
    simp only [noX, Bool.and_eq_true] at q
    simp only [evalE, es_cx its q.1.1, es_cx cd q.1.2, e_cx el q.2]
  | .dc own tg k its cd ke el, q, σ, h => by
    simp only [noX, Bool.and_eq_true] at q
    simp only [evalE, es_cx its q.1.1.1, es_cx cd q.1.1.2, e_cx ke q.1.2, e_cx el q.2]
  | .cml v j es cs, q, σ, h => by
    simp only [noX, Bool.and_eq_true] at q
    simp only [evalE, es_cx es q.1, es_cx cs q.2]
  | .mml c o m v j cs, q, σ, h => by
    simp only [noX, Bool.and_eq_true] at q
    simp only [evalE, e_cx o q.1, es_cx cs q.2]
  | .exf _ _, q, _, _ => by cases q
  | .exi _ _, q, _, _ => by cases q
  | .cvl _ _, q, _, _ => by cases q
theorem es_cx : ∀ (es : List E), noXs es = true → ∀ (σ : Sg) (h : Hs), evalEs W cf cx es σ h = evalEs W cf none es σ h
  | [], _, σ, h => by simp only [evalEs]
  | e :: es, q, σ, h => by
    simp only [noXs, Bool.and_eq_true] at q
    simp only [evalEs, e_cx e q.1, es_cx es q.2]
end
variable {L : Nat} {σ : Sg} {h : Hs}
theorem s_faug {a : E} {f : String} {o : Op} {e : E} (q : noX a = true) (q2 : noX e = true) : evalS W L cf cx (.faug a f o e) σ h = evalS W L cf none (.faug a f o e) σ h := by
  simp only [evalS, e_cx a q, e_cx e q2]
theorem s_fset {a : E} {f : String} {e : E} (q : noX a = true) (q2 : noX e = true) : evalS W L cf cx (.fset a f e) σ h = evalS W L cf none (.fset a f e) σ h := by
  simp only [evalS, e_cx a q, e_cx e q2]
theorem s_expr {e : E} (q : noX e = true) : evalS W L cf cx (.expr e) σ h = evalS W L cf none (.expr e) σ h := by
  simp only [evalS, e_cx e q]
theorem s_set {i : Nat} {e : E} (q : noX e = true) : evalS W L cf cx (.set i e) σ h = evalS W L cf none (.set i e) σ h := by
  simp only [evalS, e_cx e q]
theorem s_ret {e : E} (q : noX e = true) : evalS W L cf cx (.ret e) σ h = evalS W L cf none (.ret e) σ h := by
  simp only [evalS, e_cx e q]
theorem r_faug {i n : Nat} {f : String} {o : Op} {d y w : D} {c : Nat} {fs : List (String × D)} (hσ : σ[i]? = some (some (.ob n))) (e : h[n]? = some (.ins c fs)) (hf : hasF W.cls c f = true) (hl : fs.lookup f = some y) (ha : augD o y d h = .ok w h) (h9 : fs.length < 900) :
    evalS W L cf none (.faug (.var i) f o (.cst d)) σ h = .ok (.nx σ) (h.set n (.ins c (fput f w fs))) := by
  simp [evalS, evalE, hσ, isIns, e, hf, hl, ha, fsetD, h9]
end
end Rf
end

section
namespace Rf
open PySem PySem.Spec PyProof.Rows L2
/-! ## terms run lazily: what comes first is worked out, what follows waits -/
class Kt (γ : Type) where f : γ
/-- `bind`, whose continuation simp leaves alone: it is an instance -/
def R.bl {α β : Type} (r : R α) [k : Kt (α → Hs → R β)] : R β := r.bind k.f
def R.sl {α : Type} (r : R α) [k : Kt (Sg × (α → Hs → RS))] : RS := r.stm k.f.1 k.f.2
def RS.tl (r : RS) [k : Kt (Sg → Hs → RS)] : RS := r.then k.f
theorem evI : (∀ {α β : Type} (r : R α) (f : α → Hs → R β), r.bind f = @R.bl α β r ⟨f⟩) ∧ (∀ {α : Type} (r : R α) (σ : Sg) (f : α → Hs → RS), r.stm σ f = @R.sl α r ⟨(σ, f)⟩) ∧ ∀ (r : RS) (f : Sg → Hs → RS), r.then f = @RS.tl r ⟨f⟩ := ⟨fun _ _ => rfl, fun _ _ _ => rfl, fun _ _ => rfl⟩
theorem evO : (∀ {α β : Type} (r : R α) (f : α → Hs → R β), @R.bl α β r ⟨f⟩ = r.bind f) ∧ (∀ {α : Type} (r : R α) (σ : Sg) (f : α → Hs → RS), @R.sl α r ⟨(σ, f)⟩ = r.stm σ f) ∧ ∀ (r : RS) (f : Sg → Hs → RS), @RS.tl r ⟨f⟩ = r.then f := ⟨fun _ _ => rfl, fun _ _ _ => rfl, fun _ _ => rfl⟩
theorem bl_ok {α β : Type} (a : α) (h : Hs) (f : α → Hs → R β) : @R.bl α β (.ok a h) ⟨f⟩ = f a h := by unfold R.bl; exact Eq.trans rfl rfl
theorem sl_ok {α : Type} (a : α) (h : Hs) (σ : Sg) (f : α → Hs → RS) : @R.sl α (.ok a h) ⟨(σ, f)⟩ = f a h := by unfold R.sl; exact Eq.trans rfl rfl
theorem tl_nx (σ : Sg) (h : Hs) (f : Sg → Hs → RS) : @RS.tl (.ok (.nx σ) h) ⟨f⟩ = f σ h := by unfold RS.tl; exact Eq.trans rfl rfl
theorem tl_rt (d : D) (h : Hs) (f : Sg → Hs → RS) : @RS.tl (.ok (.rt d) h) ⟨f⟩ = .ok (.rt d) h := by unfold RS.tl; exact Eq.trans rfl rfl
section
variable {W : Wd} {L : Nat} {cf : CF} {cx : CXI} {cs : List (List D)} {n : Nat} {h : Hs} {σ : Sg}
def optT (o : Option Sg) (h : Hs) : RS := match o with | some σ => .ok (.nx σ) h | none => .no
@[simp] theorem optT_s (σ : Sg) (h : Hs) : optT (some σ) h = .ok (.nx σ) h := rfl
theorem v_put {o i e} : evalS W L cf none (.put o i e) σ h = (evalE W cf none e σ h).stm σ fun v h => (evalE W cf none o σ h).stm σ fun x h => (evalE W cf none i σ h).stm σ fun y h => optS (putD x y v h) σ := by
  simp only [evalS, optS] <;> rfl
theorem v_fset {o f e} : evalS W L cf none (.fset o f e) σ h = (evalE W cf none e σ h).stm σ fun v h => (evalE W cf none o σ h).stm σ fun x h => optS (fsetD W.cls x f v h) σ := by
  simp only [evalS, optS] <;> rfl
theorem v_setT {is e} : evalS W L cf none (.setT is e) σ h = (evalE W cf none e σ h).stm σ fun x h => optT (bindT (.tp is) x h σ) h := by
  simp only [evalS, optT] <;> rfl
theorem v_pass : evalS W L cf cx .pass σ h = .ok (.nx σ) h := by simp only [evalS]
theorem q_app {a b : List S} : ∀ {σ : Sg} {h : Hs}, evalB W L cf cx (a ++ b) σ h = (evalB W L cf cx a σ h).then fun σ h => evalB W L cf cx b σ h := by
  induction a with
  | nil => intro σ h; simp only [List.nil_append, evalB, RS.then_nx]
  | cons s a ih =>
    intro σ h
    simp only [List.cons_append, evalB]
    cases e : evalS W L cf cx s σ h with
    | ok f h1 => cases f <;> simp only [RS.then_nx, RS.then_rt, RS.then_bk, RS.then_ct, ih]
    | exc c fs σ1 h1 => simp only [RS.then_exc]
    | no => simp only [RS.then_no]
/-- what a chain of two comparisons makes of the first -/
def chK (b : Bool) (r : R D) (h : Hs) : R D := if b then r else .ok (.bl false) h
theorem v_chn {o o' a b c} {x y : D} {h1 h2 : Hs} {t : Bool} (e1 : evalE W cf cx a σ h = .ok x h1) (e2 : evalE W cf cx b σ h1 = .ok y h2) (e3 : cmpA W.cons o x y h2 = .ok (.bl t) h2) :
    evalE W cf cx (.chn o o' a b c) σ h = if t then (evalE W cf cx c σ h2).bind fun w h => cmpA W.cons o' y w h else .ok (.bl false) h2 := by
  simp only [evalE, e1, e2, R.bind_ok, e3]
  cases t <;> rfl
theorem v_neg {a i} (e : evalE W cf cx a σ h = .ok (.int i) h) : evalE W cf cx (.neg a) σ h = .ok (.int (-i)) h := by
  simp only [evalE, e, R.bind_ok]
end
end Rf
end

section
namespace K18
open PySem PySem.Spec PyProof.Rows L2 Rf
theorem ok__law_tells : DefOk pg.ck d__law_tells f__law_tells ("_law_tells", none) ["context", "pairs", "known", "name", "ends", "kind", "told", "pair"] ["context", "pairs"] := ⟨rfl, .inl ⟨rfl, fun _ _ _ _ _ _ us hl => match us, hl with | [_, _], _ => rfl⟩, rfl, ⟨rfl, rfl, rfl, by decide +kernel, rfl, by decide +kernel, by decide +kernel⟩, rfl, rfl, rfl, by decide +kernel⟩
theorem ok__law_deed : DefOk pg.ck d__law_deed f__law_deed ("_law_deed", none) ["state", "context", "pairs", "names", "pair", "free", "name", "kind", "choice", "other", "own"] ["state", "context", "pairs"] := ⟨rfl, .inl ⟨rfl, fun _ _ _ _ _ _ us hl => match us, hl with | [_, _, _], _ => rfl⟩, rfl, ⟨rfl, rfl, rfl, by decide +kernel, rfl, by decide +kernel, by decide +kernel⟩, rfl, rfl, rfl, by decide +kernel⟩
theorem ok__law_draw : DefOk pg.ck d__law_draw f__law_draw ("_law_draw", none) ["state", "many", "place", "cell", "one", "two", "digit"] ["state", "many"] := ⟨rfl, .inl ⟨rfl, fun _ _ _ _ _ _ us hl => match us, hl with | [_, _], _ => rfl⟩, rfl, ⟨rfl, rfl, rfl, by decide +kernel, rfl, by decide +kernel, by decide +kernel⟩, rfl, rfl, rfl, by decide +kernel⟩
theorem ok_law : DefOk pg.ck d_law f_law ("law", none) ["script", "state", "pairs", "name", "context", "other", "kept", "when", "k"] ["script"] := ⟨rfl, .inl ⟨rfl, fun _ _ _ _ _ _ us hl => match us, hl with | [_], _ => rfl⟩, rfl, ⟨rfl, rfl, rfl, by decide +kernel, rfl, by decide +kernel, by decide +kernel⟩, rfl, rfl, rfl, by decide +kernel⟩
theorem ok_Context_init : DefOk pg.ck d_Context_init f_Context_init ("Context", some "__init__") ["self", "pairs"] ["self", "pairs"] := ⟨rfl, .inr ⟨by simp [d_Context_init], fun _ _ _ _ _ _ _ us its h1 h2 => match us, h1, its, h2 with | [_, _], _, [_], _ => ⟨_, rfl, rfl⟩⟩, rfl, ⟨rfl, rfl, rfl, by decide +kernel, rfl, by decide +kernel, by decide +kernel⟩, rfl, rfl, rfl, by decide +kernel⟩
theorem ok_Context_iter : DefOk pg.ck d_Context_iter f_Context_iter ("Context", some "__iter__") ["self"] ["self"] := ⟨rfl, .inl ⟨rfl, fun _ _ _ _ _ _ us hl => match us, hl with | [_], _ => rfl⟩, rfl, ⟨rfl, rfl, rfl, by decide +kernel, rfl, by decide +kernel, by decide +kernel⟩, rfl, rfl, rfl, by decide +kernel⟩
theorem ok_Context_binds : DefOk pg.ck d_Context_binds f_Context_binds ("Context", some "binds") ["self", "name"] ["self", "name"] := ⟨rfl, .inl ⟨rfl, fun _ _ _ _ _ _ us hl => match us, hl with | [_, _], _ => rfl⟩, rfl, ⟨rfl, rfl, rfl, by decide +kernel, rfl, by decide +kernel, by decide +kernel⟩, rfl, rfl, rfl, by decide +kernel⟩
theorem ok_Context_kind : DefOk pg.ck d_Context_kind f_Context_kind ("Context", some "kind") ["self", "name"] ["self", "name"] := ⟨rfl, .inl ⟨rfl, fun _ _ _ _ _ _ us hl => match us, hl with | [_, _], _ => rfl⟩, rfl, ⟨rfl, rfl, rfl, by decide +kernel, rfl, by decide +kernel, by decide +kernel⟩, rfl, rfl, rfl, by decide +kernel⟩
theorem ok_Context_is_end : DefOk pg.ck d_Context_is_end f_Context_is_end ("Context", some "is_end") ["self", "name"] ["self", "name"] := ⟨rfl, .inl ⟨rfl, fun _ _ _ _ _ _ us hl => match us, hl with | [_, _], _ => rfl⟩, rfl, ⟨rfl, rfl, rfl, by decide +kernel, rfl, by decide +kernel, by decide +kernel⟩, rfl, rfl, rfl, by decide +kernel⟩
theorem ok_Context_bind : DefOk pg.ck d_Context_bind f_Context_bind ("Context", some "bind") ["self", "name", "kind"] ["self", "name", "kind"] := ⟨rfl, .inl ⟨rfl, fun _ _ _ _ _ _ us hl => match us, hl with | [_, _, _], _ => rfl⟩, rfl, ⟨rfl, rfl, rfl, by decide +kernel, rfl, by decide +kernel, by decide +kernel⟩, rfl, rfl, rfl, by decide +kernel⟩
theorem ok_Context_change : DefOk pg.ck d_Context_change f_Context_change ("Context", some "change") ["self", "name", "talk"] ["self", "name", "talk"] := ⟨rfl, .inl ⟨rfl, fun _ _ _ _ _ _ us hl => match us, hl with | [_, _, _], _ => rfl⟩, rfl, ⟨rfl, rfl, rfl, by decide +kernel, rfl, by decide +kernel, by decide +kernel⟩, rfl, rfl, rfl, by decide +kernel⟩
theorem ok_Context_release : DefOk pg.ck d_Context_release f_Context_release ("Context", some "release") ["self", "name"] ["self", "name"] := ⟨rfl, .inl ⟨rfl, fun _ _ _ _ _ _ us hl => match us, hl with | [_, _], _ => rfl⟩, rfl, ⟨rfl, rfl, rfl, by decide +kernel, rfl, by decide +kernel, by decide +kernel⟩, rfl, rfl, rfl, by decide +kernel⟩
theorem ok_Context_ends : DefOk pg.ck d_Context_ends f_Context_ends ("Context", some "ends") ["self", "name"] ["self"] := ⟨rfl, .inl ⟨rfl, fun _ _ _ _ _ _ us hl => match us, hl with | [_], _ => rfl⟩, rfl, ⟨rfl, rfl, rfl, by decide +kernel, rfl, by decide +kernel, by decide +kernel⟩, rfl, rfl, rfl, by decide +kernel⟩
theorem ok_Context_pairs : DefOk pg.ck d_Context_pairs f_Context_pairs ("Context", some "pairs") ["self"] ["self"] := ⟨rfl, .inl ⟨rfl, fun _ _ _ _ _ _ us hl => match us, hl with | [_], _ => rfl⟩, rfl, ⟨rfl, rfl, rfl, by decide +kernel, rfl, by decide +kernel, by decide +kernel⟩, rfl, rfl, rfl, by decide +kernel⟩
theorem ok_Context_twin : DefOk pg.ck d_Context_twin f_Context_twin ("Context", some "twin") ["self"] ["self"] := ⟨rfl, .inl ⟨rfl, fun _ _ _ _ _ _ us hl => match us, hl with | [_], _ => rfl⟩, rfl, ⟨rfl, rfl, rfl, by decide +kernel, rfl, by decide +kernel, by decide +kernel⟩, rfl, rfl, rfl, by decide +kernel⟩
theorem oks : ∀ (f : Nat) (x : Str), pg.names[f]? = some x → ∃ (fi : FI) (d : He.DefD) (N ps : List Str), pg.fns[f]? = some fi ∧ defs[f]? = some d ∧ DefOk pg.ck d fi (x, none) N ps
  | 0, _, e => by cases e; exact ⟨_, _, _, _, rfl, rfl, ok__law_tells⟩
  | 1, _, e => by cases e; exact ⟨_, _, _, _, rfl, rfl, ok__law_deed⟩
  | 2, _, e => by cases e; exact ⟨_, _, _, _, rfl, rfl, ok__law_draw⟩
  | 3, _, e => by cases e; exact ⟨_, _, _, _, rfl, rfl, ok_law⟩
  | _ + 4, _, e => by simp [pg, nmF] at e
theorem okp : pg.Ok defs := by
  refine ⟨oks, fun c k e q hq => ?_, fun c k e f hf => ?_, fun c hc => ?_, fun v j x hv => ?_, fun v j c m hv => ?_, fun j q hq => ?_, fun e he hf => ?_, fun c hc => ?_, fun c F hc => ?_⟩
  · match c, e with
    | 0, e =>
      cases e
      simp only [List.mem_cons, List.not_mem_nil, or_false] at hq
      rcases hq with rfl | rfl | rfl | rfl | rfl | rfl | rfl | rfl | rfl | rfl
      · exact ⟨_, _, _, _, rfl, rfl, ok_Context_iter⟩
      · exact ⟨_, _, _, _, rfl, rfl, ok_Context_binds⟩
      · exact ⟨_, _, _, _, rfl, rfl, ok_Context_kind⟩
      · exact ⟨_, _, _, _, rfl, rfl, ok_Context_is_end⟩
      · exact ⟨_, _, _, _, rfl, rfl, ok_Context_bind⟩
      · exact ⟨_, _, _, _, rfl, rfl, ok_Context_change⟩
      · exact ⟨_, _, _, _, rfl, rfl, ok_Context_release⟩
      · exact ⟨_, _, _, _, rfl, rfl, ok_Context_ends⟩
      · exact ⟨_, _, _, _, rfl, rfl, ok_Context_pairs⟩
      · exact ⟨_, _, _, _, rfl, rfl, ok_Context_twin⟩
    | _ + 1, e => simp [pg, clsI] at e
  · match c, e with
    | 0, e => cases e; cases hf; exact ⟨_, _, _, _, rfl, rfl, ok_Context_init⟩
    | _ + 1, e => simp [pg, clsI] at e
  · simp only [pg, List.mem_cons, List.not_mem_nil, or_false] at hc
    rcases hc with rfl
    · exact ⟨_, _, rfl, rfl⟩
  · simp [pg] at hv
  · simp [pg] at hv
  · simp [pg] at hq
  · simp [pg, exsI] at he
  · simp only [pg, List.mem_cons, List.not_mem_nil, or_false] at hc
    rcases hc with rfl
    · exact ⟨_, _, _, _, _, _, rfl, rfl, rfl, rfl, rfl, ok_Context_init, rfl, by simp, fun _ _ _ _ _ _ _ us its h1 h2 => match us, h1, its, h2 with | [_], _, [_], _ => ⟨_, rfl, rfl⟩⟩
  · simp only [pg, List.mem_cons, List.not_mem_nil, or_false, Prod.mk.injEq] at hc
    rcases hc with ⟨rfl, rfl⟩
    · exact ⟨_, 5, rfl, by simp, by simp, rfl⟩
end K18
end

section
set_option maxHeartbeats 0
open PySem PySem.W PySem.Calls PyProof.Rows
theorem K18.holds (hrun : ∀ (ns : List Int) (d : Rf.D) (h : Rf.Hs), ns.length ≤ 63 → (d = .ob 0 ∧ h = [.scr ns]) ∨ (d = .con K18.nCon ∧ h = []) → ∃ h', Rf.callF (K18.pg.wd ns) K18.fuel K18.depth K18.nLaw [d] h = .ok (.bl true) h') : PySem.Challenge.rw_pourparler_k18_contexts.Holds := by
  w_on; o_law
  refine HandSHeadRun.head_any (r := OpenLaw.row PySem.Challenge.rw_pourparler_k18_contexts) (q := view (OpenLaw.row PySem.Challenge.rw_pourparler_k18_contexts).prog [K18.iLaw]) (H := K18.hk) (ob := K18.ob) (M := 6000) (loose := K18.loose) (d := HandSHeadRun.topDef (OpenLaw.row PySem.Challenge.rw_pourparler_k18_contexts).prog K18.iLaw) (kwd := []) K18.ob_eq
    (by kernel_rfl) (fun s => by kernel_rfl) K18.run (by kernel_rfl) (by kernel_rfl) (by kernel_rfl) (by rfl) (by first | assumption | decide +kernel) (by decide +kernel) ⟨rfl, rfl, rfl, rfl, rfl, by decide +kernel⟩ ?hw ?hc
  case hw => w_witness2
  case hc =>
    refine Rf.walk_GT (l := PySem.Challenge.rw_pourparler_k18_contexts) (n := 63) (k := 2 * K18.depth + 1) (x := "script") (CX := L2.CX0) rfl (by decide) (by kernel_rfl) ⟨rfl, by decide, by decide⟩ ?F (fun _ _ _ _ z => z)
    intro w mg fa h Y G hmg0
    obtain ⟨K, KX, c⟩ := Y
    have hmg : mg ("law" : PySem.Str) = some (.ref fa) := by
      have e : (HandSHeadRun.topDef (OpenLaw.row PySem.Challenge.rw_pourparler_k18_contexts).prog K18.iLaw).name = ("law" : PySem.Str) := by kernel_rfl
      rw [← e]
      exact hmg0
    obtain ⟨fd, sp, hb, hs, hF⟩ := Rf.facts (p := K18.pg) (L := K18.fuel) (n := K18.depth) (f := K18.nLaw) (P := (PySem.Challenge.rw_pourparler_k18_contexts).prog) (w := w) K18.okp rfl rfl rfl K18.ok_law rfl hrun KX G hmg c.t.d (Rf.exB_l c.more) (Rf.dcs_of c.t c.more)
    have tb : ∀ t ∈ K18.pg.tabs K, ∃ q ∈ K18.pg.tf.map (·.1), t = He.cT K q := fun t ht => by
      obtain ⟨q, hq, rfl⟩ := List.mem_map.mp ht
      exact ⟨q.1, List.mem_map.mpr ⟨q, hq, rfl⟩, rfl⟩
    exact ⟨K, fd, sp, K18.pg.tabs K, KX, fun t ht => (by obtain ⟨q, hq, rfl⟩ := tb t ht; exact c.empty q hq), fun t ht => (by obtain ⟨q, hq, rfl⟩ := tb t ht; exact c.out q hq), fun t ht => (by obtain ⟨q, hq, rfl⟩ := tb t ht; exact PySem.W.codeHd_of_K KX (c.hd q hq)), hb, hs, hF⟩
end

section
namespace K18
open PySem PySem.Spec PyProof.Rows L2 Rf
def Has (W : Wd) : Prop := ∀ i fi, i < 200 → fns[i]? = some fi → W.fns[i]? = some fi
abbrev LC := List Char
local macro_rules | `(tactic| simp! only [$ts,*]) => `(tactic| simp [q_set, q_put, q_expr, q_ret, q_retN, q_ife, q_cons, q_nil, q_cst, q_bin, q_neg, q_cmp, q_and, q_or, q_not, q_eife, q_tup, q_lst, q_dic, q_ix, q_slc, q_cal, q_blt, q_enil, q_econs, q_met, q_raise, q_gst, q_gni, q_glb, q_fld, q_fset, r_for, r_lc, r_var, r_ix_ob, r_sl_ob, r_put_ob, r_len_ob, r_tup_ob, r_lst_ob, r_addl, r_app, r_it_ob, r_in_ob, r_nin_ob, r_fld, r_fset, optI, Rf.start, $ts,*])
theorem vv {W : Wd} {cf : CF} {cx : CXI} {σ : Sg} {h : Hs} {i : Nat} {d : D} (e : σ[i]? = some (some d)) : evalE W cf cx (.var i) σ h = .ok d h := by rw [r_var, e]; rfl
/-- what stands stays, p aside -/
def Kp (p : Nat) (h h' : Hs) : Prop := h.length ≤ h'.length ∧ ∀ i mo, i ≠ p → h[i]? = some mo → h'[i]? = some mo
theorem Kp.refl {p h} : Kp p h h := ⟨Nat.le_refl _, fun _ _ _ e => e⟩
theorem Kp.trans {p h h1 h2} (a : Kp p h h1) (b : Kp p h1 h2) : Kp p h h2 := ⟨Nat.le_trans a.1 b.1, fun i mo hi e => b.2 i mo hi (a.2 i mo hi e)⟩
theorem Kp.set {p h o} : Kp p h (h.set p o) := ⟨by simp, fun i mo hi e => by rw [List.getElem?_set_ne (Ne.symm hi)]; exact e⟩
theorem Kp.app {p h t} : Kp p h (h ++ t) := ⟨by simp, fun i mo hi e => lk_app e⟩
/-- the script -/
def Sc (W : Wd) (d : D) (ns : List Int) (h : Hs) : Prop := (d = .ob 0 ∧ h[0]? = some (.scr ns)) ∨ (d = .con W.cons.length ∧ W.scr = ns)
theorem Sc.kp {W d ns p h h'} (s : Sc W d ns h) (hp : d = .ob 0 → p ≠ 0) (k : Kp p h h') : Sc W d ns h' := by
  rcases s with ⟨e, g⟩ | s
  · exact .inl ⟨e, k.2 0 _ (Ne.symm (hp e)) g⟩
  · exact .inr s
theorem sc_len {W d ns h} (s : Sc W d ns h) : bltC W .len [d] h = .ok (.int (ns.length : Int)) h := by
  rcases s with ⟨rfl, e⟩ | ⟨rfl, e⟩
  · rw [r_len_ob, e, lenO_s]
  · rw [r_len_con, e]
theorem sc_ix {W d ns h} (s : Sc W d ns h) {k : Nat} (hk : k < ns.length) : ixD W.cs2 d (.int (k : Int)) h = .ok (.int ns[k]) h := by
  have ai : L2.atI ns (k : Int) = some ns[k] := Rf.atI_nat hk
  rcases s with ⟨rfl, e⟩ | ⟨rfl, e⟩
  · rw [r_ix_ob, e, ixO_s, ai]; rfl
  · rw [r_ix_con, e, ai]; rfl
/-- the state at p -/
def SO (W : Wd) (p : Nat) (d : D) (ns : List Int) (h : Hs) : Prop := (d = .ob 0 → p ≠ 0) ∧ Sc W d ns h ∧ ∃ (a : Nat) (v m : Int), h[p]? = some (.lst [d, .int (a : Int), .int v, .int m])
theorem SO.app {W p d ns h t} (s : SO W p d ns h) : SO W p d ns (h ++ t) := by
  obtain ⟨h0, h1, a, v, m, h2⟩ := s
  exact ⟨h0, h1.kp h0 Kp.app, a, v, m, lk_app h2⟩
theorem SO.lt {W p d ns h} (s : SO W p d ns h) : p < h.length := by
  obtain ⟨h0, h1, a, v, m, h2⟩ := s
  exact lk_lt h2
section
variable {W : Wd} (hW : Has W) (L : Nat)
abbrev st0 : E := .ix (.var 0) (.cst (.int 0))
abbrev st1 : E := .ix (.var 0) (.cst (.int 1))
abbrev st2 : E := .ix (.var 0) (.cst (.int 2))
abbrev st3 : E := .ix (.var 0) (.cst (.int 3))
abbrev lrg : List S := [.set 4 (.bin .mod (.blt .int [(.bin .add (.bin .add (.bin .mul (.var 3) (.cst (.int 48271))) (.bin .mul (.var 2) (.cst (.int 69621)))) st3)]) (.cst (.int 2147483647))),
      .set 5 (.bin .mod (.blt .int [(.bin .add (.bin .add (.bin .mul (.var 4) (.cst (.int 16807))) (.var 3)) (.cst (.int 11)))]) (.cst (.int 2147483629))),
      .put (.var 0) (.cst (.int 2)) (.bin .add (.bin .mul (.var 4) (.cst (.int 2147483629))) (.var 5))]
abbrev refill : List S := [.set 2 st1,
    .put (.var 0) (.cst (.int 1)) (.bin .add (.var 2) (.cst (.int 1))),
    .set 3 (.bin .add (.bin .mul (.var 2) (.cst (.int 7919))) (.cst (.int 13))),
    .ife (.cmp .lt (.var 2) (.blt .len [st0])) [.set 3 (.ix st0 (.var 2))] [],
    .ife (.chn .le .lt (.cst (.int 0)) (.var 3) (.cst (.int 1000000000000000000))) lrg [.put (.var 0) (.cst (.int 2)) (.blt .abs [(.var 3)])],
    .put (.var 0) (.cst (.int 3)) (.bin .mod (.blt .int [(.bin .add (.bin .mul st3 (.cst (.int 31))) (.var 3))]) (.cst (.int 1000003)))]
abbrev stL (d : D) (a v m : Int) : MO := .lst [d, .int a, .int v, .int m]
theorem st_ix {cf : CF} {cx : CXI} {σ : Sg} {h : Hs} {p : Nat} {d : D} {a v m : Int} (hσ : σ[0]? = some (some (.ob p))) (e : h[p]? = some (stL d a v m)) :
    evalE W cf cx st0 σ h = .ok d h ∧ evalE W cf cx st1 σ h = .ok (.int a) h ∧ evalE W cf cx st2 σ h = .ok (.int v) h ∧ evalE W cf cx st3 σ h = .ok (.int m) h := by
  refine ⟨?_, ?_, ?_, ?_⟩ <;> rw [q_ix, vv hσ, R.bind_ok, q_cst, R.bind_ok, r_ix_ob, e, ixO_l]
  · rw [atI_0]; rfl
  · rw [atI_1]; rfl
  · rw [atI_2]; rfl
  · rw [atI_3]; rfl
theorem st_put {cf : CF} {σ : Sg} {h h1 : Hs} {p : Nat} {d : D} {a v m x : Int} {e : E} (hσ : σ[0]? = some (some (.ob p))) (ev1 : evalE W cf none e σ h = .ok (.int x) h1) (g : h1[p]? = some (stL d a v m)) :
    evalS W L cf none (.put (.var 0) (.cst (.int 1)) e) σ h = .ok (.nx σ) (h1.set p (stL d x v m)) ∧ evalS W L cf none (.put (.var 0) (.cst (.int 2)) e) σ h = .ok (.nx σ) (h1.set p (stL d a x m)) ∧ evalS W L cf none (.put (.var 0) (.cst (.int 3)) e) σ h = .ok (.nx σ) (h1.set p (stL d a v x)) := by
  refine ⟨?_, ?_, ?_⟩ <;> rw [q_put, ev1, R.stm_ok, vv hσ, R.stm_ok, q_cst, R.stm_ok, r_put_ob, g, putO_l] <;> rfl
abbrev DS (p : Nat) (mm : Int) (s2 s3 s4 s5 : Option D) : Sg := [some (.ob p), some (.int mm), s2, s3, s4, s5, none]
theorem refill_ok (cf : CF) (p : Nat) (d : D) (ns : List Int) (a : Nat) (v m mm : Int) (h : Hs) (hp : d = .ob 0 → p ≠ 0) (s : Sc W d ns h) (e : h[p]? = some (stL d (a : Int) v m)) :
    ∃ (v' m' : Int) (s2 s3 s4 s5 : Option D) (h' : Hs), evalB W L cf none refill (DS p mm none none none none) h = .ok (.nx (DS p mm s2 s3 s4 s5)) h' ∧ h'[p]? = some (stL d ((a + 1 : Nat) : Int) v' m') ∧ Kp p h h' := by
  have lp := lk_lt e
  obtain ⟨h1, e1⟩ : ∃ h1, h1 = h.set p (stL d ((a : Int) + 1) v m) := ⟨_, rfl⟩
  have g1 : h1[p]? = some (stL d ((a : Int) + 1) v m) := by rw [e1]; simp [lp]
  have k1 : Kp p h h1 := by rw [e1]; exact Kp.set
  have b1 : evalS W L cf none (.set 2 st1) (DS p mm none none none none) h = .ok (.nx (DS p mm (some (.int (a : Int))) none none none)) h := by
    rw [q_set, (st_ix (d := d) (a := (a : Int)) (v := v) (m := m) rfl e).2.1, R.stm_ok]; rfl
  have b2 : evalS W L cf none (.put (.var 0) (.cst (.int 1)) (.bin .add (.var 2) (.cst (.int 1)))) (DS p mm (some (.int (a : Int))) none none none) h = .ok (.nx (DS p mm (some (.int (a : Int))) none none none)) h1 := by
    rw [e1]
    exact (st_put L (d := d) (a := (a : Int)) (v := v) (m := m) (x := (a : Int) + 1) rfl (by rw [q_bin, vv rfl, R.bind_ok, q_cst, R.bind_ok, r_add]) e).1
  have b3 : evalS W L cf none (.set 3 (.bin .add (.bin .mul (.var 2) (.cst (.int 7919))) (.cst (.int 13)))) (DS p mm (some (.int (a : Int))) none none none) h1 = .ok (.nx (DS p mm (some (.int (a : Int))) (some (.int ((a : Int) * 7919 + 13))) none none)) h1 := by
    rw [q_set, q_bin, q_bin, vv rfl, R.bind_ok, q_cst, R.bind_ok, r_mul, if_pos (.inr (by constructor <;> omega)), R.bind_ok, q_cst, R.bind_ok, r_add, R.stm_ok]
    rfl
  have sc1 := s.kp hp k1
  have b4 : ∃ c : Int, evalS W L cf none (.ife (.cmp .lt (.var 2) (.blt .len [st0])) [.set 3 (.ix st0 (.var 2))] []) (DS p mm (some (.int (a : Int))) (some (.int ((a : Int) * 7919 + 13))) none none) h1 = .ok (.nx (DS p mm (some (.int (a : Int))) (some (.int c)) none none)) h1 := by
    have i0 : ∀ s3, evalE W cf none st0 (DS p mm (some (.int (a : Int))) s3 none none) h1 = .ok d h1 := fun s3 => (st_ix rfl g1).1
    have ln : evalE W cf none (.cmp .lt (.var 2) (.blt .len [st0])) (DS p mm (some (.int (a : Int))) (some (.int ((a : Int) * 7919 + 13))) none none) h1 = .ok (.bl (decide (a < ns.length))) h1 := by
      rw [q_cmp, vv rfl, R.bind_ok, q_blt, q_econs, i0, R.bind_ok, q_enil, R.bind_ok, R.bind_ok, sc_len sc1, R.bind_ok, r_lt]
      simp
    by_cases q : a < ns.length
    · refine ⟨ns[a], ?_⟩
      rw [q_ife, ln, R.stm_ok, r_tbl, R.stm_ok, if_pos (by simpa using q), q_cons, q_set, q_ix, i0, R.bind_ok, vv rfl, R.bind_ok, sc_ix sc1 q, R.stm_ok, RS.then_nx, q_nil]
      rfl
    · refine ⟨(a : Int) * 7919 + 13, ?_⟩
      rw [q_ife, ln, R.stm_ok, r_tbl, R.stm_ok, if_neg (by simpa using q), q_nil]
  obtain ⟨c, b4⟩ := b4
  have b5 : ∃ (s4 s5 : Option D) (v' : Int), evalS W L cf none (.ife (.chn .le .lt (.cst (.int 0)) (.var 3) (.cst (.int 1000000000000000000))) lrg [.put (.var 0) (.cst (.int 2)) (.blt .abs [(.var 3)])]) (DS p mm (some (.int (a : Int))) (some (.int c)) none none) h1 = .ok (.nx (DS p mm (some (.int (a : Int))) (some (.int c)) s4 s5)) (h1.set p (stL d ((a : Int) + 1) v' m)) := by
    have cc : ∃ b, evalE W cf none (.chn .le .lt (.cst (.int 0)) (.var 3) (.cst (.int 1000000000000000000))) (DS p mm (some (.int (a : Int))) (some (.int c)) none none) h1 = .ok (.bl b) h1 := by
      by_cases q : (0 : Int) ≤ c
      · refine ⟨decide (c < 1000000000000000000), ?_⟩
        simp [evalE, r_var, q]
      · refine ⟨false, ?_⟩
        simp [evalE, r_var, q]
    obtain ⟨b, cc⟩ := cc
    rw [q_ife, cc, R.stm_ok, r_tbl, R.stm_ok]
    cases b with
    | true =>
      obtain ⟨one, eo⟩ : ∃ one, one = (c * 48271 + (a : Int) * 69621 + m).fmod 2147483647 := ⟨_, rfl⟩
      obtain ⟨two, et⟩ : ∃ two, two = (one * 16807 + c + 11).fmod 2147483629 := ⟨_, rfl⟩
      have i3 := (st_ix (W := W) (cf := cf) (cx := none) (σ := DS p mm (some (.int (a : Int))) (some (.int c)) none none) rfl g1).2.2.2
      have c1 : evalS W L cf none (.set 4 (.bin .mod (.blt .int [(.bin .add (.bin .add (.bin .mul (.var 3) (.cst (.int 48271))) (.bin .mul (.var 2) (.cst (.int 69621)))) st3)]) (.cst (.int 2147483647)))) (DS p mm (some (.int (a : Int))) (some (.int c)) none none) h1 = .ok (.nx (DS p mm (some (.int (a : Int))) (some (.int c)) (some (.int one)) none)) h1 := by
        rw [q_set, q_bin, q_blt, q_econs, q_bin, q_bin, q_bin, vv rfl, R.bind_ok, q_cst, R.bind_ok, r_mul, if_pos (.inr (by constructor <;> omega)), R.bind_ok, q_bin, vv rfl, R.bind_ok, q_cst, R.bind_ok, r_mul, if_pos (.inr (by constructor <;> omega)), R.bind_ok, r_add, R.bind_ok, i3, R.bind_ok, r_add, R.bind_ok, q_enil, R.bind_ok, R.bind_ok, r_int, R.bind_ok, q_cst, R.bind_ok, r_mod, if_pos (by decide), R.stm_ok, eo]
        rfl
      have c2 : evalS W L cf none (.set 5 (.bin .mod (.blt .int [(.bin .add (.bin .add (.bin .mul (.var 4) (.cst (.int 16807))) (.var 3)) (.cst (.int 11)))]) (.cst (.int 2147483629)))) (DS p mm (some (.int (a : Int))) (some (.int c)) (some (.int one)) none) h1 = .ok (.nx (DS p mm (some (.int (a : Int))) (some (.int c)) (some (.int one)) (some (.int two)))) h1 := by
        simp! only [et]
      refine ⟨some (.int one), some (.int two), one * 2147483629 + two, ?_⟩
      rw [if_pos rfl, q_cons, c1, RS.then_nx, q_cons, c2, RS.then_nx, q_cons, (st_put L (x := one * 2147483629 + two) rfl (by rw [q_bin, q_bin, vv rfl, R.bind_ok, q_cst, R.bind_ok, r_mul, if_pos (.inr (by constructor <;> omega)), R.bind_ok, vv rfl, R.bind_ok, r_add]) g1).2.1, RS.then_nx, q_nil]
    | false =>
      refine ⟨none, none, if c < 0 then -c else c, ?_⟩
      rw [if_neg (by simp), q_cons, (st_put L (x := if c < 0 then -c else c) rfl (by rw [q_blt, q_econs, vv rfl, R.bind_ok, q_enil, R.bind_ok, R.bind_ok, r_abs]) g1).2.1, RS.then_nx, q_nil]
  obtain ⟨s4, s5, v', b5⟩ := b5
  obtain ⟨h2, e2⟩ : ∃ h2, h2 = h1.set p (stL d ((a : Int) + 1) v' m) := ⟨_, rfl⟩
  have g2 : h2[p]? = some (stL d ((a : Int) + 1) v' m) := by rw [e2]; simp [lk_lt g1]
  rw [← e2] at b5
  have i3 := (st_ix (W := W) (cf := cf) (cx := none) (σ := DS p mm (some (.int (a : Int))) (some (.int c)) s4 s5) rfl g2).2.2.2
  have b6 := (st_put (W := W) L (cf := cf) (σ := DS p mm (some (.int (a : Int))) (some (.int c)) s4 s5) (e := .bin .mod (.blt .int [(.bin .add (.bin .mul st3 (.cst (.int 31))) (.var 3))]) (.cst (.int 1000003))) (x := (m * 31 + c).fmod 1000003) rfl (by rw [q_bin, q_blt, q_econs, q_bin, q_bin, i3, R.bind_ok, q_cst, R.bind_ok, r_mul, if_pos (.inr (by constructor <;> omega)), R.bind_ok, vv rfl, R.bind_ok, r_add, R.bind_ok, q_enil, R.bind_ok, R.bind_ok, r_int, R.bind_ok, q_cst, R.bind_ok, r_mod, if_pos (by decide)]) g2).2.2
  refine ⟨v', (m * 31 + c).fmod 1000003, some (.int (a : Int)), some (.int c), s4, s5, h2.set p (stL d ((a : Int) + 1) v' ((m * 31 + c).fmod 1000003)), ?_, by simp [lk_lt g2], k1.trans ((by rw [e2]; exact Kp.set : Kp p h1 h2).trans Kp.set)⟩
  rw [q_cons, b1, RS.then_nx, q_cons, b2, RS.then_nx, q_cons, b3, RS.then_nx, q_cons, b4, RS.then_nx, q_cons, b5, RS.then_nx, q_cons, b6, RS.then_nx, q_nil]
include hW
theorem draw_ok (N p : Nat) (d : D) (ns : List Int) (mm : Int) (hm : 0 < mm) (hm2 : mm < 1073741824) (h : Hs) (P : SO W p d ns h) :
    ∃ (x : Int) (h' : Hs), callF W L (N + 1) 2 [.ob p, .int mm] h = .ok (.int x) h' ∧ 0 ≤ x ∧ x < mm ∧ SO W p d ns h' ∧ Kp p h h' := by
  obtain ⟨hp, s, a, v, m, e⟩ := P
  have eb : f__law_draw.body = [.ife (.cmp .le st2 (.cst (.int 0))) refill [], .set 6 (.bin .mod (.blt .int [st2]) (.var 1)), .put (.var 0) (.cst (.int 2)) (.bin .fdiv (.blt .int [st2]) (.var 1)), .ret (.var 6)] := rfl
  have first : ∃ (a' : Nat) (v' m' : Int) (s2 s3 s4 s5 : Option D) (h1 : Hs), evalS W L (callF W L N) none (.ife (.cmp .le st2 (.cst (.int 0))) refill []) (DS p mm none none none none) h = .ok (.nx (DS p mm s2 s3 s4 s5)) h1 ∧ h1[p]? = some (stL d (a' : Int) v' m') ∧ Kp p h h1 := by
    have cc : evalE W (callF W L N) none (.cmp .le st2 (.cst (.int 0))) (DS p mm none none none none) h = .ok (.bl (decide (v ≤ 0))) h := by
      rw [q_cmp, (st_ix rfl e).2.2.1, R.bind_ok, q_cst, R.bind_ok, r_le]
    by_cases q : v ≤ 0
    · obtain ⟨v', m', s2, s3, s4, s5, h1, x1, g1, k1⟩ := refill_ok L (callF W L N) p d ns a v m mm h hp s e
      refine ⟨a + 1, v', m', s2, s3, s4, s5, h1, ?_, g1, k1⟩
      rw [q_ife, cc, R.stm_ok, r_tbl, R.stm_ok, if_pos (by simpa using q), x1]
    · refine ⟨a, v, m, none, none, none, none, h, ?_, e, Kp.refl⟩
      rw [q_ife, cc, R.stm_ok, r_tbl, R.stm_ok, if_neg (by simpa using q), q_nil]
  obtain ⟨a', v', m', s2, s3, s4, s5, h1, x1, g1, k1⟩ := first
  have m0 : mm ≠ 0 := by omega
  have m1 : mm.natAbs < 1073741824 := by omega
  have s1 : evalS W L (callF W L N) none (.set 6 (.bin .mod (.blt .int [st2]) (.var 1))) (DS p mm s2 s3 s4 s5) h1 = .ok (.nx [some (.ob p), some (.int mm), s2, s3, s4, s5, some (.int (v'.fmod mm))]) h1 := by
    rw [q_set, q_bin, q_blt, q_econs, (st_ix rfl g1).2.2.1, R.bind_ok, q_enil, R.bind_ok, R.bind_ok, r_int, R.bind_ok, vv rfl, R.bind_ok, r_mod, if_pos m0, R.stm_ok]
    rfl
  have i2 := (st_ix (W := W) (cf := callF W L N) (cx := none) (σ := [some (.ob p), some (.int mm), s2, s3, s4, s5, some (.int (v'.fmod mm))]) rfl g1).2.2.1
  have s2' := (st_put (W := W) L (cf := callF W L N) (σ := [some (.ob p), some (.int mm), s2, s3, s4, s5, some (.int (v'.fmod mm))]) (e := .bin .fdiv (.blt .int [st2]) (.var 1)) (x := v'.fdiv mm) rfl (by rw [q_bin, q_blt, q_econs, i2, R.bind_ok, q_enil, R.bind_ok, R.bind_ok, r_int, R.bind_ok, vv rfl, R.bind_ok, r_fdiv, if_pos ⟨m0, m1⟩]) g1).2.1
  refine ⟨v'.fmod mm, h1.set p (stL d (a' : Int) (v'.fdiv mm) m'), ?_, Int.fmod_nonneg_of_pos _ hm, Int.fmod_lt_of_pos _ hm, ⟨hp, (s.kp hp k1).kp hp Kp.set, a', v'.fdiv mm, m', by simp [lk_lt g1]⟩, k1.trans Kp.set⟩
  rw [callF_s (hW 2 _ (by decide) rfl) rfl, eb, show Rf.start f__law_draw.ns [.ob p, .int mm] = DS p mm none none none none from rfl, q_cons, x1, RS.then_nx, q_cons, s1, RS.then_nx, q_cons, s2', RS.then_nx, q_cons, q_ret, vv rfl, R.stm_ok]
  rfl
theorem drawE {M p : Nat} (hM : 1 ≤ M) {d : D} {ns : List Int} {mm : Int} (hm : 0 < mm) (hm2 : mm < 1073741824) {σ : Sg} {i : Nat} (hσ : σ[i]? = some (some (.ob p))) (cx : CXI) {h : Hs} (P : SO W p d ns h) :
    ∃ (x : Int) (h' : Hs), evalE W (callF W L M) cx (.cal 2 [.var i, .cst (.int mm)]) σ h = .ok (.int x) h' ∧ 0 ≤ x ∧ x < mm ∧ SO W p d ns h' ∧ Kp p h h' := by
  obtain ⟨N, rfl⟩ : ∃ N, M = N + 1 := ⟨M - 1, by omega⟩
  obtain ⟨x, h', e, r⟩ := draw_ok hW L N p d ns mm hm hm2 h P
  refine ⟨x, h', ?_, r⟩
  rw [q_cal, q_econs, vv hσ, R.bind_ok, q_econs, q_cst, R.bind_ok, q_enil, R.bind_ok, R.bind_ok, R.bind_ok, e]
end
end K18
end

section
namespace K18
open PySem PySem.Spec PyProof.Rows L2 Rf
local macro_rules | `(tactic| simp! only [$ts,*]) => `(tactic| (simp only [↓evI, bl_ok, sl_ok, tl_nx, tl_rt, q_set, v_put, v_fset, v_setT, v_pass, q_expr, q_ret, q_retN, q_ife, q_cons, q_nil, q_cst, q_bin, q_cmp, q_and, q_or, q_not, q_eife, q_tup, q_lst, q_dic, q_ix, q_slc, q_cal, q_blt, q_enil, q_econs, q_met, q_fld, r_for, r_lc, r_var, Rf.start, RS.fin_nx, RS.fin_rt, getV_s, ofO_some, r_tbl, optS_s, optT_s, List.set_cons_zero, List.set_cons_succ, List.getElem?_cons_zero, List.getElem?_cons_succ, List.map, List.replicate, List.length_cons, List.length_nil, List.append_eq, List.nil_append, List.cons_append, Nat.reduceAdd, Nat.reduceSub, Nat.reduceLeDiff, sizeLine_eq, Bool.not_true, Bool.not_false, Bool.false_eq_true, if_true, if_false, ↓reduceIte, $ts,*] <;> try simp only [evO]))
abbrev cInt : LC := ['i', 'n', 't']
abbrev cBool : LC := ['b', 'o', 'o', 'l']
def ctI : CI := ⟨[("__iter__", 5), ("binds", 6), ("kind", 7), ("is_end", 8), ("bind", 9), ("change", 10), ("release", 11), ("ends", 12), ("pairs", 13), ("twin", 14)], some 4, ["_kinds"]⟩
abbrev cC : Nat := 0
def HasC (W : Wd) : Prop := W.cls[cC]? = some ctI
/-- names and what they are bound to -/
abbrev Ct := List (LC × D)
def kvD (p : LC × D) : D × D := (.str p.1, p.2)
def prD (p : LC × D) : D := .tup [.str p.1, p.2]
def kvs (ps : Ct) : List (D × D) := ps.map kvD
def chg (ps : Ct) (n : LC) (k : D) : Ct := ps.map fun p => if p.1 = n then (p.1, k) else p
def del (ps : Ct) (n : LC) : Ct := ps.filter fun p => !(p.1 == n)
theorem get_kv {n : LC} : ∀ (ps : Ct), kvGet (kvs ps) (.str n) = ps.lookup n
  | [] => rfl
  | (a, k) :: ps => by
    have ih := get_kv (n := n) ps
    simp only [kvs, List.map_cons, kvD, kvGet, eqv, List.lookup_cons]
    by_cases q : a = n
    · subst q; simp
    · have q2 : (n == a) = false := by simpa using fun e => q e.symm
      rw [q2]
      simpa [q, kvs] using ih
theorem ok_kv (ps : Ct) (n : LC) : okK false (kvs ps) (.str n) = true := by
  simp [okK, isK, kvs, kvD]
theorem mem_lookup {n : LC} : ∀ {ps : Ct} {k : D}, ps.lookup n = some k → (n, k) ∈ ps
  | (a, b) :: ps, k, e => by
    simp only [List.lookup_cons] at e
    by_cases q : n = a
    · subst q; simp at e; subst e; exact List.mem_cons_self
    · have q2 : (n == a) = false := by simpa using q
      rw [q2] at e
      exact List.mem_cons_of_mem _ (mem_lookup e)
theorem lookup_mem {n : LC} : ∀ {ps : Ct}, (ps.lookup n).isSome = true ↔ n ∈ ps.map (·.1)
  | [] => by simp
  | (a, b) :: ps => by
    simp only [List.lookup_cons, List.map_cons, List.mem_cons]
    by_cases q : n = a
    · subst q; simp
    · have q2 : (n == a) = false := by simpa using q
      rw [q2]
      simp only [q, false_or]
      exact lookup_mem
theorem any_kv {n : LC} (ps : Ct) : ((kvs ps).any fun p => eqv p.1 (.str n)) = (ps.lookup n).isSome := by
  have : ((kvs ps).any fun p => eqv p.1 (.str n)) = true ↔ (ps.lookup n).isSome = true := by
    rw [lookup_mem]
    simp [kvs, kvD, eqv]
  cases h1 : ((kvs ps).any fun p => eqv p.1 (.str n)) <;> cases h2 : (ps.lookup n).isSome <;> simp_all
theorem put_new {ps : Ct} {n : LC} {k : D} (e : ps.lookup n = none) : kvPut (kvs ps) (.str n) k = kvs (ps ++ [(n, k)]) := by
  unfold kvPut
  rw [any_kv, e]
  simp [kvs, kvD]
theorem put_old {ps : Ct} {n : LC} {k : D} (e : (ps.lookup n).isSome = true) : kvPut (kvs ps) (.str n) k = kvs (chg ps n k) := by
  unfold kvPut
  rw [any_kv, e, if_pos rfl]
  simp only [kvs, chg, List.map_map]
  apply List.map_congr_left
  intro p _
  simp only [Function.comp, kvD, eqv, beq_iff_eq]
  split <;> rfl
theorem drop_kv {ps : Ct} {n : LC} : kvDrop (kvs ps) (.str n) = kvs (del ps n) := by
  simp only [kvDrop, kvs, del, List.filter_map]
  rfl
theorem mrg_kv : ∀ (cs acc : Ct), ((acc ++ cs).map (·.1)).Nodup → kvMrg (kvs acc) (kvs cs) = kvs (acc ++ cs)
  | [], acc, _ => by simp [kvMrg, kvs]
  | (s, k) :: cs, acc, nd => by
    have e1 : acc.lookup s = none := by
      cases q : acc.lookup s with
      | none => rfl
      | some v =>
        have : s ∈ acc.map (·.1) := lookup_mem.mp (by rw [q]; rfl)
        simp only [List.map_append, List.map_cons, List.nodup_append, List.mem_cons] at nd
        exact absurd rfl (nd.2.2 s this s (.inl rfl))
    have := mrg_kv cs (acc ++ [(s, k)]) (by simpa using nd)
    show kvMrg (kvs acc) (kvD (s, k) :: kvs cs) = _
    rw [show kvMrg (kvs acc) (kvD (s, k) :: kvs cs) = kvMrg (kvPut (kvs acc) (.str s) k) (kvs cs) from rfl, put_new e1, this]
    simp
theorem prs_kv : ∀ (ps : Ct), prsOf (ps.map prD) = some (kvs ps)
  | [] => rfl
  | p :: ps => by simp [prsOf, prD, isK, prs_kv ps, kvs, kvD]
/-- what a name may be bound to -/
def isE : D → Bool | .tup _ => true | _ => false
def kOk (k : D) : Prop := flat k = true ∧ dep k ≤ 50 ∧ (k = .str cInt ∨ k = .str cBool ∨ ∃ xs, k = .tup xs)
structure PO (ps : Ct) : Prop where
  nd : (ps.map (·.1)).Nodup
  ks : ∀ p ∈ ps, kOk p.2
  le : ps.length ≤ 100
theorem PO.mrg {ps : Ct} (o : PO ps) : kvMrg [] (kvs ps) = kvs ps := mrg_kv ps [] (by simpa using o.nd)
theorem kOk.tup {k : D} (o : kOk k) {W : Wd} {h : Hs} : bltC W .isTup [k] h = .ok (.bl (isE k)) h := by
  rcases o.2.2 with rfl | rfl | ⟨xs, rfl⟩ <;> rfl
/-- a context: the object, its dict -/
structure CT (c m : Nat) (lk : Bool) (ps : Ct) (h : Hs) : Prop where
  ob : h[c]? = some (.ins cC [("_kinds", .ob m)])
  ki : h[m]? = some (.dic lk false (kvs ps))
theorem CT.app {c m lk ps h t} (o : CT c m lk ps h) : CT c m lk ps (h ++ t) := ⟨lk_app o.ob, lk_app o.ki⟩
section
variable {W : Wd} (hW : Has W) (hC : HasC W) (L : Nat)
variable {c m : Nat} {lk : Bool} {ps : Ct} {h : Hs} {N : Nat}
include hC
omit hW in
theorem CT.fld (o : CT c m lk ps h) : fldD W.cls (.ob c) "_kinds" h = .ok (.ob m) h := by
  rw [r_fld, o.ob, fldO_i]
  have : hasF W.cls cC "_kinds" = true := by unfold hasF; rw [hC]; rfl
  rw [this]; rfl
omit hW hC in
theorem CT.in_ (o : CT c m lk ps h) (n : LC) {cs : List (List D)} : cmpA cs .in_ (.str n) (.ob m) h = .ok (.bl (ps.lookup n).isSome) h := by
  rw [r_in_ob, o.ki, inO_d, ok_kv, if_pos rfl, get_kv]; rfl
omit hW hC in
theorem CT.ix (o : CT c m lk ps h) {n : LC} {k : D} (e : ps.lookup n = some k) {cs : List (List D)} : ixD cs (.ob m) (.str n) h = .ok k h := by
  rw [r_ix_ob, o.ki, ixO_d, ok_kv, if_pos rfl, get_kv, e]; rfl
omit hW in
theorem CT.mt {es : List E} {σ : Sg} {cf : CF} (o : CT c m lk ps h) {s : String} {f : Nat} (e : ctI.meths.lookup s = some f) (ne : s ≠ "_kinds") : metK W cf s es σ (.ob c) h = (evalEs W cf none es σ h).bind fun xs h => cf f (.ob c :: xs) h :=
  r_metI o.ob hC e (by
    have q : (s == "_kinds") = false := by simpa using ne
    simp only [List.lookup_cons, q, List.lookup_nil])
include hW
theorem binds_p (o : CT c m lk ps h) (hN : 1 ≤ N) (n : LC) : callF W L N 6 [.ob c, .str n] h = .ok (.bl (ps.lookup n).isSome) h := by
  obtain ⟨M, rfl⟩ : ∃ M, N = M + 1 := ⟨N - 1, by omega⟩
  rw [callF_s (hW 6 _ (by decide) rfl) rfl]
  simp! only [f_Context_binds, o.fld hC, o.in_]
theorem kind_p (o : CT c m lk ps h) (hN : 1 ≤ N) {n : LC} {k : D} (e : ps.lookup n = some k) : callF W L N 7 [.ob c, .str n] h = .ok k h := by
  obtain ⟨M, rfl⟩ : ∃ M, N = M + 1 := ⟨N - 1, by omega⟩
  rw [callF_s (hW 7 _ (by decide) rfl) rfl]
  simp! only [f_Context_kind, o.fld hC, o.ix e]
def isEO : Option D → Bool | some k => isE k | none => false
theorem isend_p (o : CT c m lk ps h) (po : PO ps) (hN : 1 ≤ N) (n : LC) : callF W L N 8 [.ob c, .str n] h = .ok (.bl (isEO (ps.lookup n))) h := by
  obtain ⟨M, rfl⟩ : ∃ M, N = M + 1 := ⟨N - 1, by omega⟩
  rw [callF_s (hW 8 _ (by decide) rfl) rfl]
  cases e : ps.lookup n with
  | none =>
    have i := o.in_ n (cs := W.cons)
    rw [e] at i
    simp! only [f_Context_is_end, o.fld hC, i, Option.isSome_none, isEO]
  | some k =>
    have i := o.in_ n (cs := W.cons)
    rw [e] at i
    have ko := po.ks _ (mem_lookup e)
    simp! only [f_Context_is_end, o.fld hC, i, Option.isSome_some, o.ix e, ko.tup, isEO]
theorem bind_p (o : CT c m false ps h) (po : PO ps) (hN : 1 ≤ N) {n : LC} {k : D} (e : ps.lookup n = none) : callF W L N 9 [.ob c, .str n, k] h = .ok .non (h.set m (MO.dic false false (kvs (ps ++ [(n, k)])))) := by
  obtain ⟨M, rfl⟩ : ∃ M, N = M + 1 := ⟨N - 1, by omega⟩
  rw [callF_s (hW 9 _ (by decide) rfl) rfl]
  have p : putD (.ob m) (.str n) k h = some (h.set m (MO.dic false false (kvs (ps ++ [(n, k)])))) := by
    rw [r_put_ob, o.ki, putO_d, ok_kv, put_new e, if_pos]
    have := po.le
    simp [kvs, sizeLine]; omega
  simp! only [f_Context_bind, o.fld hC, p]
theorem change_p (o : CT c m false ps h) (po : PO ps) (hN : 1 ≤ N) {n : LC} {k : D} (e : (ps.lookup n).isSome = true) : callF W L N 10 [.ob c, .str n, k] h = .ok .non (h.set m (MO.dic false false (kvs (chg ps n k)))) := by
  obtain ⟨M, rfl⟩ : ∃ M, N = M + 1 := ⟨N - 1, by omega⟩
  rw [callF_s (hW 10 _ (by decide) rfl) rfl]
  have p : putD (.ob m) (.str n) k h = some (h.set m (MO.dic false false (kvs (chg ps n k)))) := by
    rw [r_put_ob, o.ki, putO_d, ok_kv, put_old e, if_pos]
    have := po.le
    simp [kvs, sizeLine]; omega
  simp! only [f_Context_change, o.fld hC, p]
theorem release_p (o : CT c m false ps h) (hN : 1 ≤ N) {n : LC} (e : (ps.lookup n).isSome = true) : callF W L N 11 [.ob c, .str n] h = .ok .non (h.set m (MO.dic false false (kvs (del ps n)))) := by
  obtain ⟨M, rfl⟩ : ∃ M, N = M + 1 := ⟨N - 1, by omega⟩
  rw [callF_s (hW 11 _ (by decide) rfl) rfl]
  have p : deldD (.ob m) (.str n) h = some (h.set m (MO.dic false false (kvs (del ps n)))) := by
    simp only [deldD, o.ki, ok_kv, get_kv, e, Bool.and_self, if_true, drop_kv]
  simp! only [f_Context_release, q_deld, o.fld hC, p]
theorem pairs_p (o : CT c m false ps h) (hN : 1 ≤ N) : callF W L N 13 [.ob c] h = .ok (.ob h.length) (h ++ [.lst (ps.map prD)]) := by
  obtain ⟨M, rfl⟩ : ∃ M, N = M + 1 := ⟨N - 1, by omega⟩
  rw [callF_s (hW 13 _ (by decide) rfl) rfl]
  have p := r_itl o.ki
  rw [show (kvs ps).map (fun p => D.tup [p.1, p.2]) = ps.map prD by simp [kvs, kvD, prD, Function.comp_def]] at p
  simp! only [f_Context_pairs, q_itl, o.fld hC, p]
/-- a new context of the pairs of a tuple -/
theorem init_p (po : PO ps) {s : Nat} (o : h[c]? = some (.ins cC [])) (hs : h[s]? = some (.ptp (ps.map prD))) (hN : 1 ≤ N) : callF W L N 4 [.ob c, .ob s] h = .ok .non ((h ++ [MO.dic false false (kvs ps)]).set c (.ins cC [("_kinds", .ob h.length)])) := by
  obtain ⟨M, rfl⟩ : ∃ M, N = M + 1 := ⟨N - 1, by omega⟩
  rw [callF_s (hW 4 _ (by decide) rfl) rfl]
  have p := r_dictp (W := W) hs (prs_kv ps)
  rw [po.mrg] at p
  have g : (h ++ [MO.dic false false (kvs ps)])[c]? = some (.ins cC []) := lk_app o
  have f : fsetD W.cls (.ob c) "_kinds" (.ob h.length) (h ++ [.dic false false (kvs ps)]) = some ((h ++ [MO.dic false false (kvs ps)]).set c (.ins cC [("_kinds", .ob h.length)])) := by
    rw [r_fset, g, fsetO_i]
    have : hasF W.cls cC "_kinds" = true := by unfold hasF; rw [hC]; rfl
    rw [this]; rfl
  simp! only [f_Context_init, p, f]
theorem init0_p (o : h[c]? = some (.ins cC [])) (hN : 1 ≤ N) : callF W L N 4 [.ob c, .con (W.cons.length + 1)] h = .ok .non ((h ++ [MO.dic false false (kvs [])]).set c (.ins cC [("_kinds", .ob h.length)])) := by
  obtain ⟨M, rfl⟩ : ∃ M, N = M + 1 := ⟨N - 1, by omega⟩
  rw [callF_s (hW 4 _ (by decide) rfl) rfl]
  have p := r_dictE (W := W) (h := h)
  have g : (h ++ [MO.dic false false []])[c]? = some (.ins cC []) := lk_app o
  have f : fsetD W.cls (.ob c) "_kinds" (.ob h.length) (h ++ [.dic false false []]) = some ((h ++ [MO.dic false false []]).set c (.ins cC [("_kinds", .ob h.length)])) := by
    rw [r_fset, g, fsetO_i]
    have : hasF W.cls cC "_kinds" = true := by unfold hasF; rw [hC]; rfl
    rw [this]; rfl
  simp! only [f_Context_init, p, f]
  rfl
/-- an expression that makes a context of a tuple of pairs -/
theorem newC {e : E} {σ : Sg} (po : PO ps) (ev1 : evalE W (callF W L N) none e σ h = .ok (.ob h.length) (h ++ [.ptp (ps.map prD)])) (hN : 1 ≤ N) :
    ∃ t, evalE W (callF W L N) none (.new cC [e]) σ h = .ok (.ob (h.length + 1)) (h ++ t) ∧ CT (h.length + 1) (h.length + 2) false ps (h ++ t) ∧ t.length = 3 := by
  refine ⟨[.ptp (ps.map prD), .ins cC [("_kinds", .ob (h.length + 2))], .dic false false (kvs ps)], ?_, ⟨by simp, by simp⟩, rfl⟩
  have i := init_p hW hC L (c := h.length + 1) (s := h.length) (h := h ++ [.ptp (ps.map prD), .ins cC []]) po (by simp) (by simp) hN
  rw [q_new hC rfl, q_econs, ev1, R.bind_ok, q_enil, R.bind_ok, R.bind_ok]
  simp only [List.length_append, List.length_cons, List.length_nil, List.append_assoc, List.cons_append, List.nil_append] at i ⊢
  rw [i, R.bind_ok, newK_n]
  congr 1
  rw [List.set_append_right _ _ (by omega)]
  simp
theorem twin_p (o : CT c m false ps h) (po : PO ps) (hN : 2 ≤ N) : ∃ t, callF W L N 14 [.ob c] h = .ok (.ob (h.length + 1)) (h ++ t) ∧ CT (h.length + 1) (h.length + 2) false ps (h ++ t) ∧ t.length = 3 := by
  obtain ⟨M, rfl⟩ : ∃ M, N = M + 1 := ⟨N - 1, by omega⟩
  have p := r_ptd o.ki
  rw [show (kvs ps).map (fun p => D.tup [p.1, p.2]) = ps.map prD by simp [kvs, kvD, prD, Function.comp_def]] at p
  obtain ⟨t, e1, o1, l1⟩ := newC hW hC L (h := h) (N := M) (σ := [some (.ob c)]) (e := .ptd (.fld (.var 0) "_kinds")) po (by simp! only [q_ptd, o.fld hC, p]) (by omega)
  refine ⟨t, ?_, o1, l1⟩
  rw [callF_s (hW 14 _ (by decide) rfl) rfl]
  simp! only [f_Context_twin, ↓e1]
end
end K18
end

section
namespace K18
open PySem PySem.Spec PyProof.Rows L2 Rf
local macro_rules | `(tactic| simp! only [$ts,*]) => `(tactic| (simp only [↓evI, bl_ok, sl_ok, tl_nx, tl_rt, q_set, v_put, v_fset, v_setT, v_pass, q_expr, q_ret, q_retN, q_ife, q_cons, q_nil, q_cst, q_bin, q_cmp, q_and, q_or, q_not, q_eife, q_tup, q_lst, q_dic, q_ix, q_slc, q_cal, q_blt, q_enil, q_econs, q_met, q_fld, r_for, r_lc, r_var, Rf.start, RS.fin_nx, RS.fin_rt, getV_s, ofO_some, r_tbl, optS_s, optT_s, List.set_cons_zero, List.set_cons_succ, List.getElem?_cons_zero, List.getElem?_cons_succ, List.map, List.replicate, List.length_cons, List.length_nil, List.append_eq, List.nil_append, List.cons_append, Nat.reduceAdd, Nat.reduceSub, Nat.reduceLeDiff, sizeLine_eq, Bool.not_true, Bool.not_false, Bool.false_eq_true, if_true, if_false, ↓reduceIte, $ts,*] <;> try simp only [evO]))
def Kx (h h' : Hs) : Prop := h.length ≤ h'.length ∧ ∀ (i : Nat) (mo : MO), h[i]? = some mo → h'[i]? = some mo
theorem Kx.refl {h} : Kx h h := ⟨Nat.le_refl _, fun _ _ e => e⟩
theorem Kx.trans {h h1 h2} (a : Kx h h1) (b : Kx h1 h2) : Kx h h2 := ⟨Nat.le_trans a.1 b.1, fun i mo e => b.2 i mo (a.2 i mo e)⟩
theorem Kx.app {h t} : Kx h (h ++ t) := ⟨by simp, fun i mo e => lk_app e⟩
theorem kxs {h h0 : Hs} {n : Nat} {o : MO} (k : Kx h0 h) (l : h0.length ≤ n) : Kx h0 (h.set n o) := ⟨by rw [List.length_set]; exact k.1, fun i mo e => by rw [List.getElem?_set_ne (by have := lk_lt e; omega)]; exact k.2 _ _ e⟩
theorem CT.kx {c m lk ps h h'} (o : CT c m lk ps h) (k : Kx h h') : CT c m lk ps h' := ⟨k.2 _ _ o.ob, k.2 _ _ o.ki⟩
theorem CT.ne {c m lk ps h} (o : CT c m lk ps h) : c ≠ m := fun e => by have := o.ob; rw [e, o.ki] at this; cases this
theorem set_self' {h : Hs} {m : Nat} {x : MO} (e : h[m]? = some x) : h.set m x = h := by
  obtain ⟨hl, e⟩ := List.getElem?_eq_some_iff.mp e
  rw [← e, List.set_getElem_self]
theorem lT_c {W : Wd} {cf : CF} {own : List Nat} {tg : Tg} {c el : E} {σ σ1 : Sg} {d : D} {b : Bool} {h h1 : Hs} (e : bindT tg d h (wipeI σ own) = some σ1) (hc : evalE W cf none c σ1 h = .ok (.bl b) h1) :
    lT W cf own tg [c] el σ d h = if b = true then ((evalE W cf none el σ1 h1).bind fun x h => .ok (some x) h).shut else .ok none h1 := by
  unfold lT lcTurn
  simp only [e, ofO_some, R.bind_ok, q_econs, hc, q_enil, cdB, r_tbl]
  cases b <;> rfl
/-- a comprehension that only reads -/
theorem lc_read {g : Gd} {turn : D → Hs → R (Option D)} {h : Hs} (hs : same g h) {α : Type} (w : α → D) (f : α → Option D) : ∀ (xs : List α) (acc : List D), (∀ x ∈ xs, turn (w x) h = .ok (f x) h) → acc.length + xs.length ≤ 1000 → lcI g turn (xs.map w) acc h = .ok (acc ++ xs.filterMap f) (endG g h)
  | [], acc, _, _ => by rw [List.map_nil, lcI_nil hs]; simp
  | x :: xs, acc, ht, hl => by
    have e := ht x List.mem_cons_self
    rw [List.length_cons] at hl
    rw [List.map_cons]
    cases q : f x with
    | none =>
      rw [q] at e
      rw [lcI_skip hs e, lc_read hs w f xs acc (fun y hy => ht y (List.mem_cons_of_mem _ hy)) (by omega), List.filterMap_cons, q]
    | some y =>
      rw [q] at e
      rw [lcI_some hs e (by simp [sizeLine]; omega), lc_read hs w f xs (acc ++ [y]) (fun y hy => ht y (List.mem_cons_of_mem _ hy)) (by simp; omega), List.filterMap_cons, q]
      simp
/-- a comprehension whose turns make new things -/
theorem lc_grow {g : Gd} {turn : D → Hs → R (Option D)} {h0 : Hs} (hs : ∀ h, Kx h0 h → same g h) {α : Type} (w : α → D) (f : α → D) : ∀ (xs : List α) (acc : List D) (h : Hs), Kx h0 h → (∀ x ∈ xs, ∀ h, Kx h0 h → ∃ h', turn (w x) h = .ok (some (f x)) h' ∧ Kx h h') → acc.length + xs.length ≤ 1000 → ∃ h', lcI g turn (xs.map w) acc h = .ok (acc ++ xs.map f) (endG g h') ∧ Kx h h'
  | [], acc, h, k, _, _ => ⟨h, by rw [List.map_nil, lcI_nil (hs h k)]; simp, Kx.refl⟩
  | x :: xs, acc, h, k, ht, hl => by
    rw [List.length_cons] at hl
    obtain ⟨h1, e1, k1⟩ := ht x List.mem_cons_self h k
    obtain ⟨h2, e2, k2⟩ := lc_grow hs w f xs (acc ++ [f x]) h1 (k.trans k1) (fun y hy => ht y (List.mem_cons_of_mem _ hy)) (by simp; omega)
    refine ⟨h2, ?_, k1.trans k2⟩
    rw [List.map_cons, lcI_some (hs h k) e1 (by simp [sizeLine]; omega), e2]
    simp
theorem for_inv {g : Gd} {turn : D → Sg → Hs → RS} {I : Nat → Sg → Hs → Prop} {P : D → Prop} {n : Nat} (hs : ∀ k σ h, I k σ h → same g h) (ht : ∀ k d σ h, k < n → P d → I k σ h → ∃ σ' h', turn d σ h = .ok (.nx σ') h' ∧ I (k + 1) σ' h') :
    ∀ (ds : List D) (k : Nat) (σ : Sg) (h : Hs), k + ds.length ≤ n → (∀ d ∈ ds, P d) → I k σ h → ∃ σ' h', forI g turn ds σ h = .ok (.nx σ') (endG g h') ∧ I (k + ds.length) σ' h'
  | [], k, σ, h, _, _, i => ⟨σ, h, forI_nil (hs k σ h i), i⟩
  | d :: ds, k, σ, h, hn, hp, i => by
    rw [List.length_cons] at hn
    obtain ⟨σ1, h1, e1, i1⟩ := ht k d σ h (by omega) (hp d List.mem_cons_self) i
    obtain ⟨σ2, h2, e2, i2⟩ := for_inv hs ht ds (k + 1) σ1 h1 (by omega) (fun d hd => hp d (List.mem_cons_of_mem _ hd)) i1
    refine ⟨σ2, h2, ?_, ?_⟩
    · rw [forI_nx (hs k σ h i) e1, e2]
    · rw [List.length_cons, show k + (ds.length + 1) = k + 1 + ds.length by omega]; exact i2
mutual
theorem eqv_refl : ∀ d : D, pur d = true → eqv d d = true
  | .non, _ => rfl
  | .bl b, _ => by simp [eqv]
  | .int i, _ => by simp [eqv]
  | .str s, _ => by simp [eqv]
  | .tup xs, h => by simp only [eqv]; exact eqvs_refl xs (by simpa [pur] using h)
  | .ob _, h => by simp [pur] at h
  | .fn _, h => by simp [pur] at h
  | .con _, h => by simp [pur] at h
theorem eqvs_refl : ∀ ds : List D, purs ds = true → eqvs ds ds = true
  | [], _ => rfl
  | d :: ds, h => by
    simp only [purs, Bool.and_eq_true] at h
    simp [eqvs, eqv_refl d h.1, eqvs_refl ds h.2]
end
theorem kOk.pur {k : D} (o : kOk k) : pur k = true := by have := o.1; simp only [flat, Bool.and_eq_true] at this; exact this.1
theorem prs_pur : ∀ {ps : Ct}, (∀ p ∈ ps, kOk p.2) → purs (ps.map prD) = true ∧ deps (ps.map prD) ≤ 60
  | [], _ => ⟨rfl, by simp [deps]⟩
  | p :: ps, h => by
    obtain ⟨h1, h2⟩ := prs_pur (ps := ps) fun q hq => h q (List.mem_cons_of_mem _ hq)
    have o := h p List.mem_cons_self
    have o2 := o.2.1
    constructor
    · simp only [List.map_cons, purs, h1, prD, Rf.pur, o.pur, Bool.and_self]
    · simp only [List.map_cons, deps, prD, dep]; omega
theorem strs_pur : ∀ (ns : List LC), purs (ns.map D.str) = true ∧ deps (ns.map D.str) ≤ 60
  | [] => ⟨rfl, by simp [deps]⟩
  | p :: ps => by
    obtain ⟨h1, h2⟩ := strs_pur ps
    constructor
    · simp only [List.map_cons, purs, h1, Rf.pur, Bool.and_self]
    · simp only [List.map_cons, deps, dep]; omega
/-- lists that are the same -/
theorem ne_same {h : Hs} {a b : Nat} {xs : List D} (e1 : h[a]? = some (.lst xs)) (e2 : h[b]? = some (.lst xs)) (p : purs xs = true ∧ deps xs ≤ 60) {cs : List (List D)} : cmpA cs .ne (.ob a) (.ob b) h = .ok (.bl false) h := by
  rw [(r_eqll e1 e2 p.1 p.1 p.2 p.2).2, eqvs_refl _ p.1]; rfl
theorem eq_same {h : Hs} {a b : Nat} {xs : List D} (e1 : h[a]? = some (.lst xs)) (e2 : h[b]? = some (.lst xs)) (p : purs xs = true ∧ deps xs ≤ 60) {cs : List (List D)} : cmpA cs .eq (.ob a) (.ob b) h = .ok (.bl true) h := by
  rw [(r_eqll e1 e2 p.1 p.1 p.2 p.2).1, eqvs_refl _ p.1]
theorem ne_flat {d : D} (f : flat d = true) {h : Hs} {cs : List (List D)} : cmpA cs .ne d d h = .ok (.bl false) h := by
  rw [r_ne f f, eqv_refl]; rfl
  simp only [flat, Bool.and_eq_true] at f; exact f.1
theorem nin_p {k : D} (o : kOk k) {h : Hs} {cs : List (List D)} : cmpA cs .nin k (.tup [.str cInt, .str cBool]) h = .ok (.bl (isE k)) h := by
  have e : inD cs k (.tup [.str cInt, .str cBool]) h = some (inL k [.str cInt, .str cBool]) := by
    simp only [inD, o.1, Bool.true_and]
    rfl
  simp only [cmpA, e, ofO_some, R.bind_ok]
  rcases o.2.2 with rfl | rfl | ⟨xs, rfl⟩ <;> rfl
/-- the names of the ends -/
def endsL (ps : Ct) : List LC := (ps.filter fun p => isE p.2).map (·.1)
theorem ends_fm : ∀ (ps : Ct), ps.filterMap (fun p => if isE p.2 then some (D.str p.1) else none) = (endsL ps).map D.str
  | [] => rfl
  | p :: ps => by
    have := ends_fm ps
    rw [List.filterMap_cons]
    cases q : isE p.2 <;> simp [endsL, q] at this ⊢ <;> exact this
section
variable {W : Wd} (hW : Has W) (hC : HasC W) (L : Nat)
variable {c m : Nat} {lk : Bool} {ps : Ct} {h : Hs} {N : Nat}
theorem CT.lock (o : CT c m false ps h) : CT c m true ps (h.set m (MO.dic true false (kvs ps))) := ⟨by rw [List.getElem?_set_ne (Ne.symm o.ne)]; exact o.ob, by rw [List.getElem?_set_self (lk_lt o.ki)]⟩
theorem CT.unlock (o : CT c m false ps h) : (h.set m (MO.dic true false (kvs ps))).set m (.dic false false (kvs ps)) = h := by rw [List.set_set, set_self' o.ki]
theorem lookup_of {ps : Ct} (nd : (ps.map (·.1)).Nodup) {p : LC × D} (hp : p ∈ ps) : ps.lookup p.1 = some p.2 := by
  induction ps with
  | nil => cases hp
  | cons q ps ih =>
    obtain ⟨a, b⟩ := q
    simp only [List.map_cons, List.nodup_cons] at nd
    rcases List.mem_cons.mp hp with rfl | hp
    · simp
    · have : p.1 ≠ a := fun e => nd.1 (e ▸ List.mem_map_of_mem hp)
      have q2 : (p.1 == a) = false := by simpa using this
      rw [List.lookup_cons, q2]
      exact ih nd.2 hp
include hW hC
theorem ends_p (o : CT c m false ps h) (po : PO ps) (hN : 2 ≤ N) : callF W L N 12 [.ob c] h = .ok (.ob h.length) (h ++ [.lst ((endsL ps).map D.str)]) := by
  obtain ⟨M, rfl⟩ : ∃ M, N = M + 1 := ⟨N - 1, by omega⟩
  rw [callF_s (hW 12 _ (by decide) rfl) rfl]
  have o1 := o.lock
  have it : itemsI W.cons .seq [.ob m] h = some ((kvs ps).map (·.1), .lock m false (kvs ps), h.set m (.dic true false (kvs ps))) := by rw [r_it_ob, o.ki, itO_d]
  have lp := lc_read (g := .lock m false (kvs ps)) (turn := lT W (callF W L M) [1] (.nm 1) [(.met (.var 0) "is_end" [(.var 1)])] (.var 1) [some (.ob c), none]) (h := h.set m (.dic true false (kvs ps))) o1.ki (fun p : LC × D => D.str p.1) (fun p => if isE p.2 then some (.str p.1) else none) ps [] (fun p hp => by
    have ie := isend_p hW hC L o1 po (by omega : 1 ≤ M) p.1
    have l := lookup_of po.nd hp
    have c1 : evalE W (callF W L M) none (.met (.var 0) "is_end" [(.var 1)]) [some (.ob c), some (.str p.1)] (h.set m (MO.dic true false (kvs ps))) = .ok (.bl (isE p.2)) (h.set m (MO.dic true false (kvs ps))) := by
      rw [l] at ie
      simp! only [o1.mt hC (s := "is_end") rfl (by decide), ie, isEO]
    rw [lT_c (σ1 := [some (.ob c), some (.str p.1)]) rfl c1]
    cases isE p.2
    · rfl
    · rw [if_pos rfl, r_var]; rfl) (by have := po.le; simp; omega)
  rw [show ps.map (fun p : LC × D => D.str p.1) = (kvs ps).map (·.1) by simp [kvs, kvD, Function.comp_def], ends_fm, List.nil_append] at lp
  simp! only [f_Context_ends, o.fld hC, it, lp, lcEnd, endG, o.unlock]
omit hW hC in
/-- the pairs, walked -/
theorem walk_p {cf : CF} {σ : Sg} {i j : Nat} (hσ : σ[i]? = some (some (.ob c))) (hj : j < σ.length) (o : CT c m false ps h) (po : PO ps) : evalE W cf none (.lc [j] (.nm j) (.own cC "_kinds") [(.var i)] [] (.var j)) σ h = .ok (.ob h.length) (h ++ [.lst (ps.map prD)]) := by
  have it : itemsI W.cons (.own cC "_kinds") [.ob c] h = some (ps.map prD, .lock m false (kvs ps), h.set m (.dic true false (kvs ps))) := by
    rw [r_own o.ob rfl o.ki]
    simp [kvs, kvD, prD, Function.comp_def]
  have lp := lc_read (g := .lock m false (kvs ps)) (turn := lT W cf [j] (.nm j) [] (.var j) σ) (h := h.set m (.dic true false (kvs ps))) o.lock.ki prD (fun p => some (prD p)) ps [] (fun p hp => by
    rw [lT_nil (σ1 := (wipeI σ [j]).set j (some (prD p))) rfl, vv (d := prD p) (by simp [wipeI, hj]), R.bind_ok, R.shut_ok]) (by have := po.le; simp; omega)
  rw [List.filterMap_eq_map', List.nil_append] at lp
  rw [r_lc, q_econs, vv hσ, R.bind_ok, q_enil, R.bind_ok, R.bind_ok, it, ofO_some, R.bind_ok, lp, R.bind_ok]
  simp only [endG, o.unlock, lcEnd]
end
end K18
end

section
namespace K18
open PySem PySem.Spec PyProof.Rows L2 Rf
local macro_rules | `(tactic| simp! only [$ts,*]) => `(tactic| (simp only [↓evI, bl_ok, sl_ok, tl_nx, tl_rt, q_set, v_put, v_fset, v_setT, v_pass, q_expr, q_ret, q_retN, q_ife, q_cons, q_nil, q_cst, q_bin, q_cmp, q_and, q_or, q_not, q_eife, q_tup, q_lst, q_dic, q_ix, q_slc, q_cal, q_blt, q_enil, q_econs, q_met, q_fld, r_for, r_lc, r_var, Rf.start, RS.fin_nx, RS.fin_rt, getV_s, ofO_some, r_tbl, optS_s, optT_s, List.set_cons_zero, List.set_cons_succ, List.getElem?_cons_zero, List.getElem?_cons_succ, List.map, List.replicate, List.length_cons, List.length_nil, List.append_eq, List.nil_append, List.cons_append, Nat.reduceAdd, Nat.reduceSub, Nat.reduceLeDiff, sizeLine_eq, Bool.not_true, Bool.not_false, Bool.false_eq_true, if_true, if_false, ↓reduceIte, $ts,*] <;> try simp only [evO]))
section
variable {W : Wd} (hW : Has W) (hC : HasC W) (L : Nat)
variable {c m lp : Nat} {lk : Bool} {ps : Ct} {h : Hs} {N : Nat}
abbrev tlT : List S := [.ife (.cmp .ne (.met (.var 0) "binds" [(.var 3)]) (.cmp .in_ (.var 3) (.var 2)))
      [.ret (.cst (.bl false))]
      [],
    .ife (.and (.cmp .in_ (.var 3) (.var 2)) (.cmp .ne (.met (.var 0) "kind" [(.var 3)]) (.ix (.var 2) (.var 3))))
      [.ret (.cst (.bl false))]
      [],
    .ife (.and (.cmp .in_ (.var 3) (.var 2)) (.cmp .ne (.met (.var 0) "is_end" [(.var 3)]) (.cmp .nin (.ix (.var 2) (.var 3)) (.tup [(.cst (.str ['i', 'n', 't'])), (.cst (.str ['b', 'o', 'o', 'l']))]))))
      [.ret (.cst (.bl false))]
      []]
abbrev TS (c lp kn : Nat) (s3 s4 s6 : Option D) : Sg := [some (.ob c), some (.ob lp), some (.ob kn), s3, s4, none, s6, none]
include hW hC
theorem tell_turn {M kn : Nat} (hM : 1 ≤ M) (o : CT c m false ps h) (po : PO ps) (hk : h[kn]? = some (.dic false false (kvs ps))) (n : LC) : evalB W L (callF W L M) none tlT (TS c lp kn (some (.str n)) none none) h = .ok (.nx (TS c lp kn (some (.str n)) none none)) h := by
  have b := binds_p hW hC L o hM n
  have i := isend_p hW hC L o po hM n
  have ik : ∀ n, cmpA W.cons .in_ (.str n) (.ob kn) h = .ok (.bl (ps.lookup n).isSome) h := fun n => by rw [r_in_ob, hk, inO_d, ok_kv, if_pos rfl, get_kv]; rfl
  have nb : ∀ a, cmpA W.cons .ne (.bl a) (.bl a) h = .ok (.bl false) h := fun a => ne_flat rfl
  have m1 := fun es σ => o.mt hC (cf := callF W L M) (es := es) (σ := σ) (s := "binds") rfl (by decide)
  have m2 := fun es σ => o.mt hC (cf := callF W L M) (es := es) (σ := σ) (s := "kind") rfl (by decide)
  have m3 := fun es σ => o.mt hC (cf := callF W L M) (es := es) (σ := σ) (s := "is_end") rfl (by decide)
  cases e : ps.lookup n with
  | none =>
    have k := ik n
    rw [e] at b k
    simp! only [m1, b, k, nb, Option.isSome_none]
  | some k =>
    have k1 := ik n
    have ko := po.ks _ (mem_lookup e)
    have kk := kind_p hW hC L o hM e
    have x : ixD W.cs2 (.ob kn) (.str n) h = .ok k h := by rw [r_ix_ob, hk, ixO_d, ok_kv, if_pos rfl, get_kv, e]; rfl
    rw [e] at b k1 i
    have nk : cmpA W.cons .ne k k h = .ok (.bl false) h := ne_flat ko.1
    have ni := nin_p ko (h := h) (cs := W.cons)
    simp! only [m1, m2, m3, b, k1, kk, x, nk, i, isEO, ni, nb, Option.isSome_some]
theorem tells_p (o : CT c m false ps h) (po : PO ps) (hl : h[lp]? = some (.lst (ps.map prD))) (hN : 4 ≤ N) : ∃ h', callF W L N 0 [.ob c, .ob lp] h = .ok (.bl true) h' ∧ Kx h h' := by
  obtain ⟨M, rfl⟩ : ∃ M, N = M + 1 := ⟨N - 1, by omega⟩
  rw [callF_s (hW 0 _ (by decide) rfl) rfl]
  obtain ⟨h1, e1⟩ : ∃ h1, h1 = h ++ [MO.dic false false (kvs ps)] := ⟨_, rfl⟩
  have k1 : Kx h h1 := by rw [e1]; exact Kx.app
  have d1 : bltC W .dict [.ob lp] h = .ok (.ob h.length) h1 := by rw [r_dictl hl (prs_kv ps), po.mrg, e1]
  have g1 : h1[h.length]? = some (.dic false false (kvs ps)) := by rw [e1]; exact lk_new
  obtain ⟨nl, enl⟩ : ∃ nl : List D, nl = [.str ['a'], .str ['b'], .str ['c'], .str ['d'], .str ['e'], .str ['f']] := ⟨_, rfl⟩
  obtain ⟨h2, e2⟩ : ∃ h2, h2 = h1 ++ [MO.lst nl] := ⟨_, rfl⟩
  have k2 : Kx h1 h2 := by rw [e2]; exact Kx.app
  have i2 : itemsI W.cons .seq [.ob h1.length] h2 = some (nl, .keep h1.length (.lst nl), h2) := by rw [r_it_ob, e2, lk_new, itO_l]
  have o2 := o.kx (k1.trans k2)
  have lpx := for_inv (g := .keep h1.length (.lst nl)) (turn := fT W L (callF W L M) (.nm 3) tlT) (I := fun _ σ h' => (∃ s3, σ = TS c lp h.length s3 none none) ∧ h' = h2) (P := fun d => ∃ n, d = .str n) (n := 6) (fun k σ h' hi => by rw [hi.2, e2]; exact lk_new) (fun k d σ h' _ hp hi => by
    obtain ⟨n, rfl⟩ := hp
    obtain ⟨⟨s3, rfl⟩, rfl⟩ := hi
    refine ⟨TS c lp h.length (some (.str n)) none none, h', ?_, ⟨_, rfl⟩, rfl⟩
    rw [fT_some (bindT_nm _ _)]
    exact tell_turn hW hC L (by omega) o2 po (k2.2 _ _ g1) n) nl 0 (TS c lp h.length none none none) h2 (by rw [enl]; simp) (by rw [enl]; intro d hd; simp only [List.mem_cons, List.not_mem_nil, or_false] at hd; rcases hd with rfl | rfl | rfl | rfl | rfl | rfl <;> exact ⟨_, rfl⟩) ⟨⟨none, rfl⟩, rfl⟩
  obtain ⟨σ2, h2', f2, ⟨s3, rfl⟩, rfl⟩ := lpx
  simp only [endG] at f2
  -- the ends
  have lpe := lc_read (g := .keep lp (.lst (ps.map prD))) (turn := lT W (callF W L M) [3, 5] (.tp [3, 5]) [(.cmp .nin (.var 5) (.tup [(.cst (.str ['i', 'n', 't'])), (.cst (.str ['b', 'o', 'o', 'l']))]))] (.var 3) (TS c lp h.length s3 none none)) (h := h2') (k2.2 _ _ (k1.2 _ _ hl)) prD (fun p => if isE p.2 then some (.str p.1) else none) ps [] (fun p hp => by
    obtain ⟨n, k⟩ := p
    have ko := po.ks _ hp
    have ni := nin_p ko (h := h2') (cs := W.cons)
    rw [lT_c (σ1 := [some (.ob c), some (.ob lp), some (.ob h.length), some (.str n), none, some k, none, none]) (b := isE k) (h1 := h2') rfl (by simp! only [ni])]
    cases isE k
    · rfl
    · rw [if_pos rfl, r_var]; rfl) (by have := po.le; simp; omega)
  rw [ends_fm, List.nil_append] at lpe
  have ie : itemsI W.cons .seq [.ob lp] h2' = some (ps.map prD, .keep lp (.lst (ps.map prD)), h2') := by rw [r_it_ob, k2.2 _ _ (k1.2 _ _ hl), itO_l]
  obtain ⟨h3, e3⟩ : ∃ h3, h3 = h2' ++ [MO.lst ((endsL ps).map D.str)] := ⟨_, rfl⟩
  have k3 : Kx h2' h3 := by rw [e3]; exact Kx.app
  have le3 : lcEnd ((endsL ps).map D.str) h2' = .ok (.ob h2'.length) h3 := by rw [e3]; rfl
  obtain ⟨h4, e4⟩ : ∃ h4, h4 = h3 ++ [MO.lst (ps.map prD)] := ⟨_, rfl⟩
  have k4 : Kx h3 h4 := by rw [e4]; exact Kx.app
  have K3 := (k1.trans k2).trans k3
  have K4 := K3.trans k4
  have o3 := o.kx K3
  have o4 := o.kx K4
  have p4 : callF W L M 13 [.ob c] h3 = .ok (.ob h3.length) h4 := by rw [pairs_p hW hC L o3 (by omega), e4]
  have g4 : h4[h3.length]? = some (.lst (ps.map prD)) := by rw [e4]; exact lk_new
  have n4 : cmpA W.cons .ne (.ob h3.length) (.ob lp) h4 = .ok (.bl false) h4 := ne_same g4 (K4.2 _ _ hl) (prs_pur po.ks)
  obtain ⟨h5, e5⟩ : ∃ h5, h5 = h4 ++ [MO.lst ((endsL ps).map D.str)] := ⟨_, rfl⟩
  have k5 : Kx h4 h5 := by rw [e5]; exact Kx.app
  have p5 : callF W L M 12 [.ob c] h4 = .ok (.ob h4.length) h5 := by rw [ends_p hW hC L o4 po (by omega), e5]
  have n5 : cmpA W.cons .ne (.ob h4.length) (.ob h2'.length) h5 = .ok (.bl false) h5 := ne_same (by rw [e5]; exact lk_new) ((k4.trans k5).2 _ _ (by rw [e3]; exact lk_new)) (strs_pur _)
  obtain ⟨h6, e6⟩ : ∃ h6, h6 = h5 ++ [MO.lst (ps.map prD)] := ⟨_, rfl⟩
  have k6 : Kx h5 h6 := by rw [e6]; exact Kx.app
  have o5 := o4.kx k5
  have w6 : evalE W (callF W L M) none (.lc [7] (.nm 7) (.own cC "_kinds") [(.var 0)] [] (.var 7)) (TS c lp h.length s3 (some (.ob h2'.length)) (some (.ob h3.length))) h5 = .ok (.ob h5.length) h6 := by rw [walk_p (c := c) (ps := ps) rfl (by simp) o5 po, e6]
  have K6 := K4.trans (k5.trans k6)
  have n6 : cmpA W.cons .ne (.ob h5.length) (.ob lp) h6 = .ok (.bl false) h6 := ne_same (by rw [e6]; exact lk_new) (K6.2 _ _ hl) (prs_pur po.ks)
  have t6 := (k5.trans k6).2 _ _ g4
  obtain ⟨h7, e7⟩ : ∃ h7, h7 = h6.set h3.length (MO.lst (ps.map prD ++ [.tup [.str ['z'], .str ['i', 'n', 't']]])) := ⟨_, rfl⟩
  have a7 : methD .append (.ob h3.length) [.tup [.str ['z'], .str ['i', 'n', 't']]] h6 = .ok .non h7 := by
    rw [r_app, t6, appO_l, if_pos (by have := po.le; simp [sizeLine]; omega), e7]
  have K7 : Kx h h7 := by rw [e7]; exact kxs K6 K3.1
  have o7 := o.kx K7
  have p8 := pairs_p hW hC L o7 (by omega : 1 ≤ M)
  have q8 : cmpA W.cons .eq (.ob h7.length) (.ob lp) (h7 ++ [.lst (ps.map prD)]) = .ok (.bl true) (h7 ++ [.lst (ps.map prD)]) := eq_same lk_new (lk_app (K7.2 _ _ hl)) (prs_pur po.ks)
  refine ⟨h7 ++ [.lst (ps.map prD)], ?_, K7.trans Kx.app⟩
  have m1 := fun h (o : CT c m false ps h) es σ => o.mt hC (cf := callF W L M) (es := es) (σ := σ) (s := "pairs") rfl (by decide)
  have m2 := fun h (o : CT c m false ps h) es σ => o.mt hC (cf := callF W L M) (es := es) (σ := σ) (s := "ends") rfl (by decide)
  have ma := fun es σ => r_metapp (W := W) (cf := callF W L M) (es := es) (σ := σ) t6
  have e2' : h1 ++ [MO.lst [D.str ['a'], .str ['b'], .str ['c'], .str ['d'], .str ['e'], .str ['f']]] = h2' := by rw [e2, enl]
  simp! only [f__law_tells, d1, e2', i2, f2, ie, lpe, endG, le3, m1 _ o3, p4, n4, m2 _ o4, p5, n5, ↓w6, n6, ma, a7, m1 _ o7, p8, q8]
end
end K18
end

section
namespace K18
open PySem PySem.Spec PyProof.Rows L2 Rf
local macro_rules | `(tactic| simp! only [$ts,*]) => `(tactic| (simp only [↓evI, bl_ok, sl_ok, tl_nx, tl_rt, q_set, v_put, v_fset, v_setT, v_pass, q_expr, q_ret, q_retN, q_ife, q_cons, q_nil, q_cst, q_bin, q_cmp, q_and, q_or, q_not, q_eife, q_tup, q_lst, q_dic, q_ix, q_slc, q_cal, q_blt, q_enil, q_econs, q_met, q_fld, r_for, r_lc, r_var, Rf.start, RS.fin_nx, RS.fin_rt, getV_s, ofO_some, r_tbl, optS_s, optT_s, List.set_cons_zero, List.set_cons_succ, List.getElem?_cons_zero, List.getElem?_cons_succ, List.map, List.replicate, List.length_cons, List.length_nil, List.append_eq, List.nil_append, List.cons_append, Nat.reduceAdd, Nat.reduceSub, Nat.reduceLeDiff, sizeLine_eq, Bool.not_true, Bool.not_false, Bool.false_eq_true, if_true, if_false, ↓reduceIte, $ts,*] <;> try simp only [evO]))
theorem Kx.kp {p h h'} (k : Kx h h') : Kp p h h' := ⟨k.1, fun i mo _ e => k.2 i mo e⟩
theorem SO.kx {W p d ns h h'} (s : SO W p d ns h) (k : Kx h h') : SO W p d ns h' := by
  obtain ⟨h0, h1, a, v, m, h2⟩ := s
  exact ⟨h0, h1.kp h0 k.kp, a, v, m, k.2 _ _ h2⟩
/-- what stands stays, but for p and m -/
def Kq (p m : Nat) (h h' : Hs) : Prop := h.length ≤ h'.length ∧ ∀ (i : Nat) (mo : MO), i ≠ p → i ≠ m → h[i]? = some mo → h'[i]? = some mo
theorem Kq.trans {p m h h1 h2} (a : Kq p m h h1) (b : Kq p m h1 h2) : Kq p m h h2 := ⟨Nat.le_trans a.1 b.1, fun i mo hi hj e => b.2 i mo hi hj (a.2 i mo hi hj e)⟩
theorem Kp.kq {p m h h'} (k : Kp p h h') : Kq p m h h' := ⟨k.1, fun i mo hi _ e => k.2 i mo hi e⟩
theorem Kx.kq {p m h h'} (k : Kx h h') : Kq p m h h' := ⟨k.1, fun i mo _ _ e => k.2 i mo e⟩
theorem Kq.set {p m h o} : Kq p m h (h.set m o) := ⟨by simp, fun i mo _ hj e => by rw [List.getElem?_set_ne (Ne.symm hj)]; exact e⟩
theorem SO.ne_c {W p d ns c m lk ps h} (s : SO W p d ns h) (o : CT c m lk ps h) : p ≠ c ∧ p ≠ m := by
  obtain ⟨h0, h1, a, v, x, h2⟩ := s
  exact ⟨(fun e => by have := o.ob; rw [← e, h2] at this; cases this), (fun e => by have := o.ki; rw [← e, h2] at this; cases this)⟩
theorem CT.kp {c m lk ps h h' p} (o : CT c m lk ps h) (k : Kp p h h') (n : p ≠ c ∧ p ≠ m) : CT c m lk ps h' := ⟨k.2 _ _ (Ne.symm n.1) o.ob, k.2 _ _ (Ne.symm n.2) o.ki⟩
/-- the dict of a context is changed -/
theorem SO.setm {W p d ns c m lk ps h o} (s : SO W p d ns h) (q : CT c m lk ps h) : SO W p d ns (h.set m o) := by
  have n := s.ne_c q
  obtain ⟨h0, h1, a, v, x, h2⟩ := s
  refine ⟨h0, ?_, a, v, x, by rw [List.getElem?_set_ne (Ne.symm n.2)]; exact h2⟩
  rcases h1 with ⟨e, g⟩ | h1
  · refine .inl ⟨e, ?_⟩
    rw [List.getElem?_set_ne]; exact g
    intro e2
    have := q.ki; rw [e2, g] at this; cases this
  · exact .inr h1
theorem CT.setm {c m lk ps h lk' qs} (o : CT c m lk ps h) : CT c m lk' qs (h.set m (MO.dic lk' false (kvs qs))) := ⟨by rw [List.getElem?_set_ne (Ne.symm o.ne)]; exact o.ob, by rw [List.getElem?_set_self (lk_lt o.ki)]⟩
theorem SO.ne_l {W p d ns h lp} {ps : Ct} (s : SO W p d ns h) (e : h[lp]? = some (.lst (ps.map prD))) : lp ≠ p := by
  rintro rfl
  obtain ⟨h0, h1, a, v, x, h2⟩ := s
  rw [h2] at e
  cases ps with
  | nil => cases e
  | cons q qs =>
    injection e with e
    injection e with e
    injection e with e
    rcases h1 with ⟨rfl, _⟩ | ⟨rfl, _⟩ <;> cases e
theorem PO.bind {ps : Ct} (o : PO ps) {n : LC} {k : D} (e : ps.lookup n = none) (hk : kOk k) (hl : ps.length < 100) : PO (ps ++ [(n, k)]) := by
  refine ⟨?_, fun p hp => ?_, by simp; omega⟩
  · rw [List.map_append, List.nodup_append]
    refine ⟨o.nd, by simp, fun a ha b hb => ?_⟩
    simp only [List.map_cons, List.map_nil, List.mem_singleton] at hb
    subst hb
    rintro rfl
    have := lookup_mem.mpr ha
    rw [e] at this; cases this
  · rcases List.mem_append.mp hp with hp | hp
    · exact o.ks p hp
    · simp at hp; subst hp; exact hk
theorem PO.chg {ps : Ct} (o : PO ps) {n : LC} {k : D} (hk : kOk k) : PO (chg ps n k) := by
  refine ⟨?_, fun p hp => ?_, by simp [K18.chg]; exact o.le⟩
  · have : (K18.chg ps n k).map (·.1) = ps.map (·.1) := by
      simp only [K18.chg, List.map_map]
      apply List.map_congr_left
      intro p _
      simp only [Function.comp]
      split <;> rfl
    rw [this]; exact o.nd
  · obtain ⟨q, hq, rfl⟩ := List.mem_map.mp hp
    split
    · exact hk
    · exact o.ks q hq
theorem PO.del {ps : Ct} (o : PO ps) {n : LC} : PO (del ps n) := by
  refine ⟨(List.filter_sublist.map _).nodup o.nd, fun p hp => o.ks p (List.mem_filter.mp hp).1, ?_⟩
  have := o.le
  have := List.length_filter_le (fun p : LC × D => !(p.1 == n)) ps
  simp only [K18.del] at *
  omega
theorem in_strs (n : LC) (ns : List LC) : inL (.str n) (ns.map D.str) = ns.contains n := by
  unfold inL
  induction ns with
  | nil => rfl
  | cons a ns ih =>
    rw [List.map_cons, List.any_cons, ih, List.contains_cons]
    congr 1
    by_cases q : a = n
    · subst q; simp [eqv]
    · have q1 : (a == n) = false := by simpa using q
      have q2 : (n == a) = false := by simpa using fun e => q e.symm
      simp only [eqv, q1, q2]
theorem strs_flat (ns : List LC) : (ns.map D.str).all flat = true := by
  rw [List.all_eq_true]
  intro d hd
  obtain ⟨s, _, rfl⟩ := List.mem_map.mp hd
  rfl
def fiveL : List LC := [['a'], ['b'], ['c'], ['d'], ['e']]
def kndL : List D := [.str cInt, .str cBool, .tup [.str ['n', 'a', 'm', 'e'], .str ['T']], .tup [.str ['d', 'u', 'a', 'l'], .str ['T']], .tup [.str ['e', 'n', 'd']], .tup [.str ['s', 'a', 'y'], .tup [.tup [.str ['a'], .non, .tup [.str ['e', 'n', 'd']]]]]]
abbrev kndE : List E := [(.cst (.str ['i', 'n', 't'])), (.cst (.str ['b', 'o', 'o', 'l'])), (.tup [(.cst (.str ['n', 'a', 'm', 'e'])), (.cst (.str ['T']))]), (.tup [(.cst (.str ['d', 'u', 'a', 'l'])), (.cst (.str ['T']))]), (.tup [(.cst (.str ['e', 'n', 'd']))]), (.tup [(.cst (.str ['s', 'a', 'y'])), (.tup [(.tup [(.cst (.str ['a'])), (.cst .non), (.tup [(.cst (.str ['e', 'n', 'd']))])])])])]
theorem knd_ok : ∀ k ∈ kndL, kOk k := by
  intro k hk
  simp only [kndL, List.mem_cons, List.not_mem_nil, or_false] at hk
  rcases hk with rfl | rfl | rfl | rfl | rfl | rfl
  · exact ⟨by decide, by decide, .inl rfl⟩
  · exact ⟨by decide, by decide, .inr (.inl rfl)⟩
  all_goals exact ⟨by decide, by decide, .inr (.inr ⟨_, rfl⟩)⟩
section
variable {W : Wd} (L : Nat)
/-- one of some values, by a number -/
theorem pickE {cf : CF} {cx : CXI} {e : E} {σ : Sg} {h h' h1 : Hs} {v : Int} {es : List E} {xs : List D} (a1 : evalEs W cf cx es σ h = .ok xs h') (hl : xs.length ≤ 1000) (a2 : evalE W cf cx e σ (h' ++ [.lst xs]) = .ok (.int v) h1) (e1 : h1[h'.length]? = some (.lst xs)) (h0 : 0 ≤ v) (hv : v < xs.length) :
    ∃ x, x ∈ xs ∧ evalE W cf cx (.ix (.lst es) e) σ h = .ok x h1 := by
  obtain ⟨x, hx, ex⟩ := atI_some h0 hv
  refine ⟨x, hx, ?_⟩
  rw [q_ix, q_lst, a1, R.bind_ok, if_pos (by simp [sizeLine]; omega), R.bind_ok, a2, R.bind_ok, r_ix_ob, e1, ixO_l, ex]
  rfl
theorem knd_es {cf : CF} {cx : CXI} {σ : Sg} {h : Hs} : evalEs W cf cx kndE σ h = .ok kndL h := by
  simp! only [kndL]
variable (hW : Has W)
include hW
/-- a number drawn, below the length of a list -/
theorem draw_len {M p : Nat} (hM : 1 ≤ M) {d : D} {ns : List Int} {xs : List D} {q i j : Nat} {σ : Sg} (hσ : σ[i]? = some (some (.ob p))) (hj : σ[j]? = some (some (.ob q))) {h : Hs} (P : SO W p d ns h) (hq : h[q]? = some (.lst xs)) (h0 : 0 < xs.length) (h9 : xs.length ≤ 1000) :
    ∃ (x : Int) (h' : Hs), evalE W (callF W L M) none (.cal 2 [.var i, .blt .len [.var j]]) σ h = .ok (.int x) h' ∧ 0 ≤ x ∧ x < xs.length ∧ SO W p d ns h' ∧ Kp p h h' := by
  obtain ⟨N, rfl⟩ : ∃ N, M = N + 1 := ⟨M - 1, by omega⟩
  obtain ⟨x, h', e, r⟩ := draw_ok hW L N p d ns (xs.length : Int) (by omega) (by omega) h P
  refine ⟨x, h', ?_, r⟩
  rw [q_cal, q_econs, vv hσ, R.bind_ok, q_econs, q_blt, q_econs, vv hj, R.bind_ok, q_enil, R.bind_ok, R.bind_ok, r_len_ob, hq, lenO_l, R.bind_ok, q_enil, R.bind_ok, R.bind_ok, R.bind_ok, e]
end
end K18
end

section
namespace K18
open PySem PySem.Spec PyProof.Rows L2 Rf
local macro_rules | `(tactic| simp! only [$ts,*]) => `(tactic| (simp only [↓evI, bl_ok, sl_ok, tl_nx, tl_rt, q_set, v_put, v_fset, v_setT, v_pass, q_expr, q_ret, q_retN, q_ife, q_cons, q_nil, q_cst, q_bin, q_cmp, q_and, q_or, q_not, q_eife, q_tup, q_lst, q_dic, q_ix, q_slc, q_cal, q_blt, q_enil, q_econs, q_met, q_fld, r_for, r_lc, r_var, Rf.start, RS.fin_nx, RS.fin_rt, getV_s, ofO_some, r_tbl, optS_s, optT_s, List.set_cons_zero, List.set_cons_succ, List.getElem?_cons_zero, List.getElem?_cons_succ, List.map, List.replicate, List.length_cons, List.length_nil, List.append_eq, List.nil_append, List.cons_append, Nat.reduceAdd, Nat.reduceSub, Nat.reduceLeDiff, sizeLine_eq, Bool.not_true, Bool.not_false, Bool.false_eq_true, if_true, if_false, ↓reduceIte, $ts,*] <;> try simp only [evO]))
section
variable {W : Wd} (hW : Has W) (hC : HasC W) (L : Nat)
variable {c m lp p : Nat} {ps : Ct} {h : Hs} {N : Nat} {d : D} {ns : List Int}
abbrev DSg (p c lp : Nat) (s3 s4 s5 s6 s7 s8 s9 s10 : Option D) : Sg := [some (.ob p), some (.ob c), some (.ob lp), s3, s4, s5, s6, s7, s8, s9, s10]
theorem get0 {cf : CF} {σ : Sg} {i : Nat} {q : LC × D} (hσ : σ[i]? = some (some (prD q))) {h : Hs} {cx : CXI} : evalE W cf cx (.ix (.var i) (.cst (.int 0))) σ h = .ok (.str q.1) h := by
  rw [q_ix, vv hσ, R.bind_ok, q_cst, R.bind_ok, prD, r_ix_tup, atI_0]; rfl
/-- one of two, by a truth -/
theorem twoE {cf : CF} {cx : CXI} {c a b : E} {σ : Sg} {h h' h1 : Hs} {x y : D} {t : Bool} (a1 : evalEs W cf cx [a, b] σ h = .ok [x, y] h') (a2 : evalE W cf cx c σ (h' ++ [.lst [x, y]]) = .ok (.bl t) h1) (e1 : h1[h'.length]? = some (.lst [x, y])) :
    evalE W cf cx (.ix (.lst [a, b]) (.blt .int [c])) σ h = .ok (if t then y else x) h1 := by
  rw [q_ix, q_lst, a1, R.bind_ok, if_pos (by simp [sizeLine]), R.bind_ok, q_blt, q_econs, a2, R.bind_ok, q_enil, R.bind_ok, R.bind_ok, r_intb, R.bind_ok, r_ix_ob, e1, ixO_l]
  cases t
  · simp only [Bool.false_eq_true, if_false, atI_0]; rfl
  · simp only [if_true, atI_1]; rfl
def nmsL (ps : Ct) : List LC := ps.map (·.1)
def freeL (ps : Ct) : List LC := fiveL.filter fun n => !(nmsL ps).contains n
theorem free_fm (ps : Ct) : ∀ (xs : List LC), xs.filterMap (fun n => if (!(nmsL ps).contains n) = true then some (D.str n) else none) = (xs.filter fun n => !(nmsL ps).contains n).map D.str
  | [] => rfl
  | a :: xs => by
    rw [List.filterMap_cons, List.filter_cons, free_fm ps xs]
    cases ((nmsL ps).contains a) <;> rfl
theorem del_fm (n : LC) : ∀ (xs : Ct), xs.filterMap (fun q => if (!(q.1 == n)) = true then some (prD q) else none) = (del xs n).map prD
  | [] => rfl
  | a :: xs => by
    have := del_fm n xs
    simp only [del] at this ⊢
    rw [List.filterMap_cons, List.filter_cons, this]
    cases (a.1 == n) <;> rfl
theorem chg_map (n : LC) (k : D) (ps : Ct) : (chg ps n k).map prD = ps.map fun q => prD (q.1, if q.1 = n then k else q.2) := by
  simp only [chg, List.map_map]
  apply List.map_congr_left
  intro q _
  simp only [Function.comp]
  split <;> rfl
abbrev dT : E := .and (.cmp .gt (.blt .len [(.var 5)]) (.cst (.int 0))) (.or (.cmp .lt (.var 8) (.cst (.int 3))) (.cmp .eq (.blt .len [(.var 3)]) (.cst (.int 0))))
abbrev dA : List S := [.set 6 (.ix (.var 5) (.cal 2 [(.var 0), (.blt .len [(.var 5)])])),
    .expr (.met (.var 1) "bind" [(.var 6), (.var 7)]),
    .ret (.bin .add (.var 2) (.lst [(.tup [(.var 6), (.var 7)])]))]
abbrev dB : List S := [.set 6 (.ix (.var 3) (.cal 2 [(.var 0), (.blt .len [(.var 3)])])),
  .ife (.cmp .eq (.var 8) (.cst (.int 3)))
    [.expr (.met (.var 1) "change" [(.var 6), (.var 7)]),
    .ret (.lc [9, 10] (.tp [9, 10]) .seq [(.var 2)] [] (.tup [(.var 9), (.ix (.lst [(.var 10), (.var 7)]) (.blt .int [(.cmp .eq (.var 9) (.var 6))]))]))]
    [],
  .expr (.met (.var 1) "release" [(.var 6)]),
  .ret (.lc [4] (.nm 4) .seq [(.var 2)] [(.cmp .ne (.ix (.var 4) (.cst (.int 0))) (.var 6))] (.var 4))]
abbrev dHd : List S := [.set 3 (.lc [4] (.nm 4) .seq [(.var 2)] [] (.ix (.var 4) (.cst (.int 0)))),
  .set 5 (.lc [6] (.nm 6) .seq [(.lst [(.cst (.str ['a'])), (.cst (.str ['b'])), (.cst (.str ['c'])), (.cst (.str ['d'])), (.cst (.str ['e']))])] [(.cmp .nin (.var 6) (.var 3))] (.var 6)),
  .set 7 (.ix (.lst kndE) (.cal 2 [(.var 0), (.cst (.int 6))])),
  .set 8 (.cal 2 [(.var 0), (.cst (.int 5))])]
theorem deed_p (hW : Has W) (hC : HasC W) (P : SO W p d ns h) (o : CT c m false ps h) (po : PO ps) (l100 : ps.length < 100) (hl : h[lp]? = some (.lst (ps.map prD))) (hN : 4 ≤ N) :
    ∃ (q : Nat) (qs : Ct) (h' : Hs), callF W L N 1 [.ob p, .ob c, .ob lp] h = .ok (.ob q) h' ∧ h'[q]? = some (.lst (qs.map prD)) ∧ PO qs ∧ qs.length ≤ ps.length + 1 ∧ CT c m false qs h' ∧ SO W p d ns h' ∧ Kq p m h h' := by
  obtain ⟨M, rfl⟩ : ∃ M, N = M + 1 := ⟨N - 1, by omega⟩
  rw [callF_s (hW 1 _ (by decide) rfl) rfl]
  have lp' := lk_lt hl
  have plen := po.le
  have npm := P.ne_c o
  -- names
  have L1 := lc_read (g := .keep lp (.lst (ps.map prD))) (turn := lT W (callF W L M) [4] (.nm 4) [] (.ix (.var 4) (.cst (.int 0))) (DSg p c lp none none none none none none none none)) (h := h) hl prD (fun q => some (.str q.1)) ps [] (fun q hq => by
    rw [lT_nil (σ1 := DSg p c lp none (some (prD q)) none none none none none none) rfl, get0 rfl, R.bind_ok, R.shut_ok]) (by simp; omega)
  rw [List.filterMap_eq_map', List.nil_append, show ps.map (fun q : LC × D => D.str q.1) = (nmsL ps).map D.str by simp [nmsL]] at L1
  have i1 : itemsI W.cons .seq [.ob lp] h = some (ps.map prD, .keep lp (.lst (ps.map prD)), h) := by rw [r_it_ob, hl, itO_l]
  obtain ⟨h1, e1⟩ : ∃ h1, h1 = h ++ [MO.lst ((nmsL ps).map D.str)] := ⟨_, rfl⟩
  have k1 : Kx h h1 := by rw [e1]; exact Kx.app
  have g1 : h1[h.length]? = some (.lst ((nmsL ps).map D.str)) := by rw [e1]; exact lk_new
  have en1 : lcEnd ((nmsL ps).map D.str) h = .ok (.ob h.length) h1 := by rw [e1]; rfl
  -- free
  obtain ⟨h2, e2⟩ : ∃ h2, h2 = h1 ++ [MO.lst (fiveL.map D.str)] := ⟨_, rfl⟩
  have k2 : Kx h1 h2 := by rw [e2]; exact Kx.app
  have e2' : h1 ++ [MO.lst [D.str ['a'], .str ['b'], .str ['c'], .str ['d'], .str ['e']]] = h2 := by rw [e2]; rfl
  have g2 : h2[h1.length]? = some (.lst (fiveL.map D.str)) := by rw [e2]; exact lk_new
  have i2 : itemsI W.cons .seq [.ob h1.length] h2 = some (fiveL.map D.str, .keep h1.length (.lst (fiveL.map D.str)), h2) := by rw [r_it_ob, g2, itO_l]
  have L2 := lc_read (g := .keep h1.length (.lst (fiveL.map D.str))) (turn := lT W (callF W L M) [6] (.nm 6) [(.cmp .nin (.var 6) (.var 3))] (.var 6) (DSg p c lp (some (.ob h.length)) none none none none none none none)) (h := h2) g2 D.str (fun n => if (!(nmsL ps).contains n) = true then some (.str n) else none) fiveL [] (fun n hn => by
    have ni : cmpA W.cons .nin (.str n) (.ob h.length) h2 = .ok (.bl (!(nmsL ps).contains n)) h2 := by
      rw [r_nin_ob, k2.2 _ _ g1, inO_l, strs_flat, in_strs]; rfl
    rw [lT_c (σ1 := DSg p c lp (some (.ob h.length)) none none (some (.str n)) none none none none) (b := !(nmsL ps).contains n) (h1 := h2) rfl (by simp! only [ni])]
    cases (nmsL ps).contains n
    · simp only [Bool.not_false, if_true, r_var]; rfl
    · rfl) (by decide)
  rw [free_fm, List.nil_append] at L2
  obtain ⟨h3, e3⟩ : ∃ h3, h3 = h2 ++ [MO.lst ((freeL ps).map D.str)] := ⟨_, rfl⟩
  have k3 : Kx h2 h3 := by rw [e3]; exact Kx.app
  have g3 : h3[h2.length]? = some (.lst ((freeL ps).map D.str)) := by rw [e3]; exact lk_new
  have en2 : lcEnd ((fiveL.filter fun n => !(nmsL ps).contains n).map D.str) h2 = .ok (.ob h2.length) h3 := by rw [e3]; rfl
  have K3 := (k1.trans k2).trans k3
  have P3 := P.kx K3
  -- the kind
  have le1 : h1.length = h.length + 1 := by rw [e1]; simp
  have le2 : h2.length = h.length + 2 := by rw [e2]; simp [le1]
  have le3 : h3.length = h.length + 3 := by rw [e3]; simp [le2]
  have pl := P.lt
  obtain ⟨x4, h4, d4, x40, x41, P4, kp4⟩ := drawE hW L (i := 0) (σ := DSg p c lp (some (.ob h.length)) none (some (.ob h2.length)) none none none none none) (M := M) (by omega) (mm := 6) (by omega) (by omega) rfl none (P3.app (t := [.lst kndL]))
  obtain ⟨k, hk, ev4⟩ := pickE (W := W) (cf := callF W L M) (σ := DSg p c lp (some (.ob h.length)) none (some (.ob h2.length)) none none none none none) (h := h3) knd_es (by decide) d4 (kp4.2 _ _ (by omega) lk_new) x40 (by simpa [kndL] using x41)
  have ko := knd_ok k hk
  -- the choice
  obtain ⟨x5, h5, d5, x50, x51, P5, kp5⟩ := drawE hW L (i := 0) (σ := DSg p c lp (some (.ob h.length)) none (some (.ob h2.length)) none (some k) none none none) (M := M) (by omega) (mm := 5) (by omega) (by omega) rfl none P4
  have K5 : Kp p h h5 := K3.kp.trans ((Kx.app (t := [MO.lst kndL])).kp.trans (kp4.trans kp5))
  have o5 := o.kp K5 npm
  have n5 : h5[h.length]? = some (.lst ((nmsL ps).map D.str)) := kp5.2 _ _ (by omega) (kp4.2 _ _ (by omega) (lk_app (k3.2 _ _ (k2.2 _ _ g1))))
  have f5 : h5[h2.length]? = some (.lst ((freeL ps).map D.str)) := kp5.2 _ _ (by omega) (kp4.2 _ _ (by omega) (lk_app g3))
  have nlp := P.ne_l hl
  have lp5 : h5[lp]? = some (.lst (ps.map prD)) := K5.2 _ _ nlp hl
  have t3 : h5[h.length]? = some (.lst ((nmsL ps).map D.str)) := n5
  have gt5 : cmpA W.cons .gt (.int ((freeL ps).length : Int)) (.int 0) h5 = .ok (.bl (!(freeL ps).isEmpty)) h5 := by
    rw [r_gt]; congr 2
    cases freeL ps <;> simp
  have eq5 : cmpA W.cons .eq (.int ((nmsL ps).length : Int)) (.int 0) h5 = .ok (.bl (nmsL ps).isEmpty) h5 := by
    rw [r_eqi]; congr 2
    cases nmsL ps with
    | nil => rfl
    | cons a b => simp; omega
  have lt5 : cmpA W.cons .lt (.int x5) (.int 3) h5 = .ok (.bl (decide (x5 < 3))) h5 := r_lt _ _
  have ln1 : bltC W .len [.ob h2.length] h5 = .ok (.int ((freeL ps).length : Int)) h5 := by rw [r_len_ob, f5, lenO_l, List.length_map]
  have ln2 : bltC W .len [.ob h.length] h5 = .ok (.int ((nmsL ps).length : Int)) h5 := by rw [r_len_ob, n5, lenO_l, List.length_map]
  have ms := fun (s : String) (f : Nat) (e : ctI.meths.lookup s = some f) (ne : s ≠ "_kinds") h (o : CT c m false ps h) es σ => o.mt hC (cf := callF W L M) (es := es) (σ := σ) e ne
  obtain ⟨S5, eS5⟩ : ∃ S5, S5 = DSg p c lp (some (.ob h.length)) none (some (.ob h2.length)) none (some k) (some (.int x5)) none none := ⟨_, rfl⟩
  have eb : f__law_deed.body = dHd ++ (.ife dT dA [] :: dB) := rfl
  have p1 : evalB W L (callF W L M) none dHd (DSg p c lp none none none none none none none none) h = .ok (.nx S5) h5 := by
    rw [eS5]
    simp! only [i1, L1, endG, en1, e2', i2, L2, en2, ↓ev4, ↓d5]
  have sx : ∀ v, S5.set 6 (some v) = DSg p c lp (some (.ob h.length)) none (some (.ob h2.length)) (some v) (some k) (some (.int x5)) none none := fun v => by rw [eS5]; rfl
  have s6 : S5[5]? = some (some (.ob h2.length)) := by rw [eS5]; rfl
  have s7 : S5[3]? = some (some (.ob h.length)) := by rw [eS5]; rfl
  have s8 : S5[8]? = some (some (.int x5)) := by rw [eS5]; rfl
  rw [eb, q_app]
  rw [show Rf.start f__law_deed.ns [.ob p, .ob c, .ob lp] = DSg p c lp none none none none none none none none from rfl, p1, RS.then_nx, q_cons]
  by_cases q : (!(freeL ps).isEmpty && (decide (x5 < 3) || (nmsL ps).isEmpty)) = true
  · -- a new name
    have fne : 0 < (freeL ps).length := by
      simp only [Bool.and_eq_true] at q
      cases e : freeL ps with
      | nil => rw [e] at q; simp at q
      | cons a b => simp
    have fle : (freeL ps).length ≤ 5 := List.length_filter_le _ _
    obtain ⟨x6, h6, d6, x60, x61, P6, kp6⟩ := draw_len L hW (i := 0) (j := 5) (σ := S5) (M := M) (by omega) (by rw [eS5]; rfl) (by rw [eS5]; rfl) P5 f5 (by simpa using fne) (by simp; omega)
    obtain ⟨nm, hnm, ex6⟩ := atI_some x60 x61
    obtain ⟨n, hn, rfl⟩ := List.mem_map.mp hnm
    have f6 : h6[h2.length]? = some (.lst ((freeL ps).map D.str)) := kp6.2 _ _ (by omega) f5
    have ix6 : ixD W.cs2 (.ob h2.length) (.int x6) h6 = .ok (.str n) h6 := by rw [r_ix_ob, f6, ixO_l, ex6]; rfl
    have nl : ps.lookup n = none := by
      have : (nmsL ps).contains n = false := by
        have := (List.mem_filter.mp hn).2
        simpa using this
      cases e : ps.lookup n with
      | none => rfl
      | some v =>
        have : n ∈ nmsL ps := lookup_mem.mp (by rw [e]; rfl)
        simp_all
    have o6 := o5.kp kp6 (P5.ne_c o5)
    have b6 := bind_p hW hC L (N := M) o6 po (by omega) (k := k) nl
    obtain ⟨h7, e7⟩ : ∃ h7, h7 = h6.set m (MO.dic false false (kvs (ps ++ [(n, k)]))) := ⟨_, rfl⟩
    rw [← e7] at b6
    have o7 : CT c m false (ps ++ [(n, k)]) h7 := by rw [e7]; exact o6.setm
    have P7 : SO W p d ns h7 := by rw [e7]; exact P6.setm o6
    have K7 : Kq p m h h7 := (K5.trans kp6).kq.trans (by rw [e7]; exact Kq.set)
    have lp7 : h7[lp]? = some (.lst (ps.map prD)) := K7.2 _ _ nlp (fun e => by have := o.ki; rw [← e, hl] at this; cases this) hl
    obtain ⟨h8, e8⟩ : ∃ h8, h8 = h7 ++ [MO.lst [prD (n, k)]] := ⟨_, rfl⟩
    have e8' : h7 ++ [MO.lst [D.tup [.str n, k]]] = h8 := by rw [e8]; rfl
    have ad : opD .add (.ob lp) (.ob h7.length) h8 = .ok (.ob h8.length) (h8 ++ [.lst ((ps ++ [(n, k)]).map prD)]) := by
      rw [r_addl, e8, lk_app lp7, lk_new, catO_l, if_pos (by simp [sizeLine]; omega)]
      simp
    refine ⟨h8.length, ps ++ [(n, k)], h8 ++ [.lst ((ps ++ [(n, k)]).map prD)], ?_, lk_new, po.bind nl ko l100, by simp, by rw [e8]; exact o7.app.app, by rw [e8]; exact P7.app.app, K7.trans (by rw [e8]; exact (Kx.app.trans Kx.app).kq)⟩
    have tst : evalE W (callF W L M) none dT S5 h5 = .ok (.bl true) h5 := by
      simp only [Bool.and_eq_true, Bool.or_eq_true] at q
      rw [q.1] at gt5
      cases q2 : decide (x5 < 3) with
      | true =>
        rw [q2] at lt5
        simp! only [s6, s8, ln1, gt5, lt5]
      | false =>
        have q3 : (nmsL ps).isEmpty = true := by
          rcases q.2 with q' | q'
          · rw [q2] at q'; cases q'
          · exact q'
        rw [q2] at lt5
        rw [q3] at eq5
        simp! only [s6, s7, s8, ln1, ln2, gt5, lt5, eq5]
    have mb := fun es σ => o6.mt hC (cf := callF W L M) (es := es) (σ := σ) (s := "bind") rfl (by decide)
    rw [q_ife, tst, R.stm_ok, r_tbl, R.stm_ok, if_pos rfl]
    simp! only [s6, ↓d6, ix6, sx, mb, b6, e8', ad]
  · -- a name that is there
    have nne : 0 < (nmsL ps).length := by
      cases e : nmsL ps with
      | nil =>
        have : freeL ps = fiveL := by simp [freeL, e]
        rw [this, e] at q
        simp [fiveL] at q
      | cons a b => simp
    have nle : (nmsL ps).length ≤ 100 := by simp [nmsL]; omega
    obtain ⟨x6, h6, d6, x60, x61, P6, kp6⟩ := draw_len L hW (i := 0) (j := 3) (σ := S5) (M := M) (by omega) (by rw [eS5]; rfl) (by rw [eS5]; rfl) P5 n5 (by simpa using nne) (by simp; omega)
    obtain ⟨nm, hnm, ex6⟩ := atI_some x60 x61
    obtain ⟨n, hn, rfl⟩ := List.mem_map.mp hnm
    have n6 : h6[h.length]? = some (.lst ((nmsL ps).map D.str)) := kp6.2 _ _ (by omega) n5
    have ix6 : ixD W.cs2 (.ob h.length) (.int x6) h6 = .ok (.str n) h6 := by rw [r_ix_ob, n6, ixO_l, ex6]; rfl
    have nl : (ps.lookup n).isSome = true := lookup_mem.mpr hn
    have o6 := o5.kp kp6 (P5.ne_c o5)
    -- the test
    have tst : evalE W (callF W L M) none dT S5 h5 = .ok (.bl false) h5 := by
      cases q1 : (!(freeL ps).isEmpty) with
      | false =>
        rw [q1] at gt5
        simp! only [s6, ln1, gt5]
      | true =>
        rw [q1, Bool.true_and, Bool.or_eq_true, not_or] at q
        have q2 : decide (x5 < 3) = false := by simpa using q.1
        have q3 : (nmsL ps).isEmpty = false := by simpa using q.2
        rw [q1] at gt5
        rw [q2] at lt5
        rw [q3] at eq5
        simp! only [s6, s7, s8, ln1, ln2, gt5, lt5, eq5]
    rw [q_ife, tst, R.stm_ok, r_tbl, R.stm_ok, if_neg (by simp), q_nil, RS.then_nx]
    have K6 : Kp p h h6 := K5.trans kp6
    have nmlp : lp ≠ m := fun e => by have := o.ki; rw [← e, hl] at this; cases this
    by_cases q3 : x5 = 3
    · -- another kind
      have e3 : cmpA W.cons .eq (.int x5) (.int 3) h6 = .ok (.bl true) h6 := by rw [r_eqi, q3]; rfl
      obtain ⟨h7, e7⟩ : ∃ h7, h7 = h6.set m (MO.dic false false (kvs (chg ps n k))) := ⟨_, rfl⟩
      have c6 := change_p hW hC L (N := M) o6 po (by omega) (k := k) nl
      rw [← e7] at c6
      have o7 : CT c m false (chg ps n k) h7 := by rw [e7]; exact o6.setm
      have P7 : SO W p d ns h7 := by rw [e7]; exact P6.setm o6
      have K7 : Kq p m h h7 := K6.kq.trans (by rw [e7]; exact Kq.set)
      have lp7 : h7[lp]? = some (.lst (ps.map prD)) := K7.2 _ _ nlp nmlp hl
      have i7 : itemsI W.cons .seq [.ob lp] h7 = some (ps.map prD, .keep lp (.lst (ps.map prD)), h7) := by rw [r_it_ob, lp7, itO_l]
      obtain ⟨h8, L8, k8⟩ := lc_grow (g := .keep lp (.lst (ps.map prD))) (h0 := h7) (turn := lT W (callF W L M) [9, 10] (.tp [9, 10]) [] (.tup [(.var 9), (.ix (.lst [(.var 10), (.var 7)]) (.blt .int [(.cmp .eq (.var 9) (.var 6))]))]) (DSg p c lp (some (.ob h.length)) none (some (.ob h2.length)) (some (.str n)) (some k) (some (.int x5)) none none)) (fun h' k' => k'.2 _ _ lp7) prD (fun q => prD (q.1, if q.1 = n then k else q.2)) ps [] h7 Kx.refl (fun r hr h' k' => by
        refine ⟨h' ++ [.lst [r.2, k]], ?_, Kx.app⟩
        rw [lT_nil (σ1 := DSg p c lp (some (.ob h.length)) none (some (.ob h2.length)) (some (.str n)) (some k) (some (.int x5)) (some (.str r.1)) (some r.2)) rfl]
        have two := twoE (W := W) (cf := callF W L M) (cx := none) (c := .cmp .eq (.var 9) (.var 6)) (a := .var 10) (b := .var 7) (σ := DSg p c lp (some (.ob h.length)) none (some (.ob h2.length)) (some (.str n)) (some k) (some (.int x5)) (some (.str r.1)) (some r.2)) (h := h') (h' := h') (h1 := h' ++ [.lst [r.2, k]]) (x := r.2) (y := k) (t := r.1 == n) (by simp! only []) (by simp! only [r_eqs]) lk_new
        simp! only [↓two]
        rw [R.shut_ok, prD]
        cases q5 : (r.1 == n) with
        | true => rw [if_pos rfl, if_pos (by simpa using q5)]
        | false => rw [if_neg (by simp), if_neg (by simpa using q5)]) (by simp; omega)
      rw [List.nil_append, ← chg_map] at L8
      have mb := fun es σ => o6.mt hC (cf := callF W L M) (es := es) (σ := σ) (s := "change") rfl (by decide)
      refine ⟨h8.length, chg ps n k, h8 ++ [.lst ((chg ps n k).map prD)], ?_, lk_new, po.chg ko, by simp [chg], (o7.kx k8).app, (P7.kx k8).app, K7.trans (k8.trans Kx.app).kq⟩
      simp! only [s7, ↓d6, ix6, sx, e3, mb, c6, i7, L8, endG, lcEnd]
    · have e3 : cmpA W.cons .eq (.int x5) (.int 3) h6 = .ok (.bl false) h6 := by
        rw [r_eqi, show (x5 == 3) = false by simpa using q3]
      obtain ⟨h7, e7⟩ : ∃ h7, h7 = h6.set m (MO.dic false false (kvs (del ps n))) := ⟨_, rfl⟩
      have c6 := release_p hW hC L (N := M) o6 (by omega) nl
      rw [← e7] at c6
      have o7 : CT c m false (del ps n) h7 := by rw [e7]; exact o6.setm
      have P7 : SO W p d ns h7 := by rw [e7]; exact P6.setm o6
      have K7 : Kq p m h h7 := K6.kq.trans (by rw [e7]; exact Kq.set)
      have lp7 : h7[lp]? = some (.lst (ps.map prD)) := K7.2 _ _ nlp nmlp hl
      have i7 : itemsI W.cons .seq [.ob lp] h7 = some (ps.map prD, .keep lp (.lst (ps.map prD)), h7) := by rw [r_it_ob, lp7, itO_l]
      have L8 := lc_read (g := .keep lp (.lst (ps.map prD))) (turn := lT W (callF W L M) [4] (.nm 4) [(.cmp .ne (.ix (.var 4) (.cst (.int 0))) (.var 6))] (.var 4) (DSg p c lp (some (.ob h.length)) none (some (.ob h2.length)) (some (.str n)) (some k) (some (.int x5)) none none)) (h := h7) lp7 prD (fun r => if (!(r.1 == n)) = true then some (prD r) else none) ps [] (fun r hr => by
        have g0 := get0 (W := W) (cf := callF W L M) (i := 4) (q := r) (σ := DSg p c lp (some (.ob h.length)) (some (prD r)) (some (.ob h2.length)) (some (.str n)) (some k) (some (.int x5)) none none) rfl (h := h7) (cx := none)
        rw [lT_c (σ1 := DSg p c lp (some (.ob h.length)) (some (prD r)) (some (.ob h2.length)) (some (.str n)) (some k) (some (.int x5)) none none) (b := !(r.1 == n)) (h1 := h7) rfl (by simp! only [↓g0, r_nes])]
        cases (r.1 == n)
        · simp only [Bool.not_false, if_true, r_var]; rfl
        · rfl) (by simp; omega)
      rw [del_fm, List.nil_append] at L8
      have mb := fun es σ => o6.mt hC (cf := callF W L M) (es := es) (σ := σ) (s := "release") rfl (by decide)
      refine ⟨h7.length, del ps n, h7 ++ [.lst ((del ps n).map prD)], ?_, lk_new, po.del, ?_, o7.app, P7.app, K7.trans Kx.app.kq⟩
      · simp! only [s7, ↓d6, ix6, sx, e3, mb, c6, i7, L8, endG, lcEnd]
      · have := List.length_filter_le (fun r : LC × D => !(r.1 == n)) ps
        simp only [del]; omega
end
end K18
end

section
namespace K18
open PySem PySem.Spec PyProof.Rows L2 Rf
local macro_rules | `(tactic| simp! only [$ts,*]) => `(tactic| (simp only [↓evI, bl_ok, sl_ok, tl_nx, tl_rt, q_set, v_put, v_fset, v_setT, v_pass, q_expr, q_ret, q_retN, q_ife, q_cons, q_nil, q_cst, q_bin, q_cmp, q_and, q_or, q_not, q_eife, q_tup, q_lst, q_dic, q_ix, q_slc, q_cal, q_blt, q_enil, q_econs, q_met, q_fld, r_for, r_lc, r_var, Rf.start, RS.fin_nx, RS.fin_rt, getV_s, ofO_some, r_tbl, optS_s, optT_s, List.set_cons_zero, List.set_cons_succ, List.getElem?_cons_zero, List.getElem?_cons_succ, List.map, List.replicate, List.length_cons, List.length_nil, List.append_eq, List.nil_append, List.cons_append, Nat.reduceAdd, Nat.reduceSub, Nat.reduceLeDiff, sizeLine_eq, Bool.not_true, Bool.not_false, Bool.false_eq_true, if_true, if_false, ↓reduceIte, $ts,*] <;> try simp only [evO]))
theorem CT.kq {c m lk ps h h' p m'} (o : CT c m lk ps h) (k : Kq p m' h h') (n : p ≠ c ∧ p ≠ m) (nm : m ≠ m') (nc : c ≠ m') : CT c m lk ps h' := ⟨k.2 _ _ (Ne.symm n.1) nc o.ob, k.2 _ _ (Ne.symm n.2) nm o.ki⟩
theorem CT.nc {c m lk ps c' m' lk' ps' h} (o : CT c m lk ps h) (o' : CT c' m' lk' ps' h) : c ≠ m' := fun e => by have := o.ob; rw [e, o'.ki] at this; cases this
theorem for_ix {gd : Gd} {turn : D → Sg → Hs → RS} {I : Nat → Sg → Hs → Prop} {ds0 : List D} (hs : ∀ k σ h, I k σ h → same gd h) (ht : ∀ k d σ h, ds0[k]? = some d → I k σ h → ∃ σ' h', turn d σ h = .ok (.nx σ') h' ∧ I (k + 1) σ' h') :
    ∀ (ds pre : List D) (σ : Sg) (h : Hs), ds0 = pre ++ ds → I pre.length σ h → ∃ σ' h', forI gd turn ds σ h = .ok (.nx σ') (endG gd h') ∧ I ds0.length σ' h'
  | [], pre, σ, h, e, i => ⟨σ, h, forI_nil (hs _ σ h i), by rw [e, List.append_nil]; exact i⟩
  | d :: ds, pre, σ, h, e, i => by
    obtain ⟨σ1, h1, e1, i1⟩ := ht pre.length d σ h (by rw [e]; simp) i
    obtain ⟨σ2, h2, e2, i2⟩ := for_ix hs ht ds (pre ++ [d]) σ1 h1 (by rw [e]; simp) (by rw [List.length_append]; exact i1)
    exact ⟨σ2, h2, by rw [forI_nx (hs _ σ h i) e1, e2], i2⟩
section
variable {W : Wd} (hW : Has W) (hC : HasC W) (L : Nat)
abbrev tB : List S := [.expr (.met (.var 2) "append" [(.tup [(.var 3), (.ix (.lst [(.cst (.str ['i', 'n', 't'])), (.tup [(.cst (.str ['n', 'a', 'm', 'e'])), (.cst (.str ['T']))]), (.cst (.str ['b', 'o', 'o', 'l']))]) (.cal 2 [(.var 1), (.cst (.int 3))]))])])]
abbrev LSg (d : D) (p q : Nat) (s3 s4 s5 s6 s7 s8 : Option D) : Sg := [some d, some (.ob p), some (.ob q), s3, s4, s5, s6, s7, s8]
def k3L : List D := [.str cInt, .tup [.str ['n', 'a', 'm', 'e'], .str ['T']], .str cBool]
theorem k3_ok : ∀ k ∈ k3L, kOk k := by
  intro k hk
  simp only [k3L, List.mem_cons, List.not_mem_nil, or_false] at hk
  rcases hk with rfl | rfl | rfl
  · exact ⟨by decide, by decide, .inl rfl⟩
  · exact ⟨by decide, by decide, .inr (.inr ⟨_, rfl⟩)⟩
  · exact ⟨by decide, by decide, .inr (.inl rfl)⟩
include hW
theorem t_turn (M : Nat) (hM : 1 ≤ M) (p q : Nat) (d : D) (ns : List Int) (cs : Ct) (s : LC) (s4 s5 s6 s7 s8 : Option D) (h : Hs) (P : SO W p d ns h) (hq : h[q]? = some (.lst (cs.map prD))) (hl : cs.length ≤ 90) :
    ∃ (k : D) (h' : Hs), evalB W L (callF W L M) none tB (LSg d p q (some (.str s)) s4 s5 s6 s7 s8) h = .ok (.nx (LSg d p q (some (.str s)) s4 s5 s6 s7 s8)) h' ∧ kOk k ∧ h'[q]? = some (.lst ((cs ++ [(s, k)]).map prD)) ∧ SO W p d ns h' ∧ Kq p q h h' := by
  have lp := P.lt
  have pq := P.ne_l hq
  obtain ⟨x, h1, e1, x0, x1, P1, k1⟩ := drawE hW L (i := 1) (σ := LSg d p q (some (.str s)) s4 s5 s6 s7 s8) hM (mm := 3) (by omega) (by omega) rfl none (P.app (t := [.lst k3L]))
  have es : evalEs W (callF W L M) none [(.cst (.str ['i', 'n', 't'])), (.tup [(.cst (.str ['n', 'a', 'm', 'e'])), (.cst (.str ['T']))]), (.cst (.str ['b', 'o', 'o', 'l']))] (LSg d p q (some (.str s)) s4 s5 s6 s7 s8) h = .ok k3L h := by
    simp! only [k3L]
  obtain ⟨v, hv, ev1⟩ := pickE es (by decide) e1 (k1.2 h.length _ (by omega) (by simp)) x0 (by simpa [k3L] using x1)
  have q1 : h1[q]? = some (.lst (cs.map prD)) := k1.2 q _ pq (lk_app hq)
  have K1 : Kp p h h1 := (Kx.app (t := [MO.lst k3L])).kp.trans k1
  obtain ⟨h2, e2⟩ : ∃ h2, h2 = h1.set q (MO.lst (cs.map prD ++ [prD (s, v)])) := ⟨_, rfl⟩
  have ap : methD .append (.ob q) [.tup [.str s, v]] h1 = .ok .non h2 := by
    rw [r_app, q1, appO_l, if_pos (by simp only [sizeLine, List.length_map]; omega), e2]; rfl
  have ma := fun es σ => r_metapp (W := W) (cf := callF W L M) (es := es) (σ := σ) hq
  refine ⟨v, h2, by simp! only [ma, ↓ev1, ap], k3_ok v hv, by rw [e2, List.getElem?_set_self (lk_lt q1)]; simp, ?_, K1.kq.trans (by rw [e2]; exact Kq.set)⟩
  rw [e2]
  obtain ⟨h0, hsc, a, v', m, g⟩ := P1
  refine ⟨h0, ?_, a, v', m, by rw [List.getElem?_set_ne pq]; exact g⟩
  rcases hsc with ⟨e, g0⟩ | hsc
  · refine .inl ⟨e, ?_⟩
    have hq0 : q ≠ 0 := by
      rintro rfl
      rw [q1] at g0; cases g0
    rw [List.getElem?_set_ne hq0]; exact g0
  · exact .inr hsc
theorem t_loop (M : Nat) (hM : 1 ≤ M) (p q : Nat) (d : D) (ns : List Int) (s4 s5 s6 s7 s8 : Option D) (a : Nat) (ys : List D) (ap : a ≠ p) (aq : a ≠ q) : ∀ (ws : List LC) (cs : Ct) (s3 : Option D) (h : Hs), SO W p d ns h → h[q]? = some (.lst (cs.map prD)) → h[a]? = some (.lst ys) → ((cs.map (·.1)) ++ ws).Nodup → (∀ r ∈ cs, kOk r.2) → cs.length + ws.length ≤ 90 →
    ∃ (ps : Ct) (s3' : Option D) (h' : Hs), forI (.keep a (.lst ys)) (fT W L (callF W L M) (.nm 3) tB) (ws.map D.str) (LSg d p q s3 s4 s5 s6 s7 s8) h = .ok (.nx (LSg d p q s3' s4 s5 s6 s7 s8)) h' ∧ h'[q]? = some (.lst (ps.map prD)) ∧ PO ps ∧ ps.length = cs.length + ws.length ∧ SO W p d ns h' ∧ Kq p q h h'
  | [], cs, s3, h, P, hq, ha, nd, hk, hl => ⟨cs, s3, h, by rw [List.map_nil]; exact forI_nil (g := .keep a (.lst ys)) ha, hq, ⟨by simpa using nd, hk, by simp at hl; omega⟩, by simp, P, Kx.refl.kq⟩
  | w :: ws, cs, s3, h, P, hq, ha, nd, hk, hl => by
    simp only [List.length_cons] at hl
    obtain ⟨k, h1, x1, ko, q1, P1, k1⟩ := t_turn hW L M hM p q d ns cs w s4 s5 s6 s7 s8 h P hq (by omega)
    obtain ⟨ps, s3', h', x2, q2, po, l2, P2, k2⟩ := t_loop M hM p q d ns s4 s5 s6 s7 s8 a ys ap aq ws (cs ++ [(w, k)]) (some (.str w)) h1 P1 q1 (k1.2 a _ ap aq ha) (by simpa using nd) (fun r hr => by rcases List.mem_append.mp hr with hr | hr; exact hk r hr; simp at hr; subst hr; exact ko) (by simp; omega)
    refine ⟨ps, s3', h', ?_, q2, po, by simp at l2 ⊢; omega, P2, k1.trans k2⟩
    rw [List.map_cons, forI_nx (g := .keep a (.lst ys)) ha (σ' := LSg d p q (some (.str w)) s4 s5 s6 s7 s8) (h' := h1) (by rw [fT_some (bindT_nm _ _)]; exact x1), x2]
/-- the other context -/
def Oth (j : Nat) (c m : Nat) (s5 : D) (lk : Nat) (h : Hs) : Prop := s5 = .non ∨ ∃ c2 m2 qs, s5 = .ob c2 ∧ CT c2 m2 false qs h ∧ PO qs ∧ qs.length ≤ 3 + j ∧ h[lk]? = some (.lst (qs.map prD)) ∧ m2 ≠ m
def LI (W : Wd) (p : Nat) (d : D) (ns : List Int) (c m : Nat) (w : Int) (j : Nat) (σ : Sg) (h : Hs) : Prop := ∃ lp ps s3 s5 lk s8, σ = LSg d p lp s3 (some (.ob c)) (some s5) (some (.ob lk)) (some (.int w)) s8 ∧ SO W p d ns h ∧ CT c m false ps h ∧ PO ps ∧ ps.length ≤ 3 + j ∧ h[lp]? = some (.lst (ps.map prD)) ∧ Oth j c m s5 lk h
abbrev lB : List S := [.ife (.cmp .eq (.var 8) (.var 7))
      [.set 5 (.met (.var 4) "twin" []),
      .set 6 (.blt .list [(.var 2)])]
      [],
    .ife (.and (.cmp .isn (.var 5) (.cst .non)) (.cmp .eq (.cal 2 [(.var 1), (.cst (.int 2))]) (.cst (.int 0))))
      [.set 6 (.cal 1 [(.var 1), (.var 5), (.var 6)])]
      [.set 2 (.cal 1 [(.var 1), (.var 4), (.var 2)])],
    .ife (.not (.cal 0 [(.var 4), (.var 2)]))
      [.ret (.cst (.bl false))]
      [],
    .ife (.and (.cmp .isn (.var 5) (.cst .non)) (.not (.cal 0 [(.var 5), (.var 6)])))
      [.ret (.cst (.bl false))]
      []]
include hC
theorem l_turn (M : Nat) (hM : 5 ≤ M) (p : Nat) (d : D) (ns : List Int) (c m : Nat) (w : Int) (j : Nat) (hj : j < 10) (σ : Sg) (h : Hs) (i : LI W p d ns c m w j σ h) :
    ∃ σ' h', fT W L (callF W L M) (.nm 8) lB (.int (j : Int)) σ h = .ok (.nx σ') h' ∧ LI W p d ns c m w (j + 1) σ' h' := by
  obtain ⟨lp, ps, s3, s5, lk, s8, rfl, P, o, po, pl, hl, ot⟩ := i
  rw [fT_some (bindT_nm _ _), show List.set (LSg d p lp s3 (some (.ob c)) (some s5) (some (.ob lk)) (some (.int w)) s8) 8 (some (.int (j : Int))) = LSg d p lp s3 (some (.ob c)) (some s5) (some (.ob lk)) (some (.int w)) (some (.int (j : Int))) from rfl]
  -- a twin
  have T1 : ∃ s5' lk' h1, evalS W L (callF W L M) none (.ife (.cmp .eq (.var 8) (.var 7)) [.set 5 (.met (.var 4) "twin" []), .set 6 (.blt .list [(.var 2)])] []) (LSg d p lp s3 (some (.ob c)) (some s5) (some (.ob lk)) (some (.int w)) (some (.int (j : Int)))) h = .ok (.nx (LSg d p lp s3 (some (.ob c)) (some s5') (some (.ob lk')) (some (.int w)) (some (.int (j : Int))))) h1 ∧ Oth j c m s5' lk' h1 ∧ Kx h h1 := by
    by_cases q : (j : Int) = w
    · have e : cmpA W.cons .eq (.int (j : Int)) (.int w) h = .ok (.bl true) h := by rw [r_eqi, q]; simp
      obtain ⟨t, e1, o1, l1⟩ := twin_p hW hC L (N := M) o po (by omega)
      have mt := fun es σ => o.mt hC (cf := callF W L M) (es := es) (σ := σ) (s := "twin") rfl (by decide)
      have ls : bltC W .list [.ob lp] (h ++ t) = .ok (.ob (h ++ t).length) (h ++ t ++ [.lst (ps.map prD)]) := by rw [r_lst_ob, lk_app hl, lstO_l]
      have := lk_lt o.ki
      refine ⟨.ob (h.length + 1), (h ++ t).length, h ++ t ++ [.lst (ps.map prD)], by simp! only [e, mt, e1, ls], .inr ⟨_, _, ps, rfl, o1.app, po, pl, lk_new, by omega⟩, Kx.app.trans Kx.app⟩
    · have e : cmpA W.cons .eq (.int (j : Int)) (.int w) h = .ok (.bl false) h := by rw [r_eqi, show ((j : Int) == w) = false by simpa using q]
      exact ⟨s5, lk, h, by simp! only [e], ot, Kx.refl⟩
  obtain ⟨s5', lk', h1, T1, ot1, K1⟩ := T1
  rw [q_cons, T1, RS.then_nx]
  have P1 := P.kx K1
  have o1 := o.kx K1
  have hl1 := K1.2 _ _ hl
  clear T1 ot
  -- a deed
  have T2 : ∃ lp' ps' lk2 h2, evalS W L (callF W L M) none (.ife (.and (.cmp .isn (.var 5) (.cst .non)) (.cmp .eq (.cal 2 [(.var 1), (.cst (.int 2))]) (.cst (.int 0)))) [.set 6 (.cal 1 [(.var 1), (.var 5), (.var 6)])] [.set 2 (.cal 1 [(.var 1), (.var 4), (.var 2)])]) (LSg d p lp s3 (some (.ob c)) (some s5') (some (.ob lk')) (some (.int w)) (some (.int (j : Int)))) h1 = .ok (.nx (LSg d p lp' s3 (some (.ob c)) (some s5') (some (.ob lk2)) (some (.int w)) (some (.int (j : Int))))) h2 ∧ SO W p d ns h2 ∧ CT c m false ps' h2 ∧ PO ps' ∧ ps'.length ≤ 3 + (j + 1) ∧ h2[lp']? = some (.lst (ps'.map prD)) ∧ Oth (j + 1) c m s5' lk2 h2 := by
    rcases ot1 with rfl | ⟨c2, m2, qs, rfl, o2, po2, ql, hk, nm⟩
    · obtain ⟨q, qs, h2, e2, g2, pq, lq, oq, Pq, Kk⟩ := deed_p (L := L) (N := M) hW hC P1 o1 po (by omega) hl1 (by omega)
      exact ⟨q, qs, lk', h2, by simp! only [r_isnx_nn, e2], Pq, oq, pq, by omega, g2, .inl rfl⟩
    · obtain ⟨x, h1', e1, x0, x1, P1', k1'⟩ := drawE hW L (M := M) (i := 1) (σ := LSg d p lp s3 (some (.ob c)) (some (.ob c2)) (some (.ob lk')) (some (.int w)) (some (.int (j : Int)))) (by omega) (mm := 2) (by omega) (by omega) rfl none P1
      have n1 := P1.ne_c o1
      have n2 := P1.ne_c o2
      have nl := P1.ne_l hl1
      have nk := P1.ne_l hk
      have o1' := o1.kp k1' n1
      have o2' := o2.kp k1' n2
      have hl' := k1'.2 _ _ nl hl1
      have hk' := k1'.2 _ _ nk hk
      have isn : cmpA W.cons .isn (.ob c2) .non h1 = .ok (.bl true) h1 := rfl
      by_cases q : x = 0
      · have e : cmpA W.cons .eq (.int x) (.int 0) h1' = .ok (.bl true) h1' := by rw [r_eqi, q]; rfl
        obtain ⟨q, rs, h2, e2, g2, pq, lq, oq, Pq, Kk⟩ := deed_p (L := L) (N := M) hW hC P1' o2' po2 (by omega) hk' (by omega)
        refine ⟨lp, ps, q, h2, by simp! only [isn, ↓e1, e, e2], Pq, o1'.kq Kk n1 (Ne.symm nm) (o1'.nc o2'), po, by omega, Kk.2 _ _ nl (fun e => by have := o2'.ki; rw [← e, hl'] at this; cases this) hl', .inr ⟨c2, m2, rs, rfl, oq, pq, by omega, g2, nm⟩⟩
      · have e : cmpA W.cons .eq (.int x) (.int 0) h1' = .ok (.bl false) h1' := by rw [r_eqi, show (x == 0) = false by simpa using q]
        obtain ⟨q, rs, h2, e2, g2, pq, lq, oq, Pq, Kk⟩ := deed_p (L := L) (N := M) hW hC P1' o1' po (by omega) hl' (by omega)
        refine ⟨q, rs, lk', h2, by simp! only [isn, ↓e1, e, e2], Pq, oq, pq, by omega, g2, .inr ⟨c2, m2, qs, rfl, o2'.kq Kk n2 nm (o2'.nc o1'), po2, by omega, Kk.2 _ _ nk (fun e => by have := o1'.ki; rw [← e, hk'] at this; cases this) hk', nm⟩⟩
  obtain ⟨lp2, ps2, lk2, h2, T2, P2, o2, po2, pl2, hl2, ot2⟩ := T2
  rw [q_cons, T2, RS.then_nx]
  clear T2 ot1
  obtain ⟨h3, e3, K3⟩ := tells_p hW hC L (N := M) o2 po2 hl2 (by omega)
  have T3 : evalS W L (callF W L M) none (.ife (.not (.cal 0 [(.var 4), (.var 2)])) [.ret (.cst (.bl false))] []) (LSg d p lp2 s3 (some (.ob c)) (some s5') (some (.ob lk2)) (some (.int w)) (some (.int (j : Int)))) h2 = .ok (.nx (LSg d p lp2 s3 (some (.ob c)) (some s5') (some (.ob lk2)) (some (.int w)) (some (.int (j : Int))))) h3 := by
    simp! only [e3]
  rw [q_cons, T3, RS.then_nx]
  have fin : ∀ h4, Kx h3 h4 → LI W p d ns c m w (j + 1) (LSg d p lp2 s3 (some (.ob c)) (some s5') (some (.ob lk2)) (some (.int w)) (some (.int (j : Int)))) h4 := fun h4 K4 => by
    have K := K3.trans K4
    refine ⟨lp2, ps2, s3, s5', lk2, _, rfl, P2.kx K, o2.kx K, po2, pl2, K.2 _ _ hl2, ?_⟩
    rcases ot2 with h | ⟨c2, m2, qs, e, a, b, c', d', f⟩
    · exact .inl h
    · exact .inr ⟨c2, m2, qs, e, a.kx K, b, c', K.2 _ _ d', f⟩
  rcases ot2 with rfl | ⟨c2, m2, qs, rfl, oo, pp, ql, hk, nm⟩
  · exact ⟨_, h3, by simp! only [r_isnx_nn], fin h3 Kx.refl⟩
  · obtain ⟨h4, e4, K4⟩ := tells_p hW hC L (N := M) (oo.kx K3) pp (K3.2 _ _ hk) (by omega)
    have isn : cmpA W.cons .isn (.ob c2) .non h3 = .ok (.bl true) h3 := rfl
    exact ⟨_, h4, by simp! only [isn, e4], fin h4 K4⟩
theorem law_run (N : Nat) (hN : 7 ≤ N) (ns : List Int) (d : D) (h : Hs) (sc : (d = .ob 0 ∧ h = [.scr ns]) ∨ (d = .con W.cons.length ∧ h = [] ∧ W.scr = ns)) : ∃ h', callF W L N 3 [d] h = .ok (.bl true) h' := by
  obtain ⟨M, rfl⟩ : ∃ M, N = M + 1 := ⟨N - 1, by omega⟩
  rw [callF_s (hW 3 _ (by decide) rfl) rfl]
  obtain ⟨p, ep⟩ : ∃ p, p = h.length := ⟨_, rfl⟩
  obtain ⟨h1, e1⟩ : ∃ h1, h1 = h ++ [MO.lst [d, .int 0, .int 0, .int 1]] := ⟨_, rfl⟩
  have P1 : SO W p d ns h1 := by
    refine ⟨fun e => ?_, ?_, 0, 0, 1, by rw [e1, ep]; exact lk_new⟩
    · rcases sc with ⟨_, rfl⟩ | ⟨e2, _⟩
      · simp at ep; omega
      · rw [e2] at e; cases e
    · rcases sc with ⟨e2, rfl⟩ | ⟨e2, _, e3⟩
      · exact .inl ⟨e2, by rw [e1]; rfl⟩
      · exact .inr ⟨e2, e3⟩
  obtain ⟨q, eq'⟩ : ∃ q, q = h1.length := ⟨_, rfl⟩
  obtain ⟨h2, e2⟩ : ∃ h2, h2 = h1 ++ [MO.lst []] := ⟨_, rfl⟩
  have P2 : SO W p d ns h2 := by rw [e2]; exact P1.app
  have g2 : h2[q]? = some (.lst (([] : Ct).map prD)) := by rw [e2, eq']; exact lk_new
  -- the names
  obtain ⟨nl, enl⟩ : ∃ nl : List LC, nl = [['c'], ['a'], ['e']] := ⟨_, rfl⟩
  obtain ⟨h3, e3⟩ : ∃ h3, h3 = h2 ++ [MO.lst (nl.map D.str)] := ⟨_, rfl⟩
  have P3 : SO W p d ns h3 := by rw [e3]; exact P2.app
  have e3' : h2 ++ [MO.lst [D.str ['c'], .str ['a'], .str ['e']]] = h3 := by rw [e3, enl]; rfl
  have l1 : h1.length = p + 1 := by rw [e1, ep]; simp
  have l2 : h2.length = p + 2 := by rw [e2]; simp [l1]
  have l3 : h3.length = p + 3 := by rw [e3]; simp [l2]
  obtain ⟨x, h4, d4, x0, x1, P4, k4⟩ := drawE hW L (M := M) (i := 1) (σ := LSg d p q none none none none none none) (by omega) (mm := 4) (by omega) (by omega) rfl none P3
  have q4 : h4[q]? = some (.lst (([] : Ct).map prD)) := k4.2 q _ (by omega) (by rw [e3]; exact lk_app g2)
  have a4 : h4[h2.length]? = some (.lst (nl.map D.str)) := k4.2 _ _ (by omega) (by rw [e3]; exact lk_new)
  obtain ⟨ws, ews⟩ : ∃ ws, ws = nl.take x.toNat := ⟨_, rfl⟩
  have cu : Rf.cutD (nl.map D.str) none (some x) = ws.map D.str := by
    rw [ews, List.map_take]
    unfold Rf.cutD
    have e3 : HT.sIx (nl.map D.str).length (nl.map D.str).length (some x) = x.toNat := by
      simp [HT.sIx, enl, show ¬ x < 0 by omega]; omega
    rw [e3]
    simp [HT.sIx]
  have sl : slD (.ob h2.length) none (some x) h4 = .ok (.ob h4.length) (h4 ++ [.lst (ws.map D.str)]) := by rw [r_sl_ob, a4, slO_l, cu]
  obtain ⟨h5, e5⟩ : ∃ h5, h5 = h4 ++ [MO.lst (ws.map D.str)] := ⟨_, rfl⟩
  have l4 : p + 3 ≤ h4.length := by have := k4.1; omega
  have wl : ws.length ≤ 3 := by rw [ews, enl]; simp; omega
  have wn : ws.Nodup := by rw [ews, enl]; exact (List.take_sublist _ _).nodup (by decide)
  obtain ⟨ps, s3, h6, x6, q6, po, pl, P6, k6⟩ := t_loop hW L M (by omega) p q d ns none none none none none h4.length (ws.map D.str) (by omega) (by omega) ws [] none h5 (by rw [e5]; exact P4.app) (by rw [e5]; exact lk_app q4) (by rw [e5]; exact lk_new) (by simpa using wn) (fun r hr => by cases hr) (by simp; omega)
  have i5 : itemsI W.cons .seq [.ob h4.length] h5 = some (ws.map D.str, .keep h4.length (.lst (ws.map D.str)), h5) := by rw [r_it_ob, e5, lk_new, itO_l]
  -- the context
  have np : (⟨_, _⟩ : Nat × Nat) = (h6.length, h6.length + 1) := rfl
  obtain ⟨t7, n7, o7, l7⟩ := newC hW hC L (N := M) (h := h6) (σ := LSg d p q s3 none none none none none) (e := .blt .ptup [.var 2]) po (by simp! only [r_ptup q6]) (by omega)
  obtain ⟨h7, e7⟩ : ∃ h7, h7 = h6 ++ t7 := ⟨_, rfl⟩
  rw [← e7] at n7 o7
  have P7 : SO W p d ns h7 := by rw [e7]; exact P6.app
  have q7 : h7[q]? = some (.lst (ps.map prD)) := by rw [e7]; exact lk_app q6
  obtain ⟨h8, e8⟩ : ∃ h8, h8 = h7 ++ [MO.lst []] := ⟨_, rfl⟩
  obtain ⟨w, h9, d9, w0, w1, P9, k9⟩ := drawE hW L (M := M) (i := 1) (σ := LSg d p q s3 (some (.ob (h6.length + 1))) (some .non) (some (.ob h7.length)) none none) (by omega) (mm := 8) (by omega) (by omega) rfl none (P7.app (t := [.lst []]))
  rw [← e8] at d9 k9
  have li : LI W p d ns (h6.length + 1) (h6.length + 2) w 0 (LSg d p q s3 (some (.ob (h6.length + 1))) (some .non) (some (.ob h7.length)) (some (.int w)) none) h9 := by
    refine ⟨q, ps, s3, .non, h7.length, none, rfl, P9, ?_, po, by simp at pl; omega, k9.2 _ _ (by omega) (by rw [e8]; exact lk_app q7), .inl rfl⟩
    exact CT.kp (by rw [e8]; exact o7.app) k9 (P7.ne_c o7)
  obtain ⟨σ', h10, x10, lp', ps', s3', s5, lk, s8, rfl, P10, o10, _⟩ := for_ix (gd := .none) (turn := fT W L (callF W L M) (.nm 8) lB) (I := fun k σ h => LI W p d ns (h6.length + 1) (h6.length + 2) w k σ h) (ds0 := (List.range 10).map fun (i : Nat) => D.int (i : Int)) (fun _ _ _ _ => trivial) (fun k d' σ h hd i => by
    rw [List.getElem?_map] at hd
    by_cases hk : k < 10
    · rw [List.getElem?_range hk] at hd
      cases hd
      exact l_turn hW hC L M (by omega) p d ns _ _ w k hk σ h i
    · rw [List.getElem?_eq_none (by simpa using hk)] at hd; cases hd) ((List.range 10).map fun (i : Nat) => D.int (i : Int)) [] _ h9 rfl li
  have rg := rng_small (cs := W.cons) (h := h9) (j := 10) (by omega) (by omega)
  -- the end
  have i0 := init0_p hW hC L (c := h10.length) (h := h10 ++ [MO.ins cC []]) (N := M) lk_new (by omega)
  obtain ⟨h11, e11⟩ : ∃ h11, h11 = (h10 ++ [MO.ins cC []] ++ [MO.dic false false (kvs [])]).set h10.length (.ins cC [("_kinds", .ob (h10 ++ [MO.ins cC []]).length)]) := ⟨_, rfl⟩
  rw [← e11] at i0
  have o11 : CT h10.length (h10.length + 1) false [] h11 := by
    rw [e11]
    refine ⟨by rw [List.getElem?_set_self (by simp)]; simp, ?_⟩
    rw [List.getElem?_set_ne (by omega), List.append_assoc, List.getElem?_append_right (by omega)]
    simp
  have nd := q_newd (W := W) (cf := callF W L M) (c := cC) (σ := LSg d p lp' s3' (some (.ob (h6.length + 1))) (some s5) (some (.ob lk)) (some (.int w)) s8) (h := h10) hC (f := 4) rfl
  rw [i0, R.bind_ok, newK_n] at nd
  have pp := pairs_p hW hC L (N := M) o11 (by omega)
  have mt := fun es σ => o11.mt hC (cf := callF W L M) (es := es) (σ := σ) (s := "pairs") rfl (by decide)
  have ee : cmpA W.cons .eq (.ob h11.length) (.ob (h11 ++ [MO.lst (([] : Ct).map prD)]).length) (h11 ++ [MO.lst (([] : Ct).map prD)] ++ [MO.lst []]) = .ok (.bl true) (h11 ++ [MO.lst (([] : Ct).map prD)] ++ [MO.lst []]) := eq_same (xs := []) (lk_app lk_new) lk_new ⟨rfl, by simp [deps]⟩
  simp only [List.map_nil] at pp ee
  refine ⟨h11 ++ [MO.lst []] ++ [MO.lst []], ?_⟩
  · simp only [endG] at x10
    have rg' : itemsI W.cons .rng1 [.int 10] h9 = some ((List.range 10).map fun (i : Nat) => D.int (i : Int), .none, h9) := rg
    simp! only [f_law, ← ep, ← e1, ← eq', ← e2, e3', ↓d4, optI, sl, ← e5, i5, x6, ↓n7, ← e8, ↓d9, rg', x10, ↓nd, mt, pp, ee]
end
end K18
end

section
open PySem
theorem PySem.Challenge.cw_pourparler_k18_contexts_holds : PySem.Challenge.rw_pourparler_k18_contexts.Holds := by
  refine K18.holds fun ns d h _ q => ?_
  have hW : K18.Has (K18.pg.wd ns) := fun i fi _ e => e
  have hC : K18.HasC (K18.pg.wd ns) := rfl
  refine K18.law_run hW hC K18.fuel K18.depth (by decide) ns d h ?_
  rcases q with ⟨rfl, rfl⟩ | ⟨rfl, rfl⟩
  · exact .inl ⟨rfl, rfl⟩
  · exact .inr ⟨rfl, rfl, rfl⟩
end
