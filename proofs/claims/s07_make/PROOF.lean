import PyProof.Rows.All
import Wide.All
import OpenK.AllK
import Wide.FinOn
import PyProof.EqAt
import PyProof.EqKinds
import PyProof.TupleCall
import KE.BitLaws
import Open.SpecLaws
import KE.OsHead
import KE.OsGo
import KE.KDictSum
import KE.KSortTupG
import PyProof.Draws
import PyProof.EnumMake
import KE.KMinKey
import PyProof.Rows.FStr
import KE.KSortKeyAny
import KE.KLam
import PySem.Challenge.RW_laystones_s07_make
set_option linter.all false
set_option Elab.async false
set_option maxRecDepth 100000
set_option maxHeartbeats 4000000
namespace Mx
open Br
abbrev Ps (α:Type):=Bytes->Option (α × Bytes)
def Sim {α:Type} (r:Rd α) (f:Ps α):Prop:=∀ (n:Nat) (t:Bytes),match f t with
 | some (x,t')=>∃ m,r.run (n,t) = .ok (x,(m,t'))
 | none=>∃ e,r.run (n,t) = .error e
def DQ {α:Type} (x:α):Ps α:=fun t=>some (x,t)
def Ai {α β:Type} (f:Ps α) (g:α->Ps β):Ps β:=fun t=>match f t with
 | some (x,t')=>g x t'
 | none=>none
def Gp {α:Type}:Ps α:=fun _=>none
theorem Cv {α:Type} (x:α):Sim (return x:Rd α) (DQ x):=fun n t=>⟨n,rfl⟩
theorem Bc {α β:Type} {r:Rd α} {k:α->Rd β} {f:Ps α} {g:α->Ps β} (h:Sim r f) (hk:∀ x,Sim (k x) (g x)):Sim (r >>= k) (Ai f g):=fun n t=>by
 have h1:=h n t
 unfold Ai
 cases e:f t with
 | none =>
  rw [e] at h1
  obtain ⟨er,q⟩:=h1
  refine ⟨er,?_⟩
  show (r >>= k) (n,t)=_
  show (r (n,t) >>= fun p=>k p.1 p.2)=_
  rw [show r (n,t)=Except.error er from q]
  rfl
 | some p =>
  obtain ⟨x,t'⟩:=p
  rw [e] at h1
  obtain ⟨m,q⟩:=h1
  have h2:=hk x m t'
  have e2:(r >>= k).run (n,t)=(k x).run (m,t'):=by
   show (r (n,t) >>= fun p=>k p.1 p.2)=_
   rw [show r (n,t)=Except.ok (x,(m,t')) from q]
   rfl
  show match g x t' with
   | some (x,t')=>∃ m,(r >>= k).run (n,t) = .ok (x,(m,t'))
   | none=>∃ e,(r >>= k).run (n,t) = .error e
  rw [e2]
  exact h2
theorem DG {α:Type}:Sim (stray:Rd α) Gp:=fun n t=>⟨n,rfl⟩
theorem GD {β:Type} {k:Option UInt8->Rd β} {g:Option UInt8->Ps β} (hk:∀ x,Sim (k x) (g x)):Sim (peek >>= k) (fun t=>g t.head? t):=fun n t=>by
 have h2:=hk t.head? n t
 have e2:(peek >>= k).run (n,t)=(k t.head?).run (n,t):=rfl
 show match g t.head? t with
   | some (x,t')=>∃ m,(peek >>= k).run (n,t) = .ok (x,(m,t'))
   | none=>∃ e,(peek >>= k).run (n,t) = .error e
 rw [e2]
 exact h2
theorem Ir:Sim skip (fun t=>some ((),t.drop 1)):=fun n t=>⟨n + 1,rfl⟩
theorem Jy {α:Type} {c:Prop} [Decidable c] {r s:Rd α} {f g:Ps α} (h1:Sim r f) (h2:Sim s g):Sim (if c then r else s) (if c then f else g):=by
 by_cases e:c
 ·rw [if_pos e,if_pos e]; exact h1
 ·rw [if_neg e,if_neg e]; exact h2
theorem Es {α:Type} {r:Rd α} {f g:Ps α} (h:Sim r f) (e:∀ t,f t=g t):Sim r g:=fun n t=>by
 have:=h n t
 rw [e t] at this
 exact this
def Bm (c:UInt8):Ps Unit
 | []=>none
 | a :: r=>if a=c then some ((),r) else none
theorem Iu (c:UInt8):Sim (byte_ c) (Bm c):=by
 refine Es (GD (fun x=>Jy (c:=x=some c) Ir DG)) ?_
 intro t
 cases t with
 | nil=>rfl
 | cons a r =>
  show (if some a=some c then (fun t:Bytes=>some ((),t.drop 1)) else Gp) (a :: r)=_
  rw [Bm]
  by_cases e:a=c
  ·rw [if_pos (by rw [e]),if_pos e]; rfl
  ·rw [if_neg (fun q=>e (Option.some.inj q)),if_neg e]; rfl
def Cu:Bytes->Ps Unit
 | []=>DQ ()
 | c :: r=>Ai (Bm c) fun _=>Cu r
theorem Mj:∀ l:Bytes,Sim (bytes_ l) (Cu l)
 | []=>Cv ()
 | c :: r=>Bc (Iu c) fun _=>Mj r
def GP (lo hi:Nat) (v:Option Nat) (c:Option UInt8):Option Nat:=c.bind fun (c:UInt8)=>if isDigit c=false \/ v=some 0 then Option.none else let n:=10 * v.getD 0 + (c.toNat - 48)
   if leadsTo lo hi n=true then some n else Option.none
def Bv (lo hi:Nat):Nat->Option Nat->Ps Nat
 | 0,_=>Gp
 | f + 1,v=>fun t=>match GP lo hi v t.head? with
  | some n=>Bv lo hi f (some n) (t.drop 1)
  | Option.none=>match v with
   | some n=>if lo <= n/\n <= hi then some (n,t) else none
   | Option.none=>none
theorem Vn (lo hi:Nat):∀ (f:Nat) (v:Option Nat),Sim (digits lo hi f v) (Bv lo hi f v)
 | 0,_=>DG
 | f + 1,v=>by
  unfold digits
  refine Es (GD (g:=fun c=>match GP lo hi v c with
   | some n=>Ai (fun t=>some ((),t.drop 1)) fun _=>Bv lo hi f (some n)
   | Option.none=>match v with
    | some n=>if lo <= n/\n <= hi then DQ n else Gp
    | Option.none=>Gp) (fun x=>?_)) ?_
  ·show Sim (match GP lo hi v x with
    | some n=>do
     skip
     digits lo hi f (some n)
    | Option.none=>match v with
     | some n=>if lo <= n/\n <= hi then return n else stray
     | Option.none=>stray) _
   cases GP lo hi v x with
   | some n=>exact Bc Ir fun _=>Vn lo hi f (some n)
   | none =>
    cases v with
    | none=>exact DG
    | some n=>exact Jy (Cv n) DG
  ·intro t
   show (match GP lo hi v t.head? with
   | some n=>Ai (fun t=>some ((),t.drop 1)) fun _=>Bv lo hi f (some n)
   | Option.none=>match v with
    | some n=>if lo <= n/\n <= hi then DQ n else Gp
    | Option.none=>Gp) t=_
   rw [Bv]
   dsimp only
   cases GP lo hi v t.head? with
   | some n=>rfl
   | none =>
    cases v with
    | none=>rfl
    | some n =>
     show (if lo <= n/\n <= hi then DQ n else Gp) t=if lo <= n/\n <= hi then some (n,t) else none
     by_cases e:lo <= n/\n <= hi
     ·rw [if_pos e,if_pos e]; rfl
     ·rw [if_neg e,if_neg e]; rfl
def pNum (lo hi:Nat):Ps Nat:=Bv lo hi 20 none
def Cw (lo hi:Nat):Ps Nat:=Ai (Bm 32) fun _=>pNum lo hi
theorem CQ (lo hi:Nat):Sim (numAfter lo hi) (Cw lo hi):=Bc (Iu 32) fun _=>Vn lo hi 20 none
def Ca (f:UInt8->Bool):Nat->Ps Bytes
 | 0=>DQ []
 | n + 1=>fun t=>match t with
  | []=>some ([],[])
  | c :: r=>if f c=true then (match Ca f n r with
    | some (x,t')=>some (c :: x,t')
    | none=>none) else some ([],c :: r)
theorem Yq (p:UInt8->Bool):∀ n:Nat,Sim (while_ p n) (Ca p n)
 | 0=>Cv []
 | n + 1=>by
  unfold while_
  refine Es (GD (g:=fun c=>match c with
   | some c=>if p c=true then Ai (fun t=>some ((),t.drop 1)) fun _=>Ai (Ca p n) fun x=>DQ (c :: x) else DQ []
   | none=>DQ []) (fun x=>?_)) ?_
  ·cases x with
   | none=>exact Cv []
   | some c=>exact Jy (Bc Ir fun _=>Bc (Yq p n) fun x=>Cv _) (Cv [])
  ·intro t
   cases t with
   | nil=>rfl
   | cons c r =>
    show (if p c=true then Ai (fun t=>some ((),t.drop 1)) fun _=>Ai (Ca p n) fun x=>DQ (c :: x) else DQ []) (c :: r)=_
    rw [Ca]
    dsimp only
    by_cases e:p c=true
    ·rw [if_pos e,if_pos e]
     show Ai (Ca p n) (fun x=>DQ (c :: x)) r=_
     unfold Ai
     cases Ca p n r with
     | none=>rfl
     | some q=>rfl
    ·rw [if_neg e,if_neg e]; rfl
def isNm (c:UInt8):Bool:=isLow c || isDigit c
def Fv (n:Nat):Ps Bytes
 | []=>none
 | c :: r=>if isLow c=true then (match Ca isNm n r with
    | some (x,t')=>some (c :: x,t')
    | none=>none) else none
theorem Yr (n:Nat):Sim (do
 match <- peek with
 | some c =>
  if isLow c=true then
   skip
   let r <- while_ (fun (c:UInt8)=>isLow c || isDigit c) n
   return c :: r
  else
   stray
 | Option.none=>stray) (Fv n):=by
 refine Es (GD (g:=fun c=>match c with
   | some c=>if isLow c=true then Ai (fun t=>some ((),t.drop 1)) fun _=>Ai (Ca isNm n) fun x=>DQ (c :: x) else Gp
   | none=>Gp) (fun x=>?_)) ?_
 ·cases x with
  | none=>exact DG
  | some c=>exact Jy (Bc Ir fun _=>Bc (Yq _ n) fun x=>Cv _) DG
 ·intro t
  cases t with
  | nil=>rfl
  | cons c r =>
   show (if isLow c=true then Ai (fun t=>some ((),t.drop 1)) fun _=>Ai (Ca isNm n) fun x=>DQ (c :: x) else Gp) (c :: r)=_
   rw [Fv]
   by_cases e:isLow c=true
   ·rw [if_pos e,if_pos e]
    show Ai (Ca isNm n) (fun x=>DQ (c :: x)) r=_
    unfold Ai
    cases Ca isNm n r with
    | none=>rfl
    | some q=>rfl
   ·rw [if_neg e,if_neg e]; rfl
theorem afB:Sim name_ (Fv 7):=Yr 7
theorem ZS:Sim longName_ (Fv 15):=Yr 15
def Fj {α:Type} (f:Ps α):Nat->Ps (List α)
 | 0=>DQ []
 | n + 1=>Ai f fun x=>Ai (Fj f n) fun l=>DQ (x :: l)
theorem Q5 {α:Type} {r:Rd α} {f:Ps α} (h:Sim r f):∀ n,Sim (times n r) (Fj f n)
 | 0=>Cv []
 | n + 1=>Bc h fun x=>Bc (Q5 h n) fun l=>Cv _
def Dc {α:Type} (f:Ps α):Nat->Ps (List α)
 | 0=>fun t=>if t.head?.isSome=true then none else some ([],t)
 | n + 1=>fun t=>if t.head?.isSome=true then Ai f (fun x=>Ai (Dc f n) fun l=>DQ (x :: l)) t else some ([],t)
theorem Q4 {α:Type} {r:Rd α} {f:Ps α} (h:Sim r f):∀ n,Sim (toEnd r n) (Dc f n)
 | 0=>by
  unfold toEnd
  refine Es (GD (fun x=>Jy (c:=x.isSome=true) DG (Cv []))) ?_
  intro t
  rw [Dc]
  show (if t.head?.isSome=true then (Gp:Ps (List α)) else DQ []) t=_
  dsimp only
  by_cases e:t.head?.isSome=true
  ·rw [if_pos e,if_pos e]; rfl
  ·rw [if_neg e,if_neg e]; rfl
 | n + 1=>by
  unfold toEnd
  refine Es (GD (fun x=>Jy (c:=x.isSome=true) (Bc h fun x=>Bc (Q4 h n) fun l=>Cv _) (Cv []))) ?_
  intro t
  rw [Dc]
  show (if t.head?.isSome=true then (Ai f fun x=>Ai (Dc f n) fun l=>DQ (x :: l)) else DQ []) t=_
  dsimp only
  by_cases e:t.head?.isSome=true
  ·rw [if_pos e,if_pos e]
  ·rw [if_neg e,if_neg e]; rfl
def FW:Ps Place
 | []=>none
 | c :: r=>match placeOf c with
  | some p=>some (p,r)
  | none=>none
theorem aer:Sim place_ FW:=by
 unfold place_
 refine Es (GD (g:=fun c=>match c.bind placeOf with
   | some p=>Ai (fun t=>some ((),t.drop 1)) fun _=>DQ p
   | none=>Gp) (fun x=>?_)) ?_
 ·cases x.bind placeOf with
  | none=>exact DG
  | some c=>exact Bc Ir fun _=>Cv _
 ·intro t
  cases t with
  | nil=>rfl
  | cons c r =>
   show (match placeOf c with
   | some p=>Ai (fun t=>some ((),t.drop 1)) fun _=>DQ p
   | none=>Gp) (c :: r)=_
   rw [FW]
   cases placeOf c <;> rfl
def acD (w:Nat):Ps (List Place):=Ai (Fj FW w) fun l=>Ai (Bm 10) fun _=>DQ l
theorem ag6 (w:Nat):Sim (row_ w) (acD w):=Bc (Q5 aer w) fun l=>Bc (Iu 10) fun _=>Cv _
def K6:Ps Part:=Ai (Cu (ascii "part ")) fun _=>Ai (Fv 7) fun n=>Ai (Cw 1 16) fun w=>Ai (Cw 1 16) fun d=>Ai (Cw 1 18) fun h=>Ai (Cw 1 9999) fun g =>
 Ai (Bm 10) fun _=>Ai (Fj (acD w) (d * h)) fun l=>DQ ⟨n,w,d,h,g,l.flatten⟩
theorem aaT:Sim part_ K6:=Bc (Mj _) fun _=>Bc afB fun n=>Bc (CQ _ _) fun w=>Bc (CQ _ _) fun d=>Bc (CQ _ _) fun h=>Bc (CQ _ _) fun g =>
 Bc (Iu 10) fun _=>Bc (Q5 (ag6 w) _) fun l=>Cv _
def PX:Ps Catalogue:=Ai K6 fun p=>Ai (Dc K6 63) fun l=>DQ (p :: l)
def readM {α:Type} (f:Ps α) (t:Bytes):Option α:=(f t).map (·.1)
def aaC {α:Type} (x:Option α) (y:Except Nat α):Prop:=match x with
  | some x=>y = .ok x
  | none=>∃ e,y = .error e
theorem Sg {α:Type} {r:Rd α} {f:Ps α} (h:Sim r f) (t:Bytes):aaC (readM f t) (readAll r t):=by
 have h1:=h 0 t
 unfold readM readAll
 cases e:f t with
 | none =>
  rw [e] at h1
  obtain ⟨er,q⟩:=h1
  exact ⟨er,by rw [q]; rfl⟩
 | some p =>
  obtain ⟨x,t'⟩:=p
  rw [e] at h1
  obtain ⟨m,q⟩:=h1
  show (r.run (0,t)).map _=_
  rw [q]; rfl
theorem aew (t:Bytes):aaC (readM PX t) (readC t) :=
 Sg (f:=PX) (Bc aaT fun p=>Bc (Q4 aaT 63) fun l=>Cv (p :: l)) t
def BK (names:List Bytes):Nat->Bytes->Ps Nat
 | 0,p=>fun t=>match names.findIdx? fun (n:Bytes)=>n == p with
  | some i=>some (i,t)
  | none=>none
 | f + 1,p=>fun t=>match t with
  | []=>none
  | c :: r=>if (names.any fun (n:Bytes)=>(p ++ [c]).isPrefixOf n)=true then BK names f (p ++ [c]) r else
    match names.findIdx? fun (n:Bytes)=>n == p with
    | some i=>some (i,c :: r)
    | none=>none
theorem Ys (names:List Bytes):∀ (f:Nat) (p:Bytes),Sim (known names f p) (BK names f p)
 | 0,p=>by
  unfold known
  refine Es (f:=match names.findIdx? fun (n:Bytes)=>n == p with
  | some i=>DQ i
  | none=>Gp) ?_ ?_
  ·cases names.findIdx? fun (n:Bytes)=>n == p with
   | none=>exact DG
   | some i=>exact Cv i
  ·intro t
   unfold BK
   cases names.findIdx? fun (n:Bytes)=>n == p <;> rfl
 | f + 1,p=>by
  unfold known
  refine Es (GD (g:=fun c=>match c with
   | some c=>if (names.any fun (n:Bytes)=>(p ++ [c]).isPrefixOf n)=true then Ai (fun t=>some ((),t.drop 1)) fun _=>BK names f (p ++ [c]) else
    match names.findIdx? fun (n:Bytes)=>n == p with
    | some i=>DQ i
    | none=>Gp
   | none=>Gp) (fun x=>?_)) ?_
  ·cases x with
   | none=>exact DG
   | some c =>
    refine Jy (Bc Ir fun _=>Ys names f _) ?_
    cases names.findIdx? fun (n:Bytes)=>n == p with
    | none=>exact DG
    | some i=>exact Cv i
  ·intro t
   cases t with
   | nil=>rfl
   | cons c r =>
    show (if (names.any fun (n:Bytes)=>(p ++ [c]).isPrefixOf n)=true then Ai (fun t=>some ((),t.drop 1)) fun _=>BK names f (p ++ [c]) else
     match names.findIdx? fun (n:Bytes)=>n == p with
     | some i=>DQ i
     | none=>Gp) (c :: r)=_
    rw [BK]
    dsimp only
    by_cases e:(names.any fun (n:Bytes)=>(p ++ [c]).isPrefixOf n)=true
    ·rw [if_pos e,if_pos e]; rfl
    ·rw [if_neg e,if_neg e]
     cases names.findIdx? fun (n:Bytes)=>n == p <;> rfl
def J7 (c:Catalogue):Ps Line:=Ai (Cu (ascii "put ")) fun _=>Ai (BK (c.map fun (p:Part)=>p.name) 8 []) fun p=>Ai (Cw 0 255) fun k=>Ai (Cw 0 63) fun x=>Ai (Cw 0 63) fun y =>
 Ai (Cw 0 95) fun z=>Ai (Cw 0 3) fun r=>Ai (Bm 10) fun _=>DQ ⟨p,k,x,y,z,r⟩
theorem afC (c:Catalogue):Sim (line_ c) (J7 c):=Bc (Mj _) fun _=>Bc (Ys _ _ _) fun n=>Bc (CQ _ _) fun w=>Bc (CQ _ _) fun d=>Bc (CQ _ _) fun h=>Bc (CQ _ _) fun g=>Bc (CQ _ _) fun g =>
 Bc (Iu 10) fun _=>Cv _
def Em (c:Catalogue):Ps Build:=Ai (Cu (ascii "build ")) fun _=>Ai (Fv 15) fun n=>Ai (Bm 10) fun _=>Ai (Dc (J7 c) 256) fun l=>DQ (⟨n,l⟩:Build)
theorem aex (c:Catalogue) (t:Bytes):aaC (readM (Em c) t) (readB c t) :=
 Sg (f:=Em c) (Bc (Mj _) fun _=>Bc ZS fun n=>Bc (Iu 10) fun _=>Bc (Q4 (afC c) 256) fun l=>Cv (⟨n,l⟩:Build)) t
def split (d:UInt8):Bytes->List Bytes
 | []=>[[]]
 | c :: r=>if c=d then [] :: split d r else match split d r with
  | []=>[[c]]
  | p :: ps=>(c :: p) :: ps
theorem Ei (d:UInt8):∀ t,split d t ≠ []
 | []=>by simp [split]
 | c :: r=>by
  rw [split]
  by_cases e:c=d
  ·rw [if_pos e]; simp
  ·rw [if_neg e]
   cases split d r <;> simp
theorem split_free {d:UInt8}:∀ {t:Bytes} {p:Bytes},p ∈ split d t->d ∉ p/\∀ c ∈ p,c ∈ t
 | [],p,h=>by
  simp [split] at h
  subst h
  simp
 | c :: r,p,h=>by
  rw [split] at h
  by_cases e:c=d
  ·rw [if_pos e] at h
   rcases List.mem_cons.mp h with rfl | h
   ·simp
   ·have:=split_free h
    exact ⟨this.1,fun x hx=>List.mem_cons_of_mem _ (this.2 x hx)⟩
  ·rw [if_neg e] at h
   cases q:split d r with
   | nil=>exact absurd q (Ei d r)
   | cons a as =>
    rw [q] at h
    rcases List.mem_cons.mp h with rfl | h
    ·have:=split_free (t:=r) (p:=a) (by rw [q]; exact List.mem_cons_self ..)
     refine ⟨fun z=>?_,fun x hx=>?_⟩
     ·rcases List.mem_cons.mp z with z | z
      ·exact e z.symm
      ·exact this.1 z
     ·rcases List.mem_cons.mp hx with rfl | hx
      ·exact List.mem_cons_self ..
      ·exact List.mem_cons_of_mem _ (this.2 x hx)
    ·have:=split_free (t:=r) (p:=p) (by rw [q]; exact List.mem_cons_of_mem _ h)
     exact ⟨this.1,fun x hx=>List.mem_cons_of_mem _ (this.2 x hx)⟩
def joined (d:UInt8):List Bytes->Bytes
 | []=>[]
 | [x]=>x
 | x :: y :: r=>x ++ d :: joined d (y :: r)
theorem JL (d:UInt8):∀ t,joined d (split d t)=t
 | []=>rfl
 | c :: r=>by
  rw [split]
  have ih:=JL d r
  by_cases e:c=d
  ·rw [if_pos e]
   cases q:split d r with
   | nil=>exact absurd q (Ei d r)
   | cons a as =>
    rw [q] at ih
    show [] ++ d :: joined d (a :: as)=_
    rw [ih,e]; rfl
  ·rw [if_neg e]
   cases q:split d r with
   | nil=>exact absurd q (Ei d r)
   | cons a as =>
    rw [q] at ih
    cases as with
    | nil =>
     have e2:a=r:=ih
     subst e2
     rfl
    | cons b bs =>
     have e2:a ++ d :: joined d (b :: bs)=r:=ih
     show (c :: a) ++ d :: joined d (b :: bs)=_
     rw [List.cons_append,e2]
def flat (rs:List Bytes):Bytes:=rs.flatMap (· ++ [10])
theorem Ed (r:Bytes) (rs:List Bytes) (t:Bytes):flat (r :: rs) ++ t=r ++ 10 :: (flat rs ++ t):=by
 simp [flat]
theorem S8:∀ (rs:List Bytes) (tl:Bytes),joined 10 (rs ++ [tl])=flat rs ++ tl
 | [],tl=>rfl
 | [r],tl=>by simp [joined,flat]
 | r :: s :: rs,tl=>by
  have:=S8 (s :: rs) tl
  rw [Ed,<- this]
  rfl
def JQ (rest:Bytes) (ws:List Bytes):Bytes:=joined 32 ws ++ 10 :: rest
theorem X5 (rest w:Bytes):JQ rest [w] = w ++ 10 :: rest:=rfl
theorem U4 (rest w v:Bytes) (ws:List Bytes):JQ rest (w :: v :: ws)=w ++ 32 :: JQ rest (v :: ws):=by
 simp [JQ,joined]
theorem DX {α β γ:Type} (f:Ps α) (g:α->Ps β) (h:β->Ps γ):Ai (Ai f g) h=Ai f fun x=>Ai (g x) h:=by
 funext t
 unfold Ai
 cases f t with
 | none=>rfl
 | some p=>rfl
theorem Bf {α β:Type} {f:Ps α} {g:α->Ps β} {t t':Bytes} {x:α} (h:f t=some (x,t')):Ai f g t=g x t':=by unfold Ai; rw [h]
theorem Ay {α β:Type} {f:Ps α} {g:α->Ps β} {t:Bytes} (h:f t=none):Ai f g t=none:=by unfold Ai; rw [h]
theorem YK {α β:Type} (x:α) (g:α->Ps β):Ai (DQ x) g=g x:=rfl
def Tok {α:Type} (f:Ps α) (g:Bytes->Option α):Prop:=∀ (d:UInt8) (β:Type) (k:α->Ps β) (w:Bytes) (c:UInt8) (r:Bytes),(d=32 \/ d=10)->(c=32 \/ c=10)->32 ∉ w->10 ∉ w ->
 Ai f (fun x=>Ai (Bm d) (fun _=>k x)) (w ++ c :: r)=match g w with
  | some x=>if c=d then k x r else none
  | none=>none
theorem JS {α β:Type} {f:Ps α} {g:Bytes->Option α} (h:Tok f g) (k:α->Ps β) {rest w:Bytes} {ws:List Bytes} (h1:32 ∉ w) (h2:10 ∉ w) :
  Ai f (fun x=>Ai (Bm 32) (fun _=>k x)) (JQ rest (w :: ws))=match g w with
   | some x=>if ws=[] then none else k x (JQ rest ws)
   | none=>none:=by
 cases ws with
 | nil =>
  rw [X5,h 32 β k w 10 rest (.inl rfl) (.inr rfl) h1 h2]
  cases g w <;> simp
 | cons v vs =>
  rw [U4,h 32 β k w 32 _ (.inl rfl) (.inl rfl) h1 h2]
  cases g w <;> simp
theorem afy {α β:Type} {f:Ps α} {g:Bytes->Option α} (h:Tok f g) (k:α->Ps β) {rest w:Bytes} {ws:List Bytes} (h1:32 ∉ w) (h2:10 ∉ w) :
  Ai f (fun x=>Ai (Bm 10) (fun _=>k x)) (JQ rest (w :: ws))=match g w with
   | some x=>if ws=[] then k x rest else none
   | none=>none:=by
 cases ws with
 | nil =>
  rw [X5,h 10 β k w 10 rest (.inr rfl) (.inr rfl) h1 h2]
  cases g w <;> simp
 | cons v vs =>
  rw [U4,h 10 β k w 32 _ (.inr rfl) (.inl rfl) h1 h2]
  cases g w <;> simp
theorem Ha {d a:UInt8} (h:a ≠ d) (r:Bytes):Bm d (a :: r)=none:=by rw [Bm,if_neg h]
theorem abQ (d:UInt8) (r:Bytes):Bm d (d :: r)=some ((),r):=by rw [Bm,if_pos rfl]
theorem Mf {α β:Type} (k:α->Ps β) (x:α) (d c:UInt8) (r:Bytes):Ai (DQ x) (fun x=>Ai (Bm d) (fun _=>k x)) (c :: r)=if c=d then k x r else none:=by
 show Ai (Bm d) (fun _=>k x) (c :: r)=_
 unfold Ai
 rw [Bm]
 by_cases e:c=d
 ·rw [if_pos e,if_pos e]
 ·rw [if_neg e,if_neg e]
def eqB (l w:Bytes):Option Unit:=if w=l then some () else none
def nmB (p:Bytes->Bool) (w:Bytes):Option Bytes:=if p w=true then some w else none
theorem Mg:∀ l:Bytes,32 ∉ l->10 ∉ l->Tok (Cu l) (eqB l)
 | [],_,_=>fun d β k w c r hd hc h1 h2=>by
  cases w with
  | nil =>
   show Ai (DQ ()) _ (c :: r)=_
   rw [Mf k () d c r,eqB,if_pos rfl]
  | cons a as =>
   have ha:a ≠ d:=by
    rintro rfl
    rcases hd with rfl | rfl
    ·exact h1 (List.mem_cons_self ..)
    ·exact h2 (List.mem_cons_self ..)
   show Ai (Bm d) (fun _=>k ()) (a :: (as ++ c :: r))=_
   rw [eqB,if_neg (by simp)]
   unfold Ai
   rw [Ha ha]
 | b :: l,g1,g2=>fun d β k w c r hd hc h1 h2=>by
  have ih:=Mg l (fun z=>g1 (List.mem_cons_of_mem _ z)) (fun z=>g2 (List.mem_cons_of_mem _ z)) d β k
  rw [Cu,DX]
  cases w with
  | nil =>
   have hb:c ≠ b:=by
    rintro rfl
    rcases hc with rfl | rfl
    ·exact g1 (List.mem_cons_self ..)
    ·exact g2 (List.mem_cons_self ..)
   rw [eqB,if_neg (by simp)]
   show Ai (Bm b) _ (c :: r)=_
   unfold Ai
   rw [Ha hb]
  | cons a as =>
   rw [List.cons_append]
   by_cases e:a=b
   ·subst e
    have e1:Ai (Bm a) (fun x=>Ai (Cu l) fun x=>Ai (Bm d) fun _=>k x) (a :: (as ++ c :: r))=Ai (Cu l) (fun x=>Ai (Bm d) fun _=>k x) (as ++ c :: r):=by
     exact Bf (abQ a _)
    rw [e1,ih as c r hd hc (fun z=>h1 (List.mem_cons_of_mem _ z)) (fun z=>h2 (List.mem_cons_of_mem _ z))]
    by_cases e2:as=l
    ·rw [eqB,eqB,if_pos e2,if_pos (by rw [e2])]
    ·rw [eqB,eqB,if_neg e2,if_neg (by simpa using e2)]
   ·rw [eqB,if_neg (by simp [e])]
    unfold Ai
    rw [Ha e]
def Gf (n:Nat) (w:Bytes):Bool:=match w with
 | []=>false
 | c :: r=>isLow c && (decide (r.length <= n) && r.all isNm)
theorem adI {c:UInt8} (h:c=32 \/ c=10):isNm c=false:=by rcases h with rfl | rfl <;> decide
theorem abl {c:UInt8} (h:c=32 \/ c=10):isLow c=false:=by rcases h with rfl | rfl <;> decide
theorem X6 (d:UInt8) {β:Type} (k:Bytes->Ps β) (hd:d=32 \/ d=10):∀ (n:Nat) (w:Bytes) (c:UInt8) (r:Bytes),(c=32 \/ c=10)->32 ∉ w->10 ∉ w ->
  Ai (Ca isNm n) (fun x=>Ai (Bm d) (fun _=>k x)) (w ++ c :: r)=if w.length <= n/\w.all isNm=true then (if c=d then k w r else none) else none
 | n,[],c,r,hc,_,_=>by
  rw [if_pos (by simp)]
  have e:Ca isNm n (c :: r)=some ([],c :: r):=by
   cases n with
   | zero=>rfl
   | succ n =>
    rw [Ca]
    dsimp only
    rw [if_neg (by rw [adI hc]; decide)]
  show Ai (Ca isNm n) _ (c :: r)=_
  rw [Bf e]
  exact Mf k [] d c r
 | 0,a :: w,c,r,hc,h1,h2=>by
  rw [if_neg (by simp)]
  have ha:a ≠ d:=by
   rintro rfl
   rcases hd with rfl | rfl
   ·exact h1 (List.mem_cons_self ..)
   ·exact h2 (List.mem_cons_self ..)
  show Ai (Bm d) (fun _=>k []) (a :: (w ++ c :: r))=none
  unfold Ai
  rw [Ha ha]
 | n + 1,a :: w,c,r,hc,h1,h2=>by
  have ih:=X6 d (fun x=>k (a :: x)) hd n w c r hc (fun z=>h1 (List.mem_cons_of_mem _ z)) (fun z=>h2 (List.mem_cons_of_mem _ z))
  have ha:a ≠ d:=by
   rintro rfl
   rcases hd with rfl | rfl
   ·exact h1 (List.mem_cons_self ..)
   ·exact h2 (List.mem_cons_self ..)
  rw [List.cons_append]
  by_cases e:isNm a=true
  ·have e1:Ai (Ca isNm (n + 1)) (fun x=>Ai (Bm d) (fun _=>k x)) (a :: (w ++ c :: r))=Ai (Ca isNm n) (fun x=>Ai (Bm d) (fun _=>k (a :: x))) (w ++ c :: r):=by
    unfold Ai
    rw [Ca]
    dsimp only
    rw [if_pos e]
    cases Ca isNm n (w ++ c :: r) with
    | none=>rfl
    | some q=>rfl
   rw [e1,ih]
   simp [e]
  ·rw [if_neg (by simp [e])]
   have e1:Ca isNm (n + 1) (a :: (w ++ c :: r))=some ([],a :: (w ++ c :: r)):=by
    rw [Ca]
    dsimp only
    rw [if_neg e]
   rw [Bf e1]
   exact Ay (Ha ha _)
theorem aaK (n:Nat):Tok (Fv n) (nmB (Gf n)):=fun d β k w c r hd hc h1 h2=>by
 cases w with
 | nil =>
  rw [nmB,if_neg (by simp [Gf])]
  show Ai (Fv n) _ (c :: r)=_
  unfold Ai
  rw [Fv,if_neg (by rw [abl hc]; decide)]
 | cons a w =>
  rw [List.cons_append]
  by_cases e:isLow a=true
  ·have e1:Ai (Fv n) (fun x=>Ai (Bm d) (fun _=>k x)) (a :: (w ++ c :: r))=Ai (Ca isNm n) (fun x=>Ai (Bm d) (fun _=>k (a :: x))) (w ++ c :: r):=by
    unfold Ai
    rw [Fv,if_pos e]
    cases Ca isNm n (w ++ c :: r) with
    | none=>rfl
    | some q=>rfl
   rw [e1,X6 d (fun x=>k (a :: x)) hd n w c r hc (fun z=>h1 (List.mem_cons_of_mem _ z)) (fun z=>h2 (List.mem_cons_of_mem _ z))]
   by_cases q:w.length <= n/\w.all isNm=true
   ·rw [nmB,if_pos q,show Gf n (a :: w)=true by simp only [Gf,e,Bool.true_and,Bool.and_eq_true,decide_eq_true_eq]; exact q,if_pos rfl]
   ·rw [nmB,if_neg q,if_neg (by simp only [Gf,e,Bool.true_and,Bool.and_eq_true,decide_eq_true_eq]; exact q)]
  ·rw [nmB,if_neg (by simp [Gf,e])]
   unfold Ai
   rw [Fv,if_neg e]
def Dk (hi:Nat):Nat->Bytes->Option Nat
 | n,[]=>some n
 | n,c :: r=>if isDigit c=false then none else if hi < 10 * n + (c.toNat - 48) then none else Dk hi (10 * n + (c.toNat - 48)) r
def Bq (lo hi:Nat) (w:Bytes):Option Nat:=match w with
 | []=>none
 | c :: r=>if c=48/\r ≠ [] then none else match Dk hi 0 (c :: r) with
  | some n=>if n < lo then none else some n
  | none=>none
theorem Y7 {lo hi n:Nat} (hl:lo <= 1) (hn:0 < n):leadsTo lo hi n=decide (n <= hi):=by
 unfold leadsTo
 rw [if_neg (by omega)]
 by_cases e:n <= hi
 ·rw [decide_eq_true e,List.any_eq_true]
  refine ⟨0,by simp,?_⟩
  simp only [Nat.pow_zero,Nat.mul_one,Bool.and_eq_true,decide_eq_true_eq]
  omega
 ·rw [decide_eq_false e,List.any_eq_false]
  intro k hk
  have:n * 1 <= n * 10 ^ k:=Nat.mul_le_mul_left n (Nat.one_le_pow _ _ (by decide))
  have h2:¬ n * 10 ^ k <= hi:=by omega
  simp [h2]
theorem acV (lo hi:Nat):leadsTo lo hi 0=(lo == 0):=by
 unfold leadsTo
 rw [if_pos rfl]
theorem Mr {lo hi:Nat} {v:Option Nat} {a:UInt8} (h:isDigit a=false \/ v=some 0):GP lo hi v (some a)=none:=by
 unfold GP
 show (if isDigit a=false \/ v=some 0 then none else _)=none
 rw [if_pos h]
theorem abh {lo hi:Nat} {v:Option Nat} {a:UInt8} (h:isDigit a=true) (hv:v ≠ some 0):GP lo hi v (some a)=if leadsTo lo hi (10 * v.getD 0 + (a.toNat - 48))=true then some (10 * v.getD 0 + (a.toNat - 48)) else none:=by
 unfold GP
 show (if isDigit a=false \/ v=some 0 then none else _)=_
 rw [if_neg (by simp [h,hv])]
theorem abD {c:UInt8} (h:c=32 \/ c=10):isDigit c=false:=by rcases h with rfl | rfl <;> decide
theorem adG (d:UInt8) {β:Type} (k:Nat->Ps β) (hd:d=32 \/ d=10) {lo hi:Nat} (hl:lo <= 1):∀ (f n:Nat) (w:Bytes) (c:UInt8) (r:Bytes),0 < n->n <= hi->hi < n * 10 ^ f->(c=32 \/ c=10)->32 ∉ w->10 ∉ w ->
  Ai (Bv lo hi f (some n)) (fun x=>Ai (Bm d) (fun _=>k x)) (w ++ c :: r)=match Dk hi n w with
   | some m=>if c=d then k m r else none
   | none=>none
 | 0,n,w,c,r,h0,hn,hf,hc,h1,h2=>by
  rw [Nat.pow_zero,Nat.mul_one] at hf
  omega
 | f + 1,n,[],c,r,h0,hn,hf,hc,h1,h2=>by
  have e:Bv lo hi (f + 1) (some n) (c :: r)=some (n,c :: r):=by
   rw [Bv]
   dsimp only [List.head?_cons]
   rw [Mr (.inl (abD hc))]
   dsimp only
   rw [if_pos ⟨by omega,hn⟩]
  show Ai (Bv lo hi (f + 1) (some n)) _ (c :: r)=_
  rw [Bf e,Dk]
  exact Mf k n d c r
 | f + 1,n,a :: w,c,r,h0,hn,hf,hc,h1,h2=>by
  have ha:a ≠ d:=by
   rintro rfl
   rcases hd with rfl | rfl
   ·exact h1 (List.mem_cons_self ..)
   ·exact h2 (List.mem_cons_self ..)
  have stop:GP lo hi (some n) (some a)=none->Ai (Bv lo hi (f + 1) (some n)) (fun x=>Ai (Bm d) (fun _=>k x)) (a :: (w ++ c :: r))=none:=fun q=>by
   have e:Bv lo hi (f + 1) (some n) (a :: (w ++ c :: r))=some (n,a :: (w ++ c :: r)):=by
    rw [Bv]
    dsimp only [List.head?_cons]
    rw [q]
    dsimp only
    rw [if_pos ⟨by omega,hn⟩]
   rw [Bf e]
   exact Ay (Ha ha _)
  rw [List.cons_append,Dk]
  by_cases e:isDigit a=true
  ·rw [if_neg (by simp [e])]
   have em:GP lo hi (some n) (some a)=if leadsTo lo hi (10 * n + (a.toNat - 48))=true then some (10 * n + (a.toNat - 48)) else none:=abh e (by simp; omega)
   rw [Y7 hl (by omega)] at em
   by_cases q:10 * n + (a.toNat - 48) <= hi
   ·rw [if_neg (by omega)]
    rw [if_pos (decide_eq_true q)] at em
    have e1:Bv lo hi (f + 1) (some n) (a :: (w ++ c :: r))=Bv lo hi f (some (10 * n + (a.toNat - 48))) (w ++ c :: r):=by
     rw [Bv]
     dsimp only [List.head?_cons]
     rw [em]
     rfl
    have e2:Ai (Bv lo hi (f + 1) (some n)) (fun x=>Ai (Bm d) (fun _=>k x)) (a :: (w ++ c :: r))=Ai (Bv lo hi f (some (10 * n + (a.toNat - 48)))) (fun x=>Ai (Bm d) (fun _=>k x)) (w ++ c :: r):=by
     unfold Ai
     rw [e1]
    rw [e2]
    refine adG d k hd hl f _ w c r (by omega) q ?_ hc (fun z=>h1 (List.mem_cons_of_mem _ z)) (fun z=>h2 (List.mem_cons_of_mem _ z))
    have:10 * n * 10 ^ f <= (10 * n + (a.toNat - 48)) * 10 ^ f:=Nat.mul_le_mul_right _ (by omega)
    have e3:n * 10 ^ (f + 1)=10 * n * 10 ^ f:=by rw [Nat.pow_succ,Nat.mul_comm (10 ^ f) 10,<- Nat.mul_assoc,Nat.mul_comm n 10]
    omega
   ·rw [if_pos (by omega)]
    rw [if_neg (by simpa using q)] at em
    exact stop em
  ·rw [if_pos (by simpa using e)]
   exact stop (Mr (.inl (by simpa using e)))
theorem ajk {hi:Nat} {a:UInt8} {w:Bytes} (e:isDigit a=true):Dk hi 0 (a :: w)=if hi < a.toNat - 48 then none else Dk hi (a.toNat - 48) w:=by
 rw [Dk,if_neg (by simp [e]),Nat.mul_zero,Nat.zero_add]
theorem akJ {hi:Nat} {a:UInt8} {w:Bytes} (e:¬ isDigit a=true):Dk hi 0 (a :: w)=none:=by
 rw [Dk,if_pos (by simpa using e)]
theorem akK {hi:Nat}:∀ (w:Bytes) (n m:Nat),Dk hi n w=some m->0 < n->n <= m:=by
 intro w
 induction w with
 | nil=>intro n m h _; rw [Dk] at h; cases h; exact Nat.le_refl _
 | cons c r ih =>
  intro n m h h0
  rw [Dk] at h
  split at h
  ·cases h
  ·split at h
   ·cases h
   ·have:=ih _ _ h (by omega)
    omega
theorem Jw {lo hi:Nat} (hl:lo <= 1) (hh:hi < 10 ^ 19):Tok (pNum lo hi) (Bq lo hi):=fun d β k w c r hd hc h1 h2=>by
 have fail:∀ t:Bytes,GP lo hi none t.head? = none->Ai (pNum lo hi) (fun x=>Ai (Bm d) (fun _=>k x)) t=none:=fun t q=>by
  refine Ay ?_
  unfold pNum
  rw [Bv]
  dsimp only
  rw [q]
 cases w with
 | nil =>
  exact fail (c :: r) (by show GP lo hi none (some c)=none; exact Mr (.inl (abD hc)))
 | cons a w =>
  rw [List.cons_append,Bq]
  by_cases e:isDigit a=true
  ·have em:GP lo hi none (some a)=if leadsTo lo hi (10 * 0 + (a.toNat - 48))=true then some (10 * 0 + (a.toNat - 48)) else none:=abh e (by simp)
   rw [ajk e]
   have step:∀ m,GP lo hi none (some a)=some m->Ai (pNum lo hi) (fun x=>Ai (Bm d) (fun _=>k x)) (a :: (w ++ c :: r))=Ai (Bv lo hi 19 (some m)) (fun x=>Ai (Bm d) (fun _=>k x)) (w ++ c :: r):=fun m q=>by
    unfold Ai pNum
    rw [Bv]
    dsimp only [List.head?_cons]
    rw [q]
    rfl
   by_cases z:a.toNat - 48=0
   ·have ea:a=48:=by
     unfold isDigit at e
     simp at e
     exact UInt8.toNat_inj.mp (by show a.toNat=48; omega)
    rw [z,Nat.mul_zero,Nat.add_zero,acV] at em
    rw [z]
    cases w with
    | nil =>
     rw [if_neg (by simp),if_neg (by omega),Dk]
     dsimp only
     by_cases hz:lo=0
     ·rw [if_pos (by simp [hz])] at em
      rw [step 0 em,if_neg (by omega)]
      have e1:Bv lo hi 19 (some 0) ([] ++ c :: r)=some (0,c :: r):=by
       show Bv lo hi 19 (some 0) (c :: r)=some (0,c :: r)
       rw [Bv]
       dsimp only [List.head?_cons]
       rw [Mr (.inr rfl)]
       dsimp only
       rw [if_pos ⟨by omega,by omega⟩]
      rw [Bf e1]
      exact Mf k 0 d c r
     ·rw [if_neg (by simp [hz])] at em
      rw [if_pos (by omega)]
      exact fail _ em
    | cons b w =>
     rw [if_pos ⟨ea,by simp⟩]
     by_cases hz:lo=0
     ·rw [if_pos (by simp [hz])] at em
      rw [step 0 em]
      have e1:Bv lo hi 19 (some 0) ((b :: w) ++ c :: r)=some (0,(b :: w) ++ c :: r):=by
       rw [List.cons_append,Bv]
       dsimp only [List.head?_cons]
       rw [Mr (.inr rfl)]
       dsimp only
       rw [if_pos ⟨by omega,by omega⟩]
      rw [Bf e1]
      refine Ay (Ha ?_ _)
      rintro rfl
      rcases hd with rfl | rfl
      ·exact h1 (List.mem_cons_of_mem _ (List.mem_cons_self ..))
      ·exact h2 (List.mem_cons_of_mem _ (List.mem_cons_self ..))
     ·rw [if_neg (by simp [hz])] at em
      exact fail _ em
   ·have ea:¬ a=48:=by
     rintro rfl
     exact z rfl
    rw [if_neg (fun q=>ea q.1)]
    rw [Y7 hl (by omega),Nat.mul_zero,Nat.zero_add] at em
    by_cases q:a.toNat - 48 <= hi
    ·rw [if_pos (decide_eq_true q)] at em
     rw [if_neg (by omega),step _ em]
     rw [adG d k hd hl 19 (a.toNat - 48) w c r (by omega) q (by have:1 * 10 ^ 19 <= (a.toNat - 48) * 10 ^ 19:=Nat.mul_le_mul_right _ (by omega); omega) hc (fun z=>h1 (List.mem_cons_of_mem _ z)) (fun z=>h2 (List.mem_cons_of_mem _ z))]
     cases g:Dk hi (a.toNat - 48) w with
     | none=>rfl
     | some m =>
      have:=akK w _ m g (by omega)
      dsimp only
      rw [show (if m < lo then (none:Option Nat) else some m)=some m from if_neg (by omega)]
    ·rw [if_neg (by simpa using q)] at em
     rw [if_pos (by omega)]
     exact fail _ em
  ·rw [akJ e]
   rw [fail _ (Mr (.inl (by simpa using e)))]
   by_cases q:a=48/\w ≠ []
   ·rw [if_pos q]
   ·rw [if_neg q]
theorem aeL (names:List Bytes) (hn:∀ n ∈ names,n.length <= 8/\32 ∉ n/\10 ∉ n) (d:UInt8) {β:Type} (k:Nat->Ps β) (hd:d=32 \/ d=10):∀ (f:Nat) (p w:Bytes) (c:UInt8) (r:Bytes),p.length + f=8->(c=32 \/ c=10)->32 ∉ w->10 ∉ w ->
  Ai (BK names f p) (fun x=>Ai (Bm d) (fun _=>k x)) (w ++ c :: r)=match names.findIdx? (fun n=>n == p ++ w) with
   | some i=>if c=d then k i r else none
   | none=>none:=by
 have left:∀ (a:UInt8) (w t:Bytes),32 ∉ a :: w->10 ∉ a :: w->Bm d (a :: t)=none:=fun a w t h1 h2=>Ha (by
  rintro rfl
  rcases hd with rfl | rfl
  ·exact h1 (List.mem_cons_self ..)
  ·exact h2 (List.mem_cons_self ..)) _
 intro f
 induction f with
 | zero =>
  intro p w c r hp hc h1 h2
  cases w with
  | nil =>
   rw [List.append_nil]
   show Ai (BK names 0 p) _ (c :: r)=_
   cases e:names.findIdx? (fun n=>n == p) with
   | none=>exact Ay (by rw [BK,e])
   | some i =>
    have e1:BK names 0 p (c :: r)=some (i,c :: r):=by rw [BK,e]
    rw [Bf e1]
    exact Mf k i d c r
  | cons a w =>
   have e0:names.findIdx? (fun n=>n == p ++ a :: w)=none:=by
    rw [List.findIdx?_eq_none_iff]
    intro x hx
    have h8:=(hn x hx).1
    refine beq_eq_false_iff_ne.mpr ?_
    rintro rfl
    simp at h8
    omega
   rw [e0]
   dsimp only
   cases e:names.findIdx? (fun n=>n == p) with
   | none=>exact Ay (by rw [BK,e])
   | some i =>
    have e1:BK names 0 p (a :: w ++ c :: r)=some (i,a :: w ++ c :: r):=by rw [BK,e]
    rw [Bf e1]
    exact Ay (left a w _ h1 h2)
 | succ f ih =>
  intro p w c r hp hc h1 h2
  cases w with
  | nil =>
   rw [List.append_nil]
   show Ai (BK names (f + 1) p) _ (c :: r)=_
   have e0:¬ (names.any fun (n:Bytes)=>(p ++ [c]).isPrefixOf n)=true:=by
    rw [List.any_eq_true]
    rintro ⟨x,hx,hpx⟩
    have:=(List.isPrefixOf_iff_prefix.mp hpx).subset (List.mem_append_right _ (List.mem_singleton.mpr rfl):c ∈ p ++ [c])
    rcases hc with rfl | rfl
    ·exact (hn x hx).2.1 this
    ·exact (hn x hx).2.2 this
   cases e:names.findIdx? (fun n=>n == p) with
   | none=>exact Ay (by rw [BK]; dsimp only; rw [if_neg e0,e])
   | some i =>
    have e1:BK names (f + 1) p (c :: r)=some (i,c :: r):=by rw [BK]; dsimp only; rw [if_neg e0,e]
    rw [Bf e1]
    exact Mf k i d c r
  | cons a w =>
   rw [List.cons_append]
   by_cases e0:(names.any fun (n:Bytes)=>(p ++ [a]).isPrefixOf n)=true
   ·have e1:Ai (BK names (f + 1) p) (fun x=>Ai (Bm d) (fun _=>k x)) (a :: (w ++ c :: r))=Ai (BK names f (p ++ [a])) (fun x=>Ai (Bm d) (fun _=>k x)) (w ++ c :: r):=by
     unfold Ai
     rw [BK]
     dsimp only
     rw [if_pos e0]
    rw [e1,ih (p ++ [a]) w c r (by simp; omega) hc (fun z=>h1 (List.mem_cons_of_mem _ z)) (fun z=>h2 (List.mem_cons_of_mem _ z)),List.append_assoc]
    rfl
   ·have e2:names.findIdx? (fun n=>n == p ++ a :: w)=none:=by
     rw [List.findIdx?_eq_none_iff]
     intro x hx
     refine beq_eq_false_iff_ne.mpr ?_
     rintro rfl
     apply e0
     rw [List.any_eq_true]
     exact ⟨_,hx,List.isPrefixOf_iff_prefix.mpr ⟨w,by simp⟩⟩
    rw [e2]
    dsimp only
    cases e:names.findIdx? (fun n=>n == p) with
    | none=>exact Ay (by rw [BK]; dsimp only; rw [if_neg e0,e])
    | some i =>
     have e1:BK names (f + 1) p (a :: (w ++ c :: r))=some (i,a :: (w ++ c :: r)):=by rw [BK]; dsimp only; rw [if_neg e0,e]
     rw [Bf e1]
     exact Ay (left a w _ h1 h2)
def Gw (names:List Bytes) (w:Bytes):Option Nat:=names.findIdx? (fun n=>n == w)
theorem aeh (names:List Bytes) (hn:∀ n ∈ names,n.length <= 8/\32 ∉ n/\10 ∉ n):Tok (BK names 8 []) (Gw names):=fun d β k w c r hd hc h1 h2=>by
 rw [aeL names hn d k hd 8 [] w c r rfl hc h1 h2]
 unfold Gw
 simp only [List.nil_append]
 cases names.findIdx? (fun n=>n == w) <;> rfl
def Suf {α:Type} (f:Ps α):Prop:=∀ t x t',f t=some (x,t')->∀ c,c ∈ t'->c ∈ t
theorem Ur {α:Type} (x:α):Suf (DQ x):=fun t y t' h c hc=>by cases h; exact hc
theorem O9 {α β:Type} {f:Ps α} {g:α->Ps β} (h:Suf f) (hg:∀ x,Suf (g x)):Suf (Ai f g):=fun t y t' e c hc=>by
 unfold Ai at e
 cases q:f t with
 | none=>rw [q] at e; cases e
 | some p =>
  obtain ⟨x,t1⟩:=p
  rw [q] at e
  exact h _ _ _ q c (hg x _ _ _ e c hc)
theorem aaM (d:UInt8):Suf (Bm d):=fun t y t' e c hc=>by
 cases t with
 | nil=>cases e
 | cons a r =>
  rw [Bm] at e
  split at e
  ·cases e; exact List.mem_cons_of_mem _ hc
  ·cases e
theorem Mh:∀ l,Suf (Cu l)
 | []=>Ur ()
 | c :: r=>O9 (aaM c) fun _=>Mh r
theorem Vc (lo hi:Nat):∀ f v,Suf (Bv lo hi f v)
 | 0,_=>fun t y t' e=>by cases e
 | f + 1,v=>fun t y t' e c hc=>by
  rw [Bv] at e
  dsimp only at e
  split at e
  ·have:=Vc lo hi f _ _ _ _ e c hc
   exact List.mem_of_mem_drop this
  ·split at e
   ·split at e
    ·cases e; exact hc
    ·cases e
   ·cases e
theorem Ym (p:UInt8->Bool):∀ n,Suf (Ca p n)
 | 0=>Ur []
 | n + 1=>fun t y t' e c hc=>by
  cases t with
  | nil=>rw [Ca] at e; cases e; exact hc
  | cons a r =>
   rw [Ca] at e
   dsimp only at e
   split at e
   ·cases q:Ca p n r with
    | none=>rw [q] at e; cases e
    | some z =>
     rw [q] at e
     obtain ⟨x,t1⟩:=z
     cases e
     exact List.mem_cons_of_mem _ (Ym p n _ _ _ q c hc)
   ·cases e; exact hc
theorem aaL (n:Nat):Suf (Fv n):=fun t y t' e c hc=>by
 cases t with
 | nil=>rw [Fv] at e; cases e
 | cons a r =>
  rw [Fv] at e
  split at e
  ·cases q:Ca isNm n r with
   | none=>rw [q] at e; cases e
   | some z =>
    rw [q] at e
    obtain ⟨x,t1⟩:=z
    cases e
    exact List.mem_cons_of_mem _ (Ym _ n _ _ _ q c hc)
  ·cases e
theorem Yo (names:List Bytes):∀ f p,Suf (BK names f p)
 | 0,p=>fun t y t' e c hc=>by
  rw [BK] at e
  dsimp only at e
  split at e
  ·cases e; exact hc
  ·cases e
 | f + 1,p=>fun t y t' e c hc=>by
  cases t with
  | nil=>rw [BK] at e; cases e
  | cons a r =>
   rw [BK] at e
   dsimp only at e
   split at e
   ·exact List.mem_cons_of_mem _ (Yo names f _ _ _ _ e c hc)
   ·split at e
    ·cases e; exact hc
    ·cases e
theorem ael:Suf FW:=fun t y t' e c hc=>by
 cases t with
 | nil=>rw [FW] at e; cases e
 | cons a r =>
  rw [FW] at e
  split at e
  ·cases e; exact List.mem_cons_of_mem _ hc
  ·cases e
theorem Yn {α:Type} {f:Ps α} (h:Suf f):∀ n,Suf (Fj f n)
 | 0=>Ur []
 | n + 1=>O9 h fun x=>O9 (Yn h n) fun l=>Ur _
theorem CN (lo hi:Nat):Suf (Cw lo hi):=O9 (aaM 32) fun _=>Vc _ _ _ _
def Qy {α:Type} (f:Ps α):Prop:=∀ t,10 ∉ t->f t=none
theorem Ju:Qy (Bm 10):=fun t h=>by
 cases t with
 | nil=>rfl
 | cons a r =>
  rw [Bm,if_neg]
  rintro rfl
  exact h (List.mem_cons_self ..)
theorem Jt {α β:Type} {f:Ps α} {g:α->Ps β} (h:Qy f):Qy (Ai f g):=fun t ht=>Ay (h t ht)
theorem Bw {α β:Type} {f:Ps α} {g:α->Ps β} (hs:Suf f) (h:∀ x,Qy (g x)):Qy (Ai f g):=fun t ht=>by
 cases q:f t with
 | none=>exact Ay q
 | some p =>
  obtain ⟨x,t1⟩:=p
  rw [Bf q]
  exact h x _ fun z=>ht (hs _ _ _ q _ z)
theorem ad7 (w:Nat):Qy (acD w):=Bw (Yn ael w) fun l=>Jt Ju
theorem ab4:Qy K6:=Bw (Mh _) fun _=>Bw (aaL _) fun _=>Bw (CN _ _) fun _=>Bw (CN _ _) fun _=>Bw (CN _ _) fun _ =>
 Bw (CN _ _) fun _=>Jt Ju
theorem ab5 (c:Catalogue):Qy (J7 c):=Bw (Mh _) fun _=>Bw (Yo _ _ _) fun _=>Bw (CN _ _) fun _=>Bw (CN _ _) fun _=>Bw (CN _ _) fun _ =>
 Bw (CN _ _) fun _=>Bw (CN _ _) fun _=>Jt Ju
theorem aaG (c:Catalogue):Qy (Em c):=Bw (Mh _) fun _=>Bw (aaL _) fun _=>Jt Ju
structure Head where
 name:Bytes
 wide:Nat
 deep:Nat
 high:Nat
 weight:Nat
def Gq (ws:List Bytes):Option Head:=match ws with
 | [a,n,w,d,h,g]=>if a=ascii "part" then (if Gf 7 n=true then (match Bq 1 16 w with
   | none=>none
   | some w=>match Bq 1 16 d with
    | none=>none
    | some d=>match Bq 1 18 h with
     | none=>none
     | some h=>match Bq 1 9999 g with
      | none=>none
      | some g=>some ⟨n,w,d,h,g⟩) else none) else none
 | _=>none
theorem Fo {ws:List Bytes} {hd:Head} (e:Gq ws=some hd):∃ a n w d h g,ws=[a,n,w,d,h,g]/\a=ascii "part" /\ Gf 7 n=true/\hd.name=n/\Bq 1 16 w=some hd.wide/\Bq 1 16 d=some hd.deep/\Bq 1 18 h=some hd.high/\Bq 1 9999 g=some hd.weight:=by
 unfold Gq at e
 split at e
 ·rename_i a n w d h g
  refine ⟨a,n,w,d,h,g,rfl,?_⟩
  split at e
  ·split at e
   ·cases ew:Bq 1 16 w with
    | none=>rw [ew] at e; cases e
    | some w' =>
    cases ed:Bq 1 16 d with
    | none=>rw [ew,ed] at e; cases e
    | some d' =>
    cases eh:Bq 1 18 h with
    | none=>rw [ew,ed,eh] at e; cases e
    | some h' =>
    cases eg:Bq 1 9999 g with
    | none=>rw [ew,ed,eh,eg] at e; cases e
    | some g' =>
    rw [ew,ed,eh,eg] at e
    cases e
    exact ⟨by assumption,by assumption,rfl,rfl,rfl,rfl,rfl⟩
   ·cases e
  ·cases e
 ·cases e
theorem ags {n w d h g:Bytes} {w' d' h' g':Nat} (en:Gf 7 n=true) (ew:Bq 1 16 w=some w') (ed:Bq 1 16 d=some d') (eh:Bq 1 18 h=some h') (eg:Bq 1 9999 g=some g') :
  Gq [ascii "part",n,w,d,h,g] = some ⟨n,w',d',h',g'⟩:=by
 unfold Gq
 dsimp only
 rw [if_pos rfl,if_pos en,ew,ed,eh,eg]
def J9 (row:Bytes):Option Head:=Gq (split 32 row)
theorem Rc {row rest:Bytes}:row ++ 10 :: rest=JQ rest (split 32 row):=by
 unfold JQ
 rw [JL]
theorem N7 {row w:Bytes} (h:10 ∉ row) (hw:w ∈ split 32 row):32 ∉ w/\10 ∉ w:=⟨(split_free hw).1,fun z=>h ((split_free hw).2 _ z)⟩
theorem Zi:∀ (l m:Bytes),Cu (l ++ m)=Ai (Cu l) fun _=>Cu m
 | [],m=>rfl
 | c :: l,m=>by
  rw [List.cons_append,Cu,Cu,DX]
  congr 1
  funext _
  exact Zi l m
theorem Lx (l:Bytes) {β:Type} (k:Unit->Ps β):Ai (Cu (l ++ [32])) k=Ai (Cu l) fun _=>Ai (Bm 32) fun _=>k ():=by
 rw [Zi,DX]
 congr 1
 funext _
 rw [Cu,Cu,DX]
 rfl
theorem NK {lo hi:Nat} {β:Type} (k:Nat->Ps β):Ai (Cw lo hi) k=Ai (Bm 32) fun _=>Ai (pNum lo hi) k:=by
 unfold Cw
 rw [DX]
def Yy (h:Head):Ps Part:=Ai (Fj (acD h.wide) (h.deep * h.high)) fun l=>DQ ⟨h.name,h.wide,h.deep,h.high,h.weight,l.flatten⟩
theorem ahl:K6=Ai (Cu (ascii "part")) fun _=>Ai (Bm 32) fun _=>Ai (Fv 7) fun n=>Ai (Bm 32) fun _=>Ai (pNum 1 16) fun w=>Ai (Bm 32) fun _=>Ai (pNum 1 16) fun d=>Ai (Bm 32) fun _ =>
  Ai (pNum 1 18) fun h=>Ai (Bm 32) fun _=>Ai (pNum 1 9999) fun g=>Ai (Bm 10) fun _=>Yy ⟨n,w,d,h,g⟩:=by
 unfold K6
 have e:ascii "part " = ascii "part" ++ [32]:=by decide
 rw [e,Lx]
 simp only [NK]
 rfl
def Zm {α β:Type} (x:Option α) (f:α->Option β):Option β:=match x with
 | some a=>f a
 | none=>none
theorem acZ {ws:List Bytes} {rest:Bytes} (hw:∀ w ∈ ws,32 ∉ w/\10 ∉ w) (hne:ws ≠ []):K6 (JQ rest ws)=Zm (Gq ws) fun hd=>Yy hd rest:=by
 rw [ahl]
 have tb:Tok (Cu (ascii "part")) (eqB (ascii "part")):=Mg _ (by decide) (by decide)
 have tn:Tok (Fv 7) (nmB (Gf 7)):=aaK 7
 have t1:Tok (pNum 1 16) (Bq 1 16):=Jw (by decide) (by decide)
 have t2:Tok (pNum 1 18) (Bq 1 18):=Jw (by decide) (by decide)
 have t3:Tok (pNum 1 9999) (Bq 1 9999):=Jw (by decide) (by decide)
 have no:∀ vs:List Bytes,(∀ hd,Gq vs=some hd->False)->(none:Option (Part × Bytes))=Zm (Gq vs) fun hd=>Yy hd rest:=fun vs h=>by
  cases e:Gq vs with
  | none=>rfl
  | some hd=>exact (h hd e).elim
 cases ws with
 | nil=>exact absurd rfl hne
 | cons a ws =>
 rw [JS tb _ (hw a (by simp)).1 (hw a (by simp)).2]
 unfold eqB
 by_cases ea:a=ascii "part"
 case neg =>
  rw [if_neg ea]
  refine no _ fun hd e=>?_
  obtain ⟨a',n',w',d',h',g',q,qa,qn,_,qw,qd,qh,qg⟩:=Fo e
  simp_all
 rw [if_pos ea]
 dsimp only
 cases ws with
 | nil=>rfl
 | cons n ws =>
 rw [if_neg (by simp),JS tn _ (hw n (by simp)).1 (hw n (by simp)).2]
 unfold nmB
 by_cases en:Gf 7 n=true
 case neg =>
  rw [if_neg en]
  refine no _ fun hd e=>?_
  obtain ⟨a',n',w',d',h',g',q,qa,qn,_,qw,qd,qh,qg⟩:=Fo e
  simp_all
 rw [if_pos en]
 dsimp only
 cases ws with
 | nil=>rfl
 | cons w ws =>
 rw [if_neg (by simp),JS t1 _ (hw w (by simp)).1 (hw w (by simp)).2]
 cases ew:Bq 1 16 w with
 | none =>
  refine no _ fun hd e=>?_
  obtain ⟨a',n',w',d',h',g',q,qa,qn,_,qw,qd,qh,qg⟩:=Fo e
  simp_all
 | some w' =>
 dsimp only
 cases ws with
 | nil=>rfl
 | cons d ws =>
 rw [if_neg (by simp),JS t1 _ (hw d (by simp)).1 (hw d (by simp)).2]
 cases ed:Bq 1 16 d with
 | none =>
  refine no _ fun hd e=>?_
  obtain ⟨a',n',w',d',h',g',q,qa,qn,_,qw,qd,qh,qg⟩:=Fo e
  simp_all
 | some d' =>
 dsimp only
 cases ws with
 | nil=>rfl
 | cons h ws =>
 rw [if_neg (by simp),JS t2 _ (hw h (by simp)).1 (hw h (by simp)).2]
 cases eh:Bq 1 18 h with
 | none =>
  refine no _ fun hd e=>?_
  obtain ⟨a',n',w',d',h',g',q,qa,qn,_,qw,qd,qh,qg⟩:=Fo e
  simp_all
 | some h' =>
 dsimp only
 cases ws with
 | nil=>rfl
 | cons g ws =>
 rw [if_neg (by simp),afy t3 _ (hw g (by simp)).1 (hw g (by simp)).2]
 cases eg:Bq 1 9999 g with
 | none =>
  refine no _ fun hd e=>?_
  obtain ⟨a',n',w',d',h',g',q,qa,qn,_,qw,qd,qh,qg⟩:=Fo e
  simp_all
 | some g' =>
 dsimp only
 cases ws with
 | nil =>
  subst ea
  rw [if_pos rfl,ags en ew ed eh eg]
  rfl
 | cons z ws=>rw [if_neg (by simp)]; rfl
theorem agq {row rest:Bytes} (h:10 ∉ row):K6 (row ++ 10 :: rest)=Zm (J9 row) fun hd=>Yy hd rest:=by
 rw [Rc]
 exact acZ (fun w q=>N7 h q) (Ei 32 row)
def Gn (w:Nat) (row:Bytes):Option (List Place):=match w,row with
 | 0,[]=>some []
 | 0,_ :: _=>none
 | _ + 1,[]=>none
 | w + 1,c :: r=>match placeOf c with
  | none=>none
  | some p=>match Gn w r with
   | none=>none
   | some l=>some (p :: l)
theorem afS:placeOf 10=none:=by decide
theorem adC {β:Type} (k:List Place->Ps β):∀ (w:Nat) (row rest:Bytes),10 ∉ row->Ai (Fj FW w) (fun l=>Ai (Bm 10) fun _=>k l) (row ++ 10 :: rest)=Zm (Gn w row) fun l=>k l rest
 | 0,[],rest,h=>by
  rw [Fj,YK,List.nil_append]
  rw [Bf (abQ 10 rest)]
  rfl
 | 0,a :: row,rest,h=>by
  rw [Fj,YK,List.cons_append]
  rw [Ay (Ha (fun e=>h (by rw [e]; exact List.mem_cons_self ..)) _)]
  rfl
 | w + 1,[],rest,h=>by
  rw [Fj,DX]
  show Ai FW _ (10 :: rest)=_
  rw [Ay (by rw [FW,afS])]
  rfl
 | w + 1,a :: row,rest,h=>by
  rw [Fj,DX]
  show Ai FW _ (a :: (row ++ 10 :: rest))=_
  rw [Gn]
  cases e:placeOf a with
  | none =>
   rw [Ay (by rw [FW,e])]
   rfl
  | some p =>
   have e1:FW (a :: (row ++ 10 :: rest))=some (p,row ++ 10 :: rest):=by rw [FW,e]
   rw [Bf e1,DX]
   have ih:=adC (fun l=>k (p :: l)) w row rest (fun z=>h (List.mem_cons_of_mem _ z))
   show Ai (Fj FW w) (fun l=>Ai (Bm 10) fun _=>k (p :: l)) (row ++ 10 :: rest)=_
   rw [ih]
   cases Gn w row <;> rfl
theorem ahb (w:Nat) {row rest:Bytes} (h:10 ∉ row):acD w (row ++ 10 :: rest)=(Gn w row).map fun l=>(l,rest):=by
 unfold acD
 rw [adC (fun l=>DQ l) w row rest h]
 cases Gn w row <;> rfl
def Cy (w:Nat):Nat->List Bytes->Option (List (List Place) × List Bytes)
 | 0,rs=>some ([],rs)
 | _ + 1,[]=>none
 | n + 1,r :: rs=>match Gn w r with
  | none=>none
  | some l=>match Cy w n rs with
   | none=>none
   | some (ls,rs')=>some (l :: ls,rs')
def Rows (rs:List Bytes) (tl:Bytes):Prop:=(∀ r ∈ rs,10 ∉ r)/\10 ∉ tl
theorem aeu {rs:List Bytes} {tl:Bytes} (h:Rows rs tl):∀ n,Rows (rs.drop n) tl:=fun n=>⟨fun r q=>h.1 r (List.mem_of_mem_drop q),h.2⟩
theorem Wl (w:Nat):∀ (n:Nat) (rs:List Bytes) (tl:Bytes),Rows rs tl->Fj (acD w) n (flat rs ++ tl)=(Cy w n rs).map fun x=>(x.1,flat x.2 ++ tl)
 | 0,rs,tl,h=>rfl
 | n + 1,[],tl,h=>by
  rw [Fj,Cy]
  exact Ay (ad7 w _ h.2)
 | n + 1,r :: rs,tl,h=>by
  rw [Fj,Cy,Ed]
  have e1:=ahb w (row:=r) (rest:=flat rs ++ tl) (h.1 r (List.mem_cons_self ..))
  cases e:Gn w r with
  | none =>
   rw [e] at e1
   rw [Ay e1]
   rfl
  | some l =>
   rw [e] at e1
   rw [Bf (x:=l) (t':=flat rs ++ tl) e1]
   have ih:=Wl w n rs tl ⟨fun r q=>h.1 r (List.mem_cons_of_mem _ q),h.2⟩
   dsimp only
   cases e2:Cy w n rs with
   | none =>
    rw [e2] at ih
    rw [Ay ih]
    rfl
   | some x =>
    rw [e2] at ih
    rw [Bf (x:=x.1) (t':=flat x.2 ++ tl) ih]
    rfl
def Hm:List Bytes->Option (Part × List Bytes)
 | []=>none
 | r :: rs=>match J9 r with
  | none=>none
  | some h=>match Cy h.wide (h.deep * h.high) rs with
   | none=>none
   | some (ls,rs')=>some (⟨h.name,h.wide,h.deep,h.high,h.weight,ls.flatten⟩,rs')
theorem VP {rs:List Bytes} {tl:Bytes} (h:Rows rs tl):K6 (flat rs ++ tl)=(Hm rs).map fun x=>(x.1,flat x.2 ++ tl):=by
 cases rs with
 | nil=>exact ab4 _ h.2
 | cons r rs =>
  rw [Ed,agq (h.1 r (List.mem_cons_self ..)),Hm]
  cases e:J9 r with
  | none=>rfl
  | some hd =>
   show Yy hd (flat rs ++ tl)=_
   unfold Yy
   have e1:=Wl hd.wide (hd.deep * hd.high) rs tl ⟨fun r q=>h.1 r (List.mem_cons_of_mem _ q),h.2⟩
   dsimp only
   cases e2:Cy hd.wide (hd.deep * hd.high) rs with
   | none =>
    rw [e2] at e1
    rw [Ay e1]
    rfl
   | some x =>
    rw [e2] at e1
    rw [Bf (x:=x.1) (t':=flat x.2 ++ tl) e1]
    rfl
theorem S6 {w:Nat}:∀ {n:Nat} {rs:List Bytes} {ls:List (List Place)} {rs':List Bytes},Cy w n rs=some (ls,rs')->rs'=rs.drop n/\ls.length=n/\n <= rs.length
 | 0,rs,ls,rs',h=>by
  rw [Cy] at h
  cases h
  exact ⟨rfl,rfl,Nat.zero_le _⟩
 | n + 1,[],ls,rs',h=>by
  rw [Cy] at h
  cases h
 | n + 1,r :: rs,ls,rs',h=>by
  rw [Cy] at h
  cases e:Gn w r with
  | none=>rw [e] at h; cases h
  | some l =>
   rw [e] at h
   dsimp only at h
   cases e2:Cy w n rs with
   | none=>rw [e2] at h; cases h
   | some x =>
    rw [e2] at h
    obtain ⟨ls',alf⟩:=x
    cases h
    have:=S6 e2
    exact ⟨this.1,by simp [this.2.1],by simp; omega⟩
theorem YG {rs:List Bytes} {p:Part} {rs':List Bytes} (h:Hm rs=some (p,rs')):rs'=rs.drop (1 + p.deep * p.high)/\1 + p.deep * p.high <= rs.length:=by
 cases rs with
 | nil=>cases h
 | cons r rs =>
  rw [Hm] at h
  cases e:J9 r with
  | none=>rw [e] at h; cases h
  | some hd =>
   rw [e] at h
   dsimp only at h
   cases e2:Cy hd.wide (hd.deep * hd.high) rs with
   | none=>rw [e2] at h; cases h
   | some x =>
    rw [e2] at h
    obtain ⟨ls,alf⟩:=x
    cases h
    have:=S6 e2
    exact ⟨by rw [Nat.add_comm,List.drop_succ_cons]; exact this.1,by simp; omega⟩
def Dh:Nat->List Bytes->Option (List Part)
 | _,[]=>some []
 | 0,_ :: _=>none
 | n + 1,r :: rs=>match Hm (r :: rs) with
  | none=>none
  | some (p,rs')=>match Dh n rs' with
   | none=>none
   | some l=>some (p :: l)
theorem Ml {rs rs':List Bytes} {tl:Bytes} {p:Part} (h:Rows rs tl) (e:Hm rs=some (p,rs')):Rows rs' tl:=by
 rw [(YG e).1]
 exact aeu h _
theorem VN {tl:Bytes} (ht:tl ≠ []):∀ (n:Nat) (rs:List Bytes),Rows rs tl->Dc K6 n (flat rs ++ tl)=none
 | 0,rs,h=>by
  rw [Dc]
  dsimp only
  rw [if_pos]
  cases rs with
  | nil=>cases tl with
   | nil=>exact absurd rfl ht
   | cons a b=>rfl
  | cons r rs=>rw [Ed]; cases r <;> rfl
 | n + 1,rs,h=>by
  rw [Dc]
  dsimp only
  rw [if_pos]
  ·have e1:=VP h
   cases e:Hm rs with
   | none =>
    rw [e] at e1
    exact Ay e1
   | some x =>
    rw [e] at e1
    rw [Bf (x:=x.1) (t':=flat x.2 ++ tl) e1]
    exact Ay (VN ht n x.2 (Ml h (p:=x.1) e))
  ·cases rs with
   | nil=>cases tl with
    | nil=>exact absurd rfl ht
    | cons a b=>rfl
   | cons r rs=>rw [Ed]; cases r <;> rfl
theorem Mw (r:Bytes) (rest:Bytes):(r ++ 10 :: rest).head?.isSome=true:=by cases r <;> rfl
theorem YF:∀ (n:Nat) (rs:List Bytes),Rows rs []->Dc K6 n (flat rs)=(Dh n rs).map fun l=>(l,[])
 | 0,[],h=>rfl
 | n + 1,[],h=>rfl
 | 0,r :: rs,h=>by
  rw [Dc,Dh]
  dsimp only
  rw [<- List.append_nil (flat (r :: rs)),Ed,if_pos (Mw _ _)]
  rfl
 | n + 1,r :: rs,h=>by
  rw [Dc,Dh]
  dsimp only
  have e1:=VP h
  rw [List.append_nil] at e1
  rw [if_pos (by rw [<- List.append_nil (flat (r :: rs)),Ed]; exact Mw _ _)]
  cases e:Hm (r :: rs) with
  | none =>
   rw [e] at e1
   rw [Ay e1]
   rfl
  | some x =>
   rw [e] at e1
   obtain ⟨p,rs'⟩:=x
   rw [Bf (x:=p) (t':=flat rs' ++ []) e1,List.append_nil]
   have ih:=YF n rs' (Ml h e)
   dsimp only
   cases e2:Dh n rs' with
   | none =>
    rw [e2] at ih
    rw [Ay ih]
    rfl
   | some l =>
    rw [e2] at ih
    rw [Bf (x:=l) (t':=[]) ih]
    rfl
def afb (rs:List Bytes):Option (List Part):=match rs with
 | []=>none
 | r :: rs=>Dh 64 (r :: rs)
theorem ahT {rs:List Bytes} {tl:Bytes} (h:Rows rs tl):readM PX (flat rs ++ tl)=if tl=[] then afb rs else none:=by
 unfold readM PX
 have e1:=VP h
 by_cases ht:tl=[]
 ·subst ht
  rw [if_pos rfl]
  cases rs with
  | nil=>rfl
  | cons r rs =>
   rw [afb,Dh]
   cases e:Hm (r :: rs) with
   | none =>
    rw [e] at e1
    rw [Ay e1]
    rfl
   | some x =>
    rw [e] at e1
    obtain ⟨p,rs'⟩:=x
    rw [Bf (x:=p) (t':=flat rs' ++ []) e1,List.append_nil]
    have ih:=YF 63 rs' (Ml h e)
    dsimp only
    cases e2:Dh 63 rs' with
    | none =>
     rw [e2] at ih
     rw [Ay ih]
     rfl
    | some l =>
     rw [e2] at ih
     rw [Bf (x:=l) (t':=[]) ih]
     rfl
 ·rw [if_neg ht]
  cases e:Hm rs with
  | none =>
   rw [e] at e1
   rw [Ay e1]
   rfl
  | some x =>
   rw [e] at e1
   rw [Bf (x:=x.1) (t':=flat x.2 ++ tl) e1,Ay (VN ht 63 x.2 (Ml h (p:=x.1) e))]
   rfl
def Hn (names:List Bytes) (ws:List Bytes):Option Line:=match ws with
 | [a,p,k,x,y,z,r]=>if a=ascii "put" then (match Gw names p with
  | none=>none
  | some p=>match Bq 0 255 k with
   | none=>none
   | some k=>match Bq 0 63 x with
    | none=>none
    | some x=>match Bq 0 63 y with
     | none=>none
     | some y=>match Bq 0 95 z with
      | none=>none
      | some z=>match Bq 0 3 r with
       | none=>none
       | some r=>some ⟨p,k,x,y,z,r⟩) else none
 | _=>none
theorem Fl {names ws:List Bytes} {l:Line} (e:Hn names ws=some l):∃ a p k x y z r,ws=[a,p,k,x,y,z,r]/\a=ascii "put" /\ Gw names p=some l.part/\Bq 0 255 k=some l.colour/\Bq 0 63 x=some l.x/\Bq 0 63 y=some l.y/\Bq 0 95 z=some l.z/\Bq 0 3 r=some l.r:=by
 unfold Hn at e
 split at e
 ·rename_i a p k x y z r
  refine ⟨a,p,k,x,y,z,r,rfl,?_⟩
  split at e
  ·cases ep:Gw names p with
   | none=>rw [ep] at e; cases e
   | some p' =>
   cases ek:Bq 0 255 k with
   | none=>rw [ep,ek] at e; cases e
   | some k' =>
   cases ex:Bq 0 63 x with
   | none=>rw [ep,ek,ex] at e; cases e
   | some x' =>
   cases ey:Bq 0 63 y with
   | none=>rw [ep,ek,ex,ey] at e; cases e
   | some y' =>
   cases ez:Bq 0 95 z with
   | none=>rw [ep,ek,ex,ey,ez] at e; cases e
   | some z' =>
   cases er:Bq 0 3 r with
   | none=>rw [ep,ek,ex,ey,ez,er] at e; cases e
   | some r' =>
   rw [ep,ek,ex,ey,ez,er] at e
   cases e
   exact ⟨by assumption,rfl,rfl,rfl,rfl,rfl,rfl⟩
  ·cases e
 ·cases e
theorem agc {names:List Bytes} {p k x y z r:Bytes} {p' k' x' y' z' r':Nat} (ep:Gw names p=some p') (ek:Bq 0 255 k=some k') (ex:Bq 0 63 x=some x') (ey:Bq 0 63 y=some y') (ez:Bq 0 95 z=some z') (er:Bq 0 3 r=some r') :
  Hn names [ascii "put",p,k,x,y,z,r] = some ⟨p',k',x',y',z',r'⟩:=by
 unfold Hn
 dsimp only
 rw [if_pos rfl,ep,ek,ex,ey,ez,er]
def namesOf (c:Catalogue):List Bytes:=c.map fun (p:Part)=>p.name
def QB (names:List Bytes):Prop:=∀ n ∈ names,n.length <= 8/\32 ∉ n/\10 ∉ n
theorem ahx (c:Catalogue):J7 c=Ai (Cu (ascii "put")) fun _=>Ai (Bm 32) fun _=>Ai (BK (namesOf c) 8 []) fun p=>Ai (Bm 32) fun _=>Ai (pNum 0 255) fun k=>Ai (Bm 32) fun _=>Ai (pNum 0 63) fun x=>Ai (Bm 32) fun _ =>
  Ai (pNum 0 63) fun y=>Ai (Bm 32) fun _=>Ai (pNum 0 95) fun z=>Ai (Bm 32) fun _=>Ai (pNum 0 3) fun r=>Ai (Bm 10) fun _=>DQ (⟨p,k,x,y,z,r⟩:Line):=by
 unfold J7
 have e:ascii "put " = ascii "put" ++ [32]:=by decide
 rw [e,Lx]
 simp only [NK]
 rfl
theorem acU {c:Catalogue} (hc:QB (namesOf c)) {ws:List Bytes} {rest:Bytes} (hw:∀ w ∈ ws,32 ∉ w/\10 ∉ w) (hne:ws ≠ []):J7 c (JQ rest ws)=(Hn (namesOf c) ws).map fun l=>(l,rest):=by
 rw [ahx]
 have tb:Tok (Cu (ascii "put")) (eqB (ascii "put")):=Mg _ (by decide) (by decide)
 have tn:Tok (BK (namesOf c) 8 []) (Gw (namesOf c)):=aeh _ hc
 have t1:Tok (pNum 0 255) (Bq 0 255):=Jw (by decide) (by decide)
 have t2:Tok (pNum 0 63) (Bq 0 63):=Jw (by decide) (by decide)
 have t3:Tok (pNum 0 95) (Bq 0 95):=Jw (by decide) (by decide)
 have t4:Tok (pNum 0 3) (Bq 0 3):=Jw (by decide) (by decide)
 have no:∀ vs:List Bytes,(∀ hd,Hn (namesOf c) vs=some hd->False)->(none:Option (Line × Bytes))=(Hn (namesOf c) vs).map fun l=>(l,rest):=fun vs h=>by
  cases e:Hn (namesOf c) vs with
  | none=>rfl
  | some hd=>exact (h hd e).elim
 cases ws with
 | nil=>exact absurd rfl hne
 | cons a ws =>
 rw [JS tb _ (hw a (by simp)).1 (hw a (by simp)).2]
 unfold eqB
 by_cases ea:a=ascii "put"
 case neg =>
  rw [if_neg ea]
  refine no _ fun hd e=>?_
  obtain ⟨a',p',k',x',y',z',r',q,qa,qp,qk,qx,qy,qz,qr⟩:=Fl e
  simp_all
 rw [if_pos ea]
 dsimp only
 cases ws with
 | nil=>rfl
 | cons p ws =>
 rw [if_neg (by simp),JS tn _ (hw p (by simp)).1 (hw p (by simp)).2]
 cases ep:Gw (namesOf c) p with
 | none =>
  refine no _ fun hd e=>?_
  obtain ⟨a',p',k',x',y',z',r',q,qa,qp,qk,qx,qy,qz,qr⟩:=Fl e
  simp_all
 | some p' =>
 dsimp only
 cases ws with
 | nil=>rfl
 | cons k ws =>
 rw [if_neg (by simp),JS t1 _ (hw k (by simp)).1 (hw k (by simp)).2]
 cases ek:Bq 0 255 k with
 | none =>
  refine no _ fun hd e=>?_
  obtain ⟨a',p',k',x',y',z',r',q,qa,qp,qk,qx,qy,qz,qr⟩:=Fl e
  simp_all
 | some k' =>
 dsimp only
 cases ws with
 | nil=>rfl
 | cons x ws =>
 rw [if_neg (by simp),JS t2 _ (hw x (by simp)).1 (hw x (by simp)).2]
 cases ex:Bq 0 63 x with
 | none =>
  refine no _ fun hd e=>?_
  obtain ⟨a',p',k',x',y',z',r',q,qa,qp,qk,qx,qy,qz,qr⟩:=Fl e
  simp_all
 | some x' =>
 dsimp only
 cases ws with
 | nil=>rfl
 | cons y ws =>
 rw [if_neg (by simp),JS t2 _ (hw y (by simp)).1 (hw y (by simp)).2]
 cases ey:Bq 0 63 y with
 | none =>
  refine no _ fun hd e=>?_
  obtain ⟨a',p',k',x',y',z',r',q,qa,qp,qk,qx,qy,qz,qr⟩:=Fl e
  simp_all
 | some y' =>
 dsimp only
 cases ws with
 | nil=>rfl
 | cons z ws =>
 rw [if_neg (by simp),JS t3 _ (hw z (by simp)).1 (hw z (by simp)).2]
 cases ez:Bq 0 95 z with
 | none =>
  refine no _ fun hd e=>?_
  obtain ⟨a',p',k',x',y',z',r',q,qa,qp,qk,qx,qy,qz,qr⟩:=Fl e
  simp_all
 | some z' =>
 dsimp only
 cases ws with
 | nil=>rfl
 | cons r ws =>
 rw [if_neg (by simp),afy t4 _ (hw r (by simp)).1 (hw r (by simp)).2]
 cases er:Bq 0 3 r with
 | none =>
  refine no _ fun hd e=>?_
  obtain ⟨a',p',k',x',y',z',r',q,qa,qp,qk,qx,qy,qz,qr⟩:=Fl e
  simp_all
 | some r' =>
 dsimp only
 cases ws with
 | nil =>
  subst ea
  rw [if_pos rfl,agc ep ek ex ey ez er]
  rfl
 | cons z ws=>rw [if_neg (by simp)]; rfl
def Lf (c:Catalogue) (row:Bytes):Option Line:=Hn (namesOf c) (split 32 row)
theorem aga {c:Catalogue} (hc:QB (namesOf c)) {row rest:Bytes} (h:10 ∉ row):J7 c (row ++ 10 :: rest)=(Lf c row).map fun l=>(l,rest):=by
 rw [Rc]
 exact acU hc (fun w q=>N7 h q) (Ei 32 row)
def GX (c:Catalogue):Nat->List Bytes->Option (List Line)
 | _,[]=>some []
 | 0,_ :: _=>none
 | n + 1,r :: rs=>match Lf c r with
  | none=>none
  | some p=>match GX c n rs with
   | none=>none
   | some l=>some (p :: l)
theorem Y4 {c:Catalogue} (hc:QB (namesOf c)) {tl:Bytes}:∀ (n:Nat) (rs:List Bytes),Rows rs tl->Dc (J7 c) n (flat rs ++ tl)=if tl=[] then (GX c n rs).map (fun l=>(l,[])) else none
 | 0,[],h=>by
  rw [Dc]
  cases tl with
  | nil=>rfl
  | cons a b=>rfl
 | n + 1,[],h=>by
  rw [Dc]
  cases tl with
  | nil=>rfl
  | cons a b =>
   show (if true=true then _ else _)=_
   rw [if_pos rfl,if_neg (by simp)]
   exact Ay (ab5 c _ h.2)
 | 0,r :: rs,h=>by
  rw [Dc,GX,Ed]
  dsimp only
  rw [if_pos (Mw _ _)]
  by_cases e:tl=[]
  ·rw [if_pos e]; rfl
  ·rw [if_neg e]
 | n + 1,r :: rs,h=>by
  rw [Dc,GX,Ed]
  dsimp only
  rw [if_pos (Mw _ _)]
  have e1:=aga hc (row:=r) (rest:=flat rs ++ tl) (h.1 r (List.mem_cons_self ..))
  have ih:=Y4 hc (tl:=tl) n rs ⟨fun r q=>h.1 r (List.mem_cons_of_mem _ q),h.2⟩
  cases e:Lf c r with
  | none =>
   rw [e] at e1
   rw [Ay e1]
   by_cases e:tl=[]
   ·rw [if_pos e]; rfl
   ·rw [if_neg e]
  | some l =>
   rw [e] at e1
   rw [Bf (x:=l) (t':=flat rs ++ tl) e1]
   dsimp only
   by_cases e:tl=[]
   ·rw [if_pos e] at ih
    rw [if_pos e]
    cases e2:GX c n rs with
    | none =>
     rw [e2] at ih
     rw [Ay ih]
     rfl
    | some ls =>
     rw [e2] at ih
     rw [Bf (x:=ls) (t':=[]) ih]
     rfl
   ·rw [if_neg e] at ih
    rw [if_neg e]
    exact Ay ih
def LC (ws:List Bytes):Option Bytes:=match ws with
 | [a,n]=>if a=ascii "build" then (if Gf 15 n=true then some n else none) else none
 | _=>none
def Im (row:Bytes):Option Bytes:=LC (split 32 row)
def WT (c:Catalogue) (rs:List Bytes):Option Build:=match rs with
 | []=>none
 | r :: rs=>match Im r with
  | none=>none
  | some n=>match GX c 256 rs with
   | none=>none
   | some l=>some ⟨n,l⟩
theorem abR {β:Type} (k:Bytes->Ps β) {ws:List Bytes} {rest:Bytes} (hw:∀ w ∈ ws,32 ∉ w/\10 ∉ w) (hne:ws ≠ []) :
  (Ai (Cu (ascii "build")) fun _=>Ai (Bm 32) fun _=>Ai (Fv 15) fun n=>Ai (Bm 10) fun _=>k n) (JQ rest ws)=Zm (LC ws) fun n=>k n rest:=by
 have tb:Tok (Cu (ascii "build")) (eqB (ascii "build")):=Mg _ (by decide) (by decide)
 have tn:Tok (Fv 15) (nmB (Gf 15)):=aaK 15
 cases ws with
 | nil=>exact absurd rfl hne
 | cons a ws =>
 rw [JS tb _ (hw a (by simp)).1 (hw a (by simp)).2]
 unfold eqB LC
 by_cases ea:a=ascii "build"
 case neg =>
  rw [if_neg ea]
  match ws with
  | []=>rfl
  | [n]=>dsimp only; rw [if_neg ea]; rfl
  | _ :: _ :: _=>rfl
 rw [if_pos ea]
 dsimp only
 match ws,hw with
 | [],_=>rfl
 | n :: ws,hw =>
 rw [if_neg (by simp),afy tn _ (hw n (by simp)).1 (hw n (by simp)).2]
 unfold nmB
 by_cases en:Gf 15 n=true
 ·rw [if_pos en]
  match ws with
  | []=>dsimp only; rw [if_pos rfl,if_pos ea,if_pos en]; rfl
  | _ :: _=>rfl
 ·rw [if_neg en]
  match ws with
  | []=>dsimp only; rw [if_pos ea,if_neg en]; rfl
  | _ :: _=>rfl
theorem afe {c:Catalogue} (hc:QB (namesOf c)) {rs:List Bytes} {tl:Bytes} (h:Rows rs tl):readM (Em c) (flat rs ++ tl)=if tl=[] then WT c rs else none:=by
 unfold readM
 cases rs with
 | nil =>
  rw [show Em c (flat [] ++ tl)=none from aaG c _ h.2]
  by_cases e:tl=[]
  ·rw [if_pos e]; rfl
  ·rw [if_neg e]; rfl
 | cons r rs =>
  rw [Ed]
  have e0:Em c=(Ai (Cu (ascii "build")) fun _=>Ai (Bm 32) fun _=>Ai (Fv 15) fun n=>Ai (Bm 10) fun _=>Ai (Dc (J7 c) 256) fun l=>DQ (⟨n,l⟩:Build)):=by
   unfold Em
   have e:ascii "build " = ascii "build" ++ [32]:=by decide
   rw [e,Lx]
  have h1:=h.1 r (List.mem_cons_self ..)
  rw [e0,Rc,abR _ (fun w q=>N7 h1 q) (Ei 32 r),WT]
  show (Zm (Im r) _).map _=_
  cases e:Im r with
  | none =>
   by_cases e:tl=[]
   ·rw [if_pos e]; rfl
   ·rw [if_neg e]; rfl
  | some n =>
   have e1:=Y4 hc (tl:=tl) 256 rs ⟨fun r q=>h.1 r (List.mem_cons_of_mem _ q),h.2⟩
   show (Ai (Dc (J7 c) 256) _ (flat rs ++ tl)).map _=_
   by_cases e:tl=[]
   ·rw [if_pos e] at e1 ⊢
    cases e2:GX c 256 rs with
    | none =>
     rw [e2] at e1
     rw [Ay e1]
     rfl
    | some ls =>
     rw [e2] at e1
     rw [Bf (x:=ls) (t':=[]) e1]
     rfl
   ·rw [if_neg e] at e1 ⊢
    rw [Ay e1]
    rfl
theorem Ny {t:Bytes} {rs:List Bytes} {tl:Bytes} (h:split 10 t=rs ++ [tl]):t=flat rs ++ tl/\Rows rs tl:=by
 refine ⟨?_,fun r q=>(split_free (t:=t) (by rw [h]; exact List.mem_append_left _ q)).1,(split_free (t:=t) (by rw [h]; simp)).1⟩
 rw [<- S8,<- h,JL]
theorem Hq {α:Type} (d:Nat) (f:Nat->Nat->α):∀ h:Nat,((List.range h).flatMap fun z=>(List.range d).map (f z))=(List.range (h * d)).map fun i=>f (i / d) (i % d)
 | 0=>by simp
 | h + 1=>by
  rw [List.range_succ,List.flatMap_append,Hq d f h,Nat.succ_mul,List.range_add,List.map_append]
  congr 1
  rw [List.map_map]
  simp only [List.flatMap_cons,List.flatMap_nil,List.append_nil]
  refine List.map_congr_left fun i hi=>?_
  have hd:=List.mem_range.mp hi
  show f h i=f ((h * d + i) / d) ((h * d + i) % d)
  rw [Nat.mul_comm h d,Nat.mul_add_div (by omega),Nat.mul_add_mod,Nat.div_eq_of_lt hd,Nat.mod_eq_of_lt hd,Nat.add_zero]
def Ft (w d i:Nat):Spot:=(i % w,i / w % d,i / w / d)
theorem Pa (p:Part):p.spots=(List.range (p.high * p.deep * p.wide)).map (Ft p.wide p.deep):=by
 unfold Part.spots
 have e:∀ z:Nat,((List.range p.deep).flatMap fun (y:Nat)=>(List.range p.wide).map fun (x:Nat)=>(x,y,z))=(List.range (p.deep * p.wide)).map fun i=>(i % p.wide,i / p.wide,z):=fun z =>
  Hq p.wide (fun y x=>(x,y,z)) p.deep
 simp only [e]
 rw [Hq (p.deep * p.wide) (fun z i=>(i % p.wide,i / p.wide,z)) p.high,Nat.mul_assoc]
 refine List.map_congr_left fun i hi=>?_
 show (i % (p.deep * p.wide) % p.wide,i % (p.deep * p.wide) / p.wide,i / (p.deep * p.wide))=(i % p.wide,i / p.wide % p.deep,i / p.wide / p.deep)
 rw [Nat.mul_comm p.deep p.wide,Nat.mod_mul_right_mod,Nat.mod_mul_right_div_self,Nat.div_div_eq_div_mul]
theorem Pb {w d x y z:Nat} (hx:x < w) (hy:y < d):Ft w d ((z * d + y) * w + x)=(x,y,z):=by
 unfold Ft
 have e1:((z * d + y) * w + x) % w=x:=by rw [Nat.mul_comm,Nat.mul_add_mod,Nat.mod_eq_of_lt hx]
 have e2:((z * d + y) * w + x) / w=z * d + y:=by rw [Nat.mul_comm,Nat.mul_add_div (by omega),Nat.div_eq_of_lt hx,Nat.add_zero]
 have e3:(z * d + y) % d=y:=by rw [Nat.mul_comm,Nat.mul_add_mod,Nat.mod_eq_of_lt hy]
 have e4:(z * d + y) / d=z:=by rw [Nat.mul_comm,Nat.mul_add_div (by omega),Nat.div_eq_of_lt hy,Nat.add_zero]
 rw [e1,e2,e3,e4]
theorem agk {w d h x y z:Nat} (hx:x < w) (hy:y < d) (hz:z < h):(z * d + y) * w + x < h * d * w:=by
 have h1:z * d + y + 1 <= h * d:=by
  have:(z + 1) * d <= h * d:=Nat.mul_le_mul_right d hz
  rw [Nat.succ_mul] at this
  omega
 have h2:(z * d + y + 1) * w <= h * d * w:=Nat.mul_le_mul_right w h1
 rw [Nat.succ_mul] at h2
 omega
theorem acY {w d h i:Nat} (hi:i < h * d * w):∃ x y z,x < w/\y < d/\z < h/\i=(z * d + y) * w + x:=by
 have hw:0 < w:=by
  rcases Nat.eq_zero_or_pos w with rfl | h
  ·simp at hi
  ·exact h
 have hd:0 < d:=by
  rcases Nat.eq_zero_or_pos d with rfl | h
  ·simp at hi
  ·exact h
 refine ⟨i % w,i / w % d,i / w / d,Nat.mod_lt _ hw,Nat.mod_lt _ hd,?_,?_⟩
 ·rw [Nat.div_div_eq_div_mul]
  refine Nat.div_lt_of_lt_mul ?_
  rw [Nat.mul_comm w d]
  calc i < h * d * w:=hi
   _=d * w * h:=by rw [Nat.mul_assoc,Nat.mul_comm]
 ·have e1:=Nat.div_add_mod i w
  have e2:=Nat.div_add_mod (i / w) d
  rw [Nat.mul_comm] at e1 e2
  rw [e2,e1]
def Full (p:Part):Prop:=p.places.length=p.wide * p.deep * p.high
theorem afr {p:Part} (hf:Full p) {x y z:Nat} (hx:x < p.wide) (hy:y < p.deep) (hz:z < p.high):(p.spots.zip p.places)[(z * p.deep + y) * p.wide + x]? = some ((x,y,z),p.at_ x y z):=by
 have hi:=agk hx hy hz
 rw [List.getElem?_zip_eq_some]
 constructor
 ·rw [Pa,List.getElem?_map,List.getElem?_range hi]
  show some (Ft _ _ _)=_
  rw [Pb hx hy]
 ·have hl:(z * p.deep + y) * p.wide + x < p.places.length:=by
   rw [hf,Nat.mul_comm (p.wide * p.deep),Nat.mul_comm p.wide,<- Nat.mul_assoc]; exact hi
  unfold Part.at_
  rw [if_pos ⟨hx,hy,hz⟩,List.getElem?_eq_getElem hl,List.getD_eq_getElem?_getD,List.getElem?_eq_getElem hl]
  rfl
theorem Uz {p:Part} (hf:Full p) {s:Spot} {q:Place}:(s,q) ∈ p.spots.zip p.places ↔ s.1 < p.wide/\s.2.1 < p.deep/\s.2.2 < p.high/\q=p.at_ s.1 s.2.1 s.2.2:=by
 constructor
 ·intro h
  obtain ⟨i,hi⟩:=List.mem_iff_getElem?.mp h
  have hl:i < p.high * p.deep * p.wide:=by
   have:=(List.getElem?_zip_eq_some.mp hi).1
   rw [Pa,List.getElem?_map] at this
   rcases Nat.lt_or_ge i (p.high * p.deep * p.wide) with h | h
   ·exact h
   ·rw [List.getElem?_eq_none (by rw [List.length_range]; exact h)] at this
    cases this
  obtain ⟨x,y,z,hx,hy,hz,rfl⟩:=acY hl
  rw [afr hf hx hy hz] at hi
  cases hi
  exact ⟨hx,hy,hz,rfl⟩
 ·rintro ⟨hx,hy,hz,rfl⟩
  exact List.mem_of_getElem? (afr hf hx hy hz)
theorem ad1 {p:Part} {x y z:Nat} (h:(p.at_ x y z).isCell=true):x < p.wide/\y < p.deep/\z < p.high:=by
 unfold Part.at_ at h
 split at h
 ·assumption
 ·cases h
theorem V8 {p:Part} (hf:Full p) {f:Place->Bool} (h0:f .none=false) {s:Spot}:s ∈ p.such f ↔ f (p.at_ s.1 s.2.1 s.2.2)=true:=by
 unfold Part.such
 rw [List.mem_map]
 constructor
 ·rintro ⟨⟨s',q⟩,hm,rfl⟩
  rw [List.mem_filter] at hm
  obtain ⟨_,_,_,rfl⟩:=(Uz hf).mp hm.1
  exact hm.2
 ·intro h
  have hr:s.1 < p.wide/\s.2.1 < p.deep/\s.2.2 < p.high:=by
   unfold Part.at_ at h
   split at h
   ·assumption
   ·rw [h0] at h; cases h
  exact ⟨(s,p.at_ s.1 s.2.1 s.2.2),List.mem_filter.mpr ⟨(Uz hf).mpr ⟨hr.1,hr.2.1,hr.2.2,rfl⟩,h⟩,rfl⟩
theorem Mt {p:Part} (hf:Full p) {s:Spot}:s ∈ p.cells ↔ (p.at_ s.1 s.2.1 s.2.2).isCell=true:=V8 hf rfl
theorem Jh {p:Part} (hf:Full p) {s:Spot}:s ∈ p.studs ↔ (p.at_ s.1 s.2.1 s.2.2).stud=true:=V8 hf rfl
theorem Ms {p:Part} (hf:Full p) {s:Spot}:s ∈ p.tubes ↔ (p.at_ s.1 s.2.1 s.2.2).tube=true:=V8 hf rfl
theorem Hc {α β:Type} {f:α->β} {l:List α} (h:l.Nodup) (inj:∀ a ∈ l,∀ b ∈ l,f a=f b->a=b):(l.map f).Nodup:=by
 induction l with
 | nil=>simp
 | cons a l ih =>
  rw [List.map_cons,List.nodup_cons]
  rw [List.nodup_cons] at h
  refine ⟨fun hm=>?_,ih h.2 fun a ha b hb=>inj a (List.mem_cons_of_mem _ ha) b (List.mem_cons_of_mem _ hb)⟩
  obtain ⟨b,hb,e⟩:=List.mem_map.mp hm
  have:=inj b (List.mem_cons_of_mem _ hb) a (List.mem_cons_self ..) e
  rw [this] at hb
  exact h.1 hb
theorem aaQ (p:Part):p.spots.Nodup:=by
 rw [Pa]
 refine Hc List.nodup_range fun a ha b hb e=>?_
 obtain ⟨x,y,z,hx,hy,hz,rfl⟩:=acY (List.mem_range.mp ha)
 obtain ⟨x',y',z',hx',hy',hz',rfl⟩:=acY (List.mem_range.mp hb)
 rw [Pb hx hy,Pb hx' hy'] at e
 cases e
 rfl
abbrev P3:=Int × Int × Int
def up (s:Spot):P3:=(s.1,s.2.1,s.2.2)
theorem HY {s t:Spot} (h:up s=up t):s=t:=by
 unfold up at h
 obtain ⟨a,b,c⟩:=s
 obtain ⟨a',b',c'⟩:=t
 simp only [Prod.mk.injEq] at h ⊢
 omega
def entry (x:Spot × Place):P3 × Int:=(up x.1,(x.2.byte.toNat:Int))
def entries (l:List (Spot × Place)):List (P3 × Int):=(l.filter fun x=>x.2.isCell).map entry
def cellsOf (p:Part):List (P3 × Int):=entries (p.spots.zip p.places)
theorem Ez (p:Part):(cellsOf p).map (·.1)=p.cells.map up:=by
 unfold cellsOf entries Part.cells Part.such
 rw [List.map_map,List.map_map]
 rfl
def De (s:Int):Bool:=s == 115 || s == 98
def Dd (s:Int):Bool:=s == 116 || s == 98
theorem MK (q:Place):De (q.byte.toNat:Int)=q.stud:=by
 cases q with
 | none=>rfl
 | cell s t=>cases s <;> cases t <;> rfl
theorem MJ (q:Place):Dd (q.byte.toNat:Int)=q.tube:=by
 cases q with
 | none=>rfl
 | cell s t=>cases s <;> cases t <;> rfl
theorem Dm {p:Part} (hf:Full p) {q:P3} {s:Int}:(q,s) ∈ cellsOf p ↔ ∃ a:Spot,q=up a/\(p.at_ a.1 a.2.1 a.2.2).isCell=true/\s=((p.at_ a.1 a.2.1 a.2.2).byte.toNat:Int):=by
 unfold cellsOf entries
 rw [List.mem_map]
 constructor
 ·rintro ⟨⟨a,pl⟩,hm,e⟩
  rw [List.mem_filter] at hm
  obtain ⟨_,_,_,rfl⟩:=(Uz hf).mp hm.1
  cases e
  exact ⟨a,rfl,hm.2,rfl⟩
 ·rintro ⟨a,rfl,hc,rfl⟩
  obtain ⟨hx,hy,hz⟩:=ad1 hc
  exact ⟨(a,p.at_ a.1 a.2.1 a.2.2),List.mem_filter.mpr ⟨(Uz hf).mpr ⟨hx,hy,hz,rfl⟩,hc⟩,rfl⟩
theorem RT {α β:Type}:∀ (l:List α) (m:List β),List.Sublist ((l.zip m).map (·.1)) l
 | [],_=>by simp
 | _ :: _,[]=>by simp
 | a :: l,b :: m=>by simp [RT l m]
theorem Tq (p:Part):p.cells.Nodup:=by
 unfold Part.cells Part.such
 have h:((p.spots.zip p.places).map (·.1)).Nodup:=by
  exact List.Nodup.sublist (RT _ _) (aaQ p)
 exact List.Nodup.sublist (List.Sublist.map _ List.filter_sublist) h
theorem keys_nodup (p:Part):((cellsOf p).map (·.1)).Nodup:=by
 rw [Ez]
 exact Hc (Tq p) fun a _ b _ e=>HY e
theorem mem_keys {p:Part} (hf:Full p) {q:P3}:q ∈ (cellsOf p).map (·.1) ↔ ∃ a:Spot,q=up a/\(p.at_ a.1 a.2.1 a.2.2).isCell=true:=by
 rw [Ez,List.mem_map]
 constructor
 ·rintro ⟨a,h,rfl⟩
  exact ⟨a,rfl,(Mt hf).mp h⟩
 ·rintro ⟨a,rfl,h⟩
  exact ⟨a,(Mt hf).mpr h,rfl⟩
def mv (q:P3) (x y z:Int):P3:=(q.1 + x,q.2.1 + y,q.2.2 + z)
def Di (ks:List P3) (x:P3 × Int):Bool:=De x.2 && decide (mv x.1 0 0 1 ∈ ks)
def Dz (ks:List P3) (x:P3 × Int):Bool:=Dd x.2 && decide (mv x.1 0 0 (-1) ∈ ks)
theorem Ve {p:Part} (hf:Full p):p.studsOk = !((cellsOf p).any (Di ((cellsOf p).map (·.1)))):=by
 rw [Bool.eq_iff_iff,Bool.not_eq_true',List.any_eq_false]
 unfold Part.studsOk
 rw [List.all_eq_true]
 constructor
 ·rintro h ⟨q,s⟩ hm
  obtain ⟨a,rfl,hc,rfl⟩:=(Dm hf).mp hm
  unfold Di
  rw [MK]
  intro hb
  rw [Bool.and_eq_true,decide_eq_true_eq,mem_keys hf] at hb
  obtain ⟨h1,b,e,hb⟩:=hb
  have:=h a ((Jh hf).mpr h1)
  have eb:b=(a.1,a.2.1,a.2.2 + 1):=by
   refine HY (e.symm.trans ?_)
   unfold mv up
   simp
  subst eb
  rw [hb] at this
  cases this
 ·intro h a ha
  have ha':=(Jh hf).mp ha
  have hc:(p.at_ a.1 a.2.1 a.2.2).isCell=true:=by
   cases e:p.at_ a.1 a.2.1 a.2.2 with
   | none=>rw [e] at ha'; cases ha'
   | cell _ _=>rfl
  have:=h _ ((Dm hf).mpr ⟨a,rfl,hc,rfl⟩)
  unfold Di at this
  rw [MK,ha',Bool.true_and,decide_eq_true_eq,mem_keys hf] at this
  cases e:(p.at_ a.1 a.2.1 (a.2.2 + 1)).isCell with
  | false=>rfl
  | true =>
   exfalso
   refine this ⟨(a.1,a.2.1,a.2.2 + 1),?_,e⟩
   unfold mv up
   simp
theorem acg {p:Part} (hf:Full p):p.tubesOk = !((cellsOf p).any (Dz ((cellsOf p).map (·.1)))):=by
 rw [Bool.eq_iff_iff,Bool.not_eq_true',List.any_eq_false]
 unfold Part.tubesOk
 rw [List.all_eq_true]
 constructor
 ·rintro h ⟨q,s⟩ hm
  obtain ⟨a,rfl,hc,rfl⟩:=(Dm hf).mp hm
  unfold Dz
  rw [MJ]
  intro hb
  rw [Bool.and_eq_true,decide_eq_true_eq,mem_keys hf] at hb
  obtain ⟨h1,b,e,hb⟩:=hb
  have:=h a ((Ms hf).mpr h1)
  obtain ⟨a1,a2,a3⟩:=a
  obtain ⟨b1,b2,b3⟩:=b
  unfold mv up at e
  simp only [Prod.mk.injEq] at e
  have e1:b1=a1:=by omega
  have e2:b2=a2:=by omega
  have e3:b3=a3 - 1:=by omega
  have e4:a3 ≠ 0:=by omega
  subst e1 e2 e3
  simp only at hb this
  rw [hb] at this
  simp [e4] at this
 ·intro h a ha
  have ha':=(Ms hf).mp ha
  have hc:(p.at_ a.1 a.2.1 a.2.2).isCell=true:=by
   cases e:p.at_ a.1 a.2.1 a.2.2 with
   | none=>rw [e] at ha'; cases ha'
   | cell _ _=>rfl
  have:=h _ ((Dm hf).mpr ⟨a,rfl,hc,rfl⟩)
  unfold Dz at this
  rw [MJ,ha',Bool.true_and,decide_eq_true_eq,mem_keys hf] at this
  by_cases z:a.2.2=0
  ·simp [z]
  ·cases e:(p.at_ a.1 a.2.1 (a.2.2 - 1)).isCell with
   | false=>simp
   | true =>
    exfalso
    refine this ⟨(a.1,a.2.1,a.2.2 - 1),?_,e⟩
    unfold mv up
    simp
    omega
def ax (i:Nat) (q:P3):Int:=if i=0 then q.1 else if i=1 then q.2.1 else q.2.2
def Eg (ks:List P3) (i:Nat) (n:Int):Bool:=decide ((0:Int) ∈ ks.map (ax i)) && decide (n - 1 ∈ ks.map (ax i))
theorem RP {p:Part} {f:Spot->Nat} {g:P3->Int} (hg:∀ s,g (up s)=(f s:Int)) {b:Spot->Bool} {n:Int} (hb:∀ s,b s=true ↔ ((f s:Nat):Int)=n):(p.cells.any b)=decide (n ∈ ((cellsOf p).map (·.1)).map g):=by
 rw [Bool.eq_iff_iff,decide_eq_true_eq,List.any_eq_true,Ez,List.map_map,List.mem_map]
 constructor
 ·rintro ⟨s,h,e⟩
  exact ⟨s,h,(hg s).trans ((hb s).mp e)⟩
 ·rintro ⟨s,h,e⟩
  exact ⟨s,h,(hb s).mpr ((hg s).symm.trans e)⟩
theorem afD {p:Part}:p.tight=(Eg ((cellsOf p).map (·.1)) 0 p.wide && (Eg ((cellsOf p).map (·.1)) 1 p.deep && Eg ((cellsOf p).map (·.1)) 2 p.high)):=by
 unfold Part.tight
 dsimp only
 rw [RP (f:=fun s=>s.1) (g:=ax 0) (n:=0) (fun s=>rfl) (fun s=>by simp),
  RP (f:=fun s=>s.1) (g:=ax 0) (n:=(p.wide:Int) - 1) (fun s=>rfl) (fun s=>by simp; omega),
  RP (f:=fun s=>s.2.1) (g:=ax 1) (n:=0) (fun s=>rfl) (fun s=>by simp),
  RP (f:=fun s=>s.2.1) (g:=ax 1) (n:=(p.deep:Int) - 1) (fun s=>rfl) (fun s=>by simp; omega),
  RP (f:=fun s=>s.2.2) (g:=ax 2) (n:=0) (fun s=>rfl) (fun s=>by simp),
  RP (f:=fun s=>s.2.2) (g:=ax 2) (n:=(p.high:Int) - 1) (fun s=>rfl) (fun s=>by simp; omega)]
 unfold Eg
 simp only [Bool.and_assoc]
def HQ (q:P3):List P3:=[mv q (-1) 0 0,mv q 1 0 0,mv q 0 (-1) 0,mv q 0 1 0,mv q 0 0 1,mv q 0 0 (-1)]
inductive Reach (ks:List P3) (c:P3):P3->Prop where
 | refl:Reach ks c c
 | step {a b:P3}:Reach ks c a->b ∈ HQ a->b ∈ ks->Reach ks c b
theorem Sy {a b:Spot}:up b ∈ HQ (up a) ↔ beside a b=true:=by
 obtain ⟨a1,a2,a3⟩:=a
 obtain ⟨b1,b2,b3⟩:=b
 unfold HQ up mv beside
 simp only [List.mem_cons,Prod.mk.injEq,List.not_mem_nil,or_false,beq_iff_eq]
 omega
theorem Tu {a b:Spot}:beside a b=beside b a:=by
 obtain ⟨a1,a2,a3⟩:=a
 obtain ⟨b1,b2,b3⟩:=b
 unfold beside
 rw [Bool.eq_iff_iff,beq_iff_eq,beq_iff_eq]
 dsimp only
 omega
theorem afW {α:Type} (p:α->Bool) (l:List α):(l.partition p).1=l.filter p/\(l.partition p).2=l.filter (fun x=>!p x):=by
 rw [List.partition_eq_filter_filter]
 exact ⟨rfl,rfl⟩
theorem Oz (n:Nat) (l rest:List Spot):apartFrom (n + 1) l rest=if rest.filter (fun c=>l.any (beside c))=[] then rest else apartFrom n (rest.filter fun c=>l.any (beside c)) (rest.filter fun c=>!(l.any (beside c))):=by
 rw [apartFrom]
 rw [(afW _ rest).1,(afW _ rest).2]
theorem Tw {ks:List P3} {c:P3}:∀ (n:Nat) (l rest:List Spot),(∀ x ∈ l,Reach ks c (up x))->(∀ x ∈ rest,up x ∈ ks)->∀ x ∈ rest,x ∈ apartFrom n l rest \/ Reach ks c (up x)
 | 0,l,rest,_,_,x,hx=>.inl hx
 | n + 1,l,rest,hl,hr,x,hx=>by
  rw [Oz]
  split
  ·exact .inl hx
  ·have h1:∀ y ∈ rest.filter (fun c=>l.any (beside c)),Reach ks c (up y):=fun y hy=>by
    rw [List.mem_filter,List.any_eq_true] at hy
    obtain ⟨hy,z,hz,hb⟩:=hy
    rw [Tu] at hb
    exact .step (hl z hz) (Sy.mpr hb) (hr y hy)
   cases e:l.any (beside x) with
   | true=>exact .inr (h1 x (List.mem_filter.mpr ⟨hx,e⟩))
   | false=>exact Tw n _ _ h1 (fun y hy=>hr y (List.mem_filter.mp hy).1) x (List.mem_filter.mpr ⟨hx,by rw [e]; rfl⟩)
theorem RN:∀ (n:Nat) (l rest:List Spot),∀ x ∈ apartFrom n l rest,x ∈ rest
 | 0,l,rest,x,hx=>hx
 | n + 1,l,rest,x,hx=>by
  rw [Oz] at hx
  split at hx
  ·exact hx
  ·exact (List.mem_filter.mp (RN n _ _ x hx)).1
theorem Ww {α:Type} (p:α->Bool):∀ l:List α,(l.filter p).length + (l.filter fun x=>!p x).length=l.length
 | []=>rfl
 | a :: l=>by
  have:=Ww p l
  cases e:p a <;> simp [List.filter_cons,e] <;> omega
theorem Zt:∀ (n:Nat) (D l rest:List Spot),rest.length <= n->(∀ x ∈ rest,∀ y ∈ D,beside x y=false)->∀ x ∈ apartFrom n l rest,∀ y,y ∈ D \/ y ∈ l \/ y ∈ rest->beside x y=true->y ∈ apartFrom n l rest
 | 0,D,l,rest,hn,_,x,hx,_,_,_=>by
  have:rest=[]:=List.length_eq_zero_iff.mp (by omega)
  subst this
  cases hx
 | n + 1,D,l,rest,hn,hD,x,hx,y,hy,hb=>by
  rw [Oz] at hx ⊢
  split at hx
  ·rename_i hnil
   rw [if_pos hnil]
   rcases hy with hy | hy | hy
   ·rw [hD x hx y hy] at hb; cases hb
   ·have:x ∈ rest.filter (fun c=>l.any (beside c)):=List.mem_filter.mpr ⟨hx,List.any_eq_true.mpr ⟨y,hy,hb⟩⟩
    rw [hnil] at this
    cases this
   ·exact hy
  ·rename_i hnil
   rw [if_neg hnil]
   have hlen:=Ww (fun c=>l.any (beside c)) rest
   have hpos:0 < (rest.filter (fun c=>l.any (beside c))).length:=List.length_pos_iff.mpr hnil
   refine Zt n (D ++ l) _ _ (by omega) ?_ x hx y ?_ hb
   ·intro z hz u hu
    rw [List.mem_filter] at hz
    rcases List.mem_append.mp hu with hu | hu
    ·exact hD z hz.1 u hu
    ·have:=hz.2
     simp only [Bool.not_eq_true',List.any_eq_false] at this
     simpa using this u hu
   ·rcases hy with hy | hy | hy
    ·exact .inl (List.mem_append_left _ hy)
    ·exact .inl (List.mem_append_right _ hy)
    ·cases e:l.any (beside y) with
     | true=>exact .inr (.inl (List.mem_filter.mpr ⟨hy,e⟩))
     | false=>exact .inr (.inr (List.mem_filter.mpr ⟨hy,by rw [e]; rfl⟩))
theorem ad6 {p:Part} {c:Spot} {r:List Spot} (e:p.cells=c :: r):p.whole=true ↔ ∀ q ∈ (cellsOf p).map (·.1),Reach ((cellsOf p).map (·.1)) (up c) q:=by
 have hk:(cellsOf p).map (·.1)=(c :: r).map up:=by rw [Ez,e]
 have hnd:(c :: r).Nodup:=by rw [<- e]; exact Tq p
 unfold Part.whole
 rw [e,hk]
 dsimp only
 rw [List.isEmpty_iff]
 constructor
 ·intro h q hq
  obtain ⟨a,ha,rfl⟩:=List.mem_map.mp hq
  rcases List.mem_cons.mp ha with rfl | ha
  ·exact .refl
  ·rcases Tw (ks:=(c :: r).map up) (c:=up c) r.length [c] r (fun x hx=>by rw [List.mem_singleton.mp hx]; exact .refl) (fun x hx=>List.mem_map_of_mem (List.mem_cons_of_mem _ hx)) a ha with h1 | h1
   ·rw [h] at h1; cases h1
   ·exact h1
 ·intro h
  rcases List.eq_nil_or_concat (apartFrom r.length [c] r) with h0 | ⟨_,x,hx⟩
  ·exact h0
  exfalso
  have hxm:x ∈ apartFrom r.length [c] r:=by rw [hx]; simp
  have hxr:=RN _ _ _ x hxm
  have key:∀ q,Reach ((c :: r).map up) (up c) q->∀ a,q=up a->a ∉ apartFrom r.length [c] r:=by
   intro q hq
   induction hq with
   | refl =>
    intro a ea ha
    have:=HY ea
    subst this
    exact (List.nodup_cons.mp hnd).1 (RN _ _ _ _ ha)
   | @step a b ha hb hbk ih =>
    intro b' eb hb'
    subst eb
    have hau:∃ a',a' ∈ c :: r/\a=up a':=by
     cases ha with
     | refl=>exact ⟨c,List.mem_cons_self ..,rfl⟩
     | step _ _ h =>
      obtain ⟨a',h1,h2⟩:=List.mem_map.mp h
      exact ⟨a',h1,h2.symm⟩
    obtain ⟨a',ha',rfl⟩:=hau
    refine ih a' rfl (Zt r.length [] [c] r (Nat.le_refl _) (fun _ _ _ h=>by cases h) b' hb' a' ?_ (by rw [Tu]; exact Sy.mp hb))
    rcases List.mem_cons.mp ha' with rfl | h
    ·exact .inr (.inl (List.mem_singleton.mpr rfl))
    ·exact .inr (.inr h)
  exact key _ (h (up x) (List.mem_map_of_mem (List.mem_cons_of_mem _ hxr))) x rfl hxm
def visit (ks:List P3) (st:List P3 × List P3) (b:P3):List P3 × List P3:=if b ∈ ks/\b ∉ st.1 then (st.1 ++ [b],st.2 ++ [b]) else st
structure Nb (ks:List P3) (c:P3) (R W:List P3):Prop where
 nd:R.Nodup
 sub:∀ q ∈ R,q ∈ ks
 st:c ∈ R
 rc:∀ q ∈ R,Reach ks c q
 wr:∀ q ∈ W,q ∈ R
 cl:∀ a ∈ R,a ∈ W \/ ∀ b ∈ HQ a,b ∈ ks->b ∈ R
theorem Oa (ks:List P3):∀ (ns:List P3) (R W:List P3),R.Nodup->∃ X,ns.foldl (visit ks) (R,W)=(R ++ X,W ++ X)/\(R ++ X).Nodup/\(∀ b ∈ X,b ∈ ks/\b ∈ ns)/\∀ b ∈ ns,b ∈ ks->b ∈ R ++ X
 | [],R,W,h=>⟨[],by simp,by simpa using h,by simp,by simp⟩
 | n :: ns,R,W,h=>by
  rw [List.foldl_cons]
  by_cases e:n ∈ ks/\n ∉ R
  ·have e1:visit ks (R,W) n=(R ++ [n],W ++ [n]):=by unfold visit; rw [if_pos e]
   rw [e1]
   obtain ⟨X,h1,h2,h3,h4⟩:=Oa ks ns (R ++ [n]) (W ++ [n]) (by
    rw [List.nodup_append]
    refine ⟨h,by simp,fun a ha b hb=>?_⟩
    rw [List.mem_singleton.mp hb]
    rintro rfl
    exact e.2 ha)
   refine ⟨n :: X,by rw [h1]; simp,by simpa using h2,fun b hb=>?_,fun b hb hk=>?_⟩
   ·rcases List.mem_cons.mp hb with rfl | hb
    ·exact ⟨e.1,List.mem_cons_self ..⟩
    ·exact ⟨(h3 b hb).1,List.mem_cons_of_mem _ (h3 b hb).2⟩
   ·rcases List.mem_cons.mp hb with rfl | hb
    ·simp
    ·simpa using h4 b hb hk
  ·have e1:visit ks (R,W) n=(R,W):=by unfold visit; rw [if_neg e]
   rw [e1]
   obtain ⟨X,h1,h2,h3,h4⟩:=Oa ks ns R W h
   refine ⟨X,h1,h2,fun b hb=>⟨(h3 b hb).1,List.mem_cons_of_mem _ (h3 b hb).2⟩,fun b hb hk=>?_⟩
   rcases List.mem_cons.mp hb with rfl | hb
   ·refine List.mem_append_left _ ?_
    exact Classical.byContradiction fun z=>e ⟨hk,z⟩
   ·exact h4 b hb hk
theorem Nb.start {ks:List P3} {c:P3} (h:c ∈ ks):Nb ks c [c] [c] where
 nd:=by simp
 sub:=fun q hq=>by rw [List.mem_singleton.mp hq]; exact h
 st:=List.mem_singleton.mpr rfl
 rc:=fun q hq=>by rw [List.mem_singleton.mp hq]; exact .refl
 wr:=fun q hq=>hq
 cl:=fun a ha=>.inl ha
theorem Nb.turn {ks:List P3} {c a:P3} {R W:List P3} (I:Nb ks c R (W ++ [a])):Nb ks c ((HQ a).foldl (visit ks) (R,W)).1 ((HQ a).foldl (visit ks) (R,W)).2 /\
  ((HQ a).foldl (visit ks) (R,W)).2.length + R.length=((HQ a).foldl (visit ks) (R,W)).1.length + W.length:=by
 obtain ⟨X,h1,h2,h3,h4⟩:=Oa ks (HQ a) R W I.nd
 rw [h1]
 refine ⟨⟨h2,fun q hq=>?_,List.mem_append_left _ I.st,fun q hq=>?_,fun q hq=>?_,fun b hb=>?_⟩,by simp; omega⟩
 ·rcases List.mem_append.mp hq with hq | hq
  ·exact I.sub q hq
  ·exact (h3 q hq).1
 ·rcases List.mem_append.mp hq with hq | hq
  ·exact I.rc q hq
  ·exact .step (I.rc a (I.wr a (by simp))) (h3 q hq).2 (h3 q hq).1
 ·rcases List.mem_append.mp hq with hq | hq
  ·exact List.mem_append_left _ (I.wr q (List.mem_append_left _ hq))
  ·exact List.mem_append_right _ hq
 ·rcases List.mem_append.mp hb with hb | hb
  ·rcases I.cl b hb with h | h
   ·rcases List.mem_append.mp h with h | h
    ·exact .inl (List.mem_append_left _ h)
    ·rw [List.mem_singleton.mp h]
     exact .inr h4
   ·exact .inr fun d hd hk=>List.mem_append_left _ (h d hd hk)
  ·exact .inl (List.mem_append_right _ hb)
theorem Nb.le {ks:List P3} {c:P3} {R W:List P3} (I:Nb ks c R W):R.length <= ks.length:=List.Nodup.length_le_of_subset I.nd fun q hq=>I.sub q hq
theorem Vd {α:Type} [DecidableEq α] {R ks:List α} (h:R.Nodup) (hs:∀ q ∈ R,q ∈ ks) (hl:ks.length <= R.length) (hk:ks.Nodup):∀ q ∈ ks,q ∈ R:=fun q hq=>Classical.byContradiction fun hn=>by
 have h1:(q :: R).Nodup:=List.nodup_cons.mpr ⟨hn,h⟩
 have:=List.Nodup.length_le_of_subset h1 (l₂:=ks) fun x hx=>by
  rcases List.mem_cons.mp hx with rfl | hx
  ·exact hq
  ·exact hs x hx
 simp at this
 omega
theorem Nb.fin {p:Part} {c:Spot} {r:List Spot} (e:p.cells=c :: r) {R:List P3} (I:Nb ((cellsOf p).map (·.1)) (up c) R []):p.whole=decide (R.length=(cellsOf p).length):=by
 rw [Bool.eq_iff_iff,decide_eq_true_eq,ad6 e]
 have hl:((cellsOf p).map (·.1)).length=(cellsOf p).length:=List.length_map ..
 constructor
 ·intro h
  have:∀ q,Reach ((cellsOf p).map (·.1)) (up c) q->q ∈ R:=by
   intro q hq
   induction hq with
   | refl=>exact I.st
   | step ha hb hk ih =>
    rcases I.cl _ ih with h | h
    ·cases h
    ·exact h _ hb hk
  have h2:=List.Nodup.length_le_of_subset (keys_nodup p) (l₂:=R) fun q hq=>this q (h q hq)
  have h3:=I.le
  omega
 ·intro h q hq
  exact I.rc q (Vd I.nd I.sub (by omega) (keys_nodup p) q hq)
theorem adv {p:Part} (hf:Full p) {x y z:Nat} (hx:x < p.deep) (hy:y < p.wide) (hz:z < p.high):p.turn.at_ x y z=p.at_ (p.wide - 1 - y) x z:=by
 unfold Part.at_
 rw [if_pos ⟨hx,hy,hz⟩,if_pos ⟨by omega,hx,hz⟩]
 show (p.turn.places).getD _ _=_
 have e:p.turn.places=(List.range (p.high * p.wide * p.deep)).map fun i=>p.places.getD ((i / p.deep / p.wide * p.deep + i % p.deep) * p.wide + (p.wide - 1 - i / p.deep % p.wide)) .none:=by
  unfold Part.turn
  dsimp only
  have e1:∀ z:Nat,((List.range p.wide).flatMap fun (y:Nat)=>(List.range p.deep).map fun (x:Nat)=>p.places.toArray.getD ((z * p.deep + x) * p.wide + (p.wide - 1 - y)) Place.none)=(List.range (p.wide * p.deep)).map fun i=>p.places.toArray.getD ((z * p.deep + i % p.deep) * p.wide + (p.wide - 1 - i / p.deep)) Place.none:=fun z =>
   Hq p.deep (fun y x=>p.places.toArray.getD ((z * p.deep + x) * p.wide + (p.wide - 1 - y)) Place.none) p.wide
  simp only [e1]
  rw [Hq (p.wide * p.deep) (fun z i=>p.places.toArray.getD ((z * p.deep + i % p.deep) * p.wide + (p.wide - 1 - i / p.deep)) Place.none) p.high,Nat.mul_assoc]
  refine List.map_congr_left fun i hi=>?_
  show p.places.toArray.getD ((i / (p.wide * p.deep) * p.deep + i % (p.wide * p.deep) % p.deep) * p.wide + (p.wide - 1 - i % (p.wide * p.deep) / p.deep)) Place.none=_
  rw [Nat.mul_comm p.wide p.deep,Nat.mod_mul_right_mod,Nat.mod_mul_right_div_self,Nat.div_div_eq_div_mul]
  simp
 rw [e]
 show ((List.range (p.high * p.wide * p.deep)).map _).getD ((z * p.wide + y) * p.deep + x) Place.none=_
 have hi:=agk hx hy hz
 rw [List.getD_eq_getElem?_getD,List.getElem?_map,List.getElem?_range hi]
 show p.places.getD _ _=_
 have e2:Ft p.deep p.wide ((z * p.wide + y) * p.deep + x)=(x,y,z):=Pb hx hy
 unfold Ft at e2
 simp only [Prod.mk.injEq] at e2
 rw [e2.1,e2.2.1,e2.2.2]
theorem Yl (k:Nat):∀ n:Nat,((List.range n).map (fun _=>k)).sum=n * k
 | 0=>by simp
 | n + 1=>by
  rw [List.range_succ,List.map_append,List.sum_append,Yl k n,Nat.succ_mul]
  simp
theorem Yi {p:Part} (hf:Full p):Full p.turn:=by
 unfold Full Part.turn
 dsimp only
 simp [List.length_flatMap,Yl]
 rw [Nat.mul_comm p.deep p.wide,Nat.mul_comm p.high]
def Gj (w:Int) (x:P3 × Int):P3 × Int:=((x.1.2.1,w - 1 - x.1.1,x.1.2.2),x.2)
theorem Ge {α β:Type} {f:α->β}:∀ {l:List α},(l.map f).Nodup->l.Nodup
 | [],_=>by simp
 | a :: l,h=>by
  rw [List.map_cons,List.nodup_cons] at h
  rw [List.nodup_cons]
  exact ⟨fun z=>h.1 (List.mem_map_of_mem z),Ge h.2⟩
theorem Yh {p:Part} (hf:Full p):((cellsOf p).map (Gj p.wide)).Perm (cellsOf p.turn):=by
 rw [List.perm_ext_iff_of_nodup]
 ·rintro ⟨q,s⟩
  rw [Dm (Yi hf),List.mem_map]
  constructor
  ·rintro ⟨⟨q',s'⟩,hm,e⟩
   obtain ⟨a,rfl,hc,rfl⟩:=(Dm hf).mp hm
   obtain ⟨hx,hy,hz⟩:=ad1 hc
   have e2:p.turn.at_ a.2.1 (p.wide - 1 - a.1) a.2.2=p.at_ a.1 a.2.1 a.2.2:=by
    rw [adv hf hy (by omega) hz,show p.wide - 1 - (p.wide - 1 - a.1)=a.1 by omega]
   refine ⟨(a.2.1,p.wide - 1 - a.1,a.2.2),?_,?_,?_⟩
   ·cases e
    unfold up
    simp
    omega
   ·dsimp only
    rw [e2]; exact hc
   ·cases e
    dsimp only
    rw [e2]
  ·rintro ⟨a,rfl,hc,rfl⟩
   obtain ⟨hx,hy,hz⟩:=ad1 hc
   have hx:a.1 < p.deep:=hx
   have hy:a.2.1 < p.wide:=hy
   have hz:a.2.2 < p.high:=hz
   rw [adv hf hx hy hz] at hc ⊢
   refine ⟨_,(Dm hf).mpr ⟨(p.wide - 1 - a.2.1,a.1,a.2.2),rfl,hc,rfl⟩,?_⟩
   unfold Gj up
   simp
   omega
 ·refine Hc (Ge (keys_nodup p)) fun x _ y _ e=>?_
  obtain ⟨⟨x1,x2,x3⟩,x4⟩:=x
  obtain ⟨⟨y1,y2,y3⟩,y4⟩:=y
  unfold Gj at e
  simp only [Prod.mk.injEq] at e ⊢
  omega
 ·exact Ge (keys_nodup _)
theorem GC {p:Part} (hf:Full p):∀ r,Full (p.turned r)
 | 0=>hf
 | r + 1=>Yi (GC hf r)
def Ck (p:Part):Bool:=p.studsOk && (p.tubesOk && (p.tight && p.whole))
def DW:List Bytes->Bool
 | a :: b :: r=>before a b && DW (b :: r)
 | _=>true
theorem ab3 {p:Part} {last:Option Bytes}:p.wrong last=none ↔ Ck p=true/\∀ n,last=some n->before n p.name=true:=by
 unfold Part.wrong Ck
 cases p.studsOk <;> cases p.tubesOk <;> cases p.tight <;> cases p.whole <;> simp
 cases last with
 | none=>simp
 | some n=>simp
theorem Kl:∀ (k:Catalogue) (i:Nat) (last:Option Bytes),wrongFrom i last k=none ↔ (k.all Ck=true/\match last with
  | some n=>DW (n :: namesOf k)=true
  | none=>DW (namesOf k)=true)
 | [],i,last=>by
  cases last <;> simp [wrongFrom,namesOf,DW]
 | p :: k,i,last=>by
  rw [wrongFrom]
  have ih:=Kl k (i + 1) (some p.name)
  have hw:=ab3 (p:=p) (last:=last)
  cases e:p.wrong last with
  | some w =>
   rw [e] at hw
   simp only [reduceCtorEq,false_iff,not_and] at hw ⊢
   rw [List.all_cons,Bool.and_eq_true]
   rintro ⟨h1,h2⟩
   cases last with
   | none=>exact fun _=>(hw h1 (fun n q=>by cases q))
   | some n =>
    intro h3
    have h4:(before n p.name && DW (p.name :: namesOf k))=true:=h3
    rw [Bool.and_eq_true] at h4
    exact hw h1 (fun m q=>by cases q; exact h4.1)
  | none =>
   rw [e] at hw
   obtain ⟨h1,h2⟩:=hw.mp rfl
   dsimp only
   rw [ih,List.all_cons,h1,Bool.true_and]
   cases last with
   | none=>exact Iff.rfl
   | some n =>
    show _ ↔ _/\(before n p.name && DW (p.name :: namesOf k))=true
    rw [h2 n rfl,Bool.true_and]
theorem ad5 (k:Catalogue):(Br.wrong k).isSome = !(k.all Ck && DW (namesOf k)):=by
 have h:=Kl k 0 none
 unfold Br.wrong
 cases e:wrongFrom 0 none k with
 | none =>
  rw [e] at h
  obtain ⟨h1,h2⟩:=h.mp rfl
  rw [h1,h2]
  rfl
 | some w =>
  rw [e] at h
  simp only [reduceCtorEq,false_iff,not_and] at h
  cases h1:k.all Ck with
  | false=>rfl
  | true =>
   have:=h h1
   cases h2:DW (namesOf k) with
   | false=>rfl
   | true=>exact absurd h2 this
def mvE (l:Line) (x:P3 × Int):P3 × Int:=(mv x.1 l.x l.y l.z,x.2)
def Bg (c:Catalogue) (l:Line):List (P3 × Int):=(cellsOf (l.of c)).map (mvE l)
theorem ab9 (l:Line) (a:Spot):up (l.put a)=mv (up a) l.x l.y l.z:=by
 unfold up Line.put mv
 simp only [Prod.mk.injEq]
 omega
theorem Du (c:Catalogue) (l:Line):(Bg c l).map (·.1)=(Line.cells c l).map up:=by
 unfold Bg Line.cells
 rw [List.map_map,List.map_map]
 have:((fun x:P3 × Int=>x.1) ∘ mvE l)=(fun q=>mv q l.x l.y l.z) ∘ (fun x:P3 × Int=>x.1):=rfl
 rw [this,<- List.map_map,Ez,List.map_map]
 refine List.map_congr_left fun a _=>?_
 show mv (up a) l.x l.y l.z=up (l.put a)
 rw [ab9]
theorem acO {q r:P3} {x y z:Int} (h:mv q x y z=mv r x y z):q=r:=by
 obtain ⟨a,b,c⟩:=q
 obtain ⟨a',b',c'⟩:=r
 unfold mv at h
 simp only [Prod.mk.injEq] at h ⊢
 omega
theorem af4 (q:P3) (x y z:Int):mv (mv q x y z) 0 0 1=mv (mv q 0 0 1) x y z:=by
 unfold mv
 simp only [Prod.mk.injEq]
 omega
theorem Gh {c:Catalogue} {l:Line} (hf:Full (l.of c)) {q:P3} {s:Int}:(q,s) ∈ Bg c l ↔ ∃ a:Spot,q=up (l.put a)/\((l.of c).at_ a.1 a.2.1 a.2.2).isCell=true/\s=(((l.of c).at_ a.1 a.2.1 a.2.2).byte.toNat:Int):=by
 unfold Bg
 rw [List.mem_map]
 constructor
 ·rintro ⟨⟨q',s'⟩,hm,e⟩
  obtain ⟨a,rfl,h1,rfl⟩:=(Dm hf).mp hm
  cases e
  exact ⟨a,(ab9 l a).symm,h1,rfl⟩
 ·rintro ⟨a,rfl,h1,rfl⟩
  exact ⟨_,(Dm hf).mpr ⟨a,rfl,h1,rfl⟩,by unfold mvE; rw [ab9]⟩
theorem Lg (c:Catalogue) (l:Line):((Bg c l).map (·.1)).Nodup:=by
 unfold Bg
 rw [List.map_map]
 have:((fun x:P3 × Int=>x.1) ∘ mvE l)=(fun q=>mv q l.x l.y l.z) ∘ (fun x:P3 × Int=>x.1):=rfl
 rw [this,<- List.map_map]
 exact Hc (keys_nodup _) fun a _ b _ e=>acO e
structure QF (s:Shape):Prop where
 bx:∀ a ∈ s.cells,s.at_.1 <= a.1/\a.1 < s.at_.1 + s.size.1/\s.at_.2.1 <= a.2.1/\a.2.1 < s.at_.2.1 + s.size.2.1/\s.at_.2.2 <= a.2.2/\a.2.2 < s.at_.2.2 + s.size.2.2
 st:∀ a ∈ s.studs,a ∈ s.cells
theorem Cg {c:Catalogue} {l:Line} (hf:Full (l.of c)):QF (l.shape c) where
 bx:=fun a ha=>by
  obtain ⟨b,hb,rfl⟩:=List.mem_map.mp (show a ∈ (l.of c).cells.map l.put from ha)
  obtain ⟨hx,hy,hz⟩:=ad1 ((Mt hf).mp hb)
  show l.x <= l.x + b.1/\l.x + b.1 < l.x + (l.of c).wide/\l.y <= l.y + b.2.1/\l.y + b.2.1 < l.y + (l.of c).deep/\l.z <= l.z + b.2.2/\l.z + b.2.2 < l.z + (l.of c).high
  omega
 st:=fun a ha=>by
  obtain ⟨b,hb,rfl⟩:=List.mem_map.mp (show a ∈ (l.of c).studs.map l.put from ha)
  refine List.mem_map.mpr ⟨b,?_,rfl⟩
  rw [Jh hf] at hb
  rw [Mt hf]
  cases e:(l.of c).at_ b.1 b.2.1 b.2.2 with
  | none=>rw [e] at hb; cases hb
  | cell _ _=>rfl
theorem ae8 {i j:Shape} (hi:QF i) (hj:QF j):clash i j=true ↔ ∃ s,s ∈ i.cells/\s ∈ j.cells:=by
 unfold clash
 rw [Bool.and_eq_true,List.any_eq_true]
 constructor
 ·rintro ⟨_,s,h1,h2⟩
  exact ⟨s,h1,List.contains_iff_mem.mp h2⟩
 ·rintro ⟨s,h1,h2⟩
  refine ⟨?_,s,h1,List.contains_iff_mem.mpr h2⟩
  have a:=hi.bx s h1
  have b:=hj.bx s h2
  unfold meet
  simp only [Bool.and_eq_true,decide_eq_true_eq]
  omega
theorem aem {i j:Shape} (hi:QF i) (hj:QF j):stuck i j=true ↔ ∃ s,s ∈ i.studs/\above s ∈ j.cells/\above s ∉ j.tubes:=by
 unfold stuck
 rw [Bool.and_eq_true,List.any_eq_true]
 constructor
 ·rintro ⟨_,s,h1,h2⟩
  rw [Bool.and_eq_true,Bool.not_eq_true',List.contains_iff_mem] at h2
  exact ⟨s,h1,h2.1,fun z=>by rw [List.contains_iff_mem.mpr z] at h2; cases h2.2⟩
 ·rintro ⟨s,h1,h2,h3⟩
  refine ⟨?_,s,h1,?_⟩
  ·have a:=hi.bx s (hi.st s h1)
   have b:=hj.bx _ h2
   unfold above at b
   unfold meet
   simp only [Bool.and_eq_true,decide_eq_true_eq] at b ⊢
   omega
  ·rw [Bool.and_eq_true,Bool.not_eq_true',List.contains_iff_mem]
   refine ⟨h2,?_⟩
   cases e:j.tubes.contains (above s) with
   | false=>rfl
   | true=>exact absurd (List.contains_iff_mem.mp e) h3
def good (x l:Shape):Prop:=clash x l=false/\stuck x l=false/\stuck l x=false
theorem U5 {b:List Shape} {j:Nat} {l:Shape}:wrongLine b j l=none ↔ l.inRoom=true/\∀ x ∈ b,good x l:=by
 unfold wrongLine good
 cases l.inRoom with
 | false=>simp
 | true =>
  rw [if_neg (by simp)]
  cases e:b.findIdx? fun (i:Shape)=>clash i l with
  | some i =>
   simp only [reduceCtorEq,true_and,false_iff]
   intro h
   have:b.findIdx? (fun (i:Shape)=>clash i l)=none:=List.findIdx?_eq_none_iff.mpr fun x hx=>(h x hx).1
   rw [this] at e
   cases e
  | none =>
   have e1:=List.findIdx?_eq_none_iff.mp e
   cases e2:b.findIdx? fun (i:Shape)=>stuck i l || stuck l i with
   | some i =>
    simp only [reduceCtorEq,true_and,false_iff]
    intro h
    have:b.findIdx? (fun (i:Shape)=>stuck i l || stuck l i)=none:=List.findIdx?_eq_none_iff.mpr fun x hx=>by rw [(h x hx).2.1,(h x hx).2.2]; rfl
    rw [this] at e2
    cases e2
   | none =>
    have e3:=List.findIdx?_eq_none_iff.mp e2
    simp only [true_and,true_iff]
    intro x hx
    have:=e3 x hx
    rw [Bool.or_eq_false_iff] at this
    exact ⟨e1 x hx,this.1,this.2⟩
theorem JR:∀ (ls:List Shape) (j:Nat) (b:List Shape),wrongLines j b ls=none ↔ (∀ l ∈ ls,l.inRoom=true)/\(∀ x ∈ b,∀ l ∈ ls,good x l)/\ls.Pairwise good
 | [],j,b=>by simp [wrongLines]
 | l :: ls,j,b=>by
  rw [wrongLines]
  have h:=U5 (b:=b) (j:=j) (l:=l)
  have ih:=JR ls (j + 1) (b ++ [l])
  cases e:wrongLine b j l with
  | some k =>
   rw [e] at h
   simp only [reduceCtorEq,false_iff] at h ⊢
   rintro ⟨h1,h2,_⟩
   exact h ⟨h1 l (List.mem_cons_self ..),fun x hx=>h2 x hx l (List.mem_cons_self ..)⟩
  | none =>
   rw [e] at h
   obtain ⟨h1,h2⟩:=h.mp rfl
   dsimp only
   rw [ih,List.pairwise_cons]
   constructor
   ·rintro ⟨g1,g2,g3⟩
    refine ⟨fun x hx=>?_,fun x hx y hy=>?_,fun y hy=>g2 l (by simp) y hy,g3⟩
    ·rcases List.mem_cons.mp hx with rfl | hx
     ·exact h1
     ·exact g1 x hx
    ·rcases List.mem_cons.mp hy with rfl | hy
     ·exact h2 x hx
     ·exact g2 x (List.mem_append_left _ hx) y hy
   ·rintro ⟨g1,g2,g3,g4⟩
    refine ⟨fun x hx=>g1 x (List.mem_cons_of_mem _ hx),fun x hx y hy=>?_,g4⟩
    rcases List.mem_append.mp hx with hx | hx
    ·exact g2 x hx y (List.mem_cons_of_mem _ hy)
    ·rw [List.mem_singleton.mp hx]
     exact g3 y hy
def Meets (E:List (P3 × Int)):Prop:=∀ x ∈ E,De x.2=true->∀ t,(mv x.1 0 0 1,t) ∈ E->Dd t=true
theorem Vf {c:Catalogue} {l:Line} (hf:Full (l.of c)) {a:Spot}:a ∈ (l.shape c).studs ↔ ∃ s,(up a,s) ∈ Bg c l/\De s=true:=by
 show a ∈ (l.of c).studs.map l.put ↔ _
 rw [List.mem_map]
 constructor
 ·rintro ⟨b,hb,rfl⟩
  rw [Jh hf] at hb
  have hc:((l.of c).at_ b.1 b.2.1 b.2.2).isCell=true:=by
   cases e:(l.of c).at_ b.1 b.2.1 b.2.2 with
   | none=>rw [e] at hb; cases hb
   | cell _ _=>rfl
  exact ⟨_,(Gh hf).mpr ⟨b,rfl,hc,rfl⟩,by rw [MK]; exact hb⟩
 ·rintro ⟨s,h1,h2⟩
  obtain ⟨b,e,hc,rfl⟩:=(Gh hf).mp h1
  rw [MK] at h2
  exact ⟨b,(Jh hf).mpr h2,(HY e).symm⟩
theorem Va {c:Catalogue} {l:Line} (hf:Full (l.of c)) {a:Spot}:a ∈ (l.shape c).tubes ↔ ∃ s,(up a,s) ∈ Bg c l/\Dd s=true:=by
 show a ∈ (l.of c).tubes.map l.put ↔ _
 rw [List.mem_map]
 constructor
 ·rintro ⟨b,hb,rfl⟩
  rw [Ms hf] at hb
  have hc:((l.of c).at_ b.1 b.2.1 b.2.2).isCell=true:=by
   cases e:(l.of c).at_ b.1 b.2.1 b.2.2 with
   | none=>rw [e] at hb; cases hb
   | cell _ _=>rfl
  exact ⟨_,(Gh hf).mpr ⟨b,rfl,hc,rfl⟩,by rw [MJ]; exact hb⟩
 ·rintro ⟨s,h1,h2⟩
  obtain ⟨b,e,hc,rfl⟩:=(Gh hf).mp h1
  rw [MJ] at h2
  exact ⟨b,(Ms hf).mpr h2,(HY e).symm⟩
theorem WK {c:Catalogue} {l:Line} {a:Spot}:a ∈ (l.shape c).cells ↔ ∃ s,(up a,s) ∈ Bg c l:=by
 have:up a ∈ (Bg c l).map (·.1) ↔ a ∈ Line.cells c l:=by
  rw [Du,List.mem_map]
  constructor
  ·rintro ⟨b,h,e⟩
   rw [<- HY e]; exact h
  ·exact fun h=>⟨a,h,rfl⟩
 show a ∈ Line.cells c l ↔ _
 rw [<- this,List.mem_map]
 constructor
 ·rintro ⟨⟨q,s⟩,h,rfl⟩
  exact ⟨s,h⟩
 ·rintro ⟨s,h⟩
  exact ⟨_,h,rfl⟩
theorem aeZ {c:Catalogue} {l:Line} (hf:Full (l.of c)) {x:P3 × Int} (h:x ∈ Bg c l):∃ a:Spot,x.1=up a:=by
 obtain ⟨q,s⟩:=x
 obtain ⟨b,e,_⟩:=(Gh hf).mp h
 exact ⟨_,e⟩
theorem O6 (a:Spot):up (above a)=mv (up a) 0 0 1:=by
 unfold up above mv
 simp
theorem Ro {E:List (P3 × Int)} (h:(E.map (·.1)).Nodup) {q:P3} {s t:Int} (h1:(q,s) ∈ E) (h2:(q,t) ∈ E):s=t:=by
 induction E with
 | nil=>cases h1
 | cons x E ih =>
  rw [List.map_cons,List.nodup_cons] at h
  rcases List.mem_cons.mp h1 with e1 | e1
  ·rcases List.mem_cons.mp h2 with e2 | e2
   ·rw [<- e2] at e1; cases e1; rfl
   ·exact absurd (by rw [<- e1]; exact List.mem_map_of_mem (f:=(·.1)) e2) h.1
  ·rcases List.mem_cons.mp h2 with e2 | e2
   ·exact absurd (by rw [<- e2]; exact List.mem_map_of_mem (f:=(·.1)) e1) h.1
   ·exact ih h.2 e1 e2
theorem Qh {c:Catalogue} {k l:Line} (hk:Full (k.of c)) (hl:Full (l.of c)):good (k.shape c) (l.shape c) ↔
  (∀ q,q ∈ (Bg c k).map (·.1)->q ∉ (Bg c l).map (·.1))/\(∀ x ∈ Bg c k,De x.2=true->∀ t,(mv x.1 0 0 1,t) ∈ Bg c l->Dd t=true) /\
  (∀ x ∈ Bg c l,De x.2=true->∀ t,(mv x.1 0 0 1,t) ∈ Bg c k->Dd t=true):=by
 have stk:∀ {k l:Line},Full (k.of c)->Full (l.of c)->(stuck (k.shape c) (l.shape c)=false ↔ ∀ x ∈ Bg c k,De x.2=true->∀ t,(mv x.1 0 0 1,t) ∈ Bg c l->Dd t=true):=by
  intro k l hk hl
  have h:=aem (Cg hk) (Cg hl)
  rw [<- Bool.not_eq_true,h]
  constructor
  ·intro hn x hx hs t ht
   obtain ⟨a,ea⟩:=aeZ hk hx
   obtain ⟨q,s⟩:=x
   dsimp only at ea hs ht
   subst ea
   refine Classical.byContradiction fun hb=>hn ⟨a,(Vf hk).mpr ⟨s,hx,hs⟩,?_,?_⟩
   ·exact WK.mpr ⟨t,by rw [O6]; exact ht⟩
   ·intro hz
    obtain ⟨t',h1,h2⟩:=(Va hl).mp hz
    rw [O6] at h1
    rw [Ro (Lg c l) h1 ht] at h2
    exact hb h2
  ·rintro hn ⟨a,h1,h2,h3⟩
   obtain ⟨s,g1,g2⟩:=(Vf hk).mp h1
   obtain ⟨t,g3⟩:=WK.mp h2
   rw [O6] at g3
   exact h3 ((Va hl).mpr ⟨t,by rw [O6]; exact g3,hn _ g1 g2 t g3⟩)
 have cl:clash (k.shape c) (l.shape c)=false ↔ ∀ q,q ∈ (Bg c k).map (·.1)->q ∉ (Bg c l).map (·.1):=by
  have h:=ae8 (Cg hk) (Cg hl)
  rw [<- Bool.not_eq_true,h]
  constructor
  ·intro hn q h1 h2
   rw [Du] at h1 h2
   obtain ⟨a,ha,rfl⟩:=List.mem_map.mp h1
   obtain ⟨b,hb,e⟩:=List.mem_map.mp h2
   have:=HY e
   subst this
   exact hn ⟨b,ha,hb⟩
  ·rintro hn ⟨a,h1,h2⟩
   exact hn (up a) (by rw [Du]; exact List.mem_map_of_mem h1) (by rw [Du]; exact List.mem_map_of_mem h2)
 unfold good
 rw [cl,stk hk hl,stk hl hk]
def QC (E:List (P3 × Int)):Prop:=∀ x ∈ E,De x.2=true->mv x.1 0 0 1 ∉ E.map (·.1)
def Cp (c:Catalogue) (ls:List Line):List (P3 × Int):=ls.flatMap (Bg c)
theorem YJ {c:Catalogue}:∀ (ls:List Line),(∀ l ∈ ls,Full (l.of c)/\QC (Bg c l))->((ls.map (Line.shape c)).Pairwise good ↔ ((Cp c ls).map (·.1)).Nodup/\Meets (Cp c ls))
 | [],_=>by simp [Cp,Meets]
 | k :: ls,h=>by
  have ih:=YJ ls fun l hl=>h l (List.mem_cons_of_mem _ hl)
  have hk:=h k (List.mem_cons_self ..)
  have ea:Cp c (k :: ls)=Bg c k ++ Cp c ls:=by simp [Cp]
  rw [List.map_cons,List.pairwise_cons,ih,ea,List.map_append,List.nodup_append]
  constructor
  ·rintro ⟨h1,h2,h3⟩
   have g:∀ l ∈ ls,good (k.shape c) (l.shape c):=fun l hl=>h1 _ (List.mem_map_of_mem hl)
   refine ⟨⟨Lg c k,h2,?_⟩,?_⟩
   ·intro a ha b hb
    rintro rfl
    obtain ⟨x,hx,rfl⟩:=List.mem_map.mp hb
    obtain ⟨l,hl,hx⟩:=List.mem_flatMap.mp hx
    exact ((Qh hk.1 (h l (List.mem_cons_of_mem _ hl)).1).mp (g l hl)).1 _ ha (List.mem_map_of_mem hx)
   ·intro x hx hs t ht
    rcases List.mem_append.mp hx with hx | hx
    ·rcases List.mem_append.mp ht with ht | ht
     ·exact absurd (List.mem_map_of_mem (f:=(·.1)) ht) (hk.2 x hx hs)
     ·obtain ⟨l,hl,ht⟩:=List.mem_flatMap.mp ht
      exact ((Qh hk.1 (h l (List.mem_cons_of_mem _ hl)).1).mp (g l hl)).2.1 x hx hs t ht
    ·rcases List.mem_append.mp ht with ht | ht
     ·obtain ⟨l,hl,hx⟩:=List.mem_flatMap.mp hx
      exact ((Qh hk.1 (h l (List.mem_cons_of_mem _ hl)).1).mp (g l hl)).2.2 x hx hs t ht
     ·exact h3 x hx hs t ht
  ·rintro ⟨⟨_,h2,h3⟩,h4⟩
   refine ⟨fun y hy=>?_,h2,fun x hx hs t ht=>h4 x (List.mem_append_right _ hx) hs t (List.mem_append_right _ ht)⟩
   obtain ⟨l,hl,rfl⟩:=List.mem_map.mp hy
   have sub:∀ x ∈ Bg c l,x ∈ Cp c ls:=fun x hx=>List.mem_flatMap.mpr ⟨l,hl,hx⟩
   refine (Qh hk.1 (h l (List.mem_cons_of_mem _ hl)).1).mpr ⟨fun q h5 h6=>?_,fun x hx hs t ht=>?_,fun x hx hs t ht=>?_⟩
   ·obtain ⟨x,hx,e⟩:=List.mem_map.mp h6
    exact h3 q h5 q (by rw [<- e]; exact List.mem_map_of_mem (f:=(·.1)) (sub x hx)) rfl
   ·exact h4 x (List.mem_append_left _ hx) hs t (List.mem_append_right _ (sub _ ht))
   ·exact h4 x (List.mem_append_right _ (sub _ hx)) hs t (List.mem_append_left _ ht)
theorem aaF {c:Catalogue} {b:Build} (h:∀ l ∈ b.lines,Full (l.of c)/\QC (Bg c l)):(b.wrong c).isSome=false ↔ (∀ l ∈ b.lines,l.inRoom c=true)/\((Cp c b.lines).map (·.1)).Nodup/\Meets (Cp c b.lines):=by
 unfold Build.wrong Build.shapes
 have hw:=JR (b.lines.map (Line.shape c)) 0 []
 rw [<- YJ b.lines h]
 have e:(wrongLines 0 [] (b.lines.map (Line.shape c))).isSome=false ↔ wrongLines 0 [] (b.lines.map (Line.shape c))=none:=by
  cases wrongLines 0 [] (b.lines.map (Line.shape c)) <;> simp
 rw [e,hw]
 constructor
 ·rintro ⟨h1,_,h3⟩
  exact ⟨fun l hl=>h1 _ (List.mem_map_of_mem hl),h3⟩
 ·rintro ⟨h1,h3⟩
  refine ⟨fun s hs=>?_,fun _ z=>(by cases z),h3⟩
  obtain ⟨l,hl,rfl⟩:=List.mem_map.mp hs
  exact h1 l hl
theorem ac1 {p:Part} (hf:Full p) (h:p.studsOk=true):QC (cellsOf p):=by
 rw [Ve hf,Bool.not_eq_true',List.any_eq_false] at h
 intro x hx hs hm
 have:=h x hx
 unfold Di at this
 rw [hs,Bool.true_and,decide_eq_true_eq] at this
 exact this hm
theorem aeV {E F:List (P3 × Int)} (h:E.Perm F) (hE:QC E):QC F:=fun x hx hs hm=>hE x (h.mem_iff.mpr hx) hs ((h.map (·.1)).mem_iff.mpr hm)
theorem abz {E:List (P3 × Int)} {g:P3->P3} (hg:∀ a b,g a=g b->a=b) (ha:∀ q,mv (g q) 0 0 1=g (mv q 0 0 1)) (hE:QC E):QC (E.map fun x=>(g x.1,x.2)):=by
 intro x hx hs hm
 obtain ⟨y,hy,rfl⟩:=List.mem_map.mp hx
 dsimp only at hs hm
 rw [ha,List.map_map] at hm
 obtain ⟨z,hz,e⟩:=List.mem_map.mp hm
 exact hE y hy hs (by rw [<- hg _ _ e]; exact List.mem_map_of_mem (f:=(·.1)) hz)
theorem aeU {p:Part} (hf:Full p) (h:QC (cellsOf p)):QC (cellsOf p.turn):=by
 refine aeV (Yh hf) ?_
 exact abz (g:=fun q=>(q.2.1,(p.wide:Int) - 1 - q.1,q.2.2)) (fun a b e=>by
  obtain ⟨a1,a2,a3⟩:=a
  obtain ⟨b1,b2,b3⟩:=b
  simp only [Prod.mk.injEq] at e ⊢
  omega) (fun q=>by
  obtain ⟨a,b,c⟩:=q
  unfold mv
  simp) h
theorem Tc {p:Part} (hf:Full p) (h:QC (cellsOf p)):∀ r,QC (cellsOf (p.turned r))
 | 0=>h
 | r + 1=>aeU (GC hf r) (Tc hf h r)
theorem aeW {c:Catalogue} {l:Line} (hf:Full (c.getD l.part nothing)) (h:(c.getD l.part nothing).studsOk=true):Full (l.of c)/\QC (Bg c l) :=
 ⟨GC hf _,abz (g:=fun q=>mv q l.x l.y l.z) (fun a b e=>acO e) (fun q=>af4 q _ _ _) (Tc hf (ac1 hf h) l.r)⟩
structure ab0 (cs:List Spot) (l:List Column):Prop where
 lo:∀ k ∈ l,(k.1,k.2.1,k.2.2.1) ∈ cs
 hi:∀ k ∈ l,(k.1,k.2.1,k.2.2.2) ∈ cs
 al:∀ a ∈ cs,∃ k ∈ l,k.1=a.1/\k.2.1=a.2.1/\k.2.2.1 <= a.2.2/\a.2.2 <= k.2.2.2
theorem KQ {s:Spot}:∀ {l:List Column} {k:Column},k ∈ putCell s l->(k=(s.1,s.2.1,s.2.2,s.2.2)) \/ k ∈ l \/ ∃ k' ∈ l,k'.1=s.1/\k'.2.1=s.2.1/\k=(k'.1,k'.2.1,min k'.2.2.1 s.2.2,max k'.2.2.2 s.2.2)
 | [],k,h=>.inl (List.mem_singleton.mp h)
 | k' :: r,k,h=>by
  rw [putCell] at h
  split at h
  ·rename_i e
   rcases List.mem_cons.mp h with h | h
   ·exact .inr (.inr ⟨k',List.mem_cons_self ..,e.1,e.2,h⟩)
   ·exact .inr (.inl (List.mem_cons_of_mem _ h))
  ·rcases List.mem_cons.mp h with h | h
   ·exact .inr (.inl (by rw [h]; exact List.mem_cons_self ..))
   ·rcases KQ h with h | h | ⟨k'',h1,h2⟩
    ·exact .inl h
    ·exact .inr (.inl (List.mem_cons_of_mem _ h))
    ·exact .inr (.inr ⟨k'',List.mem_cons_of_mem _ h1,h2⟩)
theorem Sh {s:Spot}:∀ (l:List Column),(∃ k ∈ putCell s l,k.1=s.1/\k.2.1=s.2.1/\k.2.2.1 <= s.2.2/\s.2.2 <= k.2.2.2)/\∀ k ∈ l,∃ k' ∈ putCell s l,k'.1=k.1/\k'.2.1=k.2.1/\k'.2.2.1 <= k.2.2.1/\k.2.2.2 <= k'.2.2.2
 | []=>⟨⟨_,List.mem_singleton.mpr rfl,rfl,rfl,Nat.le_refl _,Nat.le_refl _⟩,fun k h=>by cases h⟩
 | k :: r=>by
  rw [putCell]
  split
  ·rename_i e
   refine ⟨⟨_,List.mem_cons_self ..,e.1,e.2,Nat.min_le_right _ _,Nat.le_max_right _ _⟩,fun k' h=>?_⟩
   rcases List.mem_cons.mp h with rfl | h
   ·exact ⟨_,List.mem_cons_self ..,rfl,rfl,Nat.min_le_left _ _,Nat.le_max_left _ _⟩
   ·exact ⟨k',List.mem_cons_of_mem _ h,rfl,rfl,Nat.le_refl _,Nat.le_refl _⟩
  ·obtain ⟨⟨k1,h1,h2⟩,h3⟩:=Sh (s:=s) r
   refine ⟨⟨k1,List.mem_cons_of_mem _ h1,h2⟩,fun k' h=>?_⟩
   rcases List.mem_cons.mp h with rfl | h
   ·exact ⟨k',List.mem_cons_self ..,rfl,rfl,Nat.le_refl _,Nat.le_refl _⟩
   ·obtain ⟨k2,g1,g2⟩:=h3 k' h
    exact ⟨k2,List.mem_cons_of_mem _ g1,g2⟩
theorem agE {cs:List Spot} {l:List Column} (s:Spot) (h:ab0 cs l):ab0 (cs ++ [s]) (putCell s l) where
 lo:=fun k hk=>by
  rcases KQ hk with rfl | hk | ⟨k',h1,e1,e2,rfl⟩
  ·exact List.mem_append_right _ (List.mem_singleton.mpr rfl)
  ·exact List.mem_append_left _ (h.lo k hk)
  ·dsimp only
   rcases Nat.le_total k'.2.2.1 s.2.2 with q | q
   ·rw [Nat.min_eq_left q]
    exact List.mem_append_left _ (h.lo k' h1)
   ·rw [Nat.min_eq_right q,e1,e2]
    exact List.mem_append_right _ (List.mem_singleton.mpr rfl)
 hi:=fun k hk=>by
  rcases KQ hk with rfl | hk | ⟨k',h1,e1,e2,rfl⟩
  ·exact List.mem_append_right _ (List.mem_singleton.mpr rfl)
  ·exact List.mem_append_left _ (h.hi k hk)
  ·dsimp only
   rcases Nat.le_total k'.2.2.2 s.2.2 with q | q
   ·rw [Nat.max_eq_right q,e1,e2]
    exact List.mem_append_right _ (List.mem_singleton.mpr rfl)
   ·rw [Nat.max_eq_left q]
    exact List.mem_append_left _ (h.hi k' h1)
 al:=fun a ha=>by
  obtain ⟨h1,h2⟩:=Sh (s:=s) l
  rcases List.mem_append.mp ha with ha | ha
  ·obtain ⟨k,hk,e1,e2,e3,e4⟩:=h.al a ha
   obtain ⟨k',hk',g1,g2,g3,g4⟩:=h2 k hk
   exact ⟨k',hk',by rw [g1,e1],by rw [g2,e2],Nat.le_trans g3 e3,Nat.le_trans e4 g4⟩
  ·rw [List.mem_singleton.mp ha]
   exact h1
theorem Qn:∀ (r cs:List Spot) (l:List Column),ab0 cs l->ab0 (cs ++ r) (r.foldl (fun (l:List Column) (p:Spot)=>putCell p l) l)
 | [],cs,l,h=>by simpa using h
 | s :: r,cs,l,h=>by
  have:=Qn r (cs ++ [s]) _ (agE s h)
  simpa using this
theorem JM (s:Shape):ab0 s.cells (columns s):=by
 have:=Qn s.cells [] [] ⟨fun k h=>(by cases h),fun k h=>(by cases h),fun a h=>(by cases h)⟩
 rw [List.nil_append] at this
 exact this
theorem V1 {i j:Shape} (hi:QF i) (hj:QF j):overIt (i,columns i) (j,columns j)=true ↔ ∃ a b,a ∈ i.cells/\b ∈ j.cells/\a.1=b.1/\a.2.1=b.2.1/\b.2.2 < a.2.2:=by
 unfold overIt overBy
 dsimp only
 rw [Bool.and_eq_true,List.any_eq_true]
 constructor
 ·rintro ⟨_,a,ha,h⟩
  rw [List.any_eq_true] at h
  obtain ⟨k,hk,h⟩:=h
  simp only [Bool.and_eq_true,beq_iff_eq,decide_eq_true_eq] at h
  exact ⟨_,_,(JM i).hi a (List.mem_filter.mp ha).1,(JM j).lo k (List.mem_filter.mp hk).1,h.1,h.2.1,h.2.2⟩
 ·rintro ⟨a,b,ha,hb,e1,e2,e3⟩
  have ba:=hi.bx a ha
  have bb:=hj.bx b hb
  obtain ⟨ka,hka,a1,a2,a3,a4⟩:=(JM i).al a ha
  obtain ⟨kb,hkb,b1,b2,b3,b4⟩:=(JM j).al b hb
  refine ⟨?_,ka,List.mem_filter.mpr ⟨hka,?_⟩,List.any_eq_true.mpr ⟨kb,List.mem_filter.mpr ⟨hkb,?_⟩,?_⟩⟩
  ·unfold mayBeOver
   simp only [Bool.and_eq_true,decide_eq_true_eq]
   omega
  ·unfold inBox
   simp only [Bool.and_eq_true,decide_eq_true_eq]
   omega
  ·unfold inBox
   simp only [Bool.and_eq_true,decide_eq_true_eq]
   omega
  ·simp only [Bool.and_eq_true,beq_iff_eq,decide_eq_true_eq]
   omega
theorem Wg {i j:Shape} (hi:QF i) (hj:QF j):liesOn i j=true ↔ ∃ s,s ∈ j.cells/\above s ∈ i.cells:=by
 unfold liesOn
 rw [Bool.and_eq_true,List.any_eq_true]
 constructor
 ·rintro ⟨_,s,h1,h2⟩
  exact ⟨s,h1,List.contains_iff_mem.mp h2⟩
 ·rintro ⟨s,h1,h2⟩
  refine ⟨?_,s,h1,List.contains_iff_mem.mpr h2⟩
  have a:=hj.bx s h1
  have b:=hi.bx _ h2
  unfold above at b
  unfold meet
  simp only [Bool.and_eq_true,decide_eq_true_eq] at b ⊢
  omega
def Own (c:Catalogue) (ls:List Line) (i:Nat) (q:P3):Prop:=∃ l,ls[i]? = some l/\q ∈ (Bg c l).map (·.1)
theorem Ec {c:Catalogue} {ls:List Line} {i:Nat} {l:Line} (h:ls[i]? = some l) {a:Spot}:Own c ls i (up a) ↔ a ∈ (l.shape c).cells:=by
 unfold Own
 show _ ↔ a ∈ Line.cells c l
 constructor
 ·rintro ⟨l',h',hq⟩
  rw [h] at h'
  cases h'
  rw [Du] at hq
  obtain ⟨b,hb,e⟩:=List.mem_map.mp hq
  rw [<- HY e]; exact hb
 ·intro ha
  exact ⟨l,h,by rw [Du]; exact List.mem_map_of_mem ha⟩
theorem V0 {c:Catalogue} {ls:List Line} {i:Nat} {q:P3} (h:Own c ls i q):∃ a:Spot,q=up a:=by
 obtain ⟨l,_,hq⟩:=h
 rw [Du] at hq
 obtain ⟨b,_,e⟩:=List.mem_map.mp hq
 exact ⟨b,e.symm⟩
section
variable {c:Catalogue} {b:Build}
def shp (c:Catalogue) (b:Build):List ((Shape × List Column) × Nat):=((b.shapes c).map fun (x:Shape)=>(x,columns x)).zipIdx
theorem Ut {x:(Shape × List Column) × Nat}:x ∈ shp c b ↔ ∃ l,b.lines[x.2]? = some l/\x.1=(l.shape c,columns (l.shape c)):=by
 unfold shp Build.shapes
 rw [List.mem_zipIdx_iff_getElem?]
 rw [List.getElem?_map,List.getElem?_map]
 cases b.lines[x.2]? with
 | none=>simp
 | some l=>simp [eq_comm]
theorem afE {i:Nat} {l:Line} (h:b.lines[i]? = some l):(shp c b)[i]? = some ((l.shape c,columns (l.shape c)),i):=by
 unfold shp Build.shapes
 rw [List.getElem?_zipIdx,List.getElem?_map,List.getElem?_map,h]
 simp
theorem afk (hf:∀ l ∈ b.lines,Full (l.of c)) {i j:Nat} (hi:i < b.lines.length):j ∈ (tower c b).below i ↔ j < b.lines.length/\i ≠ j/\∃ q r,Own c b.lines i q/\Own c b.lines j r/\q.1=r.1/\q.2.1=r.2.1/\r.2.2 < q.2.2:=by
 have hli:b.lines[i]? = some b.lines[i]:=List.getElem?_eq_getElem hi
 have e:(tower c b).below i=((shp c b).filter fun y=>i != y.2 && overIt ((b.lines[i]).shape c,columns ((b.lines[i]).shape c)) y.1).map (·.2):=by
  unfold Tower.below tower
  dsimp only
  rw [List.getD_eq_getElem?_getD,List.getElem?_map]
  show ((shp c b)[i]?.map _).getD [] = _
  rw [afE hli]
  rfl
 rw [e,List.mem_map]
 constructor
 ·rintro ⟨y,hy,rfl⟩
  rw [List.mem_filter,Bool.and_eq_true,bne_iff_ne] at hy
  obtain ⟨hm,hne,ho⟩:=hy
  obtain ⟨l,hl,e2⟩:=Ut.mp hm
  rw [e2] at ho
  have hlm:l ∈ b.lines:=List.mem_of_getElem? hl
  obtain ⟨a,d,ha,hd,h1,h2,h3⟩:=(V1 (Cg (hf _ (List.getElem_mem hi))) (Cg (hf l hlm))).mp ho
  refine ⟨?_,hne,up a,up d,(Ec hli).mpr ha,(Ec hl).mpr hd,?_,?_,?_⟩
  ·exact (List.getElem?_eq_some_iff.mp hl).1
  ·unfold up; simp; omega
  ·unfold up; simp; omega
  ·unfold up; simp; omega
 ·rintro ⟨hj,hne,q,r,hq,hr,h1,h2,h3⟩
  have hlj:b.lines[j]? = some b.lines[j]:=List.getElem?_eq_getElem hj
  refine ⟨((b.lines[j].shape c,columns (b.lines[j].shape c)),j),?_,rfl⟩
  rw [List.mem_filter,Bool.and_eq_true,bne_iff_ne]
  refine ⟨Ut.mpr ⟨_,hlj,rfl⟩,hne,?_⟩
  obtain ⟨a,rfl⟩:=V0 hq
  obtain ⟨d,rfl⟩:=V0 hr
  unfold up at h1 h2 h3
  simp at h1 h2 h3
  exact (V1 (Cg (hf _ (List.getElem_mem hi))) (Cg (hf _ (List.getElem_mem hj)))).mpr ⟨a,d,(Ec hli).mp hq,(Ec hlj).mp hr,by omega,by omega,by omega⟩
theorem agn (hf:∀ l ∈ b.lines,Full (l.of c)) {i:Nat} (hi:i < b.lines.length):(tower c b).hold.getD i false=true ↔ (∃ q,Own c b.lines i q/\q.2.2=0) \/ ∃ q j,Own c b.lines i q/\Own c b.lines j (mv q 0 0 (-1))/\j ≠ i:=by
 have hli:b.lines[i]? = some b.lines[i]:=List.getElem?_eq_getElem hi
 have e:(tower c b).hold.getD i false=(((b.lines[i].shape c).cells.any fun (p:Spot)=>p.2.2 == 0) || (shp c b).any fun y=>i != y.2 && liesOn (b.lines[i].shape c) y.1.1):=by
  unfold tower
  dsimp only
  rw [List.getD_eq_getElem?_getD,List.getElem?_map]
  show ((shp c b)[i]?.map _).getD false=_
  rw [afE hli]
  rfl
 rw [e,Bool.or_eq_true,List.any_eq_true,List.any_eq_true]
 constructor
 ·rintro (⟨a,ha,h⟩ | ⟨y,hy,h⟩)
  ·exact .inl ⟨up a,(Ec hli).mpr ha,by unfold up; simp at h ⊢; omega⟩
  ·rw [Bool.and_eq_true,bne_iff_ne] at h
   obtain ⟨l,hl,e2⟩:=Ut.mp hy
   rw [e2] at h
   obtain ⟨s,h1,h2⟩:=(Wg (Cg (hf _ (List.getElem_mem hi))) (Cg (hf l (List.mem_of_getElem? hl)))).mp h.2
   refine .inr ⟨up (above s),y.2,(Ec hli).mpr h2,?_,fun z=>h.1 z.symm⟩
   have e3:mv (up (above s)) 0 0 (-1)=up s:=by
    unfold mv up above
    simp
    omega
   rw [e3]
   exact (Ec hl).mpr h1
 ·rintro (⟨q,hq,h⟩ | ⟨q,j,hq,hr,hne⟩)
  ·obtain ⟨a,rfl⟩:=V0 hq
   refine .inl ⟨a,(Ec hli).mp hq,?_⟩
   unfold up at h
   simp at h ⊢
   omega
  ·obtain ⟨a,rfl⟩:=V0 hq
   obtain ⟨d,e3⟩:=V0 hr
   rw [e3] at hr
   have hj:j < b.lines.length:=by
    obtain ⟨l,hl,_⟩:=hr
    exact (List.getElem?_eq_some_iff.mp hl).1
   have hlj:b.lines[j]? = some b.lines[j]:=List.getElem?_eq_getElem hj
   refine .inr ⟨((b.lines[j].shape c,columns (b.lines[j].shape c)),j),Ut.mpr ⟨_,hlj,rfl⟩,?_⟩
   rw [Bool.and_eq_true,bne_iff_ne]
   refine ⟨fun z=>hne z.symm,(Wg (Cg (hf _ (List.getElem_mem hi))) (Cg (hf _ (List.getElem_mem hj)))).mpr ⟨d,(Ec hlj).mp hr,?_⟩⟩
   have e4:above d=a:=by
    apply HY
    obtain ⟨a1,a2,a3⟩:=a
    obtain ⟨d1,d2,d3⟩:=d
    unfold mv up at e3
    unfold up above
    simp only [Prod.mk.injEq] at e3 ⊢
    omega
   rw [e4]
   exact (Ec hli).mp hq
end
inductive Trans (R:Nat->Nat->Prop):Nat->Nat->Prop where
 | one {i j:Nat}:R i j->Trans R i j
 | more {i j k:Nat}:Trans R i j->R j k->Trans R i k
theorem Trans.trans {R:Nat->Nat->Prop} {i j k:Nat} (h:Trans R i j) (g:Trans R j k):Trans R i k:=by
 induction g with
 | one r=>exact .more h r
 | more _ r ih=>exact .more ih r
section
variable (t:Tower)
def Hw (i j:Nat):Prop:=j ∈ t.below i
theorem Wb:∀ (l:List Nat) (a:Array Bool) (j:Nat),(l.foldl (fun (b:Array Bool) (j:Nat)=>b.setIfInBounds j true) a).size=a.size/\((l.foldl (fun (b:Array Bool) (j:Nat)=>b.setIfInBounds j true) a).getD j false=true ↔ a.getD j false=true \/ (j ∈ l/\j < a.size))
 | [],a,j=>by simp
 | x :: l,a,j=>by
  rw [List.foldl_cons]
  obtain ⟨h1,h2⟩:=Wb l (a.setIfInBounds x true) j
  refine ⟨by rw [h1]; simp,?_⟩
  rw [h2]
  have e:(a.setIfInBounds x true).getD j false=true ↔ a.getD j false=true \/ (j=x/\j < a.size):=by
   simp only [Array.getD_eq_getD_getElem?,Array.getElem?_setIfInBounds]
   by_cases q:x=j
   ·subst q
    by_cases z:x < a.size
    ·simp [z]
    ·simp [z]
   ·rw [if_neg q]
    constructor
    ·exact .inl
    ·rintro (h | h)
     ·exact h
     ·exact absurd h.1.symm q
  rw [e,List.mem_cons]
  simp
  constructor
  ·rintro ((h | h) | h)
   ·exact .inl h
   ·exact .inr ⟨.inl h.1,h.2⟩
   ·exact .inr ⟨.inr h.1,h.2⟩
  ·rintro (h | ⟨h | h,g⟩)
   ·exact .inl (.inl h)
   ·exact .inl (.inr ⟨h,g⟩)
   ·exact .inr ⟨h,g⟩
theorem Wa:∀ (l:List Nat) (a:Array Bool) (j:Nat),((l.foldl (fun (a:Array Bool) (i:Nat)=>(t.below i).foldl (fun (b:Array Bool) (j:Nat)=>b.setIfInBounds j true) a) a).getD j false=true ↔ a.getD j false=true \/ ((∃ i ∈ l,j ∈ t.below i)/\j < a.size))
 | [],a,j=>by simp
 | x :: l,a,j=>by
  rw [List.foldl_cons,Wa l]
  obtain ⟨h1,h2⟩:=Wb (t.below x) a j
  rw [h2,h1]
  constructor
  ·rintro ((h | h) | ⟨⟨i,h,g⟩,k⟩)
   ·exact .inl h
   ·exact .inr ⟨⟨x,List.mem_cons_self ..,h.1⟩,h.2⟩
   ·exact .inr ⟨⟨i,List.mem_cons_of_mem _ h,g⟩,k⟩
  ·rintro (h | ⟨⟨i,h,g⟩,k⟩)
   ·exact .inl (.inl h)
   ·rcases List.mem_cons.mp h with rfl | h
    ·exact .inl (.inr ⟨g,k⟩)
    ·exact .inr ⟨⟨i,h,g⟩,k⟩
theorem Th {i:Nat} (hb:∀ i j,j ∈ t.below i->j < t.n):∀ (f:Nat) (l had:List Nat),had.Nodup->(∀ a ∈ had,a < t.n/\Trans (Hw t) i a)->(∀ a ∈ l,a ∈ had)->(∀ a ∈ had,a ∈ l \/ ∀ b ∈ t.below a,b ∈ had)->t.n <= f + had.length ->
  (∀ a ∈ had,a ∈ t.downFrom f l had)/\(∀ a ∈ t.downFrom f l had,Trans (Hw t) i a)/\∀ a ∈ t.downFrom f l had,∀ b ∈ t.below a,b ∈ t.downFrom f l had
 | 0,l,had,hn,hr,hl,hc,hf=>by
  rw [Tower.downFrom]
  refine ⟨fun a ha=>ha,fun a ha=>(hr a ha).2,fun a ha b hb'=>?_⟩
  have:=Vd (R:=had) (ks:=List.range t.n) hn (fun q hq=>List.mem_range.mpr (hr q hq).1) (by rw [List.length_range]; omega) List.nodup_range
  exact this b (List.mem_range.mpr (hb a b hb'))
 | f + 1,l,had,hn,hr,hl,hc,hf=>by
  rw [Tower.downFrom]
  generalize hnew:((List.range t.n).filter fun (j:Nat)=>!had.contains j && (l.foldl (fun (a:Array Bool) (i:Nat)=>(t.below i).foldl (fun (b:Array Bool) (j:Nat)=>b.setIfInBounds j true) a) (Array.replicate t.n false)).getD j false)=new
  have UG:∀ j,j ∈ new ↔ j < t.n/\j ∉ had/\∃ x ∈ l,j ∈ t.below x:=by
   intro j
   rw [<- hnew,List.mem_filter,Bool.and_eq_true,Wa t l,List.mem_range,Bool.not_eq_true']
   constructor
   ·rintro ⟨h1,h2,h3⟩
    refine ⟨h1,fun z=>(by rw [List.contains_iff_mem.mpr z] at h2; cases h2),?_⟩
    rcases h3 with h3 | h3
    ·simp [Array.getD_eq_getD_getElem?,Array.getElem?_replicate] at h3
     split at h3 <;> simp at h3
    ·exact h3.1
   ·rintro ⟨h1,h2,h3⟩
    refine ⟨h1,?_,.inr ⟨h3,by simpa using h1⟩⟩
    cases e:had.contains j with
    | false=>rfl
    | true=>exact absurd (List.contains_iff_mem.mp e) h2
  have aiT:new.Nodup:=by
   rw [<- hnew]
   exact List.Nodup.sublist List.filter_sublist List.nodup_range
  split
  ·rename_i he
   have he':new=[]:=List.isEmpty_iff.mp he
   refine ⟨fun a ha=>ha,fun a ha=>(hr a ha).2,fun a ha b hb'=>?_⟩
   rcases hc a ha with h | h
   ·refine Classical.byContradiction fun z=>?_
    have:b ∈ new:=(UG b).mpr ⟨hb a b hb',z,a,h,hb'⟩
    rw [he'] at this
    cases this
   ·exact h b hb'
  ·rename_i he
   have hpos:0 < new.length:=List.length_pos_iff.mpr fun z=>he (by rw [z]; rfl)
   have ih:=Th hb f new (had ++ new) (by
    rw [List.nodup_append]
    refine ⟨hn,aiT,fun a ha b hb'=>?_⟩
    rintro rfl
    exact ((UG a).mp hb').2.1 ha) (fun a ha=>by
    rcases List.mem_append.mp ha with ha | ha
    ·exact hr a ha
    ·obtain ⟨h1,h2,x,hx,h3⟩:=(UG a).mp ha
     exact ⟨h1,.more (hr x (hl x hx)).2 h3⟩) (fun a ha=>List.mem_append_right _ ha) (fun a ha=>by
    rcases List.mem_append.mp ha with ha | ha
    ·refine .inr fun b hb'=>?_
     rcases hc a ha with h | h
     ·refine Classical.byContradiction fun z=>?_
      have:b ∈ new:=(UG b).mpr ⟨hb a b hb',fun q=>z (List.mem_append_left _ q),a,h,hb'⟩
      exact z (List.mem_append_right _ this)
     ·exact List.mem_append_left _ (h b hb')
    ·exact .inl ha) (by rw [List.length_append]; omega)
   exact ⟨fun a ha=>ih.1 a (List.mem_append_left _ ha),ih.2⟩
theorem Yg (hb:∀ i j,j ∈ t.below i->j < t.n) (hd:∀ i,(t.below i).Nodup) {i j:Nat}:j ∈ t.under i ↔ Trans (Hw t) i j:=by
 unfold Tower.under
 have h:=Th t (i:=i) hb t.n (t.below i) (t.below i) (hd i) (fun a ha=>⟨hb i a ha,.one ha⟩) (fun a ha=>ha) (fun a ha=>.inl ha) (Nat.le_add_right _ _)
 constructor
 ·exact h.2.1 j
 ·intro hr
  induction hr with
  | one r=>exact h.1 _ r
  | more _ r ih=>exact h.2.2 _ ih _ r
end
def Via (R:Nat->Nat->Prop):Nat->Nat->Nat->Prop
 | 0,i,j=>R i j
 | k + 1,i,j=>Via R k i j \/ (Via R k i k/\Via R k k j)
theorem Yb {R:Nat->Nat->Prop}:∀ (k:Nat) {i m j:Nat},m < k->Via R k i m->Via R k m j->Via R k i j
 | 0,i,m,j,h,_,_=>by omega
 | k + 1,i,m,j,h,h1,h2=>by
  have ih:m < k->∀ {i j},Via R k i m->Via R k m j->Via R k i j:=fun hm=>Yb k hm
  rcases Nat.lt_or_ge m k with hm | hm
  ·rcases h1 with h1 | ⟨h1,h1'⟩
   ·rcases h2 with h2 | ⟨h2,h2'⟩
    ·exact .inl (ih hm h1 h2)
    ·exact .inr ⟨ih hm h1 h2,h2'⟩
   ·rcases h2 with h2 | ⟨h2,h2'⟩
    ·exact .inr ⟨h1,ih hm h1' h2⟩
    ·exact .inr ⟨h1,h2'⟩
  ·have e:m=k:=by omega
   subst e
   have h1':Via R m i m:=by
    rcases h1 with h1 | ⟨h1,_⟩ <;> exact h1
   have h2':Via R m m j:=by
    rcases h2 with h2 | ⟨_,h2⟩ <;> exact h2
   exact .inr ⟨h1',h2'⟩
theorem Zw {R:Nat->Nat->Prop}:∀ (k:Nat) {i j:Nat},R i j->Via R k i j
 | 0,_,_,h=>h
 | k + 1,_,_,h=>.inl (Zw k h)
theorem agU {R:Nat->Nat->Prop} {n:Nat} (hb:∀ i j,R i j->j < n) {i j:Nat}:Via R n i j ↔ Trans R i j:=by
 constructor
 ·have:∀ k i j,Via R k i j->Trans R i j:=by
   intro k
   induction k with
   | zero=>exact fun i j h=>.one h
   | succ k ih =>
    rintro i j (h | ⟨h,g⟩)
    ·exact ih i j h
    ·exact (ih _ _ h).trans (ih _ _ g)
  exact this n i j
 ·intro h
  induction h with
  | one r=>exact Zw n r
  | @more j k h r ih =>
   have hj:j < n:=by
    cases h with
    | one r=>exact hb _ _ r
    | more _ r=>exact hb _ _ r
   exact Yb n hj ih (Zw n r)
def col (q:P3):Int × Int:=(q.1,q.2.1)
def Sw (pre:List (P3 × Nat)) (i j:Nat):Prop:=∃ l1 q l2 r,pre=l1 ++ (q,i) :: l2/\(r,j) ∈ l1/\col r=col q
theorem aiy {i j:Nat}:¬ Sw [] i j:=by
 rintro ⟨l1,q,l2,r,e,_⟩
 cases l1 <;> cases e
theorem ag3 {pre:List (P3 × Nat)} {q:P3} {k i j:Nat}:Sw (pre ++ [(q,k)]) i j ↔ Sw pre i j \/ (i=k/\∃ r,(r,j) ∈ pre/\col r=col q):=by
 constructor
 ·rintro ⟨l1,q',l2,r,e,hr,hc⟩
  rcases List.eq_nil_or_concat l2 with rfl | ⟨l3,x,rfl⟩
  ·have h:=List.append_inj' e rfl
   have e2:((q,k):P3 × Nat)=(q',i):=by have:=h.2; simpa using this
   cases e2
   rw [h.1]
   exact .inr ⟨rfl,r,hr,hc⟩
  ·have e':pre ++ [(q,k)] = (l1 ++ (q',i) :: l3) ++ [x]:=by rw [e]; simp
   have h:=List.append_inj' e' rfl
   exact .inl ⟨l1,q',l3,r,h.1,hr,hc⟩
 ·rintro (⟨l1,q',l2,r,rfl,hr,hc⟩ | ⟨rfl,r,hr,hc⟩)
  ·exact ⟨l1,q',l2 ++ [(q,k)],r,by simp,hr,hc⟩
  ·exact ⟨pre,q,[],r,by simp,hr,hc⟩
def lt3 (a b:P3):Prop:=a.1 < b.1 \/ (a.1=b.1/\(a.2.1 < b.2.1 \/ (a.2.1=b.2.1/\a.2.2 < b.2.2)))
theorem afR {α:Type} {R:α->α->Prop} {l1 l2:List α} {x y:α} (h:(l1 ++ x :: l2).Pairwise R) (hy:y ∈ l1):R y x:=by
 rw [List.pairwise_append] at h
 exact h.2.2 y hy x (List.mem_cons_self ..)
theorem aek {pre:List (P3 × Nat)} (h:pre.Pairwise fun a b=>lt3 a.1 b.1) {i j:Nat}:Sw pre i j ↔ ∃ q r,(q,i) ∈ pre/\(r,j) ∈ pre/\q.1=r.1/\q.2.1=r.2.1/\r.2.2 < q.2.2:=by
 constructor
 ·rintro ⟨l1,q,l2,r,rfl,hr,hc⟩
  refine ⟨q,r,by simp,List.mem_append_left _ hr,?_⟩
  have:=afR h hr
  unfold lt3 at this
  unfold col at hc
  simp only [Prod.mk.injEq] at hc this
  omega
 ·rintro ⟨q,r,hq,hr,h1,h2,h3⟩
  obtain ⟨l1,l2,rfl⟩:=List.append_of_mem hq
  refine ⟨l1,q,l2,r,rfl,?_,by unfold col; rw [h1,h2]⟩
  rcases List.mem_append.mp hr with hr | hr
  ·exact hr
  ·exfalso
   rcases List.mem_cons.mp hr with e | hr
   ·cases e
    omega
   ·rw [List.pairwise_append,List.pairwise_cons] at h
    have:=h.2.1.1 _ hr
    unfold lt3 at this
    dsimp only at this
    omega
structure RQ (pre:List (P3 × Nat)) (f:Int × Int->Nat):Prop where
 bit:∀ c j,(f c).testBit j=true ↔ ∃ r,(r,j) ∈ pre/\col r=c
structure abX (n:Nat) (pre:List (P3 × Nat)) (U:List Nat):Prop where
 len:U.length=n
 bit:∀ i,i < n->∀ j,(U.getD i 0).testBit j=true ↔ Sw pre i j
theorem afF:RQ [] (fun _=>0):=⟨fun c j=>by simp⟩
theorem agZ (n:Nat):abX n [] (List.replicate n 0):=⟨by simp,fun i hi j=>by
 have e:(List.replicate n 0).getD i 0=0:=by rw [List.getD_eq_getElem?_getD,List.getElem?_replicate]; split <;> rfl
 rw [e]
 simp
 exact aiy⟩
theorem aes {pre:List (P3 × Nat)} {f:Int × Int->Nat} {q:P3} {k:Nat} (h:RQ pre f):RQ (pre ++ [(q,k)]) (fun c=>if c=col q then f (col q) ||| 2 ^ k else f c):=⟨fun c j=>by
 show (if c=col q then f (col q) ||| 2 ^ k else f c).testBit j=true ↔ _
 by_cases e:c=col q
 ·rw [if_pos e,Nat.testBit_or,Bool.or_eq_true,h.bit,Nat.testBit_two_pow,decide_eq_true_eq]
  constructor
  ·rintro (⟨r,h1,h2⟩ | rfl)
   ·exact ⟨r,List.mem_append_left _ h1,h2.trans e.symm⟩
   ·exact ⟨q,by simp,e.symm⟩
  ·rintro ⟨r,h1,h2⟩
   rcases List.mem_append.mp h1 with h1 | h1
   ·exact .inl ⟨r,h1,h2.trans e⟩
   ·have:=List.mem_singleton.mp h1
    cases this
    exact .inr rfl
 ·rw [if_neg e,h.bit]
  constructor
  ·rintro ⟨r,h1,h2⟩
   exact ⟨r,List.mem_append_left _ h1,h2⟩
  ·rintro ⟨r,h1,h2⟩
   rcases List.mem_append.mp h1 with h1 | h1
   ·exact ⟨r,h1,h2⟩
   ·have:=List.mem_singleton.mp h1
    cases this
    exact absurd h2.symm e⟩
theorem abx {U:List Nat} {i j v:Nat} (hi:i < U.length):(U.set i v).getD j 0=if i=j then v else U.getD j 0:=by
 rw [List.getD_eq_getElem?_getD,List.getD_eq_getElem?_getD]
 by_cases e:i=j
 ·subst e
  rw [if_pos rfl,List.getElem?_set_self hi]
  rfl
 ·rw [if_neg e,List.getElem?_set_ne e]
theorem afu {n:Nat} {pre:List (P3 × Nat)} {U:List Nat} {f:Int × Int->Nat} {q:P3} {k:Nat} (hk:k < n) (hu:abX n pre U) (hs:RQ pre f):abX n (pre ++ [(q,k)]) (U.set k (U.getD k 0 ||| f (col q))):=⟨by rw [List.length_set]; exact hu.len,fun i hi j=>by
 rw [abx (by rw [hu.len]; exact hk),ag3]
 by_cases e:k=i
 ·subst e
  rw [if_pos rfl,Nat.testBit_or,Bool.or_eq_true,hu.bit k hk,hs.bit]
  constructor
  ·rintro (h | h)
   ·exact .inl h
   ·exact .inr ⟨rfl,h⟩
  ·rintro (h | h)
   ·exact .inl h
   ·exact .inr h.2
 ·rw [if_neg e,hu.bit i hi]
  constructor
  ·exact .inl
  ·rintro (h | h)
   ·exact h
   ·exact absurd h.1.symm e⟩
def Tf (m i:Nat):Nat:=m - (m &&& 2 ^ i)
theorem ad4 (m i:Nat):m &&& 2 ^ i=if m.testBit i=true then 2 ^ i else 0:=by
 apply Nat.eq_of_testBit_eq
 intro j
 rw [Nat.testBit_and,Nat.testBit_two_pow]
 by_cases e:i=j
 ·subst e
  cases h:m.testBit i <;> simp
 ·cases h:m.testBit i <;> simp [e,Nat.testBit_two_pow]
theorem ae0 (H:∀ m n:Nat,(m ||| n) + (m &&& n)=m + n) (m i j:Nat):(Tf m i).testBit j=(m.testBit j && decide (j ≠ i)):=by
 unfold Tf
 rw [ad4]
 cases h:m.testBit i with
 | false =>
  rw [if_neg (by simp),Nat.sub_zero]
  by_cases e:j=i
  ·subst e
   simp [h]
  ·simp [e]
 | true =>
  rw [if_pos rfl]
  have e1:(m ^^^ 2 ^ i) ||| 2 ^ i=m:=by
   apply Nat.eq_of_testBit_eq
   intro j
   rw [Nat.testBit_or,Nat.testBit_xor,Nat.testBit_two_pow]
   by_cases e:i=j
   ·subst e
    simp [h]
   ·simp [e]
  have e2:(m ^^^ 2 ^ i) &&& 2 ^ i=0:=by
   apply Nat.eq_of_testBit_eq
   intro j
   rw [Nat.testBit_and,Nat.testBit_xor,Nat.testBit_two_pow]
   by_cases e:i=j
   ·subst e
    simp [h]
   ·simp [e]
  have e3:=H (m ^^^ 2 ^ i) (2 ^ i)
  rw [e1,e2] at e3
  have e4:m - 2 ^ i=m ^^^ 2 ^ i:=by omega
  rw [e4,Nat.testBit_xor,Nat.testBit_two_pow]
  by_cases e:i=j
  ·subst e
   simp [h]
  ·have e':¬ j=i:=fun z=>e z.symm
   simp [e,e']
structure Js (n:Nat) (R:Nat->Nat->Prop) (k:Nat) (U:List Nat):Prop where
 len:U.length=n
 bit:∀ i,i < n->∀ j,(U.getD i 0).testBit j=true ↔ Via R k i j
structure TF (n:Nat) (R:Nat->Nat->Prop) (k l:Nat) (U:List Nat):Prop where
 len:U.length=n
 bit:∀ i,i < n->∀ j,(U.getD i 0).testBit j=true ↔ (if i < l then Via R (k + 1) i j else Via R k i j)
def Uy (k:Nat) (U:List Nat) (l:Nat):List Nat:=if (U.getD l 0).testBit k then U.set l (U.getD l 0 ||| U.getD k 0) else U
theorem Js.start {n k:Nat} {R:Nat->Nat->Prop} {U:List Nat} (h:Js n R k U):TF n R k 0 U:=⟨h.len,fun i hi j=>by rw [if_neg (by omega)]; exact h.bit i hi j⟩
theorem TF.fin {n k:Nat} {R:Nat->Nat->Prop} {U:List Nat} (h:TF n R k n U):Js n R (k + 1) U:=⟨h.len,fun i hi j=>by rw [h.bit i hi j,if_pos hi]⟩
theorem afs {R:Nat->Nat->Prop} {k j:Nat}:Via R (k + 1) k j ↔ Via R k k j:=by
 constructor
 ·rintro (h | ⟨_,h⟩) <;> exact h
 ·exact .inl
theorem TF.step {n k l:Nat} {R:Nat->Nat->Prop} {U:List Nat} (hk:k < n) (hl:l < n) (h:TF n R k l U):TF n R k (l + 1) (Uy k U l):=by
 have alg:∀ j,(U.getD k 0).testBit j=true ↔ Via R k k j:=fun j=>by
  rw [h.bit k hk j]
  split
  ·exact afs
  ·exact Iff.rfl
 have aha:∀ j,(U.getD l 0).testBit j=true ↔ Via R k l j:=fun j=>by
  rw [h.bit l hl j,if_neg (by omega)]
 unfold Uy
 split
 ·rename_i hb
  refine ⟨by rw [List.length_set]; exact h.len,fun i hi j=>?_⟩
  rw [abx (by rw [h.len]; exact hl)]
  by_cases e:l=i
  ·subst e
   rw [if_pos rfl,if_pos (by omega),Nat.testBit_or,Bool.or_eq_true,aha,alg]
   constructor
   ·rintro (g | g)
    ·exact .inl g
    ·exact .inr ⟨(aha k).mp hb,g⟩
   ·rintro (g | ⟨_,g⟩)
    ·exact .inl g
    ·exact .inr g
  ·rw [if_neg e,h.bit i hi j]
   by_cases q:i < l
   ·rw [if_pos q,if_pos (by omega)]
   ·rw [if_neg q,if_neg (by omega)]
 ·rename_i hb
  refine ⟨h.len,fun i hi j=>?_⟩
  by_cases e:l=i
  ·subst e
   rw [if_pos (by omega),aha]
   constructor
   ·exact .inl
   ·rintro (g | ⟨g,_⟩)
    ·exact g
    ·exact absurd ((aha k).mpr g) hb
  ·rw [h.bit i hi j]
   by_cases q:i < l
   ·rw [if_pos q,if_pos (by omega)]
   ·rw [if_neg q,if_neg (by omega)]
theorem afc {t:Tower} (hb:∀ i j,j ∈ t.below i->j < t.n) (hd:∀ i,(t.below i).Nodup) {U:List Nat} (h:Js t.n (Hw t) t.n U) {i:Nat} (hi:i < t.n):((t.under i).contains i)=(U.getD i 0).testBit i:=by
 rw [Bool.eq_iff_iff,List.contains_iff_mem,Yg t hb hd,h.bit i hi,agU (R:=Hw t) fun i j h=>hb i j h]
def El:Bytes->Option (List Place)
 | []=>some []
 | c :: r=>match placeOf c with
  | none=>none
  | some p=>match El r with
   | none=>none
   | some l=>some (p :: l)
theorem Vz:∀ (w:Nat) (row:Bytes),Gn w row=if row.length=w then El row else none
 | 0,[]=>rfl
 | 0,_ :: _=>rfl
 | _ + 1,[]=>rfl
 | w + 1,c :: r=>by
  rw [Gn,El,Vz w r,List.length_cons]
  cases placeOf c with
  | none=>simp
  | some p =>
   by_cases e:r.length=w
   ·rw [if_pos e,if_pos (by omega)]
    all_goals (cases El r <;> rfl)
   ·rw [if_neg e,if_neg (by omega)]
theorem Rg:∀ (a b:Bytes),El (a ++ b)=match El a with
  | none=>none
  | some x=>match El b with
   | none=>none
   | some y=>some (x ++ y)
 | [],b=>by
  rw [List.nil_append,El]
  cases El b <;> rfl
 | c :: a,b=>by
  rw [List.cons_append,El,El,Rg a b]
  cases placeOf c with
  | none=>rfl
  | some p =>
   cases El a with
   | none=>rfl
   | some x =>
    cases El b <;> rfl
theorem Rf:∀ {a:Bytes} {l:List Place},El a=some l->l.length=a.length
 | [],l,h=>by cases h; rfl
 | c :: a,l,h=>by
  rw [El] at h
  cases e:placeOf c with
  | none=>rw [e] at h; cases h
  | some p =>
   rw [e] at h
   cases e2:El a with
   | none=>rw [e2] at h; cases h
   | some x =>
    rw [e2] at h
    cases h
    rw [List.length_cons,List.length_cons,Rf e2]
def CG (w:Nat):List Bytes->Option (List (List Place))
 | []=>some []
 | r :: rs=>match Gn w r with
  | none=>none
  | some l=>match CG w rs with
   | none=>none
   | some ls=>some (l :: ls)
theorem Oi (w:Nat):∀ (a b:List Bytes),CG w (a ++ b)=match CG w a with
  | none=>none
  | some x=>match CG w b with
   | none=>none
   | some y=>some (x ++ y)
 | [],b=>by
  rw [List.nil_append,CG]
  cases CG w b <;> rfl
 | c :: a,b=>by
  rw [List.cons_append,CG,CG,Oi w a b]
  cases Gn w c with
  | none=>rfl
  | some p =>
   cases CG w a with
   | none=>rfl
   | some x =>
    cases CG w b <;> rfl
theorem S5 (w:Nat):∀ (n:Nat) (rs:List Bytes),Cy w n rs=if n <= rs.length then (CG w (rs.take n)).map (fun ls=>(ls,rs.drop n)) else none
 | 0,rs=>by rw [Cy,if_pos (Nat.zero_le _)]; rfl
 | n + 1,[]=>by rw [Cy,if_neg (by simp)]
 | n + 1,r :: rs=>by
  rw [Cy,S5 w n rs,List.take_succ_cons,CG,List.drop_succ_cons,List.length_cons]
  cases Gn w r with
  | none=>simp
  | some l =>
   by_cases e:n <= rs.length
   ·rw [if_pos e,if_pos (by omega)]
    cases CG w (rs.take n) <;> rfl
   ·rw [if_neg e,if_neg (by omega)]
theorem Oh {w:Nat}:∀ {rs:List Bytes} {ls:List (List Place)},CG w rs=some ls->ls.flatten.length=rs.length * w
 | [],ls,h=>by cases h; simp
 | r :: rs,ls,h=>by
  rw [CG,Vz] at h
  by_cases e:r.length=w
  ·rw [if_pos e] at h
   cases e1:El r with
   | none=>rw [e1] at h; cases h
   | some l =>
    rw [e1] at h
    cases e2:CG w rs with
    | none=>rw [e2] at h; cases h
    | some x =>
     rw [e2] at h
     cases h
     rw [List.flatten_cons,List.length_append,Oh e2,Rf e1,List.length_cons,e,Nat.succ_mul,Nat.add_comm]
  ·rw [if_neg e] at h; cases h
def G7 (w d:Nat):Nat->List Place->List (P3 × Int)
 | _,[]=>[]
 | i,p :: r=>(if p.isCell=true then [(up (Ft w d i),(p.byte.toNat:Int))] else []) ++ G7 w d (i + 1) r
theorem abA (w d:Nat):∀ (a b:List Place) (i:Nat),G7 w d i (a ++ b)=G7 w d i a ++ G7 w d (i + a.length) b
 | [],b,i=>rfl
 | p :: a,b,i=>by
  rw [List.cons_append,G7,G7,abA w d a b,List.append_assoc,List.length_cons]
  congr 3
  omega
theorem Wx (w d:Nat):∀ (a:List Place) (i:Nat),(G7 w d i a).length <= a.length
 | [],i=>Nat.le_refl _
 | p :: a,i=>by
  rw [G7,List.length_append,List.length_cons]
  have:=Wx w d a (i + 1)
  by_cases e:p.isCell=true
  ·rw [if_pos e]; simp; omega
  ·rw [if_neg e]; simp; omega
theorem Zb {w d:Nat}:∀ {a:List Place} {i:Nat} {q:P3},q ∈ (G7 w d i a).map (·.1)->∃ j,i <= j/\j < i + a.length/\q=up (Ft w d j)
 | [],i,q,h=>by cases h
 | p :: a,i,q,h=>by
  rw [G7,List.map_append,List.mem_append] at h
  rcases h with h | h
  ·by_cases e:p.isCell=true
   ·rw [if_pos e] at h
    simp at h
    exact ⟨i,Nat.le_refl _,by simp,h⟩
   ·rw [if_neg e] at h; cases h
  ·obtain ⟨j,h1,h2,h3⟩:=Zb h
   exact ⟨j,by omega,by rw [List.length_cons]; omega,h3⟩
theorem aeo {w d a b:Nat} (hw:0 < w) (hd:0 < d) (h:Ft w d a=Ft w d b):a=b:=by
 unfold Ft at h
 simp only [Prod.mk.injEq] at h
 obtain ⟨h1,h2,h3⟩:=h
 have e1:=Nat.div_add_mod a w
 have e2:=Nat.div_add_mod b w
 have e3:=Nat.div_add_mod (a / w) d
 have e4:=Nat.div_add_mod (b / w) d
 have:a / w=b / w:=by rw [<- e3,<- e4,h2,h3]
 rw [<- e1,<- e2,this,h1]
theorem ac5 {w d:Nat} (hw:0 < w) (hd:0 < d) (l:List Place):up (Ft w d l.length) ∉ (G7 w d 0 l).map (·.1):=fun h=>by
 obtain ⟨j,_,h2,h3⟩:=Zb h
 have:=aeo hw hd (HY h3)
 omega
theorem Qk (w d:Nat):∀ (l:List Place) (i:Nat),entries (((List.range' i l.length).map (Ft w d)).zip l)=G7 w d i l
 | [],i=>by simp [entries,G7]
 | p :: l,i=>by
  rw [G7,List.length_cons,List.range'_succ,List.map_cons,List.zip_cons_cons]
  have ih:=Qk w d l (i + 1)
  unfold entries at ih ⊢
  rw [List.filter_cons]
  cases e:p.isCell with
  | true =>
   rw [if_pos rfl,List.map_cons,ih,if_pos rfl]
   rfl
  | false =>
   rw [if_neg Bool.false_ne_true,ih,if_neg Bool.false_ne_true]
   rfl
theorem aaq {p:Part} (hf:Full p):cellsOf p=G7 p.wide p.deep 0 p.places:=by
 unfold cellsOf
 rw [Pa,<- Qk]
 congr 2
 rw [<- List.range_eq_range']
 have:p.high * p.deep * p.wide=p.places.length:=by
  unfold Full at hf
  rw [hf,Nat.mul_comm p.wide,Nat.mul_comm (p.deep * p.wide),Nat.mul_assoc]
 rw [this]
theorem aen {w d n x:Nat} (hx:x < w):Ft w d (n * w + x)=(x,n % d,n / d):=by
 unfold Ft
 have e1:(n * w + x) % w=x:=by rw [Nat.mul_comm,Nat.mul_add_mod,Nat.mod_eq_of_lt hx]
 have e2:(n * w + x) / w=n:=by rw [Nat.mul_comm,Nat.mul_add_div (by omega),Nat.div_eq_of_lt hx,Nat.add_zero]
 rw [e1,e2]
theorem ZZ {c:UInt8} {p:Place} (h:placeOf c=some p):p.byte=c/\(p.isCell=true ↔ c ≠ 46):=by
 unfold placeOf at h
 by_cases e1:c=46
 ·rw [if_pos e1] at h; cases h; subst e1; exact ⟨rfl,by decide⟩
 rw [if_neg e1] at h
 by_cases e2:c=35
 ·rw [if_pos e2] at h; cases h; subst e2; exact ⟨rfl,by decide⟩
 rw [if_neg e2] at h
 by_cases e3:c=115
 ·rw [if_pos e3] at h; cases h; subst e3; exact ⟨rfl,by decide⟩
 rw [if_neg e3] at h
 by_cases e4:c=116
 ·rw [if_pos e4] at h; cases h; subst e4; exact ⟨rfl,by decide⟩
 rw [if_neg e4] at h
 by_cases e5:c=98
 ·rw [if_pos e5] at h; cases h; subst e5; exact ⟨rfl,by decide⟩
 rw [if_neg e5] at h
 cases h
theorem split_len {d:UInt8}:∀ {t p:Bytes},p ∈ split d t->p.length <= t.length
 | [],p,h=>by
  simp [split] at h
  subst h
  simp
 | c :: r,p,h=>by
  rw [split] at h
  by_cases e:c=d
  ·rw [if_pos e] at h
   rcases List.mem_cons.mp h with rfl | h
   ·simp
   ·have:=split_len h
    rw [List.length_cons]; omega
  ·rw [if_neg e] at h
   cases e2:split d r with
   | nil=>exact absurd e2 (Ei d r)
   | cons q qs =>
    rw [e2] at h
    rcases List.mem_cons.mp h with rfl | h
    ·have:=split_len (t:=r) (p:=q) (by rw [e2]; exact List.mem_cons_self ..)
     rw [List.length_cons,List.length_cons]; omega
    ·have:=split_len (t:=r) (p:=p) (by rw [e2]; exact List.mem_cons_of_mem _ h)
     rw [List.length_cons]; omega
def Z5 (c:Catalogue):List Bytes->Option (List Line)
 | []=>some []
 | r :: rs=>match Lf c r with
  | none=>none
  | some l=>match Z5 c rs with
   | none=>none
   | some ls=>some (l :: ls)
theorem Y5 (c:Catalogue):∀ (n:Nat) (rs:List Bytes),GX c n rs=if rs.length <= n then Z5 c rs else none
 | n,[]=>by cases n <;> rfl
 | 0,r :: rs=>by rw [GX,if_neg (by simp)]
 | n + 1,r :: rs=>by
  rw [GX,Z5,Y5 c n rs,List.length_cons]
  cases Lf c r with
  | none=>simp
  | some l =>
   by_cases e:rs.length <= n
   ·rw [if_pos e,if_pos (by omega)]
    all_goals (cases Z5 c rs <;> rfl)
   ·rw [if_neg e,if_neg (by omega)]
theorem ahr {n:Nat} {w:Bytes} (h:Gf n w=true):w.length <= n + 1/\32 ∉ w/\10 ∉ w:=by
 cases w with
 | nil=>cases h
 | cons c r =>
  have h':(isLow c && (decide (r.length <= n) && r.all isNm))=true:=h
  rw [Bool.and_eq_true,Bool.and_eq_true] at h'
  obtain ⟨h1,h2,h3⟩:=h'
  have hl:=of_decide_eq_true h2
  have key:∀ d:UInt8,(d=32 \/ d=10)->d ∉ c :: r:=fun d hd hm=>by
   rcases List.mem_cons.mp hm with rfl | hm
   ·rw [abl hd] at h1; cases h1
   ·have:=List.all_eq_true.mp h3 d hm
    rw [adI hd] at this; cases this
  exact ⟨by rw [List.length_cons]; omega,key 32 (.inl rfl),key 10 (.inr rfl)⟩
theorem bind_some {α β:Type} {f:Ps α} {g:α->Ps β} {t:Bytes} {z:β × Bytes} (h:Ai f g t=some z):∃ y t1,f t=some (y,t1)/\g y t1=some z:=by
 unfold Ai at h
 cases e:f t with
 | none=>rw [e] at h; cases h
 | some p=>rw [e] at h; exact ⟨p.1,p.2,rfl,h⟩
theorem KJ {α:Type} {x y:α} {t t':Bytes} (h:DQ x t=some (y,t')):x=y:=by
 unfold DQ at h
 cases h
 rfl
theorem QL {α:Type} {f:Ps α} {P:α->Prop} (hf:∀ t x t',f t=some (x,t')->P x):∀ (n:Nat) (t:Bytes) (l:List α) (t':Bytes),Dc f n t=some (l,t')->l.length <= n/\∀ x ∈ l,P x
 | 0,t,l,t',h=>by
  rw [Dc] at h
  dsimp only at h
  split at h
  ·cases h
  ·cases h
   exact ⟨Nat.le_refl _,fun x hx=>by cases hx⟩
 | n + 1,t,l,t',h=>by
  rw [Dc] at h
  dsimp only at h
  split at h
  ·obtain ⟨y,t1,h1,h2⟩:=bind_some h
   obtain ⟨l2,t2,h3,h4⟩:=bind_some h2
   have:=KJ h4
   subst this
   obtain ⟨a,b⟩:=QL hf n _ _ _ h3
   refine ⟨by rw [List.length_cons]; omega,fun x hx=>?_⟩
   rcases List.mem_cons.mp hx with rfl | hx
   ·exact hf _ _ _ h1
   ·exact b x hx
  ·cases h
   exact ⟨Nat.zero_le _,fun x hx=>by cases hx⟩
theorem digits_le (lo hi:Nat):∀ (f:Nat) (v:Option Nat) (t:Bytes) (n:Nat) (t':Bytes),Bv lo hi f v t=some (n,t')->n <= hi
 | 0,_,_,_,_,h=>by cases h
 | f + 1,v,t,n,t',h=>by
  unfold Bv at h
  cases e:GP lo hi v t.head? with
  | some m=>rw [e] at h; exact digits_le lo hi f _ _ _ _ h
  | none =>
   rw [e] at h
   cases v with
   | none=>cases h
   | some m =>
    dsimp only at h
    split at h
    ·rename_i q
     cases h
     exact q.2
    ·cases h
theorem agO {lo hi:Nat} {t:Bytes} {n:Nat} {t':Bytes} (h:Cw lo hi t=some (n,t')):n <= hi:=by
 obtain ⟨_,t1,_,h2⟩:=bind_some h
 exact digits_le lo hi _ _ _ _ _ h2
theorem aiZ {c:Catalogue} {t:Bytes} {l:Line} {t':Bytes} (h:J7 c t=some (l,t')):l.r <= 3:=by
 obtain ⟨_,_,_,h⟩:=bind_some h
 obtain ⟨_,_,_,h⟩:=bind_some h
 obtain ⟨_,_,_,h⟩:=bind_some h
 obtain ⟨_,_,_,h⟩:=bind_some h
 obtain ⟨_,_,_,h⟩:=bind_some h
 obtain ⟨_,_,_,h⟩:=bind_some h
 obtain ⟨r,_,hr,h⟩:=bind_some h
 obtain ⟨_,_,_,h⟩:=bind_some h
 have:=KJ h
 subst this
 exact agO hr
theorem abn {names:List Bytes}:∀ (f:Nat) (p t:Bytes) (i:Nat) (t':Bytes),BK names f p t=some (i,t')->i < names.length
 | 0,p,t,i,t',h=>by
  unfold BK at h
  split at h
  ·rename_i j e
   cases h
   exact (List.findIdx?_eq_some_iff_findIdx_eq.mp e).1
  ·cases h
 | f + 1,p,t,i,t',h=>by
  unfold BK at h
  cases t with
  | nil=>cases h
  | cons c r =>
   dsimp only at h
   by_cases g:(names.any fun (n:Bytes)=>(p ++ [c]).isPrefixOf n)=true
   ·rw [if_pos g] at h
    exact abn f _ _ _ _ h
   ·rw [if_neg g] at h
    split at h
    ·rename_i j e
     cases h
     exact (List.findIdx?_eq_some_iff_findIdx_eq.mp e).1
    ·cases h
theorem aeJ {c:Catalogue} {t:Bytes} {l:Line} {t':Bytes} (h:J7 c t=some (l,t')):l.part < c.length:=by
 obtain ⟨_,_,_,h⟩:=bind_some h
 obtain ⟨p,_,hp,h⟩:=bind_some h
 obtain ⟨_,_,_,h⟩:=bind_some h
 obtain ⟨_,_,_,h⟩:=bind_some h
 obtain ⟨_,_,_,h⟩:=bind_some h
 obtain ⟨_,_,_,h⟩:=bind_some h
 obtain ⟨r,_,hr,h⟩:=bind_some h
 obtain ⟨_,_,_,h⟩:=bind_some h
 have:=KJ h
 subst this
 have:=abn _ _ _ _ _ hp
 rw [List.length_map] at this
 exact this
theorem abS {c:Catalogue} {t:Bytes} {b:Build} (h:readM (Em c) t=some b):b.lines.length <= 256/\∀ l ∈ b.lines,l.r <= 3/\l.part < c.length:=by
 unfold readM at h
 cases e:Em c t with
 | none=>rw [e] at h; cases h
 | some z =>
  rw [e] at h
  obtain ⟨b',t'⟩:=z
  have:b'=b:=Option.some.inj h
  subst this
  obtain ⟨_,_,_,h⟩:=bind_some e
  obtain ⟨_,_,_,h⟩:=bind_some h
  obtain ⟨_,_,_,h⟩:=bind_some h
  obtain ⟨l,_,hl,h⟩:=bind_some h
  have:=KJ h
  subst this
  exact QL (P:=fun l=>l.r <= 3/\l.part < c.length) (fun t x t' h=>⟨aiZ h,aeJ h⟩) _ _ _ _ hl
theorem ahU {t:Bytes} {c:Catalogue} (h:readM PX t=some c):c.length <= 64:=by
 unfold readM at h
 cases e:PX t with
 | none=>rw [e] at h; cases h
 | some z =>
  rw [e] at h
  obtain ⟨b',t'⟩:=z
  have:b'=c:=Option.some.inj h
  subst this
  obtain ⟨_,_,_,h⟩:=bind_some e
  obtain ⟨l,_,hl,h⟩:=bind_some h
  have:=KJ h
  subst this
  have:=(QL (P:=fun _=>True) (fun _ _ _ _=>trivial) _ _ _ _ hl).1
  rw [List.length_cons]
  omega
theorem W3:∀ a:Bytes,before a a=false
 | []=>rfl
 | a :: x=>by rw [before,W3 x]; simp
theorem Qt:∀ {a b c:Bytes},before a b=true->before b c=true->before a c=true
 | [],[],_,h,_=>by cases h
 | [],_ :: _,[],_,h=>by cases h
 | [],_ :: _,_ :: _,_,_=>rfl
 | _ :: _,[],_,h,_=>by cases h
 | _ :: _,_ :: _,[],_,h=>by cases h
 | a :: x,b :: y,c :: z,h1,h2=>by
  rw [before,Bool.or_eq_true,Bool.and_eq_true,decide_eq_true_iff,beq_iff_eq] at h1 h2 ⊢
  rcases h1 with h1 | ⟨rfl,h1⟩
  ·rcases h2 with h2 | ⟨rfl,h2⟩
   ·exact .inl (by omega)
   ·exact .inl h1
  ·rcases h2 with h2 | ⟨rfl,h2⟩
   ·exact .inl h2
   ·exact .inr ⟨rfl,Qt h1 h2⟩
theorem KH:∀ {a:Bytes} {r:List Bytes},DW (a :: r)=true->∀ x ∈ r,before a x=true
 | _,[],_,_,hx=>by cases hx
 | a,b :: r,h,x,hx=>by
  rw [DW,Bool.and_eq_true] at h
  rcases List.mem_cons.mp hx with rfl | hx
  ·exact h.1
  ·exact Qt h.1 (KH h.2 x hx)
theorem VB:∀ {ns:List Bytes},DW ns=true->ns.Nodup
 | [],_=>List.nodup_nil
 | [a],_=>by simp
 | a :: b :: r,h=>by
  have h2:=h
  rw [DW,Bool.and_eq_true] at h2
  refine List.nodup_cons.mpr ⟨fun hm=>?_,VB h2.2⟩
  have:=KH h a hm
  rw [W3] at this
  cases this
theorem W2 {c:Catalogue} {b:Build} {i j:Nat} (h:j ∈ (tower c b).below i):j < (tower c b).n:=by
 unfold Tower.below tower at h
 dsimp only at h
 rw [List.getD_eq_getElem?_getD,List.getElem?_map] at h
 generalize hs:((b.shapes c).map fun (x:Shape)=>(x,columns x)).zipIdx=s at h
 cases e:s[i]? with
 | none=>rw [e] at h; cases h
 | some x =>
  rw [e] at h
  obtain ⟨y,hy,rfl⟩:=List.mem_map.mp h
  have hy:=(List.mem_filter.mp hy).1
  rw [<- hs] at hy
  have:=(List.mem_zipIdx hy).2.1
  rw [List.length_map] at this
  unfold Build.shapes at this
  rw [List.length_map] at this
  show _ < b.lines.length
  omega
theorem Ng {α:Type}:∀ (l:List α) (k:Nat),((l.zipIdx k).map (·.2)).Nodup/\∀ x ∈ (l.zipIdx k).map (·.2),k <= x
 | [],k=>⟨List.nodup_nil,fun x hx=>by cases hx⟩
 | a :: l,k=>by
  obtain ⟨h1,h2⟩:=Ng l (k + 1)
  rw [List.zipIdx_cons,List.map_cons]
  refine ⟨List.nodup_cons.mpr ⟨fun h=>?_,h1⟩,fun x hx=>?_⟩
  ·have:=h2 _ h
   dsimp only at this
   omega
  ·rcases List.mem_cons.mp hx with rfl | hx
   ·exact Nat.le_refl _
   ·have:=h2 x hx
    omega
theorem Tv {c:Catalogue} {b:Build} (i:Nat):((tower c b).below i).Nodup:=by
 unfold Tower.below tower
 dsimp only
 rw [List.getD_eq_getElem?_getD,List.getElem?_map]
 generalize hs:((b.shapes c).map fun (x:Shape)=>(x,columns x)).zipIdx=s
 cases e:s[i]? with
 | none=>exact List.nodup_nil
 | some x =>
  show ((s.filter _).map _).Nodup
  have h:(s.map (·.2)).Nodup:=by rw [<- hs]; exact (Ng _ _).1
  exact List.Nodup.sublist (List.Sublist.map _ List.filter_sublist) h
theorem Wv {α:Type} {p q:α->Bool}:∀ {l:List α},(∀ x ∈ l,p x=q x)->l.find? p=l.find? q
 | [],_=>rfl
 | a :: l,h=>by
  rw [List.find?_cons,List.find?_cons,h a (List.mem_cons_self ..),Wv fun x hx=>h x (List.mem_cons_of_mem _ hx)]
theorem ahV {c:Catalogue} {b:Build} {U:List Nat} (h:Js (tower c b).n (Hw (tower c b)) (tower c b).n U):(tower c b).cant=match (List.range b.lines.length).find? fun i=>(U.getD i 0).testBit i with
 | some i=>some (1,i)
 | none=>((List.range b.lines.length).find? fun i=>!((tower c b).hold.getD i false)).map fun i=>(2,i):=by
 unfold Tower.cant
 have e:((List.range (tower c b).n).find? fun i=>((tower c b).under i).contains i)=(List.range b.lines.length).find? fun i=>(U.getD i 0).testBit i:=by
  show (List.range b.lines.length).find? _=_
  refine Wv fun i hi=>?_
  exact afc (fun i j=>W2) Tv h (List.mem_range.mp hi)
 rw [e]
 rfl
def maxOf (f:Nat->Nat) (k:List Nat):Nat:=(k.map f).foldl max 0
theorem foldl_max (l:List Nat):∀ a,l.foldl max a=max a (l.foldl max 0):=by
 induction l with
 | nil=>intro a; simp
 | cons x l ih =>
  intro a
  rw [List.foldl_cons,List.foldl_cons,ih (max a x),ih (max 0 x)]
  omega
theorem aeF (f:Nat->Nat):maxOf f [] = 0:=rfl
theorem Gv (f:Nat->Nat) (x:Nat) (k:List Nat):maxOf f (x :: k)=max (f x) (maxOf f k):=by
 unfold maxOf
 rw [List.map_cons,List.foldl_cons,foldl_max]
 omega
theorem HR {f g:Nat->Nat}:∀ {k:List Nat},(∀ x ∈ k,f x=g x)->maxOf f k=maxOf g k
 | [],_=>rfl
 | x :: k,h=>by rw [Gv,Gv,h x (List.mem_cons_self ..),HR fun y hy=>h y (List.mem_cons_of_mem _ hy)]
theorem Y0 {f:Nat->Nat} {m:Nat}:∀ {k:List Nat},maxOf (fun x=>min (f x) m) k=min (maxOf f k) m
 | []=>by simp [maxOf]
 | x :: k=>by rw [Gv,Gv,Y0]; omega
theorem abk {f:Nat->Nat}:∀ {k:List Nat} {x:Nat},x ∈ k->f x <= maxOf f k
 | y :: k,x,h=>by
  rw [Gv]
  rcases List.mem_cons.mp h with rfl | h
  ·omega
  ·have:=abk (f:=f) h
   omega
theorem V9 {f:Nat->Nat}:∀ {k:List Nat},0 < maxOf f k->∃ x ∈ k,f x=maxOf f k
 | [],h=>by simp [maxOf] at h
 | y :: k,h=>by
  rw [Gv] at h ⊢
  by_cases e:maxOf f k <= f y
  ·exact ⟨y,List.mem_cons_self ..,by omega⟩
  ·obtain ⟨x,hx,e2⟩:=V9 (f:=f) (k:=k) (by omega)
   exact ⟨x,List.mem_cons_of_mem _ hx,by omega⟩
structure QD (d:List (List Nat)) (L:List Nat):Prop where
 len:L.length=d.length
 lt:∀ k ∈ d,∀ j ∈ k,j < d.length
 eq:∀ i,i < d.length->L.getD i 0=maxOf (fun j=>L.getD j 0 + 1) (d.getD i [])
theorem Tp {d:List (List Nat)} {L:List Nat} (h:QD d L):∀ (v i:Nat),i < d.length->L.getD i 0=v->∀ u,u <= v->∃ j,j < d.length/\L.getD j 0=u
 | 0,i,hi,e,u,hu=>⟨i,hi,by omega⟩
 | v + 1,i,hi,e,u,hu=>by
  by_cases z:u=v + 1
  ·exact ⟨i,hi,by omega⟩
  ·have h1:=h.eq i hi
   obtain ⟨j,hj,e2⟩:=V9 (f:=fun j=>L.getD j 0 + 1) (k:=d.getD i []) (by omega)
   have hm:d.getD i [] ∈ d:=by rw [List.getD_eq_getElem?_getD,List.getElem?_eq_getElem hi]; exact List.getElem_mem hi
   exact Tp h v j (h.lt _ hm j hj) (by omega) u (by omega)
theorem Ew:∀ (n:Nat) {l:List Nat},l.Nodup->(∀ x ∈ l,x < n)->l.length <= n
 | 0,[],_,_=>Nat.le_refl _
 | 0,x :: l,_,h=>absurd (h x (List.mem_cons_self ..)) (Nat.not_lt_zero _)
 | n + 1,l,hn,h=>by
  have h1:=Ew n (l:=l.filter fun x=>x != n) (hn.sublist List.filter_sublist) (fun x hx=>by
   rw [List.mem_filter,bne_iff_ne] at hx
   have:=h x hx.1
   omega)
  have h2:l.length <= (l.filter fun x=>x != n).length + 1:=by
   clear h1 h
   induction l with
   | nil=>simp
   | cons x l ih =>
    rw [List.nodup_cons] at hn
    by_cases e:x=n
    ·subst e
     have:(l.filter fun y=>y != x)=l:=List.filter_eq_self.mpr fun y hy=>by
      rw [bne_iff_ne]
      intro z
      exact hn.1 (z ▸ hy)
     rw [List.filter_cons_of_neg (by simp),this,List.length_cons]
     omega
    ·rw [List.filter_cons_of_pos (by simpa using e),List.length_cons,List.length_cons]
     have:=ih hn.2
     omega
  omega
theorem ae9 {d:List (List Nat)} {L:List Nat} (h:QD d L) {i:Nat} (hi:i < d.length):L.getD i 0 < d.length:=by
 have hd:=Tp h (L.getD i 0) i hi rfl
 have akr:∀ v,∃ l:List Nat,l.length=v/\l.Nodup/\(∀ x ∈ l,x < d.length/\L.getD x 0 < v) \/ L.getD i 0 + 1 < v:=fun v=>by
  induction v with
  | zero=>exact ⟨[],.inl ⟨rfl,List.nodup_nil,fun x hx=>by cases hx⟩⟩
  | succ v ih =>
   obtain ⟨l,ih | ih⟩:=ih
   ·obtain ⟨h1,h2,h3⟩:=ih
    by_cases e:v <= L.getD i 0
    ·obtain ⟨j,hj,e2⟩:=hd v e
     refine ⟨j :: l,.inl ⟨by rw [List.length_cons,h1],List.nodup_cons.mpr ⟨fun z=>?_,h2⟩,fun x hx=>?_⟩⟩
     ·have:=(h3 j z).2
      omega
     ·rcases List.mem_cons.mp hx with rfl | hx
      ·exact ⟨hj,by omega⟩
      ·exact ⟨(h3 x hx).1,by have:=(h3 x hx).2; omega⟩
    ·exact ⟨[],.inr (by omega)⟩
   ·exact ⟨[],.inr (by omega)⟩
 obtain ⟨l,h1 | h1⟩:=akr (L.getD i 0 + 1)
 ·have:=Ew d.length h1.2.1 fun x hx=>(h1.2.2 x hx).1
  omega
 ·omega
theorem SQ {d:List (List Nat)} {L:List Nat} (h:QD d L):∀ (n k:Nat) (l:List Nat),l.length=d.length->(∀ i,i < d.length->l.getD i 0=min (L.getD i 0) k)->d.length <= n + k->levels d n l=L
 | 0,k,l,hl,he,hn=>by
  rw [levels]
  refine List.ext_getElem (by rw [hl,h.len]) fun i h1 h2=>?_
  have e:=he i (by omega)
  have:=ae9 h (i:=i) (by omega)
  rw [List.getD_eq_getElem?_getD,List.getElem?_eq_getElem h1,List.getD_eq_getElem?_getD,List.getElem?_eq_getElem h2] at e
  rw [List.getD_eq_getElem?_getD,List.getElem?_eq_getElem h2] at this
  simp at e this
  omega
 | n + 1,k,l,hl,he,hn=>by
  have hm:∀ i,i < d.length->(d.map fun (k:List Nat)=>(k.map fun (j:Nat)=>l.getD j 0 + 1).foldl max 0).getD i 0=min (L.getD i 0) (k + 1):=fun i hi=>by
   rw [List.getD_eq_getElem?_getD,List.getElem?_map,List.getElem?_eq_getElem hi]
   show maxOf (fun j=>l.getD j 0 + 1) d[i] = _
   have e1:maxOf (fun j=>l.getD j 0 + 1) d[i] = maxOf (fun j=>min (L.getD j 0 + 1) (k + 1)) d[i]:=HR fun j hj=>by
    rw [he j (h.lt _ (List.getElem_mem hi) j hj)]
    omega
   have e2:=h.eq i hi
   rw [List.getD_eq_getElem?_getD (l:=d),List.getElem?_eq_getElem hi] at e2
   rw [e1,Y0,e2]
   rfl
  rw [levels]
  split
  ·rename_i q
   refine List.ext_getElem (by rw [hl,h.len]) fun i h1 h2=>?_
   have e:=he i (by omega)
   have stop:∀ i,i < d.length->L.getD i 0 <= k:=fun i hi=>by
    have a:=hm i hi
    rw [q,he i hi] at a
    omega
   have:=stop i (by omega)
   rw [List.getD_eq_getElem?_getD,List.getElem?_eq_getElem h1,List.getD_eq_getElem?_getD,List.getElem?_eq_getElem h2] at e
   rw [List.getD_eq_getElem?_getD,List.getElem?_eq_getElem h2] at this
   simp at e this
   omega
  ·exact SQ h n (k + 1) _ (by rw [List.length_map]) hm (by omega)
theorem aeK {d:List (List Nat)} {L:List Nat} (h:QD d L):levels d d.length (List.replicate d.length 0)=L :=
 SQ h d.length 0 _ (List.length_replicate) (fun i hi=>by rw [List.getD_eq_getElem?_getD,List.getElem?_replicate,if_pos hi]; simp) (by omega)
section
variable {n:Nat} {R:Nat->Nat->Prop}
open Classical in
noncomputable def adf (n:Nat) (R:Nat->Nat->Prop) (i:Nat):Nat:=((List.range n).filter fun k=>decide (Trans R i k)).length
theorem NZ {α:Type} {p q:α->Bool}:∀ {l:List α},(∀ x ∈ l,p x=true->q x=true)->(l.filter p).length <= (l.filter q).length
 | [],_=>by simp
 | a :: l,h=>by
  have ih:=NZ (p:=p) (q:=q) (l:=l) fun x hx=>h x (List.mem_cons_of_mem _ hx)
  have ha:=h a (List.mem_cons_self ..)
  cases hp:p a with
  | true=>rw [List.filter_cons_of_pos hp,List.filter_cons_of_pos (ha hp),List.length_cons,List.length_cons]; omega
  | false =>
   rw [List.filter_cons_of_neg (by simp [hp])]
   cases hq:q a with
   | true=>rw [List.filter_cons_of_pos hq,List.length_cons]; omega
   | false=>rw [List.filter_cons_of_neg (by simp [hq])]; exact ih
theorem NT {α:Type} {p q:α->Bool}:∀ {l:List α},(∀ x ∈ l,p x=true->q x=true)->(∃ x ∈ l,p x=false/\q x=true)->(l.filter p).length < (l.filter q).length
 | [],_,⟨_,h,_⟩=>by cases h
 | a :: l,h,⟨x,hx,h1,h2⟩=>by
  have hle:=NZ (p:=p) (q:=q) (l:=l) fun x hx=>h x (List.mem_cons_of_mem _ hx)
  rcases List.mem_cons.mp hx with rfl | hx
  ·rw [List.filter_cons_of_neg (by simp [h1]),List.filter_cons_of_pos h2,List.length_cons]; omega
  ·have ih:=NT (p:=p) (q:=q) (l:=l) (fun x hx=>h x (List.mem_cons_of_mem _ hx)) ⟨x,hx,h1,h2⟩
   have ha:=h a (List.mem_cons_self ..)
   cases hp:p a with
   | true=>rw [List.filter_cons_of_pos hp,List.filter_cons_of_pos (ha hp),List.length_cons,List.length_cons]; omega
   | false =>
    rw [List.filter_cons_of_neg (by simp [hp])]
    cases hq:q a with
    | true=>rw [List.filter_cons_of_pos hq,List.length_cons]; omega
    | false=>rw [List.filter_cons_of_neg (by simp [hq])]; exact ih
open Classical in
theorem aao (hb:∀ i j,R i j->j < n) (ac:∀ i,i < n -> ¬ Trans R i i) {i j:Nat} (h:R i j):adf n R j < adf n R i:=by
 unfold adf
 refine NT (fun x _ hx=>?_) ⟨j,List.mem_range.mpr (hb i j h),?_,?_⟩
 ·exact decide_eq_true (.trans (.one h) (of_decide_eq_true hx))
 ·exact decide_eq_false (ac j (hb i j h))
 ·exact decide_eq_true (.one h)
open Classical in
theorem ajz (i:Nat):adf n R i <= n:=by
 unfold adf
 have:=List.length_filter_le (fun k=>decide (Trans R i k)) (List.range n)
 rw [List.length_range] at this
 exact this
theorem Sx (hb:∀ i j,R i j->j < n) (ac:∀ i,i < n -> ¬ Trans R i i) {S:Nat->Prop}:∀ (m i:Nat),adf n R i <= m->i < n->S i->∃ k,k < n/\S k/\∀ j,R k j -> ¬ S j
 | 0,i,hm,hi,hs=>⟨i,hi,hs,fun j hj=>by have:=aao hb ac hj; omega⟩
 | m + 1,i,hm,hi,hs=>by
  by_cases h:∃ j,R i j/\S j
  ·obtain ⟨j,hj,hsj⟩:=h
   have:=aao hb ac hj
   exact Sx hb ac m j (by omega) (hb i j hj) hsj
  ·exact ⟨i,hi,hs,fun j hj hsj=>h ⟨j,hj,hsj⟩⟩
end
def deep (f:Nat->List Nat):Nat->Nat->Nat
 | 0,_=>0
 | m + 1,i=>maxOf (fun j=>deep f m j + 1) (f i)
theorem Zc {n:Nat} {f:Nat->List Nat} (hb:∀ i j,j ∈ f i->j < n) (ac:∀ i,i < n -> ¬ Trans (fun i j=>j ∈ f i) i i):∀ (m i:Nat),adf n (fun i j=>j ∈ f i) i <= m->deep f m i=deep f (m + 1) i
 | 0,i,h=>by
  cases e:f i with
  | nil=>rw [deep,deep,e]; rfl
  | cons j k =>
   have:=aao (R:=fun i j=>j ∈ f i) hb ac (i:=i) (j:=j) (by rw [e]; exact List.mem_cons_self ..)
   omega
 | m + 1,i,h=>by
  rw [deep,deep]
  refine HR fun j hj=>?_
  have:=aao (R:=fun i j=>j ∈ f i) hb ac (i:=i) (j:=j) hj
  rw [Zc hb ac m j (by omega)]
theorem ahM {n:Nat} {f:Nat->List Nat} (hb:∀ i j,j ∈ f i->j < n) (ac:∀ i,i < n -> ¬ Trans (fun i j=>j ∈ f i) i i) (i:Nat):deep f n i=maxOf (fun j=>deep f n j + 1) (f i):=by
 rw [Zc hb ac n i (ajz i)]
 rfl
section
variable {c:Catalogue} {b:Build}
theorem afd (h:(tower c b).cant=none):(∀ i,i < b.lines.length -> ¬ Trans (Hw (tower c b)) i i)/\∀ i,i < b.lines.length->(tower c b).hold.getD i false=true:=by
 unfold Tower.cant at h
 split at h
 ·cases h
 ·rename_i q
  rw [List.find?_eq_none] at q
  rw [Option.map_eq_none_iff,List.find?_eq_none] at h
  refine ⟨fun i hi ht=>?_,fun i hi=>?_⟩
  ·refine q i (List.mem_range.mpr hi) ?_
   rw [List.contains_iff_mem,Yg (tower c b) (fun i j=>W2) Tv]
   exact ht
  ·have:=h i (List.mem_range.mpr hi)
   simpa using this
theorem ZW (ac:∀ i,i < b.lines.length -> ¬ Trans (Hw (tower c b)) i i) {done:List Nat} {i:Nat} (hi:i < b.lines.length) (hd:i ∉ done):∃ k,(List.range (tower c b).n).find? ((tower c b).ready done)=some k:=by
 obtain ⟨k,hk,hs,hall⟩:=Sx (n:=b.lines.length) (R:=Hw (tower c b)) (S:=fun i=>i ∉ done) (fun i j h=>W2 h) ac _ i (Nat.le_refl _) hi hd
 cases e:(List.range (tower c b).n).find? ((tower c b).ready done) with
 | some k=>exact ⟨k,rfl⟩
 | none =>
  rw [List.find?_eq_none] at e
  refine absurd ?_ (e k (List.mem_range.mpr hk))
  unfold Tower.ready
  rw [Bool.and_eq_true,List.all_eq_true]
  refine ⟨by simpa using hs,fun j hj=>?_⟩
  have:=hall j hj
  rw [List.contains_iff_mem]
  exact Classical.not_not.mp this
def Ia (c:Catalogue) (b:Build) (i:Nat):List Nat:=(List.range b.lines.length).filter fun j=>(tower c b).over j i
theorem U9 {i j:Nat}:j ∈ Ia c b i ↔ j < b.lines.length/\i ∈ (tower c b).below j:=by
 unfold Ia Tower.over
 rw [List.mem_filter,List.mem_range,List.contains_iff_mem]
theorem ah3 {i:Nat} (hi:i < b.lines.length):(tower c b).up.getD i [] = Ia c b i:=by
 unfold Tower.up
 have hi':i < (tower c b).n:=hi
 rw [List.getD_eq_getElem?_getD,List.getElem?_map,List.getElem?_range hi']
 rfl
theorem agY {i j:Nat} (h:Trans (fun i j=>j ∈ Ia c b i) i j):Trans (Hw (tower c b)) j i:=by
 induction h with
 | one r=>exact .one (U9.mp r).2
 | more _ r ih=>exact .trans (.one (U9.mp r).2) ih
theorem Ou (ac:∀ i,i < b.lines.length -> ¬ Trans (Hw (tower c b)) i i):(tower c b).chains.length=b.lines.length/\∀ i,i < b.lines.length->(tower c b).chains.getD i 0=maxOf (fun j=>(tower c b).chains.getD j 0 + 1) (Ia c b i):=by
 have hb:∀ i j,j ∈ Ia c b i->j < b.lines.length:=fun i j h=>(U9.mp h).1
 have ac2:∀ i,i < b.lines.length -> ¬ Trans (fun i j=>j ∈ Ia c b i) i i:=fun i hi h=>ac i hi (agY h)
 have he:∀ i,i < b.lines.length->((List.range b.lines.length).map (deep (Ia c b) b.lines.length)).getD i 0=deep (Ia c b) b.lines.length i:=fun i hi=>by
  rw [List.getD_eq_getElem?_getD,List.getElem?_map,List.getElem?_range hi]
  rfl
 have hu:(tower c b).up.length=b.lines.length:=by
  unfold Tower.up
  rw [List.length_map,List.length_range]
  rfl
 have hrec:∀ i,i < b.lines.length->((List.range b.lines.length).map (deep (Ia c b) b.lines.length)).getD i 0=maxOf (fun j=>((List.range b.lines.length).map (deep (Ia c b) b.lines.length)).getD j 0 + 1) (Ia c b i):=fun i hi=>by
  rw [he i hi,ahM hb ac2 i]
  exact HR fun j hj=>by rw [he j (hb i j hj)]
 have hL:(tower c b).chains=(List.range b.lines.length).map (deep (Ia c b) b.lines.length):=by
  unfold Tower.chains
  have en:(tower c b).n=(tower c b).up.length:=hu.symm
  rw [en]
  refine aeK ⟨by rw [List.length_map,List.length_range,hu],fun k hk j hj=>?_,fun i hi=>?_⟩
  ·obtain ⟨i,hi,rfl⟩:=List.mem_iff_getElem.mp hk
   rw [hu] at hi ⊢
   have e:=ah3 (c:=c) hi
   rw [List.getD_eq_getElem?_getD,List.getElem?_eq_getElem (by rw [hu]; exact hi)] at e
   have e:(tower c b).up[i] = Ia c b i:=e
   rw [e] at hj
   exact hb i j hj
  ·rw [hu] at hi
   rw [hrec i hi,ah3 hi]
 rw [hL]
 exact ⟨by rw [List.length_map,List.length_range],hrec⟩
theorem JG (ac:∀ i,i < b.lines.length -> ¬ Trans (Hw (tower c b)) i i):∀ (m:Nat) (done:List Nat),done.Nodup->(∀ x ∈ done,x < b.lines.length)->m + done.length=b.lines.length->((tower c b).orderFrom m done).Nodup/\(∀ x ∈ (tower c b).orderFrom m done,x < b.lines.length)/\((tower c b).orderFrom m done).length=b.lines.length
 | 0,done,h1,h2,h3=>by rw [Tower.orderFrom]; exact ⟨h1,h2,by omega⟩
 | m + 1,done,h1,h2,h3=>by
  have hex:∃ i,i < b.lines.length/\i ∉ done:=by
   refine Classical.byContradiction fun hne=>?_
   have hall:∀ x ∈ List.range b.lines.length,x ∈ done:=fun x hx=>Classical.byContradiction fun h=>hne ⟨x,List.mem_range.mp hx,h⟩
   have:=List.nodup_range.length_le_of_subset hall
   rw [List.length_range] at this
   omega
  obtain ⟨i,hi,hd⟩:=hex
  obtain ⟨k,hk⟩:=ZW ac hi hd
  rw [Tower.orderFrom,hk]
  have hk1:=List.find?_some hk
  have hk2:=List.mem_range.mp (List.mem_of_find?_eq_some hk)
  unfold Tower.ready at hk1
  rw [Bool.and_eq_true] at hk1
  have hk3:k ∉ done:=by simpa using hk1.1
  refine JG ac m (done ++ [k]) ?_ (fun x hx=>?_) (by rw [List.length_append,List.length_singleton]; omega)
  ·rw [List.nodup_append]
   refine ⟨h1,by simp,fun a ha b hb e=>?_⟩
   rw [List.mem_singleton] at hb
   subst hb e
   exact hk3 ha
  ·rcases List.mem_append.mp hx with hx | hx
   ·exact h2 x hx
   ·rw [List.mem_singleton] at hx
    subst hx
    exact hk2
end
def CK (m:Nat) (l:List Nat):Prop:=∀ j,m.testBit j=true ↔ j ∈ l
theorem CK.nil:CK 0 []:=fun j=>by rw [Nat.zero_testBit]; simp
theorem CK.snoc {m:Nat} {l:List Nat} {i:Nat} (h:CK m l):CK (m ||| 2 ^ i) (l ++ [i]):=fun j=>by
 rw [Nat.testBit_or,Nat.testBit_two_pow,Bool.or_eq_true,h j,List.mem_append,List.mem_singleton,decide_eq_true_iff]
 exact or_congr_right eq_comm
def Nz (x m:Nat):Nat:=x - (x &&& m)
theorem aev {x m:Nat}:Nz x m=0 ↔ ∀ j,x.testBit j=true->m.testBit j=true:=by
 unfold Nz
 have hle:x &&& m <= x:=Nat.and_le_left
 constructor
 ·intro h j hj
  have e:x &&& m=x:=by omega
  have:=congrArg (fun z=>Nat.testBit z j) e
  rw [Nat.testBit_and,hj,Bool.true_and] at this
  exact this
 ·intro h
  have e:x &&& m=x:=Nat.eq_of_testBit_eq fun j=>by
   rw [Nat.testBit_and]
   cases hj:x.testBit j with
   | false=>rfl
   | true=>rw [h j hj]; rfl
  omega
def Fw (U:List Nat) (m i:Nat):Bool:=!(m.testBit i) && decide (Nz (U.getD i 0) m=0)
section
variable {c:Catalogue} {b:Build} {U:List Nat}
theorem V3 (hU:∀ i,i < b.lines.length->∀ j,(U.getD i 0).testBit j=true ↔ j ∈ (tower c b).below i) {m:Nat} {done:List Nat} (hm:CK m done) {i:Nat} (hi:i < b.lines.length):Fw U m i=(tower c b).ready done i:=by
 unfold Fw Tower.ready
 congr 1
 ·rw [Bool.not_eq_eq_eq_not,Bool.not_not,Bool.eq_iff_iff,List.contains_iff_mem]; exact hm i
 ·rw [Bool.eq_iff_iff,decide_eq_true_iff,aev,List.all_eq_true]
  constructor
  ·intro h j hj
   rw [List.contains_iff_mem]
   exact (hm j).mp (h j ((hU i hi j).mpr hj))
  ·intro h j hj
   have:=h j ((hU i hi j).mp hj)
   rw [List.contains_iff_mem] at this
   exact (hm j).mpr this
theorem aeY (hU:∀ i,i < b.lines.length->∀ j,(U.getD i 0).testBit j=true ↔ j ∈ (tower c b).below i) {m:Nat} {done:List Nat} (hm:CK m done):(List.range b.lines.length).find? (Fw U m)=(List.range (tower c b).n).find? ((tower c b).ready done):=by
 have en:(tower c b).n=b.lines.length:=rfl
 rw [en]
 have:∀ l:List Nat,(∀ x ∈ l,x < b.lines.length)->l.find? (Fw U m)=l.find? ((tower c b).ready done):=fun l=>by
  induction l with
  | nil=>intro _; rfl
  | cons x t ih =>
   intro h
   rw [List.find?_cons,List.find?_cons,V3 hU hm (h x (List.mem_cons_self ..)),ih fun y hy=>h y (List.mem_cons_of_mem _ hy)]
 exact this _ fun x hx=>List.mem_range.mp hx
structure LQ (c:Catalogue) (b:Build) (done:List Nat):Prop where
 nd:done.Nodup
 lt:∀ x ∈ done,x < b.lines.length
 go:(tower c b).orderFrom ((tower c b).n - done.length) done=(tower c b).order
theorem LQ.start:LQ c b []:=⟨List.nodup_nil,(fun x h=>by cases h),rfl⟩
theorem LQ.end {done:List Nat} (h:LQ c b done) (e:(List.range (tower c b).n).find? ((tower c b).ready done)=none):done=(tower c b).order:=by
 have:=h.go
 cases z:(tower c b).n - done.length with
 | zero=>rw [z,Tower.orderFrom] at this; exact this
 | succ k=>rw [z,Tower.orderFrom,e] at this; exact this
theorem LQ.step {done:List Nat} {i:Nat} (h:LQ c b done) (e:(List.range (tower c b).n).find? ((tower c b).ready done)=some i):LQ c b (done ++ [i])/\i < b.lines.length/\done.length < b.lines.length:=by
 have h1:=List.find?_some e
 have h2:i < b.lines.length:=List.mem_range.mp (List.mem_of_find?_eq_some e)
 unfold Tower.ready at h1
 rw [Bool.and_eq_true] at h1
 have h3:i ∉ done:=by simpa using h1.1
 have hnd:(done ++ [i]).Nodup:=by
  rw [List.nodup_append]
  refine ⟨h.nd,by simp,fun a ha z hz ez=>?_⟩
  rw [List.mem_singleton] at hz
  rw [ez,hz] at ha
  exact h3 ha
 have hlt:∀ x ∈ done ++ [i],x < b.lines.length:=fun x hx=>by
  rcases List.mem_append.mp hx with hx | hx
  ·exact h.lt x hx
  ·rw [List.mem_singleton] at hx
   rw [hx]; exact h2
 have hl:=Ew b.lines.length hnd hlt
 rw [List.length_append,List.length_singleton] at hl
 have en:(tower c b).n=b.lines.length:=rfl
 refine ⟨⟨hnd,hlt,?_⟩,h2,by omega⟩
 have:=h.go
 rw [show (tower c b).n - done.length=((tower c b).n - (done ++ [i]).length) + 1 by rw [List.length_append,List.length_singleton]; omega,Tower.orderFrom,e] at this
 exact this
end
section
variable {c:Catalogue} {b:Build}
def Zv (t:Tower) (l:List Nat):Prop:=∀ x y,l[x]? = some y->∀ j ∈ t.below y,j ∈ l.take x
theorem Zv.snoc {t:Tower} {l:List Nat} {i:Nat} (h:Zv t l) (r:t.ready l i=true):Zv t (l ++ [i]):=fun x y e j hj=>by
 by_cases hx:x < l.length
 ·rw [List.getElem?_append_left hx] at e
  rw [List.take_append_of_le_length (by omega)]
  exact h x y e j hj
 ·have hx2:x=l.length:=by
   have:=(List.getElem?_eq_some_iff.mp e).1
   rw [List.length_append,List.length_singleton] at this
   omega
  subst hx2
  rw [List.getElem?_concat_length] at e
  cases e
  rw [List.take_left]
  unfold Tower.ready at r
  rw [Bool.and_eq_true,List.all_eq_true] at r
  have:=r.2 j hj
  rwa [List.contains_iff_mem] at this
theorem K8 (t:Tower):∀ (m:Nat) (done:List Nat),Zv t done->Zv t (t.orderFrom m done)
 | 0,done,h=>by rw [Tower.orderFrom]; exact h
 | m + 1,done,h=>by
  rw [Tower.orderFrom]
  cases e:(List.range t.n).find? (t.ready done) with
  | none=>exact h
  | some i=>exact K8 t m _ (h.snoc (List.find?_some e))
theorem acG (t:Tower):Zv t t.order:=K8 t _ _ fun x y e=>by cases e
theorem Rm (ac:∀ i,i < b.lines.length -> ¬ Trans (Hw (tower c b)) i i):(∀ x ∈ (tower c b).order,x < b.lines.length)/\(tower c b).order.length=b.lines.length/\∀ i,i < b.lines.length->i ∈ (tower c b).order:=by
 have h:=JG ac (tower c b).n [] List.nodup_nil (fun x hx=>by cases hx) rfl
 have h:(tower c b).order.Nodup/\(∀ x ∈ (tower c b).order,x < b.lines.length)/\(tower c b).order.length=b.lines.length:=h
 refine ⟨h.2.1,h.2.2,fun i hi=>Classical.byContradiction fun hn=>?_⟩
 have:=Ew b.lines.length (l:=i :: (tower c b).order) (List.nodup_cons.mpr ⟨hn,h.1⟩) fun x hx=>by
  rcases List.mem_cons.mp hx with rfl | hx
  ·exact hi
  ·exact h.2.1 x hx
 rw [List.length_cons] at this
 omega
theorem aeT {L:List Nat} {i v j:Nat} (h:i < L.length):(L.set i v).getD j 0=if i=j then v else L.getD j 0:=by
 rw [List.getD_eq_getElem?_getD,List.getElem?_set,List.getD_eq_getElem?_getD]
 by_cases e:i=j
 ·rw [if_pos e,if_pos e,if_pos h]; rfl
 ·rw [if_neg e,if_neg e]
end
def chB (h:List Nat) (i j:Nat):Prop:=h.getD j 0 < h.getD i 0 \/ (h.getD j 0=h.getD i 0/\i < j)
instance (h:List Nat) (i j:Nat):Decidable (chB h i j):=by unfold chB; exact inferInstance
theorem aa4 (h:List Nat) (i j:Nat) (r:List Nat):putChain h i (j :: r)=if chB h i j then i :: j :: r else j :: putChain h i r:=by
 rw [putChain]
 rfl
theorem Ig (h:List Nat) (i:Nat):∀ l:List Nat,(putChain h i l).Perm (i :: l)
 | []=>.refl _
 | j :: r=>by
  rw [putChain]
  split
  ·exact .refl _
  ·exact ((Ig h i r).cons j).trans (.swap i j r)
theorem Zd {h:List Nat} {a b c:Nat} (x:chB h a b) (y:chB h b c):chB h a c:=by
 unfold chB at *
 omega
theorem afa {h:List Nat} {a b:Nat} (x:¬ chB h a b) (ne:a ≠ b):chB h b a:=by
 unfold chB at *
 omega
theorem ahS {h:List Nat} {a:Nat}:¬ chB h a a:=by
 unfold chB
 omega
theorem J6 {h:List Nat} {i:Nat}:∀ {l:List Nat},l.Pairwise (chB h)->i ∉ l->(putChain h i l).Pairwise (chB h)
 | [],_,_=>List.pairwise_singleton _ _
 | j :: r,hs,hn=>by
  obtain ⟨h1,h2⟩:=List.pairwise_cons.mp hs
  rw [aa4]
  split
  ·rename_i q
   refine List.pairwise_cons.mpr ⟨fun x hx=>?_,hs⟩
   rcases List.mem_cons.mp hx with rfl | hx
   ·exact q
   ·exact Zd q (h1 x hx)
  ·rename_i q
   refine List.pairwise_cons.mpr ⟨fun x hx=>?_,J6 h2 fun z=>hn (List.mem_cons_of_mem _ z)⟩
   have hx2:=(Ig h i r).mem_iff.mp hx
   rcases List.mem_cons.mp hx2 with rfl | hx2
   ·exact afa q fun z=>hn (by rw [z]; exact List.mem_cons_self ..)
   ·exact h1 x hx2
def EY (h l:List Nat):List Nat:=l.foldr (putChain h) []
theorem Dq (h:List Nat):∀ l:List Nat,(EY h l).Perm l
 | []=>.refl _
 | i :: l=>(Ig h i _).trans ((Dq h l).cons i)
theorem Ly (h:List Nat):∀ l:List Nat,l.Nodup->(EY h l).Pairwise (chB h)
 | [],_=>List.Pairwise.nil
 | i :: l,hn=>by
  obtain ⟨h1,h2⟩:=List.nodup_cons.mp hn
  exact J6 (Ly h l h2) fun z=>h1 ((Dq h l).mem_iff.mp z)
theorem KN (i:Nat):∀ l:List Nat,(putNat i l).Perm (i :: l)
 | []=>.refl _
 | j :: r=>by
  rw [putNat]
  split
  ·exact .refl _
  ·exact ((KN i r).cons j).trans (.swap i j r)
theorem NB {i:Nat}:∀ {l:List Nat},l.Pairwise (· < ·)->i ∉ l->(putNat i l).Pairwise (· < ·)
 | [],_,_=>List.pairwise_singleton _ _
 | j :: r,hs,hn=>by
  obtain ⟨h1,h2⟩:=List.pairwise_cons.mp hs
  rw [putNat]
  split
  ·rename_i q
   refine List.pairwise_cons.mpr ⟨fun x hx=>?_,hs⟩
   rcases List.mem_cons.mp hx with rfl | hx
   ·exact q
   ·have:=h1 x hx; omega
  ·rename_i q
   refine List.pairwise_cons.mpr ⟨fun x hx=>?_,NB h2 fun z=>hn (List.mem_cons_of_mem _ z)⟩
   have hx2:=(KN i r).mem_iff.mp hx
   rcases List.mem_cons.mp hx2 with rfl | hx2
   ·have:x ≠ j:=fun z=>hn (by rw [z]; exact List.mem_cons_self ..)
    omega
   ·exact h1 x hx2
def WR (l:List Nat):List Nat:=l.foldr putNat []
theorem En:∀ l:List Nat,(WR l).Perm l
 | []=>.refl _
 | i :: l=>(KN i _).trans ((En l).cons i)
theorem Qq:∀ l:List Nat,l.Nodup->(WR l).Pairwise (· < ·)
 | [],_=>List.Pairwise.nil
 | i :: l,hn=>by
  obtain ⟨h1,h2⟩:=List.nodup_cons.mp hn
  exact NB (Qq l h2) fun z=>h1 ((En l).mem_iff.mp z)
theorem Kw {R:Nat->Nat->Prop} (irr:∀ a,¬ R a a) (tr:∀ a b c,R a b->R b c->R a c):∀ {l l':List Nat},l.Perm l'->l.Pairwise R->l'.Pairwise R->l=l'
 | [],l',p,_,_=>by rw [List.nil_perm.mp p]
 | a :: l,l',p,h,h'=>by
  cases l' with
  | nil=>exact absurd (p.length_eq) (by simp)
  | cons b l' =>
   obtain ⟨h1,h2⟩:=List.pairwise_cons.mp h
   obtain ⟨g1,g2⟩:=List.pairwise_cons.mp h'
   have e:a=b:=Classical.byContradiction fun ne=>by
    have m1:a ∈ l':=(List.mem_cons.mp (p.mem_iff.mp (List.mem_cons_self ..))).resolve_left ne
    have m2:b ∈ l:=(List.mem_cons.mp (p.mem_iff.mpr (List.mem_cons_self ..))).resolve_left fun z=>ne z.symm
    exact irr _ (tr _ _ _ (h1 b m2) (g1 a m1))
   subst e
   rw [Kw irr tr (List.Perm.cons_inv p) h2 g2]
theorem aaz {h l l':List Nat} (hn:l.Nodup) (p:l'.Perm l) (s:l'.Pairwise (chB h)):l'=EY h l :=
 Kw (fun _=>ahS) (fun _ _ _=>Zd) (p.trans (Dq h l).symm) s (Ly h l hn)
theorem adk {l l':List Nat} (hn:l.Nodup) (p:l'.Perm l) (s:l'.Pairwise (· < ·)):l'=WR l :=
 Kw (fun _=>Nat.lt_irrefl _) (fun _ _ _=>Nat.lt_trans) (p.trans (En l).symm) s (Qq l hn)
section
variable {c:Catalogue} {b:Build} {k:Nat}
def BL (t:Tower) (k:Nat) (done:List Nat):List Nat:=WR ((EY t.chains ((List.range t.n).filter (t.ready done))).take k)
theorem NQ (t:Tower) (k n:Nat) (done:List Nat):t.makeFrom t.chains k (n + 1) done=if (List.range t.n).filter (t.ready done)=[] then [] else BL t k done :: t.makeFrom t.chains k n (done ++ BL t k done):=by
 rw [Tower.makeFrom]
 cases e:(List.range t.n).filter (t.ready done) with
 | nil=>rw [if_pos rfl]
 | cons a r =>
  rw [if_neg (by intro z; cases z)]
  unfold BL
  rw [e]
  rfl
theorem Sd (t:Tower) (done:List Nat):((List.range t.n).filter (t.ready done)).Nodup:=List.nodup_range.filter _
theorem acC (t:Tower) (k:Nat) (done:List Nat):(BL t k done).Nodup:=by
 unfold BL
 refine (En _).nodup_iff.mpr ?_
 exact ((Dq _ _).nodup_iff.mpr (Sd t done)).sublist (List.take_sublist _ _)
theorem VV {t:Tower} {k:Nat} {done:List Nat} {i:Nat} (h:i ∈ BL t k done):i < t.n/\t.ready done i=true:=by
 unfold BL at h
 have h:=List.mem_of_mem_take ((En _).mem_iff.mp h)
 have h:=(Dq _ _).mem_iff.mp h
 rw [List.mem_filter,List.mem_range] at h
 exact h
theorem afX (t:Tower) (k:Nat) (done:List Nat):(BL t k done).length=min k ((List.range t.n).filter (t.ready done)).length:=by
 unfold BL
 rw [(En _).length_eq,List.length_take,(Dq _ _).length_eq]
structure X4 (c:Catalogue) (b:Build) (k:Nat) (done:List Nat) (pgs:Pages):Prop where
 nd:done.Nodup
 lt:∀ x ∈ done,x < b.lines.length
 le:pgs.length <= done.length
 go:(tower c b).made k=pgs ++ (tower c b).makeFrom (tower c b).chains k ((tower c b).n - pgs.length) done
theorem X4.start:X4 c b k [] []:=⟨List.nodup_nil,(fun x h=>by cases h),Nat.le_refl _,rfl⟩
theorem X4.end {done:List Nat} {pgs:Pages} (h:X4 c b k done pgs) (e:(List.range (tower c b).n).filter ((tower c b).ready done)=[]):pgs=(tower c b).made k:=by
 rw [h.go]
 cases z:(tower c b).n - pgs.length with
 | zero=>rw [Tower.makeFrom,List.append_nil]
 | succ m=>rw [NQ,if_pos e,List.append_nil]
theorem X4.step {done:List Nat} {pgs:Pages} (hk:1 <= k) (h:X4 c b k done pgs) (e:(List.range (tower c b).n).filter ((tower c b).ready done) ≠ []) :
  X4 c b k (done ++ BL (tower c b) k done) (pgs ++ [BL (tower c b) k done])/\0 < (BL (tower c b) k done).length/\done.length < b.lines.length:=by
 have hpos:0 < (BL (tower c b) k done).length:=by
  rw [afX]
  have:0 < ((List.range (tower c b).n).filter ((tower c b).ready done)).length:=List.length_pos_iff.mpr e
  omega
 have hnd:(done ++ BL (tower c b) k done).Nodup:=by
  rw [List.nodup_append]
  refine ⟨h.nd,acC _ _ _,fun x hx y hy ez=>?_⟩
  have:=(VV hy).2
  unfold Tower.ready at this
  rw [Bool.and_eq_true] at this
  have h3:y ∉ done:=by simpa using this.1
  exact h3 (by rw [<- ez]; exact hx)
 have hlt:∀ x ∈ done ++ BL (tower c b) k done,x < b.lines.length:=fun x hx=>by
  rcases List.mem_append.mp hx with hx | hx
  ·exact h.lt x hx
  ·exact (VV hx).1
 have hl:=Ew b.lines.length hnd hlt
 rw [List.length_append] at hl
 have en:(tower c b).n=b.lines.length:=rfl
 have hle:=h.le
 refine ⟨⟨hnd,hlt,by rw [List.length_append,List.length_append,List.length_singleton]; omega,?_⟩,hpos,by omega⟩
 have:=h.go
 rw [show (tower c b).n - pgs.length=((tower c b).n - (pgs ++ [BL (tower c b) k done]).length) + 1 by rw [List.length_append,List.length_singleton]; omega,NQ,if_neg e] at this
 rw [this,List.append_assoc]
 rfl
end
section
variable {c:Catalogue} {b:Build}
def ab1 (c:Catalogue) (b:Build) (done L:List Nat):Prop:=L.length=b.lines.length/\∀ i ∈ done,L.getD i 0=(tower c b).chains.getD i 0
theorem ab1.step {done L:List Nat} {i v:Nat} (h:ab1 c b done L) (hi:i < b.lines.length) (hv:v=(tower c b).chains.getD i 0):ab1 c b (i :: done) (L.set i v):=by
 refine ⟨by rw [List.length_set]; exact h.1,fun j hj=>?_⟩
 rw [aeT (by rw [h.1]; exact hi)]
 by_cases e:i=j
 ·rw [if_pos e,hv,e]
 ·rw [if_neg e]
  rcases List.mem_cons.mp hj with hj | hj
  ·exact absurd hj.symm e
  ·exact h.2 j hj
theorem ab1.all {L:List Nat} (ac:∀ i,i < b.lines.length -> ¬ Trans (Hw (tower c b)) i i) (h:ab1 c b (tower c b).order L):L=(tower c b).chains:=by
 have hp:=Ou ac
 refine List.ext_getElem (by rw [h.1,hp.1]) fun i h1 h2=>?_
 have:=h.2 i ((Rm ac).2.2 i (by rw [<- h.1]; exact h1))
 rwa [List.getD_eq_getElem?_getD,List.getD_eq_getElem?_getD,List.getElem?_eq_getElem h1,List.getElem?_eq_getElem h2] at this
theorem aba (ac:∀ i,i < b.lines.length -> ¬ Trans (Hw (tower c b)) i i):(tower c b).order.Nodup:=(JG ac (tower c b).n [] List.nodup_nil (fun x hx=>by cases hx) rfl).1
theorem aa9 (ac:∀ i,i < b.lines.length -> ¬ Trans (Hw (tower c b)) i i) {x i:Nat} (hx:(tower c b).order[x]? = some i) {j:Nat} (hj:j ∈ Ia c b i):j ∈ (tower c b).order.drop (x + 1):=by
 obtain ⟨hjn,hij⟩:=U9.mp hj
 obtain ⟨y,hy⟩:=List.getElem?_of_mem ((Rm ac).2.2 j hjn)
 have h1:=acG (tower c b) y j hy i hij
 obtain ⟨z,hz⟩:=List.getElem?_of_mem h1
 rw [List.getElem?_take] at hz
 split at hz
 ·rename_i hzy
  obtain ⟨q1,q2⟩:=List.getElem?_eq_some_iff.mp hz
  obtain ⟨q3,q4⟩:=List.getElem?_eq_some_iff.mp hx
  have e:z=x:=(List.getElem_inj (aba ac)).mp (q2.trans q4.symm)
  subst e
  obtain ⟨k,rfl⟩:∃ k,y=(z + 1) + k:=⟨y - (z + 1),by omega⟩
  exact List.mem_of_getElem? (by rw [List.getElem?_drop]; exact hy)
 ·cases hz
theorem chain_val (ac:∀ i,i < b.lines.length -> ¬ Trans (Hw (tower c b)) i i) {done L:List Nat} {i:Nat} (h:ab1 c b done L) (hi:i < b.lines.length) (hd:∀ j ∈ Ia c b i,j ∈ done) {B:Nat->Bool} (hB:∀ j,j < b.lines.length->(B j=true ↔ i ∈ (tower c b).below j)) {m:Int}
  (hm:(((List.range b.lines.length).filter B).map fun j=>((L.getD j 0:Nat):Int))=[]/\m = -1 \/ m ∈ (((List.range b.lines.length).filter B).map fun j=>((L.getD j 0:Nat):Int))/\∀ y ∈ (((List.range b.lines.length).filter B).map fun j=>((L.getD j 0:Nat):Int)),y <= m):1 + m=(((tower c b).chains.getD i 0:Nat):Int):=by
 rw [(Ou ac).2 i hi]
 have hmem:∀ j,j ∈ (List.range b.lines.length).filter B ↔ j ∈ Ia c b i:=fun j=>by
  rw [List.mem_filter,List.mem_range,U9]
  exact ⟨fun ⟨h1,h2⟩=>⟨h1,(hB j h1).mp h2⟩,fun ⟨h1,h2⟩=>⟨h1,(hB j h1).mpr h2⟩⟩
 have hL:∀ j ∈ Ia c b i,L.getD j 0=(tower c b).chains.getD j 0:=fun j hj=>h.2 j (hd j hj)
 rcases hm with ⟨h0,rfl⟩ | ⟨h1,h2⟩
 ·have:Ia c b i=[]:=by
   cases e:Ia c b i with
   | nil=>rfl
   | cons j t =>
    have:j ∈ (List.range b.lines.length).filter B:=(hmem j).mpr (by rw [e]; exact List.mem_cons_self ..)
    rw [List.map_eq_nil_iff] at h0
    rw [h0] at this
    cases this
  rw [this,aeF]
  rfl
 ·obtain ⟨j,hj,rfl⟩:=List.mem_map.mp h1
  have hj2:=(hmem j).mp hj
  have g1:=abk (f:=fun j=>(tower c b).chains.getD j 0 + 1) hj2
  obtain ⟨y,hy,ey⟩:=V9 (f:=fun j=>(tower c b).chains.getD j 0 + 1) (k:=Ia c b i) (by omega)
  have:=h2 _ (List.mem_map.mpr ⟨y,(hmem y).mpr hy,rfl⟩)
  have e1:=hL j hj2
  have e2:=hL y hy
  omega
end
def Eu (p:List Nat):Bytes:=ascii "page" ++ p.flatMap (fun i=>32 :: decimal i) ++ [10]
theorem Y6 (x:Bytes):∀ p:List Nat,line (x :: p.map decimal)=x ++ p.flatMap (fun i=>32 :: decimal i) ++ [10]
 | []=>by rw [List.map_nil,line,List.flatMap_nil,List.append_nil]
 | i :: p=>by
  rw [List.map_cons,line,Y6 (decimal i) p,List.flatMap_cons]
  ·simp
  ·intro h; cases h
theorem Yk (l:Pages):pagesText l=l.flatMap Eu:=by
 unfold pagesText Eu
 congr 1
 funext p
 exact Y6 _ p
end Mx
namespace L2
open PySem PySem.Spec PyProof.Rows
abbrev Key:=Sum Int Str
def S7:Key->Value->Bool
 | .inl k,v=>Value.isInt k v
 | .inr x,v=>Value.isStrOf x v
def alx (w:World):Key->Int
 | .inl k=>hashInt k
 | .inr x=>hashStr w x
theorem CV:∀ {k:Key} {v:Value},S7 k v=true->(∃ i t,k=Sum.inl i/\v=Value.int i t) \/ (∃ x t,k=Sum.inr x/\v=Value.str x t)
 | .inl i,v,h=>by
  obtain ⟨t,e⟩:=Value.isInt_shape (k:=i) (v:=v) h
  exact .inl ⟨i,t,rfl,e⟩
 | .inr x,v,h=>by
  obtain ⟨t,e⟩:=Value.isStrOf_shape (x:=x) (v:=v) h
  exact .inr ⟨x,t,rfl,e⟩
theorem aeN (i:Int) (t:Tok):S7 (.inl i) (.int i t)=true:=by simp [S7,Value.isInt]
theorem aeM (x:Str) (t:Tok):S7 (.inr x) (.str x t)=true:=by simp [S7,Value.isStrOf]
theorem ai5 (a b:Int):decide ((Sum.inl a:Key)=Sum.inl b)=(a == b):=by
 by_cases e:a=b
 ·subst e; simp
 ·have h:¬ (Sum.inl a:Key)=Sum.inl b:=fun q=>e (Sum.inl.inj q)
  rw [decide_eq_false h]
  exact (beq_eq_false_iff_ne.mpr e).symm
theorem ai2 (a b:Str):decide ((Sum.inr a:Key)=Sum.inr b)=decide (a=b):=by
 by_cases e:a=b
 ·subst e; simp
 ·have h:¬ (Sum.inr a:Key)=Sum.inr b:=fun q=>e (Sum.inr.inj q)
  rw [decide_eq_false h,decide_eq_false e]
theorem ai4 (a:Int) (b:Str):decide ((Sum.inl a:Key)=Sum.inr b)=false:=decide_eq_false (fun q=>nomatch q)
theorem ai3 (a:Str) (b:Int):decide ((Sum.inr a:Key)=Sum.inl b)=false:=decide_eq_false (fun q=>nomatch q)
def CT (prog:Program) (w:World):PySem.KeyKind prog w Key where
 is:=S7
 hash:=alx w
 inj:=fun v a b ha hb=>by
  rcases CV ha with ⟨i,t,rfl,rfl⟩ | ⟨x,t,rfl,rfl⟩
  ·rcases CV hb with ⟨j,u,rfl,e⟩ | ⟨y,u,rfl,e⟩
   ·injection e with e1 _; rw [e1]
   ·exact nomatch e
  ·rcases CV hb with ⟨j,u,rfl,e⟩ | ⟨y,u,rfl,e⟩
   ·exact nomatch e
   ·injection e with e1 _; rw [e1]
 byValue:=fun k v h=>by
  rcases CV h with ⟨i,t,rfl,rfl⟩ | ⟨x,t,rfl,rfl⟩ <;> rfl
 pyHash:=fun hv h=>by
  rcases CV hv with ⟨i,t,rfl,rfl⟩ | ⟨x,t,rfl,rfl⟩
  ·exact wpAny_pyHash_int h
  ·exact wpAny_pyHash_str h
 eqBool:=fun hu hv h=>by
  rcases CV hu with ⟨i,t,rfl,rfl⟩ | ⟨x,t,rfl,rfl⟩
  ·rcases CV hv with ⟨j,u,rfl,rfl⟩ | ⟨y,u,rfl,rfl⟩
   ·rw [ai5] at h; exact wpAny_eqBool_int h
   ·rw [ai4] at h; exact SeqAt.EqAt.int_str i t y u _ _ _ _ h
  ·rcases CV hv with ⟨j,u,rfl,rfl⟩ | ⟨y,u,rfl,rfl⟩
   ·rw [ai3] at h; exact SeqAt.EqAt.str_int x t j u _ _ _ _ h
   ·rw [ai2] at h; exact wpAny_eqBool_str h
 «strs»:=fun k x t v h=>by
  rcases CV h with ⟨i,u,rfl,e⟩ | ⟨y,u,rfl,e⟩
  ·exact nomatch e
  ·injection e with e1 _
   subst e1
   cases v <;> rfl
theorem abj (prog:Program) (w:World) (i:Int) (t:Tok):(CT prog w).is (.inl i) (.int i t)=true:=aeN i t
theorem abi (prog:Program) (w:World) (x:Str) (t:Tok):(CT prog w).is (.inr x) (.str x t)=true:=aeM x t
inductive V where
 | non | bl (b:Bool) | int (i:Int) | str (x:Str) | byt (b:Array UInt8) | flt (b:UInt64) | ref (a:Addr) | ty (n:String)
 deriving DecidableEq
def RelV:V->Value->Prop
 | .non,u=>u=Value.none
 | .bl b,u=>u=Value.bool b
 | .int i,u=>∃ t,u=Value.int i t
 | .str x,u=>∃ t,u=Value.str x t
 | .byt b,u=>∃ t,u=Value.bytes b t
 | .flt b,u=>∃ t,u=Value.float b t
 | .ref a,u=>u=Value.ref a
 | .ty n,u=>u=Value.type n
abbrev Vals:List V->List Value->Prop:=Paired RelV
theorem Vals.length {xs:List V} {us:List Value} (r:Vals xs us):xs.length=us.length:=Paired.length r
theorem Vals.get:∀ {xs:List V} {us:List Value} {i:Nat} {x:V},Vals xs us->xs[i]? = some x->∃ u,us[i]? = some u/\RelV x u
 | _,_,_,_,.nil,e=>by simp at e
 | _,_,0,_,.cons r _,e=>by simp at e; subst e; exact ⟨_,rfl,r⟩
 | _,_,i + 1,x,.cons _ t,e=>by
  obtain ⟨u,h1,h2⟩:=Vals.get (i:=i) (x:=x) t (by simpa using e)
  exact ⟨u,by simpa using h1,h2⟩
theorem Vals.set {x:V} {u:Value} (r:RelV x u):∀ {xs:List V} {us:List Value} (i:Nat),Vals xs us->Vals (xs.set i x) (us.set i u)
 | _,_,_,.nil=>.nil
 | _,_,0,.cons _ t=>.cons r t
 | _,_,i + 1,.cons q t=>.cons q (Vals.set r i t)
theorem Vals.append:∀ {xs ys:List V} {us ws:List Value},Vals xs us->Vals ys ws->Vals (xs ++ ys) (us ++ ws)
 | _,_,_,_,.nil,s=>s
 | _,_,_,_,.cons r t,s=>.cons r (Vals.append t s)
theorem Vals.take:∀ {xs:List V} {us:List Value} (n:Nat),Vals xs us->Vals (xs.take n) (us.take n)
 | _,_,0,_=>.nil
 | _,_,_ + 1,.nil=>.nil
 | _,_,n + 1,.cons r t=>.cons r (Vals.take n t)
theorem Vals.drop:∀ {xs:List V} {us:List Value} (n:Nat),Vals xs us->Vals (xs.drop n) (us.drop n)
 | _,_,0,r=>r
 | _,_,_ + 1,.nil=>.nil
 | _,_,n + 1,.cons _ t=>Vals.drop n t
def OD:Option V->Option Value->Prop
 | some v,some u=>RelV v u
 | none,none=>True
 | _,_=>False
def KV {κ:Type}:List (κ × V)->List (κ × Value)->Prop:=Paired fun (p:κ × V) (q:κ × Value)=>p.1=q.1/\RelV p.2 q.2
def kV:Key->V
 | .inl i=>.int i
 | .inr x=>.str x
inductive HO where
  | lst (xs:List V)
  | tup (xs:List V)
  | dK (kvs:List (Key × V)) | dT (kvs:List (List Key × V))
  | set (S:Int->Bool) (n:Nat)
  | ins (C dx:Addr) (fs:List (Str × V))
  | own (x:Addr)
  | xd (fs:List (Str × V))
  | met (f x:Addr)
  | rng (lo hi:Int)
  | frz (o:Obj) (u:HO)
  | tbl (ps:Array Value)
  | ext (φ:Heap->Prop)
abbrev Hp:=Addr->Option HO
def upd (H:Hp) (a:Addr) (o:HO):Hp:=fun b=>if b=a then some o else H b
theorem Ab {H:Hp} {a:Addr} {o:HO}:upd H a o a=some o:=by unfold upd; rw [if_pos rfl]
theorem Ah {H:Hp} {a b:Addr} {o:HO} (h:b ≠ a):upd H a o b=H b:=by unfold upd; rw [if_neg h]
theorem agX {H:Hp} {a:Addr} {o u:HO}:upd (upd H a o) a u=upd H a u:=by
 funext b; unfold upd; split <;> rfl
theorem Gg {H:Hp} {a b:Addr} {o u:HO} (h:H a=some o) (h':H b=some u) (d:o ≠ u):a ≠ b:=by
 intro e; subst e; rw [h] at h'; exact d (Option.some.inj h')
theorem Bh {H:Hp} {a b:Addr} {o:HO} (h:H a=some o) (h':H b=none):a ≠ b:=by
 intro e; subst e; rw [h] at h'; cases h'
section
variable (P:Program) (w:World)
def Ds (H:Hp) (h:Heap) (a:Addr):HO->Prop
 | .lst xs=>xs.length <= sizeLine/\∃ (its:List Value) (n:Nat),Vals xs its/\h.get? a=some { cls:=.type "list",data:=.seq its.toArray n }
 | .tup xs=>xs.length <= sizeLine/\∃ its:List Value,Vals xs its/\IsTup h a its.toArray
 | .dK kvs=>kvs.length <= sizeLine/\(a == sysModules)=false/\∃ vs,KV kvs vs/\h.DictOf (CT P w) a vs
 | .dT kvs=>kvs.length <= sizeLine/\(a == sysModules)=false/\∃ xs:List (List Key × Addr × Value),
   Paired (fun (p:List Key × V) (q:List Key × Addr × Value)=>p.1=q.1/\H q.2.1=some (.tup (p.1.map kV))/\RelV p.2 q.2.2) kvs xs /\
   ∃ o es ep,h.get? a=some o/\o.ExactDict/\o.data = .dict es ep/\es.toList=xs.map (entryOfKey (tupleKind (CT P w)))/\(xs.map (·.1)).Nodup
 | .set S n=>h.SetOf (intKind P w) a S n
 | .ins C dx fs=>H dx=some (.own a)/\fs.length <= 1000/\dx ≠ a/\h.get? a=some (PySem.W.instObj C dx) /\
   ∃ mA,h.Ns1 dx mA/\(∀ f,OD (fs.lookup f) (mA f))/\PySem.Within mA (fs.map (·.1))
 | .own _=>∃ o,h.get? a=some o
 | .xd fs=>∃ mA,h.Ns1 a mA/\∀ f,OD (fs.lookup f) (mA f)
 | .rng lo hi=>∃ t u v,h.get? a=some { cls:=.type "range",data:=.fields #[.int lo t,.int hi u,.int 1 v] }
 | .frz o u=>h.get? a=some o/\Ds H h a u
 | .tbl ps=>h.get? a=some { cls:=.none,data:=.fields ps }
 | .met f x=>h.get? a=some (PySem.W.methodObj (.ref f) (.ref x))
 | .ext φ=>φ h/\(∃ o,h.get? a=some o)/\∀ h1 h2:Heap,φ h1->(∀ o,h1.get? a=some o->h2.get? a=some o)->φ h2
def HOk (H:Hp) (h:Heap):Prop:=∀ a o,H a=some o->Ds P w H h a o
end
section
variable {P:Program} {w:World} {H H':Hp} {h h':Heap} {a:Addr} {o:HO}
theorem Ds.lt (x:Ds P w H h a o):a < h.objs.size:=by
 cases o with
 | lst xs=>obtain ⟨_,_,_,_,e⟩:=x; exact Heap.lt_size e
 | tup xs=>obtain ⟨_,_,_,p⟩:=x; exact p.lt
 | dK kvs=>obtain ⟨_,_,_,_,o,_,_,e,_⟩:=x; exact Heap.lt_size e
 | dT kvs=>obtain ⟨_,_,_,_,o,_,_,e,_⟩:=x; exact Heap.lt_size e
 | set S n=>obtain ⟨o,_,_,_,e,_⟩:=x; exact Heap.lt_size e
 | ins C dx fs=>obtain ⟨_,_,_,e,_⟩:=x; exact Heap.lt_size e
 | own y=>obtain ⟨_,e⟩:=x; exact Heap.lt_size e
 | xd fs=>obtain ⟨_,⟨_,_,_,e,_⟩,_⟩:=x; exact Heap.lt_size e
 | rng lo hi=>obtain ⟨_,_,_,e⟩:=x; exact Heap.lt_size e
 | frz ob u=>obtain ⟨e,_⟩:=x; exact Heap.lt_size e
 | tbl ps=>exact Heap.lt_size (show h.get? a=some _ from x)
 | met f y=>exact Heap.lt_size (show h.get? a=some _ from x)
 | ext φ=>obtain ⟨_,⟨_,e⟩,_⟩:=x; exact Heap.lt_size e
theorem Paired.aiV {α β:Type} {F G:α->β->Prop}:∀ {l₁:List α} {l₂:List β},Paired F l₁ l₂->(∀ a b,F a b->G a b)->Paired G l₁ l₂
 | _,_,.nil,_=>.nil
 | _,_,.cons r t,f=>.cons (f _ _ r) (Paired.aiV t f)
theorem Ds.stay (x:Ds P w H h a o) (k:∀ b u,(b=a \/ H b=some (.own a))->h.get? b=some u->h'.get? b=some u)
  (ho:∀ b,H b=some (.own a)->H' b=some (.own a)) (ht:∀ b xs,H b=some (.tup xs)->H' b=some (.tup xs)):Ds P w H' h' a o:=by
 induction o with
 | lst xs=>obtain ⟨z,its,n,r,e⟩:=x; exact ⟨z,its,n,r,k _ _ (.inl rfl) e⟩
 | tup xs=>obtain ⟨z,its,r,ob,e,c⟩:=x; exact ⟨z,its,r,ob,k _ _ (.inl rfl) e,c⟩
 | dK kvs=>obtain ⟨z,y,vs,r,ob,es,ep,e,c⟩:=x; exact ⟨z,y,vs,r,ob,es,ep,k _ _ (.inl rfl) e,c⟩
 | dT kvs =>
  obtain ⟨z,y,xs,r,ob,es,ep,e,c⟩:=x
  exact ⟨z,y,xs,Paired.aiV r fun p q z=>⟨z.1,ht _ _ z.2.1,z.2.2⟩,ob,es,ep,k _ _ (.inl rfl) e,c⟩
 | set S n=>obtain ⟨ob,es,ep,t,e,c⟩:=x; exact ⟨ob,es,ep,t,k _ _ (.inl rfl) e,c⟩
 | ins C dx fs =>
  obtain ⟨d,z,ne,e,mA,⟨od,es,ep,e2,c⟩,r⟩:=x
  exact ⟨ho _ d,z,ne,k _ _ (.inl rfl) e,mA,⟨od,es,ep,k _ _ (.inr d) e2,c⟩,r⟩
 | own y=>obtain ⟨ob,e⟩:=x; exact ⟨ob,k _ _ (.inl rfl) e⟩
 | xd fs=>obtain ⟨mA,⟨od,es,ep,e,c⟩,r⟩:=x; exact ⟨mA,⟨od,es,ep,k _ _ (.inl rfl) e,c⟩,r⟩
 | rng lo hi=>obtain ⟨t,u,v,e⟩:=x; exact ⟨t,u,v,k _ _ (.inl rfl) e⟩
 | frz ob u ih=>obtain ⟨e,q⟩:=x; exact ⟨k _ _ (.inl rfl) e,ih q⟩
 | tbl ps =>
  have e:h.get? a=some { cls:=.none,data:=.fields ps }:=x
  show h'.get? a=some { cls:=.none,data:=.fields ps }
  exact k a _ (.inl rfl) e
 | met f y =>
  have e:h.get? a=some (PySem.W.methodObj (.ref f) (.ref y)):=x
  show h'.get? a=some (PySem.W.methodObj (.ref f) (.ref y))
  exact k a _ (.inl rfl) e
 | ext φ=>obtain ⟨p,⟨o,e⟩,st⟩:=x; exact ⟨st _ _ p fun o q=>k _ _ (.inl rfl) q,⟨o,k _ _ (.inl rfl) e⟩,st⟩
theorem HOk.lt (x:HOk P w H h) (e:H a=some o):a < h.objs.size:=(x a o e).lt
theorem HOk.fresh (x:HOk P w H h) (e:h.objs.size <= a):H a=none:=by
 cases q:H a with
 | none=>rfl
 | some u=>exact absurd (Nat.lt_of_lt_of_le (x.lt q) e) (Nat.lt_irrefl _)
theorem HOk.kept (x:HOk P w H h) (k:∀ b u,h.get? b=some u->h'.get? b=some u):HOk P w H h':=fun a o e =>
 (x a o e).stay (fun b u _ q=>k b u q) (fun _ q=>q) fun _ _ q=>q
theorem HOk.laid (x:HOk P w H h) (k:∀ b u,h.get? b=some u->h'.get? b=some u) (hp:h.objs.size <= a) (new:Ds P w (upd H a o) h' a o):HOk P w (upd H a o) h':=fun b u e=>by
 have hn:=x.fresh hp
 by_cases hb:b=a
 ·subst hb; rw [Ab] at e; cases e; exact new
 ·rw [Ah hb] at e
  exact (x b u e).stay (fun c v _ q=>k c v q) (fun c q=>by rw [Ah (Bh q hn)]; exact q) fun c xs q=>by rw [Ah (Bh q hn)]; exact q
end
def Rd (H:Hp) (a:Addr) (u:HO):Prop:=H a=some u \/ ∃ o,H a=some (.frz o u)
theorem Rd.ok {P:Program} {w:World} {H:Hp} {h:Heap} {a:Addr} {u:HO} (r:Rd H a u) (x:HOk P w H h):Ds P w H h a u:=by
 rcases r with r | ⟨o,r⟩
 ·exact x a u r
 ·obtain ⟨_,q⟩:=x a _ r
  exact q
def Mut:Option HO->Prop
 | some (.lst _)=>True
 | some (.dK _)=>True
 | some (.dT _)=>True
 | some (.set _ _)=>True
 | some (.ins _ _ _)=>True
 | some (.ext _)=>True
 | _=>False
section
variable {P:Program} {w:World} {H:Hp} {h h':Heap} {x e:Addr} {o':HO}
theorem HOk.write (ok:HOk P w H h) (mu:Mut (H x)) (he:e=x \/ H e=some (.own x)) (k:∀ b u,b ≠ e->h.get? b=some u->h'.get? b=some u) (heo:∃ u,h'.get? e=some u)
  (new:Ds P w (upd H x o') h' x o'):HOk P w (upd H x o') h':=fun b u q=>by
 have aka:∀ c y,H c=some (.own y)->c ≠ x:=fun c y r z=>by subst z; rw [r] at mu; exact mu
 have als:∀ c xs,H c=some (.tup xs)->c ≠ x:=fun c xs r z=>by subst z; rw [r] at mu; exact mu
 by_cases hb:b=x
 ·subst hb; rw [Ab] at q; cases q; exact new
 ·rw [Ah hb] at q
  by_cases hbe:b=e
  ·have q':H b=some (.own x):=by
    rcases he with z | z
    ·exact absurd (hbe.trans z) hb
    ·rw [hbe]; exact z
   rw [q] at q'; cases q'
   obtain ⟨v,hv⟩:=heo
   exact ⟨v,by rw [hbe]; exact hv⟩
  ·refine (ok b u q).stay (fun c v hc r=>k c v ?_ r) (fun c r=>by rw [Ah (aka c b r)]; exact r) fun c xs r=>by rw [Ah (als c xs r)]; exact r
   rcases hc with rfl | hc
   ·exact hbe
   ·rintro rfl
    rcases he with z | z
    ·exact aka c b hc z
    ·rw [hc] at z; cases z; exact hb rfl
end
structure Un (fs ex:List Addr) (H H':Hp) (h h':Heap):Prop where
 keep:∀ b o,h.get? b=some o->H b=none->b ∉ fs->b ∉ ex->h'.get? b=some o
 slot:∀ b o,h.get? b=some o->H b=none->b ∈ fs->b ∉ ex->∃ sl,h'.get? b=some { o with slots:=sl }
 free:∀ b o,h.get? b=some o->H b=none->b ∉ ex->H' b=none
 there:∀ b o,h.get? b=some o->b ∉ ex->∃ o',h'.get? b=some o'
 tups:∀ b xs,H b=some (.tup xs)->H' b=some (.tup xs)
 Wt:∀ b o u,H b=some (.frz o u)->H' b=some (.frz o u)
 Xm:∀ b ps,H b=some (.tbl ps)->∃ more,H' b=some (.tbl (ps ++ more))
section
variable {fs fs' ex ex':List Addr} {H H1 H2:Hp} {h h1 h2 h':Heap} {a x e:Addr} {o:HO}
theorem Un.any (u:Un fs ex H H1 h h1) {b:Addr} {ob:Obj} (q:h.get? b=some ob) (n:H b=none) (hx:b ∉ ex):∃ sl,h1.get? b=some { ob with slots:=sl }:=by
 by_cases hb:b ∈ fs
 ·exact u.slot b ob q n hb hx
 ·exact ⟨ob.slots,u.keep b ob q n hb hx⟩
theorem Un.kept (k:∀ b u,h.get? b=some u->h'.get? b=some u):Un fs ex H H h h' :=
 ⟨fun b ob q _ _ _=>k b ob q,fun b ob q _ _ _=>⟨ob.slots,k b ob q⟩,fun _ _ _ n _=>n,fun b ob q _=>⟨ob,k b ob q⟩,fun _ _ q=>q,fun _ _ _ q=>q,fun _ ps q=>⟨#[],by rw [q]; simp⟩⟩
theorem Un.refl:Un fs ex H H h h:=Un.kept fun _ _ q=>q
theorem Un.laid (k:∀ b u,h.get? b=some u->h'.get? b=some u) (hp:h.objs.size <= a) (hn:H a=none):Un fs ex H (upd H a o) h h' where
 keep:=fun b u q _ _ _=>k b u q
 slot:=fun b u q _ _ _=>⟨u.slots,k b u q⟩
 free:=fun b u q n _=>by rw [Ah (Nat.ne_of_lt (Nat.lt_of_lt_of_le (Heap.lt_size q) hp))]; exact n
 there:=fun b u q _=>⟨u,k b u q⟩
 tups:=fun b xs q=>by rw [Ah (Bh q hn)]; exact q
 Wt:=fun b u xs q=>by rw [Ah (Bh q hn)]; exact q
 Xm:=fun b ps q=>⟨#[],by rw [Ah (Bh q hn),q]; simp⟩
theorem Un.write (mu:Mut (H x)) (he:e=x \/ H e=some (.own x)) (k:∀ b u,b ≠ e->h.get? b=some u->h'.get? b=some u) (heo:∃ u,h'.get? e=some u):Un fs ex H (upd H x o) h h':=by
 have hx:∀ b,H b=none->b ≠ x:=fun b n z=>by subst z; rw [n] at mu; exact mu
 have hb:∀ b,H b=none->b ≠ e:=fun b n z=>by
  subst z
  rcases he with r | r
  ·exact hx b n r
  ·rw [n] at r; cases r
 have hm:∀ b u,H b=some u -> ¬ Mut (some u)->b ≠ x:=fun b u q nm z=>by subst z; rw [q] at mu; exact nm mu
 refine ⟨fun b u q n _ _=>k b u (hb b n) q,fun b u q n _ _=>⟨u.slots,k b u (hb b n) q⟩,fun b u q n _=>by rw [Ah (hx b n)]; exact n,fun b u q _=>?_,
  fun b xs q=>by rw [Ah (hm b _ q fun z=>z)]; exact q,fun b u xs q=>by rw [Ah (hm b _ q fun z=>z)]; exact q,fun b ps q=>⟨#[],by rw [Ah (hm b _ q fun z=>z),q]; simp⟩⟩
 by_cases hbe:b=e
 ·subst hbe; exact heo
 ·exact ⟨u,k b u hbe q⟩
end
def trk (h:Heap) (H:Hp):List Addr:=(List.range h.objs.size).filter fun a=>(H a).isSome
def XF (h:Heap) (H:Hp):Heap:=PySem.W.hideAll h (trk h H)
theorem aeR (h:Heap) (H:Hp):(XF h H).objs.size=h.objs.size:=PySem.W.hideAll_size _ _
theorem agp {h:Heap} {H:Hp} {b:Addr} {o:Obj} (e:h.get? b=some o) (n:H b=none):(XF h H).get? b=some o :=
 PySem.W.hideAll_get _ e fun hm=>by
  have q:(H b).isSome=true:=(List.mem_filter.mp hm).2
  rw [n] at q; simp at q
theorem ahp {h:Heap} {H:Hp} {b:Addr} {o:Obj} (e:(XF h H).get? b=some o):h.get? b=some o/\H b=none:=by
 have e':h.get? b=some o:=PySem.W.of_hideAll (trk h H) e
 refine ⟨e',?_⟩
 cases q:H b with
 | none=>rfl
 | some x =>
  have hm:b ∈ trk h H:=List.mem_filter.mpr ⟨List.mem_range.mpr (Heap.lt_size e'),by simp [q]⟩
  have z:(XF h H).get? b=none:=PySem.W.hideAll_none (trk h H) hm
  rw [z] at e; cases e
structure Mod (K:PySem.W.Frag) (mg:Str->Option Value) (base:Heap):Prop where
 kin:K.In base
 glob:base.Ns mainGlobals mg
 blt:∃ mb,base.Ns builtinsNs mb/\∀ x:Str,x ≠ "__name__" -> mb x=bootBuiltins x
 nolimit:base.NoLimit
structure Cx where
 prog:Program
 w:World
 K:PySem.W.Frag
 mg:Str->Option Value
 base:Heap
 A:Around
 N:List Str
 s_0:Shared
 H_0:Hp
 env:Env
 outer:List Env
 stack:List Env
 ex:List Addr
 fn:Str->Bool
 calm:Bool
 pn:List (Addr × Obj)
 xe:Value->Shared->Prop
def frs (l:List Env):List Addr:=l.filterMap (·.frame)
abbrev Cx.fs (X:Cx):List Addr:=frs X.outer
def Vis (sc:Scope) (x:Str):Prop:=sc.names.lookup x=some .local \/ sc.names.lookup x=some .cell \/ sc.names.lookup x=some .free
def Loc (sc:Scope) (x:Str):Prop:=sc.names.lookup x=some .local \/ sc.names.lookup x=some .cell
def Look (env:Env) (h:Heap) (m:Str->Option Value) (x:Str) (u:Value):Prop :=
 (env.kindOf x=some .local/\m x=some u) \/ ((env.kindOf x=some .cell \/ env.kindOf x=some .free)/\∃ c,env.cells.lookup x=some c/\h.IsCell c (some u))
structure Cx.Ok (X:Cx):Prop where
 mod:Mod X.K X.mg X.base
 kind:X.env.scope.kind = .function
 glob:X.env.globals=mainGlobals
 blt:X.env.builtins=builtinsNs
 above:X.s_0.heap.objs.size <= X.env.locals
 inj:∀ x y c,X.env.cells.lookup x=some c->X.env.cells.lookup y=some c->x=y
 has:∀ x,(X.env.kindOf x=some .cell \/ X.env.kindOf x=some .free)->∃ c,X.env.cells.lookup x=some c
 cab:∀ x c,X.fn x=true->X.env.cells.lookup x=some c->X.s_0.heap.objs.size <= c
 hd:X.calm=true->X.A.handled=none
 frames:X.A.frames=some X.stack
 stk:X.stack=X.outer \/ (X.stack=X.env :: X.outer/\X.env.frame=some X.env.locals)
 exf:∀ b ∈ X.ex,b ≠ X.env.locals/\∀ x c,X.env.cells.lookup x=some c->c ≠ b
 bs:∀ b o,X.base.get? b=some o->X.s_0.heap.get? b=some o/\X.H_0 b=none
 bsz:X.base.objs.size <= X.s_0.heap.objs.size
 af1:∀ b o,X.base.get? b=some o->b ∉ X.ex
 agu:∀ b ∈ X.ex,b ∉ X.fs
 T3:X.s_0.heap.FunFrames X.base X.outer
 frf:∀ b ∈ X.fs,X.H_0 b=none
structure Inv (X:Cx) (pins:List (Addr × Obj)) (σ:List (Option V)) (H:Hp) (s:Shared):Prop where
 ok:X.Ok
 os:s.os=X.s_0.os
 bare:AllBare s.gens
 base:Un X.fs X.ex X.H_0 H X.s_0.heap s.heap
 loc:∃ m,s.heap.Ns X.env.locals m/\∀ (i:Nat) (x:Str) (v:V),X.N[i]? = some x->σ[i]? = some (some v)->Vis X.env.scope x->∃ u,RelV v u/\Look X.env s.heap m x u
 cell:∀ x c,X.env.cells.lookup x=some c->∃ v,s.heap.IsCell c v
 free:H X.env.locals=none
 Jl:∀ x c,X.env.cells.lookup x=some c->H c=none
 pin:∀ p ∈ X.pn ++ pins,s.heap.get? p.1=some p.2/\H p.1=none/\p.1 ≠ X.env.locals/\p.1 ∉ X.fs/\∀ v,p.2.data ≠ .cell v
 hok:HOk X.prog X.w H s.heap
 len:σ.length=X.N.length
section
variable {X:Cx} {pins:List (Addr × Obj)} {σ:List (Option V)} {H H':Hp} {s:Shared} {h':Heap}
theorem Cx.Ok.alv (ok:X.Ok) {b:Addr} {o:Obj} (e:X.base.get? b=some o):b ∉ X.fs:=fun hb=>by
 have:=(ok.T3.mem hb).1
 rw [e] at this; cases this
theorem Inv.bs (I:Inv X pins σ H s):∀ b o,X.base.get? b=some o->s.heap.get? b=some o/\H b=none:=fun b o e =>
 ⟨I.base.keep b o (I.ok.bs b o e).1 (I.ok.bs b o e).2 (I.ok.alv e) (I.ok.af1 b o e),I.base.free b o (I.ok.bs b o e).1 (I.ok.bs b o e).2 (I.ok.af1 b o e)⟩
theorem Inv.bk (I:Inv X pins σ H s):∀ b o,X.base.get? b=some o->s.heap.get? b=some o:=fun b o e=>(I.bs b o e).1
theorem Inv.mod (I:Inv X pins σ H s):Mod X.K X.mg X.base:=I.ok.mod
theorem Inv.kIn (I:Inv X pins σ H s):X.K.In s.heap:=I.ok.mod.kin.keeps I.bk
theorem Inv.nolimit (I:Inv X pins σ H s):s.heap.NoLimit:=I.ok.mod.nolimit.keeps I.bk
theorem Inv.lt (I:Inv X pins σ H s):X.env.locals < s.heap.objs.size:=let ⟨_,hn,_⟩:=I.loc; hn.lt
theorem Inv.sz (I:Inv X pins σ H s):X.s_0.heap.objs.size <= s.heap.objs.size:=Nat.le_trans I.ok.above (Nat.le_of_lt I.lt)
theorem Inv.alu (I:Inv X pins σ H s) {a:Addr} (h:s.heap.objs.size <= a):a ∉ X.fs:=fun hb=>by
 obtain ⟨_,o,ho,_⟩:=I.ok.T3.mem hb
 exact absurd (Nat.lt_of_lt_of_le (Heap.lt_size ho) (Nat.le_trans I.sz h)) (Nat.lt_irrefl _)
theorem Inv.cne (I:Inv X pins σ H s):∀ x c,X.env.cells.lookup x=some c->c ≠ X.env.locals:=fun x c e z=>by
 obtain ⟨v,o,ho,hd⟩:=I.cell x c e
 obtain ⟨m,⟨o',es,ep,ho',hd',_⟩,_⟩:=I.loc
 rw [z,ho'] at ho; cases ho; rw [hd'] at hd; cases hd
theorem Inv.T3 (I:Inv X pins σ H s):s.heap.FunFrames X.base X.outer:=by
 have all:∀ (l:List Env),(∀ b ∈ frs l,b ∈ X.fs)->X.s_0.heap.FunFrames X.base l->s.heap.FunFrames X.base l:=by
  intro l
  induction l with
  | nil=>intro _ _; trivial
  | cons env r ih =>
   intro hs hl
   obtain ⟨hk,⟨L,o,hf,hn,ho,hd⟩,hr⟩:=hl
   have hL:L ∈ X.fs:=hs L (by unfold frs; rw [List.filterMap_cons,hf]; exact List.mem_cons_self)
   obtain ⟨sl,e⟩:=I.base.slot L o ho (I.ok.frf L hL) hL fun z=>I.ok.agu L z hL
   exact ⟨hk,⟨L,_,hf,hn,e,hd⟩,ih (fun b hb=>hs b (by unfold frs; rw [List.filterMap_cons,hf]; exact List.mem_cons_of_mem _ hb)) hr⟩
 exact all X.outer (fun _ hb=>hb) I.ok.T3
theorem Inv.stack (I:Inv X pins σ H s):s.heap.FunFrames X.base X.stack:=by
 rcases I.ok.stk with e | ⟨e,hf⟩
 ·rw [e]; exact I.T3
 ·rw [e]
  obtain ⟨m,hn,_⟩:=I.loc
  refine .cons (by rw [I.ok.kind]; decide) hf hn ?_ I.T3
  exact Heap.get?_none_of_le (Nat.le_trans I.ok.bsz I.ok.above)
theorem Inv.aci (I:Inv X pins σ H s):∀ b ∈ frs X.stack,b ∈ X.env.locals :: X.fs:=fun b hb=>by
 rcases I.ok.stk with e | ⟨e,hf⟩
 ·rw [e] at hb; exact List.mem_cons_of_mem _ hb
 ·rw [e] at hb
  unfold frs at hb
  rw [List.filterMap_cons,hf] at hb
  exact hb
theorem Inv.adw (I:Inv X pins σ H s):∀ b ∈ frs X.stack,H b=none:=fun b hb=>by
 rcases List.mem_cons.mp (I.aci b hb) with e | hb
 ·rw [e]; exact I.free
 ·obtain ⟨_,o,ho,_⟩:=I.ok.T3.mem hb
  exact I.base.free b o ho (I.ok.frf b hb) fun z=>I.ok.agu b z hb
theorem Inv.step {g':Array GenState} {t':Nat} {d':Drawn} {ch:List Addr} (I:Inv X pins σ H s)
  (hch:∀ b ∈ ch,(b ∈ X.ex \/ X.s_0.heap.objs.size <= b)/\b ≠ X.env.locals/\(∀ x c,X.env.cells.lookup x=some c->c ≠ b)/\∀ p ∈ X.pn ++ pins,p.1 ≠ b)
  (keep:∀ b o,b ≠ X.env.locals->b ∉ X.fs->b ∉ ch->s.heap.get? b=some o->H b=none->h'.get? b=some o)
  (slot:∀ b o,b ≠ X.env.locals->b ∈ X.fs->b ∉ ch->s.heap.get? b=some o->H b=none->∃ sl,h'.get? b=some { o with slots:=sl }) (free:∀ b o,b ∉ ch->s.heap.get? b=some o->H b=none->H' b=none)
  (there:∀ b o,b ∉ ch->s.heap.get? b=some o->∃ o',h'.get? b=some o')
  (tups:∀ b xs,H b=some (.tup xs)->H' b=some (.tup xs)) (Wt:∀ b o u,H b=some (.frz o u)->H' b=some (.frz o u)) (Xm:∀ b ps,H b=some (.tbl ps)->∃ more,H' b=some (.tbl (ps ++ more)))
  (ns:∀ m,s.heap.Ns X.env.locals m->h'.Ns X.env.locals m) (hok:HOk X.prog X.w H' h') (hg:AllBare g') :
  Inv X pins σ H' { s with heap:=h',gens:=g',drawn:=d',toks:=t' }:=by
 have neL:∀ b o,X.s_0.heap.get? b=some o->b ≠ X.env.locals:=fun b o e=>Nat.ne_of_lt (Nat.lt_of_lt_of_le (Heap.lt_size e) I.ok.above)
 have neC:∀ b o,X.s_0.heap.get? b=some o->b ∉ X.ex->b ∉ ch:=fun b o e hx hb=>by
  rcases (hch b hb).1 with z | z
  ·exact hx z
  ·exact absurd (Nat.lt_of_lt_of_le (Heap.lt_size e) z) (Nat.lt_irrefl _)
 have cellK:∀ x c,X.env.cells.lookup x=some c->∀ v,s.heap.IsCell c v->h'.IsCell c v:=fun x c e v ⟨o,ho,hd⟩=>by
  have nch:c ∉ ch:=fun z=>(hch c z).2.2.1 x c e rfl
  by_cases hc:c ∈ X.fs
  ·obtain ⟨sl,q⟩:=slot c o (I.cne x c e) hc nch ho (I.Jl x c e)
   exact ⟨_,q,hd⟩
  ·exact ⟨o,keep c o (I.cne x c e) hc nch ho (I.Jl x c e),hd⟩
 refine ⟨I.ok,I.os,hg,⟨fun b o e n hb hx=>?_,fun b o e n hb hx=>?_,fun b o e n hx=>?_,fun b o e hx=>?_,fun b xs e=>tups b xs (I.base.tups b xs e),fun b o xs e=>Wt b o xs (I.base.Wt b o xs e),fun b ps e=>?_⟩,?_,fun x c e=>?_,?_,fun x c e=>?_,fun p hp=>?_,hok,I.len⟩
 ·exact keep b o (neL b o e) hb (neC b o e hx) (I.base.keep b o e n hb hx) (I.base.free b o e n hx)
 ·obtain ⟨sl,e1⟩:=I.base.slot b o e n hb hx
  obtain ⟨sl',e2⟩:=slot b _ (neL b o e) hb (neC b o e hx) e1 (I.base.free b o e n hx)
  exact ⟨sl',e2⟩
 ·obtain ⟨o',e1⟩:=I.base.there b o e hx
  exact free b o' (neC b o e hx) e1 (I.base.free b o e n hx)
 ·obtain ⟨o',e1⟩:=I.base.there b o e hx
  exact there b o' (neC b o e hx) e1
 ·obtain ⟨m1,e1⟩:=I.base.Xm b ps e
  obtain ⟨m2,e2⟩:=Xm b _ e1
  exact ⟨m1 ++ m2,by rw [e2,Array.append_assoc]⟩
 ·obtain ⟨m,hn,hl⟩:=I.loc
  refine ⟨m,ns m hn,fun i x v e1 e2 e3=>?_⟩
  obtain ⟨u,r,l⟩:=hl i x v e1 e2 e3
  refine ⟨u,r,?_⟩
  rcases l with l | ⟨k,c,e,z⟩
  ·exact .inl l
  ·exact .inr ⟨k,c,e,cellK x c e _ z⟩
 ·obtain ⟨v,z⟩:=I.cell x c e
  exact ⟨v,cellK x c e v z⟩
 ·obtain ⟨m,⟨o,_,_,ho,_⟩,_⟩:=I.loc
  exact free _ o (fun z=>(hch _ z).2.1 rfl) ho I.free
 ·obtain ⟨v,o,ho,hd⟩:=I.cell x c e
  exact free c o (fun z=>(hch c z).2.2.1 x c e rfl) ho (I.Jl x c e)
 ·obtain ⟨e,n,ne,nf,d⟩:=I.pin p hp
  have nch:p.1 ∉ ch:=fun z=>(hch p.1 z).2.2.2 p hp rfl
  exact ⟨keep p.1 p.2 ne nf nch e n,free p.1 p.2 nch e n,ne,nf,d⟩
theorem Inv.un {t':Nat} (I:Inv X pins σ H s) (u:Un X.fs [] H H' s.heap h') (hok:HOk X.prog X.w H' h'):Inv X pins σ H' { s with heap:=h',toks:=t' }:=by
 obtain ⟨m,⟨o,es,ep,ho,r⟩,_⟩:=id I.loc
 obtain ⟨sl,hL⟩:=u.any ho I.free (by simp)
 exact I.step (g':=s.gens) (d':=s.drawn) (ch:=[]) (fun _ z=>nomatch z) (fun b o _ hb _ e n=>u.keep b o e n hb (by simp)) (fun b o _ hb _ e n=>u.slot b o e n hb (by simp)) (fun b o _ e n=>u.free b o e n (by simp)) (fun b o _ e=>u.there b o e (by simp)) u.tups u.Wt u.Xm (fun m' hm=>by
  obtain ⟨o',es',ep',ho',r'⟩:=hm
  rw [ho] at ho'; cases ho'
  exact ⟨_,es',ep',hL,r'⟩) hok I.bare
theorem Inv.call {g':Array GenState} {t':Nat} {d':Drawn} {ch:List Addr} (I:Inv X pins σ H s) (u:Un (frs X.stack) ch H H' s.heap h') (hok:HOk X.prog X.w H' h') (hg:AllBare g')
  (hch:∀ b ∈ ch,(b ∈ X.ex \/ X.s_0.heap.objs.size <= b)/\b ≠ X.env.locals/\(∀ x c,X.env.cells.lookup x=some c->c ≠ b)/\∀ p ∈ X.pn ++ pins,p.1 ≠ b) :
  Inv X pins σ H' { s with heap:=h',gens:=g',drawn:=d',toks:=t' }:=by
 obtain ⟨m,⟨o,es,ep,ho,r⟩,_⟩:=id I.loc
 obtain ⟨sl,hL⟩:=u.any ho I.free fun z=>(hch _ z).2.1 rfl
 exact I.step (ch:=ch) hch (fun b o hL hb hc e n=>u.keep b o e n (fun z=>(List.mem_cons.mp (I.aci b z)).elim hL hb) hc) (fun b o _ _ hc e n=>u.any e n hc) (fun b o hc e n=>u.free b o e n hc) (fun b o hc e=>u.there b o e hc) u.tups u.Wt u.Xm (fun m' hm=>by
  obtain ⟨o',es',ep',ho',r'⟩:=hm
  rw [ho] at ho'; cases ho'
  exact ⟨_,es',ep',hL,r'⟩) hok hg
theorem Inv.turned {t':Nat} {it:Addr} (I:Inv X pins σ H s) (k:∀ b o,b ≠ it->s.heap.get? b=some o->h'.get? b=some o) (hn:H it=none) (hL:it ≠ X.env.locals)
  (h1:it ∈ X.ex \/ X.s_0.heap.objs.size <= it) (h2:∀ x c,X.env.cells.lookup x=some c->c ≠ it) (h3:∀ p ∈ X.pn ++ pins,p.1 ≠ it):Inv X pins σ H { s with heap:=h',toks:=t' }:=by
 have nit:∀ b u,H b=some u->b ≠ it:=fun b u e z=>by rw [z,hn] at e; cases e
 refine I.step (g':=s.gens) (d':=s.drawn) (ch:=[it]) (fun b hb=>?_) (fun b o _ _ hc e _=>k b o (fun z=>hc (by simp [z])) e) (fun b o _ _ hc e _=>⟨o.slots,k b o (fun z=>hc (by simp [z])) e⟩) (fun _ _ _ _ n=>n)
  (fun b o hc e=>⟨o,k b o (fun z=>hc (by simp [z])) e⟩) (fun _ _ e=>e) (fun _ _ _ e=>e) (fun b ps e=>⟨#[],by rw [e]; simp⟩) (fun m hm=>?_) (fun b u e=>?_) I.bare
 ·have e:b=it:=by simpa using hb
  subst e
  exact ⟨h1,hL,h2,h3⟩
 ·obtain ⟨o,es,ep,ho,r⟩:=hm
  exact ⟨o,es,ep,k _ o (Ne.symm hL) ho,r⟩
 ·refine (I.hok b u e).stay (fun c v hc q=>k c v ?_ q) (fun _ q=>q) fun _ _ q=>q
  rcases hc with z | z
  ·rw [z]; exact nit b u e
  ·exact nit c _ z
theorem Inv.tok (I:Inv X pins σ H s) (t:Nat):Inv X pins σ H { s with toks:=t }:=I.un (h':=s.heap) (t':=t) Un.refl I.hok
theorem Inv.kept {t':Nat} (I:Inv X pins σ H s) (k:∀ b u,s.heap.get? b=some u->h'.get? b=some u):Inv X pins σ H { s with heap:=h',toks:=t' }:=I.un (Un.kept k) (I.hok.kept k)
theorem Inv.laid {a:Addr} {o:HO} {t':Nat} (I:Inv X pins σ H s) (k:∀ b u,s.heap.get? b=some u->h'.get? b=some u) (hp:s.heap.objs.size <= a) (new:Ds X.prog X.w (upd H a o) h' a o) :
  Inv X pins σ (upd H a o) { s with heap:=h',toks:=t' }:=I.un (Un.laid k hp (I.hok.fresh hp)) (I.hok.laid k hp new)
theorem Inv.write {x e:Addr} {o:HO} {t':Nat} (I:Inv X pins σ H s) (mu:Mut (H x)) (he:e=x \/ H e=some (.own x)) (k:∀ b u,b ≠ e->s.heap.get? b=some u->h'.get? b=some u) (heo:∃ u,h'.get? e=some u)
  (new:Ds X.prog X.w (upd H x o) h' x o):Inv X pins σ (upd H x o) { s with heap:=h',toks:=t' }:=I.un (Un.write mu he k heo) (I.hok.write mu he k heo new)
theorem Inv.weak {σ':List (Option V)} (I:Inv X pins σ H s) (hl:σ'.length=σ.length) (w:∀ (i:Nat) v,σ'[i]? = some (some v)->σ[i]? = some (some v)):Inv X pins σ' H s :=
 ⟨I.ok,I.os,I.bare,I.base,let ⟨m,hn,hl'⟩:=I.loc; ⟨m,hn,fun i x v e1 e2 e3=>hl' i x v e1 (w i v e2) e3⟩,I.cell,I.free,I.Jl,I.pin,I.hok,hl.trans I.len⟩
theorem Inv.adE {ah7:List (Addr × Obj)} (I:Inv X pins σ H s) (h:∀ p ∈ ah7,s.heap.get? p.1=some p.2/\H p.1=none/\p.1 ≠ X.env.locals/\p.1 ∉ X.fs/\∀ v,p.2.data ≠ .cell v):Inv X ah7 σ H s :=
 ⟨I.ok,I.os,I.bare,I.base,I.loc,I.cell,I.free,I.Jl,fun p hp=>(List.mem_append.mp hp).elim (fun z=>I.pin p (List.mem_append_left _ z)) (h p),I.hok,I.len⟩
theorem V2 {N:List Str} (hN:N.Nodup) {i j:Nat} {x:Str} (a:N[i]? = some x) (b:N[j]? = some x):i=j:=by
 obtain ⟨h1,e1⟩:=List.getElem?_eq_some_iff.mp a
 obtain ⟨h2,e2⟩:=List.getElem?_eq_some_iff.mp b
 exact (List.getElem_inj hN).mp (e1.trans e2.symm)
theorem Yp {M:Model} {A:Around} {E:Value->Shared->Prop} {i:Nat} {x:Str} {v:V} {u:Value} {Q:Unit->Shared->Prop} (I:Inv X pins σ H s) (hN:X.N.Nodup) (hi:X.N[i]? = some x) (hx:Loc X.env.scope x) (r:RelV v u)
  (h:∀ s',Inv X pins (σ.set i (some v)) H s'->(∃ a,Heap.SameBut a s.heap s'.heap/\(a=X.env.locals \/ X.env.cells.lookup x=some a))->Q () s') (hf:X.fn x=true \/ X.env.scope.names.lookup x=some .local:=by first | exact .inl rfl | exact .inr rfl | assumption):wpAny M A (storeName X.env x u) Q E s:=by
 obtain ⟨m,hn,hl⟩:=id I.loc
 have hcls:(X.env.scope.kind == .class || (X.env.scope.kind == .module && X.env.locals != X.env.globals))=false:=by rw [I.ok.kind]; rfl
 have hiσ:i < σ.length:=by rw [I.len]; exact (List.getElem?_eq_some_iff.mp hi).1
 have cne:=I.cne
 have tracked:∀ {a:Addr} {h':Heap},(∃ o,s.heap.get? a=some o/\H a=none)->Heap.SameBut a s.heap h'->HOk X.prog X.w H h':=fun {a h'} ha hs b ob e=>by
  obtain ⟨_,_,hfree⟩:=ha
  refine (I.hok b ob e).stay (fun c w' hc q=>(hs.2 c ?_).trans q) (fun _ q=>q) fun _ _ q=>q
  rintro rfl
  rcases hc with rfl | hc
  ·rw [hfree] at e; cases e
  ·rw [hfree] at hc; cases hc
 rcases hx with hk | hk
 ·refine wpAny_storeName_local hk hn (fun h' hn' hs=>?_) hcls
  obtain ⟨oL,_,_,hoL,_⟩:=id hn
  refine h _ ⟨I.ok,I.os,I.bare,⟨fun b o e n hb hx=>?_,fun b o e n hb hx=>?_,I.base.free,fun b o e hx=>?_,I.base.tups,I.base.Wt,I.base.Xm⟩,⟨_,hn',fun j y v' e1 e2 e3=>?_⟩,fun y c e=>?_,I.free,I.Jl,fun p hp=>?_,tracked ⟨oL,hoL,I.free⟩ hs,by simpa using I.len⟩ ⟨_,hs,.inl rfl⟩
  ·exact (hs.2 b (Nat.ne_of_lt (Nat.lt_of_lt_of_le (Heap.lt_size e) I.ok.above))).trans (I.base.keep b o e n hb hx)
  ·obtain ⟨sl,e1⟩:=I.base.slot b o e n hb hx
   exact ⟨sl,(hs.2 b (Nat.ne_of_lt (Nat.lt_of_lt_of_le (Heap.lt_size e) I.ok.above))).trans e1⟩
  ·obtain ⟨o',e1⟩:=I.base.there b o e hx
   exact ⟨o',(hs.2 b (Nat.ne_of_lt (Nat.lt_of_lt_of_le (Heap.lt_size e) I.ok.above))).trans e1⟩
  ·by_cases hj:j=i
   ·subst hj
    rw [hi] at e1; cases e1
    rw [List.getElem?_set_self hiσ] at e2
    cases e2
    exact ⟨u,r,.inl ⟨hk,by simp⟩⟩
   ·rw [List.getElem?_set_ne (Ne.symm hj)] at e2
    obtain ⟨u',r',q⟩:=hl j y v' e1 e2 e3
    refine ⟨u',r',?_⟩
    rcases q with ⟨k,e⟩ | ⟨k,c,e,z⟩
    ·refine .inl ⟨k,?_⟩
     have:y ≠ x:=fun e=>hj (V2 hN e1 (e ▸ hi))
     simp [this,e]
    ·exact .inr ⟨k,c,e,z.sameBut hs (cne y c e)⟩
  ·obtain ⟨w',z⟩:=I.cell y c e
   exact ⟨w',z.sameBut hs (cne y c e)⟩
  ·obtain ⟨e,n,ne,nf,d⟩:=I.pin p hp
   exact ⟨(hs.2 p.1 ne).trans e,n,ne,nf,d⟩
 ·have hfn:X.fn x=true:=by
   rcases hf with z | z
   ·exact z
   ·rw [z] at hk; cases hk
  obtain ⟨c,hc⟩:=I.ok.has x (.inl hk)
  obtain ⟨w',z⟩:=I.cell x c hc
  refine wpAny_storeName_cell I.ok.kind hk hc z (fun h' hc' hs=>?_)
  obtain ⟨oc,hoc,alJ⟩:=id z
  refine h { s with heap:=h' } ⟨I.ok,I.os,I.bare,⟨fun b o e n hb hx=>?_,fun b o e n hb hx=>?_,I.base.free,fun b o e hx=>?_,I.base.tups,I.base.Wt,I.base.Xm⟩,⟨m,hn.sameBut hs (Ne.symm (cne x c hc)),fun j y v' e1 e2 e3=>?_⟩,fun y c' e=>?_,I.free,I.Jl,fun p hp=>?_,tracked ⟨oc,hoc,I.Jl x c hc⟩ hs,by simpa using I.len⟩ ⟨c,hs,.inr hc⟩
  ·exact (hs.2 b (Nat.ne_of_lt (Nat.lt_of_lt_of_le (Heap.lt_size e) (I.ok.cab x c hfn hc)))).trans (I.base.keep b o e n hb hx)
  ·obtain ⟨sl,e1⟩:=I.base.slot b o e n hb hx
   exact ⟨sl,(hs.2 b (Nat.ne_of_lt (Nat.lt_of_lt_of_le (Heap.lt_size e) (I.ok.cab x c hfn hc)))).trans e1⟩
  ·obtain ⟨o',e1⟩:=I.base.there b o e hx
   exact ⟨o',(hs.2 b (Nat.ne_of_lt (Nat.lt_of_lt_of_le (Heap.lt_size e) (I.ok.cab x c hfn hc)))).trans e1⟩
  ·by_cases hj:j=i
   ·subst hj
    rw [hi] at e1; cases e1
    rw [List.getElem?_set_self hiσ] at e2
    cases e2
    exact ⟨u,r,.inr ⟨.inl hk,c,hc,hc'⟩⟩
   ·rw [List.getElem?_set_ne (Ne.symm hj)] at e2
    obtain ⟨u',r',q⟩:=hl j y v' e1 e2 e3
    refine ⟨u',r',?_⟩
    rcases q with q | ⟨k,c',e,z'⟩
    ·exact .inl q
    ·refine .inr ⟨k,c',e,z'.sameBut hs ?_⟩
     rintro rfl
     exact hj (V2 hN e1 (I.ok.inj _ _ _ e hc ▸ hi))
  ·by_cases hcc:c'=c
   ·subst hcc; exact ⟨_,hc'⟩
   ·obtain ⟨w2,z2⟩:=I.cell y c' e
    exact ⟨w2,z2.sameBut hs hcc⟩
  ·obtain ⟨e,n,ne,nf,d⟩:=I.pin p hp
   refine ⟨(hs.2 p.1 ?_).trans e,n,ne,nf,d⟩
   intro q
   rw [q,hoc] at e
   have q':oc=p.2:=Option.some.inj e
   exact d w' (by rw [<- q']; exact alJ)
theorem aaN {M:Model} {A:Around} {E:Value->Shared->Prop} {i:Nat} {x:Str} {v:V} {u:Value} {Q:Unit->Shared->Prop} (I:Inv X pins σ H s) (hN:X.N.Nodup) (hi:X.N[i]? = some x) (hx:Loc X.env.scope x) (r:RelV v u)
  (h:∀ s',Inv X pins (σ.set i (some v)) H s'->Q () s') (hf:X.fn x=true \/ X.env.scope.names.lookup x=some .local:=by first | exact .inl rfl | exact .inr rfl | assumption):wpAny M A (storeName X.env x u) Q E s :=
 Yp I hN hi hx r (fun s' I' _=>h s' I') hf
theorem Inv.call' {s':Shared} {ch:List Addr} (I:Inv X pins σ H s) (ho:s'.os=s.os) (u:Un (frs X.stack) ch H H' s.heap s'.heap) (hok:HOk X.prog X.w H' s'.heap) (hg:AllBare s'.gens)
  (hch:∀ b ∈ ch,(b ∈ X.ex \/ X.s_0.heap.objs.size <= b)/\b ≠ X.env.locals/\(∀ x c,X.env.cells.lookup x=some c->c ≠ b)/\∀ p ∈ X.pn ++ pins,p.1 ≠ b):Inv X pins σ H' s':=by
 obtain ⟨h',g',d',t',o'⟩:=s'
 have e:o'=s.os:=ho
 subst e
 exact I.call (g':=g') (t':=t') (d':=d') u hok hg hch
end
abbrev XK:=Value->Option Addr->Hp->Prop
abbrev St:=List (Option V)
abbrev VK:=V->Hp->Prop
abbrev TE:=St->Hp->VK->Prop
abbrev TT:=St->Hp->(Bool->Hp->Prop)->Prop
abbrev TA:=St->Hp->(List V->Hp->Prop)->Prop
structure Ends where
 nx:St->Hp->Prop
 rt:VK
 bk:St->Hp->Prop:=fun _ _=>False
 ct:St->Hp->Prop:=fun _ _=>False
abbrev TS:=Ends->St->Hp->Prop
def EP (X:Cx) (pins:List (Addr × Obj)) (σ:St) (Q:VK) (u:Value) (s':Shared):Prop:=∃ v H',Inv X pins σ H' s'/\RelV v u/\Q v H'
def TP (X:Cx) (pins:List (Addr × Obj)) (σ:St) (Q:Bool->Hp->Prop) (b:Bool) (s':Shared):Prop:=∃ H',Inv X pins σ H' s'/\Q b H'
def AP (X:Cx) (pins:List (Addr × Obj)) (σ:St) (Q:List V->Hp->Prop) (us:List Value) (s':Shared):Prop:=∃ vs H',Inv X pins σ H' s'/\Vals vs us/\Q vs H'
def SP (X:Cx) (pins:List (Addr × Obj)) (D:Ends) (f:Flow) (s':Shared):Prop :=
 match f with
 | .next=>∃ σ' H',Inv X pins σ' H' s'/\D.nx σ' H'
 | .brk=>∃ σ' H',Inv X pins σ' H' s'/\D.bk σ' H'
 | .cont=>∃ σ' H',Inv X pins σ' H' s'/\D.ct σ' H'
 | .ret u=>∃ v σ' H',Inv X pins σ' H' s'/\RelV v u/\D.rt v H'
def PE (X:Cx) (e:Expr) (t:TE):Prop :=
 ∀ (pins:List (Addr × Obj)) (s:Shared) (σ:St) (H:Hp) (Q:VK),Inv X pins σ H s->t σ H Q->wpAny (model X.prog X.w) X.A (eval e X.env) (EP X pins σ Q) X.xe s
def PT (X:Cx) (e:Expr) (t:TT):Prop :=
 ∀ (pins:List (Addr × Obj)) (s:Shared) (σ:St) (H:Hp) (Q:Bool->Hp->Prop),Inv X pins σ H s->t σ H Q->wpAny (model X.prog X.w) X.A (isTrue e X.env (eval e X.env)) (TP X pins σ Q) X.xe s
def PW (X:Cx) (e:Expr) (t:TT):Prop :=
 ∀ (whole:Sem Value) (pins:List (Addr × Obj)) (s:Shared) (σ:St) (H:Hp) (Q:Bool->Hp->Prop),Inv X pins σ H s->t σ H Q->wpAny (model X.prog X.w) X.A (isTrue e X.env whole) (TP X pins σ Q) X.xe s
theorem PW.pt {X:Cx} {e:Expr} {t:TT} (h:PW X e t):PT X e t:=h _
def PA (X:Cx) (es:List Expr) (t:TA):Prop :=
 ∀ (pos:Pos) (pins:List (Addr × Obj)) (s:Shared) (σ:St) (H:Hp) (Q:List V->Hp->Prop),Inv X pins σ H s->t σ H Q->wpAny (model X.prog X.w) X.A (spliced (backTo pos (starEach es X.env))) (AP X pins σ Q) X.xe s
def PS (X:Cx) (st:Stmt) (t:TS):Prop :=
 ∀ (pins:List (Addr × Obj)) (s:Shared) (σ:St) (H:Hp) (D:Ends),Inv X pins σ H s->t D σ H->wpAny (model X.prog X.w) X.A (exec st X.env) (SP X pins D) X.xe s
def PSs (X:Cx) (st:List Stmt) (t:TS):Prop :=
 ∀ (pins:List (Addr × Obj)) (s:Shared) (σ:St) (H:Hp) (D:Ends),Inv X pins σ H s->t D σ H->wpAny (model X.prog X.w) X.A (execs st X.env) (SP X pins D) X.xe s
theorem thn {α:Type} {t:Sem α} {Q Q':α->Shared->Prop} {M:Model} {A:Around} {E:Value->Shared->Prop} {s:Shared} (h:wpAny M A t Q E s) (hQ:∀ a s,Q a s->Q' a s):wpAny M A t Q' E s:=wpAny_mono h hQ fun _ _ x=>x
section
variable {X:Cx}
def ajM (i:Nat):TE:=fun σ H Q=>∃ v,σ[i]? = some (some v)/\Q v H
def tC (v:V):TE:=fun _ H Q=>Q v H
theorem aiI {i:Nat} {x:Str} {pos:Pos} (hN:X.N[i]? = some x) (hv:Vis X.env.scope x) (hd:(x == ("__debug__" : Str))=false:=by decide) (hcd:(x == ("__classdict__" : Str))=false:=by decide):PE X (.Name x pos) (ajM i):=by
 intro pins s σ H Q I h
 obtain ⟨v,e,h⟩:=h
 obtain ⟨m,hn,hl⟩:=I.loc
 obtain ⟨u,r,l⟩:=hl i x v hN e hv
 have fin:EP X pins σ Q u s:=⟨v,H,I,r,h⟩
 rcases l with ⟨hk,hm⟩ | ⟨hk,c,hc,hcell⟩
 ·exact wpAny_Name (wpAny_loadName_local I.ok.kind hk hn hm fin) hd
 ·rcases hk with hk | hk
  ·exact wpAny_Name (wpAny_loadName_cell I.ok.kind hk hc hcell fin) hd
  ·exact wpAny_Name (wpAny_loadName_free I.ok.kind hk hc hcell fin hcd) hd
theorem Am {i j pos}:PE X (.Constant (.int i) j pos) (tC (.int i)):=fun _ _ _ H _ I h=>wpAny_Constant_int ⟨.int i,H,I.tok _,⟨_,rfl⟩,h⟩
theorem FT {b j pos}:PE X (.Constant (.bool b) j pos) (tC (.bl b)):=fun _ _ _ H _ I h=>Constant_bool ⟨.bl b,H,I,rfl,h⟩
theorem BZ {j pos}:PE X (.Constant .none j pos) (tC .non):=fun _ _ _ H _ I h=>Constant_none ⟨.non,H,I,rfl,h⟩
theorem Z1 {x j pos}:PE X (.Constant (.str x) j pos) (tC (.str x)):=fun _ _ _ H _ I h=>Calls.Constant_str ⟨.str x,H,I.tok _,⟨_,rfl⟩,h⟩
def Gl (X:Cx) (x:Str):Prop:=X.env.kindOf x=some .globalImplicit
theorem Z7 {E:Value->Shared->Prop} {pins:List (Addr × Obj)} {s:Shared} {σ:St} {H:Hp} {x:Str} {u:Value} {pos:Pos} {Q:Value->Shared->Prop} (I:Inv X pins σ H s) (hg:Gl X x) (hm:X.mg x=some u) (h:Q u s)
  (hd:(x == ("__debug__" : Str))=false:=by decide):wpAny (model X.prog X.w) X.A (eval (.Name x pos) X.env) Q E s :=
 Calls.Name_function_global I.ok.kind hg (Calls.loadGlobal_global (by rw [I.ok.glob]; exact I.mod.glob.keeps I.bk) hm h) hd
theorem JK {E:Value->Shared->Prop} {pins:List (Addr × Obj)} {s:Shared} {σ:St} {H:Hp} {x:Str} {u:Value} {pos:Pos} {Q:Value->Shared->Prop} (I:Inv X pins σ H s) (hg:Gl X x) (hm:X.mg x=none) (hv:bootBuiltins x=some u) (h:Q u s)
  (hn:x ≠ "__name__" := by decide) (hd:(x == ("__debug__" : Str))=false:=by decide):wpAny (model X.prog X.w) X.A (eval (.Name x pos) X.env) Q E s:=by
 obtain ⟨mb,h1,h2⟩:=I.mod.blt
 exact Calls.Name_function_global I.ok.kind hg (Calls.loadGlobal_builtin (by rw [I.ok.glob]; exact I.mod.glob.keeps I.bk) hm (by rw [I.ok.blt]; exact h1.keeps I.bk) ((h2 x hn).trans hv) h) hd
theorem ahh {x:Str} {v:V} {u:Value} {pos:Pos} (hg:Gl X x) (hm:X.mg x=some u) (r:RelV v u) (hd:(x == ("__debug__" : Str))=false:=by decide):PE X (.Name x pos) (tC v) :=
 fun _ _ _ H _ I h=>Z7 I hg hm ⟨v,H,I,r,h⟩ hd
variable {a b:Expr} {ta tb:TE} {pos:Pos}
def PC (X:Cx) (op:CmpOp) (a b:Expr) (t:TE):Prop :=
 ∀ (pins:List (Addr × Obj)) (s:Shared) (σ:St) (H:Hp) (Q:VK),Inv X pins σ H s->t σ H Q ->
  wpAny (model X.prog X.w) X.A (eval a X.env) (fun v s₁=>wpAny (model X.prog X.w) X.A (eval b X.env) (fun u s₂=>wpAny (model X.prog X.w) X.A (compareOp op v u) (EP X pins σ Q) X.xe s₂) X.xe s₁) X.xe s
theorem abe (b:Expr) {op:CmpOp} (h:op ≠ .In) (h2:op ≠ .NotIn):behindInMarks op b=false:=by
 have e1:(op == CmpOp.In)=false:=by cases op <;> first | rfl | exact absurd rfl h
 have e2:(op == CmpOp.NotIn)=false:=by cases op <;> first | rfl | exact absurd rfl h2
 cases b <;> simp [behindInMarks,e1,e2]
def ak6 (ta:TE):TE:=fun σ H Q=>ta σ H fun x H1=>Q (.bl (decide (x = .non))) H1
def ajQ (ta:TE):TE:=fun σ H Q=>ta σ H fun x H1=>Q (.bl (!decide (x = .non))) H1
theorem RelV.abd {x:V} {v:Value} (r:RelV x v):(v == Value.none)=decide (x = .non):=by
 cases x with
 | non=>cases r; rfl
 | bl _=>cases r; rfl
 | int _=>obtain ⟨t,rfl⟩:=r; rfl
 | str _=>obtain ⟨t,rfl⟩:=r; rfl
 | byt _=>obtain ⟨t,rfl⟩:=r; rfl
 | flt _=>obtain ⟨t,rfl⟩:=r; rfl
 | ref _=>cases r; rfl
 | ty _=>cases r; rfl
theorem DP {j pos'} (ha:PE X a ta):PC X .Is a (.Constant .none j pos') (ak6 ta):=by
 intro pins s σ H Q I h
 refine thn (ha pins s σ H _ I h) fun v s1 ⟨x,H1,I1,r1,q1⟩=>?_
 exact Constant_none (is_none_gen ⟨.bl _,H1,I1,by rw [r1.abd]; rfl,q1⟩)
theorem Ux {j pos'} (ha:PE X a ta):PC X .IsNot a (.Constant .none j pos') (ajQ ta):=by
 intro pins s σ H Q I h
 refine thn (ha pins s σ H _ I h) fun v s1 ⟨x,H1,I1,r1,q1⟩=>?_
 exact Constant_none (isnot_none_gen ⟨.bl _,H1,I1,by rw [r1.abd]; rfl,q1⟩)
def tB (t:TE):TT:=fun σ H Q=>t σ H fun x H1=>∃ c,x = .bl c/\Q c H1
theorem aiK {op:CmpOp} {t:TE} (h:PC X op a b t) (h1:behindInMarks op b=false:=by first | exact abe _ (by decide) (by decide) | rfl):PE X (.Compare a [op] [b] pos) t:=fun pins s σ H Q I hw=>wpAny_Compare1 (h pins s σ H Q I hw) h1
theorem Cj {op:CmpOp} {t:TE} (h:PC X op a b t) (h1:behindInMarks op b=false:=by first | exact abe _ (by decide) (by decide) | rfl):PT X (.Compare a [op] [b] pos) (tB t):=by
 intro pins s σ H Q I hw
 refine wpAny_isTrue_Compare1 (thn (h pins s σ H _ I hw) fun v s1 h1=>thn h1 fun u s2 h2=>thn h2 fun c s3 ⟨x,H1,I1,r1,q1⟩=>?_) h1
 obtain ⟨d,rfl,q⟩:=q1
 cases r1
 exact wpAny_truthy_bool ⟨H1,I1,q⟩
theorem Ea {e:Expr} {t:TE} (h:PE X e t) (he:∀ whole,isTrue e X.env whole=(do let v <- whole; standAt e.pos; holding [v] (truthy v)):=by intro _; rfl):PT X e (tB t):=by
 intro pins s σ H Q I hw
 refine isTrue_plain (thn (h pins s σ H _ I hw) fun v s1 ⟨x,H1,I1,r1,q1⟩=>?_) (he _)
 obtain ⟨d,rfl,q⟩:=q1
 cases r1
 exact wpAny_truthy_bool ⟨H1,I1,q⟩
variable {tA tB':TT} {rest:List Expr}
def alc (t u:TT):TT:=fun σ H Q=>t σ H fun c H1=>if c=true then u σ H1 Q else Q false H1
def tOr (t u:TT):TT:=fun σ H Q=>t σ H fun c H1=>if c=true then Q true H1 else u σ H1 Q
def ak3 (t:TT):TT:=fun σ H Q=>t σ H fun c H1=>Q (!c) H1
theorem PN (ha:PT X a tA):PW X (.BoolOp .And [a] pos) tA:=by
 intro wh pins s σ H Q I h
 refine isTrue_and (thn (ha pins s σ H Q I h) fun c s1 e=>?_)
 cases c with
 | true=>exact isTrue_and_nil e
 | false=>exact e
theorem Ie (ha:PT X a tA):PW X (.BoolOp .Or [a] pos) tA:=by
 intro wh pins s σ H Q I h
 refine isTrue_or (thn (ha pins s σ H Q I h) fun c s1 e=>?_)
 cases c with
 | false=>exact isTrue_or_nil e
 | true=>exact e
theorem VD (ha:PT X a tA) (hb:PW X (.BoolOp .And (b :: rest) pos) tB'):PW X (.BoolOp .And (a :: b :: rest) pos) (alc tA tB'):=by
 intro wh pins s σ H Q I h
 refine isTrue_and (thn (ha pins s σ H _ I h) fun c s1 ⟨H1,I1,q1⟩=>?_)
 cases c with
 | true=>exact hb wh pins s1 σ H1 Q I1 q1
 | false=>exact ⟨H1,I1,q1⟩
theorem GK (ha:PT X a tA) (hb:PW X (.BoolOp .Or (b :: rest) pos) tB'):PW X (.BoolOp .Or (a :: b :: rest) pos) (tOr tA tB'):=by
 intro wh pins s σ H Q I h
 refine isTrue_or (thn (ha pins s σ H _ I h) fun c s1 ⟨H1,I1,q1⟩=>?_)
 cases c with
 | true=>exact ⟨H1,I1,q1⟩
 | false=>exact hb wh pins s1 σ H1 Q I1 q1
theorem Hk (ha:PT X a tA):PT X (.UnaryOp .Not a pos) (ak3 tA):=by
 intro pins s σ H Q I h
 exact isTrue_not (ha pins s σ H (fun c H1=>Q (!c) H1) I h)
def ajW (ta tb:TE):TE:=fun σ H Q=>ta σ H fun x H1=>∃ c,x = .bl c/\if c=true then tb σ H1 Q else Q (.bl false) H1
def ak2 (ta tb:TE):TE:=fun σ H Q=>ta σ H fun x H1=>∃ c,x = .bl c/\if c=true then Q (.bl true) H1 else tb σ H1 Q
def ajP (ta:TE):TE:=fun σ H Q=>ta σ H fun x H1=>∃ c,x = .bl c/\Q (.bl (!c)) H1
theorem Ri {op} {t:TE} (h:PE X a t):PE X (.BoolOp op [a] pos) t:=fun pins s σ H Q I hw=>BoolOp_one (h pins s σ H Q I hw)
theorem JD (ha:PE X a ta) (hb:PE X (.BoolOp .And (b :: rest) pos) tb):PE X (.BoolOp .And (a :: b :: rest) pos) (ajW ta tb):=by
 intro pins s σ H Q I h
 refine BoolOp_and (thn (ha pins s σ H _ I h) fun v s1 ⟨x,H1,I1,r1,q1⟩=>?_)
 obtain ⟨c,rfl,q1⟩:=q1
 cases r1
 refine wpAny_truthy_bool ?_
 cases c with
 | true=>exact hb pins s1 σ H1 Q I1 q1
 | false=>exact ⟨.bl false,H1,I1,rfl,q1⟩
theorem aj8 (ha:PE X a ta) (hb:PE X (.BoolOp .Or (b :: rest) pos) tb):PE X (.BoolOp .Or (a :: b :: rest) pos) (ak2 ta tb):=by
 intro pins s σ H Q I h
 refine BoolOp_or (thn (ha pins s σ H _ I h) fun v s1 ⟨x,H1,I1,r1,q1⟩=>?_)
 obtain ⟨c,rfl,q1⟩:=q1
 cases r1
 refine wpAny_truthy_bool ?_
 cases c with
 | false=>exact hb pins s1 σ H1 Q I1 q1
 | true=>exact ⟨.bl true,H1,I1,rfl,q1⟩
theorem aiJ (ha:PE X a ta):PE X (.UnaryOp .Not a pos) (ajP ta):=by
 intro pins s σ H Q I h
 refine UnaryOp_ (thn (ha pins s σ H _ I h) fun v s1 ⟨x,H1,I1,r1,q1⟩=>?_)
 obtain ⟨c,rfl,q1⟩:=q1
 cases r1
 exact not_of (wpAny_truthy_bool ⟨.bl (!c),H1,I1,rfl,q1⟩)
end
def SqL (K:PySem.W.Frag) (H:Hp) (a:Addr) (xs:List V):Prop :=
 Rd H a (.lst xs) \/
  ∃ (o:Obj) (its:Array Value) (n:Nat),K.lookup a=some o/\o.cls = .type "list" /\ o.dict=none/\o.data = .seq its n/\its.size <= sizeLine/\Vals xs its.toList
def SqT (K:PySem.W.Frag) (H:Hp) (a:Addr) (xs:List V):Prop :=
 Rd H a (.tup xs) \/
  ∃ (o:Obj) (its:Array Value) (n:Nat),K.lookup a=some o/\o.cls = .type "tuple" /\ o.data = .seq its n/\its.size <= sizeLine/\Vals xs its.toList
def al4:Value->Option V
 | .none=>some .non
 | .bool b=>some (.bl b)
 | .int i _=>some (.int i)
 | .str x _=>some (.str x)
 | .bytes b _=>some (.byt b)
 | .float b _=>some (.flt b)
 | .ref a=>some (.ref a)
 | .type n=>some (.ty n)
 | _=>none
theorem RelV.abs {x:V} {u:Value} (r:RelV x u):al4 u=some x:=by
 cases x with
 | non=>cases r; rfl
 | bl _=>cases r; rfl
 | int _=>obtain ⟨t,rfl⟩:=r; rfl
 | str _=>obtain ⟨t,rfl⟩:=r; rfl
 | byt _=>obtain ⟨t,rfl⟩:=r; rfl
 | flt _=>obtain ⟨t,rfl⟩:=r; rfl
 | ref _=>cases r; rfl
 | ty _=>cases r; rfl
theorem RelV.inj {x y:V} {u:Value} (r:RelV x u) (q:RelV y u):x=y:=Option.some.inj (r.abs.symm.trans q.abs)
theorem Vals.inj:∀ {xs ys:List V} {us:List Value},Vals xs us->Vals ys us->xs=ys
 | _,_,_,.nil,.nil=>rfl
 | _,_,_,.cons r t,.cons r' t'=>by rw [r.inj r',Vals.inj t t']
section
variable {X:Cx} {pins:List (Addr × Obj)} {σ:St} {H:Hp} {s:Shared} {a:Addr} {xs ys:List V}
theorem SqL.of {K:PySem.W.Frag} (h:H a=some (.lst xs)):SqL K H a xs:=.inl (.inl h)
theorem SqT.of {K:PySem.W.Frag} (h:H a=some (.tup xs)):SqT K H a xs:=.inl (.inl h)
theorem Inv.list (I:Inv X pins σ H s) (h:SqL X.K H a xs):∃ its:List Value,Vals xs its/\PlainL s.heap a its.toArray/\xs.length <= sizeLine:=by
 rcases h with h | ⟨o,its,n,hk,hc,hd,hs,hz,r⟩
 ·obtain ⟨z,its,n,r,e⟩:=h.ok I.hok
  exact ⟨its,r,⟨_,n,e,rfl,rfl,rfl⟩,z⟩
 ·refine ⟨its.toList,r,⟨o,n,I.kIn a o hk,hc,hd,by simpa using hs⟩,?_⟩
  have e:=r.length
  simp only [Array.length_toList] at e
  omega
theorem Inv.tuple (I:Inv X pins σ H s) (h:SqT X.K H a xs):∃ its:List Value,Vals xs its/\IsTup s.heap a its.toArray/\xs.length <= sizeLine:=by
 rcases h with h | ⟨o,its,n,hk,hc,hs,hz,r⟩
 ·obtain ⟨z,its,r,p⟩:=h.ok I.hok
  exact ⟨its,r,p,z⟩
 ·refine ⟨its.toList,r,⟨o,I.kIn a o hk,hc,n,by simpa using hs⟩,?_⟩
  have e:=r.length
  simp only [Array.length_toList] at e
  omega
theorem Inv.Wd (I:Inv X pins σ H s) (h:SqL X.K H a xs) (h':SqL X.K H a ys):xs=ys:=by
 obtain ⟨its,r,⟨o,n,e,_,_,d⟩,_⟩:=I.list h
 obtain ⟨its',r',⟨o',n',e',_,_,d'⟩,_⟩:=I.list h'
 rw [e] at e'; cases e'
 rw [d] at d'
 injection d' with d1 _
 have:its=its':=by simpa using congrArg Array.toList d1
 subst this
 exact r.inj r'
theorem Inv.Yj (I:Inv X pins σ H s) (h:SqT X.K H a xs) (h':SqT X.K H a ys):xs=ys:=by
 obtain ⟨its,r,⟨o,e,_,n,d⟩,_⟩:=I.tuple h
 obtain ⟨its',r',⟨o',e',_,n',d'⟩,_⟩:=I.tuple h'
 rw [e] at e'; cases e'
 rw [d] at d'
 injection d' with d1 _
 have:its=its':=by simpa using congrArg Array.toList d1
 subst this
 exact r.inj r'
end
abbrev Cx.wish (X:Cx) (E:Value->Shared->Prop):Cx:={ X with xe:=E }
abbrev Cx.nox (X:Cx):Cx:=X.wish fun _ _=>False
theorem Cx.Ok.wish {X:Cx} (ok:X.Ok) (E:Value->Shared->Prop):(X.wish E).Ok :=
 ⟨ok.mod,ok.kind,ok.glob,ok.blt,ok.above,ok.inj,ok.has,ok.cab,ok.hd,ok.frames,ok.stk,ok.exf,ok.bs,ok.bsz,ok.af1,ok.agu,ok.T3,ok.frf⟩
theorem Cx.Ok.Ks {X:Cx} {E:Value->Shared->Prop} (ok:(X.wish E).Ok):X.Ok :=
 ⟨ok.mod,ok.kind,ok.glob,ok.blt,ok.above,ok.inj,ok.has,ok.cab,ok.hd,ok.frames,ok.stk,ok.exf,ok.bs,ok.bsz,ok.af1,ok.agu,ok.T3,ok.frf⟩
section
variable {X:Cx} {pins:List (Addr × Obj)} {σ:St} {H:Hp} {s:Shared} {E:Value->Shared->Prop}
theorem Inv.wish (I:Inv X pins σ H s) (E:Value->Shared->Prop):Inv (X.wish E) pins σ H s:=⟨I.ok.wish E,I.os,I.bare,I.base,I.loc,I.cell,I.free,I.Jl,I.pin,I.hok,I.len⟩
theorem Inv.Ks (I:Inv (X.wish E) pins σ H s):Inv X pins σ H s:=⟨I.ok.Ks,I.os,I.bare,I.base,I.loc,I.cell,I.free,I.Jl,I.pin,I.hok,I.len⟩
theorem SP.Ks {D:Ends} {f:Flow} {s':Shared} (h:SP (X.wish E) pins D f s'):SP X pins D f s':=by
 cases f with
 | next=>obtain ⟨σ',H',I,q⟩:=h; exact ⟨σ',H',I.Ks,q⟩
 | brk=>obtain ⟨σ',H',I,q⟩:=h; exact ⟨σ',H',I.Ks,q⟩
 | cont=>obtain ⟨σ',H',I,q⟩:=h; exact ⟨σ',H',I.Ks,q⟩
 | ret u=>obtain ⟨v,σ',H',I,r,q⟩:=h; exact ⟨v,σ',H',I.Ks,r,q⟩
theorem PSs.nox {st:List Stmt} {t:TS} (h:PSs X.nox st t):PSs X st t:=fun pins s σ H D I hw =>
 wpAny_mono (h pins s σ H D (I.wish _) hw) (fun _ _ q=>q.Ks) fun _ _ z=>False.elim z
end
section
variable {X:Cx} {st:Stmt} {rest:List Stmt} {t u:TS} {e:Expr} {te:TE} {pos:Pos}
def ajR:TS:=fun D σ H=>D.nx σ H
def ak0 (t u:TS):TS:=fun D σ H=>t { D with nx:=u D } σ H
theorem Az:PSs X [] ajR:=fun _ _ σ H _ I h=>wpAny_execs_nil ⟨σ,H,I,h⟩
theorem Ac (h1:PS X st t) (h2:PSs X rest u):PSs X (st :: rest) (ak0 t u):=by
 intro pins s σ H D I h
 refine wpAny_execs_cons (thn (h1 pins s σ H { D with nx:=u D } I h) fun f s1 q=>?_)
 cases f with
 | next =>
  obtain ⟨σ',H',I',q⟩:=q
  exact h2 pins s1 σ' H' D I' q
 | ret v=>exact q
 | brk=>exact q
 | cont=>exact q
theorem Ae (h1:PS X st t):PSs X [st] t:=by
 intro pins s σ H D I h
 refine wpAny_execs_cons (thn (h1 pins s σ H D I h) fun f s1 q=>?_)
 cases f with
 | next=>exact wpAny_execs_nil q
 | ret v=>exact q
 | brk=>exact q
 | cont=>exact q
theorem Inv.quiet {pins:List (Addr × Obj)} {σ:St} {H:Hp} {s:Shared} (I:Inv X pins σ H s):interactive X.env=false:=by simp [interactive,I.ok.kind]
def ajT (te:TE):TS:=fun D σ H=>te σ H fun _ H1=>D.nx σ H1
theorem Gy (he:PE X e te) (hs:swapsWith e none pos.line X.env=pure false:=by rfl):PS X (.Expr e pos) (ajT te):=by
 intro pins s σ H D I h
 exact wpAny_Expr_any (thn (he pins s σ H _ I h) fun v s1 ⟨x,H1,I1,r1,q1⟩=>⟨σ,H1,I1,q1⟩) I.quiet hs
def ak1 (te:TE):TS:=fun D σ H=>te σ H D.rt
theorem Al (he:PE X e te):PS X (.Return (some e) pos) (ak1 te):=by
 intro pins s σ H D I h
 exact wpAny_Return_some (thn (he pins s σ H _ I h) fun v s1 ⟨x,H1,I1,r1,q1⟩=>⟨x,σ,H1,I1,r1,q1⟩)
def ak7 (c:TT) (t u:TS):TS:=fun D σ H=>c σ H fun b H1=>if b=true then t D σ H1 else u D σ H1
theorem Bt {c:Expr} {a b:List Stmt} {tc:TT} (hc:PT X c tc) (ha:PSs X a t) (hb:PSs X b u):PS X (.If c a b pos) (ak7 tc t u):=by
 intro pins s σ H D I h
 refine wpAny_If (thn (hc pins s σ H _ I h) fun d s1 ⟨H1,I1,q1⟩=>?_)
 cases d with
 | true=>exact ha pins s1 σ H1 D I1 q1
 | false=>exact hb pins s1 σ H1 D I1 q1
end
abbrev TG:=V->St->Hp->(St->Hp->Prop)->Prop
abbrev TGs:=List V->St->Hp->(St->Hp->Prop)->Prop
def PG (X:Cx) (target:Expr) (t:TG):Prop :=
 ∀ (pins:List (Addr × Obj)) (s:Shared) (σ:St) (H:Hp) (v:V) (u:Value) (Q:St->Hp->Prop),Inv X pins σ H s->RelV v u->t v σ H Q ->
  wpAny (model X.prog X.w) X.A (assign target X.env u) (fun _ s'=>∃ σ' H',Inv X pins σ' H' s'/\Q σ' H') X.xe s
def PGs (X:Cx) (ts:List Expr) (t:TGs):Prop :=
 ∀ (pins:List (Addr × Obj)) (s:Shared) (σ:St) (H:Hp) (vs:List V) (us:List Value) (Q:St->Hp->Prop),Inv X pins σ H s->Vals vs us->t vs σ H Q ->
  wpAny (model X.prog X.w) X.A (assignInOrder ((assignEach ts X.env).map (·.2)) us) (fun _ s'=>∃ σ' H',Inv X pins σ' H' s'/\Q σ' H') X.xe s
abbrev ajD:=V->V->V->Hp->(Hp->Prop)->Prop
def akU (X:Cx) (t:ajD):Prop :=
 ∀ (pins:List (Addr × Obj)) (s:Shared) (σ:St) (H:Hp) (o i v:V) (ov iv u:Value) (Q:Hp->Prop),Inv X pins σ H s->RelV o ov->RelV i iv->RelV v u->t o i v H Q ->
  wpAny (model X.prog X.w) X.A (setItem ov iv u) (fun _ s'=>∃ H',Inv X pins σ H' s'/\Q H') X.xe s
section
variable {X:Cx} {pos:Pos}
def S9 (i:Nat):TG:=fun v σ H Q=>Q (σ.set i (some v)) H
theorem Bb {i:Nat} {x:Str} (hN:X.N.Nodup) (hi:X.N[i]? = some x) (hx:Loc X.env.scope x) (hf:X.fn x=true \/ X.env.scope.names.lookup x=some .local:=by first | exact .inl rfl | exact .inr rfl | assumption):PG X (.Name x pos) (S9 i):=by
 intro pins s σ H v u Q I r h
 exact wpAny_assign_Name (aaN I hN hi hx r (fun s' I'=>⟨_,H,I',h⟩) hf)
def ajm:TGs:=fun vs σ H Q=>vs=[]/\Q σ H
def aby (t:TG) (u:TGs):TGs:=fun vs σ H Q=>∃ v r,vs=v :: r/\t v σ H fun σ' H'=>u r σ' H' Q
theorem Eh:PGs X [] ajm:=by
 intro pins s σ H vs us Q I r h
 obtain ⟨e,h⟩:=h
 subst e
 cases r
 exact assignInOrder_nil ⟨σ,H,I,h⟩
theorem Bo {e:Expr} {es:List Expr} {t:TG} {u:TGs} (h1:PG X e t) (h2:PGs X es u)
  (hs:(assignEach (e :: es) X.env).map (·.2)=assign e X.env :: (assignEach es X.env).map (·.2):=by rfl):PGs X (e :: es) (aby t u):=by
 intro pins s σ H vs us Q I r h
 obtain ⟨v,vr,e1,h⟩:=h
 subst e1
 cases r with
 | cons r rr =>
  rw [hs]
  refine assignInOrder_cons (thn (h1 pins s σ H _ _ _ I r h) fun _ s1 ⟨σ1,H1,I1,q1⟩=>?_)
  exact h2 pins s1 σ1 H1 _ _ Q I1 rr q1
def ajl (K:PySem.W.Frag) (n:Nat) (t:TGs):TG:=fun v σ H Q=>∃ a xs,v = .ref a/\SqT K H a xs/\xs.length=n/\t xs σ H Q
theorem FN {es:List Expr} {k:Nat} {t:TGs} {n:Nat} (hc:X.calm=true) (h:PGs X es t)
  (hn:(assignEach es X.env).length=n:=by rfl) (hst:(assignEach es X.env).findIdx? (·.1)=none:=by rfl):PG X (.Tuple es k pos) (ajl X.K n t):=by
 intro pins s σ H v u Q I r hw
 obtain ⟨a,xs,e1,hq,hl,hw⟩:=hw
 subst e1
 cases r
 obtain ⟨its,rv,ht,hz⟩:=I.tuple hq
 refine assign_Tuple_tuple (I.ok.hd hc) ht (by simp [hn,<- hl,rv.length]) hst fun h' hx=>?_
 have I1:Inv X pins σ H { s with heap:=h' }:=I.kept (t':=s.toks) fun b o e=>hx b o (Nat.ne_of_lt (Heap.lt_size e)) e
 exact h pins _ σ H xs _ Q I1 (by simpa using rv) hw
def alZ (to ti:TE) (t:ajD):TG:=fun v σ H Q=>to σ H fun o H1=>ti σ H1 fun i H2=>t o i v H2 fun H3=>Q σ H3
theorem Z0 {o i:Expr} {to ti:TE} {t:ajD} (ho:PE X o to) (hi:PE X i ti) (hs:akU X t)
  (ha:∀ v,assign (.Subscript o i pos) X.env v=(do
   let ov <- holding [v] (eval o X.env)
   let iv <- holding [v,ov] (eval i X.env)
   standAt pos
   holding [v,ov,iv] (setItem ov iv v)
   release [v,ov,iv] []):=by intro _; rfl):PG X (.Subscript o i pos) (alZ to ti t):=by
 intro pins s σ H v u Q I r h
 rw [ha]
 refine wpAny_bind (wpAny_holding (thn (ho pins s σ H _ I h) fun ov s1 ⟨x,H1,I1,r1,q1⟩=>?_))
 refine wpAny_bind (wpAny_holding (thn (hi pins s1 σ H1 _ I1 q1) fun iv s2 ⟨y,H2,I2,r2,q2⟩=>?_))
 refine wpAny_bind (wpAny_standAt (wpAny_bind (wpAny_holding (thn (hs pins s2 σ H2 x y v ov iv u _ I2 r1 r2 r q2) fun _ s3 ⟨H3,I3,q3⟩=>?_))))
 exact wpAny_release ⟨σ,H3,I3,q3⟩
def aiw (te:TE) (g:TG):TS:=fun D σ H=>te σ H fun x H1=>g x σ H1 D.nx
theorem ZX {tg e:Expr} {te:TE} {g:TG} (he:PE X e te) (hg:PG X tg g) (hs:swapsWithSole [tg] e pos.line X.env=pure false:=by rfl) (hw:swappedStores [tg] e X.env=pure none:=by rfl)
  (h1:(assignEach [tg] X.env).map (·.2)=[assign tg X.env]:=by rfl):PS X (.Assign [tg] e pos) (aiw te g):=by
 intro pins s σ H D I h
 refine wpAny_Assign_stores (thn (he pins s σ H _ I h) fun v s1 ⟨x,H1,I1,r1,q1⟩=>?_) hs hw
 rw [h1]
 exact thn (hg pins s1 σ H1 x v _ I1 r1 q1) fun _ s2 q=>q
theorem Av {i:Nat} {x:Str} {e:Expr} {te:TE} {pos':Pos} (hN:X.N.Nodup) (hi:X.N[i]? = some x) (hx:Loc X.env.scope x) (he:PE X e te) (hs:swapsWith e (some (.Name x pos')) pos.line X.env=pure false:=by rfl) (hf:X.fn x=true \/ X.env.scope.names.lookup x=some .local:=by first | exact .inl rfl | exact .inr rfl | assumption) :
  PS X (.Assign [.Name x pos'] e pos) (aiw te (S9 i)):=by
 intro pins s σ H D I h
 refine wpAny_Assign_Name (thn (he pins s σ H _ I h) fun v s1 ⟨y,H1,I1,r1,q1⟩=>?_) hs
 exact aaN I1 hN hi hx r1 (fun s2 I2=>⟨_,H1,I2,q1⟩) hf
end
section
variable {X:Cx} {pos:Pos}
def aiq (c:TT) (tb:TS):TS:=fun D σ H=>∃ W:Nat->St->Hp->Prop,(∃ m,W m σ H)/\∀ m σ H,W m σ H ->
 c σ H fun b H1=>if b=true then ∃ N:St->Hp->Prop,(∀ σ' H',N σ' H'->∃ m',m' < m/\W m' σ' H')/\tb { D with nx:=N,ct:=N,bk:=D.nx } σ H1 else D.nx σ H1
theorem PQ {c:Expr} {body:List Stmt} {tc:TT} {tb:TS} (hp:PassesOwn (model X.prog X.w) X.A X.env X.xe) (hc:PT X c tc) (hb:PSs X body tb):PS X (.While c body [] pos) (aiq tc tb):=by
 intro pins s σ H D I h
 obtain ⟨W,⟨m0,w0⟩,turn⟩:=h
 refine wpAny_While (codeAny_whileLoop (fun n s'=>∃ σ' H',Inv X pins σ' H' s'/\W n σ' H') ?_ m0 ⟨σ,H,I,w0⟩)
 rintro n s1 ⟨σ1,H1,I1,w1⟩
 refine wpAny_passesOwn hp (thn (hc pins s1 σ1 H1 _ I1 (turn n σ1 H1 w1)) fun b s2 ⟨H2,I2,q2⟩=>?_)
 cases b with
 | true =>
  obtain ⟨N,hN,q2⟩:=q2
  rw [if_pos rfl]
  refine wpAny_passesOwn hp (thn (hb pins s2 σ1 H2 _ I2 q2) fun f s3 q3=>?_)
  cases f with
  | next =>
   obtain ⟨σ3,H3,I3,n3⟩:=q3
   obtain ⟨m',hm,w3⟩:=hN σ3 H3 n3
   exact ⟨m',hm,σ3,H3,I3,w3⟩
  | cont =>
   obtain ⟨σ3,H3,I3,n3⟩:=q3
   obtain ⟨m',hm,w3⟩:=hN σ3 H3 n3
   exact ⟨m',hm,σ3,H3,I3,w3⟩
  | brk=>exact q3
  | ret v=>exact q3
 | false =>
  rw [if_neg Bool.false_ne_true]
  exact wpAny_execs_nil ⟨σ1,H2,I2,q2⟩
end
structure It where
 go:Nat->Hp->Prop
 yld:Nat->Hp->V->Hp->Prop
 stop:Nat->Hp->Prop
def Xf (X:Cx) (pins:List (Addr × Obj)) (H:Hp) (b:Addr):Prop :=
 H b=none/\b ≠ X.env.locals/\b ∉ X.fs/\(b ∈ X.ex \/ X.s_0.heap.objs.size <= b)/\(∀ x c,X.env.cells.lookup x=some c->c ≠ b)/\∀ p ∈ X.pn ++ pins,p.1 ≠ b
theorem Inv.ac3 {X:Cx} {pins:List (Addr × Obj)} {σ:St} {H H':Hp} {s:Shared} {b:Addr} (I:Inv X pins σ H s) (hb:s.heap.objs.size <= b) (hn:H' b=none):Xf X pins H' b:=by
 refine ⟨hn,Nat.ne_of_gt (Nat.lt_of_lt_of_le I.lt hb),I.alu hb,.inr (Nat.le_trans I.sz hb),fun x c e z=>?_,fun p hp z=>?_⟩
 ·obtain ⟨v,q⟩:=I.cell x c e
  exact absurd (Nat.lt_of_lt_of_le q.lt (by rw [z]; exact hb)) (Nat.lt_irrefl _)
 ·exact absurd (Nat.lt_of_lt_of_le (Heap.lt_size (I.pin p hp).1) (by rw [z]; exact hb)) (Nat.lt_irrefl _)
structure Turn (P:Program) (w:World) (K:PySem.W.Frag) (tg:Expr) (J:It) (fp:List Addr) (it:Addr) (tn:Nat->Heap->Prop):Prop where
 mem:it ∈ fp
 obj:∀ i h,tn i h->∀ b ∈ fp,∃ o,h.get? b=some o/\∀ v,o.data ≠ .cell v
 keep:∀ i h h',tn i h->(∀ b ∈ fp,∀ o,h.get? b=some o->h'.get? b=some o)->tn i h'
 item:∀ (X:Cx),X.prog=P->X.w=w->X.K=K->X.calm=true->∀ (i:Nat) (pins:List (Addr × Obj)) (s:Shared) (σ:St) (H:Hp) (E:Value->Shared->Prop),Inv X pins σ H s->(∀ b ∈ fp,Xf X pins H b)->tn i s.heap->J.go i H ->
  wpAny (model P w) X.A (pyNext (.ref it)) (fun r s1=>∃ u,r=some u /\
   wpAny (model P w) X.A (letOwnedTupleGo tg (.ref it) u) (fun _ s2=>∃ x H',Inv X pins σ H' s2/\RelV x u/\J.yld i H x H'/\tn (i + 1) s2.heap/\∀ b ∈ fp,H' b=none) E s1) E s
 done:∀ (X:Cx),X.prog=P->X.w=w->X.K=K->X.calm=true->∀ (i:Nat) (pins:List (Addr × Obj)) (s:Shared) (σ:St) (H:Hp) (E:Value->Shared->Prop),Inv X pins σ H s->(∀ b ∈ fp,Xf X pins H b)->tn i s.heap->J.stop i H ->
  wpAny (model P w) X.A (pyNext (.ref it)) (fun r s1=>r=none/\Inv X pins σ H s1) E s
 self:∀ (A:Around) (i:Nat) (s:Shared) (Q:Value->Shared->Prop) (E:Value->Shared->Prop),tn i s.heap->Q (.ref it) s->wpAny (model P w) A (pyIter (.ref it)) Q E s
abbrev TI:=St->Hp->(It->Hp->Prop)->Prop
def PIE (X:Cx) (pins:List (Addr × Obj)) (σ:St) (tg:Expr) (R:It->Hp->Prop) (itv:Value) (s2:Shared):Prop :=
 ∃ (it:Addr) (fp:List Addr) (tn:Nat->Heap->Prop) (J:It) (H':Hp),itv = .ref it/\Inv X pins σ H' s2/\Turn X.prog X.w X.K tg J fp it tn/\tn 0 s2.heap/\(∀ b ∈ fp,Xf X pins H' b)/\R J H'
def PI (X:Cx) (tg iter:Expr) (wi:TI):Prop :=
 ∀ (pins:List (Addr × Obj)) (s:Shared) (σ:St) (H:Hp) (R:It->Hp->Prop),Inv X pins σ H s->wi σ H R ->
  wpAny (model X.prog X.w) X.A (eval iter X.env) (fun v s1=>wpAny (model X.prog X.w) X.A (pyIter v) (PIE X pins σ tg R) X.xe s1) X.xe s
theorem Wr {M:Model} {A:Around} {E:Value->Shared->Prop} {s:Shared} {tg:Expr} {it:Addr} {u:Value} {o:Obj} {n:String} {vs:Array Value} {Q:Unit->Shared->Prop} (ho:s.heap.get? it=some o) (hc:o.cls = .type n) (hd:o.data = .fields vs)
    (hn:["enumerate", "zip", "dict_itemiterator", "dict_reverseitemiterator", "odict_iterator", "itertools.zip_longest", "itertools.pairwise"].contains n=false) (hQ:Q () s):wpAny M A (letOwnedTupleGo tg (.ref it) u) Q E s:=by
  unfold letOwnedTupleGo
  cases tg <;> first
    | exact wpAny_pure hQ
    | (cases u <;> first
        | exact wpAny_pure hQ
        | (refine wpAny_bind (wpAny_load ho ?_)
           rw [hc,hd]
           show wpAny M A (if (["enumerate", "zip", "dict_itemiterator", "dict_reverseitemiterator", "odict_iterator", "itertools.zip_longest", "itertools.pairwise"].contains n && vs[0]? == some (rawInt _))=true then _ else _) Q E s
           rw [if_neg (by intro h; rw [hn,Bool.false_and] at h; cases h)]
           exact wpAny_pure hQ))
def Itl (K:PySem.W.Frag) (a:Addr):It :=
 ⟨fun i H=>∃ xs x,SqL K H a xs/\xs[i]? = some x,fun i H x H'=>H'=H/\∀ xs,SqL K H a xs->xs[i]? = some x,fun i H=>∃ xs,SqL K H a xs/\xs.length <= i⟩
def Itt (K:PySem.W.Frag) (a:Addr):It :=
 ⟨fun i H=>∃ xs x,SqT K H a xs/\xs[i]? = some x,fun i H x H'=>H'=H/\∀ xs,SqT K H a xs->xs[i]? = some x,fun i H=>∃ xs,SqT K H a xs/\xs.length <= i⟩
def Itr (lo:Int) (n:Nat):It:=⟨fun i _=>i < n,fun i H x H'=>H'=H/\x = .int (lo + i),fun i _=>n <= i⟩
theorem aed {P:Program} {w:World} {K:PySem.W.Frag} {tg:Expr} (a it:Addr):Turn P w K tg (Itl K a) [it] it (fun i h=>h.IsListIter it a i) where
 mem:=by simp
 obj:=fun i h st b hb=>by
  have e:b=it:=by simpa using hb
  subst e
  obtain ⟨o,e,c,d⟩:=st
  exact ⟨o,e,fun v z=>by rw [d] at z; cases z⟩
 keep:=fun i h h' st k=>st.at fun o e=>k it (by simp) o e
 item:=by
  intro X hP hw hK hc i pins s σ H E I hf st hg
  subst hP hw hK
  obtain ⟨xs,x,hq,hx⟩:=hg
  obtain ⟨its,rv,p,hz⟩:=I.list hq
  obtain ⟨u,hu,ru⟩:=rv.get hx
  obtain ⟨f0,f1,f2,f3,f4,f5⟩:=hf it (by simp)
  refine wpAny_pyNext_list_item st p.isList (x:=u) (by simpa using hu) fun h' st' sb=>?_
  have I1:Inv X pins σ H { s with heap:=h' }:=I.turned (t':=s.toks) (fun b o hb e=>(sb.2 b hb).trans e) f0 f1 f3 f4 f5
  obtain ⟨o,e,c,d⟩:=id st'
  exact ⟨u,rfl,Wr (s:={ s with heap:=h' }) e c d (by decide) ⟨x,H,I1,ru,⟨rfl,fun ys hy=>by rw [I.Wd hy hq]; exact hx⟩,st',fun b hb=>(hf b hb).1⟩⟩
 done:=by
  intro X hP hw hK hc i pins s σ H E I hf st hg
  subst hP hw hK
  obtain ⟨xs,hq,hx⟩:=hg
  obtain ⟨its,rv,p,hz⟩:=I.list hq
  obtain ⟨f0,f1,f2,f3,f4,f5⟩:=hf it (by simp)
  have hl:=rv.length
  exact wpAny_pyNext_list_end (I.ok.hd hc) st p.isList (by simp; omega) fun h' eb=>⟨rfl,I.turned (t':=s.toks) (fun b o hb e=>eb b o hb e) f0 f1 f3 f4 f5⟩
 self:=fun _ _ _ _ _ st h=>wpAny_pyIter_listiter st h
theorem aca {P:Program} {w:World} {K:PySem.W.Frag} {tg:Expr} (a it:Addr):Turn P w K tg (Itt K a) [it] it (fun i h=>h.IsTupleIter it a i) where
 mem:=by simp
 obj:=fun i h st b hb=>by
  have e:b=it:=by simpa using hb
  subst e
  obtain ⟨o,e,c,d⟩:=st
  exact ⟨o,e,fun v z=>by rw [d] at z; cases z⟩
 keep:=fun i h h' st k=>st.at fun o e=>k it (by simp) o e
 item:=by
  intro X hP hw hK hc i pins s σ H E I hf st hg
  subst hP hw hK
  obtain ⟨xs,x,hq,hx⟩:=hg
  obtain ⟨its,rv,p,hz⟩:=I.tuple hq
  obtain ⟨u,hu,ru⟩:=rv.get hx
  obtain ⟨f0,f1,f2,f3,f4,f5⟩:=hf it (by simp)
  refine wpAny_pyNext_tuple_item st (show s.heap.IsTuple a its.toArray from p) (x:=u) (by simpa using hu) fun h' st' sb=>?_
  have I1:Inv X pins σ H { s with heap:=h' }:=I.turned (t':=s.toks) (fun b o hb e=>(sb.2 b hb).trans e) f0 f1 f3 f4 f5
  obtain ⟨o,e,c,d⟩:=id st'
  exact ⟨u,rfl,Wr (s:={ s with heap:=h' }) e c d (by decide) ⟨x,H,I1,ru,⟨rfl,fun ys hy=>by rw [I.Yj hy hq]; exact hx⟩,st',fun b hb=>(hf b hb).1⟩⟩
 done:=by
  intro X hP hw hK hc i pins s σ H E I hf st hg
  subst hP hw hK
  obtain ⟨xs,hq,hx⟩:=hg
  obtain ⟨its,rv,p,hz⟩:=I.tuple hq
  obtain ⟨f0,f1,f2,f3,f4,f5⟩:=hf it (by simp)
  have hl:=rv.length
  exact wpAny_pyNext_tuple_end (I.ok.hd hc) st (show s.heap.IsTuple a its.toArray from p) (by simp; omega) fun h' eb=>⟨rfl,I.turned (t':=s.toks) (fun b o hb e=>eb b o hb e) f0 f1 f3 f4 f5⟩
 self:=fun _ _ _ _ _ st h=>wpAny_pyIter_tupleiter st h
theorem acb {P:Program} {w:World} {K:PySem.W.Frag} {tg:Expr} (it:Addr) (lo:Int) (n:Nat):Turn P w K tg (Itr lo n) [it] it (fun i h=>IsRangeIter h it (lo + (i:Nat) * 1) ((n:Int) - (i:Nat)) 1) where
 mem:=by simp
 obj:=fun i h st b hb=>by
  have e:b=it:=by simpa using hb
  subst e
  exact ⟨_,st,fun v z=>by
   have z':Data.fields _=Data.cell v:=z
   cases z'⟩
 keep:=fun i h h' st k=>k it (by simp) _ st
 item:=by
  intro X hP hw hK hc i pins s σ H E I hf st hg
  subst hP hw hK
  obtain ⟨f0,f1,f2,f3,f4,f5⟩:=hf it (by simp)
  have W:=Walks.range (prog:=X.prog) (w:=X.w) (I.ok.hd hc) it lo 1 n
  refine W.item i s _ _ hg st fun v h' tk hv st' kk=>?_
  obtain ⟨t,rfl⟩:=hv
  have I1:Inv X pins σ H { s with heap:=h',toks:=tk }:=I.turned (fun b o hb e=>kk b o (by simpa using hb) e) f0 f1 f3 f4 f5
  refine ⟨_,rfl,Wr (s:={ s with heap:=h',toks:=tk }) (n := "range_iterator") st' rfl rfl (by decide) ⟨.int (lo + i),H,I1,⟨t,?_⟩,⟨rfl,rfl⟩,st',fun b hb=>(hf b hb).1⟩⟩
  rw [Int.mul_one]
 done:=by
  intro X hP hw hK hc i pins s σ H E I hf st hg
  subst hP hw hK
  obtain ⟨f0,f1,f2,f3,f4,f5⟩:=hf it (by simp)
  exact wpAny_pyNext_range_end (I.ok.hd hc) st (by have:n <= i:=hg; omega) fun h' eb=>⟨rfl,I.turned (t':=s.toks) (fun b o hb e=>eb b o hb e) f0 f1 f3 f4 f5⟩
 self:=fun _ _ _ _ _ st h=>wpAny_pyIter_rangeiter st h
section
variable {X:Cx} {tg:Expr}
def akh (K:PySem.W.Frag) (tl:TE):TI:=fun σ H R=>tl σ H fun x H1=>∃ a,x = .ref a/\(∃ xs,SqL K H1 a xs)/\R (Itl K a) H1
def aly (K:PySem.W.Frag) (tl:TE):TI:=fun σ H R=>tl σ H fun x H1=>∃ a,x = .ref a/\(∃ xs,SqT K H1 a xs)/\R (Itt K a) H1
theorem Gz {l:Expr} {tl:TE} (hl:PE X l tl):PI X tg l (akh X.K tl):=by
 intro pins s σ H R I h
 refine thn (hl pins s σ H _ I h) fun v s1 ⟨x,H1,I1,r1,q1⟩=>?_
 obtain ⟨a,e,⟨xs,hq⟩,q⟩:=q1
 subst e
 cases r1
 obtain ⟨its,rv,p,hz⟩:=I1.list hq
 refine wpAny_pyIter_list p.isList ?_
 refine ⟨s1.heap.objs.size,[s1.heap.objs.size],_,_,H1,rfl,I1.kept (t':=s1.toks) fun b o e=>Heap.get?_push_of_some _ e,aed a _,⟨_,Heap.get?_push_size _ rfl,rfl,rfl⟩,fun b hb=>?_,q⟩
 have e:b=s1.heap.objs.size:=by simpa using hb
 subst e
 exact I1.ac3 (Nat.le_refl _) (I1.hok.fresh (Nat.le_refl _))
theorem acz {l:Expr} {tl:TE} (hl:PE X l tl):PI X tg l (aly X.K tl):=by
 intro pins s σ H R I h
 refine thn (hl pins s σ H _ I h) fun v s1 ⟨x,H1,I1,r1,q1⟩=>?_
 obtain ⟨a,e,⟨xs,hq⟩,q⟩:=q1
 subst e
 cases r1
 obtain ⟨its,rv,p,hz⟩:=I1.tuple hq
 refine wpAny_pyIter_tuple (show s1.heap.IsTuple a its.toArray from p) ?_
 refine ⟨s1.heap.objs.size,[s1.heap.objs.size],_,_,H1,rfl,I1.kept (t':=s1.toks) fun b o e=>Heap.get?_push_of_some _ e,aca a _,⟨_,Heap.get?_push_size _ rfl,rfl,rfl⟩,fun b hb=>?_,q⟩
 have e:b=s1.heap.objs.size:=by simpa using hb
 subst e
 exact I1.ac3 (Nat.le_refl _) (I1.hok.fresh (Nat.le_refl _))
theorem aa3 {pins:List (Addr × Obj)} {σ:St} {H:Hp} {s:Shared} {R:It->Hp->Prop} {E:Value->Shared->Prop} {lo hi:Int} {t u v:Tok} {tk:Nat} (I:Inv X pins σ H s) (h1:-(2 ^ 62) <= lo) (h2:lo < 2 ^ 62) (h3:-(2 ^ 62) <= hi) (h4:hi < 2 ^ 62)
  (q:R (Itr lo (hi - lo).toNat) H):wpAny (model X.prog X.w) X.A (pyIter (.ref s.heap.objs.size)) (PIE X pins σ tg R) E { s with heap:=s.heap.push { cls:=.type "range",data:=.fields #[.int lo t,.int hi u,.int 1 v] },toks:=tk }:=by
 refine wpAny_pyIter_range (IsRange.new ..) (small_one h1 h2 h3 h4) ?_
 have I1:Inv X pins σ H { s with heap:=s.heap.push { cls:=.type "range",data:=.fields #[.int lo t,.int hi u,.int 1 v] },toks:=tk }:=I.kept fun b o e=>Heap.get?_push_of_some _ e
 refine ⟨(s.heap.push { cls:=.type "range",data:=.fields #[.int lo t,.int hi u,.int 1 v] }).objs.size,[(s.heap.push { cls:=.type "range",data:=.fields #[.int lo t,.int hi u,.int 1 v] }).objs.size],_,_,H,rfl,
  I1.kept (t':=tk) fun b o e=>Heap.get?_push_of_some _ e,acb _ lo (hi - lo).toNat,?_,fun b hb=>?_,q⟩
 ·have e1:lo + ((0:Nat):Int) * 1=lo:=by simp
  have e2:(((hi - lo).toNat:Nat):Int) - ((0:Nat):Int)=Builtin.Range.rangeSize lo hi 1:=by rw [rangeSize_one]; split <;> omega
  show IsRangeIter _ _ (lo + ((0:Nat):Int) * 1) ((((hi - lo).toNat:Nat):Int) - ((0:Nat):Int)) 1
  rw [e1,e2]
  exact Heap.get?_push_size _ rfl
 ·have e:b=(s.heap.push { cls:=.type "range",data:=.fields #[.int lo t,.int hi u,.int 1 v] }).objs.size:=by simpa using hb
  subst e
  exact I1.ac3 (Nat.le_refl _) (I1.hok.fresh (Nat.le_refl _))
def akg (ta:TA):TI:=fun σ H R=>ta σ H fun vs H1=>∃ j:Int,vs=[.int j] /\ -(2 ^ 62) <= j/\j < 2 ^ 62/\R (Itr 0 j.toNat) H1
def akf (ta:TA):TI:=fun σ H R=>ta σ H fun vs H1=>∃ i j:Int,vs=[.int i,.int j]/\(-(2 ^ 62) <= i/\i < 2 ^ 62 /\ -(2 ^ 62) <= j/\j < 2 ^ 62)/\R (Itr i (j - i).toNat) H1
theorem Je {a:Expr} {ta:TA} {p pos:Pos} (hg:Gl X "range") (hm:X.mg "range" = none) (ha:PA X [a] ta) (hs:starEach [a] X.env=[(false,eval a X.env)]:=by rfl):PI X tg (.Call (.Name "range" p) [a] [] pos) (akg ta):=by
 intro pins s σ H R I h
 refine Call_ (JK I hg hm boot_range (PyProof.Rows.callWith_type1 (thn (ha pos pins s σ H _ I h) fun us s1 ⟨vs,H1,I1,r1,q1⟩=>?_) hs rfl))
 obtain ⟨j,e,q1,q2,q⟩:=q1
 subst e
 cases r1 with
 | cons r rr =>
  cases rr
  obtain ⟨t,rfl⟩:=r
  exact call_range_1 (aa3 I1 (by omega) (by omega) q1 q2 (by simpa using q))
theorem aeA {a b:Expr} {ta:TA} {p pos:Pos} (hg:Gl X "range") (hm:X.mg "range" = none) (ha:PA X [a,b] ta) (hs:starEach [a,b] X.env=[(false,eval a X.env),(false,eval b X.env)]:=by rfl) (hs2:starEach [b] X.env=[(false,eval b X.env)]:=by rfl) :
  PI X tg (.Call (.Name "range" p) [a,b] [] pos) (akf ta):=by
 intro pins s σ H R I h
 refine Call_ (JK I hg hm boot_range (PyProof.Rows.callWith_type1 (thn (ha pos pins s σ H _ I h) fun us s1 ⟨vs,H1,I1,r1,q1⟩=>?_) (by rw [hs,hs2]) (by rw [hs2]; rfl)))
 obtain ⟨i,j,e,⟨q1,q2,q3,q4⟩,q⟩:=q1
 subst e
 cases r1 with
 | cons r rr =>
  cases rr with
  | cons r' rr =>
   cases rr
   obtain ⟨t,rfl⟩:=r
   obtain ⟨t',rfl⟩:=r'
   exact call_range_2 (aa3 I1 q1 q2 q3 q4 q)
def ak8 (wi:TI) (g:TG) (tb:TS):TS:=fun D σ H=>wi σ H fun J H1=>∃ W:Nat->Nat->St->Hp->Prop,(∃ m,W 0 m σ H1)/\∀ i m σ H,W i m σ H ->
 (J.stop i H/\D.nx σ H) \/ (J.go i H/\∃ N:St->Hp->Prop,(∀ σ' H',N σ' H'->∃ m',m' < m/\W (i + 1) m' σ' H')/\∀ x H',J.yld i H x H'->g x σ H' fun σ2 H2=>tb { D with nx:=N,ct:=N,bk:=D.nx } σ2 H2)
def VH (fp:List Addr) (h:Heap):List (Addr × Obj):=fp.filterMap fun b=>(h.get? b).map fun o=>(b,o)
theorem Om {fp:List Addr} {h:Heap} {b:Addr} {o:Obj} (hb:b ∈ fp) (e:h.get? b=some o):(b,o) ∈ VH fp h:=List.mem_filterMap.mpr ⟨b,hb,by rw [e]; rfl⟩
theorem aeD {fp:List Addr} {h:Heap} {p:Addr × Obj} (hp:p ∈ VH fp h):p.1 ∈ fp/\h.get? p.1=some p.2:=by
 obtain ⟨b,hb,e⟩:=List.mem_filterMap.mp hp
 cases q:h.get? b with
 | none=>rw [q] at e; cases e
 | some o =>
  rw [q] at e
  have e':(b,o)=p:=Option.some.inj e
  subst e'
  exact ⟨hb,q⟩
theorem Inv.pinned {pins:List (Addr × Obj)} {σ:St} {H:Hp} {s:Shared} {fp:List Addr} (I:Inv X pins σ H s) (hf:∀ b ∈ fp,Xf X pins H b) (ho:∀ b ∈ fp,∃ o,s.heap.get? b=some o/\∀ v,o.data ≠ .cell v):Inv X (pins ++ VH fp s.heap) σ H s :=
 I.adE fun p hp=>(List.mem_append.mp hp).elim (fun z=>I.pin p (List.mem_append_right _ z)) fun z=>by
  obtain ⟨hb,e⟩:=aeD z
  obtain ⟨f0,f1,f2,_⟩:=hf p.1 hb
  obtain ⟨o,e',d⟩:=ho p.1 hb
  rw [e] at e'; cases e'
  exact ⟨e,f0,f1,f2,d⟩
theorem Inv.O7 {pins pl:List (Addr × Obj)} {σ:St} {H:Hp} {s:Shared} (I:Inv X (pins ++ pl) σ H s):Inv X pins σ H s:=I.adE fun p hp=>I.pin p (List.mem_append_right _ (List.mem_append_left _ hp))
theorem Cr {iter:Expr} {body:List Stmt} {wi:TI} {g:TG} {tb:TS} {pos:Pos} (hp:PassesOwn (model X.prog X.w) X.A X.env X.xe) (hc:X.calm=true) (hi:PI X tg iter wi) (hg:PG X tg g) (hb:PSs X body tb)
  (hs:∀ x,foldedSetIterable iter X.env x=pure x:=by intro _; rfl):PS X (.For tg iter body [] pos) (ak8 wi g tb):=by
 intro pins s σ H D I h
 refine wpAny_For (thn (hi pins s σ H _ I h) fun v s1 h1=>thn h1 fun itv s2 h2=>?_) hs
 obtain ⟨it,fp,tn,J,H2,e,I2,T,st2,f2,W,⟨m0,w0⟩,turn⟩:=h2
 subst e
 have stat:∀ {H':Hp},(∀ b ∈ fp,H' b=none)->∀ b ∈ fp,Xf X pins H' b:=fun hn b hb=>⟨hn b hb,(f2 b hb).2⟩
 refine codeAny_forLoop_any (fun n s'=>∃ i σ' H',Inv X pins σ' H' s'/\tn i s'.heap/\(∀ b ∈ fp,H' b=none)/\W i n σ' H') ?_ m0 ⟨0,σ,H2,I2,st2,fun b hb=>(f2 b hb).1,w0⟩
 rintro n s3 ⟨i,σ3,H3,I3,st3,fr3,w3⟩
 rcases turn i n σ3 H3 w3 with ⟨stop,qn⟩ | ⟨go,N,hN,step⟩
 ·refine wpAny_passesOwn hp (thn (T.done X rfl rfl rfl hc i pins s3 σ3 H3 X.xe I3 (stat fr3) st3 stop) fun r s4 ⟨hr,I4⟩=>?_)
  subst hr
  exact wpAny_execs_nil ⟨σ3,H3,I4,qn⟩
 ·refine wpAny_passesOwn hp (thn (T.item X rfl rfl rfl hc i pins s3 σ3 H3 X.xe I3 (stat fr3) st3 go) fun r s4 ⟨u,hr,h4⟩=>?_)
  subst hr
  refine wpAny_passesOwn hp (thn h4 fun _ s5 ⟨x,H5,I5,r5,y5,st5,fr5⟩=>?_)
  have I5':=I5.pinned (stat fr5) (T.obj _ _ st5)
  refine wpAny_passesOwn hp (thn (hg _ s5 σ3 H5 x u _ I5' r5 (step x H5 y5)) fun _ s6 ⟨σ6,H6,I6,q6⟩=>?_)
  refine wpAny_passesOwn hp (thn (hb _ s6 σ6 H6 _ I6 q6) fun f s7 q7=>?_)
  have again:∀ {σ7:St} {H7:Hp},Inv X (pins ++ VH fp s5.heap) σ7 H7 s7->N σ7 H7->∃ m,m < n/\∃ i σ' H',Inv X pins σ' H' s7/\tn i s7.heap/\(∀ b ∈ fp,H' b=none)/\W i m σ' H':=fun {σ7 H7} I7 n7=>by
   obtain ⟨m',hm,w7⟩:=hN σ7 H7 n7
   refine ⟨m',hm,i + 1,σ7,H7,I7.O7,T.keep _ _ _ st5 fun b hb o e=>(I7.pin (b,o) (List.mem_append_right _ (List.mem_append_right _ (Om hb e)))).1,fun b hb=>?_,w7⟩
   obtain ⟨o,e,d⟩:=T.obj _ _ st5 b hb
   exact (I7.pin (b,o) (List.mem_append_right _ (List.mem_append_right _ (Om hb e)))).2.1
  cases f with
  | next=>obtain ⟨σ7,H7,I7,n7⟩:=q7; exact again I7 n7
  | cont=>obtain ⟨σ7,H7,I7,n7⟩:=q7; exact again I7 n7
  | brk=>obtain ⟨σ7,H7,I7,q7⟩:=q7; exact ⟨σ7,H7,I7.O7,q7⟩
  | ret v=>obtain ⟨x7,σ7,H7,I7,r7,q7⟩:=q7; exact ⟨x7,σ7,H7,I7.O7,r7,q7⟩
end
theorem Ho {K:PySem.W.Frag} {a:Addr} {xs:List V} {g:TG} {tb:TS} {D:Ends} {σ:St} {H:Hp} (Pv:Nat->St->Hp->Prop) (h0:Pv 0 σ H) (hl:∀ i σ H,i <= xs.length->Pv i σ H->SqL K H a xs)
  (hs:∀ i x σ H,xs[i]? = some x->Pv i σ H->g x σ H fun σ2 H2=>tb { D with nx:=Pv (i + 1),ct:=Pv (i + 1),bk:=D.nx } σ2 H2) (hd:∀ σ H,Pv xs.length σ H->D.nx σ H) :
  ∃ W:Nat->Nat->St->Hp->Prop,(∃ m,W 0 m σ H)/\∀ i m σ H,W i m σ H ->
   ((Itl K a).stop i H/\D.nx σ H) \/ ((Itl K a).go i H/\∃ N:St->Hp->Prop,(∀ σ' H',N σ' H'->∃ m',m' < m/\W (i + 1) m' σ' H')/\∀ x H',(Itl K a).yld i H x H'->g x σ H' fun σ2 H2=>tb { D with nx:=N,ct:=N,bk:=D.nx } σ2 H2):=by
 refine ⟨fun i m σ H=>m=xs.length - i/\i <= xs.length/\Pv i σ H,⟨xs.length,by simp,Nat.zero_le _,h0⟩,?_⟩
 rintro i m σ H ⟨rfl,hi,p⟩
 have q:=hl i σ H hi p
 by_cases hlt:i < xs.length
 ·refine .inr ⟨⟨xs,xs[i],q,by simp [hlt]⟩,Pv (i + 1),fun σ' H' p'=>⟨xs.length - (i + 1),by omega,rfl,hlt,p'⟩,fun x H' y=>?_⟩
  obtain ⟨e,y⟩:=y
  subst e
  exact hs i x σ _ (y xs q) p
 ·have e:i=xs.length:=by omega
  subst e
  exact .inl ⟨⟨xs,q,Nat.le_refl _⟩,hd σ H p⟩
theorem adT {K:PySem.W.Frag} {a:Addr} {xs:List V} {g:TG} {tb:TS} {D:Ends} {σ:St} {H:Hp} (Pv:Nat->St->Hp->Prop) (h0:Pv 0 σ H) (hl:∀ i σ H,i <= xs.length->Pv i σ H->SqT K H a xs)
  (hs:∀ i x σ H,xs[i]? = some x->Pv i σ H->g x σ H fun σ2 H2=>tb { D with nx:=Pv (i + 1),ct:=Pv (i + 1),bk:=D.nx } σ2 H2) (hd:∀ σ H,Pv xs.length σ H->D.nx σ H) :
  ∃ W:Nat->Nat->St->Hp->Prop,(∃ m,W 0 m σ H)/\∀ i m σ H,W i m σ H ->
   ((Itt K a).stop i H/\D.nx σ H) \/ ((Itt K a).go i H/\∃ N:St->Hp->Prop,(∀ σ' H',N σ' H'->∃ m',m' < m/\W (i + 1) m' σ' H')/\∀ x H',(Itt K a).yld i H x H'->g x σ H' fun σ2 H2=>tb { D with nx:=N,ct:=N,bk:=D.nx } σ2 H2):=by
 refine ⟨fun i m σ H=>m=xs.length - i/\i <= xs.length/\Pv i σ H,⟨xs.length,by simp,Nat.zero_le _,h0⟩,?_⟩
 rintro i m σ H ⟨rfl,hi,p⟩
 have q:=hl i σ H hi p
 by_cases hlt:i < xs.length
 ·refine .inr ⟨⟨xs,xs[i],q,by simp [hlt]⟩,Pv (i + 1),fun σ' H' p'=>⟨xs.length - (i + 1),by omega,rfl,hlt,p'⟩,fun x H' y=>?_⟩
  obtain ⟨e,y⟩:=y
  subst e
  exact hs i x σ _ (y xs q) p
 ·have e:i=xs.length:=by omega
  subst e
  exact .inl ⟨⟨xs,q,Nat.le_refl _⟩,hd σ H p⟩
theorem Jm {lo:Int} {n:Nat} {g:TG} {tb:TS} {D:Ends} {σ:St} {H:Hp} (Pv:Nat->St->Hp->Prop) (h0:Pv 0 σ H)
  (hs:∀ i σ H,i < n->Pv i σ H->g (.int (lo + i)) σ H fun σ2 H2=>tb { D with nx:=Pv (i + 1),ct:=Pv (i + 1),bk:=D.nx } σ2 H2) (hd:∀ σ H,Pv n σ H->D.nx σ H) :
  ∃ W:Nat->Nat->St->Hp->Prop,(∃ m,W 0 m σ H)/\∀ i m σ H,W i m σ H ->
   ((Itr lo n).stop i H/\D.nx σ H) \/ ((Itr lo n).go i H/\∃ N:St->Hp->Prop,(∀ σ' H',N σ' H'->∃ m',m' < m/\W (i + 1) m' σ' H')/\∀ x H',(Itr lo n).yld i H x H'->g x σ H' fun σ2 H2=>tb { D with nx:=N,ct:=N,bk:=D.nx } σ2 H2):=by
 refine ⟨fun i m σ H=>m=n - i/\i <= n/\Pv i σ H,⟨n,by simp,Nat.zero_le _,h0⟩,?_⟩
 rintro i m σ H ⟨rfl,hi,p⟩
 by_cases hlt:i < n
 ·refine .inr ⟨hlt,Pv (i + 1),fun σ' H' p'=>⟨n - (i + 1),by omega,rfl,hlt,p'⟩,fun x H' y=>?_⟩
  obtain ⟨e,y⟩:=y
  subst e y
  exact hs i σ _ hlt p
 ·have e:i=n:=by omega
  subst e
  exact .inl ⟨Nat.le_refl _,hd σ H p⟩
abbrev R2:=V->V->Hp->VK->Prop
def OpR (X:Cx) (f:Value->Value->Sem Value) (r:R2):Prop :=
 ∀ (pins:List (Addr × Obj)) (s:Shared) (σ:St) (H:Hp) (x y:V) (v u:Value) (Q:VK),Inv X pins σ H s->RelV x v->RelV y u->r x y H Q ->
  wpAny (model X.prog X.w) X.A (f v u) (EP X pins σ Q) X.xe s
def UnR (X:Cx) (f:Value->Sem Value) (r:V->Hp->VK->Prop):Prop :=
 ∀ (pins:List (Addr × Obj)) (s:Shared) (σ:St) (H:Hp) (x:V) (v:Value) (Q:VK),Inv X pins σ H s->RelV x v->r x H Q ->
  wpAny (model X.prog X.w) X.A (f v) (EP X pins σ Q) X.xe s
def Kc (X:Cx) (f:Value) (r:List V->Hp->VK->Prop):Prop :=
 ∀ (pins:List (Addr × Obj)) (s:Shared) (σ:St) (H:Hp) (xs:List V) (us:List Value) (Q:VK),Inv X pins σ H s->Vals xs us->r xs H Q ->
  wpAny (model X.prog X.w) X.A (call f us) (EP X pins σ Q) X.xe s
def tOp (r:R2) (ta tb:TE):TE:=fun σ H Q=>ta σ H fun x H1=>tb σ H1 fun y H2=>r x y H2 Q
def tUn (r:V->Hp->VK->Prop) (ta:TE):TE:=fun σ H Q=>ta σ H fun x H1=>r x H1 Q
def rI (C:Int->Int->Prop) (g:Int->Int->V):R2:=fun x y H Q=>∃ i j,x = .int i/\y = .int j/\C i j/\Q (g i j) H
def rI0 (g:Int->Int->V):R2:=fun x y H Q=>∃ i j,x = .int i/\y = .int j/\Q (g i j) H
def rU (g:Int->V):V->Hp->VK->Prop:=fun x H Q=>∃ i,x = .int i/\Q (g i) H
section
variable {X:Cx} {a b c:Expr} {ta tb tc:TE} {pos:Pos}
theorem ajB (ha:PE X a ta) (hb:PE X b tb) {pins:List (Addr × Obj)} {s:Shared} {σ:St} {H:Hp} {R:V->V->Hp->Prop} (I:Inv X pins σ H s)
  (h:ta σ H fun x H1=>tb σ H1 fun y H2=>R x y H2) {Q:Value->Shared->Prop} {f:Value->Value->Sem Value}
  (hf:∀ v u s2 x y H2,Inv X pins σ H2 s2->RelV x v->RelV y u->R x y H2->wpAny (model X.prog X.w) X.A (f v u) Q X.xe s2) :
  wpAny (model X.prog X.w) X.A (eval a X.env) (fun v s₁=>wpAny (model X.prog X.w) X.A (eval b X.env) (fun u s₂=>wpAny (model X.prog X.w) X.A (f v u) Q X.xe s₂) X.xe s₁) X.xe s:=by
 refine thn (ha pins s σ H _ I h) fun v s1 ⟨x,H1,I1,r1,q1⟩=>?_
 refine thn (hb pins s1 σ H1 _ I1 q1) fun u s2 ⟨y,H2,I2,r2,q2⟩=>?_
 exact hf v u s2 x y H2 I2 r1 r2 q2
theorem BV {op:Operator} {r:R2} (ho:OpR X (binaryOp op) r) (ha:PE X a ta) (hb:PE X b tb):PE X (.BinOp a op b pos) (tOp r ta tb):=by
 intro pins s σ H Q I h
 exact wpAny_BinOp (ajB ha hb I h fun v u s2 x y H2 I2 rx ry q=>ho pins s2 σ H2 x y v u Q I2 rx ry q)
theorem Sq {op:UnaryOp} {r:V->Hp->VK->Prop} (ho:UnR X (unaryOp op) r) (ha:PE X a ta):PE X (.UnaryOp op a pos) (tUn r ta):=by
 intro pins s σ H Q I h
 exact UnaryOp_ (thn (ha pins s σ H _ I h) fun v s1 ⟨x,H1,I1,r1,q1⟩=>ho pins s1 σ H1 x v Q I1 r1 q1)
theorem opI {f:Value->Value->Sem Value} {C:Int->Int->Prop} {g:Int->Int->Int}
  (rule:∀ (i j:Int) (t u:Tok) (s:Shared) (Q:Value->Shared->Prop) (E:Value->Shared->Prop),C i j->Q (.int (g i j) s.toks) { s with toks:=s.toks + 1 }->wpAny (model X.prog X.w) X.A (f (.int i t) (.int j u)) Q E s) :
  OpR X f (rI C fun i j=>.int (g i j)):=by
 intro pins s σ H x y v u Q I rx ry h
 obtain ⟨i,j,rfl,rfl,hc,q⟩:=h
 obtain ⟨t,rfl⟩:=rx
 obtain ⟨t',rfl⟩:=ry
 exact rule i j t t' s _ _ hc ⟨.int (g i j),H,I.tok _,⟨_,rfl⟩,q⟩
theorem ahn {f:Value->Value->Sem Value} {g:Int->Int->Int}
  (rule:∀ (i j:Int) (t u:Tok) (s:Shared) (Q:Value->Shared->Prop) (E:Value->Shared->Prop),Q (.int (g i j) s.toks) { s with toks:=s.toks + 1 }->wpAny (model X.prog X.w) X.A (f (.int i t) (.int j u)) Q E s) :
  OpR X f (rI0 fun i j=>.int (g i j)):=by
 intro pins s σ H x y v u Q I rx ry h
 obtain ⟨i,j,rfl,rfl,q⟩:=h
 obtain ⟨t,rfl⟩:=rx
 obtain ⟨t',rfl⟩:=ry
 exact rule i j t t' s _ _ ⟨.int (g i j),H,I.tok _,⟨_,rfl⟩,q⟩
theorem aiQ {f:Value->Value->Sem Value} {g:Int->Int->Bool}
  (rule:∀ (i j:Int) (t u:Tok) (s:Shared) (Q:Value->Shared->Prop) (E:Value->Shared->Prop),Q (.bool (g i j)) s->wpAny (model X.prog X.w) X.A (f (.int i t) (.int j u)) Q E s) :
  OpR X f (rI0 fun i j=>.bl (g i j)):=by
 intro pins s σ H x y v u Q I rx ry h
 obtain ⟨i,j,rfl,rfl,q⟩:=h
 obtain ⟨t,rfl⟩:=rx
 obtain ⟨t',rfl⟩:=ry
 exact rule i j t t' s _ _ ⟨.bl (g i j),H,I,rfl,q⟩
def al7 (i j:Int):Prop:=0 < j/\j < 1073741824
def al6 (i j:Int):Prop:=0 <= j/\j <= 1000000/\i.natAbs < 2 ^ 64
def ajJ (i j:Int):Prop:=(-(2 ^ 64) < i/\i < 2 ^ 64) \/ (-(2 ^ 64) < j/\j < 2 ^ 64)
theorem ajJ.ok {i j:Int} (h:ajJ i j):IntMulOk i j:=by
 rcases h with ⟨h1,h2⟩ | ⟨h1,h2⟩
 ·exact .of_left (intBits_le_64 h1 h2)
 ·exact .of_right (intBits_le_64 h1 h2)
theorem Gd:OpR X (binaryOp .Add) (rI0 fun i j=>.int (i + j)):=ahn fun _ _ _ _ _ _ _ q=>add_int q
theorem K9:OpR X (binaryOp .Sub) (rI0 fun i j=>.int (i - j)):=ahn fun _ _ _ _ _ _ _ q=>sub_int q
theorem acI:OpR X (binaryOp .Mult) (rI ajJ fun i j=>.int (i * j)):=opI fun _ _ _ _ _ _ _ hc q=>mul_int q hc.ok
theorem ahm:OpR X (binaryOp .FloorDiv) (rI al7 fun i j=>.int (i / j)):=opI fun i j _ _ _ _ _ hc q=>by
 have h1:(0:Int) < j:=hc.1
 have h2:j < 1073741824:=hc.2
 exact floordiv_int (by omega) (by rw [Int.fdiv_eq_ediv_of_nonneg i (by omega)]; exact q) (.inl (PyProof.noPylong_small (by omega)))
theorem aiN:OpR X (binaryOp .Mod) (rI (fun _ j=>0 < j) fun i j=>.int (i % j)):=opI fun i j _ _ _ _ _ hc q=>by
 have h1:(0:Int) < j:=hc
 exact mod_int' (by omega) (by rw [Int.fmod_eq_emod_of_nonneg i (by omega)]; exact q)
theorem aiM:OpR X (binaryOp .LShift) (rI al6 fun i j=>.int (i * 2 ^ j.toNat)):=opI fun _ _ _ _ _ _ _ hc q=>lshift_int_small hc.1 hc.2.1 hc.2.2 q
theorem acJ:OpR X (binaryOp .BitAnd) (rI0 fun i j=>.int (Builtin.bitAnd i j)):=ahn fun _ _ _ _ _ _ _ q=>and_int q
theorem YL:OpR X (binaryOp .BitOr) (rI0 fun i j=>.int (Builtin.bitOr i j)):=ahn fun _ _ _ _ _ _ _ q=>or_int q
theorem unI {f:Value->Sem Value} {g:Int->Int}
  (rule:∀ (i:Int) (t:Tok) (s:Shared) (Q:Value->Shared->Prop) (E:Value->Shared->Prop),Q (.int (g i) s.toks) { s with toks:=s.toks + 1 }->wpAny (model X.prog X.w) X.A (f (.int i t)) Q E s) :
  UnR X f (rU fun i=>.int (g i)):=by
 intro pins s σ H x v Q I rx h
 obtain ⟨i,rfl,q⟩:=h
 obtain ⟨t,rfl⟩:=rx
 exact rule i t s _ _ ⟨.int (g i),H,I.tok _,⟨_,rfl⟩,q⟩
theorem QJ:UnR X (unaryOp .USub) (rU fun i=>.int (-i)):=unI fun _ _ _ _ _ q=>neg_int q
theorem afv:UnR X (unaryOp .Invert) (rU fun i=>.int (Builtin.bitNot i)):=unI fun _ _ _ _ _ q=>invert_int q
end
def ajY:V->V->Bool
 | .non,.non=>true | .non,.int _=>true | .int _,.non=>true | .non,.bl _=>true | .bl _,.non=>true | .non,.str _=>true | .str _,.non=>true
 | .int _,.int _=>true | .bl _,.bl _=>true | .str _,.str _=>true | .byt _,.byt _=>true
 | .int _,.str _=>true | .str _,.int _=>true | .bl _,.str _=>true | .str _,.bl _=>true
 | _,_=>false
def rEq:R2:=fun x y H Q=>ajY x y=true/\Q (.bl (decide (x=y))) H
def rNe:R2:=fun x y H Q=>ajY x y=true/\Q (.bl (!decide (x=y))) H
theorem adY {i j:Int}:decide (V.int i=V.int j)=(i == j):=by
 rw [Bool.eq_iff_iff]
 simp
theorem agx {i j:Bool}:decide (V.bl i=V.bl j)=(i == j):=by
 rw [Bool.eq_iff_iff]
 simp
theorem adW {i j:Str}:decide (V.str i=V.str j)=(i == j):=by
 rw [Bool.eq_iff_iff]
 simp
theorem adZ {i j:Array UInt8}:decide (V.byt i=V.byt j)=(i.toList == j.toList):=by
 rw [Bool.eq_iff_iff]
 cases i
 cases j
 simp
section
variable {X:Cx} {a b c:Expr} {ta tb tc:TE} {pos:Pos}
theorem BX {pins:List (Addr × Obj)} {σ:St} {H:Hp} {s:Shared} {Q:VK} {k k':Bool} (I:Inv X pins σ H s) (q:Q (.bl k) H) (e:k=k'):EP X pins σ Q (.bool k') s:=by
 subst e
 exact ⟨.bl k,H,I,rfl,q⟩
theorem La:OpR X (compareOp .Eq) rEq:=by
 intro pins s σ H x y v u Q I rx ry h
 obtain ⟨hs,q⟩:=h
 cases x with
 | non =>
  cases rx
  cases y with
  | non=>cases ry; exact PySem.EqNone.eq_none_none (BX I q (by simp))
  | bl j=>cases ry; exact PySem.EqNone.eq_none_bool (BX I q (by simp))
  | int j=>obtain ⟨t',rfl⟩:=ry; exact PySem.EqNone.eq_none_int (BX I q (by simp))
  | str j=>obtain ⟨t',rfl⟩:=ry; exact PySem.EqNone.eq_none_str (BX I q (by simp))
  | _=>exact absurd (show false=true from hs) Bool.false_ne_true
 | bl i =>
  cases rx
  cases y with
  | non=>cases ry; exact PySem.EqNone.eq_bool_none (BX I q (by simp))
  | bl j=>cases ry; exact eq_bool (BX I q agx)
  | str j=>obtain ⟨t',rfl⟩:=ry; exact PySem.EqMixed.eq_bool_str (BX I q (by simp))
  | _=>exact absurd (show false=true from hs) Bool.false_ne_true
 | int i =>
  obtain ⟨t,rfl⟩:=rx
  cases y with
  | non=>cases ry; exact PySem.EqNone.eq_int_none (BX I q (by simp))
  | int j=>obtain ⟨t',rfl⟩:=ry; exact eq_int (BX I q adY)
  | str j=>obtain ⟨t',rfl⟩:=ry; exact PySem.EqMixed.eq_int_str (BX I q (by simp))
  | _=>exact absurd (show false=true from hs) Bool.false_ne_true
 | str i =>
  obtain ⟨t,rfl⟩:=rx
  cases y with
  | non=>cases ry; exact PySem.EqNone.eq_str_none (BX I q (by simp))
  | bl j=>cases ry; exact PySem.EqMixed.eq_str_bool (BX I q (by simp))
  | int j=>obtain ⟨t',rfl⟩:=ry; exact PySem.EqMixed.eq_str_int (BX I q (by simp))
  | str j=>obtain ⟨t',rfl⟩:=ry; exact eq_str (BX I q adW)
  | _=>exact absurd (show false=true from hs) Bool.false_ne_true
 | byt i =>
  obtain ⟨t,rfl⟩:=rx
  cases y with
  | byt j=>obtain ⟨t',rfl⟩:=ry; exact PySem.W.eq_bytes (BX I q adZ)
  | _=>exact absurd (show false=true from hs) Bool.false_ne_true
 | _=>cases y <;> exact absurd (show false=true from hs) Bool.false_ne_true
theorem YM:OpR X (compareOp .NotEq) rNe:=by
 intro pins s σ H x y v u Q I rx ry h
 obtain ⟨hs,q⟩:=h
 cases x with
 | non =>
  cases rx
  cases y with
  | non=>cases ry; exact PySem.EqNone.ne_none_none (BX I q (by simp))
  | bl j=>cases ry; exact PySem.EqNone.ne_none_bool (BX I q (by simp))
  | int j=>obtain ⟨t',rfl⟩:=ry; exact PySem.EqNone.ne_none_int (BX I q (by simp))
  | str j=>obtain ⟨t',rfl⟩:=ry; exact PySem.EqNone.ne_none_str (BX I q (by simp))
  | _=>exact absurd (show false=true from hs) Bool.false_ne_true
 | bl i =>
  cases rx
  cases y with
  | non=>cases ry; exact PySem.EqNone.ne_bool_none (BX I q (by simp))
  | bl j=>cases ry; exact ne_bool (BX I q (congrArg not agx))
  | str j=>obtain ⟨t',rfl⟩:=ry; exact PySem.EqMixed.ne_bool_str (BX I q (by simp))
  | _=>exact absurd (show false=true from hs) Bool.false_ne_true
 | int i =>
  obtain ⟨t,rfl⟩:=rx
  cases y with
  | non=>cases ry; exact PySem.EqNone.ne_int_none (BX I q (by simp))
  | int j=>obtain ⟨t',rfl⟩:=ry; exact ne_int (BX I q (congrArg not adY))
  | str j=>obtain ⟨t',rfl⟩:=ry; exact PySem.EqMixed.ne_int_str (BX I q (by simp))
  | _=>exact absurd (show false=true from hs) Bool.false_ne_true
 | str i =>
  obtain ⟨t,rfl⟩:=rx
  cases y with
  | non=>cases ry; exact PySem.EqNone.ne_str_none (BX I q (by simp))
  | bl j=>cases ry; exact PySem.EqMixed.ne_str_bool (BX I q (by simp))
  | int j=>obtain ⟨t',rfl⟩:=ry; exact PySem.EqMixed.ne_str_int (BX I q (by simp))
  | str j=>obtain ⟨t',rfl⟩:=ry; exact ne_str (BX I q (congrArg not adW))
  | _=>exact absurd (show false=true from hs) Bool.false_ne_true
 | byt i =>
  obtain ⟨t,rfl⟩:=rx
  cases y with
  | byt j=>obtain ⟨t',rfl⟩:=ry; exact PySem.W.ne_bytes (BX I q (congrArg not adZ))
  | _=>exact absurd (show false=true from hs) Bool.false_ne_true
 | _=>cases y <;> exact absurd (show false=true from hs) Bool.false_ne_true
theorem YQ:OpR X (compareOp .Lt) (rI0 fun i j=>.bl (decide (i < j))):=aiQ fun _ _ _ _ _ _ _ q=>lt_int q
theorem Qa:OpR X (compareOp .LtE) (rI0 fun i j=>.bl (decide (i <= j))):=aiQ fun _ _ _ _ _ _ _ q=>le_int q
theorem Sv:OpR X (compareOp .Gt) (rI0 fun i j=>.bl (decide (j < i))):=aiQ fun _ _ _ _ _ _ _ q=>gt_int q
theorem Bu (b:Expr) {op:CmpOp} (h:op ≠ .In:=by decide) (h2:op ≠ .NotIn:=by decide):behindInMarks op b=false:=by
 have e1:(op == CmpOp.In)=false:=by cases op <;> first | rfl | exact absurd rfl h
 have e2:(op == CmpOp.NotIn)=false:=by cases op <;> first | rfl | exact absurd rfl h2
 cases b <;> simp [behindInMarks,e1,e2]
theorem FQ {op:CmpOp} {r:R2} (ho:OpR X (compareOp op) r) (ha:PE X a ta) (hb:PE X b tb) (hm:behindInMarks op b=false):PE X (.Compare a [op] [b] pos) (tOp r ta tb):=by
 intro pins s σ H Q I h
 exact wpAny_Compare1 (ajB ha hb I h fun v u s2 x y H2 I2 rx ry q=>ho pins s2 σ H2 x y v u Q I2 rx ry q) hm
def ajN (t:TE):TT:=fun σ H Q=>t σ H fun x H'=>∃ k,x = .bl k/\Q k H'
theorem Bp {op:CmpOp} {r:R2} (ho:OpR X (compareOp op) r) (ha:PE X a ta) (hb:PE X b tb) (hm:behindInMarks op b=false):PT X (.Compare a [op] [b] pos) (ajN (tOp r ta tb)):=by
 intro pins s σ H Q I h
 refine wpAny_isTrue_Compare1 (thn (ha pins s σ H _ I h) fun v s1 ⟨x,H1,I1,r1,q1⟩=>thn (hb pins s1 σ H1 _ I1 q1) fun u s2 ⟨y,H2,I2,r2,q2⟩ =>
  thn (ho pins s2 σ H2 x y v u _ I2 r1 r2 q2) fun c s3 ⟨z,H3,I3,r3,k,e,q3⟩=>?_) hm
 subst e
 cases r3
 exact wpAny_truthy_bool ⟨H3,I3,q3⟩
def aiv (r r':R2) (ta tb tc:TE):TE:=fun σ H Q=>ta σ H fun x H1=>tb σ H1 fun y H2=>r x y H2 fun z H3=>∃ k,z = .bl k /\
 (if k=true then tc σ H3 fun w' H4=>r' y w' H4 Q else Q (.bl false) H3)
theorem VM {op op':CmpOp} {r r':R2} (ho:OpR X (compareOp op) r) (ho':OpR X (compareOp op') r') (ha:PE X a ta) (hb:PE X b tb) (hc:PE X c tc)
  (hm:lastMarks [op,op'] [b,c] = false:=by with_unfolding_all rfl):PE X (.Compare a [op,op'] [b,c] pos) (aiv r r' ta tb tc):=by
 intro pins s σ H Q I h
 refine Compare_chain (thn (ha pins s σ H _ I h) fun v s1 ⟨x,H1,I1,r1,q1⟩=>chain_link (thn (hb pins s1 σ H1 _ I1 q1) fun u s2 ⟨y,H2,I2,r2,q2⟩ =>
  thn (ho pins s2 σ H2 x y v u _ I2 r1 r2 q2) fun d s3 ⟨z,H3,I3,r3,k,e,q3⟩=>?_)) hm
 subst e
 cases r3
 refine wpAny_truthy_bool ?_
 cases k with
 | false=>exact ite_ff ⟨.bl false,H3,I3,rfl,q3⟩
 | true=>exact ite_tt (chain_last (thn (hc pins s3 σ H3 _ I3 q3) fun w' s4 ⟨z',H4,I4,r4,q4⟩=>ho' pins s4 σ H4 y z' u w' Q I4 r2 r4 q4))
theorem Z6:(sizeLine:Nat) < 2 ^ 63:=by rw [sizeLine_eq]; decide
theorem vals1 {x:V} {us:List Value} (r:Vals [x] us):∃ u,us=[u]/\RelV x u:=by
 cases r with
 | cons r1 r2=>cases r2; exact ⟨_,rfl,r1⟩
theorem agG:Kc X (.builtin "ord") (fun xs H Q=>∃ x,xs=[.str x]/\x.length=1/\Q (.int (x.cps.getD 0 0:Nat)) H):=by
 intro pins s σ H xs us Q I r h
 obtain ⟨x,rfl,hz,q⟩:=h
 obtain ⟨u,rfl,t,rfl⟩:=vals1 r
 exact ord_of_one hz ⟨.int _,H,I.tok _,⟨_,rfl⟩,q⟩
end
structure afp (h:Heap) (x dx C:Addr) (mA:Str->Option Value):Prop where
 obj:h.get? x=some (PySem.W.instObj C dx)
 ns:h.Ns1 dx mA
 ne:dx ≠ x
theorem aeH {h:Heap} {dx:Addr} {mA:Str->Option Value} (n:h.Ns1 dx mA):∃ od,h.get? dx=some od/\∀ name,PySem.W.lookIn name od=some (mA name):=by
 obtain ⟨o,es,ep,ho,hd,hk,_,hm⟩:=n
 refine ⟨o,ho,fun name=>?_⟩
 have e:=hm name
 unfold nsFind findBy at e
 rw [<- Array.find?_toList] at e
 unfold PySem.W.lookIn
 rw [hd]
 dsimp only
 split
 ·rename_i y q
  rw [q] at e
  exact congrArg some e
 ·rename_i q
  rw [q] at e
  have a:es.toList.any (·.refKey)=false:=by
   rw [List.any_eq_false]
   intro y hy
   obtain ⟨z,t,hkey⟩:=hk y (Array.mem_toList_iff.mp hy)
   simp [DictEntry.refKey,hkey]
  have a':¬ es.toList.any (·.refKey)=true:=by rw [a]; exact Bool.false_ne_true
  rw [if_neg a']
  exact congrArg some e
theorem afp.look {h:Heap} {x dx C:Addr} {mA:Str->Option Value} (I:afp h x dx C mA):∃ od,PySem.W.InstAt h x (PySem.W.instObj C dx) C (some od)/\∀ name,PySem.W.lookIn name od=some (mA name) :=
 let ⟨od,ho,hl⟩:=aeH I.ns
 ⟨od,⟨I.obj,rfl,rfl,ho⟩,hl⟩
section
variable {prog:Program} {w:World} {A:Around} {E:Value->Shared->Prop} {s:Shared} {K:PySem.W.Frag} {x dx C f:Addr} {mA:Str->Option Value} {name:Str} {v:Value}
theorem get_map {expr:Bool} {Q:Value->Shared->Prop} (X:K.In s.heap) (I:afp s.heap x dx C mA) (hg:PySem.W.plainGet K C name=true) (hh:PySem.W.hasDictIn K C=true)
  (ha:PySem.W.findIn K (.ref C) name=some none) (hv:mA name=some v) (hv':PySem.W.handedIn v=true) (h:Q v { s with toks:=s.toks + 1 }) :
  wpAny (model prog w) A (getAttr (.ref x) name expr) Q E s:=by
 obtain ⟨od,J,hl⟩:=I.look
 exact PySem.W.get_value X J (PySem.W.plainGet_of hg).1 (PySem.W.findObj_own hh ha rfl (by rw [hl,hv])) hv' h
theorem ag7 {ns:List Str} {Q:Unit->Shared->Prop} (X:K.In s.heap) (I:afp s.heap x dx C mA)
  (hs:PySem.W.findIn K (.ref C) "__setattr__" = some (some (.builtin "object.__setattr__"))) (hp:PySem.W.plainOver K C=true) (ht:PySem.W.takerIn K C name=some none) (hh:PySem.W.hasDictIn K C=true)
  (hw:PySem.Within mA ns) (hsz:ns.length <= sizeLine)
  (h:∀ h',afp h' x dx C (fun y=>if y=name then some v else mA y)->Heap.SameBut dx s.heap h'->Q () { s with heap:=h',toks:=s.toks + 2 }) :
  wpAny (model prog w) A (setAttr (.ref x) name v) Q E s:=by
 obtain ⟨od,J,hl⟩:=I.look
 refine PySem.W.set_plain X J hs (PySem.W.osa_open (s:={ s with toks:=s.toks + 1 }) (r:=none) X J hp ht fun b=>?_)
 obtain ⟨cd,hc,hd'⟩:=PySem.W.any_some hh
 have hx:s.heap.get? x=some ⟨.ref C,some dx,.plain,#[]⟩:=I.obj
 refine wpAny_bind (wpAny_pure (wpAny_bind (wpAny_bind (wpAny_loadPart hx (wpAny_bind (PySem.W.Looks.here (s:={ s with toks:=s.toks + 1 }) (PySem.W.looks_clsIn X hc) ?_))))))
 rw [hd']
 refine wpAny_pure (a:=some dx) (wpAny_bind (wpAny_pure (wpAny_bind ?_)))
 refine wpAny_nsSet1 (s:={ s with toks:=s.toks + 1 }) I.ns fun h' hn2 hs2=>?_
 obtain ⟨oD,esD,epD,hoD,hdD,hcD⟩:=hn2.count (PySem.Within.cons name v hw)
 refine wpAny_bind (wpAny_lookBehind hoD (by rw [hdD]; exact pastItsLine_dict (Nat.le_trans hcD (by rw [List.length_cons]; omega))) ?_)
 exact wpAny_pure (h _ ⟨(hs2.2 _ (Ne.symm I.ne)).trans I.obj,hn2,I.ne⟩ hs2)
theorem af7 {R:Result->Shared->Prop} {vs:List Value} {kw:List (Str × Value)} (X:K.In s.heap) (hm:PySem.W.makesIn K C=true)
  (hi:PySem.W.findIn K (.ref C) "__init__" = some (some (.ref f))) (hf:PySem.W.typeIn K (.ref f)=some (.type "function"))
  (h:codeAny (model prog w) (A.under (.builtin "type.__call__" ⟨.ref C :: vs,kw⟩)) (.call (.ref f) ⟨.ref (s.heap.objs.size + 1) :: vs,kw⟩) (PySem.W.InitBack (s.heap.objs.size + 1) R)
   { s with heap:=(s.heap.push PySem.W.emptyDict).push (PySem.W.instObj C s.heap.objs.size) }) :
  codeAny (model prog w) A (.call (.ref C) ⟨vs,kw⟩) R s:=by
 obtain ⟨hh,g,d,t,os⟩:=s
 exact PySem.W.make_core (PySem.W.makes_of X hm) (PySem.W.looks_findIn X hi) (fun self=>PySem.W.bind_fn X self hf) (.inl rfl) h
end
def M5 (f:Str) (v:V):List (Str × V)->List (Str × V)
 | []=>[(f,v)]
 | (g,x) :: r=>if g=f then (g,v) :: r else (g,x) :: M5 f v r
theorem SJ (f g:Str) (v:V):∀ fs:List (Str × V),(M5 f v fs).lookup g=if g=f then some v else fs.lookup g
 | []=>by
  show List.lookup g [(f,v)] = _
  by_cases h:g=f
  ·have hb:(g == f)=true:=beq_iff_eq.mpr h
   simp only [List.lookup,hb,if_pos h]
  ·have hb:(g == f)=false:=beq_eq_false_iff_ne.mpr h
   simp only [List.lookup,hb,if_neg h]
 | (k,x) :: r=>by
  have ih:=SJ f g v r
  rw [show M5 f v ((k,x) :: r)=(if k=f then (k,v) :: r else (k,x) :: M5 f v r) from rfl]
  by_cases hk:k=f
  ·rw [if_pos hk]
   by_cases h:g=k
   ·have hb:(g == k)=true:=beq_iff_eq.mpr h
    simp only [List.lookup,hb,if_pos (h.trans hk)]
   ·have hb:(g == k)=false:=beq_eq_false_iff_ne.mpr h
    simp only [List.lookup,hb,if_neg (fun e:g=f=>h (e.trans hk.symm))]
  ·rw [if_neg hk]
   by_cases h:g=k
   ·have hb:(g == k)=true:=beq_iff_eq.mpr h
    simp only [List.lookup,hb,if_neg (fun e:g=f=>hk (h.symm.trans e))]
   ·have hb:(g == k)=false:=beq_eq_false_iff_ne.mpr h
    simp only [List.lookup,hb]
    exact ih
theorem Ru (f:Str) (v:V):∀ fs:List (Str × V),f ∈ (M5 f v fs).map (·.1)/\∀ g,g ∈ fs.map (·.1)->g ∈ (M5 f v fs).map (·.1)
 | []=>⟨by simp [M5],fun g h=>by simp at h⟩
 | (k,x) :: r=>by
  obtain ⟨i1,i2⟩:=Ru f v r
  rw [show M5 f v ((k,x) :: r)=(if k=f then (k,v) :: r else (k,x) :: M5 f v r) from rfl]
  by_cases hk:k=f
  ·rw [if_pos hk]
   subst hk
   exact ⟨by simp,fun g h=>by simpa using h⟩
  ·rw [if_neg hk]
   refine ⟨?_,fun g h=>?_⟩
   ·rw [List.map_cons]
    exact List.mem_cons_of_mem _ i1
   ·rw [List.map_cons] at h ⊢
    rcases List.mem_cons.mp h with e | e
    ·exact List.mem_cons.mpr (.inl e)
    ·exact List.mem_cons_of_mem _ (i2 g e)
theorem SX (f:Str) (v:V):∀ fs:List (Str × V),(M5 f v fs).length <= fs.length + 1
 | []=>by simp [M5]
 | (k,x) :: r=>by
  have ih:=SX f v r
  rw [show M5 f v ((k,x) :: r)=(if k=f then (k,v) :: r else (k,x) :: M5 f v r) from rfl]
  by_cases hk:k=f
  ·rw [if_pos hk,List.length_cons,List.length_cons]; omega
  ·rw [if_neg hk,List.length_cons,List.length_cons]; omega
theorem OD.some_of {v:V} {o:Option Value} (r:OD (some v) o):∃ u,o=some u/\RelV v u:=by
 cases o with
 | none=>exact (show False from r).elim
 | some u=>exact ⟨u,rfl,r⟩
theorem aeS {v:V} {u:Value} (r:RelV v u):PySem.W.handedIn u=true:=by
 cases v with
 | non=>cases (show u=Value.none from r); rfl
 | bl b=>cases (show u=Value.bool b from r); rfl
 | int i=>obtain ⟨t,e⟩:=(show ∃ t,u=Value.int i t from r); cases e; rfl
 | str x=>obtain ⟨t,e⟩:=(show ∃ t,u=Value.str x t from r); cases e; rfl
 | byt b=>obtain ⟨t,e⟩:=(show ∃ t,u=Value.bytes b t from r); cases e; rfl
 | flt b=>obtain ⟨t,e⟩:=(show ∃ t,u=Value.float b t from r); cases e; rfl
 | ref a=>cases (show u=Value.ref a from r); rfl
 | ty n=>cases (show u=Value.type n from r); rfl
section
variable {P:Program} {w:World} {H H':Hp} {h h':Heap} {a C dx:Addr} {fs fs':List (Str × V)}
theorem adO (hok:HOk P w H h) (e:H a=some (.ins C dx fs)):∃ mA,afp h a dx C mA/\(∀ f,OD (fs.lookup f) (mA f))/\PySem.Within mA (fs.map (·.1))/\fs.length <= 1000/\H dx=some (.own a):=by
 obtain ⟨d,z,ne,ob,mA,n,r,q⟩:=(show Ds P w H h a (.ins C dx fs) from hok a _ e)
 exact ⟨mA,⟨ob,n,ne⟩,r,q,z,d⟩
end
structure Cls (K:PySem.W.Frag) (C:Addr):Prop where
 pg:PySem.W.plainGet K C Str.empty=true
 hd:PySem.W.hasDictIn K C=true
 po:PySem.W.plainOver K C=true
 sa:PySem.W.findIn K (.ref C) "__setattr__" = some (some (.builtin "object.__setattr__"))
theorem Cls.get {K:PySem.W.Frag} {C:Addr} (c:Cls K C) (f:Str):PySem.W.plainGet K C f=true:=c.pg
def DR (K:PySem.W.Frag) (C:Addr) (f:Str):Prop:=PySem.W.findIn K (.ref C) f=some none
theorem DR.taker {K:PySem.W.Frag} {C:Addr} {f:Str} (n:DR K C f):PySem.W.takerIn K C f=some none:=by
 unfold PySem.W.takerIn
 rw [show PySem.W.findIn K (.ref C) f=some none from n]
 rfl
section
variable {X:Cx} {pins:List (Addr × Obj)} {σ:St} {H:Hp} {s:Shared} {a C dx:Addr} {fs:List (Str × V)} {f:Str} {v:V} {A:Around} {E:Value->Shared->Prop}
theorem ac0 {b:Bool} {Q:Value->Shared->Prop} (I:Inv X pins σ H s) (e:H a=some (.ins C dx fs)) (c:Cls X.K C) (n:DR X.K C f) (l:fs.lookup f=some v)
  (h:∀ u s',Inv X pins σ H s'->RelV v u->Q u s'):wpAny (model X.prog X.w) A (getAttr (.ref a) f b) Q E s:=by
 obtain ⟨mA,O,r,_,_,_⟩:=adO I.hok e
 obtain ⟨u,hu,ru⟩:=OD.some_of (v:=v) (o:=mA f) (by rw [<- l]; exact r f)
 exact get_map I.kIn O (c.get f) c.hd n hu (aeS ru) (h u _ (I.tok _) ru)
theorem acr {y:V} {u:Value} {Q:Unit->Shared->Prop} (I:Inv X pins σ H s) (e:H a=some (.ins C dx fs)) (c:Cls X.K C) (n:DR X.K C f) (hl:fs.length < 1000) (ry:RelV y u)
  (h:∀ s',Inv X pins σ (upd H a (.ins C dx (M5 f y fs))) s'->Q () s'):wpAny (model X.prog X.w) A (setAttr (.ref a) f u) Q E s:=by
 obtain ⟨mA,O,r,wi,_,ho⟩:=adO I.hok e
 have hz:(fs.map (·.1)).length <= sizeLine:=by rw [List.length_map,sizeLine_eq]; omega
 refine ag7 I.kIn O c.sa c.po n.taker c.hd wi hz fun h' O' sb=>h _ ?_
 have hd:∃ o,h'.get? dx=some o:=let ⟨o,_,_,e',_⟩:=O'.ns; ⟨o,e'⟩
 refine I.write (x:=a) (e:=dx) (by rw [e]; exact True.intro) (.inr ho) (fun b q hb z=>(sb.2 b hb).trans z) hd ?_
 refine ⟨by rw [Ah O.ne]; exact ho,?_,O.ne,O'.obj,_,O'.ns,fun g=>?_,fun g hg=>?_⟩
 ·have:=SX f y fs; omega
 ·show OD ((M5 f y fs).lookup g) (if g=f then some u else mA g)
  rw [SJ]
  by_cases q:g=f
  ·rw [if_pos q,if_pos q]; exact ry
  ·rw [if_neg q,if_neg q]; exact r g
 ·by_cases q:g=f
  ·rw [q]; exact (Ru f y fs).1
  ·refine (Ru f y fs).2 g (wi g fun z=>hg ?_)
   show (if g=f then some u else mA g)=none
   rw [if_neg q]; exact z
theorem Inv.made (I:Inv X pins σ H s):Inv X pins σ (upd (upd H s.heap.objs.size (.own (s.heap.objs.size + 1))) (s.heap.objs.size + 1) (.ins C s.heap.objs.size []))
  { s with heap:=(s.heap.push PySem.W.emptyDict).push (PySem.W.instObj C s.heap.objs.size) }:=by
 have e1:(s.heap.push PySem.W.emptyDict).get? s.heap.objs.size=some PySem.W.emptyDict:=Heap.get?_push_size s.heap rfl
 have e2:((s.heap.push PySem.W.emptyDict).push (PySem.W.instObj C s.heap.objs.size)).get? (s.heap.objs.size + 1)=some (PySem.W.instObj C s.heap.objs.size):=by
  have:=Heap.get?_push_size (s.heap.push PySem.W.emptyDict) (o:=PySem.W.instObj C s.heap.objs.size) rfl
  rwa [Heap.size_push] at this
 have e3:(s.heap.push PySem.W.emptyDict).Ns s.heap.objs.size (fun _=>none):=⟨PySem.W.emptyDict,#[],_,e1,rfl,(fun e he=>absurd he (by simp)),fun _=>rfl⟩
 have I1:=I.laid (a:=s.heap.objs.size) (o:=.own (s.heap.objs.size + 1)) (h':=s.heap.push PySem.W.emptyDict) (t':=s.toks) (fun b u q=>Heap.get?_push_of_some _ q) (Nat.le_refl _) ⟨_,e1⟩
 refine I1.laid (a:=s.heap.objs.size + 1) (o:=.ins C s.heap.objs.size []) (t':=s.toks) (fun b u q=>Heap.get?_push_of_some _ q) (Nat.le_of_eq (Heap.size_push _ _)) ?_
 have ne:s.heap.objs.size ≠ s.heap.objs.size + 1:=Nat.ne_of_lt (Nat.lt_succ_self _)
 refine ⟨by rw [Ah ne,Ab],Nat.zero_le _,ne,e2,fun _=>none,(Heap.Ns1.of_empty e3).at fun o q=>Heap.get?_push_of_some _ q,fun _=>True.intro,fun y hy=>absurd rfl hy⟩
theorem ahX {prog:Program} {w:World} {env:Env} {e:Expr} {f:Str} {pos:Pos} {s:Shared} {Q:Value->Shared->Prop} (hb:attributeBase e f env (eval e env)=eval e env)
  (h:wpAny (model prog w) A (eval e env) (fun o s₁=>wpAny (model prog w) A (getAttr o f true) Q E s₁) E s):wpAny (model prog w) A (eval (.Attribute e f pos) env) Q E s :=
 Attribute_any_ h (by rw [arm_eval_Attribute,hb])
end
def ak9 (K:PySem.W.Frag) (ta:TE) (f:Str):TE:=fun σ H Q=>ta σ H fun x H1=>∃ a C dx fs v,x = .ref a/\H1 a=some (.ins C dx fs)/\Cls K C/\DR K C f/\fs.lookup f=some v/\Q v H1
def ald (K:PySem.W.Frag) (ta tv:TE) (f:Str):TS:=fun D σ H=>tv σ H fun y H1=>ta σ H1 fun x H2=>∃ a C dx fs,x = .ref a/\H2 a=some (.ins C dx fs)/\Cls K C/\DR K C f/\fs.length < 1000 /\
 D.nx σ (upd H2 a (.ins C dx (M5 f y fs)))
section
variable {X:Cx} {o e value:Expr} {f:Str} {pos pos' tpos:Pos} {ta tv:TE}
theorem Bk (he:PE X e ta) (hb:attributeBase e f X.env (eval e X.env)=eval e X.env):PE X (.Attribute e f pos) (ak9 X.K ta f):=by
 intro pins s σ H Q I h
 refine ahX hb (thn (he pins s σ H _ I h) fun u s1 ⟨x,H1,I1,rx,a,C,dx,fs,v,ex,ea,c,n,l,q⟩=>?_)
 subst ex
 obtain rfl:u=Value.ref a:=rx
 exact ac0 I1 ea c n l fun u' s2 I2 ru=>⟨v,H1,I2,ru,q⟩
theorem Gs (ha:PE X o ta) (hv:PE X value tv) (hs:swapsWith value (some (.Attribute o f pos')) pos.line X.env=pure false):PS X (.Assign [.Attribute o f pos'] value pos) (ald X.K ta tv f):=by
 intro pins s σ H D I h
 refine plainObj_wpAny_Assign_Attribute (thn (hv pins s σ H _ I h) fun u s1 ⟨y,H1,I1,ry,q⟩=>thn (ha pins s1 σ H1 _ I1 q) fun ov s2 ⟨x,H2,I2,rx,a,C,dx,fs,ex,ea,c,n,l,q2⟩=>?_) hs
 subst ex
 obtain rfl:ov=Value.ref a:=rx
 exact acr I2 ea c n l ry fun s3 I3=>⟨σ,_,I3,q2⟩
end
structure Fq (k:Nat) (A:Around):Prop where
 hd:A.handled=none
 dp:A.depth + 3 * k + 5 < recursionLimit
 un:A.units + 16 * k + 200 < cLine
theorem Fq.mono {j k:Nat} {A:Around} (r:Fq k A) (h:j <= k):Fq j A:=⟨r.hd,by have:=r.dp; omega,by have:=r.un; omega⟩
theorem Fq.deeper {k:Nat} {A:Around} (r:Fq (k + 1) A) (env:Env):Fq k (A.deeper env) :=
 ⟨r.hd,by have:=r.dp; show A.depth + 1 + 3 * k + 5 < _; omega,by have:=r.un; show A.units + 3 + 16 * k + 200 < _; omega⟩
theorem acS {A:Around} {C:Addr} {us:List Value} {kw:List (Str × Value)}:(A.under (.builtin "type.__call__" ⟨.ref C :: us,kw⟩)).depth=A.depth + 1:=by
 first | rfl | simp [Around.under,Code.weight,Code.isCreation,Code.isGuard,Code.isCaller,Code.frames,Code.isFrame,guardIds]
theorem acR {A:Around} {C:Addr} {us:List Value} {kw:List (Str × Value)}:(A.under (.builtin "type.__call__" ⟨.ref C :: us,kw⟩)).units=A.units + 1:=by
 first | rfl | simp [Around.under,Code.cUnits,Code.frames,Code.isFrame]
theorem Fq.make {k:Nat} {A:Around} (r:Fq (k + 1) A) (C:Addr) (us:List Value) (kw:List (Str × Value)):Fq k (A.under (.builtin "type.__call__" ⟨.ref C :: us,kw⟩)) :=
 ⟨r.hd,by have:=r.dp; rw [acS]; omega,by have:=r.un; rw [acR]; omega⟩
theorem Fq.depth {k:Nat} {A:Around} (r:Fq k A):A.depth < recursionLimit:=by have:=r.dp; omega
theorem Fq.units {k:Nat} {A:Around} (r:Fq k A):A.units + 64 < cLine:=by have:=r.un; omega
theorem Fq.aio {k:Nat} {A:Around} (r:Fq k A):A.units < cLine:=by have:=r.un; omega
def ak4:TA:=fun _ H Q=>Q [] H
def ajV (ta:TE) (tr:TA):TA:=fun σ H Q=>ta σ H fun x H1=>tr σ H1 fun xs H2=>Q (x :: xs) H2
section
variable {X:Cx} {e:Expr} {es:List Expr} {te:TE} {t:TA} {pos:Pos}
theorem Ad:PA X [] ak4:=fun _ _ _ _ H Q I h=>Calls.spliced_nil ⟨[],H,I,.nil,h⟩
theorem Aa (ha:PE X e te) (hr:PA X es t) (hs:starEach (e :: es) X.env=(false,eval e X.env) :: starEach es X.env:=by rfl):PA X (e :: es) (ajV te t):=by
 intro pos pins s σ H Q I h
 rw [hs]
 show wpAny _ _ (spliced ((false,eval e X.env) :: backTo pos (starEach es X.env))) _ _ s
 refine Calls.spliced_cons (thn (ha pins s σ H _ I h) fun u s1 ⟨x,H1,I1,r1,q1⟩=>?_)
 exact thn (hr pos pins s1 σ H1 _ I1 q1) fun us s2 ⟨xs,H2,I2,r2,q2⟩=>⟨x :: xs,H2,I2,.cons r1 r2,q2⟩
def akZ (t:TA):TE:=fun σ H Q=>t σ H fun xs H1=>xs.length <= sizeLine/\∀ p,H1 p=none->Q (.ref p) (upd H1 p (.tup xs))
def ak5 (t:TA):TE:=fun σ H Q=>t σ H fun xs H1=>xs.length <= sizeLine/\∀ p,H1 p=none->Q (.ref p) (upd H1 p (.lst xs))
theorem Rh {x1} (h:PA X es t):PE X (.Tuple es x1 pos) (akZ t):=by
 intro pins s σ H Q I hq
 refine wpAny_Tuple_spliced (thn (h pos pins s σ H _ I hq) fun us s1 ⟨xs,H1,I1,r,z,q⟩=>⟨by rw [<- r.length]; exact z,?_⟩)
 have hf:H1 s1.heap.objs.size=none:=I1.hok.fresh (Nat.le_refl _)
 refine ⟨.ref s1.heap.objs.size,upd H1 s1.heap.objs.size (.tup xs),I1.laid (t':=s1.toks) (fun b u e=>Heap.get?_push_of_some _ e) (Nat.le_refl _) ?_,rfl,q _ hf⟩
 exact ⟨z,us,r,⟨_,Heap.get?_push_size _ rfl,rfl,_,rfl⟩⟩
theorem DN (h:PA X es t):PE X (.List es pos) (ak5 t):=by
 intro pins s σ H Q I hq
 refine wpAny_List_spliced (thn (h pos pins s σ H _ I hq) fun us s1 ⟨xs,H1,I1,r,z,q⟩=>⟨by rw [<- r.length]; exact z,?_⟩)
 have hf:H1 s1.heap.objs.size=none:=I1.hok.fresh (Nat.le_refl _)
 refine ⟨.ref s1.heap.objs.size,upd H1 s1.heap.objs.size (.lst xs),I1.laid (t':=s1.toks) (fun b u e=>Heap.get?_push_of_some _ e) (Nat.le_refl _) ?_,rfl,q _ hf⟩
 exact ⟨z,us,0,r,Heap.get?_push_size _ rfl⟩
end
abbrev Sp:=List V->Hp->VK->XK->Prop
abbrev CXT:=List Env->Hp->Shared->XK->Value->Shared->Prop
structure adq (P:Program) (w:World) (K:PySem.W.Frag) (mg:Str->Option Value) (base:Heap) (A:Around) (outer:List Env) (s:Shared) (H:Hp):Prop where
 frames:A.frames=some outer
 mod:Mod K mg base
 bs:∀ b o,base.get? b=some o->s.heap.get? b=some o/\H b=none
 bsz:base.objs.size <= s.heap.objs.size
 T3:s.heap.FunFrames base outer
 frf:∀ b ∈ frs outer,H b=none
 hok:HOk P w H s.heap
 bare:AllBare s.gens
def CE (outer:List Env) (P:Program) (w:World) (H:Hp) (s:Shared) (Q:VK) (u:Value) (s':Shared):Prop :=
 ∃ v H',s'.os=s.os/\AllBare s'.gens/\Un (frs outer) [] H H' s.heap s'.heap/\HOk P w H' s'.heap/\RelV v u/\Q v H'
def CR (CX:CXT) (outer:List Env) (P:Program) (w:World) (H:Hp) (s:Shared) (Q:VK) (E:XK) (r:Result) (s':Shared):Prop :=
 match r with
 | .ok (.ret u)=>CE outer P w H s Q u s'
 | .ok _=>False
 | .error e=>CX outer H s E e s'
structure Up (P:Program) (w:World) (K:PySem.W.Frag) (mg:Str->Option Value) (base:Heap) (CX:CXT) (k:Nat) (f:Addr) (fd:FuncData) (ps:List Str) (sp:Sp):Prop where
 len:∀ vs H Q E,sp vs H Q E->vs.length=ps.length
 run:∀ (A:Around) (outer:List Env) (s:Shared) (H:Hp) (args:Args) (us:List Value) (vs:List V) (Q:VK) (E:XK),Fq k A->adq P w K mg base A outer s H->BindsTo s fd args (ps.zip us)->Vals vs us->sp vs H Q E ->
  codeAny (model P w) A (.call (.ref f) args) (CR CX outer P w H s Q E) s
theorem adq.make {P:Program} {w:World} {K:PySem.W.Frag} {mg:Str->Option Value} {base:Heap} {A:Around} {outer:List Env} {s:Shared} {H:Hp} (e:adq P w K mg base A outer s H) (C:Addr) (us:List Value) (kw:List (Str × Value)) :
  adq P w K mg base (A.under (.builtin "type.__call__" ⟨.ref C :: us,kw⟩)) outer s H:=⟨by first | exact e.frames | (simpa [Around.under,Code.envs,Code.isFrame,pushEnvs] using e.frames),e.mod,e.bs,e.bsz,e.T3,e.frf,e.hok,e.bare⟩
section
variable {X:Cx} {pins:List (Addr × Obj)} {σ:St} {H:Hp} {s s':Shared}
theorem Inv.env0 (I:Inv X pins σ H s):adq X.prog X.w X.K X.mg X.base X.A X.stack s H :=
 ⟨I.ok.frames,I.ok.mod,I.bs,Nat.le_trans I.ok.bsz I.sz,I.stack,I.adw,I.hok,I.bare⟩
theorem Inv.after {Q:VK} {u:Value} (I:Inv X pins σ H s) (h:CE X.stack X.prog X.w H s Q u s'):EP X pins σ Q u s':=by
 obtain ⟨v,H',os,bare,un,hok,r,q⟩:=h
 obtain ⟨hh,g,d,t,os'⟩:=s'
 obtain rfl:os'=s.os:=os
 exact ⟨v,H',I.call (h':=hh) (g':=g) (d':=d) (t':=t) (ch:=[]) un hok bare (fun b z=>absurd z (by simp)),r,q⟩
end
def ah5 (sp:Sp) (dvs:List V) (E:XK) (t:TA):TE:=fun σ H Q=>t σ H fun vs H1=>sp (vs ++ dvs) H1 Q E
def ah4 (C:Addr) (sp:Sp) (dvs:List V) (E:XK) (t:TA):TE:=fun σ H Q=>t σ H fun vs H1=>∀ x dx,H1 x=none->H1 dx=none->dx ≠ x ->
 sp (.ref x :: (vs ++ dvs)) (upd (upd H1 dx (.own x)) x (.ins C dx [])) (fun v H2=>v = .non/\Q (.ref x) H2) E
def Binds (K:PySem.W.Frag) (fd:FuncData) (ps:List Str) (ds:List Value):Prop :=
 ∀ (s:Shared) (us:List Value),K.In s.heap->(us ++ ds).length=ps.length->BindsTo s fd ⟨us,[]⟩ (ps.zip (us ++ ds))
theorem Binds.all {K:PySem.W.Frag} {fd:FuncData} {ps:List Str} (h:∀ us:List Value,us.length=ps.length->bindArgs fd ⟨us,[]⟩=pure (ps.zip us)):Binds K fd ps []:=fun s us _ hl=>by
 rw [List.append_nil] at hl ⊢
 exact .of_eq (h us hl)
def Passes (CX:CXT) (X:Cx) (E:XK):Prop:=∀ (pins:List (Addr × Obj)) (σ:St) (H:Hp) (s:Shared) (e:Value) (s':Shared),Inv X pins σ H s->CX X.stack H s E e s'->X.xe e s'
section
variable {X:Cx} {CX:CXT} {k:Nat} {f C:Addr} {fd:FuncData} {ps:List Str} {sp:Sp} {dvs:List V} {ds:List Value} {E:XK} {x m:Str} {p pos apos:Pos} {e o:Expr} {es:List Expr} {ta:TE} {t:TA}
theorem aiE {pins:List (Addr × Obj)} {σ:St} {H:Hp} {s:Shared} {Q:VK} {us:List Value} {vs:List V} (F:Up X.prog X.w X.K X.mg X.base CX k f fd ps sp) (hr:Fq k X.A) (hb:Binds X.K fd ps ds) (hd:Vals dvs ds) (hx:Passes CX X E)
  (I:Inv X pins σ H s) (r:Vals vs us) (h:sp (vs ++ dvs) H Q E):wpAny (model X.prog X.w) X.A (call (.ref f) us) (EP X pins σ Q) X.xe s:=by
 have r2:Vals (vs ++ dvs) (us ++ ds):=r.append hd
 have hl:(us ++ ds).length=ps.length:=by rw [<- r2.length]; exact F.len _ _ _ _ h
 refine wpAny_call (codeAny_mono (F.run X.A X.stack s H ⟨us,[]⟩ (us ++ ds) (vs ++ dvs) Q E hr I.env0 (hb s us I.kIn hl) r2 h) fun r s' hq=>?_)
 cases r with
 | error e=>exact hx pins σ H s e s' I hq
 | ok fl =>
  cases fl with
  | ret u=>exact I.after hq
  | next=>exact False.elim hq
  | brk=>exact False.elim hq
  | cont=>exact False.elim hq
theorem ahk (F:Up X.prog X.w X.K X.mg X.base CX k f fd ps sp) (hr:Fq k X.A) (hg:Gl X x) (hm:X.mg x=some (.ref f)) (hk:PySem.W.keepIn X.K (.ref f)=true) (hb:Binds X.K fd ps ds) (hd:Vals dvs ds) (hx:Passes CX X E)
  (ha:PA X (e :: es) t) (hdb:(x == ("__debug__" : Str))=false:=by decide) (he:starEach (e :: es) X.env=(false,eval e X.env) :: starEach es X.env:=by rfl) (hpl:(backTo pos (starEach es X.env)).any (·.1)=false:=by rfl) :
  PE X (.Call (.Name x p) (e :: es) [] pos) (ah5 sp dvs E t):=by
 intro pins s σ H Q I h
 refine wpAny_Call_Name_kw (Z7 I hg hm ?_ hdb)
 refine PySem.W.callWith_K (h₀:=X.base) I.ok.mod.kin hk (thn (ha pos pins s σ H _ I h) fun us s1 ⟨vs,H1,I1,r,q⟩=>⟨I1.kIn,?_⟩) he hpl
 exact aiE F hr hb hd hx I1 r q
structure Mk (K:PySem.W.Frag) (C f:Addr):Prop where
 makes:PySem.W.makesIn K C=true
 init:PySem.W.findIn K (.ref C) "__init__" = some (some (.ref f))
 fn:PySem.W.isFn K (.ref f)=true
 kp:PySem.W.keepIn K (.ref C)=true
theorem afJ {pins:List (Addr × Obj)} {σ:St} {H:Hp} {s:Shared} {Q:VK} {us:List Value} {vs:List V} (M:Mk X.K C f) (F:Up X.prog X.w X.K X.mg X.base CX k f fd ps sp) (hr:Fq (k + 1) X.A) (hb:Binds X.K fd ps ds) (hd:Vals dvs ds)
  (hx:Passes CX X E) (I:Inv X pins σ H s) (r:Vals vs us)
  (h:∀ x dx,H x=none->H dx=none->dx ≠ x->sp (.ref x :: (vs ++ dvs)) (upd (upd H dx (.own x)) x (.ins C dx [])) (fun v H2=>v = .non/\Q (.ref x) H2) E) :
  wpAny (model X.prog X.w) X.A (call (.ref C) us) (EP X pins σ Q) X.xe s:=by
 have hq:=h (s.heap.objs.size + 1) s.heap.objs.size (I.hok.fresh (Nat.le_succ _)) (I.hok.fresh (Nat.le_refl _)) (Nat.ne_of_lt (Nat.lt_succ_self _))
 have I2:=Inv.made (C:=C) I
 have r2:Vals (V.ref (s.heap.objs.size + 1) :: (vs ++ dvs)) (Value.ref (s.heap.objs.size + 1) :: (us ++ ds)):=.cons rfl (r.append hd)
 have hl:(Value.ref (s.heap.objs.size + 1) :: us ++ ds).length=ps.length:=by
  have e:=r2.length
  rw [F.len _ _ _ _ hq] at e
  exact e.symm
 refine wpAny_call (af7 (f:=f) I.kIn M.makes M.init (beq_iff_eq.mp M.fn) (codeAny_mono (F.run _ X.stack _ _ ⟨Value.ref (s.heap.objs.size + 1) :: us,[]⟩ (Value.ref (s.heap.objs.size + 1) :: (us ++ ds)) _ _ E (hr.make C us [])
  (I2.env0.make C us []) (hb _ (Value.ref (s.heap.objs.size + 1) :: us) I2.kIn hl) r2 hq) fun r s' hq'=>?_))
 cases r with
 | error e=>exact hx pins σ _ _ e s' I2 hq'
 | ok fl =>
  cases fl with
  | ret u =>
   obtain ⟨v,H',I3,rv,ev,q3⟩:=I2.after hq'
   subst ev
   exact ⟨rv,⟨V.ref (s.heap.objs.size + 1),H',I3,rfl,q3⟩⟩
  | next=>exact False.elim hq'
  | brk=>exact False.elim hq'
  | cont=>exact False.elim hq'
theorem ahg (M:Mk X.K C f) (F:Up X.prog X.w X.K X.mg X.base CX k f fd ps sp) (hr:Fq (k + 1) X.A) (hg:Gl X x) (hm:X.mg x=some (.ref C)) (hb:Binds X.K fd ps ds) (hd:Vals dvs ds) (hx:Passes CX X E)
  (ha:PA X (e :: es) t) (hdb:(x == ("__debug__" : Str))=false:=by decide) (he:starEach (e :: es) X.env=(false,eval e X.env) :: starEach es X.env:=by rfl) (hpl:(backTo pos (starEach es X.env)).any (·.1)=false:=by rfl) :
  PE X (.Call (.Name x p) (e :: es) [] pos) (ah4 C sp dvs E t):=by
 intro pins s σ H Q I h
 refine wpAny_Call_Name_kw (Z7 I hg hm ?_ hdb)
 refine PySem.W.callWith_K (h₀:=X.base) I.ok.mod.kin M.kp (thn (ha pos pins s σ H _ I h) fun us s1 ⟨vs,H1,I1,r,q⟩=>⟨I1.kIn,?_⟩) he hpl
 exact afJ M F hr hb hd hx I1 r q
end
structure Ar (N P:List Str) (sc:Scope):Prop where
 kind:sc.kind = .function
 co:sc.isCoroutine=false
 gen:sc.isGenerator=false
 nd:N.Nodup
 pre:N.take P.length=P
 par:∀ x ∈ P,sc.names.lookup x=some .local \/ sc.names.lookup x=some .cell
 aiS:∀ y ∈ sc.names,y.2 ≠ .free
theorem Zn {kindOf:Str->Option NameKind} {x:Str}:∀ {binds:List (Str × Value)} {m:Str->Option Value},(∀ v,(x,v) ∉ binds)->bindL kindOf binds m x=m x
 | [],_,_=>rfl
 | (n,v) :: r,m,h=>by
  unfold bindL
  rw [Zn fun w hw=>h w (List.mem_cons_of_mem _ hw)]
  split
  ·have:x ≠ n:=by rintro rfl; exact h v List.mem_cons_self
   simp [this]
  ·rfl
theorem Zq {kindOf:Str->Option NameKind} {x:Str}:∀ {binds:List (Str × Value)} {m:Str->Option Value},(∀ v,(x,v) ∉ binds)->bindC kindOf binds m x=m x
 | [],_,_=>rfl
 | (n,v) :: r,m,h=>by
  unfold bindC
  rw [Zq fun w hw=>h w (List.mem_cons_of_mem _ hw)]
  split
  ·rfl
  ·have:x ≠ n:=by rintro rfl; exact h v List.mem_cons_self
   simp [this]
theorem Zo {kindOf:Str->Option NameKind} {x:Str} {v:Value}:∀ {P:List Str} {vs:List Value} {i:Nat} {m:Str->Option Value},P.Nodup->P[i]? = some x->vs[i]? = some v->kindOf x=some .local ->
  bindL kindOf (P.zip vs) m x=some v
 | [],_,_,_,_,h,_,_=>by simp at h
 | _ :: _,[],_,_,_,_,h,_=>by simp at h
 | p :: P,w :: vs,0,m,nd,h1,h2,hk=>by
  simp at h1 h2; subst h1; subst h2
  show bindL kindOf ((p,w) :: P.zip vs) m p=_
  unfold bindL
  rw [Zn fun v hv=>(List.nodup_cons.mp nd).1 (List.of_mem_zip hv).1,if_pos hk]
  simp
 | p :: P,w :: vs,i + 1,m,nd,h1,h2,hk=>by
  show bindL kindOf ((p,w) :: P.zip vs) m x=_
  unfold bindL
  exact Zo (i:=i) (List.nodup_cons.mp nd).2 (by simpa using h1) (by simpa using h2) hk
theorem Zr {kindOf:Str->Option NameKind} {x:Str} {v:Value}:∀ {P:List Str} {vs:List Value} {i:Nat} {m:Str->Option Value},P.Nodup->P[i]? = some x->vs[i]? = some v->kindOf x ≠ some .local ->
  bindC kindOf (P.zip vs) m x=some v
 | [],_,_,_,_,h,_,_=>by simp at h
 | _ :: _,[],_,_,_,_,h,_=>by simp at h
 | p :: P,w :: vs,0,m,nd,h1,h2,hk=>by
  simp at h1 h2; subst h1; subst h2
  show bindC kindOf ((p,w) :: P.zip vs) m p=_
  unfold bindC
  rw [Zq fun v hv=>(List.nodup_cons.mp nd).1 (List.of_mem_zip hv).1,if_neg hk]
  simp
 | p :: P,w :: vs,i + 1,m,nd,h1,h2,hk=>by
  show bindC kindOf ((p,w) :: P.zip vs) m x=_
  unfold bindC
  exact Zr (i:=i) (List.nodup_cons.mp nd).2 (by simpa using h1) (by simpa using h2) hk
def start (N:List Str) (vs:List V):St:=vs.map some ++ List.replicate (N.length - vs.length) none
def aam (CX:CXT) (P:Program) (w:World) (K:PySem.W.Frag) (mg:Str->Option Value) (base:Heap) (N:List Str) (qual:Str) (scope:Scope) (f:Addr) (cd:Value) (A:Around) (outer:List Env) (s:Shared) (H:Hp) (E:XK):Cx where
 prog:=P
 w:=w
 K:=K
 mg:=mg
 base:=base
 A:=A.deeper (envOfC qual scope s.heap.objs.size f cd)
 N:=N
 s_0:=s
 H_0:=H
 env:=envOfC qual scope s.heap.objs.size f cd
 outer:=outer
 stack:=envOfC qual scope s.heap.objs.size f cd :: outer
 ex:=[]
 calm:=true
 fn:=fun _=>true
 pn:=[]
 xe:=fun e s'=>wpAny (model P w) (A.deeper (envOfC qual scope s.heap.objs.size f cd)) (leaving (envOfC qual scope s.heap.objs.size f cd) e) (fun _ s''=>CX outer H s E e s'') (fun e' s''=>CX outer H s E e' s'') s'
theorem abL {sc:Scope} {n:Nat} {x:Str} (h:sc.names.lookup x=some .cell):∃ c,(cellsFrom n sc.names []).lookup x=some c:=by
 have q:=PySem.W.cellsFrom_some sc.names n [] (.inl h)
 exact Option.isSome_iff_exists.mp q
theorem aeO {CX:CXT} {P:Program} {w:World} {K:PySem.W.Frag} {mg:Str->Option Value} {base:Heap} {N ps:List Str} {qual:Str} {scope:Scope} {f:Addr} {cd:Value} {A:Around} {outer:List Env} {s s1:Shared} {H:Hp} {E:XK} {us:List Value} {vs:List V}
  (S:Ar N ps scope) (hd:A.handled=none) (e0:adq P w K mg base A outer s H) (hl:vs.length=ps.length) (r:Vals vs us)
  (x:InCallC s s.heap.objs.size (bindL (envOfC qual scope s.heap.objs.size f cd).kindOf (ps.zip us) fun _=>none) (cellsFrom (s.heap.objs.size + 1) scope.names []) (bindC (envOfC qual scope s.heap.objs.size f cd).kindOf (ps.zip us) fun _=>none) s1) :
  Inv (aam CX P w K mg base N qual scope f cd A outer s H E) [] (start N vs) H s1:=by
 have hpl:ps.length <= N.length:=by have:=congrArg List.length S.pre; rw [List.length_take] at this; omega
 obtain ⟨h1,tk,rfl,hk⟩:=x.done
 have noA:∀ b:Addr,b ∉ (aam CX P w K mg base N qual scope f cd A outer s H E).ex:=fun b z=>absurd (show b ∈ ([]:List Addr) from z) (by simp)
 refine ⟨⟨e0.mod,S.kind,rfl,rfl,Nat.le_refl _,fun y z c h1 h2=>?_,fun y hy=>?_,fun y c _ h=>?_,fun _=>hd,Around.frames_deeper e0.frames,.inr ⟨rfl,rfl⟩,fun b z=>absurd z (noA b),e0.bs,e0.bsz,fun b _ _=>noA b,fun b z=>absurd z (noA b),e0.T3,e0.frf⟩,
  rfl,e0.bare,Un.kept hk,⟨_,x.toInCall.ns,fun i y v h1 h2 h3=>?_⟩,fun y c h=>⟨_,x.cell y c h⟩,e0.hok.fresh (Nat.le_refl _),fun y c h=>?_,fun p hp=>absurd (show p ∈ ([]:List (Addr × Obj)) from hp) (by simp),e0.hok.kept hk,?_⟩
 ·exact name_of_addr x.apart (PySem.mem_of_lookup h1) (PySem.mem_of_lookup h2)
 ·have hy:scope.names.lookup y=some .cell \/ scope.names.lookup y=some .free:=hy
  rcases hy with hy | hy
  ·exact abL hy
  ·exact absurd rfl (S.aiS _ (PySem.mem_of_lookup hy))
 ·exact Nat.le_of_lt (x.above y c (PySem.mem_of_lookup h))
 ·have hi:i < vs.length:=by
   unfold start at h2
   by_cases hi:i < vs.length
   ·exact hi
   ·rw [List.getElem?_append_right (by simpa using hi)] at h2
    rw [List.getElem?_replicate] at h2
    split at h2 <;> cases h2
  have ha:vs[i]? = some v:=by
   unfold start at h2
   rw [List.getElem?_append_left (by simpa using hi),List.getElem?_map] at h2
   cases e:vs[i]? with
   | none=>rw [e] at h2; cases h2
   | some a=>rw [e] at h2; cases h2; rfl
  obtain ⟨u,hu,rv⟩:=r.get ha
  have hp:ps[i]? = some y:=by
   rw [<- S.pre,List.getElem?_take_of_lt (by omega)]; exact h1
  have ndP:ps.Nodup:=by rw [<- S.pre]; exact S.nd.sublist (List.take_sublist _ _)
  refine ⟨u,rv,?_⟩
  rcases S.par y (List.mem_of_getElem? hp) with k | k
  ·exact .inl ⟨k,Zo ndP hp hu k⟩
  ·obtain ⟨c,e⟩:=abL (n:=s.heap.objs.size + 1) k
   refine .inr ⟨.inl k,c,e,?_⟩
   have q:=x.cell y c e
   rw [Zr ndP hp hu (by show scope.names.lookup y ≠ _; rw [k]; decide)] at q
   exact q
 ·exact e0.hok.fresh (Nat.le_of_lt (x.above y c (PySem.mem_of_lookup h)))
 ·unfold start
  show _=N.length
  rw [List.length_append,List.length_map,List.length_replicate]
  omega
theorem aie {CX:CXT} {P:Program} {w:World} {K:PySem.W.Frag} {mg:Str->Option Value} {base:Heap} {k:Nat} {f:Addr} {name qual:Str} {params:Arguments} {body:List Stmt} {scope:Scope} {dV kV doc pm cdv ct oc:Value} {an od:Option Addr}
  {osl:Array (Option Value)} {N ps:List Str} {sp:Sp} (lk:K.lookup f=some ⟨oc,od,.func (PySem.W.fnOf name qual params body scope dV kV doc pm an cdv ct),osl⟩) (hcd:PySem.W.codeIn K cdv qual=true) (S:Ar N ps scope)
  (len:∀ vs H Q E,sp vs H Q E->vs.length=ps.length)
  (hbody:∀ (A:Around) (outer:List Env) (s:Shared) (H:Hp) (vs:List V) (Q:VK) (E:XK),Fq k (A.deeper (envOfC qual scope s.heap.objs.size f cdv))->sp vs H Q E ->
   ∃ t,PSs (aam CX P w K mg base N qual scope f cdv A outer s H E) body t/\t { nx:=fun _ H'=>Q .non H',rt:=Q } (start N vs) H) :
  Up P w K mg base CX (k + 1) f (PySem.W.fnOf name qual params body scope dV kV doc pm an cdv ct) ps sp:=by
 refine ⟨len,fun A outer s H args us vs Q E hr e0 hb r hsp=>?_⟩
 have hl:=len _ _ _ _ hsp
 have KX:K.In s.heap:=e0.mod.kin.keeps fun b o e=>(e0.bs b o e).1
 have lim:s.heap.NoLimit:=e0.mod.nolimit.keeps fun b o e=>(e0.bs b o e).1
 have hkind:∀ y ∈ ps.zip us,scope.names.lookup y.1=some .local \/ (scope.names.lookup y.1=some .cell/\((cellsFrom (s.heap.objs.size + 1) scope.names []).lookup y.1).isSome=true):=fun ⟨n,v⟩ hy=>by
  rcases S.par n (List.of_mem_zip hy).1 with q | q
  ·exact .inl q
  ·exact .inr ⟨q,PySem.W.cellsFrom_some _ _ _ (.inl q)⟩
 refine codeAny_call_function hr.depth (KX _ _ lk) rfl S.co S.gen rfl (PySem.W.codeRec_of KX hcd) (hb _ _ _ _ ?_)
 refine wpAny_newFunctionEnv_cells S.kind hkind fun env he s1 x=>?_
 subst he
 refine ⟨lim.keeps x.toInCall.keep,codeAny_func ?_⟩
 obtain ⟨t,ht,hq⟩:=hbody A outer s H vs Q E (hr.deeper _) hsp
 have I:Inv (aam CX P w K mg base N qual scope f cdv A outer s H E) [] (start N vs) H s1:=aeO S hr.hd e0 hl r x
 refine wpAny_mono (ht [] s1 (start N vs) H _ I hq) (fun fl s' hs=>?_) fun e s' hs=>hs
 have fin:∀ {σ':St} {H':Hp} {v:V} {u:Value},Inv (aam CX P w K mg base N qual scope f cdv A outer s H E) [] σ' H' s'->RelV v u->Q v H'->CE outer P w H s Q u s' :=
  fun {σ' H' v u} J rv q=>⟨v,H',J.os,J.bare,J.base,J.hok,rv,q⟩
 cases fl with
 | ret u =>
  obtain ⟨v,σ',H',J,rv,q⟩:=hs
  exact fin J rv q
 | next =>
  obtain ⟨σ',H',J,q⟩:=hs
  exact fin (v:=V.non) (u:=Value.none) J rfl q
 | brk =>
  obtain ⟨_,_,_,q⟩:=hs
  exact False.elim q
 | cont =>
  obtain ⟨_,_,_,q⟩:=hs
  exact False.elim q
section
variable {X:Cx} {x:Str} {p pos:Pos} {e:Expr} {es:List Expr} {t:TA} {id T:String} {r:List V->Hp->VK->Prop}
def tCB (r:List V->Hp->VK->Prop) (t:TA):TE:=fun σ H Q=>t σ H fun vs H1=>r vs H1 Q
theorem Be (hc:Kc X (.builtin id) r) (hg:Gl X x) (hm:X.mg x=none) (hv:bootBuiltins x=some (.builtin id)) (ha:PA X (e :: es) t) (hn:x ≠ "__name__" := by decide) (hdb:(x == ("__debug__" : Str))=false:=by decide)
  (he:starEach (e :: es) X.env=(false,eval e X.env) :: starEach es X.env:=by rfl) (hpl:(backTo pos (starEach es X.env)).any (·.1)=false:=by rfl):PE X (.Call (.Name x p) (e :: es) [] pos) (tCB r t):=by
 intro pins s σ H Q I h
 refine wpAny_Call_Name_kw (JK I hg hm hv ?_ hn hdb)
 exact PyProof.Rows.callWith_builtin1 (thn (ha pos pins s σ H _ I h) fun us s1 ⟨vs,H1,I1,r1,q1⟩=>hc pins s1 σ H1 vs us Q I1 r1 q1) he hpl
theorem Jf (hc:Kc X (.type T) r) (hg:Gl X x) (hm:X.mg x=none) (hv:bootBuiltins x=some (.type T)) (ha:PA X (e :: es) t) (hn:x ≠ "__name__" := by decide) (hdb:(x == ("__debug__" : Str))=false:=by decide)
  (he:starEach (e :: es) X.env=(false,eval e X.env) :: starEach es X.env:=by rfl) (hpl:(backTo pos (starEach es X.env)).any (·.1)=false:=by rfl):PE X (.Call (.Name x p) (e :: es) [] pos) (tCB r t):=by
 intro pins s σ H Q I h
 refine wpAny_Call_Name_kw (JK I hg hm hv ?_ hn hdb)
 exact PyProof.Rows.callWith_type1 (thn (ha pos pins s σ H _ I h) fun us s1 ⟨vs,H1,I1,r1,q1⟩=>hc pins s1 σ H1 vs us Q I1 r1 q1) he hpl
end
end L2
namespace HT
open PySem PyProof.Rows
def lexLt:List Int->List Int->Bool
 | [],[]=>false
 | [],_ :: _=>true
 | _ :: _,[]=>false
 | x :: xs,y :: ys=>if x=y then lexLt xs ys else decide (x < y)
theorem Wk (x y:Int) (xs ys:List Int):lexLt (x :: xs) (y :: ys)=if x=y then lexLt xs ys else decide (x < y):=rfl
theorem XD:lexLt [] [] = false:=rfl
theorem Wi (y:Int) (ys:List Int):lexLt [] (y :: ys)=true:=rfl
theorem Wj (x:Int) (xs:List Int):lexLt (x :: xs) [] = false:=rfl
theorem agv (A:Around) (s:Shared) (a:Int) (t:Tok) (c:Int) (u:Tok):∃ e,SeqAt.EqAt A s (.int a t) (.int c u) e/\(e=true ↔ a=c) :=
 ⟨(a == c),SeqAt.EqAt.int_int a t c u,by simp⟩
theorem afN (A:Around) (s:Shared) (a:Int) (t:Tok) (c:Int) (u:Tok) (prog:Program) (w:World) (E:Value->Shared->Prop) (Q:Value->Shared->Prop) (h:Q (.bool (decide (a < c))) s) :
  wpAny (model prog w) A (richCompare .Lt (.int a t) (.int c u)) Q E s :=
 (PyProof.Rows.lt_int h:wpAny (model prog w) A (compareOp .Lt (.int a t) (.int c u)) Q E s)
section
open PySem.SeqAt
open PySem.AutoSeq1 (wpAny_loadPart')
open PySem.MeetsSeq PySem.MeetsSeq2 PySem.MeetsSeq3
theorem Xl (l b:Addr) (items items2:Array Value) (n n2:Nat) (dd dd2:Option Addr) (sl sl2:Array (Option Value)) (ns ms:List Int) (hi:IntsAre items.toList ns) (hj:IntsAre items2.toList ms) :
  Meets (Builtin.«tuple.__lt__» ⟨[.ref l,.ref b],[]⟩)
   (fun _ R s=>s.heap.get? l=some { cls:=.type "tuple",dict:=dd,data:=.seq items n,slots:=sl }/\s.heap.get? b=some { cls:=.type "tuple",dict:=dd2,data:=.seq items2 n2,slots:=sl2 } /\
    R (.ok (.ret (.bool (lexLt ns ms)))) s) :=
 .of_wp fun prog w A R s h=>by
  obtain ⟨hp,g,d,tk,os⟩:=s; obtain ⟨hl,hb,h⟩:=h
  have f2:=AutoSeq1.sub_tuple_tuple
  have z1:items.size=ns.length:=by rw [<- hi.length]; simp
  have z2:items2.size=ms.length:=by rw [<- hj.length]; simp
  wp_walk using wpAny_loadPart' hl,wpAny_loadPart' hb,wpAny_forIn_list _ (fun rest b s'=>b.1=none/\s'=⟨hp,g,d,tk,os⟩/\∃ (vs ws:List Value) (ns' ms':List Int),rest=vs.zip ws /\
   IntsAre vs ns'/\IntsAre ws ms'/\ns'.length + items2.size=ms'.length + items.size/\R (.ok (.ret (.bool (lexLt ns' ms')))) ⟨hp,g,d,tk,os⟩) _
  case turn =>
   rintro ⟨y,x⟩ rest b s' ⟨hb',rfl,vs,ws,ns',ms',hz,hvi,hwi,hlen,hR⟩
   cases hvi with
   | nil=>rw [List.zip_nil_left] at hz; cases hz
   | cons a t alE =>
    cases hwi with
    | nil=>rw [List.zip_nil_right] at hz; cases hz
    | cons c u alC =>
     rw [List.zip_cons_cons] at hz
     injection hz with hyx hrest
     injection hyx with hy hx
     subst hy hx
     rw [Wk] at hR
     simp only [List.length_cons] at hlen
     obtain ⟨e,he,akA⟩:=agv A.in1 ⟨hp,g,d,tk,os⟩ a t c u
     refine wpAny_bind (he prog w _ _ ?_)
     cases e with
     | true =>
      rw [if_pos (akA.mp rfl)] at hR
      wp_walk
      exact ⟨rfl,rfl,_,_,_,_,hrest,alE,alC,by omega,hR⟩
     | false =>
      rw [if_neg (fun q=>absurd (akA.mpr q) Bool.false_ne_true)] at hR
      have hri:=afN A.in1 ⟨hp,g,d,tk,os⟩ a t c u prog w
      wp_walk using hri
      exact ⟨_,rfl,by simpa using hR⟩
  case fin =>
   rintro ⟨b1,b2⟩ s' ⟨hb',rfl,vs,ws,ns',ms',hz,hvi,hwi,hlen,hR⟩
   simp only at hb'
   subst hb'
   have hv:lexLt ns' ms'=decide (items.size < items2.size):=by
    cases hvi with
    | nil =>
     cases hwi with
     | nil =>
      simp only [List.length_nil] at hlen
      rw [XD]
      exact (decide_eq_false (by omega)).symm
     | cons c u hw =>
      simp only [List.length_nil,List.length_cons] at hlen
      rw [Wi]
      exact (decide_eq_true (by omega)).symm
    | cons a t hv =>
     cases hwi with
     | nil =>
      simp only [List.length_nil,List.length_cons] at hlen
      rw [Wj]
      exact (decide_eq_false (by omega)).symm
     | cons c u hw =>
      rw [List.zip_cons_cons] at hz
      cases hz
   rw [hv] at hR
   wp_walk
   exact ⟨_,rfl,by simpa [Builtin.Tuple.tupleCompareSizes] using hR⟩
  case h =>
   exact ⟨rfl,rfl,items.toList,items2.toList,ns,ms,rfl,hi,hj,by omega,h⟩
end
section
variable {prog:Program} {w:World} {A:Around} {E:Value->Shared->Prop} {s:Shared}
theorem acT {l b:Addr} {items items2:Array Value} {ns ms:List Int} {Q:Value->Shared->Prop} (hl:IsTup s.heap l items) (hb:IsTup s.heap b items2) (hi:IntsAre items.toList ns) (hj:IntsAre items2.toList ms)
  (hu:A.units < cLine) (h:Q (.bool (lexLt ns ms)) s):wpAny (model prog w) A (compareOp .Lt (.ref l) (.ref b)) Q E s:=by
 obtain ⟨⟨cls,dd,data,sl⟩,ho,hc,n,hd⟩:=id hl
 obtain ⟨⟨cls2,dd2,data2,sl2⟩,ho2,hc2,n2,hd2⟩:=id hb
 simp only at hc hd hc2 hd2
 subst hc hd hc2 hd2
 exact richCompare_meets_room (op:=.Lt) ⟨_,ho,rfl⟩ ⟨_,ho2,rfl⟩ PySem.F.slot_tuple_lt PySem.F.entry_tuple_lt (PySem.F.args_tuple_lt_2 _ _) (Xl l b items items2 n n2 dd dd2 sl sl2 ns ms hi hj)
  ⟨ho,ho2,show Value.bool (lexLt ns ms) ≠ Value.notImplemented/\Q (.bool (lexLt ns ms)) s from ⟨(fun x=>nomatch x),h⟩⟩ hu
def sIx (n d:Nat):Option Int->Nat
 | none=>d
 | some v=>if v < 0 then (v + (n:Int)).toNat else min v.toNat n
theorem Vx (n d:Nat):sIx n d none=d:=rfl
theorem Uv (n d k:Nat):sIx n d (some (k:Int))=min k n:=by
 show (if (k:Int) < 0 then ((k:Int) + (n:Int)).toNat else min (k:Int).toNat n)=min k n
 rw [if_neg (by omega),Int.toNat_natCast]
theorem aiD (n d:Nat) (hd:d <= n) (o:Option Int):sIx n d o <= n:=by
 cases o with
 | none=>exact hd
 | some v =>
  show (if v < 0 then (v + (n:Int)).toNat else min v.toNat n) <= n
  by_cases hv:v < 0
  ·rw [if_pos hv]; omega
  ·rw [if_neg hv]; exact Nat.min_le_right _ _
theorem ad0 (v:Int) (n d:Nat):(if v < 0 then max (v + (n:Int)) 0 else min v (n:Int))=((sIx n d (some v):Nat):Int):=by
 show (if v < 0 then max (v + (n:Int)) 0 else min v (n:Int))=(((if v < 0 then (v + (n:Int)).toNat else min v.toNat n):Nat):Int)
 by_cases hv:v < 0
 ·simp only [if_pos hv]; omega
 ·simp only [if_neg hv]; omega
theorem adn (lo hi:Option Int) (n:Nat):Builtin.Slice.sliceAdjust lo hi 1 (n:Int)=(((sIx n 0 lo:Nat):Int),((sIx n n hi:Nat):Int)):=by
 have h1:¬ ((1:Int) < 0):=by omega
 unfold Builtin.Slice.sliceAdjust
 simp only [h1,if_false]
 refine Prod.ext ?_ ?_
 ·cases lo with
  | none=>rfl
  | some v=>exact ad0 v n 0
 ·cases hi with
  | none=>rfl
  | some v=>exact ad0 v n n
theorem acx (i j:Nat):Builtin.Slice.slicePlaces (i:Int) (j:Int) 1=j - i:=by
 unfold Builtin.Slice.slicePlaces
 have h1:(1:Int) > 0:=by omega
 simp only [h1,if_true,Int.ediv_one]
 split <;> omega
theorem Vm {v:Value} {o:Option Int} {Q:Option Int->Shared->Prop} (p:IsPart v o) (h:Q o s):wpAny (model prog w) A (Builtin.Slice.slicePartIndex v) Q E s:=by
 cases p with
 | none=>exact slicePart_none h
 | int i t=>exact slicePart_int h
theorem Q3 {sl:Addr} {vl vu:Value} {lo hi:Option Int} {n:Nat} {Q:Int × Int × Nat->Shared->Prop} (hs:s.heap.IsSliceOf sl vl vu .none) (pl:IsPart vl lo) (pu:IsPart vu hi)
  (h:Q (((sIx n 0 lo:Nat):Int),1,sIx n n hi - sIx n 0 lo) s):wpAny (model prog w) A (Builtin.Slice.sliceApplied (.ref sl) (pure (n:Int))) Q E s:=by
 obtain ⟨os,hos,hcs,hds⟩:=id hs
 unfold Builtin.Slice.sliceApplied Builtin.Slice.sliceFields
 refine wpAny_bind (wpAny_bind (wpAny_field hos hds (x:=vl) rfl (wpAny_bind (wpAny_field hos hds (x:=vu) rfl (wpAny_bind (wpAny_field hos hds (x:=.none) rfl (wpAny_pure ?_)))))))
 refine wpAny_bind (slicePart_none ?_)
 show wpAny _ _ (if ((1:Int) == 0)=true then _ else _) _ _ s
 rw [if_neg (by decide)]
 refine wpAny_bind (Vm pl (wpAny_bind (Vm pu (wpAny_bind (wpAny_pure ?_)))))
 show wpAny _ _ (match Builtin.Slice.sliceAdjust lo hi 1 (n:Int) with | (lo,hi)=>pure (lo,(1:Int),Builtin.Slice.slicePlaces lo hi 1)) _ _ s
 rw [adn lo hi n]
 show wpAny _ _ (pure (((sIx n 0 lo:Nat):Int),(1:Int),Builtin.Slice.slicePlaces ((sIx n 0 lo:Nat):Int) ((sIx n n hi:Nat):Int) 1)) _ _ s
 rw [acx]
 exact wpAny_pure h
theorem afT (xs:Array Value) (i k:Nat):((List.range k).filterMap fun (m:Nat)=>xs[((i:Int) + (m:Int) * 1).toNat]?).toArray=((xs.toList.drop i).take k).toArray:=by
 have e:(fun (m:Nat)=>xs[((i:Int) + (m:Int) * 1).toNat]?)=fun m=>xs[i + m]?:=by
  funext m
  have:((i:Int) + (m:Int) * 1).toNat=i + m:=by omega
  rw [this]
 rw [e]
 have:=pick_run xs i k
 rw [List.filterMap_map] at this
 have e2:((fun x=>xs[x]?) ∘ fun x=>i + x)=fun m=>xs[i + m]?:=rfl
 rw [e2] at this
 rw [this]
theorem Qi {t sl:Addr} {items:Array Value} {vl vu:Value} {lo hi:Option Int} {Q:Value->Shared->Prop} (ht:IsTup s.heap t items) (hs:s.heap.IsSliceOf sl vl vu .none) (pl:IsPart vl lo) (pu:IsPart vu hi)
  (hw:¬ (sIx items.size 0 lo=0/\sIx items.size items.size hi=items.size))
  (h:Q (.ref s.heap.objs.size) { s with heap:=s.heap.push { cls:=.type "tuple",data:=.seq ((items.toList.drop (sIx items.size 0 lo)).take (sIx items.size items.size hi - sIx items.size 0 lo)).toArray } })
  (hsz:items.size <= sizeLine):wpAny (model prog w) A (getItem (.ref t) (.ref sl)) Q E s:=by
 have adR:sizeOk (.seq ((items.toList.drop (sIx items.size 0 lo)).take (sIx items.size items.size hi - sIx items.size 0 lo)).toArray):=by
  show ((items.toList.drop (sIx items.size 0 lo)).take (sIx items.size items.size hi - sIx items.size 0 lo)).toArray.size <= sizeLine
  rw [List.size_toArray,List.length_take,List.length_drop,Array.length_toList]
  omega
 have hj:sIx items.size items.size hi <= items.size:=aiD _ _ (Nat.le_refl _) hi
 obtain ⟨os,hos,hcs,hds⟩:=id hs
 have hTs:s.TypeIs (.ref sl) "slice" := ⟨os,hos,hcs⟩
 unfold getItem
 try with_reducible refine wpAny_holding ?_
 first | refine wpAny_bind (wpAny_pure ?_) | skip
 refine wpAny_bind (wpAny_sequenceKey ht.typeIs (by decide) ?_)
 refine wpAny_bind (wpAny_callSpecial?_slot (name:=Str.ofString "__getitem__") ht.typeIs PyProof.Rows.slot_tuple_getitem
  (wpAny_call_entry PyProof.Rows.slot_tuple_getitem ht.typeIs entry_tuple_getitem ?_ (args_tuple_getitem _ _)))
 show wpAny _ _ (Builtin.Tuple.tupleItemsOf (.ref t) >>= _) _ _ s
 refine wpAny_bind (tupleItemsOf_ ht ?_)
 refine wpAny_bind (wpAny_typeOf hTs ?_)
 rw [if_pos (by decide)]
 refine wpAny_bind (Q3 hs pl pu ?_)
 have hno:¬ ((((sIx items.size 0 lo:Nat):Int) == 0 && (1:Int) == 1 && (sIx items.size items.size hi - sIx items.size 0 lo) == items.size)=true):=by
  intro q
  rw [Bool.and_eq_true,Bool.and_eq_true] at q
  have q1:((sIx items.size 0 lo:Nat):Int)=0:=eq_of_beq q.1.1
  have q2:sIx items.size items.size hi - sIx items.size 0 lo=items.size:=eq_of_beq q.2
  exact hw ⟨by omega,by omega⟩
 show wpAny _ _ (if (((sIx items.size 0 lo:Nat):Int) == 0 && (1:Int) == 1 && (sIx items.size items.size hi - sIx items.size 0 lo) == items.size)=true then _ else _) _ _ s
 rw [if_neg hno,afT]
 first
  | exact wpAny_bind (m:=Builtin.Tuple.tupleExact _) (wpAny_newObj_type (wpAny_pure ⟨_,rfl,wpAny_pure h⟩) adR)
  | exact wpAny_bind (m:=Builtin.Tuple.tupleExact _) (wpAny_newObj_type (wpAny_bind (wpAny_pure (wpAny_pure ⟨_,rfl,wpAny_pure h⟩))) adR)
  | exact wpAny_bind (wpAny_bind (m:=Builtin.Tuple.tupleExact _) (wpAny_newObj_type (wpAny_pure (wpAny_pure ⟨_,rfl,wpAny_pure h⟩)) adR))
  | exact wpAny_bind (wpAny_bind (m:=Builtin.Tuple.tupleExact _) (wpAny_newObj_type (wpAny_pure ⟨_,rfl,wpAny_pure h⟩) adR))
end
end HT
namespace L2
open PySem PySem.Spec PyProof.Rows
abbrev TO:=St->Hp->(Option Int->Hp->Prop)->Prop
def PO (X:Cx) (e:Option Expr) (t:TO):Prop :=
 ∀ (pins:List (Addr × Obj)) (s:Shared) (σ:St) (H:Hp) (Q:Option Int->Hp->Prop),Inv X pins σ H s->t σ H Q ->
  wpAny (model X.prog X.w) X.A (evalPart e X.env) (fun u s'=>∃ o H',Inv X pins σ H' s'/\IsPart u o/\Q o H') X.xe s
def ag1:TO:=fun _ H Q=>Q none H
def ajO (t:TE):TO:=fun σ H Q=>t σ H fun x H1=>∃ i,x = .int i/\Q (some i) H1
theorem intsAre_of {ns:List Int}:∀ {us:List Value},Vals (ns.map V.int) us->IntsAre us ns:=by
 induction ns with
 | nil=>intro us r; rw [List.map_nil] at r; cases r; exact .nil
 | cons n ns ih =>
  intro us r
  rw [List.map_cons] at r
  cases r with
  | cons r1 r2 =>
   obtain ⟨t,e⟩:=r1
   subst e
   exact .cons n t (ih r2)
section
variable {X:Cx} {e:Expr} {te:TE} {lo hi:Option Expr} {tl th:TO} {pos p2:Pos}
theorem Uw:PO X none ag1:=by
 intro pins s σ H Q I h
 rw [evalPart_none]
 exact wpAny_pure ⟨none,H,I,.none,h⟩
theorem Mm (h:PE X e te):PO X (some e) (ajO te):=by
 intro pins s σ H Q I hw
 rw [evalPart_some]
 refine thn (h pins s σ H _ I hw) fun u s1 ⟨x,H1,I1,r1,q1⟩=>?_
 obtain ⟨i,rfl,q⟩:=q1
 obtain ⟨t,rfl⟩:=r1
 exact ⟨some i,H1,I1,.int i t,q⟩
def SlR (X:Cx) (r:V->Option Int->Option Int->Hp->VK->Prop):Prop :=
 ∀ (pins:List (Addr × Obj)) (s:Shared) (σ:St) (H:Hp) (x:V) (v vl vu:Value) (lo hi:Option Int) (sl:Addr) (Q:VK),Inv X pins σ H s->RelV x v->s.heap.IsSliceOf sl vl vu .none->IsPart vl lo->IsPart vu hi->r x lo hi H Q ->
  ∃ T id,typeLookup (.type T) "__getitem__" = pure (some (.builtin id))/\s.TypeIs v T/\wpAny (model X.prog X.w) X.A (getItem v (.ref sl)) (EP X pins σ Q) X.xe s
def tSl (r:V->Option Int->Option Int->Hp->VK->Prop) (te:TE) (tl th:TO):TE:=fun σ H Q=>te σ H fun x H1=>tl σ H1 fun l H2=>th σ H2 fun u H3=>r x l u H3 Q
theorem KY {r:V->Option Int->Option Int->Hp->VK->Prop} (hr:SlR X r) (he:PE X e te) (hl:PO X lo tl) (hu:PO X hi th):PE X (.Subscript e (.Slice lo hi none p2) pos) (tSl r te tl th):=by
 intro pins s σ H Q I h
 refine Subscript_ (thn (he pins s σ H _ I h) fun v s1 ⟨x,H1,I1,r1,q1⟩=>?_)
 refine wpAny_Slice (thn (hl pins s1 σ H1 _ I1 q1) fun vl s2 ⟨l,H2,I2,pl,q2⟩=>thn (hu pins s2 σ H2 _ I2 q2) fun vu s3 ⟨u,H3,I3,pu,q3⟩=>?_)
 rw [evalPart_none]
 refine wpAny_pure ?_
 have I4:Inv X pins σ H3 { s3 with heap:=s3.heap.push { cls:=.type "slice",data:=.fields #[vl,vu,.none] } }:=I3.kept (t':=s3.toks) fun b ob q=>Heap.get?_push_of_some _ q
 obtain ⟨T,id,hT,ht,hg⟩:=hr pins { s3 with heap:=s3.heap.push { cls:=.type "slice",data:=.fields #[vl,vu,.none] } } σ H3 x v vl vu l u s3.heap.objs.size Q I4 r1 (Heap.IsSliceOf.new ..) pl pu q3
 show wpAny (model X.prog X.w) X.A (subscriptTail e (.Slice lo hi none p2) v (.ref s3.heap.objs.size)) (EP X pins σ Q) X.xe { s3 with heap:=s3.heap.push { cls:=.type "slice",data:=.fields #[vl,vu,.none] } }
 exact tail_any (ops:=[.ref s3.heap.objs.size,v]) ht hT hg (by with_unfolding_all rfl)
def Kh (xs:List V) (lo hi:Option Int):List V:=(xs.drop (HT.sIx xs.length 0 lo)).take (HT.sIx xs.length xs.length hi - HT.sIx xs.length 0 lo)
theorem Tn (xs:List V) (lo hi:Option Int):(Kh xs lo hi).length <= xs.length:=by
 unfold Kh
 rw [List.length_take,List.length_drop]
 omega
def ali (K:PySem.W.Frag):V->Option Int->Option Int->Hp->VK->Prop:=fun x lo hi H Q=>∃ a xs,x = .ref a/\SqT K H a xs /\
 ¬ (HT.sIx xs.length 0 lo=0/\HT.sIx xs.length xs.length hi=xs.length)/\∀ p,H p=none->Q (.ref p) (upd H p (.tup (Kh xs lo hi)))
theorem aiB:SlR X (ali X.K):=by
 intro pins s σ H x v vl vu lo hi sl Q I rx hs pl pu h
 obtain ⟨a,xs,rfl,hx,hw,q⟩:=h
 cases rx
 obtain ⟨its,r,ht,hz⟩:=I.tuple hx
 have hlen:its.toArray.size=xs.length:=by rw [List.size_toArray]; exact r.length.symm
 refine ⟨"tuple",_,PyProof.Rows.slot_tuple_getitem.lookup,ht.typeIs,?_⟩
 refine HT.Qi ht hs pl pu (by rw [hlen]; exact hw) ?_ (by rw [hlen]; exact hz)
 rw [hlen]
 refine ⟨.ref s.heap.objs.size,_,I.laid (t':=s.toks) (o:=.tup (Kh xs lo hi)) (fun b ob q=>Heap.get?_push_of_some _ q) (Nat.le_refl _) ?_,rfl,q _ (I.hok.fresh (Nat.le_refl _))⟩
 exact ⟨Nat.le_trans (Tn xs lo hi) hz,_,(r.drop (HT.sIx xs.length 0 lo)).take (HT.sIx xs.length xs.length hi - HT.sIx xs.length 0 lo),IsTup.new _ _⟩
def aln (K:PySem.W.Frag):R2:=fun x y H Q=>∃ a b ns ms,x = .ref a/\y = .ref b/\SqT K H a (ns.map V.int)/\SqT K H b (ms.map V.int)/\Q (.bl (HT.lexLt ns ms)) H
theorem aiO (hu:X.A.units < cLine):OpR X (compareOp .Lt) (aln X.K):=by
 intro pins s σ H x y v u Q I rx ry h
 obtain ⟨a,b,ns,ms,rfl,rfl,ha,hb,q⟩:=h
 cases rx
 cases ry
 obtain ⟨its,r1,p1,_⟩:=I.tuple ha
 obtain ⟨its2,r2,p2,_⟩:=I.tuple hb
 have i1:IntsAre its.toArray.toList ns:=intsAre_of r1
 have i2:IntsAre its2.toArray.toList ms:=intsAre_of r2
 exact HT.acT p1 p2 i1 i2 hu ⟨.bl (HT.lexLt ns ms),H,I,rfl,q⟩
end
def ixN (n:Nat) (i:Int):Option Nat:=if 0 <= i then (if i < n then some i.toNat else none) else if -(n:Int) <= i then some (i + n).toNat else none
def atI {α:Type} (xs:List α) (i:Int):Option α:=(ixN xs.length i).bind fun j=>xs[j]?
theorem adN {n:Nat} {i:Int} {j:Nat} (h:ixN n i=some j):seqIndex? i n=some j/\j < n /\ -(n:Int) <= i/\i < n:=by
 unfold ixN at h
 by_cases h0:0 <= i
 ·rw [if_pos h0] at h
  by_cases h1:i < n
  ·rw [if_pos h1] at h
   have e:i.toNat=j:=Option.some.inj h
   exact ⟨by rw [seqIndex_of h0 h1,e],by omega,by omega,h1⟩
  ·rw [if_neg h1] at h; cases h
 ·rw [if_neg h0] at h
  by_cases h1:-(n:Int) <= i
  ·rw [if_pos h1] at h
   have e:(i + n).toNat=j:=Option.some.inj h
   exact ⟨by rw [seqIndex_neg (by omega) h1,e],by omega,h1,by omega⟩
  ·rw [if_neg h1] at h; cases h
theorem ad3 {α:Type} {xs:List α} {i:Int} {v:α} (h:atI xs i=some v):∃ j,seqIndex? i xs.length=some j/\xs[j]? = some v/\j < xs.length /\ -(xs.length:Int) <= i/\i < xs.length:=by
 unfold atI at h
 cases e:ixN xs.length i with
 | none=>rw [e] at h; cases h
 | some j =>
  rw [e] at h
  obtain ⟨h1,h2,h3,h4⟩:=adN e
  exact ⟨j,h1,h,h2,h3,h4⟩
theorem ad2 {α:Type} {xs:List α} {j:Nat} {v:α} (h:xs[j]? = some v):atI xs (j:Int)=some v:=by
 have hj:j < xs.length:=(List.getElem?_eq_some_iff.mp h).1
 have e:ixN xs.length (j:Int)=some j:=by
  unfold ixN
  rw [if_pos (by omega),if_pos (by omega)]; simp
 unfold atI; rw [e]; exact h
theorem agK {α:Type} (xs:List α) (v:α):atI (xs ++ [v]) (-1)=some v:=by
 have hl:(xs ++ [v]).length=xs.length + 1:=by simp
 have e:ixN (xs ++ [v]).length (-1)=some xs.length:=by
  unfold ixN
  rw [hl,if_neg (by decide),if_pos (by omega)]
  congr 1
  omega
 unfold atI
 rw [e]
 show (xs ++ [v])[xs.length]? = some v
 simp
def ah1 (b:Expr):Prop:=∀ o i,subscripted b false o i=operate [o,i] (getItem o i)
def IxR (X:Cx) (r:R2):Prop :=
 ∀ (value slice:Expr) (pins:List (Addr × Obj)) (s:Shared) (σ:St) (H:Hp) (x y:V) (v u:Value) (Q:VK),Inv X pins σ H s->RelV x v->RelV y u->r x y H Q ->
  subscripted slice false v u=operate [v,u] (getItem v u)->wpAny (model X.prog X.w) X.A (subscriptTail value slice v u) (EP X pins σ Q) X.xe s
def MtR (X:Cx) (id:String) (r:V->List V->Hp->VK->Prop):Prop :=
 ∀ (pins:List (Addr × Obj)) (s:Shared) (σ:St) (H:Hp) (x:V) (xs:List V) (v:Value) (us:List Value) (Q:VK),Inv X pins σ H s->RelV x v->Vals xs us->r x xs H Q ->
  wpAny (model X.prog X.w) X.A (call (.builtin id) (v :: us)) (EP X pins σ Q) X.xe s
section
variable {X:Cx} {a b:Expr} {ta tb:TE} {pos:Pos}
theorem Ci {r:R2} (hr:IxR X r) (ha:PE X a ta) (hb:PE X b tb) (hs:ah1 b):PE X (.Subscript a b pos) (tOp r ta tb):=by
 intro pins s σ H Q I h
 exact Subscript_ (ajB ha hb I h fun v u s2 x y H2 I2 rx ry q=>hr a b pins s2 σ H2 x y v u Q I2 rx ry q (hs _ _))
def aj5 (K:PySem.W.Frag):R2:=fun x y H Q=>∃ p xs i v,x = .ref p/\y = .int i/\SqL K H p xs/\atI xs i=some v/\Q v H
def aj4 (K:PySem.W.Frag):R2:=fun x y H Q=>∃ p xs i v,x = .ref p/\y = .int i/\SqT K H p xs/\atI xs i=some v/\Q v H
theorem BJ:IxR X (aj5 X.K):=by
 intro value slice pins s σ H x y v u Q I rx ry h hs
 obtain ⟨p,xs,i,z,rfl,rfl,hq,he,q⟩:=h
 cases rx
 obtain ⟨t,rfl⟩:=ry
 obtain ⟨its,r,pl,hz⟩:=I.list hq
 obtain ⟨j,h1,h2,h3,h4,h5⟩:=ad3 he
 obtain ⟨w,ew,rw'⟩:=r.get h2
 have hl:=r.length
 have hn:=Z6
 have fin:EP X pins σ Q w s:=⟨z,H,I,rw',q⟩
 by_cases h0:0 <= i
 ·have hj:i.toNat=j:=by
   rw [seqIndex_of h0 h5] at h1
   exact Option.some.inj h1
  exact item_listR pl.isList h0 (by omega) (by rw [hj]; simpa using ew) fin hs
 ·have hj:(i + (its.toArray.size:Int)).toNat=j:=by
   rw [seqIndex_neg (by omega) h4] at h1
   rw [List.size_toArray,<- hl]
   exact Option.some.inj h1
  exact subscriptTail_builtinR (x:=w) pl.isList.typeIs slot_list_getitem.lookup
   (wpAny_getItem_list_neg (Q:=fun r s'=>r=w/\EP X pins σ Q r s') pl.isList (by omega) (by rw [List.size_toArray] <;> omega) (by omega) (by rw [hj]; simpa using ew) ⟨rfl,fin⟩) hs
theorem Ih:IxR X (aj4 X.K):=by
 intro value slice pins s σ H x y v u Q I rx ry h hs
 obtain ⟨p,xs,i,z,rfl,rfl,hq,he,q⟩:=h
 cases rx
 obtain ⟨t,rfl⟩:=ry
 obtain ⟨its,r,pl,hz⟩:=I.tuple hq
 obtain ⟨j,h1,h2,h3,h4,h5⟩:=ad3 he
 obtain ⟨w,ew,rw'⟩:=r.get h2
 have hl:=r.length
 have hn:=Z6
 have fin:EP X pins σ Q w s:=⟨z,H,I,rw',q⟩
 exact subscriptTail_builtinR (x:=w) pl.typeIs slot_tuple_getitem.lookup
  (getItem_tuple (j:=j) (Q:=fun r s'=>r=w/\EP X pins σ Q r s') pl (by omega) (by omega) (by rw [List.size_toArray,<- hl]; exact h1) (by simpa using ew) ⟨rfl,fin⟩) hs
theorem acQ (its:List Value) (n j:Nat) (u:Value):Obj.mapSeq (·.setIfInBounds j u) { cls:=.type "list",data:=.seq its.toArray n } = { cls:=.type "list",data:=.seq (its.set j u).toArray n }:=by
 simp [Obj.mapSeq]
theorem Inv.lst {pins:List (Addr × Obj)} {σ:St} {H:Hp} {s:Shared} {p:Addr} {xs:List V} (I:Inv X pins σ H s) (h:H p=some (.lst xs)) :
  ∃ (its:List Value) (n:Nat),Vals xs its/\s.heap.get? p=some { cls:=.type "list",data:=.seq its.toArray n }/\xs.length <= sizeLine:=by
 obtain ⟨z,its,n,r,e⟩:=I.hok p _ h
 exact ⟨its,n,r,e,z⟩
theorem Inv.aiX {pins:List (Addr × Obj)} {σ:St} {H:Hp} {s:Shared} {p:Addr} {xs ys:List V} {its its':List Value} {n n':Nat} {f:Obj->Obj} (I:Inv X pins σ H s) (h:H p=some (.lst xs))
  (ho:s.heap.get? p=some { cls:=.type "list",data:=.seq its.toArray n }) (hf:f { cls:=.type "list",data:=.seq its.toArray n } = { cls:=.type "list",data:=.seq its'.toArray n' }) (r:Vals ys its') (hz:ys.length <= sizeLine) (t:Nat) :
  Inv X pins σ (upd H p (.lst ys)) { s with heap:=s.heap.update p f,toks:=t }:=by
 have e:(s.heap.update p f).get? p=some { cls:=.type "list",data:=.seq its'.toArray n' }:=by
  rw [Heap.get?_update_self f ho (by rw [hf] <;> rfl),hf]
 refine I.write (x:=p) (e:=p) (by rw [h]; trivial) (.inl rfl) (fun b u hb q=>(Heap.get?_update_other _ _ (Ne.symm hb)).trans q) ⟨_,e⟩ ?_
 exact ⟨hz,its',n',r,e⟩
def aj1:V->V->V->Hp->(Hp->Prop)->Prop:=fun o i v H Q=>∃ p xs k j,o = .ref p/\i = .int k/\H p=some (.lst xs)/\ixN xs.length k=some j/\Q (upd H p (.lst (xs.set j v)))
theorem set_list:akU X aj1:=by
 intro pins s σ H o i v ov iv u Q I ro ri rv h
 obtain ⟨p,xs,k,j,rfl,rfl,hp,hj,q⟩:=h
 cases ro
 obtain ⟨t,rfl⟩:=ri
 obtain ⟨its,n,r,ho,hz⟩:=I.lst hp
 obtain ⟨h1,h2,h3,h4⟩:=adN hj
 have hl:=r.length
 have hn:=Z6
 have I':Inv X pins σ (upd H p (.lst (xs.set j v))) { s with heap:=s.heap.update p (Obj.mapSeq (·.setIfInBounds j u)) } :=
  I.aiX hp ho (acQ its n j u) (r.set rv j) (by rw [List.length_set]; exact hz) s.toks
 by_cases h0:0 <= k
 ·have hk:k.toNat=j:=by
   rw [seqIndex_of h0 h4] at h1
   exact Option.some.inj h1
  exact PySem.W.ki_setAt ho h0 (by omega) (by rw [List.size_toArray,<- hl]; exact h4) (by rw [hk]; exact ⟨_,I',q⟩)
 ·have hk:(k + (its.toArray.size:Int)).toNat=j:=by
   rw [seqIndex_neg (by omega) h3] at h1
   rw [List.size_toArray,<- hl]
   exact Option.some.inj h1
  exact PySem.W.ki_setBack ho (by omega) (by rw [List.size_toArray,<- hl]; exact h3) (by omega) (by rw [hk]; exact ⟨_,I',q⟩)
theorem ZR (lo hi:Option Int) (n:Nat):(sliceBounds lo hi none n).1=((HT.sIx n 0 lo:Nat):Int)/\(sliceBounds lo hi none n).2.1=((HT.sIx n n hi:Nat):Int)/\(sliceBounds lo hi none n).2.2=1:=by
 refine ⟨?_,?_,rfl⟩
 ·cases lo with
  | none=>simp [sliceBounds,HT.sIx]
  | some i =>
   simp only [sliceBounds,HT.sIx,Option.getD_none,show (1:Int) > 0 by decide,if_true]
   by_cases h:i < 0
   ·simp only [h,if_true] <;> omega
   ·simp only [h,if_false] <;> omega
 ·cases hi with
  | none=>simp [sliceBounds,HT.sIx]
  | some i =>
   simp only [sliceBounds,HT.sIx,Option.getD_none,show (1:Int) > 0 by decide,if_true]
   by_cases h:i < 0
   ·simp only [h,if_true] <;> omega
   ·simp only [h,if_false] <;> omega
theorem Xx (its:List Value) (lo hi:Option Int):slicePick its.toArray lo hi none=((its.drop (HT.sIx its.length 0 lo)).take (HT.sIx its.length its.length hi - HT.sIx its.length 0 lo)).toArray:=by
 obtain ⟨h1,h2,h3⟩:=ZR lo hi its.toArray.size
 unfold slicePick
 rw [h1,h2,h3]
 simp only [sliceRange_one,pick_run,List.size_toArray] <;> rfl
def alj (K:PySem.W.Frag):V->Option Int->Option Int->Hp->VK->Prop:=fun x lo hi H Q=>∃ a xs,x = .ref a/\SqL K H a xs/\∀ p,H p=none->Q (.ref p) (upd H p (.lst (Kh xs lo hi)))
theorem Us:SlR X (alj X.K):=by
 intro pins s σ H x v vl vu lo hi sl Q I rx hs pl pu h
 obtain ⟨a,xs,rfl,hx,q⟩:=h
 cases rx
 obtain ⟨its,r,ht,hz⟩:=I.list hx
 have hlen:=r.length
 refine ⟨"list",_,slot_list_getitem.lookup,ht.isList.typeIs,?_⟩
 refine wpAny_getItem_list_slice ht.isList hs pl pu .none (by simp) ?_ (by rw [List.size_toArray] <;> omega)
 rw [Xx,<- hlen]
 refine ⟨.ref s.heap.objs.size,_,I.laid (t':=s.toks) (o:=.lst (Kh xs lo hi)) (fun b ob q=>Heap.get?_push_of_some _ q) (Nat.le_refl _) ?_,rfl,q _ (I.hok.fresh (Nat.le_refl _))⟩
 exact ⟨Nat.le_trans (Tn xs lo hi) hz,_,0,(r.drop (HT.sIx xs.length 0 lo)).take (HT.sIx xs.length xs.length hi - HT.sIx xs.length 0 lo),Heap.get?_push_size _ rfl⟩
def HS:V->Bool
 | .non=>true
 | .bl _=>true
 | .int _=>true
 | .str _=>true
 | _=>false
def eqV:V->V->Bool
 | .non,.non=>true
 | .bl a,.bl b=>a == b
 | .bl a,.int b=>(if a then 1 else 0) == b
 | .int a,.bl b=>a == (if b then 1 else 0)
 | .int a,.int b=>a == b
 | .str a,.str b=>a == b
 | _,_=>false
theorem ajr {A:Around} {s:Shared} {y x:V} {u v:Value} (ry:RelV y u) (rx:RelV x v) (fy:HS y=true) (fx:HS x=true):SeqAt.EqAt A s u v (eqV y x):=by
 cases y with
 | non =>
  cases ry
  cases x with
  | non=>cases rx; exact SeqAt.EqAt.same _
  | bl b=>cases rx; exact SeqAt.EqAt.none_bool b
  | int b=>obtain ⟨t,rfl⟩:=rx; exact SeqAt.EqAt.none_int b t
  | str b=>obtain ⟨t,rfl⟩:=rx; exact SeqAt.EqAt.none_str b t
  | _=>exact absurd (show false=true from fx) Bool.false_ne_true
 | bl a =>
  cases ry
  cases x with
  | non=>cases rx; exact SeqAt.EqAt.bool_none a
  | bl b=>cases rx; exact SeqAt.EqAt.bool_bool a b
  | int b=>obtain ⟨t,rfl⟩:=rx; exact SeqAt.EqAt.bool_int a b t
  | str b=>obtain ⟨t,rfl⟩:=rx; exact SeqAt.EqAt.bool_str a b t
  | _=>exact absurd (show false=true from fx) Bool.false_ne_true
 | int a =>
  obtain ⟨t',rfl⟩:=ry
  cases x with
  | non=>cases rx; exact SeqAt.EqAt.int_none a t'
  | bl b=>cases rx; exact SeqAt.EqAt.int_bool a t' b
  | int b=>obtain ⟨t,rfl⟩:=rx; exact SeqAt.EqAt.int_int a t' b t
  | str b=>obtain ⟨t,rfl⟩:=rx; exact SeqAt.EqAt.int_str a t' b t
  | _=>exact absurd (show false=true from fx) Bool.false_ne_true
 | str a =>
  obtain ⟨t',rfl⟩:=ry
  cases x with
  | non=>cases rx; exact SeqAt.EqAt.str_none a t'
  | bl b=>cases rx; exact SeqAt.EqAt.str_bool a t' b
  | int b=>obtain ⟨t,rfl⟩:=rx; exact SeqAt.EqAt.str_int a t' b t
  | str b=>obtain ⟨t,rfl⟩:=rx; exact SeqAt.EqAt.str_str a t' b t
  | _=>exact absurd (show false=true from fx) Bool.false_ne_true
 | _=>exact absurd (show false=true from fy) Bool.false_ne_true
def eqU (x:V) (u:Value):Bool:=match u with
 | .none=>eqV .non x
 | .bool b=>eqV (.bl b) x
 | .int i _=>eqV (.int i) x
 | .str z _=>eqV (.str z) x
 | _=>false
theorem aab {x y:V} {u:Value} (r:RelV y u) (f:HS y=true):eqU x u=eqV y x:=by
 cases y with
 | non=>cases r; rfl
 | bl b=>cases r; rfl
 | int i=>obtain ⟨t,rfl⟩:=r; rfl
 | str z=>obtain ⟨t,rfl⟩:=r; rfl
 | _=>exact absurd (show false=true from f) Bool.false_ne_true
theorem Qw {x:V}:∀ {xs:List V} {us:List Value},Vals xs us->xs.all HS=true->us.any (eqU x)=xs.any fun y=>eqV y x
 | _,_,.nil,_=>rfl
 | y :: xs,u :: us,.cons r t,f=>by
  rw [List.all_cons,Bool.and_eq_true] at f
  rw [List.any_cons,List.any_cons,aab r f.1,Qw t f.2]
theorem Ji {A:Around} {s:Shared} {x:V} {v:Value} (rx:RelV x v) (fx:HS x=true):∀ {xs:List V} {us:List Value},Vals xs us->xs.all HS=true->∀ u ∈ us,SeqAt.EqAt A s u v (eqU x u)
 | _,_,.nil,_=>fun u hu=>by cases hu
 | y :: xs,u :: us,.cons r t,f=>fun u' hu=>by
  rw [List.all_cons,Bool.and_eq_true] at f
  rcases List.mem_cons.mp hu with rfl | hu
  ·rw [aab r f.1]; exact ajr r rx f.1 fx
  ·exact Ji rx fx t f.2 u' hu
def inV (x:V) (xs:List V):Bool:=xs.any fun y=>eqV y x
def rIn (K:PySem.W.Frag) (neg:Bool):R2:=fun x y H Q=>∃ p xs,y = .ref p/\(SqL K H p xs \/ SqT K H p xs)/\HS x=true/\xs.all HS=true/\Q (.bl (if neg then !inV x xs else inV x xs)) H
theorem Mq:OpR X (compareOp .In) (rIn X.K false):=by
 intro pins s σ H x y v u Q I rx ry h
 obtain ⟨p,xs,rfl,hq,fx,fs,q⟩:=h
 cases ry
 rcases hq with hq | hq
 ·obtain ⟨its,r,pl,hz⟩:=I.list hq
  refine SeqAt.in_listAt (eqU x) pl.isList (fun w hw=>Ji rx fx r fs w (by simpa using hw)) ⟨.bl _,H,I,rfl,?_⟩
  rw [show its.toArray.any (eqU x)=its.any (eqU x) by simp,Qw r fs]
  exact q
 ·obtain ⟨its,r,pl,hz⟩:=I.tuple hq
  refine SeqAt.in_tupleAt (eqU x) pl (fun w hw=>Ji rx fx r fs w (by simpa using hw)) ⟨.bl _,H,I,rfl,?_⟩
  rw [show its.toArray.any (eqU x)=its.any (eqU x) by simp,Qw r fs]
  exact q
theorem P0:OpR X (compareOp .NotIn) (rIn X.K true):=by
 intro pins s σ H x y v u Q I rx ry h
 obtain ⟨p,xs,rfl,hq,fx,fs,q⟩:=h
 cases ry
 rcases hq with hq | hq
 ·obtain ⟨its,r,pl,hz⟩:=I.list hq
  refine SeqAt.notIn_listAt (eqU x) pl.isList (fun w hw=>Ji rx fx r fs w (by simpa using hw)) ⟨.bl _,H,I,rfl,?_⟩
  rw [show its.toArray.any (eqU x)=its.any (eqU x) by simp,Qw r fs]
  exact q
 ·obtain ⟨its,r,pl,hz⟩:=I.tuple hq
  refine SeqAt.notIn_tupleAt (eqU x) pl (fun w hw=>Ji rx fx r fs w (by simpa using hw)) ⟨.bl _,H,I,rfl,?_⟩
  rw [show its.toArray.any (eqU x)=its.any (eqU x) by simp,Qw r fs]
  exact q
theorem Ax:Kc X (.builtin "len") (fun xs H Q=>∃ p ys,xs=[.ref p]/\(SqL X.K H p ys \/ SqT X.K H p ys)/\Q (.int ys.length) H):=by
 intro pins s σ H xs us Q I r h
 obtain ⟨p,ys,rfl,hq,q⟩:=h
 obtain ⟨u,rfl,rx⟩:=vals1 r
 cases rx
 have hn:=Z6
 rcases hq with hq | hq
 ·obtain ⟨its,r',pl,hz⟩:=I.list hq
  have hlen:=r'.length
  exact Calls.call_len_list pl.isList (by simp only [List.size_toArray] <;> omega) ⟨.int ys.length,H,I.tok _,⟨s.toks + 1,by rw [List.size_toArray,hlen]⟩,q⟩
 ·obtain ⟨its,r',pl,hz⟩:=I.tuple hq
  have hlen:=r'.length
  exact len_tuple pl (by simp only [List.size_toArray] <;> omega) ⟨.int ys.length,H,I.tok _,⟨s.toks + 1,by rw [List.size_toArray,hlen]⟩,q⟩
theorem aas:Kc X (.type "list") (fun xs H Q=>∃ p ys,xs=[.ref p]/\(SqL X.K H p ys \/ SqT X.K H p ys)/\∀ l,H l=none->Q (.ref l) (upd H l (.lst ys))):=by
 intro pins s σ H xs us Q I r h
 obtain ⟨p,ys,rfl,hq,q⟩:=h
 obtain ⟨u,rfl,rx⟩:=vals1 r
 cases rx
 have fin:∀ (its:List Value),Vals ys its->ys.length <= sizeLine->∀ (h':Heap) (c':Nat),(∀ b o',s.heap.get? b=some o'->h'.get? b=some o') ->
   h'.get? s.heap.objs.size=some { cls:=.type "list",dict:=none,data:=.seq its.toArray c',slots:=#[] }->EP X pins σ Q (.ref s.heap.objs.size) { s with heap:=h' }:=fun its r' hz h' c' kp e =>
  ⟨.ref s.heap.objs.size,_,I.laid (t':=s.toks) kp (Nat.le_refl _) (show Ds X.prog X.w _ h' _ (.lst ys) from ⟨hz,its,c',r',e⟩),rfl,q _ (I.hok.fresh (Nat.le_refl _))⟩
 rcases hq with hq | hq
 ·obtain ⟨its,r',pl,hz⟩:=I.list hq
  have hlen:=r'.length
  obtain ⟨o,ho,hc,n,hd⟩:=pl.isList
  exact call_list_seq p (.inl rfl) ho hc hd (fun h' c' kp e=>fin its r' hz h' c' kp e) (by simp only [List.size_toArray] <;> omega)
 ·obtain ⟨its,r',pl,hz⟩:=I.tuple hq
  have hlen:=r'.length
  obtain ⟨o,ho,hc,n,hd⟩:=pl
  exact call_list_seq p (.inr rfl) ho hc hd (fun h' c' kp e=>fin its r' hz h' c' kp e) (by simp only [List.size_toArray] <;> omega)
theorem Ii:Kc X (.type "tuple") (fun xs H Q=>∃ p ys,xs=[.ref p]/\((SqL X.K H p ys/\∀ l,H l=none->Q (.ref l) (upd H l (.tup ys))) \/ (SqT X.K H p ys/\Q (.ref p) H))):=by
 intro pins s σ H xs us Q I r h
 obtain ⟨p,ys,rfl,h⟩:=h
 obtain ⟨u,rfl,rx⟩:=vals1 r
 cases rx
 rcases h with ⟨hq,q⟩ | ⟨hq,q⟩
 ·obtain ⟨its,r',pl,hz⟩:=I.list hq
  have hlen:=r'.length
  refine call_tuple_list pl.isList (fun h' kp=>?_) (by simp only [List.size_toArray] <;> omega)
  have I1:Inv X pins σ H { s with heap:=h' }:=I.kept (t':=s.toks) kp
  have I2:Inv X pins σ (upd H h'.objs.size (.tup ys)) { s with heap:=h'.push { cls:=.type "tuple",data:=.seq its.toArray } } :=
   I1.laid (t':=s.toks) (fun b o e=>Heap.get?_push_of_some _ e) (Nat.le_refl _) (show Ds X.prog X.w _ _ _ (.tup ys) from ⟨hz,its,r',IsTup.new _ _⟩)
  exact ⟨.ref h'.objs.size,_,I2,rfl,q _ (I1.hok.fresh (Nat.le_refl _))⟩
 ·obtain ⟨its,r',pl,hz⟩:=I.tuple hq
  exact call_tuple_same pl ⟨.ref p,H,I,rfl,q⟩
def tyV (K:PySem.W.Frag) (T:String) (x:V) (H:Hp):Prop:=match x with
 | .str _=>T = "str"
 | .int _=>T = "int"
 | .ref p=>(T = "list" /\ ∃ xs,SqL K H p xs) \/ (T = "tuple" /\ ∃ o,K.lookup p=some o/\o.cls = .type "tuple" /\ o.dict=none) \/
   (T = "dict" /\ ((∃ kvs,H p=some (.dK kvs)) \/ ∃ kvs,H p=some (.dT kvs))) \/ (T = "set" /\ ∃ S n,H p=some (.set S n))
 | _=>False
theorem afw {pins:List (Addr × Obj)} {σ:St} {H:Hp} {s:Shared} {T:String} {x:V} {v:Value} (I:Inv X pins σ H s) (r:RelV x v) (ty:tyV X.K T x H) :
  s.TypeIs v T/\∀ a,v = .ref a->∃ ob,s.heap.get? a=some ob/\ob.dict=none:=by
 cases x with
 | str z =>
  obtain ⟨t,rfl⟩:=r
  cases (show T = "str" from ty)
  exact ⟨typeIs_str s z t,fun _ e=>nomatch e⟩
 | int i =>
  obtain ⟨t,rfl⟩:=r
  cases (show T = "int" from ty)
  exact ⟨typeIs_int s i t,fun _ e=>nomatch e⟩
 | ref p =>
  cases r
  rcases ty with ⟨rfl,xs,hq⟩ | ⟨rfl,o,hk,hc,hd⟩ | ⟨rfl,hk⟩ | ⟨rfl,S,n,hk⟩
  ·obtain ⟨its,_,pl,_⟩:=I.list hq
   refine ⟨pl.isList.typeIs,fun a e=>?_⟩
   cases e
   obtain ⟨o,n,e,c,hd,_⟩:=pl
   exact ⟨o,e,hd⟩
  ·refine ⟨⟨o,I.kIn p o hk,hc⟩,fun a e=>?_⟩
   cases e
   exact ⟨o,I.kIn _ o hk,hd⟩
  ·have z:∃ o,s.heap.get? p=some o/\o.ExactDict:=by
    rcases hk with ⟨kvs,hk⟩ | ⟨kvs,hk⟩
    ·obtain ⟨_,_,_,_,o,_,_,e,ex,_⟩:=I.hok p _ hk
     exact ⟨o,e,ex⟩
    ·obtain ⟨_,_,_,_,o,_,_,e,ex,_⟩:=I.hok p _ hk
     exact ⟨o,e,ex⟩
   obtain ⟨o,e,ex⟩:=z
   refine ⟨⟨o,e,ex.1⟩,fun a e2=>?_⟩
   cases e2
   exact ⟨o,e,ex.2.1⟩
  ·obtain ⟨o,_,_,_,e,ex,_⟩:=I.hok p _ hk
   refine ⟨⟨o,e,ex.1⟩,fun a e2=>?_⟩
   cases e2
   exact ⟨o,e,ex.2.1⟩
 | _=>exact False.elim ty
def alb (K:PySem.W.Frag) (T:String) (r:V->List V->Hp->VK->Prop) (to:TE):TE:=fun σ H Q=>to σ H fun x H1=>tyV K T x H1/\r x [] H1 Q
def tBM (K:PySem.W.Frag) (T:String) (r:V->List V->Hp->VK->Prop) (to:TE) (t:TA):TE:=fun σ H Q=>to σ H fun x H1=>tyV K T x H1/\t σ H1 fun xs H2=>r x xs H2 Q
variable {o e:Expr} {es:List Expr} {to:TE} {t:TA} {name:Str} {apos cpos:Pos} {T id:String} {r:V->List V->Hp->VK->Prop}
theorem aiL (pa:PlainAttrs T) (slot:Slot T name id) (hty:typeOf (.builtin id)=pure (.type "method_descriptor")) (hm:MtR X id r) (ho:PE X o to)
  (hbase:attributeBase o name X.env (eval o X.env)=eval o X.env:=by rfl) (hline:(apos.endLine == cpos.line)=true:=by rfl):PE X (.Call (.Attribute o name apos) [] [] cpos) (alb X.K T r to):=by
 intro pins s σ H Q I h
 refine wpAny_Call_method0_late hbase hline (thn (ho pins s σ H _ I h) fun v s1 ⟨x,H1,I1,r1,ty,q1⟩=>?_)
 obtain ⟨h1,h2⟩:=afw I1 r1 ty
 exact ⟨T,id,pa,slot,hty,h1,h2,Calls.callWith_builtin rfl (PySem.evalArgs_none (hm pins s1 σ H1 x [] v [] Q I1 r1 .nil q1))⟩
theorem KZ (pa:PlainAttrs T) (slot:Slot T name id) (hty:typeOf (.builtin id)=pure (.type "method_descriptor")) (hm:MtR X id r) (ho:PE X o to) (ha:PA X (e :: es) t)
  (hbase:attributeBase o name X.env (eval o X.env)=eval o X.env:=by rfl)
  (hfew:((backTo cpos (starEach (e :: es) X.env)).all (fun x=>!x.1) && (backToKw cpos (keywordEach [] X.env)).all (fun x=>x.1.isSome)
   && decide ((e :: es).length + ([]:List Keyword).length + (if ([]:List Keyword).isEmpty then 0 else 1) < 30))=true:=by rfl)
  (hline:(apos.endLine == cpos.line)=true:=by rfl) (hs:starEach (e :: es) X.env=(false,eval e X.env) :: starEach es X.env:=by rfl) (hplain:(backTo cpos (starEach es X.env)).any (·.1)=false:=by rfl) :
  PE X (.Call (.Attribute o name apos) (e :: es) [] cpos) (tBM X.K T r to t):=by
 intro pins s σ H Q I h
 refine wpAny_Call_method_late hbase hfew hline rfl (thn (ho pins s σ H _ I h) fun v s1 ⟨x,H1,I1,r1,ty,q1⟩=>?_)
 obtain ⟨h1,h2⟩:=afw I1 r1 ty
 refine ⟨T,id,pa,slot,hty,h1,h2,?_⟩
 have hA:=ha cpos pins s1 σ H1 _ I1 q1
 rw [hs] at hA ⊢
 refine Calls.callWith_builtin (by show (false || (backTo cpos (starEach es X.env)).any (·.1))=false; rw [hplain] <;> rfl) (Calls.evalArgs_plain ?_)
 exact thn hA fun us s2 ⟨vs,H2,I2,r2,q2⟩=>hm pins s2 σ H2 x vs v us Q I2 r1 r2 q2
end
def MtM (X:Cx) (id:String) (r:V->List V->Hp->VK->Prop):Prop :=
 ∀ (pins:List (Addr × Obj)) (s:Shared) (σ:St) (H:Hp) (x:V) (xs:List V) (v:Value) (us:List Value) (Q:VK),Inv X pins σ H s->RelV x v->Vals xs us->r x xs H Q ->
  wpAny (model X.prog X.w) X.A (call (.builtin id) (v :: us)) (EP X pins σ Q) X.xe s
theorem Vals.one:∀ {x:V} {us:List Value},Vals [x] us->∃ u,us=[u]/\RelV x u
 | _,_,.cons r .nil=>⟨_,rfl,r⟩
theorem Vals.zero:∀ {us:List Value},Vals [] us->us=[]
 | _,.nil=>rfl
theorem Vals.dropLast {xs:List V} {us:List Value} (h:Vals xs us):Vals xs.dropLast us.dropLast:=by
 induction h with
 | nil=>exact .nil
 | cons r t ih =>
  cases t with
  | nil=>exact .nil
  | cons q t'=>exact .cons r ih
theorem Vals.rep {xs:List V} {us:List Value} (h:Vals xs us):∀ k:Nat,Vals (List.replicate k xs).flatten (List.replicate k us).flatten
 | 0=>.nil
 | k + 1=>by
  rw [List.replicate_succ,List.replicate_succ,List.flatten_cons,List.flatten_cons]
  exact Vals.append h (Vals.rep h k)
theorem ac4 {α:Type} (l:List α):l.eraseIdx (l.length - 1)=l.dropLast:=by
 induction l with
 | nil=>rfl
 | cons a r ih =>
  cases r with
  | nil=>rfl
  | cons b r =>
   have e:(a :: b :: r).length - 1=((b :: r).length - 1) + 1:=by
    have h1:(a :: b :: r).length=r.length + 2:=rfl
    have h2:(b :: r).length=r.length + 1:=rfl
    omega
   rw [e,List.eraseIdx_cons_succ,ih]
   all_goals rfl
theorem foldl_rep (its:List Value):∀ (k:Nat) (acc:List Value),
  List.foldl (fun x1 x2=>x1 ++ x2) acc.toArray (List.replicate k its.toArray)=(acc ++ (List.replicate k its).flatten).toArray
 | 0,acc=>by simp
 | k + 1,acc=>by
  have e:acc.toArray ++ its.toArray=(acc ++ its).toArray:=by simp
  have e2:(acc ++ its) ++ (List.replicate k its).flatten=acc ++ (List.replicate (k + 1) its).flatten:=by
   rw [List.replicate_succ,List.flatten_cons,List.append_assoc]
  rw [<- e2,<- foldl_rep its k (acc ++ its),<- e,List.replicate_succ,List.foldl_cons]
section
variable {X:Cx} {pins:List (Addr × Obj)} {σ:St} {H:Hp} {s:Shared} {l b:Addr} {xs ys zs:List V}
theorem Inv.aiY {its its':List Value} {n:Nat} {f:Array Value->Array Value} {t':Nat} (I:Inv X pins σ H s) (hH:H l=some (.lst xs))
  (e:s.heap.get? l=some { cls:=.type "list",data:=.seq its.toArray n }) (hf:f its.toArray=its'.toArray) (hv:Vals ys its') (hz:ys.length <= sizeLine) :
  Inv X pins σ (upd H l (.lst ys)) { s with heap:=s.heap.update l (Obj.mapSeq f),toks:=t' }:=by
 have q:=PySem.IsL.update e f
 rw [hf] at q
 refine I.write (x:=l) (e:=l) (by rw [hH]; exact trivial) (.inl rfl) (fun b' u hb hu=>(Heap.get?_update_other s.heap (Obj.mapSeq f) (Ne.symm hb)).trans hu) ⟨_,q⟩ ?_
 exact ⟨hz,its',_,hv,q⟩
theorem Inv.akb {its:List Value} {t':Nat} (I:Inv X pins σ H s) (hv:Vals ys its) (hz:ys.length <= sizeLine) :
  Inv X pins σ (upd H s.heap.objs.size (.lst ys)) { s with heap:=s.heap.push { cls:=.type "list",data:=.seq its.toArray },toks:=t' } :=
 I.laid (fun _ _ q=>Heap.get?_push_of_some _ q) (Nat.le_refl _) ⟨hz,its,0,hv,Heap.get?_push_size _ rfl⟩
theorem Inv.fresh (I:Inv X pins σ H s):H s.heap.objs.size=none:=I.hok.fresh (Nat.le_refl _)
theorem Inv.aeG (I:Inv X pins σ H s) (hH:H l=some (.lst xs)):xs.length <= sizeLine/\∃ (its:List Value) (n:Nat),Vals xs its/\xs.length=its.length/\s.heap.get? l=some { cls:=.type "list",data:=.seq its.toArray n }:=by
 obtain ⟨z,its,n,r,e⟩:=I.hok l _ hH
 exact ⟨z,its,n,r,r.length,e⟩
theorem abb {n:Nat} (h:n <= sizeLine):Builtin.List.listTooLong n=false:=by
 unfold Builtin.List.listTooLong
 exact decide_eq_false (by omega)
end
section
variable {X:Cx}
def ahe:V->List V->Hp->VK->Prop:=fun x vs H Q=>∃ l xs y,x = .ref l/\vs=[y]/\H l=some (.lst xs)/\xs.length < sizeLine/\Q .non (upd H l (.lst (xs ++ [y])))
theorem Fx:MtM X "list.append" ahe:=by
 intro pins s σ H x vs v us Q I rx rv h
 obtain ⟨l,xs,y,rfl,rfl,hH,hz,q⟩:=h
 cases rx
 obtain ⟨u,rfl,ru⟩:=rv.one
 obtain ⟨z,its,n,r,hl,e⟩:=I.aeG hH
 refine call_meets F.slot_list_append ⟨_,e,rfl⟩ F.entry_list_append (F.args_list_append_2 _ _) (PySem.list_append l its.toArray n u (by rw [List.size_toArray]; omega)) ⟨e,?_⟩
 refine ⟨.non,_,I.aiY (its':=its ++ [u]) hH e (by simp) (r.append (.cons ru .nil)) ?_,rfl,q⟩
 rw [List.length_append,List.length_singleton]
 omega
def alm:V->List V->Hp->VK->Prop:=fun x vs H Q=>∃ l xs y,x = .ref l/\vs=[]/\H l=some (.lst xs)/\xs[xs.length - 1]? = some y/\Q y (upd H l (.lst xs.dropLast))
theorem aiU:MtM X "list.pop" alm:=by
 intro pins s σ H x vs v us Q I rx rv h
 obtain ⟨l,xs,y,rfl,rfl,hH,hy,q⟩:=h
 cases rx
 have hus:=rv.zero
 subst hus
 obtain ⟨z,its,n,r,hl,e⟩:=I.aeG hH
 obtain ⟨u,hu,ru⟩:=r.get hy
 have hy':its.toArray[its.toArray.size - 1]? = some u:=by
  show its.toArray[its.length - 1]? = some u
  rw [<- Array.getElem?_toList,<- hl]
  exact hu
 refine call_meets F.slot_list_pop ⟨_,e,rfl⟩ F.entry_list_pop (F.args_list_pop_1 _) (MeetsSeq.list_pop_last l its.toArray n u hy' (by rw [List.size_toArray]; omega)) ⟨e,?_⟩
 refine ⟨y,_,I.aiY (its':=its.dropLast) hH e ?_ r.dropLast ?_,ru,q⟩
 ·show its.toArray.eraseIdxIfInBounds (its.toArray.size - 1)=its.dropLast.toArray
  rw [List.size_toArray,List.eraseIdxIfInBounds_toArray,ac4]
 ·rw [List.length_dropLast]
  omega
def alo:R2:=fun x y H Q=>∃ l b xs zs,x = .ref l/\y = .ref b/\H l=some (.lst xs)/\H b=some (.lst zs)/\xs.length + zs.length <= sizeLine/\∀ p,H p=none->Q (.ref p) (upd H p (.lst (xs ++ zs)))
theorem af0:OpR X (binaryOp .Add) alo:=by
 intro pins s σ H x y v u Q I rx ry h
 obtain ⟨l,b,xs,zs,rfl,rfl,hH,hB,hz,q⟩:=h
 cases rx
 cases ry
 obtain ⟨z,its,n,r,hl,e⟩:=I.aeG hH
 obtain ⟨z2,its2,n2,r2,hl2,e2⟩:=I.aeG hB
 refine PySem.P.add_list e e2 ?_ (by rw [List.size_toArray,List.size_toArray]; omega)
 have ea:its.toArray ++ its2.toArray=(its ++ its2).toArray:=by simp
 rw [ea]
 exact ⟨.ref _,_,I.akb (t':=s.toks) (r.append r2) (by rw [List.length_append]; omega),rfl,q _ I.fresh⟩
def alk:R2:=fun x y H Q=>∃ l k xs,x = .ref l/\y = .int k/\H l=some (.lst xs) /\ -(2 ^ 63) <= k/\k < 2 ^ 63/\xs.length * k.toNat <= sizeLine /\
 ∀ p,H p=none->Q (.ref p) (upd H p (.lst (List.replicate k.toNat xs).flatten))
theorem len_rep {α:Type} (xs:List α) (k:Nat):(List.replicate k xs).flatten.length=k * xs.length:=by
 induction k with
 | zero=>simp
 | succ k ih=>rw [List.replicate_succ,List.flatten_cons,List.length_append,ih,Nat.succ_mul,Nat.add_comm]
theorem acH:OpR X (binaryOp .Mult) alk:=by
 intro pins s σ H x y v u Q I rx ry h
 obtain ⟨l,k,xs,rfl,rfl,hH,h1,h2,hz,q⟩:=h
 cases rx
 obtain ⟨t,rfl⟩:=ry
 obtain ⟨z,its,n,r,hl,e⟩:=I.aeG hH
 have hlen:its.toArray.size * k.toNat <= sizeLine:=by rw [List.size_toArray,<- hl]; exact hz
 have alU:¬ its.toArray.size * k.toNat > (2 ^ 63 - 1) / 8:=by
  have:(sizeLine:Nat) <= (2 ^ 63 - 1) / 8:=by decide
  omega
 have hfit:¬ (!Builtin.List.listFitsIndex k)=true:=by
  rw [fitsIndex_both h1 h2]
  exact Bool.false_ne_true
 have akv:¬ Builtin.List.listTooLong (its.toArray.size * k.toNat)=true:=by
  rw [abb hlen]
  exact Bool.false_ne_true
 have hnew:List.foldl (fun x1 x2=>x1 ++ x2) #[] (List.replicate (if its.toArray.isEmpty=true then 0 else k.toNat) its.toArray)=(List.replicate k.toNat its).flatten.toArray:=by
  have f0:∀ m:Nat,List.foldl (fun x1 x2=>x1 ++ x2) #[] (List.replicate m its.toArray)=(List.replicate m its).flatten.toArray:=fun m=>by
   have:=foldl_rep its m []
   rw [List.nil_append] at this
   exact this
  rw [f0]
  cases its with
  | nil=>simp
  | cons a r'=>rw [if_neg (by simp)]
 refine wpAny_binaryOp_repeat_ref (T := "list") (U := "int") (by decide) ⟨_,e,rfl⟩ (fun s'=>typeIs_int s' k t) noFill_list_mul F.fills_int_mul F.slot_int_rmul repeat_list F.slot_int_index.lookup
  (call_meets F.slot_int_rmul (typeIs_int s k t) F.entry_int_rmul (F.args_int_rmul_2 _ _) (int___rmul___int_list k t l its.toArray n)
   ⟨e,rfl,⟨_,e,rfl⟩,call_meets F.slot_list_mul ⟨_,e,rfl⟩ F.entry_list_mul (F.args_list_mul_2 _ _) (AutoListH.list___mul___list_int_3 l its.toArray n k t hfit alU akv) ⟨e,?_⟩⟩)
 rw [hnew]
 exact ⟨.ref _,_,I.akb (t':=s.toks) (r.rep k.toNat) (by rw [len_rep,Nat.mul_comm]; exact hz),rfl,q _ I.fresh⟩
end
section
variable {prog:Program} {w:World} {A:Around} {E:Value->Shared->Prop} {s:Shared}
set_option maxRecDepth 100000 in
end
theorem Vals.ints:∀ {ns:List Int} {us:List Value},Vals (ns.map V.int) us->IntsAre us ns
 | [],us,h=>by
  rw [List.map_nil] at h
  cases h
  exact IntsAre.nil
 | n :: ns,us,h=>by
  rw [List.map_cons] at h
  cases h with
  | cons r t =>
   obtain ⟨k,rfl⟩:=r
   exact IntsAre.cons n k (Vals.ints t)
theorem OJ:∀ {us:List Value} {ns:List Int},IntsAre us ns->Vals (ns.map V.int) us
 | _,_,.nil=>by rw [List.map_nil]; exact Paired.nil
 | _,_,.cons n t h=>by rw [List.map_cons]; exact Paired.cons (show RelV (V.int n) (Value.int n t) from ⟨t,rfl⟩) (OJ h)
theorem Vals.bls:∀ {bs:List Bool} {us:List Value},Vals (bs.map V.bl) us->us=bs.map Value.bool
 | [],us,h=>by
  rw [List.map_nil] at h
  cases h
  rfl
 | b :: bs,us,h=>by
  rw [List.map_cons] at h
  cases h with
  | cons r t =>
   cases r
   rw [Vals.bls t,List.map_cons]
theorem Vals.acw {a:Addr} {us:List Value} (r:Vals [V.ref a] us):us=[Value.ref a]:=by
 cases r with
 | cons r t =>
  cases t
  cases r
  rfl
section
variable {X:Cx}
def aiG (K:PySem.W.Frag):V->List V->Hp->VK->Prop:=fun x xs H Q=>∃ (a:Addr) (ys:List V) (y:V) (j:Nat) (z:V),x=V.ref a/\xs=[y]/\SqL K H a ys/\HS y=true/\ys.all HS=true/\ys[j]? = some z/\eqV z y=true /\
 (∀ (m:Nat) (z':V),m < j->ys[m]? = some z'->eqV z' y=false)/\Q (.int (j:Nat)) H
theorem adU {ys:List V} (f:ys.all HS=true) {j:Nat} {z:V} (h:ys[j]? = some z):HS z=true:=List.all_eq_true.mp f z (List.mem_of_getElem? h)
theorem af5:MtR X "list.index" (aiG X.K):=by
 intro pins s σ H x xs v us Q I rx rxs h
 obtain ⟨a,ys,y,j,z,rfl,rfl,hs,fy,fys,hz,hzj,hno,q⟩:=h
 cases rx
 cases rxs with
 | cons ry rt =>
  rename_i uy ut
  cases rt
  obtain ⟨its,rv,⟨⟨cls,dd,data,sl⟩,n,ho,hc,hdn,hd⟩,hlen⟩:=I.list hs
  simp only at hc hd
  subst hc hd
  obtain ⟨u,hu,ru⟩:=rv.get hz
  obtain ⟨hjl,hje⟩:=List.getElem?_eq_some_iff.mp hu
  have hvl:=rv.length
  have hj:j < its.toArray.size:=by simpa using hjl
  have hsl:=sizeLine_eq
  refine call_meets PySem.F.slot_list_index ⟨_,ho,rfl⟩ PySem.F.entry_list_index (PySem.F.args_list_index_2 _ _)
   (SeqAt.list_indexAt a its.toArray n dd sl uy (eqU y) j hj (by omega) ?_ ?_) ⟨ho,fun u' hu'=>Ji ry fy rv fys u' (by simpa using hu'),?_⟩
  ·have e1:its.toArray[j] = u:=by simpa using hje
   rw [e1,aab ru (adU fys hz)]
   exact hzj
  ·intro m hm hmj
   have hml:m < its.length:=by simpa using hm
   have hmy:m < ys.length:=by omega
   have hy':ys[m]? = some ys[m]:=List.getElem?_eq_getElem hmy
   obtain ⟨u2,hu2,ru2⟩:=rv.get hy'
   obtain ⟨_,hme⟩:=List.getElem?_eq_some_iff.mp hu2
   have e1:its.toArray[m] = u2:=by simpa using hme
   rw [e1,aab ru2 (adU fys hy')]
   exact hno m _ hmj hy'
  ·exact ⟨.int (j:Nat),H,I.tok _,⟨_,rfl⟩,q⟩
end
theorem abp {prog:Program} {w:World} {A:Around} {E:Value->Shared->Prop} {s:Shared} {l:Addr} {items:Array Value} {Q:Value->Shared->Prop} (hl:s.heap.IsList l items)
  (h:∀ s₂:Shared,s₂ = { s with heap:=s.heap.push { cls:=.type "list_iterator",data:=.fields #[.ref l,.int 0 0] } } ->
   (s₂.heap.IsListIter s.heap.objs.size l 0/\s₂.heap.IsList l items)->l ≠ s.heap.objs.size->Q (.ref s.heap.objs.size) s₂):wpAny (model prog w) A (pyIter (.ref l)) Q E s:=by
 have hlt:l < s.heap.objs.size:=by obtain ⟨_,e,_⟩:=hl; exact Heap.lt_size e
 exact wpAny_pyIter_list hl (h _ rfl ⟨⟨_,Heap.get?_push_size _ rfl,rfl,rfl⟩,hl.push _⟩ (Nat.ne_of_lt hlt))
theorem R0 {prog:Program} {w:World} {A:Around} {bs:List Bool} {its:List Value} (e:its=bs.map Value.bool) :
  TruthOf prog w A (fun i v=>its.toArray[i]? = some v) (fun i=>bs.getD i false):=fun i v s Q E hv hq=>by
 have hv':its[i]? = some v:=by simpa using hv
 rw [e,List.getElem?_map] at hv'
 obtain ⟨b,hb,rfl⟩:=Option.map_eq_some_iff.mp hv'
 have hg:bs.getD i false=b:=by rw [List.getD_eq_getElem?_getD,hb] <;> rfl
 have hq':Q (bs.getD i false) s:=hq
 rw [hg] at hq'
 exact wpAny_truthy_bool hq'
theorem any_range:∀ bs:List Bool,(List.range bs.length).any (fun i=>bs.getD i false)=bs.any id
 | []=>rfl
 | b :: bs=>by
  rw [List.length_cons,List.range_succ_eq_map,List.any_cons,List.any_map,List.any_cons,<- any_range bs]
  all_goals rfl
theorem all_range:∀ bs:List Bool,(List.range bs.length).all (fun i=>bs.getD i false)=bs.all id
 | []=>rfl
 | b :: bs=>by
  rw [List.length_cons,List.range_succ_eq_map,List.all_cons,List.all_map,List.all_cons,<- all_range bs]
  all_goals rfl
section
variable {X:Cx}
def alp (K:PySem.W.Frag):List V->Hp->VK->Prop:=fun vs H Q=>∃ (a:Addr) (bs:List Bool),vs=[V.ref a]/\SqL K H a (bs.map V.bl)/\Q (.bl (bs.any id)) H
def alq (K:PySem.W.Frag):List V->Hp->VK->Prop:=fun vs H Q=>∃ (a:Addr) (bs:List Bool),vs=[V.ref a]/\SqL K H a (bs.map V.bl)/\Q (.bl (bs.all id)) H
theorem ajy (hc:X.calm=true):Kc X (.builtin "any") (alp X.K):=by
 intro pins s σ H vs us Q I r h
 obtain ⟨a,bs,rfl,hs,q⟩:=h
 obtain ⟨its,rv,hl,_⟩:=I.list hs
 rw [Vals.acw r]
 have hb:=rv.bls
 refine call_any_walk (abp hl.isList fun s₂ e2 st hne=>?_)
 subst e2
 refine ⟨_,_,_,_,_,_,_,rfl,Walks.list (A:=X.A.in1) (I.ok.hd hc) _ a hne its.toArray,st,R0 hb,fun h' tk hk=>?_⟩
 refine ⟨.bl _,H,I.kept fun b o eo=>hk b o (fun hmem=>?_) (Heap.get?_push_of_some _ eo),?_,q⟩
 ·rcases List.mem_cons.mp hmem with e1 | hmem
  ·exact absurd (e1 ▸ Heap.lt_size eo) (Nat.lt_irrefl _)
  ·cases hmem
 ·show Value.bool _=Value.bool _
  rw [<- any_range,hb,List.size_toArray,List.length_map]
theorem agC (hc:X.calm=true):Kc X (.builtin "all") (alq X.K):=by
 intro pins s σ H vs us Q I r h
 obtain ⟨a,bs,rfl,hs,q⟩:=h
 obtain ⟨its,rv,hl,_⟩:=I.list hs
 rw [Vals.acw r]
 have hb:=rv.bls
 refine call_all_walk (abp hl.isList fun s₂ e2 st hne=>?_)
 subst e2
 refine ⟨_,_,_,_,_,_,_,rfl,Walks.list (A:=X.A.in1) (I.ok.hd hc) _ a hne its.toArray,st,R0 hb,fun h' tk hk=>?_⟩
 refine ⟨.bl _,H,I.kept fun b o eo=>hk b o (fun hmem=>?_) (Heap.get?_push_of_some _ eo),?_,q⟩
 ·rcases List.mem_cons.mp hmem with e1 | hmem
  ·exact absurd (e1 ▸ Heap.lt_size eo) (Nat.lt_irrefl _)
  ·cases hmem
 ·show Value.bool _=Value.bool _
  rw [<- all_range,hb,List.size_toArray,List.length_map]
end
mutual
inductive Dp (K:PySem.W.Frag) (H:Hp):V->PyData->Prop
 | non:Dp K H .non .none
 | bl (b:Bool):Dp K H (.bl b) (.bool b)
 | int (i:Int):Dp K H (.int i) (.int i)
 | str (x:Str):Dp K H (.str x) (.str x)
 | lst {a:Addr} {xs:List V} {ds:List PyData}:SqL K H a xs->Xg K H xs ds->Dp K H (.ref a) (.list ds)
 | tup {a:Addr} {xs:List V} {ds:List PyData}:SqT K H a xs->Xg K H xs ds->Dp K H (.ref a) (.tuple ds)
inductive Xg (K:PySem.W.Frag) (H:Hp):List V->List PyData->Prop
 | nil:Xg K H [] []
 | cons {v:V} {vs:List V} {d:PyData} {ds:List PyData}:Dp K H v d->Xg K H vs ds->Xg K H (v :: vs) (d :: ds)
end
section
variable {X:Cx} {pins:List (Addr × Obj)} {σ:St} {H:Hp} {s:Shared}
mutual
theorem Dp.reads (I:Inv X pins σ H s):∀ (d:PyData) (v:V) (u:Value),Dp X.K H v d->RelV v u->∃ as,Reads s.heap u d as
 | .none,_,_,h,r=>by
  cases h
  cases r
  exact ⟨_,Reads.none⟩
 | .bool b,_,_,h,r=>by
  cases h
  cases r
  exact ⟨_,Reads.bool b⟩
 | .int i,_,_,h,r=>by
  cases h
  obtain ⟨t,rfl⟩:=r
  exact ⟨_,Reads.int i t⟩
 | .str x,_,_,h,r=>by
  cases h
  obtain ⟨t,rfl⟩:=r
  exact ⟨_,Reads.str x t⟩
 | .list ds,_,_,h,r=>by
  cases h with
  | lst hs ha =>
   cases r
   obtain ⟨its,rv,⟨o,n,ho,hc,_,hd⟩,_⟩:=I.list hs
   obtain ⟨as,hr⟩:=Dp.readsAll I ds _ its ha rv
   exact ⟨_,Reads.list ho hc hd hr⟩
 | .tuple ds,_,_,h,r=>by
  cases h with
  | tup hs ha =>
   cases r
   obtain ⟨its,rv,⟨o,ho,hc,n,hd⟩,_⟩:=I.tuple hs
   obtain ⟨as,hr⟩:=Dp.readsAll I ds _ its ha rv
   exact ⟨_,Reads.tuple ho hc hd hr⟩
 | .dict _,_,_,h,_=>by cases h
theorem Dp.readsAll (I:Inv X pins σ H s):∀ (ds:List PyData) (vs:List V) (us:List Value),Xg X.K H vs ds->Vals vs us->∃ as,ReadsAll s.heap us ds as
 | [],_,_,h,r=>by
  cases h
  cases r
  exact ⟨_,ReadsAll.nil⟩
 | d :: ds,_,_,h,r=>by
  cases h with
  | cons h1 h2 =>
   cases r with
   | cons r1 r2 =>
    obtain ⟨as,q1⟩:=Dp.reads I d _ _ h1 r1
    obtain ⟨bs,q2⟩:=Dp.readsAll I ds _ _ h2 r2
    exact ⟨_,ReadsAll.cons q1 q2⟩
end
end
section
variable {X:Cx}
def aj6 (K:PySem.W.Frag):R2:=fun x y H Q=>∃ d e,Dp K H x d/\Dp K H y e/\SeqAt.shaped d=true/\SeqAt.shaped e=true/\Q (.bl (PyData.eqv d e)) H
def aj2 (K:PySem.W.Frag):R2:=fun x y H Q=>∃ d e,Dp K H x d/\Dp K H y e/\SeqAt.shaped d=true/\SeqAt.shaped e=true/\Q (.bl (!PyData.eqv d e)) H
theorem aiP (hu:X.A.units + 64 < cLine):OpR X (compareOp .Eq) (aj6 X.K):=by
 intro pins s σ H x y v u Q I rx ry h
 obtain ⟨d,e,hd,he,sd,se,q⟩:=h
 obtain ⟨as,r1⟩:=Dp.reads I d x v hd rx
 obtain ⟨bs,r2⟩:=Dp.reads I e y u he ry
 exact SeqAt.compareEq_shaped r1 r2 sd se hu ⟨.bl _,H,I,rfl,q⟩
theorem afZ (hu:X.A.units + 64 < cLine):OpR X (compareOp .NotEq) (aj2 X.K):=by
 intro pins s σ H x y v u Q I rx ry h
 obtain ⟨d,e,hd,he,sd,se,q⟩:=h
 obtain ⟨as,r1⟩:=Dp.reads I d x v hd rx
 obtain ⟨bs,r2⟩:=Dp.reads I e y u he ry
 exact SeqAt.compareNe_shaped r1 r2 sd se hu ⟨.bl _,H,I,rfl,q⟩
end
abbrev agT (h:Heap) (c:Addr) (v:Option Value):Prop:=h.IsCell c v
def alh (scope sc:Scope):Scope :=
 { scope with names:=scope.names.map fun (n,k)=>if (k == .free && sc.kind == .function && sc.names.lookup n == some .cell) then (n,.cell) else (n,k) }
def Cm (cells:List (Str × Addr)):List (Str × NameKind)->List (Str × Addr)->List (Str × Addr)
 | [],acc=>acc
 | (n,k) :: r,acc=>if k == .free then Cm cells r ((n,(cells.lookup n).getD 0) :: acc) else Cm cells r acc
theorem Qo (env:Env) (f:Str × NameKind->List (Str × Addr)->Sem (ForInStep (List (Str × Addr))))
  (hf:∀ n k c,f (n,k) c=if k == .free then (do let a <- cellOf env n; pure (.yield ((n,a) :: c))) else pure (.yield c)) :
  ∀ (names:List (Str × NameKind)) (acc:List (Str × Addr)),(∀ y ∈ names,y.2 = .free->∃ c,env.cells.lookup y.1=some c)->forIn names acc f=pure (Cm env.cells names acc)
 | [],acc,_=>by rw [List.forIn_nil]; rfl
 | (n,k) :: r,acc,h=>by
  rw [List.forIn_cons,hf]
  have ih:=fun acc=>Qo env f hf r acc fun y hy=>h y (List.mem_cons_of_mem _ hy)
  unfold Cm
  by_cases hk:(k == NameKind.free)=true
  ·rw [if_pos hk,if_pos hk]
   obtain ⟨c,hc⟩:=h (n,k) List.mem_cons_self (by simpa using hk)
   have e:cellOf env n=pure c:=by unfold cellOf; rw [hc]
   rw [e]
   have e2:(env.cells.lookup n).getD 0=c:=by rw [hc]; rfl
   rw [e2]
   exact ih _
  ·rw [if_neg hk,if_neg hk]
   exact ih _
theorem adg {scope:Scope} {env:Env} (h:∀ y ∈ scope.names,y.2 = .free->∃ c,env.cells.lookup y.1=some c):closureFor scope env=pure (Cm env.cells scope.names []):=by
 simp only [closureFor]
 rw [Qo env _ (fun n k c=>rfl) scope.names [] h]
 rfl
theorem mem_lookup {α:Type}:∀ {l:List (Str × α)} {n:Str} {c:α},(n,c) ∈ l->∃ c',l.lookup n=some c'
 | (k,v) :: r,n,c,h=>by
  rw [List.lookup_cons]
  cases hb:n == k with
  | true=>exact ⟨_,rfl⟩
  | false =>
   rcases List.mem_cons.mp h with e | h
   ·cases e; simp at hb
   ·exact mem_lookup h
theorem HW {cells:List (Str × Addr)}:∀ {names:List (Str × NameKind)} {acc:List (Str × Addr)} {n:Str} {c:Addr},(n,c) ∈ Cm cells names acc->(n,c) ∈ acc \/ ((n,.free) ∈ names/\c=(cells.lookup n).getD 0)
 | [],_,_,_,h=>.inl h
 | (m,k) :: r,acc,n,c,h=>by
  unfold Cm at h
  split at h
  ·rename_i hk
   have hk:k = .free:=by simpa using hk
   rcases HW h with h | ⟨h1,h2⟩
   ·rcases List.mem_cons.mp h with e | h
    ·cases e; exact .inr ⟨hk ▸ List.mem_cons_self,rfl⟩
    ·exact .inl h
   ·exact .inr ⟨List.mem_cons_of_mem _ h1,h2⟩
  ·rcases HW h with h | ⟨h1,h2⟩
   ·exact .inl h
   ·exact .inr ⟨List.mem_cons_of_mem _ h1,h2⟩
theorem Lp {cells:List (Str × Addr)}:∀ {names:List (Str × NameKind)} {acc:List (Str × Addr)} {p:Str × Addr},p ∈ acc->p ∈ Cm cells names acc
 | [],_,_,h=>h
 | (m,k) :: r,acc,p,h=>by
  unfold Cm
  split
  ·exact Lp (List.mem_cons_of_mem _ h)
  ·exact Lp h
theorem Ln {cells:List (Str × Addr)}:∀ {names:List (Str × NameKind)} {acc:List (Str × Addr)} {n:Str},(n,.free) ∈ names->(n,(cells.lookup n).getD 0) ∈ Cm cells names acc
 | (m,k) :: r,acc,n,h=>by
  unfold Cm
  rcases List.mem_cons.mp h with e | h
  ·cases e
   exact Lp List.mem_cons_self
  ·split
   ·exact Ln h
   ·exact Ln h
theorem Jo:∀ {names:List (Str × NameKind)} {h:Heap} {acc:List (Str × Addr)} {x:Str} {c:Addr},(x,c) ∈ cellsFrom h.objs.size names acc ->
  (x,c) ∈ acc \/ ((x,.cell) ∈ names/\h.objs.size <= c/\agT (pushCells h names) c none)
 | [],_,_,_,_,h=>.inl h
 | (n,k) :: r,h,acc,x,c,hm=>by
  unfold cellsFrom at hm
  unfold pushCells
  split at hm
  ·rename_i hk
   rw [if_pos hk]
   have hk:k = .cell:=by simpa using hk
   rw [<- Heap.size_push h { cls:=.type "cell",data:=.cell none }] at hm
   rcases Jo hm with hm | ⟨h1,h2,h3⟩
   ·rcases List.mem_cons.mp hm with e | hm
    ·cases e
     exact .inr ⟨hk ▸ List.mem_cons_self,Nat.le_refl _,_,pushCells_keeps r _ _ _ (Heap.get?_push_size _ rfl),rfl⟩
    ·exact .inl hm
   ·rw [Heap.size_push] at h2
    exact .inr ⟨List.mem_cons_of_mem _ h1,Nat.le_of_succ_le h2,h3⟩
  ·rename_i hk
   rw [if_neg hk]
   rcases Jo hm with hm | ⟨h1,h2,h3⟩
   ·exact .inl hm
   ·exact .inr ⟨List.mem_cons_of_mem _ h1,h2,h3⟩
theorem MF:∀ {names:List (Str × NameKind)} {n:Nat} {acc:List (Str × Addr)} {p:Str × Addr},p ∈ acc->p ∈ cellsFrom n names acc
 | [],_,_,_,h=>h
 | (m,k) :: r,n,acc,p,h=>by
  unfold cellsFrom
  split
  ·exact MF (List.mem_cons_of_mem _ h)
  ·exact MF h
theorem RD:∀ {names:List (Str × NameKind)} {n:Nat} {acc:List (Str × Addr)} {x:Str},(x,.cell) ∈ names->∃ c,(x,c) ∈ cellsFrom n names acc
 | (m,k) :: r,n,acc,x,h=>by
  unfold cellsFrom
  rcases List.mem_cons.mp h with e | h
  ·cases e
   exact ⟨n,MF List.mem_cons_self⟩
  ·split
   ·exact RD h
   ·exact RD h
theorem RC:∀ {names:List (Str × NameKind)} {h:Heap} {acc:List (Str × Addr)} {x y:Str} {c:Addr},(∀ p ∈ acc,p.2 < h.objs.size)->(∀ x y c,(x,c) ∈ acc->(y,c) ∈ acc->x=y) ->
  (x,c) ∈ cellsFrom h.objs.size names acc->(y,c) ∈ cellsFrom h.objs.size names acc->x=y
 | [],_,_,_,_,_,_,hi,h1,h2=>hi _ _ _ h1 h2
 | (n,k) :: r,h,acc,x,y,c,hl,hi,h1,h2=>by
  unfold cellsFrom at h1 h2
  split at h1
  ·rename_i hk
   rw [if_pos hk] at h2
   rw [<- Heap.size_push h { cls:=.type "cell",data:=.cell none }] at h1 h2
   refine RC (h:=h.push _) (fun p hp=>?_) (fun x y c a b=>?_) h1 h2
   ·rw [Heap.size_push]
    rcases List.mem_cons.mp hp with rfl | hp
    ·exact Nat.lt_succ_self _
    ·exact Nat.lt_succ_of_lt (hl p hp)
   ·rcases List.mem_cons.mp a with e | a <;> rcases List.mem_cons.mp b with e' | b
    ·cases e; cases e'; rfl
    ·cases e; exact absurd (hl _ b) (Nat.lt_irrefl _)
    ·cases e'; exact absurd (hl _ a) (Nat.lt_irrefl _)
    ·exact hi _ _ _ a b
  ·rename_i hk
   rw [if_neg hk] at h2
   exact RC hl hi h1 h2
theorem abf {M:Model} {A:Around} {E:Value->Shared->Prop} {s:Shared} {scope:Scope} {globals:Addr} {closure:List (Str × Addr)} {qual:Str} {func:Option Addr} {code:Value} {around:Env} {builtins:Addr} {Q:Env->Shared->Prop}
  (h:Q (newEnv scope s.heap.objs.size globals (cellsFrom (s.heap.objs.size + 1) scope.names closure) qual func code (some around) builtins)
   { s with heap:=pushCells (s.heap.push { cls:=.type "dict",data:=.dict #[] }) scope.names }) :
  wpAny M A (newFunctionEnv scope globals closure [] qual func code (some around) builtins) Q E s:=by
 simp only [newFunctionEnv,Option.isSome_some,if_true]
 refine wpAny_bind (wpAny_alloc ?_)
 refine wpAny_bind (wpAny_layCells _ (fun n k c=>rfl) scope.names closure _ _ ?_)
 rw [show ({ s with heap:=s.heap.push { cls:=.type "dict",data:=.dict #[] } }:Shared).heap.objs.size=s.heap.objs.size + 1 from Heap.size_push ..]
 rw [List.forIn_nil]
 exact wpAny_bind (wpAny_pure (wpAny_pure h))
theorem Le {sc:Scope}:∀ {names:List (Str × NameKind)} {x:Str} {k:NameKind},
  (names.map fun (n,k)=>if (k == NameKind.free && sc.kind == .function && sc.names.lookup n == some .cell) then (n,NameKind.cell) else (n,k)).lookup x=some k ->
  ∃ k',names.lookup x=some k'/\(k=k' \/ (k' = .free/\k = .cell))
 | [],_,_,h=>by simp at h
 | (n,k₀) :: r,x,k,h=>by
  have ih:=@Le sc r x k
  have h':List.lookup x ((if (k₀ == NameKind.free && sc.kind == .function && sc.names.lookup n == some .cell)=true then (n,NameKind.cell) else (n,k₀)) :: (r.map _))=some k:=h
  cases hx:x == n with
  | true =>
   simp only [List.lookup_cons,hx]
   by_cases hc:(k₀ == NameKind.free && sc.kind == .function && sc.names.lookup n == some .cell)=true
   ·rw [if_pos hc] at h'
    simp only [List.lookup_cons,hx] at h'
    cases h'
    simp only [Bool.and_eq_true,beq_iff_eq] at hc
    exact ⟨k₀,rfl,.inr ⟨hc.1.1,rfl⟩⟩
   ·rw [if_neg hc] at h'
    simp only [List.lookup_cons,hx] at h'
    cases h'
    exact ⟨_,rfl,.inl rfl⟩
  | false =>
   simp only [List.lookup_cons,hx]
   by_cases hc:(k₀ == NameKind.free && sc.kind == .function && sc.names.lookup n == some .cell)=true
   ·rw [if_pos hc] at h'
    simp only [List.lookup_cons,hx] at h'
    exact ih h'
   ·rw [if_neg hc] at h'
    simp only [List.lookup_cons,hx] at h'
    exact ih h'
structure ab2 (N:List Str) (sc scope:Scope) (own:List (Str × Nat)):Prop where
 kind:scope.kind = .function
 uniq:∀ y ∈ scope.names,scope.names.lookup y.1=some y.2
 ix:∀ p ∈ own,N[p.2]? = some p.1
 free:∀ y ∈ scope.names,y.2 = .free->sc.names.lookup y.1=some .cell \/ sc.names.lookup y.1=some .free
 own:∀ y ∈ scope.names,y.2 = .local \/ y.2 = .cell->y.1 ∈ own.map (·.1) \/ y.1 ∉ N
def wipe (σ:St):List Nat->St
 | []=>σ
 | v :: vs=>(wipe σ vs).set v none
theorem Km (σ:St):∀ vs:List Nat,(wipe σ vs).length=σ.length
 | []=>rfl
 | v :: vs=>by unfold wipe; rw [List.length_set,Km σ vs]
theorem QG {σ:St} {i:Nat} {x:V}:∀ {vs:List Nat},(wipe σ vs)[i]? = some (some x)->σ[i]? = some (some x)/\i ∉ vs
 | [],h=>⟨h,by simp⟩
 | v :: vs,h=>by
  unfold wipe at h
  by_cases hi:v=i
  ·subst hi
   by_cases hv:v < (wipe σ vs).length
   ·rw [List.getElem?_set_self hv] at h; cases h
   ·rw [List.getElem?_eq_none (by simpa using hv)] at h; cases h
  ·rw [List.getElem?_set_ne hi] at h
   obtain ⟨h1,h2⟩:=QG h
   exact ⟨h1,by simp only [List.mem_cons,not_or]; exact ⟨fun e=>hi e.symm,h2⟩⟩
abbrev Cx.blk (X:Cx) (s:Shared) (H:Hp) (scope:Scope) (cenv:Env) (fp:List Addr):Cx:={ X with s_0:=s,H_0:=H,env:=cenv,outer:=X.stack,ex:=fp,fn:=fun x=>scope.names.lookup x == some .cell,pn:=[],xe:=fun _ _=>False }
section
variable {X:Cx} {pins:List (Addr × Obj)} {σ:St} {H:Hp} {s:Shared}
theorem abU {scope:Scope} {own:List (Str × Nat)} {fp:List Addr} (I:Inv X pins σ H s) (ok:ab2 X.N X.env.scope scope own) (hN:X.N.Nodup) (hfp:∀ b ∈ fp,Xf X pins H b/\b < s.heap.objs.size) :
  Inv (X.blk s H scope (compEnvC scope (cellsFrom (s.heap.objs.size + 1) scope.names (Cm X.env.cells scope.names [])) s.heap.objs.size X.env) fp) [] (wipe σ (own.map (·.2))) H { s with heap:=pushCells (s.heap.push { cls:=.type "dict",data:=.dict #[] }) scope.names }:=by
 have hfree:∀ y ∈ scope.names,y.2 = .free->∃ c,X.env.cells.lookup y.1=some c:=fun y hy e=>by
  rcases ok.free y hy e with k | k
  ·exact I.ok.has _ (.inl k)
  ·exact I.ok.has _ (.inr k)
 generalize abv:compEnvC scope (cellsFrom (s.heap.objs.size + 1) scope.names (Cm X.env.cells scope.names [])) s.heap.objs.size X.env=cenv
 have kp:∀ b o,s.heap.get? b=some o->(pushCells (s.heap.push { cls:=.type "dict",data:=.dict #[] }) scope.names).get? b=some o:=fun b o e=>pushCells_keeps _ _ _ _ (Heap.get?_push_of_some _ e)
 have hL:cenv.locals=s.heap.objs.size:=by rw [<- abv]; rfl
 have hcl:cenv.cells=cellsFrom (s.heap.objs.size + 1) scope.names (Cm X.env.cells scope.names []):=by rw [<- abv]; rfl
 have hsc:cenv.scope=alh scope X.env.scope:=by rw [<- abv]; rfl
 rw [<- Heap.size_push s.heap { cls:=.type "dict",data:=.dict #[] }] at hcl
 have cm:∀ {y c},(y,c) ∈ Cm X.env.cells scope.names []->X.env.cells.lookup y=some c/\c < s.heap.objs.size:=fun {y c} hm=>by
  rcases HW hm with hm | ⟨h1,rfl⟩
  ·cases hm
  ·obtain ⟨c,hc⟩:=hfree _ h1 rfl
   rw [hc]
   obtain ⟨w,z⟩:=I.cell _ _ hc
   exact ⟨rfl,z.lt⟩
 have mem:∀ {y c},cenv.cells.lookup y=some c->(X.env.cells.lookup y=some c/\c < s.heap.objs.size) \/ (s.heap.objs.size + 1 <= c/\agT (pushCells (s.heap.push { cls:=.type "dict",data:=.dict #[] }) scope.names) c none):=fun {y c} e=>by
  rw [hcl] at e
  rcases Jo (PySem.mem_of_lookup e) with hm | ⟨_,h2,h3⟩
  ·exact .inl (cm hm)
  ·rw [Heap.size_push] at h2; exact .inr ⟨h2,h3⟩
 have look:∀ {y},scope.names.lookup y=some .free->∃ c,cenv.cells.lookup y=some c/\X.env.cells.lookup y=some c:=fun {y} hl=>by
  have hy:(y,NameKind.free) ∈ scope.names:=PySem.mem_of_lookup hl
  obtain ⟨c',e'⟩:=mem_lookup (MF (names:=scope.names) (n:=(s.heap.push { cls:=.type "dict",data:=.dict #[] }).objs.size) (Ln (cells:=X.env.cells) (acc:=[]) hy))
  rw [<- hcl] at e'
  refine ⟨c',e',?_⟩
  rw [hcl] at e'
  rcases Jo (PySem.mem_of_lookup e') with hm | ⟨h1,_,_⟩
  ·exact (cm hm).1
  ·have:=ok.uniq _ h1
   rw [hl] at this; cases this
 have okB:(X.blk s H scope cenv fp).Ok:=by
  refine ⟨I.ok.mod,by show cenv.scope.kind=_; rw [hsc]; exact ok.kind,by show cenv.globals=_; rw [<- abv]; exact I.ok.glob,by show cenv.builtins=_; rw [<- abv]; exact I.ok.blt,by show s.heap.objs.size <= cenv.locals; rw [hL]; exact Nat.le_refl _,
   fun y z c e1 e2=>?_,fun y hy=>?_,fun y c z e=>?_,I.ok.hd,I.ok.frames,.inl rfl,fun b hb=>⟨?_,fun y c e z=>?_⟩,I.bs,Nat.le_trans I.ok.bsz I.sz,fun b o e hb=>?_,fun b hb z=>?_,I.stack,I.adw⟩
  ·have e1:cenv.cells.lookup y=some c:=e1
   have e2:cenv.cells.lookup z=some c:=e2
   rw [hcl] at e1 e2
   refine RC (fun p hp=>?_) (fun y z c a b=>I.ok.inj y z c (cm a).1 (cm b).1) (PySem.mem_of_lookup e1) (PySem.mem_of_lookup e2)
   rw [Heap.size_push]
   exact Nat.lt_succ_of_lt (cm (y:=p.1) (c:=p.2) hp).2
  ·show ∃ c,cenv.cells.lookup y=some c
   have key:∀ k,cenv.kindOf y=some k->(k = .cell \/ k = .free)->∃ c,cenv.cells.lookup y=some c:=fun k hk hk'=>by
    unfold Env.kindOf at hk
    rw [hsc] at hk
    obtain ⟨k',e,r⟩:=Le hk
    have:k' = .cell \/ k' = .free:=by
     rcases r with rfl | ⟨rfl,_⟩
     ·exact hk'
     ·exact .inr rfl
    rcases this with rfl | rfl
    ·obtain ⟨c,hm⟩:=RD (n:=(s.heap.push { cls:=.type "dict",data:=.dict #[] }).objs.size) (acc:=Cm X.env.cells scope.names []) (PySem.mem_of_lookup e)
     obtain ⟨c',e'⟩:=mem_lookup hm
     exact ⟨c',by rw [hcl]; exact e'⟩
    ·obtain ⟨c,h1,_⟩:=look e
     exact ⟨c,h1⟩
   rcases hy with hy | hy
   ·exact key _ hy (.inl rfl)
   ·exact key _ hy (.inr rfl)
  ·have z:(scope.names.lookup y == some NameKind.cell)=true:=z
   have z:scope.names.lookup y=some .cell:=by simpa using z
   have e:cenv.cells.lookup y=some c:=e
   rw [hcl] at e
   rcases Jo (PySem.mem_of_lookup e) with hm | ⟨_,h2,_⟩
   ·rcases HW hm with hm | ⟨h1,_⟩
    ·cases hm
    ·have q:=ok.uniq _ h1
     rw [z] at q; cases q
   ·rw [Heap.size_push] at h2
    exact Nat.le_of_succ_le h2
  ·show b ≠ cenv.locals
   rw [hL]; exact Nat.ne_of_lt (hfp b hb).2
  ·have e:cenv.cells.lookup y=some c:=e
   rcases mem e with ⟨h1,_⟩ | ⟨h1,_⟩
   ·exact (hfp b hb).1.2.2.2.2.1 y c h1 z
   ·have h2:s.heap.objs.size + 1 <= b:=by rw [<- z]; exact h1
    exact absurd (Nat.lt_of_lt_of_le (hfp b hb).2 (Nat.le_of_succ_le h2)) (Nat.lt_irrefl _)
  ·rcases (hfp b hb).1.2.2.2.1 with z | z
   ·exact I.ok.af1 b o e z
   ·exact absurd (Nat.lt_of_lt_of_le (Heap.lt_size e) (Nat.le_trans I.ok.bsz z)) (Nat.lt_irrefl _)
  ·rcases List.mem_cons.mp (I.aci b z) with z | z
   ·exact (hfp b hb).1.2.1 z
   ·exact (hfp b hb).1.2.2.1 z
 refine ⟨okB,rfl,I.bare,Un.kept kp,⟨fun _=>none,?_,fun i y av e1 e2 e3=>?_⟩,fun y c e=>?_,?_,fun y c e=>?_,fun p hp=>?_,I.hok.kept kp,by rw [Km]; exact I.len⟩
 ·show Heap.Ns _ cenv.locals _
  rw [hL]
  exact Heap.Ns.keeps (Heap.Ns.new ..) fun b o e=>pushCells_keeps _ _ _ _ e
 ·obtain ⟨e2,hne⟩:=QG e2
  have hfr:scope.names.lookup y=some .free/\(cenv.kindOf y=some .cell \/ cenv.kindOf y=some .free):=by
   have key:∀ k,cenv.scope.names.lookup y=some k->k = .local \/ k = .cell \/ k = .free->scope.names.lookup y=some .free/\(cenv.kindOf y=some .cell \/ cenv.kindOf y=some .free):=fun k hk hk'=>by
    have hk0:=hk
    rw [hsc] at hk
    obtain ⟨k',e,r⟩:=Le hk
    have no:¬ (k' = .local \/ k' = .cell):=fun hh=>by
     rcases ok.own _ (PySem.mem_of_lookup e) hh with e' | e'
     ·obtain ⟨p,hp,hpy⟩:=List.mem_map.mp e'
      have e3:=ok.ix p hp
      have:p.1=y:=hpy
      rw [this] at e3
      exact hne (List.mem_map.mpr ⟨p,hp,V2 hN e3 e1⟩)
     ·exact e' (List.mem_of_getElem? e1)
    rcases r with rfl | ⟨rfl,rfl⟩
    ·rcases hk' with rfl | rfl | rfl
     ·exact absurd (.inl rfl) no
     ·exact absurd (.inr rfl) no
     ·exact ⟨e,.inr hk0⟩
    ·exact ⟨e,.inl hk0⟩
   have e3:Vis cenv.scope y:=e3
   rcases e3 with e3 | e3 | e3
   ·exact key _ e3 (.inl rfl)
   ·exact key _ e3 (.inr (.inl rfl))
   ·exact key _ e3 (.inr (.inr rfl))
  obtain ⟨m,hn,hl⟩:=I.loc
  have alD:Vis X.env.scope y:=(ok.free _ (PySem.mem_of_lookup hfr.1) rfl).elim (fun k=>.inr (.inl k)) (fun k=>.inr (.inr k))
  obtain ⟨w,r,q⟩:=hl i y av e1 e2 alD
  refine ⟨w,r,.inr ⟨hfr.2,?_⟩⟩
  obtain ⟨c,h1,h2⟩:=look hfr.1
  rcases q with ⟨k,_⟩ | ⟨_,c',e',z⟩
  ·have k:X.env.scope.names.lookup y=some .local:=k
   rcases ok.free _ (PySem.mem_of_lookup hfr.1) rfl with k' | k' <;> rw [show X.env.scope.names.lookup y=_ from k'] at k <;> cases k
  ·rw [h2] at e'; cases e'
   exact ⟨c,h1,z.keeps kp⟩
 ·have e:cenv.cells.lookup y=some c:=e
  rcases mem e with ⟨h1,_⟩ | ⟨_,z⟩
  ·obtain ⟨w,z⟩:=I.cell y c h1
   exact ⟨w,z.keeps kp⟩
  ·exact ⟨_,z⟩
 ·show H cenv.locals=none
  rw [hL]; exact I.hok.fresh (Nat.le_refl _)
 ·have e:cenv.cells.lookup y=some c:=e
  rcases mem e with ⟨h1,_⟩ | ⟨h1,_⟩
  ·exact I.Jl y c h1
  ·exact I.hok.fresh (Nat.le_of_succ_le h1)
 ·exact absurd (show p ∈ ([]:List (Addr × Obj)) ++ [] from hp) (by simp)
theorem ajC {E:Value->Shared->Prop} {D:Addr} {xs:List V} {y:V} {v:Value} {Q:Value->Shared->Prop} (I:Inv X pins σ H s) (hD:H D=some (.lst xs)) (hz:xs.length < sizeLine) (r:RelV y v)
  (h:∀ s',Inv X pins σ (upd H D (.lst (xs ++ [y]))) s'->Q .none s'):wpAny (model X.prog X.w) X.A (call (.builtin "list.append") [.ref D,v]) Q E s:=by
 obtain ⟨hz',its,n,ri,e⟩:=I.hok D _ hD
 have hl:=ri.length
 refine append_at (hsz:=by rw [List.size_toArray]; omega) e fun h' sb ho'=>?_
 refine h { s with heap:=h' } (I.write (t':=s.toks) (by rw [hD]; trivial) (.inl rfl) (fun b u hb q=>(sb.2 b hb).trans q) ⟨_,ho'⟩ ⟨by rw [List.length_append]; exact hz,its ++ [v],n + 1,ri.append (.cons r .nil),?_⟩)
 rw [ho']
 simp
def PTs (X:Cx) (ifs:List Expr) (t:TT):Prop :=
 ∀ (pins:List (Addr × Obj)) (s:Shared) (σ:St) (H:Hp) (Q:Bool->Hp->Prop),Inv X pins σ H s->t σ H Q ->
  wpAny (model X.prog X.w) X.A (forIn ifs true fun c r=>if r=true then do let ok <- isTrue c X.env (eval c X.env); pure (ForInStep.yield ok) else pure (ForInStep.yield r)) (TP X pins σ Q) X.xe s
def ajL:TT:=fun _ H Q=>Q true H
theorem JB:PTs X [] ajL:=fun _ _ _ H _ I h=>wpAny_tests_nil ⟨H,I,h⟩
theorem adD {c:Expr} {t:TT} (h:PT X c t):PTs X [c] t:=fun pins s σ H Q I hw=>wpAny_tests_one (h pins s σ H Q I hw)
end
theorem aei {α:Type} {t:Sem α} {Q Q':α->Shared->Prop} {M:Model} {A:Around} {E:Value->Shared->Prop} {s:Shared} (h:wpAny M A t Q (fun _ _=>False) s) (hQ:∀ a s,Q a s->Q' a s):wpAny M A t Q' E s:=wpAny_mono h hQ fun _ _ z=>False.elim z
theorem aan {prog:Program} {w:World} {A:Around} {R:Result->Shared->Prop} {s:Shared} {elt target iter:Expr} {ifs:List Expr} {scope:Scope} {pos:Pos} {it acc:Value} {env:Env} (I:Nat->Shared->Prop)
  (turn:∀ n s,I n s->wpAny (model prog w) A (pyNext it) (fun r s₁=>match r with
   | none=>R (.ok .next) s₁
   | some v=>wpAny (model prog w) A (letOwnedTupleGo target it v) (fun _ s₁'=>wpAny (model prog w) A (assign target env v) (fun _ s₂ =>
     wpAny (model prog w) A (forIn ifs true fun c r=>if r=true then do let ok <- isTrue c env (eval c env); pure (ForInStep.yield ok) else pure (ForInStep.yield r)) (fun ok s₃ =>
      if ok=true then wpAny (model prog w) A (eval elt env) (fun x s₄ =>
       wpAny (model prog w) A (call (.builtin "list.append") [acc,x]) (fun _ s₅=>∃ m,m < n/\I m s₅) (notedBy (model prog w) A env fun e s'=>R (.error e) s') s₄) (notedBy (model prog w) A env fun e s'=>R (.error e) s') s₃
      else ∃ m,m < n/\I m s₃) (notedBy (model prog w) A env fun e s'=>R (.error e) s') s₂) (notedBy (model prog w) A env fun e s'=>R (.error e) s') s₁') (notedBy (model prog w) A env fun e s'=>R (.error e) s') s₁) (notedBy (model prog w) A env fun e s'=>R (.error e) s') s)
  (n:Nat) (h:I n s) :
  codeAny (model prog w) A (.compLoop (.ListComp elt [⟨target,iter,ifs,0⟩] scope pos) 0 it acc env) R s:=by
 refine codeAny_loop rfl I (fun n s hI=>?_) n h
 show wpAny _ A ((compTurn (.ListComp elt [⟨target,iter,ifs,0⟩] scope pos) 0 it acc env).onRaise (fun x=>do noteFrame x env; theTreesLotGoes x)) _ _ s
 refine wpAny_noted ?_
 rw [compTurn_list]
 refine wpAny_bind (wpAny_standAt (wpAny_bind (wpAny_mono (turn n s hI) (fun r s₁ h₁=>?_) fun _ _ h'=>h')))
 cases r with
 | none=>exact wpAny_pure h₁
 | some v =>
  refine wpAny_bind (wpAny_mono h₁ (fun _ s₁' h₁'=>?_) fun _ _ h'=>h')
  refine wpAny_bind (wpAny_mono h₁' (fun _ s₂ h₂=>wpAny_bind (wpAny_mono h₂ (fun ok s₃ h₃=>?_) fun _ _ h'=>h')) fun _ _ h'=>h')
  cases ok with
  | false=>exact wpAny_pure ⟨rfl,h₃⟩
  | true =>
   exact wpAny_bind (wpAny_bind (wpAny_mono h₃ (fun x s₄ h₄=>wpAny_bind (wpAny_mono h₄ (fun _ s₅ h₅=>wpAny_pure (wpAny_pure ⟨rfl,h₅⟩)) fun _ _ h'=>h')) fun _ _ h'=>h'))
section
variable {X:Cx}
def tLc (wi:TI) (g:TG) (tt:TT) (te:TE) (vs:List Nat):TE:=fun σ H Q=>wi σ H fun J H1=>∀ D,H1 D=none->∃ W:Nat->Nat->Hp->Prop,(∃ m,W 0 m (upd H1 D (.lst [])))/\∀ i m H,W i m H ->
 (J.stop i H/\Q (.ref D) H) \/ (J.go i H/\∃ Nx:Hp->Prop,(∀ H',Nx H'->∃ m',m' < m/\W (i + 1) m' H')/\∀ x H',J.yld i H x H'->g x (wipe σ vs) H' fun σ2 H2=>wipe σ2 vs=wipe σ vs/\tt σ2 H2 fun b H3 =>
  if b=true then te σ2 H3 fun y H4=>∃ acc,H4 D=some (.lst acc)/\acc.length < sizeLine/\Nx (upd H4 D (.lst (acc ++ [y]))) else Nx H3)
theorem adK {pins:List (Addr × Obj)} {s:Shared} {σ:St} {H:Hp} {Q:VK} {elt tg iter:Expr} {ifs:List Expr} {scope:Scope} {own:List (Str × Nat)} {pos pos':Pos} {wi:TI} {g:TG} {tt:TT} {te:TE} {use:Option (Value->Sem Unit)} {Qf:Value->Shared->Prop}
  (hc:X.calm=true) (hN:X.N.Nodup) (I:Inv X pins σ H s) (hi:PI X tg iter wi) (ok:ab2 X.N X.env.scope scope own)
  (hg:∀ (s:Shared) (H:Hp) (C:Addr) (cl:List (Str × Addr)) (fp:List Addr),PG (X.blk s H scope (compEnvC scope cl C X.env) fp) tg g) (ht:∀ (s:Shared) (H:Hp) (C:Addr) (cl:List (Str × Addr)) (fp:List Addr),PTs (X.blk s H scope (compEnvC scope cl C X.env) fp) ifs tt)
  (he:∀ (s:Shared) (H:Hp) (C:Addr) (cl:List (Str × Addr)) (fp:List Addr),PE (X.blk s H scope (compEnvC scope cl C X.env) fp) elt te) (hs:∀ x,foldedSetIterable iter X.env x=pure x)
  (h:tLc wi g tt te (own.map (·.2)) σ H Q)
  (hRR:∀ D C s' m H',Inv X pins σ H' s'->Q (.ref D) H'->s'.heap.Ns C m->Xf X pins H' C->compPost (model X.prog X.w) X.A X.xe use Qf (.ref D) C (.ok .next) s') :
  wpAny (model X.prog X.w) X.A (comprehension (.ListComp elt [⟨tg,iter,ifs,0⟩] scope pos) scope X.env pos' (newList []) false (eval iter X.env) use) Qf X.xe s:=by
 have hfree:∀ y ∈ scope.names,y.2 = .free->∃ c,X.env.cells.lookup y.1=some c:=fun y hy e=>by
  rcases ok.free y hy e with k | k
  ·exact I.ok.has _ (.inl k)
  ·exact I.ok.has _ (.inr k)
 refine wpAny_comprehension_free (use:=use) rfl hs (adg hfree) ok.kind (fun y hy e=>by rw [ok.uniq y hy,e])
  (thn (hi pins s σ H _ I h) fun xv s1 hx=>thn hx fun itv s2 h2=>?_)
 obtain ⟨it,fp,tn,J,H2,e,I2,T,st2,f2,q⟩:=h2
 subst e
 refine wpAny_newObj_type (abf ?_) (by show 0 <= sizeLine; decide)
 generalize hD:s2.heap.objs.size=D
 have hDn:H2 D=none:=I2.hok.fresh (Nat.le_of_eq hD)
 obtain ⟨W,⟨m0,w0⟩,turn⟩:=q D hDn
 generalize hs3:({ s2 with heap:=s2.heap.push { cls:=.type "list",data:=.seq ([]:List Value).toArray } }:Shared)=s3
 have I3:Inv X pins σ (upd H2 D (.lst [])) s3:=by
  rw [<- hs3]
  refine I2.laid (t':=s2.toks) (fun b o e=>Heap.get?_push_of_some _ e) (Nat.le_of_eq hD) ⟨Nat.zero_le _,[],0,.nil,?_⟩
  rw [<- hD]
  exact Heap.get?_push_size _ rfl
 have h3:s3.heap=s2.heap.push { cls:=.type "list",data:=.seq ([]:List Value).toArray }:=by rw [<- hs3]
 have sz:∀ b ∈ fp,b < s2.heap.objs.size:=fun b hb=>by
  obtain ⟨o,e,_⟩:=T.obj _ _ st2 b hb
  exact Heap.lt_size e
 have f3:∀ b ∈ fp,Xf X pins (upd H2 D (.lst [])) b/\b < s3.heap.objs.size:=fun b hb=>by
  have hlt:=sz b hb
  refine ⟨⟨?_,(f2 b hb).2⟩,by rw [h3,Heap.size_push]; exact Nat.lt_succ_of_lt hlt⟩
  rw [Ah (by rw [<- hD]; exact Nat.ne_of_lt hlt)]
  exact (f2 b hb).1
 have st3:tn 0 s3.heap:=T.keep _ _ _ st2 fun b _ o e=>by rw [h3]; exact Heap.get?_push_of_some _ e
 have I4:=abU I3 ok hN f3
 have pg:=hg s3 (upd H2 D (.lst [])) s3.heap.objs.size (cellsFrom (s3.heap.objs.size + 1) scope.names (Cm X.env.cells scope.names [])) fp
 have pt:=ht s3 (upd H2 D (.lst [])) s3.heap.objs.size (cellsFrom (s3.heap.objs.size + 1) scope.names (Cm X.env.cells scope.names [])) fp
 have pe:=he s3 (upd H2 D (.lst [])) s3.heap.objs.size (cellsFrom (s3.heap.objs.size + 1) scope.names (Cm X.env.cells scope.names [])) fp
 show codeAny _ _ (.compStart (.ListComp elt [⟨tg,iter,ifs,0⟩] scope pos) 0 (.ref it) (.ref D) (compEnvC scope (cellsFrom (s3.heap.objs.size + 1) scope.names (Cm X.env.cells scope.names [])) s3.heap.objs.size X.env)) (compPost (model X.prog X.w) X.A X.xe use Qf (.ref D) s3.heap.objs.size) { s3 with heap:=pushCells (s3.heap.push { cls:=.type "dict",data:=.dict #[] }) scope.names }
 have nfp:∀ b ∈ fp,(upd H2 D (.lst [])) b=none:=fun b hb=>(f3 b hb).1.1
 generalize hce:compEnvC scope (cellsFrom (s3.heap.objs.size + 1) scope.names (Cm X.env.cells scope.names [])) s3.heap.objs.size X.env=ce at I4 pg pt pe ⊢
 have cL:ce.locals=s3.heap.objs.size:=by subst hce; rfl
 generalize hH3:upd H2 D (.lst [])=H3 at I3 I4 pg pt pe w0 nfp f3
 generalize hs4:({ s3 with heap:=pushCells (s3.heap.push { cls:=.type "dict",data:=.dict #[] }) scope.names }:Shared)=s4 at I4 ⊢
 have st4:tn 0 s4.heap:=T.keep _ _ _ st3 fun b _ o e=>by rw [<- hs4]; exact pushCells_keeps _ _ _ _ (Heap.get?_push_of_some _ e)
 have stat:∀ {σ':St} {H':Hp} {s':Shared},Inv (X.blk s3 H3 scope ce fp) [] σ' H' s'->(∀ b ∈ fp,H' b=none)->∀ b ∈ fp,Xf (X.blk s3 H3 scope ce fp) [] H' b:=fun {σ' H' s'} I' hn b hb =>
  ⟨hn b hb,(I'.ok.exf b hb).1,I'.ok.agu b hb,.inl hb,fun x c e=>(I'.ok.exf b hb).2 x c e,fun p hp=>absurd (show p ∈ ([]:List (Addr × Obj)) ++ [] from hp) (by simp)⟩
 have loop:codeAny (model X.prog X.w) X.A (.compLoop (.ListComp elt [⟨tg,iter,ifs,0⟩] scope pos) 0 (.ref it) (.ref D) ce) (compPost (model X.prog X.w) X.A X.xe use Qf (.ref D) s3.heap.objs.size) s4:=by
  refine aan (fun n s'=>∃ i H',Inv (X.blk s3 H3 scope ce fp) [] (wipe σ (own.map (·.2))) H' s'/\tn i s'.heap/\(∀ b ∈ fp,H' b=none)/\W i n H') ?_ m0 ⟨0,H3,I4,st4,nfp,w0⟩
  rintro n s5 ⟨i,H5,I5,st5,n5,w5⟩
  rcases turn i n H5 w5 with ⟨stop,qq⟩ | ⟨go,Nx,hNx,step⟩
  ·have td:=T.done (X.blk s3 H3 scope ce fp) rfl rfl rfl hc i [] s5 _ H5 (fun _ _=>False) I5 (stat I5 n5) st5 stop
   refine aei td fun r s6 ⟨hr,I6⟩=>?_
   subst hr
   have I7:Inv X pins σ H5 s6:=I3.call' (ch:=fp) I6.os I6.base I6.hok I6.bare fun b hb=>⟨(f3 b hb).1.2.2.2.1,(f3 b hb).1.2.1,(f3 b hb).1.2.2.2.2.1,(f3 b hb).1.2.2.2.2.2⟩
   have nC:H5 s3.heap.objs.size=none:=by
    have z:H5 ce.locals=none:=I6.free
    rw [cL] at z
    exact z
   obtain ⟨m,hn,_⟩:=I6.loc
   have hn:s6.heap.Ns ce.locals m:=hn
   rw [cL] at hn
   exact hRR D s3.heap.objs.size s6 m H5 I7 qq hn (I3.ac3 (Nat.le_refl _) nC)
  ·have ti:=T.item (X.blk s3 H3 scope ce fp) rfl rfl rfl hc i [] s5 _ H5 (fun _ _=>False) I5 (stat I5 n5) st5 go
   refine aei ti fun r s6 ⟨u,hr,h6⟩=>?_
   subst hr
   refine aei h6 fun _ s7 ⟨x,H7,I7,r7,y7,st7,n7⟩=>?_
   have I7':=I7.pinned (stat I7 n7) (T.obj _ _ st7)
   refine aei (pg _ s7 _ H7 x u _ I7' r7 (step x H7 y7)) fun _ s8 ⟨σ8,H8,I8,hw8,q8⟩=>?_
   refine aei (pt _ s8 σ8 H8 _ I8 q8) fun b s9 ⟨H9,I9,q9⟩=>?_
   have fin:∀ {s':Shared} {H':Hp},Inv (X.blk s3 H3 scope ce fp) ([] ++ VH fp s7.heap) σ8 H' s'->Nx H'->∃ m,m < n/\∃ i H',Inv (X.blk s3 H3 scope ce fp) [] (wipe σ (own.map (·.2))) H' s'/\tn i s'.heap/\(∀ b ∈ fp,H' b=none)/\W i m H':=fun {s' H'} I' nx=>by
    obtain ⟨m',hm,w'⟩:=hNx H' nx
    have aj7:∀ b ∈ fp,∀ o,s7.heap.get? b=some o->s'.heap.get? b=some o/\H' b=none:=fun b hb o e =>
     let z:=I'.pin (b,o) (List.mem_append_right _ (List.mem_append_right _ (Om hb e)))
     ⟨z.1,z.2.1⟩
    have hl:(wipe σ (own.map (·.2))).length=σ8.length:=by rw [<- hw8,Km]
    refine ⟨m',hm,i + 1,H',(I'.O7 (pins:=[])).weak hl (fun j v e=>?_),T.keep _ _ _ st7 fun b hb o e=>(aj7 b hb o e).1,fun b hb=>?_,w'⟩
    ·rw [<- hw8] at e
     exact (QG e).1
    ·obtain ⟨o,e,_⟩:=T.obj _ _ st7 b hb
     exact (aj7 b hb o e).2
   cases b with
   | false =>
    simp only [Bool.false_eq_true,if_false] at q9 ⊢
    exact fin I9 q9
   | true =>
    simp only [if_true] at q9 ⊢
    refine aei (pe _ s9 σ8 H9 _ I9 q9) fun z s10 ⟨yv,H10,I10,r10,acc,alX,alB,nx⟩=>?_
    exact ajC (X:=X.blk s3 H3 scope ce fp) I10 alX alB r10 fun s11 I11=>fin I11 nx
 exact codeAny_compStart_list loop (T.self X.A 0 _ _ _ st4 loop)
theorem YC {elt tg iter:Expr} {ifs:List Expr} {scope:Scope} {own:List (Str × Nat)} {pos:Pos} {wi:TI} {g:TG} {tt:TT} {te:TE} (hc:X.calm=true) (hN:X.N.Nodup) (hi:PI X tg iter wi) (ok:ab2 X.N X.env.scope scope own)
  (hg:∀ (s:Shared) (H:Hp) (C:Addr) (cl:List (Str × Addr)) (fp:List Addr),PG (X.blk s H scope (compEnvC scope cl C X.env) fp) tg g) (ht:∀ (s:Shared) (H:Hp) (C:Addr) (cl:List (Str × Addr)) (fp:List Addr),PTs (X.blk s H scope (compEnvC scope cl C X.env) fp) ifs tt)
  (he:∀ (s:Shared) (H:Hp) (C:Addr) (cl:List (Str × Addr)) (fp:List Addr),PE (X.blk s H scope (compEnvC scope cl C X.env) fp) elt te) (hs:∀ x,foldedSetIterable iter X.env x=pure x:=by intro _; rfl) :
  PE X (.ListComp elt [⟨tg,iter,ifs,0⟩] scope pos) (tLc wi g tt te (own.map (·.2))):=by
 intro pins s σ H Q I h
 rw [eval_ListComp]
 refine adK hc hN I hi ok hg ht he hs h fun D C s' m H' I' q hn f=>⟨m,hn,fun h'' sb=>?_⟩
 obtain ⟨f0,f1,f2,f3,f4,f5⟩:=f
 exact ⟨.ref D,H',I'.turned (t':=s'.toks) (fun b o hb e=>(sb.2 b hb).trans e) f0 f1 f3 f4 f5,rfl,q⟩
theorem VG {i:Nat} {y:Str} {py:Pos} {elt tg iter:Expr} {ifs:List Expr} {scope:Scope} {own:List (Str × Nat)} {pos spos:Pos} {wi:TI} {g:TG} {tt:TT} {te:TE} (hc:X.calm=true) (hN:X.N.Nodup) (hy:X.N[i]? = some y) (hyl:X.env.scope.names.lookup y=some .local)
  (hsw:swapsWith (.ListComp elt [⟨tg,iter,ifs,0⟩] scope pos) (some (.Name y py)) spos.line X.env=pure true) (hi:PI X tg iter wi) (ok:ab2 X.N X.env.scope scope own)
  (hg:∀ (s:Shared) (H:Hp) (C:Addr) (cl:List (Str × Addr)) (fp:List Addr),PG (X.blk s H scope (compEnvC scope cl C X.env) fp) tg g) (ht:∀ (s:Shared) (H:Hp) (C:Addr) (cl:List (Str × Addr)) (fp:List Addr),PTs (X.blk s H scope (compEnvC scope cl C X.env) fp) ifs tt)
  (he:∀ (s:Shared) (H:Hp) (C:Addr) (cl:List (Str × Addr)) (fp:List Addr),PE (X.blk s H scope (compEnvC scope cl C X.env) fp) elt te) (hs:∀ x,foldedSetIterable iter X.env x=pure x:=by intro _; rfl) :
  PS X (.Assign [.Name y py] (.ListComp elt [⟨tg,iter,ifs,0⟩] scope pos) spos) (aiw (tLc wi g tt te (own.map (·.2))) (S9 i)):=by
 intro pins s σ H D I h
 rw [exec_Assign_Name_used _ _ _ _ hsw]
 refine wpAny_bind (wpAny_standAt (wpAny_bind ?_))
 show wpAny _ X.A (do let _ <- comprehension (.ListComp elt [⟨tg,iter,ifs,0⟩] scope pos) scope X.env (firstIterPos [⟨tg,iter,ifs,0⟩] pos) (newList []) false (eval iter X.env) (some (assign (.Name y py) X.env))) _ _ s
 have h:tLc wi g tt te (own.map (·.2)) σ H (fun x H1=>S9 i x σ H1 D.nx):=h
 refine wpAny_bind (thn (adK (Qf:=fun _ s'=>SP X pins D .next s') hc hN I hi ok hg ht he hs h fun L C s' m H' I' q hn f=>?_) fun _ s' hq=>wpAny_pure (wpAny_pure hq))
 show wpAny _ _ (assign (.Name y py) X.env (.ref L)) _ _ _
 refine wpAny_assign_Name (Yp (v:=V.ref L) I' hN hy (.inl hyl) rfl (fun s2 I2 ⟨a,sb,ha⟩=>?_) (.inr hyl))
 obtain ⟨f0,f1,f2,f3,f4,f5⟩:=f
 have haC:C ≠ a:=by
  rcases ha with z | z
  ·rw [z]; exact f1
  ·exact fun e=>f4 y a z e.symm
 refine ⟨m,hn.sameBut sb haC,fun h3 sb3=>?_⟩
 exact ⟨_,H',I2.turned (t':=s2.toks) (fun b o hb e=>(sb3.2 b hb).trans e) f0 f1 f3 f4 f5,q⟩
theorem ZG {elt:Expr} {gs:List Comprehension} {scope:Scope} {pos py:Pos} {y:Str} {l:Nat} {env:Env} (hk:env.scope.kind = .function) (hy:env.scope.names.lookup y=some .local) (hl:(py.line == pos.line)=true)
  (ha:(scope.names.any fun (n,k)=>n == y && (k == .local || k == .cell))=false):swapsWith (.ListComp elt gs scope pos) (some (.Name y py)) l env=pure true:=by
 have ky:env.kindOf y=some .local:=hy
 have hb:env.blockKind = .function:=by unfold Env.blockKind; rw [hk]; rfl
 unfold swapsWith
 simp only [hb,ky,ha,Expr.pos,hl]
 rfl
end
theorem Z8 {K:PySem.W.Frag} {a:Addr} {xs:List V} {g:TG} {tt:TT} {te:TE} {vs:List Nat} {σ:St} {H1:Hp} {D:Addr} {Qd:Hp->Prop} (Pv:Nat->Hp->Prop) (h0:Pv 0 (upd H1 D (.lst []))) (hl:∀ i H,i <= xs.length->Pv i H->SqL K H a xs)
  (hs:∀ i x H,xs[i]? = some x->Pv i H->g x (wipe σ vs) H fun σ2 H2=>wipe σ2 vs=wipe σ vs/\tt σ2 H2 fun b H3 =>
   if b=true then te σ2 H3 fun y H4=>∃ acc,H4 D=some (.lst acc)/\acc.length < sizeLine/\Pv (i + 1) (upd H4 D (.lst (acc ++ [y]))) else Pv (i + 1) H3) (hd:∀ H,Pv xs.length H->Qd H) :
  ∃ W:Nat->Nat->Hp->Prop,(∃ m,W 0 m (upd H1 D (.lst [])))/\∀ i m H,W i m H ->
   ((Itl K a).stop i H/\Qd H) \/ ((Itl K a).go i H/\∃ Nx:Hp->Prop,(∀ H',Nx H'->∃ m',m' < m/\W (i + 1) m' H')/\∀ x H',(Itl K a).yld i H x H'->g x (wipe σ vs) H' fun σ2 H2=>wipe σ2 vs=wipe σ vs/\tt σ2 H2 fun b H3 =>
    if b=true then te σ2 H3 fun y H4=>∃ acc,H4 D=some (.lst acc)/\acc.length < sizeLine/\Nx (upd H4 D (.lst (acc ++ [y]))) else Nx H3):=by
 refine ⟨fun i m H=>m=xs.length - i/\i <= xs.length/\Pv i H,⟨xs.length,by simp,Nat.zero_le _,h0⟩,?_⟩
 rintro i m H ⟨rfl,hi,p⟩
 have q:=hl i H hi p
 by_cases hlt:i < xs.length
 ·refine .inr ⟨⟨xs,xs[i],q,by simp [hlt]⟩,Pv (i + 1),fun H' p'=>⟨xs.length - (i + 1),by omega,rfl,hlt,p'⟩,fun x H' y=>?_⟩
  obtain ⟨e,y⟩:=y
  subst e
  exact hs i x _ (y xs q) p
 ·have e:i=xs.length:=by omega
  subst e
  exact .inl ⟨⟨xs,q,Nat.le_refl _⟩,hd H p⟩
theorem ai0 {K:PySem.W.Frag} {a:Addr} {xs:List V} {g:TG} {tt:TT} {te:TE} {vs:List Nat} {σ:St} {H1:Hp} {D:Addr} {Qd:Hp->Prop} (Pv:Nat->Hp->Prop) (h0:Pv 0 (upd H1 D (.lst []))) (hl:∀ i H,i <= xs.length->Pv i H->SqT K H a xs)
  (hs:∀ i x H,xs[i]? = some x->Pv i H->g x (wipe σ vs) H fun σ2 H2=>wipe σ2 vs=wipe σ vs/\tt σ2 H2 fun b H3 =>
   if b=true then te σ2 H3 fun y H4=>∃ acc,H4 D=some (.lst acc)/\acc.length < sizeLine/\Pv (i + 1) (upd H4 D (.lst (acc ++ [y]))) else Pv (i + 1) H3) (hd:∀ H,Pv xs.length H->Qd H) :
  ∃ W:Nat->Nat->Hp->Prop,(∃ m,W 0 m (upd H1 D (.lst [])))/\∀ i m H,W i m H ->
   ((Itt K a).stop i H/\Qd H) \/ ((Itt K a).go i H/\∃ Nx:Hp->Prop,(∀ H',Nx H'->∃ m',m' < m/\W (i + 1) m' H')/\∀ x H',(Itt K a).yld i H x H'->g x (wipe σ vs) H' fun σ2 H2=>wipe σ2 vs=wipe σ vs/\tt σ2 H2 fun b H3 =>
    if b=true then te σ2 H3 fun y H4=>∃ acc,H4 D=some (.lst acc)/\acc.length < sizeLine/\Nx (upd H4 D (.lst (acc ++ [y]))) else Nx H3):=by
 refine ⟨fun i m H=>m=xs.length - i/\i <= xs.length/\Pv i H,⟨xs.length,by simp,Nat.zero_le _,h0⟩,?_⟩
 rintro i m H ⟨rfl,hi,p⟩
 have q:=hl i H hi p
 by_cases hlt:i < xs.length
 ·refine .inr ⟨⟨xs,xs[i],q,by simp [hlt]⟩,Pv (i + 1),fun H' p'=>⟨xs.length - (i + 1),by omega,rfl,hlt,p'⟩,fun x H' y=>?_⟩
  obtain ⟨e,y⟩:=y
  subst e
  exact hs i x _ (y xs q) p
 ·have e:i=xs.length:=by omega
  subst e
  exact .inl ⟨⟨xs,q,Nat.le_refl _⟩,hd H p⟩
def WY (N:List Str) (sc scope:Scope) (own:List (Str × Nat)):Bool :=
 (match scope.kind with | .function=>true | _=>false) && (scope.names.all fun y=>decide (scope.names.lookup y.1=some y.2)) && (own.all fun p=>decide (N[p.2]? = some p.1)) &&
  (scope.names.all fun y=>match y.2 with
   | .free=>(match sc.names.lookup y.1 with | some .cell=>true | some .free=>true | _=>false)
   | .local=>decide (y.1 ∈ own.map (·.1)) || decide (y.1 ∉ N)
   | .cell=>decide (y.1 ∈ own.map (·.1)) || decide (y.1 ∉ N)
   | _=>true)
theorem Gi {N:List Str} {sc scope:Scope} {own:List (Str × Nat)} (h:WY N sc scope own=true):ab2 N sc scope own:=by
 unfold WY at h
 simp only [Bool.and_eq_true,List.all_eq_true,decide_eq_true_eq] at h
 obtain ⟨⟨⟨h1,h2⟩,h3⟩,h4⟩:=h
 refine ⟨?_,h2,h3,fun y hy e=>?_,fun y hy e=>?_⟩
 ·split at h1
  ·assumption
  ·cases h1
 ·have q:=h4 y hy
  simp only [e] at q
  split at q <;> first | exact .inl (by assumption) | exact .inr (by assumption) | cases q
 ·have q:=h4 y hy
  rcases e with e | e <;> (simp only [e,Bool.or_eq_true,decide_eq_true_eq] at q; exact q)
section
variable {κ:Type} [DecidableEq κ]
def Er (kvs:List (κ × V)) (k:κ):Option V:=(kvs.find? fun kv=>decide (kv.1=k)).map (·.2)
def putK (kvs:List (κ × V)) (k:κ) (v:V):List (κ × V) :=
 if (kvs.any fun kv=>decide (kv.1=k))=true then kvs.map (fun kv=>if kv.1=k then (kv.1,v) else kv) else kvs ++ [(k,v)]
theorem CW {p:κ × V} {r:List (κ × V)} {k:κ} (e:p.1=k):Er (p :: r) k=some p.2:=by simp [Er,List.find?_cons,e]
theorem CZ {p:κ × V} {r:List (κ × V)} {k:κ} (e:¬ p.1=k):Er (p :: r) k=Er r k:=by simp [Er,List.find?_cons,e]
theorem Ip (k:κ):∀ kvs:List (κ × V),(kvs.any fun kv=>decide (kv.1=k))=(Er kvs k).isSome
 | []=>rfl
 | p :: r=>by
  rw [List.any_cons]
  by_cases e:p.1=k
  ·simp only [CW e,decide_eq_true e,Bool.true_or,Option.isSome_some]
  ·rw [CZ e,decide_eq_false e,Bool.false_or]; exact Ip k r
theorem aaH (k j:κ) (y:V):∀ kvs:List (κ × V),Er (kvs.map fun kv=>if kv.1=k then (kv.1,y) else kv) j=(Er kvs j).map fun x=>if j=k then y else x
 | []=>rfl
 | p :: r=>by
  have ih:=aaH k j y r
  rw [List.map_cons]
  by_cases h:p.1=k
  ·rw [if_pos h]
   by_cases e:p.1=j
   ·rw [CW (p:=(p.1,y)) e,CW e,Option.map_some,if_pos (e.symm.trans h)]
   ·rw [CZ (p:=(p.1,y)) e,CZ e,ih]
  ·rw [if_neg h]
   by_cases e:p.1=j
   ·rw [CW (p:=p) e,CW e,Option.map_some,if_neg (fun z=>h (e.trans z))]
   ·rw [CZ (p:=p) e,CZ e,ih]
theorem Yc (k j:κ) (y:V):∀ kvs:List (κ × V),Er kvs k=none->Er (kvs ++ [(k,y)]) j=if j=k then some y else Er kvs j
 | [],_=>by
  by_cases e:k=j
  ·rw [if_pos e.symm]; exact CW (p:=(k,y)) e
  ·rw [if_neg (fun z=>e z.symm)]; exact CZ (p:=(k,y)) e
 | p :: r,hn=>by
  rw [List.cons_append]
  have hk:¬ p.1=k:=fun z=>by rw [CW z] at hn; cases hn
  rw [CZ hk] at hn
  have ih:=Yc k j y r hn
  by_cases e:p.1=j
  ·rw [CW e,CW e,if_neg (fun z=>hk (e.trans z))]
  ·rw [CZ e,CZ e,ih]
theorem aft (kvs:List (κ × V)) (k j:κ) (y:V):Er (putK kvs k y) j=if j=k then some y else Er kvs j:=by
 unfold putK
 by_cases a:(kvs.any fun kv=>decide (kv.1=k))=true
 ·rw [if_pos a,aaH]
  rw [Ip] at a
  by_cases e:j=k
  ·obtain ⟨x,hx⟩:=Option.isSome_iff_exists.mp a
   rw [if_pos e,e,hx,Option.map_some,if_pos rfl]
  ·rw [if_neg e]
   cases Er kvs j with
   | none=>rfl
   | some x=>rw [Option.map_some,if_neg e]
 ·rw [if_neg a]
  refine Yc k j y kvs ?_
  rw [Ip] at a
  cases q:Er kvs k with
  | none=>rfl
  | some x=>rw [q] at a; exact (a rfl).elim
theorem Lh (kvs:List (κ × V)) (k:κ) (v:V):(putK kvs k v).length <= kvs.length + 1:=by
 unfold putK
 split
 ·rw [List.length_map]; omega
 ·rw [List.length_append,List.length_cons,List.length_nil]; omega
theorem VF {kvs:List (κ × V)} {k:κ} (v:V) (h:Er kvs k=none):putK kvs k v=kvs ++ [(k,v)]:=by
 unfold putK
 rw [Ip,h]
 exact if_neg (by decide)
theorem OD.Jj {o:Option V} {u:Option Value} (r:OD o u):o.isSome=u.isSome:=by
 cases o with
 | none=>cases u with
  | none=>rfl
  | some _=>exact (show False from r).elim
 | some _=>cases u with
  | none=>exact (show False from r).elim
  | some _=>rfl
theorem OD.getD {o:Option V} {u:Option Value} {d:V} {d':Value} (r:OD o u) (rd:RelV d d'):RelV (o.getD d) (u.getD d'):=by
 cases o with
 | none=>cases u with
  | none=>exact rd
  | some _=>exact (show False from r).elim
 | some _=>cases u with
  | none=>exact (show False from r).elim
  | some _=>exact r
theorem KV.val {kvs:List (κ × V)} {vs:List (κ × Value)} (r:KV kvs vs) (k:κ):OD (Er kvs k) (valueAt vs k):=by
 unfold KV at r
 induction r with
 | nil=>exact True.intro
 | @cons p q ps qs h t ih =>
  obtain ⟨h1,h2⟩:=h
  by_cases e:p.1=k
  ·have e':q.1=k:=h1.symm.trans e
   have b:valueAt (q :: qs) k=some q.2:=by simp [valueAt,List.find?_cons,e']
   rw [CW e,b]; exact h2
  ·have e':¬ q.1=k:=fun z=>e (h1.trans z)
   have b:valueAt (q :: qs) k=valueAt qs k:=by simp [valueAt,List.find?_cons,e']
   rw [CZ e,b]; exact ih
theorem KV.any {kvs:List (κ × V)} {vs:List (κ × Value)} (r:KV kvs vs) (k:κ):(kvs.any fun kv=>decide (kv.1=k))=vs.any fun kv=>decide (kv.1=k):=by
 unfold KV at r
 induction r with
 | nil=>rfl
 | cons h t ih=>rw [List.any_cons,List.any_cons,ih,h.1]
theorem KV.repl {kvs:List (κ × V)} {vs:List (κ × Value)} (r:KV kvs vs) (k:κ) {y:V} {u:Value} (ry:RelV y u) :
  KV (kvs.map fun kv=>if kv.1=k then (kv.1,y) else kv) (vs.map fun kv=>if kv.1=k then (kv.1,u) else kv):=by
 unfold KV at r ⊢
 induction r with
 | nil=>exact .nil
 | @cons p q ps qs h t ih =>
  rw [List.map_cons,List.map_cons]
  refine .cons ?_ ih
  obtain ⟨h1,h2⟩:=h
  by_cases e:p.1=k
  ·rw [if_pos e,if_pos (h1.symm.trans e)]; exact ⟨h1,ry⟩
  ·rw [if_neg e,if_neg (fun z=>e (h1.trans z))]; exact ⟨h1,h2⟩
theorem KV.put {kvs:List (κ × V)} {vs:List (κ × Value)} (r:KV kvs vs) (k:κ) {y:V} {u:Value} (ry:RelV y u):KV (putK kvs k y) (stored vs k u):=by
 unfold putK stored
 rw [r.any k]
 by_cases e:(vs.any fun kv=>decide (kv.1=k))=true
 ·rw [if_pos e,if_pos e]; exact r.repl k ry
 ·rw [if_neg e,if_neg e]; exact Paired.snoc r ⟨rfl,ry⟩
theorem KV.length {kvs:List (κ × V)} {vs:List (κ × Value)} (r:KV kvs vs):kvs.length=vs.length:=Paired.length r
end
theorem Wn {P:Program} {w:World} {k:Key} {u:Value} (r:RelV (kV k) u):(CT P w).is k u=true:=by
 cases k with
 | inl i=>obtain ⟨t,e⟩:=(show ∃ t,u=Value.int i t from r); subst e; exact abj P w i t
 | inr x=>obtain ⟨t,e⟩:=(show ∃ t,u=Value.str x t from r); subst e; exact abi P w x t
theorem Y8 {P:Program} {w:World}:∀ {ks:List Key} {us:List Value},Vals (ks.map kV) us->ItemsAre (CT P w) ks us
 | [],_,r=>by rw [List.map_nil] at r; cases r; exact .nil
 | k :: ks,_,r=>by
  rw [List.map_cons] at r
  cases r with
  | cons h t=>exact .cons (Wn h) (Y8 t)
abbrev KT (H:Hp):List (List Key × V)->List (List Key × Addr × Value)->Prop:=Paired fun p q=>p.1=q.1/\H q.2.1=some (.tup (p.1.map kV))/\RelV p.2 q.2.2
theorem KT.val {H:Hp} {kvs:List (List Key × V)} {xs:List (List Key × Addr × Value)} (r:KT H kvs xs) (k:List Key):OD (Er kvs k) ((atKey xs k).map (·.2)):=by
 induction r with
 | nil=>exact True.intro
 | @cons p q ps qs h t ih =>
  obtain ⟨h1,_,h2⟩:=h
  by_cases e:p.1=k
  ·have e':q.1=k:=h1.symm.trans e
   have b:atKey (q :: qs) k=some q.2:=by simp [atKey,List.find?_cons,e']
   rw [CW e,b]; exact h2
  ·have e':¬ q.1=k:=fun z=>e (h1.trans z)
   have b:atKey (q :: qs) k=atKey qs k:=by simp [atKey,List.find?_cons,e']
   rw [CZ e,b]; exact ih
theorem KT.repl {H:Hp} {kvs:List (List Key × V)} {xs:List (List Key × Addr × Value)} (r:KT H kvs xs) (k:List Key) {y:V} {u:Value} (ry:RelV y u) :
  KT H (kvs.map fun kv=>if kv.1=k then (kv.1,y) else kv) (xs.map (putAt k u)):=by
 induction r with
 | nil=>exact .nil
 | @cons p q ps qs h t ih =>
  rw [List.map_cons,List.map_cons]
  refine .cons ?_ ih
  obtain ⟨h1,h2,h3⟩:=h
  unfold putAt
  by_cases e:p.1=k
  ·rw [if_pos e,if_pos (h1.symm.trans e)]; exact ⟨h1,h2,ry⟩
  ·rw [if_neg e,if_neg (fun z=>e (h1.trans z))]; exact ⟨h1,h2,h3⟩
theorem KT.put {H:Hp} {kvs:List (List Key × V)} {xs:List (List Key × Addr × Value)} (r:KT H kvs xs) (k:List Key) {b:Addr} {y:V} {u:Value} (hb:H b=some (.tup (k.map kV))) (ry:RelV y u) :
  KT H (putK kvs k y) (storedH xs k b u):=by
 have e:(kvs.any fun kv=>decide (kv.1=k))=(atKey xs k).isSome:=by
  rw [Ip,(r.val k).Jj,Option.isSome_map]
 unfold putK storedH
 rw [e]
 by_cases q:(atKey xs k).isSome=true
 ·rw [if_pos q,if_pos q]; exact r.repl k ry
 ·rw [if_neg q,if_neg q]; exact Paired.snoc r ⟨rfl,hb,ry⟩
theorem KT.keeps {H H':Hp} {kvs:List (List Key × V)} {xs:List (List Key × Addr × Value)} (r:KT H kvs xs) (ht:∀ b ys,H b=some (.tup ys)->H' b=some (.tup ys)):KT H' kvs xs :=
 Paired.aiV r fun _ _ z=>⟨z.1,ht _ _ z.2.1,z.2.2⟩
section
variable {P:Program} {w:World} {H:Hp} {h:Heap} {a:Addr}
theorem ah6 {u:HO} (ok:HOk P w H h) (e:Rd H a u):Ds P w H h a u:=e.ok ok
theorem Tj {kvs:List (Key × V)} (ok:HOk P w H h) (e:Rd H a (.dK kvs)):kvs.length <= sizeLine/\(a == sysModules)=false/\∃ vs,KV kvs vs/\h.DictOf (CT P w) a vs :=
 show Ds P w H h a (.dK kvs) from ah6 ok e
theorem akN {kvs:List (Key × V)} (ok:HOk P w H h) (e:H a=some (.dK kvs)):kvs.length <= sizeLine/\(a == sysModules)=false/\∃ vs,KV kvs vs/\h.DictOf (CT P w) a vs:=Tj ok (.inl e)
theorem Li {ks:List Key} (ok:HOk P w H h) (e:H a=some (.tup (ks.map kV))):(tupleKind (CT P w)).is h ks a:=by
 obtain ⟨_,its,r,o,h1,h2,n,h3⟩:=(show Ds P w H h a (.tup (ks.map kV)) from ok a _ e)
 exact ⟨o,its.toArray,n,h1,h2,h3,by simpa using Y8 r⟩
theorem Te {kvs:List (List Key × V)} (ok:HOk P w H h) (e:Rd H a (.dT kvs)):kvs.length <= sizeLine/\(a == sysModules)=false /\
  ∃ xs,KT H kvs xs/\h.DictOfH (tupleKind (CT P w)) a xs:=by
 obtain ⟨z,y,xs,r,o,es,ep,h1,h2,h3,h4,h5⟩:=(show Ds P w H h a (.dT kvs) from ah6 ok e)
 refine ⟨z,y,xs,r,o,es,ep,h1,h2,h3,h4,fun x hx=>?_,h5⟩
 have all:∀ {l:List (List Key × V)} {m:List (List Key × Addr × Value)},KT H l m->∀ x ∈ m,(tupleKind (CT P w)).is h x.1 x.2.1:=by
  intro l m q
  induction q with
  | nil=>intro x hx; exact nomatch hx
  | @cons p q ps qs hq t ih =>
   intro x hx
   rcases List.mem_cons.mp hx with e | hx
   ·subst e
    exact Li ok (by rw [<- hq.1]; exact hq.2.1)
   ·exact ih x hx
 exact all r x hx
theorem aif {kvs:List (List Key × V)} (ok:HOk P w H h) (e:H a=some (.dT kvs)):kvs.length <= sizeLine/\(a == sysModules)=false /\
  ∃ xs,KT H kvs xs/\h.DictOfH (tupleKind (CT P w)) a xs:=Te ok (.inl e)
end
def Xh (H:Hp) (a:Addr) (y:V) (r:Option V):Prop :=
 (∃ kvs k,Rd H a (.dK kvs)/\y=kV k/\r=Er kvs k) \/ ∃ kvs k b,Rd H a (.dT kvs)/\y = .ref b/\H b=some (.tup (k.map kV))/\r=Er kvs k
def Uq (H:Hp) (a:Addr) (y v:V) (H':Hp):Prop :=
 (∃ kvs k,H a=some (.dK kvs)/\y=kV k/\kvs.length < sizeLine/\H'=upd H a (.dK (putK kvs k v))) \/
 ∃ kvs k b,H a=some (.dT kvs)/\y = .ref b/\H b=some (.tup (k.map kV))/\kvs.length < sizeLine/\H'=upd H a (.dT (putK kvs k v))
theorem Uq.t {H:Hp} {a b:Addr} {kvs:List (List Key × V)} {k:List Key} {v:V} (e:H a=some (.dT kvs)) (eb:H b=some (.tup (k.map kV))) (hl:kvs.length < sizeLine) :
  Uq H a (.ref b) v (upd H a (.dT (putK kvs k v))):=.inr ⟨kvs,k,b,e,rfl,eb,hl,rfl⟩
section
variable {X:Cx} {pins:List (Addr × Obj)} {σ:St} {H:Hp} {s:Shared} {a:Addr} {y v:V} {u r:Value} {o:Option V} {A:Around} {E:Value->Shared->Prop}
theorem Inv.big (I:Inv X pins σ H s):sysModules < s.heap.objs.size:=by
 have h:mainGlobals < s.heap.objs.size:=(I.mod.glob.keeps I.bk).lt
 exact Nat.lt_trans (by decide) h
theorem ae6 {Q:Value->Shared->Prop} (hu:A.units + 1 < cLine) (I:Inv X pins σ H s) (g:Xh H a y (some v)) (ry:RelV y u) (h:∀ w' s',Inv X pins σ H s'->RelV v w'->Q w' s') :
  wpAny (model X.prog X.w) A (getItem (.ref a) u) Q E s:=by
 rcases g with ⟨kvs,k,e,ey,l⟩ | ⟨kvs,k,b,e,ey,eb,l⟩
 ·subst ey
  obtain ⟨z,hd,vs,rel,dd⟩:=Tj I.hok e
  obtain ⟨w',hw,rw'⟩:=OD.some_of (v:=v) (o:=valueAt vs k) (by rw [l]; exact rel.val k)
  exact wpAny_getItem_of (Wn ry) dd.mapOf hw (h w' _ (I.tok _) rw')
 ·subst ey
  cases (show u=Value.ref b from ry)
  obtain ⟨z,hd,xs,rel,dd⟩:=Te I.hok e
  obtain ⟨w',hw,rw'⟩:=OD.some_of (v:=v) (o:=(atKey xs k).map (·.2)) (by rw [l]; exact rel.val k)
  obtain ⟨p,hp,hp2⟩:=Option.map_eq_some_iff.mp hw
  refine wpAny_getItem_heap (tupleKind_room_in1 hu) (Li I.hok eb) dd hp ?_
  rw [hp2]
  exact h w' _ (I.tok _) rw'
theorem al1 {Q:Value->Shared->Prop} (hu:A.units + 1 < cLine) (I:Inv X pins σ H s) (g:Xh H a y o) (ry:RelV y u) (h:∀ s',Inv X pins σ H s'->Q (.bool o.isSome) s') :
  wpAny (model X.prog X.w) A (compareOp .In u (.ref a)) Q E s:=by
 rcases g with ⟨kvs,k,e,ey,l⟩ | ⟨kvs,k,b,e,ey,eb,l⟩
 ·subst ey
  obtain ⟨z,hd,vs,rel,dd⟩:=Tj I.hok e
  refine wpAny_in_of (Wn ry) hd dd.mapOf ?_
  rw [<- (rel.val k).Jj,<- l]
  exact h _ (I.tok _)
 ·subst ey
  cases (show u=Value.ref b from ry)
  obtain ⟨z,hd,xs,rel,dd⟩:=Te I.hok e
  refine wpAny_in_heap (tupleKind_room_in1 hu) (Li I.hok eb) hd dd ?_
  have q:=(rel.val k).Jj
  rw [Option.isSome_map] at q
  rw [<- q,<- l]
  exact h _ (I.tok _)
theorem ahN {Q:Value->Shared->Prop} (hu:A.units + 1 < cLine) (I:Inv X pins σ H s) (g:Xh H a y o) (ry:RelV y u) (h:∀ s',Inv X pins σ H s'->Q (.bool (!o.isSome)) s') :
  wpAny (model X.prog X.w) A (compareOp .NotIn u (.ref a)) Q E s:=by
 rcases g with ⟨kvs,k,e,ey,l⟩ | ⟨kvs,k,b,e,ey,eb,l⟩
 ·subst ey
  obtain ⟨z,hd,vs,rel,dd⟩:=Tj I.hok e
  refine wpAny_notIn_of (Wn ry) hd dd.mapOf ?_
  rw [<- (rel.val k).Jj,<- l]
  exact h _ (I.tok _)
 ·subst ey
  cases (show u=Value.ref b from ry)
  obtain ⟨z,hd,xs,rel,dd⟩:=Te I.hok e
  refine wpAny_notIn_heap (tupleKind_room_in1 hu) (Li I.hok eb) hd dd ?_
  have q:=(rel.val k).Jj
  rw [Option.isSome_map] at q
  rw [<- q,<- l]
  exact h _ (I.tok _)
theorem aad {h':Heap} {t':Nat} {ob:HO} (I:Inv X pins σ H s) (mu:Mut (H a)) (hs:Heap.SameBut a s.heap h') (he:∃ q,h'.get? a=some q) (new:Ds X.prog X.w (upd H a ob) h' a ob) :
  Inv X pins σ (upd H a ob) { s with heap:=h',toks:=t' } :=
 I.write (x:=a) (e:=a) mu (.inl rfl) (fun b q hb z=>(hs.2 b hb).trans z) he new
theorem ajt {P:Program} {w:World} {H':Hp} {h':Heap} {kvs:List (Key × V)} {vs:List (Key × Value)} (z:kvs.length <= sizeLine) (hd:(a == sysModules)=false) (rel:KV kvs vs) (dd:h'.DictOf (CT P w) a vs) :
  Ds P w H' h' a (.dK kvs):=⟨z,hd,vs,rel,dd⟩
theorem ae1 {H':Hp} {Q:Unit->Shared->Prop} (hu:A.units + 1 < cLine) (I:Inv X pins σ H s) (g:Uq H a y v H') (ry:RelV y u) (rv:RelV v r) (h:∀ s',Inv X pins σ H' s'->Q () s') :
  wpAny (model X.prog X.w) A (setItem (.ref a) u r) Q E s:=by
 rcases g with ⟨kvs,k,e,ey,l,eH⟩ | ⟨kvs,k,b,e,ey,eb,l,eH⟩
 ·subst ey eH
  obtain ⟨z,hd,vs,rel,dd⟩:=akN I.hok e
  have hz:vs.length <= sizeLine:=by rw [<- rel.length]; exact z
  have hl:(putK kvs k v).length <= sizeLine:=by have:=Lh kvs k v; omega
  refine wpAny_setItem_pairs (hsz:=hz) (Wn ry) dd fun h' dd' hs=>h _ ?_
  have he:∃ q,h'.get? a=some q:=let ⟨q,_,_,hq,_⟩:=dd'; ⟨q,hq⟩
  exact aad I (by rw [e]; exact True.intro) hs he (ajt hl hd (rel.put k rv) dd')
 ·subst ey eH
  cases (show u=Value.ref b from ry)
  obtain ⟨z,hd,xs,rel,dd⟩:=aif I.hok e
  have hz:xs.length <= sizeLine:=by rw [<- Paired.length rel]; exact z
  have hl:(putK kvs k v).length <= sizeLine:=by have:=Lh kvs k v; omega
  refine wpAny_setItem_heap (hsz:=hz) (tupleKind_room_in1 hu) (Li I.hok eb) dd fun h' dd' hs=>h _ ?_
  obtain ⟨q,es,ep,hq,h2,h3,h4,_,h5⟩:=dd'
  refine aad I (by rw [e]; exact True.intro) hs ⟨q,hq⟩ ⟨hl,hd,_,(rel.put k eb rv).keeps fun c ys ec=>?_,q,es,ep,hq,h2,h3,h4,h5⟩
  rw [Ah (Gg ec e (fun z=>nomatch z))]
  exact ec
end
def akV (i:Expr):Prop:=∀ ov iv,subscripted i false ov iv=operate [ov,iv] (getItem ov iv)
theorem ag4 {prog:Program} {w:World} {A:Around} {E:Value->Shared->Prop} {s:Shared} {env:Env} {value slice:Expr} {pos:Pos} {T id:String} {Q:Value->Shared->Prop}
  (hl:typeLookup (.type T) "__getitem__" = pure (some (.builtin id))) (hs:akV slice)
  (h:wpAny (model prog w) A (eval value env) (fun o s₁=>wpAny (model prog w) A (eval slice env) (fun i s₂=>s₂.TypeIs o T/\wpAny (model prog w) A (getItem o i) Q E s₂) E s₁) E s) :
  wpAny (model prog w) A (eval (.Subscript value slice pos) env) Q E s:=by
 refine Subscript_ (wpAny_mono h (fun o s₁ h₁=>wpAny_mono h₁ (fun i s₂ h₂=>?_) fun _ _ x=>x) fun _ _ x=>x)
 obtain ⟨hT,h₂⟩:=h₂
 unfold subscriptTail
 refine wpAny_bind ?_
 rw [getitemInPython_of_ne hT.not_modules]
 refine wpAny_bind (wpAny_specialOf hT hl ?_)
 have fin:wpAny (model prog w) A (subscripted slice false o i) (fun r s₃=>wpAny (model prog w) A (letTemporaryGo value o r >>= fun _=>pure r) Q E s₃) E s₂:=by
  rw [hs o i]
  exact wpAny_operating (wpAny_mono h₂ (fun r s₃ h₃=>wpAny_bind (wpAny_letTemporaryGo (wpAny_pure h₃))) fun _ _ x=>x)
 first
  | exact wpAny_pure (wpAny_bind fin)
  | exact wpAny_bind (wpAny_pure (wpAny_bind fin))
  | exact wpAny_bind fin
theorem abE {X:Cx} {pins:List (Addr × Obj)} {σ:St} {H:Hp} {s:Shared} {a:Addr} {y:V} {o:Option V} (I:Inv X pins σ H s) (g:Xh H a y o):s.TypeIs (.ref a) "dict" := by
 rcases g with ⟨kvs,k,e,_,_⟩ | ⟨kvs,k,b,e,_,_,_⟩
 ·obtain ⟨_,_,vs,_,dd⟩:=Tj I.hok e
  exact dd.typeIs
 ·obtain ⟨_,_,xs,_,dd⟩:=Te I.hok e
  exact dd.typeIs
def ajU (td ty:TE):TE:=fun σ H Q=>td σ H fun x H1=>ty σ H1 fun y H2=>∃ a v,x = .ref a/\Xh H2 a y (some v)/\Q v H2
def ala (ty td:TE):TE:=fun σ H Q=>ty σ H fun y H1=>td σ H1 fun x H2=>∃ a o,x = .ref a/\Xh H2 a y o/\Q (.bl o.isSome) H2
def ag2 (ty td:TE):TE:=fun σ H Q=>ty σ H fun y H1=>td σ H1 fun x H2=>∃ a o,x = .ref a/\Xh H2 a y o/\Q (.bl (!o.isSome)) H2
def ajZ (td ty tv:TE):TS:=fun D σ H=>tv σ H fun v H1=>td σ H1 fun x H2=>ty σ H2 fun y H3=>∃ a H4,x = .ref a/\Uq H3 a y v H4/\D.nx σ H4
section
variable {X:Cx} {o i e value:Expr} {pos pos' tpos:Pos} {td ty tv:TE}
theorem ahj (hu:X.A.units + 1 < cLine) (ho:PE X o td) (hi:PE X i ty) (hs:akV i):PE X (.Subscript o i pos) (ajU td ty):=by
 intro pins s σ H Q I h
 refine ag4 PySem.F.slot_dict_getitem.lookup hs (thn (ho pins s σ H _ I h) fun u s1 ⟨x,H1,I1,rx,q1⟩=>thn (hi pins s1 σ H1 _ I1 q1) fun iv s2 ⟨y,H2,I2,ry,a,v,ex,g,q2⟩=>?_)
 subst ex
 obtain rfl:u=Value.ref a:=rx
 exact ⟨abE I2 g,ae6 hu I2 g ry fun w' s3 I3 rw'=>⟨v,H2,I3,rw',q2⟩⟩
theorem Z2 (hu:X.A.units + 1 < cLine) (hi:PE X i ty) (ho:PE X o td):PC X .In i o (ala ty td):=by
 intro pins s σ H Q I h
 refine thn (hi pins s σ H _ I h) fun iv s1 ⟨y,H1,I1,ry,q1⟩=>thn (ho pins s1 σ H1 _ I1 q1) fun u s2 ⟨x,H2,I2,rx,a,ov,ex,g,q2⟩=>?_
 subst ex
 obtain rfl:u=Value.ref a:=rx
 exact al1 hu I2 g ry fun s3 I3=>⟨.bl ov.isSome,H2,I3,rfl,q2⟩
theorem aeC (hu:X.A.units + 1 < cLine) (hi:PE X i ty) (ho:PE X o td):PC X .NotIn i o (ag2 ty td):=by
 intro pins s σ H Q I h
 refine thn (hi pins s σ H _ I h) fun iv s1 ⟨y,H1,I1,ry,q1⟩=>thn (ho pins s1 σ H1 _ I1 q1) fun u s2 ⟨x,H2,I2,rx,a,ov,ex,g,q2⟩=>?_
 subst ex
 obtain rfl:u=Value.ref a:=rx
 exact ahN hu I2 g ry fun s3 I3=>⟨.bl (!ov.isSome),H2,I3,rfl,q2⟩
theorem HJ (hu:X.A.units + 1 < cLine) (ho:PE X o td) (hi:PE X i ty) (hv:PE X value tv) (hs:swapsWith value (some (.Subscript o i pos')) pos.line X.env=pure false) :
  PS X (.Assign [.Subscript o i pos'] value pos) (ajZ td ty tv):=by
 intro pins s σ H D I h
 refine wpAny_Assign_Subscript (thn (hv pins s σ H _ I h) fun r s1 ⟨v,H1,I1,rv,q1⟩=>thn (ho pins s1 σ H1 _ I1 q1) fun u s2 ⟨x,H2,I2,rx,q2⟩=>thn (hi pins s2 σ H2 _ I2 q2) fun iv s3 ⟨y,H3,I3,ry,a,H4,ex,g,q3⟩=>?_) hs
 subst ex
 obtain rfl:u=Value.ref a:=rx
 exact ae1 hu I3 g ry rv fun s4 I4=>⟨σ,H4,I4,q3⟩
end
theorem abC {P:Program} {w:World} {H:Hp} (h:Heap) (hb:sysModules < h.objs.size):Ds P w H (h.push { cls:=.type "dict",data:=.dict #[] }) h.objs.size (.dT []) :=
 ⟨Nat.zero_le _,beq_eq_false_iff_ne.mpr (Ne.symm (Nat.ne_of_lt hb)),[],.nil,_,#[],0,Heap.get?_push_size _ rfl,⟨rfl,rfl,rfl⟩,rfl,rfl,List.nodup_nil⟩
def ais:TE:=fun _ H Q=>∀ p,H p=none->Q (.ref p) (upd H p (.dT []))
section
variable {X:Cx} {pos:Pos}
theorem FP:PE X (.Dict [] [] pos) ais:=fun pins s σ H Q I h =>
 wpAny_Dict_empty ⟨.ref s.heap.objs.size,_,I.laid (a:=s.heap.objs.size) (o:=.dT []) (t':=s.toks) (fun _ _ q=>Heap.get?_push_of_some _ q) (Nat.le_refl _) (abC s.heap I.big),rfl,h _ (I.hok.fresh (Nat.le_refl _))⟩
end
structure M1 (X:Cx) (o:Expr) (m:Str) (apos:Pos) (e:Expr) (cpos:Pos):Prop where
 base:attributeBase o m X.env (eval o X.env)=eval o X.env
 few:((backTo cpos (starEach [e] X.env)).all (fun x=>!x.1) && (backToKw cpos (keywordEach [] X.env)).all (fun x=>x.1.isSome)
  && decide (([e]:List Expr).length + ([]:List Keyword).length + (if ([]:List Keyword).isEmpty then 0 else 1) < 30))=true
 line:(apos.endLine == cpos.line)=true
 trees:backTo cpos (starEach [e] X.env)=[(false,eval e X.env)]
structure M2 (X:Cx) (o:Expr) (m:Str) (apos:Pos) (e f:Expr) (cpos:Pos):Prop where
 base:attributeBase o m X.env (eval o X.env)=eval o X.env
 few:((backTo cpos (starEach [e,f] X.env)).all (fun x=>!x.1) && (backToKw cpos (keywordEach [] X.env)).all (fun x=>x.1.isSome)
  && decide (([e,f]:List Expr).length + ([]:List Keyword).length + (if ([]:List Keyword).isEmpty then 0 else 1) < 30))=true
 line:(apos.endLine == cpos.line)=true
 trees:backTo cpos (starEach [e,f] X.env)=[(false,eval e X.env),(false,eval f X.env)]
def IsD (H:Hp) (a:Addr):Prop:=(∃ kvs,Rd H a (.dK kvs)) \/ ∃ kvs,Rd H a (.dT kvs)
theorem agg {X:Cx} {pins:List (Addr × Obj)} {σ:St} {H:Hp} {s:Shared} {a:Addr} (I:Inv X pins σ H s) (d:IsD H a) :
  s.TypeIs (.ref a) "dict" /\ (∀ b,Value.ref a = .ref b->∃ ob,s.heap.get? b=some ob/\ob.dict=none)/\(a == sysModules)=false:=by
 rcases d with ⟨kvs,e⟩ | ⟨kvs,e⟩
 ·obtain ⟨_,hd,vs,_,dd⟩:=Tj I.hok e
  refine ⟨dd.typeIs,fun b q=>?_,hd⟩
  cases q
  obtain ⟨ob,_,_,h1,h2,_⟩:=dd
  exact ⟨ob,h1,h2.2.1⟩
 ·obtain ⟨_,hd,xs,_,dd⟩:=Te I.hok e
  refine ⟨dd.typeIs,fun b q=>?_,hd⟩
  cases q
  obtain ⟨ob,_,_,h1,h2,_⟩:=dd
  exact ⟨ob,h1,h2.2.1⟩
section
variable {X:Cx} {pins:List (Addr × Obj)} {σ:St} {H:Hp} {s:Shared} {a:Addr} {y d:V} {u r:Value} {o:Option V} {A:Around} {E:Value->Shared->Prop}
theorem ajv {Q:Value->Shared->Prop} (hu:A.units + 1 < cLine) (I:Inv X pins σ H s) (g:Xh H a y o) (ry:RelV y u) (h:∀ w' s',Inv X pins σ H s'->RelV (o.getD .non) w'->Q w' s') :
  wpAny (model X.prog X.w) A (call (.builtin "dict.get") [.ref a,u]) Q E s:=by
 rcases g with ⟨kvs,k,e,ey,l⟩ | ⟨kvs,k,b,e,ey,eb,l⟩
 ·subst ey
  obtain ⟨z,hd,vs,rel,dd⟩:=Tj I.hok e
  refine call_meetsIn PySem.F.slot_dict_get dd.typeIs PySem.F.entry_dict_get (PySem.F.args_dict_get_2 _ _) (meets_dict_get (CT X.prog X.w) a (Wn ry) hd) ⟨_,dd.mapOf,h _ _ (I.tok _) ?_⟩
  rw [l]
  exact (rel.val k).getD rfl
 ·subst ey
  cases (show u=Value.ref b from ry)
  obtain ⟨z,hd,xs,rel,dd⟩:=Te I.hok e
  refine call_meetsIn PySem.F.slot_dict_get dd.typeIs PySem.F.entry_dict_get (PySem.F.args_dict_get_2 _ _) (meetsH_dict_get (tupleKind (CT X.prog X.w)) a b hd) ⟨tupleKind_room_in1 hu,k,xs,Li I.hok eb,dd,h _ _ (I.tok _) ?_⟩
  rw [l]
  exact (rel.val k).getD rfl
theorem aju {Q:Value->Shared->Prop} (hu:A.units + 1 < cLine) (I:Inv X pins σ H s) (g:Xh H a y o) (ry:RelV y u) (rd:RelV d r) (h:∀ w' s',Inv X pins σ H s'->RelV (o.getD d) w'->Q w' s') :
  wpAny (model X.prog X.w) A (call (.builtin "dict.get") [.ref a,u,r]) Q E s:=by
 rcases g with ⟨kvs,k,e,ey,l⟩ | ⟨kvs,k,b,e,ey,eb,l⟩
 ·subst ey
  obtain ⟨z,hd,vs,rel,dd⟩:=Tj I.hok e
  refine call_meetsIn PySem.F.slot_dict_get dd.typeIs PySem.F.entry_dict_get (PySem.F.args_dict_get_3 _ _ _) (meets_dict_get_default (CT X.prog X.w) a (Wn ry) hd r) ⟨_,dd.mapOf,h _ _ (I.tok _) ?_⟩
  rw [l]
  exact (rel.val k).getD rd
 ·subst ey
  cases (show u=Value.ref b from ry)
  obtain ⟨z,hd,xs,rel,dd⟩:=Te I.hok e
  refine call_meetsIn PySem.F.slot_dict_get dd.typeIs PySem.F.entry_dict_get (PySem.F.args_dict_get_3 _ _ _) (meetsH_dict_get_default (tupleKind (CT X.prog X.w)) a b hd r) ⟨tupleKind_room_in1 hu,k,xs,Li I.hok eb,dd,h _ _ (I.tok _) ?_⟩
  rw [l]
  exact (rel.val k).getD rd
end
def aiu (td ty:TE):TE:=fun σ H Q=>td σ H fun x H1=>∃ a,x = .ref a/\IsD H1 a/\ty σ H1 fun y H2=>∃ o,Xh H2 a y o/\Q (o.getD .non) H2
def ait (td ty tx:TE):TE:=fun σ H Q=>td σ H fun x H1=>∃ a,x = .ref a/\IsD H1 a/\ty σ H1 fun y H2=>tx σ H2 fun z H3=>∃ o,Xh H3 a y o/\Q (o.getD z) H3
section
variable {X:Cx} {o e f:Expr} {apos cpos:Pos} {td ty tx:TE}
theorem aa8 (hu:X.A.units + 1 < cLine) (ho:PE X o td) (he:PE X e ty) (m:M1 X o "get" apos e cpos):PE X (.Call (.Attribute o "get" apos) [e] [] cpos) (aiu td ty):=by
 intro pins s σ H Q I h
 refine wpAny_Call_method m.base m.few m.line PySem.F.plainAttrs_dict PySem.F.slot_dict_get PySem.F.type_dict_get (thn (ho pins s σ H _ I h) fun u s1 ⟨x,H1,I1,rx,a,ex,d,q1⟩=>?_)
 subst ex
 obtain rfl:u=Value.ref a:=rx
 obtain ⟨t1,t2,_⟩:=agg I1 d
 refine ⟨t1,t2,?_⟩
 rw [m.trees]
 refine Calls.callWith_builtin rfl (Calls.evalArgs_plain (Calls.spliced_cons (thn (he pins s1 σ H1 _ I1 q1) fun iv s2 ⟨y,H2,I2,ry,ov,g,q2⟩=>Calls.spliced_nil ?_)))
 exact ajv hu I2 g ry fun w' s3 I3 rw'=>⟨_,H2,I3,rw',q2⟩
theorem aa7 (hu:X.A.units + 1 < cLine) (ho:PE X o td) (he:PE X e ty) (hf:PE X f tx) (m:M2 X o "get" apos e f cpos):PE X (.Call (.Attribute o "get" apos) [e,f] [] cpos) (ait td ty tx):=by
 intro pins s σ H Q I h
 refine wpAny_Call_method m.base m.few m.line PySem.F.plainAttrs_dict PySem.F.slot_dict_get PySem.F.type_dict_get (thn (ho pins s σ H _ I h) fun u s1 ⟨x,H1,I1,rx,a,ex,d,q1⟩=>?_)
 subst ex
 obtain rfl:u=Value.ref a:=rx
 obtain ⟨t1,t2,_⟩:=agg I1 d
 refine ⟨t1,t2,?_⟩
 rw [m.trees]
 refine Calls.callWith_builtin rfl (Calls.evalArgs_plain (Calls.spliced_cons (thn (he pins s1 σ H1 _ I1 q1) fun iv s2 ⟨y,H2,I2,ry,q2⟩ =>
  Calls.spliced_cons (thn (hf pins s2 σ H2 _ I2 q2) fun fv s3 ⟨z,H3,I3,rz,ov,g,q3⟩=>Calls.spliced_nil ?_))))
 exact aju hu I3 g ry rz fun w' s4 I4 rw'=>⟨_,H3,I4,rw',q3⟩
end
theorem WW:bootBuiltins "reversed" = some (.type "reversed"):=by decide +kernel
section
variable {X:Cx} {pins:List (Addr × Obj)} {σ:St} {H:Hp} {s:Shared} {h':Heap}
theorem Inv.QK {t':Nat} {ch:List Addr} {T:Addr} {ob:HO} (I:Inv X pins σ H s) (k:∀ b o,b ∉ ch->s.heap.get? b=some o->h'.get? b=some o) (hf:∀ b ∈ ch,Xf X pins H b) (hT:s.heap.objs.size <= T)
  (new:Ds X.prog X.w (upd H T ob) h' T ob):Inv X pins σ (upd H T ob) { s with heap:=h',toks:=t' }:=by
 have hn:H T=none:=I.hok.fresh hT
 have nit:∀ b u,H b=some u->b ∉ ch:=fun b u e z=>by
  have q:=(hf b z).1
  rw [q] at e; cases e
 refine I.step (g':=s.gens) (d':=s.drawn) (ch:=ch) (fun b hb=>⟨(hf b hb).2.2.2.1,(hf b hb).2.1,(hf b hb).2.2.2.2.1,(hf b hb).2.2.2.2.2⟩) (fun b o _ _ hc e _=>k b o hc e) (fun b o _ _ hc e _=>⟨o.slots,k b o hc e⟩)
  (fun b o _ e n=>?_) (fun b o hc e=>⟨o,k b o hc e⟩) (fun b xs e=>?_) (fun b o u e=>?_) (fun b ps e=>⟨#[],?_⟩) (fun m hm=>?_) (fun b u e=>?_) I.bare
 ·rw [Ah (Nat.ne_of_lt (Nat.lt_of_lt_of_le (Heap.lt_size e) hT))]; exact n
 ·rw [Ah (Bh e hn)]; exact e
 ·rw [Ah (Bh e hn)]; exact e
 ·rw [Ah (Bh e hn),e]; simp
 ·obtain ⟨o,es,ep,ho,r⟩:=hm
  exact ⟨o,es,ep,k _ o (fun z=>(hf _ z).2.1 rfl) ho,r⟩
 ·by_cases hb:b=T
  ·subst hb
   rw [Ab] at e
   cases e
   exact new
  ·rw [Ah hb] at e
   refine (I.hok b u e).stay (fun c v hc q=>k c v ?_ q) (fun c q=>by rw [Ah (Bh q hn)]; exact q) fun c xs q=>by rw [Ah (Bh q hn)]; exact q
   rcases hc with z | z
   ·rw [z]; exact nit b u e
   ·exact nit c _ z
theorem Inv.lock {d:Addr} {u:HO} (I:Inv X pins σ H s) (h:H d=some u) (mu:Mut (some u)):∃ od,Inv X pins σ (upd H d (.frz od u)) s:=by
 have x:=I.hok d u h
 have ex:∃ od,s.heap.get? d=some od:=by
  cases u with
  | lst xs=>obtain ⟨_,_,_,_,e⟩:=x; exact ⟨_,e⟩
  | dK kvs=>obtain ⟨_,_,_,_,o,_,_,e,_⟩:=x; exact ⟨o,e⟩
  | dT kvs=>obtain ⟨_,_,_,_,o,_,_,e,_⟩:=x; exact ⟨o,e⟩
  | set S n=>obtain ⟨o,_,_,_,e,_⟩:=x; exact ⟨o,e⟩
  | ins C dx fs=>obtain ⟨_,_,_,e,_⟩:=x; exact ⟨_,e⟩
  | ext φ=>obtain ⟨_,⟨_,e⟩,_⟩:=x; exact ⟨_,e⟩
  | _=>exact False.elim mu
 obtain ⟨od,e⟩:=ex
 have new:Ds X.prog X.w (upd H d (.frz od u)) s.heap d (.frz od u):=by
  refine ⟨e,x.stay (fun b v _ q=>q) (fun b q=>?_) fun b xs q=>?_⟩
  ·rw [Ah (fun z=>by rw [z,h] at q; cases q; exact mu)]; exact q
  ·rw [Ah (fun z=>by rw [z,h] at q; cases q; exact mu)]; exact q
 exact ⟨od,I.write (x:=d) (e:=d) (t':=s.toks) (h':=s.heap) (by rw [h]; exact mu) (.inl rfl) (fun b v _ q=>q) ⟨od,e⟩ new⟩
theorem Inv.adH {d:Addr} {u:HO} (I:Inv X pins σ H s) (h:H d=some u) (mu:Mut (some u)):∀ o' u',X.H_0 d ≠ some (.frz o' u'):=fun o' u' e=>by
 have q:=I.base.Wt d o' u' e
 rw [h] at q
 cases q
 exact mu
theorem Inv.unlock {d:Addr} {od:Obj} {u:HO} (I:Inv X pins σ H s) (h:H d=some (.frz od u)) (hn:∀ o' u',X.H_0 d ≠ some (.frz o' u')):Inv X pins σ (upd H d u) s:=by
 have neH:∀ b o,H b=some o->(∀ o' u',o ≠ .frz o' u')->b ≠ d:=fun b o e hne z=>by
  rw [z,h] at e
  cases e
  exact hne _ _ rfl
 have neN:∀ b,H b=none->b ≠ d:=fun b e z=>by rw [z,h] at e; cases e
 refine ⟨I.ok,I.os,I.bare,⟨I.base.keep,I.base.slot,fun b o e n hx=>?_,I.base.there,fun b xs e=>?_,fun b o x e=>?_,fun b ps e=>?_⟩,I.loc,I.cell,?_,fun x c e=>?_,fun p hp=>?_,fun b o e=>?_,I.len⟩
 ·rw [Ah (neN b (I.base.free b o e n hx))]; exact I.base.free b o e n hx
 ·have q:=I.base.tups b xs e
  rw [Ah (neH b _ q (fun _ _ z=>nomatch z))]; exact q
 ·have q:=I.base.Wt b o x e
  rw [Ah (fun z=>by rw [z] at e; exact hn _ _ e)]; exact q
 ·obtain ⟨m,q⟩:=I.base.Xm b ps e
  exact ⟨m,by rw [Ah (neH b _ q (fun _ _ z=>nomatch z))]; exact q⟩
 ·rw [Ah (neN _ I.free)]; exact I.free
 ·rw [Ah (neN c (I.Jl x c e))]; exact I.Jl x c e
 ·obtain ⟨e,n,r⟩:=I.pin p hp
  exact ⟨e,by rw [Ah (neN _ n)]; exact n,r⟩
 ·by_cases hb:b=d
  ·rw [hb,Ab] at e
   cases e
   rw [hb]
   obtain ⟨_,x⟩:=I.hok d _ h
   exact x.stay (fun c v _ q=>q) (fun c q=>by rw [Ah (neH c _ q (fun _ _ z=>nomatch z))]; exact q) fun c xs q=>by rw [Ah (neH c _ q (fun _ _ z=>nomatch z))]; exact q
  ·rw [Ah hb] at e
   exact (I.hok b o e).stay (fun c v _ q=>q) (fun c q=>by rw [Ah (neH c _ q (fun _ _ z=>nomatch z))]; exact q) fun c xs q=>by rw [Ah (neH c _ q (fun _ _ z=>nomatch z))]; exact q
end
def ajS (t:TS):TS:=fun D σ H=>∃ d u,H d=some u/\Mut (some u)/\∀ od,t ⟨fun σ' H'=>H' d=some (.frz od u)/\D.nx σ' (upd H' d u),fun v H'=>H' d=some (.frz od u)/\D.rt v (upd H' d u),fun σ' H'=>H' d=some (.frz od u)/\D.bk σ' (upd H' d u),fun σ' H'=>H' d=some (.frz od u)/\D.ct σ' (upd H' d u)⟩ σ (upd H d (.frz od u))
section
variable {X:Cx}
theorem JC {st:Stmt} {t:TS} (h:PS X st t):PS X st (ajS t):=by
 intro pins s σ H D I hw
 obtain ⟨d,u,hd,mu,hw⟩:=hw
 obtain ⟨od,I1⟩:=I.lock hd mu
 refine thn (h pins s σ _ _ I1 (hw od)) fun f s1 q=>?_
 cases f with
 | next=>obtain ⟨σ',H',I2,e,q⟩:=q; exact ⟨σ',_,I2.unlock e (I.adH hd mu),q⟩
 | brk=>obtain ⟨σ',H',I2,e,q⟩:=q; exact ⟨σ',_,I2.unlock e (I.adH hd mu),q⟩
 | cont=>obtain ⟨σ',H',I2,e,q⟩:=q; exact ⟨σ',_,I2.unlock e (I.adH hd mu),q⟩
 | ret v=>obtain ⟨x,σ',H',I2,r,e,q⟩:=q; exact ⟨x,σ',_,I2.unlock e (I.adH hd mu),r,q⟩
theorem Oj {tg:Expr} {pins:List (Addr × Obj)} {σ:St} {H:Hp} {s:Shared} {R:It->Hp->Prop} {J:It} {tn:Nat->Heap->Prop} {tk:Nat} (I:Inv X pins σ H s) (o:Obj)
  (T:Turn X.prog X.w X.K tg J [s.heap.objs.size] s.heap.objs.size tn) (st:tn 0 (s.heap.push o)) (q:R J H):PIE X pins σ tg R (.ref s.heap.objs.size) { s with heap:=s.heap.push o,toks:=tk }:=by
 refine ⟨s.heap.objs.size,[s.heap.objs.size],tn,J,H,rfl,I.kept fun b ob e=>Heap.get?_push_of_some _ e,T,st,fun b hb=>?_,q⟩
 have e:b=s.heap.objs.size:=by simpa using hb
 subst e
 exact I.ac3 (Nat.le_refl _) (I.hok.fresh (Nat.le_refl _))
end
def Itv (K:PySem.W.Frag) (a:Addr) (n:Nat):It :=
 ⟨fun i H=>i < n/\∃ (xs:List V) (x:V),SqL K H a xs/\xs[n - 1 - i]? = some x,fun i H x H'=>H'=H/\∀ xs,SqL K H a xs->xs[n - 1 - i]? = some x,fun i _=>n <= i⟩
theorem afx {P:Program} {w:World} {K:PySem.W.Frag} {tg:Expr} (a it:Addr) (n:Nat):Turn P w K tg (Itv K a n) [it] it (fun i h=>i <= n/\h.IsRevIter it a ((n:Int) - 1 - (i:Nat))) where
 mem:=by simp
 obj:=fun i h st b hb=>by
  have e:b=it:=by simpa using hb
  subst e
  obtain ⟨_,o,e,c,d⟩:=st
  exact ⟨o,e,fun v z=>by rw [d] at z; cases z⟩
 keep:=fun i h h' st k=>⟨st.1,st.2.at fun o e=>k it (by simp) o e⟩
 item:=by
  intro X hP hw hK hc i pins s σ H E I hf st hg
  subst hP hw hK
  obtain ⟨hin,xs,x,hq,hx⟩:=hg
  obtain ⟨its,rv,p,hz⟩:=I.list hq
  obtain ⟨u,hu,ru⟩:=rv.get hx
  obtain ⟨f0,f1,f2,f3,f4,f5⟩:=hf it (by simp)
  obtain ⟨_,hit⟩:=st
  have e1:(n:Int) - 1 - ((i:Nat):Int)=((n - 1 - i:Nat):Int):=by omega
  rw [e1] at hit
  refine wpAny_pyNext_rev_item hit p.isList (x:=u) (by simpa using hu) fun h' st' sb=>?_
  have e2:((n - 1 - i:Nat):Int) - 1=(n:Int) - 1 - ((i + 1:Nat):Int):=by omega
  rw [e2] at st'
  have I1:Inv X pins σ H { s with heap:=h' }:=I.turned (t':=s.toks) (fun b o hb e=>(sb.2 b hb).trans e) f0 f1 f3 f4 f5
  obtain ⟨o,e,c,d⟩:=id st'
  exact ⟨u,rfl,Wr (s:={ s with heap:=h' }) e c d (by decide) ⟨x,H,I1,ru,⟨rfl,fun ys hy=>by rw [I.Wd hy hq]; exact hx⟩,⟨hin,st'⟩,fun b hb=>(hf b hb).1⟩⟩
 done:=by
  intro X hP hw hK hc i pins s σ H E I hf st hg
  subst hP hw hK
  obtain ⟨f0,f1,f2,f3,f4,f5⟩:=hf it (by simp)
  obtain ⟨hin,hit⟩:=st
  have hge:n <= i:=hg
  have e1:(n:Int) - 1 - ((i:Nat):Int) = -1:=by omega
  rw [e1] at hit
  exact wpAny_pyNext_rev_end (I.ok.hd hc) hit fun h' eb=>⟨rfl,I.turned (t':=s.toks) (fun b o hb e=>eb b o hb e) f0 f1 f3 f4 f5⟩
 self:=fun A i s Q E st h=>wpAny_pyIter_revIter st.2 h
def alA (K:PySem.W.Frag) (ta:TA):TI:=fun σ H R=>ta σ H fun vs H1=>∃ (a:Addr) (xs:List V),vs=[.ref a]/\SqL K H1 a xs/\R (Itv K a xs.length) H1
section
variable {X:Cx} {tg:Expr}
theorem aa6 {e:Expr} {ta:TA} {p pos:Pos} (hg:Gl X "reversed") (hm:X.mg "reversed" = none) (ha:PA X [e] ta) (hs:starEach [e] X.env=[(false,eval e X.env)]:=by rfl):PI X tg (.Call (.Name "reversed" p) [e] [] pos) (alA X.K ta):=by
 intro pins s σ H R I h
 refine Call_ (JK I hg hm WW (PyProof.Rows.callWith_type1 (thn (ha pos pins s σ H _ I h) fun us s1 ⟨vs,H1,I1,r1,q1⟩=>?_) hs rfl))
 obtain ⟨a,xs,e,hq,q⟩:=q1
 subst e
 cases r1 with
 | cons r rr =>
  cases rr
  cases r
  obtain ⟨its,rv,p',hz⟩:=I1.list hq
  have hl:=rv.length
  have e1:((its.toArray.size:Nat):Int) - 1=(xs.length:Int) - 1 - ((0:Nat):Int):=by simp only [List.size_toArray]; omega
  refine call_reversed_list p'.isList (wpAny_pyIter_revIter (l:=a) (i:=((its.toArray.size:Nat):Int) - 1) ⟨_,Heap.get?_push_size _ rfl,rfl,rfl⟩ ?_)
  refine Oj (tk:=s1.toks) I1 _ (afx a _ xs.length) ⟨Nat.zero_le _,?_⟩ q
  rw [<- e1]
  exact ⟨_,Heap.get?_push_size _ rfl,rfl,rfl⟩
end
def Its (x:Str):It:=⟨fun i _=>i < x.cps.size,fun i H v H'=>H'=H/\∃ c,x.cps[i]? = some c/\v = .str ⟨#[c]⟩,fun i _=>x.cps.size <= i⟩
theorem aaJ {P:Program} {w:World} {K:PySem.W.Frag} {tg:Expr} (it:Addr) (x:Str) (t:Tok) (ty:String) (hty:ty = "str_ascii_iterator" \/ ty = "str_iterator") :
  Turn P w K tg (Its x) [it] it (fun i h=>h.IsStrIter it ty x t i) where
 mem:=by simp
 obj:=fun i h st b hb=>by
  have e:b=it:=by simpa using hb
  subst e
  obtain ⟨o,e,c,d⟩:=st
  exact ⟨o,e,fun v z=>by rw [d] at z; cases z⟩
 keep:=fun i h h' st k=>let ⟨o,ho,r⟩:=st; ⟨o,k it (by simp) o ho,r⟩
 item:=by
  intro X hP hw hK hc i pins s σ H E I hf st hg
  subst hP hw hK
  obtain ⟨f0,f1,f2,f3,f4,f5⟩:=hf it (by simp)
  have W:Walks X.prog X.w X.A it [it] [it] x.cps.size (SignAt x) (fun i h=>h.IsStrIter it ty x t i):=by
   rcases hty with e | e
   ·rw [e]; exact Walks.strAscii (I.ok.hd hc) it x t
   ·rw [e]; exact Walks.strWide (I.ok.hd hc) it x t
  have hno:["enumerate", "zip", "dict_itemiterator", "dict_reverseitemiterator", "odict_iterator", "itertools.zip_longest", "itertools.pairwise"].contains ty=false:=by
   rcases hty with e | e
   ·rw [e]; decide
   ·rw [e]; decide
  refine W.item i s _ _ hg st fun v h' tk hv st' kk=>?_
  obtain ⟨c,u,hcx,rfl⟩:=hv
  have I1:Inv X pins σ H { s with heap:=h',toks:=tk }:=I.turned (fun b o hb e=>kk b o (by simpa using hb) e) f0 f1 f3 f4 f5
  obtain ⟨oi,e,cc,dd⟩:=id st'
  exact ⟨_,rfl,Wr (s:={ s with heap:=h',toks:=tk }) e cc dd hno ⟨.str ⟨#[c]⟩,H,I1,⟨u,rfl⟩,⟨rfl,c,hcx,rfl⟩,st',fun b hb=>(hf b hb).1⟩⟩
 done:=by
  intro X hP hw hK hc i pins s σ H E I hf st hg
  subst hP hw hK
  obtain ⟨f0,f1,f2,f3,f4,f5⟩:=hf it (by simp)
  have hx:x.cps[i]? = none:=Array.getElem?_eq_none hg
  rcases hty with e | e
  ·rw [e] at st
   exact wpAny_pyNext_ascii_end (I.ok.hd hc) st hx fun h' eb=>⟨rfl,I.turned (t':=s.toks) (fun b o hb e=>eb b o hb e) f0 f1 f3 f4 f5⟩
  ·rw [e] at st
   exact wpAny_pyNext_wide_end (I.ok.hd hc) st hx fun h' eb=>⟨rfl,I.turned (t':=s.toks) (fun b o hb e=>eb b o hb e) f0 f1 f3 f4 f5⟩
 self:=fun A i s Q E st h=>by
  rcases hty with e | e
  ·rw [e] at st; exact wpAny_pyIter_striter_ascii st h
  ·rw [e] at st; exact wpAny_pyIter_striter_wide st h
def alz (te:TE):TI:=fun σ H R=>te σ H fun v H1=>∃ x,v = .str x/\R (Its x) H1
theorem aiH {X:Cx} {tg e:Expr} {te:TE} (he:PE X e te):PI X tg e (alz te):=by
 intro pins s σ H R I h
 refine thn (he pins s σ H _ I h) fun v s1 ⟨y,H1,I1,r1,x,ex,q⟩=>?_
 subst ex
 obtain ⟨t,rfl⟩:=r1
 cases ha:x.cps.all (· < 128)
 ·exact wpAny_pyIter_wide ha (Oj (tk:=s1.toks) I1 _ (aaJ _ x t "str_iterator" (.inr rfl)) ⟨_,Heap.get?_push_size _ rfl,rfl,rfl⟩ q)
 ·exact wpAny_pyIter_ascii ha (Oj (tk:=s1.toks) I1 _ (aaJ _ x t "str_ascii_iterator" (.inl rfl)) ⟨_,Heap.get?_push_size _ rfl,rfl,rfl⟩ q)
section
variable {prog:Program} {w:World} {A:Around} {E:Value->Shared->Prop} {s:Shared}
theorem Rv {d:Addr} {o:Obj} {es:Array DictEntry} {ep:Nat} {Q:Value->Shared->Prop} (hd:(d == sysModules)=false) (ho:s.heap.get? d=some o) (hc:o.ExactDict) (hdat:o.data = .dict es ep)
  (hQ:Q (.ref s.heap.objs.size) { s with heap:=s.heap.push { cls:=.type "dict_keyiterator",data:=.fields #[.ref d,.int 0 0,.int es.size 0,.int ep 0] } }) :
  wpAny (model prog w) A (pyIter (.ref d)) Q E s:=by
 have hT:s.TypeIs (.ref d) "dict" := ⟨o,ho,hc.1⟩
 refine wpAny_pyIter_slot hT F.slot_dict_iter (wpAny_call_entry F.slot_dict_iter hT F.entry_dict_iter ?_ (F.args_dict_iter_1 _))
 unfold Builtin.«dict.__iter__»
 refine wpAny_bind ?_
 unfold Builtin.Dict.dictSlotNone
 refine wpAny_bind (wpAny_notOrdered_dict hT ?_)
 show wpAny _ _ (pure (Value.ref d)) _ _ s
 refine wpAny_pure ?_
 show wpAny _ _ (Builtin.Dict.showsAll d >>= _) _ _ s
 unfold Builtin.Dict.showsAll
 rw [if_neg (by rw [hd]; exact Bool.false_ne_true)]
 refine wpAny_bind (wpAny_pure ?_)
 refine wpAny_bind (wpAny_dictEntries ho hdat ?_)
 refine wpAny_bind (wpAny_dictEpoch ho hdat ?_)
 refine wpAny_bind (wpAny_newObj_type (wpAny_pure ⟨_,rfl, "dict_keyiterator",_,⟨_,Heap.get?_push_size _ rfl,rfl⟩,F.slot_dict_keyiterator_next.lookup,?_⟩))
 simpa [rawInt] using hQ
theorem NP {it d:Addr} {i n ep:Nat} {od:Obj} {es:Array DictEntry} {en:DictEntry} {Q:Option Value->Shared->Prop} (hit:s.heap.IsKeyIter it d i n ep) (hod:s.heap.get? d=some od) (hdd:od.data = .dict es ep)
  (hsz:es.size=n) (hx:es[i]? = some en) (hQ:∀ h',h'.IsKeyIter it d (i + 1) n ep->Heap.SameBut it s.heap h'->Q (some en.key) { s with heap:=h' }):wpAny (model prog w) A (pyNext (.ref it)) Q E s:=by
 obtain ⟨o,ho,hc,hd⟩:=id hit
 unfold pyNext
 refine wpAny_bind (wpAny_attempt (wpAny_callSpecial?_slot (name:=Str.ofString "__next__") hit.typeIs F.slot_dict_keyiterator_next
  (wpAny_call_entry F.slot_dict_keyiterator_next hit.typeIs F.entry_dict_keyiterator_next ?_ (F.args_dict_keyiterator_next_1 _))))
 refine wpAny_bind (wpAny_pure ?_)
 refine wpAny_bind ?_
 refine wpAny_bind ?_
 first | refine wpAny_bind (wpAny_typeNameOfWhole_keyiter hit.typeIs (wpAny_pure ?_)) | refine wpAny_bind (wpAny_typeNameOf_keyiter hit.typeIs (wpAny_pure ?_))
 refine wpAny_bind (wpAny_fieldsOf ho hd ?_)
 have hown:Builtin.Dict_items.ownsTuple "dict_keyiterator" = false:=by decide
 simp only [hown,Bool.false_eq_true,if_false]
 show wpAny _ _ (if (Value.ref d == Value.none)=true then _ else _) _ _ s
 rw [if_neg (show ¬ ((Value.ref d == Value.none)=true) from Bool.false_ne_true)]
 refine wpAny_bind (wpAny_pure ?_)
 refine wpAny_bind (wpAny_dictEntries hod hdd ?_)
 rw [if_neg (by rw [hsz]; simp)]
 refine wpAny_bind (wpAny_pure ?_)
 refine wpAny_bind (wpAny_dictEpoch hod hdd ?_)
 rw [if_neg (by simp)]
 refine wpAny_pure ?_
 obtain ⟨hlt',hen⟩:=Array.getElem?_eq_some_iff.mp hx
 simp only [show ¬ ((i:Int) < 0) from by omega,if_false,Int.toNat_natCast,Array.getElem?_eq_getElem hlt']
 refine wpAny_bind ?_
 first | refine wpAny_bind (wpAny_typeNameOfWhole_keyiter hit.typeIs (wpAny_pure ?_)) | refine wpAny_bind (wpAny_typeNameOf_keyiter hit.typeIs (wpAny_pure ?_))
 refine wpAny_bind (wpAny_isOneOf_keyiter hit.typeIs ?_)
 show wpAny _ _ (setField (.ref it) 1 (rawInt ((i:Int) + 1)) >>= _) _ _ s
 refine wpAny_bind (wpAny_setField ho hd (by simp) ?_)
 have hit':(s.heap.update it (Obj.mapFields (·.setIfInBounds 1 (rawInt ((i:Int) + 1))))).IsKeyIter it d (i + 1) n ep :=
  ⟨_,Heap.get?_update_self _ ho (Obj.isFreed_of_fields (Obj.data_mapFields hd _)),(Obj.cls_mapFields ..).trans hc,by rw [Obj.data_mapFields hd]; simp [rawInt]⟩
 refine wpAny_bind (wpAny_holding ?_)
 refine wpAny_bind (wpAny_isOneOf_keyiter (s:={ s with heap:=s.heap.update it (Obj.mapFields (·.setIfInBounds 1 (rawInt ((i:Int) + 1)))) }) hit'.typeIs ?_)
 show wpAny _ _ (pure es[i].key) _ _ _
 rw [hen]
 exact wpAny_pure (wpAny_pure ⟨_,rfl,wpAny_pure (hQ _ hit' (Heap.SameBut.update ..))⟩)
theorem JH {it d:Addr} {i n ep:Nat} {od:Obj} {es:Array DictEntry} {Q:Option Value->Shared->Prop} (hh:A.handled=none) (hit:s.heap.IsKeyIter it d i n ep) (hod:s.heap.get? d=some od) (hdd:od.data = .dict es ep)
  (hsz:es.size=n) (hge:n <= i) (hQ:∀ h',Heap.ExtBut it s.heap h'->Q none { s with heap:=h' }):wpAny (model prog w) A (pyNext (.ref it)) Q E s:=by
 obtain ⟨o,ho,hc,hd⟩:=id hit
 unfold pyNext
 refine wpAny_bind (wpAny_attempt (wpAny_callSpecial?_slot (name:=Str.ofString "__next__") hit.typeIs F.slot_dict_keyiterator_next
  (wpAny_call_entry F.slot_dict_keyiterator_next hit.typeIs F.entry_dict_keyiterator_next ?_ (F.args_dict_keyiterator_next_1 _))))
 refine wpAny_bind (wpAny_pure ?_)
 refine wpAny_bind ?_
 refine wpAny_bind ?_
 first | refine wpAny_bind (wpAny_typeNameOfWhole_keyiter hit.typeIs (wpAny_pure ?_)) | refine wpAny_bind (wpAny_typeNameOf_keyiter hit.typeIs (wpAny_pure ?_))
 refine wpAny_bind (wpAny_fieldsOf ho hd ?_)
 have hown:Builtin.Dict_items.ownsTuple "dict_keyiterator" = false:=by decide
 simp only [hown,Bool.false_eq_true,if_false]
 show wpAny _ _ (if (Value.ref d == Value.none)=true then _ else _) _ _ s
 rw [if_neg (show ¬ ((Value.ref d == Value.none)=true) from Bool.false_ne_true)]
 refine wpAny_bind (wpAny_pure ?_)
 refine wpAny_bind (wpAny_dictEntries hod hdd ?_)
 rw [if_neg (by rw [hsz]; simp)]
 refine wpAny_bind (wpAny_pure ?_)
 refine wpAny_bind (wpAny_dictEpoch hod hdd ?_)
 rw [if_neg (by simp)]
 refine wpAny_pure ?_
 have hge':es.size <= i:=by rw [hsz]; exact hge
 simp only [show ¬ ((i:Int) < 0) from by omega,if_false,Int.toNat_natCast,Array.getElem?_eq_none hge']
 refine wpAny_bind ?_
 first | refine wpAny_bind (wpAny_typeNameOfWhole_keyiter hit.typeIs (wpAny_pure ?_)) | refine wpAny_bind (wpAny_typeNameOf_keyiter hit.typeIs (wpAny_pure ?_))
 show wpAny _ _ (setField (.ref it) 0 .none >>= _) _ _ s
 refine wpAny_bind (wpAny_setField ho hd (by simp) ?_)
 show wpAny _ _ (newExc (.type "StopIteration") [] >>= _) _ _ _
 refine wpAny_bind ?_
 simp only [newExc,newTuple]
 refine wpAny_bind (wpAny_newObj_type ?_ (by size_fits))
 refine wpAny_bind (m:=firstArgMember _ _) (wpAny_of_eq (a:=Value.none) (by first | rfl | (simp only [firstArgMember]; rfl)) ?_)
 refine wpAny_newObj_type ?_ (by size_fits)
 simp only [raiseNew]
 refine wpAny_bind (wpAny_handled ?_)
 rw [show A.in1.handled=none from hh]
 refine wpAny_bind (wpAny_pure (wpAny_throw ?_))
 refine wpAny_bind (wpAny_isInstance (T := "StopIteration") (b:=true) ⟨_,Heap.get?_push_size _ rfl,rfl⟩ isSubtype_stop ?_)
 exact wpAny_pure (hQ _ (((Heap.SameBut.update ..).extBut.push _).push _))
end
theorem ai1 {κ:Type} {kvs:List (κ × V)} {vs:List (κ × Value)} (h:KV kvs vs):∀ {i:Nat} {k:κ} {v:V},kvs[i]? = some (k,v)->∃ u,vs[i]? = some (k,u)/\RelV v u:=by
 unfold KV at h
 induction h with
 | nil=>intro i k v e; simp at e
 | @cons a b l₁ l₂ r t ih =>
  intro i k v e
  cases i with
  | zero =>
   simp only [List.getElem?_cons_zero,Option.some.injEq] at e
   subst e
   refine ⟨b.2,?_,r.2⟩
   simp only [List.getElem?_cons_zero]
   exact congrArg some (Prod.ext r.1.symm rfl)
  | succ j =>
   simp only [List.getElem?_cons_succ] at e ⊢
   exact ih e
theorem BW {α β:Type} {G:α->β->Prop} {l₁:List α} {l₂:List β} (h:Paired G l₁ l₂):∀ {i:Nat} {a:α},l₁[i]? = some a->∃ b,l₂[i]? = some b/\G a b:=by
 induction h with
 | nil=>intro i a e; simp at e
 | @cons a b l₁ l₂ r t ih =>
  intro i a' e
  cases i with
  | zero =>
   simp only [List.getElem?_cons_zero,Option.some.injEq] at e
   subst e
   exact ⟨b,rfl,r⟩
  | succ j =>
   simp only [List.getElem?_cons_succ] at e ⊢
   exact ih e
theorem afM {k:Key} {u:Value} (h:S7 k u=true):RelV (kV k) u:=by
 rcases CV h with ⟨i,t,rfl,rfl⟩ | ⟨x,t,rfl,rfl⟩
 ·exact ⟨t,rfl⟩
 ·exact ⟨t,rfl⟩
section
variable {X:Cx} {pins:List (Addr × Obj)} {σ:St} {H:Hp} {s:Shared} {d:Addr} {o:Obj}
theorem Inv.ajp {kvs:List (Key × V)} (I:Inv X pins σ H s) (h:H d=some (.frz o (.dK kvs))) :
  (d == sysModules)=false/\s.heap.get? d=some o/\o.ExactDict/\∃ (es:Array DictEntry) (ep:Nat) (vs:List (Key × Value)),o.data = .dict es ep/\es.size=kvs.length/\KV kvs vs/\s.heap.DictAt (CT X.prog X.w) d vs ep:=by
 obtain ⟨hd,z,hs,vs,kv,o',es,ep,ho,hx,hdt,r⟩:=I.hok d _ h
 rw [hd] at ho
 cases ho
 refine ⟨hs,hd,hx,es,ep,vs,hdt,?_,kv,o,es,hd,hx,hdt,r⟩
 have l1:=r.2.1.length
 have l2:kvs.length=vs.length:=Paired.length kv
 rw [Array.length_toList] at l1
 omega
theorem Inv.ajo {kvs:List (List Key × V)} (I:Inv X pins σ H s) (h:H d=some (.frz o (.dT kvs))) :
  (d == sysModules)=false/\s.heap.get? d=some o/\o.ExactDict/\∃ (es:Array DictEntry) (ep:Nat),o.data = .dict es ep/\es.size=kvs.length /\
   ∀ (i:Nat) (k:List Key) (v:V),kvs[i]? = some (k,v)->∃ (en:DictEntry) (q:Addr),es[i]? = some en/\en.key = .ref q/\H q=some (.tup (k.map kV)):=by
 obtain ⟨hd,z,hs,xs,pr,o',es,ep,ho,hx,hdt,he,_⟩:=I.hok d _ h
 rw [hd] at ho
 cases ho
 refine ⟨hs,hd,hx,es,ep,hdt,?_,fun i k v e=>?_⟩
 ·have l1:es.size=xs.length:=size_of_entries he
  have l2:kvs.length=xs.length:=Paired.length pr
  omega
 ·obtain ⟨b,hb,e1,e2,_⟩:=BW pr e
  have q:=entry_at he i
  rw [hb] at q
  exact ⟨_,b.2.1,q,rfl,e2⟩
end
def Itk (d:Addr) (o:Obj) (kvs:List (Key × V)):It :=
 ⟨fun i H=>H d=some (.frz o (.dK kvs))/\i < kvs.length,fun i H x H'=>H'=H/\∃ k v,kvs[i]? = some (k,v)/\x=kV k,fun i H=>H d=some (.frz o (.dK kvs))/\kvs.length <= i⟩
def akW (d:Addr) (o:Obj) (kvs:List (List Key × V)):It :=
 ⟨fun i H=>H d=some (.frz o (.dT kvs))/\i < kvs.length,fun i H x H'=>H'=H/\∃ (k:List Key) (v:V) (q:Addr),kvs[i]? = some (k,v)/\x = .ref q/\H q=some (.tup (k.map kV)),fun i H=>H d=some (.frz o (.dT kvs))/\kvs.length <= i⟩
theorem My {o:Obj} {es es':Array DictEntry} {ep ep':Nat} (h:o.data = .dict es ep) (h':o.data = .dict es' ep'):es'=es/\ep'=ep:=by
 rw [h] at h'
 cases h'
 exact ⟨rfl,rfl⟩
section
variable {P:Program} {w:World} {K:PySem.W.Frag} {tg:Expr} {d:Addr} {o:Obj} {es:Array DictEntry} {ep:Nat}
theorem aee {kvs:List (Key × V)} (it:Addr) (hod:o.data = .dict es ep):Turn P w K tg (Itk d o kvs) [it] it (fun i h=>h.IsKeyIter it d i kvs.length ep) where
 mem:=by simp
 obj:=fun i h st b hb=>by
  have e:b=it:=by simpa using hb
  subst e
  obtain ⟨oi,e,c,dd⟩:=st
  exact ⟨oi,e,fun v z=>by rw [dd] at z; cases z⟩
 keep:=fun i h h' st k=>st.at fun oi e=>k it (by simp) oi e
 item:=by
  intro X hP hw hK hc i pins s σ H E I hf st hg
  subst hP hw hK
  obtain ⟨hd,hi⟩:=hg
  obtain ⟨f0,f1,f2,f3,f4,f5⟩:=hf it (by simp)
  obtain ⟨hs,hgd,hx,es',ep',vs,hdt,hsz,kv,hm⟩:=I.ajp hd
  obtain ⟨rfl,rfl⟩:=My hod hdt
  obtain ⟨⟨k,v⟩,hkv⟩:∃ p,kvs[i]? = some p:=⟨kvs[i],List.getElem?_eq_getElem hi⟩
  obtain ⟨u,hu,ru⟩:=ai1 kv hkv
  have hl:kvs.length=vs.length:=Paired.length kv
  rw [hl] at st
  refine wpAny_pyNext_dict_item st hm hu fun key h' hkey st' sb=>?_
  have I1:Inv X pins σ H { s with heap:=h' }:=I.turned (t':=s.toks) (fun b ob hb e=>(sb.2 b hb).trans e) f0 f1 f3 f4 f5
  obtain ⟨oi,e,c,dd⟩:=id st'
  refine ⟨key,rfl,Wr (s:={ s with heap:=h' }) e c dd (by decide) ⟨kV k,H,I1,afM (show S7 k key=true from hkey),⟨rfl,k,v,hkv,rfl⟩,?_,fun b hb=>(hf b hb).1⟩⟩
  show h'.IsKeyIter it d (i + 1) kvs.length _
  rw [hl]
  exact st'
 done:=by
  intro X hP hw hK hc i pins s σ H E I hf st hg
  subst hP hw hK
  obtain ⟨hd,hi⟩:=hg
  obtain ⟨f0,f1,f2,f3,f4,f5⟩:=hf it (by simp)
  obtain ⟨hs,hgd,hx,es',ep',vs,hdt,hsz,kv,hm⟩:=I.ajp hd
  obtain ⟨rfl,rfl⟩:=My hod hdt
  exact JH (I.ok.hd hc) st hgd hdt hsz hi fun h' eb=>⟨rfl,I.turned (t':=s.toks) (fun b ob hb e=>eb b ob hb e) f0 f1 f3 f4 f5⟩
 self:=fun A i s Q E st h=>wpAny_pyIter_keyiter st h
theorem ace {kvs:List (List Key × V)} (it:Addr) (hod:o.data = .dict es ep):Turn P w K tg (akW d o kvs) [it] it (fun i h=>h.IsKeyIter it d i kvs.length ep) where
 mem:=by simp
 obj:=fun i h st b hb=>by
  have e:b=it:=by simpa using hb
  subst e
  obtain ⟨oi,e,c,dd⟩:=st
  exact ⟨oi,e,fun v z=>by rw [dd] at z; cases z⟩
 keep:=fun i h h' st k=>st.at fun oi e=>k it (by simp) oi e
 item:=by
  intro X hP hw hK hc i pins s σ H E I hf st hg
  subst hP hw hK
  obtain ⟨hd,hi⟩:=hg
  obtain ⟨f0,f1,f2,f3,f4,f5⟩:=hf it (by simp)
  obtain ⟨hs,hgd,hx,es',ep',hdt,hsz,ent⟩:=I.ajo hd
  obtain ⟨rfl,rfl⟩:=My hod hdt
  obtain ⟨⟨k,v⟩,hkv⟩:∃ p,kvs[i]? = some p:=⟨kvs[i],List.getElem?_eq_getElem hi⟩
  obtain ⟨en,q,hen,hkey,hq⟩:=ent i k v hkv
  refine NP st hgd hdt hsz hen fun h' st' sb=>?_
  have I1:Inv X pins σ H { s with heap:=h' }:=I.turned (t':=s.toks) (fun b ob hb e=>(sb.2 b hb).trans e) f0 f1 f3 f4 f5
  obtain ⟨oi,e,c,dd⟩:=id st'
  exact ⟨en.key,rfl,Wr (s:={ s with heap:=h' }) e c dd (by decide) ⟨.ref q,H,I1,hkey,⟨rfl,k,v,q,hkv,rfl,hq⟩,st',fun b hb=>(hf b hb).1⟩⟩
 done:=by
  intro X hP hw hK hc i pins s σ H E I hf st hg
  subst hP hw hK
  obtain ⟨hd,hi⟩:=hg
  obtain ⟨f0,f1,f2,f3,f4,f5⟩:=hf it (by simp)
  obtain ⟨hs,hgd,hx,es',ep',hdt,hsz,ent⟩:=I.ajo hd
  obtain ⟨rfl,rfl⟩:=My hod hdt
  exact JH (I.ok.hd hc) st hgd hdt hsz hi fun h' eb=>⟨rfl,I.turned (t':=s.toks) (fun b ob hb e=>eb b ob hb e) f0 f1 f3 f4 f5⟩
 self:=fun A i s Q E st h=>by
  refine wpAny_pyIter_slot st.typeIs F.slot_dict_keyiterator_iter (wpAny_call_entry F.slot_dict_keyiterator_iter st.typeIs F.entry_dict_keyiterator_iter ?_ (F.args_dict_keyiterator_iter_1 _))
  show wpAny _ _ (ret (.ref it)) _ _ s
  exact wpAny_pure ⟨_,rfl, "dict_keyiterator",_,st.typeIs,F.slot_dict_keyiterator_next.lookup,h⟩
end
def aki (td:TE):TI:=fun σ H R=>td σ H fun x H1=>∃ d o,x = .ref d/\((∃ kvs,H1 d=some (.frz o (.dK kvs))/\R (Itk d o kvs) H1) \/ ∃ kvs,H1 d=some (.frz o (.dT kvs))/\R (akW d o kvs) H1)
section
variable {X:Cx} {tg e:Expr} {td:TE} {apos cpos:Pos}
theorem ahf (he:PE X e td):PI X tg e (aki td):=by
 intro pins s σ H R I h
 refine thn (he pins s σ H _ I h) fun u s1 ⟨x,H1,I1,rx,d,o,ex,q⟩=>?_
 subst ex
 obtain rfl:u=Value.ref d:=rx
 rcases q with ⟨kvs,hd,q⟩ | ⟨kvs,hd,q⟩
 ·obtain ⟨hs,hgd,hx,es,ep,vs,hdt,hsz,kv,hm⟩:=I1.ajp hd
  refine Rv hs hgd hx hdt (Oj (tk:=s1.toks) I1 _ (aee _ hdt) ⟨_,Heap.get?_push_size _ rfl,rfl,?_⟩ q)
  rw [hsz] <;> rfl
 ·obtain ⟨hs,hgd,hx,es,ep,hdt,hsz,ent⟩:=I1.ajo hd
  refine Rv hs hgd hx hdt (Oj (tk:=s1.toks) I1 _ (ace _ hdt) ⟨_,Heap.get?_push_size _ rfl,rfl,?_⟩ q)
  rw [hsz] <;> rfl
end
def Ite (K:PySem.W.Frag) (a:Addr):It :=
 ⟨fun i H=>∃ (xs:List V) (x:V),SqL K H a xs/\xs[i]? = some x,fun i H v H'=>∃ T x,v = .ref T/\H T=none/\H'=upd H T (.tup [.int (i:Nat),x])/\∀ xs,SqL K H a xs->xs[i]? = some x,fun i H=>∃ xs:List V,SqL K H a xs/\xs.length <= i⟩
theorem aef {P:Program} {w:World} {K:PySem.W.Frag} {elts:List Expr} {kk:Nat} {tpos:Pos} (a e it:Addr) :
  Turn P w K (.Tuple elts kk tpos) (Ite K a) [e,it] e (fun i h=>(∃ old,IsEnum h e it ((i:Nat):Int) old)/\h.IsListIter it a i/\e ≠ it) where
 mem:=by simp
 obj:=fun i h st b hb=>by
  obtain ⟨⟨old,he⟩,⟨o,ho,hc,hd⟩,_⟩:=st
  have e':b=e \/ b=it:=by simpa using hb
  rcases e' with z | z
  ·rw [z]; exact ⟨_,he,fun v q=>nomatch q⟩
  ·rw [z]; exact ⟨o,ho,fun v q=>by rw [hd] at q; cases q⟩
 keep:=fun i h h' st k=>let ⟨⟨old,he⟩,hi,hne⟩:=st; ⟨⟨old,k e (by simp) _ he⟩,hi.at fun o q=>k it (by simp) o q,hne⟩
 item:=by
  intro X hP hw hK hc i pins s σ H E I hf st hg
  subst hP hw hK
  obtain ⟨⟨old,he⟩,hit,hne⟩:=st
  obtain ⟨xs,x,hq,hx⟩:=hg
  obtain ⟨its,rv,p,hz⟩:=I.list hq
  obtain ⟨u,hu,ru⟩:=rv.get hx
  have hel:e < s.heap.objs.size:=Heap.lt_size he
  have hil:it < s.heap.objs.size:=by obtain ⟨_,q,_⟩:=hit; exact Heap.lt_size q
  refine wpAny_pyNext_enum_item he hit p.isList (x:=u) (by simpa using hu) hne fun h' ho hit' hT hsz hk=>?_
  refine ⟨_,rfl,wpAny_letOwnedTupleGo_enum (s:={ s with heap:=h',toks:=s.toks + 1 }) ho fun h'' he' sb=>?_⟩
  have hT2:h''.get? s.heap.objs.size=some { cls:=.type "tuple",data:=.seq #[.int i s.toks,u] }:=(sb.2 _ (Nat.ne_of_gt hel)).trans hT
  have new:Ds X.prog X.w (upd H s.heap.objs.size (.tup [.int (i:Nat),x])) h'' s.heap.objs.size (.tup [.int (i:Nat),x]) :=
   ⟨by show 2 <= sizeLine; decide,[.int i s.toks,u],.cons ⟨_,rfl⟩ (.cons ru .nil),⟨_,hT2,rfl,_,rfl⟩⟩
  have I1:Inv X pins σ (upd H s.heap.objs.size (.tup [.int (i:Nat),x])) { s with heap:=h'',toks:=s.toks + 1 } :=
   I.QK (ch:=[e,it]) (fun b ob hb q=>(sb.2 b (fun z=>hb (by simp [z]))).trans (hk b ob (fun z=>hb (by simp [z])) (fun z=>hb (by simp [z])) q)) hf (Nat.le_refl _) new
  refine ⟨.ref s.heap.objs.size,_,I1,rfl,⟨_,x,rfl,I.hok.fresh (Nat.le_refl _),rfl,fun ys hy=>by rw [I.Wd hy hq]; exact hx⟩,⟨⟨u,?_⟩,hit'.at fun o q=>(sb.2 it (Ne.symm hne)).trans q,hne⟩,fun b hb=>?_⟩
  ·have e1:((i + 1:Nat):Int)=(i:Int) + 1:=by omega
   rw [e1]; exact he'
  ·have hb':b < s.heap.objs.size:=by
    have e':b=e \/ b=it:=by simpa using hb
    rcases e' with z | z
    ·rw [z]; exact hel
    ·rw [z]; exact hil
   rw [Ah (Nat.ne_of_lt hb')]
   exact (hf b hb).1
 done:=by
  intro X hP hw hK hc i pins s σ H E I hf st hg
  subst hP hw hK
  obtain ⟨⟨old,he⟩,hit,hne⟩:=st
  obtain ⟨xs,hq,hx⟩:=hg
  obtain ⟨its,rv,p,hz⟩:=I.list hq
  obtain ⟨f0,f1,f2,f3,f4,f5⟩:=hf it (by simp)
  have hl:=rv.length
  exact wpAny_pyNext_enum_end (I.ok.hd hc) he hit p.isList (by simp; omega) fun h' eb=>⟨rfl,I.turned (t':=s.toks) (fun b o hb q=>eb b o hb q) f0 f1 f3 f4 f5⟩
 self:=fun A i s Q E st h=>let ⟨⟨_,he⟩,_⟩:=st; wpAny_pyIter_enum he h
def akj (K:PySem.W.Frag) (ta:TA):TI:=fun σ H R=>ta σ H fun vs H1=>∃ a xs,vs=[.ref a]/\SqL K H1 a xs/\R (Ite K a) H1
theorem Mp {X:Cx} {e:Expr} {ta:TA} {p pos tpos:Pos} {elts:List Expr} {kk:Nat} (hg:Gl X "enumerate") (hm:X.mg "enumerate" = none) (ha:PA X [e] ta) (hs:starEach [e] X.env=[(false,eval e X.env)]:=by rfl) :
  PI X (.Tuple elts kk tpos) (.Call (.Name "enumerate" p) [e] [] pos) (akj X.K ta):=by
 intro pins s σ H R I h
 refine Call_ (JK I hg hm boot_enumerate (PyProof.Rows.callWith_type1 (thn (ha pos pins s σ H _ I h) fun us s1 ⟨vs,H1,I1,r1,q1⟩=>?_) hs rfl))
 obtain ⟨a,xs,ex,hq,q⟩:=q1
 subst ex
 cases r1 with
 | cons r rr =>
  cases rr
  cases r
  obtain ⟨its,rv,p',hz⟩:=I1.list hq
  refine call_enumerate_list p'.isList fun h' he hit hsz hk=>wpAny_pyIter_enum he ?_
  have I2:Inv X pins σ H1 { s1 with heap:=h' }:=I1.kept (t':=s1.toks) hk
  refine ⟨s1.heap.objs.size + 1,[s1.heap.objs.size + 1,s1.heap.objs.size],_,_,H1,rfl,I2,aef a (s1.heap.objs.size + 1) s1.heap.objs.size,⟨⟨.none,he⟩,hit,Nat.succ_ne_self _⟩,fun b hb=>?_,q⟩
  have e':b=s1.heap.objs.size + 1 \/ b=s1.heap.objs.size:=by simpa using hb
  have hle:s1.heap.objs.size <= b:=by
   rcases e' with z | z
   ·rw [z]; exact Nat.le_add_right _ _
   ·rw [z]; exact Nat.le_refl _
  exact I1.ac3 hle (I1.hok.fresh hle)
end L2
section
namespace akY
open PySem PyProof.Rows
theorem agI {x y:Int} (hx:0 <= x) (hy:0 <= y):Builtin.bitOr x y=((x.toNat ||| y.toNat:Nat):Int):=by
 have e:=nat_or_add_and x.toNat y.toNat
 rw [bitOr_and,bitAnd_pp hx hy]
 omega
end akY
end
section
namespace TL
open PySem PySem.Builtin PySem.Builtin.Str PySem.StrLaws
end TL
end
namespace L2
open PySem PySem.Spec PyProof.Rows
end L2
namespace Att
open PySem PySem.W PySem.Calls PyProof.Rows
end Att
namespace L2
open PySem PySem.Spec PyProof.Rows
end L2
namespace L2
open PySem PySem.Spec PyProof.Rows
def inClass (s:Stmt) (j:Nat):Stmt:=match s with
 | .ClassDef _ _ _ body _ _ _ _ _ _ _=>body.getD j (.Pass ⟨0,0,0,0⟩)
 | _=>.Pass ⟨0,0,0,0⟩
def G8 (s:Stmt):Arguments:=match s with
 | .FunctionDef _ a _ _ _ _ _ _ _ _=>a
 | _=>{ posonlyargs:=[],args:=[],vararg:=none,kwonlyargs:=[],kw_defaults:=[],kwarg:=none,defaults:=[] }
def Ex (s:Stmt):List Stmt:=match s with
 | .FunctionDef _ _ b _ _ _ _ _ _ _=>b
 | _=>[]
def Aj (s:Stmt):Scope:=match s with
 | .FunctionDef _ _ _ _ _ _ sc _ _ _=>sc
 | _=>{ kind:=.function,names:=[],isGenerator:=false,isCoroutine:=false }
abbrev CX0:CXT:=fun _ _ _ _ _ _=>False
abbrev E0:XK:=fun _ _ _=>False
theorem ah8 {X:Cx}:Passes CX0 X E0:=fun _ _ _ _ _ _ _ h=>h.elim
structure Fun (K:PySem.W.Frag) (x qual:Str) (st:Stmt) (f:Addr) (fd:FuncData):Prop where
 ex:∃ (oc:Value) (od:Option Addr) (kV doc pm:Value) (an:Option Addr) (cdv ct:Value) (osl:Array (Option Value)),
  fd=PySem.W.fnOf x qual (G8 st) (Ex st) (Aj st) .none kV doc pm an cdv ct/\K.lookup f=some ⟨oc,od,.func fd,osl⟩/\PySem.W.codeIn K cdv qual=true
 kp:PySem.W.keepIn K (.ref f)=true
section
variable {P:Program} {w:World} {K:PySem.W.Frag} {mg:Str->Option Value} {base:Heap}
theorem Fun.ok {x qual:Str} {st:Stmt} {f:Addr} {fd:FuncData} {N ps:List Str} {k:Nat} {sp:Sp} (F:Fun K x qual st f fd) (S:Ar N ps (Aj st)) (len:∀ vs H Q E,sp vs H Q E->vs.length=ps.length)
  (hbody:∀ (cdv:Value) (A:Around) (outer:List Env) (s:Shared) (H:Hp) (vs:List V) (Q:VK) (E:XK),Fq k (A.deeper (envOfC qual (Aj st) s.heap.objs.size f cdv))->sp vs H Q E ->
   ∃ t,PSs (aam CX0 P w K mg base N qual (Aj st) f cdv A outer s H E).nox (Ex st) t/\t { nx:=fun _ H'=>Q .non H',rt:=Q } (start N vs) H):Up P w K mg base CX0 (k + 1) f fd ps sp:=by
 obtain ⟨oc,od,kV,doc,pm,an,cdv,ct,osl,rfl,lk,hcd⟩:=F.ex
 refine aie lk hcd S len fun A outer s H vs Q E hr hsp=>?_
 obtain ⟨t,h,q⟩:=hbody cdv A outer s H vs Q E hr hsp
 exact ⟨t,h.nox,q⟩
theorem Fun.binds {x qual:Str} {st:Stmt} {f:Addr} {fd:FuncData} {ps:List Str} (F:Fun K x qual st f fd)
  (h:∀ (kV doc pm:Value) (an:Option Addr) (cdv ct:Value) (us:List Value),us.length=ps.length->bindArgs (PySem.W.fnOf x qual (G8 st) (Ex st) (Aj st) .none kV doc pm an cdv ct) ⟨us,[]⟩=pure (ps.zip us)):Binds K fd ps []:=by
 obtain ⟨oc,od,kV,doc,pm,an,cdv,ct,osl,rfl,lk,hcd⟩:=F.ex
 exact .all (h kV doc pm an cdv ct)
theorem Ws {x qual:Str} {st:Stmt} {f:Addr} {oc:Value} {od an:Option Addr} {osl:Array (Option Value)} {kV doc pm cdv ct:Value} (l:K.lookup f=some ⟨oc,od,.func (PySem.W.fnOf x qual (G8 st) (Ex st) (Aj st) .none kV doc pm an cdv ct),osl⟩)
  (c:PySem.W.codeIn K cdv qual=true) (k:PySem.W.keepIn K (.ref f)=true):Fun K x qual st f (PySem.W.fnOf x qual (G8 st) (Ex st) (Aj st) .none kV doc pm an cdv ct):=⟨⟨oc,od,kV,doc,pm,an,cdv,ct,osl,rfl,l,c⟩,k⟩
end
theorem Jk {A:Around} {k:Nat} (hr:Fq k A):A.units + 1 < cLine:=Nat.lt_of_le_of_lt (Nat.add_le_add_left (by decide:1 <= 64) _) hr.units
section
variable {X:Cx}
theorem pv (i:Nat) {x:Str} {pos:Pos} (hN:X.N[i]? = some x:=by rfl) (hv:Vis X.env.scope x:=by first | exact Or.inl rfl | exact Or.inr (Or.inl rfl) | exact Or.inr (Or.inr rfl)) (hd:(x == ("__debug__" : Str))=false:=by decide)
  (hcd:(x == ("__classdict__" : Str))=false:=by decide):PE X (.Name x pos) (ajM i):=aiI hN hv hd hcd
end
theorem Fg {A B:Prop} (h:B):if false=true then A else B:=by
 rw [if_neg Bool.false_ne_true]
 exact h
theorem Dy {A B:Prop} (h:A):if true=true then A else B:=by
 rw [if_pos rfl]
 exact h
theorem BP {c A B:Prop} [Decidable c] (h1:c->A) (h2:¬ c->B):if c then A else B:=by
 by_cases h:c
 ·rw [if_pos h]
  exact h1 h
 ·rw [if_neg h]
  exact h2 h
def Ag (H H':Hp):Prop:=∀ b o,H b=some o->H' b=some o
theorem Ag.refl (H:Hp):Ag H H:=fun _ _ h=>h
theorem Ag.trans {H H1 H2:Hp} (a:Ag H H1) (b:Ag H1 H2):Ag H H2:=fun c o h=>b c o (a c o h)
theorem Ag.free {H H':Hp} (e:Ag H H') {l:Addr} (h:H' l=Option.none):H l=Option.none:=by
 cases q:H l with
 | none=>rfl
 | some o =>
  rw [e l o q] at h
  cases h
theorem Ag.seq {K:PySem.W.Frag} {H H':Hp} {a:Addr} {xs:List V} (e:Ag H H') (h:SqL K H a xs):SqL K H' a xs:=by
 rcases h with (h | ⟨o,h⟩) | h
 ·exact .inl (.inl (e _ _ h))
 ·exact .inl (.inr ⟨o,e _ _ h⟩)
 ·exact .inr h
section
variable {κ:Type} [DecidableEq κ]
theorem agV {kvs:List (κ × V)} {k:κ} {v:V} (h:Er kvs k=some v):k ∈ kvs.map (·.1):=by
 have q:(kvs.any fun kv=>decide (kv.1=k))=true:=by
  rw [Ip,h]
  all_goals rfl
 obtain ⟨p,hp,e⟩:=List.any_eq_true.mp q
 exact List.mem_map.mpr ⟨p,hp,of_decide_eq_true e⟩
theorem Z3:∀ {l:List κ} {k:κ},l.Nodup -> ¬ k ∈ l->(l ++ [k]).Nodup
 | [],k,_,_=>by simp
 | a :: r,k,h,hk=>by
  obtain ⟨h1,h2⟩:=List.nodup_cons.mp h
  show (a :: (r ++ [k])).Nodup
  refine List.nodup_cons.mpr ⟨fun m=>?_,Z3 h2 fun m=>hk (List.mem_cons.mpr (Or.inr m))⟩
  rcases List.mem_append.mp m with q | q
  ·exact h1 q
  ·exact hk (List.mem_cons.mpr (Or.inl (List.mem_singleton.mp q).symm))
end
theorem at_of {xs:List V} {z:Int} {j:Nat} {v:V} (e:z=(j:Int)) (h:xs[j]? = some v):atI xs z=some v:=by
 rw [e]
 exact ad2 h
theorem aia {α:Type} {l:List α} (hN:l.Nodup) {i j:Nat} {x:α} (a:l[i]? = some x) (b:l[j]? = some x):i=j:=by
 obtain ⟨h1,e1⟩:=List.getElem?_eq_some_iff.mp a
 obtain ⟨h2,e2⟩:=List.getElem?_eq_some_iff.mp b
 exact (List.getElem_inj hN).mp (e1.trans e2.symm)
theorem Ag.made {H H1:Hp} {x dx C:Addr} (nx:H x=Option.none) (nd:H dx=Option.none) (k:∀ b o,(upd (upd H dx (.own x)) x (.ins C dx [])) b=some o->b ≠ x->H1 b=some o):Ag H H1:=fun b o e =>
 k b o (by rw [Ah (Bh e nx),Ah (Bh e nd)]; exact e) (Bh e nx)
end L2
section
namespace L2
open PySem PySem.Spec PyProof.Rows
open PySem.W (WData Codec OpenSpec Well WellAll ReadsW ReadsAllW)
mutual
inductive Dw (K:PySem.W.Frag) (H:Hp):V->WData->Prop
 | non:Dw K H .non .none
 | bl (b:Bool):Dw K H (.bl b) (.bool b)
 | int (i:Int):Dw K H (.int i) (.int i)
 | str (x:Str):Dw K H (.str x) (.str x)
 | byt (b:Array UInt8):Dw K H (.byt b) (.bytes b.toList)
 | lst {a:Addr} {xs:List V} {ds:List WData}:SqL K H a xs->LR K H xs ds->Dw K H (.ref a) (.list ds)
 | tup {a:Addr} {xs:List V} {ds:List WData}:SqT K H a xs->LR K H xs ds->Dw K H (.ref a) (.tuple ds)
inductive LR (K:PySem.W.Frag) (H:Hp):List V->List WData->Prop
 | nil:LR K H [] []
 | cons {v:V} {vs:List V} {d:WData} {ds:List WData}:Dw K H v d->LR K H vs ds->LR K H (v :: vs) (d :: ds)
end
theorem adV {K:PySem.W.Frag} {H:Hp}:∀ ns:List Int,LR K H (ns.map V.int) (ns.map WData.int)
 | []=>.nil
 | n :: r=>.cons (.int n) (adV r)
theorem Z9 {K:PySem.W.Frag} {H:Hp}:∀ (ns:List Int) (xs:List V),LR K H xs (ns.map WData.int)->xs=ns.map V.int
 | [],xs,h=>by
  cases h
  rfl
 | n :: r,xs,h=>by
  cases h with
  | cons h1 h2 =>
   cases h1
   rw [Z9 r _ h2] <;> rfl
section
variable {P:Program} {w:World} {K:PySem.W.Frag} {H:Hp} {h:Heap} {R:PySem.W.WRecords} {cl:Str->Option Addr}
theorem aiA {a:Addr} {xs:List V} (hok:HOk P w H h) (KX:K.In h) (q:SqL K H a xs):∃ (its:List Value) (o:Obj) (n:Nat),Vals xs its/\h.get? a=some o/\o.cls = .type "list" /\ o.data = .seq its.toArray n:=by
 rcases q with q | ⟨o,its,n,e,hc,_,hd,_,hv⟩
 ·obtain ⟨_,its,n,hv,e⟩:=(show Ds P w H h a (.lst xs) from q.ok hok)
  exact ⟨its,_,n,hv,e,rfl,rfl⟩
 ·exact ⟨its.toList,o,n,hv,KX _ _ e,hc,by simp [hd]⟩
theorem aiz {a:Addr} {xs:List V} (hok:HOk P w H h) (KX:K.In h) (q:SqT K H a xs):∃ (its:List Value) (o:Obj) (n:Nat),Vals xs its/\h.get? a=some o/\o.cls = .type "tuple" /\ o.data = .seq its.toArray n:=by
 rcases q with q | ⟨o,its,n,e,hc,hd,_,hv⟩
 ·obtain ⟨_,its,hv,o,e,hc,n,hd⟩:=(show Ds P w H h a (.tup xs) from q.ok hok)
  exact ⟨its,o,n,hv,e,hc,hd⟩
 ·exact ⟨its.toList,o,n,hv,KX _ _ e,hc,by simp [hd]⟩
mutual
theorem Dw.reads (hok:HOk P w H h) (KX:K.In h):∀ (d:WData) (v:V) (u:Value),Dw K H v d->RelV v u->∃ as,ReadsW R cl h u d as
 | .none,_,_,x,r=>by
  cases x
  cases r
  exact ⟨_,ReadsW.none⟩
 | .bool b,_,_,x,r=>by
  cases x
  cases r
  exact ⟨_,ReadsW.bool b⟩
 | .int i,_,_,x,r=>by
  cases x
  obtain ⟨t,rfl⟩:=r
  exact ⟨_,ReadsW.int i t⟩
 | .str s,_,_,x,r=>by
  cases x
  obtain ⟨t,rfl⟩:=r
  exact ⟨_,ReadsW.str s t⟩
 | .bytes b,_,_,x,r=>by
  cases x
  obtain ⟨t,rfl⟩:=r
  exact ⟨_,ReadsW.bytes _ t⟩
 | .list ds,_,_,x,r=>by
  cases x with
  | lst hs ha =>
   cases r
   obtain ⟨its,o,n,rv,ho,hc,hd⟩:=aiA hok KX hs
   obtain ⟨as,hr⟩:=Dw.readsAll hok KX ds _ its ha rv
   exact ⟨_,ReadsW.list ho hc hd hr⟩
 | .tuple ds,_,_,x,r=>by
  cases x with
  | tup hs ha =>
   cases r
   obtain ⟨its,o,n,rv,ho,hc,hd⟩:=aiz hok KX hs
   obtain ⟨as,hr⟩:=Dw.readsAll hok KX ds _ its ha rv
   exact ⟨_,ReadsW.tuple ho hc hd hr⟩
 | .float _,_,_,x,_=>by cases x
 | .dict _,_,_,x,_=>by cases x
 | .bytearray _,_,_,x,_=>by cases x
 | .set _,_,_,x,_=>by cases x
 | .frozenset _,_,_,x,_=>by cases x
 | .obj _ _,_,_,x,_=>by cases x
theorem Dw.readsAll (hok:HOk P w H h) (KX:K.In h):∀ (ds:List WData) (vs:List V) (us:List Value),LR K H vs ds->Vals vs us->∃ as,ReadsAllW R cl h us ds as
 | [],_,_,x,r=>by
  cases x
  cases r
  exact ⟨_,ReadsAllW.nil⟩
 | d :: ds,_,_,x,r=>by
  cases x with
  | cons h1 h2 =>
   cases r with
   | cons r1 r2 =>
    obtain ⟨as,q1⟩:=Dw.reads hok KX d _ _ h1 r1
    obtain ⟨bs,q2⟩:=Dw.readsAll hok KX ds _ _ h2 r2
    exact ⟨_,ReadsAllW.cons q1 q2⟩
end
end
mutual
def plW:WData->Bool
 | .none=>true
 | .bool _=>true
 | .int _=>true
 | .str _=>true
 | .bytes _=>true
 | .list xs=>TX xs
 | .tuple xs=>TX xs
 | _=>false
def TX:List WData->Bool
 | []=>true
 | x :: r=>plW x && TX r
end
theorem aa5 {α:Type} {f:α->WData} (h:∀ a,plW (f a)=true):∀ l:List α,TX (l.map f)=true
 | []=>rfl
 | x :: r=>by
  show (plW (f x) && TX (r.map f))=true
  rw [h x,aa5 h r] <;> rfl
theorem KR:∀ (c:Codec) (a:c.denote),plW (c.enc a)=true
 | .unit,_=>rfl
 | .bool,_=>rfl
 | .int _ _,_=>rfl
 | .nat _ _,_=>rfl
 | .u8,_=>rfl
 | .bytes _ _,_=>rfl
 | .text _ _ _ _,_=>rfl
 | .list _ _ c,a=>aa5 (fun x=>KR c x) a
 | .pair c d,a=>by
  show (plW (c.enc a.1) && (plW (d.enc a.2) && true))=true
  rw [KR c a.1,KR d a.2] <;> rfl
 | .triple c d e,a=>by
  show (plW (c.enc a.1) && (plW (d.enc a.2.1) && (plW (e.enc a.2.2) && true)))=true
  rw [KR c a.1,KR d a.2.1,KR e a.2.2] <;> rfl
 | .option c,none=>rfl
 | .option c,some x=>KR c x
theorem Yz:∀ (cs:List Codec) (a:Codec.denoteAll cs),TX (Codec.encAll cs a)=true
 | [],_=>rfl
 | c :: cs,a=>by
  show (plW (c.enc a.1) && TX (Codec.encAll cs a.2))=true
  rw [KR c a.1,Yz cs a.2] <;> rfl
theorem N8:∀ {xs:List WData} {d:WData},d ∈ xs->d.weight <= WData.weightAll xs
 | [],d,h=>absurd h (by simp)
 | x :: r,d,h=>by
  show d.weight <= x.weight + 1 + WData.weightAll r
  rcases List.mem_cons.mp h with e | m
  ·rw [e]
   omega
  ·have z:=N8 m
   omega
def toV:Value->V
 | .none=>.non
 | .bool b=>.bl b
 | .int i _=>.int i
 | .str x _=>.str x
 | .bytes b _=>.byt b
 | .ref a=>.ref a
 | _=>.non
def OkU (A:List Addr):Value->Prop
 | .none=>True
 | .bool _=>True
 | .int _ _=>True
 | .str _ _=>True
 | .bytes _ _=>True
 | .ref a=>a ∈ A
 | _=>False
theorem OkU.mono {A B:List Addr} (h:∀ a ∈ A,a ∈ B):∀ {u:Value},OkU A u->OkU B u:=fun {u} x=>by
 cases u with
 | ref a=>exact h a x
 | none=>trivial
 | bool b=>trivial
 | int i t=>trivial
 | str s t=>trivial
 | bytes b t=>trivial
 | _=>exact False.elim x
theorem afL {A:List Addr} {u:Value} (x:OkU A u):RelV (toV u) u:=by
 cases u with
 | ref a=>rfl
 | none=>rfl
 | bool b=>rfl
 | int i t=>exact ⟨t,rfl⟩
 | str s t=>exact ⟨t,rfl⟩
 | bytes b t=>exact ⟨t,rfl⟩
 | _=>exact False.elim x
theorem Io {A:List Addr}:∀ {vs:List Value},(∀ u ∈ vs,OkU A u)->Vals (vs.map toV) vs
 | [],_=>.nil
 | u :: r,h=>.cons (afL (h u (List.mem_cons_self ..))) (Io fun x hx=>h x (List.mem_cons_of_mem _ hx))
def Kd (h:Heap) (A:List Addr) (a:Addr):Prop:=∃ vs:List Value,vs.length <= sizeLine/\(∀ u ∈ vs,OkU A u) /\
 (h.get? a=some { cls:=.type "list",data:=.seq vs.toArray } \/ h.get? a=some { cls:=.type "tuple",data:=.seq vs.toArray })
theorem Kd.mono {h:Heap} {A B:List Addr} {a:Addr} (k:∀ a ∈ A,a ∈ B) (x:Kd h A a):Kd h B a:=by
 obtain ⟨vs,h1,h2,h3⟩:=x
 exact ⟨vs,h1,fun u hu=>(h2 u hu).mono k,h3⟩
theorem Hx {P:Params} {h:Heap}:∀ {vs:List Value} {ds:List WData},WellAll P h vs ds->vs.length=ds.length
 | _,_,.nil=>rfl
 | _,_,.cons _ b=>by
  show _ + 1=_ + 1
  rw [Hx b]
theorem X7 {P:Params} {h:Heap} {v:Value} {ds:List WData} (x:Well P h v (.list ds)):∃ (a:Addr) (vs:List Value),v = .ref a/\h.get? a=some { cls:=.type "list",data:=.seq vs.toArray }/\WellAll P h vs ds:=by
 cases x with
 | list ho hall=>exact ⟨_,_,rfl,ho,hall⟩
theorem U6 {P:Params} {h:Heap} {v:Value} {ds:List WData} (x:Well P h v (.tuple ds)):∃ (a:Addr) (vs:List Value),v = .ref a/\h.get? a=some { cls:=.type "tuple",data:=.seq vs.toArray }/\WellAll P h vs ds:=by
 cases x with
 | tuple ho hall=>exact ⟨_,_,rfl,ho,hall⟩
theorem X8 {P:Params} {h:Heap} {us:List Value} {d:WData} {ds:List WData} (x:WellAll P h us (d :: ds)):∃ (v:Value) (vs:List Value),us=v :: vs/\Well P h v d/\WellAll P h vs ds:=by
 cases x with
 | cons a b=>exact ⟨_,_,rfl,a,b⟩
theorem adJ {n:Nat} (h:n <= 1048576):n <= sizeLine:=Nat.le_trans h (by decide)
section
variable {P:Params} {h:Heap}
mutual
theorem agL:∀ (d:WData) (v:Value),Well P h v d->plW d=true->d.weight <= 1048576->∃ A:List Addr,OkU A v/\∀ a ∈ A,Kd h A a
 | .none,_,x,_,_=>by
  cases x
  exact ⟨[],trivial,fun a m=>absurd m (by simp)⟩
 | .bool b,_,x,_,_=>by
  cases x
  exact ⟨[],trivial,fun a m=>absurd m (by simp)⟩
 | .int i,_,x,_,_=>by
  cases x
  exact ⟨[],trivial,fun a m=>absurd m (by simp)⟩
 | .str s,_,x,_,_=>by
  cases x
  exact ⟨[],trivial,fun a m=>absurd m (by simp)⟩
 | .bytes b,_,x,_,_=>by
  cases x
  exact ⟨[],trivial,fun a m=>absurd m (by simp)⟩
 | .list ds,_,x,p,z=>by
  obtain ⟨a,vs,rfl,ho,hall⟩:=X7 x
  have z2:WData.weightAll ds <= 1048576:=z
  obtain ⟨A,h1,h2⟩:=Qv ds _ hall p fun d hd=>Nat.le_trans (N8 hd) z2
  have k:∀ b ∈ A,b ∈ a :: A:=fun b hb=>List.mem_cons_of_mem _ hb
  refine ⟨a :: A,List.mem_cons_self ..,fun b hb=>?_⟩
  rcases List.mem_cons.mp hb with e | m
  ·rw [e]
   exact ⟨vs,adJ (by rw [Hx hall]; exact Nat.le_trans (PySem.W.length_le_weightAllW ds) z2),fun u hu=>(h1 u hu).mono k,.inl ho⟩
  ·exact (h2 b m).mono k
 | .tuple ds,_,x,p,z=>by
  obtain ⟨a,vs,rfl,ho,hall⟩:=U6 x
  have z2:WData.weightAll ds <= 1048576:=z
  obtain ⟨A,h1,h2⟩:=Qv ds _ hall p fun d hd=>Nat.le_trans (N8 hd) z2
  have k:∀ b ∈ A,b ∈ a :: A:=fun b hb=>List.mem_cons_of_mem _ hb
  refine ⟨a :: A,List.mem_cons_self ..,fun b hb=>?_⟩
  rcases List.mem_cons.mp hb with e | m
  ·rw [e]
   exact ⟨vs,adJ (by rw [Hx hall]; exact Nat.le_trans (PySem.W.length_le_weightAllW ds) z2),fun u hu=>(h1 u hu).mono k,.inr ho⟩
  ·exact (h2 b m).mono k
 | .float _,_,_,p,_=>Bool.noConfusion (show false=true from p)
 | .dict _,_,_,p,_=>Bool.noConfusion (show false=true from p)
 | .bytearray _,_,_,p,_=>Bool.noConfusion (show false=true from p)
 | .set _,_,_,p,_=>Bool.noConfusion (show false=true from p)
 | .frozenset _,_,_,p,_=>Bool.noConfusion (show false=true from p)
 | .obj _ _,_,_,p,_=>Bool.noConfusion (show false=true from p)
theorem Qv:∀ (ds:List WData) (vs:List Value),WellAll P h vs ds->TX ds=true->(∀ d ∈ ds,d.weight <= 1048576)->∃ A:List Addr,(∀ u ∈ vs,OkU A u)/\∀ a ∈ A,Kd h A a
 | [],_,x,_,_=>by
  cases x
  exact ⟨[],fun u m=>absurd m (by simp),fun a m=>absurd m (by simp)⟩
 | d :: ds,_,x,p,z=>by
  obtain ⟨v,vs,rfl,x1,x2⟩:=X8 x
  have q:plW d=true/\TX ds=true:=Bool.and_eq_true_iff.mp p
  obtain ⟨A,a1,a2⟩:=agL d v x1 q.1 (z d (List.mem_cons_self ..))
  obtain ⟨B,b1,b2⟩:=Qv ds vs x2 q.2 fun e he=>z e (List.mem_cons_of_mem _ he)
  have kA:∀ b ∈ A,b ∈ A ++ B:=fun b hb=>List.mem_append.mpr (.inl hb)
  have kB:∀ b ∈ B,b ∈ A ++ B:=fun b hb=>List.mem_append.mpr (.inr hb)
  refine ⟨A ++ B,fun u hu=>?_,fun b hb=>?_⟩
  ·rcases List.mem_cons.mp hu with e | m
   ·rw [e]
    exact a1.mono kA
   ·exact (b1 u m).mono kB
  ·rcases List.mem_append.mp hb with m | m
   ·exact (a2 b m).mono kA
   ·exact (b2 b m).mono kB
end
end
def ahB (o:Obj):Option HO:=match o.data with
 | .seq vs _=>if (o.cls == Value.type "list")=true then some (.frz o (.lst (vs.toList.map toV))) else some (.frz o (.tup (vs.toList.map toV)))
 | _=>none
def JN (K:PySem.W.Frag) (h:Heap) (A:List Addr):Hp:=fun b=>if b ∈ A then (if (K.lookup b).isNone=true then (h.get? b).bind ahB else none) else none
def aii (H:Hp):Prop:=∀ b,H b=none \/ ∃ o u,H b=some (.frz o u)
theorem abr (vs:List Value):ahB { cls:=.type "list",data:=.seq vs.toArray }=some (.frz { cls:=.type "list",data:=.seq vs.toArray } (.lst (vs.map toV))):=by
 show (if (Value.type "list" == Value.type "list")=true then some (HO.frz { cls:=.type "list",data:=.seq vs.toArray } (.lst (vs.toArray.toList.map toV))) else some (HO.frz { cls:=.type "list",data:=.seq vs.toArray } (.tup (vs.toArray.toList.map toV))))=_
 rw [if_pos (beq_self_eq_true _)]
theorem abq (vs:List Value):ahB { cls:=.type "tuple",data:=.seq vs.toArray }=some (.frz { cls:=.type "tuple",data:=.seq vs.toArray } (.tup (vs.map toV))):=by
 show (if (Value.type "tuple" == Value.type "list")=true then some (HO.frz { cls:=.type "tuple",data:=.seq vs.toArray } (.lst (vs.toArray.toList.map toV))) else some (HO.frz { cls:=.type "tuple",data:=.seq vs.toArray } (.tup (vs.toArray.toList.map toV))))=_
 rw [if_neg (by decide)]
section
variable {P:Program} {w:World} {K:PySem.W.Frag} {h:Heap} {A:List Addr}
theorem UW {b:Addr} {o:Obj} (hb:b ∈ A) (hk:K.lookup b=none) (e:h.get? b=some o):JN K h A b=ahB o:=by
 unfold JN
 rw [if_pos hb,hk,if_pos (show (none:Option Obj).isNone=true from rfl),e] <;> rfl
theorem ahq {b:Addr} {u:HO} (q:JN K h A b=some u):b ∈ A/\K.lookup b=none:=by
 unfold JN at q
 by_cases hb:b ∈ A
 ·rw [if_pos hb] at q
  cases hk:K.lookup b with
  | none=>exact ⟨hb,rfl⟩
  | some o =>
   rw [hk,if_neg (by simp)] at q
   cases q
 ·rw [if_neg hb] at q
  cases q
theorem UT (ar:∀ a ∈ A,Kd h A a) {b:Addr} {u:HO} (q:JN K h A b=some u):K.lookup b=none/\∃ vs:List Value,vs.length <= sizeLine/\(∀ u ∈ vs,OkU A u) /\
    ((h.get? b=some { cls:=.type "list",data:=.seq vs.toArray }/\u = .frz { cls:=.type "list",data:=.seq vs.toArray } (.lst (vs.map toV))) \/
     (h.get? b=some { cls:=.type "tuple",data:=.seq vs.toArray }/\u = .frz { cls:=.type "tuple",data:=.seq vs.toArray } (.tup (vs.map toV)))):=by
  obtain ⟨hb,hk⟩:=ahq q
  obtain ⟨vs,h1,h2,h3⟩:=ar b hb
  refine ⟨hk,vs,h1,h2,?_⟩
  rcases h3 with e | e
  · rw [UW hb hk e,abr] at q
    exact .inl ⟨e,(Option.some.inj q).symm⟩
  · rw [UW hb hk e,abq] at q
    exact .inr ⟨e,(Option.some.inj q).symm⟩
theorem afl (ar:∀ a ∈ A,Kd h A a):aii (JN K h A):=fun b=>by
 cases q:JN K h A b with
 | none=>exact .inl rfl
 | some u =>
  obtain ⟨_,vs,_,_,⟨_,e⟩ | ⟨_,e⟩⟩:=UT ar q
  ·exact .inr ⟨_,_,by rw [e]⟩
  ·exact .inr ⟨_,_,by rw [e]⟩
theorem ahY (ar:∀ a ∈ A,Kd h A a):HOk P w (JN K h A) h:=fun b u q=>by
 obtain ⟨_,vs,h1,h2,⟨e,rfl⟩ | ⟨e,rfl⟩⟩:=UT ar q
 ·exact ⟨e,by rw [List.length_map]; exact h1,vs,_,Io h2,e⟩
 ·exact ⟨e,by rw [List.length_map]; exact h1,vs,Io h2,_,e,rfl,_,rfl⟩
theorem Uu {c c':Value} {vs us:List Value} (e:(some { cls:=c,data:=.seq vs.toArray }:Option Obj)=some { cls:=c',data:=.seq us.toArray }):c=c'/\vs=us:=by
 have e1:=Option.some.inj e
 have e2:c=c':=congrArg Obj.cls e1
 have e3:Data.seq vs.toArray=Data.seq us.toArray:=congrArg Obj.data e1
 injection e3 with e4
 refine ⟨e2,?_⟩
 have e5:=congrArg Array.toList e4
 simpa using e5
theorem al3 (KX:K.In h) (ar:∀ a ∈ A,Kd h A a) {a:Addr} {vs:List Value} (ha:a ∈ A) (e:h.get? a=some { cls:=.type "list",data:=.seq vs.toArray }):(∀ u ∈ vs,OkU A u)/\SqL K (JN K h A) a (vs.map toV):=by
 obtain ⟨us,h1,h2,h3⟩:=ar a ha
 have hu:us=vs:=by
  rcases h3 with q | q
  ·rw [e] at q
   exact (Uu q).2.symm
  ·rw [e] at q
   exact absurd (Value.type.inj (Uu q).1) (by decide)
 subst hu
 refine ⟨h2,?_⟩
 cases hk:K.lookup a with
 | none=>exact .inl (.inr ⟨_,by rw [UW ha hk e,abr]⟩)
 | some o =>
  have e2:=KX a o hk
  rw [e] at e2
  obtain rfl:=Option.some.inj e2
  exact .inr ⟨_,us.toArray,_,hk,rfl,rfl,rfl,by rw [List.size_toArray]; exact h1,by simpa using Io h2⟩
theorem al2 (KX:K.In h) (ar:∀ a ∈ A,Kd h A a) {a:Addr} {vs:List Value} (ha:a ∈ A) (e:h.get? a=some { cls:=.type "tuple",data:=.seq vs.toArray }):(∀ u ∈ vs,OkU A u)/\SqT K (JN K h A) a (vs.map toV):=by
 obtain ⟨us,h1,h2,h3⟩:=ar a ha
 have hu:us=vs:=by
  rcases h3 with q | q
  ·rw [e] at q
   exact absurd (Value.type.inj (Uu q).1) (by decide)
  ·rw [e] at q
   exact (Uu q).2.symm
 subst hu
 refine ⟨h2,?_⟩
 cases hk:K.lookup a with
 | none=>exact .inl (.inr ⟨_,by rw [UW ha hk e,abq]⟩)
 | some o =>
  have e2:=KX a o hk
  rw [e] at e2
  obtain rfl:=Option.some.inj e2
  exact .inr ⟨_,us.toArray,_,hk,rfl,rfl,by rw [List.size_toArray]; exact h1,by simpa using Io h2⟩
mutual
theorem ajs {Pm:Params} (KX:K.In h) (ar:∀ a ∈ A,Kd h A a):∀ (d:WData) (v:Value),Well Pm h v d->plW d=true->OkU A v->Dw K (JN K h A) (toV v) d
 | .none,_,x,_,_=>by
  cases x
  exact .non
 | .bool b,_,x,_,_=>by
  cases x
  exact .bl b
 | .int i,_,x,_,_=>by
  cases x
  exact .int i
 | .str s,_,x,_,_=>by
  cases x
  exact .str s
 | .bytes b,_,x,_,_=>by
  cases x
  have z:=Dw.byt (K:=K) (H:=JN K h A) b.toArray
  exact z
 | .list ds,_,x,p,hu=>by
  obtain ⟨a,vs,rfl,ho,hall⟩:=X7 x
  obtain ⟨h2,hs⟩:=al3 KX ar hu ho
  exact .lst hs (aac KX ar ds _ hall p h2)
 | .tuple ds,_,x,p,hu=>by
  obtain ⟨a,vs,rfl,ho,hall⟩:=U6 x
  obtain ⟨h2,hs⟩:=al2 KX ar hu ho
  exact .tup hs (aac KX ar ds _ hall p h2)
 | .float _,_,_,p,_=>Bool.noConfusion (show false=true from p)
 | .dict _,_,_,p,_=>Bool.noConfusion (show false=true from p)
 | .bytearray _,_,_,p,_=>Bool.noConfusion (show false=true from p)
 | .set _,_,_,p,_=>Bool.noConfusion (show false=true from p)
 | .frozenset _,_,_,p,_=>Bool.noConfusion (show false=true from p)
 | .obj _ _,_,_,p,_=>Bool.noConfusion (show false=true from p)
theorem aac {Pm:Params} (KX:K.In h) (ar:∀ a ∈ A,Kd h A a):∀ (ds:List WData) (vs:List Value),WellAll Pm h vs ds->TX ds=true->(∀ u ∈ vs,OkU A u)->LR K (JN K h A) (vs.map toV) ds
 | [],_,x,_,_=>by
  cases x
  exact .nil
 | d :: ds,_,x,p,hu=>by
  obtain ⟨v,vs,rfl,x1,x2⟩:=X8 x
  have q:plW d=true/\TX ds=true:=Bool.and_eq_true_iff.mp p
  exact .cons (ajs KX ar d v x1 q.1 (hu _ (List.mem_cons_self ..))) (aac KX ar ds vs x2 q.2 fun u m=>hu u (List.mem_cons_of_mem _ m))
end
end
theorem Wm {ds:List WData} (h:WData.layableAll ds=true):∀ d ∈ ds,d.weight <= 1048576:=fun d hd =>
 (PySem.W.layableW_iff.mp (List.all_eq_true.mp h d hd)).2.2
theorem Wy:∀ (cs:List Codec) (a:Codec.denoteAll cs),(Codec.encAll cs a).length=cs.length
 | [],_=>rfl
 | c :: cs,a=>by
  show (Codec.encAll cs a.2).length + 1=cs.length + 1
  rw [Wy cs a.2]
end L2
end
namespace L2
open PySem PySem.Spec PyProof.Rows
section
variable {prog:Program} {w:World} {A:Around}
theorem ab6 (hh:A.handled=none) (I d:Addr) (hne:d ≠ I) {o:Obj} {es:Array DictEntry} {ep:Nat} (hdt:o.data = .dict es ep) :
  PySem.Walks prog w A I [I,d] [I] es.size (fun i v=>∃ en,es[i]? = some en/\v=en.key) (fun i h=>h.IsKeyIter I d i es.size ep/\h.get? d=some o) where
 sub:=fun b hb=>by simp at hb; simp [hb]
 frame:=fun _ _ _ st hk=>⟨st.1.at fun o e=>hk I (by simp) o e,hk d (by simp) o st.2⟩
 item:=fun i s Q E hi st hQ=>by
  refine NP st.1 st.2 hdt rfl (en:=es[i]) (by simp [hi]) fun h' st' sb=>?_
  exact hQ _ h' s.toks ⟨es[i],by simp [hi],rfl⟩ ⟨st',(sb.2 d hne).trans st.2⟩ fun b o hb e=>(sb.2 b (fun h=>hb (by simp [h]))).trans e
 done:=fun s Q E st hQ=>JH hh st.1 st.2 hdt rfl (Nat.le_refl _) fun h' eb=>hQ h' s.toks fun b o hb e=>eb b o (fun h=>hb (by simp [h])) e
 self:=fun i s Q E st h=>by
  refine wpAny_pyIter_slot st.1.typeIs F.slot_dict_keyiterator_iter (wpAny_call_entry F.slot_dict_keyiterator_iter st.1.typeIs F.entry_dict_keyiterator_iter ?_ (F.args_dict_keyiterator_iter_1 _))
  show wpAny _ _ (ret (.ref I)) _ _ s
  exact wpAny_pure ⟨_,rfl, "dict_keyiterator",_,st.1.typeIs,F.slot_dict_keyiterator_next.lookup,h⟩
theorem aaP {d:Addr} {o:Obj} {es:Array DictEntry} {ep:Nat} (lo:(d == sysModules)=false) (hx:o.ExactDict) (hdt:o.data = .dict es ep) :
  PySem.W.KdlSrc prog w "dict" d d es.size (fun i v=>∃ en,es[i]? = some en/\v=en.key) (fun h=>h.get? d=some o) where
 type:=fun s ho=>⟨o,ho,hx.1⟩
 there:=fun h ho=>⟨Heap.lt_size ho,Heap.lt_size ho⟩
 keep:=fun h h' ho hk=>hk d (.inl rfl) o ho
 notList:=by decide
 notTuple:=by decide
 hint:=fun A E s Q ho hq=>PySem.W.kdl_hint_dict ⟨o,ho,hx.1⟩ hq
 iter:=fun A s hh ho=>⟨_,_,fun E Q hq=>Rv lo ho hx hdt hq,ab6 hh _ d (Nat.ne_of_lt (Heap.lt_size ho)) hdt,⟨⟨_,Heap.get?_push_size _ rfl,rfl,rfl⟩,Heap.get?_push_of_some _ ho⟩⟩
end
theorem YH {α β:Type} {G:α->β->Prop}:∀ (l:List α) (m:List β),l.length=m.length->(∀ (i:Nat) a b,l[i]? = some a->m[i]? = some b->G a b)->Paired G l m
 | [],[],_,_=>.nil
 | [],_ :: _,h,_=>by simp at h
 | _ :: _,[],h,_=>by simp at h
 | a :: l,b :: m,h,g=>.cons (g 0 a b rfl rfl) (YH l m (by simpa using h) fun i x y hx hy=>g (i + 1) x y (by simpa using hx) (by simpa using hy))
theorem Rk {α β:Type} {G:α->β->Prop} {l:List α} {m:List β} (h:Paired G l m) {i:Nat} {a:α} {b:β} (ha:l[i]? = some a) (hb:m[i]? = some b):G a b:=by
 obtain ⟨b',e,g⟩:=BW h ha
 rw [hb] at e
 cases e
 exact g
abbrev W8 (H:Hp) (qs:List Addr) (ks:List (List Key)):Prop:=Paired (fun q k=>H q=some (.tup (k.map kV))) qs ks
section
variable {X:Cx} {pins:List (Addr × Obj)} {σ:St} {H:Hp} {s:Shared}
theorem Inv.dTr {d:Addr} {kvs:List (List Key × V)} (I:Inv X pins σ H s) (h:Rd H d (.dT kvs)):∃ (o:Obj) (es:Array DictEntry) (ep:Nat),(d == sysModules)=false/\s.heap.get? d=some o/\o.ExactDict/\o.data = .dict es ep/\es.size=kvs.length/\kvs.length <= sizeLine /\
  (kvs.map (·.1)).Nodup/\∀ (i:Nat) (k:List Key) (v:V),kvs[i]? = some (k,v)->∃ (en:DictEntry) (q:Addr),es[i]? = some en/\en.key = .ref q/\H q=some (.tup (k.map kV))/\RelV v en.val:=by
 obtain ⟨z,hs,xs,pr,o,es,ep,ho,hx,hdt,he,hn⟩:=h.ok I.hok
 refine ⟨o,es,ep,hs,ho,hx,hdt,?_,z,?_,fun i k v e=>?_⟩
 ·have l1:es.size=xs.length:=size_of_entries he
  have l2:kvs.length=xs.length:=Paired.length pr
  omega
 ·have e:kvs.map (·.1)=xs.map (·.1):=by
   clear he hn z h
   induction pr with
   | nil=>rfl
   | cons r t ih=>rw [List.map_cons,List.map_cons,ih,r.1]
  rw [e]; exact hn
 ·obtain ⟨b,hb,e1,e2,e3⟩:=BW pr e
  have q:=entry_at he i
  rw [hb] at q
  exact ⟨_,b.2.1,q,rfl,e2,e3⟩
theorem adL {es:Array DictEntry} {kvs:List (List Key × V)} (hsz:es.size=kvs.length) (ent:∀ (i:Nat) (k:List Key) (v:V),kvs[i]? = some (k,v)->∃ (en:DictEntry) (q:Addr),es[i]? = some en/\en.key = .ref q/\H q=some (.tup (k.map kV))/\RelV v en.val)
  {vs:List Value} (hl:vs.length=kvs.length) (hv:∀ (j:Nat) v,vs[j]? = some v->∃ en,es[j]? = some en/\v=en.key):∃ qs:List Addr,vs=qs.map Value.ref/\W8 H qs (kvs.map (·.1)):=by
 have one:∀ (j:Nat) v,vs[j]? = some v->∃ q,v=Value.ref q/\∃ k w,kvs[j]? = some (k,w)/\H q=some (.tup (k.map kV)):=fun j v e=>by
  obtain ⟨en,e1,e2⟩:=hv j v e
  have hj:j < kvs.length:=by rw [<- hl]; exact (List.getElem?_eq_some_iff.mp e).1
  obtain ⟨en',q,e3,e4,e5,_⟩:=ent j kvs[j].1 kvs[j].2 (List.getElem?_eq_getElem hj)
  rw [e1] at e3
  cases e3
  exact ⟨q,e2.trans e4,kvs[j].1,kvs[j].2,List.getElem?_eq_getElem hj,e5⟩
 have all:∀ (us:List Value),(∀ v ∈ us,∃ q,v=Value.ref q)->∃ qs:List Addr,us=qs.map Value.ref:=fun us=>by
  induction us with
  | nil=>intro _; exact ⟨[],rfl⟩
  | cons u us ih =>
   intro hu
   obtain ⟨q,rfl⟩:=hu u (List.mem_cons_self ..)
   obtain ⟨qs,rfl⟩:=ih fun v hv=>hu v (List.mem_cons_of_mem _ hv)
   exact ⟨q :: qs,rfl⟩
 obtain ⟨qs,e⟩:=all vs fun v hv=>by
  obtain ⟨j,hj⟩:=List.mem_iff_getElem?.mp hv
  obtain ⟨q,e,_⟩:=one j v hj
  exact ⟨q,e⟩
 refine ⟨qs,e,YH _ _ (by rw [List.length_map,<- hl,e,List.length_map]) fun i q k hq hk=>?_⟩
 obtain ⟨q',e1,k',w,e2,e3⟩:=one i (Value.ref q) (by rw [e,List.getElem?_map,hq]; rfl)
 cases e1
 rw [List.getElem?_map,e2] at hk
 cases hk
 exact e3
theorem QH:∀ qs:List Addr,Vals (qs.map V.ref) (qs.map Value.ref)
 | []=>.nil
 | q :: qs=>.cons rfl (QH qs)
theorem W8.length {qs:List Addr} {ks:List (List Key)} (h:W8 H qs ks):qs.length=ks.length:=Paired.length h
theorem adh (hc:X.calm=true):Kc X (.type "list") (fun xs H Q=>∃ d kvs,xs=[.ref d]/\Rd H d (.dT kvs)/\∀ l qs,H l=none->W8 H qs (kvs.map (·.1))->Q (.ref l) (upd H l (.lst (qs.map V.ref)))):=by
 intro pins s σ H xs us Q I r h
 obtain ⟨d,kvs,rfl,hd,q⟩:=h
 rw [Vals.acw r]
 obtain ⟨o,es,ep,lo,ho,hx,hdt,hsz,hz,hn,ent⟩:=I.dTr hd
 refine PySem.W.kdl_call (aaP lo hx hdt) (I.ok.hd hc) ho (by omega) fun h' tk acc' c' hk hS hacc=>?_
 obtain ⟨qs,e,ka⟩:=adL (H:=H) hsz ent (vs:=acc'.toList) (by rw [Array.length_toList,hacc.1]; exact hsz) (fun j v e=>hacc.2 j v (by rw [<- Array.getElem?_toList]; exact e))
 refine ⟨.ref _,_,I.laid (o:=.lst (qs.map V.ref)) (t':=tk) hk (Nat.le_refl _) ⟨?_,acc'.toList,c',?_,by rw [Array.toArray_toList]; exact hS⟩,rfl,q _ qs (I.hok.fresh (Nat.le_refl _)) ka⟩
 ·rw [List.length_map,ka.length,List.length_map]; exact hz
 ·rw [e]; exact QH qs
theorem RG:Kc X (.builtin "len") (fun xs H Q=>∃ d kvs,xs=[.ref d]/\Rd H d (.dT kvs)/\Q (.int (kvs.length:Nat)) H):=by
 intro pins s σ H xs us Q I r h
 obtain ⟨d,kvs,rfl,hd,q⟩:=h
 rw [Vals.acw r]
 obtain ⟨o,es,ep,lo,ho,hx,hdt,hsz,hz,hn,ent⟩:=I.dTr hd
 have hT:s.TypeIs (.ref d) "dict" := ⟨o,ho,hx.1⟩
 rw [sizeLine_eq] at hz
 refine Calls.call_function_entry kind_len plain_len entry_len (args_len1 _) ?_
 unfold Builtin.«len»
 refine wpAny_bind (m:=oneArg "len" _) (wpAny_pure ?_)
 refine wpAny_bind (m:=callSpecial? (.ref d) (Str.ofString "__len__")) (wpAny_callSpecial?_slot (name:=Str.ofString "__len__") hT F.slot_dict_len
  (wpAny_call_entry F.slot_dict_len hT F.entry_dict_len ?_ (F.args_dict_len_1 _)))
 show wpAny _ _ (dictSize d >>= _) _ _ s
 unfold dictSize
 refine wpAny_bind (wpAny_bind (wpAny_dictEntries ho hdt (wpAny_pure ?_)))
 show wpAny _ _ (Builtin.Dict.pendingCount d >>= _) _ _ s
 refine wpAny_bind (wpAny_pendingCount_other lo ?_)
 refine wpAny_ret_mkInt ?_
 rw [Nat.add_zero,hsz]
 show wpAny _ _ _ _ _ { s with toks:=s.toks + 1 }
 refine wpAny_bind (wpAny_holding (wpAny_pure ?_))
 refine wpAny_bind (wpAny_letGo ?_)
 show wpAny _ _ (if ((kvs.length:Nat):Int) < 0 then _ else _) _ _ _
 rw [if_neg (by omega)]
 show wpAny _ _ (if ((kvs.length:Nat):Int) ≥ 2 ^ 63 then _ else _) _ _ _
 rw [if_neg (by omega)]
 exact wpAny_bind (wpAny_mkInt (wpAny_pure ⟨_,rfl,⟨.int _,H,I.tok _,⟨_,rfl⟩,q⟩⟩))
end
section
variable {prog:Program} {w:World} {A:Around} {E:Value->Shared->Prop} {s:Shared}
theorem TY {it d:Addr} {i n ep:Nat} {od:Obj} {es:Array DictEntry} {en:DictEntry} {ok ov:Value} {Q:Option Value->Shared->Prop} (hit:IsItemIter s.heap it d i n ep ok ov) (hod:s.heap.get? d=some od) (hdd:od.data = .dict es ep)
  (hsz:es.size=n) (hx:es[i]? = some en)
  (hQ:∀ h',IsItemIterOut h' it d (i + 1) n ep en.key en.val s.heap.objs.size ->
   h'.get? s.heap.objs.size=some { cls:=.type "tuple",data:=.seq #[en.key,en.val] }->h'.objs.size=s.heap.objs.size + 1 ->
   (∀ b o,b ≠ it->s.heap.get? b=some o->h'.get? b=some o)->Q (some (.ref s.heap.objs.size)) { s with heap:=h' }) :
  wpAny (model prog w) A (pyNext (.ref it)) Q E s:=by
 obtain ⟨hp,g,dr,tk,os⟩:=s
 have hT:Shared.TypeIs ⟨hp,g,dr,tk,os⟩ (.ref it) "dict_itemiterator" := ⟨_,hit,rfl⟩
 unfold pyNext
 refine wpAny_bind (wpAny_attempt (wpAny_callSpecial?_slot (name:=Str.ofString "__next__") hT F.slot_dict_itemiterator_next
  (wpAny_call_entry F.slot_dict_itemiterator_next hT F.entry_dict_itemiterator_next ?_ (F.args_dict_itemiterator_next_1 _))))
 refine wpAny_bind (wpAny_pure ?_)
 refine wpAny_bind ?_
 refine wpAny_bind ?_
 first | refine wpAny_bind (wpAny_typeNameOfWhole_itemiter hT (wpAny_pure ?_)) | refine wpAny_bind (wpAny_typeNameOf_itemiter hT (wpAny_pure ?_))
 refine wpAny_bind (wpAny_fieldsOf hit rfl ?_)
 have hown:Builtin.Dict_items.ownsTuple "dict_itemiterator" = true:=by decide
 simp only [hown,if_true]
 show wpAny _ _ (if (Value.ref d == Value.none)=true then _ else _) _ _ _
 rw [if_neg (show ¬ ((Value.ref d == Value.none)=true) from Bool.false_ne_true)]
 refine wpAny_bind (wpAny_pure ?_)
 refine wpAny_bind (wpAny_dictEntries hod hdd ?_)
 rw [if_neg (by rw [hsz]; simp)]
 refine wpAny_bind (wpAny_pure ?_)
 refine wpAny_bind (wpAny_dictEpoch hod hdd ?_)
 rw [if_neg (by simp)]
 refine wpAny_pure ?_
 obtain ⟨hlt',hen⟩:=Array.getElem?_eq_some_iff.mp hx
 simp only [show ¬ ((i:Int) < 0) from by omega,if_false,Int.toNat_natCast,Array.getElem?_eq_getElem hlt']
 refine wpAny_bind ?_
 first | refine wpAny_bind (wpAny_typeNameOfWhole_itemiter hT (wpAny_pure ?_)) | refine wpAny_bind (wpAny_typeNameOf_itemiter hT (wpAny_pure ?_))
 refine wpAny_bind (wpAny_isOneOf_itemiter hT ?_)
 show wpAny _ _ (setField (.ref it) 3 (rawInt ((i:Int) + 1)) >>= _) _ _ ⟨hp,g,dr,tk,os⟩
 refine wpAny_bind (wpAny_setField_rec hit (by simp) fun h₁ he₁ hs₁=>?_)
 replace hs₁:Heap.SameBut it hp h₁:=hs₁
 replace he₁:IsItemIter h₁ it d (i + 1) n ep ok ov:=by
  have e:((i + 1:Nat):Int)=(i:Int) + 1:=by omega
  unfold IsItemIter; rw [e]; simpa [rawInt] using he₁
 have hT₁:Shared.TypeIs ⟨h₁,g,dr,tk,os⟩ (.ref it) "dict_itemiterator" := ⟨_,he₁,rfl⟩
 refine wpAny_bind (wpAny_holding ?_)
 refine wpAny_bind (wpAny_isOneOf_itemiter hT₁ ?_)
 refine wpAny_bind (wpAny_isOneOf_itemiter hT₁ ?_)
 rw [hen]
 show wpAny _ _ (Builtin.Dict_items.pairFromOwner (.ref it) 6 en.key en.val) _ _ ⟨h₁,g,dr,tk,os⟩
 unfold Builtin.Dict_items.pairFromOwner
 refine wpAny_bind (wpAny_newTuple ?_)
 have he₂:IsItemIter (h₁.push { cls:=.type "tuple",data:=.seq #[en.key,en.val] }) it d (i + 1) n ep ok ov:=Heap.get?_push_of_some _ he₁
 generalize hh₂:h₁.push { cls:=.type "tuple",data:=.seq #[en.key,en.val] }=h₂ at he₂
 have hz₁:h₁.objs.size=hp.objs.size:=hs₁.1
 have hil:it < hp.objs.size:=Heap.lt_size hit
 have ht₂:h₂.get? hp.objs.size=some { cls:=.type "tuple",data:=.seq #[en.key,en.val] }:=by rw [<- hh₂,<- hz₁]; exact Heap.get?_push_size _ rfl
 have hz₂:h₂.objs.size=hp.objs.size + 1:=by rw [<- hh₂,Heap.size_push,hz₁]
 have hk₂:∀ b o,b ≠ it->hp.get? b=some o->h₂.get? b=some o:=fun b o hb e=>by rw [<- hh₂]; exact Heap.get?_push_of_some _ (hs₁.extBut b o hb e)
 show wpAny _ _ (Builtin.Dict_items.ownedTupleIsFree (.ref it) >>= _) _ _ ⟨h₂,g,dr,tk,os⟩
 rw [hz₁]
 clear hh₂ he₁ hs₁ hT₁ hz₁ h₁
 refine wpAny_bind ?_
 unfold Builtin.Dict_items.ownedTupleIsFree
 refine wpAny_bind (wpAny_field he₂ rfl (x:=.none) rfl (wpAny_pure ?_))
 simp only [if_true]
 refine wpAny_bind (wpAny_field he₂ rfl (x:=ok) rfl ?_)
 refine wpAny_bind (wpAny_field he₂ rfl (x:=ov) rfl ?_)
 refine wpAny_bind (wpAny_setField_rec he₂ (by simp) fun h₃ he₃ hs₃=>?_)
 replace hs₃:Heap.SameBut it h₂ h₃:=hs₃
 replace he₃:IsItemIter h₃ it d (i + 1) n ep en.key ov:=he₃
 refine wpAny_bind (wpAny_setField_rec he₃ (by simp) fun h₄ he₄ hs₄=>?_)
 replace hs₄:Heap.SameBut it h₃ h₄:=hs₄
 replace he₄:IsItemIter h₄ it d (i + 1) n ep en.key en.val:=he₄
 refine wpAny_bind (wpAny_setField_rec he₄ (by simp) fun h₅ he₅ hs₅=>?_)
 replace hs₅:Heap.SameBut it h₄ h₅:=hs₅
 replace he₅:IsItemIterOut h₅ it d (i + 1) n ep en.key en.val hp.objs.size:=he₅
 refine wpAny_bind (wpAny_setField_rec he₅ (by simp) fun h₆ he₆ hs₆=>?_)
 replace hs₆:Heap.SameBut it h₅ h₆:=hs₆
 replace he₆:IsItemIterOut h₆ it d (i + 1) n ep en.key en.val hp.objs.size:=he₆
 refine wpAny_bind (wpAny_letGo (wpAny_pure (wpAny_pure ⟨_,rfl,wpAny_pure (hQ h₆ he₆ ?_ ?_ ?_)⟩)))
 ·exact hs₆.extBut _ _ (Nat.ne_of_gt hil) (hs₅.extBut _ _ (Nat.ne_of_gt hil) (hs₄.extBut _ _ (Nat.ne_of_gt hil) (hs₃.extBut _ _ (Nat.ne_of_gt hil) ht₂)))
 ·show h₆.objs.size=hp.objs.size + 1
  rw [hs₆.1,hs₅.1,hs₄.1,hs₃.1,hz₂]
 ·exact fun b o hb e=>hs₆.extBut b o hb (hs₅.extBut b o hb (hs₄.extBut b o hb (hs₃.extBut b o hb (hk₂ b o hb e))))
theorem V4 {it d:Addr} {i n ep:Nat} {od:Obj} {es:Array DictEntry} {ok ov:Value} {Q:Option Value->Shared->Prop} (hh:A.handled=none) (hit:IsItemIter s.heap it d i n ep ok ov) (hod:s.heap.get? d=some od) (hdd:od.data = .dict es ep)
  (hsz:es.size=n) (hge':n <= i) (hQ:∀ h',Heap.ExtBut it s.heap h'->Q none { s with heap:=h' }):wpAny (model prog w) A (pyNext (.ref it)) Q E s:=by
 have hT:s.TypeIs (.ref it) "dict_itemiterator" := ⟨_,hit,rfl⟩
 unfold pyNext
 refine wpAny_bind (wpAny_attempt (wpAny_callSpecial?_slot (name:=Str.ofString "__next__") hT F.slot_dict_itemiterator_next
  (wpAny_call_entry F.slot_dict_itemiterator_next hT F.entry_dict_itemiterator_next ?_ (F.args_dict_itemiterator_next_1 _))))
 refine wpAny_bind (wpAny_pure ?_)
 refine wpAny_bind ?_
 refine wpAny_bind ?_
 first | refine wpAny_bind (wpAny_typeNameOfWhole_itemiter hT (wpAny_pure ?_)) | refine wpAny_bind (wpAny_typeNameOf_itemiter hT (wpAny_pure ?_))
 refine wpAny_bind (wpAny_fieldsOf hit rfl ?_)
 have hown:Builtin.Dict_items.ownsTuple "dict_itemiterator" = true:=by decide
 simp only [hown,if_true]
 show wpAny _ _ (if (Value.ref d == Value.none)=true then _ else _) _ _ s
 rw [if_neg (show ¬ ((Value.ref d == Value.none)=true) from Bool.false_ne_true)]
 refine wpAny_bind (wpAny_pure ?_)
 refine wpAny_bind (wpAny_dictEntries hod hdd ?_)
 rw [if_neg (by rw [hsz]; simp)]
 refine wpAny_bind (wpAny_pure ?_)
 refine wpAny_bind (wpAny_dictEpoch hod hdd ?_)
 rw [if_neg (by simp)]
 refine wpAny_pure ?_
 have hge:es.size <= i:=by rw [hsz]; exact hge'
 simp only [show ¬ ((i:Int) < 0) from by omega,if_false,Int.toNat_natCast,Array.getElem?_eq_none hge]
 refine wpAny_bind ?_
 first | refine wpAny_bind (wpAny_typeNameOfWhole_itemiter hT (wpAny_pure ?_)) | refine wpAny_bind (wpAny_typeNameOf_itemiter hT (wpAny_pure ?_))
 show wpAny _ _ (setField (.ref it) 2 .none >>= _) _ _ s
 refine wpAny_bind (wpAny_setField hit rfl (by simp) ?_)
 show wpAny _ _ (newExc (.type "StopIteration") [] >>= _) _ _ _
 refine wpAny_bind ?_
 simp only [newExc,newTuple]
 refine wpAny_bind (wpAny_newObj_type ?_ (by size_fits))
 refine wpAny_bind (m:=firstArgMember _ _) (wpAny_of_eq (a:=Value.none) (by first | rfl | (simp only [firstArgMember]; rfl)) ?_)
 refine wpAny_newObj_type ?_ (by size_fits)
 simp only [raiseNew]
 refine wpAny_bind (wpAny_handled ?_)
 rw [show A.in1.handled=none from hh]
 refine wpAny_bind (wpAny_pure (wpAny_throw ?_))
 refine wpAny_bind (wpAny_isInstance (T := "StopIteration") (b:=true) ⟨_,Heap.get?_push_size _ rfl,rfl⟩ isSubtype_stop ?_)
 exact wpAny_pure (hQ _ (((Heap.SameBut.update ..).extBut.push _).push _))
theorem Wo {v d:Addr} {o:Obj} {es:Array DictEntry} {ep:Nat} {Q:Value->Shared->Prop} (hv:s.heap.IsItemsView v d) (ho:s.heap.get? d=some o) (hdat:o.data = .dict es ep)
  (hQ:Q (.ref s.heap.objs.size) { s with heap:=s.heap.push { cls:=.type "dict_itemiterator",data:=.fields #[.none,.bool false,.ref d,.int 0 0,.int es.size 0,.int ep 0,.none,.none] } }) :
  wpAny (model prog w) A (pyIter (.ref v)) Q E s:=by
 obtain ⟨ov,hov,hcv,hdv⟩:=id hv
 refine wpAny_pyIter_slot hv.typeIs F.slot_dict_items_iter (wpAny_call_entry F.slot_dict_items_iter hv.typeIs F.entry_dict_items_iter ?_ (F.args_dict_items_iter_1 _))
 unfold Builtin.«dict_items.__iter__»
 refine wpAny_bind (wpAny_pure ?_)
 refine wpAny_bind ?_
 unfold Builtin.Dict_items.dictOf
 refine wpAny_bind (wpAny_field hov hdv (x:=.ref d) rfl (wpAny_pure ?_))
 refine wpAny_bind ?_
 unfold Builtin.Dict_items.newIterator
 refine wpAny_bind (wpAny_dictEntries ho hdat ?_)
 refine wpAny_bind (wpAny_dictEpoch ho hdat ?_)
 have hown:Builtin.Dict_items.ownsTuple "dict_itemiterator" = true:=by decide
 simp only [hown,if_true]
 refine wpAny_newObj_type (wpAny_pure ⟨_,rfl, "dict_itemiterator",_,⟨_,Heap.get?_push_size _ rfl,rfl⟩,F.slot_dict_itemiterator_next.lookup,?_⟩)
  (by simp only [sizeOk,Builtin.Dict_items.ownedTupleFields,List.size_toArray,List.length_append,List.length_cons,List.length_nil,sizeLine_eq]; omega)
 simpa [rawInt,Builtin.Dict_items.ownedTupleFields] using hQ
theorem J8 (prog:Program) (w:World) (d:Addr) (hd:(d == sysModules)=false) :
  MeetsIn prog w (Builtin.«dict.items» ⟨[.ref d],[]⟩) (fun _ R s=>s.TypeIs (.ref d) "dict" /\
   R (.ok (.ret (.ref s.heap.objs.size))) { s with heap:=s.heap.push { cls:=.type "dict_items",data:=.fields #[.ref d] } }) :=
 .of_wp fun A R s ⟨hm,h⟩=>by
  unfold Builtin.«dict.items»
  refine wpAny_bind ?_
  unfold Builtin.Dict.noArgs
  refine wpAny_bind (wpAny_notOrdered_dict hm ?_)
  show wpAny _ _ (pure d) _ _ s
  refine wpAny_pure ?_
  show wpAny _ _ (Builtin.Dict.showsAll d >>= _) _ _ s
  unfold Builtin.Dict.showsAll
  rw [if_neg (by rw [hd]; exact Bool.false_ne_true)]
  refine wpAny_bind (wpAny_pure ?_)
  exact wpAny_bind (wpAny_newObj_type (wpAny_pure ⟨_,rfl,h⟩))
end
def afq (d:Addr) (o:Obj) (kvs:List (List Key × V)):It :=
 ⟨fun i H=>H d=some (.frz o (.dT kvs))/\i < kvs.length,fun i H x H'=>∃ T q k v,kvs[i]? = some (k,v)/\H q=some (.tup (k.map kV))/\x = .ref T/\H T=none/\H'=upd H T (.tup [.ref q,v]),fun i H=>H d=some (.frz o (.dT kvs))/\kvs.length <= i⟩
section
variable {P:Program} {w:World} {K:PySem.W.Frag} {d:Addr} {o:Obj} {es:Array DictEntry} {ep:Nat}
theorem RZ {kvs:List (List Key × V)} {elts:List Expr} {kk:Nat} {tpos:Pos} (it:Addr) (hod:o.data = .dict es ep) :
  Turn P w K (.Tuple elts kk tpos) (afq d o kvs) [it] it (fun i h=>∃ ok ov,IsItemIter h it d i kvs.length ep ok ov) where
 mem:=by simp
 obj:=fun i h st b hb=>by
  have e:b=it:=by simpa using hb
  subst e
  obtain ⟨ok,ov,e⟩:=st
  exact ⟨_,e,fun v z=>nomatch z⟩
 keep:=fun i h h' st k=>let ⟨ok,ov,e⟩:=st; ⟨ok,ov,k it (by simp) _ e⟩
 item:=by
  intro X hP hw hK hc i pins s σ H E I hf st hg
  subst hP hw hK
  obtain ⟨hd,hi⟩:=hg
  obtain ⟨o',es',ep',lo,hgd,hx,hdt,hsz,hz,hn,ent⟩:=I.dTr (.inr ⟨o,hd⟩)
  obtain rfl:o'=o:=by
   have q:=(I.hok d _ hd).1
   rw [hgd] at q
   exact Option.some.inj q
  obtain ⟨rfl,rfl⟩:=My hod hdt
  obtain ⟨⟨k,v⟩,hkv⟩:∃ p,kvs[i]? = some p:=⟨kvs[i],List.getElem?_eq_getElem hi⟩
  obtain ⟨en,q,hen,hkey,hq,ru⟩:=ent i k v hkv
  obtain ⟨ok,ov,he⟩:=st
  have hlt:it < s.heap.objs.size:=Heap.lt_size he
  refine TY he hgd hdt hsz hen fun h' ho hT hz hk=>?_
  refine ⟨_,rfl,wpAny_letOwnedTupleGo_items (s:={ s with heap:=h' }) ho fun h'' he' sb=>?_⟩
  have hT2:h''.get? s.heap.objs.size=some { cls:=.type "tuple",data:=.seq #[en.key,en.val] }:=(sb.2 _ (Nat.ne_of_gt hlt)).trans hT
  have new:Ds X.prog X.w (upd H s.heap.objs.size (.tup [.ref q,v])) h'' s.heap.objs.size (.tup [.ref q,v]) :=
   ⟨by show 2 <= sizeLine; decide,[en.key,en.val],.cons hkey (.cons ru .nil),⟨_,hT2,rfl,_,rfl⟩⟩
  have I1:Inv X pins σ (upd H s.heap.objs.size (.tup [.ref q,v])) { s with heap:=h'' } :=
   I.QK (t':=s.toks) (ch:=[it]) (fun b ob hb e=>(sb.2 b (by simpa using hb)).trans (hk b ob (by simpa using hb) e)) hf (Nat.le_refl _) new
  refine ⟨.ref s.heap.objs.size,_,I1,rfl,⟨_,q,k,v,hkv,hq,rfl,I.hok.fresh (Nat.le_refl _),rfl⟩,⟨en.key,en.val,he'⟩,fun b hb=>?_⟩
  have e:b=it:=by simpa using hb
  rw [e,Ah (Nat.ne_of_lt hlt)]
  exact (hf it (by simp)).1
 done:=by
  intro X hP hw hK hc i pins s σ H E I hf st hg
  subst hP hw hK
  obtain ⟨hd,hi⟩:=hg
  obtain ⟨f0,f1,f2,f3,f4,f5⟩:=hf it (by simp)
  obtain ⟨o',es',ep',lo,hgd,hx,hdt,hsz,hz,hn,ent⟩:=I.dTr (.inr ⟨o,hd⟩)
  obtain rfl:o'=o:=by
   have q:=(I.hok d _ hd).1
   rw [hgd] at q
   exact Option.some.inj q
  obtain ⟨rfl,rfl⟩:=My hod hdt
  obtain ⟨ok,ov,he⟩:=st
  exact V4 (I.ok.hd hc) he hgd hdt hsz hi fun h' eb=>⟨rfl,I.turned (t':=s.toks) (fun b ob hb e=>eb b ob hb e) f0 f1 f3 f4 f5⟩
 self:=fun A i s Q E st h=>let ⟨_,_,e⟩:=st; PySem.W.kcp_self e h
end
def ahy (td:TE):TI:=fun σ H R=>td σ H fun x H1=>∃ d o kvs,x = .ref d/\H1 d=some (.frz o (.dT kvs))/\R (afq d o kvs) H1
section
variable {X:Cx} {tg e:Expr} {td:TE} {apos cpos:Pos}
theorem Hb {elts:List Expr} {kk:Nat} {tpos:Pos} (he:PE X e td) (hbase:attributeBase e "items" X.env (eval e X.env)=eval e X.env:=by rfl) (hline:(apos.endLine == cpos.line)=true:=by rfl) :
  PI X (.Tuple elts kk tpos) (.Call (.Attribute e "items" apos) [] [] cpos) (ahy td):=by
 intro pins s σ H R I h
 refine wpAny_Call_method (T := "dict") (id := "dict.items") hbase rfl hline F.plainAttrs_dict F.slot_dict_items F.type_dict_items (thn (he pins s σ H _ I h) fun u s1 ⟨x,H1,I1,rx,d,o,kvs,ex,hd,q⟩=>?_)
 subst ex
 obtain rfl:u=Value.ref d:=rx
 obtain ⟨o',es,ep,hs,hgd,hx,hdt,hsz,hz,hn,ent⟩:=I1.dTr (.inr ⟨o,hd⟩)
 obtain rfl:o'=o:=by
  have q:=(I1.hok d _ hd).1
  rw [hgd] at q
  exact Option.some.inj q
 have hT:s1.TypeIs (.ref d) "dict" := ⟨_,hgd,hx.1⟩
 refine ⟨hT,(fun b q=>by cases q; exact ⟨_,hgd,hx.2.1⟩),?_⟩
 have I2:Inv X pins σ H1 { s1 with heap:=s1.heap.push { cls:=.type "dict_items",data:=.fields #[.ref d] } }:=I1.kept (t':=s1.toks) fun b ob q=>Heap.get?_push_of_some _ q
 have fin:wpAny (model X.prog X.w) X.A (pyIter (.ref s1.heap.objs.size)) (PIE X pins σ (.Tuple elts kk tpos) R) X.xe { s1 with heap:=s1.heap.push { cls:=.type "dict_items",data:=.fields #[.ref d] } }:=by
  refine Wo (d:=d) ⟨_,Heap.get?_push_size _ rfl,rfl,rfl⟩ (Heap.get?_push_of_some _ hgd) hdt (Oj (tk:=s1.toks) I2 _ (RZ _ hdt) ⟨.none,.none,?_⟩ q)
  rw [hsz]
  exact Heap.get?_push_size _ rfl
 show wpAny _ _ (callWith cpos (.builtin "dict.items") [.ref d] [] []) _ X.xe s1
 exact method_meetsIn F.slot_dict_items F.entry_dict_items rfl (PySem.evalArgs_none ⟨rfl,hT,F.args_dict_items_1 _,_,J8 X.prog X.w d hs,hT,fin⟩)
end
theorem Fp {d:Addr} {o:Obj} {kvs:List (List Key × V)} {g:TG} {tb:TS} {D:Ends} {σ:St} {H:Hp} (Pv:Nat->St->Hp->Prop) (h0:Pv 0 σ H) (hl:∀ i σ H,i <= kvs.length->Pv i σ H->H d=some (.frz o (.dT kvs)))
  (hs:∀ i k v σ H T q,kvs[i]? = some (k,v)->Pv i σ H->H q=some (.tup (k.map kV))->H T=none->g (.ref T) σ (upd H T (.tup [.ref q,v])) fun σ2 H2=>tb { D with nx:=Pv (i + 1),ct:=Pv (i + 1),bk:=D.nx } σ2 H2) (hd:∀ σ H,Pv kvs.length σ H->D.nx σ H) :
  ∃ W:Nat->Nat->St->Hp->Prop,(∃ m,W 0 m σ H)/\∀ i m σ H,W i m σ H ->
   ((afq d o kvs).stop i H/\D.nx σ H) \/ ((afq d o kvs).go i H/\∃ N:St->Hp->Prop,(∀ σ' H',N σ' H'->∃ m',m' < m/\W (i + 1) m' σ' H')/\∀ x H',(afq d o kvs).yld i H x H'->g x σ H' fun σ2 H2=>tb { D with nx:=N,ct:=N,bk:=D.nx } σ2 H2):=by
 refine ⟨fun i m σ H=>m=kvs.length - i/\i <= kvs.length/\Pv i σ H,⟨kvs.length,by simp,Nat.zero_le _,h0⟩,?_⟩
 rintro i m σ H ⟨rfl,hi,p⟩
 have q:=hl i σ H hi p
 by_cases hlt:i < kvs.length
 ·refine .inr ⟨⟨q,hlt⟩,Pv (i + 1),fun σ' H' p'=>⟨kvs.length - (i + 1),by omega,rfl,hlt,p'⟩,fun x H' y=>?_⟩
  obtain ⟨T,a,k,v,e,ha,rfl,hT,rfl⟩:=y
  exact hs i k v σ H T a e p ha hT
 ·have e:i=kvs.length:=by omega
  subst e
  exact .inl ⟨⟨q,Nat.le_refl _⟩,hd σ H p⟩
theorem Qj {K:PySem.W.Frag} {a:Addr} {xs:List V} {g:TG} {tb:TS} {D:Ends} {σ:St} {H:Hp} (Pv:Nat->St->Hp->Prop) (h0:Pv 0 σ H) (hl:∀ i σ H,i <= xs.length->Pv i σ H->SqL K H a xs)
  (hs:∀ i x σ H T,xs[i]? = some x->Pv i σ H->H T=none->g (.ref T) σ (upd H T (.tup [.int (i:Nat),x])) fun σ2 H2=>tb { D with nx:=Pv (i + 1),ct:=Pv (i + 1),bk:=D.nx } σ2 H2) (hd:∀ σ H,Pv xs.length σ H->D.nx σ H) :
  ∃ W:Nat->Nat->St->Hp->Prop,(∃ m,W 0 m σ H)/\∀ i m σ H,W i m σ H ->
   ((Ite K a).stop i H/\D.nx σ H) \/ ((Ite K a).go i H/\∃ N:St->Hp->Prop,(∀ σ' H',N σ' H'->∃ m',m' < m/\W (i + 1) m' σ' H')/\∀ x H',(Ite K a).yld i H x H'->g x σ H' fun σ2 H2=>tb { D with nx:=N,ct:=N,bk:=D.nx } σ2 H2):=by
 refine ⟨fun i m σ H=>m=xs.length - i/\i <= xs.length/\Pv i σ H,⟨xs.length,by simp,Nat.zero_le _,h0⟩,?_⟩
 rintro i m σ H ⟨rfl,hi,p⟩
 have q:=hl i σ H hi p
 by_cases hlt:i < xs.length
 ·refine .inr ⟨⟨xs,xs[i],q,by simp [hlt]⟩,Pv (i + 1),fun σ' H' p'=>⟨xs.length - (i + 1),by omega,rfl,hlt,p'⟩,fun x H' y=>?_⟩
  obtain ⟨T,z,rfl,hT,rfl,y⟩:=y
  exact hs i z σ H T (y xs q) p hT
 ·have e:i=xs.length:=by omega
  subst e
  exact .inl ⟨⟨xs,q,Nat.le_refl _⟩,hd σ H p⟩
open AutoSeq1 (wpAny_loadPart')
section
variable {prog:Program} {w:World} {A:Around} {E:Value->Shared->Prop} {s:Shared}
theorem Qc {it l:Addr} {i:Nat} {items:Array Value} {x:Value} {Q:Value->Shared->Prop} (hit:s.heap.IsTupleIter it l i)
  (hl:s.heap.IsTuple l items) (hx:items[i]? = some x)
  (hQ:∀ h',h'.IsTupleIter it l (i + 1)->Heap.SameBut it s.heap h'->Q x { s with heap:=h' }) :
  wpAny (model prog w) A (Builtin.SmallTypes.nextOf (.ref it)) Q E s:=by
 obtain ⟨o,ho,hc,hd⟩:=id hit
 obtain ⟨ol,hol,_,nl,hdl⟩:=hl
 unfold Builtin.SmallTypes.nextOf
 refine wpAny_bind (wpAny_callSpecial?_slot (name:=Str.ofString "__next__") hit.typeIs F.slot_tuple_iterator_next
  (wpAny_call_entry F.slot_tuple_iterator_next hit.typeIs F.entry_tuple_iterator_next ?_ (F.args_tuple_iterator_next_1 _)))
 show wpAny _ _ (field (.ref it) 0 >>= _) _ _ s
 refine wpAny_bind (wpAny_field ho hd (x:=.ref l) rfl ?_)
 show wpAny _ _ (if (Value.ref l == Value.none)=true then _ else _) _ _ s
 rw [if_neg (show ¬ ((Value.ref l == Value.none)=true) from Bool.false_ne_true)]
 show wpAny _ _ (field (.ref it) 1 >>= _) _ _ s
 refine wpAny_bind (wpAny_field ho hd (x:=.int i 0) rfl ?_)
 show wpAny _ _ (seqItems? (.ref l) >>= _) _ _ s
 refine wpAny_bind (wpAny_seqItems hol hdl ?_)
 simp only [Int.toNat_natCast,hx]
 refine wpAny_bind (wpAny_setField ho hd (by simp) (wpAny_pure ⟨x,rfl,wpAny_pure (hQ _ ?_ (Heap.SameBut.update ..))⟩))
 exact ⟨_,Heap.get?_update_self _ ho (Obj.isFreed_of_fields (Obj.data_mapFields hd _)),(Obj.cls_mapFields ..).trans hc,by
  rw [Obj.data_mapFields hd]; simp [rawInt]⟩
theorem Rq {it l:Addr} {i:Nat} {items:Array Value} {Q:Value->Shared->Prop} (hh:A.handled=none)
  (hit:s.heap.IsTupleIter it l i) (hl:s.heap.IsTuple l items) (hx:items[i]? = none)
  (hE:∀ h' e,Heap.ExtBut it s.heap h'->(∃ o,h'.get? e=some o/\o.cls = .type "StopIteration")->E (.ref e) { s with heap:=h' }) :
  wpAny (model prog w) A (Builtin.SmallTypes.nextOf (.ref it)) Q E s:=by
 obtain ⟨o,ho,hc,hd⟩:=id hit
 obtain ⟨ol,hol,_,nl,hdl⟩:=hl
 unfold Builtin.SmallTypes.nextOf
 refine wpAny_bind (wpAny_callSpecial?_slot (name:=Str.ofString "__next__") hit.typeIs F.slot_tuple_iterator_next
  (wpAny_call_entry F.slot_tuple_iterator_next hit.typeIs F.entry_tuple_iterator_next ?_ (F.args_tuple_iterator_next_1 _)))
 show wpAny _ _ (field (.ref it) 0 >>= _) _ _ s
 refine wpAny_bind (wpAny_field ho hd (x:=.ref l) rfl ?_)
 show wpAny _ _ (if (Value.ref l == Value.none)=true then _ else _) _ _ s
 rw [if_neg (show ¬ ((Value.ref l == Value.none)=true) from Bool.false_ne_true)]
 show wpAny _ _ (field (.ref it) 1 >>= _) _ _ s
 refine wpAny_bind (wpAny_field ho hd (x:=.int i 0) rfl ?_)
 show wpAny _ _ (seqItems? (.ref l) >>= _) _ _ s
 refine wpAny_bind (wpAny_seqItems hol hdl ?_)
 simp only [Int.toNat_natCast,hx]
 refine wpAny_bind (wpAny_rule (wpAny_bind (wpAny_setField ho hd (by simp) ?_)))
 show wpAny _ _ (newExc (.type "StopIteration") [] >>= _) _ _ _
 refine wpAny_bind ?_
 simp only [newExc,newTuple]
 refine wpAny_bind (wpAny_newObj_type ?_ (by size_fits))
 refine wpAny_bind (m:=firstArgMember _ _) (wpAny_of_eq (a:=Value.none) (by first | rfl | (simp only [firstArgMember]; rfl)) ?_)
 refine wpAny_newObj_type ?_ (by size_fits)
 simp only [raiseNew]
 refine wpAny_bind (wpAny_handled ?_)
 first | rw [show A.in1.handled=none from hh] | rw [hh]
 refine wpAny_bind (wpAny_pure (wpAny_throw ?_))
 exact hE _ _ (((Heap.SameBut.update ..).extBut.push _).push _) ⟨_,Heap.get?_push_size _ rfl,rfl⟩
theorem Tg (hh:A.handled=none) (it l:Addr) (hne:l ≠ it) (items:Array Value) :
  Draws prog w A it [it,l] items.size (fun i v=>items[i]? = some v) (fun i h=>h.IsTupleIter it l i/\h.IsTuple l items) where
 live:=fun _ _ st=>let ⟨o,ho,_⟩:=st.1; ⟨o,ho⟩
 frame:=fun _ _ _ st hk=>⟨st.1.at fun o e=>hk it (by simp) o e,st.2.at fun o e=>hk l (by simp) o e⟩
 item:=fun i s Q E hi st hQ=>by
  refine Qc st.1 st.2 (x:=items[i]) (by simp [hi]) fun h' hit' hs'=>?_
  exact hQ _ h' s.toks (by simp [hi]) ⟨hit',st.2.extBut hs'.extBut hne⟩ hs'
 done:=fun s Q E st hE=>Rq hh st.1 st.2 (by simp) hE
end
theorem Lb (l:Addr) (items:Array Value) (n:Nat) (dct:Option Addr) (sl:Array (Option Value)) :
  Meets (Builtin.«enumerate.__new__» ⟨[.type "enumerate",.ref l],[]⟩) (fun _ R s=>s.heap.get? l=some { cls:=.type "tuple",dict:=dct,data:=.seq items n,slots:=sl } /\
   R (.ok (.ret (.ref (s.heap.push { cls:=.type "tuple_iterator",data:=.fields #[.ref l,.int 0 0] }).objs.size)))
    { s with heap:=(s.heap.push { cls:=.type "tuple_iterator",data:=.fields #[.ref l,.int 0 0] }).push { cls:=.type "enumerate",data:=.fields #[.none,.bool false,.ref s.heap.objs.size,rawInt 0,.none,.none] } }) :=
 .of_wp fun prog w A R s h=>by
  obtain ⟨hp,g,d,tk,os⟩:=s; obtain ⟨hl,h⟩:=h
  have hsub:=sub_enumerate
  have hL:Heap.IsTuple (Shared.heap ⟨hp,g,d,tk,os⟩) l items:=⟨_,hl,rfl,n,rfl⟩
  wp_walk using wpAny_loadPart' hl
  refine wpAny_stack_any fun st=>wpAny_pure ?_
  split
  ·rename_i c _ _ _ _ _
   cases (c == Value.type "enumerate")
   ·wp_walk using wpAny_loadPart' hl,wpAny_pyIter_tuple hL
    exact ⟨_,rfl,h⟩
   ·wp_walk using wpAny_loadPart' hl,wpAny_pyIter_tuple hL
    exact ⟨_,rfl,h⟩
  ·wp_walk using wpAny_loadPart' hl,wpAny_pyIter_tuple hL
   exact ⟨_,rfl,h⟩
section
variable {prog:Program} {w:World} {A:Around} {E:Value->Shared->Prop} {s:Shared}
theorem Lr {l:Addr} {items:Array Value} {Q:Value->Shared->Prop} (hL:s.heap.IsTuple l items)
  (h:∀ h',IsEnum h' (s.heap.objs.size + 1) s.heap.objs.size 0 .none->h'.IsTupleIter s.heap.objs.size l 0->h'.objs.size=s.heap.objs.size + 2 ->
   (∀ b o,s.heap.get? b=some o->h'.get? b=some o)->Q (.ref (s.heap.objs.size + 1)) { s with heap:=h' }) :
  wpAny (model prog w) A (call (.type "enumerate") [.ref l]) Q E s:=by
 obtain ⟨⟨c,dct,dt,sl⟩,hl,hc,n,hd⟩:=hL
 replace hc:c = .type "tuple" := hc
 replace hd:dt = .seq items n:=hd
 subst hc hd
 refine callType_new F.called_enumerate (by decide) (F.typeCall_enumerate_1 _) (F.newCall_enumerate_1 _) (fun obj=>F.args_object_init_2 obj _) F.entry_enumerate_new
  (Lb l items n dct sl) ⟨hl,?_⟩
 have hz:(s.heap.push { cls:=.type "tuple_iterator",data:=.fields #[.ref l,.int 0 0] }).objs.size=s.heap.objs.size + 1:=Heap.size_push ..
 show _/\_
 rw [hz]
 have he:IsEnum ((s.heap.push { cls:=.type "tuple_iterator",data:=.fields #[.ref l,.int 0 0] }).push
   { cls:=.type "enumerate",data:=.fields #[.none,.bool false,.ref s.heap.objs.size,rawInt 0,.none,.none] }) (s.heap.objs.size + 1) s.heap.objs.size 0 .none:=by
  have:=Heap.get?_push_size (s.heap.push { cls:=.type "tuple_iterator",data:=.fields #[.ref l,.int 0 0] })
   (o:={ cls:=.type "enumerate",data:=.fields #[.none,.bool false,.ref s.heap.objs.size,rawInt 0,.none,.none] }) rfl
  rw [hz] at this; exact this
 refine ⟨⟨_,he,rfl⟩,h _ he ⟨_,Heap.get?_push_of_some _ (Heap.get?_push_size _ rfl),rfl,rfl⟩ (by rw [Heap.size_push,hz]) fun b o x=>Heap.get?_push_of_some _ (Heap.get?_push_of_some _ x)⟩
end
def agS (K:PySem.W.Frag) (a:Addr):It :=
 ⟨fun i H=>∃ (xs:List V) (x:V),SqT K H a xs/\xs[i]? = some x,fun i H v H'=>∃ T x,v = .ref T/\H T=none/\H'=upd H T (.tup [.int (i:Nat),x])/\∀ xs,SqT K H a xs->xs[i]? = some x,fun i H=>∃ xs:List V,SqT K H a xs/\xs.length=i⟩
theorem acf {P:Program} {w:World} {K:PySem.W.Frag} {elts:List Expr} {kk:Nat} {tpos:Pos} (a e it:Addr) (hai:a ≠ it) (hae:a ≠ e) :
  Turn P w K (.Tuple elts kk tpos) (agS K a) [e,it] e (fun i h=>(∃ old,IsEnum h e it ((i:Nat):Int) old)/\h.IsTupleIter it a i/\e ≠ it) where
 mem:=by simp
 obj:=fun i h st b hb=>by
  obtain ⟨⟨old,he⟩,⟨o,ho,hc,hd⟩,_⟩:=st
  have e':b=e \/ b=it:=by simpa using hb
  rcases e' with z | z
  ·rw [z]; exact ⟨_,he,fun v q=>nomatch q⟩
  ·rw [z]; exact ⟨o,ho,fun v q=>by rw [hd] at q; cases q⟩
 keep:=fun i h h' st k=>let ⟨⟨old,he⟩,hi,hne⟩:=st; ⟨⟨old,k e (by simp) _ he⟩,hi.at fun o q=>k it (by simp) o q,hne⟩
 item:=by
  intro X hP hw hK hc i pins s σ H E I hf st hg
  subst hP hw hK
  obtain ⟨⟨old,he⟩,hit,hne⟩:=st
  obtain ⟨xs,x,hq,hx⟩:=hg
  obtain ⟨its,rv,p,hz⟩:=I.tuple hq
  obtain ⟨u,hu,ru⟩:=rv.get hx
  have hel:e < s.heap.objs.size:=Heap.lt_size he
  have hil:it < s.heap.objs.size:=by obtain ⟨_,q,_⟩:=hit; exact Heap.lt_size q
  have hlen:=rv.length
  have alQ:i < its.toArray.size:=by
   have:=(List.getElem?_eq_some_iff.mp hx).1
   simp only [List.size_toArray]; omega
  refine wpAny_pyNext_enum_itemD (Tg (A:=X.A.in1) (I.ok.hd hc) it a hai its.toArray) he ⟨hit,show s.heap.IsTuple a its.toArray from p⟩ alQ hne (by simp; exact ⟨hne,hae.symm⟩) fun x' h' tk hx' ho hit' hT hsz hk=>?_
  have ex:x'=u:=by
   simp only [List.getElem?_toArray] at hx'
   rw [hu] at hx'
   exact (Option.some.inj hx').symm
  subst ex
  refine ⟨_,rfl,wpAny_letOwnedTupleGo_enum (s:={ s with heap:=h',toks:=tk + 1 }) ho fun h'' he' sb=>?_⟩
  have hT2:h''.get? s.heap.objs.size=some { cls:=.type "tuple",data:=.seq #[.int i tk,x'] }:=(sb.2 _ (Nat.ne_of_gt hel)).trans hT
  have new:Ds X.prog X.w (upd H s.heap.objs.size (.tup [.int (i:Nat),x])) h'' s.heap.objs.size (.tup [.int (i:Nat),x]) :=
   ⟨by show 2 <= sizeLine; decide,[.int i tk,x'],.cons ⟨_,rfl⟩ (.cons ru .nil),⟨_,hT2,rfl,_,rfl⟩⟩
  have I1:Inv X pins σ (upd H s.heap.objs.size (.tup [.int (i:Nat),x])) { s with heap:=h'',toks:=tk + 1 } :=
   I.QK (ch:=[e,it]) (fun b ob hb q=>(sb.2 b (fun z=>hb (by simp [z]))).trans (hk b ob (fun z=>hb (by simp [z])) (fun z=>hb (by simp [z])) q)) hf (Nat.le_refl _) new
  refine ⟨.ref s.heap.objs.size,_,I1,rfl,⟨_,x,rfl,I.hok.fresh (Nat.le_refl _),rfl,fun ys hy=>by rw [I.Yj hy hq]; exact hx⟩,⟨⟨x',?_⟩,hit'.1.at fun o q=>(sb.2 it (Ne.symm hne)).trans q,hne⟩,fun b hb=>?_⟩
  ·have e1:((i + 1:Nat):Int)=(i:Int) + 1:=by omega
   rw [e1]; exact he'
  ·have hb':b < s.heap.objs.size:=by
    have e':b=e \/ b=it:=by simpa using hb
    rcases e' with z | z
    ·rw [z]; exact hel
    ·rw [z]; exact hil
   rw [Ah (Nat.ne_of_lt hb')]
   exact (hf b hb).1
 done:=by
  intro X hP hw hK hc i pins s σ H E I hf st hg
  subst hP hw hK
  obtain ⟨⟨old,he⟩,hit,hne⟩:=st
  obtain ⟨xs,hq,hx⟩:=hg
  obtain ⟨its,rv,p,hz⟩:=I.tuple hq
  obtain ⟨f0,f1,f2,f3,f4,f5⟩:=hf it (by simp)
  have hl:=rv.length
  have ei:its.toArray.size=i:=by simp only [List.size_toArray]; omega
  refine wpAny_pyNext_enum_endD (Tg (A:=X.A.in1) (I.ok.hd hc) it a hai its.toArray) he ⟨by rw [ei]; exact hit,show s.heap.IsTuple a its.toArray from p⟩ fun h' eb=>⟨rfl,I.turned (t':=s.toks) (fun b o hb q=>eb b o hb q) f0 f1 f3 f4 f5⟩
 self:=fun A i s Q E st h=>let ⟨⟨_,he⟩,_⟩:=st; wpAny_pyIter_enum he h
def ai7 (K:PySem.W.Frag) (ta:TA):TI:=fun σ H R=>ta σ H fun vs H1=>∃ a xs,vs=[.ref a]/\SqT K H1 a xs/\R (agS K a) H1
theorem afU {X:Cx} {e:Expr} {ta:TA} {p pos tpos:Pos} {elts:List Expr} {kk:Nat} (hg:Gl X "enumerate") (hm:X.mg "enumerate" = none) (ha:PA X [e] ta) (hs:starEach [e] X.env=[(false,eval e X.env)]:=by rfl) :
  PI X (.Tuple elts kk tpos) (.Call (.Name "enumerate" p) [e] [] pos) (ai7 X.K ta):=by
 intro pins s σ H R I h
 refine Call_ (JK I hg hm boot_enumerate (PyProof.Rows.callWith_type1 (thn (ha pos pins s σ H _ I h) fun us s1 ⟨vs,H1,I1,r1,q1⟩=>?_) hs rfl))
 obtain ⟨a,xs,ex,hq,q⟩:=q1
 subst ex
 cases r1 with
 | cons r rr =>
  cases rr
  cases r
  obtain ⟨its,rv,p',hz⟩:=I1.tuple hq
  have hal:a < s1.heap.objs.size:=by obtain ⟨o,ho,_⟩:=p'; exact Heap.lt_size ho
  refine Lr (show s1.heap.IsTuple a its.toArray from p') fun h' he hit hsz hk=>wpAny_pyIter_enum he ?_
  have I2:Inv X pins σ H1 { s1 with heap:=h' }:=I1.kept (t':=s1.toks) hk
  refine ⟨s1.heap.objs.size + 1,[s1.heap.objs.size + 1,s1.heap.objs.size],_,_,H1,rfl,I2,acf a (s1.heap.objs.size + 1) s1.heap.objs.size (Nat.ne_of_lt hal) (Nat.ne_of_lt (Nat.lt_succ_of_lt hal)),⟨⟨.none,he⟩,hit,Nat.succ_ne_self _⟩,fun b hb=>?_,q⟩
  have e':b=s1.heap.objs.size + 1 \/ b=s1.heap.objs.size:=by simpa using hb
  have hle:s1.heap.objs.size <= b:=by
   rcases e' with z | z
   ·rw [z]; exact Nat.le_add_right _ _
   ·rw [z]; exact Nat.le_refl _
  exact I1.ac3 hle (I1.hok.fresh hle)
theorem aeX {K:PySem.W.Frag} {a:Addr} {xs:List V} {g:TG} {tb:TS} {D:Ends} {σ:St} {H:Hp} (Pv:Nat->St->Hp->Prop) (h0:Pv 0 σ H) (hl:∀ i σ H,i <= xs.length->Pv i σ H->SqT K H a xs)
  (hs:∀ i x σ H T,xs[i]? = some x->Pv i σ H->H T=none->g (.ref T) σ (upd H T (.tup [.int (i:Nat),x])) fun σ2 H2=>tb { D with nx:=Pv (i + 1),ct:=Pv (i + 1),bk:=D.nx } σ2 H2) (hd:∀ σ H,Pv xs.length σ H->D.nx σ H) :
  ∃ W:Nat->Nat->St->Hp->Prop,(∃ m,W 0 m σ H)/\∀ i m σ H,W i m σ H ->
   ((agS K a).stop i H/\D.nx σ H) \/ ((agS K a).go i H/\∃ N:St->Hp->Prop,(∀ σ' H',N σ' H'->∃ m',m' < m/\W (i + 1) m' σ' H')/\∀ x H',(agS K a).yld i H x H'->g x σ H' fun σ2 H2=>tb { D with nx:=N,ct:=N,bk:=D.nx } σ2 H2):=by
 refine ⟨fun i m σ H=>m=xs.length - i/\i <= xs.length/\Pv i σ H,⟨xs.length,by simp,Nat.zero_le _,h0⟩,?_⟩
 rintro i m σ H ⟨rfl,hi,p⟩
 have q:=hl i σ H hi p
 by_cases hlt:i < xs.length
 ·refine .inr ⟨⟨xs,xs[i],q,by simp [hlt]⟩,Pv (i + 1),fun σ' H' p'=>⟨xs.length - (i + 1),by omega,rfl,hlt,p'⟩,fun x H' y=>?_⟩
  obtain ⟨T,z,rfl,hT,rfl,y⟩:=y
  exact hs i z σ H T (y xs q) p hT
 ·have e:i=xs.length:=by omega
  subst e
  exact .inl ⟨⟨xs,q,rfl⟩,hd σ H p⟩
def air (tk tv:TE):TE:=fun σ H Q=>∀ p,H p=none->tk σ (upd H p (.dT [])) fun x H1=>tv σ H1 fun y H2=>H2 p=some (.dT [])/\∃ a k,x = .ref a/\H2 a=some (.tup (k.map kV))/\Q (.ref p) (upd H2 p (.dT [(k,y)]))
theorem afV {X:Cx} {pos:Pos} {k v:Expr} {tk tv:TE} (hu:X.A.units + 1 < cLine) (hk:PE X k tk) (hv:PE X v tv):PE X (.Dict [some k] [v] pos) (air tk tv):=by
 intro pins s σ H Q I q
 have hn:=I.hok.fresh (Nat.le_refl s.heap.objs.size)
 have I1:=I.laid (a:=s.heap.objs.size) (o:=.dT []) (h':=s.heap.push { cls:=.type "dict",data:=.dict #[] }) (t':=s.toks) (fun _ _ q=>Heap.get?_push_of_some _ q) (Nat.le_refl _) (abC s.heap I.big)
 have hsh:(evalEachOpt [some k] X.env).zip ((evalEach [v] X.env).map fun v=>do let x <- v; standAt pos; pure x)=(pairTrees [some k] [v] X.env pos).map fun p=>(some p.1,p.2):=zip_pairTrees [some k] [v] X.env pos rfl rfl
 rw [arm_eval_Dict,hsh,dictDisplay_pairs (pairTrees [some k] [v] X.env pos) (by intro e; cases e) (by show 1 < 17; decide)]
 refine wpAny_bind (wpAny_standAt (wpAny_bind ?_))
 unfold subDict
 refine wpAny_bind (wpAny_alloc ?_)
 refine wpAny_bind (wpAny_holding ?_)
 rw [if_pos (by show 1 <= 15; decide)]
 refine wpAny_bind (pairTrees_cons_walk (thn (hk pins _ σ _ _ I1 (q _ hn)) fun u s1 ⟨x,H1,I2,rx,q1⟩=>thn (hv pins s1 σ H1 _ I2 q1) fun w2 s2 ⟨y,H2,I3,ry,e,a,ks,ex,ha,q2⟩=>pairTrees_nil_walk ?_))
 subst ex
 cases (show u=Value.ref a from rx)
 obtain ⟨z,hd,xs,rel,dd⟩:=aif I3.hok e
 cases rel
 refine wpAny_holding ?_
 rw [List.forIn_cons]
 refine wpAny_bind (wpAny_bind ?_)
 show wpAny _ _ (dictSet s.heap.objs.size (.ref a) w2 >>= fun _=>pure (ForInStep.yield PUnit.unit)) _ _ _
 refine wpAny_bind (wpAny_dictSet_heap (hsz:=Nat.zero_le _) (show (tupleKind (CT X.prog X.w)).room X.A from Nat.lt_of_succ_lt hu) (Li I3.hok ha) dd fun h' dd' hs=>wpAny_pure ?_)
 dsimp only
 rw [List.forIn_nil]
 refine wpAny_pure (wpAny_pure (wpAny_pure (wpAny_pure ?_)))
 obtain ⟨qo,es,ep,hq,h2,h3,h4,_,h5⟩:=dd'
 refine ⟨.ref s.heap.objs.size,_,aad (ob:=.dT [(ks,y)]) I3 (by rw [e]; exact True.intro) hs ⟨qo,hq⟩ ⟨by show 1 <= sizeLine; decide,hd,_,(KT.put (H:=H2) .nil ks ha ry).keeps fun c ys ec=>?_,qo,es,ep,hq,h2,h3,h4,h5⟩,rfl,q2⟩
 rw [Ah (Gg ec e (fun z=>nomatch z))]
 exact ec
open Mx (P3 lt3)
def t3 (q:P3):List Key:=[.inl q.1,.inl q.2.1,.inl q.2.2]
def v3 (q:P3):List V:=[.int q.1,.int q.2.1,.int q.2.2]
theorem ach {a b:P3} (h:t3 a=t3 b):a=b:=by
 obtain ⟨x,y,z⟩:=a
 obtain ⟨x',y',z'⟩:=b
 simp [t3] at h
 obtain ⟨rfl,rfl,rfl⟩:=h
 rfl
def k3 (x:P3 × V):List Key × V:=(t3 x.1,x.2)
theorem adM (es:List (P3 × V)):(es.map k3).map (·.1)=(es.map (·.1)).map t3:=by rw [List.map_map,List.map_map]; rfl
def kyH (H:Hp) (q:Addr):P3:=match H q with
 | some (.tup [.int x,.int y,.int z])=>(x,y,z)
 | _=>(0,0,0)
theorem acW {H:Hp} {q:Addr} {k:P3} (h:H q=some (.tup (v3 k))):kyH H q=k:=by
 unfold kyH
 rw [h]
 rfl
def aaI:Value->Addr
 | .ref a=>a
 | _=>0
theorem VR {H:Hp}:∀ {qs:List Addr} {ks:List P3},Paired (fun q k=>H q=some (.tup (v3 k))) qs ks->ks=qs.map (kyH H)
 | _,_,.nil=>rfl
 | _,_,.cons h t=>by rw [List.map_cons,acW h,<- VR t]
theorem Wc {H:Hp}:∀ {qs:List Addr},(∀ q ∈ qs,∃ k,H q=some (.tup (v3 k)))->Paired (fun q k=>H q=some (.tup (v3 k))) qs (qs.map (kyH H))
 | [],_=>.nil
 | q :: qs,h=>.cons (by obtain ⟨k,e⟩:=h q (List.mem_cons_self ..); rw [acW e]; exact e) (Wc fun q' hq=>h q' (List.mem_cons_of_mem _ hq))
theorem adF {H:Hp}:∀ {qs:List Addr} {ks:List P3},W8 H qs (ks.map t3)->Paired (fun q k=>H q=some (.tup (v3 k))) qs ks
 | [],[],_=>.nil
 | [],_ :: _,h=>nomatch h
 | _ :: _,[],h=>nomatch h
 | q :: qs,k :: ks,h=>by
  rw [List.map_cons] at h
  cases h with
  | cons a b=>exact .cons a (adF b)
theorem aip {X:Cx} {pins:List (Addr × Obj)} {σ:St} {H:Hp} {s:Shared} (I:Inv X pins σ H s) {q:Addr} {k:P3} (h:H q=some (.tup (v3 k))) :
  ∃ o n a b c,s.heap.get? q=some o/\o.cls = .type "tuple" /\ o.data = .seq #[.int k.1 a,.int k.2.1 b,.int k.2.2 c] n:=by
 obtain ⟨_,its,r,o,ho,hc,n,hd⟩:=I.hok q _ h
 unfold v3 at r
 cases r with
 | cons r1 r =>
  cases r with
  | cons r2 r =>
   cases r with
   | cons r3 r =>
    cases r
    obtain ⟨a,rfl⟩:=r1
    obtain ⟨b,rfl⟩:=r2
    obtain ⟨c,rfl⟩:=r3
    exact ⟨o,n,a,b,c,ho,hc,hd⟩
theorem ai6 {h:Heap} {q:Addr} {o:Obj} {n:Nat} {k:P3} {a b c:Tok} (ho:h.get? q=some o) (hc:o.cls = .type "tuple") (hd:o.data = .seq #[.int k.1 a,.int k.2.1 b,.int k.2.2 c] n) :
  PyProof.Rows.G.tupKeyC h (fun _=>false) (.ref q)=some [Sum.inl k.1,Sum.inl k.2.1,Sum.inl k.2.2]:=by
 simp [PyProof.Rows.G.tupKeyC,PyProof.Rows.G.isTupObj,ho,hc,tupKey,hd,tupItems]
theorem aiW {a b:P3} (hne:a ≠ b) (h:lexLt itemOrd [Sum.inl b.1,Sum.inl b.2.1,Sum.inl b.2.2] [Sum.inl a.1,Sum.inl a.2.1,Sum.inl a.2.2] = false):lt3 a b:=by
 obtain ⟨x,y,z⟩:=a
 obtain ⟨x',y',z'⟩:=b
 dsimp only at h
 rw [lex_false,lex_false,lex_false] at h
 unfold lt3
 dsimp only
 have e:∀ u v:Int,(itemOrd.blt (Sum.inl u) (Sum.inl v)=true) ↔ u < v:=fun u v=>by
  show decide (u < v)=true ↔ _
  exact decide_eq_true_iff
 have e':∀ u v:Int,(itemOrd.blt (Sum.inl u) (Sum.inl v)=false) ↔ ¬ u < v:=fun u v=>by
  show decide (u < v)=false ↔ _
  exact decide_eq_false_iff_not
 rw [e,e,e,e',e',e'] at h
 have hne':¬ (x=x'/\y=y'/\z=z'):=fun ⟨h1,h2,h3⟩=>hne (by rw [h1,h2,h3])
 omega
section
variable {X:Cx}
def afP:List V->Hp->VK->Prop:=fun xs H Q=>∃ (d:Addr) (es:List (P3 × V)),xs=[.ref d]/\Rd H d (.dT (es.map k3)) /\
 ∀ (l:Addr) (qs:List Addr) (ks:List P3),H l=none->ks.Perm (es.map (·.1))->ks.Pairwise lt3->Paired (fun q k=>H q=some (.tup (v3 k))) qs ks->Q (.ref l) (upd H l (.lst (qs.map V.ref)))
theorem aar (hc:X.calm=true):Kc X (.builtin "sorted") afP:=by
 intro pins s σ H xs us Q I r h
 obtain ⟨d,en,rfl,hd,q⟩:=h
 rw [Vals.acw r]
 obtain ⟨o,es,ep,lo,ho,hx,hdt,hsz,hz,hn,ent⟩:=I.dTr hd
 have alN:(en.map (·.1)).Nodup:=by
  rw [adM] at hn
  exact Mx.Ge hn
 refine Calls.call_function_entry kind_sorted plain_sorted entry_sorted (args_sorted1 _) ?_
 unfold Builtin.«sorted»
 refine wpAny_bind (m:=checkCount "sorted" 1 1 _) (wpAny_pure ?_)
 refine wpAny_bind (PySem.W.kdu_collect (A:=X.A.in1) (aaP lo hx hdt) (I.ok.hd hc) ho (by omega) fun h' tk acc hk hacc=>?_)
 have hlen:acc.toList.length=(en.map k3).length:=by rw [Array.length_toList,hacc.1]; exact hsz
 obtain ⟨qs0,eqs,ka⟩:=adL (H:=H) hsz ent (vs:=acc.toList) hlen (fun j v e=>hacc.2 j v (by rw [<- Array.getElem?_toList]; exact e))
 rw [adM] at ka
 have ka3:=adF ka
 have ek0:=VR ka3
 generalize hvs:acc.toList=vs at *
 have hL:vs.length <= sizeLine:=by rw [hlen]; exact hz
 refine wpAny_bind (wpAny_newList ?_ hL)
 have hoL:(h'.push (seqObj "list" vs.toArray 0)).get? h'.objs.size=some (seqObj "list" vs.toArray 0):=Heap.get?_push_size _ rfl
 have akS:∀ q ∈ qs0,∃ k,H q=some (.tup (v3 k)):=fun a ha=>by
  obtain ⟨i,hi⟩:=List.mem_iff_getElem?.mp ha
  obtain ⟨b,_,e⟩:=BW ka3 hi
  exact ⟨b,e⟩
 have one:∀ a ∈ qs0,∃ ob n x y z,(h'.push (seqObj "list" vs.toArray 0)).get? a=some ob/\ob.cls = .type "tuple" /\ ob.data = .seq #[.int (kyH H a).1 x,.int (kyH H a).2.1 y,.int (kyH H a).2.2 z] n:=fun a ha=>by
  obtain ⟨k,e⟩:=akS a ha
  obtain ⟨ob,n,x,y,z,h1,h2,h3⟩:=aip I e
  rw [acW e]
  exact ⟨ob,n,x,y,z,Heap.get?_push_of_some _ (hk _ _ h1),h2,h3⟩
 have ht:∀ qs:List Addr,(∀ a ∈ qs,a ∈ qs0)->∃ fs,TupsOf (h'.push (seqObj "list" vs.toArray 0)) (fun _=>false) (qs.map Value.ref) fs:=fun qs=>by
  induction qs with
  | nil=>intro _; exact ⟨[],.nil⟩
  | cons a qs ih =>
   intro hq
   obtain ⟨fs,e⟩:=ih fun b hb=>hq b (List.mem_cons_of_mem _ hb)
   obtain ⟨ob,n,x,y,z,h1,h2,h3⟩:=one a (hq a (List.mem_cons_self ..))
   exact ⟨_ :: fs,.cons ⟨a,ob,_,n,rfl,h1,h2,h3,rfl,fun _=>⟨_,_,rfl⟩,fun e=>nomatch e⟩ e⟩
 obtain ⟨fs,ht⟩:=ht qs0 fun _ h=>h
 rw [<- eqs] at ht
 have hkey:∀ a ∈ qs0,PyProof.Rows.G.tupKeyC (h'.push (seqObj "list" vs.toArray 0)) (fun _=>false) (.ref a)=some [Sum.inl (kyH H a).1,Sum.inl (kyH H a).2.1,Sum.inl (kyH H a).2.2]:=fun a ha=>by
  obtain ⟨ob,n,x,y,z,h1,h2,h3⟩:=one a ha
  exact ai6 h1 h2 h3
 have hkk:∀ v,v ∈ vs->∃ l,PyProof.Rows.G.tupKeyC (h'.push (seqObj "list" vs.toArray 0)) (fun _=>false) v=some l:=fun v hv=>by
  rw [eqs] at hv
  obtain ⟨a,ha,rfl⟩:=List.mem_map.mp hv
  exact ⟨_,hkey a ha⟩
 refine wpAny_bind (wpAny_holding (wpAny_call_entry slot_list_sort ⟨_,hoL,rfl⟩ entry_list_sort (PyProof.Rows.G.list_sort_tups (s:={ s with heap:=h'.push (seqObj "list" vs.toArray 0),toks:=tk }) (shape:=fun _=>false) hoL ht hkk hL fun st' a1 a2 a3=>⟨_,rfl,?_⟩) (args_list_sort _)))
 refine wpAny_pure ⟨_,rfl,?_⟩
 have p1:(arrOf st').toList.Perm (vs.zip vs):=by
  rw [<- pairsOf_toList]; exact a1.toList
 have eqp:∀ p ∈ (arrOf st').toList,p.1=p.2/\p.1 ∈ vs:=fun p hp=>mem_zip_self (p1.mem_iff.mp hp)
 have zs:∀ l:List Value,(l.zip l).map (·.2)=l:=fun l=>by
  induction l with
  | nil=>rfl
  | cons a l ih=>rw [List.zip_cons_cons,List.map_cons,ih]
 have p2:((arrOf st').toList.map (·.2)).Perm vs:=by
  have:=p1.map (·.2)
  rw [zs] at this
  exact this
 have eo:(arrOf st').toList.map (·.2)=(((arrOf st').toList.map (·.2)).map aaI).map Value.ref:=by
  rw [List.map_map]
  conv=>lhs; rw [<- List.map_id ((arrOf st').toList.map (·.2))]
  refine List.map_congr_left fun v hv=>?_
  have:=p2.mem_iff.mp hv
  rw [eqs] at this
  obtain ⟨a,_,rfl⟩:=List.mem_map.mp this
  rfl
 have p3:(((arrOf st').toList.map (·.2)).map aaI).Perm qs0:=by
  have:=p2.map aaI
  rw [eqs] at this
  have e:(qs0.map Value.ref).map aaI=qs0:=by
   rw [List.map_map]
   conv=>rhs; rw [<- List.map_id qs0]
   rfl
  rw [e] at this
  exact this
 generalize hqs:((arrOf st').toList.map (·.2)).map aaI=qs at eo p3
 have pk:(qs.map (kyH H)).Perm (en.map (·.1)):=by
  rw [ek0]; exact p3.map _
 have hnd:(qs.map (kyH H)).Nodup:=pk.nodup_iff.mpr alN
 have akp:(arrOf st').toList.length=qs.length:=by rw [<- hqs,List.length_map,List.length_map]
 have hqz:qs.length=vs.length:=by rw [p3.length_eq,eqs,List.length_map]
 have kk:∀ (i:Nat) (hi:i < qs.length),KK (PyProof.Rows.G.tupKindC (h'.push (seqObj "list" vs.toArray 0)) fun _=>false) (arrOf st') i=[Sum.inl (kyH H qs[i]).1,Sum.inl (kyH H qs[i]).2.1,Sum.inl (kyH H qs[i]).2.2]:=fun i hi=>by
  have hi':i < (arrOf st').toList.length:=by rw [akp]; exact hi
  have hi2:i < (arrOf st').size:=by rw [<- Array.length_toList]; exact hi'
  have e1:(arrOf st')[i]? = some (arrOf st').toList[i]:=by rw [<- Array.getElem?_toList,List.getElem?_eq_getElem hi']
  have e2:=eqp _ (List.getElem_mem hi')
  have e3:(arrOf st').toList[i].2=Value.ref qs[i]:=by
   have:((arrOf st').toList.map (·.2))[i]? = (qs.map Value.ref)[i]?:=by rw [eo]
   rw [List.getElem?_map,List.getElem?_map,List.getElem?_eq_getElem hi',List.getElem?_eq_getElem hi] at this
   exact Option.some.inj this
  unfold KK
  rw [e1]
  dsimp only
  rw [e2.1,e3]
  rw [hkey _ (p3.mem_iff.mp (List.getElem_mem hi))]
  rfl
 have srt:(qs.map (kyH H)).Pairwise lt3:=by
  rw [List.pairwise_iff_getElem]
  intro i j hi hj hij
  rw [List.length_map] at hi hj
  rw [List.getElem_map,List.getElem_map]
  refine aiW (fun e=>?_) ?_
  ·have e':(qs.map (kyH H))[i]? = (qs.map (kyH H))[j]?:=by
    rw [List.getElem?_map,List.getElem?_map,List.getElem?_eq_getElem hi,List.getElem?_eq_getElem hj]
    exact congrArg some e
   have:=(List.getElem?_inj (by rw [List.length_map]; exact hi) hnd).mp e'
   omega
  ·have:=a2 i j (Nat.le_of_lt hij) (by rw [pairsOf_size]; omega)
   rw [kk i hi,kk j hj] at this
   exact this
 obtain ⟨ec,hat⟩:=sortedHeap_at (h:=h'.push (seqObj "list" vs.toArray 0)) (a:=h'.objs.size) (vs:=vs) (n:=0) (out:=(arrOf st').map (·.2)) hoL
 have keep:∀ b ob,h'.get? b=some ob->(sortedHeap (h'.push (seqObj "list" vs.toArray 0)) h'.objs.size vs ((arrOf st').map (·.2))).get? b=some ob:=fun b ob e1=>by
  have hlt:b < h'.objs.size:=Heap.lt_size e1
  rw [sortedHeap_old (Nat.ne_of_lt hlt) (by rw [size_push']; exact Nat.lt_succ_of_lt hlt)]
  exact Heap.get?_push_of_some _ e1
 have I':Inv X pins σ H { s with heap:=h',toks:=tk }:=I.kept (t':=tk) hk
 refine ⟨.ref h'.objs.size,upd H h'.objs.size (.lst (qs.map V.ref)),I'.laid (t':=tk) keep (Nat.le_refl _) ⟨?_,(arrOf st').toList.map (·.2),ec,?_,?_⟩,rfl,q _ qs _ (I'.hok.fresh (Nat.le_refl _)) pk srt (Wc fun a ha=>akS a (p3.mem_iff.mp ha))⟩
 ·rw [List.length_map,hqz]; exact hL
 ·rw [eo]; exact QH qs
 ·have ea:((arrOf st').toList.map (·.2)).toArray=(arrOf st').map (·.2):=by
   rw [<- Array.toList_map]
  rw [ea]
  exact hat
end
def Cl (P:Program) (w:World) (K:PySem.W.Frag) (mg:Str->Option Value) (base:Heap) (k:Nat) (x:Str) (ps:List Str) (sp:Sp):Prop :=
 ∃ (f:Addr) (fd:FuncData),Up P w K mg base CX0 k f fd ps sp/\mg x=some (.ref f)/\PySem.W.keepIn K (.ref f)=true/\Binds K fd ps []
def Dn (K:PySem.W.Frag) (mg:Str->Option Value) (x:Str) (st:Stmt) (ps:List Str):Prop :=
 ∃ (f:Addr) (fd:FuncData),Fun K x x st f fd/\mg x=some (.ref f)/\Binds K fd ps []
theorem Dn.ok {P:Program} {w:World} {K:PySem.W.Frag} {mg:Str->Option Value} {base:Heap} {x:Str} {st:Stmt} {N ps:List Str} {k:Nat} {sp:Sp} (D:Dn K mg x st ps) (S:Ar N ps (Aj st)) (len:∀ vs H Q E,sp vs H Q E->vs.length=ps.length)
  (hbody:∀ (f:Addr) (cdv:Value) (A:Around) (outer:List Env) (s:Shared) (H:Hp) (vs:List V) (Q:VK) (E:XK),Fq k (A.deeper (envOfC x (Aj st) s.heap.objs.size f cdv))->sp vs H Q E ->
   ∃ t,PSs (aam CX0 P w K mg base N x (Aj st) f cdv A outer s H E).nox (Ex st) t/\t { nx:=fun _ H'=>Q .non H',rt:=Q } (start N vs) H):Cl P w K mg base (k + 1) x ps sp:=by
 obtain ⟨f,fd,F,m,b⟩:=D
 exact ⟨f,fd,F.ok S len (fun cdv A outer s H vs Q E hr h=>hbody f cdv A outer s H vs Q E hr h),m,F.kp,b⟩
section
variable {X:Cx} {k n:Nat} {x:Str} {ps:List Str} {sp:Sp} {e:Expr} {es:List Expr} {t:TA} {p pos:Pos}
theorem Bl (C:Cl X.prog X.w X.K X.mg X.base k x ps sp) (hr:Fq n X.A) (hg:Gl X x) (ha:PA X (e :: es) t) (hkn:k <= n:=by decide) (hdb:(x == ("__debug__" : Str))=false:=by decide)
  (he:starEach (e :: es) X.env=(false,eval e X.env) :: starEach es X.env:=by rfl) (hpl:(backTo pos (starEach es X.env)).any (·.1)=false:=by rfl) :
  PE X (.Call (.Name x p) (e :: es) [] pos) (ah5 sp [] E0 t):=by
 obtain ⟨f,fd,F,hm,hk,hb⟩:=C
 exact ahk F (hr.mono hkn) hg hm hk hb .nil ah8 ha hdb he hpl
end
def ClC (P:Program) (w:World) (K:PySem.W.Frag) (mg:Str->Option Value) (base:Heap) (k:Nat) (x:Str) (C:Addr) (ps:List Str) (sp:Sp):Prop :=
 ∃ (f:Addr) (fd:FuncData),Mk K C f/\Up P w K mg base CX0 k f fd ps sp/\mg x=some (.ref C)/\Binds K fd ps []
def DnC (K:PySem.W.Frag) (mg:Str->Option Value) (x qual:Str) (C:Addr) (st:Stmt) (ps:List Str):Prop :=
 ∃ (f:Addr) (fd:FuncData),Mk K C f/\Fun K "__init__" qual st f fd/\mg x=some (.ref C)/\Binds K fd ps []
theorem DnC.ok {P:Program} {w:World} {K:PySem.W.Frag} {mg:Str->Option Value} {base:Heap} {x qual:Str} {C:Addr} {st:Stmt} {N ps:List Str} {k:Nat} {sp:Sp} (D:DnC K mg x qual C st ps) (S:Ar N ps (Aj st)) (len:∀ vs H Q E,sp vs H Q E->vs.length=ps.length)
  (hbody:∀ (f:Addr) (cdv:Value) (A:Around) (outer:List Env) (s:Shared) (H:Hp) (vs:List V) (Q:VK) (E:XK),Fq k (A.deeper (envOfC qual (Aj st) s.heap.objs.size f cdv))->sp vs H Q E ->
   ∃ t,PSs (aam CX0 P w K mg base N qual (Aj st) f cdv A outer s H E).nox (Ex st) t/\t { nx:=fun _ H'=>Q .non H',rt:=Q } (start N vs) H):ClC P w K mg base (k + 1) x C ps sp:=by
 obtain ⟨f,fd,M,F,m,b⟩:=D
 exact ⟨f,fd,M,F.ok S len (fun cdv A outer s H vs Q E hr h=>hbody f cdv A outer s H vs Q E hr h),m,b⟩
section
variable {X:Cx} {k n:Nat} {x:Str} {C:Addr} {ps:List Str} {sp:Sp} {e:Expr} {es:List Expr} {t:TA} {p pos:Pos}
theorem YB (c:ClC X.prog X.w X.K X.mg X.base k x C ps sp) (hr:Fq n X.A) (hg:Gl X x) (ha:PA X (e :: es) t) (hkn:k + 1 <= n:=by decide) (hdb:(x == ("__debug__" : Str))=false:=by decide)
  (he:starEach (e :: es) X.env=(false,eval e X.env) :: starEach es X.env:=by rfl) (hpl:(backTo pos (starEach es X.env)).any (·.1)=false:=by rfl) :
  PE X (.Call (.Name x p) (e :: es) [] pos) (ah4 C sp [] E0 t):=by
 obtain ⟨f,fd,M,F,hm,hb⟩:=c
 exact ahg M F (hr.mono hkn) hg hm hb .nil ah8 ha hdb he hpl
end
def Out (H:Hp) (Q:VK) (φ:V->Hp->Prop):Prop:=∀ v H',Ag H H'->φ v H'->Q v H'
theorem Ag.new {H:Hp} {p:Addr} {o:HO} (h:H p=none):Ag H (upd H p o):=fun b u e=>by rw [Ah (Bh e h)]; exact e
theorem Ag.Ef {H H':Hp} {p:Addr} {o:HO} (h:H p=none) (s:Ag H H'):Ag H (upd H' p o):=fun b u e=>by rw [Ah (Bh e h)]; exact s b u e
theorem Ag.rd {H H':Hp} {a:Addr} {u:HO} (s:Ag H H') (h:Rd H a u):Rd H' a u:=by
 rcases h with h | ⟨o,h⟩
 ·exact .inl (s _ _ h)
 ·exact .inr ⟨o,s _ _ h⟩
theorem Ag.sqT {K:PySem.W.Frag} {H H':Hp} {a:Addr} {xs:List V} (e:Ag H H') (h:SqT K H a xs):SqT K H' a xs:=by
 unfold SqT at h ⊢
 rcases h with h | h
 ·exact .inl (e.rd h)
 ·exact .inr h
theorem PI.or {X:Cx} {tg e:Expr} {a b:TI} (h1:PI X tg e a) (h2:PI X tg e b):PI X tg e (fun σ H R=>a σ H R \/ b σ H R):=fun pins s σ H R I h=>by
 rcases h with h | h
 ·exact h1 pins s σ H R I h
 ·exact h2 pins s σ H R I h
theorem Bx {n:Nat} (h:n <= 2000000):n < sizeLine:=by rw [sizeLine_eq]; omega
theorem abm {J:It} {n:Nat} {g:TG} {tt:TT} {te:TE} {vs:List Nat} {σ:St} {H1:Hp} {D:Addr} {Qd:Hp->Prop} (Pv:Nat->Hp->Prop) (h0:Pv 0 (upd H1 D (.lst [])))
  (hgo:∀ i H,i < n->Pv i H->J.go i H) (hst:∀ H,Pv n H->J.stop n H)
  (hs:∀ i x H H',i < n->Pv i H->J.yld i H x H'->g x (wipe σ vs) H' fun σ2 H2=>wipe σ2 vs=wipe σ vs/\tt σ2 H2 fun b H3 =>
   if b=true then te σ2 H3 fun y H4=>∃ acc,H4 D=some (.lst acc)/\acc.length < sizeLine/\Pv (i + 1) (upd H4 D (.lst (acc ++ [y]))) else Pv (i + 1) H3) (hd:∀ H,Pv n H->Qd H) :
  ∃ W:Nat->Nat->Hp->Prop,(∃ m,W 0 m (upd H1 D (.lst [])))/\∀ i m H,W i m H ->
   (J.stop i H/\Qd H) \/ (J.go i H/\∃ Nx:Hp->Prop,(∀ H',Nx H'->∃ m',m' < m/\W (i + 1) m' H')/\∀ x H',J.yld i H x H'->g x (wipe σ vs) H' fun σ2 H2=>wipe σ2 vs=wipe σ vs/\tt σ2 H2 fun b H3 =>
    if b=true then te σ2 H3 fun y H4=>∃ acc,H4 D=some (.lst acc)/\acc.length < sizeLine/\Nx (upd H4 D (.lst (acc ++ [y]))) else Nx H3):=by
 refine ⟨fun i m H=>m=n - i/\i <= n/\Pv i H,⟨n,by simp,Nat.zero_le _,h0⟩,?_⟩
 rintro i m H ⟨rfl,hi,p⟩
 by_cases hlt:i < n
 ·exact .inr ⟨hgo i H hlt p,Pv (i + 1),fun H' p'=>⟨n - (i + 1),by omega,rfl,hlt,p'⟩,fun x H' y=>hs i x H H' hlt p y⟩
 ·have e:i=n:=by omega
  subst e
  exact .inl ⟨hst H p,hd H p⟩
theorem Rt {H H':Hp} {da:Addr} {od:Obj} {u:HO} (hda:H da=some u) (sm:Ag (upd H da (.frz od u)) H'):Ag H (upd H' da u):=fun b o e=>by
 by_cases z:b=da
 ·rw [z,Ab]; rw [z,hda] at e; exact e
 ·rw [Ah z]
  exact sm _ _ (by rw [Ah z]; exact e)
theorem UJ {H:Hp} {a da:Addr} {od:Obj} {o u:HO} (ha:H a=some o) (hda:H da=some u) (d:o ≠ u):upd H da (.frz od u) a=some o:=by
 rw [Ah (Gg ha hda d)]; exact ha
theorem WX:bootBuiltins "list" = some (.type "list"):=by decide +kernel
theorem Lz:bootBuiltins "tuple" = some (.type "tuple"):=by decide +kernel
theorem afg:bootBuiltins "ord" = some (.builtin "ord"):=by decide +kernel
theorem Zj:bootBuiltins "all" = some (.builtin "all"):=by decide +kernel
theorem afi:bootBuiltins "any" = some (.builtin "any"):=by decide +kernel
theorem Qs:bootBuiltins "sorted" = some (.builtin "sorted"):=by decide +kernel
theorem Oo {σ:St} {H:Hp} {A B:Hp->Prop} (h:A H):ajL σ H (fun b H3=>if b=true then A H3 else B H3):=by
 show if true=true then A H else B H
 rw [if_pos rfl]
 exact h
end L2
namespace Py
open PySem PySem.Spec PyProof.Rows L2
def top (i:Nat):Stmt:=PySem.Challenge.pw_laystones_s07_make.main.body.getD i (.Pass ⟨0,0,0,0⟩)
abbrev afH:Stmt:=inClass (top 6) 0
abbrev afI:Stmt:=inClass (top 59) 0
abbrev Yx:Stmt:=inClass (top 96) 0
abbrev J2:Stmt:=top 7
abbrev Vw:Stmt:=top 8
abbrev Vv:Stmt:=top 9
abbrev adB:Stmt:=top 10
abbrev Nu:Stmt:=top 11
abbrev Nt:Stmt:=top 12
abbrev JW:Stmt:=top 13
abbrev Ja:Stmt:=top 14
abbrev IW:Stmt:=top 15
abbrev Fe:Stmt:=top 16
abbrev Jd:Stmt:=top 17
abbrev J1:Stmt:=top 18
abbrev Nr:Stmt:=top 19
abbrev aa0:Stmt:=top 20
abbrev Og:Stmt:=top 28
abbrev Jc:Stmt:=top 29
abbrev Yu:Stmt:=top 30
abbrev Vt:Stmt:=top 31
abbrev R8:Stmt:=top 32
abbrev Vu:Stmt:=top 33
abbrev Rb:Stmt:=top 34
abbrev R7:Stmt:=top 35
abbrev R6:Stmt:=top 43
abbrev Px:Stmt:=top 44
abbrev R4:Stmt:=top 45
abbrev Jb:Stmt:=top 46
abbrev PB:Stmt:=top 47
abbrev Ek:Stmt:=top 48
abbrev JV:Stmt:=top 50
abbrev J4:Stmt:=top 60
abbrev R5:Stmt:=top 61
abbrev G6:Stmt:=top 62
abbrev Yw:Stmt:=top 64
abbrev JZ:Stmt:=top 65
abbrev PL:Stmt:=top 66
abbrev Ib:Stmt:=top 67
abbrev J0:Stmt:=top 68
abbrev GJ:Stmt:=top 69
abbrev Fb:Stmt:=top 70
abbrev JX:Stmt:=top 72
abbrev Jz:Stmt:=top 73
abbrev HH:Stmt:=top 74
abbrev Nv:Stmt:=top 75
abbrev Hi:Stmt:=top 77
abbrev PJ:Stmt:=top 78
abbrev PK:Stmt:=top 80
abbrev J5:Stmt:=top 81
abbrev Hg:Stmt:=top 82
abbrev Hh:Stmt:=top 83
abbrev Yv:Stmt:=top 97
abbrev Pz:Stmt:=top 98
abbrev R9:Stmt:=top 99
abbrev G5:Stmt:=top 100
abbrev J3:Stmt:=top 101
abbrev Oe:Stmt:=top 102
structure Txt (K:PySem.W.Frag) (mg:Str->Option Value) (Ak Aq Af:Addr):Prop where
 ajw:DnC K mg "Part" "Part.__init__" Ak afH ["self", "name", "width", "depth", "height", "cells"]
 Bj:Cls K Ak
 Fy:DR K Ak "name"
 Eb:DR K Ak "width"
 Dr:DR K Ak "depth"
 Dv:DR K Ak "height"
 BR:DR K Ak "cells"
 ajx:DnC K mg "Line" "Line.__init__" Aq afI ["self", "part", "x", "y", "z", "turns"]
 Ey:Cls K Aq
 Tz:DR K Aq "part"
 W7:DR K Aq "x"
 W6:DR K Aq "y"
 W5:DR K Aq "z"
 Qx:DR K Aq "turns"
 ae7:DnC K mg "Reading" "Reading.__init__" Af Yx ["self", "refusal", "owners", "under"]
 CJ:Cls K Af
 Cz:DR K Af "refusal"
 Jr:DR K Af "owners"
 Fi:DR K Af "under"
 Ua:Dn K mg "is_place_sign" J2 ["sign"]
 ac9:Dn K mg "has_stud" Vw ["sign"]
 ac8:Dn K mg "has_tube" Vv ["sign"]
 ahO:Dn K mg "moved" adB ["place", "x", "y", "z"]
 XN:Dn K mg "place_above" Nu ["place"]
 XM:Dn K mg "place_below" Nt ["place"]
 T5:Dn K mg "places_beside" JW ["place"]
 Rx:Dn K mg "studs_are_free" Ja ["part"]
 Rw:Dn K mg "tubes_are_free" IW ["part"]
 M7:Dn K mg "reaches_its_sides" Fe ["part"]
 RB:Dn K mg "hangs_together" Jd ["part"]
 T9:Dn K mg "is_right_part" J1 ["part"]
 XJ:Dn K mg "turned_once" Nr ["part"]
 agz:Dn K mg "turned" aa0 ["part", "turns"]
 ada:Dn K mg "bytes_of" Og ["letters"]
 Rz:Dn K mg "pieces_between" Jc ["signs", "divider"]
 ae2:Dn K mg "rows_of" Yu ["text"]
 ac6:Dn K mg "words_of" Vt ["row"]
 abJ:Dn K mg "is_letter" R8 ["sign"]
 ac7:Dn K mg "is_digit" Vu ["sign"]
 ae5:Dn K mg "is_name" Rb ["signs", "longest"]
 abI:Dn K mg "number_of" R7 ["signs", "least", "most"]
 abH:Dn K mg "read_head" R6 ["row"]
 aaf:Dn K mg "read_cells" Px ["rows", "width", "depth"]
 abF:Dn K mg "read_part" R4 ["rows", "first"]
 Ry:Dn K mg "read_catalogue" Jb ["text"]
 aah:Dn K mg "names_rise" PB ["parts"]
 Lk:Dn K mg "is_right_catalogue" Ek ["parts"]
 T4:Dn K mg "text_of_pages" JV ["pages"]
 Uc:Dn K mg "is_build_head" J4 ["row"]
 abG:Dn K mg "read_line" R5 ["row", "parts_by_name"]
 aae:Dn K mg "read_lines" G6 ["text", "parts"]
 ae4:Dn K mg "mask_of" Yw ["line"]
 T7:Dn K mg "mask_of_lines" JZ ["lines"]
 aal:Dn K mg "is_in_mask" PL ["line", "mask"]
 XQ:Dn K mg "lines_under" Ib ["owners", "count"]
 T8:Dn K mg "lines_reached" J0 ["under"]
 Lj:Dn K mg "least_line_in_ring" GJ ["under"]
 Hu:Dn K mg "least_line_without_hold" Fb ["owners", "count"]
 T6:Dn K mg "may_come_next" JX ["line", "before", "under"]
 aaj:Dn K mg "lines_next" Jz ["before", "under"]
 Qm:Dn K mg "least_line_next" HH ["before", "under"]
 XR:Dn K mg "first_order" Nv ["under"]
 Wz:Dn K mg "chains_above" Hi ["under"]
 aai:Dn K mg "made_pages" PJ ["most", "under"]
 aak:Dn K mg "is_in_room" PK ["line", "part"]
 Ud:Dn K mg "cells_in_room" J5 ["line", "part"]
 Oq:Dn K mg "studs_meet_tubes" Hg ["cells"]
 Ot:Dn K mg "owners_of_places" Hh ["lines"]
 ae3:Dn K mg "refused" Yv ["refusal"]
 aag:Dn K mg "read_build" Pz ["c", "b"]
 abK:Dn K mg "hindrance" R9 ["build"]
 M6:Dn K mg "that_can_be_built" G5 ["build"]
 Ub:Dn K mg "is_page_bound" J3 ["K"]
 al0:Dn K mg "make" Oe ["K", "c", "b"]
 Ye:∃ t,mg "NO_CELL" = some (.int (46) t)
 Zx:∃ t,mg "PLAIN_CELL" = some (.int (35) t)
 RX:∃ t,mg "STUD_CELL" = some (.int (115) t)
 RW:∃ t,mg "TUBE_CELL" = some (.int (116) t)
 Kr:∃ t,mg "BOTH_CELL" = some (.int (98) t)
 Yd:∃ t,mg "ROW_END" = some (.int (10) t)
 agW:∃ t,mg "BLANK" = some (.int (32) t)
 U8:∃ t,mg "NOUGHT" = some (.int (48) t)
 ain:∃ t,mg "NINE" = some (.int (57) t)
 aea:∃ t,mg "LOWER_A" = some (.int (97) t)
 ad9:∃ t,mg "LOWER_Z" = some (.int (122) t)
 ZC:∃ t,mg "MOST_PARTS" = some (.int (64) t)
 Ht:∃ t,mg "LONGEST_NAME_catalogues" = some (.int (8) t)
 Zy:∃ t,mg "MOST_WIDTH" = some (.int (16) t)
 ZF:∃ t,mg "MOST_DEPTH" = some (.int (16) t)
 Xj:∃ t,mg "MOST_HEIGHT" = some (.int (18) t)
 Xi:∃ t,mg "MOST_WEIGHT" = some (.int (9999) t)
 ZD:∃ t,mg "MOST_LINES" = some (.int (256) t)
 Ko:∃ t,mg "LONGEST_NAME_lines" = some (.int (16) t)
 Xk:∃ t,mg "MOST_COLOUR" = some (.int (255) t)
 Zz:∃ t,mg "MOST_TURNS" = some (.int (3) t)
 O1:∃ t,mg "ROOM_WIDTH" = some (.int (64) t)
 O2:∃ t,mg "ROOM_DEPTH" = some (.int (64) t)
 Nh:∃ t,mg "ROOM_HEIGHT" = some (.int (96) t)
 Oc:∃ t,mg "MOST_BUILD_BYTES" = some (.int (16384) t)
 O3:∃ t,mg "MOST_PAGE_LINES" = some (.int (256) t)
 TJ:∃ t,mg "OUT_OF_BOUNDS" = some (.int (-1) t)
 ab8:∃ t,mg "TOO_LONG" = some (.int (-2) t)
 O4:∃ t,mg "CANNOT_BE_BUILT" = some (.int (-3) t)
 TQ:∃ t,mg "NO_BUILD_TEXT" = some (.int (-5) t)
 MT:∃ t,mg "NO_CATALOGUE_TEXT" = some (.int (-6) t)
 Ke:∃ t,mg "CATALOGUE_NOT_RIGHT" = some (.int (-8) t)
 O5:∃ t,mg "BUILD_NOT_RIGHT" = some (.int (-9) t)
 aeb:∃ t,mg "IN_RING" = some (.int (1) t)
 U7:∃ t,mg "WITHOUT_HOLD" = some (.int (2) t)
 Dg:mg "len" = none
 MN:mg "range" = none
 Eo:mg "enumerate" = none
 aaA:mg "tuple" = none
 agJ:mg "list" = none
 akO:mg "ord" = none
 aih:mg "all" = none
 akQ:mg "any" = none
 W4:mg "sorted" = none
 akP:mg "max" = none
 adl:mg "reversed" = none
open Mx (P3 mv De Dd)
theorem Df {X:Cx} {x:Str} {i:Int} {pos:Pos} (h:∃ t,X.mg x=some (.int i t)) (hg:Gl X x) (hd:(x == ("__debug__" : Str))=false:=by decide):PE X (.Name x pos) (tC (.int i)) :=
 let ⟨t,e⟩:=h; ahh hg e ⟨t,rfl⟩ hd
def VJ (n w d h c:V):List (Str × V):=[("name",n),("width",w),("depth",d),("height",h),("cells",c)]
def Ao (es:List (P3 × Int)):List (List Key × V):=es.map fun x=>(t3 x.1,.int x.2)
theorem Cd (es:List (P3 × Int)):(Ao es).length=es.length:=List.length_map _
theorem GR {es:List (P3 × Int)} {i:Nat} {k:List Key} {v:V} (h:(Ao es)[i]? = some (k,v)):∃ q s,es[i]? = some (q,s)/\k=t3 q/\v = .int s:=by
 unfold Ao at h
 rw [List.getElem?_map] at h
 cases e:es[i]? with
 | none=>rw [e] at h; cases h
 | some x =>
  rw [e] at h
  cases h
  exact ⟨x.1,x.2,rfl,rfl,rfl⟩
theorem Gr (q:P3):∀ es:List (P3 × Int),(Er (Ao es) (t3 q)).isSome=decide (q ∈ es.map (·.1))
 | []=>rfl
 | x :: r=>by
  have ih:=Gr q r
  unfold Ao at ih ⊢
  rw [List.map_cons]
  by_cases e:x.1=q
  ·rw [CW (by rw [e])]
   simp [e]
  ·rw [CZ (fun z=>e (ach z)),ih]
   have:¬ q=x.1:=fun z=>e z.symm
   simp [this]
def Gx (C:Addr) (H:Hp) (a:Addr) (n:List V) (w d h:Int) (es:List (P3 × Int)):Prop :=
 ∃ dx na da,H a=some (.ins C dx (VJ (.ref na) (.int w) (.int d) (.int h) (.ref da)))/\H na=some (.tup n)/\H da=some (.dT (Ao es))/\es.length <= 4608
theorem Gx.same {C:Addr} {H H':Hp} {a:Addr} {n:List V} {w d h:Int} {es:List (P3 × Int)} (s:Ag H H') (p:Gx C H a n w d h es):Gx C H' a n w d h es :=
 let ⟨dx,na,da,h1,h2,h3,h4⟩:=p; ⟨dx,na,da,s _ _ h1,s _ _ h2,s _ _ h3,h4⟩
section
variable {P:Program} {w:World} {K:PySem.W.Frag} {mg:Str->Option Value} {base:Heap} {Ak Aq Af:Addr}
def adx (C:Addr):Sp:=fun vs H Q _=>∃ (p dx:Addr) (n w d h c:V),vs=[.ref p,n,w,d,h,c]/\H p=some (.ins C dx []) /\
 ∀ H':Hp,H' p=some (.ins C dx (VJ n w d h c))->(∀ b o,H b=some o->b ≠ p->H' b=some o)->Q .non H'
theorem ag8:Ar ["self", "name", "width", "depth", "height", "cells"] ["self", "name", "width", "depth", "height", "cells"] (Aj afH):=⟨rfl,rfl,rfl,by decide +kernel,rfl,by decide +kernel,by decide +kernel⟩
theorem adi (T:Txt K mg Ak Aq Af):ClC P w K mg base 1 "Part" Ak ["self", "name", "width", "depth", "height", "cells"] (adx Ak):=by
 refine T.ajw.ok ag8 (fun vs H Q E h=>?_) (fun f cdv A outer s H vs Q E hr h=>?_)
 ·obtain ⟨p,dx,n,w,d,h,c,rfl,_⟩:=h
  rfl
 ·obtain ⟨p,dx,n,w,d,h,c,rfl,hp,k⟩:=h
  refine ⟨_,Ac (Gs (pv 0) (pv 1) rfl) (Ac (Gs (pv 0) (pv 2) rfl) (Ac (Gs (pv 0) (pv 3) rfl) (Ac (Gs (pv 0) (pv 4) rfl) (Ae (Gs (pv 0) (pv 5) rfl))))),?_⟩
  refine ⟨_,rfl,_,rfl,p,Ak,dx,_,rfl,hp,T.Bj,T.Fy,(by show 0 < 1000; decide),?_⟩
  refine ⟨_,rfl,_,rfl,p,Ak,dx,_,rfl,Ab,T.Bj,T.Eb,(by show 1 < 1000; decide),?_⟩
  refine ⟨_,rfl,_,rfl,p,Ak,dx,_,rfl,Ab,T.Bj,T.Dr,(by show 2 < 1000; decide),?_⟩
  refine ⟨_,rfl,_,rfl,p,Ak,dx,_,rfl,Ab,T.Bj,T.Dv,(by show 3 < 1000; decide),?_⟩
  refine ⟨_,rfl,_,rfl,p,Ak,dx,_,rfl,Ab,T.Bj,T.BR,(by show 4 < 1000; decide),?_⟩
  refine k _ (Eq.trans Ab rfl) fun b o e hb=>?_
  rw [Ah hb,Ah hb,Ah hb,Ah hb,Ah hb]
  exact e
theorem Z4 {H1:Hp} {Q:VK} {n w d h c:V} (k:∀ x H',Ag H1 H'->(∃ dx,H' x=some (.ins Ak dx (VJ n w d h c)))->Q (.ref x) H') :
  ∀ x dx,H1 x=none->H1 dx=none->dx ≠ x->adx Ak (.ref x :: ([n,w,d,h,c] ++ [])) (upd (upd H1 dx (.own x)) x (.ins Ak dx [])) (fun v H2=>v = .non/\Q (.ref x) H2) E0:=fun x dx nx nd ne =>
 ⟨x,dx,n,w,d,h,c,rfl,Ab,fun H' hx kp=>⟨rfl,k x H' (Ag.made nx nd kp) ⟨dx,hx⟩⟩⟩
def Vk (f:Int->Bool):Sp:=fun vs H Q _=>∃ c,vs=[.int c]/\Out H Q (fun v _=>v = .bl (f c))
def acy (c:Int):Bool:=inV (.int c) [.int 46,.int 35,.int 115,.int 116,.int 98]
theorem Q9:Ar ["sign"] ["sign"] (Aj J2):=⟨rfl,rfl,rfl,by decide +kernel,rfl,by decide +kernel,by decide +kernel⟩
theorem Uk (T:Txt K mg Ak Aq Af):Cl P w K mg base 1 "is_place_sign" ["sign"] (Vk acy):=by
 refine T.Ua.ok Q9 (fun vs H Q E h=>?_) (fun f cdv A outer s H vs Q E hr h=>?_)
 ·obtain ⟨c,rfl,_⟩:=h
  rfl
 ·obtain ⟨c,rfl,k⟩:=h
  refine ⟨_,Ae (Al (FQ Mq (pv 0) (Rh (Aa (Df T.Ye rfl) (Aa (Df T.Zx rfl) (Aa (Df T.RX rfl) (Aa (Df T.RW rfl) (Aa (Df T.Kr rfl) Ad)))))) (by rfl))),?_⟩
  refine ⟨_,rfl,(by show 5 <= sizeLine; decide),fun p hp=>⟨p,_,rfl,.inr (SqT.of Ab),rfl,rfl,?_⟩⟩
  exact k _ _ (Ag.new hp) rfl
theorem aaY:Ar ["sign"] ["sign"] (Aj Vw):=⟨rfl,rfl,rfl,by decide +kernel,rfl,by decide +kernel,by decide +kernel⟩
theorem agi (a b c:Int):inV (.int c) [.int a,.int b] = (c == a || c == b):=by
 unfold inV
 simp only [List.any_cons,List.any_nil,Bool.or_false,eqV]
 rw [Bool.beq_comm (a:=a),Bool.beq_comm (a:=b)]
theorem WN (T:Txt K mg Ak Aq Af):Cl P w K mg base 1 "has_stud" ["sign"] (Vk De):=by
 refine T.ac9.ok aaY (fun vs H Q E h=>?_) (fun f cdv A outer s H vs Q E hr h=>?_)
 ·obtain ⟨c,rfl,_⟩:=h
  rfl
 ·obtain ⟨c,rfl,k⟩:=h
  refine ⟨_,Ae (Al (FQ Mq (pv 0) (Rh (Aa (Df T.RX rfl) (Aa (Df T.Kr rfl) Ad))) (by rfl))),?_⟩
  refine ⟨_,rfl,(by show 2 <= sizeLine; decide),fun p hp=>⟨p,_,rfl,.inr (SqT.of Ab),rfl,rfl,?_⟩⟩
  exact k _ _ (Ag.new hp) (congrArg V.bl (agi 115 98 c))
theorem aaX:Ar ["sign"] ["sign"] (Aj Vv):=⟨rfl,rfl,rfl,by decide +kernel,rfl,by decide +kernel,by decide +kernel⟩
theorem WM (T:Txt K mg Ak Aq Af):Cl P w K mg base 1 "has_tube" ["sign"] (Vk Dd):=by
 refine T.ac8.ok aaX (fun vs H Q E h=>?_) (fun f cdv A outer s H vs Q E hr h=>?_)
 ·obtain ⟨c,rfl,_⟩:=h
  rfl
 ·obtain ⟨c,rfl,k⟩:=h
  refine ⟨_,Ae (Al (FQ Mq (pv 0) (Rh (Aa (Df T.RW rfl) (Aa (Df T.Kr rfl) Ad))) (by rfl))),?_⟩
  refine ⟨_,rfl,(by show 2 <= sizeLine; decide),fun p hp=>⟨p,_,rfl,.inr (SqT.of Ab),rfl,rfl,?_⟩⟩
  exact k _ _ (Ag.new hp) (congrArg V.bl (agi 116 98 c))
def TupAt (H:Hp) (v:V) (q:P3):Prop:=∃ p,v = .ref p/\H p=some (.tup (v3 q))
def afA:Sp:=fun vs H Q _=>∃ (a:Addr) (q:P3) (x y z:Int),vs=[.ref a,.int x,.int y,.int z]/\H a=some (.tup (v3 q))/\Out H Q (fun v H'=>TupAt H' v (mv q x y z))
theorem afG:Ar ["place", "x", "y", "z"] ["place", "x", "y", "z"] (Aj adB):=⟨rfl,rfl,rfl,by decide +kernel,rfl,by decide +kernel,by decide +kernel⟩
theorem UL (T:Txt K mg Ak Aq Af):Cl P w K mg base 1 "moved" ["place", "x", "y", "z"] afA:=by
 refine T.ahO.ok afG (fun vs H Q E h=>?_) (fun f cdv A outer s H vs Q E hr h=>?_)
 ·obtain ⟨a,q,x,y,z,rfl,_⟩:=h
  rfl
 ·obtain ⟨a,q,x,y,z,rfl,ha,k⟩:=h
  refine ⟨_,Ae (Al (Rh (Aa (BV Gd (Ci Ih (pv 0) Am (fun _ _=>rfl)) (pv 1)) (Aa (BV Gd (Ci Ih (pv 0) Am (fun _ _=>rfl)) (pv 2)) (Aa (BV Gd (Ci Ih (pv 0) Am (fun _ _=>rfl)) (pv 3)) Ad))))),?_⟩
  refine ⟨_,rfl,a,_,_,_,rfl,rfl,SqT.of ha,at_of (j:=0) rfl rfl,_,rfl,_,_,rfl,rfl,?_⟩
  refine ⟨_,rfl,a,_,_,_,rfl,rfl,SqT.of ha,at_of (j:=1) rfl rfl,_,rfl,_,_,rfl,rfl,?_⟩
  refine ⟨_,rfl,a,_,_,_,rfl,rfl,SqT.of ha,at_of (j:=2) rfl rfl,_,rfl,_,_,rfl,rfl,?_⟩
  refine ⟨(by show 3 <= sizeLine; decide),fun p hp=>?_⟩
  exact k _ _ (Ag.new hp) ⟨p,rfl,Ab⟩
def ajX (x y z:Int):Sp:=fun vs H Q _=>∃ (a:Addr) (q:P3),vs=[.ref a]/\H a=some (.tup (v3 q))/\Out H Q (fun v H'=>TupAt H' v (mv q x y z))
theorem Vq:Ar ["place"] ["place"] (Aj Nu):=⟨rfl,rfl,rfl,by decide +kernel,rfl,by decide +kernel,by decide +kernel⟩
theorem Ik (T:Txt K mg Ak Aq Af):Cl P w K mg base 2 "place_above" ["place"] (ajX 0 0 1):=by
 refine T.XN.ok Vq (fun vs H Q E h=>?_) (fun f cdv A outer s H vs Q E hr h=>?_)
 ·obtain ⟨a,q,rfl,_⟩:=h
  rfl
 ·obtain ⟨a,q,rfl,ha,k⟩:=h
  refine ⟨_,Ae (Al (Bl (UL T) hr rfl (Aa (pv 0) (Aa Am (Aa Am (Aa Am Ad)))))),?_⟩
  exact ⟨_,rfl,a,q,0,0,1,rfl,ha,k⟩
theorem Vp:Ar ["place"] ["place"] (Aj Nt):=⟨rfl,rfl,rfl,by decide +kernel,rfl,by decide +kernel,by decide +kernel⟩
theorem Ij (T:Txt K mg Ak Aq Af):Cl P w K mg base 2 "place_below" ["place"] (ajX 0 0 (-1)):=by
 refine T.XM.ok Vp (fun vs H Q E h=>?_) (fun f cdv A outer s H vs Q E hr h=>?_)
 ·obtain ⟨a,q,rfl,_⟩:=h
  rfl
 ·obtain ⟨a,q,rfl,ha,k⟩:=h
  refine ⟨_,Ae (Al (Bl (UL T) hr rfl (Aa (pv 0) (Aa Am (Aa Am (Aa (Sq QJ Am) Ad)))))),?_⟩
  exact ⟨_,rfl,_,rfl,a,q,0,0,-1,rfl,ha,k⟩
end
open Mx (P3 mv De Dd Di Dz ax Eg)
def agP (H:Hp) (v:V) (ks:List P3):Prop:=∃ p qs,v = .ref p/\H p=some (.lst (qs.map V.ref))/\Paired (fun q k=>H q=some (.tup (v3 k))) qs ks
theorem HN {H H':Hp} (s:Ag H H'):∀ {qs:List Addr} {ks:List P3},Paired (fun q k=>H q=some (.tup (v3 k))) qs ks->Paired (fun q k=>H' q=some (.tup (v3 k))) qs ks
 | _,_,.nil=>.nil
 | _,_,.cons h t=>.cons (s _ _ h) (HN s t)
theorem Dt {α β:Type} {G:α->β->Prop}:∀ {a b:List α} {c d:List β},Paired G a c->Paired G b d->Paired G (a ++ b) (c ++ d)
 | _,_,_,_,.nil,r=>r
 | _,_,_,_,.cons h t,r=>.cons h (Dt t r)
theorem N5 {α:Type} {p:α->Bool} {l:List α} {i:Nat} {x:α} (h:l[i]? = some x):(l.take (i + 1)).any p=((l.take i).any p || p x):=by
 rw [List.take_succ,h]
 simp
theorem Zu {α:Type} {p:α->Bool} {l:List α} {i:Nat} {x:α} (h:l[i]? = some x) (hp:p x=true):l.any p=true:=List.any_eq_true.mpr ⟨x,List.mem_of_getElem? h,hp⟩
section
variable {P:Program} {w:World} {K:PySem.W.Frag} {mg:Str->Option Value} {base:Heap} {Ak Aq Af:Addr}
def QR:Sp:=fun vs H Q _=>∃ (a:Addr) (q:P3),vs=[.ref a]/\H a=some (.tup (v3 q))/\Out H Q (fun v H'=>agP H' v [mv q (-1) 0 0,mv q 1 0 0,mv q 0 (-1) 0,mv q 0 1 0])
theorem Q6:Ar ["place"] ["place"] (Aj JW):=⟨rfl,rfl,rfl,by decide +kernel,rfl,by decide +kernel,by decide +kernel⟩
theorem Ug (T:Txt K mg Ak Aq Af):Cl P w K mg base 2 "places_beside" ["place"] QR:=by
 refine T.T5.ok Q6 (fun vs H Q E h=>?_) (fun f cdv A outer s H vs Q E hr h=>?_)
 ·obtain ⟨a,q,rfl,_⟩:=h
  rfl
 ·obtain ⟨a,q,rfl,ha,k⟩:=h
  have M:=UL (P:=P) (w:=w) (base:=base) T
  refine ⟨_,Ae (Al (DN (Aa (Bl M hr rfl (Aa (pv 0) (Aa (Sq QJ Am) (Aa Am (Aa Am Ad)))))
   (Aa (Bl M hr rfl (Aa (pv 0) (Aa Am (Aa Am (Aa Am Ad)))))
   (Aa (Bl M hr rfl (Aa (pv 0) (Aa Am (Aa (Sq QJ Am) (Aa Am Ad)))))
   (Aa (Bl M hr rfl (Aa (pv 0) (Aa Am (Aa Am (Aa Am Ad))))) Ad)))))),?_⟩
  refine ⟨_,rfl,_,rfl,a,q,-1,0,0,rfl,ha,fun v1 H1 s1 ⟨p1,e1,h1⟩=>?_⟩
  refine ⟨_,rfl,a,q,1,0,0,rfl,s1 _ _ ha,fun v2 H2 s2 ⟨p2,e2,h2⟩=>?_⟩
  refine ⟨_,rfl,_,rfl,a,q,0,-1,0,rfl,s2 _ _ (s1 _ _ ha),fun v3' H3 s3 ⟨p3,e3,h3⟩=>?_⟩
  refine ⟨_,rfl,a,q,0,1,0,rfl,s3 _ _ (s2 _ _ (s1 _ _ ha)),fun v4 H4 s4 ⟨p4,e4,h4⟩=>?_⟩
  subst e1 e2 e3 e4
  refine ⟨(by show 4 <= sizeLine; decide),fun p hp=>?_⟩
  have sn:Ag H4 (upd H4 p (.lst [.ref p1,.ref p2,.ref p3,.ref p4])):=Ag.new hp
  refine k _ _ ((((s1.trans s2).trans s3).trans s4).trans sn) ⟨p,[p1,p2,p3,p4],rfl,Ab,?_⟩
  exact .cons (sn _ _ (s4 _ _ (s3 _ _ (s2 _ _ h1)))) (.cons (sn _ _ (s4 _ _ (s3 _ _ h2))) (.cons (sn _ _ (s4 _ _ h3)) (.cons (sn _ _ h4) .nil)))
def acq (C:Addr) (f:Int->Int->Int->List (P3 × Int)->Bool):Sp:=fun vs H Q _=>∃ (a:Addr) (n:List V) (w d h:Int) (es:List (P3 × Int)),vs=[.ref a]/\Gx C H a n w d h es/\Out H Q (fun v _=>v = .bl (f w d h es))
theorem Hz:Ar ["part", "place", "sign"] ["part"] (Aj Ja):=⟨rfl,rfl,rfl,by decide +kernel,rfl,by decide +kernel,by decide +kernel⟩
theorem RK (T:Txt K mg Ak Aq Af):Cl P w K mg base 3 "studs_are_free" ["part"] (acq Ak fun _ _ _ es=>!es.any (Di (es.map (·.1)))):=by
 refine T.Rx.ok Hz (fun vs H Q E h=>?_) (fun f cdv A outer s H vs Q E hr h=>?_)
 ·obtain ⟨a,n,w,d,h,es,rfl,_⟩:=h
  rfl
 ·obtain ⟨a,n,w,d,h,es,rfl,⟨dx,na,da,ha,hna,hda,hle⟩,k⟩:=h
  have nd:=Hz.nd
  have hu:=Jk hr
  refine ⟨_,Ac (JC (Cr PassesOwn.never rfl (Hb (Bk (pv 0) rfl)) (FN rfl (Bo (Bb (i:=1) nd rfl (Or.inl rfl)) (Bo (Bb (i:=2) nd rfl (Or.inl rfl)) Eh)))
   (Ae (Bt (PW.pt (VD (Ea (Bl (WN T) hr rfl (Aa (pv 2) Ad))) (PN (Cj (Z2 hu (Bl (Ik T) hr rfl (Aa (pv 1) Ad)) (Bk (pv 0) rfl)))))) (Ae (Al FT)) Az))))
   (Ae (Al FT)),?_⟩
  refine ⟨da,.dT (Ao es),hda,True.intro,fun od=>?_⟩
  have nad:a ≠ da:=Gg ha hda (by intro z; cases z)
  have ha':upd H da (.frz od (.dT (Ao es))) a=some (.ins Ak dx (VJ (.ref na) (.int w) (.int d) (.int h) (.ref da))):=by rw [Ah nad]; exact ha
  have back:∀ H':Hp,Ag (upd H da (.frz od (.dT (Ao es)))) H'->Ag H (upd H' da (.dT (Ao es))):=fun H' sm b o e=>by
   by_cases z:b=da
   ·rw [z,Ab]; rw [z,hda] at e; exact e
   ·rw [Ah z]
    exact sm _ _ (by rw [Ah z]; exact e)
  refine ⟨_,rfl,a,Ak,dx,_,_,rfl,ha',T.Bj,T.BR,rfl,da,od,_,rfl,Ab,Fp (kvs:=Ao es)
   (fun i σ H'=>∃ v1 v2:Option V,σ=[some (.ref a),v1,v2]/\Ag (upd H da (.frz od (.dT (Ao es)))) H'/\(es.take i).any (Di (es.map (·.1)))=false)
   ⟨none,none,rfl,Ag.refl _,rfl⟩ (fun i σ H' _ ⟨_,_,_,sm,_⟩=>sm _ _ Ab) ?_ ?_⟩
  ·rintro i kk v σ H' tt q hkv ⟨v1,v2,rfl,sm,hb⟩ hq hT
   obtain ⟨pl,c,hes,rfl,rfl⟩:=GR hkv
   have sn:Ag H' (upd H' tt (.tup [.ref q,.int c])):=Ag.new hT
   refine ⟨tt,_,rfl,SqT.of Ab,rfl,_,_,rfl,_,_,rfl,rfl,?_⟩
   refine ⟨_,rfl,c,rfl,fun v H1 s1 e=>⟨_,e,?_⟩⟩
   have e1:=N5 (p:=Di (es.map (·.1))) hes
   rw [hb,Bool.false_or] at e1
   have hq1:H1 q=some (.tup (v3 pl)):=s1 _ _ (sn _ _ hq)
   refine BP (fun hst=>?_) (fun hst=>?_)
   ·refine ⟨_,rfl,q,pl,rfl,hq1,fun v H2 s2 ⟨p2,ep,hp2⟩=>?_⟩
    subst ep
    have sm2:Ag (upd H da (.frz od (.dT (Ao es)))) H2:=((sm.trans sn).trans s1).trans s2
    refine ⟨_,rfl,a,Ak,dx,_,_,rfl,sm2 _ _ ha',T.Bj,T.BR,rfl,da,_,rfl,.inr ⟨Ao es,t3 (mv pl 0 0 1),p2,.inr ⟨od,sm2 _ _ Ab⟩,rfl,hp2,rfl⟩,_,rfl,?_⟩
    rw [Gr]
    refine BP (fun hin=>?_) (fun hin=>?_)
    ·refine ⟨sm2 _ _ Ab,k _ _ (back H2 sm2) ?_⟩
     have:es.any (Di (es.map (·.1)))=true:=Zu hes (by unfold Di; rw [hst,hin]; rfl)
     show V.bl false=V.bl (!es.any (Di (es.map (·.1))))
     rw [this]; rfl
    ·exact ⟨_,_,rfl,sm2,by rw [e1]; unfold Di; rw [hst]; simpa using hin⟩
   ·exact Fg ⟨_,_,rfl,(sm.trans sn).trans s1,by rw [e1]; unfold Di; rw [Bool.not_eq_true] at hst; rw [hst]; rfl⟩
  ·rintro σ H' ⟨v1,v2,rfl,sm,hb⟩
   rw [Cd,List.take_length] at hb
   refine ⟨sm _ _ Ab,?_⟩
   exact k _ _ (back H' sm) (by show V.bl true=V.bl (!es.any (Di (es.map (·.1)))); rw [hb]; rfl)
open Mx (P3 mv De Dd Di Dz ax Eg Gj)
theorem Hy:Ar ["part", "place", "sign"] ["part"] (Aj IW):=⟨rfl,rfl,rfl,by decide +kernel,rfl,by decide +kernel,by decide +kernel⟩
theorem RJ (T:Txt K mg Ak Aq Af):Cl P w K mg base 3 "tubes_are_free" ["part"] (acq Ak fun _ _ _ es=>!es.any (Dz (es.map (·.1)))):=by
 refine T.Rw.ok Hy (fun vs H Q E h=>?_) (fun f cdv A outer s H vs Q E hr h=>?_)
 ·obtain ⟨a,n,w,d,h,es,rfl,_⟩:=h
  rfl
 ·obtain ⟨a,n,w,d,h,es,rfl,⟨dx,na,da,ha,hna,hda,hle⟩,k⟩:=h
  have nd:=Hy.nd
  have hu:=Jk hr
  refine ⟨_,Ac (JC (Cr PassesOwn.never rfl (Hb (Bk (pv 0) rfl)) (FN rfl (Bo (Bb (i:=1) nd rfl (Or.inl rfl)) (Bo (Bb (i:=2) nd rfl (Or.inl rfl)) Eh)))
   (Ae (Bt (PW.pt (VD (Ea (Bl (WM T) hr rfl (Aa (pv 2) Ad))) (PN (Cj (Z2 hu (Bl (Ij T) hr rfl (Aa (pv 1) Ad)) (Bk (pv 0) rfl)))))) (Ae (Al FT)) Az))))
   (Ae (Al FT)),?_⟩
  refine ⟨da,.dT (Ao es),hda,True.intro,fun od=>?_⟩
  have nad:a ≠ da:=Gg ha hda (by intro z; cases z)
  have ha':upd H da (.frz od (.dT (Ao es))) a=some (.ins Ak dx (VJ (.ref na) (.int w) (.int d) (.int h) (.ref da))):=by rw [Ah nad]; exact ha
  have back:∀ H':Hp,Ag (upd H da (.frz od (.dT (Ao es)))) H'->Ag H (upd H' da (.dT (Ao es))):=fun H' sm b o e=>by
   by_cases z:b=da
   ·rw [z,Ab]; rw [z,hda] at e; exact e
   ·rw [Ah z]
    exact sm _ _ (by rw [Ah z]; exact e)
  refine ⟨_,rfl,a,Ak,dx,_,_,rfl,ha',T.Bj,T.BR,rfl,da,od,_,rfl,Ab,Fp (kvs:=Ao es)
   (fun i σ H'=>∃ v1 v2:Option V,σ=[some (.ref a),v1,v2]/\Ag (upd H da (.frz od (.dT (Ao es)))) H'/\(es.take i).any (Dz (es.map (·.1)))=false)
   ⟨none,none,rfl,Ag.refl _,rfl⟩ (fun i σ H' _ ⟨_,_,_,sm,_⟩=>sm _ _ Ab) ?_ ?_⟩
  ·rintro i kk v σ H' tt q hkv ⟨v1,v2,rfl,sm,hb⟩ hq hT
   obtain ⟨pl,c,hes,rfl,rfl⟩:=GR hkv
   have sn:Ag H' (upd H' tt (.tup [.ref q,.int c])):=Ag.new hT
   refine ⟨tt,_,rfl,SqT.of Ab,rfl,_,_,rfl,_,_,rfl,rfl,?_⟩
   refine ⟨_,rfl,c,rfl,fun v H1 s1 e=>⟨_,e,?_⟩⟩
   have e1:=N5 (p:=Dz (es.map (·.1))) hes
   rw [hb,Bool.false_or] at e1
   have hq1:H1 q=some (.tup (v3 pl)):=s1 _ _ (sn _ _ hq)
   refine BP (fun hst=>?_) (fun hst=>?_)
   ·refine ⟨_,rfl,q,pl,rfl,hq1,fun v H2 s2 ⟨p2,ep,hp2⟩=>?_⟩
    subst ep
    have sm2:Ag (upd H da (.frz od (.dT (Ao es)))) H2:=((sm.trans sn).trans s1).trans s2
    refine ⟨_,rfl,a,Ak,dx,_,_,rfl,sm2 _ _ ha',T.Bj,T.BR,rfl,da,_,rfl,.inr ⟨Ao es,t3 (mv pl 0 0 (-1)),p2,.inr ⟨od,sm2 _ _ Ab⟩,rfl,hp2,rfl⟩,_,rfl,?_⟩
    rw [Gr]
    refine BP (fun hin=>?_) (fun hin=>?_)
    ·refine ⟨sm2 _ _ Ab,k _ _ (back H2 sm2) ?_⟩
     have:es.any (Dz (es.map (·.1)))=true:=Zu hes (by unfold Dz; rw [hst,hin]; rfl)
     show V.bl false=V.bl (!es.any (Dz (es.map (·.1))))
     rw [this]; rfl
    ·exact ⟨_,_,rfl,sm2,by rw [e1]; unfold Dz; rw [hst]; simpa using hin⟩
   ·exact Fg ⟨_,_,rfl,(sm.trans sn).trans s1,by rw [e1]; unfold Dz; rw [Bool.not_eq_true] at hst; rw [hst]; rfl⟩
  ·rintro σ H' ⟨v1,v2,rfl,sm,hb⟩
   rw [Cd,List.take_length] at hb
   refine ⟨sm _ _ Ab,?_⟩
   exact k _ _ (back H' sm) (by show V.bl true=V.bl (!es.any (Dz (es.map (·.1)))); rw [hb]; rfl)
theorem Wq (x:Int):∀ l:List Int,inV (.int x) (l.map V.int)=decide (x ∈ l)
 | []=>rfl
 | a :: l=>by
  have ih:=Wq x l
  unfold inV at ih ⊢
  rw [List.map_cons,List.any_cons,ih]
  show (a == x || _)=_
  by_cases e:x=a
  ·simp [e]
  ·have e':¬ a=x:=fun z=>e z.symm
   simp [e,e']
theorem Za (l:List Int):(l.map V.int).all HS=true:=by
 rw [List.all_eq_true]
 intro v hv
 obtain ⟨i,_,rfl⟩:=List.mem_map.mp hv
 rfl
theorem R1 {ks:List P3} {w d h:Int}:∀ {i:Nat} {z:Int},([w,d,h]:List Int)[i]? = some z->Eg ks i z=false->(Eg ks 0 w && (Eg ks 1 d && Eg ks 2 h))=false
 | 0,z,hz,hf=>by cases hz; rw [hf]; rfl
 | 1,z,hz,hf=>by cases hz; rw [hf,Bool.false_and,Bool.and_false]
 | 2,z,hz,hf=>by cases hz; rw [hf,Bool.and_false,Bool.and_false]
 | _ + 3,z,hz,hf=>by simp at hz
theorem GF:Ar ["part", "axis", "size", "taken", "place"] ["part"] (Aj Fe):=⟨rfl,rfl,rfl,by decide +kernel,rfl,by decide +kernel,by decide +kernel⟩
theorem akR (q:P3) {i:Nat} (hi:i < 3):atI (v3 q) (i:Int)=some (.int (ax i q)):=by
 have:i=0 \/ i=1 \/ i=2:=by omega
 rcases this with rfl | rfl | rfl <;> rfl
theorem M9 (T:Txt K mg Ak Aq Af):Cl P w K mg base 3 "reaches_its_sides" ["part"] (acq Ak fun w d h es=>Eg (es.map (·.1)) 0 w && (Eg (es.map (·.1)) 1 d && Eg (es.map (·.1)) 2 h)):=by
 refine T.M7.ok GF (fun vs H Q E h=>?_) (fun f cdv A outer s H vs Q E hr h=>?_)
 ·obtain ⟨a,n,w,d,h,es,rfl,_⟩:=h
  rfl
 ·obtain ⟨a,n,w,d,h,es,rfl,⟨dx,na,da,ha,hna,hda,hle⟩,k⟩:=h
  have nd:=GF.nd
  have hu:=Jk hr
  refine ⟨_,Ac (Cr PassesOwn.never rfl (Mp rfl T.Eo (Aa (DN (Aa (Bk (pv 0) rfl) (Aa (Bk (pv 0) rfl) (Aa (Bk (pv 0) rfl) Ad)))) Ad))
    (FN rfl (Bo (Bb (i:=1) nd rfl (by first | exact Or.inl rfl | exact Or.inr rfl)) (Bo (Bb (i:=2) nd rfl (Or.inl rfl)) Eh)))
    (Ac (JC (VG (i:=3) rfl nd rfl rfl (ZG rfl rfl rfl (by decide +kernel)) (ahf (Bk (pv 0) rfl)) (Gi (own:=[("place",4)]) (show WY ["part", "axis", "size", "taken", "place"] (Aj Fe) _ [("place",4)] = true from by decide +kernel))
      (fun _ _ _ _ _=>Bb (i:=4) nd rfl (Or.inl rfl)) (fun _ _ _ _ _=>JB) (fun _ _ _ _ _=>Ci (show IxR _ (aj4 K) from Ih) (pv 4) (pv 1) (fun _ _=>rfl))))
     (Ae (Bt (PW.pt (GK (Bp P0 Am (pv 3) (by rfl)) (Ie (Bp P0 (BV K9 (pv 2) Am) (pv 3) (by rfl))))) (Ae (Al FT)) Az))))
   (Ae (Al FT)),?_⟩
  refine ⟨_,rfl,a,Ak,dx,_,_,rfl,ha,T.Bj,T.Eb,rfl,?_⟩
  refine ⟨_,rfl,a,Ak,dx,_,_,rfl,ha,T.Bj,T.Dr,rfl,?_⟩
  refine ⟨_,rfl,a,Ak,dx,_,_,rfl,ha,T.Bj,T.Dv,rfl,?_⟩
  refine ⟨(by show 3 <= sizeLine; decide),fun l hl=>?_⟩
  have sn:Ag H (upd H l (.lst [.int w,.int d,.int h])):=Ag.new hl
  refine ⟨l,_,rfl,SqL.of Ab,Qj (K:=K) (a:=l) (xs:=[.int w,.int d,.int h])
   (fun i σ H'=>∃ v1 v2 v3':Option V,σ=[some (.ref a),v1,v2,v3',none]/\Ag (upd H l (.lst [.int w,.int d,.int h])) H'/\∀ j,j < i->∀ z:Int,([w,d,h]:List Int)[j]? = some z->Eg (es.map (·.1)) j z=true)
   ⟨none,none,none,rfl,Ag.refl _,fun j hj=>absurd hj (Nat.not_lt_zero _)⟩ (fun i σ H' _ ⟨_,_,_,_,sm,_⟩=>SqL.of (sm _ _ Ab)) ?_ ?_⟩
  ·rintro i x σ H' tt hx ⟨v1,v2,v3',rfl,sm,hb⟩ hT
   obtain ⟨z,hz,rfl⟩:∃ z:Int,([w,d,h]:List Int)[i]? = some z/\x = .int z:=by
    match i,hx with
    | 0,hx=>exact ⟨w,rfl,(Option.some.inj hx).symm⟩
    | 1,hx=>exact ⟨d,rfl,(Option.some.inj hx).symm⟩
    | 2,hx=>exact ⟨h,rfl,(Option.some.inj hx).symm⟩
    | i + 3,hx=>simp at hx
   have hi3:i < 3:=(List.getElem?_eq_some_iff.mp hz).1
   have st:Ag H' (upd H' tt (.tup [.int (i:Nat),.int z])):=Ag.new hT
   refine ⟨tt,_,rfl,SqT.of Ab,rfl,_,_,rfl,_,_,rfl,rfl,?_⟩
   have sm1:=(sn.trans sm).trans st
   generalize upd H' tt (.tup [.int (i:Nat),.int z])=H1 at sm1 st
   have XH:=sm1 _ _ hda
   refine ⟨da,.dT (Ao es),XH,True.intro,fun od=>?_⟩
   have hal:upd H1 da (.frz od (.dT (Ao es))) a=_:=UJ (sm1 _ _ ha) XH (by intro z; cases z)
   refine ⟨_,rfl,a,Ak,dx,_,_,rfl,hal,T.Bj,T.BR,rfl,da,od,rfl,.inr ⟨Ao es,Ab,fun D hD=>?_⟩⟩
   refine abm (n:=es.length) (fun j H2=>Ag (upd H1 da (.frz od (.dT (Ao es)))) H2/\H2 D=some (.lst (((es.take j).map fun x=>ax i x.1).map V.int))) ⟨Ag.new hD,Ab⟩
    (fun j H2 hj p=>⟨p.1 _ _ Ab,by rw [Cd]; exact hj⟩) (fun H2 p=>⟨p.1 _ _ Ab,by rw [Cd]; exact Nat.le_refl _⟩) ?_ ?_
   ·rintro j x H2 H3 hj ⟨p1,p2⟩ ⟨rfl,kk,v,q,hkv,rfl,hq⟩
    obtain ⟨pl,c,hes,rfl,rfl⟩:=GR hkv
    refine ⟨rfl,Oo ?_⟩
    refine ⟨_,rfl,_,rfl,q,_,_,_,rfl,rfl,SqT.of hq,akR pl hi3,_,p2,?_,?_⟩
    ·rw [List.length_map,List.length_map,List.length_take]
     exact Bx (by omega)
    ·refine ⟨Ag.Ef hD p1,?_⟩
     rw [Ab,List.take_succ,hes]
     simp
   ·rintro H2 ⟨p1,p2⟩
    rw [List.take_length] at p2
    refine ⟨p1 _ _ Ab,?_⟩
    have sm2:Ag H1 (upd H2 da (.dT (Ao es))):=Rt XH p1
    have hD2:upd H2 da (.dT (Ao es)) D=some (.lst ((es.map fun x=>ax i x.1).map V.int)):=by
     rw [Ah (fun z=>by rw [z,Ab] at hD; cases hD)]; exact p2
    generalize upd H2 da (.dT (Ao es))=H3 at sm2 hD2
    have em:(es.map fun x=>ax i x.1)=(es.map (·.1)).map (ax i):=by rw [List.map_map]; rfl
    refine ⟨_,rfl,D,_,rfl,.inl (SqL.of hD2),rfl,Za _,_,rfl,?_⟩
    rw [if_pos rfl,Wq,em]
    refine BP (fun h0=>?_) (fun h0=>?_)
    ·refine Dy (k _ _ ((sn.trans sm).trans (st.trans sm2)) ?_)
     refine congrArg V.bl (R1 hz ?_).symm
     unfold Eg
     rw [Bool.not_eq_true'] at h0
     rw [h0]; rfl
    ·refine ⟨_,rfl,_,_,rfl,rfl,_,rfl,D,_,rfl,.inl (SqL.of hD2),rfl,Za _,_,rfl,?_⟩
     rw [if_pos rfl,Wq,em]
     have h0':decide ((0:Int) ∈ (es.map (·.1)).map (ax i))=true:=by simpa using h0
     refine BP (fun h1=>?_) (fun h1=>?_)
     ·refine k _ _ ((sn.trans sm).trans (st.trans sm2)) ?_
      refine congrArg V.bl (R1 hz ?_).symm
      unfold Eg
      rw [Bool.not_eq_true'] at h1
      rw [h1,Bool.and_false]
     ·refine ⟨_,_,_,rfl,sm.trans (st.trans sm2),fun j hj z' hz'=>?_⟩
      by_cases e:j=i
      ·subst e
       rw [hz] at hz'
       cases hz'
       unfold Eg
       rw [h0']
       simpa using h1
      ·exact hb j (by omega) z' hz'
  ·rintro σ H' ⟨v1,v2,v3',rfl,sm,hb⟩
   refine k _ _ (sn.trans sm) ?_
   show V.bl true=V.bl (_ && (_ && _))
   rw [hb 0 (by show 0 < 3; decide) w rfl,hb 1 (by show 1 < 3; decide) d rfl,hb 2 (by show 2 < 3; decide) h rfl]
   rfl
end
open Mx (P3 mv De Dd Di Dz ax Eg Gj HQ visit Nb cellsOf Full Ck)
theorem LK {α:Type} {xs:List α} {z:Int} {j:Nat} {v:α} (e:z=(j:Int)) (h:xs[j]? = some v):atI xs z=some v:=by subst e; exact ad2 h
section
variable {P:Program} {w:World} {K:PySem.W.Frag} {mg:Str->Option Value} {base:Heap} {Ak Aq Af:Addr}
def Hj (R:List P3):List (List Key × V):=R.map fun q=>(t3 q,.bl true)
theorem Ob (q:P3):∀ R:List P3,(Er (Hj R) (t3 q)).isSome=decide (q ∈ R)
 | []=>rfl
 | x :: r=>by
  have ih:=Ob q r
  unfold Hj at ih ⊢
  rw [List.map_cons]
  by_cases e:x=q
  ·rw [CW (by rw [e])]
   simp [e]
  ·rw [CZ (fun z=>e (ach z)),ih]
   have:¬ q=x:=fun z=>e z.symm
   simp [this]
theorem aey {R:List P3} {q:P3} (h:q ∉ R):putK (Hj R) (t3 q) (.bl true)=Hj (R ++ [q]):=by
 rw [VF]
 ·unfold Hj; rw [List.map_append]; rfl
 ·have:=Ob q R
  rw [decide_eq_false h] at this
  exact Option.not_isSome_iff_eq_none.mp (by rw [this]; exact Bool.false_ne_true)
def ail (es:List (P3 × Int)) (b:Bool):Prop:=(es=[]/\b=false) \/ ∃ (x:P3 × Int) (r:List (P3 × Int)) (R:List P3),es=x :: r/\Nb (es.map (·.1)) x.1 R []/\b=decide (R.length=es.length)
def Pj (C:Addr):Sp:=fun vs H Q _=>∃ (a:Addr) (n:List V) (w d h:Int) (es:List (P3 × Int)),vs=[.ref a]/\Gx C H a n w d h es/\Out H Q (fun v _=>∃ b,v = .bl b/\ail es b)
theorem HF:Ar ["part", "start", "reached", "waiting", "place", "near"] ["part"] (Aj Jd):=⟨rfl,rfl,rfl,by decide +kernel,rfl,by decide +kernel,by decide +kernel⟩
structure WalkAt (H0:Hp) (dr lw:Addr) (R W:List P3) (H:Hp):Prop where
 same:Ag H0 H
 rd:H dr=some (.dT (Hj R))
 wl:∃ ws:List Addr,H lw=some (.lst (ws.map V.ref))/\Paired (fun q k=>H q=some (.tup (v3 k))) ws W
theorem WalkAt.grow {H0 H H':Hp} {dr lw:Addr} {R W:List P3} (w:WalkAt H0 dr lw R W H) (s:Ag H H'):WalkAt H0 dr lw R W H' :=
 ⟨w.same.trans s,s _ _ w.rd,let ⟨ws,h1,h2⟩:=w.wl; ⟨ws,s _ _ h1,HN s h2⟩⟩
theorem JF {H:Hp} {a:Addr} {o:HO} (ha:∀ xs,H a ≠ some (.tup xs)):∀ {qs:List Addr} {ks:List P3},Paired (fun q k=>H q=some (.tup (v3 k))) qs ks->Paired (fun q k=>upd H a o q=some (.tup (v3 k))) qs ks
 | _,_,.nil=>.nil
 | _,_,.cons h t=>.cons (by rw [Ah (fun z=>ha _ (z ▸ h))]; exact h) (JF ha t)
theorem Bd {α β:Type} {G:α->β->Prop} {l:List α} {m:List β} (h:Paired G l m):l.length=m.length:=Paired.length h
theorem agd (qs:List Addr) (q:Addr):((qs ++ [q]).map V.ref)[((qs ++ [q]).map V.ref).length - 1]? = some (V.ref q):=by simp
theorem K4 {α β:Type} {G:α->β->Prop}:∀ {l:List α} {m:List β} {a:α} {b:β},l.length=m.length->Paired G (l ++ [a]) (m ++ [b])->Paired G l m/\G a b
 | [],[],a,b,_,h=>by cases h with | cons x y=>exact ⟨.nil,x⟩
 | [],_ :: _,_,_,h,_=>by simp at h
 | _ :: _,[],_,_,h,_=>by simp at h
 | x :: l,y :: m,a,b,h,g=>by
  rw [List.cons_append,List.cons_append] at g
  cases g with
  | cons p q =>
   obtain ⟨r,s⟩:=K4 (by simpa using h) q
   exact ⟨.cons p r,s⟩
theorem RM (T:Txt K mg Ak Aq Af):Cl P w K mg base 3 "hangs_together" ["part"] (Pj Ak):=by
 refine T.RB.ok HF (fun vs H Q E h=>?_) (fun f cdv A outer s H vs Q E hr h=>?_)
 ·obtain ⟨a,n,w,d,h,es,rfl,_⟩:=h
  rfl
 ·obtain ⟨a,n,w,d,h,es,rfl,⟨dx,na,da,ha,hna,hda,hle⟩,k⟩:=h
  have nd:=HF.nd
  have hu:=Jk hr
  refine ⟨_,Ac (Bt (Bp La (Be RG (by rfl) T.Dg PySem.boot_len (Aa (Bk (pv 0) rfl) Ad)) Am (Bu _)) (Ae (Al FT)) Az)
   (Ac (Av (i:=1) nd rfl (Or.inl rfl) (Ci BJ (Jf (adh rfl) (by rfl) T.agJ WX (Aa (Bk (pv 0) rfl) Ad)) Am (fun _ _=>rfl)))
   (Ac (Av (i:=2) nd rfl (Or.inl rfl) (afV hu (pv 1) FT))
   (Ac (Av (i:=3) nd rfl (Or.inl rfl) (DN (Aa (pv 1) Ad)))
   (Ac (PQ PassesOwn.never (Bp Sv (Be Ax (by rfl) T.Dg PySem.boot_len (Aa (pv 3) Ad)) Am (Bu _))
    (Ac (Av (i:=4) nd rfl (Or.inl rfl) (aiL PySem.F.plainAttrs_list PySem.F.slot_list_pop PySem.F.type_list_pop aiU (pv 3)))
    (Ae (Cr PassesOwn.never rfl (Gz (BV af0 (Bl (Ug T) hr rfl (Aa (pv 4) Ad)) (DN (Aa (Bl (Ik T) hr rfl (Aa (pv 4) Ad)) (Aa (Bl (Ij T) hr rfl (Aa (pv 4) Ad)) Ad)))))
     (Bb (i:=5) nd rfl (Or.inl rfl))
     (Ae (Bt (PW.pt (VD (Cj (Z2 hu (pv 5) (Bk (pv 0) rfl))) (PN (Cj (aeC hu (pv 5) (pv 2))))))
      (Ac (HJ hu (pv 2) (pv 5) FT rfl) (Ae (Gy (KZ PySem.F.plainAttrs_list PySem.F.slot_list_append PySem.F.type_list_append Fx (pv 3) (Aa (pv 5) Ad))))) Az))))))
   (Ae (Al (FQ La (Be RG (by rfl) T.Dg PySem.boot_len (Aa (pv 2) Ad)) (Be RG (by rfl) T.Dg PySem.boot_len (Aa (Bk (pv 0) rfl) Ad)) (Bu _)))))))),?_⟩
  refine ⟨_,rfl,a,Ak,dx,_,_,rfl,ha,T.Bj,T.BR,rfl,da,_,rfl,.inl hda,rfl,_,rfl,?_⟩
  rw [Cd]
  refine BP (fun h0=>?_) (fun h0=>?_)
  ·refine k _ _ (Ag.refl _) ⟨false,rfl,.inl ⟨?_,rfl⟩⟩
   have:(es.length:Int)=0:=by simpa using h0
   exact List.length_eq_zero_iff.mp (by omega)
  obtain ⟨x,r,rfl⟩:∃ x r,es=x :: r:=by
   cases es with
   | nil=>exact absurd rfl h0
   | cons x r=>exact ⟨x,r,rfl⟩
  refine ⟨_,rfl,a,Ak,dx,_,_,rfl,ha,T.Bj,T.BR,rfl,da,_,rfl,.inl hda,fun l qs hl hq=>?_⟩
  obtain ⟨q0,qr,rfl⟩:∃ q0 qr,qs=q0 :: qr:=by
   cases qs with
   | nil=>have:=hq.length; simp [Ao] at this
   | cons x r=>exact ⟨x,r,rfl⟩
  have hq0:H q0=some (.tup (v3 x.1)):=by
   unfold Ao at hq
   cases hq with
   | cons a b=>exact a
  have s1:Ag H (upd H l (.lst ((q0 :: qr).map V.ref))):=Ag.new hl
  refine ⟨l,_,_,_,rfl,rfl,SqL.of Ab,LK (j:=0) rfl rfl,?_⟩
  generalize upd H l (.lst ((q0 :: qr).map V.ref))=H1 at s1
  intro dr hdr
  refine ⟨_,rfl,Ab,q0,t3 x.1,rfl,?_,?_⟩
  ·rw [Ah (Bh (s1 _ _ hq0) hdr)]; exact s1 _ _ hq0
  rw [agX]
  have s2:Ag H1 (upd H1 dr (.dT [(t3 x.1,.bl true)])):=Ag.new hdr
  refine ⟨_,rfl,(by show 1 <= sizeLine; decide),fun lw hlw=>?_⟩
  have s3:Ag (upd H1 dr (.dT [(t3 x.1,.bl true)])) (upd (upd H1 dr (.dT [(t3 x.1,.bl true)])) lw (.lst [.ref q0])):=Ag.new hlw
  have w0:WalkAt H dr lw [x.1] [x.1] (upd (upd H1 dr (.dT [(t3 x.1,.bl true)])) lw (.lst [.ref q0])) :=
   ⟨(s1.trans s2).trans s3,s3 _ _ Ab,[q0],Ab,.cons (s3 _ _ (s2 _ _ (s1 _ _ hq0))) .nil⟩
  have ndr:H dr=none:=s1.free hdr
  have nlw:H lw=none:=(s1.trans s2).free hlw
  generalize upd (upd H1 dr (.dT [(t3 x.1,.bl true)])) lw (.lst [.ref q0])=H2 at w0
  clear s3 s2
  refine ⟨fun m σ H'=>∃ (v4 v5:Option V) (R W:List P3),σ=[some (.ref a),some (.ref q0),some (.ref dr),some (.ref lw),v4,v5]/\WalkAt H dr lw R W H'/\Nb ((x :: r).map (·.1)) x.1 R W/\W.length <= R.length/\m=(x :: r).length - R.length + W.length,
   ⟨_,none,none,[x.1],[x.1],rfl,w0,Nb.start (List.mem_map_of_mem (List.mem_cons_self ..)),Nat.le_refl _,rfl⟩,?_⟩
  rintro m σ H' ⟨v4,v5,R,W,rfl,wa,I,hWR,rfl⟩
  obtain ⟨ws,hw,hp⟩:=wa.wl
  have ndl:dr ≠ lw:=Gg wa.rd hw (by intro z; cases z)
  refine ⟨_,rfl,lw,_,rfl,.inl (SqL.of hw),_,_,rfl,rfl,_,rfl,?_⟩
  refine BP (fun h0=>?_) (fun h0=>?_)
  ·-- a turn
   have hwl:0 < ws.length:=by
    rw [List.length_map] at h0
    have:=of_decide_eq_true h0
    omega
   have hlen:=Bd hp
   obtain ⟨ws0,q,rfl⟩:∃ ws0 q,ws=ws0 ++ [q]:=⟨ws.dropLast,ws.getLast (List.length_pos_iff.mp hwl),(List.dropLast_concat_getLast _).symm⟩
   obtain ⟨W0,pa,rfl⟩:∃ W0 pa,W=W0 ++ [pa]:=⟨W.dropLast,W.getLast (List.length_pos_iff.mp (by omega)),(List.dropLast_concat_getLast _).symm⟩
   have hl0:ws0.length=W0.length:=by simpa using hlen
   obtain ⟨hp0,hqa⟩:=K4 hl0 hp
   refine ⟨fun σ' H''=>∃ (v4 v5:Option V) (R' W':List P3),σ'=[some (.ref a),some (.ref q0),some (.ref dr),some (.ref lw),v4,v5]/\WalkAt H dr lw R' W' H''/\Nb ((x :: r).map (·.1)) x.1 R' W'/\W'.length <= R'.length/\(x :: r).length - R'.length + W'.length < (x :: r).length - R.length + (W0 ++ [pa]).length,
    fun σ' H'' ⟨v4,v5,R',W',e1,e2,e3,e4,e5⟩=>⟨_,e5,v4,v5,R',W',e1,e2,e3,e4,rfl⟩,?_⟩
   refine ⟨_,rfl,.inl ⟨rfl,_,SqL.of hw⟩,lw,_,.ref q,rfl,rfl,hw,agd ws0 q,?_⟩
   have e0:((ws0 ++ [q]).map V.ref).dropLast=ws0.map V.ref:=by rw [List.map_append]; simp
   rw [e0]
   have hn3:∀ xs,H' lw ≠ some (.tup xs):=fun xs z=>by rw [hw] at z; cases z
   have w3:WalkAt H dr lw R W0 (upd H' lw (.lst (ws0.map V.ref))):=⟨Ag.Ef nlw wa.same,by rw [Ah ndl]; exact wa.rd,ws0,Ab,JF hn3 hp0⟩
   have hq3:upd H' lw (.lst (ws0.map V.ref)) q=some (.tup (v3 pa)):=by rw [Ah (fun z=>hn3 _ (z ▸ hqa))]; exact hqa
   generalize upd H' lw (.lst (ws0.map V.ref))=H3 at w3 hq3
   refine ⟨_,rfl,q,pa,rfl,hq3,fun v4' H4 s4 ⟨p4,qs4,e4,h4,pr4⟩=>?_⟩
   refine ⟨_,rfl,q,pa,rfl,s4 _ _ hq3,fun v5' H5 s5 ⟨p5,e5,h5⟩=>?_⟩
   refine ⟨_,rfl,q,pa,rfl,s5 _ _ (s4 _ _ hq3),fun v6' H6 s6 ⟨p6,e6,h6⟩=>?_⟩
   subst e4 e5 e6
   refine ⟨(by show 2 <= sizeLine; decide),fun p7 hp7=>?_⟩
   have s7:Ag H6 (upd H6 p7 (.lst [.ref p5,.ref p6])):=Ag.new hp7
   have hl4:qs4.length=4:=by rw [Bd pr4]; rfl
   refine ⟨p4,p7,_,_,rfl,rfl,s7 _ _ (s6 _ _ (s5 _ _ h4)),Ab,(by rw [List.length_map,hl4]; show 6 <= sizeLine; decide),fun p8 hp8=>?_⟩
   have s8:=Ag.new (o:=.lst (qs4.map V.ref ++ [.ref p5,.ref p6])) hp8
   have prs:Paired (fun q k=>upd (upd H6 p7 (.lst [.ref p5,.ref p6])) p8 (.lst (qs4.map V.ref ++ [.ref p5,.ref p6])) q=some (.tup (v3 k))) (qs4 ++ [p5,p6]) (HQ pa):=by
    refine Dt (d:=[mv pa 0 0 1,mv pa 0 0 (-1)]) (HN (((s5.trans s6).trans s7).trans s8) pr4) (.cons ?_ (.cons ?_ .nil))
    ·exact s8 _ _ (s7 _ _ (s6 _ _ h5))
    ·exact s8 _ _ (s7 _ _ h6)
   have w8:=w3.grow ((((s4.trans s5).trans s6).trans s7).trans s8)
   have n8l:p8 ≠ lw:=fun z=>by
    obtain ⟨ws8,hw8,_⟩:=(w3.grow (((s4.trans s5).trans s6).trans s7)).wl
    rw [<- z,hp8] at hw8
    cases hw8
   have n8d:p8 ≠ dr:=fun z=>by
    have hd8:=(w3.grow (((s4.trans s5).trans s6).trans s7)).rd
    rw [<- z,hp8] at hd8
    cases hd8
   have h8:upd (upd H6 p7 (.lst [.ref p5,.ref p6])) p8 (.lst (qs4.map V.ref ++ [.ref p5,.ref p6])) p8=some (.lst ((qs4 ++ [p5,p6]).map V.ref)):=by
    rw [Ab,List.map_append]; rfl
   generalize upd (upd H6 p7 (.lst [.ref p5,.ref p6])) p8 (.lst (qs4.map V.ref ++ [.ref p5,.ref p6]))=H8 at prs w8 h8
   refine ⟨p8,rfl,⟨_,SqL.of h8⟩,Ho (K:=K) (a:=p8) (xs:=(qs4 ++ [p5,p6]).map V.ref)
    (fun j σ' H''=>∃ v5,σ'=[some (.ref a),some (.ref q0),some (.ref dr),some (.ref lw),some (.ref q),v5]/\(∀ b o,H8 b=some o->b ≠ dr->b ≠ lw->H'' b=some o) /\
     ∃ R' W',((HQ pa).take j).foldl (visit ((x :: r).map (·.1))) (R,W0)=(R',W')/\WalkAt H dr lw R' W' H''/\R'.Nodup/\(∀ q ∈ R',q ∈ (x :: r).map (·.1))/\W'.length <= R'.length)
    ⟨_,rfl,fun b o e _ _=>e,R,W0,rfl,w8,I.nd,I.sub,by rw [List.length_append] at hWR; simp at hWR; omega⟩ (fun j σ' H'' _ ⟨_,_,kp,_⟩=>SqL.of (kp _ _ h8 n8d n8l)) ?_ ?_⟩
   ·rintro j y σ' H'' hj ⟨v5,rfl,kp,R',W',ef,wa',hnd,hsub,ahI⟩
    obtain ⟨b,hb,rfl⟩:∃ b,(qs4 ++ [p5,p6])[j]? = some b/\y = .ref b:=by
     rw [List.getElem?_map] at hj
     cases e:(qs4 ++ [p5,p6])[j]? with
     | none=>rw [e] at hj; cases hj
     | some b=>rw [e] at hj; exact ⟨b,rfl,(Option.some.inj hj).symm⟩
    obtain ⟨kb,hkb,hbt⟩:=BW prs hb
    have hdk:∀ xs,H8 dr ≠ some (.tup xs):=fun xs z=>by rw [w8.rd] at z; cases z
    have hlk:∀ xs,H8 lw ≠ some (.tup xs):=fun xs z=>by obtain ⟨_,hw8,_⟩:=w8.wl; rw [hw8] at z; cases z
    have ahG:H'' b=some (.tup (v3 kb)):=kp _ _ hbt (fun z=>hdk _ (z ▸ hbt)) (fun z=>hlk _ (z ▸ hbt))
    have ha':=wa'.same _ _ ha
    have alS:=wa'.same _ _ hda
    have ef':((HQ pa).take (j + 1)).foldl (visit ((x :: r).map (·.1))) (R,W0)=visit ((x :: r).map (·.1)) (R',W') kb:=by
     rw [List.take_succ,hkb,List.foldl_append,ef]
     rfl
    refine ⟨_,rfl,_,rfl,a,Ak,dx,_,_,rfl,ha',T.Bj,T.BR,rfl,da,_,rfl,.inr ⟨Ao (x :: r),t3 kb,b,.inl alS,rfl,ahG,rfl⟩,_,rfl,?_⟩
    rw [Gr]
    refine BP (fun hin=>?_) (fun hin=>?_)
    ·refine ⟨_,rfl,_,rfl,dr,_,rfl,.inr ⟨Hj R',t3 kb,b,.inl wa'.rd,rfl,ahG,rfl⟩,_,rfl,?_⟩
     rw [Ob]
     have abt:=of_decide_eq_true hin
     refine BP (fun hnr=>?_) (fun hnr=>?_)
     ·have ai9:kb ∉ R':=by simpa using hnr
      have alW:R'.length <= (x :: r).length:=by
       have:=List.Nodup.length_le_of_subset hnd hsub
       rwa [List.length_map] at this
      obtain ⟨ws',hw',hp'⟩:=wa'.wl
      have hlen':=Bd hp'
      refine ⟨_,rfl,_,rfl,dr,_,rfl,Uq.t (k:=t3 kb) wa'.rd ahG (by unfold Hj; rw [List.length_map]; exact Bx (by omega)),?_⟩
      rw [aey ai9]
      have hw2:upd H'' dr (.dT (Hj (R' ++ [kb]))) lw=some (.lst (ws'.map V.ref)):=by rw [Ah ndl.symm]; exact hw'
      refine ⟨_,rfl,.inl ⟨rfl,_,SqL.of hw2⟩,_,rfl,lw,_,_,rfl,rfl,hw2,(by rw [List.length_map]; exact Bx (by omega)),?_⟩
      refine ⟨_,rfl,fun c o e n1 n2=>by rw [Ah n2,Ah n1]; exact kp _ _ e n1 n2,R' ++ [kb],W' ++ [kb],?_,⟨?_,?_,ws' ++ [b],?_,?_⟩,?_,?_,?_⟩
      ·rw [ef']; unfold visit; rw [if_pos ⟨abt,ai9⟩]
      ·exact Ag.Ef nlw (Ag.Ef ndr wa'.same)
      ·rw [Ah ndl]; exact Ab
      ·rw [Ab,List.map_append]; rfl
      ·have q1:∀ xs,H'' dr ≠ some (.tup xs):=fun xs z=>by rw [wa'.rd] at z; cases z
       have q2:∀ xs,upd H'' dr (.dT (Hj (R' ++ [kb]))) lw ≠ some (.tup xs):=fun xs z=>by rw [hw2] at z; cases z
       refine JF q2 (JF q1 (Dt hp' (.cons ahG .nil)))
      ·exact Z3 hnd ai9
      ·intro q hq
       rcases List.mem_append.mp hq with hq | hq
       ·exact hsub q hq
       ·rw [List.mem_singleton.mp hq]; exact abt
      ·simp; omega
     ·exact ⟨_,rfl,kp,R',W',by rw [ef']; unfold visit; rw [if_neg (fun z=>hnr (by simpa using z.2))],wa',hnd,hsub,ahI⟩
    ·exact Fg ⟨_,rfl,kp,R',W',by rw [ef']; unfold visit; rw [if_neg (fun z=>hin (decide_eq_true z.1))],wa',hnd,hsub,ahI⟩
   ·rintro σ' H'' ⟨v5,rfl,kp,R',W',ef,wa',hnd,hsub,ahI⟩
    have hl6:((qs4 ++ [p5,p6]).map V.ref).length=(HQ pa).length:=by rw [List.length_map,List.length_append,hl4]; rfl
    rw [hl6,List.take_length] at ef
    obtain ⟨I',em⟩:=Nb.turn I
    rw [ef] at I' em
    have l1:=I'.le
    have l2:=I.le
    rw [List.length_map] at l1 l2
    dsimp only at l1 em I'
    exact ⟨_,_,R',W',rfl,wa',I',ahI,by rw [List.length_append,List.length_singleton]; omega⟩
  ·-- the end
   have hW:W=[]:=by
    have:ws.length=0:=by
     rw [List.length_map] at h0
     have:=of_decide_eq_false (Bool.not_eq_true _ ▸ h0)
     omega
    exact List.length_eq_zero_iff.mp (by rw [<- Bd hp]; exact this)
   subst hW
   refine ⟨_,rfl,dr,_,rfl,.inl wa.rd,_,rfl,a,Ak,dx,_,_,rfl,wa.same _ _ ha,T.Bj,T.BR,rfl,da,_,rfl,.inl (wa.same _ _ hda),rfl,?_⟩
   refine k _ _ wa.same ⟨_,rfl,.inr ⟨x,r,R,rfl,I,?_⟩⟩
   unfold Hj
   rw [Cd,List.length_map]
   by_cases e:R.length=(x :: r).length
   ·rw [e]; simp
   ·rw [decide_eq_false e,decide_eq_false (fun z=>e (by injection z with z; omega))]
end
def bV (t:Br.Bytes):List V:=t.map fun c=>.int (c.toNat:Int)
section
variable {P:Program} {w:World} {K:PySem.W.Frag} {mg:Str->Option Value} {base:Heap} {Ak Aq Af:Addr}
def QW (C:Addr):Sp:=fun vs H Q _=>∃ (a:Addr) (n:List V) (p:Br.Part),vs=[.ref a]/\Gx C H a n p.wide p.deep p.high (cellsOf p)/\Full p/\Out H Q (fun v _=>v = .bl (Ck p))
theorem Q8:Ar ["part"] ["part"] (Aj J1):=⟨rfl,rfl,rfl,by decide +kernel,rfl,by decide +kernel,by decide +kernel⟩
theorem abw {p:Br.Part} (hf:Full p) {b:Bool} (h:ail (cellsOf p) b):b=p.whole:=by
 have ek:=Mx.Ez p
 rcases h with ⟨h,rfl⟩ | ⟨x,r,R,e,I,rfl⟩
 ·rw [h] at ek
  unfold Br.Part.whole
  cases e:p.cells with
  | nil=>rfl
  | cons c r=>rw [e] at ek; cases ek
 ·cases e2:p.cells with
  | nil=>rw [e2,e] at ek; cases ek
  | cons c r2 =>
   have ex:x.1=Mx.up c:=by
    rw [e2,e,List.map_cons,List.map_cons] at ek
    exact (List.cons.inj ek).1
   rw [ex] at I
   exact (Nb.fin e2 I).symm
theorem Uj (T:Txt K mg Ak Aq Af):Cl P w K mg base 4 "is_right_part" ["part"] (QW Ak):=by
 refine T.T9.ok Q8 (fun vs H Q E h=>?_) (fun f cdv A outer s H vs Q E hr h=>?_)
 ·obtain ⟨a,n,p,rfl,_⟩:=h
  rfl
 ·obtain ⟨a,n,p,rfl,hp,hf,k⟩:=h
  refine ⟨_,Ae (Al (JD (Bl (RK T) hr rfl (Aa (pv 0) Ad)) (JD (Bl (RJ T) hr rfl (Aa (pv 0) Ad)) (JD (Bl (M9 T) hr rfl (Aa (pv 0) Ad)) (Ri (Bl (RM T) hr rfl (Aa (pv 0) Ad))))))),?_⟩
  have e1:(!(cellsOf p).any (Di ((cellsOf p).map (·.1))))=p.studsOk:=(Mx.Ve hf).symm
  have e2:(!(cellsOf p).any (Dz ((cellsOf p).map (·.1))))=p.tubesOk:=(Mx.acg hf).symm
  refine ⟨_,rfl,a,n,_,_,_,_,rfl,hp,fun v1 H1 s1 ev1=>⟨p.studsOk,ev1.trans (congrArg V.bl e1),?_⟩⟩
  refine BP (fun h1=>?_) (fun h1=>k _ _ s1 (by unfold Ck; rw [Bool.not_eq_true] at h1; rw [h1]; rfl))
  refine ⟨_,rfl,a,n,_,_,_,_,rfl,hp.same s1,fun v2 H2 s2 ev2=>⟨p.tubesOk,ev2.trans (congrArg V.bl e2),?_⟩⟩
  refine BP (fun h2=>?_) (fun h2=>k _ _ (s1.trans s2) (by unfold Ck; rw [Bool.not_eq_true] at h2; rw [h1,h2]; rfl))
  refine ⟨_,rfl,a,n,_,_,_,_,rfl,hp.same (s1.trans s2),fun v3' H3 s3 ev3=>⟨p.tight,ev3.trans (congrArg V.bl Mx.afD.symm),?_⟩⟩
  refine BP (fun h3=>?_) (fun h3=>k _ _ ((s1.trans s2).trans s3) (by unfold Ck; rw [Bool.not_eq_true] at h3; rw [h1,h2,h3]; rfl))
  refine ⟨_,rfl,a,n,_,_,_,_,rfl,hp.same ((s1.trans s2).trans s3),fun v4 H4 s4 ⟨b,ev4,hb⟩=>?_⟩
  refine k _ _ (((s1.trans s2).trans s3).trans s4) ?_
  rw [ev4,abw hf hb]
  unfold Ck
  rw [h1,h2,h3]
  rfl
theorem Lq {es:List (P3 × Int)} {q:P3} {c:Int} (h:q ∉ es.map (·.1)):putK (Ao es) (t3 q) (.int c)=Ao (es ++ [(q,c)]):=by
 rw [VF]
 ·unfold Ao; rw [List.map_append]; rfl
 ·have:=Gr q es
  rw [decide_eq_false h] at this
  exact Option.not_isSome_iff_eq_none.mp (by rw [this]; exact Bool.false_ne_true)
theorem Jx {α:Type} {l:List α} {i:Nat} {x:α} (hn:l.Nodup) (h:l[i]? = some x):x ∉ l.take i:=fun hm=>by
 obtain ⟨j,hj⟩:=List.mem_iff_getElem?.mp hm
 rw [List.getElem?_take] at hj
 split at hj
 ·exact absurd (aia hn hj h) (by omega)
 ·cases hj
def Vg (C:Addr):Sp:=fun vs H Q _=>∃ (a:Addr) (n:List V) (w d h:Int) (es:List (P3 × Int)),vs=[.ref a]/\Gx C H a n w d h es/\(es.map (·.1)).Nodup/\Out H Q (fun v H'=>∃ p,v = .ref p/\Gx C H' p n d w h (es.map (Gj w)))
theorem Ky:Ar ["part", "cells", "place", "sign"] ["part"] (Aj Nr):=⟨rfl,rfl,rfl,by decide +kernel,rfl,by decide +kernel,by decide +kernel⟩
theorem aeg {w:Int} {a b:P3 × Int} (h:(Gj w a).1=(Gj w b).1):a.1=b.1:=by
 obtain ⟨⟨x,y,z⟩,c⟩:=a
 obtain ⟨⟨x',y',z'⟩,c'⟩:=b
 unfold Gj at h
 simp only [Prod.mk.injEq] at h ⊢
 omega
theorem acd {w:Int} {es:List (P3 × Int)} (h:(es.map (·.1)).Nodup):((es.map (Gj w)).map (·.1)).Nodup:=by
 rw [List.map_map]
 refine Mx.Hc (Mx.Ge h) fun a ha b hb e=>?_
 have e1:=aeg e
 obtain ⟨i,hi⟩:=List.mem_iff_getElem?.mp ha
 obtain ⟨j,hj⟩:=List.mem_iff_getElem?.mp hb
 have:i=j:=aia (x:=a.1) h (by rw [List.getElem?_map,hi]; rfl) (by rw [List.getElem?_map,hj,e1]; rfl)
 subst this
 rw [hi] at hj
 exact Option.some.inj hj
theorem XS (T:Txt K mg Ak Aq Af):Cl P w K mg base 3 "turned_once" ["part"] (Vg Ak):=by
 refine T.XJ.ok Ky (fun vs H Q E h=>?_) (fun f cdv A outer s H vs Q E hr h=>?_)
 ·obtain ⟨a,n,w,d,h,es,rfl,_⟩:=h
  rfl
 ·obtain ⟨a,n,w,d,h,es,rfl,⟨dx,na,da,ha,hna,hda,hle⟩,hn,k⟩:=h
  have nd:=Ky.nd
  have hu:=Jk hr
  refine ⟨_,Ac (Av (i:=1) nd rfl (Or.inl rfl) FP)
   (Ac (JC (Cr PassesOwn.never rfl (Hb (Bk (pv 0) rfl)) (FN rfl (Bo (Bb (i:=2) nd rfl (Or.inl rfl)) (Bo (Bb (i:=3) nd rfl (Or.inl rfl)) Eh)))
    (Ae (HJ hu (pv 1) (Rh (Aa (Ci Ih (pv 2) Am (fun _ _=>rfl)) (Aa (BV K9 (BV K9 (Bk (pv 0) rfl) Am) (Ci Ih (pv 2) Am (fun _ _=>rfl))) (Aa (Ci Ih (pv 2) Am (fun _ _=>rfl)) Ad)))) (pv 3) rfl))))
   (Ae (Al (YB (adi T) hr rfl (Aa (Bk (pv 0) rfl) (Aa (Bk (pv 0) rfl) (Aa (Bk (pv 0) rfl) (Aa (Bk (pv 0) rfl) (Aa (pv 1) Ad))))))))),?_⟩
  intro dc hdc
  have s1:Ag H (upd H dc (.dT [])):=Ag.new hdc
  have h1:upd H dc (.dT []) dc=some (.dT (Ao [])):=Ab
  generalize upd H dc (.dT [])=H1 at s1 h1
  have XH:=s1 _ _ hda
  have ndc:dc ≠ da:=fun z=>by rw [z,hda] at hdc; cases hdc
  refine ⟨da,.dT (Ao es),XH,True.intro,fun od=>?_⟩
  have ha1:upd H1 da (.frz od (.dT (Ao es))) a=_:=UJ (s1 _ _ ha) XH (by intro z; cases z)
  have hc1:upd H1 da (.frz od (.dT (Ao es))) dc=some (.dT (Ao [])):=by rw [Ah ndc]; exact h1
  have hnt:=acd (w:=w) hn
  refine ⟨_,rfl,a,Ak,dx,_,_,rfl,ha1,T.Bj,T.BR,rfl,da,od,_,rfl,Ab,Fp (kvs:=Ao es)
   (fun i σ H'=>∃ v2 v3:Option V,σ=[some (.ref a),some (.ref dc),v2,v3]/\(∀ b o,upd H1 da (.frz od (.dT (Ao es))) b=some o->b ≠ dc->H' b=some o)/\H' dc=some (.dT (Ao ((es.map (Gj w)).take i))))
   ⟨none,none,rfl,fun b o e _=>e,hc1⟩ (fun i σ H' _ ⟨_,_,_,kp,_⟩=>kp _ _ Ab ndc.symm) ?_ ?_⟩
  ·rintro i kk v σ H' tt q hkv ⟨v2,v3',rfl,kp,hc⟩ hq hT
   obtain ⟨pl,c,hes,rfl,rfl⟩:=GR hkv
   have sn:Ag H' (upd H' tt (.tup [.ref q,.int c])):=Ag.new hT
   refine ⟨tt,_,rfl,SqT.of Ab,rfl,_,_,rfl,_,_,rfl,rfl,?_⟩
   have hq2:=sn _ _ hq
   have hc2:=sn _ _ hc
   have ha2:=sn _ _ (kp _ _ ha1 (Gg ha1 hc1 (by intro z; cases z)))
   generalize upd H' tt (.tup [.ref q,.int c])=H2 at sn hq2 hc2 ha2
   refine ⟨_,rfl,_,rfl,_,rfl,q,_,_,_,rfl,rfl,SqT.of hq2,at_of (j:=1) rfl rfl,?_⟩
   refine ⟨_,rfl,a,Ak,dx,_,_,rfl,ha2,T.Bj,T.Eb,rfl,_,_,rfl,rfl,_,rfl,q,_,_,_,rfl,rfl,SqT.of hq2,at_of (j:=0) rfl rfl,_,_,rfl,rfl,?_⟩
   refine ⟨_,rfl,q,_,_,_,rfl,rfl,SqT.of hq2,at_of (j:=2) rfl rfl,?_⟩
   refine ⟨(by show 3 <= sizeLine; decide),fun p hp=>?_⟩
   have s3:Ag H2 (upd H2 p (.tup [.int pl.2.1,.int (w - 1 - pl.1),.int pl.2.2])):=Ag.new hp
   have hat:(es.map (Gj w))[i]? = some (Gj w (pl,c)):=by rw [List.getElem?_map,hes]; rfl
   have hfr:(Gj w (pl,c)).1 ∉ ((es.map (Gj w)).take i).map (·.1):=by
    rw [List.map_take]
    exact Jx hnt (by rw [List.getElem?_map,hat]; rfl)
   refine ⟨dc,_,rfl,Uq.t (k:=t3 (Gj w (pl,c)).1) (s3 _ _ hc2) Ab (by rw [Cd,List.length_take,List.length_map]; exact Bx (by omega)),?_⟩
   refine ⟨_,_,rfl,fun b o e n=>?_,?_⟩
   ·rw [Ah n]
    exact s3 _ _ (sn _ _ (kp _ _ e n))
   ·rw [Ab,Lq hfr,List.take_succ,hat]
    rfl
  ·rintro σ H' ⟨v2,v3',rfl,kp,hc⟩
   rw [Cd,<- List.length_map (f:=Gj w) (as:=es),List.take_length] at hc
   refine ⟨kp _ _ Ab ndc.symm,?_⟩
   have sb:Ag H (upd H' da (.dT (Ao es))):=fun b o e=>by
    by_cases z:b=da
    ·rw [z,Ab]; rw [z,hda] at e; exact e
    ·rw [Ah z]
     refine kp _ _ (by rw [Ah z]; exact s1 _ _ e) (fun y=>by rw [y,hdc] at e; cases e)
   have hc3:upd H' da (.dT (Ao es)) dc=some (.dT (Ao (es.map (Gj w)))):=by rw [Ah ndc]; exact hc
   generalize upd H' da (.dT (Ao es))=H3 at sb hc3
   have ha3:=sb _ _ ha
   refine ⟨_,rfl,a,Ak,dx,_,_,rfl,ha3,T.Bj,T.Fy,rfl,?_⟩
   refine ⟨_,rfl,a,Ak,dx,_,_,rfl,ha3,T.Bj,T.Dr,rfl,?_⟩
   refine ⟨_,rfl,a,Ak,dx,_,_,rfl,ha3,T.Bj,T.Eb,rfl,?_⟩
   refine ⟨_,rfl,a,Ak,dx,_,_,rfl,ha3,T.Bj,T.Dv,rfl,?_⟩
   refine ⟨_,rfl,?_⟩
   refine Z4 fun x H4 s4 ⟨dx',hx⟩=>?_
   exact k _ _ (sb.trans s4) ⟨x,rfl,dx',na,dc,hx,s4 _ _ (sb _ _ hna),s4 _ _ hc3,by rw [List.length_map]; exact hle⟩
def ajF (C:Addr) (H:Hp) (a:Addr) (p:Br.Part):Prop:=∃ es:List (P3 × Int),Gx C H a (bV p.name) p.wide p.deep p.high es/\es.Perm (cellsOf p)
def aep (C:Addr):Sp:=fun vs H Q _=>∃ (a:Addr) (p:Br.Part) (r:Nat),vs=[.ref a,.int (r:Int)]/\ajF C H a p/\Full p/\r <= 1000/\Out H Q (fun v H'=>∃ x,v = .ref x/\ajF C H' x (p.turned r))
theorem Yt:Ar ["part", "turns", "result", "turn"] ["part", "turns"] (Aj aa0):=⟨rfl,rfl,rfl,by decide +kernel,rfl,by decide +kernel,by decide +kernel⟩
theorem agH (T:Txt K mg Ak Aq Af):Cl P w K mg base 4 "turned" ["part", "turns"] (aep Ak):=by
 refine T.agz.ok Yt (fun vs H Q E h=>?_) (fun f cdv A outer s H vs Q E hr h=>?_)
 ·obtain ⟨a,p,r,rfl,_⟩:=h
  rfl
 ·obtain ⟨a,p,r,rfl,hp,hf,hr1,k⟩:=h
  have nd:=Yt.nd
  refine ⟨_,Ac (Av (i:=2) nd rfl (Or.inl rfl) (pv 0)) (Ac (Cr PassesOwn.never rfl (Je rfl T.MN (Aa (pv 1) Ad)) (Bb (i:=3) nd rfl (Or.inl rfl))
   (Ae (Av (i:=2) nd rfl (Or.inl rfl) (Bl (XS T) hr rfl (Aa (pv 2) Ad))))) (Ae (Al (pv 2)))),?_⟩
  refine ⟨_,rfl,_,rfl,_,rfl,by omega,by omega,Jm (n:=_) (fun i σ H'=>∃ (x:Addr) (v3:Option V),σ=[some (.ref a),some (.int (r:Int)),some (.ref x),v3]/\Ag H H'/\ajF Ak H' x (p.turned i))
   ⟨a,none,rfl,Ag.refl _,hp⟩ ?_ ?_⟩
  ·rintro i σ H' hi ⟨x,v3',rfl,sm,es,hx,hperm⟩
   have hfi:=Mx.GC hf i
   refine ⟨_,rfl,x,_,_,_,_,es,rfl,hx,(hperm.map _).nodup_iff.mpr (Mx.keys_nodup _),fun v H1 s1 ⟨y,e,hy⟩=>?_⟩
   subst e
   exact ⟨y,_,rfl,sm.trans s1,_,hy,(hperm.map _).trans (Mx.Yh hfi)⟩
  ·rintro σ H' ⟨x,v3',rfl,sm,hx⟩
   refine ⟨_,rfl,k _ _ sm ⟨x,rfl,?_⟩⟩
   rw [Int.toNat_natCast] at hx
   exact hx
end
open Mx (P3 split Gf Bq Dk)
open Br (Bytes)
theorem abV {t:Bytes} {i:Nat} {x:V} (h:(bV t)[i]? = some x):∃ c,t[i]? = some c/\x = .int (c.toNat:Int):=by
 unfold bV at h
 rw [List.getElem?_map] at h
 cases e:t[i]? with
 | none=>rw [e] at h; cases h
 | some c=>rw [e] at h; exact ⟨c,rfl,(Option.some.inj h).symm⟩
abbrev N6 (H:Hp) (qs:List Addr) (rs:List Bytes):Prop:=Paired (fun q r=>H q=some (.tup (bV r))) qs rs
def W9 (H:Hp) (v:V) (rs:List Bytes):Prop:=∃ p qs,v = .ref p/\H p=some (.lst (qs.map V.ref))/\N6 H qs rs
theorem Et {H H':Hp} (s:Ag H H'):∀ {qs:List Addr} {rs:List Bytes},N6 H qs rs->N6 H' qs rs
 | _,_,.nil=>.nil
 | _,_,.cons h t=>.cons (s _ _ h) (Et s t)
theorem FJ {H:Hp} {a:Addr} {o:HO} (ha:∀ xs,H a ≠ some (.tup xs)):∀ {qs:List Addr} {rs:List Bytes},N6 H qs rs->N6 (upd H a o) qs rs
 | _,_,.nil=>.nil
 | _,_,.cons h t=>.cons (by rw [Ah (fun z=>ha _ (z ▸ h))]; exact h) (FJ ha t)
def Ce (d:UInt8) (st:List Bytes × Bytes) (c:UInt8):List Bytes × Bytes:=if c=d then (st.1 ++ [st.2],[]) else (st.1,st.2 ++ [c])
theorem QM (d:UInt8):∀ (t:Bytes) (ps:List Bytes) (p:Bytes),(t.foldl (Ce d) (ps,p)).1 ++ [(t.foldl (Ce d) (ps,p)).2] = ps ++ (match split d t with | []=>[p] | q :: qs=>(p ++ q) :: qs)
 | [],ps,p=>by simp [split]
 | c :: r,ps,p=>by
  rw [List.foldl_cons]
  unfold split
  by_cases e:c=d
  ·have e1:Ce d (ps,p) c=(ps ++ [p],[]):=by unfold Ce; rw [if_pos e]
   rw [e1,QM d r,if_pos e]
   cases e2:split d r with
   | nil=>exact absurd e2 (Mx.Ei d r)
   | cons q qs=>simp
  ·have e1:Ce d (ps,p) c=(ps,p ++ [c]):=by unfold Ce; rw [if_neg e]
   rw [e1,QM d r,if_neg e]
   cases e2:split d r with
   | nil=>exact absurd e2 (Mx.Ei d r)
   | cons q qs=>simp
theorem aaO (d:UInt8) (t:Bytes):split d t=(t.foldl (Ce d) ([],[])).1 ++ [(t.foldl (Ce d) ([],[])).2]:=by
 rw [QM]
 cases e2:split d t with
 | nil=>exact absurd e2 (Mx.Ei d t)
 | cons q qs=>simp
theorem Mi (d:UInt8) (t:Bytes):(t.foldl (Ce d) ([],[])).1.length <= t.length/\(t.foldl (Ce d) ([],[])).2.length <= t.length:=by
 have key:∀ (t:Bytes) (ps:List Bytes) (p:Bytes),(t.foldl (Ce d) (ps,p)).1.length <= ps.length + t.length/\(t.foldl (Ce d) (ps,p)).2.length <= p.length + t.length:=by
  intro t
  induction t with
  | nil=>intro ps p; exact ⟨Nat.le_refl _,Nat.le_refl _⟩
  | cons c r ih =>
   intro ps p
   rw [List.foldl_cons]
   by_cases e:c=d
   ·have e1:Ce d (ps,p) c=(ps ++ [p],[]):=by unfold Ce; rw [if_pos e]
    rw [e1]
    have:=ih (ps ++ [p]) []
    simp at this ⊢
    omega
   ·have e1:Ce d (ps,p) c=(ps,p ++ [c]):=by unfold Ce; rw [if_neg e]
    rw [e1]
    have:=ih ps (p ++ [c])
    simp at this ⊢
    omega
 have:=key t [] []
 simpa using this
section
variable {P:Program} {w:World} {K:PySem.W.Frag} {mg:Str->Option Value} {base:Heap} {Ak Aq Af:Addr}
def aaS:Sp:=fun vs H Q _=>∃ x:Str,vs=[.str x]/\x.cps.size <= 1000/\Out H Q (fun v H'=>∃ p,v = .ref p/\H' p=some (.tup (x.cps.toList.map fun c=>.int ((c:Nat):Int))))
theorem R3:Ar ["letters", "letter"] ["letters"] (Aj Og):=⟨rfl,rfl,rfl,by decide +kernel,rfl,by decide +kernel,by decide +kernel⟩
theorem Hr (T:Txt K mg Ak Aq Af):Cl P w K mg base 1 "bytes_of" ["letters"] aaS:=by
 refine T.ada.ok R3 (fun vs H Q E h=>?_) (fun f cdv A outer s H vs Q E hr h=>?_)
 ·obtain ⟨x,rfl,_⟩:=h
  rfl
 ·obtain ⟨x,rfl,hx,k⟩:=h
  have nd:=R3.nd
  refine ⟨_,Ae (Al (Jf Ii (by rfl) T.aaA Lz (Aa (YC rfl nd (aiH (pv 0)) (Gi (own:=[("letter",1)]) (show WY ["letters", "letter"] (Aj Og) _ [("letter",1)] = true from by decide +kernel))
   (fun _ _ _ _ _=>Bb (i:=1) nd rfl (Or.inl rfl)) (fun _ _ _ _ _=>JB) (fun _ _ _ _ _=>Be agG (by rfl) T.akO afg (Aa (pv 1) Ad))) Ad))),?_⟩
  refine ⟨_,rfl,x,rfl,fun D hD=>?_⟩
  refine abm (n:=x.cps.size) (fun j H2=>Ag H H2/\H2 D=some (.lst ((x.cps.toList.take j).map fun c=>.int ((c:Nat):Int)))) ⟨Ag.new hD,Ab⟩
   (fun j H2 hj p=>hj) (fun H2 p=>Nat.le_refl _) ?_ ?_
  ·rintro j y H2 H3 hj ⟨p1,p2⟩ ⟨rfl,c,hc,rfl⟩
   refine ⟨rfl,Oo ?_⟩
   refine ⟨_,rfl,_,rfl,rfl,_,p2,?_,Ag.Ef hD p1,?_⟩
   ·rw [List.length_map,List.length_take]; exact Bx (by omega)
   ·rw [Ab]
    have hc':x.cps.toList[j]? = some c:=by rw [Array.getElem?_toList]; exact hc
    rw [List.take_succ,hc',List.map_append]
    rfl
  ·rintro H2 ⟨p1,p2⟩
   have:x.cps.toList.take x.cps.size=x.cps.toList:=by rw [<- Array.length_toList]; exact List.take_length
   rw [this] at p2
   refine ⟨D,_,rfl,.inl ⟨SqL.of p2,fun l hl=>?_⟩⟩
   exact k _ _ (p1.trans (Ag.new hl)) ⟨l,rfl,Ab⟩
def Ph (K:PySem.W.Frag):Sp:=fun vs H Q _=>∃ (a:Addr) (t:Bytes) (d:UInt8),vs=[.ref a,.int (d.toNat:Int)]/\(SqL K H a (bV t) \/ SqT K H a (bV t))/\t.length <= 1000000/\Out H Q (fun v H'=>W9 H' v (split d t))
theorem HD:Ar ["signs", "divider", "pieces", "piece", "sign"] ["signs", "divider"] (Aj Jc):=⟨rfl,rfl,rfl,by decide +kernel,rfl,by decide +kernel,by decide +kernel⟩
theorem Jp (T:Txt K mg Ak Aq Af):Cl P w K mg base 1 "pieces_between" ["signs", "divider"] (Ph K):=by
 refine T.Rz.ok HD (fun vs H Q E h=>?_) (fun f cdv A outer s H vs Q E hr h=>?_)
 ·obtain ⟨a,t,d,rfl,_⟩:=h
  rfl
 ·obtain ⟨a,t,d,rfl,hS,hlen,k⟩:=h
  have nd:=HD.nd
  refine ⟨_,Ac (Av (i:=2) nd rfl (Or.inl rfl) (DN Ad)) (Ac (Av (i:=3) nd rfl (Or.inl rfl) (DN Ad))
   (Ac (Cr PassesOwn.never rfl (PI.or (Gz (pv 0)) (acz (pv 0))) (Bb (i:=4) nd rfl (Or.inl rfl))
    (Ae (Bt (Bp La (pv 4) (pv 1) (Bu _))
     (Ac (Gy (KZ PySem.F.plainAttrs_list PySem.F.slot_list_append PySem.F.type_list_append Fx (pv 2) (Aa (Jf Ii (by rfl) T.aaA Lz (Aa (pv 3) Ad)) Ad))) (Ae (Av (i:=3) nd rfl (Or.inl rfl) (DN Ad))))
     (Ae (Gy (KZ PySem.F.plainAttrs_list PySem.F.slot_list_append PySem.F.type_list_append Fx (pv 3) (Aa (pv 4) Ad)))))))
   (Ac (Gy (KZ PySem.F.plainAttrs_list PySem.F.slot_list_append PySem.F.type_list_append Fx (pv 2) (Aa (Jf Ii (by rfl) T.aaA Lz (Aa (pv 3) Ad)) Ad)))
   (Ae (Al (pv 2)))))),?_⟩
  refine ⟨Nat.zero_le _,fun lp nlp=>?_⟩
  refine ⟨Nat.zero_le _,fun lq0 ahs=>?_⟩
  have hsp:=aaO d t
  have s1:Ag H (upd H lp (.lst [])):=Ag.new nlp
  have s2:Ag (upd H lp (.lst [])) (upd (upd H lp (.lst [])) lq0 (.lst [])):=Ag.new ahs
  have nq0:lq0 ≠ lp:=fun z=>by rw [z,Ab] at ahs; cases ahs
  have ajd:upd (upd H lp (.lst [])) lq0 (.lst []) lp=some (.lst []):=s2 _ _ Ab
  have ajc:upd (upd H lp (.lst [])) lq0 (.lst []) lq0=some (.lst []):=Ab
  have sm0:=s1.trans s2
  have ah9:=s1.free ahs
  generalize upd (upd H lp (.lst [])) lq0 (.lst [])=H1 at sm0 ajd ajc
  rcases hS with hS | hS
  ·refine .inl ⟨_,rfl,a,rfl,⟨_,sm0.seq hS⟩,Ho (K:=K) (a:=a) (xs:=bV t)
    (fun i σ H'=>∃ (lq:Addr) (v4:Option V) (ps:List Addr),σ=[some (.ref a),some (.int (d.toNat:Int)),some (.ref lp),some (.ref lq),v4]/\Ag H H'/\H' lp=some (.lst (ps.map V.ref))/\N6 H' ps ((t.take i).foldl (Ce d) ([],[])).1 /\
     H' lq=some (.lst (bV ((t.take i).foldl (Ce d) ([],[])).2))/\lq ≠ lp/\H lq=none)
    ⟨lq0,none,[],rfl,sm0,ajd,.nil,ajc,nq0,ah9⟩ (fun i σ H' _ ⟨_,_,_,_,sm,_⟩=>sm.seq hS) ?_ ?_⟩
   ·rintro i x σ H' hi ⟨lq,v4,ps,rfl,sm,hlp,hps,hlq,nq,hql⟩
    obtain ⟨c,hc,rfl⟩:=abV hi
    have hstep:(t.take (i + 1)).foldl (Ce d) ([],[])=Ce d ((t.take i).foldl (Ce d) ([],[])) c:=by rw [List.take_succ,hc,List.foldl_append]; rfl
    have hil:i < t.length:=(List.getElem?_eq_some_iff.mp hc).1
    have hst:=Mi d (t.take i)
    rw [List.length_take] at hst
    generalize (t.take i).foldl (Ce d) ([],[])=st at hstep hps hlq hst
    have hpl:=Bd hps
    refine ⟨_,rfl,_,rfl,rfl,_,rfl,?_⟩
    refine BP (fun h0=>?_) (fun h0=>?_)
    ·have ec:c=d:=by
      have:=of_decide_eq_true h0
      injection this with this
      exact UInt8.toNat_inj.mp (by omega)
     refine ⟨_,rfl,.inl ⟨rfl,_,SqL.of hlp⟩,_,rfl,lq,_,rfl,.inl ⟨SqL.of hlq,fun tp htp=>?_⟩⟩
     have s1:Ag H' (upd H' tp (.tup (bV st.2))):=Ag.new htp
     refine ⟨lp,_,_,rfl,rfl,s1 _ _ hlp,(by rw [List.length_map]; exact Bx (by omega)),?_⟩
     refine ⟨(by show 0 <= sizeLine; exact Nat.zero_le _),fun lq2 aaa=>?_⟩
     have n2:H lq2=none:=by
      have:=Ag.free (Ag.Ef nlp (sm.trans s1)) aaa
      exact this
     have ne2:lq2 ≠ lp:=fun z=>by rw [z,Ab] at aaa; cases aaa
     refine ⟨lq2,_,ps ++ [tp],rfl,?_,?_,?_,Ab.trans (by rw [hstep]; unfold Ce; rw [if_pos ec]; rfl),ne2,n2⟩
     ·exact Ag.Ef n2 (Ag.Ef nlp (sm.trans s1))
     ·rw [Ah ne2.symm,Ab,List.map_append]; rfl
     ·rw [hstep]
      unfold Ce
      rw [if_pos ec]
      have q1:∀ xs,upd H' tp (.tup (bV st.2)) lp ≠ some (.tup xs):=fun xs z=>by rw [s1 _ _ hlp] at z; cases z
      have q2:∀ xs,upd (upd H' tp (.tup (bV st.2))) lp (.lst (ps.map V.ref ++ [.ref tp])) lq2 ≠ some (.tup xs):=fun xs z=>by rw [aaa] at z; cases z
      refine FJ q2 (FJ q1 (Dt (Et s1 hps) (.cons Ab .nil)))
    ·have ec:c ≠ d:=fun z=>h0 (by rw [z]; simp)
     refine ⟨_,rfl,.inl ⟨rfl,_,SqL.of hlq⟩,_,rfl,lq,_,_,rfl,rfl,hlq,(by unfold bV; rw [List.length_map]; exact Bx (by omega)),?_⟩
     refine ⟨lq,_,ps,rfl,Ag.Ef hql sm,(by rw [Ah nq.symm]; exact hlp),?_,Ab.trans ?_,nq,hql⟩
     ·rw [hstep]
      unfold Ce
      rw [if_neg ec]
      exact FJ (fun xs z=>by rw [hlq] at z; cases z) hps
     ·rw [hstep]
      unfold Ce bV
      rw [if_neg ec,List.map_append]
      rfl
   ·rintro σ H' ⟨lq,v4,ps,rfl,sm,hlp,hps,hlq,nq,hql⟩
    have el:(bV t).length=t.length:=List.length_map _
    rw [el,List.take_length] at hps hlq
    have hst:=Mi d t
    rw [hsp] at k
    generalize t.foldl (Ce d) ([],[])=st at hps hlq hst k
    have hpl:=Bd hps
    refine ⟨_,rfl,.inl ⟨rfl,_,SqL.of hlp⟩,_,rfl,lq,_,rfl,.inl ⟨SqL.of hlq,fun tp htp=>?_⟩⟩
    have s1:Ag H' (upd H' tp (.tup (bV st.2))):=Ag.new htp
    refine ⟨lp,_,_,rfl,rfl,s1 _ _ hlp,(by rw [List.length_map]; exact Bx (by omega)),?_⟩
    refine ⟨_,rfl,?_⟩
    have q1:∀ xs,upd H' tp (.tup (bV st.2)) lp ≠ some (.tup xs):=fun xs z=>by rw [s1 _ _ hlp] at z; cases z
    refine k _ _ (Ag.Ef nlp (sm.trans s1)) ⟨lp,ps ++ [tp],rfl,Ab.trans (by rw [List.map_append]; rfl),?_⟩
    exact FJ q1 (Dt (Et s1 hps) (.cons Ab .nil))
  ·refine .inr ⟨_,rfl,a,rfl,⟨_,sm0.sqT hS⟩,adT (K:=K) (a:=a) (xs:=bV t)
    (fun i σ H'=>∃ (lq:Addr) (v4:Option V) (ps:List Addr),σ=[some (.ref a),some (.int (d.toNat:Int)),some (.ref lp),some (.ref lq),v4]/\Ag H H'/\H' lp=some (.lst (ps.map V.ref))/\N6 H' ps ((t.take i).foldl (Ce d) ([],[])).1 /\
     H' lq=some (.lst (bV ((t.take i).foldl (Ce d) ([],[])).2))/\lq ≠ lp/\H lq=none)
    ⟨lq0,none,[],rfl,sm0,ajd,.nil,ajc,nq0,ah9⟩ (fun i σ H' _ ⟨_,_,_,_,sm,_⟩=>sm.sqT hS) ?_ ?_⟩
   ·rintro i x σ H' hi ⟨lq,v4,ps,rfl,sm,hlp,hps,hlq,nq,hql⟩
    obtain ⟨c,hc,rfl⟩:=abV hi
    have hstep:(t.take (i + 1)).foldl (Ce d) ([],[])=Ce d ((t.take i).foldl (Ce d) ([],[])) c:=by rw [List.take_succ,hc,List.foldl_append]; rfl
    have hil:i < t.length:=(List.getElem?_eq_some_iff.mp hc).1
    have hst:=Mi d (t.take i)
    rw [List.length_take] at hst
    generalize (t.take i).foldl (Ce d) ([],[])=st at hstep hps hlq hst
    have hpl:=Bd hps
    refine ⟨_,rfl,_,rfl,rfl,_,rfl,?_⟩
    refine BP (fun h0=>?_) (fun h0=>?_)
    ·have ec:c=d:=by
      have:=of_decide_eq_true h0
      injection this with this
      exact UInt8.toNat_inj.mp (by omega)
     refine ⟨_,rfl,.inl ⟨rfl,_,SqL.of hlp⟩,_,rfl,lq,_,rfl,.inl ⟨SqL.of hlq,fun tp htp=>?_⟩⟩
     have s1:Ag H' (upd H' tp (.tup (bV st.2))):=Ag.new htp
     refine ⟨lp,_,_,rfl,rfl,s1 _ _ hlp,(by rw [List.length_map]; exact Bx (by omega)),?_⟩
     refine ⟨(by show 0 <= sizeLine; exact Nat.zero_le _),fun lq2 aaa=>?_⟩
     have n2:H lq2=none:=by
      have:=Ag.free (Ag.Ef nlp (sm.trans s1)) aaa
      exact this
     have ne2:lq2 ≠ lp:=fun z=>by rw [z,Ab] at aaa; cases aaa
     refine ⟨lq2,_,ps ++ [tp],rfl,?_,?_,?_,Ab.trans (by rw [hstep]; unfold Ce; rw [if_pos ec]; rfl),ne2,n2⟩
     ·exact Ag.Ef n2 (Ag.Ef nlp (sm.trans s1))
     ·rw [Ah ne2.symm,Ab,List.map_append]; rfl
     ·rw [hstep]
      unfold Ce
      rw [if_pos ec]
      have q1:∀ xs,upd H' tp (.tup (bV st.2)) lp ≠ some (.tup xs):=fun xs z=>by rw [s1 _ _ hlp] at z; cases z
      have q2:∀ xs,upd (upd H' tp (.tup (bV st.2))) lp (.lst (ps.map V.ref ++ [.ref tp])) lq2 ≠ some (.tup xs):=fun xs z=>by rw [aaa] at z; cases z
      refine FJ q2 (FJ q1 (Dt (Et s1 hps) (.cons Ab .nil)))
    ·have ec:c ≠ d:=fun z=>h0 (by rw [z]; simp)
     refine ⟨_,rfl,.inl ⟨rfl,_,SqL.of hlq⟩,_,rfl,lq,_,_,rfl,rfl,hlq,(by unfold bV; rw [List.length_map]; exact Bx (by omega)),?_⟩
     refine ⟨lq,_,ps,rfl,Ag.Ef hql sm,(by rw [Ah nq.symm]; exact hlp),?_,Ab.trans ?_,nq,hql⟩
     ·rw [hstep]
      unfold Ce
      rw [if_neg ec]
      exact FJ (fun xs z=>by rw [hlq] at z; cases z) hps
     ·rw [hstep]
      unfold Ce bV
      rw [if_neg ec,List.map_append]
      rfl
   ·rintro σ H' ⟨lq,v4,ps,rfl,sm,hlp,hps,hlq,nq,hql⟩
    have el:(bV t).length=t.length:=List.length_map _
    rw [el,List.take_length] at hps hlq
    have hst:=Mi d t
    rw [hsp] at k
    generalize t.foldl (Ce d) ([],[])=st at hps hlq hst k
    have hpl:=Bd hps
    refine ⟨_,rfl,.inl ⟨rfl,_,SqL.of hlp⟩,_,rfl,lq,_,rfl,.inl ⟨SqL.of hlq,fun tp htp=>?_⟩⟩
    have s1:Ag H' (upd H' tp (.tup (bV st.2))):=Ag.new htp
    refine ⟨lp,_,_,rfl,rfl,s1 _ _ hlp,(by rw [List.length_map]; exact Bx (by omega)),?_⟩
    refine ⟨_,rfl,?_⟩
    have q1:∀ xs,upd H' tp (.tup (bV st.2)) lp ≠ some (.tup xs):=fun xs z=>by rw [s1 _ _ hlp] at z; cases z
    refine k _ _ (Ag.Ef nlp (sm.trans s1)) ⟨lp,ps ++ [tp],rfl,Ab.trans (by rw [List.map_append]; rfl),?_⟩
    exact FJ q1 (Dt (Et s1 hps) (.cons Ab .nil))
end
open Mx (P3 split Gf Bq Dk isNm)
open Br (Bytes isLow isDigit)
def XC:Option Nat->V
 | none=>.non
 | some n=>.int (n:Int)
theorem Ep (t:Bytes):(bV t).length=t.length:=List.length_map _
section
variable {P:Program} {w:World} {K:PySem.W.Frag} {mg:Str->Option Value} {base:Heap} {Ak Aq Af:Addr}
def ajE (t:Bytes) (v:V) (H:Hp):Prop:=∃ rs tl,split 10 t=rs ++ [tl]/\if tl=[] then W9 H v rs else v = .non
def ack (K:PySem.W.Frag):Sp:=fun vs H Q _=>∃ (a:Addr) (t:Bytes),vs=[.ref a]/\SqL K H a (bV t)/\t.length <= 1000000/\Out H Q (ajE t)
theorem Vo:Ar ["text", "pieces"] ["text"] (Aj Yu):=⟨rfl,rfl,rfl,by decide +kernel,rfl,by decide +kernel,by decide +kernel⟩
theorem agB (xs:List V) (v:V):Kh (xs ++ [v]) none (some (-1))=xs:=by
 have e1:HT.sIx (xs ++ [v]).length (xs ++ [v]).length (some (-1))=xs.length:=by
  unfold HT.sIx
  dsimp only
  rw [if_pos (by decide),List.length_append,List.length_singleton]
  omega
 unfold Kh
 rw [e1,HT.Vx]
 simp
theorem Rp (m:Nat) (c:UInt8) (r:Bytes):Gf m (c :: r)=(isLow c && (decide (r.length <= m) && r.all isNm)):=rfl
theorem Ze (T:Txt K mg Ak Aq Af):Cl P w K mg base 2 "rows_of" ["text"] (ack K):=by
 refine T.ae2.ok Vo (fun vs H Q E h=>?_) (fun f cdv A outer s H vs Q E hr h=>?_)
 ·obtain ⟨a,t,rfl,_⟩:=h
  rfl
 ·obtain ⟨a,t,rfl,hS,hlen,k⟩:=h
  have nd:=Vo.nd
  refine ⟨_,Ac (Av (i:=1) nd rfl (Or.inl rfl) (Bl (Jp T) hr rfl (Aa (pv 0) (Aa (Df T.Yd rfl) Ad))))
   (Ac (Bt (Bp Sv (Be Ax (by rfl) T.Dg PySem.boot_len (Aa (Ci BJ (pv 1) (Sq QJ Am) (fun _ _=>rfl)) Ad)) Am (Bu _)) (Ae (Al BZ)) Az)
   (Ae (Al (KY Us (pv 1) Uw (Mm (Sq QJ Am)))))),?_⟩
  refine ⟨_,rfl,a,t,10,rfl,.inl hS,hlen,fun v H1 s1 ⟨p,qs,ev,hp,hr1⟩=>?_⟩
  subst ev
  have hne:split 10 t ≠ []:=Mx.Ei 10 t
  obtain ⟨rs,tl,et⟩:∃ rs tl,split 10 t=rs ++ [tl]:=⟨_,_,(List.dropLast_concat_getLast hne).symm⟩
  rw [et] at hr1
  have hql:=Bd hr1
  obtain ⟨qs0,q,rfl⟩:∃ qs0 q,qs=qs0 ++ [q]:=⟨qs.dropLast,qs.getLast (List.length_pos_iff.mp (by rw [hql]; simp)),(List.dropLast_concat_getLast _).symm⟩
  obtain ⟨hr0,hq⟩:=K4 (by simpa using hql) hr1
  have hp:H1 p=some (.lst (qs0.map V.ref ++ [.ref q])):=by rw [hp,List.map_append]; rfl
  refine ⟨_,rfl,_,rfl,p,_,_,_,rfl,rfl,SqL.of hp,agK _ _,q,_,rfl,.inr (SqT.of hq),_,_,rfl,rfl,_,rfl,?_⟩
  rw [Ep]
  refine BP (fun h0=>?_) (fun h0=>?_)
  ·refine k _ _ s1 ⟨rs,tl,et,?_⟩
   have:tl ≠ []:=fun z=>by rw [z] at h0; simp at h0
   rw [if_neg this]
  ·refine ⟨_,rfl,_,rfl,_,rfl,p,_,rfl,SqL.of hp,fun l hl=>?_⟩
   have sn:=Ag.new (o:=.lst (Kh (qs0.map V.ref ++ [.ref q]) none (some (-1)))) hl
   refine k _ _ (s1.trans sn) ⟨rs,tl,et,?_⟩
   have:tl=[]:=by
    cases tl with
    | nil=>rfl
    | cons a b=>exact absurd (by simp) h0
   rw [if_pos this]
   exact ⟨l,qs0,rfl,by rw [Ab,agB],Et sn hr0⟩
def aaR (K:PySem.W.Frag):Sp:=fun vs H Q _=>∃ (a:Addr) (t:Bytes),vs=[.ref a]/\H a=some (.tup (bV t))/\t.length <= 1000000/\Out H Q (fun v H'=>W9 H' v (split 32 t))
theorem aaV:Ar ["row"] ["row"] (Aj Vt):=⟨rfl,rfl,rfl,by decide +kernel,rfl,by decide +kernel,by decide +kernel⟩
theorem Ov (T:Txt K mg Ak Aq Af):Cl P w K mg base 2 "words_of" ["row"] (aaR K):=by
 refine T.ac6.ok aaV (fun vs H Q E h=>?_) (fun f cdv A outer s H vs Q E hr h=>?_)
 ·obtain ⟨a,t,rfl,_⟩:=h
  rfl
 ·obtain ⟨a,t,rfl,hS,hlen,k⟩:=h
  refine ⟨_,Ae (Al (Bl (Jp T) hr rfl (Aa (pv 0) (Aa (Df T.agW rfl) Ad)))),?_⟩
  exact ⟨_,rfl,a,t,32,rfl,.inr (SqT.of hS),hlen,k⟩
def inR (lo hi c:Int):Bool:=decide (lo <= c) && decide (c <= hi)
theorem ZV:Ar ["sign"] ["sign"] (Aj R8):=⟨rfl,rfl,rfl,by decide +kernel,rfl,by decide +kernel,by decide +kernel⟩
theorem Tt (T:Txt K mg Ak Aq Af):Cl P w K mg base 1 "is_letter" ["sign"] (Vk (inR 97 122)):=by
 refine T.abJ.ok ZV (fun vs H Q E h=>?_) (fun f cdv A outer s H vs Q E hr h=>?_)
 ·obtain ⟨c,rfl,_⟩:=h
  rfl
 ·obtain ⟨c,rfl,k⟩:=h
  refine ⟨_,Ae (Al (VM Qa Qa (Df T.aea rfl) (pv 0) (Df T.ad9 rfl))),?_⟩
  refine ⟨_,rfl,_,_,rfl,rfl,_,rfl,?_⟩
  refine BP (fun h0=>⟨_,_,rfl,rfl,k _ _ (Ag.refl _) (by unfold inR; rw [h0]; rfl)⟩) (fun h0=>k _ _ (Ag.refl _) (by unfold inR; rw [Bool.not_eq_true] at h0; rw [h0]; rfl))
theorem aaW:Ar ["sign"] ["sign"] (Aj Vu):=⟨rfl,rfl,rfl,by decide +kernel,rfl,by decide +kernel,by decide +kernel⟩
theorem WL (T:Txt K mg Ak Aq Af):Cl P w K mg base 1 "is_digit" ["sign"] (Vk (inR 48 57)):=by
 refine T.ac7.ok aaW (fun vs H Q E h=>?_) (fun f cdv A outer s H vs Q E hr h=>?_)
 ·obtain ⟨c,rfl,_⟩:=h
  rfl
 ·obtain ⟨c,rfl,k⟩:=h
  refine ⟨_,Ae (Al (VM Qa Qa (Df T.U8 rfl) (pv 0) (Df T.ain rfl))),?_⟩
  refine ⟨_,rfl,_,_,rfl,rfl,_,rfl,?_⟩
  refine BP (fun h0=>⟨_,_,rfl,rfl,k _ _ (Ag.refl _) (by unfold inR; rw [h0]; rfl)⟩) (fun h0=>k _ _ (Ag.refl _) (by unfold inR; rw [Bool.not_eq_true] at h0; rw [h0]; rfl))
theorem adP (c:UInt8):inR 97 122 (c.toNat:Int)=isLow c:=by
 unfold inR isLow
 congr 1 <;> (rw [decide_eq_decide]; omega)
theorem adQ (c:UInt8):inR 48 57 (c.toNat:Int)=isDigit c:=by
 unfold inR isDigit
 congr 1 <;> (rw [decide_eq_decide]; omega)
def acp:Sp:=fun vs H Q _=>∃ (a:Addr) (t:Bytes) (m:Nat),vs=[.ref a,.int ((m + 1:Nat):Int)]/\H a=some (.tup (bV t))/\t.length <= 1000000/\Out H Q (fun v _=>v = .bl (Gf m t))
theorem Vr:Ar ["signs", "longest", "sign"] ["signs", "longest"] (Aj Rb):=⟨rfl,rfl,rfl,by decide +kernel,rfl,by decide +kernel,by decide +kernel⟩
theorem Zg (T:Txt K mg Ak Aq Af):Cl P w K mg base 2 "is_name" ["signs", "longest"] acp:=by
 refine T.ae5.ok Vr (fun vs H Q E h=>?_) (fun f cdv A outer s H vs Q E hr h=>?_)
 ·obtain ⟨a,t,m,rfl,_⟩:=h
  rfl
 ·obtain ⟨a,t,m,rfl,ha,hlen,k⟩:=h
  have nd:=Vr.nd
  refine ⟨_,Ac (Bt (PW.pt (GK (Bp YQ (Be Ax (by rfl) T.Dg PySem.boot_len (Aa (pv 0) Ad)) Am (Bu _)) (Ie (Bp Sv (Be Ax (by rfl) T.Dg PySem.boot_len (Aa (pv 0) Ad)) (pv 1) (Bu _))))) (Ae (Al FT)) Az)
   (Ac (Bt (Hk (Ea (Bl (Tt T) hr rfl (Aa (Ci Ih (pv 0) Am (fun _ _=>rfl)) Ad)))) (Ae (Al FT)) Az)
   (Ae (Al (Be (agC rfl) (by rfl) T.aih Zj (Aa (YC rfl nd (acz (pv 0)) (Gi (own:=[("sign",2)]) (show WY ["signs", "longest", "sign"] (Aj Rb) _ [("sign",2)] = true from by decide +kernel))
    (fun _ _ _ _ _=>Bb (i:=2) nd rfl (Or.inl rfl)) (fun _ _ _ _ _=>JB) (fun _ _ _ _ _=>aj8 (Bl (Tt T) hr rfl (Aa (pv 2) Ad)) (Ri (Bl (WL T) hr rfl (Aa (pv 2) Ad))))) Ad))))),?_⟩
  refine ⟨_,rfl,a,_,rfl,.inr (SqT.of ha),_,_,rfl,rfl,_,rfl,?_⟩
  rw [Ep]
  refine BP (fun h0=>?_) (fun h0=>?_)
  ·refine Dy (k _ _ (Ag.refl _) ?_)
   have:t=[]:=List.length_eq_zero_iff.mp (by have:=of_decide_eq_true h0; omega)
   rw [this]; rfl
  obtain ⟨c,r,rfl⟩:∃ c r,t=c :: r:=by
   cases t with
   | nil=>exact absurd rfl h0
   | cons c r=>exact ⟨c,r,rfl⟩
  refine ⟨_,rfl,a,_,rfl,.inr (SqT.of ha),_,rfl,_,_,rfl,rfl,_,rfl,?_⟩
  rw [Ep]
  refine BP (fun h1=>?_) (fun h1=>?_)
  ·refine k _ _ (Ag.refl _) (congrArg V.bl ?_)
   have:=of_decide_eq_true h1
   rw [List.length_cons] at this
   rw [Rp,decide_eq_false (by omega:¬ r.length <= m)]
   cases isLow c <;> rfl
  have hrm:r.length <= m:=by
   have:=of_decide_eq_false (Bool.not_eq_true _ ▸ h1)
   rw [List.length_cons] at this
   omega
  refine ⟨_,rfl,a,_,_,_,rfl,rfl,SqT.of ha,at_of (j:=0) rfl rfl,_,rfl,fun v H1 s1 ev=>⟨_,ev,?_⟩⟩
  rw [adP]
  refine BP (fun h2=>?_) (fun h2=>?_)
  ·refine k _ _ s1 (congrArg V.bl ?_)
   rw [Bool.not_eq_true'] at h2
   rw [Rp,h2]; rfl
  have hlow:isLow c=true:=by simpa using h2
  refine ⟨_,rfl,a,rfl,⟨_,SqT.of (s1 _ _ ha)⟩,fun D hD=>?_⟩
  refine ai0 (K:=K) (a:=a) (xs:=bV (c :: r)) (fun j H2=>Ag H1 H2/\H2 D=some (.lst (((c :: r).take j).map fun x=>.bl (isNm x)))) ⟨Ag.new hD,Ab⟩
   (fun j H2 _ p=>SqT.of (p.1 _ _ (s1 _ _ ha))) ?_ ?_
  ·rintro j x H2 hj ⟨p1,p2⟩
   obtain ⟨b,hb,rfl⟩:=abV hj
   have hjl:j < (c :: r).length:=(List.getElem?_eq_some_iff.mp hb).1
   have fin:∀ H3,Ag H2 H3->∃ acc,H3 D=some (.lst acc)/\acc.length < sizeLine/\Ag H1 (upd H3 D (.lst (acc ++ [.bl (isNm b)])))/\upd H3 D (.lst (acc ++ [.bl (isNm b)])) D=some (.lst (((c :: r).take (j + 1)).map fun x=>.bl (isNm x))):=fun H3 s3=>by
    refine ⟨_,s3 _ _ p2,?_,Ag.Ef hD (p1.trans s3),?_⟩
    ·rw [List.length_map,List.length_take]; exact Bx (by omega)
    ·rw [Ab,List.take_succ,hb,List.map_append]; rfl
   refine ⟨rfl,Oo ?_⟩
   refine ⟨_,rfl,_,rfl,fun v3' H3 s3 e3=>⟨_,e3,?_⟩⟩
   rw [adP]
   refine BP (fun h3=>?_) (fun h3=>?_)
   ·have:=fin H3 s3
    have e:isNm b=true:=by unfold isNm; rw [h3]; rfl
    rw [e] at this
    exact this
   ·refine ⟨_,rfl,_,rfl,fun v4 H4 s4 e4=>?_⟩
    subst e4
    rw [adQ]
    have:=fin H4 (s3.trans s4)
    have e:isNm b=isDigit b:=by unfold isNm; rw [Bool.not_eq_true] at h3; rw [h3]; rfl
    rw [e] at this
    exact this
  ·rintro H2 ⟨p1,p2⟩
   rw [Ep,List.take_length] at p2
   refine ⟨D,(c :: r).map isNm,rfl,SqL.of (by rw [p2,List.map_map]; rfl),k _ _ (s1.trans p1) (congrArg V.bl ?_)⟩
   rw [Rp,hlow,decide_eq_true hrm,List.map_cons,List.all_cons]
   have:isNm c=true:=by unfold isNm; rw [hlow]; rfl
   rw [this,List.all_map]
   rfl
def ZM:Sp:=fun vs H Q _=>∃ (a:Addr) (t:Bytes) (lo hi:Nat),vs=[.ref a,.int (lo:Int),.int (hi:Int)]/\H a=some (.tup (bV t))/\t.length <= 1000000/\hi <= 1000000/\Out H Q (fun v _=>v=XC (Bq lo hi t))
theorem Pr:Ar ["signs", "least", "most", "number", "sign"] ["signs", "least", "most"] (Aj R7):=⟨rfl,rfl,rfl,by decide +kernel,rfl,by decide +kernel,by decide +kernel⟩
theorem Tr (T:Txt K mg Ak Aq Af):Cl P w K mg base 2 "number_of" ["signs", "least", "most"] ZM:=by
 refine T.abI.ok Pr (fun vs H Q E h=>?_) (fun f cdv A outer s H vs Q E hr h=>?_)
 ·obtain ⟨a,t,lo,hi,rfl,_⟩:=h
  rfl
 ·obtain ⟨a,t,lo,hi,rfl,ha,hlen,hhi,k⟩:=h
  have nd:=Pr.nd
  refine ⟨_,Ac (Bt (Bp La (Be Ax (by rfl) T.Dg PySem.boot_len (Aa (pv 0) Ad)) Am (Bu _)) (Ae (Al BZ)) Az)
   (Ac (Bt (PW.pt (VD (Bp La (Ci Ih (pv 0) Am (fun _ _=>rfl)) (Df T.U8 rfl) (Bu _)) (PN (Bp Sv (Be Ax (by rfl) T.Dg PySem.boot_len (Aa (pv 0) Ad)) Am (Bu _))))) (Ae (Al BZ)) Az)
   (Ac (Av (i:=3) nd rfl (Or.inl rfl) Am)
   (Ac (Cr PassesOwn.never rfl (acz (pv 0)) (Bb (i:=4) nd rfl (Or.inl rfl))
    (Ac (Bt (Hk (Ea (Bl (WL T) hr rfl (Aa (pv 4) Ad)))) (Ae (Al BZ)) Az)
    (Ac (Av (i:=3) nd rfl (Or.inl rfl) (BV K9 (BV Gd (BV acI (pv 3) Am) (pv 4)) (Df T.U8 rfl)))
    (Ae (Bt (Bp Sv (pv 3) (pv 2) (Bu _)) (Ae (Al BZ)) Az)))))
   (Ac (Bt (Bp YQ (pv 3) (pv 1) (Bu _)) (Ae (Al BZ)) Az) (Ae (Al (pv 3))))))),?_⟩
  refine ⟨_,rfl,a,_,rfl,.inr (SqT.of ha),rfl,_,rfl,?_⟩
  rw [Ep]
  refine BP (fun h0=>?_) (fun h0=>?_)
  ·refine k _ _ (Ag.refl _) ?_
   have:t=[]:=List.length_eq_zero_iff.mp (by have:=of_decide_eq_true h0; injection this with this; omega)
   rw [this]; rfl
  obtain ⟨c,r,rfl⟩:∃ c r,t=c :: r:=by
   cases t with
   | nil=>exact absurd rfl h0
   | cons c r=>exact ⟨c,r,rfl⟩
  have num:Bq lo hi (c :: r)=if c=48/\r ≠ [] then none else match Dk hi 0 (c :: r) with
   | some n=>if n < lo then none else some n
   | none=>none:=rfl
  have alL:¬ decide (V.int (c.toNat:Int)=V.int 48)=true -> ¬ (c=48/\r ≠ []):=fun h z=>h (by rw [z.1]; rfl)
  have alM:¬ decide ((1:Int) < ((bV (c :: r)).length:Int))=true -> ¬ (c=48/\r ≠ []):=fun h z=>h (by
   rw [Ep,List.length_cons]
   have:=List.length_pos_iff.mpr z.2
   exact decide_eq_true (by omega))
  refine ⟨_,rfl,a,_,_,_,rfl,rfl,SqT.of ha,at_of (j:=0) rfl rfl,rfl,_,rfl,?_⟩
  refine BP (fun h1=>⟨_,rfl,a,_,rfl,.inr (SqT.of ha),_,_,rfl,rfl,_,rfl,BP (fun h2=>k _ _ (Ag.refl _) ?_) (fun h2=>?_)⟩) (fun h1=>Fg ?_)
  ·have e1:c=48:=by
    have:=of_decide_eq_true h1
    injection this with this
    exact UInt8.toNat_inj.mp (by show c.toNat=48; omega)
   have e2:r ≠ []:=fun z=>by rw [z] at h2; simp [bV] at h2
   rw [num,if_pos ⟨e1,e2⟩]; rfl
  all_goals
   have hno:¬ (c=48/\r ≠ []):=by first | exact alM h2 | exact alL h1
   rw [num,if_neg hno] at k
   refine ⟨_,rfl,a,rfl,⟨_,SqT.of ha⟩,adT (K:=K) (a:=a) (xs:=bV (c :: r)) (fun i σ H'=>∃ (n:Nat) (v4:Option V),σ=[some (.ref a),some (.int (lo:Int)),some (.int (hi:Int)),some (.int (n:Int)),v4]/\Ag H H'/\n <= hi/\Dk hi 0 (c :: r)=Dk hi n ((c :: r).drop i))
    ⟨0,none,rfl,Ag.refl _,Nat.zero_le _,rfl⟩ (fun i σ H' _ ⟨_,_,_,sm,_⟩=>SqT.of (sm _ _ ha)) ?_ ?_⟩
   ·rintro i x σ H' hx ⟨n,v4,rfl,sm,hn,hg⟩
    obtain ⟨b,hb,rfl⟩:=abV hx
    have ed:(c :: r).drop i=b :: (c :: r).drop (i + 1):=by
     have hi':=(List.getElem?_eq_some_iff.mp hb)
     rw [List.drop_eq_getElem_cons hi'.1,hi'.2]
    rw [ed] at hg
    have hg':Dk hi n (b :: (c :: r).drop (i + 1))=if isDigit b=false then none else if hi < 10 * n + (b.toNat - 48) then none else Dk hi (10 * n + (b.toNat - 48)) ((c :: r).drop (i + 1)):=rfl
    refine ⟨_,rfl,_,rfl,fun v H1 s1 ev=>⟨_,ev,?_⟩⟩
    rw [adQ]
    refine BP (fun hd=>?_) (fun hd=>?_)
    ·refine k _ _ (sm.trans s1) ?_
     rw [Bool.not_eq_true'] at hd
     rw [hg,hg',if_pos hd]; rfl
    have hd':isDigit b=true:=by simpa using hd
    have amd:48 <= b.toNat:=by
     unfold isDigit at hd'
     rw [Bool.and_eq_true] at hd'
     exact of_decide_eq_true hd'.1
    rw [hg',if_neg (by rw [hd']; exact Bool.noConfusion)] at hg
    refine ⟨_,rfl,_,_,rfl,rfl,.inl ⟨by omega,by omega⟩,_,rfl,_,_,rfl,rfl,_,_,rfl,rfl,?_⟩
    have en:(n:Int) * 10 + (b.toNat:Int) - 48=((10 * n + (b.toNat - 48):Nat):Int):=by omega
    refine ⟨_,rfl,_,rfl,_,_,rfl,rfl,_,rfl,?_⟩
    refine BP (fun hm=>?_) (fun hm=>?_)
    ·refine k _ _ (sm.trans s1) ?_
     have:=of_decide_eq_true hm
     rw [hg,if_pos (by omega)]; rfl
    ·have:=of_decide_eq_false (Bool.not_eq_true _ ▸ hm)
     rw [if_neg (by omega)] at hg
     exact ⟨10 * n + (b.toNat - 48),_,by rw [<- en]; rfl,sm.trans s1,by omega,hg⟩
   ·rintro σ H' ⟨n,v4,rfl,sm,hn,hg⟩
    rw [Ep,List.drop_length] at hg
    have hg':Dk hi 0 (c :: r)=some n:=hg
    rw [hg'] at k
    refine ⟨_,rfl,_,rfl,_,_,rfl,rfl,_,rfl,?_⟩
    refine BP (fun hl=>?_) (fun hl=>?_)
    ·refine k _ _ sm ?_
     have:=of_decide_eq_true hl
     dsimp only
     rw [if_pos (by omega)]; rfl
    ·refine ⟨_,rfl,k _ _ sm ?_⟩
     have:=of_decide_eq_false (Bool.not_eq_true _ ▸ hl)
     dsimp only
     rw [if_neg (by omega)]; rfl
end
open Mx (P3 split Gf Bq Dk isNm Gq J9 Head)
def dB (t:Bytes):List PyData:=t.map fun c=>.int (c.toNat:Int)
theorem WD {K:PySem.W.Frag} {H:Hp}:∀ t:Bytes,Xg K H (bV t) (dB t)
 | []=>.nil
 | c :: r=>.cons (.int _) (WD r)
theorem Mz (t:Bytes):SeqAt.shaped (.tuple (dB t))=true:=by
 have h1:PyData.canLayAll0 (dB t)=true:=by
  induction t with
  | nil=>simp [dB,PyData.canLayAll0]
  | cons c r ih =>
   unfold dB at ih ⊢
   rw [List.map_cons]
   simp only [PyData.canLayAll0,PyData.canLay0,Bool.true_and]
   exact ih
 have h2:PyData.depthAll (dB t)=0:=by
  induction t with
  | nil=>simp [dB,PyData.depthAll]
  | cons c r ih =>
   have h1':PyData.canLayAll0 (dB r)=true:=by
    unfold dB at h1
    rw [List.map_cons] at h1
    simp only [PyData.canLayAll0,PyData.canLay0,Bool.true_and] at h1
    exact h1
   have ih:=ih h1'
   unfold dB at ih ⊢
   rw [List.map_cons]
   simp only [PyData.depthAll,PyData.depth,ih]
   rfl
 unfold SeqAt.shaped
 simp only [PyData.canLay0,PyData.depth,h1,h2]
 rfl
theorem adb:∀ u v:Bytes,PyData.eqvAll (dB u) (dB v)=decide (u=v)
 | [],[]=>by simp [dB,PyData.eqvAll]
 | [],_ :: _=>by simp [dB,PyData.eqvAll]
 | _ :: _,[]=>by simp [dB,PyData.eqvAll]
 | a :: u,b :: v=>by
  have ih:=adb u v
  unfold dB at ih ⊢
  rw [List.map_cons,List.map_cons]
  simp only [PyData.eqvAll,PyData.eqv,ih]
  have e:((a.toNat:Int) == (b.toNat:Int))=decide (a=b):=by
   by_cases h:a=b
   ·rw [h]; simp
   ·rw [decide_eq_false h]
    have:¬ (a.toNat:Int)=(b.toNat:Int):=fun z=>h (UInt8.toNat_inj.mp (by omega))
    simpa using this
  rw [e]
  by_cases h:a=b
  ·subst h; simp
  ·simp [h]
theorem ne_bytes {K:PySem.W.Frag} {H:Hp} {a b:Addr} {u v:Bytes} {Q:VK} (ha:H a=some (.tup (bV u))) (hb:H b=some (.tup (bV v))) (h:Q (.bl (!decide (u=v))) H):aj2 K (.ref a) (.ref b) H Q :=
 ⟨.tuple (dB u),.tuple (dB v),.tup (SqT.of ha) (WD u),.tup (SqT.of hb) (WD v),Mz u,Mz v,by
  have e:PyData.eqv (.tuple (dB u)) (.tuple (dB v))=decide (u=v):=by simp only [PyData.eqv]; exact adb u v
  rw [e]; exact h⟩
theorem eq_bytes {K:PySem.W.Frag} {H:Hp} {a b:Addr} {u v:Bytes} {Q:VK} (ha:H a=some (.tup (bV u))) (hb:H b=some (.tup (bV v))) (h:Q (.bl (decide (u=v))) H):aj6 K (.ref a) (.ref b) H Q :=
 ⟨.tuple (dB u),.tuple (dB v),.tup (SqT.of ha) (WD u),.tup (SqT.of hb) (WD v),Mz u,Mz v,by
  have e:PyData.eqv (.tuple (dB u)) (.tuple (dB v))=decide (u=v):=by simp only [PyData.eqv]; exact adb u v
  rw [e]; exact h⟩
theorem af9:((Str.ofString "part").cps.toList.map fun c=>V.int ((c:Nat):Int))=bV (Br.ascii "part"):=by decide +kernel
theorem ahw:((Str.ofString "put").cps.toList.map fun c=>V.int ((c:Nat):Int))=bV (Br.ascii "put"):=by decide +kernel
theorem aeI:((Str.ofString "build").cps.toList.map fun c=>V.int ((c:Nat):Int))=bV (Br.ascii "build"):=by decide +kernel
theorem FZ (o:Option Nat):decide (XC o = .non)=o.isNone:=by
 cases o with
 | none=>rfl
 | some n=>rfl
theorem Dj {H:Hp} {qs:List Addr} {rs:List Bytes} (h:N6 H qs rs) {i:Nat} {r:Bytes} (e:rs[i]? = some r):∃ q,qs[i]? = some q/\H q=some (.tup (bV r)):=by
 have hl:=Bd h
 have hi:i < qs.length:=by rw [hl]; exact (List.getElem?_eq_some_iff.mp e).1
 refine ⟨qs[i],List.getElem?_eq_getElem hi,?_⟩
 exact Rk h (List.getElem?_eq_getElem hi) e
theorem DK {qs:List Addr} {i:Nat} {q:Addr} (h:qs[i]? = some q) {z:Int} (e:z=(i:Int)):atI (qs.map V.ref) z=some (.ref q):=LK e (by rw [List.getElem?_map,h]; rfl)
section
variable {P:Program} {w:World} {K:PySem.W.Frag} {mg:Str->Option Value} {base:Heap} {Ak Aq Af:Addr}
def adp (C:Addr) (o:Option Head) (v:V) (H:Hp):Prop:=match o with
 | none=>v = .non
 | some hd=>∃ p,v = .ref p/\Gx C H p (bV hd.name) hd.wide hd.deep hd.high []
def ZL (C:Addr):Sp:=fun vs H Q _=>∃ (a:Addr) (r:Bytes),vs=[.ref a]/\H a=some (.tup (bV r))/\r.length <= 1000000/\Out H Q (adp C (J9 r))
theorem Pq:Ar ["row", "words", "width", "depth", "height", "weight"] ["row"] (Aj R6):=⟨rfl,rfl,rfl,by decide +kernel,rfl,by decide +kernel,by decide +kernel⟩
theorem agr {ws:List Bytes} (h:ws.length ≠ 6):Gq ws=none:=by
 match ws,h with
 | [],_=>rfl
 | [_],_=>rfl
 | [_,_],_=>rfl
 | [_,_,_],_=>rfl
 | [_,_,_,_],_=>rfl
 | [_,_,_,_,_],_=>rfl
 | [_,_,_,_,_,_],h=>exact absurd rfl h
 | _ :: _ :: _ :: _ :: _ :: _ :: _ :: _,_=>rfl
theorem abO (T:Txt K mg Ak Aq Af):Cl P w K mg base 3 "read_head" ["row"] (ZL Ak):=by
 refine T.abH.ok Pq (fun vs H Q E h=>?_) (fun f cdv A outer s H vs Q E hr h=>?_)
 ·obtain ⟨a,r,rfl,_⟩:=h
  rfl
 ·obtain ⟨a,r,rfl,ha,hlen,k⟩:=h
  have nd:=Pq.nd
  have C:=Tr (P:=P) (w:=w) (base:=base) T
  refine ⟨_,(Ac (Av (i:=1) nd rfl (Or.inl rfl) (Bl (Ov T) hr rfl (Aa (pv 0) (Ad)))) (Ac (Bt (PW.pt (GK (Bp YM (Be Ax (by rfl) T.Dg PySem.boot_len (Aa (pv 1) (Ad))) Am (Bu _)) (Ie (Bp (afZ hr.units) (Ci BJ (pv 1) Am (fun _ _=>rfl)) (Bl (Hr T) hr rfl (Aa (Z1) (Ad))) (Bu _))))) (Ae (Al BZ)) Az) (Ac (Bt (Hk (Ea (Bl (Zg T) hr rfl (Aa (Ci BJ (pv 1) Am (fun _ _=>rfl)) (Aa (Df T.Ht rfl) (Ad)))))) (Ae (Al BZ)) Az) (Ac (Av (i:=2) nd rfl (Or.inl rfl) (Bl C hr rfl (Aa (Ci BJ (pv 1) Am (fun _ _=>rfl)) (Aa (Am) (Aa (Df T.Zy rfl) (Ad)))))) (Ac (Av (i:=3) nd rfl (Or.inl rfl) (Bl C hr rfl (Aa (Ci BJ (pv 1) Am (fun _ _=>rfl)) (Aa (Am) (Aa (Df T.ZF rfl) (Ad)))))) (Ac (Av (i:=4) nd rfl (Or.inl rfl) (Bl C hr rfl (Aa (Ci BJ (pv 1) Am (fun _ _=>rfl)) (Aa (Am) (Aa (Df T.Xj rfl) (Ad)))))) (Ac (Av (i:=5) nd rfl (Or.inl rfl) (Bl C hr rfl (Aa (Ci BJ (pv 1) Am (fun _ _=>rfl)) (Aa (Am) (Aa (Df T.Xi rfl) (Ad)))))) (Ac (Bt (PW.pt (GK (Cj (DP (pv 2))) (GK (Cj (DP (pv 3))) (GK (Cj (DP (pv 4))) (Ie (Cj (DP (pv 5)))))))) (Ae (Al BZ)) Az) (Ae (Al (YB (adi T) hr rfl (Aa (Ci BJ (pv 1) Am (fun _ _=>rfl)) (Aa (pv 2) (Aa (pv 3) (Aa (pv 4) (Aa (FP) (Ad))))))))))))))))),?_⟩
  refine ⟨_,rfl,a,r,rfl,ha,hlen,fun v H1 s1 ⟨p,qs,ev,hp,hq⟩=>?_⟩
  subst ev
  have hfree:∀ x ∈ split 32 r,x.length <= 1000000:=fun x hx=>Nat.le_trans (Mx.split_len hx) hlen
  have eM:J9 r=Gq (split 32 r):=rfl
  rw [eM] at k
  generalize split 32 r=ws at hq k hfree
  have hql:=Bd hq
  refine ⟨_,rfl,p,_,rfl,.inl (SqL.of hp),rfl,_,rfl,?_⟩
  rw [List.length_map]
  refine BP (fun h0=>?_) (fun h0=>?_)
  ·refine Dy (k _ _ s1 ?_)
   rw [agr (by rw [<- hql]; intro z; rw [z] at h0; exact absurd h0 (by decide))]
   rfl
  have h6:ws.length=6:=by
   rw [<- hql]
   have:V.int (qs.length:Int)=V.int 6:=by simpa using h0
   injection this with this
   omega
  obtain ⟨b,n,w',d,h,g,rfl⟩:∃ b n w d h g,ws=[b,n,w,d,h,g]:=by
   match ws,h6 with
   | [b,n,w,d,h,g],_=>exact ⟨b,n,w,d,h,g,rfl⟩
  obtain ⟨q0,e0,t0⟩:=Dj hq (i:=0) rfl
  obtain ⟨q1,e1,t1⟩:=Dj hq (i:=1) rfl
  obtain ⟨q2,e2,t2⟩:=Dj hq (i:=2) rfl
  obtain ⟨q3,e3,t3'⟩:=Dj hq (i:=3) rfl
  obtain ⟨q4,e4,t4⟩:=Dj hq (i:=4) rfl
  obtain ⟨q5,e5,t5⟩:=Dj hq (i:=5) rfl
  refine ⟨_,rfl,p,_,_,_,rfl,rfl,SqL.of hp,DK e0 rfl,Str.ofString "part",rfl,by decide,fun v H2 s2 ⟨pb,ev,hpb⟩=>?_⟩
  subst ev
  rw [af9] at hpb
  refine ne_bytes (s2 _ _ t0) hpb ⟨_,rfl,?_⟩
  refine BP (fun hb=>?_) (fun hb=>?_)
  ·refine k _ _ (s1.trans s2) ?_
   have hb':¬ b=Br.ascii "part" := by simpa using hb
   show adp Ak (Gq [b,n,w',d,h,g]) _ _
   unfold Gq
   dsimp only
   rw [if_neg hb']
   rfl
  have hb':b=Br.ascii "part" := by simpa using hb
  subst hb'
  have sm2:=s1.trans s2
  refine ⟨_,rfl,p,_,_,_,rfl,rfl,SqL.of (s2 _ _ hp),DK e1 rfl,q1,n,7,rfl,s2 _ _ t1,hfree n (by simp),fun v H3 s3 ev=>⟨_,ev,?_⟩⟩
  refine BP (fun hn=>?_) (fun hn=>?_)
  ·refine k _ _ (sm2.trans s3) ?_
   rw [Bool.not_eq_true'] at hn
   unfold Gq
   dsimp only
   rw [if_pos rfl,if_neg (by rw [hn]; exact Bool.false_ne_true)]
   rfl
  have hn':Gf 7 n=true:=by simpa using hn
  have sm3:=sm2.trans s3
  have c3:=s2.trans s3
  refine ⟨_,rfl,p,_,_,_,rfl,rfl,SqL.of (c3 _ _ hp),DK e2 rfl,q2,w',1,16,rfl,c3 _ _ t2,hfree w' (by simp),by decide,fun v4 H4 s4 ev4=>?_⟩
  have c4:=c3.trans s4
  refine ⟨_,rfl,p,_,_,_,rfl,rfl,SqL.of (c4 _ _ hp),DK e3 rfl,q3,d,1,16,rfl,c4 _ _ t3',hfree d (by simp),by decide,fun v5 H5 s5 ev5=>?_⟩
  have c5:=c4.trans s5
  refine ⟨_,rfl,p,_,_,_,rfl,rfl,SqL.of (c5 _ _ hp),DK e4 rfl,q4,h,1,18,rfl,c5 _ _ t4,hfree h (by simp),by decide,fun v6 H6 s6 ev6=>?_⟩
  have c6:=c5.trans s6
  refine ⟨_,rfl,p,_,_,_,rfl,rfl,SqL.of (c6 _ _ hp),DK e5 rfl,q5,g,1,9999,rfl,c6 _ _ t5,hfree g (by simp),by decide,fun v7 H7 s7 ev7=>?_⟩
  have c7:=c6.trans s7
  subst ev4 ev5 ev6 ev7
  have k':∀ (v:V) (H':Hp),Ag H H'->adp Ak (match Bq 1 16 w' with
   | none=>none
   | some w=>match Bq 1 16 d with
    | none=>none
    | some d=>match Bq 1 18 h with
     | none=>none
     | some h=>match Bq 1 9999 g with
      | none=>none
      | some g=>some ⟨n,w,d,h,g⟩) v H'->Q v H':=fun v H' sm hh=>k v H' sm (by unfold Gq; dsimp only; rw [if_pos rfl,if_pos hn']; exact hh)
  clear k
  refine ⟨_,rfl,_,rfl,?_⟩
  rw [FZ]
  cases ew:Bq 1 16 w' with
  | none =>
   rw [ew] at k'
   exact Dy (Dy (k' _ _ (s1.trans c7) rfl))
  | some w1 =>
   rw [ew] at k'
   refine Fg ⟨_,rfl,_,rfl,?_⟩
   rw [FZ]
   cases ed:Bq 1 16 d with
   | none =>
    rw [ed] at k'
    exact Dy (Dy (k' _ _ (s1.trans c7) rfl))
   | some d1 =>
    rw [ed] at k'
    refine Fg ⟨_,rfl,_,rfl,?_⟩
    rw [FZ]
    cases eh:Bq 1 18 h with
    | none =>
     rw [eh] at k'
     exact Dy (Dy (k' _ _ (s1.trans c7) rfl))
    | some h1 =>
     rw [eh] at k'
     refine Fg ⟨_,rfl,_,rfl,?_⟩
     rw [FZ]
     cases eg:Bq 1 9999 g with
     | none =>
      rw [eg] at k'
      exact Dy (k' _ _ (s1.trans c7) rfl)
     | some g1 =>
      rw [eg] at k'
      refine Fg ?_
      refine ⟨_,rfl,p,_,_,_,rfl,rfl,SqL.of (c7 _ _ hp),DK e1 rfl,_,rfl,_,rfl,_,rfl,fun dc hdc=>?_⟩
      refine Z4 fun x H8 s8 ⟨dx,hx⟩=>?_
      have sn:Ag H7 (upd H7 dc (.dT [])):=Ag.new hdc
      exact k' _ _ ((s1.trans c7).trans (sn.trans s8)) ⟨x,rfl,dx,q1,dc,hx,s8 _ _ (sn _ _ (c7 _ _ t1)),s8 _ _ Ab,Nat.zero_le _⟩
end
open Mx (P3 split Gf Bq Dk isNm Gq J9 Head Gn CG El G7 Ft up Cy Hm)
open Br (Bytes isLow isDigit placeOf)
theorem aez (c:UInt8):acy (c.toNat:Int)=(placeOf c).isSome:=by
 have key:∀ n:Fin 256,acy ((UInt8.ofNat n.val).toNat:Int)=(placeOf (UInt8.ofNat n.val)).isSome:=by decide +kernel
 have:=key ⟨c.toNat,c.toNat_lt⟩
 rw [show UInt8.ofNat c.toNat=c from UInt8.ofNat_toNat] at this
 exact this
section
variable {P:Program} {w:World} {K:PySem.W.Frag} {mg:Str->Option Value} {base:Heap} {Ak Aq Af:Addr}
def ah2 (o:Option (List (List Br.Place))) (w d:Nat) (v:V) (H:Hp):Prop:=match o with
 | none=>v = .non
 | some ls=>∃ p,v = .ref p/\H p=some (.dT (Ao (G7 w d 0 ls.flatten)))
def Xo:Sp:=fun vs H Q _=>∃ (a:Addr) (rs:List Bytes) (w d:Nat),vs=[.ref a,.int (w:Int),.int (d:Int)]/\W9 H (.ref a) rs/\1 <= w/\w <= 16/\1 <= d/\d <= 16/\rs.length <= 288/\Out H Q (ah2 (CG w rs) w d)
theorem Nj:Ar ["rows", "width", "depth", "cells", "number", "row", "x", "sign"] ["rows", "width", "depth"] (Aj Px):=⟨rfl,rfl,rfl,by decide +kernel,rfl,by decide +kernel,by decide +kernel⟩
theorem aau (T:Txt K mg Ak Aq Af):Cl P w K mg base 2 "read_cells" ["rows", "width", "depth"] Xo:=by
 refine T.aaf.ok Nj (fun vs H Q E h=>?_) (fun f cdv A outer s H vs Q E hr h=>?_)
 ·obtain ⟨a,rs,w,d,rfl,_⟩:=h
  rfl
 ·obtain ⟨a,rs,w,d,rfl,⟨a',qs,ea,ha,hrs⟩,hw1,hw2,hd1,hd2,hrl,k⟩:=h
  cases ea
  have nd:=Nj.nd
  have hu:=Jk hr
  refine ⟨_,(Ac (Av (i:=3) nd rfl (Or.inl rfl) FP) (Ac (Cr PassesOwn.never rfl (Mp rfl T.Eo (Aa (pv 0) (Ad))) (FN rfl (Bo (Bb (i:=4) nd rfl (Or.inl rfl)) (Bo (Bb (i:=5) nd rfl (Or.inl rfl)) Eh)))
    (Ac (Bt (Bp YM (Be Ax (by rfl) T.Dg PySem.boot_len (Aa (pv 5) (Ad))) (pv 1) (Bu _)) (Ae (Al BZ)) Az) (Ae (Cr PassesOwn.never rfl (afU rfl T.Eo (Aa (pv 5) (Ad))) (FN rfl (Bo (Bb (i:=6) nd rfl (Or.inl rfl)) (Bo (Bb (i:=7) nd rfl (Or.inl rfl)) Eh)))
     (Ac (Bt (Hk (Ea (Bl (Uk T) hr rfl (Aa (pv 7) (Ad))))) (Ae (Al BZ)) Az) (Ae (Bt (Bp YM (pv 7) (Df T.Ye rfl) (Bu _)) (Ae (HJ hu (pv 3) (Rh (Aa (pv 6) (Aa (BV aiN (pv 4) (pv 2)) (Aa (BV ahm (pv 4) (pv 2)) (Ad))))) (pv 7) rfl)) Az))))))) (Ae (Al (pv 3))))),?_⟩
  intro dc hdc
  have s1:Ag H (upd H dc (.dT [])):=Ag.new hdc
  have h1:upd H dc (.dT []) dc=some (.dT (Ao [])):=Ab
  generalize upd H dc (.dT [])=H1 at s1 h1
  refine ⟨_,rfl,a,_,rfl,SqL.of (s1 _ _ ha),Qj (K:=K) (a:=a) (xs:=qs.map V.ref)
   (fun i σ H'=>∃ (v4 v5 v6 v7:Option V) (ls:List (List Br.Place)),σ=[some (.ref a),some (.int (w:Int)),some (.int (d:Int)),some (.ref dc),v4,v5,v6,v7]/\Ag H H'/\CG w (rs.take i)=some ls/\H' dc=some (.dT (Ao (G7 w d 0 ls.flatten))))
   ⟨none,none,none,none,[],rfl,s1,rfl,h1⟩ (fun i σ H' _ ⟨_,_,_,_,_,_,sm,_⟩=>SqL.of (sm _ _ ha)) ?_ ?_⟩
  ·rintro i x σ H' tt hx ⟨v4,v5,v6,v7,ls,rfl,sm,hls,hc⟩ hT
   obtain ⟨q,hq,rfl⟩:∃ q,qs[i]? = some q/\x = .ref q:=by
    rw [List.getElem?_map] at hx
    cases e:qs[i]? with
    | none=>rw [e] at hx; cases hx
    | some q=>rw [e] at hx; exact ⟨q,rfl,(Option.some.inj hx).symm⟩
   obtain ⟨row,hrow,hqt⟩:=BW hrs hq
   have hil:i < rs.length:=(List.getElem?_eq_some_iff.mp hrow).1
   have hfl:=Mx.Oh hls
   rw [List.length_take,Nat.min_eq_left (by omega)] at hfl
   have st:Ag H' (upd H' tt (.tup [.int (i:Nat),.ref q])):=Ag.new hT
   refine ⟨tt,_,rfl,SqT.of Ab,rfl,_,_,rfl,_,_,rfl,rfl,?_⟩
   have sm1:=sm.trans st
   have hc1:=st _ _ hc
   generalize upd H' tt (.tup [.int (i:Nat),.ref q])=H2 at sm1 hc1
   clear st
   have hnext:∀ o,Gn w row=o->CG w (rs.take (i + 1))=match o with
     | none=>none
     | some l=>some (ls ++ [l]):=fun o e=>by
    rw [List.take_succ,hrow]
    show CG w (rs.take i ++ [row])=_
    rw [Mx.Oi,hls]
    dsimp only
    rw [CG,e]
    cases o <;> rfl
   have hbad:Gn w row=none->CG w rs=none:=fun e=>by
    have:=hnext none e
    have e2:rs=rs.take (i + 1) ++ rs.drop (i + 1):=(List.take_append_drop _ _).symm
    rw [e2,Mx.Oi,this]
   rw [Mx.Vz] at hnext hbad
   refine ⟨_,rfl,q,_,rfl,.inr (SqT.of (sm1 _ _ hqt)),_,rfl,rfl,_,rfl,?_⟩
   rw [Ep]
   refine BP (fun h0=>?_) (fun h0=>?_)
   ·refine k _ _ sm1 ?_
    have:¬ row.length=w:=fun z=>by rw [z] at h0; simp at h0
    rw [hbad (if_neg this)]
    rfl
   have hrw:row.length=w:=by
    have:V.int (row.length:Int)=V.int (w:Int):=by simpa using h0
    injection this with this
    omega
   rw [if_pos hrw] at hnext hbad
   refine ⟨_,rfl,q,_,rfl,SqT.of (sm1 _ _ hqt),aeX (K:=K) (a:=q) (xs:=bV row)
    (fun j σ H'=>∃ (v6 v7:Option V) (pl:List Br.Place),σ=[some (.ref a),some (.int (w:Int)),some (.int (d:Int)),some (.ref dc),some (.int (i:Nat)),some (.ref q),v6,v7]/\Ag H H'/\El (row.take j)=some pl/\H' dc=some (.dT (Ao (G7 w d 0 (ls.flatten ++ pl)))))
    ⟨_,_,[],rfl,sm1,rfl,by rw [List.append_nil]; exact hc1⟩ (fun j σ H' _ ⟨_,_,_,_,sm,_⟩=>SqT.of (sm _ _ hqt)) ?_ ?_⟩
   ·rintro j x σ H3 t3' hx ⟨v6,v7,pl,rfl,sm3,hpl,hc3⟩ hT3
    obtain ⟨c,hcj,rfl⟩:=abV hx
    have hjl:j < w:=by rw [<- hrw]; exact (List.getElem?_eq_some_iff.mp hcj).1
    have alH:pl.length=j:=by rw [Mx.Rf hpl,List.length_take]; omega
    have st:Ag H3 (upd H3 t3' (.tup [.int (j:Nat),.int (c.toNat:Int)])):=Ag.new hT3
    refine ⟨t3',_,rfl,SqT.of Ab,rfl,_,_,rfl,_,_,rfl,rfl,?_⟩
    have sm4:=sm3.trans st
    have hc4:=st _ _ hc3
    generalize upd H3 t3' (.tup [.int (j:Nat),.int (c.toNat:Int)])=H4 at sm4 hc4
    clear st
    refine ⟨_,rfl,_,rfl,fun v H5 s5 ev=>⟨_,ev,?_⟩⟩
    rw [aez]
    have Y9:El (row.take (j + 1))=match placeOf c with
      | none=>none
      | some p=>some (pl ++ [p]):=by
     rw [List.take_succ,hcj]
     show El (row.take j ++ [c])=_
     rw [Mx.Rg,hpl]
     dsimp only
     rw [El]
     cases placeOf c <;> rfl
    cases ep:placeOf c with
    | none =>
     refine Dy (k _ _ (sm4.trans s5) ?_)
     rw [ep] at Y9
     have e2:row=row.take (j + 1) ++ row.drop (j + 1):=(List.take_append_drop _ _).symm
     rw [hbad (by rw [e2,Mx.Rg,Y9])]
     rfl
    | some p =>
     rw [ep] at Y9
     dsimp only at Y9
     obtain ⟨hby,hcell⟩:=Mx.ZZ ep
     have hc5:=s5 _ _ hc4
     have sm5:=sm4.trans s5
     have hent:G7 w d 0 (ls.flatten ++ (pl ++ [p]))=G7 w d 0 (ls.flatten ++ pl) ++ (if p.isCell=true then [(up (Ft w d (ls.flatten ++ pl).length),(p.byte.toNat:Int))] else []):=by
      rw [<- List.append_assoc,Mx.abA]
      congr 1
      rw [Nat.zero_add,G7,G7,List.append_nil]
     have hlen:(ls.flatten ++ pl).length=i * w + j:=by rw [List.length_append,hfl,alH]
     refine Fg ⟨_,rfl,rfl,_,rfl,?_⟩
     refine BP (fun hn=>?_) (fun hn=>?_)
     ·have hcn:c ≠ 46:=fun z=>by rw [z] at hn; exact absurd hn (by decide)
      have hpc:=hcell.mpr hcn
      refine ⟨_,rfl,_,rfl,_,rfl,_,rfl,_,rfl,_,_,rfl,rfl,(by omega),_,rfl,_,rfl,_,_,rfl,rfl,⟨by omega,by omega⟩,(by show 3 <= sizeLine; decide),fun p3 hp3=>?_⟩
      have s6:=Ag.new (o:=.tup [.int (j:Nat),.int ((i:Nat) % (d:Int)),.int ((i:Nat) / (d:Int))]) hp3
      have hkey:upd H5 p3 (.tup [.int (j:Nat),.int ((i:Nat) % (d:Int)),.int ((i:Nat) / (d:Int))]) p3=some (.tup ((t3 (up (Ft w d (ls.flatten ++ pl).length))).map kV)):=by
       rw [Ab,hlen,Mx.aen hjl]
       rfl
      refine ⟨dc,_,rfl,Uq.t (k:=t3 (up (Ft w d (ls.flatten ++ pl).length))) (s6 _ _ hc5) hkey ?_,?_⟩
      ·rw [Cd]
       have:=Mx.Wx w d (ls.flatten ++ pl) 0
       rw [hlen] at this
       have h288:i * w <= 288 * 16:=Nat.mul_le_mul (by omega) hw2
       exact Bx (by omega)
      ·refine ⟨_,_,pl ++ [p],rfl,?_,Y9,?_⟩
       ·exact Ag.Ef hdc (sm5.trans s6)
       ·rw [Ab,hent,if_pos hpc,hby,Lq (Mx.ac5 hw1 hd1 _)]
     ·have hcn:c=46:=by
       have:V.int (c.toNat:Int)=V.int 46:=by simpa using hn
       injection this with this
       exact UInt8.toNat_inj.mp (by show c.toNat=46; omega)
      have hpc:¬ p.isCell=true:=fun z=>hcell.mp z hcn
      exact ⟨_,_,pl ++ [p],rfl,sm5,Y9,by rw [hent,if_neg hpc,List.append_nil]; exact hc5⟩
   ·rintro σ H3 ⟨v6,v7,pl,rfl,sm3,hpl,hc3⟩
    rw [Ep,List.take_length] at hpl
    refine ⟨_,_,_,_,ls ++ [pl],rfl,sm3,hnext _ hpl,?_⟩
    rw [List.flatten_append]
    simpa using hc3
  ·rintro σ H' ⟨v4,v5,v6,v7,ls,rfl,sm,hls,hc⟩
   rw [List.length_map,Bd hrs,List.take_length] at hls
   refine ⟨_,rfl,k _ _ sm ?_⟩
   rw [hls]
   exact ⟨dc,rfl,hc⟩
end
open Mx (P3 split Gf Bq Dk isNm Gq J9 Head Gn CG El G7 Ft up Cy Hm Dh afb cellsOf Full PX readM)
theorem YS {hi:Nat}:∀ (w:Bytes) (n m:Nat),Dk hi n w=some m->n <= hi->m <= hi
 | [],n,m,h,hn=>by cases h; exact hn
 | c :: r,n,m,h,hn=>by
  rw [Dk] at h
  split at h
  ·cases h
  ·split at h
   ·cases h
   ·exact YS r _ m h (by omega)
theorem acL {lo hi n:Nat} {w:Bytes} (h:Bq lo hi w=some n):lo <= n/\n <= hi:=by
 cases w with
 | nil=>cases h
 | cons c r =>
  unfold Bq at h
  dsimp only at h
  split at h
  ·cases h
  ·cases e:Dk hi 0 (c :: r) with
   | none=>rw [e] at h; cases h
   | some m =>
    rw [e] at h
    dsimp only at h
    split at h
    ·cases h
    ·cases h
     exact ⟨by omega,YS _ _ _ e (Nat.zero_le _)⟩
structure ajI (hd:Head):Prop where
 w1:1 <= hd.wide
 w2:hd.wide <= 16
 d1:1 <= hd.deep
 d2:hd.deep <= 16
 h1:1 <= hd.high
 h2:hd.high <= 18
 nm:Gf 7 hd.name=true
theorem ahE {r:Bytes} {hd:Head} (h:J9 r=some hd):ajI hd:=by
 obtain ⟨a,n,w,d,h',g,_,_,e1,e2,e3,e4,e5,_⟩:=Mx.Fo h
 have h1:=acL e3
 have h2:=acL e4
 have h3:=acL e5
 exact ⟨h1.1,h1.2,h2.1,h2.2,h3.1,h3.2,by rw [e2]; exact e1⟩
theorem ahQ (xs:List V) (n m:Nat):Kh xs (some ((n + 1:Nat):Int)) (some ((n + 1 + m:Nat):Int))=(xs.drop (n + 1)).take m:=by
 unfold Kh
 rw [HT.Uv,HT.Uv]
 by_cases h:n + 1 <= xs.length
 ·rw [Nat.min_eq_left h]
  by_cases h2:n + 1 + m <= xs.length
  ·rw [Nat.min_eq_left h2]; congr 1; omega
  ·rw [Nat.min_eq_right (by omega)]
   have hl:(xs.drop (n + 1)).length=xs.length - (n + 1):=List.length_drop
   rw [List.take_of_length_le (by omega),List.take_of_length_le (by omega)]
 ·rw [Nat.min_eq_right (by omega),Nat.min_eq_right (by omega)]
  simp
  omega
theorem K5 {α β:Type} {G:α->β->Prop}:∀ {l:List α} {m:List β} (n:Nat),Paired G l m->Paired G (l.drop n) (m.drop n)
 | _,_,0,h=>h
 | _,_,_ + 1,.nil=>.nil
 | _,_,n + 1,.cons _ t=>K5 n t
theorem Ss {α β:Type} {G:α->β->Prop}:∀ {l:List α} {m:List β} (n:Nat),Paired G l m->Paired G (l.take n) (m.take n)
 | _,_,0,_=>.nil
 | _,_,_ + 1,.nil=>.nil
 | _,_,n + 1,.cons h t=>.cons h (Ss n t)
structure Qz (C:Addr) (H:Hp) (a:Addr) (p:Br.Part):Prop where
 at_:Gx C H a (bV p.name) p.wide p.deep p.high (cellsOf p)
 full:Full p
 nm:Gf 7 p.name=true
 d1:p.deep <= 16
 h1:p.high <= 18
theorem Qz.same {C:Addr} {H H':Hp} {a:Addr} {p:Br.Part} (s:Ag H H') (h:Qz C H a p):Qz C H' a p:=⟨h.at_.same s,h.full,h.nm,h.d1,h.h1⟩
section
variable {P:Program} {w:World} {K:PySem.W.Frag} {mg:Str->Option Value} {base:Heap} {Ak Aq Af:Addr}
def akT (C:Addr) (o:Option (Br.Part × List Bytes)) (v:V) (H:Hp):Prop:=match o with
 | none=>v = .non
 | some x=>∃ a,v = .ref a/\Qz C H a x.1
def ZJ (C:Addr):Sp:=fun vs H Q _=>∃ (a:Addr) (rs:List Bytes) (n:Nat),vs=[.ref a,.int (n:Int)]/\W9 H (.ref a) rs/\n < rs.length/\rs.length <= 1000000/\(∀ r ∈ rs,r.length <= 1000000)/\Out H Q (akT C (Hm (rs.drop n)))
theorem Pk:Ar ["rows", "first", "head", "size", "layers", "cells"] ["rows", "first"] (Aj R4):=⟨rfl,rfl,rfl,by decide +kernel,rfl,by decide +kernel,by decide +kernel⟩
theorem abM (T:Txt K mg Ak Aq Af):Cl P w K mg base 4 "read_part" ["rows", "first"] (ZJ Ak):=by
 refine T.abF.ok Pk (fun vs H Q E h=>?_) (fun f cdv A outer s H vs Q E hr h=>?_)
 ·obtain ⟨a,rs,n,rfl,_⟩:=h
  rfl
 ·obtain ⟨a,rs,n,rfl,⟨a',qs,ea,ha,hrs⟩,hn,hrl,hll,k⟩:=h
  cases ea
  have nd:=Pk.nd
  refine ⟨_,(Ac (Av (i:=2) nd rfl (Or.inl rfl) (Bl (abO T) hr rfl (Aa (Ci BJ (pv 0) (pv 1) (fun _ _=>rfl)) (Ad)))) (Ac (Bt (Cj (DP (pv 2))) (Ae (Al BZ)) Az) (Ac (Av (i:=3) nd rfl (Or.inl rfl) (BV acI (Bk (pv 2) rfl) (Bk (pv 2) rfl))) (Ac (Av (i:=4) nd rfl (Or.inl rfl) (KY Us (pv 0) (Mm (BV Gd (pv 1) Am)) (Mm (BV Gd (BV Gd (pv 1) Am) (pv 3))))) (Ac (Bt (Bp YQ (Be Ax (by rfl) T.Dg PySem.boot_len (Aa (pv 4) (Ad))) (pv 3) (Bu _)) (Ae (Al BZ)) Az) (Ac (Av (i:=5) nd rfl (Or.inl rfl) (Bl (aau T) hr rfl (Aa (pv 4) (Aa (Bk (pv 2) rfl) (Aa (Bk (pv 2) rfl) (Ad)))))) (Ac (Bt (Cj (DP (pv 5))) (Ae (Al BZ)) Az) (Ae (Al (YB (adi T) hr rfl (Aa (Bk (pv 2) rfl) (Aa (Bk (pv 2) rfl) (Aa (Bk (pv 2) rfl) (Aa (Bk (pv 2) rfl) (Aa (pv 5) (Ad)))))))))))))))),?_⟩
  obtain ⟨r,hr0⟩:∃ r,rs[n]? = some r:=⟨rs[n],List.getElem?_eq_getElem hn⟩
  obtain ⟨q,hq,hqt⟩:=Dj hrs hr0
  have ed:rs.drop n=r :: rs.drop (n + 1):=by
   have:=(List.getElem?_eq_some_iff.mp hr0)
   rw [List.drop_eq_getElem_cons this.1,this.2]
  have eP:Hm (rs.drop n)=match J9 r with
   | none=>none
   | some h=>match Cy h.wide (h.deep * h.high) (rs.drop (n + 1)) with
    | none=>none
    | some (ls,rs')=>some (⟨h.name,h.wide,h.deep,h.high,h.weight,ls.flatten⟩,rs'):=by rw [ed]; rfl
  rw [eP] at k
  refine ⟨_,rfl,_,rfl,a,_,_,_,rfl,rfl,SqL.of ha,DK hq rfl,q,r,rfl,hqt,hll r (List.mem_of_getElem? hr0),fun v1 H1 s1 hv1=>?_⟩
  cases eh:J9 r with
  | none =>
   rw [eh] at hv1 k
   have hv1:v1 = .non:=hv1
   subst hv1
   refine ⟨_,rfl,_,rfl,Dy (k _ _ s1 rfl)⟩
  | some hd =>
   rw [eh] at hv1 k
   dsimp only at k
   obtain ⟨p,hv1,dx,na,da,hp,hna,hda,_⟩:=hv1
   subst hv1
   have ho:=ahE eh
   have bnd:hd.deep * hd.high <= 16 * 18:=Nat.mul_le_mul ho.d2 ho.h2
   refine ⟨_,rfl,_,rfl,Fg ?_⟩
   refine ⟨_,rfl,p,Ak,dx,_,_,rfl,hp,T.Bj,T.Dr,rfl,_,rfl,p,Ak,dx,_,_,rfl,hp,T.Bj,T.Dv,rfl,_,_,rfl,rfl,.inl ⟨by have:=ho.d2; omega,by have:=ho.d2; omega⟩,?_⟩
   refine ⟨_,rfl,_,rfl,_,_,rfl,rfl,_,rfl,_,rfl,_,_,rfl,rfl,_,rfl,_,_,rfl,rfl,_,rfl,a,_,rfl,SqL.of (s1 _ _ ha),fun l hl=>?_⟩
   have agw:Kh (qs.map V.ref) (some ((n:Int) + 1)) (some ((n:Int) + 1 + (hd.deep:Int) * (hd.high:Int)))=((qs.drop (n + 1)).take (hd.deep * hd.high)).map V.ref:=by
    have e1:(n:Int) + 1=((n + 1:Nat):Int):=by omega
    have e2:(n:Int) + 1 + (hd.deep:Int) * (hd.high:Int)=((n + 1 + hd.deep * hd.high:Nat):Int):=by push_cast; rfl
    rw [e2,e1,ahQ,List.map_take,List.map_drop]
   rw [agw]
   have s2:Ag H1 (upd H1 l (.lst (((qs.drop (n + 1)).take (hd.deep * hd.high)).map V.ref))):=Ag.new hl
   have hl2:upd H1 l (.lst (((qs.drop (n + 1)).take (hd.deep * hd.high)).map V.ref)) l=_:=Ab
   generalize upd H1 l (.lst (((qs.drop (n + 1)).take (hd.deep * hd.high)).map V.ref))=H2 at s2 hl2
   have akm:N6 H2 ((qs.drop (n + 1)).take (hd.deep * hd.high)) ((rs.drop (n + 1)).take (hd.deep * hd.high)):=Et (s1.trans s2) (Ss _ (K5 _ hrs))
   have hlen2:=Bd akm
   refine ⟨_,rfl,l,_,rfl,.inl (SqL.of hl2),_,rfl,_,_,rfl,rfl,_,rfl,?_⟩
   rw [List.length_map,hlen2,List.length_take,List.length_drop]
   rw [Mx.S5,List.length_drop] at k
   have eI:(hd.deep:Int) * (hd.high:Int)=((hd.deep * hd.high:Nat):Int):=by push_cast; rfl
   rw [eI]
   refine BP (fun h0=>?_) (fun h0=>?_)
   ·have:=of_decide_eq_true h0
    rw [if_neg (by omega)] at k
    exact k _ _ (s1.trans s2) rfl
   have:=of_decide_eq_false (Bool.not_eq_true _ ▸ h0)
   rw [if_pos (by omega)] at k
   have hp2:=s2 _ _ hp
   refine ⟨_,rfl,_,rfl,p,Ak,dx,_,_,rfl,hp2,T.Bj,T.Eb,rfl,_,rfl,p,Ak,dx,_,_,rfl,hp2,T.Bj,T.Dr,rfl,
    l,(rs.drop (n + 1)).take (hd.deep * hd.high),hd.wide,hd.deep,rfl,⟨l,_,rfl,hl2,akm⟩,ho.w1,ho.w2,ho.d1,ho.d2,by rw [List.length_take]; omega,fun v3' H3 s3 hv3=>?_⟩
   cases er:CG hd.wide ((rs.drop (n + 1)).take (hd.deep * hd.high)) with
   | none =>
    rw [er] at hv3 k
    have hv3:v3' = .non:=hv3
    subst hv3
    exact ⟨_,rfl,_,rfl,Dy (k _ _ ((s1.trans s2).trans s3) rfl)⟩
   | some ls =>
    rw [er] at hv3 k
    obtain ⟨pd,hv3,hpd⟩:=hv3
    subst hv3
    refine ⟨_,rfl,_,rfl,Fg ?_⟩
    have c3:=s2.trans s3
    have hp3:=c3 _ _ hp
    refine ⟨_,rfl,p,Ak,dx,_,_,rfl,hp3,T.Bj,T.Fy,rfl,?_⟩
    refine ⟨_,rfl,p,Ak,dx,_,_,rfl,hp3,T.Bj,T.Eb,rfl,?_⟩
    refine ⟨_,rfl,p,Ak,dx,_,_,rfl,hp3,T.Bj,T.Dr,rfl,?_⟩
    refine ⟨_,rfl,p,Ak,dx,_,_,rfl,hp3,T.Bj,T.Dv,rfl,?_⟩
    refine ⟨_,rfl,?_⟩
    refine Z4 fun x H4 s4 ⟨dx',hx⟩=>?_
    have hfl:=Mx.Oh er
    rw [List.length_take,List.length_drop,Nat.min_eq_left (by omega)] at hfl
    have abu:Full ⟨hd.name,hd.wide,hd.deep,hd.high,hd.weight,ls.flatten⟩:=by
     unfold Full
     dsimp only
     rw [hfl,Nat.mul_comm,Nat.mul_assoc]
    refine k _ _ (((s1.trans s2).trans s3).trans s4) ⟨x,rfl,?_,abu,ho.nm,ho.d2,ho.h2⟩
    have akM:=Mx.aaq abu
    rw [akM]
    refine ⟨dx',na,pd,hx,s4 _ _ (c3 _ _ hna),s4 _ _ hpd,?_⟩
    have l1:=Mx.Wx hd.wide hd.deep ls.flatten 0
    have l2:hd.deep * hd.high * hd.wide <= 288 * 16:=Nat.mul_le_mul bnd ho.w2
    dsimp only
    omega
abbrev JP (C:Addr) (H:Hp) (qs:List Addr) (ps:List Br.Part):Prop:=Paired (fun q p=>Qz C H q p) qs ps
def aaD (C:Addr) (H:Hp) (v:V) (ps:List Br.Part):Prop:=∃ l qs,v = .ref l/\H l=some (.lst (qs.map V.ref))/\JP C H qs ps
theorem Hl {C:Addr} {H H':Hp} (s:Ag H H'):∀ {qs:List Addr} {ps:List Br.Part},JP C H qs ps->JP C H' qs ps
 | _,_,.nil=>.nil
 | _,_,.cons h t=>.cons (h.same s) (Hl s t)
theorem Qz.upd {C:Addr} {H:Hp} {a l:Addr} {p:Br.Part} {xs ys:List V} (hl:H l=some (.lst xs)) (h:Qz C H a p):Qz C (upd H l (.lst ys)) a p:=by
 obtain ⟨⟨dx,na,da,h1,h2,h3,h4⟩,f,n,d1,d2⟩:=h
 exact ⟨⟨dx,na,da,by rw [Ah (Gg h1 hl (by intro z; cases z))]; exact h1,by rw [Ah (Gg h2 hl (by intro z; cases z))]; exact h2,by rw [Ah (Gg h3 hl (by intro z; cases z))]; exact h3,h4⟩,f,n,d1,d2⟩
theorem YD {C:Addr} {H:Hp} {l:Addr} {xs ys:List V} (hl:H l=some (.lst xs)):∀ {qs:List Addr} {ps:List Br.Part},JP C H qs ps->JP C (upd H l (.lst ys)) qs ps
 | _,_,.nil=>.nil
 | _,_,.cons h t=>.cons (h.upd hl) (YD hl t)
def akX (C:Addr) (o:Option (List Br.Part)) (v:V) (H:Hp):Prop:=match o with
 | none=>v = .non
 | some ps=>aaD C H v ps
def Pg (K:PySem.W.Frag) (C:Addr):Sp:=fun vs H Q _=>∃ (a:Addr) (t:Bytes),vs=[.ref a]/\SqL K H a (bV t)/\t.length <= 1000000/\Out H Q (akX C (readM PX t))
theorem HB:Ar ["text", "rows", "parts", "first", "part"] ["text"] (Aj Jb):=⟨rfl,rfl,rfl,by decide +kernel,rfl,by decide +kernel,by decide +kernel⟩
theorem Ku {d:UInt8}:∀ t:Bytes,(split d t).length <= t.length + 1
 | []=>by simp [split]
 | c :: r=>by
  have:=Ku (d:=d) r
  rw [split]
  by_cases e:c=d
  ·rw [if_pos e]; simp; omega
  ·rw [if_neg e]
   cases e2:split d r with
   | nil=>simp
   | cons q qs=>rw [e2] at this; simp at this ⊢; omega
theorem RL (T:Txt K mg Ak Aq Af):Cl P w K mg base 5 "read_catalogue" ["text"] (Pg K Ak):=by
 refine T.Ry.ok HB (fun vs H Q E h=>?_) (fun f cdv A outer s H vs Q E hr h=>?_)
 ·obtain ⟨a,t,rfl,_⟩:=h
  rfl
 ·obtain ⟨a,t,rfl,hS,hlen,k⟩:=h
  have nd:=HB.nd
  refine ⟨_,(Ac (Av (i:=1) nd rfl (Or.inl rfl) (Bl (Ze T) hr rfl (Aa (pv 0) (Ad)))) (Ac (Bt (Cj (DP (pv 1))) (Ae (Al BZ)) Az) (Ac (Av (i:=2) nd rfl (Or.inl rfl) (DN Ad)) (Ac (Av (i:=3) nd rfl (Or.inl rfl) Am) (Ac (PQ PassesOwn.never (Bp YQ (pv 3) (Be Ax (by rfl) T.Dg PySem.boot_len (Aa (pv 1) (Ad))) (Bu _))
    (Ac (Av (i:=4) nd rfl (Or.inl rfl) (Bl (abM T) hr rfl (Aa (pv 1) (Aa (pv 3) (Ad))))) (Ac (Bt (PW.pt (GK (Cj (DP (pv 4))) (Ie (Bp La (Be Ax (by rfl) T.Dg PySem.boot_len (Aa (pv 2) (Ad))) (Df T.ZC rfl) (Bu _))))) (Ae (Al BZ)) Az) (Ac (Gy (KZ PySem.F.plainAttrs_list PySem.F.slot_list_append PySem.F.type_list_append Fx (pv 2) (Aa (pv 4) (Ad)))) (Ae (Av (i:=3) nd rfl (Or.inl rfl) (BV Gd (BV Gd (pv 3) Am) (BV acI (Bk (pv 4) rfl) (Bk (pv 4) rfl))))))))) (Ac (Bt (Bp La (Be Ax (by rfl) T.Dg PySem.boot_len (Aa (pv 2) (Ad))) Am (Bu _)) (Ae (Al BZ)) Az) (Ae (Al (pv 2))))))))),?_⟩
  refine ⟨_,rfl,a,t,rfl,hS,hlen,fun v1 H1 s1 ⟨rs,tl,et,hv1⟩=>?_⟩
  obtain ⟨e1,e2⟩:=Mx.Ny et
  have eR:readM PX t=if tl=[] then afb rs else none:=by rw [e1]; exact Mx.ahT e2
  rw [eR] at k
  have akE:rs.length <= 1000000:=by
   have:=Ku (d:=10) t
   rw [et,List.length_append,List.length_singleton] at this
   omega
  have hll:∀ r ∈ rs,r.length <= 1000000:=fun r hr'=>by
   have:=Mx.split_len (d:=10) (t:=t) (p:=r) (by rw [et]; exact List.mem_append_left _ hr')
   omega
  by_cases htl:tl=[]
  case neg =>
   rw [if_neg htl] at hv1 k
   subst hv1
   exact ⟨_,rfl,_,rfl,Dy (k _ _ s1 rfl)⟩
  rw [if_pos htl] at hv1 k
  obtain ⟨p,qs,ev,hp,hq⟩:=hv1
  subst ev
  have hql:=Bd hq
  refine ⟨_,rfl,_,rfl,Fg ?_⟩
  refine ⟨Nat.zero_le _,fun lp hlp=>?_⟩
  have s2:Ag H1 (upd H1 lp (.lst [])):=Ag.new hlp
  have aku:upd H1 lp (.lst []) lp=some (.lst (([]:List Addr).map V.ref)):=Ab
  generalize upd H1 lp (.lst [])=H2 at s2 aku
  have nlp:H lp=none:=s1.free hlp
  refine ⟨fun m σ H'=>∃ (v4:Option V) (n:Nat) (qp:List Addr) (ps:List Br.Part),σ=[some (.ref a),some (.ref p),some (.ref lp),some (.int (n:Int)),v4]/\Ag H1 H'/\H' lp=some (.lst (qp.map V.ref))/\JP Ak H' qp ps/\ps.length <= 64 /\
    Dh 64 rs=(Dh (64 - ps.length) (rs.drop n)).map (ps ++ ·)/\(ps=[]->n=0)/\m=rs.length - n,
   ⟨_,none,0,[],[],rfl,s2,aku,.nil,by decide,by show Dh 64 rs=(Dh 64 rs).map _; cases Dh 64 rs <;> rfl,fun _=>rfl,rfl⟩,?_⟩
  rintro m σ H' ⟨v4,n,qp,ps,rfl,sm,hl',hps,h64,hM,h0n,rfl⟩
  have hpl:=Bd hps
  refine ⟨_,rfl,_,rfl,p,_,rfl,.inl (SqL.of (sm _ _ hp)),_,_,rfl,rfl,_,rfl,?_⟩
  rw [List.length_map,hql]
  refine BP (fun h0=>?_) (fun h0=>?_)
  ·have hn:n < rs.length:=by have:=of_decide_eq_true h0; omega
   refine ⟨fun σ' H''=>∃ (v4:Option V) (n':Nat) (qp:List Addr) (ps:List Br.Part),σ'=[some (.ref a),some (.ref p),some (.ref lp),some (.int (n':Int)),v4]/\Ag H1 H''/\H'' lp=some (.lst (qp.map V.ref))/\JP Ak H'' qp ps/\ps.length <= 64 /\
    Dh 64 rs=(Dh (64 - ps.length) (rs.drop n')).map (ps ++ ·)/\(ps=[]->n'=0)/\rs.length - n' < rs.length - n,
    fun σ' H'' ⟨v4,n',qp,ps,a1,a2,a3,a4,a5,a6,a7,a8⟩=>⟨_,a8,v4,n',qp,ps,a1,a2,a3,a4,a5,a6,a7,rfl⟩,?_⟩
   obtain ⟨r,hr0⟩:∃ r,rs[n]? = some r:=⟨rs[n],List.getElem?_eq_getElem hn⟩
   have ed:rs.drop n=r :: rs.drop (n + 1):=by
    have:=(List.getElem?_eq_some_iff.mp hr0)
    rw [List.drop_eq_getElem_cons this.1,this.2]
   have akH:afb rs=Dh 64 rs:=by
    cases rs with
    | nil=>cases hr0
    | cons r' rs'=>rfl
   refine ⟨_,rfl,_,rfl,p,rs,n,rfl,⟨p,qs,rfl,sm _ _ hp,Et sm hq⟩,hn,akE,hll,fun v5 H5 s5 hv5=>?_⟩
   refine ⟨_,rfl,_,rfl,?_⟩
   cases eP:Hm (rs.drop n) with
   | none =>
    rw [eP] at hv5
    have hv5:v5 = .non:=hv5
    subst hv5
    refine Dy (Dy (k _ _ ((s1.trans sm).trans s5) ?_))
    rw [akH,hM,ed]
    rw [ed] at eP
    cases e64:64 - ps.length with
    | zero=>rfl
    | succ j=>rw [Dh,eP]; rfl
   | some x =>
    rw [eP] at hv5
    obtain ⟨b,hv5,hb⟩:=hv5
    subst hv5
    obtain ⟨p1,rest⟩:=x
    obtain ⟨er1,er2⟩:=Mx.YG eP
    dsimp only at hb er1 er2
    have hl5:=s5 _ _ hl'
    refine Fg ⟨_,rfl,lp,_,rfl,.inl (SqL.of hl5),rfl,_,rfl,?_⟩
    rw [List.length_map,hpl]
    refine BP (fun h6=>?_) (fun h6=>?_)
    ·refine k _ _ ((s1.trans sm).trans s5) ?_
     have:ps.length=64:=by
      have:=of_decide_eq_true h6
      injection this with this
      omega
     rw [akH,hM,this,ed]
     rfl
    have hlt:ps.length < 64:=by
     have:¬ V.int (ps.length:Int)=V.int 64:=by simpa using h6
     have:¬ ps.length=64:=fun z=>this (by rw [z]; rfl)
     omega
    refine ⟨_,rfl,.inl ⟨rfl,_,SqL.of hl5⟩,_,rfl,lp,_,_,rfl,rfl,hl5,(by rw [List.length_map]; exact Bx (by omega)),?_⟩
    have hb6:=hb.upd (ys:=qp.map V.ref ++ [.ref b]) hl5
    have akq:=YD (ys:=qp.map V.ref ++ [.ref b]) hl5 (Hl s5 hps)
    have hl6:upd H5 lp (.lst (qp.map V.ref ++ [.ref b])) lp=some (.lst ((qp ++ [b]).map V.ref)):=by rw [Ab,List.map_append]; rfl
    have sm6:Ag H1 (upd H5 lp (.lst (qp.map V.ref ++ [.ref b]))):=Ag.Ef hlp (sm.trans s5)
    generalize upd H5 lp (.lst (qp.map V.ref ++ [.ref b]))=H6 at hb6 akq hl6 sm6
    obtain ⟨dx,na,da,hb7,_⟩:=hb6.at_
    refine ⟨_,rfl,_,_,rfl,rfl,_,rfl,b,Ak,dx,_,_,rfl,hb7,T.Bj,T.Dr,rfl,_,rfl,b,Ak,dx,_,_,rfl,hb7,T.Bj,T.Dv,rfl,_,_,rfl,rfl,.inl ⟨by have:=hb.d1; omega,by have:=hb.d1; omega⟩,_,_,rfl,rfl,?_⟩
    have en:(n:Int) + 1 + (p1.deep:Int) * (p1.high:Int)=((n + 1 + p1.deep * p1.high:Nat):Int):=by push_cast; rfl
    refine ⟨_,n + 1 + p1.deep * p1.high,qp ++ [b],ps ++ [p1],by rw [<- en]; rfl,sm6,hl6,Dt akq (.cons hb6 .nil),by simp; omega,?_,fun z=>by simp at z,by omega⟩
    rw [hM,ed]
    rw [ed] at eP
    have e64:64 - ps.length=(64 - (ps ++ [p1]).length) + 1:=by simp; omega
    rw [e64,Dh,eP]
    dsimp only
    rw [er1,List.drop_drop]
    rw [show n + (1 + p1.deep * p1.high)=n + 1 + p1.deep * p1.high by omega]
    cases Dh (64 - (ps ++ [p1]).length) (rs.drop (n + 1 + p1.deep * p1.high)) with
    | none=>rfl
    | some l=>simp
  ·have hn:rs.length <= n:=by have:=of_decide_eq_false (Bool.not_eq_true _ ▸ h0); omega
   rw [List.drop_of_length_le hn] at hM
   have hM':Dh 64 rs=some ps:=by
    rw [hM]
    cases 64 - ps.length <;> simp [Dh]
   refine ⟨_,rfl,lp,_,rfl,.inl (SqL.of hl'),rfl,_,rfl,?_⟩
   rw [List.length_map,hpl]
   refine BP (fun h5=>?_) (fun h5=>?_)
   ·refine k _ _ (s1.trans sm) ?_
    have e5:ps=[]:=List.length_eq_zero_iff.mp (by have:=of_decide_eq_true h5; injection this with this; omega)
    have:rs=[]:=List.length_eq_zero_iff.mp (by have:=h0n e5; omega)
    rw [this]; rfl
   ·refine ⟨_,rfl,k _ _ (s1.trans sm) ?_⟩
    have:afb rs=some ps:=by
     cases rs with
     | nil =>
      exfalso
      cases hM'
      exact h5 rfl
     | cons r' rs'=>exact hM'
    rw [this]
    exact ⟨lp,qp,rfl,hl',hps⟩
end
open Mx (P3 split Gf Bq cellsOf Full Ck DW namesOf Im LC)
open Br (Bytes isLow isDigit before)
theorem ahW (t:Bytes):bV t=(t.map fun c=>(c.toNat:Int)).map V.int:=by unfold bV; rw [List.map_map]; rfl
theorem Wh:∀ a b:Bytes,HT.lexLt (a.map fun c=>(c.toNat:Int)) (b.map fun c=>(c.toNat:Int))=before a b
 | [],[]=>rfl
 | [],_ :: _=>rfl
 | _ :: _,[]=>rfl
 | x :: a,y :: b=>by
  rw [List.map_cons,List.map_cons,HT.Wk,Wh a b,before]
  by_cases e:x=y
  ·subst e
   simp
  ·have e1:¬ (x.toNat:Int)=(y.toNat:Int):=fun z=>e (UInt8.toNat_inj.mp (by omega))
   have e2:(x == y)=false:=by simpa using e
   rw [if_neg e1,e2,Bool.false_and,Bool.or_false,decide_eq_decide]
   omega
theorem KH:∀ ns:List Bytes,(∀ (j:Nat) a b,ns[j]? = some a->ns[j + 1]? = some b->before a b=true)->DW ns=true
 | [],_=>rfl
 | [_],_=>rfl
 | a :: b :: r,h=>by
  rw [DW,h 0 a b rfl rfl,Bool.true_and]
  exact KH (b :: r) fun j x y hx hy=>h (j + 1) x y (by simpa using hx) (by simpa using hy)
theorem aa1:∀ (ns:List Bytes) (j:Nat) (a b:Bytes),ns[j]? = some a->ns[j + 1]? = some b->before a b=false->DW ns=false
 | [],j,a,b,h,_,_=>by simp at h
 | [_],j,a,b,_,h,_=>by simp at h
 | x :: y :: r,0,a,b,h1,h2,h=>by
  cases h1
  cases h2
  rw [DW,h,Bool.false_and]
 | x :: y :: r,j + 1,a,b,h1,h2,h=>by
  rw [DW,aa1 (y :: r) j a b (by simpa using h1) (by simpa using h2) h,Bool.and_false]
section
variable {P:Program} {w:World} {K:PySem.W.Frag} {mg:Str->Option Value} {base:Heap} {Ak Aq Af:Addr}
def Xq (C:Addr):Sp:=fun vs H Q _=>∃ (a:Addr) (ps:List Br.Part),vs=[.ref a]/\aaD C H (.ref a) ps/\ps.length <= 1000000/\Out H Q (fun v _=>v = .bl (DW (namesOf ps)))
theorem Nm:Ar ["parts", "number"] ["parts"] (Aj PB):=⟨rfl,rfl,rfl,by decide +kernel,rfl,by decide +kernel,by decide +kernel⟩
theorem aaw (T:Txt K mg Ak Aq Af):Cl P w K mg base 1 "names_rise" ["parts"] (Xq Ak):=by
 refine T.aah.ok Nm (fun vs H Q E h=>?_) (fun f cdv A outer s H vs Q E hr h=>?_)
 ·obtain ⟨a,ps,rfl,_⟩:=h
  rfl
 ·obtain ⟨a,ps,rfl,⟨a',qs,ea,ha,hps⟩,hlen,k⟩:=h
  cases ea
  have nd:=Nm.nd
  have hpl:=Bd hps
  refine ⟨_,(Ac (Cr PassesOwn.never rfl (aeA rfl T.MN (Aa (Am) (Aa (Be Ax (by rfl) T.Dg PySem.boot_len (Aa (pv 0) (Ad))) (Ad)))) (Bb (i:=1) nd rfl (Or.inl rfl))
    (Ae (Bt (Hk (Bp (aiO hr.aio) (Bk (Ci BJ (pv 0) (BV K9 (pv 1) Am) (fun _ _=>rfl)) rfl) (Bk (Ci BJ (pv 0) (pv 1) (fun _ _=>rfl)) rfl) (Bu _))) (Ae (Al FT)) Az))) (Ae (Al FT))),?_⟩
  refine ⟨_,rfl,a,_,rfl,.inl (SqL.of ha),_,_,rfl,⟨by decide,by decide,by rw [List.length_map]; omega,by rw [List.length_map]; omega⟩,?_⟩
  rw [List.length_map,hpl]
  refine Jm (fun i σ H'=>∃ v1:Option V,σ=[some (.ref a),v1]/\Ag H H'/\∀ (j:Nat) x y,j < i->(namesOf ps)[j]? = some x->(namesOf ps)[j + 1]? = some y->before x y=true)
   ⟨none,rfl,Ag.refl _,fun j x y hj=>absurd hj (Nat.not_lt_zero _)⟩ ?_ ?_
  ·rintro i σ H' hi ⟨v1,rfl,sm,hb⟩
   have hi':i + 1 < ps.length:=by omega
   obtain ⟨q0,hq0⟩:∃ q,qs[i]? = some q:=⟨qs[i],List.getElem?_eq_getElem (by omega)⟩
   obtain ⟨q1,hq1⟩:∃ q,qs[i + 1]? = some q:=⟨qs[i + 1],List.getElem?_eq_getElem (by omega)⟩
   obtain ⟨p0,hp0,c0⟩:=BW hps hq0
   obtain ⟨p1,hp1,c1⟩:=BW hps hq1
   obtain ⟨dx0,na0,da0,h0,n0,_⟩:=(c0.same sm).at_
   obtain ⟨dx1,na1,da1,h1,n1,_⟩:=(c1.same sm).at_
   rw [ahW] at n0 n1
   have e0:(namesOf ps)[i]? = some p0.name:=by unfold Mx.namesOf; rw [List.getElem?_map,hp0]; rfl
   have e1:(namesOf ps)[i + 1]? = some p1.name:=by unfold Mx.namesOf; rw [List.getElem?_map,hp1]; rfl
   refine ⟨_,rfl,_,rfl,_,_,rfl,rfl,a,_,_,_,rfl,rfl,SqL.of (sm _ _ ha),DK hq0 (by omega),q0,Ak,dx0,_,_,rfl,h0,T.Bj,T.Fy,rfl,?_⟩
   refine ⟨_,rfl,_,rfl,a,_,_,_,rfl,rfl,SqL.of (sm _ _ ha),DK hq1 (by omega),q1,Ak,dx1,_,_,rfl,h1,T.Bj,T.Fy,rfl,?_⟩
   refine ⟨na0,na1,_,_,rfl,rfl,SqT.of n0,SqT.of n1,_,rfl,?_⟩
   rw [Wh]
   refine BP (fun hlt=>?_) (fun hlt=>?_)
   ·refine k _ _ sm (congrArg V.bl ?_)
    rw [Bool.not_eq_true'] at hlt
    exact (aa1 _ i _ _ e0 e1 hlt).symm
   ·refine ⟨_,rfl,sm,fun j x y hj hx hy=>?_⟩
    by_cases e:j=i
    ·subst e
     rw [e0] at hx
     rw [e1] at hy
     cases hx
     cases hy
     simpa using hlt
    ·exact hb j x y (by omega) hx hy
  ·rintro σ H' ⟨v1,rfl,sm,hb⟩
   refine k _ _ sm (congrArg V.bl (KH _ fun j x y hx hy=>hb j x y ?_ hx hy).symm)
   have:=(List.getElem?_eq_some_iff.mp hy).1
   unfold Mx.namesOf at this
   rw [List.length_map] at this
   omega
def Kg (C:Addr):Sp:=fun vs H Q _=>∃ (a:Addr) (ps:List Br.Part),vs=[.ref a]/\aaD C H (.ref a) ps/\ps.length <= 1000000/\Out H Q (fun v _=>v = .bl (ps.all Ck && DW (namesOf ps)))
theorem Gm:Ar ["parts", "part"] ["parts"] (Aj Ek):=⟨rfl,rfl,rfl,by decide +kernel,rfl,by decide +kernel,by decide +kernel⟩
theorem Lw (T:Txt K mg Ak Aq Af):Cl P w K mg base 5 "is_right_catalogue" ["parts"] (Kg Ak):=by
 refine T.Lk.ok Gm (fun vs H Q E h=>?_) (fun f cdv A outer s H vs Q E hr h=>?_)
 ·obtain ⟨a,ps,rfl,_⟩:=h
  rfl
 ·obtain ⟨a,ps,rfl,⟨a',qs,ea,ha,hps⟩,hlen,k⟩:=h
  cases ea
  have nd:=Gm.nd
  have hpl:=Bd hps
  refine ⟨_,(Ae (Al (JD (Be (agC rfl) (by rfl) T.aih Zj (Aa (YC rfl nd (Gz (pv 0)) (Gi (own:=[("part",1)]) (show WY ["parts", "part"] (Aj Ek) _ [("part",1)] = true from by decide +kernel))
    (fun _ _ _ _ _=>Bb (i:=1) nd rfl (Or.inl rfl)) (fun _ _ _ _ _=>JB) (fun _ _ _ _ _=>Bl (Uj T) hr rfl (Aa (pv 1) (Ad)))) (Ad))) (Ri (Bl (aaw T) hr rfl (Aa (pv 0) (Ad))))))),?_⟩
  refine ⟨_,rfl,a,rfl,⟨_,SqL.of ha⟩,fun D hD=>?_⟩
  refine Z8 (K:=K) (a:=a) (xs:=qs.map V.ref) (fun j H2=>Ag H H2/\H2 D=some (.lst ((ps.take j).map fun p=>.bl (Ck p)))) ⟨Ag.new hD,Ab⟩
   (fun j H2 _ p=>SqL.of (p.1 _ _ ha)) ?_ ?_
  ·rintro j x H2 hj ⟨p1,p2⟩
   obtain ⟨q,hq,rfl⟩:∃ q,qs[j]? = some q/\x = .ref q:=by
    rw [List.getElem?_map] at hj
    cases e:qs[j]? with
    | none=>rw [e] at hj; cases hj
    | some q=>rw [e] at hj; exact ⟨q,rfl,(Option.some.inj hj).symm⟩
   obtain ⟨p,hp,c⟩:=BW hps hq
   have hjl:j < ps.length:=(List.getElem?_eq_some_iff.mp hp).1
   refine ⟨rfl,Oo ?_⟩
   refine ⟨_,rfl,q,_,p,rfl,(c.same p1).at_,c.full,fun v H3 s3 ev=>?_⟩
   subst ev
   refine ⟨_,s3 _ _ p2,?_,Ag.Ef hD (p1.trans s3),?_⟩
   ·rw [List.length_map,List.length_take]; exact Bx (by omega)
   ·rw [Ab,List.take_succ,hp,List.map_append]; rfl
  ·rintro H2 ⟨p1,p2⟩
   rw [List.length_map,hpl,List.take_length] at p2
   refine ⟨D,ps.map Ck,rfl,SqL.of (by rw [p2,List.map_map]; rfl),_,rfl,?_⟩
   have e:(ps.map Ck).all id=ps.all Ck:=by rw [List.all_map]; rfl
   rw [e]
   refine BP (fun h1=>?_) (fun h1=>?_)
   ·refine ⟨_,rfl,a,ps,rfl,⟨a,qs,rfl,p1 _ _ ha,Hl p1 hps⟩,hlen,fun v H3 s3 ev=>k _ _ (p1.trans s3) ?_⟩
    rw [ev,h1]; rfl
   ·refine k _ _ p1 ?_
    rw [Bool.not_eq_true] at h1
    rw [h1]; rfl
def VL (p x y z t:V):List (Str × V):=[("part",p),("x",x),("y",y),("z",z),("turns",t)]
def ady (C:Addr):Sp:=fun vs H Q _=>∃ (p dx:Addr) (n w d h c:V),vs=[.ref p,n,w,d,h,c]/\H p=some (.ins C dx []) /\
 ∀ H':Hp,H' p=some (.ins C dx (VL n w d h c))->(∀ b o,H b=some o->b ≠ p->H' b=some o)->Q .non H'
theorem ag9:Ar ["self", "part", "x", "y", "z", "turns"] ["self", "part", "x", "y", "z", "turns"] (Aj afI):=⟨rfl,rfl,rfl,by decide +kernel,rfl,by decide +kernel,by decide +kernel⟩
theorem ajA (T:Txt K mg Ak Aq Af):ClC P w K mg base 1 "Line" Aq ["self", "part", "x", "y", "z", "turns"] (ady Aq):=by
 refine T.ajx.ok ag9 (fun vs H Q E h=>?_) (fun f cdv A outer s H vs Q E hr h=>?_)
 ·obtain ⟨p,dx,n,w,d,h,c,rfl,_⟩:=h
  rfl
 ·obtain ⟨p,dx,n,w,d,h,c,rfl,hp,k⟩:=h
  refine ⟨_,(Ac (Gs (pv 0) (pv 1) rfl) (Ac (Gs (pv 0) (pv 2) rfl) (Ac (Gs (pv 0) (pv 3) rfl) (Ac (Gs (pv 0) (pv 4) rfl) (Ae (Gs (pv 0) (pv 5) rfl)))))),?_⟩
  refine ⟨_,rfl,_,rfl,p,Aq,dx,_,rfl,hp,T.Ey,T.Tz,(by show 0 < 1000; decide),?_⟩
  refine ⟨_,rfl,_,rfl,p,Aq,dx,_,rfl,Ab,T.Ey,T.W7,(by show 1 < 1000; decide),?_⟩
  refine ⟨_,rfl,_,rfl,p,Aq,dx,_,rfl,Ab,T.Ey,T.W6,(by show 2 < 1000; decide),?_⟩
  refine ⟨_,rfl,_,rfl,p,Aq,dx,_,rfl,Ab,T.Ey,T.W5,(by show 3 < 1000; decide),?_⟩
  refine ⟨_,rfl,_,rfl,p,Aq,dx,_,rfl,Ab,T.Ey,T.Qx,(by show 4 < 1000; decide),?_⟩
  refine k _ (Eq.trans Ab rfl) fun b o e hb=>?_
  rw [Ah hb,Ah hb,Ah hb,Ah hb,Ah hb]
  exact e
theorem ahu {H1:Hp} {Q:VK} {n w d h c:V} (k:∀ x H',Ag H1 H'->(∃ dx,H' x=some (.ins Aq dx (VL n w d h c)))->Q (.ref x) H') :
  ∀ x dx,H1 x=none->H1 dx=none->dx ≠ x->ady Aq (.ref x :: ([n,w,d,h,c] ++ [])) (upd (upd H1 dx (.own x)) x (.ins Aq dx [])) (fun v H2=>v = .non/\Q (.ref x) H2) E0:=fun x dx nx nd ne =>
 ⟨x,dx,n,w,d,h,c,rfl,Ab,fun H' hx kp=>⟨rfl,k x H' (Ag.made nx nd kp) ⟨dx,hx⟩⟩⟩
def QZ (K:PySem.W.Frag):Sp:=fun vs H Q _=>∃ (a:Addr) (r:Bytes),vs=[.ref a]/\H a=some (.tup (bV r))/\r.length <= 1000000/\Out H Q (fun v _=>v = .bl (Im r).isSome)
theorem IK:Ar ["row", "words"] ["row"] (Aj J4):=⟨rfl,rfl,rfl,by decide +kernel,rfl,by decide +kernel,by decide +kernel⟩
theorem afj {ws:List Bytes} (h:ws.length ≠ 2):LC ws=none:=by
 match ws,h with
 | [],_=>rfl
 | [_],_=>rfl
 | [_,_],h=>exact absurd rfl h
 | _ :: _ :: _ :: _,_=>rfl
theorem Um (T:Txt K mg Ak Aq Af):Cl P w K mg base 3 "is_build_head" ["row"] (QZ K):=by
 refine T.Uc.ok IK (fun vs H Q E h=>?_) (fun f cdv A outer s H vs Q E hr h=>?_)
 ·obtain ⟨a,r,rfl,_⟩:=h
  rfl
 ·obtain ⟨a,r,rfl,ha,hlen,k⟩:=h
  have nd:=IK.nd
  refine ⟨_,(Ac (Av (i:=1) nd rfl (Or.inl rfl) (Bl (Ov T) hr rfl (Aa (pv 0) (Ad)))) (Ae (Al (JD (FQ La (Be Ax (by rfl) T.Dg PySem.boot_len (Aa (pv 1) (Ad))) Am (Bu _)) (JD (FQ (aiP hr.units) (Ci BJ (pv 1) Am (fun _ _=>rfl)) (Bl (Hr T) hr rfl (Aa (Z1) (Ad))) (Bu _))
    (Ri (Bl (Zg T) hr rfl (Aa (Ci BJ (pv 1) Am (fun _ _=>rfl)) (Aa (Df T.Ko rfl) (Ad)))))))))),?_⟩
  refine ⟨_,rfl,a,r,rfl,ha,hlen,fun v H1 s1 ⟨p,qs,ev,hp,hq⟩=>?_⟩
  subst ev
  have hfree:∀ x ∈ split 32 r,x.length <= 1000000:=fun x hx=>Nat.le_trans (Mx.split_len hx) hlen
  have eM:Im r=LC (split 32 r):=rfl
  rw [eM] at k
  generalize split 32 r=ws at hq k hfree
  have hql:=Bd hq
  refine ⟨_,rfl,p,_,rfl,.inl (SqL.of hp),rfl,_,rfl,?_⟩
  rw [List.length_map,hql]
  refine BP (fun h0=>?_) (fun h0=>?_)
  case refine_2 =>
   refine k _ _ s1 ?_
   rw [afj (fun z=>h0 (by rw [z]; rfl))]
   rfl
  have h2:ws.length=2:=by
   have:=of_decide_eq_true h0
   injection this with this
   omega
  obtain ⟨b,n,rfl⟩:∃ b n,ws=[b,n]:=by
   match ws,h2 with
   | [b,n],_=>exact ⟨b,n,rfl⟩
  obtain ⟨q0,e0,t0⟩:=Dj hq (i:=0) rfl
  obtain ⟨q1,e1,t1⟩:=Dj hq (i:=1) rfl
  refine ⟨_,rfl,p,_,_,_,rfl,rfl,SqL.of hp,DK e0 rfl,Str.ofString "build",rfl,by decide,fun v H2 s2 ⟨pb,ev,hpb⟩=>?_⟩
  subst ev
  rw [aeI] at hpb
  refine eq_bytes (s2 _ _ t0) hpb ⟨_,rfl,?_⟩
  have eW:LC [b,n] = if b=Br.ascii "build" then (if Gf 15 n=true then some n else none) else none:=rfl
  rw [eW] at k
  refine BP (fun hb=>?_) (fun hb=>?_)
  ·have hb':=of_decide_eq_true hb
   rw [if_pos hb'] at k
   refine ⟨_,rfl,p,_,_,_,rfl,rfl,SqL.of (s2 _ _ hp),DK e1 rfl,q1,n,15,rfl,s2 _ _ t1,hfree n (by simp),fun v H3 s3 ev=>k _ _ ((s1.trans s2).trans s3) ?_⟩
   rw [ev]
   cases Gf 15 n <;> rfl
  ·have hb':¬ b=Br.ascii "build" := fun z=>hb (decide_eq_true z)
   rw [if_neg hb'] at k
   exact k _ _ (s1.trans s2) rfl
end
open Mx (P3 split Gf Bq cellsOf Full Ck DW Im LC Lf Hn Gw GX Z5 WT Em readM)
def kB (t:Bytes):List Key:=t.map fun c=>.inl (c.toNat:Int)
theorem akd (t:Bytes):(kB t).map kV=bV t:=by unfold kB bV; rw [List.map_map]; rfl
theorem acX:∀ {a b:Bytes},kB a=kB b->a=b
 | [],[],_=>rfl
 | [],_ :: _,h=>by cases h
 | _ :: _,[],h=>by cases h
 | x :: a,y :: b,h=>by
  unfold kB at h
  rw [List.map_cons,List.map_cons] at h
  have h1:=(List.cons.inj h).1
  have h2:kB a=kB b:=(List.cons.inj h).2
  have e:x=y:=UInt8.toNat_inj.mp (by injection h1 with h1; omega)
  rw [e,acX h2]
def Ff:List Addr->List Br.Part->List (List Key × V)
 | q :: qs,p :: ps=>(kB p.name,.ref q) :: Ff qs ps
 | _,_=>[]
theorem YX:∀ {qs:List Addr} {ps:List Br.Part} {q:Addr} {p:Br.Part},qs.length=ps.length->Ff (qs ++ [q]) (ps ++ [p])=Ff qs ps ++ [(kB p.name,.ref q)]
 | [],[],_,_,_=>rfl
 | [],_ :: _,_,_,h=>by simp at h
 | _ :: _,[],_,_,h=>by simp at h
 | a :: qs,b :: ps,q,p,h=>by
  rw [List.cons_append,List.cons_append,Ff,Ff,YX (by simpa using h)]
  rfl
theorem YW:∀ {qs:List Addr} {ps:List Br.Part},(Ff qs ps).length <= ps.length
 | [],ps=>by cases ps <;> simp [Ff]
 | _ :: _,[]=>by simp [Ff]
 | a :: qs,b :: ps=>by
  rw [Ff,List.length_cons,List.length_cons]
  have:=YW (qs:=qs) (ps:=ps)
  omega
theorem YT:∀ {qs:List Addr} {ps:List Br.Part} (w:Bytes),qs.length=ps.length->Er (Ff qs ps) (kB w)=(Gw (Mx.namesOf ps) w).bind fun i=>(qs[i]?).map V.ref
 | [],[],w,_=>rfl
 | [],_ :: _,_,h=>by simp at h
 | _ :: _,[],_,h=>by simp at h
 | q :: qs,p :: ps,w,h=>by
  have ih:=YT (qs:=qs) (ps:=ps) w (by simpa using h)
  rw [Ff]
  unfold Gw Mx.namesOf at ih ⊢
  rw [List.map_cons,List.findIdx?_cons]
  by_cases e:p.name=w
  ·rw [CW (by rw [e]),e]
   simp
  ·have e':(p.name == w)=false:=by simpa using e
   rw [CZ (fun z=>e (acX z)),ih,e']
   cases List.findIdx? (fun n=>n == w) (ps.map fun p=>p.name) with
   | none=>rfl
   | some i=>simp
theorem V5:∀ {qs:List Addr} {ps:List Br.Part} {w:Bytes},kB w ∈ (Ff qs ps).map (·.1)->w ∈ Mx.namesOf ps
 | [],ps,w,h=>by cases ps <;> simp [Ff] at h
 | _ :: _,[],w,h=>by simp [Ff] at h
 | q :: qs,p :: ps,w,h=>by
  rw [Ff,List.map_cons] at h
  unfold Mx.namesOf
  rw [List.map_cons]
  rcases List.mem_cons.mp h with h | h
  ·rw [acX h]; exact List.mem_cons_self ..
  ·exact List.mem_cons_of_mem _ (V5 h)
theorem ad8 {kvs:List (List Key × V)} {k:List Key} (h:k ∉ kvs.map (·.1)):Er kvs k=none:=by
 cases e:Er kvs k with
 | none=>rfl
 | some v=>exact absurd (agV e) h
def Xd (C:Addr) (qs:List Addr) (H:Hp) (a:Addr) (l:Br.Line):Prop:=∃ dx q,qs[l.part]? = some q/\H a=some (.ins C dx (VL (.ref q) (.int (l.x:Int)) (.int (l.y:Int)) (.int (l.z:Int)) (.int (l.r:Int))))
theorem Xd.same {C:Addr} {qs:List Addr} {H H':Hp} {a:Addr} {l:Br.Line} (s:Ag H H') (h:Xd C qs H a l):Xd C qs H' a l:=let ⟨dx,q,h1,h2⟩:=h; ⟨dx,q,h1,s _ _ h2⟩
theorem agb {names ws:List Bytes} (h:ws.length ≠ 7):Hn names ws=none:=by
 match ws,h with
 | [],_=>rfl
 | [_],_=>rfl
 | [_,_],_=>rfl
 | [_,_,_],_=>rfl
 | [_,_,_,_],_=>rfl
 | [_,_,_,_,_],_=>rfl
 | [_,_,_,_,_,_],_=>rfl
 | [_,_,_,_,_,_,_],h=>exact absurd rfl h
 | _ :: _ :: _ :: _ :: _ :: _ :: _ :: _ :: _,_=>rfl
section
variable {P:Program} {w:World} {K:PySem.W.Frag} {mg:Str->Option Value} {base:Heap} {Ak Aq Af:Addr}
def abZ (C:Addr) (qs:List Addr) (o:Option Br.Line) (v:V) (H:Hp):Prop:=match o with
 | none=>v = .non
 | some l=>∃ a,v = .ref a/\Xd C qs H a l
def ZK (C:Addr):Sp:=fun vs H Q _=>∃ (a d:Addr) (r:Bytes) (qs:List Addr) (ps:List Br.Part),vs=[.ref a,.ref d]/\H a=some (.tup (bV r))/\r.length <= 1000000/\H d=some (.dT (Ff qs ps))/\qs.length=ps.length/\Out H Q (abZ C qs (Lf ps r))
theorem Pn:Ar ["row", "parts_by_name", "words", "part", "colour", "x", "y", "z", "turns"] ["row", "parts_by_name"] (Aj R5):=⟨rfl,rfl,rfl,by decide +kernel,rfl,by decide +kernel,by decide +kernel⟩
theorem abN (T:Txt K mg Ak Aq Af):Cl P w K mg base 3 "read_line" ["row", "parts_by_name"] (ZK Aq):=by
 refine T.abG.ok Pn (fun vs H Q E h=>?_) (fun f cdv A outer s H vs Q E hr h=>?_)
 ·obtain ⟨a,d,r,qs,ps,rfl,_⟩:=h
  rfl
 ·obtain ⟨a,d,r,pq,ps,rfl,ha,hlen,hd,hpq,k⟩:=h
  have nd:=Pn.nd
  have hu:=Jk hr
  have C:=Tr (P:=P) (w:=w) (base:=base) T
  refine ⟨_,(Ac (Av (i:=2) nd rfl (Or.inl rfl) (Bl (Ov T) hr rfl (Aa (pv 0) (Ad)))) (Ac (Bt (PW.pt (GK (Bp YM (Be Ax (by rfl) T.Dg PySem.boot_len (Aa (pv 2) (Ad))) Am (Bu _)) (Ie (Bp (afZ hr.units) (Ci BJ (pv 2) Am (fun _ _=>rfl)) (Bl (Hr T) hr rfl (Aa (Z1) (Ad))) (Bu _))))) (Ae (Al BZ)) Az) (Ac (Av (i:=3) nd rfl (Or.inl rfl) (aa8 hu (pv 1) (Ci BJ (pv 2) Am (fun _ _=>rfl)) ⟨rfl,rfl,rfl,rfl⟩)) (Ac (Av (i:=4) nd rfl (Or.inl rfl) (Bl C hr rfl (Aa (Ci BJ (pv 2) Am (fun _ _=>rfl)) (Aa (Am) (Aa (Df T.Xk rfl) (Ad)))))) (Ac (Av (i:=5) nd rfl (Or.inl rfl) (Bl C hr rfl (Aa (Ci BJ (pv 2) Am (fun _ _=>rfl)) (Aa (Am) (Aa (BV K9 (Df T.O1 rfl) Am) (Ad)))))) (Ac (Av (i:=6) nd rfl (Or.inl rfl) (Bl C hr rfl (Aa (Ci BJ (pv 2) Am (fun _ _=>rfl)) (Aa (Am) (Aa (BV K9 (Df T.O2 rfl) Am) (Ad)))))) (Ac (Av (i:=7) nd rfl (Or.inl rfl) (Bl C hr rfl (Aa (Ci BJ (pv 2) Am (fun _ _=>rfl)) (Aa (Am) (Aa (BV K9 (Df T.Nh rfl) Am) (Ad)))))) (Ac (Av (i:=8) nd rfl (Or.inl rfl) (Bl C hr rfl (Aa (Ci BJ (pv 2) Am (fun _ _=>rfl)) (Aa (Am) (Aa (Df T.Zz rfl) (Ad)))))) (Ac (Bt (PW.pt (GK (Cj (DP (pv 3))) (GK (Cj (DP (pv 4))) (GK (Cj (DP (pv 5))) (GK (Cj (DP (pv 6))) (GK (Cj (DP (pv 7))) (Ie (Cj (DP (pv 8)))))))))) (Ae (Al BZ)) Az) (Ae (Al (YB (ajA T) hr rfl (Aa (pv 3) (Aa (pv 5) (Aa (pv 6) (Aa (pv 7) (Aa (pv 8) (Ad)))))))))))))))))),?_⟩
  refine ⟨_,rfl,a,r,rfl,ha,hlen,fun v H1 s1 ⟨p,qs,ev,hp,hq⟩=>?_⟩
  subst ev
  have hfree:∀ x ∈ split 32 r,x.length <= 1000000:=fun x hx=>Nat.le_trans (Mx.split_len hx) hlen
  have eM:Lf ps r=Hn (Mx.namesOf ps) (split 32 r):=rfl
  rw [eM] at k
  generalize split 32 r=ws at hq k hfree
  have hql:=Bd hq
  refine ⟨_,rfl,p,_,rfl,.inl (SqL.of hp),rfl,_,rfl,?_⟩
  rw [List.length_map,hql]
  refine BP (fun h0=>?_) (fun h0=>?_)
  ·refine Dy (k _ _ s1 ?_)
   rw [agb (fun z=>by rw [z] at h0; exact absurd h0 (by decide))]
   rfl
  have h7:ws.length=7:=by
   have:V.int (ws.length:Int)=V.int 7:=by simpa using h0
   injection this with this
   omega
  obtain ⟨b,n,c,x,y,z,t,rfl⟩:∃ b n c x y z t,ws=[b,n,c,x,y,z,t]:=by
   match ws,h7 with
   | [b,n,c,x,y,z,t],_=>exact ⟨b,n,c,x,y,z,t,rfl⟩
  obtain ⟨q0,e0,t0⟩:=Dj hq (i:=0) rfl
  obtain ⟨q1,e1,t1⟩:=Dj hq (i:=1) rfl
  obtain ⟨q2,e2,t2⟩:=Dj hq (i:=2) rfl
  obtain ⟨q3,e3,t3'⟩:=Dj hq (i:=3) rfl
  obtain ⟨q4,e4,t4⟩:=Dj hq (i:=4) rfl
  obtain ⟨q5,e5,t5⟩:=Dj hq (i:=5) rfl
  obtain ⟨q6,e6,t6⟩:=Dj hq (i:=6) rfl
  refine ⟨_,rfl,p,_,_,_,rfl,rfl,SqL.of hp,DK e0 rfl,Str.ofString "put",rfl,by decide,fun v H2 s2 ⟨pb,ev,hpb⟩=>?_⟩
  subst ev
  rw [ahw] at hpb
  refine ne_bytes (s2 _ _ t0) hpb ⟨_,rfl,?_⟩
  refine BP (fun hb=>?_) (fun hb=>?_)
  ·refine k _ _ (s1.trans s2) ?_
   have hb':¬ b=Br.ascii "put" := by simpa using hb
   unfold Hn
   dsimp only
   rw [if_neg hb']
   rfl
  have hb':b=Br.ascii "put" := by simpa using hb
  subst hb'
  have c2:Ag H1 H2:=s2
  have d2:=(s1.trans s2) _ _ hd
  refine ⟨_,rfl,d,rfl,.inr ⟨_,.inl d2⟩,_,rfl,p,_,_,_,rfl,rfl,SqL.of (s2 _ _ hp),DK e1 rfl,_,.inr ⟨Ff pq ps,kB n,q1,.inl d2,rfl,by rw [akd]; exact s2 _ _ t1,rfl⟩,?_⟩
  rw [YT n hpq]
  refine ⟨_,rfl,p,_,_,_,rfl,rfl,SqL.of (c2 _ _ hp),DK e2 rfl,q2,c,0,255,rfl,c2 _ _ t2,hfree c (by simp),by decide,fun v4 H4 s4 ev4=>?_⟩
  have c4:=c2.trans s4
  refine ⟨_,rfl,p,_,_,_,rfl,rfl,SqL.of (c4 _ _ hp),DK e3 rfl,_,_,rfl,rfl,q3,x,0,63,rfl,c4 _ _ t3',hfree x (by simp),by decide,fun v5 H5 s5 ev5=>?_⟩
  have c5:=c4.trans s5
  refine ⟨_,rfl,p,_,_,_,rfl,rfl,SqL.of (c5 _ _ hp),DK e4 rfl,_,_,rfl,rfl,q4,y,0,63,rfl,c5 _ _ t4,hfree y (by simp),by decide,fun v6 H6 s6 ev6=>?_⟩
  have c6:=c5.trans s6
  refine ⟨_,rfl,p,_,_,_,rfl,rfl,SqL.of (c6 _ _ hp),DK e5 rfl,_,_,rfl,rfl,q5,z,0,95,rfl,c6 _ _ t5,hfree z (by simp),by decide,fun v7 H7 s7 ev7=>?_⟩
  have c7:=c6.trans s7
  refine ⟨_,rfl,p,_,_,_,rfl,rfl,SqL.of (c7 _ _ hp),DK e6 rfl,q6,t,0,3,rfl,c7 _ _ t6,hfree t (by simp),by decide,fun v8 H8 s8 ev8=>?_⟩
  have c8:=s1.trans (c7.trans s8)
  subst ev4 ev5 ev6 ev7 ev8
  have eL:Hn (Mx.namesOf ps) [Br.ascii "put",n,c,x,y,z,t] = match Gw (Mx.namesOf ps) n with
   | none=>none
   | some p=>match Bq 0 255 c with
    | none=>none
    | some k=>match Bq 0 63 x with
     | none=>none
     | some x=>match Bq 0 63 y with
      | none=>none
      | some y=>match Bq 0 95 z with
       | none=>none
       | some z=>match Bq 0 3 t with
        | none=>none
        | some r=>some ⟨p,k,x,y,z,r⟩:=by unfold Hn; dsimp only; rw [if_pos rfl] <;> rfl
  rw [eL] at k
  refine ⟨_,rfl,_,rfl,?_⟩
  cases en:Gw (Mx.namesOf ps) n with
  | none =>
   rw [en] at k
   exact Dy (Dy (k _ _ c8 rfl))
  | some i =>
   rw [en] at k
   have hi:i < ps.length:=by
    have:=List.findIdx?_eq_some_iff_findIdx_eq.mp en
    unfold Mx.namesOf at this
    rw [List.length_map] at this
    exact this.1
   have hqi:pq[i]? = some pq[i]:=List.getElem?_eq_getElem (by omega)
   have eo:(Option.bind (some i) fun i=>(pq[i]?).map V.ref).getD V.non=V.ref (pq[i]'(by omega)):=by
    show ((pq[i]?).map V.ref).getD V.non=_
    rw [hqi]; rfl
   rw [eo]
   refine Fg ⟨_,rfl,_,rfl,?_⟩
   rw [FZ]
   cases ec:Bq 0 255 c with
   | none =>
    rw [ec] at k
    exact Dy (Dy (k _ _ c8 rfl))
   | some c1 =>
    rw [ec] at k
    refine Fg ⟨_,rfl,_,rfl,?_⟩
    rw [FZ]
    cases ex:Bq 0 63 x with
    | none =>
     rw [ex] at k
     exact Dy (Dy (k _ _ c8 rfl))
    | some x1 =>
     rw [ex] at k
     refine Fg ⟨_,rfl,_,rfl,?_⟩
     rw [FZ]
     cases ey:Bq 0 63 y with
     | none =>
      rw [ey] at k
      exact Dy (Dy (k _ _ c8 rfl))
     | some y1 =>
      rw [ey] at k
      refine Fg ⟨_,rfl,_,rfl,?_⟩
      rw [FZ]
      cases ez:Bq 0 95 z with
      | none =>
       rw [ez] at k
       exact Dy (Dy (k _ _ c8 rfl))
      | some z1 =>
       rw [ez] at k
       refine Fg ⟨_,rfl,_,rfl,?_⟩
       rw [FZ]
       cases et:Bq 0 3 t with
       | none =>
        rw [et] at k
        exact Dy (k _ _ c8 rfl)
       | some t1 =>
        rw [et] at k
        refine Fg ⟨_,rfl,_,rfl,_,rfl,_,rfl,_,rfl,?_⟩
        refine ahu fun o H9 s9 ⟨dx,ho⟩=>?_
        exact k _ _ (c8.trans s9) ⟨o,rfl,dx,_,hqi,ho⟩
end
theorem ahP (xs:List V):Kh xs (some 1) none=xs.drop 1:=by
 unfold Kh
 rw [show (1:Int)=((1:Nat):Int) from rfl,HT.Uv,HT.Vx]
 cases xs with
 | nil=>rfl
 | cons a r =>
  rw [List.length_cons,Nat.min_eq_left (by omega)]
  simp
theorem abZ.grow {C:Addr} {qs:List Addr} {o:Option Br.Line} {v:V} {H H':Hp} (s:∀ b C dx fs,H b=some (.ins C dx fs)->H' b=some (.ins C dx fs)) (h:abZ C qs o v H):abZ C qs o v H':=by
 cases o with
 | none=>exact h
 | some l =>
  obtain ⟨a,e,dx,q,h1,h2⟩:=h
  exact ⟨a,e,dx,q,h1,s _ _ _ _ h2⟩
abbrev Xb (C:Addr) (qs:List Addr) (H:Hp) (ps:List Br.Part) (vs:List V) (rs:List Bytes):Prop:=Paired (fun v r=>abZ C qs (Lf ps r) v H) vs rs
theorem SN {C:Addr} {qs:List Addr} {ps:List Br.Part} {H H':Hp} (s:∀ b C dx fs,H b=some (.ins C dx fs)->H' b=some (.ins C dx fs)):∀ {vs:List V} {rs:List Bytes},Xb C qs H ps vs rs->Xb C qs H' ps vs rs
 | _,_,.nil=>.nil
 | _,_,.cons h t=>.cons (h.grow s) (SN s t)
abbrev Xc (C:Addr) (qs:List Addr) (H:Hp) (as:List Addr) (ls:List Br.Line):Prop:=Paired (fun a l=>Xd C qs H a l) as ls
theorem We {C:Addr} {qs:List Addr} {H H':Hp} (s:Ag H H'):∀ {as:List Addr} {ls:List Br.Line},Xc C qs H as ls->Xc C qs H' as ls
 | _,_,.nil=>.nil
 | _,_,.cons h t=>.cons (h.same s) (We s t)
theorem Wf {C:Addr} {qs:List Addr} {H:Hp} {ps:List Br.Part}:∀ {vs:List V} {rs:List Bytes},Xb C qs H ps vs rs->(vs.any fun v=>decide (v = .non))=false->∃ as ls,vs=as.map V.ref/\Z5 ps rs=some ls/\Xc C qs H as ls
 | _,_,.nil,_=>⟨[],[],rfl,rfl,.nil⟩
 | v :: vs,r :: rs,.cons h t,e=>by
  rw [List.any_cons,Bool.or_eq_false_iff] at e
  obtain ⟨as,ls,e1,e2,e3⟩:=Wf t e.2
  cases eo:Lf ps r with
  | none =>
   rw [eo] at h
   have h:v = .non:=h
   rw [h] at e
   exact absurd e.1 (by decide)
  | some l =>
   rw [eo] at h
   obtain ⟨a,ev,hl⟩:=h
   refine ⟨a :: as,l :: ls,by rw [ev,e1]; rfl,?_,.cons hl e3⟩
   rw [Z5,eo,e2]
theorem SM {C:Addr} {qs:List Addr} {H:Hp} {ps:List Br.Part}:∀ {vs:List V} {rs:List Bytes},Xb C qs H ps vs rs->(vs.any fun v=>decide (v = .non))=true->Z5 ps rs=none
 | _,_,.nil,e=>by cases e
 | v :: vs,r :: rs,.cons h t,e=>by
  rw [Z5]
  cases eo:Lf ps r with
  | none=>rfl
  | some l =>
   rw [eo] at h
   obtain ⟨a,ev,hl⟩:=h
   rw [List.any_cons,ev] at e
   have e':(vs.any fun v=>decide (v = .non))=true:=by simpa using e
   rw [SM t e']
section
variable {P:Program} {w:World} {K:PySem.W.Frag} {mg:Str->Option Value} {base:Heap} {Ak Aq Af:Addr}
def ajH (C:Addr) (qs:List Addr) (o:Option Br.Build) (v:V) (H:Hp):Prop:=match o with
 | none=>v = .non
 | some b=>∃ l as,v = .ref l/\H l=some (.lst (as.map V.ref))/\Xc C qs H as b.lines
def Xn (K:PySem.W.Frag) (CP CL:Addr):Sp:=fun vs H Q _=>∃ (a pa:Addr) (t:Bytes) (qs:List Addr) (ps:List Br.Part),vs=[.ref a,.ref pa]/\SqL K H a (bV t)/\t.length <= 1000000/\H pa=some (.lst (qs.map V.ref))/\JP CP H qs ps/\(Mx.namesOf ps).Nodup/\ps.length <= 1000000 /\
 Out H Q (ajH CL qs (readM (Em ps) t))
theorem Ni:Ar ["text", "parts", "rows", "parts_by_name", "part", "lines", "row", "line"] ["text", "parts"] (Aj G6):=⟨rfl,rfl,rfl,by decide +kernel,rfl,by decide +kernel,by decide +kernel⟩
theorem aat (T:Txt K mg Ak Aq Af):Cl P w K mg base 4 "read_lines" ["text", "parts"] (Xn K Ak Aq):=by
 refine T.aae.ok Ni (fun vs H Q E h=>?_) (fun f cdv A outer s H vs Q E hr h=>?_)
 ·obtain ⟨a,pa,t,qs,ps,rfl,_⟩:=h
  rfl
 ·obtain ⟨a,pa,t,pq,ps,rfl,hS,hlen,hpa,hps,hnn,hpl,k⟩:=h
  have nd:=Ni.nd
  have hu:=Jk hr
  have ahz:=Bd hps
  refine ⟨_,(Ac (Av (i:=2) nd rfl (Or.inl rfl) (Bl (Ze T) hr rfl (Aa (pv 0) (Ad)))) (Ac (Bt (PW.pt (GK (Cj (DP (pv 2))) (GK (Bp La (Be Ax (by rfl) T.Dg PySem.boot_len (Aa (pv 2) (Ad))) Am (Bu _)) (Ie (Bp Sv (Be Ax (by rfl) T.Dg PySem.boot_len (Aa (pv 2) (Ad))) (BV Gd Am (Df T.ZD rfl)) (Bu _)))))) (Ae (Al BZ)) Az) (Ac (Bt (Hk (Ea (Bl (Um T) hr rfl (Aa (Ci BJ (pv 2) Am (fun _ _=>rfl)) (Ad))))) (Ae (Al BZ)) Az) (Ac (Av (i:=3) nd rfl (Or.inr rfl) FP) (Ac (Cr PassesOwn.never rfl (Gz (pv 1)) (Bb (i:=4) nd rfl (Or.inl rfl)) (Ae (HJ hu (pv 3) (Bk (pv 4) rfl) (pv 4) rfl))) (Ac (VG (i:=5) rfl nd rfl rfl (ZG rfl rfl rfl (by decide +kernel)) (Gz (KY Us (pv 2) (Mm Am) Uw)) (Gi (own:=[("row",6)]) (show WY ["text", "parts", "rows", "parts_by_name", "part", "lines", "row", "line"] (Aj G6) _ [("row",6)] = true from by decide +kernel))
     (fun _ _ _ _ _=>Bb (i:=6) nd rfl (Or.inl rfl)) (fun _ _ _ _ _=>JB) (fun _ _ _ _ _=>Bl (abN T) hr rfl (Aa (pv 6) (Aa (pv 3) (Ad))))) (Ac (Bt (Ea (Be (ajy rfl) (by rfl) T.akQ afi (Aa (YC rfl nd (Gz (pv 5)) (Gi (own:=[("line",7)]) (show WY ["text", "parts", "rows", "parts_by_name", "part", "lines", "row", "line"] (Aj G6) _ [("line",7)] = true from by decide +kernel))
     (fun _ _ _ _ _=>Bb (i:=7) nd rfl (Or.inl rfl)) (fun _ _ _ _ _=>JB) (fun _ _ _ _ _=>aiK (DP (pv 7)))) (Ad)))) (Ae (Al BZ)) Az) (Ae (Al (pv 5)))))))))),?_⟩
  refine ⟨_,rfl,a,t,rfl,hS,hlen,fun v1 H1 s1 ⟨rs,tl,et,hv1⟩=>?_⟩
  obtain ⟨e1,e2⟩:=Mx.Ny et
  have ajj:Mx.QB (Mx.namesOf ps):=fun n hn=>by
   obtain ⟨p,hp,rfl⟩:=List.mem_map.mp hn
   obtain ⟨i,hi⟩:=List.mem_iff_getElem?.mp hp
   have hi':i < pq.length:=by rw [ahz]; exact (List.getElem?_eq_some_iff.mp hi).1
   exact Mx.ahr (Rk hps (List.getElem?_eq_getElem hi') hi).nm
  have eR:readM (Em ps) t=if tl=[] then WT ps rs else none:=by rw [e1]; exact Mx.afe ajj e2
  rw [eR] at k
  have akE:rs.length <= 1000000:=by
   have:=Ku (d:=10) t
   rw [et,List.length_append,List.length_singleton] at this
   omega
  have hll:∀ r ∈ rs,r.length <= 1000000:=fun r hr'=>by
   have:=Mx.split_len (d:=10) (t:=t) (p:=r) (by rw [et]; exact List.mem_append_left _ hr')
   omega
  by_cases htl:tl=[]
  case neg =>
   rw [if_neg htl] at hv1 k
   subst hv1
   exact ⟨_,rfl,_,rfl,Dy (Dy (k _ _ s1 rfl))⟩
  rw [if_pos htl] at hv1 k
  obtain ⟨p,qs,ev,hp,hq⟩:=hv1
  subst ev
  have hql:=Bd hq
  refine ⟨_,rfl,_,rfl,Fg ?_⟩
  refine ⟨_,rfl,p,_,rfl,.inl (SqL.of hp),rfl,_,rfl,?_⟩
  rw [List.length_map,hql]
  refine BP (fun h0=>?_) (fun h0=>?_)
  ·refine Dy (k _ _ s1 ?_)
   have:rs=[]:=List.length_eq_zero_iff.mp (by have:=of_decide_eq_true h0; injection this with this; omega)
   rw [this]; rfl
  obtain ⟨r0,rs',rfl⟩:∃ r0 rs',rs=r0 :: rs':=by
   cases rs with
   | nil=>exact absurd rfl h0
   | cons r rs=>exact ⟨r,rs,rfl⟩
  have eB:WT ps (r0 :: rs')=match Im r0 with
   | none=>none
   | some n=>match GX ps 256 rs' with
    | none=>none
    | some l=>some ⟨n,l⟩:=rfl
  rw [eB,Mx.Y5] at k
  refine ⟨_,rfl,p,_,rfl,.inl (SqL.of hp),_,_,rfl,rfl,_,_,rfl,rfl,_,rfl,?_⟩
  rw [List.length_map,hql]
  refine BP (fun h1=>?_) (fun h1=>?_)
  ·refine k _ _ s1 ?_
   have:=of_decide_eq_true h1
   rw [List.length_cons] at this
   rw [if_neg (by omega)]
   cases Im r0 <;> rfl
  have h256:rs'.length <= 256:=by
   have:=of_decide_eq_false (Bool.not_eq_true _ ▸ h1)
   rw [List.length_cons] at this
   omega
  rw [if_pos h256] at k
  obtain ⟨q0,e0,t0⟩:=Dj hq (i:=0) rfl
  refine ⟨_,rfl,p,_,_,_,rfl,rfl,SqL.of hp,DK e0 rfl,q0,r0,rfl,t0,hll r0 (List.mem_cons_self ..),fun v2 H2 s2 ev2=>⟨_,ev2,?_⟩⟩
  cases eh:Im r0 with
  | none =>
   rw [eh] at k
   exact Dy (k _ _ (s1.trans s2) rfl)
  | some nm =>
   rw [eh] at k
   dsimp only at k
   refine Fg ?_
   intro dn hdn
   have s3:Ag H2 (upd H2 dn (.dT [])):=Ag.new hdn
   have h3:upd H2 dn (.dT []) dn=some (.dT (Ff (pq.take 0) (ps.take 0))):=Ab
   generalize upd H2 dn (.dT [])=H3 at s3 h3
   have sm3:=(s1.trans s2).trans s3
   have ndn:H dn=none:=(s1.trans s2).free hdn
   have n2n:H1 dn=none:=s2.free hdn
   refine ⟨_,rfl,pa,rfl,⟨_,SqL.of (sm3 _ _ hpa)⟩,Ho (K:=K) (a:=pa) (xs:=pq.map V.ref)
    (fun i σ H'=>∃ v4:Option V,σ=[some (.ref a),some (.ref pa),some (.ref p),some (.ref dn),v4,none,none,none]/\(∀ b o,H2 b=some o->H' b=some o)/\H' dn=some (.dT (Ff (pq.take i) (ps.take i))))
    ⟨none,rfl,s3,h3⟩ (fun i σ H' _ ⟨_,_,sm,_⟩=>SqL.of (sm _ _ ((s1.trans s2) _ _ hpa))) ?_ ?_⟩
   ·rintro i y σ H' hi ⟨v4,rfl,sm,hdn'⟩
    obtain ⟨q,hqi,rfl⟩:∃ q,pq[i]? = some q/\y = .ref q:=by
     rw [List.getElem?_map] at hi
     cases e:pq[i]? with
     | none=>rw [e] at hi; cases hi
     | some q=>rw [e] at hi; exact ⟨q,rfl,(Option.some.inj hi).symm⟩
    obtain ⟨pp,hpp,hc⟩:=BW hps hqi
    have hil:i < ps.length:=(List.getElem?_eq_some_iff.mp hpp).1
    obtain ⟨dx,na,da,hq1,hna,_⟩:=(hc.same ((s1.trans s2).trans sm)).at_
    have hfr:kB pp.name ∉ (Ff (pq.take i) (ps.take i)).map (·.1):=fun hm=>by
     have:=V5 hm
     unfold Mx.namesOf at this hnn
     rw [List.map_take] at this
     exact Jx hnn (by rw [List.getElem?_map,hpp]; rfl) this
    refine ⟨_,rfl,_,rfl,_,rfl,q,Ak,dx,_,_,rfl,hq1,T.Bj,T.Fy,rfl,dn,_,rfl,Uq.t (k:=kB pp.name) hdn' (by rw [akd]; exact hna) ?_,?_⟩
    ·have:=YW (qs:=pq.take i) (ps:=ps.take i)
     rw [List.length_take] at this
     exact Bx (by omega)
    ·refine ⟨_,rfl,Ag.Ef hdn sm,?_⟩
     rw [Ab,VF _ (ad8 hfr),List.take_succ,List.take_succ,hqi,hpp]
     show _=some (HO.dT (Ff (pq.take i ++ [q]) (ps.take i ++ [pp])))
     rw [YX (by rw [List.length_take,List.length_take,ahz])]
   ·rintro σ H' ⟨v4,rfl,sm,hdn'⟩
    rw [List.length_map,List.take_length,ahz,List.take_length] at hdn'
    have sm':=(s1.trans s2).trans sm
    refine ⟨_,rfl,_,rfl,p,_,rfl,SqL.of ((s2.trans sm) _ _ hp),fun l hl=>?_⟩
    rw [ahP]
    have s4:Ag H' (upd H' l (.lst ((qs.map V.ref).drop 1))):=Ag.new hl
    have hl4:upd H' l (.lst ((qs.map V.ref).drop 1)) l=some (.lst ((qs.drop 1).map V.ref)):=by rw [Ab,List.map_drop]
    generalize upd H' l (.lst ((qs.map V.ref).drop 1))=H4 at s4 hl4
    have hq4:N6 H4 (qs.drop 1) rs':=Et ((s2.trans sm).trans s4) (K5 1 hq)
    have alF:=Bd hq4
    refine ⟨l,rfl,⟨_,SqL.of hl4⟩,fun D hD=>?_⟩
    have dn4:=s4 _ _ hdn'
    refine Z8 (K:=K) (a:=l) (xs:=(qs.drop 1).map V.ref) (fun j H5=>Ag H4 H5/\∃ acc,H5 D=some (.lst acc)/\Xb Aq pq H5 ps acc (rs'.take j)) ⟨Ag.new hD,[],Ab,.nil⟩
     (fun j H5 _ q=>SqL.of (q.1 _ _ hl4)) ?_ ?_
    ·rintro j y H5 hj ⟨p1,acc,p2,p3⟩
     obtain ⟨q,hqj,rfl⟩:∃ q,(qs.drop 1)[j]? = some q/\y = .ref q:=by
      rw [List.getElem?_map] at hj
      cases e:(qs.drop 1)[j]? with
      | none=>rw [e] at hj; cases hj
      | some q=>rw [e] at hj; exact ⟨q,rfl,(Option.some.inj hj).symm⟩
     obtain ⟨r,hrj,hqt⟩:=BW hq4 hqj
     refine ⟨rfl,Oo ?_⟩
     refine ⟨_,rfl,_,rfl,q,dn,r,pq,ps,rfl,p1 _ _ hqt,hll r (List.mem_cons_of_mem _ (List.mem_of_getElem? hrj)),p1 _ _ dn4,ahz,fun v6 H6 s6 hv6=>?_⟩
     have hD6:=s6 _ _ p2
     have hal:=Bd p3
     have gr:∀ b C dx fs,H6 b=some (.ins C dx fs)->upd H6 D (.lst (acc ++ [v6])) b=some (.ins C dx fs):=fun b C dx fs e=>by rw [Ah (Gg e hD6 (by intro z; cases z))]; exact e
     refine ⟨acc,hD6,?_,Ag.Ef hD (p1.trans s6),acc ++ [v6],Ab,?_⟩
     ·rw [hal,List.length_take]; exact Bx (by omega)
     ·rw [List.take_succ,hrj]
      exact Dt (SN (fun b C dx fs e=>gr b C dx fs (s6 _ _ e)) p3) (.cons (hv6.grow gr) .nil)
    ·rintro H5 ⟨p1,acc,p2,p3⟩
     rw [List.length_map,alF,List.take_length] at p3
     have hal:=Bd p3
     refine ⟨_,rfl,D,rfl,⟨_,SqL.of p2⟩,fun D2 hD2=>?_⟩
     refine Z8 (K:=K) (a:=D) (xs:=acc) (fun j H6=>Ag H5 H6/\H6 D2=some (.lst ((acc.take j).map fun v=>.bl (decide (v = .non))))) ⟨Ag.new hD2,Ab⟩
      (fun j H6 _ q=>SqL.of (q.1 _ _ p2)) ?_ ?_
     ·rintro j y H6 hj ⟨r1,r2⟩
      have hjl:j < acc.length:=(List.getElem?_eq_some_iff.mp hj).1
      refine ⟨rfl,Oo ?_⟩
      refine ⟨_,rfl,_,r2,?_,Ag.Ef hD2 r1,?_⟩
      ·rw [List.length_map,List.length_take]; exact Bx (by omega)
      ·rw [Ab,List.take_succ,hj,List.map_append]; rfl
     ·rintro H6 ⟨r1,r2⟩
      rw [List.take_length] at r2
      refine ⟨D2,acc.map fun v=>decide (v = .non),rfl,SqL.of (by rw [r2,List.map_map]; rfl),_,rfl,?_⟩
      have ea:(acc.map fun v=>decide (v=V.non)).any id=acc.any fun v=>decide (v = .non):=by rw [List.any_map]; rfl
      rw [ea]
      have smA:=(sm'.trans s4).trans (p1.trans r1)
      refine BP (fun h5=>?_) (fun h5=>?_)
      ·refine k _ _ smA ?_
       rw [SM p3 h5]
       rfl
      ·rw [Bool.not_eq_true] at h5
       obtain ⟨as,ls,g1,g2,g3⟩:=Wf p3 h5
       refine ⟨_,rfl,k _ _ smA ?_⟩
       rw [g2]
       exact ⟨D,as,rfl,by rw [<- g1]; exact r1 _ _ p2,We r1 g3⟩
end
open Mx (P3 mv cellsOf Full Ck De Dd Meets)
theorem Jv {es:List (P3 × Int)} {q:P3} {v:V}:Er (Ao es) (t3 q)=some v->∃ t,v = .int t/\(q,t) ∈ es:=by
 induction es with
 | nil=>intro h; cases h
 | cons x r ih =>
  intro h
  unfold Ao at h ih
  rw [List.map_cons] at h
  by_cases e:x.1=q
  ·rw [CW (by rw [e])] at h
   cases h
   exact ⟨x.2,rfl,by rw [<- e]; exact List.mem_cons_self ..⟩
  ·rw [CZ (fun z=>e (ach z))] at h
   obtain ⟨t,h1,h2⟩:=ih h
   exact ⟨t,h1,List.mem_cons_of_mem _ h2⟩
theorem Fz {es:List (P3 × Int)} (hn:(es.map (·.1)).Nodup) {q:P3} {t:Int} (h:(q,t) ∈ es):Er (Ao es) (t3 q)=some (.int t):=by
 have hs:=Gr q es
 rw [decide_eq_true (List.mem_map_of_mem (f:=(·.1)) h)] at hs
 obtain ⟨v,hv⟩:=Option.isSome_iff_exists.mp hs
 obtain ⟨t',e1,e2⟩:=Jv hv
 rw [hv,e1,Mx.Ro hn e2 h]
def mvX (x y z:Int) (e:P3 × Int):P3 × Int:=(mv e.1 x y z,e.2)
theorem YZ {x y z:Int} {es:List (P3 × Int)} (h:(es.map (·.1)).Nodup):((es.map (mvX x y z)).map (·.1)).Nodup:=by
 rw [List.map_map]
 have:(es.map ((·.1) ∘ mvX x y z))=(es.map (·.1)).map (fun q=>mv q x y z):=by rw [List.map_map]; rfl
 rw [this]
 exact Mx.Hc h fun a _ b _ e=>Mx.acO e
section
variable {P:Program} {w:World} {K:PySem.W.Frag} {mg:Str->Option Value} {base:Heap} {Ak Aq Af:Addr}
def aij (C:Addr) (H:Hp) (a:Addr) (p:V) (x y z t:Int):Prop:=∃ dx,H a=some (.ins C dx (VL p (.int x) (.int y) (.int z) (.int t)))
def Xv (CL CP:Addr):Sp:=fun vs H Q _=>∃ (a b:Addr) (p:V) (x y z t:Int) (n:List V) (w d h:Int) (es:List (P3 × Int)),vs=[.ref a,.ref b]/\aij CL H a p x y z t/\Gx CP H b n w d h es /\
 Out H Q (fun v _=>v = .bl (decide (x + w <= 64) && (decide (y + d <= 64) && decide (z + h <= 96))))
theorem Xy:Ar ["line", "part"] ["line", "part"] (Aj PK):=⟨rfl,rfl,rfl,by decide +kernel,rfl,by decide +kernel,by decide +kernel⟩
theorem aay (T:Txt K mg Ak Aq Af):Cl P w K mg base 1 "is_in_room" ["line", "part"] (Xv Aq Ak):=by
 refine T.aak.ok Xy (fun vs H Q E h=>?_) (fun f cdv A outer s H vs Q E hr h=>?_)
 ·obtain ⟨a,b,p,x,y,z,t,n,w,d,h,es,rfl,_⟩:=h
  rfl
 ·obtain ⟨a,b,p,x,y,z,t,n,w,d,h,es,rfl,⟨dl,ha⟩,⟨dx,na,da,hb,_⟩,k⟩:=h
  refine ⟨_,(Ae (Al (JD (FQ Qa (BV Gd (Bk (pv 0) rfl) (Bk (pv 1) rfl)) (Df T.O1 rfl) (Bu _)) (JD (FQ Qa (BV Gd (Bk (pv 0) rfl) (Bk (pv 1) rfl)) (Df T.O2 rfl) (Bu _)) (Ri (FQ Qa (BV Gd (Bk (pv 0) rfl) (Bk (pv 1) rfl)) (Df T.Nh rfl) (Bu _))))))),?_⟩
  refine ⟨_,rfl,a,Aq,dl,_,_,rfl,ha,T.Ey,T.W7,rfl,_,rfl,b,Ak,dx,_,_,rfl,hb,T.Bj,T.Eb,rfl,_,_,rfl,rfl,_,_,rfl,rfl,_,rfl,?_⟩
  refine BP (fun h0=>?_) (fun h0=>k _ _ (Ag.refl _) (by rw [Bool.not_eq_true] at h0; rw [h0]; rfl))
  refine ⟨_,rfl,a,Aq,dl,_,_,rfl,ha,T.Ey,T.W6,rfl,_,rfl,b,Ak,dx,_,_,rfl,hb,T.Bj,T.Dr,rfl,_,_,rfl,rfl,_,_,rfl,rfl,_,rfl,?_⟩
  refine BP (fun h1=>?_) (fun h1=>k _ _ (Ag.refl _) (by rw [Bool.not_eq_true] at h1; rw [h0,h1]; rfl))
  refine ⟨_,rfl,a,Aq,dl,_,_,rfl,ha,T.Ey,T.W5,rfl,_,rfl,b,Ak,dx,_,_,rfl,hb,T.Bj,T.Dv,rfl,_,_,rfl,rfl,_,_,rfl,rfl,?_⟩
  exact k _ _ (Ag.refl _) (by rw [h0,h1]; rfl)
def Q0 (CL CP:Addr):Sp:=fun vs H Q _=>∃ (a b:Addr) (p:V) (x y z t:Int) (n:List V) (w d h:Int) (es:List (P3 × Int)),vs=[.ref a,.ref b]/\aij CL H a p x y z t/\Gx CP H b n w d h es/\(es.map (·.1)).Nodup /\
 Out H Q (fun v H'=>∃ o,v = .ref o/\H o=none/\H' o=some (.dT (Ao (es.map (mvX x y z)))))
theorem IV:Ar ["line", "part", "cells", "place", "sign"] ["line", "part"] (Aj J5):=⟨rfl,rfl,rfl,by decide +kernel,rfl,by decide +kernel,by decide +kernel⟩
theorem Uo (T:Txt K mg Ak Aq Af):Cl P w K mg base 2 "cells_in_room" ["line", "part"] (Q0 Aq Ak):=by
 refine T.Ud.ok IV (fun vs H Q E h=>?_) (fun f cdv A outer s H vs Q E hr h=>?_)
 ·obtain ⟨a,b,p,x,y,z,t,n,w,d,h,es,rfl,_⟩:=h
  rfl
 ·obtain ⟨a,b,p,x,y,z,t,n,w,d,h,es,rfl,⟨dl,ha⟩,⟨dx,na,da,hb,hna,hda,hle⟩,hn,k⟩:=h
  have nd:=IV.nd
  have hu:=Jk hr
  refine ⟨_,(Ac (Av (i:=2) nd rfl (Or.inl rfl) FP) (Ac (JC (Cr PassesOwn.never rfl (Hb (Bk (pv 1) rfl)) (FN rfl (Bo (Bb (i:=3) nd rfl (Or.inl rfl)) (Bo (Bb (i:=4) nd rfl (Or.inl rfl)) Eh)))
    (Ae (HJ hu (pv 2) (Bl (UL T) hr rfl (Aa (pv 3) (Aa (Bk (pv 0) rfl) (Aa (Bk (pv 0) rfl) (Aa (Bk (pv 0) rfl) (Ad)))))) (pv 4) rfl)))) (Ae (Al (pv 2))))),?_⟩
  intro dc hdc
  have s1:Ag H (upd H dc (.dT [])):=Ag.new hdc
  have h1:upd H dc (.dT []) dc=some (.dT (Ao [])):=Ab
  generalize upd H dc (.dT [])=H1 at s1 h1
  have XH:=s1 _ _ hda
  have ndc:dc ≠ da:=fun z=>by rw [z,hda] at hdc; cases hdc
  refine ⟨da,.dT (Ao es),XH,True.intro,fun od=>?_⟩
  have ha1:upd H1 da (.frz od (.dT (Ao es))) a=_:=UJ (s1 _ _ ha) XH (by intro z; cases z)
  have hb1:upd H1 da (.frz od (.dT (Ao es))) b=_:=UJ (s1 _ _ hb) XH (by intro z; cases z)
  have hc1:upd H1 da (.frz od (.dT (Ao es))) dc=some (.dT (Ao [])):=by rw [Ah ndc]; exact h1
  have hnt:=YZ (x:=x) (y:=y) (z:=z) hn
  refine ⟨_,rfl,b,Ak,dx,_,_,rfl,hb1,T.Bj,T.BR,rfl,da,od,_,rfl,Ab,Fp (kvs:=Ao es)
   (fun i σ H'=>∃ v3 v4:Option V,σ=[some (.ref a),some (.ref b),some (.ref dc),v3,v4]/\(∀ b o,upd H1 da (.frz od (.dT (Ao es))) b=some o->b ≠ dc->H' b=some o)/\H' dc=some (.dT (Ao ((es.map (mvX x y z)).take i))))
   ⟨none,none,rfl,fun b o e _=>e,hc1⟩ (fun i σ H' _ ⟨_,_,_,kp,_⟩=>kp _ _ Ab ndc.symm) ?_ ?_⟩
  ·rintro i kk v σ H' tt q hkv ⟨v2,v3',rfl,kp,hc⟩ hq hT
   obtain ⟨pl,c,hes,rfl,rfl⟩:=GR hkv
   have sn:Ag H' (upd H' tt (.tup [.ref q,.int c])):=Ag.new hT
   refine ⟨tt,_,rfl,SqT.of Ab,rfl,_,_,rfl,_,_,rfl,rfl,?_⟩
   have hq2:=sn _ _ hq
   have hc2:=sn _ _ hc
   have ha2:=sn _ _ (kp _ _ ha1 (Gg ha1 hc1 (by intro z; cases z)))
   generalize upd H' tt (.tup [.ref q,.int c])=H2 at sn hq2 hc2 ha2
   refine ⟨_,rfl,_,rfl,_,rfl,_,rfl,a,Aq,dl,_,_,rfl,ha2,T.Ey,T.W7,rfl,_,rfl,a,Aq,dl,_,_,rfl,ha2,T.Ey,T.W6,rfl,_,rfl,a,Aq,dl,_,_,rfl,ha2,T.Ey,T.W5,rfl,
    q,pl,x,y,z,rfl,hq2,fun v H3 s3 ⟨p3,e3,hp3⟩=>?_⟩
   subst e3
   have hat:(es.map (mvX x y z))[i]? = some (mvX x y z (pl,c)):=by rw [List.getElem?_map,hes]; rfl
   have hfr:(mvX x y z (pl,c)).1 ∉ ((es.map (mvX x y z)).take i).map (·.1):=by
    rw [List.map_take]
    exact Jx hnt (by rw [List.getElem?_map,hat]; rfl)
   refine ⟨dc,_,rfl,Uq.t (k:=t3 (mvX x y z (pl,c)).1) (s3 _ _ hc2) hp3 (by rw [Cd,List.length_take,List.length_map]; exact Bx (by omega)),?_⟩
   refine ⟨_,_,rfl,fun b o e n=>?_,?_⟩
   ·rw [Ah n]
    exact s3 _ _ (sn _ _ (kp _ _ e n))
   ·rw [Ab,Lq hfr,List.take_succ,hat]
    rfl
  ·rintro σ H' ⟨v2,v3',rfl,kp,hc⟩
   rw [Cd,<- List.length_map (f:=mvX x y z) (as:=es),List.take_length] at hc
   refine ⟨kp _ _ Ab ndc.symm,?_⟩
   have sb:Ag H (upd H' da (.dT (Ao es))):=fun b o e=>by
    by_cases z:b=da
    ·rw [z,Ab]; rw [z,hda] at e; exact e
    ·rw [Ah z]
     refine kp _ _ (by rw [Ah z]; exact s1 _ _ e) (fun y=>by rw [y,hdc] at e; cases e)
   exact ⟨_,rfl,k _ _ sb ⟨dc,rfl,hdc,by rw [Ah ndc]; exact hc⟩⟩
def M3:Sp:=fun vs H Q _=>∃ (d:Addr) (es:List (P3 × Int)),vs=[.ref d]/\H d=some (.dT (Ao es))/\(es.map (·.1)).Nodup/\Out H Q (fun v _=>∃ b,v = .bl b/\(b=true ↔ Meets es))
theorem G3:Ar ["cells", "place", "sign", "above"] ["cells"] (Aj Hg):=⟨rfl,rfl,rfl,by decide +kernel,rfl,by decide +kernel,by decide +kernel⟩
theorem Ow (T:Txt K mg Ak Aq Af):Cl P w K mg base 3 "studs_meet_tubes" ["cells"] M3:=by
 refine T.Oq.ok G3 (fun vs H Q E h=>?_) (fun f cdv A outer s H vs Q E hr h=>?_)
 ·obtain ⟨d,es,rfl,_⟩:=h
  rfl
 ·obtain ⟨d,es,rfl,hd,hn,k⟩:=h
  have nd:=G3.nd
  have hu:=Jk hr
  refine ⟨_,(Ac (JC (Cr PassesOwn.never rfl (Hb (pv 0)) (FN rfl (Bo (Bb (i:=1) nd rfl (Or.inl rfl)) (Bo (Bb (i:=2) nd rfl (Or.inl rfl)) Eh)))
    (Ae (Bt (Ea (Bl (WN T) hr rfl (Aa (pv 2) (Ad))))
     (Ac (Av (i:=3) nd rfl (Or.inl rfl) (aa8 hu (pv 0) (Bl (Ik T) hr rfl (Aa (pv 1) (Ad))) ⟨rfl,rfl,rfl,rfl⟩)) (Ae (Bt (PW.pt (VD (Cj (Ux (pv 3))) (PN (Hk (Ea (Bl (WM T) hr rfl (Aa (pv 3) (Ad)))))))) (Ae (Al FT)) Az))) Az)))) (Ae (Al FT))),?_⟩
  refine ⟨d,.dT (Ao es),hd,True.intro,fun od=>?_⟩
  refine ⟨_,rfl,d,od,_,rfl,Ab,Fp (kvs:=Ao es)
   (fun i σ H'=>∃ v1 v2 v3:Option V,σ=[some (.ref d),v1,v2,v3]/\Ag (upd H d (.frz od (.dT (Ao es)))) H'/\∀ x ∈ es.take i,De x.2=true->∀ t,(mv x.1 0 0 1,t) ∈ es->Dd t=true)
   ⟨none,none,none,rfl,Ag.refl _,fun x hx=>by cases hx⟩ (fun i σ H' _ ⟨_,_,_,_,sm,_⟩=>sm _ _ Ab) ?_ ?_⟩
  ·rintro i kk v σ H' tt q hkv ⟨v1,v2,v3',rfl,sm,hb⟩ hq hT
   obtain ⟨pl,c,hes,rfl,rfl⟩:=GR hkv
   have hmem:(pl,c) ∈ es:=List.mem_of_getElem? hes
   have sn:Ag H' (upd H' tt (.tup [.ref q,.int c])):=Ag.new hT
   refine ⟨tt,_,rfl,SqT.of Ab,rfl,_,_,rfl,_,_,rfl,rfl,?_⟩
   have hq2:=sn _ _ hq
   have sm2:=sm.trans sn
   generalize upd H' tt (.tup [.ref q,.int c])=H2 at sm2 hq2
   have next:(De c=true->∀ t,(mv pl 0 0 1,t) ∈ es->Dd t=true)->∀ x ∈ es.take (i + 1),De x.2=true->∀ t,(mv x.1 0 0 1,t) ∈ es->Dd t=true:=fun hx x hm=>by
    rw [List.take_succ,hes] at hm
    rcases List.mem_append.mp hm with hm | hm
    ·exact hb x hm
    ·have e:x=(pl,c):=by simpa using hm
     subst e
     exact hx
   refine ⟨_,rfl,c,rfl,fun v H3 s3 ev=>⟨_,ev,?_⟩⟩
   have sm3:=sm2.trans s3
   refine BP (fun hst=>?_) (fun hst=>⟨_,_,_,rfl,sm3,next (fun z=>absurd z hst)⟩)
   refine ⟨_,rfl,d,rfl,.inr ⟨_,.inr ⟨od,sm3 _ _ Ab⟩⟩,_,rfl,q,pl,rfl,s3 _ _ hq2,fun v4 H4 s4 ⟨p4,e4,hp4⟩=>?_⟩
   subst e4
   have sm4:=sm3.trans s4
   refine ⟨_,.inr ⟨Ao es,t3 (mv pl 0 0 1),p4,.inr ⟨od,sm4 _ _ Ab⟩,rfl,hp4,rfl⟩,?_⟩
   cases ev4:Er (Ao es) (t3 (mv pl 0 0 1)) with
   | none =>
    refine ⟨_,rfl,_,rfl,Fg (Fg ⟨_,_,_,rfl,sm4,next fun _ t ht=>?_⟩)⟩
    rw [Fz hn ht] at ev4
    cases ev4
   | some u =>
    obtain ⟨t,rfl,ht⟩:=Jv ev4
    refine ⟨_,rfl,_,rfl,Dy ⟨_,rfl,t,rfl,fun v5 H5 s5 e5=>⟨_,e5,?_⟩⟩⟩
    have sm5:=sm4.trans s5
    refine BP (fun ht2=>?_) (fun ht2=>?_)
    ·refine ⟨sm5 _ _ Ab,k _ _ (Rt hd sm5) ⟨false,rfl,?_⟩⟩
     rw [Bool.not_eq_true'] at ht2
     refine ⟨fun z=>(Bool.false_ne_true z).elim,fun M=>?_⟩
     have:=M (pl,c) hmem hst t ht
     rw [ht2] at this
     exact this
    ·have ht3:Dd t=true:=by simpa using ht2
     exact ⟨_,_,_,rfl,sm5,next fun _ t' ht'=>by rw [Mx.Ro hn ht' ht]; exact ht3⟩
  ·rintro σ H' ⟨v1,v2,v3',rfl,sm,hb⟩
   rw [Cd,List.take_length] at hb
   refine ⟨sm _ _ Ab,?_⟩
   exact k _ _ (Rt hd sm) ⟨true,rfl,fun _=>hb,fun _=>rfl⟩
end
end Py
namespace L2
open PySem PySem.Spec PyProof.Rows
def agl (td:TE):TI:=fun σ H R=>td σ H fun x H1=>∃ d kvs,x = .ref d/\H1 d=some (.dT kvs)/\∀ od,R (afq d od kvs) (upd H1 d (.frz od (.dT kvs)))
theorem acA {X:Cx} {e:Expr} {td:TE} {apos cpos:Pos} {elts:List Expr} {kk:Nat} {tpos:Pos} (he:PE X e td) (hbase:attributeBase e "items" X.env (eval e X.env)=eval e X.env:=by rfl) (hline:(apos.endLine == cpos.line)=true:=by rfl) :
  PI X (.Tuple elts kk tpos) (.Call (.Attribute e "items" apos) [] [] cpos) (agl td):=by
 intro pins s σ H R I h
 refine wpAny_Call_method (T := "dict") (id := "dict.items") hbase rfl hline F.plainAttrs_dict F.slot_dict_items F.type_dict_items (thn (he pins s σ H _ I h) fun u s1 ⟨x,H0,I0,rx,d,kvs,ex,hd0,q0⟩=>?_)
 subst ex
 obtain rfl:u=Value.ref d:=rx
 obtain ⟨o,I1⟩:=I0.lock hd0 True.intro
 have hd:upd H0 d (.frz o (.dT kvs)) d=some (.frz o (.dT kvs)):=Ab
 have q:=q0 o
 generalize upd H0 d (.frz o (.dT kvs))=H1 at I1 hd q
 obtain ⟨o',es,ep,hs,hgd,hx,hdt,hsz,hz,hn,ent⟩:=I1.dTr (.inr ⟨o,hd⟩)
 obtain rfl:o'=o:=by
  have q:=(I1.hok d _ hd).1
  rw [hgd] at q
  exact Option.some.inj q
 have hT:s1.TypeIs (.ref d) "dict" := ⟨_,hgd,hx.1⟩
 refine ⟨hT,(fun b q=>by cases q; exact ⟨_,hgd,hx.2.1⟩),?_⟩
 have I2:Inv X pins σ H1 { s1 with heap:=s1.heap.push { cls:=.type "dict_items",data:=.fields #[.ref d] } }:=I1.kept (t':=s1.toks) fun b ob q=>Heap.get?_push_of_some _ q
 have fin:wpAny (model X.prog X.w) X.A (pyIter (.ref s1.heap.objs.size)) (PIE X pins σ (.Tuple elts kk tpos) R) X.xe { s1 with heap:=s1.heap.push { cls:=.type "dict_items",data:=.fields #[.ref d] } }:=by
  refine Wo (d:=d) ⟨_,Heap.get?_push_size _ rfl,rfl,rfl⟩ (Heap.get?_push_of_some _ hgd) hdt (Oj (tk:=s1.toks) I2 _ (RZ _ hdt) ⟨.none,.none,?_⟩ q)
  rw [hsz]
  exact Heap.get?_push_size _ rfl
 show wpAny _ _ (callWith cpos (.builtin "dict.items") [.ref d] [] []) _ X.xe s1
 exact method_meetsIn F.slot_dict_items F.entry_dict_items rfl (PySem.evalArgs_none ⟨rfl,hT,F.args_dict_items_1 _,_,J8 X.prog X.w d hs,hT,fin⟩)
end L2
namespace Py
open PySem PySem.Spec PyProof.Rows L2
open Mx (P3 mv cellsOf Full Ck De Dd Meets Bg Cp Own QC)
open Br (Bytes)
theorem acP {E F:List (P3 × Int)} (h:E.Perm F):Meets E ↔ Meets F :=
 ⟨fun M x hx hs t ht=>M x (h.mem_iff.mpr hx) hs t (h.mem_iff.mpr ht),fun M x hx hs t ht=>M x (h.mem_iff.mp hx) hs t (h.mem_iff.mp ht)⟩
theorem K7 {c:Br.Catalogue} {ls:List Br.Line} {i j:Nat} {q:P3}:Own c (ls.take i) j q ↔ j < i/\Own c ls j q:=by
 unfold Own
 rw [List.getElem?_take]
 by_cases h:j < i
 ·rw [if_pos h]; exact ⟨fun z=>⟨h,z⟩,fun z=>z.2⟩
 ·rw [if_neg h]; exact ⟨fun ⟨l,z,_⟩=>(by cases z),fun z=>absurd z.1 h⟩
theorem abW {c:Br.Catalogue} {ls:List Br.Line} {i:Nat} {l:Br.Line} (h:ls[i]? = some l):Cp c (ls.take (i + 1))=Cp c (ls.take i) ++ Bg c l:=by
 unfold Cp
 rw [List.take_succ,h,List.flatMap_append]
 simp
theorem afo {c:Br.Catalogue} {ls:List Br.Line} {i:Nat}:Cp c ls=Cp c (ls.take i) ++ Cp c (ls.drop i):=by
 unfold Cp
 rw [<- List.flatMap_append,List.take_append_drop]
section
variable {P:Program} {w:World} {K:PySem.W.Frag} {mg:Str->Option Value} {base:Heap} {Ak Aq Af:Addr}
structure Xa (c:Br.Catalogue) (ls:List Br.Line) (O:List (P3 × Int)):Prop where
 nd:(O.map (·.1)).Nodup
 len:O.length <= 1200000
 own:∀ q n,(q,n) ∈ O ↔ ∃ j:Nat,n=(j:Int)/\Own c ls j q
def agQ (c:Br.Catalogue) (b:Br.Build) (v:V) (H:Hp):Prop:=if (b.wrong c).isSome=true then v = .non else ∃ o O,v = .ref o/\H o=some (.dT (Ao O))/\Xa c b.lines O
def M4 (CP CL:Addr):Sp:=fun vs H Q _=>∃ (a:Addr) (as qs:List Addr) (b:Br.Build) (c:Br.Catalogue),vs=[.ref a]/\H a=some (.lst (as.map V.ref))/\Xc CL qs H as b.lines/\JP CP H qs c/\(∀ p ∈ c,p.studsOk=true)/\b.lines.length <= 256/\(∀ l ∈ b.lines,l.r <= 3) /\
 Out H Q (agQ c b)
theorem G4:Ar ["lines", "owners", "taken", "number", "line", "part", "place", "sign"] ["lines"] (Aj Hh):=⟨rfl,rfl,rfl,by decide +kernel,rfl,by decide +kernel,by decide +kernel⟩
theorem Ox (T:Txt K mg Ak Aq Af):Cl P w K mg base 5 "owners_of_places" ["lines"] (M4 Ak Aq):=by
 refine T.Ot.ok G4 (fun vs H Q E h=>?_) (fun f cdv A outer s H vs Q E hr h=>?_)
 ·obtain ⟨a,as,qs,b,c,rfl,_⟩:=h
  rfl
 ·obtain ⟨a,as,pq,b,c,rfl,ha,hls,hps,hst,h256,hr3,k⟩:=h
  have nd:=G4.nd
  have hu:=Jk hr
  have hal:=Bd hls
  have part:∀ (i:Nat) (l:Br.Line),b.lines[i]? = some l->∃ ad dx q p,as[i]? = some ad/\H ad=some (.ins Aq dx (VL (.ref q) (.int (l.x:Int)) (.int (l.y:Int)) (.int (l.z:Int)) (.int (l.r:Int))))/\Qz Ak H q p/\c.getD l.part Br.nothing=p/\p.studsOk=true:=fun i l hl=>by
   have hi:i < as.length:=by rw [hal]; exact (List.getElem?_eq_some_iff.mp hl).1
   obtain ⟨dx,q,hq,hh⟩:=Rk hls (List.getElem?_eq_getElem hi) hl
   obtain ⟨p,hp,hc⟩:=BW hps hq
   exact ⟨as[i],dx,q,p,List.getElem?_eq_getElem hi,hh,hc,by rw [List.getD_eq_getElem?_getD,hp]; rfl,hst p (List.mem_of_getElem? hp)⟩
  have hfree:∀ l ∈ b.lines,Full (l.of c)/\QC (Bg c l):=fun l hl=>by
   obtain ⟨i,hi⟩:=List.mem_iff_getElem?.mp hl
   obtain ⟨ad,dx,q,p,_,_,hc,e,hs⟩:=part i l hi
   exact Mx.aeW (by rw [e]; exact hc.full) (by rw [e]; exact hs)
  have hW:=Mx.aaF hfree
  have bad:¬ ((∀ l ∈ b.lines,l.inRoom c=true)/\((Cp c b.lines).map (·.1)).Nodup/\Meets (Cp c b.lines))->∀ H',agQ c b .non H':=fun h H'=>by
   unfold agQ
   rw [if_pos (by cases e:(b.wrong c).isSome with | true=>rfl | false=>exact absurd (hW.mp e) h)]
  refine ⟨_,(Ac (Av (i:=1) nd rfl (Or.inl rfl) FP) (Ac (Av (i:=2) nd rfl (Or.inl rfl) FP) (Ac (Cr PassesOwn.never rfl (Mp rfl T.Eo (Aa (pv 0) (Ad))) (FN rfl (Bo (Bb (i:=3) nd rfl (Or.inl rfl)) (Bo (Bb (i:=4) nd rfl (Or.inl rfl)) Eh)))
    (Ac (Av (i:=5) nd rfl (Or.inl rfl) (Bl (agH T) hr rfl (Aa (Bk (pv 4) rfl) (Aa (Bk (pv 4) rfl) (Ad))))) (Ac (Bt (Hk (Ea (Bl (aay T) hr rfl (Aa (pv 4) (Aa (pv 5) (Ad)))))) (Ae (Al BZ)) Az) (Ae (Cr PassesOwn.never rfl (acA (Bl (Uo T) hr rfl (Aa (pv 4) (Aa (pv 5) (Ad))))) (FN rfl (Bo (Bb (i:=6) nd rfl (Or.inl rfl)) (Bo (Bb (i:=7) nd rfl (Or.inl rfl)) Eh)))
     (Ac (Bt (Cj (Z2 hu (pv 6) (pv 1))) (Ae (Al BZ)) Az) (Ac (HJ hu (pv 1) (pv 6) (pv 3) rfl) (Ae (HJ hu (pv 2) (pv 6) (pv 7) rfl))))))))) (Ac (Bt (Hk (Ea (Bl (Ow T) hr rfl (Aa (pv 2) (Ad))))) (Ae (Al BZ)) Az) (Ae (Al (pv 1))))))),?_⟩
  intro dO hdO dT hdT
  have s1:Ag H (upd H dO (.dT [])):=Ag.new hdO
  have s2:Ag (upd H dO (.dT [])) (upd (upd H dO (.dT [])) dT (.dT [])):=Ag.new hdT
  have ndT:H dT=none:=s1.free hdT
  have nOT:dO ≠ dT:=fun z=>by rw [<- z,Ab] at hdT; cases hdT
  have hO0:upd (upd H dO (.dT [])) dT (.dT []) dO=some (.dT (Ao [])):=s2 _ _ Ab
  have hT0:upd (upd H dO (.dT [])) dT (.dT []) dT=some (.dT (Ao [])):=Ab
  have s0:=s1.trans s2
  generalize upd (upd H dO (.dT [])) dT (.dT [])=H0 at s0 hO0 hT0
  refine ⟨_,rfl,a,_,rfl,SqL.of (s0 _ _ ha),Qj (K:=K) (a:=a) (xs:=as.map V.ref)
   (fun i σ H'=>∃ (v3 v4 v5 v6 v7:Option V) (O E:List (P3 × Int)),σ=[some (.ref a),some (.ref dO),some (.ref dT),v3,v4,v5,v6,v7]/\Ag H H'/\H' dO=some (.dT (Ao O))/\H' dT=some (.dT (Ao E))/\O.map (·.1)=E.map (·.1)/\(E.map (·.1)).Nodup /\
    E.Perm (Cp c (b.lines.take i))/\(∀ q n,(q,n) ∈ O ↔ ∃ j:Nat,n=(j:Int)/\Own c (b.lines.take i) j q)/\(∀ l ∈ b.lines.take i,l.inRoom c=true)/\E.length <= 4608 * i)
   ⟨none,none,none,none,none,[],[],rfl,s0,hO0,hT0,rfl,.nil,.nil,fun q n=>⟨fun z=>(List.not_mem_nil z).elim,fun ⟨j,_,l,z,_⟩=>by simp at z⟩,fun l hl=>by simp at hl,Nat.zero_le _⟩
   (fun i σ H' _ ⟨_,_,_,_,_,_,_,_,sm,_⟩=>SqL.of (sm _ _ ha)) ?_ ?_⟩
  ·rintro i x σ H' tt hx ⟨v3',v4,v5,v6,v7,O,E,rfl,sm,hO,hE,hOE,hnd,hperm,hown,hroom,aid⟩ hT
   obtain ⟨ad,had,rfl⟩:∃ q,as[i]? = some q/\x = .ref q:=by
    rw [List.getElem?_map] at hx
    cases e:as[i]? with
    | none=>rw [e] at hx; cases hx
    | some q=>rw [e] at hx; exact ⟨q,rfl,(Option.some.inj hx).symm⟩
   obtain ⟨l,hl,_⟩:=BW hls had
   have hil:i < b.lines.length:=(List.getElem?_eq_some_iff.mp hl).1
   obtain ⟨ad',dx,q,p,akI,hline,hpc,hpe,amc⟩:=part i l hl
   rw [had] at akI
   cases akI
   have akx:l.of c=p.turned l.r:=by unfold Br.Line.of; rw [hpe]
   have st:Ag H' (upd H' tt (.tup [.int (i:Nat),.ref ad])):=Ag.new hT
   refine ⟨tt,_,rfl,SqT.of Ab,rfl,_,_,rfl,_,_,rfl,rfl,?_⟩
   have sm1:=sm.trans st
   have hO1:=st _ _ hO
   have hE1:=st _ _ hE
   generalize upd H' tt (.tup [.int (i:Nat),.ref ad])=H1 at sm1 hO1 hE1
   clear st
   have hl1:=sm1 _ _ hline
   refine ⟨_,rfl,ad,Aq,dx,_,_,rfl,hl1,T.Ey,T.Tz,rfl,_,rfl,ad,Aq,dx,_,_,rfl,hl1,T.Ey,T.Qx,rfl,
    q,p,l.r,rfl,⟨cellsOf p,(hpc.same sm1).at_,.refl _⟩,hpc.full,Nat.le_trans (hr3 l (List.mem_of_getElem? hl)) (by decide),fun v2 H2 s2 ⟨y,ev2,es,hpy,hes⟩=>?_⟩
   subst ev2
   have sm2:=sm1.trans s2
   have hl2:=sm2 _ _ hline
   have akL:(decide ((l.x:Int) + ((p.turned l.r).wide:Int) <= 64) && (decide ((l.y:Int) + ((p.turned l.r).deep:Int) <= 64) && decide ((l.z:Int) + ((p.turned l.r).high:Int) <= 96)))=l.inRoom c:=by
    unfold Br.Line.inRoom
    rw [akx]
    congr 1
    ·rw [decide_eq_decide]; show _ ↔ _ <= 64; omega
    ·congr 1
     ·rw [decide_eq_decide]; show _ ↔ _ <= 64; omega
     ·rw [decide_eq_decide]; show _ ↔ _ <= 96; omega
   refine ⟨_,rfl,_,rfl,ad,y,_,_,_,_,_,_,_,_,_,es,rfl,⟨dx,hl2⟩,hpy,fun ama H3 s3 ev3=>⟨l.inRoom c,by rw [<- akL]; exact ev3,?_⟩⟩
   have sm3:=sm2.trans s3
   refine BP (fun hin=>?_) (fun hin=>?_)
   ·refine k _ _ sm3 (bad (fun z=>?_) _)
    rw [Bool.not_eq_true'] at hin
    have:=z.1 l (List.mem_of_getElem? hl)
    rw [hin] at this
    cases this
   have abt:l.inRoom c=true:=by simpa using hin
   have akB:(es.map (·.1)).Nodup:=(hes.map _).nodup_iff.mpr (Mx.keys_nodup _)
   refine ⟨_,rfl,_,rfl,ad,y,_,_,_,_,_,_,_,_,_,es,rfl,⟨dx,s3 _ _ hl2⟩,hpy.same s3,akB,fun v4' H4 s4 ⟨o,ev4,nO4,ho⟩=>?_⟩
   subst ev4
   refine ⟨o,_,rfl,ho,fun od=>?_⟩
   have sm4:=sm3.trans s4
   have nHo:H o=none:=sm3.free nO4
   have c4:=(s2.trans s3).trans s4
   have hO4:=c4 _ _ hO1
   have hE4:=c4 _ _ hE1
   have hFp:(es.map (mvX l.x l.y l.z)).Perm (Bg c l):=by
    have e:Bg c l=(cellsOf (p.turned l.r)).map (mvX l.x l.y l.z):=by unfold Bg; rw [akx]; rfl
    rw [e]
    exact hes.map _
   have hFn:=YZ (x:=l.x) (y:=l.y) (z:=l.z) akB
   have hFl:(es.map (mvX l.x l.y l.z)).length <= 4608:=by
    rw [List.length_map]
    obtain ⟨_,_,_,_,_,_,hle⟩:=hpy
    exact hle
   generalize es.map (mvX l.x l.y l.z)=F at ho hFp hFn hFl
   have noO:dO ≠ o:=fun z=>by rw [z] at hO1; rw [(s2.trans s3).free (by exact nO4:H3 o=none)] at hO1; cases hO1
   have noT:dT ≠ o:=fun z=>by rw [z] at hE1; rw [(s2.trans s3).free (by exact nO4:H3 o=none)] at hE1; cases hE1
   have hO5:upd H4 o (.frz od (.dT (Ao F))) dO=some (.dT (Ao O)):=by rw [Ah noO]; exact hO4
   have hE5:upd H4 o (.frz od (.dT (Ao F))) dT=some (.dT (Ao E)):=by rw [Ah noT]; exact hE4
   have ho5:upd H4 o (.frz od (.dT (Ao F))) o=some (.frz od (.dT (Ao F))):=Ab
   have sm5:Ag H (upd H4 o (.frz od (.dT (Ao F)))):=Ag.Ef nHo sm4
   generalize upd H4 o (.frz od (.dT (Ao F)))=H5 at hO5 hE5 ho5 sm5
   refine Fp (kvs:=Ao F)
    (fun j σ H'=>∃ (v6 v7:Option V),σ=[some (.ref a),some (.ref dO),some (.ref dT),some (.int (i:Nat)),some (.ref ad),some (.ref y),v6,v7]/\Ag H H'/\H' o=some (.frz od (.dT (Ao F)))/\H' dO=some (.dT (Ao (O ++ (F.take j).map fun x=>(x.1,(i:Int)))))/\H' dT=some (.dT (Ao (E ++ F.take j)))/\((E ++ F.take j).map (·.1)).Nodup)
    ⟨_,_,rfl,sm5,ho5,by rw [List.take_zero,List.map_nil,List.append_nil]; exact hO5,by rw [List.take_zero,List.append_nil]; exact hE5,by rw [List.take_zero,List.append_nil]; exact hnd⟩ (fun j σ H' _ ⟨_,_,_,_,h,_⟩=>h) ?_ ?_
   ·rintro j kk v σ H6 t6 q6 hkv ⟨v6,v7,rfl,sm6,ho6,hO6,hE6,ahC⟩ hq6 hT6
    obtain ⟨pl,cc,hF,rfl,rfl⟩:=GR hkv
    have sn:Ag H6 (upd H6 t6 (.tup [.ref q6,.int cc])):=Ag.new hT6
    refine ⟨t6,_,rfl,SqT.of Ab,rfl,_,_,rfl,_,_,rfl,rfl,?_⟩
    have hq7:=sn _ _ hq6
    have sm7:=sm6.trans sn
    have ho7:=sn _ _ ho6
    have hO7:=sn _ _ hO6
    have hE7:=sn _ _ hE6
    generalize upd H6 t6 (.tup [.ref q6,.int cc])=H7 at hq7 sm7 ho7 hO7 hE7
    have abB:(O ++ (F.take j).map fun x=>(x.1,(i:Int))).map (·.1)=(E ++ F.take j).map (·.1):=by
     rw [List.map_append,List.map_append,hOE,List.map_map]; rfl
    refine ⟨_,rfl,_,rfl,dO,_,rfl,.inr ⟨_,t3 pl,q6,.inl hO7,rfl,hq7,rfl⟩,_,rfl,?_⟩
    rw [Gr,abB]
    refine BP (fun hin=>?_) (fun hin=>?_)
    ·refine k _ _ sm7 (bad (fun z=>?_) _)
     have hin:=of_decide_eq_true hin
     have hnF:pl ∉ (F.take j).map (·.1):=by
      rw [List.map_take]
      exact Jx hFn (by rw [List.getElem?_map,hF]; rfl)
     have alP:pl ∈ E.map (·.1):=by
      rw [List.map_append,List.mem_append] at hin
      exact hin.resolve_right hnF
     have m1:pl ∈ (Cp c (b.lines.take i)).map (·.1):=(hperm.map _).mem_iff.mp alP
     have m2:pl ∈ (Bg c l).map (·.1):=(hFp.map _).mem_iff.mp (List.mem_map.mpr ⟨(pl,cc),List.mem_of_getElem? hF,rfl⟩)
     have hz:=z.2.1
     rw [afo (i:=i + 1),abW hl,List.map_append,List.map_append,List.nodup_append] at hz
     have hz2:=hz.1
     rw [List.nodup_append] at hz2
     exact hz2.2.2 pl m1 pl m2 rfl
    have abt:pl ∉ (E ++ F.take j).map (·.1):=fun z=>hin (decide_eq_true z)
    have hlb:(E ++ F.take j).length <= 4608 * 257:=by
     rw [List.length_append,List.length_take]
     have:4608 * i <= 4608 * 256:=Nat.mul_le_mul (Nat.le_refl _) (by omega)
     omega
    have hlO:(O ++ (F.take j).map fun x=>(x.1,(i:Int))).length=(E ++ F.take j).length:=by
     have:=congrArg List.length abB
     rwa [List.length_map,List.length_map] at this
    refine ⟨_,rfl,_,rfl,_,rfl,dO,_,rfl,Uq.t (k:=t3 pl) hO7 hq7 (by rw [Cd,hlO]; exact Bx (by omega)),?_⟩
    rw [Lq (by rw [abB]; exact abt)]
    have hq8:upd H7 dO (.dT (Ao (O ++ ((F.take j).map fun x=>(x.1,(i:Int))) ++ [(pl,(i:Int))]))) q6=some (.tup ((t3 pl).map kV)):=by rw [Ah (Gg hq7 hO7 (by intro z; cases z))]; exact hq7
    have hE8:upd H7 dO (.dT (Ao (O ++ ((F.take j).map fun x=>(x.1,(i:Int))) ++ [(pl,(i:Int))]))) dT=some (.dT (Ao (E ++ F.take j))):=by rw [Ah nOT.symm]; exact hE7
    refine ⟨_,rfl,_,rfl,_,rfl,dT,_,rfl,Uq.t (k:=t3 pl) hE8 hq8 (by rw [Cd]; exact Bx (by omega)),?_⟩
    rw [Lq abt]
    have etk:F.take (j + 1)=F.take j ++ [(pl,cc)]:=by rw [List.take_succ,hF]; rfl
    refine ⟨_,_,rfl,Ag.Ef ndT (Ag.Ef hdO sm7),?_,?_,?_,?_⟩
    ·rw [Ah noT.symm,Ah noO.symm]; exact ho7
    ·rw [Ah nOT,Ab,etk,List.map_append,List.append_assoc]; rfl
    ·rw [Ab,etk,List.append_assoc]
    ·rw [etk,<- List.append_assoc,List.map_append]
     exact Z3 ahC abt
   ·rintro σ H6 ⟨v6,v7,rfl,sm6,ho6,hO6,hE6,ahC⟩
    rw [Cd,List.take_length] at hO6 hE6 ahC
    refine ⟨_,_,_,_,_,O ++ F.map (fun x=>(x.1,(i:Int))),E ++ F,rfl,sm6,hO6,hE6,?_,ahC,?_,?_,?_,?_⟩
    ·rw [List.map_append,List.map_append,hOE,List.map_map]; rfl
    ·rw [abW hl]
     exact hperm.append hFp
    ·intro q n
     rw [List.mem_append,hown]
     constructor
     ·rintro (⟨j,e,ho⟩ | h)
      ·rw [K7] at ho
       exact ⟨j,e,K7.mpr ⟨by omega,ho.2⟩⟩
      ·obtain ⟨x,hx,e⟩:=List.mem_map.mp h
       cases e
       refine ⟨i,rfl,K7.mpr ⟨by omega,l,hl,?_⟩⟩
       exact (hFp.map _).mem_iff.mp (List.mem_map_of_mem hx)
     ·rintro ⟨j,e,ho⟩
      rw [K7] at ho
      by_cases hji:j < i
      ·exact .inl ⟨j,e,K7.mpr ⟨hji,ho.2⟩⟩
      ·have:j=i:=by omega
       subst this
       obtain ⟨_,l',hl',hq⟩:=ho
       rw [hl] at hl'
       cases hl'
       have:=(hFp.map (·.1)).mem_iff.mpr hq
       obtain ⟨x,hx,e2⟩:=List.mem_map.mp this
       exact .inr (List.mem_map.mpr ⟨x,hx,by rw [e,<- e2]⟩)
    ·intro l' hl'
     rw [List.take_succ,hl] at hl'
     rcases List.mem_append.mp hl' with h | h
     ·exact hroom l' h
     ·have:l'=l:=by simpa using h
      rw [this]; exact abt
    ·rw [List.length_append]; omega
  ·rintro σ H' ⟨v3',v4,v5,v6,v7,O,E,rfl,sm,hO,hE,hOE,hnd,hperm,hown,hroom,aid⟩
   rw [List.length_map,hal,List.take_length] at hperm hown hroom
   rw [List.length_map,hal] at aid
   refine ⟨_,rfl,dT,E,rfl,hE,hnd,fun v1 H1 s1' ⟨bb,ev,hb⟩=>⟨bb,ev,?_⟩⟩
   rw [acP hperm] at hb
   cases bb with
   | false =>
    exact Dy (k _ _ (sm.trans s1') (bad (fun z=>Bool.false_ne_true (hb.mpr z.2.2)) _))
   | true =>
    refine Fg ⟨_,rfl,k _ _ (sm.trans s1') ?_⟩
    have hno:(b.wrong c).isSome=false:=hW.mpr ⟨hroom,(hperm.map _).nodup_iff.mp hnd,hb.mp rfl⟩
    unfold agQ
    rw [if_neg (by rw [hno]; exact Bool.false_ne_true)]
    refine ⟨dO,O,rfl,s1' _ _ hO,by rw [hOE]; exact hnd,?_,hown⟩
    have:O.length=E.length:=by
     have:=congrArg List.length hOE
     rwa [List.length_map,List.length_map] at this
    have:4608 * b.lines.length <= 4608 * 256:=Nat.mul_le_mul (Nat.le_refl _) h256
    omega
end
open Mx (P3 mv Own Full lt3 col Sw RQ abX Tf)
open Br (Bytes tower)
theorem ah0 (m n:Nat):Builtin.bitAnd (m:Int) (n:Int)=((m &&& n:Nat):Int):=by
 rw [bitAnd_pp (by omega) (by omega),Int.toNat_natCast,Int.toNat_natCast]
theorem Rn (m n:Nat):Builtin.bitOr (m:Int) (n:Int)=((m ||| n:Nat):Int):=by
 rw [akY.agI (by omega) (by omega),Int.toNat_natCast,Int.toNat_natCast]
theorem ahZ (m i:Nat):Builtin.bitAnd (m:Int) (Builtin.bitNot ((2 ^ i:Nat):Int))=((Tf m i:Nat):Int):=by
 unfold Tf
 generalize 2 ^ i=x
 have e1:Builtin.bitNot (Builtin.bitNot (x:Int))=(x:Int):=by unfold Builtin.bitNot; omega
 have h2:Builtin.bitNot (x:Int) < 0:=by unfold Builtin.bitNot; omega
 unfold Builtin.bitAnd
 rw [decide_eq_true (by omega:(0:Int) <= (m:Int)),decide_eq_false (by omega:¬ (0:Int) <= Builtin.bitNot (x:Int))]
 dsimp only
 rw [e1,Int.toNat_natCast,Int.toNat_natCast]
 have:m &&& x <= m:=Nat.and_le_left
 omega
theorem af6 (m i:Nat):decide (V.int (Builtin.bitAnd (m:Int) ((2 ^ i:Nat):Int))=V.int 0) = !(m.testBit i):=by
 rw [ah0,Mx.ad4]
 cases h:m.testBit i with
 | true =>
  rw [if_pos rfl]
  have:0 < 2 ^ i:=Nat.two_pow_pos i
  have h2:¬ V.int ((2 ^ i:Nat):Int)=V.int 0:=fun z=>by injection z with z; omega
  rw [decide_eq_false h2]; rfl
 | false =>
  rw [if_neg Bool.false_ne_true]; rfl
def Aw (U:List Nat):List V:=U.map fun m=>.int ((m:Nat):Int)
theorem Ba (U:List Nat):(Aw U).length=U.length:=List.length_map _
theorem Dl {U:List Nat} {i:Nat} (h:i < U.length):(Aw U)[i]? = some (.int ((U.getD i 0:Nat):Int)):=by
 unfold Aw
 rw [List.getElem?_map,List.getD_eq_getElem?_getD,List.getElem?_eq_getElem h]
 rfl
theorem Rr (U:List Nat) (i m:Nat):(Aw U).set i (.int ((m:Nat):Int))=Aw (U.set i m):=by
 unfold Aw
 rw [List.map_set]
theorem Mv {n i:Nat} (h:i < n):ixN n (i:Int)=some i:=by
 unfold ixN
 rw [if_pos (by omega),if_pos (by omega),Int.toNat_natCast]
def t2 (c:Int × Int):List Key:=[.inl c.1,.inl c.2]
theorem aix {a b:Int × Int} (h:t2 a=t2 b):a=b:=by
 obtain ⟨x,y⟩:=a
 obtain ⟨x',y'⟩:=b
 simp [t2] at h
 rw [h.1,h.2]
def lnO (O:List (P3 × Int)) (q:P3):Nat:=match Er (Ao O) (t3 q) with
 | some (.int n)=>n.toNat
 | _=>0
theorem af8 {c:Br.Catalogue} {ls:List Br.Line} {O:List (P3 × Int)} (h:Xa c ls O) {q:P3} (hq:q ∈ O.map (·.1)):Er (Ao O) (t3 q)=some (.int ((lnO O q:Nat):Int))/\Own c ls (lnO O q) q:=by
 obtain ⟨x,hx,rfl⟩:=List.mem_map.mp hq
 have e:=Fz h.nd (q:=x.1) (t:=x.2) hx
 obtain ⟨j,hj,ho⟩:=(h.own x.1 x.2).mp hx
 have e2:lnO O x.1=j:=by unfold lnO; rw [e,hj]; simp
 rw [e2,e,hj]
 exact ⟨rfl,ho⟩
theorem ahv {c:Br.Catalogue} {ls:List Br.Line} {O:List (P3 × Int)} (h:Xa c ls O) {q:P3} {j:Nat}:(q ∈ O.map (·.1)/\lnO O q=j) ↔ Own c ls j q:=by
 constructor
 ·rintro ⟨hq,rfl⟩
  exact (af8 h hq).2
 ·intro ho
  have hm:=(h.own q (j:Int)).mpr ⟨j,rfl,ho⟩
  refine ⟨List.mem_map_of_mem (f:=(·.1)) hm,?_⟩
  unfold lnO
  rw [Fz h.nd hm]
  simp
theorem acF {c:Br.Catalogue} {ls:List Br.Line} {j:Nat} {q:P3} (h:Own c ls j q):j < ls.length:=by
 obtain ⟨l,hl,_⟩:=h
 exact (List.getElem?_eq_some_iff.mp hl).1
theorem agF (O:List (P3 × Int)):Ao O=(O.map fun x=>(x.1,V.int x.2)).map k3:=by unfold Ao; rw [List.map_map]; rfl
section
variable {P:Program} {w:World} {K:PySem.W.Frag} {mg:Str->Option Value} {base:Heap} {Ak Aq Af:Addr}
def aco:Sp:=fun vs H Q _=>∃ n:Nat,vs=[.int (n:Int)]/\n <= 1000/\Out H Q (fun v _=>v = .int ((2 ^ n:Nat):Int))
theorem acu:Ar ["line"] ["line"] (Aj Yw):=⟨rfl,rfl,rfl,by decide +kernel,rfl,by decide +kernel,by decide +kernel⟩
theorem Jq (T:Txt K mg Ak Aq Af):Cl P w K mg base 1 "mask_of" ["line"] aco:=by
 refine T.ae4.ok acu (fun vs H Q E h=>?_) (fun f cdv A outer s H vs Q E hr h=>?_)
 ·obtain ⟨n,rfl,_⟩:=h
  rfl
 ·obtain ⟨n,rfl,hn,k⟩:=h
  refine ⟨_,(Ae (Al (BV aiM Am (pv 0)))),?_⟩
  refine ⟨_,rfl,_,_,rfl,rfl,⟨by omega,by omega,by decide⟩,k _ _ (Ag.refl _) ?_⟩
  show V.int (1 * 2 ^ (n:Int).toNat)=V.int ((2 ^ n:Nat):Int)
  rw [Int.toNat_natCast,Int.one_mul]
  push_cast
  rfl
def Xw:Sp:=fun vs H Q _=>∃ n m:Nat,vs=[.int (n:Int),.int (m:Int)]/\n <= 1000/\Out H Q (fun v _=>v = .bl (m.testBit n))
theorem Xz:Ar ["line", "mask"] ["line", "mask"] (Aj PL):=⟨rfl,rfl,rfl,by decide +kernel,rfl,by decide +kernel,by decide +kernel⟩
theorem G9 (T:Txt K mg Ak Aq Af):Cl P w K mg base 2 "is_in_mask" ["line", "mask"] Xw:=by
 refine T.aal.ok Xz (fun vs H Q E h=>?_) (fun f cdv A outer s H vs Q E hr h=>?_)
 ·obtain ⟨n,m,rfl,_⟩:=h
  rfl
 ·obtain ⟨n,m,rfl,hn,k⟩:=h
  refine ⟨_,(Ae (Al (FQ YM (BV acJ (pv 1) (Bl (Jq T) hr rfl (Aa (pv 0) (Ad)))) Am (Bu _)))),?_⟩
  refine ⟨_,rfl,_,rfl,n,rfl,hn,fun v H1 s1 ev=>?_⟩
  subst ev
  refine ⟨_,_,rfl,rfl,rfl,k _ _ s1 ?_⟩
  rw [af6,Bool.not_not]
structure MP (c:Br.Catalogue) (b:Br.Build) (U:List Nat):Prop where
 len:U.length=b.lines.length
 bit:∀ i,i < b.lines.length->∀ j,(U.getD i 0).testBit j=true ↔ j ∈ (tower c b).below i
def Vh:Sp:=fun vs H Q _=>∃ (d:Addr) (O:List (P3 × Int)) (c:Br.Catalogue) (b:Br.Build),vs=[.ref d,.int (b.lines.length:Int)]/\H d=some (.dT (Ao O))/\Xa c b.lines O/\b.lines.length <= 256/\(∀ l ∈ b.lines,Full (l.of c)) /\
 Out H Q (fun v H'=>∃ l U,v = .ref l/\H' l=some (.lst (Aw U))/\MP c b U)
theorem KC:Ar ["owners", "count", "under", "seen", "place", "line", "column", "below", "mask"] ["owners", "count"] (Aj Ib):=⟨rfl,rfl,rfl,by decide +kernel,rfl,by decide +kernel,by decide +kernel⟩
theorem XX (T:Txt K mg Ak Aq Af):Cl P w K mg base 2 "lines_under" ["owners", "count"] Vh:=by
 refine T.XQ.ok KC (fun vs H Q E h=>?_) (fun f cdv A outer s H vs Q E hr h=>?_)
 ·obtain ⟨d,O,c,b,rfl,_⟩:=h
  rfl
 ·obtain ⟨d,O,c,b,rfl,hd,hO,h256,hf,k⟩:=h
  have nd:=KC.nd
  have hu:=Jk hr
  refine ⟨_,(Ac (Av (i:=2) nd rfl (Or.inl rfl) (BV acH (DN (Aa (Am) (Ad))) (pv 1))) (Ac (Av (i:=3) nd rfl (Or.inl rfl) FP) (Ac (Cr PassesOwn.never rfl (Gz (Be (aar rfl) (by rfl) T.W4 Qs (Aa (pv 0) (Ad)))) (Bb (i:=4) nd rfl (Or.inl rfl))
    (Ac (Av (i:=5) nd rfl (Or.inl rfl) (ahj hu (pv 0) (pv 4) (fun _ _=>rfl))) (Ac (Av (i:=6) nd rfl (Or.inl rfl) (KY aiB (pv 4) Uw (Mm Am))) (Ac (Av (i:=7) nd rfl (Or.inl rfl) (aa7 hu (pv 3) (pv 6) Am ⟨rfl,rfl,rfl,rfl⟩)) (Ac (ZX (BV YL (Ci BJ (pv 2) (pv 5) (fun _ _=>rfl)) (pv 7)) (Z0 (pv 2) (pv 5) set_list)) (Ae (HJ hu (pv 3) (pv 6) (BV YL (pv 7) (Bl (Jq T) hr rfl (Aa (pv 5) (Ad)))) rfl))))))) (Ae (Al (YC rfl nd (Mp rfl T.Eo (Aa (pv 2) (Ad))) (Gi (own:=[("line",5),("mask",8)]) (show WY ["owners", "count", "under", "seen", "place", "line", "column", "below", "mask"] (Aj Ib) _ [("line",5),("mask",8)] = true from by decide +kernel))
     (fun _ _ _ _ _=>(show PG _ _ (ajl K 2 (aby (S9 5) (aby (S9 8) ajm))) from FN rfl (Bo (Bb (i:=5) nd rfl (Or.inl rfl)) (Bo (Bb (i:=8) nd rfl (Or.inl rfl)) Eh)))) (fun _ _ _ _ _=>JB)
     (fun _ _ _ _ _=>BV acJ (pv 8) (Sq afv (Bl (Jq T) hr rfl (Aa (pv 5) (Ad))))))))))),?_⟩
  refine ⟨(by show 1 <= sizeLine; decide),fun l0 hl0=>⟨_,rfl,l0,_,_,rfl,rfl,Ab,by omega,by omega,?_,fun lu hlu=>?_⟩⟩
  ·show 1 * (b.lines.length:Int).toNat <= sizeLine
   rw [Int.toNat_natCast,sizeLine_eq]; omega
  have ajq:(List.replicate (b.lines.length:Int).toNat [V.int 0]).flatten=Aw (List.replicate b.lines.length 0):=by
   rw [Int.toNat_natCast]
   unfold Aw
   induction b.lines.length with
   | zero=>rfl
   | succ n ih=>rw [List.replicate_succ,List.flatten_cons,ih,List.replicate_succ]; rfl
  rw [ajq]
  intro ds hds
  have s1:Ag H (upd H l0 (.lst [.int 0])):=Ag.new hl0
  have s2:=Ag.new (o:=.lst (Aw (List.replicate b.lines.length 0))) hlu
  have s3:=Ag.new (o:=.dT []) hds
  have nlu:H lu=none:=s1.free hlu
  have nds:H ds=none:=(s1.trans s2).free hds
  have nud:lu ≠ ds:=fun z=>by rw [<- z,Ab] at hds; cases hds
  have ajb:upd (upd (upd H l0 (.lst [.int 0])) lu (.lst (Aw (List.replicate b.lines.length 0)))) ds (.dT []) lu=some (.lst (Aw (List.replicate b.lines.length 0))):=s3 _ _ Ab
  have ajh:upd (upd (upd H l0 (.lst [.int 0])) lu (.lst (Aw (List.replicate b.lines.length 0)))) ds (.dT []) ds=some (.dT []):=Ab
  have sm3:=(s1.trans s2).trans s3
  generalize upd (upd (upd H l0 (.lst [.int 0])) lu (.lst (Aw (List.replicate b.lines.length 0)))) ds (.dT [])=H3 at ajb ajh sm3
  refine ⟨_,rfl,d,O.map (fun x=>(x.1,V.int x.2)),rfl,.inl (by rw [<- agF]; exact sm3 _ _ hd),fun l qs ks hl hperm hpw aib=>?_⟩
  have abB:(O.map fun x=>(x.1,V.int x.2)).map (·.1)=O.map (·.1):=by rw [List.map_map]; rfl
  rw [abB] at hperm
  have s4:Ag H3 (upd H3 l (.lst (qs.map V.ref))):=Ag.new hl
  have hl4:upd H3 l (.lst (qs.map V.ref)) l=some (.lst (qs.map V.ref)):=Ab
  have aja:=s4 _ _ ajb
  have ajg:=s4 _ _ ajh
  have sm4:=sm3.trans s4
  have nll:l ≠ lu:=fun z=>by rw [z,ajb] at hl; cases hl
  have nld:l ≠ ds:=fun z=>by rw [z,ajh] at hl; cases hl
  have agm:=HN s4 aib
  generalize upd H3 l (.lst (qs.map V.ref))=H4 at s4 hl4 aja ajg sm4 agm
  have hqk:=Bd aib
  have al8:ks.length=O.length:=by rw [hperm.length_eq,List.length_map]
  have al9:=hO.len
  refine ⟨l,rfl,⟨_,SqL.of hl4⟩,Ho (K:=K) (a:=l) (xs:=qs.map V.ref)
   (fun i σ H'=>∃ (v4 v5 v6 v7:Option V) (U:List Nat) (kvs:List (List Key × V)) (f:Int × Int->Nat),σ=[some (.ref d),some (.int (b.lines.length:Int)),some (.ref lu),some (.ref ds),v4,v5,v6,v7,none] /\
    (∀ x o,H4 x=some o->x ≠ lu->x ≠ ds->H' x=some o)/\Ag H H'/\H' lu=some (.lst (Aw U))/\H' ds=some (.dT kvs)/\abX b.lines.length ((ks.take i).map fun q=>(q,lnO O q)) U/\RQ ((ks.take i).map fun q=>(q,lnO O q)) f /\
    (∀ cc,(Er kvs (t2 cc)).getD (.int 0) = .int ((f cc:Nat):Int))/\kvs.length <= i)
   ⟨none,none,none,none,_,[],fun _=>0,rfl,fun x o e _ _=>e,sm4,aja,ajg,Mx.agZ _,Mx.afF,fun cc=>rfl,Nat.zero_le _⟩ (fun i σ H' _ ⟨_,_,_,_,_,_,_,_,kp,_⟩=>SqL.of (kp _ _ hl4 nll nld)) ?_ ?_⟩
  ·rintro i x σ H' hx ⟨v4,v5,v6,v7,U,kvs,f,rfl,kp,sm,aeQ,akD,hU,hS,hkf,hkl⟩
   obtain ⟨q,hq,rfl⟩:∃ q,qs[i]? = some q/\x = .ref q:=by
    rw [List.getElem?_map] at hx
    cases e:qs[i]? with
    | none=>rw [e] at hx; cases hx
    | some q=>rw [e] at hx; exact ⟨q,rfl,(Option.some.inj hx).symm⟩
   obtain ⟨pl,hpl,hqt⟩:=BW agm hq
   have hil:i < ks.length:=(List.getElem?_eq_some_iff.mp hpl).1
   have hmem:pl ∈ O.map (·.1):=hperm.mem_iff.mp (List.mem_of_getElem? hpl)
   obtain ⟨hval,hown⟩:=af8 hO hmem
   have hln:=acF hown
   have hq':H' q=some (.tup (v3 pl)):=kp _ _ hqt (Gg hqt aja (by intro z; cases z)) (Gg hqt ajg (by intro z; cases z))
   have hd':=sm _ _ hd
   have etk:(ks.take (i + 1)).map (fun q=>(q,lnO O q))=(ks.take i).map (fun q=>(q,lnO O q)) ++ [(pl,lnO O pl)]:=by rw [List.take_succ,hpl,List.map_append]; rfl
   refine ⟨_,rfl,_,rfl,d,_,rfl,.inr ⟨Ao O,t3 pl,q,.inl hd',rfl,hq',hval.symm⟩,?_⟩
   refine ⟨_,rfl,_,rfl,q,_,rfl,SqT.of hq',(show ¬ (HT.sIx 3 0 none=0/\HT.sIx 3 3 (some 2)=3) by decide),fun pc hpc=>?_⟩
   have agw:Kh (v3 pl) none (some 2)=(t2 (col pl)).map kV:=rfl
   rw [agw]
   have s5:Ag H' (upd H' pc (.tup ((t2 (col pl)).map kV))):=Ag.new hpc
   have ahA:upd H' pc (.tup ((t2 (col pl)).map kV)) pc=some (.tup ((t2 (col pl)).map kV)):=Ab
   have ahD:=s5 _ _ aeQ
   have ahF:=s5 _ _ akD
   have sm5:=sm.trans s5
   have kp5:∀ x o,H4 x=some o->x ≠ lu->x ≠ ds->upd H' pc (.tup ((t2 (col pl)).map kV)) x=some o:=fun x o e n1 n2=>s5 _ _ (kp x o e n1 n2)
   generalize upd H' pc (.tup ((t2 (col pl)).map kV))=H5 at ahA ahD ahF sm5 kp5
   refine ⟨_,rfl,ds,rfl,.inr ⟨_,.inl ahF⟩,_,rfl,_,.inr ⟨kvs,t2 (col pl),pc,.inl ahF,rfl,ahA,rfl⟩,?_⟩
   rw [hkf]
   have aic:U.length=b.lines.length:=hU.len
   refine ⟨_,rfl,_,rfl,lu,_,_,_,rfl,rfl,SqL.of ahD,LK rfl (Dl (by omega)),_,rfl,_,_,rfl,rfl,?_⟩
   dsimp only
   rw [Rn]
   refine ⟨_,rfl,_,rfl,lu,_,_,lnO O pl,rfl,rfl,ahD,Mv (by rw [Ba]; omega),?_⟩
   rw [Rr]
   have aks:upd H5 lu (.lst (Aw (U.set (lnO O pl) (U.getD (lnO O pl) 0 ||| f (col pl))))) pc=some (.tup ((t2 (col pl)).map kV)):=by rw [Ah (Gg ahA ahD (by intro z; cases z))]; exact ahA
   have akC:upd H5 lu (.lst (Aw (U.set (lnO O pl) (U.getD (lnO O pl) 0 ||| f (col pl))))) ds=some (.dT kvs):=by rw [Ah nud.symm]; exact ahF
   have akt:upd H5 lu (.lst (Aw (U.set (lnO O pl) (U.getD (lnO O pl) 0 ||| f (col pl))))) lu=some (.lst (Aw (U.set (lnO O pl) (U.getD (lnO O pl) 0 ||| f (col pl))))):=Ab
   have sm6:Ag H (upd H5 lu (.lst (Aw (U.set (lnO O pl) (U.getD (lnO O pl) 0 ||| f (col pl)))))):=Ag.Ef nlu sm5
   have kp6:∀ x o,H4 x=some o->x ≠ lu->x ≠ ds->upd H5 lu (.lst (Aw (U.set (lnO O pl) (U.getD (lnO O pl) 0 ||| f (col pl))))) x=some o:=fun x o e n1 n2=>by rw [Ah n1]; exact kp5 x o e n1 n2
   generalize upd H5 lu (.lst (Aw (U.set (lnO O pl) (U.getD (lnO O pl) 0 ||| f (col pl)))))=H6 at aks akC akt sm6 kp6
   refine ⟨_,rfl,_,rfl,lnO O pl,rfl,by omega,fun v7' H7 s7 ev7=>?_⟩
   subst ev7
   refine ⟨_,_,rfl,rfl,_,rfl,_,rfl,ds,_,rfl,Uq.t (k:=t2 (col pl)) (s7 _ _ akC) (s7 _ _ aks) (Bx (by omega)),?_⟩
   dsimp only
   rw [Rn]
   refine ⟨_,_,_,_,_,_,fun cc=>if cc=col pl then f (col pl) ||| 2 ^ lnO O pl else f cc,rfl,fun x o e n1 n2=>by rw [Ah n2]; exact s7 _ _ (kp6 x o e n1 n2),Ag.Ef nds (sm6.trans s7),by rw [Ah nud]; exact s7 _ _ akt,Ab,?_,?_,?_,?_⟩
   ·rw [etk]; exact Mx.afu hln hU hS
   ·rw [etk]; exact Mx.aes hS
   ·intro cc
    rw [aft]
    dsimp only
    by_cases e:cc=col pl
    ·rw [if_pos (by rw [e]),if_pos e]; rfl
    ·rw [if_neg (fun z=>e (aix z)),if_neg e]; exact hkf cc
   ·have:=Lh kvs (t2 (col pl)) (.int ((f (col pl) ||| 2 ^ lnO O pl:Nat):Int))
    omega
  ·rintro σ H' ⟨v4,v5,v6,v7,U,kvs,f,rfl,kp,sm,aeQ,akD,hU,hS,hkf,hkl⟩
   rw [List.length_map,hqk,List.take_length] at hU
   have aic:U.length=b.lines.length:=hU.len
   refine ⟨_,rfl,lu,_,rfl,SqL.of aeQ,fun D hD=>?_⟩
   refine abm (n:=U.length) (fun j H2=>Ag H' H2/\H2 D=some (.lst (Aw ((List.range j).map fun i=>Tf (U.getD i 0) i)))) ⟨Ag.new hD,Ab⟩
    (fun j H2 hj p=>⟨_,_,SqL.of (p.1 _ _ aeQ),Dl hj⟩) (fun H2 p=>⟨_,SqL.of (p.1 _ _ aeQ),by rw [Ba]; exact Nat.le_refl _⟩) ?_ ?_
   ·rintro j x H2 H3' hj ⟨p1,p2⟩ ⟨tt,xv,rfl,hT,rfl,hx⟩
    have hxv:xv = .int ((U.getD j 0:Nat):Int):=by
     have:=hx _ (SqL.of (p1 _ _ aeQ))
     rw [Dl hj] at this
     exact (Option.some.inj this).symm
    subst hxv
    have st:=Ag.new (o:=.tup [.int ((j:Nat):Int),.int ((U.getD j 0:Nat):Int)]) hT
    refine ⟨tt,_,rfl,SqT.of Ab,rfl,_,_,rfl,_,_,rfl,rfl,rfl,Oo ?_⟩
    refine ⟨_,rfl,_,rfl,j,rfl,by omega,fun v8 H8 s8 ev8=>⟨_,ev8,_,_,rfl,rfl,_,s8 _ _ (st _ _ p2),?_,?_,?_⟩⟩
    ·rw [Ba,List.length_map,List.length_range]; exact Bx (by omega)
    ·exact Ag.Ef hD (p1.trans (st.trans s8))
    ·rw [Ab]
     dsimp only
     rw [ahZ,List.range_succ,List.map_append]
     unfold Aw
     rw [List.map_append]
     rfl
   ·rintro H2 ⟨p1,p2⟩
    refine k _ _ (sm.trans p1) ⟨D,_,rfl,p2,by rw [List.length_map,List.length_range]; exact aic,fun i hi j=>?_⟩
    have e:(((List.range U.length).map fun i=>Tf (U.getD i 0) i).getD i 0)=Tf (U.getD i 0) i:=by
     rw [List.getD_eq_getElem?_getD,List.getElem?_map,List.getElem?_range (by omega)]; rfl
    rw [e,Mx.ae0 nat_or_add_and,Bool.and_eq_true,hU.bit i hi j,decide_eq_true_iff]
    have alG:(ks.map fun q=>(q,lnO O q)).Pairwise fun a b=>lt3 a.1 b.1:=by
     rw [List.pairwise_map]; exact hpw
    rw [Mx.aek alG,Mx.afk hf hi]
    have hmem:∀ q n,(q,n) ∈ ks.map (fun q=>(q,lnO O q)) ↔ Own c b.lines n q:=fun q n=>by
     rw [<- ahv hO,List.mem_map]
     constructor
     ·rintro ⟨a,ha,e⟩
      cases e
      exact ⟨hperm.mem_iff.mp ha,rfl⟩
     ·rintro ⟨h1,h2⟩
      exact ⟨q,hperm.mem_iff.mpr h1,by rw [h2]⟩
    constructor
    ·rintro ⟨⟨q,r,h1,h2,h3⟩,hne⟩
     rw [hmem] at h1 h2
     exact ⟨acF h2,fun z=>hne z.symm,q,r,h1,h2,h3⟩
    ·rintro ⟨_,hne,q,r,h1,h2,h3⟩
     exact ⟨⟨q,r,(hmem _ _).mpr h1,(hmem _ _).mpr h2,h3⟩,fun z=>hne z.symm⟩
open Mx (P3 mv Own Full Js TF Uy)
def QV:Sp:=fun vs H Q _=>∃ (a:Addr) (U:List Nat) (n:Nat) (R:Nat->Nat->Prop),vs=[.ref a]/\H a=some (.lst (Aw U))/\Js n R 0 U/\n <= 256 /\
 Out H Q (fun v H'=>∃ l U',v = .ref l/\H' l=some (.lst (Aw U'))/\Js n R n U')
theorem Iz:Ar ["under", "reached", "middle", "line"] ["under"] (Aj J0):=⟨rfl,rfl,rfl,by decide +kernel,rfl,by decide +kernel,by decide +kernel⟩
theorem Ui (T:Txt K mg Ak Aq Af):Cl P w K mg base 3 "lines_reached" ["under"] QV:=by
 refine T.T8.ok Iz (fun vs H Q E h=>?_) (fun f cdv A outer s H vs Q E hr h=>?_)
 ·obtain ⟨a,U,n,R,rfl,_⟩:=h
  rfl
 ·obtain ⟨a,U0,n,R,rfl,ha,hM,h256,k⟩:=h
  have nd:=Iz.nd
  refine ⟨_,(Ac (Av (i:=1) nd rfl (Or.inl rfl) (Jf aas (by rfl) T.agJ WX (Aa (pv 0) (Ad)))) (Ac (Cr PassesOwn.never rfl (Je rfl T.MN (Aa (Be Ax (by rfl) T.Dg PySem.boot_len (Aa (pv 0) (Ad))) (Ad))) (Bb (i:=2) nd rfl (Or.inl rfl))
    (Ae (Cr PassesOwn.never rfl (Je rfl T.MN (Aa (Be Ax (by rfl) T.Dg PySem.boot_len (Aa (pv 0) (Ad))) (Ad))) (Bb (i:=3) nd rfl (Or.inl rfl))
     (Ae (Bt (Ea (Bl (G9 T) hr rfl (Aa (pv 2) (Aa (Ci BJ (pv 1) (pv 3) (fun _ _=>rfl)) (Ad)))))
      (Ae (ZX (BV YL (Ci BJ (pv 1) (pv 3) (fun _ _=>rfl)) (Ci BJ (pv 1) (pv 2) (fun _ _=>rfl))) (Z0 (pv 1) (pv 3) set_list))) Az))))) (Ae (Al (pv 1))))),?_⟩
  have hl0:U0.length=n:=hM.len
  refine ⟨_,rfl,a,_,rfl,.inl (SqL.of ha),fun l hl=>?_⟩
  have s1:Ag H (upd H l (.lst (Aw U0))):=Ag.new hl
  have ha1:=s1 _ _ ha
  have hl1:upd H l (.lst (Aw U0)) l=some (.lst (Aw U0)):=Ab
  have nal:a ≠ l:=fun z=>by rw [<- z,ha] at hl; cases hl
  generalize upd H l (.lst (Aw U0))=H1 at s1 ha1 hl1
  refine ⟨_,rfl,a,_,rfl,.inl (SqL.of ha1),_,rfl,by rw [Ba]; omega,by rw [Ba]; omega,?_⟩
  rw [Ba,Int.toNat_natCast,hl0]
  refine Jm (n:=n) (fun i σ H'=>∃ (v2 v3:Option V) (U:List Nat),σ=[some (.ref a),some (.ref l),v2,v3]/\Ag H H'/\H' l=some (.lst (Aw U))/\Js n R i U)
   ⟨none,none,U0,rfl,s1,hl1,hM⟩ ?_ ?_
  ·rintro m σ H' hm ⟨v2,v3',U,rfl,sm,hlU,hMm⟩
   have ha2:=sm _ _ ha
   refine ⟨_,rfl,a,_,rfl,.inl (SqL.of ha2),_,rfl,by rw [Ba]; omega,by rw [Ba]; omega,?_⟩
   rw [Ba,Int.toNat_natCast,hl0]
   refine Jm (n:=n) (fun i σ H'=>∃ (v3:Option V) (U:List Nat),σ=[some (.ref a),some (.ref l),some (.int (m:Int)),v3]/\Ag H H'/\H' l=some (.lst (Aw U))/\TF n R m i U)
    ⟨v3',U,?_,sm,hlU,hMm.start⟩ ?_ ?_
   ·show [some (V.ref a),some (V.ref l),some (V.int (0 + (m:Int))),v3'] = _
    rw [Int.zero_add]
   ·rintro i σ H2 hi ⟨v3',U,rfl,sm,hlU,hI⟩
    have hlen:U.length=n:=hI.len
    rw [Int.zero_add]
    refine ⟨_,rfl,_,rfl,_,rfl,l,_,_,_,rfl,rfl,SqL.of hlU,LK rfl (Dl (by omega)),m,U.getD i 0,rfl,by omega,fun v H3 s3 ev=>⟨_,ev,?_⟩⟩
    have hst:=hI.step hm hi
    unfold Uy at hst
    have hl3:=s3 _ _ hlU
    refine BP (fun hb=>?_) (fun hb=>⟨_,U,rfl,sm.trans s3,hl3,?_⟩)
    ·rw [if_pos hb] at hst
     refine ⟨_,rfl,_,rfl,l,_,_,_,rfl,rfl,SqL.of hl3,LK rfl (Dl (by omega)),_,rfl,_,rfl,l,_,_,_,rfl,rfl,SqL.of hl3,LK rfl (Dl (by omega)),_,_,rfl,rfl,?_⟩
     dsimp only
     rw [Rn]
     refine ⟨_,rfl,_,rfl,l,_,_,i,rfl,rfl,hl3,Mv (by rw [Ba]; omega),?_⟩
     rw [Rr]
     exact ⟨_,_,rfl,Ag.Ef hl (sm.trans s3),Ab,hst⟩
    ·rw [if_neg hb] at hst
     exact hst
   ·rintro σ H2 ⟨v3',U,rfl,sm,hlU,hI⟩
    exact ⟨_,_,U,rfl,sm,hlU,hI.fin⟩
  ·rintro σ H' ⟨v2,v3',U,rfl,sm,hlU,hMm⟩
   exact ⟨_,rfl,k _ _ sm ⟨l,U,rfl,hlU,hMm⟩⟩
def aa2 (n:Nat) (U:List Nat):Option Nat:=(List.range n).find? fun i=>(U.getD i 0).testBit i
def Kf:Sp:=fun vs H Q _=>∃ (a:Addr) (U:List Nat) (n:Nat) (R:Nat->Nat->Prop),vs=[.ref a]/\H a=some (.lst (Aw U))/\Js n R 0 U/\n <= 256 /\
 Out H Q (fun v _=>∃ U',Js n R n U'/\v=XC (aa2 n U'))
theorem Gk:Ar ["under", "line", "mask"] ["under"] (Aj GJ):=⟨rfl,rfl,rfl,by decide +kernel,rfl,by decide +kernel,by decide +kernel⟩
theorem Wu {n:Nat} {p:Nat->Bool} {i:Nat} (hi:i < n) (hp:p i=true) (hb:∀ j,j < i->p j=false):(List.range n).find? p=some i:=by
 rw [List.find?_range_eq_some]
 exact ⟨hp,List.mem_range.mpr hi,fun j hj=>by rw [hb j hj]; rfl⟩
theorem GZ {n:Nat} {p:Nat->Bool} (hb:∀ j,j < n->p j=false):(List.range n).find? p=none:=by
 rw [List.find?_eq_none]
 intro x hx
 rw [hb x (List.mem_range.mp hx)]
 exact Bool.false_ne_true
theorem Ls (T:Txt K mg Ak Aq Af):Cl P w K mg base 4 "least_line_in_ring" ["under"] Kf:=by
 refine T.Lj.ok Gk (fun vs H Q E h=>?_) (fun f cdv A outer s H vs Q E hr h=>?_)
 ·obtain ⟨a,U,n,R,rfl,_⟩:=h
  rfl
 ·obtain ⟨a,U0,n,R,rfl,ha,hM,h256,k⟩:=h
  have nd:=Gk.nd
  refine ⟨_,(Ac (Cr PassesOwn.never rfl (Mp rfl T.Eo (Aa (Bl (Ui T) hr rfl (Aa (pv 0) (Ad))) (Ad))) (FN rfl (Bo (Bb (i:=1) nd rfl (Or.inl rfl)) (Bo (Bb (i:=2) nd rfl (Or.inl rfl)) Eh)))
    (Ae (Bt (Ea (Bl (G9 T) hr rfl (Aa (pv 1) (Aa (pv 2) (Ad))))) (Ae (Al (pv 1))) Az))) (Ae (Al BZ))),?_⟩
  refine ⟨_,rfl,a,U0,n,R,rfl,ha,hM,h256,fun v H1 s1 ⟨l,U,ev,hl,hU⟩=>?_⟩
  subst ev
  have hlen:U.length=n:=hU.len
  refine ⟨l,_,rfl,SqL.of hl,Qj (K:=K) (a:=l) (xs:=Aw U) (fun i σ H'=>∃ v1 v2:Option V,σ=[some (.ref a),v1,v2]/\Ag H1 H'/\∀ j,j < i->(U.getD j 0).testBit j=false)
   ⟨none,none,rfl,Ag.refl _,fun j hj=>absurd hj (Nat.not_lt_zero j)⟩ (fun i σ H' _ ⟨_,_,_,sm,_⟩=>SqL.of (sm _ _ hl)) ?_ ?_⟩
  ·rintro i x σ H' tt hx ⟨v1,v2,rfl,sm,hno⟩ hT
   have hi:i < U.length:=by
    have:=(List.getElem?_eq_some_iff.mp hx).1
    rwa [Ba] at this
   rw [Dl hi] at hx
   cases hx
   have st:=Ag.new (o:=.tup [.int ((i:Nat):Int),.int ((U.getD i 0:Nat):Int)]) hT
   refine ⟨tt,_,rfl,SqT.of Ab,rfl,_,_,rfl,_,_,rfl,rfl,?_⟩
   refine ⟨_,rfl,_,rfl,i,U.getD i 0,rfl,by omega,fun v H3 s3 ev=>⟨_,ev,?_⟩⟩
   have sm3:=sm.trans (st.trans s3)
   refine BP (fun hb=>?_) (fun hb=>⟨_,_,rfl,sm3,fun j hj=>?_⟩)
   ·refine ⟨_,rfl,k _ _ (s1.trans sm3) ⟨U,hU,?_⟩⟩
    unfold aa2
    rw [Wu (p:=fun i=>(U.getD i 0).testBit i) (by omega) hb hno]
    rfl
   ·by_cases e:j < i
    ·exact hno j e
    ·have:j=i:=by omega
     subst this
     exact Bool.eq_false_iff.mpr hb
  ·rintro σ H' ⟨v1,v2,rfl,sm,hno⟩
   refine k _ _ (s1.trans sm) ⟨U,hU,?_⟩
   rw [Ba,hlen] at hno
   unfold aa2
   rw [GZ (p:=fun i=>(U.getD i 0).testBit i) hno]
   rfl
def Ld (c:Br.Catalogue) (b:Br.Build):Option Nat:=(List.range b.lines.length).find? fun i=>!((tower c b).hold.getD i false)
def Hd:Sp:=fun vs H Q _=>∃ (d:Addr) (O:List (P3 × Int)) (c:Br.Catalogue) (b:Br.Build),vs=[.ref d,.int (b.lines.length:Int)]/\H d=some (.dT (Ao O))/\Xa c b.lines O/\b.lines.length <= 256/\(∀ l ∈ b.lines,Full (l.of c)) /\
 Out H Q (fun v _=>v=XC (Ld c b))
theorem Ej:Ar ["owners", "count", "held", "place", "line"] ["owners", "count"] (Aj Fb):=⟨rfl,rfl,rfl,by decide +kernel,rfl,by decide +kernel,by decide +kernel⟩
def Xe (c:Br.Catalogue) (b:Br.Build) (pre:List (P3 × Int)) (i:Nat):Prop:=∃ x ∈ pre,x.2=(i:Int)/\(x.1.2.2=0 \/ ∃ j,Own c b.lines j (mv x.1 0 0 (-1))/\j ≠ i)
def Il (B:List Bool):List V:=B.map V.bl
theorem abT (B:List Bool):(Il B).length=B.length:=List.length_map _
theorem Zk (B:List Bool):(Il B).all HS=true:=by
 unfold Il
 rw [List.all_map,List.all_eq_true]
 intro x _
 rfl
theorem agj (B:List Bool):inV (.bl false) (Il B)=B.contains false:=by
 unfold inV Il
 rw [List.any_map]
 induction B with
 | nil=>rfl
 | cons x t ih=>rw [List.any_cons,List.contains_cons,ih]; cases x <;> rfl
theorem acE {c:Br.Catalogue} {ls:List Br.Line} {O:List (P3 × Int)} (h:Xa c ls O) {q:P3} {v:V} (e:Er (Ao O) (t3 q)=some v):∃ j:Nat,v = .int (j:Int)/\Own c ls j q:=by
 obtain ⟨t,rfl,ht⟩:=Jv e
 obtain ⟨j,rfl,ho⟩:=(h.own _ _).mp ht
 exact ⟨j,rfl,ho⟩
theorem Hv (T:Txt K mg Ak Aq Af):Cl P w K mg base 3 "least_line_without_hold" ["owners", "count"] Hd:=by
 refine T.Hu.ok Ej (fun vs H Q E h=>?_) (fun f cdv A outer s H vs Q E hr h=>?_)
 ·obtain ⟨d,O,c,b,rfl,_⟩:=h
  rfl
 ·obtain ⟨d,O,c,b,rfl,hd,hO,h256,hf,k⟩:=h
  have nd:=Ej.nd
  have hu:=Jk hr
  refine ⟨_,(Ac (Av (i:=2) nd rfl (Or.inl rfl) (BV acH (DN (Aa (FT) (Ad))) (pv 1))) (Ac (JC (Cr PassesOwn.never rfl (Hb (pv 0)) (FN rfl (Bo (Bb (i:=3) nd rfl (Or.inl rfl)) (Bo (Bb (i:=4) nd rfl (Or.inl rfl)) Eh)))
    (Ae (Bt (PW.pt (GK (Bp La (Ci Ih (pv 3) Am (fun _ _=>rfl)) Am (Bu _)) (Ie (Bp YM (aa7 hu (pv 0) (Bl (Ij T) hr rfl (Aa (pv 3) (Ad))) (pv 4) ⟨rfl,rfl,rfl,rfl⟩) (pv 4) (Bu _)))))
     (Ae (ZX FT (Z0 (pv 2) (pv 4) set_list))) Az)))) (Ac (Bt (Bp Mq FT (pv 2) (by rfl)) (Ae (Al (KZ PySem.F.plainAttrs_list PySem.F.slot_list_index PySem.F.type_list_index af5 (pv 2) (Aa (FT) (Ad))))) Az) (Ae (Al BZ))))),?_⟩
  refine ⟨(by show 1 <= sizeLine; decide),fun l0 hl0=>⟨_,rfl,l0,_,_,rfl,rfl,Ab,by omega,by omega,?_,fun lh hlh=>?_⟩⟩
  ·show 1 * (b.lines.length:Int).toNat <= sizeLine
   rw [Int.toNat_natCast,sizeLine_eq]; omega
  have ajq:(List.replicate (b.lines.length:Int).toNat [V.bl false]).flatten=Il (List.replicate b.lines.length false):=by
   rw [Int.toNat_natCast]
   unfold Il
   induction b.lines.length with
   | zero=>rfl
   | succ n ih=>rw [List.replicate_succ,List.flatten_cons,ih,List.replicate_succ]; rfl
  rw [ajq]
  have s1:Ag H (upd H l0 (.lst [.bl false])):=Ag.new hl0
  have s2:=Ag.new (o:=.lst (Il (List.replicate b.lines.length false))) hlh
  have nlh:H lh=none:=s1.free hlh
  have aky:upd (upd H l0 (.lst [.bl false])) lh (.lst (Il (List.replicate b.lines.length false))) lh=some (.lst (Il (List.replicate b.lines.length false))):=Ab
  have sm2:=s1.trans s2
  generalize upd (upd H l0 (.lst [.bl false])) lh (.lst (Il (List.replicate b.lines.length false)))=H2 at aky sm2
  have hd2:=sm2 _ _ hd
  have nld:lh ≠ d:=fun z=>by rw [z,hd] at nlh; cases nlh
  refine ⟨d,.dT (Ao O),hd2,True.intro,fun od=>?_⟩
  have hd3:upd H2 d (.frz od (.dT (Ao O))) d=some (.frz od (.dT (Ao O))):=Ab
  have alO:upd H2 d (.frz od (.dT (Ao O))) lh=some (.lst (Il (List.replicate b.lines.length false))):=by rw [Ah nld]; exact aky
  refine ⟨_,rfl,d,od,_,rfl,Ab,Fp (kvs:=Ao O)
   (fun i σ H'=>∃ (v3 v4:Option V) (B:List Bool),σ=[some (.ref d),some (.int (b.lines.length:Int)),some (.ref lh),v3,v4] /\
    (∀ x o,upd H2 d (.frz od (.dT (Ao O))) x=some o->x ≠ lh->H' x=some o)/\H' lh=some (.lst (Il B))/\B.length=b.lines.length/\∀ j,j < b.lines.length->(B.getD j false=true ↔ Xe c b (O.take i) j))
   ⟨none,none,_,rfl,fun x o e _=>e,alO,List.length_replicate,fun j hj=>?_⟩ (fun i σ H' _ ⟨_,_,_,_,kp,_⟩=>kp _ _ hd3 nld.symm) ?_ ?_⟩
  ·rw [List.getD_eq_getElem?_getD,List.getElem?_replicate,if_pos hj]
   constructor
   ·intro z; cases z
   ·rintro ⟨x,hx,_⟩; cases hx
  ·rintro i kk v σ H' tt q hkv ⟨v3',v4,B,rfl,kp,hB,hBl,ahH⟩ hq hT
   obtain ⟨pl,n0,hes,rfl,rfl⟩:=GR hkv
   have hmem:(pl,n0) ∈ O:=List.mem_of_getElem? hes
   obtain ⟨n,rfl,hown⟩:=(hO.own _ _).mp hmem
   have hn:=acF hown
   have sn:Ag H' (upd H' tt (.tup [.ref q,.int (n:Int)])):=Ag.new hT
   refine ⟨tt,_,rfl,SqT.of Ab,rfl,_,_,rfl,_,_,rfl,rfl,?_⟩
   have hq2:upd H' tt (.tup [.ref q,.int (n:Int)]) q=some (.tup (v3 pl)):=sn _ _ hq
   have hB2:=sn _ _ hB
   have kp2:∀ x o,upd H2 d (.frz od (.dT (Ao O))) x=some o->x ≠ lh->upd H' tt (.tup [.ref q,.int (n:Int)]) x=some o:=fun x o e ne=>sn _ _ (kp x o e ne)
   generalize upd H' tt (.tup [.ref q,.int (n:Int)])=H3 at hq2 hB2 kp2
   have etk:O.take (i + 1)=O.take i ++ [(pl,(n:Int))]:=by rw [List.take_succ,hes]; rfl
   have step:∀ (B':List Bool) (bb:Bool),(bb=true ↔ pl.2.2=0 \/ ∃ j,Own c b.lines j (mv pl 0 0 (-1))/\j ≠ n)->(∀ j,j < b.lines.length->(B'.getD j false=true ↔ B.getD j false=true \/ (j=n/\bb=true))) ->
     ∀ j,j < b.lines.length->(B'.getD j false=true ↔ Xe c b (O.take (i + 1)) j):=fun B' bb hbb hB' j hj=>by
    rw [hB' j hj,ahH j hj,etk,hbb]
    unfold Xe
    constructor
    ·rintro (⟨x,hx,h⟩ | ⟨rfl,h⟩)
     ·exact ⟨x,List.mem_append_left _ hx,h⟩
     ·exact ⟨(pl,(j:Int)),List.mem_append_right _ (List.mem_singleton.mpr rfl),rfl,h⟩
    ·rintro ⟨x,hx,h1,h2⟩
     rcases List.mem_append.mp hx with hx | hx
     ·exact .inl ⟨x,hx,h1,h2⟩
     ·rw [List.mem_singleton] at hx
      subst hx
      have:n=j:=Int.ofNat.inj h1
      subst this
      exact .inr ⟨rfl,h2⟩
   have yes:∀ H4:Hp,H4 lh=some (.lst (Il B))->(∀ x o,upd H2 d (.frz od (.dT (Ao O))) x=some o->x ≠ lh->H4 x=some o)->(pl.2.2=0 \/ ∃ j,Own c b.lines j (mv pl 0 0 (-1))/\j ≠ n) ->
     ∃ (v3 v4:Option V) (B1:List Bool),[some (V.ref d),some (.int (b.lines.length:Int)),some (.ref lh),some (.ref q),some (.int (n:Int))] = [some (.ref d),some (.int (b.lines.length:Int)),some (.ref lh),v3,v4] /\
    (∀ x o,upd H2 d (.frz od (.dT (Ao O))) x=some o->x ≠ lh->upd H4 lh (.lst ((Il B).set n (.bl true))) x=some o)/\upd H4 lh (.lst ((Il B).set n (.bl true))) lh=some (.lst (Il B1))/\B1.length=b.lines.length/\∀ j,j < b.lines.length->(B1.getD j false=true ↔ Xe c b (O.take (i+1)) j):=fun H4 hB4 kp4 hc=>by
    refine ⟨_,_,B.set n true,rfl,fun x o e ne=>by rw [Ah ne]; exact kp4 x o e ne,?_,by rw [List.length_set]; exact hBl,step _ true ⟨fun _=>hc,fun _=>rfl⟩ fun j hj=>?_⟩
    ·rw [Ab]; unfold Il; rw [List.map_set]
    ·rw [List.getD_eq_getElem?_getD,List.getElem?_set,List.getD_eq_getElem?_getD]
     by_cases e:n=j
     ·rw [if_pos e,if_pos (by omega)]
      simp [e]
     ·rw [if_neg e]
      have:¬ j=n:=fun z=>e z.symm
      simp [this]
   refine ⟨_,rfl,q,_,_,_,rfl,rfl,SqT.of hq2,rfl,rfl,_,rfl,?_⟩
   refine BP (fun h0=>?_) (fun h0=>?_)
   ·refine ⟨_,rfl,_,rfl,lh,_,_,n,rfl,rfl,hB2,Mv (by rw [abT]; omega),?_⟩
    exact yes _ hB2 kp2 (.inl (by simpa using h0))
   have h0':¬ pl.2.2=0:=by simpa using h0
   refine ⟨_,rfl,d,rfl,.inr ⟨_,.inr ⟨od,kp2 _ _ hd3 nld.symm⟩⟩,_,rfl,q,pl,rfl,hq2,fun v5 H5 s5 ⟨p5,e5,hp5⟩=>?_⟩
   subst e5
   have hB5:=s5 _ _ hB2
   have kp5:∀ x o,upd H2 d (.frz od (.dT (Ao O))) x=some o->x ≠ lh->H5 x=some o:=fun x o e ne=>s5 _ _ (kp2 x o e ne)
   refine ⟨_,rfl,_,.inr ⟨Ao O,t3 (mv pl 0 0 (-1)),p5,.inr ⟨od,kp5 _ _ hd3 nld.symm⟩,rfl,hp5,rfl⟩,?_⟩
   cases ev:Er (Ao O) (t3 (mv pl 0 0 (-1))) with
   | none =>
    refine ⟨_,rfl,rfl,_,rfl,BP (fun h1=>by simp at h1) (fun _=>⟨_,_,B,rfl,kp5,hB5,hBl,step _ false ⟨fun z=>(Bool.false_ne_true z).elim,?_⟩ fun j hj=>by simp⟩)⟩
    rintro (z | ⟨j,hj,_⟩)
    ·exact absurd z h0'
    ·have:=(hO.own _ _).mpr ⟨j,rfl,hj⟩
     rw [Fz hO.nd this] at ev
     cases ev
   | some u =>
    obtain ⟨j,rfl,hj⟩:=acE hO ev
    refine ⟨_,rfl,rfl,_,rfl,?_⟩
    refine BP (fun h1=>?_) (fun h1=>?_)
    ·refine ⟨_,rfl,_,rfl,lh,_,_,n,rfl,rfl,hB5,Mv (by rw [abT]; omega),?_⟩
     refine yes _ hB5 kp5 (.inr ⟨j,hj,fun z=>?_⟩)
     rw [z] at h1
     simp at h1
    ·have hjn:j=n:=by
      simp at h1
      omega
     refine ⟨_,_,B,rfl,kp5,hB5,hBl,step _ false ⟨fun z=>(Bool.false_ne_true z).elim,?_⟩ fun j hj=>by simp⟩
     rintro (z | ⟨j',hj',hne⟩)
     ·exact absurd z h0'
     ·have e1:=Fz hO.nd ((hO.own _ _).mpr ⟨j',rfl,hj'⟩)
      rw [e1] at ev
      simp at ev
      omega
  ·rintro σ H' ⟨v3',v4,B,rfl,kp,hB,hBl,ahH⟩
   rw [Cd,List.take_length] at ahH
   have adS:∀ j,j < b.lines.length->B.getD j false=(tower c b).hold.getD j false:=fun j hj=>by
    rw [Bool.eq_iff_iff,ahH j hj,Mx.agn hf hj]
    unfold Xe
    constructor
    ·rintro ⟨x,hx,h1,h2⟩
     obtain ⟨j',e',ho⟩:=(hO.own x.1 x.2).mp hx
     have:j'=j:=Int.ofNat.inj (e'.symm.trans h1)
     subst this
     rcases h2 with h2 | ⟨j2,h2,h3⟩
     ·exact .inl ⟨x.1,ho,h2⟩
     ·exact .inr ⟨x.1,j2,ho,h2,h3⟩
    ·rintro (⟨q,ho,h2⟩ | ⟨q,j2,ho,h2,h3⟩)
     ·exact ⟨(q,(j:Int)),(hO.own _ _).mpr ⟨j,rfl,ho⟩,rfl,.inl h2⟩
     ·exact ⟨(q,(j:Int)),(hO.own _ _).mpr ⟨j,rfl,ho⟩,rfl,.inr ⟨j2,h2,h3⟩⟩
   refine ⟨kp _ _ hd3 nld.symm,?_⟩
   have sm:Ag H (upd H' d (.dT (Ao O))):=fun x o e=>by
    by_cases z:x=d
    ·rw [z,Ab]; rw [z,hd] at e; exact e
    ·rw [Ah z]
     refine kp _ _ (by rw [Ah z]; exact sm2 _ _ e) fun y=>?_
     rw [y,nlh] at e
     cases e
   have hB':upd H' d (.dT (Ao O)) lh=some (.lst (Il B)):=by rw [Ah nld]; exact hB
   generalize upd H' d (.dT (Ao O))=H9 at sm hB'
   refine ⟨_,rfl,lh,_,rfl,.inl (SqL.of hB'),rfl,Zk B,_,rfl,?_⟩
   refine BP (fun h1=>?_) (fun h1=>?_)
   ·have h1:B.contains false=true:=by rw [<- agj]; exact h1
    have hex:∃ j,j < b.lines.length/\B.getD j false=false:=by
     rw [List.contains_iff_mem] at h1
     obtain ⟨j,hj⟩:=List.mem_iff_getElem?.mp h1
     exact ⟨j,hBl ▸ (List.getElem?_eq_some_iff.mp hj).1,by rw [List.getD_eq_getElem?_getD,hj]; rfl⟩
    have hfi:∃ j,Ld c b=some j:=by
     obtain ⟨j,hj,e⟩:=hex
     cases ec:Ld c b with
     | some j=>exact ⟨j,rfl⟩
     | none =>
      unfold Ld at ec
      rw [List.find?_eq_none] at ec
      have:=ec j (List.mem_range.mpr hj)
      rw [<- adS j hj,e] at this
      exact absurd rfl this
    obtain ⟨j,hj⟩:=hfi
    have hj2:=hj
    unfold Ld at hj2
    rw [List.find?_range_eq_some] at hj2
    obtain ⟨p1,p2,p3⟩:=hj2
    have p2:=List.mem_range.mp p2
    have bat:∀ m,m < b.lines.length->(Il B)[m]? = some (.bl (B.getD m false)):=fun m hm=>by
     unfold Il
     rw [List.getElem?_map,List.getD_eq_getElem?_getD,List.getElem?_eq_getElem (by omega)]
     rfl
    refine ⟨_,rfl,.inl ⟨rfl,_,SqL.of hB'⟩,lh,_,_,j,_,rfl,rfl,SqL.of hB',rfl,Zk B,bat j p2,?_,fun m z' hm hz=>?_,k _ _ sm ?_⟩
    ·rw [adS j p2]
     have:(tower c b).hold.getD j false=false:=by simpa using p1
     rw [this]; rfl
    ·rw [bat m (by omega),adS m (by omega)] at hz
     have:(tower c b).hold.getD m false=true:=by simpa using p3 m hm
     rw [this] at hz
     cases hz
     rfl
    ·rw [hj]; rfl
   ·refine k _ _ sm ?_
    have h1:B.contains false=false:=by
     rw [<- agj]
     exact Bool.eq_false_iff.mpr h1
    have:Ld c b=none:=GZ fun j hj=>by
     rw [<- adS j hj]
     have:false ∉ B:=fun z=>by rw [List.contains_iff_mem.mpr z] at h1; cases h1
     cases e:B.getD j false with
     | true=>rfl
     | false =>
      rw [List.getD_eq_getElem?_getD,List.getElem?_eq_getElem (by omega)] at e
      exact absurd (List.mem_of_getElem e) this
    rw [this]; rfl
open Mx (Fw Nz CK)
theorem agN (x m:Nat):Builtin.bitAnd (x:Int) (Builtin.bitNot (m:Int))=((Nz x m:Nat):Int):=by
 unfold Nz
 have e1:Builtin.bitNot (Builtin.bitNot (m:Int))=(m:Int):=by unfold Builtin.bitNot; omega
 have h2:Builtin.bitNot (m:Int) < 0:=by unfold Builtin.bitNot; omega
 unfold Builtin.bitAnd
 rw [decide_eq_true (by omega:(0:Int) <= (x:Int)),decide_eq_false (by omega:¬ (0:Int) <= Builtin.bitNot (m:Int))]
 dsimp only
 rw [e1,Int.toNat_natCast,Int.toNat_natCast]
 have:x &&& m <= x:=Nat.and_le_left
 omega
def QS:Sp:=fun vs H Q _=>∃ (i m:Nat) (a:Addr) (U:List Nat),vs=[.int (i:Int),.int (m:Int),.ref a]/\H a=some (.lst (Aw U))/\i < U.length/\U.length <= 256/\Out H Q (fun v _=>v = .bl (Fw U m i))
theorem Q7:Ar ["line", "before", "under"] ["line", "before", "under"] (Aj JX):=⟨rfl,rfl,rfl,by decide +kernel,rfl,by decide +kernel,by decide +kernel⟩
theorem Ka (T:Txt K mg Ak Aq Af):Cl P w K mg base 3 "may_come_next" ["line", "before", "under"] QS:=by
 refine T.T6.ok Q7 (fun vs H Q E h=>?_) (fun f cdv A outer s H vs Q E hr h=>?_)
 ·obtain ⟨i,m,a,U,rfl,_⟩:=h
  rfl
 ·obtain ⟨i,m,a,U,rfl,ha,hi,h256,k⟩:=h
  refine ⟨_,(Ae (Al (JD (aiJ (Bl (G9 T) hr rfl (Aa (pv 0) (Aa (pv 1) (Ad))))) (Ri (FQ La (BV acJ (Ci BJ (pv 2) (pv 0) (fun _ _=>rfl)) (Sq afv (pv 1))) Am (Bu _)))))),?_⟩
  refine ⟨_,rfl,_,rfl,i,m,rfl,by omega,fun v H1 s1 ev=>⟨_,ev,_,rfl,?_⟩⟩
  unfold Fw at k
  refine BP (fun h0=>?_) (fun h0=>k _ _ s1 (by rw [Bool.not_eq_true] at h0; rw [h0]; rfl))
  refine ⟨_,rfl,_,rfl,a,_,_,_,rfl,rfl,SqL.of (s1 _ _ ha),LK rfl (Dl hi),_,rfl,_,rfl,_,_,rfl,rfl,rfl,k _ _ s1 ?_⟩
  dsimp only
  rw [h0,Bool.true_and]
  refine congrArg V.bl (decide_eq_decide.mpr ?_)
  show V.int (Builtin.bitAnd (U.getD i 0:Nat) (Builtin.bitNot (m:Int)))=V.int 0 ↔ _
  rw [agN]
  exact ⟨fun z=>by injection z with z; omega,fun z=>by rw [z]; rfl⟩
theorem Ol (l:List Nat) (i:Nat):Aw l ++ [.int (i:Int)] = Aw (l ++ [i]):=by
 unfold Aw
 rw [List.map_append]
 rfl
def Od:Sp:=fun vs H Q _=>∃ (m:Nat) (a:Addr) (U:List Nat),vs=[.int (m:Int),.ref a]/\H a=some (.lst (Aw U))/\U.length <= 256/\Out H Q (fun v _=>v=XC ((List.range U.length).find? (Fw U m)))
theorem Hf:Ar ["before", "under", "line"] ["before", "under"] (Aj HH):=⟨rfl,rfl,rfl,by decide +kernel,rfl,by decide +kernel,by decide +kernel⟩
theorem HX (T:Txt K mg Ak Aq Af):Cl P w K mg base 4 "least_line_next" ["before", "under"] Od:=by
 refine T.Qm.ok Hf (fun vs H Q E h=>?_) (fun f cdv A outer s H vs Q E hr h=>?_)
 ·obtain ⟨m,a,U,rfl,_⟩:=h
  rfl
 ·obtain ⟨m,a,U,rfl,ha,h256,k⟩:=h
  have nd:=Hf.nd
  refine ⟨_,(Ac (Cr PassesOwn.never rfl (Je rfl T.MN (Aa (Be Ax (by rfl) T.Dg PySem.boot_len (Aa (pv 1) (Ad))) (Ad))) (Bb (i:=2) nd rfl (Or.inl rfl))
    (Ae (Bt (Ea (Bl (Ka T) hr rfl (Aa (pv 2) (Aa (pv 0) (Aa (pv 1) (Ad)))))) (Ae (Al (pv 2))) Az))) (Ae (Al BZ))),?_⟩
  refine ⟨_,rfl,a,_,rfl,.inl (SqL.of ha),_,rfl,by rw [Ba]; omega,by rw [Ba]; omega,?_⟩
  rw [Ba,Int.toNat_natCast]
  refine Jm (n:=U.length) (fun i σ H'=>∃ v2:Option V,σ=[some (.int (m:Int)),some (.ref a),v2]/\Ag H H'/\∀ j,j < i->Fw U m j=false)
   ⟨none,rfl,Ag.refl _,fun j hj=>absurd hj (Nat.not_lt_zero j)⟩ ?_ ?_
  ·rintro i σ H' hi ⟨v2,rfl,sm,hno⟩
   rw [Int.zero_add]
   refine ⟨_,rfl,_,rfl,_,rfl,i,m,a,U,rfl,sm _ _ ha,hi,h256,fun v H3 s3 ev=>⟨_,ev,?_⟩⟩
   refine BP (fun hb=>?_) (fun hb=>⟨_,rfl,sm.trans s3,fun j hj=>?_⟩)
   ·refine ⟨_,rfl,k _ _ (sm.trans s3) ?_⟩
    rw [Wu (p:=Fw U m) hi hb hno]
    rfl
   ·by_cases e:j < i
    ·exact hno j e
    ·have:j=i:=by omega
     subst this
     exact Bool.eq_false_iff.mpr hb
  ·rintro σ H' ⟨v2,rfl,sm,hno⟩
   refine k _ _ sm ?_
   rw [GZ (p:=Fw U m) hno]
   rfl
open Mx (P3 mv Own Full Fw Nz CK LQ)
def Vi:Sp:=fun vs H Q _=>∃ (a:Addr) (U:List Nat) (c:Br.Catalogue) (b:Br.Build),vs=[.ref a]/\H a=some (.lst (Aw U))/\MP c b U/\b.lines.length <= 256 /\
 Out H Q (fun v H'=>∃ l,v = .ref l/\H l=none/\H' l=some (.lst (Aw (tower c b).order)))
theorem KD:Ar ["under", "row", "before", "line"] ["under"] (Aj Nv):=⟨rfl,rfl,rfl,by decide +kernel,rfl,by decide +kernel,by decide +kernel⟩
theorem X3 (T:Txt K mg Ak Aq Af):Cl P w K mg base 5 "first_order" ["under"] Vi:=by
 refine T.XR.ok KD (fun vs H Q E h=>?_) (fun f cdv A outer s H vs Q E hr h=>?_)
 ·obtain ⟨a,U,c,b,rfl,_⟩:=h
  rfl
 ·obtain ⟨a,U,c,b,rfl,ha,hU,h256,k⟩:=h
  have nd:=KD.nd
  refine ⟨_,(Ac (Av (i:=1) nd rfl (Or.inl rfl) (DN Ad)) (Ac (Av (i:=2) nd rfl (Or.inl rfl) Am) (Ac (Av (i:=3) nd rfl (Or.inl rfl) (Bl (HX T) hr rfl (Aa (pv 2) (Aa (pv 0) (Ad))))) (Ac (PQ PassesOwn.never (Cj (Ux (pv 3)))
    (Ac (Gy (KZ PySem.F.plainAttrs_list PySem.F.slot_list_append PySem.F.type_list_append Fx (pv 1) (Aa (pv 3) (Ad)))) (Ac (Av (i:=2) nd rfl (Or.inl rfl) (BV YL (pv 2) (Bl (Jq T) hr rfl (Aa (pv 3) (Ad))))) (Ae (Av (i:=3) nd rfl (Or.inl rfl) (Bl (HX T) hr rfl (Aa (pv 2) (Aa (pv 0) (Ad))))))))) (Ae (Al (pv 1))))))),?_⟩
  have hlen:U.length=b.lines.length:=hU.len
  refine ⟨Nat.zero_le _,fun l hl=>?_⟩
  have s1:Ag H (upd H l (.lst [])):=Ag.new hl
  have hl1:upd H l (.lst []) l=some (.lst (Aw [])):=Ab
  generalize upd H l (.lst [])=H1 at s1 hl1
  refine ⟨_,rfl,_,rfl,0,a,U,rfl,s1 _ _ ha,by omega,fun v2 H2 s2 ev2=>?_⟩
  have fnd:∀ (m:Nat) (done:List Nat),CK m done->(List.range U.length).find? (Fw U m)=(List.range (tower c b).n).find? ((tower c b).ready done):=fun m done hm=>by rw [hlen]; exact Mx.aeY hU.bit hm
  rw [fnd 0 [] CK.nil] at ev2
  subst ev2
  refine ⟨fun z σ H'=>∃ (done:List Nat) (m:Nat),σ=[some (.ref a),some (.ref l),some (.int (m:Int)),some (XC ((List.range (tower c b).n).find? ((tower c b).ready done)))]/\Ag H H'/\H' l=some (.lst (Aw done))/\CK m done/\LQ c b done/\z=b.lines.length - done.length,
   ⟨_,[],0,rfl,s1.trans s2,s2 _ _ hl1,CK.nil,LQ.start,rfl⟩,?_⟩
  rintro z σ H' ⟨done,m,rfl,sm,hl',hm,hO,rfl⟩
  cases e:(List.range (tower c b).n).find? ((tower c b).ready done) with
  | none=>exact ⟨_,rfl,_,rfl,Fg ⟨_,rfl,k _ _ sm ⟨l,rfl,hl,by rw [<- hO.end e]; exact hl'⟩⟩⟩
  | some i =>
   obtain ⟨hO',hi,hd⟩:=hO.step e
   refine ⟨_,rfl,_,rfl,Dy ⟨fun σ' H''=>∃ (Ti:List Nat) (m:Nat),σ'=[some (.ref a),some (.ref l),some (.int (m:Int)),some (XC ((List.range (tower c b).n).find? ((tower c b).ready Ti)))]/\Ag H H''/\H'' l=some (.lst (Aw Ti))/\CK m Ti/\LQ c b Ti/\b.lines.length - Ti.length < b.lines.length - done.length,
    fun σ' H'' ⟨d',m',a1,a2,a3,a4,a5,a6⟩=>⟨_,a6,d',m',a1,a2,a3,a4,a5,rfl⟩,?_⟩⟩
   refine ⟨_,rfl,.inl ⟨rfl,_,SqL.of hl'⟩,_,rfl,l,_,_,rfl,rfl,hl',(by rw [Ba]; exact Bx (by omega)),?_⟩
   have hl6:upd H' l (.lst (Aw done ++ [XC (some i)])) l=some (.lst (Aw (done ++ [i]))):=by rw [Ab]; exact congrArg (fun z=>some (HO.lst z)) (Ol done i)
   have sm6:Ag H (upd H' l (.lst (Aw done ++ [XC (some i)]))):=Ag.Ef hl sm
   generalize upd H' l (.lst (Aw done ++ [XC (some i)]))=H6 at hl6 sm6
   refine ⟨_,rfl,_,rfl,i,rfl,by omega,fun v7 H7 s7 ev7=>?_⟩
   subst ev7
   refine ⟨_,_,rfl,rfl,?_⟩
   dsimp only
   rw [Rn]
   have hm':=hm.snoc (i:=i)
   refine ⟨_,rfl,_,rfl,m ||| 2 ^ i,a,U,rfl,s7 _ _ (sm6 _ _ ha),by omega,fun v8 H8 s8 ev8=>?_⟩
   rw [fnd _ _ hm'] at ev8
   subst ev8
   exact ⟨done ++ [i],m ||| 2 ^ i,rfl,sm6.trans (s7.trans s8),s8 _ _ (s7 _ _ hl6),hm',hO',by rw [List.length_append,List.length_singleton]; omega⟩
end
end Py
namespace L2
open PySem PySem.Spec PyProof.Rows
theorem af3 (a v:Value):argsOk "max" ⟨[a],[(Str.ofString "default",v)]⟩:=by unfold argsOk; kernel_rfl
theorem Qe:(toString "max" ++ toString ".loop" : String) = "max.loop" := by decide
section
variable {prog:Program} {w:World} {A:Around} {R:Result->Shared->Prop} {I S:Addr} {fp wr:List Addr} {n:Nat} {P:Nat->Value->Prop} {St:Nat->Heap->Prop} {d:Value} {bt:Nat->Nat->Bool}
theorem abg (W:Walks prog w A.in1 I fp wr n P St) (cp:CmpOf prog w A.in1 .Gt P bt) (hf:S ∉ fp):∀ (k j:Nat) (s:Shared) (u:Value) (c:Nat),n=j + 1 + k->St (j + 1) s.heap->P (argBest bt j) u ->
  s.heap.get? S=some ⟨.type "list",none,.seq #[u,u] c,#[]⟩ ->
  (∀ v h1 tk,P (argBest bt (n - 1)) v->(∀ b o,b ∉ wr->b ≠ S->s.heap.get? b=some o->h1.get? b=some o)->R (.ok (.ret v)) { s with heap:=h1,toks:=tk }) ->
  codeAny (model prog w) A (.builtin "max.loop" ⟨[.ref I,.none,.ref S],[(Str.ofString "default",d)]⟩) R s
 | 0,j,s,u,c,e,st,hp,hS,r=>by
  have hw:S ∉ wr:=fun z=>hf (W.sub _ z)
  refine codeAny_builtin PySem.F.entry_max_loop ?_; rw [Around.under_plainId PySem.F.plain_max_loop _]
  show wpAny _ A.in1 (seqItems? (.ref S) >>= _) _ _ _
  refine wpAny_bind (wpAny_seqItems hS rfl ?_); show wpAny _ A.in1 (tryCatch (pyNext (.ref I)) _ >>= _) _ _ _
  refine wpAny_bind (wpAny_tryCatch (W.done s _ _ (by rw [e]; exact st) fun h1 tk kp=>?_))
  have hS1:=kp S _ hw hS
  show wpAny _ A.in1 (updateSeq S (fun _=>#[]) >>= _) _ _ _
  refine wpAny_bind (wpAny_updateSeq hS1 rfl (wpAny_bind (wpAny_letGo (wpAny_pure ?_))))
  exact r u _ tk (by rw [show n - 1=j by omega]; exact hp) fun b o b1 b2 e=>(Heap.get?_update_other _ _ (Ne.symm b2)).trans (kp b o b1 e)
 | k + 1,j,s,u,c,e,st,hp,hS,r=>by
  have hw:S ∉ wr:=fun z=>hf (W.sub _ z)
  refine codeAny_builtin PySem.F.entry_max_loop ?_; rw [Around.under_plainId PySem.F.plain_max_loop _]
  show wpAny _ A.in1 (seqItems? (.ref S) >>= _) _ _ _
  refine wpAny_bind (wpAny_seqItems hS rfl ?_); show wpAny _ A.in1 (tryCatch (pyNext (.ref I)) _ >>= _) _ _ _
  refine wpAny_bind (wpAny_tryCatch (W.item (j + 1) s _ _ (by omega) st fun v h1 tk hv st1 kp=>?_))
  have hS1:=kp S _ hw hS
  show wpAny _ A.in1 (tryCatch (holding [v,v] (richCompare .Gt v u >>= _)) _ >>= _) _ _ _
  refine wpAny_bind (wpAny_tryCatch (wpAny_holding (wpAny_bind (cp (j + 1) (argBest bt j) v u _ _ _ hv hp (wpAny_bind (wpAny_holding (wpAny_truthy_bool (wpAny_bind (wpAny_letGo (wpAny_pure ?_))))))))))
  have ih:=abg W cp hf k (j + 1)
  cases hb:bt (j + 1) (argBest bt j) with
  | true =>
   rw [if_pos rfl]
   refine wpAny_bind (wpAny_updateSeq hS1 rfl (wpAny_bind (wpAny_letGo ?_)))
   rw [Qe]
   refine wpAny_pure ⟨plainId_quiet PySem.F.plain_max_loop _,ih _ v _ (by omega) (W.frame _ _ _ st1 fun b hm o e=>(Heap.get?_update_other _ _ (fun z:S=b=>hf (by rw [z]; exact hm))).trans e) (by unfold argBest; rw [hb,if_pos rfl]; exact hv) (Heap.get?_update_self _ hS1 rfl) fun v2 h2 tk2 p2 k2=>?_⟩
   exact r v2 h2 tk2 p2 fun b o b1 b2 e=>k2 b o b1 b2 ((Heap.get?_update_other _ _ (Ne.symm b2)).trans (kp b o b1 e))
  | false =>
   rw [if_neg Bool.false_ne_true]
   refine wpAny_bind (wpAny_letGo ?_); rw [Qe]
   refine wpAny_pure ⟨plainId_quiet PySem.F.plain_max_loop _,ih _ u c (by omega) st1 (by unfold argBest; rw [hb,if_neg Bool.false_ne_true]; exact hp) hS1 fun v2 h2 tk2 p2 k2=>?_⟩
   exact r v2 h2 tk2 p2 fun b o b1 b2 e=>k2 b o b1 b2 (kp b o b1 e)
theorem aeE (W:Walks prog w A.in1 I fp wr n P St) (cp:CmpOf prog w A.in1 .Gt P bt) (hf:S ∉ fp) {s:Shared} {c:Nat} (st:St 0 s.heap) (hS:s.heap.get? S=some ⟨.type "list",none,.seq #[] c,#[]⟩)
  (r:∀ v h1 tk,(n=0/\v=d) \/ (0 < n/\P (argBest bt (n - 1)) v)->(∀ b o,b ∉ wr->b ≠ S->s.heap.get? b=some o->h1.get? b=some o)->R (.ok (.ret v)) { s with heap:=h1,toks:=tk }) :
  codeAny (model prog w) A (.builtin "max.loop" ⟨[.ref I,.none,.ref S],[(Str.ofString "default",d)]⟩) R s:=by
 have hw:S ∉ wr:=fun z=>hf (W.sub _ z)
 refine codeAny_builtin PySem.F.entry_max_loop ?_; rw [Around.under_plainId PySem.F.plain_max_loop _]
 show wpAny _ A.in1 (seqItems? (.ref S) >>= _) _ _ _
 refine wpAny_bind (wpAny_seqItems hS rfl ?_); show wpAny _ A.in1 (tryCatch (pyNext (.ref I)) _ >>= _) _ _ _
 by_cases hn:n=0
 ·refine wpAny_bind (wpAny_tryCatch (W.done s _ _ (by rw [hn]; exact st) fun h1 tk kp=>?_))
  show wpAny _ A.in1 (rule _ >>= _) _ _ _
  exact wpAny_bind (wpAny_rule (wpAny_pure (r d h1 tk (.inl ⟨hn,rfl⟩) fun b o b1 _ e=>kp b o b1 e)))
 ·refine wpAny_bind (wpAny_tryCatch (W.item 0 s _ _ (by omega) st fun v h1 tk hv st1 kp=>?_))
  have hS1:=kp S _ hw hS
  show wpAny _ A.in1 (updateSeq S (fun _=>#[v,v]) >>= _) _ _ _
  refine wpAny_bind (wpAny_updateSeq hS1 rfl ?_); rw [Qe]
  refine wpAny_pure ⟨plainId_quiet PySem.F.plain_max_loop _,abg W cp hf (n - 1) 0 _ v _ (by omega) (W.frame _ _ _ st1 fun b hm o e=>(Heap.get?_update_other _ _ (fun z:S=b=>hf (by rw [z]; exact hm))).trans e) hv (Heap.get?_update_self _ hS1 rfl) fun v2 h2 tk2 p2 k2=>?_⟩
  exact r v2 h2 tk2 (.inr ⟨by omega,p2⟩) fun b o b1 b2 e=>k2 b o b1 b2 ((Heap.get?_update_other _ _ (Ne.symm b2)).trans (kp b o b1 e))
end
section
variable {prog:Program} {w:World} {A:Around} {E:Value->Shared->Prop} {s:Shared} {l:Addr} {d:Value} {Q:Value->Shared->Prop}
theorem af2 {x:Value} (h:wpAny (model prog w) A.in1 (pyIter x) (fun it s2=>∃ I fp wr n P St bt,it = .ref I/\Walks prog w A.in1 I fp wr n P St/\St 0 s2.heap/\(∀ b ∈ fp,b < s2.heap.objs.size)/\CmpOf prog w A.in1 .Gt P bt /\
   ∀ v h1 tk,(n=0/\v=d) \/ (0 < n/\P (argBest bt (n - 1)) v)->(∀ b o,b ∉ wr->s2.heap.get? b=some o->h1.get? b=some o)->Q v { s2 with heap:=h1,toks:=tk }) E s) :
  wpAny (model prog w) A (call (.builtin "max") [x] [(Str.ofString "default",d)]) Q E s:=by
 refine kmk_tree PySem.F.kind_max PySem.F.plain_max PySem.F.entry_max (af3 _ _) ?_
 show wpAny _ A.in1 (Builtin.Builtins.bindParams "max" ["key", "default"] 0 ⟨[],[(Str.ofString "default",d)]⟩ >>= _) _ _ s
 refine wpAny_bind (wpAny_of_eq (show Builtin.Builtins.bindParams "max" ["key", "default"] 0 ⟨[],[(Str.ofString "default",d)]⟩=pure [none,some d] from rfl) ?_)
 refine wpAny_bind (wpAny_pure (wpAny_bind (wpAny_mono h (fun it s2 q=>?_) fun _ _ e=>e)))
 obtain ⟨I,fp,wr,n,P,St,bt,rfl,W,st,hfp,cp,r⟩:=q
 refine wpAny_bind (wpAny_newObj_type ?_); rw [Qe]
 refine wpAny_pure ⟨plainId_quiet PySem.F.plain_max_loop _,aeE W cp (fun hm=>Nat.lt_irrefl _ (hfp _ hm)) (W.frame _ _ _ st fun b _ o e=>Heap.get?_push_of_some _ e) (Heap.get?_push_size _ rfl) fun v h1 tk hp k=>?_⟩
 exact r v h1 tk hp fun b o b1 e=>k b o b1 (Nat.ne_of_lt (Heap.lt_size e)) (Heap.get?_push_of_some _ e)
theorem aht {its:List Value} {ns:List Int} (hh:A.handled=none) (hl:s.heap.IsList l its.toArray) (hi:IntsAre its ns)
  (h:∀ v h1 tk,(∀ b o,s.heap.get? b=some o->h1.get? b=some o)->(ns=[]/\v=d) \/ (∃ M t,v = .int M t/\M ∈ ns/\∀ a,a ∈ ns->a <= M)->Q v { s with heap:=h1,toks:=tk }):wpAny (model prog w) A (call (.builtin "max") [.ref l] [(Str.ofString "default",d)]) Q E s:=by
 obtain ⟨xs,e⟩:=hi.allInts.items
 have hn:numsOf (intItems xs).toList=ns:=by rw [<- e]; exact hi.numsOf
 rw [nums_intItems] at hn; subst hn; rw [e] at hl
 refine af2 (iter_intList hl fun s2 e2 st hfp hlI=>?_)
 subst e2
 refine ⟨_,_,_,_,_,_,_,rfl,Walks.list (A:=A.in1) hh _ l hlI (intItems xs),st,hfp,CmpOf.ints_gt (numAt xs) (fun _ _=>intItems_at),fun v h1 tk hp hk=>h v h1 tk (old_kept hk) ?_⟩
 have hz:(intItems xs).size=xs.size:=by unfold intItems; rw [Array.size_map]
 rcases hp with ⟨h0,rfl⟩ | ⟨h0,hp⟩
 ·rw [hz] at h0
  refine .inl ⟨List.eq_nil_of_length_eq_zero ?_,rfl⟩
  rw [List.length_map,Array.length_toList]; exact h0
 ·rw [hz] at h0 hp
  obtain ⟨t,rfl⟩:=intItems_at (show (intItems xs)[_]? = some v from hp)
  obtain ⟨h1,h2⟩:=argBest_gt (numAt xs) (xs.size - 1)
  refine .inr ⟨_,t,rfl,?_,fun a ha=>?_⟩
  ·rw [numAt_eq]; exact PySem.getD_mem (by rw [List.length_map,Array.length_toList]; omega)
  ·obtain ⟨j,hj,rfl⟩:=mem_getD ha
   rw [List.length_map,Array.length_toList] at hj; rw [<- numAt_eq]
   exact h2 j (by omega)
end
section
variable {X:Cx}
def aim (X:Cx) (f:Value) (n:Str) (r:List V->V->Hp->VK->Prop):Prop :=
 ∀ (pins:List (Addr × Obj)) (s:Shared) (σ:St) (H:Hp) (xs:List V) (us:List Value) (x:V) (u:Value) (Q:VK),Inv X pins σ H s->Vals xs us->RelV x u->r xs x H Q->wpAny (model X.prog X.w) X.A (call f us [(n,u)]) (EP X pins σ Q) X.xe s
def tCK (r:List V->V->Hp->VK->Prop) (t:TA) (k:TE):TE:=fun σ H Q=>t σ H fun vs H1=>k σ H1 fun y H2=>r vs y H2 Q
theorem aeB {id:String} {x n:Str} {r:List V->V->Hp->VK->Prop} {e ke:Expr} {es:List Expr} {t:TA} {k:TE} {p kp pos:Pos} (hc:aim X (.builtin id) n r) (hg:Gl X x) (hm:X.mg x=none) (hv:bootBuiltins x=some (.builtin id)) (ha:PA X (e :: es) t) (hk:PE X ke k)
  (hn:x ≠ "__name__" := by decide) (hdb:(x == ("__debug__" : Str))=false:=by decide) (he:backTo pos (starEach (e :: es) X.env)=(false,eval e X.env) :: backTo pos (starEach es X.env):=by rfl) (hpl:(backTo pos (starEach (e :: es) X.env)).any (·.1)=false:=by rfl) :
  PE X (.Call (.Name x p) (e :: es) [⟨some n,ke,kp⟩] pos) (tCK r t k):=by
 intro pins s σ H Q I h
 refine wpAny_Call_Name_kw (JK I hg hm hv ?_ hn hdb)
 refine callWith_kw (thn (ha pos pins s σ H _ I h) fun us s1 ⟨vs,H1,I1,r1,q1⟩=>kws_cons (thn (hk pins s1 σ H1 _ I1 q1) fun u s2 ⟨y,H2,I2,r2,q2⟩=>kws_nil ?_)) he hpl
 exact hc pins s2 σ H2 vs us y u Q I2 r1 r2 q2
def aj3 (K:PySem.W.Frag):List V->V->Hp->VK->Prop:=fun vs d H Q=>∃ (a:Addr) (ns:List Int),vs=[V.ref a]/\SqL K H a (ns.map V.int)/\(ns=[]->Q d H)/\∀ m,m ∈ ns->(∀ y,y ∈ ns->y <= m)->Q (.int m) H
theorem ahR (hc:X.calm=true):aim X (.builtin "max") "default" (aj3 X.K):=by
 intro pins s σ H vs us x u Q I r rx h
 obtain ⟨a,ns,rfl,hs,h0,q⟩:=h
 obtain ⟨its,rv,hl,_⟩:=I.list hs
 rw [Vals.acw r]
 refine aht (I.ok.hd hc) hl.isList rv.ints fun v h1 tk hk h2=>?_
 rcases h2 with ⟨e,rfl⟩ | ⟨M,t,rfl,m1,m2⟩
 ·exact ⟨x,H,I.kept hk,rx,h0 e⟩
 ·exact ⟨.int _,H,I.kept hk,⟨_,rfl⟩,q M m1 m2⟩
end
end L2
namespace Py
open PySem PySem.Spec PyProof.Rows L2
open Mx (Fw Nz CK ab1 Trans Hw)
open Br (Bytes tower)
section
variable {P:Program} {w:World} {K:PySem.W.Frag} {mg:Str->Option Value} {base:Heap} {Ak Aq Af:Addr}
def Xu:Sp:=fun vs H Q _=>∃ (m:Nat) (a:Addr) (U:List Nat),vs=[.int (m:Int),.ref a]/\H a=some (.lst (Aw U))/\U.length <= 256 /\
 Out H Q (fun v H'=>∃ l,v = .ref l/\H l=none/\H' l=some (.lst (Aw ((List.range U.length).filter (Fw U m)))))
theorem Nq:Ar ["before", "under", "line"] ["before", "under"] (Aj Jz):=⟨rfl,rfl,rfl,by decide +kernel,rfl,by decide +kernel,by decide +kernel⟩
theorem Td {f:Nat->Bool} (j:Nat):(List.range (j + 1)).filter f=(List.range j).filter f ++ if f j=true then [j] else []:=by
 rw [List.range_succ,List.filter_append]
 congr 1
 by_cases z:f j=true
 ·rw [if_pos z,List.filter_cons_of_pos z]; rfl
 ·rw [if_neg z,List.filter_cons_of_neg z]; rfl
theorem Qp (T:Txt K mg Ak Aq Af):Cl P w K mg base 4 "lines_next" ["before", "under"] Xu:=by
 refine T.aaj.ok Nq (fun vs H Q E h=>?_) (fun f cdv A outer s H vs Q E hr h=>?_)
 ·obtain ⟨m,a,U,rfl,_⟩:=h
  rfl
 ·obtain ⟨m,a,U,rfl,ha,h256,k⟩:=h
  have nd:=Nq.nd
  refine ⟨_,(Ae (Al (YC rfl nd (Je rfl T.MN (Aa (Be Ax (by rfl) T.Dg PySem.boot_len (Aa (pv 1) (Ad))) (Ad))) (Gi (own:=[("line",2)]) (show WY ["before", "under", "line"] (Aj Jz) _ [("line",2)] = true from by decide +kernel))
     (fun _ _ _ _ _=>Bb (i:=2) nd rfl (Or.inl rfl)) (fun _ _ _ _ _=>adD (Ea (Bl (Ka T) hr rfl (Aa (pv 2) (Aa (pv 0) (Aa (pv 1) (Ad)))))))
     (fun _ _ _ _ _=>pv 2)))),?_⟩
  refine ⟨_,rfl,a,_,rfl,.inl (SqL.of ha),_,rfl,by rw [Ba]; omega,by rw [Ba]; omega,fun D hD=>?_⟩
  rw [Ba,Int.toNat_natCast]
  refine abm (n:=U.length) (fun j H2=>Ag H H2/\H2 D=some (.lst (Aw ((List.range j).filter (Fw U m))))) ⟨Ag.new hD,Ab⟩
    (fun j H2 hj p=>hj) (fun H2 p=>Nat.le_refl _) ?_ ?_
  ·rintro j x H2 H3' hj ⟨p1,p2⟩ ⟨rfl,rfl⟩
   rw [Int.zero_add]
   refine ⟨rfl,?_⟩
   refine ⟨_,rfl,_,rfl,_,rfl,j,m,a,U,rfl,p1 _ _ ha,hj,h256,fun v8 H8 s8 ev8=>⟨_,ev8,?_⟩⟩
   rw [Td]
   refine BP (fun z=>?_) (fun z=>?_)
   ·rw [if_pos z]
    refine ⟨_,rfl,_,s8 _ _ p2,?_,?_,?_⟩
    ·rw [Ba]
     have:=List.length_filter_le (Fw U m) (List.range j)
     rw [List.length_range] at this
     exact Bx (by omega)
    ·exact Ag.Ef hD (p1.trans s8)
    ·rw [Ab]
     exact congrArg (fun z=>some (HO.lst z)) (Ol _ j)
   ·rw [if_neg z,List.append_nil]
    exact ⟨p1.trans s8,s8 _ _ p2⟩
  ·rintro H2 ⟨p1,p2⟩
   exact k _ _ p1 ⟨D,rfl,hD,p2⟩
theorem afK (n:Nat):(List.replicate (n:Int).toNat [V.int 0]).flatten=Aw (List.replicate n 0):=by
 rw [Int.toNat_natCast]
 unfold Aw
 induction n with
 | zero=>rfl
 | succ n ih=>rw [List.replicate_succ,List.flatten_cons,ih,List.replicate_succ]; rfl
theorem afh:bootBuiltins "max" = some (.builtin "max"):=by decide +kernel
theorem ahK {K:PySem.W.Frag} {a:Addr} {xs:List V} {g:TG} {tb:TS} {D:Ends} {σ:L2.St} {H:Hp} (Pv:Nat->L2.St->Hp->Prop) (h0:Pv 0 σ H) (hl:∀ i σ H,i <= xs.length->Pv i σ H->SqL K H a xs)
  (hs:∀ i x σ H,i < xs.length->xs[xs.length - 1 - i]? = some x->Pv i σ H->g x σ H fun σ2 H2=>tb { D with nx:=Pv (i + 1),ct:=Pv (i + 1),bk:=D.nx } σ2 H2) (hd:∀ σ H,Pv xs.length σ H->D.nx σ H) :
  ∃ W:Nat->Nat->L2.St->Hp->Prop,(∃ m,W 0 m σ H)/\∀ i m σ H,W i m σ H ->
   ((Itv K a xs.length).stop i H/\D.nx σ H) \/ ((Itv K a xs.length).go i H/\∃ N:L2.St->Hp->Prop,(∀ σ' H',N σ' H'->∃ m',m' < m/\W (i + 1) m' σ' H')/\∀ x H',(Itv K a xs.length).yld i H x H'->g x σ H' fun σ2 H2=>tb { D with nx:=N,ct:=N,bk:=D.nx } σ2 H2):=by
 refine ⟨fun i m σ H=>m=xs.length - i/\i <= xs.length/\Pv i σ H,⟨xs.length,by simp,Nat.zero_le _,h0⟩,?_⟩
 rintro i m σ H ⟨rfl,hi,pv0⟩
 have sq:=hl i σ H hi pv0
 rcases Nat.lt_or_ge i xs.length with hlt | hge
 ·have hb:xs.length - 1 - i < xs.length:=by omega
  refine .inr ⟨⟨hlt,xs,xs[xs.length - 1 - i],sq,List.getElem?_eq_getElem hb⟩,Pv (i + 1),fun σ' H' pv1=>⟨xs.length - (i + 1),by omega,rfl,hlt,pv1⟩,fun x H' y=>?_⟩
  obtain ⟨rfl,y⟩:=y
  exact hs i x σ _ hlt (y xs sq) pv0
 ·have e:i=xs.length:=Nat.le_antisymm hi hge
  subst e
  exact .inl ⟨hge,hd σ H pv0⟩
def TV:Sp:=fun vs H Q _=>∃ (a:Addr) (U:List Nat) (c:Br.Catalogue) (b:Br.Build),vs=[.ref a]/\H a=some (.lst (Aw U))/\MP c b U/\b.lines.length <= 256/\(∀ i,i < b.lines.length -> ¬ Trans (Hw (tower c b)) i i) /\
 Out H Q (fun v H'=>∃ l,v = .ref l/\H' l=some (.lst (Aw (tower c b).chains)))
theorem JT:Ar ["under", "chains", "line", "other", "chain", "upper"] ["under"] (Aj Hi):=⟨rfl,rfl,rfl,by decide +kernel,rfl,by decide +kernel,by decide +kernel⟩
theorem WQ (T:Txt K mg Ak Aq Af):Cl P w K mg base 6 "chains_above" ["under"] TV:=by
 refine T.Wz.ok JT (fun vs H Q E h=>?_) (fun f cdv A outer s H vs Q E hr h=>?_)
 ·obtain ⟨a,U,c,b,rfl,_⟩:=h
  rfl
 ·obtain ⟨a,U,c,b,rfl,ha,hU,h256,ac,k⟩:=h
  have nd:=JT.nd
  refine ⟨_,(Ac (Av (i:=1) nd rfl (Or.inl rfl) (BV acH (DN (Aa (Am) (Ad))) (Be Ax (by rfl) T.Dg PySem.boot_len (Aa (pv 0) (Ad))))) (Ac (Cr PassesOwn.never rfl (aa6 rfl T.adl (Aa (Bl (X3 T) hr rfl (Aa (pv 0) (Ad))) (Ad))) (Bb (i:=2) nd rfl (Or.inr rfl))
    (Ac (VG (i:=5) rfl nd rfl rfl (ZG rfl rfl rfl (by decide +kernel)) (Mp rfl T.Eo (Aa (pv 1) (Ad))) (Gi (own:=[("other",3),("chain",4)]) (show WY ["under", "chains", "line", "other", "chain", "upper"] (Aj Hi) _ [("other",3),("chain",4)] = true from by decide +kernel))
     (fun _ _ _ _ _=>(show PG _ _ (ajl K 2 (aby (S9 3) (aby (S9 4) ajm))) from FN rfl (Bo (Bb (i:=3) nd rfl (Or.inl rfl)) (Bo (Bb (i:=4) nd rfl (Or.inl rfl)) Eh)))) (fun _ _ _ _ _=>adD (Ea (Bl (G9 T) hr rfl (Aa (pv 2) (Aa (Ci (show IxR _ (aj5 K) from BJ) (pv 0) (pv 3) (fun _ _=>rfl)) (Ad))))))
     (fun _ _ _ _ _=>pv 4)) (Ae (ZX (BV Gd Am (aeB (ahR rfl) (by rfl) T.akP afh (Aa (pv 5) (Ad)) (Sq QJ Am))) (Z0 (pv 1) (pv 2) set_list))))) (Ae (Al (pv 1))))),?_⟩
  have hlen:U.length=b.lines.length:=hU.len
  refine ⟨(by show 1 <= sizeLine; decide),fun l0 hl0=>⟨_,rfl,a,_,rfl,.inl (SqL.of (Ag.new hl0 _ _ ha)),l0,_,_,rfl,rfl,Ab,by rw [Ba]; omega,by rw [Ba]; omega,?_,fun l hl=>?_⟩⟩
  ·rw [Ba,hlen]
   show 1 * (b.lines.length:Int).toNat <= sizeLine
   rw [Int.toNat_natCast,sizeLine_eq]; omega
  rw [Ba,hlen,afK]
  have s1:Ag H (upd H l0 (.lst [.int 0])):=Ag.new hl0
  have nl:H l=none:=s1.free hl
  have s2:Ag H (upd (upd H l0 (.lst [.int 0])) l (.lst (Aw (List.replicate b.lines.length 0)))):=s1.trans (Ag.new hl)
  have hl2:upd (upd H l0 (.lst [.int 0])) l (.lst (Aw (List.replicate b.lines.length 0))) l=some (.lst (Aw (List.replicate b.lines.length 0))):=Ab
  generalize upd (upd H l0 (.lst [.int 0])) l (.lst (Aw (List.replicate b.lines.length 0)))=H2 at s2 hl2
  refine ⟨_,rfl,a,U,c,b,rfl,s2 _ _ ha,hU,h256,fun v3 H3 s3 ⟨lo,ev3,nlo,hlo⟩=>?_⟩
  subst ev3
  have nll:lo ≠ l:=fun z=>by rw [z,hl2] at nlo; cases nlo
  obtain ⟨olt,aiR,amb⟩:=Mx.Rm ac
  have ajK:(Aw (tower c b).order).length=b.lines.length:=by rw [Ba]; exact aiR
  refine ⟨lo,_,rfl,SqL.of hlo,ahK (K:=K) (a:=lo) (xs:=Aw (tower c b).order)
   (fun x σ H'=>∃ (v2 v5:Option V) (L:List Nat),σ=[some (.ref a),some (.ref l),v2,none,none,v5]/\(∀ y o,H3 y=some o->y ≠ l->H' y=some o)/\Ag H H'/\H' l=some (.lst (Aw L))/\ab1 c b ((tower c b).order.drop (b.lines.length - x)) L)
   ⟨none,none,_,rfl,fun y o e _=>e,s2.trans s3,s3 _ _ hl2,List.length_replicate,fun i hi=>by rw [Nat.sub_zero,<- aiR,List.drop_length] at hi; cases hi⟩ (fun i σ H' _ ⟨_,_,_,_,kp,_⟩=>SqL.of (kp _ _ hlo nll)) ?_ ?_⟩
  ·rintro x z σ H' hxl hx ⟨v2,v5,L,rfl,kp,sm,hl',hP⟩
   rw [ajK] at hxl hx
   have hyl:b.lines.length - 1 - x < (tower c b).order.length:=by rw [aiR]; omega
   rw [Dl hyl] at hx
   cases hx
   obtain ⟨i,hi⟩:∃ i,(tower c b).order[b.lines.length - 1 - x]? = some i:=⟨_,List.getElem?_eq_getElem hyl⟩
   have ei:(tower c b).order.getD (b.lines.length - 1 - x) 0=i:=by rw [List.getD_eq_getElem?_getD,hi]; rfl
   rw [ei]
   have hin:i < b.lines.length:=olt i (List.mem_of_getElem? hi)
   have hlL:L.length=b.lines.length:=hP.1
   have ha':=sm _ _ ha
   refine ⟨_,rfl,l,_,rfl,SqL.of hl',fun D hD=>?_⟩
   refine abm (n:=L.length) (fun j H2=>Ag H' H2/\H2 D=some (.lst (Aw (((List.range j).filter fun j=>(U.getD j 0).testBit i).map fun j=>L.getD j 0)))) ⟨Ag.new hD,Ab⟩
     (fun j H2 hj p=>⟨_,_,SqL.of (p.1 _ _ hl'),Dl hj⟩) (fun H2 p=>⟨_,SqL.of (p.1 _ _ hl'),by rw [Ba]; exact Nat.le_refl _⟩) ?_ ?_
   ·rintro j x H2 H3' hj ⟨p1,p2⟩ ⟨tt,xv,rfl,hT,rfl,hx⟩
    have hxv:xv = .int ((L.getD j 0:Nat):Int):=by
     have:=hx _ (SqL.of (p1 _ _ hl'))
     rw [Dl hj] at this
     exact (Option.some.inj this).symm
    subst hxv
    have st:=Ag.new (o:=.tup [.int ((j:Nat):Int),.int ((L.getD j 0:Nat):Int)]) hT
    refine ⟨tt,_,rfl,SqT.of Ab,rfl,_,_,rfl,_,_,rfl,rfl,rfl,?_⟩
    refine ⟨_,rfl,_,rfl,_,rfl,a,_,_,_,rfl,rfl,SqL.of (st _ _ (p1 _ _ ha')),LK rfl (Dl (by omega)),i,U.getD j 0,rfl,by omega,fun v8 H8 s8 ev8=>⟨_,ev8,?_⟩⟩
    rw [Td,List.map_append]
    refine BP (fun z=>?_) (fun z=>?_)
    ·rw [if_pos z]
     refine ⟨_,rfl,_,s8 _ _ (st _ _ p2),?_,?_,?_⟩
     ·rw [Ba,List.length_map]
      have:=List.length_filter_le (fun j=>(U.getD j 0).testBit i) (List.range j)
      rw [List.length_range] at this
      exact Bx (by omega)
     ·exact Ag.Ef hD (p1.trans (st.trans s8))
     ·rw [Ab]
      exact congrArg (fun z=>some (HO.lst z)) (Ol _ _)
    ·rw [if_neg z,List.map_nil,List.append_nil]
     exact ⟨p1.trans (st.trans s8),s8 _ _ (st _ _ p2)⟩
   ·rintro H5 ⟨p1,p2⟩
    have kp5:∀ y o,H3 y=some o->y ≠ l->H5 y=some o:=fun y o e ne=>p1 _ _ (kp y o e ne)
    have sm5:=sm.trans p1
    have hl5:=p1 _ _ hl'
    have ex:b.lines.length - 1 - x + 1=b.lines.length - x:=by omega
    have fin:∀ m:Int,(((List.range b.lines.length).filter fun j=>(U.getD j 0).testBit i).map fun j=>((L.getD j 0:Nat):Int))=[]/\m = -1 \/ m ∈ (((List.range b.lines.length).filter fun j=>(U.getD j 0).testBit i).map fun j=>((L.getD j 0:Nat):Int))/\(∀ y ∈ (((List.range b.lines.length).filter fun j=>(U.getD j 0).testBit i).map fun j=>((L.getD j 0:Nat):Int)),y <= m)->1 + m=(((tower c b).chains.getD i 0:Nat):Int):=fun m =>
     Mx.chain_val ac hP hin (fun j hj=>by rw [<- ex]; exact Mx.aa9 ac hi hj) (fun j hj=>hU.bit j hj i)
    have etk:(tower c b).order.drop (b.lines.length - (x + 1))=i :: (tower c b).order.drop (b.lines.length - x):=by
     have e2:b.lines.length - (x + 1)=b.lines.length - 1 - x:=by omega
     rw [e2,List.drop_eq_getElem_cons hyl,ex]
     congr 1
     rw [List.getElem?_eq_getElem hyl] at hi
     exact Option.some.inj hi
    have hfin:=hP.step hin rfl
    rw [<- etk] at hfin
    have emap:Aw (((List.range L.length).filter fun j=>(U.getD j 0).testBit i).map fun j=>L.getD j 0)=((((List.range b.lines.length).filter fun j=>(U.getD j 0).testBit i).map fun j=>((L.getD j 0:Nat):Int))).map V.int:=by
     unfold Aw
     rw [hlL,List.map_map,List.map_map]
     rfl
    rw [emap] at p2
    have put:∀ m:Int,1 + m=(((tower c b).chains.getD i 0:Nat):Int)->upd H5 l (.lst ((Aw L).set i (.int (1 + m)))) l=some (.lst (Aw (L.set i ((tower c b).chains.getD i 0)))):=fun m e=>by rw [Ab,e,Rr]
    refine ⟨_,rfl,_,rfl,D,_,rfl,SqL.of p2,fun h0=>?_,fun m m1 m2=>?_⟩
    ·refine ⟨_,_,rfl,rfl,_,rfl,_,rfl,l,_,_,i,rfl,rfl,hl5,Mv (by rw [Ba]; omega),?_⟩
     exact ⟨_,_,_,rfl,fun y o e ne=>by rw [Ah ne]; exact kp5 y o e ne,Ag.Ef nl sm5,put _ (fin _ (.inl ⟨h0,rfl⟩)),hfin⟩
    ·refine ⟨_,_,rfl,rfl,_,rfl,_,rfl,l,_,_,i,rfl,rfl,hl5,Mv (by rw [Ba]; omega),?_⟩
     exact ⟨_,_,_,rfl,fun y o e ne=>by rw [Ah ne]; exact kp5 y o e ne,Ag.Ef nl sm5,put _ (fin _ (.inr ⟨m1,m2⟩)),hfin⟩
  ·rintro σ H' ⟨v2,v5,L,rfl,kp,sm,hl',hP⟩
   rw [ajK,Nat.sub_self,List.drop_zero] at hP
   exact ⟨_,rfl,k _ _ sm ⟨l,rfl,by rw [<- hP.all ac]; exact hl'⟩⟩
end
end Py
namespace L2
open PySem PySem.Spec PyProof.Rows
theorem ahL (l:Addr) (items:Array Value) (n:Nat) (b:Addr) (o2:Obj) (items2:Array Value) (n2:Nat) (hcls:o2.cls = .type "tuple") (hdat:o2.data = .seq items2 n2) (small:¬ (!items.isEmpty && Builtin.List.listTooLong (items.size + items2.size))=true) (hs1:items.size <= sizeLine) (hs2:items.size + items2.size <= sizeLine) :
  Meets (Builtin.«list.extend» ⟨[.ref l,.ref b],[]⟩) (fun _ R s=>s.heap.get? l=some { cls:=.type "list",data:=.seq items n }/\s.heap.get? b=some o2/\R (.ok (.ret Value.none)) { s with heap:=s.heap.update l (Obj.mapSeq fun x=>x ++ items2),toks:=s.toks }) :=
 .of_wp fun prog w A R s h=>by
  obtain ⟨cls,dict,data,slots⟩:=o2
  cases hcls
  cases hdat
  obtain ⟨hp,g,d,tk,os⟩:=s
  obtain ⟨hl,hb,h⟩:=h
  have fits:(items ++ items2).size <= sizeLine + 1:=by rw [Array.size_append]; omega
  have f1:=AutoSeq1.idx_int
  have f2:=AutoSeq1.sub_tuple_tuple
  have f3:=AutoSeq1.sub_list_list
  have f4:=AutoSeq1.sub_tuple_list
  have f5:=AutoSeq1.sub_list_tuple
  wp_walk using (wpAny_updateSeq hl rfl (hz:=hs1) (_hz':=fits)),AutoSeq1.wpAny_loadPart' hl,AutoSeq1.wpAny_loadPart' hb
  exact ⟨_,rfl,h⟩
section
variable {X:Cx}
def afQ:V->List V->Hp->VK->Prop:=fun x vs H Q=>∃ l b xs zs,x = .ref l/\vs=[.ref b]/\H l=some (.lst xs)/\H b=some (.tup zs)/\xs.length + zs.length <= sizeLine/\Q .non (upd H l (.lst (xs ++ zs)))
theorem V6:MtM X "list.extend" afQ:=by
 rintro pins s σ H x vs v us Q I rx rv ⟨l,b,xs,zs,rfl,rfl,hH,hB,hz,q⟩
 cases rx
 obtain ⟨u,rfl,ru⟩:=rv.one
 cases ru
 obtain ⟨_,its,n,r,hl,e⟩:=I.aeG hH
 obtain ⟨_,its2,r2,o2,e2,c2,n2,d2⟩:=I.hok b _ hB
 have hl2:=r2.length
 have both:its.toArray.size + its2.toArray.size <= sizeLine:=by rw [List.size_toArray,List.size_toArray]; omega
 have small:¬ (!its.toArray.isEmpty && Builtin.List.listTooLong (its.toArray.size + its2.toArray.size))=true:=by
  rw [abb both,Bool.and_false]
  exact Bool.false_ne_true
 refine call_meets F.slot_list_extend ⟨_,e,rfl⟩ F.entry_list_extend (F.args_list_extend_2 _ _) (ahL l its.toArray n b o2 its2.toArray n2 c2 d2 small (by omega) both) ⟨e,e2,?_⟩
 exact ⟨.non,_,I.aiY (its':=its ++ its2) hH e (by simp) (r.append r2) (by rw [List.length_append]; exact hz),rfl,q⟩
def afO (K:PySem.W.Frag):List V->Hp->VK->Prop:=fun vs H Q=>∃ (a:Addr) (ns:List Int),vs=[V.ref a]/\SqL K H a (ns.map V.int)/\ns.length <= sizeLine /\
 ∀ (ns':List Int) (p:Addr),ns'.Perm ns->ns'.Pairwise (· <= ·)->H p=none->Q (.ref p) (upd H p (.lst (ns'.map V.int)))
theorem ade:Kc X (.builtin "sorted") (afO X.K):=by
 intro pins s σ H vs us Q I r h
 obtain ⟨a,ns,rfl,hs,hz,q⟩:=h
 obtain ⟨its,rv,hl,_⟩:=I.list hs
 rw [Vals.acw r]
 have hi:=rv.ints
 refine PyProof.Rows.sorted_intsAny hl.isList hi (by rw [hi.length]; exact hz) fun out ns' h1 h2 h3=>?_
 obtain ⟨ep,he'⟩:=PyProof.Rows.sortedAll_at s.heap its out
 have hlen:(ns'.map V.int).length <= sizeLine:=by rw [List.length_map,h2.length_eq]; exact hz
 exact ⟨.ref _,upd H (s.heap.objs.size + 1) (.lst (ns'.map V.int)),I.laid (t':=s.toks) (fun _ _=>PyProof.Rows.sortedAll_old) (Nat.le_succ _) ⟨hlen,out.toList,ep,OJ h1,he'⟩,rfl,q ns' _ h2 h3 (I.hok.fresh (Nat.le_succ _))⟩
def tFs (te:TE):TE:=fun σ H Q=>te σ H fun x H1=>∃ n:Nat,x = .int (n:Int)/\n <= 255/\Q (.str (Str.empty ++ (" " : Str) ++ (toString (n:Int):String))) H1
theorem agt:∀ n:Nat,n < 256->(Str.empty ++ (" " : Str) ++ (toString (n:Int):String)).length <= 10:=by decide +kernel
theorem ajn:∀ n:Nat,n < 256->((n:Int)).natAbs.log2 < 1920:=by decide +kernel
theorem ahi {e:Expr} {te:TE} {j:Nat} {p0 p1 p2:Pos} (he:PE X e te):PE X (.JoinedStr [.Constant (.str " ") j p0,.FormattedValue e (-1) none p1] p2) (tFs te):=by
 intro pins s σ H Q I h
 refine JoinedStr_many (joinParts_cons (Calls.Constant_str ⟨by decide,joinParts_cons (FormattedValue_plain (thn (he pins _ σ H _ (I.tok _) h) fun v s1 z=>?_))⟩))
 obtain ⟨x,H1,I1,r1,n,ex,hn,q⟩:=z
 subst ex
 obtain ⟨t,rfl⟩:=r1
 have sz:(Str.empty ++ (" " : Str) ++ (toString (n:Int):String)).length <= sizeLine:=Nat.le_trans (agt n (by omega)) (by decide)
 exact formatField_int_small (ajn n (by omega)) ⟨sz,joinParts_nil ⟨.str _,H1,(I1.tok _).tok _,⟨_,rfl⟩,q⟩ sz⟩
end
end L2
namespace Py
open PySem PySem.Spec PyProof.Rows L2
open Mx (Eu)
open Br (Bytes Pages ascii decimal)
theorem ahJ:∀ n:Nat,n < 256->(Str.empty ++ (" " : Str) ++ (toString (n:Int):String)).cps.toList=(32 :: decimal n).map UInt8.toNat:=by decide +kernel
theorem adX:∀ n:Nat,n < 256->(decimal n).length <= 3:=by decide +kernel
theorem afY:("page" : Str).cps.toList=(ascii "page").map UInt8.toNat:=by decide +kernel
theorem agD {l:List Nat} {t:Bytes} (h:l=t.map UInt8.toNat):(l.map fun c=>V.int ((c:Nat):Int))=bV t:=by
 subst h
 unfold bV
 rw [List.map_map]
 rfl
theorem Rj {α β:Type} {G G':α->β->Prop}:∀ {l:List α} {m:List β},Paired G l m->(∀ a ∈ l,∀ b,G a b->G' a b)->Paired G' l m
 | _,_,.nil,_=>.nil
 | _,_,.cons h t,f=>.cons (f _ (List.mem_cons_self ..) _ h) (Rj t fun a ha b hb=>f a (List.mem_cons_of_mem _ ha) b hb)
theorem adm (a b:Bytes):bV a ++ bV b=bV (a ++ b):=by unfold bV; rw [List.map_append]
section
variable {P:Program} {w:World} {K:PySem.W.Frag} {mg:Str->Option Value} {base:Heap} {Ak Aq Af:Addr}
def QQ:Sp:=fun vs H Q _=>∃ (g:Addr) (qs:List Addr) (l:Pages),vs=[.ref g]/\H g=some (.lst (qs.map V.ref))/\Paired (fun q g=>H q=some (.lst (Aw g))) qs l/\l.length <= 256/\(∀ p ∈ l,p.length <= 256/\∀ i ∈ p,i <= 255) /\
 Out H Q (fun v H'=>∃ s,v = .ref s/\H' s=some (.lst (bV (Br.pagesText l))))
theorem Iv:Ar ["pages", "signs", "lines", "line"] ["pages"] (Aj JV):=⟨rfl,rfl,rfl,by decide +kernel,rfl,by decide +kernel,by decide +kernel⟩
theorem Ma:∀ (p:List Nat),(∀ i ∈ p,i <= 255)->(p.flatMap fun i=>32 :: decimal i).length <= 4 * p.length
 | [],_=>by simp
 | i :: p,h=>by
  have h1:=adX i (by have:=h i (List.mem_cons_self ..); omega)
  have h2:=Ma p fun j hj=>h j (List.mem_cons_of_mem _ hj)
  rw [List.flatMap_cons,List.length_append,List.length_cons,List.length_cons]
  omega
theorem ahc (p:List Nat) (h:p.length <= 256/\∀ i ∈ p,i <= 255):(Eu p).length <= 1100:=by
 unfold Eu
 have:=Ma p h.2
 rw [List.length_append,List.length_append]
 have e:(ascii "page").length=4:=by decide
 have e2:([10]:Bytes).length=1:=rfl
 omega
theorem Vy:∀ (l:Pages),(∀ p ∈ l,p.length <= 256/\∀ i ∈ p,i <= 255)->(l.flatMap Eu).length <= 1100 * l.length
 | [],_=>by simp
 | p :: l,h=>by
  have h1:=ahc p (h p (List.mem_cons_self ..))
  have h2:=Vy l fun q hq=>h q (List.mem_cons_of_mem _ hq)
  rw [List.flatMap_cons,List.length_append,List.length_cons]
  omega
theorem Ue (T:Txt K mg Ak Aq Af):Cl P w K mg base 2 "text_of_pages" ["pages"] QQ:=by
 refine T.T4.ok Iv (fun vs H Q E h=>?_) (fun f cdv A outer s H vs Q E hr h=>?_)
 ·obtain ⟨g,qs,l,rfl,_⟩:=h
  rfl
 ·obtain ⟨g,qs,l,rfl,hg,hq,hl,hs,k⟩:=h
  have nd:=Iv.nd
  refine ⟨_,(Ac (Av (i:=1) nd rfl (Or.inl rfl) (DN Ad)) (Ac (Cr PassesOwn.never rfl (Gz (pv 0)) (Bb (i:=2) nd rfl (Or.inl rfl))
    (Ac (Gy (KZ PySem.F.plainAttrs_list PySem.F.slot_list_extend PySem.F.type_list_extend V6 (pv 1) (Aa (Bl (Hr T) hr rfl (Aa (Z1) (Ad))) (Ad)))) (Ac (Cr PassesOwn.never rfl (Gz (pv 2)) (Bb (i:=3) nd rfl (Or.inl rfl))
     (Ae (Gy (KZ PySem.F.plainAttrs_list PySem.F.slot_list_extend PySem.F.type_list_extend V6 (pv 1) (Aa (Bl (Hr T) hr rfl (Aa (ahi (pv 3)) (Ad))) (Ad)))))) (Ae (Gy (KZ PySem.F.plainAttrs_list PySem.F.slot_list_append PySem.F.type_list_append Fx (pv 1) (Aa (Df T.Yd rfl) (Ad)))))))) (Ae (Al (pv 1))))),?_⟩
  have hql:qs.length=l.length:=Paired.length hq
  refine ⟨Nat.zero_le _,fun sg hsg=>?_⟩
  have s1:Ag H (upd H sg (.lst [])):=Ag.new hsg
  have h1:upd H sg (.lst []) sg=some (.lst (bV [])):=Ab
  generalize upd H sg (.lst [])=H1 at s1 h1
  refine ⟨_,rfl,g,rfl,⟨_,SqL.of (s1 _ _ hg)⟩,Ho (K:=K) (a:=g) (xs:=qs.map V.ref) (fun x σ H'=>∃ (v2 v3:Option V),σ=[some (.ref g),some (.ref sg),v2,v3]/\Ag H H'/\H' sg=some (.lst (bV ((l.take x).flatMap Eu))))
   ⟨none,none,rfl,s1,h1⟩ (fun i σ H' _ ⟨_,_,_,sm,_⟩=>SqL.of (sm _ _ hg)) ?_ ?_⟩
  ·rintro i x σ H' hx ⟨v2,v3,rfl,sm,aeP⟩
   rw [List.getElem?_map] at hx
   cases eq:qs[i]? with
   | none=>rw [eq] at hx; cases hx
   | some y =>
   rw [eq] at hx
   cases hx
   obtain ⟨p,hp,hy⟩:=BW hq eq
   have hi:i < l.length:=(List.getElem?_eq_some_iff.mp hp).1
   have hpm:=hs p (List.mem_of_getElem? hp)
   have et:(l.take (i + 1)).flatMap Eu=(l.take i).flatMap Eu ++ Eu p:=by
    rw [List.take_add_one,hp,List.flatMap_append]
    simp
   rw [et]
   have hb0:((l.take i).flatMap Eu).length <= 1100 * 256:=by
    have:=Vy (l.take i) fun q hq=>hs q (List.mem_of_mem_take hq)
    have h3:(l.take i).length <= 256:=by rw [List.length_take]; omega
    have:1100 * (l.take i).length <= 1100 * 256:=Nat.mul_le_mul_left _ h3
    omega
   generalize (l.take i).flatMap Eu=done at aeP hb0
   refine ⟨_,rfl,.inl ⟨rfl,_,SqL.of aeP⟩,_,rfl,by decide,fun v4 H4 s4 ⟨t4,ev4,ht4⟩=>?_⟩
   subst ev4
   rw [agD afY] at ht4
   have e4:(ascii "page").length=4:=by decide
   refine ⟨sg,t4,_,_,rfl,rfl,s4 _ _ aeP,ht4,(by rw [Ep,Ep,sizeLine_eq]; omega),?_⟩
   rw [adm]
   have sm5:Ag H (upd H4 sg (.lst (bV (done ++ ascii "page")))):=Ag.Ef hsg (sm.trans s4)
   have h5:upd H4 sg (.lst (bV (done ++ ascii "page"))) sg=some (.lst (bV (done ++ ascii "page"))):=Ab
   generalize upd H4 sg (.lst (bV (done ++ ascii "page")))=H5 at sm5 h5
   refine ⟨_,rfl,y,rfl,⟨_,SqL.of (sm5 _ _ hy)⟩,Ho (K:=K) (a:=y) (xs:=Aw p) (fun x σ H'=>∃ (v3:Option V),σ=[some (.ref g),some (.ref sg),some (.ref y),v3]/\Ag H H'/\H' sg=some (.lst (bV (done ++ ascii "page" ++ (p.take x).flatMap fun i=>32 :: decimal i))))
    ⟨_,rfl,sm5,by rw [List.take_zero,List.flatMap_nil,List.append_nil]; exact h5⟩ (fun i σ H' _ ⟨_,_,sm,_⟩=>SqL.of (sm _ _ hy)) ?_ ?_⟩
   ·rintro x z σ H6 hz ⟨v3,rfl,sm6,h6⟩
    have hxl:x < p.length:=by
     have:=(List.getElem?_eq_some_iff.mp hz).1
     rwa [Ba] at this
    rw [Dl hxl] at hz
    cases hz
    have hgx:p[x]? = some (p.getD x 0):=by rw [List.getD_eq_getElem?_getD,List.getElem?_eq_getElem hxl]; rfl
    have hle:=hpm.2 _ (List.mem_of_getElem? hgx)
    have ett:(p.take (x + 1)).flatMap (fun i=>32 :: decimal i)=(p.take x).flatMap (fun i=>32 :: decimal i) ++ (32 :: decimal (p.getD x 0)):=by
     rw [List.take_add_one,hgx,List.flatMap_append]
     simp
    rw [ett]
    have hb1:((p.take x).flatMap fun i=>32 :: decimal i).length <= 1024:=by
     have:=Ma (p.take x) fun q hq=>hpm.2 q (List.mem_of_mem_take hq)
     have h3:(p.take x).length <= 256:=by rw [List.length_take]; omega
     omega
    have hd3:=adX (p.getD x 0) (by omega)
    generalize (p.take x).flatMap (fun i=>32 :: decimal i)=part at h6 hb1
    refine ⟨_,rfl,.inl ⟨rfl,_,SqL.of h6⟩,_,rfl,p.getD x 0,rfl,hle,_,rfl,?_,fun v7 H7 s7 ⟨t7,ev7,ht7⟩=>?_⟩
    ·have:=agt (p.getD x 0) (by omega)
     exact Nat.le_trans this (by decide)
    subst ev7
    rw [agD (ahJ _ (by omega))] at ht7
    refine ⟨sg,t7,_,_,rfl,rfl,s7 _ _ h6,ht7,(by rw [Ep,Ep,List.length_append,List.length_append,List.length_cons,sizeLine_eq]; omega),?_⟩
    rw [adm]
    refine ⟨_,rfl,Ag.Ef hsg (sm6.trans s7),?_⟩
    rw [Ab,List.append_assoc]
   ·rintro σ H6 ⟨v3,rfl,sm6,h6⟩
    rw [Ba,List.take_length] at h6
    have hb1:(p.flatMap fun i=>32 :: decimal i).length <= 1024:=by
     have:=Ma p hpm.2
     omega
    refine ⟨_,rfl,.inl ⟨rfl,_,SqL.of h6⟩,sg,_,_,rfl,rfl,h6,(by rw [Ep,List.length_append,List.length_append]; exact Bx (by omega)),_,_,rfl,Ag.Ef hsg sm6,?_⟩
    rw [Ab]
    unfold Eu
    have:bV (done ++ ascii "page" ++ p.flatMap fun i=>32 :: decimal i) ++ [V.int 10] = bV (done ++ (ascii "page" ++ (p.flatMap fun i=>32 :: decimal i) ++ [10])):=by
     have e10:[V.int 10] = bV [10]:=rfl
     rw [e10,adm]
     simp
    rw [this]
  ·rintro σ H' ⟨v2,v3,rfl,sm,aeP⟩
   rw [List.length_map,hql,List.take_length] at aeP
   exact ⟨_,rfl,k _ _ sm ⟨sg,rfl,by rw [Mx.Yk]; exact aeP⟩⟩
open Mx (Fw Nz CK)
open Br (Bytes Pages tower)
def QT (K:PySem.W.Frag):Sp:=fun vs H Q _=>∃ (a:Addr) (l:List Nat),vs=[.ref a]/\SqL K H a (Aw l)/\(∀ i ∈ l,i <= 255)/\Out H Q (fun v _=>∃ m:Nat,v = .int (m:Int)/\CK m l)
theorem Iw:Ar ["lines", "mask", "line"] ["lines"] (Aj JZ):=⟨rfl,rfl,rfl,by decide +kernel,rfl,by decide +kernel,by decide +kernel⟩
theorem Uh (T:Txt K mg Ak Aq Af):Cl P w K mg base 2 "mask_of_lines" ["lines"] (QT K):=by
 refine T.T7.ok Iw (fun vs H Q E h=>?_) (fun f cdv A outer s H vs Q E hr h=>?_)
 ·obtain ⟨a,l,rfl,_⟩:=h
  rfl
 ·obtain ⟨a,l,rfl,ha,h255,k⟩:=h
  have nd:=Iw.nd
  refine ⟨_,(Ac (Av (i:=1) nd rfl (Or.inl rfl) Am) (Ac (Cr PassesOwn.never rfl (Gz (pv 0)) (Bb (i:=2) nd rfl (Or.inl rfl))
    (Ae (Av (i:=1) nd rfl (Or.inl rfl) (BV YL (pv 1) (Bl (Jq T) hr rfl (Aa (pv 2) (Ad))))))) (Ae (Al (pv 1))))),?_⟩
  refine ⟨_,rfl,a,rfl,⟨_,ha⟩,Ho (K:=K) (a:=a) (xs:=Aw l) (fun i σ H'=>∃ (v2:Option V) (m:Nat),σ=[some (.ref a),some (.int (m:Int)),v2]/\Ag H H'/\CK m (l.take i))
   ⟨none,0,rfl,Ag.refl _,CK.nil⟩ (fun i σ H' _ ⟨_,_,_,sm,_⟩=>sm.seq ha) ?_ ?_⟩
  ·rintro i x σ H' hx ⟨v2,m,rfl,sm,hm⟩
   have hi:i < l.length:=by
    have:=(List.getElem?_eq_some_iff.mp hx).1
    rwa [Ba] at this
   rw [Dl hi] at hx
   cases hx
   have hg:l[i]? = some (l.getD i 0):=by rw [List.getD_eq_getElem?_getD,List.getElem?_eq_getElem hi]; rfl
   have h2:=h255 _ (List.mem_of_getElem? hg)
   refine ⟨_,rfl,_,rfl,l.getD i 0,rfl,by omega,fun v7 H7 s7 ev7=>?_⟩
   subst ev7
   refine ⟨_,_,rfl,rfl,?_⟩
   dsimp only
   rw [Rn]
   refine ⟨_,_,rfl,sm.trans s7,?_⟩
   rw [List.take_succ,hg]
   exact hm.snoc
  ·rintro σ H' ⟨v2,m,rfl,sm,hm⟩
   rw [Ba,List.take_length] at hm
   exact ⟨_,rfl,k _ _ sm ⟨m,rfl,hm⟩⟩
end
end Py
namespace L2
open PySem PySem.Spec PyProof.Rows
abbrev DY (h h':Heap):Prop:=∀ b o,h.get? b=some o->h'.get? b=some o
theorem DY.upd {h h':Heap} {a:Addr} (g:DY h h') (n:h.get? a=none) (f:Obj->Obj):DY h (h'.update a f):=fun b o e=>by
 have ne:b ≠ a:=fun z=>by rw [z,n] at e; cases e
 rw [Heap.get?_update_ne _ _ _ _ ne]
 exact g b o e
theorem DY.push {h h':Heap} (g:DY h h') (o:Obj):DY h (h'.push o):=fun b u e=>Heap.get?_push_of_some _ (g b u e)
def Nf (h:Heap) (v:Value) (p:Int × Int):Prop:=∃ q t u n,v = .ref q/\h.get? q=some (seqObj "tuple" #[.int p.1 t,.int p.2 u] n)
theorem Nf.grown {h h':Heap} {v:Value} {p:Int × Int} (g:DY h h') (x:Nf h v p):Nf h' v p :=
 let ⟨q,t,u,n,e,e2⟩:=x; ⟨q,t,u,n,e,g _ _ e2⟩
def noStr:Nat->Bool:=fun _=>false
theorem Nf.key {h:Heap} {v:Value} {p:Int × Int} (x:Nf h v p):G.tupKeyC h noStr v=some [Sum.inl p.1,Sum.inl p.2]:=by
 obtain ⟨q,t,u,n,rfl,e⟩:=x
 unfold G.tupKeyC
 have h1:G.isTupObj h (.ref q)=true:=by
  unfold G.isTupObj
  dsimp only
  rw [e]
  rfl
 rw [if_pos h1]
 unfold tupKey
 dsimp only
 rw [e]
 rfl
theorem Nf.of {h:Heap} {v:Value} {p:Int × Int} (x:Nf h v p):∃ t,TupOf h noStr v (.int p.1 t):=by
 obtain ⟨q,t,u,n,rfl,e⟩:=x
 exact ⟨t,q,_,_,_,rfl,e,rfl,rfl,rfl,fun _=>⟨_,_,rfl⟩,fun z=>by cases z⟩
abbrev Fd (h:Heap):List Value->List (Int × Int)->Prop:=Paired (Nf h)
theorem Fd.grown {h h':Heap} (g:DY h h'):∀ {ks:List Value} {ps:List (Int × Int)},Fd h ks ps->Fd h' ks ps
 | _,_,.nil=>.nil
 | _,_,.cons x r=>.cons (x.grown g) (Fd.grown g r)
theorem Fd.snoc {h:Heap} {v:Value} {p:Int × Int} (x:Nf h v p):∀ {ks:List Value} {ps:List (Int × Int)},Fd h ks ps->Fd h (ks ++ [v]) (ps ++ [p])
 | _,_,.nil=>.cons x .nil
 | _,_,.cons y r=>.cons y (Fd.snoc x r)
theorem Fd.tups {h:Heap}:∀ {ks:List Value} {ps:List (Int × Int)},Fd h ks ps->∃ fs,TupsOf h noStr ks fs
 | _,_,.nil=>⟨[],.nil⟩
 | _,_,.cons x r=>by
  obtain ⟨t,y⟩:=x.of
  obtain ⟨fs,z⟩:=Fd.tups r
  exact ⟨_,.cons y z⟩
def acM (h:Heap) (v:Value):Int × Int:=match G.tupKeyC h noStr v with
 | some [Sum.inl a,Sum.inl b]=>(a,b)
 | _=>(0,0)
theorem Nf.num {h:Heap} {v:Value} {p:Int × Int} (x:Nf h v p):acM h v=p:=by
 unfold acM
 rw [x.key]
theorem Fd.nums {h:Heap}:∀ {ks:List Value} {ps:List (Int × Int)},Fd h ks ps->ks.map (acM h)=ps
 | _,_,.nil=>rfl
 | _,_,.cons x r=>by rw [List.map_cons,x.num,Fd.nums r]
theorem Fd.mem {h:Heap}:∀ {ks:List Value} {ps:List (Int × Int)},Fd h ks ps->∀ v ∈ ks,∃ p,Nf h v p
 | _,_,.nil,v,hv=>by cases hv
 | _,_,.cons x r,v,hv=>by
  rcases List.mem_cons.mp hv with rfl | hv
  ·exact ⟨_,x⟩
  ·exact Fd.mem r v hv
def le2 (p q:Int × Int):Prop:=p.1 < q.1 \/ (p.1=q.1/\p.2 <= q.2)
def U3 (ps:List (Int × Int)) (vs out:List Value):Prop:=∃ zs:List ((Int × Int) × Value),zs.Perm (ps.zip vs)/\out=zs.map Prod.snd/\zs.Pairwise (fun p q=>le2 p.1 q.1)
theorem alw {a b c d:Int} (h:(listOrd itemOrd).kle [Sum.inl a,Sum.inl b] [Sum.inl c,Sum.inl d]):le2 (a,b) (c,d):=by
 have h:lexLt itemOrd [Sum.inl c,Sum.inl d] [Sum.inl a,Sum.inl b] = false:=h
 rw [lex_false] at h
 obtain ⟨h1,h2⟩:=h
 have h1:decide (c < a)=false:=h1
 rw [decide_eq_false_iff_not] at h1
 rcases h2 with h2 | h2
 ·have h2:decide (a < c)=true:=h2
  rw [decide_eq_true_iff] at h2
  exact .inl h2
 ·rw [lex_false] at h2
  have h3:decide (d < b)=false:=h2.1
  rw [decide_eq_false_iff_not] at h3
  by_cases e:a=c
  ·exact .inr ⟨e,by show b <= d; omega⟩
  ·exact .inl (by show a < c; omega)
theorem Vl {h:Heap} {keys:Array Value} {vs:List Value} {ps:List (Int × Int)} {xs:Array Keyed} (hk:Fd h keys.toList ps) (hp:xs.Perm (keys.zip vs.toArray)) (hs:SortedToK (G.tupKindC h noStr) xs xs.size):U3 ps vs (xs.map (·.2)).toList:=by
 have e1:(keys.zip vs.toArray).toList=keys.toList.zip vs:=ksk_zip keys vs
 have hl:xs.toList.Perm (keys.toList.zip vs):=by rw [<- e1]; exact Array.perm_iff_toList_perm.mp hp
 have hm:∀ p ∈ xs.toList,∃ q,Nf h p.1 q:=fun p hp'=>hk.mem p.1 (List.of_mem_zip (hl.mem_iff.mp hp')).1
 have hK:KeysOf (G.tupKindC h noStr) xs:=fun p hp'=>let ⟨q,x⟩:=hm p hp'; ⟨_,x.key⟩
 refine ⟨xs.toList.map fun p=>(acM h p.1,p.2),?_,?_,?_⟩
 ·have e2:(keys.toList.zip vs).map (fun p:Keyed=>(acM h p.1,p.2))=ps.zip vs:=by
   rw [<- hk.nums,List.zip_map_left]
   rfl
  rw [<- e2]
  exact hl.map _
 ·rw [Array.toList_map,List.map_map]
  rfl
 ·rw [List.pairwise_map]
  refine (keyLe_of_sorted hK hs).imp_of_mem fun {p q} m1 m2 z=>?_
  obtain ⟨a,b,ka,kb,l⟩:=z
  obtain ⟨p1,x1⟩:=hm p m1
  obtain ⟨q1,x2⟩:=hm q m2
  have ka:G.tupKeyC h noStr p.1=some a:=ka
  have kb:G.tupKeyC h noStr q.1=some b:=kb
  rw [x1.key] at ka
  rw [x2.key] at kb
  cases ka
  cases kb
  show le2 (acM h p.1) (acM h q.1)
  rw [x1.num,x2.num]
  exact alw l
section
variable {prog:Program} {w:World} {A:Around} {E:Value->Shared->Prop} {s:Shared} {h0:Heap} {a kS:Addr} {vs:List Value} {ps:List (Int × Int)} {kA:Array Value} {e e1:Nat} {P:PySem.Fin->Shared->Prop}
theorem adz {st:SortSt} (g:DY h0 s.heap) (ha:s.heap.get? a=some (seqObj "list" #[] e1)) (na:h0.get? a=none) (hk:s.heap.get? kS=some (seqObj "list" kA e)) (nk:h0.get? kS=none) (ne:kS ≠ a)
  (hz:kA.size <= sizeLine) (hout:((arrOf st).map (·.2)).size <= sizeLine) (hf:failedOf st=none)
  (fin:∀ h' c,DY h0 h'->h'.get? a=some (seqObj "list" ((arrOf st).map (·.2)) c)->P (.done (.ret .none)) { s with heap:=h' }) :
  wpAny (model prog w) A (ksk_tail a false e1 (.ref kS) st) P E s:=by
 have ha1:(s.heap.update kS (Obj.mapSeq fun _=>#[])).get? a=some (seqObj "list" #[] e1):=by
  rw [Heap.get?_update_ne _ _ _ _ (Ne.symm ne)]
  exact ha
 unfold ksk_tail
 refine wpAny_bind (listUpdate_at hk rfl ?_ hz (Nat.zero_le _))
 refine wpAny_bind (wpAny_letGo ?_)
 refine wpAny_bind (seqEpoch_at ha1 rfl ?_)
 refine wpAny_bind (listUpdate_at ha1 rfl ?_ (Nat.zero_le _) (Nat.le_succ_of_le hout))
 rw [hf]
 simp only [bne_self_eq_false,Bool.false_eq_true,if_false]
 exact wpAny_pure (fin _ _ ((g.upd nk _).upd na _) (get?_update_seq ha1 _))
theorem aiC (g:DY h0 s.heap) (ha:s.heap.get? a=some (seqObj "list" #[] e1)) (na:h0.get? a=none) (hk:s.heap.get? kS=some (seqObj "list" kA e)) (nk:h0.get? kS=none) (ne:kS ≠ a)
  (hp:Fd s.heap kA.toList ps) (hl:ps.length=vs.length) (hZ:vs.length <= sizeLine)
  (fin:∀ h' out c,DY h0 h'->h'.get? a=some (seqObj "list" out c)->U3 ps vs out.toList->P (.done (.ret .none)) { s with heap:=h' }) :
  wpAny (model prog w) A (ksk_end a false vs.toArray e1 (.ref kS) kA) P E s:=by
 have hsz:kA.size=vs.length:=by
  have:=Paired.length hp
  rw [Array.length_toList] at this
  omega
 have hzs:(kA.zip vs.toArray).size=vs.length:=by rw [Array.size_zip,hsz,List.size_toArray,Nat.min_self]
 unfold ksk_end
 simp only [Bool.false_eq_true,if_false]
 by_cases h2:vs.toArray.size < 2
 ·rw [if_pos h2,if_pos h2]
  refine wpAny_bind (wpAny_pure ?_)
  rw [StateT.run_pure]
  refine wpAny_bind (wpAny_pure ?_)
  refine adz (st:=SortSt.mk' general' (kA.zip vs.toArray) #[] 7 none) g ha na hk nk ne (by omega) (by rw [Array.size_map]; show (kA.zip vs.toArray).size <= _; omega) rfl fun h' c g' ha'=>fin h' _ c g' ha' ?_
  refine Vl (xs:=kA.zip vs.toArray) hp (Array.Perm.refl _) fun i j hij hj=>?_
  rw [hzs] at hj
  rw [List.size_toArray] at h2
  have:i=j:=by omega
  subst this
  exact KeyOrd.kle_refl _
 ·rw [if_neg h2,if_neg h2]
  rw [List.size_toArray] at h2
  obtain ⟨fs,hfs⟩:=hp.tups
  have hfl:fs.length=kA.size:=(G.TupsOf.length hfs).trans Array.length_toList
  refine wpAny_bind (tup_kind (vs:=kA.toList) (by omega) hfs ?_)
  refine wpAny_bind (wpAny_mono (G.wpS_sortRunsSt (κ:=G.tupKindC s.heap noStr) (kd:=tuples' true) (a₀:=kA.zip vs.toArray) (st:=SortSt.mk' (tuples' true) (kA.zip vs.toArray) #[] 7 none)
   (Q:=fun _ st'=>(arrOf st').Perm (kA.zip vs.toArray)/\failedOf st'=none/\SortedToK (G.tupKindC s.heap noStr) (arrOf st') (arrOf st').size)
   (G.tupC_ltAt true (G.KeepsTups.refl _)) ?_ ⟨Array.Perm.refl _,rfl,rfl⟩ rfl (Stable.refl _) (by rw [hzs]; omega)
   fun st' b1 b2 b3 _=>⟨b1,b2,by rw [b1.size_eq]; exact b3⟩) ?_ fun _ _ z=>z)
  ·intro p hp'
   have e1:(kA.zip vs.toArray).toList=kA.toList.zip vs:=ksk_zip kA vs
   rw [e1] at hp'
   obtain ⟨q,x⟩:=hp.mem p.1 (List.of_mem_zip hp').1
   exact ⟨_,x.key⟩
  ·rintro ⟨⟨⟩,st'⟩ s' ⟨rfl,b1,b2,b3⟩
   exact adz g ha na hk nk ne (by omega) (by rw [Array.size_map,b1.size_eq,hzs]; exact hZ) b2 fun h' c g' ha'=>fin h' _ c g' ha' (Vl hp b1 b3)
def agR (s:Shared) (h:Heap) (p:Int × Int) (k:Value) (s2:Shared):Prop:=∃ h2 tk,s2 = { s with heap:=h2,toks:=tk }/\DY h h2/\Nf h2 k p
theorem ag5 {f:Value} (g:DY h0 s.heap) (ha:s.heap.get? a=some (seqObj "list" #[] e1)) (na:h0.get? a=none) (hk:s.heap.get? kS=some (seqObj "list" #[] 0)) (nk:h0.get? kS=none) (ne:kS ≠ a)
  (hl:ps.length=vs.length) (hZ:vs.length <= sizeLine)
  (turn:∀ (i:Nat) (v:Value) (p:Int × Int),vs[i]? = some v->ps[i]? = some p->∀ (h:Heap) (tk:Nat),DY h0 h->wpAny (model prog w) A (call f [v]) (agR s h p) (fun _ _=>False) { s with heap:=h,toks:=tk })
  (fin:∀ h' tk out c,DY h0 h'->h'.get? a=some (seqObj "list" out c)->U3 ps vs out.toList->P (.done (.ret .none)) { s with heap:=h',toks:=tk }) :
  wpAny (model prog w) A (ksk_rest a f false vs.toArray e1 (.ref kS)) P E s:=by
 unfold ksk_rest
 refine wpAny_bind (wpAny_rule ?_)
 rw [<- Array.forIn_toList]
 refine wpAny_bind (ksk_fold (fun i s'=>∃ h' tk kA e,s' = { s with heap:=h',toks:=tk }/\DY h0 h'/\h'.get? a=some (seqObj "list" #[] e1)/\h'.get? kS=some (seqObj "list" kA e)/\Fd h' kA.toList (ps.take i)) vs 0 s
  ⟨s.heap,s.toks,#[],0,rfl,g,ha,hk,.nil⟩ ?_ ?_)
 ·rintro j x s' hx ⟨h',tk,kA,e,rfl,g',ha',hk',hK⟩
  rw [Nat.zero_add] at hK ⊢
  have hj:j < vs.length:=(List.getElem?_eq_some_iff.mp hx).1
  obtain ⟨p,hpj⟩:∃ p,ps[j]? = some p:=⟨_,List.getElem?_eq_getElem (by omega)⟩
  have hz:kA.size <= vs.length:=by
   have h1:=Paired.length hK
   rw [Array.length_toList,List.length_take] at h1
   omega
  refine wpAny_bind (wpAny_attempt (wpAny_mono (turn j x p hx hpj h' tk g') (fun k s'' z=>?_) fun _ _ z=>z.elim))
  obtain ⟨h2,tk2,rfl,g2,hT⟩:=z
  dsimp only
  have hk2:=g2 _ _ hk'
  refine wpAny_bind (listUpdate_at hk2 rfl ?_ (Nat.le_trans hz hZ) (by rw [Array.size_push]; omega))
  have nq:∀ {v:Value} {p:Int × Int},Nf h2 v p->Nf (h2.update kS (Obj.mapSeq (·.push k))) v p:=fun {v p} ⟨q,t,u,n,e1,e2⟩=>by
   refine ⟨q,t,u,n,e1,?_⟩
   rw [Heap.get?_update_ne _ _ _ _ (fun z=>by rw [z,hk2] at e2; injection e2 with e2; injection e2 with e2; injection e2 with e2; exact absurd e2 (by decide))]
   exact e2
  have hK2:Fd (h2.update kS (Obj.mapSeq (·.push k))) (kA.push k).toList (ps.take (j + 1)):=by
   rw [List.take_add_one,hpj,Array.toList_push]
   refine Fd.snoc (nq hT) ?_
   have:=hK.grown g2
   clear hz
   generalize kA.toList=ks at this
   generalize ps.take j=qs at this
   induction this with
   | nil=>exact .nil
   | cons x r ih=>exact .cons (nq x) ih
  refine wpAny_pure ⟨rfl,_,_,kA.push k,_,rfl,DY.upd (h:=h0) (h':=h2) (fun b o e=>g2 b o (g' b o e)) nk _,?_,get?_update_seq hk2 _,hK2⟩
  rw [Heap.get?_update_ne _ _ _ _ (Ne.symm ne)]
  exact g2 _ _ ha'
 ·rintro s' ⟨h',tk,kA,e,rfl,g',ha',hk',hK⟩
  rw [Nat.zero_add,<- hl,List.take_length] at hK
  refine wpAny_bind (listItems_at hk' rfl ?_)
  exact aiC (s:={ s with heap:=h',toks:=tk }) g' ha' na hk' nk ne hK hl hZ fun h3 out c g3 ha3 hs=>fin h3 tk out c g3 ha3 hs
theorem aeq {l:Addr} {f:Addr} {Q:Value->Shared->Prop} (hL:s.heap.IsList l vs.toArray) (hl:ps.length=vs.length) (hZ:vs.length <= sizeLine)
  (turn:∀ (i:Nat) (v:Value) (p:Int × Int),vs[i]? = some v->ps[i]? = some p->∀ (h:Heap) (tk:Nat),DY s.heap h->wpAny (model prog w) A.in1.in1 (call (.ref f) [v]) (agR s h p) (fun _ _=>False) { s with heap:=h,toks:=tk })
  (fin:∀ D h' tk out c,DY s.heap h'->s.heap.objs.size <= D->h'.get? D=some (seqObj "list" out c)->U3 ps vs out.toList->Q (.ref D) { s with heap:=h',toks:=tk }) :
  wpAny (model prog w) A (call (.builtin "sorted") [.ref l] [(Str.ofString "key",.ref f)]) Q E s:=by
 refine call_function_entry_kw kind_sorted plain_sorted entry_sorted (ksk_s1 _ _) ?_
 unfold Builtin.«sorted»
 refine wpAny_bind (m:=checkCount "sorted" 1 1 _) (wpAny_pure ?_)
 refine wpAny_bind (collect_list hL ?_ hZ)
 refine wpAny_bind (wpAny_newList ?_ hZ)
 have g0:DY s.heap ((s.heap.push (seqObj "list" #[] 0)).update s.heap.objs.size (Obj.mapSeq (· ++ vs.toArray))):=DY.upd (DY.push (fun _ _ e=>e) _) (Heap.get?_none_of_le (Nat.le_refl _)) _
 have z0:((s.heap.push (seqObj "list" #[] 0)).update s.heap.objs.size (Obj.mapSeq (· ++ vs.toArray))).objs.size=s.heap.objs.size + 1:=by rw [Heap.size_update,size_push']
 generalize (s.heap.push (seqObj "list" #[] 0)).update s.heap.objs.size (Obj.mapSeq (· ++ vs.toArray))=ha at g0 z0
 have hoL:(ha.push (seqObj "list" vs.toArray 0)).get? ha.objs.size=some (seqObj "list" vs.toArray 0):=Heap.get?_push_size _ rfl
 have gL:DY s.heap (ha.push (seqObj "list" vs.toArray 0)):=g0.push _
 have nL:s.heap.get? ha.objs.size=none:=Heap.get?_none_of_le (by omega)
 generalize hb1:ha.push (seqObj "list" vs.toArray 0)=hb at hoL gL
 have zb:hb.objs.size=s.heap.objs.size + 2:=by rw [<- hb1,size_push',z0]
 show wpAny _ _ _ _ _ { s with heap:=hb }
 refine wpAny_bind (wpAny_holding (wpAny_call_entry_kw slot_list_sort ⟨_,hoL,rfl⟩ entry_list_sort ?_ (ksk_l1 _ _)))
 rw [ksk_t1]
 unfold ksk_tree
 refine wpAny_bind (listItems_at hoL rfl ?_)
 refine wpAny_bind (listUpdate_at hoL rfl ?_ (by rw [List.size_toArray]; exact hZ) (Nat.zero_le _))
 have ho1:=get?_update_seq hoL (fun _=>(#[]:Array Value))
 generalize (if (#[]:Array Value).size == vs.toArray.size then 0 else 0 + 1)=e1 at ho1
 have g1:DY s.heap (hb.update ha.objs.size (Obj.mapSeq fun _=>#[])):=gL.upd nL _
 have z1:(hb.update ha.objs.size (Obj.mapSeq fun _=>(#[]:Array Value))).objs.size=s.heap.objs.size + 2:=by rw [Heap.size_update,zb]
 show wpAny _ _ _ _ _ { s with heap:=hb.update ha.objs.size (Obj.mapSeq fun _=>(#[]:Array Value)) }
 generalize hb.update ha.objs.size (Obj.mapSeq fun _=>(#[]:Array Value))=hc at ho1 g1 z1
 refine wpAny_bind (seqEpoch_at ho1 rfl ?_)
 refine wpAny_bind (wpAny_newTuple ?_ (by show vs.length <= _; exact hZ))
 refine wpAny_bind (wpAny_newList ?_ (Nat.zero_le _))
 refine wpAny_holding ?_
 refine ag5 (s:={ s with heap:=(hc.push (seqObj "tuple" vs.toArray 0)).push (seqObj "list" #[] 0) }) (h0:=s.heap) (kS:=(hc.push (seqObj "tuple" vs.toArray 0)).objs.size) (ps:=ps) (e1:=e1)
  ((g1.push _).push _) (Heap.get?_push_of_some _ (Heap.get?_push_of_some _ ho1)) nL (Heap.get?_push_size _ rfl) (Heap.get?_none_of_le (show s.heap.objs.size <= (hc.push (seqObj "tuple" vs.toArray 0)).objs.size by rw [size_push',z1]; omega)) (show (hc.push (seqObj "tuple" vs.toArray 0)).objs.size ≠ ha.objs.size by rw [size_push',z1,z0]; exact Nat.ne_of_gt (by omega)) hl hZ turn
  fun h' tk out c g' ha' hs=>⟨_,rfl,?_⟩
 exact wpAny_pure ⟨_,rfl,fin _ h' tk out c g' (by rw [z0]; omega) ha' hs⟩
end
def GQ:Scope:={ kind:=.function,names:=[("line",.local),("chains",.free)],isGenerator:=false,isCoroutine:=false,more:=[] }
def Qg (p:Pos):Arguments:={ posonlyargs:=[],args:=[{ arg := "line",annotation:=none,pos:=p }],vararg:=none,kwonlyargs:=[],kw_defaults:=[],kwarg:=none,defaults:=[] }
def Mu (p1 p2 p3 p4 p5 p6:Pos):Expr:=.Tuple [.UnaryOp .USub (.Subscript (.Name "chains" p1) (.Name "line" p2) p3) p4,.Name "line" p5] 0 p6
section
variable {prog:Program} {w:World} {A:Around} {s:Shared} {f c' cc ch:Addr} {qual:Str} {pm ctv:Value} {its:Array Value} {i:Nat} {n:Int} {t u:Tok} {ap p1 p2 p3 p4 p5 p6:Pos}
theorem agf (ho:s.heap.get? f=some (PySem.W.kla_obj "<lambda>" qual (Qg ap) (Mu p1 p2 p3 p4 p5 p6) GQ [("chains",cc)] pm c' ctv)) (hrec:s.heap.CodeRec (.ref c') qual)
  (hc:s.heap.IsCell cc (some (.ref ch))) (hL:s.heap.IsList ch its) (hz:its.size <= sizeLine) (hi:its[i]? = some (.int n t)) (hn:s.heap.NoLimit) (hr:A.depth < recursionLimit) :
  wpAny (model prog w) A (call (.ref f) [.int (i:Int) u]) (agR s s.heap (-n,(i:Int))) (fun _ _=>False) s:=by
 refine wpAny_call (PySem.W.kla_callFunE hr ho rfl rfl rfl rfl hrec ?_)
 rw [show bindArgs (PySem.W.kla_fn "<lambda>" qual (Qg ap) (Mu p1 p2 p3 p4 p5 p6) GQ [("chains",cc)] pm (.ref c') ctv) ⟨[.int (i:Int) u],[]⟩=pure [(("line" : Str),Value.int (i:Int) u)] from rfl]
 refine wpAny_pure (wpAny_newFunctionEnv (show ∀ x ∈ GQ.names,x.2 ≠ .cell from by decide) (fun x hx=>by rw [List.mem_singleton] at hx; subst hx; rfl) (fun h1 hns hsb=>⟨hn.fresh _ hsb,PySem.W.kla_codeExpr ?_⟩) rfl)
 have g1:DY s.heap h1:=fun b o e=>hsb.extBut b o (Nat.ne_of_lt (Heap.lt_size e)) (Heap.get?_push_of_some _ e)
 obtain ⟨oc,hoc,hdc⟩:=hc
 have hc1:h1.IsCell cc (some (.ref ch)):=⟨oc,g1 _ _ hoc,hdc⟩
 obtain ⟨oL,hoL,hcL,mL,hdL⟩:=hL
 have hL1:h1.IsList ch its:=⟨oL,g1 _ _ hoL,hcL,mL,hdL⟩
 unfold Mu
 refine wpAny_Tuple_spliced ?_
 refine Calls.spliced_cons ?_
 refine UnaryOp_ (Subscript_ ?_)
 refine wpAny_Name (wpAny_loadName_free rfl rfl rfl hc1 ?_ (by decide)) (by decide)
 refine wpAny_Name (wpAny_loadName_local rfl rfl hns rfl ?_) (by decide)
 refine item_listR hL1 (by omega) (by have:=sizeLine_eq; have:=(Array.getElem?_eq_some_iff.mp hi).1; omega) (x:=.int n t) (by rw [Int.toNat_natCast]; exact hi) (neg_int ?_)
 refine Calls.spliced_cons ?_
 refine wpAny_Name (wpAny_loadName_local rfl rfl hns rfl ?_) (by decide)
 refine Calls.spliced_nil ⟨show 2 <= sizeLine by decide,?_⟩
 exact ⟨_,_,rfl,g1.push _,_,_,_,_,rfl,Heap.get?_push_size _ rfl⟩
end
open PySem PySem.Spec PyProof.Rows PySem.W
def TabOf (h:Heap) (mg:Str->Option Value) (x:Str) (c P:Addr):Prop:=(∃ a o fd,mg x=some (.ref a)/\h.get? a=some o/\o.data = .func fd/\fd.code = .ref c)/\CodeHd h c P/\h.BuiltinsAt mg P/\mainGlobals ≠ P
theorem acj {P:Program} {w:World} {K:PySem.W.Frag} {mg mb:Str->Option Value} {CX:CXT} {k:Nat} {fa:Addr} {fd:FuncData} {ps:List Str} {sp:Sp} {s₁:Shared} {vals:List Value} {ds:List WData} {R:PySem.W.WRecords} {cl:Str->Option Addr} {d0:WData} {x:Str} {c T:Addr}
  (KX:K.In s₁.heap) (hns:s₁.heap.Ns mainGlobals mg) (hb:s₁.heap.Ns builtinsNs mb) (hbb:∀ x:Str,x ≠ "__name__" -> mb x=bootBuiltins x) (hlim:s₁.heap.NoLimit) (hg:s₁.gens = #[])
  (hT:TabOf s₁.heap mg x c T) (hTo:s₁.heap.get? T=some (tabObj #[])) (hKT:K.lookup T=none)
  (hwl:WellAll w.params s₁.heap vals ds) (hpl:TX ds=true) (hwt:∀ d ∈ ds,d.weight <= 1048576) (hr:Fq k callerA)
  (F:∀ base:Heap,K.In base->base.Ns mainGlobals mg->TabOf base mg x c T->Up P w K mg base CX k fa fd ps sp) (hbind:∀ (s:Shared) (us:List Value),us.length=ps.length->BindsTo s fd ⟨us,[]⟩ (ps.zip us)) (hlen:ds.length=ps.length)
  (hsp:∀ (H:Hp) (xs:List V),H T=none->LR K H xs ds->sp xs (upd H T (.tbl #[])) (fun v H'=>Dw K H' v d0) fun _ _ _=>False)
  (hCX:∀ H e s',CX [] H s₁ (fun _ _ _=>False) e s'->False) :
  codeAny (model P w) callerA (.call (.ref fa) ⟨vals,[]⟩) (fun r s'=>∃ u as,r = .ok (.ret u)/\ReadsW R cl s'.heap u d0 as/\OldK s₁.heap s'.heap/\s'.os=s₁.os/\AllBare s'.gens) s₁:=by
 obtain ⟨A,ho,ar⟩:=Qv ds vals hwl hpl hwt
 have hO:aii (JN K s₁.heap A):=afl ar
 have hok:HOk P w (JN K s₁.heap A) s₁.heap:=ahY ar
 have hS:=aac KX ar ds vals hwl hpl ho
 have hV:=Io ho
 have hK:∀ b u,JN K s₁.heap A b=some u->K.lookup b=none:=fun b u q=>(UT ar q).1
 have noA:∀ {b:Addr} {o:Obj},s₁.heap.get? b=some o->(∀ xs n,o.data ≠ .seq xs n)->JN K s₁.heap A b=none:=fun {b o} e d=>by
  cases q:JN K s₁.heap A b with
  | none=>rfl
  | some u =>
   obtain ⟨_,vs,_,_,⟨e2,_⟩ | ⟨e2,_⟩⟩:=UT ar q
   ·rw [e2] at e
    cases e
    exact absurd rfl (d _ _)
   ·rw [e2] at e
    cases e
    exact absurd rfl (d _ _)
 generalize JN K s₁.heap A=H at hO hok hS hK noA
 have hTn:H T=none:=noA hTo fun xs n z=>by cases z
 have noB:∀ {b:Addr} {o:Obj},s₁.heap.get? b=some o->(∀ xs n,o.data ≠ .seq xs n)->b ≠ T->upd H T (.tbl #[]) b=none:=fun e d n=>by rw [Ah n]; exact noA e d
 have nsT:∀ {b:Addr} {m:Str->Option Value},s₁.heap.Ns b m->b ≠ T:=fun {b m} ⟨o,es,ep,e,d,r⟩ z=>by
  rw [z,hTo] at e
  cases e
  cases d
 have alI:HOk P w (upd H T (.tbl #[])) s₁.heap:=fun b u e=>by
  by_cases z:b=T
  ·subst z
   rw [Ab] at e
   cases e
   exact hTo
  ·rw [Ah z] at e
   refine (hok b u e).stay (fun c v _ q=>q) (fun y q=>?_) fun y ys q=>?_
   ·rw [Ah (Bh q hTn)]; exact q
   ·rw [Ah (Bh q hTn)]; exact q
 have Qu:∀ {b:Addr} {o:Obj},s₁.heap.get? b=some o->upd H T (.tbl #[]) b=none->(XF s₁.heap (upd H T (.tbl #[]))).get? b=some o:=fun e n=>agp e n
 have nsK:∀ {b:Addr} {m:Str->Option Value},s₁.heap.Ns b m->(XF s₁.heap (upd H T (.tbl #[]))).Ns b m:=fun {b m} N=>by
  obtain ⟨o,es,ep,e,d,r⟩:=id N
  exact ⟨o,es,ep,Qu e (noB e (fun xs n z=>by rw [d] at z; cases z) (nsT N)),d,r⟩
 have nK:∀ b o,K.lookup b=some o->upd H T (.tbl #[]) b=none:=fun b o e=>by
  have z:b ≠ T:=fun z=>by rw [z,hKT] at e; cases e
  rw [Ah z]
  cases q:H b with
  | none=>rfl
  | some u =>
   rw [hK b u q] at e
   cases e
 have hKb:K.In (XF s₁.heap (upd H T (.tbl #[]))):=fun b o e=>Qu (KX b o e) (nK b o e)
 have hM:Mod K mg (XF s₁.heap (upd H T (.tbl #[]))):=⟨hKb,nsK hns,⟨mb,nsK hb,hbb⟩,let ⟨mc,h1,h2⟩:=hlim; ⟨mc,nsK h1,h2⟩⟩
 have hTb:TabOf (XF s₁.heap (upd H T (.tbl #[]))) mg x c T:=by
  obtain ⟨⟨a,o,fd',m1,m2,m3,m4⟩,⟨oc,vs,file,tf,flags,tg,inF,text,tt,c1,c2,c3,cr⟩,⟨bm,ob,b1,b2,b3,b4,b5,b6,b7,b8⟩,hg0⟩:=hT
  refine ⟨⟨a,o,fd',m1,Qu m2 (noB m2 (fun xs n z=>by rw [m3] at z; cases z) fun z=>?_),m3,m4⟩,⟨oc,vs,file,tf,flags,tg,inF,text,tt,Qu c1 (noB c1 (fun xs n z=>by rw [c3] at z; cases z) cr.2.2.2.2.2.2),c2,c3,cr⟩,⟨bm,ob,b1,b2,b3,b4,Qu b5 (noB b5 (fun xs n z=>by rw [b8] at z; cases z) b4),b6,b7,b8⟩,hg0⟩
  rw [z,hTo] at m2
  cases m2
  cases m3
 have e0:adq P w K mg (XF s₁.heap (upd H T (.tbl #[]))) callerA [] s₁ (upd H T (.tbl #[])):=⟨rfl,hM,fun b o e=>ahp e,Nat.le_of_eq (aeR _ _),trivial,fun b hb=>absurd (show b ∈ ([]:List Addr) from hb) (by simp),alI,.of_eq hg⟩
 have hl:vals.length=ps.length:=by rw [Hx hwl]; exact hlen
 refine codeAny_mono ((F _ hKb (nsK hns) hTb).run callerA [] s₁ (upd H T (.tbl #[])) ⟨vals,[]⟩ vals (vals.map toV) _ _ hr e0 (hbind s₁ vals hl) hV (hsp H _ hTn hS)) fun r s' z=>?_
 cases r with
 | error e=>exact (hCX (upd H T (.tbl #[])) e s' z).elim
 | ok fl =>
  cases fl with
  | next=>exact False.elim z
  | brk=>exact False.elim z
  | cont=>exact False.elim z
  | ret u =>
   obtain ⟨v,H',os,bare,un,hok',r',q⟩:=z
   have kept:∀ b o,b ≠ T->s₁.heap.get? b=some o->s'.heap.get? b=some o:=fun b o nb e=>by
    cases q2:H b with
    | none=>exact un.keep b o e (by rw [Ah nb]; exact q2) (by intro z; exact absurd (show b ∈ ([]:List Addr) from z) (by simp)) (by simp)
    | some u2 =>
     rcases hO b with z | ⟨ob,u3,z⟩
     ·rw [q2] at z
      cases z
     ·have z2:=un.Wt b ob _ (by rw [Ah nb]; exact z)
      obtain ⟨e1,_⟩:=hok b _ z
      obtain ⟨e2,_⟩:=hok' b _ z2
      rw [e] at e1
      cases e1
      exact e2
   have KX':K.In s'.heap:=fun b o e=>kept b o (fun z=>by rw [z,hKT] at e; cases e) (KX b o e)
   obtain ⟨more,em⟩:=un.Xm T #[] Ab
   have hTe:s'.heap.get? T=some (tabObj (#[] ++ more)):=hok' T _ em
   have old:OldK s₁.heap s'.heap:=by
    refine ⟨fun b o e=>?_,fun b o e=>?_⟩
    ·by_cases z:b=T
     ·subst z
      rw [hTo] at e
      cases e
      exact .inr (.inl ⟨(hT.2.1.tab hTo).isCodeTable,rfl,#[],more,rfl,hTe⟩)
     ·exact .inl (kept b o z e)
    ·by_cases z:b=T
     ·subst z
      exact ⟨_,hTe⟩
     ·exact ⟨o,kept b o z e⟩
   obtain ⟨as,hrd⟩:=Dw.reads (R:=R) (cl:=cl) hok' KX' d0 v u q r'
   exact ⟨u,as,rfl,hrd,old,os,bare⟩
theorem ab7 {r:OpenSpec} {k:Nat} {q:Program} {loose:List Str} {XP:(Str->Option Value)->Heap->Prop} {YP:World->Heap->Prop} {d:DefRec} {K:Params->PySem.W.Frag} {CX:CXT} {ps:List Str} {x:Str} {sp:PySem.W.Frag->Addr->Sp}
  (akk:r.wellSaid=true) (hdf:d.params.defaults=[]) (hlen:r.args.length=ps.length) (hr:Fq k callerA)
  (hx:(recsOf q).any (fun e=>e.name == x)=true)
  (hY:∀ (w:World) (h:Heap),YP w h->(K w.params).In h) (hK:∀ w:World,noTabs (K w.params)=true)
  (F:∀ (w:World) (mg:Str->Option Value) (fa:Addr) (h:Heap),YP w h->(K w.params).In h->h.Ns mainGlobals mg->mg d.name=some (.ref fa) ->
   ∃ fd:FuncData,(∀ (s:Shared) (us:List Value),us.length=ps.length->BindsTo s fd ⟨us,[]⟩ (ps.zip us)) /\
    ∀ (base:Heap) (c T:Addr),(K w.params).In base->base.Ns mainGlobals mg->TabOf base mg x c T->Up r.prog w (K w.params) mg base CX k fa fd ps (sp (K w.params) T))
  (hsp:∀ (K:PySem.W.Frag) (H:Hp) (T:Addr) (xs:List V) (a:Codec.denoteAll r.args),H T=none->Codec.withinAll r.args a=true->Codec.app r.args r.asked a=true->LR K H xs (Codec.encAll r.args a) ->
   sp K T xs (upd H T (.tbl #[])) (fun v H'=>Dw K H' v (r.ret.enc (Codec.app r.args r.f a))) fun _ _ _=>False)
  (hCX:∀ (H:Hp) (s:Shared) (e:Value) (s':Shared),CX [] H s (fun _ _ _=>False) e s'->False) :
  PySem.W.WalkOS q loose XP YP r d [] (fun f vs=>PySem.call f vs):=by
 intro w s_0 s₁ mg mb G Y fa o pm cd doc dV kV ho hd hcd hD hmg hg args vals as hpre hlay hrd hwl hlo
 obtain ⟨a,e1,e2⟩:=PySem.W.os_pre_some hpre
 obtain ⟨e3,hwi⟩:=Codec.encAll_of_decAll r.args args a e1
 subst e3
 have KX:=hY w _ Y
 obtain ⟨fd,hb,hF⟩:=F w mg fa _ Y KX G.T.g hmg
 obtain ⟨d',hd',hdn⟩:=List.any_eq_true.mp hx
 have hdn:d'.name=x:=beq_iff_eq.mp hdn
 subst hdn
 obtain ⟨a',o',fd',c,T,t1,t2,t3,t4,t5,t6⟩:=G.T.tab d' hd'
 obtain ⟨bm,ob,b1,b2,b3,b4,b5,b6⟩:=G.T.bmain
 have hTo:s₁.heap.get? T=some (tabObj #[]):=t6.2
 have hgT:mainGlobals ≠ T:=fun z=>by
  obtain ⟨o2,es,ep,e,hd2,_⟩:=G.T.g
  rw [z,hTo] at e
  cases e
  cases hd2
 have alV:TabOf s₁.heap mg d'.name c T:=by
  refine ⟨⟨a',o',fd',t1,t2,t3,t4⟩,CodeHd.of t5 t6,⟨bm,ob,b1,b2,fun z=>?_,fun z=>?_,b3,b4,b5,b6⟩,hgT⟩
  ·obtain ⟨o2,es,ep,e,hd2,_⟩:=G.T.g
   rw [z,e] at b3
   cases b3
   rw [hd2] at b6
   cases b6
  ·rw [z,hTo] at b3
   cases b3
   cases b4
 have hKT:(K w.params).lookup T=none:=by
  cases e:(K w.params).lookup T with
  | none=>rfl
  | some o2 =>
   have e2:=KX T o2 e
   rw [hTo] at e2
   cases e2
   have h2:=List.all_eq_true.mp (hK w) _ (mem_of_lookupK e)
   exact absurd (show false=true from h2) Bool.false_ne_true
 refine PySem.W.enter_call (codeAny_mono (acj (R:=[]) (cl:=classAt s_0.heap) (d0:=r.ret.enc (Codec.app r.args r.f a)) KX G.T.g G.T.b G.T.builtins G.T.nolimit hg alV hTo hKT hwl (Yz _ _) (Wm hlay) hr (fun base h1 h2 h3=>hF base c T h1 h2 h3) hb (by rw [Wy]; exact hlen)
  (fun H xs hn hS=>hsp _ H T xs a hn hwi e2 hS) fun H e s'=>hCX H s₁ e s') fun r' s' hq=>?_)
 obtain ⟨u,as',rfl,h1,h2,h3,h4⟩:=hq
 exact ⟨.inl ⟨u,_,as',rfl,fun _=>rfl,h1,(OpenSpec.post_iff akk hwi _ _).mpr rfl,fun z=>Bool.noConfusion (show false=true from z)⟩,h2,h3,h4⟩
abbrev nV (l:List Nat):List V:=l.map fun n=>.int ((n:Nat):Int)
def TabAt (H:Hp) (T:Addr) (lp:Pos) (qual:Str):Prop:=H T=some (.tbl #[]) \/ ∃ c',H T=some (.tbl #[rawInt lp.line,rawInt lp.col,.ref c'])/\H c'=some (.ext fun h=>h.CodeRec (.ref c') qual)
theorem TabAt.some {H:Hp} {T:Addr} {lp:Pos} {qual:Str} (h:TabAt H T lp qual):∃ ps,H T=some (.tbl ps):=by
 rcases h with h | ⟨c',h,_⟩
 ·exact ⟨_,h⟩
 ·exact ⟨_,h⟩
def Hs (T:Addr) (H H':Hp):Prop:=∀ b o,b ≠ T->H b=some o->H' b=some o
section
variable {X:Cx} {pins:List (Addr × Obj)} {σ:St} {H:Hp} {s:Shared} {c T cc:Addr} {x:Str} {lp ap p1 p2 p3 p4 p5 p6:Pos}
def ado (X:Cx) (cc f c':Addr) (ap p1 p2 p3 p4 p5 p6:Pos) (ctv:Value):Obj:=kla_obj "<lambda>" (X.env.qual ++ "<lambda>") (Qg ap) (Mu p1 p2 p3 p4 p5 p6) GQ [("chains",cc)] ((X.mg "__name__").getD .none) c' ctv
theorem age {Q:Value->Shared->Prop} (I:Inv X pins σ H s) (hcd:X.env.code = .ref c) (hT:TabOf X.base X.mg x c T) (hcl:closureFor GQ X.env=pure [(("chains" : Str),cc)]) (hA:TabAt H T lp (X.env.qual ++ "<lambda>"))
  (h:∀ f c' ctv H2 s2,Inv X pins σ H2 s2->s.heap.objs.size <= f->s2.heap.get? f=some (ado X cc f c' ap p1 p2 p3 p4 p5 p6 ctv)->s2.heap.CodeRec (.ref c') (X.env.qual ++ "<lambda>")->TabAt H2 T lp (X.env.qual ++ "<lambda>")->Hs T H H2->Q (.ref f) s2) :
  wpAny (model X.prog X.w) X.A (eval (.Lambda (Qg ap) (Mu p1 p2 p3 p4 p5 p6) GQ lp) X.env) Q X.xe s:=by
 obtain ⟨_,hC,⟨bm,ob,b1,b2,b3,b4,b5,b6,b7,b8⟩,hgT⟩:=hT
 have hb:s.heap.BuiltinsAt X.mg T:=⟨bm,ob,b1,b2,b3,b4,I.bk _ _ b5,b6,b7,b8⟩
 have hC2:=hC.keeps I.bk
 have hns:s.heap.Ns mainGlobals X.mg:=I.mod.glob.keeps I.bk
 refine kla_eval rfl ?_
 rcases hA with hA | ⟨c',hA,hc'⟩
 ·have hP:s.heap.get? T=some (tabObj #[]):=I.hok T _ hA
  refine kla_makeFunction (mg:=X.mg) hcl I.ok.glob hns hcd hC2 hP (by exact trivial) rfl hgT hb fun c' ctv h' tk hx hge hlt hrec htb=>?_
  have htb:h'.get? T=some (tabObj #[rawInt lp.line,rawInt lp.col,.ref c']):=htb
  have keep:∀ b o,b ≠ T->s.heap.get? b=some o->(h'.push (ado X cc h'.objs.size c' ap p1 p2 p3 p4 p5 p6 ctv)).get? b=some o:=fun b o nb e=>Heap.get?_push_of_some _ (hx b o nb e)
  have nc:H c'=none:=I.hok.fresh hge
  have ncT:c' ≠ T:=fun z=>by rw [z,hA] at nc; cases nc
  have hT2:upd (upd H T (.tbl #[rawInt lp.line,rawInt lp.col,.ref c'])) c' (.ext fun h=>h.CodeRec (.ref c') (X.env.qual ++ "<lambda>")) T=some (.tbl #[rawInt lp.line,rawInt lp.col,.ref c']):=by rw [Ah (Ne.symm ncT),Ab]
  have same:Hs T H (upd (upd H T (.tbl #[rawInt lp.line,rawInt lp.col,.ref c'])) c' (.ext fun h=>h.CodeRec (.ref c') (X.env.qual ++ "<lambda>"))):=fun b o nb e=>by rw [Ah (Bh e nc),Ah nb]; exact e
  have aiF:(h'.push (ado X cc h'.objs.size c' ap p1 p2 p3 p4 p5 p6 ctv)).CodeRec (.ref c') (X.env.qual ++ "<lambda>"):=hrec.keeps fun b o e=>Heap.get?_push_of_some _ e
  have hsz:s.heap.objs.size <= h'.objs.size:=Nat.le_trans hge (Nat.le_of_lt hlt)
  refine h h'.objs.size c' ctv _ _ (I.un (t':=tk) (H':=upd (upd H T (.tbl #[rawInt lp.line,rawInt lp.col,.ref c'])) c' (.ext fun h=>h.CodeRec (.ref c') (X.env.qual ++ "<lambda>"))) ⟨fun b o e n _ _=>keep b o (fun z=>by rw [z,hA] at n; cases n) e,fun b o e n _ _=>⟨o.slots,keep b o (fun z=>by rw [z,hA] at n; cases n) e⟩,fun b o e n _=>?_,fun b o e _=>?_,fun b ys e=>?_,fun b o u e=>?_,fun b ps e=>?_⟩ fun b u e=>?_) hsz (Heap.get?_push_size _ rfl) aiF (.inr ⟨c',hT2,Ab⟩) same
  ·have nb:b ≠ T:=fun z=>by rw [z,hA] at n; cases n
   rw [Ah (Nat.ne_of_lt (Nat.lt_of_lt_of_le (Heap.lt_size e) hge)),Ah nb]
   exact n
  ·by_cases z:b=T
   ·rw [z]; exact ⟨_,Heap.get?_push_of_some _ htb⟩
   ·exact ⟨o,keep b o z e⟩
  ·exact same b _ (fun z=>by rw [z,hA] at e; cases e) e
  ·exact same b _ (fun z=>by rw [z,hA] at e; cases e) e
  ·by_cases z:b=T
   ·subst z
    rw [hA] at e
    cases e
    exact ⟨#[rawInt lp.line,rawInt lp.col,.ref c'],by rw [hT2]; simp⟩
   ·exact ⟨#[],by rw [same b _ z e]; simp⟩
  ·by_cases z:b=c'
   ·subst z
    rw [Ab] at e
    cases e
    obtain ⟨c2,oc,vs,t,e2,hoc,hd,hv⟩:=id aiF
    cases e2
    refine ⟨aiF,⟨oc,hoc⟩,fun h1 h2 φ k=>?_⟩
    obtain ⟨c3,oc3,vs3,t3,e3,alK,hd3,hv3⟩:=φ
    cases e3
    exact ⟨_,oc3,vs3,t3,rfl,k _ alK,hd3,hv3⟩
   ·rw [Ah z] at e
    by_cases zT:b=T
    ·subst zT
     rw [Ab] at e
     cases e
     exact Heap.get?_push_of_some _ htb
    ·rw [Ah zT] at e
     refine (I.hok b u e).stay (fun y v hy q=>keep y v (fun zz=>?_) q) (fun y q=>same y _ (fun zz=>by rw [zz,hA] at q; cases q) q) fun y ys q=>same y _ (fun zz=>by rw [zz,hA] at q; cases q) q
     rcases hy with hy | hy
     ·exact zT (hy ▸ zz)
     ·rw [zz,hA] at hy; cases hy
 ·have hP:s.heap.get? T=some (tabObj #[rawInt lp.line,rawInt lp.col,.ref c']):=I.hok T _ hA
  have hrec:s.heap.CodeRec (.ref c') (X.env.qual ++ "<lambda>"):=(I.hok c' _ hc').1
  have hf:codeAmong lp (#[rawInt lp.line,rawInt lp.col,Value.ref c']:Array Value).toList=some (.ref c'):=by
   unfold codeAmong
   simp [rawInt]
  refine kla_makeFunctionHit (mg:=X.mg) hcl I.ok.glob hns hcd hC2 hP (by exact trivial) hf hb fun ctv h' tk hk hsz=>?_
  refine h h'.objs.size c' ctv H _ (I.kept (t':=tk) fun b u e=>Heap.get?_push_of_some _ (hk b u e)) hsz (Heap.get?_push_size _ rfl) (hrec.keeps fun b o e=>Heap.get?_push_of_some _ (hk b o e)) (.inr ⟨c',hA,hc'⟩) fun b o _ e=>e
def aik (i:Nat) (T:Addr) (lp:Pos) (qual:Str) (σ:St) (H1:Hp) (Q:VK) (vs:List V):Prop:=∃ (l ch:Addr) (xs C:List Nat),vs=[.ref l]/\H1 l=some (.lst (nV xs))/\σ[i]? = some (some (.ref ch))/\H1 ch=some (.lst (nV C))/\(∀ n ∈ xs,n < C.length)/\TabAt H1 T lp qual /\
 ∀ (D:Addr) (H2:Hp) (ys:List Nat),H2 D=some (.lst (nV ys))->Hs T H1 H2->TabAt H2 T lp qual->ys.Perm xs->ys.Pairwise (fun a b=>le2 (-((C.getD a 0:Nat):Int),(a:Int)) (-((C.getD b 0:Nat):Int),(b:Int)))->Q (.ref D) H2
def afz (te:TE) (i:Nat) (T:Addr) (lp:Pos) (qual:Str):TE:=fun σ H Q=>te σ H fun y H1=>aik i T lp qual σ H1 Q [y]
theorem adu:∀ {xs:List Nat} {its:List Value},Vals (nV xs) its->∀ (j:Nat) (v:Value),its[j]? = some v->∃ n t,xs[j]? = some n/\v = .int ((n:Nat):Int) t
 | [],_,.nil,j,v,e=>by simp at e
 | n :: xs,_,.cons r t,0,v,e=>by
  obtain ⟨u,rfl⟩:=r
  simp at e
  exact ⟨n,u,rfl,e.symm⟩
 | n :: xs,_,.cons r t,j + 1,v,e=>by
  obtain ⟨m,u,h1,h2⟩:=adu t j v (by simpa using e)
  exact ⟨m,u,by simpa using h1,h2⟩
def abo (C:List Nat) (n:Nat):Int × Int:=(-((C.getD n 0:Nat):Int),(n:Int))
theorem aaE {C:List Nat}:∀ {xs:List Nat} {its:List Value},Vals (nV xs) its->∀ z ∈ (xs.map (abo C)).zip its,z.1=abo C z.1.2.toNat/\∃ t,z.2 = .int ((z.1.2.toNat:Nat):Int) t
 | [],_,.nil,z,h=>by cases h
 | n :: xs,_,.cons r t,z,h=>by
  obtain ⟨u,rfl⟩:=r
  rw [List.map_cons,List.zip_cons_cons] at h
  rcases List.mem_cons.mp h with rfl | h
  ·exact ⟨by show abo C n=abo C ((n:Int)).toNat; rw [Int.toNat_natCast],u,by show Value.int (n:Int) u=Value.int ((((n:Int)).toNat:Nat):Int) u; rw [Int.toNat_natCast]⟩
  ·exact aaE t z h
theorem adt {C:List Nat}:∀ {xs:List Nat} {its:List Value},Vals (nV xs) its->((xs.map (abo C)).zip its).map (fun z=>z.1.2.toNat)=xs
 | [],_,.nil=>rfl
 | n :: xs,_,.cons r t=>by
  rw [List.map_cons,List.zip_cons_cons,List.map_cons,adt t]
  congr 1
theorem RV:∀ {zs:List ((Int × Int) × Value)},(∀ z ∈ zs,∃ t,z.2 = .int ((z.1.2.toNat:Nat):Int) t)->Vals (nV (zs.map fun z=>z.1.2.toNat)) (zs.map Prod.snd)
 | [],_=>.nil
 | z :: zs,h=>.cons (let ⟨t,e⟩:=h z (List.mem_cons_self ..); ⟨t,e⟩) (RV fun y hy=>h y (List.mem_cons_of_mem _ hy))
theorem acB {e:Expr} {te:TE} {i k:Nat} {p kp pos:Pos} (hg:Gl X "sorted") (hm:X.mg "sorted" = none) (he:PE X e te) (hr:Fq (k + 3) X.A)
  (hcd:X.env.code = .ref c) (hT:TabOf X.base X.mg x c T) (hcl:closureFor GQ X.env=pure [(("chains" : Str),cc)]) (hcc:X.env.cells.lookup ("chains" : Str)=some cc) (hkd:X.env.kindOf "chains" = some .cell) (hN:X.N[i]? = some "chains") (hv:Vis X.env.scope "chains")
  (hs0:starEach [e] X.env=(false,eval e X.env) :: starEach [] X.env:=by rfl) (hs1:backTo pos (starEach [e] X.env)=(false,eval e X.env) :: backTo pos (starEach [] X.env):=by rfl) (hs2:(backTo pos (starEach [e] X.env)).any (·.1)=false:=by rfl) :
  PE X (.Call (.Name "sorted" p) [e] [⟨some "key",.Lambda (Qg ap) (Mu p1 p2 p3 p4 p5 p6) GQ lp,kp⟩] pos) (afz te i T lp (X.env.qual ++ "<lambda>")):=by
 intro pins s σ H Q I h
 refine wpAny_Call_Name_kw (JK I hg hm (by decide +kernel:bootBuiltins "sorted" = some (.builtin "sorted")) ?_)
 refine callWith_kw (thn ((Aa he Ad hs0) pos pins s σ H (fun vs H1=>aik i T lp (X.env.qual ++ "<lambda>") σ H1 Q vs) I h) fun us s1 z=>?_) hs1 hs2
 obtain ⟨vs,H1,I1,r1,l,ch,xs,C,rfl,hl,hσ,hch,hlt,hA,q⟩:=z
 obtain ⟨u,rfl,ru⟩:=Vals.one r1
 cases ru
 refine kws_cons (age (ap:=ap) (p1:=p1) (p2:=p2) (p3:=p3) (p4:=p4) (p5:=p5) (p6:=p6) I1 hcd hT hcl hA fun f c' ctv H2 s2 I2 hf hfo hrec hA2 hsame=>kws_nil ?_)
 have nlT:l ≠ T:=fun z=>by obtain ⟨ps,e⟩:=hA.some; rw [z,e] at hl; cases hl
 have ncT:ch ≠ T:=fun z=>by obtain ⟨ps,e⟩:=hA.some; rw [z,e] at hch; cases hch
 obtain ⟨_,its,nl,ahd,el⟩:=I2.hok l _ (hsame l _ nlT hl)
 obtain ⟨zC,ake,nC,rC,eC⟩:=I2.hok ch _ (hsame ch _ ncT hch)
 have hlen:xs.length=its.length:=by have:=ahd.length; rwa [List.length_map] at this
 have akz:C.length=ake.length:=by have:=rC.length; rwa [List.length_map] at this
 obtain ⟨m,hns,hloc⟩:=I2.loc
 obtain ⟨uch,ale,lk⟩:=hloc i "chains" (.ref ch) hN hσ hv
 cases ale
 have hcell:s2.heap.IsCell cc (some (.ref ch)):=by
  rcases lk with ⟨z,_⟩ | ⟨_,c0,e0,z⟩
  ·rw [hkd] at z; cases z
  ·rw [hcc] at e0; cases e0; exact z
 have alY:∀ n,n < C.length->∃ t,ake.toArray[n]? = some (.int ((C.getD n 0:Nat):Int) t):=fun n hn=>by
  have e1:(nV C)[n]? = some (.int ((C.getD n 0:Nat):Int)):=by
   rw [List.getElem?_map,List.getD_eq_getElem?_getD,List.getElem?_eq_getElem hn]
   rfl
  obtain ⟨u,e2,t,rfl⟩:=rC.get e1
  exact ⟨t,by simpa using e2⟩
 have zit:its.length <= sizeLine:=by rw [<- hlen,<- List.length_map (f:=fun n:Nat=>V.int (n:Int))]; assumption
 refine aeq (vs:=its) (ps:=xs.map (abo C)) ⟨_,el,rfl,nl,rfl⟩ (by rw [List.length_map]; exact hlen) zit (fun j v p hj hp h tk gr=>?_) fun D h' tk out c0 gr hD hout hS=>?_
 ·obtain ⟨n,t,hn,rfl⟩:=adu ahd j v hj
  rw [List.getElem?_map,hn] at hp
  have hp:abo C n=p:=Option.some.inj hp
  subst hp
  have hnC:=hlt n (List.mem_of_getElem? hn)
  obtain ⟨t2,ht2⟩:=alY n hnC
  obtain ⟨oc,ho,hd⟩:=hcell
  exact agf (s:={ s2 with heap:=h,toks:=tk }) (gr _ _ hfo) (hrec.keeps gr) ⟨oc,gr _ _ ho,hd⟩ ⟨_,gr _ _ eC,rfl,nC,rfl⟩ (by rw [List.size_toArray,<- akz,<- List.length_map (f:=fun n:Nat=>V.int (n:Int))]; exact zC) ht2 (I2.nolimit.keeps gr) hr.depth
 ·obtain ⟨zs,hp,ho,hs⟩:=hS
  have hz:∀ z ∈ zs,z.1=abo C z.1.2.toNat/\∃ t,z.2 = .int ((z.1.2.toNat:Nat):Int) t:=fun z hz=>aaE ahd z (hp.mem_iff.mp hz)
  have hys:(zs.map fun z=>z.1.2.toNat).Perm xs:=by
   have:=hp.map (fun z:(Int × Int) × Value=>z.1.2.toNat)
   rwa [adt ahd] at this
  have hfr:H2 D=none:=I2.hok.fresh hD
  refine ⟨.ref D,upd H2 D (.lst (nV (zs.map fun z=>z.1.2.toNat))),I2.laid (t':=tk) gr hD ⟨?_,out.toList,c0,?_,?_⟩,rfl,q D _ _ Ab ?_ ?_ hys ?_⟩
  ·rw [List.length_map,hys.length_eq,hlen]; exact zit
  ·rw [ho]; exact RV fun z hz'=>(hz z hz').2
  ·rw [hout]
  ·intro b o nb e
   rw [Ah (Bh (hsame b o nb e) hfr)]
   exact hsame b o nb e
  ·rcases hA2 with z | ⟨c2,z1,z2⟩
   ·exact .inl (by rw [Ah (Bh z hfr)]; exact z)
   ·exact .inr ⟨c2,by rw [Ah (Bh z1 hfr)]; exact z1,by rw [Ah (Bh z2 hfr)]; exact z2⟩
  ·rw [List.pairwise_map]
   refine hs.imp_of_mem fun {a b} ha hb hab=>?_
   rw [(hz a ha).1,(hz b hb).1] at hab
   exact hab
end
end L2
namespace Py
open PySem PySem.Spec PyProof.Rows L2
open Mx (Fw Nz CK Trans Hw X4 BL EY WR chB)
open Br (Bytes Pages tower)
section
variable {P:Program} {w:World} {K:PySem.W.Frag} {mg:Str->Option Value} {base:Heap} {Ak Aq Af:Addr}
theorem okT {x:Str} {st:Stmt} {N ps:List Str} {k:Nat} {sp:Sp} {c T:Addr} (D:Dn K mg x st ps) (KX:K.In base) (hT:TabOf base mg x c T) (S:Ar N ps (Aj st)) (len:∀ vs H Q E,sp vs H Q E->vs.length=ps.length)
  (hbody:∀ (f:Addr) (A:Around) (outer:List Env) (s:Shared) (H:Hp) (vs:List V) (Q:VK) (E:XK),Fq k (A.deeper (envOfC x (Aj st) s.heap.objs.size f (.ref c)))->sp vs H Q E ->
   ∃ t,PSs (aam CX0 P w K mg base N x (Aj st) f (.ref c) A outer s H E).nox (Ex st) t/\t { nx:=fun _ H'=>Q .non H',rt:=Q } (start N vs) H):Cl P w K mg base (k + 1) x ps sp:=by
 obtain ⟨f,fd,F,m,b⟩:=D
 have kp:=F.kp
 obtain ⟨oc,od,kV,doc,pm,an,cdv,ct,osl,rfl,lk,hcd⟩:=F.ex
 obtain ⟨⟨a,o,fd',m1,m2,m3,m4⟩,_⟩:=hT
 rw [m] at m1
 cases m1
 have e:=KX _ _ lk
 rw [m2] at e
 cases e
 cases m3
 have m4:cdv = .ref c:=m4
 subst m4
 refine ⟨f,_,aie lk hcd S len fun A outer s H vs Q E hr hsp=>?_,m,kp,b⟩
 obtain ⟨t,h,q⟩:=hbody f A outer s H vs Q E hr hsp
 exact ⟨t,h.nox,q⟩
abbrev akc:Str:=("made_pages" ++ ".<locals>." : Str) ++ "<lambda>"
def ajG (l:Pages) (v:V) (H:Hp):Prop:=∃ g qs,v = .ref g/\H g=some (.lst (qs.map V.ref))/\Paired (fun q p=>H q=some (.lst (Aw p))) qs l/\l.length <= 256/\∀ p ∈ l,p.length <= 256/\∀ i ∈ p,i <= 255
def Xr (T:Addr) (lp:Pos):Sp:=fun vs H Q _=>∃ (q:Nat) (a:Addr) (U:List Nat) (c:Br.Catalogue) (b:Br.Build),vs=[.int (q:Int),.ref a]/\1 <= q/\q <= 256/\H a=some (.lst (Aw U))/\MP c b U/\b.lines.length <= 256/\(∀ i,i < b.lines.length -> ¬ Trans (Hw (tower c b)) i i)/\TabAt H T lp akc /\
 ∀ v H',Hs T H H'->ajG ((tower c b).made q) v H'->Q v H'
theorem Np:Ar ["most", "under", "chains", "pages", "before", "ready", "chosen"] ["most", "under"] (Aj PJ):=⟨rfl,rfl,rfl,by decide +kernel,rfl,by decide +kernel,by decide +kernel⟩
theorem aet {T:Addr} {H H':Hp} {g:Addr} {o:HO} (s:Hs T H H') (n:H g=none):Hs T H (upd H' g o):=fun b u nb e=>by rw [Ah (Bh e n)]; exact s b u nb e
theorem Vs {T:Addr} {H H1 H2:Hp} (s:Hs T H H1) (t:Ag H1 H2):Hs T H H2:=fun b u nb e=>t b u (s b u nb e)
theorem aaZ {T:Addr} {H H1 H2:Hp} (s:Hs T H H1) (t:Hs T H1 H2):Hs T H H2:=fun b u nb e=>t b u nb (s b u nb e)
theorem O8 {T:Addr} {lp:Pos} {q:Str} {H H':Hp} (h:TabAt H T lp q) (s:Ag H H'):TabAt H' T lp q:=by
 rcases h with h | ⟨c',h,h2⟩
 ·exact .inl (s _ _ h)
 ·exact .inr ⟨c',s _ _ h,s _ _ h2⟩
theorem ag0 {T g:Addr} {lp:Pos} {q:Str} {H:Hp} {xs ys:List V} (h:TabAt H T lp q) (hg:H g=some (.lst xs)):TabAt (upd H g (.lst ys)) T lp q:=by
 rcases h with h | ⟨c',h,h2⟩
 ·exact .inl (by rw [Ah (Gg h hg (by intro z; cases z))]; exact h)
 ·exact .inr ⟨c',by rw [Ah (Gg h hg (by intro z; cases z))]; exact h,by rw [Ah (Gg h2 hg (by intro z; cases z))]; exact h2⟩
theorem aap {C ys xs:List Nat} (hn:xs.Nodup) (hp:ys.Perm xs) (hs:ys.Pairwise (fun a b=>le2 (-((C.getD a 0:Nat):Int),(a:Int)) (-((C.getD b 0:Nat):Int),(b:Int)))):ys=EY C xs:=by
 refine Mx.aaz hn hp ?_
 have hn2:ys.Pairwise (· ≠ ·):=hp.nodup_iff.mpr hn
 refine (hs.and hn2).imp fun {a b} ⟨h1,h2⟩=>?_
 unfold chB
 rcases h1 with h1 | ⟨h1,h3⟩
 ·have h1:-((C.getD a 0:Nat):Int) < -((C.getD b 0:Nat):Int):=h1
  exact .inl (by omega)
 ·have h1:-((C.getD a 0:Nat):Int) = -((C.getD b 0:Nat):Int):=h1
  have h3:(a:Int) <= (b:Int):=h3
  exact .inr ⟨by omega,by omega⟩
theorem acN {xs:List Nat} {ns:List Int} (hn:xs.Nodup) (hp:ns.Perm (xs.map fun n:Nat=>(n:Int))) (hs:ns.Pairwise (· <= ·)):ns.map V.int=Aw (WR xs):=by
 have hpos:∀ z ∈ ns,∃ n:Nat,z=(n:Int)/\n ∈ xs:=fun z hz=>by
  obtain ⟨n,hn,rfl⟩:=List.mem_map.mp (hp.mem_iff.mp hz)
  exact ⟨n,rfl,hn⟩
 have e1:(ns.map Int.toNat).map (fun n:Nat=>(n:Int))=ns:=by
  rw [List.map_map]
  conv=>rhs; rw [<- List.map_id ns]
  refine List.map_congr_left fun z hz=>?_
  obtain ⟨n,rfl,_⟩:=hpos z hz
  show (((n:Int)).toNat:Int)=_
  rw [Int.toNat_natCast]
  rfl
 have hp2:(ns.map Int.toNat).Perm xs:=by
  have:=hp.map Int.toNat
  rw [List.map_map] at this
  have e2:xs.map (Int.toNat ∘ fun n:Nat=>(n:Int))=xs:=by
   conv=>rhs; rw [<- List.map_id xs]
   exact List.map_congr_left fun n _=>Int.toNat_natCast n
  rwa [e2] at this
 have hn2:(ns.map Int.toNat).Pairwise (· ≠ ·):=hp2.nodup_iff.mpr hn
 have hs2:(ns.map Int.toNat).Pairwise (· < ·):=by
  rw [List.pairwise_map] at hn2 ⊢
  refine (hs.and hn2).imp_of_mem fun {a b} ha hb ⟨h1,h2⟩=>?_
  obtain ⟨n,rfl,_⟩:=hpos a ha
  obtain ⟨m,rfl,_⟩:=hpos b hb
  rw [Int.toNat_natCast,Int.toNat_natCast] at h2 ⊢
  omega
 have e3:=Mx.adk hn hp2 hs2
 rw [<- e3]
 conv=>lhs; rw [<- e1]
 unfold Aw
 rw [List.map_map]
 rfl
theorem agA (xs:List V) (q:Nat):Kh xs none (some (q:Int))=xs.take q:=by
 unfold Kh
 rw [HT.Vx,HT.Uv,List.drop_zero,Nat.sub_zero]
 rcases Nat.le_total q xs.length with h | h
 ·rw [Nat.min_eq_left h]
 ·rw [Nat.min_eq_right h,List.take_length,List.take_of_length_le h]
def MkI (Tb a ch g:Addr) (U:List Nat) (c:Br.Catalogue) (b:Br.Build) (q:Nat) (H:Hp) (done:List Nat) (σ:L2.St) (H':Hp):Prop:=∃ (m:Nat) (pgs:Pages) (qs:List Addr) (rd:Addr) (v6:Option V),σ=[some (.int (q:Int)),some (.ref a),some (.ref ch),some (.ref g),some (.int (m:Int)),some (.ref rd),v6]/\Hs Tb H H'/\TabAt H' Tb ⟨313,35,313,69⟩ akc/\H' a=some (.lst (Aw U))/\H' ch=some (.lst (Aw (tower c b).chains))/\H' g=some (.lst (qs.map V.ref))/\Paired (fun q p=>H' q=some (.lst (Aw p))) qs pgs/\g ∉ qs /\
 H' rd=some (.lst (Aw ((List.range (tower c b).n).filter ((tower c b).ready done))))/\CK m done/\X4 c b q done pgs/\(∀ p ∈ pgs,p.length <= 256/\∀ i ∈ p,i <= 255)/\a ≠ g/\ch ≠ g/\rd ≠ g
theorem aax (T:Txt K mg Ak Aq Af) (KX:K.In base) {c Tb:Addr} (hT:TabOf base mg "made_pages" c Tb):Cl P w K mg base 7 "made_pages" ["most", "under"] (Xr Tb ⟨313,35,313,69⟩):=by
 refine okT T.aai KX hT Np (fun vs H Q E h=>?_) (fun f A outer s H vs Q E hr h=>?_)
 ·obtain ⟨q,a,U,c,b,rfl,_⟩:=h
  rfl
 ·obtain ⟨q,a,U,c,b,rfl,hq1,hq2,ha,hU,h256,ac,hA,k⟩:=h
  have nd:=Np.nd
  refine ⟨_,(Ac (Av (i:=2) nd rfl (Or.inr rfl) (Bl (WQ T) hr rfl (Aa (pv 1) (Ad)))) (Ac (Av (i:=3) nd rfl (Or.inl rfl) (DN Ad)) (Ac (Av (i:=4) nd rfl (Or.inl rfl) Am) (Ac (Av (i:=5) nd rfl (Or.inl rfl) (Bl (Qp T) hr rfl (Aa (pv 4) (Aa (pv 1) (Ad))))) (Ac (PQ PassesOwn.never (Bp Sv (Be Ax (by rfl) T.Dg PySem.boot_len (Aa (pv 5) (Ad))) Am (Bu _))
    (Ac (Av (i:=6) nd rfl (Or.inl rfl) (KY Us (acB (x := "made_pages") (i:=2) (k:=3) rfl T.W4 (pv 5) hr rfl hT rfl rfl rfl rfl (Or.inr (Or.inl rfl))) Uw (Mm (pv 0)))) (Ac (Gy (KZ PySem.F.plainAttrs_list PySem.F.slot_list_append PySem.F.type_list_append Fx (pv 3) (Aa (Be ade (by rfl) T.W4 Qs (Aa (pv 6) (Ad))) (Ad)))) (Ac (Av (i:=4) nd rfl (Or.inl rfl) (BV YL (pv 4) (Bl (Uh T) hr rfl (Aa (pv 6) (Ad))))) (Ae (Av (i:=5) nd rfl (Or.inl rfl) (Bl (Qp T) hr rfl (Aa (pv 4) (Aa (pv 1) (Ad)))))))))) (Ae (Al (pv 3)))))))),?_⟩
  have hlen:U.length=b.lines.length:=hU.len
  have en:(tower c b).n=b.lines.length:=rfl
  have rdy:∀ (m:Nat) (done:List Nat),CK m done->(List.range U.length).filter (Fw U m)=(List.range (tower c b).n).filter ((tower c b).ready done):=fun m done hm=>by
   rw [hlen,en]
   exact List.filter_congr fun i hi=>Mx.V3 hU.bit hm (List.mem_range.mp hi)
  refine ⟨_,rfl,a,U,c,b,rfl,ha,hU,h256,ac,fun v1 H1 s1 ⟨ch,ev1,hch⟩=>?_⟩
  subst ev1
  refine ⟨Nat.zero_le _,fun g hg=>?_⟩
  have s2:Ag H (upd H1 g (.lst [])):=s1.trans (Ag.new hg)
  have hg0:H g=none:=s1.free hg
  have hg2:upd H1 g (.lst []) g=some (.lst (([]:List Addr).map V.ref)):=Ab
  have akG:=Ag.new (o:=.lst []) hg _ _ hch
  generalize upd H1 g (.lst [])=H2 at s2 hg2 akG
  refine ⟨_,rfl,_,rfl,0,a,U,rfl,s2 _ _ ha,by omega,fun v3 H3 s3 ⟨rd,ev3,nrd,hrd⟩=>?_⟩
  subst ev3
  rw [rdy 0 [] CK.nil] at hrd
  refine ⟨fun z σ H'=>∃ done:List Nat,MkI Tb a ch g U c b q H done σ H'/\z=b.lines.length - done.length,
   ⟨_,[],⟨0,[],[],rd,none,rfl,fun b o _ e=>s3 _ _ (s2 _ _ e),O8 hA (s2.trans s3),s3 _ _ (s2 _ _ ha),s3 _ _ akG,s3 _ _ hg2,.nil,List.not_mem_nil,hrd,CK.nil,X4.start,(fun p hp=>by cases hp),(fun z=>by rw [z,hg0] at ha; cases ha),Bh hch hg,(fun z=>by rw [z,hg2] at nrd; cases nrd)⟩,rfl⟩,?_⟩
  rintro z σ H' ⟨done,⟨m,pgs,qs,rd,v6,rfl,sm,hA',ha',aji,hg',hqs,hgq,hrd',hm,hMk,hsz,nag,ncg,nrg⟩,rfl⟩
  refine ⟨_,rfl,rd,_,rfl,.inl (SqL.of hrd'),_,_,rfl,rfl,_,rfl,?_⟩
  rw [Ba]
  refine BP (fun h0=>?_) (fun h0=>?_)
  ·have hne:(List.range (tower c b).n).filter ((tower c b).ready done) ≠ []:=fun z=>by rw [z] at h0; simp at h0
   obtain ⟨hMk',hpos,hdl⟩:=hMk.step hq1 hne
   refine ⟨fun σ' H''=>∃ Ti:List Nat,MkI Tb a ch g U c b q H Ti σ' H''/\b.lines.length - Ti.length < b.lines.length - done.length,fun σ' H'' ⟨d',x1,x2⟩=>⟨_,x2,d',x1,rfl⟩,?_⟩
   have nT:∀ {y:Addr} {xs:List V},H' y=some (.lst xs)->y ≠ Tb:=fun {y xs} hy z=>by
    obtain ⟨ps,e⟩:=hA'.some
    rw [z,e] at hy
    cases hy
   have hfl:((List.range (tower c b).n).filter ((tower c b).ready done)).length <= 256:=by
    have:=List.length_filter_le ((tower c b).ready done) (List.range (tower c b).n)
    rw [List.length_range] at this
    have h3:(tower c b).n <= 256:=h256
    omega
   have hfn:=Mx.Sd (tower c b) done
   have ajf:∀ i ∈ (List.range (tower c b).n).filter ((tower c b).ready done),i < b.lines.length:=fun i hi=>by
    have:=(List.mem_filter.mp hi).1
    exact List.mem_range.mp this
   have eP:BL (tower c b) q done=WR ((EY (tower c b).chains ((List.range (tower c b).n).filter ((tower c b).ready done))).take q):=rfl
   have alT:(tower c b).chains.length=b.lines.length:=(Mx.Ou ac).1
   have alr:=fun i=>Mx.VV (t:=tower c b) (k:=q) (done:=done) (i:=i)
   generalize (List.range (tower c b).n).filter ((tower c b).ready done)=F at hrd' hfl hfn ajf eP
   refine ⟨_,rfl,rd,ch,F,(tower c b).chains,rfl,hrd',rfl,aji,fun n hn=>by rw [alT]; exact ajf n hn,hA',fun D H2 ys hD hs hA2 hp hpw=>?_⟩
   have ey:=aap hfn hp hpw
   subst ey
   refine ⟨_,rfl,_,rfl,D,_,rfl,SqL.of hD,fun l hl=>?_⟩
   have agw:Kh (nV (EY (tower c b).chains F)) none (some (q:Int))=Aw ((EY (tower c b).chains F).take q):=by
    rw [agA]
    unfold Aw
    rw [List.map_take]
   rw [agw]
   have hcn:((EY (tower c b).chains F).take q).Nodup:=((Mx.Dq _ _).nodup_iff.mpr hfn).sublist (List.take_sublist _ _)
   have hclt:∀ i ∈ (EY (tower c b).chains F).take q,i < b.lines.length:=fun i hi=>ajf i ((Mx.Dq _ _).mem_iff.mp (List.mem_of_mem_take hi))
   have hcl:((EY (tower c b).chains F).take q).length <= 256:=by
    rw [List.length_take]
    omega
   generalize (EY (tower c b).chains F).take q=cs at eP hcn hclt hcl
   have sm3:Hs Tb H' (upd H2 l (.lst (Aw cs))):=Vs hs (Ag.new hl)
   have hA3:=O8 hA2 (Ag.new (o:=.lst (Aw cs)) hl)
   have hl3:upd H2 l (.lst (Aw cs)) l=some (.lst (Aw cs)):=Ab
   have nlg:l ≠ g:=fun z=>by rw [z,hs g _ (nT hg') hg'] at hl; cases hl
   generalize upd H2 l (.lst (Aw cs))=H3 at sm3 hA3 hl3
   have hg3:=sm3 g _ (nT hg') hg'
   have hql:qs.length=pgs.length:=Paired.length hqs
   have hpl:pgs.length <= 256:=by
    have:=hMk.le
    omega
   have ecs:Aw cs=(cs.map fun n:Nat=>(n:Int)).map V.int:=by
    unfold Aw
    rw [List.map_map]
    rfl
   refine ⟨_,rfl,.inl ⟨rfl,_,SqL.of hg3⟩,_,rfl,l,cs.map (fun n:Nat=>(n:Int)),rfl,SqL.of (by rw [<- ecs]; exact hl3),(by rw [List.length_map,sizeLine_eq]; omega),fun ns' p hnp hns hpn=>?_⟩
   rw [acN hcn hnp hns,<- eP]
   have hpg:(BL (tower c b) q done).length <= 256/\∀ i ∈ BL (tower c b) q done,i <= 255:=by
    refine ⟨?_,fun i hi=>?_⟩
    ·rw [eP,(Mx.En _).length_eq]; exact hcl
    ·have:=(alr i hi).1
     rw [en] at this
     omega
   have hperm:(BL (tower c b) q done).Perm cs:=by rw [eP]; exact Mx.En _
   generalize BL (tower c b) q done=pg at hMk' hpos hpg hperm
   have sm4:Hs Tb H' (upd H3 p (.lst (Aw pg))):=Vs sm3 (Ag.new hpn)
   have hA4:=O8 hA3 (Ag.new (o:=.lst (Aw pg)) hpn)
   have hl4:=Ag.new (o:=.lst (Aw pg)) hpn _ _ hl3
   have hp4:upd H3 p (.lst (Aw pg)) p=some (.lst (Aw pg)):=Ab
   have npg:p ≠ g:=fun z=>by rw [z,hg3] at hpn; cases hpn
   generalize upd H3 p (.lst (Aw pg))=H4 at sm4 hA4 hl4 hp4
   have hg4:=sm4 g _ (nT hg') hg'
   refine ⟨g,_,_,rfl,rfl,hg4,(by rw [List.length_map,hql]; exact Bx (by omega)),?_⟩
   have sm5:Hs Tb H (upd H4 g (.lst (qs.map V.ref ++ [.ref p]))):=aet (aaZ sm sm4) hg0
   have hA5:=ag0 (ys:=qs.map V.ref ++ [.ref p]) hA4 hg4
   have up:∀ {y:Addr} {o:HO},y ≠ g->H4 y=some o->upd H4 g (.lst (qs.map V.ref ++ [.ref p])) y=some o:=fun ny e=>by rw [Ah ny]; exact e
   have ha5:=up nag (sm4 a _ (nT ha') ha')
   have akF:=up ncg (sm4 ch _ (nT aji) aji)
   have hl5:=up nlg hl4
   have hg5:upd H4 g (.lst (qs.map V.ref ++ [.ref p])) g=some (.lst ((qs ++ [p]).map V.ref)):=by rw [Ab,List.map_append]; rfl
   have ako:Paired (fun y r=>upd H4 g (.lst (qs.map V.ref ++ [.ref p])) y=some (.lst (Aw r))) (qs ++ [p]) (pgs ++ [pg]):=by
    refine Dt ?_ (.cons (up npg hp4) .nil)
    refine Rj hqs fun y hy r e=>up (fun z=>hgq (z ▸ hy)) (sm4 y _ (nT e) e)
   have alR:g ∉ qs ++ [p]:=fun z=>(List.mem_append.mp z).elim hgq fun z=>npg (List.mem_singleton.mp z).symm
   generalize upd H4 g (.lst (qs.map V.ref ++ [.ref p]))=H5 at sm5 hA5 ha5 akF hl5 hg5 ako
   refine ⟨_,rfl,_,rfl,l,cs,rfl,SqL.of hl5,fun i hi=>by have:=hclt i hi; omega,fun v7 H7 s7 ⟨m7,ev7,hm7⟩=>?_⟩
   subst ev7
   refine ⟨_,_,rfl,rfl,?_⟩
   dsimp only
   rw [Rn]
   have hm8:CK (m ||| m7) (done ++ pg):=fun j=>by
    rw [Nat.testBit_or,Bool.or_eq_true,hm j,hm7 j,List.mem_append,hperm.mem_iff]
   refine ⟨_,rfl,_,rfl,m ||| m7,a,U,rfl,s7 _ _ ha5,by omega,fun v8 H8 s8 ⟨rd8,ev8,aj9,akn⟩=>?_⟩
   subst ev8
   rw [rdy _ _ hm8] at akn
   have s78:=s7.trans s8
   refine ⟨done ++ pg,⟨m ||| m7,pgs ++ [pg],qs ++ [p],rd8,_,rfl,Vs sm5 s78,O8 hA5 s78,s78 _ _ ha5,s78 _ _ akF,s78 _ _ hg5,Rj ako fun y _ r e=>s78 _ _ e,alR,akn,hm8,hMk',fun r hr'=>?_,nag,ncg,(fun z=>by rw [z,s7 _ _ hg5] at aj9; cases aj9)⟩,by rw [List.length_append]; omega⟩
   rcases List.mem_append.mp hr' with hr' | hr'
   ·exact hsz r hr'
   ·rw [List.mem_singleton] at hr'
    rw [hr']
    exact hpg
  ·have he:(List.range (tower c b).n).filter ((tower c b).ready done)=[]:=by
    cases e:(List.range (tower c b).n).filter ((tower c b).ready done) with
    | nil=>rfl
    | cons i t=>rw [e] at h0; simp at h0
   refine ⟨_,rfl,k _ _ sm ⟨g,qs,rfl,hg',?_⟩⟩
   rw [<- hMk.end he]
   refine ⟨hqs,?_,hsz⟩
   have h1:=hMk.le
   have h2:=Mx.Ew b.lines.length hMk.nd hMk.lt
   omega
open Mx (P3 mv Own Full readM PX Em Ck DW namesOf)
open Br (Bytes tower)
theorem Su {α β:Type} {R:α->β->Prop}:∀ {as:List α} {bs:List β} {i:Nat} {y:β},Paired R as bs->bs[i]? = some y->∃ x,as[i]? = some x/\R x y
 | _,_,0,_,.cons h _,e=>by cases e; exact ⟨_,rfl,h⟩
 | _,_,i + 1,_,.cons _ t,e=>Su (i:=i) t e
def Gu (r o u:V):List (Str × V):=[("refusal",r),("owners",o),("under",u)]
def Vj (C:Addr):Sp:=fun vs H Q _=>∃ (p dx:Addr) (r o u:V),vs=[.ref p,r,o,u]/\H p=some (.ins C dx []) /\
 ∀ H':Hp,H' p=some (.ins C dx (Gu r o u))->(∀ b o,H b=some o->b ≠ p->H' b=some o)->Q .non H'
theorem acv:Ar ["self", "refusal", "owners", "under"] ["self", "refusal", "owners", "under"] (Aj Yx):=⟨rfl,rfl,rfl,by decide +kernel,rfl,by decide +kernel,by decide +kernel⟩
theorem Zh (T:Txt K mg Ak Aq Af):ClC P w K mg base 1 "Reading" Af ["self", "refusal", "owners", "under"] (Vj Af):=by
 refine T.ae7.ok acv (fun vs H Q E h=>?_) (fun f cdv A outer s H vs Q E hr h=>?_)
 ·obtain ⟨p,dx,r,o,u,rfl,_⟩:=h
  rfl
 ·obtain ⟨p,dx,r,o,u,rfl,hp,k⟩:=h
  refine ⟨_,(Ac (Gs (pv 0) (pv 1) rfl) (Ac (Gs (pv 0) (pv 2) rfl) (Ae (Gs (pv 0) (pv 3) rfl)))),?_⟩
  refine ⟨_,rfl,_,rfl,p,Af,dx,_,rfl,hp,T.CJ,T.Cz,(by show 0 < 1000; decide),?_⟩
  refine ⟨_,rfl,_,rfl,p,Af,dx,_,rfl,Ab,T.CJ,T.Jr,(by show 1 < 1000; decide),?_⟩
  refine ⟨_,rfl,_,rfl,p,Af,dx,_,rfl,Ab,T.CJ,T.Fi,(by show 2 < 1000; decide),?_⟩
  refine k _ (Eq.trans Ab rfl) fun b o e hb=>?_
  rw [Ah hb,Ah hb,Ah hb]
  exact e
theorem V7 {H1:Hp} {Q:VK} {r o u:V} (k:∀ x H',Ag H1 H'->(∃ dx,H' x=some (.ins Af dx (Gu r o u)))->Q (.ref x) H') :
  ∀ x dx,H1 x=none->H1 dx=none->dx ≠ x->Vj Af (.ref x :: ([r,o,u] ++ [])) (upd (upd H1 dx (.own x)) x (.ins Af dx [])) (fun v H2=>v = .non/\Q (.ref x) H2) E0:=fun x dx nx nd ne =>
 ⟨x,dx,r,o,u,rfl,Ab,fun H' hx kp=>⟨rfl,k x H' (Ag.made nx nd kp) ⟨dx,hx⟩⟩⟩
inductive Rdg where
 | no (z:Nat)
 | yes (k:Br.Catalogue) (d:Br.Build)
def rdg (c b:Bytes):Rdg:=if 16384 < b.length then .no 2 else match readM PX c with
 | none=>.no 6
 | some k=>if (k.all Ck && DW (namesOf k))=false then .no 8 else match readM (Em k) b with
  | none=>.no 5
  | some d=>if (d.wrong k).isSome=true then .no 9 else .yes k d
theorem acK {c b:Bytes} (hc:c.length <= 1000000) (f:Br.Tower->BrD.Answer):BrD.ofRight c b f=match rdg c b with
 | .no z=>BrD.no z
 | .yes k d=>f (tower k d):=by
 unfold BrD.ofRight rdg
 have h1:¬ BrD.LOOKED < c.length:=by unfold BrD.LOOKED; omega
 by_cases h2:16384 < b.length
 ·rw [if_pos (.inr h2),if_pos h2]
 ·rw [if_neg (fun z=>z.elim h1 h2),if_neg h2]
  have hC:=Mx.aew c
  cases e:readM PX c with
  | none =>
   rw [e] at hC
   obtain ⟨x,hx⟩:=hC
   rw [hx]
  | some k =>
   rw [e] at hC
   have hC:Br.readC c = .ok k:=hC
   rw [hC]
   dsimp only
   rw [Mx.ad5]
   cases e2:k.all Ck && DW (namesOf k) with
   | false=>rfl
   | true =>
    rw [if_neg (by simp),if_neg (by simp)]
    have hB:=Mx.aex k b
    cases e3:readM (Em k) b with
    | none =>
     rw [e3] at hB
     obtain ⟨x,hx⟩:=hB
     rw [hx]
    | some d =>
     rw [e3] at hB
     have hB:Br.readB k b = .ok d:=hB
     rw [hB]
     dsimp only
     by_cases e4:(d.wrong k).isSome=true
     ·rw [if_pos e4,if_pos e4]
     ·rw [if_neg e4,if_neg e4]
def acn (C:Addr):Sp:=fun vs H Q _=>∃ z:Int,vs=[.int z]/\Out H Q (fun v H'=>∃ a dx o u,v = .ref a/\H' a=some (.ins C dx (Gu (.int z) o u)))
theorem acs:Ar ["refusal"] ["refusal"] (Aj Yv):=⟨rfl,rfl,rfl,by decide +kernel,rfl,by decide +kernel,by decide +kernel⟩
theorem Zf (T:Txt K mg Ak Aq Af):Cl P w K mg base 3 "refused" ["refusal"] (acn Af):=by
 refine T.ae3.ok acs (fun vs H Q E h=>?_) (fun f cdv A outer s H vs Q E hr h=>?_)
 ·obtain ⟨z,rfl,_⟩:=h
  rfl
 ·obtain ⟨z,rfl,k⟩:=h
  refine ⟨_,(Ae (Al (YB (Zh T) hr rfl (Aa (pv 0) (Aa (FP) (Aa (DN (Ad)) (Ad))))))),?_⟩
  refine ⟨_,rfl,fun d hd=>⟨(by show 0 <= sizeLine; decide),fun l hl=>?_⟩⟩
  exact V7 fun x H' s ⟨dx,hx⟩=>k _ _ (((Ag.new hd).trans (Ag.new hl)).trans s) ⟨x,dx,_,_,rfl,hx⟩
def abY (C:Addr) (r:Rdg) (v:V) (H:Hp):Prop:=match r with
 | .no z=>0 < z/\∃ a dx o u,v = .ref a/\H a=some (.ins C dx (Gu (.int (-(z:Int))) o u))
 | .yes k d=>∃ a dx o u O U,v = .ref a/\H a=some (.ins C dx (Gu (.int 0) (.ref o) (.ref u)))/\H o=some (.dT (Ao O))/\H u=some (.lst (Aw U))/\Xa k d.lines O/\MP k d U/\d.lines.length <= 256/\∀ l ∈ d.lines,Full (l.of k)
theorem abY.same {C:Addr} {r:Rdg} {v:V} {H H':Hp} (s:Ag H H') (h:abY C r v H):abY C r v H':=by
 cases r with
 | no z=>obtain ⟨hz,a,dx,o,u,e,h⟩:=h; exact ⟨hz,a,dx,o,u,e,s _ _ h⟩
 | yes k d=>obtain ⟨a,dx,o,u,O,U,e,h1,h2,h3,h⟩:=h; exact ⟨a,dx,o,u,O,U,e,s _ _ h1,s _ _ h2,s _ _ h3,h⟩
theorem aj0 {C:Addr} {H H1:Hp} {Q:VK} {r:Rdg} (k:Out H Q (abY C r)) (z:Nat) (hz:0 < z) (e:r = .no z) (s1:Ag H H1):Out H1 Q (fun v H'=>∃ a dx o u,v = .ref a/\H' a=some (.ins C dx (Gu (.int (-(z:Int))) o u))):=fun v H' s2 h=>k _ _ (s1.trans s2) (by rw [e]; exact ⟨hz,h⟩)
def Xp (K:PySem.W.Frag) (C:Addr):Sp:=fun vs H Q _=>∃ (a e:Addr) (c b:Bytes),vs=[.ref a,.ref e]/\SqL K H a (bV c)/\c.length <= 1000000/\SqL K H e (bV b)/\b.length <= 1000000/\Out H Q (abY C (rdg c b))
theorem Nk:Ar ["c", "b", "parts", "lines", "owners"] ["c", "b"] (Aj Pz):=⟨rfl,rfl,rfl,by decide +kernel,rfl,by decide +kernel,by decide +kernel⟩
theorem aav (T:Txt K mg Ak Aq Af):Cl P w K mg base 6 "read_build" ["c", "b"] (Xp K Af):=by
 refine T.aag.ok Nk (fun vs H Q E h=>?_) (fun f cdv A outer s H vs Q E hr h=>?_)
 ·obtain ⟨a,e,c,b,rfl,_⟩:=h
  rfl
 ·obtain ⟨a,e,c,b,rfl,ha,hc,he,hb,k⟩:=h
  have nd:=Nk.nd
  have R:=Zf (P:=P) (w:=w) (base:=base) T
  refine ⟨_,(Ac (Bt (Bp Sv (Be Ax (by rfl) T.Dg PySem.boot_len (Aa (pv 1) (Ad))) (Df T.Oc rfl) (Bu _)) (Ae (Al (Bl R hr rfl (Aa (Df T.ab8 rfl) (Ad))))) Az) (Ac (Av (i:=2) nd rfl (Or.inl rfl) (Bl (RL T) hr rfl (Aa (pv 0) (Ad)))) (Ac (Bt (Cj (DP (pv 2))) (Ae (Al (Bl R hr rfl (Aa (Df T.MT rfl) (Ad))))) Az) (Ac (Bt (Hk (Ea (Bl (Lw T) hr rfl (Aa (pv 2) (Ad))))) (Ae (Al (Bl R hr rfl (Aa (Df T.Ke rfl) (Ad))))) Az) (Ac (Av (i:=3) nd rfl (Or.inl rfl) (Bl (aat T) hr rfl (Aa (pv 1) (Aa (pv 2) (Ad))))) (Ac (Bt (Cj (DP (pv 3))) (Ae (Al (Bl R hr rfl (Aa (Df T.TQ rfl) (Ad))))) Az) (Ac (Av (i:=4) nd rfl (Or.inl rfl) (Bl (Ox T) hr rfl (Aa (pv 3) (Ad)))) (Ac (Bt (Cj (DP (pv 4))) (Ae (Al (Bl R hr rfl (Aa (Df T.O5 rfl) (Ad))))) Az) (Ae (Al (YB (Zh T) hr rfl (Aa (Am) (Aa (pv 4) (Aa (Bl (XX T) hr rfl (Aa (pv 4) (Aa (Be Ax (by rfl) T.Dg PySem.boot_len (Aa (pv 3) (Ad))) (Ad)))) (Ad))))))))))))))),?_⟩
  have no:∀ {H1:Hp} (z:Nat),0 < z->Ag H H1->rdg c b = .no z->Out H1 Q (fun v H'=>∃ a dx o u,v = .ref a/\H' a=some (.ins Af dx (Gu (.int (-(z:Int))) o u))):=fun z hz s1 e=>aj0 k z hz e s1
  refine ⟨_,rfl,e,_,rfl,.inl he,_,_,rfl,rfl,_,rfl,?_⟩
  rw [Ep]
  refine BP (fun h0=>?_) (fun h0=>?_)
  ·have h0:16384 < b.length:=by
    have h0:(16384:Int) < (b.length:Int):=by simpa using h0
    omega
   refine ⟨-2,rfl,no 2 (by decide) (Ag.refl _) ?_⟩
   unfold rdg
   rw [if_pos h0]
  have h0:¬ 16384 < b.length:=by
   have h0:¬ (16384:Int) < (b.length:Int):=by simpa using h0
   omega
  unfold rdg at k no
  rw [if_neg h0] at k no
  refine ⟨_,rfl,a,c,rfl,ha,hc,fun v1 H1 s1 hv1=>?_⟩
  cases ec:readM PX c with
  | none =>
   rw [ec] at hv1 no
   have hv1:v1 = .non:=hv1
   subst hv1
   exact ⟨_,rfl,_,rfl,Dy ⟨-6,rfl,no 6 (by decide) s1 rfl⟩⟩
  | some ps =>
   rw [ec] at hv1 no k
   obtain ⟨l,qs,rfl,hl,hps⟩:=hv1
   have hlen:=Mx.ahU ec
   refine ⟨_,rfl,_,rfl,Fg ⟨_,rfl,l,ps,rfl,⟨l,qs,rfl,hl,hps⟩,by omega,fun v2 H2 s2 ev2=>⟨_,ev2,?_⟩⟩⟩
   have sm2:=s1.trans s2
   dsimp only at no k
   cases er:(ps.all Ck && DW (namesOf ps)) with
   | false =>
    rw [er] at no
    exact Dy ⟨-8,rfl,no 8 (by decide) sm2 rfl⟩
   | true =>
    rw [er,if_neg (by simp)] at no k
    rw [Bool.and_eq_true] at er
    refine Fg ⟨_,rfl,_,rfl,e,l,b,qs,ps,rfl,sm2.seq he,hb,s2 _ _ hl,Hl s2 hps,Mx.VB er.2,by omega,fun v3 H3 s3 hv3=>?_⟩
    have sm3:=sm2.trans s3
    cases eb:readM (Em ps) b with
    | none =>
     rw [eb] at hv3 no
     have hv3:v3 = .non:=hv3
     subst hv3
     exact ⟨_,rfl,_,rfl,Dy ⟨-5,rfl,no 5 (by decide) sm3 rfl⟩⟩
    | some d =>
     rw [eb] at hv3 no k
     obtain ⟨ll,as,rfl,hll,hls⟩:=hv3
     obtain ⟨ago,hlr⟩:=Mx.abS eb
     have ai8:∀ p ∈ ps,Ck p=true:=List.all_eq_true.mp er.1
     have akl:∀ p ∈ ps,p.studsOk=true:=fun p hp=>by
      have:=ai8 p hp
      unfold Ck at this
      rw [Bool.and_eq_true] at this
      exact this.1
     have aje:∀ p ∈ ps,Full p:=fun p hp=>by
      obtain ⟨i,hi⟩:=List.mem_iff_getElem?.mp hp
      obtain ⟨q,_,hq⟩:=Su hps hi
      exact hq.full
     have abu:∀ l ∈ d.lines,Full (l.of ps):=fun l hl=>by
      have hlt:=(hlr l hl).2
      have:ps.getD l.part Br.nothing ∈ ps:=by
       rw [List.getD_eq_getElem?_getD,List.getElem?_eq_getElem hlt]
       exact List.getElem_mem hlt
      exact Mx.GC (aje _ this) _
     refine ⟨_,rfl,_,rfl,Fg ⟨_,rfl,ll,as,qs,d,ps,rfl,hll,hls,Hl (s2.trans s3) hps,akl,ago,fun l hl=>(hlr l hl).1,fun v4 H4 s4 hv4=>?_⟩⟩
     have sm4:=sm3.trans s4
     dsimp only at no k
     unfold agQ at hv4
     by_cases ew:(d.wrong ps).isSome=true
     ·rw [if_pos ew] at hv4 no
      subst hv4
      exact ⟨_,rfl,_,rfl,Dy ⟨-9,rfl,no 9 (by decide) sm4 rfl⟩⟩
     ·rw [if_neg ew] at hv4 k
      obtain ⟨o,O,rfl,ho,hO⟩:=hv4
      have hlen2:(as.map V.ref).length=d.lines.length:=by rw [List.length_map]; exact Bd hls
      refine ⟨_,rfl,_,rfl,Fg ⟨_,rfl,_,rfl,_,rfl,ll,_,rfl,.inl (SqL.of (s4 _ _ hll)),o,O,ps,d,(by rw [hlen2] <;> rfl),ho,hO,ago,abu,fun v5 H5 s5 ⟨lu,U,ev5,hlu,hU⟩=>?_⟩⟩
      subst ev5
      exact V7 fun x H' s6 ⟨dx,hx⟩=>k _ _ (sm4.trans (s5.trans s6)) ⟨x,dx,o,lu,O,U,rfl,hx,s6 _ _ (s5 _ _ ho),s6 _ _ hlu,hO,hU,ago,abu⟩
theorem ifT {c A B:Prop} [Decidable c] (hc:c) (h:A):if c then A else B:=by rw [if_pos hc]; exact h
theorem ifF {c A B:Prop} [Decidable c] (hc:¬ c) (h:B):if c then A else B:=by rw [if_neg hc]; exact h
def agh (l:List Int):List V:=l.map V.int
def agM (r:Rdg) (f:Br.Catalogue->Br.Build->BrD.Answer):List Int:=match r with
 | .no z=>[-(z:Int)]
 | .yes k d=>StepsNeutral.shown (f k d)
theorem afm {c b:Bytes} (hc:c.length <= 1000000) (f:Br.Tower->BrD.Answer):StepsNeutral.shown (BrD.ofRight c b f)=agM (rdg c b) fun k d=>f (tower k d):=by
 rw [acK hc]
 cases rdg c b <;> rfl
def Vb (r:Rdg):Rdg:=match r with
 | .no z=>.no z
 | .yes k d=>if (tower k d).cant.isSome=true then .no 3 else .yes k d
theorem afn (r:Rdg) (f:Br.Catalogue->Br.Build->BrD.Answer):agM r (fun k d=>BrD.built (tower k d) (f k d))=agM (Vb r) f:=by
 cases r with
 | no z=>rfl
 | yes k d =>
  unfold Vb agM BrD.built
  dsimp only
  by_cases h:(tower k d).cant.isSome=true
  ·rw [if_pos h,if_pos h]; rfl
  ·rw [if_neg h,if_neg h]
theorem aej {r:Rdg} {k:Br.Catalogue} {d:Br.Build} (h:Vb r = .yes k d):r = .yes k d/\(tower k d).cant=none:=by
 cases r with
 | no z=>cases h
 | yes q e =>
  unfold Vb at h
  dsimp only at h
  cases z:(tower q e).cant with
  | some y=>rw [z] at h; cases h
  | none=>rw [z] at h; cases h; exact ⟨rfl,z⟩
open Mx (Js P3 mv Own Full readM PX Em Ck DW namesOf)
theorem aec {c:Br.Catalogue} {b:Br.Build} {U:List Nat} (h:MP c b U):Js (tower c b).n (Mx.Hw (tower c b)) 0 U:=⟨h.len,fun i hi j=>h.bit i hi j⟩
def al5 (o:Option (Nat × Nat)) (v:V) (H:Hp):Prop:=match o with
 | none=>v = .non
 | some x=>∃ l,v = .ref l/\H l=some (.lst [.int (x.1:Int),.int (x.2:Int)])
def ZQ (C:Addr):Sp:=fun vs H Q _=>∃ (k:Br.Catalogue) (d:Br.Build) (v:V),vs=[v]/\abY C (.yes k d) v H/\Out H Q (al5 (tower k d).cant)
theorem Pu:Ar ["build", "ringed", "loose"] ["build"] (Aj R9):=⟨rfl,rfl,rfl,by decide +kernel,rfl,by decide +kernel,by decide +kernel⟩
theorem abP (T:Txt K mg Ak Aq Af):Cl P w K mg base 5 "hindrance" ["build"] (ZQ Af):=by
 refine T.abK.ok Pu (fun vs H Q E h=>?_) (fun f cdv A outer s H vs Q E hr h=>?_)
 ·obtain ⟨q,d,v,rfl,_⟩:=h
  rfl
 ·obtain ⟨q,d,v,rfl,hv,k⟩:=h
  have nd:=Pu.nd
  refine ⟨_,(Ac (Av (i:=1) nd rfl (Or.inl rfl) (Bl (Ls T) hr rfl (Aa (Bk (pv 0) rfl) (Ad)))) (Ac (Bt (Cj (Ux (pv 1))) (Ae (Al (DN (Aa (Df T.aeb rfl) (Aa (pv 1) (Ad)))))) Az) (Ac (Av (i:=2) nd rfl (Or.inl rfl) (Bl (Hv T) hr rfl (Aa (Bk (pv 0) rfl) (Aa (Be Ax (by rfl) T.Dg PySem.boot_len (Aa (Bk (pv 0) rfl) (Ad))) (Ad))))) (Ac (Bt (Cj (Ux (pv 2))) (Ae (Al (DN (Aa (Df T.U7 rfl) (Aa (pv 2) (Ad)))))) Az) (Ae (Al BZ)))))),?_⟩
  obtain ⟨x,dx,o,u,O,U,rfl,hx,ho,hu,hO,hU,h256,hf⟩:=hv
  refine ⟨_,rfl,x,Af,dx,_,_,rfl,hx,T.CJ,T.Fi,rfl,u,U,_,_,rfl,hu,aec hU,h256,fun v3 H3 s3 ⟨U',hU',ev3⟩=>?_⟩
  have Ql:=Mx.ahV hU'
  have er:aa2 (tower q d).n U'=(List.range d.lines.length).find? fun i=>(U'.getD i 0).testBit i:=rfl
  rw [<- er] at Ql
  subst ev3
  cases e1:aa2 (tower q d).n U' with
  | some i =>
   rw [e1] at Ql
   have Ql:(tower q d).cant=some (1,i):=Ql
   rw [Ql] at k
   refine ⟨_,rfl,_,rfl,Dy ⟨_,rfl,(by show 2 <= sizeLine; decide),fun p hp=>k _ _ (s3.trans (Ag.new hp)) ⟨p,rfl,Ab⟩⟩⟩
  | none =>
   rw [e1] at Ql
   have Ql:(tower q d).cant=(Ld q d).map fun i=>(2,i):=Ql
   have hx3:=s3 _ _ hx
   have ho3:=s3 _ _ ho
   have hu3:=s3 _ _ hu
   refine ⟨_,rfl,_,rfl,Fg ⟨_,rfl,x,Af,dx,_,_,rfl,hx3,T.CJ,T.Jr,rfl,_,rfl,x,Af,dx,_,_,rfl,hx3,T.CJ,T.Fi,rfl,u,_,rfl,.inl (SqL.of hu3),o,O,q,d,(by rw [Ba,hU.len] <;> rfl),ho3,hO,h256,hf,fun v4 H4 s4 ev4=>?_⟩⟩
   subst ev4
   rw [Ql] at k
   cases e2:Ld q d with
   | some i =>
    rw [e2] at k
    exact ⟨_,rfl,_,rfl,Dy ⟨_,rfl,(by show 2 <= sizeLine; decide),fun p hp=>k _ _ ((s3.trans s4).trans (Ag.new hp)) ⟨p,rfl,Ab⟩⟩⟩
   | none =>
    rw [e2] at k
    exact ⟨_,rfl,_,rfl,Fg (k _ _ (s3.trans s4) rfl)⟩
def Kv (C:Addr):Sp:=fun vs H Q _=>∃ (r:Rdg) (v:V),vs=[v]/\abY C r v H/\Out H Q (abY C (Vb r))
theorem Kz:Ar ["build"] ["build"] (Aj G5):=⟨rfl,rfl,rfl,by decide +kernel,rfl,by decide +kernel,by decide +kernel⟩
theorem M8 (T:Txt K mg Ak Aq Af):Cl P w K mg base 6 "that_can_be_built" ["build"] (Kv Af):=by
 refine T.M6.ok Kz (fun vs H Q E h=>?_) (fun f cdv A outer s H vs Q E hr h=>?_)
 ·obtain ⟨r,v,rfl,_⟩:=h
  rfl
 ·obtain ⟨r,v,rfl,hv,k⟩:=h
  refine ⟨_,(Ac (Bt (PW.pt (GK (Bp YQ (Bk (pv 0) rfl) Am (Bu _)) (Ie (Cj (DP (Bl (abP T) hr rfl (Aa (pv 0) (Ad)))))))) (Ae (Al (pv 0))) Az) (Ae (Al (Bl (Zf T) hr rfl (Aa (Df T.O4 rfl) (Ad)))))),?_⟩
  have hv0:=hv
  cases r with
  | no z =>
   obtain ⟨hz,x,dx,o,u,rfl,hx⟩:=hv
   refine ⟨_,rfl,x,Af,dx,_,_,rfl,hx,T.CJ,T.Cz,rfl,_,_,rfl,rfl,_,rfl,ifT (by simp; omega) ?_⟩
   exact ⟨_,rfl,k _ _ (Ag.refl _) hv0⟩
  | yes q d =>
   obtain ⟨x,dx,o,u,O,U,rfl,hx,ho,hu,hO,hU,h256,hf⟩:=hv
   refine ⟨_,rfl,x,Af,dx,_,_,rfl,hx,T.CJ,T.Cz,rfl,_,_,rfl,rfl,_,rfl,ifF (by simp) ?_⟩
   refine ⟨_,rfl,q,d,_,rfl,hv0,fun v2 H2 s2 hv2=>?_⟩
   unfold Vb at k
   dsimp only at k
   cases e:(tower q d).cant with
   | none =>
    rw [e] at hv2 k
    have hv2:v2 = .non:=hv2
    subst hv2
    exact ⟨_,rfl,Dy ⟨_,rfl,k _ _ s2 (hv0.same s2)⟩⟩
   | some y =>
    rw [e] at hv2 k
    obtain ⟨l,rfl,_⟩:=hv2
    exact ⟨_,rfl,Fg ⟨-3,rfl,aj0 k 3 (by decide) rfl s2⟩⟩
def QX:Sp:=fun vs H Q _=>∃ n:Nat,vs=[.int (n:Int)]/\Out H Q (fun v _=>v = .bl (decide (1 <= n/\n <= 256)))
theorem Ra:Ar ["K"] ["K"] (Aj J3):=⟨rfl,rfl,rfl,by decide +kernel,rfl,by decide +kernel,by decide +kernel⟩
theorem Ul (T:Txt K mg Ak Aq Af):Cl P w K mg base 1 "is_page_bound" ["K"] QX:=by
 refine T.Ub.ok Ra (fun vs H Q E h=>?_) (fun f cdv A outer s H vs Q E hr h=>?_)
 ·obtain ⟨n,rfl,_⟩:=h
  rfl
 ·obtain ⟨n,rfl,k⟩:=h
  refine ⟨_,Ae (Al (VM Qa Qa Am (pv 0) (Df T.O3 rfl))),?_⟩
  refine ⟨_,rfl,_,_,rfl,rfl,_,rfl,?_⟩
  refine BP (fun h0=>⟨_,_,rfl,rfl,k _ _ (Ag.refl _) ?_⟩) (fun h0=>k _ _ (Ag.refl _) ?_)
  ·have h0:(1:Int) <= (n:Int):=by simpa using h0
   refine congrArg V.bl (decide_eq_decide.mpr ?_)
   constructor
   ·intro z; omega
   ·intro z; omega
  ·have h0:¬ (1:Int) <= (n:Int):=by simpa using h0
   refine congrArg V.bl (decide_eq_false ?_).symm
   omega
def ZP (K:PySem.W.Frag) (Tb:Addr):Sp:=fun vs H Q _=>∃ (a e:Addr) (c b:Bytes) (n:Nat),vs=[.int (n:Int),.ref a,.ref e]/\SqL K H a (bV c)/\c.length <= 1000000/\SqL K H e (bV b)/\b.length <= 1000000/\H Tb=some (.tbl #[]) /\
 ∀ (H':Hp) (p:Addr),H' p=some (.lst (agh (StepsNeutral.shown (BrD.answer (.make c b n)))))->Q (.ref p) H'
theorem adA:Ar ["K", "c", "b", "build", "signs"] ["K", "c", "b"] (Aj Oe):=⟨rfl,rfl,rfl,by decide +kernel,rfl,by decide +kernel,by decide +kernel⟩
theorem aaU (t:Bytes):agh (StepsNeutral.shown (.bytes t))=[.int (t.length:Int)] ++ bV t:=by
 unfold agh bV
 show V.int (t.length:Int) :: (t.map fun c=>(c.toNat:Int)).map V.int=_
 rw [List.map_map]
 rfl
theorem aho (T:Txt K mg Ak Aq Af) (KX:K.In base) {c Tb:Addr} (hT:TabOf base mg "made_pages" c Tb) {f:Addr} {fd:FuncData} (F:Fun K "make" "make" Oe f fd):Up P w K mg base CX0 8 f fd ["K", "c", "b"] (ZP K Tb):=by
 refine F.ok adA (fun vs H Q E h=>?_) (fun cdv A outer s H vs Q E hr h=>?_)
 ·obtain ⟨a,e,c,b,n,rfl,_⟩:=h
  rfl
 ·obtain ⟨a,e,c,b,n,rfl,ha,hc,he,hb,hTb,k⟩:=h
  have nd:=adA.nd
  refine ⟨_,(Ac (Bt (Hk (Ea (Bl (Ul T) hr rfl (Aa (pv 0) (Ad))))) (Ae (Al (DN (Aa (Df T.TJ rfl) (Ad))))) Az) (Ac (Av (i:=3) nd rfl (Or.inl rfl) (Bl (M8 T) hr rfl (Aa (Bl (aav T) hr rfl (Aa (pv 1) (Aa (pv 2) (Ad)))) (Ad)))) (Ac (Bt (Bp YQ (Bk (pv 3) rfl) Am (Bu _)) (Ae (Al (DN (Aa (Bk (pv 3) rfl) (Ad))))) Az) (Ac (Av (i:=4) nd rfl (Or.inl rfl) (Bl (Ue T) hr rfl (Aa (Bl (aax T KX hT) hr rfl (Aa (pv 0) (Aa (Bk (pv 3) rfl) (Ad)))) (Ad)))) (Ae (Al (BV af0 (DN (Aa (Be Ax (by rfl) T.Dg PySem.boot_len (Aa (pv 4) (Ad))) (Ad))) (pv 4)))))))),?_⟩
  have ea:BrD.answer (.make c b n)=if n < 1 \/ 256 < n then BrD.no 1 else BrD.ofRight c b fun t=>BrD.built t (.bytes (Br.pagesText (t.made n))):=rfl
  rw [ea] at k
  have one:(1:Nat) <= sizeLine:=by decide
  refine ⟨_,rfl,n,rfl,fun v0 H0 s0 e0=>⟨_,e0,?_⟩⟩
  refine BP (fun h0=>?_) (fun h0=>?_)
  ·have h0:n < 1 \/ 256 < n:=by
    have h0:n=0 \/ 256 < n:=by simpa using h0
    omega
   rw [if_pos h0] at k
   exact ⟨one,fun p hp=>k _ _ Ab⟩
  have h1:¬ (n < 1 \/ 256 < n):=by
   have h0:¬ n=0/\n <= 256:=by simpa using h0
   omega
  rw [if_neg h1,afm hc,afn] at k
  refine ⟨_,rfl,_,rfl,a,e,c,b,rfl,s0.seq ha,hc,s0.seq he,hb,fun v1 H1 s1 hv1=>⟨_,v1,rfl,hv1,fun v3 H3 s3 hv3=>?_⟩⟩
  cases er:Vb (rdg c b) with
  | no z =>
   rw [er] at hv3 k
   obtain ⟨hz,x,dx,o,u,rfl,hx⟩:=hv3
   refine ⟨_,rfl,x,Af,dx,_,_,rfl,hx,T.CJ,T.Cz,rfl,_,_,rfl,rfl,_,rfl,ifT (by simp; omega) ?_⟩
   refine ⟨_,rfl,x,Af,dx,_,_,rfl,hx,T.CJ,T.Cz,rfl,one,fun p hp=>?_⟩
   exact k _ _ Ab
  | yes q d =>
   rw [er] at hv3 k
   obtain ⟨er1,hcan⟩:=aej er
   obtain ⟨x,dx,ow,u,O,U,rfl,hx,how,hu,hO,hU,h256,hf⟩:=hv3
   refine ⟨_,rfl,x,Af,dx,_,_,rfl,hx,T.CJ,T.Cz,rfl,_,_,rfl,rfl,_,rfl,ifF (by simp) ?_⟩
   have ac:=(Mx.afd hcan).1
   refine ⟨_,rfl,_,rfl,x,Af,dx,_,_,rfl,hx,T.CJ,T.Fi,rfl,n,u,U,q,d,rfl,by omega,by omega,hu,hU,h256,ac,.inl ((s0.trans (s1.trans s3)) _ _ hTb),fun v4 H4 s4 ⟨g,qs,ev4,hg,hqs,hl,hsz⟩=>?_⟩
   subst ev4
   refine ⟨g,qs,(tower q d).made n,rfl,hg,hqs,hl,hsz,fun v5 H5 s5 ⟨sg,ev5,hsg⟩=>?_⟩
   subst ev5
   unfold agM at k
   dsimp only at k
   have hbl:(Br.pagesText ((tower q d).made n)).length <= 1100 * 256:=by
    rw [Mx.Yk]
    have:=Vy _ hsz
    have h3:1100 * ((tower q d).made n).length <= 1100 * 256:=Nat.mul_le_mul_left _ hl
    omega
   generalize Br.pagesText ((tower q d).made n)=t at hsg k hbl
   refine ⟨_,rfl,sg,_,rfl,.inl (SqL.of hsg),one,fun p hp=>⟨_,rfl,p,sg,_,_,rfl,rfl,Ab,Ag.new hp _ _ hsg,(by rw [Ep,sizeLine_eq]; show 1 + t.length <= _; omega),fun p2 hp2=>k _ _ ?_⟩⟩
   rw [Ab,aaU,Ep]
end
open Br (Bytes)
theorem aaB:∀ {ns:List Int},ns.all (PySem.W.Codec.inInt 0 255)=true->bV (StepsNeutral.text ns)=ns.map V.int
 | [],_=>rfl
 | n :: ns,h=>by
  rw [List.all_cons,Bool.and_eq_true] at h
  have h1:=PySem.W.Codec.inInt_iff.mp h.1
  have ih:=aaB h.2
  unfold bV StepsNeutral.text at ih ⊢
  rw [List.map_cons,List.map_cons,List.map_cons,ih]
  congr 2
  rw [UInt8.toNat_ofNat']
  omega
theorem Jg {K:PySem.W.Frag} {C:Addr} {f:Str} (h:PySem.W.findIn K (.ref C) f=some none):DR K C f:=h
section
variable {P:Program} {w:World} {K:PySem.W.Frag} {h:Heap} {mg:Str->Option Value} (X:K.In h) (G:h.Ns mainGlobals mg) {x qual:Str} {st:Stmt} {ps:List Str} {f C:Addr} {oc:Value} {od an:Option Addr} {sl:Array (Option Value)} {kV dc pm cd ct:Value}
include X G
theorem Bs (a:PySem.W.nsIn K mainGlobals x=some (some (.ref f))) (l:K.lookup f=some ⟨oc,od,.func (PySem.W.fnOf x x (G8 st) (Ex st) (Aj st) .none kV dc pm an cd ct),sl⟩) (c:PySem.W.codeIn K cd x=true) (k:PySem.W.keepIn K (.ref f)=true)
  (b:∀ (kV doc pm:Value) (an:Option Addr) (cdv ct:Value) (us:List Value),us.length=ps.length->bindArgs (PySem.W.fnOf x x (G8 st) (Ex st) (Aj st) .none kV doc pm an cdv ct) ⟨us,[]⟩=pure (ps.zip us)):Dn K mg x st ps :=
 ⟨f,_,Ws l c k,PySem.W.mg_of X G a,(Ws l c k).binds b⟩
theorem agy (aC:PySem.W.nsIn K mainGlobals x=some (some (.ref C))) (a:PySem.W.findIn K (.ref C) "__init__" = some (some (.ref f))) (i:PySem.W.isFn K (.ref f)=true) (l:K.lookup f=some ⟨oc,od,.func (PySem.W.fnOf "__init__" qual (G8 st) (Ex st) (Aj st) .none kV dc pm an cd ct),sl⟩) (c:PySem.W.codeIn K cd qual=true) (k:PySem.W.keepIn K (.ref f)=true)
  (mk:PySem.W.makesIn K C=true) (kc:PySem.W.keepIn K (.ref C)=true)
  (b:∀ (kV doc pm:Value) (an:Option Addr) (cdv ct:Value) (us:List Value),us.length=ps.length->bindArgs (PySem.W.fnOf "__init__" qual (G8 st) (Ex st) (Aj st) .none kV doc pm an cdv ct) ⟨us,[]⟩=pure (ps.zip us)):DnC K mg x qual C st ps :=
 ⟨f,_,⟨mk,a,i,kc⟩,Ws l c k,PySem.W.mg_of X G aC,(Ws l c k).binds b⟩
theorem Cq {v:Int} {t:Tok} (h:PySem.W.nsIn K mainGlobals x=some (some (.int v t))):∃ t,mg x=some (.int v t):=⟨t,PySem.W.mg_of X G h⟩
theorem all_mk {fa Ak Aq Af:Addr} (hfa:mg "make" = some (.ref fa)) (T:Txt K mg Ak Aq Af) (a:PySem.W.nsIn K mainGlobals "make" = some (some (.ref f))) (l:K.lookup f=some ⟨oc,od,.func (PySem.W.fnOf "make" "make" (G8 Oe) (Ex Oe) (Aj Oe) .none kV dc pm an cd ct),sl⟩) (c_:PySem.W.codeIn K cd "make" = true) (k:PySem.W.keepIn K (.ref f)=true) :
  ∃ fd:FuncData,(∀ (s:Shared) (us:List Value),us.length=(["K", "c", "b"]:List Str).length->BindsTo s fd ⟨us,[]⟩ ((["K", "c", "b"]:List Str).zip us))/\∀ (base:Heap) (c Tb:Addr),K.In base->base.Ns mainGlobals mg->TabOf base mg "made_pages" c Tb->Up P w K mg base CX0 8 fa fd ["K", "c", "b"] (ZP K Tb):=by
 have e:=hfa.symm.trans (PySem.W.mg_of X G a)
 cases e
 exact ⟨_,fun s us hu=>match us,hu with | [_,_,_],_=>.of_eq rfl,fun base c Tb h1 _ h3=>aho T h1 h3 (Ws (st:=Oe) l c_ k)⟩
end
end Py
def PySem.W.Fast.tw14612055638708140097:=0
def PySem.W.Fast.tw12645349268785491585:=0
def PySem.W.Fast.tw4349097656527230039:=0
def PySem.W.Fast.tw5337796588181321890:=0
def PySem.W.Fast.tw757362274960765661:=0
def PySem.W.Fast.tw11541962394069400940:=0
def PySem.W.Fast.tw17031146472756168732:=0
def PySem.W.Fast.tw17335115325684777289:=0
def PySem.W.Fast.tw1998457874809489676:=0
def PySem.W.Fast.tw13575669722855198877:=0
def PySem.W.Fast.tw1339766894966141396:=0
def PySem.W.Fast.tw5307114298056658115:=0
def PySem.W.Fast.tw7935076896003229011:=0
def PySem.W.Fast.tw10680468106435664609:=0
def PySem.W.Fast.tw13600851164467055002:=0
def PySem.W.Fast.tw16733985030606414303:=0
def PySem.W.Fast.tw7873529380882272750:=0
def PySem.W.Fast.tw11245617599345173619:=0
def PySem.W.Fast.tw4006889183604777564:=0
def PySem.W.Fast.tw8631673588675231404:=0
def PySem.W.Fast.tw15827852671184224448:=0
def PySem.W.Fast.tw14401850457047698157:=0
def PySem.W.Fast.tw17331844819511976219:=0
def PySem.W.Fast.tw10193972443184168000:=0
def PySem.W.Fast.tw3064361118532873335:=0
def PySem.W.Fast.tw8147089594259118829:=0
def PySem.W.Fast.tw16527189299002668248:=0
def PySem.W.Fast.tw11746184244095718950:=0
def PySem.W.Fast.tw470738925873097504:=0
def PySem.W.Fast.tw7363410852869239690:=0
def PySem.W.Fast.tw8866829661588562236:=0
def PySem.W.Fast.tw16829177914584301133:=0
def PySem.W.Fast.tw10053443060167246284:=0
def PySem.W.Fast.tw14201357399544104770:=0
def PySem.W.Fast.tw7037830115932783583:=0
def PySem.W.Fast.tw5085687218027134117:=0
def PySem.W.Fast.tw11758782201021564416:=0
def PySem.W.Fast.tw4473250623872479847:=0
def PySem.W.Fast.tw13244385280589289959:=0
def PySem.W.Fast.tw7388440646017235840:=0
def PySem.W.Fast.tw6479507612121110053:=0
def PySem.W.Fast.tw430633325781797893:=0
def PySem.W.Fast.tw6051107258795756811:=0
def PySem.W.Fast.tw10973024401936472360:=0
def PySem.W.Fast.tw1593234098743924467:=0
def PySem.W.Fast.tw4838284931577831600:=0
def PySem.W.Fast.tw16279205027460085484:=0
def PySem.W.Fast.tw10037030143093504050:=0
def PySem.W.Fast.tw10735119916997352110:=0
def PySem.W.Fast.tw4844110426502516574:=0
def PySem.W.Fast.tw2282446399680401767:=0
def PySem.W.Fast.tw8343035055065408297:=0
def PySem.W.Fast.tw18398612926201310762:=0
def PySem.W.Fast.tw2374023683140476140:=0
def PySem.W.Fast.tw16094907781546564166:=0
def PySem.W.Fast.tw11573813619268966744:=0
def PySem.W.Fast.tw5812885035148015053:=0
def PySem.W.Fast.tw15369829362736604290:=0
def PySem.W.Fast.tw7341267394001569761:=0
def PySem.W.Fast.tw8325418393451211950:=0
def PySem.W.Fast.tw9368967836216604684:=0
def PySem.W.Fast.tw9983635235894899846:=0
def PySem.W.Fast.tw2674053676214158424:=0
def PySem.W.Fast.tw13705495478270630774:=0
def PySem.W.Fast.tw4188684301530960545:=0
def PySem.W.Fast.tw6974633983161640447:=0
def PySem.W.Fast.tw15944220596920152257:=0
def PySem.W.Fast.tw1009371591892845171:=0
def PySem.W.Fast.tw11075216063872760305:=0
def PySem.W.Fast.tw15913355202108654442:=0
def PySem.W.Fast.tw3173378812642715061:=0
def PySem.W.Fast.tw2295223558731234931:=0
def PySem.W.Fast.tw12093396189003543655:=0
def PySem.W.Fast.tw13370357044022957564:=0
def PySem.W.Fast.tw5538225986621677048:=0
def PySem.W.Fast.tw4753134265861409626:=0
def PySem.W.Fast.tw14971318726597721074:=0
def PySem.W.Fast.tw6566590939295915411:=0
def PySem.W.Fast.tw7526408658521376975:=0
def PySem.W.Fast.tw2002805394722846942:=0
def PySem.W.Fast.tw12815377164958844310:=0
def PySem.W.Fast.tw3298074962610825229:=0
def PySem.W.Fast.tw11308710614387914714:=0
def PySem.W.Fast.tw145583718110229532:=0
def PySem.W.Fast.tw5988379416377679232:=0
def PySem.W.Fast.tw9708215578154345378:=0
def PySem.W.Fast.tw8789263201226967551:=0
def PySem.W.Fast.tw3653227685923114231:=0
def PySem.W.Fast.tw8977565864443512762:=0
def PySem.W.Fast.tw11750757578841429133:=0
def PySem.W.Fast.tw9201841860270981905:=0
def PySem.W.Fast.tw6994930803509935434:=0
def PySem.W.Fast.tw8948869334408078473:=0
def PySem.W.Fast.tw7280968674138844700:=0
def PySem.W.Fast.tw2860166197356531297:=0
def PySem.W.Fast.tw2387651098541571587:=0
def PySem.W.Fast.tw5875839694657644989:=0
def PySem.W.Fast.tw16450245690202654181:=0
def PySem.W.Fast.tw17205017065825095885:=0
def PySem.W.Fast.tw8368494749358610406:=0
def PySem.W.Fast.tw9957399720592321675:=0
def PySem.W.Fast.tw7836467972847906276:=0
def PySem.W.Fast.tw9339458679474747992:=0
def PySem.W.Fast.tw1421791764924599430:=0
def PySem.W.Fast.tw13054180590796241933:=0
def PySem.W.Fast.tw17757563016076187044:=0
def PySem.W.Fast.tw13511406163557866971:=0
def PySem.W.Fast.tw18336968908003728512:=0
def PySem.W.Fast.tw9154317371043703823:=0
def PySem.W.Fast.tw6788464999059651246:=0
def PySem.W.Fast.tw12269800308306880187:=0
def PySem.W.Fast.tw16368400992327774397:=0
def PySem.W.Fast.tw14823082323489424969:=0
def PySem.W.Fast.tw1783868657218696241:=0
def PySem.W.Fast.tw13865920639120450555:=0
def PySem.W.Fast.tw16087396320969684578:=0
def PySem.W.Fast.tw17336172416680354658:=0
def PySem.W.Fast.tw13603900414699948100:=0
def PySem.W.Fast.tw12118875070655070307:=0
def PySem.W.Fast.tw14731801837525194192:=0
def PySem.W.Fast.tw14105001207836370258:=0
def PySem.W.Fast.tw13629734985297462652:=0
def PySem.W.Fast.tw1984647456879423585:=0
def PySem.W.Fast.tw10735589221228196719:=0
def PySem.W.Fast.tw14240097024512888125:=0
def PySem.W.Fast.tw15140801859135572929:=0
def PySem.W.Fast.tw10978300688355920570:=0
def PySem.W.Fast.tw13007212118920447641:=0
def PySem.W.Fast.tw18213752890276379361:=0
def PySem.W.Fast.tw6278211279889176594:=0
def PySem.W.Fast.tw10250156254063643954:=0
def PySem.W.Fast.tw8277379066705472077:=0
def PySem.W.Fast.tw9398636706032062077:=0
def PySem.W.Fast.tw840632546504403696:=0
def PySem.W.Fast.tw5905425451703958837:=0
def PySem.W.Fast.tw18111904480400941691:=0
def PySem.W.Fast.tw937805195000021272:=0
def PySem.W.Fast.tw2037379674028940513:=0
def PySem.W.Fast.tw10295696646573522953:=0
def PySem.W.Fast.tw8200020225929917868:=0
def PySem.W.Fast.tw14284602274090694649:=0
def PySem.W.Fast.tw1883944162889810226:=0
def PySem.W.Fast.tw7772732974261777094:=0
def PySem.W.Fast.tw12236086346000409952:=0
def PySem.W.Fast.tw7410668799405993151:=0
def PySem.W.Fast.tw2049426208956647162:=0
def PySem.W.Fast.tw11631491956659500130:=0
def PySem.W.Fast.tw4514401767790640101:=0
def PySem.W.Fast.tw12523750061450654591:=0
def PySem.W.Fast.tw17822871084239753376:=0
def PySem.W.Fast.tw5100471764967770921:=0
def PySem.W.Fast.tw4901512672388880471:=0
def PySem.W.Fast.tw17820822790726023582:=0
def PySem.W.Fast.tw6481972550823066509:=0
def PySem.W.Fast.tw15685172012718672115:=0
def PySem.W.Fast.tw7446627540015802089:=0
def PySem.W.Fast.tw9456233654743898686:=0
def PySem.W.Fast.tw10150969537974848487:=0
def PySem.W.Fast.tw15307488051335319489:=0
def PySem.W.Fast.tw8157400136623855358:=0
def PySem.W.Fast.tw9954487198665638243:=0
def PySem.W.Fast.tw6046302408417741523:=0
def PySem.W.Fast.tw4928841892594218244:=0
def PySem.W.Fast.tw10223829516075225179:=0
def PySem.W.Fast.tw12294203091772860241:=0
def PySem.W.Fast.tw18033444830596720302:=0
def PySem.W.Fast.tw7471847729935564769:=0
def PySem.W.Fast.tw2392487587963690134:=0
def PySem.W.Fast.tw9625390047875195258:=0
def PySem.W.Fast.tw6897679655224812258:=0
def PySem.W.Fast.tw3333704572462971441:=0
def PySem.W.Fast.tw14903302437980689904:=0
def PySem.W.Fast.tw17264168286136726984:=0
def PySem.W.Fast.tw816284684212863729:=0
def PySem.W.Fast.tw11036494556499067889:=0
def PySem.W.Fast.tw10542343381843638300:=0
def PySem.W.Fast.tw13238112411255382767:=0
def PySem.W.Fast.tw2030586961349061784:=0
def PySem.W.Fast.tw12896559735703052009:=0
def PySem.W.Fast.tw4118814720675336136:=0
def PySem.W.Fast.tw7418514711642402281:=0
def PySem.W.Fast.tw7677216240459013060:=0
def PySem.W.Fast.tw5514787032619870946:=0
def PySem.W.Fast.tw14657913908036450782:=0
def PySem.W.Fast.tw16453893131350354565:=0
def PySem.W.Fast.tw11537228660752127682:=0
def PySem.W.Fast.tw15587459014837951671:=0
def PySem.W.Fast.tw16247942513703823665:=0
def PySem.W.Fast.tw8856676239378912205:=0
def PySem.W.Fast.tw10564629759105528511:=0
def PySem.W.Fast.tw5658093100048849532:=0
def PySem.W.Fast.tw15219737165607960327:=0
def PySem.W.Fast.tw1215079378702914982:=0
def PySem.W.Fast.tw15541643419647560087:=0
def PySem.W.Fast.tw3137082245806825336:=0
def PySem.W.Fast.tw13950531810464279668:=0
def PySem.W.Fast.tw13720215337823488329:=0
def PySem.W.Fast.tw10362056253543114721:=0
def PySem.W.Fast.tw4183719569362813501:=0
def PySem.W.Fast.tw18050820479702372801:=0
def PySem.W.Fast.tw15076202108597827401:=0
def PySem.W.Fast.tw9356742202677448908:=0
def PySem.W.Fast.tw9400056425649469060:=0
def PySem.W.Fast.tw3316716171484154172:=0
def PySem.W.Fast.tw13548240745185320630:=0
def PySem.W.Fast.tw2861398237643546675:=0
def PySem.W.Fast.tw2230061236236226832:=0
def PySem.W.Fast.tw11587895325389522890:=0
def PySem.W.Fast.tw14994154425113427135:=0
def PySem.W.Fast.tw12716820605905241627:=0
def PySem.W.Fast.tw15252258002209098280:=0
def PySem.W.Fast.tw11670514115206059128:=0
def PySem.W.Fast.tw13163541541934541331:=0
def PySem.W.Fast.tw15567861370291585491:=0
def PySem.W.Fast.tw8555179052968382787:=0
def PySem.W.Fast.tw14942390184608027537:=0
def PySem.W.Fast.tw14593866022943846293:=0
def PySem.W.Fast.tw16972849662337272325:=0
def PySem.W.Fast.tw5462976905724407348:=0
def PySem.W.Fast.tw16512072681593434681:=0
def PySem.W.Fast.tw13836815257125952183:=0
def PySem.W.Fast.tw10358232256124664330:=0
def PySem.W.Fast.tw12462833161750248359:=0
def PySem.W.Fast.tw8150114839177920419:=0
def PySem.W.Fast.tw17940807266525247745:=0
def PySem.W.Fast.tw1921713681085440039:=0
def PySem.W.Fast.tw20828343351627722:=0
def PySem.W.Fast.tw8854680398725651377:=0
def PySem.W.Fast.tw10612075744357305632:=0
def PySem.W.Fast.tw6261102232516078553:=0
def PySem.W.Fast.tw8871497182214763376:=0
def PySem.W.Fast.tw3360345756788643404:=0
def PySem.W.Fast.tw14313217349955673239:=0
def PySem.W.Fast.tw3007247692000999241:=0
def PySem.W.Fast.tw11898464505930568304:=0
def PySem.W.Fast.tw11582496431179646222:=0
def PySem.W.Fast.tw8007197210747245433:=0
def PySem.W.Fast.tw8407476690859362489:=0
def PySem.W.Fast.tw584731581650149749:=0
def PySem.W.Fast.tw12795372147308963115:=0
def PySem.W.Fast.tw7721324266658238154:=0
def PySem.W.Fast.tw16126016493032353051:=0
def PySem.W.Fast.tw12966309407254604583:=0
def PySem.W.Fast.tw17817140003600332113:=0
def PySem.W.Fast.tw13529578693496196706:=0
def PySem.W.Fast.tw14382809561723027560:=0
def PySem.W.Fast.tw6254767869034585132:=0
def PySem.W.Fast.tw2045352200739221859:=0
def PySem.W.Fast.tw13405902077982119747:=0
def PySem.W.Fast.tw13454593262670785893:=0
def PySem.W.Fast.tw13324635997502350138:=0
def PySem.W.Fast.tw16689131571150952234:=0
def PySem.W.Fast.tw17896279287182906791:=0
def PySem.W.Fast.tw9390959499146732899:=0
def PySem.W.Fast.tw13806779830470802708:=0
def PySem.W.Fast.tw2239121461603707394:=0
def PySem.W.Fast.tw11554838847581611370:=0
def PySem.W.Fast.tw17501945158309122389:=0
def PySem.W.Fast.tw1561173634067180855:=0
def PySem.W.Fast.tw6935375782195194829:=0
def PySem.W.Fast.tw6872926174830668358:=0
def PySem.W.Fast.tw2687495863349235533:=0
def PySem.W.Fast.tw16790900629388707600:=0
def PySem.W.Fast.tw7625824564816975467:=0
def PySem.W.Fast.tw6964493344740770939:=0
def PySem.W.Fast.tw11704847237640823701:=0
def PySem.W.Fast.tw1948000717081000036:=0
def PySem.W.Fast.tw17907532374447496550:=0
def PySem.W.Fast.tw14358316550803148002:=0
open PySem PySem.W PyProof.Rows
set_option maxHeartbeats 0 in
theorem PySem.Challenge.cw_laystones_s07_make_holds : PySem.Challenge.rw_laystones_s07_make.Holds := by
 w_on; k_headS; (case hw=>exact ⟨[.int 0,.list [],.list []],by decide +kernel,by decide +kernel⟩)
 k_fillS
 refine L2.ab7 (r:=PySem.Challenge.rw_laystones_s07_make) (k:=8) (CX:=L2.CX0) (ps:=["K", "c", "b"]) (x := "made_pages") (sp:=Py.ZP) (by decide +kernel) rfl rfl ⟨rfl,by decide,by decide⟩ (by decide +kernel) (fun w h Y=>PySem.W.kIn_of Y) ?NTabs ?F ?S (fun _ _ _ _ z=>z)
 case NTabs=>intro w; rfl
 case F =>
  intro w mg fa h Y KX G hmg
  refine' Py.all_mk KX G hmg ⟨Py.agy KX G ?h1 ?h2 ?h3 ?h4 ?h5 ?h6 ?h7 ?h8 (fun _ _ _ _ _ _ us hl=>match us,hl with | [_,_,_,_,_,_],_=>rfl),
   ⟨?h9,?h10,?h11,?h12⟩,
   Py.Jg ?h13,
   Py.Jg ?h14,
   Py.Jg ?h15,
   Py.Jg ?h16,
   Py.Jg ?h17,
   Py.agy KX G ?h18 ?h19 ?h20 ?h21 ?h22 ?h23 ?h24 ?h25 (fun _ _ _ _ _ _ us hl=>match us,hl with | [_,_,_,_,_,_],_=>rfl),
   ⟨?h26,?h27,?h28,?h29⟩,
   Py.Jg ?h30,
   Py.Jg ?h31,
   Py.Jg ?h32,
   Py.Jg ?h33,
   Py.Jg ?h34,
   Py.agy KX G ?h35 ?h36 ?h37 ?h38 ?h39 ?h40 ?h41 ?h42 (fun _ _ _ _ _ _ us hl=>match us,hl with | [_,_,_,_],_=>rfl),
   ⟨?h43,?h44,?h45,?h46⟩,
   Py.Jg ?h47,
   Py.Jg ?h48,
   Py.Jg ?h49,
   Py.Bs KX G ?h50 ?h51 ?h52 ?h53 (fun _ _ _ _ _ _ us hl=>match us,hl with | [_],_=>rfl),
   Py.Bs KX G ?h54 ?h55 ?h56 ?h57 (fun _ _ _ _ _ _ us hl=>match us,hl with | [_],_=>rfl),
   Py.Bs KX G ?h58 ?h59 ?h60 ?h61 (fun _ _ _ _ _ _ us hl=>match us,hl with | [_],_=>rfl),
   Py.Bs KX G ?h62 ?h63 ?h64 ?h65 (fun _ _ _ _ _ _ us hl=>match us,hl with | [_,_,_,_],_=>rfl),
   Py.Bs KX G ?h66 ?h67 ?h68 ?h69 (fun _ _ _ _ _ _ us hl=>match us,hl with | [_],_=>rfl),
   Py.Bs KX G ?h70 ?h71 ?h72 ?h73 (fun _ _ _ _ _ _ us hl=>match us,hl with | [_],_=>rfl),
   Py.Bs KX G ?h74 ?h75 ?h76 ?h77 (fun _ _ _ _ _ _ us hl=>match us,hl with | [_],_=>rfl),
   Py.Bs KX G ?h78 ?h79 ?h80 ?h81 (fun _ _ _ _ _ _ us hl=>match us,hl with | [_],_=>rfl),
   Py.Bs KX G ?h82 ?h83 ?h84 ?h85 (fun _ _ _ _ _ _ us hl=>match us,hl with | [_],_=>rfl),
   Py.Bs KX G ?h86 ?h87 ?h88 ?h89 (fun _ _ _ _ _ _ us hl=>match us,hl with | [_],_=>rfl),
   Py.Bs KX G ?h90 ?h91 ?h92 ?h93 (fun _ _ _ _ _ _ us hl=>match us,hl with | [_],_=>rfl),
   Py.Bs KX G ?h94 ?h95 ?h96 ?h97 (fun _ _ _ _ _ _ us hl=>match us,hl with | [_],_=>rfl),
   Py.Bs KX G ?h98 ?h99 ?h100 ?h101 (fun _ _ _ _ _ _ us hl=>match us,hl with | [_],_=>rfl),
   Py.Bs KX G ?h102 ?h103 ?h104 ?h105 (fun _ _ _ _ _ _ us hl=>match us,hl with | [_,_],_=>rfl),
   Py.Bs KX G ?h106 ?h107 ?h108 ?h109 (fun _ _ _ _ _ _ us hl=>match us,hl with | [_],_=>rfl),
   Py.Bs KX G ?h110 ?h111 ?h112 ?h113 (fun _ _ _ _ _ _ us hl=>match us,hl with | [_,_],_=>rfl),
   Py.Bs KX G ?h114 ?h115 ?h116 ?h117 (fun _ _ _ _ _ _ us hl=>match us,hl with | [_],_=>rfl),
   Py.Bs KX G ?h118 ?h119 ?h120 ?h121 (fun _ _ _ _ _ _ us hl=>match us,hl with | [_],_=>rfl),
   Py.Bs KX G ?h122 ?h123 ?h124 ?h125 (fun _ _ _ _ _ _ us hl=>match us,hl with | [_],_=>rfl),
   Py.Bs KX G ?h126 ?h127 ?h128 ?h129 (fun _ _ _ _ _ _ us hl=>match us,hl with | [_],_=>rfl),
   Py.Bs KX G ?h130 ?h131 ?h132 ?h133 (fun _ _ _ _ _ _ us hl=>match us,hl with | [_,_],_=>rfl),
   Py.Bs KX G ?h134 ?h135 ?h136 ?h137 (fun _ _ _ _ _ _ us hl=>match us,hl with | [_,_,_],_=>rfl),
   Py.Bs KX G ?h138 ?h139 ?h140 ?h141 (fun _ _ _ _ _ _ us hl=>match us,hl with | [_],_=>rfl),
   Py.Bs KX G ?h142 ?h143 ?h144 ?h145 (fun _ _ _ _ _ _ us hl=>match us,hl with | [_,_,_],_=>rfl),
   Py.Bs KX G ?h146 ?h147 ?h148 ?h149 (fun _ _ _ _ _ _ us hl=>match us,hl with | [_,_],_=>rfl),
   Py.Bs KX G ?h150 ?h151 ?h152 ?h153 (fun _ _ _ _ _ _ us hl=>match us,hl with | [_],_=>rfl),
   Py.Bs KX G ?h154 ?h155 ?h156 ?h157 (fun _ _ _ _ _ _ us hl=>match us,hl with | [_],_=>rfl),
   Py.Bs KX G ?h158 ?h159 ?h160 ?h161 (fun _ _ _ _ _ _ us hl=>match us,hl with | [_],_=>rfl),
   Py.Bs KX G ?h162 ?h163 ?h164 ?h165 (fun _ _ _ _ _ _ us hl=>match us,hl with | [_],_=>rfl),
   Py.Bs KX G ?h166 ?h167 ?h168 ?h169 (fun _ _ _ _ _ _ us hl=>match us,hl with | [_],_=>rfl),
   Py.Bs KX G ?h170 ?h171 ?h172 ?h173 (fun _ _ _ _ _ _ us hl=>match us,hl with | [_,_],_=>rfl),
   Py.Bs KX G ?h174 ?h175 ?h176 ?h177 (fun _ _ _ _ _ _ us hl=>match us,hl with | [_,_],_=>rfl),
   Py.Bs KX G ?h178 ?h179 ?h180 ?h181 (fun _ _ _ _ _ _ us hl=>match us,hl with | [_],_=>rfl),
   Py.Bs KX G ?h182 ?h183 ?h184 ?h185 (fun _ _ _ _ _ _ us hl=>match us,hl with | [_],_=>rfl),
   Py.Bs KX G ?h186 ?h187 ?h188 ?h189 (fun _ _ _ _ _ _ us hl=>match us,hl with | [_,_],_=>rfl),
   Py.Bs KX G ?h190 ?h191 ?h192 ?h193 (fun _ _ _ _ _ _ us hl=>match us,hl with | [_,_],_=>rfl),
   Py.Bs KX G ?h194 ?h195 ?h196 ?h197 (fun _ _ _ _ _ _ us hl=>match us,hl with | [_],_=>rfl),
   Py.Bs KX G ?h198 ?h199 ?h200 ?h201 (fun _ _ _ _ _ _ us hl=>match us,hl with | [_],_=>rfl),
   Py.Bs KX G ?h202 ?h203 ?h204 ?h205 (fun _ _ _ _ _ _ us hl=>match us,hl with | [_,_],_=>rfl),
   Py.Bs KX G ?h206 ?h207 ?h208 ?h209 (fun _ _ _ _ _ _ us hl=>match us,hl with | [_,_,_],_=>rfl),
   Py.Bs KX G ?h210 ?h211 ?h212 ?h213 (fun _ _ _ _ _ _ us hl=>match us,hl with | [_,_],_=>rfl),
   Py.Bs KX G ?h214 ?h215 ?h216 ?h217 (fun _ _ _ _ _ _ us hl=>match us,hl with | [_,_],_=>rfl),
   Py.Bs KX G ?h218 ?h219 ?h220 ?h221 (fun _ _ _ _ _ _ us hl=>match us,hl with | [_],_=>rfl),
   Py.Bs KX G ?h222 ?h223 ?h224 ?h225 (fun _ _ _ _ _ _ us hl=>match us,hl with | [_],_=>rfl),
   Py.Bs KX G ?h226 ?h227 ?h228 ?h229 (fun _ _ _ _ _ _ us hl=>match us,hl with | [_,_],_=>rfl),
   Py.Bs KX G ?h230 ?h231 ?h232 ?h233 (fun _ _ _ _ _ _ us hl=>match us,hl with | [_,_],_=>rfl),
   Py.Bs KX G ?h234 ?h235 ?h236 ?h237 (fun _ _ _ _ _ _ us hl=>match us,hl with | [_,_],_=>rfl),
   Py.Bs KX G ?h238 ?h239 ?h240 ?h241 (fun _ _ _ _ _ _ us hl=>match us,hl with | [_],_=>rfl),
   Py.Bs KX G ?h242 ?h243 ?h244 ?h245 (fun _ _ _ _ _ _ us hl=>match us,hl with | [_],_=>rfl),
   Py.Bs KX G ?h246 ?h247 ?h248 ?h249 (fun _ _ _ _ _ _ us hl=>match us,hl with | [_],_=>rfl),
   Py.Bs KX G ?h250 ?h251 ?h252 ?h253 (fun _ _ _ _ _ _ us hl=>match us,hl with | [_,_],_=>rfl),
   Py.Bs KX G ?h254 ?h255 ?h256 ?h257 (fun _ _ _ _ _ _ us hl=>match us,hl with | [_],_=>rfl),
   Py.Bs KX G ?h258 ?h259 ?h260 ?h261 (fun _ _ _ _ _ _ us hl=>match us,hl with | [_],_=>rfl),
   Py.Bs KX G ?h262 ?h263 ?h264 ?h265 (fun _ _ _ _ _ _ us hl=>match us,hl with | [_],_=>rfl),
   Py.Bs KX G ?h266 ?h267 ?h268 ?h269 (fun _ _ _ _ _ _ us hl=>match us,hl with | [_,_,_],_=>rfl),
   Py.Cq KX G ?h270,
   Py.Cq KX G ?h271,
   Py.Cq KX G ?h272,
   Py.Cq KX G ?h273,
   Py.Cq KX G ?h274,
   Py.Cq KX G ?h275,
   Py.Cq KX G ?h276,
   Py.Cq KX G ?h277,
   Py.Cq KX G ?h278,
   Py.Cq KX G ?h279,
   Py.Cq KX G ?h280,
   Py.Cq KX G ?h281,
   Py.Cq KX G ?h282,
   Py.Cq KX G ?h283,
   Py.Cq KX G ?h284,
   Py.Cq KX G ?h285,
   Py.Cq KX G ?h286,
   Py.Cq KX G ?h287,
   Py.Cq KX G ?h288,
   Py.Cq KX G ?h289,
   Py.Cq KX G ?h290,
   Py.Cq KX G ?h291,
   Py.Cq KX G ?h292,
   Py.Cq KX G ?h293,
   Py.Cq KX G ?h294,
   Py.Cq KX G ?h295,
   Py.Cq KX G ?h296,
   Py.Cq KX G ?h297,
   Py.Cq KX G ?h298,
   Py.Cq KX G ?h299,
   Py.Cq KX G ?h300,
   Py.Cq KX G ?h301,
   Py.Cq KX G ?h302,
   Py.Cq KX G ?h303,
   Py.Cq KX G ?h304,
   PySem.W.mg_none_of KX G ?h305,
   PySem.W.mg_none_of KX G ?h306,
   PySem.W.mg_none_of KX G ?h307,
   PySem.W.mg_none_of KX G ?h308,
   PySem.W.mg_none_of KX G ?h309,
   PySem.W.mg_none_of KX G ?h310,
   PySem.W.mg_none_of KX G ?h311,
   PySem.W.mg_none_of KX G ?h312,
   PySem.W.mg_none_of KX G ?h313,
   PySem.W.mg_none_of KX G ?h314,
   PySem.W.mg_none_of KX G ?h315⟩ ?h316 ?h317 ?h318 ?h319
  (case h1=>k_is)
  (case h2=>k_is)
  (case h3=>k_is)
  (case h4=>k_is)
  (case h5=>k_is)
  (case h6=>k_is)
  (case h7=>k_is)
  (case h8=>k_is)
  (case h9=>k_is)
  (case h10=>k_is)
  (case h11=>k_is)
  (case h12=>k_is)
  (case h13=>k_is)
  (case h14=>k_is)
  (case h15=>k_is)
  (case h16=>k_is)
  (case h17=>k_is)
  (case h18=>k_is)
  (case h19=>k_is)
  (case h20=>k_is)
  (case h21=>k_is)
  (case h22=>k_is)
  (case h23=>k_is)
  (case h24=>k_is)
  (case h25=>k_is)
  (case h26=>k_is)
  (case h27=>k_is)
  (case h28=>k_is)
  (case h29=>k_is)
  (case h30=>k_is)
  (case h31=>k_is)
  (case h32=>k_is)
  (case h33=>k_is)
  (case h34=>k_is)
  (case h35=>k_is)
  (case h36=>k_is)
  (case h37=>k_is)
  (case h38=>k_is)
  (case h39=>k_is)
  (case h40=>k_is)
  (case h41=>k_is)
  (case h42=>k_is)
  (case h43=>k_is)
  (case h44=>k_is)
  (case h45=>k_is)
  (case h46=>k_is)
  (case h47=>k_is)
  (case h48=>k_is)
  (case h49=>k_is)
  (case h50=>k_is)
  (case h51=>k_is)
  (case h52=>k_is)
  (case h53=>k_is)
  (case h54=>k_is)
  (case h55=>k_is)
  (case h56=>k_is)
  (case h57=>k_is)
  (case h58=>k_is)
  (case h59=>k_is)
  (case h60=>k_is)
  (case h61=>k_is)
  (case h62=>k_is)
  (case h63=>k_is)
  (case h64=>k_is)
  (case h65=>k_is)
  (case h66=>k_is)
  (case h67=>k_is)
  (case h68=>k_is)
  (case h69=>k_is)
  (case h70=>k_is)
  (case h71=>k_is)
  (case h72=>k_is)
  (case h73=>k_is)
  (case h74=>k_is)
  (case h75=>k_is)
  (case h76=>k_is)
  (case h77=>k_is)
  (case h78=>k_is)
  (case h79=>k_is)
  (case h80=>k_is)
  (case h81=>k_is)
  (case h82=>k_is)
  (case h83=>k_is)
  (case h84=>k_is)
  (case h85=>k_is)
  (case h86=>k_is)
  (case h87=>k_is)
  (case h88=>k_is)
  (case h89=>k_is)
  (case h90=>k_is)
  (case h91=>k_is)
  (case h92=>k_is)
  (case h93=>k_is)
  (case h94=>k_is)
  (case h95=>k_is)
  (case h96=>k_is)
  (case h97=>k_is)
  (case h98=>k_is)
  (case h99=>k_is)
  (case h100=>k_is)
  (case h101=>k_is)
  (case h102=>k_is)
  (case h103=>k_is)
  (case h104=>k_is)
  (case h105=>k_is)
  (case h106=>k_is)
  (case h107=>k_is)
  (case h108=>k_is)
  (case h109=>k_is)
  (case h110=>k_is)
  (case h111=>k_is)
  (case h112=>k_is)
  (case h113=>k_is)
  (case h114=>k_is)
  (case h115=>k_is)
  (case h116=>k_is)
  (case h117=>k_is)
  (case h118=>k_is)
  (case h119=>k_is)
  (case h120=>k_is)
  (case h121=>k_is)
  (case h122=>k_is)
  (case h123=>k_is)
  (case h124=>k_is)
  (case h125=>k_is)
  (case h126=>k_is)
  (case h127=>k_is)
  (case h128=>k_is)
  (case h129=>k_is)
  (case h130=>k_is)
  (case h131=>k_is)
  (case h132=>k_is)
  (case h133=>k_is)
  (case h134=>k_is)
  (case h135=>k_is)
  (case h136=>k_is)
  (case h137=>k_is)
  (case h138=>k_is)
  (case h139=>k_is)
  (case h140=>k_is)
  (case h141=>k_is)
  (case h142=>k_is)
  (case h143=>k_is)
  (case h144=>k_is)
  (case h145=>k_is)
  (case h146=>k_is)
  (case h147=>k_is)
  (case h148=>k_is)
  (case h149=>k_is)
  (case h150=>k_is)
  (case h151=>k_is)
  (case h152=>k_is)
  (case h153=>k_is)
  (case h154=>k_is)
  (case h155=>k_is)
  (case h156=>k_is)
  (case h157=>k_is)
  (case h158=>k_is)
  (case h159=>k_is)
  (case h160=>k_is)
  (case h161=>k_is)
  (case h162=>k_is)
  (case h163=>k_is)
  (case h164=>k_is)
  (case h165=>k_is)
  (case h166=>k_is)
  (case h167=>k_is)
  (case h168=>k_is)
  (case h169=>k_is)
  (case h170=>k_is)
  (case h171=>k_is)
  (case h172=>k_is)
  (case h173=>k_is)
  (case h174=>k_is)
  (case h175=>k_is)
  (case h176=>k_is)
  (case h177=>k_is)
  (case h178=>k_is)
  (case h179=>k_is)
  (case h180=>k_is)
  (case h181=>k_is)
  (case h182=>k_is)
  (case h183=>k_is)
  (case h184=>k_is)
  (case h185=>k_is)
  (case h186=>k_is)
  (case h187=>k_is)
  (case h188=>k_is)
  (case h189=>k_is)
  (case h190=>k_is)
  (case h191=>k_is)
  (case h192=>k_is)
  (case h193=>k_is)
  (case h194=>k_is)
  (case h195=>k_is)
  (case h196=>k_is)
  (case h197=>k_is)
  (case h198=>k_is)
  (case h199=>k_is)
  (case h200=>k_is)
  (case h201=>k_is)
  (case h202=>k_is)
  (case h203=>k_is)
  (case h204=>k_is)
  (case h205=>k_is)
  (case h206=>k_is)
  (case h207=>k_is)
  (case h208=>k_is)
  (case h209=>k_is)
  (case h210=>k_is)
  (case h211=>k_is)
  (case h212=>k_is)
  (case h213=>k_is)
  (case h214=>k_is)
  (case h215=>k_is)
  (case h216=>k_is)
  (case h217=>k_is)
  (case h218=>k_is)
  (case h219=>k_is)
  (case h220=>k_is)
  (case h221=>k_is)
  (case h222=>k_is)
  (case h223=>k_is)
  (case h224=>k_is)
  (case h225=>k_is)
  (case h226=>k_is)
  (case h227=>k_is)
  (case h228=>k_is)
  (case h229=>k_is)
  (case h230=>k_is)
  (case h231=>k_is)
  (case h232=>k_is)
  (case h233=>k_is)
  (case h234=>k_is)
  (case h235=>k_is)
  (case h236=>k_is)
  (case h237=>k_is)
  (case h238=>k_is)
  (case h239=>k_is)
  (case h240=>k_is)
  (case h241=>k_is)
  (case h242=>k_is)
  (case h243=>k_is)
  (case h244=>k_is)
  (case h245=>k_is)
  (case h246=>k_is)
  (case h247=>k_is)
  (case h248=>k_is)
  (case h249=>k_is)
  (case h250=>k_is)
  (case h251=>k_is)
  (case h252=>k_is)
  (case h253=>k_is)
  (case h254=>k_is)
  (case h255=>k_is)
  (case h256=>k_is)
  (case h257=>k_is)
  (case h258=>k_is)
  (case h259=>k_is)
  (case h260=>k_is)
  (case h261=>k_is)
  (case h262=>k_is)
  (case h263=>k_is)
  (case h264=>k_is)
  (case h265=>k_is)
  (case h266=>k_is)
  (case h267=>k_is)
  (case h268=>k_is)
  (case h269=>k_is)
  (case h270=>k_is)
  (case h271=>k_is)
  (case h272=>k_is)
  (case h273=>k_is)
  (case h274=>k_is)
  (case h275=>k_is)
  (case h276=>k_is)
  (case h277=>k_is)
  (case h278=>k_is)
  (case h279=>k_is)
  (case h280=>k_is)
  (case h281=>k_is)
  (case h282=>k_is)
  (case h283=>k_is)
  (case h284=>k_is)
  (case h285=>k_is)
  (case h286=>k_is)
  (case h287=>k_is)
  (case h288=>k_is)
  (case h289=>k_is)
  (case h290=>k_is)
  (case h291=>k_is)
  (case h292=>k_is)
  (case h293=>k_is)
  (case h294=>k_is)
  (case h295=>k_is)
  (case h296=>k_is)
  (case h297=>k_is)
  (case h298=>k_is)
  (case h299=>k_is)
  (case h300=>k_is)
  (case h301=>k_is)
  (case h302=>k_is)
  (case h303=>k_is)
  (case h304=>k_is)
  (case h305=>k_is)
  (case h306=>k_is)
  (case h307=>k_is)
  (case h308=>k_is)
  (case h309=>k_is)
  (case h310=>k_is)
  (case h311=>k_is)
  (case h312=>k_is)
  (case h313=>k_is)
  (case h314=>k_is)
  (case h315=>k_is)
  (case h316=>k_is)
  (case h317=>k_is)
  (case h318=>k_is)
  (case h319=>k_is)
 case S =>
  intro K H Tb xs a hn hwi ame hx
  cases hx with
  | cons g1 hx =>
   cases hx with
   | cons h1 h2 =>
    cases h2 with
    | cons h2 h3 =>
     cases h3
     cases g1
     cases h1 with
     | lst hs ha =>
      cases h2 with
      | lst hs2 ha2 =>
       have e:=L2.Z9 a.2.1 _ ha
       subst e
       have e:=L2.Z9 a.2.2.1 _ ha2
       subst e
       have q:(Codec.inInt 0 18446744073709551615 a.1 && ((Codec.inLen 0 100000 a.2.1 && a.2.1.all (Codec.inInt 0 255)) && ((Codec.inLen 0 16400 a.2.2.1 && a.2.2.1.all (Codec.inInt 0 255)) && true)))=true:=hwi
       rw [Bool.and_eq_true,Bool.and_eq_true,Bool.and_eq_true,Bool.and_eq_true,Bool.and_eq_true] at q
       rw [<- Py.aaB q.2.1.2] at hs
       rw [<- Py.aaB q.2.2.1.2] at hs2
       have l1:=(Codec.inNat_iff.mp q.2.1.1).2
       have l2:=(Codec.inNat_iff.mp q.2.2.1.1).2
       have i1:=(Codec.inInt_iff.mp q.1).1
       have st:=L2.Ag.new (o:=.tbl #[]) hn
       refine ⟨_,_,StepsNeutral.text a.2.1,StepsNeutral.text a.2.2.1,a.1.toNat,?_,st.seq hs,?_,st.seq hs2,?_,L2.Ab,fun H' p hp=>.lst (L2.SqL.of hp) (L2.adV _)⟩
       ·rw [Int.toNat_of_nonneg i1]
       ·unfold StepsNeutral.text; rw [List.length_map]; omega
       ·unfold StepsNeutral.text; rw [List.length_map]; omega
