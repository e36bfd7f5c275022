import PyProof.Rows.All
import Wide.All
import OpenK.AllK
import Wide.FinOn
import PyProof.EqAt
import PyProof.EqKinds
import PyProof.TupleCall
import KE.BitLaws
import Open.SpecLaws
import KE.OsHead
import KE.OsGo
import KE.KDictSum
import KE.KSortTupG
import PyProof.Draws
import PyProof.EnumMake
import PySem.Challenge.RW_laystones_s09_right
set_option linter.all false
set_option Elab.async false
set_option maxRecDepth 100000
set_option maxHeartbeats 4000000
namespace Mx
open Br
abbrev Ps (α:Type):=Bytes->Option (α × Bytes)
def Sim {α:Type} (r:Rd α) (f:Ps α):Prop:=∀ (n:Nat) (t:Bytes),match f t with
 | some (x,t')=>∃ m,r.run (n,t) = .ok (x,(m,t'))
 | none=>∃ e,r.run (n,t) = .error e
def Eb {α:Type} (x:α):Ps α:=fun t=>some (x,t)
def Aj {α β:Type} (f:Ps α) (g:α->Ps β):Ps β:=fun t=>match f t with
 | some (x,t')=>g x t'
 | none=>none
def GC {α:Type}:Ps α:=fun _=>none
theorem CV {α:Type} (x:α):Sim (return x:Rd α) (Eb x):=fun n t=>⟨n,rfl⟩
theorem Bf {α β:Type} {r:Rd α} {k:α->Rd β} {f:Ps α} {g:α->Ps β} (h:Sim r f) (hk:∀ x,Sim (k x) (g x)):Sim (r >>= k) (Aj f g):=fun n t=>by
 have h1:=h n t
 unfold Aj
 cases e:f t with
 | none =>
  rw [e] at h1
  obtain ⟨er,q⟩:=h1
  refine ⟨er,?_⟩
  show (r >>= k) (n,t)=_
  show (r (n,t) >>= fun p=>k p.1 p.2)=_
  rw [show r (n,t)=Except.error er from q]
  rfl
 | some p =>
  obtain ⟨x,t'⟩:=p
  rw [e] at h1
  obtain ⟨m,q⟩:=h1
  have h2:=hk x m t'
  have e2:(r >>= k).run (n,t)=(k x).run (m,t'):=by
   show (r (n,t) >>= fun p=>k p.1 p.2)=_
   rw [show r (n,t)=Except.ok (x,(m,t')) from q]
   rfl
  show match g x t' with
   | some (x,t')=>∃ m,(r >>= k).run (n,t) = .ok (x,(m,t'))
   | none=>∃ e,(r >>= k).run (n,t) = .error e
  rw [e2]
  exact h2
theorem DY {α:Type}:Sim (stray:Rd α) GC:=fun n t=>⟨n,rfl⟩
theorem G3 {β:Type} {k:Option UInt8->Rd β} {g:Option UInt8->Ps β} (hk:∀ x,Sim (k x) (g x)):Sim (peek >>= k) (fun t=>g t.head? t):=fun n t=>by
 have h2:=hk t.head? n t
 have e2:(peek >>= k).run (n,t)=(k t.head?).run (n,t):=rfl
 show match g t.head? t with
   | some (x,t')=>∃ m,(peek >>= k).run (n,t) = .ok (x,(m,t'))
   | none=>∃ e,(peek >>= k).run (n,t) = .error e
 rw [e2]
 exact h2
theorem IV:Sim skip (fun t=>some ((),t.drop 1)):=fun n t=>⟨n + 1,rfl⟩
theorem JH {α:Type} {c:Prop} [Decidable c] {r s:Rd α} {f g:Ps α} (h1:Sim r f) (h2:Sim s g):Sim (if c then r else s) (if c then f else g):=by
 by_cases e:c
 ·rw [if_pos e,if_pos e]; exact h1
 ·rw [if_neg e,if_neg e]; exact h2
theorem EY {α:Type} {r:Rd α} {f g:Ps α} (h:Sim r f) (e:∀ t,f t=g t):Sim r g:=fun n t=>by
 have:=h n t
 rw [e t] at this
 exact this
def Bs (c:UInt8):Ps Unit
 | []=>none
 | a :: r=>if a=c then some ((),r) else none
theorem IW (c:UInt8):Sim (byte_ c) (Bs c):=by
 refine EY (G3 (fun x=>JH (c:=x=some c) IV DY)) ?_
 intro t
 cases t with
 | nil=>rfl
 | cons a r =>
  show (if some a=some c then (fun t:Bytes=>some ((),t.drop 1)) else GC) (a :: r)=_
  rw [Bs]
  by_cases e:a=c
  ·rw [if_pos (by rw [e]),if_pos e]; rfl
  ·rw [if_neg (fun q=>e (Option.some.inj q)),if_neg e]; rfl
def CQ:Bytes->Ps Unit
 | []=>Eb ()
 | c :: r=>Aj (Bs c) fun _=>CQ r
theorem Mr:∀ l:Bytes,Sim (bytes_ l) (CQ l)
 | []=>CV ()
 | c :: r=>Bf (IW c) fun _=>Mr r
def G8 (lo hi:Nat) (v:Option Nat) (c:Option UInt8):Option Nat:=c.bind fun (c:UInt8)=>if isDigit c=false \/ v=some 0 then Option.none else let n:=10 * v.getD 0 + (c.toNat - 48)
   if leadsTo lo hi n=true then some n else Option.none
def BL (lo hi:Nat):Nat->Option Nat->Ps Nat
 | 0,_=>GC
 | f + 1,v=>fun t=>match G8 lo hi v t.head? with
  | some n=>BL lo hi f (some n) (t.drop 1)
  | Option.none=>match v with
   | some n=>if lo <= n/\n <= hi then some (n,t) else none
   | Option.none=>none
theorem Vr (lo hi:Nat):∀ (f:Nat) (v:Option Nat),Sim (digits lo hi f v) (BL lo hi f v)
 | 0,_=>DY
 | f + 1,v=>by
  unfold digits
  refine EY (G3 (g:=fun c=>match G8 lo hi v c with
   | some n=>Aj (fun t=>some ((),t.drop 1)) fun _=>BL lo hi f (some n)
   | Option.none=>match v with
    | some n=>if lo <= n/\n <= hi then Eb n else GC
    | Option.none=>GC) (fun x=>?_)) ?_
  ·show Sim (match G8 lo hi v x with
    | some n=>do
     skip
     digits lo hi f (some n)
    | Option.none=>match v with
     | some n=>if lo <= n/\n <= hi then return n else stray
     | Option.none=>stray) _
   cases G8 lo hi v x with
   | some n=>exact Bf IV fun _=>Vr lo hi f (some n)
   | none =>
    cases v with
    | none=>exact DY
    | some n=>exact JH (CV n) DY
  ·intro t
   show (match G8 lo hi v t.head? with
   | some n=>Aj (fun t=>some ((),t.drop 1)) fun _=>BL lo hi f (some n)
   | Option.none=>match v with
    | some n=>if lo <= n/\n <= hi then Eb n else GC
    | Option.none=>GC) t=_
   rw [BL]
   dsimp only
   cases G8 lo hi v t.head? with
   | some n=>rfl
   | none =>
    cases v with
    | none=>rfl
    | some n =>
     show (if lo <= n/\n <= hi then Eb n else GC) t=if lo <= n/\n <= hi then some (n,t) else none
     by_cases e:lo <= n/\n <= hi
     ·rw [if_pos e,if_pos e]; rfl
     ·rw [if_neg e,if_neg e]; rfl
def pNum (lo hi:Nat):Ps Nat:=BL lo hi 20 none
def CW (lo hi:Nat):Ps Nat:=Aj (Bs 32) fun _=>pNum lo hi
theorem Df (lo hi:Nat):Sim (numAfter lo hi) (CW lo hi):=Bf (IW 32) fun _=>Vr lo hi 20 none
def Cr (f:UInt8->Bool):Nat->Ps Bytes
 | 0=>Eb []
 | n + 1=>fun t=>match t with
  | []=>some ([],[])
  | c :: r=>if f c=true then (match Cr f n r with
    | some (x,t')=>some (c :: x,t')
    | none=>none) else some ([],c :: r)
theorem Yc (p:UInt8->Bool):∀ n:Nat,Sim (while_ p n) (Cr p n)
 | 0=>CV []
 | n + 1=>by
  unfold while_
  refine EY (G3 (g:=fun c=>match c with
   | some c=>if p c=true then Aj (fun t=>some ((),t.drop 1)) fun _=>Aj (Cr p n) fun x=>Eb (c :: x) else Eb []
   | none=>Eb []) (fun x=>?_)) ?_
  ·cases x with
   | none=>exact CV []
   | some c=>exact JH (Bf IV fun _=>Bf (Yc p n) fun x=>CV _) (CV [])
  ·intro t
   cases t with
   | nil=>rfl
   | cons c r =>
    show (if p c=true then Aj (fun t=>some ((),t.drop 1)) fun _=>Aj (Cr p n) fun x=>Eb (c :: x) else Eb []) (c :: r)=_
    rw [Cr]
    dsimp only
    by_cases e:p c=true
    ·rw [if_pos e,if_pos e]
     show Aj (Cr p n) (fun x=>Eb (c :: x)) r=_
     unfold Aj
     cases Cr p n r with
     | none=>rfl
     | some q=>rfl
    ·rw [if_neg e,if_neg e]; rfl
def isNm (c:UInt8):Bool:=isLow c || isDigit c
def FZ (n:Nat):Ps Bytes
 | []=>none
 | c :: r=>if isLow c=true then (match Cr isNm n r with
    | some (x,t')=>some (c :: x,t')
    | none=>none) else none
theorem Yd (n:Nat):Sim (do
 match <- peek with
 | some c =>
  if isLow c=true then
   skip
   let r <- while_ (fun (c:UInt8)=>isLow c || isDigit c) n
   return c :: r
  else
   stray
 | Option.none=>stray) (FZ n):=by
 refine EY (G3 (g:=fun c=>match c with
   | some c=>if isLow c=true then Aj (fun t=>some ((),t.drop 1)) fun _=>Aj (Cr isNm n) fun x=>Eb (c :: x) else GC
   | none=>GC) (fun x=>?_)) ?_
 ·cases x with
  | none=>exact DY
  | some c=>exact JH (Bf IV fun _=>Bf (Yc _ n) fun x=>CV _) DY
 ·intro t
  cases t with
  | nil=>rfl
  | cons c r =>
   show (if isLow c=true then Aj (fun t=>some ((),t.drop 1)) fun _=>Aj (Cr isNm n) fun x=>Eb (c :: x) else GC) (c :: r)=_
   rw [FZ]
   by_cases e:isLow c=true
   ·rw [if_pos e,if_pos e]
    show Aj (Cr isNm n) (fun x=>Eb (c :: x)) r=_
    unfold Aj
    cases Cr isNm n r with
    | none=>rfl
    | some q=>rfl
   ·rw [if_neg e,if_neg e]; rfl
theorem afp:Sim name_ (FZ 7):=Yd 7
theorem Zz:Sim longName_ (FZ 15):=Yd 15
def Fy {α:Type} (f:Ps α):Nat->Ps (List α)
 | 0=>Eb []
 | n + 1=>Aj f fun x=>Aj (Fy f n) fun l=>Eb (x :: l)
theorem Q8 {α:Type} {r:Rd α} {f:Ps α} (h:Sim r f):∀ n,Sim (times n r) (Fy f n)
 | 0=>CV []
 | n + 1=>Bf h fun x=>Bf (Q8 h n) fun l=>CV _
def Dl {α:Type} (f:Ps α):Nat->Ps (List α)
 | 0=>fun t=>if t.head?.isSome=true then none else some ([],t)
 | n + 1=>fun t=>if t.head?.isSome=true then Aj f (fun x=>Aj (Dl f n) fun l=>Eb (x :: l)) t else some ([],t)
theorem Q7 {α:Type} {r:Rd α} {f:Ps α} (h:Sim r f):∀ n,Sim (toEnd r n) (Dl f n)
 | 0=>by
  unfold toEnd
  refine EY (G3 (fun x=>JH (c:=x.isSome=true) DY (CV []))) ?_
  intro t
  rw [Dl]
  show (if t.head?.isSome=true then (GC:Ps (List α)) else Eb []) t=_
  dsimp only
  by_cases e:t.head?.isSome=true
  ·rw [if_pos e,if_pos e]; rfl
  ·rw [if_neg e,if_neg e]; rfl
 | n + 1=>by
  unfold toEnd
  refine EY (G3 (fun x=>JH (c:=x.isSome=true) (Bf h fun x=>Bf (Q7 h n) fun l=>CV _) (CV []))) ?_
  intro t
  rw [Dl]
  show (if t.head?.isSome=true then (Aj f fun x=>Aj (Dl f n) fun l=>Eb (x :: l)) else Eb []) t=_
  dsimp only
  by_cases e:t.head?.isSome=true
  ·rw [if_pos e,if_pos e]
  ·rw [if_neg e,if_neg e]; rfl
def Gm:Ps Place
 | []=>none
 | c :: r=>match placeOf c with
  | some p=>some (p,r)
  | none=>none
theorem aeo:Sim place_ Gm:=by
 unfold place_
 refine EY (G3 (g:=fun c=>match c.bind placeOf with
   | some p=>Aj (fun t=>some ((),t.drop 1)) fun _=>Eb p
   | none=>GC) (fun x=>?_)) ?_
 ·cases x.bind placeOf with
  | none=>exact DY
  | some c=>exact Bf IV fun _=>CV _
 ·intro t
  cases t with
  | nil=>rfl
  | cons c r =>
   show (match placeOf c with
   | some p=>Aj (fun t=>some ((),t.drop 1)) fun _=>Eb p
   | none=>GC) (c :: r)=_
   rw [Gm]
   cases placeOf c <;> rfl
def acz (w:Nat):Ps (List Place):=Aj (Fy Gm w) fun l=>Aj (Bs 10) fun _=>Eb l
theorem agQ (w:Nat):Sim (row_ w) (acz w):=Bf (Q8 aeo w) fun l=>Bf (IW 10) fun _=>CV _
def Li:Ps Part:=Aj (CQ (ascii "part ")) fun _=>Aj (FZ 7) fun n=>Aj (CW 1 16) fun w=>Aj (CW 1 16) fun d=>Aj (CW 1 18) fun h=>Aj (CW 1 9999) fun g =>
 Aj (Bs 10) fun _=>Aj (Fy (acz w) (d * h)) fun l=>Eb ⟨n,w,d,h,g,l.flatten⟩
theorem aaJ:Sim part_ Li:=Bf (Mr _) fun _=>Bf afp fun n=>Bf (Df _ _) fun w=>Bf (Df _ _) fun d=>Bf (Df _ _) fun h=>Bf (Df _ _) fun g =>
 Bf (IW 10) fun _=>Bf (Q8 (agQ w) _) fun l=>CV _
def Qj:Ps Catalogue:=Aj Li fun p=>Aj (Dl Li 63) fun l=>Eb (p :: l)
def readM {α:Type} (f:Ps α) (t:Bytes):Option α:=(f t).map (·.1)
def aar {α:Type} (x:Option α) (y:Except Nat α):Prop:=match x with
  | some x=>y = .ok x
  | none=>∃ e,y = .error e
theorem SX {α:Type} {r:Rd α} {f:Ps α} (h:Sim r f) (t:Bytes):aar (readM f t) (readAll r t):=by
 have h1:=h 0 t
 unfold readM readAll
 cases e:f t with
 | none =>
  rw [e] at h1
  obtain ⟨er,q⟩:=h1
  exact ⟨er,by rw [q]; rfl⟩
 | some p =>
  obtain ⟨x,t'⟩:=p
  rw [e] at h1
  obtain ⟨m,q⟩:=h1
  show (r.run (0,t)).map _=_
  rw [q]; rfl
theorem aes (t:Bytes):aar (readM Qj t) (readC t) :=
 SX (f:=Qj) (Bf aaJ fun p=>Bf (Q7 aaJ 63) fun l=>CV (p :: l)) t
def BX (names:List Bytes):Nat->Bytes->Ps Nat
 | 0,p=>fun t=>match names.findIdx? fun (n:Bytes)=>n == p with
  | some i=>some (i,t)
  | none=>none
 | f + 1,p=>fun t=>match t with
  | []=>none
  | c :: r=>if (names.any fun (n:Bytes)=>(p ++ [c]).isPrefixOf n)=true then BX names f (p ++ [c]) r else
    match names.findIdx? fun (n:Bytes)=>n == p with
    | some i=>some (i,c :: r)
    | none=>none
theorem Ye (names:List Bytes):∀ (f:Nat) (p:Bytes),Sim (known names f p) (BX names f p)
 | 0,p=>by
  unfold known
  refine EY (f:=match names.findIdx? fun (n:Bytes)=>n == p with
  | some i=>Eb i
  | none=>GC) ?_ ?_
  ·cases names.findIdx? fun (n:Bytes)=>n == p with
   | none=>exact DY
   | some i=>exact CV i
  ·intro t
   unfold BX
   cases names.findIdx? fun (n:Bytes)=>n == p <;> rfl
 | f + 1,p=>by
  unfold known
  refine EY (G3 (g:=fun c=>match c with
   | some c=>if (names.any fun (n:Bytes)=>(p ++ [c]).isPrefixOf n)=true then Aj (fun t=>some ((),t.drop 1)) fun _=>BX names f (p ++ [c]) else
    match names.findIdx? fun (n:Bytes)=>n == p with
    | some i=>Eb i
    | none=>GC
   | none=>GC) (fun x=>?_)) ?_
  ·cases x with
   | none=>exact DY
   | some c =>
    refine JH (Bf IV fun _=>Ye names f _) ?_
    cases names.findIdx? fun (n:Bytes)=>n == p with
    | none=>exact DY
    | some i=>exact CV i
  ·intro t
   cases t with
   | nil=>rfl
   | cons c r =>
    show (if (names.any fun (n:Bytes)=>(p ++ [c]).isPrefixOf n)=true then Aj (fun t=>some ((),t.drop 1)) fun _=>BX names f (p ++ [c]) else
     match names.findIdx? fun (n:Bytes)=>n == p with
     | some i=>Eb i
     | none=>GC) (c :: r)=_
    rw [BX]
    dsimp only
    by_cases e:(names.any fun (n:Bytes)=>(p ++ [c]).isPrefixOf n)=true
    ·rw [if_pos e,if_pos e]; rfl
    ·rw [if_neg e,if_neg e]
     cases names.findIdx? fun (n:Bytes)=>n == p <;> rfl
def Kf (c:Catalogue):Ps Line:=Aj (CQ (ascii "put ")) fun _=>Aj (BX (c.map fun (p:Part)=>p.name) 8 []) fun p=>Aj (CW 0 255) fun k=>Aj (CW 0 63) fun x=>Aj (CW 0 63) fun y =>
 Aj (CW 0 95) fun z=>Aj (CW 0 3) fun r=>Aj (Bs 10) fun _=>Eb ⟨p,k,x,y,z,r⟩
theorem afq (c:Catalogue):Sim (line_ c) (Kf c):=Bf (Mr _) fun _=>Bf (Ye _ _ _) fun n=>Bf (Df _ _) fun w=>Bf (Df _ _) fun d=>Bf (Df _ _) fun h=>Bf (Df _ _) fun g=>Bf (Df _ _) fun g =>
 Bf (IW 10) fun _=>CV _
def Ex (c:Catalogue):Ps Build:=Aj (CQ (ascii "build ")) fun _=>Aj (FZ 15) fun n=>Aj (Bs 10) fun _=>Aj (Dl (Kf c) 256) fun l=>Eb (⟨n,l⟩:Build)
theorem aet (c:Catalogue) (t:Bytes):aar (readM (Ex c) t) (readB c t) :=
 SX (f:=Ex c) (Bf (Mr _) fun _=>Bf Zz fun n=>Bf (IW 10) fun _=>Bf (Q7 (afq c) 256) fun l=>CV (⟨n,l⟩:Build)) t
def split (d:UInt8):Bytes->List Bytes
 | []=>[[]]
 | c :: r=>if c=d then [] :: split d r else match split d r with
  | []=>[[c]]
  | p :: ps=>(c :: p) :: ps
theorem Er (d:UInt8):∀ t,split d t ≠ []
 | []=>by simp [split]
 | c :: r=>by
  rw [split]
  by_cases e:c=d
  ·rw [if_pos e]; simp
  ·rw [if_neg e]
   cases split d r <;> simp
theorem split_free {d:UInt8}:∀ {t:Bytes} {p:Bytes},p ∈ split d t->d ∉ p/\∀ c ∈ p,c ∈ t
 | [],p,h=>by
  simp [split] at h
  subst h
  simp
 | c :: r,p,h=>by
  rw [split] at h
  by_cases e:c=d
  ·rw [if_pos e] at h
   rcases List.mem_cons.mp h with rfl | h
   ·simp
   ·have:=split_free h
    exact ⟨this.1,fun x hx=>List.mem_cons_of_mem _ (this.2 x hx)⟩
  ·rw [if_neg e] at h
   cases q:split d r with
   | nil=>exact absurd q (Er d r)
   | cons a as =>
    rw [q] at h
    rcases List.mem_cons.mp h with rfl | h
    ·have:=split_free (t:=r) (p:=a) (by rw [q]; exact List.mem_cons_self ..)
     refine ⟨fun z=>?_,fun x hx=>?_⟩
     ·rcases List.mem_cons.mp z with z | z
      ·exact e z.symm
      ·exact this.1 z
     ·rcases List.mem_cons.mp hx with rfl | hx
      ·exact List.mem_cons_self ..
      ·exact List.mem_cons_of_mem _ (this.2 x hx)
    ·have:=split_free (t:=r) (p:=p) (by rw [q]; exact List.mem_cons_of_mem _ h)
     exact ⟨this.1,fun x hx=>List.mem_cons_of_mem _ (this.2 x hx)⟩
def joined (d:UInt8):List Bytes->Bytes
 | []=>[]
 | [x]=>x
 | x :: y :: r=>x ++ d :: joined d (y :: r)
theorem JW (d:UInt8):∀ t,joined d (split d t)=t
 | []=>rfl
 | c :: r=>by
  rw [split]
  have ih:=JW d r
  by_cases e:c=d
  ·rw [if_pos e]
   cases q:split d r with
   | nil=>exact absurd q (Er d r)
   | cons a as =>
    rw [q] at ih
    show [] ++ d :: joined d (a :: as)=_
    rw [ih,e]; rfl
  ·rw [if_neg e]
   cases q:split d r with
   | nil=>exact absurd q (Er d r)
   | cons a as =>
    rw [q] at ih
    cases as with
    | nil =>
     have e2:a=r:=ih
     subst e2
     rfl
    | cons b bs =>
     have e2:a ++ d :: joined d (b :: bs)=r:=ih
     show (c :: a) ++ d :: joined d (b :: bs)=_
     rw [List.cons_append,e2]
def flat (rs:List Bytes):Bytes:=rs.flatMap (· ++ [10])
theorem Em (r:Bytes) (rs:List Bytes) (t:Bytes):flat (r :: rs) ++ t=r ++ 10 :: (flat rs ++ t):=by
 simp [flat]
theorem Tp:∀ (rs:List Bytes) (tl:Bytes),joined 10 (rs ++ [tl])=flat rs ++ tl
 | [],tl=>rfl
 | [r],tl=>by simp [joined,flat]
 | r :: s :: rs,tl=>by
  have:=Tp (s :: rs) tl
  rw [Em,<- this]
  rfl
def J1 (rest:Bytes) (ws:List Bytes):Bytes:=joined 32 ws ++ 10 :: rest
theorem XC (rest w:Bytes):J1 rest [w] = w ++ 10 :: rest:=rfl
theorem Vb (rest w v:Bytes) (ws:List Bytes):J1 rest (w :: v :: ws)=w ++ 32 :: J1 rest (v :: ws):=by
 simp [J1,joined]
theorem Ed {α β γ:Type} (f:Ps α) (g:α->Ps β) (h:β->Ps γ):Aj (Aj f g) h=Aj f fun x=>Aj (g x) h:=by
 funext t
 unfold Aj
 cases f t with
 | none=>rfl
 | some p=>rfl
theorem Bk {α β:Type} {f:Ps α} {g:α->Ps β} {t t':Bytes} {x:α} (h:f t=some (x,t')):Aj f g t=g x t':=by unfold Aj; rw [h]
theorem Bb {α β:Type} {f:Ps α} {g:α->Ps β} {t:Bytes} (h:f t=none):Aj f g t=none:=by unfold Aj; rw [h]
theorem Yt {α β:Type} (x:α) (g:α->Ps β):Aj (Eb x) g=g x:=rfl
def Tok {α:Type} (f:Ps α) (g:Bytes->Option α):Prop:=∀ (d:UInt8) (β:Type) (k:α->Ps β) (w:Bytes) (c:UInt8) (r:Bytes),(d=32 \/ d=10)->(c=32 \/ c=10)->32 ∉ w->10 ∉ w ->
 Aj f (fun x=>Aj (Bs d) (fun _=>k x)) (w ++ c :: r)=match g w with
  | some x=>if c=d then k x r else none
  | none=>none
theorem J3 {α β:Type} {f:Ps α} {g:Bytes->Option α} (h:Tok f g) (k:α->Ps β) {rest w:Bytes} {ws:List Bytes} (h1:32 ∉ w) (h2:10 ∉ w) :
  Aj f (fun x=>Aj (Bs 32) (fun _=>k x)) (J1 rest (w :: ws))=match g w with
   | some x=>if ws=[] then none else k x (J1 rest ws)
   | none=>none:=by
 cases ws with
 | nil =>
  rw [XC,h 32 β k w 10 rest (.inl rfl) (.inr rfl) h1 h2]
  cases g w <;> simp
 | cons v vs =>
  rw [Vb,h 32 β k w 32 _ (.inl rfl) (.inl rfl) h1 h2]
  cases g w <;> simp
theorem afm {α β:Type} {f:Ps α} {g:Bytes->Option α} (h:Tok f g) (k:α->Ps β) {rest w:Bytes} {ws:List Bytes} (h1:32 ∉ w) (h2:10 ∉ w) :
  Aj f (fun x=>Aj (Bs 10) (fun _=>k x)) (J1 rest (w :: ws))=match g w with
   | some x=>if ws=[] then k x rest else none
   | none=>none:=by
 cases ws with
 | nil =>
  rw [XC,h 10 β k w 10 rest (.inr rfl) (.inr rfl) h1 h2]
  cases g w <;> simp
 | cons v vs =>
  rw [Vb,h 10 β k w 32 _ (.inr rfl) (.inl rfl) h1 h2]
  cases g w <;> simp
theorem Hn {d a:UInt8} (h:a ≠ d) (r:Bytes):Bs d (a :: r)=none:=by rw [Bs,if_neg h]
theorem abH (d:UInt8) (r:Bytes):Bs d (d :: r)=some ((),r):=by rw [Bs,if_pos rfl]
theorem Ml {α β:Type} (k:α->Ps β) (x:α) (d c:UInt8) (r:Bytes):Aj (Eb x) (fun x=>Aj (Bs d) (fun _=>k x)) (c :: r)=if c=d then k x r else none:=by
 show Aj (Bs d) (fun _=>k x) (c :: r)=_
 unfold Aj
 rw [Bs]
 by_cases e:c=d
 ·rw [if_pos e,if_pos e]
 ·rw [if_neg e,if_neg e]
def eqB (l w:Bytes):Option Unit:=if w=l then some () else none
def nmB (p:Bytes->Bool) (w:Bytes):Option Bytes:=if p w=true then some w else none
theorem Mm:∀ l:Bytes,32 ∉ l->10 ∉ l->Tok (CQ l) (eqB l)
 | [],_,_=>fun d β k w c r hd hc h1 h2=>by
  cases w with
  | nil =>
   show Aj (Eb ()) _ (c :: r)=_
   rw [Ml k () d c r,eqB,if_pos rfl]
  | cons a as =>
   have ha:a ≠ d:=by
    rintro rfl
    rcases hd with rfl | rfl
    ·exact h1 (List.mem_cons_self ..)
    ·exact h2 (List.mem_cons_self ..)
   show Aj (Bs d) (fun _=>k ()) (a :: (as ++ c :: r))=_
   rw [eqB,if_neg (by simp)]
   unfold Aj
   rw [Hn ha]
 | b :: l,g1,g2=>fun d β k w c r hd hc h1 h2=>by
  have ih:=Mm l (fun z=>g1 (List.mem_cons_of_mem _ z)) (fun z=>g2 (List.mem_cons_of_mem _ z)) d β k
  rw [CQ,Ed]
  cases w with
  | nil =>
   have hb:c ≠ b:=by
    rintro rfl
    rcases hc with rfl | rfl
    ·exact g1 (List.mem_cons_self ..)
    ·exact g2 (List.mem_cons_self ..)
   rw [eqB,if_neg (by simp)]
   show Aj (Bs b) _ (c :: r)=_
   unfold Aj
   rw [Hn hb]
  | cons a as =>
   rw [List.cons_append]
   by_cases e:a=b
   ·subst e
    have e1:Aj (Bs a) (fun x=>Aj (CQ l) fun x=>Aj (Bs d) fun _=>k x) (a :: (as ++ c :: r))=Aj (CQ l) (fun x=>Aj (Bs d) fun _=>k x) (as ++ c :: r):=by
     exact Bk (abH a _)
    rw [e1,ih as c r hd hc (fun z=>h1 (List.mem_cons_of_mem _ z)) (fun z=>h2 (List.mem_cons_of_mem _ z))]
    by_cases e2:as=l
    ·rw [eqB,eqB,if_pos e2,if_pos (by rw [e2])]
    ·rw [eqB,eqB,if_neg e2,if_neg (by simpa using e2)]
   ·rw [eqB,if_neg (by simp [e])]
    unfold Aj
    rw [Hn e]
def Gr (n:Nat) (w:Bytes):Bool:=match w with
 | []=>false
 | c :: r=>isLow c && (decide (r.length <= n) && r.all isNm)
theorem adC {c:UInt8} (h:c=32 \/ c=10):isNm c=false:=by rcases h with rfl | rfl <;> decide
theorem aa7 {c:UInt8} (h:c=32 \/ c=10):isLow c=false:=by rcases h with rfl | rfl <;> decide
theorem XF (d:UInt8) {β:Type} (k:Bytes->Ps β) (hd:d=32 \/ d=10):∀ (n:Nat) (w:Bytes) (c:UInt8) (r:Bytes),(c=32 \/ c=10)->32 ∉ w->10 ∉ w ->
  Aj (Cr isNm n) (fun x=>Aj (Bs d) (fun _=>k x)) (w ++ c :: r)=if w.length <= n/\w.all isNm=true then (if c=d then k w r else none) else none
 | n,[],c,r,hc,_,_=>by
  rw [if_pos (by simp)]
  have e:Cr isNm n (c :: r)=some ([],c :: r):=by
   cases n with
   | zero=>rfl
   | succ n =>
    rw [Cr]
    dsimp only
    rw [if_neg (by rw [adC hc]; decide)]
  show Aj (Cr isNm n) _ (c :: r)=_
  rw [Bk e]
  exact Ml k [] d c r
 | 0,a :: w,c,r,hc,h1,h2=>by
  rw [if_neg (by simp)]
  have ha:a ≠ d:=by
   rintro rfl
   rcases hd with rfl | rfl
   ·exact h1 (List.mem_cons_self ..)
   ·exact h2 (List.mem_cons_self ..)
  show Aj (Bs d) (fun _=>k []) (a :: (w ++ c :: r))=none
  unfold Aj
  rw [Hn ha]
 | n + 1,a :: w,c,r,hc,h1,h2=>by
  have ih:=XF d (fun x=>k (a :: x)) hd n w c r hc (fun z=>h1 (List.mem_cons_of_mem _ z)) (fun z=>h2 (List.mem_cons_of_mem _ z))
  have ha:a ≠ d:=by
   rintro rfl
   rcases hd with rfl | rfl
   ·exact h1 (List.mem_cons_self ..)
   ·exact h2 (List.mem_cons_self ..)
  rw [List.cons_append]
  by_cases e:isNm a=true
  ·have e1:Aj (Cr isNm (n + 1)) (fun x=>Aj (Bs d) (fun _=>k x)) (a :: (w ++ c :: r))=Aj (Cr isNm n) (fun x=>Aj (Bs d) (fun _=>k (a :: x))) (w ++ c :: r):=by
    unfold Aj
    rw [Cr]
    dsimp only
    rw [if_pos e]
    cases Cr isNm n (w ++ c :: r) with
    | none=>rfl
    | some q=>rfl
   rw [e1,ih]
   simp [e]
  ·rw [if_neg (by simp [e])]
   have e1:Cr isNm (n + 1) (a :: (w ++ c :: r))=some ([],a :: (w ++ c :: r)):=by
    rw [Cr]
    dsimp only
    rw [if_neg e]
   rw [Bk e1]
   exact Bb (Hn ha _)
theorem aaz (n:Nat):Tok (FZ n) (nmB (Gr n)):=fun d β k w c r hd hc h1 h2=>by
 cases w with
 | nil =>
  rw [nmB,if_neg (by simp [Gr])]
  show Aj (FZ n) _ (c :: r)=_
  unfold Aj
  rw [FZ,if_neg (by rw [aa7 hc]; decide)]
 | cons a w =>
  rw [List.cons_append]
  by_cases e:isLow a=true
  ·have e1:Aj (FZ n) (fun x=>Aj (Bs d) (fun _=>k x)) (a :: (w ++ c :: r))=Aj (Cr isNm n) (fun x=>Aj (Bs d) (fun _=>k (a :: x))) (w ++ c :: r):=by
    unfold Aj
    rw [FZ,if_pos e]
    cases Cr isNm n (w ++ c :: r) with
    | none=>rfl
    | some q=>rfl
   rw [e1,XF d (fun x=>k (a :: x)) hd n w c r hc (fun z=>h1 (List.mem_cons_of_mem _ z)) (fun z=>h2 (List.mem_cons_of_mem _ z))]
   by_cases q:w.length <= n/\w.all isNm=true
   ·rw [nmB,if_pos q,show Gr n (a :: w)=true by simp only [Gr,e,Bool.true_and,Bool.and_eq_true,decide_eq_true_eq]; exact q,if_pos rfl]
   ·rw [nmB,if_neg q,if_neg (by simp only [Gr,e,Bool.true_and,Bool.and_eq_true,decide_eq_true_eq]; exact q)]
  ·rw [nmB,if_neg (by simp [Gr,e])]
   unfold Aj
   rw [FZ,if_neg e]
def Dz (hi:Nat):Nat->Bytes->Option Nat
 | n,[]=>some n
 | n,c :: r=>if isDigit c=false then none else if hi < 10 * n + (c.toNat - 48) then none else Dz hi (10 * n + (c.toNat - 48)) r
def BK (lo hi:Nat) (w:Bytes):Option Nat:=match w with
 | []=>none
 | c :: r=>if c=48/\r ≠ [] then none else match Dz hi 0 (c :: r) with
  | some n=>if n < lo then none else some n
  | none=>none
theorem YF {lo hi n:Nat} (hl:lo <= 1) (hn:0 < n):leadsTo lo hi n=decide (n <= hi):=by
 unfold leadsTo
 rw [if_neg (by omega)]
 by_cases e:n <= hi
 ·rw [decide_eq_true e,List.any_eq_true]
  refine ⟨0,by simp,?_⟩
  simp only [Nat.pow_zero,Nat.mul_one,Bool.and_eq_true,decide_eq_true_eq]
  omega
 ·rw [decide_eq_false e,List.any_eq_false]
  intro k hk
  have:n * 1 <= n * 10 ^ k:=Nat.mul_le_mul_left n (Nat.one_le_pow _ _ (by decide))
  have h2:¬ n * 10 ^ k <= hi:=by omega
  simp [h2]
theorem acO (lo hi:Nat):leadsTo lo hi 0=(lo == 0):=by
 unfold leadsTo
 rw [if_pos rfl]
theorem Mw {lo hi:Nat} {v:Option Nat} {a:UInt8} (h:isDigit a=false \/ v=some 0):G8 lo hi v (some a)=none:=by
 unfold G8
 show (if isDigit a=false \/ v=some 0 then none else _)=none
 rw [if_pos h]
theorem aa4 {lo hi:Nat} {v:Option Nat} {a:UInt8} (h:isDigit a=true) (hv:v ≠ some 0):G8 lo hi v (some a)=if leadsTo lo hi (10 * v.getD 0 + (a.toNat - 48))=true then some (10 * v.getD 0 + (a.toNat - 48)) else none:=by
 unfold G8
 show (if isDigit a=false \/ v=some 0 then none else _)=_
 rw [if_neg (by simp [h,hv])]
theorem abn {c:UInt8} (h:c=32 \/ c=10):isDigit c=false:=by rcases h with rfl | rfl <;> decide
theorem adA (d:UInt8) {β:Type} (k:Nat->Ps β) (hd:d=32 \/ d=10) {lo hi:Nat} (hl:lo <= 1):∀ (f n:Nat) (w:Bytes) (c:UInt8) (r:Bytes),0 < n->n <= hi->hi < n * 10 ^ f->(c=32 \/ c=10)->32 ∉ w->10 ∉ w ->
  Aj (BL lo hi f (some n)) (fun x=>Aj (Bs d) (fun _=>k x)) (w ++ c :: r)=match Dz hi n w with
   | some m=>if c=d then k m r else none
   | none=>none
 | 0,n,w,c,r,h0,hn,hf,hc,h1,h2=>by
  rw [Nat.pow_zero,Nat.mul_one] at hf
  omega
 | f + 1,n,[],c,r,h0,hn,hf,hc,h1,h2=>by
  have e:BL lo hi (f + 1) (some n) (c :: r)=some (n,c :: r):=by
   rw [BL]
   dsimp only [List.head?_cons]
   rw [Mw (.inl (abn hc))]
   dsimp only
   rw [if_pos ⟨by omega,hn⟩]
  show Aj (BL lo hi (f + 1) (some n)) _ (c :: r)=_
  rw [Bk e,Dz]
  exact Ml k n d c r
 | f + 1,n,a :: w,c,r,h0,hn,hf,hc,h1,h2=>by
  have ha:a ≠ d:=by
   rintro rfl
   rcases hd with rfl | rfl
   ·exact h1 (List.mem_cons_self ..)
   ·exact h2 (List.mem_cons_self ..)
  have stop:G8 lo hi (some n) (some a)=none->Aj (BL lo hi (f + 1) (some n)) (fun x=>Aj (Bs d) (fun _=>k x)) (a :: (w ++ c :: r))=none:=fun q=>by
   have e:BL lo hi (f + 1) (some n) (a :: (w ++ c :: r))=some (n,a :: (w ++ c :: r)):=by
    rw [BL]
    dsimp only [List.head?_cons]
    rw [q]
    dsimp only
    rw [if_pos ⟨by omega,hn⟩]
   rw [Bk e]
   exact Bb (Hn ha _)
  rw [List.cons_append,Dz]
  by_cases e:isDigit a=true
  ·rw [if_neg (by simp [e])]
   have em:G8 lo hi (some n) (some a)=if leadsTo lo hi (10 * n + (a.toNat - 48))=true then some (10 * n + (a.toNat - 48)) else none:=aa4 e (by simp; omega)
   rw [YF hl (by omega)] at em
   by_cases q:10 * n + (a.toNat - 48) <= hi
   ·rw [if_neg (by omega)]
    rw [if_pos (decide_eq_true q)] at em
    have e1:BL lo hi (f + 1) (some n) (a :: (w ++ c :: r))=BL lo hi f (some (10 * n + (a.toNat - 48))) (w ++ c :: r):=by
     rw [BL]
     dsimp only [List.head?_cons]
     rw [em]
     rfl
    have e2:Aj (BL lo hi (f + 1) (some n)) (fun x=>Aj (Bs d) (fun _=>k x)) (a :: (w ++ c :: r))=Aj (BL lo hi f (some (10 * n + (a.toNat - 48)))) (fun x=>Aj (Bs d) (fun _=>k x)) (w ++ c :: r):=by
     unfold Aj
     rw [e1]
    rw [e2]
    refine adA d k hd hl f _ w c r (by omega) q ?_ hc (fun z=>h1 (List.mem_cons_of_mem _ z)) (fun z=>h2 (List.mem_cons_of_mem _ z))
    have:10 * n * 10 ^ f <= (10 * n + (a.toNat - 48)) * 10 ^ f:=Nat.mul_le_mul_right _ (by omega)
    have e3:n * 10 ^ (f + 1)=10 * n * 10 ^ f:=by rw [Nat.pow_succ,Nat.mul_comm (10 ^ f) 10,<- Nat.mul_assoc,Nat.mul_comm n 10]
    omega
   ·rw [if_pos (by omega)]
    rw [if_neg (by simpa using q)] at em
    exact stop em
  ·rw [if_pos (by simpa using e)]
   exact stop (Mw (.inl (by simpa using e)))
theorem aiW {hi:Nat} {a:UInt8} {w:Bytes} (e:isDigit a=true):Dz hi 0 (a :: w)=if hi < a.toNat - 48 then none else Dz hi (a.toNat - 48) w:=by
 rw [Dz,if_neg (by simp [e]),Nat.mul_zero,Nat.zero_add]
theorem aj8 {hi:Nat} {a:UInt8} {w:Bytes} (e:¬ isDigit a=true):Dz hi 0 (a :: w)=none:=by
 rw [Dz,if_pos (by simpa using e)]
theorem aj9 {hi:Nat}:∀ (w:Bytes) (n m:Nat),Dz hi n w=some m->0 < n->n <= m:=by
 intro w
 induction w with
 | nil=>intro n m h _; rw [Dz] at h; cases h; exact Nat.le_refl _
 | cons c r ih =>
  intro n m h h0
  rw [Dz] at h
  split at h
  ·cases h
  ·split at h
   ·cases h
   ·have:=ih _ _ h (by omega)
    omega
theorem JF {lo hi:Nat} (hl:lo <= 1) (hh:hi < 10 ^ 19):Tok (pNum lo hi) (BK lo hi):=fun d β k w c r hd hc h1 h2=>by
 have fail:∀ t:Bytes,G8 lo hi none t.head? = none->Aj (pNum lo hi) (fun x=>Aj (Bs d) (fun _=>k x)) t=none:=fun t q=>by
  refine Bb ?_
  unfold pNum
  rw [BL]
  dsimp only
  rw [q]
 cases w with
 | nil =>
  exact fail (c :: r) (by show G8 lo hi none (some c)=none; exact Mw (.inl (abn hc)))
 | cons a w =>
  rw [List.cons_append,BK]
  by_cases e:isDigit a=true
  ·have em:G8 lo hi none (some a)=if leadsTo lo hi (10 * 0 + (a.toNat - 48))=true then some (10 * 0 + (a.toNat - 48)) else none:=aa4 e (by simp)
   rw [aiW e]
   have step:∀ m,G8 lo hi none (some a)=some m->Aj (pNum lo hi) (fun x=>Aj (Bs d) (fun _=>k x)) (a :: (w ++ c :: r))=Aj (BL lo hi 19 (some m)) (fun x=>Aj (Bs d) (fun _=>k x)) (w ++ c :: r):=fun m q=>by
    unfold Aj pNum
    rw [BL]
    dsimp only [List.head?_cons]
    rw [q]
    rfl
   by_cases z:a.toNat - 48=0
   ·have ea:a=48:=by
     unfold isDigit at e
     simp at e
     exact UInt8.toNat_inj.mp (by show a.toNat=48; omega)
    rw [z,Nat.mul_zero,Nat.add_zero,acO] at em
    rw [z]
    cases w with
    | nil =>
     rw [if_neg (by simp),if_neg (by omega),Dz]
     dsimp only
     by_cases hz:lo=0
     ·rw [if_pos (by simp [hz])] at em
      rw [step 0 em,if_neg (by omega)]
      have e1:BL lo hi 19 (some 0) ([] ++ c :: r)=some (0,c :: r):=by
       show BL lo hi 19 (some 0) (c :: r)=some (0,c :: r)
       rw [BL]
       dsimp only [List.head?_cons]
       rw [Mw (.inr rfl)]
       dsimp only
       rw [if_pos ⟨by omega,by omega⟩]
      rw [Bk e1]
      exact Ml k 0 d c r
     ·rw [if_neg (by simp [hz])] at em
      rw [if_pos (by omega)]
      exact fail _ em
    | cons b w =>
     rw [if_pos ⟨ea,by simp⟩]
     by_cases hz:lo=0
     ·rw [if_pos (by simp [hz])] at em
      rw [step 0 em]
      have e1:BL lo hi 19 (some 0) ((b :: w) ++ c :: r)=some (0,(b :: w) ++ c :: r):=by
       rw [List.cons_append,BL]
       dsimp only [List.head?_cons]
       rw [Mw (.inr rfl)]
       dsimp only
       rw [if_pos ⟨by omega,by omega⟩]
      rw [Bk e1]
      refine Bb (Hn ?_ _)
      rintro rfl
      rcases hd with rfl | rfl
      ·exact h1 (List.mem_cons_of_mem _ (List.mem_cons_self ..))
      ·exact h2 (List.mem_cons_of_mem _ (List.mem_cons_self ..))
     ·rw [if_neg (by simp [hz])] at em
      exact fail _ em
   ·have ea:¬ a=48:=by
     rintro rfl
     exact z rfl
    rw [if_neg (fun q=>ea q.1)]
    rw [YF hl (by omega),Nat.mul_zero,Nat.zero_add] at em
    by_cases q:a.toNat - 48 <= hi
    ·rw [if_pos (decide_eq_true q)] at em
     rw [if_neg (by omega),step _ em]
     rw [adA d k hd hl 19 (a.toNat - 48) w c r (by omega) q (by have:1 * 10 ^ 19 <= (a.toNat - 48) * 10 ^ 19:=Nat.mul_le_mul_right _ (by omega); omega) hc (fun z=>h1 (List.mem_cons_of_mem _ z)) (fun z=>h2 (List.mem_cons_of_mem _ z))]
     cases g:Dz hi (a.toNat - 48) w with
     | none=>rfl
     | some m =>
      have:=aj9 w _ m g (by omega)
      dsimp only
      rw [show (if m < lo then (none:Option Nat) else some m)=some m from if_neg (by omega)]
    ·rw [if_neg (by simpa using q)] at em
     rw [if_pos (by omega)]
     exact fail _ em
  ·rw [aj8 e]
   rw [fail _ (Mw (.inl (by simpa using e)))]
   by_cases q:a=48/\w ≠ []
   ·rw [if_pos q]
   ·rw [if_neg q]
theorem aeF (names:List Bytes) (hn:∀ n ∈ names,n.length <= 8/\32 ∉ n/\10 ∉ n) (d:UInt8) {β:Type} (k:Nat->Ps β) (hd:d=32 \/ d=10):∀ (f:Nat) (p w:Bytes) (c:UInt8) (r:Bytes),p.length + f=8->(c=32 \/ c=10)->32 ∉ w->10 ∉ w ->
  Aj (BX names f p) (fun x=>Aj (Bs d) (fun _=>k x)) (w ++ c :: r)=match names.findIdx? (fun n=>n == p ++ w) with
   | some i=>if c=d then k i r else none
   | none=>none:=by
 have left:∀ (a:UInt8) (w t:Bytes),32 ∉ a :: w->10 ∉ a :: w->Bs d (a :: t)=none:=fun a w t h1 h2=>Hn (by
  rintro rfl
  rcases hd with rfl | rfl
  ·exact h1 (List.mem_cons_self ..)
  ·exact h2 (List.mem_cons_self ..)) _
 intro f
 induction f with
 | zero =>
  intro p w c r hp hc h1 h2
  cases w with
  | nil =>
   rw [List.append_nil]
   show Aj (BX names 0 p) _ (c :: r)=_
   cases e:names.findIdx? (fun n=>n == p) with
   | none=>exact Bb (by rw [BX,e])
   | some i =>
    have e1:BX names 0 p (c :: r)=some (i,c :: r):=by rw [BX,e]
    rw [Bk e1]
    exact Ml k i d c r
  | cons a w =>
   have e0:names.findIdx? (fun n=>n == p ++ a :: w)=none:=by
    rw [List.findIdx?_eq_none_iff]
    intro x hx
    have h8:=(hn x hx).1
    refine beq_eq_false_iff_ne.mpr ?_
    rintro rfl
    simp at h8
    omega
   rw [e0]
   dsimp only
   cases e:names.findIdx? (fun n=>n == p) with
   | none=>exact Bb (by rw [BX,e])
   | some i =>
    have e1:BX names 0 p (a :: w ++ c :: r)=some (i,a :: w ++ c :: r):=by rw [BX,e]
    rw [Bk e1]
    exact Bb (left a w _ h1 h2)
 | succ f ih =>
  intro p w c r hp hc h1 h2
  cases w with
  | nil =>
   rw [List.append_nil]
   show Aj (BX names (f + 1) p) _ (c :: r)=_
   have e0:¬ (names.any fun (n:Bytes)=>(p ++ [c]).isPrefixOf n)=true:=by
    rw [List.any_eq_true]
    rintro ⟨x,hx,hpx⟩
    have:=(List.isPrefixOf_iff_prefix.mp hpx).subset (List.mem_append_right _ (List.mem_singleton.mpr rfl):c ∈ p ++ [c])
    rcases hc with rfl | rfl
    ·exact (hn x hx).2.1 this
    ·exact (hn x hx).2.2 this
   cases e:names.findIdx? (fun n=>n == p) with
   | none=>exact Bb (by rw [BX]; dsimp only; rw [if_neg e0,e])
   | some i =>
    have e1:BX names (f + 1) p (c :: r)=some (i,c :: r):=by rw [BX]; dsimp only; rw [if_neg e0,e]
    rw [Bk e1]
    exact Ml k i d c r
  | cons a w =>
   rw [List.cons_append]
   by_cases e0:(names.any fun (n:Bytes)=>(p ++ [a]).isPrefixOf n)=true
   ·have e1:Aj (BX names (f + 1) p) (fun x=>Aj (Bs d) (fun _=>k x)) (a :: (w ++ c :: r))=Aj (BX names f (p ++ [a])) (fun x=>Aj (Bs d) (fun _=>k x)) (w ++ c :: r):=by
     unfold Aj
     rw [BX]
     dsimp only
     rw [if_pos e0]
    rw [e1,ih (p ++ [a]) w c r (by simp; omega) hc (fun z=>h1 (List.mem_cons_of_mem _ z)) (fun z=>h2 (List.mem_cons_of_mem _ z)),List.append_assoc]
    rfl
   ·have e2:names.findIdx? (fun n=>n == p ++ a :: w)=none:=by
     rw [List.findIdx?_eq_none_iff]
     intro x hx
     refine beq_eq_false_iff_ne.mpr ?_
     rintro rfl
     apply e0
     rw [List.any_eq_true]
     exact ⟨_,hx,List.isPrefixOf_iff_prefix.mpr ⟨w,by simp⟩⟩
    rw [e2]
    dsimp only
    cases e:names.findIdx? (fun n=>n == p) with
    | none=>exact Bb (by rw [BX]; dsimp only; rw [if_neg e0,e])
    | some i =>
     have e1:BX names (f + 1) p (a :: (w ++ c :: r))=some (i,a :: (w ++ c :: r)):=by rw [BX]; dsimp only; rw [if_neg e0,e]
     rw [Bk e1]
     exact Bb (left a w _ h1 h2)
def GQ (names:List Bytes) (w:Bytes):Option Nat:=names.findIdx? (fun n=>n == w)
theorem aec (names:List Bytes) (hn:∀ n ∈ names,n.length <= 8/\32 ∉ n/\10 ∉ n):Tok (BX names 8 []) (GQ names):=fun d β k w c r hd hc h1 h2=>by
 rw [aeF names hn d k hd 8 [] w c r rfl hc h1 h2]
 unfold GQ
 simp only [List.nil_append]
 cases names.findIdx? (fun n=>n == w) <;> rfl
def Suf {α:Type} (f:Ps α):Prop:=∀ t x t',f t=some (x,t')->∀ c,c ∈ t'->c ∈ t
theorem Uz {α:Type} (x:α):Suf (Eb x):=fun t y t' h c hc=>by cases h; exact hc
theorem Pa {α β:Type} {f:Ps α} {g:α->Ps β} (h:Suf f) (hg:∀ x,Suf (g x)):Suf (Aj f g):=fun t y t' e c hc=>by
 unfold Aj at e
 cases q:f t with
 | none=>rw [q] at e; cases e
 | some p =>
  obtain ⟨x,t1⟩:=p
  rw [q] at e
  exact h _ _ _ q c (hg x _ _ _ e c hc)
theorem aaB (d:UInt8):Suf (Bs d):=fun t y t' e c hc=>by
 cases t with
 | nil=>cases e
 | cons a r =>
  rw [Bs] at e
  split at e
  ·cases e; exact List.mem_cons_of_mem _ hc
  ·cases e
theorem Mp:∀ l,Suf (CQ l)
 | []=>Uz ()
 | c :: r=>Pa (aaB c) fun _=>Mp r
theorem Vh (lo hi:Nat):∀ f v,Suf (BL lo hi f v)
 | 0,_=>fun t y t' e=>by cases e
 | f + 1,v=>fun t y t' e c hc=>by
  rw [BL] at e
  dsimp only at e
  split at e
  ·have:=Vh lo hi f _ _ _ _ e c hc
   exact List.mem_of_mem_drop this
  ·split at e
   ·split at e
    ·cases e; exact hc
    ·cases e
   ·cases e
theorem X5 (p:UInt8->Bool):∀ n,Suf (Cr p n)
 | 0=>Uz []
 | n + 1=>fun t y t' e c hc=>by
  cases t with
  | nil=>rw [Cr] at e; cases e; exact hc
  | cons a r =>
   rw [Cr] at e
   dsimp only at e
   split at e
   ·cases q:Cr p n r with
    | none=>rw [q] at e; cases e
    | some z =>
     rw [q] at e
     obtain ⟨x,t1⟩:=z
     cases e
     exact List.mem_cons_of_mem _ (X5 p n _ _ _ q c hc)
   ·cases e; exact hc
theorem aaA (n:Nat):Suf (FZ n):=fun t y t' e c hc=>by
 cases t with
 | nil=>rw [FZ] at e; cases e
 | cons a r =>
  rw [FZ] at e
  split at e
  ·cases q:Cr isNm n r with
   | none=>rw [q] at e; cases e
   | some z =>
    rw [q] at e
    obtain ⟨x,t1⟩:=z
    cases e
    exact List.mem_cons_of_mem _ (X5 _ n _ _ _ q c hc)
  ·cases e
theorem X7 (names:List Bytes):∀ f p,Suf (BX names f p)
 | 0,p=>fun t y t' e c hc=>by
  rw [BX] at e
  dsimp only at e
  split at e
  ·cases e; exact hc
  ·cases e
 | f + 1,p=>fun t y t' e c hc=>by
  cases t with
  | nil=>rw [BX] at e; cases e
  | cons a r =>
   rw [BX] at e
   dsimp only at e
   split at e
   ·exact List.mem_cons_of_mem _ (X7 names f _ _ _ _ e c hc)
   ·split at e
    ·cases e; exact hc
    ·cases e
theorem aeg:Suf Gm:=fun t y t' e c hc=>by
 cases t with
 | nil=>rw [Gm] at e; cases e
 | cons a r =>
  rw [Gm] at e
  split at e
  ·cases e; exact List.mem_cons_of_mem _ hc
  ·cases e
theorem X6 {α:Type} {f:Ps α} (h:Suf f):∀ n,Suf (Fy f n)
 | 0=>Uz []
 | n + 1=>Pa h fun x=>Pa (X6 h n) fun l=>Uz _
theorem De (lo hi:Nat):Suf (CW lo hi):=Pa (aaB 32) fun _=>Vh _ _ _ _
def QB {α:Type} (f:Ps α):Prop:=∀ t,10 ∉ t->f t=none
theorem JB:QB (Bs 10):=fun t h=>by
 cases t with
 | nil=>rfl
 | cons a r =>
  rw [Bs,if_neg]
  rintro rfl
  exact h (List.mem_cons_self ..)
theorem Jz {α β:Type} {f:Ps α} {g:α->Ps β} (h:QB f):QB (Aj f g):=fun t ht=>Bb (h t ht)
theorem BV {α β:Type} {f:Ps α} {g:α->Ps β} (hs:Suf f) (h:∀ x,QB (g x)):QB (Aj f g):=fun t ht=>by
 cases q:f t with
 | none=>exact Bb q
 | some p =>
  obtain ⟨x,t1⟩:=p
  rw [Bk q]
  exact h x _ fun z=>ht (hs _ _ _ q _ z)
theorem ad0 (w:Nat):QB (acz w):=BV (X6 aeg w) fun l=>Jz JB
theorem abZ:QB Li:=BV (Mp _) fun _=>BV (aaA _) fun _=>BV (De _ _) fun _=>BV (De _ _) fun _=>BV (De _ _) fun _ =>
 BV (De _ _) fun _=>Jz JB
theorem ab0 (c:Catalogue):QB (Kf c):=BV (Mp _) fun _=>BV (X7 _ _ _) fun _=>BV (De _ _) fun _=>BV (De _ _) fun _=>BV (De _ _) fun _ =>
 BV (De _ _) fun _=>BV (De _ _) fun _=>Jz JB
theorem aau (c:Catalogue):QB (Ex c):=BV (Mp _) fun _=>BV (aaA _) fun _=>Jz JB
structure Head where
 name:Bytes
 wide:Nat
 deep:Nat
 high:Nat
 weight:Nat
def GF (ws:List Bytes):Option Head:=match ws with
 | [a,n,w,d,h,g]=>if a=ascii "part" then (if Gr 7 n=true then (match BK 1 16 w with
   | none=>none
   | some w=>match BK 1 16 d with
    | none=>none
    | some d=>match BK 1 18 h with
     | none=>none
     | some h=>match BK 1 9999 g with
      | none=>none
      | some g=>some ⟨n,w,d,h,g⟩) else none) else none
 | _=>none
theorem FJ {ws:List Bytes} {hd:Head} (e:GF ws=some hd):∃ a n w d h g,ws=[a,n,w,d,h,g]/\a=ascii "part" /\ Gr 7 n=true/\hd.name=n/\BK 1 16 w=some hd.wide/\BK 1 16 d=some hd.deep/\BK 1 18 h=some hd.high/\BK 1 9999 g=some hd.weight:=by
 unfold GF at e
 split at e
 ·rename_i a n w d h g
  refine ⟨a,n,w,d,h,g,rfl,?_⟩
  split at e
  ·split at e
   ·cases ew:BK 1 16 w with
    | none=>rw [ew] at e; cases e
    | some w' =>
    cases ed:BK 1 16 d with
    | none=>rw [ew,ed] at e; cases e
    | some d' =>
    cases eh:BK 1 18 h with
    | none=>rw [ew,ed,eh] at e; cases e
    | some h' =>
    cases eg:BK 1 9999 g with
    | none=>rw [ew,ed,eh,eg] at e; cases e
    | some g' =>
    rw [ew,ed,eh,eg] at e
    cases e
    exact ⟨by assumption,by assumption,rfl,rfl,rfl,rfl,rfl⟩
   ·cases e
  ·cases e
 ·cases e
theorem agk {n w d h g:Bytes} {w' d' h' g':Nat} (en:Gr 7 n=true) (ew:BK 1 16 w=some w') (ed:BK 1 16 d=some d') (eh:BK 1 18 h=some h') (eg:BK 1 9999 g=some g') :
  GF [ascii "part",n,w,d,h,g] = some ⟨n,w',d',h',g'⟩:=by
 unfold GF
 dsimp only
 rw [if_pos rfl,if_pos en,ew,ed,eh,eg]
def Kl (row:Bytes):Option Head:=GF (split 32 row)
theorem Ri {row rest:Bytes}:row ++ 10 :: rest=J1 rest (split 32 row):=by
 unfold J1
 rw [JW]
theorem N6 {row w:Bytes} (h:10 ∉ row) (hw:w ∈ split 32 row):32 ∉ w/\10 ∉ w:=⟨(split_free hw).1,fun z=>h ((split_free hw).2 _ z)⟩
theorem YX:∀ (l m:Bytes),CQ (l ++ m)=Aj (CQ l) fun _=>CQ m
 | [],m=>rfl
 | c :: l,m=>by
  rw [List.cons_append,CQ,CQ,Ed]
  congr 1
  funext _
  exact YX l m
theorem Mh (l:Bytes) {β:Type} (k:Unit->Ps β):Aj (CQ (l ++ [32])) k=Aj (CQ l) fun _=>Aj (Bs 32) fun _=>k ():=by
 rw [YX,Ed]
 congr 1
 funext _
 rw [CQ,CQ,Ed]
 rfl
theorem NQ {lo hi:Nat} {β:Type} (k:Nat->Ps β):Aj (CW lo hi) k=Aj (Bs 32) fun _=>Aj (pNum lo hi) k:=by
 unfold CW
 rw [Ed]
def Ym (h:Head):Ps Part:=Aj (Fy (acz h.wide) (h.deep * h.high)) fun l=>Eb ⟨h.name,h.wide,h.deep,h.high,h.weight,l.flatten⟩
theorem ag1:Li=Aj (CQ (ascii "part")) fun _=>Aj (Bs 32) fun _=>Aj (FZ 7) fun n=>Aj (Bs 32) fun _=>Aj (pNum 1 16) fun w=>Aj (Bs 32) fun _=>Aj (pNum 1 16) fun d=>Aj (Bs 32) fun _ =>
  Aj (pNum 1 18) fun h=>Aj (Bs 32) fun _=>Aj (pNum 1 9999) fun g=>Aj (Bs 10) fun _=>Ym ⟨n,w,d,h,g⟩:=by
 unfold Li
 have e:ascii "part " = ascii "part" ++ [32]:=by decide
 rw [e,Mh]
 simp only [NQ]
 rfl
def Y5 {α β:Type} (x:Option α) (f:α->Option β):Option β:=match x with
 | some a=>f a
 | none=>none
theorem acS {ws:List Bytes} {rest:Bytes} (hw:∀ w ∈ ws,32 ∉ w/\10 ∉ w) (hne:ws ≠ []):Li (J1 rest ws)=Y5 (GF ws) fun hd=>Ym hd rest:=by
 rw [ag1]
 have tb:Tok (CQ (ascii "part")) (eqB (ascii "part")):=Mm _ (by decide) (by decide)
 have tn:Tok (FZ 7) (nmB (Gr 7)):=aaz 7
 have t1:Tok (pNum 1 16) (BK 1 16):=JF (by decide) (by decide)
 have t2:Tok (pNum 1 18) (BK 1 18):=JF (by decide) (by decide)
 have t3:Tok (pNum 1 9999) (BK 1 9999):=JF (by decide) (by decide)
 have no:∀ vs:List Bytes,(∀ hd,GF vs=some hd->False)->(none:Option (Part × Bytes))=Y5 (GF vs) fun hd=>Ym hd rest:=fun vs h=>by
  cases e:GF vs with
  | none=>rfl
  | some hd=>exact (h hd e).elim
 cases ws with
 | nil=>exact absurd rfl hne
 | cons a ws =>
 rw [J3 tb _ (hw a (by simp)).1 (hw a (by simp)).2]
 unfold eqB
 by_cases ea:a=ascii "part"
 case neg =>
  rw [if_neg ea]
  refine no _ fun hd e=>?_
  obtain ⟨a',n',w',d',h',g',q,qa,qn,_,qw,qd,qh,qg⟩:=FJ e
  simp_all
 rw [if_pos ea]
 dsimp only
 cases ws with
 | nil=>rfl
 | cons n ws =>
 rw [if_neg (by simp),J3 tn _ (hw n (by simp)).1 (hw n (by simp)).2]
 unfold nmB
 by_cases en:Gr 7 n=true
 case neg =>
  rw [if_neg en]
  refine no _ fun hd e=>?_
  obtain ⟨a',n',w',d',h',g',q,qa,qn,_,qw,qd,qh,qg⟩:=FJ e
  simp_all
 rw [if_pos en]
 dsimp only
 cases ws with
 | nil=>rfl
 | cons w ws =>
 rw [if_neg (by simp),J3 t1 _ (hw w (by simp)).1 (hw w (by simp)).2]
 cases ew:BK 1 16 w with
 | none =>
  refine no _ fun hd e=>?_
  obtain ⟨a',n',w',d',h',g',q,qa,qn,_,qw,qd,qh,qg⟩:=FJ e
  simp_all
 | some w' =>
 dsimp only
 cases ws with
 | nil=>rfl
 | cons d ws =>
 rw [if_neg (by simp),J3 t1 _ (hw d (by simp)).1 (hw d (by simp)).2]
 cases ed:BK 1 16 d with
 | none =>
  refine no _ fun hd e=>?_
  obtain ⟨a',n',w',d',h',g',q,qa,qn,_,qw,qd,qh,qg⟩:=FJ e
  simp_all
 | some d' =>
 dsimp only
 cases ws with
 | nil=>rfl
 | cons h ws =>
 rw [if_neg (by simp),J3 t2 _ (hw h (by simp)).1 (hw h (by simp)).2]
 cases eh:BK 1 18 h with
 | none =>
  refine no _ fun hd e=>?_
  obtain ⟨a',n',w',d',h',g',q,qa,qn,_,qw,qd,qh,qg⟩:=FJ e
  simp_all
 | some h' =>
 dsimp only
 cases ws with
 | nil=>rfl
 | cons g ws =>
 rw [if_neg (by simp),afm t3 _ (hw g (by simp)).1 (hw g (by simp)).2]
 cases eg:BK 1 9999 g with
 | none =>
  refine no _ fun hd e=>?_
  obtain ⟨a',n',w',d',h',g',q,qa,qn,_,qw,qd,qh,qg⟩:=FJ e
  simp_all
 | some g' =>
 dsimp only
 cases ws with
 | nil =>
  subst ea
  rw [if_pos rfl,agk en ew ed eh eg]
  rfl
 | cons z ws=>rw [if_neg (by simp)]; rfl
theorem agi {row rest:Bytes} (h:10 ∉ row):Li (row ++ 10 :: rest)=Y5 (Kl row) fun hd=>Ym hd rest:=by
 rw [Ri]
 exact acS (fun w q=>N6 h q) (Er 32 row)
def Gz (w:Nat) (row:Bytes):Option (List Place):=match w,row with
 | 0,[]=>some []
 | 0,_ :: _=>none
 | _ + 1,[]=>none
 | w + 1,c :: r=>match placeOf c with
  | none=>none
  | some p=>match Gz w r with
   | none=>none
   | some l=>some (p :: l)
theorem afF:placeOf 10=none:=by decide
theorem adu {β:Type} (k:List Place->Ps β):∀ (w:Nat) (row rest:Bytes),10 ∉ row->Aj (Fy Gm w) (fun l=>Aj (Bs 10) fun _=>k l) (row ++ 10 :: rest)=Y5 (Gz w row) fun l=>k l rest
 | 0,[],rest,h=>by
  rw [Fy,Yt,List.nil_append]
  rw [Bk (abH 10 rest)]
  rfl
 | 0,a :: row,rest,h=>by
  rw [Fy,Yt,List.cons_append]
  rw [Bb (Hn (fun e=>h (by rw [e]; exact List.mem_cons_self ..)) _)]
  rfl
 | w + 1,[],rest,h=>by
  rw [Fy,Ed]
  show Aj Gm _ (10 :: rest)=_
  rw [Bb (by rw [Gm,afF])]
  rfl
 | w + 1,a :: row,rest,h=>by
  rw [Fy,Ed]
  show Aj Gm _ (a :: (row ++ 10 :: rest))=_
  rw [Gz]
  cases e:placeOf a with
  | none =>
   rw [Bb (by rw [Gm,e])]
   rfl
  | some p =>
   have e1:Gm (a :: (row ++ 10 :: rest))=some (p,row ++ 10 :: rest):=by rw [Gm,e]
   rw [Bk e1,Ed]
   have ih:=adu (fun l=>k (p :: l)) w row rest (fun z=>h (List.mem_cons_of_mem _ z))
   show Aj (Fy Gm w) (fun l=>Aj (Bs 10) fun _=>k (p :: l)) (row ++ 10 :: rest)=_
   rw [ih]
   cases Gz w row <;> rfl
theorem agV (w:Nat) {row rest:Bytes} (h:10 ∉ row):acz w (row ++ 10 :: rest)=(Gz w row).map fun l=>(l,rest):=by
 unfold acz
 rw [adu (fun l=>Eb l) w row rest h]
 cases Gz w row <;> rfl
def CZ (w:Nat):Nat->List Bytes->Option (List (List Place) × List Bytes)
 | 0,rs=>some ([],rs)
 | _ + 1,[]=>none
 | n + 1,r :: rs=>match Gz w r with
  | none=>none
  | some l=>match CZ w n rs with
   | none=>none
   | some (ls,rs')=>some (l :: ls,rs')
def Rows (rs:List Bytes) (tl:Bytes):Prop:=(∀ r ∈ rs,10 ∉ r)/\10 ∉ tl
theorem aeq {rs:List Bytes} {tl:Bytes} (h:Rows rs tl):∀ n,Rows (rs.drop n) tl:=fun n=>⟨fun r q=>h.1 r (List.mem_of_mem_drop q),h.2⟩
theorem Wl (w:Nat):∀ (n:Nat) (rs:List Bytes) (tl:Bytes),Rows rs tl->Fy (acz w) n (flat rs ++ tl)=(CZ w n rs).map fun x=>(x.1,flat x.2 ++ tl)
 | 0,rs,tl,h=>rfl
 | n + 1,[],tl,h=>by
  rw [Fy,CZ]
  exact Bb (ad0 w _ h.2)
 | n + 1,r :: rs,tl,h=>by
  rw [Fy,CZ,Em]
  have e1:=agV w (row:=r) (rest:=flat rs ++ tl) (h.1 r (List.mem_cons_self ..))
  cases e:Gz w r with
  | none =>
   rw [e] at e1
   rw [Bb e1]
   rfl
  | some l =>
   rw [e] at e1
   rw [Bk (x:=l) (t':=flat rs ++ tl) e1]
   have ih:=Wl w n rs tl ⟨fun r q=>h.1 r (List.mem_cons_of_mem _ q),h.2⟩
   dsimp only
   cases e2:CZ w n rs with
   | none =>
    rw [e2] at ih
    rw [Bb ih]
    rfl
   | some x =>
    rw [e2] at ih
    rw [Bk (x:=x.1) (t':=flat x.2 ++ tl) ih]
    rfl
def Hx:List Bytes->Option (Part × List Bytes)
 | []=>none
 | r :: rs=>match Kl r with
  | none=>none
  | some h=>match CZ h.wide (h.deep * h.high) rs with
   | none=>none
   | some (ls,rs')=>some (⟨h.name,h.wide,h.deep,h.high,h.weight,ls.flatten⟩,rs')
theorem VR {rs:List Bytes} {tl:Bytes} (h:Rows rs tl):Li (flat rs ++ tl)=(Hx rs).map fun x=>(x.1,flat x.2 ++ tl):=by
 cases rs with
 | nil=>exact abZ _ h.2
 | cons r rs =>
  rw [Em,agi (h.1 r (List.mem_cons_self ..)),Hx]
  cases e:Kl r with
  | none=>rfl
  | some hd =>
   show Ym hd (flat rs ++ tl)=_
   unfold Ym
   have e1:=Wl hd.wide (hd.deep * hd.high) rs tl ⟨fun r q=>h.1 r (List.mem_cons_of_mem _ q),h.2⟩
   dsimp only
   cases e2:CZ hd.wide (hd.deep * hd.high) rs with
   | none =>
    rw [e2] at e1
    rw [Bb e1]
    rfl
   | some x =>
    rw [e2] at e1
    rw [Bk (x:=x.1) (t':=flat x.2 ++ tl) e1]
    rfl
theorem Tj {w:Nat}:∀ {n:Nat} {rs:List Bytes} {ls:List (List Place)} {rs':List Bytes},CZ w n rs=some (ls,rs')->rs'=rs.drop n/\ls.length=n/\n <= rs.length
 | 0,rs,ls,rs',h=>by
  rw [CZ] at h
  cases h
  exact ⟨rfl,rfl,Nat.zero_le _⟩
 | n + 1,[],ls,rs',h=>by
  rw [CZ] at h
  cases h
 | n + 1,r :: rs,ls,rs',h=>by
  rw [CZ] at h
  cases e:Gz w r with
  | none=>rw [e] at h; cases h
  | some l =>
   rw [e] at h
   dsimp only at h
   cases e2:CZ w n rs with
   | none=>rw [e2] at h; cases h
   | some x =>
    rw [e2] at h
    obtain ⟨ls',akH⟩:=x
    cases h
    have:=Tj e2
    exact ⟨this.1,by simp [this.2.1],by simp; omega⟩
theorem Yq {rs:List Bytes} {p:Part} {rs':List Bytes} (h:Hx rs=some (p,rs')):rs'=rs.drop (1 + p.deep * p.high)/\1 + p.deep * p.high <= rs.length:=by
 cases rs with
 | nil=>cases h
 | cons r rs =>
  rw [Hx] at h
  cases e:Kl r with
  | none=>rw [e] at h; cases h
  | some hd =>
   rw [e] at h
   dsimp only at h
   cases e2:CZ hd.wide (hd.deep * hd.high) rs with
   | none=>rw [e2] at h; cases h
   | some x =>
    rw [e2] at h
    obtain ⟨ls,akH⟩:=x
    cases h
    have:=Tj e2
    exact ⟨by rw [Nat.add_comm,List.drop_succ_cons]; exact this.1,by simp; omega⟩
def Ds:Nat->List Bytes->Option (List Part)
 | _,[]=>some []
 | 0,_ :: _=>none
 | n + 1,r :: rs=>match Hx (r :: rs) with
  | none=>none
  | some (p,rs')=>match Ds n rs' with
   | none=>none
   | some l=>some (p :: l)
theorem Mt {rs rs':List Bytes} {tl:Bytes} {p:Part} (h:Rows rs tl) (e:Hx rs=some (p,rs')):Rows rs' tl:=by
 rw [(Yq e).1]
 exact aeq h _
theorem VP {tl:Bytes} (ht:tl ≠ []):∀ (n:Nat) (rs:List Bytes),Rows rs tl->Dl Li n (flat rs ++ tl)=none
 | 0,rs,h=>by
  rw [Dl]
  dsimp only
  rw [if_pos]
  cases rs with
  | nil=>cases tl with
   | nil=>exact absurd rfl ht
   | cons a b=>rfl
  | cons r rs=>rw [Em]; cases r <;> rfl
 | n + 1,rs,h=>by
  rw [Dl]
  dsimp only
  rw [if_pos]
  ·have e1:=VR h
   cases e:Hx rs with
   | none =>
    rw [e] at e1
    exact Bb e1
   | some x =>
    rw [e] at e1
    rw [Bk (x:=x.1) (t':=flat x.2 ++ tl) e1]
    exact Bb (VP ht n x.2 (Mt h (p:=x.1) e))
  ·cases rs with
   | nil=>cases tl with
    | nil=>exact absurd rfl ht
    | cons a b=>rfl
   | cons r rs=>rw [Em]; cases r <;> rfl
theorem MF (r:Bytes) (rest:Bytes):(r ++ 10 :: rest).head?.isSome=true:=by cases r <;> rfl
theorem Yp:∀ (n:Nat) (rs:List Bytes),Rows rs []->Dl Li n (flat rs)=(Ds n rs).map fun l=>(l,[])
 | 0,[],h=>rfl
 | n + 1,[],h=>rfl
 | 0,r :: rs,h=>by
  rw [Dl,Ds]
  dsimp only
  rw [<- List.append_nil (flat (r :: rs)),Em,if_pos (MF _ _)]
  rfl
 | n + 1,r :: rs,h=>by
  rw [Dl,Ds]
  dsimp only
  have e1:=VR h
  rw [List.append_nil] at e1
  rw [if_pos (by rw [<- List.append_nil (flat (r :: rs)),Em]; exact MF _ _)]
  cases e:Hx (r :: rs) with
  | none =>
   rw [e] at e1
   rw [Bb e1]
   rfl
  | some x =>
   rw [e] at e1
   obtain ⟨p,rs'⟩:=x
   rw [Bk (x:=p) (t':=flat rs' ++ []) e1,List.append_nil]
   have ih:=Yp n rs' (Mt h e)
   dsimp only
   cases e2:Ds n rs' with
   | none =>
    rw [e2] at ih
    rw [Bb ih]
    rfl
   | some l =>
    rw [e2] at ih
    rw [Bk (x:=l) (t':=[]) ih]
    rfl
def ae0 (rs:List Bytes):Option (List Part):=match rs with
 | []=>none
 | r :: rs=>Ds 64 (r :: rs)
theorem ahA {rs:List Bytes} {tl:Bytes} (h:Rows rs tl):readM Qj (flat rs ++ tl)=if tl=[] then ae0 rs else none:=by
 unfold readM Qj
 have e1:=VR h
 by_cases ht:tl=[]
 ·subst ht
  rw [if_pos rfl]
  cases rs with
  | nil=>rfl
  | cons r rs =>
   rw [ae0,Ds]
   cases e:Hx (r :: rs) with
   | none =>
    rw [e] at e1
    rw [Bb e1]
    rfl
   | some x =>
    rw [e] at e1
    obtain ⟨p,rs'⟩:=x
    rw [Bk (x:=p) (t':=flat rs' ++ []) e1,List.append_nil]
    have ih:=Yp 63 rs' (Mt h e)
    dsimp only
    cases e2:Ds 63 rs' with
    | none =>
     rw [e2] at ih
     rw [Bb ih]
     rfl
    | some l =>
     rw [e2] at ih
     rw [Bk (x:=l) (t':=[]) ih]
     rfl
 ·rw [if_neg ht]
  cases e:Hx rs with
  | none =>
   rw [e] at e1
   rw [Bb e1]
   rfl
  | some x =>
   rw [e] at e1
   rw [Bk (x:=x.1) (t':=flat x.2 ++ tl) e1,Bb (VP ht 63 x.2 (Mt h (p:=x.1) e))]
   rfl
def Hy (names:List Bytes) (ws:List Bytes):Option Line:=match ws with
 | [a,p,k,x,y,z,r]=>if a=ascii "put" then (match GQ names p with
  | none=>none
  | some p=>match BK 0 255 k with
   | none=>none
   | some k=>match BK 0 63 x with
    | none=>none
    | some x=>match BK 0 63 y with
     | none=>none
     | some y=>match BK 0 95 z with
      | none=>none
      | some z=>match BK 0 3 r with
       | none=>none
       | some r=>some ⟨p,k,x,y,z,r⟩) else none
 | _=>none
theorem Fz {names ws:List Bytes} {l:Line} (e:Hy names ws=some l):∃ a p k x y z r,ws=[a,p,k,x,y,z,r]/\a=ascii "put" /\ GQ names p=some l.part/\BK 0 255 k=some l.colour/\BK 0 63 x=some l.x/\BK 0 63 y=some l.y/\BK 0 95 z=some l.z/\BK 0 3 r=some l.r:=by
 unfold Hy at e
 split at e
 ·rename_i a p k x y z r
  refine ⟨a,p,k,x,y,z,r,rfl,?_⟩
  split at e
  ·cases ep:GQ names p with
   | none=>rw [ep] at e; cases e
   | some p' =>
   cases ek:BK 0 255 k with
   | none=>rw [ep,ek] at e; cases e
   | some k' =>
   cases ex:BK 0 63 x with
   | none=>rw [ep,ek,ex] at e; cases e
   | some x' =>
   cases ey:BK 0 63 y with
   | none=>rw [ep,ek,ex,ey] at e; cases e
   | some y' =>
   cases ez:BK 0 95 z with
   | none=>rw [ep,ek,ex,ey,ez] at e; cases e
   | some z' =>
   cases er:BK 0 3 r with
   | none=>rw [ep,ek,ex,ey,ez,er] at e; cases e
   | some r' =>
   rw [ep,ek,ex,ey,ez,er] at e
   cases e
   exact ⟨by assumption,rfl,rfl,rfl,rfl,rfl,rfl⟩
  ·cases e
 ·cases e
theorem af3 {names:List Bytes} {p k x y z r:Bytes} {p' k' x' y' z' r':Nat} (ep:GQ names p=some p') (ek:BK 0 255 k=some k') (ex:BK 0 63 x=some x') (ey:BK 0 63 y=some y') (ez:BK 0 95 z=some z') (er:BK 0 3 r=some r') :
  Hy names [ascii "put",p,k,x,y,z,r] = some ⟨p',k',x',y',z',r'⟩:=by
 unfold Hy
 dsimp only
 rw [if_pos rfl,ep,ek,ex,ey,ez,er]
def namesOf (c:Catalogue):List Bytes:=c.map fun (p:Part)=>p.name
def QF (names:List Bytes):Prop:=∀ n ∈ names,n.length <= 8/\32 ∉ n/\10 ∉ n
theorem ahe (c:Catalogue):Kf c=Aj (CQ (ascii "put")) fun _=>Aj (Bs 32) fun _=>Aj (BX (namesOf c) 8 []) fun p=>Aj (Bs 32) fun _=>Aj (pNum 0 255) fun k=>Aj (Bs 32) fun _=>Aj (pNum 0 63) fun x=>Aj (Bs 32) fun _ =>
  Aj (pNum 0 63) fun y=>Aj (Bs 32) fun _=>Aj (pNum 0 95) fun z=>Aj (Bs 32) fun _=>Aj (pNum 0 3) fun r=>Aj (Bs 10) fun _=>Eb (⟨p,k,x,y,z,r⟩:Line):=by
 unfold Kf
 have e:ascii "put " = ascii "put" ++ [32]:=by decide
 rw [e,Mh]
 simp only [NQ]
 rfl
theorem acN {c:Catalogue} (hc:QF (namesOf c)) {ws:List Bytes} {rest:Bytes} (hw:∀ w ∈ ws,32 ∉ w/\10 ∉ w) (hne:ws ≠ []):Kf c (J1 rest ws)=(Hy (namesOf c) ws).map fun l=>(l,rest):=by
 rw [ahe]
 have tb:Tok (CQ (ascii "put")) (eqB (ascii "put")):=Mm _ (by decide) (by decide)
 have tn:Tok (BX (namesOf c) 8 []) (GQ (namesOf c)):=aec _ hc
 have t1:Tok (pNum 0 255) (BK 0 255):=JF (by decide) (by decide)
 have t2:Tok (pNum 0 63) (BK 0 63):=JF (by decide) (by decide)
 have t3:Tok (pNum 0 95) (BK 0 95):=JF (by decide) (by decide)
 have t4:Tok (pNum 0 3) (BK 0 3):=JF (by decide) (by decide)
 have no:∀ vs:List Bytes,(∀ hd,Hy (namesOf c) vs=some hd->False)->(none:Option (Line × Bytes))=(Hy (namesOf c) vs).map fun l=>(l,rest):=fun vs h=>by
  cases e:Hy (namesOf c) vs with
  | none=>rfl
  | some hd=>exact (h hd e).elim
 cases ws with
 | nil=>exact absurd rfl hne
 | cons a ws =>
 rw [J3 tb _ (hw a (by simp)).1 (hw a (by simp)).2]
 unfold eqB
 by_cases ea:a=ascii "put"
 case neg =>
  rw [if_neg ea]
  refine no _ fun hd e=>?_
  obtain ⟨a',p',k',x',y',z',r',q,qa,qp,qk,qx,qy,qz,qr⟩:=Fz e
  simp_all
 rw [if_pos ea]
 dsimp only
 cases ws with
 | nil=>rfl
 | cons p ws =>
 rw [if_neg (by simp),J3 tn _ (hw p (by simp)).1 (hw p (by simp)).2]
 cases ep:GQ (namesOf c) p with
 | none =>
  refine no _ fun hd e=>?_
  obtain ⟨a',p',k',x',y',z',r',q,qa,qp,qk,qx,qy,qz,qr⟩:=Fz e
  simp_all
 | some p' =>
 dsimp only
 cases ws with
 | nil=>rfl
 | cons k ws =>
 rw [if_neg (by simp),J3 t1 _ (hw k (by simp)).1 (hw k (by simp)).2]
 cases ek:BK 0 255 k with
 | none =>
  refine no _ fun hd e=>?_
  obtain ⟨a',p',k',x',y',z',r',q,qa,qp,qk,qx,qy,qz,qr⟩:=Fz e
  simp_all
 | some k' =>
 dsimp only
 cases ws with
 | nil=>rfl
 | cons x ws =>
 rw [if_neg (by simp),J3 t2 _ (hw x (by simp)).1 (hw x (by simp)).2]
 cases ex:BK 0 63 x with
 | none =>
  refine no _ fun hd e=>?_
  obtain ⟨a',p',k',x',y',z',r',q,qa,qp,qk,qx,qy,qz,qr⟩:=Fz e
  simp_all
 | some x' =>
 dsimp only
 cases ws with
 | nil=>rfl
 | cons y ws =>
 rw [if_neg (by simp),J3 t2 _ (hw y (by simp)).1 (hw y (by simp)).2]
 cases ey:BK 0 63 y with
 | none =>
  refine no _ fun hd e=>?_
  obtain ⟨a',p',k',x',y',z',r',q,qa,qp,qk,qx,qy,qz,qr⟩:=Fz e
  simp_all
 | some y' =>
 dsimp only
 cases ws with
 | nil=>rfl
 | cons z ws =>
 rw [if_neg (by simp),J3 t3 _ (hw z (by simp)).1 (hw z (by simp)).2]
 cases ez:BK 0 95 z with
 | none =>
  refine no _ fun hd e=>?_
  obtain ⟨a',p',k',x',y',z',r',q,qa,qp,qk,qx,qy,qz,qr⟩:=Fz e
  simp_all
 | some z' =>
 dsimp only
 cases ws with
 | nil=>rfl
 | cons r ws =>
 rw [if_neg (by simp),afm t4 _ (hw r (by simp)).1 (hw r (by simp)).2]
 cases er:BK 0 3 r with
 | none =>
  refine no _ fun hd e=>?_
  obtain ⟨a',p',k',x',y',z',r',q,qa,qp,qk,qx,qy,qz,qr⟩:=Fz e
  simp_all
 | some r' =>
 dsimp only
 cases ws with
 | nil =>
  subst ea
  rw [if_pos rfl,af3 ep ek ex ey ez er]
  rfl
 | cons z ws=>rw [if_neg (by simp)]; rfl
def Ls (c:Catalogue) (row:Bytes):Option Line:=Hy (namesOf c) (split 32 row)
theorem af1 {c:Catalogue} (hc:QF (namesOf c)) {row rest:Bytes} (h:10 ∉ row):Kf c (row ++ 10 :: rest)=(Ls c row).map fun l=>(l,rest):=by
 rw [Ri]
 exact acN hc (fun w q=>N6 h q) (Er 32 row)
def Hb (c:Catalogue):Nat->List Bytes->Option (List Line)
 | _,[]=>some []
 | 0,_ :: _=>none
 | n + 1,r :: rs=>match Ls c r with
  | none=>none
  | some p=>match Hb c n rs with
   | none=>none
   | some l=>some (p :: l)
theorem YC {c:Catalogue} (hc:QF (namesOf c)) {tl:Bytes}:∀ (n:Nat) (rs:List Bytes),Rows rs tl->Dl (Kf c) n (flat rs ++ tl)=if tl=[] then (Hb c n rs).map (fun l=>(l,[])) else none
 | 0,[],h=>by
  rw [Dl]
  cases tl with
  | nil=>rfl
  | cons a b=>rfl
 | n + 1,[],h=>by
  rw [Dl]
  cases tl with
  | nil=>rfl
  | cons a b =>
   show (if true=true then _ else _)=_
   rw [if_pos rfl,if_neg (by simp)]
   exact Bb (ab0 c _ h.2)
 | 0,r :: rs,h=>by
  rw [Dl,Hb,Em]
  dsimp only
  rw [if_pos (MF _ _)]
  by_cases e:tl=[]
  ·rw [if_pos e]; rfl
  ·rw [if_neg e]
 | n + 1,r :: rs,h=>by
  rw [Dl,Hb,Em]
  dsimp only
  rw [if_pos (MF _ _)]
  have e1:=af1 hc (row:=r) (rest:=flat rs ++ tl) (h.1 r (List.mem_cons_self ..))
  have ih:=YC hc (tl:=tl) n rs ⟨fun r q=>h.1 r (List.mem_cons_of_mem _ q),h.2⟩
  cases e:Ls c r with
  | none =>
   rw [e] at e1
   rw [Bb e1]
   by_cases e:tl=[]
   ·rw [if_pos e]; rfl
   ·rw [if_neg e]
  | some l =>
   rw [e] at e1
   rw [Bk (x:=l) (t':=flat rs ++ tl) e1]
   dsimp only
   by_cases e:tl=[]
   ·rw [if_pos e] at ih
    rw [if_pos e]
    cases e2:Hb c n rs with
    | none =>
     rw [e2] at ih
     rw [Bb ih]
     rfl
    | some ls =>
     rw [e2] at ih
     rw [Bk (x:=ls) (t':=[]) ih]
     rfl
   ·rw [if_neg e] at ih
    rw [if_neg e]
    exact Bb ih
def Mj (ws:List Bytes):Option Bytes:=match ws with
 | [a,n]=>if a=ascii "build" then (if Gr 15 n=true then some n else none) else none
 | _=>none
def Iv (row:Bytes):Option Bytes:=Mj (split 32 row)
def WN (c:Catalogue) (rs:List Bytes):Option Build:=match rs with
 | []=>none
 | r :: rs=>match Iv r with
  | none=>none
  | some n=>match Hb c 256 rs with
   | none=>none
   | some l=>some ⟨n,l⟩
theorem abI {β:Type} (k:Bytes->Ps β) {ws:List Bytes} {rest:Bytes} (hw:∀ w ∈ ws,32 ∉ w/\10 ∉ w) (hne:ws ≠ []) :
  (Aj (CQ (ascii "build")) fun _=>Aj (Bs 32) fun _=>Aj (FZ 15) fun n=>Aj (Bs 10) fun _=>k n) (J1 rest ws)=Y5 (Mj ws) fun n=>k n rest:=by
 have tb:Tok (CQ (ascii "build")) (eqB (ascii "build")):=Mm _ (by decide) (by decide)
 have tn:Tok (FZ 15) (nmB (Gr 15)):=aaz 15
 cases ws with
 | nil=>exact absurd rfl hne
 | cons a ws =>
 rw [J3 tb _ (hw a (by simp)).1 (hw a (by simp)).2]
 unfold eqB Mj
 by_cases ea:a=ascii "build"
 case neg =>
  rw [if_neg ea]
  match ws with
  | []=>rfl
  | [n]=>dsimp only; rw [if_neg ea]; rfl
  | _ :: _ :: _=>rfl
 rw [if_pos ea]
 dsimp only
 match ws,hw with
 | [],_=>rfl
 | n :: ws,hw =>
 rw [if_neg (by simp),afm tn _ (hw n (by simp)).1 (hw n (by simp)).2]
 unfold nmB
 by_cases en:Gr 15 n=true
 ·rw [if_pos en]
  match ws with
  | []=>dsimp only; rw [if_pos rfl,if_pos ea,if_pos en]; rfl
  | _ :: _=>rfl
 ·rw [if_neg en]
  match ws with
  | []=>dsimp only; rw [if_pos ea,if_neg en]; rfl
  | _ :: _=>rfl
theorem ae3 {c:Catalogue} (hc:QF (namesOf c)) {rs:List Bytes} {tl:Bytes} (h:Rows rs tl):readM (Ex c) (flat rs ++ tl)=if tl=[] then WN c rs else none:=by
 unfold readM
 cases rs with
 | nil =>
  rw [show Ex c (flat [] ++ tl)=none from aau c _ h.2]
  by_cases e:tl=[]
  ·rw [if_pos e]; rfl
  ·rw [if_neg e]; rfl
 | cons r rs =>
  rw [Em]
  have e0:Ex c=(Aj (CQ (ascii "build")) fun _=>Aj (Bs 32) fun _=>Aj (FZ 15) fun n=>Aj (Bs 10) fun _=>Aj (Dl (Kf c) 256) fun l=>Eb (⟨n,l⟩:Build)):=by
   unfold Ex
   have e:ascii "build " = ascii "build" ++ [32]:=by decide
   rw [e,Mh]
  have h1:=h.1 r (List.mem_cons_self ..)
  rw [e0,Ri,abI _ (fun w q=>N6 h1 q) (Er 32 r),WN]
  show (Y5 (Iv r) _).map _=_
  cases e:Iv r with
  | none =>
   by_cases e:tl=[]
   ·rw [if_pos e]; rfl
   ·rw [if_neg e]; rfl
  | some n =>
   have e1:=YC hc (tl:=tl) 256 rs ⟨fun r q=>h.1 r (List.mem_cons_of_mem _ q),h.2⟩
   show (Aj (Dl (Kf c) 256) _ (flat rs ++ tl)).map _=_
   by_cases e:tl=[]
   ·rw [if_pos e] at e1 ⊢
    cases e2:Hb c 256 rs with
    | none =>
     rw [e2] at e1
     rw [Bb e1]
     rfl
    | some ls =>
     rw [e2] at e1
     rw [Bk (x:=ls) (t':=[]) e1]
     rfl
   ·rw [if_neg e] at e1 ⊢
    rw [Bb e1]
    rfl
theorem NP {t:Bytes} {rs:List Bytes} {tl:Bytes} (h:split 10 t=rs ++ [tl]):t=flat rs ++ tl/\Rows rs tl:=by
 refine ⟨?_,fun r q=>(split_free (t:=t) (by rw [h]; exact List.mem_append_left _ q)).1,(split_free (t:=t) (by rw [h]; simp)).1⟩
 rw [<- Tp,<- h,JW]
theorem HB {α:Type} (d:Nat) (f:Nat->Nat->α):∀ h:Nat,((List.range h).flatMap fun z=>(List.range d).map (f z))=(List.range (h * d)).map fun i=>f (i / d) (i % d)
 | 0=>by simp
 | h + 1=>by
  rw [List.range_succ,List.flatMap_append,HB d f h,Nat.succ_mul,List.range_add,List.map_append]
  congr 1
  rw [List.map_map]
  simp only [List.flatMap_cons,List.flatMap_nil,List.append_nil]
  refine List.map_congr_left fun i hi=>?_
  have hd:=List.mem_range.mp hi
  show f h i=f ((h * d + i) / d) ((h * d + i) % d)
  rw [Nat.mul_comm h d,Nat.mul_add_div (by omega),Nat.mul_add_mod,Nat.div_eq_of_lt hd,Nat.mod_eq_of_lt hd,Nat.add_zero]
def FQ (w d i:Nat):Spot:=(i % w,i / w % d,i / w / d)
theorem Pb (p:Part):p.spots=(List.range (p.high * p.deep * p.wide)).map (FQ p.wide p.deep):=by
 unfold Part.spots
 have e:∀ z:Nat,((List.range p.deep).flatMap fun (y:Nat)=>(List.range p.wide).map fun (x:Nat)=>(x,y,z))=(List.range (p.deep * p.wide)).map fun i=>(i % p.wide,i / p.wide,z):=fun z =>
  HB p.wide (fun y x=>(x,y,z)) p.deep
 simp only [e]
 rw [HB (p.deep * p.wide) (fun z i=>(i % p.wide,i / p.wide,z)) p.high,Nat.mul_assoc]
 refine List.map_congr_left fun i hi=>?_
 show (i % (p.deep * p.wide) % p.wide,i % (p.deep * p.wide) / p.wide,i / (p.deep * p.wide))=(i % p.wide,i / p.wide % p.deep,i / p.wide / p.deep)
 rw [Nat.mul_comm p.deep p.wide,Nat.mod_mul_right_mod,Nat.mod_mul_right_div_self,Nat.div_div_eq_div_mul]
theorem Pg {w d x y z:Nat} (hx:x < w) (hy:y < d):FQ w d ((z * d + y) * w + x)=(x,y,z):=by
 unfold FQ
 have e1:((z * d + y) * w + x) % w=x:=by rw [Nat.mul_comm,Nat.mul_add_mod,Nat.mod_eq_of_lt hx]
 have e2:((z * d + y) * w + x) / w=z * d + y:=by rw [Nat.mul_comm,Nat.mul_add_div (by omega),Nat.div_eq_of_lt hx,Nat.add_zero]
 have e3:(z * d + y) % d=y:=by rw [Nat.mul_comm,Nat.mul_add_mod,Nat.mod_eq_of_lt hy]
 have e4:(z * d + y) / d=z:=by rw [Nat.mul_comm,Nat.mul_add_div (by omega),Nat.div_eq_of_lt hy,Nat.add_zero]
 rw [e1,e2,e3,e4]
theorem aga {w d h x y z:Nat} (hx:x < w) (hy:y < d) (hz:z < h):(z * d + y) * w + x < h * d * w:=by
 have h1:z * d + y + 1 <= h * d:=by
  have:(z + 1) * d <= h * d:=Nat.mul_le_mul_right d hz
  rw [Nat.succ_mul] at this
  omega
 have h2:(z * d + y + 1) * w <= h * d * w:=Nat.mul_le_mul_right w h1
 rw [Nat.succ_mul] at h2
 omega
theorem acR {w d h i:Nat} (hi:i < h * d * w):∃ x y z,x < w/\y < d/\z < h/\i=(z * d + y) * w + x:=by
 have hw:0 < w:=by
  rcases Nat.eq_zero_or_pos w with rfl | h
  ·simp at hi
  ·exact h
 have hd:0 < d:=by
  rcases Nat.eq_zero_or_pos d with rfl | h
  ·simp at hi
  ·exact h
 refine ⟨i % w,i / w % d,i / w / d,Nat.mod_lt _ hw,Nat.mod_lt _ hd,?_,?_⟩
 ·rw [Nat.div_div_eq_div_mul]
  refine Nat.div_lt_of_lt_mul ?_
  rw [Nat.mul_comm w d]
  calc i < h * d * w:=hi
   _=d * w * h:=by rw [Nat.mul_assoc,Nat.mul_comm]
 ·have e1:=Nat.div_add_mod i w
  have e2:=Nat.div_add_mod (i / w) d
  rw [Nat.mul_comm] at e1 e2
  rw [e2,e1]
def Full (p:Part):Prop:=p.places.length=p.wide * p.deep * p.high
theorem afg {p:Part} (hf:Full p) {x y z:Nat} (hx:x < p.wide) (hy:y < p.deep) (hz:z < p.high):(p.spots.zip p.places)[(z * p.deep + y) * p.wide + x]? = some ((x,y,z),p.at_ x y z):=by
 have hi:=aga hx hy hz
 rw [List.getElem?_zip_eq_some]
 constructor
 ·rw [Pb,List.getElem?_map,List.getElem?_range hi]
  show some (FQ _ _ _)=_
  rw [Pg hx hy]
 ·have hl:(z * p.deep + y) * p.wide + x < p.places.length:=by
   rw [hf,Nat.mul_comm (p.wide * p.deep),Nat.mul_comm p.wide,<- Nat.mul_assoc]; exact hi
  unfold Part.at_
  rw [if_pos ⟨hx,hy,hz⟩,List.getElem?_eq_getElem hl,List.getD_eq_getElem?_getD,List.getElem?_eq_getElem hl]
  rfl
theorem UT {p:Part} (hf:Full p) {s:Spot} {q:Place}:(s,q) ∈ p.spots.zip p.places ↔ s.1 < p.wide/\s.2.1 < p.deep/\s.2.2 < p.high/\q=p.at_ s.1 s.2.1 s.2.2:=by
 constructor
 ·intro h
  obtain ⟨i,hi⟩:=List.mem_iff_getElem?.mp h
  have hl:i < p.high * p.deep * p.wide:=by
   have:=(List.getElem?_zip_eq_some.mp hi).1
   rw [Pb,List.getElem?_map] at this
   rcases Nat.lt_or_ge i (p.high * p.deep * p.wide) with h | h
   ·exact h
   ·rw [List.getElem?_eq_none (by rw [List.length_range]; exact h)] at this
    cases this
  obtain ⟨x,y,z,hx,hy,hz,rfl⟩:=acR hl
  rw [afg hf hx hy hz] at hi
  cases hi
  exact ⟨hx,hy,hz,rfl⟩
 ·rintro ⟨hx,hy,hz,rfl⟩
  exact List.mem_of_getElem? (afg hf hx hy hz)
theorem adV {p:Part} {x y z:Nat} (h:(p.at_ x y z).isCell=true):x < p.wide/\y < p.deep/\z < p.high:=by
 unfold Part.at_ at h
 split at h
 ·assumption
 ·cases h
theorem V8 {p:Part} (hf:Full p) {f:Place->Bool} (h0:f .none=false) {s:Spot}:s ∈ p.such f ↔ f (p.at_ s.1 s.2.1 s.2.2)=true:=by
 unfold Part.such
 rw [List.mem_map]
 constructor
 ·rintro ⟨⟨s',q⟩,hm,rfl⟩
  rw [List.mem_filter] at hm
  obtain ⟨_,_,_,rfl⟩:=(UT hf).mp hm.1
  exact hm.2
 ·intro h
  have hr:s.1 < p.wide/\s.2.1 < p.deep/\s.2.2 < p.high:=by
   unfold Part.at_ at h
   split at h
   ·assumption
   ·rw [h0] at h; cases h
  exact ⟨(s,p.at_ s.1 s.2.1 s.2.2),List.mem_filter.mpr ⟨(UT hf).mpr ⟨hr.1,hr.2.1,hr.2.2,rfl⟩,h⟩,rfl⟩
theorem Mz {p:Part} (hf:Full p) {s:Spot}:s ∈ p.cells ↔ (p.at_ s.1 s.2.1 s.2.2).isCell=true:=V8 hf rfl
theorem Jm {p:Part} (hf:Full p) {s:Spot}:s ∈ p.studs ↔ (p.at_ s.1 s.2.1 s.2.2).stud=true:=V8 hf rfl
theorem My {p:Part} (hf:Full p) {s:Spot}:s ∈ p.tubes ↔ (p.at_ s.1 s.2.1 s.2.2).tube=true:=V8 hf rfl
theorem Hq {α β:Type} {f:α->β} {l:List α} (h:l.Nodup) (inj:∀ a ∈ l,∀ b ∈ l,f a=f b->a=b):(l.map f).Nodup:=by
 induction l with
 | nil=>simp
 | cons a l ih =>
  rw [List.map_cons,List.nodup_cons]
  rw [List.nodup_cons] at h
  refine ⟨fun hm=>?_,ih h.2 fun a ha b hb=>inj a (List.mem_cons_of_mem _ ha) b (List.mem_cons_of_mem _ hb)⟩
  obtain ⟨b,hb,e⟩:=List.mem_map.mp hm
  have:=inj b (List.mem_cons_of_mem _ hb) a (List.mem_cons_self ..) e
  rw [this] at hb
  exact h.1 hb
theorem aaF (p:Part):p.spots.Nodup:=by
 rw [Pb]
 refine Hq List.nodup_range fun a ha b hb e=>?_
 obtain ⟨x,y,z,hx,hy,hz,rfl⟩:=acR (List.mem_range.mp ha)
 obtain ⟨x',y',z',hx',hy',hz',rfl⟩:=acR (List.mem_range.mp hb)
 rw [Pg hx hy,Pg hx' hy'] at e
 cases e
 rfl
abbrev P3:=Int × Int × Int
def up (s:Spot):P3:=(s.1,s.2.1,s.2.2)
theorem Ik {s t:Spot} (h:up s=up t):s=t:=by
 unfold up at h
 obtain ⟨a,b,c⟩:=s
 obtain ⟨a',b',c'⟩:=t
 simp only [Prod.mk.injEq] at h ⊢
 omega
def entry (x:Spot × Place):P3 × Int:=(up x.1,(x.2.byte.toNat:Int))
def entries (l:List (Spot × Place)):List (P3 × Int):=(l.filter fun x=>x.2.isCell).map entry
def cellsOf (p:Part):List (P3 × Int):=entries (p.spots.zip p.places)
theorem Fe (p:Part):(cellsOf p).map (·.1)=p.cells.map up:=by
 unfold cellsOf entries Part.cells Part.such
 rw [List.map_map,List.map_map]
 rfl
def Dr (s:Int):Bool:=s == 115 || s == 98
def Dq (s:Int):Bool:=s == 116 || s == 98
theorem M3 (q:Place):Dr (q.byte.toNat:Int)=q.stud:=by
 cases q with
 | none=>rfl
 | cell s t=>cases s <;> cases t <;> rfl
theorem MT (q:Place):Dq (q.byte.toNat:Int)=q.tube:=by
 cases q with
 | none=>rfl
 | cell s t=>cases s <;> cases t <;> rfl
theorem DG {p:Part} (hf:Full p) {q:P3} {s:Int}:(q,s) ∈ cellsOf p ↔ ∃ a:Spot,q=up a/\(p.at_ a.1 a.2.1 a.2.2).isCell=true/\s=((p.at_ a.1 a.2.1 a.2.2).byte.toNat:Int):=by
 unfold cellsOf entries
 rw [List.mem_map]
 constructor
 ·rintro ⟨⟨a,pl⟩,hm,e⟩
  rw [List.mem_filter] at hm
  obtain ⟨_,_,_,rfl⟩:=(UT hf).mp hm.1
  cases e
  exact ⟨a,rfl,hm.2,rfl⟩
 ·rintro ⟨a,rfl,hc,rfl⟩
  obtain ⟨hx,hy,hz⟩:=adV hc
  exact ⟨(a,p.at_ a.1 a.2.1 a.2.2),List.mem_filter.mpr ⟨(UT hf).mpr ⟨hx,hy,hz,rfl⟩,hc⟩,rfl⟩
theorem R1 {α β:Type}:∀ (l:List α) (m:List β),List.Sublist ((l.zip m).map (·.1)) l
 | [],_=>by simp
 | _ :: _,[]=>by simp
 | a :: l,b :: m=>by simp [R1 l m]
theorem TF (p:Part):p.cells.Nodup:=by
 unfold Part.cells Part.such
 have h:((p.spots.zip p.places).map (·.1)).Nodup:=by
  exact List.Nodup.sublist (R1 _ _) (aaF p)
 exact List.Nodup.sublist (List.Sublist.map _ List.filter_sublist) h
theorem keys_nodup (p:Part):((cellsOf p).map (·.1)).Nodup:=by
 rw [Fe]
 exact Hq (TF p) fun a _ b _ e=>Ik e
theorem mem_keys {p:Part} (hf:Full p) {q:P3}:q ∈ (cellsOf p).map (·.1) ↔ ∃ a:Spot,q=up a/\(p.at_ a.1 a.2.1 a.2.2).isCell=true:=by
 rw [Fe,List.mem_map]
 constructor
 ·rintro ⟨a,h,rfl⟩
  exact ⟨a,rfl,(Mz hf).mp h⟩
 ·rintro ⟨a,rfl,h⟩
  exact ⟨a,(Mz hf).mpr h,rfl⟩
def mv (q:P3) (x y z:Int):P3:=(q.1 + x,q.2.1 + y,q.2.2 + z)
def Du (ks:List P3) (x:P3 × Int):Bool:=Dr x.2 && decide (mv x.1 0 0 1 ∈ ks)
def DX (ks:List P3) (x:P3 × Int):Bool:=Dq x.2 && decide (mv x.1 0 0 (-1) ∈ ks)
theorem Vj {p:Part} (hf:Full p):p.studsOk = !((cellsOf p).any (Du ((cellsOf p).map (·.1)))):=by
 rw [Bool.eq_iff_iff,Bool.not_eq_true',List.any_eq_false]
 unfold Part.studsOk
 rw [List.all_eq_true]
 constructor
 ·rintro h ⟨q,s⟩ hm
  obtain ⟨a,rfl,hc,rfl⟩:=(DG hf).mp hm
  unfold Du
  rw [M3]
  intro hb
  rw [Bool.and_eq_true,decide_eq_true_eq,mem_keys hf] at hb
  obtain ⟨h1,b,e,hb⟩:=hb
  have:=h a ((Jm hf).mpr h1)
  have eb:b=(a.1,a.2.1,a.2.2 + 1):=by
   refine Ik (e.symm.trans ?_)
   unfold mv up
   simp
  subst eb
  rw [hb] at this
  cases this
 ·intro h a ha
  have ha':=(Jm hf).mp ha
  have hc:(p.at_ a.1 a.2.1 a.2.2).isCell=true:=by
   cases e:p.at_ a.1 a.2.1 a.2.2 with
   | none=>rw [e] at ha'; cases ha'
   | cell _ _=>rfl
  have:=h _ ((DG hf).mpr ⟨a,rfl,hc,rfl⟩)
  unfold Du at this
  rw [M3,ha',Bool.true_and,decide_eq_true_eq,mem_keys hf] at this
  cases e:(p.at_ a.1 a.2.1 (a.2.2 + 1)).isCell with
  | false=>rfl
  | true =>
   exfalso
   refine this ⟨(a.1,a.2.1,a.2.2 + 1),?_,e⟩
   unfold mv up
   simp
theorem ab9 {p:Part} (hf:Full p):p.tubesOk = !((cellsOf p).any (DX ((cellsOf p).map (·.1)))):=by
 rw [Bool.eq_iff_iff,Bool.not_eq_true',List.any_eq_false]
 unfold Part.tubesOk
 rw [List.all_eq_true]
 constructor
 ·rintro h ⟨q,s⟩ hm
  obtain ⟨a,rfl,hc,rfl⟩:=(DG hf).mp hm
  unfold DX
  rw [MT]
  intro hb
  rw [Bool.and_eq_true,decide_eq_true_eq,mem_keys hf] at hb
  obtain ⟨h1,b,e,hb⟩:=hb
  have:=h a ((My hf).mpr h1)
  obtain ⟨a1,a2,a3⟩:=a
  obtain ⟨b1,b2,b3⟩:=b
  unfold mv up at e
  simp only [Prod.mk.injEq] at e
  have e1:b1=a1:=by omega
  have e2:b2=a2:=by omega
  have e3:b3=a3 - 1:=by omega
  have e4:a3 ≠ 0:=by omega
  subst e1 e2 e3
  simp only at hb this
  rw [hb] at this
  simp [e4] at this
 ·intro h a ha
  have ha':=(My hf).mp ha
  have hc:(p.at_ a.1 a.2.1 a.2.2).isCell=true:=by
   cases e:p.at_ a.1 a.2.1 a.2.2 with
   | none=>rw [e] at ha'; cases ha'
   | cell _ _=>rfl
  have:=h _ ((DG hf).mpr ⟨a,rfl,hc,rfl⟩)
  unfold DX at this
  rw [MT,ha',Bool.true_and,decide_eq_true_eq,mem_keys hf] at this
  by_cases z:a.2.2=0
  ·simp [z]
  ·cases e:(p.at_ a.1 a.2.1 (a.2.2 - 1)).isCell with
   | false=>simp
   | true =>
    exfalso
    refine this ⟨(a.1,a.2.1,a.2.2 - 1),?_,e⟩
    unfold mv up
    simp
    omega
def ax (i:Nat) (q:P3):Int:=if i=0 then q.1 else if i=1 then q.2.1 else q.2.2
def Eo (ks:List P3) (i:Nat) (n:Int):Bool:=decide ((0:Int) ∈ ks.map (ax i)) && decide (n - 1 ∈ ks.map (ax i))
theorem RZ {p:Part} {f:Spot->Nat} {g:P3->Int} (hg:∀ s,g (up s)=(f s:Int)) {b:Spot->Bool} {n:Int} (hb:∀ s,b s=true ↔ ((f s:Nat):Int)=n):(p.cells.any b)=decide (n ∈ ((cellsOf p).map (·.1)).map g):=by
 rw [Bool.eq_iff_iff,decide_eq_true_eq,List.any_eq_true,Fe,List.map_map,List.mem_map]
 constructor
 ·rintro ⟨s,h,e⟩
  exact ⟨s,h,(hg s).trans ((hb s).mp e)⟩
 ·rintro ⟨s,h,e⟩
  exact ⟨s,h,(hb s).mpr ((hg s).symm.trans e)⟩
theorem afr {p:Part}:p.tight=(Eo ((cellsOf p).map (·.1)) 0 p.wide && (Eo ((cellsOf p).map (·.1)) 1 p.deep && Eo ((cellsOf p).map (·.1)) 2 p.high)):=by
 unfold Part.tight
 dsimp only
 rw [RZ (f:=fun s=>s.1) (g:=ax 0) (n:=0) (fun s=>rfl) (fun s=>by simp),
  RZ (f:=fun s=>s.1) (g:=ax 0) (n:=(p.wide:Int) - 1) (fun s=>rfl) (fun s=>by simp; omega),
  RZ (f:=fun s=>s.2.1) (g:=ax 1) (n:=0) (fun s=>rfl) (fun s=>by simp),
  RZ (f:=fun s=>s.2.1) (g:=ax 1) (n:=(p.deep:Int) - 1) (fun s=>rfl) (fun s=>by simp; omega),
  RZ (f:=fun s=>s.2.2) (g:=ax 2) (n:=0) (fun s=>rfl) (fun s=>by simp),
  RZ (f:=fun s=>s.2.2) (g:=ax 2) (n:=(p.high:Int) - 1) (fun s=>rfl) (fun s=>by simp; omega)]
 unfold Eo
 simp only [Bool.and_assoc]
def Ig (q:P3):List P3:=[mv q (-1) 0 0,mv q 1 0 0,mv q 0 (-1) 0,mv q 0 1 0,mv q 0 0 1,mv q 0 0 (-1)]
inductive Reach (ks:List P3) (c:P3):P3->Prop where
 | refl:Reach ks c c
 | step {a b:P3}:Reach ks c a->b ∈ Ig a->b ∈ ks->Reach ks c b
theorem Td {a b:Spot}:up b ∈ Ig (up a) ↔ beside a b=true:=by
 obtain ⟨a1,a2,a3⟩:=a
 obtain ⟨b1,b2,b3⟩:=b
 unfold Ig up mv beside
 simp only [List.mem_cons,Prod.mk.injEq,List.not_mem_nil,or_false,beq_iff_eq]
 omega
theorem TX {a b:Spot}:beside a b=beside b a:=by
 obtain ⟨a1,a2,a3⟩:=a
 obtain ⟨b1,b2,b3⟩:=b
 unfold beside
 rw [Bool.eq_iff_iff,beq_iff_eq,beq_iff_eq]
 dsimp only
 omega
theorem afL {α:Type} (p:α->Bool) (l:List α):(l.partition p).1=l.filter p/\(l.partition p).2=l.filter (fun x=>!p x):=by
 rw [List.partition_eq_filter_filter]
 exact ⟨rfl,rfl⟩
theorem OJ (n:Nat) (l rest:List Spot):apartFrom (n + 1) l rest=if rest.filter (fun c=>l.any (beside c))=[] then rest else apartFrom n (rest.filter fun c=>l.any (beside c)) (rest.filter fun c=>!(l.any (beside c))):=by
 rw [apartFrom]
 rw [(afL _ rest).1,(afL _ rest).2]
theorem TY {ks:List P3} {c:P3}:∀ (n:Nat) (l rest:List Spot),(∀ x ∈ l,Reach ks c (up x))->(∀ x ∈ rest,up x ∈ ks)->∀ x ∈ rest,x ∈ apartFrom n l rest \/ Reach ks c (up x)
 | 0,l,rest,_,_,x,hx=>.inl hx
 | n + 1,l,rest,hl,hr,x,hx=>by
  rw [OJ]
  split
  ·exact .inl hx
  ·have h1:∀ y ∈ rest.filter (fun c=>l.any (beside c)),Reach ks c (up y):=fun y hy=>by
    rw [List.mem_filter,List.any_eq_true] at hy
    obtain ⟨hy,z,hz,hb⟩:=hy
    rw [TX] at hb
    exact .step (hl z hz) (Td.mpr hb) (hr y hy)
   cases e:l.any (beside x) with
   | true=>exact .inr (h1 x (List.mem_filter.mpr ⟨hx,e⟩))
   | false=>exact TY n _ _ h1 (fun y hy=>hr y (List.mem_filter.mp hy).1) x (List.mem_filter.mpr ⟨hx,by rw [e]; rfl⟩)
theorem RX:∀ (n:Nat) (l rest:List Spot),∀ x ∈ apartFrom n l rest,x ∈ rest
 | 0,l,rest,x,hx=>hx
 | n + 1,l,rest,x,hx=>by
  rw [OJ] at hx
  split at hx
  ·exact hx
  ·exact (List.mem_filter.mp (RX n _ _ x hx)).1
theorem Wu {α:Type} (p:α->Bool):∀ l:List α,(l.filter p).length + (l.filter fun x=>!p x).length=l.length
 | []=>rfl
 | a :: l=>by
  have:=Wu p l
  cases e:p a <;> simp [List.filter_cons,e] <;> omega
theorem Zb:∀ (n:Nat) (D l rest:List Spot),rest.length <= n->(∀ x ∈ rest,∀ y ∈ D,beside x y=false)->∀ x ∈ apartFrom n l rest,∀ y,y ∈ D \/ y ∈ l \/ y ∈ rest->beside x y=true->y ∈ apartFrom n l rest
 | 0,D,l,rest,hn,_,x,hx,_,_,_=>by
  have:rest=[]:=List.length_eq_zero_iff.mp (by omega)
  subst this
  cases hx
 | n + 1,D,l,rest,hn,hD,x,hx,y,hy,hb=>by
  rw [OJ] at hx ⊢
  split at hx
  ·rename_i hnil
   rw [if_pos hnil]
   rcases hy with hy | hy | hy
   ·rw [hD x hx y hy] at hb; cases hb
   ·have:x ∈ rest.filter (fun c=>l.any (beside c)):=List.mem_filter.mpr ⟨hx,List.any_eq_true.mpr ⟨y,hy,hb⟩⟩
    rw [hnil] at this
    cases this
   ·exact hy
  ·rename_i hnil
   rw [if_neg hnil]
   have hlen:=Wu (fun c=>l.any (beside c)) rest
   have hpos:0 < (rest.filter (fun c=>l.any (beside c))).length:=List.length_pos_iff.mpr hnil
   refine Zb n (D ++ l) _ _ (by omega) ?_ x hx y ?_ hb
   ·intro z hz u hu
    rw [List.mem_filter] at hz
    rcases List.mem_append.mp hu with hu | hu
    ·exact hD z hz.1 u hu
    ·have:=hz.2
     simp only [Bool.not_eq_true',List.any_eq_false] at this
     simpa using this u hu
   ·rcases hy with hy | hy | hy
    ·exact .inl (List.mem_append_left _ hy)
    ·exact .inl (List.mem_append_right _ hy)
    ·cases e:l.any (beside y) with
     | true=>exact .inr (.inl (List.mem_filter.mpr ⟨hy,e⟩))
     | false=>exact .inr (.inr (List.mem_filter.mpr ⟨hy,by rw [e]; rfl⟩))
theorem adZ {p:Part} {c:Spot} {r:List Spot} (e:p.cells=c :: r):p.whole=true ↔ ∀ q ∈ (cellsOf p).map (·.1),Reach ((cellsOf p).map (·.1)) (up c) q:=by
 have hk:(cellsOf p).map (·.1)=(c :: r).map up:=by rw [Fe,e]
 have hnd:(c :: r).Nodup:=by rw [<- e]; exact TF p
 unfold Part.whole
 rw [e,hk]
 dsimp only
 rw [List.isEmpty_iff]
 constructor
 ·intro h q hq
  obtain ⟨a,ha,rfl⟩:=List.mem_map.mp hq
  rcases List.mem_cons.mp ha with rfl | ha
  ·exact .refl
  ·rcases TY (ks:=(c :: r).map up) (c:=up c) r.length [c] r (fun x hx=>by rw [List.mem_singleton.mp hx]; exact .refl) (fun x hx=>List.mem_map_of_mem (List.mem_cons_of_mem _ hx)) a ha with h1 | h1
   ·rw [h] at h1; cases h1
   ·exact h1
 ·intro h
  rcases List.eq_nil_or_concat (apartFrom r.length [c] r) with h0 | ⟨_,x,hx⟩
  ·exact h0
  exfalso
  have hxm:x ∈ apartFrom r.length [c] r:=by rw [hx]; simp
  have hxr:=RX _ _ _ x hxm
  have key:∀ q,Reach ((c :: r).map up) (up c) q->∀ a,q=up a->a ∉ apartFrom r.length [c] r:=by
   intro q hq
   induction hq with
   | refl =>
    intro a ea ha
    have:=Ik ea
    subst this
    exact (List.nodup_cons.mp hnd).1 (RX _ _ _ _ ha)
   | @step a b ha hb hbk ih =>
    intro b' eb hb'
    subst eb
    have hau:∃ a',a' ∈ c :: r/\a=up a':=by
     cases ha with
     | refl=>exact ⟨c,List.mem_cons_self ..,rfl⟩
     | step _ _ h =>
      obtain ⟨a',h1,h2⟩:=List.mem_map.mp h
      exact ⟨a',h1,h2.symm⟩
    obtain ⟨a',ha',rfl⟩:=hau
    refine ih a' rfl (Zb r.length [] [c] r (Nat.le_refl _) (fun _ _ _ h=>by cases h) b' hb' a' ?_ (by rw [TX]; exact Td.mp hb))
    rcases List.mem_cons.mp ha' with rfl | h
    ·exact .inr (.inl (List.mem_singleton.mpr rfl))
    ·exact .inr (.inr h)
  exact key _ (h (up x) (List.mem_map_of_mem (List.mem_cons_of_mem _ hxr))) x rfl hxm
def visit (ks:List P3) (st:List P3 × List P3) (b:P3):List P3 × List P3:=if b ∈ ks/\b ∉ st.1 then (st.1 ++ [b],st.2 ++ [b]) else st
structure Nm (ks:List P3) (c:P3) (R W:List P3):Prop where
 nd:R.Nodup
 sub:∀ q ∈ R,q ∈ ks
 st:c ∈ R
 rc:∀ q ∈ R,Reach ks c q
 wr:∀ q ∈ W,q ∈ R
 cl:∀ a ∈ R,a ∈ W \/ ∀ b ∈ Ig a,b ∈ ks->b ∈ R
theorem N8 (ks:List P3):∀ (ns:List P3) (R W:List P3),R.Nodup->∃ X,ns.foldl (visit ks) (R,W)=(R ++ X,W ++ X)/\(R ++ X).Nodup/\(∀ b ∈ X,b ∈ ks/\b ∈ ns)/\∀ b ∈ ns,b ∈ ks->b ∈ R ++ X
 | [],R,W,h=>⟨[],by simp,by simpa using h,by simp,by simp⟩
 | n :: ns,R,W,h=>by
  rw [List.foldl_cons]
  by_cases e:n ∈ ks/\n ∉ R
  ·have e1:visit ks (R,W) n=(R ++ [n],W ++ [n]):=by unfold visit; rw [if_pos e]
   rw [e1]
   obtain ⟨X,h1,h2,h3,h4⟩:=N8 ks ns (R ++ [n]) (W ++ [n]) (by
    rw [List.nodup_append]
    refine ⟨h,by simp,fun a ha b hb=>?_⟩
    rw [List.mem_singleton.mp hb]
    rintro rfl
    exact e.2 ha)
   refine ⟨n :: X,by rw [h1]; simp,by simpa using h2,fun b hb=>?_,fun b hb hk=>?_⟩
   ·rcases List.mem_cons.mp hb with rfl | hb
    ·exact ⟨e.1,List.mem_cons_self ..⟩
    ·exact ⟨(h3 b hb).1,List.mem_cons_of_mem _ (h3 b hb).2⟩
   ·rcases List.mem_cons.mp hb with rfl | hb
    ·simp
    ·simpa using h4 b hb hk
  ·have e1:visit ks (R,W) n=(R,W):=by unfold visit; rw [if_neg e]
   rw [e1]
   obtain ⟨X,h1,h2,h3,h4⟩:=N8 ks ns R W h
   refine ⟨X,h1,h2,fun b hb=>⟨(h3 b hb).1,List.mem_cons_of_mem _ (h3 b hb).2⟩,fun b hb hk=>?_⟩
   rcases List.mem_cons.mp hb with rfl | hb
   ·refine List.mem_append_left _ ?_
    exact Classical.byContradiction fun z=>e ⟨hk,z⟩
   ·exact h4 b hb hk
theorem Nm.start {ks:List P3} {c:P3} (h:c ∈ ks):Nm ks c [c] [c] where
 nd:=by simp
 sub:=fun q hq=>by rw [List.mem_singleton.mp hq]; exact h
 st:=List.mem_singleton.mpr rfl
 rc:=fun q hq=>by rw [List.mem_singleton.mp hq]; exact .refl
 wr:=fun q hq=>hq
 cl:=fun a ha=>.inl ha
theorem Nm.turn {ks:List P3} {c a:P3} {R W:List P3} (I:Nm ks c R (W ++ [a])):Nm ks c ((Ig a).foldl (visit ks) (R,W)).1 ((Ig a).foldl (visit ks) (R,W)).2 /\
  ((Ig a).foldl (visit ks) (R,W)).2.length + R.length=((Ig a).foldl (visit ks) (R,W)).1.length + W.length:=by
 obtain ⟨X,h1,h2,h3,h4⟩:=N8 ks (Ig a) R W I.nd
 rw [h1]
 refine ⟨⟨h2,fun q hq=>?_,List.mem_append_left _ I.st,fun q hq=>?_,fun q hq=>?_,fun b hb=>?_⟩,by simp; omega⟩
 ·rcases List.mem_append.mp hq with hq | hq
  ·exact I.sub q hq
  ·exact (h3 q hq).1
 ·rcases List.mem_append.mp hq with hq | hq
  ·exact I.rc q hq
  ·exact .step (I.rc a (I.wr a (by simp))) (h3 q hq).2 (h3 q hq).1
 ·rcases List.mem_append.mp hq with hq | hq
  ·exact List.mem_append_left _ (I.wr q (List.mem_append_left _ hq))
  ·exact List.mem_append_right _ hq
 ·rcases List.mem_append.mp hb with hb | hb
  ·rcases I.cl b hb with h | h
   ·rcases List.mem_append.mp h with h | h
    ·exact .inl (List.mem_append_left _ h)
    ·rw [List.mem_singleton.mp h]
     exact .inr h4
   ·exact .inr fun d hd hk=>List.mem_append_left _ (h d hd hk)
  ·exact .inl (List.mem_append_right _ hb)
theorem Nm.le {ks:List P3} {c:P3} {R W:List P3} (I:Nm ks c R W):R.length <= ks.length:=List.Nodup.length_le_of_subset I.nd fun q hq=>I.sub q hq
theorem Vi {α:Type} [DecidableEq α] {R ks:List α} (h:R.Nodup) (hs:∀ q ∈ R,q ∈ ks) (hl:ks.length <= R.length) (hk:ks.Nodup):∀ q ∈ ks,q ∈ R:=fun q hq=>Classical.byContradiction fun hn=>by
 have h1:(q :: R).Nodup:=List.nodup_cons.mpr ⟨hn,h⟩
 have:=List.Nodup.length_le_of_subset h1 (l₂:=ks) fun x hx=>by
  rcases List.mem_cons.mp hx with rfl | hx
  ·exact hq
  ·exact hs x hx
 simp at this
 omega
theorem Nm.fin {p:Part} {c:Spot} {r:List Spot} (e:p.cells=c :: r) {R:List P3} (I:Nm ((cellsOf p).map (·.1)) (up c) R []):p.whole=decide (R.length=(cellsOf p).length):=by
 rw [Bool.eq_iff_iff,decide_eq_true_eq,adZ e]
 have hl:((cellsOf p).map (·.1)).length=(cellsOf p).length:=List.length_map ..
 constructor
 ·intro h
  have:∀ q,Reach ((cellsOf p).map (·.1)) (up c) q->q ∈ R:=by
   intro q hq
   induction hq with
   | refl=>exact I.st
   | step ha hb hk ih =>
    rcases I.cl _ ih with h | h
    ·cases h
    ·exact h _ hb hk
  have h2:=List.Nodup.length_le_of_subset (keys_nodup p) (l₂:=R) fun q hq=>this q (h q hq)
  have h3:=I.le
  omega
 ·intro h q hq
  exact I.rc q (Vi I.nd I.sub (by omega) (keys_nodup p) q hq)
theorem adk {p:Part} (hf:Full p) {x y z:Nat} (hx:x < p.deep) (hy:y < p.wide) (hz:z < p.high):p.turn.at_ x y z=p.at_ (p.wide - 1 - y) x z:=by
 unfold Part.at_
 rw [if_pos ⟨hx,hy,hz⟩,if_pos ⟨by omega,hx,hz⟩]
 show (p.turn.places).getD _ _=_
 have e:p.turn.places=(List.range (p.high * p.wide * p.deep)).map fun i=>p.places.getD ((i / p.deep / p.wide * p.deep + i % p.deep) * p.wide + (p.wide - 1 - i / p.deep % p.wide)) .none:=by
  unfold Part.turn
  dsimp only
  have e1:∀ z:Nat,((List.range p.wide).flatMap fun (y:Nat)=>(List.range p.deep).map fun (x:Nat)=>p.places.toArray.getD ((z * p.deep + x) * p.wide + (p.wide - 1 - y)) Place.none)=(List.range (p.wide * p.deep)).map fun i=>p.places.toArray.getD ((z * p.deep + i % p.deep) * p.wide + (p.wide - 1 - i / p.deep)) Place.none:=fun z =>
   HB p.deep (fun y x=>p.places.toArray.getD ((z * p.deep + x) * p.wide + (p.wide - 1 - y)) Place.none) p.wide
  simp only [e1]
  rw [HB (p.wide * p.deep) (fun z i=>p.places.toArray.getD ((z * p.deep + i % p.deep) * p.wide + (p.wide - 1 - i / p.deep)) Place.none) p.high,Nat.mul_assoc]
  refine List.map_congr_left fun i hi=>?_
  show p.places.toArray.getD ((i / (p.wide * p.deep) * p.deep + i % (p.wide * p.deep) % p.deep) * p.wide + (p.wide - 1 - i % (p.wide * p.deep) / p.deep)) Place.none=_
  rw [Nat.mul_comm p.wide p.deep,Nat.mod_mul_right_mod,Nat.mod_mul_right_div_self,Nat.div_div_eq_div_mul]
  simp
 rw [e]
 show ((List.range (p.high * p.wide * p.deep)).map _).getD ((z * p.wide + y) * p.deep + x) Place.none=_
 have hi:=aga hx hy hz
 rw [List.getD_eq_getElem?_getD,List.getElem?_map,List.getElem?_range hi]
 show p.places.getD _ _=_
 have e2:FQ p.deep p.wide ((z * p.wide + y) * p.deep + x)=(x,y,z):=Pg hx hy
 unfold FQ at e2
 simp only [Prod.mk.injEq] at e2
 rw [e2.1,e2.2.1,e2.2.2]
theorem X4 (k:Nat):∀ n:Nat,((List.range n).map (fun _=>k)).sum=n * k
 | 0=>by simp
 | n + 1=>by
  rw [List.range_succ,List.map_append,List.sum_append,X4 k n,Nat.succ_mul]
  simp
theorem XX {p:Part} (hf:Full p):Full p.turn:=by
 unfold Full Part.turn
 dsimp only
 simp [List.length_flatMap,X4]
 rw [Nat.mul_comm p.deep p.wide,Nat.mul_comm p.high]
def Gw (w:Int) (x:P3 × Int):P3 × Int:=((x.1.2.1,w - 1 - x.1.1,x.1.2.2),x.2)
theorem Gq {α β:Type} {f:α->β}:∀ {l:List α},(l.map f).Nodup->l.Nodup
 | [],_=>by simp
 | a :: l,h=>by
  rw [List.map_cons,List.nodup_cons] at h
  rw [List.nodup_cons]
  exact ⟨fun z=>h.1 (List.mem_map_of_mem z),Gq h.2⟩
theorem XS {p:Part} (hf:Full p):((cellsOf p).map (Gw p.wide)).Perm (cellsOf p.turn):=by
 rw [List.perm_ext_iff_of_nodup]
 ·rintro ⟨q,s⟩
  rw [DG (XX hf),List.mem_map]
  constructor
  ·rintro ⟨⟨q',s'⟩,hm,e⟩
   obtain ⟨a,rfl,hc,rfl⟩:=(DG hf).mp hm
   obtain ⟨hx,hy,hz⟩:=adV hc
   have e2:p.turn.at_ a.2.1 (p.wide - 1 - a.1) a.2.2=p.at_ a.1 a.2.1 a.2.2:=by
    rw [adk hf hy (by omega) hz,show p.wide - 1 - (p.wide - 1 - a.1)=a.1 by omega]
   refine ⟨(a.2.1,p.wide - 1 - a.1,a.2.2),?_,?_,?_⟩
   ·cases e
    unfold up
    simp
    omega
   ·dsimp only
    rw [e2]; exact hc
   ·cases e
    dsimp only
    rw [e2]
  ·rintro ⟨a,rfl,hc,rfl⟩
   obtain ⟨hx,hy,hz⟩:=adV hc
   have hx:a.1 < p.deep:=hx
   have hy:a.2.1 < p.wide:=hy
   have hz:a.2.2 < p.high:=hz
   rw [adk hf hx hy hz] at hc ⊢
   refine ⟨_,(DG hf).mpr ⟨(p.wide - 1 - a.2.1,a.1,a.2.2),rfl,hc,rfl⟩,?_⟩
   unfold Gw up
   simp
   omega
 ·refine Hq (Gq (keys_nodup p)) fun x _ y _ e=>?_
  obtain ⟨⟨x1,x2,x3⟩,x4⟩:=x
  obtain ⟨⟨y1,y2,y3⟩,y4⟩:=y
  unfold Gw at e
  simp only [Prod.mk.injEq] at e ⊢
  omega
 ·exact Gq (keys_nodup _)
theorem GZ {p:Part} (hf:Full p):∀ r,Full (p.turned r)
 | 0=>hf
 | r + 1=>XX (GZ hf r)
def Cz (p:Part):Bool:=p.studsOk && (p.tubesOk && (p.tight && p.whole))
def Ec:List Bytes->Bool
 | a :: b :: r=>before a b && Ec (b :: r)
 | _=>true
theorem abY {p:Part} {last:Option Bytes}:p.wrong last=none ↔ Cz p=true/\∀ n,last=some n->before n p.name=true:=by
 unfold Part.wrong Cz
 cases p.studsOk <;> cases p.tubesOk <;> cases p.tight <;> cases p.whole <;> simp
 cases last with
 | none=>simp
 | some n=>simp
theorem KC:∀ (k:Catalogue) (i:Nat) (last:Option Bytes),wrongFrom i last k=none ↔ (k.all Cz=true/\match last with
  | some n=>Ec (n :: namesOf k)=true
  | none=>Ec (namesOf k)=true)
 | [],i,last=>by
  cases last <;> simp [wrongFrom,namesOf,Ec]
 | p :: k,i,last=>by
  rw [wrongFrom]
  have ih:=KC k (i + 1) (some p.name)
  have hw:=abY (p:=p) (last:=last)
  cases e:p.wrong last with
  | some w =>
   rw [e] at hw
   simp only [reduceCtorEq,false_iff,not_and] at hw ⊢
   rw [List.all_cons,Bool.and_eq_true]
   rintro ⟨h1,h2⟩
   cases last with
   | none=>exact fun _=>(hw h1 (fun n q=>by cases q))
   | some n =>
    intro h3
    have h4:(before n p.name && Ec (p.name :: namesOf k))=true:=h3
    rw [Bool.and_eq_true] at h4
    exact hw h1 (fun m q=>by cases q; exact h4.1)
  | none =>
   rw [e] at hw
   obtain ⟨h1,h2⟩:=hw.mp rfl
   dsimp only
   rw [ih,List.all_cons,h1,Bool.true_and]
   cases last with
   | none=>exact Iff.rfl
   | some n =>
    show _ ↔ _/\(before n p.name && Ec (p.name :: namesOf k))=true
    rw [h2 n rfl,Bool.true_and]
theorem adY (k:Catalogue):(Br.wrong k).isSome = !(k.all Cz && Ec (namesOf k)):=by
 have h:=KC k 0 none
 unfold Br.wrong
 cases e:wrongFrom 0 none k with
 | none =>
  rw [e] at h
  obtain ⟨h1,h2⟩:=h.mp rfl
  rw [h1,h2]
  rfl
 | some w =>
  rw [e] at h
  simp only [reduceCtorEq,false_iff,not_and] at h
  cases h1:k.all Cz with
  | false=>rfl
  | true =>
   have:=h h1
   cases h2:Ec (namesOf k) with
   | false=>rfl
   | true=>exact absurd h2 this
def mvE (l:Line) (x:P3 × Int):P3 × Int:=(mv x.1 l.x l.y l.z,x.2)
def Bl (c:Catalogue) (l:Line):List (P3 × Int):=(cellsOf (l.of c)).map (mvE l)
theorem ab3 (l:Line) (a:Spot):up (l.put a)=mv (up a) l.x l.y l.z:=by
 unfold up Line.put mv
 simp only [Prod.mk.injEq]
 omega
theorem DR (c:Catalogue) (l:Line):(Bl c l).map (·.1)=(Line.cells c l).map up:=by
 unfold Bl Line.cells
 rw [List.map_map,List.map_map]
 have:((fun x:P3 × Int=>x.1) ∘ mvE l)=(fun q=>mv q l.x l.y l.z) ∘ (fun x:P3 × Int=>x.1):=rfl
 rw [this,<- List.map_map,Fe,List.map_map]
 refine List.map_congr_left fun a _=>?_
 show mv (up a) l.x l.y l.z=up (l.put a)
 rw [ab3]
theorem acH {q r:P3} {x y z:Int} (h:mv q x y z=mv r x y z):q=r:=by
 obtain ⟨a,b,c⟩:=q
 obtain ⟨a',b',c'⟩:=r
 unfold mv at h
 simp only [Prod.mk.injEq] at h ⊢
 omega
theorem afR (q:P3) (x y z:Int):mv (mv q x y z) 0 0 1=mv (mv q 0 0 1) x y z:=by
 unfold mv
 simp only [Prod.mk.injEq]
 omega
theorem Gu {c:Catalogue} {l:Line} (hf:Full (l.of c)) {q:P3} {s:Int}:(q,s) ∈ Bl c l ↔ ∃ a:Spot,q=up (l.put a)/\((l.of c).at_ a.1 a.2.1 a.2.2).isCell=true/\s=(((l.of c).at_ a.1 a.2.1 a.2.2).byte.toNat:Int):=by
 unfold Bl
 rw [List.mem_map]
 constructor
 ·rintro ⟨⟨q',s'⟩,hm,e⟩
  obtain ⟨a,rfl,h1,rfl⟩:=(DG hf).mp hm
  cases e
  exact ⟨a,(ab3 l a).symm,h1,rfl⟩
 ·rintro ⟨a,rfl,h1,rfl⟩
  exact ⟨_,(DG hf).mpr ⟨a,rfl,h1,rfl⟩,by unfold mvE; rw [ab3]⟩
theorem Lw (c:Catalogue) (l:Line):((Bl c l).map (·.1)).Nodup:=by
 unfold Bl
 rw [List.map_map]
 have:((fun x:P3 × Int=>x.1) ∘ mvE l)=(fun q=>mv q l.x l.y l.z) ∘ (fun x:P3 × Int=>x.1):=rfl
 rw [this,<- List.map_map]
 exact Hq (keys_nodup _) fun a _ b _ e=>acH e
structure QJ (s:Shape):Prop where
 bx:∀ a ∈ s.cells,s.at_.1 <= a.1/\a.1 < s.at_.1 + s.size.1/\s.at_.2.1 <= a.2.1/\a.2.1 < s.at_.2.1 + s.size.2.1/\s.at_.2.2 <= a.2.2/\a.2.2 < s.at_.2.2 + s.size.2.2
 st:∀ a ∈ s.studs,a ∈ s.cells
theorem Cy {c:Catalogue} {l:Line} (hf:Full (l.of c)):QJ (l.shape c) where
 bx:=fun a ha=>by
  obtain ⟨b,hb,rfl⟩:=List.mem_map.mp (show a ∈ (l.of c).cells.map l.put from ha)
  obtain ⟨hx,hy,hz⟩:=adV ((Mz hf).mp hb)
  show l.x <= l.x + b.1/\l.x + b.1 < l.x + (l.of c).wide/\l.y <= l.y + b.2.1/\l.y + b.2.1 < l.y + (l.of c).deep/\l.z <= l.z + b.2.2/\l.z + b.2.2 < l.z + (l.of c).high
  omega
 st:=fun a ha=>by
  obtain ⟨b,hb,rfl⟩:=List.mem_map.mp (show a ∈ (l.of c).studs.map l.put from ha)
  refine List.mem_map.mpr ⟨b,?_,rfl⟩
  rw [Jm hf] at hb
  rw [Mz hf]
  cases e:(l.of c).at_ b.1 b.2.1 b.2.2 with
  | none=>rw [e] at hb; cases hb
  | cell _ _=>rfl
theorem aeZ {i j:Shape} (hi:QJ i) (hj:QJ j):clash i j=true ↔ ∃ s,s ∈ i.cells/\s ∈ j.cells:=by
 unfold clash
 rw [Bool.and_eq_true,List.any_eq_true]
 constructor
 ·rintro ⟨_,s,h1,h2⟩
  exact ⟨s,h1,List.contains_iff_mem.mp h2⟩
 ·rintro ⟨s,h1,h2⟩
  refine ⟨?_,s,h1,List.contains_iff_mem.mpr h2⟩
  have a:=hi.bx s h1
  have b:=hj.bx s h2
  unfold meet
  simp only [Bool.and_eq_true,decide_eq_true_eq]
  omega
theorem aeh {i j:Shape} (hi:QJ i) (hj:QJ j):stuck i j=true ↔ ∃ s,s ∈ i.studs/\above s ∈ j.cells/\above s ∉ j.tubes:=by
 unfold stuck
 rw [Bool.and_eq_true,List.any_eq_true]
 constructor
 ·rintro ⟨_,s,h1,h2⟩
  rw [Bool.and_eq_true,Bool.not_eq_true',List.contains_iff_mem] at h2
  exact ⟨s,h1,h2.1,fun z=>by rw [List.contains_iff_mem.mpr z] at h2; cases h2.2⟩
 ·rintro ⟨s,h1,h2,h3⟩
  refine ⟨?_,s,h1,?_⟩
  ·have a:=hi.bx s (hi.st s h1)
   have b:=hj.bx _ h2
   unfold above at b
   unfold meet
   simp only [Bool.and_eq_true,decide_eq_true_eq] at b ⊢
   omega
  ·rw [Bool.and_eq_true,Bool.not_eq_true',List.contains_iff_mem]
   refine ⟨h2,?_⟩
   cases e:j.tubes.contains (above s) with
   | false=>rfl
   | true=>exact absurd (List.contains_iff_mem.mp e) h3
def good (x l:Shape):Prop:=clash x l=false/\stuck x l=false/\stuck l x=false
theorem Vc {b:List Shape} {j:Nat} {l:Shape}:wrongLine b j l=none ↔ l.inRoom=true/\∀ x ∈ b,good x l:=by
 unfold wrongLine good
 cases l.inRoom with
 | false=>simp
 | true =>
  rw [if_neg (by simp)]
  cases e:b.findIdx? fun (i:Shape)=>clash i l with
  | some i =>
   simp only [reduceCtorEq,true_and,false_iff]
   intro h
   have:b.findIdx? (fun (i:Shape)=>clash i l)=none:=List.findIdx?_eq_none_iff.mpr fun x hx=>(h x hx).1
   rw [this] at e
   cases e
  | none =>
   have e1:=List.findIdx?_eq_none_iff.mp e
   cases e2:b.findIdx? fun (i:Shape)=>stuck i l || stuck l i with
   | some i =>
    simp only [reduceCtorEq,true_and,false_iff]
    intro h
    have:b.findIdx? (fun (i:Shape)=>stuck i l || stuck l i)=none:=List.findIdx?_eq_none_iff.mpr fun x hx=>by rw [(h x hx).2.1,(h x hx).2.2]; rfl
    rw [this] at e2
    cases e2
   | none =>
    have e3:=List.findIdx?_eq_none_iff.mp e2
    simp only [true_and,true_iff]
    intro x hx
    have:=e3 x hx
    rw [Bool.or_eq_false_iff] at this
    exact ⟨e1 x hx,this.1,this.2⟩
theorem J2:∀ (ls:List Shape) (j:Nat) (b:List Shape),wrongLines j b ls=none ↔ (∀ l ∈ ls,l.inRoom=true)/\(∀ x ∈ b,∀ l ∈ ls,good x l)/\ls.Pairwise good
 | [],j,b=>by simp [wrongLines]
 | l :: ls,j,b=>by
  rw [wrongLines]
  have h:=Vc (b:=b) (j:=j) (l:=l)
  have ih:=J2 ls (j + 1) (b ++ [l])
  cases e:wrongLine b j l with
  | some k =>
   rw [e] at h
   simp only [reduceCtorEq,false_iff] at h ⊢
   rintro ⟨h1,h2,_⟩
   exact h ⟨h1 l (List.mem_cons_self ..),fun x hx=>h2 x hx l (List.mem_cons_self ..)⟩
  | none =>
   rw [e] at h
   obtain ⟨h1,h2⟩:=h.mp rfl
   dsimp only
   rw [ih,List.pairwise_cons]
   constructor
   ·rintro ⟨g1,g2,g3⟩
    refine ⟨fun x hx=>?_,fun x hx y hy=>?_,fun y hy=>g2 l (by simp) y hy,g3⟩
    ·rcases List.mem_cons.mp hx with rfl | hx
     ·exact h1
     ·exact g1 x hx
    ·rcases List.mem_cons.mp hy with rfl | hy
     ·exact h2 x hx
     ·exact g2 x (List.mem_append_left _ hx) y hy
   ·rintro ⟨g1,g2,g3,g4⟩
    refine ⟨fun x hx=>g1 x (List.mem_cons_of_mem _ hx),fun x hx y hy=>?_,g4⟩
    rcases List.mem_append.mp hx with hx | hx
    ·exact g2 x hx y (List.mem_cons_of_mem _ hy)
    ·rw [List.mem_singleton.mp hx]
     exact g3 y hy
def Meets (E:List (P3 × Int)):Prop:=∀ x ∈ E,Dr x.2=true->∀ t,(mv x.1 0 0 1,t) ∈ E->Dq t=true
theorem Vk {c:Catalogue} {l:Line} (hf:Full (l.of c)) {a:Spot}:a ∈ (l.shape c).studs ↔ ∃ s,(up a,s) ∈ Bl c l/\Dr s=true:=by
 show a ∈ (l.of c).studs.map l.put ↔ _
 rw [List.mem_map]
 constructor
 ·rintro ⟨b,hb,rfl⟩
  rw [Jm hf] at hb
  have hc:((l.of c).at_ b.1 b.2.1 b.2.2).isCell=true:=by
   cases e:(l.of c).at_ b.1 b.2.1 b.2.2 with
   | none=>rw [e] at hb; cases hb
   | cell _ _=>rfl
  exact ⟨_,(Gu hf).mpr ⟨b,rfl,hc,rfl⟩,by rw [M3]; exact hb⟩
 ·rintro ⟨s,h1,h2⟩
  obtain ⟨b,e,hc,rfl⟩:=(Gu hf).mp h1
  rw [M3] at h2
  exact ⟨b,(Jm hf).mpr h2,(Ik e).symm⟩
theorem Vg {c:Catalogue} {l:Line} (hf:Full (l.of c)) {a:Spot}:a ∈ (l.shape c).tubes ↔ ∃ s,(up a,s) ∈ Bl c l/\Dq s=true:=by
 show a ∈ (l.of c).tubes.map l.put ↔ _
 rw [List.mem_map]
 constructor
 ·rintro ⟨b,hb,rfl⟩
  rw [My hf] at hb
  have hc:((l.of c).at_ b.1 b.2.1 b.2.2).isCell=true:=by
   cases e:(l.of c).at_ b.1 b.2.1 b.2.2 with
   | none=>rw [e] at hb; cases hb
   | cell _ _=>rfl
  exact ⟨_,(Gu hf).mpr ⟨b,rfl,hc,rfl⟩,by rw [MT]; exact hb⟩
 ·rintro ⟨s,h1,h2⟩
  obtain ⟨b,e,hc,rfl⟩:=(Gu hf).mp h1
  rw [MT] at h2
  exact ⟨b,(My hf).mpr h2,(Ik e).symm⟩
theorem WD {c:Catalogue} {l:Line} {a:Spot}:a ∈ (l.shape c).cells ↔ ∃ s,(up a,s) ∈ Bl c l:=by
 have:up a ∈ (Bl c l).map (·.1) ↔ a ∈ Line.cells c l:=by
  rw [DR,List.mem_map]
  constructor
  ·rintro ⟨b,h,e⟩
   rw [<- Ik e]; exact h
  ·exact fun h=>⟨a,h,rfl⟩
 show a ∈ Line.cells c l ↔ _
 rw [<- this,List.mem_map]
 constructor
 ·rintro ⟨⟨q,s⟩,h,rfl⟩
  exact ⟨s,h⟩
 ·rintro ⟨s,h⟩
  exact ⟨_,h,rfl⟩
theorem aeQ {c:Catalogue} {l:Line} (hf:Full (l.of c)) {x:P3 × Int} (h:x ∈ Bl c l):∃ a:Spot,x.1=up a:=by
 obtain ⟨q,s⟩:=x
 obtain ⟨b,e,_⟩:=(Gu hf).mp h
 exact ⟨_,e⟩
theorem O8 (a:Spot):up (above a)=mv (up a) 0 0 1:=by
 unfold up above mv
 simp
theorem Rq {E:List (P3 × Int)} (h:(E.map (·.1)).Nodup) {q:P3} {s t:Int} (h1:(q,s) ∈ E) (h2:(q,t) ∈ E):s=t:=by
 induction E with
 | nil=>cases h1
 | cons x E ih =>
  rw [List.map_cons,List.nodup_cons] at h
  rcases List.mem_cons.mp h1 with e1 | e1
  ·rcases List.mem_cons.mp h2 with e2 | e2
   ·rw [<- e2] at e1; cases e1; rfl
   ·exact absurd (by rw [<- e1]; exact List.mem_map_of_mem (f:=(·.1)) e2) h.1
  ·rcases List.mem_cons.mp h2 with e2 | e2
   ·exact absurd (by rw [<- e2]; exact List.mem_map_of_mem (f:=(·.1)) e1) h.1
   ·exact ih h.2 e1 e2
theorem Qo {c:Catalogue} {k l:Line} (hk:Full (k.of c)) (hl:Full (l.of c)):good (k.shape c) (l.shape c) ↔
  (∀ q,q ∈ (Bl c k).map (·.1)->q ∉ (Bl c l).map (·.1))/\(∀ x ∈ Bl c k,Dr x.2=true->∀ t,(mv x.1 0 0 1,t) ∈ Bl c l->Dq t=true) /\
  (∀ x ∈ Bl c l,Dr x.2=true->∀ t,(mv x.1 0 0 1,t) ∈ Bl c k->Dq t=true):=by
 have stk:∀ {k l:Line},Full (k.of c)->Full (l.of c)->(stuck (k.shape c) (l.shape c)=false ↔ ∀ x ∈ Bl c k,Dr x.2=true->∀ t,(mv x.1 0 0 1,t) ∈ Bl c l->Dq t=true):=by
  intro k l hk hl
  have h:=aeh (Cy hk) (Cy hl)
  rw [<- Bool.not_eq_true,h]
  constructor
  ·intro hn x hx hs t ht
   obtain ⟨a,ea⟩:=aeQ hk hx
   obtain ⟨q,s⟩:=x
   dsimp only at ea hs ht
   subst ea
   refine Classical.byContradiction fun hb=>hn ⟨a,(Vk hk).mpr ⟨s,hx,hs⟩,?_,?_⟩
   ·exact WD.mpr ⟨t,by rw [O8]; exact ht⟩
   ·intro hz
    obtain ⟨t',h1,h2⟩:=(Vg hl).mp hz
    rw [O8] at h1
    rw [Rq (Lw c l) h1 ht] at h2
    exact hb h2
  ·rintro hn ⟨a,h1,h2,h3⟩
   obtain ⟨s,g1,g2⟩:=(Vk hk).mp h1
   obtain ⟨t,g3⟩:=WD.mp h2
   rw [O8] at g3
   exact h3 ((Vg hl).mpr ⟨t,by rw [O8]; exact g3,hn _ g1 g2 t g3⟩)
 have cl:clash (k.shape c) (l.shape c)=false ↔ ∀ q,q ∈ (Bl c k).map (·.1)->q ∉ (Bl c l).map (·.1):=by
  have h:=aeZ (Cy hk) (Cy hl)
  rw [<- Bool.not_eq_true,h]
  constructor
  ·intro hn q h1 h2
   rw [DR] at h1 h2
   obtain ⟨a,ha,rfl⟩:=List.mem_map.mp h1
   obtain ⟨b,hb,e⟩:=List.mem_map.mp h2
   have:=Ik e
   subst this
   exact hn ⟨b,ha,hb⟩
  ·rintro hn ⟨a,h1,h2⟩
   exact hn (up a) (by rw [DR]; exact List.mem_map_of_mem h1) (by rw [DR]; exact List.mem_map_of_mem h2)
 unfold good
 rw [cl,stk hk hl,stk hl hk]
def QG (E:List (P3 × Int)):Prop:=∀ x ∈ E,Dr x.2=true->mv x.1 0 0 1 ∉ E.map (·.1)
def CN (c:Catalogue) (ls:List Line):List (P3 × Int):=ls.flatMap (Bl c)
theorem Ys {c:Catalogue}:∀ (ls:List Line),(∀ l ∈ ls,Full (l.of c)/\QG (Bl c l))->((ls.map (Line.shape c)).Pairwise good ↔ ((CN c ls).map (·.1)).Nodup/\Meets (CN c ls))
 | [],_=>by simp [CN,Meets]
 | k :: ls,h=>by
  have ih:=Ys ls fun l hl=>h l (List.mem_cons_of_mem _ hl)
  have hk:=h k (List.mem_cons_self ..)
  have ea:CN c (k :: ls)=Bl c k ++ CN c ls:=by simp [CN]
  rw [List.map_cons,List.pairwise_cons,ih,ea,List.map_append,List.nodup_append]
  constructor
  ·rintro ⟨h1,h2,h3⟩
   have g:∀ l ∈ ls,good (k.shape c) (l.shape c):=fun l hl=>h1 _ (List.mem_map_of_mem hl)
   refine ⟨⟨Lw c k,h2,?_⟩,?_⟩
   ·intro a ha b hb
    rintro rfl
    obtain ⟨x,hx,rfl⟩:=List.mem_map.mp hb
    obtain ⟨l,hl,hx⟩:=List.mem_flatMap.mp hx
    exact ((Qo hk.1 (h l (List.mem_cons_of_mem _ hl)).1).mp (g l hl)).1 _ ha (List.mem_map_of_mem hx)
   ·intro x hx hs t ht
    rcases List.mem_append.mp hx with hx | hx
    ·rcases List.mem_append.mp ht with ht | ht
     ·exact absurd (List.mem_map_of_mem (f:=(·.1)) ht) (hk.2 x hx hs)
     ·obtain ⟨l,hl,ht⟩:=List.mem_flatMap.mp ht
      exact ((Qo hk.1 (h l (List.mem_cons_of_mem _ hl)).1).mp (g l hl)).2.1 x hx hs t ht
    ·rcases List.mem_append.mp ht with ht | ht
     ·obtain ⟨l,hl,hx⟩:=List.mem_flatMap.mp hx
      exact ((Qo hk.1 (h l (List.mem_cons_of_mem _ hl)).1).mp (g l hl)).2.2 x hx hs t ht
     ·exact h3 x hx hs t ht
  ·rintro ⟨⟨_,h2,h3⟩,h4⟩
   refine ⟨fun y hy=>?_,h2,fun x hx hs t ht=>h4 x (List.mem_append_right _ hx) hs t (List.mem_append_right _ ht)⟩
   obtain ⟨l,hl,rfl⟩:=List.mem_map.mp hy
   have sub:∀ x ∈ Bl c l,x ∈ CN c ls:=fun x hx=>List.mem_flatMap.mpr ⟨l,hl,hx⟩
   refine (Qo hk.1 (h l (List.mem_cons_of_mem _ hl)).1).mpr ⟨fun q h5 h6=>?_,fun x hx hs t ht=>?_,fun x hx hs t ht=>?_⟩
   ·obtain ⟨x,hx,e⟩:=List.mem_map.mp h6
    exact h3 q h5 q (by rw [<- e]; exact List.mem_map_of_mem (f:=(·.1)) (sub x hx)) rfl
   ·exact h4 x (List.mem_append_left _ hx) hs t (List.mem_append_right _ (sub _ ht))
   ·exact h4 x (List.mem_append_right _ (sub _ hx)) hs t (List.mem_append_left _ ht)
theorem aat {c:Catalogue} {b:Build} (h:∀ l ∈ b.lines,Full (l.of c)/\QG (Bl c l)):(b.wrong c).isSome=false ↔ (∀ l ∈ b.lines,l.inRoom c=true)/\((CN c b.lines).map (·.1)).Nodup/\Meets (CN c b.lines):=by
 unfold Build.wrong Build.shapes
 have hw:=J2 (b.lines.map (Line.shape c)) 0 []
 rw [<- Ys b.lines h]
 have e:(wrongLines 0 [] (b.lines.map (Line.shape c))).isSome=false ↔ wrongLines 0 [] (b.lines.map (Line.shape c))=none:=by
  cases wrongLines 0 [] (b.lines.map (Line.shape c)) <;> simp
 rw [e,hw]
 constructor
 ·rintro ⟨h1,_,h3⟩
  exact ⟨fun l hl=>h1 _ (List.mem_map_of_mem hl),h3⟩
 ·rintro ⟨h1,h3⟩
  refine ⟨fun s hs=>?_,fun _ z=>(by cases z),h3⟩
  obtain ⟨l,hl,rfl⟩:=List.mem_map.mp hs
  exact h1 l hl
theorem acU {p:Part} (hf:Full p) (h:p.studsOk=true):QG (cellsOf p):=by
 rw [Vj hf,Bool.not_eq_true',List.any_eq_false] at h
 intro x hx hs hm
 have:=h x hx
 unfold Du at this
 rw [hs,Bool.true_and,decide_eq_true_eq] at this
 exact this hm
theorem aeN {E F:List (P3 × Int)} (h:E.Perm F) (hE:QG E):QG F:=fun x hx hs hm=>hE x (h.mem_iff.mpr hx) hs ((h.map (·.1)).mem_iff.mpr hm)
theorem abj {E:List (P3 × Int)} {g:P3->P3} (hg:∀ a b,g a=g b->a=b) (ha:∀ q,mv (g q) 0 0 1=g (mv q 0 0 1)) (hE:QG E):QG (E.map fun x=>(g x.1,x.2)):=by
 intro x hx hs hm
 obtain ⟨y,hy,rfl⟩:=List.mem_map.mp hx
 dsimp only at hs hm
 rw [ha,List.map_map] at hm
 obtain ⟨z,hz,e⟩:=List.mem_map.mp hm
 exact hE y hy hs (by rw [<- hg _ _ e]; exact List.mem_map_of_mem (f:=(·.1)) hz)
theorem aeM {p:Part} (hf:Full p) (h:QG (cellsOf p)):QG (cellsOf p.turn):=by
 refine aeN (XS hf) ?_
 exact abj (g:=fun q=>(q.2.1,(p.wide:Int) - 1 - q.1,q.2.2)) (fun a b e=>by
  obtain ⟨a1,a2,a3⟩:=a
  obtain ⟨b1,b2,b3⟩:=b
  simp only [Prod.mk.injEq] at e ⊢
  omega) (fun q=>by
  obtain ⟨a,b,c⟩:=q
  unfold mv
  simp) h
theorem Tq {p:Part} (hf:Full p) (h:QG (cellsOf p)):∀ r,QG (cellsOf (p.turned r))
 | 0=>h
 | r + 1=>aeM (GZ hf r) (Tq hf h r)
theorem aeO {c:Catalogue} {l:Line} (hf:Full (c.getD l.part nothing)) (h:(c.getD l.part nothing).studsOk=true):Full (l.of c)/\QG (Bl c l) :=
 ⟨GZ hf _,abj (g:=fun q=>mv q l.x l.y l.z) (fun a b e=>acH e) (fun q=>afR q _ _ _) (Tq hf (acU hf h) l.r)⟩
structure abV (cs:List Spot) (l:List Column):Prop where
 lo:∀ k ∈ l,(k.1,k.2.1,k.2.2.1) ∈ cs
 hi:∀ k ∈ l,(k.1,k.2.1,k.2.2.2) ∈ cs
 al:∀ a ∈ cs,∃ k ∈ l,k.1=a.1/\k.2.1=a.2.1/\k.2.2.1 <= a.2.2/\a.2.2 <= k.2.2.2
theorem Le {s:Spot}:∀ {l:List Column} {k:Column},k ∈ putCell s l->(k=(s.1,s.2.1,s.2.2,s.2.2)) \/ k ∈ l \/ ∃ k' ∈ l,k'.1=s.1/\k'.2.1=s.2.1/\k=(k'.1,k'.2.1,min k'.2.2.1 s.2.2,max k'.2.2.2 s.2.2)
 | [],k,h=>.inl (List.mem_singleton.mp h)
 | k' :: r,k,h=>by
  rw [putCell] at h
  split at h
  ·rename_i e
   rcases List.mem_cons.mp h with h | h
   ·exact .inr (.inr ⟨k',List.mem_cons_self ..,e.1,e.2,h⟩)
   ·exact .inr (.inl (List.mem_cons_of_mem _ h))
  ·rcases List.mem_cons.mp h with h | h
   ·exact .inr (.inl (by rw [h]; exact List.mem_cons_self ..))
   ·rcases Le h with h | h | ⟨k'',h1,h2⟩
    ·exact .inl h
    ·exact .inr (.inl (List.mem_cons_of_mem _ h))
    ·exact .inr (.inr ⟨k'',List.mem_cons_of_mem _ h1,h2⟩)
theorem S5 {s:Spot}:∀ (l:List Column),(∃ k ∈ putCell s l,k.1=s.1/\k.2.1=s.2.1/\k.2.2.1 <= s.2.2/\s.2.2 <= k.2.2.2)/\∀ k ∈ l,∃ k' ∈ putCell s l,k'.1=k.1/\k'.2.1=k.2.1/\k'.2.2.1 <= k.2.2.1/\k.2.2.2 <= k'.2.2.2
 | []=>⟨⟨_,List.mem_singleton.mpr rfl,rfl,rfl,Nat.le_refl _,Nat.le_refl _⟩,fun k h=>by cases h⟩
 | k :: r=>by
  rw [putCell]
  split
  ·rename_i e
   refine ⟨⟨_,List.mem_cons_self ..,e.1,e.2,Nat.min_le_right _ _,Nat.le_max_right _ _⟩,fun k' h=>?_⟩
   rcases List.mem_cons.mp h with rfl | h
   ·exact ⟨_,List.mem_cons_self ..,rfl,rfl,Nat.min_le_left _ _,Nat.le_max_left _ _⟩
   ·exact ⟨k',List.mem_cons_of_mem _ h,rfl,rfl,Nat.le_refl _,Nat.le_refl _⟩
  ·obtain ⟨⟨k1,h1,h2⟩,h3⟩:=S5 (s:=s) r
   refine ⟨⟨k1,List.mem_cons_of_mem _ h1,h2⟩,fun k' h=>?_⟩
   rcases List.mem_cons.mp h with rfl | h
   ·exact ⟨k',List.mem_cons_self ..,rfl,rfl,Nat.le_refl _,Nat.le_refl _⟩
   ·obtain ⟨k2,g1,g2⟩:=h3 k' h
    exact ⟨k2,List.mem_cons_of_mem _ g1,g2⟩
theorem agt {cs:List Spot} {l:List Column} (s:Spot) (h:abV cs l):abV (cs ++ [s]) (putCell s l) where
 lo:=fun k hk=>by
  rcases Le hk with rfl | hk | ⟨k',h1,e1,e2,rfl⟩
  ·exact List.mem_append_right _ (List.mem_singleton.mpr rfl)
  ·exact List.mem_append_left _ (h.lo k hk)
  ·dsimp only
   rcases Nat.le_total k'.2.2.1 s.2.2 with q | q
   ·rw [Nat.min_eq_left q]
    exact List.mem_append_left _ (h.lo k' h1)
   ·rw [Nat.min_eq_right q,e1,e2]
    exact List.mem_append_right _ (List.mem_singleton.mpr rfl)
 hi:=fun k hk=>by
  rcases Le hk with rfl | hk | ⟨k',h1,e1,e2,rfl⟩
  ·exact List.mem_append_right _ (List.mem_singleton.mpr rfl)
  ·exact List.mem_append_left _ (h.hi k hk)
  ·dsimp only
   rcases Nat.le_total k'.2.2.2 s.2.2 with q | q
   ·rw [Nat.max_eq_right q,e1,e2]
    exact List.mem_append_right _ (List.mem_singleton.mpr rfl)
   ·rw [Nat.max_eq_left q]
    exact List.mem_append_left _ (h.hi k' h1)
 al:=fun a ha=>by
  obtain ⟨h1,h2⟩:=S5 (s:=s) l
  rcases List.mem_append.mp ha with ha | ha
  ·obtain ⟨k,hk,e1,e2,e3,e4⟩:=h.al a ha
   obtain ⟨k',hk',g1,g2,g3,g4⟩:=h2 k hk
   exact ⟨k',hk',by rw [g1,e1],by rw [g2,e2],Nat.le_trans g3 e3,Nat.le_trans e4 g4⟩
  ·rw [List.mem_singleton.mp ha]
   exact h1
theorem Qt:∀ (r cs:List Spot) (l:List Column),abV cs l->abV (cs ++ r) (r.foldl (fun (l:List Column) (p:Spot)=>putCell p l) l)
 | [],cs,l,h=>by simpa using h
 | s :: r,cs,l,h=>by
  have:=Qt r (cs ++ [s]) _ (agt s h)
  simpa using this
theorem JX (s:Shape):abV s.cells (columns s):=by
 have:=Qt s.cells [] [] ⟨fun k h=>(by cases h),fun k h=>(by cases h),fun a h=>(by cases h)⟩
 rw [List.nil_append] at this
 exact this
theorem V1 {i j:Shape} (hi:QJ i) (hj:QJ j):overIt (i,columns i) (j,columns j)=true ↔ ∃ a b,a ∈ i.cells/\b ∈ j.cells/\a.1=b.1/\a.2.1=b.2.1/\b.2.2 < a.2.2:=by
 unfold overIt overBy
 dsimp only
 rw [Bool.and_eq_true,List.any_eq_true]
 constructor
 ·rintro ⟨_,a,ha,h⟩
  rw [List.any_eq_true] at h
  obtain ⟨k,hk,h⟩:=h
  simp only [Bool.and_eq_true,beq_iff_eq,decide_eq_true_eq] at h
  exact ⟨_,_,(JX i).hi a (List.mem_filter.mp ha).1,(JX j).lo k (List.mem_filter.mp hk).1,h.1,h.2.1,h.2.2⟩
 ·rintro ⟨a,b,ha,hb,e1,e2,e3⟩
  have ba:=hi.bx a ha
  have bb:=hj.bx b hb
  obtain ⟨ka,hka,a1,a2,a3,a4⟩:=(JX i).al a ha
  obtain ⟨kb,hkb,b1,b2,b3,b4⟩:=(JX j).al b hb
  refine ⟨?_,ka,List.mem_filter.mpr ⟨hka,?_⟩,List.any_eq_true.mpr ⟨kb,List.mem_filter.mpr ⟨hkb,?_⟩,?_⟩⟩
  ·unfold mayBeOver
   simp only [Bool.and_eq_true,decide_eq_true_eq]
   omega
  ·unfold inBox
   simp only [Bool.and_eq_true,decide_eq_true_eq]
   omega
  ·unfold inBox
   simp only [Bool.and_eq_true,decide_eq_true_eq]
   omega
  ·simp only [Bool.and_eq_true,beq_iff_eq,decide_eq_true_eq]
   omega
theorem Wf {i j:Shape} (hi:QJ i) (hj:QJ j):liesOn i j=true ↔ ∃ s,s ∈ j.cells/\above s ∈ i.cells:=by
 unfold liesOn
 rw [Bool.and_eq_true,List.any_eq_true]
 constructor
 ·rintro ⟨_,s,h1,h2⟩
  exact ⟨s,h1,List.contains_iff_mem.mp h2⟩
 ·rintro ⟨s,h1,h2⟩
  refine ⟨?_,s,h1,List.contains_iff_mem.mpr h2⟩
  have a:=hj.bx s h1
  have b:=hi.bx _ h2
  unfold above at b
  unfold meet
  simp only [Bool.and_eq_true,decide_eq_true_eq] at b ⊢
  omega
def Own (c:Catalogue) (ls:List Line) (i:Nat) (q:P3):Prop:=∃ l,ls[i]? = some l/\q ∈ (Bl c l).map (·.1)
theorem El {c:Catalogue} {ls:List Line} {i:Nat} {l:Line} (h:ls[i]? = some l) {a:Spot}:Own c ls i (up a) ↔ a ∈ (l.shape c).cells:=by
 unfold Own
 show _ ↔ a ∈ Line.cells c l
 constructor
 ·rintro ⟨l',h',hq⟩
  rw [h] at h'
  cases h'
  rw [DR] at hq
  obtain ⟨b,hb,e⟩:=List.mem_map.mp hq
  rw [<- Ik e]; exact hb
 ·intro ha
  exact ⟨l,h,by rw [DR]; exact List.mem_map_of_mem ha⟩
theorem V0 {c:Catalogue} {ls:List Line} {i:Nat} {q:P3} (h:Own c ls i q):∃ a:Spot,q=up a:=by
 obtain ⟨l,_,hq⟩:=h
 rw [DR] at hq
 obtain ⟨b,_,e⟩:=List.mem_map.mp hq
 exact ⟨b,e.symm⟩
section
variable {c:Catalogue} {b:Build}
def shp (c:Catalogue) (b:Build):List ((Shape × List Column) × Nat):=((b.shapes c).map fun (x:Shape)=>(x,columns x)).zipIdx
theorem UG {x:(Shape × List Column) × Nat}:x ∈ shp c b ↔ ∃ l,b.lines[x.2]? = some l/\x.1=(l.shape c,columns (l.shape c)):=by
 unfold shp Build.shapes
 rw [List.mem_zipIdx_iff_getElem?]
 rw [List.getElem?_map,List.getElem?_map]
 cases b.lines[x.2]? with
 | none=>simp
 | some l=>simp [eq_comm]
theorem afs {i:Nat} {l:Line} (h:b.lines[i]? = some l):(shp c b)[i]? = some ((l.shape c,columns (l.shape c)),i):=by
 unfold shp Build.shapes
 rw [List.getElem?_zipIdx,List.getElem?_map,List.getElem?_map,h]
 simp
theorem ae7 (hf:∀ l ∈ b.lines,Full (l.of c)) {i j:Nat} (hi:i < b.lines.length):j ∈ (tower c b).below i ↔ j < b.lines.length/\i ≠ j/\∃ q r,Own c b.lines i q/\Own c b.lines j r/\q.1=r.1/\q.2.1=r.2.1/\r.2.2 < q.2.2:=by
 have hli:b.lines[i]? = some b.lines[i]:=List.getElem?_eq_getElem hi
 have e:(tower c b).below i=((shp c b).filter fun y=>i != y.2 && overIt ((b.lines[i]).shape c,columns ((b.lines[i]).shape c)) y.1).map (·.2):=by
  unfold Tower.below tower
  dsimp only
  rw [List.getD_eq_getElem?_getD,List.getElem?_map]
  show ((shp c b)[i]?.map _).getD [] = _
  rw [afs hli]
  rfl
 rw [e,List.mem_map]
 constructor
 ·rintro ⟨y,hy,rfl⟩
  rw [List.mem_filter,Bool.and_eq_true,bne_iff_ne] at hy
  obtain ⟨hm,hne,ho⟩:=hy
  obtain ⟨l,hl,e2⟩:=UG.mp hm
  rw [e2] at ho
  have hlm:l ∈ b.lines:=List.mem_of_getElem? hl
  obtain ⟨a,d,ha,hd,h1,h2,h3⟩:=(V1 (Cy (hf _ (List.getElem_mem hi))) (Cy (hf l hlm))).mp ho
  refine ⟨?_,hne,up a,up d,(El hli).mpr ha,(El hl).mpr hd,?_,?_,?_⟩
  ·exact (List.getElem?_eq_some_iff.mp hl).1
  ·unfold up; simp; omega
  ·unfold up; simp; omega
  ·unfold up; simp; omega
 ·rintro ⟨hj,hne,q,r,hq,hr,h1,h2,h3⟩
  have hlj:b.lines[j]? = some b.lines[j]:=List.getElem?_eq_getElem hj
  refine ⟨((b.lines[j].shape c,columns (b.lines[j].shape c)),j),?_,rfl⟩
  rw [List.mem_filter,Bool.and_eq_true,bne_iff_ne]
  refine ⟨UG.mpr ⟨_,hlj,rfl⟩,hne,?_⟩
  obtain ⟨a,rfl⟩:=V0 hq
  obtain ⟨d,rfl⟩:=V0 hr
  unfold up at h1 h2 h3
  simp at h1 h2 h3
  exact (V1 (Cy (hf _ (List.getElem_mem hi))) (Cy (hf _ (List.getElem_mem hj)))).mpr ⟨a,d,(El hli).mp hq,(El hlj).mp hr,by omega,by omega,by omega⟩
theorem age (hf:∀ l ∈ b.lines,Full (l.of c)) {i:Nat} (hi:i < b.lines.length):(tower c b).hold.getD i false=true ↔ (∃ q,Own c b.lines i q/\q.2.2=0) \/ ∃ q j,Own c b.lines i q/\Own c b.lines j (mv q 0 0 (-1))/\j ≠ i:=by
 have hli:b.lines[i]? = some b.lines[i]:=List.getElem?_eq_getElem hi
 have e:(tower c b).hold.getD i false=(((b.lines[i].shape c).cells.any fun (p:Spot)=>p.2.2 == 0) || (shp c b).any fun y=>i != y.2 && liesOn (b.lines[i].shape c) y.1.1):=by
  unfold tower
  dsimp only
  rw [List.getD_eq_getElem?_getD,List.getElem?_map]
  show ((shp c b)[i]?.map _).getD false=_
  rw [afs hli]
  rfl
 rw [e,Bool.or_eq_true,List.any_eq_true,List.any_eq_true]
 constructor
 ·rintro (⟨a,ha,h⟩ | ⟨y,hy,h⟩)
  ·exact .inl ⟨up a,(El hli).mpr ha,by unfold up; simp at h ⊢; omega⟩
  ·rw [Bool.and_eq_true,bne_iff_ne] at h
   obtain ⟨l,hl,e2⟩:=UG.mp hy
   rw [e2] at h
   obtain ⟨s,h1,h2⟩:=(Wf (Cy (hf _ (List.getElem_mem hi))) (Cy (hf l (List.mem_of_getElem? hl)))).mp h.2
   refine .inr ⟨up (above s),y.2,(El hli).mpr h2,?_,fun z=>h.1 z.symm⟩
   have e3:mv (up (above s)) 0 0 (-1)=up s:=by
    unfold mv up above
    simp
    omega
   rw [e3]
   exact (El hl).mpr h1
 ·rintro (⟨q,hq,h⟩ | ⟨q,j,hq,hr,hne⟩)
  ·obtain ⟨a,rfl⟩:=V0 hq
   refine .inl ⟨a,(El hli).mp hq,?_⟩
   unfold up at h
   simp at h ⊢
   omega
  ·obtain ⟨a,rfl⟩:=V0 hq
   obtain ⟨d,e3⟩:=V0 hr
   rw [e3] at hr
   have hj:j < b.lines.length:=by
    obtain ⟨l,hl,_⟩:=hr
    exact (List.getElem?_eq_some_iff.mp hl).1
   have hlj:b.lines[j]? = some b.lines[j]:=List.getElem?_eq_getElem hj
   refine .inr ⟨((b.lines[j].shape c,columns (b.lines[j].shape c)),j),UG.mpr ⟨_,hlj,rfl⟩,?_⟩
   rw [Bool.and_eq_true,bne_iff_ne]
   refine ⟨fun z=>hne z.symm,(Wf (Cy (hf _ (List.getElem_mem hi))) (Cy (hf _ (List.getElem_mem hj)))).mpr ⟨d,(El hlj).mp hr,?_⟩⟩
   have e4:above d=a:=by
    apply Ik
    obtain ⟨a1,a2,a3⟩:=a
    obtain ⟨d1,d2,d3⟩:=d
    unfold mv up at e3
    unfold up above
    simp only [Prod.mk.injEq] at e3 ⊢
    omega
   rw [e4]
   exact (El hli).mp hq
end
inductive Trans (R:Nat->Nat->Prop):Nat->Nat->Prop where
 | one {i j:Nat}:R i j->Trans R i j
 | more {i j k:Nat}:Trans R i j->R j k->Trans R i k
theorem Trans.trans {R:Nat->Nat->Prop} {i j k:Nat} (h:Trans R i j) (g:Trans R j k):Trans R i k:=by
 induction g with
 | one r=>exact .more h r
 | more _ r ih=>exact .more ih r
section
variable (t:Tower)
def adh (i j:Nat):Prop:=j ∈ t.below i
theorem Wa:∀ (l:List Nat) (a:Array Bool) (j:Nat),(l.foldl (fun (b:Array Bool) (j:Nat)=>b.setIfInBounds j true) a).size=a.size/\((l.foldl (fun (b:Array Bool) (j:Nat)=>b.setIfInBounds j true) a).getD j false=true ↔ a.getD j false=true \/ (j ∈ l/\j < a.size))
 | [],a,j=>by simp
 | x :: l,a,j=>by
  rw [List.foldl_cons]
  obtain ⟨h1,h2⟩:=Wa l (a.setIfInBounds x true) j
  refine ⟨by rw [h1]; simp,?_⟩
  rw [h2]
  have e:(a.setIfInBounds x true).getD j false=true ↔ a.getD j false=true \/ (j=x/\j < a.size):=by
   simp only [Array.getD_eq_getD_getElem?,Array.getElem?_setIfInBounds]
   by_cases q:x=j
   ·subst q
    by_cases z:x < a.size
    ·simp [z]
    ·simp [z]
   ·rw [if_neg q]
    constructor
    ·exact .inl
    ·rintro (h | h)
     ·exact h
     ·exact absurd h.1.symm q
  rw [e,List.mem_cons]
  simp
  constructor
  ·rintro ((h | h) | h)
   ·exact .inl h
   ·exact .inr ⟨.inl h.1,h.2⟩
   ·exact .inr ⟨.inr h.1,h.2⟩
  ·rintro (h | ⟨h | h,g⟩)
   ·exact .inl (.inl h)
   ·exact .inl (.inr ⟨h,g⟩)
   ·exact .inr ⟨h,g⟩
theorem V9:∀ (l:List Nat) (a:Array Bool) (j:Nat),((l.foldl (fun (a:Array Bool) (i:Nat)=>(t.below i).foldl (fun (b:Array Bool) (j:Nat)=>b.setIfInBounds j true) a) a).getD j false=true ↔ a.getD j false=true \/ ((∃ i ∈ l,j ∈ t.below i)/\j < a.size))
 | [],a,j=>by simp
 | x :: l,a,j=>by
  rw [List.foldl_cons,V9 l]
  obtain ⟨h1,h2⟩:=Wa (t.below x) a j
  rw [h2,h1]
  constructor
  ·rintro ((h | h) | ⟨⟨i,h,g⟩,k⟩)
   ·exact .inl h
   ·exact .inr ⟨⟨x,List.mem_cons_self ..,h.1⟩,h.2⟩
   ·exact .inr ⟨⟨i,List.mem_cons_of_mem _ h,g⟩,k⟩
  ·rintro (h | ⟨⟨i,h,g⟩,k⟩)
   ·exact .inl (.inl h)
   ·rcases List.mem_cons.mp h with rfl | h
    ·exact .inl (.inr ⟨g,k⟩)
    ·exact .inr ⟨⟨i,h,g⟩,k⟩
theorem Tv {i:Nat} (hb:∀ i j,j ∈ t.below i->j < t.n):∀ (f:Nat) (l had:List Nat),had.Nodup->(∀ a ∈ had,a < t.n/\Trans (adh t) i a)->(∀ a ∈ l,a ∈ had)->(∀ a ∈ had,a ∈ l \/ ∀ b ∈ t.below a,b ∈ had)->t.n <= f + had.length ->
  (∀ a ∈ had,a ∈ t.downFrom f l had)/\(∀ a ∈ t.downFrom f l had,Trans (adh t) i a)/\∀ a ∈ t.downFrom f l had,∀ b ∈ t.below a,b ∈ t.downFrom f l had
 | 0,l,had,hn,hr,hl,hc,hf=>by
  rw [Tower.downFrom]
  refine ⟨fun a ha=>ha,fun a ha=>(hr a ha).2,fun a ha b hb'=>?_⟩
  have:=Vi (R:=had) (ks:=List.range t.n) hn (fun q hq=>List.mem_range.mpr (hr q hq).1) (by rw [List.length_range]; omega) List.nodup_range
  exact this b (List.mem_range.mpr (hb a b hb'))
 | f + 1,l,had,hn,hr,hl,hc,hf=>by
  rw [Tower.downFrom]
  generalize hnew:((List.range t.n).filter fun (j:Nat)=>!had.contains j && (l.foldl (fun (a:Array Bool) (i:Nat)=>(t.below i).foldl (fun (b:Array Bool) (j:Nat)=>b.setIfInBounds j true) a) (Array.replicate t.n false)).getD j false)=new
  have UW:∀ j,j ∈ new ↔ j < t.n/\j ∉ had/\∃ x ∈ l,j ∈ t.below x:=by
   intro j
   rw [<- hnew,List.mem_filter,Bool.and_eq_true,V9 t l,List.mem_range,Bool.not_eq_true']
   constructor
   ·rintro ⟨h1,h2,h3⟩
    refine ⟨h1,fun z=>(by rw [List.contains_iff_mem.mpr z] at h2; cases h2),?_⟩
    rcases h3 with h3 | h3
    ·simp [Array.getD_eq_getD_getElem?,Array.getElem?_replicate] at h3
     split at h3 <;> simp at h3
    ·exact h3.1
   ·rintro ⟨h1,h2,h3⟩
    refine ⟨h1,?_,.inr ⟨h3,by simpa using h1⟩⟩
    cases e:had.contains j with
    | false=>rfl
    | true=>exact absurd (List.contains_iff_mem.mp e) h2
  have aix:new.Nodup:=by
   rw [<- hnew]
   exact List.Nodup.sublist List.filter_sublist List.nodup_range
  split
  ·rename_i he
   have he':new=[]:=List.isEmpty_iff.mp he
   refine ⟨fun a ha=>ha,fun a ha=>(hr a ha).2,fun a ha b hb'=>?_⟩
   rcases hc a ha with h | h
   ·refine Classical.byContradiction fun z=>?_
    have:b ∈ new:=(UW b).mpr ⟨hb a b hb',z,a,h,hb'⟩
    rw [he'] at this
    cases this
   ·exact h b hb'
  ·rename_i he
   have hpos:0 < new.length:=List.length_pos_iff.mpr fun z=>he (by rw [z]; rfl)
   have ih:=Tv hb f new (had ++ new) (by
    rw [List.nodup_append]
    refine ⟨hn,aix,fun a ha b hb'=>?_⟩
    rintro rfl
    exact ((UW a).mp hb').2.1 ha) (fun a ha=>by
    rcases List.mem_append.mp ha with ha | ha
    ·exact hr a ha
    ·obtain ⟨h1,h2,x,hx,h3⟩:=(UW a).mp ha
     exact ⟨h1,.more (hr x (hl x hx)).2 h3⟩) (fun a ha=>List.mem_append_right _ ha) (fun a ha=>by
    rcases List.mem_append.mp ha with ha | ha
    ·refine .inr fun b hb'=>?_
     rcases hc a ha with h | h
     ·refine Classical.byContradiction fun z=>?_
      have:b ∈ new:=(UW b).mpr ⟨hb a b hb',fun q=>z (List.mem_append_left _ q),a,h,hb'⟩
      exact z (List.mem_append_right _ this)
     ·exact List.mem_append_left _ (h b hb')
    ·exact .inl ha) (by rw [List.length_append]; omega)
   exact ⟨fun a ha=>ih.1 a (List.mem_append_left _ ha),ih.2⟩
theorem ad7 (hb:∀ i j,j ∈ t.below i->j < t.n) (hd:∀ i,(t.below i).Nodup) {i j:Nat}:j ∈ t.under i ↔ Trans (adh t) i j:=by
 unfold Tower.under
 have h:=Tv t (i:=i) hb t.n (t.below i) (t.below i) (hd i) (fun a ha=>⟨hb i a ha,.one ha⟩) (fun a ha=>ha) (fun a ha=>.inl ha) (Nat.le_add_right _ _)
 constructor
 ·exact h.2.1 j
 ·intro hr
  induction hr with
  | one r=>exact h.1 _ r
  | more _ r ih=>exact h.2.2 _ ih _ r
end
def Via (R:Nat->Nat->Prop):Nat->Nat->Nat->Prop
 | 0,i,j=>R i j
 | k + 1,i,j=>Via R k i j \/ (Via R k i k/\Via R k k j)
theorem XM {R:Nat->Nat->Prop}:∀ (k:Nat) {i m j:Nat},m < k->Via R k i m->Via R k m j->Via R k i j
 | 0,i,m,j,h,_,_=>by omega
 | k + 1,i,m,j,h,h1,h2=>by
  have ih:m < k->∀ {i j},Via R k i m->Via R k m j->Via R k i j:=fun hm=>XM k hm
  rcases Nat.lt_or_ge m k with hm | hm
  ·rcases h1 with h1 | ⟨h1,h1'⟩
   ·rcases h2 with h2 | ⟨h2,h2'⟩
    ·exact .inl (ih hm h1 h2)
    ·exact .inr ⟨ih hm h1 h2,h2'⟩
   ·rcases h2 with h2 | ⟨h2,h2'⟩
    ·exact .inr ⟨h1,ih hm h1' h2⟩
    ·exact .inr ⟨h1,h2'⟩
  ·have e:m=k:=by omega
   subst e
   have h1':Via R m i m:=by
    rcases h1 with h1 | ⟨h1,_⟩ <;> exact h1
   have h2':Via R m m j:=by
    rcases h2 with h2 | ⟨_,h2⟩ <;> exact h2
   exact .inr ⟨h1',h2'⟩
theorem Zd {R:Nat->Nat->Prop}:∀ (k:Nat) {i j:Nat},R i j->Via R k i j
 | 0,_,_,h=>h
 | k + 1,_,_,h=>.inl (Zd k h)
theorem agI {R:Nat->Nat->Prop} {n:Nat} (hb:∀ i j,R i j->j < n) {i j:Nat}:Via R n i j ↔ Trans R i j:=by
 constructor
 ·have:∀ k i j,Via R k i j->Trans R i j:=by
   intro k
   induction k with
   | zero=>exact fun i j h=>.one h
   | succ k ih =>
    rintro i j (h | ⟨h,g⟩)
    ·exact ih i j h
    ·exact (ih _ _ h).trans (ih _ _ g)
  exact this n i j
 ·intro h
  induction h with
  | one r=>exact Zd n r
  | @more j k h r ih =>
   have hj:j < n:=by
    cases h with
    | one r=>exact hb _ _ r
    | more _ r=>exact hb _ _ r
   exact XM n hj ih (Zd n r)
def col (q:P3):Int × Int:=(q.1,q.2.1)
def Sw (pre:List (P3 × Nat)) (i j:Nat):Prop:=∃ l1 q l2 r,pre=l1 ++ (q,i) :: l2/\(r,j) ∈ l1/\col r=col q
theorem aic {i j:Nat}:¬ Sw [] i j:=by
 rintro ⟨l1,q,l2,r,e,_⟩
 cases l1 <;> cases e
theorem agO {pre:List (P3 × Nat)} {q:P3} {k i j:Nat}:Sw (pre ++ [(q,k)]) i j ↔ Sw pre i j \/ (i=k/\∃ r,(r,j) ∈ pre/\col r=col q):=by
 constructor
 ·rintro ⟨l1,q',l2,r,e,hr,hc⟩
  rcases List.eq_nil_or_concat l2 with rfl | ⟨l3,x,rfl⟩
  ·have h:=List.append_inj' e rfl
   have e2:((q,k):P3 × Nat)=(q',i):=by have:=h.2; simpa using this
   cases e2
   rw [h.1]
   exact .inr ⟨rfl,r,hr,hc⟩
  ·have e':pre ++ [(q,k)] = (l1 ++ (q',i) :: l3) ++ [x]:=by rw [e]; simp
   have h:=List.append_inj' e' rfl
   exact .inl ⟨l1,q',l3,r,h.1,hr,hc⟩
 ·rintro (⟨l1,q',l2,r,rfl,hr,hc⟩ | ⟨rfl,r,hr,hc⟩)
  ·exact ⟨l1,q',l2 ++ [(q,k)],r,by simp,hr,hc⟩
  ·exact ⟨pre,q,[],r,by simp,hr,hc⟩
def lt3 (a b:P3):Prop:=a.1 < b.1 \/ (a.1=b.1/\(a.2.1 < b.2.1 \/ (a.2.1=b.2.1/\a.2.2 < b.2.2)))
theorem afE {α:Type} {R:α->α->Prop} {l1 l2:List α} {x y:α} (h:(l1 ++ x :: l2).Pairwise R) (hy:y ∈ l1):R y x:=by
 rw [List.pairwise_append] at h
 exact h.2.2 y hy x (List.mem_cons_self ..)
theorem aef {pre:List (P3 × Nat)} (h:pre.Pairwise fun a b=>lt3 a.1 b.1) {i j:Nat}:Sw pre i j ↔ ∃ q r,(q,i) ∈ pre/\(r,j) ∈ pre/\q.1=r.1/\q.2.1=r.2.1/\r.2.2 < q.2.2:=by
 constructor
 ·rintro ⟨l1,q,l2,r,rfl,hr,hc⟩
  refine ⟨q,r,by simp,List.mem_append_left _ hr,?_⟩
  have:=afE h hr
  unfold lt3 at this
  unfold col at hc
  simp only [Prod.mk.injEq] at hc this
  omega
 ·rintro ⟨q,r,hq,hr,h1,h2,h3⟩
  obtain ⟨l1,l2,rfl⟩:=List.append_of_mem hq
  refine ⟨l1,q,l2,r,rfl,?_,by unfold col; rw [h1,h2]⟩
  rcases List.mem_append.mp hr with hr | hr
  ·exact hr
  ·exfalso
   rcases List.mem_cons.mp hr with e | hr
   ·cases e
    omega
   ·rw [List.pairwise_append,List.pairwise_cons] at h
    have:=h.2.1.1 _ hr
    unfold lt3 at this
    dsimp only at this
    omega
structure R0 (pre:List (P3 × Nat)) (f:Int × Int->Nat):Prop where
 bit:∀ c j,(f c).testBit j=true ↔ ∃ r,(r,j) ∈ pre/\col r=c
structure abR (n:Nat) (pre:List (P3 × Nat)) (U:List Nat):Prop where
 len:U.length=n
 bit:∀ i,i < n->∀ j,(U.getD i 0).testBit j=true ↔ Sw pre i j
theorem aft:R0 [] (fun _=>0):=⟨fun c j=>by simp⟩
theorem agL (n:Nat):abR n [] (List.replicate n 0):=⟨by simp,fun i hi j=>by
 have e:(List.replicate n 0).getD i 0=0:=by rw [List.getD_eq_getElem?_getD,List.getElem?_replicate]; split <;> rfl
 rw [e]
 simp
 exact aic⟩
theorem aep {pre:List (P3 × Nat)} {f:Int × Int->Nat} {q:P3} {k:Nat} (h:R0 pre f):R0 (pre ++ [(q,k)]) (fun c=>if c=col q then f (col q) ||| 2 ^ k else f c):=⟨fun c j=>by
 show (if c=col q then f (col q) ||| 2 ^ k else f c).testBit j=true ↔ _
 by_cases e:c=col q
 ·rw [if_pos e,Nat.testBit_or,Bool.or_eq_true,h.bit,Nat.testBit_two_pow,decide_eq_true_eq]
  constructor
  ·rintro (⟨r,h1,h2⟩ | rfl)
   ·exact ⟨r,List.mem_append_left _ h1,h2.trans e.symm⟩
   ·exact ⟨q,by simp,e.symm⟩
  ·rintro ⟨r,h1,h2⟩
   rcases List.mem_append.mp h1 with h1 | h1
   ·exact .inl ⟨r,h1,h2.trans e⟩
   ·have:=List.mem_singleton.mp h1
    cases this
    exact .inr rfl
 ·rw [if_neg e,h.bit]
  constructor
  ·rintro ⟨r,h1,h2⟩
   exact ⟨r,List.mem_append_left _ h1,h2⟩
  ·rintro ⟨r,h1,h2⟩
   rcases List.mem_append.mp h1 with h1 | h1
   ·exact ⟨r,h1,h2⟩
   ·have:=List.mem_singleton.mp h1
    cases this
    exact absurd h2.symm e⟩
theorem abi {U:List Nat} {i j v:Nat} (hi:i < U.length):(U.set i v).getD j 0=if i=j then v else U.getD j 0:=by
 rw [List.getD_eq_getElem?_getD,List.getD_eq_getElem?_getD]
 by_cases e:i=j
 ·subst e
  rw [if_pos rfl,List.getElem?_set_self hi]
  rfl
 ·rw [if_neg e,List.getElem?_set_ne e]
theorem afj {n:Nat} {pre:List (P3 × Nat)} {U:List Nat} {f:Int × Int->Nat} {q:P3} {k:Nat} (hk:k < n) (hu:abR n pre U) (hs:R0 pre f):abR n (pre ++ [(q,k)]) (U.set k (U.getD k 0 ||| f (col q))):=⟨by rw [List.length_set]; exact hu.len,fun i hi j=>by
 rw [abi (by rw [hu.len]; exact hk),agO]
 by_cases e:k=i
 ·subst e
  rw [if_pos rfl,Nat.testBit_or,Bool.or_eq_true,hu.bit k hk,hs.bit]
  constructor
  ·rintro (h | h)
   ·exact .inl h
   ·exact .inr ⟨rfl,h⟩
  ·rintro (h | h)
   ·exact .inl h
   ·exact .inr h.2
 ·rw [if_neg e,hu.bit i hi]
  constructor
  ·exact .inl
  ·rintro (h | h)
   ·exact h
   ·exact absurd h.1.symm e⟩
def Tt (m i:Nat):Nat:=m - (m &&& 2 ^ i)
theorem adX (m i:Nat):m &&& 2 ^ i=if m.testBit i=true then 2 ^ i else 0:=by
 apply Nat.eq_of_testBit_eq
 intro j
 rw [Nat.testBit_and,Nat.testBit_two_pow]
 by_cases e:i=j
 ·subst e
  cases h:m.testBit i <;> simp
 ·cases h:m.testBit i <;> simp [e,Nat.testBit_two_pow]
theorem aeR (H:∀ m n:Nat,(m ||| n) + (m &&& n)=m + n) (m i j:Nat):(Tt m i).testBit j=(m.testBit j && decide (j ≠ i)):=by
 unfold Tt
 rw [adX]
 cases h:m.testBit i with
 | false =>
  rw [if_neg (by simp),Nat.sub_zero]
  by_cases e:j=i
  ·subst e
   simp [h]
  ·simp [e]
 | true =>
  rw [if_pos rfl]
  have e1:(m ^^^ 2 ^ i) ||| 2 ^ i=m:=by
   apply Nat.eq_of_testBit_eq
   intro j
   rw [Nat.testBit_or,Nat.testBit_xor,Nat.testBit_two_pow]
   by_cases e:i=j
   ·subst e
    simp [h]
   ·simp [e]
  have e2:(m ^^^ 2 ^ i) &&& 2 ^ i=0:=by
   apply Nat.eq_of_testBit_eq
   intro j
   rw [Nat.testBit_and,Nat.testBit_xor,Nat.testBit_two_pow]
   by_cases e:i=j
   ·subst e
    simp [h]
   ·simp [e]
  have e3:=H (m ^^^ 2 ^ i) (2 ^ i)
  rw [e1,e2] at e3
  have e4:m - 2 ^ i=m ^^^ 2 ^ i:=by omega
  rw [e4,Nat.testBit_xor,Nat.testBit_two_pow]
  by_cases e:i=j
  ·subst e
   simp [h]
  ·have e':¬ j=i:=fun z=>e z.symm
   simp [e,e']
structure Jx (n:Nat) (R:Nat->Nat->Prop) (k:Nat) (U:List Nat):Prop where
 len:U.length=n
 bit:∀ i,i < n->∀ j,(U.getD i 0).testBit j=true ↔ Via R k i j
structure T4 (n:Nat) (R:Nat->Nat->Prop) (k l:Nat) (U:List Nat):Prop where
 len:U.length=n
 bit:∀ i,i < n->∀ j,(U.getD i 0).testBit j=true ↔ (if i < l then Via R (k + 1) i j else Via R k i j)
def UL (k:Nat) (U:List Nat) (l:Nat):List Nat:=if (U.getD l 0).testBit k then U.set l (U.getD l 0 ||| U.getD k 0) else U
theorem Jx.start {n k:Nat} {R:Nat->Nat->Prop} {U:List Nat} (h:Jx n R k U):T4 n R k 0 U:=⟨h.len,fun i hi j=>by rw [if_neg (by omega)]; exact h.bit i hi j⟩
theorem T4.fin {n k:Nat} {R:Nat->Nat->Prop} {U:List Nat} (h:T4 n R k n U):Jx n R (k + 1) U:=⟨h.len,fun i hi j=>by rw [h.bit i hi j,if_pos hi]⟩
theorem afh {R:Nat->Nat->Prop} {k j:Nat}:Via R (k + 1) k j ↔ Via R k k j:=by
 constructor
 ·rintro (h | ⟨_,h⟩) <;> exact h
 ·exact .inl
theorem T4.step {n k l:Nat} {R:Nat->Nat->Prop} {U:List Nat} (hk:k < n) (hl:l < n) (h:T4 n R k l U):T4 n R k (l + 1) (UL k U l):=by
 have akI:∀ j,(U.getD k 0).testBit j=true ↔ Via R k k j:=fun j=>by
  rw [h.bit k hk j]
  split
  ·exact afh
  ·exact Iff.rfl
 have agU:∀ j,(U.getD l 0).testBit j=true ↔ Via R k l j:=fun j=>by
  rw [h.bit l hl j,if_neg (by omega)]
 unfold UL
 split
 ·rename_i hb
  refine ⟨by rw [List.length_set]; exact h.len,fun i hi j=>?_⟩
  rw [abi (by rw [h.len]; exact hl)]
  by_cases e:l=i
  ·subst e
   rw [if_pos rfl,if_pos (by omega),Nat.testBit_or,Bool.or_eq_true,agU,akI]
   constructor
   ·rintro (g | g)
    ·exact .inl g
    ·exact .inr ⟨(agU k).mp hb,g⟩
   ·rintro (g | ⟨_,g⟩)
    ·exact .inl g
    ·exact .inr g
  ·rw [if_neg e,h.bit i hi j]
   by_cases q:i < l
   ·rw [if_pos q,if_pos (by omega)]
   ·rw [if_neg q,if_neg (by omega)]
 ·rename_i hb
  refine ⟨h.len,fun i hi j=>?_⟩
  by_cases e:l=i
  ·subst e
   rw [if_pos (by omega),agU]
   constructor
   ·exact .inl
   ·rintro (g | ⟨g,_⟩)
    ·exact g
    ·exact absurd ((agU k).mpr g) hb
  ·rw [h.bit i hi j]
   by_cases q:i < l
   ·rw [if_pos q,if_pos (by omega)]
   ·rw [if_neg q,if_neg (by omega)]
theorem ae1 {t:Tower} (hb:∀ i j,j ∈ t.below i->j < t.n) (hd:∀ i,(t.below i).Nodup) {U:List Nat} (h:Jx t.n (adh t) t.n U) {i:Nat} (hi:i < t.n):((t.under i).contains i)=(U.getD i 0).testBit i:=by
 rw [Bool.eq_iff_iff,List.contains_iff_mem,ad7 t hb hd,h.bit i hi,agI (R:=adh t) fun i j h=>hb i j h]
def Ew:Bytes->Option (List Place)
 | []=>some []
 | c :: r=>match placeOf c with
  | none=>none
  | some p=>match Ew r with
   | none=>none
   | some l=>some (p :: l)
theorem VB:∀ (w:Nat) (row:Bytes),Gz w row=if row.length=w then Ew row else none
 | 0,[]=>rfl
 | 0,_ :: _=>rfl
 | _ + 1,[]=>rfl
 | w + 1,c :: r=>by
  rw [Gz,Ew,VB w r,List.length_cons]
  cases placeOf c with
  | none=>simp
  | some p =>
   by_cases e:r.length=w
   ·rw [if_pos e,if_pos (by omega)]
    all_goals (cases Ew r <;> rfl)
   ·rw [if_neg e,if_neg (by omega)]
theorem Rk:∀ (a b:Bytes),Ew (a ++ b)=match Ew a with
  | none=>none
  | some x=>match Ew b with
   | none=>none
   | some y=>some (x ++ y)
 | [],b=>by
  rw [List.nil_append,Ew]
  cases Ew b <;> rfl
 | c :: a,b=>by
  rw [List.cons_append,Ew,Ew,Rk a b]
  cases placeOf c with
  | none=>rfl
  | some p =>
   cases Ew a with
   | none=>rfl
   | some x =>
    cases Ew b <;> rfl
theorem Rj:∀ {a:Bytes} {l:List Place},Ew a=some l->l.length=a.length
 | [],l,h=>by cases h; rfl
 | c :: a,l,h=>by
  rw [Ew] at h
  cases e:placeOf c with
  | none=>rw [e] at h; cases h
  | some p =>
   rw [e] at h
   cases e2:Ew a with
   | none=>rw [e2] at h; cases h
   | some x =>
    rw [e2] at h
    cases h
    rw [List.length_cons,List.length_cons,Rj e2]
def Dc (w:Nat):List Bytes->Option (List (List Place))
 | []=>some []
 | r :: rs=>match Gz w r with
  | none=>none
  | some l=>match Dc w rs with
   | none=>none
   | some ls=>some (l :: ls)
theorem Og (w:Nat):∀ (a b:List Bytes),Dc w (a ++ b)=match Dc w a with
  | none=>none
  | some x=>match Dc w b with
   | none=>none
   | some y=>some (x ++ y)
 | [],b=>by
  rw [List.nil_append,Dc]
  cases Dc w b <;> rfl
 | c :: a,b=>by
  rw [List.cons_append,Dc,Dc,Og w a b]
  cases Gz w c with
  | none=>rfl
  | some p =>
   cases Dc w a with
   | none=>rfl
   | some x =>
    cases Dc w b <;> rfl
theorem Ti (w:Nat):∀ (n:Nat) (rs:List Bytes),CZ w n rs=if n <= rs.length then (Dc w (rs.take n)).map (fun ls=>(ls,rs.drop n)) else none
 | 0,rs=>by rw [CZ,if_pos (Nat.zero_le _)]; rfl
 | n + 1,[]=>by rw [CZ,if_neg (by simp)]
 | n + 1,r :: rs=>by
  rw [CZ,Ti w n rs,List.take_succ_cons,Dc,List.drop_succ_cons,List.length_cons]
  cases Gz w r with
  | none=>simp
  | some l =>
   by_cases e:n <= rs.length
   ·rw [if_pos e,if_pos (by omega)]
    cases Dc w (rs.take n) <;> rfl
   ·rw [if_neg e,if_neg (by omega)]
theorem Oe {w:Nat}:∀ {rs:List Bytes} {ls:List (List Place)},Dc w rs=some ls->ls.flatten.length=rs.length * w
 | [],ls,h=>by cases h; simp
 | r :: rs,ls,h=>by
  rw [Dc,VB] at h
  by_cases e:r.length=w
  ·rw [if_pos e] at h
   cases e1:Ew r with
   | none=>rw [e1] at h; cases h
   | some l =>
    rw [e1] at h
    cases e2:Dc w rs with
    | none=>rw [e2] at h; cases h
    | some x =>
     rw [e2] at h
     cases h
     rw [List.flatten_cons,List.length_append,Oe e2,Rj e1,List.length_cons,e,Nat.succ_mul,Nat.add_comm]
  ·rw [if_neg e] at h; cases h
def Hl (w d:Nat):Nat->List Place->List (P3 × Int)
 | _,[]=>[]
 | i,p :: r=>(if p.isCell=true then [(up (FQ w d i),(p.byte.toNat:Int))] else []) ++ Hl w d (i + 1) r
theorem abk (w d:Nat):∀ (a b:List Place) (i:Nat),Hl w d i (a ++ b)=Hl w d i a ++ Hl w d (i + a.length) b
 | [],b,i=>rfl
 | p :: a,b,i=>by
  rw [List.cons_append,Hl,Hl,abk w d a b,List.append_assoc,List.length_cons]
  congr 3
  omega
theorem Wv (w d:Nat):∀ (a:List Place) (i:Nat),(Hl w d i a).length <= a.length
 | [],i=>Nat.le_refl _
 | p :: a,i=>by
  rw [Hl,List.length_append,List.length_cons]
  have:=Wv w d a (i + 1)
  by_cases e:p.isCell=true
  ·rw [if_pos e]; simp; omega
  ·rw [if_neg e]; simp; omega
theorem YQ {w d:Nat}:∀ {a:List Place} {i:Nat} {q:P3},q ∈ (Hl w d i a).map (·.1)->∃ j,i <= j/\j < i + a.length/\q=up (FQ w d j)
 | [],i,q,h=>by cases h
 | p :: a,i,q,h=>by
  rw [Hl,List.map_append,List.mem_append] at h
  rcases h with h | h
  ·by_cases e:p.isCell=true
   ·rw [if_pos e] at h
    simp at h
    exact ⟨i,Nat.le_refl _,by simp,h⟩
   ·rw [if_neg e] at h; cases h
  ·obtain ⟨j,h1,h2,h3⟩:=YQ h
   exact ⟨j,by omega,by rw [List.length_cons]; omega,h3⟩
theorem ael {w d a b:Nat} (hw:0 < w) (hd:0 < d) (h:FQ w d a=FQ w d b):a=b:=by
 unfold FQ at h
 simp only [Prod.mk.injEq] at h
 obtain ⟨h1,h2,h3⟩:=h
 have e1:=Nat.div_add_mod a w
 have e2:=Nat.div_add_mod b w
 have e3:=Nat.div_add_mod (a / w) d
 have e4:=Nat.div_add_mod (b / w) d
 have:a / w=b / w:=by rw [<- e3,<- e4,h2,h3]
 rw [<- e1,<- e2,this,h1]
theorem acY {w d:Nat} (hw:0 < w) (hd:0 < d) (l:List Place):up (FQ w d l.length) ∉ (Hl w d 0 l).map (·.1):=fun h=>by
 obtain ⟨j,_,h2,h3⟩:=YQ h
 have:=ael hw hd (Ik h3)
 omega
theorem Qq (w d:Nat):∀ (l:List Place) (i:Nat),entries (((List.range' i l.length).map (FQ w d)).zip l)=Hl w d i l
 | [],i=>by simp [entries,Hl]
 | p :: l,i=>by
  rw [Hl,List.length_cons,List.range'_succ,List.map_cons,List.zip_cons_cons]
  have ih:=Qq w d l (i + 1)
  unfold entries at ih ⊢
  rw [List.filter_cons]
  cases e:p.isCell with
  | true =>
   rw [if_pos rfl,List.map_cons,ih,if_pos rfl]
   rfl
  | false =>
   rw [if_neg Bool.false_ne_true,ih,if_neg Bool.false_ne_true]
   rfl
theorem aac {p:Part} (hf:Full p):cellsOf p=Hl p.wide p.deep 0 p.places:=by
 unfold cellsOf
 rw [Pb,<- Qq]
 congr 2
 rw [<- List.range_eq_range']
 have:p.high * p.deep * p.wide=p.places.length:=by
  unfold Full at hf
  rw [hf,Nat.mul_comm p.wide,Nat.mul_comm (p.deep * p.wide),Nat.mul_assoc]
 rw [this]
theorem aek {w d n x:Nat} (hx:x < w):FQ w d (n * w + x)=(x,n % d,n / d):=by
 unfold FQ
 have e1:(n * w + x) % w=x:=by rw [Nat.mul_comm,Nat.mul_add_mod,Nat.mod_eq_of_lt hx]
 have e2:(n * w + x) / w=n:=by rw [Nat.mul_comm,Nat.mul_add_div (by omega),Nat.div_eq_of_lt hx,Nat.add_zero]
 rw [e1,e2]
theorem ZK {c:UInt8} {p:Place} (h:placeOf c=some p):p.byte=c/\(p.isCell=true ↔ c ≠ 46):=by
 unfold placeOf at h
 by_cases e1:c=46
 ·rw [if_pos e1] at h; cases h; subst e1; exact ⟨rfl,by decide⟩
 rw [if_neg e1] at h
 by_cases e2:c=35
 ·rw [if_pos e2] at h; cases h; subst e2; exact ⟨rfl,by decide⟩
 rw [if_neg e2] at h
 by_cases e3:c=115
 ·rw [if_pos e3] at h; cases h; subst e3; exact ⟨rfl,by decide⟩
 rw [if_neg e3] at h
 by_cases e4:c=116
 ·rw [if_pos e4] at h; cases h; subst e4; exact ⟨rfl,by decide⟩
 rw [if_neg e4] at h
 by_cases e5:c=98
 ·rw [if_pos e5] at h; cases h; subst e5; exact ⟨rfl,by decide⟩
 rw [if_neg e5] at h
 cases h
theorem split_len {d:UInt8}:∀ {t p:Bytes},p ∈ split d t->p.length <= t.length
 | [],p,h=>by
  simp [split] at h
  subst h
  simp
 | c :: r,p,h=>by
  rw [split] at h
  by_cases e:c=d
  ·rw [if_pos e] at h
   rcases List.mem_cons.mp h with rfl | h
   ·simp
   ·have:=split_len h
    rw [List.length_cons]; omega
  ·rw [if_neg e] at h
   cases e2:split d r with
   | nil=>exact absurd e2 (Er d r)
   | cons q qs =>
    rw [e2] at h
    rcases List.mem_cons.mp h with rfl | h
    ·have:=split_len (t:=r) (p:=q) (by rw [e2]; exact List.mem_cons_self ..)
     rw [List.length_cons,List.length_cons]; omega
    ·have:=split_len (t:=r) (p:=p) (by rw [e2]; exact List.mem_cons_of_mem _ h)
     rw [List.length_cons]; omega
def ZR (c:Catalogue):List Bytes->Option (List Line)
 | []=>some []
 | r :: rs=>match Ls c r with
  | none=>none
  | some l=>match ZR c rs with
   | none=>none
   | some ls=>some (l :: ls)
theorem YD (c:Catalogue):∀ (n:Nat) (rs:List Bytes),Hb c n rs=if rs.length <= n then ZR c rs else none
 | n,[]=>by cases n <;> rfl
 | 0,r :: rs=>by rw [Hb,if_neg (by simp)]
 | n + 1,r :: rs=>by
  rw [Hb,ZR,YD c n rs,List.length_cons]
  cases Ls c r with
  | none=>simp
  | some l =>
   by_cases e:rs.length <= n
   ·rw [if_pos e,if_pos (by omega)]
    all_goals (cases ZR c rs <;> rfl)
   ·rw [if_neg e,if_neg (by omega)]
theorem ag9 {n:Nat} {w:Bytes} (h:Gr n w=true):w.length <= n + 1/\32 ∉ w/\10 ∉ w:=by
 cases w with
 | nil=>cases h
 | cons c r =>
  have h':(isLow c && (decide (r.length <= n) && r.all isNm))=true:=h
  rw [Bool.and_eq_true,Bool.and_eq_true] at h'
  obtain ⟨h1,h2,h3⟩:=h'
  have hl:=of_decide_eq_true h2
  have key:∀ d:UInt8,(d=32 \/ d=10)->d ∉ c :: r:=fun d hd hm=>by
   rcases List.mem_cons.mp hm with rfl | hm
   ·rw [aa7 hd] at h1; cases h1
   ·have:=List.all_eq_true.mp h3 d hm
    rw [adC hd] at this; cases this
  exact ⟨by rw [List.length_cons]; omega,key 32 (.inl rfl),key 10 (.inr rfl)⟩
theorem bind_some {α β:Type} {f:Ps α} {g:α->Ps β} {t:Bytes} {z:β × Bytes} (h:Aj f g t=some z):∃ y t1,f t=some (y,t1)/\g y t1=some z:=by
 unfold Aj at h
 cases e:f t with
 | none=>rw [e] at h; cases h
 | some p=>rw [e] at h; exact ⟨p.1,p.2,rfl,h⟩
theorem Ld {α:Type} {x y:α} {t t':Bytes} (h:Eb x t=some (y,t')):x=y:=by
 unfold Eb at h
 cases h
 rfl
theorem QR {α:Type} {f:Ps α} {P:α->Prop} (hf:∀ t x t',f t=some (x,t')->P x):∀ (n:Nat) (t:Bytes) (l:List α) (t':Bytes),Dl f n t=some (l,t')->l.length <= n/\∀ x ∈ l,P x
 | 0,t,l,t',h=>by
  rw [Dl] at h
  dsimp only at h
  split at h
  ·cases h
  ·cases h
   exact ⟨Nat.le_refl _,fun x hx=>by cases hx⟩
 | n + 1,t,l,t',h=>by
  rw [Dl] at h
  dsimp only at h
  split at h
  ·obtain ⟨y,t1,h1,h2⟩:=bind_some h
   obtain ⟨l2,t2,h3,h4⟩:=bind_some h2
   have:=Ld h4
   subst this
   obtain ⟨a,b⟩:=QR hf n _ _ _ h3
   refine ⟨by rw [List.length_cons]; omega,fun x hx=>?_⟩
   rcases List.mem_cons.mp hx with rfl | hx
   ·exact hf _ _ _ h1
   ·exact b x hx
  ·cases h
   exact ⟨Nat.zero_le _,fun x hx=>by cases hx⟩
theorem digits_le (lo hi:Nat):∀ (f:Nat) (v:Option Nat) (t:Bytes) (n:Nat) (t':Bytes),BL lo hi f v t=some (n,t')->n <= hi
 | 0,_,_,_,_,h=>by cases h
 | f + 1,v,t,n,t',h=>by
  unfold BL at h
  cases e:G8 lo hi v t.head? with
  | some m=>rw [e] at h; exact digits_le lo hi f _ _ _ _ h
  | none =>
   rw [e] at h
   cases v with
   | none=>cases h
   | some m =>
    dsimp only at h
    split at h
    ·rename_i q
     cases h
     exact q.2
    ·cases h
theorem agD {lo hi:Nat} {t:Bytes} {n:Nat} {t':Bytes} (h:CW lo hi t=some (n,t')):n <= hi:=by
 obtain ⟨_,t1,_,h2⟩:=bind_some h
 exact digits_le lo hi _ _ _ _ _ h2
theorem aiC {c:Catalogue} {t:Bytes} {l:Line} {t':Bytes} (h:Kf c t=some (l,t')):l.r <= 3:=by
 obtain ⟨_,_,_,h⟩:=bind_some h
 obtain ⟨_,_,_,h⟩:=bind_some h
 obtain ⟨_,_,_,h⟩:=bind_some h
 obtain ⟨_,_,_,h⟩:=bind_some h
 obtain ⟨_,_,_,h⟩:=bind_some h
 obtain ⟨_,_,_,h⟩:=bind_some h
 obtain ⟨r,_,hr,h⟩:=bind_some h
 obtain ⟨_,_,_,h⟩:=bind_some h
 have:=Ld h
 subst this
 exact agD hr
theorem aa9 {names:List Bytes}:∀ (f:Nat) (p t:Bytes) (i:Nat) (t':Bytes),BX names f p t=some (i,t')->i < names.length
 | 0,p,t,i,t',h=>by
  unfold BX at h
  split at h
  ·rename_i j e
   cases h
   exact (List.findIdx?_eq_some_iff_findIdx_eq.mp e).1
  ·cases h
 | f + 1,p,t,i,t',h=>by
  unfold BX at h
  cases t with
  | nil=>cases h
  | cons c r =>
   dsimp only at h
   by_cases g:(names.any fun (n:Bytes)=>(p ++ [c]).isPrefixOf n)=true
   ·rw [if_pos g] at h
    exact aa9 f _ _ _ _ h
   ·rw [if_neg g] at h
    split at h
    ·rename_i j e
     cases h
     exact (List.findIdx?_eq_some_iff_findIdx_eq.mp e).1
    ·cases h
theorem aeE {c:Catalogue} {t:Bytes} {l:Line} {t':Bytes} (h:Kf c t=some (l,t')):l.part < c.length:=by
 obtain ⟨_,_,_,h⟩:=bind_some h
 obtain ⟨p,_,hp,h⟩:=bind_some h
 obtain ⟨_,_,_,h⟩:=bind_some h
 obtain ⟨_,_,_,h⟩:=bind_some h
 obtain ⟨_,_,_,h⟩:=bind_some h
 obtain ⟨_,_,_,h⟩:=bind_some h
 obtain ⟨r,_,hr,h⟩:=bind_some h
 obtain ⟨_,_,_,h⟩:=bind_some h
 have:=Ld h
 subst this
 have:=aa9 _ _ _ _ _ hp
 rw [List.length_map] at this
 exact this
theorem abJ {c:Catalogue} {t:Bytes} {b:Build} (h:readM (Ex c) t=some b):b.lines.length <= 256/\∀ l ∈ b.lines,l.r <= 3/\l.part < c.length:=by
 unfold readM at h
 cases e:Ex c t with
 | none=>rw [e] at h; cases h
 | some z =>
  rw [e] at h
  obtain ⟨b',t'⟩:=z
  have:b'=b:=Option.some.inj h
  subst this
  obtain ⟨_,_,_,h⟩:=bind_some e
  obtain ⟨_,_,_,h⟩:=bind_some h
  obtain ⟨_,_,_,h⟩:=bind_some h
  obtain ⟨l,_,hl,h⟩:=bind_some h
  have:=Ld h
  subst this
  exact QR (P:=fun l=>l.r <= 3/\l.part < c.length) (fun t x t' h=>⟨aiC h,aeE h⟩) _ _ _ _ hl
theorem ahB {t:Bytes} {c:Catalogue} (h:readM Qj t=some c):c.length <= 64:=by
 unfold readM at h
 cases e:Qj t with
 | none=>rw [e] at h; cases h
 | some z =>
  rw [e] at h
  obtain ⟨b',t'⟩:=z
  have:b'=c:=Option.some.inj h
  subst this
  obtain ⟨_,_,_,h⟩:=bind_some e
  obtain ⟨l,_,hl,h⟩:=bind_some h
  have:=Ld h
  subst this
  have:=(QR (P:=fun _=>True) (fun _ _ _ _=>trivial) _ _ _ _ hl).1
  rw [List.length_cons]
  omega
theorem WR:∀ a:Bytes,before a a=false
 | []=>rfl
 | a :: x=>by rw [before,WR x]; simp
theorem Qv:∀ {a b c:Bytes},before a b=true->before b c=true->before a c=true
 | [],[],_,h,_=>by cases h
 | [],_ :: _,[],_,h=>by cases h
 | [],_ :: _,_ :: _,_,_=>rfl
 | _ :: _,[],_,h,_=>by cases h
 | _ :: _,_ :: _,[],_,h=>by cases h
 | a :: x,b :: y,c :: z,h1,h2=>by
  rw [before,Bool.or_eq_true,Bool.and_eq_true,decide_eq_true_iff,beq_iff_eq] at h1 h2 ⊢
  rcases h1 with h1 | ⟨rfl,h1⟩
  ·rcases h2 with h2 | ⟨rfl,h2⟩
   ·exact .inl (by omega)
   ·exact .inl h1
  ·rcases h2 with h2 | ⟨rfl,h2⟩
   ·exact .inl h2
   ·exact .inr ⟨rfl,Qv h1 h2⟩
theorem Lb:∀ {a:Bytes} {r:List Bytes},Ec (a :: r)=true->∀ x ∈ r,before a x=true
 | _,[],_,_,hx=>by cases hx
 | a,b :: r,h,x,hx=>by
  rw [Ec,Bool.and_eq_true] at h
  rcases List.mem_cons.mp hx with rfl | hx
  ·exact h.1
  ·exact Qv h.1 (Lb h.2 x hx)
theorem VD:∀ {ns:List Bytes},Ec ns=true->ns.Nodup
 | [],_=>List.nodup_nil
 | [a],_=>by simp
 | a :: b :: r,h=>by
  have h2:=h
  rw [Ec,Bool.and_eq_true] at h2
  refine List.nodup_cons.mpr ⟨fun hm=>?_,VD h2.2⟩
  have:=Lb h a hm
  rw [WR] at this
  cases this
theorem agx {c:Catalogue} {b:Build} {i j:Nat} (h:j ∈ (tower c b).below i):j < (tower c b).n:=by
 unfold Tower.below tower at h
 dsimp only at h
 rw [List.getD_eq_getElem?_getD,List.getElem?_map] at h
 generalize hs:((b.shapes c).map fun (x:Shape)=>(x,columns x)).zipIdx=s at h
 cases e:s[i]? with
 | none=>rw [e] at h; cases h
 | some x =>
  rw [e] at h
  obtain ⟨y,hy,rfl⟩:=List.mem_map.mp h
  have hy:=(List.mem_filter.mp hy).1
  rw [<- hs] at hy
  have:=(List.mem_zipIdx hy).2.1
  rw [List.length_map] at this
  unfold Build.shapes at this
  rw [List.length_map] at this
  show _ < b.lines.length
  omega
theorem Np {α:Type}:∀ (l:List α) (k:Nat),((l.zipIdx k).map (·.2)).Nodup/\∀ x ∈ (l.zipIdx k).map (·.2),k <= x
 | [],k=>⟨List.nodup_nil,fun x hx=>by cases hx⟩
 | a :: l,k=>by
  obtain ⟨h1,h2⟩:=Np l (k + 1)
  rw [List.zipIdx_cons,List.map_cons]
  refine ⟨List.nodup_cons.mpr ⟨fun h=>?_,h1⟩,fun x hx=>?_⟩
  ·have:=h2 _ h
   dsimp only at this
   omega
  ·rcases List.mem_cons.mp hx with rfl | hx
   ·exact Nat.le_refl _
   ·have:=h2 x hx
    omega
theorem abM {c:Catalogue} {b:Build} (i:Nat):((tower c b).below i).Nodup:=by
 unfold Tower.below tower
 dsimp only
 rw [List.getD_eq_getElem?_getD,List.getElem?_map]
 generalize hs:((b.shapes c).map fun (x:Shape)=>(x,columns x)).zipIdx=s
 cases e:s[i]? with
 | none=>exact List.nodup_nil
 | some x =>
  show ((s.filter _).map _).Nodup
  have h:(s.map (·.2)).Nodup:=by rw [<- hs]; exact (Np _ _).1
  exact List.Nodup.sublist (List.Sublist.map _ List.filter_sublist) h
theorem Wt {α:Type} {p q:α->Bool}:∀ {l:List α},(∀ x ∈ l,p x=q x)->l.find? p=l.find? q
 | [],_=>rfl
 | a :: l,h=>by
  rw [List.find?_cons,List.find?_cons,h a (List.mem_cons_self ..),Wt fun x hx=>h x (List.mem_cons_of_mem _ hx)]
theorem ahC {c:Catalogue} {b:Build} {U:List Nat} (h:Jx (tower c b).n (adh (tower c b)) (tower c b).n U):(tower c b).cant=match (List.range b.lines.length).find? fun i=>(U.getD i 0).testBit i with
 | some i=>some (1,i)
 | none=>((List.range b.lines.length).find? fun i=>!((tower c b).hold.getD i false)).map fun i=>(2,i):=by
 unfold Tower.cant
 have e:((List.range (tower c b).n).find? fun i=>((tower c b).under i).contains i)=(List.range b.lines.length).find? fun i=>(U.getD i 0).testBit i:=by
  show (List.range b.lines.length).find? _=_
  refine Wt fun i hi=>?_
  exact ae1 (fun i j=>agx) abM h (List.mem_range.mp hi)
 rw [e]
 rfl
def Dt (m:Nat) (l:List Nat):Prop:=∀ j,m.testBit j=true ↔ j ∈ l
theorem Dt.nil:Dt 0 []:=fun j=>by rw [Nat.zero_testBit]; simp
theorem Dt.snoc {m:Nat} {l:List Nat} {i:Nat} (h:Dt m l):Dt (m ||| 2 ^ i) (l ++ [i]):=fun j=>by
 rw [Nat.testBit_or,Nat.testBit_two_pow,Bool.or_eq_true,h j,List.mem_append,List.mem_singleton,decide_eq_true_iff]
 exact or_congr_right eq_comm
def SQ (x m:Nat):Nat:=x - (x &&& m)
theorem aer {x m:Nat}:SQ x m=0 ↔ ∀ j,x.testBit j=true->m.testBit j=true:=by
 unfold SQ
 have hle:x &&& m <= x:=Nat.and_le_left
 constructor
 ·intro h j hj
  have e:x &&& m=x:=by omega
  have:=congrArg (fun z=>Nat.testBit z j) e
  rw [Nat.testBit_and,hj,Bool.true_and] at this
  exact this
 ·intro h
  have e:x &&& m=x:=Nat.eq_of_testBit_eq fun j=>by
   rw [Nat.testBit_and]
   cases hj:x.testBit j with
   | false=>rfl
   | true=>rw [h j hj]; rfl
  omega
def Tc (U:List Nat) (m i:Nat):Bool:=!(m.testBit i) && decide (SQ (U.getD i 0) m=0)
section
variable {c:Catalogue} {b:Build} {U:List Nat}
theorem acG (hU:∀ i,i < b.lines.length->∀ j,(U.getD i 0).testBit j=true ↔ j ∈ (tower c b).below i) {m:Nat} {done:List Nat} (hm:Dt m done) {i:Nat} (hi:i < b.lines.length):Tc U m i=(tower c b).ready done i:=by
 unfold Tc Tower.ready
 congr 1
 ·rw [Bool.not_eq_eq_eq_not,Bool.not_not,Bool.eq_iff_iff,List.contains_iff_mem]; exact hm i
 ·rw [Bool.eq_iff_iff,decide_eq_true_iff,aer,List.all_eq_true]
  constructor
  ·intro h j hj
   rw [List.contains_iff_mem]
   exact (hm j).mp (h j ((hU i hi j).mpr hj))
  ·intro h j hj
   have:=h j ((hU i hi j).mp hj)
   rw [List.contains_iff_mem] at this
   exact (hm j).mpr this
end
def runK {α β:Type} (r:Rd α) (s:Nat × Bytes) (K:α->Nat × Bytes->Except Nat β):Except Nat β:=match r.run s with
 | .ok (x,s')=>K x s'
 | .error e=>.error e
section
variable {α β γ:Type} {K:β->Nat × Bytes->Except Nat γ}
theorem BR (r:Rd α) (g:α->Rd β) (s:Nat × Bytes):runK (r >>= g) s K=runK r s fun x s'=>runK (g x) s' K:=by
 unfold runK
 show (match (r s >>= fun p=>g p.1 p.2) with | .ok (x,s')=>K x s' | .error e=>.error e)=match r s with | .ok (x,s')=>(match (g x) s' with | .ok (x,s')=>K x s' | .error e=>.error e) | .error e=>.error e
 cases r s with
 | error e=>rfl
 | ok p=>rfl
theorem runK_pure (x:β) (s:Nat × Bytes):runK (pure x:Rd β) s K=K x s:=rfl
theorem FT {K:Option UInt8->Nat × Bytes->Except Nat γ} (n:Nat) (t:Bytes):runK peek (n,t) K=K t.head? (n,t):=rfl
theorem Yl {K:Unit->Nat × Bytes->Except Nat γ} (n:Nat) (t:Bytes):runK skip (n,t) K=K () (n + 1,t.drop 1):=rfl
theorem Rh {K:Unit->Nat × Bytes->Except Nat γ} (c:UInt8) (n:Nat) (t:Bytes):runK (byte_ c) (n,t) K=if t.head? = some c then K () (n + 1,t.drop 1) else .error n:=by
 unfold byte_
 rw [BR,FT]
 by_cases h:t.head? = some c
 ·rw [if_pos h,if_pos h]; rfl
 ·rw [if_neg h,if_neg h]; rfl
end
def GD (lo:Nat) (v:Option Nat) (c:UInt8):Option Nat:=if isDigit c=false \/ v=some 0 then none else if leadsTo lo 255 (10 * v.getD 0 + (c.toNat - 48))=true then some (10 * v.getD 0 + (c.toNat - 48)) else none
inductive PSt where
 | word (k:Nat)
 | gap
 | num (lo:Nat) (v:Option Nat)
structure PCf where
 pgs:Pages
 cur:List Nat
 st:PSt
def Ep (x:PCf) (c:UInt8):Option PCf:=match x.st with
 | .word k=>if x.pgs.length < 256/\(ascii "page")[k]? = some c then some (if k=3 then ⟨x.pgs,[],.gap⟩ else ⟨x.pgs,[],.word (k + 1)⟩) else none
 | .gap=>if c=32 then some ⟨x.pgs,[],.num 0 none⟩ else none
 | .num lo v=>match GD lo v c with
  | some n=>some ⟨x.pgs,x.cur,.num lo (some n)⟩
  | none=>match v with
   | some n=>if lo <= n/\n <= 255 then (if c=10 then some ⟨x.pgs ++ [x.cur ++ [n]],[],.word 0⟩ else if c=32/\n + 1 <= 255 then some ⟨x.pgs,x.cur ++ [n],.num (n + 1) none⟩ else none) else none
   | none=>none
def ahu (x:PCf):Bool:=match x.st with
 | .word 0=>!x.pgs.isEmpty
 | _=>false
def goP:PCf->Nat->Bytes->Except Nat Pages
 | x,n,[]=>if ahu x=true then .ok x.pgs else .error n
 | x,n,c :: t=>match Ep x c with
  | some y=>goP y (n + 1) t
  | none=>.error n
def behind (pgs:Pages) (s:Nat × Bytes):Except Nat Pages:=runK (toEnd page_ (256 - pgs.length)) s fun l _=>.ok (pgs ++ l)
def Ql (pgs:Pages) (cur:List Nat) (m i:Nat) (s:Nat × Bytes):Except Nat Pages:=if s.2.head? = some 10 then behind (pgs ++ [cur ++ [i]]) (s.1 + 1,s.2.drop 1) else runK (pageFrom m (i + 1)) s fun r s'=>behind (pgs ++ [cur ++ i :: r]) s'
def pot:Option Nat->Nat
 | none=>4
 | some n=>if n=0 then 1 else if n <= 2 then 3 else if n <= 25 then 2 else 1
theorem adv:∀ v,1 <= pot v
 | none=>by decide
 | some n=>by
  unfold pot
  dsimp only
  repeat' split
  all_goals omega
theorem Wk {lo n:Nat} (h:leadsTo lo 255 n=true):n <= 255:=by
 unfold leadsTo at h
 split at h
 ·omega
 ·rw [List.any_eq_true] at h
  obtain ⟨k,_,hk⟩:=h
  rw [Bool.and_eq_true,decide_eq_true_iff] at hk
  have:1 <= 10 ^ k:=Nat.pow_pos (by decide)
  have:n * 1 <= n * 10 ^ k:=Nat.mul_le_mul_left n this
  omega
theorem afT {lo:Nat} {v:Option Nat} {c:UInt8} {n:Nat} (h:GD lo v c=some n):pot (some n) < pot v:=by
 unfold GD at h
 split at h
 ·cases h
 ·rename_i q
  split at h
  ·rename_i q2
   cases h
   have hle:=Wk q2
   cases v with
   | none =>
    show pot (some _) < 4
    unfold pot
    dsimp only
    repeat' split
    all_goals omega
   | some w =>
    have hw:w ≠ 0:=fun z=>q (.inr (by rw [z]))
    have e:(some w).getD 0=w:=rfl
    rw [e] at hle ⊢
    unfold pot
    dsimp only
    repeat' split
    all_goals omega
  ·cases h
theorem SN {K:Nat->Nat × Bytes->Except Nat Pages} (lo f:Nat) (v:Option Nat) (n:Nat) (t:Bytes):runK (digits lo 255 (f + 1) v) (n,t) K=match t.head?.bind (GD lo v) with
  | some d=>runK (digits lo 255 f (some d)) (n + 1,t.drop 1) K
  | none=>match v with
   | some d=>if lo <= d/\d <= 255 then K d (n,t) else .error n
   | none=>.error n:=by
 conv=>lhs; unfold digits
 rw [BR,FT]
 show runK (match t.head?.bind (GD lo v) with
  | some d=>do
   skip
   digits lo 255 f (some d)
  | none=>match v with
   | some d=>if lo <= d/\d <= 255 then return d else stray
   | none=>stray) (n,t) K=_
 cases t.head?.bind (GD lo v) with
 | some d=>dsimp only; rw [BR,Yl]
 | none =>
  cases v with
  | none=>rfl
  | some d =>
   dsimp only
   by_cases h:lo <= d/\d <= 255
   ·rw [if_pos h,if_pos h]; rfl
   ·rw [if_neg h,if_neg h]; rfl
theorem Ms {K:List Nat->Nat × Bytes->Except Nat Pages} (m lo n:Nat) (t:Bytes):runK (pageFrom (m + 1) lo) (n,t) K=if t.head? = some 32/\lo <= 255 then runK (digits lo 255 20 none) (n + 1,t.drop 1) (fun i s=>if s.2.head? = some 10 then K [i] (s.1 + 1,s.2.drop 1) else runK (pageFrom m (i + 1)) s fun r s'=>K (i :: r) s') else .error n:=by
 conv=>lhs; unfold pageFrom
 rw [BR,FT]
 by_cases h:t.head? = some 32/\lo <= 255
 ·rw [if_pos h,if_pos h]
  unfold numAfter num
  rw [BR,BR,Rh,if_pos h.1]
  congr 1
  funext i s
  obtain ⟨n1,t1⟩:=s
  rw [BR,FT]
  dsimp only
  by_cases h2:t1.head? = some 10
  ·rw [if_pos h2,if_pos h2,BR,Yl]; rfl
  ·rw [if_neg h2,if_neg h2,BR]; rfl
 ·rw [if_neg h,if_neg h]; rfl
def aij (x:PCf) (s:Nat × Bytes) (r:Except Nat Pages):Prop:=match x.st with
 | .word k=>k < 4/\(if k=0/\x.pgs ≠ [] then r=behind x.pgs s else x.pgs.length < 256/\r=runK (bytes_ ((ascii "page").drop k)) s fun _ s'=>runK (pageFrom 257 0) s' fun p s''=>behind (x.pgs ++ [p]) s'')
 | .gap=>x.pgs.length < 256/\r=runK (pageFrom 257 0) s fun p s'=>behind (x.pgs ++ [p]) s'
 | .num lo v=>x.pgs.length < 256/\∃ f m,pot v <= f/\256 < m + lo + 1/\lo <= 255/\r=runK (digits lo 255 f v) s fun i s'=>Ql x.pgs x.cur m i s'
theorem ac9 (pgs:Pages) (n:Nat):behind pgs (n,[]) = .ok pgs:=by
 unfold behind
 cases 256 - pgs.length with
 | zero=>unfold toEnd; rw [BR,FT,if_neg (by simp),runK_pure,List.append_nil]
 | succ m=>unfold toEnd; rw [BR,FT,if_neg (by simp),runK_pure,List.append_nil]
theorem abN (pgs:Pages) (n:Nat) (c:UInt8) (t:Bytes):behind pgs (n,c :: t)=if pgs.length < 256 then runK (bytes_ (ascii "page")) (n,c :: t) (fun _ s'=>runK (pageFrom 257 0) s' fun p s''=>behind (pgs ++ [p]) s'') else .error n:=by
 by_cases h:pgs.length < 256
 ·rw [if_pos h]
  unfold behind
  rw [show 256 - pgs.length=(256 - (pgs.length + 1)) + 1 by omega]
  conv=>lhs; unfold toEnd
  rw [BR,FT,if_pos (show (c :: t).head?.isSome=true from rfl),BR]
  unfold page_
  rw [BR]
  congr 1
  funext _ s1
  congr 1
  funext p s2
  rw [BR,List.length_append,List.length_singleton]
  congr 1
  funext l s3
  rw [runK_pure,List.append_assoc]
  rfl
 ·rw [if_neg h]
  unfold behind
  rw [show 256 - pgs.length=0 by omega]
  unfold toEnd
  rw [BR,FT,if_pos (show (c :: t).head?.isSome=true from rfl)]
  rfl
theorem XD (pgs:Pages) (k:Nat) (hk:k < 4):∃ c0,(ascii "page")[k]? = some c0/\(ascii "page").drop k=c0 :: (ascii "page").drop (k + 1):=by
 match k,hk with
 | 0,_=>exact ⟨_,rfl,rfl⟩
 | 1,_=>exact ⟨_,rfl,rfl⟩
 | 2,_=>exact ⟨_,rfl,rfl⟩
 | 3,_=>exact ⟨_,rfl,rfl⟩
theorem ZM (pgs:Pages) (cur:List Nat) (m i n:Nat) (c:UInt8) (t:Bytes):Ql pgs cur m i (n,c :: t)=if c=10 then behind (pgs ++ [cur ++ [i]]) (n + 1,t) else runK (pageFrom m (i + 1)) (n,c :: t) fun r s'=>behind (pgs ++ [cur ++ i :: r]) s':=by
 unfold Ql
 by_cases e:c=10
 ·rw [if_pos e,if_pos (show (c :: t).head? = some 10 by rw [e]; rfl)]; rfl
 ·rw [if_neg e,if_neg (fun z:(c :: t).head? = some 10=>e (Option.some.inj z))]
theorem aez {K:List Nat->Nat × Bytes->Except Nat Pages} (m lo n:Nat) (c:UInt8) (t:Bytes):runK (pageFrom (m + 1) lo) (n,c :: t) K=if c=32/\lo <= 255 then runK (digits lo 255 20 none) (n + 1,t) (fun i s=>if s.2.head? = some 10 then K [i] (s.1 + 1,s.2.drop 1) else runK (pageFrom m (i + 1)) s fun r s'=>K (i :: r) s') else .error n:=by
 rw [Ms]
 by_cases e:c=32/\lo <= 255
 ·rw [if_pos e,if_pos ⟨by rw [e.1]; rfl,e.2⟩]; rfl
 ·rw [if_neg e,if_neg (fun z=>e ⟨Option.some.inj z.1,z.2⟩)]
theorem JL:∀ (t:Bytes) (x:PCf) (n:Nat) (r:Except Nat Pages),aij x (n,t) r->r=goP x n t
 | [],⟨pgs,cur,.word k⟩,n,r,h=>by
  obtain ⟨hk,h⟩:=h
  rw [goP]
  by_cases e:k=0/\pgs ≠ []
  ·rw [if_pos e] at h
   rw [h,ac9,e.1,if_pos (by show (!pgs.isEmpty)=true; simpa using e.2)]
  ·rw [if_neg e] at h
   obtain ⟨c0,_,hd⟩:=XD pgs k hk
   rw [h.2,hd,bytes_,BR,Rh,if_neg (by intro z; cases z),if_neg]
   intro z
   unfold ahu at z
   dsimp only at z
   split at z
   ·rename_i q
    injection q with q
    exact e ⟨q,by simpa using z⟩
   ·cases z
 | [],⟨pgs,cur,.gap⟩,n,r,h=>by
  obtain ⟨_,h⟩:=h
  rw [goP,h,Ms,if_neg (by rintro ⟨z,_⟩; cases z),if_neg (by intro z; cases z)]
 | [],⟨pgs,cur,.num lo v⟩,n,r,h=>by
  obtain ⟨_,f,m,hf,hm,hlo,h⟩:=h
  rw [goP,if_neg (by intro z; cases z),h]
  obtain ⟨f,rfl⟩:∃ g,f=g + 1:=⟨f - 1,by have:=adv v; omega⟩
  rw [SN]
  dsimp only [List.head?,Option.bind]
  cases v with
  | none=>rfl
  | some d =>
   dsimp only
   by_cases hd:lo <= d/\d <= 255
   ·rw [if_pos hd]
    unfold Ql
    rw [if_neg (by intro z; cases z)]
    cases m with
    | zero=>rfl
    | succ m=>rw [Ms,if_neg (by rintro ⟨z,_⟩; cases z)]
   ·rw [if_neg hd]
 | c :: t,⟨pgs,cur,.word k⟩,n,r,h=>by
  obtain ⟨hk,h⟩:=h
  have key:pgs.length < 256->∀ q,q=runK (bytes_ ((ascii "page").drop k)) (n,c :: t) (fun _ s'=>runK (pageFrom 257 0) s' fun p s''=>behind (pgs ++ [p]) s'')->q=goP ⟨pgs,cur,.word k⟩ n (c :: t):=fun hl q hq=>by
   obtain ⟨c0,hg,hd⟩:=XD pgs k hk
   rw [hq,hd,bytes_,BR,Rh,goP]
   unfold Ep
   dsimp only
   rw [hg]
   by_cases e:c=c0
   ·rw [if_pos (by rw [e]; rfl),if_pos ⟨hl,by rw [e]⟩]
    dsimp only [List.drop]
    by_cases e3:k=3
    ·subst e3
     rw [if_pos rfl]
     exact JL t _ _ _ ⟨hl,rfl⟩
    ·rw [if_neg e3]
     refine JL t _ _ _ ⟨by omega,?_⟩
     rw [if_neg (by rintro ⟨z,_⟩; omega)]
     exact ⟨hl,rfl⟩
   ·rw [if_neg (by intro z; exact e (Option.some.inj z)),if_neg (by rintro ⟨_,z⟩; exact e (Option.some.inj z).symm)]
  by_cases e:k=0/\pgs ≠ []
  ·rw [if_pos e] at h
   rw [h,abN]
   by_cases hl:pgs.length < 256
   ·rw [if_pos hl]
    refine key hl _ ?_
    rw [e.1]
    rfl
   ·rw [if_neg hl,goP]
    unfold Ep
    dsimp only
    rw [if_neg (fun z=>hl z.1)]
  ·rw [if_neg e] at h
   exact key h.1 _ h.2
 | c :: t,⟨pgs,cur,.gap⟩,n,r,h=>by
  obtain ⟨hl,h⟩:=h
  rw [goP,h,Ms]
  unfold Ep
  dsimp only
  by_cases e:c=32
  ·rw [if_pos ⟨by rw [e]; rfl,by decide⟩,if_pos e]
   exact JL t _ _ _ ⟨hl,20,256,by decide,by decide,by decide,rfl⟩
  ·rw [if_neg (by rintro ⟨z,_⟩; exact e (Option.some.inj z)),if_neg e]
 | c :: t,⟨pgs,cur,.num lo v⟩,n,r,h=>by
  obtain ⟨hl,f,m,hf,hm,hlo,h⟩:=h
  rw [goP,h]
  obtain ⟨f,rfl⟩:∃ g,f=g + 1:=⟨f - 1,by have:=adv v; omega⟩
  rw [SN]
  unfold Ep
  dsimp only [List.head?,Option.bind]
  cases e:GD lo v c with
  | some d =>
   dsimp only [List.drop]
   have:=afT e
   exact JL t _ _ _ ⟨hl,f,m,by omega,hm,hlo,rfl⟩
  | none =>
   cases v with
   | none=>rfl
   | some d =>
    dsimp only
    by_cases hd:lo <= d/\d <= 255
    ·rw [if_pos hd,if_pos hd,ZM]
     by_cases e10:c=10
     ·rw [if_pos e10,if_pos e10]
      refine JL t _ _ _ ⟨by decide,?_⟩
      rw [if_pos ⟨rfl,by intro z; simp at z⟩]
     ·rw [if_neg e10,if_neg e10]
      obtain ⟨m,rfl⟩:∃ g,m=g + 1:=⟨m - 1,by omega⟩
      rw [aez]
      by_cases e32:c=32/\d + 1 <= 255
      ·rw [if_pos e32,if_pos e32]
       refine JL t _ _ _ ⟨hl,20,m,by decide,by omega,e32.2,?_⟩
       congr 1
       funext i s
       unfold Ql
       dsimp only
       rw [List.append_assoc]
       congr 1
       congr 1
       funext r s'
       rw [List.append_assoc]
       rfl
      ·rw [if_neg e32,if_neg e32]
    ·rw [if_neg hd,if_neg hd]
theorem afB (t:Bytes):readP t=goP ⟨[],[],.word 0⟩ 0 t:=by
 refine JL t _ _ _ ⟨by decide,?_⟩
 rw [if_neg (by rintro ⟨_,z⟩; exact z rfl)]
 refine ⟨by decide,?_⟩
 have e:readP t=runK (do let p <- page_; let l <- toEnd page_ 255; return p :: l) (0,t) fun x _=>.ok x:=by
  unfold readP readAll runK
  cases (do let p <- page_; let l <- toEnd page_ 255; return p :: l:Rd Pages).run (0,t) with
  | error e=>rfl
  | ok x=>rfl
 rw [e,BR]
 unfold page_
 rw [BR]
 congr 1
 funext _ s1
 congr 1
 funext p s2
 rw [BR]
 rfl
def gm (n:Nat):Nat:=if n=0 then 0 else if n <= 2 then min (100 * n + 99) 255 else if n <= 25 then min (10 * n + 9) 255 else n
theorem aka {n k:Nat} (h0:n ≠ 0) (h1:n * 10 ^ k <= 255) (h2:255 < n * 10 ^ k * 10):min (n * 10 ^ k + (10 ^ k - 1)) 255=gm n:=by
 unfold gm
 rw [if_neg h0]
 match k with
 | 0=>rw [Nat.pow_zero] at *; rw [if_neg (by omega),if_neg (by omega)]; omega
 | 1=>rw [Nat.pow_one] at *; rw [if_neg (by omega)]; split <;> omega
 | 2=>have e:10 ^ 2=100:=rfl; rw [e] at *; rw [if_pos (by omega)]; omega
 | k + 3 =>
  exfalso
  have:10 ^ (k + 3)=10 ^ k * 1000:=Nat.pow_add ..
  have h3:1 <= 10 ^ k:=Nat.pow_pos (by decide)
  have h4:1 * 10 ^ (k + 3) <= n * 10 ^ (k + 3):=Nat.mul_le_mul_right _ (by omega)
  omega
theorem af4 {lo n:Nat} (hl:lo <= 255) (hn:n <= 255):leadsTo lo 255 n=decide (lo <= gm n):=by
 unfold leadsTo gm
 by_cases h0:n=0
 ·rw [if_pos h0,if_pos h0]
  rw [Bool.eq_iff_iff,beq_iff_eq,decide_eq_true_iff]
  omega
 ·rw [if_neg h0,if_neg h0,Bool.eq_iff_iff,List.any_eq_true,decide_eq_true_iff]
  constructor
  ·rintro ⟨k,_,hk⟩
   rw [Bool.and_eq_true,decide_eq_true_iff,decide_eq_true_iff] at hk
   obtain ⟨h1,h2⟩:=hk
   match k with
   | 0=>rw [Nat.pow_zero] at *; (repeat' split) <;> omega
   | 1=>rw [Nat.pow_one] at *; (repeat' split) <;> omega
   | 2=>have e:10 ^ 2=100:=rfl; rw [e] at *; (repeat' split) <;> omega
   | k + 3 =>
    exfalso
    have:10 ^ (k + 3)=10 ^ k * 1000:=Nat.pow_add ..
    have h3:1 <= 10 ^ k:=Nat.pow_pos (by decide)
    have h4:1 * 10 ^ (k + 3) <= n * 10 ^ (k + 3):=Nat.mul_le_mul_right _ (by omega)
    omega
  ·intro h
   by_cases h2:n <= 2
   ·rw [if_pos h2] at h
    refine ⟨2,by decide,?_⟩
    have e:10 ^ 2=100:=rfl
    rw [e,Bool.and_eq_true,decide_eq_true_iff,decide_eq_true_iff]
    omega
   ·rw [if_neg h2] at h
    by_cases h3:n <= 25
    ·rw [if_pos h3] at h
     refine ⟨1,by decide,?_⟩
     rw [Nat.pow_one,Bool.and_eq_true,decide_eq_true_iff,decide_eq_true_iff]
     omega
    ·rw [if_neg h3] at h
     refine ⟨0,by decide,?_⟩
     rw [Nat.pow_zero,Bool.and_eq_true,decide_eq_true_iff,decide_eq_true_iff]
     omega
def Qn (cur:List Nat):Nat:=match cur.getLast? with
 | none=>0
 | some i=>i + 1
theorem Wc (cur:List Nat) (i:Nat):Qn (cur ++ [i])=i + 1:=by
 unfold Qn
 rw [List.getLast?_concat]
structure PWf (x:PCf) (n:Nat):Prop where
 le:x.pgs.length <= 256
 sm:∀ p ∈ x.pgs,p.length <= n/\∀ i ∈ p,i <= 255
 cl:x.cur.length <= n
 cs:∀ i ∈ x.cur,i <= 255
 st:match x.st with
  | .word k=>k < 4/\x.cur=[]/\(k ≠ 0->x.pgs.length < 256)
  | .gap=>x.cur=[]/\x.pgs.length < 256
  | .num lo v=>x.pgs.length < 256/\lo=Qn x.cur/\lo <= 255/\∀ d,v=some d->d <= 255
theorem PWf.start:PWf ⟨[],[],.word 0⟩ 0:=⟨by decide,(fun p h=>by cases h),by decide,(fun p h=>by cases h),by decide,rfl,fun h=>absurd rfl h⟩
theorem afU {lo:Nat} {v:Option Nat} {c:UInt8} {n:Nat} (h:GD lo v c=some n):n <= 255:=by
 unfold GD at h
 split at h
 ·cases h
 ·split at h
  ·rename_i q
   cases h
   exact Wk q
  ·cases h
theorem PWf.step {x y:PCf} {n:Nat} {c:UInt8} (h:PWf x n) (e:Ep x c=some y):PWf y (n + 1):=by
 obtain ⟨pgs,cur,st⟩:=x
 obtain ⟨h1,h2,h3,h4,h5⟩:=h
 have h2':∀ p ∈ pgs,p.length <= n + 1/\∀ i ∈ p,i <= 255:=fun p hp=>⟨Nat.le_succ_of_le (h2 p hp).1,(h2 p hp).2⟩
 unfold Ep at e
 cases st with
 | word k =>
  dsimp only at e h5
  split at e
  ·rename_i q
   split at e
   ·cases e
    exact ⟨h1,h2',Nat.zero_le _,(fun p h=>by cases h),rfl,q.1⟩
   ·rename_i q3
    cases e
    exact ⟨h1,h2',Nat.zero_le _,(fun p h=>by cases h),by omega,rfl,fun _=>q.1⟩
  ·cases e
 | gap =>
  dsimp only at e h5
  split at e
  ·cases e
   exact ⟨h1,h2',Nat.zero_le _,(fun p h=>by cases h),h5.2,rfl,by decide,fun d hd=>by cases hd⟩
  ·cases e
 | num lo v =>
  dsimp only at e h5 h1 h2 h3 h4
  cases em:GD lo v c with
  | some m =>
   rw [em] at e
   cases e
   exact ⟨h1,h2',Nat.le_succ_of_le h3,h4,h5.1,h5.2.1,h5.2.2.1,fun d hd=>by cases hd; exact afU em⟩
  | none =>
   rw [em] at e
   cases v with
   | none=>cases e
   | some d =>
    dsimp only at e
    split at e
    ·rename_i q
     have hc:∀ i ∈ cur ++ [d],i <= 255:=fun i hi=>by
      rcases List.mem_append.mp hi with hi | hi
      ·exact h4 i hi
      ·rw [List.mem_singleton] at hi; omega
     split at e
     ·cases e
      refine ⟨?_,fun p hp=>?_,Nat.zero_le _,(fun p h=>by cases h),by decide,rfl,fun z=>absurd rfl z⟩
      ·rw [List.length_append,List.length_singleton]; exact h5.1
      ·rcases List.mem_append.mp hp with hp | hp
       ·exact h2' p hp
       ·rw [List.mem_singleton] at hp
        subst hp
        exact ⟨by rw [List.length_append,List.length_singleton]; omega,hc⟩
     ·split at e
      ·rename_i q2
       cases e
       refine ⟨h1,h2',by rw [List.length_append,List.length_singleton]; omega,hc,h5.1,(Wc _ _).symm,q2.2,fun d hd=>by cases hd⟩
      ·cases e
    ·cases e
def headOf:PSt->Nat
 | .word k=>k
 | .gap=>4
 | .num _ _=>5
def numOf:PSt->Option Nat
 | .num _ v=>v
 | _=>none
def Km:List Nat:=[112,97,103,101,32]
theorem aej {x:PCf} {n:Nat} (h:PWf x n) (hh:headOf x.st < 5) (c:UInt8):Ep x c=if x.pgs.length=256 \/ c.toNat ≠ Km.getD (headOf x.st) 0 then none else some ⟨x.pgs,[],if headOf x.st=3 then .gap else if headOf x.st=4 then .num 0 none else .word (headOf x.st + 1)⟩:=by
 obtain ⟨pgs,cur,st⟩:=x
 have h1:pgs.length <= 256:=h.le
 have h5:=h.st
 have cc:∀ (a:UInt8) (b:Nat),a.toNat=b->(c=a ↔ c.toNat=b):=fun a b e=>⟨fun z=>by rw [z,e],fun z=>UInt8.toNat_inj.mp (z.trans e.symm)⟩
 cases st with
 | word k =>
  dsimp only at h5
  have key:∀ (a:UInt8),(ascii "page")[k]? = some a->a.toNat=Km.getD k 0->Ep ⟨pgs,cur,.word k⟩ c=if pgs.length=256 \/ c.toNat ≠ Km.getD k 0 then none else some ⟨pgs,[],if k=3 then .gap else if k=4 then .num 0 none else .word (k + 1)⟩:=fun a e1 e2=>by
   unfold Ep
   dsimp only
   rw [e1]
   by_cases hp:pgs.length < 256/\c=a
   ·have hno:¬ (pgs.length=256 \/ c.toNat ≠ Km.getD k 0):=by
     rintro (z | z)
     ·omega
     ·exact z ((cc a _ e2).mp hp.2)
    rw [if_neg hno,if_pos ⟨hp.1,by rw [hp.2]⟩]
    by_cases h3:k=3
    ·rw [if_pos h3,if_pos h3]
    ·rw [if_neg h3,if_neg h3,if_neg (by omega)]
   ·rw [if_neg (fun z=>hp ⟨z.1,(Option.some.inj z.2).symm⟩),if_pos]
    by_cases hl:pgs.length=256
    ·exact .inl hl
    ·exact .inr fun z=>hp ⟨by omega,(cc a _ e2).mpr z⟩
  match k,h5.1 with
  | 0,_=>exact key 112 rfl rfl
  | 1,_=>exact key 97 rfl rfl
  | 2,_=>exact key 103 rfl rfl
  | 3,_=>exact key 101 rfl rfl
 | gap =>
  dsimp only at h5
  unfold Ep
  show (if c=32 then some (⟨pgs,[],.num 0 none⟩:PCf) else none)=if pgs.length=256 \/ c.toNat ≠ 32 then none else some ⟨pgs,[],.num 0 none⟩
  by_cases hc:c=32
  ·have hno:¬ (pgs.length=256 \/ c.toNat ≠ 32):=by
    rintro (z | z)
    ·omega
    ·exact z (by rw [hc]; rfl)
   rw [if_pos hc,if_neg hno]
  ·rw [if_neg hc,if_pos (.inr fun z=>hc ((cc 32 32 rfl).mpr z))]
 | num lo v=>exact absurd hh (by decide:¬ 5 < 5)
def Ih (v:Option Nat) (c:UInt8):Nat:=10 * v.getD 0 + (c.toNat - 48)
theorem aei {pgs:Pages} {cur:List Nat} {lo:Nat} {v:Option Nat} {c:UInt8} (e:GD lo v c=none) (c10:c ≠ 10) (c32:c ≠ 32):Ep ⟨pgs,cur,.num lo v⟩ c=none:=by
 unfold Ep
 dsimp only
 rw [e]
 cases v with
 | none=>rfl
 | some d =>
  dsimp only
  have h32:¬ (c=32/\d + 1 <= 255):=fun z=>c32 z.1
  rw [if_neg c10,if_neg h32]
  split <;> rfl
theorem step_digit {pgs:Pages} {cur:List Nat} {lo:Nat} {v:Option Nat} {n:Nat} (h:PWf ⟨pgs,cur,.num lo v⟩ n) {c:UInt8} (hc:isDigit c=true):Ep ⟨pgs,cur,.num lo v⟩ c=if v=some 0 \/ 255 < Ih v c then none else if gm (Ih v c) < lo then none else some ⟨pgs,cur,.num lo (some (Ih v c))⟩:=by
 have h5:=h.st
 dsimp only at h5
 have hlo:=h5.2.2.1
 have c10:c ≠ 10:=fun z=>by rw [z] at hc; cases hc
 have c32:c ≠ 32:=fun z=>by rw [z] at hc; cases hc
 have Yv:GD lo v c=none->Ep ⟨pgs,cur,.num lo v⟩ c=none:=fun e=>aei e c10 c32
 by_cases h0:v=some 0 \/ 255 < Ih v c
 ·rw [if_pos h0]
  refine Yv ?_
  unfold GD
  rcases h0 with h0 | h0
  ·rw [if_pos (.inr h0)]
  ·split
   ·rfl
   ·rw [if_neg]
    intro z
    have:=Wk z
    unfold Ih at h0
    omega
 ·rw [if_neg h0]
  have hn:¬ (isDigit c=false \/ v=some 0):=by
   rintro (z | z)
   ·rw [hc] at z; cases z
   ·exact h0 (.inl z)
  have hle:Ih v c <= 255:=Nat.not_lt.mp fun z=>h0 (.inr z)
  have el:leadsTo lo 255 (10 * v.getD 0 + (c.toNat - 48))=decide (lo <= gm (Ih v c)):=af4 hlo hle
  by_cases hg:gm (Ih v c) < lo
  ·rw [if_pos hg]
   refine Yv ?_
   unfold GD
   rw [if_neg hn,el,if_neg]
   rw [decide_eq_true_iff]
   omega
  ·rw [if_neg hg]
   have:GD lo v c=some (Ih v c):=by
    unfold GD
    rw [if_neg hn,el,if_pos (by rw [decide_eq_true_iff]; omega)]
    rfl
   unfold Ep
   dsimp only
   rw [this]
theorem acd {pgs:Pages} {cur:List Nat} {lo:Nat} {v:Option Nat} {n:Nat} (h:PWf ⟨pgs,cur,.num lo v⟩ n) {c:UInt8} (hc:isDigit c=false):Ep ⟨pgs,cur,.num lo v⟩ c=match v with
  | none=>none
  | some d=>if d < lo then none else if c=32 then (if d=255 then none else some ⟨pgs,cur ++ [d],.num (d + 1) none⟩) else if c=10 then some ⟨pgs ++ [cur ++ [d]],[],.word 0⟩ else none:=by
 have h5:=h.st
 dsimp only at h5
 have em:GD lo v c=none:=by
  unfold GD
  rw [if_pos (.inl hc)]
 unfold Ep
 dsimp only
 rw [em]
 cases v with
 | none=>rfl
 | some d =>
  dsimp only
  have hd:=h5.2.2.2 d rfl
  by_cases hl:d < lo
  ·rw [if_pos hl,if_neg (by omega)]
  ·rw [if_neg hl,if_pos (by omega)]
   by_cases c32:c=32
   ·rw [if_pos c32,if_neg (by rw [c32]; decide)]
    by_cases h255:d=255
    ·rw [if_pos h255,if_neg (by omega)]
    ·rw [if_neg h255,if_pos ⟨c32,by omega⟩]
   ·rw [if_neg c32]
    by_cases c10:c=10
    ·rw [if_pos c10,if_pos c10]
    ·rw [if_neg c10,if_neg c10,if_neg (fun z=>c32 z.1)]
theorem aht {x:PCf} {n:Nat} (h:PWf x n):ahu x=true ↔ ¬ (0 < headOf x.st \/ x.pgs.length=0):=by
 obtain ⟨pgs,cur,st⟩:=x
 cases st with
 | word k =>
  cases k with
  | zero =>
   show (!pgs.isEmpty)=true ↔ ¬ (0 < 0 \/ pgs.length=0)
   cases pgs with
   | nil=>simp
   | cons a l=>simp
  | succ k =>
   show (false=true) ↔ ¬ (0 < k + 1 \/ _)
   simp
 | gap=>show (false=true) ↔ ¬ (0 < 4 \/ _); simp
 | num lo v=>show (false=true) ↔ ¬ (0 < 5 \/ _); simp
theorem agl {t:Bytes} {x:PCf} {i:Nat} (hi:i < t.length) {n:Nat}:goP x n (t.drop i)=match Ep x (t.getD i 0) with
  | some y=>goP y (n + 1) (t.drop (i + 1))
  | none=>.error n:=by
 rw [List.drop_eq_getElem_cons hi,goP]
 rw [List.getD_eq_getElem?_getD,List.getElem?_eq_getElem hi]
 rfl
theorem ahs {t:Bytes} {x:PCf} {n:Nat}:goP x n (t.drop t.length)=if ahu x=true then .ok x.pgs else .error n:=by
 rw [List.drop_length,goP]
theorem ZZ {f:Nat->Bool}:∀ {p:List Nat} {x i:Nat},p[x]? = some i->f i=true->(∀ y j,y < x->p[y]? = some j->f j=false)->p.find? f=some i
 | [],x,i,h,_,_=>by cases h
 | a :: p,0,i,h,hf,_=>by
  cases h
  rw [List.find?_cons,hf]
 | a :: p,x + 1,i,h,hf,hn=>by
  rw [List.find?_cons,hn 0 a (by omega) rfl]
  exact ZZ (x:=x) h hf fun y j hy hj=>hn (y + 1) j (by omega) hj
theorem adO {f:Nat->Bool} {p:List Nat} (h:∀ (y j:Nat),p[y]? = some j->f j=false):p.find? f=none:=by
 rw [List.find?_eq_none]
 intro j hj
 obtain ⟨y,hy⟩:=List.getElem?_of_mem hj
 rw [h y j hy]
 exact Bool.false_ne_true
theorem Dt.app {m m':Nat} {l l':List Nat} (h:Dt m l) (h':Dt m' l'):Dt (m ||| m') (l ++ l'):=fun j=>by
 rw [Nat.testBit_or,Bool.or_eq_true,h j,h' j,List.mem_append]
section
variable {c:Catalogue} {b:Build} {k:Nat} {done p:List Nat}
def bad2 (t:Tower) (done:List Nat) (i:Nat):Bool:=decide (t.n <= i) || done.contains i
def agy (t:Tower) (done:List Nat) (i:Nat):Bool:=(t.below i).any fun j=>!done.contains j
theorem ag2 (t:Tower) (k:Nat) (done p:List Nat):t.pageWrong k done p=if k < p.length then some (1,p.length) else match p.find? (bad2 t done) with
  | some i=>some (2,i)
  | none=>(p.find? (agy t done)).map fun i=>(3,i):=rfl
theorem Za {m:Nat} (hm:Dt m done) (i:Nat):bad2 (tower c b) done i=(decide (b.lines.length <= i) || m.testBit i):=by
 unfold bad2
 have en:(tower c b).n=b.lines.length:=rfl
 rw [en]
 congr 1
 rw [Bool.eq_iff_iff,List.contains_iff_mem]
 exact (hm i).symm
theorem ae8 {U:List Nat} (hU:∀ i,i < b.lines.length->∀ j,(U.getD i 0).testBit j=true ↔ j ∈ (tower c b).below i) {m:Nat} (hm:Dt m done) {i:Nat} (h2:bad2 (tower c b) done i=false):agy (tower c b) done i = !Tc U m i:=by
 have hb:=h2
 unfold bad2 at hb
 rw [Bool.or_eq_false_iff,decide_eq_false_iff_not] at hb
 have hi:i < b.lines.length:=Nat.not_le.mp hb.1
 rw [acG hU hm hi]
 unfold agy Tower.ready
 rw [hb.2,Bool.not_false,Bool.true_and,Bool.eq_iff_iff,Bool.not_eq_true',List.any_eq_true,List.all_eq_false]
 constructor
 ·rintro ⟨j,hj,h⟩
  exact ⟨j,hj,by simpa using h⟩
 ·rintro ⟨j,hj,h⟩
  exact ⟨j,hj,by simpa using h⟩
theorem acy (t:Tower) (k x:Nat) (done p:List Nat) (r:Pages):t.pagesFrom k x done (p :: r)=match t.pageWrong k done p with
  | some w=>some (w.1,x,w.2)
  | none=>t.pagesFrom k (x + 1) (done ++ p) r:=by rw [Tower.pagesFrom]; rfl
theorem aey (t:Tower) (k x:Nat) (done:List Nat):t.pagesFrom k x done [] = ((List.range t.n).find? fun i=>!done.contains i).map fun i=>(4,x,i):=by rw [Tower.pagesFrom]
theorem aeB {m:Nat} (hm:Dt m done):(fun i=>!done.contains i)=fun i=>!(m.testBit i):=by
 funext i
 congr 1
 rw [Bool.eq_iff_iff,List.contains_iff_mem]
 exact (hm i).symm
end
end Mx
namespace L2
open PySem PySem.Spec PyProof.Rows
abbrev Key:=Sum Int Str
def Tn:Key->Value->Bool
 | .inl k,v=>Value.isInt k v
 | .inr x,v=>Value.isStrOf x v
def akZ (w:World):Key->Int
 | .inl k=>hashInt k
 | .inr x=>hashStr w x
theorem Dh:∀ {k:Key} {v:Value},Tn k v=true->(∃ i t,k=Sum.inl i/\v=Value.int i t) \/ (∃ x t,k=Sum.inr x/\v=Value.str x t)
 | .inl i,v,h=>by
  obtain ⟨t,e⟩:=Value.isInt_shape (k:=i) (v:=v) h
  exact .inl ⟨i,t,rfl,e⟩
 | .inr x,v,h=>by
  obtain ⟨t,e⟩:=Value.isStrOf_shape (x:=x) (v:=v) h
  exact .inr ⟨x,t,rfl,e⟩
theorem aeH (i:Int) (t:Tok):Tn (.inl i) (.int i t)=true:=by simp [Tn,Value.isInt]
theorem aeG (x:Str) (t:Tok):Tn (.inr x) (.str x t)=true:=by simp [Tn,Value.isStrOf]
theorem aiI (a b:Int):decide ((Sum.inl a:Key)=Sum.inl b)=(a == b):=by
 by_cases e:a=b
 ·subst e; simp
 ·have h:¬ (Sum.inl a:Key)=Sum.inl b:=fun q=>e (Sum.inl.inj q)
  rw [decide_eq_false h]
  exact (beq_eq_false_iff_ne.mpr e).symm
theorem aiF (a b:Str):decide ((Sum.inr a:Key)=Sum.inr b)=decide (a=b):=by
 by_cases e:a=b
 ·subst e; simp
 ·have h:¬ (Sum.inr a:Key)=Sum.inr b:=fun q=>e (Sum.inr.inj q)
  rw [decide_eq_false h,decide_eq_false e]
theorem aiH (a:Int) (b:Str):decide ((Sum.inl a:Key)=Sum.inr b)=false:=decide_eq_false (fun q=>nomatch q)
theorem aiG (a:Str) (b:Int):decide ((Sum.inr a:Key)=Sum.inl b)=false:=decide_eq_false (fun q=>nomatch q)
def Dg (prog:Program) (w:World):PySem.KeyKind prog w Key where
 is:=Tn
 hash:=akZ w
 inj:=fun v a b ha hb=>by
  rcases Dh ha with ⟨i,t,rfl,rfl⟩ | ⟨x,t,rfl,rfl⟩
  ·rcases Dh hb with ⟨j,u,rfl,e⟩ | ⟨y,u,rfl,e⟩
   ·injection e with e1 _; rw [e1]
   ·exact nomatch e
  ·rcases Dh hb with ⟨j,u,rfl,e⟩ | ⟨y,u,rfl,e⟩
   ·exact nomatch e
   ·injection e with e1 _; rw [e1]
 byValue:=fun k v h=>by
  rcases Dh h with ⟨i,t,rfl,rfl⟩ | ⟨x,t,rfl,rfl⟩ <;> rfl
 pyHash:=fun hv h=>by
  rcases Dh hv with ⟨i,t,rfl,rfl⟩ | ⟨x,t,rfl,rfl⟩
  ·exact wpAny_pyHash_int h
  ·exact wpAny_pyHash_str h
 eqBool:=fun hu hv h=>by
  rcases Dh hu with ⟨i,t,rfl,rfl⟩ | ⟨x,t,rfl,rfl⟩
  ·rcases Dh hv with ⟨j,u,rfl,rfl⟩ | ⟨y,u,rfl,rfl⟩
   ·rw [aiI] at h; exact wpAny_eqBool_int h
   ·rw [aiH] at h; exact SeqAt.EqAt.int_str i t y u _ _ _ _ h
  ·rcases Dh hv with ⟨j,u,rfl,rfl⟩ | ⟨y,u,rfl,rfl⟩
   ·rw [aiG] at h; exact SeqAt.EqAt.str_int x t j u _ _ _ _ h
   ·rw [aiF] at h; exact wpAny_eqBool_str h
 «strs»:=fun k x t v h=>by
  rcases Dh h with ⟨i,u,rfl,e⟩ | ⟨y,u,rfl,e⟩
  ·exact nomatch e
  ·injection e with e1 _
   subst e1
   cases v <;> rfl
theorem aa6 (prog:Program) (w:World) (i:Int) (t:Tok):(Dg prog w).is (.inl i) (.int i t)=true:=aeH i t
theorem aa5 (prog:Program) (w:World) (x:Str) (t:Tok):(Dg prog w).is (.inr x) (.str x t)=true:=aeG x t
inductive V where
 | non | bl (b:Bool) | int (i:Int) | str (x:Str) | byt (b:Array UInt8) | flt (b:UInt64) | ref (a:Addr) | ty (n:String)
 deriving DecidableEq
def RelV:V->Value->Prop
 | .non,u=>u=Value.none
 | .bl b,u=>u=Value.bool b
 | .int i,u=>∃ t,u=Value.int i t
 | .str x,u=>∃ t,u=Value.str x t
 | .byt b,u=>∃ t,u=Value.bytes b t
 | .flt b,u=>∃ t,u=Value.float b t
 | .ref a,u=>u=Value.ref a
 | .ty n,u=>u=Value.type n
abbrev Vals:List V->List Value->Prop:=Paired RelV
theorem Vals.length {xs:List V} {us:List Value} (r:Vals xs us):xs.length=us.length:=Paired.length r
theorem Vals.get:∀ {xs:List V} {us:List Value} {i:Nat} {x:V},Vals xs us->xs[i]? = some x->∃ u,us[i]? = some u/\RelV x u
 | _,_,_,_,.nil,e=>by simp at e
 | _,_,0,_,.cons r _,e=>by simp at e; subst e; exact ⟨_,rfl,r⟩
 | _,_,i + 1,x,.cons _ t,e=>by
  obtain ⟨u,h1,h2⟩:=Vals.get (i:=i) (x:=x) t (by simpa using e)
  exact ⟨u,by simpa using h1,h2⟩
theorem Vals.set {x:V} {u:Value} (r:RelV x u):∀ {xs:List V} {us:List Value} (i:Nat),Vals xs us->Vals (xs.set i x) (us.set i u)
 | _,_,_,.nil=>.nil
 | _,_,0,.cons _ t=>.cons r t
 | _,_,i + 1,.cons q t=>.cons q (Vals.set r i t)
theorem Vals.append:∀ {xs ys:List V} {us ws:List Value},Vals xs us->Vals ys ws->Vals (xs ++ ys) (us ++ ws)
 | _,_,_,_,.nil,s=>s
 | _,_,_,_,.cons r t,s=>.cons r (Vals.append t s)
theorem Vals.take:∀ {xs:List V} {us:List Value} (n:Nat),Vals xs us->Vals (xs.take n) (us.take n)
 | _,_,0,_=>.nil
 | _,_,_ + 1,.nil=>.nil
 | _,_,n + 1,.cons r t=>.cons r (Vals.take n t)
theorem Vals.drop:∀ {xs:List V} {us:List Value} (n:Nat),Vals xs us->Vals (xs.drop n) (us.drop n)
 | _,_,0,r=>r
 | _,_,_ + 1,.nil=>.nil
 | _,_,n + 1,.cons _ t=>Vals.drop n t
def O1:Option V->Option Value->Prop
 | some v,some u=>RelV v u
 | none,none=>True
 | _,_=>False
def KV {κ:Type}:List (κ × V)->List (κ × Value)->Prop:=Paired fun (p:κ × V) (q:κ × Value)=>p.1=q.1/\RelV p.2 q.2
def kV:Key->V
 | .inl i=>.int i
 | .inr x=>.str x
inductive HO where
  | lst (xs:List V)
  | tup (xs:List V)
  | dK (kvs:List (Key × V)) | dT (kvs:List (List Key × V))
  | set (S:Int->Bool) (n:Nat)
  | ins (C dx:Addr) (fs:List (Str × V))
  | own (x:Addr)
  | xd (fs:List (Str × V))
  | met (f x:Addr)
  | rng (lo hi:Int)
  | frz (o:Obj) (u:HO)
  | tbl (ps:Array Value)
  | ext (φ:Heap->Prop)
abbrev Hp:=Addr->Option HO
def upd (H:Hp) (a:Addr) (o:HO):Hp:=fun b=>if b=a then some o else H b
theorem Ab {H:Hp} {a:Addr} {o:HO}:upd H a o a=some o:=by unfold upd; rw [if_pos rfl]
theorem Ah {H:Hp} {a b:Addr} {o:HO} (h:b ≠ a):upd H a o b=H b:=by unfold upd; rw [if_neg h]
theorem agK {H:Hp} {a:Addr} {o u:HO}:upd (upd H a o) a u=upd H a u:=by
 funext b; unfold upd; split <;> rfl
theorem G7 {H:Hp} {a b:Addr} {o u:HO} (h:H a=some o) (h':H b=some u) (d:o ≠ u):a ≠ b:=by
 intro e; subst e; rw [h] at h'; exact d (Option.some.inj h')
theorem Bq {H:Hp} {a b:Addr} {o:HO} (h:H a=some o) (h':H b=none):a ≠ b:=by
 intro e; subst e; rw [h] at h'; cases h'
section
variable (P:Program) (w:World)
def DN (H:Hp) (h:Heap) (a:Addr):HO->Prop
 | .lst xs=>xs.length <= sizeLine/\∃ (its:List Value) (n:Nat),Vals xs its/\h.get? a=some { cls:=.type "list",data:=.seq its.toArray n }
 | .tup xs=>xs.length <= sizeLine/\∃ its:List Value,Vals xs its/\IsTup h a its.toArray
 | .dK kvs=>kvs.length <= sizeLine/\(a == sysModules)=false/\∃ vs,KV kvs vs/\h.DictOf (Dg P w) a vs
 | .dT kvs=>kvs.length <= sizeLine/\(a == sysModules)=false/\∃ xs:List (List Key × Addr × Value),
   Paired (fun (p:List Key × V) (q:List Key × Addr × Value)=>p.1=q.1/\H q.2.1=some (.tup (p.1.map kV))/\RelV p.2 q.2.2) kvs xs /\
   ∃ o es ep,h.get? a=some o/\o.ExactDict/\o.data = .dict es ep/\es.toList=xs.map (entryOfKey (tupleKind (Dg P w)))/\(xs.map (·.1)).Nodup
 | .set S n=>h.SetOf (intKind P w) a S n
 | .ins C dx fs=>H dx=some (.own a)/\fs.length <= 1000/\dx ≠ a/\h.get? a=some (PySem.W.instObj C dx) /\
   ∃ mA,h.Ns1 dx mA/\(∀ f,O1 (fs.lookup f) (mA f))/\PySem.Within mA (fs.map (·.1))
 | .own _=>∃ o,h.get? a=some o
 | .xd fs=>∃ mA,h.Ns1 a mA/\∀ f,O1 (fs.lookup f) (mA f)
 | .rng lo hi=>∃ t u v,h.get? a=some { cls:=.type "range",data:=.fields #[.int lo t,.int hi u,.int 1 v] }
 | .frz o u=>h.get? a=some o/\DN H h a u
 | .tbl ps=>h.get? a=some { cls:=.none,data:=.fields ps }
 | .met f x=>h.get? a=some (PySem.W.methodObj (.ref f) (.ref x))
 | .ext φ=>φ h/\(∃ o,h.get? a=some o)/\∀ h1 h2:Heap,φ h1->(∀ o,h1.get? a=some o->h2.get? a=some o)->φ h2
def HOk (H:Hp) (h:Heap):Prop:=∀ a o,H a=some o->DN P w H h a o
end
section
variable {P:Program} {w:World} {H H':Hp} {h h':Heap} {a:Addr} {o:HO}
theorem DN.lt (x:DN P w H h a o):a < h.objs.size:=by
 cases o with
 | lst xs=>obtain ⟨_,_,_,_,e⟩:=x; exact Heap.lt_size e
 | tup xs=>obtain ⟨_,_,_,p⟩:=x; exact p.lt
 | dK kvs=>obtain ⟨_,_,_,_,o,_,_,e,_⟩:=x; exact Heap.lt_size e
 | dT kvs=>obtain ⟨_,_,_,_,o,_,_,e,_⟩:=x; exact Heap.lt_size e
 | set S n=>obtain ⟨o,_,_,_,e,_⟩:=x; exact Heap.lt_size e
 | ins C dx fs=>obtain ⟨_,_,_,e,_⟩:=x; exact Heap.lt_size e
 | own y=>obtain ⟨_,e⟩:=x; exact Heap.lt_size e
 | xd fs=>obtain ⟨_,⟨_,_,_,e,_⟩,_⟩:=x; exact Heap.lt_size e
 | rng lo hi=>obtain ⟨_,_,_,e⟩:=x; exact Heap.lt_size e
 | frz ob u=>obtain ⟨e,_⟩:=x; exact Heap.lt_size e
 | tbl ps=>exact Heap.lt_size (show h.get? a=some _ from x)
 | met f y=>exact Heap.lt_size (show h.get? a=some _ from x)
 | ext φ=>obtain ⟨_,⟨_,e⟩,_⟩:=x; exact Heap.lt_size e
theorem Paired.aiz {α β:Type} {F G:α->β->Prop}:∀ {l₁:List α} {l₂:List β},Paired F l₁ l₂->(∀ a b,F a b->G a b)->Paired G l₁ l₂
 | _,_,.nil,_=>.nil
 | _,_,.cons r t,f=>.cons (f _ _ r) (Paired.aiz t f)
theorem DN.stay (x:DN P w H h a o) (k:∀ b u,(b=a \/ H b=some (.own a))->h.get? b=some u->h'.get? b=some u)
  (ho:∀ b,H b=some (.own a)->H' b=some (.own a)) (ht:∀ b xs,H b=some (.tup xs)->H' b=some (.tup xs)):DN P w H' h' a o:=by
 induction o with
 | lst xs=>obtain ⟨z,its,n,r,e⟩:=x; exact ⟨z,its,n,r,k _ _ (.inl rfl) e⟩
 | tup xs=>obtain ⟨z,its,r,ob,e,c⟩:=x; exact ⟨z,its,r,ob,k _ _ (.inl rfl) e,c⟩
 | dK kvs=>obtain ⟨z,y,vs,r,ob,es,ep,e,c⟩:=x; exact ⟨z,y,vs,r,ob,es,ep,k _ _ (.inl rfl) e,c⟩
 | dT kvs =>
  obtain ⟨z,y,xs,r,ob,es,ep,e,c⟩:=x
  exact ⟨z,y,xs,Paired.aiz r fun p q z=>⟨z.1,ht _ _ z.2.1,z.2.2⟩,ob,es,ep,k _ _ (.inl rfl) e,c⟩
 | set S n=>obtain ⟨ob,es,ep,t,e,c⟩:=x; exact ⟨ob,es,ep,t,k _ _ (.inl rfl) e,c⟩
 | ins C dx fs =>
  obtain ⟨d,z,ne,e,mA,⟨od,es,ep,e2,c⟩,r⟩:=x
  exact ⟨ho _ d,z,ne,k _ _ (.inl rfl) e,mA,⟨od,es,ep,k _ _ (.inr d) e2,c⟩,r⟩
 | own y=>obtain ⟨ob,e⟩:=x; exact ⟨ob,k _ _ (.inl rfl) e⟩
 | xd fs=>obtain ⟨mA,⟨od,es,ep,e,c⟩,r⟩:=x; exact ⟨mA,⟨od,es,ep,k _ _ (.inl rfl) e,c⟩,r⟩
 | rng lo hi=>obtain ⟨t,u,v,e⟩:=x; exact ⟨t,u,v,k _ _ (.inl rfl) e⟩
 | frz ob u ih=>obtain ⟨e,q⟩:=x; exact ⟨k _ _ (.inl rfl) e,ih q⟩
 | tbl ps =>
  have e:h.get? a=some { cls:=.none,data:=.fields ps }:=x
  show h'.get? a=some { cls:=.none,data:=.fields ps }
  exact k a _ (.inl rfl) e
 | met f y =>
  have e:h.get? a=some (PySem.W.methodObj (.ref f) (.ref y)):=x
  show h'.get? a=some (PySem.W.methodObj (.ref f) (.ref y))
  exact k a _ (.inl rfl) e
 | ext φ=>obtain ⟨p,⟨o,e⟩,st⟩:=x; exact ⟨st _ _ p fun o q=>k _ _ (.inl rfl) q,⟨o,k _ _ (.inl rfl) e⟩,st⟩
theorem HOk.lt (x:HOk P w H h) (e:H a=some o):a < h.objs.size:=(x a o e).lt
theorem HOk.fresh (x:HOk P w H h) (e:h.objs.size <= a):H a=none:=by
 cases q:H a with
 | none=>rfl
 | some u=>exact absurd (Nat.lt_of_lt_of_le (x.lt q) e) (Nat.lt_irrefl _)
theorem HOk.kept (x:HOk P w H h) (k:∀ b u,h.get? b=some u->h'.get? b=some u):HOk P w H h':=fun a o e =>
 (x a o e).stay (fun b u _ q=>k b u q) (fun _ q=>q) fun _ _ q=>q
theorem HOk.laid (x:HOk P w H h) (k:∀ b u,h.get? b=some u->h'.get? b=some u) (hp:h.objs.size <= a) (new:DN P w (upd H a o) h' a o):HOk P w (upd H a o) h':=fun b u e=>by
 have hn:=x.fresh hp
 by_cases hb:b=a
 ·subst hb; rw [Ab] at e; cases e; exact new
 ·rw [Ah hb] at e
  exact (x b u e).stay (fun c v _ q=>k c v q) (fun c q=>by rw [Ah (Bq q hn)]; exact q) fun c xs q=>by rw [Ah (Bq q hn)]; exact q
end
def Rd (H:Hp) (a:Addr) (u:HO):Prop:=H a=some u \/ ∃ o,H a=some (.frz o u)
theorem Rd.ok {P:Program} {w:World} {H:Hp} {h:Heap} {a:Addr} {u:HO} (r:Rd H a u) (x:HOk P w H h):DN P w H h a u:=by
 rcases r with r | ⟨o,r⟩
 ·exact x a u r
 ·obtain ⟨_,q⟩:=x a _ r
  exact q
def Mut:Option HO->Prop
 | some (.lst _)=>True
 | some (.dK _)=>True
 | some (.dT _)=>True
 | some (.set _ _)=>True
 | some (.ins _ _ _)=>True
 | some (.ext _)=>True
 | _=>False
section
variable {P:Program} {w:World} {H:Hp} {h h':Heap} {x e:Addr} {o':HO}
theorem HOk.write (ok:HOk P w H h) (mu:Mut (H x)) (he:e=x \/ H e=some (.own x)) (k:∀ b u,b ≠ e->h.get? b=some u->h'.get? b=some u) (heo:∃ u,h'.get? e=some u)
  (new:DN P w (upd H x o') h' x o'):HOk P w (upd H x o') h':=fun b u q=>by
 have ajH:∀ c y,H c=some (.own y)->c ≠ x:=fun c y r z=>by subst z; rw [r] at mu; exact mu
 have akU:∀ c xs,H c=some (.tup xs)->c ≠ x:=fun c xs r z=>by subst z; rw [r] at mu; exact mu
 by_cases hb:b=x
 ·subst hb; rw [Ab] at q; cases q; exact new
 ·rw [Ah hb] at q
  by_cases hbe:b=e
  ·have q':H b=some (.own x):=by
    rcases he with z | z
    ·exact absurd (hbe.trans z) hb
    ·rw [hbe]; exact z
   rw [q] at q'; cases q'
   obtain ⟨v,hv⟩:=heo
   exact ⟨v,by rw [hbe]; exact hv⟩
  ·refine (ok b u q).stay (fun c v hc r=>k c v ?_ r) (fun c r=>by rw [Ah (ajH c b r)]; exact r) fun c xs r=>by rw [Ah (akU c xs r)]; exact r
   rcases hc with rfl | hc
   ·exact hbe
   ·rintro rfl
    rcases he with z | z
    ·exact ajH c b hc z
    ·rw [hc] at z; cases z; exact hb rfl
end
structure Un (fs ex:List Addr) (H H':Hp) (h h':Heap):Prop where
 keep:∀ b o,h.get? b=some o->H b=none->b ∉ fs->b ∉ ex->h'.get? b=some o
 slot:∀ b o,h.get? b=some o->H b=none->b ∈ fs->b ∉ ex->∃ sl,h'.get? b=some { o with slots:=sl }
 free:∀ b o,h.get? b=some o->H b=none->b ∉ ex->H' b=none
 there:∀ b o,h.get? b=some o->b ∉ ex->∃ o',h'.get? b=some o'
 tups:∀ b xs,H b=some (.tup xs)->H' b=some (.tup xs)
 Ws:∀ b o u,H b=some (.frz o u)->H' b=some (.frz o u)
 Zn:∀ b ps,H b=some (.tbl ps)->∃ more,H' b=some (.tbl (ps ++ more))
section
variable {fs fs' ex ex':List Addr} {H H1 H2:Hp} {h h1 h2 h':Heap} {a x e:Addr} {o:HO}
theorem Un.any (u:Un fs ex H H1 h h1) {b:Addr} {ob:Obj} (q:h.get? b=some ob) (n:H b=none) (hx:b ∉ ex):∃ sl,h1.get? b=some { ob with slots:=sl }:=by
 by_cases hb:b ∈ fs
 ·exact u.slot b ob q n hb hx
 ·exact ⟨ob.slots,u.keep b ob q n hb hx⟩
theorem Un.kept (k:∀ b u,h.get? b=some u->h'.get? b=some u):Un fs ex H H h h' :=
 ⟨fun b ob q _ _ _=>k b ob q,fun b ob q _ _ _=>⟨ob.slots,k b ob q⟩,fun _ _ _ n _=>n,fun b ob q _=>⟨ob,k b ob q⟩,fun _ _ q=>q,fun _ _ _ q=>q,fun _ ps q=>⟨#[],by rw [q]; simp⟩⟩
theorem Un.refl:Un fs ex H H h h:=Un.kept fun _ _ q=>q
theorem Un.laid (k:∀ b u,h.get? b=some u->h'.get? b=some u) (hp:h.objs.size <= a) (hn:H a=none):Un fs ex H (upd H a o) h h' where
 keep:=fun b u q _ _ _=>k b u q
 slot:=fun b u q _ _ _=>⟨u.slots,k b u q⟩
 free:=fun b u q n _=>by rw [Ah (Nat.ne_of_lt (Nat.lt_of_lt_of_le (Heap.lt_size q) hp))]; exact n
 there:=fun b u q _=>⟨u,k b u q⟩
 tups:=fun b xs q=>by rw [Ah (Bq q hn)]; exact q
 Ws:=fun b u xs q=>by rw [Ah (Bq q hn)]; exact q
 Zn:=fun b ps q=>⟨#[],by rw [Ah (Bq q hn),q]; simp⟩
theorem Un.write (mu:Mut (H x)) (he:e=x \/ H e=some (.own x)) (k:∀ b u,b ≠ e->h.get? b=some u->h'.get? b=some u) (heo:∃ u,h'.get? e=some u):Un fs ex H (upd H x o) h h':=by
 have hx:∀ b,H b=none->b ≠ x:=fun b n z=>by subst z; rw [n] at mu; exact mu
 have hb:∀ b,H b=none->b ≠ e:=fun b n z=>by
  subst z
  rcases he with r | r
  ·exact hx b n r
  ·rw [n] at r; cases r
 have hm:∀ b u,H b=some u -> ¬ Mut (some u)->b ≠ x:=fun b u q nm z=>by subst z; rw [q] at mu; exact nm mu
 refine ⟨fun b u q n _ _=>k b u (hb b n) q,fun b u q n _ _=>⟨u.slots,k b u (hb b n) q⟩,fun b u q n _=>by rw [Ah (hx b n)]; exact n,fun b u q _=>?_,
  fun b xs q=>by rw [Ah (hm b _ q fun z=>z)]; exact q,fun b u xs q=>by rw [Ah (hm b _ q fun z=>z)]; exact q,fun b ps q=>⟨#[],by rw [Ah (hm b _ q fun z=>z),q]; simp⟩⟩
 by_cases hbe:b=e
 ·subst hbe; exact heo
 ·exact ⟨u,k b u hbe q⟩
end
def trk (h:Heap) (H:Hp):List Addr:=(List.range h.objs.size).filter fun a=>(H a).isSome
def ZX (h:Heap) (H:Hp):Heap:=PySem.W.hideAll h (trk h H)
theorem aeK (h:Heap) (H:Hp):(ZX h H).objs.size=h.objs.size:=PySem.W.hideAll_size _ _
theorem agh {h:Heap} {H:Hp} {b:Addr} {o:Obj} (e:h.get? b=some o) (n:H b=none):(ZX h H).get? b=some o :=
 PySem.W.hideAll_get _ e fun hm=>by
  have q:(H b).isSome=true:=(List.mem_filter.mp hm).2
  rw [n] at q; simp at q
theorem ag7 {h:Heap} {H:Hp} {b:Addr} {o:Obj} (e:(ZX h H).get? b=some o):h.get? b=some o/\H b=none:=by
 have e':h.get? b=some o:=PySem.W.of_hideAll (trk h H) e
 refine ⟨e',?_⟩
 cases q:H b with
 | none=>rfl
 | some x =>
  have hm:b ∈ trk h H:=List.mem_filter.mpr ⟨List.mem_range.mpr (Heap.lt_size e'),by simp [q]⟩
  have z:(ZX h H).get? b=none:=PySem.W.hideAll_none (trk h H) hm
  rw [z] at e; cases e
structure Mod (K:PySem.W.Frag) (mg:Str->Option Value) (base:Heap):Prop where
 kin:K.In base
 glob:base.Ns mainGlobals mg
 blt:∃ mb,base.Ns builtinsNs mb/\∀ x:Str,x ≠ "__name__" -> mb x=bootBuiltins x
 nolimit:base.NoLimit
structure Cx where
 prog:Program
 w:World
 K:PySem.W.Frag
 mg:Str->Option Value
 base:Heap
 A:Around
 N:List Str
 s_0:Shared
 H_0:Hp
 env:Env
 outer:List Env
 stack:List Env
 ex:List Addr
 fn:Str->Bool
 calm:Bool
 pn:List (Addr × Obj)
 xe:Value->Shared->Prop
def frs (l:List Env):List Addr:=l.filterMap (·.frame)
abbrev Cx.fs (X:Cx):List Addr:=frs X.outer
def Vis (sc:Scope) (x:Str):Prop:=sc.names.lookup x=some .local \/ sc.names.lookup x=some .cell \/ sc.names.lookup x=some .free
def Loc (sc:Scope) (x:Str):Prop:=sc.names.lookup x=some .local \/ sc.names.lookup x=some .cell
def Look (env:Env) (h:Heap) (m:Str->Option Value) (x:Str) (u:Value):Prop :=
 (env.kindOf x=some .local/\m x=some u) \/ ((env.kindOf x=some .cell \/ env.kindOf x=some .free)/\∃ c,env.cells.lookup x=some c/\h.IsCell c (some u))
structure Cx.Ok (X:Cx):Prop where
 mod:Mod X.K X.mg X.base
 kind:X.env.scope.kind = .function
 glob:X.env.globals=mainGlobals
 blt:X.env.builtins=builtinsNs
 above:X.s_0.heap.objs.size <= X.env.locals
 inj:∀ x y c,X.env.cells.lookup x=some c->X.env.cells.lookup y=some c->x=y
 has:∀ x,(X.env.kindOf x=some .cell \/ X.env.kindOf x=some .free)->∃ c,X.env.cells.lookup x=some c
 cab:∀ x c,X.fn x=true->X.env.cells.lookup x=some c->X.s_0.heap.objs.size <= c
 hd:X.calm=true->X.A.handled=none
 frames:X.A.frames=some X.stack
 stk:X.stack=X.outer \/ (X.stack=X.env :: X.outer/\X.env.frame=some X.env.locals)
 exf:∀ b ∈ X.ex,b ≠ X.env.locals/\∀ x c,X.env.cells.lookup x=some c->c ≠ b
 bs:∀ b o,X.base.get? b=some o->X.s_0.heap.get? b=some o/\X.H_0 b=none
 bsz:X.base.objs.size <= X.s_0.heap.objs.size
 afQ:∀ b o,X.base.get? b=some o->b ∉ X.ex
 agn:∀ b ∈ X.ex,b ∉ X.fs
 Ub:X.s_0.heap.FunFrames X.base X.outer
 frf:∀ b ∈ X.fs,X.H_0 b=none
structure Inv (X:Cx) (pins:List (Addr × Obj)) (σ:List (Option V)) (H:Hp) (s:Shared):Prop where
 ok:X.Ok
 os:s.os=X.s_0.os
 bare:AllBare s.gens
 base:Un X.fs X.ex X.H_0 H X.s_0.heap s.heap
 loc:∃ m,s.heap.Ns X.env.locals m/\∀ (i:Nat) (x:Str) (v:V),X.N[i]? = some x->σ[i]? = some (some v)->Vis X.env.scope x->∃ u,RelV v u/\Look X.env s.heap m x u
 cell:∀ x c,X.env.cells.lookup x=some c->∃ v,s.heap.IsCell c v
 free:H X.env.locals=none
 Jr:∀ x c,X.env.cells.lookup x=some c->H c=none
 pin:∀ p ∈ X.pn ++ pins,s.heap.get? p.1=some p.2/\H p.1=none/\p.1 ≠ X.env.locals/\p.1 ∉ X.fs/\∀ v,p.2.data ≠ .cell v
 hok:HOk X.prog X.w H s.heap
 len:σ.length=X.N.length
section
variable {X:Cx} {pins:List (Addr × Obj)} {σ:List (Option V)} {H H':Hp} {s:Shared} {h':Heap}
theorem Cx.Ok.akX (ok:X.Ok) {b:Addr} {o:Obj} (e:X.base.get? b=some o):b ∉ X.fs:=fun hb=>by
 have:=(ok.Ub.mem hb).1
 rw [e] at this; cases this
theorem Inv.bs (I:Inv X pins σ H s):∀ b o,X.base.get? b=some o->s.heap.get? b=some o/\H b=none:=fun b o e =>
 ⟨I.base.keep b o (I.ok.bs b o e).1 (I.ok.bs b o e).2 (I.ok.akX e) (I.ok.afQ b o e),I.base.free b o (I.ok.bs b o e).1 (I.ok.bs b o e).2 (I.ok.afQ b o e)⟩
theorem Inv.bk (I:Inv X pins σ H s):∀ b o,X.base.get? b=some o->s.heap.get? b=some o:=fun b o e=>(I.bs b o e).1
theorem Inv.mod (I:Inv X pins σ H s):Mod X.K X.mg X.base:=I.ok.mod
theorem Inv.kIn (I:Inv X pins σ H s):X.K.In s.heap:=I.ok.mod.kin.keeps I.bk
theorem Inv.lt (I:Inv X pins σ H s):X.env.locals < s.heap.objs.size:=let ⟨_,hn,_⟩:=I.loc; hn.lt
theorem Inv.sz (I:Inv X pins σ H s):X.s_0.heap.objs.size <= s.heap.objs.size:=Nat.le_trans I.ok.above (Nat.le_of_lt I.lt)
theorem Inv.akW (I:Inv X pins σ H s) {a:Addr} (h:s.heap.objs.size <= a):a ∉ X.fs:=fun hb=>by
 obtain ⟨_,o,ho,_⟩:=I.ok.Ub.mem hb
 exact absurd (Nat.lt_of_lt_of_le (Heap.lt_size ho) (Nat.le_trans I.sz h)) (Nat.lt_irrefl _)
theorem Inv.cne (I:Inv X pins σ H s):∀ x c,X.env.cells.lookup x=some c->c ≠ X.env.locals:=fun x c e z=>by
 obtain ⟨v,o,ho,hd⟩:=I.cell x c e
 obtain ⟨m,⟨o',es,ep,ho',hd',_⟩,_⟩:=I.loc
 rw [z,ho'] at ho; cases ho; rw [hd'] at hd; cases hd
theorem Inv.Ub (I:Inv X pins σ H s):s.heap.FunFrames X.base X.outer:=by
 have all:∀ (l:List Env),(∀ b ∈ frs l,b ∈ X.fs)->X.s_0.heap.FunFrames X.base l->s.heap.FunFrames X.base l:=by
  intro l
  induction l with
  | nil=>intro _ _; trivial
  | cons env r ih =>
   intro hs hl
   obtain ⟨hk,⟨L,o,hf,hn,ho,hd⟩,hr⟩:=hl
   have hL:L ∈ X.fs:=hs L (by unfold frs; rw [List.filterMap_cons,hf]; exact List.mem_cons_self)
   obtain ⟨sl,e⟩:=I.base.slot L o ho (I.ok.frf L hL) hL fun z=>I.ok.agn L z hL
   exact ⟨hk,⟨L,_,hf,hn,e,hd⟩,ih (fun b hb=>hs b (by unfold frs; rw [List.filterMap_cons,hf]; exact List.mem_cons_of_mem _ hb)) hr⟩
 exact all X.outer (fun _ hb=>hb) I.ok.Ub
theorem Inv.stack (I:Inv X pins σ H s):s.heap.FunFrames X.base X.stack:=by
 rcases I.ok.stk with e | ⟨e,hf⟩
 ·rw [e]; exact I.Ub
 ·rw [e]
  obtain ⟨m,hn,_⟩:=I.loc
  refine .cons (by rw [I.ok.kind]; decide) hf hn ?_ I.Ub
  exact Heap.get?_none_of_le (Nat.le_trans I.ok.bsz I.ok.above)
theorem Inv.acb (I:Inv X pins σ H s):∀ b ∈ frs X.stack,b ∈ X.env.locals :: X.fs:=fun b hb=>by
 rcases I.ok.stk with e | ⟨e,hf⟩
 ·rw [e] at hb; exact List.mem_cons_of_mem _ hb
 ·rw [e] at hb
  unfold frs at hb
  rw [List.filterMap_cons,hf] at hb
  exact hb
theorem Inv.adn (I:Inv X pins σ H s):∀ b ∈ frs X.stack,H b=none:=fun b hb=>by
 rcases List.mem_cons.mp (I.acb b hb) with e | hb
 ·rw [e]; exact I.free
 ·obtain ⟨_,o,ho,_⟩:=I.ok.Ub.mem hb
  exact I.base.free b o ho (I.ok.frf b hb) fun z=>I.ok.agn b z hb
theorem Inv.step {g':Array GenState} {t':Nat} {d':Drawn} {ch:List Addr} (I:Inv X pins σ H s)
  (hch:∀ b ∈ ch,(b ∈ X.ex \/ X.s_0.heap.objs.size <= b)/\b ≠ X.env.locals/\(∀ x c,X.env.cells.lookup x=some c->c ≠ b)/\∀ p ∈ X.pn ++ pins,p.1 ≠ b)
  (keep:∀ b o,b ≠ X.env.locals->b ∉ X.fs->b ∉ ch->s.heap.get? b=some o->H b=none->h'.get? b=some o)
  (slot:∀ b o,b ≠ X.env.locals->b ∈ X.fs->b ∉ ch->s.heap.get? b=some o->H b=none->∃ sl,h'.get? b=some { o with slots:=sl }) (free:∀ b o,b ∉ ch->s.heap.get? b=some o->H b=none->H' b=none)
  (there:∀ b o,b ∉ ch->s.heap.get? b=some o->∃ o',h'.get? b=some o')
  (tups:∀ b xs,H b=some (.tup xs)->H' b=some (.tup xs)) (Ws:∀ b o u,H b=some (.frz o u)->H' b=some (.frz o u)) (Zn:∀ b ps,H b=some (.tbl ps)->∃ more,H' b=some (.tbl (ps ++ more)))
  (ns:∀ m,s.heap.Ns X.env.locals m->h'.Ns X.env.locals m) (hok:HOk X.prog X.w H' h') (hg:AllBare g') :
  Inv X pins σ H' { s with heap:=h',gens:=g',drawn:=d',toks:=t' }:=by
 have neL:∀ b o,X.s_0.heap.get? b=some o->b ≠ X.env.locals:=fun b o e=>Nat.ne_of_lt (Nat.lt_of_lt_of_le (Heap.lt_size e) I.ok.above)
 have neC:∀ b o,X.s_0.heap.get? b=some o->b ∉ X.ex->b ∉ ch:=fun b o e hx hb=>by
  rcases (hch b hb).1 with z | z
  ·exact hx z
  ·exact absurd (Nat.lt_of_lt_of_le (Heap.lt_size e) z) (Nat.lt_irrefl _)
 have cellK:∀ x c,X.env.cells.lookup x=some c->∀ v,s.heap.IsCell c v->h'.IsCell c v:=fun x c e v ⟨o,ho,hd⟩=>by
  have nch:c ∉ ch:=fun z=>(hch c z).2.2.1 x c e rfl
  by_cases hc:c ∈ X.fs
  ·obtain ⟨sl,q⟩:=slot c o (I.cne x c e) hc nch ho (I.Jr x c e)
   exact ⟨_,q,hd⟩
  ·exact ⟨o,keep c o (I.cne x c e) hc nch ho (I.Jr x c e),hd⟩
 refine ⟨I.ok,I.os,hg,⟨fun b o e n hb hx=>?_,fun b o e n hb hx=>?_,fun b o e n hx=>?_,fun b o e hx=>?_,fun b xs e=>tups b xs (I.base.tups b xs e),fun b o xs e=>Ws b o xs (I.base.Ws b o xs e),fun b ps e=>?_⟩,?_,fun x c e=>?_,?_,fun x c e=>?_,fun p hp=>?_,hok,I.len⟩
 ·exact keep b o (neL b o e) hb (neC b o e hx) (I.base.keep b o e n hb hx) (I.base.free b o e n hx)
 ·obtain ⟨sl,e1⟩:=I.base.slot b o e n hb hx
  obtain ⟨sl',e2⟩:=slot b _ (neL b o e) hb (neC b o e hx) e1 (I.base.free b o e n hx)
  exact ⟨sl',e2⟩
 ·obtain ⟨o',e1⟩:=I.base.there b o e hx
  exact free b o' (neC b o e hx) e1 (I.base.free b o e n hx)
 ·obtain ⟨o',e1⟩:=I.base.there b o e hx
  exact there b o' (neC b o e hx) e1
 ·obtain ⟨m1,e1⟩:=I.base.Zn b ps e
  obtain ⟨m2,e2⟩:=Zn b _ e1
  exact ⟨m1 ++ m2,by rw [e2,Array.append_assoc]⟩
 ·obtain ⟨m,hn,hl⟩:=I.loc
  refine ⟨m,ns m hn,fun i x v e1 e2 e3=>?_⟩
  obtain ⟨u,r,l⟩:=hl i x v e1 e2 e3
  refine ⟨u,r,?_⟩
  rcases l with l | ⟨k,c,e,z⟩
  ·exact .inl l
  ·exact .inr ⟨k,c,e,cellK x c e _ z⟩
 ·obtain ⟨v,z⟩:=I.cell x c e
  exact ⟨v,cellK x c e v z⟩
 ·obtain ⟨m,⟨o,_,_,ho,_⟩,_⟩:=I.loc
  exact free _ o (fun z=>(hch _ z).2.1 rfl) ho I.free
 ·obtain ⟨v,o,ho,hd⟩:=I.cell x c e
  exact free c o (fun z=>(hch c z).2.2.1 x c e rfl) ho (I.Jr x c e)
 ·obtain ⟨e,n,ne,nf,d⟩:=I.pin p hp
  have nch:p.1 ∉ ch:=fun z=>(hch p.1 z).2.2.2 p hp rfl
  exact ⟨keep p.1 p.2 ne nf nch e n,free p.1 p.2 nch e n,ne,nf,d⟩
theorem Inv.un {t':Nat} (I:Inv X pins σ H s) (u:Un X.fs [] H H' s.heap h') (hok:HOk X.prog X.w H' h'):Inv X pins σ H' { s with heap:=h',toks:=t' }:=by
 obtain ⟨m,⟨o,es,ep,ho,r⟩,_⟩:=id I.loc
 obtain ⟨sl,hL⟩:=u.any ho I.free (by simp)
 exact I.step (g':=s.gens) (d':=s.drawn) (ch:=[]) (fun _ z=>nomatch z) (fun b o _ hb _ e n=>u.keep b o e n hb (by simp)) (fun b o _ hb _ e n=>u.slot b o e n hb (by simp)) (fun b o _ e n=>u.free b o e n (by simp)) (fun b o _ e=>u.there b o e (by simp)) u.tups u.Ws u.Zn (fun m' hm=>by
  obtain ⟨o',es',ep',ho',r'⟩:=hm
  rw [ho] at ho'; cases ho'
  exact ⟨_,es',ep',hL,r'⟩) hok I.bare
theorem Inv.call {g':Array GenState} {t':Nat} {d':Drawn} {ch:List Addr} (I:Inv X pins σ H s) (u:Un (frs X.stack) ch H H' s.heap h') (hok:HOk X.prog X.w H' h') (hg:AllBare g')
  (hch:∀ b ∈ ch,(b ∈ X.ex \/ X.s_0.heap.objs.size <= b)/\b ≠ X.env.locals/\(∀ x c,X.env.cells.lookup x=some c->c ≠ b)/\∀ p ∈ X.pn ++ pins,p.1 ≠ b) :
  Inv X pins σ H' { s with heap:=h',gens:=g',drawn:=d',toks:=t' }:=by
 obtain ⟨m,⟨o,es,ep,ho,r⟩,_⟩:=id I.loc
 obtain ⟨sl,hL⟩:=u.any ho I.free fun z=>(hch _ z).2.1 rfl
 exact I.step (ch:=ch) hch (fun b o hL hb hc e n=>u.keep b o e n (fun z=>(List.mem_cons.mp (I.acb b z)).elim hL hb) hc) (fun b o _ _ hc e n=>u.any e n hc) (fun b o hc e n=>u.free b o e n hc) (fun b o hc e=>u.there b o e hc) u.tups u.Ws u.Zn (fun m' hm=>by
  obtain ⟨o',es',ep',ho',r'⟩:=hm
  rw [ho] at ho'; cases ho'
  exact ⟨_,es',ep',hL,r'⟩) hok hg
theorem Inv.turned {t':Nat} {it:Addr} (I:Inv X pins σ H s) (k:∀ b o,b ≠ it->s.heap.get? b=some o->h'.get? b=some o) (hn:H it=none) (hL:it ≠ X.env.locals)
  (h1:it ∈ X.ex \/ X.s_0.heap.objs.size <= it) (h2:∀ x c,X.env.cells.lookup x=some c->c ≠ it) (h3:∀ p ∈ X.pn ++ pins,p.1 ≠ it):Inv X pins σ H { s with heap:=h',toks:=t' }:=by
 have nit:∀ b u,H b=some u->b ≠ it:=fun b u e z=>by rw [z,hn] at e; cases e
 refine I.step (g':=s.gens) (d':=s.drawn) (ch:=[it]) (fun b hb=>?_) (fun b o _ _ hc e _=>k b o (fun z=>hc (by simp [z])) e) (fun b o _ _ hc e _=>⟨o.slots,k b o (fun z=>hc (by simp [z])) e⟩) (fun _ _ _ _ n=>n)
  (fun b o hc e=>⟨o,k b o (fun z=>hc (by simp [z])) e⟩) (fun _ _ e=>e) (fun _ _ _ e=>e) (fun b ps e=>⟨#[],by rw [e]; simp⟩) (fun m hm=>?_) (fun b u e=>?_) I.bare
 ·have e:b=it:=by simpa using hb
  subst e
  exact ⟨h1,hL,h2,h3⟩
 ·obtain ⟨o,es,ep,ho,r⟩:=hm
  exact ⟨o,es,ep,k _ o (Ne.symm hL) ho,r⟩
 ·refine (I.hok b u e).stay (fun c v hc q=>k c v ?_ q) (fun _ q=>q) fun _ _ q=>q
  rcases hc with z | z
  ·rw [z]; exact nit b u e
  ·exact nit c _ z
theorem Inv.tok (I:Inv X pins σ H s) (t:Nat):Inv X pins σ H { s with toks:=t }:=I.un (h':=s.heap) (t':=t) Un.refl I.hok
theorem Inv.kept {t':Nat} (I:Inv X pins σ H s) (k:∀ b u,s.heap.get? b=some u->h'.get? b=some u):Inv X pins σ H { s with heap:=h',toks:=t' }:=I.un (Un.kept k) (I.hok.kept k)
theorem Inv.laid {a:Addr} {o:HO} {t':Nat} (I:Inv X pins σ H s) (k:∀ b u,s.heap.get? b=some u->h'.get? b=some u) (hp:s.heap.objs.size <= a) (new:DN X.prog X.w (upd H a o) h' a o) :
  Inv X pins σ (upd H a o) { s with heap:=h',toks:=t' }:=I.un (Un.laid k hp (I.hok.fresh hp)) (I.hok.laid k hp new)
theorem Inv.write {x e:Addr} {o:HO} {t':Nat} (I:Inv X pins σ H s) (mu:Mut (H x)) (he:e=x \/ H e=some (.own x)) (k:∀ b u,b ≠ e->s.heap.get? b=some u->h'.get? b=some u) (heo:∃ u,h'.get? e=some u)
  (new:DN X.prog X.w (upd H x o) h' x o):Inv X pins σ (upd H x o) { s with heap:=h',toks:=t' }:=I.un (Un.write mu he k heo) (I.hok.write mu he k heo new)
theorem Inv.weak {σ':List (Option V)} (I:Inv X pins σ H s) (hl:σ'.length=σ.length) (w:∀ (i:Nat) v,σ'[i]? = some (some v)->σ[i]? = some (some v)):Inv X pins σ' H s :=
 ⟨I.ok,I.os,I.bare,I.base,let ⟨m,hn,hl'⟩:=I.loc; ⟨m,hn,fun i x v e1 e2 e3=>hl' i x v e1 (w i v e2) e3⟩,I.cell,I.free,I.Jr,I.pin,I.hok,hl.trans I.len⟩
theorem Inv.adw {ahN:List (Addr × Obj)} (I:Inv X pins σ H s) (h:∀ p ∈ ahN,s.heap.get? p.1=some p.2/\H p.1=none/\p.1 ≠ X.env.locals/\p.1 ∉ X.fs/\∀ v,p.2.data ≠ .cell v):Inv X ahN σ H s :=
 ⟨I.ok,I.os,I.bare,I.base,I.loc,I.cell,I.free,I.Jr,fun p hp=>(List.mem_append.mp hp).elim (fun z=>I.pin p (List.mem_append_left _ z)) (h p),I.hok,I.len⟩
theorem V4 {N:List Str} (hN:N.Nodup) {i j:Nat} {x:Str} (a:N[i]? = some x) (b:N[j]? = some x):i=j:=by
 obtain ⟨h1,e1⟩:=List.getElem?_eq_some_iff.mp a
 obtain ⟨h2,e2⟩:=List.getElem?_eq_some_iff.mp b
 exact (List.getElem_inj hN).mp (e1.trans e2.symm)
theorem X8 {M:Model} {A:Around} {E:Value->Shared->Prop} {i:Nat} {x:Str} {v:V} {u:Value} {Q:Unit->Shared->Prop} (I:Inv X pins σ H s) (hN:X.N.Nodup) (hi:X.N[i]? = some x) (hx:Loc X.env.scope x) (r:RelV v u)
  (h:∀ s',Inv X pins (σ.set i (some v)) H s'->(∃ a,Heap.SameBut a s.heap s'.heap/\(a=X.env.locals \/ X.env.cells.lookup x=some a))->Q () s') (hf:X.fn x=true \/ X.env.scope.names.lookup x=some .local:=by first | exact .inl rfl | exact .inr rfl | assumption):wpAny M A (storeName X.env x u) Q E s:=by
 obtain ⟨m,hn,hl⟩:=id I.loc
 have hcls:(X.env.scope.kind == .class || (X.env.scope.kind == .module && X.env.locals != X.env.globals))=false:=by rw [I.ok.kind]; rfl
 have hiσ:i < σ.length:=by rw [I.len]; exact (List.getElem?_eq_some_iff.mp hi).1
 have cne:=I.cne
 have tracked:∀ {a:Addr} {h':Heap},(∃ o,s.heap.get? a=some o/\H a=none)->Heap.SameBut a s.heap h'->HOk X.prog X.w H h':=fun {a h'} ha hs b ob e=>by
  obtain ⟨_,_,hfree⟩:=ha
  refine (I.hok b ob e).stay (fun c w' hc q=>(hs.2 c ?_).trans q) (fun _ q=>q) fun _ _ q=>q
  rintro rfl
  rcases hc with rfl | hc
  ·rw [hfree] at e; cases e
  ·rw [hfree] at hc; cases hc
 rcases hx with hk | hk
 ·refine wpAny_storeName_local hk hn (fun h' hn' hs=>?_) hcls
  obtain ⟨oL,_,_,hoL,_⟩:=id hn
  refine h _ ⟨I.ok,I.os,I.bare,⟨fun b o e n hb hx=>?_,fun b o e n hb hx=>?_,I.base.free,fun b o e hx=>?_,I.base.tups,I.base.Ws,I.base.Zn⟩,⟨_,hn',fun j y v' e1 e2 e3=>?_⟩,fun y c e=>?_,I.free,I.Jr,fun p hp=>?_,tracked ⟨oL,hoL,I.free⟩ hs,by simpa using I.len⟩ ⟨_,hs,.inl rfl⟩
  ·exact (hs.2 b (Nat.ne_of_lt (Nat.lt_of_lt_of_le (Heap.lt_size e) I.ok.above))).trans (I.base.keep b o e n hb hx)
  ·obtain ⟨sl,e1⟩:=I.base.slot b o e n hb hx
   exact ⟨sl,(hs.2 b (Nat.ne_of_lt (Nat.lt_of_lt_of_le (Heap.lt_size e) I.ok.above))).trans e1⟩
  ·obtain ⟨o',e1⟩:=I.base.there b o e hx
   exact ⟨o',(hs.2 b (Nat.ne_of_lt (Nat.lt_of_lt_of_le (Heap.lt_size e) I.ok.above))).trans e1⟩
  ·by_cases hj:j=i
   ·subst hj
    rw [hi] at e1; cases e1
    rw [List.getElem?_set_self hiσ] at e2
    cases e2
    exact ⟨u,r,.inl ⟨hk,by simp⟩⟩
   ·rw [List.getElem?_set_ne (Ne.symm hj)] at e2
    obtain ⟨u',r',q⟩:=hl j y v' e1 e2 e3
    refine ⟨u',r',?_⟩
    rcases q with ⟨k,e⟩ | ⟨k,c,e,z⟩
    ·refine .inl ⟨k,?_⟩
     have:y ≠ x:=fun e=>hj (V4 hN e1 (e ▸ hi))
     simp [this,e]
    ·exact .inr ⟨k,c,e,z.sameBut hs (cne y c e)⟩
  ·obtain ⟨w',z⟩:=I.cell y c e
   exact ⟨w',z.sameBut hs (cne y c e)⟩
  ·obtain ⟨e,n,ne,nf,d⟩:=I.pin p hp
   exact ⟨(hs.2 p.1 ne).trans e,n,ne,nf,d⟩
 ·have hfn:X.fn x=true:=by
   rcases hf with z | z
   ·exact z
   ·rw [z] at hk; cases hk
  obtain ⟨c,hc⟩:=I.ok.has x (.inl hk)
  obtain ⟨w',z⟩:=I.cell x c hc
  refine wpAny_storeName_cell I.ok.kind hk hc z (fun h' hc' hs=>?_)
  obtain ⟨oc,hoc,ak9⟩:=id z
  refine h { s with heap:=h' } ⟨I.ok,I.os,I.bare,⟨fun b o e n hb hx=>?_,fun b o e n hb hx=>?_,I.base.free,fun b o e hx=>?_,I.base.tups,I.base.Ws,I.base.Zn⟩,⟨m,hn.sameBut hs (Ne.symm (cne x c hc)),fun j y v' e1 e2 e3=>?_⟩,fun y c' e=>?_,I.free,I.Jr,fun p hp=>?_,tracked ⟨oc,hoc,I.Jr x c hc⟩ hs,by simpa using I.len⟩ ⟨c,hs,.inr hc⟩
  ·exact (hs.2 b (Nat.ne_of_lt (Nat.lt_of_lt_of_le (Heap.lt_size e) (I.ok.cab x c hfn hc)))).trans (I.base.keep b o e n hb hx)
  ·obtain ⟨sl,e1⟩:=I.base.slot b o e n hb hx
   exact ⟨sl,(hs.2 b (Nat.ne_of_lt (Nat.lt_of_lt_of_le (Heap.lt_size e) (I.ok.cab x c hfn hc)))).trans e1⟩
  ·obtain ⟨o',e1⟩:=I.base.there b o e hx
   exact ⟨o',(hs.2 b (Nat.ne_of_lt (Nat.lt_of_lt_of_le (Heap.lt_size e) (I.ok.cab x c hfn hc)))).trans e1⟩
  ·by_cases hj:j=i
   ·subst hj
    rw [hi] at e1; cases e1
    rw [List.getElem?_set_self hiσ] at e2
    cases e2
    exact ⟨u,r,.inr ⟨.inl hk,c,hc,hc'⟩⟩
   ·rw [List.getElem?_set_ne (Ne.symm hj)] at e2
    obtain ⟨u',r',q⟩:=hl j y v' e1 e2 e3
    refine ⟨u',r',?_⟩
    rcases q with q | ⟨k,c',e,z'⟩
    ·exact .inl q
    ·refine .inr ⟨k,c',e,z'.sameBut hs ?_⟩
     rintro rfl
     exact hj (V4 hN e1 (I.ok.inj _ _ _ e hc ▸ hi))
  ·by_cases hcc:c'=c
   ·subst hcc; exact ⟨_,hc'⟩
   ·obtain ⟨w2,z2⟩:=I.cell y c' e
    exact ⟨w2,z2.sameBut hs hcc⟩
  ·obtain ⟨e,n,ne,nf,d⟩:=I.pin p hp
   refine ⟨(hs.2 p.1 ?_).trans e,n,ne,nf,d⟩
   intro q
   rw [q,hoc] at e
   have q':oc=p.2:=Option.some.inj e
   exact d w' (by rw [<- q']; exact ak9)
theorem aaC {M:Model} {A:Around} {E:Value->Shared->Prop} {i:Nat} {x:Str} {v:V} {u:Value} {Q:Unit->Shared->Prop} (I:Inv X pins σ H s) (hN:X.N.Nodup) (hi:X.N[i]? = some x) (hx:Loc X.env.scope x) (r:RelV v u)
  (h:∀ s',Inv X pins (σ.set i (some v)) H s'->Q () s') (hf:X.fn x=true \/ X.env.scope.names.lookup x=some .local:=by first | exact .inl rfl | exact .inr rfl | assumption):wpAny M A (storeName X.env x u) Q E s :=
 X8 I hN hi hx r (fun s' I' _=>h s' I') hf
theorem Inv.call' {s':Shared} {ch:List Addr} (I:Inv X pins σ H s) (ho:s'.os=s.os) (u:Un (frs X.stack) ch H H' s.heap s'.heap) (hok:HOk X.prog X.w H' s'.heap) (hg:AllBare s'.gens)
  (hch:∀ b ∈ ch,(b ∈ X.ex \/ X.s_0.heap.objs.size <= b)/\b ≠ X.env.locals/\(∀ x c,X.env.cells.lookup x=some c->c ≠ b)/\∀ p ∈ X.pn ++ pins,p.1 ≠ b):Inv X pins σ H' s':=by
 obtain ⟨h',g',d',t',o'⟩:=s'
 have e:o'=s.os:=ho
 subst e
 exact I.call (g':=g') (t':=t') (d':=d') u hok hg hch
end
abbrev XK:=Value->Option Addr->Hp->Prop
abbrev St:=List (Option V)
abbrev VK:=V->Hp->Prop
abbrev TE:=St->Hp->VK->Prop
abbrev TT:=St->Hp->(Bool->Hp->Prop)->Prop
abbrev TA:=St->Hp->(List V->Hp->Prop)->Prop
structure Ends where
 nx:St->Hp->Prop
 rt:VK
 bk:St->Hp->Prop:=fun _ _=>False
 ct:St->Hp->Prop:=fun _ _=>False
abbrev TS:=Ends->St->Hp->Prop
def EP (X:Cx) (pins:List (Addr × Obj)) (σ:St) (Q:VK) (u:Value) (s':Shared):Prop:=∃ v H',Inv X pins σ H' s'/\RelV v u/\Q v H'
def TP (X:Cx) (pins:List (Addr × Obj)) (σ:St) (Q:Bool->Hp->Prop) (b:Bool) (s':Shared):Prop:=∃ H',Inv X pins σ H' s'/\Q b H'
def AP (X:Cx) (pins:List (Addr × Obj)) (σ:St) (Q:List V->Hp->Prop) (us:List Value) (s':Shared):Prop:=∃ vs H',Inv X pins σ H' s'/\Vals vs us/\Q vs H'
def SP (X:Cx) (pins:List (Addr × Obj)) (D:Ends) (f:Flow) (s':Shared):Prop :=
 match f with
 | .next=>∃ σ' H',Inv X pins σ' H' s'/\D.nx σ' H'
 | .brk=>∃ σ' H',Inv X pins σ' H' s'/\D.bk σ' H'
 | .cont=>∃ σ' H',Inv X pins σ' H' s'/\D.ct σ' H'
 | .ret u=>∃ v σ' H',Inv X pins σ' H' s'/\RelV v u/\D.rt v H'
def PE (X:Cx) (e:Expr) (t:TE):Prop :=
 ∀ (pins:List (Addr × Obj)) (s:Shared) (σ:St) (H:Hp) (Q:VK),Inv X pins σ H s->t σ H Q->wpAny (model X.prog X.w) X.A (eval e X.env) (EP X pins σ Q) X.xe s
def PT (X:Cx) (e:Expr) (t:TT):Prop :=
 ∀ (pins:List (Addr × Obj)) (s:Shared) (σ:St) (H:Hp) (Q:Bool->Hp->Prop),Inv X pins σ H s->t σ H Q->wpAny (model X.prog X.w) X.A (isTrue e X.env (eval e X.env)) (TP X pins σ Q) X.xe s
def PW (X:Cx) (e:Expr) (t:TT):Prop :=
 ∀ (whole:Sem Value) (pins:List (Addr × Obj)) (s:Shared) (σ:St) (H:Hp) (Q:Bool->Hp->Prop),Inv X pins σ H s->t σ H Q->wpAny (model X.prog X.w) X.A (isTrue e X.env whole) (TP X pins σ Q) X.xe s
theorem PW.pt {X:Cx} {e:Expr} {t:TT} (h:PW X e t):PT X e t:=h _
def PA (X:Cx) (es:List Expr) (t:TA):Prop :=
 ∀ (pos:Pos) (pins:List (Addr × Obj)) (s:Shared) (σ:St) (H:Hp) (Q:List V->Hp->Prop),Inv X pins σ H s->t σ H Q->wpAny (model X.prog X.w) X.A (spliced (backTo pos (starEach es X.env))) (AP X pins σ Q) X.xe s
def PS (X:Cx) (st:Stmt) (t:TS):Prop :=
 ∀ (pins:List (Addr × Obj)) (s:Shared) (σ:St) (H:Hp) (D:Ends),Inv X pins σ H s->t D σ H->wpAny (model X.prog X.w) X.A (exec st X.env) (SP X pins D) X.xe s
def PSs (X:Cx) (st:List Stmt) (t:TS):Prop :=
 ∀ (pins:List (Addr × Obj)) (s:Shared) (σ:St) (H:Hp) (D:Ends),Inv X pins σ H s->t D σ H->wpAny (model X.prog X.w) X.A (execs st X.env) (SP X pins D) X.xe s
theorem thn {α:Type} {t:Sem α} {Q Q':α->Shared->Prop} {M:Model} {A:Around} {E:Value->Shared->Prop} {s:Shared} (h:wpAny M A t Q E s) (hQ:∀ a s,Q a s->Q' a s):wpAny M A t Q' E s:=wpAny_mono h hQ fun _ _ x=>x
section
variable {X:Cx}
def ajl (i:Nat):TE:=fun σ H Q=>∃ v,σ[i]? = some (some v)/\Q v H
def tC (v:V):TE:=fun _ H Q=>Q v H
theorem ain {i:Nat} {x:Str} {pos:Pos} (hN:X.N[i]? = some x) (hv:Vis X.env.scope x) (hd:(x == ("__debug__" : Str))=false:=by decide) (hcd:(x == ("__classdict__" : Str))=false:=by decide):PE X (.Name x pos) (ajl i):=by
 intro pins s σ H Q I h
 obtain ⟨v,e,h⟩:=h
 obtain ⟨m,hn,hl⟩:=I.loc
 obtain ⟨u,r,l⟩:=hl i x v hN e hv
 have fin:EP X pins σ Q u s:=⟨v,H,I,r,h⟩
 rcases l with ⟨hk,hm⟩ | ⟨hk,c,hc,hcell⟩
 ·exact wpAny_Name (wpAny_loadName_local I.ok.kind hk hn hm fin) hd
 ·rcases hk with hk | hk
  ·exact wpAny_Name (wpAny_loadName_cell I.ok.kind hk hc hcell fin) hd
  ·exact wpAny_Name (wpAny_loadName_free I.ok.kind hk hc hcell fin hcd) hd
theorem Aq {i j pos}:PE X (.Constant (.int i) j pos) (tC (.int i)):=fun _ _ _ H _ I h=>wpAny_Constant_int ⟨.int i,H,I.tok _,⟨_,rfl⟩,h⟩
theorem Dy {b j pos}:PE X (.Constant (.bool b) j pos) (tC (.bl b)):=fun _ _ _ H _ I h=>Constant_bool ⟨.bl b,H,I,rfl,h⟩
theorem BZ {j pos}:PE X (.Constant .none j pos) (tC .non):=fun _ _ _ H _ I h=>Constant_none ⟨.non,H,I,rfl,h⟩
theorem acx {x j pos}:PE X (.Constant (.str x) j pos) (tC (.str x)):=fun _ _ _ H _ I h=>Calls.Constant_str ⟨.str x,H,I.tok _,⟨_,rfl⟩,h⟩
def Gl (X:Cx) (x:Str):Prop:=X.env.kindOf x=some .globalImplicit
theorem U4 {E:Value->Shared->Prop} {pins:List (Addr × Obj)} {s:Shared} {σ:St} {H:Hp} {x:Str} {u:Value} {pos:Pos} {Q:Value->Shared->Prop} (I:Inv X pins σ H s) (hg:Gl X x) (hm:X.mg x=some u) (h:Q u s)
  (hd:(x == ("__debug__" : Str))=false:=by decide):wpAny (model X.prog X.w) X.A (eval (.Name x pos) X.env) Q E s :=
 Calls.Name_function_global I.ok.kind hg (Calls.loadGlobal_global (by rw [I.ok.glob]; exact I.mod.glob.keeps I.bk) hm h) hd
theorem Rw {E:Value->Shared->Prop} {pins:List (Addr × Obj)} {s:Shared} {σ:St} {H:Hp} {x:Str} {u:Value} {pos:Pos} {Q:Value->Shared->Prop} (I:Inv X pins σ H s) (hg:Gl X x) (hm:X.mg x=none) (hv:bootBuiltins x=some u) (h:Q u s)
  (hn:x ≠ "__name__" := by decide) (hd:(x == ("__debug__" : Str))=false:=by decide):wpAny (model X.prog X.w) X.A (eval (.Name x pos) X.env) Q E s:=by
 obtain ⟨mb,h1,h2⟩:=I.mod.blt
 exact Calls.Name_function_global I.ok.kind hg (Calls.loadGlobal_builtin (by rw [I.ok.glob]; exact I.mod.glob.keeps I.bk) hm (by rw [I.ok.blt]; exact h1.keeps I.bk) ((h2 x hn).trans hv) h) hd
theorem ady {x:Str} {v:V} {u:Value} {pos:Pos} (hg:Gl X x) (hm:X.mg x=some u) (r:RelV v u) (hd:(x == ("__debug__" : Str))=false:=by decide):PE X (.Name x pos) (tC v) :=
 fun _ _ _ H _ I h=>U4 I hg hm ⟨v,H,I,r,h⟩ hd
variable {a b:Expr} {ta tb:TE} {pos:Pos}
def PC (X:Cx) (op:CmpOp) (a b:Expr) (t:TE):Prop :=
 ∀ (pins:List (Addr × Obj)) (s:Shared) (σ:St) (H:Hp) (Q:VK),Inv X pins σ H s->t σ H Q ->
  wpAny (model X.prog X.w) X.A (eval a X.env) (fun v s₁=>wpAny (model X.prog X.w) X.A (eval b X.env) (fun u s₂=>wpAny (model X.prog X.w) X.A (compareOp op v u) (EP X pins σ Q) X.xe s₂) X.xe s₁) X.xe s
theorem aa2 (b:Expr) {op:CmpOp} (h:op ≠ .In) (h2:op ≠ .NotIn):behindInMarks op b=false:=by
 have e1:(op == CmpOp.In)=false:=by cases op <;> first | rfl | exact absurd rfl h
 have e2:(op == CmpOp.NotIn)=false:=by cases op <;> first | rfl | exact absurd rfl h2
 cases b <;> simp [behindInMarks,e1,e2]
def akz (ta:TE):TE:=fun σ H Q=>ta σ H fun x H1=>Q (.bl (decide (x = .non))) H1
def ajp (ta:TE):TE:=fun σ H Q=>ta σ H fun x H1=>Q (.bl (!decide (x = .non))) H1
theorem RelV.aa1 {x:V} {v:Value} (r:RelV x v):(v == Value.none)=decide (x = .non):=by
 cases x with
 | non=>cases r; rfl
 | bl _=>cases r; rfl
 | int _=>obtain ⟨t,rfl⟩:=r; rfl
 | str _=>obtain ⟨t,rfl⟩:=r; rfl
 | byt _=>obtain ⟨t,rfl⟩:=r; rfl
 | flt _=>obtain ⟨t,rfl⟩:=r; rfl
 | ref _=>cases r; rfl
 | ty _=>cases r; rfl
theorem Dk {j pos'} (ha:PE X a ta):PC X .Is a (.Constant .none j pos') (akz ta):=by
 intro pins s σ H Q I h
 refine thn (ha pins s σ H _ I h) fun v s1 ⟨x,H1,I1,r1,q1⟩=>?_
 exact Constant_none (is_none_gen ⟨.bl _,H1,I1,by rw [r1.aa1]; rfl,q1⟩)
theorem Qi {j pos'} (ha:PE X a ta):PC X .IsNot a (.Constant .none j pos') (ajp ta):=by
 intro pins s σ H Q I h
 refine thn (ha pins s σ H _ I h) fun v s1 ⟨x,H1,I1,r1,q1⟩=>?_
 exact Constant_none (isnot_none_gen ⟨.bl _,H1,I1,by rw [r1.aa1]; rfl,q1⟩)
def tB (t:TE):TT:=fun σ H Q=>t σ H fun x H1=>∃ c,x = .bl c/\Q c H1
theorem aiq {op:CmpOp} {t:TE} (h:PC X op a b t) (h1:behindInMarks op b=false:=by first | exact aa2 _ (by decide) (by decide) | rfl):PE X (.Compare a [op] [b] pos) t:=fun pins s σ H Q I hw=>wpAny_Compare1 (h pins s σ H Q I hw) h1
theorem Cg {op:CmpOp} {t:TE} (h:PC X op a b t) (h1:behindInMarks op b=false:=by first | exact aa2 _ (by decide) (by decide) | rfl):PT X (.Compare a [op] [b] pos) (tB t):=by
 intro pins s σ H Q I hw
 refine wpAny_isTrue_Compare1 (thn (h pins s σ H _ I hw) fun v s1 h1=>thn h1 fun u s2 h2=>thn h2 fun c s3 ⟨x,H1,I1,r1,q1⟩=>?_) h1
 obtain ⟨d,rfl,q⟩:=q1
 cases r1
 exact wpAny_truthy_bool ⟨H1,I1,q⟩
theorem DP {e:Expr} {t:TE} (h:PE X e t) (he:∀ whole,isTrue e X.env whole=(do let v <- whole; standAt e.pos; holding [v] (truthy v)):=by intro _; rfl):PT X e (tB t):=by
 intro pins s σ H Q I hw
 refine isTrue_plain (thn (h pins s σ H _ I hw) fun v s1 ⟨x,H1,I1,r1,q1⟩=>?_) (he _)
 obtain ⟨d,rfl,q⟩:=q1
 cases r1
 exact wpAny_truthy_bool ⟨H1,I1,q⟩
variable {tA tB':TT} {rest:List Expr}
def akF (t u:TT):TT:=fun σ H Q=>t σ H fun c H1=>if c=true then u σ H1 Q else Q false H1
def tOr (t u:TT):TT:=fun σ H Q=>t σ H fun c H1=>if c=true then Q true H1 else u σ H1 Q
def akx (t:TT):TT:=fun σ H Q=>t σ H fun c H1=>Q (!c) H1
theorem Qa (ha:PT X a tA):PW X (.BoolOp .And [a] pos) tA:=by
 intro wh pins s σ H Q I h
 refine isTrue_and (thn (ha pins s σ H Q I h) fun c s1 e=>?_)
 cases c with
 | true=>exact isTrue_and_nil e
 | false=>exact e
theorem Fi (ha:PT X a tA):PW X (.BoolOp .Or [a] pos) tA:=by
 intro wh pins s σ H Q I h
 refine isTrue_or (thn (ha pins s σ H Q I h) fun c s1 e=>?_)
 cases c with
 | false=>exact isTrue_or_nil e
 | true=>exact e
theorem VF (ha:PT X a tA) (hb:PW X (.BoolOp .And (b :: rest) pos) tB'):PW X (.BoolOp .And (a :: b :: rest) pos) (akF tA tB'):=by
 intro wh pins s σ H Q I h
 refine isTrue_and (thn (ha pins s σ H _ I h) fun c s1 ⟨H1,I1,q1⟩=>?_)
 cases c with
 | true=>exact hb wh pins s1 σ H1 Q I1 q1
 | false=>exact ⟨H1,I1,q1⟩
theorem Eu (ha:PT X a tA) (hb:PW X (.BoolOp .Or (b :: rest) pos) tB'):PW X (.BoolOp .Or (a :: b :: rest) pos) (tOr tA tB'):=by
 intro wh pins s σ H Q I h
 refine isTrue_or (thn (ha pins s σ H _ I h) fun c s1 ⟨H1,I1,q1⟩=>?_)
 cases c with
 | true=>exact ⟨H1,I1,q1⟩
 | false=>exact hb wh pins s1 σ H1 Q I1 q1
theorem Gh (ha:PT X a tA):PT X (.UnaryOp .Not a pos) (akx tA):=by
 intro pins s σ H Q I h
 exact isTrue_not (ha pins s σ H (fun c H1=>Q (!c) H1) I h)
def ajv (ta tb:TE):TE:=fun σ H Q=>ta σ H fun x H1=>∃ c,x = .bl c/\if c=true then tb σ H1 Q else Q (.bl false) H1
def akv (ta tb:TE):TE:=fun σ H Q=>ta σ H fun x H1=>∃ c,x = .bl c/\if c=true then Q (.bl true) H1 else tb σ H1 Q
def ajo (ta:TE):TE:=fun σ H Q=>ta σ H fun x H1=>∃ c,x = .bl c/\Q (.bl (!c)) H1
theorem Ro {op} {t:TE} (h:PE X a t):PE X (.BoolOp op [a] pos) t:=fun pins s σ H Q I hw=>BoolOp_one (h pins s σ H Q I hw)
theorem JR (ha:PE X a ta) (hb:PE X (.BoolOp .And (b :: rest) pos) tb):PE X (.BoolOp .And (a :: b :: rest) pos) (ajv ta tb):=by
 intro pins s σ H Q I h
 refine BoolOp_and (thn (ha pins s σ H _ I h) fun v s1 ⟨x,H1,I1,r1,q1⟩=>?_)
 obtain ⟨c,rfl,q1⟩:=q1
 cases r1
 refine wpAny_truthy_bool ?_
 cases c with
 | true=>exact hb pins s1 σ H1 Q I1 q1
 | false=>exact ⟨.bl false,H1,I1,rfl,q1⟩
theorem ajE (ha:PE X a ta) (hb:PE X (.BoolOp .Or (b :: rest) pos) tb):PE X (.BoolOp .Or (a :: b :: rest) pos) (akv ta tb):=by
 intro pins s σ H Q I h
 refine BoolOp_or (thn (ha pins s σ H _ I h) fun v s1 ⟨x,H1,I1,r1,q1⟩=>?_)
 obtain ⟨c,rfl,q1⟩:=q1
 cases r1
 refine wpAny_truthy_bool ?_
 cases c with
 | false=>exact hb pins s1 σ H1 Q I1 q1
 | true=>exact ⟨.bl true,H1,I1,rfl,q1⟩
theorem aio (ha:PE X a ta):PE X (.UnaryOp .Not a pos) (ajo ta):=by
 intro pins s σ H Q I h
 refine UnaryOp_ (thn (ha pins s σ H _ I h) fun v s1 ⟨x,H1,I1,r1,q1⟩=>?_)
 obtain ⟨c,rfl,q1⟩:=q1
 cases r1
 exact not_of (wpAny_truthy_bool ⟨.bl (!c),H1,I1,rfl,q1⟩)
end
def SqL (K:PySem.W.Frag) (H:Hp) (a:Addr) (xs:List V):Prop :=
 Rd H a (.lst xs) \/
  ∃ (o:Obj) (its:Array Value) (n:Nat),K.lookup a=some o/\o.cls = .type "list" /\ o.dict=none/\o.data = .seq its n/\its.size <= sizeLine/\Vals xs its.toList
def SqT (K:PySem.W.Frag) (H:Hp) (a:Addr) (xs:List V):Prop :=
 Rd H a (.tup xs) \/
  ∃ (o:Obj) (its:Array Value) (n:Nat),K.lookup a=some o/\o.cls = .type "tuple" /\ o.data = .seq its n/\its.size <= sizeLine/\Vals xs its.toList
def alp:Value->Option V
 | .none=>some .non
 | .bool b=>some (.bl b)
 | .int i _=>some (.int i)
 | .str x _=>some (.str x)
 | .bytes b _=>some (.byt b)
 | .float b _=>some (.flt b)
 | .ref a=>some (.ref a)
 | .type n=>some (.ty n)
 | _=>none
theorem RelV.abs {x:V} {u:Value} (r:RelV x u):alp u=some x:=by
 cases x with
 | non=>cases r; rfl
 | bl _=>cases r; rfl
 | int _=>obtain ⟨t,rfl⟩:=r; rfl
 | str _=>obtain ⟨t,rfl⟩:=r; rfl
 | byt _=>obtain ⟨t,rfl⟩:=r; rfl
 | flt _=>obtain ⟨t,rfl⟩:=r; rfl
 | ref _=>cases r; rfl
 | ty _=>cases r; rfl
theorem RelV.inj {x y:V} {u:Value} (r:RelV x u) (q:RelV y u):x=y:=Option.some.inj (r.abs.symm.trans q.abs)
theorem Vals.inj:∀ {xs ys:List V} {us:List Value},Vals xs us->Vals ys us->xs=ys
 | _,_,_,.nil,.nil=>rfl
 | _,_,_,.cons r t,.cons r' t'=>by rw [r.inj r',Vals.inj t t']
section
variable {X:Cx} {pins:List (Addr × Obj)} {σ:St} {H:Hp} {s:Shared} {a:Addr} {xs ys:List V}
theorem SqL.of {K:PySem.W.Frag} (h:H a=some (.lst xs)):SqL K H a xs:=.inl (.inl h)
theorem SqT.of {K:PySem.W.Frag} (h:H a=some (.tup xs)):SqT K H a xs:=.inl (.inl h)
theorem Inv.list (I:Inv X pins σ H s) (h:SqL X.K H a xs):∃ its:List Value,Vals xs its/\PlainL s.heap a its.toArray/\xs.length <= sizeLine:=by
 rcases h with h | ⟨o,its,n,hk,hc,hd,hs,hz,r⟩
 ·obtain ⟨z,its,n,r,e⟩:=h.ok I.hok
  exact ⟨its,r,⟨_,n,e,rfl,rfl,rfl⟩,z⟩
 ·refine ⟨its.toList,r,⟨o,n,I.kIn a o hk,hc,hd,by simpa using hs⟩,?_⟩
  have e:=r.length
  simp only [Array.length_toList] at e
  omega
theorem Inv.tuple (I:Inv X pins σ H s) (h:SqT X.K H a xs):∃ its:List Value,Vals xs its/\IsTup s.heap a its.toArray/\xs.length <= sizeLine:=by
 rcases h with h | ⟨o,its,n,hk,hc,hs,hz,r⟩
 ·obtain ⟨z,its,r,p⟩:=h.ok I.hok
  exact ⟨its,r,p,z⟩
 ·refine ⟨its.toList,r,⟨o,I.kIn a o hk,hc,n,by simpa using hs⟩,?_⟩
  have e:=r.length
  simp only [Array.length_toList] at e
  omega
theorem Inv.aa8 (I:Inv X pins σ H s) (h:SqL X.K H a xs) (h':SqL X.K H a ys):xs=ys:=by
 obtain ⟨its,r,⟨o,n,e,_,_,d⟩,_⟩:=I.list h
 obtain ⟨its',r',⟨o',n',e',_,_,d'⟩,_⟩:=I.list h'
 rw [e] at e'; cases e'
 rw [d] at d'
 injection d' with d1 _
 have:its=its':=by simpa using congrArg Array.toList d1
 subst this
 exact r.inj r'
theorem Inv.X3 (I:Inv X pins σ H s) (h:SqT X.K H a xs) (h':SqT X.K H a ys):xs=ys:=by
 obtain ⟨its,r,⟨o,e,_,n,d⟩,_⟩:=I.tuple h
 obtain ⟨its',r',⟨o',e',_,n',d'⟩,_⟩:=I.tuple h'
 rw [e] at e'; cases e'
 rw [d] at d'
 injection d' with d1 _
 have:its=its':=by simpa using congrArg Array.toList d1
 subst this
 exact r.inj r'
end
abbrev Cx.wish (X:Cx) (E:Value->Shared->Prop):Cx:={ X with xe:=E }
abbrev Cx.nox (X:Cx):Cx:=X.wish fun _ _=>False
theorem Cx.Ok.wish {X:Cx} (ok:X.Ok) (E:Value->Shared->Prop):(X.wish E).Ok :=
 ⟨ok.mod,ok.kind,ok.glob,ok.blt,ok.above,ok.inj,ok.has,ok.cab,ok.hd,ok.frames,ok.stk,ok.exf,ok.bs,ok.bsz,ok.afQ,ok.agn,ok.Ub,ok.frf⟩
theorem Cx.Ok.KQ {X:Cx} {E:Value->Shared->Prop} (ok:(X.wish E).Ok):X.Ok :=
 ⟨ok.mod,ok.kind,ok.glob,ok.blt,ok.above,ok.inj,ok.has,ok.cab,ok.hd,ok.frames,ok.stk,ok.exf,ok.bs,ok.bsz,ok.afQ,ok.agn,ok.Ub,ok.frf⟩
section
variable {X:Cx} {pins:List (Addr × Obj)} {σ:St} {H:Hp} {s:Shared} {E:Value->Shared->Prop}
theorem Inv.wish (I:Inv X pins σ H s) (E:Value->Shared->Prop):Inv (X.wish E) pins σ H s:=⟨I.ok.wish E,I.os,I.bare,I.base,I.loc,I.cell,I.free,I.Jr,I.pin,I.hok,I.len⟩
theorem Inv.KQ (I:Inv (X.wish E) pins σ H s):Inv X pins σ H s:=⟨I.ok.KQ,I.os,I.bare,I.base,I.loc,I.cell,I.free,I.Jr,I.pin,I.hok,I.len⟩
theorem SP.KQ {D:Ends} {f:Flow} {s':Shared} (h:SP (X.wish E) pins D f s'):SP X pins D f s':=by
 cases f with
 | next=>obtain ⟨σ',H',I,q⟩:=h; exact ⟨σ',H',I.KQ,q⟩
 | brk=>obtain ⟨σ',H',I,q⟩:=h; exact ⟨σ',H',I.KQ,q⟩
 | cont=>obtain ⟨σ',H',I,q⟩:=h; exact ⟨σ',H',I.KQ,q⟩
 | ret u=>obtain ⟨v,σ',H',I,r,q⟩:=h; exact ⟨v,σ',H',I.KQ,r,q⟩
theorem PSs.nox {st:List Stmt} {t:TS} (h:PSs X.nox st t):PSs X st t:=fun pins s σ H D I hw =>
 wpAny_mono (h pins s σ H D (I.wish _) hw) (fun _ _ q=>q.KQ) fun _ _ z=>False.elim z
end
section
variable {X:Cx} {st:Stmt} {rest:List Stmt} {t u:TS} {e:Expr} {te:TE} {pos:Pos}
def ajq:TS:=fun D σ H=>D.nx σ H
def akt (t u:TS):TS:=fun D σ H=>t { D with nx:=u D } σ H
theorem Ar:PSs X [] ajq:=fun _ _ σ H _ I h=>wpAny_execs_nil ⟨σ,H,I,h⟩
theorem Ad (h1:PS X st t) (h2:PSs X rest u):PSs X (st :: rest) (akt t u):=by
 intro pins s σ H D I h
 refine wpAny_execs_cons (thn (h1 pins s σ H { D with nx:=u D } I h) fun f s1 q=>?_)
 cases f with
 | next =>
  obtain ⟨σ',H',I',q⟩:=q
  exact h2 pins s1 σ' H' D I' q
 | ret v=>exact q
 | brk=>exact q
 | cont=>exact q
theorem Af (h1:PS X st t):PSs X [st] t:=by
 intro pins s σ H D I h
 refine wpAny_execs_cons (thn (h1 pins s σ H D I h) fun f s1 q=>?_)
 cases f with
 | next=>exact wpAny_execs_nil q
 | ret v=>exact q
 | brk=>exact q
 | cont=>exact q
theorem Inv.quiet {pins:List (Addr × Obj)} {σ:St} {H:Hp} {s:Shared} (I:Inv X pins σ H s):interactive X.env=false:=by simp [interactive,I.ok.kind]
def ajs (te:TE):TS:=fun D σ H=>te σ H fun _ H1=>D.nx σ H1
theorem JP (he:PE X e te) (hs:swapsWith e none pos.line X.env=pure false:=by rfl):PS X (.Expr e pos) (ajs te):=by
 intro pins s σ H D I h
 exact wpAny_Expr_any (thn (he pins s σ H _ I h) fun v s1 ⟨x,H1,I1,r1,q1⟩=>⟨σ,H1,I1,q1⟩) I.quiet hs
def aku (te:TE):TS:=fun D σ H=>te σ H D.rt
theorem Am (he:PE X e te):PS X (.Return (some e) pos) (aku te):=by
 intro pins s σ H D I h
 exact wpAny_Return_some (thn (he pins s σ H _ I h) fun v s1 ⟨x,H1,I1,r1,q1⟩=>⟨x,σ,H1,I1,r1,q1⟩)
def akA (c:TT) (t u:TS):TS:=fun D σ H=>c σ H fun b H1=>if b=true then t D σ H1 else u D σ H1
theorem Bj {c:Expr} {a b:List Stmt} {tc:TT} (hc:PT X c tc) (ha:PSs X a t) (hb:PSs X b u):PS X (.If c a b pos) (akA tc t u):=by
 intro pins s σ H D I h
 refine wpAny_If (thn (hc pins s σ H _ I h) fun d s1 ⟨H1,I1,q1⟩=>?_)
 cases d with
 | true=>exact ha pins s1 σ H1 D I1 q1
 | false=>exact hb pins s1 σ H1 D I1 q1
end
abbrev TG:=V->St->Hp->(St->Hp->Prop)->Prop
abbrev TGs:=List V->St->Hp->(St->Hp->Prop)->Prop
def PG (X:Cx) (target:Expr) (t:TG):Prop :=
 ∀ (pins:List (Addr × Obj)) (s:Shared) (σ:St) (H:Hp) (v:V) (u:Value) (Q:St->Hp->Prop),Inv X pins σ H s->RelV v u->t v σ H Q ->
  wpAny (model X.prog X.w) X.A (assign target X.env u) (fun _ s'=>∃ σ' H',Inv X pins σ' H' s'/\Q σ' H') X.xe s
def PGs (X:Cx) (ts:List Expr) (t:TGs):Prop :=
 ∀ (pins:List (Addr × Obj)) (s:Shared) (σ:St) (H:Hp) (vs:List V) (us:List Value) (Q:St->Hp->Prop),Inv X pins σ H s->Vals vs us->t vs σ H Q ->
  wpAny (model X.prog X.w) X.A (assignInOrder ((assignEach ts X.env).map (·.2)) us) (fun _ s'=>∃ σ' H',Inv X pins σ' H' s'/\Q σ' H') X.xe s
abbrev ajd:=V->V->V->Hp->(Hp->Prop)->Prop
def akm (X:Cx) (t:ajd):Prop :=
 ∀ (pins:List (Addr × Obj)) (s:Shared) (σ:St) (H:Hp) (o i v:V) (ov iv u:Value) (Q:Hp->Prop),Inv X pins σ H s->RelV o ov->RelV i iv->RelV v u->t o i v H Q ->
  wpAny (model X.prog X.w) X.A (setItem ov iv u) (fun _ s'=>∃ H',Inv X pins σ H' s'/\Q H') X.xe s
section
variable {X:Cx} {pos:Pos}
def YL (i:Nat):TG:=fun v σ H Q=>Q (σ.set i (some v)) H
theorem Be {i:Nat} {x:Str} (hN:X.N.Nodup) (hi:X.N[i]? = some x) (hx:Loc X.env.scope x) (hf:X.fn x=true \/ X.env.scope.names.lookup x=some .local:=by first | exact .inl rfl | exact .inr rfl | assumption):PG X (.Name x pos) (YL i):=by
 intro pins s σ H v u Q I r h
 exact wpAny_assign_Name (aaC I hN hi hx r (fun s' I'=>⟨_,H,I',h⟩) hf)
def akc:TGs:=fun vs σ H Q=>vs=[]/\Q σ H
def agm (t:TG) (u:TGs):TGs:=fun vs σ H Q=>∃ v r,vs=v :: r/\t v σ H fun σ' H'=>u r σ' H' Q
theorem Eg:PGs X [] akc:=by
 intro pins s σ H vs us Q I r h
 obtain ⟨e,h⟩:=h
 subst e
 cases r
 exact assignInOrder_nil ⟨σ,H,I,h⟩
theorem Bw {e:Expr} {es:List Expr} {t:TG} {u:TGs} (h1:PG X e t) (h2:PGs X es u)
  (hs:(assignEach (e :: es) X.env).map (·.2)=assign e X.env :: (assignEach es X.env).map (·.2):=by rfl):PGs X (e :: es) (agm t u):=by
 intro pins s σ H vs us Q I r h
 obtain ⟨v,vr,e1,h⟩:=h
 subst e1
 cases r with
 | cons r rr =>
  rw [hs]
  refine assignInOrder_cons (thn (h1 pins s σ H _ _ _ I r h) fun _ s1 ⟨σ1,H1,I1,q1⟩=>?_)
  exact h2 pins s1 σ1 H1 _ _ Q I1 rr q1
def akb (K:PySem.W.Frag) (n:Nat) (t:TGs):TG:=fun v σ H Q=>∃ a xs,v = .ref a/\SqT K H a xs/\xs.length=n/\t xs σ H Q
theorem Fx {es:List Expr} {k:Nat} {t:TGs} {n:Nat} (hc:X.calm=true) (h:PGs X es t)
  (hn:(assignEach es X.env).length=n:=by rfl) (hst:(assignEach es X.env).findIdx? (·.1)=none:=by rfl):PG X (.Tuple es k pos) (akb X.K n t):=by
 intro pins s σ H v u Q I r hw
 obtain ⟨a,xs,e1,hq,hl,hw⟩:=hw
 subst e1
 cases r
 obtain ⟨its,rv,ht,hz⟩:=I.tuple hq
 refine assign_Tuple_tuple (I.ok.hd hc) ht (by simp [hn,<- hl,rv.length]) hst fun h' hx=>?_
 have I1:Inv X pins σ H { s with heap:=h' }:=I.kept (t':=s.toks) fun b o e=>hx b o (Nat.ne_of_lt (Heap.lt_size e)) e
 exact h pins _ σ H xs _ Q I1 (by simpa using rv) hw
def alk (to ti:TE) (t:ajd):TG:=fun v σ H Q=>to σ H fun o H1=>ti σ H1 fun i H2=>t o i v H2 fun H3=>Q σ H3
theorem acw {o i:Expr} {to ti:TE} {t:ajd} (ho:PE X o to) (hi:PE X i ti) (hs:akm X t)
  (ha:∀ v,assign (.Subscript o i pos) X.env v=(do
   let ov <- holding [v] (eval o X.env)
   let iv <- holding [v,ov] (eval i X.env)
   standAt pos
   holding [v,ov,iv] (setItem ov iv v)
   release [v,ov,iv] []):=by intro _; rfl):PG X (.Subscript o i pos) (alk to ti t):=by
 intro pins s σ H v u Q I r h
 rw [ha]
 refine wpAny_bind (wpAny_holding (thn (ho pins s σ H _ I h) fun ov s1 ⟨x,H1,I1,r1,q1⟩=>?_))
 refine wpAny_bind (wpAny_holding (thn (hi pins s1 σ H1 _ I1 q1) fun iv s2 ⟨y,H2,I2,r2,q2⟩=>?_))
 refine wpAny_bind (wpAny_standAt (wpAny_bind (wpAny_holding (thn (hs pins s2 σ H2 x y v ov iv u _ I2 r1 r2 r q2) fun _ s3 ⟨H3,I3,q3⟩=>?_))))
 exact wpAny_release ⟨σ,H3,I3,q3⟩
def aia (te:TE) (g:TG):TS:=fun D σ H=>te σ H fun x H1=>g x σ H1 D.nx
theorem acq {tg e:Expr} {te:TE} {g:TG} (he:PE X e te) (hg:PG X tg g) (hs:swapsWithSole [tg] e pos.line X.env=pure false:=by rfl) (hw:swappedStores [tg] e X.env=pure none:=by rfl)
  (h1:(assignEach [tg] X.env).map (·.2)=[assign tg X.env]:=by rfl):PS X (.Assign [tg] e pos) (aia te g):=by
 intro pins s σ H D I h
 refine wpAny_Assign_stores (thn (he pins s σ H _ I h) fun v s1 ⟨x,H1,I1,r1,q1⟩=>?_) hs hw
 rw [h1]
 exact thn (hg pins s1 σ H1 x v _ I1 r1 q1) fun _ s2 q=>q
theorem Ba {i:Nat} {x:Str} {e:Expr} {te:TE} {pos':Pos} (hN:X.N.Nodup) (hi:X.N[i]? = some x) (hx:Loc X.env.scope x) (he:PE X e te) (hs:swapsWith e (some (.Name x pos')) pos.line X.env=pure false:=by rfl) (hf:X.fn x=true \/ X.env.scope.names.lookup x=some .local:=by first | exact .inl rfl | exact .inr rfl | assumption) :
  PS X (.Assign [.Name x pos'] e pos) (aia te (YL i)):=by
 intro pins s σ H D I h
 refine wpAny_Assign_Name (thn (he pins s σ H _ I h) fun v s1 ⟨y,H1,I1,r1,q1⟩=>?_) hs
 exact aaC I1 hN hi hx r1 (fun s2 I2=>⟨_,H1,I2,q1⟩) hf
end
section
variable {X:Cx} {pos:Pos}
def ah3 (c:TT) (tb:TS):TS:=fun D σ H=>∃ W:Nat->St->Hp->Prop,(∃ m,W m σ H)/\∀ m σ H,W m σ H ->
 c σ H fun b H1=>if b=true then ∃ N:St->Hp->Prop,(∀ σ' H',N σ' H'->∃ m',m' < m/\W m' σ' H')/\tb { D with nx:=N,ct:=N,bk:=D.nx } σ H1 else D.nx σ H1
theorem VH {c:Expr} {body:List Stmt} {tc:TT} {tb:TS} (hp:PassesOwn (model X.prog X.w) X.A X.env X.xe) (hc:PT X c tc) (hb:PSs X body tb):PS X (.While c body [] pos) (ah3 tc tb):=by
 intro pins s σ H D I h
 obtain ⟨W,⟨m0,w0⟩,turn⟩:=h
 refine wpAny_While (codeAny_whileLoop (fun n s'=>∃ σ' H',Inv X pins σ' H' s'/\W n σ' H') ?_ m0 ⟨σ,H,I,w0⟩)
 rintro n s1 ⟨σ1,H1,I1,w1⟩
 refine wpAny_passesOwn hp (thn (hc pins s1 σ1 H1 _ I1 (turn n σ1 H1 w1)) fun b s2 ⟨H2,I2,q2⟩=>?_)
 cases b with
 | true =>
  obtain ⟨N,hN,q2⟩:=q2
  rw [if_pos rfl]
  refine wpAny_passesOwn hp (thn (hb pins s2 σ1 H2 _ I2 q2) fun f s3 q3=>?_)
  cases f with
  | next =>
   obtain ⟨σ3,H3,I3,n3⟩:=q3
   obtain ⟨m',hm,w3⟩:=hN σ3 H3 n3
   exact ⟨m',hm,σ3,H3,I3,w3⟩
  | cont =>
   obtain ⟨σ3,H3,I3,n3⟩:=q3
   obtain ⟨m',hm,w3⟩:=hN σ3 H3 n3
   exact ⟨m',hm,σ3,H3,I3,w3⟩
  | brk=>exact q3
  | ret v=>exact q3
 | false =>
  rw [if_neg Bool.false_ne_true]
  exact wpAny_execs_nil ⟨σ1,H2,I2,q2⟩
end
structure It where
 go:Nat->Hp->Prop
 yld:Nat->Hp->V->Hp->Prop
 stop:Nat->Hp->Prop
def W8 (X:Cx) (pins:List (Addr × Obj)) (H:Hp) (b:Addr):Prop :=
 H b=none/\b ≠ X.env.locals/\b ∉ X.fs/\(b ∈ X.ex \/ X.s_0.heap.objs.size <= b)/\(∀ x c,X.env.cells.lookup x=some c->c ≠ b)/\∀ p ∈ X.pn ++ pins,p.1 ≠ b
theorem Inv.acV {X:Cx} {pins:List (Addr × Obj)} {σ:St} {H H':Hp} {s:Shared} {b:Addr} (I:Inv X pins σ H s) (hb:s.heap.objs.size <= b) (hn:H' b=none):W8 X pins H' b:=by
 refine ⟨hn,Nat.ne_of_gt (Nat.lt_of_lt_of_le I.lt hb),I.akW hb,.inr (Nat.le_trans I.sz hb),fun x c e z=>?_,fun p hp z=>?_⟩
 ·obtain ⟨v,q⟩:=I.cell x c e
  exact absurd (Nat.lt_of_lt_of_le q.lt (by rw [z]; exact hb)) (Nat.lt_irrefl _)
 ·exact absurd (Nat.lt_of_lt_of_le (Heap.lt_size (I.pin p hp).1) (by rw [z]; exact hb)) (Nat.lt_irrefl _)
structure Turn (P:Program) (w:World) (K:PySem.W.Frag) (tg:Expr) (J:It) (fp:List Addr) (it:Addr) (tn:Nat->Heap->Prop):Prop where
 mem:it ∈ fp
 obj:∀ i h,tn i h->∀ b ∈ fp,∃ o,h.get? b=some o/\∀ v,o.data ≠ .cell v
 keep:∀ i h h',tn i h->(∀ b ∈ fp,∀ o,h.get? b=some o->h'.get? b=some o)->tn i h'
 item:∀ (X:Cx),X.prog=P->X.w=w->X.K=K->X.calm=true->∀ (i:Nat) (pins:List (Addr × Obj)) (s:Shared) (σ:St) (H:Hp) (E:Value->Shared->Prop),Inv X pins σ H s->(∀ b ∈ fp,W8 X pins H b)->tn i s.heap->J.go i H ->
  wpAny (model P w) X.A (pyNext (.ref it)) (fun r s1=>∃ u,r=some u /\
   wpAny (model P w) X.A (letOwnedTupleGo tg (.ref it) u) (fun _ s2=>∃ x H',Inv X pins σ H' s2/\RelV x u/\J.yld i H x H'/\tn (i + 1) s2.heap/\∀ b ∈ fp,H' b=none) E s1) E s
 done:∀ (X:Cx),X.prog=P->X.w=w->X.K=K->X.calm=true->∀ (i:Nat) (pins:List (Addr × Obj)) (s:Shared) (σ:St) (H:Hp) (E:Value->Shared->Prop),Inv X pins σ H s->(∀ b ∈ fp,W8 X pins H b)->tn i s.heap->J.stop i H ->
  wpAny (model P w) X.A (pyNext (.ref it)) (fun r s1=>r=none/\Inv X pins σ H s1) E s
 self:∀ (A:Around) (i:Nat) (s:Shared) (Q:Value->Shared->Prop) (E:Value->Shared->Prop),tn i s.heap->Q (.ref it) s->wpAny (model P w) A (pyIter (.ref it)) Q E s
abbrev TI:=St->Hp->(It->Hp->Prop)->Prop
def PIE (X:Cx) (pins:List (Addr × Obj)) (σ:St) (tg:Expr) (R:It->Hp->Prop) (itv:Value) (s2:Shared):Prop :=
 ∃ (it:Addr) (fp:List Addr) (tn:Nat->Heap->Prop) (J:It) (H':Hp),itv = .ref it/\Inv X pins σ H' s2/\Turn X.prog X.w X.K tg J fp it tn/\tn 0 s2.heap/\(∀ b ∈ fp,W8 X pins H' b)/\R J H'
def PI (X:Cx) (tg iter:Expr) (wi:TI):Prop :=
 ∀ (pins:List (Addr × Obj)) (s:Shared) (σ:St) (H:Hp) (R:It->Hp->Prop),Inv X pins σ H s->wi σ H R ->
  wpAny (model X.prog X.w) X.A (eval iter X.env) (fun v s1=>wpAny (model X.prog X.w) X.A (pyIter v) (PIE X pins σ tg R) X.xe s1) X.xe s
theorem YK {M:Model} {A:Around} {E:Value->Shared->Prop} {s:Shared} {tg:Expr} {it:Addr} {u:Value} {o:Obj} {n:String} {vs:Array Value} {Q:Unit->Shared->Prop} (ho:s.heap.get? it=some o) (hc:o.cls = .type n) (hd:o.data = .fields vs)
    (hn:["enumerate", "zip", "dict_itemiterator", "dict_reverseitemiterator", "odict_iterator", "itertools.zip_longest", "itertools.pairwise"].contains n=false) (hQ:Q () s):wpAny M A (letOwnedTupleGo tg (.ref it) u) Q E s:=by
  unfold letOwnedTupleGo
  cases tg <;> first
    | exact wpAny_pure hQ
    | (cases u <;> first
        | exact wpAny_pure hQ
        | (refine wpAny_bind (wpAny_load ho ?_)
           rw [hc,hd]
           show wpAny M A (if (["enumerate", "zip", "dict_itemiterator", "dict_reverseitemiterator", "odict_iterator", "itertools.zip_longest", "itertools.pairwise"].contains n && vs[0]? == some (rawInt _))=true then _ else _) Q E s
           rw [if_neg (by intro h; rw [hn,Bool.false_and] at h; cases h)]
           exact wpAny_pure hQ))
def Itl (K:PySem.W.Frag) (a:Addr):It :=
 ⟨fun i H=>∃ xs x,SqL K H a xs/\xs[i]? = some x,fun i H x H'=>H'=H/\∀ xs,SqL K H a xs->xs[i]? = some x,fun i H=>∃ xs,SqL K H a xs/\xs.length <= i⟩
def Itt (K:PySem.W.Frag) (a:Addr):It :=
 ⟨fun i H=>∃ xs x,SqT K H a xs/\xs[i]? = some x,fun i H x H'=>H'=H/\∀ xs,SqT K H a xs->xs[i]? = some x,fun i H=>∃ xs,SqT K H a xs/\xs.length <= i⟩
def Itr (lo:Int) (n:Nat):It:=⟨fun i _=>i < n,fun i H x H'=>H'=H/\x = .int (lo + i),fun i _=>n <= i⟩
theorem ad8 {P:Program} {w:World} {K:PySem.W.Frag} {tg:Expr} (a it:Addr):Turn P w K tg (Itl K a) [it] it (fun i h=>h.IsListIter it a i) where
 mem:=by simp
 obj:=fun i h st b hb=>by
  have e:b=it:=by simpa using hb
  subst e
  obtain ⟨o,e,c,d⟩:=st
  exact ⟨o,e,fun v z=>by rw [d] at z; cases z⟩
 keep:=fun i h h' st k=>st.at fun o e=>k it (by simp) o e
 item:=by
  intro X hP hw hK hc i pins s σ H E I hf st hg
  subst hP hw hK
  obtain ⟨xs,x,hq,hx⟩:=hg
  obtain ⟨its,rv,p,hz⟩:=I.list hq
  obtain ⟨u,hu,ru⟩:=rv.get hx
  obtain ⟨f0,f1,f2,f3,f4,f5⟩:=hf it (by simp)
  refine wpAny_pyNext_list_item st p.isList (x:=u) (by simpa using hu) fun h' st' sb=>?_
  have I1:Inv X pins σ H { s with heap:=h' }:=I.turned (t':=s.toks) (fun b o hb e=>(sb.2 b hb).trans e) f0 f1 f3 f4 f5
  obtain ⟨o,e,c,d⟩:=id st'
  exact ⟨u,rfl,YK (s:={ s with heap:=h' }) e c d (by decide) ⟨x,H,I1,ru,⟨rfl,fun ys hy=>by rw [I.aa8 hy hq]; exact hx⟩,st',fun b hb=>(hf b hb).1⟩⟩
 done:=by
  intro X hP hw hK hc i pins s σ H E I hf st hg
  subst hP hw hK
  obtain ⟨xs,hq,hx⟩:=hg
  obtain ⟨its,rv,p,hz⟩:=I.list hq
  obtain ⟨f0,f1,f2,f3,f4,f5⟩:=hf it (by simp)
  have hl:=rv.length
  exact wpAny_pyNext_list_end (I.ok.hd hc) st p.isList (by simp; omega) fun h' eb=>⟨rfl,I.turned (t':=s.toks) (fun b o hb e=>eb b o hb e) f0 f1 f3 f4 f5⟩
 self:=fun _ _ _ _ _ st h=>wpAny_pyIter_listiter st h
theorem ab4 {P:Program} {w:World} {K:PySem.W.Frag} {tg:Expr} (a it:Addr):Turn P w K tg (Itt K a) [it] it (fun i h=>h.IsTupleIter it a i) where
 mem:=by simp
 obj:=fun i h st b hb=>by
  have e:b=it:=by simpa using hb
  subst e
  obtain ⟨o,e,c,d⟩:=st
  exact ⟨o,e,fun v z=>by rw [d] at z; cases z⟩
 keep:=fun i h h' st k=>st.at fun o e=>k it (by simp) o e
 item:=by
  intro X hP hw hK hc i pins s σ H E I hf st hg
  subst hP hw hK
  obtain ⟨xs,x,hq,hx⟩:=hg
  obtain ⟨its,rv,p,hz⟩:=I.tuple hq
  obtain ⟨u,hu,ru⟩:=rv.get hx
  obtain ⟨f0,f1,f2,f3,f4,f5⟩:=hf it (by simp)
  refine wpAny_pyNext_tuple_item st (show s.heap.IsTuple a its.toArray from p) (x:=u) (by simpa using hu) fun h' st' sb=>?_
  have I1:Inv X pins σ H { s with heap:=h' }:=I.turned (t':=s.toks) (fun b o hb e=>(sb.2 b hb).trans e) f0 f1 f3 f4 f5
  obtain ⟨o,e,c,d⟩:=id st'
  exact ⟨u,rfl,YK (s:={ s with heap:=h' }) e c d (by decide) ⟨x,H,I1,ru,⟨rfl,fun ys hy=>by rw [I.X3 hy hq]; exact hx⟩,st',fun b hb=>(hf b hb).1⟩⟩
 done:=by
  intro X hP hw hK hc i pins s σ H E I hf st hg
  subst hP hw hK
  obtain ⟨xs,hq,hx⟩:=hg
  obtain ⟨its,rv,p,hz⟩:=I.tuple hq
  obtain ⟨f0,f1,f2,f3,f4,f5⟩:=hf it (by simp)
  have hl:=rv.length
  exact wpAny_pyNext_tuple_end (I.ok.hd hc) st (show s.heap.IsTuple a its.toArray from p) (by simp; omega) fun h' eb=>⟨rfl,I.turned (t':=s.toks) (fun b o hb e=>eb b o hb e) f0 f1 f3 f4 f5⟩
 self:=fun _ _ _ _ _ st h=>wpAny_pyIter_tupleiter st h
theorem ab5 {P:Program} {w:World} {K:PySem.W.Frag} {tg:Expr} (it:Addr) (lo:Int) (n:Nat):Turn P w K tg (Itr lo n) [it] it (fun i h=>IsRangeIter h it (lo + (i:Nat) * 1) ((n:Int) - (i:Nat)) 1) where
 mem:=by simp
 obj:=fun i h st b hb=>by
  have e:b=it:=by simpa using hb
  subst e
  exact ⟨_,st,fun v z=>by
   have z':Data.fields _=Data.cell v:=z
   cases z'⟩
 keep:=fun i h h' st k=>k it (by simp) _ st
 item:=by
  intro X hP hw hK hc i pins s σ H E I hf st hg
  subst hP hw hK
  obtain ⟨f0,f1,f2,f3,f4,f5⟩:=hf it (by simp)
  have W:=Walks.range (prog:=X.prog) (w:=X.w) (I.ok.hd hc) it lo 1 n
  refine W.item i s _ _ hg st fun v h' tk hv st' kk=>?_
  obtain ⟨t,rfl⟩:=hv
  have I1:Inv X pins σ H { s with heap:=h',toks:=tk }:=I.turned (fun b o hb e=>kk b o (by simpa using hb) e) f0 f1 f3 f4 f5
  refine ⟨_,rfl,YK (s:={ s with heap:=h',toks:=tk }) (n := "range_iterator") st' rfl rfl (by decide) ⟨.int (lo + i),H,I1,⟨t,?_⟩,⟨rfl,rfl⟩,st',fun b hb=>(hf b hb).1⟩⟩
  rw [Int.mul_one]
 done:=by
  intro X hP hw hK hc i pins s σ H E I hf st hg
  subst hP hw hK
  obtain ⟨f0,f1,f2,f3,f4,f5⟩:=hf it (by simp)
  exact wpAny_pyNext_range_end (I.ok.hd hc) st (by have:n <= i:=hg; omega) fun h' eb=>⟨rfl,I.turned (t':=s.toks) (fun b o hb e=>eb b o hb e) f0 f1 f3 f4 f5⟩
 self:=fun _ _ _ _ _ st h=>wpAny_pyIter_rangeiter st h
section
variable {X:Cx} {tg:Expr}
def ajO (K:PySem.W.Frag) (tl:TE):TI:=fun σ H R=>tl σ H fun x H1=>∃ a,x = .ref a/\(∃ xs,SqL K H1 a xs)/\R (Itl K a) H1
def ak0 (K:PySem.W.Frag) (tl:TE):TI:=fun σ H R=>tl σ H fun x H1=>∃ a,x = .ref a/\(∃ xs,SqT K H1 a xs)/\R (Itt K a) H1
theorem GX {l:Expr} {tl:TE} (hl:PE X l tl):PI X tg l (ajO X.K tl):=by
 intro pins s σ H R I h
 refine thn (hl pins s σ H _ I h) fun v s1 ⟨x,H1,I1,r1,q1⟩=>?_
 obtain ⟨a,e,⟨xs,hq⟩,q⟩:=q1
 subst e
 cases r1
 obtain ⟨its,rv,p,hz⟩:=I1.list hq
 refine wpAny_pyIter_list p.isList ?_
 refine ⟨s1.heap.objs.size,[s1.heap.objs.size],_,_,H1,rfl,I1.kept (t':=s1.toks) fun b o e=>Heap.get?_push_of_some _ e,ad8 a _,⟨_,Heap.get?_push_size _ rfl,rfl,rfl⟩,fun b hb=>?_,q⟩
 have e:b=s1.heap.objs.size:=by simpa using hb
 subst e
 exact I1.acV (Nat.le_refl _) (I1.hok.fresh (Nat.le_refl _))
theorem acu {l:Expr} {tl:TE} (hl:PE X l tl):PI X tg l (ak0 X.K tl):=by
 intro pins s σ H R I h
 refine thn (hl pins s σ H _ I h) fun v s1 ⟨x,H1,I1,r1,q1⟩=>?_
 obtain ⟨a,e,⟨xs,hq⟩,q⟩:=q1
 subst e
 cases r1
 obtain ⟨its,rv,p,hz⟩:=I1.tuple hq
 refine wpAny_pyIter_tuple (show s1.heap.IsTuple a its.toArray from p) ?_
 refine ⟨s1.heap.objs.size,[s1.heap.objs.size],_,_,H1,rfl,I1.kept (t':=s1.toks) fun b o e=>Heap.get?_push_of_some _ e,ab4 a _,⟨_,Heap.get?_push_size _ rfl,rfl,rfl⟩,fun b hb=>?_,q⟩
 have e:b=s1.heap.objs.size:=by simpa using hb
 subst e
 exact I1.acV (Nat.le_refl _) (I1.hok.fresh (Nat.le_refl _))
theorem aaU {pins:List (Addr × Obj)} {σ:St} {H:Hp} {s:Shared} {R:It->Hp->Prop} {E:Value->Shared->Prop} {lo hi:Int} {t u v:Tok} {tk:Nat} (I:Inv X pins σ H s) (h1:-(2 ^ 62) <= lo) (h2:lo < 2 ^ 62) (h3:-(2 ^ 62) <= hi) (h4:hi < 2 ^ 62)
  (q:R (Itr lo (hi - lo).toNat) H):wpAny (model X.prog X.w) X.A (pyIter (.ref s.heap.objs.size)) (PIE X pins σ tg R) E { s with heap:=s.heap.push { cls:=.type "range",data:=.fields #[.int lo t,.int hi u,.int 1 v] },toks:=tk }:=by
 refine wpAny_pyIter_range (IsRange.new ..) (small_one h1 h2 h3 h4) ?_
 have I1:Inv X pins σ H { s with heap:=s.heap.push { cls:=.type "range",data:=.fields #[.int lo t,.int hi u,.int 1 v] },toks:=tk }:=I.kept fun b o e=>Heap.get?_push_of_some _ e
 refine ⟨(s.heap.push { cls:=.type "range",data:=.fields #[.int lo t,.int hi u,.int 1 v] }).objs.size,[(s.heap.push { cls:=.type "range",data:=.fields #[.int lo t,.int hi u,.int 1 v] }).objs.size],_,_,H,rfl,
  I1.kept (t':=tk) fun b o e=>Heap.get?_push_of_some _ e,ab5 _ lo (hi - lo).toNat,?_,fun b hb=>?_,q⟩
 ·have e1:lo + ((0:Nat):Int) * 1=lo:=by simp
  have e2:(((hi - lo).toNat:Nat):Int) - ((0:Nat):Int)=Builtin.Range.rangeSize lo hi 1:=by rw [rangeSize_one]; split <;> omega
  show IsRangeIter _ _ (lo + ((0:Nat):Int) * 1) ((((hi - lo).toNat:Nat):Int) - ((0:Nat):Int)) 1
  rw [e1,e2]
  exact Heap.get?_push_size _ rfl
 ·have e:b=(s.heap.push { cls:=.type "range",data:=.fields #[.int lo t,.int hi u,.int 1 v] }).objs.size:=by simpa using hb
  subst e
  exact I1.acV (Nat.le_refl _) (I1.hok.fresh (Nat.le_refl _))
def ajN (ta:TA):TI:=fun σ H R=>ta σ H fun vs H1=>∃ j:Int,vs=[.int j] /\ -(2 ^ 62) <= j/\j < 2 ^ 62/\R (Itr 0 j.toNat) H1
def ajM (ta:TA):TI:=fun σ H R=>ta σ H fun vs H1=>∃ i j:Int,vs=[.int i,.int j]/\(-(2 ^ 62) <= i/\i < 2 ^ 62 /\ -(2 ^ 62) <= j/\j < 2 ^ 62)/\R (Itr i (j - i).toNat) H1
theorem Mu {a:Expr} {ta:TA} {p pos:Pos} (hg:Gl X "range") (hm:X.mg "range" = none) (ha:PA X [a] ta) (hs:starEach [a] X.env=[(false,eval a X.env)]:=by rfl):PI X tg (.Call (.Name "range" p) [a] [] pos) (ajN ta):=by
 intro pins s σ H R I h
 refine Call_ (Rw I hg hm boot_range (PyProof.Rows.callWith_type1 (thn (ha pos pins s σ H _ I h) fun us s1 ⟨vs,H1,I1,r1,q1⟩=>?_) hs rfl))
 obtain ⟨j,e,q1,q2,q⟩:=q1
 subst e
 cases r1 with
 | cons r rr =>
  cases rr
  obtain ⟨t,rfl⟩:=r
  exact call_range_1 (aaU I1 (by omega) (by omega) q1 q2 (by simpa using q))
theorem aew {a b:Expr} {ta:TA} {p pos:Pos} (hg:Gl X "range") (hm:X.mg "range" = none) (ha:PA X [a,b] ta) (hs:starEach [a,b] X.env=[(false,eval a X.env),(false,eval b X.env)]:=by rfl) (hs2:starEach [b] X.env=[(false,eval b X.env)]:=by rfl) :
  PI X tg (.Call (.Name "range" p) [a,b] [] pos) (ajM ta):=by
 intro pins s σ H R I h
 refine Call_ (Rw I hg hm boot_range (PyProof.Rows.callWith_type1 (thn (ha pos pins s σ H _ I h) fun us s1 ⟨vs,H1,I1,r1,q1⟩=>?_) (by rw [hs,hs2]) (by rw [hs2]; rfl)))
 obtain ⟨i,j,e,⟨q1,q2,q3,q4⟩,q⟩:=q1
 subst e
 cases r1 with
 | cons r rr =>
  cases rr with
  | cons r' rr =>
   cases rr
   obtain ⟨t,rfl⟩:=r
   obtain ⟨t',rfl⟩:=r'
   exact call_range_2 (aaU I1 q1 q2 q3 q4 q)
def akB (wi:TI) (g:TG) (tb:TS):TS:=fun D σ H=>wi σ H fun J H1=>∃ W:Nat->Nat->St->Hp->Prop,(∃ m,W 0 m σ H1)/\∀ i m σ H,W i m σ H ->
 (J.stop i H/\D.nx σ H) \/ (J.go i H/\∃ N:St->Hp->Prop,(∀ σ' H',N σ' H'->∃ m',m' < m/\W (i + 1) m' σ' H')/\∀ x H',J.yld i H x H'->g x σ H' fun σ2 H2=>tb { D with nx:=N,ct:=N,bk:=D.nx } σ2 H2)
def VJ (fp:List Addr) (h:Heap):List (Addr × Obj):=fp.filterMap fun b=>(h.get? b).map fun o=>(b,o)
theorem Oj {fp:List Addr} {h:Heap} {b:Addr} {o:Obj} (hb:b ∈ fp) (e:h.get? b=some o):(b,o) ∈ VJ fp h:=List.mem_filterMap.mpr ⟨b,hb,by rw [e]; rfl⟩
theorem aeA {fp:List Addr} {h:Heap} {p:Addr × Obj} (hp:p ∈ VJ fp h):p.1 ∈ fp/\h.get? p.1=some p.2:=by
 obtain ⟨b,hb,e⟩:=List.mem_filterMap.mp hp
 cases q:h.get? b with
 | none=>rw [q] at e; cases e
 | some o =>
  rw [q] at e
  have e':(b,o)=p:=Option.some.inj e
  subst e'
  exact ⟨hb,q⟩
theorem Inv.pinned {pins:List (Addr × Obj)} {σ:St} {H:Hp} {s:Shared} {fp:List Addr} (I:Inv X pins σ H s) (hf:∀ b ∈ fp,W8 X pins H b) (ho:∀ b ∈ fp,∃ o,s.heap.get? b=some o/\∀ v,o.data ≠ .cell v):Inv X (pins ++ VJ fp s.heap) σ H s :=
 I.adw fun p hp=>(List.mem_append.mp hp).elim (fun z=>I.pin p (List.mem_append_right _ z)) fun z=>by
  obtain ⟨hb,e⟩:=aeA z
  obtain ⟨f0,f1,f2,_⟩:=hf p.1 hb
  obtain ⟨o,e',d⟩:=ho p.1 hb
  rw [e] at e'; cases e'
  exact ⟨e,f0,f1,f2,d⟩
theorem Inv.O9 {pins pl:List (Addr × Obj)} {σ:St} {H:Hp} {s:Shared} (I:Inv X (pins ++ pl) σ H s):Inv X pins σ H s:=I.adw fun p hp=>I.pin p (List.mem_append_right _ (List.mem_append_left _ hp))
theorem CG {iter:Expr} {body:List Stmt} {wi:TI} {g:TG} {tb:TS} {pos:Pos} (hp:PassesOwn (model X.prog X.w) X.A X.env X.xe) (hc:X.calm=true) (hi:PI X tg iter wi) (hg:PG X tg g) (hb:PSs X body tb)
  (hs:∀ x,foldedSetIterable iter X.env x=pure x:=by intro _; rfl):PS X (.For tg iter body [] pos) (akB wi g tb):=by
 intro pins s σ H D I h
 refine wpAny_For (thn (hi pins s σ H _ I h) fun v s1 h1=>thn h1 fun itv s2 h2=>?_) hs
 obtain ⟨it,fp,tn,J,H2,e,I2,T,st2,f2,W,⟨m0,w0⟩,turn⟩:=h2
 subst e
 have stat:∀ {H':Hp},(∀ b ∈ fp,H' b=none)->∀ b ∈ fp,W8 X pins H' b:=fun hn b hb=>⟨hn b hb,(f2 b hb).2⟩
 refine codeAny_forLoop_any (fun n s'=>∃ i σ' H',Inv X pins σ' H' s'/\tn i s'.heap/\(∀ b ∈ fp,H' b=none)/\W i n σ' H') ?_ m0 ⟨0,σ,H2,I2,st2,fun b hb=>(f2 b hb).1,w0⟩
 rintro n s3 ⟨i,σ3,H3,I3,st3,fr3,w3⟩
 rcases turn i n σ3 H3 w3 with ⟨stop,qn⟩ | ⟨go,N,hN,step⟩
 ·refine wpAny_passesOwn hp (thn (T.done X rfl rfl rfl hc i pins s3 σ3 H3 X.xe I3 (stat fr3) st3 stop) fun r s4 ⟨hr,I4⟩=>?_)
  subst hr
  exact wpAny_execs_nil ⟨σ3,H3,I4,qn⟩
 ·refine wpAny_passesOwn hp (thn (T.item X rfl rfl rfl hc i pins s3 σ3 H3 X.xe I3 (stat fr3) st3 go) fun r s4 ⟨u,hr,h4⟩=>?_)
  subst hr
  refine wpAny_passesOwn hp (thn h4 fun _ s5 ⟨x,H5,I5,r5,y5,st5,fr5⟩=>?_)
  have I5':=I5.pinned (stat fr5) (T.obj _ _ st5)
  refine wpAny_passesOwn hp (thn (hg _ s5 σ3 H5 x u _ I5' r5 (step x H5 y5)) fun _ s6 ⟨σ6,H6,I6,q6⟩=>?_)
  refine wpAny_passesOwn hp (thn (hb _ s6 σ6 H6 _ I6 q6) fun f s7 q7=>?_)
  have again:∀ {σ7:St} {H7:Hp},Inv X (pins ++ VJ fp s5.heap) σ7 H7 s7->N σ7 H7->∃ m,m < n/\∃ i σ' H',Inv X pins σ' H' s7/\tn i s7.heap/\(∀ b ∈ fp,H' b=none)/\W i m σ' H':=fun {σ7 H7} I7 n7=>by
   obtain ⟨m',hm,w7⟩:=hN σ7 H7 n7
   refine ⟨m',hm,i + 1,σ7,H7,I7.O9,T.keep _ _ _ st5 fun b hb o e=>(I7.pin (b,o) (List.mem_append_right _ (List.mem_append_right _ (Oj hb e)))).1,fun b hb=>?_,w7⟩
   obtain ⟨o,e,d⟩:=T.obj _ _ st5 b hb
   exact (I7.pin (b,o) (List.mem_append_right _ (List.mem_append_right _ (Oj hb e)))).2.1
  cases f with
  | next=>obtain ⟨σ7,H7,I7,n7⟩:=q7; exact again I7 n7
  | cont=>obtain ⟨σ7,H7,I7,n7⟩:=q7; exact again I7 n7
  | brk=>obtain ⟨σ7,H7,I7,q7⟩:=q7; exact ⟨σ7,H7,I7.O9,q7⟩
  | ret v=>obtain ⟨x7,σ7,H7,I7,r7,q7⟩:=q7; exact ⟨x7,σ7,H7,I7.O9,r7,q7⟩
end
theorem Hz {K:PySem.W.Frag} {a:Addr} {xs:List V} {g:TG} {tb:TS} {D:Ends} {σ:St} {H:Hp} (Pv:Nat->St->Hp->Prop) (h0:Pv 0 σ H) (hl:∀ i σ H,i <= xs.length->Pv i σ H->SqL K H a xs)
  (hs:∀ i x σ H,xs[i]? = some x->Pv i σ H->g x σ H fun σ2 H2=>tb { D with nx:=Pv (i + 1),ct:=Pv (i + 1),bk:=D.nx } σ2 H2) (hd:∀ σ H,Pv xs.length σ H->D.nx σ H) :
  ∃ W:Nat->Nat->St->Hp->Prop,(∃ m,W 0 m σ H)/\∀ i m σ H,W i m σ H ->
   ((Itl K a).stop i H/\D.nx σ H) \/ ((Itl K a).go i H/\∃ N:St->Hp->Prop,(∀ σ' H',N σ' H'->∃ m',m' < m/\W (i + 1) m' σ' H')/\∀ x H',(Itl K a).yld i H x H'->g x σ H' fun σ2 H2=>tb { D with nx:=N,ct:=N,bk:=D.nx } σ2 H2):=by
 refine ⟨fun i m σ H=>m=xs.length - i/\i <= xs.length/\Pv i σ H,⟨xs.length,by simp,Nat.zero_le _,h0⟩,?_⟩
 rintro i m σ H ⟨rfl,hi,p⟩
 have q:=hl i σ H hi p
 by_cases hlt:i < xs.length
 ·refine .inr ⟨⟨xs,xs[i],q,by simp [hlt]⟩,Pv (i + 1),fun σ' H' p'=>⟨xs.length - (i + 1),by omega,rfl,hlt,p'⟩,fun x H' y=>?_⟩
  obtain ⟨e,y⟩:=y
  subst e
  exact hs i x σ _ (y xs q) p
 ·have e:i=xs.length:=by omega
  subst e
  exact .inl ⟨⟨xs,q,Nat.le_refl _⟩,hd σ H p⟩
theorem adM {K:PySem.W.Frag} {a:Addr} {xs:List V} {g:TG} {tb:TS} {D:Ends} {σ:St} {H:Hp} (Pv:Nat->St->Hp->Prop) (h0:Pv 0 σ H) (hl:∀ i σ H,i <= xs.length->Pv i σ H->SqT K H a xs)
  (hs:∀ i x σ H,xs[i]? = some x->Pv i σ H->g x σ H fun σ2 H2=>tb { D with nx:=Pv (i + 1),ct:=Pv (i + 1),bk:=D.nx } σ2 H2) (hd:∀ σ H,Pv xs.length σ H->D.nx σ H) :
  ∃ W:Nat->Nat->St->Hp->Prop,(∃ m,W 0 m σ H)/\∀ i m σ H,W i m σ H ->
   ((Itt K a).stop i H/\D.nx σ H) \/ ((Itt K a).go i H/\∃ N:St->Hp->Prop,(∀ σ' H',N σ' H'->∃ m',m' < m/\W (i + 1) m' σ' H')/\∀ x H',(Itt K a).yld i H x H'->g x σ H' fun σ2 H2=>tb { D with nx:=N,ct:=N,bk:=D.nx } σ2 H2):=by
 refine ⟨fun i m σ H=>m=xs.length - i/\i <= xs.length/\Pv i σ H,⟨xs.length,by simp,Nat.zero_le _,h0⟩,?_⟩
 rintro i m σ H ⟨rfl,hi,p⟩
 have q:=hl i σ H hi p
 by_cases hlt:i < xs.length
 ·refine .inr ⟨⟨xs,xs[i],q,by simp [hlt]⟩,Pv (i + 1),fun σ' H' p'=>⟨xs.length - (i + 1),by omega,rfl,hlt,p'⟩,fun x H' y=>?_⟩
  obtain ⟨e,y⟩:=y
  subst e
  exact hs i x σ _ (y xs q) p
 ·have e:i=xs.length:=by omega
  subst e
  exact .inl ⟨⟨xs,q,Nat.le_refl _⟩,hd σ H p⟩
theorem Js {lo:Int} {n:Nat} {g:TG} {tb:TS} {D:Ends} {σ:St} {H:Hp} (Pv:Nat->St->Hp->Prop) (h0:Pv 0 σ H)
  (hs:∀ i σ H,i < n->Pv i σ H->g (.int (lo + i)) σ H fun σ2 H2=>tb { D with nx:=Pv (i + 1),ct:=Pv (i + 1),bk:=D.nx } σ2 H2) (hd:∀ σ H,Pv n σ H->D.nx σ H) :
  ∃ W:Nat->Nat->St->Hp->Prop,(∃ m,W 0 m σ H)/\∀ i m σ H,W i m σ H ->
   ((Itr lo n).stop i H/\D.nx σ H) \/ ((Itr lo n).go i H/\∃ N:St->Hp->Prop,(∀ σ' H',N σ' H'->∃ m',m' < m/\W (i + 1) m' σ' H')/\∀ x H',(Itr lo n).yld i H x H'->g x σ H' fun σ2 H2=>tb { D with nx:=N,ct:=N,bk:=D.nx } σ2 H2):=by
 refine ⟨fun i m σ H=>m=n - i/\i <= n/\Pv i σ H,⟨n,by simp,Nat.zero_le _,h0⟩,?_⟩
 rintro i m σ H ⟨rfl,hi,p⟩
 by_cases hlt:i < n
 ·refine .inr ⟨hlt,Pv (i + 1),fun σ' H' p'=>⟨n - (i + 1),by omega,rfl,hlt,p'⟩,fun x H' y=>?_⟩
  obtain ⟨e,y⟩:=y
  subst e y
  exact hs i σ _ hlt p
 ·have e:i=n:=by omega
  subst e
  exact .inl ⟨Nat.le_refl _,hd σ H p⟩
abbrev R2:=V->V->Hp->VK->Prop
def OpR (X:Cx) (f:Value->Value->Sem Value) (r:R2):Prop :=
 ∀ (pins:List (Addr × Obj)) (s:Shared) (σ:St) (H:Hp) (x y:V) (v u:Value) (Q:VK),Inv X pins σ H s->RelV x v->RelV y u->r x y H Q ->
  wpAny (model X.prog X.w) X.A (f v u) (EP X pins σ Q) X.xe s
def UnR (X:Cx) (f:Value->Sem Value) (r:V->Hp->VK->Prop):Prop :=
 ∀ (pins:List (Addr × Obj)) (s:Shared) (σ:St) (H:Hp) (x:V) (v:Value) (Q:VK),Inv X pins σ H s->RelV x v->r x H Q ->
  wpAny (model X.prog X.w) X.A (f v) (EP X pins σ Q) X.xe s
def Jy (X:Cx) (f:Value) (r:List V->Hp->VK->Prop):Prop :=
 ∀ (pins:List (Addr × Obj)) (s:Shared) (σ:St) (H:Hp) (xs:List V) (us:List Value) (Q:VK),Inv X pins σ H s->Vals xs us->r xs H Q ->
  wpAny (model X.prog X.w) X.A (call f us) (EP X pins σ Q) X.xe s
def tOp (r:R2) (ta tb:TE):TE:=fun σ H Q=>ta σ H fun x H1=>tb σ H1 fun y H2=>r x y H2 Q
def tUn (r:V->Hp->VK->Prop) (ta:TE):TE:=fun σ H Q=>ta σ H fun x H1=>r x H1 Q
def rI (C:Int->Int->Prop) (g:Int->Int->V):R2:=fun x y H Q=>∃ i j,x = .int i/\y = .int j/\C i j/\Q (g i j) H
def rI0 (g:Int->Int->V):R2:=fun x y H Q=>∃ i j,x = .int i/\y = .int j/\Q (g i j) H
def rU (g:Int->V):V->Hp->VK->Prop:=fun x H Q=>∃ i,x = .int i/\Q (g i) H
section
variable {X:Cx} {a b c:Expr} {ta tb tc:TE} {pos:Pos}
theorem aja (ha:PE X a ta) (hb:PE X b tb) {pins:List (Addr × Obj)} {s:Shared} {σ:St} {H:Hp} {R:V->V->Hp->Prop} (I:Inv X pins σ H s)
  (h:ta σ H fun x H1=>tb σ H1 fun y H2=>R x y H2) {Q:Value->Shared->Prop} {f:Value->Value->Sem Value}
  (hf:∀ v u s2 x y H2,Inv X pins σ H2 s2->RelV x v->RelV y u->R x y H2->wpAny (model X.prog X.w) X.A (f v u) Q X.xe s2) :
  wpAny (model X.prog X.w) X.A (eval a X.env) (fun v s₁=>wpAny (model X.prog X.w) X.A (eval b X.env) (fun u s₂=>wpAny (model X.prog X.w) X.A (f v u) Q X.xe s₂) X.xe s₁) X.xe s:=by
 refine thn (ha pins s σ H _ I h) fun v s1 ⟨x,H1,I1,r1,q1⟩=>?_
 refine thn (hb pins s1 σ H1 _ I1 q1) fun u s2 ⟨y,H2,I2,r2,q2⟩=>?_
 exact hf v u s2 x y H2 I2 r1 r2 q2
theorem BW {op:Operator} {r:R2} (ho:OpR X (binaryOp op) r) (ha:PE X a ta) (hb:PE X b tb):PE X (.BinOp a op b pos) (tOp r ta tb):=by
 intro pins s σ H Q I h
 exact wpAny_BinOp (aja ha hb I h fun v u s2 x y H2 I2 rx ry q=>ho pins s2 σ H2 x y v u Q I2 rx ry q)
theorem Qe {op:UnaryOp} {r:V->Hp->VK->Prop} (ho:UnR X (unaryOp op) r) (ha:PE X a ta):PE X (.UnaryOp op a pos) (tUn r ta):=by
 intro pins s σ H Q I h
 exact UnaryOp_ (thn (ha pins s σ H _ I h) fun v s1 ⟨x,H1,I1,r1,q1⟩=>ho pins s1 σ H1 x v Q I1 r1 q1)
theorem opI {f:Value->Value->Sem Value} {C:Int->Int->Prop} {g:Int->Int->Int}
  (rule:∀ (i j:Int) (t u:Tok) (s:Shared) (Q:Value->Shared->Prop) (E:Value->Shared->Prop),C i j->Q (.int (g i j) s.toks) { s with toks:=s.toks + 1 }->wpAny (model X.prog X.w) X.A (f (.int i t) (.int j u)) Q E s) :
  OpR X f (rI C fun i j=>.int (g i j)):=by
 intro pins s σ H x y v u Q I rx ry h
 obtain ⟨i,j,rfl,rfl,hc,q⟩:=h
 obtain ⟨t,rfl⟩:=rx
 obtain ⟨t',rfl⟩:=ry
 exact rule i j t t' s _ _ hc ⟨.int (g i j),H,I.tok _,⟨_,rfl⟩,q⟩
theorem ag5 {f:Value->Value->Sem Value} {g:Int->Int->Int}
  (rule:∀ (i j:Int) (t u:Tok) (s:Shared) (Q:Value->Shared->Prop) (E:Value->Shared->Prop),Q (.int (g i j) s.toks) { s with toks:=s.toks + 1 }->wpAny (model X.prog X.w) X.A (f (.int i t) (.int j u)) Q E s) :
  OpR X f (rI0 fun i j=>.int (g i j)):=by
 intro pins s σ H x y v u Q I rx ry h
 obtain ⟨i,j,rfl,rfl,q⟩:=h
 obtain ⟨t,rfl⟩:=rx
 obtain ⟨t',rfl⟩:=ry
 exact rule i j t t' s _ _ ⟨.int (g i j),H,I.tok _,⟨_,rfl⟩,q⟩
theorem ag6 {f:Value->Value->Sem Value} {g:Int->Int->Bool}
  (rule:∀ (i j:Int) (t u:Tok) (s:Shared) (Q:Value->Shared->Prop) (E:Value->Shared->Prop),Q (.bool (g i j)) s->wpAny (model X.prog X.w) X.A (f (.int i t) (.int j u)) Q E s) :
  OpR X f (rI0 fun i j=>.bl (g i j)):=by
 intro pins s σ H x y v u Q I rx ry h
 obtain ⟨i,j,rfl,rfl,q⟩:=h
 obtain ⟨t,rfl⟩:=rx
 obtain ⟨t',rfl⟩:=ry
 exact rule i j t t' s _ _ ⟨.bl (g i j),H,I,rfl,q⟩
def als (i j:Int):Prop:=0 < j/\j < 1073741824
def alr (i j:Int):Prop:=0 <= j/\j <= 1000000/\i.natAbs < 2 ^ 64
def aji (i j:Int):Prop:=(-(2 ^ 64) < i/\i < 2 ^ 64) \/ (-(2 ^ 64) < j/\j < 2 ^ 64)
theorem aji.ok {i j:Int} (h:aji i j):IntMulOk i j:=by
 rcases h with ⟨h1,h2⟩ | ⟨h1,h2⟩
 ·exact .of_left (intBits_le_64 h1 h2)
 ·exact .of_right (intBits_le_64 h1 h2)
theorem Fj:OpR X (binaryOp .Add) (rI0 fun i j=>.int (i + j)):=ag5 fun _ _ _ _ _ _ _ q=>add_int q
theorem JT:OpR X (binaryOp .Sub) (rI0 fun i j=>.int (i - j)):=ag5 fun _ _ _ _ _ _ _ q=>sub_int q
theorem Oh:OpR X (binaryOp .Mult) (rI aji fun i j=>.int (i * j)):=opI fun _ _ _ _ _ _ _ hc q=>mul_int q hc.ok
theorem ag4:OpR X (binaryOp .FloorDiv) (rI als fun i j=>.int (i / j)):=opI fun i j _ _ _ _ _ hc q=>by
 have h1:(0:Int) < j:=hc.1
 have h2:j < 1073741824:=hc.2
 exact floordiv_int (by omega) (by rw [Int.fdiv_eq_ediv_of_nonneg i (by omega)]; exact q) (.inl (PyProof.noPylong_small (by omega)))
theorem ait:OpR X (binaryOp .Mod) (rI (fun _ j=>0 < j) fun i j=>.int (i % j)):=opI fun i j _ _ _ _ _ hc q=>by
 have h1:(0:Int) < j:=hc
 exact mod_int' (by omega) (by rw [Int.fmod_eq_emod_of_nonneg i (by omega)]; exact q)
theorem ais:OpR X (binaryOp .LShift) (rI alr fun i j=>.int (i * 2 ^ j.toNat)):=opI fun _ _ _ _ _ _ _ hc q=>lshift_int_small hc.1 hc.2.1 hc.2.2 q
theorem acD:OpR X (binaryOp .BitAnd) (rI0 fun i j=>.int (Builtin.bitAnd i j)):=ag5 fun _ _ _ _ _ _ _ q=>and_int q
theorem aa0:OpR X (binaryOp .BitOr) (rI0 fun i j=>.int (Builtin.bitOr i j)):=ag5 fun _ _ _ _ _ _ _ q=>or_int q
theorem unI {f:Value->Sem Value} {g:Int->Int}
  (rule:∀ (i:Int) (t:Tok) (s:Shared) (Q:Value->Shared->Prop) (E:Value->Shared->Prop),Q (.int (g i) s.toks) { s with toks:=s.toks + 1 }->wpAny (model X.prog X.w) X.A (f (.int i t)) Q E s) :
  UnR X f (rU fun i=>.int (g i)):=by
 intro pins s σ H x v Q I rx h
 obtain ⟨i,rfl,q⟩:=h
 obtain ⟨t,rfl⟩:=rx
 exact rule i t s _ _ ⟨.int (g i),H,I.tok _,⟨_,rfl⟩,q⟩
theorem Oc:UnR X (unaryOp .USub) (rU fun i=>.int (-i)):=unI fun _ _ _ _ _ q=>neg_int q
theorem afk:UnR X (unaryOp .Invert) (rU fun i=>.int (Builtin.bitNot i)):=unI fun _ _ _ _ _ q=>invert_int q
end
def ajx:V->V->Bool
 | .non,.non=>true | .non,.int _=>true | .int _,.non=>true | .non,.bl _=>true | .bl _,.non=>true | .non,.str _=>true | .str _,.non=>true
 | .int _,.int _=>true | .bl _,.bl _=>true | .str _,.str _=>true | .byt _,.byt _=>true
 | .int _,.str _=>true | .str _,.int _=>true | .bl _,.str _=>true | .str _,.bl _=>true
 | _,_=>false
def rEq:R2:=fun x y H Q=>ajx x y=true/\Q (.bl (decide (x=y))) H
def rNe:R2:=fun x y H Q=>ajx x y=true/\Q (.bl (!decide (x=y))) H
theorem adR {i j:Int}:decide (V.int i=V.int j)=(i == j):=by
 rw [Bool.eq_iff_iff]
 simp
theorem agp {i j:Bool}:decide (V.bl i=V.bl j)=(i == j):=by
 rw [Bool.eq_iff_iff]
 simp
theorem adQ {i j:Str}:decide (V.str i=V.str j)=(i == j):=by
 rw [Bool.eq_iff_iff]
 simp
theorem adS {i j:Array UInt8}:decide (V.byt i=V.byt j)=(i.toList == j.toList):=by
 rw [Bool.eq_iff_iff]
 cases i
 cases j
 simp
section
variable {X:Cx} {a b c:Expr} {ta tb tc:TE} {pos:Pos}
theorem Cm {pins:List (Addr × Obj)} {σ:St} {H:Hp} {s:Shared} {Q:VK} {k k':Bool} (I:Inv X pins σ H s) (q:Q (.bl k) H) (e:k=k'):EP X pins σ Q (.bool k') s:=by
 subst e
 exact ⟨.bl k,H,I,rfl,q⟩
theorem Gp:OpR X (compareOp .Eq) rEq:=by
 intro pins s σ H x y v u Q I rx ry h
 obtain ⟨hs,q⟩:=h
 cases x with
 | non =>
  cases rx
  cases y with
  | non=>cases ry; exact PySem.EqNone.eq_none_none (Cm I q (by simp))
  | bl j=>cases ry; exact PySem.EqNone.eq_none_bool (Cm I q (by simp))
  | int j=>obtain ⟨t',rfl⟩:=ry; exact PySem.EqNone.eq_none_int (Cm I q (by simp))
  | str j=>obtain ⟨t',rfl⟩:=ry; exact PySem.EqNone.eq_none_str (Cm I q (by simp))
  | _=>exact absurd (show false=true from hs) Bool.false_ne_true
 | bl i =>
  cases rx
  cases y with
  | non=>cases ry; exact PySem.EqNone.eq_bool_none (Cm I q (by simp))
  | bl j=>cases ry; exact eq_bool (Cm I q agp)
  | str j=>obtain ⟨t',rfl⟩:=ry; exact PySem.EqMixed.eq_bool_str (Cm I q (by simp))
  | _=>exact absurd (show false=true from hs) Bool.false_ne_true
 | int i =>
  obtain ⟨t,rfl⟩:=rx
  cases y with
  | non=>cases ry; exact PySem.EqNone.eq_int_none (Cm I q (by simp))
  | int j=>obtain ⟨t',rfl⟩:=ry; exact eq_int (Cm I q adR)
  | str j=>obtain ⟨t',rfl⟩:=ry; exact PySem.EqMixed.eq_int_str (Cm I q (by simp))
  | _=>exact absurd (show false=true from hs) Bool.false_ne_true
 | str i =>
  obtain ⟨t,rfl⟩:=rx
  cases y with
  | non=>cases ry; exact PySem.EqNone.eq_str_none (Cm I q (by simp))
  | bl j=>cases ry; exact PySem.EqMixed.eq_str_bool (Cm I q (by simp))
  | int j=>obtain ⟨t',rfl⟩:=ry; exact PySem.EqMixed.eq_str_int (Cm I q (by simp))
  | str j=>obtain ⟨t',rfl⟩:=ry; exact eq_str (Cm I q adQ)
  | _=>exact absurd (show false=true from hs) Bool.false_ne_true
 | byt i =>
  obtain ⟨t,rfl⟩:=rx
  cases y with
  | byt j=>obtain ⟨t',rfl⟩:=ry; exact PySem.W.eq_bytes (Cm I q adS)
  | _=>exact absurd (show false=true from hs) Bool.false_ne_true
 | _=>cases y <;> exact absurd (show false=true from hs) Bool.false_ne_true
theorem V3:OpR X (compareOp .NotEq) rNe:=by
 intro pins s σ H x y v u Q I rx ry h
 obtain ⟨hs,q⟩:=h
 cases x with
 | non =>
  cases rx
  cases y with
  | non=>cases ry; exact PySem.EqNone.ne_none_none (Cm I q (by simp))
  | bl j=>cases ry; exact PySem.EqNone.ne_none_bool (Cm I q (by simp))
  | int j=>obtain ⟨t',rfl⟩:=ry; exact PySem.EqNone.ne_none_int (Cm I q (by simp))
  | str j=>obtain ⟨t',rfl⟩:=ry; exact PySem.EqNone.ne_none_str (Cm I q (by simp))
  | _=>exact absurd (show false=true from hs) Bool.false_ne_true
 | bl i =>
  cases rx
  cases y with
  | non=>cases ry; exact PySem.EqNone.ne_bool_none (Cm I q (by simp))
  | bl j=>cases ry; exact ne_bool (Cm I q (congrArg not agp))
  | str j=>obtain ⟨t',rfl⟩:=ry; exact PySem.EqMixed.ne_bool_str (Cm I q (by simp))
  | _=>exact absurd (show false=true from hs) Bool.false_ne_true
 | int i =>
  obtain ⟨t,rfl⟩:=rx
  cases y with
  | non=>cases ry; exact PySem.EqNone.ne_int_none (Cm I q (by simp))
  | int j=>obtain ⟨t',rfl⟩:=ry; exact ne_int (Cm I q (congrArg not adR))
  | str j=>obtain ⟨t',rfl⟩:=ry; exact PySem.EqMixed.ne_int_str (Cm I q (by simp))
  | _=>exact absurd (show false=true from hs) Bool.false_ne_true
 | str i =>
  obtain ⟨t,rfl⟩:=rx
  cases y with
  | non=>cases ry; exact PySem.EqNone.ne_str_none (Cm I q (by simp))
  | bl j=>cases ry; exact PySem.EqMixed.ne_str_bool (Cm I q (by simp))
  | int j=>obtain ⟨t',rfl⟩:=ry; exact PySem.EqMixed.ne_str_int (Cm I q (by simp))
  | str j=>obtain ⟨t',rfl⟩:=ry; exact ne_str (Cm I q (congrArg not adQ))
  | _=>exact absurd (show false=true from hs) Bool.false_ne_true
 | byt i =>
  obtain ⟨t,rfl⟩:=rx
  cases y with
  | byt j=>obtain ⟨t',rfl⟩:=ry; exact PySem.W.ne_bytes (Cm I q (congrArg not adS))
  | _=>exact absurd (show false=true from hs) Bool.false_ne_true
 | _=>cases y <;> exact absurd (show false=true from hs) Bool.false_ne_true
theorem S9:OpR X (compareOp .Lt) (rI0 fun i j=>.bl (decide (i < j))):=ag6 fun _ _ _ _ _ _ _ q=>lt_int q
theorem Kg:OpR X (compareOp .LtE) (rI0 fun i j=>.bl (decide (i <= j))):=ag6 fun _ _ _ _ _ _ _ q=>le_int q
theorem Ln:OpR X (compareOp .Gt) (rI0 fun i j=>.bl (decide (j < i))):=ag6 fun _ _ _ _ _ _ _ q=>gt_int q
theorem ajF:OpR X (compareOp .GtE) (rI0 fun i j=>.bl (decide (j <= i))):=ag6 fun _ _ _ _ _ _ _ q=>ge_int q
theorem Bg (b:Expr) {op:CmpOp} (h:op ≠ .In:=by decide) (h2:op ≠ .NotIn:=by decide):behindInMarks op b=false:=by
 have e1:(op == CmpOp.In)=false:=by cases op <;> first | rfl | exact absurd rfl h
 have e2:(op == CmpOp.NotIn)=false:=by cases op <;> first | rfl | exact absurd rfl h2
 cases b <;> simp [behindInMarks,e1,e2]
theorem Gk {op:CmpOp} {r:R2} (ho:OpR X (compareOp op) r) (ha:PE X a ta) (hb:PE X b tb) (hm:behindInMarks op b=false):PE X (.Compare a [op] [b] pos) (tOp r ta tb):=by
 intro pins s σ H Q I h
 exact wpAny_Compare1 (aja ha hb I h fun v u s2 x y H2 I2 rx ry q=>ho pins s2 σ H2 x y v u Q I2 rx ry q) hm
def ajm (t:TE):TT:=fun σ H Q=>t σ H fun x H'=>∃ k,x = .bl k/\Q k H'
theorem Bd {op:CmpOp} {r:R2} (ho:OpR X (compareOp op) r) (ha:PE X a ta) (hb:PE X b tb) (hm:behindInMarks op b=false):PT X (.Compare a [op] [b] pos) (ajm (tOp r ta tb)):=by
 intro pins s σ H Q I h
 refine wpAny_isTrue_Compare1 (thn (ha pins s σ H _ I h) fun v s1 ⟨x,H1,I1,r1,q1⟩=>thn (hb pins s1 σ H1 _ I1 q1) fun u s2 ⟨y,H2,I2,r2,q2⟩ =>
  thn (ho pins s2 σ H2 x y v u _ I2 r1 r2 q2) fun c s3 ⟨z,H3,I3,r3,k,e,q3⟩=>?_) hm
 subst e
 cases r3
 exact wpAny_truthy_bool ⟨H3,I3,q3⟩
def ah9 (r r':R2) (ta tb tc:TE):TE:=fun σ H Q=>ta σ H fun x H1=>tb σ H1 fun y H2=>r x y H2 fun z H3=>∃ k,z = .bl k /\
 (if k=true then tc σ H3 fun w' H4=>r' y w' H4 Q else Q (.bl false) H3)
theorem VN {op op':CmpOp} {r r':R2} (ho:OpR X (compareOp op) r) (ho':OpR X (compareOp op') r') (ha:PE X a ta) (hb:PE X b tb) (hc:PE X c tc)
  (hm:lastMarks [op,op'] [b,c] = false:=by with_unfolding_all rfl):PE X (.Compare a [op,op'] [b,c] pos) (ah9 r r' ta tb tc):=by
 intro pins s σ H Q I h
 refine Compare_chain (thn (ha pins s σ H _ I h) fun v s1 ⟨x,H1,I1,r1,q1⟩=>chain_link (thn (hb pins s1 σ H1 _ I1 q1) fun u s2 ⟨y,H2,I2,r2,q2⟩ =>
  thn (ho pins s2 σ H2 x y v u _ I2 r1 r2 q2) fun d s3 ⟨z,H3,I3,r3,k,e,q3⟩=>?_)) hm
 subst e
 cases r3
 refine wpAny_truthy_bool ?_
 cases k with
 | false=>exact ite_ff ⟨.bl false,H3,I3,rfl,q3⟩
 | true=>exact ite_tt (chain_last (thn (hc pins s3 σ H3 _ I3 q3) fun w' s4 ⟨z',H4,I4,r4,q4⟩=>ho' pins s4 σ H4 y z' u w' Q I4 r2 r4 q4))
theorem Rv:(sizeLine:Nat) < 2 ^ 63:=by rw [sizeLine_eq]; decide
theorem vals1 {x:V} {us:List Value} (r:Vals [x] us):∃ u,us=[u]/\RelV x u:=by
 cases r with
 | cons r1 r2=>cases r2; exact ⟨_,rfl,r1⟩
theorem vals2 {x y:V} {us:List Value} (r:Vals [x,y] us):∃ u w',us=[u,w']/\RelV x u/\RelV y w':=by
 cases r with
 | cons r1 r2 =>
  cases r2 with
  | cons r3 r4=>cases r4; exact ⟨_,_,rfl,r1,r3⟩
theorem ae2 (hc:X.calm=true):Jy X (.builtin "min") (fun xs H Q=>∃ i j,xs=[.int i,.int j]/\Q (.int (if j < i then j else i)) H):=by
 intro pins s σ H xs us Q I r h
 obtain ⟨i,j,rfl,q⟩:=h
 obtain ⟨u,w',rfl,⟨t,rfl⟩,⟨t',rfl⟩⟩:=vals2 r
 refine min_two_ints (I.ok.hd hc) fun h' tk k=>⟨_,H,I.kept k,?_,q⟩
 by_cases hj:j < i
 ·rw [if_pos hj,if_pos hj]; exact ⟨_,rfl⟩
 ·rw [if_neg hj,if_neg hj]; exact ⟨_,rfl⟩
theorem abB:Jy X (.builtin "ord") (fun xs H Q=>∃ x,xs=[.str x]/\x.length=1/\Q (.int (x.cps.getD 0 0:Nat)) H):=by
 intro pins s σ H xs us Q I r h
 obtain ⟨x,rfl,hz,q⟩:=h
 obtain ⟨u,rfl,t,rfl⟩:=vals1 r
 exact ord_of_one hz ⟨.int _,H,I.tok _,⟨_,rfl⟩,q⟩
end
structure afd (h:Heap) (x dx C:Addr) (mA:Str->Option Value):Prop where
 obj:h.get? x=some (PySem.W.instObj C dx)
 ns:h.Ns1 dx mA
 ne:dx ≠ x
theorem aeC {h:Heap} {dx:Addr} {mA:Str->Option Value} (n:h.Ns1 dx mA):∃ od,h.get? dx=some od/\∀ name,PySem.W.lookIn name od=some (mA name):=by
 obtain ⟨o,es,ep,ho,hd,hk,_,hm⟩:=n
 refine ⟨o,ho,fun name=>?_⟩
 have e:=hm name
 unfold nsFind findBy at e
 rw [<- Array.find?_toList] at e
 unfold PySem.W.lookIn
 rw [hd]
 dsimp only
 split
 ·rename_i y q
  rw [q] at e
  exact congrArg some e
 ·rename_i q
  rw [q] at e
  have a:es.toList.any (·.refKey)=false:=by
   rw [List.any_eq_false]
   intro y hy
   obtain ⟨z,t,hkey⟩:=hk y (Array.mem_toList_iff.mp hy)
   simp [DictEntry.refKey,hkey]
  have a':¬ es.toList.any (·.refKey)=true:=by rw [a]; exact Bool.false_ne_true
  rw [if_neg a']
  exact congrArg some e
theorem afd.look {h:Heap} {x dx C:Addr} {mA:Str->Option Value} (I:afd h x dx C mA):∃ od,PySem.W.InstAt h x (PySem.W.instObj C dx) C (some od)/\∀ name,PySem.W.lookIn name od=some (mA name) :=
 let ⟨od,ho,hl⟩:=aeC I.ns
 ⟨od,⟨I.obj,rfl,rfl,ho⟩,hl⟩
section
variable {prog:Program} {w:World} {A:Around} {E:Value->Shared->Prop} {s:Shared} {K:PySem.W.Frag} {x dx C f:Addr} {mA:Str->Option Value} {name:Str} {v:Value}
theorem get_map {expr:Bool} {Q:Value->Shared->Prop} (X:K.In s.heap) (I:afd s.heap x dx C mA) (hg:PySem.W.plainGet K C name=true) (hh:PySem.W.hasDictIn K C=true)
  (ha:PySem.W.findIn K (.ref C) name=some none) (hv:mA name=some v) (hv':PySem.W.handedIn v=true) (h:Q v { s with toks:=s.toks + 1 }) :
  wpAny (model prog w) A (getAttr (.ref x) name expr) Q E s:=by
 obtain ⟨od,J,hl⟩:=I.look
 exact PySem.W.get_value X J (PySem.W.plainGet_of hg).1 (PySem.W.findObj_own hh ha rfl (by rw [hl,hv])) hv' h
theorem agR {ns:List Str} {Q:Unit->Shared->Prop} (X:K.In s.heap) (I:afd s.heap x dx C mA)
  (hs:PySem.W.findIn K (.ref C) "__setattr__" = some (some (.builtin "object.__setattr__"))) (hp:PySem.W.plainOver K C=true) (ht:PySem.W.takerIn K C name=some none) (hh:PySem.W.hasDictIn K C=true)
  (hw:PySem.Within mA ns) (hsz:ns.length <= sizeLine)
  (h:∀ h',afd h' x dx C (fun y=>if y=name then some v else mA y)->Heap.SameBut dx s.heap h'->Q () { s with heap:=h',toks:=s.toks + 2 }) :
  wpAny (model prog w) A (setAttr (.ref x) name v) Q E s:=by
 obtain ⟨od,J,hl⟩:=I.look
 refine PySem.W.set_plain X J hs (PySem.W.osa_open (s:={ s with toks:=s.toks + 1 }) (r:=none) X J hp ht fun b=>?_)
 obtain ⟨cd,hc,hd'⟩:=PySem.W.any_some hh
 have hx:s.heap.get? x=some ⟨.ref C,some dx,.plain,#[]⟩:=I.obj
 refine wpAny_bind (wpAny_pure (wpAny_bind (wpAny_bind (wpAny_loadPart hx (wpAny_bind (PySem.W.Looks.here (s:={ s with toks:=s.toks + 1 }) (PySem.W.looks_clsIn X hc) ?_))))))
 rw [hd']
 refine wpAny_pure (a:=some dx) (wpAny_bind (wpAny_pure (wpAny_bind ?_)))
 refine wpAny_nsSet1 (s:={ s with toks:=s.toks + 1 }) I.ns fun h' hn2 hs2=>?_
 obtain ⟨oD,esD,epD,hoD,hdD,hcD⟩:=hn2.count (PySem.Within.cons name v hw)
 refine wpAny_bind (wpAny_lookBehind hoD (by rw [hdD]; exact pastItsLine_dict (Nat.le_trans hcD (by rw [List.length_cons]; omega))) ?_)
 exact wpAny_pure (h _ ⟨(hs2.2 _ (Ne.symm I.ne)).trans I.obj,hn2,I.ne⟩ hs2)
theorem afX {R:Result->Shared->Prop} {vs:List Value} {kw:List (Str × Value)} (X:K.In s.heap) (hm:PySem.W.makesIn K C=true)
  (hi:PySem.W.findIn K (.ref C) "__init__" = some (some (.ref f))) (hf:PySem.W.typeIn K (.ref f)=some (.type "function"))
  (h:codeAny (model prog w) (A.under (.builtin "type.__call__" ⟨.ref C :: vs,kw⟩)) (.call (.ref f) ⟨.ref (s.heap.objs.size + 1) :: vs,kw⟩) (PySem.W.InitBack (s.heap.objs.size + 1) R)
   { s with heap:=(s.heap.push PySem.W.emptyDict).push (PySem.W.instObj C s.heap.objs.size) }) :
  codeAny (model prog w) A (.call (.ref C) ⟨vs,kw⟩) R s:=by
 obtain ⟨hh,g,d,t,os⟩:=s
 exact PySem.W.make_core (PySem.W.makes_of X hm) (PySem.W.looks_findIn X hi) (fun self=>PySem.W.bind_fn X self hf) (.inl rfl) h
end
def Ky (f:Str) (v:V):List (Str × V)->List (Str × V)
 | []=>[(f,v)]
 | (g,x) :: r=>if g=f then (g,v) :: r else (g,x) :: Ky f v r
theorem Te (f g:Str) (v:V):∀ fs:List (Str × V),(Ky f v fs).lookup g=if g=f then some v else fs.lookup g
 | []=>by
  show List.lookup g [(f,v)] = _
  by_cases h:g=f
  ·have hb:(g == f)=true:=beq_iff_eq.mpr h
   simp only [List.lookup,hb,if_pos h]
  ·have hb:(g == f)=false:=beq_eq_false_iff_ne.mpr h
   simp only [List.lookup,hb,if_neg h]
 | (k,x) :: r=>by
  have ih:=Te f g v r
  rw [show Ky f v ((k,x) :: r)=(if k=f then (k,v) :: r else (k,x) :: Ky f v r) from rfl]
  by_cases hk:k=f
  ·rw [if_pos hk]
   by_cases h:g=k
   ·have hb:(g == k)=true:=beq_iff_eq.mpr h
    simp only [List.lookup,hb,if_pos (h.trans hk)]
   ·have hb:(g == k)=false:=beq_eq_false_iff_ne.mpr h
    simp only [List.lookup,hb,if_neg (fun e:g=f=>h (e.trans hk.symm))]
  ·rw [if_neg hk]
   by_cases h:g=k
   ·have hb:(g == k)=true:=beq_iff_eq.mpr h
    simp only [List.lookup,hb,if_neg (fun e:g=f=>hk (h.symm.trans e))]
   ·have hb:(g == k)=false:=beq_eq_false_iff_ne.mpr h
    simp only [List.lookup,hb]
    exact ih
theorem Rx (f:Str) (v:V):∀ fs:List (Str × V),f ∈ (Ky f v fs).map (·.1)/\∀ g,g ∈ fs.map (·.1)->g ∈ (Ky f v fs).map (·.1)
 | []=>⟨by simp [Ky],fun g h=>by simp at h⟩
 | (k,x) :: r=>by
  obtain ⟨i1,i2⟩:=Rx f v r
  rw [show Ky f v ((k,x) :: r)=(if k=f then (k,v) :: r else (k,x) :: Ky f v r) from rfl]
  by_cases hk:k=f
  ·rw [if_pos hk]
   subst hk
   exact ⟨by simp,fun g h=>by simpa using h⟩
  ·rw [if_neg hk]
   refine ⟨?_,fun g h=>?_⟩
   ·rw [List.map_cons]
    exact List.mem_cons_of_mem _ i1
   ·rw [List.map_cons] at h ⊢
    rcases List.mem_cons.mp h with e | e
    ·exact List.mem_cons.mpr (.inl e)
    ·exact List.mem_cons_of_mem _ (i2 g e)
theorem Th (f:Str) (v:V):∀ fs:List (Str × V),(Ky f v fs).length <= fs.length + 1
 | []=>by simp [Ky]
 | (k,x) :: r=>by
  have ih:=Th f v r
  rw [show Ky f v ((k,x) :: r)=(if k=f then (k,v) :: r else (k,x) :: Ky f v r) from rfl]
  by_cases hk:k=f
  ·rw [if_pos hk,List.length_cons,List.length_cons]; omega
  ·rw [if_neg hk,List.length_cons,List.length_cons]; omega
theorem O1.some_of {v:V} {o:Option Value} (r:O1 (some v) o):∃ u,o=some u/\RelV v u:=by
 cases o with
 | none=>exact (show False from r).elim
 | some u=>exact ⟨u,rfl,r⟩
theorem aeL {v:V} {u:Value} (r:RelV v u):PySem.W.handedIn u=true:=by
 cases v with
 | non=>cases (show u=Value.none from r); rfl
 | bl b=>cases (show u=Value.bool b from r); rfl
 | int i=>obtain ⟨t,e⟩:=(show ∃ t,u=Value.int i t from r); cases e; rfl
 | str x=>obtain ⟨t,e⟩:=(show ∃ t,u=Value.str x t from r); cases e; rfl
 | byt b=>obtain ⟨t,e⟩:=(show ∃ t,u=Value.bytes b t from r); cases e; rfl
 | flt b=>obtain ⟨t,e⟩:=(show ∃ t,u=Value.float b t from r); cases e; rfl
 | ref a=>cases (show u=Value.ref a from r); rfl
 | ty n=>cases (show u=Value.type n from r); rfl
section
variable {P:Program} {w:World} {H H':Hp} {h h':Heap} {a C dx:Addr} {fs fs':List (Str × V)}
theorem adI (hok:HOk P w H h) (e:H a=some (.ins C dx fs)):∃ mA,afd h a dx C mA/\(∀ f,O1 (fs.lookup f) (mA f))/\PySem.Within mA (fs.map (·.1))/\fs.length <= 1000/\H dx=some (.own a):=by
 obtain ⟨d,z,ne,ob,mA,n,r,q⟩:=(show DN P w H h a (.ins C dx fs) from hok a _ e)
 exact ⟨mA,⟨ob,n,ne⟩,r,q,z,d⟩
end
structure Cls (K:PySem.W.Frag) (C:Addr):Prop where
 pg:PySem.W.plainGet K C Str.empty=true
 hd:PySem.W.hasDictIn K C=true
 po:PySem.W.plainOver K C=true
 sa:PySem.W.findIn K (.ref C) "__setattr__" = some (some (.builtin "object.__setattr__"))
theorem Cls.get {K:PySem.W.Frag} {C:Addr} (c:Cls K C) (f:Str):PySem.W.plainGet K C f=true:=c.pg
def CT (K:PySem.W.Frag) (C:Addr) (f:Str):Prop:=PySem.W.findIn K (.ref C) f=some none
theorem CT.taker {K:PySem.W.Frag} {C:Addr} {f:Str} (n:CT K C f):PySem.W.takerIn K C f=some none:=by
 unfold PySem.W.takerIn
 rw [show PySem.W.findIn K (.ref C) f=some none from n]
 rfl
section
variable {X:Cx} {pins:List (Addr × Obj)} {σ:St} {H:Hp} {s:Shared} {a C dx:Addr} {fs:List (Str × V)} {f:Str} {v:V} {A:Around} {E:Value->Shared->Prop}
theorem acT {b:Bool} {Q:Value->Shared->Prop} (I:Inv X pins σ H s) (e:H a=some (.ins C dx fs)) (c:Cls X.K C) (n:CT X.K C f) (l:fs.lookup f=some v)
  (h:∀ u s',Inv X pins σ H s'->RelV v u->Q u s'):wpAny (model X.prog X.w) A (getAttr (.ref a) f b) Q E s:=by
 obtain ⟨mA,O,r,_,_,_⟩:=adI I.hok e
 obtain ⟨u,hu,ru⟩:=O1.some_of (v:=v) (o:=mA f) (by rw [<- l]; exact r f)
 exact get_map I.kIn O (c.get f) c.hd n hu (aeL ru) (h u _ (I.tok _) ru)
theorem ack {y:V} {u:Value} {Q:Unit->Shared->Prop} (I:Inv X pins σ H s) (e:H a=some (.ins C dx fs)) (c:Cls X.K C) (n:CT X.K C f) (hl:fs.length < 1000) (ry:RelV y u)
  (h:∀ s',Inv X pins σ (upd H a (.ins C dx (Ky f y fs))) s'->Q () s'):wpAny (model X.prog X.w) A (setAttr (.ref a) f u) Q E s:=by
 obtain ⟨mA,O,r,wi,_,ho⟩:=adI I.hok e
 have hz:(fs.map (·.1)).length <= sizeLine:=by rw [List.length_map,sizeLine_eq]; omega
 refine agR I.kIn O c.sa c.po n.taker c.hd wi hz fun h' O' sb=>h _ ?_
 have hd:∃ o,h'.get? dx=some o:=let ⟨o,_,_,e',_⟩:=O'.ns; ⟨o,e'⟩
 refine I.write (x:=a) (e:=dx) (by rw [e]; exact True.intro) (.inr ho) (fun b q hb z=>(sb.2 b hb).trans z) hd ?_
 refine ⟨by rw [Ah O.ne]; exact ho,?_,O.ne,O'.obj,_,O'.ns,fun g=>?_,fun g hg=>?_⟩
 ·have:=Th f y fs; omega
 ·show O1 ((Ky f y fs).lookup g) (if g=f then some u else mA g)
  rw [Te]
  by_cases q:g=f
  ·rw [if_pos q,if_pos q]; exact ry
  ·rw [if_neg q,if_neg q]; exact r g
 ·by_cases q:g=f
  ·rw [q]; exact (Rx f y fs).1
  ·refine (Rx f y fs).2 g (wi g fun z=>hg ?_)
   show (if g=f then some u else mA g)=none
   rw [if_neg q]; exact z
theorem Inv.made (I:Inv X pins σ H s):Inv X pins σ (upd (upd H s.heap.objs.size (.own (s.heap.objs.size + 1))) (s.heap.objs.size + 1) (.ins C s.heap.objs.size []))
  { s with heap:=(s.heap.push PySem.W.emptyDict).push (PySem.W.instObj C s.heap.objs.size) }:=by
 have e1:(s.heap.push PySem.W.emptyDict).get? s.heap.objs.size=some PySem.W.emptyDict:=Heap.get?_push_size s.heap rfl
 have e2:((s.heap.push PySem.W.emptyDict).push (PySem.W.instObj C s.heap.objs.size)).get? (s.heap.objs.size + 1)=some (PySem.W.instObj C s.heap.objs.size):=by
  have:=Heap.get?_push_size (s.heap.push PySem.W.emptyDict) (o:=PySem.W.instObj C s.heap.objs.size) rfl
  rwa [Heap.size_push] at this
 have e3:(s.heap.push PySem.W.emptyDict).Ns s.heap.objs.size (fun _=>none):=⟨PySem.W.emptyDict,#[],_,e1,rfl,(fun e he=>absurd he (by simp)),fun _=>rfl⟩
 have I1:=I.laid (a:=s.heap.objs.size) (o:=.own (s.heap.objs.size + 1)) (h':=s.heap.push PySem.W.emptyDict) (t':=s.toks) (fun b u q=>Heap.get?_push_of_some _ q) (Nat.le_refl _) ⟨_,e1⟩
 refine I1.laid (a:=s.heap.objs.size + 1) (o:=.ins C s.heap.objs.size []) (t':=s.toks) (fun b u q=>Heap.get?_push_of_some _ q) (Nat.le_of_eq (Heap.size_push _ _)) ?_
 have ne:s.heap.objs.size ≠ s.heap.objs.size + 1:=Nat.ne_of_lt (Nat.lt_succ_self _)
 refine ⟨by rw [Ah ne,Ab],Nat.zero_le _,ne,e2,fun _=>none,(Heap.Ns1.of_empty e3).at fun o q=>Heap.get?_push_of_some _ q,fun _=>True.intro,fun y hy=>absurd rfl hy⟩
theorem ahF {prog:Program} {w:World} {env:Env} {e:Expr} {f:Str} {pos:Pos} {s:Shared} {Q:Value->Shared->Prop} (hb:attributeBase e f env (eval e env)=eval e env)
  (h:wpAny (model prog w) A (eval e env) (fun o s₁=>wpAny (model prog w) A (getAttr o f true) Q E s₁) E s):wpAny (model prog w) A (eval (.Attribute e f pos) env) Q E s :=
 Attribute_any_ h (by rw [arm_eval_Attribute,hb])
end
def akC (K:PySem.W.Frag) (ta:TE) (f:Str):TE:=fun σ H Q=>ta σ H fun x H1=>∃ a C dx fs v,x = .ref a/\H1 a=some (.ins C dx fs)/\Cls K C/\CT K C f/\fs.lookup f=some v/\Q v H1
def akG (K:PySem.W.Frag) (ta tv:TE) (f:Str):TS:=fun D σ H=>tv σ H fun y H1=>ta σ H1 fun x H2=>∃ a C dx fs,x = .ref a/\H2 a=some (.ins C dx fs)/\Cls K C/\CT K C f/\fs.length < 1000 /\
 D.nx σ (upd H2 a (.ins C dx (Ky f y fs)))
section
variable {X:Cx} {o e value:Expr} {f:Str} {pos pos' tpos:Pos} {ta tv:TE}
theorem Az (he:PE X e ta) (hb:attributeBase e f X.env (eval e X.env)=eval e X.env):PE X (.Attribute e f pos) (akC X.K ta f):=by
 intro pins s σ H Q I h
 refine ahF hb (thn (he pins s σ H _ I h) fun u s1 ⟨x,H1,I1,rx,a,C,dx,fs,v,ex,ea,c,n,l,q⟩=>?_)
 subst ex
 obtain rfl:u=Value.ref a:=rx
 exact acT I1 ea c n l fun u' s2 I2 ru=>⟨v,H1,I2,ru,q⟩
theorem Dd (ha:PE X o ta) (hv:PE X value tv) (hs:swapsWith value (some (.Attribute o f pos')) pos.line X.env=pure false):PS X (.Assign [.Attribute o f pos'] value pos) (akG X.K ta tv f):=by
 intro pins s σ H D I h
 refine plainObj_wpAny_Assign_Attribute (thn (hv pins s σ H _ I h) fun u s1 ⟨y,H1,I1,ry,q⟩=>thn (ha pins s1 σ H1 _ I1 q) fun ov s2 ⟨x,H2,I2,rx,a,C,dx,fs,ex,ea,c,n,l,q2⟩=>?_) hs
 subst ex
 obtain rfl:ov=Value.ref a:=rx
 exact ack I2 ea c n l ry fun s3 I3=>⟨σ,_,I3,q2⟩
end
structure Fq (k:Nat) (A:Around):Prop where
 hd:A.handled=none
 dp:A.depth + 3 * k + 5 < recursionLimit
 un:A.units + 16 * k + 200 < cLine
theorem Fq.mono {j k:Nat} {A:Around} (r:Fq k A) (h:j <= k):Fq j A:=⟨r.hd,by have:=r.dp; omega,by have:=r.un; omega⟩
theorem Fq.deeper {k:Nat} {A:Around} (r:Fq (k + 1) A) (env:Env):Fq k (A.deeper env) :=
 ⟨r.hd,by have:=r.dp; show A.depth + 1 + 3 * k + 5 < _; omega,by have:=r.un; show A.units + 3 + 16 * k + 200 < _; omega⟩
theorem acL {A:Around} {C:Addr} {us:List Value} {kw:List (Str × Value)}:(A.under (.builtin "type.__call__" ⟨.ref C :: us,kw⟩)).depth=A.depth + 1:=by
 first | rfl | simp [Around.under,Code.weight,Code.isCreation,Code.isGuard,Code.isCaller,Code.frames,Code.isFrame,guardIds]
theorem acK {A:Around} {C:Addr} {us:List Value} {kw:List (Str × Value)}:(A.under (.builtin "type.__call__" ⟨.ref C :: us,kw⟩)).units=A.units + 1:=by
 first | rfl | simp [Around.under,Code.cUnits,Code.frames,Code.isFrame]
theorem Fq.make {k:Nat} {A:Around} (r:Fq (k + 1) A) (C:Addr) (us:List Value) (kw:List (Str × Value)):Fq k (A.under (.builtin "type.__call__" ⟨.ref C :: us,kw⟩)) :=
 ⟨r.hd,by have:=r.dp; rw [acL]; omega,by have:=r.un; rw [acK]; omega⟩
theorem Fq.depth {k:Nat} {A:Around} (r:Fq k A):A.depth < recursionLimit:=by have:=r.dp; omega
theorem Fq.units {k:Nat} {A:Around} (r:Fq k A):A.units + 64 < cLine:=by have:=r.un; omega
theorem Fq.ah1 {k:Nat} {A:Around} (r:Fq k A):A.units < cLine:=by have:=r.un; omega
def ah4:TA:=fun _ H Q=>Q [] H
def aju (ta:TE) (tr:TA):TA:=fun σ H Q=>ta σ H fun x H1=>tr σ H1 fun xs H2=>Q (x :: xs) H2
section
variable {X:Cx} {e:Expr} {es:List Expr} {te:TE} {t:TA} {pos:Pos}
theorem Ae:PA X [] ah4:=fun _ _ _ _ H Q I h=>Calls.spliced_nil ⟨[],H,I,.nil,h⟩
theorem Aa (ha:PE X e te) (hr:PA X es t) (hs:starEach (e :: es) X.env=(false,eval e X.env) :: starEach es X.env:=by rfl):PA X (e :: es) (aju te t):=by
 intro pos pins s σ H Q I h
 rw [hs]
 show wpAny _ _ (spliced ((false,eval e X.env) :: backTo pos (starEach es X.env))) _ _ s
 refine Calls.spliced_cons (thn (ha pins s σ H _ I h) fun u s1 ⟨x,H1,I1,r1,q1⟩=>?_)
 exact thn (hr pos pins s1 σ H1 _ I1 q1) fun us s2 ⟨xs,H2,I2,r2,q2⟩=>⟨x :: xs,H2,I2,.cons r1 r2,q2⟩
def aks (t:TA):TE:=fun σ H Q=>t σ H fun xs H1=>xs.length <= sizeLine/\∀ p,H1 p=none->Q (.ref p) (upd H1 p (.tup xs))
def aky (t:TA):TE:=fun σ H Q=>t σ H fun xs H1=>xs.length <= sizeLine/\∀ p,H1 p=none->Q (.ref p) (upd H1 p (.lst xs))
theorem Rn {x1} (h:PA X es t):PE X (.Tuple es x1 pos) (aks t):=by
 intro pins s σ H Q I hq
 refine wpAny_Tuple_spliced (thn (h pos pins s σ H _ I hq) fun us s1 ⟨xs,H1,I1,r,z,q⟩=>⟨by rw [<- r.length]; exact z,?_⟩)
 have hf:H1 s1.heap.objs.size=none:=I1.hok.fresh (Nat.le_refl _)
 refine ⟨.ref s1.heap.objs.size,upd H1 s1.heap.objs.size (.tup xs),I1.laid (t':=s1.toks) (fun b u e=>Heap.get?_push_of_some _ e) (Nat.le_refl _) ?_,rfl,q _ hf⟩
 exact ⟨z,us,r,⟨_,Heap.get?_push_size _ rfl,rfl,_,rfl⟩⟩
theorem Cq (h:PA X es t):PE X (.List es pos) (aky t):=by
 intro pins s σ H Q I hq
 refine wpAny_List_spliced (thn (h pos pins s σ H _ I hq) fun us s1 ⟨xs,H1,I1,r,z,q⟩=>⟨by rw [<- r.length]; exact z,?_⟩)
 have hf:H1 s1.heap.objs.size=none:=I1.hok.fresh (Nat.le_refl _)
 refine ⟨.ref s1.heap.objs.size,upd H1 s1.heap.objs.size (.lst xs),I1.laid (t':=s1.toks) (fun b u e=>Heap.get?_push_of_some _ e) (Nat.le_refl _) ?_,rfl,q _ hf⟩
 exact ⟨z,us,0,r,Heap.get?_push_size _ rfl⟩
end
abbrev Sp:=List V->Hp->VK->XK->Prop
abbrev CXT:=List Env->Hp->Shared->XK->Value->Shared->Prop
structure adg (P:Program) (w:World) (K:PySem.W.Frag) (mg:Str->Option Value) (base:Heap) (A:Around) (outer:List Env) (s:Shared) (H:Hp):Prop where
 frames:A.frames=some outer
 mod:Mod K mg base
 bs:∀ b o,base.get? b=some o->s.heap.get? b=some o/\H b=none
 bsz:base.objs.size <= s.heap.objs.size
 Ub:s.heap.FunFrames base outer
 frf:∀ b ∈ frs outer,H b=none
 hok:HOk P w H s.heap
 bare:AllBare s.gens
def CE (outer:List Env) (P:Program) (w:World) (H:Hp) (s:Shared) (Q:VK) (u:Value) (s':Shared):Prop :=
 ∃ v H',s'.os=s.os/\AllBare s'.gens/\Un (frs outer) [] H H' s.heap s'.heap/\HOk P w H' s'.heap/\RelV v u/\Q v H'
def CR (CX:CXT) (outer:List Env) (P:Program) (w:World) (H:Hp) (s:Shared) (Q:VK) (E:XK) (r:Result) (s':Shared):Prop :=
 match r with
 | .ok (.ret u)=>CE outer P w H s Q u s'
 | .ok _=>False
 | .error e=>CX outer H s E e s'
structure QH (P:Program) (w:World) (K:PySem.W.Frag) (mg:Str->Option Value) (base:Heap) (CX:CXT) (k:Nat) (f:Addr) (fd:FuncData) (ps:List Str) (sp:Sp):Prop where
 len:∀ vs H Q E,sp vs H Q E->vs.length=ps.length
 run:∀ (A:Around) (outer:List Env) (s:Shared) (H:Hp) (args:Args) (us:List Value) (vs:List V) (Q:VK) (E:XK),Fq k A->adg P w K mg base A outer s H->BindsTo s fd args (ps.zip us)->Vals vs us->sp vs H Q E ->
  codeAny (model P w) A (.call (.ref f) args) (CR CX outer P w H s Q E) s
theorem adg.make {P:Program} {w:World} {K:PySem.W.Frag} {mg:Str->Option Value} {base:Heap} {A:Around} {outer:List Env} {s:Shared} {H:Hp} (e:adg P w K mg base A outer s H) (C:Addr) (us:List Value) (kw:List (Str × Value)) :
  adg P w K mg base (A.under (.builtin "type.__call__" ⟨.ref C :: us,kw⟩)) outer s H:=⟨by first | exact e.frames | (simpa [Around.under,Code.envs,Code.isFrame,pushEnvs] using e.frames),e.mod,e.bs,e.bsz,e.Ub,e.frf,e.hok,e.bare⟩
section
variable {X:Cx} {pins:List (Addr × Obj)} {σ:St} {H:Hp} {s s':Shared}
theorem Inv.env0 (I:Inv X pins σ H s):adg X.prog X.w X.K X.mg X.base X.A X.stack s H :=
 ⟨I.ok.frames,I.ok.mod,I.bs,Nat.le_trans I.ok.bsz I.sz,I.stack,I.adn,I.hok,I.bare⟩
theorem Inv.after {Q:VK} {u:Value} (I:Inv X pins σ H s) (h:CE X.stack X.prog X.w H s Q u s'):EP X pins σ Q u s':=by
 obtain ⟨v,H',os,bare,un,hok,r,q⟩:=h
 obtain ⟨hh,g,d,t,os'⟩:=s'
 obtain rfl:os'=s.os:=os
 exact ⟨v,H',I.call (h':=hh) (g':=g) (d':=d) (t':=t) (ch:=[]) un hok bare (fun b z=>absurd z (by simp)),r,q⟩
end
def ahL (sp:Sp) (dvs:List V) (E:XK) (t:TA):TE:=fun σ H Q=>t σ H fun vs H1=>sp (vs ++ dvs) H1 Q E
def adl (C:Addr) (sp:Sp) (dvs:List V) (E:XK) (t:TA):TE:=fun σ H Q=>t σ H fun vs H1=>∀ x dx,H1 x=none->H1 dx=none->dx ≠ x ->
 sp (.ref x :: (vs ++ dvs)) (upd (upd H1 dx (.own x)) x (.ins C dx [])) (fun v H2=>v = .non/\Q (.ref x) H2) E
def Binds (K:PySem.W.Frag) (fd:FuncData) (ps:List Str) (ds:List Value):Prop :=
 ∀ (s:Shared) (us:List Value),K.In s.heap->(us ++ ds).length=ps.length->BindsTo s fd ⟨us,[]⟩ (ps.zip (us ++ ds))
theorem Binds.all {K:PySem.W.Frag} {fd:FuncData} {ps:List Str} (h:∀ us:List Value,us.length=ps.length->bindArgs fd ⟨us,[]⟩=pure (ps.zip us)):Binds K fd ps []:=fun s us _ hl=>by
 rw [List.append_nil] at hl ⊢
 exact .of_eq (h us hl)
def Passes (CX:CXT) (X:Cx) (E:XK):Prop:=∀ (pins:List (Addr × Obj)) (σ:St) (H:Hp) (s:Shared) (e:Value) (s':Shared),Inv X pins σ H s->CX X.stack H s E e s'->X.xe e s'
section
variable {X:Cx} {CX:CXT} {k:Nat} {f C:Addr} {fd:FuncData} {ps:List Str} {sp:Sp} {dvs:List V} {ds:List Value} {E:XK} {x m:Str} {p pos apos:Pos} {e o:Expr} {es:List Expr} {ta:TE} {t:TA}
theorem aii {pins:List (Addr × Obj)} {σ:St} {H:Hp} {s:Shared} {Q:VK} {us:List Value} {vs:List V} (F:QH X.prog X.w X.K X.mg X.base CX k f fd ps sp) (hr:Fq k X.A) (hb:Binds X.K fd ps ds) (hd:Vals dvs ds) (hx:Passes CX X E)
  (I:Inv X pins σ H s) (r:Vals vs us) (h:sp (vs ++ dvs) H Q E):wpAny (model X.prog X.w) X.A (call (.ref f) us) (EP X pins σ Q) X.xe s:=by
 have r2:Vals (vs ++ dvs) (us ++ ds):=r.append hd
 have hl:(us ++ ds).length=ps.length:=by rw [<- r2.length]; exact F.len _ _ _ _ h
 refine wpAny_call (codeAny_mono (F.run X.A X.stack s H ⟨us,[]⟩ (us ++ ds) (vs ++ dvs) Q E hr I.env0 (hb s us I.kIn hl) r2 h) fun r s' hq=>?_)
 cases r with
 | error e=>exact hx pins σ H s e s' I hq
 | ok fl =>
  cases fl with
  | ret u=>exact I.after hq
  | next=>exact False.elim hq
  | brk=>exact False.elim hq
  | cont=>exact False.elim hq
theorem ag0 (F:QH X.prog X.w X.K X.mg X.base CX k f fd ps sp) (hr:Fq k X.A) (hg:Gl X x) (hm:X.mg x=some (.ref f)) (hk:PySem.W.keepIn X.K (.ref f)=true) (hb:Binds X.K fd ps ds) (hd:Vals dvs ds) (hx:Passes CX X E)
  (ha:PA X (e :: es) t) (hdb:(x == ("__debug__" : Str))=false:=by decide) (he:starEach (e :: es) X.env=(false,eval e X.env) :: starEach es X.env:=by rfl) (hpl:(backTo pos (starEach es X.env)).any (·.1)=false:=by rfl) :
  PE X (.Call (.Name x p) (e :: es) [] pos) (ahL sp dvs E t):=by
 intro pins s σ H Q I h
 refine wpAny_Call_Name_kw (U4 I hg hm ?_ hdb)
 refine PySem.W.callWith_K (h₀:=X.base) I.ok.mod.kin hk (thn (ha pos pins s σ H _ I h) fun us s1 ⟨vs,H1,I1,r,q⟩=>⟨I1.kIn,?_⟩) he hpl
 exact aii F hr hb hd hx I1 r q
structure Mk (K:PySem.W.Frag) (C f:Addr):Prop where
 makes:PySem.W.makesIn K C=true
 init:PySem.W.findIn K (.ref C) "__init__" = some (some (.ref f))
 fn:PySem.W.isFn K (.ref f)=true
 kp:PySem.W.keepIn K (.ref C)=true
theorem aaR {pins:List (Addr × Obj)} {σ:St} {H:Hp} {s:Shared} {Q:VK} {us:List Value} {vs:List V} (M:Mk X.K C f) (F:QH X.prog X.w X.K X.mg X.base CX k f fd ps sp) (hr:Fq (k + 1) X.A) (hb:Binds X.K fd ps ds) (hd:Vals dvs ds)
  (hx:Passes CX X E) (I:Inv X pins σ H s) (r:Vals vs us)
  (h:∀ x dx,H x=none->H dx=none->dx ≠ x->sp (.ref x :: (vs ++ dvs)) (upd (upd H dx (.own x)) x (.ins C dx [])) (fun v H2=>v = .non/\Q (.ref x) H2) E) :
  wpAny (model X.prog X.w) X.A (call (.ref C) us) (EP X pins σ Q) X.xe s:=by
 have hq:=h (s.heap.objs.size + 1) s.heap.objs.size (I.hok.fresh (Nat.le_succ _)) (I.hok.fresh (Nat.le_refl _)) (Nat.ne_of_lt (Nat.lt_succ_self _))
 have I2:=Inv.made (C:=C) I
 have r2:Vals (V.ref (s.heap.objs.size + 1) :: (vs ++ dvs)) (Value.ref (s.heap.objs.size + 1) :: (us ++ ds)):=.cons rfl (r.append hd)
 have hl:(Value.ref (s.heap.objs.size + 1) :: us ++ ds).length=ps.length:=by
  have e:=r2.length
  rw [F.len _ _ _ _ hq] at e
  exact e.symm
 refine wpAny_call (afX (f:=f) I.kIn M.makes M.init (beq_iff_eq.mp M.fn) (codeAny_mono (F.run _ X.stack _ _ ⟨Value.ref (s.heap.objs.size + 1) :: us,[]⟩ (Value.ref (s.heap.objs.size + 1) :: (us ++ ds)) _ _ E (hr.make C us [])
  (I2.env0.make C us []) (hb _ (Value.ref (s.heap.objs.size + 1) :: us) I2.kIn hl) r2 hq) fun r s' hq'=>?_))
 cases r with
 | error e=>exact hx pins σ _ _ e s' I2 hq'
 | ok fl =>
  cases fl with
  | ret u =>
   obtain ⟨v,H',I3,rv,ev,q3⟩:=I2.after hq'
   subst ev
   exact ⟨rv,⟨V.ref (s.heap.objs.size + 1),H',I3,rfl,q3⟩⟩
  | next=>exact False.elim hq'
  | brk=>exact False.elim hq'
  | cont=>exact False.elim hq'
theorem agY (M:Mk X.K C f) (F:QH X.prog X.w X.K X.mg X.base CX k f fd ps sp) (hr:Fq (k + 1) X.A) (hg:Gl X x) (hm:X.mg x=some (.ref C)) (hb:Binds X.K fd ps ds) (hd:Vals dvs ds) (hx:Passes CX X E)
  (ha:PA X (e :: es) t) (hdb:(x == ("__debug__" : Str))=false:=by decide) (he:starEach (e :: es) X.env=(false,eval e X.env) :: starEach es X.env:=by rfl) (hpl:(backTo pos (starEach es X.env)).any (·.1)=false:=by rfl) :
  PE X (.Call (.Name x p) (e :: es) [] pos) (adl C sp dvs E t):=by
 intro pins s σ H Q I h
 refine wpAny_Call_Name_kw (U4 I hg hm ?_ hdb)
 refine PySem.W.callWith_K (h₀:=X.base) I.ok.mod.kin M.kp (thn (ha pos pins s σ H _ I h) fun us s1 ⟨vs,H1,I1,r,q⟩=>⟨I1.kIn,?_⟩) he hpl
 exact aaR M F hr hb hd hx I1 r q
theorem afI (M:Mk X.K C f) (F:QH X.prog X.w X.K X.mg X.base CX k f fd ps sp) (hr:Fq (k + 1) X.A) (hg:Gl X x) (hm:X.mg x=some (.ref C)) (hb:Binds X.K fd ps ds) (hd:Vals dvs ds) (hx:Passes CX X E)
  (hdb:(x == ("__debug__" : Str))=false:=by decide):PE X (.Call (.Name x p) [] [] pos) (adl C sp dvs E ah4):=by
 intro pins s σ H Q I h
 refine wpAny_Call_Name_kw (U4 I hg hm ?_ hdb)
 exact PySem.W.callWith_K0 I.kIn M.kp (aaR (us:=[]) M F hr hb hd hx I .nil h)
end
structure Av (N P:List Str) (sc:Scope):Prop where
 kind:sc.kind = .function
 co:sc.isCoroutine=false
 gen:sc.isGenerator=false
 nd:N.Nodup
 pre:N.take P.length=P
 par:∀ x ∈ P,sc.names.lookup x=some .local \/ sc.names.lookup x=some .cell
 aiw:∀ y ∈ sc.names,y.2 ≠ .free
theorem Y6 {kindOf:Str->Option NameKind} {x:Str}:∀ {binds:List (Str × Value)} {m:Str->Option Value},(∀ v,(x,v) ∉ binds)->bindL kindOf binds m x=m x
 | [],_,_=>rfl
 | (n,v) :: r,m,h=>by
  unfold bindL
  rw [Y6 fun w hw=>h w (List.mem_cons_of_mem _ hw)]
  split
  ·have:x ≠ n:=by rintro rfl; exact h v List.mem_cons_self
   simp [this]
  ·rfl
theorem Y8 {kindOf:Str->Option NameKind} {x:Str}:∀ {binds:List (Str × Value)} {m:Str->Option Value},(∀ v,(x,v) ∉ binds)->bindC kindOf binds m x=m x
 | [],_,_=>rfl
 | (n,v) :: r,m,h=>by
  unfold bindC
  rw [Y8 fun w hw=>h w (List.mem_cons_of_mem _ hw)]
  split
  ·rfl
  ·have:x ≠ n:=by rintro rfl; exact h v List.mem_cons_self
   simp [this]
theorem Y7 {kindOf:Str->Option NameKind} {x:Str} {v:Value}:∀ {P:List Str} {vs:List Value} {i:Nat} {m:Str->Option Value},P.Nodup->P[i]? = some x->vs[i]? = some v->kindOf x=some .local ->
  bindL kindOf (P.zip vs) m x=some v
 | [],_,_,_,_,h,_,_=>by simp at h
 | _ :: _,[],_,_,_,_,h,_=>by simp at h
 | p :: P,w :: vs,0,m,nd,h1,h2,hk=>by
  simp at h1 h2; subst h1; subst h2
  show bindL kindOf ((p,w) :: P.zip vs) m p=_
  unfold bindL
  rw [Y6 fun v hv=>(List.nodup_cons.mp nd).1 (List.of_mem_zip hv).1,if_pos hk]
  simp
 | p :: P,w :: vs,i + 1,m,nd,h1,h2,hk=>by
  show bindL kindOf ((p,w) :: P.zip vs) m x=_
  unfold bindL
  exact Y7 (i:=i) (List.nodup_cons.mp nd).2 (by simpa using h1) (by simpa using h2) hk
theorem Y9 {kindOf:Str->Option NameKind} {x:Str} {v:Value}:∀ {P:List Str} {vs:List Value} {i:Nat} {m:Str->Option Value},P.Nodup->P[i]? = some x->vs[i]? = some v->kindOf x ≠ some .local ->
  bindC kindOf (P.zip vs) m x=some v
 | [],_,_,_,_,h,_,_=>by simp at h
 | _ :: _,[],_,_,_,_,h,_=>by simp at h
 | p :: P,w :: vs,0,m,nd,h1,h2,hk=>by
  simp at h1 h2; subst h1; subst h2
  show bindC kindOf ((p,w) :: P.zip vs) m p=_
  unfold bindC
  rw [Y8 fun v hv=>(List.nodup_cons.mp nd).1 (List.of_mem_zip hv).1,if_neg hk]
  simp
 | p :: P,w :: vs,i + 1,m,nd,h1,h2,hk=>by
  show bindC kindOf ((p,w) :: P.zip vs) m x=_
  unfold bindC
  exact Y9 (i:=i) (List.nodup_cons.mp nd).2 (by simpa using h1) (by simpa using h2) hk
def start (N:List Str) (vs:List V):St:=vs.map some ++ List.replicate (N.length - vs.length) none
def abz (CX:CXT) (P:Program) (w:World) (K:PySem.W.Frag) (mg:Str->Option Value) (base:Heap) (N:List Str) (qual:Str) (scope:Scope) (f:Addr) (cd:Value) (A:Around) (outer:List Env) (s:Shared) (H:Hp) (E:XK):Cx where
 prog:=P
 w:=w
 K:=K
 mg:=mg
 base:=base
 A:=A.deeper (envOfC qual scope s.heap.objs.size f cd)
 N:=N
 s_0:=s
 H_0:=H
 env:=envOfC qual scope s.heap.objs.size f cd
 outer:=outer
 stack:=envOfC qual scope s.heap.objs.size f cd :: outer
 ex:=[]
 calm:=true
 fn:=fun _=>true
 pn:=[]
 xe:=fun e s'=>wpAny (model P w) (A.deeper (envOfC qual scope s.heap.objs.size f cd)) (leaving (envOfC qual scope s.heap.objs.size f cd) e) (fun _ s''=>CX outer H s E e s'') (fun e' s''=>CX outer H s E e' s'') s'
theorem abA {sc:Scope} {n:Nat} {x:Str} (h:sc.names.lookup x=some .cell):∃ c,(cellsFrom n sc.names []).lookup x=some c:=by
 have q:=PySem.W.cellsFrom_some sc.names n [] (.inl h)
 exact Option.isSome_iff_exists.mp q
theorem aeI {CX:CXT} {P:Program} {w:World} {K:PySem.W.Frag} {mg:Str->Option Value} {base:Heap} {N ps:List Str} {qual:Str} {scope:Scope} {f:Addr} {cd:Value} {A:Around} {outer:List Env} {s s1:Shared} {H:Hp} {E:XK} {us:List Value} {vs:List V}
  (S:Av N ps scope) (hd:A.handled=none) (e0:adg P w K mg base A outer s H) (hl:vs.length=ps.length) (r:Vals vs us)
  (x:InCallC s s.heap.objs.size (bindL (envOfC qual scope s.heap.objs.size f cd).kindOf (ps.zip us) fun _=>none) (cellsFrom (s.heap.objs.size + 1) scope.names []) (bindC (envOfC qual scope s.heap.objs.size f cd).kindOf (ps.zip us) fun _=>none) s1) :
  Inv (abz CX P w K mg base N qual scope f cd A outer s H E) [] (start N vs) H s1:=by
 have hpl:ps.length <= N.length:=by have:=congrArg List.length S.pre; rw [List.length_take] at this; omega
 obtain ⟨h1,tk,rfl,hk⟩:=x.done
 have noA:∀ b:Addr,b ∉ (abz CX P w K mg base N qual scope f cd A outer s H E).ex:=fun b z=>absurd (show b ∈ ([]:List Addr) from z) (by simp)
 refine ⟨⟨e0.mod,S.kind,rfl,rfl,Nat.le_refl _,fun y z c h1 h2=>?_,fun y hy=>?_,fun y c _ h=>?_,fun _=>hd,Around.frames_deeper e0.frames,.inr ⟨rfl,rfl⟩,fun b z=>absurd z (noA b),e0.bs,e0.bsz,fun b _ _=>noA b,fun b z=>absurd z (noA b),e0.Ub,e0.frf⟩,
  rfl,e0.bare,Un.kept hk,⟨_,x.toInCall.ns,fun i y v h1 h2 h3=>?_⟩,fun y c h=>⟨_,x.cell y c h⟩,e0.hok.fresh (Nat.le_refl _),fun y c h=>?_,fun p hp=>absurd (show p ∈ ([]:List (Addr × Obj)) from hp) (by simp),e0.hok.kept hk,?_⟩
 ·exact name_of_addr x.apart (PySem.mem_of_lookup h1) (PySem.mem_of_lookup h2)
 ·have hy:scope.names.lookup y=some .cell \/ scope.names.lookup y=some .free:=hy
  rcases hy with hy | hy
  ·exact abA hy
  ·exact absurd rfl (S.aiw _ (PySem.mem_of_lookup hy))
 ·exact Nat.le_of_lt (x.above y c (PySem.mem_of_lookup h))
 ·have hi:i < vs.length:=by
   unfold start at h2
   by_cases hi:i < vs.length
   ·exact hi
   ·rw [List.getElem?_append_right (by simpa using hi)] at h2
    rw [List.getElem?_replicate] at h2
    split at h2 <;> cases h2
  have ha:vs[i]? = some v:=by
   unfold start at h2
   rw [List.getElem?_append_left (by simpa using hi),List.getElem?_map] at h2
   cases e:vs[i]? with
   | none=>rw [e] at h2; cases h2
   | some a=>rw [e] at h2; cases h2; rfl
  obtain ⟨u,hu,rv⟩:=r.get ha
  have hp:ps[i]? = some y:=by
   rw [<- S.pre,List.getElem?_take_of_lt (by omega)]; exact h1
  have ndP:ps.Nodup:=by rw [<- S.pre]; exact S.nd.sublist (List.take_sublist _ _)
  refine ⟨u,rv,?_⟩
  rcases S.par y (List.mem_of_getElem? hp) with k | k
  ·exact .inl ⟨k,Y7 ndP hp hu k⟩
  ·obtain ⟨c,e⟩:=abA (n:=s.heap.objs.size + 1) k
   refine .inr ⟨.inl k,c,e,?_⟩
   have q:=x.cell y c e
   rw [Y9 ndP hp hu (by show scope.names.lookup y ≠ _; rw [k]; decide)] at q
   exact q
 ·exact e0.hok.fresh (Nat.le_of_lt (x.above y c (PySem.mem_of_lookup h)))
 ·unfold start
  show _=N.length
  rw [List.length_append,List.length_map,List.length_replicate]
  omega
theorem akd {CX:CXT} {P:Program} {w:World} {K:PySem.W.Frag} {mg:Str->Option Value} {base:Heap} {k:Nat} {f:Addr} {name qual:Str} {params:Arguments} {body:List Stmt} {scope:Scope} {dV kV doc pm cdv ct oc:Value} {an od:Option Addr}
  {osl:Array (Option Value)} {N ps:List Str} {sp:Sp} (lk:K.lookup f=some ⟨oc,od,.func (PySem.W.fnOf name qual params body scope dV kV doc pm an cdv ct),osl⟩) (hcd:PySem.W.codeIn K cdv qual=true) (S:Av N ps scope)
  (len:∀ vs H Q E,sp vs H Q E->vs.length=ps.length)
  (hbody:∀ (A:Around) (outer:List Env) (s:Shared) (H:Hp) (vs:List V) (Q:VK) (E:XK),Fq k (A.deeper (envOfC qual scope s.heap.objs.size f cdv))->sp vs H Q E ->
   ∃ t,PSs (abz CX P w K mg base N qual scope f cdv A outer s H E) body t/\t { nx:=fun _ H'=>Q .non H',rt:=Q } (start N vs) H) :
  QH P w K mg base CX (k + 1) f (PySem.W.fnOf name qual params body scope dV kV doc pm an cdv ct) ps sp:=by
 refine ⟨len,fun A outer s H args us vs Q E hr e0 hb r hsp=>?_⟩
 have hl:=len _ _ _ _ hsp
 have KX:K.In s.heap:=e0.mod.kin.keeps fun b o e=>(e0.bs b o e).1
 have lim:s.heap.NoLimit:=e0.mod.nolimit.keeps fun b o e=>(e0.bs b o e).1
 have hkind:∀ y ∈ ps.zip us,scope.names.lookup y.1=some .local \/ (scope.names.lookup y.1=some .cell/\((cellsFrom (s.heap.objs.size + 1) scope.names []).lookup y.1).isSome=true):=fun ⟨n,v⟩ hy=>by
  rcases S.par n (List.of_mem_zip hy).1 with q | q
  ·exact .inl q
  ·exact .inr ⟨q,PySem.W.cellsFrom_some _ _ _ (.inl q)⟩
 refine codeAny_call_function hr.depth (KX _ _ lk) rfl S.co S.gen rfl (PySem.W.codeRec_of KX hcd) (hb _ _ _ _ ?_)
 refine wpAny_newFunctionEnv_cells S.kind hkind fun env he s1 x=>?_
 subst he
 refine ⟨lim.keeps x.toInCall.keep,codeAny_func ?_⟩
 obtain ⟨t,ht,hq⟩:=hbody A outer s H vs Q E (hr.deeper _) hsp
 have I:Inv (abz CX P w K mg base N qual scope f cdv A outer s H E) [] (start N vs) H s1:=aeI S hr.hd e0 hl r x
 refine wpAny_mono (ht [] s1 (start N vs) H _ I hq) (fun fl s' hs=>?_) fun e s' hs=>hs
 have fin:∀ {σ':St} {H':Hp} {v:V} {u:Value},Inv (abz CX P w K mg base N qual scope f cdv A outer s H E) [] σ' H' s'->RelV v u->Q v H'->CE outer P w H s Q u s' :=
  fun {σ' H' v u} J rv q=>⟨v,H',J.os,J.bare,J.base,J.hok,rv,q⟩
 cases fl with
 | ret u =>
  obtain ⟨v,σ',H',J,rv,q⟩:=hs
  exact fin J rv q
 | next =>
  obtain ⟨σ',H',J,q⟩:=hs
  exact fin (v:=V.non) (u:=Value.none) J rfl q
 | brk =>
  obtain ⟨_,_,_,q⟩:=hs
  exact False.elim q
 | cont =>
  obtain ⟨_,_,_,q⟩:=hs
  exact False.elim q
section
variable {X:Cx} {x:Str} {p pos:Pos} {e:Expr} {es:List Expr} {t:TA} {id T:String} {r:List V->Hp->VK->Prop}
def tCB (r:List V->Hp->VK->Prop) (t:TA):TE:=fun σ H Q=>t σ H fun vs H1=>r vs H1 Q
theorem Bc (hc:Jy X (.builtin id) r) (hg:Gl X x) (hm:X.mg x=none) (hv:bootBuiltins x=some (.builtin id)) (ha:PA X (e :: es) t) (hn:x ≠ "__name__" := by decide) (hdb:(x == ("__debug__" : Str))=false:=by decide)
  (he:starEach (e :: es) X.env=(false,eval e X.env) :: starEach es X.env:=by rfl) (hpl:(backTo pos (starEach es X.env)).any (·.1)=false:=by rfl):PE X (.Call (.Name x p) (e :: es) [] pos) (tCB r t):=by
 intro pins s σ H Q I h
 refine wpAny_Call_Name_kw (Rw I hg hm hv ?_ hn hdb)
 exact PyProof.Rows.callWith_builtin1 (thn (ha pos pins s σ H _ I h) fun us s1 ⟨vs,H1,I1,r1,q1⟩=>hc pins s1 σ H1 vs us Q I1 r1 q1) he hpl
theorem Jl (hc:Jy X (.type T) r) (hg:Gl X x) (hm:X.mg x=none) (hv:bootBuiltins x=some (.type T)) (ha:PA X (e :: es) t) (hn:x ≠ "__name__" := by decide) (hdb:(x == ("__debug__" : Str))=false:=by decide)
  (he:starEach (e :: es) X.env=(false,eval e X.env) :: starEach es X.env:=by rfl) (hpl:(backTo pos (starEach es X.env)).any (·.1)=false:=by rfl):PE X (.Call (.Name x p) (e :: es) [] pos) (tCB r t):=by
 intro pins s σ H Q I h
 refine wpAny_Call_Name_kw (Rw I hg hm hv ?_ hn hdb)
 exact PyProof.Rows.callWith_type1 (thn (ha pos pins s σ H _ I h) fun us s1 ⟨vs,H1,I1,r1,q1⟩=>hc pins s1 σ H1 vs us Q I1 r1 q1) he hpl
end
end L2
namespace HT
open PySem PyProof.Rows
def lexLt:List Int->List Int->Bool
 | [],[]=>false
 | [],_ :: _=>true
 | _ :: _,[]=>false
 | x :: xs,y :: ys=>if x=y then lexLt xs ys else decide (x < y)
theorem Wj (x y:Int) (xs ys:List Int):lexLt (x :: xs) (y :: ys)=if x=y then lexLt xs ys else decide (x < y):=rfl
theorem Xp:lexLt [] [] = false:=rfl
theorem Wh (y:Int) (ys:List Int):lexLt [] (y :: ys)=true:=rfl
theorem Wi (x:Int) (xs:List Int):lexLt (x :: xs) [] = false:=rfl
theorem ago (A:Around) (s:Shared) (a:Int) (t:Tok) (c:Int) (u:Tok):∃ e,SeqAt.EqAt A s (.int a t) (.int c u) e/\(e=true ↔ a=c) :=
 ⟨(a == c),SeqAt.EqAt.int_int a t c u,by simp⟩
theorem afC (A:Around) (s:Shared) (a:Int) (t:Tok) (c:Int) (u:Tok) (prog:Program) (w:World) (E:Value->Shared->Prop) (Q:Value->Shared->Prop) (h:Q (.bool (decide (a < c))) s) :
  wpAny (model prog w) A (richCompare .Lt (.int a t) (.int c u)) Q E s :=
 (PyProof.Rows.lt_int h:wpAny (model prog w) A (compareOp .Lt (.int a t) (.int c u)) Q E s)
section
open PySem.SeqAt
open PySem.AutoSeq1 (wpAny_loadPart')
open PySem.MeetsSeq PySem.MeetsSeq2 PySem.MeetsSeq3
theorem Xe (l b:Addr) (items items2:Array Value) (n n2:Nat) (dd dd2:Option Addr) (sl sl2:Array (Option Value)) (ns ms:List Int) (hi:IntsAre items.toList ns) (hj:IntsAre items2.toList ms) :
  Meets (Builtin.«tuple.__lt__» ⟨[.ref l,.ref b],[]⟩)
   (fun _ R s=>s.heap.get? l=some { cls:=.type "tuple",dict:=dd,data:=.seq items n,slots:=sl }/\s.heap.get? b=some { cls:=.type "tuple",dict:=dd2,data:=.seq items2 n2,slots:=sl2 } /\
    R (.ok (.ret (.bool (lexLt ns ms)))) s) :=
 .of_wp fun prog w A R s h=>by
  obtain ⟨hp,g,d,tk,os⟩:=s; obtain ⟨hl,hb,h⟩:=h
  have f2:=AutoSeq1.sub_tuple_tuple
  have z1:items.size=ns.length:=by rw [<- hi.length]; simp
  have z2:items2.size=ms.length:=by rw [<- hj.length]; simp
  wp_walk using wpAny_loadPart' hl,wpAny_loadPart' hb,wpAny_forIn_list _ (fun rest b s'=>b.1=none/\s'=⟨hp,g,d,tk,os⟩/\∃ (vs ws:List Value) (ns' ms':List Int),rest=vs.zip ws /\
   IntsAre vs ns'/\IntsAre ws ms'/\ns'.length + items2.size=ms'.length + items.size/\R (.ok (.ret (.bool (lexLt ns' ms')))) ⟨hp,g,d,tk,os⟩) _
  case turn =>
   rintro ⟨y,x⟩ rest b s' ⟨hb',rfl,vs,ws,ns',ms',hz,hvi,hwi,hlen,hR⟩
   cases hvi with
   | nil=>rw [List.zip_nil_left] at hz; cases hz
   | cons a t ak5 =>
    cases hwi with
    | nil=>rw [List.zip_nil_right] at hz; cases hz
    | cons c u ak3 =>
     rw [List.zip_cons_cons] at hz
     injection hz with hyx hrest
     injection hyx with hy hx
     subst hy hx
     rw [Wj] at hR
     simp only [List.length_cons] at hlen
     obtain ⟨e,he,aj1⟩:=ago A.in1 ⟨hp,g,d,tk,os⟩ a t c u
     refine wpAny_bind (he prog w _ _ ?_)
     cases e with
     | true =>
      rw [if_pos (aj1.mp rfl)] at hR
      wp_walk
      exact ⟨rfl,rfl,_,_,_,_,hrest,ak5,ak3,by omega,hR⟩
     | false =>
      rw [if_neg (fun q=>absurd (aj1.mpr q) Bool.false_ne_true)] at hR
      have hri:=afC A.in1 ⟨hp,g,d,tk,os⟩ a t c u prog w
      wp_walk using hri
      exact ⟨_,rfl,by simpa using hR⟩
  case fin =>
   rintro ⟨b1,b2⟩ s' ⟨hb',rfl,vs,ws,ns',ms',hz,hvi,hwi,hlen,hR⟩
   simp only at hb'
   subst hb'
   have hv:lexLt ns' ms'=decide (items.size < items2.size):=by
    cases hvi with
    | nil =>
     cases hwi with
     | nil =>
      simp only [List.length_nil] at hlen
      rw [Xp]
      exact (decide_eq_false (by omega)).symm
     | cons c u hw =>
      simp only [List.length_nil,List.length_cons] at hlen
      rw [Wh]
      exact (decide_eq_true (by omega)).symm
    | cons a t hv =>
     cases hwi with
     | nil =>
      simp only [List.length_nil,List.length_cons] at hlen
      rw [Wi]
      exact (decide_eq_false (by omega)).symm
     | cons c u hw =>
      rw [List.zip_cons_cons] at hz
      cases hz
   rw [hv] at hR
   wp_walk
   exact ⟨_,rfl,by simpa [Builtin.Tuple.tupleCompareSizes] using hR⟩
  case h =>
   exact ⟨rfl,rfl,items.toList,items2.toList,ns,ms,rfl,hi,hj,by omega,h⟩
end
section
variable {prog:Program} {w:World} {A:Around} {E:Value->Shared->Prop} {s:Shared}
theorem acM {l b:Addr} {items items2:Array Value} {ns ms:List Int} {Q:Value->Shared->Prop} (hl:IsTup s.heap l items) (hb:IsTup s.heap b items2) (hi:IntsAre items.toList ns) (hj:IntsAre items2.toList ms)
  (hu:A.units < cLine) (h:Q (.bool (lexLt ns ms)) s):wpAny (model prog w) A (compareOp .Lt (.ref l) (.ref b)) Q E s:=by
 obtain ⟨⟨cls,dd,data,sl⟩,ho,hc,n,hd⟩:=id hl
 obtain ⟨⟨cls2,dd2,data2,sl2⟩,ho2,hc2,n2,hd2⟩:=id hb
 simp only at hc hd hc2 hd2
 subst hc hd hc2 hd2
 exact richCompare_meets_room (op:=.Lt) ⟨_,ho,rfl⟩ ⟨_,ho2,rfl⟩ PySem.F.slot_tuple_lt PySem.F.entry_tuple_lt (PySem.F.args_tuple_lt_2 _ _) (Xe l b items items2 n n2 dd dd2 sl sl2 ns ms hi hj)
  ⟨ho,ho2,show Value.bool (lexLt ns ms) ≠ Value.notImplemented/\Q (.bool (lexLt ns ms)) s from ⟨(fun x=>nomatch x),h⟩⟩ hu
def sIx (n d:Nat):Option Int->Nat
 | none=>d
 | some v=>if v < 0 then (v + (n:Int)).toNat else min v.toNat n
theorem aaQ (n d:Nat):sIx n d none=d:=rfl
theorem ZG (n d k:Nat):sIx n d (some (k:Int))=min k n:=by
 show (if (k:Int) < 0 then ((k:Int) + (n:Int)).toNat else min (k:Int).toNat n)=min k n
 rw [if_neg (by omega),Int.toNat_natCast]
theorem aih (n d:Nat) (hd:d <= n) (o:Option Int):sIx n d o <= n:=by
 cases o with
 | none=>exact hd
 | some v =>
  show (if v < 0 then (v + (n:Int)).toNat else min v.toNat n) <= n
  by_cases hv:v < 0
  ·rw [if_pos hv]; omega
  ·rw [if_neg hv]; exact Nat.min_le_right _ _
theorem adT (v:Int) (n d:Nat):(if v < 0 then max (v + (n:Int)) 0 else min v (n:Int))=((sIx n d (some v):Nat):Int):=by
 show (if v < 0 then max (v + (n:Int)) 0 else min v (n:Int))=(((if v < 0 then (v + (n:Int)).toNat else min v.toNat n):Nat):Int)
 by_cases hv:v < 0
 ·simp only [if_pos hv]; omega
 ·simp only [if_neg hv]; omega
theorem adb (lo hi:Option Int) (n:Nat):Builtin.Slice.sliceAdjust lo hi 1 (n:Int)=(((sIx n 0 lo:Nat):Int),((sIx n n hi:Nat):Int)):=by
 have h1:¬ ((1:Int) < 0):=by omega
 unfold Builtin.Slice.sliceAdjust
 simp only [h1,if_false]
 refine Prod.ext ?_ ?_
 ·cases lo with
  | none=>rfl
  | some v=>exact adT v n 0
 ·cases hi with
  | none=>rfl
  | some v=>exact adT v n n
theorem acr (i j:Nat):Builtin.Slice.slicePlaces (i:Int) (j:Int) 1=j - i:=by
 unfold Builtin.Slice.slicePlaces
 have h1:(1:Int) > 0:=by omega
 simp only [h1,if_true,Int.ediv_one]
 split <;> omega
theorem Vq {v:Value} {o:Option Int} {Q:Option Int->Shared->Prop} (p:IsPart v o) (h:Q o s):wpAny (model prog w) A (Builtin.Slice.slicePartIndex v) Q E s:=by
 cases p with
 | none=>exact slicePart_none h
 | int i t=>exact slicePart_int h
theorem Q6 {sl:Addr} {vl vu:Value} {lo hi:Option Int} {n:Nat} {Q:Int × Int × Nat->Shared->Prop} (hs:s.heap.IsSliceOf sl vl vu .none) (pl:IsPart vl lo) (pu:IsPart vu hi)
  (h:Q (((sIx n 0 lo:Nat):Int),1,sIx n n hi - sIx n 0 lo) s):wpAny (model prog w) A (Builtin.Slice.sliceApplied (.ref sl) (pure (n:Int))) Q E s:=by
 obtain ⟨os,hos,hcs,hds⟩:=id hs
 unfold Builtin.Slice.sliceApplied Builtin.Slice.sliceFields
 refine wpAny_bind (wpAny_bind (wpAny_field hos hds (x:=vl) rfl (wpAny_bind (wpAny_field hos hds (x:=vu) rfl (wpAny_bind (wpAny_field hos hds (x:=.none) rfl (wpAny_pure ?_)))))))
 refine wpAny_bind (slicePart_none ?_)
 show wpAny _ _ (if ((1:Int) == 0)=true then _ else _) _ _ s
 rw [if_neg (by decide)]
 refine wpAny_bind (Vq pl (wpAny_bind (Vq pu (wpAny_bind (wpAny_pure ?_)))))
 show wpAny _ _ (match Builtin.Slice.sliceAdjust lo hi 1 (n:Int) with | (lo,hi)=>pure (lo,(1:Int),Builtin.Slice.slicePlaces lo hi 1)) _ _ s
 rw [adb lo hi n]
 show wpAny _ _ (pure (((sIx n 0 lo:Nat):Int),(1:Int),Builtin.Slice.slicePlaces ((sIx n 0 lo:Nat):Int) ((sIx n n hi:Nat):Int) 1)) _ _ s
 rw [acr]
 exact wpAny_pure h
theorem afG (xs:Array Value) (i k:Nat):((List.range k).filterMap fun (m:Nat)=>xs[((i:Int) + (m:Int) * 1).toNat]?).toArray=((xs.toList.drop i).take k).toArray:=by
 have e:(fun (m:Nat)=>xs[((i:Int) + (m:Int) * 1).toNat]?)=fun m=>xs[i + m]?:=by
  funext m
  have:((i:Int) + (m:Int) * 1).toNat=i + m:=by omega
  rw [this]
 rw [e]
 have:=pick_run xs i k
 rw [List.filterMap_map] at this
 have e2:((fun x=>xs[x]?) ∘ fun x=>i + x)=fun m=>xs[i + m]?:=rfl
 rw [e2] at this
 rw [this]
theorem Qp {t sl:Addr} {items:Array Value} {vl vu:Value} {lo hi:Option Int} {Q:Value->Shared->Prop} (ht:IsTup s.heap t items) (hs:s.heap.IsSliceOf sl vl vu .none) (pl:IsPart vl lo) (pu:IsPart vu hi)
  (hw:¬ (sIx items.size 0 lo=0/\sIx items.size items.size hi=items.size))
  (h:Q (.ref s.heap.objs.size) { s with heap:=s.heap.push { cls:=.type "tuple",data:=.seq ((items.toList.drop (sIx items.size 0 lo)).take (sIx items.size items.size hi - sIx items.size 0 lo)).toArray } })
  (hsz:items.size <= sizeLine):wpAny (model prog w) A (getItem (.ref t) (.ref sl)) Q E s:=by
 have adK:sizeOk (.seq ((items.toList.drop (sIx items.size 0 lo)).take (sIx items.size items.size hi - sIx items.size 0 lo)).toArray):=by
  show ((items.toList.drop (sIx items.size 0 lo)).take (sIx items.size items.size hi - sIx items.size 0 lo)).toArray.size <= sizeLine
  rw [List.size_toArray,List.length_take,List.length_drop,Array.length_toList]
  omega
 have hj:sIx items.size items.size hi <= items.size:=aih _ _ (Nat.le_refl _) hi
 obtain ⟨os,hos,hcs,hds⟩:=id hs
 have hTs:s.TypeIs (.ref sl) "slice" := ⟨os,hos,hcs⟩
 unfold getItem
 try with_reducible refine wpAny_holding ?_
 first | refine wpAny_bind (wpAny_pure ?_) | skip
 refine wpAny_bind (wpAny_sequenceKey ht.typeIs (by decide) ?_)
 refine wpAny_bind (wpAny_callSpecial?_slot (name:=Str.ofString "__getitem__") ht.typeIs PyProof.Rows.slot_tuple_getitem
  (wpAny_call_entry PyProof.Rows.slot_tuple_getitem ht.typeIs entry_tuple_getitem ?_ (args_tuple_getitem _ _)))
 show wpAny _ _ (Builtin.Tuple.tupleItemsOf (.ref t) >>= _) _ _ s
 refine wpAny_bind (tupleItemsOf_ ht ?_)
 refine wpAny_bind (wpAny_typeOf hTs ?_)
 rw [if_pos (by decide)]
 refine wpAny_bind (Q6 hs pl pu ?_)
 have hno:¬ ((((sIx items.size 0 lo:Nat):Int) == 0 && (1:Int) == 1 && (sIx items.size items.size hi - sIx items.size 0 lo) == items.size)=true):=by
  intro q
  rw [Bool.and_eq_true,Bool.and_eq_true] at q
  have q1:((sIx items.size 0 lo:Nat):Int)=0:=eq_of_beq q.1.1
  have q2:sIx items.size items.size hi - sIx items.size 0 lo=items.size:=eq_of_beq q.2
  exact hw ⟨by omega,by omega⟩
 show wpAny _ _ (if (((sIx items.size 0 lo:Nat):Int) == 0 && (1:Int) == 1 && (sIx items.size items.size hi - sIx items.size 0 lo) == items.size)=true then _ else _) _ _ s
 rw [if_neg hno,afG]
 first
  | exact wpAny_bind (m:=Builtin.Tuple.tupleExact _) (wpAny_newObj_type (wpAny_pure ⟨_,rfl,wpAny_pure h⟩) adK)
  | exact wpAny_bind (m:=Builtin.Tuple.tupleExact _) (wpAny_newObj_type (wpAny_bind (wpAny_pure (wpAny_pure ⟨_,rfl,wpAny_pure h⟩))) adK)
  | exact wpAny_bind (wpAny_bind (m:=Builtin.Tuple.tupleExact _) (wpAny_newObj_type (wpAny_pure (wpAny_pure ⟨_,rfl,wpAny_pure h⟩)) adK))
  | exact wpAny_bind (wpAny_bind (m:=Builtin.Tuple.tupleExact _) (wpAny_newObj_type (wpAny_pure ⟨_,rfl,wpAny_pure h⟩) adK))
end
end HT
namespace L2
open PySem PySem.Spec PyProof.Rows
abbrev TO:=St->Hp->(Option Int->Hp->Prop)->Prop
def PO (X:Cx) (e:Option Expr) (t:TO):Prop :=
 ∀ (pins:List (Addr × Obj)) (s:Shared) (σ:St) (H:Hp) (Q:Option Int->Hp->Prop),Inv X pins σ H s->t σ H Q ->
  wpAny (model X.prog X.w) X.A (evalPart e X.env) (fun u s'=>∃ o H',Inv X pins σ H' s'/\IsPart u o/\Q o H') X.xe s
def agM:TO:=fun _ H Q=>Q none H
def ajn (t:TE):TO:=fun σ H Q=>t σ H fun x H1=>∃ i,x = .int i/\Q (some i) H1
theorem intsAre_of {ns:List Int}:∀ {us:List Value},Vals (ns.map V.int) us->IntsAre us ns:=by
 induction ns with
 | nil=>intro us r; rw [List.map_nil] at r; cases r; exact .nil
 | cons n ns ih =>
  intro us r
  rw [List.map_cons] at r
  cases r with
  | cons r1 r2 =>
   obtain ⟨t,e⟩:=r1
   subst e
   exact .cons n t (ih r2)
section
variable {X:Cx} {e:Expr} {te:TE} {lo hi:Option Expr} {tl th:TO} {pos p2:Pos}
theorem ZJ:PO X none agM:=by
 intro pins s σ H Q I h
 rw [evalPart_none]
 exact wpAny_pure ⟨none,H,I,.none,h⟩
theorem Qc (h:PE X e te):PO X (some e) (ajn te):=by
 intro pins s σ H Q I hw
 rw [evalPart_some]
 refine thn (h pins s σ H _ I hw) fun u s1 ⟨x,H1,I1,r1,q1⟩=>?_
 obtain ⟨i,rfl,q⟩:=q1
 obtain ⟨t,rfl⟩:=r1
 exact ⟨some i,H1,I1,.int i t,q⟩
def SlR (X:Cx) (r:V->Option Int->Option Int->Hp->VK->Prop):Prop :=
 ∀ (pins:List (Addr × Obj)) (s:Shared) (σ:St) (H:Hp) (x:V) (v vl vu:Value) (lo hi:Option Int) (sl:Addr) (Q:VK),Inv X pins σ H s->RelV x v->s.heap.IsSliceOf sl vl vu .none->IsPart vl lo->IsPart vu hi->r x lo hi H Q ->
  ∃ T id,typeLookup (.type T) "__getitem__" = pure (some (.builtin id))/\s.TypeIs v T/\wpAny (model X.prog X.w) X.A (getItem v (.ref sl)) (EP X pins σ Q) X.xe s
def tSl (r:V->Option Int->Option Int->Hp->VK->Prop) (te:TE) (tl th:TO):TE:=fun σ H Q=>te σ H fun x H1=>tl σ H1 fun l H2=>th σ H2 fun u H3=>r x l u H3 Q
theorem Qg {r:V->Option Int->Option Int->Hp->VK->Prop} (hr:SlR X r) (he:PE X e te) (hl:PO X lo tl) (hu:PO X hi th):PE X (.Subscript e (.Slice lo hi none p2) pos) (tSl r te tl th):=by
 intro pins s σ H Q I h
 refine Subscript_ (thn (he pins s σ H _ I h) fun v s1 ⟨x,H1,I1,r1,q1⟩=>?_)
 refine wpAny_Slice (thn (hl pins s1 σ H1 _ I1 q1) fun vl s2 ⟨l,H2,I2,pl,q2⟩=>thn (hu pins s2 σ H2 _ I2 q2) fun vu s3 ⟨u,H3,I3,pu,q3⟩=>?_)
 rw [evalPart_none]
 refine wpAny_pure ?_
 have I4:Inv X pins σ H3 { s3 with heap:=s3.heap.push { cls:=.type "slice",data:=.fields #[vl,vu,.none] } }:=I3.kept (t':=s3.toks) fun b ob q=>Heap.get?_push_of_some _ q
 obtain ⟨T,id,hT,ht,hg⟩:=hr pins { s3 with heap:=s3.heap.push { cls:=.type "slice",data:=.fields #[vl,vu,.none] } } σ H3 x v vl vu l u s3.heap.objs.size Q I4 r1 (Heap.IsSliceOf.new ..) pl pu q3
 show wpAny (model X.prog X.w) X.A (subscriptTail e (.Slice lo hi none p2) v (.ref s3.heap.objs.size)) (EP X pins σ Q) X.xe { s3 with heap:=s3.heap.push { cls:=.type "slice",data:=.fields #[vl,vu,.none] } }
 exact tail_any (ops:=[.ref s3.heap.objs.size,v]) ht hT hg (by with_unfolding_all rfl)
def Ot (xs:List V) (lo hi:Option Int):List V:=(xs.drop (HT.sIx xs.length 0 lo)).take (HT.sIx xs.length xs.length hi - HT.sIx xs.length 0 lo)
theorem Tz (xs:List V) (lo hi:Option Int):(Ot xs lo hi).length <= xs.length:=by
 unfold Ot
 rw [List.length_take,List.length_drop]
 omega
def akK (K:PySem.W.Frag):V->Option Int->Option Int->Hp->VK->Prop:=fun x lo hi H Q=>∃ a xs,x = .ref a/\SqT K H a xs /\
 ¬ (HT.sIx xs.length 0 lo=0/\HT.sIx xs.length xs.length hi=xs.length)/\∀ p,H p=none->Q (.ref p) (upd H p (.tup (Ot xs lo hi)))
theorem aif:SlR X (akK X.K):=by
 intro pins s σ H x v vl vu lo hi sl Q I rx hs pl pu h
 obtain ⟨a,xs,rfl,hx,hw,q⟩:=h
 cases rx
 obtain ⟨its,r,ht,hz⟩:=I.tuple hx
 have hlen:its.toArray.size=xs.length:=by rw [List.size_toArray]; exact r.length.symm
 refine ⟨"tuple",_,PyProof.Rows.slot_tuple_getitem.lookup,ht.typeIs,?_⟩
 refine HT.Qp ht hs pl pu (by rw [hlen]; exact hw) ?_ (by rw [hlen]; exact hz)
 rw [hlen]
 refine ⟨.ref s.heap.objs.size,_,I.laid (t':=s.toks) (o:=.tup (Ot xs lo hi)) (fun b ob q=>Heap.get?_push_of_some _ q) (Nat.le_refl _) ?_,rfl,q _ (I.hok.fresh (Nat.le_refl _))⟩
 exact ⟨Nat.le_trans (Tz xs lo hi) hz,_,(r.drop (HT.sIx xs.length 0 lo)).take (HT.sIx xs.length xs.length hi - HT.sIx xs.length 0 lo),IsTup.new _ _⟩
def akO (K:PySem.W.Frag):R2:=fun x y H Q=>∃ a b ns ms,x = .ref a/\y = .ref b/\SqT K H a (ns.map V.int)/\SqT K H b (ms.map V.int)/\Q (.bl (HT.lexLt ns ms)) H
theorem aiu (hu:X.A.units < cLine):OpR X (compareOp .Lt) (akO X.K):=by
 intro pins s σ H x y v u Q I rx ry h
 obtain ⟨a,b,ns,ms,rfl,rfl,ha,hb,q⟩:=h
 cases rx
 cases ry
 obtain ⟨its,r1,p1,_⟩:=I.tuple ha
 obtain ⟨its2,r2,p2,_⟩:=I.tuple hb
 have i1:IntsAre its.toArray.toList ns:=intsAre_of r1
 have i2:IntsAre its2.toArray.toList ms:=intsAre_of r2
 exact HT.acM p1 p2 i1 i2 hu ⟨.bl (HT.lexLt ns ms),H,I,rfl,q⟩
end
def ixN (n:Nat) (i:Int):Option Nat:=if 0 <= i then (if i < n then some i.toNat else none) else if -(n:Int) <= i then some (i + n).toNat else none
def atI {α:Type} (xs:List α) (i:Int):Option α:=(ixN xs.length i).bind fun j=>xs[j]?
theorem adH {n:Nat} {i:Int} {j:Nat} (h:ixN n i=some j):seqIndex? i n=some j/\j < n /\ -(n:Int) <= i/\i < n:=by
 unfold ixN at h
 by_cases h0:0 <= i
 ·rw [if_pos h0] at h
  by_cases h1:i < n
  ·rw [if_pos h1] at h
   have e:i.toNat=j:=Option.some.inj h
   exact ⟨by rw [seqIndex_of h0 h1,e],by omega,by omega,h1⟩
  ·rw [if_neg h1] at h; cases h
 ·rw [if_neg h0] at h
  by_cases h1:-(n:Int) <= i
  ·rw [if_pos h1] at h
   have e:(i + n).toNat=j:=Option.some.inj h
   exact ⟨by rw [seqIndex_neg (by omega) h1,e],by omega,h1,by omega⟩
  ·rw [if_neg h1] at h; cases h
theorem aaq {α:Type} {xs:List α} {i:Int} {v:α} (h:atI xs i=some v):∃ j,seqIndex? i xs.length=some j/\xs[j]? = some v/\j < xs.length /\ -(xs.length:Int) <= i/\i < xs.length:=by
 unfold atI at h
 cases e:ixN xs.length i with
 | none=>rw [e] at h; cases h
 | some j =>
  rw [e] at h
  obtain ⟨h1,h2,h3,h4⟩:=adH e
  exact ⟨j,h1,h,h2,h3,h4⟩
theorem adW {α:Type} {xs:List α} {j:Nat} {v:α} (h:xs[j]? = some v):atI xs (j:Int)=some v:=by
 have hj:j < xs.length:=(List.getElem?_eq_some_iff.mp h).1
 have e:ixN xs.length (j:Int)=some j:=by
  unfold ixN
  rw [if_pos (by omega),if_pos (by omega)]; simp
 unfold atI; rw [e]; exact h
theorem abP {α:Type} (xs:List α) (v:α):atI (xs ++ [v]) (-1)=some v:=by
 have hl:(xs ++ [v]).length=xs.length + 1:=by simp
 have e:ixN (xs ++ [v]).length (-1)=some xs.length:=by
  unfold ixN
  rw [hl,if_neg (by decide),if_pos (by omega)]
  congr 1
  omega
 unfold atI
 rw [e]
 show (xs ++ [v])[xs.length]? = some v
 simp
def ahJ (b:Expr):Prop:=∀ o i,subscripted b false o i=operate [o,i] (getItem o i)
def IxR (X:Cx) (r:R2):Prop :=
 ∀ (value slice:Expr) (pins:List (Addr × Obj)) (s:Shared) (σ:St) (H:Hp) (x y:V) (v u:Value) (Q:VK),Inv X pins σ H s->RelV x v->RelV y u->r x y H Q ->
  subscripted slice false v u=operate [v,u] (getItem v u)->wpAny (model X.prog X.w) X.A (subscriptTail value slice v u) (EP X pins σ Q) X.xe s
def MtR (X:Cx) (id:String) (r:V->List V->Hp->VK->Prop):Prop :=
 ∀ (pins:List (Addr × Obj)) (s:Shared) (σ:St) (H:Hp) (x:V) (xs:List V) (v:Value) (us:List Value) (Q:VK),Inv X pins σ H s->RelV x v->Vals xs us->r x xs H Q ->
  wpAny (model X.prog X.w) X.A (call (.builtin id) (v :: us)) (EP X pins σ Q) X.xe s
section
variable {X:Cx} {a b:Expr} {ta tb:TE} {pos:Pos}
theorem Ck {r:R2} (hr:IxR X r) (ha:PE X a ta) (hb:PE X b tb) (hs:ahJ b):PE X (.Subscript a b pos) (tOp r ta tb):=by
 intro pins s σ H Q I h
 exact Subscript_ (aja ha hb I h fun v u s2 x y H2 I2 rx ry q=>hr a b pins s2 σ H2 x y v u Q I2 rx ry q (hs _ _))
def akQ (K:PySem.W.Frag):R2:=fun x y H Q=>∃ p xs i v,x = .ref p/\y = .int i/\SqL K H p xs/\atI xs i=some v/\Q v H
def ajB (K:PySem.W.Frag):R2:=fun x y H Q=>∃ p xs i v,x = .ref p/\y = .int i/\SqT K H p xs/\atI xs i=some v/\Q v H
def akP:R2:=fun x y H Q=>∃ z i c,x = .str z/\y = .int i/\z.length <= sizeLine/\atI z.cps.toList i=some c/\Q (.str ⟨#[c]⟩) H
theorem BP:IxR X (akQ X.K):=by
 intro value slice pins s σ H x y v u Q I rx ry h hs
 obtain ⟨p,xs,i,z,rfl,rfl,hq,he,q⟩:=h
 cases rx
 obtain ⟨t,rfl⟩:=ry
 obtain ⟨its,r,pl,hz⟩:=I.list hq
 obtain ⟨j,h1,h2,h3,h4,h5⟩:=aaq he
 obtain ⟨w,ew,rw'⟩:=r.get h2
 have hl:=r.length
 have hn:=Rv
 have fin:EP X pins σ Q w s:=⟨z,H,I,rw',q⟩
 by_cases h0:0 <= i
 ·have hj:i.toNat=j:=by
   rw [seqIndex_of h0 h5] at h1
   exact Option.some.inj h1
  exact item_listR pl.isList h0 (by omega) (by rw [hj]; simpa using ew) fin hs
 ·have hj:(i + (its.toArray.size:Int)).toNat=j:=by
   rw [seqIndex_neg (by omega) h4] at h1
   rw [List.size_toArray,<- hl]
   exact Option.some.inj h1
  exact subscriptTail_builtinR (x:=w) pl.isList.typeIs slot_list_getitem.lookup
   (wpAny_getItem_list_neg (Q:=fun r s'=>r=w/\EP X pins σ Q r s') pl.isList (by omega) (by rw [List.size_toArray] <;> omega) (by omega) (by rw [hj]; simpa using ew) ⟨rfl,fin⟩) hs
theorem Im:IxR X (ajB X.K):=by
 intro value slice pins s σ H x y v u Q I rx ry h hs
 obtain ⟨p,xs,i,z,rfl,rfl,hq,he,q⟩:=h
 cases rx
 obtain ⟨t,rfl⟩:=ry
 obtain ⟨its,r,pl,hz⟩:=I.tuple hq
 obtain ⟨j,h1,h2,h3,h4,h5⟩:=aaq he
 obtain ⟨w,ew,rw'⟩:=r.get h2
 have hl:=r.length
 have hn:=Rv
 have fin:EP X pins σ Q w s:=⟨z,H,I,rw',q⟩
 exact subscriptTail_builtinR (x:=w) pl.typeIs slot_tuple_getitem.lookup
  (getItem_tuple (j:=j) (Q:=fun r s'=>r=w/\EP X pins σ Q r s') pl (by omega) (by omega) (by rw [List.size_toArray,<- hl]; exact h1) (by simpa using ew) ⟨rfl,fin⟩) hs
theorem aiK:IxR X akP:=by
 intro value slice pins s σ H x y v u Q I rx ry h hs
 obtain ⟨z,i,c,rfl,rfl,hz,he,q⟩:=h
 obtain ⟨t,rfl⟩:=rx
 obtain ⟨t',rfl⟩:=ry
 obtain ⟨j,h1,h2,h3,h4,h5⟩:=aaq he
 have hl:z.cps.toList.length=z.length:=by simp [Str.length]
 rw [hl] at h1 h4 h5
 have hn:=Rv
 exact tail_any (typeIs_str s z t) slot_str_getitem.lookup (getItem_str (c:=c) (by
  have e1:decide (i < -(2 ^ 63:Int))=false:=decide_eq_false (by omega)
  have e2:decide (i ≥ 2 ^ 63)=false:=decide_eq_false (by omega)
  rw [e1,e2,Bool.or_false]) (by rw [h1]; simpa using h2) ⟨.str ⟨#[c]⟩,H,I.tok _,⟨_,rfl⟩,q⟩) hs
theorem acJ (its:List Value) (n j:Nat) (u:Value):Obj.mapSeq (·.setIfInBounds j u) { cls:=.type "list",data:=.seq its.toArray n } = { cls:=.type "list",data:=.seq (its.set j u).toArray n }:=by
 simp [Obj.mapSeq]
theorem Inv.lst {pins:List (Addr × Obj)} {σ:St} {H:Hp} {s:Shared} {p:Addr} {xs:List V} (I:Inv X pins σ H s) (h:H p=some (.lst xs)) :
  ∃ (its:List Value) (n:Nat),Vals xs its/\s.heap.get? p=some { cls:=.type "list",data:=.seq its.toArray n }/\xs.length <= sizeLine:=by
 obtain ⟨z,its,n,r,e⟩:=I.hok p _ h
 exact ⟨its,n,r,e,z⟩
theorem Inv.aiB {pins:List (Addr × Obj)} {σ:St} {H:Hp} {s:Shared} {p:Addr} {xs ys:List V} {its its':List Value} {n n':Nat} {f:Obj->Obj} (I:Inv X pins σ H s) (h:H p=some (.lst xs))
  (ho:s.heap.get? p=some { cls:=.type "list",data:=.seq its.toArray n }) (hf:f { cls:=.type "list",data:=.seq its.toArray n } = { cls:=.type "list",data:=.seq its'.toArray n' }) (r:Vals ys its') (hz:ys.length <= sizeLine) (t:Nat) :
  Inv X pins σ (upd H p (.lst ys)) { s with heap:=s.heap.update p f,toks:=t }:=by
 have e:(s.heap.update p f).get? p=some { cls:=.type "list",data:=.seq its'.toArray n' }:=by
  rw [Heap.get?_update_self f ho (by rw [hf] <;> rfl),hf]
 refine I.write (x:=p) (e:=p) (by rw [h]; trivial) (.inl rfl) (fun b u hb q=>(Heap.get?_update_other _ _ (Ne.symm hb)).trans q) ⟨_,e⟩ ?_
 exact ⟨hz,its',n',r,e⟩
def ajz:V->V->V->Hp->(Hp->Prop)->Prop:=fun o i v H Q=>∃ p xs k j,o = .ref p/\i = .int k/\H p=some (.lst xs)/\ixN xs.length k=some j/\Q (upd H p (.lst (xs.set j v)))
theorem set_list:akm X ajz:=by
 intro pins s σ H o i v ov iv u Q I ro ri rv h
 obtain ⟨p,xs,k,j,rfl,rfl,hp,hj,q⟩:=h
 cases ro
 obtain ⟨t,rfl⟩:=ri
 obtain ⟨its,n,r,ho,hz⟩:=I.lst hp
 obtain ⟨h1,h2,h3,h4⟩:=adH hj
 have hl:=r.length
 have hn:=Rv
 have I':Inv X pins σ (upd H p (.lst (xs.set j v))) { s with heap:=s.heap.update p (Obj.mapSeq (·.setIfInBounds j u)) } :=
  I.aiB hp ho (acJ its n j u) (r.set rv j) (by rw [List.length_set]; exact hz) s.toks
 by_cases h0:0 <= k
 ·have hk:k.toNat=j:=by
   rw [seqIndex_of h0 h4] at h1
   exact Option.some.inj h1
  exact PySem.W.ki_setAt ho h0 (by omega) (by rw [List.size_toArray,<- hl]; exact h4) (by rw [hk]; exact ⟨_,I',q⟩)
 ·have hk:(k + (its.toArray.size:Int)).toNat=j:=by
   rw [seqIndex_neg (by omega) h3] at h1
   rw [List.size_toArray,<- hl]
   exact Option.some.inj h1
  exact PySem.W.ki_setBack ho (by omega) (by rw [List.size_toArray,<- hl]; exact h3) (by omega) (by rw [hk]; exact ⟨_,I',q⟩)
theorem Zx (lo hi:Option Int) (n:Nat):(sliceBounds lo hi none n).1=((HT.sIx n 0 lo:Nat):Int)/\(sliceBounds lo hi none n).2.1=((HT.sIx n n hi:Nat):Int)/\(sliceBounds lo hi none n).2.2=1:=by
 refine ⟨?_,?_,rfl⟩
 ·cases lo with
  | none=>simp [sliceBounds,HT.sIx]
  | some i =>
   simp only [sliceBounds,HT.sIx,Option.getD_none,show (1:Int) > 0 by decide,if_true]
   by_cases h:i < 0
   ·simp only [h,if_true] <;> omega
   ·simp only [h,if_false] <;> omega
 ·cases hi with
  | none=>simp [sliceBounds,HT.sIx]
  | some i =>
   simp only [sliceBounds,HT.sIx,Option.getD_none,show (1:Int) > 0 by decide,if_true]
   by_cases h:i < 0
   ·simp only [h,if_true] <;> omega
   ·simp only [h,if_false] <;> omega
theorem Xl (its:List Value) (lo hi:Option Int):slicePick its.toArray lo hi none=((its.drop (HT.sIx its.length 0 lo)).take (HT.sIx its.length its.length hi - HT.sIx its.length 0 lo)).toArray:=by
 obtain ⟨h1,h2,h3⟩:=Zx lo hi its.toArray.size
 unfold slicePick
 rw [h1,h2,h3]
 simp only [sliceRange_one,pick_run,List.size_toArray] <;> rfl
def akL (K:PySem.W.Frag):V->Option Int->Option Int->Hp->VK->Prop:=fun x lo hi H Q=>∃ a xs,x = .ref a/\SqL K H a xs/\∀ p,H p=none->Q (.ref p) (upd H p (.lst (Ot xs lo hi)))
theorem Zy:SlR X (akL X.K):=by
 intro pins s σ H x v vl vu lo hi sl Q I rx hs pl pu h
 obtain ⟨a,xs,rfl,hx,q⟩:=h
 cases rx
 obtain ⟨its,r,ht,hz⟩:=I.list hx
 have hlen:=r.length
 refine ⟨"list",_,slot_list_getitem.lookup,ht.isList.typeIs,?_⟩
 refine wpAny_getItem_list_slice ht.isList hs pl pu .none (by simp) ?_ (by rw [List.size_toArray] <;> omega)
 rw [Xl,<- hlen]
 refine ⟨.ref s.heap.objs.size,_,I.laid (t':=s.toks) (o:=.lst (Ot xs lo hi)) (fun b ob q=>Heap.get?_push_of_some _ q) (Nat.le_refl _) ?_,rfl,q _ (I.hok.fresh (Nat.le_refl _))⟩
 exact ⟨Nat.le_trans (Tz xs lo hi) hz,_,0,(r.drop (HT.sIx xs.length 0 lo)).take (HT.sIx xs.length xs.length hi - HT.sIx xs.length 0 lo),Heap.get?_push_size _ rfl⟩
def Ii:V->Bool
 | .non=>true
 | .bl _=>true
 | .int _=>true
 | .str _=>true
 | _=>false
def eqV:V->V->Bool
 | .non,.non=>true
 | .bl a,.bl b=>a == b
 | .bl a,.int b=>(if a then 1 else 0) == b
 | .int a,.bl b=>a == (if b then 1 else 0)
 | .int a,.int b=>a == b
 | .str a,.str b=>a == b
 | _,_=>false
theorem ai0 {A:Around} {s:Shared} {y x:V} {u v:Value} (ry:RelV y u) (rx:RelV x v) (fy:Ii y=true) (fx:Ii x=true):SeqAt.EqAt A s u v (eqV y x):=by
 cases y with
 | non =>
  cases ry
  cases x with
  | non=>cases rx; exact SeqAt.EqAt.same _
  | bl b=>cases rx; exact SeqAt.EqAt.none_bool b
  | int b=>obtain ⟨t,rfl⟩:=rx; exact SeqAt.EqAt.none_int b t
  | str b=>obtain ⟨t,rfl⟩:=rx; exact SeqAt.EqAt.none_str b t
  | _=>exact absurd (show false=true from fx) Bool.false_ne_true
 | bl a =>
  cases ry
  cases x with
  | non=>cases rx; exact SeqAt.EqAt.bool_none a
  | bl b=>cases rx; exact SeqAt.EqAt.bool_bool a b
  | int b=>obtain ⟨t,rfl⟩:=rx; exact SeqAt.EqAt.bool_int a b t
  | str b=>obtain ⟨t,rfl⟩:=rx; exact SeqAt.EqAt.bool_str a b t
  | _=>exact absurd (show false=true from fx) Bool.false_ne_true
 | int a =>
  obtain ⟨t',rfl⟩:=ry
  cases x with
  | non=>cases rx; exact SeqAt.EqAt.int_none a t'
  | bl b=>cases rx; exact SeqAt.EqAt.int_bool a t' b
  | int b=>obtain ⟨t,rfl⟩:=rx; exact SeqAt.EqAt.int_int a t' b t
  | str b=>obtain ⟨t,rfl⟩:=rx; exact SeqAt.EqAt.int_str a t' b t
  | _=>exact absurd (show false=true from fx) Bool.false_ne_true
 | str a =>
  obtain ⟨t',rfl⟩:=ry
  cases x with
  | non=>cases rx; exact SeqAt.EqAt.str_none a t'
  | bl b=>cases rx; exact SeqAt.EqAt.str_bool a t' b
  | int b=>obtain ⟨t,rfl⟩:=rx; exact SeqAt.EqAt.str_int a t' b t
  | str b=>obtain ⟨t,rfl⟩:=rx; exact SeqAt.EqAt.str_str a t' b t
  | _=>exact absurd (show false=true from fx) Bool.false_ne_true
 | _=>exact absurd (show false=true from fy) Bool.false_ne_true
def eqU (x:V) (u:Value):Bool:=match u with
 | .none=>eqV .non x
 | .bool b=>eqV (.bl b) x
 | .int i _=>eqV (.int i) x
 | .str z _=>eqV (.str z) x
 | _=>false
theorem Z0 {x y:V} {u:Value} (r:RelV y u) (f:Ii y=true):eqU x u=eqV y x:=by
 cases y with
 | non=>cases r; rfl
 | bl b=>cases r; rfl
 | int i=>obtain ⟨t,rfl⟩:=r; rfl
 | str z=>obtain ⟨t,rfl⟩:=r; rfl
 | _=>exact absurd (show false=true from f) Bool.false_ne_true
theorem Qy {x:V}:∀ {xs:List V} {us:List Value},Vals xs us->xs.all Ii=true->us.any (eqU x)=xs.any fun y=>eqV y x
 | _,_,.nil,_=>rfl
 | y :: xs,u :: us,.cons r t,f=>by
  rw [List.all_cons,Bool.and_eq_true] at f
  rw [List.any_cons,List.any_cons,Z0 r f.1,Qy t f.2]
theorem Jo {A:Around} {s:Shared} {x:V} {v:Value} (rx:RelV x v) (fx:Ii x=true):∀ {xs:List V} {us:List Value},Vals xs us->xs.all Ii=true->∀ u ∈ us,SeqAt.EqAt A s u v (eqU x u)
 | _,_,.nil,_=>fun u hu=>by cases hu
 | y :: xs,u :: us,.cons r t,f=>fun u' hu=>by
  rw [List.all_cons,Bool.and_eq_true] at f
  rcases List.mem_cons.mp hu with rfl | hu
  ·rw [Z0 r f.1]; exact ai0 r rx f.1 fx
  ·exact Jo rx fx t f.2 u' hu
def inV (x:V) (xs:List V):Bool:=xs.any fun y=>eqV y x
def rIn (K:PySem.W.Frag) (neg:Bool):R2:=fun x y H Q=>∃ p xs,y = .ref p/\(SqL K H p xs \/ SqT K H p xs)/\Ii x=true/\xs.all Ii=true/\Q (.bl (if neg then !inV x xs else inV x xs)) H
theorem Mv:OpR X (compareOp .In) (rIn X.K false):=by
 intro pins s σ H x y v u Q I rx ry h
 obtain ⟨p,xs,rfl,hq,fx,fs,q⟩:=h
 cases ry
 rcases hq with hq | hq
 ·obtain ⟨its,r,pl,hz⟩:=I.list hq
  refine SeqAt.in_listAt (eqU x) pl.isList (fun w hw=>Jo rx fx r fs w (by simpa using hw)) ⟨.bl _,H,I,rfl,?_⟩
  rw [show its.toArray.any (eqU x)=its.any (eqU x) by simp,Qy r fs]
  exact q
 ·obtain ⟨its,r,pl,hz⟩:=I.tuple hq
  refine SeqAt.in_tupleAt (eqU x) pl (fun w hw=>Jo rx fx r fs w (by simpa using hw)) ⟨.bl _,H,I,rfl,?_⟩
  rw [show its.toArray.any (eqU x)=its.any (eqU x) by simp,Qy r fs]
  exact q
theorem Qk:OpR X (compareOp .NotIn) (rIn X.K true):=by
 intro pins s σ H x y v u Q I rx ry h
 obtain ⟨p,xs,rfl,hq,fx,fs,q⟩:=h
 cases ry
 rcases hq with hq | hq
 ·obtain ⟨its,r,pl,hz⟩:=I.list hq
  refine SeqAt.notIn_listAt (eqU x) pl.isList (fun w hw=>Jo rx fx r fs w (by simpa using hw)) ⟨.bl _,H,I,rfl,?_⟩
  rw [show its.toArray.any (eqU x)=its.any (eqU x) by simp,Qy r fs]
  exact q
 ·obtain ⟨its,r,pl,hz⟩:=I.tuple hq
  refine SeqAt.notIn_tupleAt (eqU x) pl (fun w hw=>Jo rx fx r fs w (by simpa using hw)) ⟨.bl _,H,I,rfl,?_⟩
  rw [show its.toArray.any (eqU x)=its.any (eqU x) by simp,Qy r fs]
  exact q
theorem Ay:Jy X (.builtin "len") (fun xs H Q=>∃ p ys,xs=[.ref p]/\(SqL X.K H p ys \/ SqT X.K H p ys)/\Q (.int ys.length) H):=by
 intro pins s σ H xs us Q I r h
 obtain ⟨p,ys,rfl,hq,q⟩:=h
 obtain ⟨u,rfl,rx⟩:=vals1 r
 cases rx
 have hn:=Rv
 rcases hq with hq | hq
 ·obtain ⟨its,r',pl,hz⟩:=I.list hq
  have hlen:=r'.length
  exact Calls.call_len_list pl.isList (by simp only [List.size_toArray] <;> omega) ⟨.int ys.length,H,I.tok _,⟨s.toks + 1,by rw [List.size_toArray,hlen]⟩,q⟩
 ·obtain ⟨its,r',pl,hz⟩:=I.tuple hq
  have hlen:=r'.length
  exact len_tuple pl (by simp only [List.size_toArray] <;> omega) ⟨.int ys.length,H,I.tok _,⟨s.toks + 1,by rw [List.size_toArray,hlen]⟩,q⟩
theorem aaf:Jy X (.builtin "len") (fun xs H Q=>∃ z,xs=[.str z]/\z.length <= sizeLine/\Q (.int z.length) H):=by
 intro pins s σ H xs us Q I r h
 obtain ⟨z,rfl,hz,q⟩:=h
 obtain ⟨u,rfl,t,rfl⟩:=vals1 r
 have hn:=Rv
 exact len_str (by omega) ⟨.int z.length,H,I.tok _,⟨_,rfl⟩,q⟩
theorem aae:Jy X (.type "list") (fun xs H Q=>∃ p ys,xs=[.ref p]/\(SqL X.K H p ys \/ SqT X.K H p ys)/\∀ l,H l=none->Q (.ref l) (upd H l (.lst ys))):=by
 intro pins s σ H xs us Q I r h
 obtain ⟨p,ys,rfl,hq,q⟩:=h
 obtain ⟨u,rfl,rx⟩:=vals1 r
 cases rx
 have fin:∀ (its:List Value),Vals ys its->ys.length <= sizeLine->∀ (h':Heap) (c':Nat),(∀ b o',s.heap.get? b=some o'->h'.get? b=some o') ->
   h'.get? s.heap.objs.size=some { cls:=.type "list",dict:=none,data:=.seq its.toArray c',slots:=#[] }->EP X pins σ Q (.ref s.heap.objs.size) { s with heap:=h' }:=fun its r' hz h' c' kp e =>
  ⟨.ref s.heap.objs.size,_,I.laid (t':=s.toks) kp (Nat.le_refl _) (show DN X.prog X.w _ h' _ (.lst ys) from ⟨hz,its,c',r',e⟩),rfl,q _ (I.hok.fresh (Nat.le_refl _))⟩
 rcases hq with hq | hq
 ·obtain ⟨its,r',pl,hz⟩:=I.list hq
  have hlen:=r'.length
  obtain ⟨o,ho,hc,n,hd⟩:=pl.isList
  exact call_list_seq p (.inl rfl) ho hc hd (fun h' c' kp e=>fin its r' hz h' c' kp e) (by simp only [List.size_toArray] <;> omega)
 ·obtain ⟨its,r',pl,hz⟩:=I.tuple hq
  have hlen:=r'.length
  obtain ⟨o,ho,hc,n,hd⟩:=pl
  exact call_list_seq p (.inr rfl) ho hc hd (fun h' c' kp e=>fin its r' hz h' c' kp e) (by simp only [List.size_toArray] <;> omega)
theorem Io:Jy X (.type "tuple") (fun xs H Q=>∃ p ys,xs=[.ref p]/\((SqL X.K H p ys/\∀ l,H l=none->Q (.ref l) (upd H l (.tup ys))) \/ (SqT X.K H p ys/\Q (.ref p) H))):=by
 intro pins s σ H xs us Q I r h
 obtain ⟨p,ys,rfl,h⟩:=h
 obtain ⟨u,rfl,rx⟩:=vals1 r
 cases rx
 rcases h with ⟨hq,q⟩ | ⟨hq,q⟩
 ·obtain ⟨its,r',pl,hz⟩:=I.list hq
  have hlen:=r'.length
  refine call_tuple_list pl.isList (fun h' kp=>?_) (by simp only [List.size_toArray] <;> omega)
  have I1:Inv X pins σ H { s with heap:=h' }:=I.kept (t':=s.toks) kp
  have I2:Inv X pins σ (upd H h'.objs.size (.tup ys)) { s with heap:=h'.push { cls:=.type "tuple",data:=.seq its.toArray } } :=
   I1.laid (t':=s.toks) (fun b o e=>Heap.get?_push_of_some _ e) (Nat.le_refl _) (show DN X.prog X.w _ _ _ (.tup ys) from ⟨hz,its,r',IsTup.new _ _⟩)
  exact ⟨.ref h'.objs.size,_,I2,rfl,q _ (I1.hok.fresh (Nat.le_refl _))⟩
 ·obtain ⟨its,r',pl,hz⟩:=I.tuple hq
  exact call_tuple_same pl ⟨.ref p,H,I,rfl,q⟩
def tyV (K:PySem.W.Frag) (T:String) (x:V) (H:Hp):Prop:=match x with
 | .str _=>T = "str"
 | .int _=>T = "int"
 | .ref p=>(T = "list" /\ ∃ xs,SqL K H p xs) \/ (T = "tuple" /\ ∃ o,K.lookup p=some o/\o.cls = .type "tuple" /\ o.dict=none) \/
   (T = "dict" /\ ((∃ kvs,H p=some (.dK kvs)) \/ ∃ kvs,H p=some (.dT kvs))) \/ (T = "set" /\ ∃ S n,H p=some (.set S n))
 | _=>False
theorem afl {pins:List (Addr × Obj)} {σ:St} {H:Hp} {s:Shared} {T:String} {x:V} {v:Value} (I:Inv X pins σ H s) (r:RelV x v) (ty:tyV X.K T x H) :
  s.TypeIs v T/\∀ a,v = .ref a->∃ ob,s.heap.get? a=some ob/\ob.dict=none:=by
 cases x with
 | str z =>
  obtain ⟨t,rfl⟩:=r
  cases (show T = "str" from ty)
  exact ⟨typeIs_str s z t,fun _ e=>nomatch e⟩
 | int i =>
  obtain ⟨t,rfl⟩:=r
  cases (show T = "int" from ty)
  exact ⟨typeIs_int s i t,fun _ e=>nomatch e⟩
 | ref p =>
  cases r
  rcases ty with ⟨rfl,xs,hq⟩ | ⟨rfl,o,hk,hc,hd⟩ | ⟨rfl,hk⟩ | ⟨rfl,S,n,hk⟩
  ·obtain ⟨its,_,pl,_⟩:=I.list hq
   refine ⟨pl.isList.typeIs,fun a e=>?_⟩
   cases e
   obtain ⟨o,n,e,c,hd,_⟩:=pl
   exact ⟨o,e,hd⟩
  ·refine ⟨⟨o,I.kIn p o hk,hc⟩,fun a e=>?_⟩
   cases e
   exact ⟨o,I.kIn _ o hk,hd⟩
  ·have z:∃ o,s.heap.get? p=some o/\o.ExactDict:=by
    rcases hk with ⟨kvs,hk⟩ | ⟨kvs,hk⟩
    ·obtain ⟨_,_,_,_,o,_,_,e,ex,_⟩:=I.hok p _ hk
     exact ⟨o,e,ex⟩
    ·obtain ⟨_,_,_,_,o,_,_,e,ex,_⟩:=I.hok p _ hk
     exact ⟨o,e,ex⟩
   obtain ⟨o,e,ex⟩:=z
   refine ⟨⟨o,e,ex.1⟩,fun a e2=>?_⟩
   cases e2
   exact ⟨o,e,ex.2.1⟩
  ·obtain ⟨o,_,_,_,e,ex,_⟩:=I.hok p _ hk
   refine ⟨⟨o,e,ex.1⟩,fun a e2=>?_⟩
   cases e2
   exact ⟨o,e,ex.2.1⟩
 | _=>exact False.elim ty
def akE (K:PySem.W.Frag) (T:String) (r:V->List V->Hp->VK->Prop) (to:TE):TE:=fun σ H Q=>to σ H fun x H1=>tyV K T x H1/\r x [] H1 Q
def tBM (K:PySem.W.Frag) (T:String) (r:V->List V->Hp->VK->Prop) (to:TE) (t:TA):TE:=fun σ H Q=>to σ H fun x H1=>tyV K T x H1/\t σ H1 fun xs H2=>r x xs H2 Q
variable {o e:Expr} {es:List Expr} {to:TE} {t:TA} {name:Str} {apos cpos:Pos} {T id:String} {r:V->List V->Hp->VK->Prop}
theorem air (pa:PlainAttrs T) (slot:Slot T name id) (hty:typeOf (.builtin id)=pure (.type "method_descriptor")) (hm:MtR X id r) (ho:PE X o to)
  (hbase:attributeBase o name X.env (eval o X.env)=eval o X.env:=by rfl) (hline:(apos.endLine == cpos.line)=true:=by rfl):PE X (.Call (.Attribute o name apos) [] [] cpos) (akE X.K T r to):=by
 intro pins s σ H Q I h
 refine wpAny_Call_method0_late hbase hline (thn (ho pins s σ H _ I h) fun v s1 ⟨x,H1,I1,r1,ty,q1⟩=>?_)
 obtain ⟨h1,h2⟩:=afl I1 r1 ty
 exact ⟨T,id,pa,slot,hty,h1,h2,Calls.callWith_builtin rfl (PySem.evalArgs_none (hm pins s1 σ H1 x [] v [] Q I1 r1 .nil q1))⟩
theorem S6 (pa:PlainAttrs T) (slot:Slot T name id) (hty:typeOf (.builtin id)=pure (.type "method_descriptor")) (hm:MtR X id r) (ho:PE X o to) (ha:PA X (e :: es) t)
  (hbase:attributeBase o name X.env (eval o X.env)=eval o X.env:=by rfl)
  (hfew:((backTo cpos (starEach (e :: es) X.env)).all (fun x=>!x.1) && (backToKw cpos (keywordEach [] X.env)).all (fun x=>x.1.isSome)
   && decide ((e :: es).length + ([]:List Keyword).length + (if ([]:List Keyword).isEmpty then 0 else 1) < 30))=true:=by rfl)
  (hline:(apos.endLine == cpos.line)=true:=by rfl) (hs:starEach (e :: es) X.env=(false,eval e X.env) :: starEach es X.env:=by rfl) (hplain:(backTo cpos (starEach es X.env)).any (·.1)=false:=by rfl) :
  PE X (.Call (.Attribute o name apos) (e :: es) [] cpos) (tBM X.K T r to t):=by
 intro pins s σ H Q I h
 refine wpAny_Call_method_late hbase hfew hline rfl (thn (ho pins s σ H _ I h) fun v s1 ⟨x,H1,I1,r1,ty,q1⟩=>?_)
 obtain ⟨h1,h2⟩:=afl I1 r1 ty
 refine ⟨T,id,pa,slot,hty,h1,h2,?_⟩
 have hA:=ha cpos pins s1 σ H1 _ I1 q1
 rw [hs] at hA ⊢
 refine Calls.callWith_builtin (by show (false || (backTo cpos (starEach es X.env)).any (·.1))=false; rw [hplain] <;> rfl) (Calls.evalArgs_plain ?_)
 exact thn hA fun us s2 ⟨vs,H2,I2,r2,q2⟩=>hm pins s2 σ H2 x vs v us Q I2 r1 r2 q2
end
def MtM (X:Cx) (id:String) (r:V->List V->Hp->VK->Prop):Prop :=
 ∀ (pins:List (Addr × Obj)) (s:Shared) (σ:St) (H:Hp) (x:V) (xs:List V) (v:Value) (us:List Value) (Q:VK),Inv X pins σ H s->RelV x v->Vals xs us->r x xs H Q ->
  wpAny (model X.prog X.w) X.A (call (.builtin id) (v :: us)) (EP X pins σ Q) X.xe s
theorem Vals.one:∀ {x:V} {us:List Value},Vals [x] us->∃ u,us=[u]/\RelV x u
 | _,_,.cons r .nil=>⟨_,rfl,r⟩
theorem Vals.zero:∀ {us:List Value},Vals [] us->us=[]
 | _,.nil=>rfl
theorem Vals.dropLast {xs:List V} {us:List Value} (h:Vals xs us):Vals xs.dropLast us.dropLast:=by
 induction h with
 | nil=>exact .nil
 | cons r t ih =>
  cases t with
  | nil=>exact .nil
  | cons q t'=>exact .cons r ih
theorem Vals.rep {xs:List V} {us:List Value} (h:Vals xs us):∀ k:Nat,Vals (List.replicate k xs).flatten (List.replicate k us).flatten
 | 0=>.nil
 | k + 1=>by
  rw [List.replicate_succ,List.replicate_succ,List.flatten_cons,List.flatten_cons]
  exact Vals.append h (Vals.rep h k)
theorem acX {α:Type} (l:List α):l.eraseIdx (l.length - 1)=l.dropLast:=by
 induction l with
 | nil=>rfl
 | cons a r ih =>
  cases r with
  | nil=>rfl
  | cons b r =>
   have e:(a :: b :: r).length - 1=((b :: r).length - 1) + 1:=by
    have h1:(a :: b :: r).length=r.length + 2:=rfl
    have h2:(b :: r).length=r.length + 1:=rfl
    omega
   rw [e,List.eraseIdx_cons_succ,ih]
   all_goals rfl
theorem foldl_rep (its:List Value):∀ (k:Nat) (acc:List Value),
  List.foldl (fun x1 x2=>x1 ++ x2) acc.toArray (List.replicate k its.toArray)=(acc ++ (List.replicate k its).flatten).toArray
 | 0,acc=>by simp
 | k + 1,acc=>by
  have e:acc.toArray ++ its.toArray=(acc ++ its).toArray:=by simp
  have e2:(acc ++ its) ++ (List.replicate k its).flatten=acc ++ (List.replicate (k + 1) its).flatten:=by
   rw [List.replicate_succ,List.flatten_cons,List.append_assoc]
  rw [<- e2,<- foldl_rep its k (acc ++ its),<- e,List.replicate_succ,List.foldl_cons]
section
variable {X:Cx} {pins:List (Addr × Obj)} {σ:St} {H:Hp} {s:Shared} {l b:Addr} {xs ys zs:List V}
theorem Inv.ajI {its its':List Value} {n:Nat} {f:Array Value->Array Value} {t':Nat} (I:Inv X pins σ H s) (hH:H l=some (.lst xs))
  (e:s.heap.get? l=some { cls:=.type "list",data:=.seq its.toArray n }) (hf:f its.toArray=its'.toArray) (hv:Vals ys its') (hz:ys.length <= sizeLine) :
  Inv X pins σ (upd H l (.lst ys)) { s with heap:=s.heap.update l (Obj.mapSeq f),toks:=t' }:=by
 have q:=PySem.IsL.update e f
 rw [hf] at q
 refine I.write (x:=l) (e:=l) (by rw [hH]; exact trivial) (.inl rfl) (fun b' u hb hu=>(Heap.get?_update_other s.heap (Obj.mapSeq f) (Ne.symm hb)).trans hu) ⟨_,q⟩ ?_
 exact ⟨hz,its',_,hv,q⟩
theorem Inv.ajJ {its:List Value} {t':Nat} (I:Inv X pins σ H s) (hv:Vals ys its) (hz:ys.length <= sizeLine) :
  Inv X pins σ (upd H s.heap.objs.size (.lst ys)) { s with heap:=s.heap.push { cls:=.type "list",data:=.seq its.toArray },toks:=t' } :=
 I.laid (fun _ _ q=>Heap.get?_push_of_some _ q) (Nat.le_refl _) ⟨hz,its,0,hv,Heap.get?_push_size _ rfl⟩
theorem Inv.fresh (I:Inv X pins σ H s):H s.heap.objs.size=none:=I.hok.fresh (Nat.le_refl _)
theorem Inv.afY (I:Inv X pins σ H s) (hH:H l=some (.lst xs)):xs.length <= sizeLine/\∃ (its:List Value) (n:Nat),Vals xs its/\xs.length=its.length/\s.heap.get? l=some { cls:=.type "list",data:=.seq its.toArray n }:=by
 obtain ⟨z,its,n,r,e⟩:=I.hok l _ hH
 exact ⟨z,its,n,r,r.length,e⟩
theorem afP {n:Nat} (h:n <= sizeLine):Builtin.List.listTooLong n=false:=by
 unfold Builtin.List.listTooLong
 exact decide_eq_false (by omega)
end
section
variable {X:Cx}
def agW:V->List V->Hp->VK->Prop:=fun x vs H Q=>∃ l xs y,x = .ref l/\vs=[y]/\H l=some (.lst xs)/\xs.length < sizeLine/\Q .non (upd H l (.lst (xs ++ [y])))
theorem GP:MtM X "list.append" agW:=by
 intro pins s σ H x vs v us Q I rx rv h
 obtain ⟨l,xs,y,rfl,rfl,hH,hz,q⟩:=h
 cases rx
 obtain ⟨u,rfl,ru⟩:=rv.one
 obtain ⟨z,its,n,r,hl,e⟩:=I.afY hH
 refine call_meets F.slot_list_append ⟨_,e,rfl⟩ F.entry_list_append (F.args_list_append_2 _ _) (PySem.list_append l its.toArray n u (by rw [List.size_toArray]; omega)) ⟨e,?_⟩
 refine ⟨.non,_,I.ajI (its':=its ++ [u]) hH e (by simp) (r.append (.cons ru .nil)) ?_,rfl,q⟩
 rw [List.length_append,List.length_singleton]
 omega
def akN:V->List V->Hp->VK->Prop:=fun x vs H Q=>∃ l xs y,x = .ref l/\vs=[]/\H l=some (.lst xs)/\xs[xs.length - 1]? = some y/\Q y (upd H l (.lst xs.dropLast))
theorem aiy:MtM X "list.pop" akN:=by
 intro pins s σ H x vs v us Q I rx rv h
 obtain ⟨l,xs,y,rfl,rfl,hH,hy,q⟩:=h
 cases rx
 have hus:=rv.zero
 subst hus
 obtain ⟨z,its,n,r,hl,e⟩:=I.afY hH
 obtain ⟨u,hu,ru⟩:=r.get hy
 have hy':its.toArray[its.toArray.size - 1]? = some u:=by
  show its.toArray[its.length - 1]? = some u
  rw [<- Array.getElem?_toList,<- hl]
  exact hu
 refine call_meets F.slot_list_pop ⟨_,e,rfl⟩ F.entry_list_pop (F.args_list_pop_1 _) (MeetsSeq.list_pop_last l its.toArray n u hy' (by rw [List.size_toArray]; omega)) ⟨e,?_⟩
 refine ⟨y,_,I.ajI (its':=its.dropLast) hH e ?_ r.dropLast ?_,ru,q⟩
 ·show its.toArray.eraseIdxIfInBounds (its.toArray.size - 1)=its.dropLast.toArray
  rw [List.size_toArray,List.eraseIdxIfInBounds_toArray,acX]
 ·rw [List.length_dropLast]
  omega
def akR:R2:=fun x y H Q=>∃ l b xs zs,x = .ref l/\y = .ref b/\H l=some (.lst xs)/\H b=some (.lst zs)/\xs.length + zs.length <= sizeLine/\∀ p,H p=none->Q (.ref p) (upd H p (.lst (xs ++ zs)))
theorem acC:OpR X (binaryOp .Add) akR:=by
 intro pins s σ H x y v u Q I rx ry h
 obtain ⟨l,b,xs,zs,rfl,rfl,hH,hB,hz,q⟩:=h
 cases rx
 cases ry
 obtain ⟨z,its,n,r,hl,e⟩:=I.afY hH
 obtain ⟨z2,its2,n2,r2,hl2,e2⟩:=I.afY hB
 refine PySem.P.add_list e e2 ?_ (by rw [List.size_toArray,List.size_toArray]; omega)
 have ea:its.toArray ++ its2.toArray=(its ++ its2).toArray:=by simp
 rw [ea]
 exact ⟨.ref _,_,I.ajJ (t':=s.toks) (r.append r2) (by rw [List.length_append]; omega),rfl,q _ I.fresh⟩
def akM:R2:=fun x y H Q=>∃ l k xs,x = .ref l/\y = .int k/\H l=some (.lst xs) /\ -(2 ^ 63) <= k/\k < 2 ^ 63/\xs.length * k.toNat <= sizeLine /\
 ∀ p,H p=none->Q (.ref p) (upd H p (.lst (List.replicate k.toNat xs).flatten))
theorem len_rep {α:Type} (xs:List α) (k:Nat):(List.replicate k xs).flatten.length=k * xs.length:=by
 induction k with
 | zero=>simp
 | succ k ih=>rw [List.replicate_succ,List.flatten_cons,List.length_append,ih,Nat.succ_mul,Nat.add_comm]
theorem afM:OpR X (binaryOp .Mult) akM:=by
 intro pins s σ H x y v u Q I rx ry h
 obtain ⟨l,k,xs,rfl,rfl,hH,h1,h2,hz,q⟩:=h
 cases rx
 obtain ⟨t,rfl⟩:=ry
 obtain ⟨z,its,n,r,hl,e⟩:=I.afY hH
 have hlen:its.toArray.size * k.toNat <= sizeLine:=by rw [List.size_toArray,<- hl]; exact hz
 have alh:¬ its.toArray.size * k.toNat > (2 ^ 63 - 1) / 8:=by
  have:(sizeLine:Nat) <= (2 ^ 63 - 1) / 8:=by decide
  omega
 have hfit:¬ (!Builtin.List.listFitsIndex k)=true:=by
  rw [fitsIndex_both h1 h2]
  exact Bool.false_ne_true
 have ajY:¬ Builtin.List.listTooLong (its.toArray.size * k.toNat)=true:=by
  rw [afP hlen]
  exact Bool.false_ne_true
 have hnew:List.foldl (fun x1 x2=>x1 ++ x2) #[] (List.replicate (if its.toArray.isEmpty=true then 0 else k.toNat) its.toArray)=(List.replicate k.toNat its).flatten.toArray:=by
  have f0:∀ m:Nat,List.foldl (fun x1 x2=>x1 ++ x2) #[] (List.replicate m its.toArray)=(List.replicate m its).flatten.toArray:=fun m=>by
   have:=foldl_rep its m []
   rw [List.nil_append] at this
   exact this
  rw [f0]
  cases its with
  | nil=>simp
  | cons a r'=>rw [if_neg (by simp)]
 refine wpAny_binaryOp_repeat_ref (T := "list") (U := "int") (by decide) ⟨_,e,rfl⟩ (fun s'=>typeIs_int s' k t) noFill_list_mul F.fills_int_mul F.slot_int_rmul repeat_list F.slot_int_index.lookup
  (call_meets F.slot_int_rmul (typeIs_int s k t) F.entry_int_rmul (F.args_int_rmul_2 _ _) (int___rmul___int_list k t l its.toArray n)
   ⟨e,rfl,⟨_,e,rfl⟩,call_meets F.slot_list_mul ⟨_,e,rfl⟩ F.entry_list_mul (F.args_list_mul_2 _ _) (AutoListH.list___mul___list_int_3 l its.toArray n k t hfit alh ajY) ⟨e,?_⟩⟩)
 rw [hnew]
 exact ⟨.ref _,_,I.ajJ (t':=s.toks) (r.rep k.toNat) (by rw [len_rep,Nat.mul_comm]; exact hz),rfl,q _ I.fresh⟩
end
section
variable {prog:Program} {w:World} {A:Around} {E:Value->Shared->Prop} {s:Shared}
set_option maxRecDepth 100000 in
end
theorem Vals.bls:∀ {bs:List Bool} {us:List Value},Vals (bs.map V.bl) us->us=bs.map Value.bool
 | [],us,h=>by
  rw [List.map_nil] at h
  cases h
  rfl
 | b :: bs,us,h=>by
  rw [List.map_cons] at h
  cases h with
  | cons r t =>
   cases r
   rw [Vals.bls t,List.map_cons]
theorem Vals.afA {a:Addr} {us:List Value} (r:Vals [V.ref a] us):us=[Value.ref a]:=by
 cases r with
 | cons r t =>
  cases t
  cases r
  rfl
section
variable {X:Cx}
def ail (K:PySem.W.Frag):V->List V->Hp->VK->Prop:=fun x xs H Q=>∃ (a:Addr) (ys:List V) (y:V) (j:Nat) (z:V),x=V.ref a/\xs=[y]/\SqL K H a ys/\Ii y=true/\ys.all Ii=true/\ys[j]? = some z/\eqV z y=true /\
 (∀ (m:Nat) (z':V),m < j->ys[m]? = some z'->eqV z' y=false)/\Q (.int (j:Nat)) H
theorem adN {ys:List V} (f:ys.all Ii=true) {j:Nat} {z:V} (h:ys[j]? = some z):Ii z=true:=List.all_eq_true.mp f z (List.mem_of_getElem? h)
theorem afS:MtR X "list.index" (ail X.K):=by
 intro pins s σ H x xs v us Q I rx rxs h
 obtain ⟨a,ys,y,j,z,rfl,rfl,hs,fy,fys,hz,hzj,hno,q⟩:=h
 cases rx
 cases rxs with
 | cons ry rt =>
  rename_i uy ut
  cases rt
  obtain ⟨its,rv,⟨⟨cls,dd,data,sl⟩,n,ho,hc,hdn,hd⟩,hlen⟩:=I.list hs
  simp only at hc hd
  subst hc hd
  obtain ⟨u,hu,ru⟩:=rv.get hz
  obtain ⟨hjl,hje⟩:=List.getElem?_eq_some_iff.mp hu
  have hvl:=rv.length
  have hj:j < its.toArray.size:=by simpa using hjl
  have hsl:=sizeLine_eq
  refine call_meets PySem.F.slot_list_index ⟨_,ho,rfl⟩ PySem.F.entry_list_index (PySem.F.args_list_index_2 _ _)
   (SeqAt.list_indexAt a its.toArray n dd sl uy (eqU y) j hj (by omega) ?_ ?_) ⟨ho,fun u' hu'=>Jo ry fy rv fys u' (by simpa using hu'),?_⟩
  ·have e1:its.toArray[j] = u:=by simpa using hje
   rw [e1,Z0 ru (adN fys hz)]
   exact hzj
  ·intro m hm hmj
   have hml:m < its.length:=by simpa using hm
   have hmy:m < ys.length:=by omega
   have hy':ys[m]? = some ys[m]:=List.getElem?_eq_getElem hmy
   obtain ⟨u2,hu2,ru2⟩:=rv.get hy'
   obtain ⟨_,hme⟩:=List.getElem?_eq_some_iff.mp hu2
   have e1:its.toArray[m] = u2:=by simpa using hme
   rw [e1,Z0 ru2 (adN fys hy')]
   exact hno m _ hmj hy'
  ·exact ⟨.int (j:Nat),H,I.tok _,⟨_,rfl⟩,q⟩
end
theorem aba {prog:Program} {w:World} {A:Around} {E:Value->Shared->Prop} {s:Shared} {l:Addr} {items:Array Value} {Q:Value->Shared->Prop} (hl:s.heap.IsList l items)
  (h:∀ s₂:Shared,s₂ = { s with heap:=s.heap.push { cls:=.type "list_iterator",data:=.fields #[.ref l,.int 0 0] } } ->
   (s₂.heap.IsListIter s.heap.objs.size l 0/\s₂.heap.IsList l items)->l ≠ s.heap.objs.size->Q (.ref s.heap.objs.size) s₂):wpAny (model prog w) A (pyIter (.ref l)) Q E s:=by
 have hlt:l < s.heap.objs.size:=by obtain ⟨_,e,_⟩:=hl; exact Heap.lt_size e
 exact wpAny_pyIter_list hl (h _ rfl ⟨⟨_,Heap.get?_push_size _ rfl,rfl,rfl⟩,hl.push _⟩ (Nat.ne_of_lt hlt))
theorem R8 {prog:Program} {w:World} {A:Around} {bs:List Bool} {its:List Value} (e:its=bs.map Value.bool) :
  TruthOf prog w A (fun i v=>its.toArray[i]? = some v) (fun i=>bs.getD i false):=fun i v s Q E hv hq=>by
 have hv':its[i]? = some v:=by simpa using hv
 rw [e,List.getElem?_map] at hv'
 obtain ⟨b,hb,rfl⟩:=Option.map_eq_some_iff.mp hv'
 have hg:bs.getD i false=b:=by rw [List.getD_eq_getElem?_getD,hb] <;> rfl
 have hq':Q (bs.getD i false) s:=hq
 rw [hg] at hq'
 exact wpAny_truthy_bool hq'
theorem any_range:∀ bs:List Bool,(List.range bs.length).any (fun i=>bs.getD i false)=bs.any id
 | []=>rfl
 | b :: bs=>by
  rw [List.length_cons,List.range_succ_eq_map,List.any_cons,List.any_map,List.any_cons,<- any_range bs]
  all_goals rfl
theorem all_range:∀ bs:List Bool,(List.range bs.length).all (fun i=>bs.getD i false)=bs.all id
 | []=>rfl
 | b :: bs=>by
  rw [List.length_cons,List.range_succ_eq_map,List.all_cons,List.all_map,List.all_cons,<- all_range bs]
  all_goals rfl
section
variable {X:Cx}
def akS (K:PySem.W.Frag):List V->Hp->VK->Prop:=fun vs H Q=>∃ (a:Addr) (bs:List Bool),vs=[V.ref a]/\SqL K H a (bs.map V.bl)/\Q (.bl (bs.any id)) H
def akT (K:PySem.W.Frag):List V->Hp->VK->Prop:=fun vs H Q=>∃ (a:Addr) (bs:List Bool),vs=[V.ref a]/\SqL K H a (bs.map V.bl)/\Q (.bl (bs.all id)) H
theorem ai8 (hc:X.calm=true):Jy X (.builtin "any") (akS X.K):=by
 intro pins s σ H vs us Q I r h
 obtain ⟨a,bs,rfl,hs,q⟩:=h
 obtain ⟨its,rv,hl,_⟩:=I.list hs
 rw [Vals.afA r]
 have hb:=rv.bls
 refine call_any_walk (aba hl.isList fun s₂ e2 st hne=>?_)
 subst e2
 refine ⟨_,_,_,_,_,_,_,rfl,Walks.list (A:=X.A.in1) (I.ok.hd hc) _ a hne its.toArray,st,R8 hb,fun h' tk hk=>?_⟩
 refine ⟨.bl _,H,I.kept fun b o eo=>hk b o (fun hmem=>?_) (Heap.get?_push_of_some _ eo),?_,q⟩
 ·rcases List.mem_cons.mp hmem with e1 | hmem
  ·exact absurd (e1 ▸ Heap.lt_size eo) (Nat.lt_irrefl _)
  ·cases hmem
 ·show Value.bool _=Value.bool _
  rw [<- any_range,hb,List.size_toArray,List.length_map]
theorem ags (hc:X.calm=true):Jy X (.builtin "all") (akT X.K):=by
 intro pins s σ H vs us Q I r h
 obtain ⟨a,bs,rfl,hs,q⟩:=h
 obtain ⟨its,rv,hl,_⟩:=I.list hs
 rw [Vals.afA r]
 have hb:=rv.bls
 refine call_all_walk (aba hl.isList fun s₂ e2 st hne=>?_)
 subst e2
 refine ⟨_,_,_,_,_,_,_,rfl,Walks.list (A:=X.A.in1) (I.ok.hd hc) _ a hne its.toArray,st,R8 hb,fun h' tk hk=>?_⟩
 refine ⟨.bl _,H,I.kept fun b o eo=>hk b o (fun hmem=>?_) (Heap.get?_push_of_some _ eo),?_,q⟩
 ·rcases List.mem_cons.mp hmem with e1 | hmem
  ·exact absurd (e1 ▸ Heap.lt_size eo) (Nat.lt_irrefl _)
  ·cases hmem
 ·show Value.bool _=Value.bool _
  rw [<- all_range,hb,List.size_toArray,List.length_map]
end
mutual
inductive Dp (K:PySem.W.Frag) (H:Hp):V->PyData->Prop
 | non:Dp K H .non .none
 | bl (b:Bool):Dp K H (.bl b) (.bool b)
 | int (i:Int):Dp K H (.int i) (.int i)
 | str (x:Str):Dp K H (.str x) (.str x)
 | lst {a:Addr} {xs:List V} {ds:List PyData}:SqL K H a xs->W9 K H xs ds->Dp K H (.ref a) (.list ds)
 | tup {a:Addr} {xs:List V} {ds:List PyData}:SqT K H a xs->W9 K H xs ds->Dp K H (.ref a) (.tuple ds)
inductive W9 (K:PySem.W.Frag) (H:Hp):List V->List PyData->Prop
 | nil:W9 K H [] []
 | cons {v:V} {vs:List V} {d:PyData} {ds:List PyData}:Dp K H v d->W9 K H vs ds->W9 K H (v :: vs) (d :: ds)
end
section
variable {X:Cx} {pins:List (Addr × Obj)} {σ:St} {H:Hp} {s:Shared}
mutual
theorem Dp.reads (I:Inv X pins σ H s):∀ (d:PyData) (v:V) (u:Value),Dp X.K H v d->RelV v u->∃ as,Reads s.heap u d as
 | .none,_,_,h,r=>by
  cases h
  cases r
  exact ⟨_,Reads.none⟩
 | .bool b,_,_,h,r=>by
  cases h
  cases r
  exact ⟨_,Reads.bool b⟩
 | .int i,_,_,h,r=>by
  cases h
  obtain ⟨t,rfl⟩:=r
  exact ⟨_,Reads.int i t⟩
 | .str x,_,_,h,r=>by
  cases h
  obtain ⟨t,rfl⟩:=r
  exact ⟨_,Reads.str x t⟩
 | .list ds,_,_,h,r=>by
  cases h with
  | lst hs ha =>
   cases r
   obtain ⟨its,rv,⟨o,n,ho,hc,_,hd⟩,_⟩:=I.list hs
   obtain ⟨as,hr⟩:=Dp.readsAll I ds _ its ha rv
   exact ⟨_,Reads.list ho hc hd hr⟩
 | .tuple ds,_,_,h,r=>by
  cases h with
  | tup hs ha =>
   cases r
   obtain ⟨its,rv,⟨o,ho,hc,n,hd⟩,_⟩:=I.tuple hs
   obtain ⟨as,hr⟩:=Dp.readsAll I ds _ its ha rv
   exact ⟨_,Reads.tuple ho hc hd hr⟩
 | .dict _,_,_,h,_=>by cases h
theorem Dp.readsAll (I:Inv X pins σ H s):∀ (ds:List PyData) (vs:List V) (us:List Value),W9 X.K H vs ds->Vals vs us->∃ as,ReadsAll s.heap us ds as
 | [],_,_,h,r=>by
  cases h
  cases r
  exact ⟨_,ReadsAll.nil⟩
 | d :: ds,_,_,h,r=>by
  cases h with
  | cons h1 h2 =>
   cases r with
   | cons r1 r2 =>
    obtain ⟨as,q1⟩:=Dp.reads I d _ _ h1 r1
    obtain ⟨bs,q2⟩:=Dp.readsAll I ds _ _ h2 r2
    exact ⟨_,ReadsAll.cons q1 q2⟩
end
end
section
variable {X:Cx}
def ajC (K:PySem.W.Frag):R2:=fun x y H Q=>∃ d e,Dp K H x d/\Dp K H y e/\SeqAt.shaped d=true/\SeqAt.shaped e=true/\Q (.bl (PyData.eqv d e)) H
def ajA (K:PySem.W.Frag):R2:=fun x y H Q=>∃ d e,Dp K H x d/\Dp K H y e/\SeqAt.shaped d=true/\SeqAt.shaped e=true/\Q (.bl (!PyData.eqv d e)) H
theorem aiv (hu:X.A.units + 64 < cLine):OpR X (compareOp .Eq) (ajC X.K):=by
 intro pins s σ H x y v u Q I rx ry h
 obtain ⟨d,e,hd,he,sd,se,q⟩:=h
 obtain ⟨as,r1⟩:=Dp.reads I d x v hd rx
 obtain ⟨bs,r2⟩:=Dp.reads I e y u he ry
 exact SeqAt.compareEq_shaped r1 r2 sd se hu ⟨.bl _,H,I,rfl,q⟩
theorem afN (hu:X.A.units + 64 < cLine):OpR X (compareOp .NotEq) (ajA X.K):=by
 intro pins s σ H x y v u Q I rx ry h
 obtain ⟨d,e,hd,he,sd,se,q⟩:=h
 obtain ⟨as,r1⟩:=Dp.reads I d x v hd rx
 obtain ⟨bs,r2⟩:=Dp.reads I e y u he ry
 exact SeqAt.compareNe_shaped r1 r2 sd se hu ⟨.bl _,H,I,rfl,q⟩
end
abbrev agH (h:Heap) (c:Addr) (v:Option Value):Prop:=h.IsCell c v
def akJ (scope sc:Scope):Scope :=
 { scope with names:=scope.names.map fun (n,k)=>if (k == .free && sc.kind == .function && sc.names.lookup n == some .cell) then (n,.cell) else (n,k) }
def CK (cells:List (Str × Addr)):List (Str × NameKind)->List (Str × Addr)->List (Str × Addr)
 | [],acc=>acc
 | (n,k) :: r,acc=>if k == .free then CK cells r ((n,(cells.lookup n).getD 0) :: acc) else CK cells r acc
theorem Qu (env:Env) (f:Str × NameKind->List (Str × Addr)->Sem (ForInStep (List (Str × Addr))))
  (hf:∀ n k c,f (n,k) c=if k == .free then (do let a <- cellOf env n; pure (.yield ((n,a) :: c))) else pure (.yield c)) :
  ∀ (names:List (Str × NameKind)) (acc:List (Str × Addr)),(∀ y ∈ names,y.2 = .free->∃ c,env.cells.lookup y.1=some c)->forIn names acc f=pure (CK env.cells names acc)
 | [],acc,_=>by rw [List.forIn_nil]; rfl
 | (n,k) :: r,acc,h=>by
  rw [List.forIn_cons,hf]
  have ih:=fun acc=>Qu env f hf r acc fun y hy=>h y (List.mem_cons_of_mem _ hy)
  unfold CK
  by_cases hk:(k == NameKind.free)=true
  ·rw [if_pos hk,if_pos hk]
   obtain ⟨c,hc⟩:=h (n,k) List.mem_cons_self (by simpa using hk)
   have e:cellOf env n=pure c:=by unfold cellOf; rw [hc]
   rw [e]
   have e2:(env.cells.lookup n).getD 0=c:=by rw [hc]; rfl
   rw [e2]
   exact ih _
  ·rw [if_neg hk,if_neg hk]
   exact ih _
theorem ac5 {scope:Scope} {env:Env} (h:∀ y ∈ scope.names,y.2 = .free->∃ c,env.cells.lookup y.1=some c):closureFor scope env=pure (CK env.cells scope.names []):=by
 simp only [closureFor]
 rw [Qu env _ (fun n k c=>rfl) scope.names [] h]
 rfl
theorem mem_lookup {α:Type}:∀ {l:List (Str × α)} {n:Str} {c:α},(n,c) ∈ l->∃ c',l.lookup n=some c'
 | (k,v) :: r,n,c,h=>by
  rw [List.lookup_cons]
  cases hb:n == k with
  | true=>exact ⟨_,rfl⟩
  | false =>
   rcases List.mem_cons.mp h with e | h
   ·cases e; simp at hb
   ·exact mem_lookup h
theorem Ij {cells:List (Str × Addr)}:∀ {names:List (Str × NameKind)} {acc:List (Str × Addr)} {n:Str} {c:Addr},(n,c) ∈ CK cells names acc->(n,c) ∈ acc \/ ((n,.free) ∈ names/\c=(cells.lookup n).getD 0)
 | [],_,_,_,h=>.inl h
 | (m,k) :: r,acc,n,c,h=>by
  unfold CK at h
  split at h
  ·rename_i hk
   have hk:k = .free:=by simpa using hk
   rcases Ij h with h | ⟨h1,h2⟩
   ·rcases List.mem_cons.mp h with e | h
    ·cases e; exact .inr ⟨hk ▸ List.mem_cons_self,rfl⟩
    ·exact .inl h
   ·exact .inr ⟨List.mem_cons_of_mem _ h1,h2⟩
  ·rcases Ij h with h | ⟨h1,h2⟩
   ·exact .inl h
   ·exact .inr ⟨List.mem_cons_of_mem _ h1,h2⟩
theorem LQ {cells:List (Str × Addr)}:∀ {names:List (Str × NameKind)} {acc:List (Str × Addr)} {p:Str × Addr},p ∈ acc->p ∈ CK cells names acc
 | [],_,_,h=>h
 | (m,k) :: r,acc,p,h=>by
  unfold CK
  split
  ·exact LQ (List.mem_cons_of_mem _ h)
  ·exact LQ h
theorem LK {cells:List (Str × Addr)}:∀ {names:List (Str × NameKind)} {acc:List (Str × Addr)} {n:Str},(n,.free) ∈ names->(n,(cells.lookup n).getD 0) ∈ CK cells names acc
 | (m,k) :: r,acc,n,h=>by
  unfold CK
  rcases List.mem_cons.mp h with e | h
  ·cases e
   exact LQ List.mem_cons_self
  ·split
   ·exact LK h
   ·exact LK h
theorem Ju:∀ {names:List (Str × NameKind)} {h:Heap} {acc:List (Str × Addr)} {x:Str} {c:Addr},(x,c) ∈ cellsFrom h.objs.size names acc ->
  (x,c) ∈ acc \/ ((x,.cell) ∈ names/\h.objs.size <= c/\agH (pushCells h names) c none)
 | [],_,_,_,_,h=>.inl h
 | (n,k) :: r,h,acc,x,c,hm=>by
  unfold cellsFrom at hm
  unfold pushCells
  split at hm
  ·rename_i hk
   rw [if_pos hk]
   have hk:k = .cell:=by simpa using hk
   rw [<- Heap.size_push h { cls:=.type "cell",data:=.cell none }] at hm
   rcases Ju hm with hm | ⟨h1,h2,h3⟩
   ·rcases List.mem_cons.mp hm with e | hm
    ·cases e
     exact .inr ⟨hk ▸ List.mem_cons_self,Nat.le_refl _,_,pushCells_keeps r _ _ _ (Heap.get?_push_size _ rfl),rfl⟩
    ·exact .inl hm
   ·rw [Heap.size_push] at h2
    exact .inr ⟨List.mem_cons_of_mem _ h1,Nat.le_of_succ_le h2,h3⟩
  ·rename_i hk
   rw [if_neg hk]
   rcases Ju hm with hm | ⟨h1,h2,h3⟩
   ·exact .inl hm
   ·exact .inr ⟨List.mem_cons_of_mem _ h1,h2,h3⟩
theorem MN:∀ {names:List (Str × NameKind)} {n:Nat} {acc:List (Str × Addr)} {p:Str × Addr},p ∈ acc->p ∈ cellsFrom n names acc
 | [],_,_,_,h=>h
 | (m,k) :: r,n,acc,p,h=>by
  unfold cellsFrom
  split
  ·exact MN (List.mem_cons_of_mem _ h)
  ·exact MN h
theorem RL:∀ {names:List (Str × NameKind)} {n:Nat} {acc:List (Str × Addr)} {x:Str},(x,.cell) ∈ names->∃ c,(x,c) ∈ cellsFrom n names acc
 | (m,k) :: r,n,acc,x,h=>by
  unfold cellsFrom
  rcases List.mem_cons.mp h with e | h
  ·cases e
   exact ⟨n,MN List.mem_cons_self⟩
  ·split
   ·exact RL h
   ·exact RL h
theorem RK:∀ {names:List (Str × NameKind)} {h:Heap} {acc:List (Str × Addr)} {x y:Str} {c:Addr},(∀ p ∈ acc,p.2 < h.objs.size)->(∀ x y c,(x,c) ∈ acc->(y,c) ∈ acc->x=y) ->
  (x,c) ∈ cellsFrom h.objs.size names acc->(y,c) ∈ cellsFrom h.objs.size names acc->x=y
 | [],_,_,_,_,_,_,hi,h1,h2=>hi _ _ _ h1 h2
 | (n,k) :: r,h,acc,x,y,c,hl,hi,h1,h2=>by
  unfold cellsFrom at h1 h2
  split at h1
  ·rename_i hk
   rw [if_pos hk] at h2
   rw [<- Heap.size_push h { cls:=.type "cell",data:=.cell none }] at h1 h2
   refine RK (h:=h.push _) (fun p hp=>?_) (fun x y c a b=>?_) h1 h2
   ·rw [Heap.size_push]
    rcases List.mem_cons.mp hp with rfl | hp
    ·exact Nat.lt_succ_self _
    ·exact Nat.lt_succ_of_lt (hl p hp)
   ·rcases List.mem_cons.mp a with e | a <;> rcases List.mem_cons.mp b with e' | b
    ·cases e; cases e'; rfl
    ·cases e; exact absurd (hl _ b) (Nat.lt_irrefl _)
    ·cases e'; exact absurd (hl _ a) (Nat.lt_irrefl _)
    ·exact hi _ _ _ a b
  ·rename_i hk
   rw [if_neg hk] at h2
   exact RK hl hi h1 h2
theorem aa3 {M:Model} {A:Around} {E:Value->Shared->Prop} {s:Shared} {scope:Scope} {globals:Addr} {closure:List (Str × Addr)} {qual:Str} {func:Option Addr} {code:Value} {around:Env} {builtins:Addr} {Q:Env->Shared->Prop}
  (h:Q (newEnv scope s.heap.objs.size globals (cellsFrom (s.heap.objs.size + 1) scope.names closure) qual func code (some around) builtins)
   { s with heap:=pushCells (s.heap.push { cls:=.type "dict",data:=.dict #[] }) scope.names }) :
  wpAny M A (newFunctionEnv scope globals closure [] qual func code (some around) builtins) Q E s:=by
 simp only [newFunctionEnv,Option.isSome_some,if_true]
 refine wpAny_bind (wpAny_alloc ?_)
 refine wpAny_bind (wpAny_layCells _ (fun n k c=>rfl) scope.names closure _ _ ?_)
 rw [show ({ s with heap:=s.heap.push { cls:=.type "dict",data:=.dict #[] } }:Shared).heap.objs.size=s.heap.objs.size + 1 from Heap.size_push ..]
 rw [List.forIn_nil]
 exact wpAny_bind (wpAny_pure (wpAny_pure h))
theorem Lr {sc:Scope}:∀ {names:List (Str × NameKind)} {x:Str} {k:NameKind},
  (names.map fun (n,k)=>if (k == NameKind.free && sc.kind == .function && sc.names.lookup n == some .cell) then (n,NameKind.cell) else (n,k)).lookup x=some k ->
  ∃ k',names.lookup x=some k'/\(k=k' \/ (k' = .free/\k = .cell))
 | [],_,_,h=>by simp at h
 | (n,k₀) :: r,x,k,h=>by
  have ih:=@Lr sc r x k
  have h':List.lookup x ((if (k₀ == NameKind.free && sc.kind == .function && sc.names.lookup n == some .cell)=true then (n,NameKind.cell) else (n,k₀)) :: (r.map _))=some k:=h
  cases hx:x == n with
  | true =>
   simp only [List.lookup_cons,hx]
   by_cases hc:(k₀ == NameKind.free && sc.kind == .function && sc.names.lookup n == some .cell)=true
   ·rw [if_pos hc] at h'
    simp only [List.lookup_cons,hx] at h'
    cases h'
    simp only [Bool.and_eq_true,beq_iff_eq] at hc
    exact ⟨k₀,rfl,.inr ⟨hc.1.1,rfl⟩⟩
   ·rw [if_neg hc] at h'
    simp only [List.lookup_cons,hx] at h'
    cases h'
    exact ⟨_,rfl,.inl rfl⟩
  | false =>
   simp only [List.lookup_cons,hx]
   by_cases hc:(k₀ == NameKind.free && sc.kind == .function && sc.names.lookup n == some .cell)=true
   ·rw [if_pos hc] at h'
    simp only [List.lookup_cons,hx] at h'
    exact ih h'
   ·rw [if_neg hc] at h'
    simp only [List.lookup_cons,hx] at h'
    exact ih h'
structure abW (N:List Str) (sc scope:Scope) (own:List (Str × Nat)):Prop where
 kind:scope.kind = .function
 uniq:∀ y ∈ scope.names,scope.names.lookup y.1=some y.2
 ix:∀ p ∈ own,N[p.2]? = some p.1
 free:∀ y ∈ scope.names,y.2 = .free->sc.names.lookup y.1=some .cell \/ sc.names.lookup y.1=some .free
 own:∀ y ∈ scope.names,y.2 = .local \/ y.2 = .cell->y.1 ∈ own.map (·.1) \/ y.1 ∉ N
def wipe (σ:St):List Nat->St
 | []=>σ
 | v :: vs=>(wipe σ vs).set v none
theorem KD (σ:St):∀ vs:List Nat,(wipe σ vs).length=σ.length
 | []=>rfl
 | v :: vs=>by unfold wipe; rw [List.length_set,KD σ vs]
theorem QK {σ:St} {i:Nat} {x:V}:∀ {vs:List Nat},(wipe σ vs)[i]? = some (some x)->σ[i]? = some (some x)/\i ∉ vs
 | [],h=>⟨h,by simp⟩
 | v :: vs,h=>by
  unfold wipe at h
  by_cases hi:v=i
  ·subst hi
   by_cases hv:v < (wipe σ vs).length
   ·rw [List.getElem?_set_self hv] at h; cases h
   ·rw [List.getElem?_eq_none (by simpa using hv)] at h; cases h
  ·rw [List.getElem?_set_ne hi] at h
   obtain ⟨h1,h2⟩:=QK h
   exact ⟨h1,by simp only [List.mem_cons,not_or]; exact ⟨fun e=>hi e.symm,h2⟩⟩
abbrev Cx.blk (X:Cx) (s:Shared) (H:Hp) (scope:Scope) (cenv:Env) (fp:List Addr):Cx:={ X with s_0:=s,H_0:=H,env:=cenv,outer:=X.stack,ex:=fp,fn:=fun x=>scope.names.lookup x == some .cell,pn:=[],xe:=fun _ _=>False }
section
variable {X:Cx} {pins:List (Addr × Obj)} {σ:St} {H:Hp} {s:Shared}
theorem abL {scope:Scope} {own:List (Str × Nat)} {fp:List Addr} (I:Inv X pins σ H s) (ok:abW X.N X.env.scope scope own) (hN:X.N.Nodup) (hfp:∀ b ∈ fp,W8 X pins H b/\b < s.heap.objs.size) :
  Inv (X.blk s H scope (compEnvC scope (cellsFrom (s.heap.objs.size + 1) scope.names (CK X.env.cells scope.names [])) s.heap.objs.size X.env) fp) [] (wipe σ (own.map (·.2))) H { s with heap:=pushCells (s.heap.push { cls:=.type "dict",data:=.dict #[] }) scope.names }:=by
 have hfree:∀ y ∈ scope.names,y.2 = .free->∃ c,X.env.cells.lookup y.1=some c:=fun y hy e=>by
  rcases ok.free y hy e with k | k
  ·exact I.ok.has _ (.inl k)
  ·exact I.ok.has _ (.inr k)
 generalize abg:compEnvC scope (cellsFrom (s.heap.objs.size + 1) scope.names (CK X.env.cells scope.names [])) s.heap.objs.size X.env=cenv
 have kp:∀ b o,s.heap.get? b=some o->(pushCells (s.heap.push { cls:=.type "dict",data:=.dict #[] }) scope.names).get? b=some o:=fun b o e=>pushCells_keeps _ _ _ _ (Heap.get?_push_of_some _ e)
 have hL:cenv.locals=s.heap.objs.size:=by rw [<- abg]; rfl
 have hcl:cenv.cells=cellsFrom (s.heap.objs.size + 1) scope.names (CK X.env.cells scope.names []):=by rw [<- abg]; rfl
 have hsc:cenv.scope=akJ scope X.env.scope:=by rw [<- abg]; rfl
 rw [<- Heap.size_push s.heap { cls:=.type "dict",data:=.dict #[] }] at hcl
 have cm:∀ {y c},(y,c) ∈ CK X.env.cells scope.names []->X.env.cells.lookup y=some c/\c < s.heap.objs.size:=fun {y c} hm=>by
  rcases Ij hm with hm | ⟨h1,rfl⟩
  ·cases hm
  ·obtain ⟨c,hc⟩:=hfree _ h1 rfl
   rw [hc]
   obtain ⟨w,z⟩:=I.cell _ _ hc
   exact ⟨rfl,z.lt⟩
 have mem:∀ {y c},cenv.cells.lookup y=some c->(X.env.cells.lookup y=some c/\c < s.heap.objs.size) \/ (s.heap.objs.size + 1 <= c/\agH (pushCells (s.heap.push { cls:=.type "dict",data:=.dict #[] }) scope.names) c none):=fun {y c} e=>by
  rw [hcl] at e
  rcases Ju (PySem.mem_of_lookup e) with hm | ⟨_,h2,h3⟩
  ·exact .inl (cm hm)
  ·rw [Heap.size_push] at h2; exact .inr ⟨h2,h3⟩
 have look:∀ {y},scope.names.lookup y=some .free->∃ c,cenv.cells.lookup y=some c/\X.env.cells.lookup y=some c:=fun {y} hl=>by
  have hy:(y,NameKind.free) ∈ scope.names:=PySem.mem_of_lookup hl
  obtain ⟨c',e'⟩:=mem_lookup (MN (names:=scope.names) (n:=(s.heap.push { cls:=.type "dict",data:=.dict #[] }).objs.size) (LK (cells:=X.env.cells) (acc:=[]) hy))
  rw [<- hcl] at e'
  refine ⟨c',e',?_⟩
  rw [hcl] at e'
  rcases Ju (PySem.mem_of_lookup e') with hm | ⟨h1,_,_⟩
  ·exact (cm hm).1
  ·have:=ok.uniq _ h1
   rw [hl] at this; cases this
 have okB:(X.blk s H scope cenv fp).Ok:=by
  refine ⟨I.ok.mod,by show cenv.scope.kind=_; rw [hsc]; exact ok.kind,by show cenv.globals=_; rw [<- abg]; exact I.ok.glob,by show cenv.builtins=_; rw [<- abg]; exact I.ok.blt,by show s.heap.objs.size <= cenv.locals; rw [hL]; exact Nat.le_refl _,
   fun y z c e1 e2=>?_,fun y hy=>?_,fun y c z e=>?_,I.ok.hd,I.ok.frames,.inl rfl,fun b hb=>⟨?_,fun y c e z=>?_⟩,I.bs,Nat.le_trans I.ok.bsz I.sz,fun b o e hb=>?_,fun b hb z=>?_,I.stack,I.adn⟩
  ·have e1:cenv.cells.lookup y=some c:=e1
   have e2:cenv.cells.lookup z=some c:=e2
   rw [hcl] at e1 e2
   refine RK (fun p hp=>?_) (fun y z c a b=>I.ok.inj y z c (cm a).1 (cm b).1) (PySem.mem_of_lookup e1) (PySem.mem_of_lookup e2)
   rw [Heap.size_push]
   exact Nat.lt_succ_of_lt (cm (y:=p.1) (c:=p.2) hp).2
  ·show ∃ c,cenv.cells.lookup y=some c
   have key:∀ k,cenv.kindOf y=some k->(k = .cell \/ k = .free)->∃ c,cenv.cells.lookup y=some c:=fun k hk hk'=>by
    unfold Env.kindOf at hk
    rw [hsc] at hk
    obtain ⟨k',e,r⟩:=Lr hk
    have:k' = .cell \/ k' = .free:=by
     rcases r with rfl | ⟨rfl,_⟩
     ·exact hk'
     ·exact .inr rfl
    rcases this with rfl | rfl
    ·obtain ⟨c,hm⟩:=RL (n:=(s.heap.push { cls:=.type "dict",data:=.dict #[] }).objs.size) (acc:=CK X.env.cells scope.names []) (PySem.mem_of_lookup e)
     obtain ⟨c',e'⟩:=mem_lookup hm
     exact ⟨c',by rw [hcl]; exact e'⟩
    ·obtain ⟨c,h1,_⟩:=look e
     exact ⟨c,h1⟩
   rcases hy with hy | hy
   ·exact key _ hy (.inl rfl)
   ·exact key _ hy (.inr rfl)
  ·have z:(scope.names.lookup y == some NameKind.cell)=true:=z
   have z:scope.names.lookup y=some .cell:=by simpa using z
   have e:cenv.cells.lookup y=some c:=e
   rw [hcl] at e
   rcases Ju (PySem.mem_of_lookup e) with hm | ⟨_,h2,_⟩
   ·rcases Ij hm with hm | ⟨h1,_⟩
    ·cases hm
    ·have q:=ok.uniq _ h1
     rw [z] at q; cases q
   ·rw [Heap.size_push] at h2
    exact Nat.le_of_succ_le h2
  ·show b ≠ cenv.locals
   rw [hL]; exact Nat.ne_of_lt (hfp b hb).2
  ·have e:cenv.cells.lookup y=some c:=e
   rcases mem e with ⟨h1,_⟩ | ⟨h1,_⟩
   ·exact (hfp b hb).1.2.2.2.2.1 y c h1 z
   ·have h2:s.heap.objs.size + 1 <= b:=by rw [<- z]; exact h1
    exact absurd (Nat.lt_of_lt_of_le (hfp b hb).2 (Nat.le_of_succ_le h2)) (Nat.lt_irrefl _)
  ·rcases (hfp b hb).1.2.2.2.1 with z | z
   ·exact I.ok.afQ b o e z
   ·exact absurd (Nat.lt_of_lt_of_le (Heap.lt_size e) (Nat.le_trans I.ok.bsz z)) (Nat.lt_irrefl _)
  ·rcases List.mem_cons.mp (I.acb b z) with z | z
   ·exact (hfp b hb).1.2.1 z
   ·exact (hfp b hb).1.2.2.1 z
 refine ⟨okB,rfl,I.bare,Un.kept kp,⟨fun _=>none,?_,fun i y av e1 e2 e3=>?_⟩,fun y c e=>?_,?_,fun y c e=>?_,fun p hp=>?_,I.hok.kept kp,by rw [KD]; exact I.len⟩
 ·show Heap.Ns _ cenv.locals _
  rw [hL]
  exact Heap.Ns.keeps (Heap.Ns.new ..) fun b o e=>pushCells_keeps _ _ _ _ e
 ·obtain ⟨e2,hne⟩:=QK e2
  have hfr:scope.names.lookup y=some .free/\(cenv.kindOf y=some .cell \/ cenv.kindOf y=some .free):=by
   have key:∀ k,cenv.scope.names.lookup y=some k->k = .local \/ k = .cell \/ k = .free->scope.names.lookup y=some .free/\(cenv.kindOf y=some .cell \/ cenv.kindOf y=some .free):=fun k hk hk'=>by
    have hk0:=hk
    rw [hsc] at hk
    obtain ⟨k',e,r⟩:=Lr hk
    have no:¬ (k' = .local \/ k' = .cell):=fun hh=>by
     rcases ok.own _ (PySem.mem_of_lookup e) hh with e' | e'
     ·obtain ⟨p,hp,hpy⟩:=List.mem_map.mp e'
      have e3:=ok.ix p hp
      have:p.1=y:=hpy
      rw [this] at e3
      exact hne (List.mem_map.mpr ⟨p,hp,V4 hN e3 e1⟩)
     ·exact e' (List.mem_of_getElem? e1)
    rcases r with rfl | ⟨rfl,rfl⟩
    ·rcases hk' with rfl | rfl | rfl
     ·exact absurd (.inl rfl) no
     ·exact absurd (.inr rfl) no
     ·exact ⟨e,.inr hk0⟩
    ·exact ⟨e,.inl hk0⟩
   have e3:Vis cenv.scope y:=e3
   rcases e3 with e3 | e3 | e3
   ·exact key _ e3 (.inl rfl)
   ·exact key _ e3 (.inr (.inl rfl))
   ·exact key _ e3 (.inr (.inr rfl))
  obtain ⟨m,hn,hl⟩:=I.loc
  have ak4:Vis X.env.scope y:=(ok.free _ (PySem.mem_of_lookup hfr.1) rfl).elim (fun k=>.inr (.inl k)) (fun k=>.inr (.inr k))
  obtain ⟨w,r,q⟩:=hl i y av e1 e2 ak4
  refine ⟨w,r,.inr ⟨hfr.2,?_⟩⟩
  obtain ⟨c,h1,h2⟩:=look hfr.1
  rcases q with ⟨k,_⟩ | ⟨_,c',e',z⟩
  ·have k:X.env.scope.names.lookup y=some .local:=k
   rcases ok.free _ (PySem.mem_of_lookup hfr.1) rfl with k' | k' <;> rw [show X.env.scope.names.lookup y=_ from k'] at k <;> cases k
  ·rw [h2] at e'; cases e'
   exact ⟨c,h1,z.keeps kp⟩
 ·have e:cenv.cells.lookup y=some c:=e
  rcases mem e with ⟨h1,_⟩ | ⟨_,z⟩
  ·obtain ⟨w,z⟩:=I.cell y c h1
   exact ⟨w,z.keeps kp⟩
  ·exact ⟨_,z⟩
 ·show H cenv.locals=none
  rw [hL]; exact I.hok.fresh (Nat.le_refl _)
 ·have e:cenv.cells.lookup y=some c:=e
  rcases mem e with ⟨h1,_⟩ | ⟨h1,_⟩
  ·exact I.Jr y c h1
  ·exact I.hok.fresh (Nat.le_of_succ_le h1)
 ·exact absurd (show p ∈ ([]:List (Addr × Obj)) ++ [] from hp) (by simp)
theorem ajc {E:Value->Shared->Prop} {D:Addr} {xs:List V} {y:V} {v:Value} {Q:Value->Shared->Prop} (I:Inv X pins σ H s) (hD:H D=some (.lst xs)) (hz:xs.length < sizeLine) (r:RelV y v)
  (h:∀ s',Inv X pins σ (upd H D (.lst (xs ++ [y]))) s'->Q .none s'):wpAny (model X.prog X.w) X.A (call (.builtin "list.append") [.ref D,v]) Q E s:=by
 obtain ⟨hz',its,n,ri,e⟩:=I.hok D _ hD
 have hl:=ri.length
 refine append_at (hsz:=by rw [List.size_toArray]; omega) e fun h' sb ho'=>?_
 refine h { s with heap:=h' } (I.write (t':=s.toks) (by rw [hD]; trivial) (.inl rfl) (fun b u hb q=>(sb.2 b hb).trans q) ⟨_,ho'⟩ ⟨by rw [List.length_append]; exact hz,its ++ [v],n + 1,ri.append (.cons r .nil),?_⟩)
 rw [ho']
 simp
def PTs (X:Cx) (ifs:List Expr) (t:TT):Prop :=
 ∀ (pins:List (Addr × Obj)) (s:Shared) (σ:St) (H:Hp) (Q:Bool->Hp->Prop),Inv X pins σ H s->t σ H Q ->
  wpAny (model X.prog X.w) X.A (forIn ifs true fun c r=>if r=true then do let ok <- isTrue c X.env (eval c X.env); pure (ForInStep.yield ok) else pure (ForInStep.yield r)) (TP X pins σ Q) X.xe s
def ajk:TT:=fun _ H Q=>Q true H
theorem JM:PTs X [] ajk:=fun _ _ _ H _ I h=>wpAny_tests_nil ⟨H,I,h⟩
end
theorem aed {α:Type} {t:Sem α} {Q Q':α->Shared->Prop} {M:Model} {A:Around} {E:Value->Shared->Prop} {s:Shared} (h:wpAny M A t Q (fun _ _=>False) s) (hQ:∀ a s,Q a s->Q' a s):wpAny M A t Q' E s:=wpAny_mono h hQ fun _ _ z=>False.elim z
theorem aab {prog:Program} {w:World} {A:Around} {R:Result->Shared->Prop} {s:Shared} {elt target iter:Expr} {ifs:List Expr} {scope:Scope} {pos:Pos} {it acc:Value} {env:Env} (I:Nat->Shared->Prop)
  (turn:∀ n s,I n s->wpAny (model prog w) A (pyNext it) (fun r s₁=>match r with
   | none=>R (.ok .next) s₁
   | some v=>wpAny (model prog w) A (letOwnedTupleGo target it v) (fun _ s₁'=>wpAny (model prog w) A (assign target env v) (fun _ s₂ =>
     wpAny (model prog w) A (forIn ifs true fun c r=>if r=true then do let ok <- isTrue c env (eval c env); pure (ForInStep.yield ok) else pure (ForInStep.yield r)) (fun ok s₃ =>
      if ok=true then wpAny (model prog w) A (eval elt env) (fun x s₄ =>
       wpAny (model prog w) A (call (.builtin "list.append") [acc,x]) (fun _ s₅=>∃ m,m < n/\I m s₅) (notedBy (model prog w) A env fun e s'=>R (.error e) s') s₄) (notedBy (model prog w) A env fun e s'=>R (.error e) s') s₃
      else ∃ m,m < n/\I m s₃) (notedBy (model prog w) A env fun e s'=>R (.error e) s') s₂) (notedBy (model prog w) A env fun e s'=>R (.error e) s') s₁') (notedBy (model prog w) A env fun e s'=>R (.error e) s') s₁) (notedBy (model prog w) A env fun e s'=>R (.error e) s') s)
  (n:Nat) (h:I n s) :
  codeAny (model prog w) A (.compLoop (.ListComp elt [⟨target,iter,ifs,0⟩] scope pos) 0 it acc env) R s:=by
 refine codeAny_loop rfl I (fun n s hI=>?_) n h
 show wpAny _ A ((compTurn (.ListComp elt [⟨target,iter,ifs,0⟩] scope pos) 0 it acc env).onRaise (fun x=>do noteFrame x env; theTreesLotGoes x)) _ _ s
 refine wpAny_noted ?_
 rw [compTurn_list]
 refine wpAny_bind (wpAny_standAt (wpAny_bind (wpAny_mono (turn n s hI) (fun r s₁ h₁=>?_) fun _ _ h'=>h')))
 cases r with
 | none=>exact wpAny_pure h₁
 | some v =>
  refine wpAny_bind (wpAny_mono h₁ (fun _ s₁' h₁'=>?_) fun _ _ h'=>h')
  refine wpAny_bind (wpAny_mono h₁' (fun _ s₂ h₂=>wpAny_bind (wpAny_mono h₂ (fun ok s₃ h₃=>?_) fun _ _ h'=>h')) fun _ _ h'=>h')
  cases ok with
  | false=>exact wpAny_pure ⟨rfl,h₃⟩
  | true =>
   exact wpAny_bind (wpAny_bind (wpAny_mono h₃ (fun x s₄ h₄=>wpAny_bind (wpAny_mono h₄ (fun _ s₅ h₅=>wpAny_pure (wpAny_pure ⟨rfl,h₅⟩)) fun _ _ h'=>h')) fun _ _ h'=>h'))
section
variable {X:Cx}
def tLc (wi:TI) (g:TG) (tt:TT) (te:TE) (vs:List Nat):TE:=fun σ H Q=>wi σ H fun J H1=>∀ D,H1 D=none->∃ W:Nat->Nat->Hp->Prop,(∃ m,W 0 m (upd H1 D (.lst [])))/\∀ i m H,W i m H ->
 (J.stop i H/\Q (.ref D) H) \/ (J.go i H/\∃ Nx:Hp->Prop,(∀ H',Nx H'->∃ m',m' < m/\W (i + 1) m' H')/\∀ x H',J.yld i H x H'->g x (wipe σ vs) H' fun σ2 H2=>wipe σ2 vs=wipe σ vs/\tt σ2 H2 fun b H3 =>
  if b=true then te σ2 H3 fun y H4=>∃ acc,H4 D=some (.lst acc)/\acc.length < sizeLine/\Nx (upd H4 D (.lst (acc ++ [y]))) else Nx H3)
theorem adE {pins:List (Addr × Obj)} {s:Shared} {σ:St} {H:Hp} {Q:VK} {elt tg iter:Expr} {ifs:List Expr} {scope:Scope} {own:List (Str × Nat)} {pos pos':Pos} {wi:TI} {g:TG} {tt:TT} {te:TE} {use:Option (Value->Sem Unit)} {Qf:Value->Shared->Prop}
  (hc:X.calm=true) (hN:X.N.Nodup) (I:Inv X pins σ H s) (hi:PI X tg iter wi) (ok:abW X.N X.env.scope scope own)
  (hg:∀ (s:Shared) (H:Hp) (C:Addr) (cl:List (Str × Addr)) (fp:List Addr),PG (X.blk s H scope (compEnvC scope cl C X.env) fp) tg g) (ht:∀ (s:Shared) (H:Hp) (C:Addr) (cl:List (Str × Addr)) (fp:List Addr),PTs (X.blk s H scope (compEnvC scope cl C X.env) fp) ifs tt)
  (he:∀ (s:Shared) (H:Hp) (C:Addr) (cl:List (Str × Addr)) (fp:List Addr),PE (X.blk s H scope (compEnvC scope cl C X.env) fp) elt te) (hs:∀ x,foldedSetIterable iter X.env x=pure x)
  (h:tLc wi g tt te (own.map (·.2)) σ H Q)
  (hRR:∀ D C s' m H',Inv X pins σ H' s'->Q (.ref D) H'->s'.heap.Ns C m->W8 X pins H' C->compPost (model X.prog X.w) X.A X.xe use Qf (.ref D) C (.ok .next) s') :
  wpAny (model X.prog X.w) X.A (comprehension (.ListComp elt [⟨tg,iter,ifs,0⟩] scope pos) scope X.env pos' (newList []) false (eval iter X.env) use) Qf X.xe s:=by
 have hfree:∀ y ∈ scope.names,y.2 = .free->∃ c,X.env.cells.lookup y.1=some c:=fun y hy e=>by
  rcases ok.free y hy e with k | k
  ·exact I.ok.has _ (.inl k)
  ·exact I.ok.has _ (.inr k)
 refine wpAny_comprehension_free (use:=use) rfl hs (ac5 hfree) ok.kind (fun y hy e=>by rw [ok.uniq y hy,e])
  (thn (hi pins s σ H _ I h) fun xv s1 hx=>thn hx fun itv s2 h2=>?_)
 obtain ⟨it,fp,tn,J,H2,e,I2,T,st2,f2,q⟩:=h2
 subst e
 refine wpAny_newObj_type (aa3 ?_) (by show 0 <= sizeLine; decide)
 generalize hD:s2.heap.objs.size=D
 have hDn:H2 D=none:=I2.hok.fresh (Nat.le_of_eq hD)
 obtain ⟨W,⟨m0,w0⟩,turn⟩:=q D hDn
 generalize hs3:({ s2 with heap:=s2.heap.push { cls:=.type "list",data:=.seq ([]:List Value).toArray } }:Shared)=s3
 have I3:Inv X pins σ (upd H2 D (.lst [])) s3:=by
  rw [<- hs3]
  refine I2.laid (t':=s2.toks) (fun b o e=>Heap.get?_push_of_some _ e) (Nat.le_of_eq hD) ⟨Nat.zero_le _,[],0,.nil,?_⟩
  rw [<- hD]
  exact Heap.get?_push_size _ rfl
 have h3:s3.heap=s2.heap.push { cls:=.type "list",data:=.seq ([]:List Value).toArray }:=by rw [<- hs3]
 have sz:∀ b ∈ fp,b < s2.heap.objs.size:=fun b hb=>by
  obtain ⟨o,e,_⟩:=T.obj _ _ st2 b hb
  exact Heap.lt_size e
 have f3:∀ b ∈ fp,W8 X pins (upd H2 D (.lst [])) b/\b < s3.heap.objs.size:=fun b hb=>by
  have hlt:=sz b hb
  refine ⟨⟨?_,(f2 b hb).2⟩,by rw [h3,Heap.size_push]; exact Nat.lt_succ_of_lt hlt⟩
  rw [Ah (by rw [<- hD]; exact Nat.ne_of_lt hlt)]
  exact (f2 b hb).1
 have st3:tn 0 s3.heap:=T.keep _ _ _ st2 fun b _ o e=>by rw [h3]; exact Heap.get?_push_of_some _ e
 have I4:=abL I3 ok hN f3
 have pg:=hg s3 (upd H2 D (.lst [])) s3.heap.objs.size (cellsFrom (s3.heap.objs.size + 1) scope.names (CK X.env.cells scope.names [])) fp
 have pt:=ht s3 (upd H2 D (.lst [])) s3.heap.objs.size (cellsFrom (s3.heap.objs.size + 1) scope.names (CK X.env.cells scope.names [])) fp
 have pe:=he s3 (upd H2 D (.lst [])) s3.heap.objs.size (cellsFrom (s3.heap.objs.size + 1) scope.names (CK X.env.cells scope.names [])) fp
 show codeAny _ _ (.compStart (.ListComp elt [⟨tg,iter,ifs,0⟩] scope pos) 0 (.ref it) (.ref D) (compEnvC scope (cellsFrom (s3.heap.objs.size + 1) scope.names (CK X.env.cells scope.names [])) s3.heap.objs.size X.env)) (compPost (model X.prog X.w) X.A X.xe use Qf (.ref D) s3.heap.objs.size) { s3 with heap:=pushCells (s3.heap.push { cls:=.type "dict",data:=.dict #[] }) scope.names }
 have nfp:∀ b ∈ fp,(upd H2 D (.lst [])) b=none:=fun b hb=>(f3 b hb).1.1
 generalize hce:compEnvC scope (cellsFrom (s3.heap.objs.size + 1) scope.names (CK X.env.cells scope.names [])) s3.heap.objs.size X.env=ce at I4 pg pt pe ⊢
 have cL:ce.locals=s3.heap.objs.size:=by subst hce; rfl
 generalize hH3:upd H2 D (.lst [])=H3 at I3 I4 pg pt pe w0 nfp f3
 generalize hs4:({ s3 with heap:=pushCells (s3.heap.push { cls:=.type "dict",data:=.dict #[] }) scope.names }:Shared)=s4 at I4 ⊢
 have st4:tn 0 s4.heap:=T.keep _ _ _ st3 fun b _ o e=>by rw [<- hs4]; exact pushCells_keeps _ _ _ _ (Heap.get?_push_of_some _ e)
 have stat:∀ {σ':St} {H':Hp} {s':Shared},Inv (X.blk s3 H3 scope ce fp) [] σ' H' s'->(∀ b ∈ fp,H' b=none)->∀ b ∈ fp,W8 (X.blk s3 H3 scope ce fp) [] H' b:=fun {σ' H' s'} I' hn b hb =>
  ⟨hn b hb,(I'.ok.exf b hb).1,I'.ok.agn b hb,.inl hb,fun x c e=>(I'.ok.exf b hb).2 x c e,fun p hp=>absurd (show p ∈ ([]:List (Addr × Obj)) ++ [] from hp) (by simp)⟩
 have loop:codeAny (model X.prog X.w) X.A (.compLoop (.ListComp elt [⟨tg,iter,ifs,0⟩] scope pos) 0 (.ref it) (.ref D) ce) (compPost (model X.prog X.w) X.A X.xe use Qf (.ref D) s3.heap.objs.size) s4:=by
  refine aab (fun n s'=>∃ i H',Inv (X.blk s3 H3 scope ce fp) [] (wipe σ (own.map (·.2))) H' s'/\tn i s'.heap/\(∀ b ∈ fp,H' b=none)/\W i n H') ?_ m0 ⟨0,H3,I4,st4,nfp,w0⟩
  rintro n s5 ⟨i,H5,I5,st5,n5,w5⟩
  rcases turn i n H5 w5 with ⟨stop,qq⟩ | ⟨go,Nx,hNx,step⟩
  ·have td:=T.done (X.blk s3 H3 scope ce fp) rfl rfl rfl hc i [] s5 _ H5 (fun _ _=>False) I5 (stat I5 n5) st5 stop
   refine aed td fun r s6 ⟨hr,I6⟩=>?_
   subst hr
   have I7:Inv X pins σ H5 s6:=I3.call' (ch:=fp) I6.os I6.base I6.hok I6.bare fun b hb=>⟨(f3 b hb).1.2.2.2.1,(f3 b hb).1.2.1,(f3 b hb).1.2.2.2.2.1,(f3 b hb).1.2.2.2.2.2⟩
   have nC:H5 s3.heap.objs.size=none:=by
    have z:H5 ce.locals=none:=I6.free
    rw [cL] at z
    exact z
   obtain ⟨m,hn,_⟩:=I6.loc
   have hn:s6.heap.Ns ce.locals m:=hn
   rw [cL] at hn
   exact hRR D s3.heap.objs.size s6 m H5 I7 qq hn (I3.acV (Nat.le_refl _) nC)
  ·have ti:=T.item (X.blk s3 H3 scope ce fp) rfl rfl rfl hc i [] s5 _ H5 (fun _ _=>False) I5 (stat I5 n5) st5 go
   refine aed ti fun r s6 ⟨u,hr,h6⟩=>?_
   subst hr
   refine aed h6 fun _ s7 ⟨x,H7,I7,r7,y7,st7,n7⟩=>?_
   have I7':=I7.pinned (stat I7 n7) (T.obj _ _ st7)
   refine aed (pg _ s7 _ H7 x u _ I7' r7 (step x H7 y7)) fun _ s8 ⟨σ8,H8,I8,hw8,q8⟩=>?_
   refine aed (pt _ s8 σ8 H8 _ I8 q8) fun b s9 ⟨H9,I9,q9⟩=>?_
   have fin:∀ {s':Shared} {H':Hp},Inv (X.blk s3 H3 scope ce fp) ([] ++ VJ fp s7.heap) σ8 H' s'->Nx H'->∃ m,m < n/\∃ i H',Inv (X.blk s3 H3 scope ce fp) [] (wipe σ (own.map (·.2))) H' s'/\tn i s'.heap/\(∀ b ∈ fp,H' b=none)/\W i m H':=fun {s' H'} I' nx=>by
    obtain ⟨m',hm,w'⟩:=hNx H' nx
    have ajD:∀ b ∈ fp,∀ o,s7.heap.get? b=some o->s'.heap.get? b=some o/\H' b=none:=fun b hb o e =>
     let z:=I'.pin (b,o) (List.mem_append_right _ (List.mem_append_right _ (Oj hb e)))
     ⟨z.1,z.2.1⟩
    have hl:(wipe σ (own.map (·.2))).length=σ8.length:=by rw [<- hw8,KD]
    refine ⟨m',hm,i + 1,H',(I'.O9 (pins:=[])).weak hl (fun j v e=>?_),T.keep _ _ _ st7 fun b hb o e=>(ajD b hb o e).1,fun b hb=>?_,w'⟩
    ·rw [<- hw8] at e
     exact (QK e).1
    ·obtain ⟨o,e,_⟩:=T.obj _ _ st7 b hb
     exact (ajD b hb o e).2
   cases b with
   | false =>
    simp only [Bool.false_eq_true,if_false] at q9 ⊢
    exact fin I9 q9
   | true =>
    simp only [if_true] at q9 ⊢
    refine aed (pe _ s9 σ8 H9 _ I9 q9) fun z s10 ⟨yv,H10,I10,r10,acc,alj,ak2,nx⟩=>?_
    exact ajc (X:=X.blk s3 H3 scope ce fp) I10 alj ak2 r10 fun s11 I11=>fin I11 nx
 exact codeAny_compStart_list loop (T.self X.A 0 _ _ _ st4 loop)
theorem aaX {elt tg iter:Expr} {ifs:List Expr} {scope:Scope} {own:List (Str × Nat)} {pos:Pos} {wi:TI} {g:TG} {tt:TT} {te:TE} (hc:X.calm=true) (hN:X.N.Nodup) (hi:PI X tg iter wi) (ok:abW X.N X.env.scope scope own)
  (hg:∀ (s:Shared) (H:Hp) (C:Addr) (cl:List (Str × Addr)) (fp:List Addr),PG (X.blk s H scope (compEnvC scope cl C X.env) fp) tg g) (ht:∀ (s:Shared) (H:Hp) (C:Addr) (cl:List (Str × Addr)) (fp:List Addr),PTs (X.blk s H scope (compEnvC scope cl C X.env) fp) ifs tt)
  (he:∀ (s:Shared) (H:Hp) (C:Addr) (cl:List (Str × Addr)) (fp:List Addr),PE (X.blk s H scope (compEnvC scope cl C X.env) fp) elt te) (hs:∀ x,foldedSetIterable iter X.env x=pure x:=by intro _; rfl) :
  PE X (.ListComp elt [⟨tg,iter,ifs,0⟩] scope pos) (tLc wi g tt te (own.map (·.2))):=by
 intro pins s σ H Q I h
 rw [eval_ListComp]
 refine adE hc hN I hi ok hg ht he hs h fun D C s' m H' I' q hn f=>⟨m,hn,fun h'' sb=>?_⟩
 obtain ⟨f0,f1,f2,f3,f4,f5⟩:=f
 exact ⟨.ref D,H',I'.turned (t':=s'.toks) (fun b o hb e=>(sb.2 b hb).trans e) f0 f1 f3 f4 f5,rfl,q⟩
theorem aaV {i:Nat} {y:Str} {py:Pos} {elt tg iter:Expr} {ifs:List Expr} {scope:Scope} {own:List (Str × Nat)} {pos spos:Pos} {wi:TI} {g:TG} {tt:TT} {te:TE} (hc:X.calm=true) (hN:X.N.Nodup) (hy:X.N[i]? = some y) (hyl:X.env.scope.names.lookup y=some .local)
  (hsw:swapsWith (.ListComp elt [⟨tg,iter,ifs,0⟩] scope pos) (some (.Name y py)) spos.line X.env=pure true) (hi:PI X tg iter wi) (ok:abW X.N X.env.scope scope own)
  (hg:∀ (s:Shared) (H:Hp) (C:Addr) (cl:List (Str × Addr)) (fp:List Addr),PG (X.blk s H scope (compEnvC scope cl C X.env) fp) tg g) (ht:∀ (s:Shared) (H:Hp) (C:Addr) (cl:List (Str × Addr)) (fp:List Addr),PTs (X.blk s H scope (compEnvC scope cl C X.env) fp) ifs tt)
  (he:∀ (s:Shared) (H:Hp) (C:Addr) (cl:List (Str × Addr)) (fp:List Addr),PE (X.blk s H scope (compEnvC scope cl C X.env) fp) elt te) (hs:∀ x,foldedSetIterable iter X.env x=pure x:=by intro _; rfl) :
  PS X (.Assign [.Name y py] (.ListComp elt [⟨tg,iter,ifs,0⟩] scope pos) spos) (aia (tLc wi g tt te (own.map (·.2))) (YL i)):=by
 intro pins s σ H D I h
 rw [exec_Assign_Name_used _ _ _ _ hsw]
 refine wpAny_bind (wpAny_standAt (wpAny_bind ?_))
 show wpAny _ X.A (do let _ <- comprehension (.ListComp elt [⟨tg,iter,ifs,0⟩] scope pos) scope X.env (firstIterPos [⟨tg,iter,ifs,0⟩] pos) (newList []) false (eval iter X.env) (some (assign (.Name y py) X.env))) _ _ s
 have h:tLc wi g tt te (own.map (·.2)) σ H (fun x H1=>YL i x σ H1 D.nx):=h
 refine wpAny_bind (thn (adE (Qf:=fun _ s'=>SP X pins D .next s') hc hN I hi ok hg ht he hs h fun L C s' m H' I' q hn f=>?_) fun _ s' hq=>wpAny_pure (wpAny_pure hq))
 show wpAny _ _ (assign (.Name y py) X.env (.ref L)) _ _ _
 refine wpAny_assign_Name (X8 (v:=V.ref L) I' hN hy (.inl hyl) rfl (fun s2 I2 ⟨a,sb,ha⟩=>?_) (.inr hyl))
 obtain ⟨f0,f1,f2,f3,f4,f5⟩:=f
 have haC:C ≠ a:=by
  rcases ha with z | z
  ·rw [z]; exact f1
  ·exact fun e=>f4 y a z e.symm
 refine ⟨m,hn.sameBut sb haC,fun h3 sb3=>?_⟩
 exact ⟨_,H',I2.turned (t':=s2.toks) (fun b o hb e=>(sb3.2 b hb).trans e) f0 f1 f3 f4 f5,q⟩
theorem adm {elt:Expr} {gs:List Comprehension} {scope:Scope} {pos py:Pos} {y:Str} {l:Nat} {env:Env} (hk:env.scope.kind = .function) (hy:env.scope.names.lookup y=some .local) (hl:(py.line == pos.line)=true)
  (ha:(scope.names.any fun (n,k)=>n == y && (k == .local || k == .cell))=false):swapsWith (.ListComp elt gs scope pos) (some (.Name y py)) l env=pure true:=by
 have ky:env.kindOf y=some .local:=hy
 have hb:env.blockKind = .function:=by unfold Env.blockKind; rw [hk]; rfl
 unfold swapsWith
 simp only [hb,ky,ha,Expr.pos,hl]
 rfl
end
theorem ZS {K:PySem.W.Frag} {a:Addr} {xs:List V} {g:TG} {tt:TT} {te:TE} {vs:List Nat} {σ:St} {H1:Hp} {D:Addr} {Qd:Hp->Prop} (Pv:Nat->Hp->Prop) (h0:Pv 0 (upd H1 D (.lst []))) (hl:∀ i H,i <= xs.length->Pv i H->SqL K H a xs)
  (hs:∀ i x H,xs[i]? = some x->Pv i H->g x (wipe σ vs) H fun σ2 H2=>wipe σ2 vs=wipe σ vs/\tt σ2 H2 fun b H3 =>
   if b=true then te σ2 H3 fun y H4=>∃ acc,H4 D=some (.lst acc)/\acc.length < sizeLine/\Pv (i + 1) (upd H4 D (.lst (acc ++ [y]))) else Pv (i + 1) H3) (hd:∀ H,Pv xs.length H->Qd H) :
  ∃ W:Nat->Nat->Hp->Prop,(∃ m,W 0 m (upd H1 D (.lst [])))/\∀ i m H,W i m H ->
   ((Itl K a).stop i H/\Qd H) \/ ((Itl K a).go i H/\∃ Nx:Hp->Prop,(∀ H',Nx H'->∃ m',m' < m/\W (i + 1) m' H')/\∀ x H',(Itl K a).yld i H x H'->g x (wipe σ vs) H' fun σ2 H2=>wipe σ2 vs=wipe σ vs/\tt σ2 H2 fun b H3 =>
    if b=true then te σ2 H3 fun y H4=>∃ acc,H4 D=some (.lst acc)/\acc.length < sizeLine/\Nx (upd H4 D (.lst (acc ++ [y]))) else Nx H3):=by
 refine ⟨fun i m H=>m=xs.length - i/\i <= xs.length/\Pv i H,⟨xs.length,by simp,Nat.zero_le _,h0⟩,?_⟩
 rintro i m H ⟨rfl,hi,p⟩
 have q:=hl i H hi p
 by_cases hlt:i < xs.length
 ·refine .inr ⟨⟨xs,xs[i],q,by simp [hlt]⟩,Pv (i + 1),fun H' p'=>⟨xs.length - (i + 1),by omega,rfl,hlt,p'⟩,fun x H' y=>?_⟩
  obtain ⟨e,y⟩:=y
  subst e
  exact hs i x _ (y xs q) p
 ·have e:i=xs.length:=by omega
  subst e
  exact .inl ⟨⟨xs,q,Nat.le_refl _⟩,hd H p⟩
theorem aiD {K:PySem.W.Frag} {a:Addr} {xs:List V} {g:TG} {tt:TT} {te:TE} {vs:List Nat} {σ:St} {H1:Hp} {D:Addr} {Qd:Hp->Prop} (Pv:Nat->Hp->Prop) (h0:Pv 0 (upd H1 D (.lst []))) (hl:∀ i H,i <= xs.length->Pv i H->SqT K H a xs)
  (hs:∀ i x H,xs[i]? = some x->Pv i H->g x (wipe σ vs) H fun σ2 H2=>wipe σ2 vs=wipe σ vs/\tt σ2 H2 fun b H3 =>
   if b=true then te σ2 H3 fun y H4=>∃ acc,H4 D=some (.lst acc)/\acc.length < sizeLine/\Pv (i + 1) (upd H4 D (.lst (acc ++ [y]))) else Pv (i + 1) H3) (hd:∀ H,Pv xs.length H->Qd H) :
  ∃ W:Nat->Nat->Hp->Prop,(∃ m,W 0 m (upd H1 D (.lst [])))/\∀ i m H,W i m H ->
   ((Itt K a).stop i H/\Qd H) \/ ((Itt K a).go i H/\∃ Nx:Hp->Prop,(∀ H',Nx H'->∃ m',m' < m/\W (i + 1) m' H')/\∀ x H',(Itt K a).yld i H x H'->g x (wipe σ vs) H' fun σ2 H2=>wipe σ2 vs=wipe σ vs/\tt σ2 H2 fun b H3 =>
    if b=true then te σ2 H3 fun y H4=>∃ acc,H4 D=some (.lst acc)/\acc.length < sizeLine/\Nx (upd H4 D (.lst (acc ++ [y]))) else Nx H3):=by
 refine ⟨fun i m H=>m=xs.length - i/\i <= xs.length/\Pv i H,⟨xs.length,by simp,Nat.zero_le _,h0⟩,?_⟩
 rintro i m H ⟨rfl,hi,p⟩
 have q:=hl i H hi p
 by_cases hlt:i < xs.length
 ·refine .inr ⟨⟨xs,xs[i],q,by simp [hlt]⟩,Pv (i + 1),fun H' p'=>⟨xs.length - (i + 1),by omega,rfl,hlt,p'⟩,fun x H' y=>?_⟩
  obtain ⟨e,y⟩:=y
  subst e
  exact hs i x _ (y xs q) p
 ·have e:i=xs.length:=by omega
  subst e
  exact .inl ⟨⟨xs,q,Nat.le_refl _⟩,hd H p⟩
def aao (N:List Str) (sc scope:Scope) (own:List (Str × Nat)):Bool :=
 (match scope.kind with | .function=>true | _=>false) && (scope.names.all fun y=>decide (scope.names.lookup y.1=some y.2)) && (own.all fun p=>decide (N[p.2]? = some p.1)) &&
  (scope.names.all fun y=>match y.2 with
   | .free=>(match sc.names.lookup y.1 with | some .cell=>true | some .free=>true | _=>false)
   | .local=>decide (y.1 ∈ own.map (·.1)) || decide (y.1 ∉ N)
   | .cell=>decide (y.1 ∈ own.map (·.1)) || decide (y.1 ∉ N)
   | _=>true)
theorem HF {N:List Str} {sc scope:Scope} {own:List (Str × Nat)} (h:aao N sc scope own=true):abW N sc scope own:=by
 unfold aao at h
 simp only [Bool.and_eq_true,List.all_eq_true,decide_eq_true_eq] at h
 obtain ⟨⟨⟨h1,h2⟩,h3⟩,h4⟩:=h
 refine ⟨?_,h2,h3,fun y hy e=>?_,fun y hy e=>?_⟩
 ·split at h1
  ·assumption
  ·cases h1
 ·have q:=h4 y hy
  simp only [e] at q
  split at q <;> first | exact .inl (by assumption) | exact .inr (by assumption) | cases q
 ·have q:=h4 y hy
  rcases e with e | e <;> (simp only [e,Bool.or_eq_true,decide_eq_true_eq] at q; exact q)
section
variable {κ:Type} [DecidableEq κ]
def Ez (kvs:List (κ × V)) (k:κ):Option V:=(kvs.find? fun kv=>decide (kv.1=k)).map (·.2)
def putK (kvs:List (κ × V)) (k:κ) (v:V):List (κ × V) :=
 if (kvs.any fun kv=>decide (kv.1=k))=true then kvs.map (fun kv=>if kv.1=k then (kv.1,v) else kv) else kvs ++ [(k,v)]
theorem Di {p:κ × V} {r:List (κ × V)} {k:κ} (e:p.1=k):Ez (p :: r) k=some p.2:=by simp [Ez,List.find?_cons,e]
theorem Dj {p:κ × V} {r:List (κ × V)} {k:κ} (e:¬ p.1=k):Ez (p :: r) k=Ez r k:=by simp [Ez,List.find?_cons,e]
theorem IK (k:κ):∀ kvs:List (κ × V),(kvs.any fun kv=>decide (kv.1=k))=(Ez kvs k).isSome
 | []=>rfl
 | p :: r=>by
  rw [List.any_cons]
  by_cases e:p.1=k
  ·simp only [Di e,decide_eq_true e,Bool.true_or,Option.isSome_some]
  ·rw [Dj e,decide_eq_false e,Bool.false_or]; exact IK k r
theorem aav (k j:κ) (y:V):∀ kvs:List (κ × V),Ez (kvs.map fun kv=>if kv.1=k then (kv.1,y) else kv) j=(Ez kvs j).map fun x=>if j=k then y else x
 | []=>rfl
 | p :: r=>by
  have ih:=aav k j y r
  rw [List.map_cons]
  by_cases h:p.1=k
  ·rw [if_pos h]
   by_cases e:p.1=j
   ·rw [Di (p:=(p.1,y)) e,Di e,Option.map_some,if_pos (e.symm.trans h)]
   ·rw [Dj (p:=(p.1,y)) e,Dj e,ih]
  ·rw [if_neg h]
   by_cases e:p.1=j
   ·rw [Di (p:=p) e,Di e,Option.map_some,if_neg (fun z=>h (e.trans z))]
   ·rw [Dj (p:=p) e,Dj e,ih]
theorem XN (k j:κ) (y:V):∀ kvs:List (κ × V),Ez kvs k=none->Ez (kvs ++ [(k,y)]) j=if j=k then some y else Ez kvs j
 | [],_=>by
  by_cases e:k=j
  ·rw [if_pos e.symm]; exact Di (p:=(k,y)) e
  ·rw [if_neg (fun z=>e z.symm)]; exact Dj (p:=(k,y)) e
 | p :: r,hn=>by
  rw [List.cons_append]
  have hk:¬ p.1=k:=fun z=>by rw [Di z] at hn; cases hn
  rw [Dj hk] at hn
  have ih:=XN k j y r hn
  by_cases e:p.1=j
  ·rw [Di e,Di e,if_neg (fun z=>hk (e.trans z))]
  ·rw [Dj e,Dj e,ih]
theorem afi (kvs:List (κ × V)) (k j:κ) (y:V):Ez (putK kvs k y) j=if j=k then some y else Ez kvs j:=by
 unfold putK
 by_cases a:(kvs.any fun kv=>decide (kv.1=k))=true
 ·rw [if_pos a,aav]
  rw [IK] at a
  by_cases e:j=k
  ·obtain ⟨x,hx⟩:=Option.isSome_iff_exists.mp a
   rw [if_pos e,e,hx,Option.map_some,if_pos rfl]
  ·rw [if_neg e]
   cases Ez kvs j with
   | none=>rfl
   | some x=>rw [Option.map_some,if_neg e]
 ·rw [if_neg a]
  refine XN k j y kvs ?_
  rw [IK] at a
  cases q:Ez kvs k with
  | none=>rfl
  | some x=>rw [q] at a; exact (a rfl).elim
theorem Lx (kvs:List (κ × V)) (k:κ) (v:V):(putK kvs k v).length <= kvs.length + 1:=by
 unfold putK
 split
 ·rw [List.length_map]; omega
 ·rw [List.length_append,List.length_cons,List.length_nil]; omega
theorem VG {kvs:List (κ × V)} {k:κ} (v:V) (h:Ez kvs k=none):putK kvs k v=kvs ++ [(k,v)]:=by
 unfold putK
 rw [IK,h]
 exact if_neg (by decide)
theorem O1.Jp {o:Option V} {u:Option Value} (r:O1 o u):o.isSome=u.isSome:=by
 cases o with
 | none=>cases u with
  | none=>rfl
  | some _=>exact (show False from r).elim
 | some _=>cases u with
  | none=>exact (show False from r).elim
  | some _=>rfl
theorem O1.getD {o:Option V} {u:Option Value} {d:V} {d':Value} (r:O1 o u) (rd:RelV d d'):RelV (o.getD d) (u.getD d'):=by
 cases o with
 | none=>cases u with
  | none=>exact rd
  | some _=>exact (show False from r).elim
 | some _=>cases u with
  | none=>exact (show False from r).elim
  | some _=>exact r
theorem KV.val {kvs:List (κ × V)} {vs:List (κ × Value)} (r:KV kvs vs) (k:κ):O1 (Ez kvs k) (valueAt vs k):=by
 unfold KV at r
 induction r with
 | nil=>exact True.intro
 | @cons p q ps qs h t ih =>
  obtain ⟨h1,h2⟩:=h
  by_cases e:p.1=k
  ·have e':q.1=k:=h1.symm.trans e
   have b:valueAt (q :: qs) k=some q.2:=by simp [valueAt,List.find?_cons,e']
   rw [Di e,b]; exact h2
  ·have e':¬ q.1=k:=fun z=>e (h1.trans z)
   have b:valueAt (q :: qs) k=valueAt qs k:=by simp [valueAt,List.find?_cons,e']
   rw [Dj e,b]; exact ih
theorem KV.any {kvs:List (κ × V)} {vs:List (κ × Value)} (r:KV kvs vs) (k:κ):(kvs.any fun kv=>decide (kv.1=k))=vs.any fun kv=>decide (kv.1=k):=by
 unfold KV at r
 induction r with
 | nil=>rfl
 | cons h t ih=>rw [List.any_cons,List.any_cons,ih,h.1]
theorem KV.repl {kvs:List (κ × V)} {vs:List (κ × Value)} (r:KV kvs vs) (k:κ) {y:V} {u:Value} (ry:RelV y u) :
  KV (kvs.map fun kv=>if kv.1=k then (kv.1,y) else kv) (vs.map fun kv=>if kv.1=k then (kv.1,u) else kv):=by
 unfold KV at r ⊢
 induction r with
 | nil=>exact .nil
 | @cons p q ps qs h t ih =>
  rw [List.map_cons,List.map_cons]
  refine .cons ?_ ih
  obtain ⟨h1,h2⟩:=h
  by_cases e:p.1=k
  ·rw [if_pos e,if_pos (h1.symm.trans e)]; exact ⟨h1,ry⟩
  ·rw [if_neg e,if_neg (fun z=>e (h1.trans z))]; exact ⟨h1,h2⟩
theorem KV.put {kvs:List (κ × V)} {vs:List (κ × Value)} (r:KV kvs vs) (k:κ) {y:V} {u:Value} (ry:RelV y u):KV (putK kvs k y) (stored vs k u):=by
 unfold putK stored
 rw [r.any k]
 by_cases e:(vs.any fun kv=>decide (kv.1=k))=true
 ·rw [if_pos e,if_pos e]; exact r.repl k ry
 ·rw [if_neg e,if_neg e]; exact Paired.snoc r ⟨rfl,ry⟩
theorem KV.length {kvs:List (κ × V)} {vs:List (κ × Value)} (r:KV kvs vs):kvs.length=vs.length:=Paired.length r
end
theorem Wn {P:Program} {w:World} {k:Key} {u:Value} (r:RelV (kV k) u):(Dg P w).is k u=true:=by
 cases k with
 | inl i=>obtain ⟨t,e⟩:=(show ∃ t,u=Value.int i t from r); subst e; exact aa6 P w i t
 | inr x=>obtain ⟨t,e⟩:=(show ∃ t,u=Value.str x t from r); subst e; exact aa5 P w x t
theorem YG {P:Program} {w:World}:∀ {ks:List Key} {us:List Value},Vals (ks.map kV) us->ItemsAre (Dg P w) ks us
 | [],_,r=>by rw [List.map_nil] at r; cases r; exact .nil
 | k :: ks,_,r=>by
  rw [List.map_cons] at r
  cases r with
  | cons h t=>exact .cons (Wn h) (YG t)
abbrev KT (H:Hp):List (List Key × V)->List (List Key × Addr × Value)->Prop:=Paired fun p q=>p.1=q.1/\H q.2.1=some (.tup (p.1.map kV))/\RelV p.2 q.2.2
theorem KT.val {H:Hp} {kvs:List (List Key × V)} {xs:List (List Key × Addr × Value)} (r:KT H kvs xs) (k:List Key):O1 (Ez kvs k) ((atKey xs k).map (·.2)):=by
 induction r with
 | nil=>exact True.intro
 | @cons p q ps qs h t ih =>
  obtain ⟨h1,_,h2⟩:=h
  by_cases e:p.1=k
  ·have e':q.1=k:=h1.symm.trans e
   have b:atKey (q :: qs) k=some q.2:=by simp [atKey,List.find?_cons,e']
   rw [Di e,b]; exact h2
  ·have e':¬ q.1=k:=fun z=>e (h1.trans z)
   have b:atKey (q :: qs) k=atKey qs k:=by simp [atKey,List.find?_cons,e']
   rw [Dj e,b]; exact ih
theorem KT.repl {H:Hp} {kvs:List (List Key × V)} {xs:List (List Key × Addr × Value)} (r:KT H kvs xs) (k:List Key) {y:V} {u:Value} (ry:RelV y u) :
  KT H (kvs.map fun kv=>if kv.1=k then (kv.1,y) else kv) (xs.map (putAt k u)):=by
 induction r with
 | nil=>exact .nil
 | @cons p q ps qs h t ih =>
  rw [List.map_cons,List.map_cons]
  refine .cons ?_ ih
  obtain ⟨h1,h2,h3⟩:=h
  unfold putAt
  by_cases e:p.1=k
  ·rw [if_pos e,if_pos (h1.symm.trans e)]; exact ⟨h1,h2,ry⟩
  ·rw [if_neg e,if_neg (fun z=>e (h1.trans z))]; exact ⟨h1,h2,h3⟩
theorem KT.put {H:Hp} {kvs:List (List Key × V)} {xs:List (List Key × Addr × Value)} (r:KT H kvs xs) (k:List Key) {b:Addr} {y:V} {u:Value} (hb:H b=some (.tup (k.map kV))) (ry:RelV y u) :
  KT H (putK kvs k y) (storedH xs k b u):=by
 have e:(kvs.any fun kv=>decide (kv.1=k))=(atKey xs k).isSome:=by
  rw [IK,(r.val k).Jp,Option.isSome_map]
 unfold putK storedH
 rw [e]
 by_cases q:(atKey xs k).isSome=true
 ·rw [if_pos q,if_pos q]; exact r.repl k ry
 ·rw [if_neg q,if_neg q]; exact Paired.snoc r ⟨rfl,hb,ry⟩
theorem KT.keeps {H H':Hp} {kvs:List (List Key × V)} {xs:List (List Key × Addr × Value)} (r:KT H kvs xs) (ht:∀ b ys,H b=some (.tup ys)->H' b=some (.tup ys)):KT H' kvs xs :=
 Paired.aiz r fun _ _ z=>⟨z.1,ht _ _ z.2.1,z.2.2⟩
section
variable {P:Program} {w:World} {H:Hp} {h:Heap} {a:Addr}
theorem ahM {u:HO} (ok:HOk P w H h) (e:Rd H a u):DN P w H h a u:=e.ok ok
theorem Tw {kvs:List (Key × V)} (ok:HOk P w H h) (e:Rd H a (.dK kvs)):kvs.length <= sizeLine/\(a == sysModules)=false/\∃ vs,KV kvs vs/\h.DictOf (Dg P w) a vs :=
 show DN P w H h a (.dK kvs) from ahM ok e
theorem akg {kvs:List (Key × V)} (ok:HOk P w H h) (e:H a=some (.dK kvs)):kvs.length <= sizeLine/\(a == sysModules)=false/\∃ vs,KV kvs vs/\h.DictOf (Dg P w) a vs:=Tw ok (.inl e)
theorem Ly {ks:List Key} (ok:HOk P w H h) (e:H a=some (.tup (ks.map kV))):(tupleKind (Dg P w)).is h ks a:=by
 obtain ⟨_,its,r,o,h1,h2,n,h3⟩:=(show DN P w H h a (.tup (ks.map kV)) from ok a _ e)
 exact ⟨o,its.toArray,n,h1,h2,h3,by simpa using YG r⟩
theorem Tr {kvs:List (List Key × V)} (ok:HOk P w H h) (e:Rd H a (.dT kvs)):kvs.length <= sizeLine/\(a == sysModules)=false /\
  ∃ xs,KT H kvs xs/\h.DictOfH (tupleKind (Dg P w)) a xs:=by
 obtain ⟨z,y,xs,r,o,es,ep,h1,h2,h3,h4,h5⟩:=(show DN P w H h a (.dT kvs) from ahM ok e)
 refine ⟨z,y,xs,r,o,es,ep,h1,h2,h3,h4,fun x hx=>?_,h5⟩
 have all:∀ {l:List (List Key × V)} {m:List (List Key × Addr × Value)},KT H l m->∀ x ∈ m,(tupleKind (Dg P w)).is h x.1 x.2.1:=by
  intro l m q
  induction q with
  | nil=>intro x hx; exact nomatch hx
  | @cons p q ps qs hq t ih =>
   intro x hx
   rcases List.mem_cons.mp hx with e | hx
   ·subst e
    exact Ly ok (by rw [<- hq.1]; exact hq.2.1)
   ·exact ih x hx
 exact all r x hx
theorem ahU {kvs:List (List Key × V)} (ok:HOk P w H h) (e:H a=some (.dT kvs)):kvs.length <= sizeLine/\(a == sysModules)=false /\
  ∃ xs,KT H kvs xs/\h.DictOfH (tupleKind (Dg P w)) a xs:=Tr ok (.inl e)
end
def Xa (H:Hp) (a:Addr) (y:V) (r:Option V):Prop :=
 (∃ kvs k,Rd H a (.dK kvs)/\y=kV k/\r=Ez kvs k) \/ ∃ kvs k b,Rd H a (.dT kvs)/\y = .ref b/\H b=some (.tup (k.map kV))/\r=Ez kvs k
def Uy (H:Hp) (a:Addr) (y v:V) (H':Hp):Prop :=
 (∃ kvs k,H a=some (.dK kvs)/\y=kV k/\kvs.length < sizeLine/\H'=upd H a (.dK (putK kvs k v))) \/
 ∃ kvs k b,H a=some (.dT kvs)/\y = .ref b/\H b=some (.tup (k.map kV))/\kvs.length < sizeLine/\H'=upd H a (.dT (putK kvs k v))
theorem Uy.t {H:Hp} {a b:Addr} {kvs:List (List Key × V)} {k:List Key} {v:V} (e:H a=some (.dT kvs)) (eb:H b=some (.tup (k.map kV))) (hl:kvs.length < sizeLine) :
  Uy H a (.ref b) v (upd H a (.dT (putK kvs k v))):=.inr ⟨kvs,k,b,e,rfl,eb,hl,rfl⟩
section
variable {X:Cx} {pins:List (Addr × Obj)} {σ:St} {H:Hp} {s:Shared} {a:Addr} {y v:V} {u r:Value} {o:Option V} {A:Around} {E:Value->Shared->Prop}
theorem Inv.big (I:Inv X pins σ H s):sysModules < s.heap.objs.size:=by
 have h:mainGlobals < s.heap.objs.size:=(I.mod.glob.keeps I.bk).lt
 exact Nat.lt_trans (by decide) h
theorem aeX {Q:Value->Shared->Prop} (hu:A.units + 1 < cLine) (I:Inv X pins σ H s) (g:Xa H a y (some v)) (ry:RelV y u) (h:∀ w' s',Inv X pins σ H s'->RelV v w'->Q w' s') :
  wpAny (model X.prog X.w) A (getItem (.ref a) u) Q E s:=by
 rcases g with ⟨kvs,k,e,ey,l⟩ | ⟨kvs,k,b,e,ey,eb,l⟩
 ·subst ey
  obtain ⟨z,hd,vs,rel,dd⟩:=Tw I.hok e
  obtain ⟨w',hw,rw'⟩:=O1.some_of (v:=v) (o:=valueAt vs k) (by rw [l]; exact rel.val k)
  exact wpAny_getItem_of (Wn ry) dd.mapOf hw (h w' _ (I.tok _) rw')
 ·subst ey
  cases (show u=Value.ref b from ry)
  obtain ⟨z,hd,xs,rel,dd⟩:=Tr I.hok e
  obtain ⟨w',hw,rw'⟩:=O1.some_of (v:=v) (o:=(atKey xs k).map (·.2)) (by rw [l]; exact rel.val k)
  obtain ⟨p,hp,hp2⟩:=Option.map_eq_some_iff.mp hw
  refine wpAny_getItem_heap (tupleKind_room_in1 hu) (Ly I.hok eb) dd hp ?_
  rw [hp2]
  exact h w' _ (I.tok _) rw'
theorem alm {Q:Value->Shared->Prop} (hu:A.units + 1 < cLine) (I:Inv X pins σ H s) (g:Xa H a y o) (ry:RelV y u) (h:∀ s',Inv X pins σ H s'->Q (.bool o.isSome) s') :
  wpAny (model X.prog X.w) A (compareOp .In u (.ref a)) Q E s:=by
 rcases g with ⟨kvs,k,e,ey,l⟩ | ⟨kvs,k,b,e,ey,eb,l⟩
 ·subst ey
  obtain ⟨z,hd,vs,rel,dd⟩:=Tw I.hok e
  refine wpAny_in_of (Wn ry) hd dd.mapOf ?_
  rw [<- (rel.val k).Jp,<- l]
  exact h _ (I.tok _)
 ·subst ey
  cases (show u=Value.ref b from ry)
  obtain ⟨z,hd,xs,rel,dd⟩:=Tr I.hok e
  refine wpAny_in_heap (tupleKind_room_in1 hu) (Ly I.hok eb) hd dd ?_
  have q:=(rel.val k).Jp
  rw [Option.isSome_map] at q
  rw [<- q,<- l]
  exact h _ (I.tok _)
theorem ahv {Q:Value->Shared->Prop} (hu:A.units + 1 < cLine) (I:Inv X pins σ H s) (g:Xa H a y o) (ry:RelV y u) (h:∀ s',Inv X pins σ H s'->Q (.bool (!o.isSome)) s') :
  wpAny (model X.prog X.w) A (compareOp .NotIn u (.ref a)) Q E s:=by
 rcases g with ⟨kvs,k,e,ey,l⟩ | ⟨kvs,k,b,e,ey,eb,l⟩
 ·subst ey
  obtain ⟨z,hd,vs,rel,dd⟩:=Tw I.hok e
  refine wpAny_notIn_of (Wn ry) hd dd.mapOf ?_
  rw [<- (rel.val k).Jp,<- l]
  exact h _ (I.tok _)
 ·subst ey
  cases (show u=Value.ref b from ry)
  obtain ⟨z,hd,xs,rel,dd⟩:=Tr I.hok e
  refine wpAny_notIn_heap (tupleKind_room_in1 hu) (Ly I.hok eb) hd dd ?_
  have q:=(rel.val k).Jp
  rw [Option.isSome_map] at q
  rw [<- q,<- l]
  exact h _ (I.tok _)
theorem Z2 {h':Heap} {t':Nat} {ob:HO} (I:Inv X pins σ H s) (mu:Mut (H a)) (hs:Heap.SameBut a s.heap h') (he:∃ q,h'.get? a=some q) (new:DN X.prog X.w (upd H a ob) h' a ob) :
  Inv X pins σ (upd H a ob) { s with heap:=h',toks:=t' } :=
 I.write (x:=a) (e:=a) mu (.inl rfl) (fun b q hb z=>(hs.2 b hb).trans z) he new
theorem ai3 {P:Program} {w:World} {H':Hp} {h':Heap} {kvs:List (Key × V)} {vs:List (Key × Value)} (z:kvs.length <= sizeLine) (hd:(a == sysModules)=false) (rel:KV kvs vs) (dd:h'.DictOf (Dg P w) a vs) :
  DN P w H' h' a (.dK kvs):=⟨z,hd,vs,rel,dd⟩
theorem aeS {H':Hp} {Q:Unit->Shared->Prop} (hu:A.units + 1 < cLine) (I:Inv X pins σ H s) (g:Uy H a y v H') (ry:RelV y u) (rv:RelV v r) (h:∀ s',Inv X pins σ H' s'->Q () s') :
  wpAny (model X.prog X.w) A (setItem (.ref a) u r) Q E s:=by
 rcases g with ⟨kvs,k,e,ey,l,eH⟩ | ⟨kvs,k,b,e,ey,eb,l,eH⟩
 ·subst ey eH
  obtain ⟨z,hd,vs,rel,dd⟩:=akg I.hok e
  have hz:vs.length <= sizeLine:=by rw [<- rel.length]; exact z
  have hl:(putK kvs k v).length <= sizeLine:=by have:=Lx kvs k v; omega
  refine wpAny_setItem_pairs (hsz:=hz) (Wn ry) dd fun h' dd' hs=>h _ ?_
  have he:∃ q,h'.get? a=some q:=let ⟨q,_,_,hq,_⟩:=dd'; ⟨q,hq⟩
  exact Z2 I (by rw [e]; exact True.intro) hs he (ai3 hl hd (rel.put k rv) dd')
 ·subst ey eH
  cases (show u=Value.ref b from ry)
  obtain ⟨z,hd,xs,rel,dd⟩:=ahU I.hok e
  have hz:xs.length <= sizeLine:=by rw [<- Paired.length rel]; exact z
  have hl:(putK kvs k v).length <= sizeLine:=by have:=Lx kvs k v; omega
  refine wpAny_setItem_heap (hsz:=hz) (tupleKind_room_in1 hu) (Ly I.hok eb) dd fun h' dd' hs=>h _ ?_
  obtain ⟨q,es,ep,hq,h2,h3,h4,_,h5⟩:=dd'
  refine Z2 I (by rw [e]; exact True.intro) hs ⟨q,hq⟩ ⟨hl,hd,_,(rel.put k eb rv).keeps fun c ys ec=>?_,q,es,ep,hq,h2,h3,h4,h5⟩
  rw [Ah (G7 ec e (fun z=>nomatch z))]
  exact ec
end
def akn (i:Expr):Prop:=∀ ov iv,subscripted i false ov iv=operate [ov,iv] (getItem ov iv)
theorem agP {prog:Program} {w:World} {A:Around} {E:Value->Shared->Prop} {s:Shared} {env:Env} {value slice:Expr} {pos:Pos} {T id:String} {Q:Value->Shared->Prop}
  (hl:typeLookup (.type T) "__getitem__" = pure (some (.builtin id))) (hs:akn slice)
  (h:wpAny (model prog w) A (eval value env) (fun o s₁=>wpAny (model prog w) A (eval slice env) (fun i s₂=>s₂.TypeIs o T/\wpAny (model prog w) A (getItem o i) Q E s₂) E s₁) E s) :
  wpAny (model prog w) A (eval (.Subscript value slice pos) env) Q E s:=by
 refine Subscript_ (wpAny_mono h (fun o s₁ h₁=>wpAny_mono h₁ (fun i s₂ h₂=>?_) fun _ _ x=>x) fun _ _ x=>x)
 obtain ⟨hT,h₂⟩:=h₂
 unfold subscriptTail
 refine wpAny_bind ?_
 rw [getitemInPython_of_ne hT.not_modules]
 refine wpAny_bind (wpAny_specialOf hT hl ?_)
 have fin:wpAny (model prog w) A (subscripted slice false o i) (fun r s₃=>wpAny (model prog w) A (letTemporaryGo value o r >>= fun _=>pure r) Q E s₃) E s₂:=by
  rw [hs o i]
  exact wpAny_operating (wpAny_mono h₂ (fun r s₃ h₃=>wpAny_bind (wpAny_letTemporaryGo (wpAny_pure h₃))) fun _ _ x=>x)
 first
  | exact wpAny_pure (wpAny_bind fin)
  | exact wpAny_bind (wpAny_pure (wpAny_bind fin))
  | exact wpAny_bind fin
theorem abo {X:Cx} {pins:List (Addr × Obj)} {σ:St} {H:Hp} {s:Shared} {a:Addr} {y:V} {o:Option V} (I:Inv X pins σ H s) (g:Xa H a y o):s.TypeIs (.ref a) "dict" := by
 rcases g with ⟨kvs,k,e,_,_⟩ | ⟨kvs,k,b,e,_,_,_⟩
 ·obtain ⟨_,_,vs,_,dd⟩:=Tw I.hok e
  exact dd.typeIs
 ·obtain ⟨_,_,xs,_,dd⟩:=Tr I.hok e
  exact dd.typeIs
def ajt (td ty:TE):TE:=fun σ H Q=>td σ H fun x H1=>ty σ H1 fun y H2=>∃ a v,x = .ref a/\Xa H2 a y (some v)/\Q v H2
def akD (ty td:TE):TE:=fun σ H Q=>ty σ H fun y H1=>td σ H1 fun x H2=>∃ a o,x = .ref a/\Xa H2 a y o/\Q (.bl o.isSome) H2
def agN (ty td:TE):TE:=fun σ H Q=>ty σ H fun y H1=>td σ H1 fun x H2=>∃ a o,x = .ref a/\Xa H2 a y o/\Q (.bl (!o.isSome)) H2
def ajy (td ty tv:TE):TS:=fun D σ H=>tv σ H fun v H1=>td σ H1 fun x H2=>ty σ H2 fun y H3=>∃ a H4,x = .ref a/\Uy H3 a y v H4/\D.nx σ H4
section
variable {X:Cx} {o i e value:Expr} {pos pos' tpos:Pos} {td ty tv:TE}
theorem agZ (hu:X.A.units + 1 < cLine) (ho:PE X o td) (hi:PE X i ty) (hs:akn i):PE X (.Subscript o i pos) (ajt td ty):=by
 intro pins s σ H Q I h
 refine agP PySem.F.slot_dict_getitem.lookup hs (thn (ho pins s σ H _ I h) fun u s1 ⟨x,H1,I1,rx,q1⟩=>thn (hi pins s1 σ H1 _ I1 q1) fun iv s2 ⟨y,H2,I2,ry,a,v,ex,g,q2⟩=>?_)
 subst ex
 obtain rfl:u=Value.ref a:=rx
 exact ⟨abo I2 g,aeX hu I2 g ry fun w' s3 I3 rw'=>⟨v,H2,I3,rw',q2⟩⟩
theorem ZL (hu:X.A.units + 1 < cLine) (hi:PE X i ty) (ho:PE X o td):PC X .In i o (akD ty td):=by
 intro pins s σ H Q I h
 refine thn (hi pins s σ H _ I h) fun iv s1 ⟨y,H1,I1,ry,q1⟩=>thn (ho pins s1 σ H1 _ I1 q1) fun u s2 ⟨x,H2,I2,rx,a,ov,ex,g,q2⟩=>?_
 subst ex
 obtain rfl:u=Value.ref a:=rx
 exact alm hu I2 g ry fun s3 I3=>⟨.bl ov.isSome,H2,I3,rfl,q2⟩
theorem aex (hu:X.A.units + 1 < cLine) (hi:PE X i ty) (ho:PE X o td):PC X .NotIn i o (agN ty td):=by
 intro pins s σ H Q I h
 refine thn (hi pins s σ H _ I h) fun iv s1 ⟨y,H1,I1,ry,q1⟩=>thn (ho pins s1 σ H1 _ I1 q1) fun u s2 ⟨x,H2,I2,rx,a,ov,ex,g,q2⟩=>?_
 subst ex
 obtain rfl:u=Value.ref a:=rx
 exact ahv hu I2 g ry fun s3 I3=>⟨.bl (!ov.isSome),H2,I3,rfl,q2⟩
theorem Ib (hu:X.A.units + 1 < cLine) (ho:PE X o td) (hi:PE X i ty) (hv:PE X value tv) (hs:swapsWith value (some (.Subscript o i pos')) pos.line X.env=pure false) :
  PS X (.Assign [.Subscript o i pos'] value pos) (ajy td ty tv):=by
 intro pins s σ H D I h
 refine wpAny_Assign_Subscript (thn (hv pins s σ H _ I h) fun r s1 ⟨v,H1,I1,rv,q1⟩=>thn (ho pins s1 σ H1 _ I1 q1) fun u s2 ⟨x,H2,I2,rx,q2⟩=>thn (hi pins s2 σ H2 _ I2 q2) fun iv s3 ⟨y,H3,I3,ry,a,H4,ex,g,q3⟩=>?_) hs
 subst ex
 obtain rfl:u=Value.ref a:=rx
 exact aeS hu I3 g ry rv fun s4 I4=>⟨σ,H4,I4,q3⟩
end
theorem abm {P:Program} {w:World} {H:Hp} (h:Heap) (hb:sysModules < h.objs.size):DN P w H (h.push { cls:=.type "dict",data:=.dict #[] }) h.objs.size (.dT []) :=
 ⟨Nat.zero_le _,beq_eq_false_iff_ne.mpr (Ne.symm (Nat.ne_of_lt hb)),[],.nil,_,#[],0,Heap.get?_push_size _ rfl,⟨rfl,rfl,rfl⟩,rfl,rfl,List.nodup_nil⟩
def ah6:TE:=fun _ H Q=>∀ p,H p=none->Q (.ref p) (upd H p (.dT []))
section
variable {X:Cx} {pos:Pos}
theorem Gj:PE X (.Dict [] [] pos) ah6:=fun pins s σ H Q I h =>
 wpAny_Dict_empty ⟨.ref s.heap.objs.size,_,I.laid (a:=s.heap.objs.size) (o:=.dT []) (t':=s.toks) (fun _ _ q=>Heap.get?_push_of_some _ q) (Nat.le_refl _) (abm s.heap I.big),rfl,h _ (I.hok.fresh (Nat.le_refl _))⟩
end
structure M1 (X:Cx) (o:Expr) (m:Str) (apos:Pos) (e:Expr) (cpos:Pos):Prop where
 base:attributeBase o m X.env (eval o X.env)=eval o X.env
 few:((backTo cpos (starEach [e] X.env)).all (fun x=>!x.1) && (backToKw cpos (keywordEach [] X.env)).all (fun x=>x.1.isSome)
  && decide (([e]:List Expr).length + ([]:List Keyword).length + (if ([]:List Keyword).isEmpty then 0 else 1) < 30))=true
 line:(apos.endLine == cpos.line)=true
 trees:backTo cpos (starEach [e] X.env)=[(false,eval e X.env)]
structure M2 (X:Cx) (o:Expr) (m:Str) (apos:Pos) (e f:Expr) (cpos:Pos):Prop where
 base:attributeBase o m X.env (eval o X.env)=eval o X.env
 few:((backTo cpos (starEach [e,f] X.env)).all (fun x=>!x.1) && (backToKw cpos (keywordEach [] X.env)).all (fun x=>x.1.isSome)
  && decide (([e,f]:List Expr).length + ([]:List Keyword).length + (if ([]:List Keyword).isEmpty then 0 else 1) < 30))=true
 line:(apos.endLine == cpos.line)=true
 trees:backTo cpos (starEach [e,f] X.env)=[(false,eval e X.env),(false,eval f X.env)]
def IsD (H:Hp) (a:Addr):Prop:=(∃ kvs,Rd H a (.dK kvs)) \/ ∃ kvs,Rd H a (.dT kvs)
theorem af7 {X:Cx} {pins:List (Addr × Obj)} {σ:St} {H:Hp} {s:Shared} {a:Addr} (I:Inv X pins σ H s) (d:IsD H a) :
  s.TypeIs (.ref a) "dict" /\ (∀ b,Value.ref a = .ref b->∃ ob,s.heap.get? b=some ob/\ob.dict=none)/\(a == sysModules)=false:=by
 rcases d with ⟨kvs,e⟩ | ⟨kvs,e⟩
 ·obtain ⟨_,hd,vs,_,dd⟩:=Tw I.hok e
  refine ⟨dd.typeIs,fun b q=>?_,hd⟩
  cases q
  obtain ⟨ob,_,_,h1,h2,_⟩:=dd
  exact ⟨ob,h1,h2.2.1⟩
 ·obtain ⟨_,hd,xs,_,dd⟩:=Tr I.hok e
  refine ⟨dd.typeIs,fun b q=>?_,hd⟩
  cases q
  obtain ⟨ob,_,_,h1,h2,_⟩:=dd
  exact ⟨ob,h1,h2.2.1⟩
section
variable {X:Cx} {pins:List (Addr × Obj)} {σ:St} {H:Hp} {s:Shared} {a:Addr} {y d:V} {u r:Value} {o:Option V} {A:Around} {E:Value->Shared->Prop}
theorem ai5 {Q:Value->Shared->Prop} (hu:A.units + 1 < cLine) (I:Inv X pins σ H s) (g:Xa H a y o) (ry:RelV y u) (h:∀ w' s',Inv X pins σ H s'->RelV (o.getD .non) w'->Q w' s') :
  wpAny (model X.prog X.w) A (call (.builtin "dict.get") [.ref a,u]) Q E s:=by
 rcases g with ⟨kvs,k,e,ey,l⟩ | ⟨kvs,k,b,e,ey,eb,l⟩
 ·subst ey
  obtain ⟨z,hd,vs,rel,dd⟩:=Tw I.hok e
  refine call_meetsIn PySem.F.slot_dict_get dd.typeIs PySem.F.entry_dict_get (PySem.F.args_dict_get_2 _ _) (meets_dict_get (Dg X.prog X.w) a (Wn ry) hd) ⟨_,dd.mapOf,h _ _ (I.tok _) ?_⟩
  rw [l]
  exact (rel.val k).getD rfl
 ·subst ey
  cases (show u=Value.ref b from ry)
  obtain ⟨z,hd,xs,rel,dd⟩:=Tr I.hok e
  refine call_meetsIn PySem.F.slot_dict_get dd.typeIs PySem.F.entry_dict_get (PySem.F.args_dict_get_2 _ _) (meetsH_dict_get (tupleKind (Dg X.prog X.w)) a b hd) ⟨tupleKind_room_in1 hu,k,xs,Ly I.hok eb,dd,h _ _ (I.tok _) ?_⟩
  rw [l]
  exact (rel.val k).getD rfl
theorem ai4 {Q:Value->Shared->Prop} (hu:A.units + 1 < cLine) (I:Inv X pins σ H s) (g:Xa H a y o) (ry:RelV y u) (rd:RelV d r) (h:∀ w' s',Inv X pins σ H s'->RelV (o.getD d) w'->Q w' s') :
  wpAny (model X.prog X.w) A (call (.builtin "dict.get") [.ref a,u,r]) Q E s:=by
 rcases g with ⟨kvs,k,e,ey,l⟩ | ⟨kvs,k,b,e,ey,eb,l⟩
 ·subst ey
  obtain ⟨z,hd,vs,rel,dd⟩:=Tw I.hok e
  refine call_meetsIn PySem.F.slot_dict_get dd.typeIs PySem.F.entry_dict_get (PySem.F.args_dict_get_3 _ _ _) (meets_dict_get_default (Dg X.prog X.w) a (Wn ry) hd r) ⟨_,dd.mapOf,h _ _ (I.tok _) ?_⟩
  rw [l]
  exact (rel.val k).getD rd
 ·subst ey
  cases (show u=Value.ref b from ry)
  obtain ⟨z,hd,xs,rel,dd⟩:=Tr I.hok e
  refine call_meetsIn PySem.F.slot_dict_get dd.typeIs PySem.F.entry_dict_get (PySem.F.args_dict_get_3 _ _ _) (meetsH_dict_get_default (tupleKind (Dg X.prog X.w)) a b hd r) ⟨tupleKind_room_in1 hu,k,xs,Ly I.hok eb,dd,h _ _ (I.tok _) ?_⟩
  rw [l]
  exact (rel.val k).getD rd
end
def ah8 (td ty:TE):TE:=fun σ H Q=>td σ H fun x H1=>∃ a,x = .ref a/\IsD H1 a/\ty σ H1 fun y H2=>∃ o,Xa H2 a y o/\Q (o.getD .non) H2
def ah7 (td ty tx:TE):TE:=fun σ H Q=>td σ H fun x H1=>∃ a,x = .ref a/\IsD H1 a/\ty σ H1 fun y H2=>tx σ H2 fun z H3=>∃ o,Xa H3 a y o/\Q (o.getD z) H3
section
variable {X:Cx} {o e f:Expr} {apos cpos:Pos} {td ty tx:TE}
theorem aaZ (hu:X.A.units + 1 < cLine) (ho:PE X o td) (he:PE X e ty) (m:M1 X o "get" apos e cpos):PE X (.Call (.Attribute o "get" apos) [e] [] cpos) (ah8 td ty):=by
 intro pins s σ H Q I h
 refine wpAny_Call_method m.base m.few m.line PySem.F.plainAttrs_dict PySem.F.slot_dict_get PySem.F.type_dict_get (thn (ho pins s σ H _ I h) fun u s1 ⟨x,H1,I1,rx,a,ex,d,q1⟩=>?_)
 subst ex
 obtain rfl:u=Value.ref a:=rx
 obtain ⟨t1,t2,_⟩:=af7 I1 d
 refine ⟨t1,t2,?_⟩
 rw [m.trees]
 refine Calls.callWith_builtin rfl (Calls.evalArgs_plain (Calls.spliced_cons (thn (he pins s1 σ H1 _ I1 q1) fun iv s2 ⟨y,H2,I2,ry,ov,g,q2⟩=>Calls.spliced_nil ?_)))
 exact ai5 hu I2 g ry fun w' s3 I3 rw'=>⟨_,H2,I3,rw',q2⟩
theorem aaY (hu:X.A.units + 1 < cLine) (ho:PE X o td) (he:PE X e ty) (hf:PE X f tx) (m:M2 X o "get" apos e f cpos):PE X (.Call (.Attribute o "get" apos) [e,f] [] cpos) (ah7 td ty tx):=by
 intro pins s σ H Q I h
 refine wpAny_Call_method m.base m.few m.line PySem.F.plainAttrs_dict PySem.F.slot_dict_get PySem.F.type_dict_get (thn (ho pins s σ H _ I h) fun u s1 ⟨x,H1,I1,rx,a,ex,d,q1⟩=>?_)
 subst ex
 obtain rfl:u=Value.ref a:=rx
 obtain ⟨t1,t2,_⟩:=af7 I1 d
 refine ⟨t1,t2,?_⟩
 rw [m.trees]
 refine Calls.callWith_builtin rfl (Calls.evalArgs_plain (Calls.spliced_cons (thn (he pins s1 σ H1 _ I1 q1) fun iv s2 ⟨y,H2,I2,ry,q2⟩ =>
  Calls.spliced_cons (thn (hf pins s2 σ H2 _ I2 q2) fun fv s3 ⟨z,H3,I3,rz,ov,g,q3⟩=>Calls.spliced_nil ?_))))
 exact ai4 hu I3 g ry rz fun w' s4 I4 rw'=>⟨_,H3,I4,rw',q3⟩
end
section
variable {X:Cx} {pins:List (Addr × Obj)} {σ:St} {H:Hp} {s:Shared} {h':Heap}
theorem Inv.QQ {t':Nat} {ch:List Addr} {T:Addr} {ob:HO} (I:Inv X pins σ H s) (k:∀ b o,b ∉ ch->s.heap.get? b=some o->h'.get? b=some o) (hf:∀ b ∈ ch,W8 X pins H b) (hT:s.heap.objs.size <= T)
  (new:DN X.prog X.w (upd H T ob) h' T ob):Inv X pins σ (upd H T ob) { s with heap:=h',toks:=t' }:=by
 have hn:H T=none:=I.hok.fresh hT
 have nit:∀ b u,H b=some u->b ∉ ch:=fun b u e z=>by
  have q:=(hf b z).1
  rw [q] at e; cases e
 refine I.step (g':=s.gens) (d':=s.drawn) (ch:=ch) (fun b hb=>⟨(hf b hb).2.2.2.1,(hf b hb).2.1,(hf b hb).2.2.2.2.1,(hf b hb).2.2.2.2.2⟩) (fun b o _ _ hc e _=>k b o hc e) (fun b o _ _ hc e _=>⟨o.slots,k b o hc e⟩)
  (fun b o _ e n=>?_) (fun b o hc e=>⟨o,k b o hc e⟩) (fun b xs e=>?_) (fun b o u e=>?_) (fun b ps e=>⟨#[],?_⟩) (fun m hm=>?_) (fun b u e=>?_) I.bare
 ·rw [Ah (Nat.ne_of_lt (Nat.lt_of_lt_of_le (Heap.lt_size e) hT))]; exact n
 ·rw [Ah (Bq e hn)]; exact e
 ·rw [Ah (Bq e hn)]; exact e
 ·rw [Ah (Bq e hn),e]; simp
 ·obtain ⟨o,es,ep,ho,r⟩:=hm
  exact ⟨o,es,ep,k _ o (fun z=>(hf _ z).2.1 rfl) ho,r⟩
 ·by_cases hb:b=T
  ·subst hb
   rw [Ab] at e
   cases e
   exact new
  ·rw [Ah hb] at e
   refine (I.hok b u e).stay (fun c v hc q=>k c v ?_ q) (fun c q=>by rw [Ah (Bq q hn)]; exact q) fun c xs q=>by rw [Ah (Bq q hn)]; exact q
   rcases hc with z | z
   ·rw [z]; exact nit b u e
   ·exact nit c _ z
theorem Inv.lock {d:Addr} {u:HO} (I:Inv X pins σ H s) (h:H d=some u) (mu:Mut (some u)):∃ od,Inv X pins σ (upd H d (.frz od u)) s:=by
 have x:=I.hok d u h
 have ex:∃ od,s.heap.get? d=some od:=by
  cases u with
  | lst xs=>obtain ⟨_,_,_,_,e⟩:=x; exact ⟨_,e⟩
  | dK kvs=>obtain ⟨_,_,_,_,o,_,_,e,_⟩:=x; exact ⟨o,e⟩
  | dT kvs=>obtain ⟨_,_,_,_,o,_,_,e,_⟩:=x; exact ⟨o,e⟩
  | set S n=>obtain ⟨o,_,_,_,e,_⟩:=x; exact ⟨o,e⟩
  | ins C dx fs=>obtain ⟨_,_,_,e,_⟩:=x; exact ⟨_,e⟩
  | ext φ=>obtain ⟨_,⟨_,e⟩,_⟩:=x; exact ⟨_,e⟩
  | _=>exact False.elim mu
 obtain ⟨od,e⟩:=ex
 have new:DN X.prog X.w (upd H d (.frz od u)) s.heap d (.frz od u):=by
  refine ⟨e,x.stay (fun b v _ q=>q) (fun b q=>?_) fun b xs q=>?_⟩
  ·rw [Ah (fun z=>by rw [z,h] at q; cases q; exact mu)]; exact q
  ·rw [Ah (fun z=>by rw [z,h] at q; cases q; exact mu)]; exact q
 exact ⟨od,I.write (x:=d) (e:=d) (t':=s.toks) (h':=s.heap) (by rw [h]; exact mu) (.inl rfl) (fun b v _ q=>q) ⟨od,e⟩ new⟩
theorem Inv.adB {d:Addr} {u:HO} (I:Inv X pins σ H s) (h:H d=some u) (mu:Mut (some u)):∀ o' u',X.H_0 d ≠ some (.frz o' u'):=fun o' u' e=>by
 have q:=I.base.Ws d o' u' e
 rw [h] at q
 cases q
 exact mu
theorem Inv.unlock {d:Addr} {od:Obj} {u:HO} (I:Inv X pins σ H s) (h:H d=some (.frz od u)) (hn:∀ o' u',X.H_0 d ≠ some (.frz o' u')):Inv X pins σ (upd H d u) s:=by
 have neH:∀ b o,H b=some o->(∀ o' u',o ≠ .frz o' u')->b ≠ d:=fun b o e hne z=>by
  rw [z,h] at e
  cases e
  exact hne _ _ rfl
 have neN:∀ b,H b=none->b ≠ d:=fun b e z=>by rw [z,h] at e; cases e
 refine ⟨I.ok,I.os,I.bare,⟨I.base.keep,I.base.slot,fun b o e n hx=>?_,I.base.there,fun b xs e=>?_,fun b o x e=>?_,fun b ps e=>?_⟩,I.loc,I.cell,?_,fun x c e=>?_,fun p hp=>?_,fun b o e=>?_,I.len⟩
 ·rw [Ah (neN b (I.base.free b o e n hx))]; exact I.base.free b o e n hx
 ·have q:=I.base.tups b xs e
  rw [Ah (neH b _ q (fun _ _ z=>nomatch z))]; exact q
 ·have q:=I.base.Ws b o x e
  rw [Ah (fun z=>by rw [z] at e; exact hn _ _ e)]; exact q
 ·obtain ⟨m,q⟩:=I.base.Zn b ps e
  exact ⟨m,by rw [Ah (neH b _ q (fun _ _ z=>nomatch z))]; exact q⟩
 ·rw [Ah (neN _ I.free)]; exact I.free
 ·rw [Ah (neN c (I.Jr x c e))]; exact I.Jr x c e
 ·obtain ⟨e,n,r⟩:=I.pin p hp
  exact ⟨e,by rw [Ah (neN _ n)]; exact n,r⟩
 ·by_cases hb:b=d
  ·rw [hb,Ab] at e
   cases e
   rw [hb]
   obtain ⟨_,x⟩:=I.hok d _ h
   exact x.stay (fun c v _ q=>q) (fun c q=>by rw [Ah (neH c _ q (fun _ _ z=>nomatch z))]; exact q) fun c xs q=>by rw [Ah (neH c _ q (fun _ _ z=>nomatch z))]; exact q
  ·rw [Ah hb] at e
   exact (I.hok b o e).stay (fun c v _ q=>q) (fun c q=>by rw [Ah (neH c _ q (fun _ _ z=>nomatch z))]; exact q) fun c xs q=>by rw [Ah (neH c _ q (fun _ _ z=>nomatch z))]; exact q
end
def ajr (t:TS):TS:=fun D σ H=>∃ d u,H d=some u/\Mut (some u)/\∀ od,t ⟨fun σ' H'=>H' d=some (.frz od u)/\D.nx σ' (upd H' d u),fun v H'=>H' d=some (.frz od u)/\D.rt v (upd H' d u),fun σ' H'=>H' d=some (.frz od u)/\D.bk σ' (upd H' d u),fun σ' H'=>H' d=some (.frz od u)/\D.ct σ' (upd H' d u)⟩ σ (upd H d (.frz od u))
section
variable {X:Cx}
theorem JN {st:Stmt} {t:TS} (h:PS X st t):PS X st (ajr t):=by
 intro pins s σ H D I hw
 obtain ⟨d,u,hd,mu,hw⟩:=hw
 obtain ⟨od,I1⟩:=I.lock hd mu
 refine thn (h pins s σ _ _ I1 (hw od)) fun f s1 q=>?_
 cases f with
 | next=>obtain ⟨σ',H',I2,e,q⟩:=q; exact ⟨σ',_,I2.unlock e (I.adB hd mu),q⟩
 | brk=>obtain ⟨σ',H',I2,e,q⟩:=q; exact ⟨σ',_,I2.unlock e (I.adB hd mu),q⟩
 | cont=>obtain ⟨σ',H',I2,e,q⟩:=q; exact ⟨σ',_,I2.unlock e (I.adB hd mu),q⟩
 | ret v=>obtain ⟨x,σ',H',I2,r,e,q⟩:=q; exact ⟨x,σ',_,I2.unlock e (I.adB hd mu),r,q⟩
theorem Rm {tg:Expr} {pins:List (Addr × Obj)} {σ:St} {H:Hp} {s:Shared} {R:It->Hp->Prop} {J:It} {tn:Nat->Heap->Prop} {tk:Nat} (I:Inv X pins σ H s) (o:Obj)
  (T:Turn X.prog X.w X.K tg J [s.heap.objs.size] s.heap.objs.size tn) (st:tn 0 (s.heap.push o)) (q:R J H):PIE X pins σ tg R (.ref s.heap.objs.size) { s with heap:=s.heap.push o,toks:=tk }:=by
 refine ⟨s.heap.objs.size,[s.heap.objs.size],tn,J,H,rfl,I.kept fun b ob e=>Heap.get?_push_of_some _ e,T,st,fun b hb=>?_,q⟩
 have e:b=s.heap.objs.size:=by simpa using hb
 subst e
 exact I.acV (Nat.le_refl _) (I.hok.fresh (Nat.le_refl _))
end
def Its (x:Str):It:=⟨fun i _=>i < x.cps.size,fun i H v H'=>H'=H/\∃ c,x.cps[i]? = some c/\v = .str ⟨#[c]⟩,fun i _=>x.cps.size <= i⟩
theorem aay {P:Program} {w:World} {K:PySem.W.Frag} {tg:Expr} (it:Addr) (x:Str) (t:Tok) (ty:String) (hty:ty = "str_ascii_iterator" \/ ty = "str_iterator") :
  Turn P w K tg (Its x) [it] it (fun i h=>h.IsStrIter it ty x t i) where
 mem:=by simp
 obj:=fun i h st b hb=>by
  have e:b=it:=by simpa using hb
  subst e
  obtain ⟨o,e,c,d⟩:=st
  exact ⟨o,e,fun v z=>by rw [d] at z; cases z⟩
 keep:=fun i h h' st k=>let ⟨o,ho,r⟩:=st; ⟨o,k it (by simp) o ho,r⟩
 item:=by
  intro X hP hw hK hc i pins s σ H E I hf st hg
  subst hP hw hK
  obtain ⟨f0,f1,f2,f3,f4,f5⟩:=hf it (by simp)
  have W:Walks X.prog X.w X.A it [it] [it] x.cps.size (SignAt x) (fun i h=>h.IsStrIter it ty x t i):=by
   rcases hty with e | e
   ·rw [e]; exact Walks.strAscii (I.ok.hd hc) it x t
   ·rw [e]; exact Walks.strWide (I.ok.hd hc) it x t
  have hno:["enumerate", "zip", "dict_itemiterator", "dict_reverseitemiterator", "odict_iterator", "itertools.zip_longest", "itertools.pairwise"].contains ty=false:=by
   rcases hty with e | e
   ·rw [e]; decide
   ·rw [e]; decide
  refine W.item i s _ _ hg st fun v h' tk hv st' kk=>?_
  obtain ⟨c,u,hcx,rfl⟩:=hv
  have I1:Inv X pins σ H { s with heap:=h',toks:=tk }:=I.turned (fun b o hb e=>kk b o (by simpa using hb) e) f0 f1 f3 f4 f5
  obtain ⟨oi,e,cc,dd⟩:=id st'
  exact ⟨_,rfl,YK (s:={ s with heap:=h',toks:=tk }) e cc dd hno ⟨.str ⟨#[c]⟩,H,I1,⟨u,rfl⟩,⟨rfl,c,hcx,rfl⟩,st',fun b hb=>(hf b hb).1⟩⟩
 done:=by
  intro X hP hw hK hc i pins s σ H E I hf st hg
  subst hP hw hK
  obtain ⟨f0,f1,f2,f3,f4,f5⟩:=hf it (by simp)
  have hx:x.cps[i]? = none:=Array.getElem?_eq_none hg
  rcases hty with e | e
  ·rw [e] at st
   exact wpAny_pyNext_ascii_end (I.ok.hd hc) st hx fun h' eb=>⟨rfl,I.turned (t':=s.toks) (fun b o hb e=>eb b o hb e) f0 f1 f3 f4 f5⟩
  ·rw [e] at st
   exact wpAny_pyNext_wide_end (I.ok.hd hc) st hx fun h' eb=>⟨rfl,I.turned (t':=s.toks) (fun b o hb e=>eb b o hb e) f0 f1 f3 f4 f5⟩
 self:=fun A i s Q E st h=>by
  rcases hty with e | e
  ·rw [e] at st; exact wpAny_pyIter_striter_ascii st h
  ·rw [e] at st; exact wpAny_pyIter_striter_wide st h
def ak1 (te:TE):TI:=fun σ H R=>te σ H fun v H1=>∃ x,v = .str x/\R (Its x) H1
theorem aim {X:Cx} {tg e:Expr} {te:TE} (he:PE X e te):PI X tg e (ak1 te):=by
 intro pins s σ H R I h
 refine thn (he pins s σ H _ I h) fun v s1 ⟨y,H1,I1,r1,x,ex,q⟩=>?_
 subst ex
 obtain ⟨t,rfl⟩:=r1
 cases ha:x.cps.all (· < 128)
 ·exact wpAny_pyIter_wide ha (Rm (tk:=s1.toks) I1 _ (aay _ x t "str_iterator" (.inr rfl)) ⟨_,Heap.get?_push_size _ rfl,rfl,rfl⟩ q)
 ·exact wpAny_pyIter_ascii ha (Rm (tk:=s1.toks) I1 _ (aay _ x t "str_ascii_iterator" (.inl rfl)) ⟨_,Heap.get?_push_size _ rfl,rfl,rfl⟩ q)
section
variable {prog:Program} {w:World} {A:Around} {E:Value->Shared->Prop} {s:Shared}
theorem Ry {d:Addr} {o:Obj} {es:Array DictEntry} {ep:Nat} {Q:Value->Shared->Prop} (hd:(d == sysModules)=false) (ho:s.heap.get? d=some o) (hc:o.ExactDict) (hdat:o.data = .dict es ep)
  (hQ:Q (.ref s.heap.objs.size) { s with heap:=s.heap.push { cls:=.type "dict_keyiterator",data:=.fields #[.ref d,.int 0 0,.int es.size 0,.int ep 0] } }) :
  wpAny (model prog w) A (pyIter (.ref d)) Q E s:=by
 have hT:s.TypeIs (.ref d) "dict" := ⟨o,ho,hc.1⟩
 refine wpAny_pyIter_slot hT F.slot_dict_iter (wpAny_call_entry F.slot_dict_iter hT F.entry_dict_iter ?_ (F.args_dict_iter_1 _))
 unfold Builtin.«dict.__iter__»
 refine wpAny_bind ?_
 unfold Builtin.Dict.dictSlotNone
 refine wpAny_bind (wpAny_notOrdered_dict hT ?_)
 show wpAny _ _ (pure (Value.ref d)) _ _ s
 refine wpAny_pure ?_
 show wpAny _ _ (Builtin.Dict.showsAll d >>= _) _ _ s
 unfold Builtin.Dict.showsAll
 rw [if_neg (by rw [hd]; exact Bool.false_ne_true)]
 refine wpAny_bind (wpAny_pure ?_)
 refine wpAny_bind (wpAny_dictEntries ho hdat ?_)
 refine wpAny_bind (wpAny_dictEpoch ho hdat ?_)
 refine wpAny_bind (wpAny_newObj_type (wpAny_pure ⟨_,rfl, "dict_keyiterator",_,⟨_,Heap.get?_push_size _ rfl,rfl⟩,F.slot_dict_keyiterator_next.lookup,?_⟩))
 simpa [rawInt] using hQ
theorem NT {it d:Addr} {i n ep:Nat} {od:Obj} {es:Array DictEntry} {en:DictEntry} {Q:Option Value->Shared->Prop} (hit:s.heap.IsKeyIter it d i n ep) (hod:s.heap.get? d=some od) (hdd:od.data = .dict es ep)
  (hsz:es.size=n) (hx:es[i]? = some en) (hQ:∀ h',h'.IsKeyIter it d (i + 1) n ep->Heap.SameBut it s.heap h'->Q (some en.key) { s with heap:=h' }):wpAny (model prog w) A (pyNext (.ref it)) Q E s:=by
 obtain ⟨o,ho,hc,hd⟩:=id hit
 unfold pyNext
 refine wpAny_bind (wpAny_attempt (wpAny_callSpecial?_slot (name:=Str.ofString "__next__") hit.typeIs F.slot_dict_keyiterator_next
  (wpAny_call_entry F.slot_dict_keyiterator_next hit.typeIs F.entry_dict_keyiterator_next ?_ (F.args_dict_keyiterator_next_1 _))))
 refine wpAny_bind (wpAny_pure ?_)
 refine wpAny_bind ?_
 refine wpAny_bind ?_
 first | refine wpAny_bind (wpAny_typeNameOfWhole_keyiter hit.typeIs (wpAny_pure ?_)) | refine wpAny_bind (wpAny_typeNameOf_keyiter hit.typeIs (wpAny_pure ?_))
 refine wpAny_bind (wpAny_fieldsOf ho hd ?_)
 have hown:Builtin.Dict_items.ownsTuple "dict_keyiterator" = false:=by decide
 simp only [hown,Bool.false_eq_true,if_false]
 show wpAny _ _ (if (Value.ref d == Value.none)=true then _ else _) _ _ s
 rw [if_neg (show ¬ ((Value.ref d == Value.none)=true) from Bool.false_ne_true)]
 refine wpAny_bind (wpAny_pure ?_)
 refine wpAny_bind (wpAny_dictEntries hod hdd ?_)
 rw [if_neg (by rw [hsz]; simp)]
 refine wpAny_bind (wpAny_pure ?_)
 refine wpAny_bind (wpAny_dictEpoch hod hdd ?_)
 rw [if_neg (by simp)]
 refine wpAny_pure ?_
 obtain ⟨hlt',hen⟩:=Array.getElem?_eq_some_iff.mp hx
 simp only [show ¬ ((i:Int) < 0) from by omega,if_false,Int.toNat_natCast,Array.getElem?_eq_getElem hlt']
 refine wpAny_bind ?_
 first | refine wpAny_bind (wpAny_typeNameOfWhole_keyiter hit.typeIs (wpAny_pure ?_)) | refine wpAny_bind (wpAny_typeNameOf_keyiter hit.typeIs (wpAny_pure ?_))
 refine wpAny_bind (wpAny_isOneOf_keyiter hit.typeIs ?_)
 show wpAny _ _ (setField (.ref it) 1 (rawInt ((i:Int) + 1)) >>= _) _ _ s
 refine wpAny_bind (wpAny_setField ho hd (by simp) ?_)
 have hit':(s.heap.update it (Obj.mapFields (·.setIfInBounds 1 (rawInt ((i:Int) + 1))))).IsKeyIter it d (i + 1) n ep :=
  ⟨_,Heap.get?_update_self _ ho (Obj.isFreed_of_fields (Obj.data_mapFields hd _)),(Obj.cls_mapFields ..).trans hc,by rw [Obj.data_mapFields hd]; simp [rawInt]⟩
 refine wpAny_bind (wpAny_holding ?_)
 refine wpAny_bind (wpAny_isOneOf_keyiter (s:={ s with heap:=s.heap.update it (Obj.mapFields (·.setIfInBounds 1 (rawInt ((i:Int) + 1)))) }) hit'.typeIs ?_)
 show wpAny _ _ (pure es[i].key) _ _ _
 rw [hen]
 exact wpAny_pure (wpAny_pure ⟨_,rfl,wpAny_pure (hQ _ hit' (Heap.SameBut.update ..))⟩)
theorem JV {it d:Addr} {i n ep:Nat} {od:Obj} {es:Array DictEntry} {Q:Option Value->Shared->Prop} (hh:A.handled=none) (hit:s.heap.IsKeyIter it d i n ep) (hod:s.heap.get? d=some od) (hdd:od.data = .dict es ep)
  (hsz:es.size=n) (hge:n <= i) (hQ:∀ h',Heap.ExtBut it s.heap h'->Q none { s with heap:=h' }):wpAny (model prog w) A (pyNext (.ref it)) Q E s:=by
 obtain ⟨o,ho,hc,hd⟩:=id hit
 unfold pyNext
 refine wpAny_bind (wpAny_attempt (wpAny_callSpecial?_slot (name:=Str.ofString "__next__") hit.typeIs F.slot_dict_keyiterator_next
  (wpAny_call_entry F.slot_dict_keyiterator_next hit.typeIs F.entry_dict_keyiterator_next ?_ (F.args_dict_keyiterator_next_1 _))))
 refine wpAny_bind (wpAny_pure ?_)
 refine wpAny_bind ?_
 refine wpAny_bind ?_
 first | refine wpAny_bind (wpAny_typeNameOfWhole_keyiter hit.typeIs (wpAny_pure ?_)) | refine wpAny_bind (wpAny_typeNameOf_keyiter hit.typeIs (wpAny_pure ?_))
 refine wpAny_bind (wpAny_fieldsOf ho hd ?_)
 have hown:Builtin.Dict_items.ownsTuple "dict_keyiterator" = false:=by decide
 simp only [hown,Bool.false_eq_true,if_false]
 show wpAny _ _ (if (Value.ref d == Value.none)=true then _ else _) _ _ s
 rw [if_neg (show ¬ ((Value.ref d == Value.none)=true) from Bool.false_ne_true)]
 refine wpAny_bind (wpAny_pure ?_)
 refine wpAny_bind (wpAny_dictEntries hod hdd ?_)
 rw [if_neg (by rw [hsz]; simp)]
 refine wpAny_bind (wpAny_pure ?_)
 refine wpAny_bind (wpAny_dictEpoch hod hdd ?_)
 rw [if_neg (by simp)]
 refine wpAny_pure ?_
 have hge':es.size <= i:=by rw [hsz]; exact hge
 simp only [show ¬ ((i:Int) < 0) from by omega,if_false,Int.toNat_natCast,Array.getElem?_eq_none hge']
 refine wpAny_bind ?_
 first | refine wpAny_bind (wpAny_typeNameOfWhole_keyiter hit.typeIs (wpAny_pure ?_)) | refine wpAny_bind (wpAny_typeNameOf_keyiter hit.typeIs (wpAny_pure ?_))
 show wpAny _ _ (setField (.ref it) 0 .none >>= _) _ _ s
 refine wpAny_bind (wpAny_setField ho hd (by simp) ?_)
 show wpAny _ _ (newExc (.type "StopIteration") [] >>= _) _ _ _
 refine wpAny_bind ?_
 simp only [newExc,newTuple]
 refine wpAny_bind (wpAny_newObj_type ?_ (by size_fits))
 refine wpAny_bind (m:=firstArgMember _ _) (wpAny_of_eq (a:=Value.none) (by first | rfl | (simp only [firstArgMember]; rfl)) ?_)
 refine wpAny_newObj_type ?_ (by size_fits)
 simp only [raiseNew]
 refine wpAny_bind (wpAny_handled ?_)
 rw [show A.in1.handled=none from hh]
 refine wpAny_bind (wpAny_pure (wpAny_throw ?_))
 refine wpAny_bind (wpAny_isInstance (T := "StopIteration") (b:=true) ⟨_,Heap.get?_push_size _ rfl,rfl⟩ isSubtype_stop ?_)
 exact wpAny_pure (hQ _ (((Heap.SameBut.update ..).extBut.push _).push _))
end
theorem aiE {κ:Type} {kvs:List (κ × V)} {vs:List (κ × Value)} (h:KV kvs vs):∀ {i:Nat} {k:κ} {v:V},kvs[i]? = some (k,v)->∃ u,vs[i]? = some (k,u)/\RelV v u:=by
 unfold KV at h
 induction h with
 | nil=>intro i k v e; simp at e
 | @cons a b l₁ l₂ r t ih =>
  intro i k v e
  cases i with
  | zero =>
   simp only [List.getElem?_cons_zero,Option.some.injEq] at e
   subst e
   refine ⟨b.2,?_,r.2⟩
   simp only [List.getElem?_cons_zero]
   exact congrArg some (Prod.ext r.1.symm rfl)
  | succ j =>
   simp only [List.getElem?_cons_succ] at e ⊢
   exact ih e
theorem Ca {α β:Type} {G:α->β->Prop} {l₁:List α} {l₂:List β} (h:Paired G l₁ l₂):∀ {i:Nat} {a:α},l₁[i]? = some a->∃ b,l₂[i]? = some b/\G a b:=by
 induction h with
 | nil=>intro i a e; simp at e
 | @cons a b l₁ l₂ r t ih =>
  intro i a' e
  cases i with
  | zero =>
   simp only [List.getElem?_cons_zero,Option.some.injEq] at e
   subst e
   exact ⟨b,rfl,r⟩
  | succ j =>
   simp only [List.getElem?_cons_succ] at e ⊢
   exact ih e
theorem afz {k:Key} {u:Value} (h:Tn k u=true):RelV (kV k) u:=by
 rcases Dh h with ⟨i,t,rfl,rfl⟩ | ⟨x,t,rfl,rfl⟩
 ·exact ⟨t,rfl⟩
 ·exact ⟨t,rfl⟩
section
variable {X:Cx} {pins:List (Addr × Obj)} {σ:St} {H:Hp} {s:Shared} {d:Addr} {o:Obj}
theorem Inv.aiY {kvs:List (Key × V)} (I:Inv X pins σ H s) (h:H d=some (.frz o (.dK kvs))) :
  (d == sysModules)=false/\s.heap.get? d=some o/\o.ExactDict/\∃ (es:Array DictEntry) (ep:Nat) (vs:List (Key × Value)),o.data = .dict es ep/\es.size=kvs.length/\KV kvs vs/\s.heap.DictAt (Dg X.prog X.w) d vs ep:=by
 obtain ⟨hd,z,hs,vs,kv,o',es,ep,ho,hx,hdt,r⟩:=I.hok d _ h
 rw [hd] at ho
 cases ho
 refine ⟨hs,hd,hx,es,ep,vs,hdt,?_,kv,o,es,hd,hx,hdt,r⟩
 have l1:=r.2.1.length
 have l2:kvs.length=vs.length:=Paired.length kv
 rw [Array.length_toList] at l1
 omega
theorem Inv.aiX {kvs:List (List Key × V)} (I:Inv X pins σ H s) (h:H d=some (.frz o (.dT kvs))) :
  (d == sysModules)=false/\s.heap.get? d=some o/\o.ExactDict/\∃ (es:Array DictEntry) (ep:Nat),o.data = .dict es ep/\es.size=kvs.length /\
   ∀ (i:Nat) (k:List Key) (v:V),kvs[i]? = some (k,v)->∃ (en:DictEntry) (q:Addr),es[i]? = some en/\en.key = .ref q/\H q=some (.tup (k.map kV)):=by
 obtain ⟨hd,z,hs,xs,pr,o',es,ep,ho,hx,hdt,he,_⟩:=I.hok d _ h
 rw [hd] at ho
 cases ho
 refine ⟨hs,hd,hx,es,ep,hdt,?_,fun i k v e=>?_⟩
 ·have l1:es.size=xs.length:=size_of_entries he
  have l2:kvs.length=xs.length:=Paired.length pr
  omega
 ·obtain ⟨b,hb,e1,e2,_⟩:=Ca pr e
  have q:=entry_at he i
  rw [hb] at q
  exact ⟨_,b.2.1,q,rfl,e2⟩
end
def Itk (d:Addr) (o:Obj) (kvs:List (Key × V)):It :=
 ⟨fun i H=>H d=some (.frz o (.dK kvs))/\i < kvs.length,fun i H x H'=>H'=H/\∃ k v,kvs[i]? = some (k,v)/\x=kV k,fun i H=>H d=some (.frz o (.dK kvs))/\kvs.length <= i⟩
def ako (d:Addr) (o:Obj) (kvs:List (List Key × V)):It :=
 ⟨fun i H=>H d=some (.frz o (.dT kvs))/\i < kvs.length,fun i H x H'=>H'=H/\∃ (k:List Key) (v:V) (q:Addr),kvs[i]? = some (k,v)/\x = .ref q/\H q=some (.tup (k.map kV)),fun i H=>H d=some (.frz o (.dT kvs))/\kvs.length <= i⟩
theorem MJ {o:Obj} {es es':Array DictEntry} {ep ep':Nat} (h:o.data = .dict es ep) (h':o.data = .dict es' ep'):es'=es/\ep'=ep:=by
 rw [h] at h'
 cases h'
 exact ⟨rfl,rfl⟩
section
variable {P:Program} {w:World} {K:PySem.W.Frag} {tg:Expr} {d:Addr} {o:Obj} {es:Array DictEntry} {ep:Nat}
theorem ad9 {kvs:List (Key × V)} (it:Addr) (hod:o.data = .dict es ep):Turn P w K tg (Itk d o kvs) [it] it (fun i h=>h.IsKeyIter it d i kvs.length ep) where
 mem:=by simp
 obj:=fun i h st b hb=>by
  have e:b=it:=by simpa using hb
  subst e
  obtain ⟨oi,e,c,dd⟩:=st
  exact ⟨oi,e,fun v z=>by rw [dd] at z; cases z⟩
 keep:=fun i h h' st k=>st.at fun oi e=>k it (by simp) oi e
 item:=by
  intro X hP hw hK hc i pins s σ H E I hf st hg
  subst hP hw hK
  obtain ⟨hd,hi⟩:=hg
  obtain ⟨f0,f1,f2,f3,f4,f5⟩:=hf it (by simp)
  obtain ⟨hs,hgd,hx,es',ep',vs,hdt,hsz,kv,hm⟩:=I.aiY hd
  obtain ⟨rfl,rfl⟩:=MJ hod hdt
  obtain ⟨⟨k,v⟩,hkv⟩:∃ p,kvs[i]? = some p:=⟨kvs[i],List.getElem?_eq_getElem hi⟩
  obtain ⟨u,hu,ru⟩:=aiE kv hkv
  have hl:kvs.length=vs.length:=Paired.length kv
  rw [hl] at st
  refine wpAny_pyNext_dict_item st hm hu fun key h' hkey st' sb=>?_
  have I1:Inv X pins σ H { s with heap:=h' }:=I.turned (t':=s.toks) (fun b ob hb e=>(sb.2 b hb).trans e) f0 f1 f3 f4 f5
  obtain ⟨oi,e,c,dd⟩:=id st'
  refine ⟨key,rfl,YK (s:={ s with heap:=h' }) e c dd (by decide) ⟨kV k,H,I1,afz (show Tn k key=true from hkey),⟨rfl,k,v,hkv,rfl⟩,?_,fun b hb=>(hf b hb).1⟩⟩
  show h'.IsKeyIter it d (i + 1) kvs.length _
  rw [hl]
  exact st'
 done:=by
  intro X hP hw hK hc i pins s σ H E I hf st hg
  subst hP hw hK
  obtain ⟨hd,hi⟩:=hg
  obtain ⟨f0,f1,f2,f3,f4,f5⟩:=hf it (by simp)
  obtain ⟨hs,hgd,hx,es',ep',vs,hdt,hsz,kv,hm⟩:=I.aiY hd
  obtain ⟨rfl,rfl⟩:=MJ hod hdt
  exact JV (I.ok.hd hc) st hgd hdt hsz hi fun h' eb=>⟨rfl,I.turned (t':=s.toks) (fun b ob hb e=>eb b ob hb e) f0 f1 f3 f4 f5⟩
 self:=fun A i s Q E st h=>wpAny_pyIter_keyiter st h
theorem ab7 {kvs:List (List Key × V)} (it:Addr) (hod:o.data = .dict es ep):Turn P w K tg (ako d o kvs) [it] it (fun i h=>h.IsKeyIter it d i kvs.length ep) where
 mem:=by simp
 obj:=fun i h st b hb=>by
  have e:b=it:=by simpa using hb
  subst e
  obtain ⟨oi,e,c,dd⟩:=st
  exact ⟨oi,e,fun v z=>by rw [dd] at z; cases z⟩
 keep:=fun i h h' st k=>st.at fun oi e=>k it (by simp) oi e
 item:=by
  intro X hP hw hK hc i pins s σ H E I hf st hg
  subst hP hw hK
  obtain ⟨hd,hi⟩:=hg
  obtain ⟨f0,f1,f2,f3,f4,f5⟩:=hf it (by simp)
  obtain ⟨hs,hgd,hx,es',ep',hdt,hsz,ent⟩:=I.aiX hd
  obtain ⟨rfl,rfl⟩:=MJ hod hdt
  obtain ⟨⟨k,v⟩,hkv⟩:∃ p,kvs[i]? = some p:=⟨kvs[i],List.getElem?_eq_getElem hi⟩
  obtain ⟨en,q,hen,hkey,hq⟩:=ent i k v hkv
  refine NT st hgd hdt hsz hen fun h' st' sb=>?_
  have I1:Inv X pins σ H { s with heap:=h' }:=I.turned (t':=s.toks) (fun b ob hb e=>(sb.2 b hb).trans e) f0 f1 f3 f4 f5
  obtain ⟨oi,e,c,dd⟩:=id st'
  exact ⟨en.key,rfl,YK (s:={ s with heap:=h' }) e c dd (by decide) ⟨.ref q,H,I1,hkey,⟨rfl,k,v,q,hkv,rfl,hq⟩,st',fun b hb=>(hf b hb).1⟩⟩
 done:=by
  intro X hP hw hK hc i pins s σ H E I hf st hg
  subst hP hw hK
  obtain ⟨hd,hi⟩:=hg
  obtain ⟨f0,f1,f2,f3,f4,f5⟩:=hf it (by simp)
  obtain ⟨hs,hgd,hx,es',ep',hdt,hsz,ent⟩:=I.aiX hd
  obtain ⟨rfl,rfl⟩:=MJ hod hdt
  exact JV (I.ok.hd hc) st hgd hdt hsz hi fun h' eb=>⟨rfl,I.turned (t':=s.toks) (fun b ob hb e=>eb b ob hb e) f0 f1 f3 f4 f5⟩
 self:=fun A i s Q E st h=>by
  refine wpAny_pyIter_slot st.typeIs F.slot_dict_keyiterator_iter (wpAny_call_entry F.slot_dict_keyiterator_iter st.typeIs F.entry_dict_keyiterator_iter ?_ (F.args_dict_keyiterator_iter_1 _))
  show wpAny _ _ (ret (.ref it)) _ _ s
  exact wpAny_pure ⟨_,rfl, "dict_keyiterator",_,st.typeIs,F.slot_dict_keyiterator_next.lookup,h⟩
end
def ajP (td:TE):TI:=fun σ H R=>td σ H fun x H1=>∃ d o,x = .ref d/\((∃ kvs,H1 d=some (.frz o (.dK kvs))/\R (Itk d o kvs) H1) \/ ∃ kvs,H1 d=some (.frz o (.dT kvs))/\R (ako d o kvs) H1)
section
variable {X:Cx} {tg e:Expr} {td:TE} {apos cpos:Pos}
theorem agX (he:PE X e td):PI X tg e (ajP td):=by
 intro pins s σ H R I h
 refine thn (he pins s σ H _ I h) fun u s1 ⟨x,H1,I1,rx,d,o,ex,q⟩=>?_
 subst ex
 obtain rfl:u=Value.ref d:=rx
 rcases q with ⟨kvs,hd,q⟩ | ⟨kvs,hd,q⟩
 ·obtain ⟨hs,hgd,hx,es,ep,vs,hdt,hsz,kv,hm⟩:=I1.aiY hd
  refine Ry hs hgd hx hdt (Rm (tk:=s1.toks) I1 _ (ad9 _ hdt) ⟨_,Heap.get?_push_size _ rfl,rfl,?_⟩ q)
  rw [hsz] <;> rfl
 ·obtain ⟨hs,hgd,hx,es,ep,hdt,hsz,ent⟩:=I1.aiX hd
  refine Ry hs hgd hx hdt (Rm (tk:=s1.toks) I1 _ (ab7 _ hdt) ⟨_,Heap.get?_push_size _ rfl,rfl,?_⟩ q)
  rw [hsz] <;> rfl
end
def Ite (K:PySem.W.Frag) (a:Addr):It :=
 ⟨fun i H=>∃ (xs:List V) (x:V),SqL K H a xs/\xs[i]? = some x,fun i H v H'=>∃ T x,v = .ref T/\H T=none/\H'=upd H T (.tup [.int (i:Nat),x])/\∀ xs,SqL K H a xs->xs[i]? = some x,fun i H=>∃ xs:List V,SqL K H a xs/\xs.length <= i⟩
theorem aea {P:Program} {w:World} {K:PySem.W.Frag} {elts:List Expr} {kk:Nat} {tpos:Pos} (a e it:Addr) :
  Turn P w K (.Tuple elts kk tpos) (Ite K a) [e,it] e (fun i h=>(∃ old,IsEnum h e it ((i:Nat):Int) old)/\h.IsListIter it a i/\e ≠ it) where
 mem:=by simp
 obj:=fun i h st b hb=>by
  obtain ⟨⟨old,he⟩,⟨o,ho,hc,hd⟩,_⟩:=st
  have e':b=e \/ b=it:=by simpa using hb
  rcases e' with z | z
  ·rw [z]; exact ⟨_,he,fun v q=>nomatch q⟩
  ·rw [z]; exact ⟨o,ho,fun v q=>by rw [hd] at q; cases q⟩
 keep:=fun i h h' st k=>let ⟨⟨old,he⟩,hi,hne⟩:=st; ⟨⟨old,k e (by simp) _ he⟩,hi.at fun o q=>k it (by simp) o q,hne⟩
 item:=by
  intro X hP hw hK hc i pins s σ H E I hf st hg
  subst hP hw hK
  obtain ⟨⟨old,he⟩,hit,hne⟩:=st
  obtain ⟨xs,x,hq,hx⟩:=hg
  obtain ⟨its,rv,p,hz⟩:=I.list hq
  obtain ⟨u,hu,ru⟩:=rv.get hx
  have hel:e < s.heap.objs.size:=Heap.lt_size he
  have hil:it < s.heap.objs.size:=by obtain ⟨_,q,_⟩:=hit; exact Heap.lt_size q
  refine wpAny_pyNext_enum_item he hit p.isList (x:=u) (by simpa using hu) hne fun h' ho hit' hT hsz hk=>?_
  refine ⟨_,rfl,wpAny_letOwnedTupleGo_enum (s:={ s with heap:=h',toks:=s.toks + 1 }) ho fun h'' he' sb=>?_⟩
  have hT2:h''.get? s.heap.objs.size=some { cls:=.type "tuple",data:=.seq #[.int i s.toks,u] }:=(sb.2 _ (Nat.ne_of_gt hel)).trans hT
  have new:DN X.prog X.w (upd H s.heap.objs.size (.tup [.int (i:Nat),x])) h'' s.heap.objs.size (.tup [.int (i:Nat),x]) :=
   ⟨by show 2 <= sizeLine; decide,[.int i s.toks,u],.cons ⟨_,rfl⟩ (.cons ru .nil),⟨_,hT2,rfl,_,rfl⟩⟩
  have I1:Inv X pins σ (upd H s.heap.objs.size (.tup [.int (i:Nat),x])) { s with heap:=h'',toks:=s.toks + 1 } :=
   I.QQ (ch:=[e,it]) (fun b ob hb q=>(sb.2 b (fun z=>hb (by simp [z]))).trans (hk b ob (fun z=>hb (by simp [z])) (fun z=>hb (by simp [z])) q)) hf (Nat.le_refl _) new
  refine ⟨.ref s.heap.objs.size,_,I1,rfl,⟨_,x,rfl,I.hok.fresh (Nat.le_refl _),rfl,fun ys hy=>by rw [I.aa8 hy hq]; exact hx⟩,⟨⟨u,?_⟩,hit'.at fun o q=>(sb.2 it (Ne.symm hne)).trans q,hne⟩,fun b hb=>?_⟩
  ·have e1:((i + 1:Nat):Int)=(i:Int) + 1:=by omega
   rw [e1]; exact he'
  ·have hb':b < s.heap.objs.size:=by
    have e':b=e \/ b=it:=by simpa using hb
    rcases e' with z | z
    ·rw [z]; exact hel
    ·rw [z]; exact hil
   rw [Ah (Nat.ne_of_lt hb')]
   exact (hf b hb).1
 done:=by
  intro X hP hw hK hc i pins s σ H E I hf st hg
  subst hP hw hK
  obtain ⟨⟨old,he⟩,hit,hne⟩:=st
  obtain ⟨xs,hq,hx⟩:=hg
  obtain ⟨its,rv,p,hz⟩:=I.list hq
  obtain ⟨f0,f1,f2,f3,f4,f5⟩:=hf it (by simp)
  have hl:=rv.length
  exact wpAny_pyNext_enum_end (I.ok.hd hc) he hit p.isList (by simp; omega) fun h' eb=>⟨rfl,I.turned (t':=s.toks) (fun b o hb q=>eb b o hb q) f0 f1 f3 f4 f5⟩
 self:=fun A i s Q E st h=>let ⟨⟨_,he⟩,_⟩:=st; wpAny_pyIter_enum he h
def ajQ (K:PySem.W.Frag) (ta:TA):TI:=fun σ H R=>ta σ H fun vs H1=>∃ a xs,vs=[.ref a]/\SqL K H1 a xs/\R (Ite K a) H1
theorem JQ {X:Cx} {e:Expr} {ta:TA} {p pos tpos:Pos} {elts:List Expr} {kk:Nat} (hg:Gl X "enumerate") (hm:X.mg "enumerate" = none) (ha:PA X [e] ta) (hs:starEach [e] X.env=[(false,eval e X.env)]:=by rfl) :
  PI X (.Tuple elts kk tpos) (.Call (.Name "enumerate" p) [e] [] pos) (ajQ X.K ta):=by
 intro pins s σ H R I h
 refine Call_ (Rw I hg hm boot_enumerate (PyProof.Rows.callWith_type1 (thn (ha pos pins s σ H _ I h) fun us s1 ⟨vs,H1,I1,r1,q1⟩=>?_) hs rfl))
 obtain ⟨a,xs,ex,hq,q⟩:=q1
 subst ex
 cases r1 with
 | cons r rr =>
  cases rr
  cases r
  obtain ⟨its,rv,p',hz⟩:=I1.list hq
  refine call_enumerate_list p'.isList fun h' he hit hsz hk=>wpAny_pyIter_enum he ?_
  have I2:Inv X pins σ H1 { s1 with heap:=h' }:=I1.kept (t':=s1.toks) hk
  refine ⟨s1.heap.objs.size + 1,[s1.heap.objs.size + 1,s1.heap.objs.size],_,_,H1,rfl,I2,aea a (s1.heap.objs.size + 1) s1.heap.objs.size,⟨⟨.none,he⟩,hit,Nat.succ_ne_self _⟩,fun b hb=>?_,q⟩
  have e':b=s1.heap.objs.size + 1 \/ b=s1.heap.objs.size:=by simpa using hb
  have hle:s1.heap.objs.size <= b:=by
   rcases e' with z | z
   ·rw [z]; exact Nat.le_add_right _ _
   ·rw [z]; exact Nat.le_refl _
  exact I1.acV hle (I1.hok.fresh hle)
end L2
section
namespace akq
open PySem PyProof.Rows
theorem agw {x y:Int} (hx:0 <= x) (hy:0 <= y):Builtin.bitOr x y=((x.toNat ||| y.toNat:Nat):Int):=by
 have e:=nat_or_add_and x.toNat y.toNat
 rw [bitOr_and,bitAnd_pp hx hy]
 omega
end akq
end
section
namespace TL
open PySem PySem.Builtin PySem.Builtin.Str PySem.StrLaws
end TL
end
namespace L2
open PySem PySem.Spec PyProof.Rows
end L2
namespace Att
open PySem PySem.W PySem.Calls PyProof.Rows
end Att
namespace L2
open PySem PySem.Spec PyProof.Rows
end L2
namespace L2
open PySem PySem.Spec PyProof.Rows
def inClass (s:Stmt) (j:Nat):Stmt:=match s with
 | .ClassDef _ _ _ body _ _ _ _ _ _ _=>body.getD j (.Pass ⟨0,0,0,0⟩)
 | _=>.Pass ⟨0,0,0,0⟩
def Hm (s:Stmt):Arguments:=match s with
 | .FunctionDef _ a _ _ _ _ _ _ _ _=>a
 | _=>{ posonlyargs:=[],args:=[],vararg:=none,kwonlyargs:=[],kw_defaults:=[],kwarg:=none,defaults:=[] }
def Fv (s:Stmt):List Stmt:=match s with
 | .FunctionDef _ _ b _ _ _ _ _ _ _=>b
 | _=>[]
def Al (s:Stmt):Scope:=match s with
 | .FunctionDef _ _ _ _ _ _ sc _ _ _=>sc
 | _=>{ kind:=.function,names:=[],isGenerator:=false,isCoroutine:=false }
abbrev CX0:CXT:=fun _ _ _ _ _ _=>False
abbrev E0:XK:=fun _ _ _=>False
theorem afK {X:Cx}:Passes CX0 X E0:=fun _ _ _ _ _ _ _ h=>h.elim
structure Fun (K:PySem.W.Frag) (x qual:Str) (st:Stmt) (f:Addr) (fd:FuncData):Prop where
 ex:∃ (oc:Value) (od:Option Addr) (kV doc pm:Value) (an:Option Addr) (cdv ct:Value) (osl:Array (Option Value)),
  fd=PySem.W.fnOf x qual (Hm st) (Fv st) (Al st) .none kV doc pm an cdv ct/\K.lookup f=some ⟨oc,od,.func fd,osl⟩/\PySem.W.codeIn K cdv qual=true
 kp:PySem.W.keepIn K (.ref f)=true
section
variable {P:Program} {w:World} {K:PySem.W.Frag} {mg:Str->Option Value} {base:Heap}
theorem Fun.ok {x qual:Str} {st:Stmt} {f:Addr} {fd:FuncData} {N ps:List Str} {k:Nat} {sp:Sp} (F:Fun K x qual st f fd) (S:Av N ps (Al st)) (len:∀ vs H Q E,sp vs H Q E->vs.length=ps.length)
  (hbody:∀ (cdv:Value) (A:Around) (outer:List Env) (s:Shared) (H:Hp) (vs:List V) (Q:VK) (E:XK),Fq k (A.deeper (envOfC qual (Al st) s.heap.objs.size f cdv))->sp vs H Q E ->
   ∃ t,PSs (abz CX0 P w K mg base N qual (Al st) f cdv A outer s H E).nox (Fv st) t/\t { nx:=fun _ H'=>Q .non H',rt:=Q } (start N vs) H):QH P w K mg base CX0 (k + 1) f fd ps sp:=by
 obtain ⟨oc,od,kV,doc,pm,an,cdv,ct,osl,rfl,lk,hcd⟩:=F.ex
 refine akd lk hcd S len fun A outer s H vs Q E hr hsp=>?_
 obtain ⟨t,h,q⟩:=hbody cdv A outer s H vs Q E hr hsp
 exact ⟨t,h.nox,q⟩
theorem Fun.binds {x qual:Str} {st:Stmt} {f:Addr} {fd:FuncData} {ps:List Str} (F:Fun K x qual st f fd)
  (h:∀ (kV doc pm:Value) (an:Option Addr) (cdv ct:Value) (us:List Value),us.length=ps.length->bindArgs (PySem.W.fnOf x qual (Hm st) (Fv st) (Al st) .none kV doc pm an cdv ct) ⟨us,[]⟩=pure (ps.zip us)):Binds K fd ps []:=by
 obtain ⟨oc,od,kV,doc,pm,an,cdv,ct,osl,rfl,lk,hcd⟩:=F.ex
 exact .all (h kV doc pm an cdv ct)
theorem Wr {x qual:Str} {st:Stmt} {f:Addr} {oc:Value} {od an:Option Addr} {osl:Array (Option Value)} {kV doc pm cdv ct:Value} (l:K.lookup f=some ⟨oc,od,.func (PySem.W.fnOf x qual (Hm st) (Fv st) (Al st) .none kV doc pm an cdv ct),osl⟩)
  (c:PySem.W.codeIn K cdv qual=true) (k:PySem.W.keepIn K (.ref f)=true):Fun K x qual st f (PySem.W.fnOf x qual (Hm st) (Fv st) (Al st) .none kV doc pm an cdv ct):=⟨⟨oc,od,kV,doc,pm,an,cdv,ct,osl,rfl,l,c⟩,k⟩
end
theorem Jq {A:Around} {k:Nat} (hr:Fq k A):A.units + 1 < cLine:=Nat.lt_of_le_of_lt (Nat.add_le_add_left (by decide:1 <= 64) _) hr.units
section
variable {X:Cx}
theorem pv (i:Nat) {x:Str} {pos:Pos} (hN:X.N[i]? = some x:=by rfl) (hv:Vis X.env.scope x:=by first | exact Or.inl rfl | exact Or.inr (Or.inl rfl) | exact Or.inr (Or.inr rfl)) (hd:(x == ("__debug__" : Str))=false:=by decide)
  (hcd:(x == ("__classdict__" : Str))=false:=by decide):PE X (.Name x pos) (ajl i):=ain hN hv hd hcd
end
theorem Ej {A B:Prop} (h:B):if false=true then A else B:=by
 rw [if_neg Bool.false_ne_true]
 exact h
theorem Dm {A B:Prop} (h:A):if true=true then A else B:=by
 rw [if_pos rfl]
 exact h
theorem BJ {c A B:Prop} [Decidable c] (h1:c->A) (h2:¬ c->B):if c then A else B:=by
 by_cases h:c
 ·rw [if_pos h]
  exact h1 h
 ·rw [if_neg h]
  exact h2 h
def Ai (H H':Hp):Prop:=∀ b o,H b=some o->H' b=some o
theorem Ai.refl (H:Hp):Ai H H:=fun _ _ h=>h
theorem Ai.trans {H H1 H2:Hp} (a:Ai H H1) (b:Ai H1 H2):Ai H H2:=fun c o h=>b c o (a c o h)
theorem Ai.free {H H':Hp} (e:Ai H H') {l:Addr} (h:H' l=Option.none):H l=Option.none:=by
 cases q:H l with
 | none=>rfl
 | some o =>
  rw [e l o q] at h
  cases h
theorem Ai.seq {K:PySem.W.Frag} {H H':Hp} {a:Addr} {xs:List V} (e:Ai H H') (h:SqL K H a xs):SqL K H' a xs:=by
 rcases h with (h | ⟨o,h⟩) | h
 ·exact .inl (.inl (e _ _ h))
 ·exact .inl (.inr ⟨o,e _ _ h⟩)
 ·exact .inr h
section
variable {κ:Type} [DecidableEq κ]
theorem agJ {kvs:List (κ × V)} {k:κ} {v:V} (h:Ez kvs k=some v):k ∈ kvs.map (·.1):=by
 have q:(kvs.any fun kv=>decide (kv.1=k))=true:=by
  rw [IK,h]
  all_goals rfl
 obtain ⟨p,hp,e⟩:=List.any_eq_true.mp q
 exact List.mem_map.mpr ⟨p,hp,of_decide_eq_true e⟩
theorem ZP:∀ {l:List κ} {k:κ},l.Nodup -> ¬ k ∈ l->(l ++ [k]).Nodup
 | [],k,_,_=>by simp
 | a :: r,k,h,hk=>by
  obtain ⟨h1,h2⟩:=List.nodup_cons.mp h
  show (a :: (r ++ [k])).Nodup
  refine List.nodup_cons.mpr ⟨fun m=>?_,ZP h2 fun m=>hk (List.mem_cons.mpr (Or.inr m))⟩
  rcases List.mem_append.mp m with q | q
  ·exact h1 q
  ·exact hk (List.mem_cons.mpr (Or.inl (List.mem_singleton.mp q).symm))
end
theorem at_of {xs:List V} {z:Int} {j:Nat} {v:V} (e:z=(j:Int)) (h:xs[j]? = some v):atI xs z=some v:=by
 rw [e]
 exact adW h
theorem ahQ {α:Type} {l:List α} (hN:l.Nodup) {i j:Nat} {x:α} (a:l[i]? = some x) (b:l[j]? = some x):i=j:=by
 obtain ⟨h1,e1⟩:=List.getElem?_eq_some_iff.mp a
 obtain ⟨h2,e2⟩:=List.getElem?_eq_some_iff.mp b
 exact (List.getElem_inj hN).mp (e1.trans e2.symm)
theorem Ai.made {H H1:Hp} {x dx C:Addr} (nx:H x=Option.none) (nd:H dx=Option.none) (k:∀ b o,(upd (upd H dx (.own x)) x (.ins C dx [])) b=some o->b ≠ x->H1 b=some o):Ai H H1:=fun b o e =>
 k b o (by rw [Ah (Bq e nx),Ah (Bq e nd)]; exact e) (Bq e nx)
end L2
section
namespace L2
open PySem PySem.Spec PyProof.Rows
open PySem.W (WData Codec OpenSpec Well WellAll ReadsW ReadsAllW)
mutual
inductive Dw (K:PySem.W.Frag) (H:Hp):V->WData->Prop
 | non:Dw K H .non .none
 | bl (b:Bool):Dw K H (.bl b) (.bool b)
 | int (i:Int):Dw K H (.int i) (.int i)
 | str (x:Str):Dw K H (.str x) (.str x)
 | byt (b:Array UInt8):Dw K H (.byt b) (.bytes b.toList)
 | lst {a:Addr} {xs:List V} {ds:List WData}:SqL K H a xs->Kr K H xs ds->Dw K H (.ref a) (.list ds)
 | tup {a:Addr} {xs:List V} {ds:List WData}:SqT K H a xs->Kr K H xs ds->Dw K H (.ref a) (.tuple ds)
inductive Kr (K:PySem.W.Frag) (H:Hp):List V->List WData->Prop
 | nil:Kr K H [] []
 | cons {v:V} {vs:List V} {d:WData} {ds:List WData}:Dw K H v d->Kr K H vs ds->Kr K H (v :: vs) (d :: ds)
end
theorem adP {K:PySem.W.Frag} {H:Hp}:∀ ns:List Int,Kr K H (ns.map V.int) (ns.map WData.int)
 | []=>.nil
 | n :: r=>.cons (.int n) (adP r)
theorem U6 {K:PySem.W.Frag} {H:Hp}:∀ (ns:List Int) (xs:List V),Kr K H xs (ns.map WData.int)->xs=ns.map V.int
 | [],xs,h=>by
  cases h
  rfl
 | n :: r,xs,h=>by
  cases h with
  | cons h1 h2 =>
   cases h1
   rw [U6 r _ h2] <;> rfl
section
variable {P:Program} {w:World} {K:PySem.W.Frag} {H:Hp} {h:Heap} {R:PySem.W.WRecords} {cl:Str->Option Addr}
theorem aie {a:Addr} {xs:List V} (hok:HOk P w H h) (KX:K.In h) (q:SqL K H a xs):∃ (its:List Value) (o:Obj) (n:Nat),Vals xs its/\h.get? a=some o/\o.cls = .type "list" /\ o.data = .seq its.toArray n:=by
 rcases q with q | ⟨o,its,n,e,hc,_,hd,_,hv⟩
 ·obtain ⟨_,its,n,hv,e⟩:=(show DN P w H h a (.lst xs) from q.ok hok)
  exact ⟨its,_,n,hv,e,rfl,rfl⟩
 ·exact ⟨its.toList,o,n,hv,KX _ _ e,hc,by simp [hd]⟩
theorem aid {a:Addr} {xs:List V} (hok:HOk P w H h) (KX:K.In h) (q:SqT K H a xs):∃ (its:List Value) (o:Obj) (n:Nat),Vals xs its/\h.get? a=some o/\o.cls = .type "tuple" /\ o.data = .seq its.toArray n:=by
 rcases q with q | ⟨o,its,n,e,hc,hd,_,hv⟩
 ·obtain ⟨_,its,hv,o,e,hc,n,hd⟩:=(show DN P w H h a (.tup xs) from q.ok hok)
  exact ⟨its,o,n,hv,e,hc,hd⟩
 ·exact ⟨its.toList,o,n,hv,KX _ _ e,hc,by simp [hd]⟩
mutual
theorem Dw.reads (hok:HOk P w H h) (KX:K.In h):∀ (d:WData) (v:V) (u:Value),Dw K H v d->RelV v u->∃ as,ReadsW R cl h u d as
 | .none,_,_,x,r=>by
  cases x
  cases r
  exact ⟨_,ReadsW.none⟩
 | .bool b,_,_,x,r=>by
  cases x
  cases r
  exact ⟨_,ReadsW.bool b⟩
 | .int i,_,_,x,r=>by
  cases x
  obtain ⟨t,rfl⟩:=r
  exact ⟨_,ReadsW.int i t⟩
 | .str s,_,_,x,r=>by
  cases x
  obtain ⟨t,rfl⟩:=r
  exact ⟨_,ReadsW.str s t⟩
 | .bytes b,_,_,x,r=>by
  cases x
  obtain ⟨t,rfl⟩:=r
  exact ⟨_,ReadsW.bytes _ t⟩
 | .list ds,_,_,x,r=>by
  cases x with
  | lst hs ha =>
   cases r
   obtain ⟨its,o,n,rv,ho,hc,hd⟩:=aie hok KX hs
   obtain ⟨as,hr⟩:=Dw.readsAll hok KX ds _ its ha rv
   exact ⟨_,ReadsW.list ho hc hd hr⟩
 | .tuple ds,_,_,x,r=>by
  cases x with
  | tup hs ha =>
   cases r
   obtain ⟨its,o,n,rv,ho,hc,hd⟩:=aid hok KX hs
   obtain ⟨as,hr⟩:=Dw.readsAll hok KX ds _ its ha rv
   exact ⟨_,ReadsW.tuple ho hc hd hr⟩
 | .float _,_,_,x,_=>by cases x
 | .dict _,_,_,x,_=>by cases x
 | .bytearray _,_,_,x,_=>by cases x
 | .set _,_,_,x,_=>by cases x
 | .frozenset _,_,_,x,_=>by cases x
 | .obj _ _,_,_,x,_=>by cases x
theorem Dw.readsAll (hok:HOk P w H h) (KX:K.In h):∀ (ds:List WData) (vs:List V) (us:List Value),Kr K H vs ds->Vals vs us->∃ as,ReadsAllW R cl h us ds as
 | [],_,_,x,r=>by
  cases x
  cases r
  exact ⟨_,ReadsAllW.nil⟩
 | d :: ds,_,_,x,r=>by
  cases x with
  | cons h1 h2 =>
   cases r with
   | cons r1 r2 =>
    obtain ⟨as,q1⟩:=Dw.reads hok KX d _ _ h1 r1
    obtain ⟨bs,q2⟩:=Dw.readsAll hok KX ds _ _ h2 r2
    exact ⟨_,ReadsAllW.cons q1 q2⟩
end
end
mutual
def plW:WData->Bool
 | .none=>true
 | .bool _=>true
 | .int _=>true
 | .str _=>true
 | .bytes _=>true
 | .list xs=>T9 xs
 | .tuple xs=>T9 xs
 | _=>false
def T9:List WData->Bool
 | []=>true
 | x :: r=>plW x && T9 r
end
theorem aaW {α:Type} {f:α->WData} (h:∀ a,plW (f a)=true):∀ l:List α,T9 (l.map f)=true
 | []=>rfl
 | x :: r=>by
  show (plW (f x) && T9 (r.map f))=true
  rw [h x,aaW h r] <;> rfl
theorem Lf:∀ (c:Codec) (a:c.denote),plW (c.enc a)=true
 | .unit,_=>rfl
 | .bool,_=>rfl
 | .int _ _,_=>rfl
 | .nat _ _,_=>rfl
 | .u8,_=>rfl
 | .bytes _ _,_=>rfl
 | .text _ _ _ _,_=>rfl
 | .list _ _ c,a=>aaW (fun x=>Lf c x) a
 | .pair c d,a=>by
  show (plW (c.enc a.1) && (plW (d.enc a.2) && true))=true
  rw [Lf c a.1,Lf d a.2] <;> rfl
 | .triple c d e,a=>by
  show (plW (c.enc a.1) && (plW (d.enc a.2.1) && (plW (e.enc a.2.2) && true)))=true
  rw [Lf c a.1,Lf d a.2.1,Lf e a.2.2] <;> rfl
 | .option c,none=>rfl
 | .option c,some x=>Lf c x
theorem Yn:∀ (cs:List Codec) (a:Codec.denoteAll cs),T9 (Codec.encAll cs a)=true
 | [],_=>rfl
 | c :: cs,a=>by
  show (plW (c.enc a.1) && T9 (Codec.encAll cs a.2))=true
  rw [Lf c a.1,Yn cs a.2] <;> rfl
theorem N7:∀ {xs:List WData} {d:WData},d ∈ xs->d.weight <= WData.weightAll xs
 | [],d,h=>absurd h (by simp)
 | x :: r,d,h=>by
  show d.weight <= x.weight + 1 + WData.weightAll r
  rcases List.mem_cons.mp h with e | m
  ·rw [e]
   omega
  ·have z:=N7 m
   omega
def toV:Value->V
 | .none=>.non
 | .bool b=>.bl b
 | .int i _=>.int i
 | .str x _=>.str x
 | .bytes b _=>.byt b
 | .ref a=>.ref a
 | _=>.non
def OkU (A:List Addr):Value->Prop
 | .none=>True
 | .bool _=>True
 | .int _ _=>True
 | .str _ _=>True
 | .bytes _ _=>True
 | .ref a=>a ∈ A
 | _=>False
theorem OkU.mono {A B:List Addr} (h:∀ a ∈ A,a ∈ B):∀ {u:Value},OkU A u->OkU B u:=fun {u} x=>by
 cases u with
 | ref a=>exact h a x
 | none=>trivial
 | bool b=>trivial
 | int i t=>trivial
 | str s t=>trivial
 | bytes b t=>trivial
 | _=>exact False.elim x
theorem afy {A:List Addr} {u:Value} (x:OkU A u):RelV (toV u) u:=by
 cases u with
 | ref a=>rfl
 | none=>rfl
 | bool b=>rfl
 | int i t=>exact ⟨t,rfl⟩
 | str s t=>exact ⟨t,rfl⟩
 | bytes b t=>exact ⟨t,rfl⟩
 | _=>exact False.elim x
theorem Iz {A:List Addr}:∀ {vs:List Value},(∀ u ∈ vs,OkU A u)->Vals (vs.map toV) vs
 | [],_=>.nil
 | u :: r,h=>.cons (afy (h u (List.mem_cons_self ..))) (Iz fun x hx=>h x (List.mem_cons_of_mem _ hx))
def Ks (h:Heap) (A:List Addr) (a:Addr):Prop:=∃ vs:List Value,vs.length <= sizeLine/\(∀ u ∈ vs,OkU A u) /\
 (h.get? a=some { cls:=.type "list",data:=.seq vs.toArray } \/ h.get? a=some { cls:=.type "tuple",data:=.seq vs.toArray })
theorem Ks.mono {h:Heap} {A B:List Addr} {a:Addr} (k:∀ a ∈ A,a ∈ B) (x:Ks h A a):Ks h B a:=by
 obtain ⟨vs,h1,h2,h3⟩:=x
 exact ⟨vs,h1,fun u hu=>(h2 u hu).mono k,h3⟩
theorem HR {P:Params} {h:Heap}:∀ {vs:List Value} {ds:List WData},WellAll P h vs ds->vs.length=ds.length
 | _,_,.nil=>rfl
 | _,_,.cons _ b=>by
  show _ + 1=_ + 1
  rw [HR b]
theorem XH {P:Params} {h:Heap} {v:Value} {ds:List WData} (x:Well P h v (.list ds)):∃ (a:Addr) (vs:List Value),v = .ref a/\h.get? a=some { cls:=.type "list",data:=.seq vs.toArray }/\WellAll P h vs ds:=by
 cases x with
 | list ho hall=>exact ⟨_,_,rfl,ho,hall⟩
theorem Vd {P:Params} {h:Heap} {v:Value} {ds:List WData} (x:Well P h v (.tuple ds)):∃ (a:Addr) (vs:List Value),v = .ref a/\h.get? a=some { cls:=.type "tuple",data:=.seq vs.toArray }/\WellAll P h vs ds:=by
 cases x with
 | tuple ho hall=>exact ⟨_,_,rfl,ho,hall⟩
theorem XJ {P:Params} {h:Heap} {us:List Value} {d:WData} {ds:List WData} (x:WellAll P h us (d :: ds)):∃ (v:Value) (vs:List Value),us=v :: vs/\Well P h v d/\WellAll P h vs ds:=by
 cases x with
 | cons a b=>exact ⟨_,_,rfl,a,b⟩
theorem adD {n:Nat} (h:n <= 1048576):n <= sizeLine:=Nat.le_trans h (by decide)
section
variable {P:Params} {h:Heap}
mutual
theorem agB:∀ (d:WData) (v:Value),Well P h v d->plW d=true->d.weight <= 1048576->∃ A:List Addr,OkU A v/\∀ a ∈ A,Ks h A a
 | .none,_,x,_,_=>by
  cases x
  exact ⟨[],trivial,fun a m=>absurd m (by simp)⟩
 | .bool b,_,x,_,_=>by
  cases x
  exact ⟨[],trivial,fun a m=>absurd m (by simp)⟩
 | .int i,_,x,_,_=>by
  cases x
  exact ⟨[],trivial,fun a m=>absurd m (by simp)⟩
 | .str s,_,x,_,_=>by
  cases x
  exact ⟨[],trivial,fun a m=>absurd m (by simp)⟩
 | .bytes b,_,x,_,_=>by
  cases x
  exact ⟨[],trivial,fun a m=>absurd m (by simp)⟩
 | .list ds,_,x,p,z=>by
  obtain ⟨a,vs,rfl,ho,hall⟩:=XH x
  have z2:WData.weightAll ds <= 1048576:=z
  obtain ⟨A,h1,h2⟩:=Qx ds _ hall p fun d hd=>Nat.le_trans (N7 hd) z2
  have k:∀ b ∈ A,b ∈ a :: A:=fun b hb=>List.mem_cons_of_mem _ hb
  refine ⟨a :: A,List.mem_cons_self ..,fun b hb=>?_⟩
  rcases List.mem_cons.mp hb with e | m
  ·rw [e]
   exact ⟨vs,adD (by rw [HR hall]; exact Nat.le_trans (PySem.W.length_le_weightAllW ds) z2),fun u hu=>(h1 u hu).mono k,.inl ho⟩
  ·exact (h2 b m).mono k
 | .tuple ds,_,x,p,z=>by
  obtain ⟨a,vs,rfl,ho,hall⟩:=Vd x
  have z2:WData.weightAll ds <= 1048576:=z
  obtain ⟨A,h1,h2⟩:=Qx ds _ hall p fun d hd=>Nat.le_trans (N7 hd) z2
  have k:∀ b ∈ A,b ∈ a :: A:=fun b hb=>List.mem_cons_of_mem _ hb
  refine ⟨a :: A,List.mem_cons_self ..,fun b hb=>?_⟩
  rcases List.mem_cons.mp hb with e | m
  ·rw [e]
   exact ⟨vs,adD (by rw [HR hall]; exact Nat.le_trans (PySem.W.length_le_weightAllW ds) z2),fun u hu=>(h1 u hu).mono k,.inr ho⟩
  ·exact (h2 b m).mono k
 | .float _,_,_,p,_=>Bool.noConfusion (show false=true from p)
 | .dict _,_,_,p,_=>Bool.noConfusion (show false=true from p)
 | .bytearray _,_,_,p,_=>Bool.noConfusion (show false=true from p)
 | .set _,_,_,p,_=>Bool.noConfusion (show false=true from p)
 | .frozenset _,_,_,p,_=>Bool.noConfusion (show false=true from p)
 | .obj _ _,_,_,p,_=>Bool.noConfusion (show false=true from p)
theorem Qx:∀ (ds:List WData) (vs:List Value),WellAll P h vs ds->T9 ds=true->(∀ d ∈ ds,d.weight <= 1048576)->∃ A:List Addr,(∀ u ∈ vs,OkU A u)/\∀ a ∈ A,Ks h A a
 | [],_,x,_,_=>by
  cases x
  exact ⟨[],fun u m=>absurd m (by simp),fun a m=>absurd m (by simp)⟩
 | d :: ds,_,x,p,z=>by
  obtain ⟨v,vs,rfl,x1,x2⟩:=XJ x
  have q:plW d=true/\T9 ds=true:=Bool.and_eq_true_iff.mp p
  obtain ⟨A,a1,a2⟩:=agB d v x1 q.1 (z d (List.mem_cons_self ..))
  obtain ⟨B,b1,b2⟩:=Qx ds vs x2 q.2 fun e he=>z e (List.mem_cons_of_mem _ he)
  have kA:∀ b ∈ A,b ∈ A ++ B:=fun b hb=>List.mem_append.mpr (.inl hb)
  have kB:∀ b ∈ B,b ∈ A ++ B:=fun b hb=>List.mem_append.mpr (.inr hb)
  refine ⟨A ++ B,fun u hu=>?_,fun b hb=>?_⟩
  ·rcases List.mem_cons.mp hu with e | m
   ·rw [e]
    exact a1.mono kA
   ·exact (b1 u m).mono kB
  ·rcases List.mem_append.mp hb with m | m
   ·exact (a2 b m).mono kA
   ·exact (b2 b m).mono kB
end
end
def ahi (o:Obj):Option HO:=match o.data with
 | .seq vs _=>if (o.cls == Value.type "list")=true then some (.frz o (.lst (vs.toList.map toV))) else some (.frz o (.tup (vs.toList.map toV)))
 | _=>none
def JZ (K:PySem.W.Frag) (h:Heap) (A:List Addr):Hp:=fun b=>if b ∈ A then (if (K.lookup b).isNone=true then (h.get? b).bind ahi else none) else none
def abS (H:Hp):Prop:=∀ b,H b=none \/ ∃ o u,H b=some (.frz o u)
theorem abd (vs:List Value):ahi { cls:=.type "list",data:=.seq vs.toArray }=some (.frz { cls:=.type "list",data:=.seq vs.toArray } (.lst (vs.map toV))):=by
 show (if (Value.type "list" == Value.type "list")=true then some (HO.frz { cls:=.type "list",data:=.seq vs.toArray } (.lst (vs.toArray.toList.map toV))) else some (HO.frz { cls:=.type "list",data:=.seq vs.toArray } (.tup (vs.toArray.toList.map toV))))=_
 rw [if_pos (beq_self_eq_true _)]
theorem abb (vs:List Value):ahi { cls:=.type "tuple",data:=.seq vs.toArray }=some (.frz { cls:=.type "tuple",data:=.seq vs.toArray } (.tup (vs.map toV))):=by
 show (if (Value.type "tuple" == Value.type "list")=true then some (HO.frz { cls:=.type "tuple",data:=.seq vs.toArray } (.lst (vs.toArray.toList.map toV))) else some (HO.frz { cls:=.type "tuple",data:=.seq vs.toArray } (.tup (vs.toArray.toList.map toV))))=_
 rw [if_neg (by decide)]
section
variable {P:Program} {w:World} {K:PySem.W.Frag} {h:Heap} {A:List Addr}
theorem Va {b:Addr} {o:Obj} (hb:b ∈ A) (hk:K.lookup b=none) (e:h.get? b=some o):JZ K h A b=ahi o:=by
 unfold JZ
 rw [if_pos hb,hk,if_pos (show (none:Option Obj).isNone=true from rfl),e] <;> rfl
theorem ag8 {b:Addr} {u:HO} (q:JZ K h A b=some u):b ∈ A/\K.lookup b=none:=by
 unfold JZ at q
 by_cases hb:b ∈ A
 ·rw [if_pos hb] at q
  cases hk:K.lookup b with
  | none=>exact ⟨hb,rfl⟩
  | some o =>
   rw [hk,if_neg (by simp)] at q
   cases q
 ·rw [if_neg hb] at q
  cases q
theorem U9 (ar:∀ a ∈ A,Ks h A a) {b:Addr} {u:HO} (q:JZ K h A b=some u):K.lookup b=none/\∃ vs:List Value,vs.length <= sizeLine/\(∀ u ∈ vs,OkU A u) /\
    ((h.get? b=some { cls:=.type "list",data:=.seq vs.toArray }/\u = .frz { cls:=.type "list",data:=.seq vs.toArray } (.lst (vs.map toV))) \/
     (h.get? b=some { cls:=.type "tuple",data:=.seq vs.toArray }/\u = .frz { cls:=.type "tuple",data:=.seq vs.toArray } (.tup (vs.map toV)))):=by
  obtain ⟨hb,hk⟩:=ag8 q
  obtain ⟨vs,h1,h2,h3⟩:=ar b hb
  refine ⟨hk,vs,h1,h2,?_⟩
  rcases h3 with e | e
  · rw [Va hb hk e,abd] at q
    exact .inl ⟨e,(Option.some.inj q).symm⟩
  · rw [Va hb hk e,abb] at q
    exact .inr ⟨e,(Option.some.inj q).symm⟩
theorem ae9 (ar:∀ a ∈ A,Ks h A a):abS (JZ K h A):=fun b=>by
 cases q:JZ K h A b with
 | none=>exact .inl rfl
 | some u =>
  obtain ⟨_,vs,_,_,⟨_,e⟩ | ⟨_,e⟩⟩:=U9 ar q
  ·exact .inr ⟨_,_,by rw [e]⟩
  ·exact .inr ⟨_,_,by rw [e]⟩
theorem ahG (ar:∀ a ∈ A,Ks h A a):HOk P w (JZ K h A) h:=fun b u q=>by
 obtain ⟨_,vs,h1,h2,⟨e,rfl⟩ | ⟨e,rfl⟩⟩:=U9 ar q
 ·exact ⟨e,by rw [List.length_map]; exact h1,vs,_,Iz h2,e⟩
 ·exact ⟨e,by rw [List.length_map]; exact h1,vs,Iz h2,_,e,rfl,_,rfl⟩
theorem UJ {c c':Value} {vs us:List Value} (e:(some { cls:=c,data:=.seq vs.toArray }:Option Obj)=some { cls:=c',data:=.seq us.toArray }):c=c'/\vs=us:=by
 have e1:=Option.some.inj e
 have e2:c=c':=congrArg Obj.cls e1
 have e3:Data.seq vs.toArray=Data.seq us.toArray:=congrArg Obj.data e1
 injection e3 with e4
 refine ⟨e2,?_⟩
 have e5:=congrArg Array.toList e4
 simpa using e5
theorem alo (KX:K.In h) (ar:∀ a ∈ A,Ks h A a) {a:Addr} {vs:List Value} (ha:a ∈ A) (e:h.get? a=some { cls:=.type "list",data:=.seq vs.toArray }):(∀ u ∈ vs,OkU A u)/\SqL K (JZ K h A) a (vs.map toV):=by
 obtain ⟨us,h1,h2,h3⟩:=ar a ha
 have hu:us=vs:=by
  rcases h3 with q | q
  ·rw [e] at q
   exact (UJ q).2.symm
  ·rw [e] at q
   exact absurd (Value.type.inj (UJ q).1) (by decide)
 subst hu
 refine ⟨h2,?_⟩
 cases hk:K.lookup a with
 | none=>exact .inl (.inr ⟨_,by rw [Va ha hk e,abd]⟩)
 | some o =>
  have e2:=KX a o hk
  rw [e] at e2
  obtain rfl:=Option.some.inj e2
  exact .inr ⟨_,us.toArray,_,hk,rfl,rfl,rfl,by rw [List.size_toArray]; exact h1,by simpa using Iz h2⟩
theorem aln (KX:K.In h) (ar:∀ a ∈ A,Ks h A a) {a:Addr} {vs:List Value} (ha:a ∈ A) (e:h.get? a=some { cls:=.type "tuple",data:=.seq vs.toArray }):(∀ u ∈ vs,OkU A u)/\SqT K (JZ K h A) a (vs.map toV):=by
 obtain ⟨us,h1,h2,h3⟩:=ar a ha
 have hu:us=vs:=by
  rcases h3 with q | q
  ·rw [e] at q
   exact absurd (Value.type.inj (UJ q).1) (by decide)
  ·rw [e] at q
   exact (UJ q).2.symm
 subst hu
 refine ⟨h2,?_⟩
 cases hk:K.lookup a with
 | none=>exact .inl (.inr ⟨_,by rw [Va ha hk e,abb]⟩)
 | some o =>
  have e2:=KX a o hk
  rw [e] at e2
  obtain rfl:=Option.some.inj e2
  exact .inr ⟨_,us.toArray,_,hk,rfl,rfl,by rw [List.size_toArray]; exact h1,by simpa using Iz h2⟩
mutual
theorem ai2 {Pm:Params} (KX:K.In h) (ar:∀ a ∈ A,Ks h A a):∀ (d:WData) (v:Value),Well Pm h v d->plW d=true->OkU A v->Dw K (JZ K h A) (toV v) d
 | .none,_,x,_,_=>by
  cases x
  exact .non
 | .bool b,_,x,_,_=>by
  cases x
  exact .bl b
 | .int i,_,x,_,_=>by
  cases x
  exact .int i
 | .str s,_,x,_,_=>by
  cases x
  exact .str s
 | .bytes b,_,x,_,_=>by
  cases x
  have z:=Dw.byt (K:=K) (H:=JZ K h A) b.toArray
  exact z
 | .list ds,_,x,p,hu=>by
  obtain ⟨a,vs,rfl,ho,hall⟩:=XH x
  obtain ⟨h2,hs⟩:=alo KX ar hu ho
  exact .lst hs (Z1 KX ar ds _ hall p h2)
 | .tuple ds,_,x,p,hu=>by
  obtain ⟨a,vs,rfl,ho,hall⟩:=Vd x
  obtain ⟨h2,hs⟩:=aln KX ar hu ho
  exact .tup hs (Z1 KX ar ds _ hall p h2)
 | .float _,_,_,p,_=>Bool.noConfusion (show false=true from p)
 | .dict _,_,_,p,_=>Bool.noConfusion (show false=true from p)
 | .bytearray _,_,_,p,_=>Bool.noConfusion (show false=true from p)
 | .set _,_,_,p,_=>Bool.noConfusion (show false=true from p)
 | .frozenset _,_,_,p,_=>Bool.noConfusion (show false=true from p)
 | .obj _ _,_,_,p,_=>Bool.noConfusion (show false=true from p)
theorem Z1 {Pm:Params} (KX:K.In h) (ar:∀ a ∈ A,Ks h A a):∀ (ds:List WData) (vs:List Value),WellAll Pm h vs ds->T9 ds=true->(∀ u ∈ vs,OkU A u)->Kr K (JZ K h A) (vs.map toV) ds
 | [],_,x,_,_=>by
  cases x
  exact .nil
 | d :: ds,_,x,p,hu=>by
  obtain ⟨v,vs,rfl,x1,x2⟩:=XJ x
  have q:plW d=true/\T9 ds=true:=Bool.and_eq_true_iff.mp p
  exact .cons (ai2 KX ar d v x1 q.1 (hu _ (List.mem_cons_self ..))) (Z1 KX ar ds vs x2 q.2 fun u m=>hu u (List.mem_cons_of_mem _ m))
end
end
theorem aem {P:Program} {w:World} {K:PySem.W.Frag} {mg mb:Str->Option Value} {CX:CXT} {k:Nat} {fa:Addr} {fd:FuncData} {ps:List Str} {sp:Sp} {s₁:Shared} {vals:List Value} {ds:List WData} {R:PySem.W.WRecords} {cl:Str->Option Addr} {d0:WData}
  (KX:K.In s₁.heap) (hns:s₁.heap.Ns mainGlobals mg) (hb:s₁.heap.Ns builtinsNs mb) (hbb:∀ x:Str,x ≠ "__name__" -> mb x=bootBuiltins x) (hlim:s₁.heap.NoLimit) (hg:s₁.gens = #[])
  (hwl:WellAll w.params s₁.heap vals ds) (hpl:T9 ds=true) (hwt:∀ d ∈ ds,d.weight <= 1048576) (hr:Fq k callerA)
  (F:∀ base:Heap,K.In base->base.Ns mainGlobals mg->QH P w K mg base CX k fa fd ps sp) (hbind:∀ (s:Shared) (us:List Value),us.length=ps.length->BindsTo s fd ⟨us,[]⟩ (ps.zip us)) (hlen:ds.length=ps.length)
  (hsp:∀ (H:Hp) (xs:List V),abS H->Kr K H xs ds->sp xs H (fun v H'=>Dw K H' v d0) fun _ _ _=>False)
  (hCX:∀ H e s',CX [] H s₁ (fun _ _ _=>False) e s'->False) :
  codeAny (model P w) callerA (.call (.ref fa) ⟨vals,[]⟩) (fun r s'=>∃ u as,r = .ok (.ret u)/\ReadsW R cl s'.heap u d0 as/\OldK s₁.heap s'.heap/\s'.os=s₁.os/\AllBare s'.gens) s₁:=by
 obtain ⟨A,ho,ar⟩:=Qx ds vals hwl hpl hwt
 have hO:abS (JZ K s₁.heap A):=ae9 ar
 have hok:HOk P w (JZ K s₁.heap A) s₁.heap:=ahG ar
 have hS:=Z1 KX ar ds vals hwl hpl ho
 have hV:=Iz ho
 have hK:∀ b u,JZ K s₁.heap A b=some u->K.lookup b=none:=fun b u q=>(U9 ar q).1
 have noA:∀ {b:Addr} {o:Obj} {es:Array DictEntry} {ep:Nat},s₁.heap.get? b=some o->o.data = .dict es ep->JZ K s₁.heap A b=none:=fun {b o es ep} e d=>by
  cases q:JZ K s₁.heap A b with
  | none=>rfl
  | some u =>
   obtain ⟨_,vs,_,_,⟨e2,_⟩ | ⟨e2,_⟩⟩:=U9 ar q
   ·rw [e2] at e
    cases e
    have d':Data.seq vs.toArray _=Data.dict es ep:=d
    cases d'
   ·rw [e2] at e
    cases e
    have d':Data.seq vs.toArray _=Data.dict es ep:=d
    cases d'
 generalize JZ K s₁.heap A=H at hO hok hS hK noA
 have adU:∀ {b:Addr} {o:Obj},s₁.heap.get? b=some o->H b=none->(ZX s₁.heap H).get? b=some o:=fun e n=>agh e n
 have nsK:∀ {b:Addr} {m:Str->Option Value},s₁.heap.Ns b m->(ZX s₁.heap H).Ns b m:=fun {b m} ⟨o,es,ep,e,d,r⟩=>⟨o,es,ep,adU e (noA e d),d,r⟩
 have nK:∀ b o,K.lookup b=some o->H b=none:=fun b o e=>by
  cases q:H b with
  | none=>rfl
  | some u =>
   rw [hK b u q] at e
   cases e
 have hKb:K.In (ZX s₁.heap H):=fun b o e=>adU (KX b o e) (nK b o e)
 have hM:Mod K mg (ZX s₁.heap H):=⟨hKb,nsK hns,⟨mb,nsK hb,hbb⟩,let ⟨mc,h1,h2⟩:=hlim; ⟨mc,nsK h1,h2⟩⟩
 have e0:adg P w K mg (ZX s₁.heap H) callerA [] s₁ H:=⟨rfl,hM,fun b o e=>ag7 e,Nat.le_of_eq (aeK _ _),trivial,fun b hb=>absurd (show b ∈ ([]:List Addr) from hb) (by simp),hok,.of_eq hg⟩
 have hl:vals.length=ps.length:=by rw [HR hwl]; exact hlen
 refine codeAny_mono ((F _ hKb (nsK hns)).run callerA [] s₁ H ⟨vals,[]⟩ vals (vals.map toV) _ _ hr e0 (hbind s₁ vals hl) hV (hsp H _ hO hS)) fun r s' x=>?_
 cases r with
 | error e=>exact (hCX H e s' x).elim
 | ok fl =>
  cases fl with
  | next=>exact False.elim x
  | brk=>exact False.elim x
  | cont=>exact False.elim x
  | ret u =>
   obtain ⟨v,H',os,bare,un,hok',r',q⟩:=x
   have kept:∀ b o,s₁.heap.get? b=some o->s'.heap.get? b=some o:=fun b o e=>by
    cases q2:H b with
    | none=>exact un.keep b o e q2 (by intro z; exact absurd (show b ∈ ([]:List Addr) from z) (by simp)) (by simp)
    | some u2 =>
     rcases hO b with z | ⟨ob,u3,z⟩
     ·rw [q2] at z
      cases z
     ·have z2:=un.Ws b ob _ z
      obtain ⟨e1,_⟩:=hok b _ z
      obtain ⟨e2,_⟩:=hok' b _ z2
      rw [e] at e1
      cases e1
      exact e2
   have KX':K.In s'.heap:=fun b o e=>kept b o (KX b o e)
   obtain ⟨as,hrd⟩:=Dw.reads (R:=R) (cl:=cl) hok' KX' d0 v u q r'
   exact ⟨u,as,rfl,hrd,OldK.of_keep kept,os,bare⟩
theorem Wm {ds:List WData} (h:WData.layableAll ds=true):∀ d ∈ ds,d.weight <= 1048576:=fun d hd =>
 (PySem.W.layableW_iff.mp (List.all_eq_true.mp h d hd)).2.2
theorem Ww:∀ (cs:List Codec) (a:Codec.denoteAll cs),(Codec.encAll cs a).length=cs.length
 | [],_=>rfl
 | c :: cs,a=>by
  show (Codec.encAll cs a.2).length + 1=cs.length + 1
  rw [Ww cs a.2]
theorem ad1 {r:OpenSpec} {k:Nat} {q:Program} {loose:List Str} {XP:(Str->Option Value)->Heap->Prop} {YP:World->Heap->Prop} {d:DefRec} {K:Params->PySem.W.Frag} {CX:World->CXT} {ps:List Str} {sp:World->Sp}
  (agc:r.wellSaid=true) (hdf:d.params.defaults=[]) (hlen:r.args.length=ps.length) (hr:Fq k callerA)
  (hY:∀ (w:World) (h:Heap),YP w h->(K w.params).In h)
  (F:∀ (w:World) (mg:Str->Option Value) (fa:Addr) (h:Heap),YP w h->(K w.params).In h->h.Ns mainGlobals mg->mg d.name=some (.ref fa) ->
   ∃ fd:FuncData,(∀ (s:Shared) (us:List Value),us.length=ps.length->BindsTo s fd ⟨us,[]⟩ (ps.zip us)) /\
    ∀ base:Heap,(K w.params).In base->base.Ns mainGlobals mg->QH r.prog w (K w.params) mg base (CX w) k fa fd ps (sp w))
  (hsp:∀ (w:World) (H:Hp) (xs:List V) (a:Codec.denoteAll r.args),abS H->Codec.withinAll r.args a=true->Codec.app r.args r.asked a=true->Kr (K w.params) H xs (Codec.encAll r.args a) ->
   sp w xs H (fun v H'=>Dw (K w.params) H' v (r.ret.enc (Codec.app r.args r.f a))) fun _ _ _=>False)
  (hCX:∀ (w:World) (H:Hp) (s:Shared) (e:Value) (s':Shared),CX w [] H s (fun _ _ _=>False) e s'->False) :
  PySem.W.WalkOS q loose XP YP r d [] (fun f vs=>PySem.call f vs):=by
 intro w s_0 s₁ mg mb G Y fa o pm cd doc dV kV ho hd hcd hD hmg hg args vals as hpre hlay hrd hwl hlo
 obtain ⟨a,e1,e2⟩:=PySem.W.os_pre_some hpre
 obtain ⟨e3,hwi⟩:=Codec.encAll_of_decAll r.args args a e1
 subst e3
 have KX:=hY w _ Y
 obtain ⟨fd,hb,hF⟩:=F w mg fa _ Y KX G.T.g hmg
 refine PySem.W.enter_call (codeAny_mono (aem (R:=[]) (cl:=classAt s_0.heap) (d0:=r.ret.enc (Codec.app r.args r.f a)) KX G.T.g G.T.b G.T.builtins G.T.nolimit hg hwl (Yn _ _) (Wm hlay) hr hF hb (by rw [Ww]; exact hlen)
  (fun H xs hO hS=>hsp w H xs a hO hwi e2 hS) fun H e s'=>hCX w H s₁ e s') fun r' s' hq=>?_)
 obtain ⟨u,as',rfl,h1,h2,h3,h4⟩:=hq
 exact ⟨.inl ⟨u,_,as',rfl,fun _=>rfl,h1,(OpenSpec.post_iff agc hwi _ _).mpr rfl,fun z=>Bool.noConfusion (show false=true from z)⟩,h2,h3,h4⟩
theorem ab2 {r:OpenSpec} {k:Nat} {q:Program} {loose:List Str} {XP:(Str->Option Value)->Heap->Prop} {YP:World->Heap->Prop} {d:DefRec} {K:Params->PySem.W.Frag} {CX:CXT} {ps:List Str} {sp:PySem.W.Frag->Sp}
  (agc:r.wellSaid=true) (hdf:d.params.defaults=[]) (hlen:r.args.length=ps.length) (hr:Fq k callerA)
  (hY:∀ (w:World) (h:Heap),YP w h->(K w.params).In h)
  (F:∀ (w:World) (mg:Str->Option Value) (fa:Addr) (h:Heap),YP w h->(K w.params).In h->h.Ns mainGlobals mg->mg d.name=some (.ref fa) ->
   ∃ fd:FuncData,(∀ (s:Shared) (us:List Value),us.length=ps.length->BindsTo s fd ⟨us,[]⟩ (ps.zip us)) /\
    ∀ base:Heap,(K w.params).In base->base.Ns mainGlobals mg->QH r.prog w (K w.params) mg base CX k fa fd ps (sp (K w.params)))
  (hsp:∀ (K:PySem.W.Frag) (H:Hp) (xs:List V) (a:Codec.denoteAll r.args),abS H->Codec.withinAll r.args a=true->Codec.app r.args r.asked a=true->Kr K H xs (Codec.encAll r.args a) ->
   sp K xs H (fun v H'=>Dw K H' v (r.ret.enc (Codec.app r.args r.f a))) fun _ _ _=>False)
  (hCX:∀ (H:Hp) (s:Shared) (e:Value) (s':Shared),CX [] H s (fun _ _ _=>False) e s'->False) :
  PySem.W.WalkOS q loose XP YP r d [] (fun f vs=>PySem.call f vs) :=
 ad1 (K:=K) (CX:=fun _=>CX) (sp:=fun w=>sp (K w.params)) agc hdf hlen hr hY F (fun w H xs a h1 h2 h3 h4=>hsp (K w.params) H xs a h1 h2 h3 h4) fun _ H s e s'=>hCX H s e s'
end L2
end
namespace L2
open PySem PySem.Spec PyProof.Rows
section
variable {prog:Program} {w:World} {A:Around}
theorem ab1 (hh:A.handled=none) (I d:Addr) (hne:d ≠ I) {o:Obj} {es:Array DictEntry} {ep:Nat} (hdt:o.data = .dict es ep) :
  PySem.Walks prog w A I [I,d] [I] es.size (fun i v=>∃ en,es[i]? = some en/\v=en.key) (fun i h=>h.IsKeyIter I d i es.size ep/\h.get? d=some o) where
 sub:=fun b hb=>by simp at hb; simp [hb]
 frame:=fun _ _ _ st hk=>⟨st.1.at fun o e=>hk I (by simp) o e,hk d (by simp) o st.2⟩
 item:=fun i s Q E hi st hQ=>by
  refine NT st.1 st.2 hdt rfl (en:=es[i]) (by simp [hi]) fun h' st' sb=>?_
  exact hQ _ h' s.toks ⟨es[i],by simp [hi],rfl⟩ ⟨st',(sb.2 d hne).trans st.2⟩ fun b o hb e=>(sb.2 b (fun h=>hb (by simp [h]))).trans e
 done:=fun s Q E st hQ=>JV hh st.1 st.2 hdt rfl (Nat.le_refl _) fun h' eb=>hQ h' s.toks fun b o hb e=>eb b o (fun h=>hb (by simp [h])) e
 self:=fun i s Q E st h=>by
  refine wpAny_pyIter_slot st.1.typeIs F.slot_dict_keyiterator_iter (wpAny_call_entry F.slot_dict_keyiterator_iter st.1.typeIs F.entry_dict_keyiterator_iter ?_ (F.args_dict_keyiterator_iter_1 _))
  show wpAny _ _ (ret (.ref I)) _ _ s
  exact wpAny_pure ⟨_,rfl, "dict_keyiterator",_,st.1.typeIs,F.slot_dict_keyiterator_next.lookup,h⟩
theorem aaE {d:Addr} {o:Obj} {es:Array DictEntry} {ep:Nat} (lo:(d == sysModules)=false) (hx:o.ExactDict) (hdt:o.data = .dict es ep) :
  PySem.W.KdlSrc prog w "dict" d d es.size (fun i v=>∃ en,es[i]? = some en/\v=en.key) (fun h=>h.get? d=some o) where
 type:=fun s ho=>⟨o,ho,hx.1⟩
 there:=fun h ho=>⟨Heap.lt_size ho,Heap.lt_size ho⟩
 keep:=fun h h' ho hk=>hk d (.inl rfl) o ho
 notList:=by decide
 notTuple:=by decide
 hint:=fun A E s Q ho hq=>PySem.W.kdl_hint_dict ⟨o,ho,hx.1⟩ hq
 iter:=fun A s hh ho=>⟨_,_,fun E Q hq=>Ry lo ho hx hdt hq,ab1 hh _ d (Nat.ne_of_lt (Heap.lt_size ho)) hdt,⟨⟨_,Heap.get?_push_size _ rfl,rfl,rfl⟩,Heap.get?_push_of_some _ ho⟩⟩
end
theorem Yr {α β:Type} {G:α->β->Prop}:∀ (l:List α) (m:List β),l.length=m.length->(∀ (i:Nat) a b,l[i]? = some a->m[i]? = some b->G a b)->Paired G l m
 | [],[],_,_=>.nil
 | [],_ :: _,h,_=>by simp at h
 | _ :: _,[],h,_=>by simp at h
 | a :: l,b :: m,h,g=>.cons (g 0 a b rfl rfl) (Yr l m (by simpa using h) fun i x y hx hy=>g (i + 1) x y (by simpa using hx) (by simpa using hy))
theorem Rp {α β:Type} {G:α->β->Prop} {l:List α} {m:List β} (h:Paired G l m) {i:Nat} {a:α} {b:β} (ha:l[i]? = some a) (hb:m[i]? = some b):G a b:=by
 obtain ⟨b',e,g⟩:=Ca h ha
 rw [hb] at e
 cases e
 exact g
abbrev WY (H:Hp) (qs:List Addr) (ks:List (List Key)):Prop:=Paired (fun q k=>H q=some (.tup (k.map kV))) qs ks
section
variable {X:Cx} {pins:List (Addr × Obj)} {σ:St} {H:Hp} {s:Shared}
theorem Inv.dTr {d:Addr} {kvs:List (List Key × V)} (I:Inv X pins σ H s) (h:Rd H d (.dT kvs)):∃ (o:Obj) (es:Array DictEntry) (ep:Nat),(d == sysModules)=false/\s.heap.get? d=some o/\o.ExactDict/\o.data = .dict es ep/\es.size=kvs.length/\kvs.length <= sizeLine /\
  (kvs.map (·.1)).Nodup/\∀ (i:Nat) (k:List Key) (v:V),kvs[i]? = some (k,v)->∃ (en:DictEntry) (q:Addr),es[i]? = some en/\en.key = .ref q/\H q=some (.tup (k.map kV))/\RelV v en.val:=by
 obtain ⟨z,hs,xs,pr,o,es,ep,ho,hx,hdt,he,hn⟩:=h.ok I.hok
 refine ⟨o,es,ep,hs,ho,hx,hdt,?_,z,?_,fun i k v e=>?_⟩
 ·have l1:es.size=xs.length:=size_of_entries he
  have l2:kvs.length=xs.length:=Paired.length pr
  omega
 ·have e:kvs.map (·.1)=xs.map (·.1):=by
   clear he hn z h
   induction pr with
   | nil=>rfl
   | cons r t ih=>rw [List.map_cons,List.map_cons,ih,r.1]
  rw [e]; exact hn
 ·obtain ⟨b,hb,e1,e2,e3⟩:=Ca pr e
  have q:=entry_at he i
  rw [hb] at q
  exact ⟨_,b.2.1,q,rfl,e2,e3⟩
theorem adF {es:Array DictEntry} {kvs:List (List Key × V)} (hsz:es.size=kvs.length) (ent:∀ (i:Nat) (k:List Key) (v:V),kvs[i]? = some (k,v)->∃ (en:DictEntry) (q:Addr),es[i]? = some en/\en.key = .ref q/\H q=some (.tup (k.map kV))/\RelV v en.val)
  {vs:List Value} (hl:vs.length=kvs.length) (hv:∀ (j:Nat) v,vs[j]? = some v->∃ en,es[j]? = some en/\v=en.key):∃ qs:List Addr,vs=qs.map Value.ref/\WY H qs (kvs.map (·.1)):=by
 have one:∀ (j:Nat) v,vs[j]? = some v->∃ q,v=Value.ref q/\∃ k w,kvs[j]? = some (k,w)/\H q=some (.tup (k.map kV)):=fun j v e=>by
  obtain ⟨en,e1,e2⟩:=hv j v e
  have hj:j < kvs.length:=by rw [<- hl]; exact (List.getElem?_eq_some_iff.mp e).1
  obtain ⟨en',q,e3,e4,e5,_⟩:=ent j kvs[j].1 kvs[j].2 (List.getElem?_eq_getElem hj)
  rw [e1] at e3
  cases e3
  exact ⟨q,e2.trans e4,kvs[j].1,kvs[j].2,List.getElem?_eq_getElem hj,e5⟩
 have all:∀ (us:List Value),(∀ v ∈ us,∃ q,v=Value.ref q)->∃ qs:List Addr,us=qs.map Value.ref:=fun us=>by
  induction us with
  | nil=>intro _; exact ⟨[],rfl⟩
  | cons u us ih =>
   intro hu
   obtain ⟨q,rfl⟩:=hu u (List.mem_cons_self ..)
   obtain ⟨qs,rfl⟩:=ih fun v hv=>hu v (List.mem_cons_of_mem _ hv)
   exact ⟨q :: qs,rfl⟩
 obtain ⟨qs,e⟩:=all vs fun v hv=>by
  obtain ⟨j,hj⟩:=List.mem_iff_getElem?.mp hv
  obtain ⟨q,e,_⟩:=one j v hj
  exact ⟨q,e⟩
 refine ⟨qs,e,Yr _ _ (by rw [List.length_map,<- hl,e,List.length_map]) fun i q k hq hk=>?_⟩
 obtain ⟨q',e1,k',w,e2,e3⟩:=one i (Value.ref q) (by rw [e,List.getElem?_map,hq]; rfl)
 cases e1
 rw [List.getElem?_map,e2] at hk
 cases hk
 exact e3
theorem QL:∀ qs:List Addr,Vals (qs.map V.ref) (qs.map Value.ref)
 | []=>.nil
 | q :: qs=>.cons rfl (QL qs)
theorem WY.length {qs:List Addr} {ks:List (List Key)} (h:WY H qs ks):qs.length=ks.length:=Paired.length h
theorem ac6 (hc:X.calm=true):Jy X (.type "list") (fun xs H Q=>∃ d kvs,xs=[.ref d]/\Rd H d (.dT kvs)/\∀ l qs,H l=none->WY H qs (kvs.map (·.1))->Q (.ref l) (upd H l (.lst (qs.map V.ref)))):=by
 intro pins s σ H xs us Q I r h
 obtain ⟨d,kvs,rfl,hd,q⟩:=h
 rw [Vals.afA r]
 obtain ⟨o,es,ep,lo,ho,hx,hdt,hsz,hz,hn,ent⟩:=I.dTr hd
 refine PySem.W.kdl_call (aaE lo hx hdt) (I.ok.hd hc) ho (by omega) fun h' tk acc' c' hk hS hacc=>?_
 obtain ⟨qs,e,ka⟩:=adF (H:=H) hsz ent (vs:=acc'.toList) (by rw [Array.length_toList,hacc.1]; exact hsz) (fun j v e=>hacc.2 j v (by rw [<- Array.getElem?_toList]; exact e))
 refine ⟨.ref _,_,I.laid (o:=.lst (qs.map V.ref)) (t':=tk) hk (Nat.le_refl _) ⟨?_,acc'.toList,c',?_,by rw [Array.toArray_toList]; exact hS⟩,rfl,q _ qs (I.hok.fresh (Nat.le_refl _)) ka⟩
 ·rw [List.length_map,ka.length,List.length_map]; exact hz
 ·rw [e]; exact QL qs
theorem RM:Jy X (.builtin "len") (fun xs H Q=>∃ d kvs,xs=[.ref d]/\Rd H d (.dT kvs)/\Q (.int (kvs.length:Nat)) H):=by
 intro pins s σ H xs us Q I r h
 obtain ⟨d,kvs,rfl,hd,q⟩:=h
 rw [Vals.afA r]
 obtain ⟨o,es,ep,lo,ho,hx,hdt,hsz,hz,hn,ent⟩:=I.dTr hd
 have hT:s.TypeIs (.ref d) "dict" := ⟨o,ho,hx.1⟩
 rw [sizeLine_eq] at hz
 refine Calls.call_function_entry kind_len plain_len entry_len (args_len1 _) ?_
 unfold Builtin.«len»
 refine wpAny_bind (m:=oneArg "len" _) (wpAny_pure ?_)
 refine wpAny_bind (m:=callSpecial? (.ref d) (Str.ofString "__len__")) (wpAny_callSpecial?_slot (name:=Str.ofString "__len__") hT F.slot_dict_len
  (wpAny_call_entry F.slot_dict_len hT F.entry_dict_len ?_ (F.args_dict_len_1 _)))
 show wpAny _ _ (dictSize d >>= _) _ _ s
 unfold dictSize
 refine wpAny_bind (wpAny_bind (wpAny_dictEntries ho hdt (wpAny_pure ?_)))
 show wpAny _ _ (Builtin.Dict.pendingCount d >>= _) _ _ s
 refine wpAny_bind (wpAny_pendingCount_other lo ?_)
 refine wpAny_ret_mkInt ?_
 rw [Nat.add_zero,hsz]
 show wpAny _ _ _ _ _ { s with toks:=s.toks + 1 }
 refine wpAny_bind (wpAny_holding (wpAny_pure ?_))
 refine wpAny_bind (wpAny_letGo ?_)
 show wpAny _ _ (if ((kvs.length:Nat):Int) < 0 then _ else _) _ _ _
 rw [if_neg (by omega)]
 show wpAny _ _ (if ((kvs.length:Nat):Int) ≥ 2 ^ 63 then _ else _) _ _ _
 rw [if_neg (by omega)]
 exact wpAny_bind (wpAny_mkInt (wpAny_pure ⟨_,rfl,⟨.int _,H,I.tok _,⟨_,rfl⟩,q⟩⟩))
end
section
variable {prog:Program} {w:World} {A:Around} {E:Value->Shared->Prop} {s:Shared}
theorem Ua {it d:Addr} {i n ep:Nat} {od:Obj} {es:Array DictEntry} {en:DictEntry} {ok ov:Value} {Q:Option Value->Shared->Prop} (hit:IsItemIter s.heap it d i n ep ok ov) (hod:s.heap.get? d=some od) (hdd:od.data = .dict es ep)
  (hsz:es.size=n) (hx:es[i]? = some en)
  (hQ:∀ h',IsItemIterOut h' it d (i + 1) n ep en.key en.val s.heap.objs.size ->
   h'.get? s.heap.objs.size=some { cls:=.type "tuple",data:=.seq #[en.key,en.val] }->h'.objs.size=s.heap.objs.size + 1 ->
   (∀ b o,b ≠ it->s.heap.get? b=some o->h'.get? b=some o)->Q (some (.ref s.heap.objs.size)) { s with heap:=h' }) :
  wpAny (model prog w) A (pyNext (.ref it)) Q E s:=by
 obtain ⟨hp,g,dr,tk,os⟩:=s
 have hT:Shared.TypeIs ⟨hp,g,dr,tk,os⟩ (.ref it) "dict_itemiterator" := ⟨_,hit,rfl⟩
 unfold pyNext
 refine wpAny_bind (wpAny_attempt (wpAny_callSpecial?_slot (name:=Str.ofString "__next__") hT F.slot_dict_itemiterator_next
  (wpAny_call_entry F.slot_dict_itemiterator_next hT F.entry_dict_itemiterator_next ?_ (F.args_dict_itemiterator_next_1 _))))
 refine wpAny_bind (wpAny_pure ?_)
 refine wpAny_bind ?_
 refine wpAny_bind ?_
 first | refine wpAny_bind (wpAny_typeNameOfWhole_itemiter hT (wpAny_pure ?_)) | refine wpAny_bind (wpAny_typeNameOf_itemiter hT (wpAny_pure ?_))
 refine wpAny_bind (wpAny_fieldsOf hit rfl ?_)
 have hown:Builtin.Dict_items.ownsTuple "dict_itemiterator" = true:=by decide
 simp only [hown,if_true]
 show wpAny _ _ (if (Value.ref d == Value.none)=true then _ else _) _ _ _
 rw [if_neg (show ¬ ((Value.ref d == Value.none)=true) from Bool.false_ne_true)]
 refine wpAny_bind (wpAny_pure ?_)
 refine wpAny_bind (wpAny_dictEntries hod hdd ?_)
 rw [if_neg (by rw [hsz]; simp)]
 refine wpAny_bind (wpAny_pure ?_)
 refine wpAny_bind (wpAny_dictEpoch hod hdd ?_)
 rw [if_neg (by simp)]
 refine wpAny_pure ?_
 obtain ⟨hlt',hen⟩:=Array.getElem?_eq_some_iff.mp hx
 simp only [show ¬ ((i:Int) < 0) from by omega,if_false,Int.toNat_natCast,Array.getElem?_eq_getElem hlt']
 refine wpAny_bind ?_
 first | refine wpAny_bind (wpAny_typeNameOfWhole_itemiter hT (wpAny_pure ?_)) | refine wpAny_bind (wpAny_typeNameOf_itemiter hT (wpAny_pure ?_))
 refine wpAny_bind (wpAny_isOneOf_itemiter hT ?_)
 show wpAny _ _ (setField (.ref it) 3 (rawInt ((i:Int) + 1)) >>= _) _ _ ⟨hp,g,dr,tk,os⟩
 refine wpAny_bind (wpAny_setField_rec hit (by simp) fun h₁ he₁ hs₁=>?_)
 replace hs₁:Heap.SameBut it hp h₁:=hs₁
 replace he₁:IsItemIter h₁ it d (i + 1) n ep ok ov:=by
  have e:((i + 1:Nat):Int)=(i:Int) + 1:=by omega
  unfold IsItemIter; rw [e]; simpa [rawInt] using he₁
 have hT₁:Shared.TypeIs ⟨h₁,g,dr,tk,os⟩ (.ref it) "dict_itemiterator" := ⟨_,he₁,rfl⟩
 refine wpAny_bind (wpAny_holding ?_)
 refine wpAny_bind (wpAny_isOneOf_itemiter hT₁ ?_)
 refine wpAny_bind (wpAny_isOneOf_itemiter hT₁ ?_)
 rw [hen]
 show wpAny _ _ (Builtin.Dict_items.pairFromOwner (.ref it) 6 en.key en.val) _ _ ⟨h₁,g,dr,tk,os⟩
 unfold Builtin.Dict_items.pairFromOwner
 refine wpAny_bind (wpAny_newTuple ?_)
 have he₂:IsItemIter (h₁.push { cls:=.type "tuple",data:=.seq #[en.key,en.val] }) it d (i + 1) n ep ok ov:=Heap.get?_push_of_some _ he₁
 generalize hh₂:h₁.push { cls:=.type "tuple",data:=.seq #[en.key,en.val] }=h₂ at he₂
 have hz₁:h₁.objs.size=hp.objs.size:=hs₁.1
 have hil:it < hp.objs.size:=Heap.lt_size hit
 have ht₂:h₂.get? hp.objs.size=some { cls:=.type "tuple",data:=.seq #[en.key,en.val] }:=by rw [<- hh₂,<- hz₁]; exact Heap.get?_push_size _ rfl
 have hz₂:h₂.objs.size=hp.objs.size + 1:=by rw [<- hh₂,Heap.size_push,hz₁]
 have hk₂:∀ b o,b ≠ it->hp.get? b=some o->h₂.get? b=some o:=fun b o hb e=>by rw [<- hh₂]; exact Heap.get?_push_of_some _ (hs₁.extBut b o hb e)
 show wpAny _ _ (Builtin.Dict_items.ownedTupleIsFree (.ref it) >>= _) _ _ ⟨h₂,g,dr,tk,os⟩
 rw [hz₁]
 clear hh₂ he₁ hs₁ hT₁ hz₁ h₁
 refine wpAny_bind ?_
 unfold Builtin.Dict_items.ownedTupleIsFree
 refine wpAny_bind (wpAny_field he₂ rfl (x:=.none) rfl (wpAny_pure ?_))
 simp only [if_true]
 refine wpAny_bind (wpAny_field he₂ rfl (x:=ok) rfl ?_)
 refine wpAny_bind (wpAny_field he₂ rfl (x:=ov) rfl ?_)
 refine wpAny_bind (wpAny_setField_rec he₂ (by simp) fun h₃ he₃ hs₃=>?_)
 replace hs₃:Heap.SameBut it h₂ h₃:=hs₃
 replace he₃:IsItemIter h₃ it d (i + 1) n ep en.key ov:=he₃
 refine wpAny_bind (wpAny_setField_rec he₃ (by simp) fun h₄ he₄ hs₄=>?_)
 replace hs₄:Heap.SameBut it h₃ h₄:=hs₄
 replace he₄:IsItemIter h₄ it d (i + 1) n ep en.key en.val:=he₄
 refine wpAny_bind (wpAny_setField_rec he₄ (by simp) fun h₅ he₅ hs₅=>?_)
 replace hs₅:Heap.SameBut it h₄ h₅:=hs₅
 replace he₅:IsItemIterOut h₅ it d (i + 1) n ep en.key en.val hp.objs.size:=he₅
 refine wpAny_bind (wpAny_setField_rec he₅ (by simp) fun h₆ he₆ hs₆=>?_)
 replace hs₆:Heap.SameBut it h₅ h₆:=hs₆
 replace he₆:IsItemIterOut h₆ it d (i + 1) n ep en.key en.val hp.objs.size:=he₆
 refine wpAny_bind (wpAny_letGo (wpAny_pure (wpAny_pure ⟨_,rfl,wpAny_pure (hQ h₆ he₆ ?_ ?_ ?_)⟩)))
 ·exact hs₆.extBut _ _ (Nat.ne_of_gt hil) (hs₅.extBut _ _ (Nat.ne_of_gt hil) (hs₄.extBut _ _ (Nat.ne_of_gt hil) (hs₃.extBut _ _ (Nat.ne_of_gt hil) ht₂)))
 ·show h₆.objs.size=hp.objs.size + 1
  rw [hs₆.1,hs₅.1,hs₄.1,hs₃.1,hz₂]
 ·exact fun b o hb e=>hs₆.extBut b o hb (hs₅.extBut b o hb (hs₄.extBut b o hb (hs₃.extBut b o hb (hk₂ b o hb e))))
theorem V5 {it d:Addr} {i n ep:Nat} {od:Obj} {es:Array DictEntry} {ok ov:Value} {Q:Option Value->Shared->Prop} (hh:A.handled=none) (hit:IsItemIter s.heap it d i n ep ok ov) (hod:s.heap.get? d=some od) (hdd:od.data = .dict es ep)
  (hsz:es.size=n) (hge':n <= i) (hQ:∀ h',Heap.ExtBut it s.heap h'->Q none { s with heap:=h' }):wpAny (model prog w) A (pyNext (.ref it)) Q E s:=by
 have hT:s.TypeIs (.ref it) "dict_itemiterator" := ⟨_,hit,rfl⟩
 unfold pyNext
 refine wpAny_bind (wpAny_attempt (wpAny_callSpecial?_slot (name:=Str.ofString "__next__") hT F.slot_dict_itemiterator_next
  (wpAny_call_entry F.slot_dict_itemiterator_next hT F.entry_dict_itemiterator_next ?_ (F.args_dict_itemiterator_next_1 _))))
 refine wpAny_bind (wpAny_pure ?_)
 refine wpAny_bind ?_
 refine wpAny_bind ?_
 first | refine wpAny_bind (wpAny_typeNameOfWhole_itemiter hT (wpAny_pure ?_)) | refine wpAny_bind (wpAny_typeNameOf_itemiter hT (wpAny_pure ?_))
 refine wpAny_bind (wpAny_fieldsOf hit rfl ?_)
 have hown:Builtin.Dict_items.ownsTuple "dict_itemiterator" = true:=by decide
 simp only [hown,if_true]
 show wpAny _ _ (if (Value.ref d == Value.none)=true then _ else _) _ _ s
 rw [if_neg (show ¬ ((Value.ref d == Value.none)=true) from Bool.false_ne_true)]
 refine wpAny_bind (wpAny_pure ?_)
 refine wpAny_bind (wpAny_dictEntries hod hdd ?_)
 rw [if_neg (by rw [hsz]; simp)]
 refine wpAny_bind (wpAny_pure ?_)
 refine wpAny_bind (wpAny_dictEpoch hod hdd ?_)
 rw [if_neg (by simp)]
 refine wpAny_pure ?_
 have hge:es.size <= i:=by rw [hsz]; exact hge'
 simp only [show ¬ ((i:Int) < 0) from by omega,if_false,Int.toNat_natCast,Array.getElem?_eq_none hge]
 refine wpAny_bind ?_
 first | refine wpAny_bind (wpAny_typeNameOfWhole_itemiter hT (wpAny_pure ?_)) | refine wpAny_bind (wpAny_typeNameOf_itemiter hT (wpAny_pure ?_))
 show wpAny _ _ (setField (.ref it) 2 .none >>= _) _ _ s
 refine wpAny_bind (wpAny_setField hit rfl (by simp) ?_)
 show wpAny _ _ (newExc (.type "StopIteration") [] >>= _) _ _ _
 refine wpAny_bind ?_
 simp only [newExc,newTuple]
 refine wpAny_bind (wpAny_newObj_type ?_ (by size_fits))
 refine wpAny_bind (m:=firstArgMember _ _) (wpAny_of_eq (a:=Value.none) (by first | rfl | (simp only [firstArgMember]; rfl)) ?_)
 refine wpAny_newObj_type ?_ (by size_fits)
 simp only [raiseNew]
 refine wpAny_bind (wpAny_handled ?_)
 rw [show A.in1.handled=none from hh]
 refine wpAny_bind (wpAny_pure (wpAny_throw ?_))
 refine wpAny_bind (wpAny_isInstance (T := "StopIteration") (b:=true) ⟨_,Heap.get?_push_size _ rfl,rfl⟩ isSubtype_stop ?_)
 exact wpAny_pure (hQ _ (((Heap.SameBut.update ..).extBut.push _).push _))
theorem Wo {v d:Addr} {o:Obj} {es:Array DictEntry} {ep:Nat} {Q:Value->Shared->Prop} (hv:s.heap.IsItemsView v d) (ho:s.heap.get? d=some o) (hdat:o.data = .dict es ep)
  (hQ:Q (.ref s.heap.objs.size) { s with heap:=s.heap.push { cls:=.type "dict_itemiterator",data:=.fields #[.none,.bool false,.ref d,.int 0 0,.int es.size 0,.int ep 0,.none,.none] } }) :
  wpAny (model prog w) A (pyIter (.ref v)) Q E s:=by
 obtain ⟨ov,hov,hcv,hdv⟩:=id hv
 refine wpAny_pyIter_slot hv.typeIs F.slot_dict_items_iter (wpAny_call_entry F.slot_dict_items_iter hv.typeIs F.entry_dict_items_iter ?_ (F.args_dict_items_iter_1 _))
 unfold Builtin.«dict_items.__iter__»
 refine wpAny_bind (wpAny_pure ?_)
 refine wpAny_bind ?_
 unfold Builtin.Dict_items.dictOf
 refine wpAny_bind (wpAny_field hov hdv (x:=.ref d) rfl (wpAny_pure ?_))
 refine wpAny_bind ?_
 unfold Builtin.Dict_items.newIterator
 refine wpAny_bind (wpAny_dictEntries ho hdat ?_)
 refine wpAny_bind (wpAny_dictEpoch ho hdat ?_)
 have hown:Builtin.Dict_items.ownsTuple "dict_itemiterator" = true:=by decide
 simp only [hown,if_true]
 refine wpAny_newObj_type (wpAny_pure ⟨_,rfl, "dict_itemiterator",_,⟨_,Heap.get?_push_size _ rfl,rfl⟩,F.slot_dict_itemiterator_next.lookup,?_⟩)
  (by simp only [sizeOk,Builtin.Dict_items.ownedTupleFields,List.size_toArray,List.length_append,List.length_cons,List.length_nil,sizeLine_eq]; omega)
 simpa [rawInt,Builtin.Dict_items.ownedTupleFields] using hQ
theorem Kh (prog:Program) (w:World) (d:Addr) (hd:(d == sysModules)=false) :
  MeetsIn prog w (Builtin.«dict.items» ⟨[.ref d],[]⟩) (fun _ R s=>s.TypeIs (.ref d) "dict" /\
   R (.ok (.ret (.ref s.heap.objs.size))) { s with heap:=s.heap.push { cls:=.type "dict_items",data:=.fields #[.ref d] } }) :=
 .of_wp fun A R s ⟨hm,h⟩=>by
  unfold Builtin.«dict.items»
  refine wpAny_bind ?_
  unfold Builtin.Dict.noArgs
  refine wpAny_bind (wpAny_notOrdered_dict hm ?_)
  show wpAny _ _ (pure d) _ _ s
  refine wpAny_pure ?_
  show wpAny _ _ (Builtin.Dict.showsAll d >>= _) _ _ s
  unfold Builtin.Dict.showsAll
  rw [if_neg (by rw [hd]; exact Bool.false_ne_true)]
  refine wpAny_bind (wpAny_pure ?_)
  exact wpAny_bind (wpAny_newObj_type (wpAny_pure ⟨_,rfl,h⟩))
end
def afe (d:Addr) (o:Obj) (kvs:List (List Key × V)):It :=
 ⟨fun i H=>H d=some (.frz o (.dT kvs))/\i < kvs.length,fun i H x H'=>∃ T q k v,kvs[i]? = some (k,v)/\H q=some (.tup (k.map kV))/\x = .ref T/\H T=none/\H'=upd H T (.tup [.ref q,v]),fun i H=>H d=some (.frz o (.dT kvs))/\kvs.length <= i⟩
section
variable {P:Program} {w:World} {K:PySem.W.Frag} {d:Addr} {o:Obj} {es:Array DictEntry} {ep:Nat}
theorem R7 {kvs:List (List Key × V)} {elts:List Expr} {kk:Nat} {tpos:Pos} (it:Addr) (hod:o.data = .dict es ep) :
  Turn P w K (.Tuple elts kk tpos) (afe d o kvs) [it] it (fun i h=>∃ ok ov,IsItemIter h it d i kvs.length ep ok ov) where
 mem:=by simp
 obj:=fun i h st b hb=>by
  have e:b=it:=by simpa using hb
  subst e
  obtain ⟨ok,ov,e⟩:=st
  exact ⟨_,e,fun v z=>nomatch z⟩
 keep:=fun i h h' st k=>let ⟨ok,ov,e⟩:=st; ⟨ok,ov,k it (by simp) _ e⟩
 item:=by
  intro X hP hw hK hc i pins s σ H E I hf st hg
  subst hP hw hK
  obtain ⟨hd,hi⟩:=hg
  obtain ⟨o',es',ep',lo,hgd,hx,hdt,hsz,hz,hn,ent⟩:=I.dTr (.inr ⟨o,hd⟩)
  obtain rfl:o'=o:=by
   have q:=(I.hok d _ hd).1
   rw [hgd] at q
   exact Option.some.inj q
  obtain ⟨rfl,rfl⟩:=MJ hod hdt
  obtain ⟨⟨k,v⟩,hkv⟩:∃ p,kvs[i]? = some p:=⟨kvs[i],List.getElem?_eq_getElem hi⟩
  obtain ⟨en,q,hen,hkey,hq,ru⟩:=ent i k v hkv
  obtain ⟨ok,ov,he⟩:=st
  have hlt:it < s.heap.objs.size:=Heap.lt_size he
  refine Ua he hgd hdt hsz hen fun h' ho hT hz hk=>?_
  refine ⟨_,rfl,wpAny_letOwnedTupleGo_items (s:={ s with heap:=h' }) ho fun h'' he' sb=>?_⟩
  have hT2:h''.get? s.heap.objs.size=some { cls:=.type "tuple",data:=.seq #[en.key,en.val] }:=(sb.2 _ (Nat.ne_of_gt hlt)).trans hT
  have new:DN X.prog X.w (upd H s.heap.objs.size (.tup [.ref q,v])) h'' s.heap.objs.size (.tup [.ref q,v]) :=
   ⟨by show 2 <= sizeLine; decide,[en.key,en.val],.cons hkey (.cons ru .nil),⟨_,hT2,rfl,_,rfl⟩⟩
  have I1:Inv X pins σ (upd H s.heap.objs.size (.tup [.ref q,v])) { s with heap:=h'' } :=
   I.QQ (t':=s.toks) (ch:=[it]) (fun b ob hb e=>(sb.2 b (by simpa using hb)).trans (hk b ob (by simpa using hb) e)) hf (Nat.le_refl _) new
  refine ⟨.ref s.heap.objs.size,_,I1,rfl,⟨_,q,k,v,hkv,hq,rfl,I.hok.fresh (Nat.le_refl _),rfl⟩,⟨en.key,en.val,he'⟩,fun b hb=>?_⟩
  have e:b=it:=by simpa using hb
  rw [e,Ah (Nat.ne_of_lt hlt)]
  exact (hf it (by simp)).1
 done:=by
  intro X hP hw hK hc i pins s σ H E I hf st hg
  subst hP hw hK
  obtain ⟨hd,hi⟩:=hg
  obtain ⟨f0,f1,f2,f3,f4,f5⟩:=hf it (by simp)
  obtain ⟨o',es',ep',lo,hgd,hx,hdt,hsz,hz,hn,ent⟩:=I.dTr (.inr ⟨o,hd⟩)
  obtain rfl:o'=o:=by
   have q:=(I.hok d _ hd).1
   rw [hgd] at q
   exact Option.some.inj q
  obtain ⟨rfl,rfl⟩:=MJ hod hdt
  obtain ⟨ok,ov,he⟩:=st
  exact V5 (I.ok.hd hc) he hgd hdt hsz hi fun h' eb=>⟨rfl,I.turned (t':=s.toks) (fun b ob hb e=>eb b ob hb e) f0 f1 f3 f4 f5⟩
 self:=fun A i s Q E st h=>let ⟨_,_,e⟩:=st; PySem.W.kcp_self e h
end
def ahf (td:TE):TI:=fun σ H R=>td σ H fun x H1=>∃ d o kvs,x = .ref d/\H1 d=some (.frz o (.dT kvs))/\R (afe d o kvs) H1
section
variable {X:Cx} {tg e:Expr} {td:TE} {apos cpos:Pos}
theorem Ho {elts:List Expr} {kk:Nat} {tpos:Pos} (he:PE X e td) (hbase:attributeBase e "items" X.env (eval e X.env)=eval e X.env:=by rfl) (hline:(apos.endLine == cpos.line)=true:=by rfl) :
  PI X (.Tuple elts kk tpos) (.Call (.Attribute e "items" apos) [] [] cpos) (ahf td):=by
 intro pins s σ H R I h
 refine wpAny_Call_method (T := "dict") (id := "dict.items") hbase rfl hline F.plainAttrs_dict F.slot_dict_items F.type_dict_items (thn (he pins s σ H _ I h) fun u s1 ⟨x,H1,I1,rx,d,o,kvs,ex,hd,q⟩=>?_)
 subst ex
 obtain rfl:u=Value.ref d:=rx
 obtain ⟨o',es,ep,hs,hgd,hx,hdt,hsz,hz,hn,ent⟩:=I1.dTr (.inr ⟨o,hd⟩)
 obtain rfl:o'=o:=by
  have q:=(I1.hok d _ hd).1
  rw [hgd] at q
  exact Option.some.inj q
 have hT:s1.TypeIs (.ref d) "dict" := ⟨_,hgd,hx.1⟩
 refine ⟨hT,(fun b q=>by cases q; exact ⟨_,hgd,hx.2.1⟩),?_⟩
 have I2:Inv X pins σ H1 { s1 with heap:=s1.heap.push { cls:=.type "dict_items",data:=.fields #[.ref d] } }:=I1.kept (t':=s1.toks) fun b ob q=>Heap.get?_push_of_some _ q
 have fin:wpAny (model X.prog X.w) X.A (pyIter (.ref s1.heap.objs.size)) (PIE X pins σ (.Tuple elts kk tpos) R) X.xe { s1 with heap:=s1.heap.push { cls:=.type "dict_items",data:=.fields #[.ref d] } }:=by
  refine Wo (d:=d) ⟨_,Heap.get?_push_size _ rfl,rfl,rfl⟩ (Heap.get?_push_of_some _ hgd) hdt (Rm (tk:=s1.toks) I2 _ (R7 _ hdt) ⟨.none,.none,?_⟩ q)
  rw [hsz]
  exact Heap.get?_push_size _ rfl
 show wpAny _ _ (callWith cpos (.builtin "dict.items") [.ref d] [] []) _ X.xe s1
 exact method_meetsIn F.slot_dict_items F.entry_dict_items rfl (PySem.evalArgs_none ⟨rfl,hT,F.args_dict_items_1 _,_,Kh X.prog X.w d hs,hT,fin⟩)
end
theorem FN {d:Addr} {o:Obj} {kvs:List (List Key × V)} {g:TG} {tb:TS} {D:Ends} {σ:St} {H:Hp} (Pv:Nat->St->Hp->Prop) (h0:Pv 0 σ H) (hl:∀ i σ H,i <= kvs.length->Pv i σ H->H d=some (.frz o (.dT kvs)))
  (hs:∀ i k v σ H T q,kvs[i]? = some (k,v)->Pv i σ H->H q=some (.tup (k.map kV))->H T=none->g (.ref T) σ (upd H T (.tup [.ref q,v])) fun σ2 H2=>tb { D with nx:=Pv (i + 1),ct:=Pv (i + 1),bk:=D.nx } σ2 H2) (hd:∀ σ H,Pv kvs.length σ H->D.nx σ H) :
  ∃ W:Nat->Nat->St->Hp->Prop,(∃ m,W 0 m σ H)/\∀ i m σ H,W i m σ H ->
   ((afe d o kvs).stop i H/\D.nx σ H) \/ ((afe d o kvs).go i H/\∃ N:St->Hp->Prop,(∀ σ' H',N σ' H'->∃ m',m' < m/\W (i + 1) m' σ' H')/\∀ x H',(afe d o kvs).yld i H x H'->g x σ H' fun σ2 H2=>tb { D with nx:=N,ct:=N,bk:=D.nx } σ2 H2):=by
 refine ⟨fun i m σ H=>m=kvs.length - i/\i <= kvs.length/\Pv i σ H,⟨kvs.length,by simp,Nat.zero_le _,h0⟩,?_⟩
 rintro i m σ H ⟨rfl,hi,p⟩
 have q:=hl i σ H hi p
 by_cases hlt:i < kvs.length
 ·refine .inr ⟨⟨q,hlt⟩,Pv (i + 1),fun σ' H' p'=>⟨kvs.length - (i + 1),by omega,rfl,hlt,p'⟩,fun x H' y=>?_⟩
  obtain ⟨T,a,k,v,e,ha,rfl,hT,rfl⟩:=y
  exact hs i k v σ H T a e p ha hT
 ·have e:i=kvs.length:=by omega
  subst e
  exact .inl ⟨⟨q,Nat.le_refl _⟩,hd σ H p⟩
theorem Jt {K:PySem.W.Frag} {a:Addr} {xs:List V} {g:TG} {tb:TS} {D:Ends} {σ:St} {H:Hp} (Pv:Nat->St->Hp->Prop) (h0:Pv 0 σ H) (hl:∀ i σ H,i <= xs.length->Pv i σ H->SqL K H a xs)
  (hs:∀ i x σ H T,xs[i]? = some x->Pv i σ H->H T=none->g (.ref T) σ (upd H T (.tup [.int (i:Nat),x])) fun σ2 H2=>tb { D with nx:=Pv (i + 1),ct:=Pv (i + 1),bk:=D.nx } σ2 H2) (hd:∀ σ H,Pv xs.length σ H->D.nx σ H) :
  ∃ W:Nat->Nat->St->Hp->Prop,(∃ m,W 0 m σ H)/\∀ i m σ H,W i m σ H ->
   ((Ite K a).stop i H/\D.nx σ H) \/ ((Ite K a).go i H/\∃ N:St->Hp->Prop,(∀ σ' H',N σ' H'->∃ m',m' < m/\W (i + 1) m' σ' H')/\∀ x H',(Ite K a).yld i H x H'->g x σ H' fun σ2 H2=>tb { D with nx:=N,ct:=N,bk:=D.nx } σ2 H2):=by
 refine ⟨fun i m σ H=>m=xs.length - i/\i <= xs.length/\Pv i σ H,⟨xs.length,by simp,Nat.zero_le _,h0⟩,?_⟩
 rintro i m σ H ⟨rfl,hi,p⟩
 have q:=hl i σ H hi p
 by_cases hlt:i < xs.length
 ·refine .inr ⟨⟨xs,xs[i],q,by simp [hlt]⟩,Pv (i + 1),fun σ' H' p'=>⟨xs.length - (i + 1),by omega,rfl,hlt,p'⟩,fun x H' y=>?_⟩
  obtain ⟨T,z,rfl,hT,rfl,y⟩:=y
  exact hs i z σ H T (y xs q) p hT
 ·have e:i=xs.length:=by omega
  subst e
  exact .inl ⟨⟨xs,q,Nat.le_refl _⟩,hd σ H p⟩
open AutoSeq1 (wpAny_loadPart')
section
variable {prog:Program} {w:World} {A:Around} {E:Value->Shared->Prop} {s:Shared}
theorem Qm {it l:Addr} {i:Nat} {items:Array Value} {x:Value} {Q:Value->Shared->Prop} (hit:s.heap.IsTupleIter it l i)
  (hl:s.heap.IsTuple l items) (hx:items[i]? = some x)
  (hQ:∀ h',h'.IsTupleIter it l (i + 1)->Heap.SameBut it s.heap h'->Q x { s with heap:=h' }) :
  wpAny (model prog w) A (Builtin.SmallTypes.nextOf (.ref it)) Q E s:=by
 obtain ⟨o,ho,hc,hd⟩:=id hit
 obtain ⟨ol,hol,_,nl,hdl⟩:=hl
 unfold Builtin.SmallTypes.nextOf
 refine wpAny_bind (wpAny_callSpecial?_slot (name:=Str.ofString "__next__") hit.typeIs F.slot_tuple_iterator_next
  (wpAny_call_entry F.slot_tuple_iterator_next hit.typeIs F.entry_tuple_iterator_next ?_ (F.args_tuple_iterator_next_1 _)))
 show wpAny _ _ (field (.ref it) 0 >>= _) _ _ s
 refine wpAny_bind (wpAny_field ho hd (x:=.ref l) rfl ?_)
 show wpAny _ _ (if (Value.ref l == Value.none)=true then _ else _) _ _ s
 rw [if_neg (show ¬ ((Value.ref l == Value.none)=true) from Bool.false_ne_true)]
 show wpAny _ _ (field (.ref it) 1 >>= _) _ _ s
 refine wpAny_bind (wpAny_field ho hd (x:=.int i 0) rfl ?_)
 show wpAny _ _ (seqItems? (.ref l) >>= _) _ _ s
 refine wpAny_bind (wpAny_seqItems hol hdl ?_)
 simp only [Int.toNat_natCast,hx]
 refine wpAny_bind (wpAny_setField ho hd (by simp) (wpAny_pure ⟨x,rfl,wpAny_pure (hQ _ ?_ (Heap.SameBut.update ..))⟩))
 exact ⟨_,Heap.get?_update_self _ ho (Obj.isFreed_of_fields (Obj.data_mapFields hd _)),(Obj.cls_mapFields ..).trans hc,by
  rw [Obj.data_mapFields hd]; simp [rawInt]⟩
theorem Rt {it l:Addr} {i:Nat} {items:Array Value} {Q:Value->Shared->Prop} (hh:A.handled=none)
  (hit:s.heap.IsTupleIter it l i) (hl:s.heap.IsTuple l items) (hx:items[i]? = none)
  (hE:∀ h' e,Heap.ExtBut it s.heap h'->(∃ o,h'.get? e=some o/\o.cls = .type "StopIteration")->E (.ref e) { s with heap:=h' }) :
  wpAny (model prog w) A (Builtin.SmallTypes.nextOf (.ref it)) Q E s:=by
 obtain ⟨o,ho,hc,hd⟩:=id hit
 obtain ⟨ol,hol,_,nl,hdl⟩:=hl
 unfold Builtin.SmallTypes.nextOf
 refine wpAny_bind (wpAny_callSpecial?_slot (name:=Str.ofString "__next__") hit.typeIs F.slot_tuple_iterator_next
  (wpAny_call_entry F.slot_tuple_iterator_next hit.typeIs F.entry_tuple_iterator_next ?_ (F.args_tuple_iterator_next_1 _)))
 show wpAny _ _ (field (.ref it) 0 >>= _) _ _ s
 refine wpAny_bind (wpAny_field ho hd (x:=.ref l) rfl ?_)
 show wpAny _ _ (if (Value.ref l == Value.none)=true then _ else _) _ _ s
 rw [if_neg (show ¬ ((Value.ref l == Value.none)=true) from Bool.false_ne_true)]
 show wpAny _ _ (field (.ref it) 1 >>= _) _ _ s
 refine wpAny_bind (wpAny_field ho hd (x:=.int i 0) rfl ?_)
 show wpAny _ _ (seqItems? (.ref l) >>= _) _ _ s
 refine wpAny_bind (wpAny_seqItems hol hdl ?_)
 simp only [Int.toNat_natCast,hx]
 refine wpAny_bind (wpAny_rule (wpAny_bind (wpAny_setField ho hd (by simp) ?_)))
 show wpAny _ _ (newExc (.type "StopIteration") [] >>= _) _ _ _
 refine wpAny_bind ?_
 simp only [newExc,newTuple]
 refine wpAny_bind (wpAny_newObj_type ?_ (by size_fits))
 refine wpAny_bind (m:=firstArgMember _ _) (wpAny_of_eq (a:=Value.none) (by first | rfl | (simp only [firstArgMember]; rfl)) ?_)
 refine wpAny_newObj_type ?_ (by size_fits)
 simp only [raiseNew]
 refine wpAny_bind (wpAny_handled ?_)
 first | rw [show A.in1.handled=none from hh] | rw [hh]
 refine wpAny_bind (wpAny_pure (wpAny_throw ?_))
 exact hE _ _ (((Heap.SameBut.update ..).extBut.push _).push _) ⟨_,Heap.get?_push_size _ rfl,rfl⟩
theorem Tu (hh:A.handled=none) (it l:Addr) (hne:l ≠ it) (items:Array Value) :
  Draws prog w A it [it,l] items.size (fun i v=>items[i]? = some v) (fun i h=>h.IsTupleIter it l i/\h.IsTuple l items) where
 live:=fun _ _ st=>let ⟨o,ho,_⟩:=st.1; ⟨o,ho⟩
 frame:=fun _ _ _ st hk=>⟨st.1.at fun o e=>hk it (by simp) o e,st.2.at fun o e=>hk l (by simp) o e⟩
 item:=fun i s Q E hi st hQ=>by
  refine Qm st.1 st.2 (x:=items[i]) (by simp [hi]) fun h' hit' hs'=>?_
  exact hQ _ h' s.toks (by simp [hi]) ⟨hit',st.2.extBut hs'.extBut hne⟩ hs'
 done:=fun s Q E st hE=>Rt hh st.1 st.2 (by simp) hE
end
theorem Lp (l:Addr) (items:Array Value) (n:Nat) (dct:Option Addr) (sl:Array (Option Value)) :
  Meets (Builtin.«enumerate.__new__» ⟨[.type "enumerate",.ref l],[]⟩) (fun _ R s=>s.heap.get? l=some { cls:=.type "tuple",dict:=dct,data:=.seq items n,slots:=sl } /\
   R (.ok (.ret (.ref (s.heap.push { cls:=.type "tuple_iterator",data:=.fields #[.ref l,.int 0 0] }).objs.size)))
    { s with heap:=(s.heap.push { cls:=.type "tuple_iterator",data:=.fields #[.ref l,.int 0 0] }).push { cls:=.type "enumerate",data:=.fields #[.none,.bool false,.ref s.heap.objs.size,rawInt 0,.none,.none] } }) :=
 .of_wp fun prog w A R s h=>by
  obtain ⟨hp,g,d,tk,os⟩:=s; obtain ⟨hl,h⟩:=h
  have hsub:=sub_enumerate
  have hL:Heap.IsTuple (Shared.heap ⟨hp,g,d,tk,os⟩) l items:=⟨_,hl,rfl,n,rfl⟩
  wp_walk using wpAny_loadPart' hl
  refine wpAny_stack_any fun st=>wpAny_pure ?_
  split
  ·rename_i c _ _ _ _ _
   cases (c == Value.type "enumerate")
   ·wp_walk using wpAny_loadPart' hl,wpAny_pyIter_tuple hL
    exact ⟨_,rfl,h⟩
   ·wp_walk using wpAny_loadPart' hl,wpAny_pyIter_tuple hL
    exact ⟨_,rfl,h⟩
  ·wp_walk using wpAny_loadPart' hl,wpAny_pyIter_tuple hL
   exact ⟨_,rfl,h⟩
section
variable {prog:Program} {w:World} {A:Around} {E:Value->Shared->Prop} {s:Shared}
theorem Ma {l:Addr} {items:Array Value} {Q:Value->Shared->Prop} (hL:s.heap.IsTuple l items)
  (h:∀ h',IsEnum h' (s.heap.objs.size + 1) s.heap.objs.size 0 .none->h'.IsTupleIter s.heap.objs.size l 0->h'.objs.size=s.heap.objs.size + 2 ->
   (∀ b o,s.heap.get? b=some o->h'.get? b=some o)->Q (.ref (s.heap.objs.size + 1)) { s with heap:=h' }) :
  wpAny (model prog w) A (call (.type "enumerate") [.ref l]) Q E s:=by
 obtain ⟨⟨c,dct,dt,sl⟩,hl,hc,n,hd⟩:=hL
 replace hc:c = .type "tuple" := hc
 replace hd:dt = .seq items n:=hd
 subst hc hd
 refine callType_new F.called_enumerate (by decide) (F.typeCall_enumerate_1 _) (F.newCall_enumerate_1 _) (fun obj=>F.args_object_init_2 obj _) F.entry_enumerate_new
  (Lp l items n dct sl) ⟨hl,?_⟩
 have hz:(s.heap.push { cls:=.type "tuple_iterator",data:=.fields #[.ref l,.int 0 0] }).objs.size=s.heap.objs.size + 1:=Heap.size_push ..
 show _/\_
 rw [hz]
 have he:IsEnum ((s.heap.push { cls:=.type "tuple_iterator",data:=.fields #[.ref l,.int 0 0] }).push
   { cls:=.type "enumerate",data:=.fields #[.none,.bool false,.ref s.heap.objs.size,rawInt 0,.none,.none] }) (s.heap.objs.size + 1) s.heap.objs.size 0 .none:=by
  have:=Heap.get?_push_size (s.heap.push { cls:=.type "tuple_iterator",data:=.fields #[.ref l,.int 0 0] })
   (o:={ cls:=.type "enumerate",data:=.fields #[.none,.bool false,.ref s.heap.objs.size,rawInt 0,.none,.none] }) rfl
  rw [hz] at this; exact this
 refine ⟨⟨_,he,rfl⟩,h _ he ⟨_,Heap.get?_push_of_some _ (Heap.get?_push_size _ rfl),rfl,rfl⟩ (by rw [Heap.size_push,hz]) fun b o x=>Heap.get?_push_of_some _ (Heap.get?_push_of_some _ x)⟩
end
def agG (K:PySem.W.Frag) (a:Addr):It :=
 ⟨fun i H=>∃ (xs:List V) (x:V),SqT K H a xs/\xs[i]? = some x,fun i H v H'=>∃ T x,v = .ref T/\H T=none/\H'=upd H T (.tup [.int (i:Nat),x])/\∀ xs,SqT K H a xs->xs[i]? = some x,fun i H=>∃ xs:List V,SqT K H a xs/\xs.length=i⟩
theorem ab8 {P:Program} {w:World} {K:PySem.W.Frag} {elts:List Expr} {kk:Nat} {tpos:Pos} (a e it:Addr) (hai:a ≠ it) (hae:a ≠ e) :
  Turn P w K (.Tuple elts kk tpos) (agG K a) [e,it] e (fun i h=>(∃ old,IsEnum h e it ((i:Nat):Int) old)/\h.IsTupleIter it a i/\e ≠ it) where
 mem:=by simp
 obj:=fun i h st b hb=>by
  obtain ⟨⟨old,he⟩,⟨o,ho,hc,hd⟩,_⟩:=st
  have e':b=e \/ b=it:=by simpa using hb
  rcases e' with z | z
  ·rw [z]; exact ⟨_,he,fun v q=>nomatch q⟩
  ·rw [z]; exact ⟨o,ho,fun v q=>by rw [hd] at q; cases q⟩
 keep:=fun i h h' st k=>let ⟨⟨old,he⟩,hi,hne⟩:=st; ⟨⟨old,k e (by simp) _ he⟩,hi.at fun o q=>k it (by simp) o q,hne⟩
 item:=by
  intro X hP hw hK hc i pins s σ H E I hf st hg
  subst hP hw hK
  obtain ⟨⟨old,he⟩,hit,hne⟩:=st
  obtain ⟨xs,x,hq,hx⟩:=hg
  obtain ⟨its,rv,p,hz⟩:=I.tuple hq
  obtain ⟨u,hu,ru⟩:=rv.get hx
  have hel:e < s.heap.objs.size:=Heap.lt_size he
  have hil:it < s.heap.objs.size:=by obtain ⟨_,q,_⟩:=hit; exact Heap.lt_size q
  have hlen:=rv.length
  have alf:i < its.toArray.size:=by
   have:=(List.getElem?_eq_some_iff.mp hx).1
   simp only [List.size_toArray]; omega
  refine wpAny_pyNext_enum_itemD (Tu (A:=X.A.in1) (I.ok.hd hc) it a hai its.toArray) he ⟨hit,show s.heap.IsTuple a its.toArray from p⟩ alf hne (by simp; exact ⟨hne,hae.symm⟩) fun x' h' tk hx' ho hit' hT hsz hk=>?_
  have ex:x'=u:=by
   simp only [List.getElem?_toArray] at hx'
   rw [hu] at hx'
   exact (Option.some.inj hx').symm
  subst ex
  refine ⟨_,rfl,wpAny_letOwnedTupleGo_enum (s:={ s with heap:=h',toks:=tk + 1 }) ho fun h'' he' sb=>?_⟩
  have hT2:h''.get? s.heap.objs.size=some { cls:=.type "tuple",data:=.seq #[.int i tk,x'] }:=(sb.2 _ (Nat.ne_of_gt hel)).trans hT
  have new:DN X.prog X.w (upd H s.heap.objs.size (.tup [.int (i:Nat),x])) h'' s.heap.objs.size (.tup [.int (i:Nat),x]) :=
   ⟨by show 2 <= sizeLine; decide,[.int i tk,x'],.cons ⟨_,rfl⟩ (.cons ru .nil),⟨_,hT2,rfl,_,rfl⟩⟩
  have I1:Inv X pins σ (upd H s.heap.objs.size (.tup [.int (i:Nat),x])) { s with heap:=h'',toks:=tk + 1 } :=
   I.QQ (ch:=[e,it]) (fun b ob hb q=>(sb.2 b (fun z=>hb (by simp [z]))).trans (hk b ob (fun z=>hb (by simp [z])) (fun z=>hb (by simp [z])) q)) hf (Nat.le_refl _) new
  refine ⟨.ref s.heap.objs.size,_,I1,rfl,⟨_,x,rfl,I.hok.fresh (Nat.le_refl _),rfl,fun ys hy=>by rw [I.X3 hy hq]; exact hx⟩,⟨⟨x',?_⟩,hit'.1.at fun o q=>(sb.2 it (Ne.symm hne)).trans q,hne⟩,fun b hb=>?_⟩
  ·have e1:((i + 1:Nat):Int)=(i:Int) + 1:=by omega
   rw [e1]; exact he'
  ·have hb':b < s.heap.objs.size:=by
    have e':b=e \/ b=it:=by simpa using hb
    rcases e' with z | z
    ·rw [z]; exact hel
    ·rw [z]; exact hil
   rw [Ah (Nat.ne_of_lt hb')]
   exact (hf b hb).1
 done:=by
  intro X hP hw hK hc i pins s σ H E I hf st hg
  subst hP hw hK
  obtain ⟨⟨old,he⟩,hit,hne⟩:=st
  obtain ⟨xs,hq,hx⟩:=hg
  obtain ⟨its,rv,p,hz⟩:=I.tuple hq
  obtain ⟨f0,f1,f2,f3,f4,f5⟩:=hf it (by simp)
  have hl:=rv.length
  have ei:its.toArray.size=i:=by simp only [List.size_toArray]; omega
  refine wpAny_pyNext_enum_endD (Tu (A:=X.A.in1) (I.ok.hd hc) it a hai its.toArray) he ⟨by rw [ei]; exact hit,show s.heap.IsTuple a its.toArray from p⟩ fun h' eb=>⟨rfl,I.turned (t':=s.toks) (fun b o hb q=>eb b o hb q) f0 f1 f3 f4 f5⟩
 self:=fun A i s Q E st h=>let ⟨⟨_,he⟩,_⟩:=st; wpAny_pyIter_enum he h
def aiL (K:PySem.W.Frag) (ta:TA):TI:=fun σ H R=>ta σ H fun vs H1=>∃ a xs,vs=[.ref a]/\SqT K H1 a xs/\R (agG K a) H1
theorem afH {X:Cx} {e:Expr} {ta:TA} {p pos tpos:Pos} {elts:List Expr} {kk:Nat} (hg:Gl X "enumerate") (hm:X.mg "enumerate" = none) (ha:PA X [e] ta) (hs:starEach [e] X.env=[(false,eval e X.env)]:=by rfl) :
  PI X (.Tuple elts kk tpos) (.Call (.Name "enumerate" p) [e] [] pos) (aiL X.K ta):=by
 intro pins s σ H R I h
 refine Call_ (Rw I hg hm boot_enumerate (PyProof.Rows.callWith_type1 (thn (ha pos pins s σ H _ I h) fun us s1 ⟨vs,H1,I1,r1,q1⟩=>?_) hs rfl))
 obtain ⟨a,xs,ex,hq,q⟩:=q1
 subst ex
 cases r1 with
 | cons r rr =>
  cases rr
  cases r
  obtain ⟨its,rv,p',hz⟩:=I1.tuple hq
  have hal:a < s1.heap.objs.size:=by obtain ⟨o,ho,_⟩:=p'; exact Heap.lt_size ho
  refine Ma (show s1.heap.IsTuple a its.toArray from p') fun h' he hit hsz hk=>wpAny_pyIter_enum he ?_
  have I2:Inv X pins σ H1 { s1 with heap:=h' }:=I1.kept (t':=s1.toks) hk
  refine ⟨s1.heap.objs.size + 1,[s1.heap.objs.size + 1,s1.heap.objs.size],_,_,H1,rfl,I2,ab8 a (s1.heap.objs.size + 1) s1.heap.objs.size (Nat.ne_of_lt hal) (Nat.ne_of_lt (Nat.lt_succ_of_lt hal)),⟨⟨.none,he⟩,hit,Nat.succ_ne_self _⟩,fun b hb=>?_,q⟩
  have e':b=s1.heap.objs.size + 1 \/ b=s1.heap.objs.size:=by simpa using hb
  have hle:s1.heap.objs.size <= b:=by
   rcases e' with z | z
   ·rw [z]; exact Nat.le_add_right _ _
   ·rw [z]; exact Nat.le_refl _
  exact I1.acV hle (I1.hok.fresh hle)
theorem aeP {K:PySem.W.Frag} {a:Addr} {xs:List V} {g:TG} {tb:TS} {D:Ends} {σ:St} {H:Hp} (Pv:Nat->St->Hp->Prop) (h0:Pv 0 σ H) (hl:∀ i σ H,i <= xs.length->Pv i σ H->SqT K H a xs)
  (hs:∀ i x σ H T,xs[i]? = some x->Pv i σ H->H T=none->g (.ref T) σ (upd H T (.tup [.int (i:Nat),x])) fun σ2 H2=>tb { D with nx:=Pv (i + 1),ct:=Pv (i + 1),bk:=D.nx } σ2 H2) (hd:∀ σ H,Pv xs.length σ H->D.nx σ H) :
  ∃ W:Nat->Nat->St->Hp->Prop,(∃ m,W 0 m σ H)/\∀ i m σ H,W i m σ H ->
   ((agG K a).stop i H/\D.nx σ H) \/ ((agG K a).go i H/\∃ N:St->Hp->Prop,(∀ σ' H',N σ' H'->∃ m',m' < m/\W (i + 1) m' σ' H')/\∀ x H',(agG K a).yld i H x H'->g x σ H' fun σ2 H2=>tb { D with nx:=N,ct:=N,bk:=D.nx } σ2 H2):=by
 refine ⟨fun i m σ H=>m=xs.length - i/\i <= xs.length/\Pv i σ H,⟨xs.length,by simp,Nat.zero_le _,h0⟩,?_⟩
 rintro i m σ H ⟨rfl,hi,p⟩
 have q:=hl i σ H hi p
 by_cases hlt:i < xs.length
 ·refine .inr ⟨⟨xs,xs[i],q,by simp [hlt]⟩,Pv (i + 1),fun σ' H' p'=>⟨xs.length - (i + 1),by omega,rfl,hlt,p'⟩,fun x H' y=>?_⟩
  obtain ⟨T,z,rfl,hT,rfl,y⟩:=y
  exact hs i z σ H T (y xs q) p hT
 ·have e:i=xs.length:=by omega
  subst e
  exact .inl ⟨⟨xs,q,rfl⟩,hd σ H p⟩
def ah5 (tk tv:TE):TE:=fun σ H Q=>∀ p,H p=none->tk σ (upd H p (.dT [])) fun x H1=>tv σ H1 fun y H2=>H2 p=some (.dT [])/\∃ a k,x = .ref a/\H2 a=some (.tup (k.map kV))/\Q (.ref p) (upd H2 p (.dT [(k,y)]))
theorem afJ {X:Cx} {pos:Pos} {k v:Expr} {tk tv:TE} (hu:X.A.units + 1 < cLine) (hk:PE X k tk) (hv:PE X v tv):PE X (.Dict [some k] [v] pos) (ah5 tk tv):=by
 intro pins s σ H Q I q
 have hn:=I.hok.fresh (Nat.le_refl s.heap.objs.size)
 have I1:=I.laid (a:=s.heap.objs.size) (o:=.dT []) (h':=s.heap.push { cls:=.type "dict",data:=.dict #[] }) (t':=s.toks) (fun _ _ q=>Heap.get?_push_of_some _ q) (Nat.le_refl _) (abm s.heap I.big)
 have hsh:(evalEachOpt [some k] X.env).zip ((evalEach [v] X.env).map fun v=>do let x <- v; standAt pos; pure x)=(pairTrees [some k] [v] X.env pos).map fun p=>(some p.1,p.2):=zip_pairTrees [some k] [v] X.env pos rfl rfl
 rw [arm_eval_Dict,hsh,dictDisplay_pairs (pairTrees [some k] [v] X.env pos) (by intro e; cases e) (by show 1 < 17; decide)]
 refine wpAny_bind (wpAny_standAt (wpAny_bind ?_))
 unfold subDict
 refine wpAny_bind (wpAny_alloc ?_)
 refine wpAny_bind (wpAny_holding ?_)
 rw [if_pos (by show 1 <= 15; decide)]
 refine wpAny_bind (pairTrees_cons_walk (thn (hk pins _ σ _ _ I1 (q _ hn)) fun u s1 ⟨x,H1,I2,rx,q1⟩=>thn (hv pins s1 σ H1 _ I2 q1) fun w2 s2 ⟨y,H2,I3,ry,e,a,ks,ex,ha,q2⟩=>pairTrees_nil_walk ?_))
 subst ex
 cases (show u=Value.ref a from rx)
 obtain ⟨z,hd,xs,rel,dd⟩:=ahU I3.hok e
 cases rel
 refine wpAny_holding ?_
 rw [List.forIn_cons]
 refine wpAny_bind (wpAny_bind ?_)
 show wpAny _ _ (dictSet s.heap.objs.size (.ref a) w2 >>= fun _=>pure (ForInStep.yield PUnit.unit)) _ _ _
 refine wpAny_bind (wpAny_dictSet_heap (hsz:=Nat.zero_le _) (show (tupleKind (Dg X.prog X.w)).room X.A from Nat.lt_of_succ_lt hu) (Ly I3.hok ha) dd fun h' dd' hs=>wpAny_pure ?_)
 dsimp only
 rw [List.forIn_nil]
 refine wpAny_pure (wpAny_pure (wpAny_pure (wpAny_pure ?_)))
 obtain ⟨qo,es,ep,hq,h2,h3,h4,_,h5⟩:=dd'
 refine ⟨.ref s.heap.objs.size,_,Z2 (ob:=.dT [(ks,y)]) I3 (by rw [e]; exact True.intro) hs ⟨qo,hq⟩ ⟨by show 1 <= sizeLine; decide,hd,_,(KT.put (H:=H2) .nil ks ha ry).keeps fun c ys ec=>?_,qo,es,ep,hq,h2,h3,h4,h5⟩,rfl,q2⟩
 rw [Ah (G7 ec e (fun z=>nomatch z))]
 exact ec
open Mx (P3 lt3)
def t3 (q:P3):List Key:=[.inl q.1,.inl q.2.1,.inl q.2.2]
def v3 (q:P3):List V:=[.int q.1,.int q.2.1,.int q.2.2]
theorem aca {a b:P3} (h:t3 a=t3 b):a=b:=by
 obtain ⟨x,y,z⟩:=a
 obtain ⟨x',y',z'⟩:=b
 simp [t3] at h
 obtain ⟨rfl,rfl,rfl⟩:=h
 rfl
def k3 (x:P3 × V):List Key × V:=(t3 x.1,x.2)
theorem adG (es:List (P3 × V)):(es.map k3).map (·.1)=(es.map (·.1)).map t3:=by rw [List.map_map,List.map_map]; rfl
def kyH (H:Hp) (q:Addr):P3:=match H q with
 | some (.tup [.int x,.int y,.int z])=>(x,y,z)
 | _=>(0,0,0)
theorem acP {H:Hp} {q:Addr} {k:P3} (h:H q=some (.tup (v3 k))):kyH H q=k:=by
 unfold kyH
 rw [h]
 rfl
def aax:Value->Addr
 | .ref a=>a
 | _=>0
theorem VV {H:Hp}:∀ {qs:List Addr} {ks:List P3},Paired (fun q k=>H q=some (.tup (v3 k))) qs ks->ks=qs.map (kyH H)
 | _,_,.nil=>rfl
 | _,_,.cons h t=>by rw [List.map_cons,acP h,<- VV t]
theorem Wb {H:Hp}:∀ {qs:List Addr},(∀ q ∈ qs,∃ k,H q=some (.tup (v3 k)))->Paired (fun q k=>H q=some (.tup (v3 k))) qs (qs.map (kyH H))
 | [],_=>.nil
 | q :: qs,h=>.cons (by obtain ⟨k,e⟩:=h q (List.mem_cons_self ..); rw [acP e]; exact e) (Wb fun q' hq=>h q' (List.mem_cons_of_mem _ hq))
theorem adz {H:Hp}:∀ {qs:List Addr} {ks:List P3},WY H qs (ks.map t3)->Paired (fun q k=>H q=some (.tup (v3 k))) qs ks
 | [],[],_=>.nil
 | [],_ :: _,h=>nomatch h
 | _ :: _,[],h=>nomatch h
 | q :: qs,k :: ks,h=>by
  rw [List.map_cons] at h
  cases h with
  | cons a b=>exact .cons a (adz b)
theorem ah2 {X:Cx} {pins:List (Addr × Obj)} {σ:St} {H:Hp} {s:Shared} (I:Inv X pins σ H s) {q:Addr} {k:P3} (h:H q=some (.tup (v3 k))) :
  ∃ o n a b c,s.heap.get? q=some o/\o.cls = .type "tuple" /\ o.data = .seq #[.int k.1 a,.int k.2.1 b,.int k.2.2 c] n:=by
 obtain ⟨_,its,r,o,ho,hc,n,hd⟩:=I.hok q _ h
 unfold v3 at r
 cases r with
 | cons r1 r =>
  cases r with
  | cons r2 r =>
   cases r with
   | cons r3 r =>
    cases r
    obtain ⟨a,rfl⟩:=r1
    obtain ⟨b,rfl⟩:=r2
    obtain ⟨c,rfl⟩:=r3
    exact ⟨o,n,a,b,c,ho,hc,hd⟩
theorem aiJ {h:Heap} {q:Addr} {o:Obj} {n:Nat} {k:P3} {a b c:Tok} (ho:h.get? q=some o) (hc:o.cls = .type "tuple") (hd:o.data = .seq #[.int k.1 a,.int k.2.1 b,.int k.2.2 c] n) :
  PyProof.Rows.G.tupKeyC h (fun _=>false) (.ref q)=some [Sum.inl k.1,Sum.inl k.2.1,Sum.inl k.2.2]:=by
 simp [PyProof.Rows.G.tupKeyC,PyProof.Rows.G.isTupObj,ho,hc,tupKey,hd,tupItems]
theorem aiA {a b:P3} (hne:a ≠ b) (h:lexLt itemOrd [Sum.inl b.1,Sum.inl b.2.1,Sum.inl b.2.2] [Sum.inl a.1,Sum.inl a.2.1,Sum.inl a.2.2] = false):lt3 a b:=by
 obtain ⟨x,y,z⟩:=a
 obtain ⟨x',y',z'⟩:=b
 dsimp only at h
 rw [lex_false,lex_false,lex_false] at h
 unfold lt3
 dsimp only
 have e:∀ u v:Int,(itemOrd.blt (Sum.inl u) (Sum.inl v)=true) ↔ u < v:=fun u v=>by
  show decide (u < v)=true ↔ _
  exact decide_eq_true_iff
 have e':∀ u v:Int,(itemOrd.blt (Sum.inl u) (Sum.inl v)=false) ↔ ¬ u < v:=fun u v=>by
  show decide (u < v)=false ↔ _
  exact decide_eq_false_iff_not
 rw [e,e,e,e',e',e'] at h
 have hne':¬ (x=x'/\y=y'/\z=z'):=fun ⟨h1,h2,h3⟩=>hne (by rw [h1,h2,h3])
 omega
section
variable {X:Cx}
def afD:List V->Hp->VK->Prop:=fun xs H Q=>∃ (d:Addr) (es:List (P3 × V)),xs=[.ref d]/\Rd H d (.dT (es.map k3)) /\
 ∀ (l:Addr) (qs:List Addr) (ks:List P3),H l=none->ks.Perm (es.map (·.1))->ks.Pairwise lt3->Paired (fun q k=>H q=some (.tup (v3 k))) qs ks->Q (.ref l) (upd H l (.lst (qs.map V.ref)))
theorem aad (hc:X.calm=true):Jy X (.builtin "sorted") afD:=by
 intro pins s σ H xs us Q I r h
 obtain ⟨d,en,rfl,hd,q⟩:=h
 rw [Vals.afA r]
 obtain ⟨o,es,ep,lo,ho,hx,hdt,hsz,hz,hn,ent⟩:=I.dTr hd
 have alc:(en.map (·.1)).Nodup:=by
  rw [adG] at hn
  exact Mx.Gq hn
 refine Calls.call_function_entry kind_sorted plain_sorted entry_sorted (args_sorted1 _) ?_
 unfold Builtin.«sorted»
 refine wpAny_bind (m:=checkCount "sorted" 1 1 _) (wpAny_pure ?_)
 refine wpAny_bind (PySem.W.kdu_collect (A:=X.A.in1) (aaE lo hx hdt) (I.ok.hd hc) ho (by omega) fun h' tk acc hk hacc=>?_)
 have hlen:acc.toList.length=(en.map k3).length:=by rw [Array.length_toList,hacc.1]; exact hsz
 obtain ⟨qs0,eqs,ka⟩:=adF (H:=H) hsz ent (vs:=acc.toList) hlen (fun j v e=>hacc.2 j v (by rw [<- Array.getElem?_toList]; exact e))
 rw [adG] at ka
 have ka3:=adz ka
 have ek0:=VV ka3
 generalize hvs:acc.toList=vs at *
 have hL:vs.length <= sizeLine:=by rw [hlen]; exact hz
 refine wpAny_bind (wpAny_newList ?_ hL)
 have hoL:(h'.push (seqObj "list" vs.toArray 0)).get? h'.objs.size=some (seqObj "list" vs.toArray 0):=Heap.get?_push_size _ rfl
 have akk:∀ q ∈ qs0,∃ k,H q=some (.tup (v3 k)):=fun a ha=>by
  obtain ⟨i,hi⟩:=List.mem_iff_getElem?.mp ha
  obtain ⟨b,_,e⟩:=Ca ka3 hi
  exact ⟨b,e⟩
 have one:∀ a ∈ qs0,∃ ob n x y z,(h'.push (seqObj "list" vs.toArray 0)).get? a=some ob/\ob.cls = .type "tuple" /\ ob.data = .seq #[.int (kyH H a).1 x,.int (kyH H a).2.1 y,.int (kyH H a).2.2 z] n:=fun a ha=>by
  obtain ⟨k,e⟩:=akk a ha
  obtain ⟨ob,n,x,y,z,h1,h2,h3⟩:=ah2 I e
  rw [acP e]
  exact ⟨ob,n,x,y,z,Heap.get?_push_of_some _ (hk _ _ h1),h2,h3⟩
 have ht:∀ qs:List Addr,(∀ a ∈ qs,a ∈ qs0)->∃ fs,TupsOf (h'.push (seqObj "list" vs.toArray 0)) (fun _=>false) (qs.map Value.ref) fs:=fun qs=>by
  induction qs with
  | nil=>intro _; exact ⟨[],.nil⟩
  | cons a qs ih =>
   intro hq
   obtain ⟨fs,e⟩:=ih fun b hb=>hq b (List.mem_cons_of_mem _ hb)
   obtain ⟨ob,n,x,y,z,h1,h2,h3⟩:=one a (hq a (List.mem_cons_self ..))
   exact ⟨_ :: fs,.cons ⟨a,ob,_,n,rfl,h1,h2,h3,rfl,fun _=>⟨_,_,rfl⟩,fun e=>nomatch e⟩ e⟩
 obtain ⟨fs,ht⟩:=ht qs0 fun _ h=>h
 rw [<- eqs] at ht
 have hkey:∀ a ∈ qs0,PyProof.Rows.G.tupKeyC (h'.push (seqObj "list" vs.toArray 0)) (fun _=>false) (.ref a)=some [Sum.inl (kyH H a).1,Sum.inl (kyH H a).2.1,Sum.inl (kyH H a).2.2]:=fun a ha=>by
  obtain ⟨ob,n,x,y,z,h1,h2,h3⟩:=one a ha
  exact aiJ h1 h2 h3
 have hkk:∀ v,v ∈ vs->∃ l,PyProof.Rows.G.tupKeyC (h'.push (seqObj "list" vs.toArray 0)) (fun _=>false) v=some l:=fun v hv=>by
  rw [eqs] at hv
  obtain ⟨a,ha,rfl⟩:=List.mem_map.mp hv
  exact ⟨_,hkey a ha⟩
 refine wpAny_bind (wpAny_holding (wpAny_call_entry slot_list_sort ⟨_,hoL,rfl⟩ entry_list_sort (PyProof.Rows.G.list_sort_tups (s:={ s with heap:=h'.push (seqObj "list" vs.toArray 0),toks:=tk }) (shape:=fun _=>false) hoL ht hkk hL fun st' a1 a2 a3=>⟨_,rfl,?_⟩) (args_list_sort _)))
 refine wpAny_pure ⟨_,rfl,?_⟩
 have p1:(arrOf st').toList.Perm (vs.zip vs):=by
  rw [<- pairsOf_toList]; exact a1.toList
 have eqp:∀ p ∈ (arrOf st').toList,p.1=p.2/\p.1 ∈ vs:=fun p hp=>mem_zip_self (p1.mem_iff.mp hp)
 have zs:∀ l:List Value,(l.zip l).map (·.2)=l:=fun l=>by
  induction l with
  | nil=>rfl
  | cons a l ih=>rw [List.zip_cons_cons,List.map_cons,ih]
 have p2:((arrOf st').toList.map (·.2)).Perm vs:=by
  have:=p1.map (·.2)
  rw [zs] at this
  exact this
 have eo:(arrOf st').toList.map (·.2)=(((arrOf st').toList.map (·.2)).map aax).map Value.ref:=by
  rw [List.map_map]
  conv=>lhs; rw [<- List.map_id ((arrOf st').toList.map (·.2))]
  refine List.map_congr_left fun v hv=>?_
  have:=p2.mem_iff.mp hv
  rw [eqs] at this
  obtain ⟨a,_,rfl⟩:=List.mem_map.mp this
  rfl
 have p3:(((arrOf st').toList.map (·.2)).map aax).Perm qs0:=by
  have:=p2.map aax
  rw [eqs] at this
  have e:(qs0.map Value.ref).map aax=qs0:=by
   rw [List.map_map]
   conv=>rhs; rw [<- List.map_id qs0]
   rfl
  rw [e] at this
  exact this
 generalize hqs:((arrOf st').toList.map (·.2)).map aax=qs at eo p3
 have pk:(qs.map (kyH H)).Perm (en.map (·.1)):=by
  rw [ek0]; exact p3.map _
 have hnd:(qs.map (kyH H)).Nodup:=pk.nodup_iff.mpr alc
 have ajT:(arrOf st').toList.length=qs.length:=by rw [<- hqs,List.length_map,List.length_map]
 have hqz:qs.length=vs.length:=by rw [p3.length_eq,eqs,List.length_map]
 have kk:∀ (i:Nat) (hi:i < qs.length),KK (PyProof.Rows.G.tupKindC (h'.push (seqObj "list" vs.toArray 0)) fun _=>false) (arrOf st') i=[Sum.inl (kyH H qs[i]).1,Sum.inl (kyH H qs[i]).2.1,Sum.inl (kyH H qs[i]).2.2]:=fun i hi=>by
  have hi':i < (arrOf st').toList.length:=by rw [ajT]; exact hi
  have hi2:i < (arrOf st').size:=by rw [<- Array.length_toList]; exact hi'
  have e1:(arrOf st')[i]? = some (arrOf st').toList[i]:=by rw [<- Array.getElem?_toList,List.getElem?_eq_getElem hi']
  have e2:=eqp _ (List.getElem_mem hi')
  have e3:(arrOf st').toList[i].2=Value.ref qs[i]:=by
   have:((arrOf st').toList.map (·.2))[i]? = (qs.map Value.ref)[i]?:=by rw [eo]
   rw [List.getElem?_map,List.getElem?_map,List.getElem?_eq_getElem hi',List.getElem?_eq_getElem hi] at this
   exact Option.some.inj this
  unfold KK
  rw [e1]
  dsimp only
  rw [e2.1,e3]
  rw [hkey _ (p3.mem_iff.mp (List.getElem_mem hi))]
  rfl
 have srt:(qs.map (kyH H)).Pairwise lt3:=by
  rw [List.pairwise_iff_getElem]
  intro i j hi hj hij
  rw [List.length_map] at hi hj
  rw [List.getElem_map,List.getElem_map]
  refine aiA (fun e=>?_) ?_
  ·have e':(qs.map (kyH H))[i]? = (qs.map (kyH H))[j]?:=by
    rw [List.getElem?_map,List.getElem?_map,List.getElem?_eq_getElem hi,List.getElem?_eq_getElem hj]
    exact congrArg some e
   have:=(List.getElem?_inj (by rw [List.length_map]; exact hi) hnd).mp e'
   omega
  ·have:=a2 i j (Nat.le_of_lt hij) (by rw [pairsOf_size]; omega)
   rw [kk i hi,kk j hj] at this
   exact this
 obtain ⟨ec,hat⟩:=sortedHeap_at (h:=h'.push (seqObj "list" vs.toArray 0)) (a:=h'.objs.size) (vs:=vs) (n:=0) (out:=(arrOf st').map (·.2)) hoL
 have keep:∀ b ob,h'.get? b=some ob->(sortedHeap (h'.push (seqObj "list" vs.toArray 0)) h'.objs.size vs ((arrOf st').map (·.2))).get? b=some ob:=fun b ob e1=>by
  have hlt:b < h'.objs.size:=Heap.lt_size e1
  rw [sortedHeap_old (Nat.ne_of_lt hlt) (by rw [size_push']; exact Nat.lt_succ_of_lt hlt)]
  exact Heap.get?_push_of_some _ e1
 have I':Inv X pins σ H { s with heap:=h',toks:=tk }:=I.kept (t':=tk) hk
 refine ⟨.ref h'.objs.size,upd H h'.objs.size (.lst (qs.map V.ref)),I'.laid (t':=tk) keep (Nat.le_refl _) ⟨?_,(arrOf st').toList.map (·.2),ec,?_,?_⟩,rfl,q _ qs _ (I'.hok.fresh (Nat.le_refl _)) pk srt (Wb fun a ha=>akk a (p3.mem_iff.mp ha))⟩
 ·rw [List.length_map,hqz]; exact hL
 ·rw [eo]; exact QL qs
 ·have ea:((arrOf st').toList.map (·.2)).toArray=(arrOf st').map (·.2):=by
   rw [<- Array.toList_map]
  rw [ea]
  exact hat
end
def Cl (P:Program) (w:World) (K:PySem.W.Frag) (mg:Str->Option Value) (base:Heap) (k:Nat) (x:Str) (ps:List Str) (sp:Sp):Prop :=
 ∃ (f:Addr) (fd:FuncData),QH P w K mg base CX0 k f fd ps sp/\mg x=some (.ref f)/\PySem.W.keepIn K (.ref f)=true/\Binds K fd ps []
def Dn (K:PySem.W.Frag) (mg:Str->Option Value) (x:Str) (st:Stmt) (ps:List Str):Prop :=
 ∃ (f:Addr) (fd:FuncData),Fun K x x st f fd/\mg x=some (.ref f)/\Binds K fd ps []
theorem Dn.ok {P:Program} {w:World} {K:PySem.W.Frag} {mg:Str->Option Value} {base:Heap} {x:Str} {st:Stmt} {N ps:List Str} {k:Nat} {sp:Sp} (D:Dn K mg x st ps) (S:Av N ps (Al st)) (len:∀ vs H Q E,sp vs H Q E->vs.length=ps.length)
  (hbody:∀ (f:Addr) (cdv:Value) (A:Around) (outer:List Env) (s:Shared) (H:Hp) (vs:List V) (Q:VK) (E:XK),Fq k (A.deeper (envOfC x (Al st) s.heap.objs.size f cdv))->sp vs H Q E ->
   ∃ t,PSs (abz CX0 P w K mg base N x (Al st) f cdv A outer s H E).nox (Fv st) t/\t { nx:=fun _ H'=>Q .non H',rt:=Q } (start N vs) H):Cl P w K mg base (k + 1) x ps sp:=by
 obtain ⟨f,fd,F,m,b⟩:=D
 exact ⟨f,fd,F.ok S len (fun cdv A outer s H vs Q E hr h=>hbody f cdv A outer s H vs Q E hr h),m,F.kp,b⟩
section
variable {X:Cx} {k n:Nat} {x:Str} {ps:List Str} {sp:Sp} {e:Expr} {es:List Expr} {t:TA} {p pos:Pos}
theorem Bm (C:Cl X.prog X.w X.K X.mg X.base k x ps sp) (hr:Fq n X.A) (hg:Gl X x) (ha:PA X (e :: es) t) (hkn:k <= n:=by decide) (hdb:(x == ("__debug__" : Str))=false:=by decide)
  (he:starEach (e :: es) X.env=(false,eval e X.env) :: starEach es X.env:=by rfl) (hpl:(backTo pos (starEach es X.env)).any (·.1)=false:=by rfl) :
  PE X (.Call (.Name x p) (e :: es) [] pos) (ahL sp [] E0 t):=by
 obtain ⟨f,fd,F,hm,hk,hb⟩:=C
 exact ag0 F (hr.mono hkn) hg hm hk hb .nil afK ha hdb he hpl
end
def ClC (P:Program) (w:World) (K:PySem.W.Frag) (mg:Str->Option Value) (base:Heap) (k:Nat) (x:Str) (C:Addr) (ps:List Str) (sp:Sp):Prop :=
 ∃ (f:Addr) (fd:FuncData),Mk K C f/\QH P w K mg base CX0 k f fd ps sp/\mg x=some (.ref C)/\Binds K fd ps []
def DnC (K:PySem.W.Frag) (mg:Str->Option Value) (x qual:Str) (C:Addr) (st:Stmt) (ps:List Str):Prop :=
 ∃ (f:Addr) (fd:FuncData),Mk K C f/\Fun K "__init__" qual st f fd/\mg x=some (.ref C)/\Binds K fd ps []
theorem DnC.ok {P:Program} {w:World} {K:PySem.W.Frag} {mg:Str->Option Value} {base:Heap} {x qual:Str} {C:Addr} {st:Stmt} {N ps:List Str} {k:Nat} {sp:Sp} (D:DnC K mg x qual C st ps) (S:Av N ps (Al st)) (len:∀ vs H Q E,sp vs H Q E->vs.length=ps.length)
  (hbody:∀ (f:Addr) (cdv:Value) (A:Around) (outer:List Env) (s:Shared) (H:Hp) (vs:List V) (Q:VK) (E:XK),Fq k (A.deeper (envOfC qual (Al st) s.heap.objs.size f cdv))->sp vs H Q E ->
   ∃ t,PSs (abz CX0 P w K mg base N qual (Al st) f cdv A outer s H E).nox (Fv st) t/\t { nx:=fun _ H'=>Q .non H',rt:=Q } (start N vs) H):ClC P w K mg base (k + 1) x C ps sp:=by
 obtain ⟨f,fd,M,F,m,b⟩:=D
 exact ⟨f,fd,M,F.ok S len (fun cdv A outer s H vs Q E hr h=>hbody f cdv A outer s H vs Q E hr h),m,b⟩
section
variable {X:Cx} {k n:Nat} {x:Str} {C:Addr} {ps:List Str} {sp:Sp} {e:Expr} {es:List Expr} {t:TA} {p pos:Pos}
theorem Qh (c:ClC X.prog X.w X.K X.mg X.base k x C ps sp) (hr:Fq n X.A) (hg:Gl X x) (ha:PA X (e :: es) t) (hkn:k + 1 <= n:=by decide) (hdb:(x == ("__debug__" : Str))=false:=by decide)
  (he:starEach (e :: es) X.env=(false,eval e X.env) :: starEach es X.env:=by rfl) (hpl:(backTo pos (starEach es X.env)).any (·.1)=false:=by rfl) :
  PE X (.Call (.Name x p) (e :: es) [] pos) (adl C sp [] E0 t):=by
 obtain ⟨f,fd,M,F,hm,hb⟩:=c
 exact agY M F (hr.mono hkn) hg hm hb .nil afK ha hdb he hpl
end
def Out (H:Hp) (Q:VK) (φ:V->Hp->Prop):Prop:=∀ v H',Ai H H'->φ v H'->Q v H'
theorem Ai.new {H:Hp} {p:Addr} {o:HO} (h:H p=none):Ai H (upd H p o):=fun b u e=>by rw [Ah (Bq e h)]; exact e
theorem Ai.Gf {H H':Hp} {p:Addr} {o:HO} (h:H p=none) (s:Ai H H'):Ai H (upd H' p o):=fun b u e=>by rw [Ah (Bq e h)]; exact s b u e
theorem Ai.rd {H H':Hp} {a:Addr} {u:HO} (s:Ai H H') (h:Rd H a u):Rd H' a u:=by
 rcases h with h | ⟨o,h⟩
 ·exact .inl (s _ _ h)
 ·exact .inr ⟨o,s _ _ h⟩
theorem Ai.sqT {K:PySem.W.Frag} {H H':Hp} {a:Addr} {xs:List V} (e:Ai H H') (h:SqT K H a xs):SqT K H' a xs:=by
 unfold SqT at h ⊢
 rcases h with h | h
 ·exact .inl (e.rd h)
 ·exact .inr h
theorem PI.or {X:Cx} {tg e:Expr} {a b:TI} (h1:PI X tg e a) (h2:PI X tg e b):PI X tg e (fun σ H R=>a σ H R \/ b σ H R):=fun pins s σ H R I h=>by
 rcases h with h | h
 ·exact h1 pins s σ H R I h
 ·exact h2 pins s σ H R I h
theorem Ci {n:Nat} (h:n <= 2000000):n < sizeLine:=by rw [sizeLine_eq]; omega
theorem af5 {J:It} {n:Nat} {g:TG} {tt:TT} {te:TE} {vs:List Nat} {σ:St} {H1:Hp} {D:Addr} {Qd:Hp->Prop} (Pv:Nat->Hp->Prop) (h0:Pv 0 (upd H1 D (.lst [])))
  (hgo:∀ i H,i < n->Pv i H->J.go i H) (hst:∀ H,Pv n H->J.stop n H)
  (hs:∀ i x H H',i < n->Pv i H->J.yld i H x H'->g x (wipe σ vs) H' fun σ2 H2=>wipe σ2 vs=wipe σ vs/\tt σ2 H2 fun b H3 =>
   if b=true then te σ2 H3 fun y H4=>∃ acc,H4 D=some (.lst acc)/\acc.length < sizeLine/\Pv (i + 1) (upd H4 D (.lst (acc ++ [y]))) else Pv (i + 1) H3) (hd:∀ H,Pv n H->Qd H) :
  ∃ W:Nat->Nat->Hp->Prop,(∃ m,W 0 m (upd H1 D (.lst [])))/\∀ i m H,W i m H ->
   (J.stop i H/\Qd H) \/ (J.go i H/\∃ Nx:Hp->Prop,(∀ H',Nx H'->∃ m',m' < m/\W (i + 1) m' H')/\∀ x H',J.yld i H x H'->g x (wipe σ vs) H' fun σ2 H2=>wipe σ2 vs=wipe σ vs/\tt σ2 H2 fun b H3 =>
    if b=true then te σ2 H3 fun y H4=>∃ acc,H4 D=some (.lst acc)/\acc.length < sizeLine/\Nx (upd H4 D (.lst (acc ++ [y]))) else Nx H3):=by
 refine ⟨fun i m H=>m=n - i/\i <= n/\Pv i H,⟨n,by simp,Nat.zero_le _,h0⟩,?_⟩
 rintro i m H ⟨rfl,hi,p⟩
 by_cases hlt:i < n
 ·exact .inr ⟨hgo i H hlt p,Pv (i + 1),fun H' p'=>⟨n - (i + 1),by omega,rfl,hlt,p'⟩,fun x H' y=>hs i x H H' hlt p y⟩
 ·have e:i=n:=by omega
  subst e
  exact .inl ⟨hst H p,hd H p⟩
theorem Ru {H H':Hp} {da:Addr} {od:Obj} {u:HO} (hda:H da=some u) (sm:Ai (upd H da (.frz od u)) H'):Ai H (upd H' da u):=fun b o e=>by
 by_cases z:b=da
 ·rw [z,Ab]; rw [z,hda] at e; exact e
 ·rw [Ah z]
  exact sm _ _ (by rw [Ah z]; exact e)
theorem U3 {H:Hp} {a da:Addr} {od:Obj} {o u:HO} (ha:H a=some o) (hda:H da=some u) (d:o ≠ u):upd H da (.frz od u) a=some o:=by
 rw [Ah (G7 ha hda d)]; exact ha
theorem WQ:bootBuiltins "list" = some (.type "list"):=by decide +kernel
theorem Mi:bootBuiltins "tuple" = some (.type "tuple"):=by decide +kernel
theorem YZ:bootBuiltins "ord" = some (.builtin "ord"):=by decide +kernel
theorem Y0:bootBuiltins "all" = some (.builtin "all"):=by decide +kernel
theorem ae5:bootBuiltins "any" = some (.builtin "any"):=by decide +kernel
theorem aan:bootBuiltins "sorted" = some (.builtin "sorted"):=by decide +kernel
theorem Ol {σ:St} {H:Hp} {A B:Hp->Prop} (h:A H):ajk σ H (fun b H3=>if b=true then A H3 else B H3):=by
 show if true=true then A H else B H
 rw [if_pos rfl]
 exact h
end L2
namespace Py
open PySem PySem.Spec PyProof.Rows L2
def top (i:Nat):Stmt:=PySem.Challenge.pw_laystones_s09_right.main.body.getD i (.Pass ⟨0,0,0,0⟩)
abbrev afw:Stmt:=inClass (top 6) 0
abbrev La:Stmt:=inClass (top 53) 0
abbrev adt:Stmt:=inClass (top 54) 0
abbrev afx:Stmt:=inClass (top 71) 0
abbrev Yk:Stmt:=inClass (top 111) 0
abbrev Ka:Stmt:=top 7
abbrev Vz:Stmt:=top 8
abbrev Vy:Stmt:=top 9
abbrev adq:Stmt:=top 10
abbrev NK:Stmt:=top 11
abbrev NB:Stmt:=top 12
abbrev J5:Stmt:=top 13
abbrev Jh:Stmt:=top 14
abbrev Jf:Stmt:=top 15
abbrev Fg:Stmt:=top 16
abbrev Jk:Stmt:=top 17
abbrev J9:Stmt:=top 18
abbrev Nz:Stmt:=top 19
abbrev aaP:Stmt:=top 20
abbrev Od:Stmt:=top 28
abbrev Jj:Stmt:=top 29
abbrev Yh:Stmt:=top 30
abbrev Vw:Stmt:=top 31
abbrev SJ:Stmt:=top 32
abbrev Vx:Stmt:=top 33
abbrev Rg:Stmt:=top 34
abbrev Sx:Stmt:=top 35
abbrev Sv:Stmt:=top 43
abbrev PL:Stmt:=top 44
abbrev Ss:Stmt:=top 45
abbrev Ji:Stmt:=top 46
abbrev PQ:Stmt:=top 47
abbrev Et:Stmt:=top 48
abbrev Hj:Stmt:=top 55
abbrev Sy:Stmt:=top 56
abbrev Jg:Stmt:=top 57
abbrev PJ:Stmt:=top 58
abbrev PK:Stmt:=top 59
abbrev K9:Stmt:=top 60
abbrev Sq:Stmt:=top 61
abbrev Hi:Stmt:=top 62
abbrev Kd:Stmt:=top 72
abbrev Su:Stmt:=top 73
abbrev Hk:Stmt:=top 74
abbrev Yj:Stmt:=top 76
abbrev J7:Stmt:=top 77
abbrev P0:Stmt:=top 78
abbrev Il:Stmt:=top 79
abbrev J8:Stmt:=top 80
abbrev G6:Stmt:=top 81
abbrev Ff:Stmt:=top 82
abbrev J6:Stmt:=top 84
abbrev J4:Stmt:=top 90
abbrev Hu:Stmt:=top 91
abbrev PX:Stmt:=top 93
abbrev Ke:Stmt:=top 94
abbrev Hs:Stmt:=top 95
abbrev Ht:Stmt:=top 96
abbrev Yi:Stmt:=top 112
abbrev PN:Stmt:=top 113
abbrev Hg:Stmt:=top 114
abbrev SM:Stmt:=top 115
abbrev Hh:Stmt:=top 116
abbrev Kc:Stmt:=top 117
abbrev JK:Stmt:=top 118
structure Txt (K:PySem.W.Frag) (mg:Str->Option Value) (Ao Ac Ak Ax Ag:Addr):Prop where
 ai6:DnC K mg "Part" "Part.__init__" Ao afw ["self", "name", "width", "depth", "height", "cells"]
 Bo:Cls K Ao
 Gd:CT K Ao "name"
 Eh:CT K Ao "width"
 DK:CT K Ao "depth"
 DW:CT K Ao "height"
 Cj:CT K Ao "cells"
 Wy:DnC K mg "Instructions" "Instructions.__init__" Ac La ["self", "pages", "fault"]
 Ek:Cls K Ac
 Ha:CT K Ac "pages"
 Ey:CT K Ac "fault"
 ahx:DnC K mg "Begun" "Begun.__init__" Ak adt ["self"]
 Bp:Cls K Ak
 Fp:CT K Ak "pages"
 Ei:CT K Ak "head"
 En:CT K Ak "lines"
 Bu:CT K Ak "number"
 ai7:DnC K mg "Line" "Line.__init__" Ax afx ["self", "part", "x", "y", "z", "turns"]
 Fd:Cls K Ax
 T3:CT K Ax "part"
 WX:CT K Ax "x"
 WW:CT K Ax "y"
 WT:CT K Ax "z"
 Qz:CT K Ax "turns"
 aeY:DnC K mg "Reading" "Reading.__init__" Ag Yk ["self", "refusal", "owners", "under"]
 Cu:Cls K Ag
 Cd:CT K Ag "refusal"
 Jw:CT K Ag "owners"
 Fw:CT K Ag "under"
 Uj:Dn K mg "is_place_sign" Ka ["sign"]
 ac2:Dn K mg "has_stud" Vz ["sign"]
 ac1:Dn K mg "has_tube" Vy ["sign"]
 ahw:Dn K mg "moved" adq ["place", "x", "y", "z"]
 Xv:Dn K mg "place_above" NK ["place"]
 Xu:Dn K mg "place_below" NB ["place"]
 Ud:Dn K mg "places_beside" J5 ["place"]
 RC:Dn K mg "studs_are_free" Jh ["part"]
 Rz:Dn K mg "tubes_are_free" Jf ["part"]
 Nf:Dn K mg "reaches_its_sides" Fg ["part"]
 RJ:Dn K mg "hangs_together" Jk ["part"]
 Ui:Dn K mg "is_right_part" J9 ["part"]
 Xr:Dn K mg "turned_once" Nz ["part"]
 agq:Dn K mg "turned" aaP ["part", "turns"]
 ac3:Dn K mg "bytes_of" Od ["letters"]
 RG:Dn K mg "pieces_between" Jj ["signs", "divider"]
 aeT:Dn K mg "rows_of" Yh ["text"]
 acZ:Dn K mg "words_of" Vw ["row"]
 abx:Dn K mg "is_letter" SJ ["sign"]
 ac0:Dn K mg "is_digit" Vx ["sign"]
 aeW:Dn K mg "is_name" Rg ["signs", "longest"]
 abv:Dn K mg "number_of" Sx ["signs", "least", "most"]
 abu:Dn K mg "read_head" Sv ["row"]
 Z6:Dn K mg "read_cells" PL ["rows", "width", "depth"]
 abr:Dn K mg "read_part" Ss ["rows", "first"]
 RD:Dn K mg "read_catalogue" Ji ["text"]
 Z8:Dn K mg "names_rise" PQ ["parts"]
 LC:Dn K mg "is_right_catalogue" Et ["parts"]
 Ng:Dn K mg "greatest_begun_by" Hj ["number"]
 abw:Dn K mg "last_line" Sy ["begun"]
 RB:Dn K mg "take_head_sign" Jg ["begun", "sign"]
 Z3:Dn K mg "take_digit" PJ ["begun", "sign"]
 Z4:Dn K mg "take_blank" PK ["begun"]
 Wx:Dn K mg "take_row_end" K9 ["begun"]
 abq:Dn K mg "take_sign" Sq ["begun", "sign"]
 Nb:Dn K mg "read_instructions" Hi ["text"]
 Ul:Dn K mg "is_build_head" Kd ["row"]
 abt:Dn K mg "read_line" Su ["row", "parts_by_name"]
 Z5:Dn K mg "read_lines" Hk ["text", "parts"]
 aeV:Dn K mg "mask_of" Yj ["line"]
 Ug:Dn K mg "mask_of_lines" J7 ["lines"]
 aaa:Dn K mg "is_in_mask" P0 ["line", "mask"]
 Xw:Dn K mg "lines_under" Il ["owners", "count"]
 Uh:Dn K mg "lines_reached" J8 ["under"]
 Lz:Dn K mg "least_line_in_ring" G6 ["under"]
 HN:Dn K mg "least_line_without_hold" Ff ["owners", "count"]
 Ue:Dn K mg "may_come_next" J6 ["line", "before", "under"]
 Uc:Dn K mg "wrong_on_page" J4 ["most", "lines", "before", "under"]
 Oq:Dn K mg "first_wrong_page" Hu ["most", "pages", "under"]
 Z9:Dn K mg "is_in_room" PX ["line", "part"]
 Um:Dn K mg "cells_in_room" Ke ["line", "part"]
 Om:Dn K mg "studs_meet_tubes" Hs ["cells"]
 Oo:Dn K mg "owners_of_places" Ht ["lines"]
 aeU:Dn K mg "refused" Yi ["refusal"]
 Z7:Dn K mg "read_build" PN ["c", "b"]
 M8:Dn K mg "with_instructions" Hg ["instructions", "build"]
 aby:Dn K mg "hindrance" SM ["build"]
 M9:Dn K mg "that_can_be_built" Hh ["build"]
 Uk:Dn K mg "is_page_bound" Kc ["K"]
 akr:Dn K mg "right" JK ["K", "c", "b", "t"]
 XR:∃ t,mg "NO_CELL" = some (.int (46) t)
 Ze:∃ t,mg "PLAIN_CELL" = some (.int (35) t)
 R5:∃ t,mg "STUD_CELL" = some (.int (115) t)
 R4:∃ t,mg "TUBE_CELL" = some (.int (116) t)
 KN:∃ t,mg "BOTH_CELL" = some (.int (98) t)
 XQ:∃ t,mg "ROW_END" = some (.int (10) t)
 adi:∃ t,mg "BLANK" = some (.int (32) t)
 O4:∃ t,mg "NOUGHT" = some (.int (48) t)
 ah0:∃ t,mg "NINE" = some (.int (57) t)
 ad4:∃ t,mg "LOWER_A" = some (.int (97) t)
 ad3:∃ t,mg "LOWER_Z" = some (.int (122) t)
 Zh:∃ t,mg "MOST_PARTS" = some (.int (64) t)
 HJ:∃ t,mg "LONGEST_NAME_catalogues" = some (.int (8) t)
 Zf:∃ t,mg "MOST_WIDTH" = some (.int (16) t)
 Zk:∃ t,mg "MOST_DEPTH" = some (.int (16) t)
 Xc:∃ t,mg "MOST_HEIGHT" = some (.int (18) t)
 Xb:∃ t,mg "MOST_WEIGHT" = some (.int (9999) t)
 Zi:∃ t,mg "MOST_PAGES" = some (.int (256) t)
 Ft:∃ t,mg "GREATEST_LINE" = some (.int (255) t)
 R6:∃ t,mg "PAGE_HEAD" = some (.str "page " t)
 Zj:∃ t,mg "MOST_LINES" = some (.int (256) t)
 KJ:∃ t,mg "LONGEST_NAME_lines" = some (.int (16) t)
 Xd:∃ t,mg "MOST_COLOUR" = some (.int (255) t)
 Zg:∃ t,mg "MOST_TURNS" = some (.int (3) t)
 O2:∃ t,mg "ROOM_WIDTH" = some (.int (64) t)
 O3:∃ t,mg "ROOM_DEPTH" = some (.int (64) t)
 Nq:∃ t,mg "ROOM_HEIGHT" = some (.int (96) t)
 QM:∃ t,mg "TOO_MANY_LINES" = some (.int (1) t)
 KH:∃ t,mg "NOT_THERE_OR_AGAIN" = some (.int (2) t)
 aaw:∃ t,mg "TOO_EARLY" = some (.int (3) t)
 Zm:∃ t,mg "IN_NO_PAGE" = some (.int (4) t)
 Ob:∃ t,mg "MOST_BUILD_BYTES" = some (.int (16384) t)
 HH:∃ t,mg "MOST_INSTRUCTIONS_BYTES" = some (.int (65536) t)
 O5:∃ t,mg "MOST_PAGE_LINES" = some (.int (256) t)
 T5:∃ t,mg "OUT_OF_BOUNDS" = some (.int (-1) t)
 Vf:∃ t,mg "TOO_LONG" = some (.int (-2) t)
 O6:∃ t,mg "CANNOT_BE_BUILT" = some (.int (-3) t)
 T6:∃ t,mg "NO_BUILD_TEXT" = some (.int (-5) t)
 M4:∃ t,mg "NO_CATALOGUE_TEXT" = some (.int (-6) t)
 Ku:∃ t,mg "CATALOGUE_NOT_RIGHT" = some (.int (-8) t)
 O7:∃ t,mg "BUILD_NOT_RIGHT" = some (.int (-9) t)
 JD:∃ t,mg "NO_INSTRUCTIONS_TEXT" = some (.int (-10) t)
 ad5:∃ t,mg "IN_RING" = some (.int (1) t)
 Ve:∃ t,mg "WITHOUT_HOLD" = some (.int (2) t)
 CJ:mg "len" = none
 Qw:mg "range" = none
 Ef:mg "enumerate" = none
 aap:mg "tuple" = none
 agA:mg "list" = none
 ahV:mg "ord" = none
 ahW:mg "all" = none
 aki:mg "any" = none
 agz:mg "sorted" = none
 akh:mg "min" = none
open Mx (P3 mv Dr Dq)
theorem Cp {X:Cx} {x:Str} {i:Int} {pos:Pos} (h:∃ t,X.mg x=some (.int i t)) (hg:Gl X x) (hd:(x == ("__debug__" : Str))=false:=by decide):PE X (.Name x pos) (tC (.int i)) :=
 let ⟨t,e⟩:=h; ady hg e ⟨t,rfl⟩ hd
def VL (n w d h c:V):List (Str × V):=[("name",n),("width",w),("depth",d),("height",h),("cells",c)]
def Aw (es:List (P3 × Int)):List (List Key × V):=es.map fun x=>(t3 x.1,.int x.2)
theorem Cv (es:List (P3 × Int)):(Aw es).length=es.length:=List.length_map _
theorem G9 {es:List (P3 × Int)} {i:Nat} {k:List Key} {v:V} (h:(Aw es)[i]? = some (k,v)):∃ q s,es[i]? = some (q,s)/\k=t3 q/\v = .int s:=by
 unfold Aw at h
 rw [List.getElem?_map] at h
 cases e:es[i]? with
 | none=>rw [e] at h; cases h
 | some x =>
  rw [e] at h
  cases h
  exact ⟨x.1,x.2,rfl,rfl,rfl⟩
theorem GJ (q:P3):∀ es:List (P3 × Int),(Ez (Aw es) (t3 q)).isSome=decide (q ∈ es.map (·.1))
 | []=>rfl
 | x :: r=>by
  have ih:=GJ q r
  unfold Aw at ih ⊢
  rw [List.map_cons]
  by_cases e:x.1=q
  ·rw [Di (by rw [e])]
   simp [e]
  ·rw [Dj (fun z=>e (aca z)),ih]
   have:¬ q=x.1:=fun z=>e z.symm
   simp [this]
def GR (C:Addr) (H:Hp) (a:Addr) (n:List V) (w d h:Int) (es:List (P3 × Int)):Prop :=
 ∃ dx na da,H a=some (.ins C dx (VL (.ref na) (.int w) (.int d) (.int h) (.ref da)))/\H na=some (.tup n)/\H da=some (.dT (Aw es))/\es.length <= 4608
theorem GR.same {C:Addr} {H H':Hp} {a:Addr} {n:List V} {w d h:Int} {es:List (P3 × Int)} (s:Ai H H') (p:GR C H a n w d h es):GR C H' a n w d h es :=
 let ⟨dx,na,da,h1,h2,h3,h4⟩:=p; ⟨dx,na,da,s _ _ h1,s _ _ h2,s _ _ h3,h4⟩
section
variable {P:Program} {w:World} {K:PySem.W.Frag} {mg:Str->Option Value} {base:Heap} {Ao Ac Ak Ax Ag:Addr}
def ado (C:Addr):Sp:=fun vs H Q _=>∃ (p dx:Addr) (n w d h c:V),vs=[.ref p,n,w,d,h,c]/\H p=some (.ins C dx []) /\
 ∀ H':Hp,H' p=some (.ins C dx (VL n w d h c))->(∀ b o,H b=some o->b ≠ p->H' b=some o)->Q .non H'
theorem agS:Av ["self", "name", "width", "depth", "height", "cells"] ["self", "name", "width", "depth", "height", "cells"] (Al afw):=⟨rfl,rfl,rfl,by decide +kernel,rfl,by decide +kernel,by decide +kernel⟩
theorem ac8 (T:Txt K mg Ao Ac Ak Ax Ag):ClC P w K mg base 1 "Part" Ao ["self", "name", "width", "depth", "height", "cells"] (ado Ao):=by
 refine T.ai6.ok agS (fun vs H Q E h=>?_) (fun f cdv A outer s H vs Q E hr h=>?_)
 ·obtain ⟨p,dx,n,w,d,h,c,rfl,_⟩:=h
  rfl
 ·obtain ⟨p,dx,n,w,d,h,c,rfl,hp,k⟩:=h
  refine ⟨_,Ad (Dd (pv 0) (pv 1) rfl) (Ad (Dd (pv 0) (pv 2) rfl) (Ad (Dd (pv 0) (pv 3) rfl) (Ad (Dd (pv 0) (pv 4) rfl) (Af (Dd (pv 0) (pv 5) rfl))))),?_⟩
  refine ⟨_,rfl,_,rfl,p,Ao,dx,_,rfl,hp,T.Bo,T.Gd,(by show 0 < 1000; decide),?_⟩
  refine ⟨_,rfl,_,rfl,p,Ao,dx,_,rfl,Ab,T.Bo,T.Eh,(by show 1 < 1000; decide),?_⟩
  refine ⟨_,rfl,_,rfl,p,Ao,dx,_,rfl,Ab,T.Bo,T.DK,(by show 2 < 1000; decide),?_⟩
  refine ⟨_,rfl,_,rfl,p,Ao,dx,_,rfl,Ab,T.Bo,T.DW,(by show 3 < 1000; decide),?_⟩
  refine ⟨_,rfl,_,rfl,p,Ao,dx,_,rfl,Ab,T.Bo,T.Cj,(by show 4 < 1000; decide),?_⟩
  refine k _ (Eq.trans Ab rfl) fun b o e hb=>?_
  rw [Ah hb,Ah hb,Ah hb,Ah hb,Ah hb]
  exact e
theorem ZQ {H1:Hp} {Q:VK} {n w d h c:V} (k:∀ x H',Ai H1 H'->(∃ dx,H' x=some (.ins Ao dx (VL n w d h c)))->Q (.ref x) H') :
  ∀ x dx,H1 x=none->H1 dx=none->dx ≠ x->ado Ao (.ref x :: ([n,w,d,h,c] ++ [])) (upd (upd H1 dx (.own x)) x (.ins Ao dx [])) (fun v H2=>v = .non/\Q (.ref x) H2) E0:=fun x dx nx nd ne =>
 ⟨x,dx,n,w,d,h,c,rfl,Ab,fun H' hx kp=>⟨rfl,k x H' (Ai.made nx nd kp) ⟨dx,hx⟩⟩⟩
def Vp (f:Int->Bool):Sp:=fun vs H Q _=>∃ c,vs=[.int c]/\Out H Q (fun v _=>v = .bl (f c))
def acs (c:Int):Bool:=inV (.int c) [.int 46,.int 35,.int 115,.int 116,.int 98]
theorem Rc:Av ["sign"] ["sign"] (Al Ka):=⟨rfl,rfl,rfl,by decide +kernel,rfl,by decide +kernel,by decide +kernel⟩
theorem Uu (T:Txt K mg Ao Ac Ak Ax Ag):Cl P w K mg base 1 "is_place_sign" ["sign"] (Vp acs):=by
 refine T.Uj.ok Rc (fun vs H Q E h=>?_) (fun f cdv A outer s H vs Q E hr h=>?_)
 ·obtain ⟨c,rfl,_⟩:=h
  rfl
 ·obtain ⟨c,rfl,k⟩:=h
  refine ⟨_,Af (Am (Gk Mv (pv 0) (Rn (Aa (Cp T.XR rfl) (Aa (Cp T.Ze rfl) (Aa (Cp T.R5 rfl) (Aa (Cp T.R4 rfl) (Aa (Cp T.KN rfl) Ae)))))) (by rfl))),?_⟩
  refine ⟨_,rfl,(by show 5 <= sizeLine; decide),fun p hp=>⟨p,_,rfl,.inr (SqT.of Ab),rfl,rfl,?_⟩⟩
  exact k _ _ (Ai.new hp) rfl
theorem aaO:Av ["sign"] ["sign"] (Al Vz):=⟨rfl,rfl,rfl,by decide +kernel,rfl,by decide +kernel,by decide +kernel⟩
theorem af8 (a b c:Int):inV (.int c) [.int a,.int b] = (c == a || c == b):=by
 unfold inV
 simp only [List.any_cons,List.any_nil,Bool.or_false,eqV]
 rw [Bool.beq_comm (a:=a),Bool.beq_comm (a:=b)]
theorem WM (T:Txt K mg Ao Ac Ak Ax Ag):Cl P w K mg base 1 "has_stud" ["sign"] (Vp Dr):=by
 refine T.ac2.ok aaO (fun vs H Q E h=>?_) (fun f cdv A outer s H vs Q E hr h=>?_)
 ·obtain ⟨c,rfl,_⟩:=h
  rfl
 ·obtain ⟨c,rfl,k⟩:=h
  refine ⟨_,Af (Am (Gk Mv (pv 0) (Rn (Aa (Cp T.R5 rfl) (Aa (Cp T.KN rfl) Ae))) (by rfl))),?_⟩
  refine ⟨_,rfl,(by show 2 <= sizeLine; decide),fun p hp=>⟨p,_,rfl,.inr (SqT.of Ab),rfl,rfl,?_⟩⟩
  exact k _ _ (Ai.new hp) (congrArg V.bl (af8 115 98 c))
theorem aaN:Av ["sign"] ["sign"] (Al Vy):=⟨rfl,rfl,rfl,by decide +kernel,rfl,by decide +kernel,by decide +kernel⟩
theorem WL (T:Txt K mg Ao Ac Ak Ax Ag):Cl P w K mg base 1 "has_tube" ["sign"] (Vp Dq):=by
 refine T.ac1.ok aaN (fun vs H Q E h=>?_) (fun f cdv A outer s H vs Q E hr h=>?_)
 ·obtain ⟨c,rfl,_⟩:=h
  rfl
 ·obtain ⟨c,rfl,k⟩:=h
  refine ⟨_,Af (Am (Gk Mv (pv 0) (Rn (Aa (Cp T.R4 rfl) (Aa (Cp T.KN rfl) Ae))) (by rfl))),?_⟩
  refine ⟨_,rfl,(by show 2 <= sizeLine; decide),fun p hp=>⟨p,_,rfl,.inr (SqT.of Ab),rfl,rfl,?_⟩⟩
  exact k _ _ (Ai.new hp) (congrArg V.bl (af8 116 98 c))
def TupAt (H:Hp) (v:V) (q:P3):Prop:=∃ p,v = .ref p/\H p=some (.tup (v3 q))
def afn:Sp:=fun vs H Q _=>∃ (a:Addr) (q:P3) (x y z:Int),vs=[.ref a,.int x,.int y,.int z]/\H a=some (.tup (v3 q))/\Out H Q (fun v H'=>TupAt H' v (mv q x y z))
theorem afu:Av ["place", "x", "y", "z"] ["place", "x", "y", "z"] (Al adq):=⟨rfl,rfl,rfl,by decide +kernel,rfl,by decide +kernel,by decide +kernel⟩
theorem U7 (T:Txt K mg Ao Ac Ak Ax Ag):Cl P w K mg base 1 "moved" ["place", "x", "y", "z"] afn:=by
 refine T.ahw.ok afu (fun vs H Q E h=>?_) (fun f cdv A outer s H vs Q E hr h=>?_)
 ·obtain ⟨a,q,x,y,z,rfl,_⟩:=h
  rfl
 ·obtain ⟨a,q,x,y,z,rfl,ha,k⟩:=h
  refine ⟨_,Af (Am (Rn (Aa (BW Fj (Ck Im (pv 0) Aq (fun _ _=>rfl)) (pv 1)) (Aa (BW Fj (Ck Im (pv 0) Aq (fun _ _=>rfl)) (pv 2)) (Aa (BW Fj (Ck Im (pv 0) Aq (fun _ _=>rfl)) (pv 3)) Ae))))),?_⟩
  refine ⟨_,rfl,a,_,_,_,rfl,rfl,SqT.of ha,at_of (j:=0) rfl rfl,_,rfl,_,_,rfl,rfl,?_⟩
  refine ⟨_,rfl,a,_,_,_,rfl,rfl,SqT.of ha,at_of (j:=1) rfl rfl,_,rfl,_,_,rfl,rfl,?_⟩
  refine ⟨_,rfl,a,_,_,_,rfl,rfl,SqT.of ha,at_of (j:=2) rfl rfl,_,rfl,_,_,rfl,rfl,?_⟩
  refine ⟨(by show 3 <= sizeLine; decide),fun p hp=>?_⟩
  exact k _ _ (Ai.new hp) ⟨p,rfl,Ab⟩
def ajw (x y z:Int):Sp:=fun vs H Q _=>∃ (a:Addr) (q:P3),vs=[.ref a]/\H a=some (.tup (v3 q))/\Out H Q (fun v H'=>TupAt H' v (mv q x y z))
theorem Vu:Av ["place"] ["place"] (Al NK):=⟨rfl,rfl,rfl,by decide +kernel,rfl,by decide +kernel,by decide +kernel⟩
theorem Ir (T:Txt K mg Ao Ac Ak Ax Ag):Cl P w K mg base 2 "place_above" ["place"] (ajw 0 0 1):=by
 refine T.Xv.ok Vu (fun vs H Q E h=>?_) (fun f cdv A outer s H vs Q E hr h=>?_)
 ·obtain ⟨a,q,rfl,_⟩:=h
  rfl
 ·obtain ⟨a,q,rfl,ha,k⟩:=h
  refine ⟨_,Af (Am (Bm (U7 T) hr rfl (Aa (pv 0) (Aa Aq (Aa Aq (Aa Aq Ae)))))),?_⟩
  exact ⟨_,rfl,a,q,0,0,1,rfl,ha,k⟩
theorem Vt:Av ["place"] ["place"] (Al NB):=⟨rfl,rfl,rfl,by decide +kernel,rfl,by decide +kernel,by decide +kernel⟩
theorem Ip (T:Txt K mg Ao Ac Ak Ax Ag):Cl P w K mg base 2 "place_below" ["place"] (ajw 0 0 (-1)):=by
 refine T.Xu.ok Vt (fun vs H Q E h=>?_) (fun f cdv A outer s H vs Q E hr h=>?_)
 ·obtain ⟨a,q,rfl,_⟩:=h
  rfl
 ·obtain ⟨a,q,rfl,ha,k⟩:=h
  refine ⟨_,Af (Am (Bm (U7 T) hr rfl (Aa (pv 0) (Aa Aq (Aa Aq (Aa (Qe Oc Aq) Ae)))))),?_⟩
  exact ⟨_,rfl,_,rfl,a,q,0,0,-1,rfl,ha,k⟩
end
open Mx (P3 mv Dr Dq Du DX ax Eo)
def agE (H:Hp) (v:V) (ks:List P3):Prop:=∃ p qs,v = .ref p/\H p=some (.lst (qs.map V.ref))/\Paired (fun q k=>H q=some (.tup (v3 k))) qs ks
theorem Ie {H H':Hp} (s:Ai H H'):∀ {qs:List Addr} {ks:List P3},Paired (fun q k=>H q=some (.tup (v3 k))) qs ks->Paired (fun q k=>H' q=some (.tup (v3 k))) qs ks
 | _,_,.nil=>.nil
 | _,_,.cons h t=>.cons (s _ _ h) (Ie s t)
theorem DQ {α β:Type} {G:α->β->Prop}:∀ {a b:List α} {c d:List β},Paired G a c->Paired G b d->Paired G (a ++ b) (c ++ d)
 | _,_,_,_,.nil,r=>r
 | _,_,_,_,.cons h t,r=>.cons h (DQ t r)
theorem NZ {α:Type} {p:α->Bool} {l:List α} {i:Nat} {x:α} (h:l[i]? = some x):(l.take (i + 1)).any p=((l.take i).any p || p x):=by
 rw [List.take_succ,h]
 simp
theorem Zc {α:Type} {p:α->Bool} {l:List α} {i:Nat} {x:α} (h:l[i]? = some x) (hp:p x=true):l.any p=true:=List.any_eq_true.mpr ⟨x,List.mem_of_getElem? h,hp⟩
section
variable {P:Program} {w:World} {K:PySem.W.Frag} {mg:Str->Option Value} {base:Heap} {Ao Ac Ak Ax Ag:Addr}
def QV:Sp:=fun vs H Q _=>∃ (a:Addr) (q:P3),vs=[.ref a]/\H a=some (.tup (v3 q))/\Out H Q (fun v H'=>agE H' v [mv q (-1) 0 0,mv q 1 0 0,mv q 0 (-1) 0,mv q 0 1 0])
theorem Q9:Av ["place"] ["place"] (Al J5):=⟨rfl,rfl,rfl,by decide +kernel,rfl,by decide +kernel,by decide +kernel⟩
theorem Up (T:Txt K mg Ao Ac Ak Ax Ag):Cl P w K mg base 2 "places_beside" ["place"] QV:=by
 refine T.Ud.ok Q9 (fun vs H Q E h=>?_) (fun f cdv A outer s H vs Q E hr h=>?_)
 ·obtain ⟨a,q,rfl,_⟩:=h
  rfl
 ·obtain ⟨a,q,rfl,ha,k⟩:=h
  have M:=U7 (P:=P) (w:=w) (base:=base) T
  refine ⟨_,Af (Am (Cq (Aa (Bm M hr rfl (Aa (pv 0) (Aa (Qe Oc Aq) (Aa Aq (Aa Aq Ae)))))
   (Aa (Bm M hr rfl (Aa (pv 0) (Aa Aq (Aa Aq (Aa Aq Ae)))))
   (Aa (Bm M hr rfl (Aa (pv 0) (Aa Aq (Aa (Qe Oc Aq) (Aa Aq Ae)))))
   (Aa (Bm M hr rfl (Aa (pv 0) (Aa Aq (Aa Aq (Aa Aq Ae))))) Ae)))))),?_⟩
  refine ⟨_,rfl,_,rfl,a,q,-1,0,0,rfl,ha,fun v1 H1 s1 ⟨p1,e1,h1⟩=>?_⟩
  refine ⟨_,rfl,a,q,1,0,0,rfl,s1 _ _ ha,fun v2 H2 s2 ⟨p2,e2,h2⟩=>?_⟩
  refine ⟨_,rfl,_,rfl,a,q,0,-1,0,rfl,s2 _ _ (s1 _ _ ha),fun v3' H3 s3 ⟨p3,e3,h3⟩=>?_⟩
  refine ⟨_,rfl,a,q,0,1,0,rfl,s3 _ _ (s2 _ _ (s1 _ _ ha)),fun v4 H4 s4 ⟨p4,e4,h4⟩=>?_⟩
  subst e1 e2 e3 e4
  refine ⟨(by show 4 <= sizeLine; decide),fun p hp=>?_⟩
  have sn:Ai H4 (upd H4 p (.lst [.ref p1,.ref p2,.ref p3,.ref p4])):=Ai.new hp
  refine k _ _ ((((s1.trans s2).trans s3).trans s4).trans sn) ⟨p,[p1,p2,p3,p4],rfl,Ab,?_⟩
  exact .cons (sn _ _ (s4 _ _ (s3 _ _ (s2 _ _ h1)))) (.cons (sn _ _ (s4 _ _ (s3 _ _ h2))) (.cons (sn _ _ (s4 _ _ h3)) (.cons (sn _ _ h4) .nil)))
def acj (C:Addr) (f:Int->Int->Int->List (P3 × Int)->Bool):Sp:=fun vs H Q _=>∃ (a:Addr) (n:List V) (w d h:Int) (es:List (P3 × Int)),vs=[.ref a]/\GR C H a n w d h es/\Out H Q (fun v _=>v = .bl (f w d h es))
theorem HW:Av ["part", "place", "sign"] ["part"] (Al Jh):=⟨rfl,rfl,rfl,by decide +kernel,rfl,by decide +kernel,by decide +kernel⟩
theorem RQ (T:Txt K mg Ao Ac Ak Ax Ag):Cl P w K mg base 3 "studs_are_free" ["part"] (acj Ao fun _ _ _ es=>!es.any (Du (es.map (·.1)))):=by
 refine T.RC.ok HW (fun vs H Q E h=>?_) (fun f cdv A outer s H vs Q E hr h=>?_)
 ·obtain ⟨a,n,w,d,h,es,rfl,_⟩:=h
  rfl
 ·obtain ⟨a,n,w,d,h,es,rfl,⟨dx,na,da,ha,hna,hda,hle⟩,k⟩:=h
  have nd:=HW.nd
  have hu:=Jq hr
  refine ⟨_,Ad (JN (CG PassesOwn.never rfl (Ho (Az (pv 0) rfl)) (Fx rfl (Bw (Be (i:=1) nd rfl (Or.inl rfl)) (Bw (Be (i:=2) nd rfl (Or.inl rfl)) Eg)))
   (Af (Bj (PW.pt (VF (DP (Bm (WM T) hr rfl (Aa (pv 2) Ae))) (Qa (Cg (ZL hu (Bm (Ir T) hr rfl (Aa (pv 1) Ae)) (Az (pv 0) rfl)))))) (Af (Am Dy)) Ar))))
   (Af (Am Dy)),?_⟩
  refine ⟨da,.dT (Aw es),hda,True.intro,fun od=>?_⟩
  have nad:a ≠ da:=G7 ha hda (by intro z; cases z)
  have ha':upd H da (.frz od (.dT (Aw es))) a=some (.ins Ao dx (VL (.ref na) (.int w) (.int d) (.int h) (.ref da))):=by rw [Ah nad]; exact ha
  have back:∀ H':Hp,Ai (upd H da (.frz od (.dT (Aw es)))) H'->Ai H (upd H' da (.dT (Aw es))):=fun H' sm b o e=>by
   by_cases z:b=da
   ·rw [z,Ab]; rw [z,hda] at e; exact e
   ·rw [Ah z]
    exact sm _ _ (by rw [Ah z]; exact e)
  refine ⟨_,rfl,a,Ao,dx,_,_,rfl,ha',T.Bo,T.Cj,rfl,da,od,_,rfl,Ab,FN (kvs:=Aw es)
   (fun i σ H'=>∃ v1 v2:Option V,σ=[some (.ref a),v1,v2]/\Ai (upd H da (.frz od (.dT (Aw es)))) H'/\(es.take i).any (Du (es.map (·.1)))=false)
   ⟨none,none,rfl,Ai.refl _,rfl⟩ (fun i σ H' _ ⟨_,_,_,sm,_⟩=>sm _ _ Ab) ?_ ?_⟩
  ·rintro i kk v σ H' tt q hkv ⟨v1,v2,rfl,sm,hb⟩ hq hT
   obtain ⟨pl,c,hes,rfl,rfl⟩:=G9 hkv
   have sn:Ai H' (upd H' tt (.tup [.ref q,.int c])):=Ai.new hT
   refine ⟨tt,_,rfl,SqT.of Ab,rfl,_,_,rfl,_,_,rfl,rfl,?_⟩
   refine ⟨_,rfl,c,rfl,fun v H1 s1 e=>⟨_,e,?_⟩⟩
   have e1:=NZ (p:=Du (es.map (·.1))) hes
   rw [hb,Bool.false_or] at e1
   have hq1:H1 q=some (.tup (v3 pl)):=s1 _ _ (sn _ _ hq)
   refine BJ (fun hst=>?_) (fun hst=>?_)
   ·refine ⟨_,rfl,q,pl,rfl,hq1,fun v H2 s2 ⟨p2,ep,hp2⟩=>?_⟩
    subst ep
    have sm2:Ai (upd H da (.frz od (.dT (Aw es)))) H2:=((sm.trans sn).trans s1).trans s2
    refine ⟨_,rfl,a,Ao,dx,_,_,rfl,sm2 _ _ ha',T.Bo,T.Cj,rfl,da,_,rfl,.inr ⟨Aw es,t3 (mv pl 0 0 1),p2,.inr ⟨od,sm2 _ _ Ab⟩,rfl,hp2,rfl⟩,_,rfl,?_⟩
    rw [GJ]
    refine BJ (fun hin=>?_) (fun hin=>?_)
    ·refine ⟨sm2 _ _ Ab,k _ _ (back H2 sm2) ?_⟩
     have:es.any (Du (es.map (·.1)))=true:=Zc hes (by unfold Du; rw [hst,hin]; rfl)
     show V.bl false=V.bl (!es.any (Du (es.map (·.1))))
     rw [this]; rfl
    ·exact ⟨_,_,rfl,sm2,by rw [e1]; unfold Du; rw [hst]; simpa using hin⟩
   ·exact Ej ⟨_,_,rfl,(sm.trans sn).trans s1,by rw [e1]; unfold Du; rw [Bool.not_eq_true] at hst; rw [hst]; rfl⟩
  ·rintro σ H' ⟨v1,v2,rfl,sm,hb⟩
   rw [Cv,List.take_length] at hb
   refine ⟨sm _ _ Ab,?_⟩
   exact k _ _ (back H' sm) (by show V.bl true=V.bl (!es.any (Du (es.map (·.1)))); rw [hb]; rfl)
open Mx (P3 mv Dr Dq Du DX ax Eo Gw)
theorem HS:Av ["part", "place", "sign"] ["part"] (Al Jf):=⟨rfl,rfl,rfl,by decide +kernel,rfl,by decide +kernel,by decide +kernel⟩
theorem RN (T:Txt K mg Ao Ac Ak Ax Ag):Cl P w K mg base 3 "tubes_are_free" ["part"] (acj Ao fun _ _ _ es=>!es.any (DX (es.map (·.1)))):=by
 refine T.Rz.ok HS (fun vs H Q E h=>?_) (fun f cdv A outer s H vs Q E hr h=>?_)
 ·obtain ⟨a,n,w,d,h,es,rfl,_⟩:=h
  rfl
 ·obtain ⟨a,n,w,d,h,es,rfl,⟨dx,na,da,ha,hna,hda,hle⟩,k⟩:=h
  have nd:=HS.nd
  have hu:=Jq hr
  refine ⟨_,Ad (JN (CG PassesOwn.never rfl (Ho (Az (pv 0) rfl)) (Fx rfl (Bw (Be (i:=1) nd rfl (Or.inl rfl)) (Bw (Be (i:=2) nd rfl (Or.inl rfl)) Eg)))
   (Af (Bj (PW.pt (VF (DP (Bm (WL T) hr rfl (Aa (pv 2) Ae))) (Qa (Cg (ZL hu (Bm (Ip T) hr rfl (Aa (pv 1) Ae)) (Az (pv 0) rfl)))))) (Af (Am Dy)) Ar))))
   (Af (Am Dy)),?_⟩
  refine ⟨da,.dT (Aw es),hda,True.intro,fun od=>?_⟩
  have nad:a ≠ da:=G7 ha hda (by intro z; cases z)
  have ha':upd H da (.frz od (.dT (Aw es))) a=some (.ins Ao dx (VL (.ref na) (.int w) (.int d) (.int h) (.ref da))):=by rw [Ah nad]; exact ha
  have back:∀ H':Hp,Ai (upd H da (.frz od (.dT (Aw es)))) H'->Ai H (upd H' da (.dT (Aw es))):=fun H' sm b o e=>by
   by_cases z:b=da
   ·rw [z,Ab]; rw [z,hda] at e; exact e
   ·rw [Ah z]
    exact sm _ _ (by rw [Ah z]; exact e)
  refine ⟨_,rfl,a,Ao,dx,_,_,rfl,ha',T.Bo,T.Cj,rfl,da,od,_,rfl,Ab,FN (kvs:=Aw es)
   (fun i σ H'=>∃ v1 v2:Option V,σ=[some (.ref a),v1,v2]/\Ai (upd H da (.frz od (.dT (Aw es)))) H'/\(es.take i).any (DX (es.map (·.1)))=false)
   ⟨none,none,rfl,Ai.refl _,rfl⟩ (fun i σ H' _ ⟨_,_,_,sm,_⟩=>sm _ _ Ab) ?_ ?_⟩
  ·rintro i kk v σ H' tt q hkv ⟨v1,v2,rfl,sm,hb⟩ hq hT
   obtain ⟨pl,c,hes,rfl,rfl⟩:=G9 hkv
   have sn:Ai H' (upd H' tt (.tup [.ref q,.int c])):=Ai.new hT
   refine ⟨tt,_,rfl,SqT.of Ab,rfl,_,_,rfl,_,_,rfl,rfl,?_⟩
   refine ⟨_,rfl,c,rfl,fun v H1 s1 e=>⟨_,e,?_⟩⟩
   have e1:=NZ (p:=DX (es.map (·.1))) hes
   rw [hb,Bool.false_or] at e1
   have hq1:H1 q=some (.tup (v3 pl)):=s1 _ _ (sn _ _ hq)
   refine BJ (fun hst=>?_) (fun hst=>?_)
   ·refine ⟨_,rfl,q,pl,rfl,hq1,fun v H2 s2 ⟨p2,ep,hp2⟩=>?_⟩
    subst ep
    have sm2:Ai (upd H da (.frz od (.dT (Aw es)))) H2:=((sm.trans sn).trans s1).trans s2
    refine ⟨_,rfl,a,Ao,dx,_,_,rfl,sm2 _ _ ha',T.Bo,T.Cj,rfl,da,_,rfl,.inr ⟨Aw es,t3 (mv pl 0 0 (-1)),p2,.inr ⟨od,sm2 _ _ Ab⟩,rfl,hp2,rfl⟩,_,rfl,?_⟩
    rw [GJ]
    refine BJ (fun hin=>?_) (fun hin=>?_)
    ·refine ⟨sm2 _ _ Ab,k _ _ (back H2 sm2) ?_⟩
     have:es.any (DX (es.map (·.1)))=true:=Zc hes (by unfold DX; rw [hst,hin]; rfl)
     show V.bl false=V.bl (!es.any (DX (es.map (·.1))))
     rw [this]; rfl
    ·exact ⟨_,_,rfl,sm2,by rw [e1]; unfold DX; rw [hst]; simpa using hin⟩
   ·exact Ej ⟨_,_,rfl,(sm.trans sn).trans s1,by rw [e1]; unfold DX; rw [Bool.not_eq_true] at hst; rw [hst]; rfl⟩
  ·rintro σ H' ⟨v1,v2,rfl,sm,hb⟩
   rw [Cv,List.take_length] at hb
   refine ⟨sm _ _ Ab,?_⟩
   exact k _ _ (back H' sm) (by show V.bl true=V.bl (!es.any (DX (es.map (·.1)))); rw [hb]; rfl)
theorem Wq (x:Int):∀ l:List Int,inV (.int x) (l.map V.int)=decide (x ∈ l)
 | []=>rfl
 | a :: l=>by
  have ih:=Wq x l
  unfold inV at ih ⊢
  rw [List.map_cons,List.any_cons,ih]
  show (a == x || _)=_
  by_cases e:x=a
  ·simp [e]
  ·have e':¬ a=x:=fun z=>e z.symm
   simp [e,e']
theorem YM (l:List Int):(l.map V.int).all Ii=true:=by
 rw [List.all_eq_true]
 intro v hv
 obtain ⟨i,_,rfl⟩:=List.mem_map.mp hv
 rfl
theorem Sd {ks:List P3} {w d h:Int}:∀ {i:Nat} {z:Int},([w,d,h]:List Int)[i]? = some z->Eo ks i z=false->(Eo ks 0 w && (Eo ks 1 d && Eo ks 2 h))=false
 | 0,z,hz,hf=>by cases hz; rw [hf]; rfl
 | 1,z,hz,hf=>by cases hz; rw [hf,Bool.false_and,Bool.and_false]
 | 2,z,hz,hf=>by cases hz; rw [hf,Bool.and_false,Bool.and_false]
 | _ + 3,z,hz,hf=>by simp at hz
theorem G5:Av ["part", "axis", "size", "taken", "place"] ["part"] (Al Fg):=⟨rfl,rfl,rfl,by decide +kernel,rfl,by decide +kernel,by decide +kernel⟩
theorem akj (q:P3) {i:Nat} (hi:i < 3):atI (v3 q) (i:Int)=some (.int (ax i q)):=by
 have:i=0 \/ i=1 \/ i=2:=by omega
 rcases this with rfl | rfl | rfl <;> rfl
theorem Nk (T:Txt K mg Ao Ac Ak Ax Ag):Cl P w K mg base 3 "reaches_its_sides" ["part"] (acj Ao fun w d h es=>Eo (es.map (·.1)) 0 w && (Eo (es.map (·.1)) 1 d && Eo (es.map (·.1)) 2 h)):=by
 refine T.Nf.ok G5 (fun vs H Q E h=>?_) (fun f cdv A outer s H vs Q E hr h=>?_)
 ·obtain ⟨a,n,w,d,h,es,rfl,_⟩:=h
  rfl
 ·obtain ⟨a,n,w,d,h,es,rfl,⟨dx,na,da,ha,hna,hda,hle⟩,k⟩:=h
  have nd:=G5.nd
  have hu:=Jq hr
  refine ⟨_,Ad (CG PassesOwn.never rfl (JQ rfl T.Ef (Aa (Cq (Aa (Az (pv 0) rfl) (Aa (Az (pv 0) rfl) (Aa (Az (pv 0) rfl) Ae)))) Ae))
    (Fx rfl (Bw (Be (i:=1) nd rfl (by first | exact Or.inl rfl | exact Or.inr rfl)) (Bw (Be (i:=2) nd rfl (Or.inl rfl)) Eg)))
    (Ad (JN (aaV (i:=3) rfl nd rfl rfl (adm rfl rfl rfl (by decide +kernel)) (agX (Az (pv 0) rfl)) (HF (own:=[("place",4)]) (show aao ["part", "axis", "size", "taken", "place"] (Al Fg) _ [("place",4)] = true from by decide +kernel))
      (fun _ _ _ _ _=>Be (i:=4) nd rfl (Or.inl rfl)) (fun _ _ _ _ _=>JM) (fun _ _ _ _ _=>Ck (show IxR _ (ajB K) from Im) (pv 4) (pv 1) (fun _ _=>rfl))))
     (Af (Bj (PW.pt (Eu (Bd Qk Aq (pv 3) (by rfl)) (Fi (Bd Qk (BW JT (pv 2) Aq) (pv 3) (by rfl))))) (Af (Am Dy)) Ar))))
   (Af (Am Dy)),?_⟩
  refine ⟨_,rfl,a,Ao,dx,_,_,rfl,ha,T.Bo,T.Eh,rfl,?_⟩
  refine ⟨_,rfl,a,Ao,dx,_,_,rfl,ha,T.Bo,T.DK,rfl,?_⟩
  refine ⟨_,rfl,a,Ao,dx,_,_,rfl,ha,T.Bo,T.DW,rfl,?_⟩
  refine ⟨(by show 3 <= sizeLine; decide),fun l hl=>?_⟩
  have sn:Ai H (upd H l (.lst [.int w,.int d,.int h])):=Ai.new hl
  refine ⟨l,_,rfl,SqL.of Ab,Jt (K:=K) (a:=l) (xs:=[.int w,.int d,.int h])
   (fun i σ H'=>∃ v1 v2 v3':Option V,σ=[some (.ref a),v1,v2,v3',none]/\Ai (upd H l (.lst [.int w,.int d,.int h])) H'/\∀ j,j < i->∀ z:Int,([w,d,h]:List Int)[j]? = some z->Eo (es.map (·.1)) j z=true)
   ⟨none,none,none,rfl,Ai.refl _,fun j hj=>absurd hj (Nat.not_lt_zero _)⟩ (fun i σ H' _ ⟨_,_,_,_,sm,_⟩=>SqL.of (sm _ _ Ab)) ?_ ?_⟩
  ·rintro i x σ H' tt hx ⟨v1,v2,v3',rfl,sm,hb⟩ hT
   obtain ⟨z,hz,rfl⟩:∃ z:Int,([w,d,h]:List Int)[i]? = some z/\x = .int z:=by
    match i,hx with
    | 0,hx=>exact ⟨w,rfl,(Option.some.inj hx).symm⟩
    | 1,hx=>exact ⟨d,rfl,(Option.some.inj hx).symm⟩
    | 2,hx=>exact ⟨h,rfl,(Option.some.inj hx).symm⟩
    | i + 3,hx=>simp at hx
   have hi3:i < 3:=(List.getElem?_eq_some_iff.mp hz).1
   have st:Ai H' (upd H' tt (.tup [.int (i:Nat),.int z])):=Ai.new hT
   refine ⟨tt,_,rfl,SqT.of Ab,rfl,_,_,rfl,_,_,rfl,rfl,?_⟩
   have sm1:=(sn.trans sm).trans st
   generalize upd H' tt (.tup [.int (i:Nat),.int z])=H1 at sm1 st
   have Xq:=sm1 _ _ hda
   refine ⟨da,.dT (Aw es),Xq,True.intro,fun od=>?_⟩
   have hal:upd H1 da (.frz od (.dT (Aw es))) a=_:=U3 (sm1 _ _ ha) Xq (by intro z; cases z)
   refine ⟨_,rfl,a,Ao,dx,_,_,rfl,hal,T.Bo,T.Cj,rfl,da,od,rfl,.inr ⟨Aw es,Ab,fun D hD=>?_⟩⟩
   refine af5 (n:=es.length) (fun j H2=>Ai (upd H1 da (.frz od (.dT (Aw es)))) H2/\H2 D=some (.lst (((es.take j).map fun x=>ax i x.1).map V.int))) ⟨Ai.new hD,Ab⟩
    (fun j H2 hj p=>⟨p.1 _ _ Ab,by rw [Cv]; exact hj⟩) (fun H2 p=>⟨p.1 _ _ Ab,by rw [Cv]; exact Nat.le_refl _⟩) ?_ ?_
   ·rintro j x H2 H3 hj ⟨p1,p2⟩ ⟨rfl,kk,v,q,hkv,rfl,hq⟩
    obtain ⟨pl,c,hes,rfl,rfl⟩:=G9 hkv
    refine ⟨rfl,Ol ?_⟩
    refine ⟨_,rfl,_,rfl,q,_,_,_,rfl,rfl,SqT.of hq,akj pl hi3,_,p2,?_,?_⟩
    ·rw [List.length_map,List.length_map,List.length_take]
     exact Ci (by omega)
    ·refine ⟨Ai.Gf hD p1,?_⟩
     rw [Ab,List.take_succ,hes]
     simp
   ·rintro H2 ⟨p1,p2⟩
    rw [List.take_length] at p2
    refine ⟨p1 _ _ Ab,?_⟩
    have sm2:Ai H1 (upd H2 da (.dT (Aw es))):=Ru Xq p1
    have hD2:upd H2 da (.dT (Aw es)) D=some (.lst ((es.map fun x=>ax i x.1).map V.int)):=by
     rw [Ah (fun z=>by rw [z,Ab] at hD; cases hD)]; exact p2
    generalize upd H2 da (.dT (Aw es))=H3 at sm2 hD2
    have em:(es.map fun x=>ax i x.1)=(es.map (·.1)).map (ax i):=by rw [List.map_map]; rfl
    refine ⟨_,rfl,D,_,rfl,.inl (SqL.of hD2),rfl,YM _,_,rfl,?_⟩
    rw [if_pos rfl,Wq,em]
    refine BJ (fun h0=>?_) (fun h0=>?_)
    ·refine Dm (k _ _ ((sn.trans sm).trans (st.trans sm2)) ?_)
     refine congrArg V.bl (Sd hz ?_).symm
     unfold Eo
     rw [Bool.not_eq_true'] at h0
     rw [h0]; rfl
    ·refine ⟨_,rfl,_,_,rfl,rfl,_,rfl,D,_,rfl,.inl (SqL.of hD2),rfl,YM _,_,rfl,?_⟩
     rw [if_pos rfl,Wq,em]
     have h0':decide ((0:Int) ∈ (es.map (·.1)).map (ax i))=true:=by simpa using h0
     refine BJ (fun h1=>?_) (fun h1=>?_)
     ·refine k _ _ ((sn.trans sm).trans (st.trans sm2)) ?_
      refine congrArg V.bl (Sd hz ?_).symm
      unfold Eo
      rw [Bool.not_eq_true'] at h1
      rw [h1,Bool.and_false]
     ·refine ⟨_,_,_,rfl,sm.trans (st.trans sm2),fun j hj z' hz'=>?_⟩
      by_cases e:j=i
      ·subst e
       rw [hz] at hz'
       cases hz'
       unfold Eo
       rw [h0']
       simpa using h1
      ·exact hb j (by omega) z' hz'
  ·rintro σ H' ⟨v1,v2,v3',rfl,sm,hb⟩
   refine k _ _ (sn.trans sm) ?_
   show V.bl true=V.bl (_ && (_ && _))
   rw [hb 0 (by show 0 < 3; decide) w rfl,hb 1 (by show 1 < 3; decide) d rfl,hb 2 (by show 2 < 3; decide) h rfl]
   rfl
end
open Mx (P3 mv Dr Dq Du DX ax Eo Gw Ig visit Nm cellsOf Full Cz)
theorem Iw {α:Type} {xs:List α} {z:Int} {j:Nat} {v:α} (e:z=(j:Int)) (h:xs[j]? = some v):atI xs z=some v:=by subst e; exact adW h
section
variable {P:Program} {w:World} {K:PySem.W.Frag} {mg:Str->Option Value} {base:Heap} {Ao Ac Ak Ax Ag:Addr}
def Hv (R:List P3):List (List Key × V):=R.map fun q=>(t3 q,.bl true)
theorem Oa (q:P3):∀ R:List P3,(Ez (Hv R) (t3 q)).isSome=decide (q ∈ R)
 | []=>rfl
 | x :: r=>by
  have ih:=Oa q r
  unfold Hv at ih ⊢
  rw [List.map_cons]
  by_cases e:x=q
  ·rw [Di (by rw [e])]
   simp [e]
  ·rw [Dj (fun z=>e (aca z)),ih]
   have:¬ q=x:=fun z=>e z.symm
   simp [this]
theorem aeu {R:List P3} {q:P3} (h:q ∉ R):putK (Hv R) (t3 q) (.bl true)=Hv (R ++ [q]):=by
 rw [VG]
 ·unfold Hv; rw [List.map_append]; rfl
 ·have:=Oa q R
  rw [decide_eq_false h] at this
  exact Option.not_isSome_iff_eq_none.mp (by rw [this]; exact Bool.false_ne_true)
def ahZ (es:List (P3 × Int)) (b:Bool):Prop:=(es=[]/\b=false) \/ ∃ (x:P3 × Int) (r:List (P3 × Int)) (R:List P3),es=x :: r/\Nm (es.map (·.1)) x.1 R []/\b=decide (R.length=es.length)
def Pk (C:Addr):Sp:=fun vs H Q _=>∃ (a:Addr) (n:List V) (w d h:Int) (es:List (P3 × Int)),vs=[.ref a]/\GR C H a n w d h es/\Out H Q (fun v _=>∃ b,v = .bl b/\ahZ es b)
theorem Ia:Av ["part", "start", "reached", "waiting", "place", "near"] ["part"] (Al Jk):=⟨rfl,rfl,rfl,by decide +kernel,rfl,by decide +kernel,by decide +kernel⟩
structure WalkAt (H0:Hp) (dr lw:Addr) (R W:List P3) (H:Hp):Prop where
 same:Ai H0 H
 rd:H dr=some (.dT (Hv R))
 wl:∃ ws:List Addr,H lw=some (.lst (ws.map V.ref))/\Paired (fun q k=>H q=some (.tup (v3 k))) ws W
theorem WalkAt.grow {H0 H H':Hp} {dr lw:Addr} {R W:List P3} (w:WalkAt H0 dr lw R W H) (s:Ai H H'):WalkAt H0 dr lw R W H' :=
 ⟨w.same.trans s,s _ _ w.rd,let ⟨ws,h1,h2⟩:=w.wl; ⟨ws,s _ _ h1,Ie s h2⟩⟩
theorem JS {H:Hp} {a:Addr} {o:HO} (ha:∀ xs,H a ≠ some (.tup xs)):∀ {qs:List Addr} {ks:List P3},Paired (fun q k=>H q=some (.tup (v3 k))) qs ks->Paired (fun q k=>upd H a o q=some (.tup (v3 k))) qs ks
 | _,_,.nil=>.nil
 | _,_,.cons h t=>.cons (by rw [Ah (fun z=>ha _ (z ▸ h))]; exact h) (JS ha t)
theorem Bh {α β:Type} {G:α->β->Prop} {l:List α} {m:List β} (h:Paired G l m):l.length=m.length:=Paired.length h
theorem af6 (qs:List Addr) (q:Addr):((qs ++ [q]).map V.ref)[((qs ++ [q]).map V.ref).length - 1]? = some (V.ref q):=by simp
theorem Lg {α β:Type} {G:α->β->Prop}:∀ {l:List α} {m:List β} {a:α} {b:β},l.length=m.length->Paired G (l ++ [a]) (m ++ [b])->Paired G l m/\G a b
 | [],[],a,b,_,h=>by cases h with | cons x y=>exact ⟨.nil,x⟩
 | [],_ :: _,_,_,h,_=>by simp at h
 | _ :: _,[],_,_,h,_=>by simp at h
 | x :: l,y :: m,a,b,h,g=>by
  rw [List.cons_append,List.cons_append] at g
  cases g with
  | cons p q =>
   obtain ⟨r,s⟩:=Lg (by simpa using h) q
   exact ⟨.cons p r,s⟩
theorem RW (T:Txt K mg Ao Ac Ak Ax Ag):Cl P w K mg base 3 "hangs_together" ["part"] (Pk Ao):=by
 refine T.RJ.ok Ia (fun vs H Q E h=>?_) (fun f cdv A outer s H vs Q E hr h=>?_)
 ·obtain ⟨a,n,w,d,h,es,rfl,_⟩:=h
  rfl
 ·obtain ⟨a,n,w,d,h,es,rfl,⟨dx,na,da,ha,hna,hda,hle⟩,k⟩:=h
  have nd:=Ia.nd
  have hu:=Jq hr
  refine ⟨_,Ad (Bj (Bd Gp (Bc RM (by rfl) T.CJ PySem.boot_len (Aa (Az (pv 0) rfl) Ae)) Aq (Bg _)) (Af (Am Dy)) Ar)
   (Ad (Ba (i:=1) nd rfl (Or.inl rfl) (Ck BP (Jl (ac6 rfl) (by rfl) T.agA WQ (Aa (Az (pv 0) rfl) Ae)) Aq (fun _ _=>rfl)))
   (Ad (Ba (i:=2) nd rfl (Or.inl rfl) (afJ hu (pv 1) Dy))
   (Ad (Ba (i:=3) nd rfl (Or.inl rfl) (Cq (Aa (pv 1) Ae)))
   (Ad (VH PassesOwn.never (Bd Ln (Bc Ay (by rfl) T.CJ PySem.boot_len (Aa (pv 3) Ae)) Aq (Bg _))
    (Ad (Ba (i:=4) nd rfl (Or.inl rfl) (air PySem.F.plainAttrs_list PySem.F.slot_list_pop PySem.F.type_list_pop aiy (pv 3)))
    (Af (CG PassesOwn.never rfl (GX (BW acC (Bm (Up T) hr rfl (Aa (pv 4) Ae)) (Cq (Aa (Bm (Ir T) hr rfl (Aa (pv 4) Ae)) (Aa (Bm (Ip T) hr rfl (Aa (pv 4) Ae)) Ae)))))
     (Be (i:=5) nd rfl (Or.inl rfl))
     (Af (Bj (PW.pt (VF (Cg (ZL hu (pv 5) (Az (pv 0) rfl))) (Qa (Cg (aex hu (pv 5) (pv 2))))))
      (Ad (Ib hu (pv 2) (pv 5) Dy rfl) (Af (JP (S6 PySem.F.plainAttrs_list PySem.F.slot_list_append PySem.F.type_list_append GP (pv 3) (Aa (pv 5) Ae))))) Ar))))))
   (Af (Am (Gk Gp (Bc RM (by rfl) T.CJ PySem.boot_len (Aa (pv 2) Ae)) (Bc RM (by rfl) T.CJ PySem.boot_len (Aa (Az (pv 0) rfl) Ae)) (Bg _)))))))),?_⟩
  refine ⟨_,rfl,a,Ao,dx,_,_,rfl,ha,T.Bo,T.Cj,rfl,da,_,rfl,.inl hda,rfl,_,rfl,?_⟩
  rw [Cv]
  refine BJ (fun h0=>?_) (fun h0=>?_)
  ·refine k _ _ (Ai.refl _) ⟨false,rfl,.inl ⟨?_,rfl⟩⟩
   have:(es.length:Int)=0:=by simpa using h0
   exact List.length_eq_zero_iff.mp (by omega)
  obtain ⟨x,r,rfl⟩:∃ x r,es=x :: r:=by
   cases es with
   | nil=>exact absurd rfl h0
   | cons x r=>exact ⟨x,r,rfl⟩
  refine ⟨_,rfl,a,Ao,dx,_,_,rfl,ha,T.Bo,T.Cj,rfl,da,_,rfl,.inl hda,fun l qs hl hq=>?_⟩
  obtain ⟨q0,qr,rfl⟩:∃ q0 qr,qs=q0 :: qr:=by
   cases qs with
   | nil=>have:=hq.length; simp [Aw] at this
   | cons x r=>exact ⟨x,r,rfl⟩
  have hq0:H q0=some (.tup (v3 x.1)):=by
   unfold Aw at hq
   cases hq with
   | cons a b=>exact a
  have s1:Ai H (upd H l (.lst ((q0 :: qr).map V.ref))):=Ai.new hl
  refine ⟨l,_,_,_,rfl,rfl,SqL.of Ab,Iw (j:=0) rfl rfl,?_⟩
  generalize upd H l (.lst ((q0 :: qr).map V.ref))=H1 at s1
  intro dr hdr
  refine ⟨_,rfl,Ab,q0,t3 x.1,rfl,?_,?_⟩
  ·rw [Ah (Bq (s1 _ _ hq0) hdr)]; exact s1 _ _ hq0
  rw [agK]
  have s2:Ai H1 (upd H1 dr (.dT [(t3 x.1,.bl true)])):=Ai.new hdr
  refine ⟨_,rfl,(by show 1 <= sizeLine; decide),fun lw hlw=>?_⟩
  have s3:Ai (upd H1 dr (.dT [(t3 x.1,.bl true)])) (upd (upd H1 dr (.dT [(t3 x.1,.bl true)])) lw (.lst [.ref q0])):=Ai.new hlw
  have w0:WalkAt H dr lw [x.1] [x.1] (upd (upd H1 dr (.dT [(t3 x.1,.bl true)])) lw (.lst [.ref q0])) :=
   ⟨(s1.trans s2).trans s3,s3 _ _ Ab,[q0],Ab,.cons (s3 _ _ (s2 _ _ (s1 _ _ hq0))) .nil⟩
  have ndr:H dr=none:=s1.free hdr
  have nlw:H lw=none:=(s1.trans s2).free hlw
  generalize upd (upd H1 dr (.dT [(t3 x.1,.bl true)])) lw (.lst [.ref q0])=H2 at w0
  clear s3 s2
  refine ⟨fun m σ H'=>∃ (v4 v5:Option V) (R W:List P3),σ=[some (.ref a),some (.ref q0),some (.ref dr),some (.ref lw),v4,v5]/\WalkAt H dr lw R W H'/\Nm ((x :: r).map (·.1)) x.1 R W/\W.length <= R.length/\m=(x :: r).length - R.length + W.length,
   ⟨_,none,none,[x.1],[x.1],rfl,w0,Nm.start (List.mem_map_of_mem (List.mem_cons_self ..)),Nat.le_refl _,rfl⟩,?_⟩
  rintro m σ H' ⟨v4,v5,R,W,rfl,wa,I,hWR,rfl⟩
  obtain ⟨ws,hw,hp⟩:=wa.wl
  have ndl:dr ≠ lw:=G7 wa.rd hw (by intro z; cases z)
  refine ⟨_,rfl,lw,_,rfl,.inl (SqL.of hw),_,_,rfl,rfl,_,rfl,?_⟩
  refine BJ (fun h0=>?_) (fun h0=>?_)
  ·-- a turn
   have hwl:0 < ws.length:=by
    rw [List.length_map] at h0
    have:=of_decide_eq_true h0
    omega
   have hlen:=Bh hp
   obtain ⟨ws0,q,rfl⟩:∃ ws0 q,ws=ws0 ++ [q]:=⟨ws.dropLast,ws.getLast (List.length_pos_iff.mp hwl),(List.dropLast_concat_getLast _).symm⟩
   obtain ⟨W0,pa,rfl⟩:∃ W0 pa,W=W0 ++ [pa]:=⟨W.dropLast,W.getLast (List.length_pos_iff.mp (by omega)),(List.dropLast_concat_getLast _).symm⟩
   have hl0:ws0.length=W0.length:=by simpa using hlen
   obtain ⟨hp0,hqa⟩:=Lg hl0 hp
   refine ⟨fun σ' H''=>∃ (v4 v5:Option V) (R' W':List P3),σ'=[some (.ref a),some (.ref q0),some (.ref dr),some (.ref lw),v4,v5]/\WalkAt H dr lw R' W' H''/\Nm ((x :: r).map (·.1)) x.1 R' W'/\W'.length <= R'.length/\(x :: r).length - R'.length + W'.length < (x :: r).length - R.length + (W0 ++ [pa]).length,
    fun σ' H'' ⟨v4,v5,R',W',e1,e2,e3,e4,e5⟩=>⟨_,e5,v4,v5,R',W',e1,e2,e3,e4,rfl⟩,?_⟩
   refine ⟨_,rfl,.inl ⟨rfl,_,SqL.of hw⟩,lw,_,.ref q,rfl,rfl,hw,af6 ws0 q,?_⟩
   have e0:((ws0 ++ [q]).map V.ref).dropLast=ws0.map V.ref:=by rw [List.map_append]; simp
   rw [e0]
   have hn3:∀ xs,H' lw ≠ some (.tup xs):=fun xs z=>by rw [hw] at z; cases z
   have w3:WalkAt H dr lw R W0 (upd H' lw (.lst (ws0.map V.ref))):=⟨Ai.Gf nlw wa.same,by rw [Ah ndl]; exact wa.rd,ws0,Ab,JS hn3 hp0⟩
   have hq3:upd H' lw (.lst (ws0.map V.ref)) q=some (.tup (v3 pa)):=by rw [Ah (fun z=>hn3 _ (z ▸ hqa))]; exact hqa
   generalize upd H' lw (.lst (ws0.map V.ref))=H3 at w3 hq3
   refine ⟨_,rfl,q,pa,rfl,hq3,fun v4' H4 s4 ⟨p4,qs4,e4,h4,pr4⟩=>?_⟩
   refine ⟨_,rfl,q,pa,rfl,s4 _ _ hq3,fun v5' H5 s5 ⟨p5,e5,h5⟩=>?_⟩
   refine ⟨_,rfl,q,pa,rfl,s5 _ _ (s4 _ _ hq3),fun v6' H6 s6 ⟨p6,e6,h6⟩=>?_⟩
   subst e4 e5 e6
   refine ⟨(by show 2 <= sizeLine; decide),fun p7 hp7=>?_⟩
   have s7:Ai H6 (upd H6 p7 (.lst [.ref p5,.ref p6])):=Ai.new hp7
   have hl4:qs4.length=4:=by rw [Bh pr4]; rfl
   refine ⟨p4,p7,_,_,rfl,rfl,s7 _ _ (s6 _ _ (s5 _ _ h4)),Ab,(by rw [List.length_map,hl4]; show 6 <= sizeLine; decide),fun p8 hp8=>?_⟩
   have s8:=Ai.new (o:=.lst (qs4.map V.ref ++ [.ref p5,.ref p6])) hp8
   have prs:Paired (fun q k=>upd (upd H6 p7 (.lst [.ref p5,.ref p6])) p8 (.lst (qs4.map V.ref ++ [.ref p5,.ref p6])) q=some (.tup (v3 k))) (qs4 ++ [p5,p6]) (Ig pa):=by
    refine DQ (d:=[mv pa 0 0 1,mv pa 0 0 (-1)]) (Ie (((s5.trans s6).trans s7).trans s8) pr4) (.cons ?_ (.cons ?_ .nil))
    ·exact s8 _ _ (s7 _ _ (s6 _ _ h5))
    ·exact s8 _ _ (s7 _ _ h6)
   have w8:=w3.grow ((((s4.trans s5).trans s6).trans s7).trans s8)
   have n8l:p8 ≠ lw:=fun z=>by
    obtain ⟨ws8,hw8,_⟩:=(w3.grow (((s4.trans s5).trans s6).trans s7)).wl
    rw [<- z,hp8] at hw8
    cases hw8
   have n8d:p8 ≠ dr:=fun z=>by
    have hd8:=(w3.grow (((s4.trans s5).trans s6).trans s7)).rd
    rw [<- z,hp8] at hd8
    cases hd8
   have h8:upd (upd H6 p7 (.lst [.ref p5,.ref p6])) p8 (.lst (qs4.map V.ref ++ [.ref p5,.ref p6])) p8=some (.lst ((qs4 ++ [p5,p6]).map V.ref)):=by
    rw [Ab,List.map_append]; rfl
   generalize upd (upd H6 p7 (.lst [.ref p5,.ref p6])) p8 (.lst (qs4.map V.ref ++ [.ref p5,.ref p6]))=H8 at prs w8 h8
   refine ⟨p8,rfl,⟨_,SqL.of h8⟩,Hz (K:=K) (a:=p8) (xs:=(qs4 ++ [p5,p6]).map V.ref)
    (fun j σ' H''=>∃ v5,σ'=[some (.ref a),some (.ref q0),some (.ref dr),some (.ref lw),some (.ref q),v5]/\(∀ b o,H8 b=some o->b ≠ dr->b ≠ lw->H'' b=some o) /\
     ∃ R' W',((Ig pa).take j).foldl (visit ((x :: r).map (·.1))) (R,W0)=(R',W')/\WalkAt H dr lw R' W' H''/\R'.Nodup/\(∀ q ∈ R',q ∈ (x :: r).map (·.1))/\W'.length <= R'.length)
    ⟨_,rfl,fun b o e _ _=>e,R,W0,rfl,w8,I.nd,I.sub,by rw [List.length_append] at hWR; simp at hWR; omega⟩ (fun j σ' H'' _ ⟨_,_,kp,_⟩=>SqL.of (kp _ _ h8 n8d n8l)) ?_ ?_⟩
   ·rintro j y σ' H'' hj ⟨v5,rfl,kp,R',W',ef,wa',hnd,hsub,ahr⟩
    obtain ⟨b,hb,rfl⟩:∃ b,(qs4 ++ [p5,p6])[j]? = some b/\y = .ref b:=by
     rw [List.getElem?_map] at hj
     cases e:(qs4 ++ [p5,p6])[j]? with
     | none=>rw [e] at hj; cases hj
     | some b=>rw [e] at hj; exact ⟨b,rfl,(Option.some.inj hj).symm⟩
    obtain ⟨kb,hkb,hbt⟩:=Ca prs hb
    have hdk:∀ xs,H8 dr ≠ some (.tup xs):=fun xs z=>by rw [w8.rd] at z; cases z
    have hlk:∀ xs,H8 lw ≠ some (.tup xs):=fun xs z=>by obtain ⟨_,hw8,_⟩:=w8.wl; rw [hw8] at z; cases z
    have ahp:H'' b=some (.tup (v3 kb)):=kp _ _ hbt (fun z=>hdk _ (z ▸ hbt)) (fun z=>hlk _ (z ▸ hbt))
    have ha':=wa'.same _ _ ha
    have alg:=wa'.same _ _ hda
    have ef':((Ig pa).take (j + 1)).foldl (visit ((x :: r).map (·.1))) (R,W0)=visit ((x :: r).map (·.1)) (R',W') kb:=by
     rw [List.take_succ,hkb,List.foldl_append,ef]
     rfl
    refine ⟨_,rfl,_,rfl,a,Ao,dx,_,_,rfl,ha',T.Bo,T.Cj,rfl,da,_,rfl,.inr ⟨Aw (x :: r),t3 kb,b,.inl alg,rfl,ahp,rfl⟩,_,rfl,?_⟩
    rw [GJ]
    refine BJ (fun hin=>?_) (fun hin=>?_)
    ·refine ⟨_,rfl,_,rfl,dr,_,rfl,.inr ⟨Hv R',t3 kb,b,.inl wa'.rd,rfl,ahp,rfl⟩,_,rfl,?_⟩
     rw [Oa]
     have abe:=of_decide_eq_true hin
     refine BJ (fun hnr=>?_) (fun hnr=>?_)
     ·have aiN:kb ∉ R':=by simpa using hnr
      have ali:R'.length <= (x :: r).length:=by
       have:=List.Nodup.length_le_of_subset hnd hsub
       rwa [List.length_map] at this
      obtain ⟨ws',hw',hp'⟩:=wa'.wl
      have hlen':=Bh hp'
      refine ⟨_,rfl,_,rfl,dr,_,rfl,Uy.t (k:=t3 kb) wa'.rd ahp (by unfold Hv; rw [List.length_map]; exact Ci (by omega)),?_⟩
      rw [aeu aiN]
      have hw2:upd H'' dr (.dT (Hv (R' ++ [kb]))) lw=some (.lst (ws'.map V.ref)):=by rw [Ah ndl.symm]; exact hw'
      refine ⟨_,rfl,.inl ⟨rfl,_,SqL.of hw2⟩,_,rfl,lw,_,_,rfl,rfl,hw2,(by rw [List.length_map]; exact Ci (by omega)),?_⟩
      refine ⟨_,rfl,fun c o e n1 n2=>by rw [Ah n2,Ah n1]; exact kp _ _ e n1 n2,R' ++ [kb],W' ++ [kb],?_,⟨?_,?_,ws' ++ [b],?_,?_⟩,?_,?_,?_⟩
      ·rw [ef']; unfold visit; rw [if_pos ⟨abe,aiN⟩]
      ·exact Ai.Gf nlw (Ai.Gf ndr wa'.same)
      ·rw [Ah ndl]; exact Ab
      ·rw [Ab,List.map_append]; rfl
      ·have q1:∀ xs,H'' dr ≠ some (.tup xs):=fun xs z=>by rw [wa'.rd] at z; cases z
       have q2:∀ xs,upd H'' dr (.dT (Hv (R' ++ [kb]))) lw ≠ some (.tup xs):=fun xs z=>by rw [hw2] at z; cases z
       refine JS q2 (JS q1 (DQ hp' (.cons ahp .nil)))
      ·exact ZP hnd aiN
      ·intro q hq
       rcases List.mem_append.mp hq with hq | hq
       ·exact hsub q hq
       ·rw [List.mem_singleton.mp hq]; exact abe
      ·simp; omega
     ·exact ⟨_,rfl,kp,R',W',by rw [ef']; unfold visit; rw [if_neg (fun z=>hnr (by simpa using z.2))],wa',hnd,hsub,ahr⟩
    ·exact Ej ⟨_,rfl,kp,R',W',by rw [ef']; unfold visit; rw [if_neg (fun z=>hin (decide_eq_true z.1))],wa',hnd,hsub,ahr⟩
   ·rintro σ' H'' ⟨v5,rfl,kp,R',W',ef,wa',hnd,hsub,ahr⟩
    have hl6:((qs4 ++ [p5,p6]).map V.ref).length=(Ig pa).length:=by rw [List.length_map,List.length_append,hl4]; rfl
    rw [hl6,List.take_length] at ef
    obtain ⟨I',em⟩:=Nm.turn I
    rw [ef] at I' em
    have l1:=I'.le
    have l2:=I.le
    rw [List.length_map] at l1 l2
    dsimp only at l1 em I'
    exact ⟨_,_,R',W',rfl,wa',I',ahr,by rw [List.length_append,List.length_singleton]; omega⟩
  ·-- the end
   have hW:W=[]:=by
    have:ws.length=0:=by
     rw [List.length_map] at h0
     have:=of_decide_eq_false (Bool.not_eq_true _ ▸ h0)
     omega
    exact List.length_eq_zero_iff.mp (by rw [<- Bh hp]; exact this)
   subst hW
   refine ⟨_,rfl,dr,_,rfl,.inl wa.rd,_,rfl,a,Ao,dx,_,_,rfl,wa.same _ _ ha,T.Bo,T.Cj,rfl,da,_,rfl,.inl (wa.same _ _ hda),rfl,?_⟩
   refine k _ _ wa.same ⟨_,rfl,.inr ⟨x,r,R,rfl,I,?_⟩⟩
   unfold Hv
   rw [Cv,List.length_map]
   by_cases e:R.length=(x :: r).length
   ·rw [e]; simp
   ·rw [decide_eq_false e,decide_eq_false (fun z=>e (by injection z with z; omega))]
end
def bV (t:Br.Bytes):List V:=t.map fun c=>.int (c.toNat:Int)
section
variable {P:Program} {w:World} {K:PySem.W.Frag} {mg:Str->Option Value} {base:Heap} {Ao Ac Ak Ax Ag:Addr}
def Q0 (C:Addr):Sp:=fun vs H Q _=>∃ (a:Addr) (n:List V) (p:Br.Part),vs=[.ref a]/\GR C H a n p.wide p.deep p.high (cellsOf p)/\Full p/\Out H Q (fun v _=>v = .bl (Cz p))
theorem Rb:Av ["part"] ["part"] (Al J9):=⟨rfl,rfl,rfl,by decide +kernel,rfl,by decide +kernel,by decide +kernel⟩
theorem abh {p:Br.Part} (hf:Full p) {b:Bool} (h:ahZ (cellsOf p) b):b=p.whole:=by
 have ek:=Mx.Fe p
 rcases h with ⟨h,rfl⟩ | ⟨x,r,R,e,I,rfl⟩
 ·rw [h] at ek
  unfold Br.Part.whole
  cases e:p.cells with
  | nil=>rfl
  | cons c r=>rw [e] at ek; cases ek
 ·cases e2:p.cells with
  | nil=>rw [e2,e] at ek; cases ek
  | cons c r2 =>
   have ex:x.1=Mx.up c:=by
    rw [e2,e,List.map_cons,List.map_cons] at ek
    exact (List.cons.inj ek).1
   rw [ex] at I
   exact (Nm.fin e2 I).symm
theorem Ut (T:Txt K mg Ao Ac Ak Ax Ag):Cl P w K mg base 4 "is_right_part" ["part"] (Q0 Ao):=by
 refine T.Ui.ok Rb (fun vs H Q E h=>?_) (fun f cdv A outer s H vs Q E hr h=>?_)
 ·obtain ⟨a,n,p,rfl,_⟩:=h
  rfl
 ·obtain ⟨a,n,p,rfl,hp,hf,k⟩:=h
  refine ⟨_,Af (Am (JR (Bm (RQ T) hr rfl (Aa (pv 0) Ae)) (JR (Bm (RN T) hr rfl (Aa (pv 0) Ae)) (JR (Bm (Nk T) hr rfl (Aa (pv 0) Ae)) (Ro (Bm (RW T) hr rfl (Aa (pv 0) Ae))))))),?_⟩
  have e1:(!(cellsOf p).any (Du ((cellsOf p).map (·.1))))=p.studsOk:=(Mx.Vj hf).symm
  have e2:(!(cellsOf p).any (DX ((cellsOf p).map (·.1))))=p.tubesOk:=(Mx.ab9 hf).symm
  refine ⟨_,rfl,a,n,_,_,_,_,rfl,hp,fun v1 H1 s1 ev1=>⟨p.studsOk,ev1.trans (congrArg V.bl e1),?_⟩⟩
  refine BJ (fun h1=>?_) (fun h1=>k _ _ s1 (by unfold Cz; rw [Bool.not_eq_true] at h1; rw [h1]; rfl))
  refine ⟨_,rfl,a,n,_,_,_,_,rfl,hp.same s1,fun v2 H2 s2 ev2=>⟨p.tubesOk,ev2.trans (congrArg V.bl e2),?_⟩⟩
  refine BJ (fun h2=>?_) (fun h2=>k _ _ (s1.trans s2) (by unfold Cz; rw [Bool.not_eq_true] at h2; rw [h1,h2]; rfl))
  refine ⟨_,rfl,a,n,_,_,_,_,rfl,hp.same (s1.trans s2),fun v3' H3 s3 ev3=>⟨p.tight,ev3.trans (congrArg V.bl Mx.afr.symm),?_⟩⟩
  refine BJ (fun h3=>?_) (fun h3=>k _ _ ((s1.trans s2).trans s3) (by unfold Cz; rw [Bool.not_eq_true] at h3; rw [h1,h2,h3]; rfl))
  refine ⟨_,rfl,a,n,_,_,_,_,rfl,hp.same ((s1.trans s2).trans s3),fun v4 H4 s4 ⟨b,ev4,hb⟩=>?_⟩
  refine k _ _ (((s1.trans s2).trans s3).trans s4) ?_
  rw [ev4,abh hf hb]
  unfold Cz
  rw [h1,h2,h3]
  rfl
theorem LR {es:List (P3 × Int)} {q:P3} {c:Int} (h:q ∉ es.map (·.1)):putK (Aw es) (t3 q) (.int c)=Aw (es ++ [(q,c)]):=by
 rw [VG]
 ·unfold Aw; rw [List.map_append]; rfl
 ·have:=GJ q es
  rw [decide_eq_false h] at this
  exact Option.not_isSome_iff_eq_none.mp (by rw [this]; exact Bool.false_ne_true)
theorem JG {α:Type} {l:List α} {i:Nat} {x:α} (hn:l.Nodup) (h:l[i]? = some x):x ∉ l.take i:=fun hm=>by
 obtain ⟨j,hj⟩:=List.mem_iff_getElem?.mp hm
 rw [List.getElem?_take] at hj
 split at hj
 ·exact absurd (ahQ hn hj h) (by omega)
 ·cases hj
def Vl (C:Addr):Sp:=fun vs H Q _=>∃ (a:Addr) (n:List V) (w d h:Int) (es:List (P3 × Int)),vs=[.ref a]/\GR C H a n w d h es/\(es.map (·.1)).Nodup/\Out H Q (fun v H'=>∃ p,v = .ref p/\GR C H' p n d w h (es.map (Gw w)))
theorem K6:Av ["part", "cells", "place", "sign"] ["part"] (Al Nz):=⟨rfl,rfl,rfl,by decide +kernel,rfl,by decide +kernel,by decide +kernel⟩
theorem aeb {w:Int} {a b:P3 × Int} (h:(Gw w a).1=(Gw w b).1):a.1=b.1:=by
 obtain ⟨⟨x,y,z⟩,c⟩:=a
 obtain ⟨⟨x',y',z'⟩,c'⟩:=b
 unfold Gw at h
 simp only [Prod.mk.injEq] at h ⊢
 omega
theorem ab6 {w:Int} {es:List (P3 × Int)} (h:(es.map (·.1)).Nodup):((es.map (Gw w)).map (·.1)).Nodup:=by
 rw [List.map_map]
 refine Mx.Hq (Mx.Gq h) fun a ha b hb e=>?_
 have e1:=aeb e
 obtain ⟨i,hi⟩:=List.mem_iff_getElem?.mp ha
 obtain ⟨j,hj⟩:=List.mem_iff_getElem?.mp hb
 have:i=j:=ahQ (x:=a.1) h (by rw [List.getElem?_map,hi]; rfl) (by rw [List.getElem?_map,hj,e1]; rfl)
 subst this
 rw [hi] at hj
 exact Option.some.inj hj
theorem Xx (T:Txt K mg Ao Ac Ak Ax Ag):Cl P w K mg base 3 "turned_once" ["part"] (Vl Ao):=by
 refine T.Xr.ok K6 (fun vs H Q E h=>?_) (fun f cdv A outer s H vs Q E hr h=>?_)
 ·obtain ⟨a,n,w,d,h,es,rfl,_⟩:=h
  rfl
 ·obtain ⟨a,n,w,d,h,es,rfl,⟨dx,na,da,ha,hna,hda,hle⟩,hn,k⟩:=h
  have nd:=K6.nd
  have hu:=Jq hr
  refine ⟨_,Ad (Ba (i:=1) nd rfl (Or.inl rfl) Gj)
   (Ad (JN (CG PassesOwn.never rfl (Ho (Az (pv 0) rfl)) (Fx rfl (Bw (Be (i:=2) nd rfl (Or.inl rfl)) (Bw (Be (i:=3) nd rfl (Or.inl rfl)) Eg)))
    (Af (Ib hu (pv 1) (Rn (Aa (Ck Im (pv 2) Aq (fun _ _=>rfl)) (Aa (BW JT (BW JT (Az (pv 0) rfl) Aq) (Ck Im (pv 2) Aq (fun _ _=>rfl))) (Aa (Ck Im (pv 2) Aq (fun _ _=>rfl)) Ae)))) (pv 3) rfl))))
   (Af (Am (Qh (ac8 T) hr rfl (Aa (Az (pv 0) rfl) (Aa (Az (pv 0) rfl) (Aa (Az (pv 0) rfl) (Aa (Az (pv 0) rfl) (Aa (pv 1) Ae))))))))),?_⟩
  intro dc hdc
  have s1:Ai H (upd H dc (.dT [])):=Ai.new hdc
  have h1:upd H dc (.dT []) dc=some (.dT (Aw [])):=Ab
  generalize upd H dc (.dT [])=H1 at s1 h1
  have Xq:=s1 _ _ hda
  have ndc:dc ≠ da:=fun z=>by rw [z,hda] at hdc; cases hdc
  refine ⟨da,.dT (Aw es),Xq,True.intro,fun od=>?_⟩
  have ha1:upd H1 da (.frz od (.dT (Aw es))) a=_:=U3 (s1 _ _ ha) Xq (by intro z; cases z)
  have hc1:upd H1 da (.frz od (.dT (Aw es))) dc=some (.dT (Aw [])):=by rw [Ah ndc]; exact h1
  have hnt:=ab6 (w:=w) hn
  refine ⟨_,rfl,a,Ao,dx,_,_,rfl,ha1,T.Bo,T.Cj,rfl,da,od,_,rfl,Ab,FN (kvs:=Aw es)
   (fun i σ H'=>∃ v2 v3:Option V,σ=[some (.ref a),some (.ref dc),v2,v3]/\(∀ b o,upd H1 da (.frz od (.dT (Aw es))) b=some o->b ≠ dc->H' b=some o)/\H' dc=some (.dT (Aw ((es.map (Gw w)).take i))))
   ⟨none,none,rfl,fun b o e _=>e,hc1⟩ (fun i σ H' _ ⟨_,_,_,kp,_⟩=>kp _ _ Ab ndc.symm) ?_ ?_⟩
  ·rintro i kk v σ H' tt q hkv ⟨v2,v3',rfl,kp,hc⟩ hq hT
   obtain ⟨pl,c,hes,rfl,rfl⟩:=G9 hkv
   have sn:Ai H' (upd H' tt (.tup [.ref q,.int c])):=Ai.new hT
   refine ⟨tt,_,rfl,SqT.of Ab,rfl,_,_,rfl,_,_,rfl,rfl,?_⟩
   have hq2:=sn _ _ hq
   have hc2:=sn _ _ hc
   have ha2:=sn _ _ (kp _ _ ha1 (G7 ha1 hc1 (by intro z; cases z)))
   generalize upd H' tt (.tup [.ref q,.int c])=H2 at sn hq2 hc2 ha2
   refine ⟨_,rfl,_,rfl,_,rfl,q,_,_,_,rfl,rfl,SqT.of hq2,at_of (j:=1) rfl rfl,?_⟩
   refine ⟨_,rfl,a,Ao,dx,_,_,rfl,ha2,T.Bo,T.Eh,rfl,_,_,rfl,rfl,_,rfl,q,_,_,_,rfl,rfl,SqT.of hq2,at_of (j:=0) rfl rfl,_,_,rfl,rfl,?_⟩
   refine ⟨_,rfl,q,_,_,_,rfl,rfl,SqT.of hq2,at_of (j:=2) rfl rfl,?_⟩
   refine ⟨(by show 3 <= sizeLine; decide),fun p hp=>?_⟩
   have s3:Ai H2 (upd H2 p (.tup [.int pl.2.1,.int (w - 1 - pl.1),.int pl.2.2])):=Ai.new hp
   have hat:(es.map (Gw w))[i]? = some (Gw w (pl,c)):=by rw [List.getElem?_map,hes]; rfl
   have hfr:(Gw w (pl,c)).1 ∉ ((es.map (Gw w)).take i).map (·.1):=by
    rw [List.map_take]
    exact JG hnt (by rw [List.getElem?_map,hat]; rfl)
   refine ⟨dc,_,rfl,Uy.t (k:=t3 (Gw w (pl,c)).1) (s3 _ _ hc2) Ab (by rw [Cv,List.length_take,List.length_map]; exact Ci (by omega)),?_⟩
   refine ⟨_,_,rfl,fun b o e n=>?_,?_⟩
   ·rw [Ah n]
    exact s3 _ _ (sn _ _ (kp _ _ e n))
   ·rw [Ab,LR hfr,List.take_succ,hat]
    rfl
  ·rintro σ H' ⟨v2,v3',rfl,kp,hc⟩
   rw [Cv,<- List.length_map (f:=Gw w) (as:=es),List.take_length] at hc
   refine ⟨kp _ _ Ab ndc.symm,?_⟩
   have sb:Ai H (upd H' da (.dT (Aw es))):=fun b o e=>by
    by_cases z:b=da
    ·rw [z,Ab]; rw [z,hda] at e; exact e
    ·rw [Ah z]
     refine kp _ _ (by rw [Ah z]; exact s1 _ _ e) (fun y=>by rw [y,hdc] at e; cases e)
   have hc3:upd H' da (.dT (Aw es)) dc=some (.dT (Aw (es.map (Gw w)))):=by rw [Ah ndc]; exact hc
   generalize upd H' da (.dT (Aw es))=H3 at sb hc3
   have ha3:=sb _ _ ha
   refine ⟨_,rfl,a,Ao,dx,_,_,rfl,ha3,T.Bo,T.Gd,rfl,?_⟩
   refine ⟨_,rfl,a,Ao,dx,_,_,rfl,ha3,T.Bo,T.DK,rfl,?_⟩
   refine ⟨_,rfl,a,Ao,dx,_,_,rfl,ha3,T.Bo,T.Eh,rfl,?_⟩
   refine ⟨_,rfl,a,Ao,dx,_,_,rfl,ha3,T.Bo,T.DW,rfl,?_⟩
   refine ⟨_,rfl,?_⟩
   refine ZQ fun x H4 s4 ⟨dx',hx⟩=>?_
   exact k _ _ (sb.trans s4) ⟨x,rfl,dx',na,dc,hx,s4 _ _ (sb _ _ hna),s4 _ _ hc3,by rw [List.length_map]; exact hle⟩
def ajf (C:Addr) (H:Hp) (a:Addr) (p:Br.Part):Prop:=∃ es:List (P3 × Int),GR C H a (bV p.name) p.wide p.deep p.high es/\es.Perm (cellsOf p)
def aen (C:Addr):Sp:=fun vs H Q _=>∃ (a:Addr) (p:Br.Part) (r:Nat),vs=[.ref a,.int (r:Int)]/\ajf C H a p/\Full p/\r <= 1000/\Out H Q (fun v H'=>∃ x,v = .ref x/\ajf C H' x (p.turned r))
theorem Yg:Av ["part", "turns", "result", "turn"] ["part", "turns"] (Al aaP):=⟨rfl,rfl,rfl,by decide +kernel,rfl,by decide +kernel,by decide +kernel⟩
theorem agv (T:Txt K mg Ao Ac Ak Ax Ag):Cl P w K mg base 4 "turned" ["part", "turns"] (aen Ao):=by
 refine T.agq.ok Yg (fun vs H Q E h=>?_) (fun f cdv A outer s H vs Q E hr h=>?_)
 ·obtain ⟨a,p,r,rfl,_⟩:=h
  rfl
 ·obtain ⟨a,p,r,rfl,hp,hf,hr1,k⟩:=h
  have nd:=Yg.nd
  refine ⟨_,Ad (Ba (i:=2) nd rfl (Or.inl rfl) (pv 0)) (Ad (CG PassesOwn.never rfl (Mu rfl T.Qw (Aa (pv 1) Ae)) (Be (i:=3) nd rfl (Or.inl rfl))
   (Af (Ba (i:=2) nd rfl (Or.inl rfl) (Bm (Xx T) hr rfl (Aa (pv 2) Ae))))) (Af (Am (pv 2)))),?_⟩
  refine ⟨_,rfl,_,rfl,_,rfl,by omega,by omega,Js (n:=_) (fun i σ H'=>∃ (x:Addr) (v3:Option V),σ=[some (.ref a),some (.int (r:Int)),some (.ref x),v3]/\Ai H H'/\ajf Ao H' x (p.turned i))
   ⟨a,none,rfl,Ai.refl _,hp⟩ ?_ ?_⟩
  ·rintro i σ H' hi ⟨x,v3',rfl,sm,es,hx,hperm⟩
   have hfi:=Mx.GZ hf i
   refine ⟨_,rfl,x,_,_,_,_,es,rfl,hx,(hperm.map _).nodup_iff.mpr (Mx.keys_nodup _),fun v H1 s1 ⟨y,e,hy⟩=>?_⟩
   subst e
   exact ⟨y,_,rfl,sm.trans s1,_,hy,(hperm.map _).trans (Mx.XS hfi)⟩
  ·rintro σ H' ⟨x,v3',rfl,sm,hx⟩
   refine ⟨_,rfl,k _ _ sm ⟨x,rfl,?_⟩⟩
   rw [Int.toNat_natCast] at hx
   exact hx
end
open Mx (P3 split Gr BK Dz)
open Br (Bytes)
theorem abO {t:Bytes} {i:Nat} {x:V} (h:(bV t)[i]? = some x):∃ c,t[i]? = some c/\x = .int (c.toNat:Int):=by
 unfold bV at h
 rw [List.getElem?_map] at h
 cases e:t[i]? with
 | none=>rw [e] at h; cases h
 | some c=>rw [e] at h; exact ⟨c,rfl,(Option.some.inj h).symm⟩
abbrev N5 (H:Hp) (qs:List Addr) (rs:List Bytes):Prop:=Paired (fun q r=>H q=some (.tup (bV r))) qs rs
def W2 (H:Hp) (v:V) (rs:List Bytes):Prop:=∃ p qs,v = .ref p/\H p=some (.lst (qs.map V.ref))/\N5 H qs rs
theorem Fb {H H':Hp} (s:Ai H H'):∀ {qs:List Addr} {rs:List Bytes},N5 H qs rs->N5 H' qs rs
 | _,_,.nil=>.nil
 | _,_,.cons h t=>.cons (s _ _ h) (Fb s t)
theorem Gg {H:Hp} {a:Addr} {o:HO} (ha:∀ xs,H a ≠ some (.tup xs)):∀ {qs:List Addr} {rs:List Bytes},N5 H qs rs->N5 (upd H a o) qs rs
 | _,_,.nil=>.nil
 | _,_,.cons h t=>.cons (by rw [Ah (fun z=>ha _ (z ▸ h))]; exact h) (Gg ha t)
def Cw (d:UInt8) (st:List Bytes × Bytes) (c:UInt8):List Bytes × Bytes:=if c=d then (st.1 ++ [st.2],[]) else (st.1,st.2 ++ [c])
theorem QS (d:UInt8):∀ (t:Bytes) (ps:List Bytes) (p:Bytes),(t.foldl (Cw d) (ps,p)).1 ++ [(t.foldl (Cw d) (ps,p)).2] = ps ++ (match split d t with | []=>[p] | q :: qs=>(p ++ q) :: qs)
 | [],ps,p=>by simp [split]
 | c :: r,ps,p=>by
  rw [List.foldl_cons]
  unfold split
  by_cases e:c=d
  ·have e1:Cw d (ps,p) c=(ps ++ [p],[]):=by unfold Cw; rw [if_pos e]
   rw [e1,QS d r,if_pos e]
   cases e2:split d r with
   | nil=>exact absurd e2 (Mx.Er d r)
   | cons q qs=>simp
  ·have e1:Cw d (ps,p) c=(ps,p ++ [c]):=by unfold Cw; rw [if_neg e]
   rw [e1,QS d r,if_neg e]
   cases e2:split d r with
   | nil=>exact absurd e2 (Mx.Er d r)
   | cons q qs=>simp
theorem aaD (d:UInt8) (t:Bytes):split d t=(t.foldl (Cw d) ([],[])).1 ++ [(t.foldl (Cw d) ([],[])).2]:=by
 rw [QS]
 cases e2:split d t with
 | nil=>exact absurd e2 (Mx.Er d t)
 | cons q qs=>simp
theorem Mq (d:UInt8) (t:Bytes):(t.foldl (Cw d) ([],[])).1.length <= t.length/\(t.foldl (Cw d) ([],[])).2.length <= t.length:=by
 have key:∀ (t:Bytes) (ps:List Bytes) (p:Bytes),(t.foldl (Cw d) (ps,p)).1.length <= ps.length + t.length/\(t.foldl (Cw d) (ps,p)).2.length <= p.length + t.length:=by
  intro t
  induction t with
  | nil=>intro ps p; exact ⟨Nat.le_refl _,Nat.le_refl _⟩
  | cons c r ih =>
   intro ps p
   rw [List.foldl_cons]
   by_cases e:c=d
   ·have e1:Cw d (ps,p) c=(ps ++ [p],[]):=by unfold Cw; rw [if_pos e]
    rw [e1]
    have:=ih (ps ++ [p]) []
    simp at this ⊢
    omega
   ·have e1:Cw d (ps,p) c=(ps,p ++ [c]):=by unfold Cw; rw [if_neg e]
    rw [e1]
    have:=ih ps (p ++ [c])
    simp at this ⊢
    omega
 have:=key t [] []
 simpa using this
section
variable {P:Program} {w:World} {K:PySem.W.Frag} {mg:Str->Option Value} {base:Heap} {Ao Ac Ak Ax Ag:Addr}
def aaI:Sp:=fun vs H Q _=>∃ x:Str,vs=[.str x]/\x.cps.size <= 1000/\Out H Q (fun v H'=>∃ p,v = .ref p/\H' p=some (.tup (x.cps.toList.map fun c=>.int ((c:Nat):Int))))
theorem Sh:Av ["letters", "letter"] ["letters"] (Al Od):=⟨rfl,rfl,rfl,by decide +kernel,rfl,by decide +kernel,by decide +kernel⟩
theorem OD (T:Txt K mg Ao Ac Ak Ax Ag):Cl P w K mg base 1 "bytes_of" ["letters"] aaI:=by
 refine T.ac3.ok Sh (fun vs H Q E h=>?_) (fun f cdv A outer s H vs Q E hr h=>?_)
 ·obtain ⟨x,rfl,_⟩:=h
  rfl
 ·obtain ⟨x,rfl,hx,k⟩:=h
  have nd:=Sh.nd
  refine ⟨_,Af (Am (Jl Io (by rfl) T.aap Mi (Aa (aaX rfl nd (aim (pv 0)) (HF (own:=[("letter",1)]) (show aao ["letters", "letter"] (Al Od) _ [("letter",1)] = true from by decide +kernel))
   (fun _ _ _ _ _=>Be (i:=1) nd rfl (Or.inl rfl)) (fun _ _ _ _ _=>JM) (fun _ _ _ _ _=>Bc abB (by rfl) T.ahV YZ (Aa (pv 1) Ae))) Ae))),?_⟩
  refine ⟨_,rfl,x,rfl,fun D hD=>?_⟩
  refine af5 (n:=x.cps.size) (fun j H2=>Ai H H2/\H2 D=some (.lst ((x.cps.toList.take j).map fun c=>.int ((c:Nat):Int)))) ⟨Ai.new hD,Ab⟩
   (fun j H2 hj p=>hj) (fun H2 p=>Nat.le_refl _) ?_ ?_
  ·rintro j y H2 H3 hj ⟨p1,p2⟩ ⟨rfl,c,hc,rfl⟩
   refine ⟨rfl,Ol ?_⟩
   refine ⟨_,rfl,_,rfl,rfl,_,p2,?_,Ai.Gf hD p1,?_⟩
   ·rw [List.length_map,List.length_take]; exact Ci (by omega)
   ·rw [Ab]
    have hc':x.cps.toList[j]? = some c:=by rw [Array.getElem?_toList]; exact hc
    rw [List.take_succ,hc',List.map_append]
    rfl
  ·rintro H2 ⟨p1,p2⟩
   have:x.cps.toList.take x.cps.size=x.cps.toList:=by rw [<- Array.length_toList]; exact List.take_length
   rw [this] at p2
   refine ⟨D,_,rfl,.inl ⟨SqL.of p2,fun l hl=>?_⟩⟩
   exact k _ _ (p1.trans (Ai.new hl)) ⟨l,rfl,Ab⟩
def Pj (K:PySem.W.Frag):Sp:=fun vs H Q _=>∃ (a:Addr) (t:Bytes) (d:UInt8),vs=[.ref a,.int (d.toNat:Int)]/\(SqL K H a (bV t) \/ SqT K H a (bV t))/\t.length <= 1000000/\Out H Q (fun v H'=>W2 H' v (split d t))
theorem HY:Av ["signs", "divider", "pieces", "piece", "sign"] ["signs", "divider"] (Al Jj):=⟨rfl,rfl,rfl,by decide +kernel,rfl,by decide +kernel,by decide +kernel⟩
theorem Jv (T:Txt K mg Ao Ac Ak Ax Ag):Cl P w K mg base 1 "pieces_between" ["signs", "divider"] (Pj K):=by
 refine T.RG.ok HY (fun vs H Q E h=>?_) (fun f cdv A outer s H vs Q E hr h=>?_)
 ·obtain ⟨a,t,d,rfl,_⟩:=h
  rfl
 ·obtain ⟨a,t,d,rfl,hS,hlen,k⟩:=h
  have nd:=HY.nd
  refine ⟨_,Ad (Ba (i:=2) nd rfl (Or.inl rfl) (Cq Ae)) (Ad (Ba (i:=3) nd rfl (Or.inl rfl) (Cq Ae))
   (Ad (CG PassesOwn.never rfl (PI.or (GX (pv 0)) (acu (pv 0))) (Be (i:=4) nd rfl (Or.inl rfl))
    (Af (Bj (Bd Gp (pv 4) (pv 1) (Bg _))
     (Ad (JP (S6 PySem.F.plainAttrs_list PySem.F.slot_list_append PySem.F.type_list_append GP (pv 2) (Aa (Jl Io (by rfl) T.aap Mi (Aa (pv 3) Ae)) Ae))) (Af (Ba (i:=3) nd rfl (Or.inl rfl) (Cq Ae))))
     (Af (JP (S6 PySem.F.plainAttrs_list PySem.F.slot_list_append PySem.F.type_list_append GP (pv 3) (Aa (pv 4) Ae)))))))
   (Ad (JP (S6 PySem.F.plainAttrs_list PySem.F.slot_list_append PySem.F.type_list_append GP (pv 2) (Aa (Jl Io (by rfl) T.aap Mi (Aa (pv 3) Ae)) Ae)))
   (Af (Am (pv 2)))))),?_⟩
  refine ⟨Nat.zero_le _,fun lp nlp=>?_⟩
  refine ⟨Nat.zero_le _,fun lq0 aha=>?_⟩
  have hsp:=aaD d t
  have s1:Ai H (upd H lp (.lst [])):=Ai.new nlp
  have s2:Ai (upd H lp (.lst [])) (upd (upd H lp (.lst [])) lq0 (.lst [])):=Ai.new aha
  have nq0:lq0 ≠ lp:=fun z=>by rw [z,Ab] at aha; cases aha
  have aiR:upd (upd H lp (.lst [])) lq0 (.lst []) lp=some (.lst []):=s2 _ _ Ab
  have aiQ:upd (upd H lp (.lst [])) lq0 (.lst []) lq0=some (.lst []):=Ab
  have sm0:=s1.trans s2
  have ahP:=s1.free aha
  generalize upd (upd H lp (.lst [])) lq0 (.lst [])=H1 at sm0 aiR aiQ
  rcases hS with hS | hS
  ·refine .inl ⟨_,rfl,a,rfl,⟨_,sm0.seq hS⟩,Hz (K:=K) (a:=a) (xs:=bV t)
    (fun i σ H'=>∃ (lq:Addr) (v4:Option V) (ps:List Addr),σ=[some (.ref a),some (.int (d.toNat:Int)),some (.ref lp),some (.ref lq),v4]/\Ai H H'/\H' lp=some (.lst (ps.map V.ref))/\N5 H' ps ((t.take i).foldl (Cw d) ([],[])).1 /\
     H' lq=some (.lst (bV ((t.take i).foldl (Cw d) ([],[])).2))/\lq ≠ lp/\H lq=none)
    ⟨lq0,none,[],rfl,sm0,aiR,.nil,aiQ,nq0,ahP⟩ (fun i σ H' _ ⟨_,_,_,_,sm,_⟩=>sm.seq hS) ?_ ?_⟩
   ·rintro i x σ H' hi ⟨lq,v4,ps,rfl,sm,hlp,hps,hlq,nq,hql⟩
    obtain ⟨c,hc,rfl⟩:=abO hi
    have hstep:(t.take (i + 1)).foldl (Cw d) ([],[])=Cw d ((t.take i).foldl (Cw d) ([],[])) c:=by rw [List.take_succ,hc,List.foldl_append]; rfl
    have hil:i < t.length:=(List.getElem?_eq_some_iff.mp hc).1
    have hst:=Mq d (t.take i)
    rw [List.length_take] at hst
    generalize (t.take i).foldl (Cw d) ([],[])=st at hstep hps hlq hst
    have hpl:=Bh hps
    refine ⟨_,rfl,_,rfl,rfl,_,rfl,?_⟩
    refine BJ (fun h0=>?_) (fun h0=>?_)
    ·have ec:c=d:=by
      have:=of_decide_eq_true h0
      injection this with this
      exact UInt8.toNat_inj.mp (by omega)
     refine ⟨_,rfl,.inl ⟨rfl,_,SqL.of hlp⟩,_,rfl,lq,_,rfl,.inl ⟨SqL.of hlq,fun tp htp=>?_⟩⟩
     have s1:Ai H' (upd H' tp (.tup (bV st.2))):=Ai.new htp
     refine ⟨lp,_,_,rfl,rfl,s1 _ _ hlp,(by rw [List.length_map]; exact Ci (by omega)),?_⟩
     refine ⟨(by show 0 <= sizeLine; exact Nat.zero_le _),fun lq2 ZW=>?_⟩
     have n2:H lq2=none:=by
      have:=Ai.free (Ai.Gf nlp (sm.trans s1)) ZW
      exact this
     have ne2:lq2 ≠ lp:=fun z=>by rw [z,Ab] at ZW; cases ZW
     refine ⟨lq2,_,ps ++ [tp],rfl,?_,?_,?_,Ab.trans (by rw [hstep]; unfold Cw; rw [if_pos ec]; rfl),ne2,n2⟩
     ·exact Ai.Gf n2 (Ai.Gf nlp (sm.trans s1))
     ·rw [Ah ne2.symm,Ab,List.map_append]; rfl
     ·rw [hstep]
      unfold Cw
      rw [if_pos ec]
      have q1:∀ xs,upd H' tp (.tup (bV st.2)) lp ≠ some (.tup xs):=fun xs z=>by rw [s1 _ _ hlp] at z; cases z
      have q2:∀ xs,upd (upd H' tp (.tup (bV st.2))) lp (.lst (ps.map V.ref ++ [.ref tp])) lq2 ≠ some (.tup xs):=fun xs z=>by rw [ZW] at z; cases z
      refine Gg q2 (Gg q1 (DQ (Fb s1 hps) (.cons Ab .nil)))
    ·have ec:c ≠ d:=fun z=>h0 (by rw [z]; simp)
     refine ⟨_,rfl,.inl ⟨rfl,_,SqL.of hlq⟩,_,rfl,lq,_,_,rfl,rfl,hlq,(by unfold bV; rw [List.length_map]; exact Ci (by omega)),?_⟩
     refine ⟨lq,_,ps,rfl,Ai.Gf hql sm,(by rw [Ah nq.symm]; exact hlp),?_,Ab.trans ?_,nq,hql⟩
     ·rw [hstep]
      unfold Cw
      rw [if_neg ec]
      exact Gg (fun xs z=>by rw [hlq] at z; cases z) hps
     ·rw [hstep]
      unfold Cw bV
      rw [if_neg ec,List.map_append]
      rfl
   ·rintro σ H' ⟨lq,v4,ps,rfl,sm,hlp,hps,hlq,nq,hql⟩
    have el:(bV t).length=t.length:=List.length_map _
    rw [el,List.take_length] at hps hlq
    have hst:=Mq d t
    rw [hsp] at k
    generalize t.foldl (Cw d) ([],[])=st at hps hlq hst k
    have hpl:=Bh hps
    refine ⟨_,rfl,.inl ⟨rfl,_,SqL.of hlp⟩,_,rfl,lq,_,rfl,.inl ⟨SqL.of hlq,fun tp htp=>?_⟩⟩
    have s1:Ai H' (upd H' tp (.tup (bV st.2))):=Ai.new htp
    refine ⟨lp,_,_,rfl,rfl,s1 _ _ hlp,(by rw [List.length_map]; exact Ci (by omega)),?_⟩
    refine ⟨_,rfl,?_⟩
    have q1:∀ xs,upd H' tp (.tup (bV st.2)) lp ≠ some (.tup xs):=fun xs z=>by rw [s1 _ _ hlp] at z; cases z
    refine k _ _ (Ai.Gf nlp (sm.trans s1)) ⟨lp,ps ++ [tp],rfl,Ab.trans (by rw [List.map_append]; rfl),?_⟩
    exact Gg q1 (DQ (Fb s1 hps) (.cons Ab .nil))
  ·refine .inr ⟨_,rfl,a,rfl,⟨_,sm0.sqT hS⟩,adM (K:=K) (a:=a) (xs:=bV t)
    (fun i σ H'=>∃ (lq:Addr) (v4:Option V) (ps:List Addr),σ=[some (.ref a),some (.int (d.toNat:Int)),some (.ref lp),some (.ref lq),v4]/\Ai H H'/\H' lp=some (.lst (ps.map V.ref))/\N5 H' ps ((t.take i).foldl (Cw d) ([],[])).1 /\
     H' lq=some (.lst (bV ((t.take i).foldl (Cw d) ([],[])).2))/\lq ≠ lp/\H lq=none)
    ⟨lq0,none,[],rfl,sm0,aiR,.nil,aiQ,nq0,ahP⟩ (fun i σ H' _ ⟨_,_,_,_,sm,_⟩=>sm.sqT hS) ?_ ?_⟩
   ·rintro i x σ H' hi ⟨lq,v4,ps,rfl,sm,hlp,hps,hlq,nq,hql⟩
    obtain ⟨c,hc,rfl⟩:=abO hi
    have hstep:(t.take (i + 1)).foldl (Cw d) ([],[])=Cw d ((t.take i).foldl (Cw d) ([],[])) c:=by rw [List.take_succ,hc,List.foldl_append]; rfl
    have hil:i < t.length:=(List.getElem?_eq_some_iff.mp hc).1
    have hst:=Mq d (t.take i)
    rw [List.length_take] at hst
    generalize (t.take i).foldl (Cw d) ([],[])=st at hstep hps hlq hst
    have hpl:=Bh hps
    refine ⟨_,rfl,_,rfl,rfl,_,rfl,?_⟩
    refine BJ (fun h0=>?_) (fun h0=>?_)
    ·have ec:c=d:=by
      have:=of_decide_eq_true h0
      injection this with this
      exact UInt8.toNat_inj.mp (by omega)
     refine ⟨_,rfl,.inl ⟨rfl,_,SqL.of hlp⟩,_,rfl,lq,_,rfl,.inl ⟨SqL.of hlq,fun tp htp=>?_⟩⟩
     have s1:Ai H' (upd H' tp (.tup (bV st.2))):=Ai.new htp
     refine ⟨lp,_,_,rfl,rfl,s1 _ _ hlp,(by rw [List.length_map]; exact Ci (by omega)),?_⟩
     refine ⟨(by show 0 <= sizeLine; exact Nat.zero_le _),fun lq2 ZW=>?_⟩
     have n2:H lq2=none:=by
      have:=Ai.free (Ai.Gf nlp (sm.trans s1)) ZW
      exact this
     have ne2:lq2 ≠ lp:=fun z=>by rw [z,Ab] at ZW; cases ZW
     refine ⟨lq2,_,ps ++ [tp],rfl,?_,?_,?_,Ab.trans (by rw [hstep]; unfold Cw; rw [if_pos ec]; rfl),ne2,n2⟩
     ·exact Ai.Gf n2 (Ai.Gf nlp (sm.trans s1))
     ·rw [Ah ne2.symm,Ab,List.map_append]; rfl
     ·rw [hstep]
      unfold Cw
      rw [if_pos ec]
      have q1:∀ xs,upd H' tp (.tup (bV st.2)) lp ≠ some (.tup xs):=fun xs z=>by rw [s1 _ _ hlp] at z; cases z
      have q2:∀ xs,upd (upd H' tp (.tup (bV st.2))) lp (.lst (ps.map V.ref ++ [.ref tp])) lq2 ≠ some (.tup xs):=fun xs z=>by rw [ZW] at z; cases z
      refine Gg q2 (Gg q1 (DQ (Fb s1 hps) (.cons Ab .nil)))
    ·have ec:c ≠ d:=fun z=>h0 (by rw [z]; simp)
     refine ⟨_,rfl,.inl ⟨rfl,_,SqL.of hlq⟩,_,rfl,lq,_,_,rfl,rfl,hlq,(by unfold bV; rw [List.length_map]; exact Ci (by omega)),?_⟩
     refine ⟨lq,_,ps,rfl,Ai.Gf hql sm,(by rw [Ah nq.symm]; exact hlp),?_,Ab.trans ?_,nq,hql⟩
     ·rw [hstep]
      unfold Cw
      rw [if_neg ec]
      exact Gg (fun xs z=>by rw [hlq] at z; cases z) hps
     ·rw [hstep]
      unfold Cw bV
      rw [if_neg ec,List.map_append]
      rfl
   ·rintro σ H' ⟨lq,v4,ps,rfl,sm,hlp,hps,hlq,nq,hql⟩
    have el:(bV t).length=t.length:=List.length_map _
    rw [el,List.take_length] at hps hlq
    have hst:=Mq d t
    rw [hsp] at k
    generalize t.foldl (Cw d) ([],[])=st at hps hlq hst k
    have hpl:=Bh hps
    refine ⟨_,rfl,.inl ⟨rfl,_,SqL.of hlp⟩,_,rfl,lq,_,rfl,.inl ⟨SqL.of hlq,fun tp htp=>?_⟩⟩
    have s1:Ai H' (upd H' tp (.tup (bV st.2))):=Ai.new htp
    refine ⟨lp,_,_,rfl,rfl,s1 _ _ hlp,(by rw [List.length_map]; exact Ci (by omega)),?_⟩
    refine ⟨_,rfl,?_⟩
    have q1:∀ xs,upd H' tp (.tup (bV st.2)) lp ≠ some (.tup xs):=fun xs z=>by rw [s1 _ _ hlp] at z; cases z
    refine k _ _ (Ai.Gf nlp (sm.trans s1)) ⟨lp,ps ++ [tp],rfl,Ab.trans (by rw [List.map_append]; rfl),?_⟩
    exact Gg q1 (DQ (Fb s1 hps) (.cons Ab .nil))
end
open Mx (P3 split Gr BK Dz isNm)
open Br (Bytes isLow isDigit)
def Lk:Option Nat->V
 | none=>.non
 | some n=>.int (n:Int)
theorem FP (t:Bytes):(bV t).length=t.length:=List.length_map _
section
variable {P:Program} {w:World} {K:PySem.W.Frag} {mg:Str->Option Value} {base:Heap} {Ao Ac Ak Ax Ag:Addr}
def aje (t:Bytes) (v:V) (H:Hp):Prop:=∃ rs tl,split 10 t=rs ++ [tl]/\if tl=[] then W2 H v rs else v = .non
def ace (K:PySem.W.Frag):Sp:=fun vs H Q _=>∃ (a:Addr) (t:Bytes),vs=[.ref a]/\SqL K H a (bV t)/\t.length <= 1000000/\Out H Q (aje t)
theorem Vs:Av ["text", "pieces"] ["text"] (Al Yh):=⟨rfl,rfl,rfl,by decide +kernel,rfl,by decide +kernel,by decide +kernel⟩
theorem agr (xs:List V) (v:V):Ot (xs ++ [v]) none (some (-1))=xs:=by
 have e1:HT.sIx (xs ++ [v]).length (xs ++ [v]).length (some (-1))=xs.length:=by
  unfold HT.sIx
  dsimp only
  rw [if_pos (by decide),List.length_append,List.length_singleton]
  omega
 unfold Ot
 rw [e1,HT.aaQ]
 simp
theorem Rr (m:Nat) (c:UInt8) (r:Bytes):Gr m (c :: r)=(isLow c && (decide (r.length <= m) && r.all isNm)):=rfl
theorem YS (T:Txt K mg Ao Ac Ak Ax Ag):Cl P w K mg base 2 "rows_of" ["text"] (ace K):=by
 refine T.aeT.ok Vs (fun vs H Q E h=>?_) (fun f cdv A outer s H vs Q E hr h=>?_)
 ·obtain ⟨a,t,rfl,_⟩:=h
  rfl
 ·obtain ⟨a,t,rfl,hS,hlen,k⟩:=h
  have nd:=Vs.nd
  refine ⟨_,Ad (Ba (i:=1) nd rfl (Or.inl rfl) (Bm (Jv T) hr rfl (Aa (pv 0) (Aa (Cp T.XQ rfl) Ae))))
   (Ad (Bj (Bd Ln (Bc Ay (by rfl) T.CJ PySem.boot_len (Aa (Ck BP (pv 1) (Qe Oc Aq) (fun _ _=>rfl)) Ae)) Aq (Bg _)) (Af (Am BZ)) Ar)
   (Af (Am (Qg Zy (pv 1) ZJ (Qc (Qe Oc Aq)))))),?_⟩
  refine ⟨_,rfl,a,t,10,rfl,.inl hS,hlen,fun v H1 s1 ⟨p,qs,ev,hp,hr1⟩=>?_⟩
  subst ev
  have hne:split 10 t ≠ []:=Mx.Er 10 t
  obtain ⟨rs,tl,et⟩:∃ rs tl,split 10 t=rs ++ [tl]:=⟨_,_,(List.dropLast_concat_getLast hne).symm⟩
  rw [et] at hr1
  have hql:=Bh hr1
  obtain ⟨qs0,q,rfl⟩:∃ qs0 q,qs=qs0 ++ [q]:=⟨qs.dropLast,qs.getLast (List.length_pos_iff.mp (by rw [hql]; simp)),(List.dropLast_concat_getLast _).symm⟩
  obtain ⟨hr0,hq⟩:=Lg (by simpa using hql) hr1
  have hp:H1 p=some (.lst (qs0.map V.ref ++ [.ref q])):=by rw [hp,List.map_append]; rfl
  refine ⟨_,rfl,_,rfl,p,_,_,_,rfl,rfl,SqL.of hp,abP _ _,q,_,rfl,.inr (SqT.of hq),_,_,rfl,rfl,_,rfl,?_⟩
  rw [FP]
  refine BJ (fun h0=>?_) (fun h0=>?_)
  ·refine k _ _ s1 ⟨rs,tl,et,?_⟩
   have:tl ≠ []:=fun z=>by rw [z] at h0; simp at h0
   rw [if_neg this]
  ·refine ⟨_,rfl,_,rfl,_,rfl,p,_,rfl,SqL.of hp,fun l hl=>?_⟩
   have sn:=Ai.new (o:=.lst (Ot (qs0.map V.ref ++ [.ref q]) none (some (-1)))) hl
   refine k _ _ (s1.trans sn) ⟨rs,tl,et,?_⟩
   have:tl=[]:=by
    cases tl with
    | nil=>rfl
    | cons a b=>exact absurd (by simp) h0
   rw [if_pos this]
   exact ⟨l,qs0,rfl,by rw [Ab,agr],Fb sn hr0⟩
def aaG (K:PySem.W.Frag):Sp:=fun vs H Q _=>∃ (a:Addr) (t:Bytes),vs=[.ref a]/\H a=some (.tup (bV t))/\t.length <= 1000000/\Out H Q (fun v H'=>W2 H' v (split 32 t))
theorem aaK:Av ["row"] ["row"] (Al Vw):=⟨rfl,rfl,rfl,by decide +kernel,rfl,by decide +kernel,by decide +kernel⟩
theorem Ou (T:Txt K mg Ao Ac Ak Ax Ag):Cl P w K mg base 2 "words_of" ["row"] (aaG K):=by
 refine T.acZ.ok aaK (fun vs H Q E h=>?_) (fun f cdv A outer s H vs Q E hr h=>?_)
 ·obtain ⟨a,t,rfl,_⟩:=h
  rfl
 ·obtain ⟨a,t,rfl,hS,hlen,k⟩:=h
  refine ⟨_,Af (Am (Bm (Jv T) hr rfl (Aa (pv 0) (Aa (Cp T.adi rfl) Ae)))),?_⟩
  exact ⟨_,rfl,a,t,32,rfl,.inr (SqT.of hS),hlen,k⟩
def inR (lo hi c:Int):Bool:=decide (lo <= c) && decide (c <= hi)
theorem ZF:Av ["sign"] ["sign"] (Al SJ):=⟨rfl,rfl,rfl,by decide +kernel,rfl,by decide +kernel,by decide +kernel⟩
theorem TV (T:Txt K mg Ao Ac Ak Ax Ag):Cl P w K mg base 1 "is_letter" ["sign"] (Vp (inR 97 122)):=by
 refine T.abx.ok ZF (fun vs H Q E h=>?_) (fun f cdv A outer s H vs Q E hr h=>?_)
 ·obtain ⟨c,rfl,_⟩:=h
  rfl
 ·obtain ⟨c,rfl,k⟩:=h
  refine ⟨_,Af (Am (VN Kg Kg (Cp T.ad4 rfl) (pv 0) (Cp T.ad3 rfl))),?_⟩
  refine ⟨_,rfl,_,_,rfl,rfl,_,rfl,?_⟩
  refine BJ (fun h0=>⟨_,_,rfl,rfl,k _ _ (Ai.refl _) (by unfold inR; rw [h0]; rfl)⟩) (fun h0=>k _ _ (Ai.refl _) (by unfold inR; rw [Bool.not_eq_true] at h0; rw [h0]; rfl))
theorem aaM:Av ["sign"] ["sign"] (Al Vx):=⟨rfl,rfl,rfl,by decide +kernel,rfl,by decide +kernel,by decide +kernel⟩
theorem Ox (T:Txt K mg Ao Ac Ak Ax Ag):Cl P w K mg base 1 "is_digit" ["sign"] (Vp (inR 48 57)):=by
 refine T.ac0.ok aaM (fun vs H Q E h=>?_) (fun f cdv A outer s H vs Q E hr h=>?_)
 ·obtain ⟨c,rfl,_⟩:=h
  rfl
 ·obtain ⟨c,rfl,k⟩:=h
  refine ⟨_,Af (Am (VN Kg Kg (Cp T.O4 rfl) (pv 0) (Cp T.ah0 rfl))),?_⟩
  refine ⟨_,rfl,_,_,rfl,rfl,_,rfl,?_⟩
  refine BJ (fun h0=>⟨_,_,rfl,rfl,k _ _ (Ai.refl _) (by unfold inR; rw [h0]; rfl)⟩) (fun h0=>k _ _ (Ai.refl _) (by unfold inR; rw [Bool.not_eq_true] at h0; rw [h0]; rfl))
theorem adJ (c:UInt8):inR 97 122 (c.toNat:Int)=isLow c:=by
 unfold inR isLow
 congr 1 <;> (rw [decide_eq_decide]; omega)
theorem ZV (c:UInt8):inR 48 57 (c.toNat:Int)=isDigit c:=by
 unfold inR isDigit
 congr 1 <;> (rw [decide_eq_decide]; omega)
def ach:Sp:=fun vs H Q _=>∃ (a:Addr) (t:Bytes) (m:Nat),vs=[.ref a,.int ((m + 1:Nat):Int)]/\H a=some (.tup (bV t))/\t.length <= 1000000/\Out H Q (fun v _=>v = .bl (Gr m t))
theorem Vv:Av ["signs", "longest", "sign"] ["signs", "longest"] (Al Rg):=⟨rfl,rfl,rfl,by decide +kernel,rfl,by decide +kernel,by decide +kernel⟩
theorem YT (T:Txt K mg Ao Ac Ak Ax Ag):Cl P w K mg base 2 "is_name" ["signs", "longest"] ach:=by
 refine T.aeW.ok Vv (fun vs H Q E h=>?_) (fun f cdv A outer s H vs Q E hr h=>?_)
 ·obtain ⟨a,t,m,rfl,_⟩:=h
  rfl
 ·obtain ⟨a,t,m,rfl,ha,hlen,k⟩:=h
  have nd:=Vv.nd
  refine ⟨_,Ad (Bj (PW.pt (Eu (Bd S9 (Bc Ay (by rfl) T.CJ PySem.boot_len (Aa (pv 0) Ae)) Aq (Bg _)) (Fi (Bd Ln (Bc Ay (by rfl) T.CJ PySem.boot_len (Aa (pv 0) Ae)) (pv 1) (Bg _))))) (Af (Am Dy)) Ar)
   (Ad (Bj (Gh (DP (Bm (TV T) hr rfl (Aa (Ck Im (pv 0) Aq (fun _ _=>rfl)) Ae)))) (Af (Am Dy)) Ar)
   (Af (Am (Bc (ags rfl) (by rfl) T.ahW Y0 (Aa (aaX rfl nd (acu (pv 0)) (HF (own:=[("sign",2)]) (show aao ["signs", "longest", "sign"] (Al Rg) _ [("sign",2)] = true from by decide +kernel))
    (fun _ _ _ _ _=>Be (i:=2) nd rfl (Or.inl rfl)) (fun _ _ _ _ _=>JM) (fun _ _ _ _ _=>ajE (Bm (TV T) hr rfl (Aa (pv 2) Ae)) (Ro (Bm (Ox T) hr rfl (Aa (pv 2) Ae))))) Ae))))),?_⟩
  refine ⟨_,rfl,a,_,rfl,.inr (SqT.of ha),_,_,rfl,rfl,_,rfl,?_⟩
  rw [FP]
  refine BJ (fun h0=>?_) (fun h0=>?_)
  ·refine Dm (k _ _ (Ai.refl _) ?_)
   have:t=[]:=List.length_eq_zero_iff.mp (by have:=of_decide_eq_true h0; omega)
   rw [this]; rfl
  obtain ⟨c,r,rfl⟩:∃ c r,t=c :: r:=by
   cases t with
   | nil=>exact absurd rfl h0
   | cons c r=>exact ⟨c,r,rfl⟩
  refine ⟨_,rfl,a,_,rfl,.inr (SqT.of ha),_,rfl,_,_,rfl,rfl,_,rfl,?_⟩
  rw [FP]
  refine BJ (fun h1=>?_) (fun h1=>?_)
  ·refine k _ _ (Ai.refl _) (congrArg V.bl ?_)
   have:=of_decide_eq_true h1
   rw [List.length_cons] at this
   rw [Rr,decide_eq_false (by omega:¬ r.length <= m)]
   cases isLow c <;> rfl
  have hrm:r.length <= m:=by
   have:=of_decide_eq_false (Bool.not_eq_true _ ▸ h1)
   rw [List.length_cons] at this
   omega
  refine ⟨_,rfl,a,_,_,_,rfl,rfl,SqT.of ha,at_of (j:=0) rfl rfl,_,rfl,fun v H1 s1 ev=>⟨_,ev,?_⟩⟩
  rw [adJ]
  refine BJ (fun h2=>?_) (fun h2=>?_)
  ·refine k _ _ s1 (congrArg V.bl ?_)
   rw [Bool.not_eq_true'] at h2
   rw [Rr,h2]; rfl
  have hlow:isLow c=true:=by simpa using h2
  refine ⟨_,rfl,a,rfl,⟨_,SqT.of (s1 _ _ ha)⟩,fun D hD=>?_⟩
  refine aiD (K:=K) (a:=a) (xs:=bV (c :: r)) (fun j H2=>Ai H1 H2/\H2 D=some (.lst (((c :: r).take j).map fun x=>.bl (isNm x)))) ⟨Ai.new hD,Ab⟩
   (fun j H2 _ p=>SqT.of (p.1 _ _ (s1 _ _ ha))) ?_ ?_
  ·rintro j x H2 hj ⟨p1,p2⟩
   obtain ⟨b,hb,rfl⟩:=abO hj
   have hjl:j < (c :: r).length:=(List.getElem?_eq_some_iff.mp hb).1
   have fin:∀ H3,Ai H2 H3->∃ acc,H3 D=some (.lst acc)/\acc.length < sizeLine/\Ai H1 (upd H3 D (.lst (acc ++ [.bl (isNm b)])))/\upd H3 D (.lst (acc ++ [.bl (isNm b)])) D=some (.lst (((c :: r).take (j + 1)).map fun x=>.bl (isNm x))):=fun H3 s3=>by
    refine ⟨_,s3 _ _ p2,?_,Ai.Gf hD (p1.trans s3),?_⟩
    ·rw [List.length_map,List.length_take]; exact Ci (by omega)
    ·rw [Ab,List.take_succ,hb,List.map_append]; rfl
   refine ⟨rfl,Ol ?_⟩
   refine ⟨_,rfl,_,rfl,fun v3' H3 s3 e3=>⟨_,e3,?_⟩⟩
   rw [adJ]
   refine BJ (fun h3=>?_) (fun h3=>?_)
   ·have:=fin H3 s3
    have e:isNm b=true:=by unfold isNm; rw [h3]; rfl
    rw [e] at this
    exact this
   ·refine ⟨_,rfl,_,rfl,fun v4 H4 s4 e4=>?_⟩
    subst e4
    rw [ZV]
    have:=fin H4 (s3.trans s4)
    have e:isNm b=isDigit b:=by unfold isNm; rw [Bool.not_eq_true] at h3; rw [h3]; rfl
    rw [e] at this
    exact this
  ·rintro H2 ⟨p1,p2⟩
   rw [FP,List.take_length] at p2
   refine ⟨D,(c :: r).map isNm,rfl,SqL.of (by rw [p2,List.map_map]; rfl),k _ _ (s1.trans p1) (congrArg V.bl ?_)⟩
   rw [Rr,hlow,decide_eq_true hrm,List.map_cons,List.all_cons]
   have:isNm c=true:=by unfold isNm; rw [hlow]; rfl
   rw [this,List.all_map]
   rfl
def Zu:Sp:=fun vs H Q _=>∃ (a:Addr) (t:Bytes) (lo hi:Nat),vs=[.ref a,.int (lo:Int),.int (hi:Int)]/\H a=some (.tup (bV t))/\t.length <= 1000000/\hi <= 1000000/\Out H Q (fun v _=>v=Lk (BK lo hi t))
theorem Px:Av ["signs", "least", "most", "number", "sign"] ["signs", "least", "most"] (Al Sx):=⟨rfl,rfl,rfl,by decide +kernel,rfl,by decide +kernel,by decide +kernel⟩
theorem TJ (T:Txt K mg Ao Ac Ak Ax Ag):Cl P w K mg base 2 "number_of" ["signs", "least", "most"] Zu:=by
 refine T.abv.ok Px (fun vs H Q E h=>?_) (fun f cdv A outer s H vs Q E hr h=>?_)
 ·obtain ⟨a,t,lo,hi,rfl,_⟩:=h
  rfl
 ·obtain ⟨a,t,lo,hi,rfl,ha,hlen,hhi,k⟩:=h
  have nd:=Px.nd
  refine ⟨_,Ad (Bj (Bd Gp (Bc Ay (by rfl) T.CJ PySem.boot_len (Aa (pv 0) Ae)) Aq (Bg _)) (Af (Am BZ)) Ar)
   (Ad (Bj (PW.pt (VF (Bd Gp (Ck Im (pv 0) Aq (fun _ _=>rfl)) (Cp T.O4 rfl) (Bg _)) (Qa (Bd Ln (Bc Ay (by rfl) T.CJ PySem.boot_len (Aa (pv 0) Ae)) Aq (Bg _))))) (Af (Am BZ)) Ar)
   (Ad (Ba (i:=3) nd rfl (Or.inl rfl) Aq)
   (Ad (CG PassesOwn.never rfl (acu (pv 0)) (Be (i:=4) nd rfl (Or.inl rfl))
    (Ad (Bj (Gh (DP (Bm (Ox T) hr rfl (Aa (pv 4) Ae)))) (Af (Am BZ)) Ar)
    (Ad (Ba (i:=3) nd rfl (Or.inl rfl) (BW JT (BW Fj (BW Oh (pv 3) Aq) (pv 4)) (Cp T.O4 rfl)))
    (Af (Bj (Bd Ln (pv 3) (pv 2) (Bg _)) (Af (Am BZ)) Ar)))))
   (Ad (Bj (Bd S9 (pv 3) (pv 1) (Bg _)) (Af (Am BZ)) Ar) (Af (Am (pv 3))))))),?_⟩
  refine ⟨_,rfl,a,_,rfl,.inr (SqT.of ha),rfl,_,rfl,?_⟩
  rw [FP]
  refine BJ (fun h0=>?_) (fun h0=>?_)
  ·refine k _ _ (Ai.refl _) ?_
   have:t=[]:=List.length_eq_zero_iff.mp (by have:=of_decide_eq_true h0; injection this with this; omega)
   rw [this]; rfl
  obtain ⟨c,r,rfl⟩:∃ c r,t=c :: r:=by
   cases t with
   | nil=>exact absurd rfl h0
   | cons c r=>exact ⟨c,r,rfl⟩
  have num:BK lo hi (c :: r)=if c=48/\r ≠ [] then none else match Dz hi 0 (c :: r) with
   | some n=>if n < lo then none else some n
   | none=>none:=rfl
  have ala:¬ decide (V.int (c.toNat:Int)=V.int 48)=true -> ¬ (c=48/\r ≠ []):=fun h z=>h (by rw [z.1]; rfl)
  have alb:¬ decide ((1:Int) < ((bV (c :: r)).length:Int))=true -> ¬ (c=48/\r ≠ []):=fun h z=>h (by
   rw [FP,List.length_cons]
   have:=List.length_pos_iff.mpr z.2
   exact decide_eq_true (by omega))
  refine ⟨_,rfl,a,_,_,_,rfl,rfl,SqT.of ha,at_of (j:=0) rfl rfl,rfl,_,rfl,?_⟩
  refine BJ (fun h1=>⟨_,rfl,a,_,rfl,.inr (SqT.of ha),_,_,rfl,rfl,_,rfl,BJ (fun h2=>k _ _ (Ai.refl _) ?_) (fun h2=>?_)⟩) (fun h1=>Ej ?_)
  ·have e1:c=48:=by
    have:=of_decide_eq_true h1
    injection this with this
    exact UInt8.toNat_inj.mp (by show c.toNat=48; omega)
   have e2:r ≠ []:=fun z=>by rw [z] at h2; simp [bV] at h2
   rw [num,if_pos ⟨e1,e2⟩]; rfl
  all_goals
   have hno:¬ (c=48/\r ≠ []):=by first | exact alb h2 | exact ala h1
   rw [num,if_neg hno] at k
   refine ⟨_,rfl,a,rfl,⟨_,SqT.of ha⟩,adM (K:=K) (a:=a) (xs:=bV (c :: r)) (fun i σ H'=>∃ (n:Nat) (v4:Option V),σ=[some (.ref a),some (.int (lo:Int)),some (.int (hi:Int)),some (.int (n:Int)),v4]/\Ai H H'/\n <= hi/\Dz hi 0 (c :: r)=Dz hi n ((c :: r).drop i))
    ⟨0,none,rfl,Ai.refl _,Nat.zero_le _,rfl⟩ (fun i σ H' _ ⟨_,_,_,sm,_⟩=>SqT.of (sm _ _ ha)) ?_ ?_⟩
   ·rintro i x σ H' hx ⟨n,v4,rfl,sm,hn,hg⟩
    obtain ⟨b,hb,rfl⟩:=abO hx
    have ed:(c :: r).drop i=b :: (c :: r).drop (i + 1):=by
     have hi':=(List.getElem?_eq_some_iff.mp hb)
     rw [List.drop_eq_getElem_cons hi'.1,hi'.2]
    rw [ed] at hg
    have hg':Dz hi n (b :: (c :: r).drop (i + 1))=if isDigit b=false then none else if hi < 10 * n + (b.toNat - 48) then none else Dz hi (10 * n + (b.toNat - 48)) ((c :: r).drop (i + 1)):=rfl
    refine ⟨_,rfl,_,rfl,fun v H1 s1 ev=>⟨_,ev,?_⟩⟩
    rw [ZV]
    refine BJ (fun hd=>?_) (fun hd=>?_)
    ·refine k _ _ (sm.trans s1) ?_
     rw [Bool.not_eq_true'] at hd
     rw [hg,hg',if_pos hd]; rfl
    have hd':isDigit b=true:=by simpa using hd
    have alz:48 <= b.toNat:=by
     unfold isDigit at hd'
     rw [Bool.and_eq_true] at hd'
     exact of_decide_eq_true hd'.1
    rw [hg',if_neg (by rw [hd']; exact Bool.noConfusion)] at hg
    refine ⟨_,rfl,_,_,rfl,rfl,.inl ⟨by omega,by omega⟩,_,rfl,_,_,rfl,rfl,_,_,rfl,rfl,?_⟩
    have en:(n:Int) * 10 + (b.toNat:Int) - 48=((10 * n + (b.toNat - 48):Nat):Int):=by omega
    refine ⟨_,rfl,_,rfl,_,_,rfl,rfl,_,rfl,?_⟩
    refine BJ (fun hm=>?_) (fun hm=>?_)
    ·refine k _ _ (sm.trans s1) ?_
     have:=of_decide_eq_true hm
     rw [hg,if_pos (by omega)]; rfl
    ·have:=of_decide_eq_false (Bool.not_eq_true _ ▸ hm)
     rw [if_neg (by omega)] at hg
     exact ⟨10 * n + (b.toNat - 48),_,by rw [<- en]; rfl,sm.trans s1,by omega,hg⟩
   ·rintro σ H' ⟨n,v4,rfl,sm,hn,hg⟩
    rw [FP,List.drop_length] at hg
    have hg':Dz hi 0 (c :: r)=some n:=hg
    rw [hg'] at k
    refine ⟨_,rfl,_,rfl,_,_,rfl,rfl,_,rfl,?_⟩
    refine BJ (fun hl=>?_) (fun hl=>?_)
    ·refine k _ _ sm ?_
     have:=of_decide_eq_true hl
     dsimp only
     rw [if_pos (by omega)]; rfl
    ·refine ⟨_,rfl,k _ _ sm ?_⟩
     have:=of_decide_eq_false (Bool.not_eq_true _ ▸ hl)
     dsimp only
     rw [if_neg (by omega)]; rfl
end
open Mx (P3 split Gr BK Dz isNm GF Kl Head)
def dB (t:Bytes):List PyData:=t.map fun c=>.int (c.toNat:Int)
theorem Wz {K:PySem.W.Frag} {H:Hp}:∀ t:Bytes,W9 K H (bV t) (dB t)
 | []=>.nil
 | c :: r=>.cons (.int _) (Wz r)
theorem MK (t:Bytes):SeqAt.shaped (.tuple (dB t))=true:=by
 have h1:PyData.canLayAll0 (dB t)=true:=by
  induction t with
  | nil=>simp [dB,PyData.canLayAll0]
  | cons c r ih =>
   unfold dB at ih ⊢
   rw [List.map_cons]
   simp only [PyData.canLayAll0,PyData.canLay0,Bool.true_and]
   exact ih
 have h2:PyData.depthAll (dB t)=0:=by
  induction t with
  | nil=>simp [dB,PyData.depthAll]
  | cons c r ih =>
   have h1':PyData.canLayAll0 (dB r)=true:=by
    unfold dB at h1
    rw [List.map_cons] at h1
    simp only [PyData.canLayAll0,PyData.canLay0,Bool.true_and] at h1
    exact h1
   have ih:=ih h1'
   unfold dB at ih ⊢
   rw [List.map_cons]
   simp only [PyData.depthAll,PyData.depth,ih]
   rfl
 unfold SeqAt.shaped
 simp only [PyData.canLay0,PyData.depth,h1,h2]
 rfl
theorem ac4:∀ u v:Bytes,PyData.eqvAll (dB u) (dB v)=decide (u=v)
 | [],[]=>by simp [dB,PyData.eqvAll]
 | [],_ :: _=>by simp [dB,PyData.eqvAll]
 | _ :: _,[]=>by simp [dB,PyData.eqvAll]
 | a :: u,b :: v=>by
  have ih:=ac4 u v
  unfold dB at ih ⊢
  rw [List.map_cons,List.map_cons]
  simp only [PyData.eqvAll,PyData.eqv,ih]
  have e:((a.toNat:Int) == (b.toNat:Int))=decide (a=b):=by
   by_cases h:a=b
   ·rw [h]; simp
   ·rw [decide_eq_false h]
    have:¬ (a.toNat:Int)=(b.toNat:Int):=fun z=>h (UInt8.toNat_inj.mp (by omega))
    simpa using this
  rw [e]
  by_cases h:a=b
  ·subst h; simp
  ·simp [h]
theorem ne_bytes {K:PySem.W.Frag} {H:Hp} {a b:Addr} {u v:Bytes} {Q:VK} (ha:H a=some (.tup (bV u))) (hb:H b=some (.tup (bV v))) (h:Q (.bl (!decide (u=v))) H):ajA K (.ref a) (.ref b) H Q :=
 ⟨.tuple (dB u),.tuple (dB v),.tup (SqT.of ha) (Wz u),.tup (SqT.of hb) (Wz v),MK u,MK v,by
  have e:PyData.eqv (.tuple (dB u)) (.tuple (dB v))=decide (u=v):=by simp only [PyData.eqv]; exact ac4 u v
  rw [e]; exact h⟩
theorem eq_bytes {K:PySem.W.Frag} {H:Hp} {a b:Addr} {u v:Bytes} {Q:VK} (ha:H a=some (.tup (bV u))) (hb:H b=some (.tup (bV v))) (h:Q (.bl (decide (u=v))) H):ajC K (.ref a) (.ref b) H Q :=
 ⟨.tuple (dB u),.tuple (dB v),.tup (SqT.of ha) (Wz u),.tup (SqT.of hb) (Wz v),MK u,MK v,by
  have e:PyData.eqv (.tuple (dB u)) (.tuple (dB v))=decide (u=v):=by simp only [PyData.eqv]; exact ac4 u v
  rw [e]; exact h⟩
theorem af0:((Str.ofString "part").cps.toList.map fun c=>V.int ((c:Nat):Int))=bV (Br.ascii "part"):=by decide +kernel
theorem ahd:((Str.ofString "put").cps.toList.map fun c=>V.int ((c:Nat):Int))=bV (Br.ascii "put"):=by decide +kernel
theorem aeD:((Str.ofString "build").cps.toList.map fun c=>V.int ((c:Nat):Int))=bV (Br.ascii "build"):=by decide +kernel
theorem Gn (o:Option Nat):decide (Lk o = .non)=o.isNone:=by
 cases o with
 | none=>rfl
 | some n=>rfl
theorem Dv {H:Hp} {qs:List Addr} {rs:List Bytes} (h:N5 H qs rs) {i:Nat} {r:Bytes} (e:rs[i]? = some r):∃ q,qs[i]? = some q/\H q=some (.tup (bV r)):=by
 have hl:=Bh h
 have hi:i < qs.length:=by rw [hl]; exact (List.getElem?_eq_some_iff.mp e).1
 refine ⟨qs[i],List.getElem?_eq_getElem hi,?_⟩
 exact Rp h (List.getElem?_eq_getElem hi) e
theorem Ea {qs:List Addr} {i:Nat} {q:Addr} (h:qs[i]? = some q) {z:Int} (e:z=(i:Int)):atI (qs.map V.ref) z=some (.ref q):=Iw e (by rw [List.getElem?_map,h]; rfl)
section
variable {P:Program} {w:World} {K:PySem.W.Frag} {mg:Str->Option Value} {base:Heap} {Ao Ac Ak Ax Ag:Addr}
def adf (C:Addr) (o:Option Head) (v:V) (H:Hp):Prop:=match o with
 | none=>v = .non
 | some hd=>∃ p,v = .ref p/\GR C H p (bV hd.name) hd.wide hd.deep hd.high []
def Zt (C:Addr):Sp:=fun vs H Q _=>∃ (a:Addr) (r:Bytes),vs=[.ref a]/\H a=some (.tup (bV r))/\r.length <= 1000000/\Out H Q (adf C (Kl r))
theorem Pu:Av ["row", "words", "width", "depth", "height", "weight"] ["row"] (Al Sv):=⟨rfl,rfl,rfl,by decide +kernel,rfl,by decide +kernel,by decide +kernel⟩
theorem agj {ws:List Bytes} (h:ws.length ≠ 6):GF ws=none:=by
 match ws,h with
 | [],_=>rfl
 | [_],_=>rfl
 | [_,_],_=>rfl
 | [_,_,_],_=>rfl
 | [_,_,_,_],_=>rfl
 | [_,_,_,_,_],_=>rfl
 | [_,_,_,_,_,_],h=>exact absurd rfl h
 | _ :: _ :: _ :: _ :: _ :: _ :: _ :: _,_=>rfl
theorem abF (T:Txt K mg Ao Ac Ak Ax Ag):Cl P w K mg base 3 "read_head" ["row"] (Zt Ao):=by
 refine T.abu.ok Pu (fun vs H Q E h=>?_) (fun f cdv A outer s H vs Q E hr h=>?_)
 ·obtain ⟨a,r,rfl,_⟩:=h
  rfl
 ·obtain ⟨a,r,rfl,ha,hlen,k⟩:=h
  have nd:=Pu.nd
  have C:=TJ (P:=P) (w:=w) (base:=base) T
  refine ⟨_,(Ad (Ba (i:=1) nd rfl (Or.inl rfl) (Bm (Ou T) hr rfl (Aa (pv 0) (Ae)))) (Ad (Bj (PW.pt (Eu (Bd V3 (Bc Ay (by rfl) T.CJ PySem.boot_len (Aa (pv 1) (Ae))) Aq (Bg _)) (Fi (Bd (afN hr.units) (Ck BP (pv 1) Aq (fun _ _=>rfl)) (Bm (OD T) hr rfl (Aa (acx) (Ae))) (Bg _))))) (Af (Am BZ)) Ar) (Ad (Bj (Gh (DP (Bm (YT T) hr rfl (Aa (Ck BP (pv 1) Aq (fun _ _=>rfl)) (Aa (Cp T.HJ rfl) (Ae)))))) (Af (Am BZ)) Ar) (Ad (Ba (i:=2) nd rfl (Or.inl rfl) (Bm C hr rfl (Aa (Ck BP (pv 1) Aq (fun _ _=>rfl)) (Aa (Aq) (Aa (Cp T.Zf rfl) (Ae)))))) (Ad (Ba (i:=3) nd rfl (Or.inl rfl) (Bm C hr rfl (Aa (Ck BP (pv 1) Aq (fun _ _=>rfl)) (Aa (Aq) (Aa (Cp T.Zk rfl) (Ae)))))) (Ad (Ba (i:=4) nd rfl (Or.inl rfl) (Bm C hr rfl (Aa (Ck BP (pv 1) Aq (fun _ _=>rfl)) (Aa (Aq) (Aa (Cp T.Xc rfl) (Ae)))))) (Ad (Ba (i:=5) nd rfl (Or.inl rfl) (Bm C hr rfl (Aa (Ck BP (pv 1) Aq (fun _ _=>rfl)) (Aa (Aq) (Aa (Cp T.Xb rfl) (Ae)))))) (Ad (Bj (PW.pt (Eu (Cg (Dk (pv 2))) (Eu (Cg (Dk (pv 3))) (Eu (Cg (Dk (pv 4))) (Fi (Cg (Dk (pv 5)))))))) (Af (Am BZ)) Ar) (Af (Am (Qh (ac8 T) hr rfl (Aa (Ck BP (pv 1) Aq (fun _ _=>rfl)) (Aa (pv 2) (Aa (pv 3) (Aa (pv 4) (Aa (Gj) (Ae))))))))))))))))),?_⟩
  refine ⟨_,rfl,a,r,rfl,ha,hlen,fun v H1 s1 ⟨p,qs,ev,hp,hq⟩=>?_⟩
  subst ev
  have hfree:∀ x ∈ split 32 r,x.length <= 1000000:=fun x hx=>Nat.le_trans (Mx.split_len hx) hlen
  have eM:Kl r=GF (split 32 r):=rfl
  rw [eM] at k
  generalize split 32 r=ws at hq k hfree
  have hql:=Bh hq
  refine ⟨_,rfl,p,_,rfl,.inl (SqL.of hp),rfl,_,rfl,?_⟩
  rw [List.length_map]
  refine BJ (fun h0=>?_) (fun h0=>?_)
  ·refine Dm (k _ _ s1 ?_)
   rw [agj (by rw [<- hql]; intro z; rw [z] at h0; exact absurd h0 (by decide))]
   rfl
  have h6:ws.length=6:=by
   rw [<- hql]
   have:V.int (qs.length:Int)=V.int 6:=by simpa using h0
   injection this with this
   omega
  obtain ⟨b,n,w',d,h,g,rfl⟩:∃ b n w d h g,ws=[b,n,w,d,h,g]:=by
   match ws,h6 with
   | [b,n,w,d,h,g],_=>exact ⟨b,n,w,d,h,g,rfl⟩
  obtain ⟨q0,e0,t0⟩:=Dv hq (i:=0) rfl
  obtain ⟨q1,e1,t1⟩:=Dv hq (i:=1) rfl
  obtain ⟨q2,e2,t2⟩:=Dv hq (i:=2) rfl
  obtain ⟨q3,e3,t3'⟩:=Dv hq (i:=3) rfl
  obtain ⟨q4,e4,t4⟩:=Dv hq (i:=4) rfl
  obtain ⟨q5,e5,t5⟩:=Dv hq (i:=5) rfl
  refine ⟨_,rfl,p,_,_,_,rfl,rfl,SqL.of hp,Ea e0 rfl,Str.ofString "part",rfl,by decide,fun v H2 s2 ⟨pb,ev,hpb⟩=>?_⟩
  subst ev
  rw [af0] at hpb
  refine ne_bytes (s2 _ _ t0) hpb ⟨_,rfl,?_⟩
  refine BJ (fun hb=>?_) (fun hb=>?_)
  ·refine k _ _ (s1.trans s2) ?_
   have hb':¬ b=Br.ascii "part" := by simpa using hb
   show adf Ao (GF [b,n,w',d,h,g]) _ _
   unfold GF
   dsimp only
   rw [if_neg hb']
   rfl
  have hb':b=Br.ascii "part" := by simpa using hb
  subst hb'
  have sm2:=s1.trans s2
  refine ⟨_,rfl,p,_,_,_,rfl,rfl,SqL.of (s2 _ _ hp),Ea e1 rfl,q1,n,7,rfl,s2 _ _ t1,hfree n (by simp),fun v H3 s3 ev=>⟨_,ev,?_⟩⟩
  refine BJ (fun hn=>?_) (fun hn=>?_)
  ·refine k _ _ (sm2.trans s3) ?_
   rw [Bool.not_eq_true'] at hn
   unfold GF
   dsimp only
   rw [if_pos rfl,if_neg (by rw [hn]; exact Bool.false_ne_true)]
   rfl
  have hn':Gr 7 n=true:=by simpa using hn
  have sm3:=sm2.trans s3
  have c3:=s2.trans s3
  refine ⟨_,rfl,p,_,_,_,rfl,rfl,SqL.of (c3 _ _ hp),Ea e2 rfl,q2,w',1,16,rfl,c3 _ _ t2,hfree w' (by simp),by decide,fun v4 H4 s4 ev4=>?_⟩
  have c4:=c3.trans s4
  refine ⟨_,rfl,p,_,_,_,rfl,rfl,SqL.of (c4 _ _ hp),Ea e3 rfl,q3,d,1,16,rfl,c4 _ _ t3',hfree d (by simp),by decide,fun v5 H5 s5 ev5=>?_⟩
  have c5:=c4.trans s5
  refine ⟨_,rfl,p,_,_,_,rfl,rfl,SqL.of (c5 _ _ hp),Ea e4 rfl,q4,h,1,18,rfl,c5 _ _ t4,hfree h (by simp),by decide,fun v6 H6 s6 ev6=>?_⟩
  have c6:=c5.trans s6
  refine ⟨_,rfl,p,_,_,_,rfl,rfl,SqL.of (c6 _ _ hp),Ea e5 rfl,q5,g,1,9999,rfl,c6 _ _ t5,hfree g (by simp),by decide,fun v7 H7 s7 ev7=>?_⟩
  have c7:=c6.trans s7
  subst ev4 ev5 ev6 ev7
  have k':∀ (v:V) (H':Hp),Ai H H'->adf Ao (match BK 1 16 w' with
   | none=>none
   | some w=>match BK 1 16 d with
    | none=>none
    | some d=>match BK 1 18 h with
     | none=>none
     | some h=>match BK 1 9999 g with
      | none=>none
      | some g=>some ⟨n,w,d,h,g⟩) v H'->Q v H':=fun v H' sm hh=>k v H' sm (by unfold GF; dsimp only; rw [if_pos rfl,if_pos hn']; exact hh)
  clear k
  refine ⟨_,rfl,_,rfl,?_⟩
  rw [Gn]
  cases ew:BK 1 16 w' with
  | none =>
   rw [ew] at k'
   exact Dm (Dm (k' _ _ (s1.trans c7) rfl))
  | some w1 =>
   rw [ew] at k'
   refine Ej ⟨_,rfl,_,rfl,?_⟩
   rw [Gn]
   cases ed:BK 1 16 d with
   | none =>
    rw [ed] at k'
    exact Dm (Dm (k' _ _ (s1.trans c7) rfl))
   | some d1 =>
    rw [ed] at k'
    refine Ej ⟨_,rfl,_,rfl,?_⟩
    rw [Gn]
    cases eh:BK 1 18 h with
    | none =>
     rw [eh] at k'
     exact Dm (Dm (k' _ _ (s1.trans c7) rfl))
    | some h1 =>
     rw [eh] at k'
     refine Ej ⟨_,rfl,_,rfl,?_⟩
     rw [Gn]
     cases eg:BK 1 9999 g with
     | none =>
      rw [eg] at k'
      exact Dm (k' _ _ (s1.trans c7) rfl)
     | some g1 =>
      rw [eg] at k'
      refine Ej ?_
      refine ⟨_,rfl,p,_,_,_,rfl,rfl,SqL.of (c7 _ _ hp),Ea e1 rfl,_,rfl,_,rfl,_,rfl,fun dc hdc=>?_⟩
      refine ZQ fun x H8 s8 ⟨dx,hx⟩=>?_
      have sn:Ai H7 (upd H7 dc (.dT [])):=Ai.new hdc
      exact k' _ _ ((s1.trans c7).trans (sn.trans s8)) ⟨x,rfl,dx,q1,dc,hx,s8 _ _ (sn _ _ (c7 _ _ t1)),s8 _ _ Ab,Nat.zero_le _⟩
end
open Mx (P3 split Gr BK Dz isNm GF Kl Head Gz Dc Ew Hl FQ up CZ Hx)
open Br (Bytes isLow isDigit placeOf)
theorem aev (c:UInt8):acs (c.toNat:Int)=(placeOf c).isSome:=by
 have key:∀ n:Fin 256,acs ((UInt8.ofNat n.val).toNat:Int)=(placeOf (UInt8.ofNat n.val)).isSome:=by decide +kernel
 have:=key ⟨c.toNat,c.toNat_lt⟩
 rw [show UInt8.ofNat c.toNat=c from UInt8.ofNat_toNat] at this
 exact this
section
variable {P:Program} {w:World} {K:PySem.W.Frag} {mg:Str->Option Value} {base:Heap} {Ao Ac Ak Ax Ag:Addr}
def ahK (o:Option (List (List Br.Place))) (w d:Nat) (v:V) (H:Hp):Prop:=match o with
 | none=>v = .non
 | some ls=>∃ p,v = .ref p/\H p=some (.dT (Aw (Hl w d 0 ls.flatten)))
def Xg:Sp:=fun vs H Q _=>∃ (a:Addr) (rs:List Bytes) (w d:Nat),vs=[.ref a,.int (w:Int),.int (d:Int)]/\W2 H (.ref a) rs/\1 <= w/\w <= 16/\1 <= d/\d <= 16/\rs.length <= 288/\Out H Q (ahK (Dc w rs) w d)
theorem Nu:Av ["rows", "width", "depth", "cells", "number", "row", "x", "sign"] ["rows", "width", "depth"] (Al PL):=⟨rfl,rfl,rfl,by decide +kernel,rfl,by decide +kernel,by decide +kernel⟩
theorem aaj (T:Txt K mg Ao Ac Ak Ax Ag):Cl P w K mg base 2 "read_cells" ["rows", "width", "depth"] Xg:=by
 refine T.Z6.ok Nu (fun vs H Q E h=>?_) (fun f cdv A outer s H vs Q E hr h=>?_)
 ·obtain ⟨a,rs,w,d,rfl,_⟩:=h
  rfl
 ·obtain ⟨a,rs,w,d,rfl,⟨a',qs,ea,ha,hrs⟩,hw1,hw2,hd1,hd2,hrl,k⟩:=h
  cases ea
  have nd:=Nu.nd
  have hu:=Jq hr
  refine ⟨_,(Ad (Ba (i:=3) nd rfl (Or.inl rfl) Gj) (Ad (CG PassesOwn.never rfl (JQ rfl T.Ef (Aa (pv 0) (Ae))) (Fx rfl (Bw (Be (i:=4) nd rfl (Or.inl rfl)) (Bw (Be (i:=5) nd rfl (Or.inl rfl)) Eg)))
    (Ad (Bj (Bd V3 (Bc Ay (by rfl) T.CJ PySem.boot_len (Aa (pv 5) (Ae))) (pv 1) (Bg _)) (Af (Am BZ)) Ar) (Af (CG PassesOwn.never rfl (afH rfl T.Ef (Aa (pv 5) (Ae))) (Fx rfl (Bw (Be (i:=6) nd rfl (Or.inl rfl)) (Bw (Be (i:=7) nd rfl (Or.inl rfl)) Eg)))
     (Ad (Bj (Gh (DP (Bm (Uu T) hr rfl (Aa (pv 7) (Ae))))) (Af (Am BZ)) Ar) (Af (Bj (Bd V3 (pv 7) (Cp T.XR rfl) (Bg _)) (Af (Ib hu (pv 3) (Rn (Aa (pv 6) (Aa (BW ait (pv 4) (pv 2)) (Aa (BW ag4 (pv 4) (pv 2)) (Ae))))) (pv 7) rfl)) Ar))))))) (Af (Am (pv 3))))),?_⟩
  intro dc hdc
  have s1:Ai H (upd H dc (.dT [])):=Ai.new hdc
  have h1:upd H dc (.dT []) dc=some (.dT (Aw [])):=Ab
  generalize upd H dc (.dT [])=H1 at s1 h1
  refine ⟨_,rfl,a,_,rfl,SqL.of (s1 _ _ ha),Jt (K:=K) (a:=a) (xs:=qs.map V.ref)
   (fun i σ H'=>∃ (v4 v5 v6 v7:Option V) (ls:List (List Br.Place)),σ=[some (.ref a),some (.int (w:Int)),some (.int (d:Int)),some (.ref dc),v4,v5,v6,v7]/\Ai H H'/\Dc w (rs.take i)=some ls/\H' dc=some (.dT (Aw (Hl w d 0 ls.flatten))))
   ⟨none,none,none,none,[],rfl,s1,rfl,h1⟩ (fun i σ H' _ ⟨_,_,_,_,_,_,sm,_⟩=>SqL.of (sm _ _ ha)) ?_ ?_⟩
  ·rintro i x σ H' tt hx ⟨v4,v5,v6,v7,ls,rfl,sm,hls,hc⟩ hT
   obtain ⟨q,hq,rfl⟩:∃ q,qs[i]? = some q/\x = .ref q:=by
    rw [List.getElem?_map] at hx
    cases e:qs[i]? with
    | none=>rw [e] at hx; cases hx
    | some q=>rw [e] at hx; exact ⟨q,rfl,(Option.some.inj hx).symm⟩
   obtain ⟨row,hrow,hqt⟩:=Ca hrs hq
   have hil:i < rs.length:=(List.getElem?_eq_some_iff.mp hrow).1
   have hfl:=Mx.Oe hls
   rw [List.length_take,Nat.min_eq_left (by omega)] at hfl
   have st:Ai H' (upd H' tt (.tup [.int (i:Nat),.ref q])):=Ai.new hT
   refine ⟨tt,_,rfl,SqT.of Ab,rfl,_,_,rfl,_,_,rfl,rfl,?_⟩
   have sm1:=sm.trans st
   have hc1:=st _ _ hc
   generalize upd H' tt (.tup [.int (i:Nat),.ref q])=H2 at sm1 hc1
   clear st
   have hnext:∀ o,Gz w row=o->Dc w (rs.take (i + 1))=match o with
     | none=>none
     | some l=>some (ls ++ [l]):=fun o e=>by
    rw [List.take_succ,hrow]
    show Dc w (rs.take i ++ [row])=_
    rw [Mx.Og,hls]
    dsimp only
    rw [Dc,e]
    cases o <;> rfl
   have hbad:Gz w row=none->Dc w rs=none:=fun e=>by
    have:=hnext none e
    have e2:rs=rs.take (i + 1) ++ rs.drop (i + 1):=(List.take_append_drop _ _).symm
    rw [e2,Mx.Og,this]
   rw [Mx.VB] at hnext hbad
   refine ⟨_,rfl,q,_,rfl,.inr (SqT.of (sm1 _ _ hqt)),_,rfl,rfl,_,rfl,?_⟩
   rw [FP]
   refine BJ (fun h0=>?_) (fun h0=>?_)
   ·refine k _ _ sm1 ?_
    have:¬ row.length=w:=fun z=>by rw [z] at h0; simp at h0
    rw [hbad (if_neg this)]
    rfl
   have hrw:row.length=w:=by
    have:V.int (row.length:Int)=V.int (w:Int):=by simpa using h0
    injection this with this
    omega
   rw [if_pos hrw] at hnext hbad
   refine ⟨_,rfl,q,_,rfl,SqT.of (sm1 _ _ hqt),aeP (K:=K) (a:=q) (xs:=bV row)
    (fun j σ H'=>∃ (v6 v7:Option V) (pl:List Br.Place),σ=[some (.ref a),some (.int (w:Int)),some (.int (d:Int)),some (.ref dc),some (.int (i:Nat)),some (.ref q),v6,v7]/\Ai H H'/\Ew (row.take j)=some pl/\H' dc=some (.dT (Aw (Hl w d 0 (ls.flatten ++ pl)))))
    ⟨_,_,[],rfl,sm1,rfl,by rw [List.append_nil]; exact hc1⟩ (fun j σ H' _ ⟨_,_,_,_,sm,_⟩=>SqT.of (sm _ _ hqt)) ?_ ?_⟩
   ·rintro j x σ H3 t3' hx ⟨v6,v7,pl,rfl,sm3,hpl,hc3⟩ hT3
    obtain ⟨c,hcj,rfl⟩:=abO hx
    have hjl:j < w:=by rw [<- hrw]; exact (List.getElem?_eq_some_iff.mp hcj).1
    have ak8:pl.length=j:=by rw [Mx.Rj hpl,List.length_take]; omega
    have st:Ai H3 (upd H3 t3' (.tup [.int (j:Nat),.int (c.toNat:Int)])):=Ai.new hT3
    refine ⟨t3',_,rfl,SqT.of Ab,rfl,_,_,rfl,_,_,rfl,rfl,?_⟩
    have sm4:=sm3.trans st
    have hc4:=st _ _ hc3
    generalize upd H3 t3' (.tup [.int (j:Nat),.int (c.toNat:Int)])=H4 at sm4 hc4
    clear st
    refine ⟨_,rfl,_,rfl,fun v H5 s5 ev=>⟨_,ev,?_⟩⟩
    rw [aev]
    have YH:Ew (row.take (j + 1))=match placeOf c with
      | none=>none
      | some p=>some (pl ++ [p]):=by
     rw [List.take_succ,hcj]
     show Ew (row.take j ++ [c])=_
     rw [Mx.Rk,hpl]
     dsimp only
     rw [Ew]
     cases placeOf c <;> rfl
    cases ep:placeOf c with
    | none =>
     refine Dm (k _ _ (sm4.trans s5) ?_)
     rw [ep] at YH
     have e2:row=row.take (j + 1) ++ row.drop (j + 1):=(List.take_append_drop _ _).symm
     rw [hbad (by rw [e2,Mx.Rk,YH])]
     rfl
    | some p =>
     rw [ep] at YH
     dsimp only at YH
     obtain ⟨hby,hcell⟩:=Mx.ZK ep
     have hc5:=s5 _ _ hc4
     have sm5:=sm4.trans s5
     have hent:Hl w d 0 (ls.flatten ++ (pl ++ [p]))=Hl w d 0 (ls.flatten ++ pl) ++ (if p.isCell=true then [(up (FQ w d (ls.flatten ++ pl).length),(p.byte.toNat:Int))] else []):=by
      rw [<- List.append_assoc,Mx.abk]
      congr 1
      rw [Nat.zero_add,Hl,Hl,List.append_nil]
     have hlen:(ls.flatten ++ pl).length=i * w + j:=by rw [List.length_append,hfl,ak8]
     refine Ej ⟨_,rfl,rfl,_,rfl,?_⟩
     refine BJ (fun hn=>?_) (fun hn=>?_)
     ·have hcn:c ≠ 46:=fun z=>by rw [z] at hn; exact absurd hn (by decide)
      have hpc:=hcell.mpr hcn
      refine ⟨_,rfl,_,rfl,_,rfl,_,rfl,_,rfl,_,_,rfl,rfl,(by omega),_,rfl,_,rfl,_,_,rfl,rfl,⟨by omega,by omega⟩,(by show 3 <= sizeLine; decide),fun p3 hp3=>?_⟩
      have s6:=Ai.new (o:=.tup [.int (j:Nat),.int ((i:Nat) % (d:Int)),.int ((i:Nat) / (d:Int))]) hp3
      have hkey:upd H5 p3 (.tup [.int (j:Nat),.int ((i:Nat) % (d:Int)),.int ((i:Nat) / (d:Int))]) p3=some (.tup ((t3 (up (FQ w d (ls.flatten ++ pl).length))).map kV)):=by
       rw [Ab,hlen,Mx.aek hjl]
       rfl
      refine ⟨dc,_,rfl,Uy.t (k:=t3 (up (FQ w d (ls.flatten ++ pl).length))) (s6 _ _ hc5) hkey ?_,?_⟩
      ·rw [Cv]
       have:=Mx.Wv w d (ls.flatten ++ pl) 0
       rw [hlen] at this
       have h288:i * w <= 288 * 16:=Nat.mul_le_mul (by omega) hw2
       exact Ci (by omega)
      ·refine ⟨_,_,pl ++ [p],rfl,?_,YH,?_⟩
       ·exact Ai.Gf hdc (sm5.trans s6)
       ·rw [Ab,hent,if_pos hpc,hby,LR (Mx.acY hw1 hd1 _)]
     ·have hcn:c=46:=by
       have:V.int (c.toNat:Int)=V.int 46:=by simpa using hn
       injection this with this
       exact UInt8.toNat_inj.mp (by show c.toNat=46; omega)
      have hpc:¬ p.isCell=true:=fun z=>hcell.mp z hcn
      exact ⟨_,_,pl ++ [p],rfl,sm5,YH,by rw [hent,if_neg hpc,List.append_nil]; exact hc5⟩
   ·rintro σ H3 ⟨v6,v7,pl,rfl,sm3,hpl,hc3⟩
    rw [FP,List.take_length] at hpl
    refine ⟨_,_,_,_,ls ++ [pl],rfl,sm3,hnext _ hpl,?_⟩
    rw [List.flatten_append]
    simpa using hc3
  ·rintro σ H' ⟨v4,v5,v6,v7,ls,rfl,sm,hls,hc⟩
   rw [List.length_map,Bh hrs,List.take_length] at hls
   refine ⟨_,rfl,k _ _ sm ?_⟩
   rw [hls]
   exact ⟨dc,rfl,hc⟩
end
open Mx (P3 split Gr BK Dz isNm GF Kl Head Gz Dc Ew Hl FQ up CZ Hx Ds ae0 cellsOf Full Qj readM)
theorem Yu {hi:Nat}:∀ (w:Bytes) (n m:Nat),Dz hi n w=some m->n <= hi->m <= hi
 | [],n,m,h,hn=>by cases h; exact hn
 | c :: r,n,m,h,hn=>by
  rw [Dz] at h
  split at h
  ·cases h
  ·split at h
   ·cases h
   ·exact Yu r _ m h (by omega)
theorem acF {lo hi n:Nat} {w:Bytes} (h:BK lo hi w=some n):lo <= n/\n <= hi:=by
 cases w with
 | nil=>cases h
 | cons c r =>
  unfold BK at h
  dsimp only at h
  split at h
  ·cases h
  ·cases e:Dz hi 0 (c :: r) with
   | none=>rw [e] at h; cases h
   | some m =>
    rw [e] at h
    dsimp only at h
    split at h
    ·cases h
    ·cases h
     exact ⟨by omega,Yu _ _ _ e (Nat.zero_le _)⟩
structure ajh (hd:Head):Prop where
 w1:1 <= hd.wide
 w2:hd.wide <= 16
 d1:1 <= hd.deep
 d2:hd.deep <= 16
 h1:1 <= hd.high
 h2:hd.high <= 18
 nm:Gr 7 hd.name=true
theorem ahn {r:Bytes} {hd:Head} (h:Kl r=some hd):ajh hd:=by
 obtain ⟨a,n,w,d,h',g,_,_,e1,e2,e3,e4,e5,_⟩:=Mx.FJ h
 have h1:=acF e3
 have h2:=acF e4
 have h3:=acF e5
 exact ⟨h1.1,h1.2,h2.1,h2.2,h3.1,h3.2,by rw [e2]; exact e1⟩
theorem ahz (xs:List V) (n m:Nat):Ot xs (some ((n + 1:Nat):Int)) (some ((n + 1 + m:Nat):Int))=(xs.drop (n + 1)).take m:=by
 unfold Ot
 rw [HT.ZG,HT.ZG]
 by_cases h:n + 1 <= xs.length
 ·rw [Nat.min_eq_left h]
  by_cases h2:n + 1 + m <= xs.length
  ·rw [Nat.min_eq_left h2]; congr 1; omega
  ·rw [Nat.min_eq_right (by omega)]
   have hl:(xs.drop (n + 1)).length=xs.length - (n + 1):=List.length_drop
   rw [List.take_of_length_le (by omega),List.take_of_length_le (by omega)]
 ·rw [Nat.min_eq_right (by omega),Nat.min_eq_right (by omega)]
  simp
  omega
theorem Lh {α β:Type} {G:α->β->Prop}:∀ {l:List α} {m:List β} (n:Nat),Paired G l m->Paired G (l.drop n) (m.drop n)
 | _,_,0,h=>h
 | _,_,_ + 1,.nil=>.nil
 | _,_,n + 1,.cons _ t=>Lh n t
theorem S7 {α β:Type} {G:α->β->Prop}:∀ {l:List α} {m:List β} (n:Nat),Paired G l m->Paired G (l.take n) (m.take n)
 | _,_,0,_=>.nil
 | _,_,_ + 1,.nil=>.nil
 | _,_,n + 1,.cons h t=>.cons h (S7 n t)
structure QD (C:Addr) (H:Hp) (a:Addr) (p:Br.Part):Prop where
 at_:GR C H a (bV p.name) p.wide p.deep p.high (cellsOf p)
 full:Full p
 nm:Gr 7 p.name=true
 d1:p.deep <= 16
 h1:p.high <= 18
theorem QD.same {C:Addr} {H H':Hp} {a:Addr} {p:Br.Part} (s:Ai H H') (h:QD C H a p):QD C H' a p:=⟨h.at_.same s,h.full,h.nm,h.d1,h.h1⟩
section
variable {P:Program} {w:World} {K:PySem.W.Frag} {mg:Str->Option Value} {base:Heap} {Ao Ac Ak Ax Ag:Addr}
def akl (C:Addr) (o:Option (Br.Part × List Bytes)) (v:V) (H:Hp):Prop:=match o with
 | none=>v = .non
 | some x=>∃ a,v = .ref a/\QD C H a x.1
def Zq (C:Addr):Sp:=fun vs H Q _=>∃ (a:Addr) (rs:List Bytes) (n:Nat),vs=[.ref a,.int (n:Int)]/\W2 H (.ref a) rs/\n < rs.length/\rs.length <= 1000000/\(∀ r ∈ rs,r.length <= 1000000)/\Out H Q (akl C (Hx (rs.drop n)))
theorem Pq:Av ["rows", "first", "head", "size", "layers", "cells"] ["rows", "first"] (Al Ss):=⟨rfl,rfl,rfl,by decide +kernel,rfl,by decide +kernel,by decide +kernel⟩
theorem abD (T:Txt K mg Ao Ac Ak Ax Ag):Cl P w K mg base 4 "read_part" ["rows", "first"] (Zq Ao):=by
 refine T.abr.ok Pq (fun vs H Q E h=>?_) (fun f cdv A outer s H vs Q E hr h=>?_)
 ·obtain ⟨a,rs,n,rfl,_⟩:=h
  rfl
 ·obtain ⟨a,rs,n,rfl,⟨a',qs,ea,ha,hrs⟩,hn,hrl,hll,k⟩:=h
  cases ea
  have nd:=Pq.nd
  refine ⟨_,(Ad (Ba (i:=2) nd rfl (Or.inl rfl) (Bm (abF T) hr rfl (Aa (Ck BP (pv 0) (pv 1) (fun _ _=>rfl)) (Ae)))) (Ad (Bj (Cg (Dk (pv 2))) (Af (Am BZ)) Ar) (Ad (Ba (i:=3) nd rfl (Or.inl rfl) (BW Oh (Az (pv 2) rfl) (Az (pv 2) rfl))) (Ad (Ba (i:=4) nd rfl (Or.inl rfl) (Qg Zy (pv 0) (Qc (BW Fj (pv 1) Aq)) (Qc (BW Fj (BW Fj (pv 1) Aq) (pv 3))))) (Ad (Bj (Bd S9 (Bc Ay (by rfl) T.CJ PySem.boot_len (Aa (pv 4) (Ae))) (pv 3) (Bg _)) (Af (Am BZ)) Ar) (Ad (Ba (i:=5) nd rfl (Or.inl rfl) (Bm (aaj T) hr rfl (Aa (pv 4) (Aa (Az (pv 2) rfl) (Aa (Az (pv 2) rfl) (Ae)))))) (Ad (Bj (Cg (Dk (pv 5))) (Af (Am BZ)) Ar) (Af (Am (Qh (ac8 T) hr rfl (Aa (Az (pv 2) rfl) (Aa (Az (pv 2) rfl) (Aa (Az (pv 2) rfl) (Aa (Az (pv 2) rfl) (Aa (pv 5) (Ae)))))))))))))))),?_⟩
  obtain ⟨r,hr0⟩:∃ r,rs[n]? = some r:=⟨rs[n],List.getElem?_eq_getElem hn⟩
  obtain ⟨q,hq,hqt⟩:=Dv hrs hr0
  have ed:rs.drop n=r :: rs.drop (n + 1):=by
   have:=(List.getElem?_eq_some_iff.mp hr0)
   rw [List.drop_eq_getElem_cons this.1,this.2]
  have eP:Hx (rs.drop n)=match Kl r with
   | none=>none
   | some h=>match CZ h.wide (h.deep * h.high) (rs.drop (n + 1)) with
    | none=>none
    | some (ls,rs')=>some (⟨h.name,h.wide,h.deep,h.high,h.weight,ls.flatten⟩,rs'):=by rw [ed]; rfl
  rw [eP] at k
  refine ⟨_,rfl,_,rfl,a,_,_,_,rfl,rfl,SqL.of ha,Ea hq rfl,q,r,rfl,hqt,hll r (List.mem_of_getElem? hr0),fun v1 H1 s1 hv1=>?_⟩
  cases eh:Kl r with
  | none =>
   rw [eh] at hv1 k
   have hv1:v1 = .non:=hv1
   subst hv1
   refine ⟨_,rfl,_,rfl,Dm (k _ _ s1 rfl)⟩
  | some hd =>
   rw [eh] at hv1 k
   dsimp only at k
   obtain ⟨p,hv1,dx,na,da,hp,hna,hda,_⟩:=hv1
   subst hv1
   have ho:=ahn eh
   have bnd:hd.deep * hd.high <= 16 * 18:=Nat.mul_le_mul ho.d2 ho.h2
   refine ⟨_,rfl,_,rfl,Ej ?_⟩
   refine ⟨_,rfl,p,Ao,dx,_,_,rfl,hp,T.Bo,T.DK,rfl,_,rfl,p,Ao,dx,_,_,rfl,hp,T.Bo,T.DW,rfl,_,_,rfl,rfl,.inl ⟨by have:=ho.d2; omega,by have:=ho.d2; omega⟩,?_⟩
   refine ⟨_,rfl,_,rfl,_,_,rfl,rfl,_,rfl,_,rfl,_,_,rfl,rfl,_,rfl,_,_,rfl,rfl,_,rfl,a,_,rfl,SqL.of (s1 _ _ ha),fun l hl=>?_⟩
   have ai1:Ot (qs.map V.ref) (some ((n:Int) + 1)) (some ((n:Int) + 1 + (hd.deep:Int) * (hd.high:Int)))=((qs.drop (n + 1)).take (hd.deep * hd.high)).map V.ref:=by
    have e1:(n:Int) + 1=((n + 1:Nat):Int):=by omega
    have e2:(n:Int) + 1 + (hd.deep:Int) * (hd.high:Int)=((n + 1 + hd.deep * hd.high:Nat):Int):=by push_cast; rfl
    rw [e2,e1,ahz,List.map_take,List.map_drop]
   rw [ai1]
   have s2:Ai H1 (upd H1 l (.lst (((qs.drop (n + 1)).take (hd.deep * hd.high)).map V.ref))):=Ai.new hl
   have hl2:upd H1 l (.lst (((qs.drop (n + 1)).take (hd.deep * hd.high)).map V.ref)) l=_:=Ab
   generalize upd H1 l (.lst (((qs.drop (n + 1)).take (hd.deep * hd.high)).map V.ref))=H2 at s2 hl2
   have ajS:N5 H2 ((qs.drop (n + 1)).take (hd.deep * hd.high)) ((rs.drop (n + 1)).take (hd.deep * hd.high)):=Fb (s1.trans s2) (S7 _ (Lh _ hrs))
   have hlen2:=Bh ajS
   refine ⟨_,rfl,l,_,rfl,.inl (SqL.of hl2),_,rfl,_,_,rfl,rfl,_,rfl,?_⟩
   rw [List.length_map,hlen2,List.length_take,List.length_drop]
   rw [Mx.Ti,List.length_drop] at k
   have eI:(hd.deep:Int) * (hd.high:Int)=((hd.deep * hd.high:Nat):Int):=by push_cast; rfl
   rw [eI]
   refine BJ (fun h0=>?_) (fun h0=>?_)
   ·have:=of_decide_eq_true h0
    rw [if_neg (by omega)] at k
    exact k _ _ (s1.trans s2) rfl
   have:=of_decide_eq_false (Bool.not_eq_true _ ▸ h0)
   rw [if_pos (by omega)] at k
   have hp2:=s2 _ _ hp
   refine ⟨_,rfl,_,rfl,p,Ao,dx,_,_,rfl,hp2,T.Bo,T.Eh,rfl,_,rfl,p,Ao,dx,_,_,rfl,hp2,T.Bo,T.DK,rfl,
    l,(rs.drop (n + 1)).take (hd.deep * hd.high),hd.wide,hd.deep,rfl,⟨l,_,rfl,hl2,ajS⟩,ho.w1,ho.w2,ho.d1,ho.d2,by rw [List.length_take]; omega,fun v3' H3 s3 hv3=>?_⟩
   cases er:Dc hd.wide ((rs.drop (n + 1)).take (hd.deep * hd.high)) with
   | none =>
    rw [er] at hv3 k
    have hv3:v3' = .non:=hv3
    subst hv3
    exact ⟨_,rfl,_,rfl,Dm (k _ _ ((s1.trans s2).trans s3) rfl)⟩
   | some ls =>
    rw [er] at hv3 k
    obtain ⟨pd,hv3,hpd⟩:=hv3
    subst hv3
    refine ⟨_,rfl,_,rfl,Ej ?_⟩
    have c3:=s2.trans s3
    have hp3:=c3 _ _ hp
    refine ⟨_,rfl,p,Ao,dx,_,_,rfl,hp3,T.Bo,T.Gd,rfl,?_⟩
    refine ⟨_,rfl,p,Ao,dx,_,_,rfl,hp3,T.Bo,T.Eh,rfl,?_⟩
    refine ⟨_,rfl,p,Ao,dx,_,_,rfl,hp3,T.Bo,T.DK,rfl,?_⟩
    refine ⟨_,rfl,p,Ao,dx,_,_,rfl,hp3,T.Bo,T.DW,rfl,?_⟩
    refine ⟨_,rfl,?_⟩
    refine ZQ fun x H4 s4 ⟨dx',hx⟩=>?_
    have hfl:=Mx.Oe er
    rw [List.length_take,List.length_drop,Nat.min_eq_left (by omega)] at hfl
    have abf:Full ⟨hd.name,hd.wide,hd.deep,hd.high,hd.weight,ls.flatten⟩:=by
     unfold Full
     dsimp only
     rw [hfl,Nat.mul_comm,Nat.mul_assoc]
    refine k _ _ (((s1.trans s2).trans s3).trans s4) ⟨x,rfl,?_,abf,ho.nm,ho.d2,ho.h2⟩
    have akf:=Mx.aac abf
    rw [akf]
    refine ⟨dx',na,pd,hx,s4 _ _ (c3 _ _ hna),s4 _ _ hpd,?_⟩
    have l1:=Mx.Wv hd.wide hd.deep ls.flatten 0
    have l2:hd.deep * hd.high * hd.wide <= 288 * 16:=Nat.mul_le_mul bnd ho.w2
    dsimp only
    omega
abbrev J0 (C:Addr) (H:Hp) (qs:List Addr) (ps:List Br.Part):Prop:=Paired (fun q p=>QD C H q p) qs ps
def aas (C:Addr) (H:Hp) (v:V) (ps:List Br.Part):Prop:=∃ l qs,v = .ref l/\H l=some (.lst (qs.map V.ref))/\J0 C H qs ps
theorem Hw {C:Addr} {H H':Hp} (s:Ai H H'):∀ {qs:List Addr} {ps:List Br.Part},J0 C H qs ps->J0 C H' qs ps
 | _,_,.nil=>.nil
 | _,_,.cons h t=>.cons (h.same s) (Hw s t)
theorem QD.upd {C:Addr} {H:Hp} {a l:Addr} {p:Br.Part} {xs ys:List V} (hl:H l=some (.lst xs)) (h:QD C H a p):QD C (upd H l (.lst ys)) a p:=by
 obtain ⟨⟨dx,na,da,h1,h2,h3,h4⟩,f,n,d1,d2⟩:=h
 exact ⟨⟨dx,na,da,by rw [Ah (G7 h1 hl (by intro z; cases z))]; exact h1,by rw [Ah (G7 h2 hl (by intro z; cases z))]; exact h2,by rw [Ah (G7 h3 hl (by intro z; cases z))]; exact h3,h4⟩,f,n,d1,d2⟩
theorem Yo {C:Addr} {H:Hp} {l:Addr} {xs ys:List V} (hl:H l=some (.lst xs)):∀ {qs:List Addr} {ps:List Br.Part},J0 C H qs ps->J0 C (upd H l (.lst ys)) qs ps
 | _,_,.nil=>.nil
 | _,_,.cons h t=>.cons (h.upd hl) (Yo hl t)
def akp (C:Addr) (o:Option (List Br.Part)) (v:V) (H:Hp):Prop:=match o with
 | none=>v = .non
 | some ps=>aas C H v ps
def Ph (K:PySem.W.Frag) (C:Addr):Sp:=fun vs H Q _=>∃ (a:Addr) (t:Bytes),vs=[.ref a]/\SqL K H a (bV t)/\t.length <= 1000000/\Out H Q (akp C (readM Qj t))
theorem HX:Av ["text", "rows", "parts", "first", "part"] ["text"] (Al Ji):=⟨rfl,rfl,rfl,by decide +kernel,rfl,by decide +kernel,by decide +kernel⟩
theorem KR {d:UInt8}:∀ t:Bytes,(split d t).length <= t.length + 1
 | []=>by simp [split]
 | c :: r=>by
  have:=KR (d:=d) r
  rw [split]
  by_cases e:c=d
  ·rw [if_pos e]; simp; omega
  ·rw [if_neg e]
   cases e2:split d r with
   | nil=>simp
   | cons q qs=>rw [e2] at this; simp at this ⊢; omega
theorem RV (T:Txt K mg Ao Ac Ak Ax Ag):Cl P w K mg base 5 "read_catalogue" ["text"] (Ph K Ao):=by
 refine T.RD.ok HX (fun vs H Q E h=>?_) (fun f cdv A outer s H vs Q E hr h=>?_)
 ·obtain ⟨a,t,rfl,_⟩:=h
  rfl
 ·obtain ⟨a,t,rfl,hS,hlen,k⟩:=h
  have nd:=HX.nd
  refine ⟨_,(Ad (Ba (i:=1) nd rfl (Or.inl rfl) (Bm (YS T) hr rfl (Aa (pv 0) (Ae)))) (Ad (Bj (Cg (Dk (pv 1))) (Af (Am BZ)) Ar) (Ad (Ba (i:=2) nd rfl (Or.inl rfl) (Cq Ae)) (Ad (Ba (i:=3) nd rfl (Or.inl rfl) Aq) (Ad (VH PassesOwn.never (Bd S9 (pv 3) (Bc Ay (by rfl) T.CJ PySem.boot_len (Aa (pv 1) (Ae))) (Bg _))
    (Ad (Ba (i:=4) nd rfl (Or.inl rfl) (Bm (abD T) hr rfl (Aa (pv 1) (Aa (pv 3) (Ae))))) (Ad (Bj (PW.pt (Eu (Cg (Dk (pv 4))) (Fi (Bd Gp (Bc Ay (by rfl) T.CJ PySem.boot_len (Aa (pv 2) (Ae))) (Cp T.Zh rfl) (Bg _))))) (Af (Am BZ)) Ar) (Ad (JP (S6 PySem.F.plainAttrs_list PySem.F.slot_list_append PySem.F.type_list_append GP (pv 2) (Aa (pv 4) (Ae)))) (Af (Ba (i:=3) nd rfl (Or.inl rfl) (BW Fj (BW Fj (pv 3) Aq) (BW Oh (Az (pv 4) rfl) (Az (pv 4) rfl))))))))) (Ad (Bj (Bd Gp (Bc Ay (by rfl) T.CJ PySem.boot_len (Aa (pv 2) (Ae))) Aq (Bg _)) (Af (Am BZ)) Ar) (Af (Am (pv 2))))))))),?_⟩
  refine ⟨_,rfl,a,t,rfl,hS,hlen,fun v1 H1 s1 ⟨rs,tl,et,hv1⟩=>?_⟩
  obtain ⟨e1,e2⟩:=Mx.NP et
  have eR:readM Qj t=if tl=[] then ae0 rs else none:=by rw [e1]; exact Mx.ahA e2
  rw [eR] at k
  have aj5:rs.length <= 1000000:=by
   have:=KR (d:=10) t
   rw [et,List.length_append,List.length_singleton] at this
   omega
  have hll:∀ r ∈ rs,r.length <= 1000000:=fun r hr'=>by
   have:=Mx.split_len (d:=10) (t:=t) (p:=r) (by rw [et]; exact List.mem_append_left _ hr')
   omega
  by_cases htl:tl=[]
  case neg =>
   rw [if_neg htl] at hv1 k
   subst hv1
   exact ⟨_,rfl,_,rfl,Dm (k _ _ s1 rfl)⟩
  rw [if_pos htl] at hv1 k
  obtain ⟨p,qs,ev,hp,hq⟩:=hv1
  subst ev
  have hql:=Bh hq
  refine ⟨_,rfl,_,rfl,Ej ?_⟩
  refine ⟨Nat.zero_le _,fun lp hlp=>?_⟩
  have s2:Ai H1 (upd H1 lp (.lst [])):=Ai.new hlp
  have ajX:upd H1 lp (.lst []) lp=some (.lst (([]:List Addr).map V.ref)):=Ab
  generalize upd H1 lp (.lst [])=H2 at s2 ajX
  have nlp:H lp=none:=s1.free hlp
  refine ⟨fun m σ H'=>∃ (v4:Option V) (n:Nat) (qp:List Addr) (ps:List Br.Part),σ=[some (.ref a),some (.ref p),some (.ref lp),some (.int (n:Int)),v4]/\Ai H1 H'/\H' lp=some (.lst (qp.map V.ref))/\J0 Ao H' qp ps/\ps.length <= 64 /\
    Ds 64 rs=(Ds (64 - ps.length) (rs.drop n)).map (ps ++ ·)/\(ps=[]->n=0)/\m=rs.length - n,
   ⟨_,none,0,[],[],rfl,s2,ajX,.nil,by decide,by show Ds 64 rs=(Ds 64 rs).map _; cases Ds 64 rs <;> rfl,fun _=>rfl,rfl⟩,?_⟩
  rintro m σ H' ⟨v4,n,qp,ps,rfl,sm,hl',hps,h64,hM,h0n,rfl⟩
  have hpl:=Bh hps
  refine ⟨_,rfl,_,rfl,p,_,rfl,.inl (SqL.of (sm _ _ hp)),_,_,rfl,rfl,_,rfl,?_⟩
  rw [List.length_map,hql]
  refine BJ (fun h0=>?_) (fun h0=>?_)
  ·have hn:n < rs.length:=by have:=of_decide_eq_true h0; omega
   refine ⟨fun σ' H''=>∃ (v4:Option V) (n':Nat) (qp:List Addr) (ps:List Br.Part),σ'=[some (.ref a),some (.ref p),some (.ref lp),some (.int (n':Int)),v4]/\Ai H1 H''/\H'' lp=some (.lst (qp.map V.ref))/\J0 Ao H'' qp ps/\ps.length <= 64 /\
    Ds 64 rs=(Ds (64 - ps.length) (rs.drop n')).map (ps ++ ·)/\(ps=[]->n'=0)/\rs.length - n' < rs.length - n,
    fun σ' H'' ⟨v4,n',qp,ps,a1,a2,a3,a4,a5,a6,a7,a8⟩=>⟨_,a8,v4,n',qp,ps,a1,a2,a3,a4,a5,a6,a7,rfl⟩,?_⟩
   obtain ⟨r,hr0⟩:∃ r,rs[n]? = some r:=⟨rs[n],List.getElem?_eq_getElem hn⟩
   have ed:rs.drop n=r :: rs.drop (n + 1):=by
    have:=(List.getElem?_eq_some_iff.mp hr0)
    rw [List.drop_eq_getElem_cons this.1,this.2]
   have aj6:ae0 rs=Ds 64 rs:=by
    cases rs with
    | nil=>cases hr0
    | cons r' rs'=>rfl
   refine ⟨_,rfl,_,rfl,p,rs,n,rfl,⟨p,qs,rfl,sm _ _ hp,Fb sm hq⟩,hn,aj5,hll,fun v5 H5 s5 hv5=>?_⟩
   refine ⟨_,rfl,_,rfl,?_⟩
   cases eP:Hx (rs.drop n) with
   | none =>
    rw [eP] at hv5
    have hv5:v5 = .non:=hv5
    subst hv5
    refine Dm (Dm (k _ _ ((s1.trans sm).trans s5) ?_))
    rw [aj6,hM,ed]
    rw [ed] at eP
    cases e64:64 - ps.length with
    | zero=>rfl
    | succ j=>rw [Ds,eP]; rfl
   | some x =>
    rw [eP] at hv5
    obtain ⟨b,hv5,hb⟩:=hv5
    subst hv5
    obtain ⟨p1,rest⟩:=x
    obtain ⟨er1,er2⟩:=Mx.Yq eP
    dsimp only at hb er1 er2
    have hl5:=s5 _ _ hl'
    refine Ej ⟨_,rfl,lp,_,rfl,.inl (SqL.of hl5),rfl,_,rfl,?_⟩
    rw [List.length_map,hpl]
    refine BJ (fun h6=>?_) (fun h6=>?_)
    ·refine k _ _ ((s1.trans sm).trans s5) ?_
     have:ps.length=64:=by
      have:=of_decide_eq_true h6
      injection this with this
      omega
     rw [aj6,hM,this,ed]
     rfl
    have hlt:ps.length < 64:=by
     have:¬ V.int (ps.length:Int)=V.int 64:=by simpa using h6
     have:¬ ps.length=64:=fun z=>this (by rw [z]; rfl)
     omega
    refine ⟨_,rfl,.inl ⟨rfl,_,SqL.of hl5⟩,_,rfl,lp,_,_,rfl,rfl,hl5,(by rw [List.length_map]; exact Ci (by omega)),?_⟩
    have hb6:=hb.upd (ys:=qp.map V.ref ++ [.ref b]) hl5
    have ajU:=Yo (ys:=qp.map V.ref ++ [.ref b]) hl5 (Hw s5 hps)
    have hl6:upd H5 lp (.lst (qp.map V.ref ++ [.ref b])) lp=some (.lst ((qp ++ [b]).map V.ref)):=by rw [Ab,List.map_append]; rfl
    have sm6:Ai H1 (upd H5 lp (.lst (qp.map V.ref ++ [.ref b]))):=Ai.Gf hlp (sm.trans s5)
    generalize upd H5 lp (.lst (qp.map V.ref ++ [.ref b]))=H6 at hb6 ajU hl6 sm6
    obtain ⟨dx,na,da,hb7,_⟩:=hb6.at_
    refine ⟨_,rfl,_,_,rfl,rfl,_,rfl,b,Ao,dx,_,_,rfl,hb7,T.Bo,T.DK,rfl,_,rfl,b,Ao,dx,_,_,rfl,hb7,T.Bo,T.DW,rfl,_,_,rfl,rfl,.inl ⟨by have:=hb.d1; omega,by have:=hb.d1; omega⟩,_,_,rfl,rfl,?_⟩
    have en:(n:Int) + 1 + (p1.deep:Int) * (p1.high:Int)=((n + 1 + p1.deep * p1.high:Nat):Int):=by push_cast; rfl
    refine ⟨_,n + 1 + p1.deep * p1.high,qp ++ [b],ps ++ [p1],by rw [<- en]; rfl,sm6,hl6,DQ ajU (.cons hb6 .nil),by simp; omega,?_,fun z=>by simp at z,by omega⟩
    rw [hM,ed]
    rw [ed] at eP
    have e64:64 - ps.length=(64 - (ps ++ [p1]).length) + 1:=by simp; omega
    rw [e64,Ds,eP]
    dsimp only
    rw [er1,List.drop_drop]
    rw [show n + (1 + p1.deep * p1.high)=n + 1 + p1.deep * p1.high by omega]
    cases Ds (64 - (ps ++ [p1]).length) (rs.drop (n + 1 + p1.deep * p1.high)) with
    | none=>rfl
    | some l=>simp
  ·have hn:rs.length <= n:=by have:=of_decide_eq_false (Bool.not_eq_true _ ▸ h0); omega
   rw [List.drop_of_length_le hn] at hM
   have hM':Ds 64 rs=some ps:=by
    rw [hM]
    cases 64 - ps.length <;> simp [Ds]
   refine ⟨_,rfl,lp,_,rfl,.inl (SqL.of hl'),rfl,_,rfl,?_⟩
   rw [List.length_map,hpl]
   refine BJ (fun h5=>?_) (fun h5=>?_)
   ·refine k _ _ (s1.trans sm) ?_
    have e5:ps=[]:=List.length_eq_zero_iff.mp (by have:=of_decide_eq_true h5; injection this with this; omega)
    have:rs=[]:=List.length_eq_zero_iff.mp (by have:=h0n e5; omega)
    rw [this]; rfl
   ·refine ⟨_,rfl,k _ _ (s1.trans sm) ?_⟩
    have:ae0 rs=some ps:=by
     cases rs with
     | nil =>
      exfalso
      cases hM'
      exact h5 rfl
     | cons r' rs'=>exact hM'
    rw [this]
    exact ⟨lp,qp,rfl,hl',hps⟩
end
open Mx (P3 split Gr BK cellsOf Full Cz Ec namesOf Iv Mj)
open Br (Bytes isLow isDigit before)
theorem ahE (t:Bytes):bV t=(t.map fun c=>(c.toNat:Int)).map V.int:=by unfold bV; rw [List.map_map]; rfl
theorem Wg:∀ a b:Bytes,HT.lexLt (a.map fun c=>(c.toNat:Int)) (b.map fun c=>(c.toNat:Int))=before a b
 | [],[]=>rfl
 | [],_ :: _=>rfl
 | _ :: _,[]=>rfl
 | x :: a,y :: b=>by
  rw [List.map_cons,List.map_cons,HT.Wj,Wg a b,before]
  by_cases e:x=y
  ·subst e
   simp
  ·have e1:¬ (x.toNat:Int)=(y.toNat:Int):=fun z=>e (UInt8.toNat_inj.mp (by omega))
   have e2:(x == y)=false:=by simpa using e
   rw [if_neg e1,e2,Bool.false_and,Bool.or_false,decide_eq_decide]
   omega
theorem Lb:∀ ns:List Bytes,(∀ (j:Nat) a b,ns[j]? = some a->ns[j + 1]? = some b->before a b=true)->Ec ns=true
 | [],_=>rfl
 | [_],_=>rfl
 | a :: b :: r,h=>by
  rw [Ec,h 0 a b rfl rfl,Bool.true_and]
  exact Lb (b :: r) fun j x y hx hy=>h (j + 1) x y (by simpa using hx) (by simpa using hy)
theorem aaS:∀ (ns:List Bytes) (j:Nat) (a b:Bytes),ns[j]? = some a->ns[j + 1]? = some b->before a b=false->Ec ns=false
 | [],j,a,b,h,_,_=>by simp at h
 | [_],j,a,b,_,h,_=>by simp at h
 | x :: y :: r,0,a,b,h1,h2,h=>by
  cases h1
  cases h2
  rw [Ec,h,Bool.false_and]
 | x :: y :: r,j + 1,a,b,h1,h2,h=>by
  rw [Ec,aaS (y :: r) j a b (by simpa using h1) (by simpa using h2) h,Bool.and_false]
section
variable {P:Program} {w:World} {K:PySem.W.Frag} {mg:Str->Option Value} {base:Heap} {Ao Ac Ak Ax Ag:Addr}
def Xi (C:Addr):Sp:=fun vs H Q _=>∃ (a:Addr) (ps:List Br.Part),vs=[.ref a]/\aas C H (.ref a) ps/\ps.length <= 1000000/\Out H Q (fun v _=>v = .bl (Ec (namesOf ps)))
theorem Ny:Av ["parts", "number"] ["parts"] (Al PQ):=⟨rfl,rfl,rfl,by decide +kernel,rfl,by decide +kernel,by decide +kernel⟩
theorem aal (T:Txt K mg Ao Ac Ak Ax Ag):Cl P w K mg base 1 "names_rise" ["parts"] (Xi Ao):=by
 refine T.Z8.ok Ny (fun vs H Q E h=>?_) (fun f cdv A outer s H vs Q E hr h=>?_)
 ·obtain ⟨a,ps,rfl,_⟩:=h
  rfl
 ·obtain ⟨a,ps,rfl,⟨a',qs,ea,ha,hps⟩,hlen,k⟩:=h
  cases ea
  have nd:=Ny.nd
  have hpl:=Bh hps
  refine ⟨_,(Ad (CG PassesOwn.never rfl (aew rfl T.Qw (Aa (Aq) (Aa (Bc Ay (by rfl) T.CJ PySem.boot_len (Aa (pv 0) (Ae))) (Ae)))) (Be (i:=1) nd rfl (Or.inl rfl))
    (Af (Bj (Gh (Bd (aiu hr.ah1) (Az (Ck BP (pv 0) (BW JT (pv 1) Aq) (fun _ _=>rfl)) rfl) (Az (Ck BP (pv 0) (pv 1) (fun _ _=>rfl)) rfl) (Bg _))) (Af (Am Dy)) Ar))) (Af (Am Dy))),?_⟩
  refine ⟨_,rfl,a,_,rfl,.inl (SqL.of ha),_,_,rfl,⟨by decide,by decide,by rw [List.length_map]; omega,by rw [List.length_map]; omega⟩,?_⟩
  rw [List.length_map,hpl]
  refine Js (fun i σ H'=>∃ v1:Option V,σ=[some (.ref a),v1]/\Ai H H'/\∀ (j:Nat) x y,j < i->(namesOf ps)[j]? = some x->(namesOf ps)[j + 1]? = some y->before x y=true)
   ⟨none,rfl,Ai.refl _,fun j x y hj=>absurd hj (Nat.not_lt_zero _)⟩ ?_ ?_
  ·rintro i σ H' hi ⟨v1,rfl,sm,hb⟩
   have hi':i + 1 < ps.length:=by omega
   obtain ⟨q0,hq0⟩:∃ q,qs[i]? = some q:=⟨qs[i],List.getElem?_eq_getElem (by omega)⟩
   obtain ⟨q1,hq1⟩:∃ q,qs[i + 1]? = some q:=⟨qs[i + 1],List.getElem?_eq_getElem (by omega)⟩
   obtain ⟨p0,hp0,c0⟩:=Ca hps hq0
   obtain ⟨p1,hp1,c1⟩:=Ca hps hq1
   obtain ⟨dx0,na0,da0,h0,n0,_⟩:=(c0.same sm).at_
   obtain ⟨dx1,na1,da1,h1,n1,_⟩:=(c1.same sm).at_
   rw [ahE] at n0 n1
   have e0:(namesOf ps)[i]? = some p0.name:=by unfold Mx.namesOf; rw [List.getElem?_map,hp0]; rfl
   have e1:(namesOf ps)[i + 1]? = some p1.name:=by unfold Mx.namesOf; rw [List.getElem?_map,hp1]; rfl
   refine ⟨_,rfl,_,rfl,_,_,rfl,rfl,a,_,_,_,rfl,rfl,SqL.of (sm _ _ ha),Ea hq0 (by omega),q0,Ao,dx0,_,_,rfl,h0,T.Bo,T.Gd,rfl,?_⟩
   refine ⟨_,rfl,_,rfl,a,_,_,_,rfl,rfl,SqL.of (sm _ _ ha),Ea hq1 (by omega),q1,Ao,dx1,_,_,rfl,h1,T.Bo,T.Gd,rfl,?_⟩
   refine ⟨na0,na1,_,_,rfl,rfl,SqT.of n0,SqT.of n1,_,rfl,?_⟩
   rw [Wg]
   refine BJ (fun hlt=>?_) (fun hlt=>?_)
   ·refine k _ _ sm (congrArg V.bl ?_)
    rw [Bool.not_eq_true'] at hlt
    exact (aaS _ i _ _ e0 e1 hlt).symm
   ·refine ⟨_,rfl,sm,fun j x y hj hx hy=>?_⟩
    by_cases e:j=i
    ·subst e
     rw [e0] at hx
     rw [e1] at hy
     cases hx
     cases hy
     simpa using hlt
    ·exact hb j x y (by omega) hx hy
  ·rintro σ H' ⟨v1,rfl,sm,hb⟩
   refine k _ _ sm (congrArg V.bl (Lb _ fun j x y hx hy=>hb j x y ?_ hx hy).symm)
   have:=(List.getElem?_eq_some_iff.mp hy).1
   unfold Mx.namesOf at this
   rw [List.length_map] at this
   omega
def Kw (C:Addr):Sp:=fun vs H Q _=>∃ (a:Addr) (ps:List Br.Part),vs=[.ref a]/\aas C H (.ref a) ps/\ps.length <= 1000000/\Out H Q (fun v _=>v = .bl (ps.all Cz && Ec (namesOf ps)))
theorem Gy:Av ["parts", "part"] ["parts"] (Al Et):=⟨rfl,rfl,rfl,by decide +kernel,rfl,by decide +kernel,by decide +kernel⟩
theorem Mg (T:Txt K mg Ao Ac Ak Ax Ag):Cl P w K mg base 5 "is_right_catalogue" ["parts"] (Kw Ao):=by
 refine T.LC.ok Gy (fun vs H Q E h=>?_) (fun f cdv A outer s H vs Q E hr h=>?_)
 ·obtain ⟨a,ps,rfl,_⟩:=h
  rfl
 ·obtain ⟨a,ps,rfl,⟨a',qs,ea,ha,hps⟩,hlen,k⟩:=h
  cases ea
  have nd:=Gy.nd
  have hpl:=Bh hps
  refine ⟨_,(Af (Am (JR (Bc (ags rfl) (by rfl) T.ahW Y0 (Aa (aaX rfl nd (GX (pv 0)) (HF (own:=[("part",1)]) (show aao ["parts", "part"] (Al Et) _ [("part",1)] = true from by decide +kernel))
    (fun _ _ _ _ _=>Be (i:=1) nd rfl (Or.inl rfl)) (fun _ _ _ _ _=>JM) (fun _ _ _ _ _=>Bm (Ut T) hr rfl (Aa (pv 1) (Ae)))) (Ae))) (Ro (Bm (aal T) hr rfl (Aa (pv 0) (Ae))))))),?_⟩
  refine ⟨_,rfl,a,rfl,⟨_,SqL.of ha⟩,fun D hD=>?_⟩
  refine ZS (K:=K) (a:=a) (xs:=qs.map V.ref) (fun j H2=>Ai H H2/\H2 D=some (.lst ((ps.take j).map fun p=>.bl (Cz p)))) ⟨Ai.new hD,Ab⟩
   (fun j H2 _ p=>SqL.of (p.1 _ _ ha)) ?_ ?_
  ·rintro j x H2 hj ⟨p1,p2⟩
   obtain ⟨q,hq,rfl⟩:∃ q,qs[j]? = some q/\x = .ref q:=by
    rw [List.getElem?_map] at hj
    cases e:qs[j]? with
    | none=>rw [e] at hj; cases hj
    | some q=>rw [e] at hj; exact ⟨q,rfl,(Option.some.inj hj).symm⟩
   obtain ⟨p,hp,c⟩:=Ca hps hq
   have hjl:j < ps.length:=(List.getElem?_eq_some_iff.mp hp).1
   refine ⟨rfl,Ol ?_⟩
   refine ⟨_,rfl,q,_,p,rfl,(c.same p1).at_,c.full,fun v H3 s3 ev=>?_⟩
   subst ev
   refine ⟨_,s3 _ _ p2,?_,Ai.Gf hD (p1.trans s3),?_⟩
   ·rw [List.length_map,List.length_take]; exact Ci (by omega)
   ·rw [Ab,List.take_succ,hp,List.map_append]; rfl
  ·rintro H2 ⟨p1,p2⟩
   rw [List.length_map,hpl,List.take_length] at p2
   refine ⟨D,ps.map Cz,rfl,SqL.of (by rw [p2,List.map_map]; rfl),_,rfl,?_⟩
   have e:(ps.map Cz).all id=ps.all Cz:=by rw [List.all_map]; rfl
   rw [e]
   refine BJ (fun h1=>?_) (fun h1=>?_)
   ·refine ⟨_,rfl,a,ps,rfl,⟨a,qs,rfl,p1 _ _ ha,Hw p1 hps⟩,hlen,fun v H3 s3 ev=>k _ _ (p1.trans s3) ?_⟩
    rw [ev,h1]; rfl
   ·refine k _ _ p1 ?_
    rw [Bool.not_eq_true] at h1
    rw [h1]; rfl
def VM (p x y z t:V):List (Str × V):=[("part",p),("x",x),("y",y),("z",z),("turns",t)]
def adp (C:Addr):Sp:=fun vs H Q _=>∃ (p dx:Addr) (n w d h c:V),vs=[.ref p,n,w,d,h,c]/\H p=some (.ins C dx []) /\
 ∀ H':Hp,H' p=some (.ins C dx (VM n w d h c))->(∀ b o,H b=some o->b ≠ p->H' b=some o)->Q .non H'
theorem agT:Av ["self", "part", "x", "y", "z", "turns"] ["self", "part", "x", "y", "z", "turns"] (Al afx):=⟨rfl,rfl,rfl,by decide +kernel,rfl,by decide +kernel,by decide +kernel⟩
theorem ai9 (T:Txt K mg Ao Ac Ak Ax Ag):ClC P w K mg base 1 "Line" Ax ["self", "part", "x", "y", "z", "turns"] (adp Ax):=by
 refine T.ai7.ok agT (fun vs H Q E h=>?_) (fun f cdv A outer s H vs Q E hr h=>?_)
 ·obtain ⟨p,dx,n,w,d,h,c,rfl,_⟩:=h
  rfl
 ·obtain ⟨p,dx,n,w,d,h,c,rfl,hp,k⟩:=h
  refine ⟨_,(Ad (Dd (pv 0) (pv 1) rfl) (Ad (Dd (pv 0) (pv 2) rfl) (Ad (Dd (pv 0) (pv 3) rfl) (Ad (Dd (pv 0) (pv 4) rfl) (Af (Dd (pv 0) (pv 5) rfl)))))),?_⟩
  refine ⟨_,rfl,_,rfl,p,Ax,dx,_,rfl,hp,T.Fd,T.T3,(by show 0 < 1000; decide),?_⟩
  refine ⟨_,rfl,_,rfl,p,Ax,dx,_,rfl,Ab,T.Fd,T.WX,(by show 1 < 1000; decide),?_⟩
  refine ⟨_,rfl,_,rfl,p,Ax,dx,_,rfl,Ab,T.Fd,T.WW,(by show 2 < 1000; decide),?_⟩
  refine ⟨_,rfl,_,rfl,p,Ax,dx,_,rfl,Ab,T.Fd,T.WT,(by show 3 < 1000; decide),?_⟩
  refine ⟨_,rfl,_,rfl,p,Ax,dx,_,rfl,Ab,T.Fd,T.Qz,(by show 4 < 1000; decide),?_⟩
  refine k _ (Eq.trans Ab rfl) fun b o e hb=>?_
  rw [Ah hb,Ah hb,Ah hb,Ah hb,Ah hb]
  exact e
theorem ahb {H1:Hp} {Q:VK} {n w d h c:V} (k:∀ x H',Ai H1 H'->(∃ dx,H' x=some (.ins Ax dx (VM n w d h c)))->Q (.ref x) H') :
  ∀ x dx,H1 x=none->H1 dx=none->dx ≠ x->adp Ax (.ref x :: ([n,w,d,h,c] ++ [])) (upd (upd H1 dx (.own x)) x (.ins Ax dx [])) (fun v H2=>v = .non/\Q (.ref x) H2) E0:=fun x dx nx nd ne =>
 ⟨x,dx,n,w,d,h,c,rfl,Ab,fun H' hx kp=>⟨rfl,k x H' (Ai.made nx nd kp) ⟨dx,hx⟩⟩⟩
def Q4 (K:PySem.W.Frag):Sp:=fun vs H Q _=>∃ (a:Addr) (r:Bytes),vs=[.ref a]/\H a=some (.tup (bV r))/\r.length <= 1000000/\Out H Q (fun v _=>v = .bl (Iv r).isSome)
theorem Jd:Av ["row", "words"] ["row"] (Al Kd):=⟨rfl,rfl,rfl,by decide +kernel,rfl,by decide +kernel,by decide +kernel⟩
theorem ae6 {ws:List Bytes} (h:ws.length ≠ 2):Mj ws=none:=by
 match ws,h with
 | [],_=>rfl
 | [_],_=>rfl
 | [_,_],h=>exact absurd rfl h
 | _ :: _ :: _ :: _,_=>rfl
theorem Uw (T:Txt K mg Ao Ac Ak Ax Ag):Cl P w K mg base 3 "is_build_head" ["row"] (Q4 K):=by
 refine T.Ul.ok Jd (fun vs H Q E h=>?_) (fun f cdv A outer s H vs Q E hr h=>?_)
 ·obtain ⟨a,r,rfl,_⟩:=h
  rfl
 ·obtain ⟨a,r,rfl,ha,hlen,k⟩:=h
  have nd:=Jd.nd
  refine ⟨_,(Ad (Ba (i:=1) nd rfl (Or.inl rfl) (Bm (Ou T) hr rfl (Aa (pv 0) (Ae)))) (Af (Am (JR (Gk Gp (Bc Ay (by rfl) T.CJ PySem.boot_len (Aa (pv 1) (Ae))) Aq (Bg _)) (JR (Gk (aiv hr.units) (Ck BP (pv 1) Aq (fun _ _=>rfl)) (Bm (OD T) hr rfl (Aa (acx) (Ae))) (Bg _))
    (Ro (Bm (YT T) hr rfl (Aa (Ck BP (pv 1) Aq (fun _ _=>rfl)) (Aa (Cp T.KJ rfl) (Ae)))))))))),?_⟩
  refine ⟨_,rfl,a,r,rfl,ha,hlen,fun v H1 s1 ⟨p,qs,ev,hp,hq⟩=>?_⟩
  subst ev
  have hfree:∀ x ∈ split 32 r,x.length <= 1000000:=fun x hx=>Nat.le_trans (Mx.split_len hx) hlen
  have eM:Iv r=Mj (split 32 r):=rfl
  rw [eM] at k
  generalize split 32 r=ws at hq k hfree
  have hql:=Bh hq
  refine ⟨_,rfl,p,_,rfl,.inl (SqL.of hp),rfl,_,rfl,?_⟩
  rw [List.length_map,hql]
  refine BJ (fun h0=>?_) (fun h0=>?_)
  case refine_2 =>
   refine k _ _ s1 ?_
   rw [ae6 (fun z=>h0 (by rw [z]; rfl))]
   rfl
  have h2:ws.length=2:=by
   have:=of_decide_eq_true h0
   injection this with this
   omega
  obtain ⟨b,n,rfl⟩:∃ b n,ws=[b,n]:=by
   match ws,h2 with
   | [b,n],_=>exact ⟨b,n,rfl⟩
  obtain ⟨q0,e0,t0⟩:=Dv hq (i:=0) rfl
  obtain ⟨q1,e1,t1⟩:=Dv hq (i:=1) rfl
  refine ⟨_,rfl,p,_,_,_,rfl,rfl,SqL.of hp,Ea e0 rfl,Str.ofString "build",rfl,by decide,fun v H2 s2 ⟨pb,ev,hpb⟩=>?_⟩
  subst ev
  rw [aeD] at hpb
  refine eq_bytes (s2 _ _ t0) hpb ⟨_,rfl,?_⟩
  have eW:Mj [b,n] = if b=Br.ascii "build" then (if Gr 15 n=true then some n else none) else none:=rfl
  rw [eW] at k
  refine BJ (fun hb=>?_) (fun hb=>?_)
  ·have hb':=of_decide_eq_true hb
   rw [if_pos hb'] at k
   refine ⟨_,rfl,p,_,_,_,rfl,rfl,SqL.of (s2 _ _ hp),Ea e1 rfl,q1,n,15,rfl,s2 _ _ t1,hfree n (by simp),fun v H3 s3 ev=>k _ _ ((s1.trans s2).trans s3) ?_⟩
   rw [ev]
   cases Gr 15 n <;> rfl
  ·have hb':¬ b=Br.ascii "build" := fun z=>hb (decide_eq_true z)
   rw [if_neg hb'] at k
   exact k _ _ (s1.trans s2) rfl
end
open Mx (P3 split Gr BK cellsOf Full Cz Ec Iv Mj Ls Hy GQ Hb ZR WN Ex readM)
def kB (t:Bytes):List Key:=t.map fun c=>.inl (c.toNat:Int)
theorem ajK (t:Bytes):(kB t).map kV=bV t:=by unfold kB bV; rw [List.map_map]; rfl
theorem acQ:∀ {a b:Bytes},kB a=kB b->a=b
 | [],[],_=>rfl
 | [],_ :: _,h=>by cases h
 | _ :: _,[],h=>by cases h
 | x :: a,y :: b,h=>by
  unfold kB at h
  rw [List.map_cons,List.map_cons] at h
  have h1:=(List.cons.inj h).1
  have h2:kB a=kB b:=(List.cons.inj h).2
  have e:x=y:=UInt8.toNat_inj.mp (by injection h1 with h1; omega)
  rw [e,acQ h2]
def Fo:List Addr->List Br.Part->List (List Key × V)
 | q :: qs,p :: ps=>(kB p.name,.ref q) :: Fo qs ps
 | _,_=>[]
theorem Yz:∀ {qs:List Addr} {ps:List Br.Part} {q:Addr} {p:Br.Part},qs.length=ps.length->Fo (qs ++ [q]) (ps ++ [p])=Fo qs ps ++ [(kB p.name,.ref q)]
 | [],[],_,_,_=>rfl
 | [],_ :: _,_,_,h=>by simp at h
 | _ :: _,[],_,_,h=>by simp at h
 | a :: qs,b :: ps,q,p,h=>by
  rw [List.cons_append,List.cons_append,Fo,Fo,Yz (by simpa using h)]
  rfl
theorem Yy:∀ {qs:List Addr} {ps:List Br.Part},(Fo qs ps).length <= ps.length
 | [],ps=>by cases ps <;> simp [Fo]
 | _ :: _,[]=>by simp [Fo]
 | a :: qs,b :: ps=>by
  rw [Fo,List.length_cons,List.length_cons]
  have:=Yy (qs:=qs) (ps:=ps)
  omega
theorem Yx:∀ {qs:List Addr} {ps:List Br.Part} (w:Bytes),qs.length=ps.length->Ez (Fo qs ps) (kB w)=(GQ (Mx.namesOf ps) w).bind fun i=>(qs[i]?).map V.ref
 | [],[],w,_=>rfl
 | [],_ :: _,_,h=>by simp at h
 | _ :: _,[],_,h=>by simp at h
 | q :: qs,p :: ps,w,h=>by
  have ih:=Yx (qs:=qs) (ps:=ps) w (by simpa using h)
  rw [Fo]
  unfold GQ Mx.namesOf at ih ⊢
  rw [List.map_cons,List.findIdx?_cons]
  by_cases e:p.name=w
  ·rw [Di (by rw [e]),e]
   simp
  ·have e':(p.name == w)=false:=by simpa using e
   rw [Dj (fun z=>e (acQ z)),ih,e']
   cases List.findIdx? (fun n=>n == w) (ps.map fun p=>p.name) with
   | none=>rfl
   | some i=>simp
theorem V6:∀ {qs:List Addr} {ps:List Br.Part} {w:Bytes},kB w ∈ (Fo qs ps).map (·.1)->w ∈ Mx.namesOf ps
 | [],ps,w,h=>by cases ps <;> simp [Fo] at h
 | _ :: _,[],w,h=>by simp [Fo] at h
 | q :: qs,p :: ps,w,h=>by
  rw [Fo,List.map_cons] at h
  unfold Mx.namesOf
  rw [List.map_cons]
  rcases List.mem_cons.mp h with h | h
  ·rw [acQ h]; exact List.mem_cons_self ..
  ·exact List.mem_cons_of_mem _ (V6 h)
theorem ad2 {kvs:List (List Key × V)} {k:List Key} (h:k ∉ kvs.map (·.1)):Ez kvs k=none:=by
 cases e:Ez kvs k with
 | none=>rfl
 | some v=>exact absurd (agJ e) h
def W6 (C:Addr) (qs:List Addr) (H:Hp) (a:Addr) (l:Br.Line):Prop:=∃ dx q,qs[l.part]? = some q/\H a=some (.ins C dx (VM (.ref q) (.int (l.x:Int)) (.int (l.y:Int)) (.int (l.z:Int)) (.int (l.r:Int))))
theorem W6.same {C:Addr} {qs:List Addr} {H H':Hp} {a:Addr} {l:Br.Line} (s:Ai H H') (h:W6 C qs H a l):W6 C qs H' a l:=let ⟨dx,q,h1,h2⟩:=h; ⟨dx,q,h1,s _ _ h2⟩
theorem af2 {names ws:List Bytes} (h:ws.length ≠ 7):Hy names ws=none:=by
 match ws,h with
 | [],_=>rfl
 | [_],_=>rfl
 | [_,_],_=>rfl
 | [_,_,_],_=>rfl
 | [_,_,_,_],_=>rfl
 | [_,_,_,_,_],_=>rfl
 | [_,_,_,_,_,_],_=>rfl
 | [_,_,_,_,_,_,_],h=>exact absurd rfl h
 | _ :: _ :: _ :: _ :: _ :: _ :: _ :: _ :: _,_=>rfl
section
variable {P:Program} {w:World} {K:PySem.W.Frag} {mg:Str->Option Value} {base:Heap} {Ao Ac Ak Ax Ag:Addr}
def abT (C:Addr) (qs:List Addr) (o:Option Br.Line) (v:V) (H:Hp):Prop:=match o with
 | none=>v = .non
 | some l=>∃ a,v = .ref a/\W6 C qs H a l
def Zr (C:Addr):Sp:=fun vs H Q _=>∃ (a d:Addr) (r:Bytes) (qs:List Addr) (ps:List Br.Part),vs=[.ref a,.ref d]/\H a=some (.tup (bV r))/\r.length <= 1000000/\H d=some (.dT (Fo qs ps))/\qs.length=ps.length/\Out H Q (abT C qs (Ls ps r))
theorem Pr:Av ["row", "parts_by_name", "words", "part", "colour", "x", "y", "z", "turns"] ["row", "parts_by_name"] (Al Su):=⟨rfl,rfl,rfl,by decide +kernel,rfl,by decide +kernel,by decide +kernel⟩
theorem abE (T:Txt K mg Ao Ac Ak Ax Ag):Cl P w K mg base 3 "read_line" ["row", "parts_by_name"] (Zr Ax):=by
 refine T.abt.ok Pr (fun vs H Q E h=>?_) (fun f cdv A outer s H vs Q E hr h=>?_)
 ·obtain ⟨a,d,r,qs,ps,rfl,_⟩:=h
  rfl
 ·obtain ⟨a,d,r,pq,ps,rfl,ha,hlen,hd,hpq,k⟩:=h
  have nd:=Pr.nd
  have hu:=Jq hr
  have C:=TJ (P:=P) (w:=w) (base:=base) T
  refine ⟨_,(Ad (Ba (i:=2) nd rfl (Or.inl rfl) (Bm (Ou T) hr rfl (Aa (pv 0) (Ae)))) (Ad (Bj (PW.pt (Eu (Bd V3 (Bc Ay (by rfl) T.CJ PySem.boot_len (Aa (pv 2) (Ae))) Aq (Bg _)) (Fi (Bd (afN hr.units) (Ck BP (pv 2) Aq (fun _ _=>rfl)) (Bm (OD T) hr rfl (Aa (acx) (Ae))) (Bg _))))) (Af (Am BZ)) Ar) (Ad (Ba (i:=3) nd rfl (Or.inl rfl) (aaZ hu (pv 1) (Ck BP (pv 2) Aq (fun _ _=>rfl)) ⟨rfl,rfl,rfl,rfl⟩)) (Ad (Ba (i:=4) nd rfl (Or.inl rfl) (Bm C hr rfl (Aa (Ck BP (pv 2) Aq (fun _ _=>rfl)) (Aa (Aq) (Aa (Cp T.Xd rfl) (Ae)))))) (Ad (Ba (i:=5) nd rfl (Or.inl rfl) (Bm C hr rfl (Aa (Ck BP (pv 2) Aq (fun _ _=>rfl)) (Aa (Aq) (Aa (BW JT (Cp T.O2 rfl) Aq) (Ae)))))) (Ad (Ba (i:=6) nd rfl (Or.inl rfl) (Bm C hr rfl (Aa (Ck BP (pv 2) Aq (fun _ _=>rfl)) (Aa (Aq) (Aa (BW JT (Cp T.O3 rfl) Aq) (Ae)))))) (Ad (Ba (i:=7) nd rfl (Or.inl rfl) (Bm C hr rfl (Aa (Ck BP (pv 2) Aq (fun _ _=>rfl)) (Aa (Aq) (Aa (BW JT (Cp T.Nq rfl) Aq) (Ae)))))) (Ad (Ba (i:=8) nd rfl (Or.inl rfl) (Bm C hr rfl (Aa (Ck BP (pv 2) Aq (fun _ _=>rfl)) (Aa (Aq) (Aa (Cp T.Zg rfl) (Ae)))))) (Ad (Bj (PW.pt (Eu (Cg (Dk (pv 3))) (Eu (Cg (Dk (pv 4))) (Eu (Cg (Dk (pv 5))) (Eu (Cg (Dk (pv 6))) (Eu (Cg (Dk (pv 7))) (Fi (Cg (Dk (pv 8)))))))))) (Af (Am BZ)) Ar) (Af (Am (Qh (ai9 T) hr rfl (Aa (pv 3) (Aa (pv 5) (Aa (pv 6) (Aa (pv 7) (Aa (pv 8) (Ae)))))))))))))))))),?_⟩
  refine ⟨_,rfl,a,r,rfl,ha,hlen,fun v H1 s1 ⟨p,qs,ev,hp,hq⟩=>?_⟩
  subst ev
  have hfree:∀ x ∈ split 32 r,x.length <= 1000000:=fun x hx=>Nat.le_trans (Mx.split_len hx) hlen
  have eM:Ls ps r=Hy (Mx.namesOf ps) (split 32 r):=rfl
  rw [eM] at k
  generalize split 32 r=ws at hq k hfree
  have hql:=Bh hq
  refine ⟨_,rfl,p,_,rfl,.inl (SqL.of hp),rfl,_,rfl,?_⟩
  rw [List.length_map,hql]
  refine BJ (fun h0=>?_) (fun h0=>?_)
  ·refine Dm (k _ _ s1 ?_)
   rw [af2 (fun z=>by rw [z] at h0; exact absurd h0 (by decide))]
   rfl
  have h7:ws.length=7:=by
   have:V.int (ws.length:Int)=V.int 7:=by simpa using h0
   injection this with this
   omega
  obtain ⟨b,n,c,x,y,z,t,rfl⟩:∃ b n c x y z t,ws=[b,n,c,x,y,z,t]:=by
   match ws,h7 with
   | [b,n,c,x,y,z,t],_=>exact ⟨b,n,c,x,y,z,t,rfl⟩
  obtain ⟨q0,e0,t0⟩:=Dv hq (i:=0) rfl
  obtain ⟨q1,e1,t1⟩:=Dv hq (i:=1) rfl
  obtain ⟨q2,e2,t2⟩:=Dv hq (i:=2) rfl
  obtain ⟨q3,e3,t3'⟩:=Dv hq (i:=3) rfl
  obtain ⟨q4,e4,t4⟩:=Dv hq (i:=4) rfl
  obtain ⟨q5,e5,t5⟩:=Dv hq (i:=5) rfl
  obtain ⟨q6,e6,t6⟩:=Dv hq (i:=6) rfl
  refine ⟨_,rfl,p,_,_,_,rfl,rfl,SqL.of hp,Ea e0 rfl,Str.ofString "put",rfl,by decide,fun v H2 s2 ⟨pb,ev,hpb⟩=>?_⟩
  subst ev
  rw [ahd] at hpb
  refine ne_bytes (s2 _ _ t0) hpb ⟨_,rfl,?_⟩
  refine BJ (fun hb=>?_) (fun hb=>?_)
  ·refine k _ _ (s1.trans s2) ?_
   have hb':¬ b=Br.ascii "put" := by simpa using hb
   unfold Hy
   dsimp only
   rw [if_neg hb']
   rfl
  have hb':b=Br.ascii "put" := by simpa using hb
  subst hb'
  have c2:Ai H1 H2:=s2
  have d2:=(s1.trans s2) _ _ hd
  refine ⟨_,rfl,d,rfl,.inr ⟨_,.inl d2⟩,_,rfl,p,_,_,_,rfl,rfl,SqL.of (s2 _ _ hp),Ea e1 rfl,_,.inr ⟨Fo pq ps,kB n,q1,.inl d2,rfl,by rw [ajK]; exact s2 _ _ t1,rfl⟩,?_⟩
  rw [Yx n hpq]
  refine ⟨_,rfl,p,_,_,_,rfl,rfl,SqL.of (c2 _ _ hp),Ea e2 rfl,q2,c,0,255,rfl,c2 _ _ t2,hfree c (by simp),by decide,fun v4 H4 s4 ev4=>?_⟩
  have c4:=c2.trans s4
  refine ⟨_,rfl,p,_,_,_,rfl,rfl,SqL.of (c4 _ _ hp),Ea e3 rfl,_,_,rfl,rfl,q3,x,0,63,rfl,c4 _ _ t3',hfree x (by simp),by decide,fun v5 H5 s5 ev5=>?_⟩
  have c5:=c4.trans s5
  refine ⟨_,rfl,p,_,_,_,rfl,rfl,SqL.of (c5 _ _ hp),Ea e4 rfl,_,_,rfl,rfl,q4,y,0,63,rfl,c5 _ _ t4,hfree y (by simp),by decide,fun v6 H6 s6 ev6=>?_⟩
  have c6:=c5.trans s6
  refine ⟨_,rfl,p,_,_,_,rfl,rfl,SqL.of (c6 _ _ hp),Ea e5 rfl,_,_,rfl,rfl,q5,z,0,95,rfl,c6 _ _ t5,hfree z (by simp),by decide,fun v7 H7 s7 ev7=>?_⟩
  have c7:=c6.trans s7
  refine ⟨_,rfl,p,_,_,_,rfl,rfl,SqL.of (c7 _ _ hp),Ea e6 rfl,q6,t,0,3,rfl,c7 _ _ t6,hfree t (by simp),by decide,fun v8 H8 s8 ev8=>?_⟩
  have c8:=s1.trans (c7.trans s8)
  subst ev4 ev5 ev6 ev7 ev8
  have eL:Hy (Mx.namesOf ps) [Br.ascii "put",n,c,x,y,z,t] = match GQ (Mx.namesOf ps) n with
   | none=>none
   | some p=>match BK 0 255 c with
    | none=>none
    | some k=>match BK 0 63 x with
     | none=>none
     | some x=>match BK 0 63 y with
      | none=>none
      | some y=>match BK 0 95 z with
       | none=>none
       | some z=>match BK 0 3 t with
        | none=>none
        | some r=>some ⟨p,k,x,y,z,r⟩:=by unfold Hy; dsimp only; rw [if_pos rfl] <;> rfl
  rw [eL] at k
  refine ⟨_,rfl,_,rfl,?_⟩
  cases en:GQ (Mx.namesOf ps) n with
  | none =>
   rw [en] at k
   exact Dm (Dm (k _ _ c8 rfl))
  | some i =>
   rw [en] at k
   have hi:i < ps.length:=by
    have:=List.findIdx?_eq_some_iff_findIdx_eq.mp en
    unfold Mx.namesOf at this
    rw [List.length_map] at this
    exact this.1
   have hqi:pq[i]? = some pq[i]:=List.getElem?_eq_getElem (by omega)
   have eo:(Option.bind (some i) fun i=>(pq[i]?).map V.ref).getD V.non=V.ref (pq[i]'(by omega)):=by
    show ((pq[i]?).map V.ref).getD V.non=_
    rw [hqi]; rfl
   rw [eo]
   refine Ej ⟨_,rfl,_,rfl,?_⟩
   rw [Gn]
   cases ec:BK 0 255 c with
   | none =>
    rw [ec] at k
    exact Dm (Dm (k _ _ c8 rfl))
   | some c1 =>
    rw [ec] at k
    refine Ej ⟨_,rfl,_,rfl,?_⟩
    rw [Gn]
    cases ex:BK 0 63 x with
    | none =>
     rw [ex] at k
     exact Dm (Dm (k _ _ c8 rfl))
    | some x1 =>
     rw [ex] at k
     refine Ej ⟨_,rfl,_,rfl,?_⟩
     rw [Gn]
     cases ey:BK 0 63 y with
     | none =>
      rw [ey] at k
      exact Dm (Dm (k _ _ c8 rfl))
     | some y1 =>
      rw [ey] at k
      refine Ej ⟨_,rfl,_,rfl,?_⟩
      rw [Gn]
      cases ez:BK 0 95 z with
      | none =>
       rw [ez] at k
       exact Dm (Dm (k _ _ c8 rfl))
      | some z1 =>
       rw [ez] at k
       refine Ej ⟨_,rfl,_,rfl,?_⟩
       rw [Gn]
       cases et:BK 0 3 t with
       | none =>
        rw [et] at k
        exact Dm (k _ _ c8 rfl)
       | some t1 =>
        rw [et] at k
        refine Ej ⟨_,rfl,_,rfl,_,rfl,_,rfl,_,rfl,?_⟩
        refine ahb fun o H9 s9 ⟨dx,ho⟩=>?_
        exact k _ _ (c8.trans s9) ⟨o,rfl,dx,_,hqi,ho⟩
end
theorem ahy (xs:List V):Ot xs (some 1) none=xs.drop 1:=by
 unfold Ot
 rw [show (1:Int)=((1:Nat):Int) from rfl,HT.ZG,HT.aaQ]
 cases xs with
 | nil=>rfl
 | cons a r =>
  rw [List.length_cons,Nat.min_eq_left (by omega)]
  simp
theorem abT.grow {C:Addr} {qs:List Addr} {o:Option Br.Line} {v:V} {H H':Hp} (s:∀ b C dx fs,H b=some (.ins C dx fs)->H' b=some (.ins C dx fs)) (h:abT C qs o v H):abT C qs o v H':=by
 cases o with
 | none=>exact h
 | some l =>
  obtain ⟨a,e,dx,q,h1,h2⟩:=h
  exact ⟨a,e,dx,q,h1,s _ _ _ _ h2⟩
abbrev W4 (C:Addr) (qs:List Addr) (H:Hp) (ps:List Br.Part) (vs:List V) (rs:List Bytes):Prop:=Paired (fun v r=>abT C qs (Ls ps r) v H) vs rs
theorem Tg {C:Addr} {qs:List Addr} {ps:List Br.Part} {H H':Hp} (s:∀ b C dx fs,H b=some (.ins C dx fs)->H' b=some (.ins C dx fs)):∀ {vs:List V} {rs:List Bytes},W4 C qs H ps vs rs->W4 C qs H' ps vs rs
 | _,_,.nil=>.nil
 | _,_,.cons h t=>.cons (h.grow s) (Tg s t)
abbrev W5 (C:Addr) (qs:List Addr) (H:Hp) (as:List Addr) (ls:List Br.Line):Prop:=Paired (fun a l=>W6 C qs H a l) as ls
theorem Wd {C:Addr} {qs:List Addr} {H H':Hp} (s:Ai H H'):∀ {as:List Addr} {ls:List Br.Line},W5 C qs H as ls->W5 C qs H' as ls
 | _,_,.nil=>.nil
 | _,_,.cons h t=>.cons (h.same s) (Wd s t)
theorem We {C:Addr} {qs:List Addr} {H:Hp} {ps:List Br.Part}:∀ {vs:List V} {rs:List Bytes},W4 C qs H ps vs rs->(vs.any fun v=>decide (v = .non))=false->∃ as ls,vs=as.map V.ref/\ZR ps rs=some ls/\W5 C qs H as ls
 | _,_,.nil,_=>⟨[],[],rfl,rfl,.nil⟩
 | v :: vs,r :: rs,.cons h t,e=>by
  rw [List.any_cons,Bool.or_eq_false_iff] at e
  obtain ⟨as,ls,e1,e2,e3⟩:=We t e.2
  cases eo:Ls ps r with
  | none =>
   rw [eo] at h
   have h:v = .non:=h
   rw [h] at e
   exact absurd e.1 (by decide)
  | some l =>
   rw [eo] at h
   obtain ⟨a,ev,hl⟩:=h
   refine ⟨a :: as,l :: ls,by rw [ev,e1]; rfl,?_,.cons hl e3⟩
   rw [ZR,eo,e2]
theorem Tf {C:Addr} {qs:List Addr} {H:Hp} {ps:List Br.Part}:∀ {vs:List V} {rs:List Bytes},W4 C qs H ps vs rs->(vs.any fun v=>decide (v = .non))=true->ZR ps rs=none
 | _,_,.nil,e=>by cases e
 | v :: vs,r :: rs,.cons h t,e=>by
  rw [ZR]
  cases eo:Ls ps r with
  | none=>rfl
  | some l =>
   rw [eo] at h
   obtain ⟨a,ev,hl⟩:=h
   rw [List.any_cons,ev] at e
   have e':(vs.any fun v=>decide (v = .non))=true:=by simpa using e
   rw [Tf t e']
section
variable {P:Program} {w:World} {K:PySem.W.Frag} {mg:Str->Option Value} {base:Heap} {Ao Ac Ak Ax Ag:Addr}
def ajg (C:Addr) (qs:List Addr) (o:Option Br.Build) (v:V) (H:Hp):Prop:=match o with
 | none=>v = .non
 | some b=>∃ l as,v = .ref l/\H l=some (.lst (as.map V.ref))/\W5 C qs H as b.lines
def Xf (K:PySem.W.Frag) (CP CL:Addr):Sp:=fun vs H Q _=>∃ (a pa:Addr) (t:Bytes) (qs:List Addr) (ps:List Br.Part),vs=[.ref a,.ref pa]/\SqL K H a (bV t)/\t.length <= 1000000/\H pa=some (.lst (qs.map V.ref))/\J0 CP H qs ps/\(Mx.namesOf ps).Nodup/\ps.length <= 1000000 /\
 Out H Q (ajg CL qs (readM (Ex ps) t))
theorem Nt:Av ["text", "parts", "rows", "parts_by_name", "part", "lines", "row", "line"] ["text", "parts"] (Al Hk):=⟨rfl,rfl,rfl,by decide +kernel,rfl,by decide +kernel,by decide +kernel⟩
theorem aai (T:Txt K mg Ao Ac Ak Ax Ag):Cl P w K mg base 4 "read_lines" ["text", "parts"] (Xf K Ao Ax):=by
 refine T.Z5.ok Nt (fun vs H Q E h=>?_) (fun f cdv A outer s H vs Q E hr h=>?_)
 ·obtain ⟨a,pa,t,qs,ps,rfl,_⟩:=h
  rfl
 ·obtain ⟨a,pa,t,pq,ps,rfl,hS,hlen,hpa,hps,hnn,hpl,k⟩:=h
  have nd:=Nt.nd
  have hu:=Jq hr
  have ahg:=Bh hps
  refine ⟨_,(Ad (Ba (i:=2) nd rfl (Or.inl rfl) (Bm (YS T) hr rfl (Aa (pv 0) (Ae)))) (Ad (Bj (PW.pt (Eu (Cg (Dk (pv 2))) (Eu (Bd Gp (Bc Ay (by rfl) T.CJ PySem.boot_len (Aa (pv 2) (Ae))) Aq (Bg _)) (Fi (Bd Ln (Bc Ay (by rfl) T.CJ PySem.boot_len (Aa (pv 2) (Ae))) (BW Fj Aq (Cp T.Zj rfl)) (Bg _)))))) (Af (Am BZ)) Ar) (Ad (Bj (Gh (DP (Bm (Uw T) hr rfl (Aa (Ck BP (pv 2) Aq (fun _ _=>rfl)) (Ae))))) (Af (Am BZ)) Ar) (Ad (Ba (i:=3) nd rfl (Or.inr rfl) Gj) (Ad (CG PassesOwn.never rfl (GX (pv 1)) (Be (i:=4) nd rfl (Or.inl rfl)) (Af (Ib hu (pv 3) (Az (pv 4) rfl) (pv 4) rfl))) (Ad (aaV (i:=5) rfl nd rfl rfl (adm rfl rfl rfl (by decide +kernel)) (GX (Qg Zy (pv 2) (Qc Aq) ZJ)) (HF (own:=[("row",6)]) (show aao ["text", "parts", "rows", "parts_by_name", "part", "lines", "row", "line"] (Al Hk) _ [("row",6)] = true from by decide +kernel))
     (fun _ _ _ _ _=>Be (i:=6) nd rfl (Or.inl rfl)) (fun _ _ _ _ _=>JM) (fun _ _ _ _ _=>Bm (abE T) hr rfl (Aa (pv 6) (Aa (pv 3) (Ae))))) (Ad (Bj (DP (Bc (ai8 rfl) (by rfl) T.aki ae5 (Aa (aaX rfl nd (GX (pv 5)) (HF (own:=[("line",7)]) (show aao ["text", "parts", "rows", "parts_by_name", "part", "lines", "row", "line"] (Al Hk) _ [("line",7)] = true from by decide +kernel))
     (fun _ _ _ _ _=>Be (i:=7) nd rfl (Or.inl rfl)) (fun _ _ _ _ _=>JM) (fun _ _ _ _ _=>aiq (Dk (pv 7)))) (Ae)))) (Af (Am BZ)) Ar) (Af (Am (pv 5)))))))))),?_⟩
  refine ⟨_,rfl,a,t,rfl,hS,hlen,fun v1 H1 s1 ⟨rs,tl,et,hv1⟩=>?_⟩
  obtain ⟨e1,e2⟩:=Mx.NP et
  have aiV:Mx.QF (Mx.namesOf ps):=fun n hn=>by
   obtain ⟨p,hp,rfl⟩:=List.mem_map.mp hn
   obtain ⟨i,hi⟩:=List.mem_iff_getElem?.mp hp
   have hi':i < pq.length:=by rw [ahg]; exact (List.getElem?_eq_some_iff.mp hi).1
   exact Mx.ag9 (Rp hps (List.getElem?_eq_getElem hi') hi).nm
  have eR:readM (Ex ps) t=if tl=[] then WN ps rs else none:=by rw [e1]; exact Mx.ae3 aiV e2
  rw [eR] at k
  have aj5:rs.length <= 1000000:=by
   have:=KR (d:=10) t
   rw [et,List.length_append,List.length_singleton] at this
   omega
  have hll:∀ r ∈ rs,r.length <= 1000000:=fun r hr'=>by
   have:=Mx.split_len (d:=10) (t:=t) (p:=r) (by rw [et]; exact List.mem_append_left _ hr')
   omega
  by_cases htl:tl=[]
  case neg =>
   rw [if_neg htl] at hv1 k
   subst hv1
   exact ⟨_,rfl,_,rfl,Dm (Dm (k _ _ s1 rfl))⟩
  rw [if_pos htl] at hv1 k
  obtain ⟨p,qs,ev,hp,hq⟩:=hv1
  subst ev
  have hql:=Bh hq
  refine ⟨_,rfl,_,rfl,Ej ?_⟩
  refine ⟨_,rfl,p,_,rfl,.inl (SqL.of hp),rfl,_,rfl,?_⟩
  rw [List.length_map,hql]
  refine BJ (fun h0=>?_) (fun h0=>?_)
  ·refine Dm (k _ _ s1 ?_)
   have:rs=[]:=List.length_eq_zero_iff.mp (by have:=of_decide_eq_true h0; injection this with this; omega)
   rw [this]; rfl
  obtain ⟨r0,rs',rfl⟩:∃ r0 rs',rs=r0 :: rs':=by
   cases rs with
   | nil=>exact absurd rfl h0
   | cons r rs=>exact ⟨r,rs,rfl⟩
  have eB:WN ps (r0 :: rs')=match Iv r0 with
   | none=>none
   | some n=>match Hb ps 256 rs' with
    | none=>none
    | some l=>some ⟨n,l⟩:=rfl
  rw [eB,Mx.YD] at k
  refine ⟨_,rfl,p,_,rfl,.inl (SqL.of hp),_,_,rfl,rfl,_,_,rfl,rfl,_,rfl,?_⟩
  rw [List.length_map,hql]
  refine BJ (fun h1=>?_) (fun h1=>?_)
  ·refine k _ _ s1 ?_
   have:=of_decide_eq_true h1
   rw [List.length_cons] at this
   rw [if_neg (by omega)]
   cases Iv r0 <;> rfl
  have h256:rs'.length <= 256:=by
   have:=of_decide_eq_false (Bool.not_eq_true _ ▸ h1)
   rw [List.length_cons] at this
   omega
  rw [if_pos h256] at k
  obtain ⟨q0,e0,t0⟩:=Dv hq (i:=0) rfl
  refine ⟨_,rfl,p,_,_,_,rfl,rfl,SqL.of hp,Ea e0 rfl,q0,r0,rfl,t0,hll r0 (List.mem_cons_self ..),fun v2 H2 s2 ev2=>⟨_,ev2,?_⟩⟩
  cases eh:Iv r0 with
  | none =>
   rw [eh] at k
   exact Dm (k _ _ (s1.trans s2) rfl)
  | some nm =>
   rw [eh] at k
   dsimp only at k
   refine Ej ?_
   intro dn hdn
   have s3:Ai H2 (upd H2 dn (.dT [])):=Ai.new hdn
   have h3:upd H2 dn (.dT []) dn=some (.dT (Fo (pq.take 0) (ps.take 0))):=Ab
   generalize upd H2 dn (.dT [])=H3 at s3 h3
   have sm3:=(s1.trans s2).trans s3
   have ndn:H dn=none:=(s1.trans s2).free hdn
   have n2n:H1 dn=none:=s2.free hdn
   refine ⟨_,rfl,pa,rfl,⟨_,SqL.of (sm3 _ _ hpa)⟩,Hz (K:=K) (a:=pa) (xs:=pq.map V.ref)
    (fun i σ H'=>∃ v4:Option V,σ=[some (.ref a),some (.ref pa),some (.ref p),some (.ref dn),v4,none,none,none]/\(∀ b o,H2 b=some o->H' b=some o)/\H' dn=some (.dT (Fo (pq.take i) (ps.take i))))
    ⟨none,rfl,s3,h3⟩ (fun i σ H' _ ⟨_,_,sm,_⟩=>SqL.of (sm _ _ ((s1.trans s2) _ _ hpa))) ?_ ?_⟩
   ·rintro i y σ H' hi ⟨v4,rfl,sm,hdn'⟩
    obtain ⟨q,hqi,rfl⟩:∃ q,pq[i]? = some q/\y = .ref q:=by
     rw [List.getElem?_map] at hi
     cases e:pq[i]? with
     | none=>rw [e] at hi; cases hi
     | some q=>rw [e] at hi; exact ⟨q,rfl,(Option.some.inj hi).symm⟩
    obtain ⟨pp,hpp,hc⟩:=Ca hps hqi
    have hil:i < ps.length:=(List.getElem?_eq_some_iff.mp hpp).1
    obtain ⟨dx,na,da,hq1,hna,_⟩:=(hc.same ((s1.trans s2).trans sm)).at_
    have hfr:kB pp.name ∉ (Fo (pq.take i) (ps.take i)).map (·.1):=fun hm=>by
     have:=V6 hm
     unfold Mx.namesOf at this hnn
     rw [List.map_take] at this
     exact JG hnn (by rw [List.getElem?_map,hpp]; rfl) this
    refine ⟨_,rfl,_,rfl,_,rfl,q,Ao,dx,_,_,rfl,hq1,T.Bo,T.Gd,rfl,dn,_,rfl,Uy.t (k:=kB pp.name) hdn' (by rw [ajK]; exact hna) ?_,?_⟩
    ·have:=Yy (qs:=pq.take i) (ps:=ps.take i)
     rw [List.length_take] at this
     exact Ci (by omega)
    ·refine ⟨_,rfl,Ai.Gf hdn sm,?_⟩
     rw [Ab,VG _ (ad2 hfr),List.take_succ,List.take_succ,hqi,hpp]
     show _=some (HO.dT (Fo (pq.take i ++ [q]) (ps.take i ++ [pp])))
     rw [Yz (by rw [List.length_take,List.length_take,ahg])]
   ·rintro σ H' ⟨v4,rfl,sm,hdn'⟩
    rw [List.length_map,List.take_length,ahg,List.take_length] at hdn'
    have sm':=(s1.trans s2).trans sm
    refine ⟨_,rfl,_,rfl,p,_,rfl,SqL.of ((s2.trans sm) _ _ hp),fun l hl=>?_⟩
    rw [ahy]
    have s4:Ai H' (upd H' l (.lst ((qs.map V.ref).drop 1))):=Ai.new hl
    have hl4:upd H' l (.lst ((qs.map V.ref).drop 1)) l=some (.lst ((qs.drop 1).map V.ref)):=by rw [Ab,List.map_drop]
    generalize upd H' l (.lst ((qs.map V.ref).drop 1))=H4 at s4 hl4
    have hq4:N5 H4 (qs.drop 1) rs':=Fb ((s2.trans sm).trans s4) (Lh 1 hq)
    have ak6:=Bh hq4
    refine ⟨l,rfl,⟨_,SqL.of hl4⟩,fun D hD=>?_⟩
    have dn4:=s4 _ _ hdn'
    refine ZS (K:=K) (a:=l) (xs:=(qs.drop 1).map V.ref) (fun j H5=>Ai H4 H5/\∃ acc,H5 D=some (.lst acc)/\W4 Ax pq H5 ps acc (rs'.take j)) ⟨Ai.new hD,[],Ab,.nil⟩
     (fun j H5 _ q=>SqL.of (q.1 _ _ hl4)) ?_ ?_
    ·rintro j y H5 hj ⟨p1,acc,p2,p3⟩
     obtain ⟨q,hqj,rfl⟩:∃ q,(qs.drop 1)[j]? = some q/\y = .ref q:=by
      rw [List.getElem?_map] at hj
      cases e:(qs.drop 1)[j]? with
      | none=>rw [e] at hj; cases hj
      | some q=>rw [e] at hj; exact ⟨q,rfl,(Option.some.inj hj).symm⟩
     obtain ⟨r,hrj,hqt⟩:=Ca hq4 hqj
     refine ⟨rfl,Ol ?_⟩
     refine ⟨_,rfl,_,rfl,q,dn,r,pq,ps,rfl,p1 _ _ hqt,hll r (List.mem_cons_of_mem _ (List.mem_of_getElem? hrj)),p1 _ _ dn4,ahg,fun v6 H6 s6 hv6=>?_⟩
     have hD6:=s6 _ _ p2
     have hal:=Bh p3
     have gr:∀ b C dx fs,H6 b=some (.ins C dx fs)->upd H6 D (.lst (acc ++ [v6])) b=some (.ins C dx fs):=fun b C dx fs e=>by rw [Ah (G7 e hD6 (by intro z; cases z))]; exact e
     refine ⟨acc,hD6,?_,Ai.Gf hD (p1.trans s6),acc ++ [v6],Ab,?_⟩
     ·rw [hal,List.length_take]; exact Ci (by omega)
     ·rw [List.take_succ,hrj]
      exact DQ (Tg (fun b C dx fs e=>gr b C dx fs (s6 _ _ e)) p3) (.cons (hv6.grow gr) .nil)
    ·rintro H5 ⟨p1,acc,p2,p3⟩
     rw [List.length_map,ak6,List.take_length] at p3
     have hal:=Bh p3
     refine ⟨_,rfl,D,rfl,⟨_,SqL.of p2⟩,fun D2 hD2=>?_⟩
     refine ZS (K:=K) (a:=D) (xs:=acc) (fun j H6=>Ai H5 H6/\H6 D2=some (.lst ((acc.take j).map fun v=>.bl (decide (v = .non))))) ⟨Ai.new hD2,Ab⟩
      (fun j H6 _ q=>SqL.of (q.1 _ _ p2)) ?_ ?_
     ·rintro j y H6 hj ⟨r1,r2⟩
      have hjl:j < acc.length:=(List.getElem?_eq_some_iff.mp hj).1
      refine ⟨rfl,Ol ?_⟩
      refine ⟨_,rfl,_,r2,?_,Ai.Gf hD2 r1,?_⟩
      ·rw [List.length_map,List.length_take]; exact Ci (by omega)
      ·rw [Ab,List.take_succ,hj,List.map_append]; rfl
     ·rintro H6 ⟨r1,r2⟩
      rw [List.take_length] at r2
      refine ⟨D2,acc.map fun v=>decide (v = .non),rfl,SqL.of (by rw [r2,List.map_map]; rfl),_,rfl,?_⟩
      have ea:(acc.map fun v=>decide (v=V.non)).any id=acc.any fun v=>decide (v = .non):=by rw [List.any_map]; rfl
      rw [ea]
      have smA:=(sm'.trans s4).trans (p1.trans r1)
      refine BJ (fun h5=>?_) (fun h5=>?_)
      ·refine k _ _ smA ?_
       rw [Tf p3 h5]
       rfl
      ·rw [Bool.not_eq_true] at h5
       obtain ⟨as,ls,g1,g2,g3⟩:=We p3 h5
       refine ⟨_,rfl,k _ _ smA ?_⟩
       rw [g2]
       exact ⟨D,as,rfl,by rw [<- g1]; exact r1 _ _ p2,Wd r1 g3⟩
end
open Mx (P3 mv cellsOf Full Cz Dr Dq Meets)
theorem JC {es:List (P3 × Int)} {q:P3} {v:V}:Ez (Aw es) (t3 q)=some v->∃ t,v = .int t/\(q,t) ∈ es:=by
 induction es with
 | nil=>intro h; cases h
 | cons x r ih =>
  intro h
  unfold Aw at h ih
  rw [List.map_cons] at h
  by_cases e:x.1=q
  ·rw [Di (by rw [e])] at h
   cases h
   exact ⟨x.2,rfl,by rw [<- e]; exact List.mem_cons_self ..⟩
  ·rw [Dj (fun z=>e (aca z))] at h
   obtain ⟨t,h1,h2⟩:=ih h
   exact ⟨t,h1,List.mem_cons_of_mem _ h2⟩
theorem Ge {es:List (P3 × Int)} (hn:(es.map (·.1)).Nodup) {q:P3} {t:Int} (h:(q,t) ∈ es):Ez (Aw es) (t3 q)=some (.int t):=by
 have hs:=GJ q es
 rw [decide_eq_true (List.mem_map_of_mem (f:=(·.1)) h)] at hs
 obtain ⟨v,hv⟩:=Option.isSome_iff_exists.mp hs
 obtain ⟨t',e1,e2⟩:=JC hv
 rw [hv,e1,Mx.Rq hn e2 h]
def mvX (x y z:Int) (e:P3 × Int):P3 × Int:=(mv e.1 x y z,e.2)
theorem YB {x y z:Int} {es:List (P3 × Int)} (h:(es.map (·.1)).Nodup):((es.map (mvX x y z)).map (·.1)).Nodup:=by
 rw [List.map_map]
 have:(es.map ((·.1) ∘ mvX x y z))=(es.map (·.1)).map (fun q=>mv q x y z):=by rw [List.map_map]; rfl
 rw [this]
 exact Mx.Hq h fun a _ b _ e=>Mx.acH e
section
variable {P:Program} {w:World} {K:PySem.W.Frag} {mg:Str->Option Value} {base:Heap} {Ao Ac Ak Ax Ag:Addr}
def ahY (C:Addr) (H:Hp) (a:Addr) (p:V) (x y z t:Int):Prop:=∃ dx,H a=some (.ins C dx (VM p (.int x) (.int y) (.int z) (.int t)))
def Xj (CL CP:Addr):Sp:=fun vs H Q _=>∃ (a b:Addr) (p:V) (x y z t:Int) (n:List V) (w d h:Int) (es:List (P3 × Int)),vs=[.ref a,.ref b]/\ahY CL H a p x y z t/\GR CP H b n w d h es /\
 Out H Q (fun v _=>v = .bl (decide (x + w <= 64) && (decide (y + d <= 64) && decide (z + h <= 96))))
theorem Xn:Av ["line", "part"] ["line", "part"] (Al PX):=⟨rfl,rfl,rfl,by decide +kernel,rfl,by decide +kernel,by decide +kernel⟩
theorem aam (T:Txt K mg Ao Ac Ak Ax Ag):Cl P w K mg base 1 "is_in_room" ["line", "part"] (Xj Ax Ao):=by
 refine T.Z9.ok Xn (fun vs H Q E h=>?_) (fun f cdv A outer s H vs Q E hr h=>?_)
 ·obtain ⟨a,b,p,x,y,z,t,n,w,d,h,es,rfl,_⟩:=h
  rfl
 ·obtain ⟨a,b,p,x,y,z,t,n,w,d,h,es,rfl,⟨dl,ha⟩,⟨dx,na,da,hb,_⟩,k⟩:=h
  refine ⟨_,(Af (Am (JR (Gk Kg (BW Fj (Az (pv 0) rfl) (Az (pv 1) rfl)) (Cp T.O2 rfl) (Bg _)) (JR (Gk Kg (BW Fj (Az (pv 0) rfl) (Az (pv 1) rfl)) (Cp T.O3 rfl) (Bg _)) (Ro (Gk Kg (BW Fj (Az (pv 0) rfl) (Az (pv 1) rfl)) (Cp T.Nq rfl) (Bg _))))))),?_⟩
  refine ⟨_,rfl,a,Ax,dl,_,_,rfl,ha,T.Fd,T.WX,rfl,_,rfl,b,Ao,dx,_,_,rfl,hb,T.Bo,T.Eh,rfl,_,_,rfl,rfl,_,_,rfl,rfl,_,rfl,?_⟩
  refine BJ (fun h0=>?_) (fun h0=>k _ _ (Ai.refl _) (by rw [Bool.not_eq_true] at h0; rw [h0]; rfl))
  refine ⟨_,rfl,a,Ax,dl,_,_,rfl,ha,T.Fd,T.WW,rfl,_,rfl,b,Ao,dx,_,_,rfl,hb,T.Bo,T.DK,rfl,_,_,rfl,rfl,_,_,rfl,rfl,_,rfl,?_⟩
  refine BJ (fun h1=>?_) (fun h1=>k _ _ (Ai.refl _) (by rw [Bool.not_eq_true] at h1; rw [h0,h1]; rfl))
  refine ⟨_,rfl,a,Ax,dl,_,_,rfl,ha,T.Fd,T.WT,rfl,_,rfl,b,Ao,dx,_,_,rfl,hb,T.Bo,T.DW,rfl,_,_,rfl,rfl,_,_,rfl,rfl,?_⟩
  exact k _ _ (Ai.refl _) (by rw [h0,h1]; rfl)
def Q5 (CL CP:Addr):Sp:=fun vs H Q _=>∃ (a b:Addr) (p:V) (x y z t:Int) (n:List V) (w d h:Int) (es:List (P3 × Int)),vs=[.ref a,.ref b]/\ahY CL H a p x y z t/\GR CP H b n w d h es/\(es.map (·.1)).Nodup /\
 Out H Q (fun v H'=>∃ o,v = .ref o/\H o=none/\H' o=some (.dT (Aw (es.map (mvX x y z)))))
theorem Je:Av ["line", "part", "cells", "place", "sign"] ["line", "part"] (Al Ke):=⟨rfl,rfl,rfl,by decide +kernel,rfl,by decide +kernel,by decide +kernel⟩
theorem Ux (T:Txt K mg Ao Ac Ak Ax Ag):Cl P w K mg base 2 "cells_in_room" ["line", "part"] (Q5 Ax Ao):=by
 refine T.Um.ok Je (fun vs H Q E h=>?_) (fun f cdv A outer s H vs Q E hr h=>?_)
 ·obtain ⟨a,b,p,x,y,z,t,n,w,d,h,es,rfl,_⟩:=h
  rfl
 ·obtain ⟨a,b,p,x,y,z,t,n,w,d,h,es,rfl,⟨dl,ha⟩,⟨dx,na,da,hb,hna,hda,hle⟩,hn,k⟩:=h
  have nd:=Je.nd
  have hu:=Jq hr
  refine ⟨_,(Ad (Ba (i:=2) nd rfl (Or.inl rfl) Gj) (Ad (JN (CG PassesOwn.never rfl (Ho (Az (pv 1) rfl)) (Fx rfl (Bw (Be (i:=3) nd rfl (Or.inl rfl)) (Bw (Be (i:=4) nd rfl (Or.inl rfl)) Eg)))
    (Af (Ib hu (pv 2) (Bm (U7 T) hr rfl (Aa (pv 3) (Aa (Az (pv 0) rfl) (Aa (Az (pv 0) rfl) (Aa (Az (pv 0) rfl) (Ae)))))) (pv 4) rfl)))) (Af (Am (pv 2))))),?_⟩
  intro dc hdc
  have s1:Ai H (upd H dc (.dT [])):=Ai.new hdc
  have h1:upd H dc (.dT []) dc=some (.dT (Aw [])):=Ab
  generalize upd H dc (.dT [])=H1 at s1 h1
  have Xq:=s1 _ _ hda
  have ndc:dc ≠ da:=fun z=>by rw [z,hda] at hdc; cases hdc
  refine ⟨da,.dT (Aw es),Xq,True.intro,fun od=>?_⟩
  have ha1:upd H1 da (.frz od (.dT (Aw es))) a=_:=U3 (s1 _ _ ha) Xq (by intro z; cases z)
  have hb1:upd H1 da (.frz od (.dT (Aw es))) b=_:=U3 (s1 _ _ hb) Xq (by intro z; cases z)
  have hc1:upd H1 da (.frz od (.dT (Aw es))) dc=some (.dT (Aw [])):=by rw [Ah ndc]; exact h1
  have hnt:=YB (x:=x) (y:=y) (z:=z) hn
  refine ⟨_,rfl,b,Ao,dx,_,_,rfl,hb1,T.Bo,T.Cj,rfl,da,od,_,rfl,Ab,FN (kvs:=Aw es)
   (fun i σ H'=>∃ v3 v4:Option V,σ=[some (.ref a),some (.ref b),some (.ref dc),v3,v4]/\(∀ b o,upd H1 da (.frz od (.dT (Aw es))) b=some o->b ≠ dc->H' b=some o)/\H' dc=some (.dT (Aw ((es.map (mvX x y z)).take i))))
   ⟨none,none,rfl,fun b o e _=>e,hc1⟩ (fun i σ H' _ ⟨_,_,_,kp,_⟩=>kp _ _ Ab ndc.symm) ?_ ?_⟩
  ·rintro i kk v σ H' tt q hkv ⟨v2,v3',rfl,kp,hc⟩ hq hT
   obtain ⟨pl,c,hes,rfl,rfl⟩:=G9 hkv
   have sn:Ai H' (upd H' tt (.tup [.ref q,.int c])):=Ai.new hT
   refine ⟨tt,_,rfl,SqT.of Ab,rfl,_,_,rfl,_,_,rfl,rfl,?_⟩
   have hq2:=sn _ _ hq
   have hc2:=sn _ _ hc
   have ha2:=sn _ _ (kp _ _ ha1 (G7 ha1 hc1 (by intro z; cases z)))
   generalize upd H' tt (.tup [.ref q,.int c])=H2 at sn hq2 hc2 ha2
   refine ⟨_,rfl,_,rfl,_,rfl,_,rfl,a,Ax,dl,_,_,rfl,ha2,T.Fd,T.WX,rfl,_,rfl,a,Ax,dl,_,_,rfl,ha2,T.Fd,T.WW,rfl,_,rfl,a,Ax,dl,_,_,rfl,ha2,T.Fd,T.WT,rfl,
    q,pl,x,y,z,rfl,hq2,fun v H3 s3 ⟨p3,e3,hp3⟩=>?_⟩
   subst e3
   have hat:(es.map (mvX x y z))[i]? = some (mvX x y z (pl,c)):=by rw [List.getElem?_map,hes]; rfl
   have hfr:(mvX x y z (pl,c)).1 ∉ ((es.map (mvX x y z)).take i).map (·.1):=by
    rw [List.map_take]
    exact JG hnt (by rw [List.getElem?_map,hat]; rfl)
   refine ⟨dc,_,rfl,Uy.t (k:=t3 (mvX x y z (pl,c)).1) (s3 _ _ hc2) hp3 (by rw [Cv,List.length_take,List.length_map]; exact Ci (by omega)),?_⟩
   refine ⟨_,_,rfl,fun b o e n=>?_,?_⟩
   ·rw [Ah n]
    exact s3 _ _ (sn _ _ (kp _ _ e n))
   ·rw [Ab,LR hfr,List.take_succ,hat]
    rfl
  ·rintro σ H' ⟨v2,v3',rfl,kp,hc⟩
   rw [Cv,<- List.length_map (f:=mvX x y z) (as:=es),List.take_length] at hc
   refine ⟨kp _ _ Ab ndc.symm,?_⟩
   have sb:Ai H (upd H' da (.dT (Aw es))):=fun b o e=>by
    by_cases z:b=da
    ·rw [z,Ab]; rw [z,hda] at e; exact e
    ·rw [Ah z]
     refine kp _ _ (by rw [Ah z]; exact s1 _ _ e) (fun y=>by rw [y,hdc] at e; cases e)
   exact ⟨_,rfl,k _ _ sb ⟨dc,rfl,hdc,by rw [Ah ndc]; exact hc⟩⟩
def M5:Sp:=fun vs H Q _=>∃ (d:Addr) (es:List (P3 × Int)),vs=[.ref d]/\H d=some (.dT (Aw es))/\(es.map (·.1)).Nodup/\Out H Q (fun v _=>∃ b,v = .bl b/\(b=true ↔ Meets es))
theorem Hc:Av ["cells", "place", "sign", "above"] ["cells"] (Al Hs):=⟨rfl,rfl,rfl,by decide +kernel,rfl,by decide +kernel,by decide +kernel⟩
theorem Ov (T:Txt K mg Ao Ac Ak Ax Ag):Cl P w K mg base 3 "studs_meet_tubes" ["cells"] M5:=by
 refine T.Om.ok Hc (fun vs H Q E h=>?_) (fun f cdv A outer s H vs Q E hr h=>?_)
 ·obtain ⟨d,es,rfl,_⟩:=h
  rfl
 ·obtain ⟨d,es,rfl,hd,hn,k⟩:=h
  have nd:=Hc.nd
  have hu:=Jq hr
  refine ⟨_,(Ad (JN (CG PassesOwn.never rfl (Ho (pv 0)) (Fx rfl (Bw (Be (i:=1) nd rfl (Or.inl rfl)) (Bw (Be (i:=2) nd rfl (Or.inl rfl)) Eg)))
    (Af (Bj (DP (Bm (WM T) hr rfl (Aa (pv 2) (Ae))))
     (Ad (Ba (i:=3) nd rfl (Or.inl rfl) (aaZ hu (pv 0) (Bm (Ir T) hr rfl (Aa (pv 1) (Ae))) ⟨rfl,rfl,rfl,rfl⟩)) (Af (Bj (PW.pt (VF (Cg (Qi (pv 3))) (Qa (Gh (DP (Bm (WL T) hr rfl (Aa (pv 3) (Ae)))))))) (Af (Am Dy)) Ar))) Ar)))) (Af (Am Dy))),?_⟩
  refine ⟨d,.dT (Aw es),hd,True.intro,fun od=>?_⟩
  refine ⟨_,rfl,d,od,_,rfl,Ab,FN (kvs:=Aw es)
   (fun i σ H'=>∃ v1 v2 v3:Option V,σ=[some (.ref d),v1,v2,v3]/\Ai (upd H d (.frz od (.dT (Aw es)))) H'/\∀ x ∈ es.take i,Dr x.2=true->∀ t,(mv x.1 0 0 1,t) ∈ es->Dq t=true)
   ⟨none,none,none,rfl,Ai.refl _,fun x hx=>by cases hx⟩ (fun i σ H' _ ⟨_,_,_,_,sm,_⟩=>sm _ _ Ab) ?_ ?_⟩
  ·rintro i kk v σ H' tt q hkv ⟨v1,v2,v3',rfl,sm,hb⟩ hq hT
   obtain ⟨pl,c,hes,rfl,rfl⟩:=G9 hkv
   have hmem:(pl,c) ∈ es:=List.mem_of_getElem? hes
   have sn:Ai H' (upd H' tt (.tup [.ref q,.int c])):=Ai.new hT
   refine ⟨tt,_,rfl,SqT.of Ab,rfl,_,_,rfl,_,_,rfl,rfl,?_⟩
   have hq2:=sn _ _ hq
   have sm2:=sm.trans sn
   generalize upd H' tt (.tup [.ref q,.int c])=H2 at sm2 hq2
   have next:(Dr c=true->∀ t,(mv pl 0 0 1,t) ∈ es->Dq t=true)->∀ x ∈ es.take (i + 1),Dr x.2=true->∀ t,(mv x.1 0 0 1,t) ∈ es->Dq t=true:=fun hx x hm=>by
    rw [List.take_succ,hes] at hm
    rcases List.mem_append.mp hm with hm | hm
    ·exact hb x hm
    ·have e:x=(pl,c):=by simpa using hm
     subst e
     exact hx
   refine ⟨_,rfl,c,rfl,fun v H3 s3 ev=>⟨_,ev,?_⟩⟩
   have sm3:=sm2.trans s3
   refine BJ (fun hst=>?_) (fun hst=>⟨_,_,_,rfl,sm3,next (fun z=>absurd z hst)⟩)
   refine ⟨_,rfl,d,rfl,.inr ⟨_,.inr ⟨od,sm3 _ _ Ab⟩⟩,_,rfl,q,pl,rfl,s3 _ _ hq2,fun v4 H4 s4 ⟨p4,e4,hp4⟩=>?_⟩
   subst e4
   have sm4:=sm3.trans s4
   refine ⟨_,.inr ⟨Aw es,t3 (mv pl 0 0 1),p4,.inr ⟨od,sm4 _ _ Ab⟩,rfl,hp4,rfl⟩,?_⟩
   cases ev4:Ez (Aw es) (t3 (mv pl 0 0 1)) with
   | none =>
    refine ⟨_,rfl,_,rfl,Ej (Ej ⟨_,_,_,rfl,sm4,next fun _ t ht=>?_⟩)⟩
    rw [Ge hn ht] at ev4
    cases ev4
   | some u =>
    obtain ⟨t,rfl,ht⟩:=JC ev4
    refine ⟨_,rfl,_,rfl,Dm ⟨_,rfl,t,rfl,fun v5 H5 s5 e5=>⟨_,e5,?_⟩⟩⟩
    have sm5:=sm4.trans s5
    refine BJ (fun ht2=>?_) (fun ht2=>?_)
    ·refine ⟨sm5 _ _ Ab,k _ _ (Ru hd sm5) ⟨false,rfl,?_⟩⟩
     rw [Bool.not_eq_true'] at ht2
     refine ⟨fun z=>(Bool.false_ne_true z).elim,fun M=>?_⟩
     have:=M (pl,c) hmem hst t ht
     rw [ht2] at this
     exact this
    ·have ht3:Dq t=true:=by simpa using ht2
     exact ⟨_,_,_,rfl,sm5,next fun _ t' ht'=>by rw [Mx.Rq hn ht' ht]; exact ht3⟩
  ·rintro σ H' ⟨v1,v2,v3',rfl,sm,hb⟩
   rw [Cv,List.take_length] at hb
   refine ⟨sm _ _ Ab,?_⟩
   exact k _ _ (Ru hd sm) ⟨true,rfl,fun _=>hb,fun _=>rfl⟩
end
end Py
namespace L2
open PySem PySem.Spec PyProof.Rows
def agb (td:TE):TI:=fun σ H R=>td σ H fun x H1=>∃ d kvs,x = .ref d/\H1 d=some (.dT kvs)/\∀ od,R (afe d od kvs) (upd H1 d (.frz od (.dT kvs)))
theorem acv {X:Cx} {e:Expr} {td:TE} {apos cpos:Pos} {elts:List Expr} {kk:Nat} {tpos:Pos} (he:PE X e td) (hbase:attributeBase e "items" X.env (eval e X.env)=eval e X.env:=by rfl) (hline:(apos.endLine == cpos.line)=true:=by rfl) :
  PI X (.Tuple elts kk tpos) (.Call (.Attribute e "items" apos) [] [] cpos) (agb td):=by
 intro pins s σ H R I h
 refine wpAny_Call_method (T := "dict") (id := "dict.items") hbase rfl hline F.plainAttrs_dict F.slot_dict_items F.type_dict_items (thn (he pins s σ H _ I h) fun u s1 ⟨x,H0,I0,rx,d,kvs,ex,hd0,q0⟩=>?_)
 subst ex
 obtain rfl:u=Value.ref d:=rx
 obtain ⟨o,I1⟩:=I0.lock hd0 True.intro
 have hd:upd H0 d (.frz o (.dT kvs)) d=some (.frz o (.dT kvs)):=Ab
 have q:=q0 o
 generalize upd H0 d (.frz o (.dT kvs))=H1 at I1 hd q
 obtain ⟨o',es,ep,hs,hgd,hx,hdt,hsz,hz,hn,ent⟩:=I1.dTr (.inr ⟨o,hd⟩)
 obtain rfl:o'=o:=by
  have q:=(I1.hok d _ hd).1
  rw [hgd] at q
  exact Option.some.inj q
 have hT:s1.TypeIs (.ref d) "dict" := ⟨_,hgd,hx.1⟩
 refine ⟨hT,(fun b q=>by cases q; exact ⟨_,hgd,hx.2.1⟩),?_⟩
 have I2:Inv X pins σ H1 { s1 with heap:=s1.heap.push { cls:=.type "dict_items",data:=.fields #[.ref d] } }:=I1.kept (t':=s1.toks) fun b ob q=>Heap.get?_push_of_some _ q
 have fin:wpAny (model X.prog X.w) X.A (pyIter (.ref s1.heap.objs.size)) (PIE X pins σ (.Tuple elts kk tpos) R) X.xe { s1 with heap:=s1.heap.push { cls:=.type "dict_items",data:=.fields #[.ref d] } }:=by
  refine Wo (d:=d) ⟨_,Heap.get?_push_size _ rfl,rfl,rfl⟩ (Heap.get?_push_of_some _ hgd) hdt (Rm (tk:=s1.toks) I2 _ (R7 _ hdt) ⟨.none,.none,?_⟩ q)
  rw [hsz]
  exact Heap.get?_push_size _ rfl
 show wpAny _ _ (callWith cpos (.builtin "dict.items") [.ref d] [] []) _ X.xe s1
 exact method_meetsIn F.slot_dict_items F.entry_dict_items rfl (PySem.evalArgs_none ⟨rfl,hT,F.args_dict_items_1 _,_,Kh X.prog X.w d hs,hT,fin⟩)
end L2
namespace Py
open PySem PySem.Spec PyProof.Rows L2
open Mx (P3 mv cellsOf Full Cz Dr Dq Meets Bl CN Own QG)
open Br (Bytes)
theorem acI {E F:List (P3 × Int)} (h:E.Perm F):Meets E ↔ Meets F :=
 ⟨fun M x hx hs t ht=>M x (h.mem_iff.mpr hx) hs t (h.mem_iff.mpr ht),fun M x hx hs t ht=>M x (h.mem_iff.mp hx) hs t (h.mem_iff.mp ht)⟩
theorem Lj {c:Br.Catalogue} {ls:List Br.Line} {i j:Nat} {q:P3}:Own c (ls.take i) j q ↔ j < i/\Own c ls j q:=by
 unfold Own
 rw [List.getElem?_take]
 by_cases h:j < i
 ·rw [if_pos h]; exact ⟨fun z=>⟨h,z⟩,fun z=>z.2⟩
 ·rw [if_neg h]; exact ⟨fun ⟨l,z,_⟩=>(by cases z),fun z=>absurd z.1 h⟩
theorem abQ {c:Br.Catalogue} {ls:List Br.Line} {i:Nat} {l:Br.Line} (h:ls[i]? = some l):CN c (ls.take (i + 1))=CN c (ls.take i) ++ Bl c l:=by
 unfold CN
 rw [List.take_succ,h,List.flatMap_append]
 simp
theorem afc {c:Br.Catalogue} {ls:List Br.Line} {i:Nat}:CN c ls=CN c (ls.take i) ++ CN c (ls.drop i):=by
 unfold CN
 rw [<- List.flatMap_append,List.take_append_drop]
section
variable {P:Program} {w:World} {K:PySem.W.Frag} {mg:Str->Option Value} {base:Heap} {Ao Ac Ak Ax Ag:Addr}
structure W3 (c:Br.Catalogue) (ls:List Br.Line) (O:List (P3 × Int)):Prop where
 nd:(O.map (·.1)).Nodup
 len:O.length <= 1200000
 own:∀ q n,(q,n) ∈ O ↔ ∃ j:Nat,n=(j:Int)/\Own c ls j q
def agF (c:Br.Catalogue) (b:Br.Build) (v:V) (H:Hp):Prop:=if (b.wrong c).isSome=true then v = .non else ∃ o O,v = .ref o/\H o=some (.dT (Aw O))/\W3 c b.lines O
def M6 (CP CL:Addr):Sp:=fun vs H Q _=>∃ (a:Addr) (as qs:List Addr) (b:Br.Build) (c:Br.Catalogue),vs=[.ref a]/\H a=some (.lst (as.map V.ref))/\W5 CL qs H as b.lines/\J0 CP H qs c/\(∀ p ∈ c,p.studsOk=true)/\b.lines.length <= 256/\(∀ l ∈ b.lines,l.r <= 3) /\
 Out H Q (agF c b)
theorem Hd:Av ["lines", "owners", "taken", "number", "line", "part", "place", "sign"] ["lines"] (Al Ht):=⟨rfl,rfl,rfl,by decide +kernel,rfl,by decide +kernel,by decide +kernel⟩
theorem Ow (T:Txt K mg Ao Ac Ak Ax Ag):Cl P w K mg base 5 "owners_of_places" ["lines"] (M6 Ao Ax):=by
 refine T.Oo.ok Hd (fun vs H Q E h=>?_) (fun f cdv A outer s H vs Q E hr h=>?_)
 ·obtain ⟨a,as,qs,b,c,rfl,_⟩:=h
  rfl
 ·obtain ⟨a,as,pq,b,c,rfl,ha,hls,hps,hst,h256,hr3,k⟩:=h
  have nd:=Hd.nd
  have hu:=Jq hr
  have hal:=Bh hls
  have part:∀ (i:Nat) (l:Br.Line),b.lines[i]? = some l->∃ ad dx q p,as[i]? = some ad/\H ad=some (.ins Ax dx (VM (.ref q) (.int (l.x:Int)) (.int (l.y:Int)) (.int (l.z:Int)) (.int (l.r:Int))))/\QD Ao H q p/\c.getD l.part Br.nothing=p/\p.studsOk=true:=fun i l hl=>by
   have hi:i < as.length:=by rw [hal]; exact (List.getElem?_eq_some_iff.mp hl).1
   obtain ⟨dx,q,hq,hh⟩:=Rp hls (List.getElem?_eq_getElem hi) hl
   obtain ⟨p,hp,hc⟩:=Ca hps hq
   exact ⟨as[i],dx,q,p,List.getElem?_eq_getElem hi,hh,hc,by rw [List.getD_eq_getElem?_getD,hp]; rfl,hst p (List.mem_of_getElem? hp)⟩
  have hfree:∀ l ∈ b.lines,Full (l.of c)/\QG (Bl c l):=fun l hl=>by
   obtain ⟨i,hi⟩:=List.mem_iff_getElem?.mp hl
   obtain ⟨ad,dx,q,p,_,_,hc,e,hs⟩:=part i l hi
   exact Mx.aeO (by rw [e]; exact hc.full) (by rw [e]; exact hs)
  have hW:=Mx.aat hfree
  have bad:¬ ((∀ l ∈ b.lines,l.inRoom c=true)/\((CN c b.lines).map (·.1)).Nodup/\Meets (CN c b.lines))->∀ H',agF c b .non H':=fun h H'=>by
   unfold agF
   rw [if_pos (by cases e:(b.wrong c).isSome with | true=>rfl | false=>exact absurd (hW.mp e) h)]
  refine ⟨_,(Ad (Ba (i:=1) nd rfl (Or.inl rfl) Gj) (Ad (Ba (i:=2) nd rfl (Or.inl rfl) Gj) (Ad (CG PassesOwn.never rfl (JQ rfl T.Ef (Aa (pv 0) (Ae))) (Fx rfl (Bw (Be (i:=3) nd rfl (Or.inl rfl)) (Bw (Be (i:=4) nd rfl (Or.inl rfl)) Eg)))
    (Ad (Ba (i:=5) nd rfl (Or.inl rfl) (Bm (agv T) hr rfl (Aa (Az (pv 4) rfl) (Aa (Az (pv 4) rfl) (Ae))))) (Ad (Bj (Gh (DP (Bm (aam T) hr rfl (Aa (pv 4) (Aa (pv 5) (Ae)))))) (Af (Am BZ)) Ar) (Af (CG PassesOwn.never rfl (acv (Bm (Ux T) hr rfl (Aa (pv 4) (Aa (pv 5) (Ae))))) (Fx rfl (Bw (Be (i:=6) nd rfl (Or.inl rfl)) (Bw (Be (i:=7) nd rfl (Or.inl rfl)) Eg)))
     (Ad (Bj (Cg (ZL hu (pv 6) (pv 1))) (Af (Am BZ)) Ar) (Ad (Ib hu (pv 1) (pv 6) (pv 3) rfl) (Af (Ib hu (pv 2) (pv 6) (pv 7) rfl))))))))) (Ad (Bj (Gh (DP (Bm (Ov T) hr rfl (Aa (pv 2) (Ae))))) (Af (Am BZ)) Ar) (Af (Am (pv 1))))))),?_⟩
  intro dO hdO dT hdT
  have s1:Ai H (upd H dO (.dT [])):=Ai.new hdO
  have s2:Ai (upd H dO (.dT [])) (upd (upd H dO (.dT [])) dT (.dT [])):=Ai.new hdT
  have ndT:H dT=none:=s1.free hdT
  have nOT:dO ≠ dT:=fun z=>by rw [<- z,Ab] at hdT; cases hdT
  have hO0:upd (upd H dO (.dT [])) dT (.dT []) dO=some (.dT (Aw [])):=s2 _ _ Ab
  have hT0:upd (upd H dO (.dT [])) dT (.dT []) dT=some (.dT (Aw [])):=Ab
  have s0:=s1.trans s2
  generalize upd (upd H dO (.dT [])) dT (.dT [])=H0 at s0 hO0 hT0
  refine ⟨_,rfl,a,_,rfl,SqL.of (s0 _ _ ha),Jt (K:=K) (a:=a) (xs:=as.map V.ref)
   (fun i σ H'=>∃ (v3 v4 v5 v6 v7:Option V) (O E:List (P3 × Int)),σ=[some (.ref a),some (.ref dO),some (.ref dT),v3,v4,v5,v6,v7]/\Ai H H'/\H' dO=some (.dT (Aw O))/\H' dT=some (.dT (Aw E))/\O.map (·.1)=E.map (·.1)/\(E.map (·.1)).Nodup /\
    E.Perm (CN c (b.lines.take i))/\(∀ q n,(q,n) ∈ O ↔ ∃ j:Nat,n=(j:Int)/\Own c (b.lines.take i) j q)/\(∀ l ∈ b.lines.take i,l.inRoom c=true)/\E.length <= 4608 * i)
   ⟨none,none,none,none,none,[],[],rfl,s0,hO0,hT0,rfl,.nil,.nil,fun q n=>⟨fun z=>(List.not_mem_nil z).elim,fun ⟨j,_,l,z,_⟩=>by simp at z⟩,fun l hl=>by simp at hl,Nat.zero_le _⟩
   (fun i σ H' _ ⟨_,_,_,_,_,_,_,_,sm,_⟩=>SqL.of (sm _ _ ha)) ?_ ?_⟩
  ·rintro i x σ H' tt hx ⟨v3',v4,v5,v6,v7,O,E,rfl,sm,hO,hE,hOE,hnd,hperm,hown,hroom,ahT⟩ hT
   obtain ⟨ad,had,rfl⟩:∃ q,as[i]? = some q/\x = .ref q:=by
    rw [List.getElem?_map] at hx
    cases e:as[i]? with
    | none=>rw [e] at hx; cases hx
    | some q=>rw [e] at hx; exact ⟨q,rfl,(Option.some.inj hx).symm⟩
   obtain ⟨l,hl,_⟩:=Ca hls had
   have hil:i < b.lines.length:=(List.getElem?_eq_some_iff.mp hl).1
   obtain ⟨ad',dx,q,p,aj7,hline,hpc,hpe,aly⟩:=part i l hl
   rw [had] at aj7
   cases aj7
   have ajZ:l.of c=p.turned l.r:=by unfold Br.Line.of; rw [hpe]
   have st:Ai H' (upd H' tt (.tup [.int (i:Nat),.ref ad])):=Ai.new hT
   refine ⟨tt,_,rfl,SqT.of Ab,rfl,_,_,rfl,_,_,rfl,rfl,?_⟩
   have sm1:=sm.trans st
   have hO1:=st _ _ hO
   have hE1:=st _ _ hE
   generalize upd H' tt (.tup [.int (i:Nat),.ref ad])=H1 at sm1 hO1 hE1
   clear st
   have hl1:=sm1 _ _ hline
   refine ⟨_,rfl,ad,Ax,dx,_,_,rfl,hl1,T.Fd,T.T3,rfl,_,rfl,ad,Ax,dx,_,_,rfl,hl1,T.Fd,T.Qz,rfl,
    q,p,l.r,rfl,⟨cellsOf p,(hpc.same sm1).at_,.refl _⟩,hpc.full,Nat.le_trans (hr3 l (List.mem_of_getElem? hl)) (by decide),fun v2 H2 s2 ⟨y,ev2,es,hpy,hes⟩=>?_⟩
   subst ev2
   have sm2:=sm1.trans s2
   have hl2:=sm2 _ _ hline
   have ake:(decide ((l.x:Int) + ((p.turned l.r).wide:Int) <= 64) && (decide ((l.y:Int) + ((p.turned l.r).deep:Int) <= 64) && decide ((l.z:Int) + ((p.turned l.r).high:Int) <= 96)))=l.inRoom c:=by
    unfold Br.Line.inRoom
    rw [ajZ]
    congr 1
    ·rw [decide_eq_decide]; show _ ↔ _ <= 64; omega
    ·congr 1
     ·rw [decide_eq_decide]; show _ ↔ _ <= 64; omega
     ·rw [decide_eq_decide]; show _ ↔ _ <= 96; omega
   refine ⟨_,rfl,_,rfl,ad,y,_,_,_,_,_,_,_,_,_,es,rfl,⟨dx,hl2⟩,hpy,fun alx H3 s3 ev3=>⟨l.inRoom c,by rw [<- ake]; exact ev3,?_⟩⟩
   have sm3:=sm2.trans s3
   refine BJ (fun hin=>?_) (fun hin=>?_)
   ·refine k _ _ sm3 (bad (fun z=>?_) _)
    rw [Bool.not_eq_true'] at hin
    have:=z.1 l (List.mem_of_getElem? hl)
    rw [hin] at this
    cases this
   have abe:l.inRoom c=true:=by simpa using hin
   have aj2:(es.map (·.1)).Nodup:=(hes.map _).nodup_iff.mpr (Mx.keys_nodup _)
   refine ⟨_,rfl,_,rfl,ad,y,_,_,_,_,_,_,_,_,_,es,rfl,⟨dx,s3 _ _ hl2⟩,hpy.same s3,aj2,fun v4' H4 s4 ⟨o,ev4,nO4,ho⟩=>?_⟩
   subst ev4
   refine ⟨o,_,rfl,ho,fun od=>?_⟩
   have sm4:=sm3.trans s4
   have nHo:H o=none:=sm3.free nO4
   have c4:=(s2.trans s3).trans s4
   have hO4:=c4 _ _ hO1
   have hE4:=c4 _ _ hE1
   have hFp:(es.map (mvX l.x l.y l.z)).Perm (Bl c l):=by
    have e:Bl c l=(cellsOf (p.turned l.r)).map (mvX l.x l.y l.z):=by unfold Bl; rw [ajZ]; rfl
    rw [e]
    exact hes.map _
   have hFn:=YB (x:=l.x) (y:=l.y) (z:=l.z) aj2
   have hFl:(es.map (mvX l.x l.y l.z)).length <= 4608:=by
    rw [List.length_map]
    obtain ⟨_,_,_,_,_,_,hle⟩:=hpy
    exact hle
   generalize es.map (mvX l.x l.y l.z)=F at ho hFp hFn hFl
   have noO:dO ≠ o:=fun z=>by rw [z] at hO1; rw [(s2.trans s3).free (by exact nO4:H3 o=none)] at hO1; cases hO1
   have noT:dT ≠ o:=fun z=>by rw [z] at hE1; rw [(s2.trans s3).free (by exact nO4:H3 o=none)] at hE1; cases hE1
   have hO5:upd H4 o (.frz od (.dT (Aw F))) dO=some (.dT (Aw O)):=by rw [Ah noO]; exact hO4
   have hE5:upd H4 o (.frz od (.dT (Aw F))) dT=some (.dT (Aw E)):=by rw [Ah noT]; exact hE4
   have ho5:upd H4 o (.frz od (.dT (Aw F))) o=some (.frz od (.dT (Aw F))):=Ab
   have sm5:Ai H (upd H4 o (.frz od (.dT (Aw F)))):=Ai.Gf nHo sm4
   generalize upd H4 o (.frz od (.dT (Aw F)))=H5 at hO5 hE5 ho5 sm5
   refine FN (kvs:=Aw F)
    (fun j σ H'=>∃ (v6 v7:Option V),σ=[some (.ref a),some (.ref dO),some (.ref dT),some (.int (i:Nat)),some (.ref ad),some (.ref y),v6,v7]/\Ai H H'/\H' o=some (.frz od (.dT (Aw F)))/\H' dO=some (.dT (Aw (O ++ (F.take j).map fun x=>(x.1,(i:Int)))))/\H' dT=some (.dT (Aw (E ++ F.take j)))/\((E ++ F.take j).map (·.1)).Nodup)
    ⟨_,_,rfl,sm5,ho5,by rw [List.take_zero,List.map_nil,List.append_nil]; exact hO5,by rw [List.take_zero,List.append_nil]; exact hE5,by rw [List.take_zero,List.append_nil]; exact hnd⟩ (fun j σ H' _ ⟨_,_,_,_,h,_⟩=>h) ?_ ?_
   ·rintro j kk v σ H6 t6 q6 hkv ⟨v6,v7,rfl,sm6,ho6,hO6,hE6,ahj⟩ hq6 hT6
    obtain ⟨pl,cc,hF,rfl,rfl⟩:=G9 hkv
    have sn:Ai H6 (upd H6 t6 (.tup [.ref q6,.int cc])):=Ai.new hT6
    refine ⟨t6,_,rfl,SqT.of Ab,rfl,_,_,rfl,_,_,rfl,rfl,?_⟩
    have hq7:=sn _ _ hq6
    have sm7:=sm6.trans sn
    have ho7:=sn _ _ ho6
    have hO7:=sn _ _ hO6
    have hE7:=sn _ _ hE6
    generalize upd H6 t6 (.tup [.ref q6,.int cc])=H7 at hq7 sm7 ho7 hO7 hE7
    have abl:(O ++ (F.take j).map fun x=>(x.1,(i:Int))).map (·.1)=(E ++ F.take j).map (·.1):=by
     rw [List.map_append,List.map_append,hOE,List.map_map]; rfl
    refine ⟨_,rfl,_,rfl,dO,_,rfl,.inr ⟨_,t3 pl,q6,.inl hO7,rfl,hq7,rfl⟩,_,rfl,?_⟩
    rw [GJ,abl]
    refine BJ (fun hin=>?_) (fun hin=>?_)
    ·refine k _ _ sm7 (bad (fun z=>?_) _)
     have hin:=of_decide_eq_true hin
     have hnF:pl ∉ (F.take j).map (·.1):=by
      rw [List.map_take]
      exact JG hFn (by rw [List.getElem?_map,hF]; rfl)
     have ale:pl ∈ E.map (·.1):=by
      rw [List.map_append,List.mem_append] at hin
      exact hin.resolve_right hnF
     have m1:pl ∈ (CN c (b.lines.take i)).map (·.1):=(hperm.map _).mem_iff.mp ale
     have m2:pl ∈ (Bl c l).map (·.1):=(hFp.map _).mem_iff.mp (List.mem_map.mpr ⟨(pl,cc),List.mem_of_getElem? hF,rfl⟩)
     have hz:=z.2.1
     rw [afc (i:=i + 1),abQ hl,List.map_append,List.map_append,List.nodup_append] at hz
     have hz2:=hz.1
     rw [List.nodup_append] at hz2
     exact hz2.2.2 pl m1 pl m2 rfl
    have abe:pl ∉ (E ++ F.take j).map (·.1):=fun z=>hin (decide_eq_true z)
    have hlb:(E ++ F.take j).length <= 4608 * 257:=by
     rw [List.length_append,List.length_take]
     have:4608 * i <= 4608 * 256:=Nat.mul_le_mul (Nat.le_refl _) (by omega)
     omega
    have hlO:(O ++ (F.take j).map fun x=>(x.1,(i:Int))).length=(E ++ F.take j).length:=by
     have:=congrArg List.length abl
     rwa [List.length_map,List.length_map] at this
    refine ⟨_,rfl,_,rfl,_,rfl,dO,_,rfl,Uy.t (k:=t3 pl) hO7 hq7 (by rw [Cv,hlO]; exact Ci (by omega)),?_⟩
    rw [LR (by rw [abl]; exact abe)]
    have hq8:upd H7 dO (.dT (Aw (O ++ ((F.take j).map fun x=>(x.1,(i:Int))) ++ [(pl,(i:Int))]))) q6=some (.tup ((t3 pl).map kV)):=by rw [Ah (G7 hq7 hO7 (by intro z; cases z))]; exact hq7
    have hE8:upd H7 dO (.dT (Aw (O ++ ((F.take j).map fun x=>(x.1,(i:Int))) ++ [(pl,(i:Int))]))) dT=some (.dT (Aw (E ++ F.take j))):=by rw [Ah nOT.symm]; exact hE7
    refine ⟨_,rfl,_,rfl,_,rfl,dT,_,rfl,Uy.t (k:=t3 pl) hE8 hq8 (by rw [Cv]; exact Ci (by omega)),?_⟩
    rw [LR abe]
    have etk:F.take (j + 1)=F.take j ++ [(pl,cc)]:=by rw [List.take_succ,hF]; rfl
    refine ⟨_,_,rfl,Ai.Gf ndT (Ai.Gf hdO sm7),?_,?_,?_,?_⟩
    ·rw [Ah noT.symm,Ah noO.symm]; exact ho7
    ·rw [Ah nOT,Ab,etk,List.map_append,List.append_assoc]; rfl
    ·rw [Ab,etk,List.append_assoc]
    ·rw [etk,<- List.append_assoc,List.map_append]
     exact ZP ahj abe
   ·rintro σ H6 ⟨v6,v7,rfl,sm6,ho6,hO6,hE6,ahj⟩
    rw [Cv,List.take_length] at hO6 hE6 ahj
    refine ⟨_,_,_,_,_,O ++ F.map (fun x=>(x.1,(i:Int))),E ++ F,rfl,sm6,hO6,hE6,?_,ahj,?_,?_,?_,?_⟩
    ·rw [List.map_append,List.map_append,hOE,List.map_map]; rfl
    ·rw [abQ hl]
     exact hperm.append hFp
    ·intro q n
     rw [List.mem_append,hown]
     constructor
     ·rintro (⟨j,e,ho⟩ | h)
      ·rw [Lj] at ho
       exact ⟨j,e,Lj.mpr ⟨by omega,ho.2⟩⟩
      ·obtain ⟨x,hx,e⟩:=List.mem_map.mp h
       cases e
       refine ⟨i,rfl,Lj.mpr ⟨by omega,l,hl,?_⟩⟩
       exact (hFp.map _).mem_iff.mp (List.mem_map_of_mem hx)
     ·rintro ⟨j,e,ho⟩
      rw [Lj] at ho
      by_cases hji:j < i
      ·exact .inl ⟨j,e,Lj.mpr ⟨hji,ho.2⟩⟩
      ·have:j=i:=by omega
       subst this
       obtain ⟨_,l',hl',hq⟩:=ho
       rw [hl] at hl'
       cases hl'
       have:=(hFp.map (·.1)).mem_iff.mpr hq
       obtain ⟨x,hx,e2⟩:=List.mem_map.mp this
       exact .inr (List.mem_map.mpr ⟨x,hx,by rw [e,<- e2]⟩)
    ·intro l' hl'
     rw [List.take_succ,hl] at hl'
     rcases List.mem_append.mp hl' with h | h
     ·exact hroom l' h
     ·have:l'=l:=by simpa using h
      rw [this]; exact abe
    ·rw [List.length_append]; omega
  ·rintro σ H' ⟨v3',v4,v5,v6,v7,O,E,rfl,sm,hO,hE,hOE,hnd,hperm,hown,hroom,ahT⟩
   rw [List.length_map,hal,List.take_length] at hperm hown hroom
   rw [List.length_map,hal] at ahT
   refine ⟨_,rfl,dT,E,rfl,hE,hnd,fun v1 H1 s1' ⟨bb,ev,hb⟩=>⟨bb,ev,?_⟩⟩
   rw [acI hperm] at hb
   cases bb with
   | false =>
    exact Dm (k _ _ (sm.trans s1') (bad (fun z=>Bool.false_ne_true (hb.mpr z.2.2)) _))
   | true =>
    refine Ej ⟨_,rfl,k _ _ (sm.trans s1') ?_⟩
    have hno:(b.wrong c).isSome=false:=hW.mpr ⟨hroom,(hperm.map _).nodup_iff.mp hnd,hb.mp rfl⟩
    unfold agF
    rw [if_neg (by rw [hno]; exact Bool.false_ne_true)]
    refine ⟨dO,O,rfl,s1' _ _ hO,by rw [hOE]; exact hnd,?_,hown⟩
    have:O.length=E.length:=by
     have:=congrArg List.length hOE
     rwa [List.length_map,List.length_map] at this
    have:4608 * b.lines.length <= 4608 * 256:=Nat.mul_le_mul (Nat.le_refl _) h256
    omega
end
open Mx (P3 mv Own Full lt3 col Sw R0 abR Tt)
open Br (Bytes tower)
theorem ahI (m n:Nat):Builtin.bitAnd (m:Int) (n:Int)=((m &&& n:Nat):Int):=by
 rw [bitAnd_pp (by omega) (by omega),Int.toNat_natCast,Int.toNat_natCast]
theorem V2 (m n:Nat):Builtin.bitOr (m:Int) (n:Int)=((m ||| n:Nat):Int):=by
 rw [akq.agw (by omega) (by omega),Int.toNat_natCast,Int.toNat_natCast]
theorem ahH (m i:Nat):Builtin.bitAnd (m:Int) (Builtin.bitNot ((2 ^ i:Nat):Int))=((Tt m i:Nat):Int):=by
 unfold Tt
 generalize 2 ^ i=x
 have e1:Builtin.bitNot (Builtin.bitNot (x:Int))=(x:Int):=by unfold Builtin.bitNot; omega
 have h2:Builtin.bitNot (x:Int) < 0:=by unfold Builtin.bitNot; omega
 unfold Builtin.bitAnd
 rw [decide_eq_true (by omega:(0:Int) <= (m:Int)),decide_eq_false (by omega:¬ (0:Int) <= Builtin.bitNot (x:Int))]
 dsimp only
 rw [e1,Int.toNat_natCast,Int.toNat_natCast]
 have:m &&& x <= m:=Nat.and_le_left
 omega
theorem afW (m i:Nat):decide (V.int (Builtin.bitAnd (m:Int) ((2 ^ i:Nat):Int))=V.int 0) = !(m.testBit i):=by
 rw [ahI,Mx.adX]
 cases h:m.testBit i with
 | true =>
  rw [if_pos rfl]
  have:0 < 2 ^ i:=Nat.two_pow_pos i
  have h2:¬ V.int ((2 ^ i:Nat):Int)=V.int 0:=fun z=>by injection z with z; omega
  rw [decide_eq_false h2]; rfl
 | false =>
  rw [if_neg Bool.false_ne_true]; rfl
def Bv (U:List Nat):List V:=U.map fun m=>.int ((m:Nat):Int)
theorem Bt (U:List Nat):(Bv U).length=U.length:=List.length_map _
theorem Fl {U:List Nat} {i:Nat} (h:i < U.length):(Bv U)[i]? = some (.int ((U.getD i 0:Nat):Int)):=by
 unfold Bv
 rw [List.getElem?_map,List.getD_eq_getElem?_getD,List.getElem?_eq_getElem h]
 rfl
theorem Yw (U:List Nat) (i m:Nat):(Bv U).set i (.int ((m:Nat):Int))=Bv (U.set i m):=by
 unfold Bv
 rw [List.map_set]
theorem U5 {n i:Nat} (h:i < n):ixN n (i:Int)=some i:=by
 unfold ixN
 rw [if_pos (by omega),if_pos (by omega),Int.toNat_natCast]
def t2 (c:Int × Int):List Key:=[.inl c.1,.inl c.2]
theorem aib {a b:Int × Int} (h:t2 a=t2 b):a=b:=by
 obtain ⟨x,y⟩:=a
 obtain ⟨x',y'⟩:=b
 simp [t2] at h
 rw [h.1,h.2]
def lnO (O:List (P3 × Int)) (q:P3):Nat:=match Ez (Aw O) (t3 q) with
 | some (.int n)=>n.toNat
 | _=>0
theorem afZ {c:Br.Catalogue} {ls:List Br.Line} {O:List (P3 × Int)} (h:W3 c ls O) {q:P3} (hq:q ∈ O.map (·.1)):Ez (Aw O) (t3 q)=some (.int ((lnO O q:Nat):Int))/\Own c ls (lnO O q) q:=by
 obtain ⟨x,hx,rfl⟩:=List.mem_map.mp hq
 have e:=Ge h.nd (q:=x.1) (t:=x.2) hx
 obtain ⟨j,hj,ho⟩:=(h.own x.1 x.2).mp hx
 have e2:lnO O x.1=j:=by unfold lnO; rw [e,hj]; simp
 rw [e2,e,hj]
 exact ⟨rfl,ho⟩
theorem ahc {c:Br.Catalogue} {ls:List Br.Line} {O:List (P3 × Int)} (h:W3 c ls O) {q:P3} {j:Nat}:(q ∈ O.map (·.1)/\lnO O q=j) ↔ Own c ls j q:=by
 constructor
 ·rintro ⟨hq,rfl⟩
  exact (afZ h hq).2
 ·intro ho
  have hm:=(h.own q (j:Int)).mpr ⟨j,rfl,ho⟩
  refine ⟨List.mem_map_of_mem (f:=(·.1)) hm,?_⟩
  unfold lnO
  rw [Ge h.nd hm]
  simp
theorem acB {c:Br.Catalogue} {ls:List Br.Line} {j:Nat} {q:P3} (h:Own c ls j q):j < ls.length:=by
 obtain ⟨l,hl,_⟩:=h
 exact (List.getElem?_eq_some_iff.mp hl).1
theorem agu (O:List (P3 × Int)):Aw O=(O.map fun x=>(x.1,V.int x.2)).map k3:=by unfold Aw; rw [List.map_map]; rfl
section
variable {P:Program} {w:World} {K:PySem.W.Frag} {mg:Str->Option Value} {base:Heap} {Ao Ac Ak Ax Ag:Addr}
def acg:Sp:=fun vs H Q _=>∃ n:Nat,vs=[.int (n:Int)]/\n <= 1000/\Out H Q (fun v _=>v = .int ((2 ^ n:Nat):Int))
theorem aco:Av ["line"] ["line"] (Al Yj):=⟨rfl,rfl,rfl,by decide +kernel,rfl,by decide +kernel,by decide +kernel⟩
theorem MP (T:Txt K mg Ao Ac Ak Ax Ag):Cl P w K mg base 1 "mask_of" ["line"] acg:=by
 refine T.aeV.ok aco (fun vs H Q E h=>?_) (fun f cdv A outer s H vs Q E hr h=>?_)
 ·obtain ⟨n,rfl,_⟩:=h
  rfl
 ·obtain ⟨n,rfl,hn,k⟩:=h
  refine ⟨_,(Af (Am (BW ais Aq (pv 0)))),?_⟩
  refine ⟨_,rfl,_,_,rfl,rfl,⟨by omega,by omega,by decide⟩,k _ _ (Ai.refl _) ?_⟩
  show V.int (1 * 2 ^ (n:Int).toNat)=V.int ((2 ^ n:Nat):Int)
  rw [Int.toNat_natCast,Int.one_mul]
  push_cast
  rfl
def Xk:Sp:=fun vs H Q _=>∃ n m:Nat,vs=[.int (n:Int),.int (m:Int)]/\n <= 1000/\Out H Q (fun v _=>v = .bl (m.testBit n))
theorem Xo:Av ["line", "mask"] ["line", "mask"] (Al P0):=⟨rfl,rfl,rfl,by decide +kernel,rfl,by decide +kernel,by decide +kernel⟩
theorem Gv (T:Txt K mg Ao Ac Ak Ax Ag):Cl P w K mg base 2 "is_in_mask" ["line", "mask"] Xk:=by
 refine T.aaa.ok Xo (fun vs H Q E h=>?_) (fun f cdv A outer s H vs Q E hr h=>?_)
 ·obtain ⟨n,m,rfl,_⟩:=h
  rfl
 ·obtain ⟨n,m,rfl,hn,k⟩:=h
  refine ⟨_,(Af (Am (Gk V3 (BW acD (pv 1) (Bm (MP T) hr rfl (Aa (pv 0) (Ae)))) Aq (Bg _)))),?_⟩
  refine ⟨_,rfl,_,rfl,n,rfl,hn,fun v H1 s1 ev=>?_⟩
  subst ev
  refine ⟨_,_,rfl,rfl,rfl,k _ _ s1 ?_⟩
  rw [afW,Bool.not_not]
structure QC (c:Br.Catalogue) (b:Br.Build) (U:List Nat):Prop where
 len:U.length=b.lines.length
 bit:∀ i,i < b.lines.length->∀ j,(U.getD i 0).testBit j=true ↔ j ∈ (tower c b).below i
def Vn:Sp:=fun vs H Q _=>∃ (d:Addr) (O:List (P3 × Int)) (c:Br.Catalogue) (b:Br.Build),vs=[.ref d,.int (b.lines.length:Int)]/\H d=some (.dT (Aw O))/\W3 c b.lines O/\b.lines.length <= 256/\(∀ l ∈ b.lines,Full (l.of c)) /\
 Out H Q (fun v H'=>∃ l U,v = .ref l/\H' l=some (.lst (Bv U))/\QC c b U)
theorem K8:Av ["owners", "count", "under", "seen", "place", "line", "column", "below", "mask"] ["owners", "count"] (Al Il):=⟨rfl,rfl,rfl,by decide +kernel,rfl,by decide +kernel,by decide +kernel⟩
theorem Xy (T:Txt K mg Ao Ac Ak Ax Ag):Cl P w K mg base 2 "lines_under" ["owners", "count"] Vn:=by
 refine T.Xw.ok K8 (fun vs H Q E h=>?_) (fun f cdv A outer s H vs Q E hr h=>?_)
 ·obtain ⟨d,O,c,b,rfl,_⟩:=h
  rfl
 ·obtain ⟨d,O,c,b,rfl,hd,hO,h256,hf,k⟩:=h
  have nd:=K8.nd
  have hu:=Jq hr
  refine ⟨_,(Ad (Ba (i:=2) nd rfl (Or.inl rfl) (BW afM (Cq (Aa (Aq) (Ae))) (pv 1))) (Ad (Ba (i:=3) nd rfl (Or.inl rfl) Gj) (Ad (CG PassesOwn.never rfl (GX (Bc (aad rfl) (by rfl) T.agz aan (Aa (pv 0) (Ae)))) (Be (i:=4) nd rfl (Or.inl rfl))
    (Ad (Ba (i:=5) nd rfl (Or.inl rfl) (agZ hu (pv 0) (pv 4) (fun _ _=>rfl))) (Ad (Ba (i:=6) nd rfl (Or.inl rfl) (Qg aif (pv 4) ZJ (Qc Aq))) (Ad (Ba (i:=7) nd rfl (Or.inl rfl) (aaY hu (pv 3) (pv 6) Aq ⟨rfl,rfl,rfl,rfl⟩)) (Ad (acq (BW aa0 (Ck BP (pv 2) (pv 5) (fun _ _=>rfl)) (pv 7)) (acw (pv 2) (pv 5) set_list)) (Af (Ib hu (pv 3) (pv 6) (BW aa0 (pv 7) (Bm (MP T) hr rfl (Aa (pv 5) (Ae)))) rfl))))))) (Af (Am (aaX rfl nd (JQ rfl T.Ef (Aa (pv 2) (Ae))) (HF (own:=[("line",5),("mask",8)]) (show aao ["owners", "count", "under", "seen", "place", "line", "column", "below", "mask"] (Al Il) _ [("line",5),("mask",8)] = true from by decide +kernel))
     (fun _ _ _ _ _=>(show PG _ _ (akb K 2 (agm (YL 5) (agm (YL 8) akc))) from Fx rfl (Bw (Be (i:=5) nd rfl (Or.inl rfl)) (Bw (Be (i:=8) nd rfl (Or.inl rfl)) Eg)))) (fun _ _ _ _ _=>JM)
     (fun _ _ _ _ _=>BW acD (pv 8) (Qe afk (Bm (MP T) hr rfl (Aa (pv 5) (Ae))))))))))),?_⟩
  refine ⟨(by show 1 <= sizeLine; decide),fun l0 hl0=>⟨_,rfl,l0,_,_,rfl,rfl,Ab,by omega,by omega,?_,fun lu hlu=>?_⟩⟩
  ·show 1 * (b.lines.length:Int).toNat <= sizeLine
   rw [Int.toNat_natCast,sizeLine_eq]; omega
  have aiZ:(List.replicate (b.lines.length:Int).toNat [V.int 0]).flatten=Bv (List.replicate b.lines.length 0):=by
   rw [Int.toNat_natCast]
   unfold Bv
   induction b.lines.length with
   | zero=>rfl
   | succ n ih=>rw [List.replicate_succ,List.flatten_cons,ih,List.replicate_succ]; rfl
  rw [aiZ]
  intro ds hds
  have s1:Ai H (upd H l0 (.lst [.int 0])):=Ai.new hl0
  have s2:=Ai.new (o:=.lst (Bv (List.replicate b.lines.length 0))) hlu
  have s3:=Ai.new (o:=.dT []) hds
  have nlu:H lu=none:=s1.free hlu
  have nds:H ds=none:=(s1.trans s2).free hds
  have nud:lu ≠ ds:=fun z=>by rw [<- z,Ab] at hds; cases hds
  have aiP:upd (upd (upd H l0 (.lst [.int 0])) lu (.lst (Bv (List.replicate b.lines.length 0)))) ds (.dT []) lu=some (.lst (Bv (List.replicate b.lines.length 0))):=s3 _ _ Ab
  have aiU:upd (upd (upd H l0 (.lst [.int 0])) lu (.lst (Bv (List.replicate b.lines.length 0)))) ds (.dT []) ds=some (.dT []):=Ab
  have sm3:=(s1.trans s2).trans s3
  generalize upd (upd (upd H l0 (.lst [.int 0])) lu (.lst (Bv (List.replicate b.lines.length 0)))) ds (.dT [])=H3 at aiP aiU sm3
  refine ⟨_,rfl,d,O.map (fun x=>(x.1,V.int x.2)),rfl,.inl (by rw [<- agu]; exact sm3 _ _ hd),fun l qs ks hl hperm hpw ahR=>?_⟩
  have abl:(O.map fun x=>(x.1,V.int x.2)).map (·.1)=O.map (·.1):=by rw [List.map_map]; rfl
  rw [abl] at hperm
  have s4:Ai H3 (upd H3 l (.lst (qs.map V.ref))):=Ai.new hl
  have hl4:upd H3 l (.lst (qs.map V.ref)) l=some (.lst (qs.map V.ref)):=Ab
  have aiO:=s4 _ _ aiP
  have aiT:=s4 _ _ aiU
  have sm4:=sm3.trans s4
  have nll:l ≠ lu:=fun z=>by rw [z,aiP] at hl; cases hl
  have nld:l ≠ ds:=fun z=>by rw [z,aiU] at hl; cases hl
  have agd:=Ie s4 ahR
  generalize upd H3 l (.lst (qs.map V.ref))=H4 at s4 hl4 aiO aiT sm4 agd
  have hqk:=Bh ahR
  have alu:ks.length=O.length:=by rw [hperm.length_eq,List.length_map]
  have alw:=hO.len
  refine ⟨l,rfl,⟨_,SqL.of hl4⟩,Hz (K:=K) (a:=l) (xs:=qs.map V.ref)
   (fun i σ H'=>∃ (v4 v5 v6 v7:Option V) (U:List Nat) (kvs:List (List Key × V)) (f:Int × Int->Nat),σ=[some (.ref d),some (.int (b.lines.length:Int)),some (.ref lu),some (.ref ds),v4,v5,v6,v7,none] /\
    (∀ x o,H4 x=some o->x ≠ lu->x ≠ ds->H' x=some o)/\Ai H H'/\H' lu=some (.lst (Bv U))/\H' ds=some (.dT kvs)/\abR b.lines.length ((ks.take i).map fun q=>(q,lnO O q)) U/\R0 ((ks.take i).map fun q=>(q,lnO O q)) f /\
    (∀ cc,(Ez kvs (t2 cc)).getD (.int 0) = .int ((f cc:Nat):Int))/\kvs.length <= i)
   ⟨none,none,none,none,_,[],fun _=>0,rfl,fun x o e _ _=>e,sm4,aiO,aiT,Mx.agL _,Mx.aft,fun cc=>rfl,Nat.zero_le _⟩ (fun i σ H' _ ⟨_,_,_,_,_,_,_,_,kp,_⟩=>SqL.of (kp _ _ hl4 nll nld)) ?_ ?_⟩
  ·rintro i x σ H' hx ⟨v4,v5,v6,v7,U,kvs,f,rfl,kp,sm,aeJ,aj4,hU,hS,hkf,hkl⟩
   obtain ⟨q,hq,rfl⟩:∃ q,qs[i]? = some q/\x = .ref q:=by
    rw [List.getElem?_map] at hx
    cases e:qs[i]? with
    | none=>rw [e] at hx; cases hx
    | some q=>rw [e] at hx; exact ⟨q,rfl,(Option.some.inj hx).symm⟩
   obtain ⟨pl,hpl,hqt⟩:=Ca agd hq
   have hil:i < ks.length:=(List.getElem?_eq_some_iff.mp hpl).1
   have hmem:pl ∈ O.map (·.1):=hperm.mem_iff.mp (List.mem_of_getElem? hpl)
   obtain ⟨hval,hown⟩:=afZ hO hmem
   have hln:=acB hown
   have hq':H' q=some (.tup (v3 pl)):=kp _ _ hqt (G7 hqt aiO (by intro z; cases z)) (G7 hqt aiT (by intro z; cases z))
   have hd':=sm _ _ hd
   have etk:(ks.take (i + 1)).map (fun q=>(q,lnO O q))=(ks.take i).map (fun q=>(q,lnO O q)) ++ [(pl,lnO O pl)]:=by rw [List.take_succ,hpl,List.map_append]; rfl
   refine ⟨_,rfl,_,rfl,d,_,rfl,.inr ⟨Aw O,t3 pl,q,.inl hd',rfl,hq',hval.symm⟩,?_⟩
   refine ⟨_,rfl,_,rfl,q,_,rfl,SqT.of hq',(show ¬ (HT.sIx 3 0 none=0/\HT.sIx 3 3 (some 2)=3) by decide),fun pc hpc=>?_⟩
   have ai1:Ot (v3 pl) none (some 2)=(t2 (col pl)).map kV:=rfl
   rw [ai1]
   have s5:Ai H' (upd H' pc (.tup ((t2 (col pl)).map kV))):=Ai.new hpc
   have ahh:upd H' pc (.tup ((t2 (col pl)).map kV)) pc=some (.tup ((t2 (col pl)).map kV)):=Ab
   have ahk:=s5 _ _ aeJ
   have aho:=s5 _ _ aj4
   have sm5:=sm.trans s5
   have kp5:∀ x o,H4 x=some o->x ≠ lu->x ≠ ds->upd H' pc (.tup ((t2 (col pl)).map kV)) x=some o:=fun x o e n1 n2=>s5 _ _ (kp x o e n1 n2)
   generalize upd H' pc (.tup ((t2 (col pl)).map kV))=H5 at ahh ahk aho sm5 kp5
   refine ⟨_,rfl,ds,rfl,.inr ⟨_,.inl aho⟩,_,rfl,_,.inr ⟨kvs,t2 (col pl),pc,.inl aho,rfl,ahh,rfl⟩,?_⟩
   rw [hkf]
   have ahS:U.length=b.lines.length:=hU.len
   refine ⟨_,rfl,_,rfl,lu,_,_,_,rfl,rfl,SqL.of ahk,Iw rfl (Fl (by omega)),_,rfl,_,_,rfl,rfl,?_⟩
   dsimp only
   rw [V2]
   refine ⟨_,rfl,_,rfl,lu,_,_,lnO O pl,rfl,rfl,ahk,U5 (by rw [Bt]; omega),?_⟩
   rw [Yw]
   have ajV:upd H5 lu (.lst (Bv (U.set (lnO O pl) (U.getD (lnO O pl) 0 ||| f (col pl))))) pc=some (.tup ((t2 (col pl)).map kV)):=by rw [Ah (G7 ahh ahk (by intro z; cases z))]; exact ahh
   have aj3:upd H5 lu (.lst (Bv (U.set (lnO O pl) (U.getD (lnO O pl) 0 ||| f (col pl))))) ds=some (.dT kvs):=by rw [Ah nud.symm]; exact aho
   have ajW:upd H5 lu (.lst (Bv (U.set (lnO O pl) (U.getD (lnO O pl) 0 ||| f (col pl))))) lu=some (.lst (Bv (U.set (lnO O pl) (U.getD (lnO O pl) 0 ||| f (col pl))))):=Ab
   have sm6:Ai H (upd H5 lu (.lst (Bv (U.set (lnO O pl) (U.getD (lnO O pl) 0 ||| f (col pl)))))):=Ai.Gf nlu sm5
   have kp6:∀ x o,H4 x=some o->x ≠ lu->x ≠ ds->upd H5 lu (.lst (Bv (U.set (lnO O pl) (U.getD (lnO O pl) 0 ||| f (col pl))))) x=some o:=fun x o e n1 n2=>by rw [Ah n1]; exact kp5 x o e n1 n2
   generalize upd H5 lu (.lst (Bv (U.set (lnO O pl) (U.getD (lnO O pl) 0 ||| f (col pl)))))=H6 at ajV aj3 ajW sm6 kp6
   refine ⟨_,rfl,_,rfl,lnO O pl,rfl,by omega,fun v7' H7 s7 ev7=>?_⟩
   subst ev7
   refine ⟨_,_,rfl,rfl,_,rfl,_,rfl,ds,_,rfl,Uy.t (k:=t2 (col pl)) (s7 _ _ aj3) (s7 _ _ ajV) (Ci (by omega)),?_⟩
   dsimp only
   rw [V2]
   refine ⟨_,_,_,_,_,_,fun cc=>if cc=col pl then f (col pl) ||| 2 ^ lnO O pl else f cc,rfl,fun x o e n1 n2=>by rw [Ah n2]; exact s7 _ _ (kp6 x o e n1 n2),Ai.Gf nds (sm6.trans s7),by rw [Ah nud]; exact s7 _ _ ajW,Ab,?_,?_,?_,?_⟩
   ·rw [etk]; exact Mx.afj hln hU hS
   ·rw [etk]; exact Mx.aep hS
   ·intro cc
    rw [afi]
    dsimp only
    by_cases e:cc=col pl
    ·rw [if_pos (by rw [e]),if_pos e]; rfl
    ·rw [if_neg (fun z=>e (aib z)),if_neg e]; exact hkf cc
   ·have:=Lx kvs (t2 (col pl)) (.int ((f (col pl) ||| 2 ^ lnO O pl:Nat):Int))
    omega
  ·rintro σ H' ⟨v4,v5,v6,v7,U,kvs,f,rfl,kp,sm,aeJ,aj4,hU,hS,hkf,hkl⟩
   rw [List.length_map,hqk,List.take_length] at hU
   have ahS:U.length=b.lines.length:=hU.len
   refine ⟨_,rfl,lu,_,rfl,SqL.of aeJ,fun D hD=>?_⟩
   refine af5 (n:=U.length) (fun j H2=>Ai H' H2/\H2 D=some (.lst (Bv ((List.range j).map fun i=>Tt (U.getD i 0) i)))) ⟨Ai.new hD,Ab⟩
    (fun j H2 hj p=>⟨_,_,SqL.of (p.1 _ _ aeJ),Fl hj⟩) (fun H2 p=>⟨_,SqL.of (p.1 _ _ aeJ),by rw [Bt]; exact Nat.le_refl _⟩) ?_ ?_
   ·rintro j x H2 H3' hj ⟨p1,p2⟩ ⟨tt,xv,rfl,hT,rfl,hx⟩
    have hxv:xv = .int ((U.getD j 0:Nat):Int):=by
     have:=hx _ (SqL.of (p1 _ _ aeJ))
     rw [Fl hj] at this
     exact (Option.some.inj this).symm
    subst hxv
    have st:=Ai.new (o:=.tup [.int ((j:Nat):Int),.int ((U.getD j 0:Nat):Int)]) hT
    refine ⟨tt,_,rfl,SqT.of Ab,rfl,_,_,rfl,_,_,rfl,rfl,rfl,Ol ?_⟩
    refine ⟨_,rfl,_,rfl,j,rfl,by omega,fun v8 H8 s8 ev8=>⟨_,ev8,_,_,rfl,rfl,_,s8 _ _ (st _ _ p2),?_,?_,?_⟩⟩
    ·rw [Bt,List.length_map,List.length_range]; exact Ci (by omega)
    ·exact Ai.Gf hD (p1.trans (st.trans s8))
    ·rw [Ab]
     dsimp only
     rw [ahH,List.range_succ,List.map_append]
     unfold Bv
     rw [List.map_append]
     rfl
   ·rintro H2 ⟨p1,p2⟩
    refine k _ _ (sm.trans p1) ⟨D,_,rfl,p2,by rw [List.length_map,List.length_range]; exact ahS,fun i hi j=>?_⟩
    have e:(((List.range U.length).map fun i=>Tt (U.getD i 0) i).getD i 0)=Tt (U.getD i 0) i:=by
     rw [List.getD_eq_getElem?_getD,List.getElem?_map,List.getElem?_range (by omega)]; rfl
    rw [e,Mx.aeR nat_or_add_and,Bool.and_eq_true,hU.bit i hi j,decide_eq_true_iff]
    have ak7:(ks.map fun q=>(q,lnO O q)).Pairwise fun a b=>lt3 a.1 b.1:=by
     rw [List.pairwise_map]; exact hpw
    rw [Mx.aef ak7,Mx.ae7 hf hi]
    have hmem:∀ q n,(q,n) ∈ ks.map (fun q=>(q,lnO O q)) ↔ Own c b.lines n q:=fun q n=>by
     rw [<- ahc hO,List.mem_map]
     constructor
     ·rintro ⟨a,ha,e⟩
      cases e
      exact ⟨hperm.mem_iff.mp ha,rfl⟩
     ·rintro ⟨h1,h2⟩
      exact ⟨q,hperm.mem_iff.mpr h1,by rw [h2]⟩
    constructor
    ·rintro ⟨⟨q,r,h1,h2,h3⟩,hne⟩
     rw [hmem] at h1 h2
     exact ⟨acB h2,fun z=>hne z.symm,q,r,h1,h2,h3⟩
    ·rintro ⟨_,hne,q,r,h1,h2,h3⟩
     exact ⟨⟨q,r,(hmem _ _).mpr h1,(hmem _ _).mpr h2,h3⟩,fun z=>hne z.symm⟩
open Mx (P3 mv Own Full readM Qj Ex Cz Ec namesOf)
theorem S8 {α β:Type} {R:α->β->Prop}:∀ {as:List α} {bs:List β} {i:Nat} {y:β},Paired R as bs->bs[i]? = some y->∃ x,as[i]? = some x/\R x y
 | _,_,0,_,.cons h _,e=>by cases e; exact ⟨_,rfl,h⟩
 | _,_,i + 1,_,.cons _ t,e=>S8 (i:=i) t e
def GK (r o u:V):List (Str × V):=[("refusal",r),("owners",o),("under",u)]
def Vo (C:Addr):Sp:=fun vs H Q _=>∃ (p dx:Addr) (r o u:V),vs=[.ref p,r,o,u]/\H p=some (.ins C dx []) /\
 ∀ H':Hp,H' p=some (.ins C dx (GK r o u))->(∀ b o,H b=some o->b ≠ p->H' b=some o)->Q .non H'
theorem acp:Av ["self", "refusal", "owners", "under"] ["self", "refusal", "owners", "under"] (Al Yk):=⟨rfl,rfl,rfl,by decide +kernel,rfl,by decide +kernel,by decide +kernel⟩
theorem YW (T:Txt K mg Ao Ac Ak Ax Ag):ClC P w K mg base 1 "Reading" Ag ["self", "refusal", "owners", "under"] (Vo Ag):=by
 refine T.aeY.ok acp (fun vs H Q E h=>?_) (fun f cdv A outer s H vs Q E hr h=>?_)
 ·obtain ⟨p,dx,r,o,u,rfl,_⟩:=h
  rfl
 ·obtain ⟨p,dx,r,o,u,rfl,hp,k⟩:=h
  refine ⟨_,(Ad (Dd (pv 0) (pv 1) rfl) (Ad (Dd (pv 0) (pv 2) rfl) (Af (Dd (pv 0) (pv 3) rfl)))),?_⟩
  refine ⟨_,rfl,_,rfl,p,Ag,dx,_,rfl,hp,T.Cu,T.Cd,(by show 0 < 1000; decide),?_⟩
  refine ⟨_,rfl,_,rfl,p,Ag,dx,_,rfl,Ab,T.Cu,T.Jw,(by show 1 < 1000; decide),?_⟩
  refine ⟨_,rfl,_,rfl,p,Ag,dx,_,rfl,Ab,T.Cu,T.Fw,(by show 2 < 1000; decide),?_⟩
  refine k _ (Eq.trans Ab rfl) fun b o e hb=>?_
  rw [Ah hb,Ah hb,Ah hb]
  exact e
theorem V7 {H1:Hp} {Q:VK} {r o u:V} (k:∀ x H',Ai H1 H'->(∃ dx,H' x=some (.ins Ag dx (GK r o u)))->Q (.ref x) H') :
  ∀ x dx,H1 x=none->H1 dx=none->dx ≠ x->Vo Ag (.ref x :: ([r,o,u] ++ [])) (upd (upd H1 dx (.own x)) x (.ins Ag dx [])) (fun v H2=>v = .non/\Q (.ref x) H2) E0:=fun x dx nx nd ne =>
 ⟨x,dx,r,o,u,rfl,Ab,fun H' hx kp=>⟨rfl,k x H' (Ai.made nx nd kp) ⟨dx,hx⟩⟩⟩
inductive Rdg where
 | no (z:Nat)
 | yes (k:Br.Catalogue) (d:Br.Build)
def rdg (c b:Bytes):Rdg:=if 16384 < b.length then .no 2 else match readM Qj c with
 | none=>.no 6
 | some k=>if (k.all Cz && Ec (namesOf k))=false then .no 8 else match readM (Ex k) b with
  | none=>.no 5
  | some d=>if (d.wrong k).isSome=true then .no 9 else .yes k d
theorem acE {c b:Bytes} (hc:c.length <= 1000000) (f:Br.Tower->BrD.Answer):BrD.ofRight c b f=match rdg c b with
 | .no z=>BrD.no z
 | .yes k d=>f (tower k d):=by
 unfold BrD.ofRight rdg
 have h1:¬ BrD.LOOKED < c.length:=by unfold BrD.LOOKED; omega
 by_cases h2:16384 < b.length
 ·rw [if_pos (.inr h2),if_pos h2]
 ·rw [if_neg (fun z=>z.elim h1 h2),if_neg h2]
  have hC:=Mx.aes c
  cases e:readM Qj c with
  | none =>
   rw [e] at hC
   obtain ⟨x,hx⟩:=hC
   rw [hx]
  | some k =>
   rw [e] at hC
   have hC:Br.readC c = .ok k:=hC
   rw [hC]
   dsimp only
   rw [Mx.adY]
   cases e2:k.all Cz && Ec (namesOf k) with
   | false=>rfl
   | true =>
    rw [if_neg (by simp),if_neg (by simp)]
    have hB:=Mx.aet k b
    cases e3:readM (Ex k) b with
    | none =>
     rw [e3] at hB
     obtain ⟨x,hx⟩:=hB
     rw [hx]
    | some d =>
     rw [e3] at hB
     have hB:Br.readB k b = .ok d:=hB
     rw [hB]
     dsimp only
     by_cases e4:(d.wrong k).isSome=true
     ·rw [if_pos e4,if_pos e4]
     ·rw [if_neg e4,if_neg e4]
def acf (C:Addr):Sp:=fun vs H Q _=>∃ z:Int,vs=[.int z]/\Out H Q (fun v H'=>∃ a dx o u,v = .ref a/\H' a=some (.ins C dx (GK (.int z) o u)))
theorem acn:Av ["refusal"] ["refusal"] (Al Yi):=⟨rfl,rfl,rfl,by decide +kernel,rfl,by decide +kernel,by decide +kernel⟩
theorem RT (T:Txt K mg Ao Ac Ak Ax Ag):Cl P w K mg base 3 "refused" ["refusal"] (acf Ag):=by
 refine T.aeU.ok acn (fun vs H Q E h=>?_) (fun f cdv A outer s H vs Q E hr h=>?_)
 ·obtain ⟨z,rfl,_⟩:=h
  rfl
 ·obtain ⟨z,rfl,k⟩:=h
  refine ⟨_,(Af (Am (Qh (YW T) hr rfl (Aa (pv 0) (Aa (Gj) (Aa (Cq (Ae)) (Ae))))))),?_⟩
  refine ⟨_,rfl,fun d hd=>⟨(by show 0 <= sizeLine; decide),fun l hl=>?_⟩⟩
  exact V7 fun x H' s ⟨dx,hx⟩=>k _ _ (((Ai.new hd).trans (Ai.new hl)).trans s) ⟨x,dx,_,_,rfl,hx⟩
def Xz (C:Addr) (r:Rdg) (v:V) (H:Hp):Prop:=match r with
 | .no z=>0 < z/\∃ a dx o u,v = .ref a/\H a=some (.ins C dx (GK (.int (-(z:Int))) o u))
 | .yes k d=>∃ a dx o u O U,v = .ref a/\H a=some (.ins C dx (GK (.int 0) (.ref o) (.ref u)))/\H o=some (.dT (Aw O))/\H u=some (.lst (Bv U))/\W3 k d.lines O/\QC k d U/\d.lines.length <= 256/\∀ l ∈ d.lines,Full (l.of k)
theorem Xz.same {C:Addr} {r:Rdg} {v:V} {H H':Hp} (s:Ai H H') (h:Xz C r v H):Xz C r v H':=by
 cases r with
 | no z=>obtain ⟨hz,a,dx,o,u,e,h⟩:=h; exact ⟨hz,a,dx,o,u,e,s _ _ h⟩
 | yes k d=>obtain ⟨a,dx,o,u,O,U,e,h1,h2,h3,h⟩:=h; exact ⟨a,dx,o,u,O,U,e,s _ _ h1,s _ _ h2,s _ _ h3,h⟩
theorem aik {C:Addr} {H H1:Hp} {Q:VK} {r:Rdg} (k:Out H Q (Xz C r)) (z:Nat) (hz:0 < z) (e:r = .no z) (s1:Ai H H1):Out H1 Q (fun v H'=>∃ a dx o u,v = .ref a/\H' a=some (.ins C dx (GK (.int (-(z:Int))) o u))):=fun v H' s2 h=>k _ _ (s1.trans s2) (by rw [e]; exact ⟨hz,h⟩)
def Xh (K:PySem.W.Frag) (C:Addr):Sp:=fun vs H Q _=>∃ (a e:Addr) (c b:Bytes),vs=[.ref a,.ref e]/\SqL K H a (bV c)/\c.length <= 1000000/\SqL K H e (bV b)/\b.length <= 1000000/\Out H Q (Xz C (rdg c b))
theorem Nv:Av ["c", "b", "parts", "lines", "owners"] ["c", "b"] (Al PN):=⟨rfl,rfl,rfl,by decide +kernel,rfl,by decide +kernel,by decide +kernel⟩
theorem aak (T:Txt K mg Ao Ac Ak Ax Ag):Cl P w K mg base 6 "read_build" ["c", "b"] (Xh K Ag):=by
 refine T.Z7.ok Nv (fun vs H Q E h=>?_) (fun f cdv A outer s H vs Q E hr h=>?_)
 ·obtain ⟨a,e,c,b,rfl,_⟩:=h
  rfl
 ·obtain ⟨a,e,c,b,rfl,ha,hc,he,hb,k⟩:=h
  have nd:=Nv.nd
  have R:=RT (P:=P) (w:=w) (base:=base) T
  refine ⟨_,(Ad (Bj (Bd Ln (Bc Ay (by rfl) T.CJ PySem.boot_len (Aa (pv 1) (Ae))) (Cp T.Ob rfl) (Bg _)) (Af (Am (Bm R hr rfl (Aa (Cp T.Vf rfl) (Ae))))) Ar) (Ad (Ba (i:=2) nd rfl (Or.inl rfl) (Bm (RV T) hr rfl (Aa (pv 0) (Ae)))) (Ad (Bj (Cg (Dk (pv 2))) (Af (Am (Bm R hr rfl (Aa (Cp T.M4 rfl) (Ae))))) Ar) (Ad (Bj (Gh (DP (Bm (Mg T) hr rfl (Aa (pv 2) (Ae))))) (Af (Am (Bm R hr rfl (Aa (Cp T.Ku rfl) (Ae))))) Ar) (Ad (Ba (i:=3) nd rfl (Or.inl rfl) (Bm (aai T) hr rfl (Aa (pv 1) (Aa (pv 2) (Ae))))) (Ad (Bj (Cg (Dk (pv 3))) (Af (Am (Bm R hr rfl (Aa (Cp T.T6 rfl) (Ae))))) Ar) (Ad (Ba (i:=4) nd rfl (Or.inl rfl) (Bm (Ow T) hr rfl (Aa (pv 3) (Ae)))) (Ad (Bj (Cg (Dk (pv 4))) (Af (Am (Bm R hr rfl (Aa (Cp T.O7 rfl) (Ae))))) Ar) (Af (Am (Qh (YW T) hr rfl (Aa (Aq) (Aa (pv 4) (Aa (Bm (Xy T) hr rfl (Aa (pv 4) (Aa (Bc Ay (by rfl) T.CJ PySem.boot_len (Aa (pv 3) (Ae))) (Ae)))) (Ae))))))))))))))),?_⟩
  have no:∀ {H1:Hp} (z:Nat),0 < z->Ai H H1->rdg c b = .no z->Out H1 Q (fun v H'=>∃ a dx o u,v = .ref a/\H' a=some (.ins Ag dx (GK (.int (-(z:Int))) o u))):=fun z hz s1 e=>aik k z hz e s1
  refine ⟨_,rfl,e,_,rfl,.inl he,_,_,rfl,rfl,_,rfl,?_⟩
  rw [FP]
  refine BJ (fun h0=>?_) (fun h0=>?_)
  ·have h0:16384 < b.length:=by
    have h0:(16384:Int) < (b.length:Int):=by simpa using h0
    omega
   refine ⟨-2,rfl,no 2 (by decide) (Ai.refl _) ?_⟩
   unfold rdg
   rw [if_pos h0]
  have h0:¬ 16384 < b.length:=by
   have h0:¬ (16384:Int) < (b.length:Int):=by simpa using h0
   omega
  unfold rdg at k no
  rw [if_neg h0] at k no
  refine ⟨_,rfl,a,c,rfl,ha,hc,fun v1 H1 s1 hv1=>?_⟩
  cases ec:readM Qj c with
  | none =>
   rw [ec] at hv1 no
   have hv1:v1 = .non:=hv1
   subst hv1
   exact ⟨_,rfl,_,rfl,Dm ⟨-6,rfl,no 6 (by decide) s1 rfl⟩⟩
  | some ps =>
   rw [ec] at hv1 no k
   obtain ⟨l,qs,rfl,hl,hps⟩:=hv1
   have hlen:=Mx.ahB ec
   refine ⟨_,rfl,_,rfl,Ej ⟨_,rfl,l,ps,rfl,⟨l,qs,rfl,hl,hps⟩,by omega,fun v2 H2 s2 ev2=>⟨_,ev2,?_⟩⟩⟩
   have sm2:=s1.trans s2
   dsimp only at no k
   cases er:(ps.all Cz && Ec (namesOf ps)) with
   | false =>
    rw [er] at no
    exact Dm ⟨-8,rfl,no 8 (by decide) sm2 rfl⟩
   | true =>
    rw [er,if_neg (by simp)] at no k
    rw [Bool.and_eq_true] at er
    refine Ej ⟨_,rfl,_,rfl,e,l,b,qs,ps,rfl,sm2.seq he,hb,s2 _ _ hl,Hw s2 hps,Mx.VD er.2,by omega,fun v3 H3 s3 hv3=>?_⟩
    have sm3:=sm2.trans s3
    cases eb:readM (Ex ps) b with
    | none =>
     rw [eb] at hv3 no
     have hv3:v3 = .non:=hv3
     subst hv3
     exact ⟨_,rfl,_,rfl,Dm ⟨-5,rfl,no 5 (by decide) sm3 rfl⟩⟩
    | some d =>
     rw [eb] at hv3 no k
     obtain ⟨ll,as,rfl,hll,hls⟩:=hv3
     obtain ⟨agg,hlr⟩:=Mx.abJ eb
     have aiM:∀ p ∈ ps,Cz p=true:=List.all_eq_true.mp er.1
     have ajR:∀ p ∈ ps,p.studsOk=true:=fun p hp=>by
      have:=aiM p hp
      unfold Cz at this
      rw [Bool.and_eq_true] at this
      exact this.1
     have aiS:∀ p ∈ ps,Full p:=fun p hp=>by
      obtain ⟨i,hi⟩:=List.mem_iff_getElem?.mp hp
      obtain ⟨q,_,hq⟩:=S8 hps hi
      exact hq.full
     have abf:∀ l ∈ d.lines,Full (l.of ps):=fun l hl=>by
      have hlt:=(hlr l hl).2
      have:ps.getD l.part Br.nothing ∈ ps:=by
       rw [List.getD_eq_getElem?_getD,List.getElem?_eq_getElem hlt]
       exact List.getElem_mem hlt
      exact Mx.GZ (aiS _ this) _
     refine ⟨_,rfl,_,rfl,Ej ⟨_,rfl,ll,as,qs,d,ps,rfl,hll,hls,Hw (s2.trans s3) hps,ajR,agg,fun l hl=>(hlr l hl).1,fun v4 H4 s4 hv4=>?_⟩⟩
     have sm4:=sm3.trans s4
     dsimp only at no k
     unfold agF at hv4
     by_cases ew:(d.wrong ps).isSome=true
     ·rw [if_pos ew] at hv4 no
      subst hv4
      exact ⟨_,rfl,_,rfl,Dm ⟨-9,rfl,no 9 (by decide) sm4 rfl⟩⟩
     ·rw [if_neg ew] at hv4 k
      obtain ⟨o,O,rfl,ho,hO⟩:=hv4
      have hlen2:(as.map V.ref).length=d.lines.length:=by rw [List.length_map]; exact Bh hls
      refine ⟨_,rfl,_,rfl,Ej ⟨_,rfl,_,rfl,_,rfl,ll,_,rfl,.inl (SqL.of (s4 _ _ hll)),o,O,ps,d,(by rw [hlen2] <;> rfl),ho,hO,agg,abf,fun v5 H5 s5 ⟨lu,U,ev5,hlu,hU⟩=>?_⟩⟩
      subst ev5
      exact V7 fun x H' s6 ⟨dx,hx⟩=>k _ _ (sm4.trans (s5.trans s6)) ⟨x,dx,o,lu,O,U,rfl,hx,s6 _ _ (s5 _ _ ho),s6 _ _ hlu,hO,hU,agg,abf⟩
theorem ifT {c A B:Prop} [Decidable c] (hc:c) (h:A):if c then A else B:=by rw [if_pos hc]; exact h
theorem ifF {c A B:Prop} [Decidable c] (hc:¬ c) (h:B):if c then A else B:=by rw [if_neg hc]; exact h
def ajL (l:List Int):List V:=l.map V.int
def ada (r:Rdg) (f:Br.Catalogue->Br.Build->BrD.Answer):List Int:=match r with
 | .no z=>[-(z:Int)]
 | .yes k d=>StepsNeutral.shown (f k d)
theorem afa {c b:Bytes} (hc:c.length <= 1000000) (f:Br.Tower->BrD.Answer):StepsNeutral.shown (BrD.ofRight c b f)=ada (rdg c b) fun k d=>f (tower k d):=by
 rw [acE hc]
 cases rdg c b <;> rfl
def R9 (r:Rdg):Rdg:=match r with
 | .no z=>.no z
 | .yes k d=>if (tower k d).cant.isSome=true then .no 3 else .yes k d
theorem afb (r:Rdg) (f:Br.Catalogue->Br.Build->BrD.Answer):ada r (fun k d=>BrD.built (tower k d) (f k d))=ada (R9 r) f:=by
 cases r with
 | no z=>rfl
 | yes k d =>
  unfold R9 ada BrD.built
  dsimp only
  by_cases h:(tower k d).cant.isSome=true
  ·rw [if_pos h,if_pos h]; rfl
  ·rw [if_neg h,if_neg h]
theorem aee {r:Rdg} {k:Br.Catalogue} {d:Br.Build} (h:R9 r = .yes k d):r = .yes k d/\(tower k d).cant=none:=by
 cases r with
 | no z=>cases h
 | yes q e =>
  unfold R9 at h
  dsimp only at h
  cases z:(tower q e).cant with
  | some y=>rw [z] at h; cases h
  | none=>rw [z] at h; cases h; exact ⟨rfl,z⟩
open Mx (P3 mv Own Full Jx T4 UL)
def QZ:Sp:=fun vs H Q _=>∃ (a:Addr) (U:List Nat) (n:Nat) (R:Nat->Nat->Prop),vs=[.ref a]/\H a=some (.lst (Bv U))/\Jx n R 0 U/\n <= 256 /\
 Out H Q (fun v H'=>∃ l U',v = .ref l/\H' l=some (.lst (Bv U'))/\Jx n R n U')
theorem Jc:Av ["under", "reached", "middle", "line"] ["under"] (Al J8):=⟨rfl,rfl,rfl,by decide +kernel,rfl,by decide +kernel,by decide +kernel⟩
theorem Us (T:Txt K mg Ao Ac Ak Ax Ag):Cl P w K mg base 3 "lines_reached" ["under"] QZ:=by
 refine T.Uh.ok Jc (fun vs H Q E h=>?_) (fun f cdv A outer s H vs Q E hr h=>?_)
 ·obtain ⟨a,U,n,R,rfl,_⟩:=h
  rfl
 ·obtain ⟨a,U0,n,R,rfl,ha,hM,h256,k⟩:=h
  have nd:=Jc.nd
  refine ⟨_,(Ad (Ba (i:=1) nd rfl (Or.inl rfl) (Jl aae (by rfl) T.agA WQ (Aa (pv 0) (Ae)))) (Ad (CG PassesOwn.never rfl (Mu rfl T.Qw (Aa (Bc Ay (by rfl) T.CJ PySem.boot_len (Aa (pv 0) (Ae))) (Ae))) (Be (i:=2) nd rfl (Or.inl rfl))
    (Af (CG PassesOwn.never rfl (Mu rfl T.Qw (Aa (Bc Ay (by rfl) T.CJ PySem.boot_len (Aa (pv 0) (Ae))) (Ae))) (Be (i:=3) nd rfl (Or.inl rfl))
     (Af (Bj (DP (Bm (Gv T) hr rfl (Aa (pv 2) (Aa (Ck BP (pv 1) (pv 3) (fun _ _=>rfl)) (Ae)))))
      (Af (acq (BW aa0 (Ck BP (pv 1) (pv 3) (fun _ _=>rfl)) (Ck BP (pv 1) (pv 2) (fun _ _=>rfl))) (acw (pv 1) (pv 3) set_list))) Ar))))) (Af (Am (pv 1))))),?_⟩
  have hl0:U0.length=n:=hM.len
  refine ⟨_,rfl,a,_,rfl,.inl (SqL.of ha),fun l hl=>?_⟩
  have s1:Ai H (upd H l (.lst (Bv U0))):=Ai.new hl
  have ha1:=s1 _ _ ha
  have hl1:upd H l (.lst (Bv U0)) l=some (.lst (Bv U0)):=Ab
  have nal:a ≠ l:=fun z=>by rw [<- z,ha] at hl; cases hl
  generalize upd H l (.lst (Bv U0))=H1 at s1 ha1 hl1
  refine ⟨_,rfl,a,_,rfl,.inl (SqL.of ha1),_,rfl,by rw [Bt]; omega,by rw [Bt]; omega,?_⟩
  rw [Bt,Int.toNat_natCast,hl0]
  refine Js (n:=n) (fun i σ H'=>∃ (v2 v3:Option V) (U:List Nat),σ=[some (.ref a),some (.ref l),v2,v3]/\Ai H H'/\H' l=some (.lst (Bv U))/\Jx n R i U)
   ⟨none,none,U0,rfl,s1,hl1,hM⟩ ?_ ?_
  ·rintro m σ H' hm ⟨v2,v3',U,rfl,sm,hlU,hMm⟩
   have ha2:=sm _ _ ha
   refine ⟨_,rfl,a,_,rfl,.inl (SqL.of ha2),_,rfl,by rw [Bt]; omega,by rw [Bt]; omega,?_⟩
   rw [Bt,Int.toNat_natCast,hl0]
   refine Js (n:=n) (fun i σ H'=>∃ (v3:Option V) (U:List Nat),σ=[some (.ref a),some (.ref l),some (.int (m:Int)),v3]/\Ai H H'/\H' l=some (.lst (Bv U))/\T4 n R m i U)
    ⟨v3',U,?_,sm,hlU,hMm.start⟩ ?_ ?_
   ·show [some (V.ref a),some (V.ref l),some (V.int (0 + (m:Int))),v3'] = _
    rw [Int.zero_add]
   ·rintro i σ H2 hi ⟨v3',U,rfl,sm,hlU,hI⟩
    have hlen:U.length=n:=hI.len
    rw [Int.zero_add]
    refine ⟨_,rfl,_,rfl,_,rfl,l,_,_,_,rfl,rfl,SqL.of hlU,Iw rfl (Fl (by omega)),m,U.getD i 0,rfl,by omega,fun v H3 s3 ev=>⟨_,ev,?_⟩⟩
    have hst:=hI.step hm hi
    unfold UL at hst
    have hl3:=s3 _ _ hlU
    refine BJ (fun hb=>?_) (fun hb=>⟨_,U,rfl,sm.trans s3,hl3,?_⟩)
    ·rw [if_pos hb] at hst
     refine ⟨_,rfl,_,rfl,l,_,_,_,rfl,rfl,SqL.of hl3,Iw rfl (Fl (by omega)),_,rfl,_,rfl,l,_,_,_,rfl,rfl,SqL.of hl3,Iw rfl (Fl (by omega)),_,_,rfl,rfl,?_⟩
     dsimp only
     rw [V2]
     refine ⟨_,rfl,_,rfl,l,_,_,i,rfl,rfl,hl3,U5 (by rw [Bt]; omega),?_⟩
     rw [Yw]
     exact ⟨_,_,rfl,Ai.Gf hl (sm.trans s3),Ab,hst⟩
    ·rw [if_neg hb] at hst
     exact hst
   ·rintro σ H2 ⟨v3',U,rfl,sm,hlU,hI⟩
    exact ⟨_,_,U,rfl,sm,hlU,hI.fin⟩
  ·rintro σ H' ⟨v2,v3',U,rfl,sm,hlU,hMm⟩
   exact ⟨_,rfl,k _ _ sm ⟨l,U,rfl,hlU,hMm⟩⟩
def aaT (n:Nat) (U:List Nat):Option Nat:=(List.range n).find? fun i=>(U.getD i 0).testBit i
def Kv:Sp:=fun vs H Q _=>∃ (a:Addr) (U:List Nat) (n:Nat) (R:Nat->Nat->Prop),vs=[.ref a]/\H a=some (.lst (Bv U))/\Jx n R 0 U/\n <= 256 /\
 Out H Q (fun v _=>∃ U',Jx n R n U'/\v=Lk (aaT n U'))
theorem Gx:Av ["under", "line", "mask"] ["under"] (Al G6):=⟨rfl,rfl,rfl,by decide +kernel,rfl,by decide +kernel,by decide +kernel⟩
theorem acW {n:Nat} {p:Nat->Bool} {i:Nat} (hi:i < n) (hp:p i=true) (hb:∀ j,j < i->p j=false):(List.range n).find? p=some i:=by
 rw [List.find?_range_eq_some]
 exact ⟨hp,List.mem_range.mpr hi,fun j hj=>by rw [hb j hj]; rfl⟩
theorem Ko {n:Nat} {p:Nat->Bool} (hb:∀ j,j < n->p j=false):(List.range n).find? p=none:=by
 rw [List.find?_eq_none]
 intro x hx
 rw [hb x (List.mem_range.mp hx)]
 exact Bool.false_ne_true
theorem Mf (T:Txt K mg Ao Ac Ak Ax Ag):Cl P w K mg base 4 "least_line_in_ring" ["under"] Kv:=by
 refine T.Lz.ok Gx (fun vs H Q E h=>?_) (fun f cdv A outer s H vs Q E hr h=>?_)
 ·obtain ⟨a,U,n,R,rfl,_⟩:=h
  rfl
 ·obtain ⟨a,U0,n,R,rfl,ha,hM,h256,k⟩:=h
  have nd:=Gx.nd
  refine ⟨_,(Ad (CG PassesOwn.never rfl (JQ rfl T.Ef (Aa (Bm (Us T) hr rfl (Aa (pv 0) (Ae))) (Ae))) (Fx rfl (Bw (Be (i:=1) nd rfl (Or.inl rfl)) (Bw (Be (i:=2) nd rfl (Or.inl rfl)) Eg)))
    (Af (Bj (DP (Bm (Gv T) hr rfl (Aa (pv 1) (Aa (pv 2) (Ae))))) (Af (Am (pv 1))) Ar))) (Af (Am BZ))),?_⟩
  refine ⟨_,rfl,a,U0,n,R,rfl,ha,hM,h256,fun v H1 s1 ⟨l,U,ev,hl,hU⟩=>?_⟩
  subst ev
  have hlen:U.length=n:=hU.len
  refine ⟨l,_,rfl,SqL.of hl,Jt (K:=K) (a:=l) (xs:=Bv U) (fun i σ H'=>∃ v1 v2:Option V,σ=[some (.ref a),v1,v2]/\Ai H1 H'/\∀ j,j < i->(U.getD j 0).testBit j=false)
   ⟨none,none,rfl,Ai.refl _,fun j hj=>absurd hj (Nat.not_lt_zero j)⟩ (fun i σ H' _ ⟨_,_,_,sm,_⟩=>SqL.of (sm _ _ hl)) ?_ ?_⟩
  ·rintro i x σ H' tt hx ⟨v1,v2,rfl,sm,hno⟩ hT
   have hi:i < U.length:=by
    have:=(List.getElem?_eq_some_iff.mp hx).1
    rwa [Bt] at this
   rw [Fl hi] at hx
   cases hx
   have st:=Ai.new (o:=.tup [.int ((i:Nat):Int),.int ((U.getD i 0:Nat):Int)]) hT
   refine ⟨tt,_,rfl,SqT.of Ab,rfl,_,_,rfl,_,_,rfl,rfl,?_⟩
   refine ⟨_,rfl,_,rfl,i,U.getD i 0,rfl,by omega,fun v H3 s3 ev=>⟨_,ev,?_⟩⟩
   have sm3:=sm.trans (st.trans s3)
   refine BJ (fun hb=>?_) (fun hb=>⟨_,_,rfl,sm3,fun j hj=>?_⟩)
   ·refine ⟨_,rfl,k _ _ (s1.trans sm3) ⟨U,hU,?_⟩⟩
    unfold aaT
    rw [acW (p:=fun i=>(U.getD i 0).testBit i) (by omega) hb hno]
    rfl
   ·by_cases e:j < i
    ·exact hno j e
    ·have:j=i:=by omega
     subst this
     exact Bool.eq_false_iff.mpr hb
  ·rintro σ H' ⟨v1,v2,rfl,sm,hno⟩
   refine k _ _ (s1.trans sm) ⟨U,hU,?_⟩
   rw [Bt,hlen] at hno
   unfold aaT
   rw [Ko (p:=fun i=>(U.getD i 0).testBit i) hno]
   rfl
def Lq (c:Br.Catalogue) (b:Br.Build):Option Nat:=(List.range b.lines.length).find? fun i=>!((tower c b).hold.getD i false)
def Hr:Sp:=fun vs H Q _=>∃ (d:Addr) (O:List (P3 × Int)) (c:Br.Catalogue) (b:Br.Build),vs=[.ref d,.int (b.lines.length:Int)]/\H d=some (.dT (Aw O))/\W3 c b.lines O/\b.lines.length <= 256/\(∀ l ∈ b.lines,Full (l.of c)) /\
 Out H Q (fun v _=>v=Lk (Lq c b))
theorem Es:Av ["owners", "count", "held", "place", "line"] ["owners", "count"] (Al Ff):=⟨rfl,rfl,rfl,by decide +kernel,rfl,by decide +kernel,by decide +kernel⟩
def W7 (c:Br.Catalogue) (b:Br.Build) (pre:List (P3 × Int)) (i:Nat):Prop:=∃ x ∈ pre,x.2=(i:Int)/\(x.1.2.2=0 \/ ∃ j,Own c b.lines j (mv x.1 0 0 (-1))/\j ≠ i)
def Iu (B:List Bool):List V:=B.map V.bl
theorem abK (B:List Bool):(Iu B).length=B.length:=List.length_map _
theorem Y4 (B:List Bool):(Iu B).all Ii=true:=by
 unfold Iu
 rw [List.all_map,List.all_eq_true]
 intro x _
 rfl
theorem af9 (B:List Bool):inV (.bl false) (Iu B)=B.contains false:=by
 unfold inV Iu
 rw [List.any_map]
 induction B with
 | nil=>rfl
 | cons x t ih=>rw [List.any_cons,List.contains_cons,ih]; cases x <;> rfl
theorem acA {c:Br.Catalogue} {ls:List Br.Line} {O:List (P3 × Int)} (h:W3 c ls O) {q:P3} {v:V} (e:Ez (Aw O) (t3 q)=some v):∃ j:Nat,v = .int (j:Int)/\Own c ls j q:=by
 obtain ⟨t,rfl,ht⟩:=JC e
 obtain ⟨j,rfl,ho⟩:=(h.own _ _).mp ht
 exact ⟨j,rfl,ho⟩
theorem HQ (T:Txt K mg Ao Ac Ak Ax Ag):Cl P w K mg base 3 "least_line_without_hold" ["owners", "count"] Hr:=by
 refine T.HN.ok Es (fun vs H Q E h=>?_) (fun f cdv A outer s H vs Q E hr h=>?_)
 ·obtain ⟨d,O,c,b,rfl,_⟩:=h
  rfl
 ·obtain ⟨d,O,c,b,rfl,hd,hO,h256,hf,k⟩:=h
  have nd:=Es.nd
  have hu:=Jq hr
  refine ⟨_,(Ad (Ba (i:=2) nd rfl (Or.inl rfl) (BW afM (Cq (Aa (Dy) (Ae))) (pv 1))) (Ad (JN (CG PassesOwn.never rfl (Ho (pv 0)) (Fx rfl (Bw (Be (i:=3) nd rfl (Or.inl rfl)) (Bw (Be (i:=4) nd rfl (Or.inl rfl)) Eg)))
    (Af (Bj (PW.pt (Eu (Bd Gp (Ck Im (pv 3) Aq (fun _ _=>rfl)) Aq (Bg _)) (Fi (Bd V3 (aaY hu (pv 0) (Bm (Ip T) hr rfl (Aa (pv 3) (Ae))) (pv 4) ⟨rfl,rfl,rfl,rfl⟩) (pv 4) (Bg _)))))
     (Af (acq Dy (acw (pv 2) (pv 4) set_list))) Ar)))) (Ad (Bj (Bd Mv Dy (pv 2) (by rfl)) (Af (Am (S6 PySem.F.plainAttrs_list PySem.F.slot_list_index PySem.F.type_list_index afS (pv 2) (Aa (Dy) (Ae))))) Ar) (Af (Am BZ))))),?_⟩
  refine ⟨(by show 1 <= sizeLine; decide),fun l0 hl0=>⟨_,rfl,l0,_,_,rfl,rfl,Ab,by omega,by omega,?_,fun lh hlh=>?_⟩⟩
  ·show 1 * (b.lines.length:Int).toNat <= sizeLine
   rw [Int.toNat_natCast,sizeLine_eq]; omega
  have aiZ:(List.replicate (b.lines.length:Int).toNat [V.bl false]).flatten=Iu (List.replicate b.lines.length false):=by
   rw [Int.toNat_natCast]
   unfold Iu
   induction b.lines.length with
   | zero=>rfl
   | succ n ih=>rw [List.replicate_succ,List.flatten_cons,ih,List.replicate_succ]; rfl
  rw [aiZ]
  have s1:Ai H (upd H l0 (.lst [.bl false])):=Ai.new hl0
  have s2:=Ai.new (o:=.lst (Iu (List.replicate b.lines.length false))) hlh
  have nlh:H lh=none:=s1.free hlh
  have aj0:upd (upd H l0 (.lst [.bl false])) lh (.lst (Iu (List.replicate b.lines.length false))) lh=some (.lst (Iu (List.replicate b.lines.length false))):=Ab
  have sm2:=s1.trans s2
  generalize upd (upd H l0 (.lst [.bl false])) lh (.lst (Iu (List.replicate b.lines.length false)))=H2 at aj0 sm2
  have hd2:=sm2 _ _ hd
  have nld:lh ≠ d:=fun z=>by rw [z,hd] at nlh; cases nlh
  refine ⟨d,.dT (Aw O),hd2,True.intro,fun od=>?_⟩
  have hd3:upd H2 d (.frz od (.dT (Aw O))) d=some (.frz od (.dT (Aw O))):=Ab
  have ald:upd H2 d (.frz od (.dT (Aw O))) lh=some (.lst (Iu (List.replicate b.lines.length false))):=by rw [Ah nld]; exact aj0
  refine ⟨_,rfl,d,od,_,rfl,Ab,FN (kvs:=Aw O)
   (fun i σ H'=>∃ (v3 v4:Option V) (B:List Bool),σ=[some (.ref d),some (.int (b.lines.length:Int)),some (.ref lh),v3,v4] /\
    (∀ x o,upd H2 d (.frz od (.dT (Aw O))) x=some o->x ≠ lh->H' x=some o)/\H' lh=some (.lst (Iu B))/\B.length=b.lines.length/\∀ j,j < b.lines.length->(B.getD j false=true ↔ W7 c b (O.take i) j))
   ⟨none,none,_,rfl,fun x o e _=>e,ald,List.length_replicate,fun j hj=>?_⟩ (fun i σ H' _ ⟨_,_,_,_,kp,_⟩=>kp _ _ hd3 nld.symm) ?_ ?_⟩
  ·rw [List.getD_eq_getElem?_getD,List.getElem?_replicate,if_pos hj]
   constructor
   ·intro z; cases z
   ·rintro ⟨x,hx,_⟩; cases hx
  ·rintro i kk v σ H' tt q hkv ⟨v3',v4,B,rfl,kp,hB,hBl,ahq⟩ hq hT
   obtain ⟨pl,n0,hes,rfl,rfl⟩:=G9 hkv
   have hmem:(pl,n0) ∈ O:=List.mem_of_getElem? hes
   obtain ⟨n,rfl,hown⟩:=(hO.own _ _).mp hmem
   have hn:=acB hown
   have sn:Ai H' (upd H' tt (.tup [.ref q,.int (n:Int)])):=Ai.new hT
   refine ⟨tt,_,rfl,SqT.of Ab,rfl,_,_,rfl,_,_,rfl,rfl,?_⟩
   have hq2:upd H' tt (.tup [.ref q,.int (n:Int)]) q=some (.tup (v3 pl)):=sn _ _ hq
   have hB2:=sn _ _ hB
   have kp2:∀ x o,upd H2 d (.frz od (.dT (Aw O))) x=some o->x ≠ lh->upd H' tt (.tup [.ref q,.int (n:Int)]) x=some o:=fun x o e ne=>sn _ _ (kp x o e ne)
   generalize upd H' tt (.tup [.ref q,.int (n:Int)])=H3 at hq2 hB2 kp2
   have etk:O.take (i + 1)=O.take i ++ [(pl,(n:Int))]:=by rw [List.take_succ,hes]; rfl
   have step:∀ (B':List Bool) (bb:Bool),(bb=true ↔ pl.2.2=0 \/ ∃ j,Own c b.lines j (mv pl 0 0 (-1))/\j ≠ n)->(∀ j,j < b.lines.length->(B'.getD j false=true ↔ B.getD j false=true \/ (j=n/\bb=true))) ->
     ∀ j,j < b.lines.length->(B'.getD j false=true ↔ W7 c b (O.take (i + 1)) j):=fun B' bb hbb hB' j hj=>by
    rw [hB' j hj,ahq j hj,etk,hbb]
    unfold W7
    constructor
    ·rintro (⟨x,hx,h⟩ | ⟨rfl,h⟩)
     ·exact ⟨x,List.mem_append_left _ hx,h⟩
     ·exact ⟨(pl,(j:Int)),List.mem_append_right _ (List.mem_singleton.mpr rfl),rfl,h⟩
    ·rintro ⟨x,hx,h1,h2⟩
     rcases List.mem_append.mp hx with hx | hx
     ·exact .inl ⟨x,hx,h1,h2⟩
     ·rw [List.mem_singleton] at hx
      subst hx
      have:n=j:=Int.ofNat.inj h1
      subst this
      exact .inr ⟨rfl,h2⟩
   have yes:∀ H4:Hp,H4 lh=some (.lst (Iu B))->(∀ x o,upd H2 d (.frz od (.dT (Aw O))) x=some o->x ≠ lh->H4 x=some o)->(pl.2.2=0 \/ ∃ j,Own c b.lines j (mv pl 0 0 (-1))/\j ≠ n) ->
     ∃ (v3 v4:Option V) (B1:List Bool),[some (V.ref d),some (.int (b.lines.length:Int)),some (.ref lh),some (.ref q),some (.int (n:Int))] = [some (.ref d),some (.int (b.lines.length:Int)),some (.ref lh),v3,v4] /\
    (∀ x o,upd H2 d (.frz od (.dT (Aw O))) x=some o->x ≠ lh->upd H4 lh (.lst ((Iu B).set n (.bl true))) x=some o)/\upd H4 lh (.lst ((Iu B).set n (.bl true))) lh=some (.lst (Iu B1))/\B1.length=b.lines.length/\∀ j,j < b.lines.length->(B1.getD j false=true ↔ W7 c b (O.take (i+1)) j):=fun H4 hB4 kp4 hc=>by
    refine ⟨_,_,B.set n true,rfl,fun x o e ne=>by rw [Ah ne]; exact kp4 x o e ne,?_,by rw [List.length_set]; exact hBl,step _ true ⟨fun _=>hc,fun _=>rfl⟩ fun j hj=>?_⟩
    ·rw [Ab]; unfold Iu; rw [List.map_set]
    ·rw [List.getD_eq_getElem?_getD,List.getElem?_set,List.getD_eq_getElem?_getD]
     by_cases e:n=j
     ·rw [if_pos e,if_pos (by omega)]
      simp [e]
     ·rw [if_neg e]
      have:¬ j=n:=fun z=>e z.symm
      simp [this]
   refine ⟨_,rfl,q,_,_,_,rfl,rfl,SqT.of hq2,rfl,rfl,_,rfl,?_⟩
   refine BJ (fun h0=>?_) (fun h0=>?_)
   ·refine ⟨_,rfl,_,rfl,lh,_,_,n,rfl,rfl,hB2,U5 (by rw [abK]; omega),?_⟩
    exact yes _ hB2 kp2 (.inl (by simpa using h0))
   have h0':¬ pl.2.2=0:=by simpa using h0
   refine ⟨_,rfl,d,rfl,.inr ⟨_,.inr ⟨od,kp2 _ _ hd3 nld.symm⟩⟩,_,rfl,q,pl,rfl,hq2,fun v5 H5 s5 ⟨p5,e5,hp5⟩=>?_⟩
   subst e5
   have hB5:=s5 _ _ hB2
   have kp5:∀ x o,upd H2 d (.frz od (.dT (Aw O))) x=some o->x ≠ lh->H5 x=some o:=fun x o e ne=>s5 _ _ (kp2 x o e ne)
   refine ⟨_,rfl,_,.inr ⟨Aw O,t3 (mv pl 0 0 (-1)),p5,.inr ⟨od,kp5 _ _ hd3 nld.symm⟩,rfl,hp5,rfl⟩,?_⟩
   cases ev:Ez (Aw O) (t3 (mv pl 0 0 (-1))) with
   | none =>
    refine ⟨_,rfl,rfl,_,rfl,BJ (fun h1=>by simp at h1) (fun _=>⟨_,_,B,rfl,kp5,hB5,hBl,step _ false ⟨fun z=>(Bool.false_ne_true z).elim,?_⟩ fun j hj=>by simp⟩)⟩
    rintro (z | ⟨j,hj,_⟩)
    ·exact absurd z h0'
    ·have:=(hO.own _ _).mpr ⟨j,rfl,hj⟩
     rw [Ge hO.nd this] at ev
     cases ev
   | some u =>
    obtain ⟨j,rfl,hj⟩:=acA hO ev
    refine ⟨_,rfl,rfl,_,rfl,?_⟩
    refine BJ (fun h1=>?_) (fun h1=>?_)
    ·refine ⟨_,rfl,_,rfl,lh,_,_,n,rfl,rfl,hB5,U5 (by rw [abK]; omega),?_⟩
     refine yes _ hB5 kp5 (.inr ⟨j,hj,fun z=>?_⟩)
     rw [z] at h1
     simp at h1
    ·have hjn:j=n:=by
      simp at h1
      omega
     refine ⟨_,_,B,rfl,kp5,hB5,hBl,step _ false ⟨fun z=>(Bool.false_ne_true z).elim,?_⟩ fun j hj=>by simp⟩
     rintro (z | ⟨j',hj',hne⟩)
     ·exact absurd z h0'
     ·have e1:=Ge hO.nd ((hO.own _ _).mpr ⟨j',rfl,hj'⟩)
      rw [e1] at ev
      simp at ev
      omega
  ·rintro σ H' ⟨v3',v4,B,rfl,kp,hB,hBl,ahq⟩
   rw [Cv,List.take_length] at ahq
   have adL:∀ j,j < b.lines.length->B.getD j false=(tower c b).hold.getD j false:=fun j hj=>by
    rw [Bool.eq_iff_iff,ahq j hj,Mx.age hf hj]
    unfold W7
    constructor
    ·rintro ⟨x,hx,h1,h2⟩
     obtain ⟨j',e',ho⟩:=(hO.own x.1 x.2).mp hx
     have:j'=j:=Int.ofNat.inj (e'.symm.trans h1)
     subst this
     rcases h2 with h2 | ⟨j2,h2,h3⟩
     ·exact .inl ⟨x.1,ho,h2⟩
     ·exact .inr ⟨x.1,j2,ho,h2,h3⟩
    ·rintro (⟨q,ho,h2⟩ | ⟨q,j2,ho,h2,h3⟩)
     ·exact ⟨(q,(j:Int)),(hO.own _ _).mpr ⟨j,rfl,ho⟩,rfl,.inl h2⟩
     ·exact ⟨(q,(j:Int)),(hO.own _ _).mpr ⟨j,rfl,ho⟩,rfl,.inr ⟨j2,h2,h3⟩⟩
   refine ⟨kp _ _ hd3 nld.symm,?_⟩
   have sm:Ai H (upd H' d (.dT (Aw O))):=fun x o e=>by
    by_cases z:x=d
    ·rw [z,Ab]; rw [z,hd] at e; exact e
    ·rw [Ah z]
     refine kp _ _ (by rw [Ah z]; exact sm2 _ _ e) fun y=>?_
     rw [y,nlh] at e
     cases e
   have hB':upd H' d (.dT (Aw O)) lh=some (.lst (Iu B)):=by rw [Ah nld]; exact hB
   generalize upd H' d (.dT (Aw O))=H9 at sm hB'
   refine ⟨_,rfl,lh,_,rfl,.inl (SqL.of hB'),rfl,Y4 B,_,rfl,?_⟩
   refine BJ (fun h1=>?_) (fun h1=>?_)
   ·have h1:B.contains false=true:=by rw [<- af9]; exact h1
    have hex:∃ j,j < b.lines.length/\B.getD j false=false:=by
     rw [List.contains_iff_mem] at h1
     obtain ⟨j,hj⟩:=List.mem_iff_getElem?.mp h1
     exact ⟨j,hBl ▸ (List.getElem?_eq_some_iff.mp hj).1,by rw [List.getD_eq_getElem?_getD,hj]; rfl⟩
    have hfi:∃ j,Lq c b=some j:=by
     obtain ⟨j,hj,e⟩:=hex
     cases ec:Lq c b with
     | some j=>exact ⟨j,rfl⟩
     | none =>
      unfold Lq at ec
      rw [List.find?_eq_none] at ec
      have:=ec j (List.mem_range.mpr hj)
      rw [<- adL j hj,e] at this
      exact absurd rfl this
    obtain ⟨j,hj⟩:=hfi
    have hj2:=hj
    unfold Lq at hj2
    rw [List.find?_range_eq_some] at hj2
    obtain ⟨p1,p2,p3⟩:=hj2
    have p2:=List.mem_range.mp p2
    have bat:∀ m,m < b.lines.length->(Iu B)[m]? = some (.bl (B.getD m false)):=fun m hm=>by
     unfold Iu
     rw [List.getElem?_map,List.getD_eq_getElem?_getD,List.getElem?_eq_getElem (by omega)]
     rfl
    refine ⟨_,rfl,.inl ⟨rfl,_,SqL.of hB'⟩,lh,_,_,j,_,rfl,rfl,SqL.of hB',rfl,Y4 B,bat j p2,?_,fun m z' hm hz=>?_,k _ _ sm ?_⟩
    ·rw [adL j p2]
     have:(tower c b).hold.getD j false=false:=by simpa using p1
     rw [this]; rfl
    ·rw [bat m (by omega),adL m (by omega)] at hz
     have:(tower c b).hold.getD m false=true:=by simpa using p3 m hm
     rw [this] at hz
     cases hz
     rfl
    ·rw [hj]; rfl
   ·refine k _ _ sm ?_
    have h1:B.contains false=false:=by
     rw [<- af9]
     exact Bool.eq_false_iff.mpr h1
    have:Lq c b=none:=Ko fun j hj=>by
     rw [<- adL j hj]
     have:false ∉ B:=fun z=>by rw [List.contains_iff_mem.mpr z] at h1; cases h1
     cases e:B.getD j false with
     | true=>rfl
     | false =>
      rw [List.getD_eq_getElem?_getD,List.getElem?_eq_getElem (by omega)] at e
      exact absurd (List.mem_of_getElem e) this
    rw [this]; rfl
open Mx (Jx P3 mv Own Full readM Qj Ex Cz Ec namesOf)
theorem ad6 {c:Br.Catalogue} {b:Br.Build} {U:List Nat} (h:QC c b U):Jx (tower c b).n (Mx.adh (tower c b)) 0 U:=⟨h.len,fun i hi j=>h.bit i hi j⟩
def alq (o:Option (Nat × Nat)) (v:V) (H:Hp):Prop:=match o with
 | none=>v = .non
 | some x=>∃ l,v = .ref l/\H l=some (.lst [.int (x.1:Int),.int (x.2:Int)])
def Zw (C:Addr):Sp:=fun vs H Q _=>∃ (k:Br.Catalogue) (d:Br.Build) (v:V),vs=[v]/\Xz C (.yes k d) v H/\Out H Q (alq (tower k d).cant)
theorem Pz:Av ["build", "ringed", "loose"] ["build"] (Al SM):=⟨rfl,rfl,rfl,by decide +kernel,rfl,by decide +kernel,by decide +kernel⟩
theorem abG (T:Txt K mg Ao Ac Ak Ax Ag):Cl P w K mg base 5 "hindrance" ["build"] (Zw Ag):=by
 refine T.aby.ok Pz (fun vs H Q E h=>?_) (fun f cdv A outer s H vs Q E hr h=>?_)
 ·obtain ⟨q,d,v,rfl,_⟩:=h
  rfl
 ·obtain ⟨q,d,v,rfl,hv,k⟩:=h
  have nd:=Pz.nd
  refine ⟨_,(Ad (Ba (i:=1) nd rfl (Or.inl rfl) (Bm (Mf T) hr rfl (Aa (Az (pv 0) rfl) (Ae)))) (Ad (Bj (Cg (Qi (pv 1))) (Af (Am (Cq (Aa (Cp T.ad5 rfl) (Aa (pv 1) (Ae)))))) Ar) (Ad (Ba (i:=2) nd rfl (Or.inl rfl) (Bm (HQ T) hr rfl (Aa (Az (pv 0) rfl) (Aa (Bc Ay (by rfl) T.CJ PySem.boot_len (Aa (Az (pv 0) rfl) (Ae))) (Ae))))) (Ad (Bj (Cg (Qi (pv 2))) (Af (Am (Cq (Aa (Cp T.Ve rfl) (Aa (pv 2) (Ae)))))) Ar) (Af (Am BZ)))))),?_⟩
  obtain ⟨x,dx,o,u,O,U,rfl,hx,ho,hu,hO,hU,h256,hf⟩:=hv
  refine ⟨_,rfl,x,Ag,dx,_,_,rfl,hx,T.Cu,T.Fw,rfl,u,U,_,_,rfl,hu,ad6 hU,h256,fun v3 H3 s3 ⟨U',hU',ev3⟩=>?_⟩
  have Qs:=Mx.ahC hU'
  have er:aaT (tower q d).n U'=(List.range d.lines.length).find? fun i=>(U'.getD i 0).testBit i:=rfl
  rw [<- er] at Qs
  subst ev3
  cases e1:aaT (tower q d).n U' with
  | some i =>
   rw [e1] at Qs
   have Qs:(tower q d).cant=some (1,i):=Qs
   rw [Qs] at k
   refine ⟨_,rfl,_,rfl,Dm ⟨_,rfl,(by show 2 <= sizeLine; decide),fun p hp=>k _ _ (s3.trans (Ai.new hp)) ⟨p,rfl,Ab⟩⟩⟩
  | none =>
   rw [e1] at Qs
   have Qs:(tower q d).cant=(Lq q d).map fun i=>(2,i):=Qs
   have hx3:=s3 _ _ hx
   have ho3:=s3 _ _ ho
   have hu3:=s3 _ _ hu
   refine ⟨_,rfl,_,rfl,Ej ⟨_,rfl,x,Ag,dx,_,_,rfl,hx3,T.Cu,T.Jw,rfl,_,rfl,x,Ag,dx,_,_,rfl,hx3,T.Cu,T.Fw,rfl,u,_,rfl,.inl (SqL.of hu3),o,O,q,d,(by rw [Bt,hU.len] <;> rfl),ho3,hO,h256,hf,fun v4 H4 s4 ev4=>?_⟩⟩
   subst ev4
   rw [Qs] at k
   cases e2:Lq q d with
   | some i =>
    rw [e2] at k
    exact ⟨_,rfl,_,rfl,Dm ⟨_,rfl,(by show 2 <= sizeLine; decide),fun p hp=>k _ _ ((s3.trans s4).trans (Ai.new hp)) ⟨p,rfl,Ab⟩⟩⟩
   | none =>
    rw [e2] at k
    exact ⟨_,rfl,_,rfl,Ej (k _ _ (s3.trans s4) rfl)⟩
def KZ (C:Addr):Sp:=fun vs H Q _=>∃ (r:Rdg) (v:V),vs=[v]/\Xz C r v H/\Out H Q (Xz C (R9 r))
theorem K7:Av ["build"] ["build"] (Al Hh):=⟨rfl,rfl,rfl,by decide +kernel,rfl,by decide +kernel,by decide +kernel⟩
theorem Ni (T:Txt K mg Ao Ac Ak Ax Ag):Cl P w K mg base 6 "that_can_be_built" ["build"] (KZ Ag):=by
 refine T.M9.ok K7 (fun vs H Q E h=>?_) (fun f cdv A outer s H vs Q E hr h=>?_)
 ·obtain ⟨r,v,rfl,_⟩:=h
  rfl
 ·obtain ⟨r,v,rfl,hv,k⟩:=h
  refine ⟨_,(Ad (Bj (PW.pt (Eu (Bd S9 (Az (pv 0) rfl) Aq (Bg _)) (Fi (Cg (Dk (Bm (abG T) hr rfl (Aa (pv 0) (Ae)))))))) (Af (Am (pv 0))) Ar) (Af (Am (Bm (RT T) hr rfl (Aa (Cp T.O6 rfl) (Ae)))))),?_⟩
  have hv0:=hv
  cases r with
  | no z =>
   obtain ⟨hz,x,dx,o,u,rfl,hx⟩:=hv
   refine ⟨_,rfl,x,Ag,dx,_,_,rfl,hx,T.Cu,T.Cd,rfl,_,_,rfl,rfl,_,rfl,ifT (by simp; omega) ?_⟩
   exact ⟨_,rfl,k _ _ (Ai.refl _) hv0⟩
  | yes q d =>
   obtain ⟨x,dx,o,u,O,U,rfl,hx,ho,hu,hO,hU,h256,hf⟩:=hv
   refine ⟨_,rfl,x,Ag,dx,_,_,rfl,hx,T.Cu,T.Cd,rfl,_,_,rfl,rfl,_,rfl,ifF (by simp) ?_⟩
   refine ⟨_,rfl,q,d,_,rfl,hv0,fun v2 H2 s2 hv2=>?_⟩
   unfold R9 at k
   dsimp only at k
   cases e:(tower q d).cant with
   | none =>
    rw [e] at hv2 k
    have hv2:v2 = .non:=hv2
    subst hv2
    exact ⟨_,rfl,Dm ⟨_,rfl,k _ _ s2 (hv0.same s2)⟩⟩
   | some y =>
    rw [e] at hv2 k
    obtain ⟨l,rfl,_⟩:=hv2
    exact ⟨_,rfl,Ej ⟨-3,rfl,aik k 3 (by decide) rfl s2⟩⟩
open Mx (Tc SQ Dt)
theorem agC (x m:Nat):Builtin.bitAnd (x:Int) (Builtin.bitNot (m:Int))=((SQ x m:Nat):Int):=by
 unfold SQ
 have e1:Builtin.bitNot (Builtin.bitNot (m:Int))=(m:Int):=by unfold Builtin.bitNot; omega
 have h2:Builtin.bitNot (m:Int) < 0:=by unfold Builtin.bitNot; omega
 unfold Builtin.bitAnd
 rw [decide_eq_true (by omega:(0:Int) <= (x:Int)),decide_eq_false (by omega:¬ (0:Int) <= Builtin.bitNot (m:Int))]
 dsimp only
 rw [e1,Int.toNat_natCast,Int.toNat_natCast]
 have:x &&& m <= x:=Nat.and_le_left
 omega
def QW:Sp:=fun vs H Q _=>∃ (i m:Nat) (a:Addr) (U:List Nat),vs=[.int (i:Int),.int (m:Int),.ref a]/\H a=some (.lst (Bv U))/\i < U.length/\U.length <= 256/\Out H Q (fun v _=>v = .bl (Tc U m i))
theorem Ra:Av ["line", "before", "under"] ["line", "before", "under"] (Al J6):=⟨rfl,rfl,rfl,by decide +kernel,rfl,by decide +kernel,by decide +kernel⟩
theorem Uq (T:Txt K mg Ao Ac Ak Ax Ag):Cl P w K mg base 3 "may_come_next" ["line", "before", "under"] QW:=by
 refine T.Ue.ok Ra (fun vs H Q E h=>?_) (fun f cdv A outer s H vs Q E hr h=>?_)
 ·obtain ⟨i,m,a,U,rfl,_⟩:=h
  rfl
 ·obtain ⟨i,m,a,U,rfl,ha,hi,h256,k⟩:=h
  refine ⟨_,(Af (Am (JR (aio (Bm (Gv T) hr rfl (Aa (pv 0) (Aa (pv 1) (Ae))))) (Ro (Gk Gp (BW acD (Ck BP (pv 2) (pv 0) (fun _ _=>rfl)) (Qe afk (pv 1))) Aq (Bg _)))))),?_⟩
  refine ⟨_,rfl,_,rfl,i,m,rfl,by omega,fun v H1 s1 ev=>⟨_,ev,_,rfl,?_⟩⟩
  unfold Tc at k
  refine BJ (fun h0=>?_) (fun h0=>k _ _ s1 (by rw [Bool.not_eq_true] at h0; rw [h0]; rfl))
  refine ⟨_,rfl,_,rfl,a,_,_,_,rfl,rfl,SqL.of (s1 _ _ ha),Iw rfl (Fl hi),_,rfl,_,rfl,_,_,rfl,rfl,rfl,k _ _ s1 ?_⟩
  dsimp only
  rw [h0,Bool.true_and]
  refine congrArg V.bl (decide_eq_decide.mpr ?_)
  show V.int (Builtin.bitAnd (U.getD i 0:Nat) (Builtin.bitNot (m:Int)))=V.int 0 ↔ _
  rw [agC]
  exact ⟨fun z=>by injection z with z; omega,fun z=>by rw [z]; rfl⟩
theorem Oi (l:List Nat) (i:Nat):Bv l ++ [.int (i:Int)] = Bv (l ++ [i]):=by
 unfold Bv
 rw [List.map_append]
 rfl
end
open Mx (PCf PSt PWf Ep headOf Km gm Qn Ih)
open Br (Bytes Pages isDigit)
theorem ahO {X:Cx} {x z:Str} {pos:Pos} (h:∃ t,X.mg x=some (.str z t)) (hg:Gl X x) (hd:(x == ("__debug__" : Str))=false:=by decide):PE X (.Name x pos) (tC (.str z)) :=
 let ⟨t,e⟩:=h; ady hg e ⟨t,rfl⟩ hd
theorem ae4:bootBuiltins "min" = some (.builtin "min"):=by decide +kernel
section
variable {X:Cx} {k n:Nat} {x:Str} {C:Addr} {ps:List Str} {sp:Sp} {p pos:Pos}
theorem aip (c:ClC X.prog X.w X.K X.mg X.base k x C ps sp) (hr:Fq n X.A) (hg:Gl X x) (hkn:k + 1 <= n:=by decide) (hdb:(x == ("__debug__" : Str))=false:=by decide):PE X (.Call (.Name x p) [] [] pos) (adl C sp [] E0 ah4):=by
 obtain ⟨f,fd,M,F,hm,hb⟩:=c
 exact afI M F (hr.mono hkn) hg hm hb .nil afK hdb
end
section
variable {P:Program} {w:World} {K:PySem.W.Frag} {mg:Str->Option Value} {base:Heap} {Ao Ac Ak Ax Ag:Addr}
def adx (p f:V):List (Str × V):=[("pages",p),("fault",f)]
def aci (C:Addr):Sp:=fun vs H Q _=>∃ (p dx:Addr) (r o:V),vs=[.ref p,r,o]/\H p=some (.ins C dx []) /\
 ∀ H':Hp,H' p=some (.ins C dx (adx r o))->(∀ b o,H b=some o->b ≠ p->H' b=some o)->Q .non H'
theorem T8:Av ["self", "pages", "fault"] ["self", "pages", "fault"] (Al La):=⟨rfl,rfl,rfl,by decide +kernel,rfl,by decide +kernel,by decide +kernel⟩
theorem HD (T:Txt K mg Ao Ac Ak Ax Ag):ClC P w K mg base 1 "Instructions" Ac ["self", "pages", "fault"] (aci Ac):=by
 refine T.Wy.ok T8 (fun vs H Q E h=>?_) (fun f cdv A outer s H vs Q E hr h=>?_)
 ·obtain ⟨p,dx,r,o,rfl,_⟩:=h
  rfl
 ·obtain ⟨p,dx,r,o,rfl,hp,k⟩:=h
  refine ⟨_,(Ad (Dd (pv 0) (pv 1) rfl) (Af (Dd (pv 0) (pv 2) rfl))),?_⟩
  refine ⟨_,rfl,_,rfl,p,Ac,dx,_,rfl,hp,T.Ek,T.Ha,(by show 0 < 1000; decide),?_⟩
  refine ⟨_,rfl,_,rfl,p,Ac,dx,_,rfl,Ab,T.Ek,T.Ey,(by show 1 < 1000; decide),?_⟩
  refine k _ (Eq.trans Ab rfl) fun b o e hb=>?_
  rw [Ah hb,Ah hb]
  exact e
theorem afV {C:Addr} {H1:Hp} {Q:VK} {r o:V} (k:∀ x H',Ai H1 H'->(∃ dx,H' x=some (.ins C dx (adx r o)))->Q (.ref x) H') :
  ∀ x dx,H1 x=none->H1 dx=none->dx ≠ x->aci C (.ref x :: ([r,o] ++ [])) (upd (upd H1 dx (.own x)) x (.ins C dx [])) (fun v H2=>v = .non/\Q (.ref x) H2) E0:=fun x dx nx nd ne =>
 ⟨x,dx,r,o,rfl,Ab,fun H' hx kp=>⟨rfl,k x H' (Ai.made nx nd kp) ⟨dx,hx⟩⟩⟩
def Gi (p h l v:V):List (Str × V):=[("pages",p),("head",h),("lines",l),("number",v)]
def afo (C:Addr):Sp:=fun vs H Q _=>∃ (x dx:Addr),vs=[.ref x]/\H x=some (.ins C dx []) /\
 ∀ (H':Hp) (p l:Addr),H' x=some (.ins C dx (Gi (.ref p) (.int 0) (.ref l) .non))->H' p=some (.lst [])->H' l=some (.lst [])->p ≠ l->H p=none->H l=none->(∀ b o,H b=some o->b ≠ x->H' b=some o)->Q .non H'
theorem afv:Av ["self"] ["self"] (Al adt):=⟨rfl,rfl,rfl,by decide +kernel,rfl,by decide +kernel,by decide +kernel⟩
theorem ahD (T:Txt K mg Ao Ac Ak Ax Ag):ClC P w K mg base 1 "Begun" Ak ["self"] (afo Ak):=by
 refine T.ahx.ok afv (fun vs H Q E h=>?_) (fun f cdv A outer s H vs Q E hr h=>?_)
 ·obtain ⟨x,dx,rfl,_⟩:=h
  rfl
 ·obtain ⟨x,dx,rfl,hx,k⟩:=h
  refine ⟨_,(Ad (Dd (pv 0) (Cq Ae) rfl) (Ad (Dd (pv 0) Aq rfl) (Ad (Dd (pv 0) (Cq Ae) rfl) (Af (Dd (pv 0) BZ rfl))))),?_⟩
  refine ⟨Nat.zero_le _,fun p hp=>⟨_,rfl,x,Ak,dx,_,rfl,by rw [Ah (Bq hx hp)]; exact hx,T.Bp,T.Fp,(by show 0 < 1000; decide),?_⟩⟩
  refine ⟨_,rfl,x,Ak,dx,_,rfl,Ab,T.Bp,T.Ei,(by show 1 < 1000; decide),?_⟩
  refine ⟨Nat.zero_le _,fun l hl=>?_⟩
  have nxp:x ≠ p:=Bq hx hp
  have nlx:l ≠ x:=fun z=>by rw [z,Ab] at hl; cases hl
  have nlp:l ≠ p:=fun z=>by rw [z,Ah (Ne.symm nxp),Ah (Ne.symm nxp),Ab] at hl; cases hl
  have hl0:H l=none:=by rw [Ah nlx,Ah nlx,Ah nlp] at hl; exact hl
  refine ⟨_,rfl,x,Ak,dx,_,rfl,(by rw [Ah (Ne.symm nlx)]; exact Ab),T.Bp,T.En,(by show 2 < 1000; decide),?_⟩
  refine ⟨_,rfl,x,Ak,dx,_,rfl,Ab,T.Bp,T.Bu,(by show 3 < 1000; decide),?_⟩
  refine k _ p l (Eq.trans Ab rfl) ?_ ?_ (Ne.symm nlp) hp hl0 fun b o e hb=>?_
  ·rw [Ah (Ne.symm nxp),Ah (Ne.symm nxp),Ah (Ne.symm nlp),Ah (Ne.symm nxp),Ah (Ne.symm nxp)]; exact Ab
  ·rw [Ah nlx,Ah nlx]; exact Ab
  ·rw [Ah hb,Ah hb,Ah (Bq e hl0),Ah hb,Ah hb,Ah (Bq e hp)]; exact e
structure Kz (C:Addr) (B H:Hp) (x dx p l:Addr) (qs:List Addr) (pgs:Pages) (hd:Nat) (cur:List Nat) (num:Option Nat):Prop where
 hx:H x=some (.ins C dx (Gi (.ref p) (.int (hd:Int)) (.ref l) (Lk num)))
 hp:H p=some (.lst (qs.map V.ref))
 hl:H l=some (.lst (Bv cur))
 hq:Paired (fun q g=>H q=some (.lst (Bv g))) qs pgs
 sm:Ai B H
 bx:B x=none
 bp:B p=none
 bl:B l=none
 npl:p ≠ l
 npq:p ∉ qs
 nlq:l ∉ qs
def abX (C:Addr) (B H:Hp) (x:Addr) (c:PCf):Prop:=∃ dx p l qs,Kz C B H x dx p l qs c.pgs (headOf c.st) c.cur (Mx.numOf c.st)
theorem FW {α β:Type} {G G':α->β->Prop}:∀ {l:List α} {m:List β},Paired G l m->(∀ a ∈ l,∀ b,G a b->G' a b)->Paired G' l m
 | _,_,.nil,_=>.nil
 | _,_,.cons h t,f=>.cons (f _ (List.mem_cons_self ..) _ h) (FW t fun a ha b hb=>f a (List.mem_cons_of_mem _ ha) b hb)
section
variable {C:Addr} {B H:Hp} {x dx p l:Addr} {qs:List Addr} {pgs:Pages} {hd:Nat} {cur:List Nat} {num:Option Nat}
theorem Kz.nx (h:Kz C B H x dx p l qs pgs hd cur num) {q:Addr} {ys:List V} (hq:H q=some (.lst ys)):q ≠ x:=G7 hq h.hx (by intro z; cases z)
theorem PB {a:Addr} {o:HO} (s:Ai B H) (h:B a=none):Ai B (upd H a o):=fun b u e=>by rw [Ah (Bq e h)]; exact s b u e
theorem Kz.fields (h:Kz C B H x dx p l qs pgs hd cur num) (hd':Nat) (ajG:Option Nat):Kz C B (upd H x (.ins C dx (Gi (.ref p) (.int (hd':Int)) (.ref l) (Lk ajG)))) x dx p l qs pgs hd' cur ajG where
 hx:=Ab
 hp:=by rw [Ah (h.nx h.hp)]; exact h.hp
 hl:=by rw [Ah (h.nx h.hl)]; exact h.hl
 hq:=FW h.hq fun a _ b e=>by rw [Ah (h.nx e)]; exact e
 sm:=PB h.sm h.bx
 bx:=h.bx
 bp:=h.bp
 bl:=h.bl
 npl:=h.npl
 npq:=h.npq
 nlq:=h.nlq
theorem Kz.same {H':Hp} (h:Kz C B H x dx p l qs pgs hd cur num) (s:Ai H H'):Kz C B H' x dx p l qs pgs hd cur num where
 hx:=s _ _ h.hx
 hp:=s _ _ h.hp
 hl:=s _ _ h.hl
 hq:=FW h.hq fun a _ b e=>s _ _ e
 sm:=h.sm.trans s
 bx:=h.bx
 bp:=h.bp
 bl:=h.bl
 npl:=h.npl
 npq:=h.npq
 nlq:=h.nlq
theorem Kz.lines {l':Addr} (h:Kz C B H x dx p l qs pgs hd cur num) (hl':H l'=some (.lst [])) (b':B l'=none) (np:p ≠ l') (nq:l' ∉ qs):Kz C B (upd H x (.ins C dx (Gi (.ref p) (.int (hd:Int)) (.ref l') (Lk num)))) x dx p l' qs pgs hd [] num where
 hx:=Ab
 hp:=by rw [Ah (h.nx h.hp)]; exact h.hp
 hl:=by rw [Ah (h.nx hl')]; exact hl'
 hq:=FW h.hq fun a _ b e=>by rw [Ah (h.nx e)]; exact e
 sm:=PB h.sm h.bx
 bx:=h.bx
 bp:=h.bp
 bl:=b'
 npl:=np
 npq:=h.npq
 nlq:=nq
theorem Kz.line (h:Kz C B H x dx p l qs pgs hd cur num) (d:Nat):Kz C B (upd H l (.lst (Bv (cur ++ [d])))) x dx p l qs pgs hd (cur ++ [d]) num where
 hx:=by rw [Ah (Ne.symm (h.nx h.hl))]; exact h.hx
 hp:=by rw [Ah h.npl]; exact h.hp
 hl:=Ab
 hq:=FW h.hq fun a ha b e=>by rw [Ah (show a ≠ l from fun z=>h.nlq (z ▸ ha))]; exact e
 sm:=PB h.sm h.bl
 bx:=h.bx
 bp:=h.bp
 bl:=h.bl
 npl:=h.npl
 npq:=h.npq
 nlq:=h.nlq
theorem Kz.page {q:Addr} {g:List Nat} (h:Kz C B H x dx p l qs pgs hd cur num) (hq:H q=some (.lst (Bv g))) (n1:p ≠ q) (n2:l ≠ q):Kz C B (upd H p (.lst (qs.map V.ref ++ [.ref q]))) x dx p l (qs ++ [q]) (pgs ++ [g]) hd cur num where
 hx:=by rw [Ah (Ne.symm (h.nx h.hp))]; exact h.hx
 hp:=by rw [Ab,List.map_append]; rfl
 hl:=by rw [Ah (Ne.symm h.npl)]; exact h.hl
 hq:=DQ (FW h.hq fun a ha b e=>by rw [Ah (show a ≠ p from fun z=>h.npq (z ▸ ha))]; exact e) (.cons (by rw [Ah (Ne.symm n1)]; exact hq) .nil)
 sm:=PB h.sm h.bp
 bx:=h.bx
 bp:=h.bp
 bl:=h.bl
 npl:=h.npl
 npq:=fun z=>(List.mem_append.mp z).elim h.npq fun z=>n1 (List.mem_singleton.mp z)
 nlq:=fun z=>(List.mem_append.mp z).elim h.nlq fun z=>n2 (List.mem_singleton.mp z)
end
def aaH:Sp:=fun vs H Q _=>∃ n:Nat,vs=[.int (n:Int)]/\n <= 255/\Out H Q (fun v _=>v = .int ((gm n:Nat):Int))
theorem Sg:Av ["number", "least", "greatest"] ["number"] (Al Hj):=⟨rfl,rfl,rfl,by decide +kernel,rfl,by decide +kernel,by decide +kernel⟩
theorem ac7 (T:Txt K mg Ao Ac Ak Ax Ag):Cl P w K mg base 1 "greatest_begun_by" ["number"] aaH:=by
 refine T.Ng.ok Sg (fun vs H Q E h=>?_) (fun f cdv A outer s H vs Q E hr h=>?_)
 ·obtain ⟨n,rfl,_⟩:=h
  rfl
 ·obtain ⟨n,rfl,hn,k⟩:=h
  have nd:=Sg.nd
  refine ⟨_,(Ad (Bj (Bd Gp (pv 0) Aq (Bg _)) (Af (Am Aq)) Ar) (Ad (Ba (i:=1) nd rfl (Or.inl rfl) (pv 0)) (Ad (Ba (i:=2) nd rfl (Or.inl rfl) (pv 0)) (Ad (VH PassesOwn.never (Bd Kg (BW Oh (pv 1) Aq) (Cp T.Ft rfl) (Bg _))
    (Ad (Ba (i:=1) nd rfl (Or.inl rfl) (BW Oh (pv 1) Aq)) (Af (Ba (i:=2) nd rfl (Or.inl rfl) (BW Fj (BW Oh (pv 2) Aq) Aq))))) (Af (Am (Bc (ae2 rfl) (by rfl) T.akh ae4 (Aa (pv 2) (Aa (Cp T.Ft rfl) (Ae)))))))))),?_⟩
  refine ⟨_,rfl,rfl,_,rfl,?_⟩
  refine BJ (fun h0=>?_) (fun h0=>?_)
  ·have h0:n=0:=by simpa using h0
   refine k _ _ (Ai.refl _) ?_
   rw [h0]
   rfl
  have h0:n ≠ 0:=by simpa using h0
  refine ⟨_,rfl,_,rfl,fun z σ H'=>∃ j,H'=H/\σ=[some (.int (n:Int)),some (.int ((n * 10 ^ j:Nat):Int)),some (.int ((n * 10 ^ j + (10 ^ j - 1):Nat):Int))]/\n * 10 ^ j <= 255/\z=255 - n * 10 ^ j,
   ⟨_,0,rfl,by simp only [Nat.pow_zero,Nat.mul_one,Nat.sub_self,Nat.add_zero]; rfl,by simpa using hn,rfl⟩,?_⟩
  rintro z σ H' ⟨j,rfl,rfl,hj,rfl⟩
  have e10:10 ^ (j + 1)=10 ^ j * 10:=Nat.pow_succ ..
  have p10:0 < 10 ^ j:=Nat.pow_pos (by decide)
  have pn:0 < n * 10 ^ j:=Nat.mul_pos (by omega) p10
  have en:n * 10 ^ (j + 1)=n * 10 ^ j * 10:=by rw [e10,Nat.mul_assoc]
  refine ⟨_,rfl,_,_,rfl,rfl,.inl ⟨by omega,by omega⟩,_,_,rfl,rfl,_,rfl,?_⟩
  refine BJ (fun h1=>?_) (fun h1=>?_)
  ·have h1:n * 10 ^ j * 10 <= 255:=by
    have h1:((n * 10 ^ j:Nat):Int) * 10 <= 255:=by simpa using h1
    omega
   refine ⟨fun σ' H''=>∃ j',H''=H'/\σ'=[some (.int (n:Int)),some (.int ((n * 10 ^ j':Nat):Int)),some (.int ((n * 10 ^ j' + (10 ^ j' - 1):Nat):Int))]/\n * 10 ^ j' <= 255/\255 - n * 10 ^ j' < 255 - n * 10 ^ j,
    fun σ' H'' ⟨j',a1,a2,a3,a4⟩=>⟨_,a4,j',a1,a2,a3,rfl⟩,?_⟩
   refine ⟨_,rfl,_,_,rfl,rfl,.inl ⟨by omega,by omega⟩,?_⟩
   have hb:10 ^ j <= n * 10 ^ j:=Nat.le_mul_of_pos_left _ (by omega)
   refine ⟨_,rfl,_,_,rfl,rfl,.inl ⟨by omega,by omega⟩,_,_,rfl,rfl,j + 1,rfl,?_,by omega,by omega⟩
   have e1:((n * 10 ^ j:Nat):Int) * 10=((n * 10 ^ (j + 1):Nat):Int):=by rw [en]; omega
   have e2:((n * 10 ^ j + (10 ^ j - 1):Nat):Int) * 10 + 9=((n * 10 ^ (j + 1) + (10 ^ (j + 1) - 1):Nat):Int):=by rw [en,e10]; omega
   dsimp only
   rw [e1,e2]
   rfl
  ·have h1:255 < n * 10 ^ j * 10:=by
    have h1:¬ ((n * 10 ^ j:Nat):Int) * 10 <= 255:=by simpa using h1
    omega
   refine ⟨_,rfl,_,_,rfl,k _ _ (Ai.refl _) ?_⟩
   have:=Mx.aka h0 hj h1
   rw [<- this]
   congr 1
   split <;> omega
def Zv (C:Addr):Sp:=fun vs H Q _=>∃ (x dx l:Addr) (p h v:V) (cur:List Nat),vs=[.ref x]/\H x=some (.ins C dx (Gi p h (.ref l) v))/\H l=some (.lst (Bv cur))/\Out H Q (fun v _=>v = .int ((Qn cur:Nat) - 1:Int))
theorem ZD:Av ["begun"] ["begun"] (Al Sy):=⟨rfl,rfl,rfl,by decide +kernel,rfl,by decide +kernel,by decide +kernel⟩
theorem TQ (T:Txt K mg Ao Ac Ak Ax Ag):Cl P w K mg base 1 "last_line" ["begun"] (Zv Ak):=by
 refine T.abw.ok ZD (fun vs H Q E h=>?_) (fun f cdv A outer s H vs Q E hr h=>?_)
 ·obtain ⟨x,dx,l,p,hh,v,cur,rfl,_⟩:=h
  rfl
 ·obtain ⟨x,dx,l,p,hh,v,cur,rfl,hx,hl,k⟩:=h
  refine ⟨_,(Ad (Bj (Bd Gp (Bc Ay (by rfl) T.CJ PySem.boot_len (Aa (Az (pv 0) rfl) (Ae))) Aq (Bg _)) (Af (Am (Qe Oc Aq))) Ar) (Af (Am (Ck BP (Az (pv 0) rfl) (Qe Oc Aq) (fun _ _=>rfl))))),?_⟩
  refine ⟨_,rfl,x,Ak,dx,_,_,rfl,hx,T.Bp,T.En,rfl,l,_,rfl,.inl (SqL.of hl),rfl,_,rfl,?_⟩
  rw [Bt]
  refine BJ (fun h0=>?_) (fun h0=>?_)
  ·have h0:cur=[]:=by simpa using h0
   refine ⟨_,rfl,k _ _ (Ai.refl _) ?_⟩
   rw [h0]
   rfl
  ·have h0:cur ≠ []:=by simpa using h0
   obtain ⟨c0,i,rfl⟩:∃ c0 i,cur=c0 ++ [i]:=⟨_,_,(List.dropLast_concat_getLast h0).symm⟩
   refine ⟨_,rfl,x,Ak,dx,_,_,rfl,hx,T.Bp,T.En,rfl,_,rfl,l,_,_,.int (i:Int),rfl,rfl,SqL.of hl,?_,k _ _ (Ai.refl _) ?_⟩
   ·rw [<- Oi]
    exact abP _ _
   ·rw [Mx.Wc]
    congr 1
    omega
def ade (C:Addr) (B:Hp) (x:Addr) (r:Option PCf) (Q:VK):Prop:=match r with
 | some y=>∀ H',abX C B H' x y->Q (.bl true) H'
 | none=>∀ H',Ai B H'->Q (.bl false) H'
def Zo (C:Addr) (φ:PCf->UInt8->Prop):Sp:=fun vs H Q _=>∃ (B:Hp) (x:Addr) (c:PCf) (s:UInt8) (n:Nat),vs=[.ref x,.int (s.toNat:Int)]/\abX C B H x c/\PWf c n/\n <= 1000000/\φ c s/\ade C B x (Ep c s) Q
theorem ag3 {h:Nat} (hh:h < 5):("page " : Str).cps.toList[h]? = some (Km.getD h 0):=by
 match h,hh with
 | 0,_=>rfl
 | 1,_=>rfl
 | 2,_=>rfl
 | 3,_=>rfl
 | 4,_=>rfl
theorem YJ {h:Nat}:headOf (if h=3 then PSt.gap else if h=4 then .num 0 none else .word (h + 1))=h + 1/\Mx.numOf (if h=3 then PSt.gap else if h=4 then .num 0 none else .word (h + 1))=none:=by
 by_cases h3:h=3
 ·rw [if_pos h3,h3]; exact ⟨rfl,rfl⟩
 ·rw [if_neg h3]
  by_cases h4:h=4
  ·rw [if_pos h4,h4]; exact ⟨rfl,rfl⟩
  ·rw [if_neg h4]; exact ⟨rfl,rfl⟩
theorem ahl {c:PCf} {n:Nat} (h:PWf c n) (hh:headOf c.st < 5):c.cur=[]/\Mx.numOf c.st=none:=by
 obtain ⟨pgs,cur,st⟩:=c
 have h5:=h.st
 cases st with
 | word k=>exact ⟨h5.2.1,rfl⟩
 | gap=>exact ⟨h5.1,rfl⟩
 | num lo v=>exact absurd hh (by decide:¬ 5 < 5)
theorem Pn:Av ["begun", "sign"] ["begun", "sign"] (Al Jg):=⟨rfl,rfl,rfl,by decide +kernel,rfl,by decide +kernel,by decide +kernel⟩
theorem RP (T:Txt K mg Ao Ac Ak Ax Ag):Cl P w K mg base 1 "take_head_sign" ["begun", "sign"] (Zo Ak fun c _=>headOf c.st < 5):=by
 refine T.RB.ok Pn (fun vs H Q E h=>?_) (fun f cdv A outer s H vs Q E hr h=>?_)
 ·obtain ⟨B,x,c,s,n,rfl,_⟩:=h
  rfl
 ·obtain ⟨B,x,c,s,n,rfl,⟨dx,p,l,qs,I⟩,hW,hn,hh,k⟩:=h
  refine ⟨_,(Ad (Bj (PW.pt (Eu (Bd Gp (Bc Ay (by rfl) T.CJ PySem.boot_len (Aa (Az (pv 0) rfl) (Ae))) (Cp T.Zi rfl) (Bg _)) (Fi (Bd V3 (pv 1) (Bc abB (by rfl) T.ahV YZ (Aa (Ck aiK (ahO T.R6 rfl) (Az (pv 0) rfl) (fun _ _=>rfl)) (Ae))) (Bg _))))) (Af (Am Dy)) Ar) (Ad (Dd (pv 0) (BW Fj (Az (pv 0) rfl) Aq) rfl) (Af (Am Dy)))),?_⟩
  have hql:qs.length=c.pgs.length:=Paired.length I.hq
  rw [Mx.aej hW hh] at k
  obtain ⟨ec,env⟩:=ahl hW hh
  refine ⟨_,rfl,x,Ak,dx,_,_,rfl,I.hx,T.Bp,T.Fp,rfl,p,_,rfl,.inl (SqL.of I.hp),rfl,_,rfl,?_⟩
  rw [List.length_map,hql]
  refine BJ (fun h0=>?_) (fun h0=>?_)
  ·have h0:c.pgs.length=256:=by
    have h0:(c.pgs.length:Int)=256:=by simpa using h0
    omega
   rw [if_pos (.inl h0)] at k
   exact k _ I.sm
  have h0:¬ c.pgs.length=256:=by
   have h0:¬ (c.pgs.length:Int)=256:=by simpa using h0
   omega
  refine ⟨_,rfl,_,rfl,x,Ak,dx,_,_,rfl,I.hx,T.Bp,T.Ei,rfl,_,_,_,rfl,rfl,(by show 5 <= sizeLine; decide),Iw rfl (ag3 hh),_,rfl,rfl,rfl,_,rfl,?_⟩
  refine BJ (fun h1=>?_) (fun h1=>?_)
  ·have h1:s.toNat ≠ Km.getD (headOf c.st) 0:=by
    have h1:¬ (s.toNat:Int)=((Km.getD (headOf c.st) 0:Nat):Int):=by simpa using h1
    omega
   rw [if_pos (.inr h1)] at k
   exact k _ I.sm
  have h1:s.toNat=Km.getD (headOf c.st) 0:=by
   have h1:(s.toNat:Int)=((Km.getD (headOf c.st) 0:Nat):Int):=by simpa using h1
   omega
  have hno:¬ (c.pgs.length=256 \/ s.toNat ≠ Km.getD (headOf c.st) 0):=fun z=>z.elim h0 fun z=>z h1
  rw [if_neg hno] at k
  refine ⟨_,rfl,x,Ak,dx,_,_,rfl,I.hx,T.Bp,T.Ei,rfl,_,_,rfl,rfl,_,rfl,x,Ak,dx,_,rfl,I.hx,T.Bp,T.Ei,(by show 4 < 1000; decide),k _ ⟨dx,p,l,qs,?_⟩⟩
  have J:=I.fields (headOf c.st + 1) (Mx.numOf c.st)
  rw [ec,env] at J
  dsimp only
  rw [YJ.1,YJ.2]
  rw [env]
  exact J
theorem Nr:Av ["begun", "sign", "number"] ["begun", "sign"] (Al PJ):=⟨rfl,rfl,rfl,by decide +kernel,rfl,by decide +kernel,by decide +kernel⟩
theorem aag (T:Txt K mg Ao Ac Ak Ax Ag):Cl P w K mg base 2 "take_digit" ["begun", "sign"] (Zo Ak fun c s=>headOf c.st=5/\isDigit s=true):=by
 refine T.Z3.ok Nr (fun vs H Q E h=>?_) (fun f cdv A outer s H vs Q E hr h=>?_)
 ·obtain ⟨B,x,c,s,n,rfl,_⟩:=h
  rfl
 ·obtain ⟨B,x,⟨pgs,cur,st⟩,s,n,rfl,⟨dx,p,l,qs,I⟩,hW,hn,⟨hh,hd⟩,k⟩:=h
  have nd:=Nr.nd
  refine ⟨_,(Ad (Ba (i:=2) nd rfl (Or.inl rfl) (BW JT (pv 1) (Cp T.O4 rfl))) (Ad (Bj (Cg (Qi (Az (pv 0) rfl))) (Af (Ba (i:=2) nd rfl (Or.inl rfl) (BW Fj (BW Oh (Az (pv 0) rfl) Aq) (pv 2)))) Ar) (Ad (Bj (PW.pt (Eu (Bd Gp (Az (pv 0) rfl) Aq (Bg _)) (Fi (Bd Ln (pv 2) (Cp T.Ft rfl) (Bg _))))) (Af (Am Dy)) Ar) (Ad (Bj (Bd Kg (Bm (ac7 T) hr rfl (Aa (pv 2) (Ae))) (Bm (TQ T) hr rfl (Aa (pv 0) (Ae))) (Bg _)) (Af (Am Dy)) Ar) (Ad (Dd (pv 0) (pv 2) rfl) (Af (Am Dy))))))),?_⟩
  cases st with
  | word j =>
   have:=hW.st
   dsimp only at this
   have hh:j=5:=hh
   omega
  | gap=>cases hh
  | num lo v =>
  have h5:=hW.st
  dsimp only at h5
  rw [Mx.step_digit hW hd] at k
  have hs:48 <= s.toNat/\s.toNat <= 57:=by
   unfold isDigit at hd
   rw [Bool.and_eq_true,decide_eq_true_iff,decide_eq_true_iff] at hd
   exact hd
  have hlow:(Qn cur:Int) - 1=(lo:Int) - 1:=by rw [h5.2.1]
  refine ⟨_,rfl,_,_,rfl,rfl,?_⟩
  have es:((s.toNat:Int) - 48)=((s.toNat - 48:Nat):Int):=by omega
  dsimp only
  rw [es]
  cases v with
  | none =>
   refine ⟨_,rfl,x,Ak,dx,_,_,rfl,I.hx,T.Bp,T.Bu,rfl,_,rfl,Ej ?_⟩
   have em:Ih none s=s.toNat - 48:=by show 10 * 0 + (s.toNat - 48)=_; omega
   rw [em] at k
   refine ⟨_,rfl,x,Ak,dx,_,_,rfl,I.hx,T.Bp,T.Bu,rfl,rfl,_,rfl,Ej ?_⟩
   refine ⟨_,rfl,_,_,rfl,rfl,_,rfl,ifF (by simp; omega) ?_⟩
   have hno:¬ ((none:Option Nat)=some 0 \/ 255 < s.toNat - 48):=fun z=>z.elim (fun z=>by cases z) (fun z=>by omega)
   rw [if_neg hno] at k
   refine ⟨_,rfl,s.toNat - 48,rfl,by omega,fun v1 H1 s1 e1=>⟨_,rfl,x,dx,l,_,_,_,cur,rfl,s1 _ _ I.hx,s1 _ _ I.hl,fun v2 H2 s2 e2=>?_⟩⟩
   subst e1 e2
   rw [hlow]
   refine ⟨_,_,rfl,rfl,_,rfl,?_⟩
   have I2:=(I.same (s1.trans s2))
   refine BJ (fun h1=>?_) (fun h1=>?_)
   ·have h1:gm (s.toNat - 48) < lo:=by
     have h1:((gm (s.toNat - 48):Nat):Int) <= (lo:Int) - 1:=by simpa using h1
     omega
    rw [if_pos h1] at k
    exact k _ I2.sm
   ·have h1:¬ gm (s.toNat - 48) < lo:=by
     have h1:¬ ((gm (s.toNat - 48):Nat):Int) <= (lo:Int) - 1:=by simpa using h1
     omega
    rw [if_neg h1] at k
    refine ⟨_,rfl,_,rfl,x,Ak,dx,_,rfl,I2.hx,T.Bp,T.Bu,(by show 4 < 1000; decide),k _ ⟨dx,p,l,qs,?_⟩⟩
    exact I2.fields 5 (some (s.toNat - 48))
  | some d =>
   have alv:=h5.2.2.2 d rfl
   refine ⟨_,rfl,x,Ak,dx,_,_,rfl,I.hx,T.Bp,T.Bu,rfl,_,rfl,Dm ?_⟩
   refine ⟨_,rfl,x,Ak,dx,_,_,rfl,I.hx,T.Bp,T.Bu,rfl,_,_,rfl,rfl,.inl ⟨by omega,by omega⟩,_,rfl,_,_,rfl,rfl,?_⟩
   have em:(d:Int) * 10 + ((s.toNat - 48:Nat):Int)=((Ih (some d) s:Nat):Int):=by
    show _=((10 * d + (s.toNat - 48):Nat):Int)
    omega
   dsimp only
   rw [em]
   generalize Ih (some d) s=m at k
   refine ⟨_,rfl,x,Ak,dx,_,_,rfl,I.hx,T.Bp,T.Bu,rfl,rfl,_,rfl,?_⟩
   refine BJ (fun h0=>?_) (fun h0=>?_)
   ·have h0:d=0:=by
     have h0:decide (V.int (d:Int)=V.int 0)=true:=h0
     have h0:(d:Int)=0:=by simpa using h0
     omega
    rw [if_pos (.inl (by rw [h0]))] at k
    exact k _ I.sm
   have h0:d ≠ 0:=by
    have h0:¬ decide (V.int (d:Int)=V.int 0)=true:=h0
    have h0:¬ (d:Int)=0:=by simpa using h0
    omega
   refine ⟨_,rfl,_,_,rfl,rfl,_,rfl,?_⟩
   refine BJ (fun h1=>?_) (fun h1=>?_)
   ·have h1:255 < m:=by
     have h1:(255:Int) < (m:Int):=by simpa using h1
     omega
    rw [if_pos (.inr h1)] at k
    exact k _ I.sm
   have h1:¬ 255 < m:=by
    have h1:¬ (255:Int) < (m:Int):=by simpa using h1
    omega
   have hno:¬ (some d=some 0 \/ 255 < m):=fun z=>z.elim (fun z=>h0 (Option.some.inj z)) h1
   rw [if_neg hno] at k
   refine ⟨_,rfl,m,rfl,by omega,fun v1 H1 s1 e1=>⟨_,rfl,x,dx,l,_,_,_,cur,rfl,s1 _ _ I.hx,s1 _ _ I.hl,fun v2 H2 s2 e2=>?_⟩⟩
   subst e1 e2
   rw [hlow]
   refine ⟨_,_,rfl,rfl,_,rfl,?_⟩
   have I2:=(I.same (s1.trans s2))
   refine BJ (fun h1=>?_) (fun h1=>?_)
   ·have h1:gm m < lo:=by
     have h1:((gm m:Nat):Int) <= (lo:Int) - 1:=by simpa using h1
     omega
    rw [if_pos h1] at k
    exact k _ I2.sm
   ·have h1:¬ gm m < lo:=by
     have h1:¬ ((gm m:Nat):Int) <= (lo:Int) - 1:=by simpa using h1
     omega
    rw [if_neg h1] at k
    refine ⟨_,rfl,_,rfl,x,Ak,dx,_,rfl,I2.hx,T.Bp,T.Bu,(by show 4 < 1000; decide),k _ ⟨dx,p,l,qs,?_⟩⟩
    exact I2.fields 5 (some m)
def Yb (C:Addr) (r:List (List Nat)->List Nat->Nat->Option PCf):Sp:=fun vs H Q _=>∃ (B:Hp) (x:Addr) (pgs:Pages) (cur:List Nat) (lo d:Nat),vs=[.ref x]/\abX C B H x ⟨pgs,cur,.num lo (some d)⟩/\cur.length <= 1000000/\pgs.length <= 256/\ade C B x (r pgs cur d) Q
theorem Xm:Av ["begun"] ["begun"] (Al PK):=⟨rfl,rfl,rfl,by decide +kernel,rfl,by decide +kernel,by decide +kernel⟩
theorem aah (T:Txt K mg Ao Ac Ak Ax Ag):Cl P w K mg base 1 "take_blank" ["begun"] (Yb Ak fun pgs cur d=>if d=255 then none else some ⟨pgs,cur ++ [d],.num (d + 1) none⟩):=by
 refine T.Z4.ok Xm (fun vs H Q E h=>?_) (fun f cdv A outer s H vs Q E hr h=>?_)
 ·obtain ⟨B,x,pgs,cur,lo,d,rfl,_⟩:=h
  rfl
 ·obtain ⟨B,x,pgs,cur,lo,d,rfl,⟨dx,p,l,qs,I⟩,hn,hp,k⟩:=h
  have k:ade Ak B x (if d=255 then none else some ⟨pgs,cur ++ [d],.num (d + 1) none⟩) Q:=k
  refine ⟨_,(Ad (Bj (Bd Gp (Az (pv 0) rfl) (Cp T.Ft rfl) (Bg _)) (Af (Am Dy)) Ar) (Ad (JP (S6 PySem.F.plainAttrs_list PySem.F.slot_list_append PySem.F.type_list_append GP (Az (pv 0) rfl) (Aa (Az (pv 0) rfl) (Ae)))) (Ad (Dd (pv 0) BZ rfl) (Af (Am Dy))))),?_⟩
  refine ⟨_,rfl,x,Ak,dx,_,_,rfl,I.hx,T.Bp,T.Bu,rfl,rfl,_,rfl,?_⟩
  refine BJ (fun h0=>?_) (fun h0=>?_)
  ·have h0:d=255:=by
    have h0:decide (V.int (d:Int)=V.int 255)=true:=h0
    have h0:(d:Int)=255:=by simpa using h0
    omega
   rw [if_pos h0] at k
   exact k _ I.sm
  have h0:¬ d=255:=by
   have h0:¬ decide (V.int (d:Int)=V.int 255)=true:=h0
   have h0:¬ (d:Int)=255:=by simpa using h0
   omega
  rw [if_neg h0] at k
  refine ⟨_,rfl,x,Ak,dx,_,_,rfl,I.hx,T.Bp,T.En,rfl,.inl ⟨rfl,_,SqL.of I.hl⟩,_,rfl,x,Ak,dx,_,_,rfl,I.hx,T.Bp,T.Bu,rfl,l,_,_,rfl,rfl,I.hl,(by rw [Bt]; exact Ci (by show cur.length <= _; omega)),?_⟩
  have J:=I.line d
  have eJ:Bv cur ++ [Lk (Mx.numOf (PSt.num lo (some d)))] = Bv (cur ++ [d]):=Oi cur d
  dsimp only
  rw [eJ]
  generalize upd H l (.lst (Bv (cur ++ [d])))=H2 at J
  refine ⟨_,rfl,x,Ak,dx,_,rfl,J.hx,T.Bp,T.Bu,(by show 4 < 1000; decide),k _ ⟨dx,p,l,qs,?_⟩⟩
  exact J.fields 5 none
theorem T7:Av ["begun"] ["begun"] (Al K9):=⟨rfl,rfl,rfl,by decide +kernel,rfl,by decide +kernel,by decide +kernel⟩
theorem WK (T:Txt K mg Ao Ac Ak Ax Ag):Cl P w K mg base 1 "take_row_end" ["begun"] (Yb Ak fun pgs cur d=>some ⟨pgs ++ [cur ++ [d]],[],.word 0⟩):=by
 refine T.Wx.ok T7 (fun vs H Q E h=>?_) (fun f cdv A outer s H vs Q E hr h=>?_)
 ·obtain ⟨B,x,pgs,cur,lo,d,rfl,_⟩:=h
  rfl
 ·obtain ⟨B,x,pgs,cur,lo,d,rfl,⟨dx,p,l,qs,I⟩,hn,hp,k⟩:=h
  refine ⟨_,(Ad (JP (S6 PySem.F.plainAttrs_list PySem.F.slot_list_append PySem.F.type_list_append GP (Az (pv 0) rfl) (Aa (BW acC (Az (pv 0) rfl) (Cq (Aa (Az (pv 0) rfl) (Ae)))) (Ae)))) (Ad (Dd (pv 0) Aq rfl) (Ad (Dd (pv 0) (Cq Ae) rfl) (Ad (Dd (pv 0) BZ rfl) (Af (Am Dy)))))),?_⟩
  refine ⟨_,rfl,x,Ak,dx,_,_,rfl,I.hx,T.Bp,T.Fp,rfl,.inl ⟨rfl,_,SqL.of I.hp⟩,_,rfl,x,Ak,dx,_,_,rfl,I.hx,T.Bp,T.En,rfl,_,rfl,x,Ak,dx,_,_,rfl,I.hx,T.Bp,T.Bu,rfl,(by show 1 <= sizeLine; decide),fun a ha=>?_⟩
  have I1:=I.same (Ai.new (o:=.lst [Lk (Mx.numOf (PSt.num lo (some d)))]) ha)
  have ha1:upd H a (.lst [Lk (Mx.numOf (PSt.num lo (some d)))]) a=some (.lst [.int (d:Int)]):=Ab
  have nla:∀ {y:Addr},H y ≠ none->y ≠ a:=fun hy z=>hy (by rw [z]; exact ha)
  generalize upd H a (.lst [Lk (Mx.numOf (PSt.num lo (some d)))])=H1 at I1 ha1
  refine ⟨l,a,_,_,rfl,rfl,I1.hl,ha1,(by rw [Bt]; show cur.length + 1 <= sizeLine; rw [sizeLine_eq]; omega),fun q hq=>?_⟩
  rw [Oi]
  have I2:=I1.same (Ai.new (o:=.lst (Bv (cur ++ [d]))) hq)
  have hq2:upd H1 q (.lst (Bv (cur ++ [d]))) q=some (.lst (Bv (cur ++ [d]))):=Ab
  have npq:p ≠ q:=Bq I1.hp hq
  have nlq:l ≠ q:=Bq I1.hl hq
  generalize upd H1 q (.lst (Bv (cur ++ [d])))=H2 at I2 hq2
  have hql:qs.length=pgs.length:=Paired.length I.hq
  refine ⟨p,_,_,rfl,rfl,I2.hp,(by rw [List.length_map,hql]; exact Ci (by omega)),?_⟩
  have I3:=I2.page hq2 npq nlq
  generalize upd H2 p (.lst (qs.map V.ref ++ [.ref q]))=H3 at I3
  refine ⟨_,rfl,x,Ak,dx,_,rfl,I3.hx,T.Bp,T.Ei,(by show 4 < 1000; decide),?_⟩
  have I4:=I3.fields 0 (Mx.numOf (PSt.num lo (some d)))
  have e4:Ky "head" (V.int 0) (Gi (.ref p) (.int ((headOf (PSt.num lo (some d)):Nat):Int)) (.ref l) (Lk (Mx.numOf (PSt.num lo (some d)))))=Gi (.ref p) (.int ((0:Nat):Int)) (.ref l) (Lk (Mx.numOf (PSt.num lo (some d)))):=rfl
  dsimp only
  rw [e4]
  generalize upd H3 x (.ins Ak dx (Gi (.ref p) (.int ((0:Nat):Int)) (.ref l) (Lk (Mx.numOf (PSt.num lo (some d))))))=H4 at I4
  refine ⟨Nat.zero_le _,fun l' hl'=>?_⟩
  have I5:=I4.same (Ai.new (o:=.lst []) hl')
  have hl5:upd H4 l' (.lst []) l'=some (.lst []):=Ab
  have akV:p ≠ l':=Bq I4.hp hl'
  have akY:l' ∉ qs ++ [q]:=fun z=>by
   obtain ⟨i,hi⟩:=List.getElem?_of_mem z
   obtain ⟨g,_,hg⟩:=Ca I4.hq hi
   rw [hl'] at hg
   cases hg
  have bl':B l'=none:=I4.sm.free hl'
  generalize upd H4 l' (.lst [])=H5 at I5 hl5
  refine ⟨_,rfl,x,Ak,dx,_,rfl,I5.hx,T.Bp,T.En,(by show 4 < 1000; decide),?_⟩
  have I6:=I5.lines hl5 bl' akV akY
  have e6:Ky "lines" (V.ref l') (Gi (.ref p) (.int ((0:Nat):Int)) (.ref l) (Lk (Mx.numOf (PSt.num lo (some d)))))=Gi (.ref p) (.int ((0:Nat):Int)) (.ref l') (Lk (Mx.numOf (PSt.num lo (some d)))):=rfl
  dsimp only
  rw [e6]
  generalize upd H5 x (.ins Ak dx (Gi (.ref p) (.int ((0:Nat):Int)) (.ref l') (Lk (Mx.numOf (PSt.num lo (some d))))))=H6 at I6
  refine ⟨_,rfl,x,Ak,dx,_,rfl,I6.hx,T.Bp,T.Bu,(by show 4 < 1000; decide),k _ ⟨dx,p,l',qs ++ [q],?_⟩⟩
  exact I6.fields 0 none
open Mx (PCf PSt PWf Ep headOf Km gm Qn Ih goP)
theorem ZC:Av ["begun", "sign"] ["begun", "sign"] (Al Sq):=⟨rfl,rfl,rfl,by decide +kernel,rfl,by decide +kernel,by decide +kernel⟩
theorem ahm {c:PCf} {n:Nat} (h:PWf c n):headOf c.st <= 5:=by
 obtain ⟨pgs,cur,st⟩:=c
 have h5:=h.st
 cases st with
 | word k=>dsimp only at h5; show k <= 5; omega
 | gap=>exact (by decide:4 <= 5)
 | num lo v=>exact Nat.le_refl 5
theorem abC (T:Txt K mg Ao Ac Ak Ax Ag):Cl P w K mg base 3 "take_sign" ["begun", "sign"] (Zo Ak fun _ _=>True):=by
 refine T.abq.ok ZC (fun vs H Q E h=>?_) (fun f cdv A outer s H vs Q E hr h=>?_)
 ·obtain ⟨B,x,c,s,n,rfl,_⟩:=h
  rfl
 ·obtain ⟨B,x,c,s,n,rfl,⟨dx,p,l,qs,I⟩,hW,hn,_,k⟩:=h
  refine ⟨_,(Ad (Bj (Bd S9 (Az (pv 0) rfl) (Bc aaf (by rfl) T.CJ PySem.boot_len (Aa (ahO T.R6 rfl) (Ae))) (Bg _)) (Af (Am (Bm (RP T) hr rfl (Aa (pv 0) (Aa (pv 1) (Ae)))))) Ar) (Ad (Bj (DP (Bm (Ox T) hr rfl (Aa (pv 1) (Ae)))) (Af (Am (Bm (aag T) hr rfl (Aa (pv 0) (Aa (pv 1) (Ae)))))) Ar) (Ad (Bj (PW.pt (Eu (Cg (Dk (Az (pv 0) rfl))) (Fi (Bd Kg (Az (pv 0) rfl) (Bm (TQ T) hr rfl (Aa (pv 0) (Ae))) (Bg _))))) (Af (Am Dy)) Ar) (Ad (Bj (Bd Gp (pv 1) (Cp T.adi rfl) (Bg _)) (Af (Am (Bm (aah T) hr rfl (Aa (pv 0) (Ae))))) Ar) (Ad (Bj (Bd Gp (pv 1) (Cp T.XQ rfl) (Bg _)) (Af (Am (Bm (WK T) hr rfl (Aa (pv 0) (Ae))))) Ar) (Af (Am Dy))))))),?_⟩
  refine ⟨_,rfl,x,Ak,dx,_,_,rfl,I.hx,T.Bp,T.Ei,rfl,_,rfl,(by show 5 <= sizeLine; decide),_,_,rfl,rfl,_,rfl,?_⟩
  refine BJ (fun h0=>?_) (fun h0=>?_)
  ·have h0:headOf c.st < 5:=by
    have h0:((headOf c.st:Nat):Int) < ((("page " : Str).length:Nat):Int):=by simpa using h0
    have e:("page " : Str).length=5:=rfl
    omega
   exact ⟨_,rfl,_,rfl,B,x,c,s,n,rfl,⟨dx,p,l,qs,I⟩,hW,hn,h0,k⟩
  have h0:headOf c.st=5:=by
   have h0:¬ ((headOf c.st:Nat):Int) < ((("page " : Str).length:Nat):Int):=by simpa using h0
   have e:("page " : Str).length=5:=rfl
   have:=ahm hW
   omega
  refine ⟨_,rfl,_,rfl,fun v1 H1 s1 e1=>⟨_,e1,?_⟩⟩
  rw [ZV]
  have I1:=I.same s1
  refine BJ (fun h1=>?_) (fun h1=>?_)
  ·exact ⟨_,rfl,_,rfl,B,x,c,s,n,rfl,⟨dx,p,l,qs,I1⟩,hW,hn,⟨h0,h1⟩,k⟩
  have h1:isDigit s=false:=by simpa using h1
  obtain ⟨pgs,cur,st⟩:=c
  cases st with
  | word j =>
   have:=hW.st
   dsimp only at this
   have h0:j=5:=h0
   omega
  | gap=>cases h0
  | num lo v =>
  have h5:=hW.st
  dsimp only at h5
  rw [Mx.acd hW h1] at k
  refine ⟨_,rfl,x,Ak,dx,_,_,rfl,I1.hx,T.Bp,T.Bu,rfl,_,rfl,?_⟩
  cases v with
  | none=>exact Dm (k _ I1.sm)
  | some d =>
   refine Ej ⟨_,rfl,x,Ak,dx,_,_,rfl,I1.hx,T.Bp,T.Bu,rfl,_,rfl,x,dx,l,_,_,_,cur,rfl,I1.hx,I1.hl,fun v2 H2 s2 e2=>?_⟩
   subst e2
   have I2:=I1.same s2
   dsimp only at k
   refine ⟨_,_,rfl,rfl,_,rfl,?_⟩
   refine BJ (fun h2=>?_) (fun h2=>?_)
   ·have h2:d < lo:=by
     have h2:(d:Int) <= (Qn cur:Int) - 1:=by simpa using h2
     have:=h5.2.1
     omega
    rw [if_pos h2] at k
    exact k _ I2.sm
   have h2:¬ d < lo:=by
    have h2:¬ (d:Int) <= (Qn cur:Int) - 1:=by simpa using h2
    have:=h5.2.1
    omega
   rw [if_neg h2] at k
   have cl:cur.length <= 1000000:=Nat.le_trans hW.cl hn
   have pl:pgs.length <= 256:=hW.le
   refine ⟨_,rfl,rfl,_,rfl,?_⟩
   refine BJ (fun h3=>?_) (fun h3=>?_)
   ·have h3:s=32:=by
     have h3:(s.toNat:Int)=32:=by simpa using h3
     exact UInt8.toNat_inj.mp (by show s.toNat=32; omega)
    rw [if_pos h3] at k
    exact ⟨_,rfl,B,x,pgs,cur,lo,d,rfl,⟨dx,p,l,qs,I2⟩,cl,pl,k⟩
   have h3:¬ s=32:=fun z=>h3 (by rw [z]; rfl)
   rw [if_neg h3] at k
   refine ⟨_,rfl,rfl,_,rfl,?_⟩
   refine BJ (fun h4=>?_) (fun h4=>?_)
   ·have h4:s=10:=by
     have h4:(s.toNat:Int)=10:=by simpa using h4
     exact UInt8.toNat_inj.mp (by show s.toNat=10; omega)
    rw [if_pos h4] at k
    exact ⟨_,rfl,B,x,pgs,cur,lo,d,rfl,⟨dx,p,l,qs,I2⟩,cl,pl,k⟩
   have h4:¬ s=10:=fun z=>h4 (by rw [z]; rfl)
   rw [if_neg h4] at k
   exact k _ I2.sm
def abU (C:Addr) (t:Bytes) (v:V) (H:Hp):Prop:=∃ x dx,v = .ref x/\match Br.readP t with
 | .error i=>∃ p,H x=some (.ins C dx (adx p (.int (i:Int))))
 | .ok l=>∃ p qs,H x=some (.ins C dx (adx (.ref p) .non))/\H p=some (.lst (qs.map V.ref))/\Paired (fun q g=>H q=some (.lst (Bv g))) qs l/\l.length <= 256/\∀ g ∈ l,g.length <= t.length/\∀ i ∈ g,i <= 255
def K4 (K:PySem.W.Frag) (C:Addr):Sp:=fun vs H Q _=>∃ (a:Addr) (t:Bytes),vs=[.ref a]/\SqL K H a (bV t)/\t.length <= 1000000/\Out H Q (abU C t)
theorem G4:Av ["text", "begun", "place", "sign"] ["text"] (Al Hi):=⟨rfl,rfl,rfl,by decide +kernel,rfl,by decide +kernel,by decide +kernel⟩
theorem ajb {t:Bytes} {i:Nat} (h:i < t.length):(bV t)[i]? = some (.int ((t.getD i 0).toNat:Int)):=by
 unfold bV
 rw [List.getElem?_map,List.getD_eq_getElem?_getD,List.getElem?_eq_getElem h]
 rfl
theorem Nj (T:Txt K mg Ao Ac Ak Ax Ag):Cl P w K mg base 4 "read_instructions" ["text"] (K4 K Ac):=by
 refine T.Nb.ok G4 (fun vs H Q E h=>?_) (fun f cdv A outer s H vs Q E hr h=>?_)
 ·obtain ⟨a,t,rfl,_⟩:=h
  rfl
 ·obtain ⟨a,t,rfl,ha,hlen,k⟩:=h
  have nd:=G4.nd
  refine ⟨_,(Ad (Ba (i:=1) nd rfl (Or.inl rfl) (aip (ahD T) hr rfl)) (Ad (CG PassesOwn.never rfl (JQ rfl T.Ef (Aa (pv 0) (Ae))) (Fx rfl (Bw (Be (i:=2) nd rfl (Or.inl rfl)) (Bw (Be (i:=3) nd rfl (Or.inl rfl)) Eg)))
    (Af (Bj (Gh (DP (Bm (abC T) hr rfl (Aa (pv 1) (Aa (pv 3) (Ae)))))) (Af (Am (Qh (HD T) hr rfl (Aa (Cq Ae) (Aa (pv 2) (Ae)))))) Ar))) (Ad (Bj (PW.pt (Eu (Bd Ln (Az (pv 1) rfl) Aq (Bg _)) (Fi (Bd Gp (Bc Ay (by rfl) T.CJ PySem.boot_len (Aa (Az (pv 1) rfl) (Ae))) Aq (Bg _))))) (Af (Am (Qh (HD T) hr rfl (Aa (Cq Ae) (Aa (Bc Ay (by rfl) T.CJ PySem.boot_len (Aa (pv 0) (Ae))) (Ae)))))) Ar) (Af (Am (Qh (HD T) hr rfl (Aa (Az (pv 1) rfl) (Aa (BZ) (Ae))))))))),?_⟩
  have bad:∀ (i:Nat) (H1:Hp),Br.readP t = .error i->Ai H H1->∀ p,H1 p=none->∀ x dx,upd H1 p (.lst []) x=none->upd H1 p (.lst []) dx=none->dx ≠ x->aci Ac (.ref x :: ([.ref p,.int (i:Int)] ++ [])) (upd (upd (upd H1 p (.lst [])) dx (.own x)) x (.ins Ac dx [])) (fun v H2=>v = .non/\Q (.ref x) H2) E0:=fun i H1 e s1 p hp =>
   afV fun x H2 s2 ⟨dx,hx⟩=>k _ _ (s1.trans ((Ai.new hp).trans s2)) ⟨x,dx,rfl,by rw [e]; exact ⟨_,hx⟩⟩
  refine fun x dx nx ndx nex=>⟨x,dx,rfl,Ab,fun H1 p l hx hp hl npl fp fl kp=>⟨rfl,?_⟩⟩
  have s1:Ai H H1:=Ai.made nx ndx kp
  have f1:∀ y,upd (upd H dx (.own x)) x (.ins Ak dx []) y=none->H y=none:=fun y hy=>by
   by_cases e1:y=x
   ·rw [e1]; exact nx
   ·rw [Ah e1] at hy
    by_cases e2:y=dx
    ·rw [e2]; exact ndx
    ·rw [Ah e2] at hy; exact hy
  have I:abX Ak H H1 x ⟨[],[],.word 0⟩:=⟨dx,p,l,[],hx,hp,hl,.nil,s1,nx,f1 p fp,f1 l fl,npl,List.not_mem_nil,List.not_mem_nil⟩
  refine ⟨_,rfl,a,_,rfl,s1.seq ha,Jt (K:=K) (a:=a) (xs:=bV t) (fun i σ H'=>∃ (v2 v3:Option V) (c:PCf),σ=[some (.ref a),some (.ref x),v2,v3]/\abX Ak H H' x c/\PWf c i/\Br.readP t=goP c i (t.drop i))
   ⟨none,none,_,rfl,I,PWf.start,by rw [Mx.afB]; rfl⟩ (fun i σ H' _ ⟨_,_,c,_,⟨_,_,_,_,I'⟩,_⟩=>I'.sm.seq ha) ?_ ?_⟩
  ·rintro i y σ H' tt hy ⟨v2,v3,c,rfl,⟨dx',p',l',qs,I'⟩,hW,hgo⟩ hT
   have hi:i < t.length:=by
    have:=(List.getElem?_eq_some_iff.mp hy).1
    rwa [FP] at this
   rw [ajb hi] at hy
   cases hy
   rw [Mx.agl hi] at hgo
   have I2:=I'.same (Ai.new (o:=.tup [.int ((i:Nat):Int),.int ((t.getD i 0).toNat:Int)]) hT)
   refine ⟨tt,_,rfl,SqT.of Ab,rfl,_,_,rfl,_,_,rfl,rfl,?_⟩
   generalize upd H' tt (.tup [.int ((i:Nat):Int),.int ((t.getD i 0).toNat:Int)])=H2 at I2
   refine ⟨_,rfl,_,rfl,H,x,c,t.getD i 0,i,rfl,⟨dx',p',l',qs,I2⟩,hW,by omega,trivial,?_⟩
   cases e:Ep c (t.getD i 0) with
   | some y =>
    rw [e] at hgo
    exact fun H3 I3=>⟨_,rfl,Ej ⟨_,_,y,rfl,I3,hW.step e,hgo⟩⟩
   | none =>
    rw [e] at hgo
    exact fun H3 s3=>⟨_,rfl,Dm ⟨Nat.zero_le _,fun p2 hp2=>⟨_,rfl,bad i H3 hgo s3 p2 hp2⟩⟩⟩
  ·rintro σ H' ⟨v2,v3,c,rfl,⟨dx',p',l',qs,I'⟩,hW,hgo⟩
   rw [FP] at hgo hW
   rw [Mx.ahs] at hgo
   have hend:=Mx.aht hW
   have hql:qs.length=c.pgs.length:=Paired.length I'.hq
   refine ⟨_,rfl,x,Ak,dx',_,_,rfl,I'.hx,T.Bp,T.Ei,rfl,_,_,rfl,rfl,_,rfl,?_⟩
   refine BJ (fun h0=>?_) (fun h0=>?_)
   ·have h0:0 < headOf c.st:=by
     have h0:(0:Int) < ((headOf c.st:Nat):Int):=by simpa using h0
     omega
    rw [if_neg (fun z=>hend.mp z (.inl h0))] at hgo
    refine ⟨Nat.zero_le _,fun p2 hp2=>⟨_,rfl,a,_,rfl,.inl ((I'.sm.trans (Ai.new hp2)).seq ha),?_⟩⟩
    rw [FP]
    exact bad t.length H' hgo I'.sm p2 hp2
   have h0:¬ 0 < headOf c.st:=by
    have h0:¬ (0:Int) < ((headOf c.st:Nat):Int):=by simpa using h0
    omega
   refine ⟨_,rfl,x,Ak,dx',_,_,rfl,I'.hx,T.Bp,T.Fp,rfl,p',_,rfl,.inl (SqL.of I'.hp),rfl,_,rfl,?_⟩
   rw [List.length_map,hql]
   refine BJ (fun h1=>?_) (fun h1=>?_)
   ·have h1:c.pgs.length=0:=by
     have h1:(c.pgs.length:Int)=0:=by simpa using h1
     omega
    rw [if_neg (fun z=>hend.mp z (.inr h1))] at hgo
    refine ⟨Nat.zero_le _,fun p2 hp2=>⟨_,rfl,a,_,rfl,.inl ((I'.sm.trans (Ai.new hp2)).seq ha),?_⟩⟩
    rw [FP]
    exact bad t.length H' hgo I'.sm p2 hp2
   have h1:¬ c.pgs.length=0:=by
    have h1:¬ (c.pgs.length:Int)=0:=by simpa using h1
    omega
   rw [if_pos (hend.mpr (fun z=>z.elim h0 h1))] at hgo
   refine ⟨_,rfl,x,Ak,dx',_,_,rfl,I'.hx,T.Bp,T.Fp,rfl,?_⟩
   refine afV fun y H3 s3 ⟨dy,hy⟩=>k _ _ (I'.sm.trans s3) ⟨y,dy,rfl,?_⟩
   rw [hgo]
   exact ⟨p',qs,hy,s3 _ _ I'.hp,FW I'.hq fun _ _ _ e=>s3 _ _ e,hW.le,hW.sm⟩
open Mx (Tc SQ Dt)
open Br (Bytes Pages tower)
def QX (K:PySem.W.Frag):Sp:=fun vs H Q _=>∃ (a:Addr) (l:List Nat),vs=[.ref a]/\SqL K H a (Bv l)/\(∀ i ∈ l,i <= 255)/\Out H Q (fun v _=>∃ m:Nat,v = .int (m:Int)/\Dt m l)
theorem Jb:Av ["lines", "mask", "line"] ["lines"] (Al J7):=⟨rfl,rfl,rfl,by decide +kernel,rfl,by decide +kernel,by decide +kernel⟩
theorem Ur (T:Txt K mg Ao Ac Ak Ax Ag):Cl P w K mg base 2 "mask_of_lines" ["lines"] (QX K):=by
 refine T.Ug.ok Jb (fun vs H Q E h=>?_) (fun f cdv A outer s H vs Q E hr h=>?_)
 ·obtain ⟨a,l,rfl,_⟩:=h
  rfl
 ·obtain ⟨a,l,rfl,ha,h255,k⟩:=h
  have nd:=Jb.nd
  refine ⟨_,(Ad (Ba (i:=1) nd rfl (Or.inl rfl) Aq) (Ad (CG PassesOwn.never rfl (GX (pv 0)) (Be (i:=2) nd rfl (Or.inl rfl))
    (Af (Ba (i:=1) nd rfl (Or.inl rfl) (BW aa0 (pv 1) (Bm (MP T) hr rfl (Aa (pv 2) (Ae))))))) (Af (Am (pv 1))))),?_⟩
  refine ⟨_,rfl,a,rfl,⟨_,ha⟩,Hz (K:=K) (a:=a) (xs:=Bv l) (fun i σ H'=>∃ (v2:Option V) (m:Nat),σ=[some (.ref a),some (.int (m:Int)),v2]/\Ai H H'/\Dt m (l.take i))
   ⟨none,0,rfl,Ai.refl _,Dt.nil⟩ (fun i σ H' _ ⟨_,_,_,sm,_⟩=>sm.seq ha) ?_ ?_⟩
  ·rintro i x σ H' hx ⟨v2,m,rfl,sm,hm⟩
   have hi:i < l.length:=by
    have:=(List.getElem?_eq_some_iff.mp hx).1
    rwa [Bt] at this
   rw [Fl hi] at hx
   cases hx
   have hg:l[i]? = some (l.getD i 0):=by rw [List.getD_eq_getElem?_getD,List.getElem?_eq_getElem hi]; rfl
   have h2:=h255 _ (List.mem_of_getElem? hg)
   refine ⟨_,rfl,_,rfl,l.getD i 0,rfl,by omega,fun v7 H7 s7 ev7=>?_⟩
   subst ev7
   refine ⟨_,_,rfl,rfl,?_⟩
   dsimp only
   rw [V2]
   refine ⟨_,_,rfl,sm.trans s7,?_⟩
   rw [List.take_succ,hg]
   exact hm.snoc
  ·rintro σ H' ⟨v2,m,rfl,sm,hm⟩
   rw [Bt,List.take_length] at hm
   exact ⟨_,rfl,k _ _ sm ⟨m,rfl,hm⟩⟩
open Mx (Tc SQ Dt bad2 agy)
def ahX (w:Option (List Nat)) (v:V) (H:Hp):Prop:=match w with
 | none=>v = .non
 | some w=>∃ l,v = .ref l/\H l=some (.lst (Bv w))
def QT:Sp:=fun vs H Q _=>∃ (q m:Nat) (g a:Addr) (p U done:List Nat) (c:Br.Catalogue) (b:Br.Build),vs=[.int (q:Int),.ref g,.int (m:Int),.ref a]/\H g=some (.lst (Bv p))/\H a=some (.lst (Bv U))/\QC c b U/\b.lines.length <= 256/\Dt m done/\(∀ i ∈ p,i <= 255) /\
 Out H Q (ahX (((tower c b).pageWrong q done p).map fun w=>[w.1,w.2]))
theorem Ja:Av ["most", "lines", "before", "under", "line"] ["most", "lines", "before", "under"] (Al J4):=⟨rfl,rfl,rfl,by decide +kernel,rfl,by decide +kernel,by decide +kernel⟩
theorem Uo (T:Txt K mg Ao Ac Ak Ax Ag):Cl P w K mg base 4 "wrong_on_page" ["most", "lines", "before", "under"] QT:=by
 refine T.Uc.ok Ja (fun vs H Q E h=>?_) (fun f cdv A outer s H vs Q E hr h=>?_)
 ·obtain ⟨q,m,g,a,p,U,done,c,b,rfl,_⟩:=h
  rfl
 ·obtain ⟨q,m,g,a,p,U,done,c,b,rfl,hg,ha,hU,h256,hm,h255,k⟩:=h
  have nd:=Ja.nd
  refine ⟨_,(Ad (Bj (Bd Ln (Bc Ay (by rfl) T.CJ PySem.boot_len (Aa (pv 1) (Ae))) (pv 0) (Bg _)) (Af (Am (Cq (Aa (Cp T.QM rfl) (Aa (Bc Ay (by rfl) T.CJ PySem.boot_len (Aa (pv 1) (Ae))) (Ae)))))) Ar) (Ad (CG PassesOwn.never rfl (GX (pv 1)) (Be (i:=4) nd rfl (Or.inl rfl))
    (Af (Bj (PW.pt (Eu (Bd ajF (pv 4) (Bc Ay (by rfl) T.CJ PySem.boot_len (Aa (pv 3) (Ae))) (Bg _)) (Fi (DP (Bm (Gv T) hr rfl (Aa (pv 4) (Aa (pv 2) (Ae)))))))) (Af (Am (Cq (Aa (Cp T.KH rfl) (Aa (pv 4) (Ae)))))) Ar))) (Ad (CG PassesOwn.never rfl (GX (pv 1)) (Be (i:=4) nd rfl (Or.inl rfl))
    (Af (Bj (Gh (DP (Bm (Uq T) hr rfl (Aa (pv 4) (Aa (pv 2) (Aa (pv 3) (Ae))))))) (Af (Am (Cq (Aa (Cp T.aaw rfl) (Aa (pv 4) (Ae)))))) Ar))) (Af (Am BZ))))),?_⟩
  have hlen:U.length=b.lines.length:=hU.len
  rw [Mx.ag2] at k
  have two:(2:Nat) <= sizeLine:=by decide
  refine ⟨_,rfl,g,_,rfl,.inl (SqL.of hg),_,rfl,_,_,rfl,rfl,_,rfl,?_⟩
  rw [Bt]
  refine BJ (fun h0=>?_) (fun h0=>?_)
  ·have h0:q < p.length:=by
    have h0:(q:Int) < (p.length:Int):=by simpa using h0
    omega
   rw [if_pos h0] at k
   refine ⟨_,rfl,g,_,rfl,.inl (SqL.of hg),two,fun l hl=>k _ _ (Ai.new hl) ⟨l,rfl,?_⟩⟩
   rw [Bt]
   exact Ab
  have h0:¬ q < p.length:=by
   have h0:¬ (q:Int) < (p.length:Int):=by simpa using h0
   omega
  rw [if_neg h0] at k
  have inb:∀ {i:Nat} {x:V},(Bv p)[i]? = some x->x = .int ((p.getD i 0:Nat):Int)/\p[i]? = some (p.getD i 0)/\p.getD i 0 <= 255:=fun {i x} hx=>by
   have hi:i < p.length:=by
    have:=(List.getElem?_eq_some_iff.mp hx).1
    rwa [Bt] at this
   rw [Fl hi] at hx
   have hg:p[i]? = some (p.getD i 0):=by rw [List.getD_eq_getElem?_getD,List.getElem?_eq_getElem hi]; rfl
   exact ⟨(Option.some.inj hx).symm,hg,h255 _ (List.mem_of_getElem? hg)⟩
  refine ⟨_,rfl,g,rfl,⟨_,SqL.of hg⟩,Hz (K:=K) (a:=g) (xs:=Bv p) (fun i σ H'=>∃ (v4:Option V),σ=[some (.int (q:Int)),some (.ref g),some (.int (m:Int)),some (.ref a),v4]/\Ai H H'/\∀ y j,y < i->p[y]? = some j->bad2 (tower c b) done j=false)
   ⟨none,rfl,Ai.refl _,fun y j hy _=>absurd hy (Nat.not_lt_zero y)⟩ (fun i σ H' _ ⟨_,_,sm,_⟩=>SqL.of (sm _ _ hg)) ?_ ?_⟩
  ·rintro i x σ H' hx ⟨v4,rfl,sm,hno⟩
   obtain ⟨rfl,hp,h2⟩:=inb hx
   have hb:=Mx.Za (c:=c) (b:=b) hm (p.getD i 0)
   refine ⟨_,rfl,_,rfl,a,_,rfl,.inl (SqL.of (sm _ _ ha)),_,_,rfl,rfl,_,rfl,?_⟩
   rw [Bt,hlen]
   have hit:bad2 (tower c b) done (p.getD i 0)=true->∀ H'',Ai H H''->∀ l,H'' l=none->Q (.ref l) (upd H'' l (.lst [.int 2,.int ((p.getD i 0:Nat):Int)])):=fun hbt H'' sm' l hl=>by
    refine k _ _ (sm'.trans (Ai.new hl)) ?_
    rw [Mx.ZZ hp hbt hno]
    exact ⟨l,rfl,Ab⟩
   refine BJ (fun h1=>?_) (fun h1=>?_)
   ·have h1:b.lines.length <= p.getD i 0:=by
     have h1:(b.lines.length:Int) <= ((p.getD i 0:Nat):Int):=by simpa using h1
     omega
    exact ⟨_,rfl,two,fun l hl=>hit (by rw [hb,decide_eq_true h1]; rfl) _ sm l hl⟩
   have h1:¬ b.lines.length <= p.getD i 0:=by
    have h1:¬ (b.lines.length:Int) <= ((p.getD i 0:Nat):Int):=by simpa using h1
    omega
   refine ⟨_,rfl,_,rfl,p.getD i 0,m,rfl,by omega,fun v3 H3 s3 ev3=>⟨_,ev3,?_⟩⟩
   refine BJ (fun h3=>?_) (fun h3=>?_)
   ·exact ⟨_,rfl,two,fun l hl=>hit (by rw [hb,h3,Bool.or_true]) _ (sm.trans s3) l hl⟩
   ·refine ⟨_,rfl,sm.trans s3,fun y j hy hj=>?_⟩
    by_cases e:y < i
    ·exact hno y j e hj
    ·have:y=i:=by omega
     subst this
     rw [hp] at hj
     cases hj
     rw [hb,decide_eq_false h1,Bool.false_or]
     exact Bool.eq_false_iff.mpr h3
  ·rintro σ H1 ⟨v4,rfl,sm1,hno⟩
   rw [Bt] at hno
   have hno:∀ y j,p[y]? = some j->bad2 (tower c b) done j=false:=fun y j hj=>hno y j (List.getElem?_eq_some_iff.mp hj).1 hj
   rw [Mx.adO hno] at k
   dsimp only at k
   refine ⟨_,rfl,g,rfl,⟨_,SqL.of (sm1 _ _ hg)⟩,Hz (K:=K) (a:=g) (xs:=Bv p) (fun i σ H'=>∃ (v4:Option V),σ=[some (.int (q:Int)),some (.ref g),some (.int (m:Int)),some (.ref a),v4]/\Ai H H'/\∀ y j,y < i->p[y]? = some j->agy (tower c b) done j=false)
    ⟨v4,rfl,sm1,fun y j hy _=>absurd hy (Nat.not_lt_zero y)⟩ (fun i σ H' _ ⟨_,_,sm,_⟩=>SqL.of (sm _ _ hg)) ?_ ?_⟩
   ·rintro i x σ H' hx ⟨v4,rfl,sm,agf⟩
    obtain ⟨rfl,hp,h2⟩:=inb hx
    have hb2:=hno i _ hp
    have hb:=Mx.ae8 hU.bit hm hb2
    have hin:p.getD i 0 < b.lines.length:=by
     rw [Mx.Za hm,Bool.or_eq_false_iff,decide_eq_false_iff_not] at hb2
     omega
    refine ⟨_,rfl,_,rfl,_,rfl,p.getD i 0,m,a,U,rfl,sm _ _ ha,by omega,by omega,fun v3 H3 s3 ev3=>⟨_,ev3,?_⟩⟩
    dsimp only
    rw [<- hb]
    refine BJ (fun h3=>?_) (fun h3=>?_)
    ·refine ⟨_,rfl,two,fun l hl=>k _ _ (sm.trans (s3.trans (Ai.new hl))) ?_⟩
     rw [Mx.ZZ hp h3 agf]
     exact ⟨l,rfl,Ab⟩
    ·refine ⟨_,rfl,sm.trans s3,fun y j hy hj=>?_⟩
     by_cases e:y < i
     ·exact agf y j e hj
     ·have:y=i:=by omega
      subst this
      rw [hp] at hj
      cases hj
      exact Bool.eq_false_iff.mpr h3
   ·rintro σ H' ⟨v4,rfl,sm,agf⟩
    rw [Bt] at agf
    refine k _ _ sm ?_
    rw [Mx.adO fun y j hj=>agf y j (List.getElem?_eq_some_iff.mp hj).1 hj]
    rfl
def M7:Sp:=fun vs H Q _=>∃ (q:Nat) (g a:Addr) (qs:List Addr) (l:Pages) (U:List Nat) (c:Br.Catalogue) (b:Br.Build),vs=[.int (q:Int),.ref g,.ref a]/\H g=some (.lst (qs.map V.ref))/\Paired (fun q g=>H q=some (.lst (Bv g))) qs l/\H a=some (.lst (Bv U))/\QC c b U/\b.lines.length <= 256/\l.length <= 256/\(∀ p ∈ l,∀ i ∈ p,i <= 255) /\
 Out H Q (ahX (((tower c b).pagesWrong q l).map fun w=>[w.1,w.2.1,w.2.2]))
theorem Hf:Av ["most", "pages", "under", "before", "number", "lines", "wrong", "line"] ["most", "pages", "under"] (Al Hu):=⟨rfl,rfl,rfl,by decide +kernel,rfl,by decide +kernel,by decide +kernel⟩
theorem Oz (T:Txt K mg Ao Ac Ak Ax Ag):Cl P w K mg base 5 "first_wrong_page" ["most", "pages", "under"] M7:=by
 refine T.Oq.ok Hf (fun vs H Q E h=>?_) (fun f cdv A outer s H vs Q E hr h=>?_)
 ·obtain ⟨q,g,a,qs,l,U,c,b,rfl,_⟩:=h
  rfl
 ·obtain ⟨q,g,a,qs,l,U,c,b,rfl,hg,hq,ha,hU,h256,hl,h255,k⟩:=h
  have nd:=Hf.nd
  refine ⟨_,(Ad (Ba (i:=3) nd rfl (Or.inl rfl) Aq) (Ad (CG PassesOwn.never rfl (JQ rfl T.Ef (Aa (pv 1) (Ae))) (Fx rfl (Bw (Be (i:=4) nd rfl (Or.inl rfl)) (Bw (Be (i:=5) nd rfl (Or.inl rfl)) Eg)))
    (Ad (Ba (i:=6) nd rfl (Or.inl rfl) (Bm (Uo T) hr rfl (Aa (pv 0) (Aa (pv 5) (Aa (pv 3) (Aa (pv 2) (Ae))))))) (Ad (Bj (Cg (Qi (pv 6))) (Af (Am (Cq (Aa (Ck BP (pv 6) Aq (fun _ _=>rfl)) (Aa (pv 4) (Aa (Ck BP (pv 6) Aq (fun _ _=>rfl)) (Ae))))))) Ar) (Af (Ba (i:=3) nd rfl (Or.inl rfl) (BW aa0 (pv 3) (Bm (Ur T) hr rfl (Aa (pv 5) (Ae))))))))) (Ad (CG PassesOwn.never rfl (Mu rfl T.Qw (Aa (Bc Ay (by rfl) T.CJ PySem.boot_len (Aa (pv 2) (Ae))) (Ae))) (Be (i:=7) nd rfl (Or.inl rfl))
    (Af (Bj (Gh (DP (Bm (Gv T) hr rfl (Aa (pv 7) (Aa (pv 3) (Ae)))))) (Af (Am (Cq (Aa (Cp T.Zm rfl) (Aa (Bc Ay (by rfl) T.CJ PySem.boot_len (Aa (pv 1) (Ae))) (Aa (pv 7) (Ae))))))) Ar))) (Af (Am BZ))))),?_⟩
  have hlen:U.length=b.lines.length:=hU.len
  have hql:qs.length=l.length:=Paired.length hq
  have three:(3:Nat) <= sizeLine:=by decide
  have en:(tower c b).n=b.lines.length:=rfl
  refine ⟨_,rfl,g,_,rfl,SqL.of hg,Jt (K:=K) (a:=g) (xs:=qs.map V.ref) (fun x σ H'=>∃ (v4 v5 v6:Option V) (m:Nat) (done:List Nat),σ=[some (.int (q:Int)),some (.ref g),some (.ref a),some (.int (m:Int)),v4,v5,v6,none]/\Ai H H'/\Dt m done/\(tower c b).pagesWrong q l=(tower c b).pagesFrom q x done (l.drop x))
   ⟨none,none,none,0,[],rfl,Ai.refl _,Dt.nil,rfl⟩ (fun i σ H' _ ⟨_,_,_,_,_,_,sm,_⟩=>SqL.of (sm _ _ hg)) ?_ ?_⟩
  ·rintro i x σ H' tt hx ⟨v4,v5,v6,m,done,rfl,sm,hm,hgo⟩ hT
   rw [List.getElem?_map] at hx
   cases eq:qs[i]? with
   | none=>rw [eq] at hx; cases hx
   | some y =>
   rw [eq] at hx
   cases hx
   obtain ⟨p,hp,hy⟩:=Ca hq eq
   have hi:i < l.length:=(List.getElem?_eq_some_iff.mp hp).1
   have ed:l.drop i=p :: l.drop (i + 1):=by
    rw [List.drop_eq_getElem_cons hi]
    congr 1
    rw [List.getElem?_eq_getElem hi] at hp
    exact Option.some.inj hp
   have hpm:p ∈ l:=List.mem_of_getElem? hp
   rw [ed,Mx.acy] at hgo
   have st:=Ai.new (o:=.tup [.int ((i:Nat):Int),.ref y]) hT
   have sm2:=sm.trans st
   refine ⟨tt,_,rfl,SqT.of Ab,rfl,_,_,rfl,_,_,rfl,rfl,?_⟩
   generalize upd H' tt (.tup [.int ((i:Nat):Int),.ref y])=H2 at sm2
   refine ⟨_,rfl,_,rfl,_,rfl,_,rfl,q,m,y,a,p,U,done,c,b,rfl,sm2 _ _ hy,sm2 _ _ ha,hU,h256,hm,h255 p hpm,fun v3 H3 s3 hv3=>?_⟩
   have sm3:=sm2.trans s3
   cases ew:(tower c b).pageWrong q done p with
   | some u =>
    rw [ew] at hv3 hgo
    obtain ⟨l3,rfl,hl3⟩:=hv3
    refine ⟨_,rfl,_,rfl,Dm ⟨_,rfl,l3,_,_,_,rfl,rfl,SqL.of hl3,Iw (j:=0) rfl rfl,_,rfl,_,rfl,l3,_,_,_,rfl,rfl,SqL.of hl3,Iw (j:=1) rfl rfl,three,fun r hr=>k _ _ (sm3.trans (Ai.new hr)) ?_⟩⟩
    rw [hgo]
    exact ⟨r,rfl,Ab⟩
   | none =>
    rw [ew] at hv3 hgo
    have hv3:v3 = .non:=hv3
    subst hv3
    refine ⟨_,rfl,_,rfl,Ej ⟨_,rfl,_,rfl,y,p,rfl,SqL.of (sm3 _ _ hy),h255 p hpm,fun v4 H4 s4 ⟨m4,ev4,hm4⟩=>?_⟩⟩
    subst ev4
    refine ⟨_,_,rfl,rfl,?_⟩
    dsimp only
    rw [V2]
    exact ⟨_,_,_,_,done ++ p,rfl,sm3.trans s4,hm.app hm4,hgo⟩
  ·rintro σ H' ⟨v4,v5,v6,m,done,rfl,sm,hm,hgo⟩
   rw [List.length_map,hql,List.drop_length,Mx.aey,Mx.aeB hm,en] at hgo
   refine ⟨_,rfl,a,_,rfl,.inl (SqL.of (sm _ _ ha)),_,rfl,by rw [Bt]; omega,by rw [Bt]; omega,?_⟩
   rw [Bt,Int.toNat_natCast,hlen]
   refine Js (n:=b.lines.length) (fun i σ H''=>∃ v7:Option V,σ=[some (.int (q:Int)),some (.ref g),some (.ref a),some (.int (m:Int)),v4,v5,v6,v7]/\Ai H H''/\∀ j,j < i->m.testBit j=true)
    ⟨none,rfl,sm,fun j hj=>absurd hj (Nat.not_lt_zero j)⟩ ?_ ?_
   ·rintro i σ H'' hi ⟨v7,rfl,sm7,hno⟩
    rw [Int.zero_add]
    refine ⟨_,rfl,_,rfl,i,m,rfl,by omega,fun v H3 s3 ev=>⟨_,ev,?_⟩⟩
    refine BJ (fun hb=>?_) (fun hb=>⟨_,rfl,sm7.trans s3,fun j hj=>?_⟩)
    ·refine ⟨_,rfl,g,_,rfl,.inl (SqL.of ((sm7.trans s3) _ _ hg)),_,rfl,three,fun r hr=>k _ _ (sm7.trans (s3.trans (Ai.new hr))) ?_⟩
     have ef:(List.range b.lines.length).find? (fun i=>!(m.testBit i))=some i:=by
      rw [List.find?_range_eq_some]
      exact ⟨hb,List.mem_range.mpr hi,fun j hj=>by rw [hno j hj]; rfl⟩
     rw [hgo,ef]
     refine ⟨r,rfl,?_⟩
     rw [List.length_map,hql]
     exact Ab
    ·by_cases e:j < i
     ·exact hno j e
     ·have:j=i:=by omega
      subst this
      simpa using hb
   ·rintro σ H'' ⟨v7,rfl,sm7,hno⟩
    refine k _ _ sm7 ?_
    have ef:(List.range b.lines.length).find? (fun i=>!(m.testBit i))=none:=by
     rw [List.find?_eq_none]
     intro j hj
     rw [hno j (List.mem_range.mp hj)]
     exact Bool.false_ne_true
    rw [hgo,ef]
    rfl
def R3 (t:Bytes) (r:Rdg):Rdg:=match r with
 | .no z=>.no z
 | .yes k d=>match Br.readP t with
  | .ok _=>.yes k d
  | .error _=>.no 10
def KY (C D:Addr):Sp:=fun vs H Q _=>∃ (t:Bytes) (r:Rdg) (u v:V),vs=[u,v]/\abU C t u H/\Xz D r v H/\Out H Q (Xz D (R3 t r))
theorem K5:Av ["instructions", "build"] ["instructions", "build"] (Al Hg):=⟨rfl,rfl,rfl,by decide +kernel,rfl,by decide +kernel,by decide +kernel⟩
theorem Nh (T:Txt K mg Ao Ac Ak Ax Ag):Cl P w K mg base 4 "with_instructions" ["instructions", "build"] (KY Ac Ag):=by
 refine T.M8.ok K5 (fun vs H Q E h=>?_) (fun f cdv A outer s H vs Q E hr h=>?_)
 ·obtain ⟨t,r,u,v,rfl,_⟩:=h
  rfl
 ·obtain ⟨t,r,u,v,rfl,⟨y,dy,rfl,hy⟩,hv,k⟩:=h
  refine ⟨_,(Ad (Bj (PW.pt (Eu (Bd S9 (Az (pv 1) rfl) Aq (Bg _)) (Fi (Cg (Dk (Az (pv 0) rfl)))))) (Af (Am (pv 1))) Ar) (Af (Am (Bm (RT T) hr rfl (Aa (Cp T.JD rfl) (Ae)))))),?_⟩
  have hv0:=hv
  cases r with
  | no z =>
   obtain ⟨hz,x,dx,o,u,rfl,hx⟩:=hv
   refine ⟨_,rfl,x,Ag,dx,_,_,rfl,hx,T.Cu,T.Cd,rfl,_,_,rfl,rfl,_,rfl,ifT (by simp; omega) ?_⟩
   exact ⟨_,rfl,k _ _ (Ai.refl _) hv0⟩
  | yes q d =>
   obtain ⟨x,dx,o,u,O,U,rfl,hx,ho,hu,hO,hU,h256,hf⟩:=hv
   refine ⟨_,rfl,x,Ag,dx,_,_,rfl,hx,T.Cu,T.Cd,rfl,_,_,rfl,rfl,_,rfl,ifF (by simp) ?_⟩
   unfold R3 at k
   dsimp only at k
   cases er:Br.readP t with
   | ok l =>
    rw [er] at hy k
    obtain ⟨p,qs,hy,_⟩:=hy
    exact ⟨_,rfl,y,Ac,dy,_,_,rfl,hy,T.Ek,T.Ey,rfl,_,rfl,Dm ⟨_,rfl,k _ _ (Ai.refl _) hv0⟩⟩
   | error i =>
    rw [er] at hy k
    obtain ⟨p,hy⟩:=hy
    exact ⟨_,rfl,y,Ac,dy,_,_,rfl,hy,T.Ek,T.Ey,rfl,_,rfl,Ej ⟨-10,rfl,aik k 10 (by decide) rfl (Ai.refl _)⟩⟩
def Q3:Sp:=fun vs H Q _=>∃ n:Nat,vs=[.int (n:Int)]/\Out H Q (fun v _=>v = .bl (decide (1 <= n/\n <= 256)))
theorem Rf:Av ["K"] ["K"] (Al Kc):=⟨rfl,rfl,rfl,by decide +kernel,rfl,by decide +kernel,by decide +kernel⟩
theorem Uv (T:Txt K mg Ao Ac Ak Ax Ag):Cl P w K mg base 1 "is_page_bound" ["K"] Q3:=by
 refine T.Uk.ok Rf (fun vs H Q E h=>?_) (fun f cdv A outer s H vs Q E hr h=>?_)
 ·obtain ⟨n,rfl,_⟩:=h
  rfl
 ·obtain ⟨n,rfl,k⟩:=h
  refine ⟨_,Af (Am (VN Kg Kg Aq (pv 0) (Cp T.O5 rfl))),?_⟩
  refine ⟨_,rfl,_,_,rfl,rfl,_,rfl,?_⟩
  refine BJ (fun h0=>⟨_,_,rfl,rfl,k _ _ (Ai.refl _) ?_⟩) (fun h0=>k _ _ (Ai.refl _) ?_)
  ·have h0:(1:Int) <= (n:Int):=by simpa using h0
   refine congrArg V.bl (decide_eq_decide.mpr ?_)
   constructor
   ·intro z; omega
   ·intro z; omega
  ·have h0:¬ (1:Int) <= (n:Int):=by simpa using h0
   refine congrArg V.bl (decide_eq_false ?_).symm
   omega
def Vm (K:PySem.W.Frag):Sp:=fun vs H Q _=>∃ (a e g:Addr) (c b t:Bytes) (n:Nat),vs=[.int (n:Int),.ref a,.ref e,.ref g]/\SqL K H a (bV c)/\c.length <= 1000000/\SqL K H e (bV b)/\b.length <= 1000000/\SqL K H g (bV t)/\t.length <= 1000000 /\
 ∀ (H':Hp) (p:Addr),H' p=some (.lst (ajL (StepsNeutral.shown (BrD.answer (.right c b n t)))))->Q (.ref p) H'
theorem aaL:Av ["K", "c", "b", "t", "instructions", "build", "wrong"] ["K", "c", "b", "t"] (Al JK):=⟨rfl,rfl,rfl,by decide +kernel,rfl,by decide +kernel,by decide +kernel⟩
theorem abU.same {C:Addr} {t:Bytes} {v:V} {H H':Hp} (h:abU C t v H) (s:Ai H H'):abU C t v H':=by
 obtain ⟨x,dx,rfl,h⟩:=h
 refine ⟨x,dx,rfl,?_⟩
 cases e:Br.readP t with
 | error i =>
  rw [e] at h
  obtain ⟨p,h⟩:=h
  exact ⟨p,s _ _ h⟩
 | ok l =>
  rw [e] at h
  obtain ⟨p,qs,h1,h2,h3,h4⟩:=h
  exact ⟨p,qs,s _ _ h1,s _ _ h2,FW h3 fun _ _ _ z=>s _ _ z,h4⟩
theorem afO (T:Txt K mg Ao Ac Ak Ax Ag) {f:Addr} {fd:FuncData} (F:Fun K "right" "right" JK f fd):QH P w K mg base CX0 7 f fd ["K", "c", "b", "t"] (Vm K):=by
 refine F.ok aaL (fun vs H Q E h=>?_) (fun cdv A outer s H vs Q E hr h=>?_)
 ·obtain ⟨a,e,g,c,b,t,n,rfl,_⟩:=h
  rfl
 ·obtain ⟨a,e,g,c,b,t,n,rfl,ha,hc,he,hb,hg,ht,k⟩:=h
  have nd:=aaL.nd
  refine ⟨_,(Ad (Bj (Gh (DP (Bm (Uv T) hr rfl (Aa (pv 0) (Ae))))) (Af (Am (Cq (Aa (Cp T.T5 rfl) (Ae))))) Ar) (Ad (Bj (Bd Ln (Bc Ay (by rfl) T.CJ PySem.boot_len (Aa (pv 3) (Ae))) (Cp T.HH rfl) (Bg _)) (Af (Am (Cq (Aa (Cp T.Vf rfl) (Ae))))) Ar) (Ad (Ba (i:=4) nd rfl (Or.inl rfl) (Bm (Nj T) hr rfl (Aa (pv 3) (Ae)))) (Ad (Ba (i:=5) nd rfl (Or.inl rfl) (Bm (Ni T) hr rfl (Aa (Bm (Nh T) hr rfl (Aa (pv 4) (Aa (Bm (aak T) hr rfl (Aa (pv 1) (Aa (pv 2) (Ae)))) (Ae)))) (Ae)))) (Ad (Bj (Bd S9 (Az (pv 5) rfl) Aq (Bg _)) (Af (Am (Cq (Aa (Az (pv 5) rfl) (Ae))))) Ar) (Ad (Ba (i:=6) nd rfl (Or.inl rfl) (Bm (Oz T) hr rfl (Aa (pv 0) (Aa (Az (pv 4) rfl) (Aa (Az (pv 5) rfl) (Ae)))))) (Ad (Bj (Cg (Dk (pv 6))) (Af (Am (Cq (Aa (Aq) (Ae))))) Ar) (Af (Am (BW acC (Cq (Aa (Aq) (Ae))) (pv 6))))))))))),?_⟩
  have ea:BrD.answer (.right c b n t)=if n < 1 \/ 256 < n then BrD.no 1 else if 65536 < t.length then BrD.no 2 else BrD.ofRight c b fun d=>match Br.readP t with
   | .error _=>BrD.no 10
   | .ok l=>BrD.built d (match d.pagesWrong n l with
    | some w=>.nums [1,w.1,w.2.1,w.2.2]
    | none=>.nums [0]):=rfl
  rw [ea] at k
  have one:(1:Nat) <= sizeLine:=by decide
  refine ⟨_,rfl,n,rfl,fun v0 H0 s0 e0=>⟨_,e0,?_⟩⟩
  refine BJ (fun h0=>?_) (fun h0=>?_)
  ·have h0:n < 1 \/ 256 < n:=by
    have h0:n=0 \/ 256 < n:=by simpa using h0
    omega
   rw [if_pos h0] at k
   exact ⟨one,fun p hp=>k _ _ Ab⟩
  have h0:¬ (n < 1 \/ 256 < n):=by
   have h0:¬ n=0/\n <= 256:=by simpa using h0
   omega
  rw [if_neg h0] at k
  refine ⟨_,rfl,g,_,rfl,.inl (s0.seq hg),_,_,rfl,rfl,_,rfl,?_⟩
  rw [FP]
  refine BJ (fun h1=>?_) (fun h1=>?_)
  ·have h1:65536 < t.length:=by
    have h1:(65536:Int) < (t.length:Int):=by simpa using h1
    omega
   rw [if_pos h1] at k
   exact ⟨one,fun p hp=>k _ _ Ab⟩
  have h1:¬ 65536 < t.length:=by
   have h1:¬ (65536:Int) < (t.length:Int):=by simpa using h1
   omega
  rw [if_neg h1,afa hc] at k
  refine ⟨_,rfl,g,t,rfl,s0.seq hg,ht,fun v1 H1 s1 hi1=>?_⟩
  have s01:=s0.trans s1
  refine ⟨_,rfl,_,rfl,_,rfl,a,e,c,b,rfl,s01.seq ha,hc,s01.seq he,hb,fun v2 H2 s2 hv2=>?_⟩
  refine ⟨t,rdg c b,v1,v2,rfl,hi1.same s2,hv2,fun v3 H3 s3 hv3=>⟨_,v3,rfl,hv3,fun v4 H4 s4 hv4=>?_⟩⟩
  have hi4:=hi1.same (s2.trans (s3.trans s4))
  have ek:ada (rdg c b) (fun q d=>match Br.readP t with
   | .error _=>BrD.no 10
   | .ok l=>BrD.built (tower q d) (match (tower q d).pagesWrong n l with
    | some w=>.nums [1,w.1,w.2.1,w.2.2]
    | none=>.nums [0]))=ada (R9 (R3 t (rdg c b))) fun q d=>match Br.readP t with
   | .error _=>BrD.no 10
   | .ok l=>match (tower q d).pagesWrong n l with
    | some w=>.nums [1,w.1,w.2.1,w.2.2]
    | none=>.nums [0]:=by
   cases er:Br.readP t with
   | ok l =>
    have ew:R3 t (rdg c b)=rdg c b:=by
     unfold R3
     rw [er]
     cases rdg c b <;> rfl
    rw [ew]
    dsimp only
    rw [afb]
   | error i =>
    unfold R3
    rw [er]
    cases rdg c b <;> rfl
  rw [ek] at k
  cases er:R9 (R3 t (rdg c b)) with
  | no z =>
   rw [er] at hv4 k
   obtain ⟨hz,x,dx,o,u,rfl,hx⟩:=hv4
   refine ⟨_,rfl,x,Ag,dx,_,_,rfl,hx,T.Cu,T.Cd,rfl,_,_,rfl,rfl,_,rfl,ifT (by simp; omega) ?_⟩
   refine ⟨_,rfl,x,Ag,dx,_,_,rfl,hx,T.Cu,T.Cd,rfl,one,fun p hp=>?_⟩
   exact k _ _ Ab
  | yes q d =>
   rw [er] at hv4 k
   obtain ⟨x,dx,ow,u,O,U,rfl,hx,how,hu,hO,hU,h256,hf⟩:=hv4
   refine ⟨_,rfl,x,Ag,dx,_,_,rfl,hx,T.Cu,T.Cd,rfl,_,_,rfl,rfl,_,rfl,ifF (by simp) ?_⟩
   have ew:=(aee er).1
   have hok:∃ l,Br.readP t = .ok l:=by
    cases ep:Br.readP t with
    | ok l=>exact ⟨l,rfl⟩
    | error i =>
     unfold R3 at ew
     rw [ep] at ew
     cases ez:rdg c b with
     | no z=>rw [ez] at ew; cases ew
     | yes q' d'=>rw [ez] at ew; cases ew
   obtain ⟨l,el⟩:=hok
   obtain ⟨y,dy,rfl,hy⟩:=hi4
   rw [el] at hy k
   obtain ⟨p,qs,hy,hp,hq,hl,hs⟩:=hy
   unfold ada at k
   dsimp only at k
   refine ⟨_,rfl,_,rfl,y,Ac,dy,_,_,rfl,hy,T.Ek,T.Ha,rfl,_,rfl,x,Ag,dx,_,_,rfl,hx,T.Cu,T.Fw,rfl,n,p,u,qs,l,U,q,d,rfl,hp,hq,hu,hU,h256,hl,fun g hg i hi=>(hs g hg).2 i hi,fun v5 H5 s5 hv5=>?_⟩
   cases ew:(tower q d).pagesWrong n l with
   | none =>
    rw [ew] at k hv5
    have hv5:v5 = .non:=hv5
    subst hv5
    exact ⟨_,rfl,_,rfl,Dm ⟨one,fun p hp=>k _ _ Ab⟩⟩
   | some w =>
    rw [ew] at k hv5
    obtain ⟨r,rfl,hr5⟩:=hv5
    refine ⟨_,rfl,_,rfl,Ej ⟨one,fun p hp=>⟨_,rfl,p,r,_,_,rfl,rfl,Ab,Ai.new hp _ _ hr5,(by show 1 + 3 <= sizeLine; decide),fun p2 hp2=>k _ _ Ab⟩⟩⟩
end
theorem U8:∀ {ns:List Int},ns.all (PySem.W.Codec.inInt 0 255)=true->bV (StepsNeutral.text ns)=ns.map V.int
 | [],_=>rfl
 | n :: ns,h=>by
  rw [List.all_cons,Bool.and_eq_true] at h
  have h1:=PySem.W.Codec.inInt_iff.mp h.1
  have ih:=U8 h.2
  unfold bV StepsNeutral.text at ih ⊢
  rw [List.map_cons,List.map_cons,List.map_cons,ih]
  congr 2
  rw [UInt8.toNat_ofNat']
  omega
theorem Gs {K:PySem.W.Frag} {C:Addr} {f:Str} (h:PySem.W.findIn K (.ref C) f=some none):CT K C f:=h
section
variable {P:Program} {w:World} {K:PySem.W.Frag} {h:Heap} {mg:Str->Option Value} (X:K.In h) (G:h.Ns mainGlobals mg) {x qual:Str} {st:Stmt} {ps:List Str} {f C:Addr} {oc:Value} {od an:Option Addr} {sl:Array (Option Value)} {kV dc pm cd ct:Value}
include X G
theorem Bx (a:PySem.W.nsIn K mainGlobals x=some (some (.ref f))) (l:K.lookup f=some ⟨oc,od,.func (PySem.W.fnOf x x (Hm st) (Fv st) (Al st) .none kV dc pm an cd ct),sl⟩) (c:PySem.W.codeIn K cd x=true) (k:PySem.W.keepIn K (.ref f)=true)
  (b:∀ (kV doc pm:Value) (an:Option Addr) (cdv ct:Value) (us:List Value),us.length=ps.length->bindArgs (PySem.W.fnOf x x (Hm st) (Fv st) (Al st) .none kV doc pm an cdv ct) ⟨us,[]⟩=pure (ps.zip us)):Dn K mg x st ps :=
 ⟨f,_,Wr l c k,PySem.W.mg_of X G a,(Wr l c k).binds b⟩
theorem abp (aC:PySem.W.nsIn K mainGlobals x=some (some (.ref C))) (a:PySem.W.findIn K (.ref C) "__init__" = some (some (.ref f))) (i:PySem.W.isFn K (.ref f)=true) (l:K.lookup f=some ⟨oc,od,.func (PySem.W.fnOf "__init__" qual (Hm st) (Fv st) (Al st) .none kV dc pm an cd ct),sl⟩) (c:PySem.W.codeIn K cd qual=true) (k:PySem.W.keepIn K (.ref f)=true)
  (mk:PySem.W.makesIn K C=true) (kc:PySem.W.keepIn K (.ref C)=true)
  (b:∀ (kV doc pm:Value) (an:Option Addr) (cdv ct:Value) (us:List Value),us.length=ps.length->bindArgs (PySem.W.fnOf "__init__" qual (Hm st) (Fv st) (Al st) .none kV doc pm an cdv ct) ⟨us,[]⟩=pure (ps.zip us)):DnC K mg x qual C st ps :=
 ⟨f,_,⟨mk,a,i,kc⟩,Wr l c k,PySem.W.mg_of X G aC,(Wr l c k).binds b⟩
theorem Ce {v:Int} {t:Tok} (h:PySem.W.nsIn K mainGlobals x=some (some (.int v t))):∃ t,mg x=some (.int v t):=⟨t,PySem.W.mg_of X G h⟩
theorem ajj {v:Str} {t:Tok} (h:PySem.W.nsIn K mainGlobals x=some (some (.str v t))):∃ t,mg x=some (.str v t):=⟨t,PySem.W.mg_of X G h⟩
theorem all_mk {fa Ao Ac Ak Ax Ag:Addr} (hfa:mg "right" = some (.ref fa)) (T:Txt K mg Ao Ac Ak Ax Ag) (a:PySem.W.nsIn K mainGlobals "right" = some (some (.ref f))) (l:K.lookup f=some ⟨oc,od,.func (PySem.W.fnOf "right" "right" (Hm JK) (Fv JK) (Al JK) .none kV dc pm an cd ct),sl⟩) (c:PySem.W.codeIn K cd "right" = true) (k:PySem.W.keepIn K (.ref f)=true) :
  ∃ fd:FuncData,(∀ (s:Shared) (us:List Value),us.length=(["K", "c", "b", "t"]:List Str).length->BindsTo s fd ⟨us,[]⟩ ((["K", "c", "b", "t"]:List Str).zip us))/\∀ base:Heap,K.In base->base.Ns mainGlobals mg->QH P w K mg base CX0 7 fa fd ["K", "c", "b", "t"] (Vm K):=by
 have e:=hfa.symm.trans (PySem.W.mg_of X G a)
 cases e
 exact ⟨_,fun s us hu=>match us,hu with | [_,_,_,_],_=>.of_eq rfl,fun base _ _=>afO T (Wr (st:=JK) l c k)⟩
end
end Py
def PySem.W.Fast.tw5689367143958281667:=0
def PySem.W.Fast.tw7209563613712019177:=0
def PySem.W.Fast.tw11225271132318558206:=0
def PySem.W.Fast.tw11925818336411923058:=0
def PySem.W.Fast.tw2729301099649581817:=0
def PySem.W.Fast.tw13965937756960946900:=0
def PySem.W.Fast.tw10098706584849023451:=0
def PySem.W.Fast.tw16645637410783552067:=0
def PySem.W.Fast.tw8075175064593589749:=0
def PySem.W.Fast.tw10842903422892227593:=0
def PySem.W.Fast.tw7222414859645400434:=0
def PySem.W.Fast.tw13204586424050732922:=0
def PySem.W.Fast.tw17638556846364966080:=0
def PySem.W.Fast.tw10004711127001131621:=0
def PySem.W.Fast.tw3192399159418201793:=0
def PySem.W.Fast.tw17821147982805470741:=0
def PySem.W.Fast.tw13360355970386131112:=0
def PySem.W.Fast.tw12510588623624746352:=0
def PySem.W.Fast.tw9512124140886327310:=0
def PySem.W.Fast.tw11681395106162300951:=0
def PySem.W.Fast.tw732700634346559847:=0
def PySem.W.Fast.tw13175637327627006933:=0
def PySem.W.Fast.tw16737167337083784800:=0
def PySem.W.Fast.tw16752430895358113442:=0
def PySem.W.Fast.tw11874631029002953932:=0
def PySem.W.Fast.tw15206272263846792218:=0
def PySem.W.Fast.tw2914544320567586537:=0
def PySem.W.Fast.tw16439174102454773779:=0
def PySem.W.Fast.tw10676318214956237951:=0
def PySem.W.Fast.tw13271503456750098719:=0
def PySem.W.Fast.tw15755796376195052820:=0
def PySem.W.Fast.tw13394582147296946694:=0
def PySem.W.Fast.tw2995491131288940829:=0
def PySem.W.Fast.tw12636266360068657998:=0
def PySem.W.Fast.tw14855723628463678853:=0
def PySem.W.Fast.tw1950517908245224647:=0
def PySem.W.Fast.tw17289169025365334903:=0
def PySem.W.Fast.tw17624222798802933555:=0
def PySem.W.Fast.tw17346900702321292400:=0
def PySem.W.Fast.tw9417013799355782986:=0
def PySem.W.Fast.tw10988647824588916276:=0
def PySem.W.Fast.tw12430406973630265020:=0
def PySem.W.Fast.tw4186716939134625718:=0
def PySem.W.Fast.tw17981065404369290796:=0
def PySem.W.Fast.tw7475279821958832848:=0
def PySem.W.Fast.tw11721631358551152948:=0
def PySem.W.Fast.tw15891759784624400301:=0
def PySem.W.Fast.tw13050439882415239083:=0
def PySem.W.Fast.tw17175958412742059418:=0
def PySem.W.Fast.tw16611014741291479879:=0
def PySem.W.Fast.tw9865380843737079227:=0
def PySem.W.Fast.tw134121960295987929:=0
def PySem.W.Fast.tw9705578988953110832:=0
def PySem.W.Fast.tw5265327480127753673:=0
def PySem.W.Fast.tw441622977253847250:=0
def PySem.W.Fast.tw5422285436042071751:=0
def PySem.W.Fast.tw9295744072093512362:=0
def PySem.W.Fast.tw9053952711818606140:=0
def PySem.W.Fast.tw17120024873810506690:=0
def PySem.W.Fast.tw3016363929163798623:=0
def PySem.W.Fast.tw11180338387755269990:=0
def PySem.W.Fast.tw181255814625418482:=0
def PySem.W.Fast.tw5958105364050807040:=0
def PySem.W.Fast.tw8977689086702687305:=0
def PySem.W.Fast.tw16939486802289262237:=0
def PySem.W.Fast.tw15162605381897566855:=0
def PySem.W.Fast.tw17744868764494559544:=0
def PySem.W.Fast.tw16740686309481313930:=0
def PySem.W.Fast.tw1138275551596571296:=0
def PySem.W.Fast.tw3038372168874872357:=0
def PySem.W.Fast.tw10987919693204906405:=0
def PySem.W.Fast.tw3769874440615448014:=0
def PySem.W.Fast.tw3536655495293074948:=0
def PySem.W.Fast.tw1302004067401365606:=0
def PySem.W.Fast.tw1194264765543367207:=0
def PySem.W.Fast.tw17642556220755311792:=0
def PySem.W.Fast.tw8344280252319794228:=0
def PySem.W.Fast.tw3508779042371686526:=0
def PySem.W.Fast.tw5647236471117053622:=0
def PySem.W.Fast.tw11916825240520625676:=0
def PySem.W.Fast.tw16372263643279790051:=0
def PySem.W.Fast.tw9321533098621279916:=0
def PySem.W.Fast.tw11596367828466317071:=0
def PySem.W.Fast.tw17018243212741635117:=0
def PySem.W.Fast.tw9484163899311735187:=0
def PySem.W.Fast.tw6516677998356913641:=0
def PySem.W.Fast.tw5545172096598526524:=0
def PySem.W.Fast.tw4027167725622839073:=0
def PySem.W.Fast.tw7819566647498521660:=0
def PySem.W.Fast.tw5490021246757247548:=0
def PySem.W.Fast.tw4244659299777739682:=0
def PySem.W.Fast.tw7286517326627859832:=0
def PySem.W.Fast.tw12053238146815460351:=0
def PySem.W.Fast.tw11692901296177567711:=0
def PySem.W.Fast.tw6970144760278786244:=0
def PySem.W.Fast.tw17384360327039541943:=0
def PySem.W.Fast.tw17217275084981181521:=0
def PySem.W.Fast.tw13494103475534878205:=0
def PySem.W.Fast.tw8387363488327609866:=0
def PySem.W.Fast.tw1176266010319790529:=0
def PySem.W.Fast.tw16018909303948816592:=0
def PySem.W.Fast.tw17368024800429466857:=0
def PySem.W.Fast.tw12377697481023444559:=0
def PySem.W.Fast.tw17047182069494325405:=0
def PySem.W.Fast.tw10957829280373849070:=0
def PySem.W.Fast.tw17085863359834898737:=0
def PySem.W.Fast.tw17033923881402834593:=0
def PySem.W.Fast.tw7319535778038962887:=0
def PySem.W.Fast.tw8138241721751541036:=0
def PySem.W.Fast.tw3650800191248561476:=0
def PySem.W.Fast.tw1493512017907402566:=0
def PySem.W.Fast.tw7192899876806264934:=0
def PySem.W.Fast.tw3575121180940058474:=0
def PySem.W.Fast.tw488657412805168793:=0
def PySem.W.Fast.tw6994315444979912660:=0
def PySem.W.Fast.tw13449149367989845374:=0
def PySem.W.Fast.tw10173234483949996562:=0
def PySem.W.Fast.tw6916524330760372407:=0
def PySem.W.Fast.tw10841511978316682119:=0
def PySem.W.Fast.tw5751823906557790471:=0
def PySem.W.Fast.tw3407312124900701189:=0
def PySem.W.Fast.tw6446841983864449289:=0
def PySem.W.Fast.tw6677770560111869402:=0
def PySem.W.Fast.tw16293031614236047782:=0
def PySem.W.Fast.tw16307037908824158103:=0
def PySem.W.Fast.tw10397303958708616696:=0
def PySem.W.Fast.tw18338763401578091272:=0
def PySem.W.Fast.tw845593294147321922:=0
def PySem.W.Fast.tw5384033307897162081:=0
def PySem.W.Fast.tw6943133645241097030:=0
def PySem.W.Fast.tw17981882674971271724:=0
def PySem.W.Fast.tw12254426720857881750:=0
def PySem.W.Fast.tw11844491557951113841:=0
def PySem.W.Fast.tw10764103387505065022:=0
def PySem.W.Fast.tw9086295210771707354:=0
def PySem.W.Fast.tw1647229214199757072:=0
def PySem.W.Fast.tw6379793646811866056:=0
def PySem.W.Fast.tw4647708793739626313:=0
def PySem.W.Fast.tw3646199977421871263:=0
def PySem.W.Fast.tw195024929236649308:=0
def PySem.W.Fast.tw2748377919577853082:=0
def PySem.W.Fast.tw5628322551136269463:=0
def PySem.W.Fast.tw10349271608116753559:=0
def PySem.W.Fast.tw9499692328714848825:=0
def PySem.W.Fast.tw3940335133036237001:=0
def PySem.W.Fast.tw8415050059817287139:=0
def PySem.W.Fast.tw8069569286328723379:=0
def PySem.W.Fast.tw12023529412585763879:=0
def PySem.W.Fast.tw15091090981008087839:=0
def PySem.W.Fast.tw14012410705027185297:=0
def PySem.W.Fast.tw2772682778352215540:=0
def PySem.W.Fast.tw10072870006881122090:=0
def PySem.W.Fast.tw8679881805229015026:=0
def PySem.W.Fast.tw17163042119909089478:=0
def PySem.W.Fast.tw16674523578005585731:=0
def PySem.W.Fast.tw6289044330191486603:=0
def PySem.W.Fast.tw978647239935031460:=0
def PySem.W.Fast.tw17653781573588317670:=0
def PySem.W.Fast.tw11280344448134084677:=0
def PySem.W.Fast.tw4314219414003205966:=0
def PySem.W.Fast.tw10659130040158387089:=0
def PySem.W.Fast.tw12779117194690861857:=0
def PySem.W.Fast.tw14112355843668815413:=0
def PySem.W.Fast.tw13437796861809900319:=0
def PySem.W.Fast.tw849588332463223744:=0
def PySem.W.Fast.tw563233732673283564:=0
def PySem.W.Fast.tw9947038494108749799:=0
def PySem.W.Fast.tw6222156739073072082:=0
def PySem.W.Fast.tw5505148743105561964:=0
def PySem.W.Fast.tw13040766348416934161:=0
def PySem.W.Fast.tw10225838005575372436:=0
def PySem.W.Fast.tw6236019464903299097:=0
def PySem.W.Fast.tw15539589628235048480:=0
def PySem.W.Fast.tw7560138223964055374:=0
def PySem.W.Fast.tw8293293796757498810:=0
def PySem.W.Fast.tw2061830821261073055:=0
def PySem.W.Fast.tw7092756872404109229:=0
def PySem.W.Fast.tw3859403811142329133:=0
def PySem.W.Fast.tw27093783887232527:=0
def PySem.W.Fast.tw4309326978007317496:=0
def PySem.W.Fast.tw5434714833745430625:=0
def PySem.W.Fast.tw2718851359234356043:=0
def PySem.W.Fast.tw1892604207360825877:=0
def PySem.W.Fast.tw10435596896509701057:=0
def PySem.W.Fast.tw8330850018547761147:=0
def PySem.W.Fast.tw2858857821327315951:=0
def PySem.W.Fast.tw8843541042687227960:=0
def PySem.W.Fast.tw11804866239647190893:=0
def PySem.W.Fast.tw11988642915959743140:=0
def PySem.W.Fast.tw547314135186914458:=0
def PySem.W.Fast.tw8986573892742025645:=0
def PySem.W.Fast.tw17355155200012653055:=0
def PySem.W.Fast.tw15193433181050162729:=0
def PySem.W.Fast.tw11118416745364053601:=0
def PySem.W.Fast.tw14149768366167775776:=0
def PySem.W.Fast.tw10046672226909621341:=0
def PySem.W.Fast.tw10443873547104490046:=0
def PySem.W.Fast.tw306170581797483224:=0
def PySem.W.Fast.tw9028727688947209544:=0
def PySem.W.Fast.tw14802433415709256785:=0
def PySem.W.Fast.tw620035129527352173:=0
def PySem.W.Fast.tw14751625987153816614:=0
def PySem.W.Fast.tw16253679174260372140:=0
def PySem.W.Fast.tw7047168915109043061:=0
def PySem.W.Fast.tw3083144229945114016:=0
def PySem.W.Fast.tw17833601288335498728:=0
def PySem.W.Fast.tw1915421073962204497:=0
def PySem.W.Fast.tw3622357268997187788:=0
def PySem.W.Fast.tw18162691087661675057:=0
def PySem.W.Fast.tw17257970876651377643:=0
def PySem.W.Fast.tw635796944992942061:=0
def PySem.W.Fast.tw11078301445244098327:=0
def PySem.W.Fast.tw7082221138221661379:=0
def PySem.W.Fast.tw13794282314776298039:=0
def PySem.W.Fast.tw1301324938653096418:=0
def PySem.W.Fast.tw9889969021870649328:=0
def PySem.W.Fast.tw16116882090587501357:=0
def PySem.W.Fast.tw4540056381594854444:=0
def PySem.W.Fast.tw16080344735604017515:=0
def PySem.W.Fast.tw13056184476124871179:=0
def PySem.W.Fast.tw13824445270089924103:=0
def PySem.W.Fast.tw4182485463266744041:=0
def PySem.W.Fast.tw3376013105635584450:=0
def PySem.W.Fast.tw18101144571500950131:=0
def PySem.W.Fast.tw3909265644713853664:=0
def PySem.W.Fast.tw9555635070334416974:=0
def PySem.W.Fast.tw7356257758301220535:=0
def PySem.W.Fast.tw1322983277179414462:=0
def PySem.W.Fast.tw13791634552912729761:=0
def PySem.W.Fast.tw14045903456895342066:=0
def PySem.W.Fast.tw1818808295623203416:=0
def PySem.W.Fast.tw11636014771499798497:=0
def PySem.W.Fast.tw4206520867473735723:=0
def PySem.W.Fast.tw5252986496627440600:=0
def PySem.W.Fast.tw982691524436891968:=0
def PySem.W.Fast.tw13738207724556601950:=0
def PySem.W.Fast.tw9406264672573364304:=0
def PySem.W.Fast.tw4190262464053166995:=0
def PySem.W.Fast.tw13473898321249396649:=0
def PySem.W.Fast.tw1455668062639123291:=0
def PySem.W.Fast.tw9697367999389516828:=0
def PySem.W.Fast.tw9928470916152000803:=0
def PySem.W.Fast.tw11545439181272216348:=0
def PySem.W.Fast.tw561411717543515213:=0
def PySem.W.Fast.tw8035682490573586372:=0
def PySem.W.Fast.tw11421246458900774735:=0
def PySem.W.Fast.tw15103883808088187832:=0
def PySem.W.Fast.tw7351119809594542771:=0
def PySem.W.Fast.tw16442277575354135965:=0
def PySem.W.Fast.tw6616529315802951113:=0
def PySem.W.Fast.tw5092028312835531245:=0
def PySem.W.Fast.tw8903473546226968894:=0
def PySem.W.Fast.tw5397783838958925813:=0
def PySem.W.Fast.tw4929023557366468379:=0
def PySem.W.Fast.tw3642568097725006275:=0
def PySem.W.Fast.tw6631747446733881997:=0
def PySem.W.Fast.tw5990665766275293898:=0
def PySem.W.Fast.tw16582833137873475109:=0
def PySem.W.Fast.tw1073994389786651586:=0
def PySem.W.Fast.tw14809575295641494625:=0
def PySem.W.Fast.tw8897931846026242818:=0
def PySem.W.Fast.tw3666334333459499595:=0
def PySem.W.Fast.tw1771859566470930779:=0
def PySem.W.Fast.tw11490812379375767332:=0
def PySem.W.Fast.tw15843576996596002025:=0
def PySem.W.Fast.tw2256216511741103945:=0
def PySem.W.Fast.tw7318614966825645200:=0
def PySem.W.Fast.tw13941003053135693276:=0
def PySem.W.Fast.tw1253464611413847486:=0
def PySem.W.Fast.tw2418230853782970410:=0
def PySem.W.Fast.tw16780257545239468274:=0
def PySem.W.Fast.tw15323946997352054739:=0
def PySem.W.Fast.tw6345982280093947191:=0
def PySem.W.Fast.tw5141390876850080068:=0
def PySem.W.Fast.tw14092064040940420358:=0
def PySem.W.Fast.tw13414079464957314291:=0
def PySem.W.Fast.tw13947498267842510428:=0
def PySem.W.Fast.tw17001453342216194248:=0
def PySem.W.Fast.tw8846208528958497244:=0
def PySem.W.Fast.tw904560855961896347:=0
def PySem.W.Fast.tw12372283695245582666:=0
def PySem.W.Fast.tw16955548125271930053:=0
def PySem.W.Fast.tw8725513648163256046:=0
def PySem.W.Fast.tw14157803784146316890:=0
def PySem.W.Fast.tw5951832008586142593:=0
def PySem.W.Fast.tw6478180234429869447:=0
def PySem.W.Fast.tw4014905453533187568:=0
def PySem.W.Fast.tw3712834813173877201:=0
def PySem.W.Fast.tw12868592820668803359:=0
def PySem.W.Fast.tw10805839763013051443:=0
def PySem.W.Fast.tw8428327875175620825:=0
def PySem.W.Fast.tw15186966467437730323:=0
def PySem.W.Fast.tw2192364871949134785:=0
def PySem.W.Fast.tw3545834296785120335:=0
def PySem.W.Fast.tw14805931342736760019:=0
def PySem.W.Fast.tw16091092996006691411:=0
def PySem.W.Fast.tw1592700271564207635:=0
def PySem.W.Fast.tw14294064676861258082:=0
def PySem.W.Fast.tw3097369576874860313:=0
def PySem.W.Fast.tw1063182681279748898:=0
def PySem.W.Fast.tw6546632015955104576:=0
def PySem.W.Fast.tw3923586353660933485:=0
def PySem.W.Fast.tw2624409764717205682:=0
def PySem.W.Fast.tw1214307377856183633:=0
def PySem.W.Fast.tw11274459572435103617:=0
def PySem.W.Fast.tw7976716859109839072:=0
def PySem.W.Fast.tw14211524273687369026:=0
def PySem.W.Fast.tw2306247141595660644:=0
def PySem.W.Fast.tw2520028669589767513:=0
def PySem.W.Fast.tw1474114945261753351:=0
def PySem.W.Fast.tw2523009220598529425:=0
def PySem.W.Fast.tw7924874602295203877:=0
def PySem.W.Fast.tw7728731526911134226:=0
open PySem PySem.W PyProof.Rows
set_option maxHeartbeats 0 in
theorem PySem.Challenge.cw_laystones_s09_right_holds : PySem.Challenge.rw_laystones_s09_right.Holds := by
 w_on; k_headS; (case hw=>exact ⟨[.int 0,.list [],.list [],.list []],by decide +kernel,by decide +kernel⟩)
 k_fillS
 refine L2.ab2 (r:=PySem.Challenge.rw_laystones_s09_right) (k:=7) (CX:=L2.CX0) (ps:=["K", "c", "b", "t"]) (sp:=Py.Vm) (by decide +kernel) rfl rfl ⟨rfl,by decide,by decide⟩ (fun w h Y=>PySem.W.kIn_of Y) ?F ?S (fun _ _ _ _ z=>z)
 case F =>
  intro w mg fa h Y KX G hmg
  refine' Py.all_mk KX G hmg ⟨Py.abp KX G ?h1 ?h2 ?h3 ?h4 ?h5 ?h6 ?h7 ?h8 (fun _ _ _ _ _ _ us hl=>match us,hl with | [_,_,_,_,_,_],_=>rfl),
   ⟨?h9,?h10,?h11,?h12⟩,
   Py.Gs ?h13,
   Py.Gs ?h14,
   Py.Gs ?h15,
   Py.Gs ?h16,
   Py.Gs ?h17,
   Py.abp KX G ?h18 ?h19 ?h20 ?h21 ?h22 ?h23 ?h24 ?h25 (fun _ _ _ _ _ _ us hl=>match us,hl with | [_,_,_],_=>rfl),
   ⟨?h26,?h27,?h28,?h29⟩,
   Py.Gs ?h30,
   Py.Gs ?h31,
   Py.abp KX G ?h32 ?h33 ?h34 ?h35 ?h36 ?h37 ?h38 ?h39 (fun _ _ _ _ _ _ us hl=>match us,hl with | [_],_=>rfl),
   ⟨?h40,?h41,?h42,?h43⟩,
   Py.Gs ?h44,
   Py.Gs ?h45,
   Py.Gs ?h46,
   Py.Gs ?h47,
   Py.abp KX G ?h48 ?h49 ?h50 ?h51 ?h52 ?h53 ?h54 ?h55 (fun _ _ _ _ _ _ us hl=>match us,hl with | [_,_,_,_,_,_],_=>rfl),
   ⟨?h56,?h57,?h58,?h59⟩,
   Py.Gs ?h60,
   Py.Gs ?h61,
   Py.Gs ?h62,
   Py.Gs ?h63,
   Py.Gs ?h64,
   Py.abp KX G ?h65 ?h66 ?h67 ?h68 ?h69 ?h70 ?h71 ?h72 (fun _ _ _ _ _ _ us hl=>match us,hl with | [_,_,_,_],_=>rfl),
   ⟨?h73,?h74,?h75,?h76⟩,
   Py.Gs ?h77,
   Py.Gs ?h78,
   Py.Gs ?h79,
   Py.Bx KX G ?h80 ?h81 ?h82 ?h83 (fun _ _ _ _ _ _ us hl=>match us,hl with | [_],_=>rfl),
   Py.Bx KX G ?h84 ?h85 ?h86 ?h87 (fun _ _ _ _ _ _ us hl=>match us,hl with | [_],_=>rfl),
   Py.Bx KX G ?h88 ?h89 ?h90 ?h91 (fun _ _ _ _ _ _ us hl=>match us,hl with | [_],_=>rfl),
   Py.Bx KX G ?h92 ?h93 ?h94 ?h95 (fun _ _ _ _ _ _ us hl=>match us,hl with | [_,_,_,_],_=>rfl),
   Py.Bx KX G ?h96 ?h97 ?h98 ?h99 (fun _ _ _ _ _ _ us hl=>match us,hl with | [_],_=>rfl),
   Py.Bx KX G ?h100 ?h101 ?h102 ?h103 (fun _ _ _ _ _ _ us hl=>match us,hl with | [_],_=>rfl),
   Py.Bx KX G ?h104 ?h105 ?h106 ?h107 (fun _ _ _ _ _ _ us hl=>match us,hl with | [_],_=>rfl),
   Py.Bx KX G ?h108 ?h109 ?h110 ?h111 (fun _ _ _ _ _ _ us hl=>match us,hl with | [_],_=>rfl),
   Py.Bx KX G ?h112 ?h113 ?h114 ?h115 (fun _ _ _ _ _ _ us hl=>match us,hl with | [_],_=>rfl),
   Py.Bx KX G ?h116 ?h117 ?h118 ?h119 (fun _ _ _ _ _ _ us hl=>match us,hl with | [_],_=>rfl),
   Py.Bx KX G ?h120 ?h121 ?h122 ?h123 (fun _ _ _ _ _ _ us hl=>match us,hl with | [_],_=>rfl),
   Py.Bx KX G ?h124 ?h125 ?h126 ?h127 (fun _ _ _ _ _ _ us hl=>match us,hl with | [_],_=>rfl),
   Py.Bx KX G ?h128 ?h129 ?h130 ?h131 (fun _ _ _ _ _ _ us hl=>match us,hl with | [_],_=>rfl),
   Py.Bx KX G ?h132 ?h133 ?h134 ?h135 (fun _ _ _ _ _ _ us hl=>match us,hl with | [_,_],_=>rfl),
   Py.Bx KX G ?h136 ?h137 ?h138 ?h139 (fun _ _ _ _ _ _ us hl=>match us,hl with | [_],_=>rfl),
   Py.Bx KX G ?h140 ?h141 ?h142 ?h143 (fun _ _ _ _ _ _ us hl=>match us,hl with | [_,_],_=>rfl),
   Py.Bx KX G ?h144 ?h145 ?h146 ?h147 (fun _ _ _ _ _ _ us hl=>match us,hl with | [_],_=>rfl),
   Py.Bx KX G ?h148 ?h149 ?h150 ?h151 (fun _ _ _ _ _ _ us hl=>match us,hl with | [_],_=>rfl),
   Py.Bx KX G ?h152 ?h153 ?h154 ?h155 (fun _ _ _ _ _ _ us hl=>match us,hl with | [_],_=>rfl),
   Py.Bx KX G ?h156 ?h157 ?h158 ?h159 (fun _ _ _ _ _ _ us hl=>match us,hl with | [_],_=>rfl),
   Py.Bx KX G ?h160 ?h161 ?h162 ?h163 (fun _ _ _ _ _ _ us hl=>match us,hl with | [_,_],_=>rfl),
   Py.Bx KX G ?h164 ?h165 ?h166 ?h167 (fun _ _ _ _ _ _ us hl=>match us,hl with | [_,_,_],_=>rfl),
   Py.Bx KX G ?h168 ?h169 ?h170 ?h171 (fun _ _ _ _ _ _ us hl=>match us,hl with | [_],_=>rfl),
   Py.Bx KX G ?h172 ?h173 ?h174 ?h175 (fun _ _ _ _ _ _ us hl=>match us,hl with | [_,_,_],_=>rfl),
   Py.Bx KX G ?h176 ?h177 ?h178 ?h179 (fun _ _ _ _ _ _ us hl=>match us,hl with | [_,_],_=>rfl),
   Py.Bx KX G ?h180 ?h181 ?h182 ?h183 (fun _ _ _ _ _ _ us hl=>match us,hl with | [_],_=>rfl),
   Py.Bx KX G ?h184 ?h185 ?h186 ?h187 (fun _ _ _ _ _ _ us hl=>match us,hl with | [_],_=>rfl),
   Py.Bx KX G ?h188 ?h189 ?h190 ?h191 (fun _ _ _ _ _ _ us hl=>match us,hl with | [_],_=>rfl),
   Py.Bx KX G ?h192 ?h193 ?h194 ?h195 (fun _ _ _ _ _ _ us hl=>match us,hl with | [_],_=>rfl),
   Py.Bx KX G ?h196 ?h197 ?h198 ?h199 (fun _ _ _ _ _ _ us hl=>match us,hl with | [_],_=>rfl),
   Py.Bx KX G ?h200 ?h201 ?h202 ?h203 (fun _ _ _ _ _ _ us hl=>match us,hl with | [_,_],_=>rfl),
   Py.Bx KX G ?h204 ?h205 ?h206 ?h207 (fun _ _ _ _ _ _ us hl=>match us,hl with | [_,_],_=>rfl),
   Py.Bx KX G ?h208 ?h209 ?h210 ?h211 (fun _ _ _ _ _ _ us hl=>match us,hl with | [_],_=>rfl),
   Py.Bx KX G ?h212 ?h213 ?h214 ?h215 (fun _ _ _ _ _ _ us hl=>match us,hl with | [_],_=>rfl),
   Py.Bx KX G ?h216 ?h217 ?h218 ?h219 (fun _ _ _ _ _ _ us hl=>match us,hl with | [_,_],_=>rfl),
   Py.Bx KX G ?h220 ?h221 ?h222 ?h223 (fun _ _ _ _ _ _ us hl=>match us,hl with | [_],_=>rfl),
   Py.Bx KX G ?h224 ?h225 ?h226 ?h227 (fun _ _ _ _ _ _ us hl=>match us,hl with | [_],_=>rfl),
   Py.Bx KX G ?h228 ?h229 ?h230 ?h231 (fun _ _ _ _ _ _ us hl=>match us,hl with | [_,_],_=>rfl),
   Py.Bx KX G ?h232 ?h233 ?h234 ?h235 (fun _ _ _ _ _ _ us hl=>match us,hl with | [_,_],_=>rfl),
   Py.Bx KX G ?h236 ?h237 ?h238 ?h239 (fun _ _ _ _ _ _ us hl=>match us,hl with | [_],_=>rfl),
   Py.Bx KX G ?h240 ?h241 ?h242 ?h243 (fun _ _ _ _ _ _ us hl=>match us,hl with | [_],_=>rfl),
   Py.Bx KX G ?h244 ?h245 ?h246 ?h247 (fun _ _ _ _ _ _ us hl=>match us,hl with | [_,_],_=>rfl),
   Py.Bx KX G ?h248 ?h249 ?h250 ?h251 (fun _ _ _ _ _ _ us hl=>match us,hl with | [_,_],_=>rfl),
   Py.Bx KX G ?h252 ?h253 ?h254 ?h255 (fun _ _ _ _ _ _ us hl=>match us,hl with | [_],_=>rfl),
   Py.Bx KX G ?h256 ?h257 ?h258 ?h259 (fun _ _ _ _ _ _ us hl=>match us,hl with | [_],_=>rfl),
   Py.Bx KX G ?h260 ?h261 ?h262 ?h263 (fun _ _ _ _ _ _ us hl=>match us,hl with | [_,_],_=>rfl),
   Py.Bx KX G ?h264 ?h265 ?h266 ?h267 (fun _ _ _ _ _ _ us hl=>match us,hl with | [_,_,_],_=>rfl),
   Py.Bx KX G ?h268 ?h269 ?h270 ?h271 (fun _ _ _ _ _ _ us hl=>match us,hl with | [_,_,_,_],_=>rfl),
   Py.Bx KX G ?h272 ?h273 ?h274 ?h275 (fun _ _ _ _ _ _ us hl=>match us,hl with | [_,_,_],_=>rfl),
   Py.Bx KX G ?h276 ?h277 ?h278 ?h279 (fun _ _ _ _ _ _ us hl=>match us,hl with | [_,_],_=>rfl),
   Py.Bx KX G ?h280 ?h281 ?h282 ?h283 (fun _ _ _ _ _ _ us hl=>match us,hl with | [_,_],_=>rfl),
   Py.Bx KX G ?h284 ?h285 ?h286 ?h287 (fun _ _ _ _ _ _ us hl=>match us,hl with | [_],_=>rfl),
   Py.Bx KX G ?h288 ?h289 ?h290 ?h291 (fun _ _ _ _ _ _ us hl=>match us,hl with | [_],_=>rfl),
   Py.Bx KX G ?h292 ?h293 ?h294 ?h295 (fun _ _ _ _ _ _ us hl=>match us,hl with | [_],_=>rfl),
   Py.Bx KX G ?h296 ?h297 ?h298 ?h299 (fun _ _ _ _ _ _ us hl=>match us,hl with | [_,_],_=>rfl),
   Py.Bx KX G ?h300 ?h301 ?h302 ?h303 (fun _ _ _ _ _ _ us hl=>match us,hl with | [_,_],_=>rfl),
   Py.Bx KX G ?h304 ?h305 ?h306 ?h307 (fun _ _ _ _ _ _ us hl=>match us,hl with | [_],_=>rfl),
   Py.Bx KX G ?h308 ?h309 ?h310 ?h311 (fun _ _ _ _ _ _ us hl=>match us,hl with | [_],_=>rfl),
   Py.Bx KX G ?h312 ?h313 ?h314 ?h315 (fun _ _ _ _ _ _ us hl=>match us,hl with | [_],_=>rfl),
   Py.Bx KX G ?h316 ?h317 ?h318 ?h319 (fun _ _ _ _ _ _ us hl=>match us,hl with | [_,_,_,_],_=>rfl),
   Py.Ce KX G ?h320,
   Py.Ce KX G ?h321,
   Py.Ce KX G ?h322,
   Py.Ce KX G ?h323,
   Py.Ce KX G ?h324,
   Py.Ce KX G ?h325,
   Py.Ce KX G ?h326,
   Py.Ce KX G ?h327,
   Py.Ce KX G ?h328,
   Py.Ce KX G ?h329,
   Py.Ce KX G ?h330,
   Py.Ce KX G ?h331,
   Py.Ce KX G ?h332,
   Py.Ce KX G ?h333,
   Py.Ce KX G ?h334,
   Py.Ce KX G ?h335,
   Py.Ce KX G ?h336,
   Py.Ce KX G ?h337,
   Py.Ce KX G ?h338,
   Py.ajj KX G ?h339,
   Py.Ce KX G ?h340,
   Py.Ce KX G ?h341,
   Py.Ce KX G ?h342,
   Py.Ce KX G ?h343,
   Py.Ce KX G ?h344,
   Py.Ce KX G ?h345,
   Py.Ce KX G ?h346,
   Py.Ce KX G ?h347,
   Py.Ce KX G ?h348,
   Py.Ce KX G ?h349,
   Py.Ce KX G ?h350,
   Py.Ce KX G ?h351,
   Py.Ce KX G ?h352,
   Py.Ce KX G ?h353,
   Py.Ce KX G ?h354,
   Py.Ce KX G ?h355,
   Py.Ce KX G ?h356,
   Py.Ce KX G ?h357,
   Py.Ce KX G ?h358,
   Py.Ce KX G ?h359,
   Py.Ce KX G ?h360,
   Py.Ce KX G ?h361,
   Py.Ce KX G ?h362,
   Py.Ce KX G ?h363,
   PySem.W.mg_none_of KX G ?h364,
   PySem.W.mg_none_of KX G ?h365,
   PySem.W.mg_none_of KX G ?h366,
   PySem.W.mg_none_of KX G ?h367,
   PySem.W.mg_none_of KX G ?h368,
   PySem.W.mg_none_of KX G ?h369,
   PySem.W.mg_none_of KX G ?h370,
   PySem.W.mg_none_of KX G ?h371,
   PySem.W.mg_none_of KX G ?h372,
   PySem.W.mg_none_of KX G ?h373⟩ ?h374 ?h375 ?h376 ?h377
  (case h1=>k_is)
  (case h2=>k_is)
  (case h3=>k_is)
  (case h4=>k_is)
  (case h5=>k_is)
  (case h6=>k_is)
  (case h7=>k_is)
  (case h8=>k_is)
  (case h9=>k_is)
  (case h10=>k_is)
  (case h11=>k_is)
  (case h12=>k_is)
  (case h13=>k_is)
  (case h14=>k_is)
  (case h15=>k_is)
  (case h16=>k_is)
  (case h17=>k_is)
  (case h18=>k_is)
  (case h19=>k_is)
  (case h20=>k_is)
  (case h21=>k_is)
  (case h22=>k_is)
  (case h23=>k_is)
  (case h24=>k_is)
  (case h25=>k_is)
  (case h26=>k_is)
  (case h27=>k_is)
  (case h28=>k_is)
  (case h29=>k_is)
  (case h30=>k_is)
  (case h31=>k_is)
  (case h32=>k_is)
  (case h33=>k_is)
  (case h34=>k_is)
  (case h35=>k_is)
  (case h36=>k_is)
  (case h37=>k_is)
  (case h38=>k_is)
  (case h39=>k_is)
  (case h40=>k_is)
  (case h41=>k_is)
  (case h42=>k_is)
  (case h43=>k_is)
  (case h44=>k_is)
  (case h45=>k_is)
  (case h46=>k_is)
  (case h47=>k_is)
  (case h48=>k_is)
  (case h49=>k_is)
  (case h50=>k_is)
  (case h51=>k_is)
  (case h52=>k_is)
  (case h53=>k_is)
  (case h54=>k_is)
  (case h55=>k_is)
  (case h56=>k_is)
  (case h57=>k_is)
  (case h58=>k_is)
  (case h59=>k_is)
  (case h60=>k_is)
  (case h61=>k_is)
  (case h62=>k_is)
  (case h63=>k_is)
  (case h64=>k_is)
  (case h65=>k_is)
  (case h66=>k_is)
  (case h67=>k_is)
  (case h68=>k_is)
  (case h69=>k_is)
  (case h70=>k_is)
  (case h71=>k_is)
  (case h72=>k_is)
  (case h73=>k_is)
  (case h74=>k_is)
  (case h75=>k_is)
  (case h76=>k_is)
  (case h77=>k_is)
  (case h78=>k_is)
  (case h79=>k_is)
  (case h80=>k_is)
  (case h81=>k_is)
  (case h82=>k_is)
  (case h83=>k_is)
  (case h84=>k_is)
  (case h85=>k_is)
  (case h86=>k_is)
  (case h87=>k_is)
  (case h88=>k_is)
  (case h89=>k_is)
  (case h90=>k_is)
  (case h91=>k_is)
  (case h92=>k_is)
  (case h93=>k_is)
  (case h94=>k_is)
  (case h95=>k_is)
  (case h96=>k_is)
  (case h97=>k_is)
  (case h98=>k_is)
  (case h99=>k_is)
  (case h100=>k_is)
  (case h101=>k_is)
  (case h102=>k_is)
  (case h103=>k_is)
  (case h104=>k_is)
  (case h105=>k_is)
  (case h106=>k_is)
  (case h107=>k_is)
  (case h108=>k_is)
  (case h109=>k_is)
  (case h110=>k_is)
  (case h111=>k_is)
  (case h112=>k_is)
  (case h113=>k_is)
  (case h114=>k_is)
  (case h115=>k_is)
  (case h116=>k_is)
  (case h117=>k_is)
  (case h118=>k_is)
  (case h119=>k_is)
  (case h120=>k_is)
  (case h121=>k_is)
  (case h122=>k_is)
  (case h123=>k_is)
  (case h124=>k_is)
  (case h125=>k_is)
  (case h126=>k_is)
  (case h127=>k_is)
  (case h128=>k_is)
  (case h129=>k_is)
  (case h130=>k_is)
  (case h131=>k_is)
  (case h132=>k_is)
  (case h133=>k_is)
  (case h134=>k_is)
  (case h135=>k_is)
  (case h136=>k_is)
  (case h137=>k_is)
  (case h138=>k_is)
  (case h139=>k_is)
  (case h140=>k_is)
  (case h141=>k_is)
  (case h142=>k_is)
  (case h143=>k_is)
  (case h144=>k_is)
  (case h145=>k_is)
  (case h146=>k_is)
  (case h147=>k_is)
  (case h148=>k_is)
  (case h149=>k_is)
  (case h150=>k_is)
  (case h151=>k_is)
  (case h152=>k_is)
  (case h153=>k_is)
  (case h154=>k_is)
  (case h155=>k_is)
  (case h156=>k_is)
  (case h157=>k_is)
  (case h158=>k_is)
  (case h159=>k_is)
  (case h160=>k_is)
  (case h161=>k_is)
  (case h162=>k_is)
  (case h163=>k_is)
  (case h164=>k_is)
  (case h165=>k_is)
  (case h166=>k_is)
  (case h167=>k_is)
  (case h168=>k_is)
  (case h169=>k_is)
  (case h170=>k_is)
  (case h171=>k_is)
  (case h172=>k_is)
  (case h173=>k_is)
  (case h174=>k_is)
  (case h175=>k_is)
  (case h176=>k_is)
  (case h177=>k_is)
  (case h178=>k_is)
  (case h179=>k_is)
  (case h180=>k_is)
  (case h181=>k_is)
  (case h182=>k_is)
  (case h183=>k_is)
  (case h184=>k_is)
  (case h185=>k_is)
  (case h186=>k_is)
  (case h187=>k_is)
  (case h188=>k_is)
  (case h189=>k_is)
  (case h190=>k_is)
  (case h191=>k_is)
  (case h192=>k_is)
  (case h193=>k_is)
  (case h194=>k_is)
  (case h195=>k_is)
  (case h196=>k_is)
  (case h197=>k_is)
  (case h198=>k_is)
  (case h199=>k_is)
  (case h200=>k_is)
  (case h201=>k_is)
  (case h202=>k_is)
  (case h203=>k_is)
  (case h204=>k_is)
  (case h205=>k_is)
  (case h206=>k_is)
  (case h207=>k_is)
  (case h208=>k_is)
  (case h209=>k_is)
  (case h210=>k_is)
  (case h211=>k_is)
  (case h212=>k_is)
  (case h213=>k_is)
  (case h214=>k_is)
  (case h215=>k_is)
  (case h216=>k_is)
  (case h217=>k_is)
  (case h218=>k_is)
  (case h219=>k_is)
  (case h220=>k_is)
  (case h221=>k_is)
  (case h222=>k_is)
  (case h223=>k_is)
  (case h224=>k_is)
  (case h225=>k_is)
  (case h226=>k_is)
  (case h227=>k_is)
  (case h228=>k_is)
  (case h229=>k_is)
  (case h230=>k_is)
  (case h231=>k_is)
  (case h232=>k_is)
  (case h233=>k_is)
  (case h234=>k_is)
  (case h235=>k_is)
  (case h236=>k_is)
  (case h237=>k_is)
  (case h238=>k_is)
  (case h239=>k_is)
  (case h240=>k_is)
  (case h241=>k_is)
  (case h242=>k_is)
  (case h243=>k_is)
  (case h244=>k_is)
  (case h245=>k_is)
  (case h246=>k_is)
  (case h247=>k_is)
  (case h248=>k_is)
  (case h249=>k_is)
  (case h250=>k_is)
  (case h251=>k_is)
  (case h252=>k_is)
  (case h253=>k_is)
  (case h254=>k_is)
  (case h255=>k_is)
  (case h256=>k_is)
  (case h257=>k_is)
  (case h258=>k_is)
  (case h259=>k_is)
  (case h260=>k_is)
  (case h261=>k_is)
  (case h262=>k_is)
  (case h263=>k_is)
  (case h264=>k_is)
  (case h265=>k_is)
  (case h266=>k_is)
  (case h267=>k_is)
  (case h268=>k_is)
  (case h269=>k_is)
  (case h270=>k_is)
  (case h271=>k_is)
  (case h272=>k_is)
  (case h273=>k_is)
  (case h274=>k_is)
  (case h275=>k_is)
  (case h276=>k_is)
  (case h277=>k_is)
  (case h278=>k_is)
  (case h279=>k_is)
  (case h280=>k_is)
  (case h281=>k_is)
  (case h282=>k_is)
  (case h283=>k_is)
  (case h284=>k_is)
  (case h285=>k_is)
  (case h286=>k_is)
  (case h287=>k_is)
  (case h288=>k_is)
  (case h289=>k_is)
  (case h290=>k_is)
  (case h291=>k_is)
  (case h292=>k_is)
  (case h293=>k_is)
  (case h294=>k_is)
  (case h295=>k_is)
  (case h296=>k_is)
  (case h297=>k_is)
  (case h298=>k_is)
  (case h299=>k_is)
  (case h300=>k_is)
  (case h301=>k_is)
  (case h302=>k_is)
  (case h303=>k_is)
  (case h304=>k_is)
  (case h305=>k_is)
  (case h306=>k_is)
  (case h307=>k_is)
  (case h308=>k_is)
  (case h309=>k_is)
  (case h310=>k_is)
  (case h311=>k_is)
  (case h312=>k_is)
  (case h313=>k_is)
  (case h314=>k_is)
  (case h315=>k_is)
  (case h316=>k_is)
  (case h317=>k_is)
  (case h318=>k_is)
  (case h319=>k_is)
  (case h320=>k_is)
  (case h321=>k_is)
  (case h322=>k_is)
  (case h323=>k_is)
  (case h324=>k_is)
  (case h325=>k_is)
  (case h326=>k_is)
  (case h327=>k_is)
  (case h328=>k_is)
  (case h329=>k_is)
  (case h330=>k_is)
  (case h331=>k_is)
  (case h332=>k_is)
  (case h333=>k_is)
  (case h334=>k_is)
  (case h335=>k_is)
  (case h336=>k_is)
  (case h337=>k_is)
  (case h338=>k_is)
  (case h339=>k_is)
  (case h340=>k_is)
  (case h341=>k_is)
  (case h342=>k_is)
  (case h343=>k_is)
  (case h344=>k_is)
  (case h345=>k_is)
  (case h346=>k_is)
  (case h347=>k_is)
  (case h348=>k_is)
  (case h349=>k_is)
  (case h350=>k_is)
  (case h351=>k_is)
  (case h352=>k_is)
  (case h353=>k_is)
  (case h354=>k_is)
  (case h355=>k_is)
  (case h356=>k_is)
  (case h357=>k_is)
  (case h358=>k_is)
  (case h359=>k_is)
  (case h360=>k_is)
  (case h361=>k_is)
  (case h362=>k_is)
  (case h363=>k_is)
  (case h364=>k_is)
  (case h365=>k_is)
  (case h366=>k_is)
  (case h367=>k_is)
  (case h368=>k_is)
  (case h369=>k_is)
  (case h370=>k_is)
  (case h371=>k_is)
  (case h372=>k_is)
  (case h373=>k_is)
  (case h374=>k_is)
  (case h375=>k_is)
  (case h376=>k_is)
  (case h377=>k_is)
 case S =>
  intro K H xs a hO hwi alA hx
  cases hx with
  | cons g1 hx =>
   cases hx with
   | cons h1 h2 =>
    cases h2 with
    | cons h2 h3 =>
     cases h3 with
     | cons h3 h4 =>
      cases h4
      cases g1
      cases h1 with
      | lst hs ha =>
       cases h2 with
       | lst hs2 ha2 =>
        cases h3 with
        | lst hs3 ha3 =>
         have e:=L2.U6 a.2.1 _ ha
         subst e
         have e:=L2.U6 a.2.2.1 _ ha2
         subst e
         have e:=L2.U6 a.2.2.2.1 _ ha3
         subst e
         have q:(Codec.inInt 0 18446744073709551615 a.1 && ((Codec.inLen 0 100000 a.2.1 && a.2.1.all (Codec.inInt 0 255)) && ((Codec.inLen 0 16400 a.2.2.1 && a.2.2.1.all (Codec.inInt 0 255)) && ((Codec.inLen 0 65600 a.2.2.2.1 && a.2.2.2.1.all (Codec.inInt 0 255)) && true))))=true:=hwi
         rw [Bool.and_eq_true,Bool.and_eq_true,Bool.and_eq_true,Bool.and_eq_true,Bool.and_eq_true,Bool.and_eq_true,Bool.and_eq_true] at q
         rw [<- Py.U8 q.2.1.2] at hs
         rw [<- Py.U8 q.2.2.1.2] at hs2
         rw [<- Py.U8 q.2.2.2.1.2] at hs3
         have l1:=(Codec.inNat_iff.mp q.2.1.1).2
         have l2:=(Codec.inNat_iff.mp q.2.2.1.1).2
         have l3:=(Codec.inNat_iff.mp q.2.2.2.1.1).2
         have i1:=(Codec.inInt_iff.mp q.1).1
         refine ⟨_,_,_,StepsNeutral.text a.2.1,StepsNeutral.text a.2.2.1,StepsNeutral.text a.2.2.2.1,a.1.toNat,?_,hs,?_,hs2,?_,hs3,?_,fun H' p hp=>.lst (L2.SqL.of hp) (L2.adP _)⟩
         ·rw [Int.toNat_of_nonneg i1]
         ·unfold StepsNeutral.text; rw [List.length_map]; omega
         ·unfold StepsNeutral.text; rw [List.length_map]; omega
         ·unfold StepsNeutral.text; rw [List.length_map]; omega
