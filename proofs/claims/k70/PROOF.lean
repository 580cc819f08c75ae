import PyProof.Rows.All
import Wide.All
import OpenK.AllK
import Wide.FinOn
import PySem.SetTable
import PyProof.TupleKey
import PyProof.SetKind
import PyProof.IsRules
import PyProof.SetRoads
import PyProof.Rows.SetFrom
import PyProof.CollectWalk
import PyProof.DictWalks
import KE.KSortTup
import Lean
import PyProof.EqAt
import PyProof.EqKinds
import PyProof.TupleCall
import PyProof.Rows.StrLen
import PyProof.Rows.StrStep
import KE.KTryMore
import PyProof.NeKinds
import PyProof.NeData
import PyProof.AttrMissHeap
import PyProof.DictRoadsH
import PyProof.Rows.TupTab
import KE.KDictOf
import Wide.Seal
import KE.KItemsList
import KE.KDictSum
import PyProof.Rows.SortWalk
import PyProof.Draws
import PyProof.EnumMake
import KE.KRevIter
import PyProof.SumWalk
import PyProof.AutoIntG2
import KE.KDictList
import KE.KPairComp
import PyProof.StrOps2
import PySem.Challenge.RW_quiltyard_k70_refused
set_option Elab.async false
set_option linter.all false
set_option maxRecDepth 100000
namespace TB
open PySem PySem.SetTable
def yf (xs:Array Nat):Prop:=∀a b,a < b->b < xs.size->xs.getD a 0 < xs.getD b 0
theorem PL {xs:Array Nat}{k:Nat}(h:k < xs.size)(d e:Nat):xs.getD k d=xs.getD k e:=by simp [Array.getD,h]
def Parts (xs:Array Nat)(j b:Nat):Prop:=b<=xs.size/\(∀k,k < b->xs.getD k 0 < j)/\(∀k,b<=k->k < xs.size->j<=xs.getD k 0)
theorem go_eq (xs:Array Nat)(j fuel lo hi:Nat):below.go xs j (fuel+1) lo hi=if lo < hi then (if xs.getD ((lo+hi) / 2) j < j then below.go xs j fuel ((lo+hi) / 2+1) hi else below.go xs j fuel lo ((lo+hi) / 2)) else lo:=rfl
theorem AJ {xs:Array Nat}{j:Nat}:∀(fuel lo hi:Nat),lo<=hi->hi<=xs.size->hi - lo<=fuel->yf xs->(∀k,k < lo->xs.getD k 0 < j)->(∀k,hi<=k->k < xs.size->j<=xs.getD k 0)->Parts xs j (below.go xs j fuel lo hi)
 | 0,lo,hi,h1,h2,h3,_,hl,hh=>⟨show lo<=_ by omega,hl,λk hk=>hh k (by have:lo<=k:=hk; omega)⟩
 | fuel+1,lo,hi,h1,h2,h3,hr,hl,hh=>by
  rw[go_eq]
  by_cases c:lo < hi
  ·rw[if_pos c]
   have hm:(lo+hi) / 2 < xs.size:=by omega
   rw[PL hm j 0]
   by_cases c2:xs.getD ((lo+hi) / 2) 0 < j
   ·rw[if_pos c2]
    refine AJ fuel _ _ (by omega) h2 (by omega) hr (λk hk=>?_) hh
    by_cases e:k=(lo+hi) / 2
    ·rw[e]; exact c2
    ·have:=hr k ((lo+hi) / 2) (by omega) hm
     omega
   ·rw[if_neg c2]
    refine AJ fuel _ _ (by omega) (by omega) (by omega) hr hl λk hk hk2=>?_
    by_cases e:k=(lo+hi) / 2
    ·rw[e]; omega
    ·have:=hr ((lo+hi) / 2) k (by omega) hk2
     omega
  ·rw[if_neg c]
   exact⟨by omega,hl,λk hk=>hh k (by omega)⟩
theorem oK {xs:Array Nat}(hr:yf xs)(j:Nat):Parts xs j (below xs j):=
 AJ _ _ _ (Nat.zero_le _) (Nat.le_refl _) (by omega) hr (λk hk=>absurd hk (by omega)) λk hk hk2=>absurd hk2 (by omega)
theorem o_ {xs:Array Nat}(hr:yf xs){j k:Nat}(h:xs[k]?=some j):below xs j=k:=by
 obtain⟨h1,h2,h3⟩:=oK hr j
 have hk:k < xs.size:=by
  rcases Nat.lt_or_ge k xs.size with q | q
  ·exact q
  ·rw[Array.getElem?_eq_none q] at h; cases h
 have e:xs.getD k 0=j:=by
  rw[Array.getElem?_eq_getElem hk] at h
  simp [Array.getD,hk]
  exact Option.some.inj h
 rcases Nat.lt_trichotomy (below xs j) k with q | q | q
 ·have a1:=h3 (below xs j) (Nat.le_refl _) (by omega)
  have a2:=hr _ k q hk
  omega
 ·exact q
 ·have:=h2 k q
  omega
structure Plain (t:SetTable):Prop where
 rise:yf t.place
 Gw:t.dummies=#[]
theorem Gx (j:Nat):has #[] j=false:=by
 unfold has
 simp
theorem u6 {t:SetTable}(h:Plain t){j k:Nat}(e:t.place[k]?=some j):t.slot j=.live k:=by
 unfold slot
 rw[o_ h.rise e]
 simp [e]
theorem Ir {t:SetTable}(h:Plain t){j:Nat}(e:j∉t.place.toList):t.slot j=.empty:=by
 unfold slot
 have q:¬ t.place[below t.place j]?=some j:=λz=>e (by
  have:=Array.mem_of_getElem? z
  exact Array.mem_toList_iff.mpr this)
 have q':(t.place[below t.place j]? == some j)=false:=by simpa using q
 dsimp only
 rw[q',h.Gw,Gx]
 rfl
def qy (m:Nat)(p:Probe):Probe:=
 if p.more > 0 then { p with j:=p.j+1,more:=p.more - 1 } else
 { p with j:=(leap m p.i p.perturb).1,more:=runEnd m (leap m p.i p.perturb).1 - (leap m p.i p.perturb).1,i:=(leap m p.i p.perturb).1,perturb:=(leap m p.i p.perturb).2 }
theorem tF (t:SetTable)(p:Probe):t.advance p=qy t.mask p:=rfl
def Ds (m i perturb:Nat):Probe:={ j:=i,more:=runEnd m i - i,i:=i,perturb:=perturb,dummy:=none }
def pr (m:Nat)(h:Int):Nat->Probe
 | 0=>Ds m (bits h % (m+1)) (bits h)
 | n+1=>qy m (pr m h n)
theorem yg (m:Nat)(h:Int):∀n,(pr m h n).dummy=none
 | 0=>rfl
 | n+1=>by
  show (qy m (pr m h n)).dummy=none
  unfold qy
  split
  ·exact yg m h n
  ·exact yg m h n
def lp (m:Nat)(h:Int):Nat->Nat × Nat
 | 0=>(bits h % (m+1),bits h)
 | l+1=>leap m (lp m h l).1 (lp m h l).2
theorem y_ (m i p:Nat):∀k,k<=runEnd m i - i->∀(f:Nat->Probe),(∀n,f (n+1)=qy m (f n))->∀n,f n=Ds m i p->f (n+k)={ j:=i+k,more:=runEnd m i - i - k,i:=i,perturb:=p,dummy:=none }
 | 0,_,f,hf,n,e=>by rw[Nat.add_zero,e]; rfl
 | k+1,hk,f,hf,n,e=>by
  have ih:=y_ m i p k (by omega) f hf n e
  rw[show n+(k+1)=(n+k)+1 by omega,hf,ih]
  unfold qy
  rw[if_pos (by show runEnd m i - i - k > 0; omega)]
  show ({ j:=i+k+1,more:=runEnd m i - i - k - 1,i:=i,perturb:=p,dummy:=none }:Probe)=_
  congr 1
theorem Rc (m i:Nat):runEnd m i - i<=9:=by
 unfold runEnd
 split <;> omega
theorem Gy (m:Nat)(h:Int):∀l,∃n,n<=10 * l/\pr m h n=Ds m (lp m h l).1 (lp m h l).2
 | 0=>⟨0,Nat.le_refl _,rfl⟩
 | l+1=>by
  obtain⟨n,hn,e⟩:=Gy m h l
  have hr:=Rc m (lp m h l).1
  have r:=y_ m _ _ (runEnd m (lp m h l).1 - (lp m h l).1) (Nat.le_refl _) (pr m h) (λ_=>rfl) n e
  refine⟨n+(runEnd m (lp m h l).1 - (lp m h l).1)+1,by omega,?_⟩
  show qy m (pr m h (n+(runEnd m (lp m h l).1 - (lp m h l).1)))=_
  rw[r]
  unfold qy
  rw[if_neg (by show ¬ runEnd m (lp m h l).1 - (lp m h l).1 - (runEnd m (lp m h l).1 - (lp m h l).1) > 0; omega)]
  rfl
theorem PM (h:Int):bits h < 2 ^ 64:=by
 unfold bits
 have h1:=Int.emod_nonneg h (show (2 ^ 64:Int)≠0 by decide)
 have h2:=Int.emod_lt_of_pos h (show (0:Int) < 2 ^ 64 by decide)
 omega
theorem za (m:Nat)(h:Int):∀l,(lp m h l).2=bits h / 32 ^ l
 | 0=>by simp [lp]
 | l+1=>by
  show (lp m h l).2 / 32=_
  rw[za m h l,Nat.div_div_eq_div_mul,Nat.pow_succ]
theorem PN (m:Nat)(h:Int){l:Nat}(hl:13<=l):(lp m h l).2=0:=by
 rw[za]
 refine Nat.div_eq_of_lt (Nat.lt_of_lt_of_le (PM h) ?_)
 have:(32:Nat) ^ 13<=32 ^ l:=Nat.pow_le_pow_right (by decide) hl
 exact Nat.le_trans (by decide) this
theorem Oc (m:Nat)(h:Int):∀l,(lp m h l).1 < m+1
 | 0=>Nat.mod_lt _ (by omega)
 | l+1=>Nat.mod_lt _ (by omega)
def f0 (m i:Nat):Nat:=(i * 5+1) % (m+1)
def it (m:Nat):Nat->Nat->Nat
 | 0,i=>i
 | k+1,i=>it m k (f0 m i)
theorem u7 (m:Nat):∀(a b i:Nat),it m (a+b) i=it m b (it m a i)
 | 0,b,i=>by rw[Nat.zero_add]; rfl
 | a+1,b,i=>by
  rw[show a+1+b=(a+b)+1 by omega]
  show it m (a+b) (f0 m i)=it m b (it m a (f0 m i))
  exact u7 m a b _
theorem Od (m:Nat)(h:Int){l:Nat}(hl:13<=l):∀k,(lp m h (l+k)).1=it m k (lp m h l).1
 | 0=>rfl
 | k+1=>by
  have:it m (k+1) (lp m h l).1=f0 m (it m k (lp m h l).1):=by rw[u7 m k 1]; rfl
  rw[this,←Od m h hl k]
  show (leap m (lp m h (l+k)).1 (lp m h (l+k)).2).1=_
  unfold leap f0
  rw[PN m h (show 13<=l+k by omega)]
def Gz (m:Nat):Nat->Nat->List Nat
 | 0,_=>[]
 | k+1,i=>i::Gz m k (f0 m i)
theorem JM (m:Nat):∀(k i a x:Nat),(Gz m k i)[a]?=some x->a < k/\it m a i=x
 | 0,i,a,x,h=>by simp [Gz] at h
 | k+1,i,0,x,h=>by
  unfold Gz at h
  simp at h
  exact⟨by omega,h⟩
 | k+1,i,a+1,x,h=>by
  unfold Gz at h
  simp at h
  obtain⟨h1,h2⟩:=JM m k _ a x h
  exact⟨by omega,h2⟩
def gA (m:Nat):Prop:=((List.range (m+1)).all λi=>(Gz m (m+1) 0).contains i)=true/\it m (m+1) 0=0
theorem JN:gA 7:=by constructor <;> decide +kernel
theorem PR:gA 31:=by constructor <;> decide +kernel
theorem LZ:gA 127:=by constructor <;> decide +kernel
theorem gA.pos {m:Nat}(w:gA m){i:Nat}(hi:i < m+1):∃a,a < m+1/\it m a 0=i:=by
 have:=List.all_eq_true.mp w.1 i (List.mem_range.mpr hi)
 obtain⟨a,ha⟩:=List.mem_iff_getElem?.mp (List.contains_iff_mem.mp this)
 exact⟨a,JM m _ _ a i ha⟩
theorem gA.go {m:Nat}(w:gA m){i j:Nat}(hi:i < m+1)(hj:j < m+1):∃k,k<=m/\it m k i=j:=by
 obtain⟨a,ha,ea⟩:=w.pos hi
 obtain⟨b,hb,eb⟩:=w.pos hj
 by_cases c:a<=b
 ·refine⟨b - a,by omega,?_⟩
  rw[←ea,←u7,show a+(b - a)=b by omega]
  exact eb
 ·refine⟨b+(m+1) - a,by omega,?_⟩
  rw[←ea,←u7,show a+(b+(m+1) - a)=(m+1)+b by omega,u7,w.2]
  exact eb
theorem gA.leap {m:Nat}(w:gA m)(h:Int){j:Nat}(hj:j < m+1):∃l,l<=m+13/\(lp m h l).1=j:=by
 obtain⟨k,hk,e⟩:=w.go (Oc m h 13) hj
 exact⟨13+k,by omega,by rw[Od m h (Nat.le_refl 13),e]⟩
theorem gA.cover {m:Nat}(w:gA m)(h:Int){j:Nat}(hj:j < m+1):∃n,n < 10 * turns m/\(pr m h n).j=j:=by
 obtain⟨l,hl,e⟩:=w.leap h hj
 obtain⟨n,hn,e2⟩:=Gy m h l
 refine⟨n,by unfold turns; omega,?_⟩
 rw[e2]
 exact e
theorem gB {α:Type}[DecidableEq α]:∀{l1 l2:List α},l1.Nodup->(∀x∈l1,x∈l2)->l1.length<=l2.length
 | [],_,_,_=>Nat.zero_le _
 | x::xs,l2,nd,h=>by
  rw[List.nodup_cons] at nd
  have hx:=h x List.mem_cons_self
  have:=gB (l2:=l2.erase x) nd.2 λy hy=>(List.mem_erase_of_ne (λ(z:y=x)=>nd.1 (z ▸ hy))).mpr (h y (List.mem_cons_of_mem _ hy))
  rw[List.length_erase_of_mem hx] at this
  have h1:0 < l2.length:=List.length_pos_of_mem hx
  rw[List.length_cons]
  omega
def Reach (m:Nat)(occ:Nat->Prop)(h:Int)(j:Nat):Prop:=∃n,(pr m h n).j=j/\∀k,k < n->occ (pr m h k).j
theorem Reach.mono {m:Nat}{o o':Nat->Prop}{h:Int}{j:Nat}(r:Reach m o h j)(s:∀k,o k->o' k):Reach m o' h j:=by
 obtain⟨n,e,q⟩:=r
 exact⟨n,e,λk hk=>s _ (q k hk)⟩
structure mL (t:SetTable)(hs:List Int):Prop where
 plain:Plain t
 whole:gA t.mask
 size:t.place.toList.length=hs.length
 low:∀j∈t.place.toList,j<=t.mask
 room:hs.length<=t.mask
 reach:∀x∈t.place.toList.zip hs,Reach t.mask (·∈t.place.toList) x.2 x.1
theorem yh {xs:Array Nat}:yf xs↔xs.toList.Pairwise (· < ·):=by
 rw[List.pairwise_iff_getElem]
 constructor
 ·intro h i j hi hj hij
  have:=h i j hij (by simpa using hj)
  have hi':i < xs.size:=by simpa using hi
  have hj':j < xs.size:=by simpa using hj
  simpa [Array.getD,hi',hj'] using this
 ·intro h a b hab hb
  have:=h a b (by simpa using (show a < xs.size by omega)) (by simpa using hb) hab
  simpa [Array.getD,hb,show a < xs.size by omega] using this
theorem least {p:Nat->Prop}[DecidablePred p]:∀n,p n->∃k,k<=n/\p k/\∀i,i < k->¬ p i:=by
 intro n
 induction n using Nat.strongRecOn with
 | _ n ih=>
  intro h
  by_cases c:∃i,i < n/\p i
  ·obtain⟨i,hi,pi⟩:=c
   obtain⟨k,hk,r⟩:=ih i hi pi
   exact⟨k,by omega,r⟩
  ·exact⟨n,Nat.le_refl _,h,λi hi pi=>c ⟨i,hi,pi⟩⟩
theorem mL.hole {t:SetTable}{hs:List Int}(H:mL t hs):∃j,j < t.mask+1/\j∉t.place.toList:=by
 by_cases c:∀j,j < t.mask+1->j∈t.place.toList
 ·have:=gB (l1:=List.range (t.mask+1)) List.nodup_range λx hx=>c x (List.mem_range.mp hx)
  rw[List.length_range,H.size] at this
  have:=H.room
  omega
 ·have ⟨j,hj⟩:=Classical.not_forall.mp c
  exact⟨j,Classical.not_imp.mp hj⟩
theorem mL.first {t:SetTable}{hs:List Int}(H:mL t hs)(h:Int):∃N,N < 10 * turns t.mask/\(pr t.mask h N).j∉t.place.toList/\∀k,k < N->(pr t.mask h k).j∈t.place.toList:=by
 obtain⟨j,hj,hn⟩:=H.hole
 obtain⟨n,hlt,e⟩:=H.whole.cover h hj
 obtain⟨k,hk,h1,h2⟩:=least (p:=λn=>(pr t.mask h n).j∉t.place.toList) n (by rw[e]; exact hn)
 exact⟨k,by omega,h1,λi hi=>Classical.not_not.mp (h2 i hi)⟩
theorem Du (m:Nat)(h:Int)(n:Nat):(pr m h n).j<=m/\(pr m h n).j+(pr m h n).more<=m:=by
 induction n with
 | zero=>
  show bits h % (m+1)<=m/\bits h % (m+1)+(runEnd m (bits h % (m+1)) - bits h % (m+1))<=m
  have:=Nat.mod_lt (bits h) (show 0 < m+1 by omega)
  unfold runEnd
  split <;> omega
 | succ n ih=>
  show (qy m (pr m h n)).j<=m/\(qy m (pr m h n)).j+(qy m (pr m h n)).more<=m
  unfold qy
  split
  ·rename_i c
   show (pr m h n).j+1<=m/\(pr m h n).j+1+((pr m h n).more - 1)<=m
   omega
  ·show (leap m (pr m h n).i (pr m h n).perturb).1<=m/\(leap m (pr m h n).i (pr m h n).perturb).1+(runEnd m (leap m (pr m h n).i (pr m h n).perturb).1 - (leap m (pr m h n).i (pr m h n).perturb).1)<=m
   have:(leap m (pr m h n).i (pr m h n).perturb).1 < m+1:=Nat.mod_lt _ (by omega)
   generalize (leap m (pr m h n).i (pr m h n).perturb).1=i at *
   unfold runEnd
   split <;> omega
theorem ni (t:SetTable)(hashAt:Nat->Int)(h:Int)(fuel:Nat)(p:Probe):probe.go t hashAt h (fuel+1) p=(match t.slot p.j with
  | .empty=>some (.empty p.j p.dummy)
  | .dummy=>probe.go t hashAt h fuel (t.advance { p with dummy:=some p.j })
  | .live i=>if hashAt i == h then some (.candidate p.j i (t.advance p)) else probe.go t hashAt h fuel (t.advance p)):=rfl
theorem Dv {t:SetTable}{hashAt:Nat->Int}{h:Int}:∀(n fuel a:Nat),n < fuel->(∀k,k < n->∃i,t.slot (pr t.mask h (a+k)).j=.live i/\(hashAt i == h)=false)->t.slot (pr t.mask h (a+n)).j=.empty->
  probe.go t hashAt h fuel (pr t.mask h a)=some (.empty (pr t.mask h (a+n)).j none)
 | 0,fuel+1,a,_,_,e=>by
  rw[Nat.add_zero] at e ⊢
  rw[ni,e,yg]
  rfl
 | n+1,fuel+1,a,hn,hl,e=>by
  obtain⟨i,e1,e2⟩:=hl 0 (by omega)
  rw[Nat.add_zero] at e1
  rw[ni,e1]
  dsimp only
  rw[e2,if_neg (by decide),tF]
  have:=Dv n fuel (a+1) (by omega) (λk hk=>by
   have:=hl (k+1) (by omega)
   rwa [show a+(k+1)=a+1+k by omega] at this) (by rwa [show a+(n+1)=a+1+n by omega] at e)
  rw[show a+(n+1)=a+1+n by omega]
  exact this
theorem GB {t:SetTable}{hashAt:Nat->Int}{h:Int}{i:Nat}:∀(n fuel a:Nat),n < fuel->(∀k,k < n->∃i,t.slot (pr t.mask h (a+k)).j=.live i/\(hashAt i == h)=false)->t.slot (pr t.mask h (a+n)).j=.live i->(hashAt i == h)=true->
  probe.go t hashAt h fuel (pr t.mask h a)=some (.candidate (pr t.mask h (a+n)).j i (pr t.mask h (a+n+1)))
 | 0,fuel+1,a,_,_,e,e3=>by
  rw[Nat.add_zero] at e ⊢
  rw[ni,e]
  dsimp only
  rw[e3,if_pos rfl,tF]
  rfl
 | n+1,fuel+1,a,hn,hl,e,e3=>by
  obtain⟨i',e1,e2⟩:=hl 0 (by omega)
  rw[Nat.add_zero] at e1
  rw[ni,e1]
  dsimp only
  rw[e2,if_neg (by decide),tF]
  have:=GB n fuel (a+1) (by omega) (λk hk=>by
   have:=hl (k+1) (by omega)
   rwa [show a+(k+1)=a+1+k by omega] at this) (by rwa [show a+(n+1)=a+1+n by omega] at e) e3
  rw[show a+(n+1)=a+1+n by omega]
  exact this
theorem ux {α:Type}(xs:Array α)(p:Nat)(x:α)(h:p<=xs.size):(insertAt xs p x).toList=xs.toList.take p++x::xs.toList.drop p:=by
 unfold insertAt
 simp
 rw[List.take_of_length_le (by simp)]
theorem PU {α β:Type}(l1:List α)(l2:List β)(p:Nat)(x:α)(y:β)(h:l1.length=l2.length):(l1.take p++x::l1.drop p).zip (l2.take p++y::l2.drop p)=(l1.zip l2).take p++(x,y)::(l1.zip l2).drop p:=by
 rw[List.zip_append (by simp [h]),List.zip_cons_cons]
 congr 1
 ·simp [List.zip,List.take_zipWith]
 ·congr 1
  simp [List.zip,List.drop_zipWith]
theorem wQ {α:Type}{l:List α}{p:Nat}{x y:α}:y∈l.take p++x::l.drop p↔y=x\/y∈l:=by
 rw[List.mem_append,List.mem_cons]
 constructor
 ·rintro (h | h | h)
  ·exact .inr (List.mem_of_mem_take h)
  ·exact .inl h
  ·exact .inr (List.mem_of_mem_drop h)
 ·rintro (h | h)
  ·exact .inr (.inl h)
  ·rw[←List.take_append_drop p l,List.mem_append] at h
   rcases h with h | h
   ·exact .inl h
   ·exact .inr (.inr h)
theorem mL.put {t:SetTable}{hs:List Int}(H:mL t hs){h:Int}{j:Nat}(hj:j∉t.place.toList)(hm:j<=t.mask)(hr:Reach t.mask (·∈t.place.toList) h j)(room:hs.length+1<=t.mask) :
  (t.put j).2<=hs.length/\(t.put j).1.mask=t.mask/\(t.put j).1.place.size=hs.length+1/\(t.put j).1.dummies=#[]/\mL (t.put j).1 (hs.take (t.put j).2++h::hs.drop (t.put j).2):=by
 obtain⟨b1,b2,b3⟩:=oK H.plain.rise j
 have hsz:t.place.size=hs.length:=by simpa using H.size
 have e2:(t.put j).2=below t.place j:=rfl
 have hd:(t.put j).1.dummies=#[]:=by
  show (if has t.dummies j=true then _ else t.dummies)=#[]
  rw[H.plain.Gw,Gx,if_neg (by decide)]
 have hpl:(t.put j).1.place.toList=t.place.toList.take (below t.place j)++j::t.place.toList.drop (below t.place j):=ux _ _ _ b1
 have hlen:(t.put j).1.place.size=hs.length+1:=by
  have:(t.put j).1.place.toList.length=hs.length+1:=by
   rw[hpl,List.length_append,List.length_cons,List.length_take,List.length_drop,H.size]
   omega
  simpa using this
 rw[e2]
 refine⟨by omega,rfl,hlen,hd,⟨⟨?_,hd⟩,H.whole,?_,?_,?_,?_⟩⟩
 ·rw[yh,hpl,List.pairwise_append]
  have pw:=yh.mp H.plain.rise
  have tk:∀a∈t.place.toList.take (below t.place j),a < j:=λa ha=>by
   obtain⟨i,hi,e⟩:=List.mem_iff_getElem.mp ha
   rw[List.length_take] at hi
   have hi2:i < t.place.size:=by have:=H.size; omega
   have:=b2 i (by omega)
   simp [Array.getD,hi2] at this
   rw[←e]
   simpa using this
  have dr:∀a∈t.place.toList.drop (below t.place j),j < a:=λa ha=>by
   obtain⟨i,hi,e⟩:=List.mem_iff_getElem.mp ha
   rw[List.length_drop] at hi
   have hi2:below t.place j+i < t.place.size:=by have:=H.size; omega
   have:=b3 (below t.place j+i) (by omega) hi2
   simp [Array.getD,hi2] at this
   have ha':a∈t.place.toList:=List.mem_of_mem_drop ha
   have ne:j≠a:=λz=>hj (z ▸ ha')
   have:j<=a:=by rw[←e]; simpa using this
   omega
  refine⟨pw.sublist (List.take_sublist _ _),List.pairwise_cons.mpr ⟨dr,pw.sublist (List.drop_sublist _ _)⟩,λa ha b hb=>?_⟩
  rcases List.mem_cons.mp hb with rfl | hb
  ·exact tk a ha
  ·have:=tk a ha
   have:=dr b hb
   omega
 ·rw[hpl]
  simp only [List.length_append,List.length_cons,List.length_take,List.length_drop]
  rw[H.size]
 ·intro a ha
  rw[hpl,wQ] at ha
  rcases ha with rfl | ha
  ·exact hm
  ·exact H.low a ha
 ·simp only [List.length_append,List.length_cons,List.length_take,List.length_drop]
  show _<=t.mask
  omega
 ·intro x hx
  rw[hpl,PU _ _ _ _ _ H.size,wQ] at hx
  have mono:∀k,k∈t.place.toList->k∈(t.put j).1.place.toList:=λk hk=>by rw[hpl,wQ]; exact .inr hk
  rcases hx with rfl | hx
  ·exact hr.mono mono
  ·exact (H.reach x hx).mono mono
end TB
namespace TB
open PySem PySem.SetTable
def oA (owner:Array (Option Nat))(x:Nat):Prop:=∃q,owner[x]?=some (some q)
theorem free_eq (m:Nat)(owner:Array (Option Nat))(fuel i p:Nat):layClean.free m owner (fuel+1) i p=(match (List.range (runEnd m i+1 - i)).find? λk=>(owner.getD (i+k) (some 0)).isNone with
  | some k=>some (i+k)
  | none=>layClean.free m owner fuel (leap m i p).1 (leap m i p).2):=rfl
theorem JO {owner:Array (Option Nat)}{x:Nat}(hx:x < owner.size)(h:(owner.getD x (some 0)).isNone=false):oA owner x:=by
 simp only [Array.getD,hx,↓reduceDIte] at h
 cases e:owner[x] with
 | none=>simp [e] at h
 | some q=>exact⟨q,by rw[Array.getElem?_eq_getElem hx,e]⟩
theorem PV {owner:Array (Option Nat)}{x:Nat}(h:(owner.getD x (some 0)).isNone=true):x < owner.size/\¬ oA owner x:=by
 by_cases hx:x < owner.size
 ·refine⟨hx,λ⟨q,e⟩=>?_⟩
  rw[Array.getElem?_eq_getElem hx] at e
  simp only [Array.getD,hx,↓reduceDIte] at h
  have e':owner[x]=some q:=Option.some.inj e
  simp [e'] at h
 ·simp [Array.getD,hx] at h
theorem BE {m:Nat}(w:gA m){owner:Array (Option Nat)}(hs:owner.size=m+1)(h:Int)(hole:∃j,j < m+1/\¬ oA owner j) :
  ∀(fuel l n:Nat),l+fuel=turns m->pr m h n=Ds m (lp m h l).1 (lp m h l).2->(∀k,k < n->oA owner (pr m h k).j)->(∀l',l' < l->oA owner (lp m h l').1)->
   ∃j,layClean.free m owner fuel (lp m h l).1 (lp m h l).2=some j/\j < owner.size/\¬ oA owner j/\Reach m (oA owner) h j
 | 0,l,n,hl,_,_,L0=>by
  obtain⟨j,hj,hn⟩:=hole
  obtain⟨l',hl',e⟩:=w.leap h hj
  unfold turns at hl
  exact absurd (e ▸ L0 l' (by omega)) hn
 | fuel+1,l,n,hl,e,hn,L0=>by
  rw[free_eq]
  have hi:=Oc m h l
  have Oe:∀k,k < runEnd m (lp m h l).1+1 - (lp m h l).1->(pr m h (n+k)).j=(lp m h l).1+k:=λk hk=>by
   rw[y_ m _ _ k (by omega) (pr m h) (λ_=>rfl) n e]
  have hle:∀k,k < runEnd m (lp m h l).1+1 - (lp m h l).1->(lp m h l).1+k < m+1:=λk hk=>by
   have:=(Du m h (n+k)).1
   rw[Oe k hk] at this
   omega
  cases c:(List.range (runEnd m (lp m h l).1+1 - (lp m h l).1)).find? λk=>(owner.getD ((lp m h l).1+k) (some 0)).isNone with
  | some k=>
   obtain⟨a1,as,bs,a2,a3⟩:=List.find?_eq_some_iff_append.mp c
   have hk:k < runEnd m (lp m h l).1+1 - (lp m h l).1:=List.mem_range.mp (a2 ▸ List.mem_append_right _ List.mem_cons_self)
   have hlt:∀i,i < k->i∈as:=λi hik=>by
    have Vv:i∈List.range (runEnd m (lp m h l).1+1 - (lp m h l).1):=List.mem_range.mpr (by omega)
    have pw:(List.range (runEnd m (lp m h l).1+1 - (lp m h l).1)).Pairwise (· < ·):=List.pairwise_lt_range
    rw[a2] at Vv pw
    rcases List.mem_append.mp Vv with q | q
    ·exact q
    ·rcases List.mem_cons.mp q with q | q
     ·omega
     ·have:=(List.pairwise_cons.mp (List.pairwise_append.mp pw).2.1).1 i q
      omega
   have no:=PV a1
   refine⟨(lp m h l).1+k,rfl,no.1,no.2,n+k,Oe k hk,λi hik=>?_⟩
   by_cases ci:i < n
   ·exact hn i ci
   ·have e1:=Oe (i - n) (by omega)
    rw[show n+(i - n)=i by omega] at e1
    rw[e1]
    have:=a3 (i - n) (hlt _ (by omega))
    exact JO (by rw[hs]; exact hle _ (by omega)) (by simpa using this)
  | none=>
   have all:=List.find?_eq_none.mp c
   have hr:=y_ m _ _ (runEnd m (lp m h l).1 - (lp m h l).1) (Nat.le_refl _) (pr m h) (λ_=>rfl) n e
   have acz:(lp m h l).1<=runEnd m (lp m h l).1:=by unfold runEnd; split <;> omega
   have Rg:∀k,k < runEnd m (lp m h l).1+1 - (lp m h l).1->oA owner ((lp m h l).1+k):=λk hk=>by
    have:=all k (List.mem_range.mpr hk)
    exact JO (by rw[hs]; exact hle k hk) (Bool.eq_false_iff.mpr this)
   refine BE w hs h hole fuel (l+1) (n+(runEnd m (lp m h l).1 - (lp m h l).1)+1) (by omega) ?_ (λk hk=>?_) λl' hl'=>?_
   ·show qy m (pr m h (n+(runEnd m (lp m h l).1 - (lp m h l).1)))=_
    rw[hr]
    unfold qy
    rw[if_neg (by show ¬ runEnd m (lp m h l).1 - (lp m h l).1 - (runEnd m (lp m h l).1 - (lp m h l).1) > 0; omega)]
    rfl
   ·by_cases ck:k < n
    ·exact hn k ck
    ·have e1:=Oe (k - n) (by omega)
     rw[show n+(k - n)=k by omega] at e1
     rw[e1]
     exact Rg _ (by omega)
   ·by_cases cl:l' < l
    ·exact L0 l' cl
    ·have:l'=l:=by omega
     subst this
     have:=Rg 0 (by omega)
     simpa using this
structure mO (m:Nat)(hs:List Int)(k:Nat)(owner:Array (Option Nat)):Prop where
 size:owner.size=m+1
 each:∀(q:Nat) (h:Int),q < k->hs[q]?=some h->∃j:Nat,owner[j]?=some (some q)/\Reach m (oA owner) h j
 low:∀(j q:Nat),owner[j]?=some (some q)->q < k
 inj:∀(j j' q:Nat),owner[j]?=some (some q)->owner[j']?=some (some q)->j=j'
theorem mO.start (m:Nat)(hs:List Int):mO m hs 0 (Array.replicate (m+1) none):=by
 have no:∀(j q:Nat),(Array.replicate (m+1) (none:Option Nat))[j]?=some (some q)->False:=λj q e=>by
  rw[Array.getElem?_replicate] at e
  split at e <;> simp at e
 exact⟨by simp,λq h hq=>absurd hq (by omega),λj q e=>(no j q e).elim,λj j' q e=>(no j q e).elim⟩
theorem mO.hole {m:Nat}{hs:List Int}{k:Nat}{owner:Array (Option Nat)}(O:mO m hs k owner)(hk:k<=m):∃j,j < m+1/\¬ oA owner j:=by
 by_cases c:∀j,j < m+1->oA owner j
 ·
  have f:∀j,j < m+1->∃q,owner[j]?=some (some q):=c
  let g:Nat->Nat:=λj=>((owner[j]?).join).getD 0
  have hg:∀j,j < m+1->owner[j]?=some (some (g j)):=λj hj=>by
   obtain⟨q,e⟩:=f j hj
   show _=some (some (((owner[j]?).join).getD 0))
   rw[e]; rfl
  have nd:((List.range (m+1)).map g).Nodup:=by
   rw[List.Nodup,List.pairwise_map]
   refine (List.nodup_range (n:=m+1)).imp_of_mem λ{a b} ha hb ne e=>ne ?_
   exact O.inj a b (g a) (hg a (List.mem_range.mp ha)) (e ▸ hg b (List.mem_range.mp hb))
  have:=gB (l2:=List.range k) nd λx hx=>by
   obtain⟨j,hj,rfl⟩:=List.mem_map.mp hx
   exact List.mem_range.mpr (O.low j _ (hg j (List.mem_range.mp hj)))
  rw[List.length_map,List.length_range,List.length_range] at this
  omega
 ·have ⟨j,hj⟩:=Classical.not_forall.mp c
  exact⟨j,Classical.not_imp.mp hj⟩
theorem mO.next {m:Nat}{hs:List Int}{k:Nat}{owner:Array (Option Nat)}(O:mO m hs k owner){h:Int}(hh:hs[k]?=some h){j:Nat}(hj:j < owner.size)(hn:¬ oA owner j)(hr:Reach m (oA owner) h j) :
  mO m hs (k+1) (owner.setIfInBounds j (some k)):=by
 have at_:∀x,(owner.setIfInBounds j (some k))[x]?=if j=x then (if x < owner.size then some (some k) else none) else owner[x]?:=λx=>by
  rw[Array.getElem?_setIfInBounds]
  by_cases c:j=x
  ·subst c; simp [hj]
  ·simp [c]
 have mono:∀x,oA owner x->oA (owner.setIfInBounds j (some k)) x:=λx ⟨q,e⟩=>by
  have ne:¬ j=x:=λz=>hn (z ▸ ⟨q,e⟩)
  exact⟨q,by rw[at_,if_neg ne]; exact e⟩
 refine⟨by simp [O.size],λq h' hq Rh=>?_,λx q e=>?_,λx y q e1 e2=>?_⟩
 ·by_cases c:q=k
  ·subst c
   rw[hh] at Rh
   cases Rh
   exact⟨j,by rw[at_,if_pos rfl,if_pos hj],hr.mono mono⟩
  ·obtain⟨x,e,r⟩:=O.each q h' (by omega) Rh
   have ne:¬ j=x:=λz=>hn (z ▸ ⟨q,e⟩)
   exact⟨x,by rw[at_,if_neg ne]; exact e,r.mono mono⟩
 ·rw[at_] at e
  by_cases c:j=x
  ·rw[if_pos c] at e
   split at e
   ·cases e; omega
   ·cases e
  ·rw[if_neg c] at e
   have:=O.low x q e
   omega
 ·rw[at_] at e1 e2
  by_cases c1:j=x
  ·rw[if_pos c1] at e1
   split at e1
   ·cases e1
    by_cases c2:j=y
    ·omega
    ·rw[if_neg c2] at e2
     have:=O.low y _ e2
     omega
   ·cases e1
  ·rw[if_neg c1] at e1
   by_cases c2:j=y
   ·rw[if_pos c2] at e2
    split at e2
    ·cases e2
     have:=O.low x _ e1
     omega
    ·cases e2
   ·rw[if_neg c2] at e2
    exact O.inj x y q e1 e2
def wR (m:Nat)(acc:Option (Array (Option Nat) × Nat))(h:Int):Option (Array (Option Nat) × Nat):=do
 let (owner,k) ←acc
 let j ←layClean.free m owner (turns m) (bits h % (m+1)) (bits h)
 pure (owner.setIfInBounds j (some k),k+1)
theorem Dw {m:Nat}(w:gA m)(hs:List Int)(hm:hs.length<=m):∀(rest:List Int) (k:Nat) (owner:Array (Option Nat)),k<=hs.length->mO m hs k owner->hs.drop k=rest->
  ∃owner',rest.foldl (wR m) (some (owner,k))=some (owner',hs.length)/\mO m hs hs.length owner'
 | [],k,owner,hk0,O,e=>by
  have hk:hs.length<=k:=by simpa using List.drop_eq_nil_iff.mp e
  have c:k=hs.length:=by omega
  subst c
  exact⟨owner,rfl,O⟩
 | h::rest,k,owner,hk0,O,e=>by
  have hk:k < hs.length:=by
   rcases Nat.lt_or_ge k hs.length with q | q
   ·exact q
   ·rw[List.drop_eq_nil_of_le q] at e; cases e
  have hh:hs[k]?=some h:=by
   have:=List.getElem?_drop (xs:=hs) (i:=k) (j:=0)
   rw[e] at this
   simpa using this.symm
  obtain⟨j,e1,hj,hn,hr⟩:=BE w O.size h (O.hole (by omega)) (turns m) 0 0 (by omega) rfl (λk hk=>absurd hk (by omega)) λl hl=>absurd hl (by omega)
  have e2:wR m (some (owner,k)) h=some (owner.setIfInBounds j (some k),k+1):=by
   unfold wR
   show (layClean.free m owner (turns m) (bits h % (m+1)) (bits h)).bind _=_
   have YH:layClean.free m owner (turns m) (bits h % (m+1)) (bits h)=some j:=e1
   rw[YH]
   rfl
  rw[List.foldl_cons,e2]
  exact Dw w hs hm rest (k+1) _ (by omega) (O.next hh hj hn hr) (by
   have:=congrArg (List.drop 1) e
   rw[List.drop_drop] at this
   simpa using this)
theorem CA {m:Nat}(w:gA m)(hs:List Int)(hm:hs.length<=m):∃owner,layClean m hs.toArray=some owner/\mO m hs hs.length owner:=by
 obtain⟨owner,e,O⟩:=Dw w hs hm hs 0 _ (Nat.zero_le _) (mO.start m hs) rfl
 refine⟨owner,?_,O⟩
 unfold layClean
 rw[←Array.foldl_toList]
 show ((hs.foldl (wR m) (some (Array.replicate (m+1) none,0))).map (·.1))=_
 rw[e]
 rfl
def ef (m:Nat)(owner:Array (Option Nat)):List (Nat × Nat):=(List.range (m+1)).filterMap λj=>(owner.getD j none).map (j,·)
theorem jq {m:Nat}{owner:Array (Option Nat)}(hs:owner.size=m+1){x:Nat × Nat}:x∈ef m owner↔owner[x.1]?=some (some x.2):=by
 unfold ef
 rw[List.mem_filterMap]
 constructor
 ·rintro⟨j,hj,e⟩
  have hj':j < owner.size:=by rw[hs]; exact List.mem_range.mp hj
  simp only [Array.getD,hj',↓reduceDIte] at e
  cases c:owner[j] with
  | none=>simp [c] at e
  | some q=>
   simp [c] at e
   rw[←e]
   show owner[j]?=_
   rw[Array.getElem?_eq_getElem hj',c]
 ·intro e
  have hj:x.1 < owner.size:=by
   rcases Nat.lt_or_ge x.1 owner.size with q | q
   ·exact q
   ·rw[Array.getElem?_eq_none q] at e; cases e
  refine⟨x.1,List.mem_range.mpr (by omega),?_⟩
  rw[Array.getElem?_eq_getElem hj] at e
  have e':=Option.some.inj e
  simp [Array.getD,hj,e']
theorem BF (m:Nat)(owner:Array (Option Nat)):((ef m owner).map (·.1)).Pairwise (· < ·):=by
 unfold ef
 rw[List.pairwise_map]
 refine List.Pairwise.filterMap _ ?_ (List.pairwise_lt_range (n:=m+1))
 intro a b hab x hx y hy
 simp only [Option.map_eq_some_iff] at hx hy
 obtain⟨_,_,rfl⟩:=hx
 obtain⟨_,_,rfl⟩:=hy
 exact hab
theorem rK {m:Nat}{hs:List Int}{k:Nat}{owner:Array (Option Nat)}(O:mO m hs k owner):((ef m owner).map (·.2)).Nodup:=by
 rw[List.Nodup,List.pairwise_map]
 have:=BF m owner
 rw[List.pairwise_map] at this
 refine this.imp_of_mem λ{a b} ha hb hlt e=>?_
 have h1:=(jq O.size).mp ha
 have h2:=(jq O.size).mp hb
 rw[e] at h1
 have:=O.inj _ _ _ h1 h2
 omega
theorem Dy {m:Nat}{hs:List Int}{owner:Array (Option Nat)}(O:mO m hs hs.length owner):(ef m owner).length=hs.length:=by
 have h1:=gB (l2:=List.range hs.length) (rK O) λx hx=>by
  obtain⟨y,hy,rfl⟩:=List.mem_map.mp hx
  exact List.mem_range.mpr (O.low _ _ ((jq O.size).mp hy))
 have h2:=gB (l1:=List.range hs.length) (l2:=(ef m owner).map (·.2)) List.nodup_range λx hx=>by
  have hx:=List.mem_range.mp hx
  obtain⟨j,e,_⟩:=O.each x hs[x] hx (List.getElem?_eq_getElem hx)
  exact List.mem_map.mpr ⟨(j,x),(jq O.size).mpr e,rfl⟩
 rw[List.length_map,List.length_range] at h1 h2
 omega
theorem JP {m:Nat}(w:gA m)(finger moves:Nat)(led plain:Bool)(hs:List Int)(hm:hs.length<=m) :
  ∃t order,laid m finger moves led plain hs.toArray=some (t,order)/\t.mask=m/\t.led=led/\t.plain=plain/\t.dummies=#[]/\order.toList.length=hs.length/\order.toList.Nodup/\(∀q∈order.toList,q < hs.length)/\
   mL t (order.toList.map λq=>hs.getD q 0):=by
 obtain⟨owner,e,O⟩:=CA w hs hm
 refine⟨{ mask:=m,place:=((ef m owner).map (·.1)).toArray,dummies:=#[],finger,led,moves,plain },((ef m owner).map (·.2)).toArray,?_,rfl,rfl,rfl,rfl,?_,rK O,?_,?_⟩
 ·unfold laid
  rw[e]
  rfl
 ·show ((ef m owner).map (·.2)).length=_
  rw[List.length_map,Dy O]
 ·intro q hq
  obtain⟨y,hy,rfl⟩:=List.mem_map.mp (show q∈(ef m owner).map (·.2) from hq)
  exact O.low _ _ ((jq O.size).mp hy)
 ·have occ:∀x,oA owner x->x∈(ef m owner).map (·.1):=λx ⟨q,e⟩=>List.mem_map.mpr ⟨(x,q),(jq O.size).mpr e,rfl⟩
  refine⟨⟨yh.mpr (BF m owner),rfl⟩,w,?_,?_,?_,?_⟩
  ·show ((ef m owner).map (·.1)).length=((((ef m owner).map (·.2))).map _).length
   simp
  ·intro j hj
   obtain⟨y,hy,rfl⟩:=List.mem_map.mp (show j∈(ef m owner).map (·.1) from hj)
   have:=(jq O.size).mp hy
   have hlt:y.1 < owner.size:=by
    rcases Nat.lt_or_ge y.1 owner.size with q | q
    ·exact q
    ·rw[Array.getElem?_eq_none q] at this; cases this
   show y.1<=m
   have:=O.size
   omega
  ·show ((((ef m owner).map (·.2))).map _).length<=m
   rw[List.length_map,List.length_map,Dy O]
   exact hm
  ·intro x hx
   have hx':x∈((ef m owner).map (·.1)).zip (((ef m owner).map (·.2)).map λq=>hs.getD q 0):=hx
   rw[List.map_map,List.zip_map'] at hx'
   obtain⟨y,hy,rfl⟩:=List.mem_map.mp hx'
   have e1:=(jq O.size).mp hy
   have hq:=O.low _ _ e1
   have e2:hs[y.2]?=some (hs.getD y.2 0):=by simp [hq]
   obtain⟨j,e3,r⟩:=O.each y.2 _ hq e2
   have:=O.inj _ _ _ e1 e3
   show Reach m _ (hs.getD y.2 0) y.1
   rw[this]
   exact r.mono occ
end TB
namespace TB
open PySem
section
variable {prog:Program}{w:World}{K:Type}[DecidableEq K]{knd:KeyKind prog w K}{A:Around}{E:Value->Shared->Prop}{s:Shared}
theorem Dz (n:Nat){v:Value}(h:carriedByValue v=true):ofAClassStatement n v=pure false:=by
 cases v with
 | ref a=>simp [carriedByValue] at h
 | _=>unfold ofAClassStatement; rfl
theorem uy {ks:List K}{a:Addr}{Q:Bool->Shared->Prop}(hk:IsTupleKey knd s.heap ks a)(h:Q false s):wpAny (model prog w) A (ofAClassStatement 8 (.ref a)) Q E s:=by
 have hT:=hk.typeIs
 obtain⟨o,items,n,ho,_,hd,hi⟩:=hk
 unfold ofAClassStatement
 refine wpAny_bind (wpAny_typeOf hT ?_)
 dsimp only
 rw[if_pos (by decide)]
 refine wpAny_bind (wpAny_pure ?_)
 simp only [Bool.not_true,Bool.false_eq_true,if_false]
 refine wpAny_bind (wpAny_seqItems ho hd ?_)
 dsimp only
 refine wpAny_bind ?_
 rw[←Array.forIn_toList]
 refine wpAny_forIn_list _ (λrest r s'=>r.1=none/\s'=s/\∀v∈rest,carriedByValue v=true) _ ?_ ?_ _ _ ⟨rfl,rfl,hi.byValue⟩
 ·rintro v rest r s' ⟨hr,rfl,all⟩
  rw[Dz _ (all v List.mem_cons_self)]
  refine wpAny_bind (wpAny_pure ?_)
  simp only [Bool.false_eq_true,if_false]
  exact wpAny_pure ⟨rfl,rfl,λu hu=>all u (List.mem_cons_of_mem _ hu)⟩
 ·rintro⟨r1,r2⟩ s' ⟨hr,rfl,_⟩
  cases hr
  exact wpAny_pure h
theorem Ri {ks:List K}{x:Addr}{ys:List Value}{Q:Bool->Shared->Prop}(hx:IsTupleKey knd s.heap ks x)(hy:∀v∈ys,∃a ks',v=.ref a/\IsTupleKey knd s.heap ks' a)(h:Q false s) :
  wpAny (model prog w) A (searchCouldBeSeen (.ref x) ys) Q E s:=by
 unfold searchCouldBeSeen
 refine wpAny_bind ?_
 refine wpAny_forIn_list _ (λrest r s'=>r.1=none/\s'=s/\∀v∈rest,∃a ks',v=.ref a/\IsTupleKey knd s.heap ks' a) _ ?_ ?_ _ _ ⟨rfl,rfl,hy⟩
 ·rintro v rest r s' ⟨hr,rfl,all⟩
  obtain⟨a,ks',rfl,ha⟩:=all v List.mem_cons_self
  have fin:(λr (s'':Shared)=>match r with | ForInStep.yield b'=>(λ(rest:List Value) (r:Option Bool × PUnit) s''=>r.1=none/\s''=s'/\∀v∈rest,∃a ks',v=.ref a/\IsTupleKey knd s'.heap ks' a) rest b' s'' | .done b'=>wpAny (model prog w) A (match b'.1 with | none=>pure false | some a=>pure a) Q E s'') (ForInStep.yield (none,())) s':=⟨rfl,rfl,λu hu=>all u (List.mem_cons_of_mem _ hu)⟩
  dsimp only
  by_cases c:(x == a||(carriedByValue (.ref x)&&carriedByValue (.ref a)))=true
  ·rw[if_pos c]
   exact wpAny_pure fin
  ·rw[if_neg c]
   refine wpAny_bind (wpAny_eqIsQuiet_tuple hx ?_)
   simp only [Bool.not_true,Bool.false_eq_true,if_false]
   refine wpAny_bind (wpAny_eqIsQuiet_tuple ha ?_)
   simp only [Bool.not_true,Bool.false_eq_true,if_false]
   refine wpAny_bind (uy hx ?_)
   simp only [Bool.false_eq_true,if_false]
   refine wpAny_bind (uy ha ?_)
   simp only [Bool.false_eq_true,if_false]
   exact wpAny_pure fin
 ·rintro⟨r1,r2⟩ s' ⟨hr,rfl,_⟩
  cases hr
  exact wpAny_pure h
end
end TB
namespace TB
open PySem
section
variable {prog:Program}{w:World}{K:Type}[DecidableEq K]{knd:KeyKind prog w K}{A:Around}{E:Value->Shared->Prop}{s:Shared}
def ent (knd:KeyKind prog w K)(p:Addr × List K):Int × Value:=(tupleKeyHash knd p.2,.ref p.1)
def hsh (knd:KeyKind prog w K)(p:Addr × List K):Int:=tupleKeyHash knd p.2
theorem zb (knd:KeyKind prog w K)(ps:List (Addr × List K))(i:Nat):(ps.map (ent knd)).toArray[i]?=(ps[i]?).map (ent knd):=by simp
theorem PX (t:SetTable):t.sameMemory t.moves t.mask=some true:=by
 unfold SetTable.sameMemory
 simp
theorem JQ {t:SetTable}{j:Nat}(h:j∈t.place.toList):∃i:Nat,t.place[i]?=some j:=by
 obtain⟨i,hi⟩:=List.mem_iff_getElem?.mp h
 exact⟨i,by simpa using hi⟩
theorem L1 {α:Type}{c:Bool}{X:Sem Bool}{U R:Sem α}{Q:α->Shared->Prop}(hX:c=true->∀Q':Bool->Shared->Prop,Q' false s->wpAny (model prog w) A X Q' E s)(hR:wpAny (model prog w) A R Q E s) :
  wpAny (model prog w) A (if c=true then (do let b ←X; if b=true then U else R) else R) Q E s:=by
 by_cases h:c=true
 ·rw[if_pos h]
  refine wpAny_bind (hX h _ ?_)
  rw[if_neg (by decide)]
  exact hR
 ·rw[if_neg h]
  exact hR
theorem search {S x:Addr}{o:Obj}{ep:Nat}{t:SetTable}{ps:List (Addr × List K)}{ks:List K}{h:Int}{N:Nat}{Q:SetFound->Shared->Prop}(hu:A.units < cLine)
  (ho:s.heap.get? S=some o) (hd:o.data=.set (ps.map (ent knd)).toArray ep t) (H:mL t (ps.map (hsh knd))) (odd:t.gaveWay=false) (hh:h=tupleKeyHash knd ks)
  (tups:∀p∈ps,IsTupleKey knd s.heap p.2 p.1) (hx:IsTupleKey knd s.heap ks x)
  (hN:N < 10 * SetTable.turns t.mask) (free:(pr t.mask h N).j∉t.place.toList) (occ:∀k,k < N->(pr t.mask h k).j∈t.place.toList)
  (yes:(∃p∈ps,p.2=ks)->Q (.there none) s) (no:(∀p∈ps,p.2≠ks)->Q (.free (pr t.mask h N).j false) s) :
  ∀(d n fuel:Nat) (stand:Option SetTable.Probe),N - n=d->n<=N->d < fuel->stand.getD (t.probeStart h)=pr t.mask h n->
   (∀(i:Nat) (p:Addr × List K),ps[i]?=some p->p.2=ks->∀k,k < n->t.place[i]?≠some (pr t.mask h k).j)->wpAny (model prog w) A (setSearchFrom S (.ref x) h true fuel stand) Q E s:=by
 have hfit:t.fits (ps.map (ent knd)).toArray.size=true:=by
  have h1:=H.size
  have h2:=H.room
  simp only [SetTable.fits,SetTable.fill,H.plain.Gw,Bool.and_eq_true,beq_iff_eq,decide_eq_true_eq]
  simp only [Array.length_toList,List.length_map] at h1 h2
  simp
  omega
 have Vw:∀(i:Nat) (p:Addr × List K),ps[i]?=some p->(((ps.map (ent knd)).toArray[i]?).map (·.1)).getD 0=tupleKeyHash knd p.2:=λi p e=>by
  rw[zb,e]; rfl
 have WW:∀(i j:Nat),t.place[i]?=some j->∃p,ps[i]?=some p:=λi j e=>by
  have hi:i < t.place.size:=by
   rcases Nat.lt_or_ge i t.place.size with q | q
   ·exact q
   ·rw[Array.getElem?_eq_none q] at e; cases e
  have h1:=H.size
  simp only [Array.length_toList,List.length_map] at h1
  exact⟨ps[i],List.getElem?_eq_getElem (by omega)⟩
 intro d
 induction d using Nat.strongRecOn with
 | _ d ih=>
  intro n fuel stand hdn hnN hf hst hno
  obtain⟨f,rfl⟩:∃f,fuel=f+1:=⟨fuel - 1,by omega⟩
  unfold setSearchFrom
  refine wpAny_bind (wpAny_setState_of ho hd hfit ?_)
  dsimp only
  simp only [odd,Bool.false_eq_true,if_false]
  have UX:(pr t.mask h (n+(N - n))).j∉t.place.toList\/∃(i:Nat) (p:Addr × List K),t.place[i]?=some (pr t.mask h (n+(N - n))).j/\ps[i]?=some p/\tupleKeyHash knd p.2=h:=.inl (by rw[show n+(N - n)=N by omega]; exact free)
  haveI:DecidablePred λe:Nat=>(pr t.mask h (n+e)).j∉t.place.toList\/∃(i:Nat) (p:Addr × List K),t.place[i]?=some (pr t.mask h (n+e)).j/\ps[i]?=some p/\tupleKeyHash knd p.2=h:=λ_=>Classical.propDecidable _
  obtain⟨e,he,stop,before⟩:=least (p:=λe:Nat=>(pr t.mask h (n+e)).j∉t.place.toList\/∃(i:Nat) (p:Addr × List K),t.place[i]?=some (pr t.mask h (n+e)).j/\ps[i]?=some p/\tupleKeyHash knd p.2=h) (N - n) UX
  have pass:∀k,k < e->∃i,t.slot (pr t.mask h (n+k)).j=.live i/\((((ps.map (ent knd)).toArray[i]?).map (·.1)).getD 0 == h)=false:=λk hk=>by
   obtain⟨i,hi⟩:=JQ (occ (n+k) (by omega))
   obtain⟨p,hp⟩:=WW i _ hi
   refine⟨i,u6 H.plain hi,?_⟩
   rw[Vw i p hp]
   have nb:=before k hk
   have:¬ tupleKeyHash knd p.2=h:=λz=>nb (.inr ⟨i,p,hi,hp,z⟩)
   simpa using this
  by_cases c:(pr t.mask h (n+e)).j∈t.place.toList
  ·
   obtain⟨i,p,hi,hp,YI⟩:∃(i:Nat) (p:Addr × List K),t.place[i]?=some (pr t.mask h (n+e)).j/\ps[i]?=some p/\tupleKeyHash knd p.2=h:=by
    rcases stop with q | q
    ·exact absurd c q
    ·exact q
   have hlt:n+e < N:=by
    rcases Nat.lt_or_ge (n+e) N with q | q
    ·exact q
    ·have:n+e=N:=by omega
     rw[this] at c
     exact absurd c free
   have BG:∀g:Nat->Int,(∀i,g i=(((ps.map (ent knd)).toArray[i]?).map (·.1)).getD 0)->t.probe g h (stand.getD (t.probeStart h))=some (.candidate (pr t.mask h (n+e)).j i (pr t.mask h (n+e+1))):=λg hg=>by
    obtain rfl:g=λi=>(((ps.map (ent knd)).toArray[i]?).map (·.1)).getD 0:=funext hg
    rw[hst]
    exact GB e _ n (by omega) pass (u6 H.plain hi) (by rw[Vw i p hp,YI]; simp)
   rw[BG]
   rotate_left
   ·intro i; rfl
   dsimp only
   have Of:p∈ps:=List.mem_of_getElem? hp
   refine L1 (λ_ Q' q'=>Ri hx (λv hv=>?_) q') ?_
   ·obtain⟨y,hy,rfl⟩:=List.mem_map.mp hv
    have Rj:y∈(ps.map (ent knd)):=by
     have:=Array.mem_toList_iff.mp hy
     have:=(Array.mem_filter.mp this).1
     simpa using this
    obtain⟨p',xF,rfl⟩:=List.mem_map.mp Rj
    exact⟨p'.1,p'.2,rfl,tups p' xF⟩
   rw[zb,hp]
   dsimp only [Option.map_some,ent]
   refine wpAny_bind (wpAny_holding (wpAny_eqBool_tuple hu (tups p Of) hx ?_))
   refine wpAny_bind (wpAny_setState_of ho hd hfit ?_)
   dsimp only
   by_cases ek:p.2=ks
   ·rw[decide_eq_true ek]
    simp only [Bool.and_self,if_true]
    exact wpAny_pure (yes ⟨p,Of,ek⟩)
   ·rw[decide_eq_false ek]
    simp only [Bool.and_false,Bool.false_eq_true,if_false]
    rw[PX]
    dsimp only
    rw[if_pos rfl,u6 H.plain hi]
    dsimp only
    rw[zb,hp]
    dsimp only [Option.map_some,ent]
    refine wpAny_bind (wpAny_isSame_ref_self (wpAny_bind (wpAny_pure ?_)))
    rw[if_pos rfl]
    dsimp only
    refine ih (N - (n+e+1)) (by omega) (n+e+1) f _ rfl (by omega) (by omega) rfl λi' p' xF hk' k hk=>?_
    by_cases c1:k < n
    ·exact hno i' p' xF hk' k c1
    ·by_cases c2:k < n+e
     ·intro z
      have:=before (k - n) (by omega)
      rw[show n+(k - n)=k by omega] at this
      exact this (.inr ⟨i',p',z,xF,by rw[hk',hh]⟩)
     ·have:k=n+e:=by omega
      subst this
      intro z
      have e1:=o_ H.plain.rise z
      have e2:=o_ H.plain.rise hi
      have:i'=i:=by omega
      subst this
      rw[hp] at xF
      cases xF
      exact ek hk'
  ·
   have BG:∀g:Nat->Int,(∀i,g i=(((ps.map (ent knd)).toArray[i]?).map (·.1)).getD 0)->t.probe g h (stand.getD (t.probeStart h))=some (.empty (pr t.mask h (n+e)).j none):=λg hg=>by
    obtain rfl:g=λi=>(((ps.map (ent knd)).toArray[i]?).map (·.1)).getD 0:=funext hg
    rw[hst]
    exact Dv e _ n (by omega) pass (Ir H.plain c)
   rw[BG]
   rotate_left
   ·intro i; rfl
   dsimp only
   have hNe:n+e=N:=by
    rcases Nat.lt_or_ge (n+e) N with q | q
    ·exact absurd (occ _ q) c
    ·omega
   rw[hNe]
   refine wpAny_pure (no λp Of ek=>?_)
   obtain⟨i,hp⟩:=List.mem_iff_getElem?.mp Of
   have hz:∃j,t.place[i]?=some j/\(j,hsh knd p)∈t.place.toList.zip (ps.map (hsh knd)):=by
    have h1:=H.size
    simp only [Array.length_toList,List.length_map] at h1
    have hi:i < ps.length:=(List.getElem?_eq_some_iff.mp hp).1
    refine⟨t.place[i]'(by omega),Array.getElem?_eq_getElem _,List.mem_iff_getElem?.mpr ⟨i,?_⟩⟩
    rw[List.getElem?_zip_eq_some]
    refine⟨by simp [show i < t.place.size by omega],?_⟩
    rw[List.getElem?_map,hp]
    rfl
   obtain⟨j,hj,YJ⟩:=hz
   obtain⟨n0,e0,b0⟩:=H.reach _ YJ
   have Og:(pr t.mask h n0).j=j:=by
    have:hsh knd p=h:=by unfold hsh; rw[ek,hh]
    rw[this] at e0
    exact e0
   have YK:∀k,k < n0->(pr t.mask h k).j∈t.place.toList:=λk hk=>by
    have:hsh knd p=h:=by unfold hsh; rw[ek,hh]
    rw[this] at b0
    exact b0 k hk
   have jm:j∈t.place.toList:=by
    have:=Array.mem_of_getElem? hj
    exact Array.mem_toList_iff.mpr this
   have hn0:n0 < N:=by
    rcases Nat.lt_trichotomy n0 N with q | q | q
    ·exact q
    ·rw[q] at Og; rw[Og] at free; exact absurd jm free
    ·exact absurd (YK N q) free
   by_cases c1:n0 < n
   ·exact hno i p hp ek n0 c1 (by rw[Og]; exact hj)
   ·have:=before (n0 - n) (by omega)
    rw[show n+(n0 - n)=n0 by omega] at this
    exact this (.inr ⟨i,p,by rw[Og]; exact hj,hp,by rw[ek,hh]⟩)
end
end TB
namespace TB
open PySem
section
variable {prog:Program}{w:World}{K:Type}[DecidableEq K]{knd:KeyKind prog w K}{A:Around}{E:Value->Shared->Prop}{s:Shared}
def gC (m n:Nat):Prop:=(m=7/\n < 5)\/(m=31/\n < 19)\/(m=127/\n < 77)
theorem gC.whole {m n:Nat}(h:gC m n):gA m:=by
 rcases h with ⟨rfl,_⟩ | ⟨rfl,_⟩ | ⟨rfl,_⟩
 ·exact JN
 ·exact PR
 ·exact LZ
theorem gC.odd {t:SetTable}{n:Nat}(h:gC t.mask n):t.gaveWay=false:=by
 unfold SetTable.gaveWay
 rcases h with ⟨e,_⟩ | ⟨e,_⟩ | ⟨e,_⟩ <;> rw[e] <;> rfl
def gn (knd:KeyKind prog w K)(h:Heap)(S:Addr)(ps:List (Addr × List K)):Prop:=∃o ep t,h.get? S=some o/\o.ExactSet/\o.data=.set (ps.map (ent knd)).toArray ep t/\mL t (ps.map (hsh knd))/\(t.plain=true/\t.led=!w.params.followText "set-order")/\gC t.mask ps.length/\(ps.map (·.2)).Nodup
def wU (knd:KeyKind prog w K):Prop:=∀(n:Nat) (k:K) (v:Value),knd.is k v=true->hashByValue n v=pure true
theorem FY (hb:wU knd){ks:List K}{vs:List Value}(hi:ItemsAre knd ks vs):∀v∈vs,∀n,hashByValue n v=pure true:=by
 induction hi with
 | nil=>intro v hv; cases hv
 | cons h1 _ ih=>
  intro v hv n
  rcases List.mem_cons.mp hv with rfl | hv
  ·exact hb n _ _ h1
  ·exact ih v hv n
theorem CB (hb:wU knd){ks:List K}{a:Addr}{Q:Bool->Shared->Prop}(hk:IsTupleKey knd s.heap ks a)(h:Q true s):wpAny (model prog w) A (hashByValue 8 (.ref a)) Q E s:=by
 have hT:=hk.typeIs
 obtain⟨o,items,n,ho,_,hd,hi⟩:=hk
 unfold hashByValue
 refine wpAny_bind (wpAny_specialOf hT F.slot_tuple_hash.lookup ?_)
 show wpAny _ _ ((seqItems? (.ref a)) >>= _) _ _ s
 refine wpAny_bind (wpAny_seqItems ho hd ?_)
 refine wpAny_bind ?_
 show wpAny _ _ (forIn items _ _) _ _ s
 rw[←Array.forIn_toList]
 refine wpAny_forIn_list _ (λrest r s'=>r.1=none/\s'=s/\∀v∈rest,∀n,hashByValue n v=pure true) _ ?_ ?_ _ _ ⟨rfl,rfl,FY hb hi⟩
 ·rintro v rest r s' ⟨hr,rfl,all⟩
  rw[all v List.mem_cons_self]
  refine wpAny_bind (wpAny_pure ?_)
  simp only [Bool.not_true,Bool.false_eq_true,if_false]
  exact wpAny_pure ⟨rfl,rfl,λu hu=>all u (List.mem_cons_of_mem _ hu)⟩
 ·rintro⟨r1,r2⟩ s' ⟨hr,rfl,_⟩
  cases hr
  exact wpAny_pure h
def picked (ps:List (Addr × List K))(order:List Nat):List (Addr × List K):=order.filterMap (ps[·]?)
theorem iI {β:Type}(f:Addr × List K->β)(ps:List (Addr × List K))(d:β):∀(order:List Nat),(∀q∈order,q < ps.length)->(picked ps order).map f=order.map λq=>(ps.map f).getD q d
 | [],_=>rfl
 | q::r,h=>by
  have hq:=h q List.mem_cons_self
  have ih:=iI f ps d r λx hx=>h x (List.mem_cons_of_mem _ hx)
  unfold picked at ih ⊢
  rw[List.filterMap_cons,List.getElem?_eq_getElem hq]
  show f ps[q]::_=_
  rw[ih,List.map_cons]
  congr 1
  simp [hq]
theorem Iu (ps:List (Addr × List K))(order:Array Nat):(order.filterMap λq=>(ps.map (ent knd)).toArray[q]?)=((picked ps order.toList).map (ent knd)).toArray:=by
 apply Array.toList_inj.mp
 rw[Array.toList_filterMap]
 unfold picked
 rw[List.map_filterMap]
 show List.filterMap _ _=List.filterMap _ _
 congr 1
 funext q
 rw[zb]
theorem Iv {ps:List (Addr × List K)}{order:List Nat}(nd:order.Nodup)(hl:order.length=ps.length)(hb:∀q∈order,q < ps.length){p:Addr × List K}:p∈picked ps order↔p∈ps:=by
 unfold picked
 rw[List.mem_filterMap]
 constructor
 ·rintro⟨q,_,e⟩
  exact List.mem_of_getElem? e
 ·intro hp
  obtain⟨q,e⟩:=List.mem_iff_getElem?.mp hp
  have hq:q < ps.length:=(List.getElem?_eq_some_iff.mp e).1
  refine⟨q,?_,e⟩
  by_cases c:q∈order
  ·exact c
  ·have:=gB (l2:=(List.range ps.length).erase q) nd λx hx=>(List.mem_erase_of_ne (λ(z:x=q)=>c (z ▸ hx))).mpr (List.mem_range.mpr (hb x hx))
   rw[List.length_erase_of_mem (List.mem_range.mpr hq),List.length_range] at this
   omega
theorem DA {ps:List (Addr × List K)}{order:List Nat}(nd:order.Nodup)(hb:∀q∈order,q < ps.length)(hk:(ps.map (·.2)).Nodup):((picked ps order).map (·.2)).Nodup:=by
 unfold picked
 rw[List.Nodup,List.pairwise_map]
 refine List.Pairwise.filterMap _ ?_ nd
 intro a b hab x hx y hy e
 have ha:ps[a]?=some x:=hx
 have hb:ps[b]?=some y:=hy
 apply hab
 have h1:(ps.map (·.2))[a]?=some x.2:=by rw[List.getElem?_map,ha]; rfl
 have h2:(ps.map (·.2))[b]?=some x.2:=by rw[List.getElem?_map,hb,e]; rfl
 have la:=(List.getElem?_eq_some_iff.mp h1).1
 exact (List.getElem?_inj la hk).mp (h1.trans h2.symm)
theorem GC {h:Heap}{S:Addr}{o:Obj}{es:Array (Int × Value)}{ep:Nat}{t:SetTable}(ho:h.get? S=some o)(hd:o.data=.set es ep t)(es':Array (Int × Value))(t':SetTable) :
  (h.update S (Obj.putSet es' t')).get? S=some { o with data:=.set es' (ep+1) t' }:=by
 have e:=putSet_of es' t' hd
 rw[Heap.get?_update_self _ ho (by rw[e]; rfl),e]
theorem UY {S:Addr}{o:Obj}{ep wanted m:Nat}{t:SetTable}{ps:List (Addr × List K)}{Q:Unit->Shared->Prop}(ho:s.heap.get? S=some o)(hex:o.ExactSet)(hd:o.data=.set (ps.map (ent knd)).toArray ep t)(H:mL t (ps.map (hsh knd)))(hp:t.plain=true/\t.led=!w.params.followText "set-order")
  (hk:(ps.map (·.2)).Nodup) (hw:SetTable.sizeAbove wanted=m+1) (hm:gC m ps.length) (hlm:ps.length<=m)
  (h:∀h' ps',Heap.SameBut S s.heap h'->gn knd h' S ps'->(∀p,p∈ps'↔p∈ps)->ps'.length=ps.length->Q () { s with heap:=h' }):wpAny (model prog w) A (setRelay S wanted) Q E s:=by
 have hfit:t.fits (ps.map (ent knd)).toArray.size=true:=by
  have h1:=H.size
  have h2:=H.room
  simp only [SetTable.fits,SetTable.fill,H.plain.Gw,Bool.and_eq_true,beq_iff_eq,decide_eq_true_eq]
  simp only [Array.length_toList,List.length_map] at h1 h2
  simp
  omega
 have acu:m<=127:=by rcases hm with ⟨rfl,_⟩ | ⟨rfl,_⟩ | ⟨rfl,_⟩ <;> decide
 unfold setRelay
 refine wpAny_bind (wpAny_setState_of ho hd hfit ?_)
 dsimp only
 rw[if_neg (by rw[hw,sizeLine_eq]; omega)]
 obtain⟨t',order,e,e1,e2,e3,e4,e5,e6,e7,H'⟩:=JP hm.whole t.finger (t.movedTo m) t.led t.plain (ps.map (hsh knd)) (by rw[List.length_map]; exact hlm)
 rw[List.length_map] at e5 e7
 have hr:t.relaid ((ps.map (ent knd)).toArray.map (·.1)) wanted=some (t',order):=by
  unfold SetTable.relaid
  rw[hw]
  have:(ps.map (ent knd)).toArray.map (·.1)=(ps.map (hsh knd)).toArray:=by
   apply Array.toList_inj.mp
   simp [hsh,ent]
  rw[this]
  exact e
 rw[hr]
 have es':=Iu (knd:=knd) ps order
 have hlen:(picked ps order.toList).length=ps.length:=by
  have:=congrArg List.length (iI (λp=>p) ps (default:Addr × List K) order.toList e7)
  simpa [e5] using this
 have hmem:∀p,p∈picked ps order.toList↔p∈ps:=λp=>Iv e6 e5 e7
 have hH:mL t' ((picked ps order.toList).map (hsh knd)):=by
  rw[iI (hsh knd) ps 0 order.toList e7]
  exact H'
 refine wpAny_bind ?_
 show wpAny (model prog w) A (if ((order.filterMap λq=>(ps.map (ent knd)).toArray[q]?).size != (ps.map (ent knd)).toArray.size)=true then _ else pure (_,_)) _ E s
 rw[es',if_neg (by simp [hlen])]
 refine wpAny_pure ?_
 dsimp only
 refine wpAny_storeSet_of ho hd ?_ (by rw[sizeLine_eq]; simp [hlen]; omega)
 refine h _ (picked ps order.toList) (Heap.SameBut.update _ _ _) ?_ hmem hlen
 exact⟨_,ep+1,t',GC ho hd _ _,hex,rfl,hH,by rw[e3,e2]; exact hp,by rw[e1,hlen]; exact hm,DA e6 e7 hk⟩
theorem gC.next {t:SetTable}{n:Nat}(h:gC t.mask n)(hn:n < 76)(hf:t.place.size=n+1)(hdm:t.dummies=#[]):(t.tooFull=false->gC t.mask (n+1))/\(t.tooFull=true->∃m,SetTable.sizeAbove (SetTable.grown (n+1))=m+1/\gC m (n+1)/\n+1<=m):=by
 have fill:t.fill=n+1:=by unfold SetTable.fill; rw[hf,hdm]; rfl
 unfold SetTable.tooFull
 rw[fill]
 unfold gC at h ⊢
 rcases h with ⟨e,h⟩ | ⟨e,h⟩ | ⟨e,h⟩
 ·rw[e]
  constructor
  ·intro c
   have:¬ (n+1) * 5 >= 7 * 3:=by simpa using c
   exact .inl ⟨rfl,by omega⟩
  ·intro c
   have c':(n+1) * 5 >= 7 * 3:=by simpa using c
   have:n=4:=by omega
   subst this
   exact⟨31,by decide,.inr (.inl ⟨rfl,by omega⟩),by omega⟩
 ·rw[e]
  constructor
  ·intro c
   have:¬ (n+1) * 5 >= 31 * 3:=by simpa using c
   exact .inr (.inl ⟨rfl,by omega⟩)
  ·intro c
   have c':(n+1) * 5 >= 31 * 3:=by simpa using c
   have:n=18:=by omega
   subst this
   exact⟨127,by decide,.inr (.inr ⟨rfl,by omega⟩),by omega⟩
 ·rw[e]
  constructor
  ·intro c
   exact .inr (.inr ⟨rfl,by omega⟩)
  ·intro c
   have c':(n+1) * 5 >= 127 * 3:=by simpa using c
   omega
theorem gC.room {m n:Nat}(h:gC m n):n+1<=m:=by
 rcases h with ⟨rfl,_⟩ | ⟨rfl,_⟩ | ⟨rfl,_⟩ <;> omega
theorem DB {α β:Type}(f:α->β)(l:List α)(p:Nat)(x:α)(h:p<=l.length):SetTable.insertAt (l.map f).toArray p (f x)=((l.take p++x::l.drop p).map f).toArray:=by
 apply Array.toList_inj.mp
 rw[ux _ _ _ (by simpa using h)]
 simp
theorem add {S x:Addr}{ps:List (Addr × List K)}{ks:List K}{Q:Bool->Shared->Prop}(hb:wU knd)(hu:A.units < cLine)(hS:gn knd s.heap S ps)(tups:∀p∈ps,IsTupleKey knd s.heap p.2 p.1)(hx:IsTupleKey knd s.heap ks x)(hn:ps.length < 76)
  (h:∀b h' ps',Heap.SameBut S s.heap h'->gn knd h' S ps'->(∀p,p∈ps'->p∈ps\/p=(x,ks))->(∀p∈ps,p∈ps')->(∃p∈ps',p.2=ks)->ps'.length<=ps.length+1->Q b { s with heap:=h' }) :
  wpAny (model prog w) A (setAddHashed S (.ref x) (tupleKeyHash knd ks)) Q E s:=by
 obtain⟨o,ep,t,ho,hex,hd,H,hp,hm,hk⟩:=id hS
 have hfit:t.fits (ps.map (ent knd)).toArray.size=true:=by
  have h1:=H.size
  have h2:=H.room
  simp only [SetTable.fits,SetTable.fill,H.plain.Gw,Bool.and_eq_true,beq_iff_eq,decide_eq_true_eq]
  simp only [Array.length_toList,List.length_map] at h1 h2
  simp
  omega
 unfold setAddHashed
 refine wpAny_holding ?_
 unfold setAddHashedIn
 refine wpAny_bind (wpAny_setState_of ho hd hfit ?_)
 dsimp only
 have YL:byScan (.ref x) (ps.map (ent knd)).toArray=false:=rfl
 rw[YL]
 simp only [Bool.false_eq_true,if_false]
 obtain⟨N,hN,free,occ⟩:=H.first (tupleKeyHash knd ks)
 have htb:SetTable.turns t.mask<=142:=by
  unfold SetTable.turns
  rcases hm with ⟨e,_⟩ | ⟨e,_⟩ | ⟨e,_⟩ <;> omega
 unfold setSearch
 refine wpAny_bind (search (ks:=ks) (x:=x) hu ho hd H hm.odd rfl tups hx hN free occ (λyes=>?_) (λno=>?_) N 0 100000 none (by omega) (Nat.zero_le _) (by omega) rfl λ_ _ _ _ k hk=>absurd hk (by omega))
 ·dsimp only
  refine wpAny_pure ?_
  have:=h false s.heap ps ⟨rfl,λ_ _=>rfl⟩ hS (λp hp=>.inl hp) (λp hp=>hp) yes (by omega)
  exact this
 ·dsimp only
  refine wpAny_bind (wpAny_setState_of ho hd hfit ?_)
  dsimp only
  have hj:=(Du t.mask (tupleKeyHash knd ks) N).1
  obtain⟨b1,b2,b3,b4,H2⟩:=H.put free hj ⟨N,rfl,occ⟩ (by rw[List.length_map]; exact hm.room)
  rw[List.length_map] at b1 b3
  have hpl:(t.put (pr t.mask (tupleKeyHash knd ks) N).j).1.plain=true/\(t.put (pr t.mask (tupleKeyHash knd ks) N).j).1.led=!w.params.followText "set-order":=hp
  rw[hpl.1]
  simp only [if_true]
  refine wpAny_bind (CB hb hx ?_)
  simp only [if_true]
  have arr:SetTable.insertAt (ps.map (ent knd)).toArray (t.put (pr t.mask (tupleKeyHash knd ks) N).j).2 (tupleKeyHash knd ks,Value.ref x)=((ps.take (t.put (pr t.mask (tupleKeyHash knd ks) N).j).2++(x,ks)::ps.drop (t.put (pr t.mask (tupleKeyHash knd ks) N).j).2).map (ent knd)).toArray:=
   DB (ent knd) ps _ (x,ks) b1
  rw[arr]
  generalize hp2:(t.put (pr t.mask (tupleKeyHash knd ks) N).j).2=q at *
  have H3:mL (t.put (pr t.mask (tupleKeyHash knd ks) N).j).1 ((ps.take q++(x,ks)::ps.drop q).map (hsh knd)):=by
   have e:(ps.take q++(x,ks)::ps.drop q).map (hsh knd)=(ps.map (hsh knd)).take q++tupleKeyHash knd ks::(ps.map (hsh knd)).drop q:=by
    rw[List.map_append,List.map_cons,List.map_take,List.map_drop]
    rfl
   rw[e]
   exact H2
  generalize L3:ps.take q++(x,ks)::ps.drop q=ps' at *
  have hlen:ps'.length=ps.length+1:=by
   rw[←L3,List.length_append,List.length_cons,List.length_take,List.length_drop]
   omega
  have hmem:∀p,p∈ps'↔p=(x,ks)\/p∈ps:=λp=>by rw[←L3]; exact wQ
  have hk':(ps'.map (·.2)).Nodup:=by
   rw[←L3,List.map_append,List.map_cons,List.map_take,List.map_drop]
   have nin:ks∉ps.map (·.2):=λz=>by
    obtain⟨p,hp,e⟩:=List.mem_map.mp z
    exact no p hp e
   have sp:((ps.map (·.2)).take q++(ps.map (·.2)).drop q).Nodup:=by rw[List.take_append_drop]; exact hk
   rw[List.nodup_append] at sp ⊢
   refine⟨sp.1,List.nodup_cons.mpr ⟨λz=>nin (List.mem_of_mem_drop z),sp.2.1⟩,λa ha b hb e=>?_⟩
   rcases List.mem_cons.mp hb with rfl | hb
   ·exact nin (e ▸ List.mem_of_mem_take ha)
   ·exact sp.2.2 a ha b hb e
  generalize acA:(t.put (pr t.mask (tupleKeyHash knd ks) N).j).1=t2 at *
  have hsz:(ps'.map (ent knd)).toArray.size<=sizeLine:=by rw[sizeLine_eq]; simp [hlen]; omega
  refine wpAny_bind (wpAny_storeSet_of ho hd ?_ hsz)
  have hm2:gC t2.mask ps.length:=by rw[b2]; exact hm
  obtain⟨n1,n2⟩:=hm2.next hn b3 b4
  have hget:=GC ho hd (ps'.map (ent knd)).toArray t2
  have first:(∀p,p∈ps'->p∈ps\/p=(x,ks))/\(∀p∈ps,p∈ps')/\(∃p∈ps',p.2=ks):=⟨λp hp=>((hmem p).mp hp).symm,λp hp=>(hmem p).mpr (.inr hp),(x,ks),(hmem _).mpr (.inl rfl),rfl⟩
  have YM:(ps.map (ent knd)).toArray.size+1=ps.length+1:=by simp
  cases c:t2.tooFull with
  | false=>
   simp only [Bool.not_false,Bool.and_false,Bool.false_eq_true,if_false]
   refine wpAny_pure ?_
   refine h true _ ps' (Heap.SameBut.update _ _ _) ?_ first.1 first.2.1 first.2.2 (by omega)
   exact⟨_,ep+1,t2,hget,hex,rfl,H3,hpl,by rw[hlen]; exact n1 c,hk'⟩
  | true=>
   simp only [Bool.not_false,Bool.and_self,if_true]
   obtain⟨m,w1,w2,w3⟩:=n2 c
   rw[YM]
   refine wpAny_bind (UY (s:={ s with heap:=s.heap.update S (Obj.putSet (ps'.map (ent knd)).toArray t2) }) hget hex rfl H3 hpl hk' w1 (by rw[hlen]; exact w2) (by rw[hlen]; exact w3) λh' ps2 sb rL hm2 hl2=>?_)
   refine wpAny_pure ?_
   obtain⟨p0,hp0,YN⟩:=first.2.2
   refine h true h' ps2 ((Heap.SameBut.update _ _ _).trans sb) rL (λp hp=>first.1 p ((hm2 p).mp hp)) (λp hp=>(hm2 p).mpr (first.2.1 p hp)) ⟨p0,(hm2 p0).mpr hp0,YN⟩ (by omega)
end
end TB
namespace TB
open PySem PySem.Spec
section
variable {prog:Program}{w:World}{K:Type}[DecidableEq K]{knd:KeyKind prog w K}{A:Around}{E:Value->Shared->Prop}{s:Shared}
theorem u_ {h h':Heap}{ks:List K}{a:Addr}(x:IsTupleKey knd h ks a)(k:∀o,h.get? a=some o->h'.get? a=some o):IsTupleKey knd h' ks a:=by
 obtain⟨o,items,n,ho,r⟩:=x
 exact⟨o,items,n,k o ho,r⟩
theorem gn.ne {h:Heap}{S a:Addr}{ps:List (Addr × List K)}{ks:List K}(x:gn knd h S ps)(y:IsTupleKey knd h ks a):a≠S:=by
 rintro rfl
 obtain⟨o,_,_,ho,ex,_⟩:=x
 obtain⟨o',_,_,ho',hc,_⟩:=y
 rw[ho] at ho'
 cases ho'
 rw[ex.1] at hc
 exact absurd hc (by decide)
theorem gn.at_ {h h':Heap}{S:Addr}{ps:List (Addr × List K)}(x:gn knd h S ps)(k:∀o,h.get? S=some o->h'.get? S=some o):gn knd h' S ps:=by
 obtain⟨o,ep,t,ho,r⟩:=x
 exact⟨o,ep,t,k o ho,r⟩
def DC (xs:List (Addr × List K))(M:Nat):Prop:=∀l:List (List K),l.Nodup->(∀k∈l,∃p∈xs,p.2=k)->l.length<=M
theorem DC.ps {xs ps:List (Addr × List K)}{M:Nat}(f:DC xs M)(nd:(ps.map (·.2)).Nodup)(sub:∀p∈ps,p∈xs):ps.length<=M:=by
 have:=f _ nd λk hk=>by
  obtain⟨p,hp,rfl⟩:=List.mem_map.mp hk
  exact⟨p,sub p hp,rfl⟩
 rwa [List.length_map] at this
variable {I:Addr}{fp wr:List Addr}{n:Nat}{P:Nat->Value->Prop}{St:Nat->Heap->Prop}{R:Result->Shared->Prop}
theorem PY (W:Walks prog w A.in1 I fp wr n P St)(S:Addr)(hSf:S∉fp){xs:List (Addr × List K)}(hn:xs.length=n)(hval:∀(i:Nat) (v:Value),P i v->∃p,xs[i]?=some p/\v=.ref p.1)(hw:∀p∈xs,p.1∉wr)
  (hb:wU knd) (hu:A.in1.units < cLine) (few:DC xs 75) :
  ∀(k i:Nat) (s:Shared) (ps:List (Addr × List K)),n - i=k->i<=n->St i s.heap->gn knd s.heap S ps->(∀p∈xs,IsTupleKey knd s.heap p.2 p.1)->(∀p∈ps,p∈xs)->(∀p∈xs.take i,∃q∈ps,q.2=p.2)->
   (∀h' tk ps',(∀b o,b≠S->b∉wr->s.heap.get? b=some o->h'.get? b=some o)->gn knd h' S ps'->(∀p∈ps',p∈xs)->(∀p∈xs,∃q∈ps',q.2=p.2)->R (.ok (.ret .none)) { s with heap:=h',toks:=tk })->
   codeAny (model prog w) A (.builtin "set.update.loop" ⟨[.ref S,.ref I],[]⟩) R s:=by
 have Vx:S∉wr:=λh=>hSf (W.sub _ h)
 intro k
 induction k with
 | zero=>
  intro i s ps hk hi hst hS tups sub all hR
  obtain rfl:i=n:=by omega
  refine codeAny_builtin PyProof.Rows.F.entry_set_update_loop ?_
  rw[Around.under_plainId PyProof.Rows.F.plain_set_update_loop _]
  show wpAny _ A.in1 (pyNext (.ref I) >>= _) _ _ s
  refine wpAny_bind (W.done s _ _ hst λh' tk hm=>?_)
  show wpAny _ A.in1 (ret Value.none) _ _ _
  refine wpAny_pure (hR h' tk ps (λb o _ hb e=>hm b o hb e) (hS.at_ λo e=>hm S o Vx e) sub ?_)
  rw[←hn,List.take_length] at all
  exact all
 | succ k ih=>
  intro i s ps hk hi hst hS tups sub all hR
  have hlt:i < n:=by omega
  refine codeAny_builtin PyProof.Rows.F.entry_set_update_loop ?_
  rw[Around.under_plainId PyProof.Rows.F.plain_set_update_loop _]
  show wpAny _ A.in1 (pyNext (.ref I) >>= _) _ _ s
  refine wpAny_bind (W.item i s _ _ hlt hst λv h' tk hP WX hm=>?_)
  obtain⟨p,hp,rfl⟩:=hval i v hP
  have hpx:p∈xs:=List.mem_of_getElem? hp
  have hS':gn knd h' S ps:=hS.at_ λo e=>hm S o Vx e
  have oM:∀q∈xs,IsTupleKey knd h' q.2 q.1:=λq hq=>u_ (tups q hq) λo e=>hm _ o (hw q hq) e
  show wpAny _ A.in1 (holding [Value.ref p.1] (setAdd S (.ref p.1)) >>= _) _ _ _
  refine wpAny_bind (wpAny_holding ?_)
  unfold setAdd
  refine wpAny_holding ?_
  refine wpAny_bind (wpAny_pyHash_tuple hu (oM p hpx) ?_)
  have acB:ps.length<=75:=few.ps (let ⟨_,_,_,_,_,_,_,_,_,nd⟩:=hS; nd) sub
  refine add (s:={ s with heap:=h',toks:=tk+(p.2.length+1) }) hb hu hS' (λq hq=>oM q (sub q hq)) (oM p hpx) (by omega) λb h2 ps2 sb rL m1 m2 m3 hl=>?_
  have keep:∀b o,b≠S->h'.get? b=some o->h2.get? b=some o:=λb o hb e=>(sb.2 b hb).trans e
  refine wpAny_pure ⟨plainId_quiet PyProof.Rows.F.plain_set_update_loop _,ih (i+1) _ ps2 (by omega) hlt (W.frame _ _ _ WX λb hb o e=>?_) rL (λq hq=>u_ (oM q hq) λo e=>keep _ o (hS'.ne (oM q hq)) e) (λq hq=>?_) (λq hq=>?_) λh3 YO YQ kp YR s3 a3=>?_⟩
  ·exact keep b o (λ(h:b=S)=>hSf (h ▸ hb)) e
  ·rcases m1 q hq with z | z
   ·exact sub q z
   ·rw[z]; exact hpx
  ·have htk:xs.take (i+1)=xs.take i++[p]:=by rw[List.take_succ,hp]; rfl
   rw[htk] at hq
   rcases List.mem_append.mp hq with z | z
   ·obtain⟨q',hq',e⟩:=all q z
    exact⟨q',m2 q' hq',e⟩
   ·rw[List.mem_singleton.mp z]; exact m3
  ·exact hR h3 YO YQ (λb o h1 h2' e=>kp b o h1 h2' (keep b o h1 (hm b o h2' e))) YR s3 a3
end
section
variable {prog:Program}{w:World}{K:Type}[DecidableEq K]{knd:KeyKind prog w K}{A:Around}{E:Value->Shared->Prop}{s:Shared}
theorem PZ {h:Heap}{S:Addr}{led:Bool}(hl:led=!w.params.followText "set-order")(e:h.get? S=some { cls:=.type "set",dict:=none,data:=.set #[] 0 (.fresh 0 0 led) }):gn knd h S []:=by
 refine⟨_,0,.fresh 0 0 led,e,⟨rfl,rfl,rfl⟩,rfl,⟨⟨?_,rfl⟩,JN,rfl,?_,?_,?_⟩,⟨rfl,hl⟩,.inl ⟨rfl,by show 0 < 5; decide⟩,List.nodup_nil⟩
 ·intro a b _ hb
  exact absurd hb (by show ¬ b < 0; omega)
 ·intro j hj; cases hj
 ·exact Nat.zero_le _
 ·intro x hx; cases hx
theorem P0 (a:Value){Q:Value->Shared->Prop}(h:Q (.ref s.heap.objs.size) { s with heap:=s.heap.push { cls:=.type "set",dict:=none,data:=.set #[] 0 (.fresh 0 0 (!w.params.followText "set-order")) } }) :
  codeAny (model prog w) A (.call (.builtin "set.__new__") ⟨[.type "set",a],[]⟩) (wants Q E) s:=by
 refine codeAny_of_tree ?_
 show wpAny _ A.in1 (checkBuiltinCall "set.__new__" ⟨[.type "set",a],[]⟩ >>= λ_=>again (.builtin "set.__new__" ⟨[.type "set",a],[]⟩)) _ _ s
 refine wpAny_bind (wpAny_of_eq (F.newCall_set_1 a) (wpAny_pure ⟨plainId_quiet F.plain_set_new _,codeAny_builtin F.entry_set_new ?_⟩))
 rw[Around.under_plainId F.plain_set_new _]
 unfold Builtin.«set.__new__» Builtin.Frozenset.newClass
 have sub:=sub_set_self
 obtain⟨hp,g,d,tk,os⟩:=s
 dsimp only
 wp_walk
 refine wpAny_askSetting (wpAny_pure ?_)
 dsimp only
 simp only [newObj]
 exact wpAny_bind (wpAny_alloc (wpAny_pure (wpAny_pure h)))
set_option maxHeartbeats 3200000 in
theorem L_ {l:Addr}{xs:List (Addr × List K)}{Q:Value->Shared->Prop}(hh:A.handled=none)(hl:s.heap.IsList l (xs.map λp=>Value.ref p.1).toArray)(tups:∀p∈xs,IsTupleKey knd s.heap p.2 p.1)(hb:wU knd)(hu:A.units+8 < cLine)(few:DC xs 75)
  (h:∀(h':Heap) (tk:Nat) (ps:List (Addr × List K)),gn knd h' s.heap.objs.size ps->(∀p∈ps,p∈xs)->(∀p∈xs,∃q∈ps,q.2=p.2)->(∀b o,s.heap.get? b=some o->h'.get? b=some o)->Q (.ref s.heap.objs.size) { s with heap:=h',toks:=tk }) :
  wpAny (model prog w) A (call (.type "set") [.ref l]) Q E s:=by
 have c1:=F.called_set.mro
 obtain⟨c,tl,acC⟩:=c1
 have hmade:=F.called_set.made
 have hsub:=F.called_set.sub
 refine wpAny_call (codeAny_of_tree ?_)
 show wpAny _ _ (callAny (.type "set") _) _ _ _
 refine wpAny_pure ⟨Code.quiet_builtin _ (by decide +kernel),codeAny_builtin F.entry_type_call ?_⟩
 rw[Around.under_plain (weight_type_call_type "set" [.ref l] []) rfl]
 have h1:=F.called_set.notType
 have h2:=F.called_set.canCreate
 have hct:=F.typeCall_set_1 (.ref l)
 repeat (any_goals (first | assumption | wp_step))
 refine codeAny_mono (P0 (.ref l) (E:=E) (Q:=λobj s₁=>∃led:Bool,led=(!w.params.followText "set-order")/\obj=.ref s.heap.objs.size/\s₁={ s with heap:=s.heap.push { cls:=.type "set",dict:=none,data:=.set #[] 0 (.fresh 0 0 led) } }) ⟨_,rfl,rfl,rfl⟩) λr s₁ hr=>?_
 match r,hr with
 | .error e,hr=>exact hr
 | .ok (.ret obj),hr=>
  obtain⟨led,WY,rfl,rfl⟩:=hr
  generalize hso:({ cls:=.type "set",dict:=none,data:=.set #[] 0 (.fresh 0 0 led) }:Obj)=so at *
  have hS:(s.heap.push so).get? s.heap.objs.size=some so:=Heap.get?_push_size _ (by rw[←hso]; rfl)
  have hT:Shared.TypeIs { s with heap:=s.heap.push so } (.ref s.heap.objs.size) "set":=⟨_,hS,by rw[←hso]⟩
  have hli:=F.called_set.init.lookup
  have hbi:=F.called_set.init.bind (.ref s.heap.objs.size)
  repeat (any_goals (first | assumption | wp_step))
  refine codeAny_mono (codeAny_call_builtin (R:=wants (λr s₂=>r=.none/\∃h' tk,s₂={ s with heap:=h',toks:=tk }/\∃ps,gn knd h' s.heap.objs.size ps/\(∀p∈ps,p∈xs)/\(∀p∈xs,∃q∈ps,q.2=p.2)/\∀b o,s.heap.get? b=some o->h'.get? b=some o) E)
   F.called_set.init.plain F.entry_set_init (check_set_init_1 hT ?_)) λr₂ s₂ hr₂=>?_
  ·obtain⟨ol,Vy,hcl,nl,hdl⟩:=hl
   obtain⟨acD,acv,acw,YS⟩:=ol
   simp only at hcl hdl
   subst hcl; subst hdl
   have WZ:=Heap.get?_push_of_some (h:=s.heap) so Vy
   have acE:=F.sub_list_set
   have acF:=F.sub_list_frozenset
   have hne:(Value.type "list" == Value.type "dict")=false:=by decide
   have hl1:(s.heap.push so).IsList l (xs.map λp=>Value.ref p.1).toArray:=⟨_,WZ,rfl,nl,rfl⟩
   subst hso
   unfold Builtin.«set.__init__» noKeywords Builtin.Frozenset.updateFrom
   generalize YT:pyIter=PI
   wp_walk
   subst YT
   generalize hso:({ cls:=.type "set",dict:=none,data:=.set #[] 0 (.fresh 0 0 led) }:Obj)=so at *
   refine wpAny_pyIter_list hl1 ?_
   refine wpAny_bind (wpAny_runValue ?_)
   have hlS:l < s.heap.objs.size:=Heap.lt_size Vy
   have sz:(s.heap.push so).objs.size=s.heap.objs.size+1:=Heap.size_push ..
   have W0:l≠(s.heap.push so).objs.size:=by rw[sz]; exact Nat.ne_of_lt (Nat.lt_succ_of_lt hlS)
   have hSf:s.heap.objs.size∉[(s.heap.push so).objs.size,l]:=by
    rw[sz]
    simp only [List.mem_cons,List.not_mem_nil,or_false,not_or]
    exact⟨Nat.ne_of_lt (Nat.lt_succ_self _),Nat.ne_of_gt hlS⟩
   have YU:∀p∈xs,p.1 < s.heap.objs.size:=λp hp=>let ⟨_,_,_,ho,_⟩:=tups p hp; Heap.lt_size ho
   have UZ:=Heap.get?_push_of_some (h:=s.heap.push so) { cls:=.type "list_iterator",data:=.fields #[.ref l,.int 0 0] } hS
   refine PY (knd:=knd) (Walks.list (by simp [hh]) _ l W0 (xs.map λp=>Value.ref p.1).toArray) s.heap.objs.size hSf (xs:=xs) (by simp) (λi v hv=>?_) (λp hp=>?_) hb (by show A.in1.in1.in1.units < cLine; simp only [Around.in1]; omega) few _ 0 _ [] rfl (Nat.zero_le _)
    ⟨⟨_,Heap.get?_push_size _ rfl,rfl,rfl⟩,hl1.push _⟩ (PZ (led:=led) WY (by rw[hso]; exact UZ)) (λp hp=>u_ (tups p hp) λo e=>Heap.get?_push_of_some _ (Heap.get?_push_of_some _ e)) (λp hp=>absurd hp (by simp)) (λp hp=>absurd hp (by simp)) λh' tk ps kp hS' m1 m2=>?_
   ·simp at hv
    obtain⟨a,⟨b,hp⟩,rfl⟩:=hv
    exact⟨(a,b),hp,rfl⟩
   ·rw[sz]
    have:=YU p hp
    simp only [List.mem_cons,List.not_mem_nil,or_false]
    exact Nat.ne_of_lt (Nat.lt_succ_of_lt this)
   ·show wpAny _ _ _ _ _ _
    refine wpAny_pure ?_
    show wpAny _ _ (ret Value.none) _ _ _
    refine wpAny_pure ⟨rfl,h',tk,rfl,ps,hS',m1,m2,λb o e=>?_⟩
    have hb:=Heap.lt_size e
    refine kp b o (Nat.ne_of_lt hb) (by rw[sz]; simp only [List.mem_cons,List.not_mem_nil,or_false]; exact Nat.ne_of_lt (Nat.lt_succ_of_lt hb)) (Heap.get?_push_of_some _ (Heap.get?_push_of_some _ e))
  ·match r₂,hr₂ with
   | .error e,hr₂=>exact hr₂
   | .ok (.ret r),hr₂=>
    obtain⟨rfl,h',tk,rfl,ps,hS',m1,m2,kp⟩:=hr₂
    repeat (any_goals (first | assumption | wp_step))
    exact h _ _ ps hS' m1 m2 kp
end
end TB
namespace TB
open PySem PySem.Spec
namespace SF
theorem slot_next:Slot "set_iterator" "__next__" "set_iterator.__next__":=
 .of (owner:="set_iterator") (n:="__next__") (by rw[typeLookup_type,builtinLookup_eq_fast]; kernel_rfl) (by decide +kernel) (by decide +kernel) (by decide +kernel) (by first | exact .inl (by decide +kernel) | exact .inr (by decide +kernel)) (by rw[isSubtype_type]; kernel_rfl)
theorem entry_next:entryFor table "set_iterator.__next__"=some Builtin.«set_iterator.__next__»:=entryFor_of_fast (by kernel_rfl)
theorem args_next (a:Value):argsOk "set_iterator.__next__" ⟨[a],[]⟩:=by unfold argsOk; kernel_rfl
theorem Iw:entryFor table "set.__iter__"=some Builtin.«frozenset.__iter__»:=entryFor_alias (id':="frozenset.__iter__") (by kernel_rfl) rfl (by decide +kernel) (by kernel_rfl)
end SF
theorem zc {α:Type}:∀(l:List α) (i:Nat) (h:i < l.length),(l[i]::l.eraseIdx i).Perm l
 | x::xs,0,_=>List.Perm.refl _
 | x::xs,i+1,h=>(List.Perm.swap _ _ _).trans ((zc xs i (by simpa using h)).cons x)
theorem vc {α:Type}(next:Nat->Nat):∀(fuel k:Nat) (left:List α) (out:Array α),left.length<=fuel->(pickOrder.go next fuel k left out).toList.Perm (out.toList++left)
 | 0,k,left,out,h=>by
  have:left=[]:=List.length_eq_zero_iff.mp (by omega)
  subst this
  unfold pickOrder.go
  simp
 | fuel+1,k,[],out,h=>by
  unfold pickOrder.go
  simp
 | fuel+1,k,x::xs,out,h=>by
  have hlt:next k % (x::xs).length < (x::xs).length:=Nat.mod_lt _ (by simp)
  unfold pickOrder.go
  rw[List.getElem?_eq_getElem hlt]
  refine (vc next fuel (k+1) _ _ (by rw[List.length_eraseIdx_of_lt hlt]; simp at h ⊢; omega)).trans ?_
  rw[Array.toList_push,List.append_assoc]
  exact List.Perm.append_left _ (zc _ _ hlt)
theorem JR {α:Type}(next:Nat->Nat)(xs:Array α):(pickOrder next xs).toList.Perm xs.toList:=by
 have:=vc next xs.size 0 xs.toList #[] (by simp)
 show (pickOrder.go next xs.size 0 xs.toList #[]).toList.Perm xs.toList
 simpa using this
section
variable {prog:Program}{w:World}{K:Type}[DecidableEq K]{knd:KeyKind prog w K}{A:Around}{E:Value->Shared->Prop}{s:Shared}
def dY (w:World)(S:Addr)(ep:Nat)(es:Array (Int × Value)):Array (Int × Value):=if w.params.followText "set-order"=true then pickOrder (w.params.setOrder S ep) es else es
theorem BH (w:World)(S:Addr)(ep:Nat)(es:Array (Int × Value)):(dY w S ep es).toList.Perm es.toList:=by
 unfold dY
 split
 ·exact JR _ _
 ·exact List.Perm.refl _
structure zd (w:World)(h:Heap)(I S:Addr)(t:SetTable)(n ep i:Nat):Prop where
 at_:∃slot:Nat,h.get? I=some { cls:=.type "set_iterator",dict:=none,data:=.fields #[rawInt slot,rawInt i,.ref S,rawInt n,rawInt ep],slots:=#[] }/\(w.params.followText "set-order"=false->SetTable.below t.place slot=i)
theorem zd.typeIs {I S:Addr}{t:SetTable}{n ep i:Nat}(x:zd w s.heap I S t n ep i):s.TypeIs (.ref I) "set_iterator":=by
 obtain⟨slot,e,_⟩:=x.at_
 exact⟨_,e,rfl⟩
variable {S I:Addr}{o:Obj}{es:Array (Int × Value)}{ep:Nat}{t:SetTable}
theorem DE {Q:Bool->Shared->Prop}(h:Q (w.params.followText "set-order") s):wpAny (model prog w) A setsByText Q E s:=by
 unfold setsByText
 exact wpAny_bind (wpAny_askSetting (wpAny_pure h))
theorem GD {slot i:Nat}{Q:Option (Value × Nat)->Shared->Prop}(ho:s.heap.get? S=some o)(hd:o.data=.set es ep t)(hf:t.fits es.size=true)(hr:yf t.place)(hp:t.plain=true)(hl:t.led=!w.params.followText "set-order")(hs:w.params.followText "set-order"=false->SetTable.below t.place slot=i)
  (h1:∀v,((dY w S ep es)[i]?).map (·.2)=some v->∀slot',(w.params.followText "set-order"=false->SetTable.below t.place slot'=i+1)->Q (some (v,slot')) s) (h2:(dY w S ep es)[i]?=none->Q none s):wpAny (model prog w) A (setNext S slot i ep) Q E s:=by
 have hsz:t.place.size=es.size:=by
  simp only [SetTable.fits,Bool.and_eq_true,beq_iff_eq] at hf
  exact hf.1
 unfold setNext
 refine wpAny_bind (wpAny_setState_of ho hd hf ?_)
 dsimp only
 refine wpAny_bind (DE ?_)
 cases c:w.params.followText "set-order" with
 | true=>
  have ord:dY w S ep es=pickOrder (w.params.setOrder S ep) es:=by unfold dY; rw[if_pos c]
  rw[ord] at h1 h2
  simp only [if_true,bne_self_eq_false,Bool.false_eq_true,if_false]
  unfold setWalk
  refine wpAny_bind (wpAny_bind (wpAny_setState_of ho hd hf ?_))
  dsimp only
  refine wpAny_bind (DE ?_)
  rw[c,if_pos rfl]
  refine wpAny_bind (wpAny_askSetting (wpAny_pure ?_))
  refine wpAny_pure ?_
  show Q (((pickOrder (w.params.setOrder S ep) es)[i]?).map λe=>(e.2,slot)) s
  cases e:(pickOrder (w.params.setOrder S ep) es)[i]? with
  | none=>exact h2 e
  | some x=>exact h1 x.2 (by rw[e]; rfl) slot λz=>by rw[c] at z; cases z
 | false=>
  have ord:dY w S ep es=es:=by unfold dY; rw[c]; rfl
  rw[ord] at h1 h2
  have hl':t.led=true:=by rw[hl,c]; rfl
  have hb:=hs c
  simp only [Bool.false_eq_true,if_false]
  show wpAny _ _ (if (!t.plain&&decide (es.size > 1))=true then _ else _) _ _ _
  rw[hp,if_neg (by simp)]
  show wpAny _ _ ((if (!t.led&&!es.isEmpty)=true then _ else _) >>= _) _ _ _
  rw[hl',if_neg (by simp)]
  refine wpAny_bind (wpAny_pure ?_)
  refine wpAny_pure ?_
  rw[hb]
  cases e:es[i]? with
  | none=>exact h2 e
  | some x=>
   have hi:i < es.size:=by
    rcases Nat.lt_or_ge i es.size with q | q
    ·exact q
    ·rw[Array.getElem?_eq_none q] at e; cases e
   have hi2:i < t.place.size:=by omega
   rw[Array.getElem?_eq_getElem hi2]
   refine h1 x.2 (by rw[e]; rfl) _ λ_=>?_
   obtain⟨b1,b2,b3⟩:=oK hr (t.place[i]+1)
   have gi:t.place.getD i 0=t.place[i]:=by simp [Array.getD,hi2]
   rcases Nat.lt_trichotomy (SetTable.below t.place (t.place[i]+1)) (i+1) with q | q | q
   ·have:=b3 i (by omega) hi2
    rw[gi] at this; omega
   ·exact q
   ·have:=b2 (i+1) q
    have h3:=hr i (i+1) (by omega) (by omega)
    rw[gi] at h3; omega
end
end TB
namespace TB
open PySem PySem.Spec
namespace SF
theorem ze:Slot "set_iterator" "__iter__" "set_iterator.__iter__":=
 .of (owner:="set_iterator") (n:="__iter__") (by rw[typeLookup_type,builtinLookup_eq_fast]; kernel_rfl) (by decide +kernel) (by decide +kernel) (by decide +kernel) (by first | exact .inl (by decide +kernel) | exact .inr (by decide +kernel)) (by rw[isSubtype_type]; kernel_rfl)
theorem FZ:entryFor table "set_iterator.__iter__"=some Builtin.«dict_keyiterator.__iter__»:=entryFor_alias (id':="dict_keyiterator.__iter__") (by kernel_rfl) rfl (by decide +kernel) (by kernel_rfl)
theorem Iz (a:Value):argsOk "set_iterator.__iter__" ⟨[a],[]⟩:=by unfold argsOk; kernel_rfl
end SF
section
variable {prog:Program}{w:World}{K:Type}[DecidableEq K]{knd:KeyKind prog w K}{A:Around}{E:Value->Shared->Prop}{s:Shared}
variable {S I:Addr}{o:Obj}{es:Array (Int × Value)}{ep:Nat}{t:SetTable}
structure Calm (w:World)(o:Obj)(es:Array (Int × Value))(ep:Nat)(t:SetTable):Prop where
 ex:o.ExactSet
 data:o.data=.set es ep t
 fits:t.fits es.size=true
 rise:yf t.place
 plain:t.plain=true
 led:t.led=!w.params.followText "set-order"
theorem vd (w:World)(S:Addr)(ep:Nat)(es:Array (Int × Value)):(dY w S ep es).size=es.size:=by
 have:=(BH w S ep es).length_eq
 simpa using this
theorem walks (hh:A.handled=none)(I S:Addr)(hne:S≠I)(C:Calm w o es ep t) :
  Walks prog w A I [I,S] [I] es.size (λi v=>((dY w S ep es)[i]?).map (·.2)=some v) (λi h=>zd w h I S t es.size ep i/\h.get? S=some o) where
 sub:=λb hb=>by simp at hb; simp [hb]
 frame:=λi h h' st hk=>by
  obtain⟨⟨slot,e,z⟩,e2⟩:=st
  exact⟨⟨slot,hk I (by simp) _ e,z⟩,hk S (by simp) _ e2⟩
 item:=λi s Q E hi st hQ=>by
  obtain⟨it,ho⟩:=st
  obtain⟨slot,e,z⟩:=id it.at_
  unfold pyNext
  refine wpAny_bind (wpAny_attempt (wpAny_callSpecial?_slot (name:=Str.ofString "__next__") it.typeIs SF.slot_next (wpAny_call_entry SF.slot_next it.typeIs SF.entry_next ?_ (SF.args_next _))))
  refine wpAny_bind (wpAny_pure ?_)
  refine wpAny_bind (wpAny_fieldsOf e rfl ?_)
  show wpAny _ _ (setEntries S >>= _) _ _ _
  unfold setEntries
  refine wpAny_bind (wpAny_bind (wpAny_setState_of ho C.data C.fits (wpAny_pure ?_)))
  rw[if_neg (by simp)]
  show wpAny _ _ (setNext S slot i ep >>= _) _ _ _
  refine wpAny_bind (GD ho C.data C.fits C.rise C.plain C.led z (λv hv slot' z'=>?_) λno=>?_)
  ·dsimp only
   refine wpAny_bind (wpAny_setField e rfl (by show 0 < 5; decide) ?_)
   have e1:=Heap.get?_update_self (Obj.mapFields (·.setIfInBounds 0 (rawInt (slot':Nat)))) e rfl
   refine wpAny_bind (wpAny_setField e1 rfl (by show 1 < 5; decide) ?_)
   have e2:=Heap.get?_update_self (Obj.mapFields (·.setIfInBounds 1 (rawInt ((i:Int)+1)))) e1 rfl
   refine wpAny_pure ⟨_,rfl,?_⟩
   refine wpAny_pure (hQ v _ s.toks hv ⟨⟨slot',e2,z'⟩,?_⟩ λb o' hb e'=>?_)
   ·exact (Heap.get?_update_other _ _ hne.symm).trans ((Heap.get?_update_other _ _ hne.symm).trans ho)
   ·have:I≠b:=λz=>hb (by simp [z])
    exact (Heap.get?_update_other _ _ this).trans ((Heap.get?_update_other _ _ this).trans e')
  ·have:(dY w S ep es)[i]?≠none:=by
    rw[Array.getElem?_eq_getElem (by rw[vd]; exact hi)]
    simp
   exact absurd no this
 done:=λs Q E st hQ=>by
  obtain⟨it,ho⟩:=st
  obtain⟨slot,e,z⟩:=id it.at_
  unfold pyNext
  refine wpAny_bind (wpAny_attempt (wpAny_callSpecial?_slot (name:=Str.ofString "__next__") it.typeIs SF.slot_next (wpAny_call_entry SF.slot_next it.typeIs SF.entry_next ?_ (SF.args_next _))))
  refine wpAny_bind (wpAny_pure ?_)
  refine wpAny_bind (wpAny_fieldsOf e rfl ?_)
  show wpAny _ _ (setEntries S >>= _) _ _ _
  unfold setEntries
  refine wpAny_bind (wpAny_bind (wpAny_setState_of ho C.data C.fits (wpAny_pure ?_)))
  rw[if_neg (by simp)]
  show wpAny _ _ (setNext S slot es.size ep >>= _) _ _ _
  refine wpAny_bind (GD ho C.data C.fits C.rise C.plain C.led z (λv hv slot' z'=>?_) λno=>?_)
  ·rw[Array.getElem?_eq_none (by rw[vd]; exact Nat.le_refl _)] at hv
   cases hv
  ·dsimp only
   refine wpAny_bind (wpAny_setField e rfl (by show 2 < 5; decide) ?_)
   refine wpAny_bind ?_
   simp only [newExc,newTuple]
   refine wpAny_bind (wpAny_newObj_type ?_ (by size_fits))
   refine wpAny_bind (m:=firstArgMember _ _) (wpAny_of_eq (a:=Value.none) (by first | rfl | (simp only [firstArgMember]; rfl)) ?_)
   refine wpAny_newObj_type ?_ (by size_fits)
   simp only [raiseNew]
   refine wpAny_bind (wpAny_handled ?_)
   rw[show A.in1.handled=none from hh]
   refine wpAny_bind (wpAny_pure (wpAny_throw ?_))
   refine wpAny_bind (wpAny_isInstance (T:="StopIteration") (b:=true) ⟨_,Heap.get?_push_size _ rfl,rfl⟩ isSubtype_stop ?_)
   refine wpAny_pure (hQ _ s.toks λb o' hb e'=>?_)
   have:I≠b:=λz=>hb (by simp [z])
   exact Heap.get?_push_of_some _ (Heap.get?_push_of_some _ ((Heap.get?_update_other _ _ this).trans e'))
 self:=λi s Q E st hQ=>by
  have hT:=st.1.typeIs (s:=s)
  refine wpAny_pyIter_slot hT SF.ze (wpAny_call_entry SF.ze hT SF.FZ ?_ (SF.Iz _))
  exact wpAny_pure ⟨_,rfl,"set_iterator",_,hT,SF.slot_next.lookup,hQ⟩
end
end TB
namespace TB
open PySem PySem.Spec
section
variable {prog:Program}{w:World}{K:Type}[DecidableEq K]{knd:KeyKind prog w K}{A:Around}{E:Value->Shared->Prop}{s:Shared}
variable {S:Addr}{o:Obj}{es:Array (Int × Value)}{ep:Nat}{t:SetTable}
theorem Ma {Q:Value->Shared->Prop}(ho:s.heap.get? S=some o)(C:Calm w o es ep t)
  (h:∀h',h'=s.heap.push { cls:=.type "set_iterator",dict:=none,data:=.fields #[rawInt (0:Nat),rawInt (0:Nat),.ref S,rawInt es.size,rawInt ep],slots:=#[] }->Q (.ref s.heap.objs.size) { s with heap:=h' }):wpAny (model prog w) A (pyIter (.ref S)) Q E s:=by
 have hT:s.TypeIs (.ref S) "set":=⟨o,ho,C.ex.1⟩
 refine wpAny_pyIter_slot hT F.slot_set_iter (wpAny_call_entry F.slot_set_iter hT SF.Iw ?_ (F.args_set_iter_1 _))
 show wpAny _ _ (Builtin.Frozenset.slot0 "__iter__" ⟨[.ref S],[]⟩ >>= _) _ _ _
 refine wpAny_bind (wpAny_bind (wpAny_pure (wpAny_pure ?_)))
 unfold Builtin.Frozenset.sizeOf setEntries
 refine wpAny_bind (wpAny_bind (wpAny_bind (wpAny_setState_of ho C.data C.fits (wpAny_pure (wpAny_pure ?_)))))
 refine wpAny_bind ?_
 unfold setDrawn
 refine wpAny_bind (wpAny_setState_of ho C.data C.fits ?_)
 dsimp only
 refine wpAny_bind (DE ?_)
 refine wpAny_pure ?_
 show wpAny _ _ (if (!w.params.followText "set-order"&&(!t.plain&&decide (es.size > 1)))=true then _ else _) _ _ _
 rw[C.plain,if_neg (by simp)]
 refine wpAny_bind (wpAny_pure ?_)
 unfold setEpoch
 refine wpAny_bind (wpAny_bind (wpAny_setState_of ho C.data C.fits (wpAny_pure ?_)))
 refine wpAny_bind (wpAny_newObj_type ?_ (by size_fits))
 refine wpAny_pure ⟨_,rfl,"set_iterator",_,⟨_,Heap.get?_push_size _ rfl,rfl⟩,SF.slot_next.lookup,h _ rfl⟩
theorem Mb {Q:Bool->Shared->Prop}(ho:s.heap.get? S=some o)(C:Calm w o es ep t)(h:Q false s):wpAny (model prog w) A (Builtin.List.listLengthHint (.ref S)) Q E s:=by
 have hT:s.TypeIs (.ref S) "set":=⟨o,ho,C.ex.1⟩
 unfold Builtin.List.listLengthHint
 refine wpAny_bind (wpAny_specialOf hT F.slot_set_len.lookup ?_)
 have sp:splitId "set.__len__"=some ("set","__len__"):=by decide +kernel
 dsimp only
 rw[sp]
 dsimp only
 refine wpAny_bind (wpAny_isInstance hT sub_set_self ?_)
 simp only [Bool.not_true,Bool.false_eq_true,if_false]
 rw[if_pos (by decide +kernel)]
 refine wpAny_bind (wpAny_typeOf hT ?_)
 exact wpAny_pure h
set_option maxHeartbeats 4000000 in
theorem F0 {Q:List Value->Shared->Prop}(hh:A.handled=none)(ho:s.heap.get? S=some o)(C:Calm w o es ep t)(hz:es.size<=sizeLine)
  (h:∀h' tk vs,(∀b o,s.heap.get? b=some o->h'.get? b=some o)->s.heap.objs.size<=h'.objs.size->vs=(dY w S ep es).toList.map (·.2)->Q vs { s with heap:=h',toks:=tk }):wpAny (model prog w) A (collect (.ref S)) Q E s:=by
 have IA:S < s.heap.objs.size:=Heap.lt_size ho
 unfold collect
 refine wpAny_bind (wpAny_runValue (codeAny_builtin F.entry_proto_collect ?_))
 rw[Around.under_plainId F.plain_proto_collect _]
 show wpAny _ A.in1 (newList [] >>= λl=>again (.builtin "list.__iadd__" ⟨[l,.ref S],[]⟩)) _ _ s
 refine wpAny_bind (wpAny_newObj_type ?_)
 refine wpAny_pure ⟨plainId_quiet F.plain_list_iadd _,codeAny_builtin F.entry_list_iadd ?_⟩
 rw[Around.under_plainId F.plain_list_iadd _]
 show wpAny _ A.in1 (Builtin.List.listExtendWith (.ref s.heap.objs.size) (.ref S) (.ref s.heap.objs.size)) _ _ _
 generalize hlo:({ cls:=.type "list",data:=.seq ([]:List Value).toArray }:Obj)=lo
 have hL:(s.heap.push lo).get? s.heap.objs.size=some lo:=Heap.get?_push_size _ (by rw[←hlo]; rfl)
 have Rk:(s.heap.push lo).get? S=some o:=Heap.get?_push_of_some _ ho
 unfold Builtin.List.listExtendWith
 refine wpAny_bind (wpAny_typeOf (T:="set") ⟨o,Rk,C.ex.1⟩ ?_)
 have h1:Builtin.List.listSameRef (.ref s.heap.objs.size) (.ref S)=false:=by
  simp only [Builtin.List.listSameRef]
  exact beq_false_of_ne (Nat.ne_of_gt IA)
 have h2:(Value.type "set" == Value.type "list")=false:=by decide
 have h3:(Value.type "set" == Value.type "tuple")=false:=by decide
 simp only [h1,h2,h3,Bool.or_false,Bool.false_eq_true,if_false]
 refine wpAny_bind (Ma (s:={ s with heap:=s.heap.push lo }) Rk C λh' e=>?_)
 subst e
 have sz:(s.heap.push lo).objs.size=s.heap.objs.size+1:=Heap.size_push ..
 generalize hio:({ cls:=.type "set_iterator",dict:=none,data:=.fields #[rawInt (0:Nat),rawInt (0:Nat),.ref S,rawInt es.size,rawInt ep],slots:=#[] }:Obj)=io
 have rL:((s.heap.push lo).push io).get? S=some o:=Heap.get?_push_of_some _ Rk
 have Vz:((s.heap.push lo).push io).get? s.heap.objs.size=some lo:=Heap.get?_push_of_some _ hL
 have YV:((s.heap.push lo).push io).get? (s.heap.push lo).objs.size=some io:=Heap.get?_push_size _ (by rw[←hio]; rfl)
 refine wpAny_bind (wpAny_holding (Mb (s:={ s with heap:=(s.heap.push lo).push io }) rL C ?_))
 rw[if_pos (by decide +kernel)]
 refine wpAny_bind (wpAny_rule ?_)
 refine wpAny_bind ?_
 have hLd:lo.data=.seq #[] 0:=by rw[←hlo]
 show wpAny _ A.in1 (updateSeq s.heap.objs.size (·.push .none) >>= λ_=>updateSeq s.heap.objs.size (·.pop)) _ _ _
 subst hlo
 refine wpAny_bind (wpAny_updateSeq Vz rfl ?_)
 have Rl:=Heap.get?_update_self (Obj.mapSeq (·.push Value.none)) Vz rfl
 refine wpAny_updateSeq Rl rfl ?_
 have VA:=Heap.get?_update_self (Obj.mapSeq (·.pop)) Rl rfl
 have VB:(s.heap.push { cls:=.type "list",data:=.seq ([]:List Value).toArray }).objs.size≠s.heap.objs.size:=by rw[sz]; exact Nat.ne_of_gt (Nat.lt_succ_self _)
 have gQ:∀(h:Heap) b o,b≠s.heap.objs.size->h.get? b=some o->((h.update s.heap.objs.size (Obj.mapSeq (·.push Value.none))).update s.heap.objs.size (Obj.mapSeq (·.pop))).get? b=some o:=λh b o hb e=>(Heap.get?_update_other _ _ (Ne.symm hb)).trans ((Heap.get?_update_other _ _ (Ne.symm hb)).trans e)
 have U0:S≠(s.heap.push { cls:=.type "list",data:=.seq ([]:List Value).toArray }).objs.size:=by rw[sz]; exact Nat.ne_of_lt (Nat.lt_succ_of_lt IA)
 have W:=walks (prog:=prog) (A:=A.in1) (by simp [hh]) (s.heap.push { cls:=.type "list",data:=.seq ([]:List Value).toArray }).objs.size S U0 C
 have YW:=gQ _ _ _ VB YV
 have YX:=gQ _ _ _ (Nat.ne_of_lt IA) rL
 have keep4:∀b o',s.heap.get? b=some o'->((((s.heap.push { cls:=.type "list",data:=.seq ([]:List Value).toArray }).push io).update s.heap.objs.size (Obj.mapSeq (·.push Value.none))).update s.heap.objs.size (Obj.mapSeq (·.pop))).get? b=some o':=λb o' e=>gQ _ _ _ (Nat.ne_of_lt (Heap.lt_size e)) (Heap.get?_push_of_some _ (Heap.get?_push_of_some _ e))
 have Rm:∃c,((((s.heap.push { cls:=.type "list",data:=.seq ([]:List Value).toArray }).push io).update s.heap.objs.size (Obj.mapSeq (·.push Value.none))).update s.heap.objs.size (Obj.mapSeq (·.pop))).get? s.heap.objs.size=some { cls:=.type "list",dict:=none,data:=.seq #[] c,slots:=#[] }:=⟨_,VA⟩
 clear VA Rl gQ
 show wpAny (model prog w) A.in1 (again (.builtin "list.extend.loop" ⟨[.ref s.heap.objs.size,.ref (s.heap.push { cls:=.type "list",data:=.seq ([]:List Value).toArray }).objs.size,.ref s.heap.objs.size],[]⟩)) _ _ { s with heap:=(((s.heap.push { cls:=.type "list",data:=.seq ([]:List Value).toArray }).push io).update s.heap.objs.size (Obj.mapSeq (·.push Value.none))).update s.heap.objs.size (Obj.mapSeq (·.pop)) }
 generalize ((((s.heap.push { cls:=.type "list",data:=.seq ([]:List Value).toArray }).push io).update s.heap.objs.size (Obj.mapSeq (·.push Value.none))).update s.heap.objs.size (Obj.mapSeq (·.pop)))=h4 at *
 generalize (s.heap.push { cls:=.type "list",data:=.seq ([]:List Value).toArray }).objs.size=I at *
 obtain⟨c5,Rm⟩:=Rm
 subst hio
 have hb0:SetTable.below t.place 0=0:=by
  obtain⟨b1,b2,b3⟩:=oK C.rise 0
  rcases Nat.eq_zero_or_pos (SetTable.below t.place 0) with q | q
  ·exact q
  ·have:=b2 0 q
   omega
 have YY:(λi (s:Shared)=>zd w s.heap I S t es.size ep i/\s.heap.get? S=some o) 0 { s with heap:=h4 }:=⟨⟨0,YW,λ_=>hb0⟩,YX⟩
 refine wpAny_pure ⟨plainId_quiet F.plain_extend_loop _,codeAny_extend_loopS W.toS hz s.heap.objs.size ?_ _ es.size 0 { s with heap:=h4 } #[] c5 rfl (Nat.zero_le _) YY Rm (ItemsOf.nil _) λs' acc' c' hm hS' hacc=>?_⟩
 ·simp only [List.mem_cons,List.not_mem_nil,or_false,not_or]
  exact⟨VB.symm,Nat.ne_of_gt IA⟩
 ·show wpAny _ A (load s.heap.objs.size >>= _) _ _ s'
  refine wpAny_bind (wpAny_load hS' ?_)
  obtain⟨h',g',d',tk',os'⟩:=s'
  have eg:g'=s.gens:=hm.gens
  have ed:d'=s.drawn:=hm.drawn
  have eo:os'=s.os:=hm.os
  subst eg; subst ed; subst eo
  have keep:∀b o',s.heap.get? b=some o'->h'.get? b=some o':=λb o' e=>by
   have hb:=Heap.lt_size e
   refine hm.heap b o' ?_ (keep4 b o' e)
   simp only [List.mem_cons,List.not_mem_nil,or_false,not_or]
   exact⟨Nat.ne_of_lt hb,by rw[sz]; exact Nat.ne_of_lt (Nat.lt_succ_of_lt hb)⟩
  refine wpAny_pure (h h' tk' _ keep (Nat.le_of_lt (Heap.lt_size hS')) (List.ext_getElem? λj=>?_))
  rw[Array.getElem?_toList,List.getElem?_map,Array.getElem?_toList]
  have YZ:=vd w S ep es
  rcases Nat.lt_or_ge j es.size with q | q
  ·have hj:j < acc'.size:=by rw[hacc.1]; exact q
   have:=hacc.2 j acc'[j] (Array.getElem?_eq_getElem hj)
   rw[Array.getElem?_eq_getElem hj]
   exact this.symm
  ·rw[Array.getElem?_eq_none (by rw[hacc.1]; exact q),Array.getElem?_eq_none (by rw[YZ]; exact q)]
   rfl
end
end TB
namespace TB
open PySem PySem.W PyProof.Rows
def run {α:Type}(r:Nat->Nat):KasT α->α
 | .ret a=>a
 | .ask i j k=>run r (k (decide (r i < r j)))
theorem run_bind {α β:Type}(r:Nat->Nat)(f:α->KasT β):∀t:KasT α,run r (t.bind f)=run r (f (run r t))
 | .ret _=>rfl
 | .ask i j k=>run_bind r f (k (decide (r i < r j)))
def GA (n:Nat){α:Type}(R:α->Prop):KasT α->Prop
 | .ret a=>R a
 | .ask i j k=>i < n/\j < n/\∀b,GA n R (k b)
theorem GA.bind {n:Nat}{α β:Type}{R:α->Prop}{R':β->Prop}{f:α->KasT β}(hf:∀a,R a->GA n R' (f a)):∀t:KasT α,GA n R t->GA n R' (t.bind f)
 | .ret a,h=>hf a h
 | .ask i j k,h=>⟨h.1,h.2.1,λb=>GA.bind hf (k b) (h.2.2 b)⟩
theorem GF {n:Nat}{α:Type}{r:Nat->Nat}{cmp:Nat->Nat->(Bool->Shared->Prop)->Shared->Prop}{s:Shared}(hc:∀i j (C:Bool->Shared->Prop),i < n->j < n->C (decide (r i < r j)) s->cmp i j C s){R:α->Prop}{Q:α->Shared->Prop} :
  ∀t:KasT α,GA n R t->Q (run r t) s->t.kasWp cmp Q s
 | .ret a,_,h=>h
 | .ask i j k,g,h=>hc i j _ g.1 g.2.1 (GF hc (k (decide (r i < r j))) (g.2.2 _) h)
def Lo (n:Nat)(p:Array Nat):Prop:=∀k,p.getD k 0 < n
theorem yi {n:Nat}(u v:Nat->Nat):∀(l:List Nat) (p:Array Nat),Lo n p->Lo n (l.foldl (λa k=>a.swapIfInBounds (u k) (v k)) p)
 | [],p,h=>h
 | k::l,p,h=>by
  refine yi u v l _ λx=>?_
  show (p.swapIfInBounds (u k) (v k)).getD x 0 < n
  rw[Array.getD_eq_getD_getElem?]
  by_cases hi:u k < p.size
  ·by_cases hj:v k < p.size
   ·rw[getElem?_swapIB hi hj]
    split
    ·rw[←Array.getD_eq_getD_getElem?]; exact h _
    ·split
     ·rw[←Array.getD_eq_getD_getElem?]; exact h _
     ·rw[←Array.getD_eq_getD_getElem?]; exact h _
   ·rw[Array.swapIfInBounds_def,dif_pos hi,dif_neg hj,←Array.getD_eq_getD_getElem?]; exact h _
  ·rw[Array.swapIfInBounds_def,dif_neg hi,←Array.getD_eq_getD_getElem?]; exact h _
theorem Lo.rev {n:Nat}{p:Array Nat}(h:Lo n p)(i j:Nat):Lo n (kas_rev p i j):=yi _ _ _ _ h
theorem Lo.Rn {n:Nat}{p:Array Nat}(h:Lo n p)(i j:Nat):Lo n (bubble p i j):=yi _ _ _ _ h
theorem DF {n:Nat}{p:Array Nat}(h:Lo n p):∀f m,GA n (λ_=>True) (kas_asc p f m)
 | 0,m=>trivial
 | f+1,m=>⟨h _,h _,λb=>by
  cases b with
  | true=>exact trivial
  | false=>exact DF h f (m+1)⟩
theorem wV {n:Nat}:∀f (p:Array Nat) m q,Lo n p->GA n (λx:Array Nat × Nat × Nat=>Lo n x.1) (kas_desc f p m q)
 | 0,p,m,q,h=>h
 | f+1,p,m,q,h=>⟨h _,h _,λb=>by
  cases b with
  | true=>
   show GA n _ (if q > 0 then _ else _)
   split
   ·exact wV f _ _ _ (h.rev _ _)
   ·exact wV f _ _ _ h
  | false=>exact⟨h _,h _,λd=>by
    cases d with
    | true=>exact h
    | false=>exact wV f _ _ _ h⟩⟩
theorem DG {n m k:Nat}{p:Array Nat}(h:Lo n p):GA n (λx:Nat × Array Nat=>Lo n x.2) (kas_tail3 m k p):=by
 unfold kas_tail3
 refine GA.bind (R:=λ_=>True) (λa _=>?_) _ (DF (h.rev _ _) _ _)
 exact h.rev _ _
theorem xG {n m k:Nat}{p:Array Nat}(h:Lo n p):GA n (λx:Nat × Array Nat=>Lo n x.2) (kas_descPart m k p):=GA.bind (λa ha=>by
  split
  ·exact DG (ha.rev _ _)
  ·exact DG ha) _ (wV _ _ _ _ h)
theorem Mc {n k:Nat}{p:Array Nat}(h:Lo n p):GA n (λx:Nat × Array Nat=>Lo n x.2) (kas_count k p):=GA.bind (λa _=>by
  split
  ·exact h
  ·split
   ·exact⟨h _,h _,λb=>by
     cases b with
     | true=>exact h
     | false=>exact xG (h.rev _ _)⟩
   ·exact xG h) _ (DF h _ _)
theorem yj {n k:Nat}{p:Array Nat}(h:Lo n p):∀f a b,GA n (λ_=>True) (kas_place p k f a b)
 | 0,a,b=>trivial
 | f+1,a,b=>by
  unfold kas_place
  split
  ·exact trivial
  ·exact⟨h _,h _,λc=>by
    cases c with
    | true=>exact yj h f _ _
    | false=>exact yj h f _ _⟩
theorem JS {n:Nat}:∀f (p:Array Nat) k,Lo n p->GA n (λ_=>True) (kas_bin f p k)
 | 0,p,k,h=>trivial
 | f+1,p,k,h=>GA.bind (λl _=>JS f _ _ (h.Rn _ _)) _ (yj h _ _ _)
theorem P4 {n:Nat}(hn:0 < n):GA n (λ_=>True) (kas_sort n):=GA.bind (λa ha=>by
  split
  ·exact JS _ _ _ ha
  ·exact trivial) _ (Mc λk=>by
   rw[Array.getD_eq_getD_getElem?]
   by_cases c:k < n
   ·simp [c]
   ·simp [c,hn])
section
variable {r:Nat->Nat}{n:Nat}
structure Ok (r:Nat->Nat)(n:Nat)(p:Array Nat):Prop where
 size:p.size=n
 inj:∀a b,a < n->b < n->r (p.getD a 0)=r (p.getD b 0)->a=b
theorem GG {p q:Array Nat}{k l:Nat}(h:p[k]?=q[l]?):p.getD k 0=q.getD l 0:=by
 rw[Array.getD_eq_getD_getElem?,Array.getD_eq_getD_getElem?,h]
theorem Ok.rev {p:Array Nat}(h:Ok r n p){m:Nat}(hm:m<=n):Ok r n (kas_rev p 0 m)/\∀k,(kas_rev p 0 m).getD k 0=p.getD (if k < m then m - 1 - k else k) 0:=by
 have g:∀k,(kas_rev p 0 m).getD k 0=p.getD (if k < m then m - 1 - k else k) 0:=λk=>by
  refine GG ?_
  unfold kas_rev
  rw[getElem?_mirror_all (by rw[h.size]; exact hm)]
  by_cases c:k < m
  ·rw[if_pos ⟨Nat.zero_le _,c⟩,if_pos c]; congr 1; omega
  ·rw[if_neg (by omega),if_neg c]
 refine⟨⟨by unfold kas_rev; rw[mirror_size,h.size],λa b ha hb e=>?_⟩,g⟩
 rw[g,g] at e
 have:=h.inj _ _ (by split <;> omega) (by split <;> omega) e
 split at this <;> split at this <;> omega
theorem Ok.Rn {p:Array Nat}(h:Ok r n p){k l:Nat}(hk:k < n)(hl:l<=k):Ok r n (bubble p k (k - l))/\∀j,(bubble p k (k - l)).getD j 0=p.getD (if j=l then k else if l < j/\j<=k then j - 1 else j) 0:=by
 have g:∀j,(bubble p k (k - l)).getD j 0=p.getD (if j=l then k else if l < j/\j<=k then j - 1 else j) 0:=λj=>by
  refine GG ?_
  rw[getElem?_bubble (by rw[h.size]; exact hk) _ (by omega)]
  rw[show k - (k - l)=l by omega]
  split
  ·rfl
  ·split <;> rfl
 refine⟨⟨by rw[bubble_size,h.size],λa b ha hb e=>?_⟩,g⟩
 rw[g,g] at e
 have bd:∀j,j < n->(if j=l then k else if l < j/\j<=k then j - 1 else j) < n:=λj hj=>by
  by_cases c1:j=l
  ·rw[if_pos c1]; exact hk
  ·rw[if_neg c1]
   by_cases c2:l < j/\j<=k
   ·rw[if_pos c2]; omega
   ·rw[if_neg c2]; exact hj
 have:=h.inj _ _ (bd a ha) (bd b hb) e
 have ch:∀j,∃q,q=(if j=l then k else if l < j/\j<=k then j - 1 else j)/\((j=l/\q=k)\/(l < j/\j<=k/\q+1=j)\/(j < l/\q=j)\/(k < j/\q=j)):=λj=>by
  refine⟨_,rfl,?_⟩
  by_cases c1:j=l
  ·rw[if_pos c1]; exact .inl ⟨c1,rfl⟩
  ·rw[if_neg c1]
   by_cases c2:l < j/\j<=k
   ·rw[if_pos c2]; exact .inr (.inl ⟨c2.1,c2.2,Nat.sub_add_cancel (Nat.lt_of_le_of_lt (Nat.zero_le _) c2.1)⟩)
   ·rw[if_neg c2]
    by_cases c3:l < j
    ·exact .inr (.inr (.inr ⟨Nat.lt_of_not_le λz=>c2 ⟨c3,z⟩,rfl⟩))
    ·exact .inr (.inr (.inl ⟨Nat.lt_of_le_of_ne (Nat.le_of_not_lt c3) c1,rfl⟩))
 obtain⟨qa,ea,a1⟩:=ch a
 obtain⟨qb,eb,b1⟩:=ch b
 rw[←ea,←eb] at this
 rcases a1 with ⟨a1,a2⟩ | ⟨a1,a2,a3⟩ | ⟨a1,a2⟩ | ⟨a1,a2⟩ <;> rcases b1 with ⟨b1,b2⟩ | ⟨b1,b2,b3⟩ | ⟨b1,b2⟩ | ⟨b1,b2⟩ <;> omega
def Up (r:Nat->Nat)(p:Array Nat)(m:Nat):Prop:=∀t,1<=t->t < m->r (p.getD (t - 1) 0) < r (p.getD t 0)
theorem Up.lt {p:Array Nat}{m:Nat}(h:Up r p m):∀d i,i+d+1 < m->r (p.getD i 0) < r (p.getD (i+d+1) 0)
 | 0,i,hi=>by
  have:=h (i+1) (by omega) (by omega)
  rwa [show i+1 - 1=i by omega] at this
 | d+1,i,hi=>by
  have h1:=Up.lt h d i (by omega)
  have h2:=h (i+(d+1)+1) (by omega) hi
  rw[show i+(d+1)+1 - 1=i+d+1 by omega] at h2
  exact Nat.lt_trans h1 h2
theorem Up.lt' {p:Array Nat}{m i j:Nat}(h:Up r p m)(hij:i < j)(hj:j < m):r (p.getD i 0) < r (p.getD j 0):=by
 have:=h.lt (j - i - 1) i (by omega)
 rwa [show i+(j - i - 1)+1=j by omega] at this
theorem AK {p:Array Nat}(h:Ok r n p):∀f m,1<=m->m+f=n->Up r p m->m<=run r (kas_asc p f m)/\run r (kas_asc p f m)<=n/\Up r p (run r (kas_asc p f m))/\(run r (kas_asc p f m) < n->r (p.getD (run r (kas_asc p f m)) 0) < r (p.getD (run r (kas_asc p f m) - 1) 0))
 | 0,m,h1,e,u=>⟨Nat.le_refl _,by show m<=n; omega,u,λ(z:m < n)=>by omega⟩
 | f+1,m,h1,e,u=>by
  unfold kas_asc run
  by_cases c:r (p.getD m 0) < r (p.getD (m - 1) 0)
  ·rw[decide_eq_true c]; dsimp only; rw[if_pos rfl]
   exact⟨Nat.le_refl _,by show m<=n; omega,u,λ_=>c⟩
  ·rw[decide_eq_false c]; dsimp only; rw[if_neg (by decide)]
   have hne:r (p.getD (m - 1) 0) < r (p.getD m 0):=by
    rcases Nat.lt_or_ge (r (p.getD (m - 1) 0)) (r (p.getD m 0)) with q | q
    ·exact q
    ·have:=h.inj (m - 1) m (by omega) (by omega) (by omega)
     omega
   obtain⟨a1,a2,a3,a4⟩:=AK h f (m+1) (by omega) (by omega) λt ht1 GH=>by
    by_cases ct:t=m
    ·rw[ct]; exact hne
    ·exact u t ht1 (by omega)
   exact⟨by omega,a2,a3,a4⟩
def Down (r:Nat->Nat)(p:Array Nat)(m:Nat):Prop:=∀t,1<=t->t < m->r (p.getD t 0) < r (p.getD (t - 1) 0)
theorem DH {p:Array Nat}(h:Ok r n p):∀f m,2<=m->m+f=n->Down r p m->∃m',run r (kas_desc f p m 0)=(p,m',0)/\m<=m'/\m'<=n/\Down r p m'
 | 0,m,h1,e,d=>⟨m,rfl,Nat.le_refl _,by omega,d⟩
 | f+1,m,h1,e,d=>by
  unfold kas_desc run
  by_cases c:r (p.getD m 0) < r (p.getD (m - 1) 0)
  ·rw[decide_eq_true c]; dsimp only; rw[if_pos rfl,if_neg (by omega)]
   obtain⟨m',e1,e2,e3,e4⟩:=DH h f (m+1) (by omega) (by omega) λt ht1 GH=>by
    by_cases ct:t=m
    ·rw[ct]; exact c
    ·exact d t ht1 (by omega)
   exact⟨m',e1,by omega,e3,e4⟩
  ·rw[decide_eq_false c]; dsimp only; rw[if_neg (by decide)]
   have hne:r (p.getD (m - 1) 0) < r (p.getD m 0):=by
    rcases Nat.lt_or_ge (r (p.getD (m - 1) 0)) (r (p.getD m 0)) with q | q
    ·exact q
    ·have:=h.inj (m - 1) m (by omega) (by omega) (by omega)
     omega
   show ∃m',run r (if decide (r (p.getD (m - 1) 0) < r (p.getD m 0))=true then KasT.ret (p,m,0) else kas_desc f p (m+1) (0+1))=(p,m',0)/\_
   rw[decide_eq_true hne,if_pos rfl]
   exact⟨m,rfl,Nat.le_refl _,by omega,d⟩
theorem JT {p:Array Nat}(h:Ok r n p){m:Nat}(h1:1<=m)(hm:m<=n)(d:Down r p m):∃m' p',run r (kas_tail3 m n p)=(m',p')/\1<=m'/\m'<=n/\Ok r n p'/\Up r p' m'/\p'.Perm p:=by
 obtain⟨h',g⟩:=h.rev hm
 have u:Up r (kas_rev p 0 m) m:=λt ht1 GH=>by
  rw[g,g,if_pos (by omega),if_pos GH]
  have:=d (m - 1 - (t - 1)) (by omega) (by omega)
  rwa [show m - 1 - (t - 1) - 1=m - 1 - t by omega] at this
 obtain⟨a1,a2,a3,_⟩:=AK h' (n - m) m h1 (by omega) u
 unfold kas_tail3
 rw[run_bind]
 exact⟨_,_,rfl,by omega,a2,h',a3,mirror_perm _ _ _ _⟩
theorem JU {p:Array Nat}(h:Ok r n p)(hn:1<=n):∃m' p',run r (kas_count n p)=(m',p')/\1<=m'/\m'<=n/\Ok r n p'/\Up r p' m'/\p'.Perm p:=by
 unfold kas_count
 rw[run_bind]
 obtain⟨a1,a2,a3,a4⟩:=AK h (n - 1) 1 (Nat.le_refl _) (by omega) λt h1 h2=>by omega
 generalize run r (kas_asc p (n - 1) 1)=m at *
 by_cases c:m=n
 ·rw[if_pos (by simp [c])]
  exact⟨m,p,rfl,a1,a2,h,a3,Array.Perm.refl _⟩
 ·rw[if_neg (by simpa using c)]
  by_cases c2:m > 1
  ·rw[if_pos c2]
   unfold run
   rw[decide_eq_true (a3.lt' (show 0 < m - 1 by omega) (by omega))]; dsimp only; rw[if_pos rfl]
   exact⟨m,p,rfl,a1,a2,h,a3,Array.Perm.refl _⟩
  ·rw[if_neg c2]
   have e:m=1:=by omega
   subst e
   unfold kas_descPart
   rw[run_bind]
   obtain⟨m',e1,e2,e3,e4⟩:=DH h (n - (1+1)) 2 (by omega) (by omega) λt h1 h2=>by
    have:t=1:=by omega
    rw[this]
    exact a4 (by omega)
   rw[e1,if_neg (by show ¬ 0 > 0; omega)]
   exact JT (m:=m') h (by omega) e3 e4
theorem ve {p:Array Nat}(h:Ok r n p){k:Nat}(hk:k < n)(u:Up r p k):∀f a b,a<=b->b<=k->b - a<=f->(∀t,t < a->r (p.getD t 0) < r (p.getD k 0))->(∀t,b<=t->t < k->r (p.getD k 0) < r (p.getD t 0))->
  run r (kas_place p k f a b)<=k/\(∀t,t < run r (kas_place p k f a b)->r (p.getD t 0) < r (p.getD k 0))/\(∀t,run r (kas_place p k f a b)<=t->t < k->r (p.getD k 0) < r (p.getD t 0))
 | 0,a,b,h1,h2,h3,l,g=>⟨by show a<=k; omega,l,λt (ht:a<=t) hk=>g t (by omega) hk⟩
 | f+1,a,b,h1,h2,h3,l,g=>by
  unfold kas_place
  by_cases c:a >= b
  ·rw[if_pos c]
   exact⟨by show a<=k; omega,l,λt (ht:a<=t) hk=>g t (by omega) hk⟩
  ·rw[if_neg c]
   unfold run
   by_cases c2:r (p.getD k 0) < r (p.getD ((a+b) / 2) 0)
   ·rw[decide_eq_true c2]; dsimp only; rw[if_pos rfl]
    refine ve h hk u f a _ (by omega) (by omega) (by omega) l λt ht htk=>?_
    by_cases e:t=(a+b) / 2
    ·rw[e]; exact c2
    ·exact Nat.lt_trans c2 (u.lt' (by omega) htk)
   ·rw[decide_eq_false c2]; dsimp only; rw[if_neg (by decide)]
    have hne:r (p.getD ((a+b) / 2) 0) < r (p.getD k 0):=by
     rcases Nat.lt_or_ge (r (p.getD ((a+b) / 2) 0)) (r (p.getD k 0)) with q | q
     ·exact q
     ·have:=h.inj ((a+b) / 2) k (by omega) hk (by omega)
      omega
    refine ve h hk u f _ b (by omega) h2 (by omega) (λt ht=>?_) g
    by_cases e:t=(a+b) / 2
    ·rw[e]; exact hne
    ·exact Nat.lt_trans (u.lt' (show t < (a+b) / 2 by omega) (by omega)) hne
theorem GI:∀(f:Nat) (p:Array Nat) (k:Nat),Ok r n p->1<=k->k+f=n->Up r p k->∃p',run r (kas_bin f p k)=p'/\Ok r n p'/\Up r p' n/\p'.Perm p
 | 0,p,k,h,_,e,u=>⟨p,rfl,h,by have:k=n:=(by omega); rw[←this]; exact u,Array.Perm.refl _⟩
 | f+1,p,k,h,h1,e,u=>by
  unfold kas_bin
  rw[run_bind]
  obtain⟨b1,b2,b3⟩:=ve h (show k < n by omega) u k 0 k (Nat.zero_le _) (Nat.le_refl _) (by omega) (λt ht=>by omega) λt h1 h2=>by omega
  generalize run r (kas_place p k k 0 k)=l at *
  obtain⟨h',g⟩:=h.Rn (show k < n by omega) b1
  obtain⟨p',e1,e2,e3,e4⟩:=GI f (bubble p k (k - l)) (k+1) h' (by omega) (by omega) λt ht1 GH=>by
   rw[g,g]
   by_cases c1:t < l
   ·rw[if_neg (by omega),if_neg (by omega),if_neg (by omega),if_neg (by omega)]
    exact u t ht1 (by omega)
   ·by_cases c2:t=l
    ·rw[if_neg (by omega),if_neg (by omega),if_pos c2]
     exact b2 _ (by omega)
    ·by_cases c3:t - 1=l
     ·rw[if_pos c3,if_neg c2,if_pos (by omega)]
      exact b3 _ (by omega) (by omega)
     ·rw[if_neg c3,if_pos (by omega),if_neg c2,if_pos (by omega)]
      exact u (t - 1) (by omega) (by omega)
  exact⟨p',e1,e2,e3,e4.trans (bubble_perm _ _ _)⟩
theorem Me (hn:1<=n)(inj:∀a b,a < n->b < n->r a=r b->a=b):∃p,run r (kas_sort n)=p/\p.size=n/\Up r p n/\p.Perm (List.range n).toArray:=by
 have h0:Ok r n (List.range n).toArray:=⟨by simp,λa b ha hb e=>by
  have ea:(List.range n).toArray.getD a 0=a:=by simp [Array.getD,ha]
  have eb:(List.range n).toArray.getD b 0=b:=by simp [Array.getD,hb]
  rw[ea,eb] at e
  exact inj a b ha hb e⟩
 unfold kas_sort
 rw[run_bind]
 obtain⟨m,p,e,m1,m2,h,u,pm⟩:=JU h0 hn
 rw[e]
 dsimp only
 by_cases c:m < n
 ·rw[if_pos c]
  obtain⟨p',e1,e2,e3,e4⟩:=GI (n - max m 1) p (max m 1) h (by omega) (by omega) (by rw[Nat.max_eq_left m1]; exact u)
  exact⟨p',e1,e2.size,e3,e4.trans pm⟩
 ·rw[if_neg c]
  have:m=n:=by omega
  subst this
  exact⟨p,rfl,h.size,u,pm⟩
end
end TB
namespace L2
open PySem PySem.Spec PyProof.Rows
abbrev Key:=Sum Int Str
def qz:Key->Value->Bool
 | .inl k,v=>Value.isInt k v
 | .inr x,v=>Value.isStrOf x v
def W_ (w:World):Key->Int
 | .inl k=>hashInt k
 | .inr x=>hashStr w x
theorem eE:∀{k:Key} {v:Value},qz k v=true->(∃i t,k=Sum.inl i/\v=Value.int i t)\/(∃x t,k=Sum.inr x/\v=Value.str x t)
 | .inl i,v,h=>by
  obtain⟨t,e⟩:=Value.isInt_shape (k:=i) (v:=v) h
  exact .inl ⟨i,t,rfl,e⟩
 | .inr x,v,h=>by
  obtain⟨t,e⟩:=Value.isStrOf_shape (x:=x) (v:=v) h
  exact .inr ⟨x,t,rfl,e⟩
theorem JV (i:Int)(t:Tok):qz (.inl i) (.int i t)=true:=by simp [qz,Value.isInt]
theorem JW (x:Str)(t:Tok):qz (.inr x) (.str x t)=true:=by simp [qz,Value.isStrOf]
theorem Ro (a b:Int):decide ((Sum.inl a:Key)=Sum.inl b)=(a == b):=by
 by_cases e:a=b
 ·subst e; simp
 ·have h:¬ (Sum.inl a:Key)=Sum.inl b:=λq=>e (Sum.inl.inj q)
  rw[decide_eq_false h]
  exact (beq_eq_false_iff_ne.mpr e).symm
theorem Rp (a b:Str):decide ((Sum.inr a:Key)=Sum.inr b)=decide (a=b):=by
 by_cases e:a=b
 ·subst e; simp
 ·have h:¬ (Sum.inr a:Key)=Sum.inr b:=λq=>e (Sum.inr.inj q)
  rw[decide_eq_false h,decide_eq_false e]
theorem Rq (a:Int)(b:Str):decide ((Sum.inl a:Key)=Sum.inr b)=false:=decide_eq_false (λq=>nomatch q)
theorem Rr (a:Str)(b:Int):decide ((Sum.inr a:Key)=Sum.inl b)=false:=decide_eq_false (λq=>nomatch q)
def dD (prog:Program)(w:World):PySem.KeyKind prog w Key where
 is:=qz
 hash:=W_ w
 inj:=λv a b ha hb=>by
  rcases eE ha with ⟨i,t,rfl,rfl⟩ | ⟨x,t,rfl,rfl⟩
  ·rcases eE hb with ⟨j,u,rfl,e⟩ | ⟨y,u,rfl,e⟩
   ·injection e with e1 _; rw[e1]
   ·exact nomatch e
  ·rcases eE hb with ⟨j,u,rfl,e⟩ | ⟨y,u,rfl,e⟩
   ·exact nomatch e
   ·injection e with e1 _; rw[e1]
 byValue:=λk v h=>by
  rcases eE h with ⟨i,t,rfl,rfl⟩ | ⟨x,t,rfl,rfl⟩ <;> rfl
 pyHash:=λhv h=>by
  rcases eE hv with ⟨i,t,rfl,rfl⟩ | ⟨x,t,rfl,rfl⟩
  ·exact wpAny_pyHash_int h
  ·exact wpAny_pyHash_str h
 eqBool:=λhu hv h=>by
  rcases eE hu with ⟨i,t,rfl,rfl⟩ | ⟨x,t,rfl,rfl⟩
  ·rcases eE hv with ⟨j,u,rfl,rfl⟩ | ⟨y,u,rfl,rfl⟩
   ·rw[Ro] at h; exact wpAny_eqBool_int h
   ·rw[Rq] at h; exact SeqAt.EqAt.int_str i t y u _ _ _ _ h
  ·rcases eE hv with ⟨j,u,rfl,rfl⟩ | ⟨y,u,rfl,rfl⟩
   ·rw[Rr] at h; exact SeqAt.EqAt.str_int x t j u _ _ _ _ h
   ·rw[Rp] at h; exact wpAny_eqBool_str h
 «strs»:=λk x t v h=>by
  rcases eE h with ⟨i,u,rfl,e⟩ | ⟨y,u,rfl,e⟩
  ·exact nomatch e
  ·injection e with e1 _
   subst e1
   cases v <;> rfl
theorem F1 (prog:Program)(w:World)(i:Int)(t:Tok):(dD prog w).is (.inl i) (.int i t)=true:=JV i t
theorem F2 (prog:Program)(w:World)(x:Str)(t:Tok):(dD prog w).is (.inr x) (.str x t)=true:=JW x t
end L2
namespace L2
open PySem PySem.Spec PyProof.Rows
inductive V where
 | aR | bl (b:Bool) | int (i:Int) | str (x:Str) | nF (b:Array UInt8) | BI (b:UInt64) | ref (a:Addr) | ty (n:String)
 deriving DecidableEq
def RelV:V->Value->Prop
 | .aR,u=>u=Value.none
 | .bl b,u=>u=Value.bool b
 | .int i,u=>∃t,u=Value.int i t
 | .str x,u=>∃t,u=Value.str x t
 | .nF b,u=>∃t,u=Value.bytes b t
 | .BI b,u=>∃t,u=Value.float b t
 | .ref a,u=>u=Value.ref a
 | .ty n,u=>u=Value.type n
abbrev Vals:List V->List Value->Prop:=Paired RelV
theorem Vals.length {xs:List V}{us:List Value}(r:Vals xs us):xs.length=us.length:=Paired.length r
theorem Vals.get:∀{xs:List V} {us:List Value} {i:Nat} {x:V},Vals xs us->xs[i]?=some x->∃u,us[i]?=some u/\RelV x u
 | _,_,_,_,.nil,e=>by simp at e
 | _,_,0,_,.cons r _,e=>by simp at e; subst e; exact⟨_,rfl,r⟩
 | _,_,i+1,x,.cons _ t,e=>by
  obtain⟨u,h1,h2⟩:=Vals.get (i:=i) (x:=x) t (by simpa using e)
  exact⟨u,by simpa using h1,h2⟩
theorem Vals.set {x:V}{u:Value}(r:RelV x u):∀{xs:List V} {us:List Value} (i:Nat),Vals xs us->Vals (xs.set i x) (us.set i u)
 | _,_,_,.nil=>.nil
 | _,_,0,.cons _ t=>.cons r t
 | _,_,i+1,.cons q t=>.cons q (Vals.set r i t)
theorem Vals.append:∀{xs ys:List V} {us ws:List Value},Vals xs us->Vals ys ws->Vals (xs++ys) (us++ws)
 | _,_,_,_,.nil,s=>s
 | _,_,_,_,.cons r t,s=>.cons r (Vals.append t s)
theorem Vals.take:∀{xs:List V} {us:List Value} (n:Nat),Vals xs us->Vals (xs.take n) (us.take n)
 | _,_,0,_=>.nil
 | _,_,_+1,.nil=>.nil
 | _,_,n+1,.cons r t=>.cons r (Vals.take n t)
theorem Vals.drop:∀{xs:List V} {us:List Value} (n:Nat),Vals xs us->Vals (xs.drop n) (us.drop n)
 | _,_,0,r=>r
 | _,_,_+1,.nil=>.nil
 | _,_,n+1,.cons _ t=>Vals.drop n t
def fS:Option V->Option Value->Prop
 | some v,some u=>RelV v u
 | none,none=>True
 | _,_=>False
def KV {κ:Type}:List (κ × V)->List (κ × Value)->Prop:=Paired λ(p:κ × V) (q:κ × Value)=>p.1=q.1/\RelV p.2 q.2
def kV:Key->V
 | .inl i=>.int i
 | .inr x=>.str x
inductive HO where
 | lst (xs:List V)
 | tup (xs:List V)
 | dK (kvs:List (Key × V)) | dT (kvs:List (List Key × V))
 | set (S:Int->Bool) (n:Nat)
 | ins (C dx:Addr) (fs:List (Str × V))
 | own (x:Addr)
 | xd (fs:List (Str × V))
 | met (f x:Addr)
 | Oh (lo hi:Int)
 | mG (o:Obj) (u:HO)
 | BJ (ps:Array Value)
 | ext (φ:Heap->Prop)
abbrev Hp:=Addr->Option HO
def upd (H:Hp)(a:Addr)(o:HO):Hp:=λb=>if b=a then some o else H b
theorem au {H:Hp}{a:Addr}{o:HO}:upd H a o a=some o:=by unfold upd; rw[if_pos rfl]
theorem aG {H:Hp}{a b:Addr}{o:HO}(h:b≠a):upd H a o b=H b:=by unfold upd; rw[if_neg h]
theorem U1 {H:Hp}{a b:Addr}{o u:HO}(h:H a=some o)(h':H b=some u)(d:o≠u):a≠b:=by
 intro e; subst e; rw[h] at h'; exact d (Option.some.inj h')
theorem aW {H:Hp}{a b:Addr}{o:HO}(h:H a=some o)(h':H b=none):a≠b:=by
 intro e; subst e; rw[h] at h'; cases h'
section
variable (P:Program)(w:World)
def bE (H:Hp)(h:Heap)(a:Addr):HO->Prop
 | .lst xs=>xs.length<=sizeLine/\∃(its:List Value) (n:Nat),Vals xs its/\h.get? a=some { cls:=.type "list",data:=.seq its.toArray n }
 | .tup xs=>xs.length<=sizeLine/\∃its:List Value,Vals xs its/\IsTup h a its.toArray
 | .dK kvs=>kvs.length<=sizeLine/\(a == sysModules)=false/\∃vs,KV kvs vs/\h.DictOf (dD P w) a vs
 | .dT kvs=>kvs.length<=sizeLine/\(a == sysModules)=false/\∃xs:List (List Key × Addr × Value),
   Paired (λ(p:List Key × V) (q:List Key × Addr × Value)=>p.1=q.1/\H q.2.1=some (.tup (p.1.map kV))/\RelV p.2 q.2.2) kvs xs/\
   ∃o es ep,h.get? a=some o/\o.ExactDict/\o.data=.dict es ep/\es.toList=xs.map (entryOfKey (tupleKind (dD P w)))/\(xs.map (·.1)).Nodup
 | .set S n=>h.SetOf (intKind P w) a S n
 | .ins C dx fs=>H dx=some (.own a)/\fs.length<=1000/\dx≠a/\h.get? a=some (PySem.W.instObj C dx)/\
   ∃mA,h.Ns1 dx mA/\(∀f,fS (fs.lookup f) (mA f))/\PySem.Within mA (fs.map (·.1))
 | .own _=>∃o,h.get? a=some o
 | .xd fs=>∃mA,h.Ns1 a mA/\∀f,fS (fs.lookup f) (mA f)
 | .Oh lo hi=>∃t u v,h.get? a=some { cls:=.type "range",data:=.fields #[.int lo t,.int hi u,.int 1 v] }
 | .mG o u=>h.get? a=some o/\bE H h a u
 | .BJ ps=>h.get? a=some { cls:=.none,data:=.fields ps }
 | .met f x=>h.get? a=some (PySem.W.methodObj (.ref f) (.ref x))
 | .ext φ=>φ h/\(∃o,h.get? a=some o)/\∀h1 h2:Heap,φ h1->(∀o,h1.get? a=some o->h2.get? a=some o)->φ h2
def fO (H:Hp)(h:Heap):Prop:=∀a o,H a=some o->bE P w H h a o
end
section
variable {P:Program}{w:World}{H H':Hp}{h h':Heap}{a:Addr}{o:HO}
theorem bE.lt (x:bE P w H h a o):a < h.objs.size:=by
 cases o with
 | lst xs=>obtain⟨_,_,_,_,e⟩:=x; exact Heap.lt_size e
 | tup xs=>obtain⟨_,_,_,p⟩:=x; exact p.lt
 | dK kvs=>obtain⟨_,_,_,_,o,_,_,e,_⟩:=x; exact Heap.lt_size e
 | dT kvs=>obtain⟨_,_,_,_,o,_,_,e,_⟩:=x; exact Heap.lt_size e
 | set S n=>obtain⟨o,_,_,_,e,_⟩:=x; exact Heap.lt_size e
 | ins C dx fs=>obtain⟨_,_,_,e,_⟩:=x; exact Heap.lt_size e
 | own y=>obtain⟨_,e⟩:=x; exact Heap.lt_size e
 | xd fs=>obtain⟨_,⟨_,_,_,e,_⟩,_⟩:=x; exact Heap.lt_size e
 | Oh lo hi=>obtain⟨_,_,_,e⟩:=x; exact Heap.lt_size e
 | mG ob u=>obtain⟨e,_⟩:=x; exact Heap.lt_size e
 | BJ ps=>exact Heap.lt_size (show h.get? a=some _ from x)
 | met f y=>exact Heap.lt_size (show h.get? a=some _ from x)
 | ext φ=>obtain⟨_,⟨_,e⟩,_⟩:=x; exact Heap.lt_size e
theorem Paired.Mf {α β:Type}{F G:α->β->Prop}:∀{l₁:List α} {l₂:List β},Paired F l₁ l₂->(∀a b,F a b->G a b)->Paired G l₁ l₂
 | _,_,.nil,_=>.nil
 | _,_,.cons r t,f=>.cons (f _ _ r) (Paired.Mf t f)
theorem bE.stay (x:bE P w H h a o)(k:∀b u,(b=a\/H b=some (.own a))->h.get? b=some u->h'.get? b=some u)
  (ho:∀b,H b=some (.own a)->H' b=some (.own a)) (ht:∀b xs,H b=some (.tup xs)->H' b=some (.tup xs)):bE P w H' h' a o:=by
 induction o with
 | lst xs=>obtain⟨z,its,n,r,e⟩:=x; exact⟨z,its,n,r,k _ _ (.inl rfl) e⟩
 | tup xs=>obtain⟨z,its,r,ob,e,c⟩:=x; exact⟨z,its,r,ob,k _ _ (.inl rfl) e,c⟩
 | dK kvs=>obtain⟨z,y,vs,r,ob,es,ep,e,c⟩:=x; exact⟨z,y,vs,r,ob,es,ep,k _ _ (.inl rfl) e,c⟩
 | dT kvs=>
  obtain⟨z,y,xs,r,ob,es,ep,e,c⟩:=x
  exact⟨z,y,xs,Paired.Mf r λp q z=>⟨z.1,ht _ _ z.2.1,z.2.2⟩,ob,es,ep,k _ _ (.inl rfl) e,c⟩
 | set S n=>obtain⟨ob,es,ep,t,e,c⟩:=x; exact⟨ob,es,ep,t,k _ _ (.inl rfl) e,c⟩
 | ins C dx fs=>
  obtain⟨d,z,ne,e,mA,⟨od,es,ep,e2,c⟩,r⟩:=x
  exact⟨ho _ d,z,ne,k _ _ (.inl rfl) e,mA,⟨od,es,ep,k _ _ (.inr d) e2,c⟩,r⟩
 | own y=>obtain⟨ob,e⟩:=x; exact⟨ob,k _ _ (.inl rfl) e⟩
 | xd fs=>obtain⟨mA,⟨od,es,ep,e,c⟩,r⟩:=x; exact⟨mA,⟨od,es,ep,k _ _ (.inl rfl) e,c⟩,r⟩
 | Oh lo hi=>obtain⟨t,u,v,e⟩:=x; exact⟨t,u,v,k _ _ (.inl rfl) e⟩
 | mG ob u ih=>obtain⟨e,q⟩:=x; exact⟨k _ _ (.inl rfl) e,ih q⟩
 | BJ ps=>
  have e:h.get? a=some { cls:=.none,data:=.fields ps }:=x
  show h'.get? a=some { cls:=.none,data:=.fields ps }
  exact k a _ (.inl rfl) e
 | met f y=>
  have e:h.get? a=some (PySem.W.methodObj (.ref f) (.ref y)):=x
  show h'.get? a=some (PySem.W.methodObj (.ref f) (.ref y))
  exact k a _ (.inl rfl) e
 | ext φ=>obtain⟨p,⟨o,e⟩,st⟩:=x; exact⟨st _ _ p λo q=>k _ _ (.inl rfl) q,⟨o,k _ _ (.inl rfl) e⟩,st⟩
theorem fO.lt (x:fO P w H h)(e:H a=some o):a < h.objs.size:=(x a o e).lt
theorem fO.fresh (x:fO P w H h)(e:h.objs.size<=a):H a=none:=by
 cases q:H a with
 | none=>rfl
 | some u=>exact absurd (Nat.lt_of_lt_of_le (x.lt q) e) (Nat.lt_irrefl _)
theorem fO.kept (x:fO P w H h)(k:∀b u,h.get? b=some u->h'.get? b=some u):fO P w H h':=λa o e=>
 (x a o e).stay (λb u _ q=>k b u q) (λ_ q=>q) λ_ _ q=>q
theorem fO.laid (x:fO P w H h)(k:∀b u,h.get? b=some u->h'.get? b=some u)(hp:h.objs.size<=a)(new:bE P w (upd H a o) h' a o):fO P w (upd H a o) h':=λb u e=>by
 have hn:=x.fresh hp
 by_cases hb:b=a
 ·subst hb; rw[au] at e; cases e; exact new
 ·rw[aG hb] at e
  exact (x b u e).stay (λc v _ q=>k c v q) (λc q=>by rw[aG (aW q hn)]; exact q) λc xs q=>by rw[aG (aW q hn)]; exact q
end
def Rd (H:Hp)(a:Addr)(u:HO):Prop:=H a=some u\/∃o,H a=some (.mG o u)
theorem Rd.ok {P:Program}{w:World}{H:Hp}{h:Heap}{a:Addr}{u:HO}(r:Rd H a u)(x:fO P w H h):bE P w H h a u:=by
 rcases r with r | ⟨o,r⟩
 ·exact x a u r
 ·obtain⟨_,q⟩:=x a _ r
  exact q
def dZ:Option HO->Prop
 | some (.lst _)=>True
 | some (.dK _)=>True
 | some (.dT _)=>True
 | some (.set _ _)=>True
 | some (.ins _ _ _)=>True
 | some (.ext _)=>True
 | _=>False
section
variable {P:Program}{w:World}{H:Hp}{h h':Heap}{x e:Addr}{o':HO}
theorem fO.write (ok:fO P w H h)(mu:dZ (H x))(he:e=x\/H e=some (.own x))(k:∀b u,b≠e->h.get? b=some u->h'.get? b=some u)(heo:∃u,h'.get? e=some u)
  (new:bE P w (upd H x o') h' x o'):fO P w (upd H x o') h':=λb u q=>by
 have nown:∀c y,H c=some (.own y)->c≠x:=λc y r z=>by subst z; rw[r] at mu; exact mu
 have ntup:∀c xs,H c=some (.tup xs)->c≠x:=λc xs r z=>by subst z; rw[r] at mu; exact mu
 by_cases hb:b=x
 ·subst hb; rw[au] at q; cases q; exact new
 ·rw[aG hb] at q
  by_cases hbe:b=e
  ·have q':H b=some (.own x):=by
    rcases he with z | z
    ·exact absurd (hbe.trans z) hb
    ·rw[hbe]; exact z
   rw[q] at q'; cases q'
   obtain⟨v,hv⟩:=heo
   exact⟨v,by rw[hbe]; exact hv⟩
  ·refine (ok b u q).stay (λc v hc r=>k c v ?_ r) (λc r=>by rw[aG (nown c b r)]; exact r) λc xs r=>by rw[aG (ntup c xs r)]; exact r
   rcases hc with rfl | hc
   ·exact hbe
   ·rintro rfl
    rcases he with z | z
    ·exact nown c b hc z
    ·rw[hc] at z; cases z; exact hb rfl
end
structure Un (fs ex:List Addr)(H H':Hp)(h h':Heap):Prop where
 keep:∀b o,h.get? b=some o->H b=none->b∉fs->b∉ex->h'.get? b=some o
 slot:∀b o,h.get? b=some o->H b=none->b∈fs->b∉ex->∃sl,h'.get? b=some { o with slots:=sl }
 free:∀b o,h.get? b=some o->H b=none->b∉ex->H' b=none
 there:∀b o,h.get? b=some o->b∉ex->∃o',h'.get? b=some o'
 tups:∀b xs,H b=some (.tup xs)->H' b=some (.tup xs)
 jr:∀b o u,H b=some (.mG o u)->H' b=some (.mG o u)
 kg:∀b ps,H b=some (.BJ ps)->∃more,H' b=some (.BJ (ps++more))
section
variable {fs fs' ex ex':List Addr}{H H1 H2:Hp}{h h1 h2 h':Heap}{a x e:Addr}{o:HO}
theorem Un.any (u:Un fs ex H H1 h h1){b:Addr}{ob:Obj}(q:h.get? b=some ob)(n:H b=none)(hx:b∉ex):∃sl,h1.get? b=some { ob with slots:=sl }:=by
 by_cases hb:b∈fs
 ·exact u.slot b ob q n hb hx
 ·exact⟨ob.slots,u.keep b ob q n hb hx⟩
theorem Un.kept (k:∀b u,h.get? b=some u->h'.get? b=some u):Un fs ex H H h h':=
 ⟨λb ob q _ _ _=>k b ob q,λb ob q _ _ _=>⟨ob.slots,k b ob q⟩,λ_ _ _ n _=>n,λb ob q _=>⟨ob,k b ob q⟩,λ_ _ q=>q,λ_ _ _ q=>q,λ_ ps q=>⟨#[],by rw[q]; simp⟩⟩
theorem Un.refl:Un fs ex H H h h:=Un.kept λ_ _ q=>q
theorem Un.laid (k:∀b u,h.get? b=some u->h'.get? b=some u)(hp:h.objs.size<=a)(hn:H a=none):Un fs ex H (upd H a o) h h' where
 keep:=λb u q _ _ _=>k b u q
 slot:=λb u q _ _ _=>⟨u.slots,k b u q⟩
 free:=λb u q n _=>by rw[aG (Nat.ne_of_lt (Nat.lt_of_lt_of_le (Heap.lt_size q) hp))]; exact n
 there:=λb u q _=>⟨u,k b u q⟩
 tups:=λb xs q=>by rw[aG (aW q hn)]; exact q
 jr:=λb u xs q=>by rw[aG (aW q hn)]; exact q
 kg:=λb ps q=>⟨#[],by rw[aG (aW q hn),q]; simp⟩
theorem Un.write (mu:dZ (H x))(he:e=x\/H e=some (.own x))(k:∀b u,b≠e->h.get? b=some u->h'.get? b=some u)(heo:∃u,h'.get? e=some u):Un fs ex H (upd H x o) h h':=by
 have hx:∀b,H b=none->b≠x:=λb n z=>by subst z; rw[n] at mu; exact mu
 have hb:∀b,H b=none->b≠e:=λb n z=>by
  subst z
  rcases he with r | r
  ·exact hx b n r
  ·rw[n] at r; cases r
 have hm:∀b u,H b=some u->¬ dZ (some u)->b≠x:=λb u q nm z=>by subst z; rw[q] at mu; exact nm mu
 refine⟨λb u q n _ _=>k b u (hb b n) q,λb u q n _ _=>⟨u.slots,k b u (hb b n) q⟩,λb u q n _=>by rw[aG (hx b n)]; exact n,λb u q _=>?_,
  λb xs q=>by rw[aG (hm b _ q λz=>z)]; exact q,λb u xs q=>by rw[aG (hm b _ q λz=>z)]; exact q,λb ps q=>⟨#[],by rw[aG (hm b _ q λz=>z),q]; simp⟩⟩
 by_cases hbe:b=e
 ·subst hbe; exact heo
 ·exact⟨u,k b u hbe q⟩
end
def Oi (h:Heap)(H:Hp):List Addr:=(List.range h.objs.size).filter λa=>(H a).isSome
def tG (h:Heap)(H:Hp):Heap:=PySem.W.hideAll h (Oi h H)
theorem JX (h:Heap)(H:Hp):(tG h H).objs.size=h.objs.size:=PySem.W.hideAll_size _ _
theorem Mg {h:Heap}{H:Hp}{b:Addr}{o:Obj}(e:h.get? b=some o)(n:H b=none):(tG h H).get? b=some o:=
 PySem.W.hideAll_get _ e λhm=>by
  have q:(H b).isSome=true:=(List.mem_filter.mp hm).2
  rw[n] at q; simp at q
theorem P5 {h:Heap}{H:Hp}{b:Addr}{o:Obj}(e:(tG h H).get? b=some o):h.get? b=some o/\H b=none:=by
 have e':h.get? b=some o:=PySem.W.of_hideAll (Oi h H) e
 refine⟨e',?_⟩
 cases q:H b with
 | none=>rfl
 | some x=>
  have hm:b∈Oi h H:=List.mem_filter.mpr ⟨List.mem_range.mpr (Heap.lt_size e'),by simp [q]⟩
  have z:(tG h H).get? b=none:=PySem.W.hideAll_none (Oi h H) hm
  rw[z] at e; cases e
end L2
namespace L2
open PySem PySem.Spec PyProof.Rows
structure Mod (K:PySem.W.Frag)(mg:Str->Option Value)(base:Heap):Prop where
 GJ:K.In base
 glob:base.Ns mainGlobals mg
 blt:∃mb,base.Ns builtinsNs mb/\∀x:Str,x≠"__name__"->mb x=bootBuiltins x
 nolimit:base.NoLimit
structure Cx where
 prog:Program
 w:World
 K:PySem.W.Frag
 mg:Str->Option Value
 base:Heap
 A:Around
 N:List Str
 s₀:Shared
 H₀:Hp
 env:Env
 outer:List Env
 stack:List Env
 ex:List Addr
 fn:Str->Bool
 calm:Bool
 pn:List (Addr × Obj)
 xe:Value->Shared->Prop
def frs (l:List Env):List Addr:=l.filterMap (·.frame)
abbrev Cx.fs (X:Cx):List Addr:=frs X.outer
def Oj (sc:Scope)(x:Str):Prop:=sc.names.lookup x=some .local\/sc.names.lookup x=some .cell\/sc.names.lookup x=some .free
def Loc (sc:Scope)(x:Str):Prop:=sc.names.lookup x=some .local\/sc.names.lookup x=some .cell
def Look (env:Env)(h:Heap)(m:Str->Option Value)(x:Str)(u:Value):Prop:=
 (env.kindOf x=some .local/\m x=some u)\/((env.kindOf x=some .cell\/env.kindOf x=some .free)/\∃c,env.cells.lookup x=some c/\h.IsCell c (some u))
structure Cx.Ok (X:Cx):Prop where
 mod:Mod X.K X.mg X.base
 kind:X.env.scope.kind=.function
 glob:X.env.globals=mainGlobals
 blt:X.env.builtins=builtinsNs
 above:X.s₀.heap.objs.size<=X.env.locals
 inj:∀x y c,X.env.cells.lookup x=some c->X.env.cells.lookup y=some c->x=y
 has:∀x,(X.env.kindOf x=some .cell\/X.env.kindOf x=some .free)->∃c,X.env.cells.lookup x=some c
 BK:∀x c,X.fn x=true->X.env.cells.lookup x=some c->X.s₀.heap.objs.size<=c
 hd:X.calm=true->X.A.handled=none
 frames:X.A.frames=some X.stack
 stk:X.stack=X.outer\/(X.stack=X.env::X.outer/\X.env.frame=some X.env.locals)
 GK:∀b∈X.ex,b≠X.env.locals/\∀x c,X.env.cells.lookup x=some c->c≠b
 bs:∀b o,X.base.get? b=some o->X.s₀.heap.get? b=some o/\X.H₀ b=none
 rM:X.base.objs.size<=X.s₀.heap.objs.size
 vf:∀b o,X.base.get? b=some o->b∉X.ex
 vg:∀b∈X.ex,b∉X.fs
 kY:X.s₀.heap.FunFrames X.base X.outer
 xH:∀b∈X.fs,X.H₀ b=none
structure Inv (X:Cx)(pins:List (Addr × Obj))(σ:List (Option V))(H:Hp)(s:Shared):Prop where
 ok:X.Ok
 os:s.os=X.s₀.os
 bare:AllBare s.gens
 base:Un X.fs X.ex X.H₀ H X.s₀.heap s.heap
 loc:∃m,s.heap.Ns X.env.locals m/\∀(i:Nat) (x:Str) (v:V),X.N[i]?=some x->σ[i]?=some (some v)->Oj X.env.scope x->∃u,RelV v u/\Look X.env s.heap m x u
 cell:∀x c,X.env.cells.lookup x=some c->∃v,s.heap.IsCell c v
 free:H X.env.locals=none
 gp:∀x c,X.env.cells.lookup x=some c->H c=none
 pin:∀p∈X.pn++pins,s.heap.get? p.1=some p.2/\H p.1=none/\p.1≠X.env.locals/\p.1∉X.fs/\∀v,p.2.data≠.cell v
 hok:fO X.prog X.w H s.heap
 len:σ.length=X.N.length
section
variable {X:Cx}{pins:List (Addr × Obj)}{σ:List (Option V)}{H H':Hp}{s:Shared}{h':Heap}
theorem Cx.Ok.Xa (ok:X.Ok){b:Addr}{o:Obj}(e:X.base.get? b=some o):b∉X.fs:=λhb=>by
 have:=(ok.kY.mem hb).1
 rw[e] at this; cases this
theorem Inv.bs (I:Inv X pins σ H s):∀b o,X.base.get? b=some o->s.heap.get? b=some o/\H b=none:=λb o e=>
 ⟨I.base.keep b o (I.ok.bs b o e).1 (I.ok.bs b o e).2 (I.ok.Xa e) (I.ok.vf b o e),I.base.free b o (I.ok.bs b o e).1 (I.ok.bs b o e).2 (I.ok.vf b o e)⟩
theorem Inv.bk (I:Inv X pins σ H s):∀b o,X.base.get? b=some o->s.heap.get? b=some o:=λb o e=>(I.bs b o e).1
theorem Inv.mod (I:Inv X pins σ H s):Mod X.K X.mg X.base:=I.ok.mod
theorem Inv.gR (I:Inv X pins σ H s):X.K.In s.heap:=I.ok.mod.GJ.keeps I.bk
theorem Inv.fr (I:Inv X pins σ H s):∃m,Fr X.base X.env.locals s.heap m:=
 let ⟨m,hn,_⟩:=I.loc
 ⟨m,hn,I.bk,Nat.le_trans I.ok.rM I.ok.above⟩
theorem Inv.lt (I:Inv X pins σ H s):X.env.locals < s.heap.objs.size:=let ⟨_,hn,_⟩:=I.loc; hn.lt
theorem Inv.sz (I:Inv X pins σ H s):X.s₀.heap.objs.size<=s.heap.objs.size:=Nat.le_trans I.ok.above (Nat.le_of_lt I.lt)
theorem Inv.Xb (I:Inv X pins σ H s){a:Addr}(h:s.heap.objs.size<=a):a∉X.fs:=λhb=>by
 obtain⟨_,o,ho,_⟩:=I.ok.kY.mem hb
 exact absurd (Nat.lt_of_lt_of_le (Heap.lt_size ho) (Nat.le_trans I.sz h)) (Nat.lt_irrefl _)
theorem Inv.zf (I:Inv X pins σ H s):∀x c,X.env.cells.lookup x=some c->c≠X.env.locals:=λx c e z=>by
 obtain⟨v,o,ho,hd⟩:=I.cell x c e
 obtain⟨m,⟨o',es,ep,ho',hd',_⟩,_⟩:=I.loc
 rw[z,ho'] at ho; cases ho; rw[hd'] at hd; cases hd
theorem Inv.kY (I:Inv X pins σ H s):s.heap.FunFrames X.base X.outer:=by
 have all:∀(l:List Env),(∀b∈frs l,b∈X.fs)->X.s₀.heap.FunFrames X.base l->s.heap.FunFrames X.base l:=by
  intro l
  induction l with
  | nil=>intro _ _; trivial
  | cons env r ih=>
   intro hs hl
   obtain⟨hk,⟨L,o,hf,hn,ho,hd⟩,hr⟩:=hl
   have hL:L∈X.fs:=hs L (by unfold frs; rw[List.filterMap_cons,hf]; exact List.mem_cons_self)
   obtain⟨sl,e⟩:=I.base.slot L o ho (I.ok.xH L hL) hL λz=>I.ok.vg L z hL
   exact⟨hk,⟨L,_,hf,hn,e,hd⟩,ih (λb hb=>hs b (by unfold frs; rw[List.filterMap_cons,hf]; exact List.mem_cons_of_mem _ hb)) hr⟩
 exact all X.outer (λ_ hb=>hb) I.ok.kY
theorem Inv.stack (I:Inv X pins σ H s):s.heap.FunFrames X.base X.stack:=by
 rcases I.ok.stk with e | ⟨e,hf⟩
 ·rw[e]; exact I.kY
 ·rw[e]
  obtain⟨m,hn,_⟩:=I.loc
  refine .cons (by rw[I.ok.kind]; decide) hf hn ?_ I.kY
  exact Heap.get?_none_of_le (Nat.le_trans I.ok.rM I.ok.above)
theorem Inv.DI (I:Inv X pins σ H s):∀b∈frs X.stack,b∈X.env.locals::X.fs:=λb hb=>by
 rcases I.ok.stk with e | ⟨e,hf⟩
 ·rw[e] at hb; exact List.mem_cons_of_mem _ hb
 ·rw[e] at hb
  unfold frs at hb
  rw[List.filterMap_cons,hf] at hb
  exact hb
theorem Inv.wW (I:Inv X pins σ H s):∀b∈frs X.stack,H b=none:=λb hb=>by
 rcases List.mem_cons.mp (I.DI b hb) with e | hb
 ·rw[e]; exact I.free
 ·obtain⟨_,o,ho,_⟩:=I.ok.kY.mem hb
  exact I.base.free b o ho (I.ok.xH b hb) λz=>I.ok.vg b z hb
theorem Inv.step {g':Array GenState}{t':Nat}{d':Drawn}{ch:List Addr}(I:Inv X pins σ H s)
  (hch:∀b∈ch,(b∈X.ex\/X.s₀.heap.objs.size<=b)/\b≠X.env.locals/\(∀x c,X.env.cells.lookup x=some c->c≠b)/\∀p∈X.pn++pins,p.1≠b)
  (keep:∀b o,b≠X.env.locals->b∉X.fs->b∉ch->s.heap.get? b=some o->H b=none->h'.get? b=some o)
  (slot:∀b o,b≠X.env.locals->b∈X.fs->b∉ch->s.heap.get? b=some o->H b=none->∃sl,h'.get? b=some { o with slots:=sl }) (free:∀b o,b∉ch->s.heap.get? b=some o->H b=none->H' b=none)
  (there:∀b o,b∉ch->s.heap.get? b=some o->∃o',h'.get? b=some o')
  (tups:∀b xs,H b=some (.tup xs)->H' b=some (.tup xs)) (jr:∀b o u,H b=some (.mG o u)->H' b=some (.mG o u)) (kg:∀b ps,H b=some (.BJ ps)->∃more,H' b=some (.BJ (ps++more)))
  (ns:∀m,s.heap.Ns X.env.locals m->h'.Ns X.env.locals m) (hok:fO X.prog X.w H' h') (hg:AllBare g') :
  Inv X pins σ H' { s with heap:=h',gens:=g',drawn:=d',toks:=t' }:=by
 have neL:∀b o,X.s₀.heap.get? b=some o->b≠X.env.locals:=λb o e=>Nat.ne_of_lt (Nat.lt_of_lt_of_le (Heap.lt_size e) I.ok.above)
 have neC:∀b o,X.s₀.heap.get? b=some o->b∉X.ex->b∉ch:=λb o e hx hb=>by
  rcases (hch b hb).1 with z | z
  ·exact hx z
  ·exact absurd (Nat.lt_of_lt_of_le (Heap.lt_size e) z) (Nat.lt_irrefl _)
 have cellK:∀x c,X.env.cells.lookup x=some c->∀v,s.heap.IsCell c v->h'.IsCell c v:=λx c e v ⟨o,ho,hd⟩=>by
  have JY:c∉ch:=λz=>(hch c z).2.2.1 x c e rfl
  by_cases hc:c∈X.fs
  ·obtain⟨sl,q⟩:=slot c o (I.zf x c e) hc JY ho (I.gp x c e)
   exact⟨_,q,hd⟩
  ·exact⟨o,keep c o (I.zf x c e) hc JY ho (I.gp x c e),hd⟩
 refine⟨I.ok,I.os,hg,⟨λb o e n hb hx=>?_,λb o e n hb hx=>?_,λb o e n hx=>?_,λb o e hx=>?_,λb xs e=>tups b xs (I.base.tups b xs e),λb o xs e=>jr b o xs (I.base.jr b o xs e),λb ps e=>?_⟩,?_,λx c e=>?_,?_,λx c e=>?_,λp hp=>?_,hok,I.len⟩
 ·exact keep b o (neL b o e) hb (neC b o e hx) (I.base.keep b o e n hb hx) (I.base.free b o e n hx)
 ·obtain⟨sl,e1⟩:=I.base.slot b o e n hb hx
  obtain⟨vh,e2⟩:=slot b _ (neL b o e) hb (neC b o e hx) e1 (I.base.free b o e n hx)
  exact⟨vh,e2⟩
 ·obtain⟨o',e1⟩:=I.base.there b o e hx
  exact free b o' (neC b o e hx) e1 (I.base.free b o e n hx)
 ·obtain⟨o',e1⟩:=I.base.there b o e hx
  exact there b o' (neC b o e hx) e1
 ·obtain⟨m1,e1⟩:=I.base.kg b ps e
  obtain⟨m2,e2⟩:=kg b _ e1
  exact⟨m1++m2,by rw[e2,Array.append_assoc]⟩
 ·obtain⟨m,hn,hl⟩:=I.loc
  refine⟨m,ns m hn,λi x v e1 e2 e3=>?_⟩
  obtain⟨u,r,l⟩:=hl i x v e1 e2 e3
  refine⟨u,r,?_⟩
  rcases l with l | ⟨k,c,e,z⟩
  ·exact .inl l
  ·exact .inr ⟨k,c,e,cellK x c e _ z⟩
 ·obtain⟨v,z⟩:=I.cell x c e
  exact⟨v,cellK x c e v z⟩
 ·obtain⟨m,⟨o,_,_,ho,_⟩,_⟩:=I.loc
  exact free _ o (λz=>(hch _ z).2.1 rfl) ho I.free
 ·obtain⟨v,o,ho,hd⟩:=I.cell x c e
  exact free c o (λz=>(hch c z).2.2.1 x c e rfl) ho (I.gp x c e)
 ·obtain⟨e,n,ne,nf,d⟩:=I.pin p hp
  have JY:p.1∉ch:=λz=>(hch p.1 z).2.2.2 p hp rfl
  exact⟨keep p.1 p.2 ne nf JY e n,free p.1 p.2 JY e n,ne,nf,d⟩
theorem Inv.un {t':Nat}(I:Inv X pins σ H s)(u:Un X.fs [] H H' s.heap h')(hok:fO X.prog X.w H' h'):Inv X pins σ H' { s with heap:=h',toks:=t' }:=by
 obtain⟨m,⟨o,es,ep,ho,r⟩,_⟩:=id I.loc
 obtain⟨sl,hL⟩:=u.any ho I.free (by simp)
 exact I.step (g':=s.gens) (d':=s.drawn) (ch:=[]) (λ_ z=>nomatch z) (λb o _ hb _ e n=>u.keep b o e n hb (by simp)) (λb o _ hb _ e n=>u.slot b o e n hb (by simp)) (λb o _ e n=>u.free b o e n (by simp)) (λb o _ e=>u.there b o e (by simp)) u.tups u.jr u.kg (λm' hm=>by
  obtain⟨o',es',JZ,ho',r'⟩:=hm
  rw[ho] at ho'; cases ho'
  exact⟨_,es',JZ,hL,r'⟩) hok I.bare
theorem Inv.call {g':Array GenState}{t':Nat}{d':Drawn}{ch:List Addr}(I:Inv X pins σ H s)(u:Un (frs X.stack) ch H H' s.heap h')(hok:fO X.prog X.w H' h')(hg:AllBare g')
  (hch:∀b∈ch,(b∈X.ex\/X.s₀.heap.objs.size<=b)/\b≠X.env.locals/\(∀x c,X.env.cells.lookup x=some c->c≠b)/\∀p∈X.pn++pins,p.1≠b) :
  Inv X pins σ H' { s with heap:=h',gens:=g',drawn:=d',toks:=t' }:=by
 obtain⟨m,⟨o,es,ep,ho,r⟩,_⟩:=id I.loc
 obtain⟨sl,hL⟩:=u.any ho I.free λz=>(hch _ z).2.1 rfl
 exact I.step (ch:=ch) hch (λb o hL hb hc e n=>u.keep b o e n (λz=>(List.mem_cons.mp (I.DI b z)).elim hL hb) hc) (λb o _ _ hc e n=>u.any e n hc) (λb o hc e n=>u.free b o e n hc) (λb o hc e=>u.there b o e hc) u.tups u.jr u.kg (λm' hm=>by
  obtain⟨o',es',JZ,ho',r'⟩:=hm
  rw[ho] at ho'; cases ho'
  exact⟨_,es',JZ,hL,r'⟩) hok hg
theorem Inv.turned {t':Nat}{it:Addr}(I:Inv X pins σ H s)(k:∀b o,b≠it->s.heap.get? b=some o->h'.get? b=some o)(hn:H it=none)(hL:it≠X.env.locals)
  (h1:it∈X.ex\/X.s₀.heap.objs.size<=it) (h2:∀x c,X.env.cells.lookup x=some c->c≠it) (h3:∀p∈X.pn++pins,p.1≠it):Inv X pins σ H { s with heap:=h',toks:=t' }:=by
 have VC:∀b u,H b=some u->b≠it:=λb u e z=>by rw[z,hn] at e; cases e
 refine I.step (g':=s.gens) (d':=s.drawn) (ch:=[it]) (λb hb=>?_) (λb o _ _ hc e _=>k b o (λz=>hc (by simp [z])) e) (λb o _ _ hc e _=>⟨o.slots,k b o (λz=>hc (by simp [z])) e⟩) (λ_ _ _ _ n=>n)
  (λb o hc e=>⟨o,k b o (λz=>hc (by simp [z])) e⟩) (λ_ _ e=>e) (λ_ _ _ e=>e) (λb ps e=>⟨#[],by rw[e]; simp⟩) (λm hm=>?_) (λb u e=>?_) I.bare
 ·have e:b=it:=by simpa using hb
  subst e
  exact⟨h1,hL,h2,h3⟩
 ·obtain⟨o,es,ep,ho,r⟩:=hm
  exact⟨o,es,ep,k _ o (Ne.symm hL) ho,r⟩
 ·refine (I.hok b u e).stay (λc v hc q=>k c v ?_ q) (λ_ q=>q) λ_ _ q=>q
  rcases hc with z | z
  ·rw[z]; exact VC b u e
  ·exact VC c _ z
theorem Inv.tok (I:Inv X pins σ H s)(t:Nat):Inv X pins σ H { s with toks:=t }:=I.un (h':=s.heap) (t':=t) Un.refl I.hok
theorem Inv.kept {t':Nat}(I:Inv X pins σ H s)(k:∀b u,s.heap.get? b=some u->h'.get? b=some u):Inv X pins σ H { s with heap:=h',toks:=t' }:=I.un (Un.kept k) (I.hok.kept k)
theorem Inv.laid {a:Addr}{o:HO}{t':Nat}(I:Inv X pins σ H s)(k:∀b u,s.heap.get? b=some u->h'.get? b=some u)(hp:s.heap.objs.size<=a)(new:bE X.prog X.w (upd H a o) h' a o) :
  Inv X pins σ (upd H a o) { s with heap:=h',toks:=t' }:=I.un (Un.laid k hp (I.hok.fresh hp)) (I.hok.laid k hp new)
theorem Inv.write {x e:Addr}{o:HO}{t':Nat}(I:Inv X pins σ H s)(mu:dZ (H x))(he:e=x\/H e=some (.own x))(k:∀b u,b≠e->s.heap.get? b=some u->h'.get? b=some u)(heo:∃u,h'.get? e=some u)
  (new:bE X.prog X.w (upd H x o) h' x o):Inv X pins σ (upd H x o) { s with heap:=h',toks:=t' }:=I.un (Un.write mu he k heo) (I.hok.write mu he k heo new)
theorem Inv.weak {σ':List (Option V)}(I:Inv X pins σ H s)(hl:σ'.length=σ.length)(w:∀(i:Nat) v,σ'[i]?=some (some v)->σ[i]?=some (some v)):Inv X pins σ' H s:=
 ⟨I.ok,I.os,I.bare,I.base,let ⟨m,hn,hl'⟩:=I.loc; ⟨m,hn,λi x v e1 e2 e3=>hl' i x v e1 (w i v e2) e3⟩,I.cell,I.free,I.gp,I.pin,I.hok,hl.trans I.len⟩
theorem Inv.GL {Ol:List (Addr × Obj)}(I:Inv X pins σ H s)(h:∀p∈Ol,s.heap.get? p.1=some p.2/\H p.1=none/\p.1≠X.env.locals/\p.1∉X.fs/\∀v,p.2.data≠.cell v):Inv X Ol σ H s:=
 ⟨I.ok,I.os,I.bare,I.base,I.loc,I.cell,I.free,I.gp,λp hp=>(List.mem_append.mp hp).elim (λz=>I.pin p (List.mem_append_left _ z)) (h p),I.hok,I.len⟩
theorem yk {N:List Str}(hN:N.Nodup){i j:Nat}{x:Str}(a:N[i]?=some x)(b:N[j]?=some x):i=j:=by
 obtain⟨h1,e1⟩:=List.getElem?_eq_some_iff.mp a
 obtain⟨h2,e2⟩:=List.getElem?_eq_some_iff.mp b
 exact (List.getElem_inj hN).mp (e1.trans e2.symm)
theorem BL {M:Model}{A:Around}{E:Value->Shared->Prop}{i:Nat}{x:Str}{v:V}{u:Value}{Q:Unit->Shared->Prop}(I:Inv X pins σ H s)(hN:X.N.Nodup)(hi:X.N[i]?=some x)(hx:Loc X.env.scope x)(r:RelV v u)
  (h:∀s',Inv X pins (σ.set i (some v)) H s'->(∃a,Heap.SameBut a s.heap s'.heap/\(a=X.env.locals\/X.env.cells.lookup x=some a))->Q () s') (hf:X.fn x=true\/X.env.scope.names.lookup x=some .local:=by first | exact .inl rfl | exact .inr rfl | assumption):wpAny M A (storeName X.env x u) Q E s:=by
 obtain⟨m,hn,hl⟩:=id I.loc
 have hcls:(X.env.scope.kind == .class||(X.env.scope.kind == .module&&X.env.locals != X.env.globals))=false:=by rw[I.ok.kind]; rfl
 have hiσ:i < σ.length:=by rw[I.len]; exact (List.getElem?_eq_some_iff.mp hi).1
 have zf:=I.zf
 have tracked:∀{a:Addr} {h':Heap},(∃o,s.heap.get? a=some o/\H a=none)->Heap.SameBut a s.heap h'->fO X.prog X.w H h':=λ{a h'} ha hs b ob e=>by
  obtain⟨_,_,hfree⟩:=ha
  refine (I.hok b ob e).stay (λc w' hc q=>(hs.2 c ?_).trans q) (λ_ q=>q) λ_ _ q=>q
  rintro rfl
  rcases hc with rfl | hc
  ·rw[hfree] at e; cases e
  ·rw[hfree] at hc; cases hc
 rcases hx with hk | hk
 ·refine wpAny_storeName_local hk hn (λh' hn' hs=>?_) hcls
  obtain⟨oL,_,_,VD,_⟩:=id hn
  refine h _ ⟨I.ok,I.os,I.bare,⟨λb o e n hb hx=>?_,λb o e n hb hx=>?_,I.base.free,λb o e hx=>?_,I.base.tups,I.base.jr,I.base.kg⟩,⟨_,hn',λj y v' e1 e2 e3=>?_⟩,λy c e=>?_,I.free,I.gp,λp hp=>?_,tracked ⟨oL,VD,I.free⟩ hs,by simpa using I.len⟩ ⟨_,hs,.inl rfl⟩
  ·exact (hs.2 b (Nat.ne_of_lt (Nat.lt_of_lt_of_le (Heap.lt_size e) I.ok.above))).trans (I.base.keep b o e n hb hx)
  ·obtain⟨sl,e1⟩:=I.base.slot b o e n hb hx
   exact⟨sl,(hs.2 b (Nat.ne_of_lt (Nat.lt_of_lt_of_le (Heap.lt_size e) I.ok.above))).trans e1⟩
  ·obtain⟨o',e1⟩:=I.base.there b o e hx
   exact⟨o',(hs.2 b (Nat.ne_of_lt (Nat.lt_of_lt_of_le (Heap.lt_size e) I.ok.above))).trans e1⟩
  ·by_cases hj:j=i
   ·subst hj
    rw[hi] at e1; cases e1
    rw[List.getElem?_set_self hiσ] at e2
    cases e2
    exact⟨u,r,.inl ⟨hk,by simp⟩⟩
   ·rw[List.getElem?_set_ne (Ne.symm hj)] at e2
    obtain⟨u',r',q⟩:=hl j y v' e1 e2 e3
    refine⟨u',r',?_⟩
    rcases q with ⟨k,e⟩ | ⟨k,c,e,z⟩
    ·refine .inl ⟨k,?_⟩
     have:y≠x:=λe=>hj (yk hN e1 (e ▸ hi))
     simp [this,e]
    ·exact .inr ⟨k,c,e,z.sameBut hs (zf y c e)⟩
  ·obtain⟨w',z⟩:=I.cell y c e
   exact⟨w',z.sameBut hs (zf y c e)⟩
  ·obtain⟨e,n,ne,nf,d⟩:=I.pin p hp
   exact⟨(hs.2 p.1 ne).trans e,n,ne,nf,d⟩
 ·have hfn:X.fn x=true:=by
   rcases hf with z | z
   ·exact z
   ·rw[z] at hk; cases hk
  obtain⟨c,hc⟩:=I.ok.has x (.inl hk)
  obtain⟨w',z⟩:=I.cell x c hc
  refine wpAny_storeName_cell I.ok.kind hk hc z (λh' hc' hs=>?_)
  obtain⟨oc,hoc,Xc⟩:=id z
  refine h { s with heap:=h' } ⟨I.ok,I.os,I.bare,⟨λb o e n hb hx=>?_,λb o e n hb hx=>?_,I.base.free,λb o e hx=>?_,I.base.tups,I.base.jr,I.base.kg⟩,⟨m,hn.sameBut hs (Ne.symm (zf x c hc)),λj y v' e1 e2 e3=>?_⟩,λy c' e=>?_,I.free,I.gp,λp hp=>?_,tracked ⟨oc,hoc,I.gp x c hc⟩ hs,by simpa using I.len⟩ ⟨c,hs,.inr hc⟩
  ·exact (hs.2 b (Nat.ne_of_lt (Nat.lt_of_lt_of_le (Heap.lt_size e) (I.ok.BK x c hfn hc)))).trans (I.base.keep b o e n hb hx)
  ·obtain⟨sl,e1⟩:=I.base.slot b o e n hb hx
   exact⟨sl,(hs.2 b (Nat.ne_of_lt (Nat.lt_of_lt_of_le (Heap.lt_size e) (I.ok.BK x c hfn hc)))).trans e1⟩
  ·obtain⟨o',e1⟩:=I.base.there b o e hx
   exact⟨o',(hs.2 b (Nat.ne_of_lt (Nat.lt_of_lt_of_le (Heap.lt_size e) (I.ok.BK x c hfn hc)))).trans e1⟩
  ·by_cases hj:j=i
   ·subst hj
    rw[hi] at e1; cases e1
    rw[List.getElem?_set_self hiσ] at e2
    cases e2
    exact⟨u,r,.inr ⟨.inl hk,c,hc,hc'⟩⟩
   ·rw[List.getElem?_set_ne (Ne.symm hj)] at e2
    obtain⟨u',r',q⟩:=hl j y v' e1 e2 e3
    refine⟨u',r',?_⟩
    rcases q with q | ⟨k,c',e,z'⟩
    ·exact .inl q
    ·refine .inr ⟨k,c',e,z'.sameBut hs ?_⟩
     rintro rfl
     exact hj (yk hN e1 (I.ok.inj _ _ _ e hc ▸ hi))
  ·by_cases hcc:c'=c
   ·subst hcc; exact⟨_,hc'⟩
   ·obtain⟨w2,z2⟩:=I.cell y c' e
    exact⟨w2,z2.sameBut hs hcc⟩
  ·obtain⟨e,n,ne,nf,d⟩:=I.pin p hp
   refine⟨(hs.2 p.1 ?_).trans e,n,ne,nf,d⟩
   intro q
   rw[q,hoc] at e
   have q':oc=p.2:=Option.some.inj e
   exact d w' (by rw[←q']; exact Xc)
theorem tH {M:Model}{A:Around}{E:Value->Shared->Prop}{i:Nat}{x:Str}{v:V}{u:Value}{Q:Unit->Shared->Prop}(I:Inv X pins σ H s)(hN:X.N.Nodup)(hi:X.N[i]?=some x)(hx:Loc X.env.scope x)(r:RelV v u)
  (h:∀s',Inv X pins (σ.set i (some v)) H s'->Q () s') (hf:X.fn x=true\/X.env.scope.names.lookup x=some .local:=by first | exact .inl rfl | exact .inr rfl | assumption):wpAny M A (storeName X.env x u) Q E s:=
 BL I hN hi hx r (λs' I' _=>h s' I') hf
theorem Inv.IB {s':Shared}{ch:List Addr}(I:Inv X pins σ H s)(ho:s'.os=s.os)(u:Un (frs X.stack) ch H H' s.heap s'.heap)(hok:fO X.prog X.w H' s'.heap)(hg:AllBare s'.gens)
  (hch:∀b∈ch,(b∈X.ex\/X.s₀.heap.objs.size<=b)/\b≠X.env.locals/\(∀x c,X.env.cells.lookup x=some c->c≠b)/\∀p∈X.pn++pins,p.1≠b):Inv X pins σ H' s':=by
 obtain⟨h',g',d',t',o'⟩:=s'
 have e:o'=s.os:=ho
 subst e
 exact I.call (g':=g') (t':=t') (d':=d') u hok hg hch
end
abbrev XK:=Value->Option Addr->Hp->Prop
abbrev St:=List (Option V)
abbrev VK:=V->Hp->Prop
abbrev TE:=St->Hp->VK->Prop
abbrev TT:=St->Hp->(Bool->Hp->Prop)->Prop
abbrev TA:=St->Hp->(List V->Hp->Prop)->Prop
structure Ends where
 nx:St->Hp->Prop
 rt:VK
 bk:St->Hp->Prop:=λ_ _=>False
 ct:St->Hp->Prop:=λ_ _=>False
abbrev TS:=Ends->St->Hp->Prop
def EP (X:Cx)(pins:List (Addr × Obj))(σ:St)(Q:VK)(u:Value)(s':Shared):Prop:=∃v H',Inv X pins σ H' s'/\RelV v u/\Q v H'
def TP (X:Cx)(pins:List (Addr × Obj))(σ:St)(Q:Bool->Hp->Prop)(b:Bool)(s':Shared):Prop:=∃H',Inv X pins σ H' s'/\Q b H'
def AP (X:Cx)(pins:List (Addr × Obj))(σ:St)(Q:List V->Hp->Prop)(us:List Value)(s':Shared):Prop:=∃vs H',Inv X pins σ H' s'/\Vals vs us/\Q vs H'
def SP (X:Cx)(pins:List (Addr × Obj))(D:Ends)(f:Flow)(s':Shared):Prop:=
 match f with
 | .next=>∃σ' H',Inv X pins σ' H' s'/\D.nx σ' H'
 | .brk=>∃σ' H',Inv X pins σ' H' s'/\D.bk σ' H'
 | .cont=>∃σ' H',Inv X pins σ' H' s'/\D.ct σ' H'
 | .ret u=>∃v σ' H',Inv X pins σ' H' s'/\RelV v u/\D.rt v H'
def PE (X:Cx)(e:Expr)(t:TE):Prop:=
 ∀(pins:List (Addr × Obj)) (s:Shared) (σ:St) (H:Hp) (Q:VK),Inv X pins σ H s->t σ H Q->wpAny (model X.prog X.w) X.A (eval e X.env) (EP X pins σ Q) X.xe s
def PT (X:Cx)(e:Expr)(t:TT):Prop:=
 ∀(pins:List (Addr × Obj)) (s:Shared) (σ:St) (H:Hp) (Q:Bool->Hp->Prop),Inv X pins σ H s->t σ H Q->wpAny (model X.prog X.w) X.A (isTrue e X.env (eval e X.env)) (TP X pins σ Q) X.xe s
def PW (X:Cx)(e:Expr)(t:TT):Prop:=
 ∀(whole:Sem Value) (pins:List (Addr × Obj)) (s:Shared) (σ:St) (H:Hp) (Q:Bool->Hp->Prop),Inv X pins σ H s->t σ H Q->wpAny (model X.prog X.w) X.A (isTrue e X.env whole) (TP X pins σ Q) X.xe s
theorem PW.pt {X:Cx}{e:Expr}{t:TT}(h:PW X e t):PT X e t:=h _
def PA (X:Cx)(es:List Expr)(t:TA):Prop:=
 ∀(pos:Pos) (pins:List (Addr × Obj)) (s:Shared) (σ:St) (H:Hp) (Q:List V->Hp->Prop),Inv X pins σ H s->t σ H Q->wpAny (model X.prog X.w) X.A (spliced (backTo pos (starEach es X.env))) (AP X pins σ Q) X.xe s
def PS (X:Cx)(st:Stmt)(t:TS):Prop:=
 ∀(pins:List (Addr × Obj)) (s:Shared) (σ:St) (H:Hp) (D:Ends),Inv X pins σ H s->t D σ H->wpAny (model X.prog X.w) X.A (exec st X.env) (SP X pins D) X.xe s
def nG (X:Cx)(st:List Stmt)(t:TS):Prop:=
 ∀(pins:List (Addr × Obj)) (s:Shared) (σ:St) (H:Hp) (D:Ends),Inv X pins σ H s->t D σ H->wpAny (model X.prog X.w) X.A (execs st X.env) (SP X pins D) X.xe s
theorem aN {α:Type}{t:Sem α}{Q Q':α->Shared->Prop}{M:Model}{A:Around}{E:Value->Shared->Prop}{s:Shared}(h:wpAny M A t Q E s)(hQ:∀a s,Q a s->Q' a s):wpAny M A t Q' E s:=wpAny_mono h hQ λ_ _ x=>x
end L2
namespace L2
open PySem PySem.Spec PyProof.Rows
section
variable {X:Cx}
theorem bin {a b:Expr}{ta tb:TE}(ha:PE X a ta)(hb:PE X b tb){pins:List (Addr × Obj)}{s:Shared}{σ:St}{H:Hp}{R:V->V->Hp->Prop}(I:Inv X pins σ H s)(h:ta σ H λx H1=>tb σ H1 λy H2=>R x y H2)
  {α:Type} {Q:α->Shared->Prop} {f:Value->Value->Sem α}
  (hf:∀v u s2 x y H2,Inv X pins σ H2 s2->RelV x v->RelV y u->R x y H2->wpAny (model X.prog X.w) X.A (f v u) Q X.xe s2) :
  wpAny (model X.prog X.w) X.A (eval a X.env) (λv s₁=>wpAny (model X.prog X.w) X.A (eval b X.env) (λu s₂=>wpAny (model X.prog X.w) X.A (f v u) Q X.xe s₂) X.xe s₁) X.xe s:=by
 refine aN (ha pins s σ H _ I h) λv s1 ⟨x,H1,I1,r1,q1⟩=>?_
 refine aN (hb pins s1 σ H1 _ I1 q1) λu s2 ⟨y,H2,I2,r2,q2⟩=>?_
 exact hf v u s2 x y H2 I2 r1 r2 q2
def eG (i:Nat):TE:=fun σ H Q=>∃v,σ[i]?=some (some v)/\Q v H
def tC (v:V):TE:=λ_ H Q=>Q v H
theorem Rt {i:Nat}{x:Str}{pos:Pos}(hN:X.N[i]?=some x)(hv:Oj X.env.scope x)(hd:(x == ("__debug__":Str))=false:=by decide)(hcd:(x == ("__classdict__":Str))=false:=by decide):PE X (.Name x pos) (eG i):=by
 intro pins s σ H Q I h
 obtain⟨v,e,h⟩:=h
 obtain⟨m,hn,hl⟩:=I.loc
 obtain⟨u,r,l⟩:=hl i x v hN e hv
 have fin:EP X pins σ Q u s:=⟨v,H,I,r,h⟩
 rcases l with ⟨hk,hm⟩ | ⟨hk,c,hc,hcell⟩
 ·exact wpAny_Name (wpAny_loadName_local I.ok.kind hk hn hm fin) hd
 ·rcases hk with hk | hk
  ·exact wpAny_Name (wpAny_loadName_cell I.ok.kind hk hc hcell fin) hd
  ·exact wpAny_Name (wpAny_loadName_free I.ok.kind hk hc hcell fin hcd) hd
theorem aq {i j pos}:PE X (.Constant (.int i) j pos) (tC (.int i)):=λ_ _ _ H _ I h=>wpAny_Constant_int ⟨.int i,H,I.tok _,⟨_,rfl⟩,h⟩
theorem nj {b j pos}:PE X (.Constant (.bool b) j pos) (tC (.bl b)):=λ_ _ _ H _ I h=>Constant_bool ⟨.bl b,H,I,rfl,h⟩
theorem zg {j pos}:PE X (.Constant .none j pos) (tC .aR):=λ_ _ _ H _ I h=>Constant_none ⟨.aR,H,I,rfl,h⟩
theorem cg {x j pos}:PE X (.Constant (.str x) j pos) (tC (.str x)):=λ_ _ _ H _ I h=>Calls.Constant_str ⟨.str x,H,I.tok _,⟨_,rfl⟩,h⟩
def Gl (X:Cx)(x:Str):Prop:=X.env.kindOf x=some .globalImplicit
theorem oY {E:Value->Shared->Prop}{pins:List (Addr × Obj)}{s:Shared}{σ:St}{H:Hp}{x:Str}{u:Value}{pos:Pos}{Q:Value->Shared->Prop}(I:Inv X pins σ H s)(hg:Gl X x)(hm:X.mg x=some u)(h:Q u s)
  (hd:(x == ("__debug__":Str))=false:=by decide):wpAny (model X.prog X.w) X.A (eval (.Name x pos) X.env) Q E s:=
 Calls.Name_function_global I.ok.kind hg (Calls.loadGlobal_global (by rw[I.ok.glob]; exact I.mod.glob.keeps I.bk) hm h) hd
theorem pe {E:Value->Shared->Prop}{pins:List (Addr × Obj)}{s:Shared}{σ:St}{H:Hp}{x:Str}{u:Value}{pos:Pos}{Q:Value->Shared->Prop}(I:Inv X pins σ H s)(hg:Gl X x)(hm:X.mg x=none)(hv:bootBuiltins x=some u)(h:Q u s)
  (hn:x≠"__name__":=by decide) (hd:(x == ("__debug__":Str))=false:=by decide):wpAny (model X.prog X.w) X.A (eval (.Name x pos) X.env) Q E s:=by
 obtain⟨mb,h1,h2⟩:=I.mod.blt
 exact Calls.Name_function_global I.ok.kind hg (Calls.loadGlobal_builtin (by rw[I.ok.glob]; exact I.mod.glob.keeps I.bk) hm (by rw[I.ok.blt]; exact h1.keeps I.bk) ((h2 x hn).trans hv) h) hd
theorem dF {x:Str}{v:V}{u:Value}{pos:Pos}(hg:Gl X x)(hm:X.mg x=some u)(r:RelV v u)(hd:(x == ("__debug__":Str))=false:=by decide):PE X (.Name x pos) (tC v):=
 λ_ _ _ H _ I h=>oY I hg hm ⟨v,H,I,r,h⟩ hd
theorem P6 {x:Str}{v:V}{u:Value}{pos:Pos}(hg:Gl X x)(hm:X.mg x=none)(hv:bootBuiltins x=some u)(r:RelV v u)(hn:x≠"__name__":=by decide)(hd:(x == ("__debug__":Str))=false:=by decide):PE X (.Name x pos) (tC v):=
 λ_ _ _ H _ I h=>pe I hg hm hv ⟨v,H,I,r,h⟩ hn hd
variable {a b:Expr}{ta tb:TE}{pos:Pos}
def PC (X:Cx)(op:CmpOp)(a b:Expr)(t:TE):Prop:=
 ∀(pins:List (Addr × Obj)) (s:Shared) (σ:St) (H:Hp) (Q:VK),Inv X pins σ H s->t σ H Q->
  wpAny (model X.prog X.w) X.A (eval a X.env) (λv s₁=>wpAny (model X.prog X.w) X.A (eval b X.env) (λu s₂=>wpAny (model X.prog X.w) X.A (compareOp op v u) (EP X pins σ Q) X.xe s₂) X.xe s₁) X.xe s
theorem Mh (b:Expr){op:CmpOp}(h:op≠.In)(h2:op≠.NotIn):behindInMarks op b=false:=by
 have e1:(op == CmpOp.In)=false:=by cases op <;> first | rfl | exact absurd rfl h
 have e2:(op == CmpOp.NotIn)=false:=by cases op <;> first | rfl | exact absurd rfl h2
 cases b <;> simp [behindInMarks,e1,e2]
def Ru (ta:TE):TE:=fun σ H Q=>ta σ H λx H1=>Q (.bl (decide (x=.aR))) H1
def Om (ta:TE):TE:=fun σ H Q=>ta σ H λx H1=>Q (.bl (!decide (x=.aR))) H1
theorem RelV.DJ {x:V}{v:Value}(r:RelV x v):(v == Value.none)=decide (x=.aR):=by
 cases x with
 | aR=>cases r; rfl
 | bl _=>cases r; rfl
 | int _=>obtain⟨t,rfl⟩:=r; rfl
 | str _=>obtain⟨t,rfl⟩:=r; rfl
 | nF _=>obtain⟨t,rfl⟩:=r; rfl
 | BI _=>obtain⟨t,rfl⟩:=r; rfl
 | ref _=>cases r; rfl
 | ty _=>cases r; rfl
theorem Rv {j pos'}(ha:PE X a ta):PC X .Is a (.Constant .none j pos') (Ru ta):=by
 intro pins s σ H Q I h
 refine aN (ha pins s σ H _ I h) λv s1 ⟨x,H1,I1,r1,q1⟩=>?_
 exact Constant_none (is_none_gen ⟨.bl _,H1,I1,by rw[r1.DJ]; rfl,q1⟩)
theorem P7 {j pos'}(ha:PE X a ta):PC X .IsNot a (.Constant .none j pos') (Om ta):=by
 intro pins s σ H Q I h
 refine aN (ha pins s σ H _ I h) λv s1 ⟨x,H1,I1,r1,q1⟩=>?_
 exact Constant_none (isnot_none_gen ⟨.bl _,H1,I1,by rw[r1.DJ]; rfl,q1⟩)
def tB (t:TE):TT:=fun σ H Q=>t σ H λx H1=>∃c,x=.bl c/\Q c H1
theorem rN {op:CmpOp}{t:TE}(h:PC X op a b t)(h1:behindInMarks op b=false:=by first | exact Mh _ (by decide) (by decide) | rfl):PT X (.Compare a [op] [b] pos) (tB t):=by
 intro pins s σ H Q I hw
 refine wpAny_isTrue_Compare1 (aN (h pins s σ H _ I hw) λv s1 h1=>aN h1 λu s2 h2=>aN h2 λc s3 ⟨x,H1,I1,r1,q1⟩=>?_) h1
 obtain⟨d,rfl,q⟩:=q1
 cases r1
 exact wpAny_truthy_bool ⟨H1,I1,q⟩
theorem zh {e:Expr}{t:TE}(h:PE X e t)(he:∀whole,isTrue e X.env whole=(do let v ←whole; standAt e.pos; holding [v] (truthy v)):=by intro _; rfl):PT X e (tB t):=by
 intro pins s σ H Q I hw
 refine isTrue_plain (aN (h pins s σ H _ I hw) λv s1 ⟨x,H1,I1,r1,q1⟩=>?_) (he _)
 obtain⟨d,rfl,q⟩:=q1
 cases r1
 exact wpAny_truthy_bool ⟨H1,I1,q⟩
variable {tA Oo:TT}{rest:List Expr}
def Rw (t u:TT):TT:=fun σ H Q=>t σ H λc H1=>if c=true then u σ H1 Q else Q false H1
def VE (t u:TT):TT:=fun σ H Q=>t σ H λc H1=>if c=true then Q true H1 else u σ H1 Q
def Ry (t:TT):TT:=fun σ H Q=>t σ H λc H1=>Q (!c) H1
theorem P8 (ha:PT X a tA):PW X (.BoolOp .And [a] pos) tA:=by
 intro wh pins s σ H Q I h
 refine isTrue_and (aN (ha pins s σ H Q I h) λc s1 e=>?_)
 cases c with
 | true=>exact isTrue_and_nil e
 | false=>exact e
theorem J0 (ha:PT X a tA):PW X (.BoolOp .Or [a] pos) tA:=by
 intro wh pins s σ H Q I h
 refine isTrue_or (aN (ha pins s σ H Q I h) λc s1 e=>?_)
 cases c with
 | false=>exact isTrue_or_nil e
 | true=>exact e
theorem Rz (ha:PT X a tA)(hb:PW X (.BoolOp .And (b::rest) pos) Oo):PW X (.BoolOp .And (a::b::rest) pos) (Rw tA Oo):=by
 intro wh pins s σ H Q I h
 refine isTrue_and (aN (ha pins s σ H _ I h) λc s1 ⟨H1,I1,q1⟩=>?_)
 cases c with
 | true=>exact hb wh pins s1 σ H1 Q I1 q1
 | false=>exact⟨H1,I1,q1⟩
theorem Oq (ha:PT X a tA)(hb:PW X (.BoolOp .Or (b::rest) pos) Oo):PW X (.BoolOp .Or (a::b::rest) pos) (VE tA Oo):=by
 intro wh pins s σ H Q I h
 refine isTrue_or (aN (ha pins s σ H _ I h) λc s1 ⟨H1,I1,q1⟩=>?_)
 cases c with
 | true=>exact⟨H1,I1,q1⟩
 | false=>exact hb wh pins s1 σ H1 Q I1 q1
theorem pq (ha:PT X a tA):PT X (.UnaryOp .Not a pos) (Ry tA):=by
 intro pins s σ H Q I h
 exact isTrue_not (ha pins s σ H (λc H1=>Q (!c) H1) I h)
def Ot (ta tb:TE):TE:=fun σ H Q=>ta σ H λx H1=>∃c,x=.bl c/\if c=true then tb σ H1 Q else Q (.bl false) H1
theorem DK {op}{t:TE}(h:PE X a t):PE X (.BoolOp op [a] pos) t:=λpins s σ H Q I hw=>BoolOp_one (h pins s σ H Q I hw)
theorem DL (ha:PE X a ta)(hb:PE X (.BoolOp .And (b::rest) pos) tb):PE X (.BoolOp .And (a::b::rest) pos) (Ot ta tb):=by
 intro pins s σ H Q I h
 refine BoolOp_and (aN (ha pins s σ H _ I h) λv s1 ⟨x,H1,I1,r1,q1⟩=>?_)
 obtain⟨c,rfl,q1⟩:=q1
 cases r1
 refine wpAny_truthy_bool ?_
 cases c with
 | true=>exact hb pins s1 σ H1 Q I1 q1
 | false=>exact⟨.bl false,H1,I1,rfl,q1⟩
def RA (t:TT)(ta tb:TE):TE:=fun σ H Q=>t σ H λc H1=>if c=true then ta σ H1 Q else tb σ H1 Q
theorem DM {c:Expr}(hc:PT X c tA)(ha:PE X a ta)(hb:PE X b tb):PE X (.IfExp c a b pos) (RA tA ta tb):=by
 intro pins s σ H Q I h
 refine wpAny_IfExp (aN (hc pins s σ H _ I h) λd s1 ⟨H1,I1,q1⟩=>?_)
 cases d with
 | true=>exact ha pins s1 σ H1 Q I1 q1
 | false=>exact hb pins s1 σ H1 Q I1 q1
end
end L2
namespace L2
open PySem PySem.Spec PyProof.Rows
def aE (K:PySem.W.Frag)(H:Hp)(a:Addr)(xs:List V):Prop:=
 Rd H a (.lst xs)\/
  ∃(o:Obj) (its:Array Value) (n:Nat),K.lookup a=some o/\o.cls=.type "list"/\o.dict=none/\o.data=.seq its n/\its.size<=sizeLine/\Vals xs its.toList
def aK (K:PySem.W.Frag)(H:Hp)(a:Addr)(xs:List V):Prop:=
 Rd H a (.tup xs)\/
  ∃(o:Obj) (its:Array Value) (n:Nat),K.lookup a=some o/\o.cls=.type "tuple"/\o.data=.seq its n/\its.size<=sizeLine/\Vals xs its.toList
def DN:Value->Option V
 | .none=>some .aR
 | .bool b=>some (.bl b)
 | .int i _=>some (.int i)
 | .str x _=>some (.str x)
 | .bytes b _=>some (.nF b)
 | .float b _=>some (.BI b)
 | .ref a=>some (.ref a)
 | .type n=>some (.ty n)
 | _=>none
theorem RelV.abs {x:V}{u:Value}(r:RelV x u):DN u=some x:=by
 cases x with
 | aR=>cases r; rfl
 | bl _=>cases r; rfl
 | int _=>obtain⟨t,rfl⟩:=r; rfl
 | str _=>obtain⟨t,rfl⟩:=r; rfl
 | nF _=>obtain⟨t,rfl⟩:=r; rfl
 | BI _=>obtain⟨t,rfl⟩:=r; rfl
 | ref _=>cases r; rfl
 | ty _=>cases r; rfl
theorem RelV.inj {x y:V}{u:Value}(r:RelV x u)(q:RelV y u):x=y:=Option.some.inj (r.abs.symm.trans q.abs)
theorem Vals.inj:∀{xs ys:List V} {us:List Value},Vals xs us->Vals ys us->xs=ys
 | _,_,_,.nil,.nil=>rfl
 | _,_,_,.cons r t,.cons r' t'=>by rw[r.inj r',Vals.inj t t']
section
variable {X:Cx}{pins:List (Addr × Obj)}{σ:St}{H:Hp}{s:Shared}{a:Addr}{xs ys:List V}
theorem aE.of {K:PySem.W.Frag}(h:H a=some (.lst xs)):aE K H a xs:=.inl (.inl h)
theorem aK.of {K:PySem.W.Frag}(h:H a=some (.tup xs)):aK K H a xs:=.inl (.inl h)
theorem Inv.list (I:Inv X pins σ H s)(h:aE X.K H a xs):∃its:List Value,Vals xs its/\PlainL s.heap a its.toArray/\xs.length<=sizeLine:=by
 rcases h with h | ⟨o,its,n,hk,hc,hd,hs,hz,r⟩
 ·obtain⟨z,its,n,r,e⟩:=h.ok I.hok
  exact⟨its,r,⟨_,n,e,rfl,rfl,rfl⟩,z⟩
 ·refine⟨its.toList,r,⟨o,n,I.gR a o hk,hc,hd,by simpa using hs⟩,?_⟩
  have e:=r.length
  simp only [Array.length_toList] at e
  omega
theorem Inv.tuple (I:Inv X pins σ H s)(h:aK X.K H a xs):∃its:List Value,Vals xs its/\IsTup s.heap a its.toArray/\xs.length<=sizeLine:=by
 rcases h with h | ⟨o,its,n,hk,hc,hs,hz,r⟩
 ·obtain⟨z,its,r,p⟩:=h.ok I.hok
  exact⟨its,r,p,z⟩
 ·refine⟨its.toList,r,⟨o,I.gR a o hk,hc,n,by simpa using hs⟩,?_⟩
  have e:=r.length
  simp only [Array.length_toList] at e
  omega
theorem Inv.DO (I:Inv X pins σ H s)(h:aE X.K H a xs)(h':aE X.K H a ys):xs=ys:=by
 obtain⟨its,r,⟨o,n,e,_,_,d⟩,_⟩:=I.list h
 obtain⟨its',r',⟨o',n',e',_,_,d'⟩,_⟩:=I.list h'
 rw[e] at e'; cases e'
 rw[d] at d'
 injection d' with d1 _
 have:its=its':=by simpa using congrArg Array.toList d1
 subst this
 exact r.inj r'
theorem Inv.J2 (I:Inv X pins σ H s)(h:aK X.K H a xs)(h':aK X.K H a ys):xs=ys:=by
 obtain⟨its,r,⟨o,e,_,n,d⟩,_⟩:=I.tuple h
 obtain⟨its',r',⟨o',e',_,n',d'⟩,_⟩:=I.tuple h'
 rw[e] at e'; cases e'
 rw[d] at d'
 injection d' with d1 _
 have:its=its':=by simpa using congrArg Array.toList d1
 subst this
 exact r.inj r'
end
abbrev Cx.qQ (X:Cx) (E:Value->Shared->Prop):Cx:={ X with xe:=E }
abbrev Cx.Ou (X:Cx):Cx:=X.qQ λ_ _=>False
theorem Cx.Ok.qQ {X:Cx}(ok:X.Ok)(E:Value->Shared->Prop):(X.qQ E).Ok:=
 ⟨ok.mod,ok.kind,ok.glob,ok.blt,ok.above,ok.inj,ok.has,ok.BK,ok.hd,ok.frames,ok.stk,ok.GK,ok.bs,ok.rM,ok.vf,ok.vg,ok.kY,ok.xH⟩
theorem Cx.Ok.nH {X:Cx}{E:Value->Shared->Prop}(ok:(X.qQ E).Ok):X.Ok:=
 ⟨ok.mod,ok.kind,ok.glob,ok.blt,ok.above,ok.inj,ok.has,ok.BK,ok.hd,ok.frames,ok.stk,ok.GK,ok.bs,ok.rM,ok.vf,ok.vg,ok.kY,ok.xH⟩
section
variable {X:Cx}{pins:List (Addr × Obj)}{σ:St}{H:Hp}{s:Shared}{E:Value->Shared->Prop}
theorem Inv.qQ (I:Inv X pins σ H s)(E:Value->Shared->Prop):Inv (X.qQ E) pins σ H s:=⟨I.ok.qQ E,I.os,I.bare,I.base,I.loc,I.cell,I.free,I.gp,I.pin,I.hok,I.len⟩
theorem Inv.nH (I:Inv (X.qQ E) pins σ H s):Inv X pins σ H s:=⟨I.ok.nH,I.os,I.bare,I.base,I.loc,I.cell,I.free,I.gp,I.pin,I.hok,I.len⟩
theorem SP.nH {D:Ends}{f:Flow}{s':Shared}(h:SP (X.qQ E) pins D f s'):SP X pins D f s':=by
 cases f with
 | next=>obtain⟨σ',H',I,q⟩:=h; exact⟨σ',H',I.nH,q⟩
 | brk=>obtain⟨σ',H',I,q⟩:=h; exact⟨σ',H',I.nH,q⟩
 | cont=>obtain⟨σ',H',I,q⟩:=h; exact⟨σ',H',I.nH,q⟩
 | ret u=>obtain⟨v,σ',H',I,r,q⟩:=h; exact⟨v,σ',H',I.nH,r,q⟩
theorem nG.Ou {st:List Stmt}{t:TS}(h:nG X.Ou st t):nG X st t:=λpins s σ H D I hw=>
 wpAny_mono (h pins s σ H D (I.qQ _) hw) (λ_ _ q=>q.nH) λ_ _ z=>False.elim z
end
section
variable {X:Cx}{st:Stmt}{rest:List Stmt}{t u:TS}{e:Expr}{te:TE}{pos:Pos}
def zj:TS:=λD σ H=>D.nx σ H
def eK (t u:TS):TS:=λD σ H=>t { D with nx:=u D } σ H
theorem bF:nG X [] zj:=λ_ _ σ H _ I h=>wpAny_execs_nil ⟨σ,H,I,h⟩
theorem aj (h1:PS X st t)(h2:nG X rest u):nG X (st::rest) (eK t u):=by
 intro pins s σ H D I h
 refine wpAny_execs_cons (aN (h1 pins s σ H { D with nx:=u D } I h) λf s1 q=>?_)
 cases f with
 | next=>
  obtain⟨σ',H',I',q⟩:=q
  exact h2 pins s1 σ' H' D I' q
 | ret v=>exact q
 | brk=>exact q
 | cont=>exact q
theorem av (h1:PS X st t):nG X [st] t:=by
 intro pins s σ H D I h
 refine wpAny_execs_cons (aN (h1 pins s σ H D I h) λf s1 q=>?_)
 cases f with
 | next=>exact wpAny_execs_nil q
 | ret v=>exact q
 | brk=>exact q
 | cont=>exact q
theorem Inv.quiet {pins:List (Addr × Obj)}{σ:St}{H:Hp}{s:Shared}(I:Inv X pins σ H s):interactive X.env=false:=by simp [interactive,I.ok.kind]
def Dd (te:TE):TS:=λD σ H=>te σ H λ_ H1=>D.nx σ H1
theorem aX (he:PE X e te)(hs:swapsWith e none pos.line X.env=pure false:=by rfl):PS X (.Expr e pos) (Dd te):=by
 intro pins s σ H D I h
 exact wpAny_Expr_any (aN (he pins s σ H _ I h) λv s1 ⟨x,H1,I1,r1,q1⟩=>⟨σ,H1,I1,q1⟩) I.quiet hs
def IC (te:TE):TS:=λD σ H=>te σ H D.rt
theorem aO (he:PE X e te):PS X (.Return (some e) pos) (IC te):=by
 intro pins s σ H D I h
 exact wpAny_Return_some (aN (he pins s σ H _ I h) λv s1 ⟨x,H1,I1,r1,q1⟩=>⟨x,σ,H1,I1,r1,q1⟩)
def U3:TS:=λD _ H=>D.rt .aR H
theorem P9:PS X (.Return none pos) U3:=λ_ _ σ H _ I h=>wpAny_Return_none ⟨.aR,σ,H,I,rfl,h⟩
def ym (c:TT)(t u:TS):TS:=λD σ H=>c σ H λb H1=>if b=true then t D σ H1 else u D σ H1
theorem bY {c:Expr}{a b:List Stmt}{tc:TT}(hc:PT X c tc)(ha:nG X a t)(hb:nG X b u):PS X (.If c a b pos) (ym tc t u):=by
 intro pins s σ H D I h
 refine wpAny_If (aN (hc pins s σ H _ I h) λd s1 ⟨H1,I1,q1⟩=>?_)
 cases d with
 | true=>exact ha pins s1 σ H1 D I1 q1
 | false=>exact hb pins s1 σ H1 D I1 q1
def RD:TS:=λ_ _ _=>False
theorem aJ:PS X st RD:=λ_ _ _ _ _ _ h=>h.elim
end
abbrev TG:=V->St->Hp->(St->Hp->Prop)->Prop
abbrev BN:=List V->St->Hp->(St->Hp->Prop)->Prop
def PG (X:Cx)(target:Expr)(t:TG):Prop:=
 ∀(pins:List (Addr × Obj)) (s:Shared) (σ:St) (H:Hp) (v:V) (u:Value) (Q:St->Hp->Prop),Inv X pins σ H s->RelV v u->t v σ H Q->
  wpAny (model X.prog X.w) X.A (assign target X.env u) (λ_ s'=>∃σ' H',Inv X pins σ' H' s'/\Q σ' H') X.xe s
def J3 (X:Cx)(ts:List Expr)(t:BN):Prop:=
 ∀(pins:List (Addr × Obj)) (s:Shared) (σ:St) (H:Hp) (vs:List V) (us:List Value) (Q:St->Hp->Prop),Inv X pins σ H s->Vals vs us->t vs σ H Q->
  wpAny (model X.prog X.w) X.A (assignInOrder ((assignEach ts X.env).map (·.2)) us) (λ_ s'=>∃σ' H',Inv X pins σ' H' s'/\Q σ' H') X.xe s
section
variable {X:Cx}{pos:Pos}
def fc (i:Nat):TG:=λv σ H Q=>Q (σ.set i (some v)) H
theorem aL {i:Nat}{x:Str}(hN:X.N.Nodup)(hi:X.N[i]?=some x)(hx:Loc X.env.scope x)(hf:X.fn x=true\/X.env.scope.names.lookup x=some .local:=by first | exact .inl rfl | exact .inr rfl | assumption):PG X (.Name x pos) (fc i):=by
 intro pins s σ H v u Q I r h
 exact wpAny_assign_Name (tH I hN hi hx r (λs' I'=>⟨_,H,I',h⟩) hf)
def ID:BN:=λvs σ H Q=>vs=[]/\Q σ H
def tK (t:TG)(u:BN):BN:=λvs σ H Q=>∃v r,vs=v::r/\t v σ H fun σ' H'=>u r σ' H' Q
theorem jW:J3 X [] ID:=by
 intro pins s σ H vs us Q I r h
 obtain⟨e,h⟩:=h
 subst e
 cases r
 exact assignInOrder_nil ⟨σ,H,I,h⟩
theorem cj {e:Expr}{es:List Expr}{t:TG}{u:BN}(h1:PG X e t)(h2:J3 X es u)
  (hs:(assignEach (e::es) X.env).map (·.2)=assign e X.env::(assignEach es X.env).map (·.2):=by rfl):J3 X (e::es) (tK t u):=by
 intro pins s σ H vs us Q I r h
 obtain⟨v,vr,e1,h⟩:=h
 subst e1
 cases r with
 | cons r rr=>
  rw[hs]
  refine assignInOrder_cons (aN (h1 pins s σ H _ _ _ I r h) λ_ s1 ⟨σ1,H1,I1,q1⟩=>?_)
  exact h2 pins s1 σ1 H1 _ _ Q I1 rr q1
def DP (K:PySem.W.Frag)(n:Nat)(t:BN):TG:=λv σ H Q=>∃a xs,v=.ref a/\aK K H a xs/\xs.length=n/\t xs σ H Q
theorem RE {es:List Expr}{k:Nat}{t:BN}{n:Nat}(hc:X.calm=true)(h:J3 X es t)
  (hn:(assignEach es X.env).length=n:=by rfl) (hst:(assignEach es X.env).findIdx? (·.1)=none:=by rfl):PG X (.Tuple es k pos) (DP X.K n t):=by
 intro pins s σ H v u Q I r hw
 obtain⟨a,xs,e1,hq,hl,hw⟩:=hw
 subst e1
 cases r
 obtain⟨its,rv,ht,hz⟩:=I.tuple hq
 refine assign_Tuple_tuple (I.ok.hd hc) ht (by simp [hn,←hl,rv.length]) hst λh' hx=>?_
 have I1:Inv X pins σ H { s with heap:=h' }:=I.kept (t':=s.toks) λb o e=>hx b o (Nat.ne_of_lt (Heap.lt_size e)) e
 exact h pins _ σ H xs _ Q I1 (by simpa using rv) hw
def vj (te:TE)(g:TG):TS:=λD σ H=>te σ H λx H1=>g x σ H1 D.nx
theorem RG {tg e:Expr}{te:TE}{g:TG}(he:PE X e te)(hg:PG X tg g)(hs:swapsWithSole [tg] e pos.line X.env=pure false:=by rfl)(hw:swappedStores [tg] e X.env=pure none:=by rfl)
  (h1:(assignEach [tg] X.env).map (·.2)=[assign tg X.env]:=by rfl):PS X (.Assign [tg] e pos) (vj te g):=by
 intro pins s σ H D I h
 refine wpAny_Assign_stores (aN (he pins s σ H _ I h) λv s1 ⟨x,H1,I1,r1,q1⟩=>?_) hs hw
 rw[h1]
 exact aN (hg pins s1 σ H1 x v _ I1 r1 q1) λ_ s2 q=>q
theorem aP {i:Nat}{x:Str}{e:Expr}{te:TE}{pos':Pos}(hN:X.N.Nodup)(hi:X.N[i]?=some x)(hx:Loc X.env.scope x)(he:PE X e te)(hs:swapsWith e (some (.Name x pos')) pos.line X.env=pure false:=by rfl)(hf:X.fn x=true\/X.env.scope.names.lookup x=some .local:=by first | exact .inl rfl | exact .inr rfl | assumption) :
  PS X (.Assign [.Name x pos'] e pos) (vj te (fc i)):=by
 intro pins s σ H D I h
 refine wpAny_Assign_Name (aN (he pins s σ H _ I h) λv s1 ⟨y,H1,I1,r1,q1⟩=>?_) hs
 exact tH I1 hN hi hx r1 (λs2 I2=>⟨_,H1,I2,q1⟩) hf
end
section
variable {X:Cx}{pos:Pos}
def RH (c:TT)(tb:TS):TS:=λD σ H=>∃W:Nat->St->Hp->Prop,(∃m,W m σ H)/\∀m σ H,W m σ H->
 c σ H λb H1=>if b=true then ∃N:St->Hp->Prop,(∀σ' H',N σ' H'->∃m',m' < m/\W m' σ' H')/\tb { D with nx:=N,ct:=N,bk:=D.nx } σ H1 else D.nx σ H1
theorem Mi {c:Expr}{body:List Stmt}{tc:TT}{tb:TS}(hp:PassesOwn (model X.prog X.w) X.A X.env X.xe)(hc:PT X c tc)(hb:nG X body tb):PS X (.While c body [] pos) (RH tc tb):=by
 intro pins s σ H D I h
 obtain⟨W,⟨m0,w0⟩,turn⟩:=h
 refine wpAny_While (codeAny_whileLoop (λn s'=>∃σ' H',Inv X pins σ' H' s'/\W n σ' H') ?_ m0 ⟨σ,H,I,w0⟩)
 rintro n s1 ⟨σ1,H1,I1,w1⟩
 refine wpAny_passesOwn hp (aN (hc pins s1 σ1 H1 _ I1 (turn n σ1 H1 w1)) λb s2 ⟨H2,I2,q2⟩=>?_)
 cases b with
 | true=>
  obtain⟨N,hN,q2⟩:=q2
  rw[if_pos rfl]
  refine wpAny_passesOwn hp (aN (hb pins s2 σ1 H2 _ I2 q2) λf s3 q3=>?_)
  cases f with
  | next=>
   obtain⟨σ3,H3,I3,n3⟩:=q3
   obtain⟨m',hm,w3⟩:=hN σ3 H3 n3
   exact⟨m',hm,σ3,H3,I3,w3⟩
  | cont=>
   obtain⟨σ3,H3,I3,n3⟩:=q3
   obtain⟨m',hm,w3⟩:=hN σ3 H3 n3
   exact⟨m',hm,σ3,H3,I3,w3⟩
  | brk=>exact q3
  | ret v=>exact q3
 | false=>
  rw[if_neg Bool.false_ne_true]
  exact wpAny_execs_nil ⟨σ1,H2,I2,q2⟩
end
structure It where
 go:Nat->Hp->Prop
 GN:Nat->Hp->V->Hp->Prop
 stop:Nat->Hp->Prop
def jt (X:Cx)(pins:List (Addr × Obj))(H:Hp)(b:Addr):Prop:=
 H b=none/\b≠X.env.locals/\b∉X.fs/\(b∈X.ex\/X.s₀.heap.objs.size<=b)/\(∀x c,X.env.cells.lookup x=some c->c≠b)/\∀p∈X.pn++pins,p.1≠b
theorem Inv.yo {X:Cx}{pins:List (Addr × Obj)}{σ:St}{H H':Hp}{s:Shared}{b:Addr}(I:Inv X pins σ H s)(hb:s.heap.objs.size<=b)(hn:H' b=none):jt X pins H' b:=by
 refine⟨hn,Nat.ne_of_gt (Nat.lt_of_lt_of_le I.lt hb),I.Xb hb,.inr (Nat.le_trans I.sz hb),λx c e z=>?_,λp hp z=>?_⟩
 ·obtain⟨v,q⟩:=I.cell x c e
  exact absurd (Nat.lt_of_lt_of_le q.lt (by rw[z]; exact hb)) (Nat.lt_irrefl _)
 ·exact absurd (Nat.lt_of_lt_of_le (Heap.lt_size (I.pin p hp).1) (by rw[z]; exact hb)) (Nat.lt_irrefl _)
structure Turn (P:Program)(w:World)(K:PySem.W.Frag)(tg:Expr)(J:It)(fp:List Addr)(it:Addr)(tn:Nat->Heap->Prop):Prop where
 mem:it∈fp
 obj:∀i h,tn i h->∀b∈fp,∃o,h.get? b=some o/\∀v,o.data≠.cell v
 keep:∀i h h',tn i h->(∀b∈fp,∀o,h.get? b=some o->h'.get? b=some o)->tn i h'
 item:∀(X:Cx),X.prog=P->X.w=w->X.K=K->X.calm=true->∀(i:Nat) (pins:List (Addr × Obj)) (s:Shared) (σ:St) (H:Hp) (E:Value->Shared->Prop),Inv X pins σ H s->(∀b∈fp,jt X pins H b)->tn i s.heap->J.go i H->
  wpAny (model P w) X.A (pyNext (.ref it)) (λr s1=>∃u,r=some u/\
   wpAny (model P w) X.A (letOwnedTupleGo tg (.ref it) u) (λ_ s2=>∃x H',Inv X pins σ H' s2/\RelV x u/\J.GN i H x H'/\tn (i+1) s2.heap/\∀b∈fp,H' b=none) E s1) E s
 done:∀(X:Cx),X.prog=P->X.w=w->X.K=K->X.calm=true->∀(i:Nat) (pins:List (Addr × Obj)) (s:Shared) (σ:St) (H:Hp) (E:Value->Shared->Prop),Inv X pins σ H s->(∀b∈fp,jt X pins H b)->tn i s.heap->J.stop i H->
  wpAny (model P w) X.A (pyNext (.ref it)) (λr s1=>r=none/\Inv X pins σ H s1) E s
 self:∀(A:Around) (i:Nat) (s:Shared) (Q:Value->Shared->Prop) (E:Value->Shared->Prop),tn i s.heap->Q (.ref it) s->wpAny (model P w) A (pyIter (.ref it)) Q E s
abbrev TI:=St->Hp->(It->Hp->Prop)->Prop
def RI (X:Cx)(pins:List (Addr × Obj))(σ:St)(tg:Expr)(R:It->Hp->Prop)(itv:Value)(s2:Shared):Prop:=
 ∃(it:Addr) (fp:List Addr) (tn:Nat->Heap->Prop) (J:It) (H':Hp),itv=.ref it/\Inv X pins σ H' s2/\Turn X.prog X.w X.K tg J fp it tn/\tn 0 s2.heap/\(∀b∈fp,jt X pins H' b)/\R J H'
def PI (X:Cx)(tg iter:Expr)(wi:TI):Prop:=
 ∀(pins:List (Addr × Obj)) (s:Shared) (σ:St) (H:Hp) (R:It->Hp->Prop),Inv X pins σ H s->wi σ H R->
  wpAny (model X.prog X.w) X.A (eval iter X.env) (λv s1=>wpAny (model X.prog X.w) X.A (pyIter v) (RI X pins σ tg R) X.xe s1) X.xe s
theorem zk {M:Model}{A:Around}{E:Value->Shared->Prop}{s:Shared}{tg:Expr}{it:Addr}{u:Value}{o:Obj}{n:String}{vs:Array Value}{Q:Unit->Shared->Prop}(ho:s.heap.get? it=some o)(hc:o.cls=.type n)(hd:o.data=.fields vs)
  (hn:["enumerate","zip","dict_itemiterator","dict_reverseitemiterator","odict_iterator","itertools.zip_longest","itertools.pairwise"].contains n=false) (hQ:Q () s):wpAny M A (letOwnedTupleGo tg (.ref it) u) Q E s:=by
 unfold letOwnedTupleGo
 cases tg <;> first
  | exact wpAny_pure hQ
  | (cases u <;> first
    | exact wpAny_pure hQ
    | (refine wpAny_bind (wpAny_load ho ?_); rw[hc,hd]; show wpAny M A (if (["enumerate","zip","dict_itemiterator","dict_reverseitemiterator","odict_iterator","itertools.zip_longest","itertools.pairwise"].contains n&&vs[0]? == some (rawInt _))=true then _ else _) Q E s; rw[if_neg (by intro h; rw[hn,Bool.false_and] at h; cases h)]; exact wpAny_pure hQ))
def rO (K:PySem.W.Frag)(a:Addr):It:=
 ⟨λi H=>∃xs x,aE K H a xs/\xs[i]?=some x,λi H x H'=>H'=H/\∀xs,aE K H a xs->xs[i]?=some x,λi H=>∃xs,aE K H a xs/\xs.length<=i⟩
def zl (K:PySem.W.Frag)(a:Addr):It:=
 ⟨λi H=>∃xs x,aK K H a xs/\xs[i]?=some x,λi H x H'=>H'=H/\∀xs,aK K H a xs->xs[i]?=some x,λi H=>∃xs,aK K H a xs/\xs.length<=i⟩
def vm (lo:Int)(n:Nat):It:=⟨λi _=>i < n,λi H x H'=>H'=H/\x=.int (lo+i),λi _=>n<=i⟩
theorem J6 {P:Program}{w:World}{K:PySem.W.Frag}{tg:Expr}(a it:Addr):Turn P w K tg (rO K a) [it] it (λi h=>h.IsListIter it a i) where
 mem:=by simp
 obj:=λi h st b hb=>by
  have e:b=it:=by simpa using hb
  subst e
  obtain⟨o,e,c,d⟩:=st
  exact⟨o,e,λv z=>by rw[d] at z; cases z⟩
 keep:=λi h h' st k=>st.at λo e=>k it (by simp) o e
 item:=by
  intro X hP hw hK hc i pins s σ H E I hf st hg
  subst hP hw hK
  obtain⟨xs,x,hq,hx⟩:=hg
  obtain⟨its,rv,p,hz⟩:=I.list hq
  obtain⟨u,hu,ru⟩:=rv.get hx
  obtain⟨f0,f1,f2,f3,f4,f5⟩:=hf it (by simp)
  refine wpAny_pyNext_list_item st p.isList (x:=u) (by simpa using hu) λh' st' sb=>?_
  have I1:Inv X pins σ H { s with heap:=h' }:=I.turned (t':=s.toks) (λb o hb e=>(sb.2 b hb).trans e) f0 f1 f3 f4 f5
  obtain⟨o,e,c,d⟩:=id st'
  exact⟨u,rfl,zk (s:={ s with heap:=h' }) e c d (by decide) ⟨x,H,I1,ru,⟨rfl,λys hy=>by rw[I.DO hy hq]; exact hx⟩,st',λb hb=>(hf b hb).1⟩⟩
 done:=by
  intro X hP hw hK hc i pins s σ H E I hf st hg
  subst hP hw hK
  obtain⟨xs,hq,hx⟩:=hg
  obtain⟨its,rv,p,hz⟩:=I.list hq
  obtain⟨f0,f1,f2,f3,f4,f5⟩:=hf it (by simp)
  have hl:=rv.length
  exact wpAny_pyNext_list_end (I.ok.hd hc) st p.isList (by simp; omega) λh' eb=>⟨rfl,I.turned (t':=s.toks) (λb o hb e=>eb b o hb e) f0 f1 f3 f4 f5⟩
 self:=λ_ _ _ _ _ st h=>wpAny_pyIter_listiter st h
theorem IE {P:Program}{w:World}{K:PySem.W.Frag}{tg:Expr}(a it:Addr):Turn P w K tg (zl K a) [it] it (λi h=>h.IsTupleIter it a i) where
 mem:=by simp
 obj:=λi h st b hb=>by
  have e:b=it:=by simpa using hb
  subst e
  obtain⟨o,e,c,d⟩:=st
  exact⟨o,e,λv z=>by rw[d] at z; cases z⟩
 keep:=λi h h' st k=>st.at λo e=>k it (by simp) o e
 item:=by
  intro X hP hw hK hc i pins s σ H E I hf st hg
  subst hP hw hK
  obtain⟨xs,x,hq,hx⟩:=hg
  obtain⟨its,rv,p,hz⟩:=I.tuple hq
  obtain⟨u,hu,ru⟩:=rv.get hx
  obtain⟨f0,f1,f2,f3,f4,f5⟩:=hf it (by simp)
  refine wpAny_pyNext_tuple_item st (show s.heap.IsTuple a its.toArray from p) (x:=u) (by simpa using hu) λh' st' sb=>?_
  have I1:Inv X pins σ H { s with heap:=h' }:=I.turned (t':=s.toks) (λb o hb e=>(sb.2 b hb).trans e) f0 f1 f3 f4 f5
  obtain⟨o,e,c,d⟩:=id st'
  exact⟨u,rfl,zk (s:={ s with heap:=h' }) e c d (by decide) ⟨x,H,I1,ru,⟨rfl,λys hy=>by rw[I.J2 hy hq]; exact hx⟩,st',λb hb=>(hf b hb).1⟩⟩
 done:=by
  intro X hP hw hK hc i pins s σ H E I hf st hg
  subst hP hw hK
  obtain⟨xs,hq,hx⟩:=hg
  obtain⟨its,rv,p,hz⟩:=I.tuple hq
  obtain⟨f0,f1,f2,f3,f4,f5⟩:=hf it (by simp)
  have hl:=rv.length
  exact wpAny_pyNext_tuple_end (I.ok.hd hc) st (show s.heap.IsTuple a its.toArray from p) (by simp; omega) λh' eb=>⟨rfl,I.turned (t':=s.toks) (λb o hb e=>eb b o hb e) f0 f1 f3 f4 f5⟩
 self:=λ_ _ _ _ _ st h=>wpAny_pyIter_tupleiter st h
theorem IF {P:Program}{w:World}{K:PySem.W.Frag}{tg:Expr}(it:Addr)(lo:Int)(n:Nat):Turn P w K tg (vm lo n) [it] it (λi h=>IsRangeIter h it (lo+(i:Nat) * 1) ((n:Int) - (i:Nat)) 1) where
 mem:=by simp
 obj:=λi h st b hb=>by
  have e:b=it:=by simpa using hb
  subst e
  exact⟨_,st,λv z=>by
   have z':Data.fields _=Data.cell v:=z
   cases z'⟩
 keep:=λi h h' st k=>k it (by simp) _ st
 item:=by
  intro X hP hw hK hc i pins s σ H E I hf st hg
  subst hP hw hK
  obtain⟨f0,f1,f2,f3,f4,f5⟩:=hf it (by simp)
  have W:=Walks.range (prog:=X.prog) (w:=X.w) (I.ok.hd hc) it lo 1 n
  refine W.item i s _ _ hg st λv h' tk hv st' kk=>?_
  obtain⟨t,rfl⟩:=hv
  have I1:Inv X pins σ H { s with heap:=h',toks:=tk }:=I.turned (λb o hb e=>kk b o (by simpa using hb) e) f0 f1 f3 f4 f5
  refine⟨_,rfl,zk (s:={ s with heap:=h',toks:=tk }) (n:="range_iterator") st' rfl rfl (by decide) ⟨.int (lo+i),H,I1,⟨t,?_⟩,⟨rfl,rfl⟩,st',λb hb=>(hf b hb).1⟩⟩
  rw[Int.mul_one]
 done:=by
  intro X hP hw hK hc i pins s σ H E I hf st hg
  subst hP hw hK
  obtain⟨f0,f1,f2,f3,f4,f5⟩:=hf it (by simp)
  exact wpAny_pyNext_range_end (I.ok.hd hc) st (by have:n<=i:=hg; omega) λh' eb=>⟨rfl,I.turned (t':=s.toks) (λb o hb e=>eb b o hb e) f0 f1 f3 f4 f5⟩
 self:=λ_ _ _ _ _ st h=>wpAny_pyIter_rangeiter st h
end L2
namespace L2
open PySem PySem.Spec PyProof.Rows
section
variable {X:Cx}{tg:Expr}
def oN (K:PySem.W.Frag)(tl:TE):TI:=fun σ H R=>tl σ H λx H1=>∃a,x=.ref a/\(∃xs,aE K H1 a xs)/\R (rO K a) H1
def vn (K:PySem.W.Frag)(tl:TE):TI:=fun σ H R=>tl σ H λx H1=>∃a,x=.ref a/\(∃xs,aK K H1 a xs)/\R (zl K a) H1
theorem P_ {l:Expr}{tl:TE}(hl:PE X l tl):PI X tg l (oN X.K tl):=by
 intro pins s σ H R I h
 refine aN (hl pins s σ H _ I h) λv s1 ⟨x,H1,I1,r1,q1⟩=>?_
 obtain⟨a,e,⟨xs,hq⟩,q⟩:=q1
 subst e
 cases r1
 obtain⟨its,rv,p,hz⟩:=I1.list hq
 refine wpAny_pyIter_list p.isList ?_
 refine⟨s1.heap.objs.size,[s1.heap.objs.size],_,_,H1,rfl,I1.kept (t':=s1.toks) λb o e=>Heap.get?_push_of_some _ e,J6 a _,⟨_,Heap.get?_push_size _ rfl,rfl,rfl⟩,λb hb=>?_,q⟩
 have e:b=s1.heap.objs.size:=by simpa using hb
 subst e
 exact I1.yo (Nat.le_refl _) (I1.hok.fresh (Nat.le_refl _))
theorem RJ {l:Expr}{tl:TE}(hl:PE X l tl):PI X tg l (vn X.K tl):=by
 intro pins s σ H R I h
 refine aN (hl pins s σ H _ I h) λv s1 ⟨x,H1,I1,r1,q1⟩=>?_
 obtain⟨a,e,⟨xs,hq⟩,q⟩:=q1
 subst e
 cases r1
 obtain⟨its,rv,p,hz⟩:=I1.tuple hq
 refine wpAny_pyIter_tuple (show s1.heap.IsTuple a its.toArray from p) ?_
 refine⟨s1.heap.objs.size,[s1.heap.objs.size],_,_,H1,rfl,I1.kept (t':=s1.toks) λb o e=>Heap.get?_push_of_some _ e,IE a _,⟨_,Heap.get?_push_size _ rfl,rfl,rfl⟩,λb hb=>?_,q⟩
 have e:b=s1.heap.objs.size:=by simpa using hb
 subst e
 exact I1.yo (Nat.le_refl _) (I1.hok.fresh (Nat.le_refl _))
theorem DQ {pins:List (Addr × Obj)}{σ:St}{H:Hp}{s:Shared}{R:It->Hp->Prop}{E:Value->Shared->Prop}{lo hi:Int}{t u v:Tok}{tk:Nat}(I:Inv X pins σ H s)(h1:-(2 ^ 62)<=lo)(h2:lo < 2 ^ 62)(h3:-(2 ^ 62)<=hi)(h4:hi < 2 ^ 62)
  (q:R (vm lo (hi - lo).toNat) H):wpAny (model X.prog X.w) X.A (pyIter (.ref s.heap.objs.size)) (RI X pins σ tg R) E { s with heap:=s.heap.push { cls:=.type "range",data:=.fields #[.int lo t,.int hi u,.int 1 v] },toks:=tk }:=by
 refine wpAny_pyIter_range (IsRange.new ..) (small_one h1 h2 h3 h4) ?_
 have I1:Inv X pins σ H { s with heap:=s.heap.push { cls:=.type "range",data:=.fields #[.int lo t,.int hi u,.int 1 v] },toks:=tk }:=I.kept λb o e=>Heap.get?_push_of_some _ e
 refine⟨(s.heap.push { cls:=.type "range",data:=.fields #[.int lo t,.int hi u,.int 1 v] }).objs.size,[(s.heap.push { cls:=.type "range",data:=.fields #[.int lo t,.int hi u,.int 1 v] }).objs.size],_,_,H,rfl,
  I1.kept (t':=tk) λb o e=>Heap.get?_push_of_some _ e,IF _ lo (hi - lo).toNat,?_,λb hb=>?_,q⟩
 ·have e1:lo+((0:Nat):Int) * 1=lo:=by simp
  have e2:(((hi - lo).toNat:Nat):Int) - ((0:Nat):Int)=Builtin.Range.rangeSize lo hi 1:=by rw[rangeSize_one]; split <;> omega
  show IsRangeIter _ _ (lo+((0:Nat):Int) * 1) ((((hi - lo).toNat:Nat):Int) - ((0:Nat):Int)) 1
  rw[e1,e2]
  exact Heap.get?_push_size _ rfl
 ·have e:b=(s.heap.push { cls:=.type "range",data:=.fields #[.int lo t,.int hi u,.int 1 v] }).objs.size:=by simpa using hb
  subst e
  exact I1.yo (Nat.le_refl _) (I1.hok.fresh (Nat.le_refl _))
def De (ta:TA):TI:=fun σ H R=>ta σ H λvs H1=>∃j:Int,vs=[.int j]/\-(2 ^ 62)<=j/\j < 2 ^ 62/\R (vm 0 j.toNat) H1
def Df (ta:TA):TI:=fun σ H R=>ta σ H λvs H1=>∃i j:Int,vs=[.int i,.int j]/\(-(2 ^ 62)<=i/\i < 2 ^ 62/\-(2 ^ 62)<=j/\j < 2 ^ 62)/\R (vm i (j - i).toNat) H1
theorem eL {a:Expr}{ta:TA}{p pos:Pos}(hg:Gl X "range")(hm:X.mg "range"=none)(ha:PA X [a] ta)(hs:starEach [a] X.env=[(false,eval a X.env)]:=by rfl):PI X tg (.Call (.Name "range" p) [a] [] pos) (De ta):=by
 intro pins s σ H R I h
 refine Call_ (pe I hg hm boot_range (PyProof.Rows.callWith_type1 (aN (ha pos pins s σ H _ I h) λus s1 ⟨vs,H1,I1,r1,q1⟩=>?_) hs rfl))
 obtain⟨j,e,q1,q2,q⟩:=q1
 subst e
 cases r1 with
 | cons r rr=>
  cases rr
  obtain⟨t,rfl⟩:=r
  exact call_range_1 (DQ I1 (by omega) (by omega) q1 q2 (by simpa using q))
theorem vo {a b:Expr}{ta:TA}{p pos:Pos}(hg:Gl X "range")(hm:X.mg "range"=none)(ha:PA X [a,b] ta)(hs:starEach [a,b] X.env=[(false,eval a X.env),(false,eval b X.env)]:=by rfl)(hs2:starEach [b] X.env=[(false,eval b X.env)]:=by rfl) :
  PI X tg (.Call (.Name "range" p) [a,b] [] pos) (Df ta):=by
 intro pins s σ H R I h
 refine Call_ (pe I hg hm boot_range (PyProof.Rows.callWith_type1 (aN (ha pos pins s σ H _ I h) λus s1 ⟨vs,H1,I1,r1,q1⟩=>?_) (by rw[hs,hs2]) (by rw[hs2]; rfl)))
 obtain⟨i,j,e,⟨q1,q2,q3,q4⟩,q⟩:=q1
 subst e
 cases r1 with
 | cons r rr=>
  cases rr with
  | cons r' rr=>
   cases rr
   obtain⟨t,rfl⟩:=r
   obtain⟨t',rfl⟩:=r'
   exact call_range_2 (DQ I1 q1 q2 q3 q4 q)
def kh (wi:TI)(g:TG)(tb:TS):TS:=λD σ H=>wi σ H λJ H1=>∃W:Nat->Nat->St->Hp->Prop,(∃m,W 0 m σ H1)/\∀i m σ H,W i m σ H->
 (J.stop i H/\D.nx σ H)\/(J.go i H/\∃N:St->Hp->Prop,(∀σ' H',N σ' H'->∃m',m' < m/\W (i+1) m' σ' H')/\∀x H',J.GN i H x H'->g x σ H' fun σ2 H2=>tb { D with nx:=N,ct:=N,bk:=D.nx } σ2 H2)
def rP (fp:List Addr)(h:Heap):List (Addr × Obj):=fp.filterMap λb=>(h.get? b).map λo=>(b,o)
theorem tL {fp:List Addr}{h:Heap}{b:Addr}{o:Obj}(hb:b∈fp)(e:h.get? b=some o):(b,o)∈rP fp h:=List.mem_filterMap.mpr ⟨b,hb,by rw[e]; rfl⟩
theorem J8 {fp:List Addr}{h:Heap}{p:Addr × Obj}(hp:p∈rP fp h):p.1∈fp/\h.get? p.1=some p.2:=by
 obtain⟨b,hb,e⟩:=List.mem_filterMap.mp hp
 cases q:h.get? b with
 | none=>rw[q] at e; cases e
 | some o=>
  rw[q] at e
  have e':(b,o)=p:=Option.some.inj e
  subst e'
  exact⟨hb,q⟩
theorem Inv.pinned {pins:List (Addr × Obj)}{σ:St}{H:Hp}{s:Shared}{fp:List Addr}(I:Inv X pins σ H s)(hf:∀b∈fp,jt X pins H b)(ho:∀b∈fp,∃o,s.heap.get? b=some o/\∀v,o.data≠.cell v):Inv X (pins++rP fp s.heap) σ H s:=
 I.GL λp hp=>(List.mem_append.mp hp).elim (λz=>I.pin p (List.mem_append_right _ z)) λz=>by
  obtain⟨hb,e⟩:=J8 z
  obtain⟨f0,f1,f2,_⟩:=hf p.1 hb
  obtain⟨o,e',d⟩:=ho p.1 hb
  rw[e] at e'; cases e'
  exact⟨e,f0,f1,f2,d⟩
theorem Inv.yp {pins pl:List (Addr × Obj)}{σ:St}{H:Hp}{s:Shared}(I:Inv X (pins++pl) σ H s):Inv X pins σ H s:=I.GL λp hp=>I.pin p (List.mem_append_right _ (List.mem_append_left _ hp))
theorem fC {iter:Expr}{body:List Stmt}{wi:TI}{g:TG}{tb:TS}{pos:Pos}(hp:PassesOwn (model X.prog X.w) X.A X.env X.xe)(hc:X.calm=true)(hi:PI X tg iter wi)(hg:PG X tg g)(hb:nG X body tb)
  (hs:∀x,foldedSetIterable iter X.env x=pure x:=by intro _; rfl):PS X (.For tg iter body [] pos) (kh wi g tb):=by
 intro pins s σ H D I h
 refine wpAny_For (aN (hi pins s σ H _ I h) λv s1 h1=>aN h1 λitv s2 h2=>?_) hs
 obtain⟨it,fp,tn,J,H2,e,I2,T,st2,f2,W,⟨m0,w0⟩,turn⟩:=h2
 subst e
 have stat:∀{H':Hp},(∀b∈fp,H' b=none)->∀b∈fp,jt X pins H' b:=λhn b hb=>⟨hn b hb,(f2 b hb).2⟩
 refine codeAny_forLoop_any (λn s'=>∃i σ' H',Inv X pins σ' H' s'/\tn i s'.heap/\(∀b∈fp,H' b=none)/\W i n σ' H') ?_ m0 ⟨0,σ,H2,I2,st2,λb hb=>(f2 b hb).1,w0⟩
 rintro n s3 ⟨i,σ3,H3,I3,st3,VF,w3⟩
 rcases turn i n σ3 H3 w3 with ⟨stop,qn⟩ | ⟨go,N,hN,step⟩
 ·refine wpAny_passesOwn hp (aN (T.done X rfl rfl rfl hc i pins s3 σ3 H3 X.xe I3 (stat VF) st3 stop) λr s4 ⟨hr,I4⟩=>?_)
  subst hr
  exact wpAny_execs_nil ⟨σ3,H3,I4,qn⟩
 ·refine wpAny_passesOwn hp (aN (T.item X rfl rfl rfl hc i pins s3 σ3 H3 X.xe I3 (stat VF) st3 go) λr s4 ⟨u,hr,h4⟩=>?_)
  subst hr
  refine wpAny_passesOwn hp (aN h4 λ_ s5 ⟨x,H5,I5,r5,y5,GO,Ov⟩=>?_)
  have Y0:=I5.pinned (stat Ov) (T.obj _ _ GO)
  refine wpAny_passesOwn hp (aN (hg _ s5 σ3 H5 x u _ Y0 r5 (step x H5 y5)) λ_ s6 ⟨σ6,H6,I6,q6⟩=>?_)
  refine wpAny_passesOwn hp (aN (hb _ s6 σ6 H6 _ I6 q6) λf s7 q7=>?_)
  have again:∀{σ7:St} {H7:Hp},Inv X (pins++rP fp s5.heap) σ7 H7 s7->N σ7 H7->∃m,m < n/\∃i σ' H',Inv X pins σ' H' s7/\tn i s7.heap/\(∀b∈fp,H' b=none)/\W i m σ' H':=λ{σ7 H7} I7 n7=>by
   obtain⟨m',hm,w7⟩:=hN σ7 H7 n7
   refine⟨m',hm,i+1,σ7,H7,I7.yp,T.keep _ _ _ GO λb hb o e=>(I7.pin (b,o) (List.mem_append_right _ (List.mem_append_right _ (tL hb e)))).1,λb hb=>?_,w7⟩
   obtain⟨o,e,d⟩:=T.obj _ _ GO b hb
   exact (I7.pin (b,o) (List.mem_append_right _ (List.mem_append_right _ (tL hb e)))).2.1
  cases f with
  | next=>obtain⟨σ7,H7,I7,n7⟩:=q7; exact again I7 n7
  | cont=>obtain⟨σ7,H7,I7,n7⟩:=q7; exact again I7 n7
  | brk=>obtain⟨σ7,H7,I7,q7⟩:=q7; exact⟨σ7,H7,I7.yp,q7⟩
  | ret v=>obtain⟨x7,σ7,H7,I7,r7,q7⟩:=q7; exact⟨x7,σ7,H7,I7.yp,r7,q7⟩
end
theorem DR {K:PySem.W.Frag}{a:Addr}{xs:List V}{g:TG}{tb:TS}{D:Ends}{σ:St}{H:Hp}(Pv:Nat->St->Hp->Prop)(h0:Pv 0 σ H)(hl:∀i σ H,i<=xs.length->Pv i σ H->aE K H a xs)
  (hs:∀i x σ H,xs[i]?=some x->Pv i σ H->g x σ H fun σ2 H2=>tb { D with nx:=Pv (i+1),ct:=Pv (i+1),bk:=D.nx } σ2 H2) (hd:∀σ H,Pv xs.length σ H->D.nx σ H) :
  ∃W:Nat->Nat->St->Hp->Prop,(∃m,W 0 m σ H)/\∀i m σ H,W i m σ H->
   ((rO K a).stop i H/\D.nx σ H)\/((rO K a).go i H/\∃N:St->Hp->Prop,(∀σ' H',N σ' H'->∃m',m' < m/\W (i+1) m' σ' H')/\∀x H',(rO K a).GN i H x H'->g x σ H' fun σ2 H2=>tb { D with nx:=N,ct:=N,bk:=D.nx } σ2 H2):=by
 refine⟨λi m σ H=>m=xs.length - i/\i<=xs.length/\Pv i σ H,⟨xs.length,by simp,Nat.zero_le _,h0⟩,?_⟩
 rintro i m σ H ⟨rfl,hi,p⟩
 have q:=hl i σ H hi p
 by_cases hlt:i < xs.length
 ·refine .inr ⟨⟨xs,xs[i],q,by simp [hlt]⟩,Pv (i+1),fun σ' H' p'=>⟨xs.length - (i+1),by omega,rfl,hlt,p'⟩,λx H' y=>?_⟩
  obtain⟨e,y⟩:=y
  subst e
  exact hs i x σ _ (y xs q) p
 ·have e:i=xs.length:=by omega
  subst e
  exact .inl ⟨⟨xs,q,Nat.le_refl _⟩,hd σ H p⟩
theorem Qa {K:PySem.W.Frag}{a:Addr}{xs:List V}{g:TG}{tb:TS}{D:Ends}{σ:St}{H:Hp}(Pv:Nat->St->Hp->Prop)(h0:Pv 0 σ H)(hl:∀i σ H,i<=xs.length->Pv i σ H->aK K H a xs)
  (hs:∀i x σ H,xs[i]?=some x->Pv i σ H->g x σ H fun σ2 H2=>tb { D with nx:=Pv (i+1),ct:=Pv (i+1),bk:=D.nx } σ2 H2) (hd:∀σ H,Pv xs.length σ H->D.nx σ H) :
  ∃W:Nat->Nat->St->Hp->Prop,(∃m,W 0 m σ H)/\∀i m σ H,W i m σ H->
   ((zl K a).stop i H/\D.nx σ H)\/((zl K a).go i H/\∃N:St->Hp->Prop,(∀σ' H',N σ' H'->∃m',m' < m/\W (i+1) m' σ' H')/\∀x H',(zl K a).GN i H x H'->g x σ H' fun σ2 H2=>tb { D with nx:=N,ct:=N,bk:=D.nx } σ2 H2):=by
 refine⟨λi m σ H=>m=xs.length - i/\i<=xs.length/\Pv i σ H,⟨xs.length,by simp,Nat.zero_le _,h0⟩,?_⟩
 rintro i m σ H ⟨rfl,hi,p⟩
 have q:=hl i σ H hi p
 by_cases hlt:i < xs.length
 ·refine .inr ⟨⟨xs,xs[i],q,by simp [hlt]⟩,Pv (i+1),fun σ' H' p'=>⟨xs.length - (i+1),by omega,rfl,hlt,p'⟩,λx H' y=>?_⟩
  obtain⟨e,y⟩:=y
  subst e
  exact hs i x σ _ (y xs q) p
 ·have e:i=xs.length:=by omega
  subst e
  exact .inl ⟨⟨xs,q,Nat.le_refl _⟩,hd σ H p⟩
theorem vp {lo:Int}{n:Nat}{g:TG}{tb:TS}{D:Ends}{σ:St}{H:Hp}(Pv:Nat->St->Hp->Prop)(h0:Pv 0 σ H)
  (hs:∀i σ H,i < n->Pv i σ H->g (.int (lo+i)) σ H fun σ2 H2=>tb { D with nx:=Pv (i+1),ct:=Pv (i+1),bk:=D.nx } σ2 H2) (hd:∀σ H,Pv n σ H->D.nx σ H) :
  ∃W:Nat->Nat->St->Hp->Prop,(∃m,W 0 m σ H)/\∀i m σ H,W i m σ H->
   ((vm lo n).stop i H/\D.nx σ H)\/((vm lo n).go i H/\∃N:St->Hp->Prop,(∀σ' H',N σ' H'->∃m',m' < m/\W (i+1) m' σ' H')/\∀x H',(vm lo n).GN i H x H'->g x σ H' fun σ2 H2=>tb { D with nx:=N,ct:=N,bk:=D.nx } σ2 H2):=by
 refine⟨λi m σ H=>m=n - i/\i<=n/\Pv i σ H,⟨n,by simp,Nat.zero_le _,h0⟩,?_⟩
 rintro i m σ H ⟨rfl,hi,p⟩
 by_cases hlt:i < n
 ·refine .inr ⟨hlt,Pv (i+1),fun σ' H' p'=>⟨n - (i+1),by omega,rfl,hlt,p'⟩,λx H' y=>?_⟩
  obtain⟨e,y⟩:=y
  subst e y
  exact hs i σ _ hlt p
 ·have e:i=n:=by omega
  subst e
  exact .inl ⟨Nat.le_refl _,hd σ H p⟩
end L2
namespace L2
open PySem PySem.Spec PyProof.Rows
abbrev R2:=V->V->Hp->VK->Prop
def eN (X:Cx)(f:Value->Value->Sem Value)(r:R2):Prop:=
 ∀(pins:List (Addr × Obj)) (s:Shared) (σ:St) (H:Hp) (x y:V) (v u:Value) (Q:VK),Inv X pins σ H s->RelV x v->RelV y u->r x y H Q->
  wpAny (model X.prog X.w) X.A (f v u) (EP X pins σ Q) X.xe s
def RK (X:Cx)(f:Value->Sem Value)(r:V->Hp->VK->Prop):Prop:=
 ∀(pins:List (Addr × Obj)) (s:Shared) (σ:St) (H:Hp) (x:V) (v:Value) (Q:VK),Inv X pins σ H s->RelV x v->r x H Q->
  wpAny (model X.prog X.w) X.A (f v) (EP X pins σ Q) X.xe s
def dJ (X:Cx)(f:Value)(r:List V->Hp->VK->Prop):Prop:=
 ∀(pins:List (Addr × Obj)) (s:Shared) (σ:St) (H:Hp) (xs:List V) (us:List Value) (Q:VK),Inv X pins σ H s->Vals xs us->r xs H Q->
  wpAny (model X.prog X.w) X.A (call f us) (EP X pins σ Q) X.xe s
def Xd (X:Cx)(r:V->Hp->(Bool->Hp->Prop)->Prop):Prop:=
 ∀(pins:List (Addr × Obj)) (s:Shared) (σ:St) (H:Hp) (x:V) (v:Value) (Q:Bool->Hp->Prop),Inv X pins σ H s->RelV x v->r x H Q->
  wpAny (model X.prog X.w) X.A (truthy v) (TP X pins σ Q) X.xe s
def cZ (r:R2)(ta tb:TE):TE:=fun σ H Q=>ta σ H λx H1=>tb σ H1 λy H2=>r x y H2 Q
def Ow (r:V->Hp->VK->Prop)(ta:TE):TE:=fun σ H Q=>ta σ H λx H1=>r x H1 Q
def rI (C:Int->Int->Prop)(g:Int->Int->V):R2:=λx y H Q=>∃i j,x=.int i/\y=.int j/\C i j/\Q (g i j) H
def qA (g:Int->Int->V):R2:=λx y H Q=>∃i j,x=.int i/\y=.int j/\Q (g i j) H
def rU (g:Int->V):V->Hp->VK->Prop:=λx H Q=>∃i,x=.int i/\Q (g i) H
section
variable {X:Cx}{a b c:Expr}{ta tb tc:TE}{pos:Pos}
theorem Mj (ha:PE X a ta)(hb:PE X b tb){pins:List (Addr × Obj)}{s:Shared}{σ:St}{H:Hp}{R:V->V->Hp->Prop}(I:Inv X pins σ H s)
  (h:ta σ H λx H1=>tb σ H1 λy H2=>R x y H2) {Q:Value->Shared->Prop} {f:Value->Value->Sem Value}
  (hf:∀v u s2 x y H2,Inv X pins σ H2 s2->RelV x v->RelV y u->R x y H2->wpAny (model X.prog X.w) X.A (f v u) Q X.xe s2) :
  wpAny (model X.prog X.w) X.A (eval a X.env) (λv s₁=>wpAny (model X.prog X.w) X.A (eval b X.env) (λu s₂=>wpAny (model X.prog X.w) X.A (f v u) Q X.xe s₂) X.xe s₁) X.xe s:=by
 refine aN (ha pins s σ H _ I h) λv s1 ⟨x,H1,I1,r1,q1⟩=>?_
 refine aN (hb pins s1 σ H1 _ I1 q1) λu s2 ⟨y,H2,I2,r2,q2⟩=>?_
 exact hf v u s2 x y H2 I2 r1 r2 q2
theorem aH {op:Operator}{r:R2}(ho:eN X (binaryOp op) r)(ha:PE X a ta)(hb:PE X b tb):PE X (.BinOp a op b pos) (cZ r ta tb):=by
 intro pins s σ H Q I h
 exact wpAny_BinOp (Mj ha hb I h λv u s2 x y H2 I2 rx ry q=>ho pins s2 σ H2 x y v u Q I2 rx ry q)
theorem qB {op:UnaryOp}{r:V->Hp->VK->Prop}(ho:RK X (unaryOp op) r)(ha:PE X a ta):PE X (.UnaryOp op a pos) (Ow r ta):=by
 intro pins s σ H Q I h
 exact UnaryOp_ (aN (ha pins s σ H _ I h) λv s1 ⟨x,H1,I1,r1,q1⟩=>ho pins s1 σ H1 x v Q I1 r1 q1)
theorem Ox {f:Value->Value->Sem Value}{C:Int->Int->Prop}{g:Int->Int->Int}
  (rule:∀(i j:Int) (t u:Tok) (s:Shared) (Q:Value->Shared->Prop) (E:Value->Shared->Prop),C i j->Q (.int (g i j) s.toks) { s with toks:=s.toks+1 }->wpAny (model X.prog X.w) X.A (f (.int i t) (.int j u)) Q E s) :
  eN X f (rI C λi j=>.int (g i j)):=by
 intro pins s σ H x y v u Q I rx ry h
 obtain⟨i,j,rfl,rfl,hc,q⟩:=h
 obtain⟨t,rfl⟩:=rx
 obtain⟨t',rfl⟩:=ry
 exact rule i j t t' s _ _ hc ⟨.int (g i j),H,I.tok _,⟨_,rfl⟩,q⟩
theorem RL {f:Value->Value->Sem Value}{g:Int->Int->Int}
  (rule:∀(i j:Int) (t u:Tok) (s:Shared) (Q:Value->Shared->Prop) (E:Value->Shared->Prop),Q (.int (g i j) s.toks) { s with toks:=s.toks+1 }->wpAny (model X.prog X.w) X.A (f (.int i t) (.int j u)) Q E s) :
  eN X f (qA λi j=>.int (g i j)):=by
 intro pins s σ H x y v u Q I rx ry h
 obtain⟨i,j,rfl,rfl,q⟩:=h
 obtain⟨t,rfl⟩:=rx
 obtain⟨t',rfl⟩:=ry
 exact rule i j t t' s _ _ ⟨.int (g i j),H,I.tok _,⟨_,rfl⟩,q⟩
theorem Ml {f:Value->Value->Sem Value}{g:Int->Int->Bool}
  (rule:∀(i j:Int) (t u:Tok) (s:Shared) (Q:Value->Shared->Prop) (E:Value->Shared->Prop),Q (.bool (g i j)) s->wpAny (model X.prog X.w) X.A (f (.int i t) (.int j u)) Q E s) :
  eN X f (qA λi j=>.bl (g i j)):=by
 intro pins s σ H x y v u Q I rx ry h
 obtain⟨i,j,rfl,rfl,q⟩:=h
 obtain⟨t,rfl⟩:=rx
 obtain⟨t',rfl⟩:=ry
 exact rule i j t t' s _ _ ⟨.bl (g i j),H,I,rfl,q⟩
def Xe (i j:Int):Prop:=0 < j/\j < 1073741824
def Xf (i j:Int):Prop:=0<=j/\j<=1000000/\i.natAbs < 2 ^ 64
def Mm (i j:Int):Prop:=(-(2 ^ 64) < i/\i < 2 ^ 64)\/(-(2 ^ 64) < j/\j < 2 ^ 64)
theorem Mm.ok {i j:Int}(h:Mm i j):IntMulOk i j:=by
 rcases h with ⟨h1,h2⟩ | ⟨h1,h2⟩
 ·exact .of_left (intBits_le_64 h1 h2)
 ·exact .of_right (intBits_le_64 h1 h2)
theorem bW:eN X (binaryOp .Add) (qA λi j=>.int (i+j)):=RL λ_ _ _ _ _ _ _ q=>add_int q
theorem nI:eN X (binaryOp .Sub) (qA λi j=>.int (i - j)):=RL λ_ _ _ _ _ _ _ q=>sub_int q
theorem pA:eN X (binaryOp .Mult) (rI Mm λi j=>.int (i * j)):=Ox λ_ _ _ _ _ _ _ hc q=>mul_int q hc.ok
theorem rQ:eN X (binaryOp .FloorDiv) (rI Xe λi j=>.int (i / j)):=Ox λi j _ _ _ _ _ hc q=>by
 have h1:(0:Int) < j:=hc.1
 have h2:j < 1073741824:=hc.2
 exact floordiv_int (by omega) (by rw[Int.fdiv_eq_ediv_of_nonneg i (by omega)]; exact q) (.inl (PyProof.noPylong_small (by omega)))
theorem eO:eN X (binaryOp .Mod) (rI (λ_ j=>0 < j) λi j=>.int (i % j)):=Ox λi j _ _ _ _ _ hc q=>by
 have h1:(0:Int) < j:=hc
 exact mod_int' (by omega) (by rw[Int.fmod_eq_emod_of_nonneg i (by omega)]; exact q)
theorem RM:eN X (binaryOp .LShift) (rI Xf λi j=>.int (i * 2 ^ j.toNat)):=Ox λ_ _ _ _ _ _ _ hc q=>lshift_int_small hc.1 hc.2.1 hc.2.2 q
theorem Y3 {f:Value->Sem Value}{g:Int->Int}
  (rule:∀(i:Int) (t:Tok) (s:Shared) (Q:Value->Shared->Prop) (E:Value->Shared->Prop),Q (.int (g i) s.toks) { s with toks:=s.toks+1 }->wpAny (model X.prog X.w) X.A (f (.int i t)) Q E s) :
  RK X f (rU λi=>.int (g i)):=by
 intro pins s σ H x v Q I rx h
 obtain⟨i,rfl,q⟩:=h
 obtain⟨t,rfl⟩:=rx
 exact rule i t s _ _ ⟨.int (g i),H,I.tok _,⟨_,rfl⟩,q⟩
theorem nJ:RK X (unaryOp .USub) (rU λi=>.int (-i)):=Y3 λ_ _ _ _ _ q=>neg_int q
end
def IG:V->V->Bool
 | .aR,.aR=>true | .aR,.int _=>true | .int _,.aR=>true | .aR,.bl _=>true | .bl _,.aR=>true | .aR,.str _=>true | .str _,.aR=>true
 | .int _,.int _=>true | .bl _,.bl _=>true | .str _,.str _=>true | .nF _,.nF _=>true
 | .int _,.str _=>true | .str _,.int _=>true | .bl _,.str _=>true | .str _,.bl _=>true
 | _,_=>false
def BO:R2:=λx y H Q=>IG x y=true/\Q (.bl (decide (x=y))) H
def RN:R2:=λx y H Q=>IG x y=true/\Q (.bl (!decide (x=y))) H
theorem GP {i j:Int}:decide (V.int i=V.int j)=(i == j):=by
 rw[Bool.eq_iff_iff]
 simp
theorem J9 {i j:Bool}:decide (V.bl i=V.bl j)=(i == j):=by
 rw[Bool.eq_iff_iff]
 simp
theorem GQ {i j:Str}:decide (V.str i=V.str j)=(i == j):=by
 rw[Bool.eq_iff_iff]
 simp
theorem GR {i j:Array UInt8}:decide (V.nF i=V.nF j)=(i.toList == j.toList):=by
 rw[Bool.eq_iff_iff]
 cases i
 cases j
 simp
section
variable {X:Cx}{a b c:Expr}{ta tb tc:TE}{pos:Pos}
theorem bM {pins:List (Addr × Obj)}{σ:St}{H:Hp}{s:Shared}{Q:VK}{k k':Bool}(I:Inv X pins σ H s)(q:Q (.bl k) H)(e:k=k'):EP X pins σ Q (.bool k') s:=by
 subst e
 exact⟨.bl k,H,I,rfl,q⟩
theorem gD:eN X (compareOp .Eq) BO:=by
 intro pins s σ H x y v u Q I rx ry h
 obtain⟨hs,q⟩:=h
 cases x with
 | aR=>
  cases rx
  cases y with
  | aR=>cases ry; exact PySem.EqNone.eq_none_none (bM I q (by simp))
  | bl j=>cases ry; exact PySem.EqNone.eq_none_bool (bM I q (by simp))
  | int j=>obtain⟨t',rfl⟩:=ry; exact PySem.EqNone.eq_none_int (bM I q (by simp))
  | str j=>obtain⟨t',rfl⟩:=ry; exact PySem.EqNone.eq_none_str (bM I q (by simp))
  | _=>exact absurd (show false=true from hs) Bool.false_ne_true
 | bl i=>
  cases rx
  cases y with
  | aR=>cases ry; exact PySem.EqNone.eq_bool_none (bM I q (by simp))
  | bl j=>cases ry; exact eq_bool (bM I q J9)
  | str j=>obtain⟨t',rfl⟩:=ry; exact PySem.EqMixed.eq_bool_str (bM I q (by simp))
  | _=>exact absurd (show false=true from hs) Bool.false_ne_true
 | int i=>
  obtain⟨t,rfl⟩:=rx
  cases y with
  | aR=>cases ry; exact PySem.EqNone.eq_int_none (bM I q (by simp))
  | int j=>obtain⟨t',rfl⟩:=ry; exact eq_int (bM I q GP)
  | str j=>obtain⟨t',rfl⟩:=ry; exact PySem.EqMixed.eq_int_str (bM I q (by simp))
  | _=>exact absurd (show false=true from hs) Bool.false_ne_true
 | str i=>
  obtain⟨t,rfl⟩:=rx
  cases y with
  | aR=>cases ry; exact PySem.EqNone.eq_str_none (bM I q (by simp))
  | bl j=>cases ry; exact PySem.EqMixed.eq_str_bool (bM I q (by simp))
  | int j=>obtain⟨t',rfl⟩:=ry; exact PySem.EqMixed.eq_str_int (bM I q (by simp))
  | str j=>obtain⟨t',rfl⟩:=ry; exact eq_str (bM I q GQ)
  | _=>exact absurd (show false=true from hs) Bool.false_ne_true
 | nF i=>
  obtain⟨t,rfl⟩:=rx
  cases y with
  | nF j=>obtain⟨t',rfl⟩:=ry; exact PySem.W.eq_bytes (bM I q GR)
  | _=>exact absurd (show false=true from hs) Bool.false_ne_true
 | _=>cases y <;> exact absurd (show false=true from hs) Bool.false_ne_true
theorem II:eN X (compareOp .NotEq) RN:=by
 intro pins s σ H x y v u Q I rx ry h
 obtain⟨hs,q⟩:=h
 cases x with
 | aR=>
  cases rx
  cases y with
  | aR=>cases ry; exact PySem.EqNone.ne_none_none (bM I q (by simp))
  | bl j=>cases ry; exact PySem.EqNone.ne_none_bool (bM I q (by simp))
  | int j=>obtain⟨t',rfl⟩:=ry; exact PySem.EqNone.ne_none_int (bM I q (by simp))
  | str j=>obtain⟨t',rfl⟩:=ry; exact PySem.EqNone.ne_none_str (bM I q (by simp))
  | _=>exact absurd (show false=true from hs) Bool.false_ne_true
 | bl i=>
  cases rx
  cases y with
  | aR=>cases ry; exact PySem.EqNone.ne_bool_none (bM I q (by simp))
  | bl j=>cases ry; exact ne_bool (bM I q (congrArg not J9))
  | str j=>obtain⟨t',rfl⟩:=ry; exact PySem.EqMixed.ne_bool_str (bM I q (by simp))
  | _=>exact absurd (show false=true from hs) Bool.false_ne_true
 | int i=>
  obtain⟨t,rfl⟩:=rx
  cases y with
  | aR=>cases ry; exact PySem.EqNone.ne_int_none (bM I q (by simp))
  | int j=>obtain⟨t',rfl⟩:=ry; exact ne_int (bM I q (congrArg not GP))
  | str j=>obtain⟨t',rfl⟩:=ry; exact PySem.EqMixed.ne_int_str (bM I q (by simp))
  | _=>exact absurd (show false=true from hs) Bool.false_ne_true
 | str i=>
  obtain⟨t,rfl⟩:=rx
  cases y with
  | aR=>cases ry; exact PySem.EqNone.ne_str_none (bM I q (by simp))
  | bl j=>cases ry; exact PySem.EqMixed.ne_str_bool (bM I q (by simp))
  | int j=>obtain⟨t',rfl⟩:=ry; exact PySem.EqMixed.ne_str_int (bM I q (by simp))
  | str j=>obtain⟨t',rfl⟩:=ry; exact ne_str (bM I q (congrArg not GQ))
  | _=>exact absurd (show false=true from hs) Bool.false_ne_true
 | nF i=>
  obtain⟨t,rfl⟩:=rx
  cases y with
  | nF j=>obtain⟨t',rfl⟩:=ry; exact PySem.W.ne_bytes (bM I q (congrArg not GR))
  | _=>exact absurd (show false=true from hs) Bool.false_ne_true
 | _=>cases y <;> exact absurd (show false=true from hs) Bool.false_ne_true
theorem Oz:eN X (compareOp .Lt) (qA λi j=>.bl (decide (i < j))):=Ml λ_ _ _ _ _ _ _ q=>lt_int q
theorem tM:eN X (compareOp .LtE) (qA λi j=>.bl (decide (i<=j))):=Ml λ_ _ _ _ _ _ _ q=>le_int q
theorem U4:eN X (compareOp .Gt) (qA λi j=>.bl (decide (j < i))):=Ml λ_ _ _ _ _ _ _ q=>gt_int q
theorem BP:eN X (compareOp .In) (λx y H Q=>∃i j,x=.str i/\y=.str j/\Q (.bl (!(Builtin.Str.occurrences j i 0 j.length 1).isEmpty)) H):=by
 intro pins s σ H x y v u Q I rx ry h
 obtain⟨i,j,rfl,rfl,q⟩:=h
 obtain⟨t,rfl⟩:=rx
 obtain⟨t',rfl⟩:=ry
 exact in_str (bM I q rfl)
theorem bN (b:Expr){op:CmpOp}(h:op≠.In:=by decide)(h2:op≠.NotIn:=by decide):behindInMarks op b=false:=by
 have e1:(op == CmpOp.In)=false:=by cases op <;> first | rfl | exact absurd rfl h
 have e2:(op == CmpOp.NotIn)=false:=by cases op <;> first | rfl | exact absurd rfl h2
 cases b <;> simp [behindInMarks,e1,e2]
theorem oZ {op:CmpOp}{r:R2}(ho:eN X (compareOp op) r)(ha:PE X a ta)(hb:PE X b tb)(hm:behindInMarks op b=false):PE X (.Compare a [op] [b] pos) (cZ r ta tb):=by
 intro pins s σ H Q I h
 exact wpAny_Compare1 (Mj ha hb I h λv u s2 x y H2 I2 rx ry q=>ho pins s2 σ H2 x y v u Q I2 rx ry q) hm
def nq (t:TE):TT:=fun σ H Q=>t σ H λx H'=>∃k,x=.bl k/\Q k H'
theorem bK {op:CmpOp}{r:R2}(ho:eN X (compareOp op) r)(ha:PE X a ta)(hb:PE X b tb)(hm:behindInMarks op b=false):PT X (.Compare a [op] [b] pos) (nq (cZ r ta tb)):=by
 intro pins s σ H Q I h
 refine wpAny_isTrue_Compare1 (aN (ha pins s σ H _ I h) λv s1 ⟨x,H1,I1,r1,q1⟩=>aN (hb pins s1 σ H1 _ I1 q1) λu s2 ⟨y,H2,I2,r2,q2⟩=>
  aN (ho pins s2 σ H2 x y v u _ I2 r1 r2 q2) λc s3 ⟨z,H3,I3,r3,k,e,q3⟩=>?_) hm
 subst e
 cases r3
 exact wpAny_truthy_bool ⟨H3,I3,q3⟩
def DS (r r':R2)(ta tb tc:TE):TE:=fun σ H Q=>ta σ H λx H1=>tb σ H1 λy H2=>r x y H2 λz H3=>∃k,z=.bl k/\
 (if k=true then tc σ H3 λw' H4=>r' y w' H4 Q else Q (.bl false) H3)
theorem Mn {op op':CmpOp}{r r':R2}(ho:eN X (compareOp op) r)(ho':eN X (compareOp op') r')(ha:PE X a ta)(hb:PE X b tb)(hc:PE X c tc)
  (hm:lastMarks [op,op'] [b,c]=false:=by with_unfolding_all rfl):PE X (.Compare a [op,op'] [b,c] pos) (DS r r' ta tb tc):=by
 intro pins s σ H Q I h
 refine Compare_chain (aN (ha pins s σ H _ I h) λv s1 ⟨x,H1,I1,r1,q1⟩=>chain_link (aN (hb pins s1 σ H1 _ I1 q1) λu s2 ⟨y,H2,I2,r2,q2⟩=>
  aN (ho pins s2 σ H2 x y v u _ I2 r1 r2 q2) λd s3 ⟨z,H3,I3,r3,k,e,q3⟩=>?_)) hm
 subst e
 cases r3
 refine wpAny_truthy_bool ?_
 cases k with
 | false=>exact ite_ff ⟨.bl false,H3,I3,rfl,q3⟩
 | true=>exact ite_tt (chain_last (aN (hc pins s3 σ H3 _ I3 q3) λw' s4 ⟨z',H4,I4,r4,q4⟩=>ho' pins s4 σ H4 y z' u w' Q I4 r2 r4 q4))
theorem yq {op op':CmpOp}{r r':R2}(ho:eN X (compareOp op) r)(ho':eN X (compareOp op') r')(ha:PE X a ta)(hb:PE X b tb)(hc:PE X c tc)
  (hm:lastMarks [op,op'] [b,c]=false:=by with_unfolding_all rfl):PT X (.Compare a [op,op'] [b,c] pos) (nq (DS r r' ta tb tc)):=by
 intro pins s σ H Q I h
 refine isTrue_chain (aN (ha pins s σ H _ I h) λv s1 ⟨x,H1,I1,r1,q1⟩=>test_link (aN (hb pins s1 σ H1 _ I1 q1) λu s2 ⟨y,H2,I2,r2,q2⟩=>
  aN (ho pins s2 σ H2 x y v u _ I2 r1 r2 q2) λd s3 ⟨z,H3,I3,r3,k,e,q3⟩=>?_)) hm
 subst e
 cases r3
 refine wpAny_truthy_bool ?_
 cases k with
 | false=>
  obtain⟨k',e',q'⟩:=q3
  cases e'
  exact ite_ff ⟨H3,I3,q'⟩
 | true=>
  refine ite_tt (test_last (aN (hc pins s3 σ H3 _ I3 q3) λw' s4 ⟨z',H4,I4,r4,q4⟩=>aN (ho' pins s4 σ H4 y z' u w' _ I4 r2 r4 q4) λd' s5 ⟨z2,H5,I5,r5,k2,e2,q5⟩=>?_))
  subst e2
  cases r5
  exact wpAny_truthy_bool ⟨H5,I5,q5⟩
def IJ (K:PySem.W.Frag)(x:V)(H:Hp)(k:Bool):Prop:=
 match x with
 | .aR=>k=false
 | .bl b=>k=b
 | .int i=>k=(i != 0)
 | .str y=>y.length<=sizeLine/\k=((y.length:Int) != 0)
 | .nF y=>y.size<=sizeLine/\k=((y.size:Int) != 0)
 | .ref p=>(∃xs,aE K H p xs/\k=!xs.isEmpty)\/(∃xs,aK K H p xs/\k=!xs.isEmpty)\/∃kvs,H p=some (.dK kvs)/\k=!kvs.isEmpty
 | _=>False
theorem IK {κ:Type}{kvs:List (κ × V)}{vs:List (κ × Value)}(r:KV kvs vs):(!vs.isEmpty)=!kvs.isEmpty:=by
 cases r <;> rfl
theorem zm {xs:List V}{its:List Value}(r:Vals xs its):(!its.toArray.isEmpty)=!xs.isEmpty:=by
 cases r <;> simp
theorem vq:(sizeLine:Nat) < 2 ^ 63:=by rw[sizeLine_eq]; decide
theorem RO:Xd X (λx H Q=>∃k,IJ X.K x H k/\Q k H):=by
 intro pins s σ H x v Q I rx h
 obtain⟨k,e,q⟩:=h
 have hl:=vq
 have hs:sizeLine=16777216:=sizeLine_eq
 cases x with
 | aR=>
  cases rx
  have e':k=false:=e
  subst e'
  exact truthy_none ⟨H,I,q⟩
 | bl b=>
  cases rx
  have e':k=b:=e
  subst e'
  exact wpAny_truthy_bool ⟨H,I,q⟩
 | int i=>
  obtain⟨t,rfl⟩:=rx
  have e':k=(i != 0):=e
  subst e'
  exact PySem.P.truthy_int ⟨H,I,q⟩
 | str y=>
  obtain⟨t,rfl⟩:=rx
  obtain⟨hy,e'⟩:y.length<=sizeLine/\k=((y.length:Int) != 0):=e
  subst e'
  exact PySem.P.truthy_str (by omega) ⟨H,I.tok _,q⟩
 | nF y=>
  obtain⟨t,rfl⟩:=rx
  obtain⟨hy,e'⟩:y.size<=sizeLine/\k=((y.size:Int) != 0):=e
  subst e'
  exact PySem.W.truthy_bytes (by omega) ⟨H,I.tok _,q⟩
 | ref p=>
  cases rx
  have e':(∃xs,aE X.K H p xs/\k=!xs.isEmpty)\/(∃xs,aK X.K H p xs/\k=!xs.isEmpty)\/∃kvs,H p=some (.dK kvs)/\k=!kvs.isEmpty:=e
  rcases e' with ⟨xs,hx,e'⟩ | ⟨xs,hx,e'⟩ | ⟨kvs,hx,e'⟩
  ·subst e'
   obtain⟨its,r,pl,hz⟩:=I.list hx
   have hlen:=r.length
   exact wpAny_truthy_list pl.isList (by simp only [List.size_toArray]; omega) ⟨H,I.tok _,by rw[zm r]; exact q⟩
  ·subst e'
   obtain⟨its,r,pl,hz⟩:=I.tuple hx
   have hlen:=r.length
   exact truthy_tuple pl (by simp only [List.size_toArray]; omega) ⟨H,I.tok _,by rw[zm r]; exact q⟩
  ·subst e'
   obtain⟨hz,hS,vs,r,m⟩:kvs.length<=sizeLine/\(p == sysModules)=false/\∃vs,KV kvs vs/\s.heap.DictOf (dD X.prog X.w) p vs:=I.hok p _ hx
   have hlen:kvs.length=vs.length:=Paired.length r
   exact wpAny_truthy_dict hS m (by omega) ⟨H,I.tok _,by rw[IK r]; exact q⟩
 | _=>exact (show False from e).elim
theorem Mq (ha:PE X a ta)(he:∀whole,isTrue a X.env whole=(do let v ←whole; standAt a.pos; holding [v] (truthy v))) :
  PT X a (fun σ H Q=>ta σ H λx H'=>∃k,IJ X.K x H' k/\Q k H'):=by
 intro pins s σ H Q I h
 exact isTrue_plain (aN (ha pins s σ H _ I h) λv s1 ⟨x,H1,I1,r1,q1⟩=>RO pins s1 σ H1 x v Q I1 r1 q1) (he _)
theorem zo:eN X (binaryOp .Add) (λx y H Q=>∃i j,x=.str i/\y=.str j/\i.length+j.length<=sizeLine/\Q (.str (i++j)) H):=by
 intro pins s σ H x y v u Q I rx ry h
 obtain⟨i,j,rfl,rfl,hz,q⟩:=h
 obtain⟨t,rfl⟩:=rx
 obtain⟨t',rfl⟩:=ry
 exact add_str (λt' tk=>⟨.str (i++j),H,I.tok _,⟨_,rfl⟩,q⟩) hz
theorem vals1 {x:V}{us:List Value}(r:Vals [x] us):∃u,us=[u]/\RelV x u:=by
 cases r with
 | cons r1 r2=>cases r2; exact⟨_,rfl,r1⟩
theorem vals2 {x y:V}{us:List Value}(r:Vals [x,y] us):∃u w',us=[u,w']/\RelV x u/\RelV y w':=by
 cases r with
 | cons r1 r2=>
  cases r2 with
  | cons r3 r4=>cases r4; exact⟨_,_,rfl,r1,r3⟩
theorem J_:dJ X (.type "int") (λxs H Q=>(∃i,xs=[.int i]/\Q (.int i) H)\/∃k,xs=[.bl k]/\Q (.int (if k then 1 else 0)) H):=by
 intro pins s σ H xs us Q I r h
 rcases h with ⟨i,rfl,q⟩ | ⟨k,rfl,q⟩
 ·obtain⟨u,rfl,t,rfl⟩:=vals1 r
  exact call_int_int ⟨.int i,H,I,⟨_,rfl⟩,q⟩
 ·obtain⟨u,rfl,r1⟩:=vals1 r
  cases r1
  exact call_int_bool ⟨.int (if k then 1 else 0),H,I.tok _,⟨_,rfl⟩,q⟩
def vt (K:PySem.W.Frag)(x:V)(H:Hp)(n:Nat):Prop:=
 match x with
 | .str y=>y.length<=sizeLine/\n=y.length
 | .nF y=>y.size<=sizeLine/\n=y.size
 | .ref p=>(∃xs,aE K H p xs/\n=xs.length)\/∃xs,aK K H p xs/\n=xs.length
 | _=>False
theorem Mr:dJ X (.builtin "len") (λxs H Q=>∃x n,xs=[x]/\vt X.K x H n/\Q (.int n) H):=by
 intro pins s σ H xs us Q I r h
 obtain⟨x,n,rfl,e,q⟩:=h
 obtain⟨u,rfl,rx⟩:=vals1 r
 have hl:=vq
 have hs:sizeLine=16777216:=sizeLine_eq
 cases x with
 | str y=>
  obtain⟨t,rfl⟩:=rx
  obtain⟨hy,e'⟩:y.length<=sizeLine/\n=y.length:=e
  subst e'
  exact len_str (by omega) ⟨.int _,H,I.tok _,⟨_,rfl⟩,q⟩
 | nF y=>
  obtain⟨t,rfl⟩:=rx
  obtain⟨hy,e'⟩:y.size<=sizeLine/\n=y.size:=e
  subst e'
  exact PySem.W.len_bytes (by omega) ⟨.int _,H,I.tok _,⟨_,rfl⟩,q⟩
 | ref p=>
  cases rx
  have e':(∃xs,aE X.K H p xs/\n=xs.length)\/∃xs,aK X.K H p xs/\n=xs.length:=e
  rcases e' with ⟨xs,hx,e'⟩ | ⟨xs,hx,e'⟩
  ·subst e'
   obtain⟨its,r',pl,hz⟩:=I.list hx
   have hlen:=r'.length
   exact Calls.call_len_list pl.isList (by simp only [List.size_toArray]; omega) ⟨.int xs.length,H,I.tok _,⟨_,by simp only [List.size_toArray]; rw[hlen]⟩,q⟩
  ·subst e'
   obtain⟨its,r',pl,hz⟩:=I.tuple hx
   have hlen:=r'.length
   exact len_tuple pl (by simp only [List.size_toArray]; omega) ⟨.int xs.length,H,I.tok _,⟨_,by simp only [List.size_toArray]; rw[hlen]⟩,q⟩
 | _=>exact (show False from e).elim
end
end L2
namespace L2
open PySem PySem.Spec PyProof.Rows
structure yr (h:Heap)(x dx C:Addr)(mA:Str->Option Value):Prop where
 obj:h.get? x=some (PySem.W.instObj C dx)
 ns:h.Ns1 dx mA
 ne:dx≠x
theorem Ka {h:Heap}{dx:Addr}{mA:Str->Option Value}(n:h.Ns1 dx mA):∃od,h.get? dx=some od/\∀name,PySem.W.lookIn name od=some (mA name):=by
 obtain⟨o,es,ep,ho,hd,hk,_,hm⟩:=n
 refine⟨o,ho,λname=>?_⟩
 have e:=hm name
 unfold nsFind findBy at e
 rw[←Array.find?_toList] at e
 unfold PySem.W.lookIn
 rw[hd]
 dsimp only
 split
 ·rename_i y q
  rw[q] at e
  exact congrArg some e
 ·rename_i q
  rw[q] at e
  have a:es.toList.any (·.refKey)=false:=by
   rw[List.any_eq_false]
   intro y hy
   obtain⟨z,t,hkey⟩:=hk y (Array.mem_toList_iff.mp hy)
   simp [DictEntry.refKey,hkey]
  have a':¬ es.toList.any (·.refKey)=true:=by rw[a]; exact Bool.false_ne_true
  rw[if_neg a']
  exact congrArg some e
theorem yr.look {h:Heap}{x dx C:Addr}{mA:Str->Option Value}(I:yr h x dx C mA):∃od,PySem.W.InstAt h x (PySem.W.instObj C dx) C (some od)/\∀name,PySem.W.lookIn name od=some (mA name):=
 let ⟨od,ho,hl⟩:=Ka I.ns
 ⟨od,⟨I.obj,rfl,rfl,ho⟩,hl⟩
section
variable {prog:Program}{w:World}{A:Around}{E:Value->Shared->Prop}{s:Shared}{K:PySem.W.Frag}{x dx C f:Addr}{mA:Str->Option Value}{name:Str}{v:Value}
theorem get_map {expr:Bool}{Q:Value->Shared->Prop}(X:K.In s.heap)(I:yr s.heap x dx C mA)(hg:PySem.W.plainGet K C name=true)(hh:PySem.W.hasDictIn K C=true)
  (ha:PySem.W.findIn K (.ref C) name=some none) (hv:mA name=some v) (hv':PySem.W.handedIn v=true) (h:Q v { s with toks:=s.toks+1 }) :
  wpAny (model prog w) A (getAttr (.ref x) name expr) Q E s:=by
 obtain⟨od,J,hl⟩:=I.look
 exact PySem.W.get_value X J (PySem.W.plainGet_of hg).1 (PySem.W.findObj_own hh ha rfl (by rw[hl,hv])) hv' h
theorem Ms {pl:Sem Bool}{Q:Value × List Value->Shared->Prop}(X:K.In s.heap)(I:yr s.heap x dx C mA)(hg:PySem.W.plainGet K C name=true)
  (hf:PySem.W.findIn K (.ref C) name=some (some (.ref f))) (ht:PySem.W.isFn K (.ref f)=true) (hv:mA name=none) (h:Q (.ref f,[.ref x]) s) :
  wpAny (model prog w) A (getMethod (.ref x) name pl) Q E s:=by
 obtain⟨od,J,hl⟩:=I.look
 exact PySem.W.method_fn X J (PySem.W.plainGet_of hg).1 (PySem.W.plainGet_of hg).2 hf (beq_iff_eq.mp ht) (by show (PySem.W.lookIn name od).map (·.isSome)=some false; rw[hl,hv]; rfl) h
theorem Qc {ns:List Str}{Q:Unit->Shared->Prop}(X:K.In s.heap)(I:yr s.heap x dx C mA)
  (hs:PySem.W.findIn K (.ref C) "__setattr__"=some (some (.builtin "object.__setattr__"))) (hp:PySem.W.plainOver K C=true) (ht:PySem.W.takerIn K C name=some none) (hh:PySem.W.hasDictIn K C=true)
  (hw:PySem.Within mA ns) (hsz:ns.length<=sizeLine)
  (h:∀h',yr h' x dx C (λy=>if y=name then some v else mA y)->Heap.SameBut dx s.heap h'->Q () { s with heap:=h',toks:=s.toks+2 }) :
  wpAny (model prog w) A (setAttr (.ref x) name v) Q E s:=by
 obtain⟨od,J,hl⟩:=I.look
 refine PySem.W.set_plain X J hs (PySem.W.osa_open (s:={ s with toks:=s.toks+1 }) (r:=none) X J hp ht λb=>?_)
 obtain⟨cd,hc,hd'⟩:=PySem.W.any_some hh
 have hx:s.heap.get? x=some ⟨.ref C,some dx,.plain,#[]⟩:=I.obj
 refine wpAny_bind (wpAny_pure (wpAny_bind (wpAny_bind (wpAny_loadPart hx (wpAny_bind (PySem.W.Looks.here (s:={ s with toks:=s.toks+1 }) (PySem.W.looks_clsIn X hc) ?_))))))
 rw[hd']
 refine wpAny_pure (a:=some dx) (wpAny_bind (wpAny_pure (wpAny_bind ?_)))
 refine wpAny_nsSet1 (s:={ s with toks:=s.toks+1 }) I.ns λh' hn2 hs2=>?_
 obtain⟨oD,esD,epD,Y4,Y5,Y6⟩:=hn2.count (PySem.Within.cons name v hw)
 refine wpAny_bind (wpAny_lookBehind Y4 (by rw[Y5]; exact pastItsLine_dict (Nat.le_trans Y6 (by rw[List.length_cons]; omega))) ?_)
 exact wpAny_pure (h _ ⟨(hs2.2 _ (Ne.symm I.ne)).trans I.obj,hn2,I.ne⟩ hs2)
theorem Mt {R:Result->Shared->Prop}{vs:List Value}{kw:List (Str × Value)}(X:K.In s.heap)(hm:PySem.W.makesIn K C=true)
  (hi:PySem.W.findIn K (.ref C) "__init__"=some (some (.ref f))) (hf:PySem.W.typeIn K (.ref f)=some (.type "function"))
  (h:codeAny (model prog w) (A.under (.builtin "type.__call__" ⟨.ref C::vs,kw⟩)) (.call (.ref f) ⟨.ref (s.heap.objs.size+1)::vs,kw⟩) (PySem.W.InitBack (s.heap.objs.size+1) R)
   { s with heap:=(s.heap.push PySem.W.emptyDict).push (PySem.W.instObj C s.heap.objs.size) }) :
  codeAny (model prog w) A (.call (.ref C) ⟨vs,kw⟩) R s:=by
 obtain⟨hh,g,d,t,os⟩:=s
 exact PySem.W.make_core (PySem.W.makes_of X hm) (PySem.W.looks_findIn X hi) (λself=>PySem.W.bind_fn X self hf) (.inl rfl) h
end
def aF (f:Str)(v:V):List (Str × V)->List (Str × V)
 | []=>[(f,v)]
 | (g,x)::r=>if g=f then (g,v)::r else (g,x)::aF f v r
theorem xJ (f g:Str)(v:V):∀fs:List (Str × V),(aF f v fs).lookup g=if g=f then some v else fs.lookup g
 | []=>by
  show List.lookup g [(f,v)]=_
  by_cases h:g=f
  ·have hb:(g == f)=true:=beq_iff_eq.mpr h
   simp only [List.lookup,hb,if_pos h]
  ·have hb:(g == f)=false:=beq_eq_false_iff_ne.mpr h
   simp only [List.lookup,hb,if_neg h]
 | (k,x)::r=>by
  have ih:=xJ f g v r
  rw[show aF f v ((k,x)::r)=(if k=f then (k,v)::r else (k,x)::aF f v r) from rfl]
  by_cases hk:k=f
  ·rw[if_pos hk]
   by_cases h:g=k
   ·have hb:(g == k)=true:=beq_iff_eq.mpr h
    simp only [List.lookup,hb,if_pos (h.trans hk)]
   ·have hb:(g == k)=false:=beq_eq_false_iff_ne.mpr h
    simp only [List.lookup,hb,if_neg (λe:g=f=>h (e.trans hk.symm))]
  ·rw[if_neg hk]
   by_cases h:g=k
   ·have hb:(g == k)=true:=beq_iff_eq.mpr h
    simp only [List.lookup,hb,if_neg (λe:g=f=>hk (h.symm.trans e))]
   ·have hb:(g == k)=false:=beq_eq_false_iff_ne.mpr h
    simp only [List.lookup,hb]
    exact ih
theorem vz (f:Str)(v:V):∀fs:List (Str × V),f∈(aF f v fs).map (·.1)/\∀g,g∈fs.map (·.1)->g∈(aF f v fs).map (·.1)
 | []=>⟨by simp [aF],λg h=>by simp at h⟩
 | (k,x)::r=>by
  obtain⟨i1,i2⟩:=vz f v r
  rw[show aF f v ((k,x)::r)=(if k=f then (k,v)::r else (k,x)::aF f v r) from rfl]
  by_cases hk:k=f
  ·rw[if_pos hk]
   subst hk
   exact⟨by simp,λg h=>by simpa using h⟩
  ·rw[if_neg hk]
   refine⟨?_,λg h=>?_⟩
   ·rw[List.map_cons]
    exact List.mem_cons_of_mem _ i1
   ·rw[List.map_cons] at h ⊢
    rcases List.mem_cons.mp h with e | e
    ·exact List.mem_cons.mpr (.inl e)
    ·exact List.mem_cons_of_mem _ (i2 g e)
theorem xK (f:Str)(v:V):∀fs:List (Str × V),(aF f v fs).length<=fs.length+1
 | []=>by simp [aF]
 | (k,x)::r=>by
  have ih:=xK f v r
  rw[show aF f v ((k,x)::r)=(if k=f then (k,v)::r else (k,x)::aF f v r) from rfl]
  by_cases hk:k=f
  ·rw[if_pos hk,List.length_cons,List.length_cons]; omega
  ·rw[if_neg hk,List.length_cons,List.length_cons]; omega
theorem fS.some_of {v:V}{o:Option Value}(r:fS (some v) o):∃u,o=some u/\RelV v u:=by
 cases o with
 | none=>exact (show False from r).elim
 | some u=>exact⟨u,rfl,r⟩
theorem fS.none_of {o:Option Value}(r:fS none o):o=none:=by
 cases o with
 | none=>rfl
 | some u=>exact (show False from r).elim
theorem Kc {v:V}{u:Value}(r:RelV v u):PySem.W.handedIn u=true:=by
 cases v with
 | aR=>cases (show u=Value.none from r); rfl
 | bl b=>cases (show u=Value.bool b from r); rfl
 | int i=>obtain⟨t,e⟩:=(show ∃t,u=Value.int i t from r); cases e; rfl
 | str x=>obtain⟨t,e⟩:=(show ∃t,u=Value.str x t from r); cases e; rfl
 | nF b=>obtain⟨t,e⟩:=(show ∃t,u=Value.bytes b t from r); cases e; rfl
 | BI b=>obtain⟨t,e⟩:=(show ∃t,u=Value.float b t from r); cases e; rfl
 | ref a=>cases (show u=Value.ref a from r); rfl
 | ty n=>cases (show u=Value.type n from r); rfl
section
variable {P:Program}{w:World}{H H':Hp}{h h':Heap}{a C dx:Addr}{fs fs':List (Str × V)}
theorem wX (hok:fO P w H h)(e:H a=some (.ins C dx fs)):∃mA,yr h a dx C mA/\(∀f,fS (fs.lookup f) (mA f))/\PySem.Within mA (fs.map (·.1))/\fs.length<=1000/\H dx=some (.own a):=by
 obtain⟨d,z,ne,ob,mA,n,r,q⟩:=(show bE P w H h a (.ins C dx fs) from hok a _ e)
 exact⟨mA,⟨ob,n,ne⟩,r,q,z,d⟩
end
structure iF (K:PySem.W.Frag)(C:Addr):Prop where
 pg:PySem.W.plainGet K C Str.empty=true
 hd:PySem.W.hasDictIn K C=true
 po:PySem.W.plainOver K C=true
 sa:PySem.W.findIn K (.ref C) "__setattr__"=some (some (.builtin "object.__setattr__"))
theorem iF.get {K:PySem.W.Frag}{C:Addr}(c:iF K C)(f:Str):PySem.W.plainGet K C f=true:=c.pg
def bw (K:PySem.W.Frag)(C:Addr)(f:Str):Prop:=PySem.W.findIn K (.ref C) f=some none
theorem bw.U5 {K:PySem.W.Frag}{C:Addr}{f:Str}(n:bw K C f):PySem.W.takerIn K C f=some none:=by
 unfold PySem.W.takerIn
 rw[show PySem.W.findIn K (.ref C) f=some none from n]
 rfl
structure Meth (K:PySem.W.Frag)(C:Addr)(m:Str)(f:Addr):Prop where
 at_:PySem.W.findIn K (.ref C) m=some (some (.ref f))
 fn:PySem.W.isFn K (.ref f)=true
 kp:PySem.W.keepIn K (.ref f)=true
section
variable {X:Cx}{pins:List (Addr × Obj)}{σ:St}{H:Hp}{s:Shared}{a C dx:Addr}{fs:List (Str × V)}{f:Str}{v:V}{A:Around}{E:Value->Shared->Prop}
theorem IL {b:Bool}{Q:Value->Shared->Prop}(I:Inv X pins σ H s)(e:H a=some (.ins C dx fs))(c:iF X.K C)(n:bw X.K C f)(l:fs.lookup f=some v)
  (h:∀u s',Inv X pins σ H s'->RelV v u->Q u s'):wpAny (model X.prog X.w) A (getAttr (.ref a) f b) Q E s:=by
 obtain⟨mA,O,r,_,_,_⟩:=wX I.hok e
 obtain⟨u,hu,ru⟩:=fS.some_of (v:=v) (o:=mA f) (by rw[←l]; exact r f)
 exact get_map I.gR O (c.get f) c.hd n hu (Kc ru) (h u _ (I.tok _) ru)
theorem tN {m:Str}{g:Addr}{pl:Sem Bool}{Q:Value × List Value->Shared->Prop}(I:Inv X pins σ H s)(e:H a=some (.ins C dx fs))(c:iF X.K C)(k:Meth X.K C m g)(l:fs.lookup m=none)
  (h:Q (.ref g,[.ref a]) s):wpAny (model X.prog X.w) A (getMethod (.ref a) m pl) Q E s:=by
 obtain⟨mA,O,r,_,_,_⟩:=wX I.hok e
 have hn:mA m=none:=fS.none_of (by rw[←l]; exact r m)
 exact Ms I.gR O (c.get m) k.at_ k.fn hn h
theorem IM {y:V}{u:Value}{Q:Unit->Shared->Prop}(I:Inv X pins σ H s)(e:H a=some (.ins C dx fs))(c:iF X.K C)(n:bw X.K C f)(hl:fs.length < 1000)(ry:RelV y u)
  (h:∀s',Inv X pins σ (upd H a (.ins C dx (aF f y fs))) s'->Q () s'):wpAny (model X.prog X.w) A (setAttr (.ref a) f u) Q E s:=by
 obtain⟨mA,O,r,wi,_,ho⟩:=wX I.hok e
 have hz:(fs.map (·.1)).length<=sizeLine:=by rw[List.length_map,sizeLine_eq]; omega
 refine Qc I.gR O c.sa c.po n.U5 c.hd wi hz λh' O' sb=>h _ ?_
 have hd:∃o,h'.get? dx=some o:=let ⟨o,_,_,e',_⟩:=O'.ns; ⟨o,e'⟩
 refine I.write (x:=a) (e:=dx) (by rw[e]; exact True.intro) (.inr ho) (λb q hb z=>(sb.2 b hb).trans z) hd ?_
 refine⟨by rw[aG O.ne]; exact ho,?_,O.ne,O'.obj,_,O'.ns,λg=>?_,λg hg=>?_⟩
 ·have:=xK f y fs; omega
 ·show fS ((aF f y fs).lookup g) (if g=f then some u else mA g)
  rw[xJ]
  by_cases q:g=f
  ·rw[if_pos q,if_pos q]; exact ry
  ·rw[if_neg q,if_neg q]; exact r g
 ·by_cases q:g=f
  ·rw[q]; exact (vz f y fs).1
  ·refine (vz f y fs).2 g (wi g λz=>hg ?_)
   show (if g=f then some u else mA g)=none
   rw[if_neg q]; exact z
theorem Inv.made (I:Inv X pins σ H s):Inv X pins σ (upd (upd H s.heap.objs.size (.own (s.heap.objs.size+1))) (s.heap.objs.size+1) (.ins C s.heap.objs.size []))
  { s with heap:=(s.heap.push PySem.W.emptyDict).push (PySem.W.instObj C s.heap.objs.size) }:=by
 have e1:(s.heap.push PySem.W.emptyDict).get? s.heap.objs.size=some PySem.W.emptyDict:=Heap.get?_push_size s.heap rfl
 have e2:((s.heap.push PySem.W.emptyDict).push (PySem.W.instObj C s.heap.objs.size)).get? (s.heap.objs.size+1)=some (PySem.W.instObj C s.heap.objs.size):=by
  have:=Heap.get?_push_size (s.heap.push PySem.W.emptyDict) (o:=PySem.W.instObj C s.heap.objs.size) rfl
  rwa [Heap.size_push] at this
 have e3:(s.heap.push PySem.W.emptyDict).Ns s.heap.objs.size (λ_=>none):=⟨PySem.W.emptyDict,#[],_,e1,rfl,(λe he=>absurd he (by simp)),λ_=>rfl⟩
 have I1:=I.laid (a:=s.heap.objs.size) (o:=.own (s.heap.objs.size+1)) (h':=s.heap.push PySem.W.emptyDict) (t':=s.toks) (λb u q=>Heap.get?_push_of_some _ q) (Nat.le_refl _) ⟨_,e1⟩
 refine I1.laid (a:=s.heap.objs.size+1) (o:=.ins C s.heap.objs.size []) (t':=s.toks) (λb u q=>Heap.get?_push_of_some _ q) (Nat.le_of_eq (Heap.size_push _ _)) ?_
 have ne:s.heap.objs.size≠s.heap.objs.size+1:=Nat.ne_of_lt (Nat.lt_succ_self _)
 refine⟨by rw[aG ne,au],Nat.zero_le _,ne,e2,λ_=>none,(Heap.Ns1.of_empty e3).at λo q=>Heap.get?_push_of_some _ q,λ_=>True.intro,λy hy=>absurd rfl hy⟩
theorem Qd {prog:Program}{w:World}{env:Env}{e:Expr}{f:Str}{pos:Pos}{s:Shared}{Q:Value->Shared->Prop}(hb:attributeBase e f env (eval e env)=eval e env)
  (h:wpAny (model prog w) A (eval e env) (λo s₁=>wpAny (model prog w) A (getAttr o f true) Q E s₁) E s):wpAny (model prog w) A (eval (.Attribute e f pos) env) Q E s:=
 Attribute_any_ h (by rw[arm_eval_Attribute,hb])
end
def vA (K:PySem.W.Frag)(ta:TE)(f:Str):TE:=fun σ H Q=>ta σ H λx H1=>∃a C dx fs v,x=.ref a/\H1 a=some (.ins C dx fs)/\iF K C/\bw K C f/\fs.lookup f=some v/\Q v H1
def yt (K:PySem.W.Frag)(ta tv:TE)(f:Str):TS:=λD σ H=>tv σ H λy H1=>ta σ H1 λx H2=>∃a C dx fs,x=.ref a/\H2 a=some (.ins C dx fs)/\iF K C/\bw K C f/\fs.length < 1000/\
 D.nx σ (upd H2 a (.ins C dx (aF f y fs)))
section
variable {X:Cx}{o e value:Expr}{f:Str}{pos pos' tpos:Pos}{ta tv:TE}
theorem RP (he:PE X e ta)(hb:attributeBase e f X.env (eval e X.env)=eval e X.env):PE X (.Attribute e f pos) (vA X.K ta f):=by
 intro pins s σ H Q I h
 refine Qd hb (aN (he pins s σ H _ I h) λu s1 ⟨x,H1,I1,rx,a,C,dx,fs,v,ex,ea,c,n,l,q⟩=>?_)
 subst ex
 obtain rfl:u=Value.ref a:=rx
 exact IL I1 ea c n l λu' s2 I2 ru=>⟨v,H1,I2,ru,q⟩
theorem RQ (ha:PE X o ta)(hv:PE X value tv)(hs:swapsWith value (some (.Attribute o f pos')) pos.line X.env=pure false):PS X (.Assign [.Attribute o f pos'] value pos) (yt X.K ta tv f):=by
 intro pins s σ H D I h
 refine plainObj_wpAny_Assign_Attribute (aN (hv pins s σ H _ I h) λu s1 ⟨y,H1,I1,ry,q⟩=>aN (ha pins s1 σ H1 _ I1 q) λov s2 ⟨x,H2,I2,rx,a,C,dx,fs,ex,ea,c,n,l,q2⟩=>?_) hs
 subst ex
 obtain rfl:ov=Value.ref a:=rx
 exact IM I2 ea c n l ry λs3 I3=>⟨σ,_,I3,q2⟩
theorem UW {pl:Sem Bool}{m:Str}{apos:Pos}{args:List Expr}{pins:List (Addr × Obj)}{s:Shared}{σ:St}{H:Hp}{Q:Value->Shared->Prop}{te:TE}(he:PE X e te)(I:Inv X pins σ H s)
  (h:te σ H λx H1=>∃a C dx fs g,x=.ref a/\H1 a=some (.ins C dx fs)/\iF X.K C/\Meth X.K C m g/\fs.lookup m=none/\
   ∀s1,Inv X pins σ H1 s1->wpAny (model X.prog X.w) X.A (callWith pos (.ref g) [.ref a] (backTo pos (starEach args X.env)) (backToKw pos (keywordEach [] X.env))) Q X.xe s1)
  (ht:eval (.Call (.Attribute e m apos) args [] pos) X.env=(do
   let ov ←eval e X.env
   standAt apos.atName
   let (f,first) ←holding [ov] (getMethod ov m pl)
   callWith pos f first (backTo pos (starEach args X.env)) (backToKw pos (keywordEach [] X.env)))) :
  wpAny (model X.prog X.w) X.A (eval (.Call (.Attribute e m apos) args [] pos) X.env) Q X.xe s:=by
 refine PySem.W.methodCall_KW (pl:=pl) (aN (he pins s σ H _ I h) λu s1 ⟨x,H1,I1,rx,a,C,dx,fs,g,ex,ea,c,k,l,q⟩=>?_) ht
 subst ex
 obtain rfl:u=Value.ref a:=rx
 exact tN I1 ea c k l (q s1 I1)
end
section
variable {X:Cx}{pins:List (Addr × Obj)}{σ:St}{H:Hp}{s:Shared}{A:Around}{E:Value->Shared->Prop}{Q:Value->Shared->Prop}{c:Value}{b:Bool}
inductive mP (K:PySem.W.Frag) (H:Hp):V->Value->Prop where
 | aR:mP K H .aR (.type "NoneType")
 | bl (x:Bool):mP K H (.bl x) (.type "bool")
 | int (i:Int):mP K H (.int i) (.type "int")
 | str (x:Str):mP K H (.str x) (.type "str")
 | BI (x:UInt64):mP K H (.BI x) (.type "float")
 | lst {a:Addr} {xs:List V} (e:H a=some (.lst xs)):mP K H (.ref a) (.type "list")
 | mG {a:Addr} {o:Obj} {xs:List V} (e:H a=some (.mG o (.lst xs))):mP K H (.ref a) (.type "list")
 | tup {a:Addr} {xs:List V} (e:H a=some (.tup xs)):mP K H (.ref a) (.type "tuple")
 | dK {a:Addr} {kvs:List (Key × V)} (e:H a=some (.dK kvs)):mP K H (.ref a) (.type "dict")
 | dT {a:Addr} {kvs:List (List Key × V)} (e:H a=some (.dT kvs)):mP K H (.ref a) (.type "dict")
 | ins {a C dx:Addr} {fs:List (Str × V)} (e:H a=some (.ins C dx fs)) (cl:iF K C) (ha:PySem.W.findIn K (.ref C) "__class__"=some (some (.builtin "object.__class__")))
   (hn:PySem.W.specialIn K (.builtin "object.__class__") "__get__"=some (some (.builtin "getset_descriptor.__get__"))) (htk:PySem.W.takesIn K (.builtin "object.__class__")=some true)
   (hm:PySem.W.mroIn K C (.type "object")=some true):mP K H (.ref a) (.ref C)
theorem Ke {x:V}{u t:Value}(I:Inv X pins σ H s)(rx:RelV x u)(ty:mP X.K H x t)(e:PySem.W.kitOne X.K t c=some b)(h:∀tk,Q (.bool b) { s with toks:=tk }) :
  wpAny (model X.prog X.w) A (call (.builtin "isinstance") [u,c]) Q E s:=by
 cases ty with
 | aR=>cases (show u=Value.none from rx); exact PySem.W.kia_one PySem.W.kitx_none I.gR True.intro e (λz=>nomatch z) h
 | bl y=>cases (show u=Value.bool y from rx); exact PySem.W.kia_one PySem.W.kitx_bool I.gR True.intro e (λz=>nomatch z) h
 | int i=>obtain⟨t,q⟩:=(show ∃t,u=Value.int i t from rx); cases q; exact PySem.W.kia_one PySem.W.kitx_int I.gR True.intro e (λz=>nomatch z) h
 | str y=>obtain⟨t,q⟩:=(show ∃t,u=Value.str y t from rx); cases q; exact PySem.W.kia_one PySem.W.kitx_str I.gR True.intro e (λz=>nomatch z) h
 | BI y=>obtain⟨t,q⟩:=(show ∃t,u=Value.float y t from rx); cases q; exact PySem.W.kia_one PySem.W.kitx_float I.gR True.intro e (λz=>nomatch z) h
 | @lst a xs ea=>
  cases (show u=Value.ref a from rx)
  obtain⟨_,_,n,_,h1⟩:=(show bE X.prog X.w H s.heap a (.lst xs) from I.hok a _ ea)
  exact PySem.W.kia_one PySem.W.kitx_list I.gR ⟨_,h1,rfl⟩ e (λz=>nomatch z) h
 | @mG a ob xs ea=>
  cases (show u=Value.ref a from rx)
  obtain⟨_,_,_,n,_,h1⟩:=(show bE X.prog X.w H s.heap a (.mG ob (.lst xs)) from I.hok a _ ea)
  exact PySem.W.kia_one PySem.W.kitx_list I.gR ⟨_,h1,rfl⟩ e (λz=>nomatch z) h
 | @tup a xs ea=>
  cases (show u=Value.ref a from rx)
  obtain⟨_,_,_,p⟩:=(show bE X.prog X.w H s.heap a (.tup xs) from I.hok a _ ea)
  obtain⟨o,h1,h2,_⟩:=p
  exact PySem.W.kia_one PySem.W.kitx_tuple I.gR ⟨o,h1,h2⟩ e (λz=>nomatch z) h
 | @dK a kvs ea=>
  cases (show u=Value.ref a from rx)
  obtain⟨_,_,vs,_,p⟩:=(show bE X.prog X.w H s.heap a (.dK kvs) from I.hok a _ ea)
  obtain⟨o,es,ep,h1,h2,_⟩:=p
  exact PySem.W.kia_one PySem.W.kitx_dict I.gR ⟨o,h1,h2.1⟩ e (λz=>nomatch z) h
 | @dT a kvs ea=>
  cases (show u=Value.ref a from rx)
  obtain⟨_,_,xs,_,o,es,ep,h1,h2,_⟩:=(show bE X.prog X.w H s.heap a (.dT kvs) from I.hok a _ ea)
  exact PySem.W.kia_one PySem.W.kitx_dict I.gR ⟨o,h1,h2.1⟩ e (λz=>nomatch z) h
 | @ins a C dx fs ea cl ha hn htk hm=>
  cases (show u=Value.ref a from rx)
  obtain⟨mA,O,_⟩:=wX I.hok ea
  obtain⟨od,J,_⟩:=O.look
  exact PySem.W.kia_one (PySem.W.kitx_own (cl.get _) cl.hd ha hn htk hm) I.gR J e (λz=>nomatch z) h
end
end L2
namespace L2
open PySem PySem.Spec PyProof.Rows
structure cU (k:Nat)(A:Around):Prop where
 hd:A.handled=none
 dp:A.depth+3 * k+5 < recursionLimit
 un:A.units+16 * k+200 < cLine
theorem cU.mono {j k:Nat}{A:Around}(r:cU k A)(h:j<=k):cU j A:=⟨r.hd,by have:=r.dp; omega,by have:=r.un; omega⟩
theorem cU.deeper {k:Nat}{A:Around}(r:cU (k+1) A)(env:Env):cU k (A.deeper env):=
 ⟨r.hd,by have:=r.dp; show A.depth+1+3 * k+5 < _; omega,by have:=r.un; show A.units+3+16 * k+200 < _; omega⟩
theorem IP {A:Around}{C:Addr}{us:List Value}{kw:List (Str × Value)}:(A.under (.builtin "type.__call__" ⟨.ref C::us,kw⟩)).depth=A.depth+1:=by
 first | rfl | simp [Around.under,Code.weight,Code.isCreation,Code.isGuard,Code.isCaller,Code.frames,Code.isFrame,guardIds]
theorem IQ {A:Around}{C:Addr}{us:List Value}{kw:List (Str × Value)}:(A.under (.builtin "type.__call__" ⟨.ref C::us,kw⟩)).units=A.units+1:=by
 first | rfl | simp [Around.under,Code.cUnits,Code.frames,Code.isFrame]
theorem cU.make {k:Nat}{A:Around}(r:cU (k+1) A)(C:Addr)(us:List Value)(kw:List (Str × Value)):cU k (A.under (.builtin "type.__call__" ⟨.ref C::us,kw⟩)):=
 ⟨r.hd,by have:=r.dp; rw[IP]; omega,by have:=r.un; rw[IQ]; omega⟩
theorem cU.depth {k:Nat}{A:Around}(r:cU k A):A.depth < recursionLimit:=by have:=r.dp; omega
theorem cU.units {k:Nat}{A:Around}(r:cU k A):A.units+64 < cLine:=by have:=r.un; omega
def dc:TA:=λ_ H Q=>Q [] H
def cE (ta:TE)(tr:TA):TA:=fun σ H Q=>ta σ H λx H1=>tr σ H1 λxs H2=>Q (x::xs) H2
section
variable {X:Cx}{e:Expr}{es:List Expr}{te:TE}{t:TA}{pos:Pos}
theorem ai:PA X [] dc:=λ_ _ _ _ H Q I h=>Calls.spliced_nil ⟨[],H,I,.nil,h⟩
theorem aa (ha:PE X e te)(hr:PA X es t)(hs:starEach (e::es) X.env=(false,eval e X.env)::starEach es X.env:=by rfl):PA X (e::es) (cE te t):=by
 intro pos pins s σ H Q I h
 rw[hs]
 show wpAny _ _ (spliced ((false,eval e X.env)::backTo pos (starEach es X.env))) _ _ s
 refine Calls.spliced_cons (aN (ha pins s σ H _ I h) λu s1 ⟨x,H1,I1,r1,q1⟩=>?_)
 exact aN (hr pos pins s1 σ H1 _ I1 q1) λus s2 ⟨xs,H2,I2,r2,q2⟩=>⟨x::xs,H2,I2,.cons r1 r2,q2⟩
def qR (t:TA):TE:=fun σ H Q=>t σ H λxs H1=>xs.length<=sizeLine/\∀p,H1 p=none->Q (.ref p) (upd H1 p (.tup xs))
def lK (t:TA):TE:=fun σ H Q=>t σ H λxs H1=>xs.length<=sizeLine/\∀p,H1 p=none->Q (.ref p) (upd H1 p (.lst xs))
theorem dO {x1}(h:PA X es t):PE X (.Tuple es x1 pos) (qR t):=by
 intro pins s σ H Q I hq
 refine wpAny_Tuple_spliced (aN (h pos pins s σ H _ I hq) λus s1 ⟨xs,H1,I1,r,z,q⟩=>⟨by rw[←r.length]; exact z,?_⟩)
 have hf:H1 s1.heap.objs.size=none:=I1.hok.fresh (Nat.le_refl _)
 refine⟨.ref s1.heap.objs.size,upd H1 s1.heap.objs.size (.tup xs),I1.laid (t':=s1.toks) (λb u e=>Heap.get?_push_of_some _ e) (Nat.le_refl _) ?_,rfl,q _ hf⟩
 exact⟨z,us,r,⟨_,Heap.get?_push_size _ rfl,rfl,_,rfl⟩⟩
theorem aY (h:PA X es t):PE X (.List es pos) (lK t):=by
 intro pins s σ H Q I hq
 refine wpAny_List_spliced (aN (h pos pins s σ H _ I hq) λus s1 ⟨xs,H1,I1,r,z,q⟩=>⟨by rw[←r.length]; exact z,?_⟩)
 have hf:H1 s1.heap.objs.size=none:=I1.hok.fresh (Nat.le_refl _)
 refine⟨.ref s1.heap.objs.size,upd H1 s1.heap.objs.size (.lst xs),I1.laid (t':=s1.toks) (λb u e=>Heap.get?_push_of_some _ e) (Nat.le_refl _) ?_,rfl,q _ hf⟩
 exact⟨z,us,0,r,Heap.get?_push_size _ rfl⟩
end
abbrev Sp:=List V->Hp->VK->XK->Prop
abbrev qC:=List Env->Hp->Shared->XK->Value->Shared->Prop
structure yu (P:Program)(w:World)(K:PySem.W.Frag)(mg:Str->Option Value)(base:Heap)(A:Around)(outer:List Env)(s:Shared)(H:Hp):Prop where
 frames:A.frames=some outer
 mod:Mod K mg base
 bs:∀b o,base.get? b=some o->s.heap.get? b=some o/\H b=none
 rM:base.objs.size<=s.heap.objs.size
 kY:s.heap.FunFrames base outer
 xH:∀b∈frs outer,H b=none
 hok:fO P w H s.heap
 bare:AllBare s.gens
def CE (outer:List Env)(P:Program)(w:World)(H:Hp)(s:Shared)(Q:VK)(u:Value)(s':Shared):Prop:=
 ∃v H',s'.os=s.os/\AllBare s'.gens/\Un (frs outer) [] H H' s.heap s'.heap/\fO P w H' s'.heap/\RelV v u/\Q v H'
def CR (CX:qC)(outer:List Env)(P:Program)(w:World)(H:Hp)(s:Shared)(Q:VK)(E:XK)(r:Result)(s':Shared):Prop:=
 match r with
 | .ok (.ret u)=>CE outer P w H s Q u s'
 | .ok _=>False
 | .error e=>CX outer H s E e s'
structure aA (P:Program)(w:World)(K:PySem.W.Frag)(mg:Str->Option Value)(base:Heap)(CX:qC)(k:Nat)(f:Addr)(fd:FuncData)(ps:List Str)(sp:Sp):Prop where
 len:∀vs H Q E,sp vs H Q E->vs.length=ps.length
 run:∀(A:Around) (outer:List Env) (s:Shared) (H:Hp) (args:Args) (us:List Value) (vs:List V) (Q:VK) (E:XK),cU k A->yu P w K mg base A outer s H->BindsTo s fd args (ps.zip us)->Vals vs us->sp vs H Q E->
  codeAny (model P w) A (.call (.ref f) args) (CR CX outer P w H s Q E) s
theorem yu.make {P:Program}{w:World}{K:PySem.W.Frag}{mg:Str->Option Value}{base:Heap}{A:Around}{outer:List Env}{s:Shared}{H:Hp}(e:yu P w K mg base A outer s H)(C:Addr)(us:List Value)(kw:List (Str × Value)) :
  yu P w K mg base (A.under (.builtin "type.__call__" ⟨.ref C::us,kw⟩)) outer s H:=⟨by first | exact e.frames | (simpa [Around.under,Code.envs,Code.isFrame,pushEnvs] using e.frames),e.mod,e.bs,e.rM,e.kY,e.xH,e.hok,e.bare⟩
section
variable {X:Cx}{pins:List (Addr × Obj)}{σ:St}{H:Hp}{s s':Shared}
theorem Inv.RS (I:Inv X pins σ H s):yu X.prog X.w X.K X.mg X.base X.A X.stack s H:=
 ⟨I.ok.frames,I.ok.mod,I.bs,Nat.le_trans I.ok.rM I.sz,I.stack,I.wW,I.hok,I.bare⟩
theorem Inv.after {Q:VK}{u:Value}(I:Inv X pins σ H s)(h:CE X.stack X.prog X.w H s Q u s'):EP X pins σ Q u s':=by
 obtain⟨v,H',os,bare,un,hok,r,q⟩:=h
 obtain⟨hh,g,d,t,os'⟩:=s'
 obtain rfl:os'=s.os:=os
 exact⟨v,H',I.call (h':=hh) (g':=g) (d':=d) (t':=t) (ch:=[]) un hok bare (λb z=>absurd z (by simp)),r,q⟩
end
def wY (sp:Sp)(dvs:List V)(E:XK)(t:TA):TE:=fun σ H Q=>t σ H λvs H1=>sp (vs++dvs) H1 Q E
def zp (C:Addr)(m:Str)(sp:Sp)(dvs:List V)(E:XK)(ta:TE)(t:TA):TE:=fun σ H Q=>ta σ H λx H1=>∃a dx fs,x=.ref a/\H1 a=some (.ins C dx fs)/\fs.lookup m=none/\
 t σ H1 λvs H2=>sp (x::(vs++dvs)) H2 Q E
def zq (C:Addr)(sp:Sp)(dvs:List V)(E:XK)(t:TA):TE:=fun σ H Q=>t σ H λvs H1=>∀x dx,H1 x=none->H1 dx=none->dx≠x->
 sp (.ref x::(vs++dvs)) (upd (upd H1 dx (.own x)) x (.ins C dx [])) (λv H2=>v=.aR/\Q (.ref x) H2) E
def Binds (K:PySem.W.Frag)(fd:FuncData)(ps:List Str)(ds:List Value):Prop:=
 ∀(s:Shared) (us:List Value),K.In s.heap->(us++ds).length=ps.length->BindsTo s fd ⟨us,[]⟩ (ps.zip (us++ds))
theorem Binds.all {K:PySem.W.Frag}{fd:FuncData}{ps:List Str}(h:∀us:List Value,us.length=ps.length->bindArgs fd ⟨us,[]⟩=pure (ps.zip us)):Binds K fd ps []:=λs us _ hl=>by
 rw[List.append_nil] at hl ⊢
 exact .of_eq (h us hl)
def Passes (CX:qC)(X:Cx)(E:XK):Prop:=∀(pins:List (Addr × Obj)) (σ:St) (H:Hp) (s:Shared) (e:Value) (s':Shared),Inv X pins σ H s->CX X.stack H s E e s'->X.xe e s'
section
variable {X:Cx}{CX:qC}{k:Nat}{f C:Addr}{fd:FuncData}{ps:List Str}{sp:Sp}{dvs:List V}{ds:List Value}{E:XK}{x m:Str}{p pos apos:Pos}{e o:Expr}{es:List Expr}{ta:TE}{t:TA}
theorem DT {pins:List (Addr × Obj)}{σ:St}{H:Hp}{s:Shared}{Q:VK}{us:List Value}{vs:List V}(F:aA X.prog X.w X.K X.mg X.base CX k f fd ps sp)(hr:cU k X.A)(hb:Binds X.K fd ps ds)(hd:Vals dvs ds)(hx:Passes CX X E)
  (I:Inv X pins σ H s) (r:Vals vs us) (h:sp (vs++dvs) H Q E):wpAny (model X.prog X.w) X.A (call (.ref f) us) (EP X pins σ Q) X.xe s:=by
 have r2:Vals (vs++dvs) (us++ds):=r.append hd
 have hl:(us++ds).length=ps.length:=by rw[←r2.length]; exact F.len _ _ _ _ h
 refine wpAny_call (codeAny_mono (F.run X.A X.stack s H ⟨us,[]⟩ (us++ds) (vs++dvs) Q E hr I.RS (hb s us I.gR hl) r2 h) λr s' hq=>?_)
 cases r with
 | error e=>exact hx pins σ H s e s' I hq
 | ok fl=>
  cases fl with
  | ret u=>exact I.after hq
  | next=>exact False.elim hq
  | brk=>exact False.elim hq
  | cont=>exact False.elim hq
theorem Qe (F:aA X.prog X.w X.K X.mg X.base CX k f fd ps sp)(hr:cU k X.A)(hg:Gl X x)(hm:X.mg x=some (.ref f))(hk:PySem.W.keepIn X.K (.ref f)=true)(hb:Binds X.K fd ps ds)(hd:Vals dvs ds)(hx:Passes CX X E)
  (ha:PA X (e::es) t) (hdb:(x == ("__debug__":Str))=false:=by decide) (he:starEach (e::es) X.env=(false,eval e X.env)::starEach es X.env:=by rfl) (hpl:(backTo pos (starEach es X.env)).any (·.1)=false:=by rfl) :
  PE X (.Call (.Name x p) (e::es) [] pos) (wY sp dvs E t):=by
 intro pins s σ H Q I h
 refine wpAny_Call_Name_kw (oY I hg hm ?_ hdb)
 refine PySem.W.callWith_K (h₀:=X.base) I.ok.mod.GJ hk (aN (ha pos pins s σ H _ I h) λus s1 ⟨vs,H1,I1,r,q⟩=>⟨I1.gR,?_⟩) he hpl
 exact DT F hr hb hd hx I1 r q
theorem Qf {pl:Sem Bool}(he:PE X o ta)(c:iF X.K C)(hm:Meth X.K C m f)(F:aA X.prog X.w X.K X.mg X.base CX k f fd ps sp)(hr:cU k X.A)(hb:Binds X.K fd ps ds)(hd:Vals dvs ds)(hx:Passes CX X E)(ha:PA X (e::es) t)
  (hst:starEach (e::es) X.env=(false,eval e X.env)::starEach es X.env:=by rfl) (hpl:(backTo pos (starEach es X.env)).any (·.1)=false:=by rfl)
  (ht:eval (.Call (.Attribute o m apos) (e::es) [] pos) X.env=(do
   let ov ←eval o X.env
   standAt apos.atName
   let (f,first) ←holding [ov] (getMethod ov m pl)
   callWith pos f first (backTo pos (starEach (e::es) X.env)) (backToKw pos (keywordEach [] X.env))):=by rfl) :
  PE X (.Call (.Attribute o m apos) (e::es) [] pos) (zp C m sp dvs E ta t):=by
 intro pins s σ H Q I h
 refine PySem.W.methodCall_KW (pl:=pl) (aN (he pins s σ H _ I h) λu s1 ⟨x,H1,I1,rx,a,dx,fs,ex,ea,l,q⟩=>?_) ht
 subst ex
 obtain rfl:u=Value.ref a:=rx
 refine tN I1 ea c hm l ?_
 refine PySem.W.callWith_K (first:=[.ref a]) (h₀:=X.base) I.ok.mod.GJ hm.kp (aN (ha pos pins s1 σ H1 _ I1 q) λus s2 ⟨vs,H2,I2,r,q2⟩=>⟨I2.gR,?_⟩) hst hpl
 exact DT (us:=.ref a::us) (vs:=.ref a::vs) F hr hb hd hx I2 (.cons rfl r) q2
theorem Mu {pl:Sem Bool}(he:PE X o ta)(c:iF X.K C)(hm:Meth X.K C m f)(F:aA X.prog X.w X.K X.mg X.base CX k f fd ps sp)(hr:cU k X.A)(hb:Binds X.K fd ps ds)(hd:Vals dvs ds)(hx:Passes CX X E)
  (ht:eval (.Call (.Attribute o m apos) [] [] pos) X.env=(do
   let ov ←eval o X.env
   standAt apos.atName
   let (f,first) ←holding [ov] (getMethod ov m pl)
   callWith pos f first (backTo pos (starEach [] X.env)) (backToKw pos (keywordEach [] X.env))):=by rfl) :
  PE X (.Call (.Attribute o m apos) [] [] pos) (zp C m sp dvs E ta dc):=by
 intro pins s σ H Q I h
 refine PySem.W.methodCall_KW (pl:=pl) (aN (he pins s σ H _ I h) λu s1 ⟨x,H1,I1,rx,a,dx,fs,ex,ea,l,q⟩=>?_) ht
 subst ex
 obtain rfl:u=Value.ref a:=rx
 refine tN I1 ea c hm l ?_
 exact PySem.W.callWith_K0 (first:=[.ref a]) I1.gR hm.kp (DT (us:=[.ref a]) (vs:=[.ref a]) F hr hb hd hx I1 (.cons rfl .nil) q)
structure Mk (K:PySem.W.Frag)(C f:Addr):Prop where
 makes:PySem.W.makesIn K C=true
 init:PySem.W.findIn K (.ref C) "__init__"=some (some (.ref f))
 fn:PySem.W.isFn K (.ref f)=true
 kp:PySem.W.keepIn K (.ref C)=true
theorem DU {pins:List (Addr × Obj)}{σ:St}{H:Hp}{s:Shared}{Q:VK}{us:List Value}{vs:List V}(M:Mk X.K C f)(F:aA X.prog X.w X.K X.mg X.base CX k f fd ps sp)(hr:cU (k+1) X.A)(hb:Binds X.K fd ps ds)(hd:Vals dvs ds)
  (hx:Passes CX X E) (I:Inv X pins σ H s) (r:Vals vs us)
  (h:∀x dx,H x=none->H dx=none->dx≠x->sp (.ref x::(vs++dvs)) (upd (upd H dx (.own x)) x (.ins C dx [])) (λv H2=>v=.aR/\Q (.ref x) H2) E) :
  wpAny (model X.prog X.w) X.A (call (.ref C) us) (EP X pins σ Q) X.xe s:=by
 have hq:=h (s.heap.objs.size+1) s.heap.objs.size (I.hok.fresh (Nat.le_succ _)) (I.hok.fresh (Nat.le_refl _)) (Nat.ne_of_lt (Nat.lt_succ_self _))
 have I2:=Inv.made (C:=C) I
 have r2:Vals (V.ref (s.heap.objs.size+1)::(vs++dvs)) (Value.ref (s.heap.objs.size+1)::(us++ds)):=.cons rfl (r.append hd)
 have hl:(Value.ref (s.heap.objs.size+1)::us++ds).length=ps.length:=by
  have e:=r2.length
  rw[F.len _ _ _ _ hq] at e
  exact e.symm
 refine wpAny_call (Mt (f:=f) I.gR M.makes M.init (beq_iff_eq.mp M.fn) (codeAny_mono (F.run _ X.stack _ _ ⟨Value.ref (s.heap.objs.size+1)::us,[]⟩ (Value.ref (s.heap.objs.size+1)::(us++ds)) _ _ E (hr.make C us [])
  (I2.RS.make C us []) (hb _ (Value.ref (s.heap.objs.size+1)::us) I2.gR hl) r2 hq) λr s' hq'=>?_))
 cases r with
 | error e=>exact hx pins σ _ _ e s' I2 hq'
 | ok fl=>
  cases fl with
  | ret u=>
   obtain⟨v,H',I3,rv,ev,q3⟩:=I2.after hq'
   subst ev
   exact⟨rv,⟨V.ref (s.heap.objs.size+1),H',I3,rfl,q3⟩⟩
  | next=>exact False.elim hq'
  | brk=>exact False.elim hq'
  | cont=>exact False.elim hq'
theorem Qg (M:Mk X.K C f)(F:aA X.prog X.w X.K X.mg X.base CX k f fd ps sp)(hr:cU (k+1) X.A)(hg:Gl X x)(hm:X.mg x=some (.ref C))(hb:Binds X.K fd ps ds)(hd:Vals dvs ds)(hx:Passes CX X E)
  (ha:PA X (e::es) t) (hdb:(x == ("__debug__":Str))=false:=by decide) (he:starEach (e::es) X.env=(false,eval e X.env)::starEach es X.env:=by rfl) (hpl:(backTo pos (starEach es X.env)).any (·.1)=false:=by rfl) :
  PE X (.Call (.Name x p) (e::es) [] pos) (zq C sp dvs E t):=by
 intro pins s σ H Q I h
 refine wpAny_Call_Name_kw (oY I hg hm ?_ hdb)
 refine PySem.W.callWith_K (h₀:=X.base) I.ok.mod.GJ M.kp (aN (ha pos pins s σ H _ I h) λus s1 ⟨vs,H1,I1,r,q⟩=>⟨I1.gR,?_⟩) he hpl
 exact DU M F hr hb hd hx I1 r q
theorem Mv (M:Mk X.K C f)(F:aA X.prog X.w X.K X.mg X.base CX k f fd ps sp)(hr:cU (k+1) X.A)(hg:Gl X x)(hm:X.mg x=some (.ref C))(hb:Binds X.K fd ps ds)(hd:Vals dvs ds)(hx:Passes CX X E)
  (hdb:(x == ("__debug__":Str))=false:=by decide):PE X (.Call (.Name x p) [] [] pos) (zq C sp dvs E dc):=by
 intro pins s σ H Q I h
 refine wpAny_Call_Name_kw (oY I hg hm ?_ hdb)
 exact PySem.W.callWith_K0 I.gR M.kp (DU (us:=[]) M F hr hb hd hx I .nil h)
end
section
variable {X:Cx}{CX:qC}{k:Nat}{f C:Addr}{fd:FuncData}{ps ks:List Str}{sp:Sp}{E:XK}{x m:Str}{p pos apos kpos:Pos}{e o:Expr}{es:List Expr}{kws:List Keyword}{te ta:TE}{t tk:TA}{nm:Option Str}
variable {g:List Value->List Value->List Value}{gV:List V->List V->List V}
end
structure aI (N P:List Str)(sc:Scope):Prop where
 kind:sc.kind=.function
 co:sc.isCoroutine=false
 gen:sc.isGenerator=false
 nd:N.Nodup
 pre:N.take P.length=P
 par:∀x∈P,sc.names.lookup x=some .local\/sc.names.lookup x=some .cell
 RT:∀y∈sc.names,y.2≠.free
theorem BQ {kindOf:Str->Option NameKind}{x:Str}:∀{binds:List (Str × Value)} {m:Str->Option Value},(∀v,(x,v)∉binds)->bindL kindOf binds m x=m x
 | [],_,_=>rfl
 | (n,v)::r,m,h=>by
  unfold bindL
  rw[BQ λw hw=>h w (List.mem_cons_of_mem _ hw)]
  split
  ·have:x≠n:=by rintro rfl; exact h v List.mem_cons_self
   simp [this]
  ·rfl
theorem BR {kindOf:Str->Option NameKind}{x:Str}:∀{binds:List (Str × Value)} {m:Str->Option Value},(∀v,(x,v)∉binds)->bindC kindOf binds m x=m x
 | [],_,_=>rfl
 | (n,v)::r,m,h=>by
  unfold bindC
  rw[BR λw hw=>h w (List.mem_cons_of_mem _ hw)]
  split
  ·rfl
  ·have:x≠n:=by rintro rfl; exact h v List.mem_cons_self
   simp [this]
theorem BS {kindOf:Str->Option NameKind}{x:Str}{v:Value}:∀{P:List Str} {vs:List Value} {i:Nat} {m:Str->Option Value},P.Nodup->P[i]?=some x->vs[i]?=some v->kindOf x=some .local->
  bindL kindOf (P.zip vs) m x=some v
 | [],_,_,_,_,h,_,_=>by simp at h
 | _::_,[],_,_,_,_,h,_=>by simp at h
 | p::P,w::vs,0,m,nd,h1,h2,hk=>by
  simp at h1 h2; subst h1; subst h2
  show bindL kindOf ((p,w)::P.zip vs) m p=_
  unfold bindL
  rw[BQ λv hv=>(List.nodup_cons.mp nd).1 (List.of_mem_zip hv).1,if_pos hk]
  simp
 | p::P,w::vs,i+1,m,nd,h1,h2,hk=>by
  show bindL kindOf ((p,w)::P.zip vs) m x=_
  unfold bindL
  exact BS (i:=i) (List.nodup_cons.mp nd).2 (by simpa using h1) (by simpa using h2) hk
theorem BU {kindOf:Str->Option NameKind}{x:Str}{v:Value}:∀{P:List Str} {vs:List Value} {i:Nat} {m:Str->Option Value},P.Nodup->P[i]?=some x->vs[i]?=some v->kindOf x≠some .local->
  bindC kindOf (P.zip vs) m x=some v
 | [],_,_,_,_,h,_,_=>by simp at h
 | _::_,[],_,_,_,_,h,_=>by simp at h
 | p::P,w::vs,0,m,nd,h1,h2,hk=>by
  simp at h1 h2; subst h1; subst h2
  show bindC kindOf ((p,w)::P.zip vs) m p=_
  unfold bindC
  rw[BR λv hv=>(List.nodup_cons.mp nd).1 (List.of_mem_zip hv).1,if_neg hk]
  simp
 | p::P,w::vs,i+1,m,nd,h1,h2,hk=>by
  show bindC kindOf ((p,w)::P.zip vs) m x=_
  unfold bindC
  exact BU (i:=i) (List.nodup_cons.mp nd).2 (by simpa using h1) (by simpa using h2) hk
def start (N:List Str)(vs:List V):St:=vs.map some++List.replicate (N.length - vs.length) none
def vB (CX:qC)(P:Program)(w:World)(K:PySem.W.Frag)(mg:Str->Option Value)(base:Heap)(N:List Str)(qual:Str)(scope:Scope)(f:Addr)(cd:Value)(A:Around)(outer:List Env)(s:Shared)(H:Hp)(E:XK):Cx where
 prog:=P
 w:=w
 K:=K
 mg:=mg
 base:=base
 A:=A.deeper (envOfC qual scope s.heap.objs.size f cd)
 N:=N
 s₀:=s
 H₀:=H
 env:=envOfC qual scope s.heap.objs.size f cd
 outer:=outer
 stack:=envOfC qual scope s.heap.objs.size f cd::outer
 ex:=[]
 calm:=true
 fn:=λ_=>true
 pn:=[]
 xe:=λe s'=>wpAny (model P w) (A.deeper (envOfC qual scope s.heap.objs.size f cd)) (leaving (envOfC qual scope s.heap.objs.size f cd) e) (λ_ s''=>CX outer H s E e s'') (λe' s''=>CX outer H s E e' s'') s'
theorem DV {sc:Scope}{n:Nat}{x:Str}(h:sc.names.lookup x=some .cell):∃c,(cellsFrom n sc.names []).lookup x=some c:=by
 have q:=PySem.W.cellsFrom_some sc.names n [] (.inl h)
 exact Option.isSome_iff_exists.mp q
theorem Kf {CX:qC}{P:Program}{w:World}{K:PySem.W.Frag}{mg:Str->Option Value}{base:Heap}{N ps:List Str}{qual:Str}{scope:Scope}{f:Addr}{cd:Value}{A:Around}{outer:List Env}{s s1:Shared}{H:Hp}{E:XK}{us:List Value}{vs:List V}
  (S:aI N ps scope) (hd:A.handled=none) (e0:yu P w K mg base A outer s H) (hl:vs.length=ps.length) (r:Vals vs us)
  (x:InCallC s s.heap.objs.size (bindL (envOfC qual scope s.heap.objs.size f cd).kindOf (ps.zip us) λ_=>none) (cellsFrom (s.heap.objs.size+1) scope.names []) (bindC (envOfC qual scope s.heap.objs.size f cd).kindOf (ps.zip us) λ_=>none) s1) :
  Inv (vB CX P w K mg base N qual scope f cd A outer s H E) [] (start N vs) H s1:=by
 have hpl:ps.length<=N.length:=by have:=congrArg List.length S.pre; rw[List.length_take] at this; omega
 obtain⟨h1,tk,rfl,hk⟩:=x.done
 have noA:∀b:Addr,b∉(vB CX P w K mg base N qual scope f cd A outer s H E).ex:=λb z=>absurd (show b∈([]:List Addr) from z) (by simp)
 refine⟨⟨e0.mod,S.kind,rfl,rfl,Nat.le_refl _,λy z c h1 h2=>?_,λy hy=>?_,λy c _ h=>?_,λ_=>hd,Around.frames_deeper e0.frames,.inr ⟨rfl,rfl⟩,λb z=>absurd z (noA b),e0.bs,e0.rM,λb _ _=>noA b,λb z=>absurd z (noA b),e0.kY,e0.xH⟩,
  rfl,e0.bare,Un.kept hk,⟨_,x.toInCall.ns,λi y v h1 h2 h3=>?_⟩,λy c h=>⟨_,x.cell y c h⟩,e0.hok.fresh (Nat.le_refl _),λy c h=>?_,λp hp=>absurd (show p∈([]:List (Addr × Obj)) from hp) (by simp),e0.hok.kept hk,?_⟩
 ·exact name_of_addr x.apart (PySem.mem_of_lookup h1) (PySem.mem_of_lookup h2)
 ·have hy:scope.names.lookup y=some .cell\/scope.names.lookup y=some .free:=hy
  rcases hy with hy | hy
  ·exact DV hy
  ·exact absurd rfl (S.RT _ (PySem.mem_of_lookup hy))
 ·exact Nat.le_of_lt (x.above y c (PySem.mem_of_lookup h))
 ·have hi:i < vs.length:=by
   unfold start at h2
   by_cases hi:i < vs.length
   ·exact hi
   ·rw[List.getElem?_append_right (by simpa using hi)] at h2
    rw[List.getElem?_replicate] at h2
    split at h2 <;> cases h2
  have ha:vs[i]?=some v:=by
   unfold start at h2
   rw[List.getElem?_append_left (by simpa using hi),List.getElem?_map] at h2
   cases e:vs[i]? with
   | none=>rw[e] at h2; cases h2
   | some a=>rw[e] at h2; cases h2; rfl
  obtain⟨u,hu,rv⟩:=r.get ha
  have hp:ps[i]?=some y:=by
   rw[←S.pre,List.getElem?_take_of_lt (by omega)]; exact h1
  have VG:ps.Nodup:=by rw[←S.pre]; exact S.nd.sublist (List.take_sublist _ _)
  refine⟨u,rv,?_⟩
  rcases S.par y (List.mem_of_getElem? hp) with k | k
  ·exact .inl ⟨k,BS VG hp hu k⟩
  ·obtain⟨c,e⟩:=DV (n:=s.heap.objs.size+1) k
   refine .inr ⟨.inl k,c,e,?_⟩
   have q:=x.cell y c e
   rw[BU VG hp hu (by show scope.names.lookup y≠_; rw[k]; decide)] at q
   exact q
 ·exact e0.hok.fresh (Nat.le_of_lt (x.above y c (PySem.mem_of_lookup h)))
 ·unfold start
  show _=N.length
  rw[List.length_append,List.length_map,List.length_replicate]
  omega
theorem OA {CX:qC}{P:Program}{w:World}{K:PySem.W.Frag}{mg:Str->Option Value}{base:Heap}{k:Nat}{f:Addr}{name qual:Str}{params:Arguments}{body:List Stmt}{scope:Scope}{dV kV doc pm cdv ct oc:Value}{an od:Option Addr}
  {osl:Array (Option Value)} {N ps:List Str} {sp:Sp} (lk:K.lookup f=some ⟨oc,od,.func (PySem.W.fnOf name qual params body scope dV kV doc pm an cdv ct),osl⟩) (hcd:PySem.W.codeIn K cdv qual=true) (S:aI N ps scope)
  (len:∀vs H Q E,sp vs H Q E->vs.length=ps.length)
  (hbody:∀(A:Around) (outer:List Env) (s:Shared) (H:Hp) (vs:List V) (Q:VK) (E:XK),cU k (A.deeper (envOfC qual scope s.heap.objs.size f cdv))->sp vs H Q E->
   ∃t,nG (vB CX P w K mg base N qual scope f cdv A outer s H E) body t/\t { nx:=λ_ H'=>Q .aR H',rt:=Q } (start N vs) H) :
  aA P w K mg base CX (k+1) f (PySem.W.fnOf name qual params body scope dV kV doc pm an cdv ct) ps sp:=by
 refine⟨len,λA outer s H args us vs Q E hr e0 hb r hsp=>?_⟩
 have hl:=len _ _ _ _ hsp
 have KX:K.In s.heap:=e0.mod.GJ.keeps λb o e=>(e0.bs b o e).1
 have lim:s.heap.NoLimit:=e0.mod.nolimit.keeps λb o e=>(e0.bs b o e).1
 have hkind:∀y∈ps.zip us,scope.names.lookup y.1=some .local\/(scope.names.lookup y.1=some .cell/\((cellsFrom (s.heap.objs.size+1) scope.names []).lookup y.1).isSome=true):=λ⟨n,v⟩ hy=>by
  rcases S.par n (List.of_mem_zip hy).1 with q | q
  ·exact .inl q
  ·exact .inr ⟨q,PySem.W.cellsFrom_some _ _ _ (.inl q)⟩
 refine codeAny_call_function hr.depth (KX _ _ lk) rfl S.co S.gen rfl (PySem.W.codeRec_of KX hcd) (hb _ _ _ _ ?_)
 refine wpAny_newFunctionEnv_cells S.kind hkind λenv he s1 x=>?_
 subst he
 refine⟨lim.keeps x.toInCall.keep,codeAny_func ?_⟩
 obtain⟨t,ht,hq⟩:=hbody A outer s H vs Q E (hr.deeper _) hsp
 have I:Inv (vB CX P w K mg base N qual scope f cdv A outer s H E) [] (start N vs) H s1:=Kf S hr.hd e0 hl r x
 refine wpAny_mono (ht [] s1 (start N vs) H _ I hq) (λfl s' hs=>?_) λe s' hs=>hs
 have fin:∀{σ':St} {H':Hp} {v:V} {u:Value},Inv (vB CX P w K mg base N qual scope f cdv A outer s H E) [] σ' H' s'->RelV v u->Q v H'->CE outer P w H s Q u s':=
  λ{σ' H' v u} J rv q=>⟨v,H',J.os,J.bare,J.base,J.hok,rv,q⟩
 cases fl with
 | ret u=>
  obtain⟨v,σ',H',J,rv,q⟩:=hs
  exact fin J rv q
 | next=>
  obtain⟨σ',H',J,q⟩:=hs
  exact fin (v:=V.aR) (u:=Value.none) J rfl q
 | brk=>
  obtain⟨_,_,_,q⟩:=hs
  exact False.elim q
 | cont=>
  obtain⟨_,_,_,q⟩:=hs
  exact False.elim q
end L2
namespace L2
open PySem PySem.Spec PyProof.Rows
section
variable {X:Cx}{x:Str}{p pos:Pos}{e:Expr}{es:List Expr}{t:TA}{id T:String}{r:List V->Hp->VK->Prop}
def rR (r:List V->Hp->VK->Prop)(t:TA):TE:=fun σ H Q=>t σ H λvs H1=>r vs H1 Q
theorem bq (hc:dJ X (.builtin id) r)(hg:Gl X x)(hm:X.mg x=none)(hv:bootBuiltins x=some (.builtin id))(ha:PA X (e::es) t)(hn:x≠"__name__":=by decide)(hdb:(x == ("__debug__":Str))=false:=by decide)
  (he:starEach (e::es) X.env=(false,eval e X.env)::starEach es X.env:=by rfl) (hpl:(backTo pos (starEach es X.env)).any (·.1)=false:=by rfl):PE X (.Call (.Name x p) (e::es) [] pos) (rR r t):=by
 intro pins s σ H Q I h
 refine wpAny_Call_Name_kw (pe I hg hm hv ?_ hn hdb)
 exact PyProof.Rows.callWith_builtin1 (aN (ha pos pins s σ H _ I h) λus s1 ⟨vs,H1,I1,r1,q1⟩=>hc pins s1 σ H1 vs us Q I1 r1 q1) he hpl
theorem lD (hc:dJ X (.type T) r)(hg:Gl X x)(hm:X.mg x=none)(hv:bootBuiltins x=some (.type T))(ha:PA X (e::es) t)(hn:x≠"__name__":=by decide)(hdb:(x == ("__debug__":Str))=false:=by decide)
  (he:starEach (e::es) X.env=(false,eval e X.env)::starEach es X.env:=by rfl) (hpl:(backTo pos (starEach es X.env)).any (·.1)=false:=by rfl):PE X (.Call (.Name x p) (e::es) [] pos) (rR r t):=by
 intro pins s σ H Q I h
 refine wpAny_Call_Name_kw (pe I hg hm hv ?_ hn hdb)
 exact PyProof.Rows.callWith_type1 (aN (ha pos pins s σ H _ I h) λus s1 ⟨vs,H1,I1,r1,q1⟩=>hc pins s1 σ H1 vs us Q I1 r1 q1) he hpl
end
end L2
namespace HT
open PySem PyProof.Rows
def lexLt:List Int->List Int->Bool
 | [],[]=>false
 | [],_::_=>true
 | _::_,[]=>false
 | x::xs,y::ys=>if x=y then lexLt xs ys else decide (x < y)
theorem jX (x y:Int)(xs ys:List Int):lexLt (x::xs) (y::ys)=if x=y then lexLt xs ys else decide (x < y):=rfl
theorem CC:lexLt [] []=false:=rfl
theorem rT (y:Int)(ys:List Int):lexLt [] (y::ys)=true:=rfl
theorem rV (x:Int)(xs:List Int):lexLt (x::xs) []=false:=rfl
theorem Mw (A:Around)(s:Shared)(a:Int)(t:Tok)(c:Int)(u:Tok):∃e,SeqAt.EqAt A s (.int a t) (.int c u) e/\(e=true↔a=c):=
 ⟨(a == c),SeqAt.EqAt.int_int a t c u,by simp⟩
theorem Mx (A:Around)(s:Shared)(a:Int)(t:Tok)(c:Int)(u:Tok)(prog:Program)(w:World)(E:Value->Shared->Prop)(Q:Value->Shared->Prop)(h:Q (.bool (decide (a < c))) s) :
  wpAny (model prog w) A (richCompare .Lt (.int a t) (.int c u)) Q E s:=
 (PyProof.Rows.lt_int h:wpAny (model prog w) A (compareOp .Lt (.int a t) (.int c u)) Q E s)
section
open PySem.SeqAt
open PySem.AutoSeq1 (wpAny_loadPart')
open PySem.MeetsSeq PySem.MeetsSeq2 PySem.MeetsSeq3
theorem CD (l b:Addr)(items items2:Array Value)(n n2:Nat)(dd dd2:Option Addr)(sl sl2:Array (Option Value))(ns ms:List Int)(hi:IntsAre items.toList ns)(hj:IntsAre items2.toList ms) :
  Meets (Builtin.«tuple.__lt__» ⟨[.ref l,.ref b],[]⟩)
   (λ_ R s=>s.heap.get? l=some { cls:=.type "tuple",dict:=dd,data:=.seq items n,slots:=sl }/\s.heap.get? b=some { cls:=.type "tuple",dict:=dd2,data:=.seq items2 n2,slots:=sl2 }/\
    R (.ok (.ret (.bool (lexLt ns ms)))) s):=
 .of_wp λprog w A R s h=>by
  obtain⟨hp,g,d,tk,os⟩:=s; obtain⟨hl,hb,h⟩:=h
  have f2:=AutoSeq1.sub_tuple_tuple
  have z1:items.size=ns.length:=by rw[←hi.length]; simp
  have z2:items2.size=ms.length:=by rw[←hj.length]; simp
  wp_walk using wpAny_loadPart' hl,wpAny_loadPart' hb,wpAny_forIn_list _ (λrest b s'=>b.1=none/\s'=⟨hp,g,d,tk,os⟩/\∃(vs ws:List Value) (ns' ms':List Int),rest=vs.zip ws/\
   IntsAre vs ns'/\IntsAre ws ms'/\ns'.length+items2.size=ms'.length+items.size/\R (.ok (.ret (.bool (lexLt ns' ms')))) ⟨hp,g,d,tk,os⟩) _
  case turn=>
   rintro⟨y,x⟩ rest b s' ⟨hb',rfl,vs,ws,ns',ms',hz,RU,hwi,hlen,hR⟩
   cases RU with
   | nil=>rw[List.zip_nil_left] at hz; cases hz
   | cons a t Xg=>
    cases hwi with
    | nil=>rw[List.zip_nil_right] at hz; cases hz
    | cons c u Xh=>
     rw[List.zip_cons_cons] at hz
     injection hz with hyx hrest
     injection hyx with hy hx
     subst hy hx
     rw[jX] at hR
     simp only [List.length_cons] at hlen
     obtain⟨e,he,hiff⟩:=Mw A.in1 ⟨hp,g,d,tk,os⟩ a t c u
     refine wpAny_bind (he prog w _ _ ?_)
     cases e with
     | true=>
      rw[if_pos (hiff.mp rfl)] at hR
      wp_walk
      exact⟨rfl,rfl,_,_,_,_,hrest,Xg,Xh,by omega,hR⟩
     | false=>
      rw[if_neg (λq=>absurd (hiff.mpr q) Bool.false_ne_true)] at hR
      have Y7:=Mx A.in1 ⟨hp,g,d,tk,os⟩ a t c u prog w
      wp_walk using Y7
      exact⟨_,rfl,by simpa using hR⟩
  case fin=>
   rintro⟨b1,b2⟩ s' ⟨hb',rfl,vs,ws,ns',ms',hz,RU,hwi,hlen,hR⟩
   simp only at hb'
   subst hb'
   have hv:lexLt ns' ms'=decide (items.size < items2.size):=by
    cases RU with
    | nil=>
     cases hwi with
     | nil=>
      simp only [List.length_nil] at hlen
      rw[CC]
      exact (decide_eq_false (by omega)).symm
     | cons c u hw=>
      simp only [List.length_nil,List.length_cons] at hlen
      rw[rT]
      exact (decide_eq_true (by omega)).symm
    | cons a t hv=>
     cases hwi with
     | nil=>
      simp only [List.length_nil,List.length_cons] at hlen
      rw[rV]
      exact (decide_eq_false (by omega)).symm
     | cons c u hw=>
      rw[List.zip_cons_cons] at hz
      cases hz
   rw[hv] at hR
   wp_walk
   exact⟨_,rfl,by simpa [Builtin.Tuple.tupleCompareSizes] using hR⟩
  case h=>
   exact⟨rfl,rfl,items.toList,items2.toList,ns,ms,rfl,hi,hj,by omega,h⟩
end
section
variable {prog:Program}{w:World}{A:Around}{E:Value->Shared->Prop}{s:Shared}
theorem IS {l b:Addr}{items items2:Array Value}{ns ms:List Int}{Q:Value->Shared->Prop}(hl:IsTup s.heap l items)(hb:IsTup s.heap b items2)(hi:IntsAre items.toList ns)(hj:IntsAre items2.toList ms)
  (hu:A.units < cLine) (h:Q (.bool (lexLt ns ms)) s):wpAny (model prog w) A (compareOp .Lt (.ref l) (.ref b)) Q E s:=by
 obtain⟨⟨cls,dd,data,sl⟩,ho,hc,n,hd⟩:=id hl
 obtain⟨⟨acG,dd2,data2,sl2⟩,ho2,hc2,n2,hd2⟩:=id hb
 simp only at hc hd hc2 hd2
 subst hc hd hc2 hd2
 exact richCompare_meets_room (op:=.Lt) ⟨_,ho,rfl⟩ ⟨_,ho2,rfl⟩ PySem.F.slot_tuple_lt PySem.F.entry_tuple_lt (PySem.F.args_tuple_lt_2 _ _) (CD l b items items2 n n2 dd dd2 sl sl2 ns ms hi hj)
  ⟨ho,ho2,show Value.bool (lexLt ns ms)≠Value.notImplemented/\Q (.bool (lexLt ns ms)) s from ⟨(λx=>nomatch x),h⟩⟩ hu
def pB (n d:Nat):Option Int->Nat
 | none=>d
 | some v=>if v < 0 then (v+(n:Int)).toNat else min v.toNat n
end
end HT
namespace L2
open PySem PySem.Spec PyProof.Rows
theorem intsAre_of {ns:List Int}:∀{us:List Value},Vals (ns.map V.int) us->IntsAre us ns:=by
 induction ns with
 | nil=>intro us r; rw[List.map_nil] at r; cases r; exact .nil
 | cons n ns ih=>
  intro us r
  rw[List.map_cons] at r
  cases r with
  | cons r1 r2=>
   obtain⟨t,e⟩:=r1
   subst e
   exact .cons n t (ih r2)
section
variable {X:Cx}{e:Expr}{te:TE}{lo hi:Option Expr}{tl th:TO}{pos p2:Pos}
def Y8 (X:Cx)(r:V->Option Int->Option Int->Hp->VK->Prop):Prop:=
 ∀(pins:List (Addr × Obj)) (s:Shared) (σ:St) (H:Hp) (x:V) (v vl vu:Value) (lo hi:Option Int) (sl:Addr) (Q:VK),Inv X pins σ H s->RelV x v->s.heap.IsSliceOf sl vl vu .none->IsPart vl lo->IsPart vu hi->r x lo hi H Q->
  ∃T id,typeLookup (.type T) "__getitem__"=pure (some (.builtin id))/\s.TypeIs v T/\wpAny (model X.prog X.w) X.A (getItem v (.ref sl)) (EP X pins σ Q) X.xe s
def IT (xs:List V)(lo hi:Option Int):List V:=(xs.drop (HT.pB xs.length 0 lo)).take (HT.pB xs.length xs.length hi - HT.pB xs.length 0 lo)
theorem F3 (xs:List V)(lo hi:Option Int):(IT xs lo hi).length<=xs.length:=by
 unfold IT
 rw[List.length_take,List.length_drop]
 omega
def My (K:PySem.W.Frag):R2:=λx y H Q=>∃a b ns ms,x=.ref a/\y=.ref b/\aK K H a (ns.map V.int)/\aK K H b (ms.map V.int)/\Q (.bl (HT.lexLt ns ms)) H
theorem RV (hu:X.A.units < cLine):eN X (compareOp .Lt) (My X.K):=by
 intro pins s σ H x y v u Q I rx ry h
 obtain⟨a,b,ns,ms,rfl,rfl,ha,hb,q⟩:=h
 cases rx
 cases ry
 obtain⟨its,r1,p1,_⟩:=I.tuple ha
 obtain⟨its2,r2,p2,_⟩:=I.tuple hb
 have i1:IntsAre its.toArray.toList ns:=intsAre_of r1
 have i2:IntsAre its2.toArray.toList ms:=intsAre_of r2
 exact HT.IS p1 p2 i1 i2 hu ⟨.bl (HT.lexLt ns ms),H,I,rfl,q⟩
end
end L2
namespace L2
open PySem PySem.Spec PyProof.Rows
def DW (n:Nat)(i:Int):Option Nat:=if 0<=i then (if i < n then some i.toNat else none) else if -(n:Int)<=i then some (i+n).toNat else none
def lM {α:Type}(xs:List α)(i:Int):Option α:=(DW xs.length i).bind λj=>xs[j]?
theorem Qh {n:Nat}{i:Int}{j:Nat}(h:DW n i=some j):seqIndex? i n=some j/\j < n/\-(n:Int)<=i/\i < n:=by
 unfold DW at h
 by_cases h0:0<=i
 ·rw[if_pos h0] at h
  by_cases h1:i < n
  ·rw[if_pos h1] at h
   have e:i.toNat=j:=Option.some.inj h
   exact⟨by rw[seqIndex_of h0 h1,e],by omega,by omega,h1⟩
  ·rw[if_neg h1] at h; cases h
 ·rw[if_neg h0] at h
  by_cases h1:-(n:Int)<=i
  ·rw[if_pos h1] at h
   have e:(i+n).toNat=j:=Option.some.inj h
   exact⟨by rw[seqIndex_neg (by omega) h1,e],by omega,h1,by omega⟩
  ·rw[if_neg h1] at h; cases h
theorem AL {α:Type}{xs:List α}{i:Int}{v:α}(h:lM xs i=some v):∃j,seqIndex? i xs.length=some j/\xs[j]?=some v/\j < xs.length/\-(xs.length:Int)<=i/\i < xs.length:=by
 unfold lM at h
 cases e:DW xs.length i with
 | none=>rw[e] at h; cases h
 | some j=>
  rw[e] at h
  obtain⟨h1,h2,h3,h4⟩:=Qh e
  exact⟨j,h1,h,h2,h3,h4⟩
theorem cu {α:Type}{xs:List α}{j:Nat}{v:α}(h:xs[j]?=some v):lM xs (j:Int)=some v:=by
 have hj:j < xs.length:=(List.getElem?_eq_some_iff.mp h).1
 have e:DW xs.length (j:Int)=some j:=by
  unfold DW
  rw[if_pos (by omega),if_pos (by omega)]; simp
 unfold lM; rw[e]; exact h
def GS (b:Expr):Prop:=∀o i,subscripted b false o i=operate [o,i] (getItem o i)
def DX (X:Cx)(r:R2):Prop:=
 ∀(value slice:Expr) (pins:List (Addr × Obj)) (s:Shared) (σ:St) (H:Hp) (x y:V) (v u:Value) (Q:VK),Inv X pins σ H s->RelV x v->RelV y u->r x y H Q->
  subscripted slice false v u=operate [v,u] (getItem v u)->wpAny (model X.prog X.w) X.A (subscriptTail value slice v u) (EP X pins σ Q) X.xe s
def zu (X:Cx)(id:String)(r:V->List V->Hp->VK->Prop):Prop:=
 ∀(pins:List (Addr × Obj)) (s:Shared) (σ:St) (H:Hp) (x:V) (xs:List V) (v:Value) (us:List Value) (Q:VK),Inv X pins σ H s->RelV x v->Vals xs us->r x xs H Q->
  wpAny (model X.prog X.w) X.A (call (.builtin id) (v::us)) (EP X pins σ Q) X.xe s
section
variable {X:Cx}{a b:Expr}{ta tb:TE}{pos:Pos}
theorem bT {r:R2}(hr:DX X r)(ha:PE X a ta)(hb:PE X b tb)(hs:GS b):PE X (.Subscript a b pos) (cZ r ta tb):=by
 intro pins s σ H Q I h
 exact Subscript_ (Mj ha hb I h λv u s2 x y H2 I2 rx ry q=>hr a b pins s2 σ H2 x y v u Q I2 rx ry q (hs _ _))
def qS (K:PySem.W.Frag):R2:=λx y H Q=>∃p xs i v,x=.ref p/\y=.int i/\aE K H p xs/\lM xs i=some v/\Q v H
def IU (K:PySem.W.Frag):R2:=λx y H Q=>∃p xs i v,x=.ref p/\y=.int i/\aK K H p xs/\lM xs i=some v/\Q v H
def RW:R2:=λx y H Q=>∃z i c,x=.str z/\y=.int i/\z.length<=sizeLine/\lM z.cps.toList i=some c/\Q (.str ⟨#[c]⟩) H
theorem Qi:DX X (qS X.K):=by
 intro value slice pins s σ H x y v u Q I rx ry h hs
 obtain⟨p,xs,i,z,rfl,rfl,hq,he,q⟩:=h
 cases rx
 obtain⟨t,rfl⟩:=ry
 obtain⟨its,r,pl,hz⟩:=I.list hq
 obtain⟨j,h1,h2,h3,h4,h5⟩:=AL he
 obtain⟨w,ew,rw'⟩:=r.get h2
 have hl:=r.length
 have hn:=vq
 have fin:EP X pins σ Q w s:=⟨z,H,I,rw',q⟩
 by_cases h0:0<=i
 ·have hj:i.toNat=j:=by
   rw[seqIndex_of h0 h5] at h1
   exact Option.some.inj h1
  exact item_listR pl.isList h0 (by omega) (by rw[hj]; simpa using ew) fin hs
 ·have hj:(i+(its.toArray.size:Int)).toNat=j:=by
   rw[seqIndex_neg (by omega) h4] at h1
   rw[List.size_toArray,←hl]
   exact Option.some.inj h1
  exact subscriptTail_builtinR (x:=w) pl.isList.typeIs slot_list_getitem.lookup
   (wpAny_getItem_list_neg (Q:=λr s'=>r=w/\EP X pins σ Q r s') pl.isList (by omega) (by rw[List.size_toArray] <;> omega) (by omega) (by rw[hj]; simpa using ew) ⟨rfl,fin⟩) hs
theorem RX:DX X (IU X.K):=by
 intro value slice pins s σ H x y v u Q I rx ry h hs
 obtain⟨p,xs,i,z,rfl,rfl,hq,he,q⟩:=h
 cases rx
 obtain⟨t,rfl⟩:=ry
 obtain⟨its,r,pl,hz⟩:=I.tuple hq
 obtain⟨j,h1,h2,h3,h4,h5⟩:=AL he
 obtain⟨w,ew,rw'⟩:=r.get h2
 have hl:=r.length
 have hn:=vq
 have fin:EP X pins σ Q w s:=⟨z,H,I,rw',q⟩
 exact subscriptTail_builtinR (x:=w) pl.typeIs slot_tuple_getitem.lookup
  (getItem_tuple (j:=j) (Q:=λr s'=>r=w/\EP X pins σ Q r s') pl (by omega) (by omega) (by rw[List.size_toArray,←hl]; exact h1) (by simpa using ew) ⟨rfl,fin⟩) hs
theorem RY:DX X RW:=by
 intro value slice pins s σ H x y v u Q I rx ry h hs
 obtain⟨z,i,c,rfl,rfl,hz,he,q⟩:=h
 obtain⟨t,rfl⟩:=rx
 obtain⟨t',rfl⟩:=ry
 obtain⟨j,h1,h2,h3,h4,h5⟩:=AL he
 have hl:z.cps.toList.length=z.length:=by simp [Str.length]
 rw[hl] at h1 h4 h5
 have hn:=vq
 exact tail_any (typeIs_str s z t) slot_str_getitem.lookup (getItem_str (c:=c) (by
  have e1:decide (i < -(2 ^ 63:Int))=false:=decide_eq_false (by omega)
  have e2:decide (i >= 2 ^ 63)=false:=decide_eq_false (by omega)
  rw[e1,e2,Bool.or_false]) (by rw[h1]; simpa using h2) ⟨.str ⟨#[c]⟩,H,I.tok _,⟨_,rfl⟩,q⟩) hs
theorem DY (lo hi:Option Int)(n:Nat):(sliceBounds lo hi none n).1=((HT.pB n 0 lo:Nat):Int)/\(sliceBounds lo hi none n).2.1=((HT.pB n n hi:Nat):Int)/\(sliceBounds lo hi none n).2.2=1:=by
 refine⟨?_,?_,rfl⟩
 ·cases lo with
  | none=>simp [sliceBounds,HT.pB]
  | some i=>
   simp only [sliceBounds,HT.pB,Option.getD_none,show (1:Int) > 0 by decide,if_true]
   by_cases h:i < 0
   ·simp only [h,if_true] <;> omega
   ·simp only [h,if_false] <;> omega
 ·cases hi with
  | none=>simp [sliceBounds,HT.pB]
  | some i=>
   simp only [sliceBounds,HT.pB,Option.getD_none,show (1:Int) > 0 by decide,if_true]
   by_cases h:i < 0
   ·simp only [h,if_true] <;> omega
   ·simp only [h,if_false] <;> omega
theorem CF (its:List Value)(lo hi:Option Int):slicePick its.toArray lo hi none=((its.drop (HT.pB its.length 0 lo)).take (HT.pB its.length its.length hi - HT.pB its.length 0 lo)).toArray:=by
 obtain⟨h1,h2,h3⟩:=DY lo hi its.toArray.size
 unfold slicePick
 rw[h1,h2,h3]
 simp only [sliceRange_one,pick_run,List.size_toArray] <;> rfl
def Xi (K:PySem.W.Frag):V->Option Int->Option Int->Hp->VK->Prop:=λx lo hi H Q=>∃a xs,x=.ref a/\aE K H a xs/\∀p,H p=none->Q (.ref p) (upd H p (.lst (IT xs lo hi)))
theorem YG:Y8 X (Xi X.K):=by
 intro pins s σ H x v vl vu lo hi sl Q I rx hs pl pu h
 obtain⟨a,xs,rfl,hx,q⟩:=h
 cases rx
 obtain⟨its,r,ht,hz⟩:=I.list hx
 have hlen:=r.length
 refine⟨"list",_,slot_list_getitem.lookup,ht.isList.typeIs,?_⟩
 refine wpAny_getItem_list_slice ht.isList hs pl pu .none (by simp) ?_ (by rw[List.size_toArray] <;> omega)
 rw[CF,←hlen]
 refine⟨.ref s.heap.objs.size,_,I.laid (t':=s.toks) (o:=.lst (IT xs lo hi)) (λb ob q=>Heap.get?_push_of_some _ q) (Nat.le_refl _) ?_,rfl,q _ (I.hok.fresh (Nat.le_refl _))⟩
 exact⟨Nat.le_trans (F3 xs lo hi) hz,_,0,(r.drop (HT.pB xs.length 0 lo)).take (HT.pB xs.length xs.length hi - HT.pB xs.length 0 lo),Heap.get?_push_size _ rfl⟩
def iJ:V->Bool
 | .aR=>true
 | .bl _=>true
 | .int _=>true
 | .str _=>true
 | _=>false
def nK:V->V->Bool
 | .aR,.aR=>true
 | .bl a,.bl b=>a == b
 | .bl a,.int b=>(if a then 1 else 0) == b
 | .int a,.bl b=>a == (if b then 1 else 0)
 | .int a,.int b=>a == b
 | .str a,.str b=>a == b
 | _,_=>false
theorem RZ {A:Around}{s:Shared}{y x:V}{u v:Value}(ry:RelV y u)(rx:RelV x v)(fy:iJ y=true)(fx:iJ x=true):SeqAt.EqAt A s u v (nK y x):=by
 cases y with
 | aR=>
  cases ry
  cases x with
  | aR=>cases rx; exact SeqAt.EqAt.same _
  | bl b=>cases rx; exact SeqAt.EqAt.none_bool b
  | int b=>obtain⟨t,rfl⟩:=rx; exact SeqAt.EqAt.none_int b t
  | str b=>obtain⟨t,rfl⟩:=rx; exact SeqAt.EqAt.none_str b t
  | _=>exact absurd (show false=true from fx) Bool.false_ne_true
 | bl a=>
  cases ry
  cases x with
  | aR=>cases rx; exact SeqAt.EqAt.bool_none a
  | bl b=>cases rx; exact SeqAt.EqAt.bool_bool a b
  | int b=>obtain⟨t,rfl⟩:=rx; exact SeqAt.EqAt.bool_int a b t
  | str b=>obtain⟨t,rfl⟩:=rx; exact SeqAt.EqAt.bool_str a b t
  | _=>exact absurd (show false=true from fx) Bool.false_ne_true
 | int a=>
  obtain⟨t',rfl⟩:=ry
  cases x with
  | aR=>cases rx; exact SeqAt.EqAt.int_none a t'
  | bl b=>cases rx; exact SeqAt.EqAt.int_bool a t' b
  | int b=>obtain⟨t,rfl⟩:=rx; exact SeqAt.EqAt.int_int a t' b t
  | str b=>obtain⟨t,rfl⟩:=rx; exact SeqAt.EqAt.int_str a t' b t
  | _=>exact absurd (show false=true from fx) Bool.false_ne_true
 | str a=>
  obtain⟨t',rfl⟩:=ry
  cases x with
  | aR=>cases rx; exact SeqAt.EqAt.str_none a t'
  | bl b=>cases rx; exact SeqAt.EqAt.str_bool a t' b
  | int b=>obtain⟨t,rfl⟩:=rx; exact SeqAt.EqAt.str_int a t' b t
  | str b=>obtain⟨t,rfl⟩:=rx; exact SeqAt.EqAt.str_str a t' b t
  | _=>exact absurd (show false=true from fx) Bool.false_ne_true
 | _=>exact absurd (show false=true from fy) Bool.false_ne_true
def GU (x:V)(u:Value):Bool:=match u with
 | .none=>nK .aR x
 | .bool b=>nK (.bl b) x
 | .int i _=>nK (.int i) x
 | .str z _=>nK (.str z) x
 | _=>false
theorem DZ {x y:V}{u:Value}(r:RelV y u)(f:iJ y=true):GU x u=nK y x:=by
 cases y with
 | aR=>cases r; rfl
 | bl b=>cases r; rfl
 | int i=>obtain⟨t,rfl⟩:=r; rfl
 | str z=>obtain⟨t,rfl⟩:=r; rfl
 | _=>exact absurd (show false=true from f) Bool.false_ne_true
theorem yv {A:Around}{s:Shared}{x:V}{v:Value}(rx:RelV x v)(fx:iJ x=true):∀{xs:List V} {us:List Value},Vals xs us->xs.all iJ=true->∀u∈us,SeqAt.EqAt A s u v (GU x u)
 | _,_,.nil,_=>λu hu=>by cases hu
 | y::xs,u::us,.cons r t,f=>λu' hu=>by
  rw[List.all_cons,Bool.and_eq_true] at f
  rcases List.mem_cons.mp hu with rfl | hu
  ·rw[DZ r f.1]; exact RZ r rx f.1 fx
  ·exact yv rx fx t f.2 u' hu
theorem D0:dJ X (.type "list") (λxs H Q=>∃p ys,xs=[.ref p]/\(aE X.K H p ys\/aK X.K H p ys)/\∀l,H l=none->Q (.ref l) (upd H l (.lst ys))):=by
 intro pins s σ H xs us Q I r h
 obtain⟨p,ys,rfl,hq,q⟩:=h
 obtain⟨u,rfl,rx⟩:=vals1 r
 cases rx
 have fin:∀(its:List Value),Vals ys its->ys.length<=sizeLine->∀(h':Heap) (c':Nat),(∀b o',s.heap.get? b=some o'->h'.get? b=some o')->
   h'.get? s.heap.objs.size=some { cls:=.type "list",dict:=none,data:=.seq its.toArray c',slots:=#[] }->EP X pins σ Q (.ref s.heap.objs.size) { s with heap:=h' }:=λits r' hz h' c' kp e=>
  ⟨.ref s.heap.objs.size,_,I.laid (t':=s.toks) kp (Nat.le_refl _) (show bE X.prog X.w _ h' _ (.lst ys) from ⟨hz,its,c',r',e⟩),rfl,q _ (I.hok.fresh (Nat.le_refl _))⟩
 rcases hq with hq | hq
 ·obtain⟨its,r',pl,hz⟩:=I.list hq
  have hlen:=r'.length
  obtain⟨o,ho,hc,n,hd⟩:=pl.isList
  exact call_list_seq p (.inl rfl) ho hc hd (λh' c' kp e=>fin its r' hz h' c' kp e) (by simp only [List.size_toArray] <;> omega)
 ·obtain⟨its,r',pl,hz⟩:=I.tuple hq
  have hlen:=r'.length
  obtain⟨o,ho,hc,n,hd⟩:=pl
  exact call_list_seq p (.inr rfl) ho hc hd (λh' c' kp e=>fin its r' hz h' c' kp e) (by simp only [List.size_toArray] <;> omega)
theorem CG:dJ X (.type "tuple") (λxs H Q=>∃p ys,xs=[.ref p]/\((aE X.K H p ys/\∀l,H l=none->Q (.ref l) (upd H l (.tup ys)))\/(aK X.K H p ys/\Q (.ref p) H))):=by
 intro pins s σ H xs us Q I r h
 obtain⟨p,ys,rfl,h⟩:=h
 obtain⟨u,rfl,rx⟩:=vals1 r
 cases rx
 rcases h with ⟨hq,q⟩ | ⟨hq,q⟩
 ·obtain⟨its,r',pl,hz⟩:=I.list hq
  have hlen:=r'.length
  refine call_tuple_list pl.isList (λh' kp=>?_) (by simp only [List.size_toArray] <;> omega)
  have I1:Inv X pins σ H { s with heap:=h' }:=I.kept (t':=s.toks) kp
  have I2:Inv X pins σ (upd H h'.objs.size (.tup ys)) { s with heap:=h'.push { cls:=.type "tuple",data:=.seq its.toArray } }:=
   I1.laid (t':=s.toks) (λb o e=>Heap.get?_push_of_some _ e) (Nat.le_refl _) (show bE X.prog X.w _ _ _ (.tup ys) from ⟨hz,its,r',IsTup.new _ _⟩)
  exact⟨.ref h'.objs.size,_,I2,rfl,q _ (I1.hok.fresh (Nat.le_refl _))⟩
 ·obtain⟨its,r',pl,hz⟩:=I.tuple hq
  exact call_tuple_same pl ⟨.ref p,H,I,rfl,q⟩
def VH (K:PySem.W.Frag)(T:String)(x:V)(H:Hp):Prop:=match x with
 | .str _=>T="str"
 | .int _=>T="int"
 | .ref p=>(T="list"/\∃xs,aE K H p xs)\/(T="tuple"/\∃o,K.lookup p=some o/\o.cls=.type "tuple"/\o.dict=none)\/
   (T="dict"/\((∃kvs,H p=some (.dK kvs))\/∃kvs,H p=some (.dT kvs)))\/(T="set"/\∃S n,H p=some (.set S n))
 | _=>False
theorem R3 {pins:List (Addr × Obj)}{σ:St}{H:Hp}{s:Shared}{T:String}{x:V}{v:Value}(I:Inv X pins σ H s)(r:RelV x v)(ty:VH X.K T x H) :
  s.TypeIs v T/\∀a,v=.ref a->∃ob,s.heap.get? a=some ob/\ob.dict=none:=by
 cases x with
 | str z=>
  obtain⟨t,rfl⟩:=r
  cases (show T="str" from ty)
  exact⟨typeIs_str s z t,λ_ e=>nomatch e⟩
 | int i=>
  obtain⟨t,rfl⟩:=r
  cases (show T="int" from ty)
  exact⟨typeIs_int s i t,λ_ e=>nomatch e⟩
 | ref p=>
  cases r
  rcases ty with ⟨rfl,xs,hq⟩ | ⟨rfl,o,hk,hc,hd⟩ | ⟨rfl,hk⟩ | ⟨rfl,S,n,hk⟩
  ·obtain⟨its,_,pl,_⟩:=I.list hq
   refine⟨pl.isList.typeIs,λa e=>?_⟩
   cases e
   obtain⟨o,n,e,c,hd,_⟩:=pl
   exact⟨o,e,hd⟩
  ·refine⟨⟨o,I.gR p o hk,hc⟩,λa e=>?_⟩
   cases e
   exact⟨o,I.gR _ o hk,hd⟩
  ·have z:∃o,s.heap.get? p=some o/\o.ExactDict:=by
    rcases hk with ⟨kvs,hk⟩ | ⟨kvs,hk⟩
    ·obtain⟨_,_,_,_,o,_,_,e,ex,_⟩:=I.hok p _ hk
     exact⟨o,e,ex⟩
    ·obtain⟨_,_,_,_,o,_,_,e,ex,_⟩:=I.hok p _ hk
     exact⟨o,e,ex⟩
   obtain⟨o,e,ex⟩:=z
   refine⟨⟨o,e,ex.1⟩,λa e2=>?_⟩
   cases e2
   exact⟨o,e,ex.2.1⟩
  ·obtain⟨o,_,_,_,e,ex,_⟩:=I.hok p _ hk
   refine⟨⟨o,e,ex.1⟩,λa e2=>?_⟩
   cases e2
   exact⟨o,e,ex.2.1⟩
 | _=>exact False.elim ty
def Kg (K:PySem.W.Frag)(T:String)(r:V->List V->Hp->VK->Prop)(to:TE)(t:TA):TE:=fun σ H Q=>to σ H λx H1=>VH K T x H1/\t σ H1 λxs H2=>r x xs H2 Q
variable {o e:Expr}{es:List Expr}{to:TE}{t:TA}{name:Str}{apos cpos:Pos}{T id:String}{r:V->List V->Hp->VK->Prop}
theorem U6 (pa:PlainAttrs T)(slot:Slot T name id)(hty:typeOf (.builtin id)=pure (.type "method_descriptor"))(hm:zu X id r)(ho:PE X o to)(ha:PA X (e::es) t)
  (hbase:attributeBase o name X.env (eval o X.env)=eval o X.env:=by rfl)
  (hfew:((backTo cpos (starEach (e::es) X.env)).all (λx=>!x.1)&&(backToKw cpos (keywordEach [] X.env)).all (λx=>x.1.isSome)
   &&decide ((e::es).length+([]:List Keyword).length+(if ([]:List Keyword).isEmpty then 0 else 1) < 30))=true:=by rfl)
  (hline:(apos.endLine == cpos.line)=true:=by rfl) (hs:starEach (e::es) X.env=(false,eval e X.env)::starEach es X.env:=by rfl) (hplain:(backTo cpos (starEach es X.env)).any (·.1)=false:=by rfl) :
  PE X (.Call (.Attribute o name apos) (e::es) [] cpos) (Kg X.K T r to t):=by
 intro pins s σ H Q I h
 refine wpAny_Call_method_late hbase hfew hline rfl (aN (ho pins s σ H _ I h) λv s1 ⟨x,H1,I1,r1,ty,q1⟩=>?_)
 obtain⟨h1,h2⟩:=R3 I1 r1 ty
 refine⟨T,id,pa,slot,hty,h1,h2,?_⟩
 have hA:=ha cpos pins s1 σ H1 _ I1 q1
 rw[hs] at hA ⊢
 refine Calls.callWith_builtin (by show (false||(backTo cpos (starEach es X.env)).any (·.1))=false; rw[hplain] <;> rfl) (Calls.evalArgs_plain ?_)
 exact aN hA λus s2 ⟨vs,H2,I2,r2,q2⟩=>hm pins s2 σ H2 x vs v us Q I2 r1 r2 q2
end
end L2
namespace L2
open PySem PySem.Spec PyProof.Rows
def R8 (X:Cx)(id:String)(r:V->List V->Hp->VK->Prop):Prop:=
 ∀(pins:List (Addr × Obj)) (s:Shared) (σ:St) (H:Hp) (x:V) (xs:List V) (v:Value) (us:List Value) (Q:VK),Inv X pins σ H s->RelV x v->Vals xs us->r x xs H Q->
  wpAny (model X.prog X.w) X.A (call (.builtin id) (v::us)) (EP X pins σ Q) X.xe s
theorem Vals.one:∀{x:V} {us:List Value},Vals [x] us->∃u,us=[u]/\RelV x u
 | _,_,.cons r .nil=>⟨_,rfl,r⟩
theorem Vals.eraseIdx:∀{xs:List V} {us:List Value} (i:Nat),Vals xs us->Vals (xs.eraseIdx i) (us.eraseIdx i)
 | _,_,_,.nil=>.nil
 | _,_,0,.cons _ t=>t
 | _,_,i+1,.cons r t=>.cons r (Vals.eraseIdx i t)
theorem Vals.reverse {xs:List V}{us:List Value}(h:Vals xs us):Vals xs.reverse us.reverse:=by
 induction h with
 | nil=>exact .nil
 | cons r t ih=>rw[List.reverse_cons,List.reverse_cons]; exact Vals.append ih (.cons r .nil)
theorem Vals.rep {xs:List V}{us:List Value}(h:Vals xs us):∀k:Nat,Vals (List.replicate k xs).flatten (List.replicate k us).flatten
 | 0=>.nil
 | k+1=>by
  rw[List.replicate_succ,List.replicate_succ,List.flatten_cons,List.flatten_cons]
  exact Vals.append h (Vals.rep h k)
theorem BV {α:Type}:∀(l:List α) (i:Nat),(l.eraseIdx i).length<=l.length
 | [],_=>Nat.le_refl _
 | _::_,0=>Nat.le_succ _
 | _::r,i+1=>Nat.succ_le_succ (BV r i)
theorem foldl_rep (its:List Value):∀(k:Nat) (acc:List Value),
  List.foldl (λx1 x2=>x1++x2) acc.toArray (List.replicate k its.toArray)=(acc++(List.replicate k its).flatten).toArray
 | 0,acc=>by simp
 | k+1,acc=>by
  have e:acc.toArray++its.toArray=(acc++its).toArray:=by simp
  have e2:(acc++its)++(List.replicate k its).flatten=acc++(List.replicate (k+1) its).flatten:=by
   rw[List.replicate_succ,List.flatten_cons,List.append_assoc]
  rw[←e2,←foldl_rep its k (acc++its),←e,List.replicate_succ,List.foldl_cons]
section
variable {X:Cx}{pins:List (Addr × Obj)}{σ:St}{H:Hp}{s:Shared}{l b:Addr}{xs ys zs:List V}
theorem Inv.Mz {its its':List Value}{n:Nat}{f:Array Value->Array Value}{t':Nat}(I:Inv X pins σ H s)(hH:H l=some (.lst xs))
  (e:s.heap.get? l=some { cls:=.type "list",data:=.seq its.toArray n }) (hf:f its.toArray=its'.toArray) (hv:Vals ys its') (hz:ys.length<=sizeLine) :
  Inv X pins σ (upd H l (.lst ys)) { s with heap:=s.heap.update l (Obj.mapSeq f),toks:=t' }:=by
 have q:=PySem.IsL.update e f
 rw[hf] at q
 refine I.write (x:=l) (e:=l) (by rw[hH]; exact trivial) (.inl rfl) (λb' u hb hu=>(Heap.get?_update_other s.heap (Obj.mapSeq f) (Ne.symm hb)).trans hu) ⟨_,q⟩ ?_
 exact⟨hz,its',_,hv,q⟩
theorem Inv.IV {its:List Value}{t':Nat}(I:Inv X pins σ H s)(hv:Vals ys its)(hz:ys.length<=sizeLine) :
  Inv X pins σ (upd H s.heap.objs.size (.lst ys)) { s with heap:=s.heap.push { cls:=.type "list",data:=.seq its.toArray },toks:=t' }:=
 I.laid (λ_ _ q=>Heap.get?_push_of_some _ q) (Nat.le_refl _) ⟨hz,its,0,hv,Heap.get?_push_size _ rfl⟩
theorem Inv.fresh (I:Inv X pins σ H s):H s.heap.objs.size=none:=I.hok.fresh (Nat.le_refl _)
theorem Inv.yy (I:Inv X pins σ H s)(hH:H l=some (.lst xs)):xs.length<=sizeLine/\∃(its:List Value) (n:Nat),Vals xs its/\xs.length=its.length/\s.heap.get? l=some { cls:=.type "list",data:=.seq its.toArray n }:=by
 obtain⟨z,its,n,r,e⟩:=I.hok l _ hH
 exact⟨z,its,n,r,r.length,e⟩
theorem D3 {n:Nat}(h:n<=sizeLine):Builtin.List.listTooLong n=false:=by
 unfold Builtin.List.listTooLong
 exact decide_eq_false (by omega)
end
section
variable {X:Cx}
def GV:V->List V->Hp->VK->Prop:=λx vs H Q=>∃l xs y,x=.ref l/\vs=[y]/\H l=some (.lst xs)/\xs.length < sizeLine/\Q .aR (upd H l (.lst (xs++[y])))
theorem lE:R8 X "list.append" GV:=by
 intro pins s σ H x vs v us Q I rx rv h
 obtain⟨l,xs,y,rfl,rfl,hH,hz,q⟩:=h
 cases rx
 obtain⟨u,rfl,ru⟩:=rv.one
 obtain⟨z,its,n,r,hl,e⟩:=I.yy hH
 refine call_meets F.slot_list_append ⟨_,e,rfl⟩ F.entry_list_append (F.args_list_append_2 _ _) (PySem.list_append l its.toArray n u (by rw[List.size_toArray]; omega)) ⟨e,?_⟩
 refine⟨.aR,_,I.Mz (its':=its++[u]) hH e (by simp) (r.append (.cons ru .nil)) ?_,rfl,q⟩
 rw[List.length_append,List.length_singleton]
 omega
def Qj:V->List V->Hp->VK->Prop:=λx vs H Q=>∃l b xs zs,x=.ref l/\vs=[.ref b]/\H l=some (.lst xs)/\H b=some (.lst zs)/\xs.length+zs.length<=sizeLine/\Q .aR (upd H l (.lst (xs++zs)))
theorem Kh:R8 X "list.extend" Qj:=by
 intro pins s σ H x vs v us Q I rx rv h
 obtain⟨l,b,xs,zs,rfl,rfl,hH,hB,hz,q⟩:=h
 cases rx
 obtain⟨u,rfl,ru⟩:=rv.one
 cases ru
 obtain⟨z,its,n,r,hl,e⟩:=I.yy hH
 obtain⟨z2,its2,n2,r2,hl2,e2⟩:=I.yy hB
 have hsz:its.toArray.size+its2.toArray.size<=sizeLine:=by rw[List.size_toArray,List.size_toArray]; omega
 have IW:¬ (!its.toArray.isEmpty&&Builtin.List.listTooLong (its.toArray.size+its2.toArray.size))=true:=by
  rw[D3 hsz,Bool.and_false]
  exact Bool.false_ne_true
 refine call_meets F.slot_list_extend ⟨_,e,rfl⟩ F.entry_list_extend (F.args_list_extend_2 _ _)
  (AutoSeq1.list_extend_list_list_0 l its.toArray n b its2.toArray n2 IW (by rw[List.size_toArray]; omega) (by omega)) ⟨e,e2,?_⟩
 refine⟨.aR,_,I.Mz (its':=its++its2) hH e (by simp) (r.append r2) ?_,rfl,q⟩
 rw[List.length_append]
 omega
def R_:V->List V->Hp->VK->Prop:=λx vs H Q=>∃l xs i k y,x=.ref l/\vs=[.int i]/\H l=some (.lst xs)/\-(2 ^ 63)<=i/\i < 2 ^ 63/\seqIndex? i xs.length=some k/\xs[k]?=some y/\Q y (upd H l (.lst (xs.eraseIdx k)))
theorem MA:R8 X "list.pop" R_:=by
 intro pins s σ H x vs v us Q I rx rv h
 obtain⟨l,xs,i,k,y,rfl,rfl,hH,h1,h2,hk,hy,q⟩:=h
 cases rx
 obtain⟨u,rfl,ru⟩:=rv.one
 obtain⟨t,rfl⟩:=ru
 obtain⟨z,its,n,r,hl,e⟩:=I.yy hH
 obtain⟨w,hw,rw'⟩:=r.get hy
 refine call_meets F.slot_list_pop ⟨_,e,rfl⟩ F.entry_list_pop (F.args_list_pop_2 _ _)
  (MeetsSeq.list_pop_at l its.toArray n i t k w (fitsIndex_both h1 h2) (by rw[List.size_toArray,←hl]; exact hk) (by rw[←Array.getElem?_toList]; exact hw) (by rw[List.size_toArray]; omega)) ⟨e,?_⟩
 refine⟨y,_,I.Mz (its':=its.eraseIdx k) hH e ?_ (r.eraseIdx k) ?_,rw',q⟩
 ·show its.toArray.eraseIdxIfInBounds k=(its.eraseIdx k).toArray
  rw[List.eraseIdxIfInBounds_toArray]
 ·have:=BV xs k
  omega
def D5:R2:=λx y H Q=>∃l b xs zs,x=.ref l/\y=.ref b/\H l=some (.lst xs)/\H b=some (.lst zs)/\xs.length+zs.length<=sizeLine/\∀p,H p=none->Q (.ref p) (upd H p (.lst (xs++zs)))
theorem pC:eN X (binaryOp .Add) D5:=by
 intro pins s σ H x y v u Q I rx ry h
 obtain⟨l,b,xs,zs,rfl,rfl,hH,hB,hz,q⟩:=h
 cases rx
 cases ry
 obtain⟨z,its,n,r,hl,e⟩:=I.yy hH
 obtain⟨z2,its2,n2,r2,hl2,e2⟩:=I.yy hB
 refine PySem.P.add_list e e2 ?_ (by rw[List.size_toArray,List.size_toArray]; omega)
 have ea:its.toArray++its2.toArray=(its++its2).toArray:=by simp
 rw[ea]
 exact⟨.ref _,_,I.IV (t':=s.toks) (r.append r2) (by rw[List.length_append]; omega),rfl,q _ I.fresh⟩
def IX:R2:=λx y H Q=>∃l k xs,x=.ref l/\y=.int k/\H l=some (.lst xs)/\-(2 ^ 63)<=k/\k < 2 ^ 63/\xs.length * k.toNat<=sizeLine/\
 ∀p,H p=none->Q (.ref p) (upd H p (.lst (List.replicate k.toNat xs).flatten))
theorem len_rep {α:Type}(xs:List α)(k:Nat):(List.replicate k xs).flatten.length=k * xs.length:=by
 induction k with
 | zero=>simp
 | succ k ih=>rw[List.replicate_succ,List.flatten_cons,List.length_append,ih,Nat.succ_mul,Nat.add_comm]
theorem lN:eN X (binaryOp .Mult) IX:=by
 intro pins s σ H x y v u Q I rx ry h
 obtain⟨l,k,xs,rfl,rfl,hH,h1,h2,hz,q⟩:=h
 cases rx
 obtain⟨t,rfl⟩:=ry
 obtain⟨z,its,n,r,hl,e⟩:=I.yy hH
 have hlen:its.toArray.size * k.toNat<=sizeLine:=by rw[List.size_toArray,←hl]; exact hz
 have hcap:¬ its.toArray.size * k.toNat > (2 ^ 63 - 1) / 8:=by
  have:(sizeLine:Nat)<=(2 ^ 63 - 1) / 8:=by decide
  omega
 have hfit:¬ (!Builtin.List.listFitsIndex k)=true:=by
  rw[fitsIndex_both h1 h2]
  exact Bool.false_ne_true
 have IW:¬ Builtin.List.listTooLong (its.toArray.size * k.toNat)=true:=by
  rw[D3 hlen]
  exact Bool.false_ne_true
 have hnew:List.foldl (λx1 x2=>x1++x2) #[] (List.replicate (if its.toArray.isEmpty=true then 0 else k.toNat) its.toArray)=(List.replicate k.toNat its).flatten.toArray:=by
  have f0:∀m:Nat,List.foldl (λx1 x2=>x1++x2) #[] (List.replicate m its.toArray)=(List.replicate m its).flatten.toArray:=λm=>by
   have:=foldl_rep its m []
   rw[List.nil_append] at this
   exact this
  rw[f0]
  cases its with
  | nil=>simp
  | cons a r'=>rw[if_neg (by simp)]
 refine wpAny_binaryOp_repeat_ref (T:="list") (U:="int") (by decide) ⟨_,e,rfl⟩ (λs'=>typeIs_int s' k t) noFill_list_mul F.fills_int_mul F.slot_int_rmul repeat_list F.slot_int_index.lookup
  (call_meets F.slot_int_rmul (typeIs_int s k t) F.entry_int_rmul (F.args_int_rmul_2 _ _) (int___rmul___int_list k t l its.toArray n)
   ⟨e,rfl,⟨_,e,rfl⟩,call_meets F.slot_list_mul ⟨_,e,rfl⟩ F.entry_list_mul (F.args_list_mul_2 _ _) (AutoListH.list___mul___list_int_3 l its.toArray n k t hfit hcap IW) ⟨e,?_⟩⟩)
 rw[hnew]
 exact⟨.ref _,_,I.IV (t':=s.toks) (r.rep k.toNat) (by rw[len_rep,Nat.mul_comm]; exact hz),rfl,q _ I.fresh⟩
end
section
variable {prog:Program}{w:World}{A:Around}{E:Value->Shared->Prop}{s:Shared}
end
section
variable {X:Cx}
end
end L2
namespace VI
open PySem PySem.W PySem.Calls PyProof.Rows
theorem zv {P:Params}{h:Heap}:∀(ns:List Int) (vs:List Value),WellAll P h vs (ns.map WData.int)->IntsAre vs ns:=by
 intro ns
 induction ns with
 | nil=>
  intro vs w
  rw[List.map_nil] at w
  cases w
  exact .nil
 | cons n ns ih=>
  intro vs w
  rw[List.map_cons] at w
  cases w with
  | cons a b=>
   cases a
   exact .cons _ _ (ih _ b)
theorem Kl {l:OpenLaw}{n:Nat}(hn:l.most=some n){P:Params}{h:Heap}{args:List WData}{vals:List Value}
  (hpre:l.row.toRowW.claim.pre args=true) (hwl:WellAll P h vals args) :
  ∃a vs ns,vals=[Value.ref a]/\args=[WData.list (ns.map WData.int)]/\h.get? a=some { cls:=.type "list",data:=.seq vs.toArray }/\IntsAre vs ns/\ns.length<=n:=by
 have hsh:WShape.hasAll [] args [.list .int]=true:=(pre_splitW hpre).1
 have hc:l.pre.holds [] { args:=args }=true:=(pre_splitW hpre).2
 obtain⟨d,r,rfl,h1,h2⟩:=hasAllW_cons hsh
 obtain rfl:=hasAllW_nil h2
 obtain⟨xs,rfl,h3⟩:=hasW_list h1
 obtain⟨ns,rfl⟩:=items_int h3
 have hlen:ns.length<=n:=by
  unfold OpenLaw.pre at hc
  have h4:(WTm.not (.lt (.lit (.int (n:Int))) (.len (.arg 0)))).holds [] { args:=[.list (ns.map .int)] }=true:=by
   have h4:=(holds_andW hc).1
   rw[hn] at h4
   exact h4
  have h5:=condW_of h4 (w_not (w_lt w_lit (w_len_list (w_arg rfl))))
  rw[List.length_map] at h5
  refine Nat.le_of_not_lt λq=>?_
  have q':(n:Int) < ((ns.length:Nat):Int):=by omega
  first
   | (rw[decide_eq_true q'] at h5; exact absurd h5 (by decide))
   | (simp at h5; omega)
 cases hwl with
 | cons w1 w2=>
  cases w2
  cases w1 with
  | list ho hall=>exact⟨_,_,ns,rfl,rfl,ho,zv ns _ hall,hlen⟩
theorem Km (l:OpenLaw)(args:List WData):l.row.toRowW.claim.post args (.bool true) args=true:=
 postW_of (r:=l.row.toRowW) (X:=(true == true))
  (show WShape.has [] (.bool true) .bool=true by first | rfl | decide | simp [WShape.has,WShape.arms,WShape.armsAll])
  (show (WTm.eq .res (.lit (.bool true))).value [] { args:=args,res:=some (.bool true),after:=args }=some (.bool (true == true)) from w_eq_bool (w_res rfl) w_lit) rfl
theorem F5 {l:OpenLaw}{n:Nat}{q:Program}{loose:List Str}{XP:(Str->Option Value)->Heap->Prop}{YP:World->Heap->Prop}{d:DefRec}
  (hn:l.most=some n) (hdf:d.params.defaults=[])
  (call:∀(w:World) (s₀ s₁:Shared) (mg mb:Str->Option Value) (fa:Addr) (o:Obj) (pm cd doc:Value) (a:Addr) (vs:List Value) (ns:List Int),
   Ground q loose [] XP w s₀ mg mb s₁.heap->YP w s₁.heap->
   s₁.heap.get? fa=some o->o.data=.func (docDef d.name d.params d.body d.scope pm cd doc)->s₁.heap.CodeRec cd d.name->mg d.name=some (.ref fa)->
   s₁.heap.get? a=some { cls:=.type "list",data:=.seq vs.toArray }->IntsAre vs ns->ns.length<=n->s₁.gens=#[]->
   codeAny (model l.prog w) callerA (.call (.ref fa) ⟨[.ref a],[]⟩) (λr s'=>r=.ok (.ret (.bool true))/\OldK s₁.heap s'.heap/\s'.os=s₁.os/\AllBare s'.gens) s₁) :
  WalkO q loose XP YP l.row.toRowW d [] (λf vs=>PySem.call f vs):=by
 intro w s₀ s₁ mg mb G Y fa o pm cd doc dV kV ho hd hcd hD hmg hg args vals as hpre hlay hrd hwl hlo
 obtain rfl:dV=.none:=Dflts.none hD hdf
 obtain rfl:kV=.none:=Dflts.noKw hD
 obtain⟨a,vs,ns,rfl,rfl,hobj,hints,hlen⟩:=Kl hn hpre hwl
 refine enter_call (codeAny_mono (call w s₀ s₁ mg mb fa o pm cd doc a vs ns G Y ho (fd_plain hd) hcd hmg hobj hints hlen hg) λr s' hq=>?_)
 obtain⟨rfl,h2,h3,h4⟩:=hq
 exact⟨.inl ⟨.bool true,.bool true,[],rfl,λ_=>rfl,.bool true,Km l _,λ_=>⟨List.Pairwise.nil,λ_ hm=>(nomatch hm)⟩⟩,h2,h3,h4⟩
section
variable {prog:Program}{w:World}{A:Around}{E:Value->Shared->Prop}{s:Shared}{K:Frag}
end
end VI
namespace L2
open PySem PySem.Spec PyProof.Rows
theorem vC:∀{vs:List Value} {ns:List Int},IntsAre vs ns->Vals (ns.map V.int) vs
 | _,_,.nil=>.nil
 | _,_,.cons n t h=>.cons ⟨t,rfl⟩ (vC h)
def MB (H:Hp):Prop:=∀b,H b=none\/∃o xs,H b=some (.mG o (.lst xs))
theorem MC {P:Program}{w:World}{K:PySem.W.Frag}{mg mb:Str->Option Value}{CX:qC}{k:Nat}{fa a:Addr}{fd:FuncData}{x:Str}{sp:Sp}{s₁:Shared}{vs:List Value}{ns:List Int}
  (KX:K.In s₁.heap) (hns:s₁.heap.Ns mainGlobals mg) (hb:s₁.heap.Ns builtinsNs mb) (hbb:∀x:Str,x≠"__name__"->mb x=bootBuiltins x) (hlim:s₁.heap.NoLimit) (hg:s₁.gens=#[])
  (ha:s₁.heap.get? a=some { cls:=.type "list",data:=.seq vs.toArray }) (hi:IntsAre vs ns) (hl:ns.length<=sizeLine) (hr:cU k callerA)
  (F:∀base:Heap,K.In base->base.Ns mainGlobals mg->aA P w K mg base CX k fa fd [x] sp) (hbind:∀(s:Shared) (u:Value),BindsTo s fd ⟨[u],[]⟩ [(x,u)])
  (hsp:∀H:Hp,MB H->aE K H a (ns.map V.int)->sp [.ref a] H (λv _=>v=.bl true) λ_ _ _=>False)
  (hCX:∀H e s',CX [] H s₁ (λ_ _ _=>False) e s'->False) :
  codeAny (model P w) callerA (.call (.ref fa) ⟨[.ref a],[]⟩) (λr s'=>r=.ok (.ret (.bool true))/\OldK s₁.heap s'.heap/\s'.os=s₁.os/\AllBare s'.gens) s₁:=by
 have rv:=vC hi
 have Xj:=hi.length
 have core:∀H:Hp,MB H->aE K H a (ns.map V.int)->fO P w H s₁.heap->(∀b,H b≠none->b=a)->(H a≠none->K.lookup a=none)->
   codeAny (model P w) callerA (.call (.ref fa) ⟨[.ref a],[]⟩) (λr s'=>r=.ok (.ret (.bool true))/\OldK s₁.heap s'.heap/\s'.os=s₁.os/\AllBare s'.gens) s₁:=by
  intro H hO hS hok hA hK
  have GW:∀{b:Addr} {o:Obj},s₁.heap.get? b=some o->H b=none->(tG s₁.heap H).get? b=some o:=λe n=>Mg e n
  have noA:∀{b:Addr} {o:Obj} {es:Array DictEntry} {ep:Nat},s₁.heap.get? b=some o->o.data=.dict es ep->H b=none:=λ{b o es ep} e d=>by
   cases q:H b with
   | none=>rfl
   | some u=>
    have e':b=a:=hA b (by rw[q]; simp)
    subst e'
    rw[ha] at e; cases e
    have d':Data.seq vs.toArray _=Data.dict es ep:=d
    cases d'
  have nsK:∀{b:Addr} {m:Str->Option Value},s₁.heap.Ns b m->(tG s₁.heap H).Ns b m:=λ{b m} ⟨o,es,ep,e,d,r⟩=>⟨o,es,ep,GW e (noA e d),d,r⟩
  have VJ:K.In (tG s₁.heap H):=λb o e=>GW (KX b o e) (by
   cases q:H b with
   | none=>rfl
   | some u=>
    have e':b=a:=hA b (by rw[q]; simp)
    subst e'
    rw[hK (by rw[q]; simp)] at e; cases e)
  have hM:Mod K mg (tG s₁.heap H):=⟨VJ,nsK hns,⟨mb,nsK hb,hbb⟩,let ⟨mc,h1,h2⟩:=hlim; ⟨mc,nsK h1,h2⟩⟩
  have e0:yu P w K mg (tG s₁.heap H) callerA [] s₁ H:=⟨rfl,hM,λb o e=>P5 e,Nat.le_of_eq (JX _ _),trivial,λb hb=>absurd (show b∈([]:List Addr) from hb) (by simp),hok,.of_eq hg⟩
  refine codeAny_mono ((F _ VJ (nsK hns)).run callerA [] s₁ H ⟨[.ref a],[]⟩ [.ref a] [.ref a] _ _ hr e0 (hbind s₁ (.ref a)) (.cons rfl .nil) (hsp H hO hS)) λr s' h=>?_
  cases r with
  | error e=>exact (hCX H e s' h).elim
  | ok fl=>
   cases fl with
   | next=>exact False.elim h
   | brk=>exact False.elim h
   | cont=>exact False.elim h
   | ret u=>
    obtain⟨v,H',os,bare,un,D6,r',q⟩:=h
    have q':v=.bl true:=q
    subst q'
    obtain rfl:u=Value.bool true:=r'
    refine⟨rfl,OldK.of_keep λb o e=>?_,os,bare⟩
    cases q:H b with
    | none=>exact un.keep b o e q (by intro z; exact absurd (show b∈([]:List Addr) from z) (by simp)) (by simp)
    | some u=>
     rcases hO b with z | ⟨ob,xs,z⟩
     ·rw[q] at z; cases z
     ·have z2:=un.jr b ob _ z
      obtain⟨e1,_⟩:=hok b _ z
      obtain⟨e2,_⟩:=D6 b _ z2
      rw[e] at e1; cases e1
      exact e2
 cases hk:K.lookup a with
 | some o=>
  have e:=KX a o hk
  rw[ha] at e
  cases e
  refine core (λ_=>none) (λ_=>.inl rfl) (.inr ⟨_,vs.toArray,_,hk,rfl,rfl,rfl,by rw[List.size_toArray,Xj]; exact hl,by simpa using rv⟩) (λb u z=>by have z':(none:Option HO)=some u:=z; cases z') (λb z=>absurd rfl z) λz=>absurd rfl z
 | none=>
  refine core (λb=>if b=a then some (.mG { cls:=.type "list",data:=.seq vs.toArray } (.lst (ns.map V.int))) else none) (λb=>?_) (.inl (.inr ⟨{ cls:=.type "list",data:=.seq vs.toArray },if_pos rfl⟩)) (λb u z=>?_) (λb z=>?_) λ_=>hk
  ·by_cases hb:b=a
   ·exact .inr ⟨_,_,if_pos hb⟩
   ·exact .inl (if_neg hb)
  ·by_cases hb:b=a
   ·have z':=(if_pos hb).symm.trans z
    cases z'
    subst hb
    exact⟨ha,by rw[List.length_map]; exact hl,vs,_,rv,ha⟩
   ·have z':=(if_neg hb).symm.trans z
    cases z'
  ·by_cases hb:b=a
   ·exact hb
   ·exact absurd (if_neg hb) z
end L2
namespace L2
open PySem PySem.Spec PyProof.Rows
theorem Qk {l:PySem.W.OpenLaw}{n k:Nat}{q:Program}{loose:List Str}{XP:(Str->Option Value)->Heap->Prop}{YP:World->Heap->Prop}{d:DefRec}{K:Params->PySem.W.Frag}{CX:World->qC}{sp:World->Sp}{x:Str}
  (hn:l.most=some n) (hn2:n<=sizeLine) (hdf:d.params.defaults=[]) (hr:cU k callerA)
  (hY:∀(w:World) (h:Heap),YP w h->(K w.params).In h)
  (F:∀(w:World) (mg:Str->Option Value) (fa:Addr) (h:Heap),(K w.params).In h->h.Ns mainGlobals mg->mg d.name=some (.ref fa)->
   ∃fd:FuncData,(∀(s:Shared) (u:Value),BindsTo s fd ⟨[u],[]⟩ [(x,u)])/\
    ∀base:Heap,(K w.params).In base->base.Ns mainGlobals mg->aA l.prog w (K w.params) mg base (CX w) k fa fd [x] (sp w))
  (hsp:∀(w:World) (H:Hp) (a:Addr) (ns:List Int),ns.length<=n->MB H->aE (K w.params) H a (ns.map V.int)->sp w [.ref a] H (λv _=>v=.bl true) λ_ _ _=>False)
  (hCX:∀(w:World) (H:Hp) (s:Shared) (e:Value) (s':Shared),CX w [] H s (λ_ _ _=>False) e s'->False) :
  PySem.W.WalkO q loose XP YP l.row.toRowW d [] (λf vs=>PySem.call f vs):=by
 refine VI.F5 hn hdf λw s₀ s₁ mg mb fa o pm cd doc a vs ns G Y ho hd hcd hmg hobj hints hlen hg=>?_
 have KX:=hY w _ Y
 obtain⟨fd,hb,hF⟩:=F w mg fa _ KX G.T.g hmg
 exact MC KX G.T.g G.T.b G.T.builtins G.T.nolimit hg hobj hints (Nat.le_trans hlen hn2) hr hF hb (λH hO hS=>hsp w H a ns hlen hO hS) λH e s'=>hCX w H s₁ e s'
end L2
namespace L2
open PySem PySem.Spec PyProof.Rows
def inClass (s:Stmt)(j:Nat):Stmt:=match s with
 | .ClassDef _ _ _ body _ _ _ _ _ _ _=>body.getD j (.Pass ⟨0,0,0,0⟩)
 | _=>.Pass ⟨0,0,0,0⟩
def gw (s:Stmt):Arguments:=match s with
 | .FunctionDef _ a _ _ _ _ _ _ _ _=>a
 | _=>{ posonlyargs:=[],args:=[],vararg:=none,kwonlyargs:=[],kw_defaults:=[],kwarg:=none,defaults:=[] }
def ff (s:Stmt):List Stmt:=match s with
 | .FunctionDef _ _ b _ _ _ _ _ _ _=>b
 | _=>[]
def aC (s:Stmt):Scope:=match s with
 | .FunctionDef _ _ _ _ _ _ sc _ _ _=>sc
 | _=>{ kind:=.function,names:=[],isGenerator:=false,isCoroutine:=false }
abbrev aZ:qC:=λ_ _ _ _ _ _=>False
abbrev E0:XK:=λ_ _ _=>False
theorem aQ {X:Cx}:Passes aZ X E0:=λ_ _ _ _ _ _ _ h=>h.elim
structure nL (K:PySem.W.Frag)(x qual:Str)(st:Stmt)(f:Addr)(fd:FuncData):Prop where
 ex:∃(oc:Value) (od:Option Addr) (kV doc pm:Value) (an:Option Addr) (cdv ct:Value) (osl:Array (Option Value)),
  fd=PySem.W.fnOf x qual (gw st) (ff st) (aC st) .none kV doc pm an cdv ct/\K.lookup f=some ⟨oc,od,.func fd,osl⟩/\PySem.W.codeIn K cdv qual=true
 kp:PySem.W.keepIn K (.ref f)=true
section
variable {P:Program}{w:World}{K:PySem.W.Frag}{mg:Str->Option Value}{base:Heap}
theorem nL.ok {x qual:Str}{st:Stmt}{f:Addr}{fd:FuncData}{N ps:List Str}{k:Nat}{sp:Sp}(F:nL K x qual st f fd)(S:aI N ps (aC st))(len:∀vs H Q E,sp vs H Q E->vs.length=ps.length)
  (hbody:∀(cdv:Value) (A:Around) (outer:List Env) (s:Shared) (H:Hp) (vs:List V) (Q:VK) (E:XK),cU k (A.deeper (envOfC qual (aC st) s.heap.objs.size f cdv))->sp vs H Q E->
   ∃t,nG (vB aZ P w K mg base N qual (aC st) f cdv A outer s H E).Ou (ff st) t/\t { nx:=λ_ H'=>Q .aR H',rt:=Q } (start N vs) H):aA P w K mg base aZ (k+1) f fd ps sp:=by
 obtain⟨oc,od,kV,doc,pm,an,cdv,ct,osl,rfl,lk,hcd⟩:=F.ex
 refine OA lk hcd S len λA outer s H vs Q E hr hsp=>?_
 obtain⟨t,h,q⟩:=hbody cdv A outer s H vs Q E hr hsp
 exact⟨t,h.Ou,q⟩
theorem nL.binds {x qual:Str}{st:Stmt}{f:Addr}{fd:FuncData}{ps:List Str}(F:nL K x qual st f fd)
  (h:∀(kV doc pm:Value) (an:Option Addr) (cdv ct:Value) (us:List Value),us.length=ps.length->bindArgs (PySem.W.fnOf x qual (gw st) (ff st) (aC st) .none kV doc pm an cdv ct) ⟨us,[]⟩=pure (ps.zip us)):Binds K fd ps []:=by
 obtain⟨oc,od,kV,doc,pm,an,cdv,ct,osl,rfl,lk,hcd⟩:=F.ex
 exact .all (h kV doc pm an cdv ct)
theorem Sa {x qual:Str}{st:Stmt}{f:Addr}{oc:Value}{od an:Option Addr}{osl:Array (Option Value)}{kV doc pm cdv ct:Value}(l:K.lookup f=some ⟨oc,od,.func (PySem.W.fnOf x qual (gw st) (ff st) (aC st) .none kV doc pm an cdv ct),osl⟩)
  (c:PySem.W.codeIn K cdv qual=true) (k:PySem.W.keepIn K (.ref f)=true):nL K x qual st f (PySem.W.fnOf x qual (gw st) (ff st) (aC st) .none kV doc pm an cdv ct):=⟨⟨oc,od,kV,doc,pm,an,cdv,ct,osl,rfl,l,c⟩,k⟩
end
theorem Dg {A:Around}{k:Nat}(hr:cU k A):A.units+1 < cLine:=Nat.lt_of_le_of_lt (Nat.add_le_add_left (by decide:1<=64) _) hr.units
theorem Kn {n:Nat}(h:n<=1000):n < sizeLine:=Nat.lt_of_le_of_lt h (by decide)
section
variable {X:Cx}
theorem pv (i:Nat){x:Str}{pos:Pos}(hN:X.N[i]?=some x:=by rfl)(hv:Oj X.env.scope x:=by first | exact Or.inl rfl | exact Or.inr (Or.inl rfl) | exact Or.inr (Or.inr rfl))(hd:(x == ("__debug__":Str))=false:=by decide)
  (hcd:(x == ("__classdict__":Str))=false:=by decide):PE X (.Name x pos) (eG i):=Rt hN hv hd hcd
end
def ah (H H':Hp):Prop:=∀b o,H b=some o->H' b=some o
theorem ah.refl (H:Hp):ah H H:=λ_ _ h=>h
theorem ah.trans {H H1 H2:Hp}(a:ah H H1)(b:ah H1 H2):ah H H2:=λc o h=>b c o (a c o h)
theorem ah.free {H H':Hp}(e:ah H H'){l:Addr}(h:H' l=Option.none):H l=Option.none:=by
 cases q:H l with
 | none=>rfl
 | some o=>
  rw[e l o q] at h
  cases h
theorem ah.seq {K:PySem.W.Frag}{H H':Hp}{a:Addr}{xs:List V}(e:ah H H')(h:aE K H a xs):aE K H' a xs:=by
 rcases h with (h | ⟨o,h⟩) | h
 ·exact .inl (.inl (e _ _ h))
 ·exact .inl (.inr ⟨o,e _ _ h⟩)
 ·exact .inr h
end L2
namespace TB
open PySem PySem.Spec PySem.W PyProof.Rows
section
variable {prog:Program}{w:World}{A:Around}{E:Value->Shared->Prop}{s:Shared}
theorem zw {k:Int}{v:Value}(h:(intKind prog w).is k v=true):∃t,v=.int k t:=Value.isInt_shape (k:=k) (v:=v) h
theorem Ko {fl fin:Bool}{Q:Bool->Shared->Prop}:∀{x y:List Int} {xs ys:List Value} (i:Nat),ItemsAre (intKind prog w) x xs->ItemsAre (intKind prog w) y ys->fin=decide (xs.length < ys.length)->Q (HT.lexLt x y) s->KatLex prog w A fl fin Q (xs.zip ys) i s
 | [],[],_,_,i,.nil,.nil,hf,h=>by
  subst hf
  exact kat_nil h
 | [],_::_,_,_,i,.nil,.cons _ _,hf,h=>by
  subst hf
  refine kat_nil ?_
  rw[HT.rT] at h
  simpa using h
 | _::_,[],_,_,i,.cons _ _,.nil,hf,h=>by
  subst hf
  refine kat_nil ?_
  rw[HT.rV] at h
  simpa using h
 | a::x,b::y,_,_,i,.cons h1 t1,.cons h2 t2,hf,h=>by
  rw[List.zip_cons_cons]
  refine kat_cons ((intKind prog w).eqBool (a:=a) (b:=b) h1 h2 ?_)
  obtain⟨t,rfl⟩:=zw h1
  obtain⟨u,rfl⟩:=zw h2
  rw[HT.jX] at h
  by_cases c:a=b
  ·rw[decide_eq_true c]
   rw[if_pos c] at h
   exact kat_yes (Ko (i+1) t1 t2 (by rw[hf]; simp) h)
  ·rw[decide_eq_false c]
   rw[if_neg c] at h
   refine kat_no ?_
   cases e:(fl&&i == 0) with
   | true=>exact oneLt_int h
   | false=>exact kat_one _ _ (lt_int h)
theorem Sb {x y:List Int}{a b:Addr}{fl:Bool}{Q:Bool->Shared->Prop}(hx:IsTupleKey (intKind prog w) s.heap x a)(hy:IsTupleKey (intKind prog w) s.heap y b)(h:Q (HT.lexLt x y) s):wpAny (model prog w) A (keyLt' (tuples' fl) (.ref a) (.ref b)) Q E s:=by
 obtain⟨o,xs,n,ho,_,hd,hi⟩:=hx
 obtain⟨o',ys,n',ho',_,hd',hi'⟩:=hy
 exact kat_lt ho hd ho' hd' (Ko 0 hi hi' (by simp) h)
theorem lex_irrefl:∀x:List Int,HT.lexLt x x=false
 | []=>rfl
 | a::x=>by rw[HT.jX,if_pos rfl,lex_irrefl x]
theorem lex_trans:∀{x y z:List Int},HT.lexLt x y=true->HT.lexLt y z=true->HT.lexLt x z=true
 | [],[],_,h,_=>by cases h
 | [],_::_,[],_,h=>by cases h
 | [],_::_,_::_,_,_=>rfl
 | _::_,[],_,h,_=>by cases h
 | _::_,_::_,[],_,h=>by cases h
 | a::x,b::y,c::z,h1,h2=>by
  rw[HT.jX] at h1 h2 ⊢
  by_cases e1:a=b
  ·rw[if_pos e1] at h1
   by_cases e2:b=c
   ·rw[if_pos e2] at h2
    rw[if_pos (e1.trans e2)]
    exact lex_trans h1 h2
   ·rw[if_neg e2] at h2
    rw[if_neg (by rw[e1]; exact e2),e1]
    exact h2
  ·rw[if_neg e1] at h1
   have l1:a < b:=by simpa using h1
   by_cases e2:b=c
   ·rw[if_neg (by rw[←e2]; exact e1),←e2]
    exact h1
   ·rw[if_neg e2] at h2
    have l2:b < c:=by simpa using h2
    rw[if_neg (by omega)]
    simpa using (show a < c by omega)
theorem vD:∀x y:List Int,x≠y->HT.lexLt x y=true\/HT.lexLt y x=true
 | [],[],h=>absurd rfl h
 | [],_::_,_=>.inl rfl
 | _::_,[],_=>.inr rfl
 | a::x,b::y,h=>by
  rw[HT.jX,HT.jX]
  by_cases e:a=b
  ·rw[if_pos e,if_pos e.symm]
   exact vD x y λz=>h (by rw[e,z])
  ·rw[if_neg e,if_neg (Ne.symm e)]
   rcases Int.lt_or_gt_of_ne e with q | q
   ·exact .inl (by simpa using q)
   ·exact .inr (by simpa using q)
def rank (ks:List (List Int))(i:Nat):Nat:=ks.countP λk=>HT.lexLt k (ks.getD i [])
theorem wZ {ks:List (List Int)}{i j:Nat}(hi:i < ks.length)(hj:j < ks.length)(h:HT.lexLt (ks.getD i []) (ks.getD j [])=true):rank ks i < rank ks j:=by
 unfold rank
 have hm:ks.getD i []∈ks:=by rw[List.getD_eq_getElem?_getD,List.getElem?_eq_getElem hi]; exact List.getElem_mem hi
 generalize ks.getD i []=a at *
 generalize ks.getD j []=b at *
 clear hi hj
 induction ks with
 | nil=>cases hm
 | cons k ks ih=>
  have mono:∀l:List (List Int),l.countP (λk=>HT.lexLt k a)<=l.countP λk=>HT.lexLt k b:=λl=>List.countP_mono_left λx _ hx=>lex_trans hx h
  rw[List.countP_cons,List.countP_cons]
  rcases List.mem_cons.mp hm with e | hm
  ·rw[←e,lex_irrefl,h]
   have:=mono ks
   simp
   omega
  ·have:=ih hm
   by_cases c:HT.lexLt k a=true
   ·rw[c,lex_trans c h]; simp; omega
   ·have c':HT.lexLt k a=false:=by simpa using c
    rw[c',if_neg (by decide)]
    omega
theorem D7 {ks:List (List Int)}(nd:ks.Nodup){i j:Nat}(hi:i < ks.length)(hj:j < ks.length):decide (rank ks i < rank ks j)=HT.lexLt (ks.getD i []) (ks.getD j []):=by
 by_cases e:i=j
 ·subst e
  rw[lex_irrefl]
  simp
 ·have ne:ks.getD i []≠ks.getD j []:=λz=>by
   rw[List.getD_eq_getElem?_getD,List.getD_eq_getElem?_getD,List.getElem?_eq_getElem hi,List.getElem?_eq_getElem hj] at z
   exact e ((List.getElem_inj nd).mp z)
  rcases vD _ _ ne with h | h
  ·rw[h]
   exact decide_eq_true (wZ hi hj h)
  ·have h2:=wZ hj hi h
   have:HT.lexLt (ks.getD i []) (ks.getD j [])=false:=by
    cases c:HT.lexLt (ks.getD i []) (ks.getD j []) with
    | false=>rfl
    | true=>
     have:=lex_trans c h
     rw[lex_irrefl] at this
     cases this
   rw[this]
   exact decide_eq_false (by omega)
theorem MD {ks:List (List Int)}(nd:ks.Nodup)(i j:Nat)(hi:i < ks.length)(hj:j < ks.length)(h:rank ks i=rank ks j):i=j:=by
 by_cases e:i=j
 ·exact e
 ·have ne:ks.getD i []≠ks.getD j []:=λz=>by
   rw[List.getD_eq_getElem?_getD,List.getD_eq_getElem?_getD,List.getElem?_eq_getElem hi,List.getElem?_eq_getElem hj] at z
   exact e ((List.getElem_inj nd).mp z)
  rcases vD _ _ ne with q | q
  ·have:=wZ hi hj q; omega
  ·have:=wZ hj hi q; omega
abbrev rf (p:Addr × List Int):Value:=.ref p.1
theorem D8:∀ps:List (Addr × List Int),(∀p∈ps,IsTupleKey (intKind prog w) s.heap p.2 p.1)->(∀p∈ps,p.2≠[])->∃fs,KatTups s.heap (ps.map rf) fs/\fs.length=ps.length/\∀v∈fs,∃k t,v=Value.int k t
 | [],_,_=>⟨[],KatTups.nil,rfl,λv hv=>by cases hv⟩
 | p::ps,ht,hn=>by
  obtain⟨fs,h1,h2,h3⟩:=D8 ps (λq hq=>ht q (List.mem_cons_of_mem _ hq)) λq hq=>hn q (List.mem_cons_of_mem _ hq)
  obtain⟨o,items,n,ho,hc,hd,hi⟩:=ht p List.mem_cons_self
  have hne:=hn p List.mem_cons_self
  obtain⟨k,r,e⟩:∃k r,p.2=k::r:=by
   cases c:p.2 with
   | nil=>exact absurd c hne
   | cons k r=>exact⟨k,r,rfl⟩
  rw[e] at hi
  obtain⟨l⟩:=items
  cases hi with
  | @cons _ v _ vs hk hr=>
   obtain⟨t,rfl⟩:=zw hk
   refine⟨.int k t::fs,KatTups.cons ho hc hd (by simp) h1,by simp [h2],λv hv=>?_⟩
   rcases List.mem_cons.mp hv with rfl | hv
   ·exact⟨k,t,rfl⟩
   ·exact h3 v hv
set_option maxHeartbeats 1000000 in
theorem CH {a:Addr}{n:Nat}{ps:List (Addr × List Int)}{P:PySem.Fin->Shared->Prop}(ho:s.heap.get? a=some (seqObj "list" (ps.map rf).toArray n))(tups:∀p∈ps,IsTupleKey (intKind prog w) s.heap p.2 p.1)(hne:∀p∈ps,p.2≠[])(nd:(ps.map (·.2)).Nodup)(h64:ps.length < 64)
  (h:∀(h':Heap) (ps':List (Addr × List Int)) (c:Nat),(∀b o,b≠a->s.heap.get? b=some o->h'.get? b=some o)->h'.get? a=some (seqObj "list" (ps'.map rf).toArray c)->ps'.Perm ps->ps'.Pairwise (λp q=>HT.lexLt p.2 q.2=true)->P (.done (.ret .none)) { s with heap:=h' }) :
  wpAny (model prog w) A (Builtin.«list.sort» ⟨[.ref a],[]⟩) P E s:=by
 have ha:a < s.heap.objs.size:=Heap.lt_size ho
 obtain⟨e1,OB⟩:∃e1,(s.heap.update a (Obj.mapSeq λ_=>(#[]:Array Value))).get? a=some (seqObj "list" #[] e1):=⟨_,get?_update_seq ho λ_=>#[]⟩
 have hz:(ps.map rf).length=ps.length:=List.length_map _
 rw[list_sort_plain]
 refine wpAny_bind (listItems_at ho rfl ?_)
 refine wpAny_bind (listUpdate_at ho rfl ?_ (by rw[List.size_toArray,hz,sizeLine_eq]; omega) (Nat.zero_le _))
 refine wpAny_bind (seqEpoch_at OB rfl ?_)
 refine wpAny_bind (wpAny_newTuple ?_ (by show (ps.map rf).length<=_; rw[hz,sizeLine_eq]; omega))
 refine wpAny_bind (wpAny_newList ?_ (Nat.zero_le _))
 refine wpAny_holding ?_
 have keep:∀b o,b≠a->s.heap.get? b=some o->(((s.heap.update a (Obj.mapSeq λ_=>(#[]:Array Value))).push (seqObj "tuple" (ps.map rf).toArray 0)).push (seqObj "list" #[] 0)).get? b=some o:=λb o hb e=>Heap.get?_push_of_some _ (Heap.get?_push_of_some _ ((Heap.get?_update_other _ _ (Ne.symm hb)).trans e))
 have ho2:(((s.heap.update a (Obj.mapSeq λ_=>(#[]:Array Value))).push (seqObj "tuple" (ps.map rf).toArray 0)).push (seqObj "list" #[] 0)).get? a=some (seqObj "list" #[] e1):=Heap.get?_push_of_some _ (Heap.get?_push_of_some _ OB)
 have oM:∀p∈ps,IsTupleKey (intKind prog w) (((s.heap.update a (Obj.mapSeq λ_=>(#[]:Array Value))).push (seqObj "tuple" (ps.map rf).toArray 0)).push (seqObj "list" #[] 0)) p.2 p.1:=λp hp=>u_ (tups p hp) λo e=>keep _ o (λz=>by
  obtain⟨o',_,_,ho',hc',_⟩:=tups p hp
  rw[z,ho] at ho'
  cases ho'
  exact absurd hc' (show ¬ (Value.type "list"=Value.type "tuple") by decide)) e
 show wpAny (model prog w) A _ P E { s with heap:=((s.heap.update a (Obj.mapSeq λ_=>(#[]:Array Value))).push (seqObj "tuple" (ps.map rf).toArray 0)).push (seqObj "list" #[] 0) }
 generalize ((s.heap.update a (Obj.mapSeq λ_=>(#[]:Array Value))).push (seqObj "tuple" (ps.map rf).toArray 0)).push (seqObj "list" #[] 0)=h3 at *
 dsimp only
 have fin:∀(out:List (Addr × List Int)),out.length=ps.length->out.Perm ps->out.Pairwise (λp q=>HT.lexLt p.2 q.2=true)->P (.done (.ret .none)) { s with heap:=h3.update a (Obj.mapSeq λ_=>(out.map rf).toArray) }:=λout _ pm pw=>by
  obtain⟨c2,hc2⟩:∃c2,(h3.update a (Obj.mapSeq λ_=>(out.map rf).toArray)).get? a=some (seqObj "list" (out.map rf).toArray c2):=⟨_,get?_update_seq ho2 λ_=>(out.map rf).toArray⟩
  exact h _ out c2 (λb o hb e=>(Heap.get?_update_other _ _ (Ne.symm hb)).trans (keep b o hb e)) hc2 pm pw
 by_cases h2:(ps.map rf).toArray.size < 2
 ·rw[if_pos h2,if_pos h2]
  refine wpAny_bind (wpAny_pure ?_)
  rw[StateT.run_pure]
  refine wpAny_bind (wpAny_pure ?_)
  dsimp only
  have arr:(arrOf (SortSt.mk' general' ((ps.map rf).toArray.zip (ps.map rf).toArray) #[] 7 none)).map (·.2)=(ps.map rf).toArray:=by
   show ((ps.map rf).toArray.zip (ps.map rf).toArray).map (·.2)=_
   apply Array.toList_inj.mp
   simp only [Array.toList_map,Array.toList_zip]
   exact List.map_snd_zip (Nat.le_refl _)
  rw[arr]
  refine wpAny_bind (seqEpoch_at ho2 rfl ?_)
  refine wpAny_bind (listUpdate_at ho2 rfl ?_ (Nat.zero_le _) (by show (ps.map rf).toArray.size<=_; omega))
  simp only [bne_self_eq_false,Bool.false_eq_true,if_false]
  refine wpAny_pure (fin ps rfl (List.Perm.refl _) ?_)
  have hl:ps.length < 2:=by simpa using h2
  match ps,hl with
  | [],_=>exact List.Pairwise.nil
  | [p],_=>exact List.pairwise_singleton _ _
 ·rw[if_neg h2,if_neg h2]
  have hl:2<=ps.length:=by simpa using h2
  obtain⟨fs,ft,fl,fi⟩:=D8 (prog:=prog) (w:=w) (s:={ s with heap:=h3 }) ps oM hne
  refine wpAny_bind (kat_kind (T:=.type "int") ft (by omega) (λv hv=>?_) (by decide) ?_)
  ·obtain⟨k,t,rfl⟩:=fi v hv
   exact Looks.now
  have cmp:∀i j (C:Bool->Shared->Prop),i < ps.length->j < ps.length->C (decide (rank (ps.map (·.2)) i < rank (ps.map (·.2)) j)) { s with heap:=h3 }->kas_ask prog w A (tuples' ((Value.type "int") != Value.type "tuple")) (ps.map rf) i j C { s with heap:=h3 }:=λi j C hi hj hC=>by
   rw[D7 nd (by simpa using hi) (by simpa using hj)] at hC
   unfold kas_ask
   have g:∀i (hi:i < ps.length),(ps.map rf).getD i Value.none=.ref ps[i].1/\(ps.map (·.2)).getD i []=ps[i].2:=λi hi=>by simp [hi]
   rw[(g i hi).1,(g j hj).1]
   rw[(g i hi).2,(g j hj).2] at hC
   exact Sb (oM _ (List.getElem_mem hi)) (oM _ (List.getElem_mem hj)) hC
  obtain⟨p,ep,psz,Y9,VL⟩:=Me (r:=rank (ps.map (·.2))) (n:=ps.length) (by omega) λi j hi hj=>MD nd i j (by simpa using hi) (by simpa using hj)
  have ask:(kas_sort (ps.map rf).length).kasWp (kas_ask prog w A (tuples' ((Value.type "int") != Value.type "tuple")) (ps.map rf)) (λq s'=>q=p/\s'={ s with heap:=h3 }) { s with heap:=h3 }:=by
   rw[hz]
   exact GF (r:=rank (ps.map (·.2))) cmp _ (P4 (by omega)) ⟨ep,rfl⟩
  refine wpAny_bind (wpAny_mono (kat_run (Q:=λst' s'=>arrOf st'=p.map (kas_item ((ps.map rf).toArray.zip (ps.map rf).toArray))/\failedOf st'=none/\s'={ s with heap:=h3 }) rfl (by omega) (by omega) (λq st' s' a1 a2 a3 a4=>⟨by rw[a2,a4.1],a3,a4.2⟩) ask) ?_ λ_ _ e=>e)
  rintro⟨⟨⟩,st'⟩ s' ⟨har,hf,rfl⟩
  dsimp only
  have hout:=kat_snds (vs:=ps.map rf) rfl har
  have Kr:∀i∈p.toList,i < ps.length:=λi hi=>by
   have:=VL.mem_iff.mp (Array.mem_toList_iff.mp hi)
   simpa using this
  have Xk:(p.toList.map λi=>(ps.map rf).getD i Value.none)=(picked ps p.toList).map rf:=(iI rf ps Value.none p.toList Kr).symm
  rw[hout,Xk]
  have pl:(picked ps p.toList).length=ps.length:=by
   have:=congrArg List.length (iI (λp=>p) ps (default:Addr × List Int) p.toList Kr)
   simpa [psz] using this
  refine wpAny_bind (seqEpoch_at (s:={ s with heap:=h3 }) ho2 rfl ?_)
  refine wpAny_bind (listUpdate_at (s:={ s with heap:=h3 }) ho2 rfl ?_ (Nat.zero_le _) (by show ((picked ps p.toList).map rf).toArray.size<=_; simp [pl,sizeLine_eq]; omega))
  rw[hf]
  simp only [bne_self_eq_false,Bool.false_eq_true,if_false]
  refine wpAny_pure (fin (picked ps p.toList) pl ?_ ?_)
  ·have e2:picked ps (List.range ps.length)=ps:=by
    have:=iI (λp=>p) ps (default:Addr × List Int) (List.range ps.length) λq hq=>List.mem_range.mp hq
    rw[List.map_id'] at this
    rw[this]
    refine List.ext_getElem (by simp) λi h1 h2=>?_
    simp [h2]
   have pm:p.toList.Perm (List.range ps.length):=by simpa using VL.toList
   have:=pm.filterMap λq:Nat=>ps[q]?
   show (picked ps p.toList).Perm ps
   rw[←e2]
   conv=>lhs; rw[e2]
   exact this
  ·have e3:=iI (λp=>p) ps (default:Addr × List Int) p.toList Kr
   rw[List.map_id'] at e3
   rw[e3,List.pairwise_map,List.pairwise_iff_getElem]
   intro i j hi hj hij
   have hi':i < p.size:=by simpa using hi
   have hj':j < p.size:=by simpa using hj
   have lt:=Y9.lt' hij (show j < ps.length by omega)
   have gi:p.getD i 0=p.toList[i]:=by simp [Array.getD,hi']
   have gj:p.getD j 0=p.toList[j]:=by simp [Array.getD,hj']
   rw[gi,gj] at lt
   have l1:=Kr _ (List.getElem_mem hi)
   have l2:=Kr _ (List.getElem_mem hj)
   have:=D7 nd (i:=p.toList[i]) (j:=p.toList[j]) (by simpa using l1) (by simpa using l2)
   rw[decide_eq_true lt] at this
   have g:∀q (hq:q < ps.length),((ps.map λp=>p).getD q (default:Addr × List Int)).2=(ps.map (·.2)).getD q []:=λq hq=>by simp [hq]
   rw[g _ l1,g _ l2]
   exact this.symm
end
end TB
namespace TB
open PySem PySem.Spec PySem.W PyProof.Rows
theorem vE {α β:Type}(f:α->β):∀{ps:List α} {l:List β},l.Perm (ps.map f)->∃qs:List α,qs.Perm ps/\l=qs.map f
 | [],l,h=>⟨[],List.Perm.refl _,by simpa using h⟩
 | p::ps,l,h=>by
  have hm:f p∈l:=h.mem_iff.mpr (by simp)
  obtain⟨a,b,rfl⟩:=List.append_of_mem hm
  have h2:(a++b).Perm (ps.map f):=by
   have:=List.perm_middle.symm.trans h
   rw[List.map_cons] at this
   exact (List.perm_cons _).mp this
  obtain⟨qs,hq,e⟩:=vE f h2
  refine⟨qs.take a.length++p::qs.drop a.length,?_,?_⟩
  ·refine List.perm_middle.trans (List.Perm.cons p ?_)
   rw[List.take_append_drop]
   exact hq
  ·rw[List.map_append,List.map_cons,List.map_take,List.map_drop,←e]
   simp
section
variable {prog:Program}{w:World}{A:Around}{E:Value->Shared->Prop}{s:Shared}
theorem gn.calm {K:Type}[DecidableEq K]{knd:KeyKind prog w K}{h:Heap}{S:Addr}{ps:List (Addr × List K)}(x:gn knd h S ps):∃o ep t,h.get? S=some o/\Calm w o (ps.map (ent knd)).toArray ep t/\(ps.map (·.2)).Nodup:=by
 obtain⟨o,ep,t,ho,hex,hd,H,hp,hm,hk⟩:=x
 refine⟨o,ep,t,ho,⟨hex,hd,?_,H.plain.rise,hp.1,hp.2⟩,hk⟩
 have h1:=H.size
 have h2:=H.room
 simp only [SetTable.fits,SetTable.fill,H.plain.Gw,Bool.and_eq_true,beq_iff_eq,decide_eq_true_eq]
 simp only [Array.length_toList,List.length_map] at h1 h2
 simp
 omega
set_option maxHeartbeats 1000000 in
theorem zx {S:Addr}{ps:List (Addr × List Int)}{Q:Value->Shared->Prop}(hh:A.handled=none)(hS:gn (intKind prog w) s.heap S ps)(tups:∀p∈ps,IsTupleKey (intKind prog w) s.heap p.2 p.1)(hne:∀p∈ps,p.2≠[])(h64:ps.length < 64)
  (h:∀(h':Heap) (tk:Nat) (l:Addr) (ps':List (Addr × List Int)) (c:Nat),(∀b o,s.heap.get? b=some o->h'.get? b=some o)->s.heap.objs.size<=l->h'.get? l=some (seqObj "list" (ps'.map rf).toArray c)->ps'.Perm ps->ps'.Pairwise (λp q=>HT.lexLt p.2 q.2=true)->Q (.ref l) { s with heap:=h',toks:=tk }) :
  wpAny (model prog w) A (call (.builtin "sorted") [.ref S]) Q E s:=by
 obtain⟨o,ep,t,ho,C,nd⟩:=hS.calm
 refine Calls.call_function_entry kind_sorted plain_sorted entry_sorted (args_sorted1 _) ?_
 unfold Builtin.«sorted»
 refine wpAny_bind (m:=checkCount "sorted" 1 1 _) (wpAny_pure ?_)
 refine wpAny_bind (F0 (by simp [hh]) ho C (by rw[sizeLine_eq]; simp; omega) λh1 tk vs keep1 hle ev=>?_)
 obtain⟨qs,hq,eq⟩:=vE (ent (intKind prog w)) (by simpa using BH w S ep (ps.map (ent (intKind prog w))).toArray)
 have Y_:vs=qs.map rf:=by
  rw[ev,eq,List.map_map]
  rfl
 subst Y_
 have ql:qs.length=ps.length:=hq.length_eq
 refine wpAny_bind (wpAny_newList ?_ (by rw[List.length_map,sizeLine_eq]; omega))
 have hL:(h1.push (seqObj "list" (qs.map rf).toArray 0)).get? h1.objs.size=some (seqObj "list" (qs.map rf).toArray 0):=Heap.get?_push_size _ rfl
 have keep2:∀b o,s.heap.get? b=some o->(h1.push (seqObj "list" (qs.map rf).toArray 0)).get? b=some o:=λb o e=>Heap.get?_push_of_some _ (keep1 b o e)
 have new1:s.heap.get? h1.objs.size=none:=by
  cases e:s.heap.get? h1.objs.size with
  | none=>rfl
  | some o'=>exact absurd (Heap.lt_size (keep1 _ _ e)) (Nat.lt_irrefl _)
 show wpAny _ _ _ _ _ { s with heap:=h1.push (seqObj "list" (qs.map rf).toArray 0),toks:=tk }
 have U7:∀p∈qs,IsTupleKey (intKind prog w) (h1.push (seqObj "list" (qs.map rf).toArray 0)) p.2 p.1:=λp hp=>u_ (tups p (hq.mem_iff.mp hp)) λo e=>keep2 _ o e
 generalize h1.push (seqObj "list" (qs.map rf).toArray 0)=h2 at *
 generalize h1.objs.size=l at *
 refine wpAny_bind (wpAny_holding (wpAny_call_entry slot_list_sort ⟨_,hL,rfl⟩ entry_list_sort ?_ (args_list_sort _)))
 refine CH (s:={ s with heap:=h2,toks:=tk }) hL U7 (λp hp=>hne p (hq.mem_iff.mp hp)) ((hq.map _).nodup_iff.mpr nd) (by omega) λh3 ps' c kp hl3 pm pw=>?_
 refine⟨_,rfl,wpAny_pure ⟨_,rfl,h h3 tk l ps' c (λb o e=>kp b o (λz=>?_) (keep2 b o e)) hle hl3 (pm.trans hq) pw⟩⟩
 rw[z] at e
 rw[new1] at e
 cases e
end
end TB
namespace L2
open PySem PySem.Spec PyProof.Rows
def eS (cells:List (Str × Addr)):List (Str × NameKind)->List (Str × Addr)->List (Str × Addr)
 | [],acc=>acc
 | (n,k)::r,acc=>if (k == NameKind.free)=true then eS cells r ((n,(cells.lookup n).getD 0)::acc) else eS cells r acc
theorem lO {cells:List (Str × Addr)}{x:Str}{c:Addr}:∀{names:List (Str × NameKind)} {acc:List (Str × Addr)},(x,c)∈eS cells names acc->(x,c)∈acc\/((x,NameKind.free)∈names/\c=(cells.lookup x).getD 0)
 | [],_,h=>.inl h
 | (n,k)::r,acc,h=>by
  unfold eS at h
  by_cases hk:(k == NameKind.free)=true
  ·rw[if_pos hk] at h
   have ek:k=NameKind.free:=by simpa using hk
   subst ek
   rcases lO h with q | ⟨q1,q2⟩
   ·rcases List.mem_cons.mp q with e | q
    ·cases e; exact .inr ⟨List.mem_cons_self,rfl⟩
    ·exact .inl q
   ·exact .inr ⟨List.mem_cons_of_mem _ q1,q2⟩
  ·rw[if_neg hk] at h
   rcases lO h with q | ⟨q1,q2⟩
   ·exact .inl q
   ·exact .inr ⟨List.mem_cons_of_mem _ q1,q2⟩
theorem oO {cells:List (Str × Addr)}{x:Str}:∀{names:List (Str × NameKind)} {acc:List (Str × Addr)},((x,NameKind.free)∈names\/(acc.lookup x).isSome=true)->((eS cells names acc).lookup x).isSome=true
 | [],_,h=>by
  rcases h with h | h
  ·exact absurd h (by simp)
  ·exact h
 | (n,k)::r,acc,h=>by
  unfold eS
  by_cases hk:(k == NameKind.free)=true
  ·rw[if_pos hk]
   refine oO ?_
   rcases h with h | h
   ·rcases List.mem_cons.mp h with e | h
    ·cases e
     exact .inr (by rw[List.lookup_cons,beq_self_eq_true]; rfl)
    ·exact .inl h
   ·refine .inr ?_
    rw[List.lookup_cons]
    cases hb:x == n with
    | true=>rfl
    | false=>exact h
  ·rw[if_neg hk]
   refine oO ?_
   rcases h with h | h
   ·rcases List.mem_cons.mp h with e | h
    ·cases e; exact absurd rfl hk
    ·exact .inl h
   ·exact .inr h
theorem tO {env:Env}(f:Str × NameKind->List (Str × Addr)->Sem (ForInStep (List (Str × Addr))))
  (hf:∀n k cs,f (n,k) cs=if (k == NameKind.free)=true then (do let a ←cellOf env n; pure (ForInStep.yield ((n,a)::cs))) else pure (ForInStep.yield cs)) :
  ∀(names:List (Str × NameKind)) (acc:List (Str × Addr)),(∀x∈names,x.2=NameKind.free->∃c,env.cells.lookup x.1=some c)->forIn names acc f=(pure (eS env.cells names acc):Sem (List (Str × Addr)))
 | [],acc,_=>by rw[List.forIn_nil]; rfl
 | (n,k)::r,acc,h=>by
  rw[List.forIn_cons,hf]
  unfold eS
  have hr:∀x∈r,x.2=NameKind.free->∃c,env.cells.lookup x.1=some c:=λx hx=>h x (List.mem_cons_of_mem _ hx)
  by_cases hk:(k == NameKind.free)=true
  ·rw[if_pos hk,if_pos hk]
   have ek:k=NameKind.free:=by simpa using hk
   obtain⟨c,hc⟩:=h (n,k) List.mem_cons_self ek
   have hc':env.cells.lookup n=some c:=hc
   have e1:cellOf env n=pure c:=by unfold cellOf; rw[hc']
   rw[e1,hc']
   exact tO f hf r _ hr
  ·rw[if_neg hk,if_neg hk]
   exact tO f hf r _ hr
theorem zy {env:Env}{scope:Scope}(h:∀x∈scope.names,x.2=NameKind.free->∃c,env.cells.lookup x.1=some c):closureFor scope env=pure (eS env.cells scope.names []):=by
 unfold closureFor
 dsimp only
 rw[tO (env:=env) _ ?_ scope.names [] h]
 ·rfl
 ·intro n k cs
  by_cases hk:(k == NameKind.free)=true
  ·simp only [hk,if_true]
  ·simp only [hk,if_false]
theorem nZ {x:Str}{c:Addr}:∀{names:List (Str × NameKind)} {n:Nat} {acc:List (Str × Addr)},(x,c)∈cellsFrom n names acc->(x,c)∈acc\/(n<=c/\(x,NameKind.cell)∈names)
 | [],_,_,h=>.inl h
 | (y,k)::r,n,acc,h=>by
  unfold cellsFrom at h
  by_cases hk:(k == NameKind.cell)=true
  ·rw[if_pos hk] at h
   have ek:k=NameKind.cell:=by simpa using hk
   subst ek
   rcases nZ h with q | ⟨q1,q2⟩
   ·rcases List.mem_cons.mp q with e | q
    ·cases e; exact .inr ⟨Nat.le_refl _,List.mem_cons_self⟩
    ·exact .inl q
   ·exact .inr ⟨Nat.le_of_succ_le q1,List.mem_cons_of_mem _ q2⟩
  ·rw[if_neg hk] at h
   rcases nZ h with q | ⟨q1,q2⟩
   ·exact .inl q
   ·exact .inr ⟨q1,List.mem_cons_of_mem _ q2⟩
theorem n5 {x y:Str}{c:Addr}:∀{names:List (Str × NameKind)} {n:Nat} {acc:List (Str × Addr)},(∀p∈acc,p.2 < n)->(x,c)∈cellsFrom n names acc->(y,c)∈cellsFrom n names acc->((x,c)∈acc/\(y,c)∈acc)\/x=y
 | [],_,_,_,h,h'=>.inl ⟨h,h'⟩
 | (z,k)::r,n,acc,hl,h,h'=>by
  unfold cellsFrom at h h'
  by_cases hk:(k == NameKind.cell)=true
  ·rw[if_pos hk] at h h'
   have hl':∀p∈(z,n)::acc,p.2 < n+1:=λp hp=>by
    rcases List.mem_cons.mp hp with e | hp
    ·subst e; exact Nat.lt_succ_self _
    ·exact Nat.lt_succ_of_lt (hl p hp)
   rcases n5 hl' h h' with ⟨a,b⟩ | e
   ·rcases List.mem_cons.mp a with e | a
    ·obtain⟨e1,e2⟩:=Prod.mk.inj e
     rcases List.mem_cons.mp b with e' | b
     ·exact .inr (e1.trans (Prod.mk.inj e').1.symm)
     ·rw[e2] at b
      exact absurd (show n < n from hl _ b) (Nat.lt_irrefl n)
    ·rcases List.mem_cons.mp b with e' | b
     ·rw[(Prod.mk.inj e').2] at a
      exact absurd (show n < n from hl _ a) (Nat.lt_irrefl n)
     ·exact .inl ⟨a,b⟩
   ·exact .inr e
  ·rw[if_neg hk] at h h'
   exact n5 hl h h'
theorem mQ {x:Str}{c:Addr}:∀{names:List (Str × NameKind)} {h:Heap} {acc:List (Str × Addr)},(x,c)∈cellsFrom h.objs.size names acc->(x,c)∈acc\/(pushCells h names).IsCell c none
 | [],_,_,q=>.inl q
 | (y,k)::r,h,acc,q=>by
  unfold cellsFrom at q
  unfold pushCells
  by_cases hk:(k == NameKind.cell)=true
  ·rw[if_pos hk] at q ⊢
   have q':(x,c)∈cellsFrom (h.push { cls:=.type "cell",data:=.cell none }).objs.size r ((y,h.objs.size)::acc):=by rw[Heap.size_push]; exact q
   rcases mQ q' with z | z
   ·rcases List.mem_cons.mp z with e | z
    ·cases e
     exact .inr ⟨_,pushCells_keeps r _ _ _ (Heap.get?_push_size _ rfl),rfl⟩
    ·exact .inl z
   ·exact .inr z
  ·rw[if_neg hk] at q ⊢
   exact mQ q
theorem F7 {M:Model}{A:Around}{E:Value->Shared->Prop}{s:Shared}{scope:Scope}{globals:Addr}{cl:List (Str × Addr)}{qual:Str}{env:Env}{Q:Env->Shared->Prop}
  (h:Q { scope:=scope,locals:=s.heap.objs.size,globals:=globals,cells:=cellsFrom (s.heap.objs.size+1) scope.names cl,qual:=qual,func:=none,code:=env.code,frame:=env.frame,builtins:=env.builtins }
   { s with heap:=pushCells (s.heap.push { cls:=.type "dict",data:=.dict #[] }) scope.names }) :
  wpAny M A (newFunctionEnv scope globals cl [] qual none .none (some env)) Q E s:=by
 unfold newFunctionEnv
 refine wpAny_bind (wpAny_alloc ?_)
 refine wpAny_bind (wpAny_layCells _ ?_ scope.names cl _ _ ?_)
 ·intro name kind cells
  by_cases hk:(kind == NameKind.cell)=true
  ·simp only [hk,if_true]
  ·simp only [hk,if_false]
 ·have e:(s.heap.push { cls:=.type "dict",data:=.dict #[] }).objs.size=s.heap.objs.size+1:=Heap.size_push ..
  rw[←e] at h
  exact wpAny_pure h
theorem jY {env:Env}{x:Str}{k':NameKind}:∀{names:List (Str × NameKind)},(names.map λ(n,k)=>if (k == NameKind.free&&env.scope.kind == .function&&env.kindOf n == some .cell) then (n,NameKind.cell) else (n,k)).lookup x=some k'->
  ∃k,names.lookup x=some k/\(k'=k\/(k=.free/\k'=.cell))
 | [],h=>by simp at h
 | (n,k)::r,h=>by
  by_cases hc:(k == NameKind.free&&env.scope.kind == .function&&env.kindOf n == some .cell)=true
  ·simp only [List.map_cons,hc,if_true,List.lookup_cons] at h ⊢
   cases hx:x == n with
   | true=>
    rw[hx] at h
    have ek:k=NameKind.free:=by
     have:=hc
     simp only [Bool.and_eq_true] at this
     simpa using this.1.1
    exact⟨k,rfl,.inr ⟨ek,(Option.some.inj h).symm⟩⟩
   | false=>
    rw[hx] at h
    exact jY h
  ·have hc':(k == NameKind.free&&env.scope.kind == .function&&env.kindOf n == some .cell)=false:=by simpa using hc
   simp only [List.map_cons,hc',Bool.false_eq_true,if_false,List.lookup_cons] at h ⊢
   cases hx:x == n with
   | true=>rw[hx] at h; exact⟨k,rfl,.inl (Option.some.inj h).symm⟩
   | false=>
    rw[hx] at h
    exact jY h
theorem ki {env:Env}{x:Str}{k:NameKind}:∀{names:List (Str × NameKind)},names.lookup x=some k->
  ∃k',(names.map λ(n,k)=>if (k == NameKind.free&&env.scope.kind == .function&&env.kindOf n == some .cell) then (n,NameKind.cell) else (n,k)).lookup x=some k'/\(k'=k\/(k=.free/\k'=.cell))
 | [],h=>by simp at h
 | (n,k₀)::r,h=>by
  by_cases hc:(k₀ == NameKind.free&&env.scope.kind == .function&&env.kindOf n == some .cell)=true
  ·simp only [List.map_cons,hc,if_true,List.lookup_cons] at h ⊢
   cases hx:x == n with
   | true=>
    rw[hx] at h
    have ek:k₀=NameKind.free:=by
     have:=hc
     simp only [Bool.and_eq_true] at this
     simpa using this.1.1
    have e2:k₀=k:=Option.some.inj h
    exact⟨_,rfl,.inr ⟨e2 ▸ ek,rfl⟩⟩
   | false=>
    rw[hx] at h
    exact ki h
  ·have hc':(k₀ == NameKind.free&&env.scope.kind == .function&&env.kindOf n == some .cell)=false:=by simpa using hc
   simp only [List.map_cons,hc',Bool.false_eq_true,if_false,List.lookup_cons] at h ⊢
   cases hx:x == n with
   | true=>rw[hx] at h; exact⟨k₀,rfl,.inl (Option.some.inj h)⟩
   | false=>
    rw[hx] at h
    exact ki h
def compEnv (sc:Scope)(C:Addr)(env:Env):Env:=
 { scope:=relabel sc env,locals:=C,globals:=env.globals,cells:=cellsFrom (C+1) sc.names (eS env.cells sc.names []),qual:=env.qual,func:=none,code:=env.code,frame:=env.frame,builtins:=env.builtins }
def fE (X:Cx)(N':List Str)(sc:Scope)(C:Addr)(s₀:Shared)(H₀:Hp)(ex:List Addr):Cx where
 prog:=X.prog
 w:=X.w
 K:=X.K
 mg:=X.mg
 base:=X.base
 A:=X.A
 N:=N'
 s₀:=s₀
 H₀:=H₀
 env:=compEnv sc C X.env
 outer:=X.stack
 stack:=X.stack
 ex:=ex
 fn:=λx=>decide (sc.names.lookup x=some .cell)
 calm:=X.calm
 pn:=[]
 xe:=λ_ _=>False
def dM (ix:List (Option Nat))(σ:St):St:=ix.map λo=>o.bind λj=>(σ[j]?).join
structure iG (X:Cx)(N':List Str)(ix:List (Option Nat))(sc:Scope):Prop where
 kind:sc.kind=.function
 nd:N'.Nodup
 uniq:(sc.names.map (·.1)).Nodup
 len:ix.length=N'.length
 free:∀x∈sc.names,x.2=.free->X.env.kindOf x.1=some .cell\/X.env.kindOf x.1=some .free
 at_:∀(i j:Nat),ix[i]?=some (some j)->∃x,N'[i]?=some x/\X.N[j]?=some x/\sc.names.lookup x=some .free
theorem ju {α:Type}{x:Str}{a:α}:∀{l:List (Str × α)},(l.map (·.1)).Nodup->(x,a)∈l->l.lookup x=some a
 | (k,v)::r,nd,h=>by
  rw[List.map_cons,List.nodup_cons] at nd
  rw[List.lookup_cons]
  rcases List.mem_cons.mp h with e | h
  ·cases e; rw[beq_self_eq_true]
  ·have:(x == k)=false:=by
    cases q:x == k with
    | false=>rfl
    | true=>
     have e:x=k:=by simpa using q
     exact absurd (List.mem_map.mpr ⟨_,h,e⟩) nd.1
   rw[this]
   exact ju nd.2 h
section
variable {X:Cx}{pins:List (Addr × Obj)}{σ:St}{H:Hp}{s:Shared}{N':List Str}{ix:List (Option Nat)}{sc:Scope}{ex:List Addr}
theorem kZ (S:iG X N' ix sc){C:Addr}{x:Str}{c:Addr}(h:(compEnv sc C X.env).cells.lookup x=some c)(ok:X.Ok) :
  (X.env.cells.lookup x=some c/\sc.names.lookup x=some .free)\/(C+1<=c/\sc.names.lookup x=some .cell):=by
 rcases nZ (mem_of_lookup h) with q | ⟨q1,q2⟩
 ·rcases lO q with q | ⟨q1,q2⟩
  ·exact absurd q (by simp)
  ·obtain⟨c',hc⟩:=ok.has x (S.free _ q1 rfl)
   rw[hc] at q2
   exact .inl ⟨by rw[hc,q2]; rfl,ju S.uniq q1⟩
 ·exact .inr ⟨q1,ju S.uniq q2⟩
theorem BW (S:iG X N' ix sc)(I:Inv X pins σ H s)(C:Addr){i:Nat}{x:Str}{v:V}(h1:N'[i]?=some x)(h2:(dM ix σ)[i]?=some (some v)) :
  ∃u c,RelV v u/\((compEnv sc C X.env).kindOf x=some .cell\/(compEnv sc C X.env).kindOf x=some .free)/\(compEnv sc C X.env).cells.lookup x=some c/\X.env.cells.lookup x=some c/\s.heap.IsCell c (some u):=by
 have h2':(ix.map λo=>o.bind λj=>(σ[j]?).join)[i]?=some (some v):=h2
 rw[List.getElem?_map] at h2'
 cases e:ix[i]? with
 | none=>rw[e] at h2'; cases h2'
 | some o=>
  rw[e] at h2'
  cases o with
  | none=>cases h2'
  | some j=>
   have h4:(σ[j]?).join=some v:=Option.some.inj h2'
   have h5:σ[j]?=some (some v):=by
    cases q:σ[j]? with
    | none=>rw[q] at h4; cases h4
    | some o=>rw[q] at h4; exact congrArg some h4
   obtain⟨x',n1,n2,n3⟩:=S.at_ i j e
   rw[n1] at h1
   cases h1
   have kx:=S.free _ (mem_of_lookup n3) rfl
   obtain⟨m,hn,hl⟩:=I.loc
   have vis:Oj X.env.scope x:=by
    rcases kx with k | k
    ·exact .inr (.inl k)
    ·exact .inr (.inr k)
   obtain⟨u,r,l⟩:=hl j x v n2 h5 vis
   rcases l with ⟨k,_⟩ | ⟨k,c,hc,z⟩
   ·rcases kx with k' | k' <;> (rw[k] at k'; cases k')
   ·obtain⟨k',q,z'⟩:=ki (env:=X.env) (names:=sc.names) n3
    have:((cellsFrom (C+1) sc.names (eS X.env.cells sc.names [])).lookup x).isSome=true:=PySem.W.cellsFrom_some _ _ _ (.inr (oO (.inl (mem_of_lookup n3))))
    obtain⟨c',hc'⟩:=Option.isSome_iff_exists.mp this
    have ec:c=c':=by
     rcases kZ S (C:=C) hc' I.ok with ⟨q1,_⟩ | ⟨_,q2⟩
     ·rw[hc] at q1; exact Option.some.inj q1
     ·rw[n3] at q2; cases q2
    subst ec
    refine⟨u,c,r,?_,hc',hc,z⟩
    show (relabel sc X.env).names.lookup x=some .cell\/(relabel sc X.env).names.lookup x=some .free
    rcases z' with z' | ⟨_,z'⟩
    ·exact .inr (z' ▸ q)
    ·exact .inl (z' ▸ q)
theorem IY (S:iG X N' ix sc)(I:Inv X pins σ H s)(hf:∀b∈ex,jt X pins H b)(he:∀b∈ex,∃o,s.heap.get? b=some o) :
  Inv (fE X N' sc s.heap.objs.size s H ex) [] (dM ix σ) H { s with heap:=pushCells (s.heap.push { cls:=.type "dict",data:=.dict #[] }) sc.names }:=by
 have keep:∀b o,s.heap.get? b=some o->(pushCells (s.heap.push { cls:=.type "dict",data:=.dict #[] }) sc.names).get? b=some o:=λb o e=>pushCells_keeps _ _ _ _ (Heap.get?_push_of_some _ e)
 have ltC:∀x c,X.env.cells.lookup x=some c->c < s.heap.objs.size:=λx c e=>by obtain⟨v,q⟩:=I.cell x c e; exact q.lt
 have ltE:∀b∈ex,b < s.heap.objs.size:=λb hb=>by obtain⟨o,e⟩:=he b hb; exact Heap.lt_size e
 have ok:(fE X N' sc s.heap.objs.size s H ex).Ok:=by
  refine⟨I.ok.mod,S.kind,I.ok.glob,I.ok.blt,Nat.le_refl _,λx y c h1 h2=>?_,λx hx=>?_,λx c hx hc=>?_,I.ok.hd,I.ok.frames,.inl rfl,λb hb=>⟨Nat.ne_of_lt (ltE b hb),λx c h z=>?_⟩,I.bs,Nat.le_trans I.ok.rM I.sz,λb o e hb=>?_,λb hb hm=>?_,I.stack,I.wW⟩
  ·have l:∀p∈eS X.env.cells sc.names [],p.2 < s.heap.objs.size+1:=λp hp=>by
    obtain⟨px,pc⟩:=p
    rcases lO hp with q | ⟨q1,q2⟩
    ·exact absurd q (by simp)
    ·obtain⟨c',hc⟩:=I.ok.has px (S.free _ q1 rfl)
     rw[hc] at q2
     have:=ltC _ _ hc
     show pc < _
     rw[q2]
     exact Nat.lt_succ_of_lt this
   rcases n5 l (mem_of_lookup h1) (mem_of_lookup h2) with ⟨a,b⟩ | e
   ·rcases kZ S h1 I.ok with ⟨q,_⟩ | ⟨q,_⟩
    ·rcases kZ S h2 I.ok with ⟨q',_⟩ | ⟨q',_⟩
     ·exact I.ok.inj _ _ _ q q'
     ·exact absurd (Nat.lt_of_lt_of_le (ltC _ _ q) (Nat.le_of_succ_le q')) (Nat.lt_irrefl _)
    ·exact absurd (l _ a) (Nat.not_lt.mpr q)
   ·exact e
  ·have hx':(relabel sc X.env).names.lookup x=some .cell\/(relabel sc X.env).names.lookup x=some .free:=hx
   have:sc.names.lookup x=some .cell\/sc.names.lookup x=some .free:=by
    rcases hx' with q | q
    ·obtain⟨k,e,z⟩:=jY (names:=sc.names) q
     rcases z with z | ⟨z,_⟩
     ·exact .inl (z ▸ e)
     ·exact .inr (z ▸ e)
    ·obtain⟨k,e,z⟩:=jY (names:=sc.names) q
     rcases z with z | ⟨_,z⟩
     ·exact .inr (z ▸ e)
     ·cases z
   refine Option.isSome_iff_exists.mp ?_
   show ((cellsFrom (s.heap.objs.size+1) sc.names (eS X.env.cells sc.names [])).lookup x).isSome=true
   rcases this with q | q
   ·exact PySem.W.cellsFrom_some _ _ _ (.inl q)
   ·exact PySem.W.cellsFrom_some _ _ _ (.inr (oO (.inl (mem_of_lookup q))))
  ·have hx':sc.names.lookup x=some .cell:=of_decide_eq_true hx
   rcases kZ S hc I.ok with ⟨_,q⟩ | ⟨q,_⟩
   ·rw[hx'] at q; cases q
   ·exact Nat.le_of_succ_le q
  ·rcases kZ S h I.ok with ⟨q,_⟩ | ⟨q,_⟩
   ·exact (hf b hb).2.2.2.2.1 x c q z
   ·exact absurd (Nat.lt_of_lt_of_le (ltE b hb) (Nat.le_of_succ_le (z ▸ q))) (Nat.lt_irrefl _)
  ·rcases (hf b hb).2.2.2.1 with z | z
   ·exact I.ok.vf b o e z
   ·exact absurd (Nat.lt_of_lt_of_le (Heap.lt_size e) (Nat.le_trans I.ok.rM z)) (Nat.lt_irrefl _)
  ·rcases List.mem_cons.mp (I.DI b hm) with z | z
   ·exact (hf b hb).2.1 z
   ·exact (hf b hb).2.2.1 z
 refine⟨ok,rfl,I.bare,Un.kept keep,⟨λ_=>none,?_,λi x v h1 h2 h3=>?_⟩,λx c h=>?_,I.hok.fresh (Nat.le_refl _),λx c h=>?_,λp hp=>absurd (show p∈([]:List (Addr × Obj)) from hp) (by simp),I.hok.kept keep,?_⟩
 ·exact (Heap.Ns.new s.heap (.type "dict")).keeps λb o e=>pushCells_keeps _ _ _ _ e
 ·obtain⟨u,c,r,k,hc,_,z⟩:=BW S I s.heap.objs.size h1 h2
  exact⟨u,r,.inr ⟨k,c,hc,z.keeps keep⟩⟩
 ·rcases kZ S h I.ok with ⟨q,_⟩ | ⟨q,_⟩
  ·obtain⟨v,z⟩:=I.cell x c q
   exact⟨v,z.keeps keep⟩
  ·have h':(x,c)∈cellsFrom (s.heap.push { cls:=.type "dict",data:=.dict #[] }).objs.size sc.names (eS X.env.cells sc.names []):=by rw[Heap.size_push]; exact mem_of_lookup h
   rcases mQ h' with z | z
   ·rcases lO z with z | ⟨z1,z2⟩
    ·exact absurd z (by simp)
    ·obtain⟨c',hc⟩:=I.ok.has x (S.free _ z1 rfl)
     rw[hc] at z2
     have:=ltC _ _ hc
     rw[show c=c' from z2] at q
     exact absurd (Nat.lt_of_lt_of_le this (Nat.le_of_succ_le q)) (Nat.lt_irrefl _)
   ·exact⟨none,z⟩
 ·rcases kZ S h I.ok with ⟨q,_⟩ | ⟨q,_⟩
  ·exact I.gp x c q
  ·exact I.hok.fresh (Nat.le_of_succ_le q)
 ·show (ix.map _).length=N'.length
  rw[List.length_map]; exact S.len
theorem comp_back {H':Hp}{s':Shared}{σ':St}{ps:List (Addr × Obj)}(S:iG X N' ix sc)(I:Inv X pins σ H s)(hf:∀b∈ex,jt X pins H b)
  (J:Inv (fE X N' sc s.heap.objs.size s H ex) ps σ' H' s'):Inv (fE X N' sc s.heap.objs.size s H ex) [] (dM ix σ) H' s':=by
 obtain⟨m,hn,_⟩:=J.loc
 refine⟨J.ok,J.os,J.bare,J.base,⟨m,hn,λi x v h1 h2 h3=>?_⟩,J.cell,J.free,J.gp,λp hp=>absurd (show p∈([]:List (Addr × Obj)) from hp) (by simp),J.hok,?_⟩
 ·obtain⟨u,c,r,k,hc,hx,⟨o,ho,hd⟩⟩:=BW S I s.heap.objs.size h1 h2
  have u1:Un (frs X.stack) ex H H' s.heap s'.heap:=J.base
  obtain⟨sl,q⟩:=u1.any ho (I.gp x c hx) λz=>(hf c z).2.2.2.2.1 x c hx rfl
  exact⟨u,r,.inr ⟨k,c,hc,_,q,hd⟩⟩
 ·show (ix.map _).length=N'.length
  rw[List.length_map]; exact S.len
theorem zz {H':Hp}{s':Shared}{h':Heap}{σ':St}{ps:List (Addr × Obj)}(I:Inv X pins σ H s)(hf:∀b∈ex,jt X pins H b)
  (J:Inv (fE X N' sc s.heap.objs.size s H ex) ps σ' H' s') (hs:Heap.SameBut s.heap.objs.size s'.heap h'):Inv X pins σ H' { s' with heap:=h' }:=by
 have u:Un (frs X.stack) ex H H' s.heap s'.heap:=J.base
 have ne:∀b o,s.heap.get? b=some o->b≠s.heap.objs.size:=λb o e=>Nat.ne_of_lt (Heap.lt_size e)
 have g:∀b,b≠s.heap.objs.size->h'.get? b=s'.heap.get? b:=λb hb=>hs.2 b hb
 have hC:H' s.heap.objs.size=none:=J.free
 refine I.IB (s':={ s' with heap:=h' }) (ch:=ex) J.os ⟨λb o e n hb hx=>?_,λb o e n hb hx=>?_,u.free,λb o e hx=>?_,u.tups,u.jr,u.kg⟩ (λb o e=>?_) J.bare λb hb=>?_
 ·exact (g b (ne b o e)).trans (u.keep b o e n hb hx)
 ·obtain⟨sl,q⟩:=u.slot b o e n hb hx
  exact⟨sl,(g b (ne b o e)).trans q⟩
 ·obtain⟨o',q⟩:=u.there b o e hx
  exact⟨o',(g b (ne b o e)).trans q⟩
 ·refine (J.hok b o e).stay (λc v hc q=>(g c ?_).trans q) (λ_ q=>q) λ_ _ q=>q
  rintro rfl
  rcases hc with z | z
  ·rw[←z,hC] at e; cases e
  ·rw[hC] at z; cases z
 ·obtain⟨f0,f1,f2,f3,f4,f5⟩:=hf b hb
  exact⟨f3,f1,f4,f5⟩
end
def PF (X:Cx)(ifs:List Expr)(t:TT):Prop:=
 ∀(pins:List (Addr × Obj)) (s:Shared) (σ:St) (H:Hp) (Q:Bool->Hp->Prop),Inv X pins σ H s->t σ H Q->
  wpAny (model X.prog X.w) X.A (forIn ifs true λc r=>if r=true then do let ok ←isTrue c X.env (eval c X.env); pure (ForInStep.yield ok) else pure (ForInStep.yield r)) (TP X pins σ Q) X.xe s
def yz:TT:=λ_ H Q=>Q true H
theorem fF {X:Cx}:PF X [] yz:=λ_ _ _ H _ I h=>wpAny_tests_nil ⟨H,I,h⟩
theorem vF {X:Cx}{c:Expr}{t:TT}(h:PT X c t):PF X [c] t:=λpins s σ H Q I hw=>wpAny_tests_one (h pins s σ H Q I hw)
theorem D9 {prog:Program}{w:World}{A:Around}{R:Result->Shared->Prop}{s:Shared}{elt target iter:Expr}{ifs:List Expr}{scope:Scope}{pos:Pos}{it acc:Value}{env:Env}(I:Nat->Shared->Prop)
  (turn:∀n s,I n s->wpAny (model prog w) A (pyNext it) (λr s₁=>match r with
   | none=>R (.ok .next) s₁
   | some v=>wpAny (model prog w) A (letOwnedTupleGo target it v) (λ_ s₀=>wpAny (model prog w) A (assign target env v) (λ_ s₂=>
     wpAny (model prog w) A (forIn ifs true λc r=>if r=true then do let ok ←isTrue c env (eval c env); pure (ForInStep.yield ok) else pure (ForInStep.yield r)) (λok s₃=>
      if ok=true then wpAny (model prog w) A (eval elt env) (λx s₄=>
       wpAny (model prog w) A (call (.builtin "list.append") [acc,x]) (λ_ s₅=>∃m,m < n/\I m s₅) (λ_ _=>False) s₄) (λ_ _=>False) s₃
      else ∃m,m < n/\I m s₃) (λ_ _=>False) s₂) (λ_ _=>False) s₀) (λ_ _=>False) s₁) (λ_ _=>False) s)
  (n:Nat) (h:I n s) :
  codeAny (model prog w) A (.compLoop (.ListComp elt [⟨target,iter,ifs,0⟩] scope pos) 0 it acc env) R s:=by
 refine codeAny_loop rfl I (λn s hI=>?_) n h
 show wpAny _ A ((compTurn (.ListComp elt [⟨target,iter,ifs,0⟩] scope pos) 0 it acc env).onRaise (λx=>do noteFrame x env; theTreesLotGoes x)) _ _ s
 refine wpAny_noted ?_
 rw[compTurn_list]
 refine wpAny_bind (wpAny_standAt (wpAny_bind (wpAny_mono (turn n s hI) (λr s₁ h₁=>?_) λ_ _ z=>z.elim)))
 cases r with
 | none=>exact wpAny_pure h₁
 | some v=>
  refine wpAny_bind (wpAny_mono h₁ (λ_ s₀ h₀=>?_) λ_ _ z=>z.elim)
  refine wpAny_bind (wpAny_mono h₀ (λ_ s₂ h₂=>wpAny_bind (wpAny_mono h₂ (λok s₃ h₃=>?_) λ_ _ z=>z.elim)) λ_ _ z=>z.elim)
  cases ok with
  | false=>exact wpAny_pure ⟨rfl,h₃⟩
  | true=>
   exact wpAny_bind (wpAny_bind (wpAny_mono h₃ (λx s₄ h₄=>wpAny_bind (wpAny_mono h₄ (λ_ s₅ h₅=>wpAny_pure (wpAny_pure ⟨rfl,h₅⟩)) λ_ _ z=>z.elim)) λ_ _ z=>z.elim))
def ee (J:It)(ix:List (Option Nat))(g:TG)(tf:TT)(te:TE)(σ:St)(H1:Hp)(Q:Addr->Hp->Prop):Prop:=
 ∀D,H1 D=none->∃W:Nat->Nat->List V->Hp->Prop,(∃m,W 0 m [] (upd H1 D (.lst [])))/\∀i m ys H2,W i m ys H2->H2 D=some (.lst ys)->
  (J.stop i H2/\Q D H2)\/(J.go i H2/\∀x H3,J.GN i H2 x H3->g x (dM ix σ) H3 fun σ4 H4=>tf σ4 H4 λb H5=>
   if b=true then te σ4 H5 λv H6=>H6 D=some (.lst ys)/\ys.length < sizeLine/\∃m',m' < m/\W (i+1) m' (ys++[v]) (upd H6 D (.lst (ys++[v])))
   else H5 D=some (.lst ys)/\∃m',m' < m/\W (i+1) m' ys H5)
def oQ (wi:TI)(ix:List (Option Nat))(g:TG)(tf:TT)(te:TE):TE:=fun σ H Q=>wi σ H λJ H1=>ee J ix g tf te σ H1 λD H2=>Q (.ref D) H2
section
variable {X:Cx}{N':List Str}{ix:List (Option Nat)}{sc:Scope}{elt tg iter:Expr}{ifs:List Expr}{wi:TI}{g:TG}{tf:TT}{te:TE}{pos:Pos}
set_option maxHeartbeats 1000000 in
theorem zA (S:iG X N' ix sc)(hc:X.calm=true)
  (hg:∀C s₀ H₀ ex,PG (fE X N' sc C s₀ H₀ ex) tg g) (hf:∀C s₀ H₀ ex,PF (fE X N' sc C s₀ H₀ ex) ifs tf) (he:∀C s₀ H₀ ex,PE (fE X N' sc C s₀ H₀ ex) elt te)
  {pins:List (Addr × Obj)} {σ:St} {s2:Shared} {itv:Value} {Q:Addr->Hp->Prop} {E:Value->Shared->Prop} {RR:Value->Addr->Result->Shared->Prop}
  (h2:RI X pins σ tg (λJ H1=>ee J ix g tf te σ H1 Q) itv s2)
  (hR:∀(D C:Addr) (H3 H':Hp) (s3 s':Shared) (σ':St) (ex:List Addr) (ps:List (Addr × Obj)),C=s3.heap.objs.size->Inv X pins σ H3 s3->(∀b∈ex,jt X pins H3 b)->Inv (fE X N' sc s3.heap.objs.size s3 H3 ex) ps σ' H' s'->Q D H'->RR (.ref D) C (.ok .next) s') :
  wpAny (model X.prog X.w) X.A (newList []) (λacc s₃=>wpAny (model X.prog X.w) X.A (newFunctionEnv sc X.env.globals (eS X.env.cells sc.names []) [] X.env.qual none .none (some X.env)) (λcenv s₄=>
   codeAny (model X.prog X.w) X.A (.compStart (.ListComp elt [⟨tg,iter,ifs,0⟩] sc pos) 0 itv acc { cenv with scope:=relabel sc X.env }) (RR acc cenv.locals) s₄) E s₃) E s2:=by
 obtain⟨it,fp,tn,J,H2,rfl,I2,T,st2,f2,cw⟩:=h2
 obtain⟨W,⟨m0,w0⟩,turn⟩:=cw s2.heap.objs.size I2.fresh
 refine wpAny_newObj_type ?_
 generalize VM:({ s2 with heap:=s2.heap.push { cls:=.type "list",dict:=none,data:=.seq ([]:List Value).toArray } }:Shared)=s3
 have I3:Inv X pins σ (upd H2 s2.heap.objs.size (.lst [])) s3:=by
  rw[←VM]
  exact I2.IV (its:=[]) (t':=s2.toks) .nil (Nat.zero_le _)
 have Za:∀b o,s2.heap.get? b=some o->s3.heap.get? b=some o:=λb o e=>by rw[←VM]; exact Heap.get?_push_of_some _ e
 have fD:∀b∈fp,b≠s2.heap.objs.size:=λb hb=>by
  obtain⟨o,e,_⟩:=T.obj _ _ st2 b hb
  exact Nat.ne_of_lt (Heap.lt_size e)
 have f3:∀b∈fp,jt X pins (upd H2 s2.heap.objs.size (.lst [])) b:=λb hb=>⟨by rw[aG (fD b hb)]; exact (f2 b hb).1,(f2 b hb).2⟩
 have st3:tn 0 s3.heap:=T.keep _ _ _ st2 λb _ o e=>Za b o e
 have e3:∀b∈fp,∃o,s3.heap.get? b=some o:=λb hb=>by
  obtain⟨o,e,_⟩:=T.obj _ _ st3 b hb
  exact⟨o,e⟩
 refine F7 ?_
 have J4:=IY (ex:=fp) S I3 f3 e3
 have Zb:∀b o,s3.heap.get? b=some o->(pushCells (s3.heap.push { cls:=.type "dict",data:=.dict #[] }) sc.names).get? b=some o:=λb o e=>pushCells_keeps _ _ _ _ (Heap.get?_push_of_some _ e)
 generalize Zc:({ s3 with heap:=pushCells (s3.heap.push { cls:=.type "dict",data:=.dict #[] }) sc.names }:Shared)=s4 at J4
 have VN:tn 0 s4.heap:=by rw[←Zc]; exact T.keep _ _ _ st3 λb _ o e=>Zb b o e
 show codeAny (model X.prog X.w) X.A (.compStart (.ListComp elt [⟨tg,iter,ifs,0⟩] sc pos) 0 (.ref it) (.ref s2.heap.objs.size) (compEnv sc s3.heap.objs.size X.env)) (RR (.ref s2.heap.objs.size) s3.heap.objs.size) s4
 generalize hY:fE X N' sc s3.heap.objs.size s3 (upd H2 s2.heap.objs.size (.lst [])) fp=Y at J4
 have yP:Y.prog=X.prog:=by rw[←hY]; rfl
 have yw:Y.w=X.w:=by rw[←hY]; rfl
 have yK:Y.K=X.K:=by rw[←hY]; rfl
 have yA:Y.A=X.A:=by rw[←hY]; rfl
 have ye:Y.env=compEnv sc s3.heap.objs.size X.env:=by rw[←hY]; rfl
 have yx:Y.xe=λ_ _=>False:=by rw[←hY]; rfl
 have yc:Y.calm=true:=by rw[←hY]; exact hc
 have yfs:Y.fs=frs X.stack:=by rw[←hY]; rfl
 have Sd:Y.ex=fp:=by rw[←hY]; rfl
 have Zd:Y.pn=[]:=by rw[←hY]; rfl
 have yl:Y.env.locals=s3.heap.objs.size:=by rw[ye]; rfl
 have Ze:PG Y tg g:=by rw[←hY]; exact hg _ _ _ _
 have Zf:PF Y ifs tf:=by rw[←hY]; exact hf _ _ _ _
 have Zg:PE Y elt te:=by rw[←hY]; exact he _ _ _ _
 have VO:=J4.ok
 have stat:∀{H':Hp},(∀b∈fp,H' b=none)->∀b∈fp,jt Y [] H' b:=λhn b hb=>by
  have x:=VO.GK b (by rw[Sd]; exact hb)
  exact⟨hn b hb,x.1,VO.vg b (by rw[Sd]; exact hb),.inl (by rw[Sd]; exact hb),x.2,λp hp=>by rw[Zd] at hp; exact absurd hp (by simp)⟩
 have loop:codeAny (model X.prog X.w) X.A (.compLoop (.ListComp elt [⟨tg,iter,ifs,0⟩] sc pos) 0 (.ref it) (.ref s2.heap.objs.size) (compEnv sc s3.heap.objs.size X.env)) (RR (.ref s2.heap.objs.size) s3.heap.objs.size) s4:=by
  refine D9 (λn s'=>∃i ys H',Inv Y [] (dM ix σ) H' s'/\tn i s'.heap/\(∀b∈fp,H' b=none)/\H' s2.heap.objs.size=some (.lst ys)/\W i n ys H') ?_ m0 ⟨0,[],_,J4,VN,λb hb=>(f3 b hb).1,au,w0⟩
  rintro n s5 ⟨i,ys,H5,I5,GO,Ov,Zh,w5⟩
  have acH:(dM ix σ).length=Y.N.length:=J4.len
  rcases turn i n ys H5 w5 Zh with ⟨stop,q⟩ | ⟨go,step⟩
  ·have r:=T.done Y yP yw yK yc i [] s5 (dM ix σ) H5 (λ_ _=>False) I5 (stat Ov) GO stop
   rw[yA] at r
   refine aN r λr s6 ⟨hr,I6⟩=>?_
   subst hr
   refine hR _ _ _ H5 s3 s6 (dM ix σ) fp [] rfl I3 f3 ?_ q
   rw[hY]; exact I6
  ·have r:=T.item Y yP yw yK yc i [] s5 (dM ix σ) H5 (λ_ _=>False) I5 (stat Ov) GO go
   rw[yA] at r
   refine aN r λr s6 ⟨u,hr,h6⟩=>?_
   subst hr
   refine aN h6 λ_ s7 ⟨x,H7,I7,r7,y7,Sg,Zi⟩=>?_
   have Zj:=I7.pinned (stat Zi) (T.obj _ _ Sg)
   have r2:=Ze _ s7 (dM ix σ) H7 x u _ Zj r7 (step x H7 y7)
   rw[yP,yw,yA,ye,yx] at r2
   refine aN r2 λ_ s8 ⟨σ8,H8,I8,q8⟩=>?_
   have r3:=Zf _ s8 σ8 H8 _ I8 q8
   rw[yP,yw,yA,ye,yx] at r3
   refine aN r3 λok s9 ⟨H9,I9,q9⟩=>?_
   have again:∀{gY:Shared} {σ10:St} {H10:Hp},Inv Y ([]++rP fp s7.heap) σ10 H10 gY->σ10.length=Y.N.length->Inv Y [] (dM ix σ) H10 gY->tn (i+1) gY.heap/\∀b∈fp,H10 b=none:=λ{gY σ10 H10} J _ _=>by
    have p:=λb hb o e=>J.pin (b,o) (List.mem_append_right _ (List.mem_append_right _ (tL (fp:=fp) (h:=s7.heap) (b:=b) (o:=o) hb e)))
    refine⟨T.keep _ _ _ Sg λb hb o e=>(p b hb o e).1,λb hb=>?_⟩
    obtain⟨o,e,d⟩:=T.obj _ _ Sg b hb
    exact (p b hb o e).2.1
   have back:∀{gY:Shared} {H10:Hp},Inv Y ([]++rP fp s7.heap) σ8 H10 gY->Inv Y [] (dM ix σ) H10 gY:=λ{gY H10} J=>by
    rw[←hY] at J ⊢
    exact comp_back S I3 f3 J
   cases ok with
   | false=>
    rw[if_neg (by decide)] at q9 ⊢
    obtain⟨Zk,m',hm,w9⟩:=q9
    have B:=back I9
    have z:=again I9 I9.len B
    exact⟨m',hm,i+1,ys,H9,B,z.1,z.2,Zk,w9⟩
   | true=>
    rw[if_pos rfl] at q9 ⊢
    have r4:=Zg _ s9 σ8 H9 _ I9 q9
    rw[yP,yw,yA,ye,yx] at r4
    refine aN r4 λv gY ⟨y,H10,Zl,Zm,Xl,hz,m',hm,Zn⟩=>?_
    have r5:=lE (X:=Y) _ gY σ8 H10 (.ref s2.heap.objs.size) [y] (.ref s2.heap.objs.size) [v] (λ_ H11=>H11=upd H10 s2.heap.objs.size (.lst (ys++[y]))) Zl rfl (.cons Zm .nil) ⟨_,ys,y,rfl,rfl,Xl,hz,rfl⟩
    rw[yP,yw,yA,yx] at r5
    refine aN r5 λ_ Ks ⟨_,H11,Sh,_,uz⟩=>?_
    subst uz
    have B:=back Sh
    have z:=again Sh Sh.len B
    exact⟨m',hm,i+1,ys++[y],_,B,z.1,z.2,au,Zn⟩
 exact codeAny_compStart_list loop (T.self _ 0 _ _ _ VN loop)
theorem cN (S:iG X N' ix sc)(hc:X.calm=true)(hi:PI X tg iter wi)
  (hg:∀C s₀ H₀ ex,PG (fE X N' sc C s₀ H₀ ex) tg g) (hf:∀C s₀ H₀ ex,PF (fE X N' sc C s₀ H₀ ex) ifs tf) (he:∀C s₀ H₀ ex,PE (fE X N' sc C s₀ H₀ ex) elt te)
  (hs:∀x,foldedSetIterable iter X.env x=pure x:=by intro _; rfl):PE X (.ListComp elt [⟨tg,iter,ifs,0⟩] sc pos) (oQ wi ix g tf te):=by
 intro pins s σ H Q I h
 rw[eval_ListComp]
 have hcl:closureFor sc X.env=pure (eS X.env.cells sc.names []):=zy λx hx hk=>I.ok.has x.1 (S.free x hx hk)
 have hnames:∀x∈sc.names,x.2=.local->sc.names.lookup x.1=some .local:=λx hx hk=>ju S.uniq (by rw[←hk]; exact hx)
 refine wpAny_comprehension_free (use:=none) rfl hs hcl S.kind hnames (aN (hi pins s σ H _ I h) λv s1 h1=>aN h1 λitv s2 h2=>?_)
 refine zA S hc hg hf he (RR:=λacc C=>compPost (model X.prog X.w) X.A X.xe none (EP X pins σ Q) acc C) h2 ?_
 intro D C H3 H' s3 s' σ' ex ps eC I3 f3 J q
 subst eC
 obtain⟨m,hn,_⟩:=J.loc
 exact⟨m,hn,λh' hs'=>⟨.ref D,H',zz I3 f3 J hs',rfl,q⟩⟩
def yC (i:Nat)(wi:TI)(ix:List (Option Nat))(g:TG)(tf:TT)(te:TE):TS:=λD σ H=>wi σ H λJ H1=>ee J ix g tf te σ H1 λa H2=>D.nx (σ.set i (some (.ref a))) H2
theorem IZ {i:Nat}{y:Str}{py spos:Pos}(hN:X.N.Nodup)(hy:X.N[i]?=some y)(hL:Loc X.env.scope y)(S:iG X N' ix sc)(hc:X.calm=true)(hi:PI X tg iter wi)
  (hg:∀C s₀ H₀ ex,PG (fE X N' sc C s₀ H₀ ex) tg g) (hf:∀C s₀ H₀ ex,PF (fE X N' sc C s₀ H₀ ex) ifs tf) (he:∀C s₀ H₀ ex,PE (fE X N' sc C s₀ H₀ ex) elt te)
  (hsw:swapsWith (.ListComp elt [⟨tg,iter,ifs,0⟩] sc pos) (some (.Name y py)) spos.line X.env=pure true:=by rfl)
  (hs:∀x,foldedSetIterable iter X.env x=pure x:=by intro _; rfl)
  (hfn:X.fn y=true\/X.env.scope.names.lookup y=some .local:=by first | exact .inl rfl | exact .inr rfl | assumption) :
  PS X (.Assign [.Name y py] (.ListComp elt [⟨tg,iter,ifs,0⟩] sc pos) spos) (yC i wi ix g tf te):=by
 intro pins s σ H D I h
 rw[exec_Assign_Name_used _ _ _ _ hsw]
 refine wpAny_bind (wpAny_standAt (wpAny_bind ?_))
 show wpAny _ X.A (do let _ ←comprehension (.ListComp elt [⟨tg,iter,ifs,0⟩] sc pos) sc X.env _ (newList []) false (eval iter X.env) (some (assign (.Name y py) X.env))) _ _ s
 have hcl:closureFor sc X.env=pure (eS X.env.cells sc.names []):=zy λx hx hk=>I.ok.has x.1 (S.free x hx hk)
 have hnames:∀x∈sc.names,x.2=.local->sc.names.lookup x.1=some .local:=λx hx hk=>ju S.uniq (by rw[←hk]; exact hx)
 refine wpAny_bind (wpAny_mono (wpAny_comprehension_free (use:=some (assign (.Name y py) X.env)) (Q:=λ_ s'=>SP X pins D .next s') rfl hs hcl S.kind hnames
  (aN (hi pins s σ H _ I h) λv s1 h1=>aN h1 λitv s2 h2=>?_)) (λ_ s' hq=>wpAny_pure (wpAny_pure hq)) λ_ _ e=>e)
 refine zA S hc hg hf he (RR:=λacc C=>compPost (model X.prog X.w) X.A X.xe (some (assign (.Name y py) X.env)) (λ_ s'=>SP X pins D .next s') acc C) h2 ?_
 intro a C H3 H' s3 s' σ' ex ps eC I3 f3 J q
 subst eC
 obtain⟨m,hn,_⟩:=J.loc
 have I5:Inv X pins σ H' { s' with heap:=s'.heap }:=zz I3 f3 J (Heap.SameBut.refl _ _)
 have neL:X.env.locals≠s3.heap.objs.size:=Nat.ne_of_lt I3.lt
 have neC:∀x c,X.env.cells.lookup x=some c->c≠s3.heap.objs.size:=λx c e=>by
  obtain⟨v,z⟩:=I3.cell x c e
  exact Nat.ne_of_lt z.lt
 show wpAny (model X.prog X.w) X.A (assign (.Name y py) X.env (.ref a)) _ X.xe s'
 refine wpAny_assign_Name (BL (v:=.ref a) I5 hN hy hL rfl (λs6 I6 hb=>?_) hfn)
 obtain⟨b,sb,hb⟩:=hb
 have nb:s3.heap.objs.size≠b:=by
  rcases hb with z | z
  ·rw[z]; exact Ne.symm neL
  ·exact Ne.symm (neC _ _ z)
 refine⟨m,hn.sameBut sb nb,λh' hs'=>?_⟩
 refine⟨_,H',I6.turned (t':=s6.toks) (it:=s3.heap.objs.size) (λb o hb e=>(hs'.2 b hb).trans e) J.free (Ne.symm neL) (.inr I3.sz) neC (λp hp z=>?_),q⟩
 have:=(I3.pin p hp).1
 exact absurd (Heap.lt_size this) (by rw[z]; exact Nat.lt_irrefl _)
end
def Ku (on:List (Str × NameKind))(N N':List Str)(ix:List (Option Nat))(sc:Scope):Bool:=
 decide (sc.kind=.function)&&decide N'.Nodup&&decide (sc.names.map (·.1)).Nodup&&decide (ix.length=N'.length)&&
  sc.names.all (λx=>decide (x.2≠.free)||decide (on.lookup x.1=some .cell)||decide (on.lookup x.1=some .free))&&
  (List.range ix.length).all λi=>match ix[i]? with
   | some (some j)=>(match N'[i]? with
    | some x=>decide (N[j]?=some x)&&decide (sc.names.lookup x=some .free)
    | none=>false)
   | _=>true
theorem aT {X:Cx}{N':List Str}{ix:List (Option Nat)}{sc:Scope}(h:Ku X.env.scope.names X.N N' ix sc=true):iG X N' ix sc:=by
 unfold Ku at h
 simp only [Bool.and_eq_true,decide_eq_true_eq,List.all_eq_true,Bool.or_eq_true,List.mem_range] at h
 obtain⟨⟨⟨⟨⟨h1,h2⟩,h3⟩,h4⟩,h5⟩,h6⟩:=h
 refine⟨h1,h2,h3,h4,λx hx hk=>?_,λi j e=>?_⟩
 ·rcases h5 x hx with (q | q) | q
  ·exact absurd hk q
  ·exact .inl q
  ·exact .inr q
 ·have hi:i < ix.length:=(List.getElem?_eq_some_iff.mp e).1
  have q:=h6 i hi
  rw[e] at q
  dsimp only at q
  cases e2:N'[i]? with
  | none=>rw[e2] at q; cases q
  | some x=>
   rw[e2] at q
   simp only [Bool.and_eq_true,decide_eq_true_eq] at q
   exact⟨x,rfl,q.1,q.2⟩
theorem ah.new {H:Hp}{p:Addr}(h:H p=none)(o:HO):ah H (upd H p o):=λb u q=>by rw[aG (aW q h)]; exact q
theorem ah.put {H H':Hp}{p:Addr}(e:ah H H')(h:H p=none)(o:HO):ah H (upd H' p o):=λb u q=>by rw[aG (aW q h)]; exact e b u q
theorem ah.tup {K:PySem.W.Frag}{H H':Hp}{a:Addr}{xs:List V}(e:ah H H')(h:aK K H a xs):aK K H' a xs:=by
 rcases h with (h | ⟨o,h⟩) | h
 ·exact .inl (.inl (e a _ h))
 ·exact .inl (.inr ⟨o,e a _ h⟩)
 ·exact .inr h
section
variable {K:PySem.W.Frag}{ix:List (Option Nat)}{g:TG}{tf:TT}{te:TE}{σ:St}{H1:Hp}{Q:Addr->Hp->Prop}
theorem vG {a:Addr}{xs:List V}(hq:aE K H1 a xs)(hz:xs.length<=sizeLine)(Pv:Nat->List V->Hp->Prop)
  (h0:∀D,H1 D=none->Pv 0 [] (upd H1 D (.lst [])))
  (hs:∀D i x ys H (R1:VK) (R0:Hp->Prop),H1 D=none->xs[i]?=some x->ah H1 H->H D=some (.lst ys)->Pv i ys H->(∀v H6,ah H H6->Pv (i+1) (ys++[v]) (upd H6 D (.lst (ys++[v])))->R1 v H6)->
   (∀H5,ah H H5->Pv (i+1) ys H5->R0 H5)->g x (dM ix σ) H fun σ4 H4=>tf σ4 H4 λb H5=>if b=true then te σ4 H5 R1 else R0 H5)
  (hd:∀D ys H,H1 D=none->ah H1 H->H D=some (.lst ys)->ys.length<=xs.length->Pv xs.length ys H->Q D H):ee (rO K a) ix g tf te σ H1 Q:=by
 intro D hD
 refine⟨λi m ys H=>m=xs.length - i/\i<=xs.length/\ah H1 H/\ys.length<=i/\Pv i ys H,⟨xs.length,by simp,Nat.zero_le _,ah.new hD _,Nat.le_refl _,h0 D hD⟩,?_⟩
 rintro i m ys H ⟨rfl,hi,sm,hl,p⟩ bC
 have q:=sm.seq hq
 by_cases hlt:i < xs.length
 ·refine .inr ⟨⟨xs,xs[i],q,by simp [hlt]⟩,λx H3 y=>?_⟩
  obtain⟨e,y⟩:=y
  subst e
  refine hs D i x ys _ _ _ hD (y xs q) sm bC p (λv H6 r1 r2=>?_) λH5 r1 r2=>?_
  ·refine⟨r1 _ _ bC,by omega,xs.length - (i+1),by omega,rfl,hlt,(sm.trans r1).put hD _,?_,r2⟩
   rw[List.length_append,List.length_singleton]; omega
  ·exact⟨r1 _ _ bC,xs.length - (i+1),by omega,rfl,hlt,sm.trans r1,by omega,r2⟩
 ·have e:i=xs.length:=by omega
  subst e
  exact .inl ⟨⟨xs,q,Nat.le_refl _⟩,hd D ys H hD sm bC hl p⟩
theorem I_ {lo:Int}{n:Nat}(hz:n<=sizeLine)(Pv:Nat->List V->Hp->Prop)
  (h0:∀D,H1 D=none->Pv 0 [] (upd H1 D (.lst [])))
  (hs:∀D i ys H (R1:VK) (R0:Hp->Prop),H1 D=none->i < n->ah H1 H->H D=some (.lst ys)->Pv i ys H->(∀v H6,ah H H6->Pv (i+1) (ys++[v]) (upd H6 D (.lst (ys++[v])))->R1 v H6)->
   (∀H5,ah H H5->Pv (i+1) ys H5->R0 H5)->g (.int (lo+i)) (dM ix σ) H fun σ4 H4=>tf σ4 H4 λb H5=>if b=true then te σ4 H5 R1 else R0 H5)
  (hd:∀D ys H,H1 D=none->ah H1 H->H D=some (.lst ys)->ys.length<=n->Pv n ys H->Q D H):ee (vm lo n) ix g tf te σ H1 Q:=by
 intro D hD
 refine⟨λi m ys H=>m=n - i/\i<=n/\ah H1 H/\ys.length<=i/\Pv i ys H,⟨n,by simp,Nat.zero_le _,ah.new hD _,Nat.le_refl _,h0 D hD⟩,?_⟩
 rintro i m ys H ⟨rfl,hi,sm,hl,p⟩ bC
 by_cases hlt:i < n
 ·refine .inr ⟨hlt,λx H3 y=>?_⟩
  obtain⟨e,y⟩:=y
  subst e; subst y
  refine hs D i ys _ _ _ hD hlt sm bC p (λv H6 r1 r2=>?_) λH5 r1 r2=>?_
  ·refine⟨r1 _ _ bC,by omega,n - (i+1),by omega,rfl,hlt,(sm.trans r1).put hD _,?_,r2⟩
   rw[List.length_append,List.length_singleton]; omega
  ·exact⟨r1 _ _ bC,n - (i+1),by omega,rfl,hlt,sm.trans r1,by omega,r2⟩
 ·have e:i=n:=by omega
  subst e
  exact .inl ⟨Nat.le_refl _,hd D ys H hD sm bC hl p⟩
theorem uA {α β:Type}(f:α->β)(xs:List α)(i:Nat)(x:α)(h:xs[i]?=some x):(xs.take (i+1)).map f=(xs.take i).map f++[f x]:=by
 rw[List.take_succ,h]
 simp
theorem CI {a:Addr}{xs:List V}{i₀:Nat}(f:V->V)(hq:aE K H1 a xs)(hz:xs.length<=sizeLine)
  (hs:∀(i:Nat) (x:V) (H:Hp) (R:VK),xs[i]?=some x->ah H1 H->(∀H6,ah H H6->R (f x) H6)->te ((dM ix σ).set i₀ (some x)) H R)
  (hd:∀D H,H1 D=none->ah H1 H->H D=some (.lst (xs.map f))->Q D H):ee (rO K a) ix (fc i₀) yz te σ H1 Q:=by
 refine vG hq hz (λi ys _=>ys=(xs.take i).map f) (λD hD=>by simp) (λD i x ys H R1 R0 hD hx sm bC p k1 k0=>?_) λD ys H hD sm bC hl p=>?_
 ·show te ((dM ix σ).set i₀ (some x)) H R1
  exact hs i x H R1 hx sm λH6 s6=>k1 _ _ s6 (by rw[uA f xs i x hx,p])
 ·refine hd D H hD sm ?_
  rw[bC,p,List.take_length]
theorem fP {lo:Int}{n i₀:Nat}(f:Nat->V)(hz:n<=sizeLine)
  (hs:∀(i:Nat) (H:Hp) (R:VK),i < n->ah H1 H->(∀H6,ah H H6->R (f i) H6)->te ((dM ix σ).set i₀ (some (.int (lo+i)))) H R)
  (hd:∀D H,H1 D=none->ah H1 H->H D=some (.lst ((List.range n).map f))->Q D H):ee (vm lo n) ix (fc i₀) yz te σ H1 Q:=by
 refine I_ hz (λi ys _=>ys=(List.range i).map f) (λD hD=>by simp) (λD i ys H R1 R0 hD hi sm bC p k1 k0=>?_) λD ys H hD sm bC hl p=>?_
 ·show te ((dM ix σ).set i₀ (some (.int (lo+i)))) H R1
  exact hs i H R1 hi sm λH6 s6=>k1 _ _ s6 (by rw[List.range_succ,List.map_append,p]; rfl)
 ·refine hd D H hD sm ?_
  rw[bC,p]
end
end L2
namespace L2
open PySem PySem.Spec PyProof.Rows
section
variable {X:Cx}
theorem zB:∀{ys:List Str} {us:List Value},Vals (ys.map V.str) us->StrsAre us ys
 | [],_,h=>by cases h; exact .nil
 | y::ys,_,h=>by
  cases h with
  | cons r t=>
   obtain⟨tk,rfl⟩:=r
   exact .cons y tk (zB t)
def rJoin (K:PySem.W.Frag):V->List V->Hp->VK->Prop:=λx vs H Q=>∃sep a ys,x=.str sep/\vs=[.ref a]/\aE K H a (ys.map V.str)/\(ys.map (·.length)).sum+ys.length * sep.length<=16777216/\Q (.str (Txt.join sep ys)) H
theorem Ql:zu X "str.join" (rJoin X.K):=by
 intro pins s σ H x vs v us Q I rx rv h
 obtain⟨sep,a,ys,rfl,rfl,hq,hz,q⟩:=h
 obtain⟨t,rfl⟩:=rx
 obtain⟨u,rfl,ru⟩:=rv.one
 cases ru
 obtain⟨its,r,p,_⟩:=I.list hq
 exact join_list p.isList (by simpa using zB r) hz λt' k=>⟨.str _,H,I.tok _,⟨_,rfl⟩,q⟩
theorem Ja {h:Heap}{sl:Addr}{vl vu vs:Value}{lo hi st:Option Int}(hs:h.IsSliceOf sl vl vu vs)(pl:IsPart vl lo)(pu:IsPart vu hi)(ps:IsPart vs st) :
  ∃l u t,l.map (·.1)=lo/\u.map (·.1)=hi/\t.map (·.1)=st/\h.IsSlice sl l u t:=by
 obtain⟨o,ho,hc,hd⟩:=hs
 cases pl <;> cases pu <;> cases ps
 ·exact⟨none,none,none,rfl,rfl,rfl,o,ho,hc,hd⟩
 ·exact⟨none,none,some (_,_),rfl,rfl,rfl,o,ho,hc,hd⟩
 ·exact⟨none,some (_,_),none,rfl,rfl,rfl,o,ho,hc,hd⟩
 ·exact⟨none,some (_,_),some (_,_),rfl,rfl,rfl,o,ho,hc,hd⟩
 ·exact⟨some (_,_),none,none,rfl,rfl,rfl,o,ho,hc,hd⟩
 ·exact⟨some (_,_),none,some (_,_),rfl,rfl,rfl,o,ho,hc,hd⟩
 ·exact⟨some (_,_),some (_,_),none,rfl,rfl,rfl,o,ho,hc,hd⟩
 ·exact⟨some (_,_),some (_,_),some (_,_),rfl,rfl,rfl,o,ho,hc,hd⟩
def zC (x:Str)(lo hi st:Option Int):Str:=
 if ((st.getD 1 == 1&&(Builtin.Str.strSliceIndices lo hi (st.getD 1) x.length).length == x.length)=true) then x else ⟨((Builtin.Str.strSliceIndices lo hi (st.getD 1) x.length).filterMap (x.cps[·]?)).toArray⟩
theorem Ky (x:Str)(lo hi st:Option Int)(h0:st.getD 1≠0):(zC x lo hi st).length<=x.length:=by
 unfold zC
 split
 ·exact Nat.le_refl _
 ·show (List.filterMap _ _).toArray.size<=x.length
  rw[List.size_toArray]
  exact Nat.le_trans (List.length_filterMap_le _ _) (sliceIndicesBy_le _ _ _ h0 x.length)
theorem zD {pins:List (Addr × Obj)}{s:Shared}{σ:St}{H:Hp}{x:Str}{t:Tok}{sl:Addr}{vl vu vs:Value}{lo hi st:Option Int}{Q:VK}(I:Inv X pins σ H s)(hs:s.heap.IsSliceOf sl vl vu vs)(pl:IsPart vl lo)(pu:IsPart vu hi)(ps:IsPart vs st)
  (h0:st.getD 1≠0) (hz:x.length<=sizeLine) (q:Q (.str (zC x lo hi st)) H):wpAny (model X.prog X.w) X.A (getItem (.str x t) (.ref sl)) (EP X pins σ Q) X.xe s:=by
 obtain⟨l,u,t',e1,e2,e3,z⟩:=Ja hs pl pu ps
 have Sj:(t'.map (·.1)).getD 1=st.getD 1:=by rw[e3]
 have hb:((t'.map (·.1)).getD 1 == 0)=false:=by rw[Sj]; simpa using h0
 refine wpAny_getItem_str_slice z hb ?_
 have hp:slicePicked x l u t'=Builtin.Str.strSliceIndices lo hi (st.getD 1) x.length:=by unfold slicePicked; rw[e1,e2,Sj]
 unfold sliceMade
 rw[hp,Sj]
 exact post_val_or_str ⟨Nat.le_trans (Ky x lo hi st h0) hz,λt'' k=>⟨.str _,H,I.tok _,⟨_,rfl⟩,q⟩⟩
variable {e:Expr}{te:TE}{pos p2 p3 p4:Pos}
def ME (K:PySem.W.Frag)(te:TE):TE:=fun σ H Q=>te σ H λx H1=>(∃y,x=.str y/\y.length<=sizeLine/\Q (.str (zC y none none (some (-1)))) H1)\/
 ∃a xs,x=.ref a/\aE K H1 a xs/\∀p,H1 p=none->Q (.ref p) (upd H1 p (.lst xs.reverse))
theorem BX {α:Type}(xs:List α):∀k:Nat,(List.range k).filterMap (xs[·]?)=xs.take k
 | 0=>by simp
 | k+1=>by
  rw[List.range_succ,List.filterMap_append,BX xs k,List.take_succ]
  cases e:xs[k]? <;> simp [e]
theorem Qm (n:Nat):sliceRange ((n:Int) - 1) (-1) (-1)=(List.range n).reverse:=by
 unfold sliceRange
 dsimp only
 rw[if_neg (by decide)]
 have hc:(if ((n:Int) - 1) > -1 then ((n:Int) - 1 - -1 - -1 - 1) / (- -1) else 0)=(n:Int):=by
  split
  ·rw[show (- -1:Int)=1 by decide,Int.ediv_one]; omega
  ·omega
 rw[hc,Int.toNat_natCast]
 refine List.ext_getElem (by simp) λi h1 h2=>?_
 have hi:i < n:=by simpa using h1
 simp only [List.getElem_map,List.getElem_range,List.getElem_reverse,List.length_range]
 omega
theorem MG {α:Type}(xs:List α):((sliceRange ((xs.length:Int) - 1) (-1) (-1)).filterMap (xs[·]?))=xs.reverse:=by
 rw[Qm,List.filterMap_reverse,BX,List.take_length]
theorem MH (its:List Value):slicePick its.toArray none none (some (-1))=its.reverse.toArray:=by
 unfold slicePick sliceBounds
 have e:=MG its
 simp only [Option.getD_some,show ¬ ((-1:Int) > 0) by decide,if_false,List.size_toArray]
 rw[←e]
 simp
theorem Sk {j:Nat}(he:PE X e te):PE X (.Subscript e (.Slice none none (some (.UnaryOp .USub (.Constant (.int 1) j p4) p3)) p2) pos) (ME X.K te):=by
 intro pins s σ H Q I h
 refine Subscript_ (aN (he pins s σ H _ I h) λv s1 ⟨x,H1,I1,r1,q1⟩=>?_)
 refine wpAny_Slice ?_
 rw[evalPart_none]
 refine wpAny_pure (wpAny_pure ?_)
 rw[evalPart_some]
 refine aN (qB nJ aq pins s1 σ H1 (λy H2=>y=.int (-1)/\H2=H1) I1 ⟨1,rfl,rfl,rfl⟩) λvs s2 ⟨y,H2,I2,r2,e1,e2⟩=>?_
 subst e1; subst e2
 obtain⟨tk,rfl⟩:=r2
 have I3:Inv X pins σ H2 { s2 with heap:=s2.heap.push { cls:=.type "slice",data:=.fields #[.none,.none,.int (-1) tk] } }:=I2.kept (t':=s2.toks) λb ob q=>Heap.get?_push_of_some _ q
 have hsl:(s2.heap.push { cls:=.type "slice",data:=.fields #[Value.none,.none,.int (-1) tk] }).IsSliceOf s2.heap.objs.size .none .none (.int (-1) tk):=⟨_,Heap.get?_push_size _ rfl,rfl,rfl⟩
 show wpAny (model X.prog X.w) X.A (subscriptTail e _ v (.ref s2.heap.objs.size)) (EP X pins σ Q) X.xe { s2 with heap:=s2.heap.push { cls:=.type "slice",data:=.fields #[.none,.none,.int (-1) tk] } }
 rcases q1 with ⟨y,rfl,hz,q⟩ | ⟨a,xs,rfl,hx,q⟩
 ·obtain⟨t,rfl⟩:=r1
  exact tail_any (ops:=[.str y t,.ref s2.heap.objs.size]) (typeIs_str _ _ _) F.slot_str_getitem.lookup (zD I3 hsl .none .none (.int _ _) (by decide) hz q) (by with_unfolding_all rfl)
 ·cases r1
  obtain⟨its,r,ht,hz⟩:=I3.list hx
  refine tail_any (ops:=[.ref a,.ref s2.heap.objs.size]) ht.isList.typeIs slot_list_getitem.lookup (wpAny_getItem_list_slice ht.isList hsl .none .none (.int _ _) (by decide) ?_ (by rw[List.size_toArray,←r.length]; exact hz)) (by with_unfolding_all rfl)
  rw[MH]
  refine⟨.ref _,_,I3.IV (t':=s2.toks) (ys:=xs.reverse) r.reverse (by rw[List.length_reverse]; exact hz),rfl,q _ I3.fresh⟩
theorem MI:dJ X (.builtin "all") (λxs H Q=>X.calm=true/\∃(a:Addr) (bs:List Bool),xs=[.ref a]/\aE X.K H a (bs.map V.bl)/\Q (.bl (bs.all λb=>b)) H):=by
 intro pins s σ H xs us Q I r h
 obtain⟨hc,a,bs,rfl,hq,q⟩:=h
 obtain⟨u,rfl,ru⟩:=vals1 r
 cases ru
 obtain⟨its,rv,p,hz⟩:=I.list hq
 have hlen:=rv.length
 rw[List.length_map] at hlen
 refine call_all_walk (wpAny_pyIter_list p.isList ?_)
 have ha:a≠s.heap.objs.size:=by obtain⟨o,n,e,_⟩:=p; exact Nat.ne_of_lt (Heap.lt_size e)
 refine⟨s.heap.objs.size,_,_,_,_,_,λi=>(bs[i]?).getD true,rfl,Walks.list (by rw[Around.in1_handled]; exact I.ok.hd hc) s.heap.objs.size a ha its.toArray,?_,?_,λh' tk k=>?_⟩
 ·exact⟨⟨_,Heap.get?_push_size _ rfl,rfl,rfl⟩,p.isList.push _⟩
 ·intro i v s' Q' E' hv hq'
  have hv':its.toArray[i]?=some v:=hv
  have hi:its[i]?=some v:=by simpa using hv'
  have hil:i < bs.length:=by rw[hlen]; exact (List.getElem?_eq_some_iff.mp hi).1
  obtain⟨u',D_,Zo⟩:=rv.get (i:=i) (x:=.bl bs[i]) (by rw[List.getElem?_map,List.getElem?_eq_getElem hil]; rfl)
  rw[hi] at D_
  cases D_
  cases Zo
  have hq2:Q' ((bs[i]?).getD true) s':=hq'
  rw[List.getElem?_eq_getElem hil] at hq2
  exact wpAny_truthy_bool hq2
 ·have e:(List.range its.toArray.size).all (λi=>(bs[i]?).getD true)=bs.all λb=>b:=by
   rw[List.size_toArray,←hlen]
   rw[Bool.eq_iff_iff]
   simp only [List.all_eq_true,List.mem_range]
   constructor
   ·intro z b hb
    obtain⟨i,hi,e⟩:=List.mem_iff_getElem.mp hb
    have:=z i hi
    rw[List.getElem?_eq_getElem hi] at this
    rw[←e]; exact this
   ·intro z i hi
    rw[List.getElem?_eq_getElem hi]
    exact z _ (List.getElem_mem hi)
  rw[e]
  have I2:Inv X pins σ H { s with heap:=s.heap.push { cls:=.type "list_iterator",data:=.fields #[.ref a,.int 0 0] } }:=I.kept (t':=s.toks) λb o e=>Heap.get?_push_of_some _ e
  exact⟨.bl _,H,I.kept (t':=tk) (h':=h') λb o e=>k b o (by simp; exact Nat.ne_of_lt (Heap.lt_size e)) (Heap.get?_push_of_some _ e),rfl,q⟩
def Kz (f:Nat->V)(n:Nat):It:=⟨λi _=>i < n,λi H x H'=>H'=H/\x=f i,λi _=>n<=i⟩
def zE (x:Str)(i:Nat):V:=.str ⟨#[x.cps.getD i 0]⟩
theorem Ea {P:Program}{w:World}{K:PySem.W.Frag}{tg:Expr}(it:Addr)(ty:String)(x:Str)(t:Tok)(hty:["enumerate","zip","dict_itemiterator","dict_reverseitemiterator","odict_iterator","itertools.zip_longest","itertools.pairwise"].contains ty=false)
  (wi:∀(A:Around) (s:Shared) (i c:Nat) (Q:Option Value->Shared->Prop) (E:Value->Shared->Prop),s.heap.IsStrIter it ty x t i->x.cps[i]?=some c->(∀h',h'.IsStrIter it ty x t (i+1)->Heap.SameBut it s.heap h'->Q (some (.str ⟨#[c]⟩ s.toks)) { s with heap:=h',toks:=s.toks+1 })->wpAny (model P w) A (pyNext (.ref it)) Q E s)
  (we:∀(A:Around) (s:Shared) (i:Nat) (Q:Option Value->Shared->Prop) (E:Value->Shared->Prop),A.handled=none->s.heap.IsStrIter it ty x t i->x.cps[i]?=none->(∀h',Heap.ExtBut it s.heap h'->Q none { s with heap:=h' })->wpAny (model P w) A (pyNext (.ref it)) Q E s)
  (ws:∀(A:Around) (s:Shared) (i:Nat) (Q:Value->Shared->Prop) (E:Value->Shared->Prop),s.heap.IsStrIter it ty x t i->Q (.ref it) s->wpAny (model P w) A (pyIter (.ref it)) Q E s) :
  Turn P w K tg (Kz (zE x) x.cps.size) [it] it (λi h=>h.IsStrIter it ty x t i) where
 mem:=by simp
 obj:=λi h st b hb=>by
  have e:b=it:=by simpa using hb
  subst e
  obtain⟨o,e,c,d⟩:=st
  exact⟨o,e,λv z=>by rw[d] at z; cases z⟩
 keep:=λi h h' st k=>by
  obtain⟨o,e,r⟩:=st
  exact⟨o,k it (by simp) o e,r⟩
 item:=by
  intro X hP hw hK hc i pins s σ H E I hf st hg
  subst hP hw hK
  obtain⟨f0,f1,f2,f3,f4,f5⟩:=hf it (by simp)
  have hi:i < x.cps.size:=hg
  refine wi X.A s i x.cps[i] _ _ st (Array.getElem?_eq_getElem hi) λh' st' sb=>?_
  have I1:Inv X pins σ H { s with heap:=h',toks:=s.toks+1 }:=I.turned (λb o hb e=>(sb.2 b hb).trans e) f0 f1 f3 f4 f5
  obtain⟨o,e,ec,ed⟩:=id st'
  refine⟨_,rfl,zk (s:={ s with heap:=h',toks:=s.toks+1 }) e ec ed hty ⟨zE x i,H,I1,⟨s.toks,?_⟩,⟨rfl,rfl⟩,st',λb hb=>(hf b hb).1⟩⟩
  have:x.cps.getD i 0=x.cps[i]:=by rw[Array.getD_eq_getD_getElem?,Array.getElem?_eq_getElem hi]; rfl
  rw[this]
 done:=by
  intro X hP hw hK hc i pins s σ H E I hf st hg
  subst hP hw hK
  obtain⟨f0,f1,f2,f3,f4,f5⟩:=hf it (by simp)
  have hi:x.cps.size<=i:=hg
  exact we X.A s i _ _ (I.ok.hd hc) st (Array.getElem?_eq_none hi) λh' eb=>⟨rfl,I.turned (t':=s.toks) (λb o hb e=>eb b o hb e) f0 f1 f3 f4 f5⟩
 self:=λA i s Q E st h=>ws A s i Q E st h
def Sl (tl:TE):TI:=fun σ H R=>tl σ H λx H1=>∃y,x=.str y/\R (Kz (zE y) y.cps.size) H1
theorem KA {tg l:Expr}{tl:TE}(hl:PE X l tl):PI X tg l (Sl tl):=by
 intro pins s σ H R I h
 refine aN (hl pins s σ H _ I h) λv s1 ⟨x,H1,I1,r1,q1⟩=>?_
 obtain⟨y,e,q⟩:=q1
 subst e
 obtain⟨t,rfl⟩:=r1
 have fin:∀(o:Obj),∀b∈[s1.heap.objs.size],jt X pins H1 b:=λo b hb=>by
  have e:b=s1.heap.objs.size:=by simpa using hb
  subst e
  exact I1.yo (Nat.le_refl _) (I1.hok.fresh (Nat.le_refl _))
 cases ha:y.cps.all (· < 128)
 ·refine wpAny_pyIter_wide ha ?_
  exact⟨s1.heap.objs.size,[s1.heap.objs.size],_,_,H1,rfl,I1.kept (t':=s1.toks) λb o e=>Heap.get?_push_of_some _ e,
   Ea _ "str_iterator" y t (by decide) (λA s i c Q E st hx k=>wpAny_pyNext_wide_item st hx k) (λA s i Q E hh st hx k=>wpAny_pyNext_wide_end hh st hx k) (λA s i Q E st k=>wpAny_pyIter_striter_wide st k),
   ⟨_,Heap.get?_push_size _ rfl,rfl,rfl⟩,fin default,q⟩
 ·refine wpAny_pyIter_ascii ha ?_
  exact⟨s1.heap.objs.size,[s1.heap.objs.size],_,_,H1,rfl,I1.kept (t':=s1.toks) λb o e=>Heap.get?_push_of_some _ e,
   Ea _ "str_ascii_iterator" y t (by decide) (λA s i c Q E st hx k=>wpAny_pyNext_ascii_item st hx k) (λA s i Q E hh st hx k=>wpAny_pyNext_ascii_end hh st hx k) (λA s i Q E st k=>wpAny_pyIter_striter_ascii st k),
   ⟨_,Heap.get?_push_size _ rfl,rfl,rfl⟩,fin default,q⟩
end
end L2
namespace L2
open PySem PySem.Spec PyProof.Rows
structure vH (P:Program)(w:World)(outer:List Env)(H:Hp)(s:Shared)(a:Addr)(cls a0:Value)(B:Heap)(H':Hp)(s':Shared):Prop where
 os:s'.os=s.os
 bare:AllBare s'.gens
 un:Un (frs outer) [] H H' s.heap s'.heap
 hok:fO P w H' s'.heap
 new:s.heap.get? a=none
 out:H' a=none
 KC:Heap.FlyingW B outer a cls a0 s'.heap
 Sn:∀b o,s.heap.get? b=some o->b∉frs outer->∃o',B.get? b=some o'
 VP:∀b u,H' b=some u->∃o',B.get? b=some o'
theorem bE.obj {P:Program}{w:World}{H:Hp}{h:Heap}{a:Addr}{o:HO}(x:bE P w H h a o):∃ob,h.get? a=some ob:=by
 cases o with
 | lst xs=>obtain⟨_,_,_,_,e⟩:=x; exact⟨_,e⟩
 | tup xs=>obtain⟨_,_,_,ob,e,_⟩:=x; exact⟨_,e⟩
 | dK kvs=>obtain⟨_,_,_,_,o,_,_,e,_⟩:=x; exact⟨_,e⟩
 | dT kvs=>obtain⟨_,_,_,_,o,_,_,e,_⟩:=x; exact⟨_,e⟩
 | set S n=>obtain⟨o,_,_,_,e,_⟩:=x; exact⟨_,e⟩
 | ins C dx fs=>obtain⟨_,_,_,e,_⟩:=x; exact⟨_,e⟩
 | own y=>exact x
 | xd fs=>obtain⟨_,⟨_,_,_,e,_⟩,_⟩:=x; exact⟨_,e⟩
 | Oh lo hi=>obtain⟨_,_,_,e⟩:=x; exact⟨_,e⟩
 | mG ob u=>obtain⟨e,_⟩:=x; exact⟨_,e⟩
 | BJ ps=>exact⟨_,(show h.get? a=some _ from x)⟩
 | met f y=>exact⟨_,(show h.get? a=some _ from x)⟩
 | ext φ=>obtain⟨_,e,_⟩:=x; exact e
def bR (P:Program)(w:World):qC:=λouter H s E e s'=>∃(a:Addr) (cls a0:Value) (B:Heap) (H':Hp),e=.ref a/\vH P w outer H s a cls a0 B H' s'/\E cls none H'
section
variable {P:Program}{w:World}{outer:List Env}{H H':Hp}{s s':Shared}{a:Addr}{cls a0:Value}{B h5:Heap}
theorem vH.VQ (F:vH P w outer H s a cls a0 B H' s'):∀b∈frs outer,B.get? b=none/\∃o,s'.heap.get? b=some o/\∀vs,o.data≠.fields vs:=λb hb=>F.KC.2.2.1.mem hb
theorem vH.un' (F:vH P w outer H s a cls a0 B H' s')(st:B.StaysIn h5)(us:s'.heap.UpToSlots h5):Un (frs outer) [] H H' s.heap h5 where
 keep:=λb o e n hb hx=>by
  have e1:=F.un.keep b o e n hb hx
  obtain⟨o',e2⟩:=F.Sn b o e hb
  have e3:=F.KC.1 b o' e2
  rw[e1] at e3
  cases e3
  exact st b o e2
 slot:=λb o e n hb hx=>by
  obtain⟨sl,e1⟩:=F.un.slot b o e n hb hx
  obtain⟨_,o2,e2,d2⟩:=F.VQ b hb
  rw[e1] at e2
  cases e2
  obtain⟨vh,e3⟩:=us b _ e1 d2
  exact⟨vh,e3⟩
 free:=F.un.free
 there:=λb o e hx=>by
  by_cases hb:b∈frs outer
  ·obtain⟨_,o2,e2,d2⟩:=F.VQ b hb
   obtain⟨vh,e3⟩:=us b _ e2 d2
   exact⟨_,e3⟩
  ·obtain⟨o',e2⟩:=F.Sn b o e hb
   exact⟨o',st b o' e2⟩
 tups:=F.un.tups
 jr:=F.un.jr
 kg:=F.un.kg
theorem vH.D6 (F:vH P w outer H s a cls a0 B H' s')(st:B.StaysIn h5):fO P w H' h5:=λb u e=>by
 refine (F.hok b u e).stay (λc v hc q=>?_) (λ_ q=>q) λ_ _ q=>q
 have:∃u',H' c=some u':=by
  rcases hc with z | z
  ·exact⟨u,z ▸ e⟩
  ·exact⟨_,z⟩
 obtain⟨u',z⟩:=this
 obtain⟨o',e2⟩:=F.VP c u' z
 have e3:=F.KC.1 c o' e2
 rw[q] at e3
 cases e3
 exact st c v e2
end
section
variable {X:Cx}{pins:List (Addr × Obj)}{σ:St}{H H':Hp}{s s':Shared}{a:Addr}{cls a0:Value}{B:Heap}{M:Model}{E:Value->Shared->Prop}{Q:Unit->Shared->Prop}
theorem KD (I:Inv X pins σ H s)(hx:X.ex=[])(hst:X.stack=X.env::X.outer)(hfr:X.env.frame=some X.env.locals)(F:vH X.prog X.w X.stack H s a cls a0 B H' s')
  (h:∀s'',vH X.prog X.w X.outer X.H₀ X.s₀ a cls a0 B H' s''->Q () s''):wpAny M X.A (leaving X.env (.ref a)) Q E s':=by
 have fl:Heap.FlyingW B (X.env::X.outer) a cls a0 s'.heap:=hst ▸ F.KC
 refine wpAny_leaves_onW (by rw[I.ok.frames,hst]) hfr fl λh5 xM us=>h _ ?_
 have u:=F.un' xM.1 us
 have sub:∀b,b∈frs X.stack↔b=X.env.locals\/b∈X.fs:=λb=>by
  rw[hst]
  unfold frs
  rw[List.filterMap_cons,hfr]
  exact List.mem_cons
 have ne:∀b o,X.s₀.heap.get? b=some o->b≠X.env.locals:=λb o e=>Nat.ne_of_lt (Nat.lt_of_lt_of_le (Heap.lt_size e) I.ok.above)
 have nx:∀b,b∉X.ex:=λb=>by rw[hx]; simp
 have nin:∀b o,X.s₀.heap.get? b=some o->b∉X.fs->b∉frs X.stack:=λb o e hb z=>by
  rcases (sub b).mp z with q | q
  ·exact ne b o e q
  ·exact hb q
 refine⟨F.os.trans I.os,F.bare,⟨λb o e n hb _=>?_,λb o e n hb _=>?_,λb o e n _=>?_,λb o e _=>?_,λb xs e=>u.tups b xs (I.base.tups b xs e),λb o v e=>u.jr b o v (I.base.jr b o v e),λb ps e=>?_⟩,F.D6 xM.1,?_,F.out,xM,λb o e hb=>?_,F.VP⟩
 ·exact u.keep b o (I.base.keep b o e n hb (nx b)) (I.base.free b o e n (nx b)) (nin b o e hb) (by simp)
 ·obtain⟨sl,e1⟩:=I.base.slot b o e n hb (nx b)
  obtain⟨vh,e2⟩:=u.slot b _ e1 (I.base.free b o e n (nx b)) ((sub b).mpr (.inr hb)) (by simp)
  exact⟨vh,e2⟩
 ·obtain⟨o',e1⟩:=I.base.there b o e (nx b)
  exact u.free b o' e1 (I.base.free b o e n (nx b)) (by simp)
 ·obtain⟨o',e1⟩:=I.base.there b o e (nx b)
  exact u.there b o' e1 (by simp)
 ·obtain⟨m1,e1⟩:=I.base.kg b ps e
  obtain⟨m2,e2⟩:=u.kg b _ e1
  exact⟨m1++m2,by rw[e2,Array.append_assoc]⟩
 ·cases q:X.s₀.heap.get? a with
  | none=>rfl
  | some o=>
   obtain⟨o',e1⟩:=I.base.there a o q (nx a)
   rw[F.new] at e1; cases e1
 ·obtain⟨o',e1⟩:=I.base.there b o e (nx b)
  exact F.Sn b o' e1 (nin b o e hb)
theorem MJ {h2:Heap}{args:List Value}(I:Inv X pins σ H s)(hx:X.ex=[])(hst:X.stack=X.env::X.outer)(hfr:X.env.frame=some X.env.locals)(hm:Heap.MadeExcOf s.heap h2 a cls args)
  (h:∀B a0 s'',vH X.prog X.w X.outer X.H₀ X.s₀ a cls a0 B H s''->Q () s''):wpAny M X.A (leaving X.env (.ref a)) Q E { s with heap:=h2 }:=by
 have Xm:s.heap.FunFrames X.base (X.env::X.outer):=hst ▸ I.stack
 have hin:∀env∈(X.env::X.outer),∀b,env.frame=some b->b∈frs X.stack:=λenv he b hb=>by rw[hst]; exact List.mem_filterMap.mpr ⟨env,he,hb⟩
 refine wpAny_leaves_madeW (base:=PySem.W.hideAll s.heap (frs X.stack)) (h:=s.heap) (by rw[I.ok.frames,hst]) hfr (λb o q=>PySem.W.of_hideAll _ q) (PySem.W.funFrames_hide Xm hin) hm λh5 t xM _ _ us=>h (PySem.W.hideAll s.heap (frs X.stack)) (.ref t) _ ?_
 have sub:∀b,b∈frs X.stack↔b=X.env.locals\/b∈X.fs:=λb=>by
  rw[hst]
  unfold frs
  rw[List.filterMap_cons,hfr]
  exact List.mem_cons
 have ne:∀b o,X.s₀.heap.get? b=some o->b≠X.env.locals:=λb o e=>Nat.ne_of_lt (Nat.lt_of_lt_of_le (Heap.lt_size e) I.ok.above)
 have nx:∀b,b∉X.ex:=λb=>by rw[hx]; simp
 have nin:∀b o,X.s₀.heap.get? b=some o->b∉X.fs->b∉frs X.stack:=λb o e hb z=>by
  rcases (sub b).mp z with q | q
  ·exact ne b o e q
  ·exact hb q
 have inBs:∀b o,s.heap.get? b=some o->b∉frs X.stack->(PySem.W.hideAll s.heap (frs X.stack)).get? b=some o:=λb o e hb=>PySem.W.hideAll_get _ e hb
 have tr:∀b u,H b=some u->∃o,s.heap.get? b=some o/\b∉frs X.stack:=λb u e=>by
  obtain⟨ob,q⟩:=(I.hok b u e).obj
  refine⟨ob,q,λz=>?_⟩
  rw[I.wW b z] at e; cases e
 have kp:∀b o,s.heap.get? b=some o->b∉frs X.stack->h5.get? b=some o:=λb o e hb=>xM.1 b o (inBs b o e hb)
 have VR:∀b o,s.heap.get? b=some o->b∈frs X.stack->∃sl,h5.get? b=some { o with slots:=sl }:=λb o e hb=>by
  obtain⟨_,o2,e2,d2⟩:=I.stack.mem hb
  rw[e] at e2; cases e2
  exact us b o (hm.keeps b o e) d2
 refine⟨I.os,I.bare,⟨λb o e n hb _=>?_,λb o e n hb _=>?_,λb o e n _=>I.base.free b o e n (nx b),λb o e _=>?_,I.base.tups,I.base.jr,I.base.kg⟩,λb u e=>?_,?_,?_,xM,λb o e hb=>?_,λb u e=>?_⟩
 ·exact kp b o (I.base.keep b o e n hb (nx b)) (nin b o e hb)
 ·obtain⟨sl,e1⟩:=I.base.slot b o e n hb (nx b)
  obtain⟨vh,e2⟩:=VR b _ e1 ((sub b).mpr (.inr hb))
  exact⟨vh,e2⟩
 ·obtain⟨o',e1⟩:=I.base.there b o e (nx b)
  by_cases hb:b∈frs X.stack
  ·obtain⟨vh,e2⟩:=VR b _ e1 hb
   exact⟨_,e2⟩
  ·exact⟨o',kp b o' e1 hb⟩
 ·refine (I.hok b u e).stay (λc v hc q=>?_) (λ_ q=>q) λ_ _ q=>q
  refine kp c v q λz=>?_
  have z':=I.wW c z
  rcases hc with y | y
  ·rw[y,e] at z'; cases z'
  ·rw[y] at z'; cases z'
 ·cases q:X.s₀.heap.get? a with
  | none=>rfl
  | some o=>
   obtain⟨o',e1⟩:=I.base.there a o q (nx a)
   rw[hm.new] at e1; cases e1
 ·cases q:H a with
  | none=>rfl
  | some u=>
   obtain⟨o,e,_⟩:=tr a u q
   rw[hm.new] at e; cases e
 ·obtain⟨o',e1⟩:=I.base.there b o e (nx b)
  exact⟨o',inBs b o' e1 (nin b o e hb)⟩
 ·obtain⟨o,e1,e2⟩:=tr b u e
  exact⟨o,inBs b o e1 e2⟩
theorem Qn {h5:Heap}(I:Inv X pins σ H s)(F:vH X.prog X.w X.stack H s a cls a0 B H' s')(st:B.StaysIn h5)(us:s'.heap.UpToSlots h5):Inv X pins σ H' { s' with heap:=h5 }:=
 I.IB (s':={ s' with heap:=h5 }) (ch:=[]) F.os (F.un' st us) (F.D6 st) F.bare λb hb=>absurd hb (by simp)
end
structure zF (K:PySem.W.Frag)(mg:Str->Option Value)(x:Str)(C:Addr):Prop where
 mg:mg x=some (.ref C)
 ok:PySem.W.excIn K C [.type "ValueError",.type "Exception",.type "BaseException",.type "object"] "ValueError.__new__"=true
theorem Qo {K:PySem.W.Frag}{h:Heap}{C:Addr}{bmB:List Value}{newId:String}(X:K.In h)(q:PySem.W.excIn K C bmB newId=true) :
  ∃bm N nm qn bs hdct sn sub ab col dd k0 k1 k2 k3 k5 mN,h.get? C=some (excClassObj nm qn C N bs bm hdct sn sub ab col dd k0 k1 k2 k3 k5 newId)/\h.Ns N mN/\mN "__init__"=none/\OwnTail h bmB bm:=by
 unfold PySem.W.excIn at q
 split at q
 ·rename_i dd cd sl ho
  split at q
  ·rename_i C' bm k0 k1 k2 k3 n k5 hm hs
   simp only [Bool.and_eq_true,beq_iff_eq,Bool.not_eq_true'] at q
   obtain⟨⟨⟨⟨⟨e1,e2⟩,So⟩,ht⟩,hok⟩,hni⟩:=q
   subst e1; subst e2
   obtain⟨nm,bs,mro,ns,qn,hd,sn,sub,ab,col,del⟩:=cd
   dsimp only at hm So hok hni
   subst hm; subst So
   obtain⟨l⟩:=sl
   have hs':l=[k0,k1,k2,k3,some (.builtin n),k5]:=hs
   subst hs'
   exact⟨bm,ns,nm,qn,bs,hd,sn,sub,ab,col,dd,k0,k1,k2,k3,k5,_,X _ _ ho,.of_isNs (PySem.W.isNs_of_in X hok),PySem.W.nsMap_none_of_in X hok hni,PySem.W.tail_of_in X ht⟩
  ·cases q
 ·cases q
def Eb (X:Cx)(E:XK):Prop:=∀e s',wpAny (model X.prog X.w) X.A (leaving X.env e) (λ_ s''=>bR X.prog X.w X.outer X.H₀ X.s₀ E e s'') (λe' s''=>bR X.prog X.w X.outer X.H₀ X.s₀ E e' s'') s'->X.xe e s'
section
variable {X:Cx}{E E':XK}{x:Str}{C:Addr}{e₀:Expr}{rest:List Expr}{ta:TA}{np cpos pos:Pos}
def Sq (C:Addr)(E:XK)(ta:TA):TS:=λ_ σ H=>ta σ H λvs H1=>vs.length<=sizeLine/\E (.ref C) none H1
theorem yD (hR:Eb X E)(hx:X.ex=[])(hst:X.stack=X.env::X.outer)(hfr:X.env.frame=some X.env.locals)(hc:X.calm=true)(K:zF X.K X.mg x C)(hg:Gl X x)(ha:PA X (e₀::rest) ta)
  (he:starEach (e₀::rest) X.env=(false,eval e₀ X.env)::starEach rest X.env:=by rfl) (hp:(backTo cpos (starEach rest X.env)).any (·.1)=false:=by rfl) (hd:(x == ("__debug__":Str))=false:=by decide) :
  PS X (.Raise (some (.Call (.Name x np) (e₀::rest) [] cpos)) none pos) (Sq C E ta):=by
 intro pins s σ H D I h
 obtain⟨bm,N,nm,qn,bs,hdct,sn,sub,ab,col,dd,k0,k1,k2,k3,k5,mN,hC,hN,hni,T⟩:=Qo I.mod.GJ K.ok
 refine wpAny_Raise_call_subU (C:=C) (nm:=nm) (q:=qn) (N:=N) (bs:=bs) (bm:=bm) (hdct:=hdct) (sn:=sn) (sub:=sub) (ab:=ab) (col:=col) (dd:=dd) (k0:=k0) (k1:=k1) (k2:=k2) (k3:=k3) (k5:=k5)
  PySem.F.excBase_ValueError rfl PySem.F.excBase_ValueError (mN:=mN) (T.hasType PySem.F.excBase_ValueError.hasBase) (I.ok.hd hc) (by rw[he]; exact hp) hni (oY I hg K.mg ⟨rfl,?_⟩ hd)
 have r:=ha cpos pins s σ H _ I h
 rw[he] at r ⊢
 refine Calls.evalArgs_plain (aN r λus s1 ⟨vs,H1,I1,rv,hl,q⟩=>?_)
 refine⟨rfl,by rw[←rv.length]; exact hl,I1.bk _ _ hC,hN.keeps I1.bk,T.keeps I1.bk,λh' e hm=>hR _ _ ?_⟩
 exact MJ I1 hx hst hfr hm λB a0 s'' F=>⟨e,_,a0,B,H1,rfl,F,q⟩
theorem bg (hR:Eb X E)(hx:X.ex=[])(hst:X.stack=X.env::X.outer)(hfr:X.env.frame=some X.env.locals)(hE:∀c d H',E' c d H'->E c d H'):Passes (bR X.prog X.w) X E':=by
 intro pins σ H s e s' I h
 obtain⟨a,cls,a0,B,H',rfl,F,q⟩:=h
 exact hR _ _ (KD I hx hst hfr F λs'' F'=>⟨a,cls,a0,B,H',rfl,F',hE _ _ _ q⟩)
end
theorem nL.jg {P:Program}{w:World}{K:PySem.W.Frag}{mg:Str->Option Value}{base:Heap}{x qual:Str}{st:Stmt}{f:Addr}{fd:FuncData}{N ps:List Str}{k:Nat}{sp:Sp}(F:nL K x qual st f fd)(S:aI N ps (aC st))(len:∀vs H Q E,sp vs H Q E->vs.length=ps.length)
  (hbody:∀(cdv:Value) (A:Around) (outer:List Env) (s:Shared) (H:Hp) (vs:List V) (Q:VK) (E:XK),cU k (A.deeper (envOfC qual (aC st) s.heap.objs.size f cdv))->sp vs H Q E->
   ∃t,nG (vB (bR P w) P w K mg base N qual (aC st) f cdv A outer s H E) (ff st) t/\t { nx:=λ_ H'=>Q .aR H',rt:=Q } (start N vs) H):aA P w K mg base (bR P w) (k+1) f fd ps sp:=by
 obtain⟨oc,od,kV,doc,pm,an,cdv,ct,osl,rfl,lk,hcd⟩:=F.ex
 exact OA lk hcd S len λA outer s H vs Q E hr hsp=>hbody cdv A outer s H vs Q E hr hsp
theorem bz {P:Program}{w:World}{K:PySem.W.Frag}{mg:Str->Option Value}{base:Heap}{N:List Str}{qual:Str}{scope:Scope}{f:Addr}{cd:Value}{A:Around}{outer:List Env}{s:Shared}{H:Hp}{E:XK} :
  Eb (vB (bR P w) P w K mg base N qual scope f cd A outer s H E) E:=λ_ _ h=>h
def yE (a:Addr)(cls:Value):HO:=.ext λh=>∃o vs,h.get? a=some o/\o.cls=cls/\o.data=.fields vs
abbrev Cx.guard (X:Cx) (ps:List (Addr × Obj)) (E:Value->Shared->Prop):Cx:={ X with pn:=ps,xe:=E }
theorem Cx.Ok.guard {X:Cx}(ok:X.Ok)(ps:List (Addr × Obj))(E:Value->Shared->Prop):(X.guard ps E).Ok:=
 ⟨ok.mod,ok.kind,ok.glob,ok.blt,ok.above,ok.inj,ok.has,ok.BK,ok.hd,ok.frames,ok.stk,ok.GK,ok.bs,ok.rM,ok.vf,ok.vg,ok.kY,ok.xH⟩
theorem Cx.Ok.mR {X:Cx}{ps:List (Addr × Obj)}{E:Value->Shared->Prop}(ok:(X.guard ps E).Ok):X.Ok:=
 ⟨ok.mod,ok.kind,ok.glob,ok.blt,ok.above,ok.inj,ok.has,ok.BK,ok.hd,ok.frames,ok.stk,ok.GK,ok.bs,ok.rM,ok.vf,ok.vg,ok.kY,ok.xH⟩
abbrev Cx.marked (X:Cx) (a:Addr):Cx:={ X with A:=X.A.mark (some (.ref a)),calm:=false,xe:=λ_ _=>False }
theorem Cx.Ok.marked {X:Cx}(ok:X.Ok)(a:Addr):(X.marked a).Ok:=
 ⟨ok.mod,ok.kind,ok.glob,ok.blt,ok.above,ok.inj,ok.has,ok.BK,(λz=>nomatch z),ok.frames,ok.stk,ok.GK,ok.bs,ok.rM,ok.vf,ok.vg,ok.kY,ok.xH⟩
section
variable {X:Cx}{pins:List (Addr × Obj)}{σ:St}{H:Hp}{s:Shared}{E:Value->Shared->Prop}{a:Addr}
theorem Inv.guard (I:Inv X pins σ H s)(E:Value->Shared->Prop):Inv (X.guard (X.pn++pins) E) [] σ H s:=⟨I.ok.guard _ E,I.os,I.bare,I.base,I.loc,I.cell,I.free,I.gp,λp hp=>I.pin p (by simpa using hp),I.hok,I.len⟩
theorem Inv.mR {ps:List (Addr × Obj)}(I:Inv (X.guard (X.pn++pins) E) ps σ H s):Inv X pins σ H s:=⟨I.ok.mR,I.os,I.bare,I.base,I.loc,I.cell,I.free,I.gp,λp hp=>I.pin p (List.mem_append_left _ hp),I.hok,I.len⟩
theorem Inv.marked (I:Inv X pins σ H s)(a:Addr):Inv (X.marked a) pins σ H s:=⟨I.ok.marked a,I.os,I.bare,I.base,I.loc,I.cell,I.free,I.gp,I.pin,I.hok,I.len⟩
theorem Inv.unmarked (I:Inv (X.marked a) pins σ H s)(ok:X.Ok):Inv X pins σ H s:=⟨ok,I.os,I.bare,I.base,I.loc,I.cell,I.free,I.gp,I.pin,I.hok,I.len⟩
end
def Ends.gone (D:Ends)(i:Nat):Ends:={ nx:=fun σ H=>D.nx (σ.set i none) H,rt:=D.rt,bk:=fun σ H=>D.bk (σ.set i none) H,ct:=fun σ H=>D.ct (σ.set i none) H }
def MK (K:PySem.W.Frag)(QC:Value)(n i:Nat)(ts:TS)(D:Ends):XK:=λcls _ H=>PySem.W.exmOne K cls QC=some true/\∀a,H a=none->ts (D.gone i) ((List.replicate n none).set i (some (.ref a))) (upd H a (yE a cls))
def Ss (K:PySem.W.Frag)(QC:Value)(n i:Nat)(tb:XK->TS)(ts:TS):TS:=λD σ H=>tb (MK K QC n i ts D) D σ H
section
variable {X:Cx}{QC:Value}{x n:Str}{i:Nat}{body suite:List Stmt}{b₀:Stmt}{tb:XK->TS}{ts:TS}{np hpos pos:Pos}
theorem Su (hst:X.stack=X.env::X.outer)(hfr:X.env.frame=some X.env.locals)(hg:Gl X x)(hm:X.mg x=some QC)(hN:X.N.Nodup)(hi:X.N[i]?=some n)(hL:X.env.scope.names.lookup n=some .local)
  (hb:∀(ps:List (Addr × Obj)) (xe:Value->Shared->Prop) (E:XK),Passes (bR X.prog X.w) (X.guard ps xe) E->nG (X.guard ps xe) body (tb E))
  (hs:∀a,nG (X.marked a) (b₀::suite) ts) (hd:(x == ("__debug__":Str))=false:=by decide) :
  PS X (.Try body [.ExceptHandler (some (.Name x np)) (some n) (b₀::suite) hpos] [] [] pos) (Ss X.K QC X.N.length i tb ts):=by
 intro pins s σ H D I h
 have jg:=I.ok
 refine wpAny_Try_except ?_
 have P1:Passes (bR X.prog X.w) (X.guard (X.pn++pins) λe s₁=>wpAny (model X.prog X.w) X.A (noteFrame e X.env) (λ_ s₂=>wpAny (model X.prog X.w) X.A (setFlight e none) (λ_ s₃=>wpAny (model X.prog X.w) X.A (handleBy e X.env [.ExceptHandler (some (.Name x np)) (some n) (b₀::suite) hpos]) (SP X pins D) X.xe s₃) X.xe s₂) X.xe s₁) (MK X.K QC X.N.length i ts D):=by
  intro ps' σ' H1 s1 e s2 I1 hx
  obtain⟨a,cls,a0,B,H2,rfl,F,hm1,q⟩:=hx
  have J1:Inv X pins σ' H1 s1:=I1.mR
  have fl:Heap.FlyingW B (X.env::X.outer) a cls a0 s2.heap:=hst ▸ F.KC
  show wpAny (model X.prog X.w) X.A (noteFrame (.ref a) X.env) _ X.xe s2
  refine wpAny_looks_onW (by rw[jg.frames,hst]) hfr fl λh3 U8 us3=>?_
  refine wpAny_landsW U8 λh4 Sv VS=>?_
  have J4:Inv X pins σ' H2 { s2 with heap:=h4 }:=Qn J1 F Sv.1 (us3.trans VS)
  refine wpAny_handleBy_cons (codeAny_handlers_test ?_) (by intro q; cases q)
  refine oY (X:=X.marked a) (J4.marked a) hg hm ?_ hd
  obtain⟨ob,hob,hcl⟩:=Sv.there
  have LT:PySem.W.Looks (model X.prog X.w) h4 (typeOf (.ref a)) cls:=hcl ▸ (PySem.W.Looks.ld hob).andThen PySem.W.Looks.now
  refine (PySem.W.exm_one (K:=X.K) J4.gR LT hm1).here ?_
  show codeAny (model X.prog X.w) (X.A.mark (some (.ref a))) (.handlers (.ref a) [.ExceptHandler none (some n) (b₀::suite) hpos] X.env) _ _
  refine codeAny_handlers_suite_as ?_
  refine lands_againW Sv λh5 xM Zp=>?_
  have us:s2.heap.UpToSlots h5:=(us3.trans VS).trans Zp
  obtain⟨oe,vs,VT,hoc,hod,_⟩:=xM.first
  have na:H2 a=none:=F.out
  have J5:Inv X pins (List.replicate X.N.length none) (upd H2 a (yE a cls)) { s2 with heap:=h5 }:=by
   have u:=F.un' xM.1 us
   have k0:=F.D6 xM.1
   refine Inv.weak (σ:=σ') (J1.IB (s':={ s2 with heap:=h5 }) (ch:=[]) F.os ⟨u.keep,u.slot,λb o e m hx=>?_,u.there,λb xs e=>?_,λb o v e=>?_,λb p e=>?_⟩ (λb u' e=>?_) F.bare λb hb=>absurd hb (by simp)) (by rw[List.length_replicate]; exact J1.len.symm) λj v e=>?_
   ·have:b≠a:=λz=>by rw[z,F.new] at e; cases e
    rw[aG this]; exact u.free b o e m hx
   ·have e1:=u.tups b xs e
    rw[aG (aW e1 na)]; exact e1
   ·have e1:=u.jr b o v e
    rw[aG (aW e1 na)]; exact e1
   ·obtain⟨more,e1⟩:=u.kg b p e
    exact⟨more,by rw[aG (aW e1 na)]; exact e1⟩
   ·by_cases hba:b=a
    ·subst hba
     rw[au] at e
     cases e
     exact⟨⟨oe,vs,VT,hoc,hod⟩,⟨oe,VT⟩,λh1 h2 ⟨o,ws,e1,e2,e3⟩ k=>⟨o,ws,k o e1,e2,e3⟩⟩
    ·rw[aG hba] at e
     refine (k0 b u' e).stay (λc v _ q=>q) (λc q=>?_) λc xs q=>?_
     ·rw[aG (aW q na)]; exact q
     ·rw[aG (aW q na)]; exact q
   ·rw[List.getElem?_replicate] at e
    split at e <;> cases e
  refine tH (X:=X.marked a) (v:=.ref a) (i:=i) (J5.marked a) hN hi (.inl hL) rfl (λs6 I6=>?_) (.inr hL)
  refine wpAny_mono (hs a pins s6 _ _ (D.gone i) I6 (q a na)) (λf s7 h7=>?_) λ_ _ z=>z.elim
  have fin:∀{σ7:St} {H7:Hp} {R:Unit->Shared->Prop},Inv (X.marked a) pins σ7 H7 s7->(∀s8,Inv X pins (σ7.set i none) H7 s8->R () s8)->wpAny (model X.prog X.w) X.A (do bindName X.env n .none; unbindBehindTheSuite X.env n hpos) R X.xe s7:=by
   intro σ7 H7 R I7 hq
   have J7:Inv X pins σ7 H7 s7:=I7.unmarked jg
   refine wpAny_bind (wpAny_bindName (tH J7 hN hi (.inl hL) (v:=.aR) (u:=.none) rfl (λs8 I8=>?_) (.inr hL)))
   unfold unbindBehindTheSuite
   refine wpAny_onRaise ?_
   obtain⟨m,hn,hl⟩:=id I8.loc
   have hiσ:i < σ7.length:=by rw[J7.len]; exact (List.getElem?_eq_some_iff.mp hi).1
   obtain⟨u,ru,lk⟩:=hl i n .aR hi (by rw[List.getElem?_set_self hiσ]) (.inl hL)
   have hmn:m n=some u:=by
    rcases lk with ⟨_,z⟩ | ⟨k,_⟩
    ·exact z
    ·have hL':X.env.kindOf n=some .local:=hL
     rcases k with k | k <;> (rw[hL'] at k; cases k)
   have hcls:(X.env.scope.kind == .class||(X.env.scope.kind == .module&&X.env.locals != X.env.globals))=false:=by rw[jg.kind]; rfl
   refine wpAny_unbindName_local (m:=m) hL hn hmn hcls λh9 u9 Zq sb9=>hq _ ?_
   obtain⟨oL,_,_,VD,_⟩:=id hn
   have I9:Inv X pins ((σ7.set i (some .aR)).set i none) H7 { s8 with heap:=h9 }:=by
    have neL:∀b o,X.s₀.heap.get? b=some o->b≠X.env.locals:=λb o e=>Nat.ne_of_lt (Nat.lt_of_lt_of_le (Heap.lt_size e) jg.above)
    refine⟨jg,I8.os,I8.bare,⟨λb o e n' hb hx'=>?_,λb o e n' hb hx'=>?_,I8.base.free,λb o e hx'=>?_,I8.base.tups,I8.base.jr,I8.base.kg⟩,⟨_,Zq,λj y v' e1 e2 e3=>?_⟩,λy c e=>?_,I8.free,I8.gp,λp hp=>?_,λb ob e=>?_,by simpa using I8.len⟩
    ·exact (sb9.2 b (neL b o e)).trans (I8.base.keep b o e n' hb hx')
    ·obtain⟨sl,z⟩:=I8.base.slot b o e n' hb hx'
     exact⟨sl,(sb9.2 b (neL b o e)).trans z⟩
    ·obtain⟨o',z⟩:=I8.base.there b o e hx'
     exact⟨o',(sb9.2 b (neL b o e)).trans z⟩
    ·have hj:j≠i:=λz=>by
      subst z
      rw[List.getElem?_set_self (by simpa using hiσ)] at e2
      cases e2
     rw[List.getElem?_set_ne (Ne.symm hj)] at e2
     obtain⟨u',r',q'⟩:=hl j y v' e1 e2 e3
     refine⟨u',r',?_⟩
     rcases q' with ⟨k,z⟩ | ⟨k,c,z,y'⟩
     ·refine .inl ⟨k,?_⟩
      have ny:y≠n:=λz=>hj (yk hN e1 (z ▸ hi))
      simp [ny,z]
     ·exact .inr ⟨k,c,z,y'.sameBut sb9 (I8.zf y c z)⟩
    ·obtain⟨v,z⟩:=I8.cell y c e
     exact⟨v,z.sameBut sb9 (I8.zf y c e)⟩
    ·obtain⟨e,n',ne,nf,d⟩:=I8.pin p hp
     exact⟨(sb9.2 p.1 ne).trans e,n',ne,nf,d⟩
    ·refine (I8.hok b ob e).stay (λc v hc q'=>(sb9.2 c ?_).trans q') (λ_ q'=>q') λ_ _ q'=>q'
     intro z
     have z':=I8.free
     rcases hc with y | y
     ·rw[←z,y,e] at z'; cases z'
     ·rw[←z,y] at z'; cases z'
   rw[List.set_set] at I9
   exact I9
  cases f with
  | next=>
   obtain⟨σ7,H7,I7,q7⟩:=h7
   exact fin I7 λs8 I8=>⟨_,H7,I8,q7⟩
  | brk=>
   obtain⟨σ7,H7,I7,q7⟩:=h7
   exact fin I7 λs8 I8=>⟨_,H7,I8,q7⟩
  | cont=>
   obtain⟨σ7,H7,I7,q7⟩:=h7
   exact fin I7 λs8 I8=>⟨_,H7,I8,q7⟩
  | ret v=>
   obtain⟨v',σ7,H7,I7,r7,q7⟩:=h7
   exact fin I7 λs8 I8=>⟨v',_,H7,I8,r7,q7⟩
 have back:∀{f:Flow} {s':Shared} {E:Value->Shared->Prop},SP (X.guard (X.pn++pins) E) [] D f s'->SP X pins D f s':=λ{f s' E} q=>by
  cases f with
  | next=>obtain⟨σ',H',J,z⟩:=q; exact⟨σ',H',J.mR,z⟩
  | brk=>obtain⟨σ',H',J,z⟩:=q; exact⟨σ',H',J.mR,z⟩
  | cont=>obtain⟨σ',H',J,z⟩:=q; exact⟨σ',H',J.mR,z⟩
  | ret u=>obtain⟨v,σ',H',J,r,z⟩:=q; exact⟨v,σ',H',J.mR,r,z⟩
 refine wpAny_mono (hb (X.pn++pins) _ _ P1 [] s σ H D (I.guard _) h) (λf s' q=>?_) λ_ _ z=>z
 have q':=back q
 cases f with
 | next=>exact wpAny_execs_nil q'
 | brk=>exact q'
 | cont=>exact q'
 | ret u=>exact q'
end
end L2
namespace L2
open PySem PySem.Spec PyProof.Rows
inductive Dt where
 | aR | bl (b:Bool) | int (i:Int) | str (x:Str) | lst (ds:List Dt) | tup (ds:List Dt)
mutual
def Rep (K:PySem.W.Frag)(H:Hp):Dt->V->Prop
 | .aR,v=>v=.aR
 | .bl b,v=>v=.bl b
 | .int i,v=>v=.int i
 | .str x,v=>v=.str x
 | .lst ds,v=>∃a xs,v=.ref a/\aE K H a xs/\aD K H ds xs
 | .tup ds,v=>∃a xs,v=.ref a/\aK K H a xs/\aD K H ds xs
def aD (K:PySem.W.Frag)(H:Hp):List Dt->List V->Prop
 | [],xs=>xs=[]
 | d::ds,xs=>∃x r,xs=x::r/\Rep K H d x/\aD K H ds r
end
mutual
def Dt.dep:Dt->Nat
 | .aR=>0
 | .bl _=>0
 | .int _=>0
 | .str _=>0
 | .lst ds=>Dt.deps ds+1
 | .tup ds=>Dt.deps ds+1
def Dt.deps:List Dt->Nat
 | []=>0
 | d::ds=>max (Dt.dep d) (Dt.deps ds)
end
mutual
theorem Rep.same {K:PySem.W.Frag}{H H':Hp}(e:ah H H'):∀{d:Dt} {v:V},Rep K H d v->Rep K H' d v
 | .aR,_,h=>by unfold Rep at h ⊢; exact h
 | .bl _,_,h=>by unfold Rep at h ⊢; exact h
 | .int _,_,h=>by unfold Rep at h ⊢; exact h
 | .str _,_,h=>by unfold Rep at h ⊢; exact h
 | .lst ds,_,h=>by
  unfold Rep at h ⊢
  obtain⟨a,xs,rfl,q,r⟩:=h
  exact⟨a,xs,rfl,e.seq q,aD.same e r⟩
 | .tup ds,_,h=>by
  unfold Rep at h ⊢
  obtain⟨a,xs,rfl,q,r⟩:=h
  exact⟨a,xs,rfl,e.tup q,aD.same e r⟩
theorem aD.same {K:PySem.W.Frag}{H H':Hp}(e:ah H H'):∀{ds:List Dt} {vs:List V},aD K H ds vs->aD K H' ds vs
 | [],_,h=>by unfold aD at h ⊢; exact h
 | d::ds,_,h=>by
  unfold aD at h ⊢
  obtain⟨x,r,rfl,q,t⟩:=h
  exact⟨x,r,rfl,Rep.same e q,aD.same e t⟩
end
theorem aD.length {K:PySem.W.Frag}{H:Hp}:∀{ds:List Dt} {vs:List V},aD K H ds vs->vs.length=ds.length
 | [],_,h=>by unfold aD at h; rw[h]; rfl
 | d::ds,_,h=>by
  unfold aD at h
  obtain⟨x,r,rfl,q,t⟩:=h
  rw[List.length_cons,List.length_cons,aD.length t]
theorem all_true (n:Nat):(List.range n).all (λ_=>true)=true:=by simp
section
variable {X:Cx}{pins:List (Addr × Obj)}{σ:St}{H:Hp}{s:Shared}
mutual
theorem Sw (I:Inv X pins σ H s):∀(d:Dt) {x y:V} {u v:Value} {A:Around},Rep X.K H d x->Rep X.K H d y->RelV x u->RelV y v->A.units+d.dep < cLine->SeqAt.EqAt A s u v true
 | .aR,x,y,u,v,A,hx,hy,rx,ry,_=>by
  unfold Rep at hx hy; subst hx; subst hy; cases rx; cases ry; exact SeqAt.EqAt.same _
 | .bl b,x,y,u,v,A,hx,hy,rx,ry,_=>by
  unfold Rep at hx hy; subst hx; subst hy; cases rx; cases ry; exact SeqAt.EqAt.same _
 | .int i,x,y,u,v,A,hx,hy,rx,ry,_=>by
  unfold Rep at hx hy; subst hx; subst hy
  obtain⟨t,rfl⟩:=rx; obtain⟨t',rfl⟩:=ry
  have:=SeqAt.EqAt.int_int (A:=A) (s:=s) i t i t'
  rwa [beq_self_eq_true] at this
 | .str z,x,y,u,v,A,hx,hy,rx,ry,_=>by
  unfold Rep at hx hy; subst hx; subst hy
  obtain⟨t,rfl⟩:=rx; obtain⟨t',rfl⟩:=ry
  have:=SeqAt.EqAt.str_str (A:=A) (s:=s) z t z t'
  rwa [beq_self_eq_true] at this
 | .lst ds,x,y,u,v,A,hx,hy,rx,ry,hu=>by
  unfold Rep at hx hy
  obtain⟨a,xs,rfl,qa,ra⟩:=hx
  obtain⟨b,ys,rfl,qb,rb⟩:=hy
  cases rx; cases ry
  by_cases hab:a=b
  ·subst hab; exact SeqAt.EqAt.same _
  ·obtain⟨its,r1,p1,_⟩:=I.list qa
   obtain⟨its2,r2,p2,_⟩:=I.list qb
   have D_:A.units+(Dt.deps ds+1) < cLine:=hu
   have l1:its.length=ds.length:=by rw[←r1.length,ra.length]
   have l2:its2.length=ds.length:=by rw[←r2.length,rb.length]
   refine SeqAt.EqAt.of_refs hab ?_
   have:=SeqAt.RcAt.lists (A:=A) (e:=λ_=>true) p1.isList p2.isList (by simp [l1,l2]) (by omega) λj h1 h2=>by
    have:=mS I ds (A:=A.in1) ra rb r1 r2 (by show A.units+1+Dt.deps ds < cLine; omega) j (by simpa using h1) (by simpa using h2)
    simpa using this
   rwa [all_true] at this
 | .tup ds,x,y,u,v,A,hx,hy,rx,ry,hu=>by
  unfold Rep at hx hy
  obtain⟨a,xs,rfl,qa,ra⟩:=hx
  obtain⟨b,ys,rfl,qb,rb⟩:=hy
  cases rx; cases ry
  by_cases hab:a=b
  ·subst hab; exact SeqAt.EqAt.same _
  ·obtain⟨its,r1,p1,_⟩:=I.tuple qa
   obtain⟨its2,r2,p2,_⟩:=I.tuple qb
   have D_:A.units+(Dt.deps ds+1) < cLine:=hu
   have l1:its.length=ds.length:=by rw[←r1.length,ra.length]
   have l2:its2.length=ds.length:=by rw[←r2.length,rb.length]
   refine SeqAt.EqAt.of_refs hab ?_
   have:=SeqAt.RcAt.tuples (A:=A) (e:=λ_=>true) (show s.heap.IsTuple a its.toArray from p1) (show s.heap.IsTuple b its2.toArray from p2) (by omega) λj h1 h2=>by
    have:=mS I ds (A:=A.in1) ra rb r1 r2 (by show A.units+1+Dt.deps ds < cLine; omega) j (by simpa using h1) (by simpa using h2)
    simpa using this
   have e:(its.toArray.size == its2.toArray.size)=true:=by simp [l1,l2]
   rwa [all_true,e,Bool.and_self] at this
theorem mS (I:Inv X pins σ H s):∀(ds:List Dt) {xs ys:List V} {us vs:List Value} {A:Around},aD X.K H ds xs->aD X.K H ds ys->Vals xs us->Vals ys vs->A.units+Dt.deps ds < cLine->
  ∀(j:Nat) (h1:j < us.length) (h2:j < vs.length),SeqAt.EqAt A s us[j] vs[j] true
 | [],xs,ys,us,vs,A,hx,hy,rx,ry,_,j,h1,h2=>by
  unfold aD at hx; subst hx; cases rx; simp at h1
 | d::ds,xs,ys,us,vs,A,hx,hy,rx,ry,hu,j,h1,h2=>by
  unfold aD at hx hy
  obtain⟨x,r,rfl,q,t⟩:=hx
  obtain⟨x',r',rfl,q',t'⟩:=hy
  cases rx with
  | cons rx Ec=>
   cases ry with
   | cons ry Zr=>
    have D_:A.units+max (Dt.dep d) (Dt.deps ds) < cLine:=hu
    cases j with
    | zero=>exact Sw I d q q' rx ry (by omega)
    | succ j=>exact mS I ds t t' Ec Zr (by omega) j (by simpa using h1) (by simpa using h2)
end
end
section
variable {X:Cx}
def Xn (X:Cx):R2:=λx y H Q=>X.A.units+64 < cLine/\∃d:Dt,d.dep<=60/\Rep X.K H d x/\Rep X.K H d y/\Q (.bl true) H
theorem Zs:eN X (compareOp .Eq) (Xn X):=by
 intro pins s σ H x y u v Q I rx ry h
 obtain⟨hu,d,hd,hx,hy,q⟩:=h
 have fin:EP X pins σ Q (.bool true) s:=⟨.bl true,H,I,rfl,q⟩
 show wpAny (model X.prog X.w) X.A (richCompare .Eq u v) (EP X pins σ Q) X.xe s
 have rc:SeqAt.RcAt X.A s u v true:=by
  cases d with
  | aR=>unfold Rep at hx hy; subst hx; subst hy; cases rx; cases ry; exact SeqAt.RcAt.none_none
  | bl b=>
   unfold Rep at hx hy; subst hx; subst hy; cases rx; cases ry
   have:=SeqAt.RcAt.bool_bool (A:=X.A) (s:=s) b b
   rwa [beq_self_eq_true] at this
  | int i=>
   unfold Rep at hx hy; subst hx; subst hy
   obtain⟨t,rfl⟩:=rx; obtain⟨t',rfl⟩:=ry
   have:=SeqAt.RcAt.int_int (A:=X.A) (s:=s) i t i t'
   rwa [beq_self_eq_true] at this
  | str z=>
   unfold Rep at hx hy; subst hx; subst hy
   obtain⟨t,rfl⟩:=rx; obtain⟨t',rfl⟩:=ry
   have:=SeqAt.RcAt.str_str (A:=X.A) (s:=s) z t z t'
   rwa [beq_self_eq_true] at this
  | lst ds=>
   unfold Rep at hx hy
   obtain⟨a,xs,rfl,qa,ra⟩:=hx
   obtain⟨b,ys,rfl,qb,rb⟩:=hy
   cases rx; cases ry
   obtain⟨its,r1,p1,_⟩:=I.list qa
   obtain⟨its2,r2,p2,_⟩:=I.list qb
   have hd':Dt.deps ds+1<=60:=hd
   have l1:its.length=ds.length:=by rw[←r1.length,ra.length]
   have l2:its2.length=ds.length:=by rw[←r2.length,rb.length]
   have:=SeqAt.RcAt.lists (A:=X.A) (e:=λ_=>true) p1.isList p2.isList (by simp [l1,l2]) (by omega) λj h1 h2=>by
    have:=mS I ds (A:=X.A.in1) ra rb r1 r2 (by show X.A.units+1+Dt.deps ds < cLine; omega) j (by simpa using h1) (by simpa using h2)
    simpa using this
   rwa [all_true] at this
  | tup ds=>
   unfold Rep at hx hy
   obtain⟨a,xs,rfl,qa,ra⟩:=hx
   obtain⟨b,ys,rfl,qb,rb⟩:=hy
   cases rx; cases ry
   obtain⟨its,r1,p1,_⟩:=I.tuple qa
   obtain⟨its2,r2,p2,_⟩:=I.tuple qb
   have hd':Dt.deps ds+1<=60:=hd
   have l1:its.length=ds.length:=by rw[←r1.length,ra.length]
   have l2:its2.length=ds.length:=by rw[←r2.length,rb.length]
   have:=SeqAt.RcAt.tuples (A:=X.A) (e:=λ_=>true) (show s.heap.IsTuple a its.toArray from p1) (show s.heap.IsTuple b its2.toArray from p2) (by omega) λj h1 h2=>by
    have:=mS I ds (A:=X.A.in1) ra rb r1 r2 (by show X.A.units+1+Dt.deps ds < cLine; omega) j (by simpa using h1) (by simpa using h2)
    simpa using this
   have e:(its.toArray.size == its2.toArray.size)=true:=by simp [l1,l2]
   rwa [all_true,e,Bool.and_self] at this
 exact rc X.prog X.w X.xe _ fin
def Xo (X:Cx):R2:=λx y H Q=>X.A.units+64 < cLine/\((∃d:Dt,d.dep<=60/\Rep X.K H d x/\Rep X.K H d y/\Q (.bl false) H)\/
 ∃a b xs,x=.ref a/\y=.ref b/\aE X.K H a xs/\aE X.K H b []/\Q (.bl (!xs.isEmpty)) H)
theorem SA:eN X (compareOp .NotEq) (Xo X):=by
 intro pins s σ H x y u v Q I rx ry h
 obtain⟨hu,h⟩:=h
 show wpAny (model X.prog X.w) X.A (richCompare .NotEq u v) (EP X pins σ Q) X.xe s
 rcases h with ⟨d,hd,hx,hy,q⟩ | ⟨a,b,xs,rfl,rfl,qa,qb,q⟩
 ·have fin:EP X pins σ Q (.bool false) s:=⟨.bl false,H,I,rfl,q⟩
  have rc:SeqAt.RcNeAt X.A s u v false:=by
   cases d with
   | aR=>unfold Rep at hx hy; subst hx; subst hy; cases rx; cases ry; exact SeqAt.RcNeAt.none_none
   | bl b=>
    unfold Rep at hx hy; subst hx; subst hy; cases rx; cases ry
    have:=SeqAt.RcNeAt.bool_bool (A:=X.A) (s:=s) b b
    rwa [beq_self_eq_true] at this
   | int i=>
    unfold Rep at hx hy; subst hx; subst hy
    obtain⟨t,rfl⟩:=rx; obtain⟨t',rfl⟩:=ry
    have:=SeqAt.RcNeAt.int_int (A:=X.A) (s:=s) i t i t'
    rwa [beq_self_eq_true] at this
   | str z=>
    unfold Rep at hx hy; subst hx; subst hy
    obtain⟨t,rfl⟩:=rx; obtain⟨t',rfl⟩:=ry
    have:=SeqAt.RcNeAt.str_str (A:=X.A) (s:=s) z t z t'
    rwa [beq_self_eq_true] at this
   | lst ds=>
    unfold Rep at hx hy
    obtain⟨a,xs,rfl,qa,ra⟩:=hx
    obtain⟨b,ys,rfl,qb,rb⟩:=hy
    cases rx; cases ry
    obtain⟨its,r1,p1,_⟩:=I.list qa
    obtain⟨its2,r2,p2,_⟩:=I.list qb
    have hd':Dt.deps ds+1<=60:=hd
    have l1:its.length=ds.length:=by rw[←r1.length,ra.length]
    have l2:its2.length=ds.length:=by rw[←r2.length,rb.length]
    have:=SeqAt.RcNeAt.lists (A:=X.A) (e:=λ_=>true) p1.isList p2.isList (by simp [l1,l2]) (by omega) λj h1 h2=>by
     have:=mS I ds (A:=X.A.in1) ra rb r1 r2 (by show X.A.units+1+Dt.deps ds < cLine; omega) j (by simpa using h1) (by simpa using h2)
     simpa using this
    rwa [all_true] at this
   | tup ds=>
    unfold Rep at hx hy
    obtain⟨a,xs,rfl,qa,ra⟩:=hx
    obtain⟨b,ys,rfl,qb,rb⟩:=hy
    cases rx; cases ry
    obtain⟨its,r1,p1,_⟩:=I.tuple qa
    obtain⟨its2,r2,p2,_⟩:=I.tuple qb
    have hd':Dt.deps ds+1<=60:=hd
    have l1:its.length=ds.length:=by rw[←r1.length,ra.length]
    have l2:its2.length=ds.length:=by rw[←r2.length,rb.length]
    have:=SeqAt.RcNeAt.tuples (A:=X.A) (e:=λ_=>true) (show s.heap.IsTuple a its.toArray from p1) (show s.heap.IsTuple b its2.toArray from p2) (by omega) λj h1 h2=>by
     have:=mS I ds (A:=X.A.in1) ra rb r1 r2 (by show X.A.units+1+Dt.deps ds < cLine; omega) j (by simpa using h1) (by simpa using h2)
     simpa using this
    have e:(its.toArray.size == its2.toArray.size)=true:=by simp [l1,l2]
    rwa [all_true,e,Bool.and_self] at this
  exact rc X.prog X.w X.xe _ fin
 ·cases rx; cases ry
  have fin:EP X pins σ Q (.bool (!xs.isEmpty)) s:=⟨.bl _,H,I,rfl,q⟩
  obtain⟨its,r1,p1,_⟩:=I.list qa
  obtain⟨its2,r2,p2,_⟩:=I.list qb
  cases r2
  cases xs with
  | nil=>
   cases r1
   have:=SeqAt.RcNeAt.lists (A:=X.A) (e:=λ_=>true) p1.isList p2.isList rfl (by omega) λj h1 h2=>absurd h1 (by simp)
   exact this X.prog X.w X.xe _ fin
  | cons x xs=>
   have hne:((its.toArray.size) != (([]:List Value).toArray.size))=true:=by
    have:=r1.length
    simp only [List.length_cons] at this
    simp
    intro z
    rw[z] at this
    simp at this
   exact (SeqAt.RcNeAt.lists_lengths (A:=X.A) p1.isList p2.isList hne (by omega)) X.prog X.w X.xe _ fin
theorem BY {x:V}:∀{xs:List V} {us:List Value},Vals xs us->xs.all iJ=true->us.countP (GU x)=xs.countP λy=>nK y x
 | _,_,.nil,_=>rfl
 | y::ys,u::us,.cons r t,h=>by
  simp only [List.all_cons,Bool.and_eq_true] at h
  rw[List.countP_cons,List.countP_cons,BY t h.2,DZ r h.1]
def Ed (K:PySem.W.Frag):V->List V->Hp->VK->Prop:=λx vs H Q=>∃a xs v,x=.ref a/\vs=[v]/\aE K H a xs/\xs.all iJ=true/\iJ v=true/\Q (.int (xs.countP λy=>nK y v:Nat)) H
theorem ML:zu X "list.count" (Ed X.K):=by
 intro pins s σ H x vs v us Q I rx rv h
 obtain⟨a,xs,w,rfl,rfl,hq,hf,hw,q⟩:=h
 cases rx
 obtain⟨u,rfl,ru⟩:=rv.one
 obtain⟨its,r,⟨⟨cls,dd,data,sl⟩,n,e,hc,KG,hd⟩,_⟩:=I.list hq
 simp only at hc KG hd
 subst hc; subst KG; subst hd
 refine call_meets F.slot_list_count ⟨_,e,rfl⟩ F.entry_list_count (F.args_list_count_2 _ _) (SeqAt.list_countAt a its.toArray n none sl u (GU w)) ⟨e,λy hy=>yv ru hw r hf y (by simpa using hy),?_⟩
 refine⟨.int _,H,I.tok _,⟨_,rfl⟩,?_⟩
 have:=BY (x:=w) r hf
 simp only [this]
 exact q
end
end L2
namespace L2
open PySem PySem.Spec PyProof.Rows
section
variable {X:Cx}
theorem GX {x:V}{xs:List V}{us:List Value}(r:Vals xs us)(hf:xs.all iJ=true)(j:Nat)(h1:j < us.length)(h2:j < xs.length):GU x us[j]=nK xs[j] x:=by
 obtain⟨u,e,ru⟩:=r.get (i:=j) (x:=xs[j]) (List.getElem?_eq_getElem h2)
 rw[List.getElem?_eq_getElem h1] at e
 cases e
 exact DZ ru (List.all_eq_true.mp hf _ (List.getElem_mem h2))
def Ef (K:PySem.W.Frag):V->List V->Hp->VK->Prop:=λx vs H Q=>∃a xs v,x=.ref a/\vs=[v]/\aE K H a xs/\xs.all iJ=true/\iJ v=true/\∃(j:Nat) (hj:j < xs.length),nK xs[j] v=true/\(∀(m:Nat) (hm:m < xs.length),m < j->nK xs[m] v=false)/\Q (.int (j:Nat)) H
theorem MM:zu X "list.index" (Ef X.K):=by
 intro pins s σ H x vs v us Q I rx rv h
 obtain⟨a,xs,w,rfl,rfl,hq,hf,hw,j,hj,hit,hno,q⟩:=h
 cases rx
 obtain⟨u,rfl,ru⟩:=rv.one
 obtain⟨its,r,⟨⟨cls,dd,data,sl⟩,n,e,hc,KG,hd⟩,hz⟩:=I.list hq
 simp only at hc KG hd
 subst hc; subst KG; subst hd
 have hl:=r.length
 have hs:=sizeLine_eq
 refine call_meets F.slot_list_index ⟨_,e,rfl⟩ F.entry_list_index (F.args_list_index_2 _ _) (SeqAt.list_indexAt a its.toArray n none sl u (GU w) j (by simp; omega) (by omega) ?_ λm hm VU=>?_) ⟨e,λy hy=>yv ru hw r hf y (by simpa using hy),?_⟩
 ·have:=GX (x:=w) r hf j (by omega) hj
  simpa [this] using hit
 ·have hm':m < its.length:=by simpa using hm
  have:=GX (x:=w) r hf m hm' (by omega)
  simpa [this] using hno m (by omega) VU
 ·exact⟨.int _,H,I.tok _,⟨_,rfl⟩,q⟩
end
structure jh (K:PySem.W.Frag)(C:Addr):Prop where
 ga:PySem.W.findIn K (.ref C) "__getattribute__"=some (some (.builtin "BaseException.__getattribute__"))
 gt:PySem.W.findIn K (.ref C) "__getattr__"=some none
 cl:PySem.W.findIn K (.ref C) "__class__"=some (some (.builtin "object.__class__"))
 mb:PySem.W.mroIn K C (.type "BaseException")=some true
 mo:PySem.W.mroIn K C (.type "object")=some true
section
open PySem.W
variable {K:Frag}{prog:Program}{w:World}{A:Around}{E:Value->Shared->Prop}{h:Heap}{g:Array GenState}{d:Drawn}{t:Nat}{os:OsState}{a C:Addr}{o:Obj}
theorem CJ {R:Result->Shared->Prop}(KX:K.In h)(F:jh K C)(hx:h.get? a=some o)(hc:o.cls=.ref C)(hq:R (.ok (.ret (.ref C))) ⟨h,g,d,t,os⟩) :
  codeAny (model prog w) A (.call (.builtin "getset_descriptor.__get__") ⟨[.builtin "object.__class__",.ref a,.ref C],[]⟩) R ⟨h,g,d,t,os⟩:=by
 have VW:(⟨h,g,d,t,os⟩:Shared).TypeIs (.builtin "object.__class__") "getset_descriptor":=PySem.F.typeOf_object_class
 have LS:∀{A:Around} {Q:Bool->Shared->Prop} {E:Value->Shared->Prop},Q true ⟨h,g,d,t,os⟩->wpAny (model prog w) A (isSubtype (.ref C) (.type (".".intercalate ("object.__class__".cutAt '.').dropLast))) Q E ⟨h,g,d,t,os⟩:=λ{A Q E} q=>by
  rw[PySem.F.owner_object_class]
  exact (looks_mroIn KX F.mo).at q
 refine codeAny_call_builtin PySem.F.slot_gs_get.plain PySem.F.entry_gs_get (PySem.F.slot_gs_get.check _ _ _ _ _ _ _ _ VW (PySem.F.args_gs_get _ _ _) ?_)
 repeat (any_goals (first | assumption | (with_reducible refine wpAny_loadPart_at hx ?_; rw[hc]) | with_reducible refine LS ?_ | wp_step))
 refine⟨Code.quiet_builtin _ (by decide +kernel),codeAny_builtin PySem.F.entry_object_class ?_⟩
 repeat (any_goals (first | assumption | (with_reducible refine wpAny_loadPart_at hx ?_; rw[hc]) | wp_step))
theorem zG {tk:Tok}{Q:Fin->Shared->Prop}(KX:K.In h)(F:jh K C)(hx:h.get? a=some o)(hc:o.cls=.ref C)(hq:Q (.done (.ret (.ref C))) ⟨h,g,d,t,os⟩) :
  wpAny (model prog w) A (Builtin.«object.__getattribute__» ⟨[.ref a,.str "__class__" tk],[]⟩) Q E ⟨h,g,d,t,os⟩:=by
 have VW:(⟨h,g,d,t,os⟩:Shared).TypeIs (.builtin "object.__class__") "getset_descriptor":=PySem.F.typeOf_object_class
 have f5:=PySem.F.typeOf_object_class
 have f6:=PySem.F.slot_gs_get.lookup
 have f7:=PySem.F.slot_gs_set.lookup
 have LF:∀{A:Around} {Q:Option Value->Shared->Prop} {E:Value->Shared->Prop},Q (some (.builtin "object.__class__")) ⟨h,g,d,t,os⟩->wpAny (model prog w) A (typeLookup (.ref C) "__class__") Q E ⟨h,g,d,t,os⟩:=λ{A Q E} q=>(looks_findIn KX F.cl).at q
 repeat (any_goals (first | assumption | (with_reducible refine wpAny_loadPart_at hx ?_; rw[hc]) | with_reducible refine LF ?_ | wp_step))
 refine CJ KX F hx hc ?_
 repeat (any_goals (first | assumption | wp_step))
theorem Eg {nv:Value}{Q:Unit->Shared->Prop}(KX:K.In h)(F:jh K C)(hx:h.get? a=some o)(hc:o.cls=.ref C)(hq:Q () ⟨h,g,d,t,os⟩) :
  wpAny (model prog w) A (checkBuiltinCall "BaseException.__getattribute__" ⟨[.ref a,nv],[]⟩) Q E ⟨h,g,d,t,os⟩:=by
 have hk:builtinKind "BaseException.__getattribute__"=some .slot:=by decide +kernel
 have hsp:splitId "BaseException.__getattribute__"=some ("BaseException","__getattribute__"):=by decide +kernel
 have ha:=PySem.F.args_bexc_ga (.ref a) nv
 have LS:∀{A:Around} {Q:Bool->Shared->Prop} {E:Value->Shared->Prop},Q true ⟨h,g,d,t,os⟩->wpAny (model prog w) A (isSubtype (.ref C) (.type "BaseException")) Q E ⟨h,g,d,t,os⟩:=λ{A Q E} q=>(looks_mroIn KX F.mb).at q
 simp only [checkBuiltinCall,hk,hsp]
 refine wpAny_bind ?_
 unfold isInstance
 repeat (first | (with_reducible refine wpAny_loadPart_at hx ?_; rw[hc]) | with_reducible refine LS ?_ | wp_step)
 exact hq
theorem AM {tk:Tok}{R:Result->Shared->Prop}(KX:K.In h)(F:jh K C)(hx:h.get? a=some o)(hc:o.cls=.ref C)(hq:R (.ok (.ret (.ref C))) ⟨h,g,d,t,os⟩) :
  codeAny (model prog w) A (.call (.builtin "BaseException.__getattribute__") ⟨[.ref a,.str "__class__" tk],[]⟩) R ⟨h,g,d,t,os⟩:=
 codeAny_call_builtin PySem.F.excAttr_ValueError.ga.plain PySem.F.entry_bexc_ga (Eg KX F hx hc (zG KX F hx hc hq))
theorem Eh {tk:Tok}{Q:Value->Shared->Prop}(KX:K.In h)(F:jh K C)(hx:h.get? a=some o)(hc:o.cls=.ref C)(hq:Q (.ref C) ⟨h,g,d,t,os⟩) :
  wpAny (model prog w) A (getAttrBy (.ref a) (.str "__class__" tk) false) Q E ⟨h,g,d,t,os⟩:=by
 have LG:∀{A:Around} {Q:Option Value->Shared->Prop} {E:Value->Shared->Prop},Q (some (.builtin "BaseException.__getattribute__")) ⟨h,g,d,t,os⟩->wpAny (model prog w) A (typeLookup (.ref C) "__getattribute__") Q E ⟨h,g,d,t,os⟩:=λ{A Q E} q=>(looks_findIn KX F.ga).at q
 have LN:∀{A:Around} {Q:Option Value->Shared->Prop} {E:Value->Shared->Prop},Q none ⟨h,g,d,t,os⟩->wpAny (model prog w) A (typeLookup (.ref C) "__getattr__") Q E ⟨h,g,d,t,os⟩:=λ{A Q E} q=>(looks_findIn KX F.gt).at q
 have Zt:(Value.builtin "BaseException.__getattribute__" == Value.builtin "object.__getattribute__")=false:=by decide +kernel
 have hx1:(onTheHeap (Value.ref C)&&Value.builtin "BaseException.__getattribute__" == Value.builtin "object.__getattribute__")=false:=by rw[Zt]; rfl
 have f3:=PySem.F.excAttr_ValueError.ga.bind (.ref a)
 repeat (any_goals (first | assumption | (with_reducible refine wpAny_loadPart_at hx ?_; rw[hc]) | with_reducible refine LG ?_ | with_reducible refine LN ?_ | wp_step))
 refine AM KX F hx hc ?_
 repeat (any_goals (first | assumption | wp_step))
theorem AN {Q:Option Value->Shared->Prop}(KX:K.In h)(F:jh K C)(hx:h.get? a=some o)(hc:o.cls=.ref C)(hq:Q (some (.ref C)) ⟨h,g,d,t+1,os⟩) :
  wpAny (model prog w) A (getAttr? (.ref a) "__class__") Q E ⟨h,g,d,t,os⟩:=by
 unfold getAttr? getAttrBy?
 repeat (any_goals (first | assumption | with_reducible apply Eh KX F hx hc | wp_step))
def U9 (a:Addr)(C:Addr)(h:Heap):Prop:=∃o vs,h.get? a=some o/\o.cls=.ref C/\o.data=.fields vs
theorem MN (F:jh K C):KitX K (.ref a) (.ref C) (U9 a C) where
 ty:=λM h _ ⟨o,vs,h1,h2,_⟩=>h2 ▸ (Looks.ld h1).andThen .now
 it:=λM h KX _=>by
  obtain⟨cd,hc,_⟩:=Option.bind_eq_some_iff.mp F.mo
  unfold clsIn at hc
  split at hc
  ·rename_i c' d' Zu vh ho
   intro A' Q' E' s' k q
   unfold isType loadHead
   exact wpAny_bind (wpAny_loadPart (k _ _ (KX _ _ ho)) (wpAny_pure q))
  ·cases hc
 ne:=λh tp dd its n sl KX htp=>by
  obtain⟨cd,hc,_⟩:=Option.bind_eq_some_iff.mp F.mo
  refine Bool.eq_false_iff.mpr λq=>?_
  have e:C=tp:=Value.ref.inj (beq_iff_eq.mp q)
  subst e
  unfold clsIn at hc
  split at hc
  ·rename_i c' d' Zu vh ho
   have z:=(KX _ _ ho).symm.trans htp
   cases z
  ·cases hc
 ca:=λ{prog w A E Q s} KX ⟨o,vs,h1,h2,_⟩ k=>by
  obtain⟨h,g,d,t,os⟩:=s
  exact AN KX F h1 h2 k
end
section
variable {X:Cx}
def yF:V->Value
 | .ref a=>.ref a
 | .ty n=>.type n
 | _=>.none
inductive GY (K:PySem.W.Frag) (H:Hp):V->Value->Prop where
 | of {x:V} {t:Value} (h:mP K H x t):GY K H x t
 | exc {a C:Addr} (e:H a=some (yE a (.ref C))) (F:jh K C):GY K H (.ref a) (.ref C)
theorem call_isinstance:dJ X (.builtin "isinstance") (λxs H Q=>∃x c t b,xs=[x,c]/\((∃a,c=.ref a)\/∃n,c=.ty n)/\GY X.K H x t/\PySem.W.kitOne X.K t (yF c)=some b/\Q (.bl b) H):=by
 intro pins s σ H xs us Q I r h
 obtain⟨x,c,t,b,rfl,hc,ht,hk,q⟩:=h
 obtain⟨u,cv,rfl,ru,rc⟩:=vals2 r
 have ec:cv=yF c:=by
  rcases hc with ⟨a,rfl⟩ | ⟨n,rfl⟩ <;> exact rc
 subst ec
 have fin:∀tk,EP X pins σ Q (.bool b) { s with toks:=tk }:=λtk=>⟨.bl b,H,I.tok _,rfl,q⟩
 cases ht with
 | of ht=>exact Ke I ru ht hk fin
 | @exc a C e F=>
  cases (show u=Value.ref a from ru)
  obtain⟨⟨o,vs,h1,h2,h3⟩,_⟩:=(show bE X.prog X.w H s.heap a (yE a (.ref C)) from I.hok a _ e)
  exact PySem.W.kia_one (MN F) I.gR ⟨o,vs,h1,h2,h3⟩ hk (λz=>nomatch z) fin
end
end L2
namespace L2
open PySem PySem.Spec PyProof.Rows
structure Def (K:PySem.W.Frag)(mg:Str->Option Value)(x:Str)(st:Stmt)(f:Addr)(fd:FuncData)(ps:List Str):Prop where
 fn:nL K x x st f fd
 bd:Binds K fd ps []
 mg:mg x=some (.ref f)
section
variable {X:Cx}{CX:qC}{k:Nat}{f:Addr}{fd:FuncData}{ps:List Str}{sp:Sp}{E:XK}{x:Str}{st:Stmt}{p pos:Pos}{e:Expr}{es:List Expr}{t:TA}
theorem aB (D:Def X.K X.mg x st f fd ps)(F:aA X.prog X.w X.K X.mg X.base CX k f fd ps sp)(hr:cU k X.A)(hx:Passes CX X E)(ha:PA X (e::es) t)(hg:Gl X x:=by rfl)
  (hdb:(x == ("__debug__":Str))=false:=by decide) (he:starEach (e::es) X.env=(false,eval e X.env)::starEach es X.env:=by rfl) (hpl:(backTo pos (starEach es X.env)).any (·.1)=false:=by rfl) :
  PE X (.Call (.Name x p) (e::es) [] pos) (wY sp [] E t):=Qe F hr hg D.mg D.fn.kp D.bd .nil hx ha hdb he hpl
end
section
variable {K:PySem.W.Frag}{ix:List (Option Nat)}{te:TE}{σ:St}{H1:Hp}{Q:Addr->Hp->Prop}
theorem Ei {fv:Nat->V}{n i₀:Nat}(f:Nat->V)(hz:n<=sizeLine)
  (hs:∀(i:Nat) (H:Hp) (R:VK),i < n->ah H1 H->(∀H6,ah H H6->R (f i) H6)->te ((dM ix σ).set i₀ (some (fv i))) H R)
  (hd:∀D H,H1 D=none->ah H1 H->H D=some (.lst ((List.range n).map f))->Q D H):ee (Kz fv n) ix (fc i₀) yz te σ H1 Q:=by
 intro D hD
 refine⟨λi m ys H=>m=n - i/\i<=n/\ah H1 H/\ys=(List.range i).map f,⟨n,by simp,Nat.zero_le _,ah.new hD _,by simp⟩,?_⟩
 rintro i m ys H ⟨rfl,hi,sm,p⟩ bC
 by_cases hlt:i < n
 ·refine .inr ⟨hlt,λx H3 y=>?_⟩
  obtain⟨e,y⟩:=y
  subst e; subst y
  show te ((dM ix σ).set i₀ (some (fv i))) _ _
  refine hs i _ _ hlt sm λH6 r1=>?_
  refine⟨r1 _ _ bC,?_,n - (i+1),by omega,rfl,hlt,(sm.trans r1).put hD _,?_⟩
  ·rw[p,List.length_map,List.length_range]; omega
  ·rw[p,List.range_succ,List.map_append]; rfl
 ·have e:i=n:=by omega
  subst e
  exact .inl ⟨Nat.le_refl _,hd D H hD sm (by rw[bC,p])⟩
end
end L2
namespace L2
open PySem PySem.Spec PyProof.Rows
def Gv (t:TE)(σ:St)(H:Hp)(v:V):Prop:=∀R:VK,(∀H',ah H H'->R v H')->t σ H R
def Gt (t:TT)(σ:St)(H:Hp)(b:Bool):Prop:=∀R:Bool->Hp->Prop,(∀H',ah H H'->R b H')->t σ H R
def Ga (t:TA)(σ:St)(H:Hp)(vs:List V):Prop:=∀R:List V->Hp->Prop,(∀H',ah H H'->R vs H')->t σ H R
section
variable {σ:St}{H:Hp}{ta tb tc te:TE}{t u:TT}{tt:TA}{v x y:V}{p q b:Bool}{i j k:Int}
theorem af {n:Nat}(h:σ[n]?=some (some v)):Gv (eG n) σ H v:=λR r=>⟨v,h,r H (ah.refl H)⟩
theorem ay:Gv (tC v) σ H v:=λR r=>r H (ah.refl H)
theorem nu {R:VK}(h:Gv te σ H v)(r:∀H',ah H H'->R v H'):te σ H R:=h R r
theorem eF (h:Gv te σ H x)(e:x=y):Gv te σ H y:=e ▸ h
theorem gS (h:Gt t σ H p)(e:p=q):Gt t σ H q:=e ▸ h
theorem pD (h:Gt t σ H b):Gt (Ry t) σ H (!b):=λR r=>h _ λH' s=>r H' s
theorem SD (h:Gt t σ H p)(g:p=true->∀H',ah H H'->Gt u σ H' q):Gt (Rw t u) σ H (p&&q):=λR r=>h _ λH' s=>by
 cases p with
 | true=>rw[if_pos rfl]; exact g rfl H' s _ λH2 s2=>r H2 (s.trans s2)
 | false=>rw[if_neg Bool.false_ne_true]; exact r H' s
theorem OC (h:Gt t σ H p)(g:p=false->∀H',ah H H'->Gt u σ H' q):Gt (VE t u) σ H (p||q):=λR r=>h _ λH' s=>by
 cases p with
 | true=>rw[if_pos rfl]; exact r H' s
 | false=>rw[if_neg Bool.false_ne_true]; exact g rfl H' s _ λH2 s2=>r H2 (s.trans s2)
theorem cz (h:Gv te σ H (.bl b)):Gt (nq te) σ H b:=λR r=>h _ λH' s=>⟨b,rfl,r H' s⟩
theorem lP (h:Gv te σ H (.bl b)):Gt (tB te) σ H b:=λR r=>h _ λH' s=>⟨b,rfl,r H' s⟩
theorem Ej (h:Gv ta σ H (.bl p))(g:p=true->∀H',ah H H'->Gv tb σ H' (.bl q)):Gv (Ot ta tb) σ H (.bl (p&&q)):=λR r=>h _ λH' s=>by
 refine⟨p,rfl,?_⟩
 cases p with
 | true=>rw[if_pos rfl]; exact g rfl H' s _ λH2 s2=>r H2 (s.trans s2)
 | false=>rw[if_neg Bool.false_ne_true]; exact r H' s
theorem KH (h:Gv ta σ H v):Gv (Ru ta) σ H (.bl (decide (v=.aR))):=λR r=>h _ λH' s=>r H' s
theorem bO {f:Int->Int->V}(h:Gv ta σ H (.int i))(g:∀H',ah H H'->Gv tb σ H' (.int j)):Gv (cZ (qA f) ta tb) σ H (f i j):=λR r=>h _ λH' s=>g H' s _ λH2 s2=>⟨i,j,rfl,rfl,r H2 (s.trans s2)⟩
theorem bS {C:Int->Int->Prop}{f:Int->Int->V}(h:Gv ta σ H (.int i))(g:∀H',ah H H'->Gv tb σ H' (.int j))(hc:C i j):Gv (cZ (rI C f) ta tb) σ H (f i j):=λR r=>h _ λH' s=>g H' s _ λH2 s2=>⟨i,j,rfl,rfl,hc,r H2 (s.trans s2)⟩
theorem ku (h:Gv ta σ H x)(g:∀H',ah H H'->Gv tb σ H' y)(hs:IG x y=true):Gv (cZ BO ta tb) σ H (.bl (decide (x=y))):=λR r=>h _ λH' s=>g H' s _ λH2 s2=>⟨hs,r H2 (s.trans s2)⟩
theorem Ek (h:Gv ta σ H x)(g:∀H',ah H H'->Gv tb σ H' y)(hs:IG x y=true):Gv (cZ RN ta tb) σ H (.bl (!decide (x=y))):=λR r=>h _ λH' s=>g H' s _ λH2 s2=>⟨hs,r H2 (s.trans s2)⟩
theorem tP {f g:Int->Int->Bool}(h1:Gv ta σ H (.int i))(h2:∀H',ah H H'->Gv tb σ H' (.int j))(h3:∀H',ah H H'->Gv tc σ H' (.int k)):Gv (DS (qA λi j=>.bl (f i j)) (qA λi j=>.bl (g i j)) ta tb tc) σ H (.bl (f i j&&g j k)):=
 λR r=>h1 _ λH1 s1=>h2 H1 s1 _ λH2 s2=>⟨i,j,rfl,rfl,f i j,rfl,by
  cases e:f i j with
  | true=>rw[if_pos rfl]; rw[e] at r; exact h3 H2 (s1.trans s2) _ λH3 s3=>⟨j,k,rfl,rfl,by rw[Bool.true_and] at r; exact r H3 ((s1.trans s2).trans s3)⟩
  | false=>rw[if_neg Bool.false_ne_true]; rw[e,Bool.false_and] at r; exact r H2 (s1.trans s2)⟩
theorem El:Ga dc σ H []:=λR r=>r H (ah.refl H)
theorem ao {vs:List V}(h:Gv te σ H v)(g:∀H',ah H H'->Ga tt σ H' vs):Ga (cE te tt) σ H (v::vs):=λR r=>h _ λH' s=>g H' s _ λH2 s2=>r H2 (s.trans s2)
theorem az (h:Gv te σ H v):Ga (cE te dc) σ H [v]:=ao h λ_ _=>El
theorem zH {K:PySem.W.Frag}{n:Nat}(h:Ga tt σ H [v])(hl:∀H',ah H H'->vt K v H' n):Gv (rR (λxs H Q=>∃x n,xs=[x]/\vt K x H n/\Q (.int n) H) tt) σ H (.int n):=λR r=>h _ λH' s=>⟨v,n,rfl,hl H' s,r H' s⟩
theorem rW {K:PySem.W.Frag}{y:Str}(h:Ga tt σ H [.str y])(hz:y.length<=sizeLine):Gv (rR (λxs H Q=>∃x n,xs=[x]/\vt K x H n/\Q (.int n) H) tt) σ H (.int y.length):=zH h λ_ _=>⟨hz,rfl⟩
theorem mT {K:PySem.W.Frag}{a:Addr}{xs:List V}(h:Ga tt σ H [.ref a])(hq:aE K H a xs):Gv (rR (λxs H Q=>∃x n,xs=[x]/\vt K x H n/\Q (.int n) H) tt) σ H (.int xs.length):=zH h λ_ s=>.inl ⟨xs,s.seq hq,rfl⟩
theorem MO {α:Type}(x:α)(xs:List α):lM (x::xs) 0=some x:=by
 have:=cu (xs:=x::xs) (j:=0) (v:=x) rfl
 simpa using this
theorem fh {sp:Sp}{E:XK}{vs:List V}(h:Ga tt σ H vs)(hc:∀H' (R:VK),ah H H'->(∀H2,ah H' H2->R v H2)->sp (vs++[]) H' R E):Gv (wY sp [] E tt) σ H v:=λR r=>h _ λH' s=>hc H' R s λH2 s2=>r H2 (s.trans s2)
theorem kD {K:PySem.W.Frag}{a:Addr}{xs:List V}(h:Gv ta σ H (.ref a))(g:∀H',ah H H'->Gv tb σ H' (.int i))(hq:aE K H a xs)(hi:lM xs i=some v):Gv (cZ (qS K) ta tb) σ H v:=λR r=>h _ λH' s=>g H' s _ λH2 s2=>⟨a,xs,i,v,rfl,rfl,(s.trans s2).seq hq,hi,r H2 (s.trans s2)⟩
theorem SE {z:Str}{c:Nat}(h:Gv ta σ H (.str z))(g:∀H',ah H H'->Gv tb σ H' (.int i))(hz:z.length<=sizeLine)(hi:lM z.cps.toList i=some c):Gv (cZ RW ta tb) σ H (.str ⟨#[c]⟩):=λR r=>h _ λH' s=>g H' s _ λH2 s2=>⟨z,i,c,rfl,rfl,hz,hi,r H2 (s.trans s2)⟩
theorem Qp {x y:Str}(h:Gv ta σ H (.str x))(g:∀H',ah H H'->Gv tb σ H' (.str y))(hz:x.length+y.length<=sizeLine):Gv (cZ (λx y H Q=>∃i j,x=.str i/\y=.str j/\i.length+j.length<=sizeLine/\Q (.str (i++j)) H) ta tb) σ H (.str (x++y)):=λR r=>h _ λH' s=>g H' s _ λH2 s2=>⟨x,y,rfl,rfl,hz,r H2 (s.trans s2)⟩
variable {D:Ends}{ts us:TS}{n:Nat}
theorem gZ (h:ts { D with nx:=us D } σ H):eK ts us D σ H:=h
theorem g_ (h:Gt t σ H b)(k1:b=true->∀H',ah H H'->ts D σ H')(k2:b=false->∀H',ah H H'->us D σ H'):ym t ts us D σ H:=h _ λH' s=>by
 cases b with
 | true=>rw[if_pos rfl]; exact k1 rfl H' s
 | false=>rw[if_neg Bool.false_ne_true]; exact k2 rfl H' s
theorem zI (h:Gv te σ H v)(k:∀H',ah H H'->D.nx (σ.set n (some v)) H'):vj te (fc n) D σ H:=h _ k
theorem cK (h:Gv te σ H v)(k:∀H',ah H H'->D.rt v H'):IC te D σ H:=h _ k
theorem GZ (h:D.nx σ H):zj D σ H:=h
variable {ix:List (Option Nat)}{g:TG}{tf:TT}{R:VK}
theorem vI {jj:Int}(h:Ga tt σ H [.int jj])(h1:-(2 ^ 62)<=jj)(h2:jj < 2 ^ 62)(k:∀H',ah H H'->ee (vm 0 jj.toNat) ix g tf te σ H' λD' H2=>R (.ref D') H2):oQ (De tt) ix g tf te σ H R:=h _ λH' s=>⟨jj,rfl,h1,h2,k H' s⟩
theorem zJ {K:PySem.W.Frag}{a:Addr}{xs:List V}(h:Gv ta σ H (.ref a))(hq:aE K H a xs)(k:∀H',ah H H'->aE K H' a xs->ee (rO K a) ix g tf te σ H' λD' H2=>R (.ref D') H2):oQ (oN K ta) ix g tf te σ H R:=h _ λH' s=>⟨a,rfl,⟨xs,s.seq hq⟩,k H' s (s.seq hq)⟩
theorem SG {z:Str}(h:Gv ta σ H (.str z))(k:∀H',ah H H'->ee (Kz (zE z) z.cps.size) ix g tf te σ H' λD' H2=>R (.ref D') H2):oQ (Sl ta) ix g tf te σ H R:=h _ λH' s=>⟨z,rfl,k H' s⟩
theorem cI (h:te σ H D.rt):IC te D σ H:=h
theorem SH {K:PySem.W.Frag}{a:Addr}{xs:List V}(h:Gv ta σ H (.ref a))(hq:aE K H a xs)(k:∀H',ah H H'->aE K H' a xs->ee (rO K a) ix g tf te σ H' λD' H2=>D.nx (σ.set n (some (.ref D'))) H2):yC n (oN K ta) ix g tf te D σ H:=h _ λH' s=>⟨a,rfl,⟨xs,s.seq hq⟩,k H' s (s.seq hq)⟩
theorem bB {sp:Sp}{E:XK}{vs:List V}(h:Ga tt σ H vs)(k:∀H',ah H H'->sp (vs++[]) H' R E):wY sp [] E tt σ H R:=h _ λH' s=>k H' s
theorem G0 (h:te σ H λx H1=>D.nx (σ.set n (some x)) H1):vj te (fc n) D σ H:=h
theorem mU (h:te σ H λ_ H1=>D.nx σ H1):Dd te D σ H:=h
theorem gq (h:Gt t σ H b)(k1:b=true->∀H',ah H H'->ts { D with nx:=us D } σ H')(k2:b=false->∀H',ah H H'->us D σ H'):eK (ym t ts zj) us D σ H:=g_ h k1 k2
theorem gE (h:Gv te σ H v)(k:∀H',ah H H'->us D (σ.set n (some v)) H'):eK (vj te (fc n)) us D σ H:=h _ k
theorem bh (h:te σ H λx H1=>us D (σ.set n (some x)) H1):eK (vj te (fc n)) us D σ H:=h
theorem bH (h:te σ H λ_ H1=>us D σ H1):eK (Dd te) us D σ H:=h
end
end L2
namespace L2
open PySem PySem.Spec PyProof.Rows
section
variable {X:Cx}(K:PySem.W.Frag)
theorem k_ (h:X.K=K:=by rfl):dJ X (.builtin "len") (λxs H Q=>∃x n,xs=[x]/\vt K x H n/\Q (.int n) H):=h ▸ Mr
theorem Em (h:X.K=K:=by rfl)(hc:X.calm=true:=by rfl):dJ X (.builtin "all") (λxs H Q=>∃(a:Addr) (bs:List Bool),xs=[.ref a]/\aE K H a (bs.map V.bl)/\Q (.bl (bs.all λb=>b)) H):=by
 subst h
 intro pins s σ H xs us Q I r q
 exact MI pins s σ H xs us Q I r ⟨hc,q⟩
theorem U_ (h:X.K=K:=by rfl):dJ X (.type "list") (λxs H Q=>∃p ys,xs=[.ref p]/\(aE K H p ys\/aK K H p ys)/\∀l,H l=none->Q (.ref l) (upd H l (.lst ys))):=h ▸ D0
theorem jb (h:X.K=K:=by rfl):dJ X (.builtin "isinstance") (λxs H Q=>∃x c t b,xs=[x,c]/\((∃a,c=.ref a)\/∃n,c=.ty n)/\GY K H x t/\PySem.W.kitOne K t (yF c)=some b/\Q (.bl b) H):=h ▸ call_isinstance
theorem fu (h:X.K=K:=by rfl):DX X (qS K):=h ▸ Qi
theorem pF (h:X.K=K:=by rfl):DX X (IU K):=h ▸ RX
theorem Va (h:X.K=K:=by rfl):zu X "str.join" (rJoin K):=h ▸ Ql
theorem SJ (h:X.K=K:=by rfl):zu X "list.count" (Ed K):=h ▸ ML
theorem SK (h:X.K=K:=by rfl):zu X "list.index" (Ef K):=h ▸ MM
theorem AO (hu:X.A.units+64 < cLine)(h:X.K=K:=by rfl):eN X (compareOp .NotEq) (λx y H Q=>(∃d:Dt,d.dep<=60/\Rep K H d x/\Rep K H d y/\Q (.bl false) H)\/
  ∃a b xs,x=.ref a/\y=.ref b/\aE K H a xs/\aE K H b []/\Q (.bl (!xs.isEmpty)) H):=by
 subst h
 intro pins s σ H x y u v Q I rx ry q
 exact SA pins s σ H x y u v Q I rx ry ⟨hu,q⟩
variable {tg l:Expr}{tl ta te to:TE}{t:TA}
theorem jv (hl:PE X l tl)(h:X.K=K:=by rfl):PI X tg l (oN K tl):=h ▸ P_ hl
theorem w6 (hl:PE X l tl)(h:X.K=K:=by rfl):PI X tg l (vn K tl):=h ▸ RJ hl
theorem KI {a:Expr}(ha:PE X a ta)(he:∀whole,isTrue a X.env whole=(do let v ←whole; standAt a.pos; holding [v] (truthy v)))(h:X.K=K:=by rfl) :
  PT X a (fun σ H Q=>ta σ H λx H'=>∃k,IJ K x H' k/\Q k H'):=h ▸ Mq ha he
theorem oR {es:List Expr}{k:Nat}{t:BN}{n:Nat}{pos:Pos}(h1:J3 X es t)(h:X.K=K:=by rfl)(hc:X.calm=true:=by rfl)
  (hn:(assignEach es X.env).length=n:=by rfl) (hst:(assignEach es X.env).findIdx? (·.1)=none:=by rfl):PG X (.Tuple es k pos) (DP K n t):=h ▸ RE hc h1 hn hst
theorem Xp {e:Expr}{j:Nat}{pos p2 p3 p4:Pos}(he:PE X e te)(h:X.K=K:=by rfl):PE X (.Subscript e (.Slice none none (some (.UnaryOp .USub (.Constant (.int 1) j p4) p3)) p2) pos) (ME K te):=h ▸ Sk he
theorem xN {o e:Expr}{es:List Expr}{name:Str}{apos cpos:Pos}{T id:String}{r:V->List V->Hp->VK->Prop}(pa:PlainAttrs T)(slot:Slot T name id)(hty:typeOf (.builtin id)=pure (.type "method_descriptor"))(hm:zu X id r)(ho:PE X o to)(ha:PA X (e::es) t)(h:X.K=K:=by rfl)
  (hbase:attributeBase o name X.env (eval o X.env)=eval o X.env:=by rfl)
  (hfew:((backTo cpos (starEach (e::es) X.env)).all (λx=>!x.1)&&(backToKw cpos (keywordEach [] X.env)).all (λx=>x.1.isSome)
   &&decide ((e::es).length+([]:List Keyword).length+(if ([]:List Keyword).isEmpty then 0 else 1) < 30))=true:=by rfl)
  (hline:(apos.endLine == cpos.line)=true:=by rfl) (hs:starEach (e::es) X.env=(false,eval e X.env)::starEach es X.env:=by rfl) (hplain:(backTo cpos (starEach es X.env)).any (·.1)=false:=by rfl) :
  PE X (.Call (.Attribute o name apos) (e::es) [] cpos) (Kg K T r to t):=h ▸ U6 pa slot hty hm ho ha hbase hfew hline hs hplain
end
end L2
namespace L2
open PySem PySem.Spec PyProof.Rows
def Gn (t:TE)(σ:St)(H:Hp)(xs:List V):Prop:=∀R:VK,(∀p H',H p=none->ah H H'->H' p=some (.lst xs)->R (.ref p) H')->t σ H R
section
variable {σ:St}{H:Hp}{ta tb te:TE}{tt:TA}{xs ys:List V}{K:PySem.W.Frag}{a:Addr}{lo hi:Option Int}
theorem nA {R:VK}(h:Gn te σ H xs)(r:∀p H',H p=none->ah H H'->H' p=some (.lst xs)->R (.ref p) H'):te σ H R:=h R r
theorem AQ {r:List V->Hp->VK->Prop}{R:VK}(h:te σ H λx H1=>r [x] H1 R):rR r (cE te dc) σ H R:=h
theorem zK (h:Gn te σ H xs)(e:xs=ys):Gn te σ H ys:=e ▸ h
theorem dg (h:Ga tt σ H xs)(hz:xs.length<=sizeLine):Gn (lK tt) σ H xs:=λR r=>h _ λH' s=>⟨hz,λp hp=>r p _ (s.free hp) (s.trans (ah.new hp _)) au⟩
theorem SM (ha:Gv ta σ H (.ref a))(hl:H a=some (.lst xs))(hb:∀H',ah H H'->Gn tb σ H' ys)(hz:xs.length+ys.length<=sizeLine):Gn (cZ D5 ta tb) σ H (xs++ys):=
 λR r=>ha _ λH1 s1=>hb H1 s1 _ λp H2 hp s2 hpl=>⟨a,p,xs,ys,rfl,rfl,s2 _ _ (s1 _ _ hl),hpl,hz,λq hq=>r q _ ((s1.trans s2).free hq) ((s1.trans s2).trans (ah.new hq _)) au⟩
theorem G1 (ha:Gn ta σ H xs)(hb:∀H',ah H H'->Gn tb σ H' ys)(hz:xs.length+ys.length<=sizeLine):Gn (cZ D5 ta tb) σ H (xs++ys):=
 λR r=>ha _ λa H1 ha s1 hl=>hb H1 s1 _ λp H2 hp s2 hpl=>⟨a,p,xs,ys,rfl,rfl,s2 _ _ hl,hpl,hz,λq hq=>r q _ ((s1.trans s2).free hq) ((s1.trans s2).trans (ah.new hq _)) au⟩
theorem zL {i:Int}(ha:Gv ta σ H (.int i)):Gv (Ow (rU λi=>.int (-i)) ta) σ H (.int (-i)):=λR r=>ha _ λH1 s1=>⟨i,rfl,r H1 s1⟩
theorem En {i:Int}{v:V}(ha:Gn ta σ H xs)(hb:∀H',ah H H'->Gv tb σ H' (.int i))(hi:lM xs i=some v):Gv (cZ (qS K) ta tb) σ H v:=
 λR r=>ha _ λa H1 ha s1 hl=>hb H1 s1 _ λH2 s2=>⟨a,xs,i,v,rfl,rfl,aE.of (s2 _ _ hl),hi,r H2 (s1.trans s2)⟩
theorem Qq {C:Addr}{c:V}{b:Bool}(h:Ga tt σ H [.ref a,c])(hc:(∃x,c=.ref x)\/∃n,c=.ty n)(e:H a=some (yE a (.ref C)))(F:jh K C)(hk:PySem.W.kitOne K (.ref C) (yF c)=some b) :
  Gv (rR (λxs H Q=>∃x c t b,xs=[x,c]/\((∃a,c=.ref a)\/∃n,c=.ty n)/\GY K H x t/\PySem.W.kitOne K t (yF c)=some b/\Q (.bl b) H) tt) σ H (.bl b):=λR r=>h _ λH' s=>⟨_,c,_,b,rfl,hc,.exc (s _ _ e) F,hk,r H' s⟩
theorem MP {v:V}(ha:Gv ta σ H (.ref a))(hq:aE K H a xs)(hb:∀H',ah H H'->Ga tt σ H' [v])(hf:xs.all iJ=true)(hv:iJ v=true):Gv (Kg K "list" (Ed K) ta tt) σ H (.int (xs.countP λy=>nK y v:Nat)):=
 λR r=>ha _ λH1 s1=>⟨.inl ⟨rfl,_,s1.seq hq⟩,hb H1 s1 _ λH2 s2=>⟨a,xs,v,rfl,rfl,(s1.trans s2).seq hq,hf,hv,r H2 (s1.trans s2)⟩⟩
theorem MQ {v:V}{j:Nat}(ha:Gv ta σ H (.ref a))(hq:aE K H a xs)(hb:∀H',ah H H'->Ga tt σ H' [v])(hf:xs.all iJ=true)(hv:iJ v=true)(hj:j < xs.length)(he:nK xs[j] v=true)(hn:∀(m:Nat) (hm:m < xs.length),m < j->nK xs[m] v=false) :
  Gv (Kg K "list" (Ef K) ta tt) σ H (.int (j:Nat)):=λR r=>ha _ λH1 s1=>⟨.inl ⟨rfl,_,s1.seq hq⟩,hb H1 s1 _ λH2 s2=>⟨a,xs,v,rfl,rfl,(s1.trans s2).seq hq,hf,hv,j,hj,he,hn,r H2 (s1.trans s2)⟩⟩
end
end L2
namespace L2
open PySem PySem.Spec PyProof.Rows
theorem zM {prog:Program}{w:World}:∀{ks:List Int} {us:List Value},Vals (ks.map V.int) us->ItemsAre (intKind prog w) ks us
 | [],_,.nil=>.nil
 | k::ks,u::us,.cons r t=>.cons (by
   obtain⟨tk,rfl⟩:=(show ∃tk,u=Value.int k tk from r)
   exact intKind_is _ _ _ _) (zM t)
theorem KJ {prog:Program}{w:World}:TB.wU (intKind prog w):=λn k v h=>by
 obtain⟨t,rfl⟩:=TB.zw h
 cases n <;> rfl
section
variable {X:Cx}{pins:List (Addr × Obj)}{σ:St}{H:Hp}{s:Shared}
theorem Inv.key (I:Inv X pins σ H s){a:Addr}{ks:List Int}(h:aK X.K H a (ks.map V.int)):IsTupleKey (intKind X.prog X.w) s.heap ks a:=by
 obtain⟨its,r,⟨o,ho,hc,n,hd⟩,_⟩:=I.tuple h
 exact⟨o,its.toArray,n,ho,hc,hd,zM r⟩
def AR (prog:Program)(w:World)(p:Addr)(ps:List (Addr × List Int)):HO:=.ext λh=>TB.gn (intKind prog w) h p ps
abbrev rv (p:Addr × List Int):V:=.ref p.1
theorem BZ:∀{ps:List (Addr × List Int)} {us:List Value},Vals (ps.map rv) us->us=ps.map λp=>Value.ref p.1
 | [],_,.nil=>rfl
 | p::ps,u::us,.cons r t=>by
  have e:u=.ref p.1:=r
  rw[e,BZ t]
  rfl
theorem B5:∀ps:List (Addr × List Int),Vals (ps.map rv) (ps.map TB.rf)
 | []=>.nil
 | p::ps=>.cons (show RelV (.ref p.1) (.ref p.1) from rfl) (B5 ps)
def Xq (X:Cx)(K:PySem.W.Frag)(prog:Program)(w:World):List V->Hp->VK->Prop:=λxs H Q=>∃(l:Addr) (ps:List (Addr × List Int)),xs=[.ref l]/\aE K H l (ps.map rv)/\(∀p∈ps,aK K H p.1 (p.2.map V.int))/\TB.DC ps 75/\
 ∀(S:Addr) (qs:List (Addr × List Int)),H S=none->(∀p∈qs,p∈ps)->(∀p∈ps,∃q∈qs,q.2=p.2)->(qs.map (·.2)).Nodup->Q (.ref S) (upd H S (AR prog w S qs))
theorem KL (hc:X.calm=true)(hu:X.A.units+64 < cLine):dJ X (.type "set") (Xq X X.K X.prog X.w):=by
 intro pins s σ H xs us Q I r h
 obtain⟨l,ps,rfl,hq,ht,few,q⟩:=h
 obtain⟨u,rfl,ru⟩:=vals1 r
 cases ru
 obtain⟨its,r',pl,hz⟩:=I.list hq
 rw[BZ r'] at pl
 refine TB.L_ (knd:=intKind X.prog X.w) (xs:=ps) (I.ok.hd hc) pl.isList (λp hp=>I.key (ht p hp)) KJ (by omega) few λh' tk qs hS m1 m2 kp=>?_
 have nd:(qs.map (·.2)).Nodup:=let ⟨_,_,_,_,_,_,_,_,_,nd⟩:=hS; nd
 have there:∃o,h'.get? s.heap.objs.size=some o:=let ⟨o,_,_,ho,_⟩:=hS; ⟨o,ho⟩
 exact⟨.ref s.heap.objs.size,_,I.laid (t':=tk) kp (Nat.le_refl _) (show bE X.prog X.w _ h' _ (AR X.prog X.w s.heap.objs.size qs) from ⟨hS,there,λh1 h2 x k=>x.at_ k⟩),rfl,q _ qs (I.hok.fresh (Nat.le_refl _)) m1 m2 nd⟩
def G2 (K:PySem.W.Frag)(prog:Program)(w:World):List V->Hp->VK->Prop:=λxs H Q=>∃(S:Addr) (ps:List (Addr × List Int)),xs=[.ref S]/\H S=some (AR prog w S ps)/\(∀p∈ps,aK K H p.1 (p.2.map V.int))/\(∀p∈ps,p.2≠[])/\ps.length < 64/\
 ∀(l:Addr) (qs:List (Addr × List Int)),H l=none->qs.Perm ps->qs.Pairwise (λp q=>HT.lexLt p.2 q.2=true)->Q (.ref l) (upd H l (.lst (qs.map rv)))
theorem Eo (hc:X.calm=true):dJ X (.builtin "sorted") (G2 X.K X.prog X.w):=by
 intro pins s σ H xs us Q I r h
 obtain⟨S,ps,rfl,hS,ht,hne,h64,q⟩:=h
 obtain⟨u,rfl,ru⟩:=vals1 r
 cases ru
 obtain⟨hS',_⟩:=(show bE X.prog X.w H s.heap S (AR X.prog X.w S ps) from I.hok S _ hS)
 refine TB.zx (ps:=ps) (I.ok.hd hc) hS' (λp hp=>I.key (ht p hp)) hne h64 λh' tk l qs c kp hle hl pm pw=>?_
 have hz:(qs.map rv).length<=sizeLine:=by
  rw[List.length_map,pm.length_eq,sizeLine_eq]
  omega
 exact⟨.ref l,_,I.laid (t':=tk) kp hle (show bE X.prog X.w _ h' _ (.lst (qs.map rv)) from ⟨hz,qs.map TB.rf,c,B5 qs,hl⟩),rfl,q _ qs (I.hok.fresh hle) pm pw⟩
end
end L2
namespace L2
open PySem PySem.Spec PyProof.Rows
mutual
def Dt.py:Dt->PyData
 | .aR=>.none
 | .bl b=>.bool b
 | .int i=>.int i
 | .str x=>.str x
 | .lst ds=>.list (Dt.lF ds)
 | .tup ds=>.tuple (Dt.lF ds)
def Dt.lF:List Dt->List PyData
 | []=>[]
 | d::ds=>Dt.py d::Dt.lF ds
end
section
variable {X:Cx}{pins:List (Addr × Obj)}{σ:St}{H:Hp}{s:Shared}
mutual
theorem pG (I:Inv X pins σ H s):∀(d:Dt) {x:V} {u:Value},Rep X.K H d x->RelV x u->∃as,Reads s.heap u d.py as
 | .aR,x,u,h,r=>by unfold Rep at h; subst h; cases r; exact⟨_,.none⟩
 | .bl b,x,u,h,r=>by unfold Rep at h; subst h; cases r; exact⟨_,.bool b⟩
 | .int i,x,u,h,r=>by unfold Rep at h; subst h; obtain⟨t,rfl⟩:=r; exact⟨_,.int i t⟩
 | .str z,x,u,h,r=>by unfold Rep at h; subst h; obtain⟨t,rfl⟩:=r; exact⟨_,.str z t⟩
 | .lst ds,x,u,h,r=>by
  unfold Rep at h
  obtain⟨a,xs,rfl,q,rr⟩:=h
  cases r
  obtain⟨its,r1,p1,_⟩:=I.list q
  obtain⟨o,ho,hc,n,hd⟩:=p1.isList
  obtain⟨as,ra⟩:=vJ I ds rr r1
  exact⟨_,.list ho hc hd (by simpa using ra)⟩
 | .tup ds,x,u,h,r=>by
  unfold Rep at h
  obtain⟨a,xs,rfl,q,rr⟩:=h
  cases r
  obtain⟨its,r1,⟨o,ho,hc,n,hd⟩,_⟩:=I.tuple q
  obtain⟨as,ra⟩:=vJ I ds rr r1
  exact⟨_,.tuple ho hc hd (by simpa using ra)⟩
theorem vJ (I:Inv X pins σ H s):∀(ds:List Dt) {xs:List V} {us:List Value},aD X.K H ds xs->Vals xs us->∃as,ReadsAll s.heap us (Dt.lF ds) as
 | [],xs,us,h,r=>by unfold aD at h; subst h; cases r; exact⟨_,.nil⟩
 | d::ds,xs,us,h,r=>by
  unfold aD at h
  obtain⟨x,xr,rfl,q,t⟩:=h
  cases r with
  | cons rx Ec=>
   obtain⟨as,ra⟩:=pG I d q rx
   obtain⟨bs,rb⟩:=vJ I ds t Ec
   exact⟨_,.cons ra rb⟩
end
def SN (d e:Dt):Prop:=d.py.canLay0=true/\e.py.canLay0=true/\min d.py.depth e.py.depth<=60
def Ep (K:PySem.W.Frag)(neg:Bool):R2:=λx y H Q=>∃d e:Dt,SN d e/\Rep K H d x/\Rep K H e y/\Q (.bl (neg ^^ PyData.eqv d.py e.py)) H
theorem SO (hu:X.A.units+64 < cLine):eN X (compareOp .Eq) (Ep X.K false):=by
 intro pins s σ H x y u v Q I rx ry h
 obtain⟨d,e,⟨f1,f2,f3⟩,hx,hy,q⟩:=h
 obtain⟨as,ra⟩:=pG I d hx rx
 obtain⟨bs,rb⟩:=pG I e hy ry
 rw[Bool.false_xor] at q
 exact SeqAt.rcAt_reads ra rb f1 f2 (by omega) X.prog X.w X.xe _ ⟨.bl _,H,I,rfl,q⟩
theorem SQ (hu:X.A.units+64 < cLine):eN X (compareOp .NotEq) (Ep X.K true):=by
 intro pins s σ H x y u v Q I rx ry h
 obtain⟨d,e,⟨f1,f2,f3⟩,hx,hy,q⟩:=h
 obtain⟨as,ra⟩:=pG I d hx rx
 obtain⟨bs,rb⟩:=pG I e hy ry
 rw[Bool.true_xor] at q
 exact SeqAt.rcNeAt_reads ra rb f1 f2 (by omega) X.prog X.w X.xe _ ⟨.bl _,H,I,rfl,q⟩
theorem MR:∀ns:List Int,Dt.lF (ns.map Dt.int)=ns.map PyData.int
 | []=>rfl
 | n::ns=>by rw[List.map_cons,List.map_cons,←MR ns]; rfl
theorem vL {K:PySem.W.Frag}:∀ns:List Int,aD K H (ns.map Dt.int) (ns.map V.int)
 | []=>by unfold aD; rfl
 | n::ns=>by
  rw[List.map_cons,List.map_cons]
  unfold aD
  exact⟨_,_,rfl,by unfold Rep; rfl,vL ns⟩
end
end L2
namespace L2
open PySem PySem.Spec PyProof.Rows
section
variable {X:Cx}(K:PySem.W.Frag)
theorem SR (h:X.K=K:=by rfl):dJ X (.type "tuple") (λxs H Q=>∃p ys,xs=[.ref p]/\((aE K H p ys/\∀l,H l=none->Q (.ref l) (upd H l (.tup ys)))\/(aK K H p ys/\Q (.ref p) H))):=h ▸ CG
def Vb (K:PySem.W.Frag)(prog:Program)(w:World):List V->Hp->VK->Prop:=λxs H Q=>∃(l:Addr) (ps:List (Addr × List Int)),xs=[.ref l]/\aE K H l (ps.map rv)/\(∀p∈ps,aK K H p.1 (p.2.map V.int))/\TB.DC ps 75/\
 ∀(S:Addr) (qs:List (Addr × List Int)),H S=none->(∀p∈qs,p∈ps)->(∀p∈ps,∃q∈qs,q.2=p.2)->(qs.map (·.2)).Nodup->Q (.ref S) (upd H S (AR prog w S qs))
theorem Xr (P:Program)(w:World)(hu:X.A.units+64 < cLine)(h:X.K=K:=by rfl)(hP:X.prog=P:=by rfl)(hw:X.w=w:=by rfl)(hc:X.calm=true:=by rfl):dJ X (.type "set") (Vb K P w):=by
 subst h; subst hP; subst hw
 exact KL hc hu
theorem Qs (P:Program)(w:World)(h:X.K=K:=by rfl)(hP:X.prog=P:=by rfl)(hw:X.w=w:=by rfl)(hc:X.calm=true:=by rfl):dJ X (.builtin "sorted") (G2 K P w):=by
 subst h; subst hP; subst hw
 exact Eo hc
theorem Xs (hu:X.A.units+64 < cLine)(h:X.K=K:=by rfl):eN X (compareOp .Eq) (Ep K false):=h ▸ SO hu
theorem Xu (hu:X.A.units+64 < cLine)(h:X.K=K:=by rfl):eN X (compareOp .NotEq) (Ep K true):=h ▸ SQ hu
end
def Hm (D:Addr)(H:Hp):Hp:=λb=>if b=D then none else H b
theorem oS {D b:Addr}{H:Hp}(h:b≠D):Hm D H b=H b:=by unfold Hm; rw[if_neg h]
theorem Jb (D:Addr)(H:Hp):Hm D H D=none:=by unfold Hm; rw[if_pos rfl]
theorem ah.hm {D:Addr}{H H':Hp}(s:ah H H'):ah (Hm D H) (Hm D H'):=λb o e=>by
 by_cases c:b=D
 ·rw[c,Jb] at e; cases e
 ·rw[oS c] at e ⊢; exact s b o e
theorem ah.rX {D:Addr}{H H':Hp}(s:ah H H')(o:HO):ah (Hm D H) (Hm D (upd H' D o)):=λb u e=>by
 by_cases c:b=D
 ·rw[c,Jb] at e; cases e
 ·rw[oS c] at e ⊢; rw[aG c]; exact s b u e
theorem pH {D:Addr}{H:Hp}:ah (Hm D H) H:=λb u e=>by
 by_cases c:b=D
 ·rw[c,Jb] at e; cases e
 ·rwa [oS c] at e
theorem ah.into {D:Addr}{H0 H:Hp}(s:ah H0 H)(h:H0 D=none):ah H0 (Hm D H):=λb u e=>by
 have c:b≠D:=aW e h
 rw[oS c]; exact s b u e
theorem aD.snoc {K:PySem.W.Frag}{H:Hp}{d:Dt}{v:V}(h:Rep K H d v):∀{ds:List Dt} {vs:List V},aD K H ds vs->aD K H (ds++[d]) (vs++[v])
 | [],_,r=>by
  unfold aD at r
  subst r
  show aD K H [d] [v]
  unfold aD
  exact⟨v,[],rfl,h,by unfold aD; rfl⟩
 | e::ds,_,r=>by
  unfold aD at r
  obtain⟨x,xs,rfl,q,t⟩:=r
  show aD K H (e::(ds++[d])) (x::(xs++[v]))
  unfold aD
  exact⟨x,_,rfl,q,aD.snoc h t⟩
theorem aD.append {K:PySem.W.Frag}{H:Hp}:∀{ds es:List Dt} {vs ws:List V},aD K H ds vs->aD K H es ws->aD K H (ds++es) (vs++ws)
 | [],es,_,ws,r,r2=>by unfold aD at r; subst r; exact r2
 | e::ds,es,_,ws,r,r2=>by
  unfold aD at r
  obtain⟨x,xs,rfl,q,t⟩:=r
  show aD K H (e::(ds++es)) (x::(xs++ws))
  unfold aD
  exact⟨x,_,rfl,q,aD.append t r2⟩
theorem aD.at_ {K:PySem.W.Frag}{H:Hp}:∀{ds:List Dt} {vs:List V},aD K H ds vs->∀(i:Nat) (v:V),vs[i]?=some v->∃d,ds[i]?=some d/\Rep K H d v
 | [],_,r,i,v,e=>by unfold aD at r; subst r; simp at e
 | d::ds,_,r,i,v,e=>by
  unfold aD at r
  obtain⟨x,xs,rfl,q,t⟩:=r
  cases i with
  | zero=>simp at e; subst e; exact⟨d,rfl,q⟩
  | succ i=>simpa using aD.at_ t i v (by simpa using e)
theorem aD.get {K:PySem.W.Frag}{H:Hp}{ds:List Dt}{vs:List V}(r:aD K H ds vs)(i:Nat)(d:Dt)(e:ds[i]?=some d):∃v,vs[i]?=some v/\Rep K H d v:=by
 have hl:=r.length
 have hi:i < vs.length:=by
  have:=(List.getElem?_eq_some_iff.mp e).1
  omega
 obtain⟨d',e',q⟩:=r.at_ i vs[i] (List.getElem?_eq_getElem hi)
 rw[e] at e'
 cases e'
 exact⟨_,List.getElem?_eq_getElem hi,q⟩
theorem aD.erase {K:PySem.W.Frag}{H:Hp}:∀{ds:List Dt} {vs:List V} (i:Nat),aD K H ds vs->aD K H (ds.eraseIdx i) (vs.eraseIdx i)
 | [],_,i,r=>by unfold aD at r; subst r; simp; unfold aD; rfl
 | d::ds,_,i,r=>by
  unfold aD at r
  obtain⟨x,xs,rfl,q,t⟩:=r
  cases i with
  | zero=>exact t
  | succ i=>
   show aD K H (d::ds.eraseIdx i) (x::xs.eraseIdx i)
   unfold aD
   exact⟨x,_,rfl,q,aD.erase i t⟩
abbrev tupI (t:List Int):Dt:=.tup (t.map Dt.int)
abbrev jw (t:List Int):Dt:=.lst (t.map Dt.int)
theorem Qt {K:PySem.W.Frag}{H:Hp}{i:Int}{v:V}(h:Rep K H (.int i) v):v=.int i:=by unfold Rep at h; exact h
theorem n8 {K:PySem.W.Frag}{H:Hp}:∀{t:List Int} {vs:List V},aD K H (t.map Dt.int) vs->vs=t.map V.int
 | [],_,r=>by unfold aD at r; exact r
 | i::t,_,r=>by
  rw[List.map_cons] at r
  unfold aD at r
  obtain⟨x,xs,rfl,q,t'⟩:=r
  rw[Qt q,n8 t']
  rfl
theorem mV {K:PySem.W.Frag}{H:Hp}{t:List Int}{v:V}:Rep K H (tupI t) v↔∃a,v=.ref a/\aK K H a (t.map V.int):=by
 constructor
 ·intro h
  unfold tupI Rep at h
  obtain⟨a,xs,rfl,q,r⟩:=h
  exact⟨a,rfl,n8 r ▸ q⟩
 ·rintro⟨a,rfl,q⟩
  unfold tupI Rep
  exact⟨a,_,rfl,q,vL t⟩
theorem mW {K:PySem.W.Frag}{H:Hp}{t:List Int}{v:V}:Rep K H (jw t) v↔∃a,v=.ref a/\aE K H a (t.map V.int):=by
 constructor
 ·intro h
  unfold jw Rep at h
  obtain⟨a,xs,rfl,q,r⟩:=h
  exact⟨a,rfl,n8 r ▸ q⟩
 ·rintro⟨a,rfl,q⟩
  unfold jw Rep
  exact⟨a,_,rfl,q,vL t⟩
theorem vM {K:PySem.W.Frag}{H:Hp}:∀{ts:List (List Int)} {vs:List V},aD K H (ts.map tupI) vs->∃ps:List (Addr × List Int),vs=ps.map rv/\ps.map (·.2)=ts/\∀p∈ps,aK K H p.1 (p.2.map V.int)
 | [],_,r=>by unfold aD at r; subst r; exact⟨[],rfl,rfl,λp hp=>by cases hp⟩
 | t::ts,_,r=>by
  rw[List.map_cons] at r
  unfold aD at r
  obtain⟨x,xs,rfl,q,t'⟩:=r
  obtain⟨a,rfl,qa⟩:=mV.mp q
  obtain⟨ps,rfl,e2,e3⟩:=vM t'
  refine⟨(a,t)::ps,rfl,by rw[List.map_cons,e2],λp hp=>?_⟩
  rcases List.mem_cons.mp hp with rfl | hp
  ·exact qa
  ·exact e3 p hp
theorem vN {K:PySem.W.Frag}{H:Hp}:∀ps:List (Addr × List Int),(∀p∈ps,aK K H p.1 (p.2.map V.int))->aD K H ((ps.map (·.2)).map tupI) (ps.map rv)
 | [],_=>by show aD K H [] []; unfold aD; rfl
 | p::ps,h=>by
  show aD K H (tupI p.2::(ps.map (·.2)).map tupI) (rv p::ps.map rv)
  unfold aD
  exact⟨_,_,rfl,mV.mpr ⟨p.1,rfl,h p List.mem_cons_self⟩,vN ps λq hq=>h q (List.mem_cons_of_mem _ hq)⟩
section
variable {K:PySem.W.Frag}{ix:List (Option Nat)}{te:TE}{σ:St}{H1:Hp}{Q:Addr->Hp->Prop}
theorem CK {a:Addr}{xs:List V}{i₀:Nat}(f:Nat->Dt)(hq:aE K H1 a xs)(hz:xs.length<=sizeLine)
  (hs:∀(D:Addr) (i:Nat) (x:V) (H:Hp) (R:VK),H1 D=none->(∃ys,H D=some (.lst ys))->xs[i]?=some x->ah H1 H->(∀v H6,ah H H6->Rep K (Hm D H6) (f i) v->R v H6)->te ((dM ix σ).set i₀ (some x)) H R)
  (hd:∀D H ys,H1 D=none->ah H1 H->H D=some (.lst ys)->aD K (Hm D H) ((List.range xs.length).map f) ys->Q D H):ee (rO K a) ix (fc i₀) yz te σ H1 Q:=by
 intro D hD
 refine⟨λi m ys H=>m=xs.length - i/\i<=xs.length/\ah H1 H/\aD K (Hm D H) ((List.range i).map f) ys,⟨xs.length,by simp,Nat.zero_le _,ah.new hD _,by show aD K _ [] []; unfold aD; rfl⟩,?_⟩
 rintro i m ys H ⟨rfl,hi,sm,p⟩ bC
 have q:=sm.seq hq
 by_cases hlt:i < xs.length
 ·refine .inr ⟨⟨xs,xs[i],q,by simp [hlt]⟩,λx H3 y=>?_⟩
  obtain⟨e,y⟩:=y
  subst e
  show te ((dM ix σ).set i₀ (some x)) _ _
  refine hs D i x _ _ hD ⟨ys,bC⟩ (y xs q) sm λv H6 s6 rv6=>?_
  have hyl:ys.length=i:=by rw[p.length,List.length_map,List.length_range]
  refine⟨s6 _ _ bC,by omega,xs.length - (i+1),by omega,rfl,hlt,(sm.trans s6).put hD _,?_⟩
  rw[List.range_succ,List.map_append]
  exact aD.snoc (rv6.same ((ah.refl H6).rX _)) (p.same (s6.rX _))
 ·have e:i=xs.length:=by omega
  subst e
  exact .inl ⟨⟨xs,q,Nat.le_refl _⟩,hd D H ys hD sm bC p⟩
end
end L2
namespace L2
open PySem PySem.Spec PyProof.Rows
section
variable {X:Cx}(K:PySem.W.Frag)
theorem Xv (hu:X.A.units+64 < cLine)(h:X.K=K:=by rfl):eN X (compareOp .Lt) (My K):=h ▸ RV (by omega)
end
section
variable {K:PySem.W.Frag}{ix:List (Option Nat)}{te ta tb:TE}{tt:TA}{g:TG}{tf:TT}{σ:St}{H H1:Hp}{Q:Addr->Hp->Prop}{R:VK}
theorem pI {a:Addr}{xs:List V}{i₀:Nat}(f:V->V)(hq:aK K H1 a xs)(hz:xs.length<=sizeLine)
  (hs:∀(i:Nat) (x:V) (H:Hp) (R:VK),xs[i]?=some x->ah H1 H->(∀H6,ah H H6->R (f x) H6)->te ((dM ix σ).set i₀ (some x)) H R)
  (hd:∀D H,H1 D=none->ah H1 H->H D=some (.lst (xs.map f))->Q D H):ee (zl K a) ix (fc i₀) yz te σ H1 Q:=by
 intro D hD
 refine⟨λi m ys H=>m=xs.length - i/\i<=xs.length/\ah H1 H/\ys=(xs.take i).map f,⟨xs.length,by simp,Nat.zero_le _,ah.new hD _,by simp⟩,?_⟩
 rintro i m ys H ⟨rfl,hi,sm,p⟩ bC
 have q:=sm.tup hq
 by_cases hlt:i < xs.length
 ·refine .inr ⟨⟨xs,xs[i],q,by simp [hlt]⟩,λx H3 y=>?_⟩
  obtain⟨e,y⟩:=y
  subst e
  have hx:=y xs q
  show te ((dM ix σ).set i₀ (some x)) _ _
  refine hs i x _ _ hx sm λH6 r1=>?_
  refine⟨r1 _ _ bC,?_,xs.length - (i+1),by omega,rfl,hlt,(sm.trans r1).put hD _,?_⟩
  ·rw[p,List.length_map,List.length_take]; omega
  ·rw[uA f xs i x hx,p]
 ·have e:i=xs.length:=by omega
  subst e
  refine .inl ⟨⟨xs,q,Nat.le_refl _⟩,hd D H hD sm ?_⟩
  rw[bC,p,List.take_length]
theorem KN {a:Addr}{xs:List V}(h:Gv ta σ H (.ref a))(hq:aK K H a xs)(k:∀H',ah H H'->aK K H' a xs->ee (zl K a) ix g tf te σ H' λD' H2=>R (.ref D') H2):oQ (vn K ta) ix g tf te σ H R:=h _ λH' s=>⟨a,rfl,⟨xs,s.tup hq⟩,k H' s (s.tup hq)⟩
theorem Qu {i j:Int}(h:Ga tt σ H [.int i,.int j])(hb:-(2 ^ 62)<=i/\i < 2 ^ 62/\-(2 ^ 62)<=j/\j < 2 ^ 62)(k:∀H',ah H H'->ee (vm i (j - i).toNat) ix g tf te σ H' λD' H2=>R (.ref D') H2):oQ (Df tt) ix g tf te σ H R:=h _ λH' s=>⟨i,j,rfl,hb,k H' s⟩
theorem G3 {a:Addr}{xs:List V}(h:Ga tt σ H [.ref a])(hq:aK K H a xs):Gv (rR (λxs H Q=>∃x n,xs=[x]/\vt K x H n/\Q (.int n) H) tt) σ H (.int xs.length):=zH h λ_ s=>.inr ⟨xs,s.tup hq,rfl⟩
theorem jx {a:Addr}{xs:List V}{i:Int}{v:V}(h:Gv ta σ H (.ref a))(g:∀H',ah H H'->Gv tb σ H' (.int i))(hq:aK K H a xs)(hi:lM xs i=some v):Gv (cZ (IU K) ta tb) σ H v:=λR r=>h _ λH' s=>g H' s _ λH2 s2=>⟨a,xs,i,v,rfl,rfl,(s.trans s2).tup hq,hi,r H2 (s.trans s2)⟩
theorem SS {a b:Addr}{x y:List Int}(h:Gv ta σ H (.ref a))(g:∀H',ah H H'->Gv tb σ H' (.ref b))(ha:aK K H a (x.map V.int))(hb:aK K H b (y.map V.int)):Gv (cZ (My K) ta tb) σ H (.bl (HT.lexLt x y)):=λR r=>h _ λH1 s1=>g H1 s1 _ λH2 s2=>⟨a,b,x,y,rfl,rfl,(s1.trans s2).tup ha,(s1.trans s2).tup hb,r H2 (s1.trans s2)⟩
end
end L2
namespace L2
open PySem PySem.Spec PyProof.Rows
section
variable {prog:Program}{w:World}{A:Around}{E:Value->Shared->Prop}{s:Shared}
end
section
variable {prog:Program}{w:World}{A:Around}{E:Value->Shared->Prop}{s:Shared}
end
end L2
namespace L2
open PySem PySem.Spec PyProof.Rows
section
variable {X:Cx}
end
section
variable {K:PySem.W.Frag}{ix:List (Option Nat)}{te ta tb:TE}{tt:TA}{g:TG}{tf:TT}{σ:St}{H H1:Hp}{Q:Addr->Hp->Prop}{R:VK}
end
section
variable {X:Cx}(K:PySem.W.Frag)
end
end L2
namespace TB
open PySem PySem.Spec
namespace SF
end SF
section
variable {prog:Program}{w:World}{K:Type}[DecidableEq K]{knd:KeyKind prog w K}{A:Around}{E:Value->Shared->Prop}{s:Shared}
variable {I:Addr}{fp wr:List Addr}{n:Nat}{P:Nat->Value->Prop}{St:Nat->Heap->Prop}{R:Result->Shared->Prop}
end
end TB
namespace L2
open PySem PySem.Spec PyProof.Rows
section
variable {X:Cx}{pins:List (Addr × Obj)}{σ:St}{H:Hp}{s:Shared}
end
section
variable {X:Cx}(K:PySem.W.Frag)
end
end L2
namespace TB
open PySem PySem.Spec L2
mutual
def iH (h:Heap):Dt->Value->Prop
 | .int i,v=>∃t,v=.int i t
 | .str x,v=>PyData.strOk x=true/\∃t,v=.str x t
 | .tup ds,v=>∃a o items n,v=.ref a/\h.get? a=some o/\o.cls=.type "tuple"/\o.data=.seq items n/\fT h ds items.toList
 | _,_=>False
def fT (h:Heap):List Dt->List Value->Prop
 | [],vs=>vs=[]
 | d::ds,vs=>∃v r,vs=v::r/\iH h d v/\fT h ds r
end
mutual
def n9:Dt->Nat
 | .tup ds=>gT ds+1
 | _=>0
def gT:List Dt->Nat
 | []=>0
 | d::ds=>max (n9 d) (gT ds)
end
mutual
def Jc (P:Program)(w:World):Dt->Int
 | .int i=>(intKind P w).hash i
 | .str x=>(strKind P w).hash x
 | .tup ds=>reduceHash (Builtin.Tuple.tupleHashOf (rY P w ds))
 | _=>0
def rY (P:Program)(w:World):List Dt->List Int
 | []=>[]
 | d::ds=>Jc P w d::rY P w ds
end
mutual
def Dh:Dt->Nat
 | .tup ds=>vO ds+1
 | _=>1
def vO:List Dt->Nat
 | []=>0
 | d::ds=>Dh d+vO ds
end
mutual
theorem iH.inj {h:Heap}:∀(d e:Dt) {v:Value},iH h d v->iH h e v->d=e
 | .int i,e,v,hd,he=>by
  obtain⟨t,rfl⟩:=hd
  cases e with
  | int j=>obtain⟨_,z⟩:=he; cases z; rfl
  | str _=>obtain⟨_,_,z⟩:=he; cases z
  | tup _=>obtain⟨_,_,_,_,z,_⟩:=he; cases z
  | _=>exact he.elim
 | .str x,e,v,hd,he=>by
  obtain⟨_,t,rfl⟩:=hd
  cases e with
  | int j=>obtain⟨_,z⟩:=he; cases z
  | str _=>obtain⟨_,_,z⟩:=he; cases z; rfl
  | tup _=>obtain⟨_,_,_,_,z,_⟩:=he; cases z
  | _=>exact he.elim
 | .tup ds,e,v,hd,he=>by
  obtain⟨a,o,items,n,rfl,ho,hc,hdat,hi⟩:=hd
  cases e with
  | int j=>obtain⟨_,z⟩:=he; cases z
  | str _=>obtain⟨_,_,z⟩:=he; cases z
  | tup es=>
   obtain⟨a',o',items',n',z,ho',hc',OD,hi'⟩:=he
   cases z
   obtain rfl:o=o':=Option.some.inj (ho.symm.trans ho')
   rw[hdat] at OD
   injection OD with h1 _
   subst h1
   rw[fT.inj ds es hi hi']
  | _=>exact he.elim
 | .aR,_,_,hd,_=>hd.elim
 | .bl _,_,_,hd,_=>hd.elim
 | .lst _,_,_,hd,_=>hd.elim
theorem fT.inj {h:Heap}:∀(ds es:List Dt) {vs:List Value},fT h ds vs->fT h es vs->ds=es
 | [],[],_,_,_=>rfl
 | [],e::es,vs,hd,he=>by obtain⟨_,_,z,_⟩:=he; rw[show vs=[] from hd] at z; cases z
 | d::ds,[],vs,hd,he=>by obtain⟨_,_,z,_⟩:=hd; rw[show vs=[] from he] at z; cases z
 | d::ds,e::es,vs,hd,he=>by
  obtain⟨v,r,rfl,h1,h2⟩:=hd
  obtain⟨v',r',z,g1,g2⟩:=he
  cases z
  rw[iH.inj d e h1 g1,fT.inj ds es h2 g2]
end
mutual
theorem iH.keep {h h':Heap}(k:∀b o items n,h.get? b=some o->o.cls=.type "tuple"->o.data=.seq items n->h'.get? b=some o):∀(d:Dt) {v:Value},iH h d v->iH h' d v
 | .int i,v,hd=>hd
 | .str x,v,hd=>hd
 | .tup ds,v,hd=>by
  obtain⟨a,o,items,n,rfl,ho,hc,hdat,hi⟩:=hd
  exact⟨a,o,items,n,rfl,k _ _ _ _ ho hc hdat,hc,hdat,fT.keep k ds hi⟩
 | .aR,_,hd=>hd.elim
 | .bl _,_,hd=>hd.elim
 | .lst _,_,hd=>hd.elim
theorem fT.keep {h h':Heap}(k:∀b o items n,h.get? b=some o->o.cls=.type "tuple"->o.data=.seq items n->h'.get? b=some o):∀(ds:List Dt) {vs:List Value},fT h ds vs->fT h' ds vs
 | [],_,hd=>hd
 | d::ds,vs,hd=>by
  obtain⟨v,r,rfl,h1,h2⟩:=hd
  exact⟨v,r,rfl,iH.keep k d h1,fT.keep k ds h2⟩
end
mutual
theorem iH.reads {h:Heap}:∀(d:Dt) {v:Value},iH h d v->∃as,Reads h v d.py as
 | .int i,v,hd=>by obtain⟨t,rfl⟩:=hd; exact⟨_,.int i t⟩
 | .str x,v,hd=>by obtain⟨_,t,rfl⟩:=hd; exact⟨_,.str x t⟩
 | .tup ds,v,hd=>by
  obtain⟨a,o,items,n,rfl,ho,hc,hdat,hi⟩:=hd
  obtain⟨as,ra⟩:=fT.reads ds hi
  exact⟨_,.tuple ho hc hdat ra⟩
 | .aR,_,hd=>hd.elim
 | .bl _,_,hd=>hd.elim
 | .lst _,_,hd=>hd.elim
theorem fT.reads {h:Heap}:∀(ds:List Dt) {vs:List Value},fT h ds vs->∃as,ReadsAll h vs (Dt.lF ds) as
 | [],vs,hd=>by rw[show vs=[] from hd]; exact⟨_,.nil⟩
 | d::ds,vs,hd=>by
  obtain⟨v,r,rfl,h1,h2⟩:=hd
  obtain⟨as,ra⟩:=iH.reads d h1
  obtain⟨bs,rb⟩:=fT.reads ds h2
  exact⟨_,.cons ra rb⟩
end
mutual
def ji:Dt->Bool
 | .int _=>true
 | .str x=>PyData.strOk x
 | .tup ds=>h_ ds
 | _=>false
def h_:List Dt->Bool
 | []=>true
 | d::ds=>ji d&&h_ ds
end
mutual
theorem iH.ji {h:Heap}:∀(d:Dt) {v:Value},iH h d v->ji d=true
 | .int i,v,hd=>rfl
 | .str x,v,hd=>hd.1
 | .tup ds,v,hd=>by
  obtain⟨a,o,items,n,rfl,ho,hc,hdat,hi⟩:=hd
  exact fT.ji ds hi
 | .aR,_,hd=>hd.elim
 | .bl _,_,hd=>hd.elim
 | .lst _,_,hd=>hd.elim
theorem fT.ji {h:Heap}:∀(ds:List Dt) {vs:List Value},fT h ds vs->h_ ds=true
 | [],vs,hd=>rfl
 | d::ds,vs,hd=>by
  obtain⟨v,r,rfl,h1,h2⟩:=hd
  show (TB.ji d&&h_ ds)=true
  rw[iH.ji d h1,fT.ji ds h2]
  rfl
end
mutual
theorem w_:∀d:Dt,ji d=true->d.py.canLay0=true
 | .int i,_=>rfl
 | .str x,h=>h
 | .tup ds,h=>KO ds h
 | .aR,h=>nomatch h
 | .bl _,h=>nomatch h
 | .lst _,h=>nomatch h
theorem KO:∀ds:List Dt,h_ ds=true->PyData.canLayAll0 (Dt.lF ds)=true
 | [],_=>rfl
 | d::ds,h=>by
  have h':ji d=true/\h_ ds=true:=Bool.and_eq_true_iff.mp h
  show (d.py.canLay0&&PyData.canLayAll0 (Dt.lF ds))=true
  rw[w_ d h'.1,KO ds h'.2]
  rfl
end
mutual
theorem G4:∀d:Dt,ji d=true->d.py.depth=n9 d
 | .int i,_=>rfl
 | .str x,_=>rfl
 | .tup ds,h=>by show PyData.depthAll (Dt.lF ds)+1=gT ds+1; rw[Er ds h]
 | .aR,h=>nomatch h
 | .bl _,h=>nomatch h
 | .lst _,h=>nomatch h
theorem Er:∀ds:List Dt,h_ ds=true->PyData.depthAll (Dt.lF ds)=gT ds
 | [],_=>rfl
 | d::ds,h=>by
  have h':ji d=true/\h_ ds=true:=Bool.and_eq_true_iff.mp h
  show max d.py.depth (PyData.depthAll (Dt.lF ds))=max (n9 d) (gT ds)
  rw[G4 d h'.1,Er ds h'.2]
end
mutual
theorem OE:∀d e:Dt,ji d=true->ji e=true->(PyData.eqv d.py e.py=true↔d=e)
 | .int i,.int j,_,_=>by show (i == j)=true↔_; simp
 | .int i,.str x,_,_=>by show false=true↔_; simp
 | .int i,.tup ds,_,_=>by show false=true↔_; simp
 | .str x,.int j,_,_=>by show false=true↔_; simp
 | .str x,.str y,_,_=>by show (x == y)=true↔_; simp
 | .str x,.tup ds,_,_=>by show false=true↔_; simp
 | .tup ds,.int j,_,_=>by show false=true↔_; simp
 | .tup ds,.str x,_,_=>by show false=true↔_; simp
 | .tup ds,.tup es,h1,h2=>by
  show PyData.eqvAll (Dt.lF ds) (Dt.lF es)=true↔_
  rw[KP ds es h1 h2]
  simp
 | .aR,_,h,_=>nomatch h
 | .bl _,_,h,_=>nomatch h
 | .lst _,_,h,_=>nomatch h
 | _,.aR,_,h=>nomatch h
 | _,.bl _,_,h=>nomatch h
 | _,.lst _,_,h=>nomatch h
theorem KP:∀ds es:List Dt,h_ ds=true->h_ es=true->(PyData.eqvAll (Dt.lF ds) (Dt.lF es)=true↔ds=es)
 | [],[],_,_=>by simp [Dt.lF,PyData.eqvAll]
 | [],e::es,_,_=>by simp [Dt.lF,PyData.eqvAll]
 | d::ds,[],_,_=>by simp [Dt.lF,PyData.eqvAll]
 | d::ds,e::es,h1,h2=>by
  have VX:ji d=true/\h_ ds=true:=Bool.and_eq_true_iff.mp h1
  have h2':ji e=true/\h_ es=true:=Bool.and_eq_true_iff.mp h2
  show (PyData.eqv d.py e.py&&PyData.eqvAll (Dt.lF ds) (Dt.lF es))=true↔_
  rw[Bool.and_eq_true,OE d e VX.1 h2'.1,KP ds es VX.2 h2'.2]
  simp
end
section
variable {prog:Program}{w:World}{E:Value->Shared->Prop}
mutual
theorem KQ:∀(d:Dt) (v:Value) (A:Around) (s:Shared) (Q:Int->Shared->Prop),iH s.heap d v->A.units+n9 d < cLine->Q (Jc prog w d) { s with toks:=s.toks+Dh d }->wpAny (model prog w) A (pyHash v) Q E s
 | .int i,v,A,s,Q,hd,hu,q=>by
  obtain⟨t,rfl⟩:=hd
  exact (intKind prog w).pyHash (k:=i) (by show (i == i)=true; simp) q
 | .str x,v,A,s,Q,hd,hu,q=>by
  obtain⟨_,t,rfl⟩:=hd
  exact (strKind prog w).pyHash (k:=x) (by show (x == x)=true; simp) q
 | .tup ds,v,A,s,Q,hd,hu,q=>by
  obtain⟨a,o,items,n,rfl,ho,hc,hdat,hi⟩:=hd
  have D_:A.units+(gT ds+1) < cLine:=hu
  refine PySem.W.pyHash_slot (T:="tuple") ⟨_,ho,hc⟩ F.slot_tuple_hash F.entry_tuple_hash (F.args_tuple_hash_1 _) (beq_builtin_none _) (.inr (by omega)) ?_
  show wpAny _ _ (Builtin.Tuple.tupleItemsOf (.ref a) >>= _) _ _ s
  refine wpAny_bind (wpAny_tupleItemsOf ho hdat ?_)
  refine wpAny_bind ?_
  rw[←Array.forIn_toList]
  refine G5 ds _ A.in1 s #[] _ hi (by rw[Around.in1_units]; omega) ?_
  intro b hb
  show wpAny _ _ (retInt (Builtin.Tuple.tupleHashOf b.toList)) _ _ _
  rw[hb]
  refine wpAny_bind (wpAny_mkInt (wpAny_pure ⟨_,_,rfl,?_⟩))
  exact q
 | .aR,_,_,_,_,hd,_,_=>hd.elim
 | .bl _,_,_,_,_,hd,_,_=>hd.elim
 | .lst _,_,_,_,_,hd,_,_=>hd.elim
theorem G5:∀(ds:List Dt) (vs:List Value) (A:Around) (s:Shared) (b:Array Int) (Q:Array Int->Shared->Prop),fT s.heap ds vs->A.units+gT ds < cLine->
  (∀b',b'.toList=b.toList++rY prog w ds->Q b' { s with toks:=s.toks+vO ds })->
  wpAny (model prog w) A (forIn vs b λx r=>do let h ←pyHash x; pure PUnit.unit; pure (ForInStep.yield (r.push h))) Q E s
 | [],vs,A,s,b,Q,hd,hu,q=>by
  rw[show vs=[] from hd]
  exact wpAny_pure (q b (by simp [rY]))
 | d::ds,vs,A,s,b,Q,hd,hu,q=>by
  obtain⟨v,r,rfl,h1,h2⟩:=hd
  have D_:A.units+max (n9 d) (gT ds) < cLine:=hu
  rw[List.forIn_cons]
  refine wpAny_bind (wpAny_bind (KQ d _ A s _ h1 (by omega) ?_))
  refine wpAny_bind (wpAny_pure (wpAny_pure ?_))
  refine G5 ds _ A _ _ Q h2 (by omega) λb' hb=>?_
  have:=q b' (by simp [hb,rY])
  rw[show s.toks+vO (d::ds)=s.toks+Dh d+vO ds by rw[Nat.add_assoc]; rfl] at this
  exact this
end
mutual
theorem G6:∀(d:Dt) (k:Nat) (v:Value) (A:Around) (s:Shared) (Q:Bool->Shared->Prop),iH s.heap d v->n9 d<=k->Q true s->wpAny (model prog w) A (eqIsQuiet k v) Q E s
 | .int i,k,v,A,s,Q,hd,hk,q=>by
  obtain⟨t,rfl⟩:=hd
  rw[eqIsQuiet_byValue _ (by rfl)]
  exact wpAny_pure q
 | .str x,k,v,A,s,Q,hd,hk,q=>by
  obtain⟨_,t,rfl⟩:=hd
  rw[eqIsQuiet_byValue _ (by rfl)]
  exact wpAny_pure q
 | .tup ds,k,v,A,s,Q,hd,hk,q=>by
  have hk0:gT ds+1<=k:=hk
  obtain⟨k,rfl⟩:∃k',k=k'+1:=⟨k - 1,by omega⟩
  obtain⟨a,o,items,n,rfl,ho,hc,hdat,hi⟩:=hd
  have hT:s.TypeIs (.ref a) "tuple":=⟨o,ho,hc⟩
  have hk':gT ds<=k:=Nat.le_of_succ_le_succ hk
  unfold eqIsQuiet
  refine wpAny_bind (wpAny_specialOf hT F.slot_tuple_eq.lookup ?_)
  show wpAny _ _ (isInstance (.ref a) (.type "tuple") >>= _) _ _ s
  refine wpAny_bind (wpAny_isInstance hT isSubtype_tuple_tuple ?_)
  simp only [Bool.not_true,Bool.false_eq_true,if_false]
  refine wpAny_bind (wpAny_seqItems ho hdat ?_)
  refine wpAny_bind ?_
  show wpAny _ _ (forIn items _ _) _ _ s
  rw[←Array.forIn_toList]
  refine wpAny_forIn_list _ (λrest r s'=>r.1=none/\s'=s/\∃es,fT s.heap es rest/\gT es<=k/\∀e∈es,e∈ds) _ ?_ ?_ _ _ ⟨rfl,rfl,ds,hi,hk',λe he=>he⟩
  ·rintro v rest r s' ⟨hr,rfl,es,hes,hke,hsub⟩
   cases es with
   | nil=>cases (show v::rest=[] from hes)
   | cons e es=>
    obtain⟨v',r',z,h1,h2⟩:=hes
    cases z
    have acI:max (n9 e) (gT es)<=k:=hke
    refine wpAny_bind (Es ds e (hsub e List.mem_cons_self) k _ _ _ _ h1 (by omega) ?_)
    simp only [Bool.not_true,Bool.false_eq_true,if_false]
    exact wpAny_pure ⟨rfl,rfl,es,h2,by omega,λe' he'=>hsub e' (List.mem_cons_of_mem _ he')⟩
  ·rintro⟨r1,r2⟩ s' ⟨hr,rfl,_⟩
   simp only at hr
   subst hr
   exact wpAny_pure q
 | .aR,_,_,_,_,_,hd,_,_=>hd.elim
 | .bl _,_,_,_,_,_,hd,_,_=>hd.elim
 | .lst _,_,_,_,_,_,hd,_,_=>hd.elim
theorem Es:∀(ds:List Dt) (d:Dt),d∈ds->∀(k:Nat) (v:Value) (A:Around) (s:Shared) (Q:Bool->Shared->Prop),iH s.heap d v->n9 d<=k->Q true s->wpAny (model prog w) A (eqIsQuiet k v) Q E s
 | [],d,h=>nomatch h
 | e::es,d,h=>λk v A s Q hd hk q=>by
  by_cases z:e=d
  ·subst z
   exact G6 e k v A s Q hd hk q
  ·exact Es es d (by rcases List.mem_cons.mp h with y | y; exact absurd y.symm z; exact y) k v A s Q hd hk q
end
end
noncomputable instance acy:DecidableEq Dt:=λ_ _=>Classical.propDecidable _
def Xw (h:Heap)(d:Dt)(a:Addr):Prop:=(∃ds,d=.tup ds)/\n9 d<=8/\iH h d (.ref a)
noncomputable def nB (prog:Program) (w:World):HeapKind prog w Dt where
 is:=Xw
 hash:=Jc prog w
 draws:=Dh
 room:=λA=>A.units+8 < cLine
 inj:=λhx hy=>iH.inj _ _ hx.2.2 hy.2.2
 keeps:=λ{h h' k a d o es ep} x ho hd hs=>⟨x.1,x.2.1,iH.keep (λb o' items n e c dt=>(hs.2 b λz=>by
  subst z
  rw[ho] at e; cases e
  rw[hd] at dt; cases dt).trans e) _ x.2.2⟩
 pyHash:=λhu hk h=>KQ _ _ _ _ _ hk.2.2 (by have:=hk.2.1; omega) h
 eqBool:=λ{A E s x y a b Q} hu hx hy h=>by
  obtain⟨as,ra⟩:=iH.reads x hx.2.2
  obtain⟨bs,rb⟩:=iH.reads y hy.2.2
  have i1:=iH.ji x hx.2.2
  have i2:=iH.ji y hy.2.2
  have d1:=G4 x i1
  have k1:=hx.2.1
  refine SeqAt.eqAt_reads x.py y.py A s _ _ as bs ra rb (w_ x i1) (w_ y i2) (by rw[d1]; omega) prog w E Q ?_
  rw[show PyData.eqv x.py y.py=decide (x=y) by rw[Bool.eq_iff_iff,OE x y i1 i2,decide_eq_true_iff]]
  exact h
 quiet:=λhk h=>G6 _ 8 _ _ _ _ hk.2.2 hk.2.1 h
end TB
namespace L2
open PySem PySem.Spec PyProof.Rows
section
variable {κ:Type}[DecidableEq κ]
def eB (kvs:List (κ × V))(k:κ):Option V:=(kvs.find? λkv=>decide (kv.1=k)).map (·.2)
def putK (kvs:List (κ × V))(k:κ)(v:V):List (κ × V):=
 if (kvs.any λkv=>decide (kv.1=k))=true then kvs.map (λkv=>if kv.1=k then (kv.1,v) else kv) else kvs++[(k,v)]
theorem fU {p:κ × V}{r:List (κ × V)}{k:κ}(e:p.1=k):eB (p::r) k=some p.2:=by simp [eB,List.find?_cons,e]
theorem fV {p:κ × V}{r:List (κ × V)}{k:κ}(e:¬ p.1=k):eB (p::r) k=eB r k:=by simp [eB,List.find?_cons,e]
theorem tQ (k:κ):∀kvs:List (κ × V),(kvs.any λkv=>decide (kv.1=k))=(eB kvs k).isSome
 | []=>rfl
 | p::r=>by
  rw[List.any_cons]
  by_cases e:p.1=k
  ·simp only [fU e,decide_eq_true e,Bool.true_or,Option.isSome_some]
  ·rw[fV e,decide_eq_false e,Bool.false_or]; exact tQ k r
theorem Et (k j:κ)(y:V):∀kvs:List (κ × V),eB (kvs.map λkv=>if kv.1=k then (kv.1,y) else kv) j=(eB kvs j).map λx=>if j=k then y else x
 | []=>rfl
 | p::r=>by
  have ih:=Et k j y r
  rw[List.map_cons]
  by_cases h:p.1=k
  ·rw[if_pos h]
   by_cases e:p.1=j
   ·rw[fU (p:=(p.1,y)) e,fU e,Option.map_some,if_pos (e.symm.trans h)]
   ·rw[fV (p:=(p.1,y)) e,fV e,ih]
  ·rw[if_neg h]
   by_cases e:p.1=j
   ·rw[fU (p:=p) e,fU e,Option.map_some,if_neg (λz=>h (e.trans z))]
   ·rw[fV (p:=p) e,fV e,ih]
theorem B_ (k j:κ)(y:V):∀kvs:List (κ × V),eB kvs k=none->eB (kvs++[(k,y)]) j=if j=k then some y else eB kvs j
 | [],_=>by
  by_cases e:k=j
  ·rw[if_pos e.symm]; exact fU (p:=(k,y)) e
  ·rw[if_neg (λz=>e z.symm)]; exact fV (p:=(k,y)) e
 | p::r,hn=>by
  rw[List.cons_append]
  have hk:¬ p.1=k:=λz=>by rw[fU z] at hn; cases hn
  rw[fV hk] at hn
  have ih:=B_ k j y r hn
  by_cases e:p.1=j
  ·rw[fU e,fU e,if_neg (λz=>hk (e.trans z))]
  ·rw[fV e,fV e,ih]
theorem Eu (kvs:List (κ × V))(k j:κ)(y:V):eB (putK kvs k y) j=if j=k then some y else eB kvs j:=by
 unfold putK
 by_cases a:(kvs.any λkv=>decide (kv.1=k))=true
 ·rw[if_pos a,Et]
  rw[tQ] at a
  by_cases e:j=k
  ·obtain⟨x,hx⟩:=Option.isSome_iff_exists.mp a
   rw[if_pos e,e,hx,Option.map_some,if_pos rfl]
  ·rw[if_neg e]
   cases eB kvs j with
   | none=>rfl
   | some x=>rw[Option.map_some,if_neg e]
 ·rw[if_neg a]
  refine B_ k j y kvs ?_
  rw[tQ] at a
  cases q:eB kvs k with
  | none=>rfl
  | some x=>rw[q] at a; exact (a rfl).elim
theorem qT (kvs:List (κ × V))(k:κ)(v:V):(putK kvs k v).length<=kvs.length+1:=by
 unfold putK
 split
 ·rw[List.length_map]; omega
 ·rw[List.length_append,List.length_cons,List.length_nil]; omega
theorem fS.qD {o:Option V}{u:Option Value}(r:fS o u):o.isSome=u.isSome:=by
 cases o with
 | none=>cases u with
  | none=>rfl
  | some _=>exact (show False from r).elim
 | some _=>cases u with
  | none=>exact (show False from r).elim
  | some _=>rfl
theorem fS.getD {o:Option V}{u:Option Value}{d:V}{d':Value}(r:fS o u)(rd:RelV d d'):RelV (o.getD d) (u.getD d'):=by
 cases o with
 | none=>cases u with
  | none=>exact rd
  | some _=>exact (show False from r).elim
 | some _=>cases u with
  | none=>exact (show False from r).elim
  | some _=>exact r
theorem KV.val {kvs:List (κ × V)}{vs:List (κ × Value)}(r:KV kvs vs)(k:κ):fS (eB kvs k) (valueAt vs k):=by
 unfold KV at r
 induction r with
 | nil=>exact True.intro
 | @cons p q ps qs h t ih=>
  obtain⟨h1,h2⟩:=h
  by_cases e:p.1=k
  ·have e':q.1=k:=h1.symm.trans e
   have b:valueAt (q::qs) k=some q.2:=by simp [valueAt,List.find?_cons,e']
   rw[fU e,b]; exact h2
  ·have e':¬ q.1=k:=λz=>e (h1.trans z)
   have b:valueAt (q::qs) k=valueAt qs k:=by simp [valueAt,List.find?_cons,e']
   rw[fV e,b]; exact ih
theorem KV.any {kvs:List (κ × V)}{vs:List (κ × Value)}(r:KV kvs vs)(k:κ):(kvs.any λkv=>decide (kv.1=k))=vs.any λkv=>decide (kv.1=k):=by
 unfold KV at r
 induction r with
 | nil=>rfl
 | cons h t ih=>rw[List.any_cons,List.any_cons,ih,h.1]
theorem KV.repl {kvs:List (κ × V)}{vs:List (κ × Value)}(r:KV kvs vs)(k:κ){y:V}{u:Value}(ry:RelV y u) :
  KV (kvs.map λkv=>if kv.1=k then (kv.1,y) else kv) (vs.map λkv=>if kv.1=k then (kv.1,u) else kv):=by
 unfold KV at r ⊢
 induction r with
 | nil=>exact .nil
 | @cons p q ps qs h t ih=>
  rw[List.map_cons,List.map_cons]
  refine .cons ?_ ih
  obtain⟨h1,h2⟩:=h
  by_cases e:p.1=k
  ·rw[if_pos e,if_pos (h1.symm.trans e)]; exact⟨h1,ry⟩
  ·rw[if_neg e,if_neg (λz=>e (h1.trans z))]; exact⟨h1,h2⟩
theorem KV.put {kvs:List (κ × V)}{vs:List (κ × Value)}(r:KV kvs vs)(k:κ){y:V}{u:Value}(ry:RelV y u):KV (putK kvs k y) (stored vs k u):=by
 unfold putK stored
 rw[r.any k]
 by_cases e:(vs.any λkv=>decide (kv.1=k))=true
 ·rw[if_pos e,if_pos e]; exact r.repl k ry
 ·rw[if_neg e,if_neg e]; exact Paired.snoc r ⟨rfl,ry⟩
theorem KV.keys {kvs:List (κ × V)}{vs:List (κ × Value)}(r:KV kvs vs):kvs.map (·.1)=vs.map (·.1):=by
 unfold KV at r
 induction r with
 | nil=>rfl
 | cons h t ih=>rw[List.map_cons,List.map_cons,ih,h.1]
theorem KV.length {kvs:List (κ × V)}{vs:List (κ × Value)}(r:KV kvs vs):kvs.length=vs.length:=Paired.length r
end
theorem Di {P:Program}{w:World}{k:Key}{u:Value}(r:RelV (kV k) u):(dD P w).is k u=true:=by
 cases k with
 | inl i=>obtain⟨t,e⟩:=(show ∃t,u=Value.int i t from r); subst e; exact F1 P w i t
 | inr x=>obtain⟨t,e⟩:=(show ∃t,u=Value.str x t from r); subst e; exact F2 P w x t
theorem Ca {P:Program}{w:World}:∀{ks:List Key} {us:List Value},Vals (ks.map kV) us->ItemsAre (dD P w) ks us
 | [],_,r=>by rw[List.map_nil] at r; cases r; exact .nil
 | k::ks,_,r=>by
  rw[List.map_cons] at r
  cases r with
  | cons h t=>exact .cons (Di h) (Ca t)
abbrev KT (H:Hp):List (List Key × V)->List (List Key × Addr × Value)->Prop:=Paired λp q=>p.1=q.1/\H q.2.1=some (.tup (p.1.map kV))/\RelV p.2 q.2.2
theorem KT.val {H:Hp}{kvs:List (List Key × V)}{xs:List (List Key × Addr × Value)}(r:KT H kvs xs)(k:List Key):fS (eB kvs k) ((atKey xs k).map (·.2)):=by
 induction r with
 | nil=>exact True.intro
 | @cons p q ps qs h t ih=>
  obtain⟨h1,_,h2⟩:=h
  by_cases e:p.1=k
  ·have e':q.1=k:=h1.symm.trans e
   have b:atKey (q::qs) k=some q.2:=by simp [atKey,List.find?_cons,e']
   rw[fU e,b]; exact h2
  ·have e':¬ q.1=k:=λz=>e (h1.trans z)
   have b:atKey (q::qs) k=atKey qs k:=by simp [atKey,List.find?_cons,e']
   rw[fV e,b]; exact ih
theorem KT.repl {H:Hp}{kvs:List (List Key × V)}{xs:List (List Key × Addr × Value)}(r:KT H kvs xs)(k:List Key){y:V}{u:Value}(ry:RelV y u) :
  KT H (kvs.map λkv=>if kv.1=k then (kv.1,y) else kv) (xs.map (putAt k u)):=by
 induction r with
 | nil=>exact .nil
 | @cons p q ps qs h t ih=>
  rw[List.map_cons,List.map_cons]
  refine .cons ?_ ih
  obtain⟨h1,h2,h3⟩:=h
  unfold putAt
  by_cases e:p.1=k
  ·rw[if_pos e,if_pos (h1.symm.trans e)]; exact⟨h1,h2,ry⟩
  ·rw[if_neg e,if_neg (λz=>e (h1.trans z))]; exact⟨h1,h2,h3⟩
theorem KT.put {H:Hp}{kvs:List (List Key × V)}{xs:List (List Key × Addr × Value)}(r:KT H kvs xs)(k:List Key){b:Addr}{y:V}{u:Value}(hb:H b=some (.tup (k.map kV)))(ry:RelV y u) :
  KT H (putK kvs k y) (storedH xs k b u):=by
 have e:(kvs.any λkv=>decide (kv.1=k))=(atKey xs k).isSome:=by
  rw[tQ,(r.val k).qD,Option.isSome_map]
 unfold putK storedH
 rw[e]
 by_cases q:(atKey xs k).isSome=true
 ·rw[if_pos q,if_pos q]; exact r.repl k ry
 ·rw[if_neg q,if_neg q]; exact Paired.snoc r ⟨rfl,hb,ry⟩
theorem KT.keeps {H H':Hp}{kvs:List (List Key × V)}{xs:List (List Key × Addr × Value)}(r:KT H kvs xs)(ht:∀b ys,H b=some (.tup ys)->H' b=some (.tup ys)):KT H' kvs xs:=
 Paired.Mf r λ_ _ z=>⟨z.1,ht _ _ z.2.1,z.2.2⟩
section
variable {P:Program}{w:World}{H:Hp}{h:Heap}{a:Addr}
theorem OF {u:HO}(ok:fO P w H h)(e:Rd H a u):bE P w H h a u:=e.ok ok
theorem Dj {kvs:List (Key × V)}(ok:fO P w H h)(e:Rd H a (.dK kvs)):kvs.length<=sizeLine/\(a == sysModules)=false/\∃vs,KV kvs vs/\h.DictOf (dD P w) a vs:=
 show bE P w H h a (.dK kvs) from OF ok e
theorem OG {kvs:List (Key × V)}(ok:fO P w H h)(e:H a=some (.dK kvs)):kvs.length<=sizeLine/\(a == sysModules)=false/\∃vs,KV kvs vs/\h.DictOf (dD P w) a vs:=Dj ok (.inl e)
theorem zN {ks:List Key}(ok:fO P w H h)(e:H a=some (.tup (ks.map kV))):(tupleKind (dD P w)).is h ks a:=by
 obtain⟨_,its,r,o,h1,h2,n,h3⟩:=(show bE P w H h a (.tup (ks.map kV)) from ok a _ e)
 exact⟨o,its.toArray,n,h1,h2,h3,by simpa using Ca r⟩
theorem Dk {kvs:List (List Key × V)}(ok:fO P w H h)(e:Rd H a (.dT kvs)):kvs.length<=sizeLine/\(a == sysModules)=false/\
  ∃xs,KT H kvs xs/\h.DictOfH (tupleKind (dD P w)) a xs:=by
 obtain⟨z,y,xs,r,o,es,ep,h1,h2,h3,h4,h5⟩:=(show bE P w H h a (.dT kvs) from OF ok e)
 refine⟨z,y,xs,r,o,es,ep,h1,h2,h3,h4,λx hx=>?_,h5⟩
 have all:∀{l:List (List Key × V)} {m:List (List Key × Addr × Value)},KT H l m->∀x∈m,(tupleKind (dD P w)).is h x.1 x.2.1:=by
  intro l m q
  induction q with
  | nil=>intro x hx; exact nomatch hx
  | @cons p q ps qs hq t ih=>
   intro x hx
   rcases List.mem_cons.mp hx with e | hx
   ·subst e
    exact zN ok (by rw[←hq.1]; exact hq.2.1)
   ·exact ih x hx
 exact all r x hx
theorem Vc {kvs:List (List Key × V)}(ok:fO P w H h)(e:H a=some (.dT kvs)):kvs.length<=sizeLine/\(a == sysModules)=false/\
  ∃xs,KT H kvs xs/\h.DictOfH (tupleKind (dD P w)) a xs:=Dk ok (.inl e)
end
def tR (H:Hp)(a:Addr)(y:V)(r:Option V):Prop:=
 (∃kvs k,Rd H a (.dK kvs)/\y=kV k/\r=eB kvs k)\/∃kvs k b,Rd H a (.dT kvs)/\y=.ref b/\H b=some (.tup (k.map kV))/\r=eB kvs k
def yG (H:Hp)(a:Addr)(y v:V)(H':Hp):Prop:=
 (∃kvs k,H a=some (.dK kvs)/\y=kV k/\kvs.length < sizeLine/\H'=upd H a (.dK (putK kvs k v)))\/
 ∃kvs k b,H a=some (.dT kvs)/\y=.ref b/\H b=some (.tup (k.map kV))/\kvs.length < sizeLine/\H'=upd H a (.dT (putK kvs k v))
theorem tR.k {H:Hp}{a:Addr}{kvs:List (Key × V)}{k:Key}(e:H a=some (.dK kvs)):tR H a (kV k) (eB kvs k):=.inl ⟨kvs,k,.inl e,rfl,rfl⟩
theorem yG.k {H:Hp}{a:Addr}{kvs:List (Key × V)}{k:Key}{v:V}(e:H a=some (.dK kvs))(hl:kvs.length < sizeLine):yG H a (kV k) v (upd H a (.dK (putK kvs k v))):=.inl ⟨kvs,k,e,rfl,hl,rfl⟩
section
variable {X:Cx}{pins:List (Addr × Obj)}{σ:St}{H:Hp}{s:Shared}{a:Addr}{y v:V}{u r:Value}{o:Option V}{A:Around}{E:Value->Shared->Prop}
theorem Inv.big (I:Inv X pins σ H s):sysModules < s.heap.objs.size:=by
 have h:mainGlobals < s.heap.objs.size:=(I.mod.glob.keeps I.bk).lt
 exact Nat.lt_trans (by decide) h
theorem KR {Q:Value->Shared->Prop}(hu:A.units+1 < cLine)(I:Inv X pins σ H s)(g:tR H a y (some v))(ry:RelV y u)(h:∀w' s',Inv X pins σ H s'->RelV v w'->Q w' s') :
  wpAny (model X.prog X.w) A (getItem (.ref a) u) Q E s:=by
 rcases g with ⟨kvs,k,e,ey,l⟩ | ⟨kvs,k,b,e,ey,eb,l⟩
 ·subst ey
  obtain⟨z,hd,vs,rel,dd⟩:=Dj I.hok e
  obtain⟨w',hw,rw'⟩:=fS.some_of (v:=v) (o:=valueAt vs k) (by rw[l]; exact rel.val k)
  exact wpAny_getItem_of (Di ry) dd.mapOf hw (h w' _ (I.tok _) rw')
 ·subst ey
  cases (show u=Value.ref b from ry)
  obtain⟨z,hd,xs,rel,dd⟩:=Dk I.hok e
  obtain⟨w',hw,rw'⟩:=fS.some_of (v:=v) (o:=(atKey xs k).map (·.2)) (by rw[l]; exact rel.val k)
  obtain⟨p,hp,hp2⟩:=Option.map_eq_some_iff.mp hw
  refine wpAny_getItem_heap (tupleKind_room_in1 hu) (zN I.hok eb) dd hp ?_
  rw[hp2]
  exact h w' _ (I.tok _) rw'
theorem Qv {Q:Value->Shared->Prop}(hu:A.units+1 < cLine)(I:Inv X pins σ H s)(g:tR H a y o)(ry:RelV y u)(h:∀s',Inv X pins σ H s'->Q (.bool (!o.isSome)) s') :
  wpAny (model X.prog X.w) A (compareOp .NotIn u (.ref a)) Q E s:=by
 rcases g with ⟨kvs,k,e,ey,l⟩ | ⟨kvs,k,b,e,ey,eb,l⟩
 ·subst ey
  obtain⟨z,hd,vs,rel,dd⟩:=Dj I.hok e
  refine wpAny_notIn_of (Di ry) hd dd.mapOf ?_
  rw[←(rel.val k).qD,←l]
  exact h _ (I.tok _)
 ·subst ey
  cases (show u=Value.ref b from ry)
  obtain⟨z,hd,xs,rel,dd⟩:=Dk I.hok e
  refine wpAny_notIn_heap (tupleKind_room_in1 hu) (zN I.hok eb) hd dd ?_
  have q:=(rel.val k).qD
  rw[Option.isSome_map] at q
  rw[←q,←l]
  exact h _ (I.tok _)
theorem xg {h':Heap}{t':Nat}{ob:HO}(I:Inv X pins σ H s)(mu:dZ (H a))(hs:Heap.SameBut a s.heap h')(he:∃q,h'.get? a=some q)(new:bE X.prog X.w (upd H a ob) h' a ob) :
  Inv X pins σ (upd H a ob) { s with heap:=h',toks:=t' }:=
 I.write (x:=a) (e:=a) mu (.inl rfl) (λb q hb z=>(hs.2 b hb).trans z) he new
theorem SV {P:Program}{w:World}{H':Hp}{h':Heap}{kvs:List (Key × V)}{vs:List (Key × Value)}(z:kvs.length<=sizeLine)(hd:(a == sysModules)=false)(rel:KV kvs vs)(dd:h'.DictOf (dD P w) a vs) :
  bE P w H' h' a (.dK kvs):=⟨z,hd,vs,rel,dd⟩
theorem KS {H':Hp}{Q:Unit->Shared->Prop}(hu:A.units+1 < cLine)(I:Inv X pins σ H s)(g:yG H a y v H')(ry:RelV y u)(rv:RelV v r)(h:∀s',Inv X pins σ H' s'->Q () s') :
  wpAny (model X.prog X.w) A (setItem (.ref a) u r) Q E s:=by
 rcases g with ⟨kvs,k,e,ey,l,eH⟩ | ⟨kvs,k,b,e,ey,eb,l,eH⟩
 ·subst ey eH
  obtain⟨z,hd,vs,rel,dd⟩:=OG I.hok e
  have hz:vs.length<=sizeLine:=by rw[←rel.length]; exact z
  have hl:(putK kvs k v).length<=sizeLine:=by have:=qT kvs k v; omega
  refine wpAny_setItem_pairs (hsz:=hz) (Di ry) dd λh' Cb hs=>h _ ?_
  have he:∃q,h'.get? a=some q:=let ⟨q,_,_,hq,_⟩:=Cb; ⟨q,hq⟩
  exact xg I (by rw[e]; exact True.intro) hs he (SV hl hd (rel.put k rv) Cb)
 ·subst ey eH
  cases (show u=Value.ref b from ry)
  obtain⟨z,hd,xs,rel,dd⟩:=Vc I.hok e
  have hz:xs.length<=sizeLine:=by rw[←Paired.length rel]; exact z
  have hl:(putK kvs k v).length<=sizeLine:=by have:=qT kvs k v; omega
  refine wpAny_setItem_heap (hsz:=hz) (tupleKind_room_in1 hu) (zN I.hok eb) dd λh' Cb hs=>h _ ?_
  obtain⟨q,es,ep,hq,h2,h3,h4,_,h5⟩:=Cb
  refine xg I (by rw[e]; exact True.intro) hs ⟨q,hq⟩ ⟨hl,hd,_,(rel.put k eb rv).keeps λc ys ec=>?_,q,es,ep,hq,h2,h3,h4,h5⟩
  rw[aG (U1 ec e (λz=>nomatch z))]
  exact ec
end
section
variable {X:Cx}{pins:List (Addr × Obj)}{σ:St}{H:Hp}{s:Shared}{a:Addr}{kvs:List (Key × V)}{k:Key}{u:Value}{A:Around}{E:Value->Shared->Prop}
end
def MS (i:Expr):Prop:=∀ov iv,subscripted i false ov iv=operate [ov,iv] (getItem ov iv)
theorem G7 {prog:Program}{w:World}{A:Around}{E:Value->Shared->Prop}{s:Shared}{env:Env}{value slice:Expr}{pos:Pos}{T id:String}{Q:Value->Shared->Prop}
  (hl:typeLookup (.type T) "__getitem__"=pure (some (.builtin id))) (hs:MS slice)
  (h:wpAny (model prog w) A (eval value env) (λo s₁=>wpAny (model prog w) A (eval slice env) (λi s₂=>s₂.TypeIs o T/\wpAny (model prog w) A (getItem o i) Q E s₂) E s₁) E s) :
  wpAny (model prog w) A (eval (.Subscript value slice pos) env) Q E s:=by
 refine Subscript_ (wpAny_mono h (λo s₁ h₁=>wpAny_mono h₁ (λi s₂ h₂=>?_) λ_ _ x=>x) λ_ _ x=>x)
 obtain⟨hT,h₂⟩:=h₂
 unfold subscriptTail
 refine wpAny_bind ?_
 rw[getitemInPython_of_ne hT.not_modules]
 refine wpAny_bind (wpAny_specialOf hT hl ?_)
 have fin:wpAny (model prog w) A (subscripted slice false o i) (λr s₃=>wpAny (model prog w) A (letTemporaryGo value o r >>= λ_=>pure r) Q E s₃) E s₂:=by
  rw[hs o i]
  exact wpAny_operating (wpAny_mono h₂ (λr s₃ h₃=>wpAny_bind (wpAny_letTemporaryGo (wpAny_pure h₃))) λ_ _ x=>x)
 first
  | exact wpAny_pure (wpAny_bind fin)
  | exact wpAny_bind (wpAny_pure (wpAny_bind fin))
  | exact wpAny_bind fin
theorem F8 {X:Cx}{pins:List (Addr × Obj)}{σ:St}{H:Hp}{s:Shared}{a:Addr}{y:V}{o:Option V}(I:Inv X pins σ H s)(g:tR H a y o):s.TypeIs (.ref a) "dict":=by
 rcases g with ⟨kvs,k,e,_,_⟩ | ⟨kvs,k,b,e,_,_,_⟩
 ·obtain⟨_,_,vs,_,dd⟩:=Dj I.hok e
  exact dd.typeIs
 ·obtain⟨_,_,xs,_,dd⟩:=Dk I.hok e
  exact dd.typeIs
def Jd (td ty:TE):TE:=fun σ H Q=>td σ H λx H1=>ty σ H1 λy H2=>∃a v,x=.ref a/\tR H2 a y (some v)/\Q v H2
def G8 (ty td:TE):TE:=fun σ H Q=>ty σ H λy H1=>td σ H1 λx H2=>∃a o,x=.ref a/\tR H2 a y o/\Q (.bl (!o.isSome)) H2
def Vd (td ty tv:TE):TS:=λD σ H=>tv σ H λv H1=>td σ H1 λx H2=>ty σ H2 λy H3=>∃a H4,x=.ref a/\yG H3 a y v H4/\D.nx σ H4
section
variable {X:Cx}{o i e value:Expr}{pos pos' tpos:Pos}{td ty tv:TE}
theorem Qw (hu:X.A.units+1 < cLine)(ho:PE X o td)(hi:PE X i ty)(hs:MS i):PE X (.Subscript o i pos) (Jd td ty):=by
 intro pins s σ H Q I h
 refine G7 PySem.F.slot_dict_getitem.lookup hs (aN (ho pins s σ H _ I h) λu s1 ⟨x,H1,I1,rx,q1⟩=>aN (hi pins s1 σ H1 _ I1 q1) λiv s2 ⟨y,H2,I2,ry,a,v,ex,g,q2⟩=>?_)
 subst ex
 obtain rfl:u=Value.ref a:=rx
 exact⟨F8 I2 g,KR hu I2 g ry λw' s3 I3 rw'=>⟨v,H2,I3,rw',q2⟩⟩
theorem KU (hu:X.A.units+1 < cLine)(hi:PE X i ty)(ho:PE X o td):PC X .NotIn i o (G8 ty td):=by
 intro pins s σ H Q I h
 refine aN (hi pins s σ H _ I h) λiv s1 ⟨y,H1,I1,ry,q1⟩=>aN (ho pins s1 σ H1 _ I1 q1) λu s2 ⟨x,H2,I2,rx,a,ov,ex,g,q2⟩=>?_
 subst ex
 obtain rfl:u=Value.ref a:=rx
 exact Qv hu I2 g ry λs3 I3=>⟨.bl (!ov.isSome),H2,I3,rfl,q2⟩
theorem G9 (hu:X.A.units+1 < cLine)(ho:PE X o td)(hi:PE X i ty)(hv:PE X value tv)(hs:swapsWith value (some (.Subscript o i pos')) pos.line X.env=pure false) :
  PS X (.Assign [.Subscript o i pos'] value pos) (Vd td ty tv):=by
 intro pins s σ H D I h
 refine wpAny_Assign_Subscript (aN (hv pins s σ H _ I h) λr s1 ⟨v,H1,I1,rv,q1⟩=>aN (ho pins s1 σ H1 _ I1 q1) λu s2 ⟨x,H2,I2,rx,q2⟩=>aN (hi pins s2 σ H2 _ I2 q2) λiv s3 ⟨y,H3,I3,ry,a,H4,ex,g,q3⟩=>?_) hs
 subst ex
 obtain rfl:u=Value.ref a:=rx
 exact KS hu I3 g ry rv λs4 I4=>⟨σ,H4,I4,q3⟩
end
theorem MT {P:Program}{w:World}{H:Hp}(h:Heap)(hb:sysModules < h.objs.size):bE P w H (h.push { cls:=.type "dict",data:=.dict #[] }) h.objs.size (.dK []):=
 ⟨Nat.zero_le _,beq_eq_false_iff_ne.mpr (Ne.symm (Nat.ne_of_lt hb)),[],.nil,Heap.DictOf.new h⟩
def KW:TE:=λ_ H Q=>∀p,H p=none->Q (.ref p) (upd H p (.dK []))
section
variable {X:Cx}{pos:Pos}
theorem yH:PE X (.Dict [] [] pos) KW:=λpins s σ H Q I h=>
 wpAny_Dict_empty ⟨.ref s.heap.objs.size,_,I.laid (a:=s.heap.objs.size) (o:=.dK []) (t':=s.toks) (λ_ _ q=>Heap.get?_push_of_some _ q) (Nat.le_refl _) (MT s.heap I.big),rfl,h _ (I.hok.fresh (Nat.le_refl _))⟩
end
structure M2 (X:Cx)(o:Expr)(m:Str)(apos:Pos)(e f:Expr)(cpos:Pos):Prop where
 base:attributeBase o m X.env (eval o X.env)=eval o X.env
 few:((backTo cpos (starEach [e,f] X.env)).all (λx=>!x.1)&&(backToKw cpos (keywordEach [] X.env)).all (λx=>x.1.isSome)
  &&decide (([e,f]:List Expr).length+([]:List Keyword).length+(if ([]:List Keyword).isEmpty then 0 else 1) < 30))=true
 line:(apos.endLine == cpos.line)=true
 trees:backTo cpos (starEach [e,f] X.env)=[(false,eval e X.env),(false,eval f X.env)]
section
variable {X:Cx}{pins:List (Addr × Obj)}{σ:St}{H:Hp}{s:Shared}{a:Addr}{y d:V}{u r:Value}{o:Option V}{A:Around}{E:Value->Shared->Prop}
end
section
variable {X:Cx}{o e f:Expr}{apos cpos:Pos}{td ty tx:TE}
end
section
variable {X:Cx}{pins:List (Addr × Obj)}{σ:St}{H:Hp}{s:Shared}{a:Addr}{kvs:List (Key × V)}{A:Around}{E:Value->Shared->Prop}
end
section
variable {X:Cx}{pins:List (Addr × Obj)}{σ:St}{H:Hp}{s:Shared}{a:Addr}{y:V}{u:Value}{A:Around}{E:Value->Shared->Prop}
end
end L2
namespace L2
open PySem PySem.Spec PyProof.Rows
section
variable {κ:Type}[DecidableEq κ]
end
end L2
namespace L2
open PySem PySem.Spec PyProof.Rows TB
theorem cO {K:PySem.W.Frag}{H:Hp}{c q:Addr}{xs:List V}{o:HO}(mu:dZ (H c))(h:aK K H q xs):aK K (upd H c o) q xs:=by
 rcases h with (h | ⟨u,h⟩) | h
 ·exact .inl (.inl (by rw[aG (λz=>by subst z; rw[h] at mu; exact mu)]; exact h))
 ·exact .inl (.inr ⟨u,by rw[aG (λz=>by subst z; rw[h] at mu; exact mu)]; exact h⟩)
 ·exact .inr h
mutual
theorem Ew {K:PySem.W.Frag}{H H':Hp}(k:∀q xs,aK K H q xs->aK K H' q xs):∀(d:Dt) {v:V},ji d=true->Rep K H d v->Rep K H' d v
 | .int i,v,_,h=>by unfold Rep at h ⊢; exact h
 | .str x,v,_,h=>by unfold Rep at h ⊢; exact h
 | .tup ds,v,n,h=>by
  unfold Rep at h ⊢
  obtain⟨a,xs,rfl,q,r⟩:=h
  exact⟨a,xs,rfl,k _ _ q,zO k ds n r⟩
 | .aR,_,n,_=>nomatch n
 | .bl _,_,n,_=>nomatch n
 | .lst _,_,n,_=>nomatch n
theorem zO {K:PySem.W.Frag}{H H':Hp}(k:∀q xs,aK K H q xs->aK K H' q xs):∀(ds:List Dt) {vs:List V},h_ ds=true->aD K H ds vs->aD K H' ds vs
 | [],vs,_,h=>by unfold aD at h ⊢; exact h
 | d::ds,vs,n,h=>by
  have n':ji d=true/\h_ ds=true:=Bool.and_eq_true_iff.mp n
  unfold aD at h ⊢
  obtain⟨v,r,rfl,h1,h2⟩:=h
  exact⟨v,r,rfl,Ew k d n'.1 h1,zO k ds n'.2 h2⟩
end
section
variable {X:Cx}{pins:List (Addr × Obj)}{σ:St}{H:Hp}{s:Shared}
mutual
theorem KY (I:Inv X pins σ H s):∀(d:Dt) {x:V} {u:Value},ji d=true->Rep X.K H d x->RelV x u->iH s.heap d u
 | .int i,x,u,_,h,r=>by unfold Rep at h; subst h; exact r
 | .str z,x,u,n,h,r=>by unfold Rep at h; subst h; exact⟨n,r⟩
 | .tup ds,x,u,n,h,r=>by
  unfold Rep at h
  obtain⟨a,xs,rfl,q,rr⟩:=h
  cases r
  obtain⟨its,r1,⟨o,ho,hc,n',hd⟩,_⟩:=I.tuple q
  exact⟨a,o,its.toArray,n',rfl,ho,hc,hd,by simpa using G_ I ds n rr r1⟩
 | .aR,_,_,n,_,_=>nomatch n
 | .bl _,_,_,n,_,_=>nomatch n
 | .lst _,_,_,n,_,_=>nomatch n
theorem G_ (I:Inv X pins σ H s):∀(ds:List Dt) {xs:List V} {us:List Value},h_ ds=true->aD X.K H ds xs->Vals xs us->fT s.heap ds us
 | [],xs,us,_,h,r=>by unfold aD at h; subst h; cases r; rfl
 | d::ds,xs,us,n,h,r=>by
  have n':ji d=true/\h_ ds=true:=Bool.and_eq_true_iff.mp n
  unfold aD at h
  obtain⟨x,xr,rfl,q,t⟩:=h
  cases r with
  | cons rx Ec=>exact⟨_,_,rfl,KY I d n'.1 q rx,G_ I ds n'.2 t Ec⟩
end
end
def NK (K:PySem.W.Frag)(H:Hp)(d:Dt)(a:Addr):Prop:=(∃ds,d=.tup ds)/\n9 d<=8/\ji d=true/\Rep K H d (.ref a)
theorem NK.of {K:PySem.W.Frag}{H:Hp}{ds:List Dt}{a:Addr}{xs:List V}(h:aK K H a xs)(r:aD K H ds xs)(hn:h_ ds=true)(hd:gT ds<=7):NK K H (.tup ds) a:=
 ⟨⟨ds,rfl⟩,Nat.succ_le_succ hd,hn,by unfold Rep; exact⟨a,xs,rfl,h,r⟩⟩
theorem NK.tups {K:PySem.W.Frag}{H H':Hp}{d:Dt}{a:Addr}(h:NK K H d a)(k:∀q xs,aK K H q xs->aK K H' q xs):NK K H' d a:=⟨h.1,h.2.1,h.2.2.1,Ew k _ h.2.2.1 h.2.2.2⟩
theorem NK.key {X:Cx}{pins:List (Addr × Obj)}{σ:St}{H:Hp}{s:Shared}{d:Dt}{a:Addr}(I:Inv X pins σ H s)(h:NK X.K H d a):(nB X.prog X.w).is s.heap d a:=⟨h.1,h.2.1,KY I d h.2.2.1 h.2.2.2 rfl⟩
def Je (P:Program)(w:World)(h:Heap)(S:Addr)(ds:List (Dt × Addr × Value)):Prop:=(S == sysModules)=false/\∃o es ep,h.get? S=some o/\o.ExactDict/\o.data=.dict es ep/\es.toList=ds.map (entryOfKey (nB P w))/\(ds.map (·.1)).Nodup
def xh (P:Program)(w:World)(S:Addr)(ds:List (Dt × Addr × Value)):HO:=.ext λh=>Je P w h S ds
theorem Ey {P:Program}{w:World}{H:Hp}{h:Heap}{S:Addr}{ds:List (Dt × Addr × Value)}(x:Je P w h S ds):bE P w H h S (xh P w S ds):=by
 obtain⟨x0,o,es,ep,ho,r⟩:=id x
 refine⟨x,⟨o,ho⟩,λh1 h2 y k=>?_⟩
 obtain⟨y0,o1,es1,Zv,OB,r1⟩:=y
 exact⟨y0,o1,es1,Zv,k _ OB,r1⟩
def cS (K:PySem.W.Frag)(P:Program)(w:World)(H:Hp)(a:Addr)(m:Dt->Option V)(n:Nat):Prop:=
 ∃ds:List (Dt × Addr × Value),H a=some (xh P w a ds)/\ds.length<=n/\(∀x∈ds,NK K H x.1 x.2.1)/\∀k,fS (m k) ((atKey ds k).map (·.2))
section
variable {K:PySem.W.Frag}{P:Program}{w:World}{H H':Hp}{a:Addr}{m:Dt->Option V}{n:Nat}
theorem cS.mut (h:cS K P w H a m n):dZ (H a):=by
 obtain⟨ds,e,_⟩:=h
 rw[e]
 exact True.intro
theorem cS.keep (h:cS K P w H a m n)(e:H' a=H a)(k:∀q xs,aK K H q xs->aK K H' q xs):cS K P w H' a m n:=by
 obtain⟨ds,e1,e2,e3,e4⟩:=h
 exact⟨ds,by rw[e]; exact e1,e2,λx hx=>(e3 x hx).tups k,e4⟩
theorem cS.same (h:cS K P w H a m n)(s:ah H H'):cS K P w H' a m n:=by
 refine h.keep ?_ λq xs h=>s.tup h
 obtain⟨ds,e1,_⟩:=h
 rw[e1]
 exact s _ _ e1
theorem cS.le {n':Nat}(h:cS K P w H a m n)(hn:n<=n'):cS K P w H a m n':=by
 obtain⟨ds,e1,e2,e3,e4⟩:=h
 exact⟨ds,e1,Nat.le_trans e2 hn,e3,e4⟩
end
theorem AS (ds:List (Dt × Addr × Value))(k:Dt)(v:Value)(k':Dt):(atKey (ds.map (putAt k v)) k').map (·.2)=if k'=k then (atKey ds k').map λ_=>v else (atKey ds k').map (·.2):=by
 induction ds with
 | nil=>simp [atKey]
 | cons x xs ih=>
  unfold atKey at ih ⊢
  rw[List.map_cons,List.find?_cons,List.find?_cons]
  have e1:(putAt k v x).1=x.1:=by unfold putAt; split <;> rfl
  rw[e1]
  by_cases hx:x.1=k'
  ·rw[decide_eq_true hx]
   by_cases hk:k'=k
   ·rw[if_pos hk]
    simp [putAt,hx,hk]
   ·rw[if_neg hk]
    have:¬ x.1=k:=λz=>hk (by rw[←hx,z])
    simp [putAt,this]
  ·rw[decide_eq_false hx]
   exact ih
theorem KZ (ds:List (Dt × Addr × Value))(k:Dt)(b:Addr)(v:Value)(k':Dt):(atKey (storedH ds k b v) k').map (·.2)=if k'=k then some v else (atKey ds k').map (·.2):=by
 unfold storedH
 split
 ·rename_i h
  rw[AS]
  split
  ·rename_i e
   subst e
   obtain⟨p,hp⟩:=Option.isSome_iff_exists.mp h
   rw[hp]; rfl
  ·rfl
 ·rename_i h
  have hn:atKey ds k=none:=by
   cases e:atKey ds k with
   | none=>rfl
   | some p=>rw[e] at h; exact absurd rfl h
  unfold atKey at hn ⊢
  rw[List.find?_append]
  by_cases e:k'=k
  ·subst e
   rw[Option.map_eq_none_iff.mp hn]
   simp
  ·rw[if_neg e]
   have:¬ k=k':=λz=>e z.symm
   simp [this]
def yI (K:PySem.W.Frag)(P:Program)(w:World)(H:Hp)(a:Addr)(y:V)(r:Option V):Prop:=∃m n d b,cS K P w H a m n/\y=.ref b/\NK K H d b/\r=m d
section
variable {X:Cx}{pins:List (Addr × Obj)}{σ:St}{H:Hp}{s:Shared}{a:Addr}{y v:V}{u r:Value}{o:Option V}{A:Around}{E:Value->Shared->Prop}{m:Dt->Option V}{n:Nat}
theorem o4 (I:Inv X pins σ H s)(h:cS X.K X.prog X.w H a m n):(a == sysModules)=false/\∃ds,s.heap.DictOfH (nB X.prog X.w) a ds/\H a=some (xh X.prog X.w a ds)/\ds.length<=n/\(∀x∈ds,NK X.K H x.1 x.2.1)/\∀k,fS (m k) ((atKey ds k).map (·.2)):=by
 obtain⟨ds,e,hl,hk,hm⟩:=h
 obtain⟨⟨x0,o,es,ep,ho,e1,e2,e3,e4⟩,_⟩:=(show bE X.prog X.w H s.heap a (xh X.prog X.w a ds) from I.hok a _ e)
 exact⟨x0,ds,⟨o,es,ep,ho,e1,e2,e3,λx hx=>(hk x hx).key I,e4⟩,e,hl,hk,hm⟩
theorem Dl (hu:A.units+9 < cLine):(nB X.prog X.w).room A.in1:=by
 show A.in1.units+8 < cLine
 rw[Around.in1_units]
 omega
theorem K0 {Q:Value->Shared->Prop}(hu:A.units+9 < cLine)(I:Inv X pins σ H s)(g:yI X.K X.prog X.w H a y (some v))(ry:RelV y u)(h:∀w' s',Inv X pins σ H s'->RelV v w'->Q w' s') :
  wpAny (model X.prog X.w) A (getItem (.ref a) u) Q E s:=by
 obtain⟨m,n,d,b,hm,rfl,hk,e⟩:=g
 cases (show u=Value.ref b from ry)
 obtain⟨x0,ds,dd,_,_,_,rel⟩:=o4 I hm
 have:=rel d
 rw[←e] at this
 obtain⟨w',hw,rw'⟩:=fS.some_of this
 obtain⟨p,hp,hp2⟩:=Option.map_eq_some_iff.mp hw
 refine wpAny_getItem_heap (Dl hu) (hk.key I) dd hp ?_
 rw[hp2]
 exact h w' _ (I.tok _) rw'
theorem MU {ds:List (Dt × Addr × Value)}(rel:∀k,fS (m k) ((atKey ds k).map (·.2)))(d:Dt):(atKey ds d).isSome=(m d).isSome:=by
 have q:=(rel d).qD
 rw[Option.isSome_map] at q
 exact q.symm
theorem Qx {Q:Value->Shared->Prop}(hu:A.units+9 < cLine)(I:Inv X pins σ H s)(g:yI X.K X.prog X.w H a y o)(ry:RelV y u)(h:∀s',Inv X pins σ H s'->Q (.bool (!o.isSome)) s') :
  wpAny (model X.prog X.w) A (compareOp .NotIn u (.ref a)) Q E s:=by
 obtain⟨m,n,d,b,hm,rfl,hk,rfl⟩:=g
 cases (show u=Value.ref b from ry)
 obtain⟨x0,ds,dd,_,_,_,rel⟩:=o4 I hm
 refine wpAny_notIn_heap (Dl hu) (hk.key I) x0 dd ?_
 rw[MU rel]
 exact h _ (I.tok _)
def SW (K:PySem.W.Frag)(P:Program)(w:World)(H:Hp)(a:Addr)(y v:V)(Q:Hp->Prop):Prop:=∃m n d b,cS K P w H a m n/\n < sizeLine/\y=.ref b/\NK K H d b/\
 ∀o,cS K P w (upd H a o) a (λk=>if k=d then some v else m k) (n+1)->Q (upd H a o)
theorem K1 {R:Hp->Prop}{Q:Unit->Shared->Prop}(hu:A.units+9 < cLine)(I:Inv X pins σ H s)(g:SW X.K X.prog X.w H a y v R)(ry:RelV y u)(rv:RelV v r)(h:∀H' s',Inv X pins σ H' s'->R H'->Q () s') :
  wpAny (model X.prog X.w) A (setItem (.ref a) u r) Q E s:=by
 obtain⟨m,n,d,b,hm,hn,rfl,hk,k⟩:=g
 cases (show u=Value.ref b from ry)
 have mu:=hm.mut
 obtain⟨x0,ds,dd,eH,hl,hks,rel⟩:=o4 I hm
 refine wpAny_setItem_heap (hsz:=by omega) (Dl hu) (hk.key I) dd λh' Cb hs=>?_
 obtain⟨q,es,ep,hq,h2,h3,h4,_,h5⟩:=Cb
 have raw:Je X.prog X.w h' a (storedH ds d b r):=⟨x0,q,es,ep,hq,h2,h3,h4,h5⟩
 refine h _ _ (xg I mu hs ⟨q,hq⟩ (Ey raw)) (k _ ⟨storedH ds d b r,au,?_,λx hx=>?_,λk'=>?_⟩)
 ·unfold storedH
  split
  ·rw[List.length_map]; omega
  ·rw[List.length_append,List.length_singleton]; omega
 ·have up:∀{d:Dt} {c:Addr},NK X.K H d c->NK X.K (upd H a (xh X.prog X.w a (storedH ds d b r))) d c:=λh=>h.tups λq xs hq=>cO mu hq
  unfold storedH at hx
  split at hx
  ·obtain⟨z,hz,rfl⟩:=List.mem_map.mp hx
   have:=hks z hz
   unfold putAt
   split <;> exact this.tups λq xs hq=>cO mu hq
  ·rcases List.mem_append.mp hx with z | z
   ·exact (hks x z).tups λq xs hq=>cO mu hq
   ·rw[List.mem_singleton.mp z]
    exact hk.tups λq xs hq=>cO mu hq
 ·rw[KZ]
  show fS (if k'=d then some v else m k') _
  by_cases e:k'=d
  ·rw[if_pos e,if_pos e]; exact rv
  ·rw[if_neg e,if_neg e]; exact rel k'
end
def OH (K:PySem.W.Frag)(P:Program)(w:World)(td ty:TE):TE:=fun σ H Q=>td σ H λx H1=>ty σ H1 λy H2=>∃a v,x=.ref a/\yI K P w H2 a y (some v)/\Q v H2
def SX (K:PySem.W.Frag)(P:Program)(w:World)(neg:Bool)(ty td:TE):TE:=fun σ H Q=>ty σ H λy H1=>td σ H1 λx H2=>∃a o,x=.ref a/\yI K P w H2 a y o/\Q (.bl (neg ^^ o.isSome)) H2
def OI (K:PySem.W.Frag)(P:Program)(w:World)(td ty tv:TE):TS:=λD σ H=>tv σ H λv H1=>td σ H1 λx H2=>ty σ H2 λy H3=>∃a,x=.ref a/\SW K P w H3 a y v λH4=>D.nx σ H4
def Jf (K:PySem.W.Frag)(P:Program)(w:World):TE:=λ_ H Q=>∀p o,H p=none->cS K P w (upd H p o) p (λ_=>none) 0->Q (.ref p) (upd H p o)
section
variable {X:Cx}{o i e value:Expr}{pos pos' tpos:Pos}{td ty tv:TE}(K:PySem.W.Frag)(P:Program)(w:World)
theorem Ez {pins:List (Addr × Obj)}{σ:St}{H:Hp}{s:Shared}{a:Addr}{y:V}{o:Option V}(I:Inv X pins σ H s)(g:yI X.K X.prog X.w H a y o):s.TypeIs (.ref a) "dict":=by
 obtain⟨m,n,d,b,hm,_⟩:=g
 obtain⟨x0,ds,dd,_⟩:=o4 I hm
 exact dd.typeIs
theorem Jg (hu:X.A.units+9 < cLine)(ho:PE X o td)(hi:PE X i ty)(hs:MS i)(hK:X.K=K:=by rfl)(hP:X.prog=P:=by rfl)(hw:X.w=w:=by rfl):PE X (.Subscript o i pos) (OH K P w td ty):=by
 subst hK; subst hP; subst hw
 intro pins s σ H Q I h
 refine G7 PySem.F.slot_dict_getitem.lookup hs (aN (ho pins s σ H _ I h) λu s1 ⟨x,H1,I1,rx,q1⟩=>aN (hi pins s1 σ H1 _ I1 q1) λiv s2 ⟨y,H2,I2,ry,a,v,ex,g,q2⟩=>?_)
 subst ex
 obtain rfl:u=Value.ref a:=rx
 exact⟨Ez I2 g,K0 hu I2 g ry λw' s3 I3 rw'=>⟨v,H2,I3,rw',q2⟩⟩
theorem AU (hu:X.A.units+9 < cLine)(hi:PE X i ty)(ho:PE X o td)(hK:X.K=K:=by rfl)(hP:X.prog=P:=by rfl)(hw:X.w=w:=by rfl):PC X .NotIn i o (SX K P w true ty td):=by
 subst hK; subst hP; subst hw
 intro pins s σ H Q I h
 refine aN (hi pins s σ H _ I h) λiv s1 ⟨y,H1,I1,ry,q1⟩=>aN (ho pins s1 σ H1 _ I1 q1) λu s2 ⟨x,H2,I2,rx,a,ov,ex,g,q2⟩=>?_
 subst ex
 obtain rfl:u=Value.ref a:=rx
 rw[Bool.true_xor] at q2
 exact Qx hu I2 g ry λs3 I3=>⟨.bl (!ov.isSome),H2,I3,rfl,q2⟩
theorem Jh (hu:X.A.units+9 < cLine)(ho:PE X o td)(hi:PE X i ty)(hv:PE X value tv)(hs:swapsWith value (some (.Subscript o i pos')) pos.line X.env=pure false)(hK:X.K=K:=by rfl)(hP:X.prog=P:=by rfl)(hw:X.w=w:=by rfl) :
  PS X (.Assign [.Subscript o i pos'] value pos) (OI K P w td ty tv):=by
 subst hK; subst hP; subst hw
 intro pins s σ H D I h
 refine wpAny_Assign_Subscript (aN (hv pins s σ H _ I h) λr s1 ⟨v,H1,I1,rv,q1⟩=>aN (ho pins s1 σ H1 _ I1 q1) λu s2 ⟨x,H2,I2,rx,q2⟩=>aN (hi pins s2 σ H2 _ I2 q2) λiv s3 ⟨y,H3,I3,ry,a,ex,g⟩=>?_) hs
 subst ex
 obtain rfl:u=Value.ref a:=rx
 exact K1 hu I3 g ry rv λH4 s4 I4 q3=>⟨σ,H4,I4,q3⟩
theorem tS (hK:X.K=K:=by rfl)(hP:X.prog=P:=by rfl)(hw:X.w=w:=by rfl):PE X (.Dict [] [] pos) (Jf K P w):=by
 subst hK; subst hP; subst hw
 intro pins s σ H Q I h
 have raw:Je X.prog X.w (s.heap.push { cls:=.type "dict",data:=.dict #[] }) s.heap.objs.size []:=⟨beq_eq_false_iff_ne.mpr (Ne.symm (Nat.ne_of_lt I.big)),_,#[],0,Heap.get?_push_size _ rfl,⟨rfl,rfl,rfl⟩,rfl,rfl,List.nodup_nil⟩
 exact wpAny_Dict_empty ⟨.ref s.heap.objs.size,_,I.laid (a:=s.heap.objs.size) (o:=xh X.prog X.w s.heap.objs.size []) (t':=s.toks) (λ_ _ q=>Heap.get?_push_of_some _ q) (Nat.le_refl _) (Ey raw),rfl,h _ _ (I.hok.fresh (Nat.le_refl _)) ⟨[],au,Nat.le_refl _,λx hx=>absurd hx (by simp),λk=>True.intro⟩⟩
end
end L2
namespace TB
open PySem PySem.Spec PySem.W PyProof.Rows
section
variable {prog:Program}{w:World}{A:Around}{E:Value->Shared->Prop}{s:Shared}
end
end TB
namespace L2
open PySem PySem.Spec PyProof.Rows TB
section
variable {X:Cx}{pins:List (Addr × Obj)}{σ:St}{H H':Hp}{s:Shared}{h':Heap}
theorem Inv.more {t':Nat}(I:Inv X pins σ H s)(k:∀b u,s.heap.get? b=some u->h'.get? b=some u)(ext:∀b o,H b=some o->H' b=some o)
  (new:∀b o,H b=none->H' b=some o->s.heap.get? b=none/\bE X.prog X.w H' h' b o):Inv X pins σ H' { s with heap:=h',toks:=t' }:=by
 have fr:∀b u,s.heap.get? b=some u->H b=none->H' b=none:=λb u q n=>by
  cases e:H' b with
  | none=>rfl
  | some o=>have z:=(new b o n e).1; rw[q] at z; cases z
 refine I.un ⟨λb u q _ _ _=>k b u q,λb u q _ _ _=>⟨u.slots,k b u q⟩,λb u q n _=>fr b u q n,λb u q _=>⟨u,k b u q⟩,λb xs q=>ext _ _ q,λb o u q=>ext _ _ q,λb ps q=>⟨#[],by rw[ext _ _ q]; simp⟩⟩ λb u e=>?_
 cases q:H b with
 | none=>exact (new b u q e).2
 | some o=>
  have:=ext b o q
  rw[this] at e
  cases e
  exact (I.hok b _ q).stay (λc v _ z=>k c v z) (λc z=>ext _ _ z) λc xs z=>ext _ _ z
theorem Inv.K2 (I:Inv X pins σ H s){a:Addr}(e:s.heap.get? a=none):H a=none:=by
 cases q:H a with
 | none=>rfl
 | some o=>
  obtain⟨ob,h⟩:=(I.hok a o q).obj
  rw[e] at h
  cases h
end
end L2
namespace L2
open PySem PySem.Spec PyProof.Rows TB PySem.W
theorem Qy {P:Program}{w:World}{k:Int}{v:Value}(h:(dD P w).is (.inl k) v=true):∃t,v=.int k t:=by
 have h':qz (.inl k) v=true:=h
 cases v <;> simp [qz,Value.isInt] at h' <;> first | exact⟨_,by rw[h']⟩ | skip
section
variable {X:Cx}{pins:List (Addr × Obj)}{σ:St}{H H':Hp}{s:Shared}{h':Heap}
def xj (v d:Addr):HO:=.ext λh=>h.IsItemsView v d
theorem MV {P:Program}{w:World}{h:Heap}{v d:Addr}(x:h.IsItemsView v d):bE P w H h v (xj v d):=by
 obtain⟨o,ho,hc⟩:=id x
 exact⟨x,⟨o,ho⟩,λh1 h2 y k=>let ⟨o,ho,r⟩:=y; ⟨o,k _ ho,r⟩⟩
end
end L2
namespace L2
open PySem PySem.Spec PySem.W PyProof.Rows TB
section
variable {prog:Program}{w:World}{A:Around}{E:Value->Shared->Prop}{s:Shared}
theorem Cc:∀{vs:List Value} {ns:List Int},vs.length=ns.length->(∀(j:Nat) (v:Value),vs[j]?=some v->∃n t,ns[j]?=some n/\v=.int n t)->IntsAre vs ns
 | [],[],_,_=>.nil
 | v::vs,n::ns,hl,h=>by
  obtain⟨n',t,e,rfl⟩:=h 0 v rfl
  simp at e
  subst e
  exact .cons _ _ (Cc (by simpa using hl) λj u hu=>h (j+1) u (by simpa using hu))
 | [],_::_,hl,_=>by simp at hl
 | _::_,[],hl,_=>by simp at hl
set_option maxHeartbeats 1000000 in
theorem F9 {d:Addr}{kvs:List (Key × Value)}{ks:List Int}{Q:Value->Shared->Prop}(hh:A.handled=none)(lo:(d == sysModules)=false)(hd:s.heap.DictOf (dD prog w) d kvs)(hk:kvs.map (·.1)=ks.map Sum.inl)(h64:ks.length < 64)
  (h:∀(h':Heap) (tk:Nat) (l:Addr) (ns:List Int) (its:List Value) (c:Nat),(∀b o,s.heap.get? b=some o->h'.get? b=some o)->s.heap.get? l=none->h'.get? l=some (seqObj "list" its.toArray c)->IntsAre its ns->ns.Perm ks->ns.Pairwise (·<=·)->Q (.ref l) { s with heap:=h',toks:=tk }) :
  wpAny (model prog w) A (call (.builtin "sorted") [.ref d]) Q E s:=by
 obtain⟨ep,dat⟩:=hd.dictAt
 have hlen:kvs.length=ks.length:=by have:=congrArg List.length hk; simpa using this
 refine Calls.call_function_entry kind_sorted plain_sorted entry_sorted (args_sorted1 _) ?_
 unfold Builtin.«sorted»
 refine wpAny_bind (m:=checkCount "sorted" 1 1 _) (wpAny_pure ?_)
 refine wpAny_bind (kdu_collect (kdl_dict (knd:=dD prog w) (kvs:=kvs) (ep:=ep) lo) (by simp [hh]) dat (by rw[hlen,sizeLine_eq]; omega) λh1 tk acc kp it=>?_)
 have hI:IntsAre acc.toList ks:=Cc (by rw[Array.length_toList,it.1,hlen]) λj v hv=>by
  obtain⟨k,x,e1,e2⟩:=it.2 j v (by simpa using hv)
  have e3:(kvs.map (·.1))[j]?=some k:=by rw[List.getElem?_map,e1]; rfl
  rw[hk,List.getElem?_map] at e3
  obtain⟨n,e4,e5⟩:=Option.map_eq_some_iff.mp e3
  subst e5
  obtain⟨t,rfl⟩:=Qy e2
  exact⟨n,t,e4,rfl⟩
 have hal:acc.toList.length=ks.length:=by rw[Array.length_toList,it.1,hlen]
 refine wpAny_bind (wpAny_newList ?_ (by rw[hal,sizeLine_eq]; omega))
 have hL:(h1.push (seqObj "list" acc.toList.toArray 0)).get? h1.objs.size=some (seqObj "list" acc.toList.toArray 0):=Heap.get?_push_size _ rfl
 have new1:h1.get? h1.objs.size=none:=by
  cases e:h1.get? h1.objs.size with
  | none=>rfl
  | some o'=>exact absurd (Heap.lt_size e) (Nat.lt_irrefl _)
 have keep2:∀b o,h1.get? b=some o->(h1.push (seqObj "list" acc.toList.toArray 0)).get? b=some o:=λb o e=>Heap.get?_push_of_some _ e
 show wpAny _ _ _ _ _ { s with heap:=h1.push (seqObj "list" acc.toList.toArray 0),toks:=tk }
 generalize h1.push (seqObj "list" acc.toList.toArray 0)=h2 at *
 generalize h1.objs.size=l at hL new1 ⊢
 refine wpAny_bind (wpAny_holding (wpAny_call_entry slot_list_sort ⟨_,hL,rfl⟩ entry_list_sort (list_sort_tree (s:={ s with heap:=h2,toks:=tk }) hL hI (by omega) λout ns' a1 a2 a3=>⟨_,rfl,?_⟩) (args_list_sort _)))
 obtain⟨c,hat⟩:∃c,(sortedHeap h2 l acc.toList out).get? l=some (seqObj "list" out c):=by
  have:=sortedHeap_at (out:=out) hL
  first | exact⟨_,this⟩ | exact this
 refine wpAny_pure ⟨_,rfl,h (sortedHeap h2 l acc.toList out) _ l ns' out.toList c (λb o e=>?_) ?_ hat a1 a2 a3⟩
 ·have e2:=keep2 _ _ (kp _ _ e)
  have hne:b≠l:=λz=>by rw[z] at e; rw[kp _ _ e] at new1; cases new1
  rw[sortedHeap_old hne (Heap.lt_size e2)]
  exact e2
 ·cases e:s.heap.get? l with
  | none=>rfl
  | some o=>rw[kp _ _ e] at new1; cases new1
end
section
variable {X:Cx}
def EA:List V->Hp->VK->Prop:=λxs H Q=>∃(a:Addr) (kvs:List (Key × V)) (ks:List Int),xs=[.ref a]/\H a=some (.dK kvs)/\kvs.map (·.1)=ks.map Sum.inl/\ks.length < 64/\
 ∀(l:Addr) (ns:List Int),H l=none->ns.Perm ks->ns.Pairwise (·<=·)->Q (.ref l) (upd H l (.lst (ns.map V.int)))
theorem EB (hc:X.calm=true):dJ X (.builtin "sorted") EA:=by
 intro pins s σ H xs us Q I r h
 obtain⟨a,kvs,ks,rfl,ha,hk,h64,q⟩:=h
 obtain⟨u,rfl,ru⟩:=vals1 r
 cases ru
 obtain⟨z,hd,vs,rel,dd⟩:=OG I.hok ha
 refine F9 (I.ok.hd hc) hd dd (by rw[←rel.keys]; exact hk) h64 λh' tk l ns its c kp hl hat hi pm pw=>?_
 have hn:H l=none:=I.K2 hl
 have hz:(ns.map V.int).length<=sizeLine:=by rw[List.length_map,pm.length_eq,sizeLine_eq]; omega
 exact⟨.ref l,_,I.more (H':=upd H l (.lst (ns.map V.int))) (t':=tk) kp (ah.new hn _) (λb o n e=>by
  by_cases z:b=l
  ·subst z
   rw[au] at e
   cases e
   exact⟨hl,hz,its,c,vC hi,hat⟩
  ·rw[aG z,n] at e
   cases e),rfl,q _ ns hn pm pw⟩
end
section
variable {X:Cx}(K:PySem.W.Frag)
theorem MW (hc:X.calm=true:=by rfl):dJ X (.builtin "sorted") EA:=EB hc
end
end L2
namespace TB
open PySem PySem.Spec
section
variable {prog:Program}{w:World}{A:Around}{E:Value->Shared->Prop}{s:Shared}
end
end TB
namespace L2
open PySem PySem.Spec PyProof.Rows TB PySem.W
section
variable {prog:Program}{w:World}{A:Around}{E:Value->Shared->Prop}{s:Shared}
variable {I:Addr}{fp wr:List Addr}{n:Nat}{P:Nat->Value->Prop}{St:Nat->Heap->Prop}{R:Result->Shared->Prop}
end
section
variable {X:Cx}
def FT (H:Hp)(a:Addr)(xs:List V):Prop:=∃o:Obj,o.dict=none/\H a=some (.mG o (.tup xs))
theorem FT.sq {K:PySem.W.Frag}{H:Hp}{a:Addr}{xs:List V}(h:FT H a xs):aK K H a xs:=by
 obtain⟨o,_,h⟩:=h
 exact .inl (.inr ⟨o,h⟩)
theorem FT.same {H H':Hp}{a:Addr}{xs:List V}(h:FT H a xs)(s:ah H H'):FT H' a xs:=by
 obtain⟨o,h1,h⟩:=h
 exact⟨o,h1,s _ _ h⟩
theorem FT.upd {H:Hp}{a c:Addr}{xs:List V}{o:HO}(h:FT H a xs)(mu:dZ (H c)):FT (upd H c o) a xs:=by
 obtain⟨u,h1,h⟩:=h
 exact⟨u,h1,by rw[aG (λz=>by subst z; rw[h] at mu; exact mu)]; exact h⟩
def OJ (K:PySem.W.Frag):List V->Hp->VK->Prop:=λxs H Q=>∃p ys,xs=[.ref p]/\aE K H p ys/\∀l o,H l=none->FT (L2.upd H l o) l ys->Q (.ref l) (L2.upd H l o)
theorem F_:dJ X (.type "tuple") (OJ X.K):=by
 intro pins s σ H xs us Q I r h
 obtain⟨p,ys,rfl,hq,q⟩:=h
 obtain⟨u,rfl,rx⟩:=vals1 r
 cases rx
 obtain⟨its,r',pl,hz⟩:=I.list hq
 have hlen:=r'.length
 refine call_tuple_list pl.isList (λh' kp=>?_) (by simp only [List.size_toArray] <;> omega)
 have I1:Inv X pins σ H { s with heap:=h' }:=I.kept (t':=s.toks) kp
 have I2:Inv X pins σ (L2.upd H h'.objs.size (.mG { cls:=.type "tuple",data:=.seq its.toArray } (.tup ys))) { s with heap:=h'.push { cls:=.type "tuple",data:=.seq its.toArray } }:=
  I1.laid (t':=s.toks) (λb o e=>Heap.get?_push_of_some _ e) (Nat.le_refl _) (show bE X.prog X.w _ _ _ (.mG _ (.tup ys)) from ⟨Heap.get?_push_size _ rfl,hz,its,r',IsTup.new _ _⟩)
 exact⟨.ref h'.objs.size,_,I2,rfl,q _ _ (I1.hok.fresh (Nat.le_refl _)) ⟨_,rfl,au⟩⟩
end
section
variable {X:Cx}(K:PySem.W.Frag)
theorem Qz (h:X.K=K:=by rfl):dJ X (.type "tuple") (OJ K):=h ▸ F_
end
end L2
namespace L2
open PySem PySem.Spec PyProof.Rows
section
variable {X:Cx}
theorem Inv.moved {pins:List (Addr × Obj)}{σ:St}{H:Hp}{s:Shared}{h':Heap}{t':Nat}{ch:List Addr}(I:Inv X pins σ H s)(hf:∀c∈ch,jt X pins H c)(kp:∀c o,c∉ch->s.heap.get? c=some o->h'.get? c=some o) :
  Inv X pins σ H { s with heap:=h',toks:=t' }:=by
 refine I.step (g':=s.gens) (d':=s.drawn) (t':=t') (ch:=ch) (λc hc=>?_) (λc o _ _ hc e _=>kp c o hc e) (λc o _ _ hc e _=>⟨o.slots,kp c o hc e⟩) (λc o hc e n=>n) (λc o hc e=>⟨o,kp c o hc e⟩)
  (λc us e=>e) (λc o us e=>e) (λc us e=>⟨#[],by rw[e]; simp⟩) (λm hm=>?_) (λc us e=>?_) I.bare
 ·obtain⟨f0,f1,f2,f3,f4,f5⟩:=hf c hc
  exact⟨f3,f1,f4,f5⟩
 ·obtain⟨o,es,ep,ho,r⟩:=hm
  exact⟨o,es,ep,kp _ o (λq=>(hf _ q).2.1 rfl) ho,r⟩
 ·refine (I.hok c us e).stay (λd w' hd q=>kp d w' (λq2=>?_) q) (λd q=>q) λd ws q=>q
  have z1:=(hf d q2).1
  rcases hd with y1 | y1
  ·rw[y1,e] at z1; cases z1
  ·rw[y1] at z1; cases z1
end
section
variable {X:Cx}
def VY (K:PySem.W.Frag)(a:Addr)(n:Nat):It:=⟨λi H=>∃xs,aE K H a xs/\xs.length=n/\i < n,λi H v H'=>H'=H/\∀xs,aE K H a xs->xs[n - 1 - i]?=some v,λi _=>i=n⟩
theorem MX {P:Program}{w:World}{K:PySem.W.Frag}{tg:Expr}(a it:Addr)(n:Nat):Turn P w K tg (VY K a n) [it] it (λi h=>i<=n/\h.IsRevIter it a ((n:Int) - 1 - (i:Int))) where
 mem:=by simp
 obj:=λi h st b hb=>by
  have e:b=it:=by simpa using hb
  subst e
  obtain⟨_,o,e,c,d⟩:=st
  exact⟨o,e,λv z=>by rw[d] at z; cases z⟩
 keep:=λi h h' st k=>⟨st.1,st.2.at λo e=>k it (by simp) o e⟩
 item:=by
  intro X hP hw hK hc i pins s σ H E I hf st hg
  subst hP hw hK
  obtain⟨xs,hq,hlen,hi⟩:=hg
  obtain⟨its,rv,p,hz⟩:=I.list hq
  have hx:xs[n - 1 - i]?=some xs[n - 1 - i]:=List.getElem?_eq_getElem (by omega)
  obtain⟨u,hu,ru⟩:=rv.get hx
  obtain⟨f0,f1,f2,f3,f4,f5⟩:=hf it (by simp)
  have e1:(n:Int) - 1 - (i:Int)=((n - 1 - i:Nat):Int):=by omega
  have st2:=st.2
  rw[e1] at st2
  refine wpAny_pyNext_rev_item st2 p.isList (x:=u) (by simpa using hu) λh' st' sb=>?_
  have I1:Inv X pins σ H { s with heap:=h' }:=I.turned (t':=s.toks) (λb o hb e=>(sb.2 b hb).trans e) f0 f1 f3 f4 f5
  obtain⟨o,e,c,d⟩:=id st'
  have e2:((n - 1 - i:Nat):Int) - 1=(n:Int) - 1 - ((i+1:Nat):Int):=by omega
  rw[e2] at st'
  exact⟨u,rfl,zk (s:={ s with heap:=h' }) e c d (by decide) ⟨xs[n - 1 - i],H,I1,ru,⟨rfl,λys hy=>by rw[I.DO hy hq]; exact hx⟩,⟨hi,st'⟩,λb hb=>(hf b hb).1⟩⟩
 done:=by
  intro X hP hw hK hc i pins s σ H E I hf st hg
  subst hP hw hK
  have hg':i=n:=hg
  subst hg'
  obtain⟨f0,f1,f2,f3,f4,f5⟩:=hf it (by simp)
  have e1:(i:Int) - 1 - (i:Int)=-1:=by omega
  have st2:=st.2
  rw[e1] at st2
  exact wpAny_pyNext_rev_end (I.ok.hd hc) st2 λh' eb=>⟨rfl,I.turned (t':=s.toks) (λb o hb e=>eb b o hb e) f0 f1 f3 f4 f5⟩
 self:=λ_ _ _ _ _ st h=>wpAny_pyIter_revIter st.2 h
def MY (K:PySem.W.Frag)(ta:TA):TI:=fun σ H R=>ta σ H λvs H1=>∃a xs,vs=[.ref a]/\aE K H1 a xs/\R (VY K a xs.length) H1
theorem SY {tg:Expr}{a:Expr}{ta:TA}{p pos:Pos}(K:PySem.W.Frag)(hm:X.mg "reversed"=none)(ha:PA X [a] ta)(hK:X.K=K:=by rfl)(hg:Gl X "reversed":=by rfl)(hs:starEach [a] X.env=[(false,eval a X.env)]:=by rfl) :
  PI X tg (.Call (.Name "reversed" p) [a] [] pos) (MY K ta):=by
 subst hK
 intro pins s σ H R I h
 refine Call_ (pe I hg hm boot_reversed (PyProof.Rows.callWith_type1 (rest:=[]) (aN (ha pos pins s σ H _ I h) λus s1 ⟨vs,H1,I1,r1,q1⟩=>?_) (by rw[hs]; rfl) rfl))
 obtain⟨l,xs,e,hq,q⟩:=q1
 subst e
 obtain⟨u,rfl,ru⟩:=vals1 r1
 cases ru
 obtain⟨its,rv,pl,hz⟩:=I1.list hq
 have hlen:=rv.length
 refine call_reversed_list pl.isList ?_
 have hit:(s1.heap.push (revObj l ((its.toArray.size:Int) - 1))).IsRevIter s1.heap.objs.size l ((its.toArray.size:Int) - 1):=⟨_,Heap.get?_push_size _ rfl,rfl,rfl⟩
 refine wpAny_pyIter_revIter hit ?_
 have e2:(its.toArray.size:Int) - 1=(xs.length:Int) - 1 - ((0:Nat):Int):=by simp; omega
 rw[e2] at hit ⊢
 exact⟨s1.heap.objs.size,[s1.heap.objs.size],_,_,H1,rfl,I1.kept (t':=s1.toks) (λb o e=>Heap.get?_push_of_some _ e),MX l _ xs.length,⟨Nat.zero_le _,hit⟩,λb hb=>by
  have e:b=s1.heap.objs.size:=by simpa using hb
  subst e
  exact I1.yo (Nat.le_refl _) (I1.hok.fresh (Nat.le_refl _)),q⟩
end
end L2
namespace PySem
section
variable {prog:Program}{w:World}{K:Type}[DecidableEq K]{knd:HeapKind prog w K}{A:Around}{E:Value->Shared->Prop}{s:Shared}
end
end PySem
namespace L2
open PySem PySem.Spec PyProof.Rows TB
section
variable {X:Cx}{pins:List (Addr × Obj)}{σ:St}{H:Hp}{s:Shared}{a:Addr}{y d:V}{u r:Value}{o:Option V}{A:Around}{E:Value->Shared->Prop}
theorem S0 {Q:Value->Shared->Prop}(hu:A.units+9 < cLine)(I:Inv X pins σ H s)(g:yI X.K X.prog X.w H a y o)(ry:RelV y u)(rd:RelV d r)(h:∀w' s',Inv X pins σ H s'->RelV (o.getD d) w'->Q w' s') :
  wpAny (model X.prog X.w) A (call (.builtin "dict.get") [.ref a,u,r]) Q E s:=by
 obtain⟨m,n,k,b,hm,rfl,hk,rfl⟩:=g
 cases (show u=Value.ref b from ry)
 obtain⟨x0,ds,dd,_,_,_,rel⟩:=o4 I hm
 refine call_meetsIn PySem.F.slot_dict_get dd.typeIs PySem.F.entry_dict_get (PySem.F.args_dict_get_3 _ _ _) (meetsH_dict_get_default (nB X.prog X.w) a b x0 r) ⟨Dl hu,k,ds,hk.key I,dd,h _ _ (I.tok _) ?_⟩
 exact (rel k).getD rd
def VZ (K:PySem.W.Frag)(P:Program)(w:World)(H:Hp)(a:Addr):Prop:=∃m n,cS K P w H a m n
theorem S_ (I:Inv X pins σ H s)(d:VZ X.K X.prog X.w H a):s.TypeIs (.ref a) "dict"/\∀b,Value.ref a=.ref b->∃ob,s.heap.get? b=some ob/\ob.dict=none:=by
 obtain⟨m,n,hm⟩:=d
 obtain⟨x0,ds,dd,_⟩:=o4 I hm
 refine⟨dd.typeIs,λb q=>?_⟩
 cases q
 obtain⟨ob,_,_,h1,h2,_⟩:=dd
 exact⟨ob,h1,h2.2.1⟩
end
def Tc (K:PySem.W.Frag)(P:Program)(w:World)(td ty tx:TE):TE:=fun σ H Q=>td σ H λx H1=>∃a,x=.ref a/\VZ K P w H1 a/\ty σ H1 λy H2=>tx σ H2 λz H3=>∃o,yI K P w H3 a y o/\Q (o.getD z) H3
section
variable {X:Cx}{o e f:Expr}{apos cpos:Pos}{td ty tx:TE}(K:PySem.W.Frag)(P:Program)(w:World)
theorem Td (hu:X.A.units+9 < cLine)(ho:PE X o td)(he:PE X e ty)(hf:PE X f tx)(m:M2 X o "get" apos e f cpos)(hK:X.K=K:=by rfl)(hP:X.prog=P:=by rfl)(hw:X.w=w:=by rfl):PE X (.Call (.Attribute o "get" apos) [e,f] [] cpos) (Tc K P w td ty tx):=by
 subst hK; subst hP; subst hw
 intro pins s σ H Q I h
 refine wpAny_Call_method m.base m.few m.line PySem.F.plainAttrs_dict PySem.F.slot_dict_get PySem.F.type_dict_get (aN (ho pins s σ H _ I h) λu s1 ⟨x,H1,I1,rx,a,ex,d,q1⟩=>?_)
 subst ex
 obtain rfl:u=Value.ref a:=rx
 obtain⟨t1,t2⟩:=S_ I1 d
 refine⟨t1,t2,?_⟩
 rw[m.trees]
 refine Calls.callWith_builtin rfl (Calls.evalArgs_plain (Calls.spliced_cons (aN (he pins s1 σ H1 _ I1 q1) λiv s2 ⟨y,H2,I2,ry,q2⟩=>
  Calls.spliced_cons (aN (hf pins s2 σ H2 _ I2 q2) λfv s3 ⟨z,H3,I3,rz,ov,g,q3⟩=>Calls.spliced_nil ?_))))
 exact S0 hu I3 g ry rz λw' s4 I4 rw'=>⟨_,H3,I4,rw',q3⟩
end
section
variable {X:Cx}{a b:Expr}{rest:List Expr}{pos:Pos}{ta tb:TE}(K:PySem.W.Frag)
end
theorem qU:∀(ns:List Int) (n:Nat),n<=ns.length->preSum (λi=>ns.getD i 0) n=(ns.take n).sum
 | ns,0,_=>by simp [preSum]
 | ns,n+1,h=>by
  have:=qU ns n (by omega)
  show preSum (λi=>ns.getD i 0) n+ns.getD n 0=_
  rw[this,List.take_succ,List.sum_append,List.getD_eq_getElem?_getD,List.getElem?_eq_getElem (by omega)]
  simp
theorem xO {ns:List Int}(h:∀n∈ns,0<=n)(k:Nat):0<=(ns.take k).sum/\(ns.take k).sum<=ns.sum:=by
 induction ns generalizing k with
 | nil=>simp
 | cons a as ih=>
  cases k with
  | zero=>
   have ha:=h a List.mem_cons_self
   have:=ih (λn hn=>h n (List.mem_cons_of_mem _ hn)) as.length
   rw[List.take_length] at this
   simp
   omega
  | succ k=>
   have ha:=h a List.mem_cons_self
   have:=ih (λn hn=>h n (List.mem_cons_of_mem _ hn)) k
   simp
   omega
def Tf (K:PySem.W.Frag):List V->Hp->VK->Prop:=λxs H Q=>∃(l:Addr) (ns:List Int),xs=[.ref l]/\aE K H l (ns.map V.int)/\(∀n∈ns,0<=n)/\ns.sum < 2 ^ 62/\Q (.int ns.sum) H
theorem MZ {X:Cx}(hc:X.calm=true):dJ X (.builtin "sum") (Tf X.K):=by
 intro pins s σ H xs us Q I r h
 obtain⟨l,ns,rfl,hq,hpos,hs,q⟩:=h
 obtain⟨u,rfl,ru⟩:=vals1 r
 cases ru
 obtain⟨its,rv,pl,hz⟩:=I.list hq
 have hlen:=rv.length
 rw[List.length_map] at hlen
 refine call_sum_walk (wpAny_pyIter_list pl.isList ⟨s.heap.objs.size,[s.heap.objs.size,l],[s.heap.objs.size],its.toArray.size,_,_,λi=>ns.getD i 0,rfl,Walks.list (by simp [I.ok.hd hc]) _ l ?_ its.toArray,⟨⟨_,Heap.get?_push_size _ rfl,rfl,rfl⟩,?_⟩,λb hb=>?_,λi v hv=>?_,λj hj=>?_,λh' tk t' kk=>?_⟩)
 ·obtain⟨o,n,ho,_⟩:=pl
  exact Nat.ne_of_lt (Heap.lt_size ho)
 ·obtain⟨o,ho,r⟩:=pl.isList
  exact⟨o,Heap.get?_push_of_some _ ho,r⟩
 ·have hl:l < s.heap.objs.size:=by
   obtain⟨o,n,ho,_⟩:=pl
   exact Heap.lt_size ho
  rw[Heap.size_push]
  simp only [List.mem_cons,List.mem_nil_iff,or_false] at hb
  rcases hb with rfl | rfl
  ·exact Nat.lt_succ_self _
  ·exact Nat.lt_succ_of_lt hl
 ·have hv':its[i]?=some v:=by simpa using hv
  have hi:i < ns.length:=by have:=(List.getElem?_eq_some_iff.mp hv').1; omega
  obtain⟨u,hu,ru⟩:=rv.get (i:=i) (x:=.int ns[i]) (by rw[List.getElem?_map,List.getElem?_eq_getElem hi]; rfl)
  rw[hv'] at hu
  cases hu
  obtain⟨t,rfl⟩:=ru
  exact⟨t,by show Value.int ns[i] t=Value.int (ns.getD i 0) t; rw[List.getD_eq_getElem?_getD,List.getElem?_eq_getElem hi]; rfl⟩
 ·have hj':j < ns.length:=by simp at hj; omega
  have h1:=xO hpos (j+1)
  have h2:=xO hpos j
  have e1:=qU ns (j+1) (by omega)
  have hm:ns.getD j 0∈ns:=by rw[List.getD_eq_getElem?_getD,List.getElem?_eq_getElem hj']; exact List.getElem_mem hj'
  have h3:=hpos _ hm
  have e2:(ns.take (j+1)).sum=(ns.take j).sum+ns.getD j 0:=by
   rw[List.take_succ,List.sum_append,List.getD_eq_getElem?_getD,List.getElem?_eq_getElem hj']; simp
  show (-(2 ^ 63)<=ns.getD j 0/\ns.getD j 0 < 2 ^ 63)/\-(2 ^ 63)<=preSum (λi=>ns.getD i 0) (j+1)/\preSum (λi=>ns.getD i 0) (j+1) < 2 ^ 63
  rw[e1]
  refine⟨⟨?_,?_⟩,?_,?_⟩ <;> omega
 ·have e1:=qU ns ns.length (Nat.le_refl _)
  rw[List.take_length] at e1
  have e2:its.toArray.size=ns.length:=by simp; omega
  rw[e2,e1]
  exact⟨.int ns.sum,H,I.kept (t':=tk) (λb o e=>kk b o (λhb=>absurd (Heap.lt_size e) (by rw[List.mem_singleton.mp hb]; exact Nat.lt_irrefl _)) (Heap.get?_push_of_some _ e)),⟨t',rfl⟩,q⟩
section
variable {X:Cx}(K:PySem.W.Frag)
theorem Xx (h:X.K=K:=by rfl)(hc:X.calm=true:=by rfl):dJ X (.builtin "sum") (Tf K):=h ▸ MZ hc
end
end L2
namespace L2
open PySem PySem.Spec PyProof.Rows TB
section
variable {prog:Program}{w:World}{A:Around}{E:Value->Shared->Prop}{s:Shared}
end
end L2
namespace L2
open PySem PySem.Spec PyProof.Rows
structure j9 (K:PySem.W.Frag)(C:Addr)(m q:Str)(st:Stmt)(f:Addr)(fd:FuncData)(ps:List Str):Prop where
 fn:nL K m q st f fd
 bd:Binds K fd ps []
 me:Meth K C m f
theorem cU.uB {k:Nat}{A:Around}(r:cU k A):A.units+9 < cLine:=by have:=r.un; omega
section
variable {X:Cx}{CX:qC}{k:Nat}{f C:Addr}{fd:FuncData}{ps:List Str}{sp:Sp}{E:XK}{x m q:Str}{st:Stmt}{p pos apos cpos tpos:Pos}{e o i value:Expr}{es:List Expr}{ta tv td ty:TE}{t:TA}(K:PySem.W.Frag)
theorem b8 {y:Str}(he:PE X e ta)(h:X.K=K:=by rfl)(hb:attributeBase e y X.env (eval e X.env)=eval e X.env:=by rfl):PE X (.Attribute e y pos) (vA K ta y):=h ▸ RP he hb
theorem dP {y:Str}(ha:PE X o ta)(hv:PE X value tv)(h:X.K=K:=by rfl)(hs:swapsWith value (some (.Attribute o y tpos)) pos.line X.env=pure false:=by rfl):PS X (.Assign [.Attribute o y tpos] value pos) (yt K ta tv y):=h ▸ RQ ha hv hs
theorem cY {pl:Sem Bool}(D:j9 X.K C m q st f fd ps)(c:iF X.K C)(F:aA X.prog X.w X.K X.mg X.base CX k f fd ps sp)(hr:cU k X.A)(hx:Passes CX X E)(he:PE X o ta)(ha:PA X (e::es) t)
  (hst:starEach (e::es) X.env=(false,eval e X.env)::starEach es X.env:=by rfl) (hpl:(backTo pos (starEach es X.env)).any (·.1)=false:=by rfl)
  (ht:eval (.Call (.Attribute o m apos) (e::es) [] pos) X.env=(do
   let ov ←eval o X.env
   standAt apos.atName
   let (f,first) ←holding [ov] (getMethod ov m pl)
   callWith pos f first (backTo pos (starEach (e::es) X.env)) (backToKw pos (keywordEach [] X.env))):=by rfl) :
  PE X (.Call (.Attribute o m apos) (e::es) [] pos) (zp C m sp [] E ta t):=Qf he c D.me F hr D.bd .nil hx ha hst hpl ht
theorem nM {pl:Sem Bool}(D:j9 X.K C m q st f fd ps)(c:iF X.K C)(F:aA X.prog X.w X.K X.mg X.base CX k f fd ps sp)(hr:cU k X.A)(hx:Passes CX X E)(he:PE X o ta)
  (ht:eval (.Call (.Attribute o m apos) [] [] pos) X.env=(do
   let ov ←eval o X.env
   standAt apos.atName
   let (f,first) ←holding [ov] (getMethod ov m pl)
   callWith pos f first (backTo pos (starEach [] X.env)) (backToKw pos (keywordEach [] X.env))):=by rfl) :
  PE X (.Call (.Attribute o m apos) [] [] pos) (zp C m sp [] E ta dc):=Mu he c D.me F hr D.bd .nil hx ht
theorem tT (M:Mk X.K C f)(D:j9 X.K C m q st f fd ps)(F:aA X.prog X.w X.K X.mg X.base CX k f fd ps sp)(hr:cU (k+1) X.A)(hm:X.mg x=some (.ref C))(hx:Passes CX X E)(ha:PA X (e::es) t)(hg:Gl X x:=by rfl)
  (hdb:(x == ("__debug__":Str))=false:=by decide) (he:starEach (e::es) X.env=(false,eval e X.env)::starEach es X.env:=by rfl) (hpl:(backTo pos (starEach es X.env)).any (·.1)=false:=by rfl) :
  PE X (.Call (.Name x p) (e::es) [] pos) (zq C sp [] E t):=Qg M F hr hg hm D.bd .nil hx ha hdb he hpl
theorem K3 (M:Mk X.K C f)(D:j9 X.K C m q st f fd ps)(F:aA X.prog X.w X.K X.mg X.base CX k f fd ps sp)(hr:cU (k+1) X.A)(hm:X.mg x=some (.ref C))(hx:Passes CX X E)(hg:Gl X x:=by rfl)
  (hdb:(x == ("__debug__":Str))=false:=by decide):PE X (.Call (.Name x p) [] [] pos) (zq C sp [] E dc):=Mv M F hr hg hm D.bd .nil hx hdb
end
end L2
namespace L2
open PySem PySem.Spec PyProof.Rows TB
def QA:TE:=λ_ _ _=>False
def QB:TT:=λ_ _ _=>False
section
variable {X:Cx}
theorem pJ {e:Expr}:PE X e QA:=λ_ _ _ _ _ _ h=>h.elim
theorem yJ {e:Expr}:PT X e QB:=λ_ _ _ _ _ _ h=>h.elim
end
section
variable {X:Cx}{pos:Pos}
end
section
variable {K:PySem.W.Frag}{ix:List (Option Nat)}{g:TG}{tf:TT}{te:TE}{σ:St}{H H1:Hp}{Q:Addr->Hp->Prop}{a:Addr}
theorem tU (hq:aE K H1 a [])(hd:∀D H,H1 D=none->ah H1 H->H D=some (.lst [])->Q D H):ee (rO K a) ix g tf te σ H1 Q:=
 vG hq (Nat.zero_le _) (λ_ _ _=>True) (λD hD=>True.intro) (λD i x ys H R1 R0 hD hx=>absurd hx (by simp)) λD ys H hD sm bC hl _=>by
  have e:ys=[]:=by simpa using hl
  subst e
  exact hd D H hD sm bC
theorem M5 {ta:TE}{R:VK}(h:Gv ta σ H (.ref a))(hq:aE K H a [])(k:∀D H',H D=none->ah H H'->H' D=some (.lst [])->R (.ref D) H'):oQ (oN K ta) ix g tf te σ H R:=
 zJ h hq λH1 s1 hq1=>tU hq1 λD H2 hD s2 bC=>k D H2 (s1.free hD) (s1.trans s2) bC
theorem M6 {ta:TE}{us:TS}{D:Ends}{n:Nat}(h:Gv ta σ H (.ref a))(hq:aE K H a [])(k:∀Z H',H Z=none->ah H H'->H' Z=some (.lst [])->us D (σ.set n (some (.ref Z))) H'):eK (yC n (oN K ta) ix g tf te) us D σ H:=
 gZ (SH h hq λH1 s1 hq1=>tU hq1 λZ H2 hZ s2 hl=>k Z H2 (s1.free hZ) (s1.trans s2) hl)
theorem K4 {ta:TE}{tb:TS}{D:Ends}(h:Gv ta σ H (.ref a))(hq:aE K H a [])(k:∀H',ah H H'->D.nx σ H'):kh (oN K ta) g tb D σ H:=
 h _ λH' s=>⟨a,rfl,⟨[],s.seq hq⟩,DR (xs:=[]) (λ_ σ' H2=>σ'=σ/\ah H H2) ⟨rfl,s⟩ (λi σ' H2 _ p=>p.2.seq hq) (λi x σ' H2 hx=>absurd hx (by simp)) fun σ' H2 p=>by rw[p.1]; exact k H2 p.2⟩
end
end L2
namespace bJ
open PySem PySem.Spec PyProof.Rows L2
def top (i:Nat):Stmt:=PySem.Challenge.pw_quiltyard_k70_refused.main.body.getD i (.Pass ⟨0,0,0,0⟩)
abbrev iU:Stmt:=top 11
abbrev jy:Stmt:=top 12
abbrev ia:Stmt:=top 13
abbrev jz:Stmt:=top 15
abbrev jA:Stmt:=top 21
abbrev rZ:Stmt:=top 22
abbrev kF:Stmt:=top 23
abbrev iV:Stmt:=top 24
abbrev fW:Stmt:=top 27
abbrev r6:Stmt:=top 31
abbrev pK:Stmt:=top 33
abbrev jB:Stmt:=top 38
abbrev kG:Stmt:=top 39
abbrev iW:Stmt:=top 40
abbrev eT:Stmt:=top 41
abbrev vP:Stmt:=top 45
abbrev iX:Stmt:=top 47
abbrev kH:Stmt:=top 48
abbrev lQ:Stmt:=top 51
abbrev jC:Stmt:=top 53
abbrev kI:Stmt:=top 55
abbrev lR:Stmt:=top 59
abbrev iY:Stmt:=top 60
abbrev pL:Stmt:=top 61
abbrev iZ:Stmt:=top 65
abbrev gF:Stmt:=top 68
abbrev r8:Stmt:=top 72
abbrev jD:Stmt:=top 76
abbrev nN:Stmt:=top 81
abbrev kJ:Stmt:=top 83
abbrev lS:Stmt:=top 84
abbrev jE:Stmt:=top 85
abbrev i6:Stmt:=top 86
abbrev ic:Stmt:=top 87
abbrev jF:Stmt:=top 88
abbrev kK:Stmt:=top 89
abbrev oU:Stmt:=top 90
abbrev dG:Stmt:=inClass (top 36) 0
abbrev cV:Stmt:=inClass (top 36) 1
abbrev eu:Stmt:=inClass (top 36) 2
abbrev fX:Stmt:=inClass (top 37) 0
abbrev fG:Stmt:=inClass (top 37) 2
abbrev gG:Stmt:=inClass (top 37) 3
abbrev ie:Stmt:=inClass (top 37) 4
abbrev dh:Stmt:=inClass (top 37) 5
abbrev ig:Stmt:=inClass (top 37) 7
abbrev ir:Stmt:=inClass (top 37) 8
abbrev iu:Stmt:=inClass (top 37) 9
abbrev fY:Stmt:=inClass (top 57) 0
abbrev fH:Stmt:=inClass (top 57) 1
abbrev dQ:Stmt:=inClass (top 57) 2
abbrev jG:Stmt:=inClass (top 57) 3
abbrev eU:Stmt:=inClass (top 58) 0
abbrev dR:Stmt:=inClass (top 58) 1
abbrev jH:Stmt:=inClass (top 58) 2
set_option genInjectivity false in
structure Ad where
 kW:Addr
 gx:FuncData
 pM:Addr
 jI:FuncData
 jZ:Addr
 fQ:FuncData
 lT:Addr
 iw:FuncData
 pN:Addr
 jJ:FuncData
 AV:Addr
 r9:FuncData
 qV:Addr
 kL:FuncData
 b_:Addr
 bL:FuncData
 lg:Addr
 fZ:FuncData
 AW:Addr
 r_:FuncData
 yL:Addr
 pO:FuncData
 pP:Addr
 jK:FuncData
 qW:Addr
 kM:FuncData
 n_:Addr
 i7:FuncData
 jL:Addr
 eV:FuncData
 EC:Addr
 vQ:FuncData
 fz:Addr
 dw:FuncData
 nC:Addr
 jc:FuncData
 tV:Addr
 lU:FuncData
 pQ:Addr
 jM:FuncData
 qX:Addr
 kN:FuncData
 tW:Addr
 lV:FuncData
 oj:Addr
 i8:FuncData
 yM:Addr
 pR:FuncData
 om:Addr
 i9:FuncData
 jk:Addr
 fj:FuncData
 AX:Addr
 sd:FuncData
 pS:Addr
 jN:FuncData
 vR:Addr
 nO:FuncData
 qY:Addr
 kO:FuncData
 oV:Addr
 j0:FuncData
 pT:Addr
 jO:FuncData
 oq:Addr
 i_:FuncData
 mX:Addr
 iy:FuncData
 pU:Addr
 jP:FuncData
 qZ:Addr
 kP:FuncData
 zP:Addr
 tX:FuncData
 qE:Value
 nD:Value
 j3:Value
 tY:Value
 lW:Value
 kX:Value
 jQ:Addr
 aU:Addr
 bQ:Addr
 aM:Addr
 lG:Addr
 mY:Addr
 a_:Addr
 cL:Addr
 bu:Addr
 bf:Addr
 fk:Addr
 dH:FuncData
 cD:Addr
 bI:FuncData
 mH:Addr
 gr:FuncData
 lq:Addr
 iK:FuncData
 gU:Addr
 dX:FuncData
 lX:Addr
 gH:FuncData
 m5:Addr
 iz:FuncData
 gP:Addr
 di:FuncData
 m6:Addr
 iA:FuncData
 j4:Addr
 fR:FuncData
 m7:Addr
 iB:FuncData
 iL:Addr
 f_:FuncData
 kj:Addr
 fJ:FuncData
 iM:Addr
 dS:FuncData
 pV:Addr
 jR:FuncData
 gI:Addr
 eW:FuncData
 iN:Addr
 dU:FuncData
 pW:Addr
 jS:FuncData
structure Txt (K:PySem.W.Frag)(mg:Str->Option Value)(t:Ad):Prop where
 q_:Def K mg "are_letters" iU t.kW t.gx ["text"]
 zQ:Def K mg "is_picture" jy t.pM t.jI ["rows"]
 pX:Def K mg "look_picture" ia t.jZ t.fQ ["picture"]
 tZ:Def K mg "columns_of" jz t.lT t.iw ["picture"]
 zR:Def K mg "are_fields" jA t.pN t.jJ ["fields","many","marks"]
 OL:Def K mg "rises" rZ t.AV t.r9 ["tiles"]
 Cd:Def K mg "is_system" kF t.qV t.kL ["system"]
 cC:Def K mg "look_system" iV t.b_ t.bL ["system"]
 sj:Def K mg "mirrored_tiles" fW t.lg t.fZ ["tiles"]
 OM:Def K mg "shows" r6 t.AW t.r_ ["system","picture","rows"]
 K5:Def K mg "bit_of" pK t.yL t.pO ["field"]
 t6:Def K mg "walk_right" jB t.pP t.jK ["sets","system","high"]
 Ce:Def K mg "walk_left" kG t.qW t.kM ["sets","system","high"]
 ri:Def K mg "any_letters" iW t.n_ t.i7 ["high"]
 lu:Def K mg "columns_that_end" eT t.jL t.eV ["sets","system","high","columns"]
 lets:Def K mg "lets" vP t.EC t.vQ ["system","picture"]
 jd:Def K mg "look_height" iX t.fz t.dw ["high"]
 vS:Def K mg "look_size" kH t.nC t.jc ["high","wide"]
 ED:Def K mg "how_many" lQ t.tV t.lU ["system","high","wide"]
 zS:Def K mg "picture_of" jC t.pQ t.jM ["system","high","wide","number"]
 Cf:Def K mg "number_of" kI t.qX t.kN ["system","picture"]
 EE:Def K mg "searched" lR t.tW t.lV ["one","other","high"]
 xP:Def K mg "told_height" iY t.oj t.i8 ["one","other","high"]
 parted:Def K mg "parted" pL t.yM t.pR ["one","other","high"]
 xQ:Def K mg "shows_alike" iZ t.om t.i9 ["one","other","high","pairs"]
 ou:Def K mg "look_question" gF t.jk t.fj ["system","high","rule"]
 ON:Def K mg "ruled" r8 t.AX t.sd ["system","high","rule"]
 zT:Def K mg "shows_rule" jD t.pS t.jN ["system","high","rule","paper"]
 written:Def K mg "written" nN t.vR t.nO ["system"]
 _law_cell:Def K mg "_law_cell" kJ t.qY t.kO ["_law_script","_law_k"]
 _law_mix:Def K mg "_law_mix" lS t.oV t.j0 ["_law_script","_law_k"]
 _law_tiles:Def K mg "_law_tiles" jE t.pT t.jO ["_law_rows"]
 _law_system:Def K mg "_law_system" i6 t.oq t.i_ ["_law_script","_law_k","_law_marks"]
 _law_refusal:Def K mg "_law_refusal" ic t.mX t.iy ["_law_kept"]
 _law_first:Def K mg "_law_first" jF t.pU t.jP ["_law_way","_law_system_here","_law_picture","_law_high"]
 _law_told:Def K mg "_law_told" kK t.qZ t.kP ["_law_way","_law_system_here","_law_other","_law_picture","_law_high"]
 law:Def K mg "law" oU t.zP t.tX ["_law_script"]
 vU:mg "LETTERS"=some t.qE
 vV:RelV (.str "abcd") t.qE
 xR:mg "MOST_ROWS"=some t.nD
 xS:RelV (.int 4) t.nD
 AY:mg "MOST_COLUMNS"=some t.j3
 AZ:RelV (.int 12) t.j3
 t7:mg "BORDER"=some t.tY
 t8:RelV (.int (-1)) t.tY
 EF:mg "MOST_MARKS"=some t.lW
 EG:RelV (.int 16) t.lW
 CL:mg "TILE_FIELDS"=some t.kX
 CM:RelV (.int 4) t.kX
 EH:mg "QuiltError"=some (.ref t.jQ)
 EI:mg "BadPicture"=some (.ref t.aU)
 K6:mg "BadSize"=some (.ref t.bQ)
 Gb:mg "BadSystem"=some (.ref t.aM)
 K7:mg "BadText"=some (.ref t.lG)
 M7:mg "Unlike"=some (.ref t.mY)
 Ge:mg "FieldSets"=some (.ref t.a_)
 K8:mg "Walk"=some (.ref t.cL)
 Tg:mg "Both"=some (.ref t.bu)
 M8:mg "Search"=some (.ref t.bf)
 bD:iF K t.a_
 cP:bw K t.a_ "branches"
 cT:bw K t.a_ "known"
 fM:bw K t.a_ "either_known"
 gv:bw K t.a_ "both_known"
 gc:bw K t.a_ "first_known"
 mJ:j9 K t.a_ "__init__" "FieldSets.__init__" dG t.fk t.dH ["self"]
 dI:j9 K t.a_ "number_for" "FieldSets.number_for" cV t.cD t.bI ["self","depth","branches"]
 oB:j9 K t.a_ "of_one" "FieldSets.of_one" eu t.mH t.gr ["self","fields"]
 EJ:Mk K t.a_ t.fk
 cQ:iF K t.cL
 eX:bw K t.cL "sets"
 lY:bw K t.cL "letters"
 eY:bw K t.cL "high"
 gJ:bw K t.cL "lower_left"
 lZ:bw K t.cL "closing"
 cA:bw K t.cL "choices_known"
 cF:bw K t.cL "placed_known"
 cG:bw K t.cL "closed_known"
 m8:j9 K t.cL "__init__" "Walk.__init__" fX t.lq t.iK ["self","sets","letters","tiles","high"]
 jl:j9 K t.cL "beginning" "Walk.beginning" fG t.gU t.dX ["self"]
 uC:j9 K t.cL "choices" "Walk.choices" gG t.lX t.gH ["self","left","right","letters"]
 vW:j9 K t.cL "placed" "Walk.placed" ie t.m5 t.iz ["self","row","front","letters"]
 l5:j9 K t.cL "placed_beneath" "Walk.placed_beneath" dh t.gP t.di ["self","row","above","front","letters"]
 vX:j9 K t.cL "closed" "Walk.closed" ig t.m6 t.iA ["self","depth","front"]
 l6:j9 K t.cL "onward" "Walk.onward" ir t.j4 t.fR ["self","row","front","letters"]
 vY:j9 K t.cL "behind" "Walk.behind" iu t.m7 t.iB ["self","columns","choices"]
 Hg:Mk K t.cL t.lq
 m9:iF K t.bu
 l7:bw K t.bu "high"
 jn:bw K t.bu "letters"
 gf:bw K t.bu "sets"
 fL:bw K t.bu "left_walk"
 eZ:bw K t.bu "right_walk"
 jf:bw K t.bu "left_ending"
 iO:bw K t.bu "right_ending"
 su:j9 K t.bu "__init__" "Both.__init__" fY t.iL t.f_ ["self","one","other","high"]
 qF:j9 K t.bu "beginning" "Both.beginning" fH t.kj t.fJ ["self"]
 nP:j9 K t.bu "pairs_behind" "Both.pairs_behind" dQ t.iM t.dS ["self","pair"]
 zU:j9 K t.bu "step" "Both.step" jG t.pV t.jR ["self","row","fronts","letter"]
 QD:Mk K t.bu t.iL
 lH:iF K t.bf
 j5:bw K t.bf "both"
 j6:bw K t.bf "ways"
 gW:bw K t.bf "parting"
 pY:j9 K t.bf "__init__" "Search.__init__" eU t.gI t.eW ["self","both"]
 nQ:j9 K t.bf "new_behind" "Search.new_behind" dR t.iN t.dU ["self","pair"]
 zV:j9 K t.bf "go" "Search.go" jH t.pW t.jS ["self"]
 K9:Mk K t.bf t.gI
 EK:zF K mg "BadPicture" t.aU
 EL:jh K t.aU
 K_:zF K mg "BadSize" t.bQ
 La:jh K t.bQ
 Gf:zF K mg "BadSystem" t.aM
 Gg:jh K t.aM
 qt:PySem.W.kitOne K (.ref t.aU) (.ref t.aU)=some true
 t9:PySem.W.kitOne K (.ref t.aU) (.ref t.bQ)=some false
 rj:PySem.W.kitOne K (.ref t.aU) (.ref t.aM)=some false
 t_:PySem.W.kitOne K (.ref t.aU) (.ref t.lG)=some false
 uS:PySem.W.kitOne K (.ref t.aU) (.ref t.mY)=some false
 qu:PySem.W.kitOne K (.ref t.aU) (.type "ValueError")=some true
 ua:PySem.W.kitOne K (.ref t.bQ) (.ref t.aU)=some false
 xu:PySem.W.kitOne K (.ref t.bQ) (.ref t.bQ)=some true
 uT:PySem.W.kitOne K (.ref t.bQ) (.ref t.aM)=some false
 xw:PySem.W.kitOne K (.ref t.bQ) (.ref t.lG)=some false
 yN:PySem.W.kitOne K (.ref t.bQ) (.ref t.mY)=some false
 uc:PySem.W.kitOne K (.ref t.bQ) (.type "ValueError")=some true
 rm:PySem.W.kitOne K (.ref t.aM) (.ref t.aU)=some false
 uU:PySem.W.kitOne K (.ref t.aM) (.ref t.bQ)=some false
 sI:PySem.W.kitOne K (.ref t.aM) (.ref t.aM)=some true
 uV:PySem.W.kitOne K (.ref t.aM) (.ref t.lG)=some false
 vZ:PySem.W.kitOne K (.ref t.aM) (.ref t.mY)=some false
 rq:PySem.W.kitOne K (.ref t.aM) (.type "ValueError")=some true
 qv:PySem.W.exmOne K (.ref t.aU) (.ref t.jQ)=some true
 ud:PySem.W.exmOne K (.ref t.bQ) (.ref t.jQ)=some true
 rA:PySem.W.exmOne K (.ref t.aM) (.ref t.jQ)=some true
 iP:mg "len"=none
 zW:mg "all"=none
 fm:mg "range"=none
 iC:mg "isinstance"=none
 Lb:mg "list"=none
 Hh:mg "tuple"=none
 Ve:mg "set"=none
 EM:mg "sorted"=none
 Vf:mg "int"=none
 Vg:mg "sum"=none
 Gh:mg "enumerate"=none
 Ji:mg "reversed"=none
 EN:mg "ValueError"=none
theorem small {n:Nat}(h:n<=1000):n<=sizeLine:=Nat.le_of_lt (Kn h)
section
variable {P:Program}{w:World}{K:PySem.W.Frag}{mg:Str->Option Value}{base:Heap}{t:Ad}
theorem Cg {ta:TE}{σ:L2.St}{H:Hp}{a:Addr}{xs:List V}(h:Gv ta σ H (.ref a))(hq:aE K H a xs):Gt (fun σ H Q=>ta σ H λx H'=>∃k,IJ K x H' k/\Q k H') σ H (!xs.isEmpty):=λR r=>h _ λH' s=>⟨_,.inl ⟨xs,s.seq hq,rfl⟩,r H' s⟩
def cell (ns:List Int)(k:Int):Int:=if ns=[] then 0 else ns.getD (k % ns.length).toNat 0
def Hi (K:PySem.W.Frag):Sp:=λvs H Q _=>∃(a:Addr) (ns:List Int) (k:Int),vs=[.ref a,.int k]/\aE K H a (ns.map V.int)/\ns.length<=63/\∀H',ah H H'->Q (.int (cell ns k)) H'
theorem EO:aI ["_law_script","_law_k"] ["_law_script","_law_k"] (aC kJ):=⟨rfl,rfl,rfl,by decide +kernel,rfl,by decide +kernel,by decide +kernel⟩
theorem ER (T:Txt K mg t):aA P w K mg base aZ 1 t.qY t.kO ["_law_script","_law_k"] (Hi K):=by
 refine T._law_cell.fn.ok EO (λvs H Q E h=>?_) (λcdv A outer s H vs Q E hr h=>?_)
 ·obtain⟨a,ns,k,rfl,_⟩:=h
  rfl
 obtain⟨a,ns,k,rfl,hq,hl,kk⟩:=h
 refine⟨_,(aj (bY (KI K (pv 0) (λ_=>rfl)) (av (aO (bT (fu K) (pv 0) (aH eO (pv 1) (bq (k_ K) (by rfl) T.iP boot_len (aa (pv 0) ai))) (λ_ _=>rfl)))) bF) (av (aO aq))),?_⟩
 refine gq (Cg (af (by rfl)) hq) (λc H1 s1=>?_) λc H1 s1=>?_
 ·have ne:ns≠[]:=λz=>by rw[z] at c; simp at c
  have hpos:0 < ns.length:=List.length_pos_iff.mpr ne
  have hlt:(k % (ns.length:Int)).toNat < ns.length:=by
   have h1:=Int.emod_lt_of_pos k (show (0:Int) < ns.length by omega)
   have h2:=Int.emod_nonneg k (show (ns.length:Int)≠0 by omega)
   omega
  have hat:lM (ns.map V.int) (k % ((ns.map V.int).length:Int))=some (.int (cell ns k)):=by
   have h2:=Int.emod_nonneg k (show (ns.length:Int)≠0 by omega)
   rw[List.length_map]
   have e:k % (ns.length:Int)=((k % (ns.length:Int)).toNat:Int):=by omega
   rw[e]
   refine cu ?_
   unfold cell
   rw[if_neg ne,List.getElem?_map,List.getElem?_eq_getElem hlt,List.getD_eq_getElem?_getD,List.getElem?_eq_getElem hlt]
   rfl
  refine cK (kD (af (by rfl)) (λH2 s2=>bS (af (by rfl)) (λH3 s3=>mT (K:=K) (xs:=ns.map V.int) (az (af (by rfl))) ((s1.trans (s2.trans s3)).seq hq)) ?_) (s1.seq hq) hat) λH2 s2=>kk H2 (s1.trans s2)
  rw[List.length_map]; omega
 ·have e:ns=[]:=by
   cases ns with
   | nil=>rfl
   | cons x xs=>simp at c
  have:=kk H1 s1
  rw[show cell ns k=0 by unfold cell; rw[if_pos e]] at this
  exact this
def Th (ns:List Int)(k:Int):Int:=(cell ns k+104729 * (k+1)) % 4294967291 * 48271 % 4294967279
def mix (ns:List Int)(k:Int):Int:=(Th ns k / 64 * 69621+Th ns k) % 4294967231
theorem ES (ns:List Int)(k:Int):0<=mix ns k:=Int.emod_nonneg _ (by decide)
def zX (K:PySem.W.Frag):Sp:=λvs H Q _=>∃(a:Addr) (ns:List Int) (k:Int),vs=[.ref a,.int k]/\aE K H a (ns.map V.int)/\ns.length<=63/\∀H',ah H H'->Q (.int (mix ns k)) H'
theorem rB:aI ["_law_script","_law_k","_law_number"] ["_law_script","_law_k"] (aC lS):=⟨rfl,rfl,rfl,by decide +kernel,rfl,by decide +kernel,by decide +kernel⟩
theorem xT (T:Txt K mg t):aA P w K mg base aZ 2 t.oV t.j0 ["_law_script","_law_k"] (zX K):=by
 have Gi:aA P w K mg base aZ 1 t.qY t.kO ["_law_script","_law_k"] (Hi K):=ER T
 refine T._law_mix.fn.ok rB (λvs H Q E h=>?_) (λcdv A outer s H vs Q E hr h=>?_)
 ·obtain⟨a,ns,k,rfl,_⟩:=h
  rfl
 obtain⟨a,ns,k,rfl,hq,hl,kk⟩:=h
 refine⟨_,(aj (aP (i:=2) rB.nd rfl (by first | exact Or.inl rfl | exact Or.inr rfl) (aH eO (aH bW (aB T._law_cell Gi (hr.mono (by first | decide | omega)) aQ (aa (pv 0) (aa (pv 1) ai))) (aH pA aq (aH bW (pv 1) aq))) aq)) (aj (aP (i:=2) rB.nd rfl (by first | exact Or.inl rfl | exact Or.inr rfl) (aH eO (aH pA (pv 2) aq) aq)) (av (aO (aH eO (aH bW (aH pA (aH rQ (pv 2) aq) aq) (pv 2)) aq))))),?_⟩
 refine gE (bS (bO (fh (v:=.int (cell ns k)) (ao (af (by rfl)) λ_ _=>az (af (by rfl))) λH1 R s1 k1=>⟨a,ns,k,rfl,s1.seq hq,hl,k1⟩) λH1 s1=>bS ay (λH2 s2=>bO (af (by rfl)) λ_ _=>ay) (.inl ⟨by decide,by decide⟩)) (λ_ _=>ay) (by decide)) λH1 s1=>?_
 refine gE (bS (bS (af (by rfl)) (λ_ _=>ay) (.inr ⟨by decide,by decide⟩)) (λ_ _=>ay) (by decide)) λH2 s2=>?_
 refine cK (bS (bO (bS (bS (af (by rfl)) (λ_ _=>ay) ⟨by decide,by decide⟩) (λ_ _=>ay) (.inr ⟨by decide,by decide⟩)) λ_ _=>af (by rfl)) (λ_ _=>ay) (by decide)) λH3 s3=>?_
 exact kk H3 (s1.trans (s2.trans s3))
end
end bJ
set_option maxHeartbeats 1000000
namespace bJ
open PySem PySem.Spec PyProof.Rows L2
section
variable {P:Program}{w:World}{K:PySem.W.Frag}{mg:Str->Option Value}{base:Heap}{t:Ad}
def Gd (K:PySem.W.Frag)(te:TE)(σ:L2.St)(H:Hp)(ds:List Dt):Prop:=∀R:VK,(∀p H' vs,H p=none->ah H H'->H' p=some (.lst vs)->aD K (Hm p H') ds vs->R (.ref p) H')->te σ H R
theorem Vh {te:TE}{σ:L2.St}{H:Hp}{ds:List Dt}{R:VK}(h:Gd K te σ H ds)(r:∀p H' vs,H p=none->ah H H'->H' p=some (.lst vs)->aD K (Hm p H') ds vs->R (.ref p) H'):te σ H R:=h R r
theorem Lc {te:TE}{σ:L2.St}{H:Hp}{ns:List Int}(h:Gn te σ H (ns.map V.int)):Gd K (lK (cE te dc)) σ H [jw ns]:=λR r=>
 h _ λp H1 hp s1 hl=>⟨(by show 1<=sizeLine; decide),λq hq=>r q _ _ (s1.free hq) (s1.trans (ah.new hq _)) au (by
  unfold aD
  refine⟨_,_,rfl,mW.mpr ⟨p,rfl,aE.of ?_⟩,by unfold aD; rfl⟩
  have ne:p≠q:=aW hl hq
  rw[oS ne,aG ne]
  exact hl)⟩
theorem Ld {ta tb:TE}{σ:L2.St}{H:Hp}{ds es:List Dt}(ha:Gd K ta σ H ds)(hb:∀H',ah H H'->Gd K tb σ H' es)(hz:ds.length+es.length<=sizeLine):Gd K (cZ D5 ta tb) σ H (ds++es):=λR r=>
 ha _ λa H1 vs ha1 s1 hl1 r1=>hb H1 s1 _ λb H2 ws hb2 s2 hl2 r2=>by
  refine⟨a,b,vs,ws,rfl,rfl,s2 _ _ hl1,hl2,by rw[r1.length,r2.length]; exact hz,λq hq=>?_⟩
  have sq:ah H2 (Hm q (upd H2 q (.lst (vs++ws)))):=(ah.new hq _).into hq
  exact r q _ _ ((s1.trans s2).free hq) ((s1.trans s2).trans (ah.new hq _)) au (aD.append (r1.same (pH.trans (s2.trans sq))) (r2.same (pH.trans sq)))
theorem pZ {ta tb:TE}{σ:L2.St}{H:Hp}{xs:List V}{k:Nat}(ha:Gn ta σ H xs)(hb:∀H',ah H H'->Gv tb σ H' (.int k))(hk:k<=1000)(hz:xs.length * k<=1000):Gn (cZ IX ta tb) σ H (List.replicate k xs).flatten:=λR r=>
 ha _ λa H1 ha1 s1 hl1=>hb H1 s1 _ λH2 s2=>⟨a,k,xs,rfl,rfl,s2 _ _ hl1,by omega,by omega,by rw[Int.toNat_natCast]; exact small hz,λq hq=>by
  have:=r q _ ((s1.trans s2).free hq) ((s1.trans s2).trans (ah.new hq _)) au
  rw[Int.toNat_natCast]
  exact this⟩
theorem QE {tt:TA}{σ:L2.St}{H:Hp}{p:Addr}{ys:List V}(h:Ga tt σ H [.ref p])(hq:aE K H p ys):Gn (rR (λxs H Q=>∃p ys,xs=[.ref p]/\(aE K H p ys\/aK K H p ys)/\∀l,H l=none->Q (.ref l) (upd H l (.lst ys))) tt) σ H ys:=λR r=>
 h _ λH1 s1=>⟨p,ys,rfl,.inl (s1.seq hq),λl hl=>r l _ (s1.free hl) (s1.trans (ah.new hl _)) au⟩
theorem Le (k:Nat)(i:Int):(List.replicate k [V.int i]).flatten=(List.replicate k i).map V.int:=by
 induction k with
 | zero=>rfl
 | succ k ih=>rw[List.replicate_succ,List.flatten_cons,ih,List.replicate_succ]; rfl
theorem Hj {tt:TA}{g:TG}{tb:TS}{D:Ends}{σ:L2.St}{H:Hp}{n:Nat}(h:Ga tt σ H [.int (n:Int)])(hn:n<=1000)(Pv:Nat->L2.St->Hp->Prop)(h0:∀H',ah H H'->Pv 0 σ H')
  (hs:∀i σ H,i < n->Pv i σ H->g (.int (i:Int)) σ H fun σ2 H2=>tb { D with nx:=Pv (i+1),ct:=Pv (i+1),bk:=D.nx } σ2 H2) (hd:∀σ H,Pv n σ H->D.nx σ H):kh (De tt) g tb D σ H:=
 h _ λH' s'=>⟨(n:Int),rfl,by omega,by omega,vp (n:=(n:Int).toNat) Pv (h0 H' s') (λi σ H hi p=>by
  rw[Int.toNat_natCast] at hi
  rw[Int.zero_add]
  exact hs i σ H hi p) fun σ H p=>by rw[Int.toNat_natCast] at p; exact hd σ H p⟩
theorem sJ {tt:TA}{g:TG}{tb us:TS}{D:Ends}{σ:L2.St}{H:Hp}{n:Nat}(h:Ga tt σ H [.int (n:Int)])(hn:n<=1000)(Pv:Nat->L2.St->Hp->Prop)(h0:∀H',ah H H'->Pv 0 σ H')
  (hs:∀i σ H,i < n->Pv i σ H->g (.int (i:Int)) σ H fun σ2 H2=>tb { D with nx:=Pv (i+1),ct:=Pv (i+1),bk:=us D } σ2 H2) (hd:∀σ H,Pv n σ H->us D σ H):eK (kh (De tt) g tb) us D σ H:=
 Hj (D:={ D with nx:=us D }) h hn Pv h0 hs hd
def dN (rows:List (List Int)):Nat:=(rows.headD []).length
def p9 (rows:List (List Int)):List Int:=List.replicate (dN rows+2) (-1)
def bX (rows:List (List Int)):List (List Int):=[p9 rows]++rows.map (λr=>[-1]++r++[-1])++[p9 rows]
def gK (b:List (List Int))(y x:Nat):List Int:=[(b.getD y []).getD x 0,(b.getD y []).getD (x+1) 0,(b.getD (y+1) []).getD x 0,(b.getD (y+1) []).getD (x+1) 0]
def jT (rows:List (List Int))(y:Nat):List (List Int):=(List.range (dN rows+1)).map (gK (bX rows) y)
def ue (rows:List (List Int)):List (List Int):=(List.range (rows.length+1)).flatMap (jT rows)
theorem yO (rows:List (List Int)):(bX rows).length=rows.length+2:=by unfold bX; simp
theorem yQ {rows:List (List Int)}(hr:∀r∈rows,r.length=dN rows){y:Nat}(hy:y < rows.length+2):((bX rows).getD y []).length=dN rows+2:=by
 have hm:(bX rows).getD y []∈bX rows:=by
  rw[List.getD_eq_getElem?_getD,List.getElem?_eq_getElem (by rw[yO]; exact hy)]
  exact List.getElem_mem _
 generalize (bX rows).getD y []=z at hm
 unfold bX p9 at hm
 simp only [List.mem_append,List.mem_singleton,List.mem_map] at hm
 rcases hm with (rfl | ⟨r,hr',rfl⟩) | rfl
 ·simp
 ·have:=hr r hr'
  simp
  omega
 ·simp
theorem yR (rows:List (List Int)):∀i,((List.range i).flatMap (jT rows)).length=i * (dN rows+1)
 | 0=>by simp
 | i+1=>by
  rw[List.range_succ,List.flatMap_append,List.length_append,yR rows i,Nat.succ_mul]
  simp [jT]
theorem M9 {tt:TA}{σ:L2.St}{H:Hp}{vs:List V}{R:List V->Hp->Prop}(h:Ga tt σ H vs)(hz:vs.length<=sizeLine)(k:∀H1 p,ah H H1->H1 p=none->R [.ref p] (upd H1 p (.tup vs))):cE (qR tt) dc σ H R:=h _ λH1 s1=>⟨hz,λp hp=>k H1 p s1 hp⟩
def ET (K:PySem.W.Frag):Sp:=λvs H Q _=>∃(a:Addr) (rows:List (List Int)),vs=[.ref a]/\Rep K H (.lst (rows.map jw)) (.ref a)/\rows≠[]/\(∀r∈rows,r.length=dN rows)/\rows.length<=20/\dN rows<=20/\
 ∀(F:Addr) (H':Hp) (ws:List V),H F=none->ah H H'->H' F=some (.lst ws)->aD K (Hm F H') ((ue rows).map tupI) ws->Q (.ref F) H'
theorem M_ {r:List Int}{x:Nat}(h:x < r.length):lM (r.map V.int) (x:Int)=some (.int (r.getD x 0)):=cu (by simp [List.getD_eq_getElem?_getD,h])
theorem gy:aI ["_law_rows","_law_wide","_law_some","_law_found","_law_y","_law_x"] ["_law_rows"] (aC jE):=⟨rfl,rfl,rfl,by decide +kernel,rfl,by decide +kernel,by decide +kernel⟩
theorem CO (T:Txt K mg t):aA P w K mg base aZ 1 t.pT t.jO ["_law_rows"] (ET K):=by
 refine T._law_tiles.fn.ok gy (λvs H Q E h=>?_) (λcdv A outer s H vs Q E hr h=>?_)
 ·obtain⟨a,rows,rfl,_⟩:=h
  rfl
 obtain⟨a,rows,rfl,hrep,hne,Jj,hlen,Na,kk⟩:=h
 unfold Rep at hrep
 obtain⟨a',xs,e,hq,Jk⟩:=hrep
 cases e
 have EU:xs.length=rows.length:=by rw[Jk.length,List.length_map]
 refine⟨_,(aj (aP (i:=1) gy.nd rfl (by first | exact Or.inl rfl | exact Or.inr rfl) (aH bW (bq (k_ K) (by rfl) T.iP boot_len (aa (bT (fu K) (pv 0) aq (λ_ _=>rfl)) ai)) aq)) (aj (aP (i:=2) gy.nd rfl (by first | exact Or.inl rfl | exact Or.inr rfl) (aH pC (aH pC (aY (aa (aH lN (aY (aa (qB nJ aq) ai)) (pv 1)) ai)) (cN (N':=["_law_row"]) (ix:=[none]) (aT (by kernel_rfl)) rfl (jv K (pv 0)) (λ_ _ _ _=>(aL (i:=0) (show List.Nodup (["_law_row"]:List Str) from by decide +kernel) rfl (by first | exact Or.inl rfl | exact Or.inr rfl))) (λ_ _ _ _=>fF) (λ_ _ _ _=>(aH pC (aH pC (aY (aa (qB nJ aq) ai)) (lD (U_ K) (by rfl) T.Lb boot_list (aa (pv 0) ai))) (aY (aa (qB nJ aq) ai)))))) (aY (aa (aH lN (aY (aa (qB nJ aq) ai)) (pv 1)) ai)))) (aj (aP (i:=3) gy.nd rfl (by first | exact Or.inl rfl | exact Or.inr rfl) (aY ai)) (aj (fC PassesOwn.never rfl (eL rfl T.fm (aa (aH nI (bq (k_ K) (by rfl) T.iP boot_len (aa (pv 2) ai)) aq) ai)) (aL (i:=4) gy.nd rfl (by first | exact Or.inl rfl | exact Or.inr rfl)) (av (fC PassesOwn.never rfl (eL rfl T.fm (aa (aH nI (pv 1) aq) ai)) (aL (i:=5) gy.nd rfl (by first | exact Or.inl rfl | exact Or.inr rfl)) (av (aX (xN K PySem.F.plainAttrs_list PySem.F.slot_list_append PySem.F.type_list_append lE (pv 3) (aa (dO (aa (bT (fu K) (bT (fu K) (pv 2) (pv 4) (λ_ _=>rfl)) (pv 5) (λ_ _=>rfl)) (aa (bT (fu K) (bT (fu K) (pv 2) (pv 4) (λ_ _=>rfl)) (aH bW (pv 5) aq) (λ_ _=>rfl)) (aa (bT (fu K) (bT (fu K) (pv 2) (aH bW (pv 4) aq) (λ_ _=>rfl)) (pv 5) (λ_ _=>rfl)) (aa (bT (fu K) (bT (fu K) (pv 2) (aH bW (pv 4) aq) (λ_ _=>rfl)) (aH bW (pv 5) aq) (λ_ _=>rfl)) ai))))) ai))))))) (av (aO (pv 3))))))),?_⟩
 obtain⟨r0,rr,rfl⟩:∃r0 rr,rows=r0::rr:=by
  cases rows with
  | nil=>exact absurd rfl hne
  | cons r0 rr=>exact⟨r0,rr,rfl⟩
 obtain⟨v0,hv0,hr0⟩:=Jk.get 0 (jw r0) rfl
 obtain⟨b0,rfl,hb0⟩:=mW.mp hr0
 refine gE (eF (bO (mT (K:=K) (az (kD (K:=K) (af (by rfl)) (λ_ _=>ay) hq (cu (j:=0) hv0))) hb0) λ_ _=>ay) (y:=.int ((dN (r0::rr)+2:Nat):Int)) (by rw[List.length_map]; rfl)) λH1 s1=>?_
 have Nb:∀{σ:L2.St} {Hx:Hp},Gv (Ow (rU λi=>.int (-i)) (tC (.int 1))) σ Hx (.int (-1)):=zL ay
 have edgeG:∀{σ:L2.St} {Hx:Hp},σ[1]?=some (some (V.int ((dN (r0::rr)+2:Nat):Int)))->Gn (cZ IX (lK (cE (Ow (rU λi=>.int (-i)) (tC (.int 1))) dc)) (eG 1)) σ Hx ((p9 (r0::rr)).map V.int):=λh1=>
  zK (pZ (dg (az Nb) (by show 1<=sizeLine; decide)) (λ_ _=>af h1) (by omega) (by simp; omega)) (Le _ _)
 have hmid:(r0::rr).map (λr=>jw ([-1]++r++[-1]))=(List.range xs.length).map λi=>jw ([-1]++(r0::rr).getD i []++[-1]):=by
  rw[EU]
  refine List.ext_getElem (by simp) λi h1 h2=>?_
  have hi:i < (r0::rr).length:=by simpa using h1
  rw[List.getElem_map,List.getElem_map,List.getElem_range,List.getD_eq_getElem?_getD,List.getElem?_eq_getElem hi]
  rfl
 refine bh (Vh (K:=K) (Ld (Ld (Lc (edgeG (by rfl))) (λH2 s2=>(show Gd K _ _ H2 ((r0::rr).map λr=>jw ([-1]++r++[-1])) from λR r=>?_)) (small (by simp at hlen ⊢; omega))) (λH2 s2=>Lc (edgeG (by rfl))) (small (by simp at hlen ⊢; omega))) λS H2 ws hS s2 rL rS=>?_)
 ·refine zJ (K:=K) (af (by rfl)) ((s1.trans s2).seq hq) λH4 s4 Zw=>?_
  refine CK (λi=>jw ([-1]++(r0::rr).getD i []++[-1])) Zw (small (by omega)) (λD i x H5 R5 hD Zx hx s5 k5=>?_) λD H5 ys hD s5 bC rep=>r D H5 ys (s4.free hD) (s4.trans s5) bC (by rw[hmid]; exact rep)
  obtain⟨d,hd,hdx⟩:=Jk.at_ i x hx
  obtain⟨r',hr',hrl⟩:∃r',(r0::rr)[i]?=some r'/\d=jw r':=by
   rw[List.getElem?_map] at hd
   cases e:(r0::rr)[i]? with
   | none=>rw[e] at hd; cases hd
   | some r'=>rw[e] at hd; exact⟨r',rfl,(Option.some.inj hd).symm⟩
  subst hrl
  obtain⟨b,rfl,hb⟩:=mW.mp hdx
  have hgd:(r0::rr).getD i []=r':=by rw[List.getD_eq_getElem?_getD,hr']; rfl
  have hrw:r'.length<=20:=by rw[Jj r' (List.mem_of_getElem? hr')]; exact Na
  refine nA (G1 (G1 (dg (az Nb) (by show 1<=sizeLine; decide)) (λH6 s6=>QE (K:=K) (az (af (by rfl))) ((s1.trans (s2.trans (s4.trans (s5.trans s6)))).seq hb)) (small (by simp; omega))) (λH6 s6=>dg (az Nb) (by show 1<=sizeLine; decide)) (small (by simp; omega))) λp H6 hp s6 hl=>?_
  refine k5 _ H6 s6 (mW.mpr ⟨p,rfl,aE.of ?_⟩)
  have ne:p≠D:=λz=>by
   obtain⟨ys,hys⟩:=Zx
   rw[z,hys] at hp
   cases hp
  rw[oS ne,hl,hgd]
  simp
 have s02:=s1.trans s2
 have Hl:∀{Hx:Hp},ah H2 Hx->∀y,y < rr.length+3->∃c,ws[y]?=some (.ref c)/\aE K Hx c (((bX (r0::rr)).getD y []).map V.int):=λ{Hx} sx y hy=>by
  have hy':y < (bX (r0::rr)).length:=by rw[yO]; simpa using hy
  have e:([jw (p9 (r0::rr))]++(r0::rr).map (λr=>jw ([-1]++r++[-1]))++[jw (p9 (r0::rr))])=(bX (r0::rr)).map jw:=by
   unfold bX
   rw[List.map_append,List.map_append,List.map_map]
   rfl
  rw[e] at rS
  obtain⟨v,hv,hr⟩:=rS.get y (jw ((bX (r0::rr)).getD y [])) (by rw[List.getElem?_map,List.getD_eq_getElem?_getD,List.getElem?_eq_getElem hy']; rfl)
  obtain⟨c,rfl,hc⟩:=mW.mp hr
  exact⟨c,hv,(pH.trans sx).seq hc⟩
 have hwl:ws.length=rr.length+3:=by
  rw[rS.length]
  simp
 refine bh ⟨(by show 0<=sizeLine; decide),λF hF=>?_⟩
 refine sJ (n:=rr.length+2) (az (eF (bO (mT (K:=K) (az (af (by rfl))) (aE.of (ah.new hF _ _ _ rL))) λ_ _=>ay) (by rw[hwl]; congr 1; omega))) (by simp at hlen; omega)
  (λi σ H3=>∃(e4 e5:Option V) (us:List V),σ=[some (.ref a),some (.int ((dN (r0::rr)+2:Nat):Int)),some (.ref S),some (.ref F),e4,e5]/\ah H2 H3/\H3 F=some (.lst us)/\aD K (Hm F H3) (((List.range i).flatMap (jT (r0::rr))).map tupI) us)
  (λH3 s3=>⟨none,none,[],rfl,(ah.new hF _).trans s3,s3 _ _ au,by show aD K _ [] []; unfold aD; rfl⟩) ?_ ?_
 ·rintro i σ H3 hi ⟨e4,e5,us,rfl,s3,Ti,Tj⟩
  refine Hj (n:=dN (r0::rr)+1) (az (eF (bO (af (by rfl)) λ_ _=>ay) (by congr 1; omega))) (by omega)
   (λj σ H4=>∃(e5:Option V) (us:List V),σ=[some (.ref a),some (.int ((dN (r0::rr)+2:Nat):Int)),some (.ref S),some (.ref F),some (.int (i:Int)),e5]/\ah H2 H4/\H4 F=some (.lst us)/\aD K (Hm F H4) ((((List.range i).flatMap (jT (r0::rr)))++(List.range j).map (gK (bX (r0::rr)) i)).map tupI) us)
   (λH4 s4=>⟨e5,us,rfl,s3.trans s4,s4 _ _ Ti,by simpa using Tj.same s4.hm⟩) ?_ ?_
  ·rintro j σ H4 hj ⟨e5,us,rfl,s4,Lf,rF4⟩
   obtain⟨c1,hc1,q1⟩:=Hl s4 i (by omega)
   obtain⟨c2,hc2,q2⟩:=Hl s4 (i+1) (by omega)
   have l1:=yQ Jj (y:=i) (by simp; omega)
   have l2:=yQ Jj (y:=i+1) (by simp; omega)
   have it:∀{σ:L2.St} {Hx:Hp} {tb tc:TE} {y x:Nat} {c:Addr},σ[2]?=some (some (V.ref S))->ah H4 Hx->ws[y]?=some (.ref c)->aE K H4 c (((bX (r0::rr)).getD y []).map V.int)->x < ((bX (r0::rr)).getD y []).length->(∀Hy,ah Hx Hy->Gv tb σ Hy (.int (y:Int)))->(∀Hy,ah Hx Hy->Gv tc σ Hy (.int (x:Int)))->
     Gv (cZ (qS K) (cZ (qS K) (eG 2) tb) tc) σ Hx (.int (((bX (r0::rr)).getD y []).getD x 0)):=λh2 sx hw hc hx hb Zy=>
    kD (K:=K) (kD (K:=K) (af h2) hb (aE.of ((s4.trans sx) _ _ rL)) (cu hw)) Zy (sx.seq hc) (M_ hx)
   have vy:∀{σ:L2.St} {Hx:Hp},σ[4]?=some (some (V.int (i:Int)))->∀Hy,ah Hx Hy->Gv (eG 4) σ Hy (.int (i:Int)):=λh _ _=>af h
   have vx:∀{σ:L2.St} {Hx:Hp},σ[5]?=some (some (V.int (j:Int)))->∀Hy,ah Hx Hy->Gv (eG 5) σ Hy (.int (j:Int)):=λh _ _=>af h
   have vy1:∀{σ:L2.St} {Hx:Hp},σ[4]?=some (some (V.int (i:Int)))->∀Hy,ah Hx Hy->Gv (cZ (qA λi j=>.int (i+j)) (eG 4) (tC (.int 1))) σ Hy (.int ((i+1:Nat):Int)):=λh _ _=>eF (bO (af h) λ_ _=>ay) rfl
   have vx1:∀{σ:L2.St} {Hx:Hp},σ[5]?=some (some (V.int (j:Int)))->∀Hy,ah Hx Hy->Gv (cZ (qA λi j=>.int (i+j)) (eG 5) (tC (.int 1))) σ Hy (.int ((j+1:Nat):Int)):=λh _ _=>eF (bO (af h) λ_ _=>ay) rfl
   refine⟨_,rfl,.inl ⟨rfl,_,aE.of Lf⟩,?_⟩
   refine M9 (ao (it (y:=i) (x:=j) rfl (ah.refl _) hc1 q1 (by omega) (vy rfl) (vx rfl)) λH5 s5=>ao (it (y:=i) (x:=j+1) rfl s5 hc1 q1 (by omega) (vy rfl) (vx1 rfl)) λH6 s6=>ao (it (y:=i+1) (x:=j) rfl (s5.trans s6) hc2 q2 (by omega) (vy1 rfl) (vx rfl)) λH7 s7=>az (it (y:=i+1) (x:=j+1) rfl (s5.trans (s6.trans s7)) hc2 q2 (by omega) (vy1 rfl) (vx1 rfl))) (by show 4<=sizeLine; decide) λH5 p s5 hp=>?_
   have sp:=ah.new hp (.tup [V.int (((bX (r0::rr)).getD i []).getD j 0),.int (((bX (r0::rr)).getD i []).getD (j+1) 0),.int (((bX (r0::rr)).getD (i+1) []).getD j 0),.int (((bX (r0::rr)).getD (i+1) []).getD (j+1) 0)])
   have Zz:=sp _ _ (s5 _ _ Lf)
   refine⟨F,us,_,rfl,rfl,Zz,?_,?_⟩
   ·rw[rF4.length]
    refine Nat.lt_of_le_of_lt (show _<=1000 from ?_) (by decide)
    have hfl:=yR (r0::rr) i
    simp only [List.length_map,List.length_append,List.length_range]
    have:i * (dN (r0::rr)+1)<=22 * 21:=Nat.mul_le_mul (by simp at hlen; omega) (by omega)
    omega
   ·refine⟨_,us++[.ref p],rfl,(s4.trans (s5.trans sp)).put hF _,au,?_⟩
    have ne:p≠F:=λz=>by rw[z,s5 _ _ Lf] at hp; cases hp
    have e:(((List.range i).flatMap (jT (r0::rr)))++(List.range (j+1)).map (gK (bX (r0::rr)) i)).map tupI=(((List.range i).flatMap (jT (r0::rr)))++(List.range j).map (gK (bX (r0::rr)) i)).map tupI++[tupI (gK (bX (r0::rr)) i j)]:=by
     simp [List.range_succ]
    rw[e]
    refine aD.snoc (mV.mpr ⟨p,rfl,aK.of ?_⟩) (rF4.same ((s5.trans sp).rX _))
    rw[oS ne,aG ne,au]
    rfl
  ·rintro σ H4 ⟨e5,us,rfl,s4,Lf,rF4⟩
   refine⟨_,_,us,rfl,s4,Lf,?_⟩
   rw[List.range_succ,List.flatMap_append]
   simpa [jT] using rF4
 ·rintro σ H3 ⟨e4,e5,us,rfl,s3,Ti,Tj⟩
  refine⟨_,rfl,kk F H3 us (s02.free hF) (s02.trans s3) Ti ?_⟩
  unfold ue
  exact Tj
end
end bJ
namespace bJ
open PySem PySem.Spec PyProof.Rows L2
def A0:List (List Int):=[[-1,-1,-1,0],[-1,-1,-1,1],[-1,-1,-1,2],[-1,-1,0,-1],[-1,-1,1,-1],[-1,-1,2,-1],[-1,0,-1,-1],[-1,1,-1,-1],[-1,2,-1,-1],[0,-1,-1,-1],[1,-1,-1,-1],[2,-1,-1,-1]]
def gg (t:List Int):Bool:=!A0.contains t
def sL (n:Nat)(t:List Int):Prop:=t.length=4/\∀f∈t,-1<=f/\f < n
structure Sys (m:Nat)(x:Str)(ts:List (List Int)):Prop where
 pos:1<=x.length
 most:x.length<=m
 ab:∀c∈x.cps.toList,c=97\/c=98
 ok:∀t∈ts,sL x.length t
 up:ts.Pairwise λa b=>HT.lexLt a b=true
 few:ts.countP gg<=39
structure Dm (n:Nat)(rows:List (List Int)):Prop where
 ne:rows≠[]
 high:rows.length<=3
 wide:1<=dN rows/\dN rows<=3
 Nc:∀r∈rows,r.length=dN rows
 V0:∀r∈rows,∀f∈r,0<=f/\f < n
theorem Lg (rows:List (List Int)):(bX rows).getD 0 []=p9 rows:=rfl
theorem EV (rows:List (List Int)){i:Nat}(h:i < rows.length):(bX rows).getD (i+1) []=[-1]++rows.getD i []++[-1]:=by
 unfold bX
 rw[List.getD_eq_getElem?_getD,List.getElem?_append_left (by simp; omega),List.getElem?_append_right (by simp)]
 simp [List.getD_eq_getElem?_getD,h]
theorem Ci (rows:List (List Int)):(bX rows).getD (rows.length+1) []=p9 rows:=by
 unfold bX
 rw[List.getD_eq_getElem?_getD,List.getElem?_append_right (by simp)]
 simp
theorem lI (rows:List (List Int)){x:Nat}(h:x < dN rows+2):(p9 rows).getD x 0=-1:=by
 unfold p9
 rw[List.getD_eq_getElem?_getD,List.getElem?_replicate,if_pos h]
 rfl
theorem OO (r:List Int):([-1]++r++[-1]:List Int).getD 0 0=-1:=rfl
theorem Ho (r:List Int){i:Nat}(h:i < r.length):([-1]++r++[-1]:List Int).getD (i+1) 0=r.getD i 0:=by
 rw[List.getD_eq_getElem?_getD,List.getElem?_append_left (by simp; omega),List.getElem?_append_right (by simp)]
 simp [List.getD_eq_getElem?_getD]
theorem Nd (r:List Int):([-1]++r++[-1]:List Int).getD (r.length+1) 0=-1:=by
 rw[List.getD_eq_getElem?_getD,List.getElem?_append_right (by simp)]
 simp
theorem getD_mem {α:Type}{l:List α}{i:Nat}{d:α}(h:i < l.length):l.getD i d∈l:=by
 rw[List.getD_eq_getElem?_getD,List.getElem?_eq_getElem h]
 exact List.getElem_mem h
section
variable {n:Nat}{rows:List (List Int)}
theorem QF (h:Dm n rows){y x:Nat}(hy:y < rows.length+2)(hx:x < dN rows+2):-1<=((bX rows).getD y []).getD x 0/\((bX rows).getD y []).getD x 0 < n:=by
 have hn:(0:Int)<=n:=by omega
 have hm:(bX rows).getD y []∈bX rows:=getD_mem (by rw[yO]; exact hy)
 have hl:=yQ h.Nc hy
 have hm2:((bX rows).getD y []).getD x 0∈(bX rows).getD y []:=getD_mem (by omega)
 generalize ((bX rows).getD y []).getD x 0=f at *
 generalize (bX rows).getD y []=z at *
 unfold bX p9 at hm
 simp only [List.mem_append,List.mem_singleton,List.mem_map] at hm
 rcases hm with (rfl | ⟨r,hr,rfl⟩) | rfl
 ·have:=List.eq_of_mem_replicate hm2; omega
 ·simp only [List.mem_append,List.mem_singleton] at hm2
  rcases hm2 with (e | e) | e
  ·omega
  ·have:=h.V0 r hr f e; omega
  ·omega
 ·have:=List.eq_of_mem_replicate hm2; omega
theorem QG (h:Dm n rows):∀t∈ue rows,sL n t:=by
 intro t ht
 unfold ue at ht
 obtain⟨y,hy,ht⟩:=List.mem_flatMap.mp ht
 obtain⟨x,hx,rfl⟩:=List.mem_map.mp ht
 have hy:=List.mem_range.mp hy
 have hx:=List.mem_range.mp hx
 refine⟨rfl,λf hf=>?_⟩
 unfold gK at hf
 simp only [List.mem_cons,List.not_mem_nil,or_false] at hf
 rcases hf with e | e | e | e <;> rw[e] <;> exact QF h (by omega) (by omega)
theorem three {a:Int}(h0:0<=a)(h1:a < n)(hn:n<=3):a=0\/a=1\/a=2:=by omega
theorem zY {α:Type}{p:α->Bool}{f:Nat->α}{w:Nat}(hw:1<=w)(h0:p (f 0)=false)(h1:p (f w)=false):((List.range (w+1)).map f).countP p<=w - 1:=by
 obtain⟨v,rfl⟩:∃v,w=v+1:=⟨w - 1,by omega⟩
 rw[List.range_succ,List.map_append,List.countP_append,List.range_succ_eq_map,List.map_cons,List.countP_cons]
 have:=List.countP_le_length (p:=p) (l:=(List.map Nat.succ (List.range v)).map f)
 simp only [List.length_map,List.length_range] at this
 simp [h0,h1]
 simp at this
 omega
theorem Jl {α:Type}{p:α->Bool}{g:Nat->List α}{h B0 B:Nat}(hh:1<=h)(c0:(g 0).countP p<=B0)(ch:(g h).countP p<=B0)(cm:∀y,(g y).countP p<=B):((List.range (h+1)).flatMap g).countP p<=2 * B0+(h - 1) * B:=by
 obtain⟨v,rfl⟩:∃v,h=v+1:=⟨h - 1,by omega⟩
 have mid:∀l:List Nat,(l.flatMap g).countP p<=l.length * B:=λl=>by
  induction l with
  | nil=>simp
  | cons y l ih=>
   rw[List.flatMap_cons,List.countP_append,List.length_cons,Nat.succ_mul]
   have:=cm y
   omega
 rw[List.range_succ,List.flatMap_append,List.countP_append,List.range_succ_eq_map,List.flatMap_cons,List.countP_append]
 have:=mid ((List.range v).map Nat.succ)
 simp only [List.length_map,List.length_range] at this
 simp only [List.flatMap_cons,List.flatMap_nil,List.append_nil,Nat.add_sub_cancel]
 omega
theorem Nf (hn:n<=3)(h:Dm n rows):(ue rows).countP gg<=12/\(ue rows).length<=16:=by
 obtain⟨r0,rr,rfl⟩:∃r0 rr,rows=r0::rr:=by
  cases rows with
  | nil=>exact absurd rfl h.ne
  | cons r0 rr=>exact⟨r0,rr,rfl⟩
 have hw:=h.wide
 have hh:=h.high
 generalize Vi:r0::rr=rows at *
 have hpos:1<=rows.length:=by rw[←Vi]; simp
 have inr:∀i,i < rows.length->(rows.getD i []).length=dN rows/\∀j,j < dN rows->0<=(rows.getD i []).getD j 0/\(rows.getD i []).getD j 0 < n:=λi hi=>by
  have hm:rows.getD i []∈rows:=getD_mem hi
  have hl:=h.Nc _ hm
  exact⟨hl,λj hj=>h.V0 _ hm _ (getD_mem (by omega))⟩
 obtain⟨l0,i0⟩:=inr 0 (by omega)
 obtain⟨l1,i1⟩:=inr (rows.length - 1) (by omega)
 have w1:dN rows=(dN rows - 1)+1:=by omega
 have e1:(bX rows).getD 1 []=[-1]++rows.getD 0 []++[-1]:=EV rows (i:=0) (by omega)
 have e2:(bX rows).getD rows.length []=[-1]++rows.getD (rows.length - 1) []++[-1]:=by
  have:=EV rows (i:=rows.length - 1) (by omega)
  rwa [show rows.length - 1+1=rows.length by omega] at this
 have first:∀r:List Int,r.length=dN rows->([-1]++r++[-1]:List Int).getD 1 0=r.getD 0 0/\([-1]++r++[-1]:List Int).getD (dN rows) 0=r.getD (dN rows - 1) 0/\([-1]++r++[-1]:List Int).getD (dN rows+1) 0=-1:=λr hr=>by
  refine⟨Ho r (i:=0) (by omega),?_,?_⟩
  ·have:=Ho r (i:=dN rows - 1) (by omega)
   rwa [show dN rows - 1+1=dN rows by omega] at this
  ·rw[←hr]; exact Nd r
 have ZA:gg (gK (bX rows) 0 0)=false:=by
  unfold gK
  rw[Lg,e1,lI rows (by omega),lI rows (by omega),OO,(first _ l0).1]
  rcases three (i0 0 (by omega)).1 (i0 0 (by omega)).2 hn with e | e | e <;> rw[e] <;> decide
 have ZC:gg (gK (bX rows) 0 (dN rows))=false:=by
  unfold gK
  rw[Lg,e1,lI rows (by omega),lI rows (by omega),(first _ l0).2.1,(first _ l0).2.2]
  rcases three (i0 (dN rows - 1) (by omega)).1 (i0 (dN rows - 1) (by omega)).2 hn with e | e | e <;> rw[e] <;> decide
 have ZD:gg (gK (bX rows) rows.length 0)=false:=by
  unfold gK
  rw[Ci,e2,lI rows (by omega),lI rows (by omega),OO,(first _ l1).1]
  rcases three (i1 0 (by omega)).1 (i1 0 (by omega)).2 hn with e | e | e <;> rw[e] <;> decide
 have ZE:gg (gK (bX rows) rows.length (dN rows))=false:=by
  unfold gK
  rw[Ci,e2,lI rows (by omega),lI rows (by omega),(first _ l1).2.1,(first _ l1).2.2]
  rcases three (i1 (dN rows - 1) (by omega)).1 (i1 (dN rows - 1) (by omega)).2 hn with e | e | e <;> rw[e] <;> decide
 constructor
 ·have:=Jl (p:=gg) (g:=jT rows) hpos (B0:=dN rows - 1) (B:=dN rows+1) (zY hw.1 ZA ZC) (zY hw.1 ZD ZE) λy=>by
   have:=List.countP_le_length (p:=gg) (l:=jT rows y)
   simpa [jT] using this
  have hm:(rows.length - 1) * (dN rows+1)<=2 * 4:=Nat.mul_le_mul (by omega) (by omega)
  unfold ue
  omega
 ·unfold ue
  rw[yR]
  exact Nat.mul_le_mul (show rows.length+1<=4 by omega) (show dN rows+1<=4 by omega)
end
end bJ
set_option maxHeartbeats 2000000
namespace bJ
open PySem PySem.Spec PyProof.Rows L2
abbrev uf (c:Nat):Str:=⟨#[c]⟩
theorem EW:∀cs:List Nat,((cs.map uf).map (·.length)).sum=cs.length
 | []=>rfl
 | c::cs=>by
  rw[List.map_cons,List.map_cons,List.sum_cons,EW cs,List.length_cons]
  show 1+_=_
  omega
theorem Cj:∀(cs:List Nat) (acc:Array Nat),((cs.map uf).foldl (λacc p=>acc++("":Str).cps++p.cps) acc).toList=acc.toList++cs
 | [],acc=>by simp
 | c::cs,acc=>by
  rw[List.map_cons,List.foldl_cons,Cj cs]
  show (acc++#[]++#[c]).toList++cs=_
  simp
theorem Ng (cs:List Nat):(Txt.join "" (cs.map uf)).cps.toList=cs:=by
 cases cs with
 | nil=>rfl
 | cons c cs=>
  show ((cs.map uf).foldl (λacc p=>acc++("":Str).cps++p.cps) (uf c).cps).toList=c::cs
  rw[Cj]
  rfl
section
variable {P:Program}{w:World}{K:PySem.W.Frag}{mg:Str->Option Value}{base:Heap}{t:Ad}
theorem Ck {α β:Type}(f:α->β):∀(l:List α) (i:Nat),(l.eraseIdx i).map f=(l.map f).eraseIdx i
 | [],i=>rfl
 | x::xs,0=>rfl
 | x::xs,i+1=>by
  show f x::(xs.eraseIdx i).map f=f x::(xs.map f).eraseIdx i
  rw[Ck f xs i]
theorem QH {te:TE}{σ:L2.St}{H:Hp}{r:List V->Hp->VK->Prop}{R:List V->Hp->Prop}(h:te σ H λx H1=>r [x] H1 λy H2=>R [y] H2):cE (rR r (cE te dc)) dc σ H R:=h
theorem Vj {te:TE}{σ:L2.St}{H:Hp}{v:V}{R:List V->Hp->Prop}(h:Gv te σ H v)(k:∀H1,ah H H1->R [v] H1):cE te dc σ H R:=(az h) _ k
structure TL (K:PySem.W.Frag)(n:Nat)(H0 H:Hp)(T:Addr)(ts:List (List Int))(us:List V)(b l:Nat):Prop where
 same:ah H0 H
 new:H0 T=none
 at_:H T=some (.lst us)
 reps:aD K (Hm T H) (ts.map tupI) us
 ok:∀t∈ts,sL n t
 cnt:ts.countP gg<=b
 len:ts.length<=l
theorem TL.more {n:Nat}{H0 H H':Hp}{T:Addr}{ts:List (List Int)}{us:List V}{b l:Nat}(h:TL K n H0 H T ts us b l)(s:ah H H'):TL K n H0 H' T ts us b l:=⟨h.same.trans s,h.new,s _ _ h.at_,h.reps.same s.hm,h.ok,h.cnt,h.len⟩
theorem TL.zZ {n:Nat}{H0 H:Hp}{T:Addr}{ts:List (List Int)}{us:List V}{b l:Nat}(h:TL K n H0 H T ts us b l):us.length=ts.length:=by rw[h.reps.length,List.length_map]
def Cm (K:PySem.W.Frag):Sp:=λvs H Q _=>∃(a:Addr) (ns:List Int) (k:Int) (m:Nat),vs=[.ref a,.int k,.int m]/\aE K H a (ns.map V.int)/\ns.length<=63/\1<=m/\m<=3/\
 ∀(r T:Addr) (H':Hp) (x:Str) (ts:List (List Int)) (ws:List V),H r=none->H T=none->ah H H'->H' r=some (.tup [.str x,.ref T])->H' T=some (.lst ws)->aD K H' (ts.map tupI) ws->Sys m x ts->Q (.ref r) H'
theorem jU {E:XK}{σ:L2.St}{H Hx:Hp}{tt:TA}{a:Addr}{ns:List Int}{k:Int}(hS:aE K H a (ns.map V.int))(hl:ns.length<=63)(sx:ah H Hx)(hg:Ga tt σ Hx [.ref a,.int k]):Gv (wY (zX K) [] E tt) σ Hx (.int (mix ns k)):=
 fh hg λH' R s kk=>⟨a,ns,_,rfl,(sx.trans s).seq hS,hl,kk⟩
theorem bV:aI ["_law_script","_law_k","_law_marks","_law_many","_law_letters","_law_tiles_here","_law_j","_law_high","_law_wide","_law_rows","_law_y","_law_number"] ["_law_script","_law_k","_law_marks"] (aC i6):=⟨rfl,rfl,rfl,by decide +kernel,rfl,by decide +kernel,by decide +kernel⟩
theorem A3 (T:Txt K mg t):aA P w K mg base aZ 4 t.oq t.i_ ["_law_script","_law_k","_law_marks"] (Cm K):=by
 have dz:aA P w K mg base aZ 2 t.oV t.j0 ["_law_script","_law_k"] (zX K):=xT T
 have EX:aA P w K mg base aZ 1 t.pT t.jO ["_law_rows"] (ET K):=CO T
 refine T._law_system.fn.ok bV (λvs H Q E h=>?_) (λcdv A outer s H vs Q E hr h=>?_)
 ·obtain⟨a,ns,k,m,rfl,_⟩:=h
  rfl
 obtain⟨a,ns,k,m,rfl,hS,hl,hm1,V1,kk⟩:=h
 refine⟨_,(aj (aP (i:=3) bV.nd rfl (by first | exact Or.inl rfl | exact Or.inr rfl) (aH bW aq (aH eO (aB T._law_mix dz (hr.mono (by first | decide | omega)) aQ (aa (pv 0) (aa (pv 1) ai))) (pv 2)))) (aj (aP (i:=4) bV.nd rfl (by first | exact Or.inl rfl | exact Or.inr rfl) (xN K PySem.F.plainAttrs_str PySem.F.slot_str_join PySem.F.type_str_join (Va K) cg (aa (cN (N':=["_law_j","_law_script","_law_k"]) (ix:=[none,some 0,some 1]) (aT (by kernel_rfl)) rfl (eL rfl T.fm (aa (pv 3) ai)) (λ_ _ _ _=>(aL (i:=0) (show List.Nodup (["_law_j","_law_script","_law_k"]:List Str) from by decide +kernel) rfl (by first | exact Or.inl rfl | exact Or.inr rfl))) (λ_ _ _ _=>fF) (λ_ _ _ _=>(bT RY cg (aH eO (aH rQ (aB T._law_mix dz (hr.mono (by first | decide | omega)) aQ (aa (pv 1) (aa (aH bW (aH bW (pv 2) aq) (pv 0)) ai))) aq) aq) (λ_ _=>rfl)))) ai))) (aj (aP (i:=5) bV.nd rfl (by first | exact Or.inl rfl | exact Or.inr rfl) (aY ai)) (aj (fC PassesOwn.never rfl (eL rfl T.fm (aa (aH bW aq (aH eO (aB T._law_mix dz (hr.mono (by first | decide | omega)) aQ (aa (pv 0) (aa (aH bW (pv 1) aq) ai))) aq)) ai)) (aL (i:=6) bV.nd rfl (by first | exact Or.inl rfl | exact Or.inr rfl)) (aj (aP (i:=7) bV.nd rfl (by first | exact Or.inl rfl | exact Or.inr rfl) (aH bW aq (aH eO (aB T._law_mix dz (hr.mono (by first | decide | omega)) aQ (aa (pv 0) (aa (aH bW (aH bW (pv 1) aq) (aH pA aq (pv 6))) ai))) aq))) (aj (aP (i:=8) bV.nd rfl (by first | exact Or.inl rfl | exact Or.inr rfl) (aH bW aq (aH eO (aB T._law_mix dz (hr.mono (by first | decide | omega)) aQ (aa (pv 0) (aa (aH bW (aH bW (pv 1) aq) (aH pA aq (pv 6))) ai))) aq))) (aj (aP (i:=9) bV.nd rfl (by first | exact Or.inl rfl | exact Or.inr rfl) (aY ai)) (aj (fC PassesOwn.never rfl (eL rfl T.fm (aa (pv 7) ai)) (aL (i:=10) bV.nd rfl (by first | exact Or.inl rfl | exact Or.inr rfl)) (av (aX (xN K PySem.F.plainAttrs_list PySem.F.slot_list_append PySem.F.type_list_append lE (pv 9) (aa (cN (N':=["_law_x","_law_script","_law_k","_law_j","_law_y","_law_many"]) (ix:=[none,some 0,some 1,some 6,some 10,some 3]) (aT (by kernel_rfl)) rfl (eL rfl T.fm (aa (pv 8) ai)) (λ_ _ _ _=>(aL (i:=0) (show List.Nodup (["_law_x","_law_script","_law_k","_law_j","_law_y","_law_many"]:List Str) from by decide +kernel) rfl (by first | exact Or.inl rfl | exact Or.inr rfl))) (λ_ _ _ _=>fF) (λ_ _ _ _=>(aH eO (aH rQ (aB T._law_mix dz (hr.mono (by first | decide | omega)) aQ (aa (pv 1) (aa (aH bW (aH bW (aH bW (aH bW (pv 2) aq) (aH pA aq (pv 3))) (aH pA aq (pv 4))) (pv 0)) ai))) aq) (pv 5)))) ai))))) (av (aP (i:=5) bV.nd rfl (by first | exact Or.inl rfl | exact Or.inr rfl) (aH pC (pv 5) (aB T._law_tiles EX (hr.mono (by first | decide | omega)) aQ (aa (pv 9) ai)))))))))) (aj (fC PassesOwn.never rfl (eL rfl T.fm (aa (aH eO (aB T._law_mix dz (hr.mono (by first | decide | omega)) aQ (aa (pv 0) (aa (aH bW (pv 1) aq) ai))) aq) ai)) (aL (i:=6) bV.nd rfl (by first | exact Or.inl rfl | exact Or.inr rfl)) (aj (aP (i:=11) bV.nd rfl (by first | exact Or.inl rfl | exact Or.inr rfl) (aB T._law_mix dz (hr.mono (by first | decide | omega)) aQ (aa (pv 0) (aa (aH bW (aH bW (pv 1) aq) (pv 6)) ai)))) (av (bY (PW.pt (Rz (bK gD (aH eO (pv 11) aq) aq (bN _)) (P8 (KI K (pv 5) (λ_=>rfl))))) (av (aX (xN K PySem.F.plainAttrs_list PySem.F.slot_list_pop PySem.F.type_list_pop MA (pv 5) (aa (aH eO (aH rQ (pv 11) aq) (bq (k_ K) (by rfl) T.iP boot_len (aa (pv 5) ai))) ai)))) (av (aX (xN K PySem.F.plainAttrs_list PySem.F.slot_list_append PySem.F.type_list_append lE (pv 5) (aa (lD (SR K) (by rfl) T.Hh boot_tuple (aa (cN (N':=["_law_i","_law_number","_law_many"]) (ix:=[none,some 11,some 3]) (aT (by kernel_rfl)) rfl (eL rfl T.fm (aa aq ai)) (λ_ _ _ _=>(aL (i:=0) (show List.Nodup (["_law_i","_law_number","_law_many"]:List Str) from by decide +kernel) rfl (by first | exact Or.inl rfl | exact Or.inr rfl))) (λ_ _ _ _=>fF) (λ_ _ _ _=>(aH nI (aH eO (aH rQ (pv 1) (bT (fu K) (aY (aa aq (aa aq (aa aq (aa aq ai))))) (pv 0) (λ_ _=>rfl))) (aH bW (pv 2) aq)) aq))) ai)) ai)))))))) (av (aO (dO (aa (pv 4) (aa (bq (Qs K P w) (by rfl) T.EM boot_sorted (aa (lD (Xr K P w hr.units) (by rfl) T.Ve boot_set (aa (pv 5) ai)) ai)) ai)))))))))),?_⟩
 have hm0:=ES ns k
 obtain⟨n,hn⟩:∃n:Nat,1+mix ns k % (m:Int)=(n:Int):=⟨(1+mix ns k % (m:Int)).toNat,by
  have:=Int.emod_nonneg (mix ns k) (show (m:Int)≠0 by omega)
  omega⟩
 have hn1:1<=n:=by
  have:=Int.emod_nonneg (mix ns k) (show (m:Int)≠0 by omega)
  omega
 have hnm:n<=m:=by
  have:=Int.emod_lt_of_pos (mix ns k) (show (0:Int) < m by omega)
  omega
 refine gE (eF (bO ay λH1 s1=>bS (jU hS hl s1 (ao (af (by rfl)) λ_ _=>az (af (by rfl)))) (λ_ _=>af (by rfl)) (by show (0:Int) < m; omega)) (y:=.int (n:Int)) (congrArg V.int hn)) λH1 s1=>?_
 refine bh ⟨rfl,?_⟩
 refine vI (az (af (by rfl))) (by omega) (by omega) λH2 s2=>?_
 have s02:=s1.trans s2
 refine fP (λj=>.str (uf (if mix ns (k+1+(0+(j:Int))) / 4 % 2=0 then 97 else 98))) (small (by omega)) (λj H3 R hj s3 k3=>?_) λD H3 hD s3 bC=>?_
 ·have VU:=ES ns (k+1+(0+(j:Int)))
  refine nu (SE ay (λH4 s4=>bS (bS (jU hS hl (s02.trans (s3.trans s4)) (ao (af (by rfl)) λ_ _=>az (bO (bO (af (by rfl)) λ_ _=>ay) λ_ _=>af (by rfl)))) (λ_ _=>ay) ⟨by decide,by decide⟩) (λ_ _=>ay) (by decide)) (by show 2<=sizeLine; decide) ?_) λH4 s4=>k3 H4 s4
  generalize mix ns (k+1+(0+(j:Int))) / 4=z
  rcases (show z % 2=0\/z % 2=1 by omega) with e | e <;> rw[e] <;> rfl
 generalize hcs:(List.range (n:Int).toNat).map (λ(j:Nat)=>(if mix ns (k+1+(0+(j:Int))) / 4 % 2=0 then 97 else 98:Nat))=cs
 have EY:H3 D=some (.lst ((cs.map uf).map V.str)):=by
  rw[bC,←hcs,List.map_map,List.map_map]
  rfl
 have hcl:cs.length=n:=by rw[←hcs]; simp
 have hcab:∀c∈cs,c=97\/c=98:=λc hc=>by
  rw[←hcs] at hc
  obtain⟨j,_,rfl⟩:=List.mem_map.mp hc
  split
  ·exact .inl rfl
  ·exact .inr rfl
 refine⟨"",D,cs.map uf,rfl,rfl,aE.of EY,by rw[EW,List.length_map]; show cs.length+cs.length * 0<=16777216; omega,?_⟩
 have hxc:=Ng cs
 generalize Txt.join "" (cs.map uf)=x at *
 have EU:x.length=n:=by
  show x.cps.size=n
  have:=congrArg List.length hxc
  simpa [hcl] using this
 have s03:=s02.trans s3
 refine bh ⟨(by show 0<=sizeLine; decide),λT0 Tn=>?_⟩
 have Nh:∀z:Int,∃c:Nat,1+z % 3=(c:Int)/\1<=c/\c<=3:=λz=>⟨(1+z % 3).toNat,by omega,by omega,by omega⟩
 obtain⟨c1,hc1,acJ,acK⟩:=Nh (mix ns (k+6))
 have hsT:ah H (upd H3 T0 (.lst [])):=s03.trans (ah.new Tn _)
 refine sJ (n:=c1) (az (eF (bO ay λH4 s4=>bS (jU hS hl (hsT.trans s4) (ao (af (by rfl)) λ_ _=>az (bO (af (by rfl)) λ_ _=>ay))) (λ_ _=>ay) (by decide)) (congrArg V.int hc1))) (by omega)
  (λi σ H4=>∃(T1:Addr) (us:List V) (ts:List (List Int)) (e6 e7 e8 e9 e10 uz:Option V),σ=[some (.ref a),some (.int k),some (.int m),some (.int n),some (.str x),some (.ref T1),e6,e7,e8,e9,e10,uz]/\TL K n H3 H4 T1 ts us (12 * i) (16 * i))
  (λH4 s4=>⟨T0,[],[],none,none,none,none,none,none,rfl,(ah.new Tn _).trans s4,Tn,s4 _ _ au,by show aD K _ [] []; unfold aD; rfl,λt ht=>(by cases ht),Nat.le_refl _,Nat.le_refl _⟩) ?_ ?_
 ·rintro i σ H4 hi ⟨T1,us,ts,e6,e7,e8,e9,e10,uz,rfl,L4⟩
  have h04:=s03.trans L4.same
  obtain⟨hg,ZF,hg1,hg3⟩:=Nh (mix ns (k+7+30 * (i:Int)))
  obtain⟨wd,ZG,wd1,wd3⟩:=Nh (mix ns (k+8+30 * (i:Int)))
  refine gE (eF (bO ay λH5 s5=>bS (jU hS hl (h04.trans s5) (ao (af (by rfl)) λ_ _=>az (bO (bO (af (by rfl)) λ_ _=>ay) λ_ _=>bS ay (λ_ _=>af (by rfl)) (.inl ⟨by decide,by decide⟩)))) (λ_ _=>ay) (by decide)) (y:=.int (hg:Int)) (congrArg V.int ZF)) λH5 s5=>?_
  refine gE (eF (bO ay λH6 s6=>bS (jU hS hl (h04.trans (s5.trans s6)) (ao (af (by rfl)) λ_ _=>az (bO (bO (af (by rfl)) λ_ _=>ay) λ_ _=>bS ay (λ_ _=>af (by rfl)) (.inl ⟨by decide,by decide⟩)))) (λ_ _=>ay) (by decide)) (y:=.int (wd:Int)) (congrArg V.int ZG)) λH6 s6=>?_
  have L6:=L4.more (s5.trans s6)
  have h06:=s03.trans L6.same
  refine bh ⟨(by show 0<=sizeLine; decide),λR hR=>?_⟩
  refine sJ (n:=hg) (az (af (by rfl))) (by omega)
   (λy σ H7=>∃(rws:List (List Int)) (vs:List V) (e10:Option V),σ=[some (.ref a),some (.int k),some (.int m),some (.int n),some (.str x),some (.ref T1),some (.int (i:Int)),some (.int (hg:Int)),some (.int (wd:Int)),some (.ref R),e10,uz]/\ah H6 H7/\H7 R=some (.lst vs)/\aD K (Hm R H7) (rws.map jw) vs/\rws.length=y/\∀r∈rws,r.length=wd/\∀f∈r,0<=f/\f < n)
   (λH7 s7=>⟨[],[],_,rfl,(ah.new hR _).trans s7,s7 _ _ au,by show aD K _ [] []; unfold aD; rfl,rfl,λr hr=>(by cases hr)⟩) ?_ ?_
  ·rintro y σ H7 hy ⟨rws,vs,e10,rfl,s7,Lh,rR7,hrl,hrw⟩
   refine⟨_,rfl,.inl ⟨rfl,_,aE.of Lh⟩,?_⟩
   refine vI (az (af (by rfl))) (by omega) (by omega) λH8 s8=>?_
   refine fP (λj=>.int (mix ns (k+9+30 * (i:Int)+3 * (y:Int)+(0+(j:Int))) / 8 % n)) (small (by omega)) (λj H9 R' hj s9 k9=>?_) λD' H9 OP s9 EY=>?_
   ·exact nu (bS (bS (jU hS hl (h06.trans (s7.trans (s8.trans s9))) (ao (af (by rfl)) λ_ _=>az (bO (bO (bO (bO (af (by rfl)) λ_ _=>ay) λ_ _=>bS ay (λ_ _=>af (by rfl)) (.inl ⟨by decide,by decide⟩)) λ_ _=>bS ay (λ_ _=>af (by rfl)) (.inl ⟨by decide,by decide⟩)) λ_ _=>af (by rfl)))) (λ_ _=>ay) ⟨by decide,by decide⟩) (λ_ _=>af (by rfl)) (by show (0:Int) < n; omega)) λH10 gY=>k9 H10 gY
   generalize Ni:(List.range (wd:Int).toNat).map (λ(j:Nat)=>mix ns (k+9+30 * (i:Int)+3 * (y:Int)+(0+(j:Int))) / 8 % (n:Int))=row
   have ZH:H9 D'=some (.lst (row.map V.int)):=by rw[EY,←Ni,List.map_map]; rfl
   have Vk:row.length=wd:=by rw[←Ni]; simp
   have Vl:∀f∈row,0<=f/\f < n:=λf hf=>by
    rw[←Ni] at hf
    obtain⟨j,_,rfl⟩:=List.mem_map.mp hf
    exact⟨Int.emod_nonneg _ (by omega),Int.emod_lt_of_pos _ (by omega)⟩
   have s79:=s8.trans s9
   have ne:D'≠R:=λz=>by rw[z] at OP; rw[s8 _ _ Lh] at OP; cases OP
   refine⟨R,vs,_,rfl,rfl,s79 _ _ Lh,?_,rws++[row],vs++[.ref D'],_,rfl,(s7.trans s79).put hR _,au,?_,by simp [hrl],λr hr=>?_⟩
   ·rw[rR7.length,List.length_map]
    exact Nat.lt_of_le_of_lt (show rws.length<=1000 by omega) (by decide)
   ·rw[List.map_append]
    refine aD.snoc (mW.mpr ⟨D',rfl,aE.of ?_⟩) (rR7.same (s79.rX _))
    rw[oS ne,aG ne]
    exact ZH
   ·rcases List.mem_append.mp hr with z | z
    ·exact hrw r z
    ·rw[List.mem_singleton.mp z]; exact⟨Vk,Vl⟩
  ·rintro σ H7 ⟨rws,vs,e10,rfl,s7,Lh,rR7,hrl,hrw⟩
   have hne:rws≠[]:=λz=>by rw[z] at hrl; simp at hrl; omega
   have Na:dN rws=wd:=by
    cases rws with
    | nil=>exact absurd rfl hne
    | cons r0 rr=>exact (hrw r0 List.mem_cons_self).1
   have To:Dm n rws:=⟨hne,by omega,by omega,λr hr=>by rw[Na]; exact (hrw r hr).1,λr hr=>(hrw r hr).2⟩
   have L7:=L6.more s7
   refine⟨_,rfl,bB (az (af (by rfl))) λH8 s8=>⟨R,rws,rfl,?_,hne,To.Nc,by omega,by omega,λF H9 ws hF s9 OQ rF=>?_⟩⟩
   ·unfold Rep
    exact⟨R,vs,rfl,aE.of (s8 _ _ Lh),rR7.same (pH.trans s8)⟩
   ·have L9:=L7.more (s8.trans s9)
    obtain⟨g1,g2⟩:=Nf (by omega) To
    refine⟨T1,F,us,ws,rfl,rfl,L9.at_,OQ,?_,λq hq=>?_⟩
    ·rw[L9.zZ,rF.length,List.length_map]
     have:=L9.len
     exact small (by omega)
    ·have sq:ah H9 (Hm q (upd H9 q (.lst (us++ws)))):=(ah.new hq _).into hq
     refine⟨q,us++ws,ts++ue rws,_,_,_,_,_,_,rfl,L9.same.trans (ah.new hq _),L9.same.free hq,au,?_,λt' ht=>?_,?_,?_⟩
     ·rw[List.map_append]
      exact aD.append (L9.reps.same (pH.trans sq)) (rF.same (pH.trans sq))
     ·rcases List.mem_append.mp ht with z | z
      ·exact L9.ok t' z
      ·exact QG To t' z
     ·rw[List.countP_append]
      have:=L9.cnt
      omega
     ·rw[List.length_append]
      have:=L9.len
      omega
 ·rintro σ H4 ⟨T1,us,ts,e6,e7,e8,e9,e10,uz,rfl,L4⟩
  have h04:=s03.trans L4.same
  obtain⟨c2,hc2,acL⟩:∃c:Nat,mix ns (k+100) % 4=(c:Int)/\c<=3:=⟨(mix ns (k+100) % 4).toNat,by omega,by omega⟩
  refine sJ (n:=c2) (az (eF (bS (jU hS hl h04 (ao (af (by rfl)) λ_ _=>az (bO (af (by rfl)) λ_ _=>ay))) (λ_ _=>ay) (by decide)) (congrArg V.int hc2))) (by omega)
   (λj σ H5=>∃(us:List V) (ts:List (List Int)) (e6 e7 e8 e9 e10 uz:Option V),σ=[some (.ref a),some (.int k),some (.int m),some (.int n),some (.str x),some (.ref T1),e6,e7,e8,e9,e10,uz]/\TL K n H3 H5 T1 ts us (36+j) (48+j))
   (λH5 s5=>⟨us,ts,_,_,_,_,_,_,rfl,by
    have L5:=L4.more s5
    have h1:=L5.cnt
    have h2:=L5.len
    exact⟨L5.same,L5.new,L5.at_,L5.reps,L5.ok,by omega,by omega⟩⟩) ?_ ?_
  ·rintro j σ H5 hj ⟨us,ts,e6,e7,e8,e9,e10,uz,rfl,L5⟩
   have h05:=s03.trans L5.same
   refine gE (jU hS hl h05 (ao (af (by rfl)) λ_ _=>az (bO (bO (af (by rfl)) λ_ _=>ay) λ_ _=>af (by rfl)))) λH6 s6=>?_
   have hz0:=ES ns (k+101+(j:Int))
   generalize mix ns (k+101+(j:Int))=z at *
   have L6:=L5.more s6
   refine g_ (SD (cz (ku (bS (af (by rfl)) (λ_ _=>ay) (by decide)) (λ_ _=>ay) (by rfl))) λ_ H7 s7=>Cg (K:=K) (af (by rfl)) (aE.of (s7 _ _ L6.at_))) (λc H7 s7=>?_) λc H7 s7=>?_
   ·have L7:=L6.more s7
    have hne:us≠[]:=λe=>by rw[e] at c; simp at c
    have hpos:0 < us.length:=List.length_pos_iff.mpr hne
    have hm1:=Int.emod_nonneg (z / 4) (show (us.length:Int)≠0 by omega)
    have hm2:=Int.emod_lt_of_pos (z / 4) (show (0:Int) < us.length by omega)
    obtain⟨q,hq⟩:∃q:Nat,z / 4 % (us.length:Int)=(q:Int):=⟨(z / 4 % (us.length:Int)).toNat,by omega⟩
    have V2:q < us.length:=by omega
    refine⟨_,rfl,.inl ⟨rfl,_,aE.of L7.at_⟩,?_⟩
    refine Vj (v:=.int (q:Int)) (eF (bS (bS (af (by rfl)) (λ_ _=>ay) ⟨by decide,by decide⟩) (λH8 s8=>mT (K:=K) (az (af (by rfl))) (aE.of (s8 _ _ L7.at_))) (by show (0:Int) < us.length; omega)) (congrArg V.int hq)) λH8 s8=>?_
    have L8:=L7.more s8
    have hus:=L8.zZ
    have hlen:=L8.len
    refine⟨T1,us,(q:Int),q,us[q],rfl,rfl,L8.at_,by omega,by omega,?_,List.getElem?_eq_getElem V2,us.eraseIdx q,ts.eraseIdx q,_,_,_,_,_,_,rfl,L8.same.put L8.new _,L8.new,au,?_,λt' ht=>L8.ok t' (List.mem_of_mem_eraseIdx ht),?_,?_⟩
    ·have:=seqIndex_of (show (0:Int)<=(q:Int) by omega) (show (q:Int) < (us.length:Int) by omega)
     simpa using this
    ·rw[Ck]
     exact (L8.reps.erase q).same ((ah.refl H8).rX _)
    ·have:=(List.eraseIdx_sublist ts q).countP_le (p:=gg)
     have:=L8.cnt
     omega
    ·have:=List.length_eraseIdx_le ts q
     omega
   ·have L7:=L6.more s7
    have Tp:(0:Int) < (n:Int)+1:=by omega
    refine⟨_,rfl,.inl ⟨rfl,_,aE.of L7.at_⟩,?_⟩
    refine QH ?_
    refine vI (jj:=4) (az ay) (by decide) (by decide) λH8 s8=>?_
    refine fP (λi=>.int (z / (([4,64,1024,16384]:List Int).getD i 1) % ((n:Int)+1) - 1)) (small (by decide)) (λi H9 R9 ZI s9 k9=>?_) λD' H9 OP s9 EY=>?_
    ·have OR:i < 4:=ZI
     have V3:lM [V.int 4,.int 64,.int 1024,.int 16384] (0+(i:Int))=some (.int (([4,64,1024,16384]:List Int).getD i 1))/\0 < ([4,64,1024,16384]:List Int).getD i 1/\([4,64,1024,16384]:List Int).getD i 1 < 1073741824:=by
      rw[Int.zero_add]
      rcases (show i=0\/i=1\/i=2\/i=3 by omega) with rfl | rfl | rfl | rfl
      ·exact⟨rfl,by decide,by decide⟩
      ·exact⟨rfl,by decide,by decide⟩
      ·exact⟨rfl,by decide,by decide⟩
      ·exact⟨rfl,by decide,by decide⟩
     exact nu (bO (bS (bS (af (by rfl)) (λ_ _=>En (K:=K) (dg (ao ay λ_ _=>ao ay λ_ _=>ao ay λ_ _=>az ay) (by show 4<=sizeLine; decide)) (λ_ _=>af (by rfl)) V3.1) V3.2) (λ_ _=>bO (af (by rfl)) λ_ _=>ay) Tp) λ_ _=>ay) λH10 gY=>k9 H10 gY
    generalize Tq:(List.range (4:Int).toNat).map (λ(i:Nat)=>z / (([4,64,1024,16384]:List Int).getD i 1) % ((n:Int)+1) - 1)=tl
    have hDt:H9 D'=some (.lst (tl.map V.int)):=by rw[EY,←Tq,List.map_map]; rfl
    have tok:sL n tl:=by
     refine⟨by rw[←Tq]; rfl,λf hf=>?_⟩
     rw[←Tq] at hf
     obtain⟨i,_,rfl⟩:=List.mem_map.mp hf
     have h1:=Int.emod_nonneg (z / (([4,64,1024,16384]:List Int).getD i 1)) (show (n:Int)+1≠0 by omega)
     have h2:=Int.emod_lt_of_pos (z / (([4,64,1024,16384]:List Int).getD i 1)) Tp
     constructor <;> omega
    refine⟨D',_,rfl,.inl ⟨aE.of hDt,λp hp=>?_⟩⟩
    have s79:=s8.trans s9
    have L9:=L7.more (s79.trans (ah.new hp (.tup (tl.map V.int))))
    have ne:p≠T1:=λe=>by rw[e,s79 _ _ L7.at_] at hp; cases hp
    refine⟨T1,us,_,rfl,rfl,L9.at_,?_,us++[.ref p],ts++[tl],_,_,_,_,_,_,rfl,L9.same.put L9.new _,L9.new,au,?_,λt' ht=>?_,?_,?_⟩
    ·rw[L9.zZ]
     have:=L9.len
     exact Nat.lt_of_le_of_lt (show ts.length<=1000 by omega) (by decide)
    ·rw[List.map_append]
     refine aD.snoc (mV.mpr ⟨p,rfl,aK.of ?_⟩) (L9.reps.same ((ah.refl _).rX _))
     rw[oS ne,aG ne,au]
    ·rcases List.mem_append.mp ht with y | y
     ·exact L9.ok t' y
     ·rw[List.mem_singleton.mp y]; exact tok
    ·rw[List.countP_append]
     have:=L9.cnt
     have:=List.countP_le_length (p:=gg) (l:=[tl])
     simp only [List.length_singleton] at this
     omega
    ·rw[List.length_append,List.length_singleton]
     have:=L9.len
     omega
  ·rintro σ H5 ⟨us,ts,e6,e7,e8,e9,e10,uz,rfl,L5⟩
   have h05:=s03.trans L5.same
   obtain⟨ps,hps,Jm,hps3⟩:=vM L5.reps
   subst hps
   have hpl:ps.length<=51:=by
    have h1:=L5.zZ
    have h2:=L5.len
    rw[List.length_map] at h1
    omega
   have few:TB.DC ps 51:=λl nd hk=>by
    have:=TB.gB (l2:=ps.map (·.2)) nd λy hy=>by
     obtain⟨p,hp,e⟩:=hk y hy
     exact List.mem_map.mpr ⟨p,hp,e⟩
    rw[List.length_map] at this
    omega
   have ht5:∀p∈ps,aK K H5 p.1 (p.2.map V.int):=λp hp=>pH.tup (hps3 p hp)
   have okp:∀p∈ps,sL n p.2:=λp hp=>L5.ok p.2 (by rw[←Jm]; exact List.mem_map.mpr ⟨p,hp,rfl⟩)
   refine⟨_,rfl,_,rfl,T1,ps,rfl,aE.of L5.at_,ht5,λl nd hk=>Nat.le_trans (few l nd hk) (by decide),λS qs ZJ m1 m2 nd=>?_⟩
   have sS:=ah.new ZJ (AR P w S qs)
   have V2:qs.length<=51:=few.ps nd m1
   refine⟨S,qs,rfl,au,λp hp=>sS.tup (ht5 p (m1 p hp)),λp hp=>?_,by omega,λl rs V4 pm pw=>⟨(by show 2<=sizeLine; decide),λr V5=>?_⟩⟩
   ·have:=(okp p (m1 p hp)).1
    intro e
    rw[e] at this
    cases this
   ·have sl:=ah.new V4 (.lst (rs.map rv))
    have sr:=ah.new V5 (.tup [V.str x,.ref l])
    have all:=h05.trans (sS.trans (sl.trans sr))
    have mem:∀p∈rs,p∈ps:=λp hp=>m1 p (pm.mem_iff.mp hp)
    refine kk r l _ x (rs.map (·.2)) (rs.map rv) ((h05.trans (sS.trans sl)).free V5) ((h05.trans sS).free V4) all au (sr _ _ au) (vN rs λp hp=>(sS.trans (sl.trans sr)).tup (ht5 p (mem p hp))) ⟨by omega,by omega,λc hc=>hcab c (by rw[←hxc]; exact hc),λt' ht=>?_,List.pairwise_map.mpr pw,?_⟩
    ·obtain⟨p,hp,rfl⟩:=List.mem_map.mp ht
     rw[EU]
     exact okp p (mem p hp)
    ·have h1:(ts.countP gg)<=36+c2:=L5.cnt
     have ZK:(rs.map (·.2)).Nodup:=(pm.map _).nodup_iff.mpr nd
     rw[List.countP_eq_length_filter] at h1 ⊢
     have:=TB.gB (l1:=(rs.map (·.2)).filter gg) (l2:=ts.filter gg) (show (List.filter gg (rs.map (·.2))).Nodup from List.Pairwise.filter _ ZK) λy hy=>by
      obtain⟨hy1,Rj⟩:=List.mem_filter.mp hy
      obtain⟨p,hp,rfl⟩:=List.mem_map.mp hy1
      exact List.mem_filter.mpr ⟨by rw[←Jm]; exact List.mem_map.mpr ⟨p,mem p hp,rfl⟩,Rj⟩
     omega
end
end bJ
set_option maxHeartbeats 1000000
namespace bJ
open PySem PySem.Spec PyProof.Rows L2
abbrev Xy:Str:="abcd"
def OS (c:Nat):Bool:=decide (c∈Xy.cps.toList)
def e_ (x:Str):Bool:=x.cps.toList.all OS
def m_:Sp:=λvs H Q _=>∃x:Str,vs=[.str x]/\x.length<=60/\∀H',ah H H'->Q (.bl (e_ x)) H'
theorem map_getD (x:Str):(List.range x.cps.size).map (λi=>x.cps.getD i 0)=x.cps.toList:=by
 refine List.ext_getElem (by simp) λi h1 h2=>?_
 simp at h1
 simp [Array.getD,h1]
section
variable {P:Program}{w:World}{K:PySem.W.Frag}{mg:Str->Option Value}{base:Heap}{t:Ad}
theorem A4:aI ["text"] ["text"] (aC iU):=⟨rfl,rfl,rfl,by decide +kernel,rfl,by decide +kernel,by decide +kernel⟩
theorem sM (T:Txt K mg t):aA P w K mg base aZ 1 t.kW t.gx ["text"] m_:=by
 refine T.q_.fn.ok A4 (λvs H Q E h=>?_) (λcdv A outer s H vs Q E hr h=>?_)
 ·obtain⟨x,rfl,_⟩:=h
  rfl
 obtain⟨x,rfl,hl,k⟩:=h
 refine⟨_,(av (aO (bq (Em K) (by rfl) T.zW boot_all (aa (cN (N':=["sign"]) (ix:=[none]) (aT (by kernel_rfl)) rfl (KA (pv 0)) (λ_ _ _ _=>(aL (i:=0) (show List.Nodup (["sign"]:List Str) from by decide +kernel) rfl (by first | exact Or.inl rfl | exact Or.inr rfl))) (λ_ _ _ _=>fF) (λ_ _ _ _=>(oZ BP (pv 0) (dF rfl T.vU T.vV) rfl))) ai)))),?_⟩
 refine⟨_,rfl,x,rfl,?_⟩
 refine Ei (λi=>.bl (OS (x.cps.getD i 0))) (small (by show x.length<=1000; omega)) (λi H6 R hi sm kk=>?_) λD H6 hD sm bC=>?_
 ·refine⟨_,rfl,_,_,rfl,rfl,?_⟩
  rw[StrLaws.found_one]
  exact kk _ (ah.refl _)
 ·refine⟨D,(List.range x.cps.size).map (λi=>OS (x.cps.getD i 0)),rfl,aE.of (by rw[bC,List.map_map]; rfl),?_⟩
  have e:(((List.range x.cps.size).map (λi=>OS (x.cps.getD i 0))).all λb=>b)=e_ x:=by
   unfold e_
   rw[←map_getD x,List.all_map,List.all_map]
   rfl
  rw[e]
  exact k _ sm
def Sm (p:List Str):Prop:=p.length<=30/\∀r∈p,r.length<=40
def ug (p:List Str):Nat:=(p.headD ⟨#[]⟩).length
def Dp (n:Nat)(r:Str):Bool:=decide (V.int r.length=V.int n)&&e_ r
def iQ (p:List Str):Bool:=(decide ((1:Int)<=p.length)&&decide ((p.length:Int)<=4))&&((decide ((1:Int)<=ug p)&&decide ((ug p:Int)<=12))&&p.all (Dp (ug p)))
def uD (K:PySem.W.Frag):Sp:=λvs H Q _=>∃(a:Addr) (p:List Str),vs=[.ref a]/\aE K H a (p.map V.str)/\Sm p/\∀H',ah H H'->Q (.bl (iQ p)) H'
theorem QI {p:List Str}{i:Nat}{x:V}(h:(p.map V.str)[i]?=some x):∃r,x=.str r/\r∈p/\p[i]?=some r:=by
 rw[List.getElem?_map] at h
 cases e:p[i]? with
 | none=>rw[e] at h; cases h
 | some r=>rw[e] at h; exact⟨r,(Option.some.inj h).symm,List.mem_of_getElem? e,rfl⟩
def V6 (f:Str->V):V->V
 | .str r=>f r
 | v=>v
theorem QJ (f:Str->V)(p:List Str):(p.map V.str).map (V6 f)=p.map f:=by rw[List.map_map]; rfl
theorem uE:aI ["rows","wide"] ["rows"] (aC jy):=⟨rfl,rfl,rfl,by decide +kernel,rfl,by decide +kernel,by decide +kernel⟩
theorem CP (T:Txt K mg t):aA P w K mg base aZ 2 t.pM t.jI ["rows"] (uD K):=by
 have ow:aA P w K mg base aZ 1 t.kW t.gx ["text"] m_:=sM T
 refine T.zQ.fn.ok uE (λvs H Q E h=>?_) (λcdv A outer s H vs Q E hr h=>?_)
 ·obtain⟨a,p,rfl,_⟩:=h
  rfl
 obtain⟨a,p,rfl,hq,hs,k⟩:=h
 have hlen:∀H',ah H H'->vt K (.ref a) H' p.length:=λH' s=>.inl ⟨_,s.seq hq,by simp⟩
 refine⟨_,(aj (bY (pq (yq tM tM aq (bq (k_ K) (by rfl) T.iP boot_len (aa (pv 0) ai)) (dF rfl T.xR T.xS))) (av (aO nj)) bF) (aj (aP (i:=1) uE.nd rfl (by first | exact Or.inl rfl | exact Or.inr rfl) (bq (k_ K) (by rfl) T.iP boot_len (aa (bT (fu K) (pv 0) aq (λ_ _=>rfl)) ai))) (aj (bY (pq (yq tM tM aq (pv 1) (dF rfl T.AY T.AZ))) (av (aO nj)) bF) (av (aO (bq (Em K) (by rfl) T.zW boot_all (aa (cN (N':=["row","wide"]) (ix:=[none,some 1]) (aT (by kernel_rfl)) rfl (jv K (pv 0)) (λ_ _ _ _=>(aL (i:=0) (show List.Nodup (["row","wide"]:List Str) from by decide +kernel) rfl (by first | exact Or.inl rfl | exact Or.inr rfl))) (λ_ _ _ _=>fF) (λ_ _ _ _=>(DL (oZ gD (bq (k_ K) (by rfl) T.iP boot_len (aa (pv 0) ai)) (pv 1) (bN _)) (DK (aB T.q_ ow (hr.mono (by first | decide | omega)) aQ (aa (pv 0) ai)))))) ai))))))),?_⟩
 refine gZ (g_ (pD (cz (tP ay (λH1 s1=>zH (az (af (by rfl))) λH2 s2=>hlen H2 (s1.trans s2)) λH1 s1=>ay))) (λc H1 s1=>?_) λc H1 s1=>GZ ?_)
 ·have e:iQ p=false:=by
   unfold iQ
   rw[Bool.not_eq_true'] at c
   rw[c,Bool.false_and]
  have:=k H1 s1
  rw[e] at this
  exact this
 have c':(decide ((1:Int)<=p.length)&&decide ((p.length:Int)<=4))=true:=by simpa using c
 cases p with
 | nil=>simp at c'
 | cons r0 rs=>
  have hr0:r0.length<=40:=hs.2 r0 List.mem_cons_self
  refine gZ (zI (rW (az (kD (af (by rfl)) (λ_ _=>ay) (s1.seq hq) (MO _ _))) (small (by omega))) λH2 s2=>?_)
  refine gZ (g_ (pD (cz (tP ay (λH3 s3=>af (by rfl)) λH3 s3=>ay))) (λc2 H3 s3=>?_) λc2 H3 s3=>GZ ?_)
  ·have e:iQ (r0::rs)=false:=by
    unfold iQ
    rw[Bool.not_eq_true'] at c2
    have c3:(decide ((1:Int)<=ug (r0::rs))&&decide ((ug (r0::rs):Int)<=12))=false:=c2
    rw[c3,Bool.false_and,Bool.and_false]
   have:=k H3 ((s1.trans s2).trans s3)
   rw[e] at this
   exact this
  have s13:=(s1.trans s2).trans s3
  have ZL:(decide ((1:Int)<=ug (r0::rs))&&decide ((ug (r0::rs):Int)<=12))=true:=by
   have z:(decide ((1:Int)<=r0.length)&&decide ((r0.length:Int)<=12))=true:=by simpa using c2
   exact z
  refine⟨_,rfl,a,rfl,⟨_,s13.seq hq⟩,?_⟩
  refine CI (V6 λr=>.bl (Dp r0.length r)) (s13.seq hq) (small (by have:=hs.1; simp at this ⊢; omega)) (λi x H4 R hx s4 kk=>?_) λD H4 hD s4 bC=>?_
  ·obtain⟨r,rfl,hr',_⟩:=QI hx
   have hrl:=hs.2 r hr'
   refine nu (Ej (ku (rW (az (af (by rfl))) (small (by omega))) (λH5 s5=>af (by rfl)) (by rfl)) (λ_ H5 s5=>fh (az (af (by rfl))) λH6 R' s6 Hq=>⟨r,rfl,by omega,Hq⟩)) λH5 s5=>?_
   exact kk H5 s5
  ·refine⟨D,(r0::rs).map (Dp r0.length),rfl,aE.of (by rw[bC,QJ,List.map_map]; rfl),?_⟩
   have e:(((r0::rs).map (Dp r0.length)).all λb=>b)=iQ (r0::rs):=by
    unfold iQ
    rw[c',ZL,Bool.true_and,Bool.true_and,List.all_map]
    rfl
   rw[e]
   exact k _ (s13.trans s4)
def A5 (K:PySem.W.Frag)(C:Addr):Sp:=λvs H Q E=>∃(a:Addr) (p:List Str),vs=[.ref a]/\aE K H a (p.map V.str)/\Sm p/\(iQ p=true->∀H',ah H H'->Q .aR H')/\(iQ p=false->∀H',ah H H'->E (.ref C) none H')
theorem z0:aI ["picture"] ["picture"] (aC ia):=⟨rfl,rfl,rfl,by decide +kernel,rfl,by decide +kernel,by decide +kernel⟩
theorem qG (T:Txt K mg t):aA P w K mg base (bR P w) 3 t.jZ t.fQ ["picture"] (A5 K t.aU):=by
 have EZ:aA P w K mg base aZ 2 t.pM t.jI ["rows"] (uD K):=CP T
 refine T.pX.fn.jg z0 (λvs H Q E h=>?_) (λcdv A outer s H vs Q E hr h=>?_)
 ·obtain⟨a,p,rfl,_⟩:=h
  rfl
 obtain⟨a,p,rfl,hq,hs,k1,k2⟩:=h
 refine⟨_,(av (bY (pq (zh (aB T.zQ EZ (hr.mono (by first | decide | omega)) aQ (aa (pv 0) ai)))) (av (yD bz rfl rfl rfl rfl T.EK rfl (aa cg ai))) bF)),?_⟩
 refine g_ (pD (lP (fh (az (af (by rfl))) λH1 R s1 kk=>⟨a,p,rfl,s1.seq hq,hs,kk⟩))) (λc H1 s1=>?_) λc H1 s1=>?_
 ·exact⟨(by show 1<=sizeLine; decide),k2 (by simpa using c) H1 s1⟩
 ·exact k1 (by simpa using c) H1 s1
theorem CQ {ix:List (Option Nat)}{te:TE}{σ:L2.St}{H1:Hp}{Q:Addr->Hp->Prop}{a:Addr}{xs:List V}{i₀:Nat}(f:Nat->V)(hq:aE K H1 a xs)(hz:xs.length<=sizeLine)
  (hs:∀(i:Nat) (x:V) (H:Hp) (R:VK),xs[i]?=some x->ah H1 H->(∀H6,ah H H6->R (f i) H6)->te ((dM ix σ).set i₀ (some x)) H R)
  (hd:∀D H,H1 D=none->ah H1 H->H D=some (.lst ((List.range xs.length).map f))->Q D H):ee (rO K a) ix (fc i₀) yz te σ H1 Q:=by
 refine vG hq hz (λi ys _=>ys=(List.range i).map f) (λD hD=>by simp) (λD i x ys H R1 R0 hD hx sm bC p k1 k0=>?_) λD ys H hD sm bC hl p=>?_
 ·show te ((dM ix σ).set i₀ (some x)) H R1
  exact hs i x H R1 hx sm λH6 s6=>k1 _ _ s6 (by rw[List.range_succ,List.map_append,p]; rfl)
 ·refine hd D H hD sm ?_
  rw[bC,p]
def iR (n:Nat)(t:List Int):Bool:=decide (t.length=4)&&t.all λf=>decide (-1<=f)&&decide (f < n)
def V7 (f:Int->V):V->V
 | .int r=>f r
 | v=>v
theorem QK (f:Int->V)(p:List Int):(p.map V.int).map (V7 f)=p.map f:=by rw[List.map_map]; rfl
theorem QL {p:List Int}{i:Nat}{x:V}(h:(p.map V.int)[i]?=some x):∃r,x=.int r/\r∈p/\p[i]?=some r:=by
 rw[List.getElem?_map] at h
 cases e:p[i]? with
 | none=>rw[e] at h; cases h
 | some r=>rw[e] at h; exact⟨r,(Option.some.inj h).symm,List.mem_of_getElem? e,rfl⟩
def uF (K:PySem.W.Frag):Sp:=λvs H Q _=>∃(a:Addr) (tl:List Int) (n:Nat),vs=[.ref a,.int 4,.int n]/\aK K H a (tl.map V.int)/\tl.length<=30/\∀H',ah H H'->Q (.bl (iR n tl)) H'
theorem CS:aI ["fields","many","marks"] ["fields","many","marks"] (aC jA):=⟨rfl,rfl,rfl,by decide +kernel,rfl,by decide +kernel,by decide +kernel⟩
theorem CT (T:Txt K mg t):aA P w K mg base aZ 1 t.pN t.jJ ["fields","many","marks"] (uF K):=by
 refine T.zR.fn.ok CS (λvs H Q E h=>?_) (λcdv A outer s H vs Q E hr h=>?_)
 ·obtain⟨a,tl,n,rfl,_⟩:=h
  rfl
 obtain⟨a,tl,n,rfl,hq,hl,k⟩:=h
 refine⟨_,(av (aO (DL (oZ gD (bq (k_ K) (by rfl) T.iP boot_len (aa (pv 0) ai)) (pv 1) (bN _)) (DK (bq (Em K) (by rfl) T.zW boot_all (aa (cN (N':=["field","marks"]) (ix:=[none,some 2]) (aT (by kernel_rfl)) rfl (w6 K (pv 0)) (λ_ _ _ _=>(aL (i:=0) (show List.Nodup (["field","marks"]:List Str) from by decide +kernel) rfl (by first | exact Or.inl rfl | exact Or.inr rfl))) (λ_ _ _ _=>fF) (λ_ _ _ _=>(Mn tM Oz (dF rfl T.t7 T.t8) (pv 0) (pv 1)))) ai)))))),?_⟩
 refine cK (eF (Ej (q:=tl.all λf=>decide (-1<=f)&&decide (f < n)) (ku (G3 (K:=K) (az (af (by rfl))) hq) (λ_ _=>af (by rfl)) (by rfl)) λ_ H1 s1=>(λR r=>?_)) (y:=.bl (iR n tl)) ?_) λH1 s1=>k H1 s1
 ·refine AQ (KN (K:=K) (af (by rfl)) (s1.tup hq) λH2 s2 hq2=>?_)
  refine pI (V7 λf=>.bl (decide (-1<=f)&&decide (f < n))) hq2 (small (by rw[List.length_map]; omega)) (λi x H4 R4 hx s4 k4=>?_) λD H4 hD s4 bC=>?_
  ·obtain⟨f,rfl,_,_⟩:=QL hx
   exact nu (tP ay (λ_ _=>af (by rfl)) λ_ _=>af (by rfl)) λH5 s5=>k4 H5 s5
  ·refine⟨D,tl.map λ(f:Int)=>decide (-1<=f)&&decide (f < (n:Int)),rfl,aE.of (by rw[bC,QK,List.map_map]; rfl),?_⟩
   rw[List.all_map]
   exact r _ (s2.trans s4)
 ·unfold iR
  rw[List.length_map]
  congr 2
  simp
  omega
def nE:List (List Int)->Bool
 | a::b::r=>HT.lexLt a b&&nE (b::r)
 | _=>true
theorem z5:∀ts:List (List Int),((List.range (ts.length - 1)).all λi=>HT.lexLt (ts.getD i []) (ts.getD (i+1) []))=nE ts
 | []=>rfl
 | [a]=>rfl
 | a::b::r=>by
  have ih:=z5 (b::r)
  show ((List.range (r.length+1)).all _)=(HT.lexLt a b&&nE (b::r))
  rw[List.range_succ_eq_map,List.all_cons,List.all_map,←ih]
  rfl
def E1 (K:PySem.W.Frag):Sp:=λvs H Q _=>∃(a:Addr) (ts:List (List Int)),vs=[.ref a]/\Rep K H (.lst (ts.map tupI)) (.ref a)/\ts.length<=900/\∀H',ah H H'->Q (.bl (nE ts)) H'
theorem E2 {K:PySem.W.Frag}{H:Hp}{ds:List Dt}{a:Addr}(h:Rep K H (.lst ds) (.ref a)):∃xs,aE K H a xs/\aD K H ds xs:=by
 unfold Rep at h
 obtain⟨a',xs,e,q,r⟩:=h
 cases e
 exact⟨xs,q,r⟩
theorem Nj:aI ["tiles"] ["tiles"] (aC rZ):=⟨rfl,rfl,rfl,by decide +kernel,rfl,by decide +kernel,by decide +kernel⟩
theorem Nk (T:Txt K mg t):aA P w K mg base aZ 1 t.AV t.r9 ["tiles"] (E1 K):=by
 refine T.OL.fn.ok Nj (λvs H Q E h=>?_) (λcdv A outer s H vs Q E hr h=>?_)
 ·obtain⟨a,ts,rfl,_⟩:=h
  rfl
 obtain⟨a,ts,rfl,hrep,hl,k⟩:=h
 obtain⟨xs,hq,hr0⟩:=E2 hrep
 have EU:xs.length=ts.length:=by rw[hr0.length,List.length_map]
 have at_:∀i,i < ts.length->∃c,xs[i]?=some (.ref c)/\aK K H c ((ts.getD i []).map V.int):=λi hi=>by
  obtain⟨v,hv,hr⟩:=hr0.get i (tupI (ts.getD i [])) (by rw[List.getElem?_map,List.getD_eq_getElem?_getD,List.getElem?_eq_getElem hi]; rfl)
  obtain⟨c,rfl,hc⟩:=mV.mp hr
  exact⟨c,hv,hc⟩
 refine⟨_,(av (aO (bq (Em K) (by rfl) T.zW boot_all (aa (cN (N':=["place","tiles"]) (ix:=[none,some 0]) (aT (by kernel_rfl)) rfl (vo rfl T.fm (aa aq (aa (bq (k_ K) (by rfl) T.iP boot_len (aa (pv 0) ai)) ai))) (λ_ _ _ _=>(aL (i:=0) (show List.Nodup (["place","tiles"]:List Str) from by decide +kernel) rfl (by first | exact Or.inl rfl | exact Or.inr rfl))) (λ_ _ _ _=>fF) (λ_ _ _ _=>(oZ (Xv K hr.units) (bT (fu K) (pv 1) (aH nI (pv 0) aq) (λ_ _=>rfl)) (bT (fu K) (pv 1) (pv 0) (λ_ _=>rfl)) (bN _)))) ai)))),?_⟩
 refine cI (AQ (Qu (i:=1) (j:=(ts.length:Int)) (ao ay λH1 s1=>az (eF (mT (K:=K) (az (af (by rfl))) (s1.seq hq)) (by rw[EU]))) ⟨by decide,by decide,by omega,by omega⟩ λH1 s1=>?_))
 have hn:((ts.length:Int) - 1).toNat=ts.length - 1:=by omega
 rw[hn]
 refine fP (λi=>.bl (HT.lexLt (ts.getD i []) (ts.getD (i+1) []))) (small (by omega)) (λi H2 R hi s2 k2=>?_) λD H2 hD s2 bC=>?_
 ·obtain⟨c,hc,qc⟩:=at_ i (by omega)
  obtain⟨d,hd,qd⟩:=at_ (i+1) (by omega)
  have s12:=s1.trans s2
  refine nu (SS (K:=K) (kD (K:=K) (af (by rfl)) (λ_ _=>eF (bO (af (by rfl)) λ_ _=>ay) (y:=.int (i:Int)) (by congr 1; omega)) (s12.seq hq) (cu hc)) (λH3 s3=>kD (K:=K) (af (by rfl)) (λ_ _=>eF (af (by rfl)) (y:=.int ((i+1:Nat):Int)) (by congr 1; omega)) ((s12.trans s3).seq hq) (cu hd)) (s12.tup qc) (s12.tup qd)) λH3 s3=>k2 H3 s3
 ·refine⟨D,(List.range (ts.length - 1)).map λi=>HT.lexLt (ts.getD i []) (ts.getD (i+1) []),rfl,aE.of (by rw[bC,List.map_map]; rfl),?_⟩
  rw[List.all_map,show (List.range (ts.length - 1)).all ((λb=>b) ∘ λi=>HT.lexLt (ts.getD i []) (ts.getD (i+1) []))=nE ts from z5 ts]
  exact k _ (s1.trans s2)
def b9 (x:Str)(ts:List (List Int)):Bool:=(decide (x.length<=16)&&e_ x)&&(ts.all (iR x.length)&&nE ts)
def j7 (K:PySem.W.Frag)(H:Hp)(a:Addr)(x:Str)(ts:List (List Int)):Prop:=∃T,aK K H a [.str x,.ref T]/\Rep K H (.lst (ts.map tupI)) (.ref T)
theorem j7.same {K:PySem.W.Frag}{H H':Hp}{a:Addr}{x:Str}{ts:List (List Int)}(h:j7 K H a x ts)(s:ah H H'):j7 K H' a x ts:=by
 obtain⟨T,h1,h2⟩:=h
 exact⟨T,s.tup h1,h2.same s⟩
structure p_ (x:Str)(ts:List (List Int)):Prop where
 short:x.length<=60
 few:ts.length<=900
 small:∀t∈ts,t.length<=30
def v7 (K:PySem.W.Frag):Sp:=λvs H Q _=>∃(a:Addr) (x:Str) (ts:List (List Int)),vs=[.ref a]/\j7 K H a x ts/\p_ x ts/\∀H',ah H H'->Q (.bl (b9 x ts)) H'
theorem qe:aI ["system","letters","tiles"] ["system"] (aC kF):=⟨rfl,rfl,rfl,by decide +kernel,rfl,by decide +kernel,by decide +kernel⟩
theorem E3 (T:Txt K mg t):aA P w K mg base aZ 2 t.qV t.kL ["system"] (v7 K):=by
 have ow:aA P w K mg base aZ 1 t.kW t.gx ["text"] m_:=sM T
 have E4:aA P w K mg base aZ 1 t.pN t.jJ ["fields","many","marks"] (uF K):=CT T
 have QM:aA P w K mg base aZ 1 t.AV t.r9 ["tiles"] (E1 K):=Nk T
 refine T.Cd.fn.ok qe (λvs H Q E h=>?_) (λcdv A outer s H vs Q E hr h=>?_)
 ·obtain⟨a,x,ts,rfl,_⟩:=h
  rfl
 obtain⟨a,x,ts,rfl,⟨L,hT,hrep⟩,hM,k⟩:=h
 have hsx:=hM.short
 have ZM:=hM.few
 refine⟨_,(aj (bY (bK II (bq (k_ K) (by rfl) T.iP boot_len (aa (pv 0) ai)) aq (bN _)) (av (aO nj)) bF) (aj (aP (i:=1) qe.nd rfl (by first | exact Or.inl rfl | exact Or.inr rfl) (bT (pF K) (pv 0) aq (λ_ _=>rfl))) (aj (aP (i:=2) qe.nd rfl (by first | exact Or.inl rfl | exact Or.inr rfl) (bT (pF K) (pv 0) aq (λ_ _=>rfl))) (aj (bY (PW.pt (Oq (bK U4 (bq (k_ K) (by rfl) T.iP boot_len (aa (pv 1) ai)) (dF rfl T.EF T.EG) (bN _)) (J0 (pq (zh (aB T.q_ ow (hr.mono (by first | decide | omega)) aQ (aa (pv 1) ai))))))) (av (aO nj)) bF) (av (aO (DL (bq (Em K) (by rfl) T.zW boot_all (aa (cN (N':=["tile","letters"]) (ix:=[none,some 1]) (aT (by kernel_rfl)) rfl (jv K (pv 2)) (λ_ _ _ _=>(aL (i:=0) (show List.Nodup (["tile","letters"]:List Str) from by decide +kernel) rfl (by first | exact Or.inl rfl | exact Or.inr rfl))) (λ_ _ _ _=>fF) (λ_ _ _ _=>(aB T.zR E4 (hr.mono (by first | decide | omega)) aQ (aa (pv 0) (aa (dF rfl T.CL T.CM) (aa (bq (k_ K) (by rfl) T.iP boot_len (aa (pv 1) ai)) ai)))))) ai)) (DK (aB T.OL QM (hr.mono (by first | decide | omega)) aQ (aa (pv 2) ai)))))))))),?_⟩
 refine gq (b:=false) (gS (cz (Ek (G3 (K:=K) (az (af (by rfl))) hT) (λ_ _=>ay) (by rfl))) (by rfl)) (λc=>absurd c (by decide)) λc H1 s1=>?_
 refine gE (jx (K:=K) (af (by rfl)) (λ_ _=>ay) (s1.tup hT) (cu (j:=0) rfl)) λH2 s2=>?_
 refine gE (jx (K:=K) (af (by rfl)) (λ_ _=>ay) ((s1.trans s2).tup hT) (cu (j:=1) rfl)) λH3 s3=>?_
 have s03:=s1.trans (s2.trans s3)
 refine gq (b:=!(decide (x.length<=16)&&e_ x)) (gS (OC (cz (bO (rW (K:=K) (az (af (by rfl))) (small (by omega))) λ_ _=>ay)) λ_ H4 s4=>pD (lP (fh (az (af (by rfl))) λH5 R' s5 k5=>⟨x,rfl,by omega,k5⟩))) ?_) (λc H4 s4=>?_) λc H4 s4=>?_
 ·rw[Bool.not_and]
  congr 1
  by_cases c:x.length<=16
  ·rw[decide_eq_true c,decide_eq_false (by omega)]; rfl
  ·rw[decide_eq_false c,decide_eq_true (by omega)]; rfl
 ·have e:b9 x ts=false:=by
   unfold b9
   rw[Bool.not_eq_true'] at c
   rw[c,Bool.false_and]
  have:=k H4 (s03.trans s4)
  rw[e] at this
  exact this
 have c':(decide (x.length<=16)&&e_ x)=true:=by simpa using c
 have s04:=s03.trans s4
 have OT:=hrep.same s04
 obtain⟨xs,hq,hr0⟩:=E2 OT
 have EU:xs.length=ts.length:=by rw[hr0.length,List.length_map]
 refine cK (v:=.bl (b9 x ts)) (eF (Ej (p:=ts.all (iR x.length)) (q:=nE ts) (λR r=>?_) λ_ H5 s5=>fh (az (af (by rfl))) λH6 R' s6 k6=>⟨L,ts,rfl,OT.same (s5.trans s6),ZM,k6⟩) (by unfold b9; rw[c',Bool.true_and])) λH5 s5=>k H5 (s04.trans s5)
 refine AQ (zJ (K:=K) (af (by rfl)) hq λH5 s5 ZN=>?_)
 refine CQ (λi=>.bl (iR x.length (ts.getD i []))) ZN (small (by omega)) (λi v H6 R6 hv s6 k6=>?_) λD H6 hD s6 bC=>?_
 ·have hi:i < ts.length:=by have:=(List.getElem?_eq_some_iff.mp hv).1; omega
  obtain⟨v',hv',hr⟩:=hr0.get i (tupI (ts.getD i [])) (by rw[List.getElem?_map,List.getD_eq_getElem?_getD,List.getElem?_eq_getElem hi]; rfl)
  rw[hv] at hv'
  cases hv'
  obtain⟨c,rfl,hc⟩:=mV.mp hr
  have hm:ts.getD i []∈ts:=getD_mem hi
  exact nu (fh (ao (af (by rfl)) λ_ _=>ao ay λ_ _=>az (rW (K:=K) (az (af (by rfl))) (small (by omega)))) λH7 R7 s7 k7=>⟨c,ts.getD i [],x.length,rfl,(s5.trans (s6.trans s7)).tup hc,hM.small _ hm,k7⟩) λH7 s7=>k6 H7 s7
 ·refine⟨D,(List.range xs.length).map λi=>iR x.length (ts.getD i []),rfl,aE.of (by rw[bC,List.map_map]; rfl),?_⟩
  have e:(((List.range xs.length).map λi=>iR x.length (ts.getD i [])).all λb=>b)=ts.all (iR x.length):=by
   rw[EU]
   have:(List.range ts.length).map (λi=>ts.getD i [])=ts:=by
    refine List.ext_getElem (by simp) λi h1 h2=>?_
    simp [h2]
   conv=>rhs; rw[←this]
   rw[List.all_map,List.all_map]
   rfl
  rw[e]
  exact r _ (s5.trans s6)
def gh (K:PySem.W.Frag)(C:Addr):Sp:=λvs H Q E=>∃(a:Addr) (x:Str) (ts:List (List Int)),vs=[.ref a]/\j7 K H a x ts/\p_ x ts/\(b9 x ts=true->∀H',ah H H'->Q .aR H')/\(b9 x ts=false->∀H',ah H H'->E (.ref C) none H')
theorem A6:aI ["system"] ["system"] (aC iV):=⟨rfl,rfl,rfl,by decide +kernel,rfl,by decide +kernel,by decide +kernel⟩
theorem cJ (T:Txt K mg t):aA P w K mg base (bR P w) 3 t.b_ t.bL ["system"] (gh K t.aM):=by
 have Gj:aA P w K mg base aZ 2 t.qV t.kL ["system"] (v7 K):=E3 T
 refine T.cC.fn.jg A6 (λvs H Q E h=>?_) (λcdv A outer s H vs Q E hr h=>?_)
 ·obtain⟨a,x,ts,rfl,_⟩:=h
  rfl
 obtain⟨a,x,ts,rfl,hA,hM,k1,k2⟩:=h
 refine⟨_,(av (bY (pq (zh (aB T.Cd Gj (hr.mono (by first | decide | omega)) aQ (aa (pv 0) ai)))) (av (yD bz rfl rfl rfl rfl T.Gf rfl (aa cg ai))) bF)),?_⟩
 refine g_ (pD (lP (fh (az (af (by rfl))) λH1 R s1 kk=>⟨a,x,ts,rfl,hA.same s1,hM,kk⟩))) (λc H1 s1=>?_) λc H1 s1=>?_
 ·exact⟨(by show 1<=sizeLine; decide),k2 (by simpa using c) H1 s1⟩
 ·exact k1 (by simpa using c) H1 s1
end
end bJ
namespace L2
open PySem PySem.Spec PyProof.Rows
section
variable {K:PySem.W.Frag}{ix:List (Option Nat)}{te:TE}{g:TG}{tf:TT}{σ:St}{H1:Hp}{Q:Addr->Hp->Prop}
def V8 (g:TG)(tf:TT)(te:TE)(σ:St)(x:V)(H:Hp)(R:VK)(R0:Hp->Prop):Prop:=g x σ H fun σ4 H4=>tf σ4 H4 λb H5=>if b=true then te σ4 H5 R else R0 H5
theorem Jo {a:Addr}{xs:List V}(hz:xs.length < sizeLine)(Pv:Addr->Nat->List V->Hp->Prop)(hq:∀D i ys H,Pv D i ys H->aE K H a xs/\ys.length<=i)(h0:∀D,H1 D=none->Pv D 0 [] (upd H1 D (.lst [])))
  (hs:∀D i ys H x (R:VK) (R0:Hp->Prop),H1 D=none->Pv D i ys H->H D=some (.lst ys)->xs[i]?=some x->(∀v H6,H6 D=some (.lst ys)->Pv D (i+1) (ys++[v]) (upd H6 D (.lst (ys++[v])))->R v H6)->
   (∀H5,H5 D=some (.lst ys)->Pv D (i+1) ys H5->R0 H5)->V8 g tf te (dM ix σ) x H R R0)
  (hd:∀D ys H,H1 D=none->Pv D xs.length ys H->H D=some (.lst ys)->Q D H):ee (rO K a) ix g tf te σ H1 Q:=by
 intro D hD
 refine⟨λi m ys H=>m=xs.length - i/\i<=xs.length/\Pv D i ys H,⟨xs.length,by simp,Nat.zero_le _,h0 D hD⟩,?_⟩
 rintro i m ys H ⟨rfl,hi,p⟩ bC
 obtain⟨sq,yl⟩:=hq D i ys H p
 by_cases hlt:i < xs.length
 ·have hx:xs[i]?=some xs[i]:=List.getElem?_eq_getElem hlt
  refine .inr ⟨⟨xs,xs[i],sq,hx⟩,λv H3 y=>?_⟩
  obtain⟨rfl,y2⟩:=y
  exact hs D i ys _ v _ _ hD p bC (y2 xs sq) (λv H6 e q=>⟨e,by omega,xs.length - (i+1),by omega,rfl,hlt,q⟩) λH5 e q=>⟨e,xs.length - (i+1),by omega,rfl,hlt,q⟩
 ·have e:i=xs.length:=by omega
  subst e
  exact .inl ⟨⟨xs,sq,Nat.le_refl _⟩,hd D ys H hD p bC⟩
theorem Li {a:Addr}{xs:List V}(hz:xs.length < sizeLine)(Pv:Addr->Nat->List V->Hp->Prop)(hq:∀D i ys H,Pv D i ys H->aK K H a xs/\ys.length<=i)(h0:∀D,H1 D=none->Pv D 0 [] (upd H1 D (.lst [])))
  (hs:∀D i ys H x (R:VK) (R0:Hp->Prop),H1 D=none->Pv D i ys H->H D=some (.lst ys)->xs[i]?=some x->(∀v H6,H6 D=some (.lst ys)->Pv D (i+1) (ys++[v]) (upd H6 D (.lst (ys++[v])))->R v H6)->
   (∀H5,H5 D=some (.lst ys)->Pv D (i+1) ys H5->R0 H5)->V8 g tf te (dM ix σ) x H R R0)
  (hd:∀D ys H,H1 D=none->Pv D xs.length ys H->H D=some (.lst ys)->Q D H):ee (zl K a) ix g tf te σ H1 Q:=by
 intro D hD
 refine⟨λi m ys H=>m=xs.length - i/\i<=xs.length/\Pv D i ys H,⟨xs.length,by simp,Nat.zero_le _,h0 D hD⟩,?_⟩
 rintro i m ys H ⟨rfl,hi,p⟩ bC
 obtain⟨sq,yl⟩:=hq D i ys H p
 by_cases hlt:i < xs.length
 ·have hx:xs[i]?=some xs[i]:=List.getElem?_eq_getElem hlt
  refine .inr ⟨⟨xs,xs[i],sq,hx⟩,λv H3 y=>?_⟩
  obtain⟨rfl,y2⟩:=y
  exact hs D i ys _ v _ _ hD p bC (y2 xs sq) (λv H6 e q=>⟨e,by omega,xs.length - (i+1),by omega,rfl,hlt,q⟩) λH5 e q=>⟨e,xs.length - (i+1),by omega,rfl,hlt,q⟩
 ·have e:i=xs.length:=by omega
  subst e
  exact .inl ⟨⟨xs,sq,Nat.le_refl _⟩,hd D ys H hD p bC⟩
end
end L2
namespace L2
open PySem PySem.Spec PyProof.Rows
structure iS (h:Heap)(d:Addr)(es:Array DictEntry)(ep:Nat):Prop where
 lo:(d == sysModules)=false
 ob:∃o,h.get? d=some o/\o.ExactDict/\o.data=.dict es ep
theorem iS.at {h h':Heap}{d:Addr}{es:Array DictEntry}{ep:Nat}(x:iS h d es ep)(k:∀o,h.get? d=some o->h'.get? d=some o):iS h' d es ep:=⟨x.lo,x.ob.imp λ_ z=>⟨k _ z.1,z.2⟩⟩
theorem iS.typeIs {s:Shared}{d:Addr}{es:Array DictEntry}{ep:Nat}(x:iS s.heap d es ep):s.TypeIs (.ref d) "dict":=by
 obtain⟨o,ho,hc,_⟩:=x.ob
 exact⟨o,ho,hc.1⟩
section
variable {P:Program}{w:World}{A:Around}{E:Value->Shared->Prop}{s:Shared}{d it:Addr}{es:Array DictEntry}{ep i:Nat}
theorem Nl {Q:Value->Shared->Prop}(x:iS s.heap d es ep)(q:Q (.ref s.heap.objs.size) { s with heap:=s.heap.push { cls:=.type "dict_keyiterator",data:=.fields #[.ref d,.int 0 0,.int es.size 0,.int ep 0] } }):wpAny (model P w) A (pyIter (.ref d)) Q E s:=by
 have tI:=x.typeIs
 obtain⟨o,ho,hc,hdat⟩:=x.ob
 refine wpAny_pyIter_slot tI F.slot_dict_iter (wpAny_call_entry F.slot_dict_iter tI F.entry_dict_iter ?_ (F.args_dict_iter_1 _))
 unfold Builtin.«dict.__iter__»
 refine wpAny_bind ?_
 unfold Builtin.Dict.dictSlotNone
 refine wpAny_bind (wpAny_notOrdered_dict tI ?_)
 show wpAny _ _ (pure (Value.ref d)) _ _ s
 refine wpAny_pure ?_
 show wpAny _ _ (Builtin.Dict.showsAll d >>= _) _ _ s
 unfold Builtin.Dict.showsAll
 rw[if_neg (by rw[x.lo]; exact Bool.false_ne_true)]
 refine wpAny_bind (wpAny_pure (wpAny_bind (wpAny_dictEntries ho hdat (wpAny_bind (wpAny_dictEpoch ho hdat ?_)))))
 exact wpAny_bind (wpAny_newObj_type (wpAny_pure ⟨_,rfl,"dict_keyiterator",_,⟨_,Heap.get?_push_size _ rfl,rfl⟩,F.slot_dict_keyiterator_next.lookup,by simpa [rawInt] using q⟩))
theorem Lj {Q:Option Value->Shared->Prop}(x:iS s.heap d es ep)(k:s.heap.IsKeyIter it d i es.size ep)(hi:i < es.size)(q:∀h',h'.IsKeyIter it d (i+1) es.size ep->Heap.SameBut it s.heap h'->Q (some es[i].key) { s with heap:=h' }):wpAny (model P w) A (pyNext (.ref it)) Q E s:=by
 have tI:=k.typeIs
 obtain⟨oi,uG,Hr,hdi⟩:=id k
 obtain⟨o,ho,hc,hdat⟩:=x.ob
 unfold pyNext
 refine wpAny_bind (wpAny_attempt (wpAny_callSpecial?_slot (name:=Str.ofString "__next__") tI F.slot_dict_keyiterator_next (wpAny_call_entry F.slot_dict_keyiterator_next tI F.entry_dict_keyiterator_next ?_ (F.args_dict_keyiterator_next_1 _))))
 refine wpAny_bind (wpAny_pure (wpAny_bind (wpAny_bind ?_)))
 first | refine wpAny_bind (wpAny_typeNameOfWhole_keyiter tI (wpAny_pure (wpAny_bind (wpAny_fieldsOf uG hdi ?_)))) | refine wpAny_bind (wpAny_typeNameOf_keyiter tI (wpAny_pure (wpAny_bind (wpAny_fieldsOf uG hdi ?_))))
 simp only [show Builtin.Dict_items.ownsTuple "dict_keyiterator"=false from by decide,Bool.false_eq_true,if_false]
 show wpAny _ _ (if (Value.ref d == Value.none)=true then _ else _) _ _ s
 rw[if_neg (show ¬ (Value.ref d == Value.none)=true from λz=>Bool.false_ne_true z)]
 refine wpAny_bind (wpAny_pure (wpAny_bind (wpAny_dictEntries ho hdat ?_)))
 rw[if_neg (by simp)]
 refine wpAny_bind (wpAny_pure (wpAny_bind (wpAny_dictEpoch ho hdat ?_)))
 rw[if_neg (by simp)]
 refine wpAny_pure ?_
 simp only [show ¬ ((i:Int) < 0) from by omega,if_false,Int.toNat_natCast,Array.getElem?_eq_getElem hi]
 refine wpAny_bind ?_
 first | refine wpAny_bind (wpAny_typeNameOfWhole_keyiter tI (wpAny_pure (wpAny_bind (wpAny_isOneOf_keyiter tI ?_)))) | refine wpAny_bind (wpAny_typeNameOf_keyiter tI (wpAny_pure (wpAny_bind (wpAny_isOneOf_keyiter tI ?_))))
 show wpAny _ _ (setField (.ref it) 1 (rawInt ((i:Int)+1)) >>= _) _ _ s
 refine wpAny_bind (wpAny_setField uG hdi (by simp) ?_)
 have k':(s.heap.update it (Obj.mapFields (·.setIfInBounds 1 (rawInt ((i:Int)+1))))).IsKeyIter it d (i+1) es.size ep:=⟨_,Heap.get?_update_self _ uG (Obj.isFreed_of_fields (Obj.data_mapFields hdi _)),(Obj.cls_mapFields ..).trans Hr,by rw[Obj.data_mapFields hdi]; simp [rawInt]⟩
 refine wpAny_bind (wpAny_holding (wpAny_bind (wpAny_isOneOf_keyiter (s:={ s with heap:=s.heap.update it (Obj.mapFields (·.setIfInBounds 1 (rawInt ((i:Int)+1)))) }) k'.typeIs ?_)))
 show wpAny _ _ (pure es[i].key) _ _ _
 exact wpAny_pure (wpAny_pure ⟨_,rfl,wpAny_pure (q _ k' (Heap.SameBut.update ..))⟩)
theorem z6 {β:Type}{R:β->Shared->Prop}{Q:Option Value->Shared->Prop}(hh:A.handled=none)(q:∀h',(∀b o,s.heap.get? b=some o->h'.get? b=some o)->Q none { s with heap:=h' }) :
  wpAny (model P w) A.in1 (newExc (.type "StopIteration") [] >>= λv=>raiseNew v) R (λe s'=>wpAny (model P w) A (do let b ←isInstance e (.type "StopIteration"); if b=true then pure none else throw e) Q E s') s:=by
 refine wpAny_bind ?_
 simp only [newExc,newTuple]
 refine wpAny_bind (wpAny_newObj_type (wpAny_bind (m:=firstArgMember _ _) (wpAny_of_eq (a:=Value.none) (by first | rfl | (simp only [firstArgMember]; rfl)) (wpAny_newObj_type ?_ (by size_fits)))) (by size_fits))
 simp only [raiseNew]
 refine wpAny_bind (wpAny_handled ?_)
 rw[show A.in1.handled=none from hh]
 refine wpAny_bind (wpAny_pure (wpAny_throw ?_))
 refine wpAny_bind (wpAny_isInstance (b:=true) (T:="StopIteration") ⟨_,Heap.get?_push_size _ rfl,rfl⟩ isSubtype_stop (wpAny_pure ?_))
 exact q _ λb o e=>Heap.get?_push_of_some _ (Heap.get?_push_of_some _ e)
theorem Nm {Q:Option Value->Shared->Prop}(hh:A.handled=none)(x:iS s.heap d es ep)(k:s.heap.IsKeyIter it d i es.size ep)(hi:es.size<=i)(q:∀h',Heap.ExtBut it s.heap h'->Q none { s with heap:=h' }):wpAny (model P w) A (pyNext (.ref it)) Q E s:=by
 have tI:=k.typeIs
 obtain⟨oi,uG,Hr,hdi⟩:=id k
 obtain⟨o,ho,hc,hdat⟩:=x.ob
 unfold pyNext
 refine wpAny_bind (wpAny_attempt (wpAny_callSpecial?_slot (name:=Str.ofString "__next__") tI F.slot_dict_keyiterator_next (wpAny_call_entry F.slot_dict_keyiterator_next tI F.entry_dict_keyiterator_next ?_ (F.args_dict_keyiterator_next_1 _))))
 refine wpAny_bind (wpAny_pure (wpAny_bind (wpAny_bind ?_)))
 first | refine wpAny_bind (wpAny_typeNameOfWhole_keyiter tI (wpAny_pure (wpAny_bind (wpAny_fieldsOf uG hdi ?_)))) | refine wpAny_bind (wpAny_typeNameOf_keyiter tI (wpAny_pure (wpAny_bind (wpAny_fieldsOf uG hdi ?_))))
 simp only [show Builtin.Dict_items.ownsTuple "dict_keyiterator"=false from by decide,Bool.false_eq_true,if_false]
 show wpAny _ _ (if (Value.ref d == Value.none)=true then _ else _) _ _ s
 rw[if_neg (show ¬ (Value.ref d == Value.none)=true from λz=>Bool.false_ne_true z)]
 refine wpAny_bind (wpAny_pure (wpAny_bind (wpAny_dictEntries ho hdat ?_)))
 rw[if_neg (by simp)]
 refine wpAny_bind (wpAny_pure (wpAny_bind (wpAny_dictEpoch ho hdat ?_)))
 rw[if_neg (by simp)]
 refine wpAny_pure ?_
 simp only [show ¬ ((i:Int) < 0) from by omega,if_false,Int.toNat_natCast,Array.getElem?_eq_none hi]
 refine wpAny_bind ?_
 first | refine wpAny_bind (wpAny_typeNameOfWhole_keyiter tI (wpAny_pure ?_)) | refine wpAny_bind (wpAny_typeNameOf_keyiter tI (wpAny_pure ?_))
 show wpAny _ _ (setField (.ref it) 0 .none >>= _) _ _ s
 refine wpAny_bind (wpAny_setField uG hdi (by simp) ?_)
 show wpAny _ _ (newExc (.type "StopIteration") [] >>= _) _ _ _
 exact z6 hh λh' kk=>q h' λb o hb e=>kk b o ((Heap.SameBut.update ..).extBut b o hb e)
theorem Lk {v:Addr}{Q:Value->Shared->Prop}(hv:s.heap.IsItemsView v d)(x:iS s.heap d es ep)(q:Q (.ref s.heap.objs.size) { s with heap:=s.heap.push { cls:=.type "dict_itemiterator",data:=.fields #[.none,.bool false,.ref d,.int 0 0,.int es.size 0,.int ep 0,.none,.none] } }):wpAny (model P w) A (pyIter (.ref v)) Q E s:=by
 obtain⟨ov,hov,_,ZO⟩:=id hv
 obtain⟨o,ho,hc,hdat⟩:=x.ob
 refine wpAny_pyIter_slot hv.typeIs F.slot_dict_items_iter (wpAny_call_entry F.slot_dict_items_iter hv.typeIs F.entry_dict_items_iter ?_ (F.args_dict_items_iter_1 _))
 unfold Builtin.«dict_items.__iter__»
 refine wpAny_bind (wpAny_pure (wpAny_bind ?_))
 unfold Builtin.Dict_items.dictOf
 refine wpAny_bind (wpAny_field hov ZO (x:=.ref d) rfl (wpAny_pure (wpAny_bind ?_)))
 unfold Builtin.Dict_items.newIterator
 refine wpAny_bind (wpAny_dictEntries ho hdat (wpAny_bind (wpAny_dictEpoch ho hdat ?_)))
 simp only [show Builtin.Dict_items.ownsTuple "dict_itemiterator"=true from by decide,if_true]
 refine wpAny_newObj_type (wpAny_pure ⟨_,rfl,"dict_itemiterator",_,⟨_,Heap.get?_push_size _ rfl,rfl⟩,F.slot_dict_itemiterator_next.lookup,?_⟩) (by simp only [sizeOk,Builtin.Dict_items.ownedTupleFields,List.size_toArray,List.length_append,List.length_cons,List.length_nil,sizeLine_eq]; omega)
 simpa [rawInt,Builtin.Dict_items.ownedTupleFields] using q
theorem Nn {ok ov:Value}{Q:Option Value->Shared->Prop}(hh:A.handled=none)(x:iS s.heap d es ep)(k:IsItemIter s.heap it d i es.size ep ok ov)(hi:es.size<=i)(q:∀h',Heap.ExtBut it s.heap h'->Q none { s with heap:=h' }):wpAny (model P w) A (pyNext (.ref it)) Q E s:=by
 have tI:s.TypeIs (.ref it) "dict_itemiterator":=⟨_,k,rfl⟩
 obtain⟨o,ho,hc,hdat⟩:=x.ob
 unfold pyNext
 refine wpAny_bind (wpAny_attempt (wpAny_callSpecial?_slot (name:=Str.ofString "__next__") tI F.slot_dict_itemiterator_next (wpAny_call_entry F.slot_dict_itemiterator_next tI F.entry_dict_itemiterator_next ?_ (F.args_dict_itemiterator_next_1 _))))
 refine wpAny_bind (wpAny_pure (wpAny_bind (wpAny_bind ?_)))
 first | refine wpAny_bind (wpAny_typeNameOfWhole_itemiter tI (wpAny_pure (wpAny_bind (wpAny_fieldsOf k rfl ?_)))) | refine wpAny_bind (wpAny_typeNameOf_itemiter tI (wpAny_pure (wpAny_bind (wpAny_fieldsOf k rfl ?_))))
 simp only [show Builtin.Dict_items.ownsTuple "dict_itemiterator"=true from by decide,if_true]
 show wpAny _ _ (if (Value.ref d == Value.none)=true then _ else _) _ _ s
 rw[if_neg (show ¬ (Value.ref d == Value.none)=true from λz=>Bool.false_ne_true z)]
 refine wpAny_bind (wpAny_pure (wpAny_bind (wpAny_dictEntries ho hdat ?_)))
 rw[if_neg (by simp)]
 refine wpAny_bind (wpAny_pure (wpAny_bind (wpAny_dictEpoch ho hdat ?_)))
 rw[if_neg (by simp)]
 refine wpAny_pure ?_
 simp only [show ¬ ((i:Int) < 0) from by omega,if_false,Int.toNat_natCast,Array.getElem?_eq_none hi]
 refine wpAny_bind ?_
 first | refine wpAny_bind (wpAny_typeNameOfWhole_itemiter tI (wpAny_pure ?_)) | refine wpAny_bind (wpAny_typeNameOf_itemiter tI (wpAny_pure ?_))
 show wpAny _ _ (setField (.ref it) 2 .none >>= _) _ _ s
 refine wpAny_bind (wpAny_setField k rfl (by simp) ?_)
 show wpAny _ _ (newExc (.type "StopIteration") [] >>= _) _ _ _
 exact z6 hh λh' kk=>q h' λb o hb e=>kk b o ((Heap.SameBut.update ..).extBut b o hb e)
theorem Ll {ok ov:Value}{Q:Option Value->Shared->Prop}(x:iS s.heap d es ep)(k:IsItemIter s.heap it d i es.size ep ok ov)(hi:i < es.size)
  (q:∀h',IsItemIterOut h' it d (i+1) es.size ep es[i].key es[i].val s.heap.objs.size->h'.get? s.heap.objs.size=some { cls:=.type "tuple",data:=.seq #[es[i].key,es[i].val] }->(∀b o,b≠it->s.heap.get? b=some o->h'.get? b=some o)->Q (some (.ref s.heap.objs.size)) { s with heap:=h' }):wpAny (model P w) A (pyNext (.ref it)) Q E s:=by
 obtain⟨hp,g,dr,tk,os⟩:=s
 have tI:Shared.TypeIs ⟨hp,g,dr,tk,os⟩ (.ref it) "dict_itemiterator":=⟨_,k,rfl⟩
 obtain⟨o,ho,hc,hdat⟩:=x.ob
 unfold pyNext
 refine wpAny_bind (wpAny_attempt (wpAny_callSpecial?_slot (name:=Str.ofString "__next__") tI F.slot_dict_itemiterator_next (wpAny_call_entry F.slot_dict_itemiterator_next tI F.entry_dict_itemiterator_next ?_ (F.args_dict_itemiterator_next_1 _))))
 refine wpAny_bind (wpAny_pure (wpAny_bind (wpAny_bind ?_)))
 first | refine wpAny_bind (wpAny_typeNameOfWhole_itemiter tI (wpAny_pure (wpAny_bind (wpAny_fieldsOf k rfl ?_)))) | refine wpAny_bind (wpAny_typeNameOf_itemiter tI (wpAny_pure (wpAny_bind (wpAny_fieldsOf k rfl ?_))))
 simp only [show Builtin.Dict_items.ownsTuple "dict_itemiterator"=true from by decide,if_true]
 show wpAny _ _ (if (Value.ref d == Value.none)=true then _ else _) _ _ ⟨hp,g,dr,tk,os⟩
 rw[if_neg (show ¬ (Value.ref d == Value.none)=true from λz=>Bool.false_ne_true z)]
 refine wpAny_bind (wpAny_pure (wpAny_bind (wpAny_dictEntries ho hdat ?_)))
 rw[if_neg (by simp)]
 refine wpAny_bind (wpAny_pure (wpAny_bind (wpAny_dictEpoch ho hdat ?_)))
 rw[if_neg (by simp)]
 refine wpAny_pure ?_
 simp only [show ¬ ((i:Int) < 0) from by omega,if_false,Int.toNat_natCast,Array.getElem?_eq_getElem hi]
 refine wpAny_bind ?_
 first | refine wpAny_bind (wpAny_typeNameOfWhole_itemiter tI (wpAny_pure (wpAny_bind (wpAny_isOneOf_itemiter tI ?_)))) | refine wpAny_bind (wpAny_typeNameOf_itemiter tI (wpAny_pure (wpAny_bind (wpAny_isOneOf_itemiter tI ?_))))
 show wpAny _ _ (setField (.ref it) 3 (rawInt ((i:Int)+1)) >>= _) _ _ ⟨hp,g,dr,tk,os⟩
 refine wpAny_bind (wpAny_setField_rec k (by simp) λh1 k1 b1=>?_)
 replace b1:Heap.SameBut it hp h1:=b1
 replace k1:IsItemIter h1 it d (i+1) es.size ep ok ov:=by
  unfold IsItemIter
  rw[show ((i+1:Nat):Int)=(i:Int)+1 from by omega]
  simpa [rawInt] using k1
 have t1:Shared.TypeIs ⟨h1,g,dr,tk,os⟩ (.ref it) "dict_itemiterator":=⟨_,k1,rfl⟩
 refine wpAny_bind (wpAny_holding (wpAny_bind (wpAny_isOneOf_itemiter t1 (wpAny_bind (wpAny_isOneOf_itemiter t1 ?_)))))
 show wpAny _ _ (Builtin.Dict_items.pairFromOwner (.ref it) 6 es[i].key es[i].val) _ _ ⟨h1,g,dr,tk,os⟩
 unfold Builtin.Dict_items.pairFromOwner
 refine wpAny_bind (wpAny_newTuple ?_)
 have z1:h1.objs.size=hp.objs.size:=b1.1
 have nT:hp.objs.size≠it:=Nat.ne_of_gt (Heap.lt_size k)
 have k2:IsItemIter (h1.push { cls:=.type "tuple",data:=.seq #[es[i].key,es[i].val] }) it d (i+1) es.size ep ok ov:=Heap.get?_push_of_some _ k1
 have t2:(h1.push { cls:=.type "tuple",data:=.seq #[es[i].key,es[i].val] }).get? hp.objs.size=some { cls:=.type "tuple",data:=.seq #[es[i].key,es[i].val] }:=by rw[←z1]; exact Heap.get?_push_size _ rfl
 have kp2:∀b o,b≠it->hp.get? b=some o->(h1.push { cls:=.type "tuple",data:=.seq #[es[i].key,es[i].val] }).get? b=some o:=λb o hb e=>Heap.get?_push_of_some _ (b1.extBut b o hb e)
 show wpAny _ _ (Builtin.Dict_items.ownedTupleIsFree (.ref it) >>= _) _ _ ⟨h1.push { cls:=.type "tuple",data:=.seq #[es[i].key,es[i].val] },g,dr,tk,os⟩
 rw[z1]
 generalize h1.push { cls:=.type "tuple",data:=.seq #[es[i].key,es[i].val] }=h2 at *
 refine wpAny_bind ?_
 unfold Builtin.Dict_items.ownedTupleIsFree
 refine wpAny_bind (wpAny_field k2 rfl (x:=.none) rfl (wpAny_pure ?_))
 simp only [if_true]
 refine wpAny_bind (wpAny_field k2 rfl (x:=ok) rfl (wpAny_bind (wpAny_field k2 rfl (x:=ov) rfl ?_)))
 refine wpAny_bind (wpAny_setField_rec k2 (by simp) λh3 k3 b3=>?_)
 replace b3:Heap.SameBut it h2 h3:=b3
 replace k3:IsItemIter h3 it d (i+1) es.size ep es[i].key ov:=k3
 refine wpAny_bind (wpAny_setField_rec k3 (by simp) λh4 k4 b4=>?_)
 replace b4:Heap.SameBut it h3 h4:=b4
 replace k4:IsItemIter h4 it d (i+1) es.size ep es[i].key es[i].val:=k4
 refine wpAny_bind (wpAny_setField_rec k4 (by simp) λh5 k5 b5=>?_)
 replace b5:Heap.SameBut it h4 h5:=b5
 replace k5:IsItemIterOut h5 it d (i+1) es.size ep es[i].key es[i].val hp.objs.size:=k5
 refine wpAny_bind (wpAny_setField_rec k5 (by simp) λh6 k6 b6=>?_)
 replace b6:Heap.SameBut it h5 h6:=b6
 replace k6:IsItemIterOut h6 it d (i+1) es.size ep es[i].key es[i].val hp.objs.size:=k6
 have all:∀b o,b≠it->h2.get? b=some o->h6.get? b=some o:=λb o hb e=>b6.extBut b o hb (b5.extBut b o hb (b4.extBut b o hb (b3.extBut b o hb e)))
 exact wpAny_bind (wpAny_letGo (wpAny_pure (wpAny_pure ⟨_,rfl,wpAny_pure (q h6 k6 (all _ _ nT t2) λb o hb e=>all b o hb (kp2 b o hb e))⟩)))
end
end L2
namespace L2
open PySem PySem.Spec PyProof.Rows TB
def cH (a:Addr)(es:Array DictEntry)(ep:Nat):HO:=.ext λh=>iS h a es ep
section
variable {X:Cx}{pins:List (Addr × Obj)}{σ:St}{H:Hp}{s:Shared}{pos:Pos}
theorem A7 {P:Program}{w:World}{h:Heap}{a:Addr}{es:Array DictEntry}{ep:Nat}(x:iS h a es ep):bE P w H h a (cH a es ep):=by
 obtain⟨o,ho,_⟩:=x.ob
 exact⟨x,⟨o,ho⟩,λh1 h2 y k=>y.at λo e=>k _ e⟩
theorem qf (I:Inv X pins σ H s){a:Addr}{es:Array DictEntry}{ep:Nat}(e:H a=some (cH a es ep)):iS s.heap a es ep:=(show bE X.prog X.w H s.heap a (cH a es ep) from I.hok a _ e).1
theorem Hs (I:Inv X pins σ H s):iS (s.heap.push { cls:=.type "dict",data:=.dict #[] }) s.heap.objs.size #[] 0:=⟨beq_eq_false_iff_ne.mpr (Ne.symm (Nat.ne_of_lt I.big)),_,Heap.get?_push_size _ rfl,⟨rfl,rfl,rfl⟩,rfl⟩
def Vm:TE:=λ_ H Q=>∀p,H p=none->Q (.ref p) (upd H p (cH p #[] 0))
theorem Vn:PE X (.Dict [] [] pos) Vm:=λpins s σ H Q I h=>
 wpAny_Dict_empty ⟨.ref s.heap.objs.size,_,I.laid (a:=s.heap.objs.size) (o:=cH s.heap.objs.size #[] 0) (t':=s.toks) (λ_ _ q=>Heap.get?_push_of_some _ q) (Nat.le_refl _) (A7 (Hs I)),rfl,h _ (I.hok.fresh (Nat.le_refl _))⟩
theorem E5 {P:Program}{w:World}(d:Addr):MeetsIn P w (Builtin.«dict.items» ⟨[.ref d],[]⟩) (λ_ R s=>(∃es ep,iS s.heap d es ep)/\R (.ok (.ret (.ref s.heap.objs.size))) { s with heap:=s.heap.push { cls:=.type "dict_items",data:=.fields #[.ref d] } }):=
 .of_wp λA R s ⟨⟨es,ep,x⟩,h⟩=>by
  unfold Builtin.«dict.items»
  refine wpAny_bind ?_
  unfold Builtin.Dict.noArgs
  refine wpAny_bind (wpAny_notOrdered_dict x.typeIs ?_)
  show wpAny _ _ (pure d) _ _ s
  refine wpAny_pure ?_
  show wpAny _ _ (Builtin.Dict.showsAll d >>= _) _ _ s
  unfold Builtin.Dict.showsAll
  rw[if_neg (by rw[x.lo]; exact Bool.false_ne_true)]
  exact wpAny_bind (wpAny_pure (wpAny_bind (wpAny_newObj_type (wpAny_pure ⟨_,rfl,h⟩))))
def Ht:V->List V->Hp->VK->Prop:=λx xs H Q=>∃a es ep,x=.ref a/\xs=[]/\H a=some (cH a es ep)/\∀p,H p=none->Q (.ref p) (upd H p (xj p a))
theorem Lm:zu X "dict.items" Ht:=by
 intro pins s σ H x xs v us Q I rx Ec h
 obtain⟨a,es,ep,rfl,rfl,ha,q⟩:=h
 cases Ec
 obtain rfl:v=Value.ref a:=rx
 have r:=qf I ha
 refine call_meetsIn PySem.F.slot_dict_items r.typeIs PySem.F.entry_dict_items (PySem.F.args_dict_items_1 _) (E5 a) ⟨⟨es,ep,r⟩,?_⟩
 refine⟨.ref s.heap.objs.size,_,I.laid (a:=s.heap.objs.size) (o:=xj s.heap.objs.size a) (t':=s.toks) (λ_ _ e=>Heap.get?_push_of_some _ e) (Nat.le_refl _) (MV ⟨_,Heap.get?_push_size _ rfl,rfl,rfl⟩),rfl,q _ (I.hok.fresh (Nat.le_refl _))⟩
def A8 (to:TE):TE:=fun σ H Q=>to σ H λx H1=>Ht x [] H1 Q
theorem Hu {o:Expr}{to:TE}{apos cpos:Pos}(ho:PE X o to)(hbase:attributeBase o "items" X.env (eval o X.env)=eval o X.env:=by rfl)(hline:(apos.endLine == cpos.line)=true:=by rfl):PE X (.Call (.Attribute o "items" apos) [] [] cpos) (A8 to):=by
 intro pins s σ H Q I h
 refine wpAny_Call_method0_late hbase hline (aN (ho pins s σ H _ I h) λv s1 ⟨x,H1,I1,r1,q1⟩=>?_)
 obtain⟨a,es,ep,rfl,_,ha,_⟩:=id q1
 obtain rfl:v=Value.ref a:=r1
 have r:=qf I1 ha
 refine⟨"dict","dict.items",PySem.F.plainAttrs_dict,PySem.F.slot_dict_items,PySem.F.type_dict_items,r.typeIs,λb e=>?_,Calls.callWith_builtin rfl (PySem.evalArgs_none (Lm pins s1 σ H1 (.ref a) [] _ [] Q I1 rfl .nil q1))⟩
 cases e
 obtain⟨o,ho,hx,_⟩:=r.ob
 exact⟨o,ho,hx.2.1⟩
def V9 (a:Addr)(es:Array DictEntry)(ep:Nat)(f:Nat->List V):It:=⟨λi H=>i < es.size/\H a=some (cH a es ep),λi H v H'=>∃t,v=.ref t/\H t=none/\H'=upd H t (.tup (f i)),λi H=>i=es.size/\H a=some (cH a es ep)⟩
theorem Jp {P:Program}{w:World}{K:PySem.W.Frag}{elts:List Expr}{k:Nat}{pos:Pos}(a it:Addr)(es:Array DictEntry)(ep:Nat)(f:Nat->List V)(hv:∀i (h:i < es.size),Vals (f i) [es[i].key,es[i].val]) :
  Turn P w K (.Tuple elts k pos) (V9 a es ep f) [it] it (λi h=>∃ok ov,IsItemIter h it a i es.size ep ok ov) where
 mem:=by simp
 obj:=λi h st b hb=>by
  obtain rfl:b=it:=by simpa using hb
  obtain⟨ok,ov,e⟩:=st
  exact⟨_,e,λv z=>nomatch z⟩
 keep:=λi h h' st k=>by
  obtain⟨ok,ov,e⟩:=st
  exact⟨ok,ov,k it (by simp) _ e⟩
 item:=by
  intro X hP hw hK hc i pins s σ H E I hf st hg
  subst hP hw hK
  obtain⟨hi,ha⟩:=hg
  obtain⟨ok,ov,st⟩:=st
  have hit:=hf it (by simp)
  refine Ll (qf I ha) st hi λh1 o1 t1 k1=>⟨_,rfl,?_⟩
  refine wpAny_letOwnedTupleGo_items o1 λh2 o2 b2=>?_
  have nT:s.heap.objs.size≠it:=Nat.ne_of_gt (Heap.lt_size st)
  have kp:∀c o,c∉[it]->s.heap.get? c=some o->h2.get? c=some o:=λc o hc e=>b2.extBut c o (by simpa using hc) (k1 c o (by simpa using hc) e)
  have hT2:h2.get? s.heap.objs.size=_:=b2.extBut _ _ nT t1
  have hsz:∀c o,s.heap.get? c=some o->c≠s.heap.objs.size:=λc o e=>Nat.ne_of_lt (Heap.lt_size e)
  have fr:H s.heap.objs.size=none:=I.hok.fresh (Nat.le_refl _)
  have hfw:∀c∈[it],jt X pins H c:=λc hc=>by rw[List.mem_singleton.mp hc]; exact hit
  have I2:Inv X pins σ (upd H s.heap.objs.size (.tup (f i))) { s with heap:=h2 }:=by
   refine I.step (g':=s.gens) (d':=s.drawn) (t':=s.toks) (ch:=[it]) (λc hc=>?_) (λc o _ _ hc e _=>kp c o hc e) (λc o _ _ hc e _=>⟨o.slots,kp c o hc e⟩) (λc o hc e n=>?_) (λc o hc e=>⟨o,kp c o hc e⟩)
    (λc us e=>?_) (λc o us e=>?_) (λc us e=>⟨#[],?_⟩) (λm hm=>?_) (λc us e=>?_) I.bare
   ·obtain⟨f0,f1,f2,f3,f4,f5⟩:=hfw c hc
    exact⟨f3,f1,f4,f5⟩
   ·rw[aG (hsz c o e)]; exact n
   ·rw[aG (aW e fr)]; exact e
   ·rw[aG (aW e fr)]; exact e
   ·rw[aG (aW e fr),e]; simp
   ·obtain⟨o,es,ep,ho,r⟩:=hm
    exact⟨o,es,ep,kp _ o (λq=>(hfw _ q).2.1 rfl) ho,r⟩
   ·by_cases Ln:c=s.heap.objs.size
    ·subst Ln
     rw[au] at e
     cases e
     exact⟨by rw[(hv i hi).length]; show 2<=sizeLine; decide,_,hv i hi,_,hT2,rfl,_,rfl⟩
    ·rw[aG Ln] at e
     refine (I.hok c us e).stay (λd w' hd q=>kp d w' (λq2=>?_) q) (λd q=>?_) λd ws q=>?_
     ·have z1:=(hfw d q2).1
      rcases hd with y1 | y1
      ·rw[y1,e] at z1; cases z1
      ·rw[y1] at z1; cases z1
     ·rw[aG (aW q fr)]; exact q
     ·rw[aG (aW q fr)]; exact q
  refine⟨.ref s.heap.objs.size,_,I2,rfl,⟨_,rfl,fr,rfl⟩,⟨_,_,o2⟩,λc hc=>?_⟩
  rw[List.mem_singleton.mp hc,aG nT.symm]
  exact hit.1
 done:=by
  intro X hP hw hK hc i pins s σ H E I hf st hg
  subst hP hw hK
  obtain⟨rfl,ha⟩:=hg
  obtain⟨ok,ov,st⟩:=st
  obtain⟨f0,f1,f2,f3,f4,f5⟩:=hf it (by simp)
  exact Nn (I.ok.hd hc) (qf I ha) st (Nat.le_refl _) λh' eb=>⟨rfl,I.turned (t':=s.toks) (λb o hb e=>eb b o hb e) f0 f1 f3 f4 f5⟩
 self:=λA i s Q E st h=>by
  obtain⟨ok,ov,e⟩:=st
  exact PySem.W.kcp_self e h
def E6 (ta:TE):TI:=fun σ H R=>ta σ H λx H1=>∃p a es ep f,x=.ref p/\H1 p=some (xj p a)/\H1 a=some (cH a es ep)/\(∀i (h:i < es.size),Vals (f i) [es[i].key,es[i].val])/\R (V9 a es ep f) H1
theorem Hv {elts:List Expr}{k:Nat}{tpos:Pos}{l:Expr}{tl:TE}(hl:PE X l tl):PI X (.Tuple elts k tpos) l (E6 tl):=by
 intro pins s σ H R I h
 refine aN (hl pins s σ H _ I h) λv s1 ⟨x,H1,I1,r1,q1⟩=>?_
 obtain⟨p,a,es,ep,f,e,hp,ha,hv,q⟩:=q1
 subst e
 cases r1
 have view:s1.heap.IsItemsView p a:=(show bE X.prog X.w H1 s1.heap p (xj p a) from I1.hok p _ hp).1
 refine Lk view (qf I1 ha) ?_
 refine⟨s1.heap.objs.size,[s1.heap.objs.size],_,_,H1,rfl,I1.kept (t':=s1.toks) λb o e=>Heap.get?_push_of_some _ e,Jp a _ es ep f hv,⟨_,_,Heap.get?_push_size _ rfl⟩,λb hb=>?_,q⟩
 obtain rfl:b=s1.heap.objs.size:=by simpa using hb
 exact I1.yo (Nat.le_refl _) (I1.hok.fresh (Nat.le_refl _))
theorem QN {P:Program}{w:World}{d:Addr}{es:Array DictEntry}{ep:Nat}:PySem.W.KdlSrc P w "dict" d d es.size (λi v=>∃h:i < es.size,v=es[i].key) (λh=>iS h d es ep) where
 type:=λ_ x=>x.typeIs
 there:=λh x=>by
  obtain⟨o,ho,_⟩:=x.ob
  exact⟨Heap.lt_size ho,Heap.lt_size ho⟩
 keep:=λ_ _ x k=>x.at λo e=>k d (.inl rfl) o e
 notList:=by decide
 notTuple:=by decide
 hint:=λ_ _ _ _ x q=>PySem.W.kdl_hint_dict x.typeIs q
 iter:=λA s hh x=>by
  have hne:d≠s.heap.objs.size:=by
   obtain⟨o,ho,_⟩:=x.ob
   exact Nat.ne_of_lt (Heap.lt_size ho)
  refine⟨_,λi h=>h.IsKeyIter s.heap.objs.size d i es.size ep/\iS h d es ep,λ_ _ q=>Nl x q,⟨λb hb=>by simp at hb; simp [hb],λ_ _ _ st k=>⟨st.1.at λo e=>k _ (by simp) o e,st.2.at λo e=>k d (by simp) o e⟩,λi s' Q E hi st q=>?_,λs' Q E st q=>?_,λ_ _ _ _ st q=>wpAny_pyIter_keyiter st.1 q⟩,⟨_,Heap.get?_push_size _ rfl,rfl,rfl⟩,x.at λo e=>Heap.get?_push_of_some _ e⟩
  ·exact Lj st.2 st.1 hi λh' k' b'=>q _ h' s'.toks ⟨hi,rfl⟩ ⟨k',st.2.at λo e=>b'.extBut d o hne e⟩ λb o hb e=>b'.extBut b o (by simpa using hb) e
  ·exact Nm hh st.2 st.1 (Nat.le_refl _) λh' b'=>q h' s'.toks λb o hb e=>b' b o (by simpa using hb) e
def Tr:List V->Hp->VK->Prop:=λxs H Q=>∃a es ep vs,xs=[.ref a]/\H a=some (cH a es ep)/\es.size<=sizeLine/\Vals vs (es.toList.map (·.key))/\∀p,H p=none->Q (.ref p) (upd H p (.lst vs))
theorem Tt (hc:X.calm=true:=by rfl):dJ X (.type "list") Tr:=by
 intro pins s σ H xs us Q I r h
 obtain⟨a,es,ep,vs,rfl,ha,hz,hv,q⟩:=h
 obtain⟨u,rfl,ru⟩:=vals1 r
 cases ru
 refine PySem.W.kdl_call QN (I.ok.hd hc) (qf I ha) hz λh' tk acc c kp e hacc=>?_
 have ea:acc.toList=es.toList.map (·.key):=by
  refine List.ext_getElem (by rw[Array.length_toList,List.length_map,Array.length_toList]; exact hacc.1) λi h1 h2=>?_
  have hi:i < acc.size:=by simpa using h1
  obtain⟨h3,h4⟩:=hacc.2 i acc[i] (by simp [hi])
  simp [h4]
 have I1:Inv X pins σ H { s with heap:=h',toks:=tk }:=I.kept (t':=tk) kp
 refine⟨.ref s.heap.objs.size,_,I.laid (a:=s.heap.objs.size) (o:=.lst vs) (t':=tk) kp (Nat.le_refl _) (show bE X.prog X.w _ h' _ (.lst vs) from ⟨by rw[hv.length]; simpa using hz,es.toList.map (·.key),c,hv,by rw[←ea]; simpa using e⟩),rfl,q _ (I.hok.fresh (Nat.le_refl _))⟩
def Lp (K:PySem.W.Frag)(tk tv:TE):TE:=fun σ H Q=>∀p,H p=none->tk σ (upd H p (cH p #[] 0)) λx H1=>tv σ H1 λy H2=>∃b d,x=.ref b/\NK K H2 d b/\H2 p=some (cH p #[] 0)/\
 ∀es ep,es.size=1->(∀h:0 < es.size,es[0].key=.ref b/\RelV y es[0].val)->Q (.ref p) (upd H2 p (cH p es ep))
theorem Lq {ek ev:Expr}{tk tv:TE}(K:PySem.W.Frag)(hu:X.A.units+9 < cLine)(hk:PE X ek tk)(hv:PE X ev tv)(hK:X.K=K:=by rfl):PE X (.Dict [some ek] [ev] pos) (Lp K tk tv):=by
 subst hK
 intro pins s σ H Q I h
 refine wpAny_Dict_any rfl rfl (by simp) (by show 1<=15; decide) ?_
 have I0:Inv X pins σ (upd H s.heap.objs.size (cH s.heap.objs.size #[] 0)) { s with heap:=s.heap.push { cls:=.type "dict",data:=.dict #[] } }:=I.laid (t':=s.toks) (λ_ _ q=>Heap.get?_push_of_some _ q) (Nat.le_refl _) (A7 (Hs I))
 show wpAny _ _ (evalPairs [(eval ek X.env,do let x ←eval ev X.env; standAt pos; pure x)]) _ _ _
 unfold evalPairs
 refine wpAny_bind (aN (hk pins _ σ _ _ I0 (h _ (I.hok.fresh (Nat.le_refl _)))) λkv s1 ⟨x,H1,I1,r1,q1⟩=>?_)
 refine wpAny_bind (wpAny_holding (wpAny_bind (aN (hv pins s1 σ H1 _ I1 q1) λvv s2 ⟨y,H2,I2,r2,q2⟩=>wpAny_bind (wpAny_standAt (wpAny_pure ?_)))))
 refine wpAny_bind (wpAny_holding (show wpAny _ _ (evalPairs []) _ _ _ from ?_))
 unfold evalPairs
 refine wpAny_pure (wpAny_pure ?_)
 obtain⟨b,d,rfl,nk,hp,q⟩:=q2
 obtain rfl:kv=Value.ref b:=r1
 have raw:=qf I2 hp
 obtain⟨o,ho,he,hd⟩:=raw.ob
 show wpAny _ _ (storeAll s.heap.objs.size [(Value.ref b,vv)]) _ _ _
 unfold storeAll
 rw[List.forIn_cons]
 have dd:s2.heap.DictOfH (nB X.prog X.w) s.heap.objs.size []:=⟨o,#[],0,ho,he,hd,rfl,λx hx=>absurd hx (by simp),List.nodup_nil⟩
 refine wpAny_bind (wpAny_bind (wpAny_dictSet_heap (hsz:=Nat.zero_le _) (knd:=nB X.prog X.w) (show X.A.units+8 < cLine by omega) (nk.key I2) dd λh' Cb hs=>wpAny_pure ?_))
 obtain⟨o',es,ep,ho',he',hd',hes,_,_⟩:=Cb
 have raw':iS h' s.heap.objs.size es ep:=⟨raw.lo,o',ho',he',hd'⟩
 have I3:=xg (t':=s2.toks+(nB X.prog X.w).draws d) I2 (by rw[hp]; exact True.intro) hs ⟨o',ho'⟩ (A7 raw')
 have e1:storedH ([]:List (Dt × Addr × Value)) d b vv=[(d,b,vv)]:=rfl
 rw[e1] at hes
 have hsz:es.size=1:=by rw[←Array.length_toList,hes]; rfl
 refine wpAny_pure ⟨.ref s.heap.objs.size,_,I3,rfl,q es ep hsz λhh=>?_⟩
 have e0:es[0]=entryOfKey (nB X.prog X.w) (d,b,vv):=by
  have:es.toList[0]?=some (entryOfKey (nB X.prog X.w) (d,b,vv)):=by rw[hes]; rfl
  simpa [hh] using this
 rw[e0]
 exact⟨rfl,r2⟩
end
end L2
namespace L2
open PySem PySem.Spec PyProof.Rows TB
def Tu (K:PySem.W.Frag)(a:Addr)(xs:List V):It:=⟨λi H=>i < xs.length/\aE K H a xs,λi H v H'=>∃t x,v=.ref t/\H t=none/\xs[i]?=some x/\H'=upd H t (.tup [.int (i:Int),x]),λi H=>i=xs.length/\aE K H a xs⟩
theorem Inv.Tv {X:Cx}{pins:List (Addr × Obj)}{σ:St}{H:Hp}{s:Shared}{h2:Heap}{tk:Nat}{wr:List Addr}{T:Addr}{us:List V}{vals:List Value}(I:Inv X pins σ H s)(hfw:∀c∈wr,jt X pins H c)(kp:∀c o,c∉wr->s.heap.get? c=some o->h2.get? c=some o)
  (hle:s.heap.objs.size<=T) (hT:h2.IsTuple T vals.toArray) (hv:Vals us vals) (hz:us.length<=sizeLine):Inv X pins σ (upd H T (.tup us)) { s with heap:=h2,toks:=tk }:=by
 have hsz:∀c o,s.heap.get? c=some o->c≠T:=λc o e z=>absurd (Heap.lt_size e) (by rw[z]; exact Nat.not_lt_of_le hle)
 have fr:H T=none:=I.hok.fresh hle
 obtain⟨o,ho,hcl,m,hd⟩:=hT
 refine I.step (g':=s.gens) (d':=s.drawn) (t':=tk) (ch:=wr) (λc hc=>?_) (λc o _ _ hc e _=>kp c o hc e) (λc o _ _ hc e _=>⟨o.slots,kp c o hc e⟩) (λc o hc e n=>?_) (λc o hc e=>⟨o,kp c o hc e⟩)
  (λc us e=>?_) (λc o us e=>?_) (λc us e=>⟨#[],?_⟩) (λm hm=>?_) (λc us e=>?_) I.bare
 ·obtain⟨f0,f1,f2,f3,f4,f5⟩:=hfw c hc
  exact⟨f3,f1,f4,f5⟩
 ·rw[aG (hsz c o e)]; exact n
 ·rw[aG (aW e fr)]; exact e
 ·rw[aG (aW e fr)]; exact e
 ·rw[aG (aW e fr),e]; simp
 ·obtain⟨o,es,ep,ho,r⟩:=hm
  exact⟨o,es,ep,kp _ o (λq=>(hfw _ q).2.1 rfl) ho,r⟩
 ·by_cases Ln:c=T
  ·subst Ln
   rw[au] at e
   cases e
   exact⟨hz,vals,hv,o,ho,hcl,m,hd⟩
  ·rw[aG Ln] at e
   refine (I.hok c us e).stay (λd w' hd q=>kp d w' (λq2=>?_) q) (λd q=>?_) λd ws q=>?_
   ·have z1:=(hfw d q2).1
    rcases hd with y1 | y1
    ·rw[y1,e] at z1; cases z1
    ·rw[y1] at z1; cases z1
   ·rw[aG (aW q fr)]; exact q
   ·rw[aG (aW q fr)]; exact q
theorem Jq {P:Program}{w:World}{K:PySem.W.Frag}{elts:List Expr}{k:Nat}{pos:Pos}(e it a:Addr)(hei:e≠it)(xs:List V) :
  Turn P w K (.Tuple elts k pos) (Tu K a xs) [e,it] e (λi h=>(∃old,IsEnum h e it i old)/\h.IsListIter it a i) where
 mem:=by simp
 obj:=λi h st b hb=>by
  obtain⟨⟨old,he⟩,o,ho,hc,hd⟩:=st
  rcases List.mem_cons.mp hb with rfl | hb
  ·exact⟨_,he,λv z=>nomatch z⟩
  ·rw[List.mem_singleton.mp hb]
   exact⟨o,ho,λv z=>by rw[hd] at z; cases z⟩
 keep:=λi h h' st kk=>by
  obtain⟨⟨old,he⟩,o,ho,r⟩:=st
  exact⟨⟨old,kk e (by simp) _ he⟩,o,kk it (by simp) _ ho,r⟩
 item:=by
  intro X hP hw hK hc i pins s σ H E I hf st hg
  subst hP hw hK
  obtain⟨hi,hq⟩:=hg
  obtain⟨its,rv,p,hz⟩:=I.list hq
  have hlen:=rv.length
  have hdx:a≠it/\a≠e:=by
   have h1:=p.isList
   obtain⟨o,ho,hc',m,hd⟩:=h1
   obtain⟨⟨old,he⟩,oi,uG,Hr,hdi⟩:=st
   refine⟨λz=>?_,λz=>?_⟩
   ·rw[z,uG] at ho; cases ho; rw[hdi] at hd; cases hd
   ·rw[z,he] at ho; cases ho; cases hd
  have W':=WalksT.enumerateD (Draws.list (prog:=X.prog) (w:=X.w) (A:=X.A.in1) (by simp [I.ok.hd hc]) it a hdx.1 its.toArray) e hei (by simp [hei,hdx.2.symm]) (by simp)
  have hfw:∀c∈[e,it],jt X pins H c:=hf
  refine W'.item i s _ E (by simp; omega) ⟨st.1,st.2,p.isList⟩ λT vals h1 tk hp hle hT mid k1=>⟨_,rfl,W'.go _ _ _ i T _ _ E mid λh2 st2 k2=>?_⟩
  have V_:=W'.apart i T h1 mid
  have kp:∀c o,c∉[e,it]->s.heap.get? c=some o->h2.get? c=some o:=λc o hc e=>k2 c o hc (k1 c o hc e)
  obtain⟨t0,x0,ZP,rfl⟩:=hp
  have hxi:its[i]?=some x0:=by simpa using ZP
  have hx:xs[i]?=some xs[i]:=List.getElem?_eq_getElem hi
  obtain⟨u,hu,ru⟩:=rv.get hx
  obtain rfl:u=x0:=by rw[hu] at hxi; exact Option.some.inj hxi
  have hT2:h2.IsTuple T [Value.int (i:Int) t0,u].toArray:=hT.at λo e=>k2 T o V_ e
  have fr:H T=none:=I.hok.fresh hle
  refine⟨.ref T,_,I.Tv (tk:=tk) (us:=[.int (i:Int),xs[i]]) hfw kp hle hT2 (.cons ⟨t0,rfl⟩ (.cons ru .nil)) (by show 2<=sizeLine; decide),rfl,⟨T,xs[i],rfl,fr,hx,rfl⟩,⟨st2.1,st2.2.1⟩,λc hc=>?_⟩
  have nc:c≠T:=λz=>by rw[z] at hc; exact V_ hc
  rw[aG nc]
  exact (hf c hc).1
 done:=by
  intro X hP hw hK hc i pins s σ H E I hf st hg
  subst hP hw hK
  obtain⟨rfl,hq⟩:=hg
  obtain⟨its,rv,p,hz⟩:=I.list hq
  have hlen:=rv.length
  have hdx:a≠it/\a≠e:=by
   have h1:=p.isList
   obtain⟨o,ho,hc',m,hd⟩:=h1
   obtain⟨⟨old,he⟩,oi,uG,Hr,hdi⟩:=st
   refine⟨λz=>?_,λz=>?_⟩
   ·rw[z,uG] at ho; cases ho; rw[hdi] at hd; cases hd
   ·rw[z,he] at ho; cases ho; cases hd
  have W':=WalksT.enumerateD (Draws.list (prog:=X.prog) (w:=X.w) (A:=X.A.in1) (by simp [I.ok.hd hc]) it a hdx.1 its.toArray) e hei (by simp [hei,hdx.2.symm]) (by simp)
  have en:its.toArray.size=xs.length:=by simp [hlen]
  rw[←en] at st
  exact W'.done s _ E ⟨st.1,st.2,p.isList⟩ λh' tk kk=>⟨rfl,I.moved hf λc o hc e=>kk c o hc e⟩
 self:=λA i s Q E st q=>by
  obtain⟨⟨old,he⟩,_⟩:=st
  exact wpAny_pyIter_enum he q
section
variable {X:Cx}
def Lr (K:PySem.W.Frag)(ta:TA):TI:=fun σ H R=>ta σ H λvs H1=>∃a xs,vs=[.ref a]/\aE K H1 a xs/\R (Tu K a xs) H1
theorem Np {elts:List Expr}{k:Nat}{tpos:Pos}{a:Expr}{ta:TA}{p pos:Pos}(K:PySem.W.Frag)(hm:X.mg "enumerate"=none)(ha:PA X [a] ta)(hK:X.K=K:=by rfl)(hg:Gl X "enumerate":=by rfl)(hs:starEach [a] X.env=[(false,eval a X.env)]:=by rfl) :
  PI X (.Tuple elts k tpos) (.Call (.Name "enumerate" p) [a] [] pos) (Lr K ta):=by
 subst hK
 intro pins s σ H R I h
 refine Call_ (pe I hg hm boot_enumerate (PyProof.Rows.callWith_type1 (rest:=[]) (aN (ha pos pins s σ H _ I h) λus s1 ⟨vs,H1,I1,r1,q1⟩=>?_) (by rw[hs]; rfl) rfl))
 obtain⟨a,xs,e,hq,q⟩:=q1
 subst e
 obtain⟨u,rfl,ru⟩:=vals1 r1
 cases ru
 obtain⟨its,rv,p,hz⟩:=I1.list hq
 refine call_enumerate_list p.isList λh' a1 a2 hsz kk=>wpAny_pyIter_enum a1 ?_
 refine⟨s1.heap.objs.size+1,[s1.heap.objs.size+1,s1.heap.objs.size],_,_,H1,rfl,I1.kept (t':=s1.toks) kk,Jq _ _ a (Nat.succ_ne_self _) xs,⟨⟨_,a1⟩,a2⟩,λb hb=>?_,q⟩
 have hl:s1.heap.objs.size<=b:=by
  rcases List.mem_cons.mp hb with h | h
  ·rw[h]; exact Nat.le_succ _
  ·rw[List.mem_singleton.mp h]; exact Nat.le_refl _
 exact I1.yo hl (I1.hok.fresh hl)
end
end L2
namespace j_
open PySem
section
variable {m:Nat}{B B':Brs}{D D':List Nat}{d e:Nat}{n n':Int}{fs:List Int}{ps:List (Int × Int)}
end
end j_
namespace j_
open PySem
end j_
set_option maxHeartbeats 1000000
namespace bJ
open PySem PySem.Spec PyProof.Rows L2 j_ TB
section
variable {P:Program}{w:World}{K:PySem.W.Frag}
structure FA where
 b:Addr
 k:Addr
 e:Addr
 o:Addr
 f:Addr
def v_ (A:FA):List (Str × V):=[("branches",.ref A.b),("known",.ref A.k),("either_known",.ref A.e),("both_known",.ref A.o),("first_known",.ref A.f)]
theorem Nq (A:FA):(v_ A).lookup ("branches":Str)=some (V.ref A.b):=rfl
theorem Jr (A:FA):(v_ A).lookup ("known":Str)=some (V.ref A.k):=rfl
abbrev q1 (q:Addr × Int × Int):V:=.ref q.1
def gM (p:Int × Int):Dt:=.tup [.int p.1,.int p.2]
def A9 (d:Nat)(ps:List (Int × Int)):Dt:=.tup [.int (d:Int),.tup (ps.map gM)]
def rC (a b:Int):Dt:=.tup [.int a,.int b]
structure Kp (K:PySem.W.Frag)(A:List Addr)(H H':Hp):Prop where
 keep:∀b o,H b=some o->b∉A->H' b=some o
 tup:∀q xs,aK K H q xs->aK K H' q xs
 ft:∀q xs,FT H q xs->FT H' q xs
 live:∀b,H b≠none->H' b≠none
theorem qH {H H':Hp}(s:ah H H')(b:Addr)(h:H b≠none):H' b≠none:=λz=>by
 cases e:H b with
 | none=>exact h e
 | some o=>rw[s _ _ e] at z; cases z
theorem qg {H:Hp}{c:Addr}{o:HO}(b:Addr)(h:H b≠none):upd H c o b≠none:=λz=>by
 by_cases e:b=c
 ·rw[e,au] at z; cases z
 ·rw[aG e] at z; exact h z
theorem Kp.trans {A:List Addr}{H H1 H2:Hp}(a:Kp K A H H1)(b:Kp K A H1 H2):Kp K A H H2:=⟨λc o h n=>b.keep c o (a.keep c o h n) n,λq xs h=>b.tup q xs (a.tup q xs h),λq xs h=>b.ft q xs (a.ft q xs h),λc h=>b.live c (a.live c h)⟩
theorem Kp.same {A:List Addr}{H H':Hp}(s:ah H H'):Kp K A H H':=⟨λb o h _=>s b o h,λq xs h=>s.tup h,λq xs h=>h.same s,λb h=>qH s b h⟩
theorem Kp.put {A:List Addr}{H:Hp}{c:Addr}{o:HO}(mu:dZ (H c))(hc:c∈A):Kp K A H (upd H c o):=⟨λb u h n=>by rw[aG (λ(z:b=c)=>n (by rw[z]; exact hc))]; exact h,λq xs h=>cO mu h,λq xs h=>h.upd mu,λb h=>qg b h⟩
theorem _root_.L2.cS.kp {H H':Hp}{a:Addr}{mm:Dt->Option V}{n:Nat}(h:cS K P w H a mm n)(e:∀u,H a=some u->H' a=some u)(k:∀q xs,aK K H q xs->aK K H' q xs):cS K P w H' a mm n:=by
 refine h.keep ?_ k
 obtain⟨ds,e1,_⟩:=h
 rw[e1]
 exact e _ e1
theorem aV {ta:TE}{σ:L2.St}{H:Hp}{a C dx:Addr}{fs:List (Str × V)}{f:Str}{v:V}(h:Gv ta σ H (.ref a))(e:H a=some (.ins C dx fs))(c:iF K C)(n:bw K C f)(l:fs.lookup f=some v):Gv (vA K ta f) σ H v:=λR r=>h _ λH' s=>⟨a,C,dx,fs,v,rfl,s _ _ e,c,n,l,r H' s⟩
theorem E7 {neg:Bool}{ty td:TE}{σ:L2.St}{H:Hp}{a b:Addr}{mm:Dt->Option V}{n:Nat}{d:Dt}(hy:Gv ty σ H (.ref b))(hd:∀H',ah H H'->Gv td σ H' (.ref a))(hm:cS K P w H a mm n)(hk:NK K H d b):Gv (SX K P w neg ty td) σ H (.bl (neg ^^ (mm d).isSome)):=
 λR r=>hy _ λH1 s1=>hd H1 s1 _ λH2 s2=>⟨a,_,rfl,⟨mm,n,d,b,hm.same (s1.trans s2),rfl,hk.tups λq xs h=>(s1.trans s2).tup h,rfl⟩,r H2 (s1.trans s2)⟩
theorem o5 {ty td:TE}{σ:L2.St}{H:Hp}{a b:Addr}{mm:Dt->Option V}{n:Nat}{d:Dt}{v:V}(hd:Gv td σ H (.ref a))(hy:∀H',ah H H'->Gv ty σ H' (.ref b))(hm:cS K P w H a mm n)(hk:NK K H d b)(e:mm d=some v):Gv (OH K P w td ty) σ H v:=
 λR r=>hd _ λH1 s1=>hy H1 s1 _ λH2 s2=>⟨a,v,rfl,⟨mm,n,d,b,hm.same (s1.trans s2),rfl,hk.tups λq xs h=>(s1.trans s2).tup h,e.symm⟩,r H2 (s1.trans s2)⟩
theorem QO {tv ty td:TE}{us:TS}{D:Ends}{σ:L2.St}{H:Hp}{a b:Addr}{mm:Dt->Option V}{n:Nat}{d:Dt}{v:V}(hv:Gv tv σ H v)(hd:∀H',ah H H'->Gv td σ H' (.ref a))(hy:∀H',ah H H'->Gv ty σ H' (.ref b))(hm:cS K P w H a mm n)(hn:n < sizeLine)(hk:NK K H d b)
  (k:∀H' o,ah H H'->cS K P w (upd H' a o) a (λj=>if j=d then some v else mm j) (n+1)->us D σ (upd H' a o)):eK (OI K P w td ty tv) us D σ H:=
 hv _ λH1 s1=>hd H1 s1 _ λH2 s2=>hy H2 (s1.trans s2) _ λH3 s3=>by
  have s:=s1.trans (s2.trans s3)
  exact⟨a,rfl,mm,n,d,b,hm.same s,hn,rfl,hk.tups λq xs h=>s.tup h,λo h=>k H3 o s h⟩
theorem Cn {ta tb:TE}{D:Ends}{σ:L2.St}{H:Hp}{l:Addr}{xs:List V}{y:V}(ha:Gv ta σ H (.ref l))(hq:H l=some (.lst xs))(hb:∀H',ah H H'->Gv tb σ H' y)(hz:xs.length < sizeLine)(k:∀H',ah H H'->D.nx σ (upd H' l (.lst (xs++[y])))):Dd (Kg K "list" GV ta (cE tb dc)) D σ H:=
 ha _ λH1 s1=>⟨.inl ⟨rfl,_,aE.of (s1 _ _ hq)⟩,hb H1 s1 _ λH2 s2=>⟨l,xs,y,rfl,rfl,(s1.trans s2) _ _ hq,hz,k H2 (s1.trans s2)⟩⟩
theorem A_ {H:Hp}:∀qs:List (Addr × Int × Int),(∀q∈qs,aK K H q.1 [.int q.2.1,.int q.2.2])->aD K H ((qs.map (·.2)).map gM) (qs.map q1)
 | [],_=>by show aD K H [] []; unfold aD; rfl
 | q::qs,h=>by
  show aD K H (gM q.2::(qs.map (·.2)).map gM) (q1 q::qs.map q1)
  unfold aD
  refine⟨_,_,rfl,?_,A_ qs λp hp=>h p (List.mem_cons_of_mem _ hp)⟩
  unfold gM Rep
  refine⟨q.1,_,rfl,h q List.mem_cons_self,?_⟩
  unfold aD
  refine⟨_,_,rfl,by unfold Rep; rfl,?_⟩
  unfold aD
  exact⟨_,_,rfl,by unfold Rep; rfl,by unfold aD; rfl⟩
theorem uh:∀ps:List (Int × Int),h_ (ps.map gM)=true
 | []=>rfl
 | p::ps=>by show (ji (gM p)&&h_ (ps.map gM))=true; rw[uh ps]; rfl
theorem z7:∀ps:List (Int × Int),gT (ps.map gM)<=1
 | []=>Nat.zero_le _
 | p::ps=>by
  show max (n9 (gM p)) (gT (ps.map gM))<=1
  have:=z7 ps
  have e:n9 (gM p)=1:=rfl
  omega
theorem QS {H:Hp}{nm l:Addr}{d:Nat}{qs:List (Addr × Int × Int)}(h:aK K H nm [.int (d:Int),.ref l])(hl:aK K H l (qs.map q1))(hq:∀q∈qs,aK K H q.1 [.int q.2.1,.int q.2.2]):NK K H (A9 d (qs.map (·.2))) nm:=by
 refine NK.of h ?_ ?_ ?_
 ·unfold aD
  refine⟨_,_,rfl,by unfold Rep; rfl,?_⟩
  unfold aD
  refine⟨_,_,rfl,?_,by unfold aD; rfl⟩
  unfold Rep
  exact⟨l,_,rfl,hl,A_ qs hq⟩
 ·show (true&&(h_ ((qs.map (·.2)).map gM)&&true))=true
  rw[uh]
  rfl
 ·have:=z7 (qs.map (·.2))
  show max 0 (max (gT ((qs.map (·.2)).map gM)+1) 0)<=7
  omega
theorem Ls (ps:List (Int × Int)):SN (.tup (ps.map gM)) (.tup []):=⟨w_ _ (uh ps),rfl,by
 have:(Dt.tup []).py.depth=1:=rfl
 rw[this]
 exact Nat.le_trans (Nat.min_le_right _ _) (by decide)⟩
theorem Nr (ps:List (Int × Int)):PyData.eqv (Dt.tup (ps.map gM)).py (Dt.tup []).py=decide (ps=[]):=by
 cases ps with
 | nil=>rfl
 | cons p ps=>rfl
theorem dj {C s dx:Addr}{m:Str}{sp:Sp}{E:XK}{ta:TE}{tt:TA}{σ:L2.St}{H:Hp}{R:VK}{fs:List (Str × V)}(ha:Gv ta σ H (.ref s))(ob:H s=some (.ins C dx fs))(nl:fs.lookup m=none)(k:∀H1,ah H H1->tt σ H1 λvs H2=>sp (.ref s::(vs++[])) H2 R E):zp C m sp [] E ta tt σ H R:=
 ha _ λH1 s1=>⟨s,dx,fs,rfl,s1 _ _ ob,nl,k H1 s1⟩
theorem z8 (A:FA):(v_ A).lookup ("number_for":Str)=none/\(v_ A).lookup ("in_either":Str)=none/\(v_ A).lookup ("in_both":Str)=none/\(v_ A).lookup ("with_first":Str)=none/\(v_ A).lookup ("of_one":Str)=none/\(v_ A).lookup ("least":Str)=none:=⟨rfl,rfl,rfl,rfl,rfl,rfl⟩
theorem Tw {t1 t2:TE}{σ:L2.St}{H:Hp}{R:VK}{v1:V}(h:Gv t1 σ H v1)(k:∀H',ah H H'->t2 σ H' λv2 H2=>2<=sizeLine/\∀p,H2 p=none->R (.ref p) (upd H2 p (.tup [v1,v2]))):qR (cE t1 (cE t2 dc)) σ H R:=h _ λH' s=>k H' s
theorem QT {ta:TE}{g:TG}{tb:TS}{D:Ends}{σ:L2.St}{H:Hp}{a:Addr}{xs:List V}(h:Gv ta σ H (.ref a))(hq:aK K H a xs)(Pv:Nat->L2.St->Hp->Prop)(h0:∀H',ah H H'->Pv 0 σ H')(hl:∀i σ H,Pv i σ H->aK K H a xs)
  (hs:∀i x σ H,xs[i]?=some x->Pv i σ H->g x σ H fun σ2 H2=>tb { D with nx:=Pv (i+1),ct:=Pv (i+1),bk:=D.nx } σ2 H2) (hd:∀σ H,Pv xs.length σ H->D.nx σ H):kh (vn K ta) g tb D σ H:=
 h _ λH' s=>⟨a,rfl,⟨xs,s.tup hq⟩,Qa Pv (h0 H' s) (λi σ H _ p=>hl i σ H p) hs hd⟩
theorem QU {ta:TE}{g:TG}{tb us:TS}{D:Ends}{σ:L2.St}{H:Hp}{a:Addr}{xs:List V}(h:Gv ta σ H (.ref a))(hq:aK K H a xs)(Pv:Nat->L2.St->Hp->Prop)(h0:∀H',ah H H'->Pv 0 σ H')(hl:∀i σ H,Pv i σ H->aK K H a xs)
  (hs:∀i x σ H,xs[i]?=some x->Pv i σ H->g x σ H fun σ2 H2=>tb { D with nx:=Pv (i+1),ct:=Pv (i+1),bk:=us D } σ2 H2) (hd:∀σ H,Pv xs.length σ H->us D σ H):eK (kh (vn K ta) g tb) us D σ H:=
 QT (D:={ D with nx:=us D }) h hq Pv h0 hl hs hd
theorem TF {td ty:TE}{D:Ends}{σ:L2.St}{H:Hp}{a:Addr}{kvs:List (Key × V)}{f:Int}{v:V}(hd:Gv td σ H (.ref a))(hy:∀H',ah H H'->Gv ty σ H' (.int f))(e:H a=some (.dK kvs))(hl:kvs.length < sizeLine)(k:∀H',ah H H'->D.nx σ (upd H' a (.dK (putK kvs (.inl f) v)))) :
  td σ H λx H2=>ty σ H2 λy H3=>∃a H4,x=.ref a/\yG H3 a y v H4/\D.nx σ H4:=hd _ λH1 s1=>hy H1 s1 _ λH2 s2=>⟨a,_,rfl,yG.k (k:=.inl f) ((s1.trans s2) _ _ e) hl,k H2 (s1.trans s2)⟩
theorem sO {te:TE}{σ:L2.St}{H:Hp}{R:List V->Hp->Prop}(h:te σ H λv H1=>R [v] H1):cE te dc σ H R:=h
theorem z9 {te:TE}{σ:L2.St}{H:Hp}{R:VK}(h:te σ H λv H1=>1<=sizeLine/\∀p,H1 p=none->R (.ref p) (upd H1 p (.lst [v]))):lK (cE te dc) σ H R:=h
theorem Nt {tt:TA}{g:TG}{tb us:TS}{D:Ends}{σ:L2.St}{H:Hp}{lo n:Nat}(h:Ga tt σ H [.int (lo:Int),.int ((lo+n:Nat):Int)])(hn:lo+n<=1000)(Pv:Nat->L2.St->Hp->Prop)(h0:∀H',ah H H'->Pv 0 σ H')
  (hs:∀i σ H,i < n->Pv i σ H->g (.int ((lo:Int)+(i:Int))) σ H fun σ2 H2=>tb { D with nx:=Pv (i+1),ct:=Pv (i+1),bk:=us D } σ2 H2) (hd:∀σ H,Pv n σ H->us D σ H):eK (kh (Df tt) g tb) us D σ H:=
 h _ λH' s=>⟨(lo:Int),((lo+n:Nat):Int),rfl,⟨by omega,by omega,by omega,by omega⟩,by
  have e:(((lo+n:Nat):Int) - (lo:Int)).toNat=n:=by omega
  rw[e]
  exact vp (lo:=(lo:Int)) (n:=n) (D:={ D with nx:=us D }) Pv (h0 H' s) hs hd⟩
theorem Nu {xs:List V}{k:Nat}(h:k < xs.length):lM xs (-1 - (k:Int))=xs[xs.length - 1 - k]?:=by
 unfold lM DW
 rw[if_neg (by omega),if_pos (by omega)]
 show xs[_]?=_
 congr 1
 omega
theorem Hw {ta:TE}{D:Ends}{σ:L2.St}{H:Hp}{p C dx:Addr}{fs:List (Str × V)}{f:Str}(ha:∀H',Gv ta σ H' (.ref p))(e:H p=some (.ins C dx fs))(c:iF K C)(n:bw K C f)(hl:fs.length < 1000)
  (k:∀a H2,H a=none->cS K P w H2 a (λ_=>none) 0->Kp K [p] H H2->H2 p=some (.ins C dx (aF f (.ref a) fs))->D.nx σ H2):yt K ta (Jf K P w) f D σ H:=by
 intro a o ha0 hN
 have TH:a≠p:=λz=>by rw[z,e] at ha0; cases ha0
 refine ha _ _ λH1 s1=>⟨p,C,dx,fs,rfl,s1 _ _ ((ah.new ha0 o) _ _ e),c,n,hl,?_⟩
 have e1:H1 p=some (.ins C dx fs):=s1 _ _ ((ah.new ha0 o) _ _ e)
 have mu:dZ (H1 p):=by rw[e1]; exact True.intro
 have Wa:Kp K [p] H1 (upd H1 p (.ins C dx (aF f (.ref a) fs))):=Kp.put mu (by simp)
 exact k a _ ha0 ((hN.same s1).kp (λu h=>by rw[aG TH]; exact h) Wa.tup) ((Kp.same ((ah.new ha0 o).trans s1)).trans Wa) au
theorem o6 {ta:TE}{us:TS}{D:Ends}{σ:L2.St}{H:Hp}{p C dx:Addr}{fs:List (Str × V)}{f:Str}(ha:∀H',Gv ta σ H' (.ref p))(e:H p=some (.ins C dx fs))(c:iF K C)(n:bw K C f)(hl:fs.length < 1000)
  (k:∀a H2,H a=none->cS K P w H2 a (λ_=>none) 0->Kp K [p] H H2->H2 p=some (.ins C dx (aF f (.ref a) fs))->us D σ H2):eK (yt K ta (Jf K P w) f) us D σ H:=Hw (D:={ D with nx:=us D }) ha e c n hl k
theorem QV {ta tv:TE}{D:Ends}{σ:L2.St}{H:Hp}{p C dx:Addr}{fs:List (Str × V)}{f:Str}{v:V}(hv:Gv tv σ H v)(ha:∀H',Gv ta σ H' (.ref p))(e:H p=some (.ins C dx fs))(c:iF K C)(n:bw K C f)(hl:fs.length < 1000)
  (k:∀H2,Kp K [p] H H2->H2 p=some (.ins C dx (aF f v fs))->D.nx σ H2):yt K ta tv f D σ H:=by
 refine hv _ λH0 s0=>ha _ _ λH1 s1=>⟨p,C,dx,fs,rfl,(s0.trans s1) _ _ e,c,n,hl,?_⟩
 have mu:dZ (H1 p):=by rw[(s0.trans s1) _ _ e]; exact True.intro
 exact k _ ((Kp.same (s0.trans s1)).trans (Kp.put mu (by simp))) au
theorem xm {ta tv:TE}{us:TS}{D:Ends}{σ:L2.St}{H:Hp}{p C dx:Addr}{fs:List (Str × V)}{f:Str}{v:V}(hv:Gv tv σ H v)(ha:∀H',Gv ta σ H' (.ref p))(e:H p=some (.ins C dx fs))(c:iF K C)(n:bw K C f)(hl:fs.length < 1000)
  (k:∀H2,Kp K [p] H H2->H2 p=some (.ins C dx (aF f v fs))->us D σ H2):eK (yt K ta tv f) us D σ H:=QV (D:={ D with nx:=us D }) hv ha e c n hl k
theorem Hz {ta:TE}{us:TS}{D:Ends}{σ:L2.St}{H:Hp}{p C dx:Addr}{fs:List (Str × V)}{f:Str}(ha:∀H',Gv ta σ H' (.ref p))(e:H p=some (.ins C dx fs))(c:iF K C)(n:bw K C f)(hl:fs.length < 1000)
  (k:∀a H2,H a=none->H2 a=some (.dK [])->Kp K [p] H H2->H2 p=some (.ins C dx (aF f (.ref a) fs))->us D σ H2):eK (yt K ta KW f) us D σ H:=by
 intro a ha0
 have TH:a≠p:=λz=>by rw[z,e] at ha0; cases ha0
 refine ha _ _ λH1 s1=>⟨p,C,dx,fs,rfl,s1 _ _ ((ah.new ha0 (.dK [])) _ _ e),c,n,hl,?_⟩
 have e1:H1 p=some (.ins C dx fs):=s1 _ _ ((ah.new ha0 (.dK [])) _ _ e)
 have mu:dZ (H1 p):=by rw[e1]; exact True.intro
 exact k a _ ha0 (by rw[aG TH]; exact s1 _ _ au) ((Kp.same ((ah.new ha0 _).trans s1)).trans (Kp.put mu (by simp))) au
structure WA where
 ll:Addr
 cl:Addr
 ck:Addr
 pk:Addr
 dk:Addr
def xU (sa:Addr)(x:Str)(h:Nat)(W:WA):List (Str × V):=[("sets",.ref sa),("letters",.str x),("high",.int (h:Int)),("lower_left",.ref W.ll),("closing",.ref W.cl),("choices_known",.ref W.ck),("placed_known",.ref W.pk),("closed_known",.ref W.dk)]
theorem yS (sa:Addr)(x:Str)(h:Nat)(W:WA):(xU sa x h W).lookup ("sets":Str)=some (.ref sa)/\(xU sa x h W).lookup ("letters":Str)=some (.str x)/\(xU sa x h W).lookup ("high":Str)=some (.int (h:Int))/\(xU sa x h W).lookup ("lower_left":Str)=some (.ref W.ll)/\(xU sa x h W).lookup ("closing":Str)=some (.ref W.cl)/\(xU sa x h W).lookup ("choices_known":Str)=some (.ref W.ck)/\(xU sa x h W).lookup ("placed_known":Str)=some (.ref W.pk)/\(xU sa x h W).lookup ("closed_known":Str)=some (.ref W.dk):=⟨rfl,rfl,rfl,rfl,rfl,rfl,rfl,rfl⟩
theorem HJ {ta:TE}{g:TG}{tb:TS}{D:Ends}{σ:L2.St}{H:Hp}{a:Addr}{xs:List V}(h:Gv ta σ H (.ref a))(hq:aE K H a xs)(Pv:Nat->L2.St->Hp->Prop)(h0:∀H',ah H H'->Pv 0 σ H')(hl:∀i σ H,Pv i σ H->aE K H a xs)
  (hs:∀i x σ H,xs[i]?=some x->Pv i σ H->g x σ H fun σ2 H2=>tb { D with nx:=Pv (i+1),ct:=Pv (i+1),bk:=D.nx } σ2 H2) (hd:∀σ H,Pv xs.length σ H->D.nx σ H):kh (oN K ta) g tb D σ H:=
 h _ λH' s=>⟨a,rfl,⟨xs,s.seq hq⟩,DR Pv (h0 H' s) (λi σ H _ p=>hl i σ H p) hs hd⟩
theorem QW {ta:TE}{g:TG}{tb us:TS}{D:Ends}{σ:L2.St}{H:Hp}{a:Addr}{xs:List V}(h:Gv ta σ H (.ref a))(hq:aE K H a xs)(Pv:Nat->L2.St->Hp->Prop)(h0:∀H',ah H H'->Pv 0 σ H')(hl:∀i σ H,Pv i σ H->aE K H a xs)
  (hs:∀i x σ H,xs[i]?=some x->Pv i σ H->g x σ H fun σ2 H2=>tb { D with nx:=Pv (i+1),ct:=Pv (i+1),bk:=us D } σ2 H2) (hd:∀σ H,Pv xs.length σ H->us D σ H):eK (kh (oN K ta) g tb) us D σ H:=HJ (D:={ D with nx:=us D }) h hq Pv h0 hl hs hd
def qh (l r:Int)(ls:Str):Dt:=.tup [.int l,.int r,.str ls]
theorem HK {H:Hp}{nm:Addr}{a b:Int}{ls:Str}(h:aK K H nm [.int a,.int b,.str ls])(hs:PyData.strOk ls=true):NK K H (qh a b ls) nm:=by
 refine NK.of h ?_ (by show (true&&(true&&(PyData.strOk ls&&true)))=true; rw[hs]; rfl) (by show max 0 (max 0 (max 0 0))<=7; decide)
 unfold aD
 refine⟨_,_,rfl,by unfold Rep; rfl,?_⟩
 unfold aD
 refine⟨_,_,rfl,by unfold Rep; rfl,?_⟩
 unfold aD
 exact⟨_,_,rfl,by unfold Rep; rfl,by unfold aD; rfl⟩
theorem TJ {ta tb:TE}{σ:L2.St}{H:Hp}{c:Nat}{ls:Str}(h:Gv ta σ H (.str ⟨#[c]⟩))(g:∀H',ah H H'->Gv tb σ H' (.str ls)):Gv (cZ (λx y H Q=>∃i j,x=.str i/\y=.str j/\Q (.bl (!(Builtin.Str.occurrences j i 0 j.length 1).isEmpty)) H) ta tb) σ H (.bl (decide (c∈ls.cps.toList))):=
 λR r=>h _ λH1 s1=>g H1 s1 _ λH2 s2=>⟨_,_,rfl,rfl,by
  have e:=StrLaws.found_one ls c
  first | (rw[e]; exact r H2 (s1.trans s2)) | (rw[StrLaws.found_one]; exact r H2 (s1.trans s2))⟩
theorem HL {td ty:TE}{σ:L2.St}{H:Hp}{a:Addr}{kvs:List (Key × V)}{f:Int}{v:V}(hd:Gv td σ H (.ref a))(hy:∀H',ah H H'->Gv ty σ H' (.int f))(e:H a=some (.dK kvs))(hv:eB kvs (.inl f)=some v):Gv (Jd td ty) σ H v:=
 λR r=>hd _ λH1 s1=>hy H1 s1 _ λH2 s2=>⟨a,v,rfl,(by have:=tR.k (k:=.inl f) ((s1.trans s2) _ _ e); rw[hv] at this; exact this),r H2 (s1.trans s2)⟩
theorem QX {td ty:TE}{σ:L2.St}{H:Hp}{a:Addr}{kvs:List (Key × V)}{f:Int}(hy:Gv ty σ H (.int f))(hd:∀H',ah H H'->Gv td σ H' (.ref a))(e:H a=some (.dK kvs)):Gv (G8 ty td) σ H (.bl (!(eB kvs (.inl f)).isSome)):=
 λR r=>hy _ λH1 s1=>hd H1 s1 _ λH2 s2=>⟨a,_,rfl,tR.k (k:=.inl f) ((s1.trans s2) _ _ e),r H2 (s1.trans s2)⟩
section
variable {C:Addr}{sp:Sp}{E:XK}{te:TE}{tt:TA}{σ:L2.St}{H:Hp}{v:V}
theorem z_ {R:VK}(h:tt σ H λvs H1=>∀x dx,H1 x=none->H1 dx=none->dx≠x->sp (.ref x::(vs++[])) (upd (upd H1 dx (.own x)) x (.ins C dx [])) (λv H2=>v=.aR/\R (.ref x) H2) E):zq C sp [] E tt σ H R:=h
end
section
variable {C:Addr}{sp:Sp}{E:XK}{te:TE}{tt:TA}{σ:L2.St}{H:Hp}{v:V}
theorem cR {R:List V->Hp->Prop}(h:Gv te σ H v)(k:∀H',ah H H'->tt σ H' λvs H2=>R (v::vs) H2):cE te tt σ H R:=h _ λH' s=>k H' s
end
section
variable {C:Addr}{sp:Sp}{E:XK}{te:TE}{tt:TA}{σ:L2.St}{H:Hp}{v:V}
theorem qi {R:List V->Hp->Prop}(h:te σ H λv H1=>tt σ H1 λvs H2=>R (v::vs) H2):cE te tt σ H R:=h
end
theorem Lu {tt:TA}{g:TG}{tb:TS}{D:Ends}{σ:L2.St}{H:Hp}{a:Addr}{xs:List V}(h:Ga tt σ H [.ref a])(hq:aE K H a xs)(Pv:Nat->L2.St->Hp->Prop)(h0:∀H',ah H H'->Pv 0 σ H')(hl:∀i σ H,Pv i σ H->aE K H a xs)
  (hs:∀i x σ H,i < xs.length->xs[xs.length - 1 - i]?=some x->Pv i σ H->g x σ H fun σ2 H2=>tb { D with nx:=Pv (i+1),ct:=Pv (i+1),bk:=D.nx } σ2 H2) (hd:∀σ H,Pv xs.length σ H->D.nx σ H):kh (MY K tt) g tb D σ H:=by
 refine h _ λH' s=>⟨a,xs,rfl,s.seq hq,?_⟩
 refine⟨λi m σ H=>m=xs.length - i/\i<=xs.length/\Pv i σ H,⟨xs.length,by simp,Nat.zero_le _,h0 H' s⟩,?_⟩
 rintro i m σ H ⟨rfl,hi,p⟩
 by_cases hlt:i < xs.length
 ·refine .inr ⟨⟨xs,hl i σ H p,rfl,hlt⟩,Pv (i+1),fun σ' H' p'=>⟨xs.length - (i+1),by omega,rfl,hlt,p'⟩,λv H' z=>?_⟩
  obtain⟨rfl,hz⟩:=z
  exact hs i v σ _ hlt (hz xs (hl i σ _ p)) p
 ·have e:i=xs.length:=by omega
  subst e
  exact .inl ⟨rfl,hd σ H p⟩
theorem Lv {tt:TA}{g:TG}{tb us:TS}{D:Ends}{σ:L2.St}{H:Hp}{a:Addr}{xs:List V}(h:Ga tt σ H [.ref a])(hq:aE K H a xs)(Pv:Nat->L2.St->Hp->Prop)(h0:∀H',ah H H'->Pv 0 σ H')(hl:∀i σ H,Pv i σ H->aE K H a xs)
  (hs:∀i x σ H,i < xs.length->xs[xs.length - 1 - i]?=some x->Pv i σ H->g x σ H fun σ2 H2=>tb { D with nx:=Pv (i+1),ct:=Pv (i+1),bk:=us D } σ2 H2) (hd:∀σ H,Pv xs.length σ H->us D σ H):eK (kh (MY K tt) g tb) us D σ H:=Lu (D:={ D with nx:=us D }) h hq Pv h0 hl hs hd
theorem TM {te:TE}{σ:L2.St}{H:Hp}{a:Addr}{xs:List V}(h:Gv te σ H (.ref a))(hq:aE K H a xs):Gn (ME K te) σ H xs.reverse:=λR r=>h _ λH1 s1=>.inr ⟨a,xs,rfl,s1.seq hq,λp hp=>r p _ (s1.free hp) (s1.trans (ah.new hp _)) au⟩
theorem nR {sp:Sp}{E:XK}{tt:TA}{σ:L2.St}{H:Hp}{R:VK}(h:tt σ H λvs H1=>sp (vs++[]) H1 R E):wY sp [] E tt σ H R:=h
end
end bJ
set_option maxHeartbeats 1000000
namespace bJ
open PySem PySem.Spec PyProof.Rows L2 j_ TB
inductive Kd
 | br | kn | ck | pk | dk | fr
abbrev Mp:=Addr->Option Kd
section
variable {P:Program}{w:World}{K:PySem.W.Frag}
def Off (k:Option Kd):Prop:=k=none\/k=some .fr
structure Kw (K:PySem.W.Frag)(M:Mp)(H H':Hp):Prop where
 kf:∀b o,H b=some o->Off (M b)->H' b=some o
 tup:∀q xs,aK K H q xs->aK K H' q xs
 live:∀b,H b≠none->H' b≠none
def um (K:PySem.W.Frag)(P:Program)(w:World)(M:Mp)(L:Nat)(H:Hp)(a:Addr):Kd->Prop
 | .br=>∃t0 vs,H a=some (.lst (.ref t0::vs))/\aK K H t0 []/\vs.length<=L
 | .kn=>∃mm,cS K P w H a mm L/\∀d v,mm d=some v->∃i:Int,v=.int i
 | .ck=>∃mm,cS K P w H a mm L/\∀d v,mm d=some v->∃q,v=.ref q/\M q=none/\H q=some (.lst [])
 | .pk=>∃mm,cS K P w H a mm L/\∀d v,mm d=some v->v=.int 0
 | .dk=>∃kvs:List (Key × V),H a=some (.dK kvs)/\kvs.length<=L/\∀n v,eB kvs (.inl n)=some v->v=.int 0
 | .fr=>dZ (H a)/\∃o,H a=some o
def Wd (K:PySem.W.Frag)(P:Program)(w:World)(M:Mp)(L:Nat)(H:Hp):Prop:=∀a k,M a=some k->um K P w M L H a k
variable {M M':Mp}{H H' H2:Hp}{L L':Nat}{a:Addr}{k:Kd}
theorem Kw.keep (x:Kw K M H H')(b:Addr)(o:HO)(e:H b=some o)(m:M b=none):H' b=some o:=x.kf b o e (.inl m)
theorem Kw.same (s:ah H H'):Kw K M H H':=⟨λb o e _=>s b o e,λq xs h=>s.tup h,λb h=>qH s b h⟩
theorem Kw.trans (x:Kw K M H H')(y:Kw K M H' H2):Kw K M H H2:=⟨λb o e m=>y.kf b o (x.kf b o e m) m,λq xs h=>y.tup q xs (x.tup q xs h),λb h=>y.live b (x.live b h)⟩
theorem Kw.st (x:Kw K M H H')(s:ah H' H2):Kw K M H H2:=x.trans (Kw.same s)
theorem Kw.put {o:HO}(hm:M a=some k)(mu:dZ (H a))(hk:k≠.fr:=by nofun):Kw K M H (upd H a o):=⟨λb u e m=>by rw[aG (λz=>by rw[z,hm] at m; rcases m with m | m <;> cases m; exact hk rfl)]; exact e,λq xs h=>cO mu h,λb h=>qg b h⟩
theorem Kw.free {b:Addr}(x:Kw K M H H')(h:H' b=none):H b=none:=by
 cases e:H b with
 | none=>rfl
 | some o=>exact absurd h (x.live b (by rw[e]; exact λz=>nomatch z))
theorem um.mut (h:um K P w M L H a k):dZ (H a):=by
 cases k with
 | br=>obtain⟨t0,vs,e,_⟩:=h; rw[e]; exact True.intro
 | kn=>exact h.choose_spec.1.mut
 | ck=>exact h.choose_spec.1.mut
 | pk=>exact h.choose_spec.1.mut
 | dk=>obtain⟨kvs,e,_⟩:=h; rw[e]; exact True.intro
 | fr=>exact h.1
theorem um.keep (h:um K P w M L H a k)(e:H' a=H a)(xt:∀q xs,aK K H q xs->aK K H' q xs)(xk:∀q,H q=some (.lst [])->M q=none->H' q=some (.lst []))(hl:L<=L')(ex:∀q,M q=none->H q≠none->M' q=none):um K P w M' L' H' a k:=by
 cases k with
 | br=>obtain⟨t0,vs,e1,e2,e3⟩:=h; exact⟨t0,vs,e.trans e1,xt _ _ e2,by omega⟩
 | kn=>obtain⟨mm,e1,e2⟩:=h; exact⟨mm,(e1.keep e xt).le hl,e2⟩
 | ck=>
  obtain⟨mm,e1,e2⟩:=h
  refine⟨mm,(e1.keep e xt).le hl,λd v z=>?_⟩
  obtain⟨q,q1,q2,q3⟩:=e2 d v z
  exact⟨q,q1,ex q q2 (by rw[q3]; exact λz=>nomatch z),xk _ q3 q2⟩
 | pk=>obtain⟨mm,e1,e2⟩:=h; exact⟨mm,(e1.keep e xt).le hl,e2⟩
 | dk=>obtain⟨kvs,e1,e2,e3⟩:=h; exact⟨kvs,e.trans e1,by omega,e3⟩
 | fr=>exact⟨by rw[e]; exact h.1,by rw[e]; exact h.2⟩
theorem um.some (h:um K P w M L H a k):∃o,H a=some o:=by
 cases k with
 | br=>obtain⟨t0,vs,e,_⟩:=h; exact⟨_,e⟩
 | kn=>obtain⟨mm,⟨ds,e,_⟩,_⟩:=h; exact⟨_,e⟩
 | ck=>obtain⟨mm,⟨ds,e,_⟩,_⟩:=h; exact⟨_,e⟩
 | pk=>obtain⟨mm,⟨ds,e,_⟩,_⟩:=h; exact⟨_,e⟩
 | dk=>obtain⟨kvs,e,_⟩:=h; exact⟨_,e⟩
 | fr=>exact h.2
theorem Wd.same (W:Wd K P w M L H)(s:ah H H'):Wd K P w M L H':=λa k m=>by
 obtain⟨o,e⟩:=(W a k m).some
 exact (W a k m).keep ((s _ _ e).trans e.symm) (λq xs h=>s.tup h) (λq h _=>s _ _ h) (Nat.le_refl _) λq z _=>z
theorem Wd.le (W:Wd K P w M L H)(h:L<=L'):Wd K P w M L' H:=λa k m=>(W a k m).keep rfl (λ_ _ h=>h) (λ_ h _=>h) h λq z _=>z
theorem Wd.put {o:HO}(W:Wd K P w M L H)(m:M a=some k)(hl:L<=L')(n:um K P w M L' (upd H a o) a k):Wd K P w M L' (upd H a o):=λb j mb=>by
 by_cases e:b=a
 ·subst e
  rw[m] at mb
  cases mb
  exact n
 ·exact (W b j mb).keep (aG e) (λq xs h=>cO (W a k m).mut h) (λq h z=>by rw[aG (λy=>by rw[y,m] at z; cases z)]; exact h) hl λq z _=>z
theorem Wd.off (W:Wd K P w M L H){p:Addr}(h:H p=none):M p=none:=by
 cases e:M p with
 | none=>rfl
 | some k=>
  obtain⟨o,z⟩:=(W p k e).some
  rw[h] at z
  cases z
theorem Wd.aside {d:Addr}{o:HO}(W:Wd K P w M L H)(md:M d=none)(mu:dZ (H d))(nl:H d≠some (.lst [])):Wd K P w M L (upd H d o):=λa k m=>by
 have na:a≠d:=λz=>by rw[z,md] at m; cases m
 exact (W a k m).keep (aG na) (λq xs h=>cO mu h) (λq e mq=>by rw[aG (λz=>nl (by rw[←z]; exact e))]; exact e) (Nat.le_refl _) λq z _=>z
structure Ex (M M':Mp)(H:Hp):Prop where
 old:∀a k,M a=some k->M' a=some k
 new:∀a,H a≠none->M a=none->M' a=none
theorem Ex.refl:Ex M M H:=⟨λ_ _ e=>e,λ_ _ e=>e⟩
theorem Ex.trans {M2:Mp}(x:Ex M M' H)(y:Ex M' M2 H')(lv:∀b,H b≠none->H' b≠none):Ex M M2 H:=⟨λa k e=>y.old a k (x.old a k e),λa h e=>y.new a (lv a h) (x.new a h e)⟩
theorem Kw.ex (x:Kw K M H H')(e:∀a k,M a=some k->M' a=some k):Kw K M' H H':=⟨λb o h m=>x.kf b o h (by
 cases z:M b with
 | none=>exact .inl rfl
 | some k=>rw[e b k z] at m; exact m),x.tup,x.live⟩
def ko (M:Mp)(p:Addr):Mp:=λa=>if a=p then some .fr else M a
theorem qI {p:Addr}:ko M p p=some .fr:=if_pos rfl
theorem Ba {p:Addr}(h:a≠p):ko M p a=M a:=if_neg h
theorem Wd.ko {p:Addr}(W:Wd K P w M L H)(hp:H p=none){H':Hp}(s:ah H H')(mu:dZ (H' p))(h':∃o,H' p=some o):Wd K P w (ko M p) L H'/\Ex M (ko M p) H:=by
 have x:Ex M (bJ.ko M p) H:=⟨λa k e=>by
  rw[Ba (λz=>by rw[z,W.off hp] at e; cases e)]; exact e,λa h e=>by
  rw[Ba (λz=>by rw[z] at h; exact h hp)]; exact e⟩
 refine⟨λa k m=>?_,x⟩
 by_cases c:a=p
 ·subst c
  rw[qI] at m
  cases m
  exact⟨mu,h'⟩
 ·rw[Ba c] at m
  obtain⟨o,e⟩:=(W a k m).some
  exact (W a k m).keep ((s _ _ e).trans e.symm) (λq xs h=>s.tup h) (λq h _=>s _ _ h) (Nat.le_refl _) λq z y=>x.new q y z
theorem Wd.own {p:Addr}{o:HO}(W:Wd K P w M L H)(m:M p=some .fr)(mu:dZ (some o)):Wd K P w M L (upd H p o):=W.put m (Nat.le_refl _) ⟨by rw[au]; exact mu,_,au⟩
theorem Kw.E8 {H0:Hp}{p:Addr}{o:HO}(x:Kw K M H0 H)(h0:H0 p=none)(mu:dZ (H p)):Kw K M H0 (upd H p o):=⟨λb u e m=>by rw[aG (aW e h0)]; exact x.kf b u e m,λq xs h=>cO mu (x.tup q xs h),λb h=>qg b (x.live b h)⟩
end
end bJ
set_option maxHeartbeats 1000000
namespace bJ
open PySem PySem.Spec PyProof.Rows L2 j_ TB
section
variable {P:Program}{w:World}{K:PySem.W.Frag}{mg:Str->Option Value}{base:Heap}{t:Ad}
structure Fo (t:Ad)(M:Mp)(H:Hp)(s:Addr)(A:FA):Prop where
 ob:∃dx,H s=some (.ins t.a_ dx (v_ A))
 ms:M s=none
 mb:M A.b=some .br
 mc:M A.k=some .kn
theorem Fo.kw {M:Mp}{H H':Hp}{s:Addr}{A:FA}(F:Fo t M H s A)(k:Kw K M H H'):Fo t M H' s A:=⟨F.ob.imp λdx e=>k.keep _ _ e F.ms,F.ms,F.mb,F.mc⟩
theorem Fo.same {M:Mp}{H H':Hp}{s:Addr}{A:FA}(F:Fo t M H s A)(k:ah H H'):Fo t M H' s A:=⟨F.ob.imp λdx e=>k _ _ e,F.ms,F.mb,F.mc⟩
theorem Fo.ex {M M':Mp}{H:Hp}{s:Addr}{A:FA}(F:Fo t M H s A)(x:Ex M M' H):Fo t M' H s A:=⟨F.ob,by
 obtain⟨dx,e⟩:=F.ob
 exact x.new s (by rw[e]; exact λz=>nomatch z) F.ms,x.old _ _ F.mb,x.old _ _ F.mc⟩
def Co (K:PySem.W.Frag)(P:Program)(w:World)(C:Addr):Sp:=λvs H Q _=>∃(p dx:Addr),vs=[.ref p]/\H p=some (.ins C dx [])/\∀A t0 OU H',H' p=some (.ins C OU (v_ A))->H' A.b=some (.lst [.ref t0])->aK K H' t0 []->cS K P w H' A.k (λ_=>none) 0->A.b≠A.k->H A.b=none->H A.k=none->Kp K [p] H H'->Q .aR H'
theorem rD:aI ["self"] ["self"] (aC dG):=⟨rfl,rfl,rfl,by decide +kernel,rfl,by decide +kernel,by decide +kernel⟩
theorem rE (T:Txt K mg t):aA P w K mg base aZ 1 t.fk t.dH ["self"] (Co K P w t.a_):=by
 refine T.mJ.fn.ok rD (λvs H Q E h=>?_) (λcdv Ar outer sh H vs Q E hr h=>?_)
 ·obtain⟨p,dx,rfl,_⟩:=h
  rfl
 obtain⟨p,dx,rfl,hp,kk⟩:=h
 refine⟨_,(aj (dP K (pv 0) (aY (aa (dO ai) ai))) (aj (dP K (pv 0) (tS K P w)) (aj (dP K (pv 0) (tS K P w)) (aj (dP K (pv 0) (tS K P w)) (av (dP K (pv 0) (tS K P w))))))),?_⟩
 refine gZ (z9 ⟨(by show 0<=sizeLine; decide),λt0 ht0=>⟨(by show 1<=sizeLine; decide),λb hb=>(af (by rfl)) _ λH1 s1=>?_⟩⟩)
 have Wb:ah H H1:=((ah.new ht0 (.tup [])).trans (ah.new hb (.lst [.ref t0]))).trans s1
 have hp1:=Wb _ _ hp
 have hb1:H1 b=some (.lst [.ref t0]):=s1 _ _ au
 have ht1:aK K H1 t0 []:=(s1.tup ((ah.new hb (.lst [.ref t0])).tup (aK.of au)))
 have TN:H b=none:=(ah.new ht0 (.tup [])).free hb
 have OV:b≠p:=λz=>by rw[z,hp] at TN; cases TN
 refine⟨p,_,dx,[],rfl,hp1,T.bD,T.cP,by decide,?_⟩
 have HM:dZ (H1 p):=by rw[hp1]; exact True.intro
 have kp2:Kp K [p] H (upd H1 p (.ins t.a_ dx (aF "branches" (.ref b) []))):=(Kp.same Wb).trans (Kp.put HM (by simp))
 have hp2:(upd H1 p (.ins t.a_ dx (aF "branches" (.ref b) []))) p=some (.ins t.a_ dx (aF "branches" (.ref b) [])):=au
 have hb2:(upd H1 p (.ins t.a_ dx (aF "branches" (.ref b) []))) b=some (.lst [.ref t0]):=by rw[aG OV]; exact hb1
 have GH:aK K (upd H1 p (.ins t.a_ dx (aF "branches" (.ref b) []))) t0 []:=cO HM ht1
 generalize upd H1 p (.ins t.a_ dx (aF "branches" (.ref b) []))=H2 at *
 have nb:∀{a:Addr},a∉[p]↔a≠p:=λ{a}=>by simp
 refine o6 (λH'=>af (by rfl)) hp2 T.bD T.cT (by show 1 < 1000; decide) λk H3 hk nk kp3 hp3=>?_
 refine o6 (λH'=>af (by rfl)) hp3 T.bD T.fM (by show 2 < 1000; decide) λe H4 he ne kp4 ZQ=>?_
 refine o6 (λH'=>af (by rfl)) ZQ T.bD T.gv (by show 3 < 1000; decide) λo H5 ho no kp5 ZR=>?_
 refine Hw (λH'=>af (by rfl)) ZR T.bD T.gc (by show 4 < 1000; decide) λf H6 hf nf Lw ZS=>?_
 have OW:k≠p:=λz=>by rw[z,hp2] at hk; cases hk
 have Wc:=(kp4.trans kp5).trans Lw
 have k36:=(kp3.trans kp4).trans (kp5.trans Lw)
 refine kk ⟨b,k,e,o,f⟩ t0 dx H6 ZS (k36.keep _ _ hb2 (nb.mpr OV)) (k36.tup _ _ GH) (nk.kp (λu h=>Wc.keep _ _ h (nb.mpr OW)) Wc.tup) (λ(z:b=k)=>by rw[←z,hb2] at hk; cases hk) TN ?_ (kp2.trans k36)
 cases e1:H k with
 | none=>rfl
 | some u=>rw[kp2.keep _ _ e1 (nb.mpr OW)] at hk; cases hk
def nS (K:PySem.W.Frag)(P:Program)(w:World)(t:Ad):Sp:=λvs H Q _=>∃(s l:Addr) (d:Nat) (A:FA) (M:Mp) (L:Nat) (qs:List (Addr × Int × Int)),vs=[.ref s,.int (d:Int),.ref l]/\Fo t M H s A/\Wd K P w M L H/\
 aE K H l (qs.map q1)/\(∀q∈qs,aK K H q.1 [.int q.2.1,.int q.2.2])/\qs.length<=100/\L<=1000000/\∀r H',Wd K P w M (L+1) H'->(qs=[]->r=0)->Kw K M H H'->Q (.int r) H'
theorem gk:aI ["self","depth","branches","found","name"] ["self","depth","branches"] (aC cV):=⟨rfl,rfl,rfl,by decide +kernel,rfl,by decide +kernel,by decide +kernel⟩
theorem dW (T:Txt K mg t):aA P w K mg base aZ 1 t.cD t.bI ["self","depth","branches"] (nS K P w t):=by
 refine T.dI.fn.ok gk (λvs H Q E h=>?_) (λcdv Ar outer sh H vs Q E hr h=>?_)
 ·obtain⟨s,l,d,A,M,L,qs,rfl,_⟩:=h
  rfl
 obtain⟨s,l,d,A,M,L,qs,rfl,F,W,hl,hqs,hz,hL,kk⟩:=h
 refine⟨_,(aj (aP (i:=3) gk.nd rfl (by first | exact Or.inl rfl | exact Or.inr rfl) (lD (Qz K) (by rfl) T.Hh boot_tuple (aa (cN (N':=["branch"]) (ix:=[none]) (aT (by kernel_rfl)) rfl (jv K (pv 2)) (λ_ _ _ _=>(aL (i:=0) (show List.Nodup (["branch"]:List Str) from by decide +kernel) rfl (by first | exact Or.inl rfl | exact Or.inr rfl))) (λ_ _ _ _=>(vF (bK II (bT (pF K) (pv 0) aq (λ_ _=>rfl)) aq (bN _)))) (λ_ _ _ _=>(pv 0))) ai))) (aj (bY (bK (Xs K hr.units) (pv 3) (dO ai) (bN _)) (av (aO aq)) bF) (aj (aP (i:=4) gk.nd rfl (by first | exact Or.inl rfl | exact Or.inr rfl) (dO (aa (pv 1) (aa (pv 3) ai)))) (aj (bY (rN (AU K P w hr.uB (pv 4) (b8 K (pv 0)))) (aj (Jh K P w hr.uB (b8 K (pv 0)) (pv 4) (bq (k_ K) (by rfl) T.iP boot_len (aa (b8 K (pv 0)) ai)) rfl) (av (aX (xN K PySem.F.plainAttrs_list PySem.F.slot_list_append PySem.F.type_list_append lE (b8 K (pv 0)) (aa (pv 3) ai))))) bF) (av (aO (Jg K P w hr.uB (b8 K (pv 0)) (pv 4) (λ_ _=>rfl)))))))),?_⟩
 refine bh (AQ (zJ (K:=K) (af (by rfl)) hl λH1 s1 hl1=>?_))
 refine Jo (xs:=qs.map q1) (by rw[List.length_map,sizeLine_eq]; omega) (λD i ys H'=>ah H1 H'/\ys=((qs.take i).filter λq=>decide (q.2.2≠0)).map q1) (λD i ys H' h=>⟨h.1.seq hl1,?_⟩) (λD hD=>⟨ah.new hD _,by simp⟩) (λD i ys H' x R R0 hD ⟨sm,ey⟩ bC hx k1 k2=>?_) λZ ys H2 hD ⟨sm,ey⟩ bC=>?_
 ·rw[h.2,List.length_map]
  exact Nat.le_trans (List.length_filter_le _ _) (by simp; omega)
 ·rw[List.getElem?_map] at hx
  obtain⟨q,hq,rfl⟩:=Option.map_eq_some_iff.mp hx
  have ZT:q∈qs:=List.mem_of_getElem? hq
  have htk:qs.take (i+1)=qs.take i++[q]:=by rw[List.take_succ,hq]; rfl
  show nq (cZ RN (cZ (IU K) (eG 0) (tC (V.int 1))) (tC (V.int 0))) _ H' _
  refine (cz (Ek (jx (K:=K) (af (by rfl)) (λ_ _=>ay) ((s1.trans sm).tup (hqs q ZT)) (cu (j:=1) rfl)) (λ_ _=>ay) (by rfl))) _ λH5 s5=>?_
  by_cases hz0:q.2.2=0
  ·rw[if_neg (by simp [hz0])]
   refine k2 H5 (s5 _ _ bC) ⟨sm.trans s5,?_⟩
   rw[htk,List.filter_append,ey]
   simp [hz0]
  ·rw[if_pos (by simp [hz0])]
   refine (af (by rfl)) _ λH6 s6=>k1 _ H6 ((s5.trans s6) _ _ bC) ⟨?_,?_⟩
   ·exact (sm.trans (s5.trans s6)).put hD _
   ·rw[htk,List.filter_append,ey]
    simp [hz0]
 rw[List.length_map,List.take_length] at ey
 generalize hfs:(qs.filter λq=>decide (q.2.2≠0))=fs at ey
 subst ey
 have hfq:∀q∈fs,aK K H2 q.1 [.int q.2.1,.int q.2.2]:=λq hq=>by
  rw[←hfs] at hq
  exact (s1.trans sm).tup (hqs q (List.mem_filter.mp hq).1)
 refine⟨Z,_,rfl,aE.of bC,λl3 o3 hl3 We=>?_⟩
 have s03:ah H (upd H2 l3 o3):=(s1.trans sm).trans (ah.new hl3 _)
 have hfq3:∀q∈fs,aK K (upd H2 l3 o3) q.1 [.int q.2.1,.int q.2.2]:=λq hq=>(ah.new hl3 _).tup (hfq q hq)
 generalize upd H2 l3 o3=H3 at *
 clear bC hD sm s1 hl1 hfq
 refine gq (b:=decide (fs=[])) (gS (cz (b:=false ^^ PyData.eqv (Dt.tup ((fs.map (·.2)).map gM)).py (Dt.tup []).py) λR r=>(af (by rfl)) _ λHN sN=>⟨(by show 0<=sizeLine; decide),λq hq=>⟨_,_,Ls (fs.map (·.2)),?_,?_,r _ (sN.trans (ah.new hq _))⟩⟩) (by rw[Nr,Bool.false_xor]; simp)) (λe H4 s4=>?_) λe H4 s4=>?_
 ·have sq:=sN.trans (ah.new hq (.tup []))
  unfold Rep
  exact⟨l3,_,rfl,sq.tup We.sq,A_ fs λp hp=>sq.tup (hfq3 p hp)⟩
 ·unfold Rep
  exact⟨q,[],rfl,aK.of au,by unfold aD; rfl⟩
 ·refine cK ay λH5 s5=>?_
  have s05:=s03.trans (s4.trans s5)
  exact kk 0 H5 ((W.same s05).le (Nat.le_succ _)) (λ_=>rfl) (Kw.same s05)
 ·have hne:fs≠[]:=of_decide_eq_false e
  have Wg:qs≠[]:=λz=>hne (by rw[←hfs,z]; rfl)
  refine bh ((ao (af (by rfl)) λ_ _=>az (af (by rfl))) _ λH5 s5=>⟨(by show 2<=sizeLine; decide),λnm hnm=>?_⟩)
  have s36:ah H3 (upd H5 nm (.tup [.int (d:Int),.ref l3])):=(s4.trans s5).trans (ah.new hnm _)
  have hnk:NK K (upd H5 nm (.tup [.int (d:Int),.ref l3])) (A9 d (fs.map (·.2))) nm:=QS (aK.of au) (s36.tup We.sq) λq hq=>s36.tup (hfq3 q hq)
  generalize upd H5 nm (.tup [.int (d:Int),.ref l3])=H6 at *
  clear hnm s5 s4 H5 H4 e
  have s06:=s03.trans s36
  have W6:=W.same s06
  have F6:=F.same s06
  obtain⟨dx,ob⟩:=F6.ob
  obtain⟨t0,vs,h1,h2,h3⟩:=W6 _ _ F.mb
  obtain⟨mk,k1,k2⟩:=W6 _ _ F.mc
  refine gq (lP (E7 (K:=K) (P:=P) (w:=w) (af (by rfl)) (λH7 s7=>aV (af (by rfl)) (s7 _ _ ob) T.bD T.cT (Jr A)) k1 hnk)) (λe H7 s7=>?_) λe H7 s7=>?_
  ·refine QO (K:=K) (P:=P) (w:=w) (n:=L) (mT (K:=K) (az (aV (af (by rfl)) (s7 _ _ ob) T.bD T.cP (Nq A))) (aE.of (s7 _ _ h1))) (λH8 s8=>aV (af (by rfl)) ((s7.trans s8) _ _ ob) T.bD T.cT (Jr A)) (λ_ _=>af (by rfl)) (k1.same s7) (by rw[sizeLine_eq]; omega) (hnk.tups λq xs h=>s7.tup h) λH8 o s8 hN=>?_
   have s68:=s7.trans s8
   have W8:=W6.same s68
   have W9:Wd K P w M (L+1) (upd H8 A.k o):=W8.put F.mc (Nat.le_succ _) ⟨_,hN,λd' v z=>by
    by_cases c:d'=A9 d (fs.map (·.2))
    ·rw[if_pos c] at z; exact⟨_,(Option.some.inj z).symm⟩
    ·rw[if_neg c] at z; exact k2 d' v z⟩
   have kw9:Kw K M H (upd H8 A.k o):=(Kw.same (s06.trans s68)).trans (Kw.put F.mc (W8 _ _ F.mc).mut)
   have Wh:upd H8 A.k o s=some (.ins t.a_ dx (v_ A)):=(Kw.put (K:=K) F.mc (W8 _ _ F.mc).mut).keep _ _ (s68 _ _ ob) F.ms
   have Wj:A.b≠A.k:=λz=>by have:=F.mb; rw[z,F.mc] at this; cases this
   have Wk:upd H8 A.k o A.b=some (.lst (.ref t0::vs)):=by rw[aG Wj]; exact s68 _ _ h1
   have hnk9:NK K (upd H8 A.k o) (A9 d (fs.map (·.2))) nm:=(hnk.tups λq xs h=>s68.tup h).tups λq xs h=>cO (W8 _ _ F.mc).mut h
   have ZU:aK K (upd H8 A.k o) t0 []:=cO (W8 _ _ F.mc).mut (s68.tup h2)
   generalize upd H8 A.k o=H9 at *
   refine Cn (aV (af (by rfl)) Wh T.bD T.cP (Nq A)) Wk (λ_ _=>af (by rfl)) (by rw[sizeLine_eq]; simp; omega) λH11 s911=>?_
   have OX:dZ (H11 A.b):=by rw[s911 _ _ Wk]; exact True.intro
   have Wl:Kw K M H11 (upd H11 A.b (.lst (.ref t0::vs++[.ref l3]))):=Kw.put F.mb OX
   have W12:Wd K P w M (L+1) (upd H11 A.b (.lst (.ref t0::vs++[.ref l3]))):=(W9.same s911).put F.mb (Nat.le_refl _) ⟨t0,vs++[.ref l3],au,cO OX (s911.tup ZU),by simp; omega⟩
   have Xz:=Wl.keep _ _ (s911 _ _ Wh) F.ms
   have XA:=(hN.same s911).kp (H':=upd H11 A.b (.lst (.ref t0::vs++[.ref l3]))) (λu e=>by rw[aG (Ne.symm Wj)]; exact e) λq xs h=>cO OX h
   have Vo:=(hnk9.tups λq xs h=>s911.tup h).tups (H':=upd H11 A.b (.lst (.ref t0::vs++[.ref l3]))) λq xs h=>cO OX h
   have kw12:Kw K M H (upd H11 A.b (.lst (.ref t0::vs++[.ref l3]))):=(kw9.st s911).trans Wl
   generalize upd H11 A.b (.lst (.ref t0::vs++[.ref l3]))=HP at *
   refine cK (o5 (K:=K) (P:=P) (w:=w) (v:=.int (_:Int)) (aV (af (by rfl)) Xz T.bD T.cT (Jr A)) (λ_ _=>af (by rfl)) XA Vo (if_pos rfl)) λHQ s13=>?_
   exact kk _ HQ (W12.same s13) (λz=>absurd z Wg) (kw12.st s13)
  ·obtain⟨v,hv⟩:∃v,mk (A9 d (fs.map (·.2)))=some v:=by
    cases e2:mk (A9 d (fs.map (·.2))) with
    | some v=>exact⟨v,rfl⟩
    | none=>rw[e2] at e; exact absurd e (by decide)
   obtain⟨i,rfl⟩:=k2 _ _ hv
   refine cK (o5 (K:=K) (P:=P) (w:=w) (aV (af (by rfl)) (s7 _ _ ob) T.bD T.cT (Jr A)) (λ_ _=>af (by rfl)) (k1.same s7) (hnk.tups λq xs h=>s7.tup h) hv) λH8 s8=>?_
   exact kk i H8 ((W6.same (s7.trans s8)).le (Nat.le_succ _)) (λz=>absurd z Wg) (Kw.same (s06.trans (s7.trans s8)))
end
end bJ
set_option maxHeartbeats 1000000
namespace bJ
open PySem PySem.Spec PyProof.Rows L2 j_ TB
section
variable {P:Program}{w:World}{K:PySem.W.Frag}{mg:Str->Option Value}{base:Heap}{t:Ad}
def E9:Sp:=λvs H Q _=>vs=[.int (-1)]/\∀H',ah H H'->Q (.int 1) H'
theorem Lx:aI ["field"] ["field"] (aC pK):=⟨rfl,rfl,rfl,by decide +kernel,rfl,by decide +kernel,by decide +kernel⟩
theorem Ly (T:Txt K mg t):aA P w K mg base aZ 1 t.yL t.pO ["field"] E9:=by
 refine T.K5.fn.ok Lx (λvs H Q E h=>?_) (λcdv A outer s H vs Q E hr h=>?_)
 ·obtain⟨rfl,_⟩:=h
  rfl
 obtain⟨rfl,k⟩:=h
 refine⟨_,(av (aO (aH RM aq (aH bW (pv 0) aq)))),?_⟩
 exact cK (v:=.int 1) (eF (bS ay (λ_ _=>bO (af (by rfl)) λ_ _=>ay) ⟨by decide,by decide,by decide⟩) rfl) λH' s=>k H' s
def Nv (K:PySem.W.Frag)(P:Program)(w:World)(t:Ad):Sp:=λvs H Q _=>∃(s fa:Addr) (n:Nat) (A:FA) (M:Mp) (L:Nat),vs=[.ref s,.ref fa]/\Fo t M H s A/\Wd K P w M L H/\H fa=some (.lst (List.replicate (n+1) (.int (-1))))/\M fa=none/\n<=9/\L<=900000/\
 ∀r H',Wd K P w M (L+n) H'->Kw K M H H'->Q (.int r) H'
theorem fN:aI ["self","fields","number","depth"] ["self","fields"] (aC eu):=⟨rfl,rfl,rfl,by decide +kernel,rfl,by decide +kernel,by decide +kernel⟩
theorem uo (T:Txt K mg t):aA P w K mg base aZ 2 t.mH t.gr ["self","fields"] (Nv K P w t):=by
 have Nx:aA P w K mg base aZ 1 t.yL t.pO ["field"] E9:=Ly T
 have bU:aA P w K mg base aZ 1 t.cD t.bI ["self","depth","branches"] (nS K P w t):=dW T
 refine T.oB.fn.ok fN (λvs H Q E h=>?_) (λcdv Ar outer sh H vs Q E hr h=>?_)
 ·obtain⟨s,fa,n,A,M,L,rfl,_⟩:=h
  rfl
 obtain⟨s,fa,n,A,M,L,rfl,F,W,hfa,ZV,hn,hL,kk⟩:=h
 refine⟨_,(aj (aP (i:=2) fN.nd rfl (by first | exact Or.inl rfl | exact Or.inr rfl) (aB T.K5 Nx (hr.mono (by first | decide | omega)) aQ (aa (bT (fu K) (pv 1) (qB nJ aq) (λ_ _=>rfl)) ai))) (aj (fC PassesOwn.never rfl (vo rfl T.fm (aa aq (aa (bq (k_ K) (by rfl) T.iP boot_len (aa (pv 1) ai)) ai))) (aL (i:=3) fN.nd rfl (by first | exact Or.inl rfl | exact Or.inr rfl)) (av (aP (i:=2) fN.nd rfl (by first | exact Or.inl rfl | exact Or.inr rfl) (cY T.dI T.bD bU (hr.mono (by first | decide | omega)) aQ (pv 0) (aa (pv 3) (aa (aY (aa (dO (aa (bT (fu K) (pv 1) (aH nI (qB nJ aq) (pv 3)) (λ_ _=>rfl)) (aa (pv 2) ai))) ai)) ai)))))) (av (aO (pv 2))))),?_⟩
 have hat:∀k,k<=n->lM (List.replicate (n+1) (V.int (-1))) (-1 - (k:Int))=some (.int (-1)):=λk hk=>by
  rw[Nu (by simp; omega),List.getElem?_replicate,if_pos (by simp; omega)]
 refine gE (v:=.int 1) (fh (az (kD (K:=K) (af (by rfl)) (λ_ _=>zL ay) (aE.of hfa) (hat 0 (Nat.zero_le _)))) λH' R s k=>⟨rfl,k⟩) λH1 s1=>?_
 refine Nt (lo:=1) (n:=n) (ao ay λH2 s2=>az (eF (mT (K:=K) (az (af (by rfl))) (aE.of ((s1.trans s2) _ _ hfa))) (by rw[List.length_replicate,Nat.add_comm]))) (by omega)
  (λi σ H'=>∃e3 r,σ=[some (.ref s),some (.ref fa),some (.int r),e3]/\Wd K P w M (L+i) H'/\Kw K M H H')
  (λH2 s2=>⟨none,_,by first | rfl | simp,W.same (s1.trans s2),Kw.same (s1.trans s2)⟩) (λi σ H' hi hP=>?_) fun σ H' hP=>?_
 ·obtain⟨e3,r,rfl,Wi,kwi⟩:=hP
  have Fi:=F.kw kwi
  obtain⟨ZW,TQ⟩:=Fi.ob
  have ZX:=kwi.keep _ _ hfa ZV
  refine dj (af (by rfl)) TQ (z8 A).1 λH2 s2=>(af (by rfl)) _ λH3 s3=>?_
  have s13:=s2.trans s3
  refine sO (z9 (Tw (v1:=.int (-1)) (kD (K:=K) (i:=-1 - ((i+1:Nat):Int)) (af (by rfl)) (λ_ _=>eF (bO (zL ay) λ_ _=>af (by rfl)) (by congr 1; omega)) (aE.of (s13 _ _ ZX)) (hat (i+1) (by omega))) λH4 s4=>(af (by rfl)) _ λH5 s5=>⟨(by show 2<=sizeLine; decide),λnt hnt=>⟨(by show 1<=sizeLine; decide),λl hl=>?_⟩⟩))
  have TR:=(s13.trans (s4.trans s5)).trans ((ah.new hnt (.tup [.int (-1),.int r])).trans (ah.new hl (.lst [.ref nt])))
  refine⟨s,l,i+1,A,M,L+i,[(nt,-1,r)],?_,Fi.same TR,Wi.same TR,aE.of au,λq hq=>?_,by simp,by omega,λr' Hf Wf _ wc=>?_⟩
  ·show [V.ref s,V.int (((1:Nat):Int)+(i:Int)),V.ref l]=_
   congr 3
   omega
  ·rw[List.mem_singleton.mp hq]
   exact (ah.new hl (.lst [.ref nt])).tup (aK.of au)
  ·exact⟨_,r',rfl,by rw[←Nat.add_assoc]; exact Wf,(kwi.st TR).trans wc⟩
 ·obtain⟨e3,r,rfl,Wi,kwi⟩:=hP
  exact cK (af (by rfl)) λH2 s2=>kk r H2 (Wi.same s2) (kwi.st s2)
structure Wo (K:PySem.W.Frag)(P:Program)(w:World)(t:Ad)(M:Mp)(H:Hp)(p sa:Addr)(x:Str)(h:Nat)(W:WA):Prop where
 ob:∃dx,H p=some (.ins t.cL dx (xU sa x h W))
 mp:M p=none
 ck:M W.ck=some .ck
 pk:M W.pk=some .pk
 dk:M W.dk=some .dk
 ll:cS K P w H W.ll (λ_=>none) 0
 ml:M W.ll=none
section
variable {M M':Mp}{H H':Hp}{p sa:Addr}{x:Str}{h:Nat}{W:WA}
theorem Wo.kw (F:Wo K P w t M H p sa x h W)(k:Kw K M H H'):Wo K P w t M H' p sa x h W:=⟨F.ob.imp λdx e=>k.keep _ _ e F.mp,F.mp,F.ck,F.pk,F.dk,F.ll.kp (λu e=>k.keep _ _ e F.ml) k.tup,F.ml⟩
theorem Wo.same (F:Wo K P w t M H p sa x h W)(k:ah H H'):Wo K P w t M H' p sa x h W:=F.kw (Kw.same k)
theorem Wo.ex (F:Wo K P w t M H p sa x h W)(y:Ex M M' H):Wo K P w t M' H p sa x h W:=by
 obtain⟨⟨dx,ob⟩,mp,ck,pk,dk,ll,ml⟩:=F
 refine⟨⟨dx,ob⟩,y.new _ (by rw[ob]; exact λz=>nomatch z) mp,y.old _ _ ck,y.old _ _ pk,y.old _ _ dk,ll,y.new _ (λz=>?_) ml⟩
 obtain⟨ds,e,_⟩:=ll
 rw[z] at e; cases e
end
structure Wn (K:PySem.W.Frag)(P:Program)(w:World)(C:Addr)(H H':Hp)(p sa:Addr)(W:WA)(x:Str)(h:Nat):Prop where
 ob:∃dx,H' p=some (.ins C dx (xU sa x h W))
 ll:cS K P w H' W.ll (λ_=>none) 0
 ck:cS K P w H' W.ck (λ_=>none) 0
 pk:cS K P w H' W.pk (λ_=>none) 0
 dk:H' W.dk=some (.dK [])
 new:∀a∈[W.ll,W.ck,W.pk,W.dk],H a=none
 nd:[W.ll,W.ck,W.pk,W.dk].Nodup
 kp:Kp K [p] H H'
def Ny (K:PySem.W.Frag)(P:Program)(w:World)(C:Addr):Sp:=λvs H Q _=>∃(p sa tl dx:Addr) (x:Str) (h:Nat),vs=[.ref p,.ref sa,.str x,.ref tl,.int (h:Int)]/\H p=some (.ins C dx [])/\aE K H tl []/\∀W H',Wn K P w C H H' p sa W x h->Q .aR H'
theorem oE:aI ["self","sets","letters","tiles","high","tile"] ["self","sets","letters","tiles","high"] (aC fX):=⟨rfl,rfl,rfl,by decide +kernel,rfl,by decide +kernel,by decide +kernel⟩
theorem oF (T:Txt K mg t):aA P w K mg base aZ 1 t.lq t.iK ["self","sets","letters","tiles","high"] (Ny K P w t.cL):=by
 refine T.m8.fn.ok oE (λvs H Q E h=>?_) (λcdv Ar outer sh H vs Q E hr h=>?_)
 ·obtain⟨p,sa,tl,dx,x,h,rfl,_⟩:=h
  rfl
 obtain⟨p,sa,tl,dx,x,h,rfl,hp,hq,kk⟩:=h
 refine⟨_,(aj (dP K (pv 0) (pv 1)) (aj (dP K (pv 0) (pv 2)) (aj (dP K (pv 0) (pv 4)) (aj (dP K (pv 0) (tS K P w)) (aj (dP K (pv 0) yH) (aj (dP K (pv 0) (tS K P w)) (aj (dP K (pv 0) (tS K P w)) (aj (dP K (pv 0) yH) (av (fC PassesOwn.never rfl (jv K (pv 3)) (aL (i:=5) oE.nd rfl (by first | exact Or.inl rfl | exact Or.inr rfl)) (av aJ))))))))))),?_⟩
 have c:=T.cQ
 refine xm (af (by rfl)) (λH'=>af (by rfl)) hp c T.eX (by decide) λH1 k1 p1=>?_
 refine xm (af (by rfl)) (λH'=>af (by rfl)) p1 c T.lY (by show 1 < 1000; decide) λH2 k2 p2=>?_
 refine xm (af (by rfl)) (λH'=>af (by rfl)) p2 c T.eY (by show 2 < 1000; decide) λH3 k3 p3=>?_
 refine o6 (λH'=>af (by rfl)) p3 c T.gJ (by show 3 < 1000; decide) λll H4 TU n4 k4 p4=>?_
 refine Hz (λH'=>af (by rfl)) p4 c T.lZ (by show 4 < 1000; decide) λcl H5 hcl e5 k5 p5=>?_
 refine o6 (λH'=>af (by rfl)) p5 c T.cA (by show 5 < 1000; decide) λck H6 hck n6 k6 p6=>?_
 refine o6 (λH'=>af (by rfl)) p6 c T.cF (by show 6 < 1000; decide) λpk H7 hpk n7 k7 p7=>?_
 refine Hz (λH'=>af (by rfl)) p7 c T.cG (by show 7 < 1000; decide) λdk H8 HR e8 k8 p8=>?_
 have nb:∀{a:Addr},a∉[p]↔a≠p:=λ{a}=>by simp
 have there:∀{a:Addr} {H:Hp} {mm:Dt->Option V} {n:Nat},cS K P w H a mm n->H a≠none:=λh z=>by
  obtain⟨ds,e1,_⟩:=h
  rw[z] at e1
  cases e1
 have fresh:∀{a:Addr} {Hx:Hp},Kp K [p] H Hx->Hx a=none->a≠p->H a=none:=λ{a Hx} ZY hx hap=>by
  cases e1:H a with
  | none=>rfl
  | some u=>rw[ZY.keep _ _ e1 (nb.mpr hap)] at hx; cases hx
 have lp:ll≠p:=λz=>by rw[z,p3] at TU; cases TU
 have Wm:ck≠p:=λz=>by rw[z,p5] at hck; cases hck
 have pp:pk≠p:=λz=>by rw[z,p6] at hpk; cases hpk
 have dp:dk≠p:=λz=>by rw[z,p7] at HR; cases HR
 have d2:ll≠ck:=λz=>k5.live _ (there n4) (by rw[z]; exact hck)
 have d3:ll≠pk:=λz=>(k5.trans k6).live _ (there n4) (by rw[z]; exact hpk)
 have d4:ll≠dk:=λz=>((k5.trans k6).trans k7).live _ (there n4) (by rw[z]; exact HR)
 have d8:ck≠pk:=λz=>there n6 (by rw[z]; exact hpk)
 have d9:ck≠dk:=λz=>k7.live _ (there n6) (by rw[z]; exact HR)
 have ZZ:pk≠dk:=λz=>there n7 (by rw[z]; exact HR)
 have k03:=(k1.trans k2).trans k3
 have Wq:=(k03.trans k4).trans k5
 have Wr:=Wq.trans k6
 have k07:=Wr.trans k7
 have Ws:=((k5.trans k6).trans k7).trans k8
 have Wt:=k7.trans k8
 have Z0:aE K H8 tl []:=by
  have k08:=k07.trans k8
  rcases hq with (z | ⟨o,z⟩) | z
  ·exact .inl (.inl (k08.keep _ _ z (nb.mpr λy=>by rw[y,hp] at z; cases z)))
  ·exact .inl (.inr ⟨o,k08.keep _ _ z (nb.mpr λy=>by rw[y,hp] at z; cases z)⟩)
  ·exact .inr z
 refine K4 (K:=K) (af (by rfl)) Z0 λH9 s9=>?_
 refine kk ⟨ll,cl,ck,pk,dk⟩ H9 ⟨⟨dx,s9 _ _ p8⟩,(n4.kp (λu e=>Ws.keep _ _ e (nb.mpr lp)) Ws.tup).same s9,(n6.kp (λu e=>Wt.keep _ _ e (nb.mpr Wm)) Wt.tup).same s9,(n7.kp (λu e=>k8.keep _ _ e (nb.mpr pp)) k8.tup).same s9,s9 _ _ e8,λa ha=>?_,?_,(k07.trans k8).trans (Kp.same s9)⟩
 ·simp only [List.mem_cons,List.not_mem_nil,or_false] at ha
  rcases ha with rfl | rfl | rfl | rfl
  ·exact fresh k03 TU lp
  ·exact fresh Wq hck Wm
  ·exact fresh Wr hpk pp
  ·exact fresh k07 HR dp
 ·simp only [List.nodup_cons,List.mem_cons,List.not_mem_nil,or_false,not_or,List.nodup_nil,and_true,not_false_eq_true]
  exact⟨⟨d2,d3,d4⟩,⟨d8,d9⟩,ZZ⟩
def yT (K:PySem.W.Frag)(P:Program)(w:World)(t:Ad):Sp:=λvs H Q _=>∃(p sa:Addr) (A:FA) (M:Mp) (W:WA) (L h:Nat) (x:Str),vs=[.ref p]/\Fo t M H sa A/\Wo K P w t M H p sa x (h+1) W/\Wd K P w M L H/\h<=9/\L<=900000/\
 ∀r H',Wd K P w M (L+h) H'->Kw K M H H'->Q (.int r) H'
theorem wg:aI ["self"] ["self"] (aC fG):=⟨rfl,rfl,rfl,by decide +kernel,rfl,by decide +kernel,by decide +kernel⟩
theorem nU (T:Txt K mg t):aA P w K mg base aZ 3 t.gU t.dX ["self"] (yT K P w t):=by
 have uW:=uo (P:=P) (w:=w) (base:=base) T
 refine T.jl.fn.ok wg (λvs H Q E h=>?_) (λcdv Ar outer sh H vs Q E hr h=>?_)
 ·obtain⟨p,sa,A,M,W,L,h,x,rfl,_⟩:=h
  rfl
 obtain⟨p,sa,A,M,W,L,h,x,rfl,F,O,D,hh,hL,kk⟩:=h
 refine⟨_,(av (aO (cY T.oB T.bD uW (hr.mono (by first | decide | omega)) aQ (b8 K (pv 0)) (aa (aH lN (aY (aa (dF rfl T.t7 T.t8) ai)) (b8 K (pv 0))) ai)))),?_⟩
 obtain⟨Aa,Lz,xV,HS,LA,Ab,Ac,Ae⟩:=yS sa x (h+1) W
 obtain⟨dx,ob⟩:=O.ob
 obtain⟨OY,Af⟩:=F.ob
 refine cI (dj (aV (af (by rfl)) ob T.cQ T.eX Aa) Af (z8 A).2.2.2.2.1 λH2 s2=>?_)
 refine (pZ (xs:=[.int (-1)]) (k:=h+1) (dg (az ay) (by show 1<=sizeLine; decide)) (λH3 s3=>aV (af (by rfl)) ((s2.trans s3) _ _ ob) T.cQ T.eY xV) (by omega) (by show 1 * (h+1)<=1000; omega)) _ λfa H3 hfa s3 hfl=>?_
 have s03:=s2.trans s3
 have e1:(List.replicate (h+1) [V.int (-1)]).flatten=List.replicate (h+1) (V.int (-1)):=List.flatten_replicate_singleton
 rw[e1] at hfl
 exact⟨sa,fa,h,A,M,L,rfl,F.same s03,D.same s03,hfl,D.off (s2.free hfa),hh,hL,λr H4 W4 k4=>kk r H4 W4 ((Kw.same s03).trans k4)⟩
end
end bJ
set_option maxHeartbeats 1000000
namespace bJ
open PySem PySem.Spec PyProof.Rows L2 j_ TB
section
variable {P:Program}{w:World}{K:PySem.W.Frag}{mg:Str->Option Value}{base:Heap}{t:Ad}
structure Al (K:PySem.W.Frag)(P:Program)(w:World)(t:Ad)(M:Mp)(L:Nat)(H:Hp)(p sa:Addr)(A:FA)(W:WA)(x:Str)(h:Nat):Prop where
 fs:Fo t M H sa A
 wk:Wo K P w t M H p sa x h W
 wd:Wd K P w M L H
section
variable {M M':Mp}{L L':Nat}{H H':Hp}{p sa:Addr}{A:FA}{W:WA}{x:Str}{h:Nat}
theorem Al.same (S:Al K P w t M L H p sa A W x h)(s:ah H H'):Al K P w t M L H' p sa A W x h:=⟨S.fs.same s,S.wk.same s,S.wd.same s⟩
theorem Al.kw (S:Al K P w t M L H p sa A W x h)(k:Kw K M H H')(d:Wd K P w M L' H'):Al K P w t M L' H' p sa A W x h:=⟨S.fs.kw k,S.wk.kw k,d⟩
theorem Al.le (S:Al K P w t M L H p sa A W x h)(hl:L<=L'):Al K P w t M L' H p sa A W x h:=⟨S.fs,S.wk,S.wd.le hl⟩
end
def Ag (K:PySem.W.Frag)(P:Program)(w:World)(t:Ad):Sp:=λvs H Q _=>∃(p sa:Addr) (l r:Int) (ls:Str) (A:FA) (W:WA) (M:Mp) (L h:Nat) (x:Str),vs=[.ref p,.int l,.int r,.str ls]/\Al K P w t M L H p sa A W x h/\PyData.strOk ls=true/\L<=900000/\
 ∀q H',Wd K P w M (L+1) H'->M q=none->H' q=some (.lst [])->Kw K M H H'->Q (.ref q) H'
theorem lz:aI ["self","left","right","letters","name","found"] ["self","left","right","letters"] (aC gG):=⟨rfl,rfl,rfl,by decide +kernel,rfl,by decide +kernel,by decide +kernel⟩
theorem yU (T:Txt K mg t):aA P w K mg base aZ 1 t.lX t.gH ["self","left","right","letters"] (Ag K P w t):=by
 refine T.uC.fn.ok lz (λvs H Q E h=>?_) (λcdv Ar outer sh H vs Q E hr h=>?_)
 ·obtain⟨p,sa,l,r,ls,A,W,M,L,h,x,rfl,_⟩:=h
  rfl
 obtain⟨p,sa,l,r,ls,A,W,M,L,h,x,rfl,S,hls,hL,kk⟩:=h
 refine⟨_,(aj (aP (i:=4) lz.nd rfl (by first | exact Or.inl rfl | exact Or.inr rfl) (dO (aa (pv 1) (aa (pv 2) (aa (pv 3) ai))))) (aj (bY (rN (AU K P w hr.uB (pv 4) (b8 K (pv 0)))) (aj (aP (i:=5) lz.nd rfl (by first | exact Or.inl rfl | exact Or.inr rfl) (Td K P w hr.uB (b8 K (pv 0)) (dO (aa (pv 1) (aa (pv 2) ai))) yH ⟨rfl,rfl,rfl,rfl⟩)) (av (Jh K P w hr.uB (b8 K (pv 0)) (pv 4) (cN (N':=["mark","found","self","letters"]) (ix:=[none,some 5,some 0,some 3]) (aT (by kernel_rfl)) rfl (jv K (bq MW (by rfl) T.EM boot_sorted (aa (pv 5) ai))) (λ_ _ _ _=>(aL (i:=0) (show List.Nodup (["mark","found","self","letters"]:List Str) from by decide +kernel) rfl (by first | exact Or.inl rfl | exact Or.inr rfl))) (λ_ _ _ _=>(vF yJ)) (λ_ _ _ _=>pJ)) rfl))) bF) (av (aO (Jg K P w hr.uB (b8 K (pv 0)) (pv 4) (λ_ _=>rfl)))))),?_⟩
 have cW:=T.cQ
 refine bh ((ao (af (by rfl)) λ_ _=>ao (af (by rfl)) λ_ _=>az (af (by rfl))) _ λH2 s2=>⟨(by show 3<=sizeLine; decide),λnm hnm=>?_⟩)
 have s03:ah H (upd H2 nm (.tup [.int l,.int r,.str ls])):=s2.trans (ah.new hnm _)
 have hnk:NK K (upd H2 nm (.tup [.int l,.int r,.str ls])) (qh l r ls) nm:=HK (aK.of au) hls
 generalize upd H2 nm (.tup [.int l,.int r,.str ls])=H3 at *
 clear hnm s2 H2
 have S3:=S.same s03
 obtain⟨dx,ob⟩:=S3.wk.ob
 obtain⟨Aa,Lz,xV,HS,LA,Ab,Ac,Ae⟩:=yS sa x h W
 obtain⟨mm,k1,k2⟩:=S3.wd _ _ S.wk.ck
 refine gq (lP (E7 (K:=K) (P:=P) (w:=w) (af (by rfl)) (λH7 s7=>aV (af (by rfl)) (s7 _ _ ob) cW T.cA Ab) k1 hnk)) (λe H4 s4=>?_) λe H4 s4=>?_
 ·have S4:=S3.same s4
  have n1:=S4.wk.ll
  refine gZ (G0 ((aV (af (by rfl)) (s4 _ _ ob) cW T.gJ HS) _ λH5 s5=>⟨W.ll,rfl,⟨_,_,n1.same s5⟩,(ao (af (by rfl)) λ_ _=>az (af (by rfl))) _ λH6 s6=>⟨(by show 2<=sizeLine; decide),λup hup=>λz hz=>?_⟩⟩))
  have s47:ah H4 (upd (upd H6 up (.tup [.int l,.int r])) z (.dK [])):=s5.trans (s6.trans ((ah.new hup _).trans (ah.new hz _)))
  have XC:aK K (upd (upd H6 up (.tup [.int l,.int r])) z (.dK [])) up [.int l,.int r]:=(ah.new hz _).tup (aK.of au)
  have Z1:upd (upd H6 up (.tup [.int l,.int r])) z (.dK []) z=some (.dK []):=au
  generalize upd (upd H6 up (.tup [.int l,.int r])) z (.dK [])=H7 at *
  have Z2:NK K H7 (rC l r) up:=by
   refine NK.of XC ?_ rfl (by show max 0 (max 0 0)<=7; decide)
   unfold aD
   refine⟨_,_,rfl,by unfold Rep; rfl,?_⟩
   unfold aD
   exact⟨_,_,rfl,by unfold Rep; rfl,by unfold aD; rfl⟩
  refine⟨none,⟨_,_,rC l r,up,n1.same s47,rfl,Z2,rfl⟩,?_⟩
  refine ((af (v:=.ref z) (by rfl)) _ λH8 s8=>⟨z,[],[],rfl,s8 _ _ Z1,rfl,by decide,λsl ns hsl pm pw=>⟨sl,rfl,⟨_,aE.of au⟩,?_⟩⟩)
  obtain rfl:ns=[]:=List.Perm.eq_nil pm
  have s89:ah H8 (upd H8 sl (.lst (([]:List Int).map V.int))):=ah.new hsl _
  have XD:upd H8 sl (.lst (([]:List Int).map V.int)) sl=some (.lst []):=au
  generalize upd H8 sl (.lst (([]:List Int).map V.int))=H9 at *
  refine tU (K:=K) (aE.of XD) λZ Ha hZ sm oG=>?_
  have s3a:=s4.trans (s47.trans (s8.trans (s89.trans sm)))
  refine (aV (af (by rfl)) (s3a _ _ ob) cW T.cA Ab) _ λHb sb=>(af (by rfl)) _ λHc sc=>?_
  have s3c:=s3a.trans (sb.trans sc)
  refine⟨W.ck,rfl,mm,L,qh l r ls,nm,k1.same s3c,by rw[sizeLine_eq]; omega,rfl,hnk.tups λq xs h=>s3c.tup h,λo hN=>?_⟩
  have Sc:=S3.same s3c
  have Ah:Kw K M Hc (upd Hc W.ck o):=Kw.put S.wk.ck (Sc.wd _ _ S.wk.ck).mut
  have mZ:M Z=none:=S3.wd.off ((s4.trans (s47.trans (s8.trans s89))).free hZ)
  have Wu:upd Hc W.ck o Z=some (.lst []):=Ah.keep _ _ ((sb.trans sc) _ _ oG) mZ
  have TV:Wd K P w M (L+1) (upd Hc W.ck o):=Sc.wd.put S.wk.ck (Nat.le_succ _) ⟨_,hN,λd v z=>by
   by_cases c:d=qh l r ls
   ·rw[if_pos c] at z
    exact⟨Z,(Option.some.inj z).symm,mZ,Wu⟩
   ·rw[if_neg c] at z
    obtain⟨q,q1,q2,q3⟩:=k2 d v z
    exact⟨q,q1,q2,Ah.keep _ _ (s3c _ _ q3) q2⟩⟩
  have Nz:=(hnk.tups λq xs h=>s3c.tup h).tups Ah.tup
  have TX:=Ah.keep _ _ (s3c _ _ ob) S.wk.mp
  generalize upd Hc W.ck o=Hd at *
  refine cK (o5 (K:=K) (P:=P) (w:=w) (v:=.ref Z) (aV (af (by rfl)) TX cW T.cA Ab) (λ_ _=>af (by rfl)) hN Nz (if_pos rfl)) λHe se=>?_
  exact kk Z He (TV.same se) mZ (se _ _ Wu) (((Kw.same (s03.trans s3c)).trans Ah).st se)
 ·obtain⟨v,hv⟩:∃v,mm (qh l r ls)=some v:=by
   cases e2:mm (qh l r ls) with
   | some v=>exact⟨v,rfl⟩
   | none=>rw[e2] at e; exact absurd e (by decide)
  obtain⟨q,rfl,q2,q3⟩:=k2 _ _ hv
  refine cK (o5 (K:=K) (P:=P) (w:=w) (aV (af (by rfl)) (s4 _ _ ob) cW T.cA Ab) (λ_ _=>af (by rfl)) (k1.same s4) (hnk.tups λq xs h=>s4.tup h) hv) λH8 s8=>?_
  exact kk q H8 ((S3.wd.same (s4.trans s8)).le (Nat.le_succ _)) q2 ((s4.trans s8) _ _ q3) (Kw.same (s03.trans (s4.trans s8)))
end
end bJ
set_option maxHeartbeats 1000000
namespace bJ
open PySem PySem.Spec PyProof.Rows L2 j_ TB
section
variable {P:Program}{w:World}{K:PySem.W.Frag}{mg:Str->Option Value}{base:Heap}{t:Ad}
section
variable {ix:List (Option Nat)}{g:TG}{tf:TT}{te ta:TE}{σ:L2.St}{H:Hp}{R:VK}{a:Addr}
theorem Js {tb us:TS}{D:Ends}(h:Gv ta σ H (.ref a))(hq:aK K H a [])(k:∀H',ah H H'->us D σ H'):eK (kh (vn K ta) g tb) us D σ H:=
 QU h hq (λi σ' H'=>σ'=σ/\ah H H') (λH' s=>⟨rfl,s⟩) (λi σ' H' z=>z.2.tup hq) (λi x σ' H' hx _=>by simp at hx) fun σ' H' z=>by rw[z.1]; exact k H' z.2
theorem E_ (h:Gv ta σ H (.ref a))(hq:aK K H a []):Gn (oQ (vn K ta) ix g tf te) σ H []:=λR r=>KN (K:=K) h hq λH1 s1 hq1=>
 Li (xs:=[]) (by rw[sizeLine_eq]; decide) (λZ i ys H'=>ah H1 H'/\ys=[]) (λZ i ys H' z=>⟨z.1.tup hq1,by rw[z.2]; exact Nat.zero_le _⟩) (λZ hZ=>⟨ah.new hZ _,rfl⟩) (λZ i ys H' v R R0 hZ _ oG hv k1 k2=>by simp at hv) λZ ys H2 hZ z oG=>r Z H2 (s1.free hZ) (s1.trans z.1) (by rw[oG,z.2])
end
theorem OZ {H:Hp}{σ:L2.St}{M:Mp}{L h:Nat}{p sa:Addr}{A:FA}{W:WA}{x:Str}{ti:TE}(T:Txt K mg t)(S:Al K P w t M L H p sa A W x h)(h0:σ[0]?=some (some (.ref p)))(hi:∀H',ah H H'->Gv ti σ H' (.int 0)):∃t0,aK K H t0 []/\Gv (cZ (qS K) (vA K (vA K (eG 0) "sets") "branches") ti) σ H (.ref t0):=by
 obtain⟨dx,ob⟩:=S.wk.ob
 obtain⟨OY,Af⟩:=S.fs.ob
 obtain⟨t0,vs,h1,h2,h3⟩:=S.wd _ _ S.fs.mb
 exact⟨t0,h2,kD (K:=K) (aV (aV (af h0) ob T.cQ T.eX (yS sa x h W).1) Af T.bD T.cP (Nq A)) hi (aE.of h1) (cu (j:=0) rfl)⟩
def Ai (K:PySem.W.Frag)(P:Program)(w:World)(t:Ad):Sp:=λvs H Q _=>∃(p sa:Addr) (row:Int) (ls:Str) (A:FA) (W:WA) (M:Mp) (L h:Nat) (x:Str),vs=[.ref p,.int row,.int 0,.int 0,.str ls]/\Al K P w t M L H p sa A W x h/\PyData.strOk ls=true/\L<=900000/\
 ∀H',Wd K P w M (L+2) H'->Kw K M H H'->Q (.int 0) H'
theorem cX:aI ["self","row","above","front","letters","name","found","field","part"] ["self","row","above","front","letters"] (aC dh):=⟨rfl,rfl,rfl,by decide +kernel,rfl,by decide +kernel,by decide +kernel⟩
theorem qw (T:Txt K mg t):aA P w K mg base aZ 2 t.gP t.di ["self","row","above","front","letters"] (Ai K P w t):=by
 have bU:aA P w K mg base aZ 1 t.cD t.bI ["self","depth","branches"] (nS K P w t):=dW T
 refine T.l5.fn.ok cX (λvs H Q E h=>?_) (λcdv Ar outer sh H vs Q E hr h=>?_)
 ·obtain⟨p,sa,row,ls,A,W,M,L,h,x,rfl,_⟩:=h
  rfl
 obtain⟨p,sa,row,ls,A,W,M,L,h,x,rfl,S,hls,hL,kk⟩:=h
 refine⟨_,(aj (aP (i:=5) cX.nd rfl (by first | exact Or.inl rfl | exact Or.inr rfl) (dO (aa (pv 1) (aa (pv 3) (aa (pv 4) ai))))) (aj (bY (rN (AU K P w hr.uB (pv 5) (b8 K (pv 0)))) (aj (aP (i:=6) cX.nd rfl (by first | exact Or.inl rfl | exact Or.inr rfl) (aY ai)) (aj (fC PassesOwn.never rfl (w6 K (bT (fu K) (b8 K (b8 K (pv 0))) (pv 3) (λ_ _=>rfl))) (oR K (n:=2) (cj (aL (i:=7) cX.nd rfl (by first | exact Or.inl rfl | exact Or.inr rfl)) (cj (aL (i:=8) cX.nd rfl (by first | exact Or.inl rfl | exact Or.inr rfl)) jW))) (av aJ)) (av (Jh K P w hr.uB (b8 K (pv 0)) (pv 5) (cY T.dI T.bD bU (hr.mono (by first | decide | omega)) aQ (b8 K (pv 0)) (aa (aH nI (b8 K (pv 0)) (pv 2)) (aa (pv 6) ai))) rfl)))) bF) (av (aO (Jg K P w hr.uB (b8 K (pv 0)) (pv 5) (λ_ _=>rfl)))))),?_⟩
 have cW:=T.cQ
 refine bh ((ao (af (by rfl)) λ_ _=>ao (af (by rfl)) λ_ _=>az (af (by rfl))) _ λH2 s2=>⟨(by show 3<=sizeLine; decide),λnm hnm=>?_⟩)
 have s03:ah H (upd H2 nm (.tup [.int row,.int 0,.str ls])):=s2.trans (ah.new hnm _)
 have hnk:NK K (upd H2 nm (.tup [.int row,.int 0,.str ls])) (qh row 0 ls) nm:=HK (aK.of au) hls
 generalize upd H2 nm (.tup [.int row,.int 0,.str ls])=H3 at *
 clear hnm s2 H2
 have S3:=S.same s03
 obtain⟨dx,ob⟩:=S3.wk.ob
 obtain⟨OY,Af⟩:=S3.fs.ob
 obtain⟨Aa,Lz,xV,HS,LA,Ab,Ac,Ae⟩:=yS sa x h W
 obtain⟨mm,k1,k2⟩:=S3.wd _ _ S.wk.pk
 refine gq (lP (E7 (K:=K) (P:=P) (w:=w) (af (by rfl)) (λH7 s7=>aV (af (by rfl)) (s7 _ _ ob) cW T.cF Ac) k1 hnk)) (λe H4 s4=>?_) λe H4 s4=>?_
 ·refine bh (nA (dg (xs:=[]) (El) (by show 0<=sizeLine; decide)) λfl H5 hfl s5 Z3=>?_)
  have LB:=s4.trans s5
  have S5:=S3.same LB
  obtain⟨t0,ht0,gb⟩:=OZ (σ:=[some (.ref p),some (.int row),some (.int 0),some (.int 0),some (.str ls),some (.ref nm),some (.ref fl),none,none]) (ti:=eG 3) T S5 rfl λ_ _=>af rfl
  refine Js (K:=K) gb ht0 λH6 s6=>?_
  have s36:=LB.trans s6
  have S6:=S5.same s6
  refine dj (aV (af (by rfl)) (s36 _ _ ob) cW T.eX Aa) (s36 _ _ Af) (z8 A).1 λH7 s7=>?_
  refine (ao (v:=.int (h:Int)) (eF (bO (aV (af (by rfl)) ((s36.trans s7) _ _ ob) cW T.eY xV) λ_ _=>af (by rfl)) (by congr 1 <;> omega)) λH8 s8=>az (af (by rfl))) _ λH9 s9=>?_
  have LC:=s7.trans s9
  have S9:=S6.same LC
  refine⟨sa,fl,h,A,M,L,[],rfl,S9.fs,S9.wd,aE.of ((s6.trans LC) _ _ Z3),by simp,by simp,by omega,λr Hf Wf hr0 wc=>?_⟩
  obtain rfl:=hr0 rfl
  have Sf:=S9.kw wc Wf
  obtain⟨Z4,Z5,Z6⟩:=Sf.wd _ _ S.wk.pk
  have TY:=wc.keep _ _ ((s36.trans LC) _ _ ob) S.wk.mp
  have hnkf:=(hnk.tups λq xs h=>(s36.trans LC).tup h).tups wc.tup
  refine (aV (af (by rfl)) TY cW T.cF Ac) _ λHb sb=>(af (by rfl)) _ λHc sc=>?_
  have sfc:=sb.trans sc
  refine⟨W.pk,rfl,Z4,L+1,qh row 0 ls,nm,Z5.same sfc,by rw[sizeLine_eq]; omega,rfl,hnkf.tups λq xs h=>sfc.tup h,λo hN=>?_⟩
  have Sc:=Sf.same sfc
  have Ah:Kw K M Hc (upd Hc W.pk o):=Kw.put S.wk.pk (Sc.wd _ _ S.wk.pk).mut
  have TV:Wd K P w M (L+2) (upd Hc W.pk o):=Sc.wd.put S.wk.pk (Nat.le_succ _) ⟨_,hN,λd v z=>by
   by_cases c:d=qh row 0 ls
   ·rw[if_pos c] at z
    exact (Option.some.inj z).symm
   ·rw[if_neg c] at z
    exact Z6 d v z⟩
  have Nz:=(hnkf.tups λq xs h=>sfc.tup h).tups Ah.tup
  have TX:=Ah.keep _ _ (sfc _ _ TY) S.wk.mp
  generalize upd Hc W.pk o=Hd at *
  refine cK (o5 (K:=K) (P:=P) (w:=w) (v:=.int 0) (aV (af (by rfl)) TX cW T.cF Ac) (λ_ _=>af (by rfl)) hN Nz (if_pos rfl)) λHe se=>?_
  exact kk He (TV.same se) (((((Kw.same (s03.trans (s36.trans LC))).trans wc).st sfc).trans Ah).st se)
 ·obtain⟨v,hv⟩:∃v,mm (qh row 0 ls)=some v:=by
   cases e2:mm (qh row 0 ls) with
   | some v=>exact⟨v,rfl⟩
   | none=>rw[e2] at e; exact absurd e (by decide)
  obtain rfl:=k2 _ _ hv
  refine cK (o5 (K:=K) (P:=P) (w:=w) (aV (af (by rfl)) (s4 _ _ ob) cW T.cF Ac) (λ_ _=>af (by rfl)) (k1.same s4) (hnk.tups λq xs h=>s4.tup h) hv) λH8 s8=>?_
  exact kk H8 ((S3.wd.same (s4.trans s8)).le (by omega)) (Kw.same (s03.trans (s4.trans s8)))
def Cp (K:PySem.W.Frag)(P:Program)(w:World)(t:Ad):Sp:=λvs H Q _=>∃(p sa:Addr) (d:Nat) (A:FA) (W:WA) (M:Mp) (L h:Nat) (x:Str),vs=[.ref p,.int ((d+1:Nat):Int),.int 0]/\Al K P w t M L H p sa A W x h/\L<=900000/\
 ∀H',Wd K P w M (L+2) H'->Kw K M H H'->Q (.int 0) H'
theorem qJ:aI ["self","depth","front","branches"] ["self","depth","front"] (aC ig):=⟨rfl,rfl,rfl,by decide +kernel,rfl,by decide +kernel,by decide +kernel⟩
theorem Aj (T:Txt K mg t):aA P w K mg base aZ 2 t.m6 t.iA ["self","depth","front"] (Cp K P w t):=by
 have bU:aA P w K mg base aZ 1 t.cD t.bI ["self","depth","branches"] (nS K P w t):=dW T
 refine T.vX.fn.ok qJ (λvs H Q E h=>?_) (λcdv Ar outer sh H vs Q E hr h=>?_)
 ·obtain⟨p,sa,d,A,W,M,L,h,x,rfl,_⟩:=h
  rfl
 obtain⟨p,sa,d,A,W,M,L,h,x,rfl,S,hL,kk⟩:=h
 refine⟨_,(aj (bY (rN (KU (Dg hr) (pv 2) (b8 K (pv 0)))) (aj (aP (i:=3) qJ.nd rfl (by first | exact Or.inl rfl | exact Or.inr rfl) (bT (fu K) (b8 K (b8 K (pv 0))) (pv 2) (λ_ _=>rfl))) (av (bY (bK gD (pv 1) aq (bN _)) (av (G9 (Dg hr) (b8 K (pv 0)) (pv 2) (bq (Xx K) (by rfl) T.Vg boot_sum (aa (cN (N':=["field","lefts","self"]) (ix:=[none,none,some 0]) (aT (by kernel_rfl)) rfl (w6 K (pv 3)) (λ_ _ _ _=>(oR K (n:=2) (cj (aL (i:=0) (show List.Nodup (["field","lefts","self"]:List Str) from by decide +kernel) rfl (by first | exact Or.inl rfl | exact Or.inr rfl)) (cj (aL (i:=1) (show List.Nodup (["field","lefts","self"]:List Str) from by decide +kernel) rfl (by first | exact Or.inl rfl | exact Or.inr rfl)) jW)))) (λ_ _ _ _=>(vF yJ)) (λ_ _ _ _=>pJ)) ai)) rfl)) (av (G9 (Dg hr) (b8 K (pv 0)) (pv 2) (cY T.dI T.bD bU (hr.mono (by first | decide | omega)) aQ (b8 K (pv 0)) (aa (aH nI (pv 1) aq) (aa (cN (N':=["field","part","self","depth"]) (ix:=[none,none,some 0,some 1]) (aT (by kernel_rfl)) rfl (w6 K (pv 3)) (λ_ _ _ _=>(oR K (n:=2) (cj (aL (i:=0) (show List.Nodup (["field","part","self","depth"]:List Str) from by decide +kernel) rfl (by first | exact Or.inl rfl | exact Or.inr rfl)) (cj (aL (i:=1) (show List.Nodup (["field","part","self","depth"]:List Str) from by decide +kernel) rfl (by first | exact Or.inl rfl | exact Or.inr rfl)) jW)))) (λ_ _ _ _=>fF) (λ_ _ _ _=>pJ)) ai))) rfl))))) bF) (av (aO (Qw (Dg hr) (b8 K (pv 0)) (pv 2) (λ_ _=>rfl))))),?_⟩
 have cW:=T.cQ
 obtain⟨dx,ob⟩:=S.wk.ob
 obtain⟨OY,Af⟩:=S.fs.ob
 obtain⟨Aa,Lz,xV,HS,LA,Ab,Ac,Ae⟩:=yS sa x h W
 obtain⟨kvs,k1,k2,k3⟩:=S.wd _ _ S.wk.dk
 have fin:∀(H8:Hp) (L8:Nat) (t0:Addr),Al K P w t M L8 H8 p sa A W x h->L8<=L+1->Kw K M H H8->∀(Dn:Ends),
   (∀H9,Wd K P w M (L+2) H9->Kw K M H H9->(∃kvs,H9 W.dk=some (.dK kvs)/\eB kvs (.inl 0)=some (.int 0))->Dn.nx [some (.ref p),some (.int ((d+1:Nat):Int)),some (.int 0),some (.ref t0)] H9)->
   (λtd ty=>(td:TE) [some (.ref p),some (.int ((d+1:Nat):Int)),some (.int 0),some (.ref t0)] H8 λx H2=>(ty:TE) [some (.ref p),some (.int ((d+1:Nat):Int)),some (.int 0),some (.ref t0)] H2 λy H3=>∃a H4,x=.ref a/\yG H3 a y (.int 0) H4/\Dn.nx [some (.ref p),some (.int ((d+1:Nat):Int)),some (.int 0),some (.ref t0)] H4) (vA K (eG 0) "closed_known") (eG 2):=λH8 L8 t0 S8 Z7 kw8 Dn k=>by
  obtain⟨dx8,Z8⟩:=S8.wk.ob
  obtain⟨acM,Wv,n82,Z9⟩:=S8.wd _ _ S.wk.dk
  refine TF (aV (af (by rfl)) Z8 cW T.cG Ae) (λ_ _=>af (by rfl)) Wv (by rw[sizeLine_eq]; omega) λH9 s9=>?_
  have mu:dZ (H9 W.dk):=by rw[s9 _ _ Wv]; exact True.intro
  refine k _ (((S8.wd.same s9).le Z7).put S.wk.dk (Nat.le_succ _) ⟨_,au,?_,λn v z=>?_⟩) ((kw8.st s9).trans (Kw.put S.wk.dk mu)) ⟨_,au,by rw[Eu,if_pos rfl]⟩
  ·exact Nat.le_trans (qT _ _ _) (by omega)
  ·rw[Eu] at z
   split at z
   ·exact (Option.some.inj z).symm
   ·exact Z9 _ _ z
 refine gq (lP (QX (af (by rfl)) (λH7 s7=>aV (af (by rfl)) (s7 _ _ ob) cW T.cG Ae) k1)) (λTZ H1 s1=>?_) λTZ H1 s1=>?_
 ·have S1:=S.same s1
  obtain⟨t0,ht0,gb⟩:=OZ (σ:=[some (.ref p),some (.int ((d+1:Nat):Int)),some (.int 0),none]) (ti:=eG 2) T S1 rfl λ_ _=>af rfl
  refine gE gb λH2 s2=>?_
  have s02:=s1.trans s2
  have last:∀(Dn:Ends) H9,Wd K P w M (L+2) H9->Kw K M H H9->(∃kvs,H9 W.dk=some (.dK kvs)/\eB kvs (.inl 0)=some (.int 0))->(∀H',Wd K P w M (L+2) H'->Kw K M H H'->Dn.rt (.int 0) H')->IC (Jd (vA K (eG 0) "closed_known") (eG 2)) Dn [some (.ref p),some (.int ((d+1:Nat):Int)),some (.int 0),some (.ref t0)] H9:=λDn H9 W9 kw9 ⟨kv,hkv,hv⟩ k=>by
   exact cK (HL (aV (af (by rfl)) (kw9.keep _ _ ob S.wk.mp) cW T.cG Ae) (λ_ _=>af (by rfl)) hkv hv) λHa sa'=>k Ha (W9.same sa') (kw9.st sa')
  cases d with
  | zero=>
   refine g_ (b:=true) (gS (cz (ku (af (by rfl)) (λ_ _=>ay) (by rfl))) (by simp)) (λ_ H3 s3=>?_) λz=>absurd z (by decide)
   refine AQ (nA (E_ (K:=K) (af (by rfl)) ((s2.trans s3).tup ht0)) λZ H4 hZ s4 oG=>?_)
   have s04:=s02.trans (s3.trans s4)
   refine⟨Z,[],rfl,aE.of oG,by simp,by decide,?_⟩
   exact fin H4 L t0 (S.same s04) (by omega) (Kw.same s04) _ λH9 W9 kw9 z=>last _ H9 W9 kw9 z kk
  | succ d=>
   refine g_ (b:=false) (gS (cz (ku (af (by rfl)) (λ_ _=>ay) (by rfl))) (by simp; omega)) (λz=>absurd z (by decide)) λ_ H3 s3=>?_
   have s03:=s02.trans s3
   refine dj (aV (af (by rfl)) (s03 _ _ ob) cW T.eX Aa) (s03 _ _ Af) (z8 A).1 λH4 s4=>?_
   refine cR (v:=.int ((d+1:Nat):Int)) (eF (bO (af (by rfl)) λ_ _=>ay) (by congr 1; omega)) λH5 s5=>sO (nA (E_ (K:=K) (af (by rfl)) ((s2.trans (s3.trans (s4.trans s5))).tup ht0)) λZ H6 hZ s6 oG=>?_)
   have s06:=s03.trans (s4.trans (s5.trans s6))
   have S6:=S.same s06
   refine⟨sa,Z,d+1,A,M,L,[],rfl,S6.fs,S6.wd,aE.of oG,by simp,by simp,by omega,λr Hf Wf hr0 wc=>?_⟩
   obtain rfl:=hr0 rfl
   exact fin Hf (L+1) t0 (S6.kw wc Wf) (Nat.le_refl _) ((Kw.same s06).trans wc) _ λH9 W9 kw9 z=>last _ H9 W9 kw9 z kk
 ·obtain⟨v,hv⟩:∃v,eB kvs (.inl 0)=some v:=by
   cases e2:eB kvs (.inl 0) with
   | some v=>exact⟨v,rfl⟩
   | none=>rw[e2] at TZ; exact absurd TZ (by decide)
  obtain rfl:=k3 _ _ hv
  exact cK (HL (aV (af (by rfl)) (s1 _ _ ob) cW T.cG Ae) (λ_ _=>af (by rfl)) (s1 _ _ k1) hv) λH8 s8=>kk H8 ((S.wd.same (s1.trans s8)).le (by omega)) (Kw.same (s1.trans s8))
end
end bJ
set_option maxHeartbeats 1000000
namespace bJ
open PySem PySem.Spec PyProof.Rows L2 j_ TB
section
variable {P:Program}{w:World}{K:PySem.W.Frag}{mg:Str->Option Value}{base:Heap}{t:Ad}
def Cq (K:PySem.W.Frag)(P:Program)(w:World)(t:Ad):Sp:=λvs H Q _=>∃(p sa:Addr) (row:Nat) (n:Int) (ls:Str) (A:FA) (W:WA) (M:Mp) (L h:Nat) (x:Str),vs=[.ref p,.int (row:Int),.int n,.str ls]/\Al K P w t M L H p sa A W x h/\PyData.strOk ls=true/\(row=0\/n=0)/\L<=800000/\
 ∀H',Wd K P w M (L+2) H'->Kw K M H H'->Q (.int 0) H'
theorem Ak:aI ["self","row","front","letters"] ["self","row","front","letters"] (aC ie):=⟨rfl,rfl,rfl,by decide +kernel,rfl,by decide +kernel,by decide +kernel⟩
theorem Am (T:Txt K mg t):aA P w K mg base aZ 3 t.m5 t.iz ["self","row","front","letters"] (Cq K P w t):=by
 have bU:aA P w K mg base aZ 1 t.cD t.bI ["self","depth","branches"] (nS K P w t):=dW T
 have An:aA P w K mg base aZ 1 t.lX t.gH ["self","left","right","letters"] (Ag K P w t):=yU T
 have rG:aA P w K mg base aZ 2 t.gP t.di ["self","row","above","front","letters"] (Ai K P w t):=qw T
 refine T.vW.fn.ok Ak (λvs H Q E h=>?_) (λcdv Ar outer sh H vs Q E hr h=>?_)
 ·obtain⟨p,sa,row,n,ls,A,W,M,L,h,x,rfl,_⟩:=h
  rfl
 obtain⟨p,sa,row,n,ls,A,W,M,L,h,x,rfl,S,hls,h0,hL,kk⟩:=h
 refine⟨_,(aj (bY (bK gD (pv 1) aq (bN _)) (av (aO (cY T.dI T.bD bU (hr.mono (by first | decide | omega)) aQ (b8 K (pv 0)) (aa (b8 K (pv 0)) (aa (cN (N':=["mark","bits","self","front"]) (ix:=[none,none,some 0,some 2]) (aT (by kernel_rfl)) rfl (jv K (cY T.uC T.cQ An (hr.mono (by first | decide | omega)) aQ (pv 0) (aa (dF rfl T.t7 T.t8) (aa (dF rfl T.t7 T.t8) (aa (pv 3) ai))))) (λ_ _ _ _=>(oR K (n:=2) (cj (aL (i:=0) (show List.Nodup (["mark","bits","self","front"]:List Str) from by decide +kernel) rfl (by first | exact Or.inl rfl | exact Or.inr rfl)) (cj (aL (i:=1) (show List.Nodup (["mark","bits","self","front"]:List Str) from by decide +kernel) rfl (by first | exact Or.inl rfl | exact Or.inr rfl)) jW)))) (λ_ _ _ _=>fF) (λ_ _ _ _=>pJ)) ai))))) bF) (av (aO (cY T.l5 T.cQ rG (hr.mono (by first | decide | omega)) aQ (pv 0) (aa (pv 1) (aa aq (aa (pv 2) (aa (pv 3) ai)))))))),?_⟩
 have cW:=T.cQ
 obtain⟨dx,ob⟩:=S.wk.ob
 obtain⟨OY,Af⟩:=S.fs.ob
 obtain⟨Aa,Lz,xV,HS,LA,Ab,Ac,Ae⟩:=yS sa x h W
 refine gq (b:=decide (row=0)) (gS (cz (ku (af (by rfl)) (λ_ _=>ay) (by rfl))) (by rw[decide_eq_decide]; constructor <;> intro z <;> first | (injection z with z; omega) | (rw[z]; rfl))) (λe H1 s1=>?_) λe H1 s1=>?_
 ·refine cI (dj (aV (af (by rfl)) (s1 _ _ ob) cW T.eX Aa) (s1 _ _ Af) (z8 A).1 λH2 s2=>?_)
  have s02:=s1.trans s2
  refine cR (v:=.int (h:Int)) (aV (af (by rfl)) (s02 _ _ ob) cW T.eY xV) λH3 s3=>sO ?_
  have s03:=s02.trans s3
  refine dj (af (by rfl)) (s03 _ _ ob) rfl λH4 s4=>(ao ay λ_ _=>ao ay λ_ _=>az (af (by rfl))) _ λH5 s5=>?_
  have s05:=s03.trans (s4.trans s5)
  have S5:=S.same s05
  refine⟨p,sa,-1,-1,ls,A,W,M,L,h,x,rfl,S5,hls,by omega,λq H6 W6 mq hq kw6=>⟨q,rfl,⟨_,aE.of hq⟩,?_⟩⟩
  have S6:=S5.kw kw6 W6
  refine tU (K:=K) (aE.of hq) λZ H7 hZ s7 oG=>?_
  have S7:=S6.same s7
  refine⟨sa,Z,h,A,M,L+1,[],rfl,S7.fs,S7.wd,aE.of oG,by simp,by simp,by omega,λr Hf Wf hr0 wc=>?_⟩
  obtain rfl:=hr0 rfl
  exact kk Hf Wf ((((Kw.same s05).trans kw6).st s7).trans wc)
 ·have e':row≠0:=of_decide_eq_false e
  obtain rfl:n=0:=h0.resolve_left e'
  refine cI (dj (af (by rfl)) (s1 _ _ ob) rfl λH2 s2=>(ao (af (by rfl)) λ_ _=>ao ay λ_ _=>ao (af (by rfl)) λ_ _=>az (af (by rfl))) _ λH3 s3=>?_)
  have s03:=s1.trans (s2.trans s3)
  exact⟨p,sa,row,ls,A,W,M,L,h,x,rfl,S.same s03,hls,by omega,λH' W' k'=>kk H' W' ((Kw.same s03).trans k')⟩
def wj (K:PySem.W.Frag)(P:Program)(w:World)(t:Ad):Sp:=λvs H Q _=>∃(p sa:Addr) (row:Nat) (n:Int) (ls:Str) (A:FA) (W:WA) (M:Mp) (L h:Nat) (x:Str),vs=[.ref p,.int (row:Int),.int n,.str ls]/\Al K P w t M L H p sa A W x (h+1)/\PyData.strOk ls=true/\(row=0\/n=0)/\L<=700000/\
 ∀H',Wd K P w M (L+4) H'->Kw K M H H'->Q (.int 0) H'
theorem qK:aI ["self","row","front","letters","found"] ["self","row","front","letters"] (aC ir):=⟨rfl,rfl,rfl,by decide +kernel,rfl,by decide +kernel,by decide +kernel⟩
theorem qL (T:Txt K mg t):aA P w K mg base aZ 4 t.j4 t.fR ["self","row","front","letters"] (wj K P w t):=by
 have Bb:aA P w K mg base aZ 3 t.m5 t.iz ["self","row","front","letters"] (Cq K P w t):=Am T
 have Bc:aA P w K mg base aZ 2 t.m6 t.iA ["self","depth","front"] (Cp K P w t):=Aj T
 refine T.l6.fn.ok qK (λvs H Q E h=>?_) (λcdv Ar outer sh H vs Q E hr h=>?_)
 ·obtain⟨p,sa,row,n,ls,A,W,M,L,h,x,rfl,_⟩:=h
  rfl
 obtain⟨p,sa,row,n,ls,A,W,M,L,h,x,rfl,S,hls,h0,hL,kk⟩:=h
 refine⟨_,(aj (aP (i:=4) qK.nd rfl (by first | exact Or.inl rfl | exact Or.inr rfl) (cY T.vW T.cQ Bb (hr.mono (by first | decide | omega)) aQ (pv 0) (aa (pv 1) (aa (pv 2) (aa (pv 3) ai))))) (av (aO (DM (bK gD (pv 1) (aH nI (b8 K (pv 0)) aq) (bN _)) (cY T.vX T.cQ Bc (hr.mono (by first | decide | omega)) aQ (pv 0) (aa (b8 K (pv 0)) (aa (pv 4) ai))) (pv 4))))),?_⟩
 have cW:=T.cQ
 obtain⟨dx,ob⟩:=S.wk.ob
 obtain⟨Aa,Lz,xV,HS,LA,Ab,Ac,Ae⟩:=yS sa x (h+1) W
 refine bh (dj (af (by rfl)) ob rfl λH2 s2=>(ao (af (by rfl)) λ_ _=>ao (af (by rfl)) λ_ _=>az (af (by rfl))) _ λH3 s3=>?_)
 have s03:=s2.trans s3
 refine⟨p,sa,row,n,ls,A,W,M,L,h+1,x,rfl,S.same s03,hls,h0,by omega,λH4 W4 kw4=>?_⟩
 have kw04:Kw K M H H4:=(Kw.same s03).trans kw4
 have S4:=S.kw kw04 W4
 obtain⟨dx4,T3⟩:=S4.wk.ob
 have gtest:Gt (nq (cZ BO (eG 1) (cZ (qA λi j=>.int (i - j)) (vA K (eG 0) "high") (tC (.int 1))))) [some (.ref p),some (.int (row:Int)),some (.int n),some (.str ls),some (.int 0)] H4 (decide (row=h)):=
  gS (cz (ku (af (by rfl)) (λH5 s5=>bO (aV (af (by rfl)) (s5 _ _ T3) cW T.eY xV) λ_ _=>ay) (by rfl))) (by rw[decide_eq_decide]; constructor <;> intro z <;> first | (injection z with z; omega) | (rw[z]; congr 1; omega))
 refine cI (gtest _ λH5 s5=>?_)
 by_cases c:row=h
 ·rw[if_pos (decide_eq_true c)]
  refine dj (af (by rfl)) (s5 _ _ T3) rfl λH6 s6=>(ao (aV (v:=.int ((h+1:Nat):Int)) (af (by rfl)) ((s5.trans s6) _ _ T3) cW T.eY xV) λ_ _=>az (af (by rfl))) _ λH7 s7=>?_
  have s47:=s5.trans (s6.trans s7)
  exact⟨p,sa,h,A,W,M,L+2,h+1,x,rfl,S4.same s47,by omega,λH8 W8 kw8=>kk H8 W8 ((kw04.st s47).trans kw8)⟩
 ·rw[if_neg (by rw[decide_eq_false c]; decide)]
  exact (af (by rfl)) _ λH6 s6=>kk H6 ((W4.same (s5.trans s6)).le (by omega)) (kw04.st (s5.trans s6))
theorem NB {tt:TA}{tb us:TS}{D:Ends}{σ:L2.St}{H:Hp}{a:Addr}{xs:List V}{i₀ j₀:Nat}(h:Ga tt σ H [.ref a])(hq:aE K H a xs)(Pv:Nat->L2.St->Hp->Prop)(h0:∀H',ah H H'->Pv 0 σ H')(hl:∀i σ H,Pv i σ H->aE K H a xs)
  (hs:∀i x σ H tp,xs[i]?=some x->Pv i σ H->H tp=none->tb { D with nx:=Pv (i+1),ct:=Pv (i+1),bk:=us D } ((σ.set i₀ (some (.int (i:Int)))).set j₀ (some x)) (upd H tp (.tup [.int (i:Int),x]))) (hd:∀σ H,Pv xs.length σ H->us D σ H) :
  eK (kh (Lr K tt) (DP K 2 (tK (fc i₀) (tK (fc j₀) ID))) tb) us D σ H:=by
 refine h _ λH' s=>⟨a,xs,rfl,s.seq hq,?_⟩
 refine⟨λi m σ H=>m=xs.length - i/\i<=xs.length/\Pv i σ H,⟨xs.length,by simp,Nat.zero_le _,h0 H' s⟩,?_⟩
 rintro i m σ H ⟨rfl,hi,p⟩
 by_cases hlt:i < xs.length
 ·refine .inr ⟨⟨hlt,hl i σ H p⟩,Pv (i+1),fun σ' H' p'=>⟨xs.length - (i+1),by omega,rfl,hlt,p'⟩,λv H' z=>?_⟩
  obtain⟨tp,x,rfl,ht,hx,rfl⟩:=z
  exact⟨tp,_,rfl,aK.of au,rfl,_,_,rfl,_,_,rfl,rfl,hs i x σ H tp hx p ht⟩
 ·obtain rfl:i=xs.length:=by omega
  exact .inl ⟨⟨rfl,hl _ σ H p⟩,hd σ H p⟩
def Cr (K:PySem.W.Frag)(P:Program)(w:World)(t:Ad):Sp:=λvs H Q _=>∃(p sa c:Addr) (n:Int) (A:FA) (W:WA) (M:Mp) (L h:Nat) (x:Str) (ws:List Str),vs=[.ref p,.int n,.ref c]/\Al K P w t M L H p sa A W x (h+1)/\H c=some (.lst (ws.map V.str))/\M c=none/\(∀y∈ws,PyData.strOk y=true)/\ws.length=h+1/\h<=9/\L<=600000/\
 ∀H',Wd K P w M (L+100) H'->Kw K M H H'->Q (.int 0) H'
theorem gO:aI ["self","columns","choices","front","row","letters"] ["self","columns","choices"] (aC iu):=⟨rfl,rfl,rfl,by decide +kernel,rfl,by decide +kernel,by decide +kernel⟩
theorem Ao (T:Txt K mg t):aA P w K mg base aZ 5 t.m7 t.iB ["self","columns","choices"] (Cr K P w t):=by
 have j8:aA P w K mg base aZ 4 t.j4 t.fR ["self","row","front","letters"] (wj K P w t):=qL T
 refine T.vY.fn.ok gO (λvs H Q E h=>?_) (λcdv Ar outer sh H vs Q E hr h=>?_)
 ·obtain⟨p,sa,c,n,A,W,M,L,h,x,ws,rfl,_⟩:=h
  rfl
 obtain⟨p,sa,c,n,A,W,M,L,h,x,ws,rfl,S,hc,mc,hws,hwl,hh,hL,kk⟩:=h
 refine⟨_,(aj (aP (i:=3) gO.nd rfl (by first | exact Or.inl rfl | exact Or.inr rfl) (pv 1)) (aj (fC PassesOwn.never rfl (Np K T.Gh (aa (pv 2) ai)) (oR K (n:=2) (cj (aL (i:=4) gO.nd rfl (by first | exact Or.inl rfl | exact Or.inr rfl)) (cj (aL (i:=5) gO.nd rfl (by first | exact Or.inl rfl | exact Or.inr rfl)) jW))) (av (aP (i:=3) gO.nd rfl (by first | exact Or.inl rfl | exact Or.inr rfl) (cY T.l6 T.cQ j8 (hr.mono (by first | decide | omega)) aQ (pv 0) (aa (pv 4) (aa (pv 3) (aa (pv 5) ai))))))) (av (aO (pv 3))))),?_⟩
 refine gE (af (by rfl)) λH1 s1=>?_
 refine NB (K:=K) (az (af (by rfl))) (aE.of (s1 _ _ hc))
  (λi σ H2=>i<=h+1/\∃e4 e5 f,σ=[some (.ref p),some (.int n),some (.ref c),some (.int f),e4,e5]/\Wd K P w M (L+4 * i) H2/\Kw K M H H2/\(i=0\/f=0))
  (λH2 s2=>⟨Nat.zero_le _,none,none,n,rfl,S.wd.same (s1.trans s2),Kw.same (s1.trans s2),.inl rfl⟩) (λi σ H2 z=>?_) ?_ ?_
 ·obtain⟨_,e4,e5,f,_,_,kw,_⟩:=z
  exact aE.of (kw.keep _ _ hc mc)
 ·rintro i v σ H2 tp hv ⟨hi',e4,e5,f,rfl,Wi,kwi,hf⟩ htp
  rw[List.getElem?_map] at hv
  obtain⟨y,hy,rfl⟩:=Option.map_eq_some_iff.mp hv
  have hil:=(List.getElem?_eq_some_iff.mp hy).1
  have s23:ah H2 (upd H2 tp (.tup [.int (i:Int),.str y])):=ah.new htp _
  generalize upd H2 tp (.tup [.int (i:Int),.str y])=H3 at *
  have S3:=(S.kw kwi Wi).same s23
  obtain⟨dx3,Z_⟩:=S3.wk.ob
  refine G0 (dj (af (by rfl)) Z_ rfl λH4 s4=>(ao (af (by rfl)) λ_ _=>ao (af (by rfl)) λ_ _=>az (af (by rfl))) _ λH5 s5=>?_)
  have LB:=s4.trans s5
  exact⟨p,sa,i,f,y,A,W,M,L+4 * i,h,x,rfl,S3.same LB,hws y (List.mem_of_getElem? hy),hf,by omega,λH6 W6 kw6=>⟨by omega,_,_,0,rfl,W6.le (by omega),(kwi.st (s23.trans LB)).trans kw6,.inr rfl⟩⟩
 ·rintro σ H2 ⟨hi',e4,e5,f,rfl,Wi,kwi,hf⟩
  rw[List.length_map] at Wi hf
  obtain rfl:f=0:=hf.resolve_left (by omega)
  exact cK (af (by rfl)) λH3 s3=>kk H3 ((Wi.same s3).le (by omega)) (kwi.st s3)
def HU (K:PySem.W.Frag):Sp:=λvs H Q _=>∃(T:Addr),vs=[.ref T]/\aE K H T []/\∀(Z:Addr) (H':Hp),H Z=none->ah H H'->H' Z=some (.lst [])->Q (.ref Z) H'
theorem xx:aI ["tiles"] ["tiles"] (aC fW):=⟨rfl,rfl,rfl,by decide +kernel,rfl,by decide +kernel,by decide +kernel⟩
theorem xy (T:Txt K mg t):aA P w K mg base aZ 1 t.lg t.fZ ["tiles"] (HU K):=by
 refine T.sj.fn.ok xx (λvs H Q E h=>?_) (λcdv Ar outer sh H vs Q E hr h=>?_)
 ·obtain⟨TT,rfl,_⟩:=h
  rfl
 obtain⟨TT,rfl,hq,kk⟩:=h
 refine⟨_,(av (aO (cN (N':=["left","right","low_left","low_right"]) (ix:=[none,none,none,none]) (aT (by kernel_rfl)) rfl (jv K (pv 0)) (λ_ _ _ _=>(oR K (n:=4) (cj (aL (i:=0) (show List.Nodup (["left","right","low_left","low_right"]:List Str) from by decide +kernel) rfl (by first | exact Or.inl rfl | exact Or.inr rfl)) (cj (aL (i:=1) (show List.Nodup (["left","right","low_left","low_right"]:List Str) from by decide +kernel) rfl (by first | exact Or.inl rfl | exact Or.inr rfl)) (cj (aL (i:=2) (show List.Nodup (["left","right","low_left","low_right"]:List Str) from by decide +kernel) rfl (by first | exact Or.inl rfl | exact Or.inr rfl)) (cj (aL (i:=3) (show List.Nodup (["left","right","low_left","low_right"]:List Str) from by decide +kernel) rfl (by first | exact Or.inl rfl | exact Or.inr rfl)) jW)))))) (λ_ _ _ _=>fF) (λ_ _ _ _=>pJ)))),?_⟩
 exact cI (M5 (K:=K) (af (by rfl)) hq λZ H' hZ s hl=>kk Z H' hZ s hl)
def Bs (K:PySem.W.Frag)(M:Mp)(H:Hp)(a:Addr)(x:Str):Prop:=∃T,aK K H a [.str x,.ref T]/\H T=some (.lst [])/\M T=none
theorem Bs.kw {M:Mp}{H H':Hp}{a:Addr}{x:Str}(b:Bs K M H a x)(k:Kw K M H H'):Bs K M H' a x:=by
 obtain⟨T,h1,h2,h3⟩:=b
 exact⟨T,k.tup _ _ h1,k.keep _ _ h2 h3,h3⟩
theorem Bs.same {M:Mp}{H H':Hp}{a:Addr}{x:Str}(b:Bs K M H a x)(s:ah H H'):Bs K M H' a x:=b.kw (Kw.same s)
theorem Bs.ex {M M':Mp}{H:Hp}{a:Addr}{x:Str}(b:Bs K M H a x)(y:Ex M M' H):Bs K M' H a x:=by
 obtain⟨T,h1,h2,h3⟩:=b
 exact⟨T,h1,h2,y.new T (by rw[h2]; exact λz=>nomatch z) h3⟩
theorem Cs {M:Mp}{H H1 H':Hp}{p dx sa:Addr}{A:FA}{L h:Nat}{x:Str}{W:WA}{C:Addr}(F:Fo t M H sa A)(D:Wd K P w M L H)(s:ah H H1)(hp:H1 p=none)(hdx:H1 dx=none)(nd:dx≠p)
  (q:Wn K P w t.cL (upd (upd H1 dx (.own p)) p (.ins C dx [])) H' p sa W x h):∃M',Ex M M' H/\Al K P w t M' L H' p sa A W x h/\Kw K M' H H':=by
 have hp2:upd H1 dx (.own p) p=none:=by rw[aG (Ne.symm nd)]; exact hp
 have s2:ah H (upd (upd H1 dx (.own p)) p (.ins C dx [])):=s.trans ((ah.new hdx _).trans (ah.new hp2 _))
 have hpp:upd (upd H1 dx (.own p)) p (.ins C dx []) p=some (.ins C dx []):=au
 generalize upd (upd H1 dx (.own p)) p (.ins C dx [])=H2 at *
 have LD:H p=none:=s.free hp
 have new:∀a∈[W.ll,W.ck,W.pk,W.dk],H a=none:=λa ha=>s2.free (q.new a ha)
 have np:∀a∈[W.ll,W.ck,W.pk,W.dk],p≠a:=λa ha z=>by
  have:=q.new a ha
  rw[←z,hpp] at this; cases this
 obtain⟨⟨OU,ob⟩,ll,ck,pk,dk,qn,Ww,kp⟩:=q
 simp only [List.nodup_cons,List.mem_cons,List.not_mem_nil,or_false,not_or,List.nodup_nil,and_true,not_false_eq_true] at Ww
 obtain⟨⟨d1,d2,d3⟩,⟨d4,d5⟩,d6⟩:=Ww
 have hM:∀a∈[W.ll,W.ck,W.pk,W.dk],M a=none:=λa ha=>D.off (new a ha)
 have T4:Kw K M H H':=⟨λb o e _=>kp.keep _ _ (s2 _ _ e) (λz=>by rw[List.mem_singleton.mp z,LD] at e; cases e),λq xs h=>kp.tup _ _ (s2.tup h),λb h=>kp.live b (qH s2 b h)⟩
 let M':Mp:=λa=>if a=W.ck then some .ck else if a=W.pk then some .pk else if a=W.dk then some .dk else M a
 have m1:M' W.ck=some .ck:=if_pos rfl
 have m2:M' W.pk=some .pk:=by show (if W.pk=W.ck then _ else _)=_; rw[if_neg (Ne.symm d4),if_pos rfl]
 have m3:M' W.dk=some .dk:=by show (if W.dk=W.ck then _ else _)=_; rw[if_neg (Ne.symm d5),if_neg (Ne.symm d6),if_pos rfl]
 have m4:∀a,a≠W.ck->a≠W.pk->a≠W.dk->M' a=M a:=λa h1 h2 h3=>by show (if a=W.ck then _ else _)=_; rw[if_neg h1,if_neg h2,if_neg h3]
 have x1:Ex M M' H:=by
  refine⟨λa k e=>?_,λa h e=>?_⟩
  ·rw[m4 a (λz=>?_) (λz=>?_) λz=>?_]; exact e
   ·rw[z,hM _ (by simp)] at e; cases e
   ·rw[z,hM _ (by simp)] at e; cases e
   ·rw[z,hM _ (by simp)] at e; cases e
  ·rw[m4 a (λz=>h (by rw[z]; exact new _ (by simp))) (λz=>h (by rw[z]; exact new _ (by simp))) λz=>h (by rw[z]; exact new _ (by simp))]; exact e
 have T5:=T4.ex x1.old
 refine⟨M',x1,⟨(F.ex x1).kw T5,⟨⟨OU,ob⟩,?_,m1,m2,m3,ll,?_⟩,λa k e=>?_⟩,T5⟩
 ·rw[m4 p (np _ (by simp)) (np _ (by simp)) (np _ (by simp))]; exact D.off LD
 ·rw[m4 _ d1 d2 d3]; exact hM _ (by simp)
 ·by_cases c1:a=W.ck
  ·subst c1
   rw[m1] at e; cases e
   exact⟨_,ck.le (Nat.zero_le _),λ_ _ z=>nomatch z⟩
  by_cases c2:a=W.pk
  ·subst c2
   rw[m2] at e; cases e
   exact⟨_,pk.le (Nat.zero_le _),λ_ _ z=>nomatch z⟩
  by_cases c3:a=W.dk
  ·subst c3
   rw[m3] at e; cases e
   exact⟨[],dk,Nat.zero_le _,λ_ _ z=>nomatch z⟩
  rw[m4 a c1 c2 c3] at e
  obtain⟨o,ho⟩:=(D a k e).some
  exact (D a k e).keep ((kp.keep _ _ (s2 _ _ ho) λz=>by rw[List.mem_singleton.mp z,LD] at ho; cases ho).trans ho.symm) T4.tup (λq e m=>T4.keep _ _ e m) (Nat.le_refl _) λq h1 h2=>x1.new q h2 h1
def xo (K:PySem.W.Frag)(P:Program)(w:World)(t:Ad):Sp:=λvs H Q _=>∃(sa sys:Addr) (x:Str) (A:FA) (M:Mp) (L h:Nat),vs=[.ref sa,.ref sys,.int (h:Int)]/\Bs K M H sys x/\Fo t M H sa A/\Wd K P w M L H/\
 ∀p W M' H',Ex M M' H->Al K P w t M' L H' p sa A W x h->Kw K M' H H'->Q (.ref p) H'
theorem CU:aI ["sets","system","high"] ["sets","system","high"] (aC jB):=⟨rfl,rfl,rfl,by decide +kernel,rfl,by decide +kernel,by decide +kernel⟩
theorem CW (T:Txt K mg t):aA P w K mg base aZ 3 t.pP t.jK ["sets","system","high"] (xo K P w t):=by
 have lA:=oF (P:=P) (w:=w) (base:=base) T
 refine T.t6.fn.ok CU (λvs H Q E h=>?_) (λcdv Ar outer sh H vs Q E hr h=>?_)
 ·obtain⟨sa,sys,x,A,M,L,h,rfl,_⟩:=h
  rfl
 obtain⟨sa,sys,x,A,M,L,h,rfl,⟨TT,y1,y2,y3⟩,F,D,kk⟩:=h
 refine⟨_,(av (aO (tT T.Hg T.m8 lA (hr.mono (by first | decide | omega)) T.K8 aQ (aa (pv 0) (aa (bT (pF K) (pv 1) aq (λ_ _=>rfl)) (aa (bT (pF K) (pv 1) aq (λ_ _=>rfl)) (aa (pv 2) ai))))))),?_⟩
 refine cI ((ao (af (by rfl)) λH1 s1=>ao (jx (K:=K) (af (by rfl)) (λ_ _=>ay) (s1.tup y1) (cu (j:=0) rfl)) λH2 s2=>ao (jx (K:=K) (af (by rfl)) (λ_ _=>ay) ((s1.trans s2).tup y1) (cu (j:=1) rfl)) λH3 s3=>az (af (by rfl))) _ λH1 s1=>λp dx hp hdx nd=>?_)
 have hp2:upd H1 dx (.own p) p=none:=by rw[aG (Ne.symm nd)]; exact hp
 have s2:ah H1 (upd (upd H1 dx (.own p)) p (.ins t.cL dx [])):=(ah.new hdx _).trans (ah.new hp2 _)
 refine⟨p,sa,TT,dx,x,h,rfl,au,aE.of ((s1.trans s2) _ _ y2),λW H' q=>⟨rfl,?_⟩⟩
 obtain⟨M',e1,e2,e3⟩:=Cs F D s1 hp hdx nd q
 exact kk p W M' H' e1 e2 e3
theorem Fb:aI ["sets","system","high"] ["sets","system","high"] (aC kG):=⟨rfl,rfl,rfl,by decide +kernel,rfl,by decide +kernel,by decide +kernel⟩
theorem Fc (T:Txt K mg t):aA P w K mg base aZ 3 t.qW t.kM ["sets","system","high"] (xo K P w t):=by
 have lA:=oF (P:=P) (w:=w) (base:=base) T
 have yV:aA P w K mg base aZ 1 t.lg t.fZ ["tiles"] (HU K):=xy T
 refine T.Ce.fn.ok Fb (λvs H Q E h=>?_) (λcdv Ar outer sh H vs Q E hr h=>?_)
 ·obtain⟨sa,sys,x,A,M,L,h,rfl,_⟩:=h
  rfl
 obtain⟨sa,sys,x,A,M,L,h,rfl,⟨TT,y1,y2,y3⟩,F,D,kk⟩:=h
 refine⟨_,(av (aO (tT T.Hg T.m8 lA (hr.mono (by first | decide | omega)) T.K8 aQ (aa (pv 0) (aa (bT (pF K) (pv 1) aq (λ_ _=>rfl)) (aa (aB T.sj yV (hr.mono (by first | decide | omega)) aQ (aa (bT (pF K) (pv 1) aq (λ_ _=>rfl)) ai)) (aa (pv 2) ai))))))),?_⟩
 refine cI (z_ (cR (af (by rfl)) λH1 s1=>cR (jx (K:=K) (af (by rfl)) (λ_ _=>ay) (s1.tup y1) (cu (j:=0) rfl)) λH2 s2=>qi (bB (az (jx (K:=K) (af (by rfl)) (λ_ _=>ay) ((s1.trans s2).tup y1) (cu (j:=1) rfl))) λH3 s3=>⟨TT,rfl,aE.of ((s1.trans (s2.trans s3)) _ _ y2),λZ H4 hZ s4 oG=>cR (af (by rfl)) λH5 s5=>λp dx hp hdx nd=>?_⟩)))
 have s05:=s1.trans (s2.trans (s3.trans (s4.trans s5)))
 have hp2:upd H5 dx (.own p) p=none:=by rw[aG (Ne.symm nd)]; exact hp
 have s6:ah H5 (upd (upd H5 dx (.own p)) p (.ins t.cL dx [])):=(ah.new hdx _).trans (ah.new hp2 _)
 refine⟨p,sa,Z,dx,x,h,rfl,au,aE.of ((s5.trans s6) _ _ oG),λW H' q=>⟨rfl,?_⟩⟩
 obtain⟨M',e1,e2,e3⟩:=Cs F D s05 hp hdx nd q
 exact kk p W M' H' e1 e2 e3
def HV (K:PySem.W.Frag):Sp:=λvs H Q _=>∃h:Nat,vs=[.int (h:Int)]/\h<=100/\∀Z H',H Z=none->ah H H'->H' Z=some (.lst ((List.replicate h ("abcd":Str)).map V.str))->Q (.ref Z) H'
theorem Bd:aI ["high"] ["high"] (aC iW):=⟨rfl,rfl,rfl,by decide +kernel,rfl,by decide +kernel,by decide +kernel⟩
theorem Bf (T:Txt K mg t):aA P w K mg base aZ 1 t.n_ t.i7 ["high"] (HV K):=by
 refine T.ri.fn.ok Bd (λvs H Q E h=>?_) (λcdv Ar outer sh H vs Q E hr h=>?_)
 ·obtain⟨h,rfl,_⟩:=h
  rfl
 obtain⟨h,rfl,hh,kk⟩:=h
 refine⟨_,(av (aO (aH lN (aY (aa (dF rfl T.vU T.vV) ai)) (pv 0)))),?_⟩
 refine cI (nA (pZ (xs:=[.str "abcd"]) (k:=h) (dg (az ay) (by show 1<=sizeLine; decide)) (λ_ _=>af (by rfl)) (by omega) (by show 1 * h<=1000; omega)) λZ H' hZ s hl=>kk Z H' hZ s ?_)
 rw[hl,List.flatten_replicate_singleton,List.map_replicate]
end
end bJ
set_option maxHeartbeats 1000000
namespace bJ
open PySem PySem.Spec PyProof.Rows L2 j_ TB
section
variable {P:Program}{w:World}{K:PySem.W.Frag}{mg:Str->Option Value}{base:Heap}{t:Ad}
def HW (K:PySem.W.Frag)(P:Program)(w:World)(t:Ad):Sp:=λvs H Q _=>∃(sa sys C c:Addr) (x:Str) (A:FA) (M:Mp) (L h:Nat),vs=[.ref sa,.ref sys,.int ((h+1:Nat):Int),.ref C]/\Bs K M H sys x/\Fo t M H sa A/\Wd K P w M L H/\H C=some (.lst [.ref c])/\M C=none/\H c=some (.lst ((List.replicate (h+1) ("abcd":Str)).map V.str))/\M c=none/\h<=9/\L<=500000/\
 ∀Z M' H',Ex M M' H->Wd K P w M' (L+200) H'->Kw K M' H H'->H' Z=some (.lst [.int 0])->Q (.ref Z) H'
theorem c_:aI ["sets","system","high","columns","walk","behind","found","choices"] ["sets","system","high","columns"] (aC eT):=⟨rfl,rfl,rfl,by decide +kernel,rfl,by decide +kernel,by decide +kernel⟩
theorem uX (T:Txt K mg t):aA P w K mg base aZ 6 t.jL t.eV ["sets","system","high","columns"] (HW K P w t):=by
 have Gk:aA P w K mg base aZ 3 t.qW t.kM ["sets","system","high"] (xo K P w t):=Fc T
 have gX:aA P w K mg base aZ 3 t.gU t.dX ["self"] (yT K P w t):=nU T
 have Bg:aA P w K mg base aZ 5 t.m7 t.iB ["self","columns","choices"] (Cr K P w t):=Ao T
 refine T.lu.fn.ok c_ (λvs H Q E h=>?_) (λcdv Ar outer sh H vs Q E hr h=>?_)
 ·obtain⟨sa,sys,C,c,x,A,M,L,h,rfl,_⟩:=h
  rfl
 obtain⟨sa,sys,C,c,x,A,M,L,h,rfl,hB,F,D,hC,mC,hc,mc,hh,hL,kk⟩:=h
 refine⟨_,(aj (aP (i:=4) c_.nd rfl (by first | exact Or.inl rfl | exact Or.inr rfl) (aB T.Ce Gk (hr.mono (by first | decide | omega)) aQ (aa (pv 0) (aa (pv 1) (aa (pv 2) ai))))) (aj (aP (i:=5) c_.nd rfl (by first | exact Or.inl rfl | exact Or.inr rfl) (nM T.jl T.cQ gX (hr.mono (by first | decide | omega)) aQ (pv 4))) (aj (aP (i:=6) c_.nd rfl (by first | exact Or.inl rfl | exact Or.inr rfl) (aY ai)) (aj (fC PassesOwn.never rfl (SY K T.Ji (aa (pv 3) ai)) (aL (i:=7) c_.nd rfl (by first | exact Or.inl rfl | exact Or.inr rfl)) (aj (aP (i:=5) c_.nd rfl (by first | exact Or.inl rfl | exact Or.inr rfl) (cY T.vY T.cQ Bg (hr.mono (by first | decide | omega)) aQ (pv 4) (aa (pv 5) (aa (pv 7) ai)))) (av (aX (xN K PySem.F.plainAttrs_list PySem.F.slot_list_append PySem.F.type_list_append lE (pv 6) (aa (pv 5) ai)))))) (av (aO (Xp K (pv 6)))))))),?_⟩
 refine bh (bB (ao (af (by rfl)) λ_ _=>ao (af (by rfl)) λ_ _=>az (af (by rfl))) λH1 s1=>⟨sa,sys,x,A,M,L,h+1,rfl,hB.same s1,F.same s1,D.same s1,λp W M2 H2 x2 S2 kw2=>?_⟩)
 have x02:Ex M M2 H:=Ex.trans (H':=H1) Ex.refl x2 λb h=>qH s1 b h
 have kw02:Kw K M2 H H2:=(Kw.same s1).trans kw2
 obtain⟨Wx,LH⟩:=S2.wk.ob
 refine bh (dj (af (by rfl)) LH rfl λH3 s3=>⟨p,sa,A,M2,W,L,h,x,rfl,S2.fs.same s3,S2.wk.same s3,S2.wd.same s3,hh,by omega,λn H4 W4 kw4=>?_⟩)
 have NC:Kw K M2 H2 H4:=(Kw.same s3).trans kw4
 have S4:=S2.kw NC W4
 refine bh ⟨(by show 0<=sizeLine; decide),λFl O0=>?_⟩
 have s45:ah H4 (upd H4 Fl (.lst [])):=ah.new O0 _
 have T6:upd H4 Fl (.lst []) Fl=some (.lst []):=au
 generalize upd H4 Fl (.lst [])=H5 at *
 obtain⟨W5,x5⟩:=W4.ko O0 s45 (by rw[T6]; exact True.intro) ⟨_,T6⟩
 have Wy:Ex M (ko M2 Fl) H:=x02.trans x5 λb h=>(kw02.trans NC).live b h
 have F4:=S4.fs.ex x5
 have O4:=S4.wk.ex x5
 have kw04:Kw K (ko M2 Fl) H H4:=(kw02.trans NC).ex x5.old
 have hFH:H Fl=none:=kw04.free O0
 have nCF:∀{a:Addr} {o:HO},H a=some o->M a=none->ko M2 Fl a=none:=λ{a o} e m=>Wy.new a (by rw[e]; exact λz=>nomatch z) m
 generalize hM':ko M2 Fl=M' at *
 have mF:M' Fl=some .fr:=by rw[←hM']; exact qI
 refine Lv (K:=K) (az (af (by rfl))) (aE.of (s45 _ _ (kw04.keep _ _ hC (nCF hC mC))))
  (λi σ H6=>i<=1/\∃e7 n,σ=[some (.ref sa),some (.ref sys),some (.int ((h+1:Nat):Int)),some (.ref C),some (.ref p),some (.int n),some (.ref Fl),e7]/\Wd K P w M' (L+h+100 * i) H6/\Kw K M' H4 H6/\H6 Fl=some (.lst (List.replicate i (.int 0))))
  (λH6 s6=>⟨Nat.zero_le _,none,n,by first | rfl | simp,W5.same s6,Kw.same (s45.trans s6),s6 _ _ T6⟩)
  (λi σ H6 z=>by obtain⟨_,e7,n,_,_,z,_⟩:=z; exact aE.of ((kw04.trans z).keep _ _ hC (nCF hC mC))) (λi v σ H6 hi hv hP=>?_) fun σ H6 hP=>?_
 ·obtain⟨hi',e7,n',rfl,Wi,kwi,T7⟩:=hP
  obtain rfl:i=0:=by simp at hi; omega
  obtain rfl:v=.ref c:=by simpa using hv.symm
  have Si:Al K P w t M' _ H6 p sa A W x (h+1):=⟨F4.kw kwi,O4.kw kwi,Wi⟩
  obtain⟨ZW,TQ⟩:=Si.wk.ob
  have Hr:=(kw04.trans kwi).keep _ _ hc (nCF hc mc)
  refine bh (dj (af (by rfl)) TQ rfl λH7 s7=>(ao (af (by rfl)) λ_ _=>az (af (by rfl))) _ λH8 s8=>?_)
  have s68:=s7.trans s8
  refine⟨p,sa,c,n',A,W,M',_,h,x,_,rfl,Si.same s68,s68 _ _ Hr,nCF hc mc,λy hy=>?_,by simp,hh,by omega,λH9 W9 kw9=>?_⟩
  ·rw[(List.mem_replicate.mp hy).2]; decide +kernel
  have kw49:Kw K M' H4 H9:=(kwi.st s68).trans kw9
  have OQ:H9 Fl=some (.lst []):=kw9.kf _ _ (s68 _ _ T7) (.inr mF)
  refine Cn (af (by rfl)) OQ (λ_ _=>af (by rfl)) (by rw[sizeLine_eq]; decide) λH10 gY=>?_
  have muF:dZ (H10 Fl):=by rw[gY _ _ OQ]; exact True.intro
  exact⟨Nat.le_refl _,_,0,rfl,((W9.same gY).own (o:=.lst ([]++[.int 0])) mF True.intro).le (by omega),(kw49.st gY).E8 O0 muF,au⟩
 ·obtain⟨hi',e7,n',rfl,Wi,kwi,T7⟩:=hP
  refine cI (nA (TM (K:=K) (af (by rfl)) (aE.of T7)) λZ H7 hZ s7 oG=>?_)
  exact kk Z M' H7 Wy ((Wi.same s7).le (by simp; omega)) ((kw04.trans kwi).st s7) oG
end
end bJ
set_option maxHeartbeats 1000000
namespace bJ
open PySem PySem.Spec PyProof.Rows L2 j_ TB
section
variable {P:Program}{w:World}{K:PySem.W.Frag}{mg:Str->Option Value}{base:Heap}{t:Ad}
theorem LI {ix:List (Option Nat)}{tf:TT}{σ:L2.St}{H1:Hp}{Q:Addr->Hp->Prop}{fv:Nat->V}{n i₀:Nat}(b:Nat->Bool)(hz:n<=1000)(hi:∀v,((dM ix σ).set i₀ (some v))[i₀]?=some (some v))(ht:∀i H,i < n->ah H1 H->Gt tf ((dM ix σ).set i₀ (some (fv i))) H (b i))
  (hd:∀D H,H1 D=none->ah H1 H->H D=some (.lst (((List.range n).filter b).map fv))->Q D H):ee (Kz fv n) ix (fc i₀) tf (eG i₀) σ H1 Q:=by
 intro D hD
 refine⟨λi m ys H=>m=n - i/\i<=n/\ah H1 H/\ys=((List.range i).filter b).map fv,⟨n,by simp,Nat.zero_le _,ah.new hD _,by simp⟩,?_⟩
 rintro i m ys H ⟨rfl,hi',sm,p⟩ bC
 by_cases hlt:i < n
 ·refine .inr ⟨hlt,λx H3 y=>?_⟩
  obtain⟨e,y⟩:=y
  subst e; subst y
  refine ht i _ hlt sm _ λH5 s5=>?_
  cases c:b i with
  | true=>
   rw[if_pos rfl]
   refine⟨fv i,hi _,s5 _ _ bC,?_,n - (i+1),by omega,rfl,hlt,(sm.trans s5).put hD _,?_⟩
   ·rw[p,List.length_map]
    have:=List.length_filter_le b (List.range i)
    rw[List.length_range] at this
    rw[sizeLine_eq]; omega
   ·rw[p,List.range_succ,List.filter_append,List.filter_cons_of_pos c,List.map_append]; rfl
  | false=>
   rw[if_neg (by decide)]
   refine⟨s5 _ _ bC,n - (i+1),by omega,rfl,hlt,sm.trans s5,?_⟩
   rw[p,List.range_succ,List.filter_append,List.filter_cons_of_neg (by rw[c]; decide)]
   simp
 ·obtain rfl:i=n:=by omega
  exact .inl ⟨Nat.le_refl _,hd D H hD sm (by rw[bC,p])⟩
theorem oW {σ:L2.St}{H0:Hp}{p C dx:Addr}{fs:List (Str × V)}{f:Str}{v:V}{R:Hp->Prop}(h0:σ[0]?=some (some (.ref p)))(e:H0 p=some (.ins C dx fs))(c:iF K C)(n:bw K C f)(hl:fs.length < 1000)(k:R (upd H0 p (.ins C dx (aF f v fs)))) :
  eG 0 σ H0 λx H1=>∃p C dx fs,x=.ref p/\H1 p=some (.ins C dx fs)/\iF K C/\bw K C f/\fs.length < 1000/\R (upd H1 p (.ins C dx (aF f v fs))):=⟨_,h0,p,C,dx,fs,rfl,e,c,n,hl,k⟩
def Ct (h:Nat)(lt sa lw rw:Addr):List (Str × V):=[("high",.int (h:Int)),("letters",.ref lt),("sets",.ref sa),("left_walk",.ref lw),("right_walk",.ref rw),("left_ending",.int 0),("right_ending",.int 0)]
structure Bo (K:PySem.W.Frag)(P:Program)(w:World)(t:Ad)(M:Mp)(L:Nat)(H:Hp)(p sa:Addr)(h:Nat)(x y:Str):Prop where
 ob:∃dx lt lw rw,H p=some (.ins t.bu dx (Ct (h+1) lt sa lw rw))/\(∃ws:List Str,H lt=some (.lst (ws.map V.str))/\M lt=none/\ws.length<=4/\∀s∈ws,PyData.strOk s=true)/\(∃A W,Al K P w t M L H lw sa A W x (h+1))/\∃A W,Al K P w t M L H rw sa A W y (h+1)
 mp:M p=some .fr
section
variable {M M':Mp}{L L' h:Nat}{H H':Hp}{p sa:Addr}{x y:Str}
theorem Bo.kw (B:Bo K P w t M L H p sa h x y)(k:Kw K M H H')(d:Wd K P w M L' H'):Bo K P w t M L' H' p sa h x y:=by
 obtain⟨⟨dx,lt,lw,rw,ob,⟨ws,l1,l2,l4,l3⟩,⟨A1,W1,S1⟩,⟨A2,W2,S2⟩⟩,mp⟩:=B
 exact⟨⟨dx,lt,lw,rw,k.kf _ _ ob (.inr mp),⟨ws,k.keep _ _ l1 l2,l2,l4,l3⟩,⟨A1,W1,S1.kw k d⟩,⟨A2,W2,S2.kw k d⟩⟩,mp⟩
theorem Bo.wd (B:Bo K P w t M L H p sa h x y):Wd K P w M L H:=by
 obtain⟨⟨dx,lt,lw,rw,ob,_,⟨A1,W1,S1⟩,_⟩,mp⟩:=B
 exact S1.wd
theorem Bo.same (B:Bo K P w t M L H p sa h x y)(s:ah H H'):Bo K P w t M L H' p sa h x y:=B.kw (Kw.same s) (B.wd.same s)
end
structure Kv (K:PySem.W.Frag)(M:Mp)(H H':Hp):Prop where
 keep:∀b o,H b=some o->M b=none->H' b=some o
 tup:∀q xs,aK K H q xs->aK K H' q xs
 live:∀b,H b≠none->H' b≠none
section
variable {M M':Mp}{L L' h:Nat}{H H' H2:Hp}{p s sa:Addr}{A:FA}{W:WA}{x y:Str}
theorem Kw.v (k:Kw K M H H'):Kv K M H H':=⟨k.keep,k.tup,k.live⟩
theorem Kv.trans (a:Kv K M H H')(b:Kv K M H' H2):Kv K M H H2:=⟨λc o e m=>b.keep c o (a.keep c o e m) m,λq xs h=>b.tup q xs (a.tup q xs h),λc h=>b.live c (a.live c h)⟩
theorem Kv.st (a:Kv K M H H')(b:ah H' H2):Kv K M H H2:=a.trans (Kw.same b).v
theorem Kv.own {o:HO}(m:M p=some .fr)(mu:dZ (H p)):Kv K M H (upd H p o):=⟨λb u e z=>by rw[aG (λy=>by rw[y,m] at z; cases z)]; exact e,λq xs h=>cO mu h,λb h=>qg b h⟩
theorem Fo.kv (F:Fo t M H s A)(k:Kv K M H H'):Fo t M H' s A:=⟨F.ob.imp λdx e=>k.keep _ _ e F.ms,F.ms,F.mb,F.mc⟩
theorem Wo.kv (F:Wo K P w t M H p sa x h W)(k:Kv K M H H'):Wo K P w t M H' p sa x h W:=⟨F.ob.imp λdx e=>k.keep _ _ e F.mp,F.mp,F.ck,F.pk,F.dk,F.ll.kp (λu e=>k.keep _ _ e F.ml) k.tup,F.ml⟩
theorem Bs.kv (b:Bs K M H s x)(k:Kv K M H H'):Bs K M H' s x:=by
 obtain⟨T,h1,h2,h3⟩:=b
 exact⟨T,k.tup _ _ h1,k.keep _ _ h2 h3,h3⟩
structure Kq (K:PySem.W.Frag)(p:Addr)(H H':Hp):Prop where
 keep:∀b o,H b=some o->b≠p->H' b=some o
 tup:∀q xs,aK K H q xs->aK K H' q xs
 live:∀b,H b≠none->H' b≠none
theorem Kp.q (k:Kp K [p] H H'):Kq K p H H':=⟨λb o e n=>k.keep b o e (by simpa using n),k.tup,k.live⟩
theorem Kq.same (s:ah H H'):Kq K p H H':=(Kp.same s).q
theorem Kq.trans (a:Kq K p H H')(b:Kq K p H' H2):Kq K p H H2:=⟨λc o e m=>b.keep c o (a.keep c o e m) m,λq xs h=>b.tup q xs (a.tup q xs h),λc h=>b.live c (a.live c h)⟩
theorem Kq.kv (a:Kq K p H H')(k:Kv K M H' H2)(hm:∀a,H a≠none->a≠p->M a=none):Kq K p H H2:=⟨λb o e n=>k.keep _ _ (a.keep b o e n) (hm b (by rw[e]; exact λz=>nomatch z) n),λq xs h=>k.tup _ _ (a.tup q xs h),λb h=>k.live b (a.live b h)⟩
theorem Kq.put {o:HO}(a:Kq K p H H')(mu:dZ (H' p)):Kq K p H (upd H' p o):=⟨λb u e n=>by rw[aG n]; exact a.keep b u e n,λq xs h=>cO mu (a.tup q xs h),λb h=>qg b (a.live b h)⟩
end
def Aq (K:PySem.W.Frag)(H:Hp)(a:Addr)(x:Str):Prop:=∃T,aK K H a [.str x,.ref T]/\H T=some (.lst [])
structure Bi (K:PySem.W.Frag)(P:Program)(w:World)(t:Ad)(H:Hp)(p one gQ lt s:Addr)(A:FA)(x y:Str)(ws:List V)(dx:Addr)(M:Mp)(L:Nat)(Hc:Hp)(fs:List (Str × V)):Prop where
 q:Kq K p H Hc
 hm:∀a,H a≠none->a≠p->M a=none
 ob:Hc p=some (.ins t.bu dx fs)
 mp:M p=some .fr
 fo:Fo t M Hc s A
 wd:Wd K P w M L Hc
 b1:Bs K M Hc one x
 b2:Bs K M Hc gQ y
 l1:Hc lt=some (.lst ws)
 l2:M lt=none
section
variable {H Hc Hd:Hp}{p one gQ lt s dx lw:Addr}{A:FA}{x y z:Str}{ws:List V}{M M':Mp}{L L' h:Nat}{fs fs':List (Str × V)}{W:WA}
theorem Bi.step (B:Bi K P w t H p one gQ lt s A x y ws dx M L Hc fs)(e:Ex M M' Hc)(k:Kw K M' Hc Hd)(d:Wd K P w M' L' Hd):Bi K P w t H p one gQ lt s A x y ws dx M' L' Hd fs:=by
 obtain⟨q,hm,ob,mp,fo,wd,b1,b2,l1,l2⟩:=B
 have hm':∀a,H a≠none->a≠p->M' a=none:=λa h n=>e.new a (q.live a h) (hm a h n)
 have Wz:=e.new lt (by rw[l1]; exact λz=>nomatch z) l2
 exact⟨q.kv k.v hm',hm',k.kf _ _ ob (.inr (e.old _ _ mp)),e.old _ _ mp,(fo.ex e).kw k,d,(b1.ex e).kw k,(b2.ex e).kw k,k.keep _ _ l1 Wz,Wz⟩
theorem Bi.same (B:Bi K P w t H p one gQ lt s A x y ws dx M L Hc fs)(k:ah Hc Hd):Bi K P w t H p one gQ lt s A x y ws dx M L Hd fs:=B.step Ex.refl (Kw.same k) (B.wd.same k)
theorem Bi.mut (B:Bi K P w t H p one gQ lt s A x y ws dx M L Hc fs):dZ (Hc p):=by rw[B.ob]; exact True.intro
theorem Bi.own (B:Bi K P w t H p one gQ lt s A x y ws dx M L Hc fs):Bi K P w t H p one gQ lt s A x y ws dx M L (upd Hc p (.ins t.bu dx fs')) fs':=by
 have mu:=B.mut
 obtain⟨q,hm,ob,mp,fo,wd,b1,b2,l1,l2⟩:=B
 have v:Kv K M Hc (upd Hc p (.ins t.bu dx fs')):=Kv.own mp mu
 exact⟨q.put mu,hm,au,mp,fo.kv v,wd.own mp True.intro,b1.kv v,b2.kv v,v.keep _ _ l1 l2,l2⟩
theorem Al.own {o:HO}(S:Al K P w t M L Hc lw s A W z h)(mp:M p=some .fr)(mu:dZ (Hc p))(mo:dZ (some o)):Al K P w t M L (upd Hc p o) lw s A W z h:=⟨S.fs.kv (Kv.own (K:=K) mp mu),S.wk.kv (Kv.own mp mu),S.wd.own mp mo⟩
theorem Al.step (S:Al K P w t M L Hc lw s A W z h)(e:Ex M M' Hc)(k:Kw K M' Hc Hd)(d:Wd K P w M' L' Hd):Al K P w t M' L' Hd lw s A W z h:=⟨(S.fs.ex e).kw k,(S.wk.ex e).kw k,d⟩
end
def Fd (K:PySem.W.Frag)(P:Program)(w:World)(t:Ad):Sp:=λvs H Q _=>∃(p dx one gQ:Addr) (x y:Str) (h:Nat),vs=[.ref p,.ref one,.ref gQ,.int ((h+1:Nat):Int)]/\H p=some (.ins t.bu dx [])/\Aq K H one x/\Aq K H gQ y/\x.length<=16/\y.length<=16/\h<=9/\
 ∀M sa H',Bo K P w t M 1000 H' p sa h x y->Kq K p H H'->(∀a,H a≠none->a≠p->M a=none)->Q .aR H'
theorem xA:aI ["self","one","other","high"] ["self","one","other","high"] (aC fY):=⟨rfl,rfl,rfl,by decide +kernel,rfl,by decide +kernel,by decide +kernel⟩
theorem xB (T:Txt K mg t):aA P w K mg base aZ 7 t.iL t.f_ ["self","one","other","high"] (Fd K P w t):=by
 have sP:aA P w K mg base aZ 1 t.fk t.dH ["self"] (Co K P w t.a_):=rE T
 have wm:aA P w K mg base aZ 3 t.pP t.jK ["sets","system","high"] (xo K P w t):=CW T
 have nV:aA P w K mg base aZ 6 t.jL t.eV ["sets","system","high","columns"] (HW K P w t):=uX T
 have uH:aA P w K mg base aZ 1 t.n_ t.i7 ["high"] (HV K):=Bf T
 refine T.su.fn.ok xA (λvs H Q E h=>?_) (λcdv Ar outer sh H vs Q E hr h=>?_)
 ·obtain⟨p,dx,one,gQ,x,y,h,rfl,_⟩:=h
  rfl
 obtain⟨p,dx,one,gQ,x,y,h,rfl,hp,⟨T1,a1,a2⟩,⟨T2,b1,b2⟩,hx,hy,hh,kk⟩:=h
 refine⟨_,(aj (dP K (pv 0) (pv 3)) (aj (dP K (pv 0) (cN (N':=["letter","one","other"]) (ix:=[none,some 1,some 2]) (aT (by kernel_rfl)) rfl (KA (dF rfl T.vU T.vV)) (λ_ _ _ _=>(aL (i:=0) (show List.Nodup (["letter","one","other"]:List Str) from by decide +kernel) rfl (by first | exact Or.inl rfl | exact Or.inr rfl))) (λ_ _ _ _=>(vF (bK BP (pv 0) (aH zo (bT (pF K) (pv 1) aq (λ_ _=>rfl)) (bT (pF K) (pv 2) aq (λ_ _=>rfl))) rfl))) (λ_ _ _ _=>(pv 0)))) (aj (dP K (pv 0) (K3 T.EJ T.mJ sP (hr.mono (by first | decide | omega)) T.Ge aQ)) (aj (dP K (pv 0) (aB T.t6 wm (hr.mono (by first | decide | omega)) aQ (aa (b8 K (pv 0)) (aa (pv 1) (aa (pv 3) ai))))) (aj (dP K (pv 0) (aB T.t6 wm (hr.mono (by first | decide | omega)) aQ (aa (b8 K (pv 0)) (aa (pv 2) (aa (pv 3) ai))))) (aj (dP K (pv 0) (bT (fu K) (aB T.lu nV (hr.mono (by first | decide | omega)) aQ (aa (b8 K (pv 0)) (aa (pv 1) (aa (pv 3) (aa (aY (aa (aB T.ri uH (hr.mono (by first | decide | omega)) aQ (aa (pv 3) ai)) ai)) ai))))) aq (λ_ _=>rfl))) (av (dP K (pv 0) (bT (fu K) (aB T.lu nV (hr.mono (by first | decide | omega)) aQ (aa (b8 K (pv 0)) (aa (pv 2) (aa (pv 3) (aa (aY (aa (aB T.ri uH (hr.mono (by first | decide | omega)) aQ (aa (pv 3) ai)) ai)) ai))))) aq (λ_ _=>rfl)))))))))),?_⟩
 have c:=T.m9
 refine xm (af (by rfl)) (λH'=>af (by rfl)) hp c T.l7 (by decide) λH1 k1 p1=>?_
 have HM:dZ (H1 p):=by rw[p1]; exact True.intro
 have nT1:one≠p\/True:=.inr trivial
 refine gZ (SG (z:="abcd") ay λH2 s2=>LI (λi=>decide ((Str.cps "abcd").getD i 0∈(x++y).cps.toList)) (by decide) (λv=>by rfl) (λi H3 hi s3=>?_) λD H3 hD s3 bC=>?_)
 ·have k03:=k1.trans (Kp.same (s2.trans s3))
  refine cz (TJ (af (by rfl)) λH4 s4=>λR r=>(jx (K:=K) (af (by rfl)) (λ_ _=>ay) (s4.tup (k03.tup _ _ a1)) (cu (j:=0) rfl)) _ λH5 s5=>(jx (K:=K) (af (by rfl)) (λ_ _=>ay) ((s4.trans s5).tup (k03.tup _ _ b1)) (cu (j:=0) rfl)) _ λH6 s6=>⟨x,y,rfl,rfl,small (by omega),r H6 (s5.trans s6)⟩)
 have s13:=s2.trans s3
 have p3:=s13 _ _ p1
 refine oW (K:=K) (by rfl) p3 c T.jn (by show 1 < 1000; decide) ?_
 have mu3:dZ (H3 p):=by rw[p3]; exact True.intro
 have WB:D≠p:=λz=>by rw[z,s2 _ _ p1] at hD; cases hD
 have q4:Kq K p H (upd H3 p (.ins t.bu dx (aF "letters" (.ref D) (aF "high" (.int ((h+1:Nat):Int)) [])))):=(k1.q.trans (Kq.same s13)).put mu3
 have p4:(upd H3 p (.ins t.bu dx (aF "letters" (.ref D) (aF "high" (.int ((h+1:Nat):Int)) [])))) p=some (.ins t.bu dx (aF "letters" (.ref D) (aF "high" (.int ((h+1:Nat):Int)) []))):=au
 have D4:(upd H3 p (.ins t.bu dx (aF "letters" (.ref D) (aF "high" (.int ((h+1:Nat):Int)) [])))) D=_:=(aG WB).trans bC
 generalize upd H3 p (.ins t.bu dx (aF "letters" (.ref D) (aF "high" (.int ((h+1:Nat):Int)) [])))=H4 at *
 dsimp only
 refine gZ (z_ λs qM hs ND HX=>?_)
 have hs2:upd H4 qM (.own s) s=none:=by rw[aG (Ne.symm HX)]; exact hs
 have s45:ah H4 (upd (upd H4 qM (.own s)) s (.ins t.a_ qM [])):=(ah.new ND _).trans (ah.new hs2 _)
 refine⟨s,qM,rfl,au,λA t0 OU H6 e1 e2 e3 e4 e5 e6 e7 Lw=>⟨rfl,?_⟩⟩
 have HY:Kq K s H4 H6:=(Kq.same s45).trans Lw.q
 have O1:p≠s:=λz=>by rw[←z,p4] at hs; cases hs
 have p6:=HY.keep _ _ p4 O1
 refine oW (K:=K) (by rfl) p6 c T.gf (by show 2 < 1000; decide) ?_
 have Fe:=s45.free e6
 have Ff:=s45.free e7
 have LJ:A.b≠s:=λz=>by rw[z,au] at e6; cases e6
 have nks:A.k≠s:=λz=>by rw[z,au] at e7; cases e7
 have OV:A.b≠p:=λz=>by rw[z,p4] at Fe; cases Fe
 have OW:A.k≠p:=λz=>by rw[z,p4] at Ff; cases Ff
 have nDs:D≠s:=λz=>by rw[←z,D4] at hs; cases hs
 have nDb:D≠A.b:=λz=>by rw[←z,D4] at Fe; cases Fe
 have nDk:D≠A.k:=λz=>by rw[←z,D4] at Ff; cases Ff
 let M0:Mp:=λa=>if a=p then some .fr else if a=A.b then some .br else if a=A.k then some .kn else none
 have m1:M0 p=some .fr:=if_pos rfl
 have m2:M0 A.b=some .br:=by show (if A.b=p then _ else _)=_; rw[if_neg OV,if_pos rfl]
 have m3:M0 A.k=some .kn:=by show (if A.k=p then _ else _)=_; rw[if_neg OW,if_neg (Ne.symm e5),if_pos rfl]
 have m4:∀a,a≠p->a≠A.b->a≠A.k->M0 a=none:=λa h1 h2 h3=>by show (if a=p then _ else _)=_; rw[if_neg h1,if_neg h2,if_neg h3]
 have mu6:dZ (H6 p):=by rw[p6]; exact True.intro
 have q6:Kq K p H H6:=⟨λb o e n=>HY.keep _ _ (q4.keep _ _ e n) (λz=>by have:=q4.keep _ _ e n; rw[z,hs] at this; cases this),λq xs h=>HY.tup _ _ (q4.tup _ _ h),λb h=>HY.live b (q4.live b h)⟩
 have WC:∀a,H a≠none->a≠p->M0 a=none:=λa h n=>m4 a n (λz=>q4.live a h (by rw[z]; exact Fe)) λz=>q4.live a h (by rw[z]; exact Ff)
 have W6:Wd K P w M0 0 H6:=λa k e=>by
  by_cases c1:a=p
  ·subst c1; rw[m1] at e; cases e; exact⟨mu6,_,p6⟩
  by_cases c2:a=A.b
  ·subst c2; rw[m2] at e; cases e; exact⟨t0,[],e2,e3,Nat.le_refl _⟩
  by_cases c3:a=A.k
  ·subst c3; rw[m3] at e; cases e; exact⟨_,e4,λ_ _ z=>nomatch z⟩
  rw[m4 a c1 c2 c3] at e; cases e
 have nTp:∀{T:Addr},H T=some (.lst [])->T≠p:=λe z=>by rw[z,hp] at e; cases e
 have bs:∀{a T:Addr} {u:Str},aK K H a [.str u,.ref T]->H T=some (.lst [])->Bs K M0 H6 a u:=λ{a T u} h1 h2=>⟨T,q6.tup _ _ h1,q6.keep _ _ h2 (nTp h2),WC T (by rw[h2]; exact λz=>nomatch z) (nTp h2)⟩
 have B6:Bi K P w t H p one gQ D s A x y _ dx M0 0 H6 _:=⟨q6,WC,p6,m1,⟨⟨_,e1⟩,m4 s (Ne.symm O1) (Ne.symm LJ) (Ne.symm nks),m2,m3⟩,W6,bs a1 a2,bs b1 b2,HY.keep _ _ D4 nDs,m4 D WB nDb nDk⟩
 have B7:=B6.own (fs':=aF "sets" (.ref s) (aF "letters" (.ref D) (aF "high" (.int ((h+1:Nat):Int)) [])))
 dsimp only
 generalize upd H6 p (.ins t.bu dx (aF "sets" (.ref s) (aF "letters" (.ref D) (aF "high" (.int ((h+1:Nat):Int)) []))))=H7 at *
 clear B6 W6 q6 p6 HY Lw e4 e3 e2 e1
 refine gZ (bB (ao (aV (v:=.ref s) (af (by rfl)) B7.ob c T.gf rfl) λ_ _=>ao (af (by rfl)) λ_ _=>az (af (by rfl))) λH8 s8=>⟨s,one,x,A,M0,0,h+1,rfl,B7.b1.same s8,B7.fo.same s8,B7.wd.same s8,λlw W1 M1 H9 x9 S9 kw9=>?_⟩)
 have B9:=(B7.same s8).step x9 kw9 S9.wd
 refine oW (K:=K) (by rfl) B9.ob c T.fL (by show 3 < 1000; decide) ?_
 have Bx:=B9.own (fs':=aF "left_walk" (.ref lw) (aF "sets" (.ref s) (aF "letters" (.ref D) (aF "high" (.int ((h+1:Nat):Int)) []))))
 have Sx:=S9.own (o:=.ins t.bu dx (aF "left_walk" (.ref lw) (aF "sets" (.ref s) (aF "letters" (.ref D) (aF "high" (.int ((h+1:Nat):Int)) []))))) B9.mp B9.mut True.intro
 dsimp only
 generalize upd H9 p (.ins t.bu dx (aF "left_walk" (.ref lw) (aF "sets" (.ref s) (aF "letters" (.ref D) (aF "high" (.int ((h+1:Nat):Int)) [])))))=H10 at *
 clear B9 S9 kw9 x9 B7 s8
 refine gZ (bB (ao (aV (v:=.ref s) (af (by rfl)) Bx.ob c T.gf rfl) λ_ _=>ao (af (by rfl)) λ_ _=>az (af (by rfl))) λH8 s8=>⟨s,gQ,y,A,M1,0,h+1,rfl,Bx.b2.same s8,Bx.fo.same s8,Bx.wd.same s8,λrw W2 M2 H9 x9 S9 kw9=>?_⟩)
 have B9:=(Bx.same s8).step x9 kw9 S9.wd
 have T9:=(Sx.same s8).step x9 kw9 S9.wd
 refine oW (K:=K) (by rfl) B9.ob c T.eZ (by show 4 < 1000; decide) ?_
 have By:=B9.own (fs':=aF "right_walk" (.ref rw) (aF "left_walk" (.ref lw) (aF "sets" (.ref s) (aF "letters" (.ref D) (aF "high" (.int ((h+1:Nat):Int)) [])))))
 have Sy:=T9.own (o:=.ins t.bu dx (aF "right_walk" (.ref rw) (aF "left_walk" (.ref lw) (aF "sets" (.ref s) (aF "letters" (.ref D) (aF "high" (.int ((h+1:Nat):Int)) [])))))) B9.mp B9.mut True.intro
 have Ty:=S9.own (o:=.ins t.bu dx (aF "right_walk" (.ref rw) (aF "left_walk" (.ref lw) (aF "sets" (.ref s) (aF "letters" (.ref D) (aF "high" (.int ((h+1:Nat):Int)) [])))))) B9.mp B9.mut True.intro
 dsimp only
 generalize upd H9 p (.ins t.bu dx (aF "right_walk" (.ref rw) (aF "left_walk" (.ref lw) (aF "sets" (.ref s) (aF "letters" (.ref D) (aF "high" (.int ((h+1:Nat):Int)) []))))))=H11 at *
 clear B9 S9 T9 kw9 x9 Bx Sx s8
 refine gZ (nR (cR (aV (v:=.ref s) (af (by rfl)) By.ob c T.gf rfl) λHP s12=>cR (af (by rfl)) λHQ s13=>cR (af (by rfl)) λH14 s14=>sO (z9 (bB (az (af (by rfl))) λH15 s15=>⟨h+1,rfl,by omega,λcl Fg hcl LK NG=>⟨(by show 1<=sizeLine; decide),λC hC=>?_⟩⟩))))
 have s1:=((s12.trans (s13.trans (s14.trans (s15.trans LK))))).trans (ah.new hC (.lst [.ref cl]))
 have Bz:=By.same s1
 have Sz:=Sy.same s1
 have Tz:=Ty.same s1
 have hc0:upd Fg C (.lst [.ref cl]) cl=some (.lst ((List.replicate (h+1) ("abcd":Str)).map V.str)):=(ah.new hC _) _ _ NG
 have T8:upd Fg C (.lst [.ref cl]) C=some (.lst [.ref cl]):=au
 have T_:M2 cl=none:=By.wd.off ((s12.trans (s13.trans (s14.trans s15))).free hcl)
 have mC:M2 C=none:=By.wd.off ((s12.trans (s13.trans (s14.trans (s15.trans LK)))).free hC)
 generalize upd Fg C (.lst [.ref cl])=H17 at *
 refine⟨s,one,C,cl,x,A,M2,0,h,rfl,Bz.b1,Bz.fo,Bz.wd,T8,mC,hc0,T_,hh,by decide,λZ M3 WD x3 W3 kw3 hZ=>⟨Z,_,_,.int 0,rfl,rfl,aE.of hZ,cu (j:=0) rfl,?_⟩⟩
 have B9:=Bz.step x3 kw3 W3
 have S9:=Sz.step x3 kw3 W3
 have T9:=Tz.step x3 kw3 W3
 clear Bz Sz Tz By Sy Ty s1
 refine oW (K:=K) (by rfl) B9.ob c T.jf (by show 5 < 1000; decide) ?_
 have By:=B9.own (fs':=aF "left_ending" (.int 0) (aF "right_walk" (.ref rw) (aF "left_walk" (.ref lw) (aF "sets" (.ref s) (aF "letters" (.ref D) (aF "high" (.int ((h+1:Nat):Int)) []))))))
 have Sy:=S9.own (o:=.ins t.bu dx (aF "left_ending" (.int 0) (aF "right_walk" (.ref rw) (aF "left_walk" (.ref lw) (aF "sets" (.ref s) (aF "letters" (.ref D) (aF "high" (.int ((h+1:Nat):Int)) []))))))) B9.mp B9.mut True.intro
 have Ty:=T9.own (o:=.ins t.bu dx (aF "left_ending" (.int 0) (aF "right_walk" (.ref rw) (aF "left_walk" (.ref lw) (aF "sets" (.ref s) (aF "letters" (.ref D) (aF "high" (.int ((h+1:Nat):Int)) []))))))) B9.mp B9.mut True.intro
 dsimp only
 generalize upd WD p (.ins t.bu dx (aF "left_ending" (.int 0) (aF "right_walk" (.ref rw) (aF "left_walk" (.ref lw) (aF "sets" (.ref s) (aF "letters" (.ref D) (aF "high" (.int ((h+1:Nat):Int)) [])))))))=H19 at *
 clear B9 S9 T9
 refine (nR (cR (aV (v:=.ref s) (af (by rfl)) By.ob c T.gf rfl) λHP s12=>cR (af (by rfl)) λHQ s13=>cR (af (by rfl)) λH14 s14=>sO (z9 (bB (az (af (by rfl))) λH15 s15=>⟨h+1,rfl,by omega,λcl Fg hcl LK NG=>⟨(by show 1<=sizeLine; decide),λC hC=>?_⟩⟩))))
 have s1:=((s12.trans (s13.trans (s14.trans (s15.trans LK))))).trans (ah.new hC (.lst [.ref cl]))
 have Bz:=By.same s1
 have Sz:=Sy.same s1
 have Tz:=Ty.same s1
 have hc0:upd Fg C (.lst [.ref cl]) cl=some (.lst ((List.replicate (h+1) ("abcd":Str)).map V.str)):=(ah.new hC _) _ _ NG
 have T8:upd Fg C (.lst [.ref cl]) C=some (.lst [.ref cl]):=au
 have T_:M3 cl=none:=By.wd.off ((s12.trans (s13.trans (s14.trans s15))).free hcl)
 have mC:M3 C=none:=By.wd.off ((s12.trans (s13.trans (s14.trans (s15.trans LK)))).free hC)
 generalize upd Fg C (.lst [.ref cl])=H17 at *
 refine⟨s,gQ,C,cl,y,A,M3,0+200,h,rfl,Bz.b2,Bz.fo,Bz.wd,T8,mC,hc0,T_,hh,by decide,λZ M4 WD x4 W4 kw4 hZ=>⟨Z,_,_,.int 0,rfl,rfl,aE.of hZ,cu (j:=0) rfl,?_⟩⟩
 have B9:=Bz.step x4 kw4 W4
 have S9:=Sz.step x4 kw4 W4
 have T9:=Tz.step x4 kw4 W4
 refine oW (K:=K) (by rfl) B9.ob c T.iO (by show 6 < 1000; decide) ?_
 have Be:=B9.own (fs':=Ct (h+1) D s lw rw)
 have Se:=S9.own (o:=.ins t.bu dx (Ct (h+1) D s lw rw)) B9.mp B9.mut True.intro
 have Te:=T9.own (o:=.ins t.bu dx (Ct (h+1) D s lw rw)) B9.mp B9.mut True.intro
 refine kk M4 s _ ⟨⟨dx,D,lw,rw,Be.ob,⟨((List.range 4).filter λi=>decide ((Str.cps "abcd").getD i 0∈(x++y).cps.toList)).map λi=>⟨#[(Str.cps "abcd").getD i 0]⟩,?_,Be.l2,?_,λz hz=>?_⟩,⟨A,W1,Se.le (by decide)⟩,⟨A,W2,Te.le (by decide)⟩⟩,Be.mp⟩ Be.q Be.hm
 ·exact Be.l1.trans (by rw[List.map_map]; rfl)
 ·rw[List.length_map]; exact Nat.le_trans (List.length_filter_le _ _) (by simp)
 ·obtain⟨i,hi,rfl⟩:=List.mem_map.mp hz
  have OR:i < 4:=List.mem_range.mp (List.mem_filter.mp hi).1
  have all:∀i,i < 4->PyData.strOk ⟨#[(Str.cps "abcd").getD i 0]⟩=true:=by decide +kernel
  exact all i OR
end
end bJ
set_option maxHeartbeats 1000000
namespace bJ
open PySem PySem.Spec PyProof.Rows L2 j_ TB
section
variable {P:Program}{w:World}{K:PySem.W.Frag}{mg:Str->Option Value}{base:Heap}{t:Ad}
theorem NH (h:Nat)(lt sa lw rw:Addr):(Ct h lt sa lw rw).lookup ("high":Str)=some (.int (h:Int))/\(Ct h lt sa lw rw).lookup ("letters":Str)=some (.ref lt)/\(Ct h lt sa lw rw).lookup ("left_walk":Str)=some (.ref lw)/\(Ct h lt sa lw rw).lookup ("right_walk":Str)=some (.ref rw):=⟨rfl,rfl,rfl,rfl⟩
def Cu (K:PySem.W.Frag)(P:Program)(w:World)(t:Ad):Sp:=λvs H Q _=>∃(p sa:Addr) (M:Mp) (L h:Nat) (x y:Str),vs=[.ref p]/\Bo K P w t M L H p sa h x y/\h<=9/\L<=400000/\
 ∀q i j H',Wd K P w M (L+20) H'->Kw K M H H'->aK K H' q [.int i,.int j]->Q (.ref q) H'
theorem wo:aI ["self"] ["self"] (aC fH):=⟨rfl,rfl,rfl,by decide +kernel,rfl,by decide +kernel,by decide +kernel⟩
theorem wu (T:Txt K mg t):aA P w K mg base aZ 4 t.kj t.fJ ["self"] (Cu K P w t):=by
 have gX:aA P w K mg base aZ 3 t.gU t.dX ["self"] (yT K P w t):=nU T
 refine T.qF.fn.ok wo (λvs H Q E h=>?_) (λcdv Ar outer sh H vs Q E hr h=>?_)
 ·obtain⟨p,sa,M,L,h,x,y,rfl,_⟩:=h
  rfl
 obtain⟨p,sa,M,L,h,x,y,rfl,B,hh,hL,kk⟩:=h
 refine⟨_,(av (aO (dO (aa (nM T.jl T.cQ gX (hr.mono (by first | decide | omega)) aQ (b8 K (pv 0))) (aa (nM T.jl T.cQ gX (hr.mono (by first | decide | omega)) aQ (b8 K (pv 0))) ai))))),?_⟩
 obtain⟨⟨dx,lt,lw,rw,ob,lets,⟨A1,W1,S1⟩,⟨A2,W2,S2⟩⟩,mp⟩:=id B
 obtain⟨f1,f2,f3,f4⟩:=NH (h+1) lt sa lw rw
 have c:=T.m9
 obtain⟨dx1,Ua⟩:=S1.wk.ob
 refine cI (qi (dj (aV (af (by rfl)) ob c T.fL f3) Ua rfl λH1 s1=>⟨lw,sa,A1,M,W1,L,h,x,rfl,S1.fs.same s1,S1.wk.same s1,S1.wd.same s1,hh,by omega,λi H2 W2' kw2=>sO ?_⟩))
 have kw02:Kw K M H H2:=(Kw.same s1).trans kw2
 have O2:=S2.kw kw02 W2'
 obtain⟨Wx,LH⟩:=O2.wk.ob
 refine dj (aV (af (by rfl)) (kw02.kf _ _ ob (.inr mp)) c T.eZ f4) LH rfl λH3 s3=>⟨rw,sa,A2,M,W2,L+h,h,y,rfl,O2.fs.same s3,O2.wk.same s3,O2.wd.same s3,hh,by omega,λj H4 W4 kw4=>⟨(by show 2<=sizeLine; decide),λq hq=>?_⟩⟩
 have s5:ah H4 (upd H4 q (.tup [.int i,.int j])):=ah.new hq _
 exact kk q i j _ ((W4.same s5).le (by omega)) (((kw02.st s3).trans kw4).st s5) (aK.of au)
def HZ (K:PySem.W.Frag)(P:Program)(w:World)(t:Ad):Sp:=λvs H Q _=>∃(p sa fr:Addr) (M:Mp) (L h:Nat) (x y ls:Str) (i j:Int),vs=[.ref p,.int 0,.ref fr,.str ls]/\Bo K P w t M L H p sa h x y/\aK K H fr [.int i,.int j]/\PyData.strOk ls=true/\L<=400000/\
 ∀q H',Wd K P w M (L+8) H'->Kw K M H H'->aK K H' q [.int 0,.int 0]->Q (.ref q) H'
theorem CY:aI ["self","row","fronts","letter"] ["self","row","fronts","letter"] (aC jG):=⟨rfl,rfl,rfl,by decide +kernel,rfl,by decide +kernel,by decide +kernel⟩
theorem CZ (T:Txt K mg t):aA P w K mg base aZ 5 t.pV t.jR ["self","row","fronts","letter"] (HZ K P w t):=by
 have j8:aA P w K mg base aZ 4 t.j4 t.fR ["self","row","front","letters"] (wj K P w t):=qL T
 refine T.zU.fn.ok CY (λvs H Q E h=>?_) (λcdv Ar outer sh H vs Q E hr h=>?_)
 ·obtain⟨p,sa,fr,M,L,h,x,y,ls,i,j,rfl,_⟩:=h
  rfl
 obtain⟨p,sa,fr,M,L,h,x,y,ls,i,j,rfl,B,hfr,hls,hL,kk⟩:=h
 refine⟨_,(av (aO (dO (aa (cY T.l6 T.cQ j8 (hr.mono (by first | decide | omega)) aQ (b8 K (pv 0)) (aa (pv 1) (aa (bT (pF K) (pv 2) aq (λ_ _=>rfl)) (aa (pv 3) ai)))) (aa (cY T.l6 T.cQ j8 (hr.mono (by first | decide | omega)) aQ (b8 K (pv 0)) (aa (pv 1) (aa (bT (pF K) (pv 2) aq (λ_ _=>rfl)) (aa (pv 3) ai)))) ai))))),?_⟩
 obtain⟨⟨dx,lt,lw,rw,ob,lets,⟨A1,W1,S1⟩,⟨A2,W2,S2⟩⟩,mp⟩:=id B
 obtain⟨f1,f2,f3,f4⟩:=NH (h+1) lt sa lw rw
 have c:=T.m9
 obtain⟨dx1,Ua⟩:=S1.wk.ob
 refine cI (qi (dj (aV (af (by rfl)) ob c T.fL f3) Ua rfl λH1 s1=>(ao (af (by rfl)) λH2 s2=>ao (jx (K:=K) (af (by rfl)) (λ_ _=>ay) ((s1.trans s2).tup hfr) (cu (j:=0) rfl)) λ_ _=>az (af (by rfl))) _ λH3 s3=>⟨lw,sa,0,i,ls,A1,W1,M,L,h,x,rfl,S1.same (s1.trans s3),hls,.inl rfl,by omega,λH4 W4 kw4=>sO ?_⟩))
 have kw04:Kw K M H H4:=(Kw.same (s1.trans s3)).trans kw4
 have WE:=S2.kw kw04 W4
 obtain⟨Wx,LH⟩:=WE.wk.ob
 have XE:=kw04.tup _ _ hfr
 refine dj (aV (af (by rfl)) (kw04.kf _ _ ob (.inr mp)) c T.eZ f4) LH rfl λH5 s5=>(ao (af (by rfl)) λH6 s6=>ao (jx (K:=K) (af (by rfl)) (λ_ _=>ay) ((s5.trans s6).tup XE) (cu (j:=1) rfl)) λ_ _=>az (af (by rfl))) _ λH7 s7=>⟨rw,sa,0,j,ls,A2,W2,M,L+4,h,y,rfl,WE.same (s5.trans s7),hls,.inl rfl,by omega,λH8 W8 kw8=>⟨(by show 2<=sizeLine; decide),λq hq=>?_⟩⟩
 have s9:ah H8 (upd H8 q (.tup [.int 0,.int 0])):=ah.new hq _
 exact kk q _ (W8.same s9) (((kw04.st (s5.trans s7)).trans kw8).st s9) (aK.of au)
theorem QY {ta:TE}{tb us:TS}{D:Ends}{σ:L2.St}{H:Hp}{a:Addr}{es:Array DictEntry}{ep:Nat}{i₀ j₀:Nat}(f g:Nat->V)(h:Gv ta σ H (.ref a))(ha:H a=some (cH a es ep))(hv:∀i (h:i < es.size),RelV (f i) es[i].key/\RelV (g i) es[i].val)(Pv:Nat->L2.St->Hp->Prop)(h0:∀H',ah H H'->Pv 0 σ H')(hl:∀i σ H,Pv i σ H->H a=some (cH a es ep))
  (hs:∀i σ H tp,i < es.size->Pv i σ H->H tp=none->tb { D with nx:=Pv (i+1),ct:=Pv (i+1),bk:=us D } ((σ.set i₀ (some (f i))).set j₀ (some (g i))) (upd H tp (.tup [f i,g i]))) (hd:∀σ H,Pv es.size σ H->us D σ H) :
  eK (kh (E6 (A8 ta)) (DP K 2 (tK (fc i₀) (tK (fc j₀) ID))) tb) us D σ H:=by
 refine h _ λH' s=>⟨a,es,ep,rfl,rfl,s _ _ ha,λp hp=>⟨p,a,es,ep,λi=>[f i,g i],rfl,au,(ah.new hp _) _ _ (s _ _ ha),λi h=>.cons (hv i h).1 (.cons (hv i h).2 .nil),?_⟩⟩
 refine⟨λi m σ H=>m=es.size - i/\i<=es.size/\Pv i σ H,⟨es.size,by simp,Nat.zero_le _,h0 _ (s.trans (ah.new hp _))⟩,?_⟩
 rintro i m σ H ⟨rfl,hi,q⟩
 by_cases hlt:i < es.size
 ·refine .inr ⟨⟨hlt,hl i σ H q⟩,Pv (i+1),fun σ' H' p'=>⟨es.size - (i+1),by omega,rfl,hlt,p'⟩,λv H' z=>?_⟩
  obtain⟨tp,rfl,ht,rfl⟩:=z
  exact⟨tp,_,rfl,aK.of au,rfl,_,_,rfl,_,_,rfl,rfl,hs i σ H tp hlt q ht⟩
 ·obtain rfl:i=es.size:=by omega
  exact .inl ⟨⟨rfl,hl _ σ H q⟩,hd σ H q⟩
theorem Bh {H:Hp}{up:Addr}{a b:Int}(h:aK K H up [.int a,.int b]):NK K H (rC a b) up:=by
 refine NK.of h ?_ rfl (by show max 0 (max 0 0)<=7; decide)
 unfold aD
 refine⟨_,_,rfl,by unfold Rep; rfl,?_⟩
 unfold aD
 exact⟨_,_,rfl,by unfold Rep; rfl,by unfold aD; rfl⟩
theorem Fj {H:Hp}{q:Addr}{a b:Int}(h:aK K H q [.int a,.int b]):Rep K H (rC a b) (.ref q):=(Bh h).2.2.2
theorem QZ {ta:TE}{σ:L2.St}{H:Hp}{q:Addr}(h:Gv ta σ H (.ref q))(hq:aK K H q [.int 0,.int 0]):Gt (nq (cZ (Ep K true) ta (qR (cE (tC (.int 0)) (cE (tC (.int 0)) dc))))) σ H false:=
 gS (cz (b:=true ^^ PyData.eqv (rC 0 0).py (rC 0 0).py) λR r=>h _ λH1 s1=>(ao ay λ_ _=>az ay) _ λH2 s2=>⟨(by show 2<=sizeLine; decide),λz hz=>⟨rC 0 0,rC 0 0,⟨w_ _ rfl,w_ _ rfl,by decide⟩,Fj ((s1.trans (s2.trans (ah.new hz _))).tup hq),Fj (aK.of au),r _ (s1.trans (s2.trans (ah.new hz _)))⟩⟩) (by decide)
def As (K:PySem.W.Frag)(P:Program)(w:World)(t:Ad):Sp:=λvs H Q _=>∃(p sa pr:Addr) (M:Mp) (L h:Nat) (x y:Str) (i j:Int),vs=[.ref p,.ref pr]/\Bo K P w t M L H p sa h x y/\aK K H pr [.int i,.int j]/\h<=9/\L<=300000/\
 ∀q H',Wd K P w M (L+1000) H'->Kw K M H H'->H' q=some (cH q #[] 0)->Q (.ref q) H'
theorem bG:aI ["self","pair","found","row","behind","fronts","column","letter","step"] ["self","pair"] (aC dQ):=⟨rfl,rfl,rfl,by decide +kernel,rfl,by decide +kernel,by decide +kernel⟩
theorem sQ (T:Txt K mg t):aA P w K mg base aZ 6 t.iM t.dS ["self","pair"] (As K P w t):=by
 have Fp:aA P w K mg base aZ 5 t.pV t.jR ["self","row","fronts","letter"] (HZ K P w t):=CZ T
 refine T.nP.fn.ok bG (λvs H Q E h=>?_) (λcdv Ar outer sh H vs Q E hr h=>?_)
 ·obtain⟨p,sa,pr,M,L,h,x,y,i,j,rfl,_⟩:=h
  rfl
 obtain⟨p,sa,pr,M,L,h,x,y,i,j,rfl,B,BG,hh,hL,kk⟩:=h
 refine⟨_,(aj (aP (i:=2) bG.nd rfl (by first | exact Or.inl rfl | exact Or.inr rfl) (Lq K hr.uB (pv 1) cg)) (aj (fC PassesOwn.never rfl (eL rfl T.fm (aa (b8 K (pv 0)) ai)) (aL (i:=3) bG.nd rfl (by first | exact Or.inl rfl | exact Or.inr rfl)) (aj (aP (i:=4) bG.nd rfl (by first | exact Or.inl rfl | exact Or.inr rfl) Vn) (aj (fC PassesOwn.never rfl (Hv (Hu (pv 2))) (oR K (n:=2) (cj (aL (i:=5) bG.nd rfl (by first | exact Or.inl rfl | exact Or.inr rfl)) (cj (aL (i:=6) bG.nd rfl (by first | exact Or.inl rfl | exact Or.inr rfl)) jW))) (av (fC PassesOwn.never rfl (jv K (b8 K (pv 0))) (aL (i:=7) bG.nd rfl (by first | exact Or.inl rfl | exact Or.inr rfl)) (aj (aP (i:=8) bG.nd rfl (by first | exact Or.inl rfl | exact Or.inr rfl) (cY T.zU T.m9 Fp (hr.mono (by first | decide | omega)) aQ (pv 0) (aa (pv 3) (aa (pv 5) (aa (pv 7) ai))))) (av (bY (bK (Xu K hr.units) (pv 8) (dO (aa aq (aa aq ai))) (bN _)) (av aJ) bF)))))) (av (aP (i:=2) bG.nd rfl (by first | exact Or.inl rfl | exact Or.inr rfl) (pv 4)))))) (av (aO (pv 2))))),?_⟩
 obtain⟨⟨dx,lt,lw,rw,ob,⟨ws,l1,l2,l4,l3⟩,_⟩,mp⟩:=id B
 obtain⟨f1,f2,f3,f4⟩:=NH (h+1) lt sa lw rw
 have c:=T.m9
 refine bh λd hd=>(af (by rfl)) _ λH1 s1=>ay _ λH2 s2=>⟨pr,rC i j,rfl,Bh (((ah.new hd _).trans (s1.trans s2)).tup BG),(s1.trans s2) _ _ au,λes ep hes hev=>?_⟩
 have s02:ah H H2:=(ah.new hd _).trans (s1.trans s2)
 have md:M d=none:=B.wd.off hd
 have H_:dZ (H2 d):=by rw[(s1.trans s2) _ _ au]; exact True.intro
 have kw3:Kw K M H (upd H2 d (cH d es ep)):=(Kw.same s02).E8 hd H_
 have W3:Wd K P w M L (upd H2 d (cH d es ep)):=λa k m=>by
  obtain⟨o,e⟩:=(B.wd a k m).some
  have na:a≠d:=λz=>by rw[z,md] at m; cases m
  exact (B.wd a k m).keep ((aG na).trans ((s02 _ _ e).trans e.symm)) kw3.tup (λq e m=>kw3.keep _ _ e m) (Nat.le_refl _) λq z _=>z
 have d3:upd H2 d (cH d es ep) d=some (cH d es ep):=au
 generalize upd H2 d (cH d es ep)=H3 at *
 clear s1 s2 H_ s02 H1 H2
 refine sJ (n:=h+1) (az (aV (v:=.int ((h+1:Nat):Int)) (af (by rfl)) (kw3.kf _ _ ob (.inr mp)) c T.l7 f1)) (by omega)
  (λr σ H4=>∃fd es ep e3 e4 e5 e6 e7 e8,σ=[some (.ref p),some (.ref pr),some (.ref fd),e3,e4,e5,e6,e7,e8]/\H4 fd=some (cH fd es ep)/\M fd=none/\es.size<=1/\(r≠0->es=#[]/\ep=0)/\(∀h0:0 < es.size,es[0].key=.ref pr/\RelV (.str "") es[0].val)/\Wd K P w M (L+r * 32) H4/\Kw K M H H4)
  (λH4 s4=>⟨d,es,ep,none,none,none,none,none,none,rfl,s4 _ _ d3,md,by omega,λz=>absurd rfl z,hev,by simpa using W3.same s4,kw3.st s4⟩) (λr σ H4 hr' hP=>?_) fun σ H4 hP=>?_
 ·obtain⟨fd,es',JZ,e3,e4,e5,e6,e7,e8,rfl,d4,WG,hs1,hz,hk,W4,kw4⟩:=hP
  refine bh λbd hbd=>?_
  have s45:ah H4 (upd H4 bd (cH bd #[] 0)):=ah.new hbd _
  have b5:upd H4 bd (cH bd #[] 0) bd=some (cH bd #[] 0):=au
  have WH:M bd=none:=W4.off hbd
  generalize upd H4 bd (cH bd #[] 0)=H5 at *
  have kw5:Kw K M H H5:=kw4.st s45
  refine QY (K:=K) (λ_=>.ref pr) (λ_=>.str "") (af (by rfl)) (s45 _ _ d4) (λi hi=>?_)
   (λa σ H6=>a<=1/\∃e5 e6 e7 e8,σ=[some (.ref p),some (.ref pr),some (.ref fd),some (.int (r:Int)),some (.ref bd),e5,e6,e7,e8]/\Wd K P w M (L+r * 32+a * 32) H6/\Kw K M H5 H6)
   (λH6 s6=>⟨Nat.zero_le _,_,_,_,_,rfl,by simpa using W4.same (s45.trans s6),Kw.same s6⟩) (λa σ H6 z=>?_) (λa σ H6 tp ha hP htp=>?_) fun σ H6 hP=>?_
  ·obtain rfl:i=0:=by omega
   obtain⟨h1,h2⟩:=hk hi
   exact⟨h1,h2⟩
  ·obtain⟨_,e5,e6,e7,e8,_,_,z⟩:=z
   exact z.keep _ _ (s45 _ _ d4) WG
  ·obtain⟨_,e5,e6,e7,e8,rfl,W6,kw6⟩:=hP
   obtain rfl:a=0:=by omega
   obtain rfl:r=0:=by
    by_cases z:r=0
    ·exact z
    ·obtain⟨rfl,_⟩:=hz z
     simp at ha
   have s67:ah H6 (upd H6 tp (.tup [.ref pr,.str ""])):=ah.new htp _
   generalize upd H6 tp (.tup [.ref pr,.str ""])=H7 at *
   have kw7:Kw K M H H7:=kw5.trans (kw6.st s67)
   refine HJ (K:=K) (aV (af (by rfl)) (kw7.kf _ _ ob (.inr mp)) c T.jn f2) (aE.of (kw7.keep _ _ l1 l2))
    (λk σ H8=>k<=ws.length/\∃e7 e8,σ=[some (.ref p),some (.ref pr),some (.ref fd),some (.int 0),some (.ref bd),some (.ref pr),some (.str ""),e7,e8]/\Wd K P w M (L+8 * k) H8/\Kw K M H5 H8)
    (λH8 s8=>⟨Nat.zero_le _,_,_,rfl,by simpa using W6.same (s67.trans s8),kw6.st (s67.trans s8)⟩) (λk σ H8 z=>?_) (λk v σ H8 hv hP=>?_) fun σ H8 hP=>?_
   ·obtain⟨_,e7,e8,_,_,z⟩:=z
    exact aE.of ((kw5.trans z).keep _ _ l1 l2)
   ·obtain⟨hkl,e7,e8,rfl,W8,kw8⟩:=hP
    rw[List.getElem?_map] at hv
    obtain⟨ls,hls,rfl⟩:=Option.map_eq_some_iff.mp hv
    have hlt:=(List.getElem?_eq_some_iff.mp hls).1
    have kw08:=kw5.trans kw8
    have B8:=B.kw kw08 W8
    refine bh (dj (af (by rfl)) (kw08.kf _ _ ob (.inr mp)) rfl λH9 s9=>(ao (af (by rfl)) λ_ _=>ao (af (by rfl)) λ_ _=>az (af (by rfl))) _ λH10 gY=>?_)
    have Bj:=s9.trans gY
    refine⟨p,sa,pr,M,L+8 * k,h,x,y,ls,i,j,rfl,B8.same Bj,Bj.tup (kw08.tup _ _ BG),l3 ls (List.mem_of_getElem? hls),by omega,λq H11 W11 XF hq=>?_⟩
    refine g_ (QZ (K:=K) (af (by rfl)) hq) (λz=>absurd z (by decide)) λ_ HP s12=>?_
    exact⟨by omega,_,_,rfl,(W11.same s12).le (by omega),((kw8.st Bj).trans XF).st s12⟩
   ·obtain⟨hkl,e7,e8,rfl,W8,kw8⟩:=hP
    rw[List.length_map] at W8
    exact⟨Nat.le_refl _,_,_,_,_,rfl,W8.le (by omega),kw8⟩
  ·obtain⟨ha,e5,e6,e7,e8,rfl,W6,kw6⟩:=hP
   refine zI (af (by rfl)) λH7 s7=>?_
   exact⟨bd,#[],0,_,_,_,_,_,_,rfl,s7 _ _ (kw6.keep _ _ b5 WH),WH,Nat.zero_le _,λ_=>⟨rfl,rfl⟩,λz=>absurd z (by simp),(W6.same s7).le (by omega),kw5.trans (kw6.st s7)⟩
 ·obtain⟨fd,es',JZ,e3,e4,e5,e6,e7,e8,rfl,d4,WG,hs1,hz,hk,W4,kw4⟩:=hP
  refine cK (af (by rfl)) λH5 s5=>?_
  obtain⟨rfl,rfl⟩:=hz (by omega)
  exact kk fd H5 ((W4.same s5).le (by omega)) (kw4.st s5) (s5 _ _ d4)
end
end bJ
set_option maxHeartbeats 1000000
namespace bJ
open PySem PySem.Spec PyProof.Rows L2 j_ TB
section
variable {P:Program}{w:World}{K:PySem.W.Frag}{mg:Str->Option Value}{base:Heap}{t:Ad}
section
variable {M M':Mp}{L L' h:Nat}{H:Hp}{p s sa:Addr}{x y:Str}
theorem Bo.ex {H':Hp}(B:Bo K P w t M L H p sa h x y)(e:Ex M M' H)(k:ah H H')(d:Wd K P w M' L' H'):Bo K P w t M' L' H' p sa h x y:=by
 obtain⟨⟨dx,lt,lw,rw,ob,⟨ws,l1,l2,l4,l3⟩,⟨A1,W1,S1⟩,⟨A2,W2,S2⟩⟩,mp⟩:=B
 exact⟨⟨dx,lt,lw,rw,k _ _ ob,⟨ws,k _ _ l1,e.new _ (by rw[l1]; exact λz=>nomatch z) l2,l4,l3⟩,⟨A1,W1,(S1.fs.ex e).same k,(S1.wk.ex e).same k,d⟩,⟨A2,W2,(S2.fs.ex e).same k,(S2.wk.ex e).same k,d⟩⟩,e.old _ _ mp⟩
theorem Bo.own {o:HO}(B:Bo K P w t M L H p sa h x y)(m:M s=some .fr)(n:p≠s)(mu:dZ (H s))(mo:dZ (some o)):Bo K P w t M L (upd H s o) p sa h x y:=by
 obtain⟨⟨dx,lt,lw,rw,ob,⟨ws,l1,l2,l4,l3⟩,⟨A1,W1,S1⟩,⟨A2,W2,S2⟩⟩,mp⟩:=B
 exact⟨⟨dx,lt,lw,rw,(aG n).trans ob,⟨ws,(aG (λz=>by rw[z,m] at l2; cases l2)).trans l1,l2,l4,l3⟩,⟨A1,W1,S1.own m mu mo⟩,⟨A2,W2,S2.own m mu mo⟩⟩,mp⟩
end
def O3 (b wy:Addr):List (Str × V):=[("both",.ref b),("ways",.ref wy),("parting",.aR)]
structure Se (K:PySem.W.Frag)(P:Program)(w:World)(t:Ad)(M:Mp)(L:Nat)(H:Hp)(s b sa wy:Addr)(h:Nat)(x y:Str):Prop where
 ob:∃dx,H s=some (.ins t.bf dx (O3 b wy))
 ms:M s=some .fr
 bo:Bo K P w t M L H b sa h x y
 wa:∃es ep q i j,H wy=some (cH wy es ep)/\es.size=1/\(∀h:0 < es.size,es[0].key=.ref q)/\aK K H q [.int i,.int j]
 mw:M wy=none
theorem Se.kw {M:Mp}{L L' h:Nat}{H H':Hp}{s b sa wy:Addr}{x y:Str}(S:Se K P w t M L H s b sa wy h x y)(k:Kw K M H H')(d:Wd K P w M L' H'):Se K P w t M L' H' s b sa wy h x y:=by
 obtain⟨⟨dx,ob⟩,ms,bo,⟨es,ep,q,i,j,h1,h2,h3,h4⟩,mw⟩:=S
 exact⟨⟨dx,k.kf _ _ ob (.inr ms)⟩,ms,bo.kw k d,⟨es,ep,q,i,j,k.keep _ _ h1 mw,h2,h3,k.tup _ _ h4⟩,mw⟩
theorem Se.same {M:Mp}{L h:Nat}{H H':Hp}{s b sa wy:Addr}{x y:Str}(S:Se K P w t M L H s b sa wy h x y)(k:ah H H'):Se K P w t M L H' s b sa wy h x y:=S.kw (Kw.same k) (S.bo.wd.same k)
def Fq (K:PySem.W.Frag)(P:Program)(w:World)(t:Ad):Sp:=λvs H Q _=>∃(s dx b sa:Addr) (M:Mp) (L h:Nat) (x y:Str),vs=[.ref s,.ref b]/\H s=some (.ins t.bf dx [])/\M s=some .fr/\b≠s/\Bo K P w t M L H b sa h x y/\h<=9/\L<=400000/\
 ∀wy H',Se K P w t M (L+20) H' s b sa wy h x y->Kv K M H H'->Q .aR H'
theorem uY:aI ["self","both"] ["self","both"] (aC eU):=⟨rfl,rfl,rfl,by decide +kernel,rfl,by decide +kernel,by decide +kernel⟩
theorem uZ (T:Txt K mg t):aA P w K mg base aZ 5 t.gI t.eW ["self","both"] (Fq K P w t):=by
 have xC:aA P w K mg base aZ 4 t.kj t.fJ ["self"] (Cu K P w t):=wu T
 refine T.pY.fn.ok uY (λvs H Q E h=>?_) (λcdv Ar outer sh H vs Q E hr h=>?_)
 ·obtain⟨s,dx,b,sa,M,L,h,x,y,rfl,_⟩:=h
  rfl
 obtain⟨s,dx,b,sa,M,L,h,x,y,rfl,hs,ms,LJ,B,hh,hL,kk⟩:=h
 refine⟨_,(aj (dP K (pv 0) (pv 1)) (aj (dP K (pv 0) (Lq K hr.uB (nM T.qF T.m9 xC (hr.mono (by first | decide | omega)) aQ (pv 1)) zg)) (av (dP K (pv 0) zg)))),?_⟩
 have c:=T.lH
 refine gZ ((af (by rfl)) _ λH1 s1=>oW (K:=K) (by rfl) (s1 _ _ hs) c T.j5 (by decide) ?_)
 have HM:dZ (H1 s):=by rw[s1 _ _ hs]; exact True.intro
 have B2:=(B.same s1).own (o:=.ins t.bf dx (aF "both" (.ref b) [])) ms LJ HM True.intro
 have v2:Kv K M H (upd H1 s (.ins t.bf dx (aF "both" (.ref b) []))):=(Kw.same s1).v.trans (Kv.own ms HM)
 have hs2:upd H1 s (.ins t.bf dx (aF "both" (.ref b) [])) s=some (.ins t.bf dx (aF "both" (.ref b) [])):=au
 dsimp only
 generalize upd H1 s (.ins t.bf dx (aF "both" (.ref b) []))=H2 at *
 obtain⟨⟨WI,lt,lw,rw,ob,_⟩,mp⟩:=id B2
 refine gZ (show Lp K _ _ _ H2 _ from λd hd=>?_)
 have s23:ah H2 (upd H2 d (cH d #[] 0)):=ah.new hd _
 have md:M d=none:=B2.wd.off hd
 refine dj (af (by rfl)) (s23 _ _ ob) rfl λH4 s4=>⟨b,sa,M,L,h,x,y,rfl,B2.same (s23.trans s4),hh,hL,λq i j H5 W5 kw5 hq=>?_⟩
 have kw25:Kw K M H2 H5:=(Kw.same (s23.trans s4)).trans kw5
 have d5:H5 d=some (cH d #[] 0):=kw5.keep _ _ (s4 _ _ au) md
 refine ay _ λH6 s6=>⟨q,rC i j,rfl,Bh (s6.tup hq),s6 _ _ d5,λes ep hes hev=>?_⟩
 have H_:dZ (H6 d):=by rw[s6 _ _ d5]; exact True.intro
 have NI:Kw K M H2 (upd H6 d (cH d es ep)):=(kw25.st s6).E8 hd H_
 have W7:Wd K P w M (L+20) (upd H6 d (cH d es ep)):=(W5.same s6).aside md H_ (by rw[s6 _ _ d5]; exact λz=>nomatch z)
 have d7:upd H6 d (cH d es ep) d=some (cH d es ep):=au
 have q7:aK K (upd H6 d (cH d es ep)) q [.int i,.int j]:=cO H_ (s6.tup hq)
 generalize upd H6 d (cH d es ep)=H7 at *
 have WJ:=NI.kf _ _ hs2 (.inr ms)
 have Ub:dZ (H7 s):=by rw[WJ]; exact True.intro
 refine oW (K:=K) (by rfl) WJ c T.j6 (by show 1 < 1000; decide) ?_
 have B7:=B2.kw NI W7
 have HX:d≠s:=λz=>by rw[z,hs2] at hd; cases hd
 have B8:=B7.own (o:=.ins t.bf dx (aF "ways" (.ref d) (aF "both" (.ref b) []))) ms LJ Ub True.intro
 have v8:Kv K M H (upd H7 s (.ins t.bf dx (aF "ways" (.ref d) (aF "both" (.ref b) [])))):=(v2.trans NI.v).trans (Kv.own ms Ub)
 have WK:upd H7 s (.ins t.bf dx (aF "ways" (.ref d) (aF "both" (.ref b) []))) s=some (.ins t.bf dx (aF "ways" (.ref d) (aF "both" (.ref b) []))):=au
 have d8:upd H7 s (.ins t.bf dx (aF "ways" (.ref d) (aF "both" (.ref b) []))) d=some (cH d es ep):=(aG HX).trans d7
 have q8:aK K (upd H7 s (.ins t.bf dx (aF "ways" (.ref d) (aF "both" (.ref b) [])))) q [.int i,.int j]:=cO Ub q7
 dsimp only
 generalize upd H7 s (.ins t.bf dx (aF "ways" (.ref d) (aF "both" (.ref b) [])))=H8 at *
 refine (ay _ λH9 s9=>oW (K:=K) (by rfl) (s9 _ _ WK) c T.gW (by show 2 < 1000; decide) ?_)
 have Uc:dZ (H9 s):=by rw[s9 _ _ WK]; exact True.intro
 have v9:Kv K M H9 (upd H9 s (.ins t.bf dx (O3 b d))):=Kv.own ms Uc
 exact kk d _ ⟨⟨dx,au⟩,ms,(B8.same s9).own (o:=.ins t.bf dx (O3 b d)) ms LJ Uc True.intro,⟨es,ep,q,i,j,(aG HX).trans (s9 _ _ d8),hes,λh=>(hev h).1,cO Uc (s9.tup q8)⟩,md⟩ ((v8.st s9).trans v9)
end
end bJ
set_option maxHeartbeats 1000000
namespace bJ
open PySem PySem.Spec PyProof.Rows L2 j_ TB
section
variable {P:Program}{w:World}{K:PySem.W.Frag}{mg:Str->Option Value}{base:Heap}{t:Ad}
theorem NJ {ta:TE}{g:TG}{tb us:TS}{D:Ends}{σ:L2.St}{H:Hp}{Pd:Addr->Hp->Prop}(h:∀R:VK,(∀a H1,Pd a H1->R (.ref a) H1)->ta σ H R)(hp:∀a H1,Pd a H1->H1 a=some (cH a #[] 0))(k:∀a H1 H2,Pd a H1->ah H1 H2->us D σ H2) :
  eK (kh (E6 (A8 ta)) g tb) us D σ H:=by
 refine h _ λa H1 pd=>⟨a,#[],0,rfl,rfl,hp a H1 pd,λp xF=>⟨p,a,#[],0,λ_=>[],rfl,au,(ah.new xF _) _ _ (hp a H1 pd),λi h=>absurd h (by simp),?_⟩⟩
 refine⟨λi m σ' H'=>i=0/\σ'=σ/\H'=upd H1 p (xj p a),⟨0,rfl,rfl,rfl⟩,?_⟩
 rintro i m σ' H' ⟨rfl,rfl,rfl⟩
 exact .inl ⟨⟨rfl,(ah.new xF _) _ _ (hp a H1 pd)⟩,k a H1 _ pd (ah.new xF _)⟩
def Ia (K:PySem.W.Frag)(P:Program)(w:World)(t:Ad):Sp:=λvs H Q _=>∃(s b sa wy pr:Addr) (M:Mp) (L h:Nat) (x y:Str) (i j:Int),vs=[.ref s,.ref pr]/\Se K P w t M L H s b sa wy h x y/\aK K H pr [.int i,.int j]/\h<=9/\L<=300000/\
 ∀f H',Wd K P w M (L+1000) H'->Kw K M H H'->H f=none->H' f=some (.lst [])->Q (.ref f) H'
theorem fq:aI ["self","pair","found","step","column"] ["self","pair"] (aC dR):=⟨rfl,rfl,rfl,by decide +kernel,rfl,by decide +kernel,by decide +kernel⟩
theorem sR (T:Txt K mg t):aA P w K mg base aZ 7 t.iN t.dU ["self","pair"] (Ia K P w t):=by
 have uq:aA P w K mg base aZ 6 t.iM t.dS ["self","pair"] (As K P w t):=sQ T
 refine T.nQ.fn.ok fq (λvs H Q E h=>?_) (λcdv Ar outer sh H vs Q E hr h=>?_)
 ·obtain⟨s,b,sa,wy,pr,M,L,h,x,y,i,j,rfl,_⟩:=h
  rfl
 obtain⟨s,b,sa,wy,pr,M,L,h,x,y,i,j,rfl,S,BG,hh,hL,kk⟩:=h
 refine⟨_,(aj (aP (i:=2) fq.nd rfl (by first | exact Or.inl rfl | exact Or.inr rfl) (aY ai)) (aj (fC PassesOwn.never rfl (Hv (Hu (cY T.nP T.m9 uq (hr.mono (by first | decide | omega)) aQ (b8 K (pv 0)) (aa (pv 1) ai)))) (oR K (n:=2) (cj (aL (i:=3) fq.nd rfl (by first | exact Or.inl rfl | exact Or.inr rfl)) (cj (aL (i:=4) fq.nd rfl (by first | exact Or.inl rfl | exact Or.inr rfl)) jW))) (av aJ)) (av (aO (pv 2))))),?_⟩
 have c:=T.lH
 refine bh ⟨(by show 0<=sizeLine; decide),λf hf=>?_⟩
 have s1:ah H (upd H f (.lst [])):=ah.new hf _
 have f1:upd H f (.lst []) f=some (.lst []):=au
 have mf:M f=none:=S.bo.wd.off hf
 generalize upd H f (.lst [])=H1 at *
 have S1:=S.same s1
 obtain⟨dx,ob⟩:=S1.ob
 obtain⟨⟨WI,lt,lw,rw,O5,_⟩,_⟩:=id S1.bo
 refine NJ (Pd:=λa H2=>H2 a=some (cH a #[] 0)/\Wd K P w M (L+1000) H2/\Kw K M H1 H2) (λR r=>dj (aV (v:=.ref b) (af (by rfl)) ob c T.j5 rfl) O5 rfl λH2 s2=>(az (af (by rfl))) _ λH3 s3=>⟨b,sa,pr,M,L,h,x,y,i,j,rfl,S1.bo.same (s2.trans s3),(s1.trans (s2.trans s3)).tup BG,hh,hL,λq H4 W4 kw4 hq=>r q H4 ⟨hq,W4,(Kw.same (s2.trans s3)).trans kw4⟩⟩) (λa H2 z=>z.1) λa H2 H3 z s3=>?_
 obtain⟨_,W2,kw2⟩:=z
 exact cK (af (by rfl)) λH4 s4=>kk f H4 (W2.same (s3.trans s4)) (((Kw.same s1).trans kw2).st (s3.trans s4)) hf ((s3.trans s4) _ _ (kw2.keep _ _ f1 mf))
theorem Ft {ta:TE}{σ:L2.St}{H:Hp}{a:Addr}{xs:List V}(h:Gv ta σ H (.ref a))(hq:aE K H a xs):Gt (nq (cZ (λx y H Q=>(∃d:Dt,d.dep<=60/\Rep K H d x/\Rep K H d y/\Q (.bl false) H)\/∃a b xs,x=.ref a/\y=.ref b/\aE K H a xs/\aE K H b []/\Q (.bl (!xs.isEmpty)) H) ta (lK dc))) σ H (!xs.isEmpty):=
 cz λR r=>h _ λH1 s1=>⟨(by show 0<=sizeLine; decide),λz hz=>.inr ⟨a,z,xs,rfl,rfl,(s1.trans (ah.new hz _)).seq hq,aE.of au,r _ (s1.trans (ah.new hz _))⟩⟩
def O6 (K:PySem.W.Frag)(P:Program)(w:World)(t:Ad):Sp:=λvs H Q _=>∃(s b sa wy:Addr) (M:Mp) (L h:Nat) (x y:Str),vs=[.ref s]/\Se K P w t M L H s b sa wy h x y/\h<=9/\L<=200000/\
 ∀H',Kw K M H H'->Q .aR H'
theorem Q0 {es:Array DictEntry}{q:Addr}(h:es.size=1)(k:∀h:0 < es.size,es[0].key=Value.ref q):Vals [V.ref q] (es.toList.map (·.key)):=by
 have e:es.toList.map (·.key)=[Value.ref q]:=by
  refine List.ext_getElem (by simp [h]) λi h1 h2=>?_
  have z:i=0:=by simpa using h2
  subst z
  simpa using k (by omega)
 rw[e]
 exact .cons rfl .nil
theorem fB:aI ["self","layer","wider","pair","found","parting"] ["self"] (aC jH):=⟨rfl,rfl,rfl,by decide +kernel,rfl,by decide +kernel,by decide +kernel⟩
theorem C0 (T:Txt K mg t):aA P w K mg base aZ 8 t.pW t.jS ["self"] (O6 K P w t):=by
 have ur:aA P w K mg base aZ 7 t.iN t.dU ["self","pair"] (Ia K P w t):=sR T
 refine T.zV.fn.ok fB (λvs H Q E h=>?_) (λcdv Ar outer sh H vs Q E hr h=>?_)
 ·obtain⟨s,b,sa,wy,M,L,h,x,y,rfl,_⟩:=h
  rfl
 obtain⟨s,b,sa,wy,M,L,h,x,y,rfl,S,hh,hL,kk⟩:=h
 refine⟨_,(aj (aP (i:=1) fB.nd rfl (by first | exact Or.inl rfl | exact Or.inr rfl) (lD Tt (by rfl) T.Lb boot_list (aa (b8 K (pv 0)) ai))) (av (Mi PassesOwn.never (bK (AO K hr.units) (pv 1) (aY ai) (bN _)) (aj (aP (i:=2) fB.nd rfl (by first | exact Or.inl rfl | exact Or.inr rfl) (aY ai)) (aj (fC PassesOwn.never rfl (jv K (pv 1)) (aL (i:=3) fB.nd rfl (by first | exact Or.inl rfl | exact Or.inr rfl)) (aj (aP (i:=4) fB.nd rfl (by first | exact Or.inl rfl | exact Or.inr rfl) (cY T.nQ T.lH ur (hr.mono (by first | decide | omega)) aQ (pv 0) (aa (pv 3) ai))) (aj (IZ (i:=5) fB.nd rfl (by first | exact Or.inl rfl | exact Or.inr rfl) (N':=["step","self"]) (ix:=[none,some 0]) (aT (by kernel_rfl)) rfl (jv K (pv 4)) (λ_ _ _ _=>(aL (i:=0) (show List.Nodup (["step","self"]:List Str) from by decide +kernel) rfl (by first | exact Or.inl rfl | exact Or.inr rfl))) (λ_ _ _ _=>(vF yJ)) (λ_ _ _ _=>(pv 0))) (aj (bY (bK (AO K hr.units) (pv 5) (aY ai) (bN _)) (aj aJ (av P9)) bF) (av (aX (xN K PySem.F.plainAttrs_list PySem.F.slot_list_extend PySem.F.type_list_extend Kh (pv 2) (aa (pv 4) ai)))))))) (av (aP (i:=1) fB.nd rfl (by first | exact Or.inl rfl | exact Or.inr rfl) (pv 2)))))))),?_⟩
 have c:=T.lH
 obtain⟨dx,ob⟩:=S.ob
 obtain⟨es,ep,q,i,j,w1,w2,w3,w4⟩:=S.wa
 refine bh (AQ ((aV (v:=.ref wy) (af (by rfl)) ob c T.j6 rfl) _ λH1 s1=>⟨wy,es,ep,[.ref q],rfl,s1 _ _ w1,by rw[w2]; decide,?_,λly WL=>?_⟩))
 ·exact Q0 w2 w3
 have s2:ah H (upd H1 ly (.lst [.ref q])):=s1.trans (ah.new WL _)
 have l2:upd H1 ly (.lst [.ref q]) ly=some (.lst [.ref q]):=au
 generalize upd H1 ly (.lst [.ref q])=H2 at *
 have nly:M ly=none:=S.bo.wd.off (s1.free WL)
 refine⟨λm σ H'=>∃l xs e2 e3 e4 e5,σ=[some (.ref s),some (.ref l),e2,e3,e4,e5]/\H' l=some (.lst xs)/\M l=none/\((m=1/\xs=[.ref q]/\Wd K P w M L H')\/(m=0/\xs=[]))/\Kw K M H H',⟨1,ly,_,none,none,none,none,rfl,l2,nly,.inl ⟨rfl,rfl,S.bo.wd.same s2⟩,Kw.same s2⟩,?_⟩
 rintro m σ H3 ⟨l,xs,e2,e3,e4,e5,rfl,l3,ml,hm,kw3⟩
 refine (Ft (K:=K) (af (by rfl)) (aE.of l3)) _ λH4 s4=>?_
 rcases hm with ⟨rfl,rfl,W3⟩ | ⟨rfl,rfl⟩
 ·rw[if_pos (show (!([V.ref q]:List V).isEmpty)=true from rfl)]
  refine⟨fun σ' H'=>∃l e2 e3 e4 e5,σ'=[some (.ref s),some (.ref l),e2,e3,e4,e5]/\H' l=some (.lst [])/\M l=none/\Kw K M H H',fun σ' H' z=>(by obtain⟨l,e2,e3,e4,e5,z1,z2,z3,z4⟩:=z; exact⟨0,by decide,l,[],e2,e3,e4,e5,z1,z2,z3,.inr ⟨rfl,rfl⟩,z4⟩),?_⟩
  refine bh ⟨(by show 0<=sizeLine; decide),λwi hwi=>?_⟩
  have s45:ah H3 (upd H4 wi (.lst [])):=s4.trans (ah.new hwi _)
  have w5:upd H4 wi (.lst []) wi=some (.lst []):=au
  have mw:M wi=none:=W3.off (s4.free hwi)
  generalize upd H4 wi (.lst [])=H5 at *
  have kw5:Kw K M H H5:=kw3.st s45
  refine QW (K:=K) (af (by rfl)) (aE.of (s45 _ _ l3))
   (λk σ' H6=>k<=1/\∃e3 e4 e5,σ'=[some (.ref s),some (.ref l),some (.ref wi),e3,e4,e5]/\Wd K P w M (L+1000 * k) H6/\Kw K M H5 H6)
   (λH6 s6=>⟨Nat.zero_le _,_,_,_,rfl,W3.same (s45.trans s6),Kw.same s6⟩) (λk σ' H6 z=>?_) (λk v σ' H6 hv hP=>?_) fun σ' H6 hP=>?_
  ·obtain⟨_,_,_,_,_,_,z⟩:=z
   exact aE.of (z.keep _ _ (s45 _ _ l3) ml)
  ·obtain⟨hk,e3,e4,e5,rfl,W6,kw6⟩:=hP
   have hk0:k < 1:=(List.getElem?_eq_some_iff.mp hv).1
   obtain rfl:k=0:=by omega
   obtain rfl:v=.ref q:=by simpa using hv.symm
   have kw06:=kw5.trans kw6
   have S6:=S.kw kw06 W6
   refine bh (dj (af (by rfl)) (kw06.kf _ _ ob (.inr S.ms)) rfl λH7 s7=>(az (af (by rfl))) _ λH8 s8=>⟨s,b,sa,wy,q,M,L,h,x,y,i,j,rfl,S6.same (s7.trans s8),(s7.trans s8).tup (kw06.tup _ _ w4),hh,by omega,λf H9 W9 kw9 hf f9=>?_⟩)
   have s68:=s7.trans s8
   have kw59:Kw K M H5 H9:=(kw6.st s68).trans kw9
   refine M6 (K:=K) (af (by rfl)) (aE.of f9) λZ H10 hZ gY oG=>?_
   refine gq (Ft (K:=K) (af (by rfl)) (aE.of oG)) (λz=>absurd z (by decide)) λ_ H11 Ks=>?_
   have s911:=gY.trans Ks
   have NL:H11 wi=some (.lst []):=s911 _ _ (kw59.keep _ _ w5 mw)
   refine mU ((af (v:=.ref wi) (by rfl)) _ λHP s12=>⟨.inl ⟨rfl,_,aE.of (s12 _ _ NL)⟩,(az (af (by rfl))) _ λHQ s13=>⟨wi,f,[],[],rfl,rfl,(s12.trans s13) _ _ NL,(s911.trans (s12.trans s13)) _ _ f9,by decide,?_⟩⟩)
   have XG:upd HQ wi (.lst ([]++[]))=HQ:=funext λa=>by
    by_cases e:a=wi
    ·subst e; rw[au]; exact ((s12.trans s13) _ _ NL).symm
    ·rw[aG e]
   rw[XG]
   have Ud:=s911.trans (s12.trans s13)
   exact⟨Nat.le_refl _,_,_,_,rfl,W9.same Ud,kw59.st Ud⟩
  ·obtain⟨hk,e3,e4,e5,rfl,W6,kw6⟩:=hP
   refine zI (af (by rfl)) λH7 s7=>?_
   exact⟨wi,_,_,_,_,rfl,s7 _ _ (kw6.keep _ _ w5 mw),mw,kw5.trans (kw6.st s7)⟩
 ·rw[if_neg (show ¬ (!([]:List V).isEmpty)=true from by decide)]
  exact kk H4 (kw3.st s4)
def xW (K:PySem.W.Frag)(t:Ad):Sp:=λvs H Q _=>∃(one gQ:Addr) (x y:Str) (h:Nat),vs=[.ref one,.ref gQ,.int ((h+1:Nat):Int)]/\Aq K H one x/\Aq K H gQ y/\x.length<=16/\y.length<=16/\h<=9/\
 ∀s dx b wy H',ah H H'->H' s=some (.ins t.bf dx (O3 b wy))->Q (.ref s) H'
theorem xX:aI ["one","other","high","search"] ["one","other","high"] (aC lR):=⟨rfl,rfl,rfl,by decide +kernel,rfl,by decide +kernel,by decide +kernel⟩
theorem Gm (T:Txt K mg t):aA P w K mg base aZ 9 t.tW t.lV ["one","other","high"] (xW K t):=by
 have yW:aA P w K mg base aZ 7 t.iL t.f_ ["self","one","other","high"] (Fd K P w t):=xB T
 have wz:aA P w K mg base aZ 5 t.gI t.eW ["self","both"] (Fq K P w t):=uZ T
 have Fv:aA P w K mg base aZ 8 t.pW t.jS ["self"] (O6 K P w t):=C0 T
 refine T.EE.fn.ok xX (λvs H Q E h=>?_) (λcdv Ar outer sh H vs Q E hr h=>?_)
 ·obtain⟨one,gQ,x,y,h,rfl,_⟩:=h
  rfl
 obtain⟨one,gQ,x,y,h,rfl,⟨T1,a1,a2⟩,⟨T2,b1,b2⟩,hx,hy,hh,kk⟩:=h
 refine⟨_,(aj (aP (i:=3) xX.nd rfl (by first | exact Or.inl rfl | exact Or.inr rfl) (tT T.K9 T.pY wz (hr.mono (by first | decide | omega)) T.M8 aQ (aa (tT T.QD T.su yW (hr.mono (by first | decide | omega)) T.Tg aQ (aa (pv 0) (aa (pv 1) (aa (pv 2) ai)))) ai))) (aj (aX (nM T.zV T.lH Fv (hr.mono (by first | decide | omega)) aQ (pv 3))) (av (aO (pv 3))))),?_⟩
 refine bh (z_ (sO (z_ ((ao (af (by rfl)) λ_ _=>ao (af (by rfl)) λ_ _=>az (af (by rfl))) _ λH1 s1=>λp dx hp hdx nd=>?_))))
 have hp2:upd H1 dx (.own p) p=none:=by rw[aG (Ne.symm nd)]; exact hp
 have s2:ah H1 (upd (upd H1 dx (.own p)) p (.ins t.bu dx [])):=(ah.new hdx _).trans (ah.new hp2 _)
 have s02:=s1.trans s2
 have hpp:upd (upd H1 dx (.own p)) p (.ins t.bu dx []) p=some (.ins t.bu dx []):=au
 refine⟨p,dx,one,gQ,x,y,h,rfl,hpp,⟨T1,s02.tup a1,s02 _ _ a2⟩,⟨T2,s02.tup b1,s02 _ _ b2⟩,hx,hy,hh,λM sa H3 B3 q3 V1=>⟨rfl,λs qM hs ND HX=>?_⟩⟩
 have LD:H p=none:=s1.free hp
 have q03:Kq K p H H3:=(Kq.same s02).trans q3
 have hs2:upd H3 qM (.own s) s=none:=by rw[aG (Ne.symm HX)]; exact hs
 have s34:ah H3 (upd (upd H3 qM (.own s)) s (.ins t.bf qM [])):=(ah.new ND _).trans (ah.new hs2 _)
 have hss:upd (upd H3 qM (.own s)) s (.ins t.bf qM []) s=some (.ins t.bf qM []):=au
 generalize upd (upd H3 qM (.own s)) s (.ins t.bf qM [])=H4 at *
 obtain⟨W4,x4⟩:=B3.wd.ko hs s34 (by rw[hss]; exact True.intro) ⟨_,hss⟩
 have B4:Bo K P w t (ko M s) 1000 H4 p sa h x y:=B3.ex x4 s34 W4
 have O1:p≠s:=λz=>by
  obtain⟨⟨WI,lt,lw,rw,O5,_⟩,_⟩:=B3
  rw[z,hs] at O5; cases O5
 refine⟨s,qM,p,sa,ko M s,1000,h,x,y,rfl,hss,qI,O1,B4,hh,by decide,λwy H5 S5 v5=>⟨rfl,?_⟩⟩
 obtain⟨dx5,WM⟩:=S5.ob
 refine bH (dj (af (by rfl)) WM rfl λH6 s6=>⟨s,p,sa,wy,ko M s,1000+20,h,x,y,rfl,S5.same s6,hh,by decide,λH7 kw7=>?_⟩)
 refine cK (af (by rfl)) λH8 s8=>kk s dx5 p wy H8 (λb o e=>?_) (s8 _ _ (kw7.kf _ _ (s6 _ _ WM) (.inr qI)))
 have nb:b≠p:=λz=>by rw[z,LD] at e; cases e
 have e3:=q03.keep _ _ e nb
 have eM:M b=none:=V1 b (by rw[s02 _ _ e]; exact λz=>nomatch z) nb
 have WN:ko M s b=none:=x4.new b (by rw[e3]; exact λz=>nomatch z) eM
 exact s8 _ _ (kw7.keep _ _ (s6 _ _ (v5.keep _ _ (s34 _ _ e3) WN)) WN)
end
end bJ
set_option maxHeartbeats 1000000
namespace bJ
open PySem PySem.Spec PyProof.Rows L2 j_ TB
section
variable {P:Program}{w:World}{K:PySem.W.Frag}{mg:Str->Option Value}{base:Heap}{t:Ad}
def wA (K:PySem.W.Frag)(t:Ad):Sp:=λvs H _ E=>∃(b:Addr) (p:List Str),vs=[.ref b]/\aE K H b (p.map V.str)/\Sm p/\iQ p=false/\∀H',ah H H'->E (.ref t.aU) none H'
theorem C1:aI ["picture"] ["picture"] (aC jz):=⟨rfl,rfl,rfl,by decide +kernel,rfl,by decide +kernel,by decide +kernel⟩
theorem uI (T:Txt K mg t):aA P w K mg base (bR P w) 4 t.lT t.iw ["picture"] (wA K t):=by
 have ng:aA P w K mg base (bR P w) 3 t.jZ t.fQ ["picture"] (A5 K t.aU):=qG T
 refine T.tZ.fn.jg C1 (λvs H Q E h=>?_) (λcdv A outer s H vs Q E hr h=>?_)
 ·obtain⟨b,p,rfl,_⟩:=h
  rfl
 obtain⟨b,p,rfl,hb,hS,c,k⟩:=h
 refine⟨_,(aj (aX (aB T.pX ng (hr.mono (by first | decide | omega)) (bg bz rfl rfl rfl (λ_ _ _ z=>z)) (aa (pv 0) ai))) (av aJ)),?_⟩
 exact bH (bB (az (af (by rfl))) λH1 s1=>⟨b,p,rfl,s1.seq hb,hS,λc1=>absurd c1 (by rw[c]; decide),λ_ H2 s2=>k H2 (s1.trans s2)⟩)
def uJ (k:Int):Bool:=decide ((1:Int)<=k)&&decide (k<=4)
def nh (t:Ad):Sp:=λvs H Q E=>∃k:Int,vs=[.int k]/\(uJ k=true->∀H',ah H H'->Q .aR H')/\(uJ k=false->∀H',ah H H'->E (.ref t.bQ) none H')
theorem Bk:aI ["high"] ["high"] (aC iX):=⟨rfl,rfl,rfl,by decide +kernel,rfl,by decide +kernel,by decide +kernel⟩
theorem iD (T:Txt K mg t):aA P w K mg base (bR P w) 3 t.fz t.dw ["high"] (nh t):=by
 refine T.jd.fn.jg Bk (λvs H Q E h=>?_) (λcdv A outer s H vs Q E hr h=>?_)
 ·obtain⟨k,rfl,_⟩:=h
  rfl
 obtain⟨k,rfl,k1,k2⟩:=h
 refine⟨_,(av (bY (pq (yq tM tM aq (pv 0) (dF rfl T.xR T.xS))) (av (yD bz rfl rfl rfl rfl T.K_ rfl (aa cg ai))) bF)),?_⟩
 refine g_ (pD (cz (tP ay (λH1 s1=>af (by rfl)) λH1 s1=>ay))) (λc H1 s1=>?_) λc H1 s1=>?_
 ·exact⟨(by show 1<=sizeLine; decide),k2 (by unfold uJ; rw[Bool.not_eq_true'] at c; exact c) H1 s1⟩
 ·exact k1 (by unfold uJ; rw[Bool.not_eq_false'] at c; exact c) H1 s1
def yX (t:Ad):Sp:=λvs H _ E=>∃(k:Int) (v:V),vs=[.int k,v]/\uJ k=false/\∀H',ah H H'->E (.ref t.bQ) none H'
theorem Fw:aI ["high","wide"] ["high","wide"] (aC kH):=⟨rfl,rfl,rfl,by decide +kernel,rfl,by decide +kernel,by decide +kernel⟩
theorem wB (T:Txt K mg t):aA P w K mg base (bR P w) 4 t.nC t.jc ["high","wide"] (yX t):=by
 have dB:aA P w K mg base (bR P w) 3 t.fz t.dw ["high"] (nh t):=iD T
 refine T.vS.fn.jg Fw (λvs H Q E h=>?_) (λcdv A outer s H vs Q E hr h=>?_)
 ·obtain⟨k,v,rfl,_⟩:=h
  rfl
 obtain⟨k,v,rfl,c,kk⟩:=h
 refine⟨_,(aj (aX (aB T.jd dB (hr.mono (by first | decide | omega)) (bg bz rfl rfl rfl (λ_ _ _ z=>z)) (aa (pv 0) ai))) (av aJ)),?_⟩
 exact bH (bB (az (af (by rfl))) λH1 s1=>⟨k,rfl,λc1=>absurd c1 (by rw[c]; decide),λ_ H2 s2=>kk H2 (s1.trans s2)⟩)
def SF (K:PySem.W.Frag)(t:Ad)(H:Hp)(E:XK)(a:Addr)(ok:Prop):Prop:=∃(x:Str) (ts:List (List Int)),j7 K H a x ts/\p_ x ts/\(b9 x ts=false->∀H',ah H H'->E (.ref t.aM) none H')/\(b9 x ts=true->ok)
def Fx (K:PySem.W.Frag)(t:Ad)(H:Hp)(E:XK)(b:Addr):Prop:=∃p:List Str,aE K H b (p.map V.str)/\Sm p/\iQ p=false/\∀H',ah H H'->E (.ref t.aU) none H'
def xY (t:Ad)(H:Hp)(E:XK)(k:Int):Prop:=uJ k=false/\∀H',ah H H'->E (.ref t.bQ) none H'
def Dq (K:PySem.W.Frag)(t:Ad):Sp:=λvs H _ E=>∃(a b:Addr),vs=[.ref a,.ref b]/\SF K t H E a (Fx K t H E b)
def O7 (K:PySem.W.Frag)(t:Ad):Sp:=λvs H _ E=>∃(a b:Addr) (v:V),vs=[.ref a,.ref b,v]/\SF K t H E a (Fx K t H E b)
def uu (K:PySem.W.Frag)(t:Ad):Sp:=λvs H _ E=>∃(a:Addr) (k:Int) (v:V),vs=[.ref a,.int k,v]/\SF K t H E a (xY t H E k)
def Dr (K:PySem.W.Frag)(t:Ad):Sp:=λvs H _ E=>∃(a:Addr) (k:Int) (v u:V),vs=[.ref a,.int k,v,u]/\SF K t H E a (xY t H E k)
def Ue (K:PySem.W.Frag)(t:Ad):Sp:=λvs H _ E=>∃(a:Addr),vs=[.ref a]/\SF K t H E a False
def O8 (K:PySem.W.Frag)(t:Ad):Sp:=λvs H _ E=>∃(a b:Addr) (k:Int),vs=[.ref a,.ref b,.int k]/\SF K t H E a (SF K t H E b (xY t H E k))
def O9 (K:PySem.W.Frag)(t:Ad):Sp:=λvs H _ E=>∃(a b:Addr) (k:Int) (v:V),vs=[.ref a,.ref b,.int k,v]/\SF K t H E a (SF K t H E b (xY t H E k))
theorem Ib:aI ["system","picture","columns","found"] ["system","picture"] (aC vP):=⟨rfl,rfl,rfl,by decide +kernel,rfl,by decide +kernel,by decide +kernel⟩
theorem Q2 (T:Txt K mg t):aA P w K mg base (bR P w) 5 t.EC t.vQ ["system","picture"] (Dq K t):=by
 have aS:aA P w K mg base (bR P w) 3 t.b_ t.bL ["system"] (gh K t.aM):=cJ T
 have qj:aA P w K mg base (bR P w) 4 t.lT t.iw ["picture"] (wA K t):=uI T
 refine T.lets.fn.jg Ib (λvs H Q E h=>?_) (λcdv A outer s H vs Q E hr h=>?_)
 ·obtain⟨a,b,rfl,_⟩:=h
  rfl
 obtain⟨a,b,rfl,h⟩:=h
 refine⟨_,(aj (aX (aB T.cC aS (hr.mono (by first | decide | omega)) (bg bz rfl rfl rfl (λ_ _ _ z=>z)) (aa (pv 0) ai))) (aj (aP (i:=2) Ib.nd rfl (by first | exact Or.inl rfl | exact Or.inr rfl) (aB T.tZ qj (hr.mono (by first | decide | omega)) (bg bz rfl rfl rfl (λ_ _ _ z=>z)) (aa (pv 1) ai))) (aj aJ (aj aJ (av aJ))))),?_⟩
 obtain⟨x,ts,hA,hM,k1,h⟩:=h
 refine bH (bB (az (af (by rfl))) λH1 s1=>⟨a,x,ts,rfl,hA.same s1,hM,λc1 H2 s2=>?_,λc1 H2 s2=>k1 c1 H2 (s1.trans s2)⟩)
 have s02:=s1.trans s2
 obtain⟨p,hb,hS,c2,k2⟩:=h c1
 exact bh (bB (az (af (by rfl))) λH3 s3=>⟨b,p,rfl,(s02.trans s3).seq hb,hS,c2,λH4 s4=>k2 H4 (s02.trans (s3.trans s4))⟩)
theorem wC:aI ["system","picture","columns","ways","letters","taken","totals","found","place","letter","step"] ["system","picture"] (aC kI):=⟨rfl,rfl,rfl,by decide +kernel,rfl,by decide +kernel,by decide +kernel⟩
theorem Fy (T:Txt K mg t):aA P w K mg base (bR P w) 5 t.qX t.kN ["system","picture"] (Dq K t):=by
 have aS:aA P w K mg base (bR P w) 3 t.b_ t.bL ["system"] (gh K t.aM):=cJ T
 have qj:aA P w K mg base (bR P w) 4 t.lT t.iw ["picture"] (wA K t):=uI T
 refine T.Cf.fn.jg wC (λvs H Q E h=>?_) (λcdv A outer s H vs Q E hr h=>?_)
 ·obtain⟨a,b,rfl,_⟩:=h
  rfl
 obtain⟨a,b,rfl,h⟩:=h
 refine⟨_,(aj (aX (aB T.cC aS (hr.mono (by first | decide | omega)) (bg bz rfl rfl rfl (λ_ _ _ z=>z)) (aa (pv 0) ai))) (aj (aP (i:=2) wC.nd rfl (by first | exact Or.inl rfl | exact Or.inr rfl) (aB T.tZ qj (hr.mono (by first | decide | omega)) (bg bz rfl rfl rfl (λ_ _ _ z=>z)) (aa (pv 1) ai))) (aj aJ (aj aJ (aj aJ (aj aJ (aj aJ (aj aJ (aj aJ (av aJ)))))))))),?_⟩
 obtain⟨x,ts,hA,hM,k1,h⟩:=h
 refine bH (bB (az (af (by rfl))) λH1 s1=>⟨a,x,ts,rfl,hA.same s1,hM,λc1 H2 s2=>?_,λc1 H2 s2=>k1 c1 H2 (s1.trans s2)⟩)
 have s02:=s1.trans s2
 obtain⟨p,hb,hS,c2,k2⟩:=h c1
 exact bh (bB (az (af (by rfl))) λH3 s3=>⟨b,p,rfl,(s02.trans s3).seq hb,hS,c2,λH4 s4=>k2 H4 (s02.trans (s3.trans s4))⟩)
theorem NN:aI ["system","picture","rows","known"] ["system","picture","rows"] (aC r6):=⟨rfl,rfl,rfl,by decide +kernel,rfl,by decide +kernel,by decide +kernel⟩
theorem NO (T:Txt K mg t):aA P w K mg base (bR P w) 5 t.AW t.r_ ["system","picture","rows"] (O7 K t):=by
 have aS:aA P w K mg base (bR P w) 3 t.b_ t.bL ["system"] (gh K t.aM):=cJ T
 have ng:aA P w K mg base (bR P w) 3 t.jZ t.fQ ["picture"] (A5 K t.aU):=qG T
 refine T.OM.fn.jg NN (λvs H Q E h=>?_) (λcdv A outer s H vs Q E hr h=>?_)
 ·obtain⟨a,b,v,rfl,_⟩:=h
  rfl
 obtain⟨a,b,v,rfl,h⟩:=h
 refine⟨_,(aj (aX (aB T.cC aS (hr.mono (by first | decide | omega)) (bg bz rfl rfl rfl (λ_ _ _ z=>z)) (aa (pv 0) ai))) (aj (aX (aB T.pX ng (hr.mono (by first | decide | omega)) (bg bz rfl rfl rfl (λ_ _ _ z=>z)) (aa (pv 1) ai))) (aj aJ (aj aJ (av aJ))))),?_⟩
 obtain⟨x,ts,hA,hM,k1,h⟩:=h
 refine bH (bB (az (af (by rfl))) λH1 s1=>⟨a,x,ts,rfl,hA.same s1,hM,λc1 H2 s2=>?_,λc1 H2 s2=>k1 c1 H2 (s1.trans s2)⟩)
 have s02:=s1.trans s2
 obtain⟨p,hb,hS,c2,k2⟩:=h c1
 exact bH (bB (az (af (by rfl))) λH3 s3=>⟨b,p,rfl,(s02.trans s3).seq hb,hS,λz=>absurd z (by rw[c2]; decide),λ_ H4 s4=>k2 H4 (s02.trans (s3.trans s4))⟩)
theorem Gq:aI ["system","high","wide","ways"] ["system","high","wide"] (aC lQ):=⟨rfl,rfl,rfl,by decide +kernel,rfl,by decide +kernel,by decide +kernel⟩
theorem Gr (T:Txt K mg t):aA P w K mg base (bR P w) 5 t.tV t.lU ["system","high","wide"] (uu K t):=by
 have aS:aA P w K mg base (bR P w) 3 t.b_ t.bL ["system"] (gh K t.aM):=cJ T
 have rH:aA P w K mg base (bR P w) 4 t.nC t.jc ["high","wide"] (yX t):=wB T
 refine T.ED.fn.jg Gq (λvs H Q E h=>?_) (λcdv A outer s H vs Q E hr h=>?_)
 ·obtain⟨a,k,v,rfl,_⟩:=h
  rfl
 obtain⟨a,k,v,rfl,h⟩:=h
 refine⟨_,(aj (aX (aB T.cC aS (hr.mono (by first | decide | omega)) (bg bz rfl rfl rfl (λ_ _ _ z=>z)) (aa (pv 0) ai))) (aj (aX (aB T.vS rH (hr.mono (by first | decide | omega)) (bg bz rfl rfl rfl (λ_ _ _ z=>z)) (aa (pv 1) (aa (pv 2) ai)))) (aj aJ (av aJ)))),?_⟩
 obtain⟨x,ts,hA,hM,k1,h⟩:=h
 refine bH (bB (az (af (by rfl))) λH1 s1=>⟨a,x,ts,rfl,hA.same s1,hM,λc1 H2 s2=>?_,λc1 H2 s2=>k1 c1 H2 (s1.trans s2)⟩)
 have s02:=s1.trans s2
 obtain⟨c2,k2⟩:=h c1
 exact bH (bB (ao (af (by rfl)) λ_ _=>az (af (by rfl))) λH3 s3=>⟨k,_,rfl,c2,λH4 s4=>k2 H4 (s02.trans (s3.trans s4))⟩)
theorem C2:aI ["system","high","wide","number","ways","totals","letters"] ["system","high","wide","number"] (aC jC):=⟨rfl,rfl,rfl,by decide +kernel,rfl,by decide +kernel,by decide +kernel⟩
theorem C3 (T:Txt K mg t):aA P w K mg base (bR P w) 5 t.pQ t.jM ["system","high","wide","number"] (Dr K t):=by
 have aS:aA P w K mg base (bR P w) 3 t.b_ t.bL ["system"] (gh K t.aM):=cJ T
 have rH:aA P w K mg base (bR P w) 4 t.nC t.jc ["high","wide"] (yX t):=wB T
 refine T.zS.fn.jg C2 (λvs H Q E h=>?_) (λcdv A outer s H vs Q E hr h=>?_)
 ·obtain⟨a,k,v,u,rfl,_⟩:=h
  rfl
 obtain⟨a,k,v,u,rfl,h⟩:=h
 refine⟨_,(aj (aX (aB T.cC aS (hr.mono (by first | decide | omega)) (bg bz rfl rfl rfl (λ_ _ _ z=>z)) (aa (pv 0) ai))) (aj (aX (aB T.vS rH (hr.mono (by first | decide | omega)) (bg bz rfl rfl rfl (λ_ _ _ z=>z)) (aa (pv 1) (aa (pv 2) ai)))) (aj aJ (aj aJ (aj aJ (aj aJ (av aJ))))))),?_⟩
 obtain⟨x,ts,hA,hM,k1,h⟩:=h
 refine bH (bB (az (af (by rfl))) λH1 s1=>⟨a,x,ts,rfl,hA.same s1,hM,λc1 H2 s2=>?_,λc1 H2 s2=>k1 c1 H2 (s1.trans s2)⟩)
 have s02:=s1.trans s2
 obtain⟨c2,k2⟩:=h c1
 exact bH (bB (ao (af (by rfl)) λ_ _=>az (af (by rfl))) λH3 s3=>⟨k,_,rfl,c2,λH4 s4=>k2 H4 (s02.trans (s3.trans s4))⟩)
theorem yY:aI ["system","high","rule"] ["system","high","rule"] (aC gF):=⟨rfl,rfl,rfl,by decide +kernel,rfl,by decide +kernel,by decide +kernel⟩
theorem qk (T:Txt K mg t):aA P w K mg base (bR P w) 5 t.jk t.fj ["system","high","rule"] (uu K t):=by
 have aS:aA P w K mg base (bR P w) 3 t.b_ t.bL ["system"] (gh K t.aM):=cJ T
 have dB:aA P w K mg base (bR P w) 3 t.fz t.dw ["high"] (nh t):=iD T
 refine T.ou.fn.jg yY (λvs H Q E h=>?_) (λcdv A outer s H vs Q E hr h=>?_)
 ·obtain⟨a,k,v,rfl,_⟩:=h
  rfl
 obtain⟨a,k,v,rfl,h⟩:=h
 refine⟨_,(aj (aX (aB T.cC aS (hr.mono (by first | decide | omega)) (bg bz rfl rfl rfl (λ_ _ _ z=>z)) (aa (pv 0) ai))) (aj (aX (aB T.jd dB (hr.mono (by first | decide | omega)) (bg bz rfl rfl rfl (λ_ _ _ z=>z)) (aa (pv 1) ai))) (av aJ))),?_⟩
 obtain⟨x,ts,hA,hM,k1,h⟩:=h
 refine bH (bB (az (af (by rfl))) λH1 s1=>⟨a,x,ts,rfl,hA.same s1,hM,λc1 H2 s2=>?_,λc1 H2 s2=>k1 c1 H2 (s1.trans s2)⟩)
 have s02:=s1.trans s2
 obtain⟨c2,k2⟩:=h c1
 exact bH (bB (az (af (by rfl))) λH3 s3=>⟨k,rfl,λz=>absurd z (by rw[c2]; decide),λ_ H4 s4=>k2 H4 (s02.trans (s3.trans s4))⟩)
theorem xY.same {H H':Hp}{E:XK}{k:Int}(h:xY t H E k)(s:ah H H'):xY t H' E k:=⟨h.1,λH2 s2=>h.2 H2 (s.trans s2)⟩
theorem SF.same {H H':Hp}{E:XK}{a:Addr}{k k':Prop}(h:SF K t H E a k)(s:ah H H')(f:k->k'):SF K t H' E a k':=by
 obtain⟨x,ts,h1,h2,h3,h4⟩:=h
 exact⟨x,ts,h1.same s,h2,λc H2 s2=>h3 c H2 (s.trans s2),λc=>f (h4 c)⟩
theorem NP:aI ["system","high","rule","course","layers"] ["system","high","rule"] (aC r8):=⟨rfl,rfl,rfl,by decide +kernel,rfl,by decide +kernel,by decide +kernel⟩
theorem NQ (T:Txt K mg t):aA P w K mg base (bR P w) 6 t.AX t.sd ["system","high","rule"] (uu K t):=by
 have l8:aA P w K mg base (bR P w) 5 t.jk t.fj ["system","high","rule"] (uu K t):=qk T
 refine T.ON.fn.jg NP (λvs H Q E h=>?_) (λcdv A outer s H vs Q E hr h=>?_)
 ·obtain⟨a,k,v,rfl,_⟩:=h
  rfl
 obtain⟨a,k,v,rfl,h⟩:=h
 refine⟨_,(aj (aX (aB T.ou l8 (hr.mono (by first | decide | omega)) (bg bz rfl rfl rfl (λ_ _ _ z=>z)) (aa (pv 0) (aa (pv 1) (aa (pv 2) ai))))) (aj aJ (aj aJ (aj aJ (av aJ))))),?_⟩
 exact bH (bB (ao (af (by rfl)) λ_ _=>ao (af (by rfl)) λ_ _=>az (af (by rfl))) λH3 s3=>⟨a,k,v,rfl,h.same s3 λz=>z.same s3⟩)
theorem C4:aI ["system","high","rule","paper","letters","passed_over","column"] ["system","high","rule","paper"] (aC jD):=⟨rfl,rfl,rfl,by decide +kernel,rfl,by decide +kernel,by decide +kernel⟩
theorem C5 (T:Txt K mg t):aA P w K mg base (bR P w) 6 t.pS t.jN ["system","high","rule","paper"] (Dr K t):=by
 have l8:aA P w K mg base (bR P w) 5 t.jk t.fj ["system","high","rule"] (uu K t):=qk T
 refine T.zT.fn.jg C4 (λvs H Q E h=>?_) (λcdv A outer s H vs Q E hr h=>?_)
 ·obtain⟨a,k,v,u,rfl,_⟩:=h
  rfl
 obtain⟨a,k,v,u,rfl,h⟩:=h
 refine⟨_,(aj (aX (aB T.ou l8 (hr.mono (by first | decide | omega)) (bg bz rfl rfl rfl (λ_ _ _ z=>z)) (aa (pv 0) (aa (pv 1) (aa (pv 2) ai))))) (aj aJ (aj aJ (aj aJ (aj aJ (av aJ)))))),?_⟩
 exact bH (bB (ao (af (by rfl)) λ_ _=>ao (af (by rfl)) λ_ _=>az (af (by rfl))) λH3 s3=>⟨a,k,v,rfl,h.same s3 λz=>z.same s3⟩)
theorem Jt:aI ["system"] ["system"] (aC nN):=⟨rfl,rfl,rfl,by decide +kernel,rfl,by decide +kernel,by decide +kernel⟩
theorem Ju (T:Txt K mg t):aA P w K mg base (bR P w) 4 t.vR t.nO ["system"] (Ue K t):=by
 have aS:aA P w K mg base (bR P w) 3 t.b_ t.bL ["system"] (gh K t.aM):=cJ T
 refine T.written.fn.jg Jt (λvs H Q E h=>?_) (λcdv A outer s H vs Q E hr h=>?_)
 ·obtain⟨a,rfl,_⟩:=h
  rfl
 obtain⟨a,rfl,h⟩:=h
 refine⟨_,(aj (aX (aB T.cC aS (hr.mono (by first | decide | omega)) (bg bz rfl rfl rfl (λ_ _ _ z=>z)) (aa (pv 0) ai))) (av aJ)),?_⟩
 obtain⟨x,ts,hA,hM,k1,h⟩:=h
 refine bH (bB (az (af (by rfl))) λH1 s1=>⟨a,x,ts,rfl,hA.same s1,hM,λc1 H2 s2=>?_,λc1 H2 s2=>k1 c1 H2 (s1.trans s2)⟩)
 exact (h c1).elim
theorem Bl:aI ["one","other","high","search"] ["one","other","high"] (aC iY):=⟨rfl,rfl,rfl,by decide +kernel,rfl,by decide +kernel,by decide +kernel⟩
theorem Bm (T:Txt K mg t):aA P w K mg base (bR P w) 5 t.oj t.i8 ["one","other","high"] (O8 K t):=by
 have aS:aA P w K mg base (bR P w) 3 t.b_ t.bL ["system"] (gh K t.aM):=cJ T
 have dB:aA P w K mg base (bR P w) 3 t.fz t.dw ["high"] (nh t):=iD T
 refine T.xP.fn.jg Bl (λvs H Q E h=>?_) (λcdv A outer s H vs Q E hr h=>?_)
 ·obtain⟨a,b,k,rfl,_⟩:=h
  rfl
 obtain⟨a,b,k,rfl,h⟩:=h
 refine⟨_,(aj (aX (aB T.cC aS (hr.mono (by first | decide | omega)) (bg bz rfl rfl rfl (λ_ _ _ z=>z)) (aa (pv 0) ai))) (aj (aX (aB T.cC aS (hr.mono (by first | decide | omega)) (bg bz rfl rfl rfl (λ_ _ _ z=>z)) (aa (pv 1) ai))) (aj (aX (aB T.jd dB (hr.mono (by first | decide | omega)) (bg bz rfl rfl rfl (λ_ _ _ z=>z)) (aa (pv 2) ai))) (aj aJ (aj aJ (av aJ)))))),?_⟩
 obtain⟨x,ts,hA,hM,k1,h⟩:=h
 refine bH (bB (az (af (by rfl))) λH1 s1=>⟨a,x,ts,rfl,hA.same s1,hM,λc1 H2 s2=>?_,λc1 H2 s2=>k1 c1 H2 (s1.trans s2)⟩)
 have s02:=s1.trans s2
 obtain⟨y,us,hB,hN,k2,h⟩:=h c1
 refine bH (bB (az (af (by rfl))) λH3 s3=>⟨b,y,us,rfl,hB.same (s02.trans s3),hN,λc2 H4 s4=>?_,λc2 H4 s4=>k2 c2 H4 (s02.trans (s3.trans s4))⟩)
 have s04:=s02.trans (s3.trans s4)
 obtain⟨c3,k3⟩:=h c2
 exact bH (bB (az (af (by rfl))) λH5 s5=>⟨k,rfl,λz=>absurd z (by rw[c3]; decide),λ_ H6 s6=>k3 H6 (s04.trans (s5.trans s6))⟩)
theorem Bp:aI ["one","other","high","pairs","both","marks","handed","known","pair","numbers"] ["one","other","high","pairs"] (aC iZ):=⟨rfl,rfl,rfl,by decide +kernel,rfl,by decide +kernel,by decide +kernel⟩
theorem Bq (T:Txt K mg t):aA P w K mg base (bR P w) 5 t.om t.i9 ["one","other","high","pairs"] (O9 K t):=by
 have aS:aA P w K mg base (bR P w) 3 t.b_ t.bL ["system"] (gh K t.aM):=cJ T
 have dB:aA P w K mg base (bR P w) 3 t.fz t.dw ["high"] (nh t):=iD T
 refine T.xQ.fn.jg Bp (λvs H Q E h=>?_) (λcdv A outer s H vs Q E hr h=>?_)
 ·obtain⟨a,b,k,v,rfl,_⟩:=h
  rfl
 obtain⟨a,b,k,v,rfl,h⟩:=h
 refine⟨_,(aj (aX (aB T.cC aS (hr.mono (by first | decide | omega)) (bg bz rfl rfl rfl (λ_ _ _ z=>z)) (aa (pv 0) ai))) (aj (aX (aB T.cC aS (hr.mono (by first | decide | omega)) (bg bz rfl rfl rfl (λ_ _ _ z=>z)) (aa (pv 1) ai))) (aj (aX (aB T.jd dB (hr.mono (by first | decide | omega)) (bg bz rfl rfl rfl (λ_ _ _ z=>z)) (aa (pv 2) ai))) (aj aJ (aj aJ (aj aJ (aj aJ (aj aJ (aj aJ (av aJ)))))))))),?_⟩
 obtain⟨x,ts,hA,hM,k1,h⟩:=h
 refine bH (bB (az (af (by rfl))) λH1 s1=>⟨a,x,ts,rfl,hA.same s1,hM,λc1 H2 s2=>?_,λc1 H2 s2=>k1 c1 H2 (s1.trans s2)⟩)
 have s02:=s1.trans s2
 obtain⟨y,us,hB,hN,k2,h⟩:=h c1
 refine bH (bB (az (af (by rfl))) λH3 s3=>⟨b,y,us,rfl,hB.same (s02.trans s3),hN,λc2 H4 s4=>?_,λc2 H4 s4=>k2 c2 H4 (s02.trans (s3.trans s4))⟩)
 have s04:=s02.trans (s3.trans s4)
 obtain⟨c3,k3⟩:=h c2
 exact bH (bB (az (af (by rfl))) λH5 s5=>⟨k,rfl,λz=>absurd z (by rw[c3]; decide),λ_ H6 s6=>k3 H6 (s04.trans (s5.trans s6))⟩)
end
end bJ
set_option maxHeartbeats 1000000
namespace bJ
open PySem PySem.Spec PyProof.Rows L2 j_ TB
section
variable {P:Program}{w:World}{K:PySem.W.Frag}{mg:Str->Option Value}{base:Heap}{t:Ad}
theorem Q3 {ta:TE}{σ:L2.St}{H:Hp}{v:V}(h:Gv ta σ H v):Gv (Om ta) σ H (.bl (!decide (v=.aR))):=λR r=>h _ λH' s=>r H' s
def Cv (K:PySem.W.Frag)(t:Ad):Sp:=λvs H Q E=>∃(a b:Addr) (k:Int),vs=[.ref a,.ref b,.int k]/\SF K t H E a (SF K t H E b (∃x y:Str,Aq K H a x/\Aq K H b y/\x.length<=16/\y.length<=16/\k<=5/\-10<=k/\(k<=0->∀H',Q .aR H')/\(k=5->∀H',E (.ref t.bQ) none H')/\(k<=0\/k=5)))
theorem NR {tt:TA}{g:TG}{tb us:TS}{D:Ends}{σ:L2.St}{H:Hp}{lo hi:Int}(h:Ga tt σ H [.int lo,.int hi])(hn:-1000<=lo/\lo<=1000/\-1000<=hi/\hi<=1000)(Pv:Nat->L2.St->Hp->Prop)(h0:∀H',ah H H'->Pv 0 σ H')
  (hs:∀i σ H,i < (hi - lo).toNat->Pv i σ H->g (.int (lo+(i:Int))) σ H fun σ2 H2=>tb { D with nx:=Pv (i+1),ct:=Pv (i+1),bk:=us D } σ2 H2) (hd:∀σ H,Pv (hi - lo).toNat σ H->us D σ H):eK (kh (Df tt) g tb) us D σ H:=
 h _ λH' s=>⟨lo,hi,rfl,⟨by omega,by omega,by omega,by omega⟩,vp (lo:=lo) (D:={ D with nx:=us D }) Pv (h0 H' s) hs hd⟩
theorem wD:aI ["one","other","high","height","search"] ["one","other","high"] (aC pL):=⟨rfl,rfl,rfl,by decide +kernel,rfl,by decide +kernel,by decide +kernel⟩
theorem LL (T:Txt K mg t):aA P w K mg base (bR P w) 10 t.yM t.pR ["one","other","high"] (Cv K t):=by
 have aS:aA P w K mg base (bR P w) 3 t.b_ t.bL ["system"] (gh K t.aM):=cJ T
 have dB:aA P w K mg base (bR P w) 3 t.fz t.dw ["high"] (nh t):=iD T
 have Jv:aA P w K mg base aZ 9 t.tW t.lV ["one","other","high"] (xW K t):=Gm T
 refine T.parted.fn.jg wD (λvs H Q E h=>?_) (λcdv A outer s H vs Q E hr h=>?_)
 ·obtain⟨a,b,k,rfl,_⟩:=h
  rfl
 obtain⟨a,b,k,rfl,h⟩:=h
 refine⟨_,(aj (aX (aB T.cC aS (hr.mono (by first | decide | omega)) (bg bz rfl rfl rfl (λ_ _ _ z=>z)) (aa (pv 0) ai))) (aj (aX (aB T.cC aS (hr.mono (by first | decide | omega)) (bg bz rfl rfl rfl (λ_ _ _ z=>z)) (aa (pv 1) ai))) (aj (fC PassesOwn.leaving rfl (vo rfl T.fm (aa aq (aa (aH bW (pv 2) aq) ai))) (aL (i:=3) wD.nd rfl (by first | exact Or.inl rfl | exact Or.inr rfl)) (aj (aX (aB T.jd dB (hr.mono (by first | decide | omega)) (bg bz rfl rfl rfl (λ_ _ _ z=>z)) (aa (pv 3) ai))) (aj (aP (i:=4) wD.nd rfl (by first | exact Or.inl rfl | exact Or.inr rfl) (aB T.EE Jv (hr.mono (by first | decide | omega)) aQ (aa (pv 0) (aa (pv 1) (aa (pv 3) ai))))) (av (bY (rN (P7 (b8 K (pv 4)))) (av aJ) bF))))) (av (aO zg))))),?_⟩
 obtain⟨x,ts,hA,hM,k1,h⟩:=h
 refine bH (bB (az (af (by rfl))) λH1 s1=>⟨a,x,ts,rfl,hA.same s1,hM,λc1 H2 s2=>?_,λc1 H2 s2=>k1 c1 H2 (s1.trans s2)⟩)
 have s02:=s1.trans s2
 obtain⟨y,us,hB,hN,k2,h⟩:=h c1
 refine bH (bB (az (af (by rfl))) λH3 s3=>⟨b,y,us,rfl,hB.same (s02.trans s3),hN,λc2 H4 s4=>?_,λc2 H4 s4=>k2 c2 H4 (s02.trans (s3.trans s4))⟩)
 have s04:=s02.trans (s3.trans s4)
 obtain⟨x',y',⟨T1,a1,a2⟩,⟨T2,b1,b2⟩,hx,hy,hk5,hk0,kQ,kE,hk⟩:=h c2
 refine NR (ao ay λ_ _=>az (bO (af (by rfl)) λ_ _=>ay)) ⟨by decide,by decide,by omega,by omega⟩
  (λi σ H5=>∃e3 e4,σ=[some (.ref a),some (.ref b),some (.int k),e3,e4]/\ah H H5/\i<=4)
  (λH5 s5=>⟨none,none,by first | rfl | simp,s04.trans s5,Nat.zero_le _⟩) (λi σ H5 hi hP=>?_) fun σ H5 hP=>?_
 ·obtain⟨e3,e4,rfl,s5,OR⟩:=hP
  refine bH (bB (az (af (by rfl))) λH6 s6=>⟨1+(i:Int),rfl,λc H7 s7=>?_,λc H7 s7=>?_⟩)
  ·have s57:=s5.trans (s6.trans s7)
   have hi3:i<=3:=by unfold uJ at c; simp at c; omega
   refine bh (bB (ao (af (by rfl)) λ_ _=>ao (af (by rfl)) λ_ _=>az (af (by rfl))) λH8 s8=>?_)
   have Au:=s57.trans s8
   refine⟨a,b,x',y',i,by rw[show (1:Int)+(i:Int)=((i+1:Nat):Int) by omega]; rfl,⟨T1,Au.tup a1,Au _ _ a2⟩,⟨T2,Au.tup b1,Au _ _ b2⟩,hx,hy,by omega,λs' dx bo wy H9 s9 hs'=>?_⟩
   refine g_ (b:=false) (gS (lP (Q3 (aV (v:=.aR) (af (by rfl)) hs' T.lH T.gW rfl))) (by simp)) (λz=>absurd z (by decide)) λ_ H10 gY=>?_
   exact⟨_,_,rfl,Au.trans (s9.trans gY),by omega⟩
  ·refine kE ?_ H7
   unfold uJ at c
   simp at c
   omega
 ·obtain⟨e3,e4,rfl,s5,OR⟩:=hP
  refine cK ay λH6 s6=>kQ ?_ H6
  omega
end
end bJ
set_option maxHeartbeats 1000000
namespace bJ
open PySem PySem.Spec PyProof.Rows L2 j_ TB
section
variable {P:Program}{w:World}{K:PySem.W.Frag}{mg:Str->Option Value}{base:Heap}{t:Ad}
section
variable {tt:TT}{ts us:TS}{D:Ends}{σ:L2.St}{H:Hp}{ta tb:TE}{R:VK}
theorem Fz (h:Gt tt σ H true)(k:∀H',ah H H'->ts D σ H'):ym tt ts us D σ H:=g_ h (λ_=>k) λz=>absurd z (by decide)
theorem sU (h:Gt tt σ H false)(k:∀H',ah H H'->us D σ H'):ym tt ts us D σ H:=g_ h (λz=>absurd z (by decide)) λ_=>k
theorem qm (h:Gt tt σ H true)(k:∀H',ah H H'->ts { D with nx:=us D } σ H'):eK (ym tt ts zj) us D σ H:=gq h (λ_=>k) λz=>absurd z (by decide)
theorem sV (h:Gt tt σ H false)(k:∀H',ah H H'->us D σ H'):eK (ym tt ts zj) us D σ H:=gq h (λz=>absurd z (by decide)) λ_=>k
theorem Vp (h:Gt tt σ H true)(k:∀H',ah H H'->ta σ H' R):RA tt ta tb σ H R:=h _ λH' s=>by rw[if_pos rfl]; exact k H' s
theorem Vq (h:Gt tt σ H false)(k:∀H',ah H H'->tb σ H' R):RA tt ta tb σ H R:=h _ λH' s=>by rw[if_neg Bool.false_ne_true]; exact k H' s
theorem Ug {QC:Value}{n i:Nat}{tb:XK->TS}{th:TS}{Px:XK}{Rx:L2.St->Hp->Prop}(h1:∀cls d H',Px cls d H'->MK K QC n i th { D with nx:=us D } cls d H')(h2:∀σ H',Rx σ H'->us D σ H')
  (h:∀(E:XK) (nx:L2.St->Hp->Prop),(∀cls d H',Px cls d H'->E cls d H')->(∀σ H',Rx σ H'->nx σ H')->tb E { D with nx:=nx } σ H):eK (Ss K QC n i tb th) us D σ H:=h _ _ h1 h2
end
def Uh (t:Ad)(C:Addr)(wd:Str):Prop:=(C=t.aU/\wd="picture")\/(C=t.bQ/\wd="size")\/(C=t.aM/\wd="system")
def Av (K:PySem.W.Frag)(t:Ad):Sp:=λvs H Q _=>∃(v:V) (wd:Str),vs=[v]/\((v=.aR/\wd="ok")\/∃a C,v=.ref a/\H a=some (yE a (.ref C))/\Uh t C wd)/\∀H',ah H H'->Q (.str wd) H'
structure XH (K:PySem.W.Frag)(t:Ad)(C:Addr)(b1 b2 b3 b4 b5:Bool):Prop where
 is:jh K C
 k1:PySem.W.kitOne K (.ref C) (.ref t.aU)=some b1
 k2:PySem.W.kitOne K (.ref C) (.ref t.bQ)=some b2
 k3:PySem.W.kitOne K (.ref C) (.ref t.aM)=some b3
 k4:PySem.W.kitOne K (.ref C) (.ref t.lG)=some b4
 k5:PySem.W.kitOne K (.ref C) (.ref t.mY)=some b5
 k6:PySem.W.kitOne K (.ref C) (.type "ValueError")=some true
theorem l9:aI ["_law_kept","_law_kinds"] ["_law_kept"] (aC ic):=⟨rfl,rfl,rfl,by decide +kernel,rfl,by decide +kernel,by decide +kernel⟩
theorem Aw (T:Txt K mg t):aA P w K mg base aZ 1 t.mX t.iy ["_law_kept"] (Av K t):=by
 refine T._law_refusal.fn.ok l9 (λvs H Q E h=>?_) (λcdv A outer s H vs Q E hr h=>?_)
 ·obtain⟨v,wd,rfl,_⟩:=h
  rfl
 obtain⟨v,wd,rfl,hcw,kk⟩:=h
 refine⟨_,(aj (bY (rN (Rv (pv 0))) (av (aO cg)) bF) (aj (aP (i:=1) l9.nd rfl (by first | exact Or.inl rfl | exact Or.inr rfl) (aY (aa (bq (jb K) (by rfl) T.iC boot_isinstance (aa (pv 0) (aa (dF (v:=.ref t.aU) rfl T.EI rfl) ai))) (aa (bq (jb K) (by rfl) T.iC boot_isinstance (aa (pv 0) (aa (dF (v:=.ref t.bQ) rfl T.K6 rfl) ai))) (aa (bq (jb K) (by rfl) T.iC boot_isinstance (aa (pv 0) (aa (dF (v:=.ref t.aM) rfl T.Gb rfl) ai))) ai))))) (aj (aP (i:=1) l9.nd rfl (by first | exact Or.inl rfl | exact Or.inr rfl) (aH pC (pv 1) (aY (aa (bq (jb K) (by rfl) T.iC boot_isinstance (aa (pv 0) (aa (dF (v:=.ref t.lG) rfl T.K7 rfl) ai))) (aa (bq (jb K) (by rfl) T.iC boot_isinstance (aa (pv 0) (aa (dF (v:=.ref t.mY) rfl T.M7 rfl) ai))) ai))))) (aj (bY (PW.pt (Oq (bK II (xN K PySem.F.plainAttrs_list PySem.F.slot_list_count PySem.F.type_list_count (SJ K) (pv 1) (aa nj ai)) aq (bN _)) (J0 (pq (zh (bq (jb K) (by rfl) T.iC boot_isinstance (aa (pv 0) (aa (P6 (v:=.ty "ValueError") rfl T.EN PyProof.Rows.Boot.ValueError rfl) ai)))))))) (av (aO cg)) bF) (av (aO (bT (fu K) (aY (aa cg (aa cg (aa cg (aa cg (aa cg ai)))))) (xN K PySem.F.plainAttrs_list PySem.F.slot_list_index PySem.F.type_list_index (SK K) (pv 1) (aa nj ai)) (λ_ _=>rfl)))))))),?_⟩
 rcases hcw with ⟨rfl,rfl⟩ | ⟨a,C,rfl,he,hcw⟩
 ·exact qm (gS (lP (KH (af (by rfl)))) (by simp)) λH1 s1=>cK ay λH2 s2=>kk H2 (s1.trans s2)
 have hF:∃(b1 b2 b3 b4 b5:Bool) (j:Nat),XH K t C b1 b2 b3 b4 b5/\([V.bl b1,.bl b2,.bl b3,.bl b4,.bl b5].countP λy=>nK y (.bl true))=1/\(∃hj:j < 5,nK ([V.bl b1,.bl b2,.bl b3,.bl b4,.bl b5][j]) (.bl true)=true)/\
   (∀(m:Nat) (hm:m < 5),m < j->nK ([V.bl b1,.bl b2,.bl b3,.bl b4,.bl b5][m]) (.bl true)=false)/\lM [V.str "picture",.str "size",.str "system",.str "text",.str "unlike"] (j:Int)=some (.str wd):=by
  rcases hcw with ⟨rfl,rfl⟩ | ⟨rfl,rfl⟩ | ⟨rfl,rfl⟩
  ·exact⟨true,false,false,false,false,0,⟨T.EL,T.qt,T.t9,T.rj,T.t_,T.uS,T.qu⟩,rfl,⟨by decide,rfl⟩,λm hm h=>absurd h (by omega),rfl⟩
  ·refine⟨false,true,false,false,false,1,⟨T.La,T.ua,T.xu,T.uT,T.xw,T.yN,T.uc⟩,rfl,⟨by decide,rfl⟩,λm hm h=>?_,rfl⟩
   match m,h with
   | 0,_=>rfl
   | m+1,h=>exact absurd h (by omega)
  ·refine⟨false,false,true,false,false,2,⟨T.Gg,T.rm,T.uU,T.sI,T.uV,T.vZ,T.rq⟩,rfl,⟨by decide,rfl⟩,λm hm h=>?_,rfl⟩
   match m,h with
   | 0,_=>rfl
   | 1,_=>rfl
   | m+2,h=>exact absurd h (by omega)
 obtain⟨b1,b2,b3,b4,b5,j,F,Ui,⟨hj,hjt⟩,hno,hat⟩:=hF
 refine gq (b:=false) (gS (lP (KH (af (by rfl)))) (by simp)) (λc H1 s1=>absurd c (by decide)) λc H1 s1=>?_
 have isi:∀{σ:L2.St} {Hx:Hp} {tt:TA} {c:V} {b:Bool},ah H Hx->Ga tt σ Hx [.ref a,c]->((∃x,c=.ref x)\/∃n,c=.ty n)->PySem.W.kitOne K (.ref C) (yF c)=some b->Gv (rR (λxs H Q=>∃x c t b,xs=[x,c]/\((∃a,c=.ref a)\/∃n,c=.ty n)/\GY K H x t/\PySem.W.kitOne K t (yF c)=some b/\Q (.bl b) H) tt) σ Hx (.bl b):=
  λs hg hc hk=>Qq hg hc (s _ _ he) F.is hk
 refine bh (nA (dg (xs:=[.bl b1,.bl b2,.bl b3]) (ao (isi s1 (ao (af (by rfl)) λ_ _=>az ay) (.inl ⟨_,rfl⟩) F.k1) λH2 s2=>ao (isi (s1.trans s2) (ao (af (by rfl)) λ_ _=>az ay) (.inl ⟨_,rfl⟩) F.k2) λH3 s3=>az (isi ((s1.trans s2).trans s3) (ao (af (by rfl)) λ_ _=>az ay) (.inl ⟨_,rfl⟩) F.k3)) (by show 3<=sizeLine; decide)) λl1 H2 hl1 s2 XI=>?_)
 have s02:=s1.trans s2
 refine bh (nA (SM (ys:=[.bl b4,.bl b5]) (af (by rfl)) XI (λH3 s3=>dg (ao (isi (s02.trans s3) (ao (af (by rfl)) λ_ _=>az ay) (.inl ⟨_,rfl⟩) F.k4) λH4 s4=>az (isi ((s02.trans s3).trans s4) (ao (af (by rfl)) λ_ _=>az ay) (.inl ⟨_,rfl⟩) F.k5)) (by show 2<=sizeLine; decide)) (by show 5<=sizeLine; decide)) λl2 H3 hl2 s3 XJ=>?_)
 have s03:=s02.trans s3
 have hq2:aE K H3 l2 [V.bl b1,.bl b2,.bl b3,.bl b4,.bl b5]:=aE.of XJ
 refine gq (b:=false) (gS (OC (q:=false) (cz (Ek (MP (af (by rfl)) hq2 (λ_ _=>az ay) (by rfl) (by rfl)) (λ_ _=>ay) (by rfl))) λ_ H4 s4=>gS (pD (lP (isi (s03.trans s4) (ao (af (by rfl)) λ_ _=>az ay) (.inr ⟨_,rfl⟩) F.k6))) rfl) ?_) (λc H4 s4=>absurd c (by decide)) λc H4 s4=>?_
 ·rw[Ui]; rfl
 refine cK (En (K:=K) (xs:=[.str "picture",.str "size",.str "system",.str "text",.str "unlike"]) (dg (ao ay λ_ _=>ao ay λ_ _=>ao ay λ_ _=>ao ay λ_ _=>az ay) (by show 5<=sizeLine; decide))
  (λH5 s5=>MQ (j:=j) (af (by rfl)) ((s4.trans s5).seq hq2) (λ_ _=>az ay) (by rfl) (by rfl) hj hjt hno) hat) λH5 s5=>kk H5 (s03.trans (s4.trans s5))
end
end bJ
set_option maxHeartbeats 2000000
namespace bJ
open PySem PySem.Spec PyProof.Rows L2 j_ TB
section
variable {P:Program}{w:World}{K:PySem.W.Frag}{mg:Str->Option Value}{base:Heap}{t:Ad}
theorem Fx.same {H H':Hp}{E:XK}{b:Addr}(h:Fx K t H E b)(s:ah H H'):Fx K t H' E b:=by
 obtain⟨p,h1,h2,h3,h4⟩:=h
 exact⟨p,s.seq h1,h2,h3,λH2 s2=>h4 H2 (s.trans s2)⟩
def FD (K:PySem.W.Frag)(t:Ad):Sp:=λvs H _ E=>∃(n:Nat) (a b:Addr) (k:Int),vs=[.int n,.ref a,.ref b,.int k]/\n < 8/\SF K t H E a ((n < 3/\Fx K t H E b)\/(3<=n/\n < 7/\xY t H E k))
theorem C6:aI ["_law_way","_law_system_here","_law_picture","_law_high"] ["_law_way","_law_system_here","_law_picture","_law_high"] (aC jF):=⟨rfl,rfl,rfl,by decide +kernel,rfl,by decide +kernel,by decide +kernel⟩
theorem C7 (T:Txt K mg t):aA P w K mg base (bR P w) 8 t.pU t.jP ["_law_way","_law_system_here","_law_picture","_law_high"] (FD K t):=by
 have Uj:aA P w K mg base (bR P w) 5 t.EC t.vQ ["system","picture"] (Dq K t):=Q2 T
 have Gs:aA P w K mg base (bR P w) 5 t.qX t.kN ["system","picture"] (Dq K t):=Fy T
 have Q4:aA P w K mg base (bR P w) 5 t.AW t.r_ ["system","picture","rows"] (O7 K t):=NO T
 have Jw:aA P w K mg base (bR P w) 5 t.tV t.lU ["system","high","wide"] (uu K t):=Gr T
 have FE:aA P w K mg base (bR P w) 5 t.pQ t.jM ["system","high","wide","number"] (Dr K t):=C3 T
 have Q5:aA P w K mg base (bR P w) 6 t.AX t.sd ["system","high","rule"] (uu K t):=NQ T
 have FF:aA P w K mg base (bR P w) 6 t.pS t.jN ["system","high","rule","paper"] (Dr K t):=C5 T
 have LM:aA P w K mg base (bR P w) 4 t.vR t.nO ["system"] (Ue K t):=Ju T
 refine T._law_first.fn.jg C6 (λvs H Q E h=>?_) (λcdv A outer s H vs Q E hr h=>?_)
 ·obtain⟨n,a,b,k,rfl,_⟩:=h
  rfl
 obtain⟨n,a,b,k,rfl,hn,h⟩:=h
 refine⟨_,(aj (bY (bK gD (pv 0) aq (bN _)) (av (aO (aB T.lets Uj (hr.mono (by first | decide | omega)) (bg bz rfl rfl rfl (λ_ _ _ z=>z)) (aa (pv 1) (aa (pv 2) ai))))) bF) (aj (bY (bK gD (pv 0) aq (bN _)) (av (aO (aB T.Cf Gs (hr.mono (by first | decide | omega)) (bg bz rfl rfl rfl (λ_ _ _ z=>z)) (aa (pv 1) (aa (pv 2) ai))))) bF) (aj (bY (bK gD (pv 0) aq (bN _)) (av (aO (aB T.OM Q4 (hr.mono (by first | decide | omega)) (bg bz rfl rfl rfl (λ_ _ _ z=>z)) (aa (pv 1) (aa (pv 2) (aa (aY ai) ai)))))) bF) (aj (bY (bK gD (pv 0) aq (bN _)) (av (aO (aB T.ED Jw (hr.mono (by first | decide | omega)) (bg bz rfl rfl rfl (λ_ _ _ z=>z)) (aa (pv 1) (aa (pv 3) (aa aq ai)))))) bF) (aj (bY (bK gD (pv 0) aq (bN _)) (av (aO (aB T.zS FE (hr.mono (by first | decide | omega)) (bg bz rfl rfl rfl (λ_ _ _ z=>z)) (aa (pv 1) (aa (pv 3) (aa aq (aa aq ai))))))) bF) (aj (bY (bK gD (pv 0) aq (bN _)) (av (aO (aB T.ON Q5 (hr.mono (by first | decide | omega)) (bg bz rfl rfl rfl (λ_ _ _ z=>z)) (aa (pv 1) (aa (pv 3) (aa (aY ai) ai)))))) bF) (av (aO (DM (bK gD (pv 0) aq (bN _)) (aB T.zT FF (hr.mono (by first | decide | omega)) (bg bz rfl rfl rfl (λ_ _ _ z=>z)) (aa (pv 1) (aa (pv 3) (aa (aY ai) (aa (dO (aa (aY ai) (aa (aY ai) ai))) ai))))) (aB T.written LM (hr.mono (by first | decide | omega)) (bg bz rfl rfl rfl (λ_ _ _ z=>z)) (aa (pv 1) ai))))))))))),?_⟩
 have tst:∀{Hx:Hp} {m:Nat} {b':Bool},decide (n=m)=b'->Gt (nq (cZ BO (eG 0) (tC (.int (m:Int))))) [some (.int (n:Int)),some (.ref a),some (.ref b),some (.int k)] Hx b':=λe=>gS (cz (ku (af rfl) (λ_ _=>ay) (by rfl))) (by rw[←e]; simp; omega)
 have hp:n < 3->∀{H':Hp},ah H H'->SF K t H' E a (Fx K t H' E b):=λh3 H' s=>h.same s λz=>by
  rcases z with z | z
  ·exact z.2.same s
  ·omega
 have hh:3<=n->∀{H':Hp},ah H H'->SF K t H' E a (xY t H' E k):=λh3 H' s=>h.same s λz=>by
  rcases z with z | z
  ·omega
  ·exact z.2.2.same s
 have tup0:∀{σ:L2.St} {Hx:Hp} {R:VK},(∀v H',ah Hx H'->R v H')->qR (cE (lK dc) (cE (lK dc) dc)) σ Hx R:=λ{σ Hx R} k=>⟨(by show 0<=sizeLine; decide),λp1 h1=>⟨(by show 0<=sizeLine; decide),λp2 h2=>⟨(by show 2<=sizeLine; decide),λp3 h3=>k _ _ ((ah.new h1 _).trans ((ah.new h2 _).trans (ah.new h3 _)))⟩⟩⟩
 by_cases c0:n=0
 ·exact qm (tst (m:=0) (by simpa using c0)) λH1 s1=>cI (bB (ao (af (by rfl)) λ_ _=>az (af (by rfl))) λH2 s2=>⟨a,b,rfl,hp (by omega) (s1.trans s2)⟩)
 refine sV (tst (m:=0) (by simpa using c0)) λH1 s1=>?_
 by_cases c1:n=1
 ·exact qm (tst (m:=1) (by simpa using c1)) λH2 s2=>cI (bB (ao (af (by rfl)) λ_ _=>az (af (by rfl))) λH3 s3=>⟨a,b,rfl,hp (by omega) (s1.trans (s2.trans s3))⟩)
 refine sV (tst (m:=1) (by simpa using c1)) λH2 s2=>?_
 have s02:=s1.trans s2
 by_cases c2:n=2
 ·exact qm (tst (m:=2) (by simpa using c2)) λH3 s3=>cI (nR (cR (af (by rfl)) λH4 s4=>cR (af (by rfl)) λH5 s5=>sO ⟨(by show 0<=sizeLine; decide),λl hl=>⟨a,b,_,rfl,hp (by omega) (s02.trans (s3.trans (s4.trans (s5.trans (ah.new hl _)))))⟩⟩))
 refine sV (tst (m:=2) (by simpa using c2)) λH3 s3=>?_
 have s03:=s02.trans s3
 by_cases c3:n=3
 ·exact qm (tst (m:=3) (by simpa using c3)) λH4 s4=>cI (bB (ao (af (by rfl)) λ_ _=>ao (af (by rfl)) λ_ _=>az ay) λH5 s5=>⟨a,k,_,rfl,hh (by omega) (s03.trans (s4.trans s5))⟩)
 refine sV (tst (m:=3) (by simpa using c3)) λH4 s4=>?_
 have s04:=s03.trans s4
 by_cases c4:n=4
 ·exact qm (tst (m:=4) (by simpa using c4)) λH5 s5=>cI (bB (ao (af (by rfl)) λ_ _=>ao (af (by rfl)) λ_ _=>ao ay λ_ _=>az ay) λH6 s6=>⟨a,k,_,_,rfl,hh (by omega) (s04.trans (s5.trans s6))⟩)
 refine sV (tst (m:=4) (by simpa using c4)) λH5 s5=>?_
 have s05:=s04.trans s5
 by_cases c5:n=5
 ·exact qm (tst (m:=5) (by simpa using c5)) λH6 s6=>cI (nR (cR (af (by rfl)) λH7 s7=>cR (af (by rfl)) λH8 s8=>sO ⟨(by show 0<=sizeLine; decide),λl hl=>⟨a,k,_,rfl,hh (by omega) (s05.trans (s6.trans (s7.trans (s8.trans (ah.new hl _)))))⟩⟩))
 refine sV (tst (m:=5) (by simpa using c5)) λH6 s6=>?_
 have s06:=s05.trans s6
 by_cases c6:n=6
 ·exact cI (Vp (tst (m:=6) (by simpa using c6)) λH7 s7=>nR (cR (af (by rfl)) λH8 s8=>cR (af (by rfl)) λH9 s9=>qi ⟨(by show 0<=sizeLine; decide),λl hl=>sO (tup0 λv H' s'=>⟨a,k,_,_,rfl,hh (by omega) (s06.trans (s7.trans (s8.trans (s9.trans ((ah.new hl _).trans s')))))⟩)⟩))
 ·exact cI (Vq (tst (m:=6) (by simpa using c6)) λH7 s7=>bB (az (af (by rfl))) λH8 s8=>⟨a,rfl,h.same (s06.trans (s7.trans s8)) λz=>by omega⟩)
end
end bJ
set_option maxHeartbeats 2000000
namespace bJ
open PySem PySem.Spec PyProof.Rows L2 j_ TB
section
variable {P:Program}{w:World}{K:PySem.W.Frag}{mg:Str->Option Value}{base:Heap}{t:Ad}
def sW (n:Nat)(b c:Bool):Str:=if b=false then "system" else if n < 3 then "picture" else if n < 8 then "size" else if c=false then "system" else "size"
structure Rf (n:Nat)(b c d:Bool)(k:Int):Prop where
 pic:b=true->n < 3->d=false
 siz:b=true->3<=n->n < 7->uJ k=false
 wri:b=true->n≠7
 two:b=true->c=true->8<=n->n < 10/\uJ k=false
def Br (K:PySem.W.Frag)(t:Ad):Sp:=λvs H Q _=>∃(n:Nat) (a o b:Addr) (k:Int) (x y:Str) (ts us:List (List Int)),vs=[.int n,.ref a,.ref o,.ref b,.int k]/\n < 11/\j7 K H a x ts/\p_ x ts/\j7 K H o y us/\p_ y us/\
 ((∃p:List Str,aE K H b (p.map V.str)/\Sm p/\Rf n (b9 x ts) (b9 y us) (iQ p) k/\∀H',ah H H'->Q (.str (sW n (b9 x ts) (b9 y us))) H')\/
  (n=10/\b9 x ts=true/\b9 y us=true/\(∃x' y':Str,Aq K H a x'/\Aq K H o y'/\x'.length<=16/\y'.length<=16)/\((k=5/\∀H',Q (.str "size") H')\/(k<=0/\-10<=k/\∀H',Q (.str "ok") H'))))
theorem l_:aI ["_law_way","_law_system_here","_law_other","_law_picture","_law_high","_law_kept","e"] ["_law_way","_law_system_here","_law_other","_law_picture","_law_high"] (aC kK):=⟨rfl,rfl,rfl,by decide +kernel,rfl,by decide +kernel,by decide +kernel⟩
theorem FG (T:Txt K mg t):aA P w K mg base aZ 12 t.qZ t.kP ["_law_way","_law_system_here","_law_other","_law_picture","_law_high"] (Br K t):=by
 have FH:aA P w K mg base (bR P w) 8 t.pU t.jP ["_law_way","_law_system_here","_law_picture","_law_high"] (FD K t):=C7 T
 have C8:aA P w K mg base (bR P w) 5 t.oj t.i8 ["one","other","high"] (O8 K t):=Bm T
 have C9:aA P w K mg base (bR P w) 5 t.om t.i9 ["one","other","high","pairs"] (O9 K t):=Bq T
 have NS:aA P w K mg base (bR P w) 10 t.yM t.pR ["one","other","high"] (Cv K t):=LL T
 have Bt:aA P w K mg base aZ 1 t.mX t.iy ["_law_kept"] (Av K t):=Aw T
 refine T._law_told.fn.ok l_ (λvs H Q E h=>?_) (λcdv A outer s H vs Q E hr h=>?_)
 ·obtain⟨n,a,o,b,k,x,y,ts,us,rfl,_⟩:=h
  rfl
 obtain⟨n,a,o,b,k,x,y,ts,us,rfl,hn,hA,hM,hO,hN,h⟩:=h
 refine⟨_,(aj (aP (i:=5) l_.nd rfl (by first | exact Or.inl rfl | exact Or.inr rfl) zg) (aj (Su (i:=6) rfl rfl rfl T.EH l_.nd rfl rfl (λps xe E hP=>(av (bY (bK Oz (pv 0) aq (bN _)) (av (aX (aB T._law_first FH (hr.mono (by first | decide | omega)) hP (aa (pv 0) (aa (pv 1) (aa (pv 3) (aa (pv 4) ai))))))) (av (bY (bK gD (pv 0) aq (bN _)) (av (aX (aB T.xP C8 (hr.mono (by first | decide | omega)) hP (aa (pv 1) (aa (pv 2) (aa (pv 4) ai)))))) (av (bY (bK gD (pv 0) aq (bN _)) (av (aX (aB T.xQ C9 (hr.mono (by first | decide | omega)) hP (aa (pv 1) (aa (pv 2) (aa (pv 4) (aa (aY ai) ai))))))) (av (aX (aB T.parted NS (hr.mono (by first | decide | omega)) hP (aa (pv 1) (aa (pv 2) (aa (pv 4) ai))))))))))))) (λ_=>(av (aP (i:=5) l_.nd rfl (by first | exact Or.inl rfl | exact Or.inr rfl) (pv 6))))) (av (aO (aB T._law_refusal Bt (hr.mono (by first | decide | omega)) aQ (aa (pv 5) ai)))))),?_⟩
 refine gE ay λH1 s1=>?_
 refine Ug (Px:=λcls _ H'=>∃C wd,cls=.ref C/\Uh t C wd/\∀H2,ah H' H2->Q (.str wd) H2)
  (Rx:=fun σ H'=>σ=[some (.int n),some (.ref a),some (.ref o),some (.ref b),some (.int k),some .aR,none]/\∀H2,ah H' H2->Q (.str "ok") H2) ?_ ?_ ?_
 ·rintro cls d H' ⟨C,wd,rfl,hK,kq⟩
  have hx:PySem.W.exmOne K (.ref C) (.ref t.jQ)=some true:=by
   rcases hK with ⟨rfl,_⟩ | ⟨rfl,_⟩ | ⟨rfl,_⟩
   ·exact T.qv
   ·exact T.ud
   ·exact T.rA
  refine⟨hx,λe he=>?_⟩
  refine zI (af (by rfl)) λH4 s4=>?_
  have he4:H4 e=some (yE e (.ref C)):=s4 _ _ au
  refine cK (v:=.str wd) (fh (az (af (by rfl))) λH6 R' s6 k6=>⟨.ref e,wd,rfl,.inr ⟨e,C,rfl,s6 _ _ he4,hK⟩,k6⟩) λH5 s5=>?_
  exact kq H5 ((ah.new he _).trans (s4.trans s5))
 ·rintro σ H' ⟨rfl,kq⟩
  exact cK (v:=.str "ok") (fh (az (af (by rfl))) λH6 R' s6 k6=>⟨.aR,"ok",rfl,.inl ⟨rfl,rfl⟩,k6⟩) λH5 s5=>kq H5 s5
 ·intro E nx hE hnx
  have tst:∀{Hx:Hp} {m:Nat} {b':Bool},decide (n=m)=b'->Gt (nq (cZ BO (eG 0) (tC (.int (m:Int))))) [some (.int (n:Int)),some (.ref a),some (.ref o),some (.ref b),some (.int k),some .aR,none] Hx b':=λe=>gS (cz (ku (af rfl) (λ_ _=>ay) (by rfl))) (by rw[←e]; simp; omega)
  have tlt:∀{Hx:Hp} {b':Bool},decide (n < 8)=b'->Gt (nq (cZ (qA λi j=>.bl (decide (i < j))) (eG 0) (tC (.int 8)))) [some (.int (n:Int)),some (.ref a),some (.ref o),some (.ref b),some (.int k),some .aR,none] Hx b':=λe=>gS (cz (bO (af rfl) λ_ _=>ay)) (by rw[←e]; simp; omega)
  have bad:∀{C:Addr} {wd:Str} {H':Hp},Uh t C wd->(∀H2,ah H' H2->Q (.str wd) H2)->E (.ref C) none H':=λhK kq=>hE _ _ _ ⟨_,_,rfl,hK,kq⟩
  rcases h with ⟨p,hb,hS,R,kk⟩ | ⟨rfl,cx,cy,⟨x',y',bx,by',lx,ly⟩,hk⟩
  ·have sy:∀{H':Hp},ah H H'->b9 x ts=false->E (.ref t.aM) none H':=λ{H'} s' c=>bad (wd:="system") (.inr (.inr ⟨rfl,rfl⟩)) λH2 s2=>by
    have:=kk H2 (s'.trans s2)
    unfold sW at this
    rw[if_pos c] at this
    exact this
   have sf:∀{H':Hp} {ok:Prop},ah H H'->(b9 x ts=true->ok)->SF K t H' E a ok:=λ{H' ok} s' f=>⟨x,ts,hA.same s',hM,λc H2 s2=>sy (s'.trans s2) c,f⟩
   have oh:∀{H':Hp},ah H H'->uJ k=false->sW n (b9 x ts) (b9 y us)="size"->xY t H' E k:=λ{H'} s' c e=>⟨c,λH2 s2=>bad (wd:="size") (.inr (.inl ⟨rfl,rfl⟩)) λH3 s3=>by rw[←e]; exact kk H3 (s'.trans (s2.trans s3))⟩
   by_cases c8:n < 8
   ·refine Fz (tlt (by simpa using c8)) λH2 s2=>mU (bB (ao (af (by rfl)) λ_ _=>ao (af (by rfl)) λ_ _=>ao (af (by rfl)) λ_ _=>az (af (by rfl))) λH3 s3=>⟨n,a,b,k,rfl,c8,?_⟩)
    have s03:=s1.trans (s2.trans s3)
    refine sf s03 λc=>?_
    by_cases c3:n < 3
    ·refine .inl ⟨c3,p,s03.seq hb,hS,R.pic c c3,λH4 s4=>bad (wd:="picture") (.inl ⟨rfl,rfl⟩) λH5 s5=>?_⟩
     have:=kk H5 (s03.trans (s4.trans s5))
     unfold sW at this
     rw[if_neg (by rw[c]; decide),if_pos c3] at this
     exact this
    ·have c7:n < 7:=by have:=R.wri c; omega
     exact .inr ⟨by omega,c7,oh s03 (R.siz c (by omega) c7) (by unfold sW; rw[if_neg (by rw[c]; decide),if_neg c3,if_pos c8])⟩
   refine sU (tlt (by simpa using c8)) λH2 s2=>?_
   have s02:=s1.trans s2
   have snd:∀{H':Hp} {ok:Prop},ah H H'->b9 x ts=true->(b9 y us=true->ok)->SF K t H' E o ok:=λ{H' ok} s' c f=>⟨y,us,hO.same s',hN,λc2 H3 s3=>bad (wd:="system") (.inr (.inr ⟨rfl,rfl⟩)) λH4 s4=>by
    have:=kk H4 (s'.trans (s3.trans s4))
    unfold sW at this
    rw[if_neg (by rw[c]; decide),if_neg (by omega),if_neg c8,if_pos c2] at this
    exact this,f⟩
   have ws:b9 x ts=true->b9 y us=true->sW n (b9 x ts) (b9 y us)="size":=λc c2=>by unfold sW; rw[if_neg (by rw[c]; decide),if_neg (by omega),if_neg c8,if_neg (by rw[c2]; decide)]
   by_cases e8:n=8
   ·refine Fz (tst (m:=8) (by simpa using e8)) λH3 s3=>mU (bB (ao (af (by rfl)) λ_ _=>ao (af (by rfl)) λ_ _=>az (af (by rfl))) λH4 s4=>⟨a,o,k,rfl,?_⟩)
    have s04:=s02.trans (s3.trans s4)
    exact sf s04 λc=>snd s04 c λc2=>oh s04 (R.two c c2 (by omega)).2 (ws c c2)
   refine sU (tst (m:=8) (by simpa using e8)) λH3 s3=>?_
   by_cases e9:n=9
   ·refine Fz (tst (m:=9) (by simpa using e9)) λH4 s4=>mU (nR (cR (af (by rfl)) λH5 s5=>cR (af (by rfl)) λH6 s6=>cR (af (by rfl)) λH7 s7=>sO ⟨(by show 0<=sizeLine; decide),λl hl=>⟨a,o,k,_,rfl,?_⟩⟩))
    have Au:=s02.trans (s3.trans (s4.trans (s5.trans (s6.trans (s7.trans (ah.new hl (.lst [])))))))
    exact sf Au λc=>snd Au c λc2=>oh Au (R.two c c2 (by omega)).2 (ws c c2)
   ·refine sU (tst (m:=9) (by simpa using e9)) λH4 s4=>mU (bB (ao (af (by rfl)) λ_ _=>ao (af (by rfl)) λ_ _=>az (af (by rfl))) λH5 s5=>⟨a,o,k,rfl,?_⟩)
    have s05:=s02.trans (s3.trans (s4.trans s5))
    exact sf s05 λc=>snd s05 c λc2=>absurd (R.two c c2 (by omega)).1 (by omega)
  ·refine sU (tlt (by decide)) λH2 s2=>sU (tst (m:=8) (by decide)) λH3 s3=>sU (tst (m:=9) (by decide)) λH4 s4=>mU (bB (ao (af (by rfl)) λ_ _=>ao (af (by rfl)) λ_ _=>az (af (by rfl))) λH5 s5=>⟨a,o,k,rfl,?_⟩)
   have s05:=s1.trans (s2.trans (s3.trans (s4.trans s5)))
   obtain⟨T1,a1,a2⟩:=bx
   obtain⟨T2,b1,b2⟩:=by'
   refine⟨x,ts,hA.same s05,hM,λc=>absurd c (by rw[cx]; decide),λ_=>⟨y,us,hO.same s05,hN,λc=>absurd c (by rw[cy]; decide),λ_=>⟨x',y',⟨T1,s05.tup a1,s05 _ _ a2⟩,⟨T2,s05.tup b1,s05 _ _ b2⟩,lx,ly,?_,?_,λh0 H'=>?_,λh5 H'=>?_,?_⟩⟩⟩
   ·rcases hk with z | z <;> omega
   ·rcases hk with z | z <;> omega
   ·rcases hk with ⟨z,_⟩ | ⟨_,_,z⟩
    ·omega
    ·exact hnx _ _ ⟨rfl,λH2 _=>z H2⟩
   ·rcases hk with ⟨_,z⟩ | ⟨z,_⟩
    ·exact bad (wd:="size") (.inr (.inl ⟨rfl,rfl⟩)) λH2 _=>z H2
    ·omega
   ·rcases hk with z | z
    ·exact .inr z.1
    ·exact .inl z.1
end
end bJ
namespace L2
open PySem PySem.Spec PyProof.Rows
section
variable {X:Cx}
end
section
variable {X:Cx}(K:PySem.W.Frag)
end
end L2
namespace L2
open PySem PySem.Spec PyProof.Rows
def oz (x:Str)(n:Nat):Str:=⟨(List.replicate n x.cps).foldl (·++·) #[]⟩
theorem fold_list (l:List (Array Nat)):∀a:Array Nat,(l.foldl (·++·) a).toList=a.toList++(l.map Array.toList).flatten:=by
 induction l with
 | nil=>intro a; simp
 | cons b r ih=>intro a; rw[List.foldl_cons,ih]; simp
theorem LO (x:Str)(n:Nat):(oz x n).cps.toList=(List.replicate n x.cps.toList).flatten:=by
 unfold oz
 rw[fold_list]
 simp
theorem NT (c n:Nat):(oz ⟨#[c]⟩ n).cps.toList=List.replicate n c:=by
 rw[LO]
 induction n with
 | zero=>rfl
 | succ n ih=>rw[List.replicate_succ,List.flatten_cons,ih,List.replicate_succ]; rfl
theorem FI (c n:Nat):(oz ⟨#[c]⟩ n).length=n:=by
 show (oz ⟨#[c]⟩ n).cps.size=n
 rw[←Array.length_toList,NT,List.length_replicate]
def O_:R2:=λx y H Q=>∃(c n:Nat),x=.str ⟨#[c]⟩/\y=.int n/\1<=n/\n<=1000/\Q (.str (oz ⟨#[c]⟩ n)) H
section
variable {X:Cx}
theorem Ic:eN X (binaryOp .Mult) O_:=by
 intro pins s σ H x y v u Q I rx ry h
 obtain⟨c,n,rfl,rfl,h1,h2,q⟩:=h
 obtain⟨t,rfl⟩:=rx
 obtain⟨t2,rfl⟩:=ry
 have hone:(⟨#[c]⟩:Str).length=1:=rfl
 refine PySem.P.mul_str ?_ (λ_ hx=>?_) (λ_ hx=>?_) ?_
 ·rw[decide_eq_false (by omega),decide_eq_false (by omega)]; rfl
 ·rw[hone]
  have:(1:Int)<=(2 ^ 63 - 1) / (n:Int):=by
   rw[Int.le_ediv_iff_mul_le (by omega)]
   omega
  omega
 ·rw[hone,Nat.one_mul]
  have:((n:Int)).toNat=n:=by omega
  rw[this]
  have h3:n<=sizeLine:=by rw[sizeLine_eq]; omega
  unfold Builtin.Str.tooLong
  simp
  exact h3
 ·rw[if_neg (by omega)]
  by_cases c1:((n:Int) == 1||(⟨#[c]⟩:Str).length == 0)=true
  ·rw[if_pos c1]
   have e:n=1:=by
    rw[hone] at c1
    simp at c1
    omega
   subst e
   have e2:oz ⟨#[c]⟩ 1=⟨#[c]⟩:=by
    show (⟨#[]++#[c]⟩:Str)=_
    simp
   rw[e2] at q
   exact⟨.str ⟨#[c]⟩,H,I,⟨t,rfl⟩,q⟩
  ·rw[if_neg c1]
   have e:((n:Int)).toNat=n:=by omega
   rw[e]
   refine⟨?_,.str (oz ⟨#[c]⟩ n),H,I.tok _,⟨_,rfl⟩,q⟩
   show (oz ⟨#[c]⟩ n).length<=sizeLine
   rw[FI,sizeLine_eq]
   omega
end
section
variable {ta tb:TE}{σ:St}{H:Hp}{c n:Nat}
theorem Ie (h:Gv ta σ H (.str ⟨#[c]⟩))(g:∀H',ah H H'->Gv tb σ H' (.int n))(h1:1<=n)(h2:n<=1000):Gv (cZ O_ ta tb) σ H (.str (oz ⟨#[c]⟩ n)):=λR r=>h _ λH' s=>g H' s _ λH2 s2=>⟨c,n,rfl,rfl,h1,h2,r H2 (s.trans s2)⟩
end
end L2
namespace L2
open PySem PySem.Spec PyProof.Rows
section
variable {X:Cx}
end
section
variable {ta tb:TE}{σ:St}{H:Hp}{c n:Nat}
end
end L2
namespace L2
open PySem PySem.Spec PyProof.Rows
structure jo (X:Cx)(e:Expr)(t:TE):Prop where
 get:PE X e t
structure LP (X:Cx)(es:List Expr)(t:TA):Prop where
 get:PA X es t
structure uK (X:Cx)(st:Stmt)(t:TS):Prop where
 get:PS X st t
structure Jx (X:Cx)(st:List Stmt)(t:TS):Prop where
 get:nG X st t
section
variable {X:Cx}{e:Expr}{es:List Expr}{te:TE}{t:TA}{pos:Pos}
theorem ja:LP X [] dc:=⟨ai⟩
theorem cB (ha:jo X e te)(hr:LP X es t)(hs:starEach (e::es) X.env=(false,eval e X.env)::starEach es X.env:=by rfl):LP X (e::es) (cE te t):=⟨aa ha.get hr.get hs⟩
theorem Ax {x1}(h:LP X es t):jo X (.Tuple es x1 pos) (qR t):=⟨dO h.get⟩
theorem nW (h:LP X es t):jo X (.List es pos) (lK t):=⟨aY h.get⟩
theorem Pa {a b:Expr}{ta tb:TE}{r:R2}(hr:DX X r)(ha:jo X a ta)(hb:jo X b tb)(hs:GS b):jo X (.Subscript a b pos) (cZ r ta tb):=⟨bT hr ha.get hb.get hs⟩
theorem xq {i:Nat}{x:Str}{pos':Pos}(hN:X.N.Nodup)(hi:X.N[i]?=some x)(hx:Loc X.env.scope x)(he:jo X e te)(hs:swapsWith e (some (.Name x pos')) pos.line X.env=pure false:=by rfl)(hf:X.fn x=true\/X.env.scope.names.lookup x=some .local:=by first | exact .inl rfl | exact .inr rfl | assumption) :
  uK X (.Assign [.Name x pos'] e pos) (vj te (fc i)):=⟨aP hN hi hx he.get hs hf⟩
theorem NU {st:Stmt}{t:TS}(h:uK X st t):Jx X [st] t:=⟨av h.get⟩
theorem d_ {st:Stmt}{rest:List Stmt}{t u:TS}(h:uK X st t)(hr:Jx X rest u):Jx X (st::rest) (eK t u):=⟨aj h.get hr.get⟩
end
end L2
set_option maxHeartbeats 1000000
namespace bJ
open PySem PySem.Spec PyProof.Rows L2 j_ TB
section
variable {P:Program}{w:World}{K:PySem.W.Frag}
def Gp (te:TE)(σ:L2.St)(H:Hp)(P:V->Hp->Prop):Prop:=∀R:VK,(∀v H',ah H H'->P v H'->R v H')->te σ H R
def Pc (tt:TA)(σ:L2.St)(H:Hp)(P:V->Hp->Prop)(n:Nat):Prop:=∀R:List V->Hp->Prop,(∀vs H',ah H H'->vs.length=n->(∀v∈vs,P v H')->R vs H')->tt σ H R
def WO (te:TE)(σ:L2.St)(H:Hp)(P:V->Hp->Prop)(n:Nat):Prop:=∀R:VK,(∀p H' vs,H p=none->ah H H'->H' p=some (.lst vs)->vs.length=n->(∀v∈vs,P v H')->R (.ref p) H')->te σ H R
def yZ (P:V->Hp->Prop):Prop:=∀v H H',ah H H'->P v H->P v H'
section
variable {te ta tb:TE}{tt:TA}{σ:L2.St}{H:Hp}{Pv:V->Hp->Prop}{n m:Nat}
theorem Vr {v:V}(h:Gv te σ H v)(g:∀H',ah H H'->Pv v H'):Gp te σ H Pv:=λR r=>h _ λH' s=>r v H' s (g H' s)
end
section
variable {te ta tb:TE}{tt:TA}{σ:L2.St}{H:Hp}{Pv:V->Hp->Prop}{n m:Nat}
theorem Bu:Pc dc σ H Pv 0:=λR r=>r [] H (ah.refl _) rfl λv hv=>absurd hv (by simp)
end
section
variable {te ta tb:TE}{tt:TA}{σ:L2.St}{H:Hp}{Pv:V->Hp->Prop}{n m:Nat}
theorem gm (st:yZ Pv)(h:Gp te σ H Pv)(g:∀H',ah H H'->Pc tt σ H' Pv n):Pc (cE te tt) σ H Pv (n+1):=λR r=>h _ λv H1 s1 pv=>g H1 s1 _ λvs H2 s2 hl pvs=>r (v::vs) H2 (s1.trans s2) (by simp [hl]) λu hu=>by
 rcases List.mem_cons.mp hu with e | e
 ·rw[e]; exact st _ _ _ s2 pv
 ·exact pvs u e
end
section
variable {te ta tb:TE}{tt:TA}{σ:L2.St}{H:Hp}{Pv:V->Hp->Prop}{n m:Nat}
theorem Bv (st:yZ Pv)(h:Pc tt σ H Pv n)(hz:n<=sizeLine):WO (lK tt) σ H Pv n:=λR r=>h _ λvs H1 s1 hl pvs=>⟨by rw[hl]; exact hz,λp hp=>r p _ vs (s1.free hp) (s1.trans (ah.new hp _)) au hl λv hv=>st _ _ _ (ah.new hp _) (pvs v hv)⟩
end
section
variable {te ta tb:TE}{tt:TA}{σ:L2.St}{H:Hp}{Pv:V->Hp->Prop}{n m:Nat}
theorem Pe {i:Int}(st:yZ Pv)(h:WO ta σ H Pv n)(g:∀H',ah H H'->Gv tb σ H' (.int i))(h0:0<=i)(h1:i < n):Gp (cZ (qS K) ta tb) σ H Pv:=
 λR r=>h _ λp H1 vs hp s1 hpl hn pvs=>g H1 s1 _ λH2 s2=>by
  obtain⟨j,rfl⟩:=Int.eq_ofNat_of_zero_le h0
  have hj:j < vs.length:=by omega
  exact⟨p,vs,_,vs[j],rfl,rfl,aE.of (s2 _ _ hpl),cu (List.getElem?_eq_getElem hj),r _ H2 (s1.trans s2) (st _ _ _ s2 (pvs _ (List.getElem_mem hj)))⟩
end
section
variable {te ta tb:TE}{tt:TA}{σ:L2.St}{H:Hp}{Pv:V->Hp->Prop}{n m:Nat}
theorem Cw {H:Hp}:∀ws:List Str,aD K H (ws.map Dt.str) (ws.map V.str)
 | []=>by show aD K H [] []; unfold aD; rfl
 | x::ws=>by
  show aD K H (Dt.str x::ws.map Dt.str) (V.str x::ws.map V.str)
  unfold aD
  exact⟨_,_,rfl,by unfold Rep; rfl,Cw ws⟩
end
section
variable {te ta tb:TE}{tt:TA}{σ:L2.St}{H:Hp}{Pv:V->Hp->Prop}{n m:Nat}
theorem FJ {a:Addr}{ws:List Str}(h:H a=some (.lst (ws.map V.str))):Rep K H (.lst (ws.map Dt.str)) (.ref a):=by
 unfold Rep
 exact⟨a,_,rfl,aE.of h,Cw ws⟩
end
section
variable {te ta tb:TE}{tt:TA}{σ:L2.St}{H:Hp}{Pv:V->Hp->Prop}{n m:Nat}
theorem FL:∀ws:List Str,Dt.deps (ws.map Dt.str)=0
 | []=>rfl
 | x::ws=>by
  show max 0 (Dt.deps (ws.map Dt.str))=0
  rw[FL ws]; rfl
end
section
variable {te ta tb:TE}{tt:TA}{σ:L2.St}{H:Hp}{Pv:V->Hp->Prop}{n m:Nat}
theorem Ay {ws:List Str}(h:Gn ta σ H (ws.map V.str))(g:∀H',ah H H'->Gn tb σ H' (ws.map V.str)):Gv (cZ (λx y H Q=>(∃d:Dt,d.dep<=60/\Rep K H d x/\Rep K H d y/\Q (.bl false) H)\/∃a b xs,x=.ref a/\y=.ref b/\aE K H a xs/\aE K H b []/\Q (.bl (!xs.isEmpty)) H) ta tb) σ H (.bl false):=
 λR r=>h _ λa H1 ha s1 hl1=>g H1 s1 _ λb H2 hb s2 hl2=>.inl ⟨_,(by show Dt.deps (ws.map Dt.str)+1<=60; rw[FL]; decide),FJ (s2 _ _ hl1),FJ hl2,r H2 (s1.trans s2)⟩
end
section
variable {te ta tb:TE}{tt:TA}{σ:L2.St}{H:Hp}{Pv:V->Hp->Prop}{n m:Nat}
def Pb (K:PySem.W.Frag)(v:V)(H:Hp):Prop:=∃b x ts,v=.ref b/\j7 K H b x ts/\p_ x ts/\b9 x ts=false
end
section
variable {te ta tb:TE}{tt:TA}{σ:L2.St}{H:Hp}{Pv:V->Hp->Prop}{n m:Nat}
theorem o7:yZ (Pb K):=λv H H' s h=>by
 obtain⟨b,x,ts,e,q,z⟩:=h
 exact⟨b,x,ts,e,q.same s,z⟩
end
section
variable {te ta tb:TE}{tt:TA}{σ:L2.St}{H:Hp}{Pv:V->Hp->Prop}{n m:Nat}
theorem Uk {i:Int}{a:Addr}{vs:List V}(st:yZ Pv)(h:Gv ta σ H (.ref a))(hl:aE K H a vs)(hn:vs.length=n)(pvs:∀v∈vs,Pv v H)(g:∀H',ah H H'->Gv tb σ H' (.int i))(h0:0<=i)(h1:i < n):Gp (cZ (qS K) ta tb) σ H Pv:=
 λR r=>h _ λH1 s1=>g H1 s1 _ λH2 s2=>by
  obtain⟨j,rfl⟩:=Int.eq_ofNat_of_zero_le h0
  have hj:j < vs.length:=by omega
  exact⟨a,vs,_,vs[j],rfl,rfl,(s1.trans s2).seq hl,cu (List.getElem?_eq_getElem hj),r _ H2 (s1.trans s2) (st _ _ _ (s1.trans s2) (pvs _ (List.getElem_mem hj)))⟩
end
def je (K:PySem.W.Frag)(H:Hp)(L:Addr)(ts:List (List Int)):Prop:=∃ps:List (Addr × List Int),H L=some (.lst (ps.map rv))/\(∀p∈ps,aK K H p.1 (p.2.map V.int))/\ps.map (·.2)=ts
theorem je.same {H H':Hp}{L:Addr}{ts:List (List Int)}(h:je K H L ts)(s:ah H H'):je K H' L ts:=by
 obtain⟨ps,h1,h2,h3⟩:=h
 exact⟨ps,s _ _ h1,λp hp=>s.tup (h2 p hp),h3⟩
theorem je.rep {H:Hp}{L:Addr}{ts:List (List Int)}(h:je K H L ts):Rep K H (.lst (ts.map tupI)) (.ref L):=by
 obtain⟨ps,h1,h2,rfl⟩:=h
 unfold Rep
 exact⟨L,_,rfl,aE.of h1,vN ps h2⟩
section
variable {te:TE}{us:TS}{D:Ends}{σ:L2.St}{H:Hp}{a:Addr}{u v:V}{i j:Nat}{tt:TA}{ns:List Int}{m:Int}
theorem Jy (h:Gv te σ H (.ref a))(hT:aK K H a [u,v])(k:∀H',ah H H'->us D ((σ.set i (some u)).set j (some v)) H'):eK (vj te (DP K 2 (tK (fc i) (tK (fc j) ID)))) us D σ H:=
 h _ λH1 s1=>⟨a,_,rfl,s1.tup hT,rfl,u,_,rfl,v,_,rfl,rfl,k H1 s1⟩
end
theorem Q6 {n:Nat}{t:List Int}(h:sL n t):iR n t=true:=by
 unfold iR
 rw[decide_eq_true h.1,Bool.true_and,List.all_eq_true]
 intro f hf
 have:=h.2 f hf
 rw[decide_eq_true this.1,decide_eq_true this.2]
 rfl
theorem Ig:∀{ts:List (List Int)},ts.Pairwise (λa b=>HT.lexLt a b=true)->nE ts=true
 | [],_=>rfl
 | [a],_=>rfl
 | a::b::r,h=>by
  unfold nE
  rw[List.pairwise_cons] at h
  rw[h.1 b List.mem_cons_self,Ig h.2]
  rfl
theorem Ul {m:Nat}{x:Str}{ts:List (List Int)}(h:Sys m x ts)(hm:m<=16):b9 x ts=true:=by
 have hm':=h.most
 have e1:e_ x=true:=by
  unfold e_
  rw[List.all_eq_true]
  intro c hc
  rcases h.ab c hc with rfl | rfl <;> decide +kernel
 have e2:ts.all (iR x.length)=true:=List.all_eq_true.mpr λt ht=>Q6 (h.ok t ht)
 unfold b9
 rw[decide_eq_true (show x.length<=16 by omega),e1,e2,Ig h.up]
 rfl
theorem Q7 {m:Nat}{x:Str}{ts:List (List Int)}(h:Sys m x ts):ts.length<=51:=by
 have nd:ts.Nodup:=h.up.imp λ{a b} hab z=>by rw[z,lex_irrefl] at hab; cases hab
 have h2:(ts.filter λt=>!gg t).length<=A0.length:=TB.gB (List.Pairwise.filter _ nd) λy hy=>by
  obtain⟨_,b⟩:=List.mem_filter.mp hy
  unfold gg at b
  simpa using b
 have h3:A0.length=12:=rfl
 have h5:=h.few
 rw[List.countP_eq_length_filter] at h5
 have h4:ts.length=(ts.filter gg).length+(ts.filter λt=>!gg t).length:=by
  have:=List.length_eq_countP_add_countP gg (l:=ts)
  rw[List.countP_eq_length_filter,List.countP_eq_length_filter] at this
  have e:(λa=>decide ¬gg a=true)=λt=>!gg t:=by
   funext t
   cases gg t <;> rfl
  rw[e] at this
  exact this
 omega
end
end bJ
set_option maxHeartbeats 2000000
namespace bJ
open PySem PySem.Spec PyProof.Rows L2 j_ TB
section
variable {P:Program}{w:World}{K:PySem.W.Frag}{mg:Str->Option Value}{base:Heap}{t:Ad}
section
variable {te ta tb:TE}{tt:TA}{σ:L2.St}{H:Hp}{n m:Nat}{x:Str}{ts:List (List Int)}{L:Addr}
def LQ (K:PySem.W.Frag)(te:TE)(σ:L2.St)(H:Hp)(ts:List (List Int)):Prop:=∀R:VK,(∀L H',ah H H'->je K H' L ts->R (.ref L) H')->te σ H R
theorem Q8 (h:Gv te σ H (.ref L))(hq:je K H L ts):LQ K te σ H ts:=λR r=>h _ λH' s=>r L H' s (hq.same s)
theorem Q9:LQ K (lK dc) σ H []:=λR r=>⟨(by show 0<=sizeLine; decide),λp hp=>r p _ (ah.new hp _) ⟨[],au,λp hp=>absurd hp (by simp),rfl⟩⟩
theorem NV {tl:List Int}(h:Gv ta σ H (.ref L))(hq:je K H L ts)(g:∀H',ah H H'->Ga tt σ H' (tl.map V.int))(h1:tl.length<=30)(h2:ts.length<=900):LQ K (cZ D5 ta (lK (cE (qR tt) dc))) σ H (ts++[tl]):=λR r=>by
 obtain⟨ps,p1,p2,rfl⟩:=hq
 rw[List.length_map] at h2
 refine h _ λH1 s1=>g H1 s1 _ λH2 s2=>⟨by rw[List.length_map]; exact small (by omega),λc hc=>⟨(by show 1<=sizeLine; decide),λd hd=>?_⟩⟩
 have s4:=(s1.trans s2).trans ((ah.new hc (.tup (tl.map V.int))).trans (ah.new hd (.lst [.ref c])))
 refine⟨L,d,_,_,rfl,rfl,s4 _ _ p1,au,small (by simp; omega),λq hq=>?_⟩
 refine r q _ (s4.trans (ah.new hq _)) ⟨ps++[(c,tl)],by rw[au,List.map_append]; rfl,λp hp=>?_,by rw[List.map_append]; rfl⟩
 rcases List.mem_append.mp hp with z | z
 ·exact (s4.trans (ah.new hq _)).tup (p2 p z)
 ·rw[List.mem_singleton.mp z]
  exact ((ah.new hd _).trans (ah.new hq _)).tup (aK.of au)
theorem Q_ {tl:List Int}(g:Ga tt σ H (tl.map V.int))(h1:tl.length<=30)(hb:∀H',ah H H'->Gv tb σ H' (.int 2)):LQ K (cZ IX (lK (cE (qR tt) dc)) tb) σ H [tl,tl]:=λR r=>by
 refine g _ λH2 s2=>⟨by rw[List.length_map]; exact small (by omega),λc hc=>⟨(by show 1<=sizeLine; decide),λd hd=>?_⟩⟩
 have s4:=s2.trans ((ah.new hc (.tup (tl.map V.int))).trans (ah.new hd (.lst [.ref c])))
 refine hb _ s4 _ λH5 s5=>⟨d,2,[.ref c],rfl,rfl,s5 _ _ au,by decide,by decide,by show 2<=sizeLine; decide,λq hq=>?_⟩
 refine r q _ (s4.trans (s5.trans (ah.new hq _))) ⟨[(c,tl),(c,tl)],by rw[au]; rfl,λp hp=>?_,rfl⟩
 have:p=(c,tl):=by simpa using hp
 rw[this]
 exact ((ah.new hd _).trans (s5.trans (ah.new hq _))).tup (aK.of au)
theorem Az (h:Gv ta σ H (.str x))(g:∀H',ah H H'->LQ K tb σ H' ts)(hM:p_ x ts)(hb:b9 x ts=false):Gp (qR (cE ta (cE tb dc))) σ H (Pb K):=
 λR r=>h _ λH1 s1=>g H1 s1 _ λL H2 s2 hL=>⟨(by show 2<=sizeLine; decide),λq hq=>r _ _ (s1.trans (s2.trans (ah.new hq _))) ⟨q,x,ts,rfl,⟨L,aK.of au,hL.rep.same (ah.new hq _)⟩,hM,hb⟩⟩
def Pp (v:V)(H:Hp):Prop:=∃b p,v=.ref b/\H b=some (.lst (p.map V.str))/\Sm p/\iQ p=false
theorem o8:yZ Pp:=λv H H' s h=>by
 obtain⟨b,p,e,q,z⟩:=h
 exact⟨b,p,e,s _ _ q,z⟩
theorem AA {p:List Str}(h:Gn te σ H (p.map V.str))(hS:Sm p)(hp:iQ p=false):Gp te σ H Pp:=λR r=>h _ λq H' hq s hl=>r _ H' s ⟨q,p,rfl,hl,hS,hp⟩
def Ph (v:V)(_:Hp):Prop:=∃k:Int,v=.int k/\(k=0\/k=5\/k=-1)
theorem sX:yZ Ph:=λv H H' s h=>h
theorem NW {k:Int}(h:Gv te σ H (.int k))(hk:k=0\/k=5\/k=-1):Gp te σ H Ph:=Vr h λ_ _=>⟨k,rfl,hk⟩
end
theorem Ih {ix:List (Option Nat)}{g:TG}{tf:TT}{te:TE}{tt:TA}{σ:L2.St}{H:Hp}{R:VK}{xs:List V}(h:Ga tt σ H xs)(hz:xs.length<=sizeLine)(k:∀a H',ah H H'->aK K H' a xs->ee (zl K a) ix g tf te σ H' λD' H2=>R (.ref D') H2):oQ (vn K (qR tt)) ix g tf te σ H R:=
 h _ λH1 s1=>⟨hz,λp hp=>⟨p,rfl,⟨_,aK.of au⟩,k p _ (s1.trans (ah.new hp _)) (aK.of au)⟩⟩
theorem Vs {x:Str}{ts:List (List Int)}:b9 (x++"e") ts=false:=by
 have e:e_ (x++"e")=false:=by
  unfold e_
  rw[List.all_eq_false]
  refine⟨101,?_,by decide +kernel⟩
  show 101∈(x.cps++(Str.cps "e")).toList
  rw[Array.toList_append]
  exact List.mem_append_right _ (by decide +kernel)
 unfold b9
 rw[e,Bool.and_false,Bool.false_and]
theorem NX {x:Str}{ts:List (List Int)}:b9 x (ts++[[(x.length:Int),0,0,0]])=false:=by
 have e:(ts++[[(x.length:Int),0,0,0]]).all (iR x.length)=false:=by
  rw[List.all_append]
  have:iR x.length [(x.length:Int),0,0,0]=false:=by
   unfold iR
   simp
  rw[List.all_cons,this,Bool.false_and,Bool.and_false]
 unfold b9
 rw[e,Bool.false_and,Bool.and_false]
theorem Ra {x:Str}:b9 x [[0,0,0,0],[0,0,0,0]]=false:=by
 have e:nE [[0,0,0,0],[0,0,0,0]]=false:=by decide +kernel
 unfold b9
 rw[e,Bool.and_false,Bool.and_false]
def AB (K:PySem.W.Frag):Sp:=λvs H Q _=>∃(a:Addr) (ns:List Int),vs=[.ref a]/\aE K H a (ns.map V.int)/\ns.length<=63/\∀H',Q (.bl true) H'
theorem kR:aI ["_law_script","_law_system_here","_law_letters","_law_tiles_here","_law_many","_law_bad","_law_picture","_law_high","_law_bare"] ["_law_script"] (aC oU):=⟨rfl,rfl,rfl,by decide +kernel,rfl,by decide +kernel,by decide +kernel⟩
theorem Um (T:Txt K mg t):aA P w K mg base aZ 13 t.zP t.tX ["_law_script"] (AB K):=by
 have dz:aA P w K mg base aZ 2 t.oV t.j0 ["_law_script","_law_k"] (zX K):=xT T
 have C_:aA P w K mg base aZ 4 t.oq t.i_ ["_law_script","_law_k","_law_marks"] (Cm K):=A3 T
 have kT:aA P w K mg base aZ 12 t.qZ t.kP ["_law_way","_law_system_here","_law_other","_law_picture","_law_high"] (Br K t):=FG T
 refine T.law.fn.ok kR (λvs H Q E h=>?_) (λcdv A outer s H vs Q E hr h=>?_)
 ·obtain⟨a,ns,rfl,_⟩:=h
  rfl
 obtain⟨a,ns,rfl,hS,hl,kk⟩:=h
 refine⟨_,(Jx.get (d_ (uK.mk (aP (i:=1) kR.nd rfl (by first | exact Or.inl rfl | exact Or.inr rfl) (aB T._law_system C_ (hr.mono (by first | decide | omega)) aQ (aa (pv 0) (aa aq (aa aq ai)))))) (d_ (uK.mk (RG (pv 1) (oR K (n:=2) (cj (aL (i:=2) kR.nd rfl (by first | exact Or.inl rfl | exact Or.inr rfl)) (cj (aL (i:=3) kR.nd rfl (by first | exact Or.inl rfl | exact Or.inr rfl)) jW))))) (d_ (uK.mk (aP (i:=4) kR.nd rfl (by first | exact Or.inl rfl | exact Or.inr rfl) (bq (k_ K) (by rfl) T.iP boot_len (aa (pv 2) ai)))) (d_ (xq (i:=5) kR.nd rfl (by first | exact Or.inl rfl | exact Or.inr rfl) (nW (cB (Ax (cB (jo.mk (aH zo (pv 2) cg)) (cB (jo.mk (pv 3)) ja))) (cB (Ax (cB (jo.mk (pv 2)) (cB (jo.mk (aH pC (pv 3) (aY (aa (dO (aa (pv 4) (aa aq (aa aq (aa aq ai))))) ai)))) ja))) (cB (Ax (cB (jo.mk (pv 2)) (cB (jo.mk (aH lN (aY (aa (dO (aa aq (aa aq (aa aq (aa aq ai))))) ai)) aq)) ja))) (cB (Ax (cB (jo.mk (aH Ic cg aq)) (cB (nW ja) ja))) ja)))))) (d_ (xq (i:=5) kR.nd rfl (by first | exact Or.inl rfl | exact Or.inr rfl) (jo.mk (bT (fu K) (pv 5) (aH eO (aB T._law_mix dz (hr.mono (by first | decide | omega)) aQ (aa (pv 0) (aa aq ai))) aq) (λ_ _=>rfl)))) (d_ (xq (i:=6) kR.nd rfl (by first | exact Or.inl rfl | exact Or.inr rfl) (Pa (fu K) (nW (cB (nW (cB (jo.mk cg) (cB (jo.mk cg) ja))) (cB (nW ja) (cB (nW (cB (jo.mk cg) ja)) (cB (nW (cB (jo.mk (aH Ic cg aq)) ja)) ja))))) (jo.mk (aH eO (aB T._law_mix dz (hr.mono (by first | decide | omega)) aQ (aa (pv 0) (aa aq ai))) aq)) (λ_ _=>rfl))) (d_ (xq (i:=7) kR.nd rfl (by first | exact Or.inl rfl | exact Or.inr rfl) (Pa (fu K) (nW (cB (jo.mk aq) (cB (jo.mk aq) (cB (jo.mk (qB nJ aq)) ja)))) (jo.mk (aH eO (aB T._law_mix dz (hr.mono (by first | decide | omega)) aQ (aa (pv 0) (aa aq ai))) aq)) (λ_ _=>rfl))) (d_ (uK.mk (bY (bK (AO K hr.units) (cN (N':=["_law_way","_law_bad","_law_system_here","_law_picture","_law_high"]) (ix:=[none,some 5,some 1,some 6,some 7]) (aT (by kernel_rfl)) rfl (eL rfl T.fm (aa aq ai)) (λ_ _ _ _=>(aL (i:=0) (show List.Nodup (["_law_way","_law_bad","_law_system_here","_law_picture","_law_high"]:List Str) from by decide +kernel) rfl (by first | exact Or.inl rfl | exact Or.inr rfl))) (λ_ _ _ _=>fF) (λ_ _ _ _=>(aB T._law_told kT (hr.mono (by first | decide | omega)) aQ (aa (pv 0) (aa (pv 1) (aa (pv 2) (aa (pv 3) (aa (pv 4) ai)))))))) (aH lN (aY (aa cg ai)) aq) (bN _)) (av (aO nj)) bF)) (d_ (uK.mk (bY (bK (AO K hr.units) (cN (N':=["_law_way","_law_system_here","_law_bad","_law_picture","_law_high"]) (ix:=[none,some 1,some 5,some 6,some 7]) (aT (by kernel_rfl)) rfl (w6 K (dO (aa aq (aa aq (aa aq ai))))) (λ_ _ _ _=>(aL (i:=0) (show List.Nodup (["_law_way","_law_system_here","_law_bad","_law_picture","_law_high"]:List Str) from by decide +kernel) rfl (by first | exact Or.inl rfl | exact Or.inr rfl))) (λ_ _ _ _=>fF) (λ_ _ _ _=>(aB T._law_told kT (hr.mono (by first | decide | omega)) aQ (aa (pv 0) (aa (pv 1) (aa (pv 2) (aa (pv 3) (aa (pv 4) ai)))))))) (aH lN (aY (aa cg ai)) aq) (bN _)) (av (aO nj)) bF)) (d_ (uK.mk (bY (bK (AO K hr.units) (cN (N':=["_law_way","_law_system_here","_law_picture"]) (ix:=[none,some 1,some 6]) (aT (by kernel_rfl)) rfl (eL rfl T.fm (aa aq ai)) (λ_ _ _ _=>(aL (i:=0) (show List.Nodup (["_law_way","_law_system_here","_law_picture"]:List Str) from by decide +kernel) rfl (by first | exact Or.inl rfl | exact Or.inr rfl))) (λ_ _ _ _=>fF) (λ_ _ _ _=>(aB T._law_told kT (hr.mono (by first | decide | omega)) aQ (aa (pv 0) (aa (pv 1) (aa (pv 1) (aa (pv 2) (aa aq ai)))))))) (aH lN (aY (aa cg ai)) aq) (bN _)) (av (aO nj)) bF)) (d_ (uK.mk (bY (bK (AO K hr.units) (cN (N':=["_law_way","_law_system_here","_law_high"]) (ix:=[none,some 1,some 7]) (aT (by kernel_rfl)) rfl (w6 K (dO (aa aq (aa aq (aa aq (aa aq (aa aq (aa aq ai)))))))) (λ_ _ _ _=>(aL (i:=0) (show List.Nodup (["_law_way","_law_system_here","_law_high"]:List Str) from by decide +kernel) rfl (by first | exact Or.inl rfl | exact Or.inr rfl))) (λ_ _ _ _=>fF) (λ_ _ _ _=>(aB T._law_told kT (hr.mono (by first | decide | omega)) aQ (aa (pv 0) (aa (pv 1) (aa (pv 1) (aa (aY (aa cg ai)) (aa (pv 2) ai)))))))) (aH lN (aY (aa cg ai)) aq) (bN _)) (av (aO nj)) bF)) (d_ (uK.mk (aP (i:=8) kR.nd rfl (by first | exact Or.inl rfl | exact Or.inr rfl) (dO (aa (pv 2) (aa (aY ai) ai))))) (NU (uK.mk (aO (oZ gD (aB T._law_told kT (hr.mono (by first | decide | omega)) aQ (aa aq (aa (pv 8) (aa (pv 8) (aa (aY (aa cg ai)) (aa (pv 7) ai)))))) (bT (fu K) (aY (aa cg (aa cg ai))) (lD J_ (by rfl) T.Vf boot_int (aa (oZ gD (pv 7) aq (bN _)) ai)) (λ_ _=>rfl)) (bN _)))))))))))))))))),?_⟩
 refine bh (bB (ao (af (by rfl)) λ_ _=>ao ay λ_ _=>az ay) λH1 s1=>⟨a,ns,0,3,rfl,s1.seq hS,hl,by decide,by decide,λr T0 H2 x ts ws hr' hT' s2 hr2 hT2 rep hSys=>?_⟩)
 have s02:=s1.trans s2
 obtain⟨ps,rfl,Jm,hps3⟩:=vM rep
 subst Jm
 have LR:je K H2 T0 (ps.map (·.2)):=⟨ps,hT2,hps3,rfl⟩
 have hB:b9 x (ps.map (·.2))=true:=Ul hSys (by decide)
 have hx3:x.length<=3:=hSys.most
 have hfew:=Q7 hSys
 have hM:p_ x (ps.map (·.2)):=⟨by omega,by omega,λt ht=>by have:=(hSys.ok t ht).1; omega⟩
 have hA2:j7 K H2 r x (ps.map (·.2)):=⟨T0,aK.of hr2,LR.rep⟩
 have rL:=s02.seq hS
 refine Jy (K:=K) (af (by rfl)) (aK.of hr2) λH3 s3=>?_
 refine gE (rW (K:=K) (az (af (by rfl))) (small (by omega))) λH4 s4=>?_
 have WQ:=s3.trans s4
 have hmx:∀k:Int,0<=mix ns k % 4/\mix ns k % 4 < 4:=λk=>⟨Int.emod_nonneg _ (by decide),Int.emod_lt_of_pos _ (by decide)⟩
 have tiles4:=LR.same WQ
 have l4:∀u∈ps.map (·.2),u.length<=30:=λu hu=>by have:=(hSys.ok u hu).1; omega
 refine bh (Bv (n:=4) (o7 (K:=K)) (gm o7 (Az (K:=K) (x:=x++"e") (ts:=ps.map (·.2)) (Qp (af (by rfl)) (λ_ _=>ay) (small (by show x.length+1<=1000; omega))) (λH' s'=>Q8 (af (by rfl)) (tiles4.same s')) ?m1 Vs) λH5 s5=>
   gm o7 (Az (K:=K) (x:=x) (ts:=ps.map (·.2)++[[(x.length:Int),0,0,0]]) (af (by rfl)) (λH' s'=>NV (af (by rfl)) (tiles4.same (s5.trans s')) (λ_ _=>ao (af (by rfl)) λ_ _=>ao ay λ_ _=>ao ay λ_ _=>az ay) (by simp) (by omega)) ?m2 NX) λH6 s6=>
   gm o7 (Az (K:=K) (x:=x) (ts:=[[0,0,0,0],[0,0,0,0]]) (af (by rfl)) (λH' s'=>Q_ (ao ay λ_ _=>ao ay λ_ _=>ao ay λ_ _=>az ay) (by simp) λ_ _=>ay) ⟨by omega,by decide,by decide⟩ Ra) λH7 s7=>
   gm o7 (Az (K:=K) (x:=oz ⟨#[97]⟩ 17) (ts:=[]) (Ie ay (λ_ _=>ay) (by decide) (by decide)) (λH' s'=>Q9) ⟨by rw[FI]; decide,by decide,λt ht=>absurd ht (by simp)⟩ (by decide +kernel)) λ_ _=>Bu) (by show 4<=sizeLine; decide) _ λbl H5 vs hbl s5 XM hn pvs=>?_)
 case m1=>
  have e:(x++"e":Str).length=x.length+1:=strLen_append x "e"
  exact⟨by rw[e]; omega,by omega,l4⟩
 case m2=>exact⟨by omega,by simp at hfew ⊢; omega,λu hu=>by
   rcases List.mem_append.mp hu with z | z
   ·exact l4 u z
   ·rw[List.mem_singleton.mp z]; show 4<=30; decide⟩
 have s25:=WQ.trans s5
 refine bh (Uk (K:=K) (n:=4) (o7 (K:=K)) (af (by rfl)) (aE.of XM) hn pvs (λH6 s6=>bS (jU rL hl (s25.trans s6) (ao (af (by rfl)) λ_ _=>az ay)) (λ_ _=>ay) (by decide)) (hmx 200).1 (hmx 200).2 _ λv H6 s6 pv=>?_)
 obtain⟨bad,xb,tb,rfl,hbad,WR,Pf⟩:=pv
 have s26:=s25.trans s6
 refine bh (Pe (K:=K) (n:=4) (i:=mix ns 201 % 4) o8 (Bv o8 (gm o8 (AA (p:=["ab","a"]) (dg (ao ay λ_ _=>az ay) (by show 2<=sizeLine; decide)) ⟨by decide,by decide +kernel⟩ (by decide +kernel)) λH7 s7=>
   gm o8 (AA (p:=[]) (dg El (by show 0<=sizeLine; decide)) ⟨by decide,by simp⟩ (by decide +kernel)) λH8 s8=>
   gm o8 (AA (p:=["e"]) (dg (az ay) (by show 1<=sizeLine; decide)) ⟨by decide,by decide +kernel⟩ (by decide +kernel)) λH9 s9=>
   gm o8 (AA (p:=[oz ⟨#[97]⟩ 13]) (dg (az (Ie ay (λ_ _=>ay) (by decide) (by decide))) (by show 1<=sizeLine; decide)) ⟨by decide,by decide +kernel⟩ (by decide +kernel)) λ_ _=>Bu) (by show 4<=sizeLine; decide))
  (λH7 s7=>bS (jU rL hl (s26.trans s7) (ao (af (by rfl)) λ_ _=>az ay)) (λ_ _=>ay) (by decide)) (hmx 201).1 (hmx 201).2 _ λv H7 s7 pv=>?_)
 obtain⟨pb,p,rfl,hpb,Uo,XN⟩:=pv
 have s27:=s26.trans s7
 refine bh (Pe (K:=K) (n:=3) (i:=mix ns 202 % 3) sX (Bv sX (gm sX (NW (k:=0) ay (.inl rfl)) λH8 s8=>gm sX (NW (k:=5) ay (.inr (.inl rfl))) λH9 s9=>gm sX (NW (k:=-1) (zL ay) (.inr (.inr rfl))) λ_ _=>Bu) (by show 3<=sizeLine; decide))
  (λH8 s8=>bS (jU rL hl (s27.trans s8) (ao (af (by rfl)) λ_ _=>az ay)) (λ_ _=>ay) (by decide)) (Int.emod_nonneg _ (by decide)) (Int.emod_lt_of_pos _ (by decide)) _ λv H8 s8 pv=>?_)
 obtain⟨k,rfl,hk⟩:=pv
 have hk':uJ k=false:=by rcases hk with rfl | rfl | rfl <;> decide
 have s28:=s27.trans s8
 have hA8:=hA2.same s28
 have hb8:=hbad.same (s7.trans s8)
 have Uq:=s8 _ _ hpb
 have told:∀{Hx:Hp} {n:Nat} {a1 a2 ap:Addr} {x1 x2:Str} {t1 t2:List (List Int)} {q:List Str} {Hq:Int} {wd:Str} {vs:List V} {R:VK} {WS:XK},vs=[.int n,.ref a1,.ref a2,.ref ap,.int Hq]->j7 K Hx a1 x1 t1->p_ x1 t1->j7 K Hx a2 x2 t2->p_ x2 t2->aE K Hx ap (q.map V.str)->Sm q->n < 11->Rf n (b9 x1 t1) (b9 x2 t2) (iQ q) Hq->sW n (b9 x1 t1) (b9 x2 t2)=wd->(∀H',ah Hx H'->R (.str wd) H')->Br K t vs Hx R WS:=λg0 g1 g2 g3 g4 g5 g6 g7 g8 g9 g10=>⟨_,_,_,_,_,_,_,_,_,g0,g7,g1,g2,g3,g4,.inl ⟨_,g5,g6,g8,by rw[g9]; exact g10⟩⟩
 refine gq (b:=false) (cz (Ay (K:=K) (ws:=List.replicate 11 "system") (λR r=>?_) λH9 s9=>zK (pZ (k:=11) (dg (xs:=[.str "system"]) (az ay) (by show 1<=sizeLine; decide)) (λ_ _=>ay) (by decide) (by decide)) rfl)) (λz=>absurd z (by decide)) λ_ H9 s9=>?_
 ·refine vI (az ay) (by decide) (by decide) λHA sA=>?_
  refine fP (λi=>.str "system") (by show 11<=sizeLine; decide) (λi HB RB hi sB kB=>?_) λD HB hD sB bC=>r D HB (sA.free hD) (sA.trans sB) bC
  have sx:=sA.trans sB
  exact nu (fh (ao (af (by rfl)) λ_ _=>ao (af (by rfl)) λ_ _=>ao (af (by rfl)) λ_ _=>ao (af (by rfl)) λ_ _=>az (af (by rfl))) λHC RC sC kC=>told (n:=i) (Hq:=k) (by simp) (hb8.same (sx.trans sC)) WR (hA8.same (sx.trans sC)) hM (aE.of ((sx.trans sC) _ _ Uq)) Uo hi
   (by rw[Pf]; exact⟨λz=>absurd z (by decide),λz=>absurd z (by decide),λz=>absurd z (by decide),λz=>absurd z (by decide)⟩) (by unfold sW; rw[if_pos Pf]) kC) λHC sC=>kB HC sC
 refine gq (b:=false) (cz (Ay (K:=K) (ws:=List.replicate 3 "system") (λR r=>?_) λH10 gY=>zK (pZ (k:=3) (dg (xs:=[.str "system"]) (az ay) (by show 1<=sizeLine; decide)) (λ_ _=>ay) (by decide) (by decide)) rfl)) (λz=>absurd z (by decide)) λ_ H10 gY=>?_
 ·refine Ih (K:=K) (xs:=[.int 8,.int 9,.int 10]) (ao ay λ_ _=>ao ay λ_ _=>az ay) (by show 3<=sizeLine; decide) λtp HA sA hq=>?_
  refine pI (K:=K) (λ_=>.str "system") hq (by show 3<=sizeLine; decide) (λi v HB RB hv sB kB=>?_) λD HB hD sB bC=>r D HB (sA.free hD) (sA.trans sB) bC
  obtain⟨n,rfl,hn8,XO⟩:∃n:Nat,v=.int n/\8<=n/\n < 11:=by
   have:=List.mem_of_getElem? hv
   simp only [List.mem_cons,List.not_mem_nil,or_false] at this
   rcases this with rfl | rfl | rfl
   ·exact⟨8,rfl,by decide,by decide⟩
   ·exact⟨9,rfl,by decide,by decide⟩
   ·exact⟨10,rfl,by decide,by decide⟩
  have sx:=s9.trans (sA.trans sB)
  exact nu (fh (ao (af (by rfl)) λ_ _=>ao (af (by rfl)) λ_ _=>ao (af (by rfl)) λ_ _=>ao (af (by rfl)) λ_ _=>az (af (by rfl))) λHC RC sC kC=>told (n:=n) rfl (hA8.same (sx.trans sC)) hM (hb8.same (sx.trans sC)) WR (aE.of ((sx.trans sC) _ _ Uq)) Uo XO
   (by rw[Pf]; exact⟨λ_ z=>absurd z (by omega),λ_ _ z=>absurd z (by omega),λ_=>by omega,λ_ z=>absurd z (by decide)⟩) (by unfold sW; rw[if_neg (by rw[hB]; decide),if_neg (by omega),if_neg (by omega),if_pos Pf]) kC) λHC sC=>kB HC sC
 have Bj:=s9.trans gY
 refine gq (b:=false) (cz (Ay (K:=K) (ws:=List.replicate 3 "picture") (λR r=>?_) λH11 Ks=>zK (pZ (k:=3) (dg (xs:=[.str "picture"]) (az ay) (by show 1<=sizeLine; decide)) (λ_ _=>ay) (by decide) (by decide)) rfl)) (λz=>absurd z (by decide)) λ_ H11 Ks=>?_
 ·refine vI (az ay) (by decide) (by decide) λHA sA=>?_
  refine fP (λi=>.str "picture") (by show 3<=sizeLine; decide) (λi HB RB hi sB kB=>?_) λD HB hD sB bC=>r D HB (sA.free hD) (sA.trans sB) bC
  have sx:=Bj.trans (sA.trans sB)
  exact nu (fh (ao (af (by rfl)) λ_ _=>ao (af (by rfl)) λ_ _=>ao (af (by rfl)) λ_ _=>ao (af (by rfl)) λ_ _=>az ay) λHC RC sC kC=>told (n:=i) (Hq:=1) (by simp) (hA8.same (sx.trans sC)) hM (hA8.same (sx.trans sC)) hM (aE.of ((sx.trans sC) _ _ Uq)) Uo (show i < 11 by have:i < 3:=hi; omega)
   ⟨λ_ _=>XN,λ_ z=>absurd z (by have:i < 3:=hi; omega),λ_=>by have:i < 3:=hi; omega,λ_ _ z=>absurd z (by have:i < 3:=hi; omega)⟩ (by unfold sW; rw[if_neg (by rw[hB]; decide),if_pos (show i < 3 from hi)]) kC) λHC sC=>kB HC sC
 have Ur:=Bj.trans Ks
 refine gq (b:=false) (cz (Ay (K:=K) (ws:=List.replicate 6 "size") (λR r=>?_) λHP s12=>zK (pZ (k:=6) (dg (xs:=[.str "size"]) (az ay) (by show 1<=sizeLine; decide)) (λ_ _=>ay) (by decide) (by decide)) rfl)) (λz=>absurd z (by decide)) λ_ HP s12=>?_
 ·refine Ih (K:=K) (xs:=[.int 3,.int 4,.int 5,.int 6,.int 8,.int 9]) (ao ay λ_ _=>ao ay λ_ _=>ao ay λ_ _=>ao ay λ_ _=>ao ay λ_ _=>az ay) (by show 6<=sizeLine; decide) λtp HA sA hq=>?_
  refine pI (K:=K) (λ_=>.str "size") hq (by show 6<=sizeLine; decide) (λi v HB RB hv sB kB=>?_) λD HB hD sB bC=>r D HB (sA.free hD) (sA.trans sB) bC
  obtain⟨n,rfl,hn3,hn7,XQ⟩:∃n:Nat,v=.int n/\3<=n/\n≠7/\n < 10:=by
   have:=List.mem_of_getElem? hv
   simp only [List.mem_cons,List.not_mem_nil,or_false] at this
   rcases this with rfl | rfl | rfl | rfl | rfl | rfl
   ·exact⟨3,rfl,by decide,by decide,by decide⟩
   ·exact⟨4,rfl,by decide,by decide,by decide⟩
   ·exact⟨5,rfl,by decide,by decide,by decide⟩
   ·exact⟨6,rfl,by decide,by decide,by decide⟩
   ·exact⟨8,rfl,by decide,by decide,by decide⟩
   ·exact⟨9,rfl,by decide,by decide,by decide⟩
  have sx:=Ur.trans (sA.trans sB)
  refine nR (cR (af (by rfl)) λHC sC=>cR (af (by rfl)) λHD sD=>cR (af (by rfl)) λHE sE=>qi (nA (dg (xs:=[.str "a"]) (az ay) (by show 1<=sizeLine; decide)) λlp HF hlp sF Us=>cR (af (by rfl)) λHG sG=>?_))
  have Cy:=sC.trans (sD.trans (sE.trans (sF.trans sG)))
  exact told (n:=n) (q:=["a"]) (WS:=λ_ _ _=>False) rfl (hA8.same (sx.trans Cy)) hM (hA8.same (sx.trans Cy)) hM (aE.of (sG _ _ Us)) ⟨by decide,by decide +kernel⟩ (by omega)
   ⟨λ_ z=>absurd z (by omega),λ_ _ _=>hk',λ_=>hn7,λ_ _ _=>⟨XQ,hk'⟩⟩ (by
    unfold sW
    rw[if_neg (by rw[hB]; decide),if_neg (by omega)]
    by_cases c:n < 8
    ·rw[if_pos c]
    ·rw[if_neg c,if_neg (by rw[hB]; decide)]) λHH sH=>kB HH (Cy.trans sH)
 have acN:=Ur.trans s12
 refine bh (qi ((af (v:=.str x) (by rfl)) _ λHA sA=>sO ⟨(by show 0<=sizeLine; decide),λl hl=>⟨(by show 2<=sizeLine; decide),λbr hbr=>?_⟩⟩))
 have Ut:aK K (upd (upd HA l (.lst [])) br (.tup [.str x,.ref l])) br [.str x,.ref l]:=aK.of au
 have Uu:upd (upd HA l (.lst [])) br (.tup [.str x,.ref l]) l=some (.lst []):=(ah.new hbr _) _ _ au
 generalize upd (upd HA l (.lst [])) br (.tup [.str x,.ref l])=HB at *
 have WT:b9 x []=true:=by
  have:=hB
  unfold b9 at this ⊢
  rw[Bool.and_eq_true] at this
  rw[this.1]
  rfl
 have WU:p_ x []:=⟨by omega,by decide,λt ht=>absurd ht (by simp)⟩
 have tl0:je K HB l []:=⟨[],Uu,λp hp=>absurd hp (by simp),rfl⟩
 have eqn:∀{σ:L2.St} {Hx:Hp},σ[7]?=some (some (V.int k))->Gv (rR (λxs H Q=>(∃i,xs=[.int i]/\Q (.int i) H)\/∃k,xs=[.bl k]/\Q (.int (if k then 1 else 0)) H) (cE (cZ BO (eG 7) (tC (.int 5))) dc)) σ Hx (.int (if k=5 then 1 else 0)):=λ{σ Hx} e R r=>(az (ku (af e) (λ_ _=>ay) (by rfl))) _ λH' s=>.inr ⟨_,rfl,by
  have e2:(if decide (V.int k=V.int 5) then (1:Int) else 0)=if k=5 then 1 else 0:=by
   by_cases c:k=5
   ·rw[c]; rfl
   ·have:¬ V.int k=V.int 5:=λz=>c (by injection z)
    rw[decide_eq_false this,if_neg c]; rfl
  rw[e2]
  exact r H' s⟩
 have fin:∀{σ:L2.St} {Hx:Hp} {D:Ends} {wd:Str},σ[7]?=some (some (V.int k))->wd=(if k=5 then "size" else "ok")->(∀H',D.rt (.bl true) H')->(cZ (qS K) (lK (cE (tC (.str "ok")) (cE (tC (.str "size")) dc))) (rR (λxs H Q=>(∃i,xs=[.int i]/\Q (.int i) H)\/∃k,xs=[.bl k]/\Q (.int (if k then 1 else 0)) H) (cE (cZ BO (eG 7) (tC (.int 5))) dc))) σ Hx λy H2=>BO (.str wd) y H2 D.rt:=λ{σ Hx D wd} e ew kr=>by
  refine (En (K:=K) (v:=.str wd) (xs:=[.str "ok",.str "size"]) (dg (ao ay λ_ _=>az ay) (by show 2<=sizeLine; decide)) (λ_ _=>eqn e) ?_) _ λH2 s2=>⟨rfl,?_⟩
  ·rw[ew]
   by_cases c:k=5
   ·rw[if_pos c,if_pos c]; rfl
   ·rw[if_neg c,if_neg c]; rfl
  ·rw[decide_eq_true rfl]
   exact kr H2
 refine cI (nR (cR ay λHC sC=>cR (af (by rfl)) λHD sD=>cR (af (by rfl)) λHE sE=>qi (nA (dg (xs:=[.str "a"]) (az ay) (by show 1<=sizeLine; decide)) λlp HF hlp sF Us=>cR (af (by rfl)) λHG sG=>?_)))
 have Cy:=sC.trans (sD.trans (sE.trans (sF.trans sG)))
 have Ds:j7 K HG br x []:=⟨l,Cy.tup Ut,(tl0.same Cy).rep⟩
 have WV:Aq K HG br x:=⟨l,Cy.tup Ut,Cy _ _ Uu⟩
 refine⟨10,br,br,lp,k,x,x,[],[],rfl,by decide,Ds,WU,Ds,WU,.inr ⟨rfl,WT,WT,⟨x,x,WV,WV,by omega,by omega⟩,?_⟩⟩
 rcases hk with rfl | rfl | rfl
 ·exact .inr ⟨by decide,by decide,λH'=>fin rfl rfl kk⟩
 ·exact .inl ⟨rfl,λH'=>fin rfl rfl kk⟩
 ·exact .inr ⟨by decide,by decide,λH'=>fin rfl rfl kk⟩
end
end bJ
namespace L2
open PySem PySem.Spec PyProof.Rows PySem.W
def y9 (K:Frag)(f:Addr):Option FuncData:=match K.lookup f with
 | some ⟨_,_,.func fd,_⟩=>some fd
 | _=>none
def Uv (K:Frag)(q:Str)(f:Addr):Bool:=(match y9 K f with
 | some fd=>codeIn K fd.code q
 | none=>false)&&keepIn K (.ref f)
def core (d:FuncData):=(d.name,d.qualname,d.params,d.body,d.scope,d.globals,d.closure,d.defaults,d.builtins)
def NY:Option (Option Value)->Addr
 | some (some (.ref f))=>f
 | _=>0
def ak (K:Frag)(n:Str):Addr:=NY (nsIn K mainGlobals n)
def dm (K:Frag)(C:Addr)(n:Str):Addr:=NY (findIn K (.ref C) n)
abbrev Uw (K:Frag) (n q:Str) (st:Stmt) (f:Addr):Prop:=((y9 K f).map core,Uv K q f)=(some (n,q,gw st,FuncBody.stmts (ff st),aC st,mainGlobals,[],.none,builtinsNs),true)
abbrev CN (K:Frag) (n:Str):Prop:=nsIn K mainGlobals n=some (some (.ref (ak K n)))
abbrev NF (K:Frag) (n:Str) (st:Stmt):Prop:=CN K n/\Uw K n n st (ak K n)
abbrev MF (K:Frag) (C:Addr) (n q:Str) (st:Stmt):Prop:=(findIn K (.ref C) n,isFn K (.ref (dm K C n)))=(some (some (.ref (dm K C n))),true)/\Uw K n q st (dm K C n)
section
variable {K:Frag}{n q:Str}{st:Stmt}{f C:Addr}
theorem Ii (h:Uw K n q st f):∃d,nL K n q st f d:=by
 obtain⟨e,b⟩:=Prod.mk.inj h
 unfold Uv at b
 obtain⟨b1,b2⟩:=Bool.and_eq_true_iff.mp b
 cases z:K.lookup f with
 | none=>rw[y9,z] at e; cases e
 | some o=>
  obtain⟨oc,od,dat,sl⟩:=o
  cases dat with
  | func d=>
   have ed:y9 K f=some d:=by unfold y9; rw[z]
   rw[ed] at e b1
   obtain⟨n1,q1,p1,y1,s1,g1,c1,d1,k1,dc1,pm1,a1,cd1,ct1,bl1⟩:=d
   have e':=Option.some.inj e
   unfold core at e'
   simp only [Prod.mk.injEq] at e'
   obtain⟨rfl,rfl,rfl,rfl,rfl,rfl,rfl,rfl,rfl⟩:=e'
   exact⟨_,Sa z b1 b2⟩
  | _=>rw[y9,z] at e; cases e
theorem bA (h:NF K n st):∃d,nL K n n st (ak K n) d:=Ii h.2
theorem ez (h:MF K C n q st):∃d,nL K n q st (dm K C n) d/\Meth K C n (dm K C n):=by
 obtain⟨d,F⟩:=Ii h.2
 obtain⟨e,b⟩:=Prod.mk.inj h.1
 exact⟨d,F,e,b,F.kp⟩
end
abbrev CV (K:Frag) (n:Str) (v:V):Prop:=((nsIn K mainGlobals n).bind λu=>u.bind DN)=some v
theorem sY {K:Frag}{n:Str}{v:V}(h:CV K n v):∃u,nsIn K mainGlobals n=some (some u)/\RelV v u:=by
 cases e:nsIn K mainGlobals n with
 | none=>rw[CV,e] at h; cases h
 | some o=>
  cases o with
  | none=>rw[CV,e] at h; cases h
  | some u=>
   rw[CV,e] at h
   refine⟨u,rfl,?_⟩
   have h':DN u=some v:=h
   cases u <;> simp only [DN] at h' <;> first | (cases h'; first | rfl | exact⟨_,rfl⟩) | cases h'
abbrev AD (K:Frag) (C:Addr):Prop:=(plainGet K C Str.empty,hasDictIn K C,plainOver K C,findIn K (.ref C) "__setattr__",makesIn K C,keepIn K (.ref C))=(true,true,true,some (some (.builtin "object.__setattr__")),true,true)
theorem gz {K:Frag}{C:Addr}(h:AD K C):iF K C/\makesIn K C=true/\keepIn K (.ref C)=true:=by
 simp only [Prod.mk.injEq] at h
 exact⟨⟨h.1,h.2.1,h.2.2.1,h.2.2.2.1⟩,h.2.2.2.2⟩
abbrev FN (K:Frag) (C:Addr):Prop:=(excIn K C [.type "ValueError",.type "Exception",.type "BaseException",.type "object"] "ValueError.__new__",findIn K (.ref C) "__getattribute__",findIn K (.ref C) "__getattr__",findIn K (.ref C) "__class__",mroIn K C (.type "BaseException"),mroIn K C (.type "object"))=
 (true,some (some (.builtin "BaseException.__getattribute__")),some none,some (some (.builtin "object.__class__")),some true,some true)
theorem o9 {K:Frag}{mg:Str->Option Value}{x:Str}{C:Addr}(h:FN K C)(e:mg x=some (.ref C)):zF K mg x C/\jh K C:=by
 simp only [Prod.mk.injEq] at h
 exact⟨⟨e,h.1⟩,h.2.1,h.2.2.1,h.2.2.2.1,h.2.2.2.2.1,h.2.2.2.2.2⟩
def Ux:Option (Option Value)->Bool
 | some (some (.ref _))=>true
 | _=>false
theorem LU {o:Option (Option Value)}(h:Ux o=true):o=some (some (.ref (NY o))):=by
 match o,h with
 | some (some (.ref a)),_=>rfl
abbrev bZ (K:Frag) (q:Str) (f:Addr):=((y9 K f).map core,Uv K q f)
abbrev b7 (n q:Str) (st:Stmt):=(some (n,q,gw st,FuncBody.stmts (ff st),aC st,mainGlobals,([]:List (Str × Addr)),Value.none,builtinsNs),true)
def cM (K:Frag)(n:Str):Bool:=Ux (nsIn K mainGlobals n)
theorem mh {K:Frag}{n:Str}(h:cM K n=true):CN K n:=LU h
theorem bP {K:Frag}{n:Str}{st:Stmt}(h:(cM K n,bZ K n (ak K n))=(true,b7 n n st)):NF K n st:=⟨mh (Prod.mk.inj h).1,(Prod.mk.inj h).2⟩
def mj (K:Frag)(C:Addr)(n:Str):Bool × Bool:=(Ux (findIn K (.ref C) n),isFn K (.ref (dm K C n)))
theorem gu {K:Frag}{C:Addr}{n q:Str}{st:Stmt}(h:(mj K C n,bZ K q (dm K C n))=((true,true),b7 n q st)):MF K C n q st:=by
 obtain⟨a,b⟩:=Prod.mk.inj h
 obtain⟨c,d⟩:=Prod.mk.inj a
 exact⟨by rw[LU c,d]; rfl,b⟩
abbrev Ij (K:Frag) (n:Str):=(nsIn K mainGlobals n).bind λu=>u.bind DN
abbrev Pg (K:Frag) (C:Addr):=(plainGet K C Str.empty,hasDictIn K C,plainOver K C,findIn K (.ref C) "__setattr__",makesIn K C,keepIn K (.ref C))
abbrev Pj:=(true,true,true,some (some (Value.builtin "object.__setattr__")),true,true)
abbrev Uy (K:Frag) (C:Addr):=(excIn K C [.type "ValueError",.type "Exception",.type "BaseException",.type "object"] "ValueError.__new__",findIn K (.ref C) "__getattribute__",findIn K (.ref C) "__getattr__",findIn K (.ref C) "__class__",mroIn K C (.type "BaseException"),mroIn K C (.type "object"))
abbrev Uz:=(true,some (some (Value.builtin "BaseException.__getattribute__")),some (none:Option Value),some (some (Value.builtin "object.__class__")),some true,some true)
abbrev TK {α:Type} (_:Frag->α):=α
theorem iT {us:List Value}{n:Nat}(h:us.length=n+1):∃a r,us=a::r/\r.length=n:=by
 cases us with
 | nil=>cases h
 | cons a r=>exact⟨a,r,rfl,Nat.succ.inj h⟩
section
variable {K:PySem.W.Frag}{x qual:Str}{st:Stmt}{f:Addr}{fd:FuncData}{p1 p2 p3 p4 p5 p6:Str}
theorem mz (F:nL K x qual st f fd)(h:∀(k d p:Value) (n:Option Addr) (c e:Value) (a1:Value),bindArgs (PySem.W.fnOf x qual (gw st) (ff st) (aC st) .none k d p n c e) ⟨[a1],[]⟩=pure (([p1]:List Str).zip [a1])):Binds K fd [p1] []:=F.binds λk d p n c e us hl=>by
 obtain⟨a1,u1,rfl,g1⟩:=iT hl
 obtain rfl:=List.length_eq_zero_iff.mp g1
 exact h k d p n c e a1
theorem AE (F:nL K x qual st f fd)(h:∀(k d p:Value) (n:Option Addr) (c e:Value) (a1 a2:Value),bindArgs (PySem.W.fnOf x qual (gw st) (ff st) (aC st) .none k d p n c e) ⟨[a1,a2],[]⟩=pure (([p1,p2]:List Str).zip [a1,a2])):Binds K fd [p1,p2] []:=F.binds λk d p n c e us hl=>by
 obtain⟨a1,u1,rfl,g1⟩:=iT hl
 obtain⟨a2,u2,rfl,g2⟩:=iT g1
 obtain rfl:=List.length_eq_zero_iff.mp g2
 exact h k d p n c e a1 a2
theorem qN (F:nL K x qual st f fd)(h:∀(k d p:Value) (n:Option Addr) (c e:Value) (a1 a2 a3:Value),bindArgs (PySem.W.fnOf x qual (gw st) (ff st) (aC st) .none k d p n c e) ⟨[a1,a2,a3],[]⟩=pure (([p1,p2,p3]:List Str).zip [a1,a2,a3])):Binds K fd [p1,p2,p3] []:=F.binds λk d p n c e us hl=>by
 obtain⟨a1,u1,rfl,g1⟩:=iT hl
 obtain⟨a2,u2,rfl,g2⟩:=iT g1
 obtain⟨a3,u3,rfl,g3⟩:=iT g2
 obtain rfl:=List.length_eq_zero_iff.mp g3
 exact h k d p n c e a1 a2 a3
theorem xZ (F:nL K x qual st f fd)(h:∀(k d p:Value) (n:Option Addr) (c e:Value) (a1 a2 a3 a4:Value),bindArgs (PySem.W.fnOf x qual (gw st) (ff st) (aC st) .none k d p n c e) ⟨[a1,a2,a3,a4],[]⟩=pure (([p1,p2,p3,p4]:List Str).zip [a1,a2,a3,a4])):Binds K fd [p1,p2,p3,p4] []:=F.binds λk d p n c e us hl=>by
 obtain⟨a1,u1,rfl,g1⟩:=iT hl
 obtain⟨a2,u2,rfl,g2⟩:=iT g1
 obtain⟨a3,u3,rfl,g3⟩:=iT g2
 obtain⟨a4,u4,rfl,g4⟩:=iT g3
 obtain rfl:=List.length_eq_zero_iff.mp g4
 exact h k d p n c e a1 a2 a3 a4
theorem UA (F:nL K x qual st f fd)(h:∀(k d p:Value) (n:Option Addr) (c e:Value) (a1 a2 a3 a4 a5:Value),bindArgs (PySem.W.fnOf x qual (gw st) (ff st) (aC st) .none k d p n c e) ⟨[a1,a2,a3,a4,a5],[]⟩=pure (([p1,p2,p3,p4,p5]:List Str).zip [a1,a2,a3,a4,a5])):Binds K fd [p1,p2,p3,p4,p5] []:=F.binds λk d p n c e us hl=>by
 obtain⟨a1,u1,rfl,g1⟩:=iT hl
 obtain⟨a2,u2,rfl,g2⟩:=iT g1
 obtain⟨a3,u3,rfl,g3⟩:=iT g2
 obtain⟨a4,u4,rfl,g4⟩:=iT g3
 obtain⟨a5,u5,rfl,g5⟩:=iT g4
 obtain rfl:=List.length_eq_zero_iff.mp g5
 exact h k d p n c e a1 a2 a3 a4 a5
end
end L2
namespace L2
open PySem PySem.W
def Jz (S:SharedT->Thread->Option (SharedT × Thread))(m:Nat)(z:Option Value):Nat->SharedT->Thread->Option SharedT
 | 0,_,_=>none
 | k+1,x,y=>match through y with
  | true=>some x
  | false=>match stepOk m z y with
   | false=>none
   | true=>match S x y with
    | some r=>Jz S m z k r.1 r.2
    | none=>none
theorem Ik {tb:String->Option Builtin}{p:Program}{w:World}{m:Nat}{z:Option Value}{S:SharedT->Thread->Option (SharedT × Thread)}(hS:S=stepT (denote tb) p w) :
  ∀{k:Nat} {x x':SharedT} {y:Thread},Jz S m z k x y=some x'->topRun tb p w m z k x.abs y=some x'.abs
 | 0,_,_,_,h=>nomatch h
 | k+1,x,x',y,h=>by
  unfold Jz at h
  unfold topRun
  cases a:through y with
  | true=>rw[a] at h; exact congrArg _ (congrArg _ (Option.some.inj h))
  | false=>
   rw[a] at h
   cases b:stepOk m z y with
   | false=>rw[b] at h; exact nomatch h
   | true=>
    rw[b] at h
    cases c:S x y with
    | none=>rw[c] at h; exact nomatch h
    | some r=>obtain⟨u,v⟩:=r; rw[c] at h; rw[hS] at c; rw[stepT_spec c]; exact Ik hS h
def LV:List Obj->BT->Nat->Option (BT × Nat)
 | [],T,n=>some (T,n)
 | o::l,T,n=>match ((T.ins n o).get n).isSome with
  | true=>LV l (T.ins n o) (n+1)
  | false=>none
theorem Il {life:Life}:∀{l:List Obj} {T:BT} {n:Nat} {r:BT × Nat},LV l T n=some r->absHeap r.1 r.2 life=⟨((absHeap T n life).objs.toList++l).toArray,life⟩
 | [],T,n,r,h=>by
  cases h
  rw[List.append_nil]
  rfl
 | o::l,T,n,r,h=>by
  unfold LV at h
  cases g:((T.ins n o).get n).isSome with
  | false=>rw[g] at h; cases h
  | true=>
   rw[g] at h
   rw[Il h,absHeap_ins g]
   show _=_
   have:((absHeap T n life).push o).objs.toList=(absHeap T n life).objs.toList++[o]:=Array.toList_push
   rw[this,List.append_assoc]
   rfl
def JA (S:SharedT->Thread->Option (SharedT × Thread))(p:Program)(N:Nat)(s:Shared):Option Shared:=
 match s.heap.isNs mainGlobals&&s.gens.size == 0 with
 | true=>match LV s.heap.objs.toList .nil 0 with
  | none=>none
  | some r=>match Jz S s.heap.objs.size (s.heap.nsMap mainGlobals "__annotations__") N ⟨r.1,r.2,s.heap.life,s.gens,s.drawn,s.toks,s.os⟩ (topStub p) with
   | none=>none
   | some s₁=>match staticsOk (importedModules p.main.body) s.heap s₁.abs.heap&&namesBound p s₁.abs.heap&&gensDone s₁.abs&&laidKept s.heap s₁.abs.heap with
    | true=>some s₁.abs
    | false=>none
 | false=>none
theorem NZ {p:Program}{w:World}{N:Nat}{s₀ s:Shared}{S:SharedT->Thread->Option (SharedT × Thread)}(hS:S=stepT (denote treeTable) p w)(h:JA S p N s₀=some s):topFrom treeTable p w N s₀=some s:=by
 obtain⟨⟨⟨l⟩,life⟩,gs,d,k,os⟩:=s₀
 unfold JA at h
 unfold topFrom
 cases e:(Shared.heap ⟨⟨⟨l⟩,life⟩,gs,d,k,os⟩).isNs mainGlobals&&(Shared.gens ⟨⟨⟨l⟩,life⟩,gs,d,k,os⟩).size == 0 with
 | false=>rw[e] at h; cases h
 | true=>
  rw[e] at h
  dsimp only at h ⊢
  cases er:LV l .nil 0 with
  | none=>rw[er] at h; cases h
  | some r=>
   rw[er] at h
   dsimp only at h
   have A:=Il (life:=life) er
   have z:(absHeap BT.nil 0 life).objs.toList=[]:=rfl
   rw[z,List.nil_append] at A
   split at h
   ·cases h
   ·rename_i s₁ q
    have R:=Ik hS q
    unfold SharedT.abs at R
    dsimp only at R
    rw[A] at R
    rw[R]
    exact h
def oX (S:SharedT->Thread->Option (SharedT × Thread))(p:Program)(w:World)(N:Nat):Option Shared:=(fencedOpening treeTable p w N).bind (JA S p N)
theorem UB {p q:Program}{loose:List Str}{Xt:Shared->Bool}{α:Type}{Yf:Shared->α}{Ya:World->α}{N:Nat}{S:World->SharedT->Thread->Option (SharedT × Thread)}(hS:∀w,S w=stepT (denote treeTable) p w)
  (h:∀w,(oX (S w) p w N).map (λs=>(openSeen q loose (importedModules p.main.body) Xt true s,Yf s))=some (openGood q loose,Ya w)):LeftO p q loose Xt Yf Ya N:=λw=>by
 obtain⟨s,e,e'⟩:=Option.map_eq_some_iff.mp (h w)
 unfold oX at e
 obtain⟨s₀,a,b⟩:=Option.bind_eq_some_iff.mp e
 unfold openEnds
 rw[a]
 show (topFrom treeTable p w N s₀).map _=_
 rw[NZ (hS w) b,←e']
 rfl
def num:Nat->List Obj->Frag
 | _,[]=>[]
 | i,o::l=>match o.alive with
  | true=>(i,o)::num (i+1) l
  | false=>num (i+1) l
def fragOf (h:Heap):Frag:=num 0 h.objs.toList
theorem Im {a:Nat}{o:Obj}:∀{l:List Obj} {i:Nat},(num i l).lookup a=some o->i<=a/\l[a - i]?=some o/\o.alive=true
 | [],_,h=>by cases h
 | x::l,i,h=>by
  have rest (h:(num (i+1) l).lookup a=some o):i<=a/\(x::l)[a - i]?=some o/\o.alive=true:=by
   obtain⟨p,q,r⟩:=Im h
   have e:a - i=(a - (i+1))+1:=by omega
   exact⟨by omega,by rw[e]; exact q,r⟩
  unfold num at h
  cases z:x.alive with
  | false=>rw[z] at h; exact rest h
  | true=>
   rw[z] at h
   have h':List.lookup a ((i,x)::num (i+1) l)=some o:=h
   rw[List.lookup_cons] at h'
   cases e:a == i with
   | true=>
    rw[e] at h'
    cases h'
    have:a=i:=by simpa using e
    subst this
    exact⟨Nat.le_refl _,by rw[Nat.sub_self]; rfl,z⟩
   | false=>
    rw[e] at h'
    exact rest h'
theorem Rb (h:Heap):(fragOf h).In h:=λa o e=>by
 obtain⟨_,x,y⟩:=Im e
 rw[Nat.sub_zero,Array.getElem?_toList] at x
 exact (Heap.get?_eq_some h a o).mpr ⟨x,y⟩
def UC (s:Stmt):Pos:=match s with
 | .FunctionDef _ _ _ _ _ _ _ _ _ x=>x
 | _=>default
theorem LW {r:OpenRow}{P q:Program}{loose:List Str}{d:DefRec}{N:Nat}{α:Type}{f:Frag->α}{v:α}{S:World->SharedT->Thread->Option (SharedT × Thread)}(said:r.wellSaid=true)(hP:r.prog=P)(hS:∀w,S w=stepT (denote treeTable) P w)
  (left:∀w,(oX (S w) P w N).map (λs=>openSeen q loose (importedModules P.main.body) (λs=>xlAt q [] s&&recOk r.toRowW.records s) true s)=some (openGood q loose))
  (facts:∀w,(oX (S w) P w N).map (λs=>f (fragOf s.heap))=some v)
  (hdef:defOf q r.name=some (d,[])) (hp:P.theDef r.name=some (d.params,d.body,d.scope)) (hk:kwWritten? d.params.kwonlyargs d.params.kw_defaults=some [])
  (hwr:(!r.writes||List.isEmpty r.records)=true) (ok:(chainsOk q&&opensWell P&&(frees r.toRowW&&r.within.isEmpty))=true) (hb:r.prog.bare) (hw:r.toRowW.promised)
  (call:∀K:Frag,f K=v->WalkO q loose (XL q []) (λ_ h=>K.In h) r.toRowW d [] λf vs=>PySem.call f vs):r.Holds:=by
 subst hP
 refine holds_open (q:=q) (loose:=loose) (Xt:=λs=>xlAt q [] s&&recOk r.toRowW.records s) (XP:=XL q []) (Yf:=λs=>f (fragOf s.heap)) (Ya:=λ_=>v) (YP:=λ_ h=>∃K:Frag,K.In h/\f K=v) (d:=d) (kwd:=[]) (N:=N)
  (UB hS λw=>?_) (λw s e=>⟨_,Rb _,e⟩) (λw h h' ⟨K,a,b⟩ k=>⟨K,a.keeps k,b⟩) (λs e=>xl_of s (Bool.and_eq_true_iff.mp e).1) XL.keeps hdef hp hk (λs e=>recFacts_of (Bool.and_eq_true_iff.mp e).2) hwr said ok hb hw ?_
 ·obtain⟨s,e,a⟩:=Option.map_eq_some_iff.mp (left w)
  obtain⟨s',e',b⟩:=Option.map_eq_some_iff.mp (facts w)
  cases e.symm.trans e'
  rw[e,←a,←b]
  rfl
 ·intro w s₀ s₁ mg mb G Y
  obtain⟨K,a,b⟩:=Y
  exact call K b w s₀ s₁ mg mb G a
theorem N1 {α β γ:Type}{o:Option α}{f:α->β}{g:α->γ}{a:β}{b:γ}(h1:o.map f=some a)(h2:o.map g=some b):o.map (λs=>(f s,g s))=some (a,b):=by
 cases o with
 | none=>cases h1
 | some s=>exact congrArg some (Prod.ext (Option.some.inj h1) (Option.some.inj h2))
end L2
set_option maxHeartbeats 4000000
namespace bJ
open PySem PySem.Spec PyProof.Rows L2
theorem UD {K:PySem.W.Frag}{h:Heap}{mg:Str->Option Value}{fa:Addr}(X:K.In h)(G:h.Ns mainGlobals mg)(hfa:mg "law"=some (.ref fa))
  (a_are_letters:NF K "are_letters" iU)
  (a_is_picture:NF K "is_picture" jy)
  (a_look_picture:NF K "look_picture" ia)
  (a_columns_of:NF K "columns_of" jz)
  (a_are_fields:NF K "are_fields" jA)
  (a_rises:NF K "rises" rZ)
  (a_is_system:NF K "is_system" kF)
  (a_look_system:NF K "look_system" iV)
  (a_mirrored_tiles:NF K "mirrored_tiles" fW)
  (a_shows:NF K "shows" r6)
  (a_bit_of:NF K "bit_of" pK)
  (a_walk_right:NF K "walk_right" jB)
  (a_walk_left:NF K "walk_left" kG)
  (a_any_letters:NF K "any_letters" iW)
  (a_columns_that_end:NF K "columns_that_end" eT)
  (a_lets:NF K "lets" vP)
  (a_look_height:NF K "look_height" iX)
  (a_look_size:NF K "look_size" kH)
  (a_how_many:NF K "how_many" lQ)
  (a_picture_of:NF K "picture_of" jC)
  (a_number_of:NF K "number_of" kI)
  (a_searched:NF K "searched" lR)
  (a_told_height:NF K "told_height" iY)
  (a_parted:NF K "parted" pL)
  (a_shows_alike:NF K "shows_alike" iZ)
  (a_look_question:NF K "look_question" gF)
  (a_ruled:NF K "ruled" r8)
  (a_shows_rule:NF K "shows_rule" jD)
  (a_written:NF K "written" nN)
  (a__law_cell:NF K "_law_cell" kJ)
  (a__law_mix:NF K "_law_mix" lS)
  (a__law_tiles:NF K "_law_tiles" jE)
  (a__law_system:NF K "_law_system" i6)
  (a__law_refusal:NF K "_law_refusal" ic)
  (a__law_first:NF K "_law_first" jF)
  (a__law_told:NF K "_law_told" kK)
  (a_law:NF K "law" oU)
  (a_LETTERS:CV K "LETTERS" (.str "abcd"))
  (a_MOST_ROWS:CV K "MOST_ROWS" (.int 4))
  (a_MOST_COLUMNS:CV K "MOST_COLUMNS" (.int 12))
  (a_BORDER:CV K "BORDER" (.int (-1)))
  (a_MOST_MARKS:CV K "MOST_MARKS" (.int 16))
  (a_TILE_FIELDS:CV K "TILE_FIELDS" (.int 4))
  (a_QuiltError:CN K "QuiltError")
  (a_BadPicture:CN K "BadPicture")
  (a_BadSize:CN K "BadSize")
  (a_BadSystem:CN K "BadSystem")
  (a_BadText:CN K "BadText")
  (a_Unlike:CN K "Unlike")
  (a_FieldSets:CN K "FieldSets")
  (a_Walk:CN K "Walk")
  (a_Both:CN K "Both")
  (a_Search:CN K "Search")
  (o_FieldSets:AD K (ak K "FieldSets"))
  (cP:PySem.W.findIn K (.ref (ak K "FieldSets")) "branches"=some none)
  (cT:PySem.W.findIn K (.ref (ak K "FieldSets")) "known"=some none)
  (fM:PySem.W.findIn K (.ref (ak K "FieldSets")) "either_known"=some none)
  (gv:PySem.W.findIn K (.ref (ak K "FieldSets")) "both_known"=some none)
  (gc:PySem.W.findIn K (.ref (ak K "FieldSets")) "first_known"=some none)
  (a_FieldSets____init__:MF K (ak K "FieldSets") "__init__" "FieldSets.__init__" dG)
  (a_FieldSets__number_for:MF K (ak K "FieldSets") "number_for" "FieldSets.number_for" cV)
  (a_FieldSets__of_one:MF K (ak K "FieldSets") "of_one" "FieldSets.of_one" eu)
  (o_Walk:AD K (ak K "Walk"))
  (eX:PySem.W.findIn K (.ref (ak K "Walk")) "sets"=some none)
  (lY:PySem.W.findIn K (.ref (ak K "Walk")) "letters"=some none)
  (eY:PySem.W.findIn K (.ref (ak K "Walk")) "high"=some none)
  (gJ:PySem.W.findIn K (.ref (ak K "Walk")) "lower_left"=some none)
  (lZ:PySem.W.findIn K (.ref (ak K "Walk")) "closing"=some none)
  (cA:PySem.W.findIn K (.ref (ak K "Walk")) "choices_known"=some none)
  (cF:PySem.W.findIn K (.ref (ak K "Walk")) "placed_known"=some none)
  (cG:PySem.W.findIn K (.ref (ak K "Walk")) "closed_known"=some none)
  (a_Walk____init__:MF K (ak K "Walk") "__init__" "Walk.__init__" fX)
  (a_Walk__beginning:MF K (ak K "Walk") "beginning" "Walk.beginning" fG)
  (a_Walk__choices:MF K (ak K "Walk") "choices" "Walk.choices" gG)
  (a_Walk__placed:MF K (ak K "Walk") "placed" "Walk.placed" ie)
  (a_Walk__placed_beneath:MF K (ak K "Walk") "placed_beneath" "Walk.placed_beneath" dh)
  (a_Walk__closed:MF K (ak K "Walk") "closed" "Walk.closed" ig)
  (a_Walk__onward:MF K (ak K "Walk") "onward" "Walk.onward" ir)
  (a_Walk__behind:MF K (ak K "Walk") "behind" "Walk.behind" iu)
  (o_Both:AD K (ak K "Both"))
  (l7:PySem.W.findIn K (.ref (ak K "Both")) "high"=some none)
  (jn:PySem.W.findIn K (.ref (ak K "Both")) "letters"=some none)
  (gf:PySem.W.findIn K (.ref (ak K "Both")) "sets"=some none)
  (fL:PySem.W.findIn K (.ref (ak K "Both")) "left_walk"=some none)
  (eZ:PySem.W.findIn K (.ref (ak K "Both")) "right_walk"=some none)
  (jf:PySem.W.findIn K (.ref (ak K "Both")) "left_ending"=some none)
  (iO:PySem.W.findIn K (.ref (ak K "Both")) "right_ending"=some none)
  (a_Both____init__:MF K (ak K "Both") "__init__" "Both.__init__" fY)
  (a_Both__beginning:MF K (ak K "Both") "beginning" "Both.beginning" fH)
  (a_Both__pairs_behind:MF K (ak K "Both") "pairs_behind" "Both.pairs_behind" dQ)
  (a_Both__step:MF K (ak K "Both") "step" "Both.step" jG)
  (o_Search:AD K (ak K "Search"))
  (j5:PySem.W.findIn K (.ref (ak K "Search")) "both"=some none)
  (j6:PySem.W.findIn K (.ref (ak K "Search")) "ways"=some none)
  (gW:PySem.W.findIn K (.ref (ak K "Search")) "parting"=some none)
  (a_Search____init__:MF K (ak K "Search") "__init__" "Search.__init__" eU)
  (a_Search__new_behind:MF K (ak K "Search") "new_behind" "Search.new_behind" dR)
  (a_Search__go:MF K (ak K "Search") "go" "Search.go" jH)
  (e_BadPicture:FN K (ak K "BadPicture"))
  (e_BadSize:FN K (ak K "BadSize"))
  (e_BadSystem:FN K (ak K "BadSystem"))
  (kk_BadPicture_BadPicture:PySem.W.kitOne K (.ref (ak K "BadPicture")) (.ref (ak K "BadPicture"))=some true)
  (kk_BadPicture_BadSize:PySem.W.kitOne K (.ref (ak K "BadPicture")) (.ref (ak K "BadSize"))=some false)
  (kk_BadPicture_BadSystem:PySem.W.kitOne K (.ref (ak K "BadPicture")) (.ref (ak K "BadSystem"))=some false)
  (kk_BadPicture_BadText:PySem.W.kitOne K (.ref (ak K "BadPicture")) (.ref (ak K "BadText"))=some false)
  (kk_BadPicture_Unlike:PySem.W.kitOne K (.ref (ak K "BadPicture")) (.ref (ak K "Unlike"))=some false)
  (kk_BadPicture_ValueError:PySem.W.kitOne K (.ref (ak K "BadPicture")) (.type "ValueError")=some true)
  (kk_BadSize_BadPicture:PySem.W.kitOne K (.ref (ak K "BadSize")) (.ref (ak K "BadPicture"))=some false)
  (kk_BadSize_BadSize:PySem.W.kitOne K (.ref (ak K "BadSize")) (.ref (ak K "BadSize"))=some true)
  (kk_BadSize_BadSystem:PySem.W.kitOne K (.ref (ak K "BadSize")) (.ref (ak K "BadSystem"))=some false)
  (kk_BadSize_BadText:PySem.W.kitOne K (.ref (ak K "BadSize")) (.ref (ak K "BadText"))=some false)
  (kk_BadSize_Unlike:PySem.W.kitOne K (.ref (ak K "BadSize")) (.ref (ak K "Unlike"))=some false)
  (kk_BadSize_ValueError:PySem.W.kitOne K (.ref (ak K "BadSize")) (.type "ValueError")=some true)
  (kk_BadSystem_BadPicture:PySem.W.kitOne K (.ref (ak K "BadSystem")) (.ref (ak K "BadPicture"))=some false)
  (kk_BadSystem_BadSize:PySem.W.kitOne K (.ref (ak K "BadSystem")) (.ref (ak K "BadSize"))=some false)
  (kk_BadSystem_BadSystem:PySem.W.kitOne K (.ref (ak K "BadSystem")) (.ref (ak K "BadSystem"))=some true)
  (kk_BadSystem_BadText:PySem.W.kitOne K (.ref (ak K "BadSystem")) (.ref (ak K "BadText"))=some false)
  (kk_BadSystem_Unlike:PySem.W.kitOne K (.ref (ak K "BadSystem")) (.ref (ak K "Unlike"))=some false)
  (kk_BadSystem_ValueError:PySem.W.kitOne K (.ref (ak K "BadSystem")) (.type "ValueError")=some true)
  (hh_BadPicture_QuiltError:PySem.W.exmOne K (.ref (ak K "BadPicture")) (.ref (ak K "QuiltError"))=some true)
  (hh_BadSize_QuiltError:PySem.W.exmOne K (.ref (ak K "BadSize")) (.ref (ak K "QuiltError"))=some true)
  (hh_BadSystem_QuiltError:PySem.W.exmOne K (.ref (ak K "BadSystem")) (.ref (ak K "QuiltError"))=some true)
  (z_len:PySem.W.nsIn K mainGlobals "len"=some none)
  (z_all:PySem.W.nsIn K mainGlobals "all"=some none)
  (z_range:PySem.W.nsIn K mainGlobals "range"=some none)
  (z_isinstance:PySem.W.nsIn K mainGlobals "isinstance"=some none)
  (z_list:PySem.W.nsIn K mainGlobals "list"=some none)
  (z_tuple:PySem.W.nsIn K mainGlobals "tuple"=some none)
  (z_set:PySem.W.nsIn K mainGlobals "set"=some none)
  (z_sorted:PySem.W.nsIn K mainGlobals "sorted"=some none)
  (z_int:PySem.W.nsIn K mainGlobals "int"=some none)
  (z_sum:PySem.W.nsIn K mainGlobals "sum"=some none)
  (z_enumerate:PySem.W.nsIn K mainGlobals "enumerate"=some none)
  (z_reversed:PySem.W.nsIn K mainGlobals "reversed"=some none)
  (z_ValueError:PySem.W.nsIn K mainGlobals "ValueError"=some none) :
  ∃t:Ad,Txt K mg t/\fa=t.zP/\∀(s:Shared) (u:Value),BindsTo s t.tX ⟨[u],[]⟩ [("_law_script",u)]:=by
 obtain⟨gx,uL⟩:=bA a_are_letters
 obtain⟨jI,wF⟩:=bA a_is_picture
 obtain⟨fQ,sZ⟩:=bA a_look_picture
 obtain⟨iw,wG⟩:=bA a_columns_of
 obtain⟨jJ,wH⟩:=bA a_are_fields
 obtain⟨r9,Io⟩:=bA a_rises
 obtain⟨kL,x6⟩:=bA a_is_system
 obtain⟨bL,uM⟩:=bA a_look_system
 obtain⟨fZ,qo⟩:=bA a_mirrored_tiles
 obtain⟨r_,Ip⟩:=bA a_shows
 obtain⟨pO,FO⟩:=bA a_bit_of
 obtain⟨jK,wI⟩:=bA a_walk_right
 obtain⟨kM,x8⟩:=bA a_walk_left
 obtain⟨i7,uN⟩:=bA a_any_letters
 obtain⟨eV,nX⟩:=bA a_columns_that_end
 obtain⟨vQ,LX⟩:=bA a_lets
 obtain⟨dw,uO⟩:=bA a_look_height
 obtain⟨jc,x_⟩:=bA a_look_size
 obtain⟨lU,AF⟩:=bA a_how_many
 obtain⟨jM,wJ⟩:=bA a_picture_of
 obtain⟨kN,ya⟩:=bA a_number_of
 obtain⟨lV,AG⟩:=bA a_searched
 obtain⟨i8,uP⟩:=bA a_told_height
 obtain⟨pR,FP⟩:=bA a_parted
 obtain⟨i9,uQ⟩:=bA a_shows_alike
 obtain⟨fj,qO⟩:=bA a_look_question
 obtain⟨sd,Iq⟩:=bA a_ruled
 obtain⟨jN,wK⟩:=bA a_shows_rule
 obtain⟨nO,Cz⟩:=bA a_written
 obtain⟨kO,yb⟩:=bA a__law_cell
 obtain⟨j0,AH⟩:=bA a__law_mix
 obtain⟨jO,wL⟩:=bA a__law_tiles
 obtain⟨i_,uR⟩:=bA a__law_system
 obtain⟨iy,s_⟩:=bA a__law_refusal
 obtain⟨jP,wM⟩:=bA a__law_first
 obtain⟨kP,yd⟩:=bA a__law_told
 obtain⟨tX,JB⟩:=bA a_law
 obtain⟨_,_,_,_,_,_,_,_,_,Vt,_⟩:=id JB.ex
 obtain⟨qE,LY,r_LETTERS⟩:=sY a_LETTERS
 obtain⟨nD,Gu,r_MOST_ROWS⟩:=sY a_MOST_ROWS
 obtain⟨j3,Bw,r_MOST_COLUMNS⟩:=sY a_MOST_COLUMNS
 obtain⟨tY,N2,r_BORDER⟩:=sY a_BORDER
 obtain⟨lW,FQ,r_MOST_MARKS⟩:=sY a_MOST_MARKS
 obtain⟨kX,Dc,r_TILE_FIELDS⟩:=sY a_TILE_FIELDS
 obtain⟨dH,lJ,iE⟩:=ez a_FieldSets____init__
 obtain⟨bI,kc,qx⟩:=ez a_FieldSets__number_for
 obtain⟨gr,mK,u0⟩:=ez a_FieldSets__of_one
 obtain⟨iK,qp,lB⟩:=ez a_Walk____init__
 obtain⟨dX,oH,xD⟩:=ez a_Walk__beginning
 obtain⟨gH,qP,AI⟩:=ez a_Walk__choices
 obtain⟨iz,tu,BA⟩:=ez a_Walk__placed
 obtain⟨di,kU,rJ⟩:=ez a_Walk__placed_beneath
 obtain⟨iA,tw,BB⟩:=ez a_Walk__closed
 obtain⟨fR,tD,BC⟩:=ez a_Walk__onward
 obtain⟨iB,tE,BD⟩:=ez a_Walk__behind
 obtain⟨f_,qq,lC⟩:=ez a_Both____init__
 obtain⟨fJ,oJ,xE⟩:=ez a_Both__beginning
 obtain⟨dS,mD,uv⟩:=ez a_Both__pairs_behind
 obtain⟨jR,wN,FU⟩:=ez a_Both__step
 obtain⟨eW,nY,jV⟩:=ez a_Search____init__
 obtain⟨dU,mE,uw⟩:=ez a_Search__new_behind
 obtain⟨jS,wO,FW⟩:=ez a_Search__go
 have e:=hfa.symm.trans (PySem.W.mg_of X G a_law.1)
 injection e with e
 injection e with e
 exact⟨⟨(ak K "are_letters"),gx,(ak K "is_picture"),jI,(ak K "look_picture"),fQ,(ak K "columns_of"),iw,(ak K "are_fields"),jJ,(ak K "rises"),r9,(ak K "is_system"),kL,(ak K "look_system"),bL,(ak K "mirrored_tiles"),fZ,(ak K "shows"),r_,(ak K "bit_of"),pO,(ak K "walk_right"),jK,(ak K "walk_left"),kM,(ak K "any_letters"),i7,(ak K "columns_that_end"),eV,(ak K "lets"),vQ,(ak K "look_height"),dw,(ak K "look_size"),jc,(ak K "how_many"),lU,(ak K "picture_of"),jM,(ak K "number_of"),kN,(ak K "searched"),lV,(ak K "told_height"),i8,(ak K "parted"),pR,(ak K "shows_alike"),i9,(ak K "look_question"),fj,(ak K "ruled"),sd,(ak K "shows_rule"),jN,(ak K "written"),nO,(ak K "_law_cell"),kO,(ak K "_law_mix"),j0,(ak K "_law_tiles"),jO,(ak K "_law_system"),i_,(ak K "_law_refusal"),iy,(ak K "_law_first"),jP,(ak K "_law_told"),kP,(ak K "law"),tX,qE,nD,j3,tY,lW,kX,(ak K "QuiltError"),(ak K "BadPicture"),(ak K "BadSize"),(ak K "BadSystem"),(ak K "BadText"),(ak K "Unlike"),(ak K "FieldSets"),(ak K "Walk"),(ak K "Both"),(ak K "Search"),(dm K (ak K "FieldSets") "__init__"),dH,(dm K (ak K "FieldSets") "number_for"),bI,(dm K (ak K "FieldSets") "of_one"),gr,(dm K (ak K "Walk") "__init__"),iK,(dm K (ak K "Walk") "beginning"),dX,(dm K (ak K "Walk") "choices"),gH,(dm K (ak K "Walk") "placed"),iz,(dm K (ak K "Walk") "placed_beneath"),di,(dm K (ak K "Walk") "closed"),iA,(dm K (ak K "Walk") "onward"),fR,(dm K (ak K "Walk") "behind"),iB,(dm K (ak K "Both") "__init__"),f_,(dm K (ak K "Both") "beginning"),fJ,(dm K (ak K "Both") "pairs_behind"),dS,(dm K (ak K "Both") "step"),jR,(dm K (ak K "Search") "__init__"),eW,(dm K (ak K "Search") "new_behind"),dU,(dm K (ak K "Search") "go"),jS⟩,⟨⟨uL,mz uL (λ_ _ _ _ _ _ _=>rfl),PySem.W.mg_of X G a_are_letters.1⟩,
  ⟨wF,mz wF (λ_ _ _ _ _ _ _=>rfl),PySem.W.mg_of X G a_is_picture.1⟩,
  ⟨sZ,mz sZ (λ_ _ _ _ _ _ _=>rfl),PySem.W.mg_of X G a_look_picture.1⟩,
  ⟨wG,mz wG (λ_ _ _ _ _ _ _=>rfl),PySem.W.mg_of X G a_columns_of.1⟩,
  ⟨wH,qN wH (λ_ _ _ _ _ _ _ _ _=>rfl),PySem.W.mg_of X G a_are_fields.1⟩,
  ⟨Io,mz Io (λ_ _ _ _ _ _ _=>rfl),PySem.W.mg_of X G a_rises.1⟩,
  ⟨x6,mz x6 (λ_ _ _ _ _ _ _=>rfl),PySem.W.mg_of X G a_is_system.1⟩,
  ⟨uM,mz uM (λ_ _ _ _ _ _ _=>rfl),PySem.W.mg_of X G a_look_system.1⟩,
  ⟨qo,mz qo (λ_ _ _ _ _ _ _=>rfl),PySem.W.mg_of X G a_mirrored_tiles.1⟩,
  ⟨Ip,qN Ip (λ_ _ _ _ _ _ _ _ _=>rfl),PySem.W.mg_of X G a_shows.1⟩,
  ⟨FO,mz FO (λ_ _ _ _ _ _ _=>rfl),PySem.W.mg_of X G a_bit_of.1⟩,
  ⟨wI,qN wI (λ_ _ _ _ _ _ _ _ _=>rfl),PySem.W.mg_of X G a_walk_right.1⟩,
  ⟨x8,qN x8 (λ_ _ _ _ _ _ _ _ _=>rfl),PySem.W.mg_of X G a_walk_left.1⟩,
  ⟨uN,mz uN (λ_ _ _ _ _ _ _=>rfl),PySem.W.mg_of X G a_any_letters.1⟩,
  ⟨nX,xZ nX (λ_ _ _ _ _ _ _ _ _ _=>rfl),PySem.W.mg_of X G a_columns_that_end.1⟩,
  ⟨LX,AE LX (λ_ _ _ _ _ _ _ _=>rfl),PySem.W.mg_of X G a_lets.1⟩,
  ⟨uO,mz uO (λ_ _ _ _ _ _ _=>rfl),PySem.W.mg_of X G a_look_height.1⟩,
  ⟨x_,AE x_ (λ_ _ _ _ _ _ _ _=>rfl),PySem.W.mg_of X G a_look_size.1⟩,
  ⟨AF,qN AF (λ_ _ _ _ _ _ _ _ _=>rfl),PySem.W.mg_of X G a_how_many.1⟩,
  ⟨wJ,xZ wJ (λ_ _ _ _ _ _ _ _ _ _=>rfl),PySem.W.mg_of X G a_picture_of.1⟩,
  ⟨ya,AE ya (λ_ _ _ _ _ _ _ _=>rfl),PySem.W.mg_of X G a_number_of.1⟩,
  ⟨AG,qN AG (λ_ _ _ _ _ _ _ _ _=>rfl),PySem.W.mg_of X G a_searched.1⟩,
  ⟨uP,qN uP (λ_ _ _ _ _ _ _ _ _=>rfl),PySem.W.mg_of X G a_told_height.1⟩,
  ⟨FP,qN FP (λ_ _ _ _ _ _ _ _ _=>rfl),PySem.W.mg_of X G a_parted.1⟩,
  ⟨uQ,xZ uQ (λ_ _ _ _ _ _ _ _ _ _=>rfl),PySem.W.mg_of X G a_shows_alike.1⟩,
  ⟨qO,qN qO (λ_ _ _ _ _ _ _ _ _=>rfl),PySem.W.mg_of X G a_look_question.1⟩,
  ⟨Iq,qN Iq (λ_ _ _ _ _ _ _ _ _=>rfl),PySem.W.mg_of X G a_ruled.1⟩,
  ⟨wK,xZ wK (λ_ _ _ _ _ _ _ _ _ _=>rfl),PySem.W.mg_of X G a_shows_rule.1⟩,
  ⟨Cz,mz Cz (λ_ _ _ _ _ _ _=>rfl),PySem.W.mg_of X G a_written.1⟩,
  ⟨yb,AE yb (λ_ _ _ _ _ _ _ _=>rfl),PySem.W.mg_of X G a__law_cell.1⟩,
  ⟨AH,AE AH (λ_ _ _ _ _ _ _ _=>rfl),PySem.W.mg_of X G a__law_mix.1⟩,
  ⟨wL,mz wL (λ_ _ _ _ _ _ _=>rfl),PySem.W.mg_of X G a__law_tiles.1⟩,
  ⟨uR,qN uR (λ_ _ _ _ _ _ _ _ _=>rfl),PySem.W.mg_of X G a__law_system.1⟩,
  ⟨s_,mz s_ (λ_ _ _ _ _ _ _=>rfl),PySem.W.mg_of X G a__law_refusal.1⟩,
  ⟨wM,xZ wM (λ_ _ _ _ _ _ _ _ _ _=>rfl),PySem.W.mg_of X G a__law_first.1⟩,
  ⟨yd,UA yd (λ_ _ _ _ _ _ _ _ _ _ _=>rfl),PySem.W.mg_of X G a__law_told.1⟩,
  ⟨JB,mz JB (λ_ _ _ _ _ _ _=>rfl),PySem.W.mg_of X G a_law.1⟩,
  PySem.W.mg_of X G LY,
  r_LETTERS,
  PySem.W.mg_of X G Gu,
  r_MOST_ROWS,
  PySem.W.mg_of X G Bw,
  r_MOST_COLUMNS,
  PySem.W.mg_of X G N2,
  r_BORDER,
  PySem.W.mg_of X G FQ,
  r_MOST_MARKS,
  PySem.W.mg_of X G Dc,
  r_TILE_FIELDS,
  PySem.W.mg_of X G a_QuiltError,
  PySem.W.mg_of X G a_BadPicture,
  PySem.W.mg_of X G a_BadSize,
  PySem.W.mg_of X G a_BadSystem,
  PySem.W.mg_of X G a_BadText,
  PySem.W.mg_of X G a_Unlike,
  PySem.W.mg_of X G a_FieldSets,
  PySem.W.mg_of X G a_Walk,
  PySem.W.mg_of X G a_Both,
  PySem.W.mg_of X G a_Search,
  (gz o_FieldSets).1,
  cP,
  cT,
  fM,
  gv,
  gc,
  ⟨lJ,mz lJ (λ_ _ _ _ _ _ _=>rfl),iE⟩,
  ⟨kc,qN kc (λ_ _ _ _ _ _ _ _ _=>rfl),qx⟩,
  ⟨mK,AE mK (λ_ _ _ _ _ _ _ _=>rfl),u0⟩,
  ⟨(gz o_FieldSets).2.1,iE.at_,iE.fn,(gz o_FieldSets).2.2⟩,
  (gz o_Walk).1,
  eX,
  lY,
  eY,
  gJ,
  lZ,
  cA,
  cF,
  cG,
  ⟨qp,UA qp (λ_ _ _ _ _ _ _ _ _ _ _=>rfl),lB⟩,
  ⟨oH,mz oH (λ_ _ _ _ _ _ _=>rfl),xD⟩,
  ⟨qP,xZ qP (λ_ _ _ _ _ _ _ _ _ _=>rfl),AI⟩,
  ⟨tu,xZ tu (λ_ _ _ _ _ _ _ _ _ _=>rfl),BA⟩,
  ⟨kU,UA kU (λ_ _ _ _ _ _ _ _ _ _ _=>rfl),rJ⟩,
  ⟨tw,qN tw (λ_ _ _ _ _ _ _ _ _=>rfl),BB⟩,
  ⟨tD,xZ tD (λ_ _ _ _ _ _ _ _ _ _=>rfl),BC⟩,
  ⟨tE,qN tE (λ_ _ _ _ _ _ _ _ _=>rfl),BD⟩,
  ⟨(gz o_Walk).2.1,lB.at_,lB.fn,(gz o_Walk).2.2⟩,
  (gz o_Both).1,
  l7,
  jn,
  gf,
  fL,
  eZ,
  jf,
  iO,
  ⟨qq,xZ qq (λ_ _ _ _ _ _ _ _ _ _=>rfl),lC⟩,
  ⟨oJ,mz oJ (λ_ _ _ _ _ _ _=>rfl),xE⟩,
  ⟨mD,AE mD (λ_ _ _ _ _ _ _ _=>rfl),uv⟩,
  ⟨wN,xZ wN (λ_ _ _ _ _ _ _ _ _ _=>rfl),FU⟩,
  ⟨(gz o_Both).2.1,lC.at_,lC.fn,(gz o_Both).2.2⟩,
  (gz o_Search).1,
  j5,
  j6,
  gW,
  ⟨nY,AE nY (λ_ _ _ _ _ _ _ _=>rfl),jV⟩,
  ⟨mE,AE mE (λ_ _ _ _ _ _ _ _=>rfl),uw⟩,
  ⟨wO,mz wO (λ_ _ _ _ _ _ _=>rfl),FW⟩,
  ⟨(gz o_Search).2.1,jV.at_,jV.fn,(gz o_Search).2.2⟩,
  (o9 e_BadPicture (PySem.W.mg_of X G a_BadPicture)).1,
  (o9 e_BadPicture (PySem.W.mg_of X G a_BadPicture)).2,
  (o9 e_BadSize (PySem.W.mg_of X G a_BadSize)).1,
  (o9 e_BadSize (PySem.W.mg_of X G a_BadSize)).2,
  (o9 e_BadSystem (PySem.W.mg_of X G a_BadSystem)).1,
  (o9 e_BadSystem (PySem.W.mg_of X G a_BadSystem)).2,
  kk_BadPicture_BadPicture,
  kk_BadPicture_BadSize,
  kk_BadPicture_BadSystem,
  kk_BadPicture_BadText,
  kk_BadPicture_Unlike,
  kk_BadPicture_ValueError,
  kk_BadSize_BadPicture,
  kk_BadSize_BadSize,
  kk_BadSize_BadSystem,
  kk_BadSize_BadText,
  kk_BadSize_Unlike,
  kk_BadSize_ValueError,
  kk_BadSystem_BadPicture,
  kk_BadSystem_BadSize,
  kk_BadSystem_BadSystem,
  kk_BadSystem_BadText,
  kk_BadSystem_Unlike,
  kk_BadSystem_ValueError,
  hh_BadPicture_QuiltError,
  hh_BadSize_QuiltError,
  hh_BadSystem_QuiltError,
  PySem.W.mg_none_of X G z_len,
  PySem.W.mg_none_of X G z_all,
  PySem.W.mg_none_of X G z_range,
  PySem.W.mg_none_of X G z_isinstance,
  PySem.W.mg_none_of X G z_list,
  PySem.W.mg_none_of X G z_tuple,
  PySem.W.mg_none_of X G z_set,
  PySem.W.mg_none_of X G z_sorted,
  PySem.W.mg_none_of X G z_int,
  PySem.W.mg_none_of X G z_sum,
  PySem.W.mg_none_of X G z_enumerate,
  PySem.W.mg_none_of X G z_reversed,
  PySem.W.mg_none_of X G z_ValueError⟩,e,λs u=>Vt ▸ .of_eq rfl⟩
def Pk (K:PySem.W.Frag):=((cM K "are_letters",bZ K "are_letters" (ak K "are_letters")),
 (cM K "is_picture",bZ K "is_picture" (ak K "is_picture")),
 (cM K "look_picture",bZ K "look_picture" (ak K "look_picture")),
 (cM K "columns_of",bZ K "columns_of" (ak K "columns_of")),
 (cM K "are_fields",bZ K "are_fields" (ak K "are_fields")),
 (cM K "rises",bZ K "rises" (ak K "rises")),
 (cM K "is_system",bZ K "is_system" (ak K "is_system")),true)
def UE:TK Pk:=((true,b7 "are_letters" "are_letters" iU),
 (true,b7 "is_picture" "is_picture" jy),
 (true,b7 "look_picture" "look_picture" ia),
 (true,b7 "columns_of" "columns_of" jz),
 (true,b7 "are_fields" "are_fields" jA),
 (true,b7 "rises" "rises" rZ),
 (true,b7 "is_system" "is_system" kF),true)
def Pn (K:PySem.W.Frag):=((cM K "look_system",bZ K "look_system" (ak K "look_system")),
 (cM K "mirrored_tiles",bZ K "mirrored_tiles" (ak K "mirrored_tiles")),
 (cM K "shows",bZ K "shows" (ak K "shows")),
 (cM K "bit_of",bZ K "bit_of" (ak K "bit_of")),
 (cM K "walk_right",bZ K "walk_right" (ak K "walk_right")),
 (cM K "walk_left",bZ K "walk_left" (ak K "walk_left")),
 (cM K "any_letters",bZ K "any_letters" (ak K "any_letters")),true)
def UG:TK Pn:=((true,b7 "look_system" "look_system" iV),
 (true,b7 "mirrored_tiles" "mirrored_tiles" fW),
 (true,b7 "shows" "shows" r6),
 (true,b7 "bit_of" "bit_of" pK),
 (true,b7 "walk_right" "walk_right" jB),
 (true,b7 "walk_left" "walk_left" kG),
 (true,b7 "any_letters" "any_letters" iW),true)
def Po (K:PySem.W.Frag):=((cM K "columns_that_end",bZ K "columns_that_end" (ak K "columns_that_end")),
 (cM K "lets",bZ K "lets" (ak K "lets")),
 (cM K "look_height",bZ K "look_height" (ak K "look_height")),
 (cM K "look_size",bZ K "look_size" (ak K "look_size")),
 (cM K "how_many",bZ K "how_many" (ak K "how_many")),
 (cM K "picture_of",bZ K "picture_of" (ak K "picture_of")),
 (cM K "number_of",bZ K "number_of" (ak K "number_of")),true)
def UH:TK Po:=((true,b7 "columns_that_end" "columns_that_end" eT),
 (true,b7 "lets" "lets" vP),
 (true,b7 "look_height" "look_height" iX),
 (true,b7 "look_size" "look_size" kH),
 (true,b7 "how_many" "how_many" lQ),
 (true,b7 "picture_of" "picture_of" jC),
 (true,b7 "number_of" "number_of" kI),true)
def Pq (K:PySem.W.Frag):=((cM K "searched",bZ K "searched" (ak K "searched")),
 (cM K "told_height",bZ K "told_height" (ak K "told_height")),
 (cM K "parted",bZ K "parted" (ak K "parted")),
 (cM K "shows_alike",bZ K "shows_alike" (ak K "shows_alike")),
 (cM K "look_question",bZ K "look_question" (ak K "look_question")),
 (cM K "ruled",bZ K "ruled" (ak K "ruled")),
 (cM K "shows_rule",bZ K "shows_rule" (ak K "shows_rule")),true)
def UI:TK Pq:=((true,b7 "searched" "searched" lR),
 (true,b7 "told_height" "told_height" iY),
 (true,b7 "parted" "parted" pL),
 (true,b7 "shows_alike" "shows_alike" iZ),
 (true,b7 "look_question" "look_question" gF),
 (true,b7 "ruled" "ruled" r8),
 (true,b7 "shows_rule" "shows_rule" jD),true)
def Pr (K:PySem.W.Frag):=((cM K "written",bZ K "written" (ak K "written")),
 (cM K "_law_cell",bZ K "_law_cell" (ak K "_law_cell")),
 (cM K "_law_mix",bZ K "_law_mix" (ak K "_law_mix")),
 (cM K "_law_tiles",bZ K "_law_tiles" (ak K "_law_tiles")),
 (cM K "_law_system",bZ K "_law_system" (ak K "_law_system")),
 (cM K "_law_refusal",bZ K "_law_refusal" (ak K "_law_refusal")),
 (cM K "_law_first",bZ K "_law_first" (ak K "_law_first")),true)
def UJ:TK Pr:=((true,b7 "written" "written" nN),
 (true,b7 "_law_cell" "_law_cell" kJ),
 (true,b7 "_law_mix" "_law_mix" lS),
 (true,b7 "_law_tiles" "_law_tiles" jE),
 (true,b7 "_law_system" "_law_system" i6),
 (true,b7 "_law_refusal" "_law_refusal" ic),
 (true,b7 "_law_first" "_law_first" jF),true)
def Pu (K:PySem.W.Frag):=((cM K "_law_told",bZ K "_law_told" (ak K "_law_told")),
 (cM K "law",bZ K "law" (ak K "law")),
 Ij K "LETTERS",
 Ij K "MOST_ROWS",
 Ij K "MOST_COLUMNS",
 Ij K "BORDER",
 Ij K "MOST_MARKS",true)
def UK:TK Pu:=((true,b7 "_law_told" "_law_told" kK),
 (true,b7 "law" "law" oU),
 some (.str "abcd"),
 some (.int 4),
 some (.int 12),
 some (.int (-1)),
 some (.int 16),true)
def Pw (K:PySem.W.Frag):=(Ij K "TILE_FIELDS",
 cM K "QuiltError",
 cM K "BadPicture",
 cM K "BadSize",
 cM K "BadSystem",
 cM K "BadText",
 cM K "Unlike",true)
def UL:TK Pw:=(some (.int 4),
 true,
 true,
 true,
 true,
 true,
 true,true)
def Py (K:PySem.W.Frag):=(cM K "FieldSets",
 cM K "Walk",
 cM K "Both",
 cM K "Search",
 Pg K (ak K "FieldSets"),
 PySem.W.findIn K (.ref (ak K "FieldSets")) "branches",
 PySem.W.findIn K (.ref (ak K "FieldSets")) "known",true)
def UM:TK Py:=(true,
 true,
 true,
 true,
 Pj,
 some none,
 some none,true)
def Pz (K:PySem.W.Frag):=(PySem.W.findIn K (.ref (ak K "FieldSets")) "either_known",
 PySem.W.findIn K (.ref (ak K "FieldSets")) "both_known",
 PySem.W.findIn K (.ref (ak K "FieldSets")) "first_known",
 (mj K (ak K "FieldSets") "__init__",bZ K "FieldSets.__init__" (dm K (ak K "FieldSets") "__init__")),
 (mj K (ak K "FieldSets") "number_for",bZ K "FieldSets.number_for" (dm K (ak K "FieldSets") "number_for")),
 (mj K (ak K "FieldSets") "of_one",bZ K "FieldSets.of_one" (dm K (ak K "FieldSets") "of_one")),
 Pg K (ak K "Walk"),true)
def UN:TK Pz:=(some none,
 some none,
 some none,
 ((true,true),b7 "__init__" "FieldSets.__init__" dG),
 ((true,true),b7 "number_for" "FieldSets.number_for" cV),
 ((true,true),b7 "of_one" "FieldSets.of_one" eu),
 Pj,true)
def PB (K:PySem.W.Frag):=(PySem.W.findIn K (.ref (ak K "Walk")) "sets",
 PySem.W.findIn K (.ref (ak K "Walk")) "letters",
 PySem.W.findIn K (.ref (ak K "Walk")) "high",
 PySem.W.findIn K (.ref (ak K "Walk")) "lower_left",
 PySem.W.findIn K (.ref (ak K "Walk")) "closing",
 PySem.W.findIn K (.ref (ak K "Walk")) "choices_known",
 PySem.W.findIn K (.ref (ak K "Walk")) "placed_known",true)
def UO:TK PB:=(some none,
 some none,
 some none,
 some none,
 some none,
 some none,
 some none,true)
def JC (K:PySem.W.Frag):=(PySem.W.findIn K (.ref (ak K "Walk")) "closed_known",
 (mj K (ak K "Walk") "__init__",bZ K "Walk.__init__" (dm K (ak K "Walk") "__init__")),
 (mj K (ak K "Walk") "beginning",bZ K "Walk.beginning" (dm K (ak K "Walk") "beginning")),
 (mj K (ak K "Walk") "choices",bZ K "Walk.choices" (dm K (ak K "Walk") "choices")),
 (mj K (ak K "Walk") "placed",bZ K "Walk.placed" (dm K (ak K "Walk") "placed")),
 (mj K (ak K "Walk") "placed_beneath",bZ K "Walk.placed_beneath" (dm K (ak K "Walk") "placed_beneath")),
 (mj K (ak K "Walk") "closed",bZ K "Walk.closed" (dm K (ak K "Walk") "closed")),true)
def N3:TK JC:=(some none,
 ((true,true),b7 "__init__" "Walk.__init__" fX),
 ((true,true),b7 "beginning" "Walk.beginning" fG),
 ((true,true),b7 "choices" "Walk.choices" gG),
 ((true,true),b7 "placed" "Walk.placed" ie),
 ((true,true),b7 "placed_beneath" "Walk.placed_beneath" dh),
 ((true,true),b7 "closed" "Walk.closed" ig),true)
def JD (K:PySem.W.Frag):=((mj K (ak K "Walk") "onward",bZ K "Walk.onward" (dm K (ak K "Walk") "onward")),
 (mj K (ak K "Walk") "behind",bZ K "Walk.behind" (dm K (ak K "Walk") "behind")),
 Pg K (ak K "Both"),
 PySem.W.findIn K (.ref (ak K "Both")) "high",
 PySem.W.findIn K (.ref (ak K "Both")) "letters",
 PySem.W.findIn K (.ref (ak K "Both")) "sets",
 PySem.W.findIn K (.ref (ak K "Both")) "left_walk",true)
def N4:TK JD:=(((true,true),b7 "onward" "Walk.onward" ir),
 ((true,true),b7 "behind" "Walk.behind" iu),
 Pj,
 some none,
 some none,
 some none,
 some none,true)
def JE (K:PySem.W.Frag):=(PySem.W.findIn K (.ref (ak K "Both")) "right_walk",
 PySem.W.findIn K (.ref (ak K "Both")) "left_ending",
 PySem.W.findIn K (.ref (ak K "Both")) "right_ending",
 (mj K (ak K "Both") "__init__",bZ K "Both.__init__" (dm K (ak K "Both") "__init__")),
 (mj K (ak K "Both") "beginning",bZ K "Both.beginning" (dm K (ak K "Both") "beginning")),
 (mj K (ak K "Both") "pairs_behind",bZ K "Both.pairs_behind" (dm K (ak K "Both") "pairs_behind")),
 (mj K (ak K "Both") "step",bZ K "Both.step" (dm K (ak K "Both") "step")),true)
def N5:TK JE:=(some none,
 some none,
 some none,
 ((true,true),b7 "__init__" "Both.__init__" fY),
 ((true,true),b7 "beginning" "Both.beginning" fH),
 ((true,true),b7 "pairs_behind" "Both.pairs_behind" dQ),
 ((true,true),b7 "step" "Both.step" jG),true)
def JF (K:PySem.W.Frag):=(Pg K (ak K "Search"),
 PySem.W.findIn K (.ref (ak K "Search")) "both",
 PySem.W.findIn K (.ref (ak K "Search")) "ways",
 PySem.W.findIn K (.ref (ak K "Search")) "parting",
 (mj K (ak K "Search") "__init__",bZ K "Search.__init__" (dm K (ak K "Search") "__init__")),
 (mj K (ak K "Search") "new_behind",bZ K "Search.new_behind" (dm K (ak K "Search") "new_behind")),
 (mj K (ak K "Search") "go",bZ K "Search.go" (dm K (ak K "Search") "go")),true)
def N6:TK JF:=(Pj,
 some none,
 some none,
 some none,
 ((true,true),b7 "__init__" "Search.__init__" eU),
 ((true,true),b7 "new_behind" "Search.new_behind" dR),
 ((true,true),b7 "go" "Search.go" jH),true)
def JG (K:PySem.W.Frag):=(Uy K (ak K "BadPicture"),
 Uy K (ak K "BadSize"),
 Uy K (ak K "BadSystem"),
 PySem.W.kitOne K (.ref (ak K "BadPicture")) (.ref (ak K "BadPicture")),
 PySem.W.kitOne K (.ref (ak K "BadPicture")) (.ref (ak K "BadSize")),
 PySem.W.kitOne K (.ref (ak K "BadPicture")) (.ref (ak K "BadSystem")),
 PySem.W.kitOne K (.ref (ak K "BadPicture")) (.ref (ak K "BadText")),true)
def N7:TK JG:=(Uz,
 Uz,
 Uz,
 some true,
 some false,
 some false,
 some false,true)
def JH (K:PySem.W.Frag):=(PySem.W.kitOne K (.ref (ak K "BadPicture")) (.ref (ak K "Unlike")),
 PySem.W.kitOne K (.ref (ak K "BadPicture")) (.type "ValueError"),
 PySem.W.kitOne K (.ref (ak K "BadSize")) (.ref (ak K "BadPicture")),
 PySem.W.kitOne K (.ref (ak K "BadSize")) (.ref (ak K "BadSize")),
 PySem.W.kitOne K (.ref (ak K "BadSize")) (.ref (ak K "BadSystem")),
 PySem.W.kitOne K (.ref (ak K "BadSize")) (.ref (ak K "BadText")),
 PySem.W.kitOne K (.ref (ak K "BadSize")) (.ref (ak K "Unlike")),true)
def N8:TK JH:=(some false,
 some true,
 some false,
 some true,
 some false,
 some false,
 some false,true)
def JI (K:PySem.W.Frag):=(PySem.W.kitOne K (.ref (ak K "BadSize")) (.type "ValueError"),
 PySem.W.kitOne K (.ref (ak K "BadSystem")) (.ref (ak K "BadPicture")),
 PySem.W.kitOne K (.ref (ak K "BadSystem")) (.ref (ak K "BadSize")),
 PySem.W.kitOne K (.ref (ak K "BadSystem")) (.ref (ak K "BadSystem")),
 PySem.W.kitOne K (.ref (ak K "BadSystem")) (.ref (ak K "BadText")),
 PySem.W.kitOne K (.ref (ak K "BadSystem")) (.ref (ak K "Unlike")),
 PySem.W.kitOne K (.ref (ak K "BadSystem")) (.type "ValueError"),true)
def N9:TK JI:=(some true,
 some false,
 some false,
 some true,
 some false,
 some false,
 some true,true)
def JJ (K:PySem.W.Frag):=(PySem.W.exmOne K (.ref (ak K "BadPicture")) (.ref (ak K "QuiltError")),
 PySem.W.exmOne K (.ref (ak K "BadSize")) (.ref (ak K "QuiltError")),
 PySem.W.exmOne K (.ref (ak K "BadSystem")) (.ref (ak K "QuiltError")),
 PySem.W.nsIn K mainGlobals "len",
 PySem.W.nsIn K mainGlobals "all",
 PySem.W.nsIn K mainGlobals "range",
 PySem.W.nsIn K mainGlobals "isinstance",true)
def N_:TK JJ:=(some true,
 some true,
 some true,
 some none,
 some none,
 some none,
 some none,true)
def JK (K:PySem.W.Frag):=(PySem.W.nsIn K mainGlobals "list",
 PySem.W.nsIn K mainGlobals "tuple",
 PySem.W.nsIn K mainGlobals "set",
 PySem.W.nsIn K mainGlobals "sorted",
 PySem.W.nsIn K mainGlobals "int",
 PySem.W.nsIn K mainGlobals "sum",
 PySem.W.nsIn K mainGlobals "enumerate",true)
def Oa:TK JK:=(some none,
 some none,
 some none,
 some none,
 some none,
 some none,
 some none,true)
def JL (K:PySem.W.Frag):=(PySem.W.nsIn K mainGlobals "reversed",
 PySem.W.nsIn K mainGlobals "ValueError",true)
def Ob:TK JL:=(some none,
 some none,true)
def PD (K:PySem.W.Frag):=(Pk K,Pn K,Po K,Pq K,Pr K,Pu K,Pw K,Py K,Pz K,PB K,true)
def UP:TK PD:=(UE,UG,UH,UI,UJ,UK,UL,UM,UN,UO,true)
def PJ (K:PySem.W.Frag):=(JC K,JD K,JE K,JF K,JG K,JH K,JI K,JJ K,JK K,JL K,true)
def UQ:TK PJ:=(N3,N4,N5,N6,N7,N8,N9,N_,Oa,Ob,true)
def fK (K:PySem.W.Frag):=(PD K,PJ K)
def vK:TK fK:=(UP,UQ)
theorem oK0 {K:PySem.W.Frag}(e:Pk K=UE) :
  (NF K "are_letters" iU)/\
  (NF K "is_picture" jy)/\
  (NF K "look_picture" ia)/\
  (NF K "columns_of" jz)/\
  (NF K "are_fields" jA)/\
  (NF K "rises" rZ)/\
  (NF K "is_system" kF):=by
 unfold Pk UE at e
 obtain⟨e0,e⟩:=Prod.mk.inj e
 obtain⟨e1,e⟩:=Prod.mk.inj e
 obtain⟨e2,e⟩:=Prod.mk.inj e
 obtain⟨e3,e⟩:=Prod.mk.inj e
 obtain⟨e4,e⟩:=Prod.mk.inj e
 obtain⟨e5,e⟩:=Prod.mk.inj e
 obtain⟨e6,e⟩:=Prod.mk.inj e
 exact⟨(bP e0),(bP e1),(bP e2),(bP e3),(bP e4),(bP e5),(bP e6)⟩
theorem oK1 {K:PySem.W.Frag}(e:Pn K=UG) :
  (NF K "look_system" iV)/\
  (NF K "mirrored_tiles" fW)/\
  (NF K "shows" r6)/\
  (NF K "bit_of" pK)/\
  (NF K "walk_right" jB)/\
  (NF K "walk_left" kG)/\
  (NF K "any_letters" iW):=by
 unfold Pn UG at e
 obtain⟨e0,e⟩:=Prod.mk.inj e
 obtain⟨e1,e⟩:=Prod.mk.inj e
 obtain⟨e2,e⟩:=Prod.mk.inj e
 obtain⟨e3,e⟩:=Prod.mk.inj e
 obtain⟨e4,e⟩:=Prod.mk.inj e
 obtain⟨e5,e⟩:=Prod.mk.inj e
 obtain⟨e6,e⟩:=Prod.mk.inj e
 exact⟨(bP e0),(bP e1),(bP e2),(bP e3),(bP e4),(bP e5),(bP e6)⟩
theorem oK2 {K:PySem.W.Frag}(e:Po K=UH) :
  (NF K "columns_that_end" eT)/\
  (NF K "lets" vP)/\
  (NF K "look_height" iX)/\
  (NF K "look_size" kH)/\
  (NF K "how_many" lQ)/\
  (NF K "picture_of" jC)/\
  (NF K "number_of" kI):=by
 unfold Po UH at e
 obtain⟨e0,e⟩:=Prod.mk.inj e
 obtain⟨e1,e⟩:=Prod.mk.inj e
 obtain⟨e2,e⟩:=Prod.mk.inj e
 obtain⟨e3,e⟩:=Prod.mk.inj e
 obtain⟨e4,e⟩:=Prod.mk.inj e
 obtain⟨e5,e⟩:=Prod.mk.inj e
 obtain⟨e6,e⟩:=Prod.mk.inj e
 exact⟨(bP e0),(bP e1),(bP e2),(bP e3),(bP e4),(bP e5),(bP e6)⟩
theorem oK3 {K:PySem.W.Frag}(e:Pq K=UI) :
  (NF K "searched" lR)/\
  (NF K "told_height" iY)/\
  (NF K "parted" pL)/\
  (NF K "shows_alike" iZ)/\
  (NF K "look_question" gF)/\
  (NF K "ruled" r8)/\
  (NF K "shows_rule" jD):=by
 unfold Pq UI at e
 obtain⟨e0,e⟩:=Prod.mk.inj e
 obtain⟨e1,e⟩:=Prod.mk.inj e
 obtain⟨e2,e⟩:=Prod.mk.inj e
 obtain⟨e3,e⟩:=Prod.mk.inj e
 obtain⟨e4,e⟩:=Prod.mk.inj e
 obtain⟨e5,e⟩:=Prod.mk.inj e
 obtain⟨e6,e⟩:=Prod.mk.inj e
 exact⟨(bP e0),(bP e1),(bP e2),(bP e3),(bP e4),(bP e5),(bP e6)⟩
theorem oK4 {K:PySem.W.Frag}(e:Pr K=UJ) :
  (NF K "written" nN)/\
  (NF K "_law_cell" kJ)/\
  (NF K "_law_mix" lS)/\
  (NF K "_law_tiles" jE)/\
  (NF K "_law_system" i6)/\
  (NF K "_law_refusal" ic)/\
  (NF K "_law_first" jF):=by
 unfold Pr UJ at e
 obtain⟨e0,e⟩:=Prod.mk.inj e
 obtain⟨e1,e⟩:=Prod.mk.inj e
 obtain⟨e2,e⟩:=Prod.mk.inj e
 obtain⟨e3,e⟩:=Prod.mk.inj e
 obtain⟨e4,e⟩:=Prod.mk.inj e
 obtain⟨e5,e⟩:=Prod.mk.inj e
 obtain⟨e6,e⟩:=Prod.mk.inj e
 exact⟨(bP e0),(bP e1),(bP e2),(bP e3),(bP e4),(bP e5),(bP e6)⟩
theorem oK5 {K:PySem.W.Frag}(e:Pu K=UK) :
  (NF K "_law_told" kK)/\
  (NF K "law" oU)/\
  (CV K "LETTERS" (.str "abcd"))/\
  (CV K "MOST_ROWS" (.int 4))/\
  (CV K "MOST_COLUMNS" (.int 12))/\
  (CV K "BORDER" (.int (-1)))/\
  (CV K "MOST_MARKS" (.int 16)):=by
 unfold Pu UK at e
 obtain⟨e0,e⟩:=Prod.mk.inj e
 obtain⟨e1,e⟩:=Prod.mk.inj e
 obtain⟨e2,e⟩:=Prod.mk.inj e
 obtain⟨e3,e⟩:=Prod.mk.inj e
 obtain⟨e4,e⟩:=Prod.mk.inj e
 obtain⟨e5,e⟩:=Prod.mk.inj e
 obtain⟨e6,e⟩:=Prod.mk.inj e
 exact⟨(bP e0),(bP e1),e2,e3,e4,e5,e6⟩
theorem oK6 {K:PySem.W.Frag}(e:Pw K=UL) :
  (CV K "TILE_FIELDS" (.int 4))/\
  (CN K "QuiltError")/\
  (CN K "BadPicture")/\
  (CN K "BadSize")/\
  (CN K "BadSystem")/\
  (CN K "BadText")/\
  (CN K "Unlike"):=by
 unfold Pw UL at e
 obtain⟨e0,e⟩:=Prod.mk.inj e
 obtain⟨e1,e⟩:=Prod.mk.inj e
 obtain⟨e2,e⟩:=Prod.mk.inj e
 obtain⟨e3,e⟩:=Prod.mk.inj e
 obtain⟨e4,e⟩:=Prod.mk.inj e
 obtain⟨e5,e⟩:=Prod.mk.inj e
 obtain⟨e6,e⟩:=Prod.mk.inj e
 exact⟨e0,(mh e1),(mh e2),(mh e3),(mh e4),(mh e5),(mh e6)⟩
theorem oK7 {K:PySem.W.Frag}(e:Py K=UM) :
  (CN K "FieldSets")/\
  (CN K "Walk")/\
  (CN K "Both")/\
  (CN K "Search")/\
  (AD K (ak K "FieldSets"))/\
  (PySem.W.findIn K (.ref (ak K "FieldSets")) "branches"=some none)/\
  (PySem.W.findIn K (.ref (ak K "FieldSets")) "known"=some none):=by
 unfold Py UM at e
 obtain⟨e0,e⟩:=Prod.mk.inj e
 obtain⟨e1,e⟩:=Prod.mk.inj e
 obtain⟨e2,e⟩:=Prod.mk.inj e
 obtain⟨e3,e⟩:=Prod.mk.inj e
 obtain⟨e4,e⟩:=Prod.mk.inj e
 obtain⟨e5,e⟩:=Prod.mk.inj e
 obtain⟨e6,e⟩:=Prod.mk.inj e
 exact⟨(mh e0),(mh e1),(mh e2),(mh e3),e4,e5,e6⟩
theorem oK8 {K:PySem.W.Frag}(e:Pz K=UN) :
  (PySem.W.findIn K (.ref (ak K "FieldSets")) "either_known"=some none)/\
  (PySem.W.findIn K (.ref (ak K "FieldSets")) "both_known"=some none)/\
  (PySem.W.findIn K (.ref (ak K "FieldSets")) "first_known"=some none)/\
  (MF K (ak K "FieldSets") "__init__" "FieldSets.__init__" dG)/\
  (MF K (ak K "FieldSets") "number_for" "FieldSets.number_for" cV)/\
  (MF K (ak K "FieldSets") "of_one" "FieldSets.of_one" eu)/\
  (AD K (ak K "Walk")):=by
 unfold Pz UN at e
 obtain⟨e0,e⟩:=Prod.mk.inj e
 obtain⟨e1,e⟩:=Prod.mk.inj e
 obtain⟨e2,e⟩:=Prod.mk.inj e
 obtain⟨e3,e⟩:=Prod.mk.inj e
 obtain⟨e4,e⟩:=Prod.mk.inj e
 obtain⟨e5,e⟩:=Prod.mk.inj e
 obtain⟨e6,e⟩:=Prod.mk.inj e
 exact⟨e0,e1,e2,(gu e3),(gu e4),(gu e5),e6⟩
theorem oK9 {K:PySem.W.Frag}(e:PB K=UO) :
  (PySem.W.findIn K (.ref (ak K "Walk")) "sets"=some none)/\
  (PySem.W.findIn K (.ref (ak K "Walk")) "letters"=some none)/\
  (PySem.W.findIn K (.ref (ak K "Walk")) "high"=some none)/\
  (PySem.W.findIn K (.ref (ak K "Walk")) "lower_left"=some none)/\
  (PySem.W.findIn K (.ref (ak K "Walk")) "closing"=some none)/\
  (PySem.W.findIn K (.ref (ak K "Walk")) "choices_known"=some none)/\
  (PySem.W.findIn K (.ref (ak K "Walk")) "placed_known"=some none):=by
 unfold PB UO at e
 obtain⟨e0,e⟩:=Prod.mk.inj e
 obtain⟨e1,e⟩:=Prod.mk.inj e
 obtain⟨e2,e⟩:=Prod.mk.inj e
 obtain⟨e3,e⟩:=Prod.mk.inj e
 obtain⟨e4,e⟩:=Prod.mk.inj e
 obtain⟨e5,e⟩:=Prod.mk.inj e
 obtain⟨e6,e⟩:=Prod.mk.inj e
 exact⟨e0,e1,e2,e3,e4,e5,e6⟩
theorem XR {K:PySem.W.Frag}(e:JC K=N3) :
  (PySem.W.findIn K (.ref (ak K "Walk")) "closed_known"=some none)/\
  (MF K (ak K "Walk") "__init__" "Walk.__init__" fX)/\
  (MF K (ak K "Walk") "beginning" "Walk.beginning" fG)/\
  (MF K (ak K "Walk") "choices" "Walk.choices" gG)/\
  (MF K (ak K "Walk") "placed" "Walk.placed" ie)/\
  (MF K (ak K "Walk") "placed_beneath" "Walk.placed_beneath" dh)/\
  (MF K (ak K "Walk") "closed" "Walk.closed" ig):=by
 unfold JC N3 at e
 obtain⟨e0,e⟩:=Prod.mk.inj e
 obtain⟨e1,e⟩:=Prod.mk.inj e
 obtain⟨e2,e⟩:=Prod.mk.inj e
 obtain⟨e3,e⟩:=Prod.mk.inj e
 obtain⟨e4,e⟩:=Prod.mk.inj e
 obtain⟨e5,e⟩:=Prod.mk.inj e
 obtain⟨e6,e⟩:=Prod.mk.inj e
 exact⟨e0,(gu e1),(gu e2),(gu e3),(gu e4),(gu e5),(gu e6)⟩
theorem XS {K:PySem.W.Frag}(e:JD K=N4) :
  (MF K (ak K "Walk") "onward" "Walk.onward" ir)/\
  (MF K (ak K "Walk") "behind" "Walk.behind" iu)/\
  (AD K (ak K "Both"))/\
  (PySem.W.findIn K (.ref (ak K "Both")) "high"=some none)/\
  (PySem.W.findIn K (.ref (ak K "Both")) "letters"=some none)/\
  (PySem.W.findIn K (.ref (ak K "Both")) "sets"=some none)/\
  (PySem.W.findIn K (.ref (ak K "Both")) "left_walk"=some none):=by
 unfold JD N4 at e
 obtain⟨e0,e⟩:=Prod.mk.inj e
 obtain⟨e1,e⟩:=Prod.mk.inj e
 obtain⟨e2,e⟩:=Prod.mk.inj e
 obtain⟨e3,e⟩:=Prod.mk.inj e
 obtain⟨e4,e⟩:=Prod.mk.inj e
 obtain⟨e5,e⟩:=Prod.mk.inj e
 obtain⟨e6,e⟩:=Prod.mk.inj e
 exact⟨(gu e0),(gu e1),e2,e3,e4,e5,e6⟩
theorem XT {K:PySem.W.Frag}(e:JE K=N5) :
  (PySem.W.findIn K (.ref (ak K "Both")) "right_walk"=some none)/\
  (PySem.W.findIn K (.ref (ak K "Both")) "left_ending"=some none)/\
  (PySem.W.findIn K (.ref (ak K "Both")) "right_ending"=some none)/\
  (MF K (ak K "Both") "__init__" "Both.__init__" fY)/\
  (MF K (ak K "Both") "beginning" "Both.beginning" fH)/\
  (MF K (ak K "Both") "pairs_behind" "Both.pairs_behind" dQ)/\
  (MF K (ak K "Both") "step" "Both.step" jG):=by
 unfold JE N5 at e
 obtain⟨e0,e⟩:=Prod.mk.inj e
 obtain⟨e1,e⟩:=Prod.mk.inj e
 obtain⟨e2,e⟩:=Prod.mk.inj e
 obtain⟨e3,e⟩:=Prod.mk.inj e
 obtain⟨e4,e⟩:=Prod.mk.inj e
 obtain⟨e5,e⟩:=Prod.mk.inj e
 obtain⟨e6,e⟩:=Prod.mk.inj e
 exact⟨e0,e1,e2,(gu e3),(gu e4),(gu e5),(gu e6)⟩
theorem XU {K:PySem.W.Frag}(e:JF K=N6) :
  (AD K (ak K "Search"))/\
  (PySem.W.findIn K (.ref (ak K "Search")) "both"=some none)/\
  (PySem.W.findIn K (.ref (ak K "Search")) "ways"=some none)/\
  (PySem.W.findIn K (.ref (ak K "Search")) "parting"=some none)/\
  (MF K (ak K "Search") "__init__" "Search.__init__" eU)/\
  (MF K (ak K "Search") "new_behind" "Search.new_behind" dR)/\
  (MF K (ak K "Search") "go" "Search.go" jH):=by
 unfold JF N6 at e
 obtain⟨e0,e⟩:=Prod.mk.inj e
 obtain⟨e1,e⟩:=Prod.mk.inj e
 obtain⟨e2,e⟩:=Prod.mk.inj e
 obtain⟨e3,e⟩:=Prod.mk.inj e
 obtain⟨e4,e⟩:=Prod.mk.inj e
 obtain⟨e5,e⟩:=Prod.mk.inj e
 obtain⟨e6,e⟩:=Prod.mk.inj e
 exact⟨e0,e1,e2,e3,(gu e4),(gu e5),(gu e6)⟩
theorem XW {K:PySem.W.Frag}(e:JG K=N7) :
  (FN K (ak K "BadPicture"))/\
  (FN K (ak K "BadSize"))/\
  (FN K (ak K "BadSystem"))/\
  (PySem.W.kitOne K (.ref (ak K "BadPicture")) (.ref (ak K "BadPicture"))=some true)/\
  (PySem.W.kitOne K (.ref (ak K "BadPicture")) (.ref (ak K "BadSize"))=some false)/\
  (PySem.W.kitOne K (.ref (ak K "BadPicture")) (.ref (ak K "BadSystem"))=some false)/\
  (PySem.W.kitOne K (.ref (ak K "BadPicture")) (.ref (ak K "BadText"))=some false):=by
 unfold JG N7 at e
 obtain⟨e0,e⟩:=Prod.mk.inj e
 obtain⟨e1,e⟩:=Prod.mk.inj e
 obtain⟨e2,e⟩:=Prod.mk.inj e
 obtain⟨e3,e⟩:=Prod.mk.inj e
 obtain⟨e4,e⟩:=Prod.mk.inj e
 obtain⟨e5,e⟩:=Prod.mk.inj e
 obtain⟨e6,e⟩:=Prod.mk.inj e
 exact⟨e0,e1,e2,e3,e4,e5,e6⟩
theorem XX {K:PySem.W.Frag}(e:JH K=N8) :
  (PySem.W.kitOne K (.ref (ak K "BadPicture")) (.ref (ak K "Unlike"))=some false)/\
  (PySem.W.kitOne K (.ref (ak K "BadPicture")) (.type "ValueError")=some true)/\
  (PySem.W.kitOne K (.ref (ak K "BadSize")) (.ref (ak K "BadPicture"))=some false)/\
  (PySem.W.kitOne K (.ref (ak K "BadSize")) (.ref (ak K "BadSize"))=some true)/\
  (PySem.W.kitOne K (.ref (ak K "BadSize")) (.ref (ak K "BadSystem"))=some false)/\
  (PySem.W.kitOne K (.ref (ak K "BadSize")) (.ref (ak K "BadText"))=some false)/\
  (PySem.W.kitOne K (.ref (ak K "BadSize")) (.ref (ak K "Unlike"))=some false):=by
 unfold JH N8 at e
 obtain⟨e0,e⟩:=Prod.mk.inj e
 obtain⟨e1,e⟩:=Prod.mk.inj e
 obtain⟨e2,e⟩:=Prod.mk.inj e
 obtain⟨e3,e⟩:=Prod.mk.inj e
 obtain⟨e4,e⟩:=Prod.mk.inj e
 obtain⟨e5,e⟩:=Prod.mk.inj e
 obtain⟨e6,e⟩:=Prod.mk.inj e
 exact⟨e0,e1,e2,e3,e4,e5,e6⟩
theorem XY {K:PySem.W.Frag}(e:JI K=N9) :
  (PySem.W.kitOne K (.ref (ak K "BadSize")) (.type "ValueError")=some true)/\
  (PySem.W.kitOne K (.ref (ak K "BadSystem")) (.ref (ak K "BadPicture"))=some false)/\
  (PySem.W.kitOne K (.ref (ak K "BadSystem")) (.ref (ak K "BadSize"))=some false)/\
  (PySem.W.kitOne K (.ref (ak K "BadSystem")) (.ref (ak K "BadSystem"))=some true)/\
  (PySem.W.kitOne K (.ref (ak K "BadSystem")) (.ref (ak K "BadText"))=some false)/\
  (PySem.W.kitOne K (.ref (ak K "BadSystem")) (.ref (ak K "Unlike"))=some false)/\
  (PySem.W.kitOne K (.ref (ak K "BadSystem")) (.type "ValueError")=some true):=by
 unfold JI N9 at e
 obtain⟨e0,e⟩:=Prod.mk.inj e
 obtain⟨e1,e⟩:=Prod.mk.inj e
 obtain⟨e2,e⟩:=Prod.mk.inj e
 obtain⟨e3,e⟩:=Prod.mk.inj e
 obtain⟨e4,e⟩:=Prod.mk.inj e
 obtain⟨e5,e⟩:=Prod.mk.inj e
 obtain⟨e6,e⟩:=Prod.mk.inj e
 exact⟨e0,e1,e2,e3,e4,e5,e6⟩
theorem XZ {K:PySem.W.Frag}(e:JJ K=N_) :
  (PySem.W.exmOne K (.ref (ak K "BadPicture")) (.ref (ak K "QuiltError"))=some true)/\
  (PySem.W.exmOne K (.ref (ak K "BadSize")) (.ref (ak K "QuiltError"))=some true)/\
  (PySem.W.exmOne K (.ref (ak K "BadSystem")) (.ref (ak K "QuiltError"))=some true)/\
  (PySem.W.nsIn K mainGlobals "len"=some none)/\
  (PySem.W.nsIn K mainGlobals "all"=some none)/\
  (PySem.W.nsIn K mainGlobals "range"=some none)/\
  (PySem.W.nsIn K mainGlobals "isinstance"=some none):=by
 unfold JJ N_ at e
 obtain⟨e0,e⟩:=Prod.mk.inj e
 obtain⟨e1,e⟩:=Prod.mk.inj e
 obtain⟨e2,e⟩:=Prod.mk.inj e
 obtain⟨e3,e⟩:=Prod.mk.inj e
 obtain⟨e4,e⟩:=Prod.mk.inj e
 obtain⟨e5,e⟩:=Prod.mk.inj e
 obtain⟨e6,e⟩:=Prod.mk.inj e
 exact⟨e0,e1,e2,e3,e4,e5,e6⟩
theorem X0 {K:PySem.W.Frag}(e:JK K=Oa) :
  (PySem.W.nsIn K mainGlobals "list"=some none)/\
  (PySem.W.nsIn K mainGlobals "tuple"=some none)/\
  (PySem.W.nsIn K mainGlobals "set"=some none)/\
  (PySem.W.nsIn K mainGlobals "sorted"=some none)/\
  (PySem.W.nsIn K mainGlobals "int"=some none)/\
  (PySem.W.nsIn K mainGlobals "sum"=some none)/\
  (PySem.W.nsIn K mainGlobals "enumerate"=some none):=by
 unfold JK Oa at e
 obtain⟨e0,e⟩:=Prod.mk.inj e
 obtain⟨e1,e⟩:=Prod.mk.inj e
 obtain⟨e2,e⟩:=Prod.mk.inj e
 obtain⟨e3,e⟩:=Prod.mk.inj e
 obtain⟨e4,e⟩:=Prod.mk.inj e
 obtain⟨e5,e⟩:=Prod.mk.inj e
 obtain⟨e6,e⟩:=Prod.mk.inj e
 exact⟨e0,e1,e2,e3,e4,e5,e6⟩
theorem X3 {K:PySem.W.Frag}(e:JL K=Ob) :
  (PySem.W.nsIn K mainGlobals "reversed"=some none)/\
  (PySem.W.nsIn K mainGlobals "ValueError"=some none):=by
 unfold JL Ob at e
 obtain⟨e0,e⟩:=Prod.mk.inj e
 obtain⟨e1,e⟩:=Prod.mk.inj e
 exact⟨e0,e1⟩
theorem UR {K:PySem.W.Frag}{h:Heap}{mg:Str->Option Value}{fa:Addr}(e:fK K=vK)(X:K.In h)(G:h.Ns mainGlobals mg)(hfa:mg "law"=some (.ref fa)) :
  ∃t:Ad,Txt K mg t/\fa=t.zP/\∀(s:Shared) (u:Value),BindsTo s t.tX ⟨[u],[]⟩ [("_law_script",u)]:=by
 obtain⟨ea,eb⟩:=Prod.mk.inj e
 unfold PD UP at ea
 unfold PJ UQ at eb
 obtain⟨c0,ea⟩:=Prod.mk.inj ea
 obtain⟨c1,ea⟩:=Prod.mk.inj ea
 obtain⟨c2,ea⟩:=Prod.mk.inj ea
 obtain⟨c3,ea⟩:=Prod.mk.inj ea
 obtain⟨c4,ea⟩:=Prod.mk.inj ea
 obtain⟨c5,ea⟩:=Prod.mk.inj ea
 obtain⟨c6,ea⟩:=Prod.mk.inj ea
 obtain⟨c7,ea⟩:=Prod.mk.inj ea
 obtain⟨c8,ea⟩:=Prod.mk.inj ea
 obtain⟨c9,ea⟩:=Prod.mk.inj ea
 obtain⟨c10,eb⟩:=Prod.mk.inj eb
 obtain⟨c11,eb⟩:=Prod.mk.inj eb
 obtain⟨c12,eb⟩:=Prod.mk.inj eb
 obtain⟨c13,eb⟩:=Prod.mk.inj eb
 obtain⟨c14,eb⟩:=Prod.mk.inj eb
 obtain⟨c15,eb⟩:=Prod.mk.inj eb
 obtain⟨c16,eb⟩:=Prod.mk.inj eb
 obtain⟨c17,eb⟩:=Prod.mk.inj eb
 obtain⟨c18,eb⟩:=Prod.mk.inj eb
 obtain⟨c19,eb⟩:=Prod.mk.inj eb
 obtain⟨e0,e1,e2,e3,e4,e5,e6⟩:=oK0 c0
 obtain⟨e7,e8,e9,e10,uz,e12,e13⟩:=oK1 c1
 obtain⟨e14,e15,e16,e17,e18,e19,e20⟩:=oK2 c2
 obtain⟨e21,e22,e23,e24,e25,e26,e27⟩:=oK3 c3
 obtain⟨e28,e29,e30,e31,e32,e33,e34⟩:=oK4 c4
 obtain⟨e35,e36,e37,e38,e39,e40,e41⟩:=oK5 c5
 obtain⟨e42,e43,e44,e45,e46,e47,e48⟩:=oK6 c6
 obtain⟨e49,e50,e51,e52,e53,e54,e55⟩:=oK7 c7
 obtain⟨e56,e57,e58,e59,e60,e61,e62⟩:=oK8 c8
 obtain⟨e63,e64,e65,e66,e67,e68,e69⟩:=oK9 c9
 obtain⟨e70,e71,e72,e73,e74,e75,e76⟩:=XR c10
 obtain⟨e77,e78,e79,e80,e81,e82,e83⟩:=XS c11
 obtain⟨e84,e85,e86,e87,e88,e89,e90⟩:=XT c12
 obtain⟨e91,e92,e93,e94,e95,e96,e97⟩:=XU c13
 obtain⟨e98,e99,X4,X5,X6,X7,X8⟩:=XW c14
 obtain⟨X_,Yb,Yc,Yd,Ye,Yg,Yh⟩:=XX c15
 obtain⟨Yi,Yj,Yk,Yl,Ym,Yn,Yo⟩:=XY c16
 obtain⟨Yp,Yq,Yr,Ys,Yt,Yu,Yv⟩:=XZ c17
 obtain⟨Yw,Yx,Yy,Yz,YA,YB,YC⟩:=X0 c18
 obtain⟨YD,YE⟩:=X3 c19
 exact UD X G hfa e0 e1 e2 e3 e4 e5 e6 e7 e8 e9 e10 uz e12 e13 e14 e15 e16 e17 e18 e19 e20 e21 e22 e23 e24 e25 e26 e27 e28 e29 e30 e31 e32 e33 e34 e35 e36 e37 e38 e39 e40 e41 e42 e43 e44 e45 e46 e47 e48 e49 e50 e51 e52 e53 e54 e55 e56 e57 e58 e59 e60 e61 e62 e63 e64 e65 e66 e67 e68 e69 e70 e71 e72 e73 e74 e75 e76 e77 e78 e79 e80 e81 e82 e83 e84 e85 e86 e87 e88 e89 e90 e91 e92 e93 e94 e95 e96 e97 e98 e99 X4 X5 X6 X7 X8 X_ Yb Yc Yd Ye Yg Yh Yi Yj Yk Yl Ym Yn Yo Yp Yq Yr Ys Yt Yu Yv Yw Yx Yy Yz YA YB YC YD YE
theorem US {P:Program}{w:World}{K:PySem.W.Frag}{mg:Str->Option Value}{fa:Addr}(h:∃t:Ad,Txt K mg t/\fa=t.zP/\∀(s:Shared) (u:Value),BindsTo s t.tX ⟨[u],[]⟩ [("_law_script",u)]) :
  ∃fd:FuncData,(∀(s:Shared) (u:Value),BindsTo s fd ⟨[u],[]⟩ [("_law_script",u)])/\∀base:Heap,K.In base->base.Ns mainGlobals mg->aA P w K mg base aZ 13 fa fd ["_law_script"] (AB K):=by
 obtain⟨t,T,rfl,hb⟩:=h
 exact⟨_,hb,λbase _ _=>Um T⟩
theorem walk {l:PySem.W.OpenLaw}{q:Program}{loose:List Str}{XP:(Str->Option Value)->Heap->Prop}{YP:World->Heap->Prop}{d:DefRec}{K:Params->PySem.W.Frag}(hn:l.most=some 63)(hdf:d.params.defaults=[])
  (hY:∀(w:World) (h:Heap),YP w h->(K w.params).In h)
  (F:∀(w:World) (mg:Str->Option Value) (fa:Addr) (h:Heap),(K w.params).In h->h.Ns mainGlobals mg->mg d.name=some (.ref fa)->
   ∃fd:FuncData,(∀(s:Shared) (u:Value),BindsTo s fd ⟨[u],[]⟩ [("_law_script",u)])/\∀base:Heap,(K w.params).In base->base.Ns mainGlobals mg->aA l.prog w (K w.params) mg base aZ 13 fa fd ["_law_script"] (AB (K w.params))) :
  PySem.W.WalkO q loose XP YP l.row.toRowW d [] (λf vs=>PySem.call f vs):=
 L2.Qk (n:=63) (k:=13) (x:="_law_script") (CX:=λ_=>aZ) (sp:=λw=>AB (K w.params)) hn (by decide) hdf ⟨rfl,by decide,by decide⟩ hY F (λ_ _ a ns hl _ hS=>⟨a,ns,rfl,hS,hl,λ_=>rfl⟩) λ_ _ _ _ _ z=>z
def YF:DefRec:=⟨"law",gw oU,ff oU,aC oU,UC oU⟩
end bJ
open PySem PySem.W PyProof.Rows
lay_quick PySem.Challenge.pw_quiltyard_k70_refused
namespace bJ
noncomputable abbrev P:Program:=PySem.W.Fast.tw6178369781189964250
noncomputable abbrev S (w:World):=PySem.W.Fast.tw10156331382660048174 (PySem.W.Fast.tw11892475500146522536 PySem.W.Fast.tw14364793385576792824) P w
theorem same (w:World):S w=stepT (denote treeTable) P w:=by
 unfold S
 rw[←PySem.W.Fast.te10156331382660048174,←PySem.W.Fast.te11892475500146522536,←PySem.W.Fast.te14364793385576792824]
def lo:List Str:=(["__name__","QuiltError","BadPicture","BadSystem","BadSize","Unlike","BadText","LETTERS","MOST_ROWS","MOST_COLUMNS","are_letters","is_picture","look_picture","column_at","columns_of","rows_of","BORDER","MOST_MARKS","TILE_FIELDS","are_fields","rises","is_system","look_system","bordered","tiles_of","mirrored_tiles","stands_for","row_fits","rows_fit","shows","bit_of","least_field","fields_in","FieldSets","Walk","walk_right","walk_left","any_letters","columns_that_end","least_columns","row_at","lets","look_height","look_size","Ways","how_many","letters_of","picture_of","taken_ways","number_of","Both","Search","searched","told_height","parted","is_half","half_number","goes_on","shows_alike","look_rule","look_question","keeps","breaking_choices","Course","ruled","is_column","stays_within","closes","shows_rule","BORDER_SIGN","written_field","written_tile","written","_law_cell","_law_mix","_law_tiles","_law_system","_law_refusal","_law_first","_law_told"]:List String).map Str.ofString
theorem UT:∀w,(L2.oX (S w) P w 12016).map (λs=>PD (L2.fragOf s.heap))=some UP:=λw=>by kernel_rfl
theorem UU:∀w,(L2.oX (S w) P w 12016).map (λs=>PJ (L2.fragOf s.heap))=some UQ:=λw=>by kernel_rfl
theorem facts:∀w,(L2.oX (S w) P w 12016).map (λs=>fK (L2.fragOf s.heap))=some vK:=λw=>L2.N1 (UT w) (UU w)
theorem Vu:∀w,(L2.oX (S w) P w 12016).map (λs=>PySem.W.Fast.tw4187177175401517315 (view P [90]) lo (importedModules P.main.body) (λs=>xlAt (view P [90]) [] s&&recOk (OpenLaw.row PySem.Challenge.rw_quiltyard_k70_refused).toRowW.records s) true s)=some (openGood (view P [90]) lo):=λw=>by kernel_rfl
theorem left:∀w,(L2.oX (S w) P w 12016).map (λs=>openSeen (view P [90]) lo (importedModules P.main.body) (λs=>xlAt (view P [90]) [] s&&recOk (OpenLaw.row PySem.Challenge.rw_quiltyard_k70_refused).toRowW.records s) true s)=some (openGood (view P [90]) lo):=by
 rw[PySem.W.Fast.te4187177175401517315]
 exact Vu
end bJ
set_option maxRecDepth 100000 in
set_option maxHeartbeats 0 in
theorem PySem.Challenge.cw_quiltyard_k70_refused_holds : PySem.Challenge.rw_quiltyard_k70_refused.Holds := by
  w_on; o_law
  refine L2.LW (P := bJ.P) (q := view bJ.P [90]) (loose := bJ.lo) (d := bJ.YF) (N := 12016) (f := bJ.fK) (v := bJ.vK) (S := bJ.S) (by assumption) PySem.W.Fast.te6178369781189964250 bJ.same bJ.left bJ.facts
    (by kernel_rfl) (by kernel_rfl) (by kernel_rfl) (by kernel_rfl) (by kernel_rfl) ⟨rfl, rfl, rfl, rfl, rfl, by decide +kernel⟩ ?hw ?hc
  case hw => w_witness2
  case hc =>
    intro K e
    exact bJ.walk (l := PySem.Challenge.rw_quiltyard_k70_refused) (K := fun _ => K) rfl (by kernel_rfl) (fun w h Y => Y) fun w mg fa h KX G hmg => bJ.US (bJ.UR e KX G hmg)
