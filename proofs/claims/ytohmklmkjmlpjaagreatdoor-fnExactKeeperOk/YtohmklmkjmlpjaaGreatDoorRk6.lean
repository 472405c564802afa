/- Parts. -/
import Derived.Test.YtohmklmkjmlpjaaGreatDoorRk3
import Derived.Test.YtohmklmkjmlpjaaGreatDoorRk2
namespace Go.Proofs.YtohmklmkjmlpjaaGreatDoor
open Go.Proofs.Tryz
set_option maxHeartbeats 4000000
namespace Mth
structure Pu where
 k:ByteArray
 m:Int
 f:Int
 s:Int
instance:Inhabited Pu:=⟨⟨ByteArray.empty,0,0,0⟩⟩
abbrev gB (p:Pu):List Value:=[.string p.k,.int .i64 p.m,.int .i64 p.f,.int .i64 p.s]
abbrev wU (p:Pu):Value:= .agg #[.string p.k,.int .i64 p.m,.int .i64 p.f,.int .i64 p.s]
theorem aZ (p:Pu):(gB p).length=4:=rfl
def sle (a b:ByteArray):Bool:=Op.bytesLess a.toList b.toList||a.toList == b.toList
def qy (n:Int):Bool:=decide (0<=n/\n<=1000000000)
def iD (p:Pu):Bool:=keyOk p.k.data.toList&&qy p.m&&qy p.f&&qy p.s&&qy (p.f+p.s)
def nQ (l:List Pu) (i:Nat):Bool:=iD (l.getD i default)&&(i == 0|| !sle (l.getD i default).k (l.getD (i - 1) default).k)
def jh (l:List Pu):Bool:=(List.range l.length).all (nQ l)&&decide (l.length<=20)
theorem pR (f:Nat->Bool) (k:Nat):(List.range (k+1)).all f=((List.range k).all f&&f k):=by
 rw [List.range_succ,List.all_append];simp
theorem nS {l:List Pu} {i:Nat} (hi:i < l.length) (h:nQ l i=false):jh l=false:=by
 unfold jh
 have:(List.range l.length).all (nQ l)=false:=by
  rw [List.all_eq_false];exact⟨i,List.mem_range.2 hi,by rw [h];simp⟩
 rw [this];rfl
theorem Yi {l:List Pu} (h:(List.range l.length).all (nQ l)=true):jh l=decide (l.length<=20):=by unfold jh;rw [h];rfl
def aD (l:List Pu) (k:ByteArray):Pu:=(l.find? λp=>p.k.toList == k.toList).getD ⟨k,0,0,0⟩
theorem Jl (f:Pu->Bool) (l:List Pu) (i:Nat) (hi:i < l.length) (h:(l.take i).find? f=none):(f l[i]=true->l.find? f=some l[i])/\(f l[i]=false->(l.take (i+1)).find? f=none):=by
 exact aBO
theorem getD_at (l:List Pu) (i:Nat) (hi:i < l.length):l.getD i default=l[i]:=by rw [List.getD_eq_getElem?_getD,List.getElem?_eq_getElem hi];rfl
end Mth
abbrev iZ (k:ByteArray) (m f s:Int):Array Value:=#[.string k,.int .i64 m,.int .i64 f,.int .i64 s]
abbrev fA (i t:Int) (k:ByteArray) (n:Int):Array Value:=#[.int .i64 i,.int .i64 t,.string k,.int .i64 n]
abbrev dZ (i:Int) (k:ByteArray) (n s:Int):Array Value:=#[.int .i64 i,.string k,.int .i64 n,.int .i64 s]
set_option maxRecDepth 100000
open Go.RowKit
open Mth
abbrev aG (w:World) (a:Option Addr) (l:List Pu):Prop:=GR.At gB 4 w a l
theorem aG.four {w:World} {a:Option Addr} {l:List Pu} (h:aG w a l) (i:Nat) (hi:i < l.length):∃g off,a=some ⟨g,off,none⟩/\g < w.heap.size/\w.cell? ⟨g,off+i*4,none⟩=some (.string l[i].k)/\w.cell? ⟨g,off+i*4+1,none⟩=some (.int .i64 l[i].m)/\w.cell? ⟨g,off+i*4+2,none⟩=some (.int .i64 l[i].f)/\w.cell? ⟨g,off+i*4+3,none⟩=some (.int .i64 l[i].s):=by
 exact ak5
theorem aDc (s:ByteArray) (b:Bool) (hs:s.size<=maxLen) (hb:keyOk s.data.toList=b) (W:World) (n:Nat):Calls Tryz.prog 52 #[.string s] (W.drewN n) λe w''=>e= .returned (.bool b)/\∃m,w''=W.drewN m:=by
 rw [<-hb];exact(JW s _ hs).mono λe w' ⟨he,hw⟩=>⟨he,n,hw.symm⟩
theorem qAm (x:Int) (b:Bool) (hb:decide (xM x 0 1000000000)=b) (W:World) (n:Nat):Calls Tryz.prog 50 #[.int .i64 x] (W.drewN n) λe w''=>e= .returned (.bool b)/\∃m,w''=W.drewN m:=by
 rw [<-hb];exact(wE x _).mono λe w' ⟨he,hw⟩=>⟨he,n,hw.symm⟩
theorem oJ (a:Option Addr) (cap:Nat) (l:List Pu) (w:World) (hl:l.length<=1048600) (hk:∀p∈l,p.k.size<=maxLen) (ha:aG w a l):
 Calls Tryz.prog 47 #[.slice a l.length cap] w (eO w (.bool (jh l))):=by
 have HA:=Hq ha;have HK:=Hq hk;clear ha hk;go_in
 go_wp2_with fail;go_loopw [3] (λi wr=>∃k:Nat,k<=l.length/\i= .int .i64 k/\(List.range k).all (nQ l)=true/\aI w wr) (λi _=>l.length - (intOf i).toNat)
 case atStart=>exact abe
 case round=>
  obtain⟨k,hk,rfl,hall,hbel⟩:=hrel;have cZ:=Hq hbel;have kX:=Hq hall;clear hall hbel;by_cases hlt:k < l.length
  .have hks:=ah HK l[k] (List.getElem_mem hlt);open asn in exact agd
  .exact air
theorem vO (a:Option Addr) (cap:Nat) (l:List Pu) (key:ByteArray) (w:World) (hl:l.length<=1048600) (ha:aG w a l):
 Calls Tryz.prog 151 #[.slice a l.length cap,.string key] w (eO w (wU (aD l key))):=by
 have HA:=Hq ha;clear ha;go_in
 go_wp2_with fail;go_loopw [5] (λi wr=>∃k:Nat,k<=l.length/\i= .int .i64 k/\(l.take k).find? (λp=>p.k.toList == key.toList)=none/\wr=w.alloc (.cells (iZ ⟨#[]⟩ 0 0 0) 108)) (λi _=>l.length - (intOf i).toNat)
 case atStart=>exact⟨0,Nat.zero_le _,rfl,rfl,rfl⟩
 case round=>
  obtain⟨k,hk,rfl,hnone,rfl⟩:=hrel;have HN:=Hq hnone;clear hnone;by_cases hlt:k < l.length
  .obtain⟨g,off,rfl,hgw,c0,c1,c2,c3⟩:=aG.four HA k hlt;have hfs:=Jl (λp=>p.k.toList == key.toList) l k hlt HN;cases hf:l[k].k.toList == key.toList
   .have HX:=Hq (hfs.2 hf);clear hfs HN;open azK in exact aaM
   .have HX:=Hq (show aD l key=l[k] by unfold aD;rw [hfs.1 hf];rfl);clear hfs HN;open azJ in exact aaM
  .open apu in exact xP
theorem gD {w:World} {g:Nat} {a0 a1 a2 a3:Value} {t:TypeId} (h:w.heap[g]?=some (.cells #[a0,a1,a2,a3] t (0,0))):
 (w.cell? ⟨g,0,none⟩=some a0/\w.cell? ⟨g,1,none⟩=some a1/\w.cell? ⟨g,2,none⟩=some a2/\w.cell? ⟨g,3,none⟩=some a3)/\(w.frozen? ⟨g,0,none⟩=false/\w.frozen? ⟨g,1,none⟩=false/\w.frozen? ⟨g,2,none⟩=false/\w.frozen? ⟨g,3,none⟩=false):=by
 have hc:∀i,w.cell? ⟨g,i,none⟩=#[a0,a1,a2,a3][i]?:=λi=>cell_of_row w g i _ t (0,0) h
 have hf:∀i,w.frozen? ⟨g,i,none⟩=false:=λi=>by unfold World.frozen?;rw [h];simp
 exact⟨⟨hc 0,hc 1,hc 2,hc 3⟩,hf 0,hf 1,hf 2,hf 3⟩
namespace Mth
abbrev Lv (a b:Pu):Prop:=a.k.toList < b.k.toList
theorem pY (a b:ByteArray):Op.bytesLess a.toList b.toList=true↔a.toList < b.toList:=by
 rw [bytesLess_eq,decide_eq_true_iff]
theorem nJ (a b:ByteArray):sle a b=false↔b.toList < a.toList:=by
 unfold sle;rw [bytesLess_eq,Bool.or_eq_false_iff,decide_eq_false_iff_not,beq_eq_false_iff_ne];constructor
 .rintro⟨h1,h2⟩;rcases List.le_iff_lt_or_eq.1 (List.not_lt.1 h1) with h|h
  .exact h
  .exact absurd h.symm h2
 .intro h;exact⟨List.lt_asymm h,λe=>by rw [e] at h;exact List.lt_irrefl _ h⟩
theorem BI {R:Pu->Pu->Prop} (tr:∀a b c,R a b->R b c->R a c):∀(l:List Pu),(∀i (h:i+1 < l.length),R l[i] l[i+1])->l.Pairwise R:=by
 intro l;induction l with
 |nil=>intro _;exact List.Pairwise.nil
 |cons x r ih=>
  intro h;have hr:r.Pairwise R:=ih λi hi=>h (i+1) Aap
  refine List.Pairwise.cons ?_ hr;intro y hy;cases r with
  |nil=>simp at hy
  |cons z s=>
   have hxz:R x z:=h 0 Aac;rcases List.mem_cons.1 hy with rfl|hy
   .exact hxz
   .exact tr _ _ _ hxz ((List.pairwise_cons.1 hr).1 y hy)
theorem jT (l:List Pu):jh l=true↔(∀p∈l,iD p=true)/\l.Pairwise Lv/\l.length<=20:=by
 unfold jh;rw [Bool.and_eq_true,List.all_eq_true,decide_eq_true_iff];constructor
 .rintro⟨h,h20⟩;refine⟨?_,?_,h20⟩
  .intro p hp;obtain⟨i,hi,rfl⟩:=List.mem_iff_getElem.1 hp;have h1:=h i (List.mem_range.2 hi);unfold nQ at h1;rw [Bool.and_eq_true] at h1;simpa [List.getD,hi] using h1.1
  .refine BI (λa b c (h1:Lv a b) (h2:Lv b c)=>(List.lt_trans h1 h2:Lv a c)) l λi hi=>?_
   have h1:=h (i+1) (List.mem_range.2 hi);unfold nQ at h1;rw [Bool.and_eq_true] at h1;have h2:=h1.2;have hi0:i < l.length:=Aaa
   simp[List.getD,hi,hi0] at h2;exact(nJ _ _).1 h2
 .rintro⟨h,hp,h20⟩;refine⟨?_,h20⟩;intro i hi;have hi':=List.mem_range.1 hi;unfold nQ;rw [Bool.and_eq_true];refine⟨by simpa [List.getD,hi'] using h l[i] (List.getElem_mem hi'),?_⟩;cases i with
  |zero=>rfl
  |succ i=>
   have hi0:i < l.length:=Aaa
   have h2:=(nJ l[i+1].k l[i].k).2 (List.pairwise_iff_getElem.1 hp i (i+1) hi0 hi' Aaa);simp[List.getD,hi',hi0,h2]
def rO (l:List Pu) (k:ByteArray):List Pu:=l.takeWhile λq=>Op.bytesLess q.k.toList k.toList
def kR (l:List Pu) (k:ByteArray):List Pu:=l.dropWhile λq=>Op.bytesLess q.k.toList k.toList
def kJ (l:List Pu) (k:ByteArray):List Pu:=match kR l k with
 |[]=>[]
 |q::r=>if q.k.toList == k.toList then r else q::r
def je (l:List Pu) (p:Pu):List Pu:=rO l p.k++p::kJ l p.k
theorem wu (l:List Pu) (k:ByteArray):rO l k++kR l k=l:=List.takeWhile_append_dropWhile
theorem IG (f:Pu->Bool):∀(l:List Pu) (q:Pu),q∈l.takeWhile f->f q=true:=by
 intro l;induction l with
 |nil=>intro q hq;simp at hq
 |cons x r ih=>
  intro q hq;rw [List.takeWhile_cons] at hq;split at hq
  .rename_i hx
   rcases List.mem_cons.1 hq with rfl|hq
   .exact hx
   .exact ih q hq
  .simp at hq
theorem zB {l:List Pu} {k:ByteArray} {q:Pu} (h:q∈rO l k):q.k.toList < k.toList:=(pY _ _).1 (IG _ l q h)
theorem F7 (l:List Pu) (k:ByteArray):∀q∈kJ l k,q∈kR l k:=by
 intro q hq;unfold kJ at hq;split at hq
 .simp at hq
 .rename_i x r e
  rw [e];split at hq
  .exact List.mem_cons_of_mem _ hq
  .exact hq
theorem Bl (l:List Pu) (k:ByteArray) (q:Pu) (r:List Pu) (h:kR l k=q::r):¬q.k.toList < k.toList:=by
 unfold kR at h;have h2:=List.head?_dropWhile_not (λq:Pu=>Op.bytesLess q.k.toList k.toList) l;rw [h] at h2;simp at h2;intro h3;rw [(pY _ _).2 h3] at h2;cases h2
theorem MZ {l:List Pu} {k:ByteArray} (hp:l.Pairwise Lv):∀q∈kJ l k,k.toList < q.k.toList:=by
 have hp2:(kR l k).Pairwise Lv:=hp.sublist (List.dropWhile_sublist _);unfold kJ;cases hf:kR l k with
 |nil=>intro q hq;simp at hq
 |cons x r=>
  have hx:=Bl l k x r hf;rw [hf] at hp2;have hr:=(List.pairwise_cons.1 hp2).1;dsimp only;by_cases he:x.k.toList=k.toList
  .rw [if_pos (by simpa using he)];intro q hq;have:=hr q hq;unfold Lv at this;rw [he] at this;exact this
  .rw [if_neg (by simpa using he)]
   have hkx:k.toList < x.k.toList:=by
    rcases List.le_iff_lt_or_eq.1 (List.not_lt.1 hx) with h|h
    .exact h
    .exact absurd h.symm he
   intro q hq;rcases List.mem_cons.1 hq with rfl|hq
   .exact hkx
   .exact List.lt_trans hkx (hr q hq)
theorem IE {l:List Pu} {k:ByteArray} (hp:l.Pairwise Lv):(kJ l k).Pairwise Lv:=by
 have hp2:(kR l k).Pairwise Lv:=hp.sublist (List.dropWhile_sublist _);unfold kJ;cases hf:kR l k with
 |nil=>exact List.Pairwise.nil
 |cons x r=>
  rw [hf] at hp2;dsimp only;split
  .exact(List.pairwise_cons.1 hp2).2
  .exact hp2
theorem ac3 {l:List Pu} (p:Pu) (h:jh l=true):jh (je l p)=(iD p&&decide ((je l p).length<=20)):=by
 obtain⟨h1,h2,h3⟩:=(jT l).1 h;apply Bool.eq_iff_iff.2
 rw [jT,Bool.and_eq_true,decide_eq_true_iff];constructor
 .rintro⟨g1,_,g3⟩;exact⟨g1 p (by unfold je;simp),g3⟩
 .rintro⟨g1,g3⟩;refine⟨?_,?_,g3⟩
  .intro q hq;unfold je at hq;rcases List.mem_append.1 hq with hq|hq
   .exact h1 q ((List.takeWhile_sublist _).mem hq)
   .rcases List.mem_cons.1 hq with rfl|hq
    .exact g1
    .exact h1 q ((List.dropWhile_sublist _).mem (F7 l p.k q hq))
  .unfold je;rw [List.pairwise_append];refine⟨h2.sublist (List.takeWhile_sublist _),List.pairwise_cons.2 ⟨λq hq=>MZ h2 q hq,IE h2⟩,?_⟩;intro q hq q' hq';rcases List.mem_cons.1 hq' with rfl|hq'
   .exact zB hq
   .exact List.lt_trans (zB hq) (MZ h2 q' hq')
def qX (l:List Pu) (p:Pu) (n:Int):List Pu×Bool:=
 if jh l&&decide (1<=n/\n<=1000000000)&&jh (je l p) then(je l p,true) else(l,false)
end Mth
end Go.Proofs.YtohmklmkjmlpjaaGreatDoor
