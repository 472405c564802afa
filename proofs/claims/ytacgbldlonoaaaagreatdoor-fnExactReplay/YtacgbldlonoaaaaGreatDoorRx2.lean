/- Parts. -/
import Derived.Test.YtacgbldlonoaaaaGreatDoorRx1
import Derived.Test.YtacgbldlonoaaaaGreatDoorRr28
namespace Go.Proofs.YtacgbldlonoaaaaGreatDoor
set_option maxHeartbeats 4000000
set_option maxRecDepth 100000
open Go.RowKit
open Mth
theorem azV {w:World} {g:Nat} {a0 a1 a2 a3 a4 a5 a6 a7 a8 b0 b1 b2 b3 b4 b5 b6 b7 b8:Value} {t:TypeId} (h:w.heap[g]?=some (.cells #[a0,a1,a2,a3,a4,a5,a6,a7,a8] t (0,0))):
 (((((((((w.setCell ⟨g,0,none⟩ b0).setCell ⟨g,1,none⟩ b1).setCell ⟨g,2,none⟩ b2).setCell ⟨g,3,none⟩ b3).setCell ⟨g,4,none⟩ b4).setCell ⟨g,5,none⟩ b5).setCell ⟨g,6,none⟩ b6).setCell ⟨g,7,none⟩ b7).setCell ⟨g,8,none⟩ b8).heap[g]?=some (.cells #[b0,b1,b2,b3,b4,b5,b6,b7,b8] t (0,0)):=by
 have h0:(w.setCell ⟨g,0,none⟩ b0).heap[g]?=some (.cells #[b0,a1,a2,a3,a4,a5,a6,a7,a8] t (0,0)):=bC h 0 b0;have h1:((w.setCell ⟨g,0,none⟩ b0).setCell ⟨g,1,none⟩ b1).heap[g]?=some (.cells #[b0,b1,a2,a3,a4,a5,a6,a7,a8] t (0,0)):=bC h0 1 b1;have h2:(((w.setCell ⟨g,0,none⟩ b0).setCell ⟨g,1,none⟩ b1).setCell ⟨g,2,none⟩ b2).heap[g]?=some (.cells #[b0,b1,b2,a3,a4,a5,a6,a7,a8] t (0,0)):=bC h1 2 b2;have h3:((((w.setCell ⟨g,0,none⟩ b0).setCell ⟨g,1,none⟩ b1).setCell ⟨g,2,none⟩ b2).setCell ⟨g,3,none⟩ b3).heap[g]?=some (.cells #[b0,b1,b2,b3,a4,a5,a6,a7,a8] t (0,0)):=bC h2 3 b3;have h4:(((((w.setCell ⟨g,0,none⟩ b0).setCell ⟨g,1,none⟩ b1).setCell ⟨g,2,none⟩ b2).setCell ⟨g,3,none⟩ b3).setCell ⟨g,4,none⟩ b4).heap[g]?=some (.cells #[b0,b1,b2,b3,b4,a5,a6,a7,a8] t (0,0)):=bC h3 4 b4;have h5:((((((w.setCell ⟨g,0,none⟩ b0).setCell ⟨g,1,none⟩ b1).setCell ⟨g,2,none⟩ b2).setCell ⟨g,3,none⟩ b3).setCell ⟨g,4,none⟩ b4).setCell ⟨g,5,none⟩ b5).heap[g]?=some (.cells #[b0,b1,b2,b3,b4,b5,a6,a7,a8] t (0,0)):=bC h4 5 b5;have h6:(((((((w.setCell ⟨g,0,none⟩ b0).setCell ⟨g,1,none⟩ b1).setCell ⟨g,2,none⟩ b2).setCell ⟨g,3,none⟩ b3).setCell ⟨g,4,none⟩ b4).setCell ⟨g,5,none⟩ b5).setCell ⟨g,6,none⟩ b6).heap[g]?=some (.cells #[b0,b1,b2,b3,b4,b5,b6,a7,a8] t (0,0)):=bC h5 6 b6;have h7:((((((((w.setCell ⟨g,0,none⟩ b0).setCell ⟨g,1,none⟩ b1).setCell ⟨g,2,none⟩ b2).setCell ⟨g,3,none⟩ b3).setCell ⟨g,4,none⟩ b4).setCell ⟨g,5,none⟩ b5).setCell ⟨g,6,none⟩ b6).setCell ⟨g,7,none⟩ b7).heap[g]?=some (.cells #[b0,b1,b2,b3,b4,b5,b6,b7,a8] t (0,0)):=bC h6 7 b7;have h8:(((((((((w.setCell ⟨g,0,none⟩ b0).setCell ⟨g,1,none⟩ b1).setCell ⟨g,2,none⟩ b2).setCell ⟨g,3,none⟩ b3).setCell ⟨g,4,none⟩ b4).setCell ⟨g,5,none⟩ b5).setCell ⟨g,6,none⟩ b6).setCell ⟨g,7,none⟩ b7).setCell ⟨g,8,none⟩ b8).heap[g]?=some (.cells #[b0,b1,b2,b3,b4,b5,b6,b7,b8] t (0,0)):=bC h7 8 b8;exact h8
theorem ayN {w:World} {g:Nat} {b0 b1 b2 b3 b4 b5 b6 b7 b8:Value}:aC [g] w (((((((((w.setCell ⟨g,0,none⟩ b0).setCell ⟨g,1,none⟩ b1).setCell ⟨g,2,none⟩ b2).setCell ⟨g,3,none⟩ b3).setCell ⟨g,4,none⟩ b4).setCell ⟨g,5,none⟩ b5).setCell ⟨g,6,none⟩ b6).setCell ⟨g,7,none⟩ b7).setCell ⟨g,8,none⟩ b8):=
 ((((((((aC.set b0).trans (aC.set b1)).trans (aC.set b2)).trans (aC.set b3)).trans (aC.set b4)).trans (aC.set b5)).trans (aC.set b6)).trans (aC.set b7)).trans (aC.set b8)
theorem aAa (w:World) (a b:Obj):((w.alloc a).alloc b).heap[w.heap.size]?=some a/\((w.alloc a).alloc b).heap[w.heap.size+1]?=some b/\Below w.heap.size w ((w.alloc a).alloc b):=by
 have e1:(w.alloc a).heap.size=w.heap.size+1:=Aac
 have h1:=heap_alloc_new w a;have h2:=heap_alloc_new (w.alloc a) b;rw [e1] at h2;refine⟨?_,h2,(aj w _).alloc Aac _⟩;rw [Below.heap_alloc _ _ _ (by rw [e1];omega)];exact h1
theorem aAe {I:Nat->Nat} {l:List Sn} (h:∀i j,i < j->j < l.length->I i < I j):(qw I l).Nodup:=by
 have key:∀m,m<=l.length->((List.range m).flatMap λi=>fp (I i) (l.getD i default).ids).Nodup:=by
  intro m;induction m with
  |zero=>intro _;simp
  |succ m ih=>
   intro hm
   rw [List.range_succ,List.flatMap_append,List.nodup_append]
   refine⟨ih Aaa,by simpa using Db _ _,?_⟩
   intro a ha b hb
   rw [List.mem_flatMap] at ha
   obtain⟨i,hi,hx⟩:=ha
   have hi':=List.mem_range.1 hi
   have hb':b∈fp (I m) (l.getD m default).ids:=by simpa using hb
   rw [(gH hx).1,(gH hb').1]
   have:=h i m hi' Aaa
   omega
 exact key l.length (Nat.le_refl _)
theorem aAX (n:Nd) (A:bH) (w:World) (hz:fu n 1048576) (ha:dK w A n):
 Calls Tryz.prog 27 #[fI n A] w λe w'=>∃A',e= .returned (fI n A')/\∃G,sZ w' A' G n/\G.Sep n w.heap.size w'.heap.size/\aX w w':=by
 have HZ:=Hq hz;have HA:=Hq ha;clear ha hz;have Q8:=Hq (λW (hb:aX w W)=>azY A.k A.ck n.kids W HZ.k (HA.below hb).k);have HTP:=Hq (λW (hb:aX w W)=>azZ A.p A.cp n.pu W HZ.p (HA.below hb).p);have HTO:=Hq (λW (hb:aX w W)=>aAw A.o A.co n.out W HZ.o (HA.below hb).o);have HTS:=Hq (λW (hb:aX w W)=>aAv A.s A.cs n.seen W HZ.s HZ.sk (HA.below hb).s);have HTR:=Hq (λW (hb:aX w W)=>aAY A.r A.cr n.reqs W HZ.r (HA.below hb).r);clear HA HZ;open aB0 in exact Yx5
theorem aAT (n:Nd) (A:bH) (w:World) (hz:fu n maxLen) (ha:dK w A n):
 Calls Tryz.prog 26 #[fI n A,.int .i64 1048576] w λe w'=>∃r:Int,e= .returned (.int .i64 r)/\aX w w'/\(r= -1\/0<=r/\r<=1048576/\fu n 1048576):=by
 have HK:=Hq (λz w1 (h0:0<=z) (h1:z<=1048576)=>azX A.k A.ck n.kids z w1 h0 h1 hz.k);have HP:=Hq (λz w1 (hb:aX w w1) (h0:0<=z) (h1:z<=1048576)=>azo A.p A.cp n.pu z w1 h0 h1 hz.p hz.pk (ha.below hb).p);have HO:=Hq (λz w1 (hb:aX w w1) (h0:0<=z) (h1:z<=1048576)=>aAt A.o A.co n.out z w1 h0 h1 hz.o hz.ok (ha.below hb).o);have HS:=Hq (λz w1 (hb:aX w w1) (h0:0<=z) (h1:z<=1048576)=>aAs A.s A.cs n.seen z w1 h0 h1 hz.s hz.sk (ha.below hb).s);have HR:=Hq (λz w1 (hb:aX w w1) (h0:0<=z) (h1:z<=1048576)=>aAU A.r A.cr n.reqs z w1 h0 h1 hz.r hz.rk (ha.below hb).r);have HQ:Hid ((n.kids.length<=1048576)->(n.pu.length<=1048576/\∀p∈n.pu,p.k.size<=1048576)->(n.out.length<=1048576/\∀p∈n.out,p.k.size<=1048576)->(n.seen.length<=1048576/\∀p∈n.seen,p.ids.length<=1048576)->(n.reqs.length<=1048576/\∀p∈n.reqs,p.k.size<=1048576)->fu n 1048576):=λh1 h2 h3 h4 h5=>⟨h1,h2.1,h3.1,h4.1,h5.1,h2.2,h3.2,h4.2,h5.2⟩
 have kE:=Hq (heap_alloc_new w (.cells (dH n A) 63));have hkl:=hz.k;clear ha hz;generalize fu n 1048576=NZ at *;open aBZ in exact Yx5
theorem ays (n:Nd) (A A':bH) (w:World) (hz:fu n 1048600) (ha:dK w A n) (hb:dK w A' n):
 Calls Tryz.prog 28 #[fI n A,fI n A'] w (eP w (.bool true)):=by
 have HK:=Hq (λw1 (h:aX w w1)=>azC A.k A'.k A.ck A'.ck n.kids w1 hz.k (ha.below h).k (hb.below h).k);have HP:=Hq (λw1 (h:aX w w1)=>azD A.p A'.p A.cp A'.cp n.pu w1 hz.p (ha.below h).p (hb.below h).p);have HO:=Hq (λw1 (h:aX w w1)=>aAd A.o A'.o A.co A'.co n.out w1 hz.o (ha.below h).o (hb.below h).o);have HS:=Hq (λw1 (h:aX w w1)=>aAc A.s A'.s A.cs A'.cs n.seen w1 hz.s hz.sk (ha.below h).s (hb.below h).s);have HR:=Hq (λw1 (h:aX w w1)=>aAI A.r A'.r A.cr A'.cr n.reqs w1 hz.r (ha.below h).r (hb.below h).r);obtain⟨hA0,hB0,hL0⟩:=aAa w (.cells (dH n A) 30) (.cells (dH n A') 30);have HA0:=Hq hA0;have HB0:=Hq hB0;have KN:=Hq hL0;clear ha hb hz hA0 hB0 hL0;open aBY in exact Yx5
end Go.Proofs.YtacgbldlonoaaaaGreatDoor
namespace Go.Proofs.YtacgbldlonoaaaaGreatDoor.Mth
open Go.Lib (decDigits itoa)
theorem digits_small (v:Nat) (h:v < 10):decDigits v=[UInt8.ofNat (48+v)]:=by rw [decDigits,dif_pos h]
theorem digits_big (v:Nat) (h:¬v < 10):decDigits v=decDigits (v / 10)++[UInt8.ofNat (48+v % 10)]:=by rw [decDigits,dif_neg h]
end Go.Proofs.YtacgbldlonoaaaaGreatDoor.Mth
namespace Go.Proofs.YtacgbldlonoaaaaGreatDoor
open Go.RowKit
open Go.Lib (decDigits itoa)
def ax8 (a:Nat):List UInt8:=if a=0 then[] else decDigits a
theorem left_step (a:Nat) (l t:List UInt8) (h0:a≠0) (h:ax8 a++l=t):ax8 (a / 10)++(UInt8.ofNat (48+a % 10)::l)=t:=by
 unfold ax8 at *;rw [if_neg h0] at h;by_cases hs:a < 10
 .have e1:a / 10=0:=Aaa
  have e2:a % 10=a:=Aaa
  rw [Mth.digits_small a hs] at h;rw [e1,e2,if_pos rfl];simpa using h
 .rw [Mth.digits_big a hs] at h;rw [if_neg Aaa,<-h];simp
set_option maxHeartbeats 1000000
set_option maxRecDepth 100000
open Go.Lib (decDigits)
def mark (k:Nat):ByteArray:=⟨(109::decDigits k).toArray⟩
theorem one_add (b:UInt8) (l:List UInt8):(ByteArray.mk #[b])++⟨l.toArray⟩=⟨(b::l).toArray⟩:=by
 apply ByteArray.ext;simp
theorem azA (w:World) (z:Int) (b:UInt8) (hz:z=b.toNat) (cap:Nat):(convert 22 9 (.slice (some ⟨w.heap.size,0,none⟩) 1 cap)).run Tryz.prog (w.alloc (.cells #[.int .u8 z] 5))= .ok (.string ⟨#[b]⟩) (w.alloc (.cells #[.int .u8 z] 5)):=by
 subst hz
 have:=run_convert_bytes_back (P:=Tryz.prog) (w.alloc (.cells #[.int .u8 (b.toNat:Int)] 5)) 22 9 5 ⟨w.heap.size,0,none⟩ cap [b] Tryz.underlying22 Tryz.underlying5 Tryz.underlying9 (λj hj=>by
  have:j=0:=Aat
  subst this;simp[Addr.add])
 simpa using this
theorem azT (k:Nat) (w:World) (h0:0 < k) (hk:(k:Int)<=9223372036854775807):
 Calls Tryz.prog 158 #[.int .i64 k] w (eP w (.string (mark k))):=by
 have hlen:(decDigits k).length<=21:=by have:=Lib.itoa_length_le k Aaa hk;rw [Lib.itoa,if_neg Aaa] at this;simpa using this
 have hpos:decide ((k:Int)<=0)=false:=Aag
 go_enter Tryz.func158,Tryz.ntmps158
 go_wp2
 go_loopw [0,3] (λm o wr=>∃(a:Nat) (l:List UInt8),a<=k/\m= .int .i64 a/\o= .string ⟨l.toArray⟩/\ax8 a++l=decDigits k/\aX w wr) (λm _ _=>(intOf m).toNat)
 case atStart=>exact⟨k,[],Nat.le_refl _,rfl,rfl,by unfold ax8;rw [if_neg Aaa];simp,Below.refl _ _⟩
 case round=>
  obtain⟨a,l,ha,rfl,rfl,hl,hbel⟩:=hrel;have HL:=Hq hl;have hll:l.length<=21:=by have:=congrArg List.length hl;rw [List.length_append] at this;omega
  clear hl;by_cases hz:a=0
  .subst hz;have HE:=Hq (show l=decDigits k by have:=ah HL;simpa [ax8] using this);have hA:=Hq (one_add 109 l);clear HL;go_wp2
   go_ret;exact⟨ayP (by unfold mark;rw [<-ah HE];exact hA),hbel⟩
  .have HS:=Hq (left_step a l _ hz HL);obtain⟨b,hb⟩:∃b,b=UInt8.ofNat (48+a % 10):=⟨_,rfl⟩;rw [<-hb] at HS;have hA:=Hq (one_add b l);have aeK:=azA wr (48+(a:Int) % 10) b (by rw [hb,Mth.toNat_byte _ Aaa];omega) 1;clear HL hb;go_wp2
   go_roundw
   case rel=>exact⟨a / 10,_,Aaa,Aai,by rw [ah hA],HS,by first|exact hbel.alloc (by have:=hbel.size;omega) _|exact(hbel.alloc (by have:=hbel.size;omega) _).drew⟩
   case measure=>simp[intOf];omega
open Mth
def mks {α:Type} (mk:Nat->α) (c s:Nat) (l:List α) (k:Nat):List α:=(List.range k).map (λi=>mk (s+c*i))++l.drop k
theorem ax1 {α:Type} (mk:Nat->α) (c s:Nat) (l:List α) (k:Nat) (hk:k<=l.length):(mks mk c s l k).length=l.length:=by simp[mks];omega
theorem azU {α:Type} (mk:Nat->α) (c s:Nat) (l:List α):mks mk c s l 0=l:=by simp[mks]
theorem aym {α:Type} (mk:Nat->α) (c s:Nat) (l:List α) (k:Nat) (hk:k < l.length):(mks mk c s l k).set k (mk (s+c*k))=mks mk c s l (k+1):=by
 have e:l.drop k=l[k]::l.drop (k+1):=List.drop_eq_getElem_cons hk;unfold mks;rw [e,List.set_append_right _ _ Aac];simp only[List.length_map,List.length_range,Nat.sub_self,List.set_cons_zero,List.range_succ,List.map_append,List.map_cons,List.map_nil,List.append_assoc,List.cons_append,List.nil_append]
theorem ayu {α:Type} (mk:Nat->α) (c s:Nat) (l:List α) (n k:Nat) (hk:k < n) (hn:n<=l.length):(mks mk c s l n)[k]'(by rw [ax1 mk c s l n hn];omega)=mk (s+c*k):=by
 unfold mks;rw [List.getElem_append_left Aca];simp
theorem ax4 {α:Type} {g:Nat} {l:List α} {w w':World} (h:aC [g] w w') (hl:0 < l.length):aC (fp g l) w w':=h.mono (λx hx=>by
 have:x=g:=Aaf
 rw [this]
 exact dQ hl)
theorem ayb (k:Nat) (z:Int) (w:World) (hz:z=k) (h0:0 < k) (hk:(k:Int)<=9223372036854775807):
 Calls Tryz.prog 158 #[.int .i64 z] w (eP w (.string (mark k))):=by
 subst hz;exact azT k w h0 hk
set_option maxHeartbeats 2000000
def ax0 (k:Nat):Pu:=⟨mark k,(k:Int)+1,(k:Int)+2,(k:Int)+3⟩
theorem GR.W.fourPurse {w:World} {a:Option Addr} {g:Nat} {l:List Pu} (h:GR.W fE 4 w a g l) (i:Nat) (hi:i < l.length):a=some ⟨g,0,none⟩/\g < w.heap.size/\(w.cell? ⟨g,i*4,none⟩=some (.string l[i].k)/\w.cell? ⟨g,i*4+1,none⟩=some (.int .i64 l[i].m)/\w.cell? ⟨g,i*4+2,none⟩=some (.int .i64 l[i].f)/\w.cell? ⟨g,i*4+3,none⟩=some (.int .i64 l[i].s))/\w.frozen? ⟨g,i*4,none⟩=false/\w.frozen? ⟨g,i*4+1,none⟩=false/\w.frozen? ⟨g,i*4+2,none⟩=false/\w.frozen? ⟨g,i*4+3,none⟩=false:=by
 exact aBp
theorem ayL (a:Option Addr) (g c s:Nat) (l:List Pu) (w:World) (hs0:0 < s) (hs1:s<=4000000000000) (hl:l.length<=1048600) (ha:GR.W fE 4 w a g l):
 Calls Tryz.prog 89 #[.slice a l.length c,.int .i64 s] w λe w'=>e= .returned (.int .i64 (s+4*(l.length:Int)))/\GR.W fE 4 w' a g (mks ax0 4 s l l.length)/\aC (fp g l) w w':=by
 have HA:=Hq ha;clear ha;go_enter Tryz.func89,Tryz.ntmps89
 go_wp2_with fail;go_loopw [1,5] (λkk i wr=>∃k m:Nat,k<=l.length/\i= .int .i64 k/\kk= .int .i64 m/\m=s+4*k/\GR.W fE 4 wr a g (mks ax0 4 s l k)/\aC (fp g l) w wr) (λ_ i _=>l.length - (intOf i).toNat)
 case atStart=>exact az7
 case round=>
  open Sx3 in exact Yx0
theorem ayI (a:Option Addr) (g c n s:Nat) (l:List Pu) (w:World) (hn:n=l.length) (hs0:0 < s) (hs1:s<=4000000000000) (hl:l.length<=1048600) (ha:GR.W fE 4 w a g (mks ax0 4 s l l.length)):
 Calls Tryz.prog 94 #[.slice a n c,.int .i64 s] w (eP w (.int .i64 (s+4*(l.length:Int)))):=by
 have HA:=Hq ha;clear ha;subst hn;go_enter Tryz.func94,Tryz.ntmps94
 go_wp2_with fail;go_loopw [1,5] (λkk i wr=>∃k m:Nat,k<=l.length/\i= .int .i64 k/\kk= .int .i64 m/\m=s+4*k/\aX w wr) (λ_ i _=>l.length - (intOf i).toNat)
 case atStart=>exact azw
 case round=>
  open aBW in exact Yx4
def ax2 (k:Nat):kC:=⟨(k:Int),(k:Int)+1,mark (k+2),(k:Int)+3⟩
theorem GR.W.fourSent {w:World} {a:Option Addr} {g:Nat} {l:List kC} (h:GR.W aR 4 w a g l) (i:Nat) (hi:i < l.length):a=some ⟨g,0,none⟩/\g < w.heap.size/\(w.cell? ⟨g,i*4,none⟩=some (.int .i64 l[i].i)/\w.cell? ⟨g,i*4+1,none⟩=some (.int .i64 l[i].t)/\w.cell? ⟨g,i*4+2,none⟩=some (.string l[i].k)/\w.cell? ⟨g,i*4+3,none⟩=some (.int .i64 l[i].n))/\w.frozen? ⟨g,i*4,none⟩=false/\w.frozen? ⟨g,i*4+1,none⟩=false/\w.frozen? ⟨g,i*4+2,none⟩=false/\w.frozen? ⟨g,i*4+3,none⟩=false:=by
 exact aBp
theorem azj (a:Option Addr) (g c s:Nat) (l:List kC) (w:World) (hs0:0 < s) (hs1:s<=4000000000000) (hl:l.length<=1048600) (ha:GR.W aR 4 w a g l):
 Calls Tryz.prog 90 #[.slice a l.length c,.int .i64 s] w λe w'=>e= .returned (.int .i64 (s+4*(l.length:Int)))/\GR.W aR 4 w' a g (mks ax2 4 s l l.length)/\aC (fp g l) w w':=by
 have HA:=Hq ha;clear ha;go_enter Tryz.func90,Tryz.ntmps90
 go_wp2_with fail;go_loopw [1,5] (λkk i wr=>∃k m:Nat,k<=l.length/\i= .int .i64 k/\kk= .int .i64 m/\m=s+4*k/\GR.W aR 4 wr a g (mks ax2 4 s l k)/\aC (fp g l) w wr) (λ_ i _=>l.length - (intOf i).toNat)
 case atStart=>exact az7
 case round=>
  open Sx2 in exact Yx0
theorem azf (a:Option Addr) (g c n s:Nat) (l:List kC) (w:World) (hn:n=l.length) (hs0:0 < s) (hs1:s<=4000000000000) (hl:l.length<=1048600) (ha:GR.W aR 4 w a g (mks ax2 4 s l l.length)):
 Calls Tryz.prog 95 #[.slice a n c,.int .i64 s] w (eP w (.int .i64 (s+4*(l.length:Int)))):=by
 have HA:=Hq ha;clear ha;subst hn;go_enter Tryz.func95,Tryz.ntmps95
 go_wp2_with fail;go_loopw [1,5] (λkk i wr=>∃k m:Nat,k<=l.length/\i= .int .i64 k/\kk= .int .i64 m/\m=s+4*k/\aX w wr) (λ_ i _=>l.length - (intOf i).toNat)
 case atStart=>exact azw
 case round=>
  open aBV in exact Yx4
def ax6 (k:Nat):Rq:=⟨(k:Int),mark (k+1),(k:Int)+2,(k:Int)+3⟩
theorem azR (a:Option Addr) (g c s:Nat) (l:List Rq) (w:World) (hs0:0 < s) (hs1:s<=4000000000000) (hl:l.length<=1048600) (ha:GR.W aM 4 w a g l):
 Calls Tryz.prog 92 #[.slice a l.length c,.int .i64 s] w λe w'=>e= .returned (.int .i64 (s+4*(l.length:Int)))/\GR.W aM 4 w' a g (mks ax6 4 s l l.length)/\aC (fp g l) w w':=by
 have HA:=Hq ha;clear ha;go_enter Tryz.func92,Tryz.ntmps92
 go_wp2_with fail;go_loopw [1,5] (λkk i wr=>∃k m:Nat,k<=l.length/\i= .int .i64 k/\kk= .int .i64 m/\m=s+4*k/\GR.W aM 4 wr a g (mks ax6 4 s l k)/\aC (fp g l) w wr) (λ_ i _=>l.length - (intOf i).toNat)
 case atStart=>exact az7
 case round=>
  open Sx1 in exact Yx0
theorem azI (a:Option Addr) (g c n s:Nat) (l:List Rq) (w:World) (hn:n=l.length) (hs0:0 < s) (hs1:s<=4000000000000) (hl:l.length<=1048600) (ha:GR.W aM 4 w a g (mks ax6 4 s l l.length)):
 Calls Tryz.prog 97 #[.slice a n c,.int .i64 s] w (eP w (.int .i64 (s+4*(l.length:Int)))):=by
 have HA:=Hq ha;clear ha;subst hn;go_enter Tryz.func97,Tryz.ntmps97
 go_wp2_with fail;go_loopw [1,5] (λkk i wr=>∃k m:Nat,k<=l.length/\i= .int .i64 k/\kk= .int .i64 m/\m=s+4*k/\aX w wr) (λ_ i _=>l.length - (intOf i).toNat)
 case atStart=>exact azw
 case round=>
  open aBU in exact Yx4
def mkInt (k:Nat):Int:=k
theorem azQ (a:Option Addr) (g c s:Nat) (l:List Int) (w:World) (hs0:0 < s) (hs1:s<=4000000000000) (hl:l.length<=1048600) (ha:GR.W aW 1 w a g l):
 Calls Tryz.prog 88 #[.slice a l.length c,.int .i64 s] w λe w'=>e= .returned (.int .i64 (s+(l.length:Int)))/\GR.W aW 1 w' a g (mks mkInt 1 s l l.length)/\aC (fp g l) w w':=by
 have HA:=Hq ha;clear ha;go_enter Tryz.func88,Tryz.ntmps88
 go_wp2_with fail;go_loopw [1,5] (λkk i wr=>∃k m:Nat,k<=l.length/\i= .int .i64 k/\kk= .int .i64 m/\m=s+1*k/\GR.W aW 1 wr a g (mks mkInt 1 s l k)/\aC (fp g l) w wr) (λ_ i _=>l.length - (intOf i).toNat)
 case atStart=>exact az7
 case round=>
  open Sx0 in exact Yx0
theorem azH (a:Option Addr) (g c n s:Nat) (l:List Int) (w:World) (hn:n=l.length) (hs0:0 < s) (hs1:s<=4000000000000) (hl:l.length<=1048600) (ha:GR.W aW 1 w a g (mks mkInt 1 s l l.length)):
 Calls Tryz.prog 93 #[.slice a n c,.int .i64 s] w (eP w (.int .i64 (s+(l.length:Int)))):=by
 have HA:=Hq ha;clear ha;subst hn;go_enter Tryz.func93,Tryz.ntmps93
 go_wp2_with fail;go_loopw [1,5] (λkk i wr=>∃k m:Nat,k<=l.length/\i= .int .i64 k/\kk= .int .i64 m/\m=s+1*k/\aX w wr) (λ_ i _=>l.length - (intOf i).toNat)
 case atStart=>exact azw
 case round=>
  open aBT in exact Yx4
set_option maxHeartbeats 2000000
def mSn (s:Nat) (x:Sn):Sn:=⟨(s:Int),(s:Int)+1,mks mkInt 1 (s+2) x.ids x.ids.length⟩
def eSn (s:Nat) (x:Sn):Nat:=s+2+x.ids.length
def ax7:Nat->List Sn->List Sn
 |_,[]=>[]
 |s,x::r=>mSn s x::ax7 (eSn s x) r
def ax3:Nat->List Sn->Nat
 |s,[]=>s
 |s,x::r=>ax3 (eSn s x) r
theorem ayK (s:Nat) (l:List Sn) (x:Sn):ax7 s (l++[x])=ax7 s l++[mSn (ax3 s l) x]:=by
 induction l generalizing s with
 |nil=>rfl
 |cons y l ih=>simp[ax7,ax3,ih]
theorem ayo (s:Nat) (l:List Sn) (x:Sn):ax3 s (l++[x])=eSn (ax3 s l) x:=by
 induction l generalizing s with
 |nil=>rfl
 |cons y l ih=>simp[ax3,ih]
theorem ax5 (s:Nat) (l:List Sn):(ax7 s l).length=l.length:=by
 induction l generalizing s with
 |nil=>rfl
 |cons y l ih=>simp[ax7,ih]
theorem ayU (s:Nat) (x:Sn):(mSn s x).ids.length=x.ids.length:=ax1 mkInt 1 (s+2) x.ids x.ids.length (Nat.le_refl _)
theorem ayx (s b:Nat) (l:List Sn) (h:∀x∈l,x.ids.length<=b):s<=ax3 s l/\ax3 s l<=s+l.length*(b+2):=by
 induction l generalizing s with
 |nil=>simp[ax3]
 |cons y l ih=>
  have h1:=h y Aac
  have h2:=ih (eSn s y) (λx hx=>h x (List.mem_cons_of_mem _ hx))
  simp only[ax3,List.length_cons,Nat.add_mul,Nat.one_mul]
  unfold eSn at *
  omega
def mSk (s:Nat) (l:List Sn) (k:Nat):List Sn:=ax7 s (l.take k)++l.drop k
theorem aye (s:Nat) (l:List Sn) (k:Nat) (hk:k<=l.length):(mSk s l k).length=l.length:=by simp[mSk,ax5];omega
theorem azM (s:Nat) (l:List Sn):mSk s l 0=l:=rfl
theorem aAo (s:Nat) (l:List Sn):mSk s l l.length=ax7 s l:=by simp[mSk]
theorem azL (s:Nat) (l:List Sn) (k:Nat) (hk:k < l.length):(mSk s l k)[k]'(by rw [aye s l k Aaa];exact hk)=l[k]:=by
 unfold mSk;have h1:(ax7 s (l.take k)).length=k:=by rw [ax5];simp;omega
 rw [List.getElem_append_right Aaa];simp[h1]
theorem ayT (s:Nat) (l:List Sn) (k:Nat) (hk:k < l.length):(mSk s l k).set k (mSn (ax3 s (l.take k)) l[k])=mSk s l (k+1):=by
 have h1:(ax7 s (l.take k)).length=k:=by rw [ax5];simp;omega
 have e:l.drop k=l[k]::l.drop (k+1):=List.drop_eq_getElem_cons hk;unfold mSk;rw [e,List.set_append_right _ _ Aaa,h1,Nat.sub_self,List.set_cons_zero,List.take_succ_eq_append_getElem hk,ayK,List.append_assoc];rfl
theorem ayf {I:Nat->Nat} {l l':List Sn} (hl:l.length=l'.length) (h:∀i (h1:i < l.length) (h2:i < l'.length),l[i].ids.length=l'[i].ids.length):qw I l=qw I l':=by
 unfold qw;rw [hl]
 have:∀i∈List.range l'.length,fp (I i) (l.getD i default).ids=fp (I i) (l'.getD i default).ids:=λi hi=>by
  have h2:=List.mem_range.1 hi
  have h1:i < l.length:=Aaa
  apply PW
  rw [List.getD_eq_getElem?_getD,List.getElem?_eq_getElem h1,List.getD_eq_getElem?_getD,List.getElem?_eq_getElem h2]
  exact h i h1 h2
 rw [List.flatMap_def,List.flatMap_def,List.map_congr_left this]
theorem ayB (a:Option Addr) (g c s:Nat) (z:Int) (l:List Int) (w:World) (hz:z=(s:Int)) (hs0:0 < s) (hs1:s<=4000000000000) (hl:l.length<=1048600) (ha:GR.W aW 1 w a g l):
 Calls Tryz.prog 88 #[.slice a l.length c,.int .i64 z] w λe w'=>e= .returned (.int .i64 (s+(l.length:Int)))/\GR.W aW 1 w' a g (mks mkInt 1 s l l.length)/\aC (fp g l) w w':=by
 subst hz;exact azQ a g c s l w hs0 hs1 hl ha
theorem ayy (a:Option Addr) (g c n s:Nat) (z:Int) (l:List Int) (w:World) (hz:z=(s:Int)) (hn:n=l.length) (hs0:0 < s) (hs1:s<=4000000000000) (hl:l.length<=1048600) (ha:GR.W aW 1 w a g (mks mkInt 1 s l l.length)):
 Calls Tryz.prog 93 #[.slice a n c,.int .i64 z] w (eP w (.int .i64 (s+(l.length:Int)))):=by
 subst hz;exact azH a g c n s l w hn hs0 hs1 hl ha
theorem ayA (s:Nat) (l:List Sn) (k:Nat) (hk:k < l.length):(ax7 s l)[k]'(by rw [ax5];exact hk)=mSn (ax3 s (l.take k)) l[k]:=by
 induction l generalizing s k with
 |nil=>simp at hk
 |cons y l ih=>
  cases k with
  |zero=>rfl
  |succ k=>
   simp only[ax7,List.getElem_cons_succ,List.take_succ_cons,ax3]
   exact ih (eSn s y) k Aca
theorem ayS (s:Nat) (l:List Sn) (k:Nat) (hk:k<=l.length):∀i (h1:i < (mSk s l k).length) (h2:i < l.length),((mSk s l k)[i]).ids.length=(l[i]).ids.length:=by
 induction k with
 |zero=>intro i h1 h2;rfl
 |succ k ih=>
  intro i h1 h2
  have hk':k < l.length:=Aaa
  have e:=ayT s l k hk'
  have h3:i < ((mSk s l k).set k (mSn (ax3 s (l.take k)) l[k])).length:=by rw [e];exact h1
  have h4:(mSk s l (k+1))[i]=((mSk s l k).set k (mSn (ax3 s (l.take k)) l[k]))[i]'h3:=by simp only[e]
  rw [h4]
  by_cases hik:i=k
  .subst hik;rw [List.getElem_set_self,ayU]
  .rw [List.getElem_set_ne Aaa];exact ih Aaa i (by simpa using h3) h2
theorem azh (a:Option Addr) (g c s:Nat) (I:Nat->Nat) (l:List Sn) (w:World) (hs0:0 < s) (hs1:s<=100000000) (hl:l.length<=1048600) (hl2:∀x∈l,x.ids.length<=1048600) (hnd:(fp g l++qw I l).Nodup) (ha:fP w a g I l):
 Calls Tryz.prog 91 #[.slice a l.length c,.int .i64 s] w λe w'=>e= .returned (.int .i64 (ax3 s l:Nat))/\fP w' a g I (ax7 s l)/\aC (fp g l++qw I l) w w':=by
 have HA:=Hq ha;have HL2:=Hq hl2;have HND:=Hq (List.nodup_append.1 hnd);clear ha hl2 hnd;go_enter Tryz.func91,Tryz.ntmps91
 go_wp2_with fail;go_loopw [1,5] (λkk i wr=>∃k m:Nat,k<=l.length/\i= .int .i64 k/\kk= .int .i64 m/\m=ax3 s (l.take k)/\fP wr a g I (mSk s l k)/\aC (fp g l++qw I l) w wr) (λ_ i _=>l.length - (intOf i).toNat)
 case atStart=>exact⟨0,s,Nat.zero_le _,rfl,rfl,rfl,by rw [azM];exact HA,aC.refl _ _⟩
 case round=>
  open Sx4 in exact Yx0
theorem azd (a:Option Addr) (g c n s:Nat) (I:Nat->Nat) (l:List Sn) (w:World) (hn:n=l.length) (hs0:0 < s) (hs1:s<=100000000) (hl:l.length<=1048600) (hl2:∀x∈l,x.ids.length<=1048600) (ha:fP w a g I (ax7 s l)):
 Calls Tryz.prog 96 #[.slice a n c,.int .i64 s] w (eP w (.int .i64 (ax3 s l:Nat))):=by
 have HA:=Hq ha;have HL2:=Hq hl2;clear ha hl2;subst hn;go_enter Tryz.func96,Tryz.ntmps96
 go_wp2_with fail;go_loopw [1,5] (λkk i wr=>∃k m:Nat,k<=l.length/\i= .int .i64 k/\kk= .int .i64 m/\m=ax3 s (l.take k)/\aX w wr) (λ_ i _=>l.length - (intOf i).toNat)
 case atStart=>exact azw
 case round=>
  open aBX in exact Yx4
set_option maxHeartbeats 2000000
def sP (n:Nd):Nat:=1+n.kids.length
def sO (n:Nd):Nat:=sP n+4*n.pu.length
def sS (n:Nd):Nat:=sO n+4*n.out.length
def sR (n:Nd):Nat:=ax3 (sS n) n.seen
def ayj (n:Nd):Nat:=sR n+4*n.reqs.length
def ayz (n:Nd):Nd:=⟨n.id,n.par,mks mkInt 1 1 n.kids n.kids.length,n.next,mks ax0 4 (sP n) n.pu n.pu.length,mks ax2 4 (sO n) n.out n.out.length,ax7 (sS n) n.seen,n.old,mks ax6 4 (sR n) n.reqs n.reqs.length⟩
theorem azW {n:Nd} (hz:fu n 1048600):0 < sP n/\sP n<=10000000/\0 < sO n/\sO n<=50000000/\0 < sS n/\sS n<=100000000/\0 < sR n/\sR n<=3000000000000:=by
 have h:=ayx (sS n) 1048600 n.seen hz.sk;have h1:=hz.k;have h2:=hz.p;have h3:=hz.o;have h4:=hz.s;unfold sR;generalize ax3 (sS n) n.seen=z at *;unfold sS sO sP at *;omega
theorem ayM (a:Option Addr) (g c s:Nat) (z:Int) (l:List Pu) (w:World) (hz:z=(s:Int)) (hs0:0 < s) (hs1:s<=4000000000000) (hl:l.length<=1048600) (ha:GR.W fE 4 w a g l):
 Calls Tryz.prog 89 #[.slice a l.length c,.int .i64 z] w λe w'=>e= .returned (.int .i64 (s+4*(l.length:Int)))/\GR.W fE 4 w' a g (mks ax0 4 s l l.length)/\aC (fp g l) w w':=by
 subst hz;exact ayL a g c s l w hs0 hs1 hl ha
theorem azk (a:Option Addr) (g c s:Nat) (z:Int) (l:List kC) (w:World) (hz:z=(s:Int)) (hs0:0 < s) (hs1:s<=4000000000000) (hl:l.length<=1048600) (ha:GR.W aR 4 w a g l):
 Calls Tryz.prog 90 #[.slice a l.length c,.int .i64 z] w λe w'=>e= .returned (.int .i64 (s+4*(l.length:Int)))/\GR.W aR 4 w' a g (mks ax2 4 s l l.length)/\aC (fp g l) w w':=by
 subst hz;exact azj a g c s l w hs0 hs1 hl ha
theorem azS (a:Option Addr) (g c s:Nat) (z:Int) (l:List Rq) (w:World) (hz:z=(s:Int)) (hs0:0 < s) (hs1:s<=4000000000000) (hl:l.length<=1048600) (ha:GR.W aM 4 w a g l):
 Calls Tryz.prog 92 #[.slice a l.length c,.int .i64 z] w λe w'=>e= .returned (.int .i64 (s+4*(l.length:Int)))/\GR.W aM 4 w' a g (mks ax6 4 s l l.length)/\aC (fp g l) w w':=by
 subst hz;exact azR a g c s l w hs0 hs1 hl ha
theorem azi (a:Option Addr) (g c s:Nat) (z:Int) (I:Nat->Nat) (l:List Sn) (w:World) (hz:z=(s:Int)) (hs0:0 < s) (hs1:s<=100000000) (hl:l.length<=1048600) (hl2:∀x∈l,x.ids.length<=1048600) (hnd:(fp g l++qw I l).Nodup) (ha:fP w a g I l):
 Calls Tryz.prog 91 #[.slice a l.length c,.int .i64 z] w λe w'=>e= .returned (.int .i64 (ax3 s l:Nat))/\fP w' a g I (ax7 s l)/\aC (fp g l++qw I l) w w':=by
 subst hz;exact azh a g c s I l w hs0 hs1 hl hl2 hnd ha
theorem ayJ (a:Option Addr) (g c n s:Nat) (z:Int) (l:List Pu) (w:World) (hz:z=(s:Int)) (hn:n=l.length) (hs0:0 < s) (hs1:s<=4000000000000) (hl:l.length<=1048600) (ha:GR.W fE 4 w a g (mks ax0 4 s l l.length)):
 Calls Tryz.prog 94 #[.slice a n c,.int .i64 z] w (eP w (.int .i64 (s+4*(l.length:Int)))):=by
 subst hz;exact ayI a g c n s l w hn hs0 hs1 hl ha
theorem azg (a:Option Addr) (g c n s:Nat) (z:Int) (l:List kC) (w:World) (hz:z=(s:Int)) (hn:n=l.length) (hs0:0 < s) (hs1:s<=4000000000000) (hl:l.length<=1048600) (ha:GR.W aR 4 w a g (mks ax2 4 s l l.length)):
 Calls Tryz.prog 95 #[.slice a n c,.int .i64 z] w (eP w (.int .i64 (s+4*(l.length:Int)))):=by
 subst hz;exact azf a g c n s l w hn hs0 hs1 hl ha
theorem azJ (a:Option Addr) (g c n s:Nat) (z:Int) (l:List Rq) (w:World) (hz:z=(s:Int)) (hn:n=l.length) (hs0:0 < s) (hs1:s<=4000000000000) (hl:l.length<=1048600) (ha:GR.W aM 4 w a g (mks ax6 4 s l l.length)):
 Calls Tryz.prog 97 #[.slice a n c,.int .i64 z] w (eP w (.int .i64 (s+4*(l.length:Int)))):=by
 subst hz;exact azI a g c n s l w hn hs0 hs1 hl ha
theorem aze (a:Option Addr) (g c n s:Nat) (z:Int) (I:Nat->Nat) (l:List Sn) (w:World) (hz:z=(s:Int)) (hn:n=l.length) (hs0:0 < s) (hs1:s<=100000000) (hl:l.length<=1048600) (hl2:∀x∈l,x.ids.length<=1048600) (ha:fP w a g I (ax7 s l)):
 Calls Tryz.prog 96 #[.slice a n c,.int .i64 z] w (eP w (.int .i64 (ax3 s l:Nat))):=by
 subst hz;exact azd a g c n s I l w hn hs0 hs1 hl hl2 ha
theorem aya {α:Type} {mk:Nat->α} {c s g x:Nat} {l:List α} (h:x∈fp g (mks mk c s l l.length)):x∈fp g l:=by
 rw [PW (ax1 mk c s l l.length (Nat.le_refl _))] at h;exact h
theorem aBv {s g x:Nat} {l:List Sn} (h:x∈fp g (ax7 s l)):x∈fp g l:=by
 rw [PW (ax5 s l)] at h;exact h
theorem aAL {I:Nat->Nat} {s x:Nat} {l:List Sn} (h:x∈qw I (ax7 s l)):x∈qw I l:=by
 rw [ayf (ax5 s l) (λi h1 h2=>by rw [ayA s l i h2,ayU])] at h;exact h
theorem azv {w:World} {a:Option Addr} {g:Nat} {I:Nat->Nat} {l:List Sn} (h:fP w a g I l):∀x∈fp g l++qw I l,x < w.heap.size:=λx hx=>by
 obtain⟨T,hT,hl,hr⟩:=h;rcases List.mem_append.1 hx with hx|hx
 .rw [(gH hx).1];exact(hT 0 (by have:=(gH hx).2;omega)).2.1
 .obtain⟨i,hi,rfl,hp⟩:=uG hx;obtain⟨b,c,_,hi2⟩:=hr i hi;exact(hi2 0 hp).2.1
theorem ayr (n:Nd) (A:bH) (G:aV) (w:World) (hz:fu n 1048600) (hnd:(G.all n).Nodup) (ha:sZ w A G n):
 Calls Tryz.prog 29 #[fI n A,.int .i64 1] w λe w'=>e= .returned (.int .i64 (ayj n:Nat))/\sZ w' A G (ayz n)/\aC (G.all n) w w':=by
 have hb0:=aj w (.cells (dH n A) 30);open aCm in exact aBo
theorem ayq (n:Nd) (A:bH) (G:aV) (w:World) (hz:fu n 1048600) (ha:sZ w A G (ayz n)):
 Calls Tryz.prog 30 #[fI n A,.int .i64 1] w (eP w (.int .i64 (ayj n:Nat))):=by
 open aCl in exact aBo
theorem ayc {c:Nat->Nat} {a:Nat} {l m:List Nat} (hl:l.Nodup) (hm:m.Nodup) (h1:∀x∈l,c x=a) (h2:∀x∈m,c x≠a):(l++m).Nodup:=by
 rw [List.nodup_append];exact⟨hl,hm,λx hx y hy e=>h2 y hy (by rw [<-e];exact h1 x hx)⟩
theorem NO.full {w:World} {B:Nat} {n:Nd} {A:bH} {G:aV} {c:Nat->Nat} (h:NO w B n A G c):
 ∃G2,sZ w A G2 n/\G2.Sep n B w.heap.size/\∀x∈G2.all n,c x≠0/\c x<=6:=by
 obtain⟨_,_,go,eo,hWo,hro,hoo⟩:=GR.W.of_own (enc:=aR) cZ h.o;cases eo
 obtain⟨_,_,gr,er,hWr,hrr,hor⟩:=GR.W.of_own (enc:=aM) bg h.r;cases er
 have c1:=h.ck;have c2:=h.cp;have c3:∀x∈fp go n.out,c x=3:=λx hx=>h.co x (hoo x hx)
 have c4:=h.c4;have c5:=h.ci;have c6:∀x∈fp gr n.reqs,c x=6:=λx hx=>h.cr x (hor x hx)
 have TL:∀x∈aV.all ⟨G.k,G.p,go,G.s,gr,G.i⟩ n,c x≠0/\c x<=6:=λx hx=>by
  rcases aV.mem_all.1 hx with h1|h1|h1|h1|h1|h1
  .have:=c1 x h1;omega
  .have:=c2 x h1;omega
  .have:=c3 x h1;omega
  .have:=c4 x h1;omega
  .have:=c5 x h1;omega
  .have:=c6 x h1;omega
 refine⟨⟨G.k,G.p,go,G.s,gr,G.i⟩,⟨h.k,h.p,hWo,h.s,hWr⟩,⟨?_,λx hx=>⟨?_,?_⟩⟩,TL⟩
 .unfold aV.all;refine ayc (c:=c) (a:=1) (Db _ _) ?_ c1 (λx hx=>?_)
  .refine ayc (c:=c) (a:=2) (Db _ _) ?_ c2 (λx hx=>?_)
   .refine ayc (c:=c) (a:=3) (Db _ _) ?_ c3 (λx hx=>?_)
    .refine ayc (c:=c) (a:=4) (Db _ _) ?_ c4 (λx hx=>?_)
     .refine ayc (c:=c) (a:=5) h.ni (Db _ _) c5 (λx hx=>?_);have:=c6 x hx;omega
     .rcases List.mem_append.1 hx with h1|h1
      .have:=c5 x h1;omega
      .have:=c6 x h1;omega
    .rcases List.mem_append.1 hx with h1|h1
     .have:=c4 x h1;omega
     .exact aBq
   .rcases List.mem_append.1 hx with h1|h1
    .have:=c3 x h1;omega
    .exact aBt
  .rcases List.mem_append.1 hx with h1|h1
   .have:=c2 x h1;omega
   .rcases List.mem_append.1 h1 with h1|h1
    .have:=c3 x h1;omega
    .exact aBt
 .by_cases hlt:x < B
  .have:=h.lo x hlt;have:=TL x hx;omega
  .omega
 .rcases aV.mem_all.1 hx with h1|h1|h1|h1|h1|h1
  .exact Da h.k x h1
  .exact Da h.p x h1
  .exact Da hWo x h1
  .exact(qh h.s).1 x h1
  .exact(qh h.s).2 x h1
  .exact Da hWr x h1
end Go.Proofs.YtacgbldlonoaaaaGreatDoor
