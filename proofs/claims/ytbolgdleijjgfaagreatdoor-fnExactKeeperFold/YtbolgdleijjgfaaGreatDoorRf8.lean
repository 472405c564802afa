/- Parts. -/
import Derived.Test.YtbolgdleijjgfaaGreatDoorRf2
import Derived.Test.YtbolgdleijjgfaaGreatDoorRf4
namespace Go.Proofs.YtbolgdleijjgfaaGreatDoor
open Go.Proofs.Tryz
set_option maxHeartbeats 4000000
set_option maxRecDepth 100000
open Go.RowKit
open Mth
variable (a:Option Addr) (cap:Nat) (l:List Pu) {w w1 W:World} {g:Nat} {t:TypeId} {a0 a1 a2 a3 b0 b1 b2 b3 v:Value} {A:Obj} {P:Program}
abbrev aG (w:World) (a:Option Addr) (l:List Pu):Prop:=GR.At fA 4 w a l
theorem aG.four {a:Option Addr} {l:List Pu} (h:aG w a l) (i:Nat) (hi:i < l.length):∃g off,a=some ⟨g,off,none⟩/\g < w.heap.size/\w.cell? ⟨g,off+i*4,none⟩=some (.string l[i].k)/\w.cell? ⟨g,off+i*4+1,none⟩=some (.int .i64 l[i].m)/\w.cell? ⟨g,off+i*4+2,none⟩=some (.int .i64 l[i].f)/\w.cell? ⟨g,off+i*4+3,none⟩=some (.int .i64 l[i].s):=by
 obtain⟨g,off,e,hg,hc⟩:=h i hi;refine⟨g,off,e,hg,?_,?_,?_,?_⟩
 .simpa using hc 0 Aaa
 .exact Wp
 .exact Wq
 .exact Ws
theorem azH (s:ByteArray) (b:Bool) (hs:s.size<=maxLen) (hb:keyOk s.data.toList=b) (W:World) (n:Nat):Calls prog 93 #[.string s] (W.drewN n) λe w''=>e= .returned (.bool b)/\∃m,w''=W.drewN m:=by
 rw [<-hb];exact(K7 s _ hs).mono λe w' ⟨he,hw⟩=>⟨he,n,hw.symm⟩
theorem qAm (x:Int) (b:Bool) (hb:decide (yQ x 0 1000000000)=b) (W:World) (n:Nat):Calls prog 91 #[.int .i64 x] (W.drewN n) λe w''=>e= .returned (.bool b)/\∃m,w''=W.drewN m:=by
 rw [<-hb];exact(xM x _).mono λe w' ⟨he,hw⟩=>⟨he,n,hw.symm⟩
theorem qx (w:World) (hl:l.length<=1048600) (hk:∀p∈l,p.k.size<=maxLen) (ha:aG w a l):
 Calls prog 88 #[.slice a l.length cap] w (dU w (.bool (jv l))):=by
 have HA:=Hq ha;have HK:=Hq hk;clear ha hk;go_in
 go_wp2_with fail;go_loopw [3] (λi wr=>∃k:Nat,k<=l.length/\i= .int .i64 k/\(List.range k).all (oL l)=true/\aH w wr) (λi _=>l.length - (intOf i).toNat)
 case atStart=>exact abf
 case round=>
  obtain⟨k,hk,rfl,hall,hbel⟩:=hrel;have aZ:=Hq hbel;have jA:=Hq hall;clear hall hbel;by_cases hlt:k < l.length
  .have hks:=ah HK l[k] (aE8 hlt);open apQ in exact aw2
  .exact ahx
theorem xq (key:ByteArray) (w:World) (hl:l.length<=1048600) (ha:aG w a l):
 Calls prog 159 #[.slice a l.length cap,.string key] w (dU w (yx (aD l key))):=by
 have HA:=Hq ha;clear ha;go_in
 go_wp2_with fail;go_loopw [5] (λi wr=>∃k:Nat,k<=l.length/\i= .int .i64 k/\(l.take k).find? (λp=>p.k.toList == key.toList)=none/\wr=w.alloc (.cells (iX ⟨#[]⟩ 0 0 0) 155)) (λi _=>l.length - (intOf i).toNat)
 case atStart=>exact⟨0,aE7 _,rfl,rfl,rfl⟩
 case round=>
  obtain⟨k,hk,rfl,hnone,rfl⟩:=hrel;have HN:=Hq hnone;clear hnone;by_cases hlt:k < l.length
  .obtain⟨g,off,rfl,hgw,c0,c1,c2,c3⟩:=aG.four HA k hlt;have hfs:=J8 (λp=>p.k.toList == key.toList) l k hlt HN;cases hf:l[k].k.toList == key.toList
   .have HX:=Hq (hfs.2 hf);clear hfs HN;open awd in exact aaS
   .have HX:=Hq (show aD l key=l[k] by unfold aD;rw [hfs.1 hf];rfl);clear hfs HN;open awc in exact aaS
  .open amG in exact uI
theorem fZ (h:w.heap[g]?=some (.cells #[a0,a1,a2,a3] t (0,0))):
 (w.cell? ⟨g,0,none⟩=some a0/\w.cell? ⟨g,1,none⟩=some a1/\w.cell? ⟨g,2,none⟩=some a2/\w.cell? ⟨g,3,none⟩=some a3)/\(w.frozen? ⟨g,0,none⟩=false/\w.frozen? ⟨g,1,none⟩=false/\w.frozen? ⟨g,2,none⟩=false/\w.frozen? ⟨g,3,none⟩=false):=by
 have hc:∀i,w.cell? ⟨g,i,none⟩=#[a0,a1,a2,a3][i]?:=λi=>aE1 w g i _ t (0,0) h
 have hf:∀i,w.frozen? ⟨g,i,none⟩=false:=λi=>by unfold World.frozen?;rw [h];simp
 exact⟨⟨hc 0,hc 1,hc 2,hc 3⟩,hf 0,hf 1,hf 2,hf 3⟩
theorem dS (w:World) (o:Obj):Below w.heap.size w (w.alloc o):=(aE3 _ _).alloc (aER _) _
theorem FY:(prog.info? 155).map (λi=>(i.zero,i.size,i.bytes))=some (some (.agg (iX ByteArray.empty 0 0 0)),4,40):=Aab
theorem aG.news {x:Addr} {l:List Pu} (h:aG w (some x) l):∀j u,(GR.flat fA l)[j]?=some u->w.cell? (x.add j)=some u:=by
 intro j u hu
 have hj:j < l.length*4:=by
  have:=(aFK.1 hu).1;rwa [GR.flat_length fA 4 aQ] at this
 obtain⟨g,off,e,hg,hc⟩:=h (j / 4) Aaa;have hf:=GR.flat_at fA 4 aQ l (j / 4) Aaa (j % 4) Aaa;have ej:j / 4*4+j % 4=j:=Aaa
 rw [ej] at hf;have h2:=hc (j % 4) Aaa;exact ah3
theorem Fw (l:List Pu):∀u∈GR.flat fA l,u.oneCell'=true:=by
 intro u hu;unfold GR.flat at hu;rw [aGf] at hu;obtain⟨p,_,hp⟩:=hu;simp only[fA,aFd,aFW,or_false] at hp;rcases hp with rfl|rfl|rfl|rfl<;>rfl
abbrev tO (w:World) (g:Nat) (l:List Pu):Prop:=GR.Blk fA 155 w g l
theorem tO.four {l:List Pu} (h:tO w g l) (i:Nat) (hi:i < l.length):w.cell? ⟨g,i*4,none⟩=some (.string l[i].k)/\w.cell? ⟨g,i*4+1,none⟩=some (.int .i64 l[i].m)/\w.cell? ⟨g,i*4+2,none⟩=some (.int .i64 l[i].f)/\w.cell? ⟨g,i*4+3,none⟩=some (.int .i64 l[i].s):=
 ⟨by simpa using GR.Blk.cell h aQ i hi 0 Aaa,by simpa using GR.Blk.cell h aQ i hi 1 Aaa,by simpa using GR.Blk.cell h aQ i hi 2 Aaa,by simpa using GR.Blk.cell h aQ i hi 3 Aaa⟩
theorem LJ {w':World} {l:List Pu} (h:tO w g l) (hb:aH w w'):tO w' g l:=by
 have hl:=GR.Blk.lt h;unfold tO GR.Blk at *;rw [hb.block g hl];exact h
theorem Dt (n:Nat) (hn:n<=2000000):∀W:World,(Instr.makeSlice 34 (.int .i64 (n:Int)) (.int .i64 (n:Int))).run prog W= .ok (.slice (some ⟨W.heap.size,0,none⟩) n n) (W.alloc (.cells (GR.flat fA (List.replicate n ⟨ByteArray.empty,0,0,0⟩)).toArray 155)):=by
 obtain⟨i0,hi,hz0,hz1,hz2⟩:=aFt FY;intro W;have h:=run_make (P:=prog) W 34 155 i0 (.agg (iX ByteArray.empty 0 0 0)) underlying34 hi hz0 .i64 .i64 (n:Int) (n:Int) Aaa Aaa Abc Aaa;rw [hz1] at h;have e:=GR.made_flat fA 4 aQ Aaa ⟨ByteArray.empty,0,0,0⟩ (Value.agg (iX ByteArray.empty 0 0 0)).cells rfl n;exact Tn
theorem afR (p:Pu) (w:World):Calls prog 100 #[yx p] w (dU w (yx p)):=by
 obtain⟨k,m,f,s⟩:=p;go_in
 go_wp2_with fail;refine aEY (v:= .agg (iX k m f s)) (by simp[results,results100,go_sem]) rfl ⟨rfl,?_⟩;exact Wi
theorem aeX (p:Pu) (w:World):Calls prog 117 #[yx p,yx p] w (dU w (.bool true)):=by
 obtain⟨k,m,f,s⟩:=p;go_in
 exact aeH
theorem Dz (l:List Pu) (z:Pu) (k:Nat) (hk:k < l.length):(l.take k++List.replicate (l.length - k) z).set k l[k]=l.take (k+1)++List.replicate (l.length - (k+1)) z:=by
 exact abj
theorem adI (w:World) (hl:l.length<=1048576) (ha:aG w a l):
 Calls prog 52 #[.slice a l.length cap] w λe w'=>e= .returned (.slice (some ⟨w.heap.size,0,none⟩) l.length l.length)/\tO w' w.heap.size l/\aH w w':=by
 have hmk:=Dt l.length Aaa;have HA:=Hq ha;clear ha;go_in
 go_wp2_with fail;go_loopw [4] (λi wr=>∃k:Nat,k<=l.length/\i= .int .i64 k/\tO wr w.heap.size (l.take k++List.replicate (l.length - k) ⟨ByteArray.empty,0,0,0⟩)/\aH w wr) (λi _=>l.length - (intOf i).toNat)
 case atStart=>exact aik
 case round=>
  open ap8 in exact Tf
theorem afO (p:Pu) (left:Int) (w:World) (h0:0<=left) (h1:left<=1048576) (hk:p.k.size<=maxLen):Calls prog 82 #[yx p,.int .i64 left] w λe w'=>e= .returned (.int .i64 (if (p.k.size:Int)<=left then left - p.k.size else -1))/\aH w w':=by
 obtain⟨k,m,f,s⟩:=p;dsimp only at hk ⊢;unfold maxLen at hk;by_cases hc:(k.size:Int)<=left
 .rw [aFc hc];have hn:¬(left - (k.size:Int) < 0):=Aaa
  go_in
  exact XZ
 .rw [aE2 hc];have hn:left - (k.size:Int) < 0:=Aaa
  go_in
  exact XZ
theorem abB (a b:Option Addr) (ca cb:Nat) (l:List Pu) (w:World) (hl:l.length<=1048600) (ha:aG w a l) (hb:aG w b l):
 Calls prog 66 #[.slice a l.length ca,.slice b l.length cb] w (dU w (.bool true)):=by
 have HA:=Hq ha;have HB:=Hq hb;clear ha hb;go_in
 go_wp2_with fail;go_loopw [5] (λi wr=>∃k:Nat,k<=l.length/\i= .int .i64 k/\aH w wr) (λi _=>l.length - (intOf i).toNat)
 case atStart=>exact BZ
 case round=>
  obtain⟨k,hk,rfl,hbel⟩:=hrel;have aZ:=Hq hbel;clear hbel;by_cases hlt:k < l.length
  .obtain⟨g1,o1,rfl,hg1,s0,s1,s2,s3⟩:=aG.four (GR.At.below HA aZ) k hlt;obtain⟨g2,o2,rfl,hg2,t0,t1,t2,t3⟩:=aG.four (GR.At.below HB aZ) k hlt;generalize l[k]=pu at *;have Sv:=Hq (λw1=>aeX pu w1);obtain⟨pk,pm,pf,ps⟩:=pu;dsimp only at s0 s1 s2 s3 t0 t1 t2 t3;go_wp2_with fail
   go_region_held (λw'=>(w'.cell? ⟨g1,o1+k*4,none⟩=some (.string pk)/\w'.cell? ⟨g1,o1+k*4+1,none⟩=some (.int .i64 pm)/\w'.cell? ⟨g1,o1+k*4+2,none⟩=some (.int .i64 pf)/\w'.cell? ⟨g1,o1+k*4+3,none⟩=some (.int .i64 ps))/\w'.cell? ⟨g2,o2+k*4,none⟩=some (.string pk)/\w'.cell? ⟨g2,o2+k*4+1,none⟩=some (.int .i64 pm)/\w'.cell? ⟨g2,o2+k*4+2,none⟩=some (.int .i64 pf)/\w'.cell? ⟨g2,o2+k*4+3,none⟩=some (.int .i64 ps)) (go_keep)
    (first
     |(go_at_call 117;refine(Sv _).mono ?_;rintro e w5 ⟨rfl,hb5⟩;have hb6:aH wr w5:=⟨hb5.os,hb5.tape,hb5.output,hb5.size,hb5.block⟩;clear hb5;have fO:=Hq (aZ.trans (hb6.mono aZ.size));have y0:=(hb6.cell (p:=⟨g1,o1+k*4,none⟩) hg1).trans s0;have y1:=(hb6.cell (p:=⟨g1,o1+k*4+1,none⟩) hg1).trans s1;have y2:=(hb6.cell (p:=⟨g1,o1+k*4+2,none⟩) hg1).trans s2;have y3:=(hb6.cell (p:=⟨g1,o1+k*4+3,none⟩) hg1).trans s3;have z0:=(hb6.cell (p:=⟨g2,o2+k*4,none⟩) hg2).trans t0;have z1:=(hb6.cell (p:=⟨g2,o2+k*4+1,none⟩) hg2).trans t1;have z2:=(hb6.cell (p:=⟨g2,o2+k*4+2,none⟩) hg2).trans t2;have z3:=(hb6.cell (p:=⟨g2,o2+k*4+3,none⟩) hg2).trans t3;clear hb6))
   all_goals
    go_wp2_with fail
    go_roundw
    case rel=>exact⟨k+1,Aaa,Aaf,fO⟩
    case measure=>simp[intOf];omega
  .exact Tj
theorem ZK (a:Option Addr) (ca:Nat) (l:List Pu) (z0:Int) (w:World) (h0:0<=z0) (h1:z0<=1048576) (hl:l.length<=maxLen) (hks:∀p∈l,p.k.size<=maxLen) (ha:aG w a l):
 Calls prog 40 #[.slice a l.length ca,.int .i64 z0] w λe w'=>∃r:Int,e= .returned (.int .i64 r)/\aH w w'/\(r= -1\/0<=r/\r<=1048576/\l.length<=1048576/\∀p∈l,p.k.size<=1048576):=by
 have HA:=Hq ha;clear ha;unfold maxLen at hl;by_cases hbig:(l.length:Int)<=z0
 .have hn:¬(z0 - (l.length:Int) < 0):=Aaa
  go_in
  go_wp2_with fail;go_loopw [1,5] (λlf i wr=>∃(k:Nat) (z:Int),k<=l.length/\i= .int .i64 k/\lf= .int .i64 z/\0<=z/\z<=1048576/\(∀p∈l.take k,p.k.size<=1048576)/\aH w wr) (λ_ i _=>l.length - (intOf i).toNat)
  case atStart=>exact XY
  case round=>
   open ara in exact XT
 .have hn:z0 - (l.length:Int) < 0:=Aaa
  go_in
  exact Wm
namespace Fo
open Go.RowKit
theorem two_blocks {B:Obj} (hb:Below ((w.alloc A).alloc B).heap.size ((w.alloc A).alloc B) w1):
 w1.heap[w.heap.size]?=some A/\w1.heap[w.heap.size+1]?=some B/\w.heap.size+1 < w1.heap.size/\aH w w1:=by
 have hs:((w.alloc A).alloc B).heap.size=w.heap.size+1+1:=Aac
 have hz:=hb.size;refine⟨?_,?_,Aaa,(((aE3 _ _).alloc (aER _) _).alloc Aac _).trans (hb.mono Aaa)⟩
 .rw [hb.block _ Aaa,aE4 _ _ _ Aac];exact aEP w A
 .rw [hb.block _ Aaa];have h:=aEP (w.alloc A) B;rwa [show(w.alloc A).heap.size=w.heap.size+1 by simp] at h
theorem one_block (hb:Below (w.alloc A).heap.size (w.alloc A) w1):
 w1.heap[w.heap.size]?=some A/\w.heap.size < w1.heap.size/\aH w w1:=by
 have hs:(w.alloc A).heap.size=w.heap.size+1:=Aac
 have hz:=hb.size;refine⟨?_,Aaa,((aE3 _ _).alloc (aER _) _).trans (hb.mono Aaa)⟩;rw [hb.block _ Aaa];exact aEP w A
theorem blk_set {c:Nat} {cs:Array Value} (h:w.heap[c]?=some (.cells cs t (0,0))) (i:Nat) (v:Value):(w.setCell ⟨c,i,none⟩ v).heap[c]?=some (.cells (cs.setIfInBounds i v) t (0,0)):=by
 exact Wj
theorem four_set (h:w.heap[g]?=some (.cells #[a0,a1,a2,a3] t (0,0))):
 ((((w.setCell ⟨g,0,none⟩ b0).setCell ⟨g,1,none⟩ b1).setCell ⟨g,2,none⟩ b2).setCell ⟨g,3,none⟩ b3).heap[g]?=some (.cells #[b0,b1,b2,b3] t (0,0)):=
 blk_set (blk_set (blk_set (blk_set h 0 b0) 1 b1) 2 b2) 3 b3
theorem four_below {a:World} {B:Nat} (h:Below B a w) (hg:B<=g):
 Below B a ((((w.setCell ⟨g,0,none⟩ b0).setCell ⟨g,1,none⟩ b1).setCell ⟨g,2,none⟩ b2).setCell ⟨g,3,none⟩ b3):=
 (((h.setCell (p:=⟨g,0,none⟩) hg b0).setCell (p:=⟨g,1,none⟩) hg b1).setCell (p:=⟨g,2,none⟩) hg b2).setCell (p:=⟨g,3,none⟩) hg b3
theorem one_other {g' i:Nat} {o:Option Obj} (h:w.heap[g']?=o) (hne:g'≠g):(w.setCell ⟨g,i,none⟩ v).heap[g']?=o:=by
 rw [aFe _ _ _ _ hne,h]
theorem bodyPost_at {fn:Func} {Q:Ending->World->Prop} {x:Exit} {act:Act} (h:∀W',W'=W->bodyPost P fn Q x act W'):bodyPost P fn Q x act W:=h W rfl
theorem wp_at {c:Code} {Q:Exit->Act->World->Prop} {a:Act} (h:∀W',W'=W->Code.wp P c Q a W'):Code.wp P c Q a W:=h W rfl
theorem lt_of_blk {o:Obj} (h:w.heap[g]?=some o):g < w.heap.size:=by
 exact aa3
theorem setCell_size (w:World) (p:Addr) (v:Value):(w.setCell p v).heap.size=w.heap.size:=by
 unfold World.setCell;simp
end Fo
theorem MQ (w:World) (hl:l.length<=1048600) (hn:a=none->l.length=0/\cap=0) (ha:aG w a l):
 Calls Tryz.prog 81 #[.slice a l.length cap] w λe w'=>∃v,e= .returned v/\v≠ .slice none 0 0/\w'.ownsRow w.heap.size 155 4 v l.length (GR.flat fA l)/\aH w w':=by
 obtain⟨i0,hi,hz0,hz1,hz2⟩:=aFt FY;open avm in exact aha
theorem own_lower {b b':Nat} {e:TypeId} {sz:Nat} {n:Nat} {xs:List Value} (h:w.ownsRow b e sz v n xs) (hb:b'<=b):w.ownsRow b' e sz v n xs:=by
 exact air
theorem Qo (a:Option Addr) (cap:Nat) (l:List Pu) (p:Pu) (n:Int) (w:World) (hl:l.length<=1048600) (hk:∀p∈l,p.k.size<=maxLen) (hn:a=none->l.length=0/\cap=0) (ha:aG w a l) (hno:jv l=false\/¬(1<=n/\n<=1000000000)):
 Calls Tryz.prog 184 #[.slice a l.length cap,yx p,.int .i64 n] w λe w'=>∃v,e= .returned (.tuple #[v,.bool false])/\v≠ .slice none 0 0/\w'.ownsRow w.heap.size 155 4 v l.length (GR.flat fA l)/\aH w w':=by
 have nH:=Hq (λw1 (h:aG w1 a l)=>qx a cap l w1 hl hk h);have EL:=Hq (λw1 (h:aG w1 a l)=>MQ a cap l w1 hl hn h);have HA:=Hq ha;clear ha hk hn;obtain⟨pk,pm,pf,ps⟩:=p;go_in
 go_wp2_with fail;refine(nH _ (GR.At.below HA (dS w _))).mono ?_;rintro e w1 ⟨rfl,hb1⟩;have HB1:=Hq ((dS w _).trans (hb1.mono (dS w _).size));clear hb1;cases hok:jv l with
 |false=>
  exact ax2
 |true=>
  have hn2:decide (yQ n 1 1000000000)=false:=aES (by rcases hno with h|h;(rw [hok] at h;cases h);exact h);go_wp2_with fail;refine(Uq _ _ _ _).mono ?_;rintro e w3 ⟨rfl,rfl⟩;rw [hn2];exact ax2
theorem adO (f:Pu->Bool):∀(l:List Pu) (k:Nat),k<=l.length->(∀q∈l.take k,f q=true)->(∀h:k < l.length,f l[k]=false)->l.takeWhile f=l.take k/\l.dropWhile f=l.drop k:=by
 intro l;induction l with
 |nil=>intro k hk _ _;simp
 |cons x r ih=>
  intro k hk h1 h2;cases k with
  |zero=>
   have hx:f x=false:=h2 Aac;simp[hx]
  |succ k=>
   have hx:f x=true:=h1 x Aac;obtain⟨g1,g2⟩:=ih k Ace (λq hq=>h1 q (by simp[hq])) (λh=>h2 Abm);simp[hx,g1,g2]
end Go.Proofs.YtbolgdleijjgfaaGreatDoor
