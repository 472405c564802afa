/- Parts. -/
import Derived.Test.YtfachhcijcjbpaaGreatDoorRw8
import Derived.Test.YtfachhcijcjbpaaGreatDoorRw10
namespace Go.Proofs.YtfachhcijcjbpaaGreatDoor
open Go.Proofs.Tryz
set_option maxHeartbeats 2000000
set_option maxRecDepth 100000
open Go.RowKit
open Mth
variable (a:Option Addr) (cap:Nat) (l:List Int) (w:World) {g:Nat} {w':World} {o:Obj} {v:Value} {t:TypeId}
abbrev aK (w:World) (a:Option Addr) (l:List Int):Prop:=GR.At aW 1 w a l
theorem aK.one {w:World} {a:Option Addr} {l:List Int} (h:aK w a l) (i:Nat) (hi:i < l.length):∃g off,a=some ⟨g,off,none⟩/\g < w.heap.size/\w.cell? ⟨g,off+i,none⟩=some (.int .i64 l[i]):=by
 exact ai6
abbrev kQ (w:World) (g:Nat) (l:List Int):Prop:=GR.Blk aW 3 w g l
theorem kQ.one {w:World} {l:List Int} (h:kQ w g l) (i:Nat) (hi:i < l.length):w.cell? ⟨g,i,none⟩=some (.int .i64 l[i]):=by
 simpa using GR.Blk.cell h aU i hi 0 Aaa
theorem kQ.step {w:World} {l:List Int} (h:kQ w g l) (hb:aG w w'):kQ w' g l:=by
 have hl:=GR.Blk.lt h;unfold kQ GR.Blk at *;rw [hb.block g hl];exact h
theorem wP:(prog.info? 3).map (λi=>(i.zero,i.size,i.bytes))=some (some (.int .i64 0),1,8):=Aab
theorem acQ (n:Nat) (hn:n<=2000000):∀W:World,(Instr.makeSlice 22 (.int .i64 (n:Int)) (.int .i64 (n:Int))).run prog W= .ok (.slice (some ⟨W.heap.size,0,none⟩) n n) (W.alloc (.cells (GR.flat aW (List.replicate n 0)).toArray 3)):=by
 obtain⟨i0,hi,hz0,hz1,hz2⟩:=aEY wP;intro W;have h:=run_make (P:=prog) W 22 3 i0 (.int .i64 0) underlying22 hi hz0 .i64 .i64 (n:Int) (n:Int) Aaa Aaa Aat Aaa;rw [hz1] at h;have e:=GR.made_flat aW 1 aU Aaa 0 (Value.cells (.int .i64 0)) rfl n;exact ET
theorem ZK (l:List Int) (z:Int) (k:Nat) (hk:k < l.length):(l.take k++List.replicate (l.length - k) z).set k l[k]=l.take (k+1)++List.replicate (l.length - (k+1)) z:=by
 exact XU
theorem Vs (hl:l.length<=1048576) (ha:aK w a l):
 Calls prog 40 #[.slice a l.length cap] w λe w'=>e= .returned (.slice (some ⟨w.heap.size,0,none⟩) l.length l.length)/\kQ w' w.heap.size l/\aG w w':=by
 have hmk:=acQ l.length Aaa;have HA:=Hq ha;clear ha;go_in
 go_wp2_with fail;go_loopw [4] (λi wr=>∃k:Nat,k<=l.length/\i= .int .i64 k/\kQ wr w.heap.size (l.take k++List.replicate (l.length - k) 0)/\aG w wr) (λi _=>l.length - (intOf i).toNat)
 case atStart=>exact⟨0,aEN _,rfl,by unfold kQ GR.Blk;rw [aGb,aFN,Nat.sub_zero];exact aEu w _,aV w _⟩
 case round=>
  open ao4 in exact IJ
theorem Uh (a b:Option Addr) (ca cb:Nat) (l:List Int) (w:World) (hl:l.length<=1048600) (ha:aK w a l) (hb:aK w b l):
 Calls prog 48 #[.slice a l.length ca,.slice b l.length cb] w (dK w (.bool true)):=by
 have HA:=Hq ha;have HB:=Hq hb;clear ha hb;go_in
 go_wp2_with fail;go_loopw [5] (λi wr=>∃k:Nat,k<=l.length/\i= .int .i64 k/\aG w wr) (λi _=>l.length - (intOf i).toNat)
 case atStart=>exact vQ
 case round=>
  obtain⟨k,hk,rfl,hbel⟩:=hrel;have aO:=Hq hbel;clear hbel;by_cases hlt:k < l.length
  .obtain⟨g1,o1,rfl,hg1,s0⟩:=aK.one (GR.At.below HA aO) k hlt;obtain⟨g2,o2,rfl,hg2,t0⟩:=aK.one (GR.At.below HB aO) k hlt;exact ahM
  .exact ES
theorem Vq (a:Option Addr) (ca:Nat) (l:List Int) (z0:Int) (w:World) (h0:0<=z0) (h1:z0<=1048576) (hl:l.length<=maxLen):
 Calls prog 30 #[.slice a l.length ca,.int .i64 z0] w λe w'=>e= .returned (.int .i64 (if (l.length:Int)<=z0 then z0 - l.length else -1))/\w=w':=by
 unfold maxLen at hl;by_cases hc:(l.length:Int)<=z0
 .rw [aER hc];have hn:¬(z0 - (l.length:Int) < 0):=Aaa
  go_in
  exact ER
 .rw [aEG hc];have hn:z0 - (l.length:Int) < 0:=Aaa
  go_in
  exact ER
abbrev encStr (x:ByteArray):List Value:=[.string x]
theorem kV (x:ByteArray):(encStr x).length=1:=rfl
abbrev mP (w:World) (a:Option Addr) (l:List ByteArray):Prop:=GR.At encStr 1 w a l
theorem mP.one {w:World} {a:Option Addr} {l:List ByteArray} (h:mP w a l) (i:Nat) (hi:i < l.length):∃g off,a=some ⟨g,off,none⟩/\g < w.heap.size/\w.cell? ⟨g,off+i,none⟩=some (.string l[i]):=by
 exact ai6
abbrev nL (w:World) (g:Nat) (l:List ByteArray):Prop:=GR.Blk encStr 9 w g l
theorem nL.one {w:World} {l:List ByteArray} (h:nL w g l) (i:Nat) (hi:i < l.length):w.cell? ⟨g,i,none⟩=some (.string l[i]):=by
 simpa using GR.Blk.cell h kV i hi 0 Aaa
theorem nL.step {w:World} {l:List ByteArray} (h:nL w g l) (hb:aG w w'):nL w' g l:=by
 have hl:=GR.Blk.lt h;unfold nL GR.Blk at *;rw [hb.block g hl];exact h
theorem acC:(prog.info? 9).map (λi=>(i.zero,i.size,i.bytes))=some (some (.string ByteArray.empty),1,16):=Aab
theorem acU (n:Nat) (hn:n<=2000000):∀W:World,(Instr.makeSlice 26 (.int .i64 (n:Int)) (.int .i64 (n:Int))).run prog W= .ok (.slice (some ⟨W.heap.size,0,none⟩) n n) (W.alloc (.cells (GR.flat encStr (List.replicate n ByteArray.empty)).toArray 9)):=by
 obtain⟨i0,hi,hz0,hz1,hz2⟩:=aEY acC;intro W;have h:=run_make (P:=prog) W 26 9 i0 (.string ByteArray.empty) underlying26 hi hz0 .i64 .i64 (n:Int) (n:Int) Aaa Aaa Aat Aaa;rw [hz1] at h;have e:=GR.made_flat encStr 1 kV Aaa ByteArray.empty (Value.cells (.string ByteArray.empty)) rfl n;exact ET
theorem Vr (l:List ByteArray) (z:ByteArray) (k:Nat) (hk:k < l.length):(l.take k++List.replicate (l.length - k) z).set k l[k]=l.take (k+1)++List.replicate (l.length - (k+1)) z:=by
 exact XU
theorem ZR (a:Option Addr) (cap:Nat) (l:List ByteArray) (w:World) (hl:l.length<=1048576) (ha:mP w a l):
 Calls prog 19 #[.slice a l.length cap] w λe w'=>e= .returned (.slice (some ⟨w.heap.size,0,none⟩) l.length l.length)/\nL w' w.heap.size l/\aG w w':=by
 have hmk:=acU l.length Aaa;have HA:=Hq ha;clear ha;go_in
 go_wp2_with fail;go_loopw [4] (λi wr=>∃k:Nat,k<=l.length/\i= .int .i64 k/\nL wr w.heap.size (l.take k++List.replicate (l.length - k) ByteArray.empty)/\aG w wr) (λi _=>l.length - (intOf i).toNat)
 case atStart=>exact⟨0,aEN _,rfl,by unfold nL GR.Blk;rw [aGb,aFN,Nat.sub_zero];exact aEu w _,aV w _⟩
 case round=>
  open apb in exact IJ
theorem Ui (a b:Option Addr) (ca cb:Nat) (l:List ByteArray) (w:World) (hl:l.length<=4398046511104) (ha:mP w a l) (hb:mP w b l):
 Calls prog 27 #[.slice a l.length ca,.slice b l.length cb] w (dK w (.bool true)):=by
 have HA:=Hq ha;have HB:=Hq hb;clear ha hb;go_in
 go_wp2_with fail;go_loopw [5] (λi wr=>∃k:Nat,k<=l.length/\i= .int .i64 k/\aG w wr) (λi _=>l.length - (intOf i).toNat)
 case atStart=>exact vQ
 case round=>
  obtain⟨k,hk,rfl,hbel⟩:=hrel;have aO:=Hq hbel;clear hbel;by_cases hlt:k < l.length
  .obtain⟨g1,o1,rfl,hg1,s0⟩:=mP.one (GR.At.below HA aO) k hlt;obtain⟨g2,o2,rfl,hg2,t0⟩:=mP.one (GR.At.below HB aO) k hlt;exact ahM
  .exact ES
theorem ZJ (a:Option Addr) (ca:Nat) (l:List ByteArray) (z0:Int) (w:World) (h0:0<=z0) (h1:z0<=1048576) (hl:l.length<=maxLen) (hks:∀p∈l,p.size<=maxLen) (ha:mP w a l):
 Calls prog 11 #[.slice a l.length ca,.int .i64 z0] w λe w'=>∃r:Int,e= .returned (.int .i64 r)/\(r= -1\/0<=r/\r<=z0/\l.length<=1048576/\∀p∈l,p.size<=1048576)/\aG w w':=by
 have HA:=Hq ha;clear ha;unfold maxLen at hl;by_cases hbig:(l.length:Int)<=z0
 .have hn:¬(z0 - (l.length:Int) < 0):=Aaa
  go_in
  go_wp2_with fail;go_loopw [1,5] (λlf i wr=>∃(k:Nat) (z:Int),k<=l.length/\i= .int .i64 k/\lf= .int .i64 z/\0<=z/\z<=z0/\(∀p∈l.take k,p.size<=1048576)/\aG w wr) (λ_ i _=>l.length - (intOf i).toNat)
  case atStart=>exact LV
  case round=>
   open aob in exact LQ
 .have hn:z0 - (l.length:Int) < 0:=Aaa
  go_in
  exact Pe
theorem ZF (a:Option Addr) (ca n:Nat) (z0:Int) (w:World) (h0:0<=z0) (h1:z0<=1048576) (hl:n<=maxLen):
 Calls prog 13 #[.slice a n ca,.int .i64 z0] w λe w'=>e= .returned (.int .i64 (if (n:Int)<=z0 then z0 - n else -1))/\w=w':=by
 unfold maxLen at hl;by_cases hc:(n:Int)<=z0
 .rw [aER hc];have hn:¬(z0 - (n:Int) < 0):=Aaa
  go_in
  exact ER
 .rw [aEG hc];have hn:z0 - (n:Int) < 0:=Aaa
  go_in
  exact ER
abbrev ZV (a:Option Addr) (l:List Int) (cap:Nat):Value:= .agg #[.slice a l.length cap]
theorem Sd (w:World) (v:Value) (t:TypeId):(w.alloc (.cells #[v] t)).cell? ⟨w.heap.size,0,none⟩=some v:=Aac
theorem alJ (a:Option Addr) (ca:Nat) (l:List Int) (z0:Int) (w:World) (h0:0<=z0) (h1:z0<=1048576) (hl:l.length<=maxLen):
 Calls prog 9 #[ZV a l ca,.int .i64 z0] w λe w'=>e= .returned (.int .i64 (if (l.length:Int)<=z0 then z0 - l.length else -1))/\aG w w':=by
 have HC:=Hq (λW=>Vq a ca l z0 W h0 h1 hl);by_cases hc:(l.length:Int)<=z0
 .rw [aER hc] at *;have hn:decide (z0 - (l.length:Int) < 0)=false:=aEw Aaa;exact aip
 .rw [aEG hc] at *;exact aip
theorem ajw {w:World} (h:w.heap[g]?=some o):g < w.heap.size:=by
 exact aeT
theorem Er {w:World} (h:w.heap[g]?=some o) (hb:aG w w'):w'.heap[g]?=some o:=by
 rw [hb.block g (ajw h)];exact h
theorem Ck {w:World} (h:w.heap[g]?=some (.cells #[v] t (0,0))):w.cell? ⟨g,0,none⟩=some v/\w.frozen? ⟨g,0,none⟩=false:=by
 refine⟨?_,?_⟩
 .rw [aEz w g _ _ t (0,0) h];rfl
 .unfold World.frozen?;rw [h];simp
theorem one_set {w:World} (u:Value) (h:w.heap[g]?=some (.cells #[v] t (0,0))):(w.setCell ⟨g,0,none⟩ u).heap[g]?=some (.cells #[u] t (0,0)):=by
 exact aja
theorem Hg {w:World} {g':Nat} (u:Value) (hne:g'≠g) (h:w.heap[g']?=some o):(w.setCell ⟨g,0,none⟩ u).heap[g']?=some o:=(aEU _ _ _ _ hne).trans h
theorem Ma {P:Program} {fn:Func} {Q:Ending->World->Prop} {x:Exit} {act:Act} {W:World} (h:∀W',W'=W->bodyPost P fn Q x act W'):bodyPost P fn Q x act W:=h W rfl
theorem toTree (hl:l.length<=1048576) (ha:aK w a l):
 Calls prog 17 #[ZV a l cap] w λe w'=>∃g,e= .returned (ZV (some ⟨g,0,none⟩) l l.length)/\w.heap.size<=g/\kQ w' g l/\aG w w':=by
 have HC:=Hq (λW (hb:aG w W)=>Vs a cap l W hl (GR.At.below ha hb));clear ha;go_in
 go_wp2_with fail;generalize hW:((w.alloc (.cells #[.slice a l.length cap] 24)).alloc (.cells #[.slice none 0 0] 33)).alloc (.cells #[.slice none 0 0] 33)=W at *;have hb0:aG w W:=by rw [<-hW];exact(((aV w _).alloc Aac _).alloc Aae _)
 have hO1:W.heap[w.heap.size+1]?=some (.cells #[.slice none 0 0] 33 (0,0)):=by
  rw [<-hW];refine(aEI _ _ _ Aac).trans ?_;have:=aEu (w.alloc (.cells #[.slice a l.length cap] 24)) (.cells #[.slice none 0 0] 33);rwa [World.size_alloc] at this
 have hO2:W.heap[w.heap.size+1+1]?=some (.cells #[.slice none 0 0] 33 (0,0)):=by
  rw [<-hW];have:=aEu ((w.alloc (.cells #[.slice a l.length cap] 24)).alloc (.cells #[.slice none 0 0] 33)) (.cells #[.slice none 0 0] 33);rwa [World.size_alloc,World.size_alloc] at this
 refine(HC _ hb0).mono ?_;rintro e w1 ⟨rfl,hblk,hb1⟩;have hP1:=Er hO1 hb1;have hP2:=Er hO2 hb1;have HB:=Hq (hb0.trans (hb1.mono hb0.size));have hz1:=ajw hO2;clear hb0 hb1 hO1 hO2 hW;have HK:=Hq hblk;have kU:=Hq hP1;have mD:=Hq hP2;obtain⟨c1,f1⟩:=Ck hP1;obtain⟨c2,f2⟩:=Ck hP2;clear hP1 hP2 hblk;go_wp2_with fail;refine Ma (λW' hW'=>?_);have h2:=one_set (.slice (some ⟨W.heap.size,0,none⟩) l.length l.length) mD;have h1:=one_set (.slice (some ⟨W.heap.size,0,none⟩) l.length l.length) (Hg (.slice (some ⟨W.heap.size,0,none⟩) l.length l.length) (show w.heap.size+1≠w.heap.size+1+1 by omega) kU);rw [<-hW'] at h1;have r0:=(Ck h1).1;refine aEE (v:= .agg #[.slice (some ⟨W.heap.size,0,none⟩) l.length l.length]) (by simp[results,results17,go_sem,r0]) rfl ⟨_,rfl,Aaa,?_,?_⟩
 .rw [hW'];unfold kQ GR.Blk;exact Hg _ Aaa (Hg _ Aaa HK)
 .rw [hW'];exact(HB.setCell (p:=⟨w.heap.size+1+1,0,none⟩) Aae _).setCell (p:=⟨w.heap.size+1,0,none⟩) Aac _
theorem akF (a b:Option Addr) (ca cb:Nat) (l:List Int) (w:World) (hl:l.length<=1048600) (ha:aK w a l) (hb:aK w b l):
 Calls prog 25 #[ZV a l ca,ZV b l cb] w (dK w (.bool true)):=by
 have HC:=Hq (λW (hw:aG w W)=>Uh a b ca cb l W hl (GR.At.below ha hw) (GR.At.below hb hw));clear ha hb;go_in
 have HB:=Hq (show Below w.heap.size w ((w.alloc (.cells #[.slice a l.length ca] 33)).alloc (.cells #[.slice b l.length cb] 33)) from(aV w _).alloc Aac _);go_wp2_with (go_at_call 48;refine(HC _ HB).mono ?_;rintro e w1 ⟨rfl,hb2⟩)
 go_ret;exact⟨rfl,HB.trans (hb2.mono HB.size)⟩
theorem GZ (hl:l.length<=1048600) (ha:aK w a l):
 Calls prog 14 #[ZV a l cap] w (dK w (.bool (jG l))):=by
 have HA:=Hq ha;clear ha;go_in
 go_wp2_with fail;go_loopw [3] (λi wr=>∃k:Nat,k<=l.length/\i= .int .i64 k/\vH l k=true/\wr.cell? ⟨w.heap.size,0,none⟩=some (.slice a l.length cap)/\w.heap.size < wr.heap.size/\aG w wr) (λi _=>l.length - (intOf i).toNat)
 case atStart=>exact⟨0,aEN _,rfl,Lf l,Sd _ _ _,Aac,aV w _⟩
 case round=>
  obtain⟨k,hk,rfl,hu,ht,hsz,hbel⟩:=hrel;have aO:=Hq hbel;have HU:=Hq hu;clear hbel hu;by_cases hlt:k < l.length
  .obtain⟨g,off,rfl,hgw,q0⟩:=aK.one (GR.At.below HA aO) k hlt;by_cases hk0:k=0
   .subst hk0;rw [aF2] at q0;have hz:upB l 0=decide (l[0]= -1):=Hl l hlt;generalize l[0]=pu at *;by_cases hp:pu= -1
    .subst hp;have HS:=Hq (show vH l (0+1)=true by rw [xq,ah HU,hz];rfl);clear hz;go_wp2_with fail;go_roundw
     case rel=>exact⟨1,Aaa,Aaf,HS,ht,hsz,aO⟩
     case measure=>simp[intOf];omega
    .have HE:=Hq (tN l 0 hlt (by rw [hz];simpa using hp));have hne:(pu != -1)=true:=by simpa using hp
     exact aa8
   .have hz:upB l k=decide (0<=l[k]/\l[k] < (k:Int)):=Og l k Aaa hlt;generalize l[k]=pu at *;by_cases hp:0<=pu/\pu < (k:Int)
    .have HS:=Hq (show vH l (k+1)=true by rw [xq,ah HU,hz,aEy hp];rfl);have hc:=λW=>j6 pu 0 ((k:Int) - 1) W Aaa Aaa
     clear hz;go_wp2_with (go_at_call 33;refine(hc _).mono ?_;rintro e w1 ⟨rfl,rfl⟩)
     go_roundw
     case rel=>exact⟨k+1,Aaa,Aaf,HS,ht,hsz,aO⟩
     case measure=>simp[intOf];omega
    .have HE:=Hq (tN l k hlt (by rw [hz];exact aEw hp));have hc:=λW=>lT pu 0 ((k:Int) - 1) W Aaa
     clear hz;go_wp2_with (go_at_call 33;refine(hc _).mono ?_;rintro e w1 ⟨rfl,rfl⟩)
     go_ret;exact⟨aF HE.symm,aO⟩
  .have hke:k=l.length:=Aaa
   subst hke;have HF:=Hq (ZT l HU);by_cases hin:1<=(l.length:Int)/\(l.length:Int)<=30
   .have hc:=λW=>j6 (l.length:Int) 1 30 W hin.1 hin.2
    go_wp2_with (go_at_call 33;refine(hc _).mono ?_;rintro e w1 ⟨rfl,rfl⟩)
    go_ret;exact⟨aF (by rw [ah HF,aEy hin]),aO⟩
   .have hc:=λW=>lT (l.length:Int) 1 30 W Aaa
    go_wp2_with (go_at_call 33;refine(hc _).mono ?_;rintro e w1 ⟨rfl,rfl⟩)
    go_ret;exact⟨aF (by rw [ah HF,aEw hin]),aO⟩
theorem ald (hl:l.length<=1048600) (ha:aK w a l):
 Calls prog 22 #[ZV a l cap] w (dK w (.bool (jG l))):=by
 have HA:=Hq ha;clear ha;by_cases h0:l.length=0
 .have HE:=Hq (Le l (.inl h0));go_in
  have hd:((l.length:Int) == 0)=true:=Acb
  exact abe
 by_cases h30:30 < l.length
 .have HE:=Hq (Le l (.inr h30));go_in
  have hd:((l.length:Int) == 0)=false:=Acb
  exact abe
 have hd:((l.length:Int) == 0)=false:=Acb
 obtain⟨g,off,rfl,hgw,q0⟩:=aK.one HA 0 Aaa;rw [aF2] at q0;have hz:=Hq (Hl l Aaa);generalize l[0]=pr at *;have hb1:Below w.heap.size w (w.alloc (.cells #[.slice (some ⟨g,off,none⟩) l.length cap] 33)):=aV w _;have q1:(w.alloc (.cells #[.slice (some ⟨g,off,none⟩) l.length cap] 33)).cell? ⟨g,off,none⟩=some (.int .i64 pr):=(hb1.cell (p:=⟨g,off,none⟩) hgw).trans q0;clear q0 hb1;by_cases hp:pr= -1
 case neg=>
  have HE:=Hq (tN l 0 Aaa (by rw [ah hz];simpa using hp));have hne:(pr != -1)=true:=by simpa using hp
  go_in
  exact abe
 subst hp;have HU1:=Hq (show vH l 1=true by rw [xq,Lf,ah hz];rfl);go_in
 go_wp2_with fail;go_loopw [3] (λi wr=>∃k:Nat,1<=k/\k<=l.length/\i= .int .i64 k/\vH l k=true/\wr.cell? ⟨w.heap.size,0,none⟩=some (.slice (some ⟨g,off,none⟩) l.length cap)/\w.heap.size < wr.heap.size/\aG w wr) (λi _=>l.length - (intOf i).toNat)
 case atStart=>exact⟨1,aEx _,Aaa,rfl,HU1,Sd _ _ _,Aac,aV w _⟩
 case round=>
  obtain⟨k,hk1,hk,rfl,hu,ht,hsz,hbel⟩:=hrel;have aO:=Hq hbel;have HU:=Hq hu;clear hbel hu q1;by_cases hlt:k < l.length
  .obtain⟨g',off',eq,aB1,q0⟩:=aK.one (GR.At.below HA aO) k hlt;cases eq
   have hz:upB l k=decide (0<=l[k]/\l[k] < (k:Int)):=Og l k Aaa hlt;generalize l[k]=pu at *;by_cases hp:0<=pu
   .by_cases hp2:pu < (k:Int)
    .have HS:=Hq (show vH l (k+1)=true by rw [xq,ah HU,hz,aEy ⟨hp,hp2⟩];rfl);clear hz;go_wp2_with fail;go_roundw
     case rel=>exact⟨k+1,Aaa,Aaa,Aaf,HS,ht,hsz,aO⟩
     case measure=>simp[intOf];omega
    .have HE:=Hq (tN l k hlt (by rw [hz];exact aEw (λh=>hp2 h.2)));exact aa8
   .have HE:=Hq (tN l k hlt (by rw [hz];exact aEw (λh=>hp h.1)));exact aa8
  .have hke:k=l.length:=Aaa
   subst hke;have HF:=Hq (Vt l hk1 Aaa HU);exact WG
end Go.Proofs.YtfachhcijcjbpaaGreatDoor
