/- Parts. -/
import Derived.Test.YtohmklmkjmlpjaaGreatDoorRk3
import Derived.Test.YtohmklmkjmlpjaaGreatDoorRk2
namespace Go.Proofs.YtohmklmkjmlpjaaGreatDoor
open Go.Proofs.Tryz
set_option maxHeartbeats 4000000
set_option maxRecDepth 100000
open Go.RowKit
open Mth
variable (a:Option Addr) (cap:Nat) (l:List Pu) {w w1 W:World} {g:Nat} {t:TypeId} {a0 a1 a2 a3 b0 b1 b2 b3 v:Value} {A:Obj} {P:Program}
abbrev aG (w:World) (a:Option Addr) (l:List Pu):Prop:=GR.At gu 4 w a l
theorem aG.four {a:Option Addr} {l:List Pu} (h:aG w a l) (i:Nat) (hi:i < l.length):∃g off,a=some ⟨g,off,none⟩/\g < w.heap.size/\w.cell? ⟨g,off+i*4,none⟩=some (.string l[i].k)/\w.cell? ⟨g,off+i*4+1,none⟩=some (.int .i64 l[i].m)/\w.cell? ⟨g,off+i*4+2,none⟩=some (.int .i64 l[i].f)/\w.cell? ⟨g,off+i*4+3,none⟩=some (.int .i64 l[i].s):=by
 exact ajU
theorem azf (s:ByteArray) (b:Bool) (hs:s.size<=maxLen) (hb:keyOk s.data.toList=b) (W:World) (n:Nat):Calls prog 52 #[.string s] (W.drewN n) λe w''=>e= .returned (.bool b)/\∃m,w''=W.drewN m:=by
 rw [<-hb];exact(JY s _ hs).mono λe w' ⟨he,hw⟩=>⟨he,n,hw.symm⟩
theorem qAm (x:Int) (b:Bool) (hb:decide (xJ x 0 1000000000)=b) (W:World) (n:Nat):Calls prog 50 #[.int .i64 x] (W.drewN n) λe w''=>e= .returned (.bool b)/\∃m,w''=W.drewN m:=by
 rw [<-hb];exact(wu x _).mono λe w' ⟨he,hw⟩=>⟨he,n,hw.symm⟩
theorem oH (w:World) (hl:l.length<=1048600) (hk:∀p∈l,p.k.size<=maxLen) (ha:aG w a l):
 Calls prog 47 #[.slice a l.length cap] w (eG w (.bool (jk l))):=by
 have HA:=Hq ha;have HK:=Hq hk;clear ha hk;go_in
 go_wp2_with fail;go_loopw [3] (λi wr=>∃k:Nat,k<=l.length/\i= .int .i64 k/\(List.range k).all (nL l)=true/\aI w wr) (λi _=>l.length - (intOf i).toNat)
 case atStart=>exact aaD
 case round=>
  obtain⟨k,hk,rfl,hall,hbel⟩:=hrel;have cK:=Hq hbel;have kS:=Hq hall;clear hall hbel;by_cases hlt:k < l.length
  .have hks:=ah HK l[k] (List.getElem_mem hlt);open apy in exact awx
  .exact aha
theorem vM (key:ByteArray) (w:World) (hl:l.length<=1048600) (ha:aG w a l):
 Calls prog 151 #[.slice a l.length cap,.string key] w (eG w (wS (aD l key))):=by
 have HA:=Hq ha;clear ha;go_in
 go_wp2_with fail;go_loopw [5] (λi wr=>∃k:Nat,k<=l.length/\i= .int .i64 k/\(l.take k).find? (λp=>p.k.toList == key.toList)=none/\wr=w.alloc (.cells (iW ⟨#[]⟩ 0 0 0) 108)) (λi _=>l.length - (intOf i).toNat)
 case atStart=>exact⟨0,Nat.zero_le _,rfl,rfl,rfl⟩
 case round=>
  obtain⟨k,hk,rfl,hnone,rfl⟩:=hrel;have HN:=Hq hnone;clear hnone;by_cases hlt:k < l.length
  .obtain⟨g,off,rfl,hgw,c0,c1,c2,c3⟩:=aG.four HA k hlt;have hfs:=Jq (λp=>p.k.toList == key.toList) l k hlt HN;cases hf:l[k].k.toList == key.toList
   .have HX:=Hq (hfs.2 hf);clear hfs HN;open avB in exact aae
   .have HX:=Hq (show aD l key=l[k] by unfold aD;rw [hfs.1 hf];rfl);clear hfs HN;open avA in exact aae
  .open anx in exact xL
theorem fT (h:w.heap[g]?=some (.cells #[a0,a1,a2,a3] t (0,0))):
 (w.cell? ⟨g,0,none⟩=some a0/\w.cell? ⟨g,1,none⟩=some a1/\w.cell? ⟨g,2,none⟩=some a2/\w.cell? ⟨g,3,none⟩=some a3)/\(w.frozen? ⟨g,0,none⟩=false/\w.frozen? ⟨g,1,none⟩=false/\w.frozen? ⟨g,2,none⟩=false/\w.frozen? ⟨g,3,none⟩=false):=by
 have hc:∀i,w.cell? ⟨g,i,none⟩=#[a0,a1,a2,a3][i]?:=λi=>cell_of_row w g i _ t (0,0) h
 have hf:∀i,w.frozen? ⟨g,i,none⟩=false:=λi=>by unfold World.frozen?;rw [h];simp
 exact⟨⟨hc 0,hc 1,hc 2,hc 3⟩,hf 0,hf 1,hf 2,hf 3⟩
theorem dS (w:World) (o:Obj):Below w.heap.size w (w.alloc o):=(Below.refl _ _).alloc (Nat.le_refl _) _
theorem EI:(prog.info? 108).map (λi=>(i.zero,i.size,i.bytes))=some (some (.agg (iW ByteArray.empty 0 0 0)),4,40):=Aab
theorem aG.news {x:Addr} {l:List Pu} (h:aG w (some x) l):∀j u,(GR.flat gu l)[j]?=some u->w.cell? (x.add j)=some u:=by
 intro j u hu
 have hj:j < l.length*4:=by
  have:=(List.getElem?_eq_some_iff.1 hu).1;rwa [GR.flat_length gu 4 aW] at this
 obtain⟨g,off,e,hg,hc⟩:=h (j / 4) Aaa;have hf:=GR.flat_at gu 4 aW l (j / 4) Aaa (j % 4) Aaa;have ej:j / 4*4+j % 4=j:=Aaa
 rw [ej] at hf;have h2:=hc (j % 4) Aaa;exact ahG
theorem En (l:List Pu):∀u∈GR.flat gu l,u.oneCell'=true:=by
 intro u hu;unfold GR.flat at hu;rw [List.mem_flatMap] at hu;obtain⟨p,_,hp⟩:=hu;simp only[gu,List.mem_cons,List.not_mem_nil,or_false] at hp;rcases hp with rfl|rfl|rfl|rfl<;>rfl
namespace Fo
open Go.RowKit
theorem two_blocks {B:Obj} (hb:Below ((w.alloc A).alloc B).heap.size ((w.alloc A).alloc B) w1):
 w1.heap[w.heap.size]?=some A/\w1.heap[w.heap.size+1]?=some B/\w.heap.size+1 < w1.heap.size/\aI w w1:=by
 have hs:((w.alloc A).alloc B).heap.size=w.heap.size+1+1:=Aac
 have hz:=hb.size;refine⟨?_,?_,Aaa,(((Below.refl _ _).alloc (Nat.le_refl _) _).alloc Aac _).trans (hb.mono Aaa)⟩
 .rw [hb.block _ Aaa,Below.heap_alloc _ _ _ Aac];exact heap_alloc_new w A
 .rw [hb.block _ Aaa];have h:=heap_alloc_new (w.alloc A) B;rwa [show(w.alloc A).heap.size=w.heap.size+1 by simp] at h
theorem one_block (hb:Below (w.alloc A).heap.size (w.alloc A) w1):
 w1.heap[w.heap.size]?=some A/\w.heap.size < w1.heap.size/\aI w w1:=by
 have hs:(w.alloc A).heap.size=w.heap.size+1:=Aac
 have hz:=hb.size;refine⟨?_,Aaa,((Below.refl _ _).alloc (Nat.le_refl _) _).trans (hb.mono Aaa)⟩;rw [hb.block _ Aaa];exact heap_alloc_new w A
theorem blk_set {c:Nat} {cs:Array Value} (h:w.heap[c]?=some (.cells cs t (0,0))) (i:Nat) (v:Value):(w.setCell ⟨c,i,none⟩ v).heap[c]?=some (.cells (cs.setIfInBounds i v) t (0,0)):=by
 exact Ve
theorem four_set (h:w.heap[g]?=some (.cells #[a0,a1,a2,a3] t (0,0))):
 ((((w.setCell ⟨g,0,none⟩ b0).setCell ⟨g,1,none⟩ b1).setCell ⟨g,2,none⟩ b2).setCell ⟨g,3,none⟩ b3).heap[g]?=some (.cells #[b0,b1,b2,b3] t (0,0)):=
 blk_set (blk_set (blk_set (blk_set h 0 b0) 1 b1) 2 b2) 3 b3
theorem four_below {a:World} {B:Nat} (h:Below B a w) (hg:B<=g):
 Below B a ((((w.setCell ⟨g,0,none⟩ b0).setCell ⟨g,1,none⟩ b1).setCell ⟨g,2,none⟩ b2).setCell ⟨g,3,none⟩ b3):=
 (((h.setCell (p:=⟨g,0,none⟩) hg b0).setCell (p:=⟨g,1,none⟩) hg b1).setCell (p:=⟨g,2,none⟩) hg b2).setCell (p:=⟨g,3,none⟩) hg b3
theorem one_other {g' i:Nat} {o:Option Obj} (h:w.heap[g']?=o) (hne:g'≠g):(w.setCell ⟨g,i,none⟩ v).heap[g']?=o:=by
 rw [Below.heap_setCell _ _ _ _ hne,h]
theorem bodyPost_at {fn:Func} {Q:Ending->World->Prop} {x:Exit} {act:Act} (h:∀W',W'=W->bodyPost P fn Q x act W'):bodyPost P fn Q x act W:=h W rfl
theorem wp_at {c:Code} {Q:Exit->Act->World->Prop} {a:Act} (h:∀W',W'=W->Code.wp P c Q a W'):Code.wp P c Q a W:=h W rfl
theorem lt_of_blk {o:Obj} (h:w.heap[g]?=some o):g < w.heap.size:=by
 exact aan
theorem setCell_size (w:World) (p:Addr) (v:Value):(w.setCell p v).heap.size=w.heap.size:=by
 unfold World.setCell;simp
end Fo
theorem LA (w:World) (hl:l.length<=1048600) (hn:a=none->l.length=0/\cap=0) (ha:aG w a l):
 Calls Tryz.prog 80 #[.slice a l.length cap] w λe w'=>∃v,e= .returned v/\v≠ .slice none 0 0/\w'.ownsRow w.heap.size 108 4 v l.length (GR.flat gu l)/\aI w w':=by
 obtain⟨i0,hi,hz0,hz1,hz2⟩:=info_parts EI;open au1 in exact agL
theorem own_lower {b b':Nat} {e:TypeId} {sz:Nat} {n:Nat} {xs:List Value} (h:w.ownsRow b e sz v n xs) (hb:b'<=b):w.ownsRow b' e sz v n xs:=by
 exact ahY
theorem PG (a:Option Addr) (cap:Nat) (l:List Pu) (p:Pu) (n:Int) (w:World) (hl:l.length<=1048600) (hk:∀p∈l,p.k.size<=maxLen) (hn:a=none->l.length=0/\cap=0) (ha:aG w a l) (hno:jk l=false\/¬(1<=n/\n<=1000000000)):
 Calls Tryz.prog 182 #[.slice a l.length cap,wS p,.int .i64 n] w λe w'=>∃v,e= .returned (.tuple #[v,.bool false])/\v≠ .slice none 0 0/\w'.ownsRow w.heap.size 108 4 v l.length (GR.flat gu l)/\aI w w':=by
 have nS:=Hq (λw1 (h:aG w1 a l)=>oH a cap l w1 hl hk h);have M4:=Hq (λw1 (h:aG w1 a l)=>LA a cap l w1 hl hn h);have HA:=Hq ha;clear ha hk hn;obtain⟨pk,pm,pf,ps⟩:=p;go_in
 go_wp2_with fail;refine(nS _ (GR.At.below HA (dS w _))).mono ?_;rintro e w1 ⟨rfl,hb1⟩;have HB1:=Hq ((dS w _).trans (hb1.mono (dS w _).size));clear hb1;cases hok:jk l with
 |false=>
  exact axC
 |true=>
  have hn2:decide (xJ n 1 1000000000)=false:=decide_eq_false (by rcases hno with h|h;(rw [hok] at h;cases h);exact h);go_wp2_with fail;refine(Tw _ _ _ _).mono ?_;rintro e w3 ⟨rfl,rfl⟩;rw [hn2];exact axC
theorem ac8 (f:Pu->Bool):∀(l:List Pu) (k:Nat),k<=l.length->(∀q∈l.take k,f q=true)->(∀h:k < l.length,f l[k]=false)->l.takeWhile f=l.take k/\l.dropWhile f=l.drop k:=by
 intro l;induction l with
 |nil=>intro k hk _ _;simp
 |cons x r ih=>
  intro k hk h1 h2;cases k with
  |zero=>
   have hx:f x=false:=h2 Aac;simp[hx]
  |succ k=>
   have hx:f x=true:=h1 x Aac;obtain⟨g1,g2⟩:=ih k Aci (λq hq=>h1 q (by simp[hq])) (λh=>h2 Abc);simp[hx,g1,g2]
end Go.Proofs.YtohmklmkjmlpjaaGreatDoor
