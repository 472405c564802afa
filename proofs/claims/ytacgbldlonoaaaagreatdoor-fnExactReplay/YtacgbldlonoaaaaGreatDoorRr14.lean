/- Parts. -/
import Derived.Test.YtacgbldlonoaaaaGreatDoorRr9
import Derived.Test.YtacgbldlonoaaaaGreatDoorRr8
import Derived.Test.YtacgbldlonoaaaaGreatDoorRr10
namespace Go.Proofs.YtacgbldlonoaaaaGreatDoor
set_option maxHeartbeats 4000000
open Go.RowKit
open Mth
abbrev eu (w:World) (a:Option Addr) (l:List Int):Prop:=GR.At aW 1 w a l
theorem eu.one {w:World} {a:Option Addr} {l:List Int} (h:eu w a l) (i:Nat) (hi:i < l.length):∃g off,a=some ⟨g,off,none⟩/\g < w.heap.size/\w.cell? ⟨g,off+i,none⟩=some (.int .i64 l[i]):=by
 obtain⟨g,off,e,hg,hc⟩:=h i hi;refine⟨g,off,e,hg,?_⟩;simpa using hc 0 Aaa
abbrev wI (w:World) (g:Nat) (l:List Int):Prop:=GR.Blk aW 3 w g l
theorem wI.one {w:World} {g:Nat} {l:List Int} (h:wI w g l) (i:Nat) (hi:i < l.length):w.cell? ⟨g,i,none⟩=some (.int .i64 l[i]):=by
 simpa using GR.Blk.cell h aQ i hi 0 Aaa
theorem wI.step {w w':World} {g:Nat} {l:List Int} (h:wI w g l) (hb:aX w w'):wI w' g l:=by
 have hl:=GR.Blk.lt h;unfold wI GR.Blk at *;rw [hb.block g hl];exact h
theorem yc:(Tryz.prog.info? 3).map (λi=>(i.zero,i.size,i.bytes))=some (some (.int .i64 0),1,8):=Aab
abbrev SentAt (w:World) (a:Option Addr) (l:List kC):Prop:=GR.At aR 4 w a l
abbrev abU (p:kC):Value:= .agg (eU p.i p.t p.k p.n)
theorem SentAt.four {w:World} {a:Option Addr} {l:List kC} (h:SentAt w a l) (i:Nat) (hi:i < l.length):∃g off,a=some ⟨g,off,none⟩/\g < w.heap.size/\w.cell? ⟨g,off+i*4,none⟩=some (.int .i64 l[i].i)/\w.cell? ⟨g,off+i*4+1,none⟩=some (.int .i64 l[i].t)/\w.cell? ⟨g,off+i*4+2,none⟩=some (.string l[i].k)/\w.cell? ⟨g,off+i*4+3,none⟩=some (.int .i64 l[i].n):=by
 exact afF
abbrev uT (w:World) (g:Nat) (l:List kC):Prop:=GR.Blk aR 95 w g l
theorem uT.four {w:World} {g:Nat} {l:List kC} (h:uT w g l) (i:Nat) (hi:i < l.length):w.cell? ⟨g,i*4,none⟩=some (.int .i64 l[i].i)/\w.cell? ⟨g,i*4+1,none⟩=some (.int .i64 l[i].t)/\w.cell? ⟨g,i*4+2,none⟩=some (.string l[i].k)/\w.cell? ⟨g,i*4+3,none⟩=some (.int .i64 l[i].n):=
 ⟨by simpa using GR.Blk.cell h cZ i hi 0 Aaa,by simpa using GR.Blk.cell h cZ i hi 1 Aaa,by simpa using GR.Blk.cell h cZ i hi 2 Aaa,by simpa using GR.Blk.cell h cZ i hi 3 Aaa⟩
theorem uT.step {w w':World} {g:Nat} {l:List kC} (h:uT w g l) (hb:aX w w'):uT w' g l:=by
 have hl:=GR.Blk.lt h;unfold uT GR.Blk at *;rw [hb.block g hl];exact h
theorem MO:(Tryz.prog.info? 95).map (λi=>(i.zero,i.size,i.bytes))=some (some (.agg (eU 0 0 ByteArray.empty 0)),4,40):=Aab
abbrev iU (w:World) (a:Option Addr) (l:List Rq):Prop:=GR.At aM 4 w a l
theorem iU.four {w:World} {a:Option Addr} {l:List Rq} (h:iU w a l) (i:Nat) (hi:i < l.length):∃g off,a=some ⟨g,off,none⟩/\g < w.heap.size/\w.cell? ⟨g,off+i*4,none⟩=some (.int .i64 l[i].no)/\w.cell? ⟨g,off+i*4+1,none⟩=some (.string l[i].k)/\w.cell? ⟨g,off+i*4+2,none⟩=some (.int .i64 l[i].n)/\w.cell? ⟨g,off+i*4+3,none⟩=some (.int .i64 l[i].s):=by
 exact afF
abbrev zx (w:World) (g:Nat) (l:List Rq):Prop:=GR.Blk aM 97 w g l
theorem zx.four {w:World} {g:Nat} {l:List Rq} (h:zx w g l) (i:Nat) (hi:i < l.length):w.cell? ⟨g,i*4,none⟩=some (.int .i64 l[i].no)/\w.cell? ⟨g,i*4+1,none⟩=some (.string l[i].k)/\w.cell? ⟨g,i*4+2,none⟩=some (.int .i64 l[i].n)/\w.cell? ⟨g,i*4+3,none⟩=some (.int .i64 l[i].s):=
 ⟨by simpa using GR.Blk.cell h bg i hi 0 Aaa,by simpa using GR.Blk.cell h bg i hi 1 Aaa,by simpa using GR.Blk.cell h bg i hi 2 Aaa,by simpa using GR.Blk.cell h bg i hi 3 Aaa⟩
theorem zx.step {w w':World} {g:Nat} {l:List Rq} (h:zx w g l) (hb:aX w w'):zx w' g l:=by
 have hl:=GR.Blk.lt h;unfold zx GR.Blk at *;rw [hb.block g hl];exact h
theorem yg:(Tryz.prog.info? 97).map (λi=>(i.zero,i.size,i.bytes))=some (some (.agg (dX 0 ByteArray.empty 0 0)),4,40):=Aab
def lu (w:World) (a:Option Addr) (l:List Sn):Prop:=∀i (hi:i < l.length),∃g off b c,a=some ⟨g,off,none⟩/\g < w.heap.size/\w.cell? ⟨g,off+i*3,none⟩=some (.int .i64 l[i].f)/\w.cell? ⟨g,off+i*3+1,none⟩=some (.int .i64 l[i].l)/\w.cell? ⟨g,off+i*3+2,none⟩=some (.slice b l[i].ids.length c)/\eu w b l[i].ids
theorem lu.below {w w':World} {a:Option Addr} {l:List Sn} (h:lu w a l) (hb:Below w.heap.size w w'):lu w' a l:=λi hi=>by
 obtain⟨g,off,b,c,e,hg,h0,h1,h2,h3⟩:=h i hi;exact⟨g,off,b,c,e,Nat.lt_of_lt_of_le hg hb.size,(hb.cell (p:=⟨g,off+i*3,none⟩) hg).trans h0,(hb.cell (p:=⟨g,off+i*3+1,none⟩) hg).trans h1,(hb.cell (p:=⟨g,off+i*3+2,none⟩) hg).trans h2,GR.At.below h3 hb⟩
structure bH where
 k:Option Addr
 p:Option Addr
 o:Option Addr
 s:Option Addr
 r:Option Addr
 ck:Nat
 cp:Nat
 co:Nat
 cs:Nat
 cr:Nat
abbrev fK (i p:Int) (k:Option Addr) (k1 k2:Nat) (x:Int) (a:Option Addr) (a1 a2:Nat) (b:Option Addr) (b1 b2:Nat) (c:Option Addr) (c1 c2:Nat) (o:Int) (r:Option Addr) (r1 r2:Nat):Array Value:=#[.int .i64 i,.int .i64 p,.slice k k1 k2,.int .i64 x,.slice a a1 a2,.slice b b1 b2,.slice c c1 c2,.int .i64 o,.slice r r1 r2]
abbrev dH (n:Nd) (A:bH):Array Value:=#[.int .i64 n.id,.int .i64 n.par,.slice A.k n.kids.length A.ck,.int .i64 n.next,.slice A.p n.pu.length A.cp,.slice A.o n.out.length A.co,.slice A.s n.seen.length A.cs,.int .i64 n.old,.slice A.r n.reqs.length A.cr]
abbrev fI (n:Nd) (A:bH):Value:= .agg (dH n A)
structure dK (w:World) (A:bH) (n:Nd):Prop where
 k:eu w A.k n.kids
 p:aH w A.p n.pu
 o:SentAt w A.o n.out
 s:lu w A.s n.seen
 r:iU w A.r n.reqs
theorem dK.below {w w':World} {A:bH} {n:Nd} (h:dK w A n) (hb:Below w.heap.size w w'):dK w' A n:=
 ⟨GR.At.below h.k hb,GR.At.below h.p hb,GR.At.below h.o hb,h.s.below hb,GR.At.below h.r hb⟩
structure fu (n:Nd) (b:Nat):Prop where
 k:n.kids.length<=b
 p:n.pu.length<=b
 o:n.out.length<=b
 s:n.seen.length<=b
 r:n.reqs.length<=b
 pk:∀x∈n.pu,x.k.size<=b
 ok:∀x∈n.out,x.k.size<=b
 sk:∀x∈n.seen,x.ids.length<=b
 rk:∀x∈n.reqs,x.k.size<=b
theorem fu.mono {n:Nd} {a b:Nat} (h:fu n a) (hab:a<=b):fu n b:=
 ⟨Nat.le_trans h.k hab,Nat.le_trans h.p hab,Nat.le_trans h.o hab,Nat.le_trans h.s hab,Nat.le_trans h.r hab,λx hx=>Nat.le_trans (h.pk x hx) hab,λx hx=>Nat.le_trans (h.ok x hx) hab,λx hx=>Nat.le_trans (h.sk x hx) hab,λx hx=>Nat.le_trans (h.rk x hx) hab⟩
theorem ay {w w':World} {g:Nat} {o:Obj} (h:w.heap[g]?=some o) (hb:Below w.heap.size w w'):w'.heap[g]?=some o:=by
 rw [hb.block g (aA h)];exact h
theorem nine {w:World} {g:Nat} {v0 v1 v2 v3 v4 v5 v6 v7 v8:Value} {t:TypeId} (h:w.heap[g]?=some (.cells #[v0,v1,v2,v3,v4,v5,v6,v7,v8] t (0,0))):
 w.cell? ⟨g,0,none⟩=some v0/\w.cell? ⟨g,1,none⟩=some v1/\w.cell? ⟨g,2,none⟩=some v2/\w.cell? ⟨g,3,none⟩=some v3/\w.cell? ⟨g,4,none⟩=some v4/\w.cell? ⟨g,5,none⟩=some v5/\w.cell? ⟨g,6,none⟩=some v6/\w.cell? ⟨g,7,none⟩=some v7/\w.cell? ⟨g,8,none⟩=some v8:=by
 have hc:∀i,w.cell? ⟨g,i,none⟩=#[v0,v1,v2,v3,v4,v5,v6,v7,v8][i]?:=λi=>cell_of_row w g i _ t (0,0) h
 exact⟨hc 0,hc 1,hc 2,hc 3,hc 4,hc 5,hc 6,hc 7,hc 8⟩
theorem au {w:World} {g:Nat} {cs:Array Value} {t:TypeId} (h:w.heap[g]?=some (.cells cs t (0,0))) (i:Nat):w.frozen? ⟨g,i,none⟩=false:=by
 unfold World.frozen?;rw [h];simp
structure R3 where
 f:Int
 l:Int
 v:Value
abbrev eG (x:R3):List Value:=[.int .i64 x.f,.int .i64 x.l,x.v]
theorem bZ (x:R3):(eG x).length=3:=rfl
def aaF (w:World) (l:List Sn) (T:List R3) (I:Nat->Nat):Prop:=T.length=l.length/\∀i (hi:i < l.length),∃b c,T[i]?=some ⟨l[i].f,l[i].l,.slice b l[i].ids.length c⟩/\GR.W aW 1 w b (I i) l[i].ids
def fP (w:World) (a:Option Addr) (g:Nat) (I:Nat->Nat) (l:List Sn):Prop:=∃T,GR.W eG 3 w a g T/\aaF w l T I
theorem fP.at {w:World} {a:Option Addr} {g:Nat} {I:Nat->Nat} {l:List Sn} (h:fP w a g I l):lu w a l:=λi hi=>by
 obtain⟨T,hT,hl,hr⟩:=h;obtain⟨b,c,ht,hi2⟩:=hr i hi;obtain⟨e,hg,hc⟩:=hT i Aaa
 have hti:T[i]' Aaa=⟨l[i].f,l[i].l,.slice b l[i].ids.length c⟩:=by
  have:=List.getElem?_eq_getElem (l:=T) (i:=i) Aaa;rw [this] at ht;exact Option.some.inj ht
 rw [hti] at hc;refine⟨g,0,b,c,e,hg,?_,?_,?_,hi2.at⟩
 .have:=(hc 0 Aaa).1;simpa using this
 .have:=(hc 1 Aaa).1;simpa using this
 .have:=(hc 2 Aaa).1;simpa using this
def qw (I:Nat->Nat) (l:List Sn):List Nat:=(List.range l.length).flatMap λi=>fp (I i) (l.getD i default).ids
theorem jw {I:Nat->Nat} {l:List Sn} {i:Nat} (hi:i < l.length):∀x∈fp (I i) l[i].ids,x∈qw I l:=by
 intro x hx;unfold qw;rw [List.mem_flatMap];refine⟨i,List.mem_range.2 hi,?_⟩;rw [List.getD_eq_getElem?_getD,List.getElem?_eq_getElem hi];exact hx
theorem uG {I:Nat->Nat} {l:List Sn} {x:Nat} (h:x∈qw I l):∃i,∃hi:i < l.length,x=I i/\0 < l[i].ids.length:=by
 unfold qw at h;rw [List.mem_flatMap] at h;obtain⟨i,hi,hx⟩:=h;have hi':=List.mem_range.1 hi;rw [List.getD_eq_getElem?_getD,List.getElem?_eq_getElem hi'] at hx;exact⟨i,hi',gH hx⟩
theorem fP.keeps {F:List Nat} {w w':World} {a:Option Addr} {g:Nat} {I:Nat->Nat} {l:List Sn} (h:fP w a g I l) (hk:aC F w w') (hg:∀x∈fp g l,x∉F) (hI:∀x∈qw I l,x∉F):fP w' a g I l:=by
 obtain⟨T,hT,hl,hr⟩:=h;refine⟨T,hT.keeps hk (λx hx=>hg x ?_),hl,λi hi=>?_⟩
 .exact Xv
 .obtain⟨b,c,ht,hi2⟩:=hr i hi;exact⟨b,c,ht,hi2.keeps hk (λx hx=>hI x (jw hi x hx))⟩
structure aV where
 k:Nat
 p:Nat
 o:Nat
 s:Nat
 r:Nat
 i:Nat->Nat
def aV.all (G:aV) (n:Nd):List Nat:=fp G.k n.kids++(fp G.p n.pu++(fp G.o n.out++(fp G.s n.seen++(qw G.i n.seen++fp G.r n.reqs))))
structure sZ (w:World) (A:bH) (G:aV) (n:Nd):Prop where
 k:GR.W aW 1 w A.k G.k n.kids
 p:GR.W fE 4 w A.p G.p n.pu
 o:GR.W aR 4 w A.o G.o n.out
 s:fP w A.s G.s G.i n.seen
 r:GR.W aM 4 w A.r G.r n.reqs
theorem sZ.at {w:World} {A:bH} {G:aV} {n:Nd} (h:sZ w A G n):dK w A n:=⟨h.k.at,h.p.at,h.o.at,h.s.at,h.r.at⟩
theorem aV.mem_all {G:aV} {n:Nd} {x:Nat}:x∈G.all n↔x∈fp G.k n.kids\/x∈fp G.p n.pu\/x∈fp G.o n.out\/x∈fp G.s n.seen\/x∈qw G.i n.seen\/x∈fp G.r n.reqs:=by
 unfold aV.all;simp only[List.mem_append]
theorem sZ.keeps {F:List Nat} {w w':World} {A:bH} {G:aV} {n:Nd} (h:sZ w A G n) (hk:aC F w w') (hd:∀x∈G.all n,x∉F):sZ w' A G n:=
 ⟨h.k.keeps hk (λx hx=>hd x (aV.mem_all.2 (.inl hx))),h.p.keeps hk (λx hx=>hd x (aV.mem_all.2 (.inr (.inl hx)))),h.o.keeps hk (λx hx=>hd x (aV.mem_all.2 (.inr (.inr (.inl hx))))),h.s.keeps hk (λx hx=>hd x (aV.mem_all.2 (.inr (.inr (.inr (.inl hx)))))) (λx hx=>hd x (aV.mem_all.2 (.inr (.inr (.inr (.inr (.inl hx))))))),h.r.keeps hk (λx hx=>hd x (aV.mem_all.2 (.inr (.inr (.inr (.inr (.inr hx)))))))⟩
theorem sZ.below {w w':World} {A:bH} {G:aV} {n:Nd} (h:sZ w A G n) (hb:aX w w'):sZ w' A G n:=h.keeps (F:=[]) (aC.of_below hb) (λ_ _=>Aac)
structure aV.Sep (G:aV) (n:Nd) (lo hi:Nat):Prop where
 nodup:(G.all n).Nodup
 rng:∀x∈G.all n,lo<=x/\x < hi
set_option maxRecDepth 100000
theorem Mth.has_snoc (l:List Int) (x:Int) (k:Nat) (h:k < l.length):hasB (l.take (k+1)) x=(hasB (l.take k) x||decide (l[k]=x)):=by
 unfold hasB;rw [List.take_succ_eq_append_getElem h,List.any_append];simp
theorem Mth.has_yes (l:List Int) (x:Int) (k:Nat) (h:k < l.length) (hx:l[k]=x):hasB l x=true:=by
 unfold hasB;rw [List.any_eq_true];exact⟨l[k],List.getElem_mem h,Abb⟩
theorem Sq (a:Option Addr) (cap:Nat) (l:List Int) (x:Int) (w:World) (hl:l.length<=1048600) (ha:eu w a l):
 Calls Tryz.prog 124 #[.slice a l.length cap,.int .i64 x] w λe w'=>e= .returned (.bool (hasB l x))/\w=w':=by
 have HA:=Hq ha;clear ha;go_enter Tryz.func124,Tryz.ntmps124
 go_wp2_with fail;go_loop [5] (λi=>∃k:Nat,k<=l.length/\i= .int .i64 k/\hasB (l.take k) x=false) (λi=>l.length - (intOf i).toNat)
 case atStart=>exact⟨0,Nat.zero_le _,rfl,rfl⟩
 case round=>
  obtain⟨k,hk,rfl,hno⟩:=hrel;have HN:=Hq hno;clear hno;by_cases hlt:k < l.length
  .obtain⟨g,off,rfl,hgw,q0⟩:=eu.one HA k hlt;by_cases hx:l[k]=x
   .have HY:=Hq (has_yes l x k hlt hx);rw [hx] at q0;clear hx;go_wp2_with fail;go_ret;exact⟨aD HY.symm,rfl⟩
   .have HS:=Hq (has_snoc l x k hlt);rw [decide_eq_false hx] at HS;exact as7
  .open akn in exact IX
theorem Eh (n:Nd) (A:bH) (x:Int) (w:World) (hl:n.kids.length<=1048600) (ha:eu w A.k n.kids):
 Calls Tryz.prog 47 #[fI n A,.int .i64 x] w (eP w (.bool (dV n x))):=by
 have HH:=Hq (Sq A.k A.ck n.kids x (w.alloc (.cells (dH n A) 30)) hl (GR.At.below ha (aj w _)));clear ha;by_cases h0:0<=x
 .by_cases h1:x=n.par
  .have HN:=Hq (show dV n x=true by unfold dV;rw [decide_eq_true h0,decide_eq_true h1];rfl);have h2:(x == n.par)=true:=Abd
   clear h1;go_enter Tryz.func47,Tryz.ntmps47
   go_wp2_with fail;exact Xi
  .have HN:=Hq (show dV n x=hasB n.kids x by simp[dV,h1]);have h2:(x == n.par)=false:=Abd
   clear h1;exact ad8
 .have HN:=Hq (show dV n x=hasB n.kids x by simp[dV,h0]);exact ad8
theorem lX (x:Int) (b:Bool) (hb:rF x=b) (W:World) (n:Nat):Calls Tryz.prog 134 #[.int .i64 x] (W.drewN n) λe w''=>e= .returned (.bool b)/\∃m,w''=W.drewN m:=
 (l04Node x b _ hb).mono λ_ _ ⟨he,hw⟩=>⟨he,n,hw.symm⟩
theorem Mth.place_head {n:Nd} (h:(rF n.id&&decide (-1<=n.par/\n.par<=29)&&decide (n.par≠n.id)&&decide (n.kids.length<=30))=false):dZ n=false:=by
 unfold dZ;rw [h];rfl
theorem Mth.place_tail {n:Nd} (h1:rF n.id=true) (h2: -1<=n.par/\n.par<=29) (h3:n.par≠n.id) (h4:n.kids.length<=30):dZ n=gQ (jo n.id n.par) iA n.kids:=by
 unfold dZ;rw [h1,decide_eq_true h2,decide_eq_true h3,decide_eq_true h4];rfl
theorem UW (n:Nd) (A:bH) (w:World) (hl:n.kids.length<=1048600) (ha:eu w A.k n.kids):
 Calls Tryz.prog 58 #[fI n A] w (eP w (.bool (dZ n))):=by
 have HA:=Hq ha;have HD:=Hq (@place_head n);have EH:=Hq (@place_tail n);have vM:=Hq (λk h=>nR (jo n.id n.par) iA n.kids k h);have Bd:=Hq (qE (jo n.id n.par) iA n.kids);have BX:=Hq (uo (jo n.id n.par) iA n.kids);clear ha;open akz in exact zB
end Go.Proofs.YtacgbldlonoaaaaGreatDoor
