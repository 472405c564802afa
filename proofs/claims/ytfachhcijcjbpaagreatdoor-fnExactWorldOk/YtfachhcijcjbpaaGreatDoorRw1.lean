/- Parts. -/
import Derived.Test.YtfachhcijcjbpaaGreatDoorRwZ4
namespace Go.Proofs.YtfachhcijcjbpaaGreatDoor.Mth
open Go.Proofs.Tryz
open Mth
variable (l:List UInt8)
def putF:Nat->Nat->List UInt8
 |0,n=>[UInt8.ofNat n]
 |f+1,n=>if n<=127 then[UInt8.ofNat n] else UInt8.ofNat (128+n % 128)::putF f (n / 128)
def put (n:Nat):List UInt8:=putF 5 n
theorem jg (f n:Nat) (h:n<=127):putF f n=[UInt8.ofNat n]:=by
 cases f with
 |zero=>rfl
 |succ f=>simp[putF,h]
theorem mZ (f n:Nat) (h:¬n<=127):putF (f+1) n=UInt8.ofNat (128+n % 128)::putF f (n / 128):=by
 simp[putF,h]
theorem QX (f n:Nat):(putF f n).length<=f+1:=by
 induction f generalizing n with
 |zero=>simp[putF]
 |succ f ih=>
  by_cases h:n<=127
  .rw [jg _ _ h];simp
  .grind [mZ]
theorem toNat_byte (n:Nat) (h:n < 256):(UInt8.ofNat n).toNat=n:=by
 simp[UInt8.toNat_ofNat'];omega
theorem put_round (n f cur:Nat) (pre:List UInt8) (hcur:cur < 128 ^ (f+1)) (hbig:¬cur<=127) (hpf:pre.length+f=5) (h:pre++putF f cur=put n):
 ∃f',f=f'+1/\cur / 128 < 128 ^ (f'+1)/\(pre++[UInt8.ofNat (128+cur % 128)]).length+f'=5/\(pre++[UInt8.ofNat (128+cur % 128)])++putF f' (cur / 128)=put n:=by
 cases f with
 |zero=>simp at hcur;omega
 |succ f'=>
  refine⟨f',rfl,?_,Aae,?_⟩
  .grind
  .rw [mZ _ _ hbig] at h;rw [<-h];simp
theorem put_end (n f cur:Nat) (pre:List UInt8) (hs:cur<=127) (h:pre++putF f cur=put n):pre++[UInt8.ofNat cur]=put n:=by
 rw [jg _ _ hs] at h;exact h
theorem put_length (n:Nat):(put n).length<=6:=QX 5 n
def sumStep (p:Nat×Nat) (c:UInt8):Nat×Nat:=((p.1+c.toNat) % 65521,(p.2+(p.1+c.toNat) % 65521) % 65521)
def sums (l:List UInt8):Nat×Nat:=l.foldl sumStep (1,0)
theorem sums_snoc (c:UInt8):sums (l++[c])=sumStep (sums l) c:=by simp[sums]
theorem sums_lt:(sums l).1 < 65521/\(sums l).2 < 65521:=by
 rcases List.eq_nil_or_concat l with rfl|⟨r,c,rfl⟩
 .simp[sums]
 .rw [List.concat_eq_append,sums_snoc];exact⟨Nat.mod_lt _ Aaa,Nat.mod_lt _ Aaa⟩
theorem take_snoc (s:ByteArray) (k:Nat) (h:k < s.size):s.data.toList.take (k+1)=s.data.toList.take k++[s[k]]:=by
 rw [aEF Abk];rfl
theorem take_all (s:ByteArray) (k:Nat) (h:¬k < s.size):s.data.toList.take k=s.data.toList:=by
 apply aFX
 simp only[aE9];show s.size<=k
 omega
def keyByte (c:UInt8):Bool:=decide (97<=(c.toNat:Int)/\(c.toNat:Int)<=122)||decide (48<=(c.toNat:Int)/\(c.toNat:Int)<=57)
theorem keyByte_yes (c:UInt8) (h:(97<=(c.toNat:Int)/\(c.toNat:Int)<=122)\/(48<=(c.toNat:Int)/\(c.toNat:Int)<=57)):keyByte c=true:=by
 unfold keyByte;simp;omega
theorem keyByte_no (c:UInt8) (h:(c.toNat:Int) < 48\/(57 < (c.toNat:Int)/\(c.toNat:Int) < 97)\/122 < (c.toNat:Int)):keyByte c=false:=by
 unfold keyByte;simp;omega
theorem byte_cases (c:UInt8):((97<=(c.toNat:Int)/\(c.toNat:Int)<=122)\/(48<=(c.toNat:Int)/\(c.toNat:Int)<=57))\/((c.toNat:Int) < 48\/(57 < (c.toNat:Int)/\(c.toNat:Int) < 97)\/122 < (c.toNat:Int)):=Aaa
def keyOk (l:List UInt8):Bool:=l.all keyByte&&decide (1<=l.length/\l.length<=10)
theorem all_snoc (c:UInt8):(l++[c]).all keyByte=(l.all keyByte&&keyByte c):=Aac
theorem keyOk_bad (k:Nat) (h:(l.take k).all keyByte=false):keyOk l=false:=by
 have:l.all keyByte=false:=by
  rw [List.all_eq_false] at h ⊢;obtain⟨x,hx,hp⟩:=h;exact⟨x,List.mem_of_mem_take hx,hp⟩
 simp[keyOk,this]
theorem keyOk_all (h:l.all keyByte=true):keyOk l=decide (1<=l.length/\l.length<=10):=by simp[keyOk,h]
theorem keyOk_len (h:¬(1<=l.length/\l.length<=10)):keyOk l=false:=by simp[keyOk];intro _;omega
end Go.Proofs.YtfachhcijcjbpaaGreatDoor.Mth
namespace Go.Proofs.YtfachhcijcjbpaaGreatDoor
open Go.Proofs.Tryz
open Go.RowKit
theorem Hq {p:Prop} (h:p):Hid p:=h
theorem ah {p:Prop} (h:Hid p):p:=h
theorem Nt {k:IntKind} {a b:Int} (h:a=b):Ending.returned (.int k a)= .returned (.int k b):=by rw [h]
theorem aF {a b:Bool} (h:a=b):Ending.returned (.bool a)= .returned (.bool b):=by rw [h]
theorem aZ (s:ByteArray):s.data.toList.length=s.size:=Aac
theorem ku (s:ByteArray) (h:0 < s.size):s.toList.isEmpty=false:=by
 rw [aFk,List.isEmpty_eq_false_iff,<-List.length_pos_iff,aZ];exact h
theorem eq_empty (s:ByteArray) (h:s.size=0):s=ByteArray.empty:=by
 apply aFP;apply Array.eq_empty_of_size_eq_zero;exact h
theorem CV {W w1:World} (hb:Below W.heap.size W w1):(∀b o,b < W.heap.size->w1.cell? ⟨b,o,none⟩=W.cell? ⟨b,o,none⟩)/\(∀b o,b < W.heap.size->w1.frozen? ⟨b,o,none⟩=W.frozen? ⟨b,o,none⟩):=
 ⟨λb o h=>hb.cell (p:=⟨b,o,none⟩) h,λb o h=>hb.frozen (p:=⟨b,o,none⟩) h⟩
abbrev aG (w w':World):Prop:=Below w.heap.size w w'
abbrev dK (w:World) (v:Value) (e:Ending) (w':World):Prop:=e= .returned v/\Below w.heap.size w w'
end Go.Proofs.YtfachhcijcjbpaaGreatDoor
