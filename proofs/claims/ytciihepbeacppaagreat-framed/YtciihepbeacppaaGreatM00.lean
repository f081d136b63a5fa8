import Derived.Test.YtciihepbeacppaaGreatProg
import Derived.WalkKit
import Derived.WalkLawsBesides
import Derived.WalkSpells
import Derived.Lib.Strings
import Derived.Laws.BytesArg
import Derived.Laws.IdiomStrings
import Derived.Lib.AppendStr
import Derived.BigQuiet
import Derived.Deep.QuietTactic
import Derived.Deep.RegionLaw
set_option maxRecDepth 100000
set_option maxHeartbeats 0
namespace Go.Proofs.YtciihepbeacppaaGreat
open Tryz Go.RowKit List World Below
set_option linter.unusedVariables false
theorem zq0{a b:Prop}(h:a):a\/b:=Or.inl h
theorem zq1{a b:Prop}(h:b):a\/b:=Or.inr h
theorem zq2{a b:Prop}(h:a)(g:b):a/\b:=⟨h,g⟩
theorem zq3{a b c:Nat}(h:a<=b)(g:b<=c):a<=c:=Nat.le_trans h g
theorem zq4(a:Nat):a<=a:=Nat.le_refl a
theorem zq5(a:Nat):0<=a:=Nat.zero_le a
theorem zq6{a b c:Nat}(h:a<b)(g:b<=c):a<c:=Nat.lt_of_lt_of_le h g
theorem ab{p:Prop}(h:p):Hid p:=h
theorem uh{p:Prop}(h:Hid p):p:=h
def gP(c:Int):Bool:=decide (97<=c)&&decide (c<=122)
def lZ(c:Int):Bool:=decide (65<=c)&&decide (c<=90)
def aF(w:ByteArray):Bool:=match w.data.toList with|[c]=>gP c.toNat|_=>false
def kW(w:ByteArray):Bool:=match w.data.toList with|[c]=>lZ c.toNat|_=>false
def sX(c:Int):Bool:=c==61||c==42||c==40||c==41||c==44||c==59||c==123||c==125||c==46
theorem aB{a b:Bool}(h:a=b):Ending.returned (.bool a)=.returned (.bool b):=by rw[h]
theorem br{k:IntKind}{a b:Int}(h:a=b):Ending.returned (.int k a)=.returned (.int k b):=by rw[h]
theorem kq(c:Int)(w:World):
  Calls prog 209 #[.int .u8 c] w λe w'=>e=.returned (.bool (gP c))/\w'=w:=by
 by_cases h:97<=c
 .go_enter func209,ntmps209;go_wp2
  go_ret;exact⟨by simp[gP,h],rfl⟩
 .have hd:decide (97<=c)=false:=by simpa using h
  go_enter func209,ntmps209;go_wp2
  go_ret;exact⟨by simp[gP,hd],rfl⟩
theorem ko(c:Int)(w:World):
  Calls prog 210 #[.int .u8 c] w λe w'=>e=.returned (.bool (lZ c))/\w'=w:=by
 by_cases h:65<=c
 .go_enter func210,ntmps210;go_wp2
  go_ret;exact⟨by simp[lZ,h],rfl⟩
 .have hd:decide (65<=c)=false:=by simpa using h
  go_enter func210,ntmps210;go_wp2
  go_ret;exact⟨by simp[lZ,hd],rfl⟩
theorem vG(c:Int)(w:World):
  Calls prog 182 #[.int .u8 c] w λe w'=>e=.returned (.bool (sX c))/\w'=w:=by
 go_enter func182,ntmps182;go_wp2
 all_goals
  go_ret;exact⟨aB (by simp[sX, *]),rfl⟩
theorem kt(w:ByteArray)(h:w.size=1):∃c:UInt8,w=⟨#[c]⟩:=by
 obtain⟨⟨l⟩⟩:=w;match l,h with
 |[c],_=>exact⟨c,rfl⟩
theorem vL(c:UInt8):aF ⟨#[c]⟩=gP c.toNat:=rfl
theorem JC(c:UInt8):kW ⟨#[c]⟩=lZ c.toNat:=rfl
theorem qQ(w:ByteArray)(h:w.size≠1):aF w=false:=by
 obtain⟨⟨l⟩⟩:=w;match l,h with
 |[],_=>rfl
 |[_],h=>exact absurd rfl h
 |_::_::_,_=>rfl
theorem JB(w:ByteArray)(h:w.size≠1):kW w=false:=by
 obtain⟨⟨l⟩⟩:=w;match l,h with
 |[],_=>rfl
 |[_],h=>exact absurd rfl h
 |_::_::_,_=>rfl
theorem YM(c:UInt8)(h:0<(⟨#[c]⟩:ByteArray).size):(⟨#[c]⟩:ByteArray)[0]'h=c:=rfl
theorem adq(s:ByteArray)(w:World):
  Calls prog 75 #[.string s] w λe w'=>e=.returned (.bool (aF s))/\w'=w:=by
 by_cases hs:s.size=1
 .obtain⟨c,rfl⟩:=kt s hs;clear hs;rw[vL];go_enter func75,ntmps75;go_wp2
  all_goals
   go_ret;exact⟨aB (by simp only[YM]at *;simp_all [gP] <;> try (intro _;omega)),rfl⟩
 .rw[qQ s hs];go_enter func75,ntmps75;go_wp2
  go_ret;exact⟨rfl,rfl⟩
theorem m9(s:ByteArray)(w:World):
  Calls prog 248 #[.string s] w λe w'=>e=.returned (.bool (aF s))/\w'=w:=by
 by_cases hs:s.size=1
 .obtain⟨c,rfl⟩:=kt s hs;clear hs;rw[vL];go_enter func248,ntmps248;go_wp2_with (go_at_call 209;refine(kq _ _).mono ?_;rintro e w' ⟨rfl,rfl⟩)
  go_ret;exact⟨rfl,rfl⟩
 .rw[qQ s hs];go_enter func248,ntmps248;go_wp2_with fail
  go_ret;exact⟨rfl,rfl⟩
theorem qG(s:ByteArray)(w:World):
  Calls prog 211 #[.string s] w λe w'=>e=.returned (.bool (kW s))/\w'=w:=by
 by_cases hs:s.size=1
 .obtain⟨c,rfl⟩:=kt s hs;clear hs;rw[JC];go_enter func211,ntmps211;go_wp2_with (go_at_call 210;refine(ko _ _).mono ?_;rintro e w' ⟨rfl,rfl⟩)
  go_ret;exact⟨rfl,rfl⟩
 .rw[JB s hs];go_enter func211,ntmps211;go_wp2_with fail
  go_ret;exact⟨rfl,rfl⟩
def dS(c:UInt8):Bool:=gP c.toNat||lZ c.toNat
def aK(l:List UInt8):Nat:=(l.takeWhile dS).length
theorem sV(l:List UInt8):aK l<=l.length:=by
 unfold aK;induction l with
 |nil=>simp
 |cons c r ih=>rw[takeWhile_cons];split <;> simp <;> omega
theorem ya(l:List UInt8)(k:Nat)(h:∀j,(hj:j<l.length)->j<k->dS l[j]=true)(hk:k<=l.length):aK l=k+aK (l.drop k):=by
 induction k generalizing l with
 |zero=>simp
 |succ k ih =>
  match l,hk with
  |c::r,hk =>
   have h0:dS c=true:=h 0 (by simp) (by omega);have:=ih r (λj hj Ik=>h (j+1) (by simp;omega) (by omega)) (by simpa using hk);simp only[drop_succ_cons];simp only[aK,takeWhile_cons,h0,if_true,length_cons]at this ⊢;omega
theorem po(l:List UInt8)(k:Nat)(h:∀j,(hj:j<l.length)->j<k->dS l[j]=true)(hk:k<=l.length)(hs:(hj:k<l.length)->dS l[k]=false):aK l=k:=by
 rw[ya l k h hk];by_cases ar:k<l.length
 .rw[drop_eq_getElem_cons ar];simp only[aK,takeWhile_cons,hs ar];simp
 .rw[drop_eq_nil_of_le (by omega)];rfl
theorem qO{l:List UInt8}{k:Nat}(h:∀j,(hj:j<l.length)->j<k->dS l[j]=true)(hn:(hj:k<l.length)->dS l[k]=true):
  ∀j,(hj:j<l.length)->j<k+1->dS l[j]=true:=by
 intro j hj Ik;by_cases he:j=k
 .subst he;exact hn hj
 .exact h j hj (by omega)
theorem iL(s:ByteArray)(w:World)(hs:s.size<=20000):
  Calls prog 181 #[.string s] w λe w'=>e=.returned (.int .i64 (aK s.data.toList))/\w'=w:=by
 go_enter func181,ntmps181;go_wp2_with fail
 go_loop [3] (λn=>∃k:Nat,k<=s.size/\n=.int .i64 k/\∀j,(hj:j<s.data.toList.length)->j<k->dS s.data.toList[j]=true) (λn=>s.size-(intOf n).toNat)
 case atStart=>exact⟨0,zq5 _,rfl,λ_ _ h=>absurd h (by omega)⟩
 case round =>
  obtain⟨k,hk,rfl,fP⟩:=hrel;have HA:Hid (∀j,(hj:j<s.data.toList.length)->j<k->dS s.data.toList[j]=true):=fP;clear fP;by_cases ar:k<s.size
  .by_cases h1:gP (s[k].toNat:Int)=true
   .go_wp2_with (first|(go_at_call 209;refine(kq _ _).mono ?_;rintro e w' ⟨rfl,rfl⟩)|(go_at_call 210;refine(ko _ _).mono ?_;rintro e w' ⟨rfl,rfl⟩))
    go_round
    case rel=>exact⟨k+1,by omega,by go_num,qO HA.out (λ_=>by simp[dS];exact zq0 h1)⟩
    case measure=>simp[intOf];omega
   .have h1f:gP (s[k].toNat:Int)=false:=(by simpa using h1);clear h1;by_cases h2:lZ (s[k].toNat:Int)=true
    .go_wp2_with (first|(go_at_call 209;refine(kq _ _).mono ?_;rintro e w' ⟨rfl,rfl⟩)|(go_at_call 210;refine(ko _ _).mono ?_;rintro e w' ⟨rfl,rfl⟩))
     go_round
     case rel=>exact⟨k+1,by omega,by go_num,qO HA.out (λ_=>by simp[dS];exact zq1 h2)⟩
     case measure=>simp[intOf];omega
    .have h2f:lZ (s[k].toNat:Int)=false:=(by simpa using h2);clear h2;go_wp2_with (first|(go_at_call 209;refine(kq _ _).mono ?_;rintro e w' ⟨rfl,rfl⟩)|(go_at_call 210;refine(ko _ _).mono ?_;rintro e w' ⟨rfl,rfl⟩))
     go_ret;exact⟨br (by rw[po _ k HA.out (by simpa using hk) (λ_=>by simp[dS];exact⟨h1f,h2f⟩)]),rfl⟩
  .have hd:decide ((k:Int)<(s.size:Int))=false:=(by simp;omega);go_wp2_with fail
   go_ret;exact⟨br (by rw[po _ k HA.out (by simpa using hk) (λh=>absurd h (by simpa using ar))]),rfl⟩
def az(l:List UInt8):Nat :=
 if 0<aK l then aK l else if l.take 2=[45,62]\/l.take 2=[33,61] then 2 else match l with|c::_=>if sX c.toNat then 1 else 0|[]=>0
theorem mz(s:ByteArray)(k:Nat):(s.extract 0 k).toList=s.data.toList.take k:=by
 rw[Lib.extract_toList];simp
theorem ack{s:ByteArray}(h0:¬ 0<aK s.data.toList)(h:s.data.toList.take 2=[45,62]\/s.data.toList.take 2=[33,61]):az s.data.toList=2:=by
 rw[az.eq_def,if_neg h0,if_pos h]
theorem V3{s:ByteArray}(h0:¬ 0<aK s.data.toList)(h:¬ (s.data.toList.take 2=[45,62]\/s.data.toList.take 2=[33,61]))(hp:0<s.size):
  az s.data.toList=if sX (s[0].toNat:Int) then 1 else 0:=by
 rw[az.eq_def,if_neg h0,if_neg h];obtain⟨⟨l⟩⟩:=s;match l,hp with
 |c::r,_=>rfl
theorem V2{s:ByteArray}(h0:¬ 0<aK s.data.toList)(h:¬ (s.data.toList.take 2=[45,62]\/s.data.toList.take 2=[33,61]))(hp:¬ 0<s.size):
  az s.data.toList=0:=by
 rw[az.eq_def,if_neg h0,if_neg h];obtain⟨⟨l⟩⟩:=s;match l,hp with
 |[],_=>rfl
 |_::_,hp=>exact absurd (by simp[ByteArray.size]) hp
theorem FW(s:ByteArray)(w:World)(hs:s.size<=20000):
  Calls prog 157 #[.string s] w λe w'=>e=.returned (.int .i64 (az s.data.toList))/\w'=w:=by
 have l6:=sV s.data.toList;by_cases h0:0<aK s.data.toList
 .go_enter func157,ntmps157;go_wp2_with (go_at_call 181;refine(iL _ _ hs).mono ?_;rintro e w' ⟨rfl,rfl⟩)
  go_ret;exact⟨br (by simp[az,h0]),rfl⟩
 .by_cases h2:s.data.toList.take 2=[45,62]\/s.data.toList.take 2=[33,61]
  .have hz:2<=s.size:=by
    rw[Lib.size_eq];have hl:=length_take_le' 2 s.data.toList;rcases h2 with e|e <;> rw[e]at hl <;> simpa using hl
   have HW:=ab (ack h0 h2);rw[<-mz]at h2;by_cases h3:(s.extract 0 2).toList=[45,62]
   .clear h2;go_enter func157,ntmps157;go_wp2_with (go_at_call 181;refine(iL _ _ hs).mono ?_;rintro e w' ⟨rfl,rfl⟩)
    go_ret;exact⟨br (by rw[uh HW];rfl),rfl⟩
   .have h4:=h2.resolve_left h3;clear h2;go_enter func157,ntmps157;go_wp2_with (go_at_call 181;refine(iL _ _ hs).mono ?_;rintro e w' ⟨rfl,rfl⟩)
    all_goals
     go_ret;exact⟨br (by rw[uh HW];rfl),rfl⟩
  .by_cases hp:0<s.size
   .have HW:=ab (V3 h0 h2 hp);rw[<-mz]at h2;have h3:((s.extract 0 2).toList==[45,62])=false:=(by simpa using λe=>h2 (zq0 e));have h4:((s.extract 0 2).toList==[33,61])=false:=(by simpa using λe=>h2 (zq1 e));clear h2;go_enter func157,ntmps157;go_wp2_with (first|(go_at_call 181;refine(iL _ _ hs).mono ?_;rintro e w' ⟨rfl,rfl⟩)|(go_at_call 182;refine(vG _ _).mono ?_;rintro e w' ⟨rfl,rfl⟩))
    all_goals
     go_ret;exact⟨br (by rw[uh HW];simp[*]),rfl⟩
   .have HW:=ab (V2 h0 h2 hp);clear h2;go_enter func157,ntmps157;go_wp2_with (first|(go_at_call 181;refine(iL _ _ hs).mono ?_;rintro e w' ⟨rfl,rfl⟩)|(go_at_call 182;refine(vG _ _).mono ?_;rintro e w' ⟨rfl,rfl⟩))
    go_ret;exact⟨br (by rw[uh HW];rfl),rfl⟩
def fq:Nat->List UInt8->Option (List (List UInt8))
 |_,[]=>some []
 |0,_::_=>none
 |f+1,c::r=>if c=32\/c=10 then fq f r else if az (c::r)=0 then none else (fq f ((c::r).drop (az (c::r)))).map ((c::r).take (az (c::r))::·)
def gp(l:List UInt8):Option (List (List UInt8)):=fq l.length l
theorem DP(f g:Nat)(l:List UInt8)(hf:l.length<=f)(hg:l.length<=g):fq f l=fq g l:=by
 induction f generalizing g l with
 |zero =>
  match l,hf with
  |[],_=>simp[fq]
 |succ f ih =>
  match l,g,hf,hg with
  |[],_,_,_=>simp[fq]
  |c::r,g+1,hf,hg =>
   simp only[fq];simp only[length_cons]at hf hg;split
   .exact ih g r (by omega) (by omega)
   .split
    .rfl
    .rw[ih g _ (by simp;omega) (by simp;omega)]
theorem uo:gp []=some []:=rfl
theorem eZ(c:UInt8)(r:List UInt8)(h:c=32\/c=10):gp (c::r)=gp r:=by
 simp only[gp,length_cons,fq,if_pos h]
theorem jU(c:UInt8)(r:List UInt8)(h:¬ (c=32\/c=10))(h0:az (c::r)=0):gp (c::r)=none:=by
 simp only[gp,length_cons,fq,if_neg h,if_pos h0]
theorem fF(c:UInt8)(r:List UInt8)(h:¬ (c=32\/c=10))(h0:az (c::r)≠0):
  gp (c::r)=(gp ((c::r).drop (az (c::r)))).map ((c::r).take (az (c::r))::·):=by
 simp only[gp,length_cons,fq,if_neg h,if_neg h0];rw[DP _ _ _ (by simp;omega) (zq4 _)]
theorem iq(l:List UInt8):az l<=l.length:=by
 rw[az.eq_def];have:=sV l;split
 .exact this
 .split
  .rename_i h;have hl:=length_take_le' 2 l;rcases h with e|e <;> rw[e]at hl <;> simpa using hl
  .split
   .split <;> simp
   .simp
def zp(l:List UInt8)(k:Nat)(ws:List ByteArray):Prop:=gp l=(gp (l.drop k)).map (ws.map (·.data.toList)++·)
theorem zp.start(l:List UInt8):zp l 0 []:=by simp[zp]
theorem zp.blank{l:List UInt8}{k:Nat}{ws:List ByteArray}(h:zp l k ws)(hk:k<l.length)(hb:l[k]=32\/l[k]=10):zp l (k+1) ws:=by
 unfold zp at *;rw[h,drop_eq_getElem_cons hk,eZ _ _ hb]
theorem zp.none{l:List UInt8}{k:Nat}{ws:List ByteArray}(h:zp l k ws)(hk:k<l.length)(hb:¬ (l[k]=32\/l[k]=10))(h0:az (l.drop k)=0):gp l=.none:=by
 unfold zp at *;rw[drop_eq_getElem_cons hk]at h0 h;rw[h,jU _ _ hb h0];rfl
theorem zp.word {l:List UInt8} {k n:Nat} {ws:List ByteArray} {u:ByteArray} (h:zp l k ws) (hk:k<l.length) (hb:¬ (l[k]=32\/l[k]=10)) (hn:az (l.drop k)=n) (h0:n≠0)
  (hu:u.data.toList=(l.drop k).take n):zp l (k+n) (ws++[u]):=by
 subst hn;unfold zp at *;rw[<-drop_drop];rw[drop_eq_getElem_cons hk]at h h0 hu ⊢;rw[h,fF _ _ hb h0,Option.map_map];congr 1;funext x;simp only[Function.comp,map_append,map_cons,map_nil,hu,append_assoc,singleton_append]
theorem zp.stop{l:List UInt8}{k:Nat}{ws:List ByteArray}(h:zp l k ws)(hk:l.length<=k):gp l=some (ws.map (·.data.toList)):=by
 unfold zp at *;rw[h,drop_eq_nil_of_le hk,uo];simp
theorem infoStr:(prog.info? 9).map (λi=>(i.zero,i.size,i.bytes))=some (some (.string ⟨#[]⟩),1,16):=by kernel_rfl
theorem Jz(c:UInt8)(n:Nat)(hn:n<256):(((c.toNat:Int)==(n:Int))=true)↔c=UInt8.ofNat n:=by
 rw[beq_iff_eq];constructor
 .intro h;have:c.toNat=n:=by omega
  rw[<-this];simp
 .rintro rfl;simp;omega
theorem AP(w:World)(x:Value)(T:TypeId):∀(j:Nat) (u:Value),[x][j]?=some u->(w.alloc (.cells #[x] T)).cell? ((⟨w.heap.size,0,none⟩:Addr).add j)=some u:=by
 intro j u hj;match j,hj with
 |0,hj=>simp at hj;subst hj;simp[Addr.add]
theorem GZ {W w' w1:World} {e:TypeId} {v v' x:Value} {n:Nat} {xs:List Value} {o:Obj} (aP:w'.ownsRow W.heap.size e 1 v n xs) (cH:Below W.heap.size W w')
  (yO:w1.ownsRow W.heap.size e 1 v' (n+1) (xs++[x])) (hg:(w'.alloc o).grownBy w1 v.ownBlock):w1.ownsRow W.heap.size e 1 v' (n+1) (xs++[x])/\Below W.heap.size W w1 :=
 ⟨yO,(cH.alloc cH.size o).grown hg (by have:=cH.size;simp;omega) (λk hk=>(aP.lt k hk).1)⟩
theorem GG(s:ByteArray)(w:World)(hs:s.size<=20000):
  Calls prog 119 #[.string s] w λe w'=>Below w.heap.size w w' /\
   ((gp s.data.toList=none/\e=.returned (.tuple #[.slice none 0 0,.bool false])) \/
    ∃(ws:List ByteArray) (v:Value),gp s.data.toList=some (ws.map (·.data.toList))/\w'.ownsRow w.heap.size 9 1 v ws.length (ws.map Value.string)/\e=.returned (.tuple #[v,.bool true])):=by
 obtain⟨i0,hi,gX,fK,f9⟩:=info_parts infoStr;go_enter func119,ntmps119;go_wp2_with fail
 go_loopw [4,5] (λv i wr=>∃(k:Nat) (ws:List ByteArray),k<=s.size/\ws.length<=k/\i=.int .i64 k/\wr.ownsRow w.heap.size 9 1 v ws.length (ws.map Value.string)/\Below w.heap.size w wr/\Hid (zp s.data.toList k ws)) (λ_ i _=>s.size-(intOf i).toNat)
 case atStart=>exact⟨0,[],zq5 _,zq4 _,rfl,ownsRow_nil _ _ _ _,Below.refl _ _,zp.start _⟩
 case round =>
  obtain⟨k,ws,hk,hwk,rfl,aP,cH,OR⟩:=hrel;have nV:=cH.size;by_cases ar:k<s.size
  .by_cases h1:((s[k].toNat:Int)==32)=true
   .go_wp2_with fail
    go_roundw
    case rel=>exact⟨k+1,ws,by omega,by omega,by go_num,aP,cH,OR.out.blank (by rw[<-Lib.size_eq];exact ar) (zq0 ((Jz _ 32 (by omega)).1 h1))⟩
    case measure=>simp[intOf];omega
   .have h1f:((s[k].toNat:Int)==32)=false:=(by simpa using h1);by_cases h2:((s[k].toNat:Int)==10)=true
    .clear h1;go_wp2_with fail
     go_roundw
     case rel=>exact⟨k+1,ws,by omega,by omega,by go_num,aP,cH,OR.out.blank (by rw[<-Lib.size_eq];exact ar) (zq1 ((Jz _ 10 (by omega)).1 h2))⟩
     case measure=>simp[intOf];omega
    .have h2f:((s[k].toNat:Int)==10)=false:=(by simpa using h2);have HB:Hid (¬ (s.data.toList[k]'(by rw[<-Lib.size_eq];exact ar)=32\/s.data.toList[k]'(by rw[<-Lib.size_eq];exact ar)=10)):=by
      rintro(e|e)
      .exact h1 ((Jz _ 32 (by omega)).2 e)
      .exact h2 ((Jz _ 10 (by omega)).2 e)
     clear h1 h2;have hex:(s.extract k s.size).data.toList=s.data.toList.drop k:=by
      rw[Lib.extract_data];exact take_of_length_le (by rw[length_drop,<-Lib.size_eq];omega)
     have HEX:=ab hex;clear hex;have l6:=iq (s.extract k s.size).data.toList;rw[uh HEX,length_drop,<-Lib.size_eq]at l6;obtain⟨n,hn⟩:∃n,n=az (s.extract k s.size).data.toList:=⟨_,rfl⟩;have HN:Hid (az (s.data.toList.drop k)=n):=(by rw[<-uh HEX];exact hn.symm);rw[uh HN]at l6;have hc:=fun(wx:World)=>(FW (s.extract k s.size) wx (by simp;omega))
     rw[<-hn]at hc;clear hn;have HC:=ab hc;clear hc;by_cases hz:n=0
     .subst hz;go_wp2_with (go_at_call 157;refine(uh HC _).mono ?_;rintro e w' ⟨rfl,rfl⟩)
      go_ret2;exact⟨cH,zq0 ⟨OR.out.none (by rw[<-Lib.size_eq];exact ar) HB.out HN.out,rfl⟩⟩
     .have hzf:((n:Int)==0)=false:=(by simpa using hz);have fJ:k+n<=s.size:=(by omega);have hnp:0<n:=(by omega);clear hz l6;go_wp2_with (first|(go_at_call 157;refine(uh HC _).mono ?_;rintro e w' ⟨rfl,rfl⟩)|(at_builtin;refine wpList_append_own _ rfl _ _ 50 rfl w.heap.size 9 i0 (.string ⟨#[]⟩) 1 16 underlying50 hi gX fK f9 rfl (by decide) _ _ _ rfl (aP.alloc _) ⟨_,0,none⟩ 1 1 [.string (s.extract k (k+n))] rfl rfl ?c1 ?c2 ?c3 ?c4 ?c5 ?_))
      case c1=>exact AP _ _ _
      case c2=>intro u hu;simp at hu;subst hu;rfl
      case c3=>unfold maxLen;omega
      case c4=>omega
      case c5=>simp;omega
      intro v' w1 yO Xi _;have R:=GZ aP cH yO Xi;clear yO Xi aP cH;go_wp2_with fail
      go_roundw
      case rel=>exact⟨k+n,ws++[s.extract k (k+n)],by omega,by simp;omega,by go_num,by simpa using R.1,R.2,OR.out.word (by rw[<-Lib.size_eq];exact ar) HB.out HN.out (by simpa using hzf) (by rw[Lib.extract_data];congr 1;omega)⟩
      case measure=>simp[intOf];omega
  .have hd:decide ((k:Int)<(s.size:Int))=false:=(by simp;omega);go_wp2_with fail
   go_ret2;exact⟨cH,zq1 ⟨ws,_,OR.out.stop (by rw[<-Lib.size_eq];omega),aP,rfl⟩⟩
def MJ(w:World)(v:Value)(ws:List ByteArray):Prop :=
 ∃ao cap,v=.slice ao ws.length cap/\ws.length<=cap/\cap<=maxLen/\(ws≠[]->∃g off,ao=some ⟨g,off,none⟩/\∀j,(h:j<ws.length)->w.cell? ⟨g,off+j,none⟩=some (.string ws[j]))
theorem MJ.of_own{w:World}{B:Nat}{v:Value}{ws:List ByteArray}(h:w.ownsRow B 9 1 v ws.length (ws.map Value.string)):MJ w v ws:=by
 have ts:=λg hg=>h.cells (g:=g) hg;rcases h.2 with⟨rfl,h0⟩|⟨g,cap,cur,rfl,_,_,hn,hm,_,_⟩
 .have:ws=[]:=eq_nil_of_length_eq_zero h0;subst this;exact⟨_,_,rfl,zq4 _,by simp,λh=>absurd rfl h⟩
 .refine⟨_,_,rfl,hn,hm,λ_=>⟨g,0,rfl,λj hj=>?_⟩⟩;have:=ts g rfl j (.string ws[j]) (by simp[hj]);rw[show(⟨g,0,none⟩:Addr).add j=⟨g,0+j,none⟩ by unfold Addr.add;split <;> simp_all]at this;exact this
def jn:List ByteArray->List UInt8
 |[]=>[]
 |x::r=>x.data.toList++r.flatMap (λy=>32::y.data.toList)
theorem Uv(l:List ByteArray)(x:ByteArray)(h:l≠[]):jn (l++[x])=jn l++[32]++x.data.toList:=by
 match l,h with
 |y::r,_=>simp[jn]
theorem FQ(ws:List ByteArray)(k:Nat):(jn (ws.take k)).length<=(jn ws).length:=by
 match ws,k with
 |[],_=>simp[jn]
 |_::_,0=>simp[jn]
 |x::r,k+1 =>
  simp only[take_succ_cons,jn,length_append,length_flatMap];have:∀(r:List ByteArray) k,((r.take k).map λy=>(32::y.data.toList).length).sum<=(r.map λy=>(32::y.data.toList).length).sum:=by
   intro r;induction r with
   |nil=>simp
   |cons y r ih =>
    intro k;cases k with
    |zero=>simp
    |succ k=>simp only[take_succ_cons,map_cons,sum_cons];have:=ih k;omega
  have:=this r k;omega
theorem Uw(ws:List ByteArray)(k:Nat)(hk:k<ws.length)(h0:0<k):jn (ws.take (k+1))=jn (ws.take k)++[32]++ws[k].data.toList:=by
 rw[take_succ_eq_append_getElem hk,Uv _ _ (ne_nil_of_length_pos (by rw[length_take];omega))]
theorem Py(ws:List ByteArray)(k:Nat)(hk:k<ws.length)(h0:¬ 0<k):jn (ws.take (k+1))=jn (ws.take k)++ws[k].data.toList:=by
 obtain rfl:k=0:=by omega
 rw[take_succ_eq_append_getElem hk];simp[jn]
theorem bu(s:ByteArray):s.data.toList.length=s.size:=(Lib.size_eq s).symm
def bc(l:List UInt8):List Value:=l.map λb=>Value.int .u8 b.toNat
theorem yv(a b:List UInt8):bc (a++b)=bc a++bc b:=by simp[bc]
theorem sY(s:ByteArray):Lib.strCells s=bc s.data.toList:=rfl
theorem G0 {W w' w1:World} {e:TypeId} {v v':Value} {n m:Nat} {xs ys:List Value} (aP:w'.ownsRow W.heap.size e 1 v n xs) (cH:Below W.heap.size W w')
  (yO:w1.ownsRow W.heap.size e 1 v' m ys) (hg:w'.grownBy w1 v.ownBlock):w1.ownsRow W.heap.size e 1 v' m ys/\Below W.heap.size W w1 :=
 ⟨yO,cH.grown hg cH.size (λk hk=>(aP.lt k hk).1)⟩
theorem iO{w:World}{B:Nat}{e:TypeId}{s n m:Nat}{v:Value}{xs ys:List Value}(h:w.ownsRow B e s v n xs)(hn:m=n)(hx:ys=xs):w.ownsRow B e s v m ys:=by
 rw[hn,hx];exact h
theorem Ld{w:World}{B:Nat}{e:TypeId}{s n:Nat}{v:Value}{xs:List Value}(h:w.ownsRow B e s v n xs):∃a l c,v=.slice a l c:=by
 rcases h.2 with⟨rfl,_⟩|⟨g,cap,cur,rfl,_⟩ <;> exact⟨_,_,_,rfl⟩
theorem Nm {P:Program} (src dst e:TypeId) (hs:P.underlying src=some (.slice e)) (he:P.underlying e=some (.int .u8)) (hd:P.underlying dst=some .string)
  {w:World} {B:Nat} {v:Value} {l:List UInt8} (h:w.ownsRow B e 1 v l.length (bc l)):(convert src dst v).run P w=.ok (.string ⟨l.toArray⟩) w:=by
 have ts:=λg hg=>h.cells (g:=g) hg;rcases h.2 with⟨rfl,h0⟩|⟨g,cap,cur,rfl,_,_,hn,hm,_,_⟩
 .have:l=[]:=eq_nil_of_length_eq_zero h0;subst this;exact run_convert_bytes_nil w src e hs he 0 0 dst hd
 .exact run_convert_bytes_back w src dst e ⟨g,0,none⟩ cap l hs he hd (λj hj=>ts g rfl j _ (by simp[bc,hj]))
theorem infoByte:(prog.info? 5).map (λi=>(i.zero,i.size,i.bytes))=some (some (.int .u8 0),1,1):=by kernel_rfl
theorem Pz(ws:List ByteArray)(v:Value)(w:World)(hv:MJ w v ws)(hl:ws.length<=20000)(hj:(jn ws).length<=20000):
  Calls prog 70 #[v] w λe w'=>Below w.heap.size w w'/\e=.returned (.string ⟨(jn ws).toArray⟩):=by
 obtain⟨i0,hi,gX,fK,f9⟩:=info_parts infoByte;obtain⟨ao,cap,rfl,hn,hm,hc⟩:=hv;have HC:=ab hc;clear hc;unfold maxLen at hm;go_enter func70,ntmps70;go_wp2_with fail
 go_loopw [3,4] (λt i wr=>∃k:Nat,k<=ws.length/\i=.int .i64 k/\wr.ownsRow w.heap.size 5 1 t (jn (ws.take k)).length (bc (jn (ws.take k)))/\Below w.heap.size w wr) (λ_ i _=>ws.length-(intOf i).toNat)
 case atStart=>exact⟨0,zq5 _,rfl,ownsRow_nil _ _ _ _,Below.refl _ _⟩
 case round =>
  obtain⟨k,hk,rfl,aP,cH⟩:=hrel;have nV:=cH.size;by_cases ar:k<ws.length
  .obtain⟨g,off,sN,ay⟩:=uh HC (by intro h;rw[h]at ar;simp at ar);have xr:wr.cell? ⟨g,off+k,none⟩=some (.string ws[k]):=by
    rw[cH.cell (block_lt_of_cell? w _ (ay k ar))];exact ay k ar
   have hcw:=ay;have HCW:=ab hcw;clear ay hcw;rw[sN];have Ik:=FQ ws (k+1);by_cases h0:0<k
   .have HJ:=ab (Uw ws k ar h0);have l6:(jn (ws.take k)).length+1+ws[k].size<=20000:=by
     rw[uh HJ]at Ik;simp only[length_append,bu,length_singleton]at Ik;omega
    go_wp2_with (first|(at_builtin;refine wpList_append_own _ rfl (.tmp 13) (.tmp 14) 101 rfl w.heap.size 5 i0 (.int .u8 0) 1 1 underlying101 hi gX fK f9 rfl (by decide) _ _ _ rfl (aP.alloc _) ⟨_,0,none⟩ 1 1 [.int .u8 32] rfl rfl ?c1 ?c2 ?c3 ?c4 ?c5 ?_))
    case c1=>exact AP _ _ _
    case c2=>intro u hu;simp at hu;subst hu;rfl
    case c3=>unfold maxLen;omega
    case c4=>omega
    case c5=>simp;omega
    intro v1 w1 fD dE _;have R1:=GZ aP cH fD dE;have ak7:w1.cell? ⟨g,off+k,none⟩=some (.string ws[k]):=by
     rw[R1.2.cell (block_lt_of_cell? w _ (uh HCW k ar))];exact uh HCW k ar
    have al7:=R1.2.size;clear fD dE xr nV;go_wp2_with (at_builtin;refine Lib.wpList_append_own_string _ rfl (.tmp 16) (.tmp 20) 101 9 rfl w.heap.size 5 i0 underlying101 underlying9 hi gX fK f9 _ _ _ rfl R1.1 ws[k] rfl ?d1 ?d2 ?d3 ?_)
    case d1=>unfold maxLen;omega
    case d2=>omega
    case d3=>omega
    intro v2 w2 bC aM _;have R2:=G0 R1.1 R1.2 bC aM;clear bC aM R1 aP cH ak7;go_wp2_with fail
    go_roundw
    case rel=>exact⟨k+1,by omega,by go_num,by rw[uh HJ];exact iO R2.1 (by simp only[length_append,bu,length_singleton]) (by simp only[sY,yv,append_assoc];rfl),R2.2⟩
    case measure=>simp[intOf];omega
   .have HJ:=ab (Py ws k ar h0);have l6:(jn (ws.take k)).length+ws[k].size<=20000:=by
     rw[uh HJ]at Ik;simp only[length_append,bu]at Ik;omega
    go_wp2_with (at_builtin;refine Lib.wpList_append_own_string _ rfl _ _ 101 9 rfl w.heap.size 5 i0 underlying101 underlying9 hi gX fK f9 _ _ _ rfl aP ws[k] rfl ?d1 ?d2 ?d3 ?_)
    case d1=>unfold maxLen;omega
    case d2=>omega
    case d3=>omega
    intro v2 w2 bC aM _;have R2:=G0 aP cH bC aM;clear bC aM aP cH xr;go_wp2_with fail
    go_roundw
    case rel=>exact⟨k+1,by omega,by go_num,by rw[uh HJ];exact iO R2.1 (by simp only[length_append,bu]) (by simp only[sY,yv]),R2.2⟩
    case measure=>simp[intOf];omega
  .have hd:decide ((k:Int)<(ws.length:Int))=false:=(by simp;omega);have kk:ws.take k=ws:=take_of_length_le (by omega);rw[kk]at aP;clear kk;have Xd:=Nm (P:=prog) 101 9 5 underlying101 underlying5 underlying9 aP;obtain⟨a1,l1,c1,hu⟩:=Ld aP;rw[hu]at Xd ⊢;go_wp2_with fail
   go_ret;exact⟨cH,rfl⟩
structure Nd where
 op:Nat
 v:Nat
 ak:Nat
 ai:Nat
 nx:Nat
 ot:Nat
def Nd.cells(n:Nd):List Value:=[.int .i64 n.op,.int .i64 n.v,.int .i64 n.ak,.int .i64 n.ai,.int .i64 n.nx,.int .i64 n.ot]
def bq(l:List Nd):List Value:=l.flatMap Nd.cells
structure PS where
 pos:Nat
 failed:Bool
 vars:List UInt8
 hid:List UInt8
 nodes:List Nd
structure au(F:List Nat)(w:World)(F':List Nat)(w':World):Prop where
 os:w'.os=w.os
 tape:w'.tape=w.tape
 output:w'.output=w.output
 size:w.heap.size<=w'.heap.size
 block:∀k,k<w.heap.size->k ∉ F->w'.heap[k]?=w.heap[k]?
 foot:∀k,k∈F'->k∈F\/w.heap.size<=k
theorem au.refl(F:List Nat)(w:World):au F w F w:=⟨rfl,rfl,rfl,zq4 _,λ_ _ _=>rfl,λ_ h=>zq0 h⟩
theorem au.trans{F F' F'':List Nat}{a b c:World}(h:au F a F' b)(k:au F' b F'' c):au F a F'' c :=
 ⟨k.os.trans h.os,k.tape.trans h.tape,k.output.trans h.output,zq3 h.size k.size,
  λi hi hF=>(k.block i (zq6 hi h.size) (λhm=>by rcases h.foot i hm with h1|h1;exact hF h1;omega)).trans (h.block i hi hF),
  λi hm=>by rcases k.foot i hm with h1|h1;exact h.foot i h1;exact zq1 (zq3 h.size h1)⟩
theorem au.drew{F F':List Nat}{a w:World}(h:au F a F' w):au F a F' w.drew:=⟨h.os,h.tape,h.output,h.size,h.block,h.foot⟩
theorem au.drewN{F F':List Nat}{a w:World}(h:au F a F' w)(n:Nat):au F a F' (w.drewN n):=⟨h.os,h.tape,h.output,h.size,h.block,h.foot⟩
theorem au.alloc{F F':List Nat}{a w:World}(h:au F a F' w)(o:Obj):au F a F' (w.alloc o) :=
 ⟨h.os,h.tape,h.output,by have:=h.size;simp;omega,λk hk hF=>by rw[heap_alloc _ _ _ (zq6 hk h.size)];exact h.block k hk hF,h.foot⟩
theorem au.setCell{F F':List Nat}{a w:World}(h:au F a F' w){p:Addr}(hp:p.block∈F\/a.heap.size<=p.block)(u:Value):au F a F' (w.setCell p u) :=
 ⟨h.os,h.tape,h.output,by simpa[World.setCell] using h.size,λk hk hF=>by
  rw[heap_setCell _ _ _ _ (by rintro rfl;rcases hp with hp|hp;exact hF hp;omega)];exact h.block k hk hF,h.foot⟩
theorem au.grown{F F':List Nat}{a w w':World}{row:Option Nat}(h:au F a F' w)(hg:w.grownBy w' row)(hr:∀k,row=some k->k∈F\/a.heap.size<=k):au F a F' w' :=
 ⟨hg.os.trans h.os,hg.tape.trans h.tape,hg.output.trans h.output,zq3 h.size hg.size,λk hk hF=>by
  rw[hg.block k (zq6 hk h.size) (λe=>by rcases hr k e.symm with h1|h1;exact hF h1;omega)];exact h.block k hk hF,h.foot⟩
theorem au.below{F F':List Nat}{w w':World}{B:Nat}(h:au F w F' w')(hB:B<=w.heap.size)(hF:∀k∈F,B<=k):Below B w w' :=
 ⟨h.os,h.tape,h.output,h.size,λk hk=>h.block k (zq6 hk hB) (λhm=>by have:=hF k hm;omega)⟩
def lM(B:Nat)(WV:Value)(w:World)(P:Nat)(ws:List ByteArray)(s:PS)(F:List Nat):Prop :=
 ∃wv vv hv nv:Value,
  w.heap[P]?=some (.cells #[wv,.int .i64 s.pos,.bool s.failed,vv,hv,nv] 133 (0,0))/\(B<=P/\wv=WV) /\
  w.ownsRow B 9 1 wv ws.length (ws.map Value.string) /\
  w.ownsRow B 5 1 vv s.vars.length (bc s.vars) /\
  w.ownsRow B 5 1 hv s.hid.length (bc s.hid) /\
  w.ownsRow B 186 6 nv s.nodes.length (bq s.nodes) /\
  F=P::(wv.ownBlock.toList++(vv.ownBlock.toList++(hv.ownBlock.toList++nv.ownBlock.toList)))/\F.Nodup
theorem ae{w w':World}{B:Nat}{e:TypeId}{sz n:Nat}{v:Value}{xs:List Value}(h:w.ownsRow B e sz v n xs)(hb:∀k,v.ownBlock=some k->w'.heap[k]?=w.heap[k]?):w'.ownsRow B e sz v n xs:=by
 refine⟨h.1,?_⟩;rcases h.2 with hn|⟨g,cap,cur,rfl,hB,hg,rest⟩
 .exact .inl hn
 .exact .inr ⟨g,cap,cur,rfl,hB,by rw[hb g rfl];exact hg,rest⟩
theorem lM.mem{B:Nat}{WV:Value}{w:World}{P:Nat}{ws:List ByteArray}{s:PS}{F:List Nat}(h:lM B WV w P ws s F):∀k∈F,B<=k/\k<w.heap.size:=by
 obtain⟨wv,vv,hv,nv,hP,hB,h1,h2,h3,h4,rfl,_⟩:=h;intro k hk;simp only[mem_cons,mem_append,Option.mem_toList]at hk;rcases hk with rfl|hk|hk|hk|hk
 .exact⟨hB.1,(Array.getElem?_eq_some_iff.1 hP).1⟩
 .exact h1.lt k hk
 .exact h2.lt k hk
 .exact h3.lt k hk
 .exact h4.lt k hk
theorem lM.memP{B:Nat}{WV:Value}{w:World}{P:Nat}{ws:List ByteArray}{s:PS}{F:List Nat}(h:lM B WV w P ws s F):P∈F:=by
 obtain⟨wv,vv,hv,nv,hP,hB,h1,h2,h3,h4,rfl,_⟩:=h;simp
theorem lM.of_eq{B:Nat}{WV:Value}{w w':World}{P:Nat}{ws:List ByteArray}{s:PS}{F:List Nat}(h:lM B WV w P ws s F)(he:∀k∈F,w'.heap[k]?=w.heap[k]?):lM B WV w' P ws s F:=by
 obtain⟨wv,vv,hv,nv,hP,hB,h1,h2,h3,h4,hF,hN⟩:=h;have hm:∀k,k=P\/wv.ownBlock=some k\/vv.ownBlock=some k\/hv.ownBlock=some k\/nv.ownBlock=some k->k∈F:=by
  intro k hk;rw[hF];simpa using hk
 exact⟨wv,vv,hv,nv,by rw[he P (hm P (by simp))];exact hP,hB,ae h1 (λk hk=>he k (hm k (by simp[hk]))),ae h2 (λk hk=>he k (hm k (by simp[hk]))),
  ae h3 (λk hk=>he k (hm k (by simp[hk]))),ae h4 (λk hk=>he k (hm k (by simp[hk]))),hF,hN⟩
theorem lM.drewN{B:Nat}{WV:Value}{w:World}{P:Nat}{ws:List ByteArray}{s:PS}{F:List Nat}(h:lM B WV w P ws s F)(n:Nat):lM B WV (w.drewN n) P ws s F :=
 h.of_eq (λ_ _=>by simp)
theorem lM.drew{B:Nat}{WV:Value}{w:World}{P:Nat}{ws:List ByteArray}{s:PS}{F:List Nat}(h:lM B WV w P ws s F):lM B WV w.drew P ws s F:=h.of_eq (λ_ _=>rfl)
theorem lM.alloc{B:Nat}{WV:Value}{w:World}{P:Nat}{ws:List ByteArray}{s:PS}{F:List Nat}(h:lM B WV w P ws s F)(o:Obj):lM B WV (w.alloc o) P ws s F :=
 h.of_eq (λk hk=>heap_alloc _ _ _ (h.mem k hk).2)
theorem lM.setOther{B:Nat}{WV:Value}{w:World}{P:Nat}{ws:List ByteArray}{s:PS}{F:List Nat}(h:lM B WV w P ws s F){p:Addr}(hp:p.block ∉ F)(u:Value):lM B WV (w.setCell p u) P ws s F :=
 h.of_eq (λk hk=>heap_setCell _ _ _ _ (by rintro rfl;exact hp hk))
theorem jy{w:World}{P:Nat}{a b c d e f:Value}{t:TypeId}(h:w.heap[P]?=some (.cells #[a,b,c,d,e,f] t (0,0))):
  (w.cell? ⟨P,0,none⟩=some a/\w.cell? ⟨P,1,none⟩=some b/\w.cell? ⟨P,2,none⟩=some c/\w.cell? ⟨P,3,none⟩=some d/\w.cell? ⟨P,4,none⟩=some e/\w.cell? ⟨P,5,none⟩=some f) /\
  ∀j,w.frozen? ⟨P,j,none⟩=false:=by
 refine⟨⟨?_,?_,?_,?_,?_,?_⟩,λj=>?_⟩
 all_goals simp[World.cell?,World.frozen?,h]
def pk(ws:List ByteArray)(s:PS):ByteArray:=if s.failed=true then ⟨#[]⟩ else ws[s.pos]?.getD ⟨#[]⟩
def bR(ws:List ByteArray)(k:ByteArray)(s:PS):Bool:=(pk ws s).toList==k.toList
def PS.adv(s:PS):PS:={ s with pos:=s.pos+1 }
def PS.fail(s:PS):PS:={ s with failed:=true }
def lO(ws:List ByteArray)(k:ByteArray)(s:PS):PS:=if bR ws k s then s.adv else s
def aG(ws:List ByteArray)(k:ByteArray)(s:PS):PS:=if bR ws k s then s.adv else s.fail
theorem lz{ws:List ByteArray}{s:PS}(h:s.failed=true):pk ws s=⟨#[]⟩:=if_pos h
theorem Gi{ws:List ByteArray}{s:PS}(h:ws.length<=s.pos):pk ws s=⟨#[]⟩:=by
 unfold pk;split
 .rfl
 .rw[getElem?_eq_none h];rfl
theorem ahi{ws:List ByteArray}{s:PS}(h:s.failed=false)(hp:s.pos<ws.length):pk ws s=ws[s.pos]:=by
 unfold pk;rw[if_neg (by simp[h]),getElem?_eq_getElem hp];rfl
theorem Y1(w:World)(a b:Nat):(w.drewN a).drewN b=w.drewN (a+b):=by simp[World.drewN,Nat.add_assoc]
def DW(ws:List ByteArray)(s:PS):Prop:=ws.length<=240/\s.pos<=ws.length/\s.vars.length<=240+s.pos/\s.hid.length<=s.pos
theorem DW.adv{ws:List ByteArray}{s:PS}(h:DW ws s)(hp:s.pos<ws.length):DW ws s.adv:=by
 obtain⟨a,b,c,d⟩:=h;simp only[DW,PS.adv];omega
theorem yZ{ws:List ByteArray}{s:PS}(h:(pk ws s).size≠0):s.failed=false/\s.pos<ws.length:=by
 by_cases hp:s.pos<ws.length
 .refine⟨?_,hp⟩;cases hf:s.failed with
  |false=>rfl
  |true=>rw[lz hf]at h;exact absurd rfl h
 .rw[Gi (by omega)]at h;exact absurd rfl h
theorem jj{a b:ByteArray}(h:(a.toList==b.toList)=true):a=b:=by
 rw[ByteArray.toList_eq,ByteArray.toList_eq]at h;obtain⟨⟨x⟩⟩:=a;obtain⟨⟨y⟩⟩:=b;have:x=y:=by simpa using h
 rw[this]
theorem MK{ws:List ByteArray}{k:ByteArray}{s:PS}(hk:k.size≠0)(h:bR ws k s=true):s.pos<ws.length:=by
 have:=jj h;exact(yZ (by rw[this];exact hk)).2
structure eO(B:Nat)(WV:Value)(w:World)(P:Nat)(ws:List ByteArray)(s:PS)(F:List Nat):Prop where
 m:lM B WV w P ws s F
 f:DW ws s
section
variable {B:Nat} {WV:Value} {w:World} {P:Nat} {ws:List ByteArray} {s:PS} {F:List Nat}
theorem lx(h:eO B WV w P ws s F):
  Calls prog 160 #[.pointer (some ⟨P,0,none⟩)] w λe w'=>e=.returned (.string (pk ws s))/\∃n,w'=w.drewN n:=by
 obtain⟨⟨wv,vv,hv,nv,hP,hB,h1,h2,h3,h4,hF,hN⟩,Fw⟩:=h;obtain⟨hl,hp,_,_⟩:=Fw;obtain⟨⟨c0,c1,c2,_,_,_⟩,fz⟩:=jy hP;clear h2 h3 h4 hF hN hB hP fz;obtain⟨ao,cap,rfl,hn,hm,hc⟩:=MJ.of_own h1;have HC:=ab hc;clear hc h1;unfold maxLen at hm;cases hf:s.failed with
 |true =>
  rw[lz hf];rw[hf]at c2;clear hf;go_enter func160,ntmps160;go_wp2_with fail
  go_quiet (fail)
  go_wp2_with fail
  go_ret;exact⟨rfl,_,rfl⟩
 |false =>
  rw[hf]at c2;by_cases ar:s.pos<ws.length
  .obtain⟨g,off,sN,ay⟩:=uh HC (by intro h;rw[h]at ar;simp at ar);have xr:=ay s.pos ar;rw[ahi hf ar];have hd:decide ((ws.length:Int)<=(s.pos:Int))=false:=(by simp;omega);clear ay hf;rw[sN]at c0;go_enter func160,ntmps160;go_wp2_with fail
   go_quiet (fail)
   go_wp2_with fail
   go_quiet (fail)
   go_wp2_with fail
   go_ret;exact⟨rfl,_,Y1 _ _ _⟩
  .rw[Gi (by omega)];have hd:decide ((ws.length:Int)<=(s.pos:Int))=true:=(by simp;omega);clear hf;go_enter func160,ntmps160;go_wp2_with fail
   go_quiet (fail)
   go_wp2_with fail
   go_ret;exact⟨rfl,_,rfl⟩
theorem ye{w:World}{P:Nat}{xs:Array Value}{t:TypeId}{j:Nat}(h:w.heap[P]?=some (.cells xs t (0,0)))(u:Value):
  (w.setCell ⟨P,j,none⟩ u).heap[P]?=some (.cells (xs.setIfInBounds j u) t (0,0)):=by
 simp[World.setCell,Array.getElem?_modify,h]
theorem lM.setPos(h:lM B WV w P ws s F)(n:Nat):lM B WV (w.setCell ⟨P,1,none⟩ (.int .i64 n)) P ws { s with pos:=n } F:=by
 obtain⟨wv,vv,hv,nv,hP,hB,h1,h2,h3,h4,hF,hN⟩:=h;have aL:∀k,wv.ownBlock=some k\/vv.ownBlock=some k\/hv.ownBlock=some k\/nv.ownBlock=some k->k≠P:=by
  rw[hF]at hN;rintro k hk rfl;exact(nodup_cons.1 hN).1 (by simpa using hk)
 have hk:∀k,wv.ownBlock=some k\/vv.ownBlock=some k\/hv.ownBlock=some k\/nv.ownBlock=some k->(w.setCell ⟨P,1,none⟩ (.int .i64 n)).heap[k]?=w.heap[k]? :=
  λk hk=>heap_setCell _ _ _ _ (aL k hk)
 exact⟨wv,vv,hv,nv,ye hP _,hB,ae h1 (λk h=>hk k (by simp[h])),ae h2 (λk h=>hk k (by simp[h])),ae h3 (λk h=>hk k (by simp[h])),ae h4 (λk h=>hk k (by simp[h])),hF,hN⟩
theorem lM.setFailed(h:lM B WV w P ws s F)(b:Bool):lM B WV (w.setCell ⟨P,2,none⟩ (.bool b)) P ws { s with failed:=b } F:=by
 obtain⟨wv,vv,hv,nv,hP,hB,h1,h2,h3,h4,hF,hN⟩:=h;have aL:∀k,wv.ownBlock=some k\/vv.ownBlock=some k\/hv.ownBlock=some k\/nv.ownBlock=some k->k≠P:=by
  rw[hF]at hN;rintro k hk rfl;exact(nodup_cons.1 hN).1 (by simpa using hk)
 have hk:∀k,wv.ownBlock=some k\/vv.ownBlock=some k\/hv.ownBlock=some k\/nv.ownBlock=some k->(w.setCell ⟨P,2,none⟩ (.bool b)).heap[k]?=w.heap[k]? :=
  λk hk=>heap_setCell _ _ _ _ (aL k hk)
 exact⟨wv,vv,hv,nv,ye hP _,hB,ae h1 (λk h=>hk k (by simp[h])),ae h2 (λk h=>hk k (by simp[h])),ae h3 (λk h=>hk k (by simp[h])),ae h4 (λk h=>hk k (by simp[h])),hF,hN⟩
theorem lM.reads(h:lM B WV w P ws s F):w.cell? ⟨P,1,none⟩=some (.int .i64 s.pos)/\w.cell? ⟨P,2,none⟩=some (.bool s.failed)/\w.frozen? ⟨P,1,none⟩=false/\w.frozen? ⟨P,2,none⟩=false:=by
 obtain⟨wv,vv,hv,nv,hP,_⟩:=h;obtain⟨⟨c0,c1,c2,_,_,_⟩,fz⟩:=jy hP;exact⟨c1,c2,fz 1,fz 2⟩
theorem aC(k:ByteArray)(hk:k.size≠0)(h:eO B WV w P ws s F):
  Calls prog 158 #[.pointer (some ⟨P,0,none⟩),.string k] w λe w'=>e=.returned (.bool (bR ws k s))/\eO B WV w' P ws (lO ws k s) F/\au F w F w':=by
 have HP:=ab h;cases hb:bR ws k s with
 |true =>
  have xp:((pk ws s).toList==k.toList)=true:=hb;have HS:Hid (lO ws k s=s.adv):=if_pos hb;clear hb;obtain⟨c1,c2,f1,f2⟩:=h.m.reads;obtain⟨hl,hp,_,_⟩:=h.f;clear h c2 f2;go_enter func158,ntmps158;go_wp2_with (go_at_call 160;refine(lx (uh HP)).mono ?_;rintro e w' ⟨rfl,n,rfl⟩)
  go_ret;exact⟨rfl,by rw[uh HS];exact⟨((uh HP).m.drewN n).setPos _,(uh HP).f.adv (MK hk xp)⟩,((au.refl F w).drewN n).setCell (zq0 (uh HP).m.memP) _⟩
 |false =>
  have xp:((pk ws s).toList==k.toList)=false:=hb;have HS:Hid (lO ws k s=s):=if_neg (by simp[hb]);clear hb h;go_enter func158,ntmps158;go_wp2_with (go_at_call 160;refine(lx (uh HP)).mono ?_;rintro e w' ⟨rfl,n,rfl⟩)
  go_ret;exact⟨rfl,by rw[uh HS];exact⟨(uh HP).m.drewN n,(uh HP).f⟩,(au.refl F w).drewN n⟩
theorem aY(k:ByteArray)(hk:k.size≠0)(h:eO B WV w P ws s F):
  Calls prog 120 #[.pointer (some ⟨P,0,none⟩),.string k] w λe w'=>e=.returned (.tuple #[])/\eO B WV w' P ws (aG ws k s) F/\au F w F w':=by
 have HP:=ab h;clear h;have HA:=ab (aC k hk (uh HP));cases hb:bR ws k s with
 |true =>
  have HS:Hid (lO ws k s=aG ws k s):=ab (by unfold lO aG;rw[if_pos hb,if_pos hb]);rw[hb]at HA;clear hb;go_enter func120,ntmps120;go_wp2_with (go_at_call 158;refine(uh HA).mono ?_;rintro e w' ⟨rfl,hI,hS⟩)
  go_end0
  exact⟨rfl,by rw[<-uh HS];exact hI,hS⟩
 |false =>
  have HS:Hid (aG ws k s=(lO ws k s).fail):=ab (by unfold lO aG;rw[if_neg (by simp[hb]),if_neg (by simp[hb])]);rw[hb]at HA;clear hb;go_enter func120,ntmps120;go_wp2_with (go_at_call 158;refine(uh HA).mono ?_;rintro e w' ⟨rfl,hI,hS⟩;obtain⟨c1,c2,f1,f2⟩:=hI.m.reads;have HI:=ab hI;clear hI)
  go_end0
  exact⟨rfl,by rw[uh HS];exact⟨(uh HI).m.setFailed true,(uh HI).f⟩,hS.setCell (zq0 (uh HI).m.memP) _⟩
end
def plc:List UInt8->UInt8->Nat
 |[],_=>0
 |x::r,c=>if x=c then 0 else plc r c+1
theorem wg(l:List UInt8)(c:UInt8):plc l c<=l.length:=by
 induction l with
 |nil=>simp[plc]
 |cons x r ih=>simp only[plc];split <;> simp <;> omega
theorem Vl(l:List UInt8)(c:UInt8)(k:Nat)(hk:k<l.length)(hn:∀j,(hj:j<l.length)->j<k->l[j]≠c)(h:l[k]=c):plc l c=k:=by
 induction l generalizing k with
 |nil=>simp at hk
 |cons x r ih =>
  cases k with
  |zero=>simp only[getElem_cons_zero]at h;simp[plc,h]
  |succ k =>
   have h0:x≠c:=hn 0 (by simp) (by omega);simp only[plc,if_neg h0];rw[ih k (by simpa using hk) (λj hj Ik=>hn (j+1) (by simpa using hj) (by omega)) (by simpa using h)]
theorem Qr(l:List UInt8)(c:UInt8)(hn:∀j,(hj:j<l.length)->l[j]≠c):plc l c=l.length:=by
 induction l with
 |nil=>rfl
 |cons x r ih =>
  have h0:x≠c:=hn 0 (by simp);simp only[plc,if_neg h0,length_cons];rw[ih (λj hj=>hn (j+1) (by simpa using hj))]
theorem lU{w:World}{B:Nat}{v:Value}{l:List UInt8}(h:w.ownsRow B 5 1 v l.length (bc l)):
  ∃ao cap,v=.slice ao l.length cap/\cap<=maxLen/\(l≠[]->∃g,ao=some ⟨g,0,none⟩/\∀j,(h:j<l.length)->w.cell? ⟨g,j,none⟩=some (.int .u8 (l[j].toNat:Int))):=by
 have ts:=λg hg=>h.cells (g:=g) hg;rcases h.2 with⟨rfl,h0⟩|⟨g,cap,cur,rfl,_,_,hn,hm,_,_⟩
 .have:l=[]:=eq_nil_of_length_eq_zero h0;subst this;exact⟨_,_,rfl,by simp,λh=>absurd rfl h⟩
 .refine⟨_,_,rfl,hm,λ_=>⟨g,rfl,λj hj=>?_⟩⟩;have:=ts g rfl j (.int .u8 (l[j].toNat:Int)) (by simp[bc,hj]);rw[show(⟨g,0,none⟩:Addr).add j=⟨g,j,none⟩ by unfold Addr.add;split <;> simp_all]at this;exact this
theorem Ra(a c:UInt8):((a.toNat:Int)==(c.toNat:Int))=true↔a=c:=by
 rw[beq_iff_eq];constructor
 .intro h;apply UInt8.toNat.inj;omega
 .rintro rfl;rfl
theorem Ll{B:Nat}{w:World}{v:Value}{l:List UInt8}(c:UInt8)(h:w.ownsRow B 5 1 v l.length (bc l))(hl:l.length<=20000):
  Calls prog 212 #[v,.int .u8 (c.toNat:Int)] w λe w'=>e=.returned (.int .i64 (plc l c))/\w'=w:=by
 obtain⟨ao,cap,rfl,hm,hc⟩:=lU h;have HC:=ab hc;clear hc h;unfold maxLen at hm;go_enter func212,ntmps212;go_wp2_with fail
 go_loop [5] (λi=>∃k:Nat,k<=l.length/\i=.int .i64 k/\Hid (∀j,(hj:j<l.length)->j<k->l[j]≠c)) (λi=>l.length-(intOf i).toNat)
 case atStart=>exact⟨0,zq5 _,rfl,λ_ _ h=>absurd h (by omega)⟩
 case round =>
  obtain⟨k,hk,rfl,fP⟩:=hrel;by_cases ar:k<l.length
  .obtain⟨g,sN,ay⟩:=uh HC (by intro h;rw[h]at ar;simp at ar);have xr:=ay k ar;clear ay;rw[sN];cases he:((l[k].toNat:Int)==(c.toNat:Int)) with
   |true =>
    go_wp2_with fail
    go_ret;exact⟨br (by rw[Vl l c k ar fP.out ((Ra _ _).1 he)]),rfl⟩
   |false =>
    go_wp2_with fail
    go_round
    case rel =>
     refine⟨k+1,by omega,by go_num,λj hj Ik=>?_⟩;by_cases aaa:j=k
     .subst aaa;intro e;rw[(Ra _ _).2 e]at he;cases he
     .exact fP.out j hj (by omega)
    case measure=>simp[intOf];omega
  .have hd:decide ((k:Int)<(l.length:Int))=false:=(by simp;omega);go_wp2_with fail
   go_ret;exact⟨br (by rw[Qr l c (λj hj=>fP.out j hj (by omega))]),rfl⟩
section
variable {P:Program} (w:World)
theorem DG (base:Nat) (t ty e:TypeId) (i:TypeInfo) (z:Value) (size bytes:Nat) (ht:P.underlying t=some (.slice e)) (hi:P.info? e=some i) (hz:i.zero=some z)
  (jK:i.size=size) (Ej:i.bytes=bytes) (KW:z.cells.size=size) (nV:0<size)
  (v:Value) (n:Nat) (xs:List Value) (aP:w.ownsRow base e size v n xs)
  (a:Addr) (c:Nat) (news:List Value) (hl:news.length=size) (iD:∀j u,news[j]?=some u->w.cell? (a.add j)=some u) (h1:∀u∈news,u.oneCell'=true)
  (Kj:n+1<=1000000) (hb:bytes<=1000) (gH:base<=w.heap.size) :
  ∃v' w',(Builtin.append_ #[t,t] ty #[v,.slice (some a) 1 c]).run P w=.ok v' w'/\w'.ownsRow base e size v' (n+1) (xs++news)/\w.grownBy w' v.ownBlock /\
   (v'.ownBlock=v.ownBlock\/v'.ownBlock=some w.heap.size)/\∃g cap,v'=.slice (some ⟨g,0,none⟩) (n+1) cap:=by
 have hbytes:(n+1)*bytes<=140737488355328:=zq3 (Nat.mul_le_mul Kj hb) (by decide);obtain⟨v',w',hr,ho,hg,_⟩:=run_append_own (P:=P) w base t ty e i z size bytes ht hi hz jK Ej KW nV v n xs aP a 1 c news (by omega) iD h1 (by unfold maxLen;omega) hbytes gH;refine⟨v',w',hr,ho,hg,?_,?_⟩
 .subst jK;subst Ej;rcases aP.2 with⟨rfl,rfl⟩|⟨g,cap,cur,rfl,pJ,T7,Md,mC,ts,Pl⟩
  .have mr:=run_append_nil (P:=P) w t ty e i z ht hi hz a 1 c news (by omega) iD (by omega) (by omega) (by omega);rw[hr]at mr;injection mr with e1 e2;subst e1;exact zq1 rfl
  .by_cases C4:n+1<=cap
   .have Fw:n*i.size+news.length<=cur.size:=by
     rw[hl,ts];have:=Nat.mul_le_mul_right i.size C4;rw[Nat.add_mul]at this;omega
    have mr:=run_append_room (P:=P) w t ty e i ht hi g n cap cur T7 a 1 c news (by omega) iD h1 C4 Fw;rw[hr]at mr;injection mr with e1 e2;subst e1;exact zq0 rfl
   .have holds:∀j u,xs[j]?=some u->w.cell? ((⟨g,0,none⟩:Addr).add j)=some u:=aP.cells (g:=g) rfl;have mr:=run_append_grow (P:=P) w t ty e i z ht hi hz ⟨g,0,none⟩ n cap xs aP.1 holds a 1 c news (by omega) iD (by omega) (by omega) (growslice_fits (by omega) hbytes);rw[hr]at mr;injection mr with e1 e2;subst e1;exact zq1 rfl
 .rcases ho.2 with⟨_,h⟩|⟨g,cap,_,h,_⟩
  .omega
  .exact⟨g,cap,h⟩
theorem ju {ops:Array Oper} {o:Oper} {a:Act} {K:Act->World->Prop} {Q:Exit->Act->World->Prop} {E:Prop}
  (hg:o.guard=none) (s x:Operand) (t:TypeId) (nU:o.op=Op.call { callee:=Callee.builtin Builtin.append,args:=#[s,x],argTypes:=#[t,t] })
  (base:Nat) (e:TypeId) (i:TypeInfo) (z:Value) (size bytes:Nat) (ht:P.underlying t=some (.slice e)) (hi:P.info? e=some i) (hz:i.zero=some z)
  (jK:i.size=size) (Ej:i.bytes=bytes) (KW:z.cells.size=size) (nV:0<size)
  (v:Value) (n:Nat) (xs:List Value) (hs:a.eval s=v) (aP:w.ownsRow base e size v n xs)
  (ad:Addr) (c:Nat) (news:List Value) (hx:a.eval x=.slice (some ad) 1 c) (hl:news.length=size) (iD:∀j u,news[j]?=some u->w.cell? (ad.add j)=some u) (h1:∀u∈news,u.oneCell'=true)
  (Kj:n+1<=1000000) (hb:bytes<=1000) (gH:base<=w.heap.size)
  (hK:∀g cap w',w'.ownsRow base e size (.slice (some ⟨g,0,none⟩) (n+1) cap) (n+1) (xs++news)->w.grownBy w' v.ownBlock->(some g=v.ownBlock\/g=w.heap.size)->K (a.put o.dst (.slice (some ⟨g,0,none⟩) (n+1) cap)) w') :
  if Region.wanted o (yielded ops a.tmps)=true then Oper.wp P o a w K Q else E:=by
 have hw:Region.wanted o (yielded ops a.tmps)=true:=by simp[Region.wanted,hg]
 rw[if_pos hw];obtain⟨v',w',FL,r1,r2,r3,g,cap,rfl⟩:=DG (P:=P) w base t o.type e i z size bytes ht hi hz jK Ej KW nV v n xs aP ad c news hl iD h1 Kj hb gH;unfold Oper.wp;simp[execOp,nU,resolve,invoke,builtin,hs,hx,FL,Result.andThen];exact hK g cap w' r1 r2 (by simpa[Value.ownBlock] using r3)
end
