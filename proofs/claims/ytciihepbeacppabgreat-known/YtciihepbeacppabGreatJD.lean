import Derived.Test.YtciihepbeacppabGreatM30
import Derived.KernelRfl
namespace Go.Proofs.YtciihepbeacppabGreat
open Go.RowKit
set_option linter.unusedVariables false
theorem gl0 : GlOk (gold[0]'(by decide)):=.safe _ (by kernel_rfl)
theorem gl1 : GlOk (gold[1]'(by decide)):=.safe _ (by kernel_rfl)
theorem gl2 : GlOk (gold[2]'(by decide)):=.safe _ (by kernel_rfl)
theorem gl3 : GlOk (gold[3]'(by decide)):=.safe _ (by kernel_rfl)
theorem gl4 : GlOk (gold[4]'(by decide)):=.safe _ (by kernel_rfl)
theorem gl5 : GlOk (gold[5]'(by decide)):=.safe _ (by kernel_rfl)
theorem gl6 : GlOk (gold[6]'(by decide)):=.safe _ (by kernel_rfl)
theorem gl7 : GlOk (gold[7]'(by decide)):=.safe _ (by kernel_rfl)
theorem gl8 : GlOk (gold[8]'(by decide)):=.safe _ (by kernel_rfl)
theorem gl9 : GlOk (gold[9]'(by decide)):=.ala _ (by kernel_rfl)
theorem gl10 : GlOk (gold[10]'(by decide)):=.ala _ (by kernel_rfl)
theorem gl11 : GlOk (gold[11]'(by decide)):=.safe _ (by kernel_rfl)
theorem gl12 : GlOk (gold[12]'(by decide)):=.ala _ (by kernel_rfl)
theorem gl13 : GlOk (gold[13]'(by decide)):=.ala _ (by kernel_rfl)
theorem gl14 : GlOk (gold[14]'(by decide)):=.ala _ (by kernel_rfl)
theorem gl15 : GlOk (gold[15]'(by decide)):=.safe _ (by kernel_rfl)
theorem gl16 : GlOk (gold[16]'(by decide)):=.safe _ (by kernel_rfl)
theorem gl17 : GlOk (gold[17]'(by decide)):=.ala _ (by kernel_rfl)
theorem gl18 : GlOk (gold[18]'(by decide)):=.safe _ (by kernel_rfl)
theorem gl19 : GlOk (gold[19]'(by decide)):=.safe _ (by kernel_rfl)
theorem gl20 : GlOk (gold[20]'(by decide)):=.ala _ (by kernel_rfl)
theorem gl21 : GlOk (gold[21]'(by decide)):=.safe _ (by kernel_rfl)
theorem gl22 : GlOk (gold[22]'(by decide)):=.safe _ (by kernel_rfl)
theorem gl23 : GlOk (gold[23]'(by decide)):=.safe _ (by kernel_rfl)
theorem gl24 : GlOk (gold[24]'(by decide)):=.safe _ (by kernel_rfl)
theorem gl25 : GlOk (gold[25]'(by decide)):=.safe _ (by kernel_rfl)
theorem gl26 : GlOk (gold[26]'(by decide)):=.safe _ (by kernel_rfl)
theorem gl27 : GlOk (gold[27]'(by decide)):=.safe _ (by kernel_rfl)
theorem gl28 : GlOk (gold[28]'(by decide)):=.safe _ (by kernel_rfl)
theorem gl29 : GlOk (gold[29]'(by decide)):=.ala _ (by kernel_rfl)
theorem gl30 : GlOk (gold[30]'(by decide)):=.safe _ (by kernel_rfl)
theorem gl31 : GlOk (gold[31]'(by decide)):=.safe _ (by kernel_rfl)
theorem gl32 : GlOk (gold[32]'(by decide)):=.ala _ (by kernel_rfl)
theorem gl33 : GlOk (gold[33]'(by decide)):=.syn _ (by kernel_rfl)
theorem gl34 : GlOk (gold[34]'(by decide)):=.syn _ (by kernel_rfl)
theorem gl35 : GlOk (gold[35]'(by decide)):=.syn _ (by kernel_rfl)
theorem gl36 : GlOk (gold[36]'(by decide)):=.syn _ (by kernel_rfl)
theorem gl37 : GlOk (gold[37]'(by decide)):=.syn _ (by kernel_rfl)
theorem gl38 : GlOk (gold[38]'(by decide)):=.syn _ (by kernel_rfl)
theorem gl39 : GlOk (gold[39]'(by decide)):=.lex _ (by kernel_rfl)
theorem gl40 : GlOk (gold[40]'(by decide)):=.nam _ (by kernel_rfl)
theorem gl41 : GlOk (gold[41]'(by decide)):=.safe _ (by kernel_rfl)
theorem gl42 : GlOk (gold[42]'(by decide)):=.safe _ (by kernel_rfl)
theorem gl43 : GlOk (gold[43]'(by decide)):=.safe _ (by kernel_rfl)
theorem gl44 : GlOk (gold[44]'(by decide)):=.safe _ (by kernel_rfl)
theorem gl45 : GlOk (gold[45]'(by decide)):=.safe _ (by kernel_rfl)
theorem gl46 : GlOk (gold[46]'(by decide)):=.safe _ (by kernel_rfl)
theorem gl47 : GlOk (gold[47]'(by decide)):=.safe _ (by kernel_rfl)
theorem gl48 : GlOk (gold[48]'(by decide)):=.no _ _ (by kernel_rfl)
theorem gl49 : GlOk (gold[49]'(by decide)):=.safe _ (by kernel_rfl)
theorem gl50 : GlOk (gold[50]'(by decide)):=.yes _ _ (by kernel_rfl)
theorem gl51 : GlOk (gold[51]'(by decide)):=.yes _ _ (by kernel_rfl)
theorem gl52 : GlOk (gold[52]'(by decide)):=.yes _ _ (by kernel_rfl)
theorem gl53 : GlOk (gold[53]'(by decide)):=.yes _ _ (by kernel_rfl)
theorem gl54 : GlOk (gold[54]'(by decide)):=.yes _ _ (by kernel_rfl)
theorem gl55 : GlOk (gold[55]'(by decide)):=.yes _ _ (by kernel_rfl)
theorem gl56 : GlOk (gold[56]'(by decide)):=.no _ _ (by kernel_rfl)
theorem gl57 : GlOk (gold[57]'(by decide)):=.no _ _ (by kernel_rfl)
theorem gl58 : GlOk (gold[58]'(by decide)):=.no _ _ (by kernel_rfl)
theorem gl59 : GlOk (gold[59]'(by decide)):=.no _ _ (by kernel_rfl)
theorem gl60 : GlOk (gold[60]'(by decide)):=.fal _ _ (by kernel_rfl)
theorem gl_all : ∀ k,(hk : k < 61) → ∃ g,gold[k]? = some g ∧ GlOk g:=by
 intro k hk
 match k,hk with
 | 0,_=>exact ⟨_,rfl,gl0⟩
 | 1,_=>exact ⟨_,rfl,gl1⟩
 | 2,_=>exact ⟨_,rfl,gl2⟩
 | 3,_=>exact ⟨_,rfl,gl3⟩
 | 4,_=>exact ⟨_,rfl,gl4⟩
 | 5,_=>exact ⟨_,rfl,gl5⟩
 | 6,_=>exact ⟨_,rfl,gl6⟩
 | 7,_=>exact ⟨_,rfl,gl7⟩
 | 8,_=>exact ⟨_,rfl,gl8⟩
 | 9,_=>exact ⟨_,rfl,gl9⟩
 | 10,_=>exact ⟨_,rfl,gl10⟩
 | 11,_=>exact ⟨_,rfl,gl11⟩
 | 12,_=>exact ⟨_,rfl,gl12⟩
 | 13,_=>exact ⟨_,rfl,gl13⟩
 | 14,_=>exact ⟨_,rfl,gl14⟩
 | 15,_=>exact ⟨_,rfl,gl15⟩
 | 16,_=>exact ⟨_,rfl,gl16⟩
 | 17,_=>exact ⟨_,rfl,gl17⟩
 | 18,_=>exact ⟨_,rfl,gl18⟩
 | 19,_=>exact ⟨_,rfl,gl19⟩
 | 20,_=>exact ⟨_,rfl,gl20⟩
 | 21,_=>exact ⟨_,rfl,gl21⟩
 | 22,_=>exact ⟨_,rfl,gl22⟩
 | 23,_=>exact ⟨_,rfl,gl23⟩
 | 24,_=>exact ⟨_,rfl,gl24⟩
 | 25,_=>exact ⟨_,rfl,gl25⟩
 | 26,_=>exact ⟨_,rfl,gl26⟩
 | 27,_=>exact ⟨_,rfl,gl27⟩
 | 28,_=>exact ⟨_,rfl,gl28⟩
 | 29,_=>exact ⟨_,rfl,gl29⟩
 | 30,_=>exact ⟨_,rfl,gl30⟩
 | 31,_=>exact ⟨_,rfl,gl31⟩
 | 32,_=>exact ⟨_,rfl,gl32⟩
 | 33,_=>exact ⟨_,rfl,gl33⟩
 | 34,_=>exact ⟨_,rfl,gl34⟩
 | 35,_=>exact ⟨_,rfl,gl35⟩
 | 36,_=>exact ⟨_,rfl,gl36⟩
 | 37,_=>exact ⟨_,rfl,gl37⟩
 | 38,_=>exact ⟨_,rfl,gl38⟩
 | 39,_=>exact ⟨_,rfl,gl39⟩
 | 40,_=>exact ⟨_,rfl,gl40⟩
 | 41,_=>exact ⟨_,rfl,gl41⟩
 | 42,_=>exact ⟨_,rfl,gl42⟩
 | 43,_=>exact ⟨_,rfl,gl43⟩
 | 44,_=>exact ⟨_,rfl,gl44⟩
 | 45,_=>exact ⟨_,rfl,gl45⟩
 | 46,_=>exact ⟨_,rfl,gl46⟩
 | 47,_=>exact ⟨_,rfl,gl47⟩
 | 48,_=>exact ⟨_,rfl,gl48⟩
 | 49,_=>exact ⟨_,rfl,gl49⟩
 | 50,_=>exact ⟨_,rfl,gl50⟩
 | 51,_=>exact ⟨_,rfl,gl51⟩
 | 52,_=>exact ⟨_,rfl,gl52⟩
 | 53,_=>exact ⟨_,rfl,gl53⟩
 | 54,_=>exact ⟨_,rfl,gl54⟩
 | 55,_=>exact ⟨_,rfl,gl55⟩
 | 56,_=>exact ⟨_,rfl,gl56⟩
 | 57,_=>exact ⟨_,rfl,gl57⟩
 | 58,_=>exact ⟨_,rfl,gl58⟩
 | 59,_=>exact ⟨_,rfl,gl59⟩
 | 60,_=>exact ⟨_,rfl,gl60⟩
 | n + 61,h=>omega
theorem known_law (w : World) (c : Int) (hc : -9223372036854775808 ≤ c ∧ c ≤ 9223372036854775807) : Calls Tryz.prog 3 #[.int .i64 c] w fun e w'=>e = .returned (.bool true) ∧ Below w.heap.size w w':=by
 obtain ⟨g,hg,hok⟩:=gl_all (pkJ c 61) (pkJ_lt c (by omega))
 revert hg
 refine hok (fun g => gold[pkJ c 61]? = some g → Calls Tryz.prog 3 #[.int .i64 c] w fun e w' => e = .returned (.bool true) ∧ Below w.heap.size w w') ?_ ?_ ?_ ?_ ?_ ?_ ?_ ?_
 ·intro a b h hg;exact known_ent w c hc a b _ true 0 hg h (Or.inl ⟨rfl,rfl,rfl⟩)
 ·intro a b h hg;exact known_ent w c hc a b _ false 0 hg h (Or.inr (Or.inl ⟨rfl,rfl,rfl⟩))
 ·intro a b h hg;exact known_ent w c hc a b _ false 7 hg h (Or.inr (Or.inr ⟨rfl,rfl,rfl⟩))
 ·intro a h hg;exact known_err w c hc a _ 3 hg h (Or.inl ⟨rfl,rfl⟩)
 ·intro a h hg;exact known_err w c hc a _ 2 hg h (Or.inr (Or.inl ⟨rfl,rfl⟩))
 ·intro a h hg;exact known_err w c hc a _ 4 hg h (Or.inr (Or.inr ⟨rfl,rfl⟩))
 ·intro a h hg;exact known_prg w c hc a _ 0 hg h (Or.inl ⟨rfl,rfl⟩)
 ·intro a h hg;exact known_prg w c hc a _ 1 hg h (Or.inr ⟨rfl,rfl⟩)
end Go.Proofs.YtciihepbeacppabGreat
