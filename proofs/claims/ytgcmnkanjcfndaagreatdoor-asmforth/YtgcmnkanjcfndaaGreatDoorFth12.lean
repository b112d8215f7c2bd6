import Derived.Shelf.LaysM
import Derived.Shelf.LaysC
import Derived.Shelf.Strconv.Itoa3
import Derived.Shelf.Strconv.AtoiAll
import Derived.Shelf.Strings.Cut
import Derived.Shelf.Strings.Split
import Derived.Test.YtgcmnkanjcfndaaGreatDoorProg
import Derived.Test.YtgcmnkanjcfndaaGreatDoorFth7
import Derived.Test.YtgcmnkanjcfndaaGreatDoorFth10
import Derived.WalkSmall
import Derived.Test.YtgcmnkanjcfndaaGreatDoorFth11
import Derived.Deep.DeepCutAuto
import Derived.Test.YtgcmnkanjcfndaaGreatDoorFth1
import Derived.Maps.OwnSet
import Derived.Maps.OwnOps
import Derived.Maps.RangeWalk
import Derived.Maps.Ext
import Derived.Test.YtgcmnkanjcfndaaGreatDoorRows
import Derived.WalkKit
import Derived.WalkSpells
import Derived.WalkLawsBesides
import Derived.LoopN
import Derived.Below
import Derived.Laws.IdiomStrings
import Derived.Deep.QuietTactic
import Derived.BigQuiet
namespace Go.Proofs.YtgcmnkanjcfndaaGreatDoor
open Go.Shelf Go.RowKit

def sh_lays145_ren : Go.Shelf.Ren := ⟨fun | 145 => 56 | 220 => 85 | 219 => 116 | 217 => 140 | 225 => 141 | 224 => 142 | 267 => 143 | 266 => 158 | 314 => 159 | n => n, fun | 9 => 9 | 4 => 4 | 59 => 111 | 3 => 3 | 5 => 5 | 46 => 191 | 146 => 203 | 51 => 43 | n => n, fun | 1 => 0 | n => n⟩

theorem sh_lays145 : Go.Proofs.Lays.n145 Tryz.prog sh_lays145_ren := {
  mixed := by kernel_rfl
  f145 := Tryz.func56.trans (congrArg some (by kernel_rfl))
  f217 := Tryz.func140.trans (congrArg some (by kernel_rfl))
  f219 := Tryz.func116.trans (congrArg some (by kernel_rfl))
  f220 := Tryz.func85.trans (congrArg some (by kernel_rfl))
  f224 := Tryz.func142.trans (congrArg some (by kernel_rfl))
  f225 := Tryz.func141.trans (congrArg some (by kernel_rfl))
  f266 := Tryz.func158.trans (congrArg some (by kernel_rfl))
  f267 := Tryz.func143.trans (congrArg some (by kernel_rfl))
  f314 := Tryz.func159.trans (congrArg some (by kernel_rfl))
  t3 := Tryz.underlying3
  a3 := Tryz.isAgg3
  z3 := Tryz.sizeOf3
  v3 := Tryz.zeroValue3
  t4 := Tryz.underlying4
  a4 := Tryz.isAgg4
  z4 := Tryz.sizeOf4
  v4 := Tryz.zeroValue4
  t5 := Tryz.underlying5
  a5 := Tryz.isAgg5
  z5 := Tryz.sizeOf5
  v5 := Tryz.zeroValue5
  t9 := Tryz.underlying9
  a9 := Tryz.isAgg9
  z9 := Tryz.sizeOf9
  v9 := Tryz.zeroValue9
  t46 := Tryz.underlying191
  a46 := Tryz.isAgg191
  z46 := Tryz.sizeOf191
  v46 := Tryz.zeroValue191
  t51 := Tryz.underlying43
  a51 := Tryz.isAgg43
  z51 := Tryz.sizeOf43
  v51 := Tryz.zeroValue43
  t59 := Tryz.underlying111
  a59 := Tryz.isAgg111
  z59 := Tryz.sizeOf111
  v59 := Tryz.zeroValue111
  t146 := Tryz.underlying203
  a146 := Tryz.isAgg203
  z146 := Tryz.sizeOf203
  v146 := Tryz.zeroValue203
  g1 := by kernel_rfl }

theorem sh_strings_Cut (s sep : ByteArray) (m : Int) (w : World) (hs : s.size < 4294967281) (hm : w.cell? ⟨0, 0, none⟩ = some (.int .i64 m)) :
    Calls Tryz.prog 56 #[.string s, .string sep] w fun e w' => e = .returned (.tuple #[.string ⟨(Lib.cut s.data.toList sep.data.toList).1.toArray⟩, .string ⟨(Lib.cut s.data.toList sep.data.toList).2.1.toArray⟩, .bool (Lib.cut s.data.toList sep.data.toList).2.2]) ∧ ∃ n, w' = w.drewN n := Any.strings_Cut sh_lays145 s sep m w hs hm

def sh_laysC172_ren : Go.Shelf.Ren := ⟨fun | 172 => 160 | 244 => 170 | 245 => 171 | 247 => 176 | 279 => 177 | 280 => 178 | 281 => 179 | 282 => 180 | 287 => 181 | 316 => 147 | 171 => 80 | 205 => 182 | 321 => 183 | 322 => 184 | 243 => 113 | 246 => 139 | 283 => 154 | 284 => 155 | 285 => 156 | 286 => 157 | 129 => 166 | 317 => 165 | 318 => 167 | 319 => 168 | 320 => 169 | 337 => 174 | 338 => 175 | n => n, fun | 9 => 9 | 3 => 3 | 75 => 138 | 76 => 139 | 4 => 4 | 5 => 5 | 167 => 216 | 37 => 55 | 0 => 0 | 85 => 217 | 2 => 2 | 168 => 219 | 53 => 178 | 175 => 224 | 46 => 191 | 210 => 227 | 127 => 147 | 145 => 232 | 143 => 230 | 21 => 21 | 171 => 198 | 173 => 201 | 212 => 208 | 51 => 43 | 20 => 20 | 213 => 209 | 232 => 222 | 233 => 223 | 80 => 107 | n => n, fun | 15 => 4 | 16 => 5 | 17 => 1 | 18 => 2 | 19 => 3 | n => n⟩

theorem sh_laysC172 : Go.Proofs.LaysC.n172 Tryz.prog sh_laysC172_ren := {
  mixed := by kernel_rfl
  f129 := Tryz.func166.trans (congrArg some (by kernel_rfl))
  f171 := Tryz.func80.trans (congrArg some (by kernel_rfl))
  f172 := Tryz.func160.trans (congrArg some (by kernel_rfl))
  f205 := Tryz.func182.trans (congrArg some (by kernel_rfl))
  f243 := Tryz.func113.trans (congrArg some (by kernel_rfl))
  f244 := Tryz.func170.trans (congrArg some (by kernel_rfl))
  f245 := Tryz.func171.trans (congrArg some (by kernel_rfl))
  f246 := Tryz.func139.trans (congrArg some (by kernel_rfl))
  f247 := Tryz.func176.trans (congrArg some (by kernel_rfl))
  f279 := Tryz.func177.trans (congrArg some (by kernel_rfl))
  f280 := Tryz.func178.trans (congrArg some (by kernel_rfl))
  f281 := Tryz.func179.trans (congrArg some (by kernel_rfl))
  f282 := Tryz.func180.trans (congrArg some (by kernel_rfl))
  f283 := Tryz.func154.trans (congrArg some (by kernel_rfl))
  f284 := Tryz.func155.trans (congrArg some (by kernel_rfl))
  f285 := Tryz.func156.trans (congrArg some (by kernel_rfl))
  f286 := Tryz.func157.trans (congrArg some (by kernel_rfl))
  f287 := Tryz.func181.trans (congrArg some (by kernel_rfl))
  f316 := Tryz.func147.trans (congrArg some (by kernel_rfl))
  f317 := Tryz.func165.trans (congrArg some (by kernel_rfl))
  f318 := Tryz.func167.trans (congrArg some (by kernel_rfl))
  f319 := Tryz.func168.trans (congrArg some (by kernel_rfl))
  f320 := Tryz.func169.trans (congrArg some (by kernel_rfl))
  f321 := Tryz.func183.trans (congrArg some (by kernel_rfl))
  f322 := Tryz.func184.trans (congrArg some (by kernel_rfl))
  f337 := Tryz.func174.trans (congrArg some (by kernel_rfl))
  f338 := Tryz.func175.trans (congrArg some (by kernel_rfl))
  t0 := Tryz.underlying0
  a0 := Tryz.isAgg0
  z0 := Tryz.sizeOf0
  v0 := Tryz.zeroValue0
  t2 := Tryz.underlying2
  a2 := Tryz.isAgg2
  z2 := Tryz.sizeOf2
  v2 := Tryz.zeroValue2
  t3 := Tryz.underlying3
  a3 := Tryz.isAgg3
  z3 := Tryz.sizeOf3
  v3 := Tryz.zeroValue3
  t4 := Tryz.underlying4
  a4 := Tryz.isAgg4
  z4 := Tryz.sizeOf4
  v4 := Tryz.zeroValue4
  t5 := Tryz.underlying5
  a5 := Tryz.isAgg5
  z5 := Tryz.sizeOf5
  v5 := Tryz.zeroValue5
  t9 := Tryz.underlying9
  a9 := Tryz.isAgg9
  z9 := Tryz.sizeOf9
  v9 := Tryz.zeroValue9
  t20 := Tryz.underlying20
  a20 := Tryz.isAgg20
  z20 := Tryz.sizeOf20
  v20 := Tryz.zeroValue20
  t21 := Tryz.underlying21
  a21 := Tryz.isAgg21
  z21 := Tryz.sizeOf21
  v21 := Tryz.zeroValue21
  t37 := Tryz.underlying55
  a37 := Tryz.isAgg55
  z37 := Tryz.sizeOf55
  v37 := Tryz.zeroValue55
  t46 := Tryz.underlying191
  a46 := Tryz.isAgg191
  z46 := Tryz.sizeOf191
  v46 := Tryz.zeroValue191
  t51 := Tryz.underlying43
  a51 := Tryz.isAgg43
  z51 := Tryz.sizeOf43
  v51 := Tryz.zeroValue43
  t53 := Tryz.underlying178
  a53 := Tryz.isAgg178
  z53 := Tryz.sizeOf178
  v53 := Tryz.zeroValue178
  t75 := Tryz.underlying138
  a75 := Tryz.isAgg138
  z75 := Tryz.sizeOf138
  v75 := Tryz.zeroValue138
  t76 := Tryz.underlying139
  a76 := Tryz.isAgg139
  z76 := Tryz.sizeOf139
  v76 := Tryz.zeroValue139
  t85 := Tryz.underlying217
  a85 := Tryz.isAgg217
  z85 := Tryz.sizeOf217
  v85 := Tryz.zeroValue217
  t127 := Tryz.underlying147
  a127 := Tryz.isAgg147
  z127 := Tryz.sizeOf147
  v127 := Tryz.zeroValue147
  t143 := Tryz.underlying230
  a143 := Tryz.isAgg230
  z143 := Tryz.sizeOf230
  v143 := Tryz.zeroValue230
  t145 := Tryz.underlying232
  a145 := Tryz.isAgg232
  z145 := Tryz.sizeOf232
  v145 := Tryz.zeroValue232
  t167 := Tryz.underlying216
  a167 := Tryz.isAgg216
  z167 := Tryz.sizeOf216
  v167 := Tryz.zeroValue216
  t168 := Tryz.underlying219
  a168 := Tryz.isAgg219
  z168 := Tryz.sizeOf219
  v168 := Tryz.zeroValue219
  t171 := Tryz.underlying198
  a171 := Tryz.isAgg198
  z171 := Tryz.sizeOf198
  v171 := Tryz.zeroValue198
  t173 := Tryz.underlying201
  a173 := Tryz.isAgg201
  z173 := Tryz.sizeOf201
  v173 := Tryz.zeroValue201
  t175 := Tryz.underlying224
  a175 := Tryz.isAgg224
  z175 := Tryz.sizeOf224
  v175 := Tryz.zeroValue224
  t210 := Tryz.underlying227
  a210 := Tryz.isAgg227
  z210 := Tryz.sizeOf227
  v210 := Tryz.zeroValue227
  t212 := Tryz.underlying208
  a212 := Tryz.isAgg208
  z212 := Tryz.sizeOf208
  v212 := Tryz.zeroValue208
  t213 := Tryz.underlying209
  a213 := Tryz.isAgg209
  z213 := Tryz.sizeOf209
  t232 := Tryz.underlying222
  a232 := Tryz.isAgg222
  z232 := Tryz.sizeOf222
  v232 := Tryz.zeroValue222
  t233 := Tryz.underlying223
  a233 := Tryz.isAgg223
  z233 := Tryz.sizeOf223
  v233 := Tryz.zeroValue223
  g15 := by kernel_rfl
  g16 := by kernel_rfl
  g17 := by kernel_rfl
  g18 := by kernel_rfl
  g19 := by kernel_rfl
  t80 := Tryz.underlying107
  a80 := Tryz.isAgg107
  z80 := Tryz.sizeOf107
  v80 := Tryz.zeroValue107
  i0 := by kernel_rfl
  i2 := by kernel_rfl
  i3 := by kernel_rfl
  i4 := by kernel_rfl
  i5 := by kernel_rfl
  i9 := by kernel_rfl
  i20 := by kernel_rfl
  i21 := by kernel_rfl
  i37 := by kernel_rfl
  i46 := by kernel_rfl
  i51 := by kernel_rfl
  i53 := by kernel_rfl
  i75 := by kernel_rfl
  i76 := by kernel_rfl
  i80 := by kernel_rfl
  i85 := by kernel_rfl
  i127 := by kernel_rfl
  i143 := by kernel_rfl
  i145 := by kernel_rfl
  i167 := by kernel_rfl
  i168 := by kernel_rfl
  i171 := by kernel_rfl
  i173 := by kernel_rfl
  i175 := by kernel_rfl
  i210 := by kernel_rfl
  i212 := by kernel_rfl
  i232 := by kernel_rfl
  i233 := by kernel_rfl
  m15 := by kernel_rfl
  m16 := by kernel_rfl
  m17 := by kernel_rfl
  m18 := by kernel_rfl
  m19 := by kernel_rfl
  c0 := by kernel_rfl
  c2 := by kernel_rfl
  c3 := by kernel_rfl
  c4 := by kernel_rfl
  c5 := by kernel_rfl
  c9 := by kernel_rfl
  c20 := by kernel_rfl
  c21 := by kernel_rfl
  c37 := by kernel_rfl
  c46 := by kernel_rfl
  c51 := by kernel_rfl
  c53 := by kernel_rfl
  c75 := by kernel_rfl
  c76 := by kernel_rfl
  c80 := by kernel_rfl
  c85 := by kernel_rfl
  c127 := by kernel_rfl
  c143 := by kernel_rfl
  c145 := by kernel_rfl
  c167 := by kernel_rfl
  c168 := by kernel_rfl
  c171 := by kernel_rfl
  c173 := by kernel_rfl
  c175 := by kernel_rfl
  c210 := by kernel_rfl
  c212 := by kernel_rfl
  c213 := by kernel_rfl
  c232 := by kernel_rfl
  c233 := by kernel_rfl }

theorem sh_strconv_Atoi_ok (s : ByteArray) (hmax : s.size ≤ 9223372036854775806) (v : Int) (h : Lib.atoiAll s.data.toList = .ok v) (w : World) :
    Calls Tryz.prog 160 #[.string s] w fun e w' => e = .returned (.tuple #[.int .i64 v, .nilIface]) ∧ (w' = w ∨ ∃ t, w' = Lib.bytesWorld w 5 t) := Any.strconv_Atoi_ok sh_laysC172 s hmax v h w

theorem sh_strconv_Atoi_syntax (s : ByteArray) (hlim : s.size ≤ 281474976710656) (h : Lib.atoiAll s.data.toList = .«syntax») (ev : Value) (w : World) (hv : w.cell? ⟨4, 0, none⟩ = some ev) (hev : ev = .nilIface ∨ ∃ te pe, ev = .iface te pe) :
    Calls Tryz.prog 160 #[.string s] w fun e w' => ∃ N, e = .returned (.tuple #[.int .i64 (0), .iface 219 (.pointer (some ⟨N, 0, none⟩))]) ∧ w.heap.size ≤ N ∧ w'.heap[N]? = some (.cells #[.string ⟨#[65, 116, 111, 105]⟩, .string s, ev] 227 (0, 0)) ∧ Below w.heap.size w w' := Any.strconv_Atoi_syntax sh_laysC172 s hlim h ev w hv hev

theorem sh_strconv_Atoi_range (s : ByteArray) (hlim : s.size ≤ 281474976710656) (h : Lib.atoiAll s.data.toList = .range) (ev : Value) (w : World) (hv : w.cell? ⟨5, 0, none⟩ = some ev) (hev : ev = .nilIface ∨ ∃ te pe, ev = .iface te pe) :
    Calls Tryz.prog 160 #[.string s] w fun e w' => ∃ N, e = .returned (.tuple #[.int .i64 (Lib.atoiSat s.data.toList), .iface 219 (.pointer (some ⟨N, 0, none⟩))]) ∧ w.heap.size ≤ N ∧ w'.heap[N]? = some (.cells #[.string ⟨#[65, 116, 111, 105]⟩, .string s, ev] 227 (0, 0)) ∧ Below w.heap.size w w' := Any.strconv_Atoi_range sh_laysC172 s hlim h ev w hv hev

def sh_laysM171_ren : Go.Shelf.Ren := ⟨fun | 171 => 80 | 243 => 113 | 246 => 139 | 283 => 154 | 284 => 155 | 285 => 156 | 286 => 157 | 129 => 166 | 317 => 165 | 318 => 167 | 319 => 168 | 320 => 169 | 337 => 174 | 338 => 175 | n => n, fun | 3 => 3 | 9 => 9 | 2 => 2 | 4 => 4 | 171 => 198 | 0 => 0 | 53 => 178 | 37 => 55 | 5 => 5 | 173 => 201 | 212 => 208 | 51 => 43 | 20 => 20 | 213 => 209 | 46 => 191 | 232 => 222 | 233 => 223 | n => n, fun | 17 => 1 | 18 => 2 | 19 => 3 | n => n⟩

theorem sh_laysM171 : Go.Proofs.LaysM.n171 Tryz.prog sh_laysM171_ren := {
  mixed := by kernel_rfl
  f129 := Tryz.func166.trans (congrArg some (by kernel_rfl))
  f171 := Tryz.func80.trans (congrArg some (by kernel_rfl))
  f243 := Tryz.func113.trans (congrArg some (by kernel_rfl))
  f246 := Tryz.func139.trans (congrArg some (by kernel_rfl))
  f283 := Tryz.func154.trans (congrArg some (by kernel_rfl))
  f284 := Tryz.func155.trans (congrArg some (by kernel_rfl))
  f285 := Tryz.func156.trans (congrArg some (by kernel_rfl))
  f286 := Tryz.func157.trans (congrArg some (by kernel_rfl))
  f317 := Tryz.func165.trans (congrArg some (by kernel_rfl))
  f318 := Tryz.func167.trans (congrArg some (by kernel_rfl))
  f319 := Tryz.func168.trans (congrArg some (by kernel_rfl))
  f320 := Tryz.func169.trans (congrArg some (by kernel_rfl))
  f337 := Tryz.func174.trans (congrArg some (by kernel_rfl))
  f338 := Tryz.func175.trans (congrArg some (by kernel_rfl))
  t0 := Tryz.underlying0
  a0 := Tryz.isAgg0
  z0 := Tryz.sizeOf0
  v0 := Tryz.zeroValue0
  t2 := Tryz.underlying2
  a2 := Tryz.isAgg2
  z2 := Tryz.sizeOf2
  v2 := Tryz.zeroValue2
  t3 := Tryz.underlying3
  a3 := Tryz.isAgg3
  z3 := Tryz.sizeOf3
  v3 := Tryz.zeroValue3
  t4 := Tryz.underlying4
  a4 := Tryz.isAgg4
  z4 := Tryz.sizeOf4
  v4 := Tryz.zeroValue4
  t5 := Tryz.underlying5
  a5 := Tryz.isAgg5
  z5 := Tryz.sizeOf5
  v5 := Tryz.zeroValue5
  t9 := Tryz.underlying9
  a9 := Tryz.isAgg9
  z9 := Tryz.sizeOf9
  v9 := Tryz.zeroValue9
  t20 := Tryz.underlying20
  a20 := Tryz.isAgg20
  z20 := Tryz.sizeOf20
  v20 := Tryz.zeroValue20
  t37 := Tryz.underlying55
  a37 := Tryz.isAgg55
  z37 := Tryz.sizeOf55
  v37 := Tryz.zeroValue55
  t46 := Tryz.underlying191
  a46 := Tryz.isAgg191
  z46 := Tryz.sizeOf191
  v46 := Tryz.zeroValue191
  t51 := Tryz.underlying43
  a51 := Tryz.isAgg43
  z51 := Tryz.sizeOf43
  v51 := Tryz.zeroValue43
  t53 := Tryz.underlying178
  a53 := Tryz.isAgg178
  z53 := Tryz.sizeOf178
  v53 := Tryz.zeroValue178
  t171 := Tryz.underlying198
  a171 := Tryz.isAgg198
  z171 := Tryz.sizeOf198
  v171 := Tryz.zeroValue198
  t173 := Tryz.underlying201
  a173 := Tryz.isAgg201
  z173 := Tryz.sizeOf201
  v173 := Tryz.zeroValue201
  t212 := Tryz.underlying208
  a212 := Tryz.isAgg208
  z212 := Tryz.sizeOf208
  v212 := Tryz.zeroValue208
  t213 := Tryz.underlying209
  a213 := Tryz.isAgg209
  z213 := Tryz.sizeOf209
  t232 := Tryz.underlying222
  a232 := Tryz.isAgg222
  z232 := Tryz.sizeOf222
  v232 := Tryz.zeroValue222
  t233 := Tryz.underlying223
  a233 := Tryz.isAgg223
  z233 := Tryz.sizeOf223
  v233 := Tryz.zeroValue223
  g17 := by kernel_rfl
  g18 := by kernel_rfl
  g19 := by kernel_rfl
  i0 := by kernel_rfl
  i2 := by kernel_rfl
  i3 := by kernel_rfl
  i4 := by kernel_rfl
  i5 := by kernel_rfl
  i9 := by kernel_rfl
  i20 := by kernel_rfl
  i37 := by kernel_rfl
  i46 := by kernel_rfl
  i51 := by kernel_rfl
  i53 := by kernel_rfl
  i171 := by kernel_rfl
  i173 := by kernel_rfl
  i212 := by kernel_rfl
  i232 := by kernel_rfl
  i233 := by kernel_rfl
  m17 := by kernel_rfl
  m18 := by kernel_rfl
  m19 := by kernel_rfl }

theorem sh_strconv_Itoa (n : Int) (h0 : -9223372036854775808 ≤ n) (h1 : n ≤ 9223372036854775807) (w : World) (htab : Lib.TabIs Tryz.prog w "internal/strconv.uint64pow10" .u64 Lib.pow10Tab) :
    Calls Tryz.prog 80 #[.int .i64 n] w fun e w' => e = .returned (.string ⟨(Lib.itoa n).toArray⟩) ∧ ∃ k os, w' = Go.Sort.grow (w.drewN k) os := Any.strconv_Itoa sh_laysM171 n h0 h1 w htab
end Go.Proofs.YtgcmnkanjcfndaaGreatDoor
/- Package sign: a line read as a parameter. -/
namespace Go.Proofs.YtgcmnkanjcfndaaGreatDoor
open Go.RowKit
set_option linter.unusedVariables false
set_option linter.unusedSimpArgs false

theorem g_tab : Tryz.prog.globalNamed "internal/strconv.uint64pow10" = some 1 := by kernel_rfl

/-- What package-level variables of the library hold. -/
structure Laid (w : World) : Prop where
  mx : ∃ m, w.cell? ⟨0, 0, none⟩ = some (.int .i64 m)
  tab : Lib.TabIs Tryz.prog w "internal/strconv.uint64pow10" .u64 Lib.pow10Tab
  syn : ∃ te pe, w.cell? ⟨4, 0, none⟩ = some (.iface te pe)
  rng : ∃ te pe, w.cell? ⟨5, 0, none⟩ = some (.iface te pe)

theorem Laid.below {w w' : World} (h : Laid w) (k : Below w.heap.size w w') : Laid w' := by
  refine ⟨?_, ?_, ?_, ?_⟩
  · obtain ⟨m, hm⟩ := h.mx
    exact ⟨m, keepc k hm⟩
  · exact var?_below k g_tab (mcell_lt (Lib.TabIs.cell h.tab g_tab 0 (by decide))) h.tab
  · obtain ⟨a, b, hm⟩ := h.syn
    exact ⟨a, b, keepc k hm⟩
  · obtain ⟨a, b, hm⟩ := h.rng
    exact ⟨a, b, keepc k hm⟩

theorem bel_grow (w : World) (os : Array Obj) : Below w.heap.size w (Go.Sort.grow w os) := by
  refine ⟨rfl, rfl, rfl, by simp [Go.Sort.grow], fun j hj => ?_⟩
  simp [Go.Sort.grow, Array.getElem?_append_left hj]

theorem itoa_any (n : Int) (h0 : -9223372036854775808 ≤ n) (h1 : n ≤ 9223372036854775807) (w : World) (hL : Laid w) :
    Calls Tryz.prog 80 #[.int .i64 n] w fun e w' => e = .returned (.string (sof (Lib.itoa n))) ∧ Below w.heap.size w w' :=
  (sh_strconv_Itoa n h0 h1 w hL.tab).mono fun e w' ⟨he, k, os, hw⟩ => ⟨he, by subst hw; exact bel (bel_dn w k) (bel_grow _ os)⟩

end Go.Proofs.YtgcmnkanjcfndaaGreatDoor
/- Package asm: a line's words: next, hold, areRight, number. -/
namespace Go.Proofs.YtgcmnkanjcfndaaGreatDoor
open Go.RowKit
set_option linter.unusedVariables false
set_option linter.unusedSimpArgs false

/-- All is as it was but one block. -/
structure OfB (B : Nat) (w w' : World) : Prop where
  oth : ∀ b, b < w.heap.size → b ≠ B → w'.heap[b]? = w.heap[b]?
  bel : ∀ E, E ≤ B → E ≤ w.heap.size → Below E w w'
  size : w.heap.size ≤ w'.heap.size
theorem OfB.of {B : Nat} {w w' : World} (k : Below w.heap.size w w') : OfB B w w' := ⟨fun b h _ => k.block b h, fun E _ h => k.mono h, k.size⟩
theorem OfB.trans {B : Nat} {w w' w'' : World} (h : OfB B w w') (k : OfB B w' w'') : OfB B w w'' :=
  ⟨fun b h1 h2 => (k.oth b (Nat.lt_of_lt_of_le h1 h.size) h2).trans (h.oth b h1 h2), fun E h1 h2 => (h.bel E h1 h2).trans (k.bel E h1 (Nat.le_trans h2 h.size)), Nat.le_trans h.size k.size⟩
theorem OfB.put {B : Nat} {w w' : World} (h : PutR B w w') (hB : B < w.heap.size) : OfB B w w' := ⟨fun b _ h1 => h.oth b h1, fun E h1 _ => h.bel E h1, (h.bel B (Nat.le_refl _)).size⟩
theorem app_uniq {a x y z : Bs} (ha : ∀ b ∈ a, nb b ≠ 32) (hx : ∀ b ∈ x, b ≠ 32) (h : a ++ 32 :: y = x ++ 32 :: z) : a = x ∧ y = z := by
  induction a generalizing x with
  | nil =>
    cases x with
    | nil => simpa using h
    | cons c x =>
      have e := (List.cons.inj h).1
      exact absurd e.symm (hx c (by simp))
  | cons b a ih =>
    cases x with
    | nil =>
      have e := (List.cons.inj h).1
      exact absurd (show nb b = 32 by rw [e]; rfl) (ha b (by simp))
    | cons c x =>
      obtain ⟨e1, e2⟩ := List.cons.inj h
      obtain ⟨e3, e4⟩ := ih (fun d hd => ha d (List.mem_cons_of_mem _ hd)) (fun d hd => hx d (List.mem_cons_of_mem _ hd)) e2
      exact ⟨by rw [e1, e3], e4⟩
theorem cut_nx {ws : List Bs} (hn : ∀ x ∈ ws, ∀ c ∈ x, nb c ≠ 32) : Lib.cut (joinW ws) [32] = ((nxW ws).1, joinW (nxW ws).2, !decide ((nxW ws).2 = [])) := by
  match ws, hn with
  | [], _ => rfl
  | [a], hn =>
    have ha := hn a (by simp)
    rcases cut_one 32 a with ⟨e, _⟩ | ⟨x, y, hs, _, _⟩
    · exact e
    · exact absurd rfl (show ¬ nb 32 = 32 from ha 32 (by rw [hs]; simp))
  | a :: b :: r, hn =>
    have ha := hn a (by simp)
    rcases cut_one 32 (joinW (a :: b :: r)) with ⟨_, hno⟩ | ⟨x, y, hs, hx, e⟩
    · exact absurd rfl (hno 32 (by rw [join_cons (by simp)]; simp))
    · rw [e]
      rw [join_cons (by simp)] at hs
      obtain ⟨e1, e2⟩ := app_uniq ha hx hs
      show (x, y, true) = (a, joinW (b :: r), _)
      rw [← e1, ← e2]
      rfl
theorem join_tail (ws : List Bs) : (joinW (nxW ws).2).length ≤ (joinW ws).length ∧ (nxW ws).1.length ≤ (joinW ws).length := by
  match ws with
  | [] => exact ⟨Nat.le_refl _, Nat.le_refl _⟩
  | [a] => exact ⟨Nat.zero_le _, Nat.le_refl _⟩
  | a :: b :: r =>
    rw [join_cons (by simp)]
    constructor
    · show (joinW (b :: r)).length ≤ _; rw [List.length_append, List.length_cons]; omega
    · show a.length ≤ _; rw [List.length_append]; omega
theorem nx_mem {ws : List Bs} {x : Bs} (h : x ∈ (nxW ws).2) : x ∈ ws := by
  cases ws with
  | nil => exact h
  | cons a r => exact List.mem_cons_of_mem _ h

/-- Words under way, in memory. -/
structure WdM (B : Nat) (ws : List Bs) (b : Bool) (w : World) : Prop where
  row : ∃ T : ByteArray, bs T = joinW ws ∧ T.size ≤ 4194304 ∧ w.rowIs B 151 3 (g3 (.string T) (.bool (decide (ws = []))) (.bool b))
  no : ∀ x ∈ ws, ∀ c ∈ x, nb c ≠ 32
theorem WdM.lt {B : Nat} {ws : List Bs} {b : Bool} {w : World} (h : WdM B ws b w) : B < w.heap.size := by obtain ⟨T, _, _, h⟩ := h.row; exact h.lt
theorem WdM.below {B : Nat} {ws : List Bs} {b : Bool} {w w' : World} (h : WdM B ws b w) (k : Below w.heap.size w w') : WdM B ws b w' := by
  obtain ⟨T, h1, h2, h3⟩ := h.row
  exact ⟨⟨T, h1, h2, h3.of_block (k.block B h3.lt)⟩, h.no⟩

theorem cut_big (s : ByteArray) (hs : s.size ≤ 4194304) (w : World) (hL : Laid w) :
    Calls Tryz.prog 56 #[.string s, .string ⟨#[32]⟩] w fun e w' => e = .returned (.tuple #[.string (sof (Lib.cut (bs s) [32]).1), .string (sof (Lib.cut (bs s) [32]).2.1), .bool (Lib.cut (bs s) [32]).2.2]) ∧ Below w.heap.size w w' := by
  obtain ⟨m, hm⟩ := hL.mx
  exact (sh_strings_Cut s ⟨#[32]⟩ m w (by omega) hm).mono fun e w' ⟨he, n, hw⟩ => ⟨he, by subst hw; exact bel_dn w n⟩

set_option maxRecDepth 100000 in
set_option maxHeartbeats 4000000 in
theorem wnext_any (B : Nat) (ws : List Bs) (b : Bool) (w : World) (hL : Laid w) (h : WdM B ws b w) :
    Calls Tryz.prog 118 #[.pointer (some ⟨B, 0, none⟩)] w fun e w' => ∃ U : ByteArray, e = .returned (.string U) ∧ bs U = (nxW ws).1 ∧ U.size ≤ 4194304 ∧ WdM B (nxW ws).2 b w' ∧ OfB B w w' := by
  obtain ⟨T, hT, hs, hr⟩ := h.row
  have K := hidC (cut_big T hs w hL)
  rw [hT, cut_nx h.no] at K
  obtain ⟨U, hU⟩ : ∃ U : ByteArray, sof (nxW ws).1 = U := ⟨_, rfl⟩
  obtain ⟨R, hR⟩ : ∃ U : ByteArray, sof (joinW (nxW ws).2) = U := ⟨_, rfl⟩
  have hbU : bs U = (nxW ws).1 := by rw [← hU]; exact bs_of _
  have hbR : bs R = joinW (nxW ws).2 := by rw [← hR]; exact bs_of _
  have sT : (joinW ws).length = T.size := by rw [← hT]; exact bs_length _
  have sU : U.size ≤ 4194304 := by rw [← bs_length, hbU]; have := (join_tail ws).2; omega
  have sR : R.size ≤ 4194304 := by rw [← bs_length, hbR]; have := (join_tail ws).1; omega
  simp only at K
  rw [hU, hR] at K
  obtain ⟨D, hD⟩ : ∃ d, decide ((nxW ws).2 = []) = d := ⟨_, rfl⟩
  rw [hD] at K
  have HX := hidC (And.intro hbU (And.intro sU (And.intro hbR (And.intro sR hD))))
  have HN := hidC h.no
  obtain ⟨c0, c1, c2⟩ := c3 hr
  have HR := hidC hr
  clear h hT hs hr hU hR hbU hbR sT sU sR hD hL
  go_enter Tryz.func118, Tryz.ntmps118
  go_upto_region 2 with (go_at_call 56; (with_reducible refine K.out.mono ?_); rintro e w1 ⟨rfl, hb1⟩; have HB1 := hidC hb1; clear hb1)
  have hr1 := HR.out.of_block (HB1.out.block _ HR.out.lt)
  have HR1 := hidC hr1
  clear c0 c1 c2
  obtain ⟨c0, c1, c2⟩ := c3 hr1
  obtain ⟨f0, f1, f2⟩ := z3 hr1
  have hp0 := put3_0 hr1 (.string R)
  have hp1 := put3_1 hp0.1 (.bool (!(!D)))
  have hdd : (!(!D)) = D := by cases D <;> rfl
  rw [hdd] at hp1
  have HP := hidC (And.intro hp1.1 (hp0.2.trans hp1.2))
  clear hr1 hp0 hp1
  go_wp2
  refine bodyPost_ret (by simp [results, Tryz.results118, go_sem, *]; try rfl) rfl ?_
  obtain ⟨x1, x2, x3, x4, x5⟩ := HX.out
  refine ⟨U, rfl, x1, x2, ⟨⟨R, x3, x4, ?_⟩, fun x hx => HN.out x (nx_mem hx)⟩, ?_⟩
  · rw [x5]; simpa using HP.out.1
  · exact (OfB.of HB1.out).trans (by simpa using OfB.put HP.out.2 HR1.out.lt)

set_option maxRecDepth 100000 in
set_option maxHeartbeats 4000000 in
theorem whold_any (B : Nat) (ws : List Bs) (b s : Bool) (w : World) (h : WdM B ws b w) :
    Calls Tryz.prog 122 #[.pointer (some ⟨B, 0, none⟩), .bool s] w fun e w' => e = .returned (.tuple #[]) ∧ WdM B ws (b || !s) w' ∧ OfB B w w' := by
  obtain ⟨T, hT, hs, hr⟩ := h.row
  obtain ⟨c0, c1, c2⟩ := c3 hr
  obtain ⟨f0, f1, f2⟩ := z3 hr
  have HP := hidC (put3_2 hr (.bool (b || !s)))
  have HR := hidC hr
  have HX := hidC (And.intro hT (And.intro hs h.no))
  clear h hT hs hr
  cases b with
  | true =>
    go_enter Tryz.func122, Tryz.ntmps122
    go_wp2
    refine bodyPost_end (by simp [results, Tryz.results122, go_sem, *]; try rfl) rfl ?_
    exact ⟨rfl, ⟨⟨T, HX.out.1, HX.out.2.1, HP.out.1⟩, HX.out.2.2⟩, OfB.put HP.out.2 HR.out.lt⟩
  | false =>
    go_enter Tryz.func122, Tryz.ntmps122
    go_wp2
    refine bodyPost_end (by simp [results, Tryz.results122, go_sem, *]; try rfl) rfl ?_
    exact ⟨rfl, ⟨⟨T, HX.out.1, HX.out.2.1, by simpa using HP.out.1⟩, HX.out.2.2⟩, by simpa using OfB.put HP.out.2 HR.out.lt⟩

set_option maxRecDepth 100000 in
set_option maxHeartbeats 4000000 in
theorem wright_any (B : Nat) (ws : List Bs) (b : Bool) (w : World) (h : WdM B ws b w) :
    Calls Tryz.prog 91 #[.pointer (some ⟨B, 0, none⟩)] w fun e w' => e = .returned (.bool (decide (ws = []) && !b)) ∧ w' = w := by
  obtain ⟨T, hT, hs, hr⟩ := h.row
  obtain ⟨c0, c1, c2⟩ := c3 hr
  obtain ⟨D, hD⟩ : ∃ d, decide (ws = []) = d := ⟨_, rfl⟩
  rw [hD] at c1 ⊢
  clear h hT hs hr hD
  cases D with
  | true =>
    go_enter Tryz.func91, Tryz.ntmps91
    go_wp2
    go_ret
    exact ⟨by simp, rfl⟩
  | false =>
    go_enter Tryz.func91, Tryz.ntmps91
    go_wp2
    go_ret
    exact ⟨rfl, rfl⟩

set_option maxRecDepth 100000 in
set_option maxHeartbeats 4000000 in
theorem anum_any (n : Int) (h0 : -9223372036854775808 ≤ n) (h1 : n ≤ 9223372036854775807) (w : World) (hL : Laid w) :
    Calls Tryz.prog 44 #[.int .i64 n] w fun e w' => e = .returned (.string (sof (Lib.itoa n))) ∧ Below w.heap.size w w' := by
  have K := hidC (itoa_any n h0 h1 w hL)
  clear hL
  go_enter Tryz.func44, Tryz.ntmps44
  go_wp2_with (go_at_call 80; (with_reducible refine K.out.mono ?_); rintro e w1 ⟨rfl, hb⟩)
  go_ret
  exact ⟨rfl, hb⟩

end Go.Proofs.YtgcmnkanjcfndaaGreatDoor
/- Maps keyed by texts, as functions from keys to values (AliasMap's text, for seats without package tree). -/
namespace Go.Proofs.YtgcmnkanjcfndaaGreatDoor
open Go.RowKit
open Go.Maps (Keyed)
set_option linter.unusedVariables false
set_option linter.unusedSimpArgs false

/-- Every value reads as itself. -/
def hR : Value → Option (DataW Value × List MemPlace) := fun v => some (.held v, [])
def litS (k : ByteArray) : Lit := .string k.data.toList
theorem litS_inj {a b : ByteArray} (h : litS a = litS b) : a = b := by
  unfold litS at h
  cases a; cases b
  simpa using h
/-- A map that reads as this function, of n entries at most. -/
def MapF (w : World) (b n : Nat) (f : ByteArray → Option Value) : Prop :=
  ∃ D : DataW Value, w.ownsMap Tryz.prog 9 hR b n D ∧ ∀ k zd, D.atKey (litS k) zd = match f k with | some v => .held v | none => zd
def updF (f : ByteArray → Option Value) (k : ByteArray) (v : Value) : ByteArray → Option Value := fun j => if j = k then some v else f j
theorem strK : Keyed Tryz.prog 9 := Maps.string_keyed Tryz.underlying9
theorem MapF.has {f : ByteArray → Option Value} {D : DataW Value} (h : ∀ k zd, D.atKey (litS k) zd = match f k with | some v => .held v | none => zd) (k : ByteArray) : Maps.has D (litS k) = (f k).isSome := by
  cases hk : f k with
  | none => exact Maps.has_false_of_atKey fun z => by rw [h, hk]
  | some v => exact Maps.has_true_of_atKey (y := .held v) fun z => by rw [h, hk]
theorem key_lit {k : ByteArray} (h : k.size ≤ maxLen) : keyOf Tryz.prog 9 (.string k) = some (litS k) := WideMaps.keyOf_string_mk Tryz.underlying9 h
theorem MapF.new (w : World) : MapF (w.alloc (.map #[] 0)) w.heap.size 0 (fun _ => none) :=
  ⟨_, World.ownsMap_made _ _ _ _, fun k zd => rfl⟩
theorem MapF.block {w w' : World} {b n : Nat} {f : ByteArray → Option Value} (h : MapF w b n f) (hb : w'.heap[b]? = w.heap[b]?) : MapF w' b n f := by
  obtain ⟨D, ⟨es, clock, h0, h1⟩, h2⟩ := h
  exact ⟨D, ⟨es, clock, hb.trans h0, h1⟩, h2⟩
theorem MapF.lt {w : World} {b n : Nat} {f : ByteArray → Option Value} (h : MapF w b n f) : b < w.heap.size := by
  obtain ⟨D, h1, _⟩ := h
  exact h1.lt
theorem MapF.obj {w : World} {b n : Nat} {f : ByteArray → Option Value} (h : MapF w b n f) : ∃ es clock, w.heap[b]? = some (.map es clock) := by
  obtain ⟨D, ⟨es, clock, h0, h1⟩, h2⟩ := h
  exact ⟨es, clock, h0⟩
theorem MapF.cell {w : World} {b n : Nat} {f : ByteArray → Option Value} (h : MapF w b n f) {a : Addr} {v : Value} (hc : w.cell? a = some v) : a.block ≠ b := by
  obtain ⟨es, clock, h0⟩ := h.obj
  rintro rfl
  simp [World.cell?, h0] at hc
theorem MapF.look2 {w : World} {b n : Nat} {f : ByteArray → Option Value} (h : MapF w b n f) {t e : TypeId} (ht : Tryz.prog.underlying t = some (.map 9 e)) {z : Value} (hz : (zeroValue e).run Tryz.prog w = .ok z w) {k : ByteArray} (hk : k.size ≤ maxLen) :
    (Instr.lookup t (.map (some b)) (.string k) true).run Tryz.prog w = .ok (.tuple #[(f k).getD z, .bool (f k).isSome]) w := by
  obtain ⟨D, h1, h2⟩ := h
  obtain ⟨v, ps, hrun, hv⟩ := h1.look_ok strK ht hz (zd := .held z) (zp := []) rfl (key_lit hk)
  rw [hrun, MapF.has h2]
  simp only [hR, Option.some.injEq, Prod.mk.injEq, h2] at hv
  obtain ⟨hv, -⟩ := hv
  cases hf : f k with
  | none => rw [hf] at hv; simp only [DataW.held.injEq] at hv; rw [hv]; rfl
  | some u => rw [hf] at hv; simp only [DataW.held.injEq] at hv; rw [hv]; rfl
theorem isKeyS (k : ByteArray) : WideAt.IsKeyLit (litS k) := by unfold litS; simp [WideAt.IsKeyLit]
theorem MapF.put {w : World} {b n : Nat} {f : ByteArray → Option Value} (h : MapF w b n f) (hn : n < maxLen) {t e : TypeId} (ht : Tryz.prog.underlying t = some (.map 9 e)) {k : ByteArray} (hk : k.size ≤ maxLen) (v : Value) :
    ∃ w', (Instr.mapUpdate t (.map (some b)) (.string k) v).run Tryz.prog w = .ok () w' ∧ MapF w' b (n + 1) (updF f k v) ∧ w.grownBy w' (some b) := by
  obtain ⟨D, h1, h2⟩ := h
  obtain ⟨w', hrun, r1, r2⟩ := h1.update strK ht hn (key_lit hk) (d := .held v) (ps := []) (val := v) rfl
  refine ⟨w', hrun, ⟨_, r1, fun j zd => ?_⟩, r2⟩
  unfold updF
  by_cases e : j = k
  · subst e
    rw [Maps.atKey_put_same (h1.canon strK |>.elim fun es hes => ⟨es, hes.1⟩) (isKeyS j)]
    simp
  · rw [Maps.atKey_put_other (fun he => e (litS_inj he)), h2, if_neg e]

end Go.Proofs.YtgcmnkanjcfndaaGreatDoor
/- The walks of package bits and of its reference: integers alone. -/
namespace Go.Proofs.YtgcmnkanjcfndaaGreatDoor
open Go.RowKit
set_option linter.unusedVariables false

end Go.Proofs.YtgcmnkanjcfndaaGreatDoor
/- The walks of Hex and Read, and of their references. -/
namespace Go.Proofs.YtgcmnkanjcfndaaGreatDoor
open Go.RowKit
set_option linter.unusedVariables false

theorem cv_any (w : World) (b0 b1 b2 b3 b4 b5 b6 b7 : UInt8) :
    (convert 55 9 (.slice (some ⟨w.heap.size, 0, none⟩) 8 8)).run Tryz.prog
      (w.alloc (.cells #[.int .u8 (b0.toNat : Int), .int .u8 (b1.toNat : Int), .int .u8 (b2.toNat : Int), .int .u8 (b3.toNat : Int), .int .u8 (b4.toNat : Int), .int .u8 (b5.toNat : Int), .int .u8 (b6.toNat : Int), .int .u8 (b7.toNat : Int)] 169))
      = .ok (.string ⟨#[b0, b1, b2, b3, b4, b5, b6, b7]⟩)
      (w.alloc (.cells #[.int .u8 (b0.toNat : Int), .int .u8 (b1.toNat : Int), .int .u8 (b2.toNat : Int), .int .u8 (b3.toNat : Int), .int .u8 (b4.toNat : Int), .int .u8 (b5.toNat : Int), .int .u8 (b6.toNat : Int), .int .u8 (b7.toNat : Int)] 169)) := by
  refine run_convert_bytes_back (P := Tryz.prog) _ 55 9 5 ⟨w.heap.size, 0, none⟩ 8 [b0, b1, b2, b3, b4, b5, b6, b7] Tryz.underlying55 Tryz.underlying5 Tryz.underlying9 ?_
  intro j hj
  have h8 : j < 8 := hj
  have ha : (⟨w.heap.size, 0, none⟩ : Addr).add j = ⟨w.heap.size, j, none⟩ := by unfold Addr.add; split <;> simp_all
  rw [ha, World.cell?_alloc_at _ _ _ _ rfl]
  obtain rfl | rfl | rfl | rfl | rfl | rfl | rfl | rfl : j = 0 ∨ j = 1 ∨ j = 2 ∨ j = 3 ∨ j = 4 ∨ j = 5 ∨ j = 6 ∨ j = 7 := by omega
  all_goals rfl

theorem ret_ib {k : IntKind} {a b : Int} {p q : Bool} (h : a = b) (g : p = q) : Ending.returned (.tuple #[.int k a, .bool p]) = .returned (.tuple #[.int k b, .bool q]) := by rw [h, g]
theorem ret_string {a b : ByteArray} (h : a = b) : Ending.returned (.string a) = .returned (.string b) := by rw [h]

set_option maxHeartbeats 1000000 in
theorem hex_any (a : Int) (h0 : 0 ≤ a) (h1 : a < 4294967296) (w : World) :
    Calls Tryz.prog 81 #[.int .u32 a] w fun e w' => e = .returned (.string (hexB a)) ∧ Below w.heap.size w w' := by
  have e7 := and_4 (a / 268435456) (by omega) (by omega)
  have e6 := and_4 (a / 16777216) (by omega) (by omega)
  have e5 := and_4 (a / 1048576) (by omega) (by omega)
  have e4 := and_4 (a / 65536) (by omega) (by omega)
  have e3 := and_4 (a / 4096) (by omega) (by omega)
  have e2 := and_4 (a / 256) (by omega) (by omega)
  have e1 := and_4 (a / 16) (by omega) (by omega)
  have e0 := and_4 a (by omega) (by omega)
  have hcv := cv_any
  go_enter Tryz.func81, Tryz.ntmps81
  go_wp2
  refine wp_loop_rounds 9 ?_
  iterate 9 (rw [rounds_succ]; go_wp2)
  go_ret
  refine ⟨ret_string ?_, (Below.refl _ _).alloc (Nat.le_refl _) _⟩
  unfold hexB
  simp only [hexD_get]
  try rfl

set_option maxHeartbeats 400000 in
theorem hexv_yes (c : Int) (h0 : 0 ≤ c) (h1 : c ≤ 255) (h : isHex c = true) (w : World) :
    Calls Tryz.prog 161 #[.int .u8 c] w fun e w' => e = .returned (.tuple #[.int .u32 (digI c), .bool true]) ∧ w' = w := by
  rw [isHex_iff] at h
  by_cases hc : c ≤ 57
  · have hd : digI c = c - 48 := by unfold digI; rw [if_pos hc]
    have e1 : IntKind.u8.wrap (c - 48) = c - 48 := by rw [IntKind.wrap_u8']; omega
    have e2 : IntKind.u32.wrap (c - 48) = c - 48 := by rw [IntKind.wrap_u32']; omega
    have g0 : 48 ≤ c := by omega
    rw [hd]; clear hd h
    go_enter Tryz.func161, Tryz.ntmps161
    go_wp2
    go_ret2
    exact ⟨rfl, rfl⟩
  · have hd : digI c = c - 97 + 10 := by unfold digI; rw [if_neg hc]; omega
    have e1 : IntKind.u8.wrap (c - 97) = c - 97 := by rw [IntKind.wrap_u8']; omega
    have e2 : IntKind.u32.wrap (c - 97) = c - 97 := by rw [IntKind.wrap_u32']; omega
    have e3 : IntKind.u32.wrap (c - 97 + 10) = c - 97 + 10 := by rw [IntKind.wrap_u32']; omega
    have g0 : 97 ≤ c := by omega
    have g1 : c ≤ 102 := by omega
    have g2 : 57 < c := by omega
    rw [hd]; clear hd h hc
    go_enter Tryz.func161, Tryz.ntmps161
    go_wp2
    go_ret2
    exact ⟨rfl, rfl⟩

set_option maxHeartbeats 400000 in
theorem hexv_no (c : Int) (h0 : 0 ≤ c) (h1 : c ≤ 255) (h : isHex c = false) (w : World) :
    Calls Tryz.prog 161 #[.int .u8 c] w fun e w' => e = .returned (.tuple #[.int .u32 0, .bool false]) ∧ w' = w := by
  rw [isHex_not] at h
  by_cases c1 : c < 48
  · clear h
    go_enter Tryz.func161, Tryz.ntmps161
    go_wp2
    go_ret2
    exact ⟨rfl, rfl⟩
  · by_cases c2 : c < 97
    · have c3 : 57 < c := by omega
      clear h
      go_enter Tryz.func161, Tryz.ntmps161
      go_wp2
      go_ret2
      exact ⟨rfl, rfl⟩
    · have c3 : 102 < c := by omega
      clear h
      go_enter Tryz.func161, Tryz.ntmps161
      go_wp2
      go_ret2
      exact ⟨rfl, rfl⟩

set_option maxHeartbeats 1000000 in
theorem read_any (s : ByteArray) (hs : s.size ≤ maxLen) (w : World) :
    Calls Tryz.prog 149 #[.string s] w fun e w' => e = .returned (.tuple #[.int .u32 (rdv s.data.toList), .bool (goodL s.data.toList)]) ∧ w' = w := by
  unfold maxLen at hs
  by_cases h8 : s.size = 8
  · go_enter Tryz.func149, Tryz.ntmps149
    go_wp2
    go_loop [4, 11] (fun av iv => ∃ k : Nat, k ≤ 8 ∧ iv = .int .i64 k ∧ (∀ c ∈ s.data.toList.take k, isHex (c.toNat : Int) = true) ∧ av = .int .u32 (valL (s.data.toList.take k))) (fun _ iv => 8 - (intOf iv).toNat)
    case atStart => exact ⟨0, by omega, rfl, by simp, rfl⟩
    case round =>
      obtain ⟨k, hk, rfl, hall, rfl⟩ := hrel
      by_cases hlt : k < 8
      · have hks : k < s.size := by omega
        have hb : 0 ≤ (s[k].toNat : Int) ∧ (s[k].toNat : Int) ≤ 255 := by have := s[k].toNat_lt; omega
        have hv := valL_lo k (s.data.toList.take k) (by simp; omega) hall
        have hv7 : (16 : Int) ^ k ≤ 16 ^ 7 := by
          exact_mod_cast Nat.pow_le_pow_right (by omega) (show k ≤ 7 by omega)
        have hts := take_snoc s k hks
        have HT : Hid (s.data.toList.take (k + 1) = s.data.toList.take k ++ [s[k]]) := hts
        have HA : Hid (∀ c ∈ s.data.toList.take k, isHex (c.toNat : Int) = true) := hall
        obtain ⟨v, hV⟩ : ∃ v, valL (s.data.toList.take k) = v := ⟨_, rfl⟩
        rw [hV] at hv ⊢
        have HV : Hid (valL (s.data.toList.take k) = v) := hV
        have hv0 := hv.1
        have hv1 : v < 268435456 := Int.lt_of_lt_of_le hv.2 hv7
        clear hts hV hv hv7 hall
        cases hx : isHex (s[k].toNat : Int)
        · go_wp2_with (go_at_call 161; refine (hexv_no _ hb.1 hb.2 hx _).mono ?_; rintro e w' ⟨rfl, rfl⟩)
          go_ret2
          have hg : goodL s.data.toList = false := goodL_bad _ s[k] (mem_of_at s k hks) hx
          exact ⟨ret_ib (rdv_no _ hg).symm hg.symm, rfl⟩
        · have hd := digI_lo _ hx
          have e1 : IntKind.u32.wrap (v * 16) = v * 16 := by rw [IntKind.wrap_u32']; omega
          have e2 := or_digit (v * 16) (digI (s[k].toNat : Int)) (by omega) (by omega) (by omega) hd.1 hd.2
          go_wp2_with (go_at_call 161; refine (hexv_yes _ hb.1 hb.2 hx _).mono ?_; rintro e w' ⟨rfl, rfl⟩)
          go_round
          case rel =>
            refine ⟨k + 1, by omega, by go_num, ?_, by rw [HT.out, valL_snoc, HV.out]⟩
            rw [HT.out]
            intro c hc
            rw [List.mem_append] at hc
            rcases hc with hc | hc
            · exact HA.out c hc
            · simp at hc; subst hc; exact hx
          case measure => simp [intOf]; omega
      · obtain rfl : k = 8 := by omega
        have hl : s.data.toList.take 8 = s.data.toList := List.take_of_length_le (by simp; exact Nat.le_of_eq h8)
        rw [hl] at hall ⊢
        have hg : goodL s.data.toList = true := goodL_of _ (by simpa using h8) hall
        clear hall hl
        go_wp2
        go_ret2
        exact ⟨ret_ib (rdv_yes _ hg).symm rfl, rfl⟩
  · have hg : goodL s.data.toList = false := goodL_len _ (by simpa using h8)
    rw [rdv_no _ hg, hg]
    have h8' : ((s.size : Int) == 8) = false := by simpa using by omega
    clear h8 hg
    go_enter Tryz.func149, Tryz.ntmps149
    go_wp2
    go_ret2
    exact ⟨rfl, rfl⟩

end Go.Proofs.YtgcmnkanjcfndaaGreatDoor
/- The walk of the reference's Read. -/
namespace Go.Proofs.YtgcmnkanjcfndaaGreatDoor
open Go.RowKit
set_option linter.unusedVariables false

end Go.Proofs.YtgcmnkanjcfndaaGreatDoor
/- Package asm: a line's words: meaning, numberOf, number, pattern, register. -/
namespace Go.Proofs.YtgcmnkanjcfndaaGreatDoor
open Go.RowKit
set_option linter.unusedVariables false
set_option linter.unusedSimpArgs false

theorem az_int (w : World) : (zeroValue 3).run Tryz.prog w = .ok (.int .i64 0) w := by kernel_rfl
/-- A map of words to what they mean. -/
def MeanM (w : World) (C : Nat) (g : Bs → Option Nat) : Prop := ∃ n, MapF w C n (fun k => (g (bs k)).map fun x => .int .i64 (x : Int))
theorem MeanM.ofB {w w' : World} {B C : Nat} {g : Bs → Option Nat} (h : MeanM w C g) (k : OfB B w w') (hC : C ≠ B) : MeanM w' C g := by
  obtain ⟨n, h⟩ := h
  exact ⟨n, h.block (k.oth C h.lt hC)⟩
theorem WdM.ne {B C : Nat} {ws : List Bs} {b : Bool} {w : World} {g : Bs → Option Nat} (h : WdM B ws b w) (k : MeanM w C g) : C ≠ B := by
  obtain ⟨T, h1, h2, h3⟩ := h.row
  obtain ⟨n, k⟩ := k
  exact fun e => k.cell (c3 h3).1 e.symm

theorem atoi_okB (s : ByteArray) (hs : s.size ≤ 4194304) (n : Int) (h : Lib.atoiAll (bs s) = .ok n) (w : World) :
    Calls Tryz.prog 160 #[.string s] w fun e w' => e = .returned (.tuple #[.int .i64 n, .nilIface]) ∧ Below w.heap.size w w' := by
  refine (sh_strconv_Atoi_ok s (by omega) n h w).mono fun e w' ⟨he, hw⟩ => ⟨he, ?_⟩
  rcases hw with rfl | ⟨t, rfl⟩
  · exact bel0 _
  · exact Lib.bytesWorld_below _ _ _
theorem atoi_badB (s : ByteArray) (hs : s.size ≤ 4194304) (h : ∀ n, Lib.atoiAll (bs s) ≠ .ok n) (w : World) (hL : Laid w) :
    Calls Tryz.prog 160 #[.string s] w fun e w' => ∃ x N, e = .returned (.tuple #[.int .i64 x, .iface 219 (.pointer (some ⟨N, 0, none⟩))]) ∧ Below w.heap.size w w' := by
  cases e : Lib.atoiAll (bs s) with
  | ok n => exact absurd e (h n)
  | «syntax» =>
    obtain ⟨a, b, hc⟩ := hL.syn
    exact (sh_strconv_Atoi_syntax s (by omega) e _ w hc (.inr ⟨a, b, rfl⟩)).mono fun e w' ⟨N, he, _, _, hb⟩ => ⟨_, N, he, hb⟩
  | range =>
    obtain ⟨a, b, hc⟩ := hL.rng
    exact (sh_strconv_Atoi_range s (by omega) e _ w hc (.inr ⟨a, b, rfl⟩)).mono fun e w' ⟨N, he, _, _, hb⟩ => ⟨_, N, he, hb⟩

set_option maxRecDepth 100000 in
set_option maxHeartbeats 4000000 in
theorem wmean_any (B C : Nat) (ws : List Bs) (b : Bool) (g : Bs → Option Nat) (w : World) (hL : Laid w) (h : WdM B ws b w) (hm : MeanM w C g) :
    Calls Tryz.prog 120 #[.pointer (some ⟨B, 0, none⟩), .map (some C)] w fun e w' => e = .returned (.int .i64 (((g (nxW ws).1).getD 0 : Nat) : Int)) ∧ WdM B (nxW ws).2 (b || !(g (nxW ws).1).isSome) w' ∧ OfB B w w' := by
  have hne := h.ne hm
  have K := hidC (wnext_any B ws b w hL h)
  have HM := hidC hm
  have HE := hidC hne
  obtain ⟨R, hR⟩ : ∃ R, g (nxW ws).1 = R := ⟨_, rfl⟩
  have HLK : Hid (∀ U : ByteArray, bs U = (nxW ws).1 → U.size ≤ 4194304 → ∀ v, OfB B w v → (Instr.lookup 65 (.map (some C)) (.string U) true).run Tryz.prog v = .ok (.tuple #[.int .i64 ((R.getD 0 : Nat) : Int), .bool R.isSome]) v) := fun U h1 h2 v hv => by
    obtain ⟨n, hf⟩ := HM.out.ofB hv HE.out
    have h9 := hf.look2 (k := U) Tryz.underlying65 (az_int v) (by unfold maxLen; omega)
    rw [h9]
    simp only [h1, hR]
    cases R <;> rfl
  rw [hR]
  clear h hm hL hne
  go_enter Tryz.func120, Tryz.ntmps120
  go_wp2_with (first
    | (go_at_call 118; (with_reducible refine K.out.mono ?_); rintro e w1 ⟨U, rfl, hU, hU2, h1, k1⟩; have hl1 := HLK.out U hU hU2 w1 k1)
    | (go_at_call 122; (with_reducible refine (whold_any B _ b _ _ h1).mono ?_); rintro e w2 ⟨rfl, h2, k2⟩))
  go_ret
  exact ⟨rfl, h2, k1.trans k2⟩

end Go.Proofs.YtgcmnkanjcfndaaGreatDoor
/- Package asm: a line's words: numberOf, number, pattern, register. -/
namespace Go.Proofs.YtgcmnkanjcfndaaGreatDoor
open Go.RowKit
set_option linter.unusedVariables false
set_option linter.unusedSimpArgs false

/-- What a call tells that takes a word. -/
def TakM (B : Nat) (w : World) (k : IntKind) (ws : List Bs) (b : Bool) (o : Option Int) (e : Ending) (w' : World) : Prop :=
  ∃ n : Int, e = .returned (.int k n) ∧ (∀ m, o = some m → n = m) ∧ WdM B ws (b || !o.isSome) w' ∧ OfB B w w'

set_option maxRecDepth 100000 in
set_option maxHeartbeats 4000000 in
theorem wnumof_any (B : Nat) (ws : List Bs) (b : Bool) (T : ByteArray) (hT : T.size ≤ 4194304) (w : World) (hL : Laid w) (h : WdM B ws b w) :
    Calls Tryz.prog 148 #[.pointer (some ⟨B, 0, none⟩), .string T] w (TakM B w .i64 ws b (numW (bs T))) := by
  have HL := hidC hL
  by_cases hA : ∃ n, Lib.atoiAll (bs T) = .ok n
  · obtain ⟨n, hn⟩ := hA
    have hbd := Lib.atoiAll_bounds hn
    have hask := num_asked hn
    have K1 := hidC (atoi_okB T hT n hn w)
    have K2 : Hid (∀ w, Laid w → Calls Tryz.prog 44 #[.int .i64 n] w fun e w' => e = .returned (.string (sof (Lib.itoa n))) ∧ Below w.heap.size w w') := fun w h => anum_any n hbd.1 hbd.2 w h
    have hsof : (sof (Lib.itoa n)).toList = Lib.itoa n := by rw [ByteArray.toList_eq]; exact bs_of _
    have hst : T.toList = bs T := ByteArray.toList_eq T
    have H := hidC h
    by_cases h0 : 0 ≤ n ∧ n ≤ 2147483647
    · obtain ⟨h0, h1⟩ := h0
      by_cases he : Lib.itoa n = bs T
      · have e1 : ((sof (Lib.itoa n)).toList == T.toList) = true := by rw [hsof, hst, he]; simp
        have e2 : numW (bs T) = some n := hask.2 ⟨⟨h0, h1⟩, he⟩
        rw [e2]
        clear he hsof hst hask hn hbd e2 hL h
        go_enter Tryz.func148, Tryz.ntmps148
        go_wp2_with (first
          | (go_at_call 160; (with_reducible refine K1.out.mono ?_); rintro e w1 ⟨rfl, hb1⟩)
          | (go_at_call 44; (with_reducible refine (K2.out _ (HL.out.below hb1)).mono ?_); rintro e w2 ⟨rfl, hb2⟩)
          | (go_at_call 122; (with_reducible refine (whold_any B _ b _ _ ((H.out.below hb1).below hb2)).mono ?_); rintro e w3 ⟨rfl, h3, k3⟩))
        go_ret
        exact ⟨n, rfl, fun m hm => Option.some.inj hm, h3, (OfB.of (bel hb1 hb2)).trans k3⟩
      · have e1 : ((sof (Lib.itoa n)).toList == T.toList) = false := by rw [hsof, hst]; simpa using he
        have e2 : numW (bs T) = none := none_or fun m hm => by
          have := num_other hn hm
          subst this
          exact he (hask.1 hm).2
        rw [e2]
        clear he hsof hst hask hn hbd e2 hL h
        go_enter Tryz.func148, Tryz.ntmps148
        go_wp2_with (first
          | (go_at_call 160; (with_reducible refine K1.out.mono ?_); rintro e w1 ⟨rfl, hb1⟩)
          | (go_at_call 44; (with_reducible refine (K2.out _ (HL.out.below hb1)).mono ?_); rintro e w2 ⟨rfl, hb2⟩)
          | (go_at_call 122; (with_reducible refine (whold_any B _ b _ _ ((H.out.below hb1).below hb2)).mono ?_); rintro e w3 ⟨rfl, h3, k3⟩))
        go_ret
        exact ⟨n, rfl, fun m hm => (nomatch hm), h3, (OfB.of (bel hb1 hb2)).trans k3⟩
    · have e2 : numW (bs T) = none := none_or fun m hm => by
        have := num_other hn hm
        subst this
        exact h0 (hask.1 hm).1
      rw [e2]
      by_cases h1 : 0 ≤ n
      · have h2 : ¬ n ≤ 2147483647 := fun q => h0 ⟨h1, q⟩
        clear h0 hsof hst hask hn hbd e2 hL h
        go_enter Tryz.func148, Tryz.ntmps148
        go_wp2_with (first
          | (go_at_call 160; (with_reducible refine K1.out.mono ?_); rintro e w1 ⟨rfl, hb1⟩)
          | (go_at_call 122; (with_reducible refine (whold_any B _ b _ _ (H.out.below hb1)).mono ?_); rintro e w3 ⟨rfl, h3, k3⟩))
        go_ret
        exact ⟨n, rfl, fun m hm => (nomatch hm), h3, (OfB.of hb1).trans k3⟩
      · clear h0 hsof hst hask hn hbd e2 hL h
        go_enter Tryz.func148, Tryz.ntmps148
        go_wp2_with (first
          | (go_at_call 160; (with_reducible refine K1.out.mono ?_); rintro e w1 ⟨rfl, hb1⟩)
          | (go_at_call 122; (with_reducible refine (whold_any B _ b _ _ (H.out.below hb1)).mono ?_); rintro e w3 ⟨rfl, h3, k3⟩))
        go_ret
        exact ⟨n, rfl, fun m hm => (nomatch hm), h3, (OfB.of hb1).trans k3⟩
  · have hno : ∀ n, Lib.atoiAll (bs T) ≠ .ok n := fun n e => hA ⟨n, e⟩
    have K1 := hidC (atoi_badB T hT hno w hL)
    have H := hidC h
    rw [num_none hno]
    clear hno hA hL h
    go_enter Tryz.func148, Tryz.ntmps148
    go_wp2_with (first
      | (go_at_call 160; (with_reducible refine K1.out.mono ?_); rintro e w1 ⟨x, N, rfl, hb1⟩)
      | (go_at_call 122; (with_reducible refine (whold_any B _ b _ _ (H.out.below hb1)).mono ?_); rintro e w3 ⟨rfl, h3, k3⟩))
    go_ret
    exact ⟨x, rfl, fun m hm => (nomatch hm), h3, (OfB.of hb1).trans k3⟩

set_option maxRecDepth 100000 in
set_option maxHeartbeats 4000000 in
theorem wnum_any (B : Nat) (ws : List Bs) (b : Bool) (w : World) (hL : Laid w) (h : WdM B ws b w) (hE : ∀ v, OfB B w v → Laid v) :
    Calls Tryz.prog 121 #[.pointer (some ⟨B, 0, none⟩)] w (TakM B w .i64 (nxW ws).2 b (numW (nxW ws).1)) := by
  have K := hidC (wnext_any B ws b w hL h)
  clear h hL
  go_enter Tryz.func121, Tryz.ntmps121
  go_wp2_with (first
    | (go_at_call 118; (with_reducible refine K.out.mono ?_); rintro e w1 ⟨U, rfl, hU, hU2, h1, k1⟩)
    | (go_at_call 148; (with_reducible refine (wnumof_any B _ b U hU2 _ (hE _ k1) h1).mono ?_); rintro e w2 ⟨n, rfl, h2, h3, k2⟩))
  go_ret
  rw [hU] at h2 h3
  exact ⟨n, rfl, h2, h3, k1.trans k2⟩

set_option maxRecDepth 100000 in
set_option maxHeartbeats 4000000 in
theorem wpat_any (B : Nat) (ws : List Bs) (b : Bool) (w : World) (hL : Laid w) (h : WdM B ws b w) :
    Calls Tryz.prog 124 #[.pointer (some ⟨B, 0, none⟩)] w (TakM B w .u32 (nxW ws).2 b (hexW (nxW ws).1)) := by
  have K := hidC (wnext_any B ws b w hL h)
  clear h hL
  go_enter Tryz.func124, Tryz.ntmps124
  go_wp2_with (first
    | (go_at_call 118; (with_reducible refine K.out.mono ?_); rintro e w1 ⟨U, rfl, hU, hU2, h1, k1⟩)
    | (go_at_call 149; (with_reducible refine (read_any U (by unfold maxLen; omega) _).mono ?_); rintro e w2 ⟨rfl, rfl⟩)
    | (go_at_call 122; (with_reducible refine (whold_any B _ b _ _ h1).mono ?_); rintro e w2 ⟨rfl, h2, k2⟩))
  go_ret
  have e1 : U.data.toList = (nxW ws).1 := hU
  rw [e1] at h2 ⊢
  refine ⟨_, rfl, ?_, ?_, k1.trans k2⟩
  · intro m hm
    unfold hexW at hm
    split at hm
    · exact Option.some.inj hm
    · cases hm
  · have e2 : (hexW (nxW ws).1).isSome = goodL (nxW ws).1 := by unfold hexW; cases goodL (nxW ws).1 <;> rfl
    rw [e2]
    exact h2

end Go.Proofs.YtgcmnkanjcfndaaGreatDoor
/- Package asm: a line's words: register. -/
namespace Go.Proofs.YtgcmnkanjcfndaaGreatDoor
open Go.RowKit
set_option linter.unusedVariables false
set_option linter.unusedSimpArgs false

/-- The package-level variables lie below a border. -/
def LaidE (E : Nat) (w : World) : Prop := ∃ w0 : World, w0.heap.size = E ∧ Laid w0 ∧ Below E w0 w
theorem LaidE.laid {E : Nat} {w : World} (h : LaidE E w) : Laid w := by
  obtain ⟨w0, rfl, h1, h2⟩ := h
  exact h1.below h2
theorem LaidE.below {E : Nat} {w w' : World} (h : LaidE E w) (k : Below E w w') : LaidE E w' := by
  obtain ⟨w0, h0, h1, h2⟩ := h
  exact ⟨w0, h0, h1, h2.trans k⟩
theorem LaidE.le {E : Nat} {w : World} (h : LaidE E w) : E ≤ w.heap.size := by
  obtain ⟨w0, rfl, h1, h2⟩ := h
  exact h2.size
theorem LaidE.ofB {E B : Nat} {w w' : World} (h : LaidE E w) (hE : E ≤ B) (k : OfB B w w') : LaidE E w' := h.below (k.bel E hE h.le)
theorem LaidE.start {w : World} (h : Laid w) : LaidE w.heap.size w := ⟨w, rfl, h, bel0 _⟩

set_option maxRecDepth 100000 in
set_option maxHeartbeats 4000000 in
theorem cutp_no (s : ByteArray) (hz : s.size = 0) (w : World) :
    Calls Tryz.prog 150 #[.string s, .string ⟨#[114]⟩] w fun e w' => e = .returned (.tuple #[.string s, .bool false]) ∧ w' = w := by
  go_enter Tryz.func150, Tryz.ntmps150
  go_wp2
  refine bodyPost_ret (by simp [results, Tryz.results150, go_sem, *]; try rfl) rfl ?_
  exact ⟨rfl, rfl⟩

set_option maxRecDepth 100000 in
set_option maxHeartbeats 4000000 in
theorem cutp_yes (s : ByteArray) (M : Nat) (hM : s.size = M + 1) (hs : M ≤ 4194304) (d : Bool) (hd : ((s.extract 0 1).toList == [114]) = d) (w : World) :
    Calls Tryz.prog 150 #[.string s, .string ⟨#[114]⟩] w fun e w' => e = .returned (.tuple #[.string (if d then s.extract 1 (M + 1) else s), .bool d]) ∧ w' = w := by
  cases d with
  | true =>
    go_enter Tryz.func150, Tryz.ntmps150
    go_wp2
    refine bodyPost_ret (by simp [results, Tryz.results150, go_sem, *]; try rfl) rfl ?_
    exact ⟨rfl, rfl⟩
  | false =>
    go_enter Tryz.func150, Tryz.ntmps150
    go_wp2
    refine bodyPost_ret (by simp [results, Tryz.results150, go_sem, *]; try rfl) rfl ?_
    exact ⟨rfl, rfl⟩
theorem bs_extractA (s : ByteArray) (a b : Nat) : bs (s.extract a b) = ((bs s).drop a).take (b - a) := by
  unfold bs
  simp [ByteArray.data_extract, Array.toList_extract, List.extract_eq_take_drop]
theorem ext_one (s : ByteArray) (M : Nat) (hM : s.size = M + 1) : ∃ c r, bs s = c :: r ∧ (s.extract 0 1).toList = [c] ∧ bs (s.extract 1 (M + 1)) = r := by
  have hl : (bs s).length = M + 1 := by rw [bs_length, hM]
  cases hb : bs s with
  | nil => rw [hb] at hl; simp at hl
  | cons c r =>
    refine ⟨c, r, rfl, ?_, ?_⟩
    · rw [ByteArray.toList_eq]
      show bs (s.extract 0 1) = _
      rw [bs_extractA, hb]
      rfl
    · rw [bs_extractA, hb]
      rw [hb] at hl
      simp only [List.drop_succ_cons, List.drop_zero]
      exact List.take_of_length_le (by simp at hl; omega)
theorem rg_other {c : UInt8} {r : Bs} (h : c ≠ 114) : rgW (c :: r) = none := none_or fun n hn => h (List.cons.inj (rg_iff.1 hn).2).1

set_option maxRecDepth 100000 in
set_option maxHeartbeats 4000000 in
theorem wreg_any (E B : Nat) (ws : List Bs) (b : Bool) (w : World) (hL : LaidE E w) (hE : E ≤ B) (h : WdM B ws b w) :
    Calls Tryz.prog 125 #[.pointer (some ⟨B, 0, none⟩)] w (TakM B w .i64 (nxW ws).2 b (rgW (nxW ws).1)) := by
  have K := hidC (wnext_any B ws b w hL.laid h)
  have HL := hidC hL
  have HC : Hid (∀ U : ByteArray, bs U = (nxW ws).1 → U.size ≤ 4194304 → ∀ v, ∃ (d : Bool) (V : ByteArray), V.size ≤ 4194304 ∧ (rgW (nxW ws).1 = if d then numW (bs V) else none) ∧ Calls Tryz.prog 150 #[.string U, .string ⟨#[114]⟩] v fun e w' => e = .returned (.tuple #[.string V, .bool d]) ∧ w' = v) := fun U h1 h2 v => by
    rw [← h1]
    rcases Nat.eq_zero_or_pos U.size with hz | hp
    · refine ⟨false, U, h2, ?_, cutp_no U hz v⟩
      have : bs U = [] := List.length_eq_zero_iff.1 (by rw [bs_length, hz])
      rw [this]; rfl
    · obtain ⟨M, hM⟩ : ∃ M, U.size = M + 1 := ⟨U.size - 1, by omega⟩
      obtain ⟨c, r, e1, e2, e3⟩ := ext_one U M hM
      by_cases hc : c = 114
      · subst hc
        have k := cutp_yes U M hM (by omega) true (by rw [e2]; rfl) v
        rw [if_pos rfl] at k
        refine ⟨true, _, ?_, ?_, k⟩
        · rw [← bs_length, e3]
          have := bs_length U
          rw [e1] at this
          simp at this; omega
        · rw [e1, e3]; rfl
      · have k := cutp_yes U M hM (by omega) false (by rw [e2]; simpa using hc) v
        rw [if_neg (by decide)] at k
        exact ⟨false, U, h2, by rw [e1, rg_other hc]; rfl, k⟩
  clear h hL
  go_enter Tryz.func125, Tryz.ntmps125
  go_wp2_with (first
    | (go_at_call 118; (with_reducible refine K.out.mono ?_); rintro e w1 ⟨U, rfl, hU, hU2, h1, k1⟩; obtain ⟨d, V, hV, hrg, kc⟩ := HC.out U hU hU2 w1)
    | (go_at_call 150; (with_reducible refine kc.mono ?_); rintro e w1' ⟨rfl, rfl⟩)
    | (go_at_call 122; (with_reducible refine (whold_any B _ b _ _ h1).mono ?_); rintro e w2 ⟨rfl, h2, k2⟩)
    | (go_at_call 148; (with_reducible refine (wnumof_any B _ _ V hV _ ((HL.out.ofB hE k1).ofB hE k2).laid h2).mono ?_); rintro e w3 ⟨n, rfl, h3, h4, k3⟩))
  go_ret
  rw [hrg]
  cases d with
  | true =>
    refine ⟨n, rfl, ?_, ?_, (k1.trans k2).trans k3⟩
    · intro m hm; rw [if_pos rfl] at hm; exact h3 m hm
    · rw [if_pos rfl]
      have : (b || !true) = b := by cases b <;> rfl
      rw [this] at h4
      exact h4
  | false =>
    refine ⟨n, rfl, ?_, ?_, (k1.trans k2).trans k3⟩
    · intro m hm; rw [if_neg (by decide)] at hm; cases hm
    · rw [if_neg (by decide)]
      have : (b || !false || !(numW (bs V)).isSome) = (b || !(none : Option Int).isSome) := by cases b <;> rfl
      rw [this] at h4
      exact h4

end Go.Proofs.YtgcmnkanjcfndaaGreatDoor
/- Package asm: what the words of a list mean. -/
namespace Go.Proofs.YtgcmnkanjcfndaaGreatDoor
open Go.RowKit
set_option linter.unusedVariables false
set_option linter.unusedSimpArgs false

/-- What a word means by the first places of a list. -/
def meanA (L : List Bs) : Nat → Bs → Option Nat
  | 0, _ => none
  | k + 1, s => if s = (L[k]?).getD [] ∧ s ≠ [] then some k else meanA L k s
theorem bs_injA {a b : ByteArray} (h : bs a = bs b) : a = b := by
  cases a; cases b
  simpa [bs] using h
theorem mean_put {L : List Bs} {k : Nat} {T : ByteArray} (hT : bs T = (L[k]?).getD []) (hn : bs T ≠ []) :
    updF (fun j => (meanA L k (bs j)).map fun x => Value.int .i64 (x : Int)) T (.int .i64 (k : Int)) = fun j => (meanA L (k + 1) (bs j)).map fun x => Value.int .i64 (x : Int) := by
  funext j
  unfold updF
  by_cases h : j = T
  · subst h
    rw [if_pos rfl, meanA, if_pos ⟨hT, hn⟩]
    rfl
  · rw [if_neg h, meanA, if_neg (fun q => h (bs_injA (q.1.trans hT.symm)))]
theorem mean_skip {L : List Bs} {k : Nat} (hT : (L[k]?).getD [] = []) : meanA L (k + 1) = meanA L k := by
  funext s
  rw [meanA, if_neg (fun q => q.2 (q.1.trans hT))]

set_option maxRecDepth 100000 in
set_option maxHeartbeats 4000000 in
theorem mean_any (p : Nat) (L : List Bs) (hl : L.length ≤ 1000) (hs : ∀ x ∈ L, x.length ≤ 100) (w : World) (hr : w.rowIs p 9 L.length (fun i => .string (sof ((L[i]?).getD [])))) :
    Calls Tryz.prog 55 #[.slice (some ⟨p, 0, none⟩) L.length L.length] w fun e w' => ∃ C, e = .returned (.map (some C)) ∧ w.heap.size ≤ C ∧ MeanM w' C (meanA L L.length) ∧ Below w.heap.size w w' := by
  obtain ⟨N, hN⟩ : ∃ n, L.length = n := ⟨_, rfl⟩
  rw [hN] at hr ⊢
  have HL := hidC (And.intro hN (And.intro hl hs))
  have HR := hidC hr
  obtain ⟨W, hW⟩ : ∃ W, w.alloc (.map #[] 0) = W := ⟨_, rfl⟩
  have HB0 : Hid (Below w.heap.size w W) := by rw [← hW]; exact bel_alloc _ _
  have HM0 : Hid (MapF W w.heap.size 0 (fun _ => none)) := by rw [← hW]; exact MapF.new w
  clear hr hN hl hs
  have hmm := @run_makeMap Tryz.prog
  go_enter Tryz.func55, Tryz.ntmps55
  go_upto_block 0 with fail
  go_wp2_with fail
  go_loopw [9] (fun iv wx => ∃ k n : Nat, k ≤ N ∧ n ≤ k ∧ iv = .int .i64 (k : Int) ∧ Hid (MapF wx w.heap.size n (fun j => (meanA L k (bs j)).map fun x => Value.int .i64 (x : Int)) ∧ Below w.heap.size w wx)) (fun iv _ => N - (intOf iv).toNat)
  case atStart => exact ⟨0, 0, Nat.zero_le _, Nat.le_refl _, rfl, HM0.out, HB0.out⟩
  case round =>
    clear hW
    obtain ⟨k, n, hk, hn, rfl, HM⟩ := hrel
    by_cases hlt : k < N
    · have e1 : (k : Int) < (N : Int) := by omega
      obtain ⟨T, hT⟩ : ∃ T, sof ((L[k]?).getD []) = T := ⟨_, rfl⟩
      have hbT : bs T = (L[k]?).getD [] := by rw [← hT]; exact bs_of _
      have hcell := kc HM.out.2 (HR.out.cell (i := k) hlt)
      rw [hT] at hcell
      have hN1 : N ≤ 1000 := by have := HL.out.2.1; have := HL.out.1; omega
      have wk : IntKind.i64.wrap ((k : Int) + 1) = ((k + 1 : Nat) : Int) := by rw [IntKind.wrap_i64]; omega
      have i1 : (0 : Int) ≤ (k : Int) := by omega
      have hkl : k < L.length := by rw [HL.out.1]; exact hlt
      have hTs : T.size ≤ maxLen := by
        rw [← bs_length, hbT, List.getElem?_eq_getElem hkl]
        have := HL.out.2.2 _ (List.getElem_mem hkl)
        unfold maxLen
        simp only [Option.getD_some]
        omega
      have HTT := hidC (And.intro hbT hkl)
      have htl : T.toList = bs T := ByteArray.toList_eq T
      by_cases hz : bs T = []
      · have e2 : (T.toList == []) = true := by rw [htl, hz]; rfl
        have HZ := hidC hz
        clear hbT hT hTs hkl htl hz
        go_wp2_with fail
        go_roundw
        case rel => exact ⟨k + 1, n, hlt, by omega, by go_num, by rw [mean_skip (HTT.out.1.symm.trans HZ.out)]; exact HM.out.1, HM.out.2⟩
        case measure => simp [intOf]; omega
      · have e2 : (T.toList == []) = false := by rw [htl]; simpa using hz
        obtain ⟨w3, hrun, hm3, hg3⟩ := HM.out.1.put (by unfold maxLen; omega) Tryz.underlying65 hTs (.int .i64 (k : Int))
        rw [mean_put hbT hz] at hm3
        have HM3 := hidC hm3
        have HB3 : Hid (Below w.heap.size w w3) := HM.out.2.trans ⟨hg3.os, hg3.tape, hg3.output, hg3.size, fun j hj => hg3.block j (Nat.lt_of_lt_of_le hj HM.out.2.size) (fun q => by have := Option.some.inj q; omega)⟩
        clear hbT hT hTs hkl htl hz hm3 hg3
        go_wp2_with fail
        go_roundw
        case rel => exact ⟨k + 1, n + 1, hlt, by omega, by go_num, HM3.out, HB3.out⟩
        case measure => simp [intOf]; omega
    · have e1 : ¬ (k : Int) < (N : Int) := by omega
      have hkN : k = N := by omega
      subst hkN
      go_wp2_with fail
      go_ret
      exact ⟨_, rfl, Nat.le_refl _, ⟨n, HM.out.1⟩, HM.out.2⟩

end Go.Proofs.YtgcmnkanjcfndaaGreatDoor
