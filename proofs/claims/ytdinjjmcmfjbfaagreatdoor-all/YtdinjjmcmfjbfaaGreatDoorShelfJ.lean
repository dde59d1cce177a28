import Derived.Shelf.Strings.Builder1
import Derived.Shelf.Small.Utf8
import Derived.Shelf.Small.Bits
import Derived.Shelf.Small.Strs
import Derived.Shelf.Strings.BuilderF
import Derived.Shelf.Strings.BuilderK
import Derived.Shelf.Strconv.Itoa0
import Derived.Shelf.Strconv.Itoa1
import Derived.Shelf.LaysM
import Derived.Shelf.Strconv.Itoa2
import Derived.Shelf.Strconv.ParseIntEmpty
import Derived.Shelf.Strconv.Clone
import Derived.Shelf.Strconv.SyntaxError
import Derived.Shelf.LaysC
import Derived.Shelf.Strconv.ToError
import Derived.Shelf.Strconv.Lower
import Derived.Shelf.Strconv.ParseUint10
import Derived.Shelf.Strconv.ParseUint10Empty
import Derived.Shelf.Strconv.ParseUint10Any
import Derived.Shelf.Strconv.ParseInt10
import Derived.Shelf.Strconv.RangeError
import Derived.Shelf.Strconv.ToErrorRange
import Derived.Shelf.Strconv.ParseUintEmpty
import Derived.Shelf.Strconv.ParseUint10b64
import Derived.Shelf.Strconv.ParseUint10b32
import Derived.Shelf.Strconv.ParseUint10b16
import Derived.Shelf.Strconv.ParseUint10b8
import Derived.Shelf.Strconv.ParseUint10At
import Derived.Shelf.Strconv.ParseInt10At64
import Derived.Shelf.Strconv.ParseInt10At32
import Derived.Shelf.Strconv.ParseInt10At16
import Derived.Shelf.Strconv.ParseInt10At8
import Derived.Shelf.Strconv.ParseInt10All
import Derived.Shelf.Strconv.ParseIntPublic10
import Derived.Shelf.Strings.Search1
import Derived.Shelf.Strconv.AppendUint10
import Derived.Shelf.Strconv.AppendInt10
import Derived.Shelf.Strconv.AppendIntPublic10
import Derived.Test.YtdinjjmcmfjbfaaGreatDoorProg
set_option maxRecDepth 100000
/- The library functions' contracts at this seat, laid in plain words. -/
namespace Go.Proofs
open Go.Shelf Tryz
theorem xTs{α:Type}{a:Option α}{b c:α}(h:a=some b)(e:b=c:=by kernel_rfl):a=some c:=h.trans (congrArg some e)
def Tryz.lays169_ren:Ren:=⟨fun|169=>85|n=>n,fun|70=>177|9=>9|0=>0|72=>179|37=>149|127=>255|3=>3|5=>5|n=>n,fun|n=>n⟩
theorem Tryz.lays169:Lays.n169 prog Tryz.lays169_ren:=⟨by kernel_rfl,xTs func85,underlying0,isAgg0,sizeOf0,zeroValue0,underlying3,isAgg3,sizeOf3,zeroValue3,underlying9,isAgg9,sizeOf9,zeroValue9,underlying149,isAgg149,sizeOf149,zeroValue149,underlying177,isAgg177,sizeOf177,zeroValue177,underlying179,isAgg179,sizeOf179,zeroValue179,underlying255,isAgg255,sizeOf255,zeroValue255⟩
theorem Tryz.Builder_Extra_169:Builder.Extra prog Tryz.lays169_ren:={sizeBuilder:=by kernel_rfl,liesBuilder:=by kernel_rfl,t5:=underlying5,a5:=isAgg5,z5:=sizeOf5,v5:=zeroValue5,infoByte:=by kernel_rfl,cellsByte:=by kernel_rfl,sizeByte:=by kernel_rfl,neB5:=by decide}
def Tryz.lays137_ren:Ren:=⟨fun|137=>173|217=>174|266=>203|n=>n,fun|9=>9|5=>5|3=>3|n=>n,fun|n=>n⟩
theorem Tryz.lays137:Lays.n137 prog Tryz.lays137_ren:=⟨by kernel_rfl,xTs func173,xTs func174,xTs func203,underlying3,isAgg3,sizeOf3,zeroValue3,underlying5,isAgg5,sizeOf5,zeroValue5,underlying9,isAgg9,sizeOf9,zeroValue9⟩
open Go.RowKit in
theorem Tryz.strings_IndexByte (s:ByteArray) (c:Int) (w:World) :
 Calls prog 173 #[.string s,.int .u8 c] w fun e w' => e=.returned (.int .i64 (Lib.indexByte s.data.toList c.toNat.toUInt8)) ∧ w'=w:=Any.strings_IndexByte Tryz.lays137 s c w
open Go.RowKit in
theorem Tryz.Builder_String_any_k (B b:Nat) (l:List UInt8) (w:World) (h:Lib.IsBuilderF 179 5 B b (Lib.byteCells l) w) (hBw:B≤w.heap.size) :
 Calls prog 85 #[.pointer (some ⟨b,0,none⟩)] w fun e w' => e=.returned (.string ⟨l.toArray⟩) ∧ (Lib.IsBuilderF 179 5 B b (Lib.byteCells l) w' ∧ Below B w w' ∧ Lib.OthersKept 5 (some b) w w'):=Any.Builder_String_any_k Tryz.lays169 Tryz.Builder_Extra_169 B b l w h hBw
def Tryz.laysM316_ren:Ren:=⟨fun|316=>159|n=>n,fun|9=>9|3=>3|4=>4|37=>149|0=>0|127=>255|5=>5|n=>n,fun|n=>n⟩
theorem Tryz.laysM316:LaysM.n316 prog Tryz.laysM316_ren:={mixed:=by kernel_rfl,f316:=xTs func159,t0:=underlying0,a0:=isAgg0,z0:=sizeOf0,v0:=zeroValue0,t3:=underlying3,a3:=isAgg3,z3:=sizeOf3,v3:=zeroValue3,t4:=underlying4,a4:=isAgg4,z4:=sizeOf4,v4:=zeroValue4,t9:=underlying9,a9:=isAgg9,z9:=sizeOf9,v9:=zeroValue9,t37:=underlying149,a37:=isAgg149,z37:=sizeOf149,v37:=zeroValue149,t127:=underlying255,a127:=isAgg255,z127:=sizeOf255,v127:=zeroValue255,t5:=underlying5,a5:=isAgg5,z5:=sizeOf5,v5:=zeroValue5,i0:=by kernel_rfl,i3:=by kernel_rfl,i4:=by kernel_rfl,i5:=by kernel_rfl,i9:=by kernel_rfl,i37:=by kernel_rfl,i127:=by kernel_rfl}
open Go.RowKit in
theorem Tryz.stringslite_Clone (s:ByteArray) (w:World) (hlim:s.size≤281474976710656) :
 Calls prog 159 #[.string s] w fun e w' => e=.returned (.string s) ∧ Below w.heap.size w w':=Any.stringslite_Clone Tryz.laysM316 s w hlim
def Tryz.laysC245_ren:Ren:=⟨fun|245=>202|279=>218|280=>219|281=>220|282=>221|316=>159|171=>230|205=>229|243=>232|246=>233|283=>196|284=>197|285=>198|286=>199|129=>189|317=>213|318=>214|319=>215|320=>216|337=>225|338=>226|n=>n,fun|9=>9|3=>3|75=>181|167=>355|4=>4|168=>358|210=>365|37=>149|0=>0|127=>255|145=>371|143=>369|2=>2|171=>337|53=>300|5=>5|173=>339|212=>352|51=>315|20=>20|213=>353|46=>290|232=>367|233=>368|80=>89|n=>n,fun|15=>2|16=>3|17=>1|18=>4|19=>5|n=>n⟩
def Tryz.laysC174_ren:Ren:=⟨fun|174=>162|247=>201|245=>202|287=>217|279=>218|280=>219|281=>220|282=>221|321=>227|322=>228|316=>159|171=>230|205=>229|243=>232|246=>233|283=>196|284=>197|285=>198|286=>199|129=>189|317=>213|318=>214|319=>215|320=>216|337=>225|338=>226|n=>n,fun|9=>9|3=>3|2=>2|75=>181|85=>303|4=>4|167=>355|5=>5|53=>300|175=>356|46=>290|168=>358|37=>149|0=>0|210=>365|21=>21|127=>255|145=>371|143=>369|171=>337|173=>339|212=>352|51=>315|20=>20|213=>353|232=>367|233=>368|80=>89|n=>n,fun|15=>2|16=>3|17=>1|18=>4|19=>5|n=>n⟩
theorem Tryz.laysC174:LaysC.n174 prog Tryz.laysC174_ren:={mixed:=by kernel_rfl,f129:=xTs func189,f171:=xTs func230,f174:=xTs func162,f205:=xTs func229,f243:=xTs func232,f245:=xTs func202,f246:=xTs func233,f247:=xTs func201,f279:=xTs func218,f280:=xTs func219,f281:=xTs func220,f282:=xTs func221,f283:=xTs func196,f284:=xTs func197,f285:=xTs func198,f286:=xTs func199,f287:=xTs func217,f316:=xTs func159,f317:=xTs func213,f318:=xTs func214,f319:=xTs func215,f320:=xTs func216,f321:=xTs func227,f322:=xTs func228,f337:=xTs func225,f338:=xTs func226,t0:=underlying0,a0:=isAgg0,z0:=sizeOf0,v0:=zeroValue0,t2:=underlying2,a2:=isAgg2,z2:=sizeOf2,v2:=zeroValue2,t3:=underlying3,a3:=isAgg3,z3:=sizeOf3,v3:=zeroValue3,t4:=underlying4,a4:=isAgg4,z4:=sizeOf4,v4:=zeroValue4,t5:=underlying5,a5:=isAgg5,z5:=sizeOf5,v5:=zeroValue5,t9:=underlying9,a9:=isAgg9,z9:=sizeOf9,v9:=zeroValue9,t20:=underlying20,a20:=isAgg20,z20:=sizeOf20,v20:=zeroValue20,t21:=underlying21,a21:=isAgg21,z21:=sizeOf21,v21:=zeroValue21,t37:=underlying149,a37:=isAgg149,z37:=sizeOf149,v37:=zeroValue149,t46:=underlying290,a46:=isAgg290,z46:=sizeOf290,v46:=zeroValue290,t51:=underlying315,a51:=isAgg315,z51:=sizeOf315,v51:=zeroValue315,t53:=underlying300,a53:=isAgg300,z53:=sizeOf300,v53:=zeroValue300,t75:=underlying181,a75:=isAgg181,z75:=sizeOf181,v75:=zeroValue181,t85:=underlying303,a85:=isAgg303,z85:=sizeOf303,v85:=zeroValue303,t127:=underlying255,a127:=isAgg255,z127:=sizeOf255,v127:=zeroValue255,t143:=underlying369,a143:=isAgg369,z143:=sizeOf369,v143:=zeroValue369,t145:=underlying371,a145:=isAgg371,z145:=sizeOf371,v145:=zeroValue371,t167:=underlying355,a167:=isAgg355,z167:=sizeOf355,v167:=zeroValue355,t168:=underlying358,a168:=isAgg358,z168:=sizeOf358,v168:=zeroValue358,t171:=underlying337,a171:=isAgg337,z171:=sizeOf337,v171:=zeroValue337,t173:=underlying339,a173:=isAgg339,z173:=sizeOf339,v173:=zeroValue339,t175:=underlying356,a175:=isAgg356,z175:=sizeOf356,v175:=zeroValue356,t210:=underlying365,a210:=isAgg365,z210:=sizeOf365,v210:=zeroValue365,t212:=underlying352,a212:=isAgg352,z212:=sizeOf352,v212:=zeroValue352,t213:=underlying353,a213:=isAgg353,z213:=sizeOf353,t232:=underlying367,a232:=isAgg367,z232:=sizeOf367,v232:=zeroValue367,t233:=underlying368,a233:=isAgg368,z233:=sizeOf368,v233:=zeroValue368,g15:=by kernel_rfl,g16:=by kernel_rfl,g17:=by kernel_rfl,g18:=by kernel_rfl,g19:=by kernel_rfl,t80:=underlying89,a80:=isAgg89,z80:=sizeOf89,v80:=zeroValue89,i0:=by kernel_rfl,i2:=by kernel_rfl,i3:=by kernel_rfl,i4:=by kernel_rfl,i5:=by kernel_rfl,i9:=by kernel_rfl,i20:=by kernel_rfl,i21:=by kernel_rfl,i37:=by kernel_rfl,i46:=by kernel_rfl,i51:=by kernel_rfl,i53:=by kernel_rfl,i75:=by kernel_rfl,i80:=by kernel_rfl,i85:=by kernel_rfl,i127:=by kernel_rfl,i143:=by kernel_rfl,i145:=by kernel_rfl,i167:=by kernel_rfl,i168:=by kernel_rfl,i171:=by kernel_rfl,i173:=by kernel_rfl,i175:=by kernel_rfl,i210:=by kernel_rfl,i212:=by kernel_rfl,i232:=by kernel_rfl,i233:=by kernel_rfl,m15:=by kernel_rfl,m16:=by kernel_rfl,m17:=by kernel_rfl,m18:=by kernel_rfl,m19:=by kernel_rfl,c0:=by kernel_rfl,c2:=by kernel_rfl,c3:=by kernel_rfl,c4:=by kernel_rfl,c5:=by kernel_rfl,c9:=by kernel_rfl,c20:=by kernel_rfl,c21:=by kernel_rfl,c37:=by kernel_rfl,c46:=by kernel_rfl,c51:=by kernel_rfl,c53:=by kernel_rfl,c75:=by kernel_rfl,c80:=by kernel_rfl,c85:=by kernel_rfl,c127:=by kernel_rfl,c143:=by kernel_rfl,c145:=by kernel_rfl,c167:=by kernel_rfl,c168:=by kernel_rfl,c171:=by kernel_rfl,c173:=by kernel_rfl,c175:=by kernel_rfl,c210:=by kernel_rfl,c212:=by kernel_rfl,c213:=by kernel_rfl,c232:=by kernel_rfl,c233:=by kernel_rfl}
open Go.RowKit in
theorem Tryz.strconv_ParseInt_10_at64_ok (s:ByteArray) (hmax:s.size≤9223372036854775806) (v:Int) (h:Lib.parseIntB 64 s.data.toList=.ok v) (w:World) :
 Calls prog 162 #[.string s,.int .i64 10,.int .i64 64] w fun e w' => e=.returned (.tuple #[.int .i64 v,.nilIface]) ∧ (w'=w ∨ ∃ t,w'=Lib.bytesWorld w 5 t):=Any.strconv_ParseInt_10_at64_ok Tryz.laysC174 s hmax v h w
def Tryz.laysM288_ren:Ren:=⟨fun|288=>158|283=>196|284=>197|285=>198|286=>199|129=>189|317=>213|318=>214|319=>215|320=>216|337=>225|338=>226|n=>n,fun|37=>149|53=>300|3=>3|4=>4|9=>9|171=>337|0=>0|173=>339|212=>352|51=>315|5=>5|20=>20|213=>353|46=>290|232=>367|233=>368|n=>n,fun|17=>1|18=>4|19=>5|n=>n⟩
def Tryz.laysM249_ren:Ren:=⟨fun|249=>122|288=>158|283=>196|284=>197|285=>198|286=>199|129=>189|317=>213|318=>214|319=>215|320=>216|337=>225|338=>226|n=>n,fun|37=>149|2=>2|3=>3|53=>300|4=>4|9=>9|171=>337|0=>0|173=>339|212=>352|51=>315|5=>5|20=>20|213=>353|46=>290|232=>367|233=>368|n=>n,fun|17=>1|18=>4|19=>5|n=>n⟩
def Tryz.laysM176_ren:Ren:=⟨fun|176=>72|249=>122|288=>158|283=>196|284=>197|285=>198|286=>199|129=>189|317=>213|318=>214|319=>215|320=>216|337=>225|338=>226|n=>n,fun|37=>149|2=>2|3=>3|53=>300|4=>4|9=>9|171=>337|0=>0|173=>339|212=>352|51=>315|5=>5|20=>20|213=>353|46=>290|232=>367|233=>368|n=>n,fun|17=>1|18=>4|19=>5|n=>n⟩
theorem Tryz.laysM176:LaysM.n176 prog Tryz.laysM176_ren:={mixed:=by kernel_rfl,f129:=xTs func189,f176:=xTs func72,f249:=xTs func122,f283:=xTs func196,f284:=xTs func197,f285:=xTs func198,f286:=xTs func199,f288:=xTs func158,f317:=xTs func213,f318:=xTs func214,f319:=xTs func215,f320:=xTs func216,f337:=xTs func225,f338:=xTs func226,t0:=underlying0,a0:=isAgg0,z0:=sizeOf0,v0:=zeroValue0,t2:=underlying2,a2:=isAgg2,z2:=sizeOf2,v2:=zeroValue2,t3:=underlying3,a3:=isAgg3,z3:=sizeOf3,v3:=zeroValue3,t4:=underlying4,a4:=isAgg4,z4:=sizeOf4,v4:=zeroValue4,t5:=underlying5,a5:=isAgg5,z5:=sizeOf5,v5:=zeroValue5,t9:=underlying9,a9:=isAgg9,z9:=sizeOf9,v9:=zeroValue9,t20:=underlying20,a20:=isAgg20,z20:=sizeOf20,v20:=zeroValue20,t37:=underlying149,a37:=isAgg149,z37:=sizeOf149,v37:=zeroValue149,t46:=underlying290,a46:=isAgg290,z46:=sizeOf290,v46:=zeroValue290,t51:=underlying315,a51:=isAgg315,z51:=sizeOf315,v51:=zeroValue315,t53:=underlying300,a53:=isAgg300,z53:=sizeOf300,v53:=zeroValue300,t171:=underlying337,a171:=isAgg337,z171:=sizeOf337,v171:=zeroValue337,t173:=underlying339,a173:=isAgg339,z173:=sizeOf339,v173:=zeroValue339,t212:=underlying352,a212:=isAgg352,z212:=sizeOf352,v212:=zeroValue352,t213:=underlying353,a213:=isAgg353,z213:=sizeOf353,t232:=underlying367,a232:=isAgg367,z232:=sizeOf367,v232:=zeroValue367,t233:=underlying368,a233:=isAgg368,z233:=sizeOf368,v233:=zeroValue368,g17:=by kernel_rfl,g18:=by kernel_rfl,g19:=by kernel_rfl,i0:=by kernel_rfl,i2:=by kernel_rfl,i3:=by kernel_rfl,i4:=by kernel_rfl,i5:=by kernel_rfl,i9:=by kernel_rfl,i20:=by kernel_rfl,i37:=by kernel_rfl,i46:=by kernel_rfl,i51:=by kernel_rfl,i53:=by kernel_rfl,i171:=by kernel_rfl,i173:=by kernel_rfl,i212:=by kernel_rfl,i232:=by kernel_rfl,i233:=by kernel_rfl,m17:=by kernel_rfl,m18:=by kernel_rfl,m19:=by kernel_rfl}
open Go.RowKit Go.Sort Go.Lib in
theorem Tryz.strconv_AppendInt_10 (B n:Nat) (i:Int) (h0:-9223372036854775808≤i) (h1:i≤9223372036854775807) (sv:Value) (xs:List Value) (w:World) (hown:w.ownsRow B 5 1 sv n xs) (hBw:B≤w.heap.size) (hlim:n + 21≤140737488355328) (htab:Lib.TabBelow prog B w "internal/strconv.uint64pow10" .u64 Lib.pow10Tab) :
 Calls prog 72 #[sv,.int .i64 i,.int .i64 10] w fun e w' => ∃ v',e=.returned v' ∧ w'.ownsRow B 5 1 v' (n + (Lib.itoa i).length) (xs ++ Lib.byteCells (Lib.itoa i)) ∧ Below B w w' ∧ Lib.OthersKept 5 none w w':=Any.strconv_AppendInt_10 Tryz.laysM176 B n i h0 h1 sv xs w hown hBw hlim htab
end Go.Proofs
